import PyProof.Rows.All
import Wide.All
import OpenK.AllK
import Wide.FinOn
import Lean
import PyProof.EqAt
import PyProof.EqKinds
import PyProof.TupleCall
import PyProof.StrLawsChain
import PyProof.StrLawsFirst
import PyProof.Rows.StrNews2
import OpenK.AllK
import PySem.SetOps
import PyProof.DictItems
import OpenK.AllK
import PyProof.StationsW
import PyProof.ExcBaseAll.ValueError
import PyProof.RulesAs
import PyProof.NsDelKeeps
import OpenK.AllK
import PyProof.ExcArgsOwn
import PyProof.ExcAttrAll.ValueError
import PyProof.IsiBase
import PyProof.ReprBulk
import PySem.Challenge.RW_primer_k34_free_or_must
set_option Elab.async false
set_option linter.all false
set_option bootstrap.genMatcherCode false
set_option maxRecDepth 100000
set_option maxHeartbeats 4000000
set_option genInjectivity false
set_option genSizeOf false
set_option autoImplicit true
set_option relaxedAutoImplicit true
open Option renaming some->a5,none->b6,map_eq_some_iff->et,bind_eq_some_iff->ro,isNone_iff_eq_none->SM,isSome_iff_exists->Tf,map_eq_none_iff->TQ,map_some->T9,isSome_map->V1,getD_none->Ú
open Bool renaming true->bD,and_eq_true->cb,false->cc,false_ne_true->i7,not_eq_true'->td,and_eq_true_iff->D7,eq_iff_iff->Lo,false_eq_true->Ma,or_eq_true->Mt,and_false->U2,or_false->YY,false_and->ē,not_true->Ģ,and_true->ģ,and_self->Ĥ
open PySem renaming wpAny_bind->b8,sizeLine->cL,wpAny_pure->df,Value->dV,wpAny->d3,Shared->d6,Addr->d8,model->eH,starEach->hZ,mainGlobals->i9,Expr->kr,wpAny_setState_of->mh,wpAny_mono->mA,wpAny_Call_Name_kw->tr,bootBuiltins->t5,wpAny_holding->t6,rawInt->u7,Program->va,eval->ve,wpAny_newObj_type->wk,World->w6,scanBound->D8,backTo->Kg,wpAny_truthy_bool->Ku,isSubtype_type->Kv,Heap->KX,wpAny_call_entry->K',codeAny_builtin->LF,cLine->Mg,Scope->MH,keywordEach->MN,foldedSetIterable->MR,Stmt->M',holding->NJ,wpAny_setField->NQ,Around->N5,sysModules->Oq,Builtin->Ot,wpAny_passesOwn->OD,call->OS,isSubtype->OZ,compareOp->O0,builtinLookup_eq_fast->O4,Keyword->O6,wpAny_rule->PL,binaryOp->PM,SetTable->PU,NameKind->PX,wpAny_isInstance->PY,swapsWith->PZ,wpAny_pyIter_tuple->QV,tupleKind_room_in1->Q0,assignEach->Q2,wpAny_getItem_str_slice->Rb,wpAny_callSpecial?_slot->Rf,wpAny_loadPart_at->Rp,codeAny->Rq,backToKw->Rw,wpAny_askSetting->RV,typeLookup->RY,swapsWithSole->R',behindInMarks->Sa,sliceBounds->Sq,wpAny_updateSeq->SX,wpAny_execs_nil->S0,typeLookup_type->S9,wpAny_setEntries_of->Ta,codeAny_mono->Th,call_meets->Tw,assign->Tx,FuncData->TL,plainId_quiet->Uc,attributeBase->Ur,wpAny_Call_method0_late->UM,setItem->U3,relabel->U9,pyNext->U_,notedBy->Vb,callerA->Vc,wpAny_specialOf->Vr,wpAny_loadPart'->Vu,post_val_or_str->Vv,letOwnedTupleGo->VE,call_isinstance->VF,wpAny_seqItems->V4,wpAny_field->V5,firstArgMember->V_,codeAny_call_builtin->Wb,Params->Wd,tupleKind->Wr,swappedStores->WI,wpAny_typeOf->W_,wpAny_storeSet_of->W',wpAny_setEpoch_of->Xg,wpAny_pyIter_list->Xn,wpAny_pyIter_enum->Xo,valueAt->Xr,sub_set_self->Xs,setNext->Xt,setField->Xu,release->Xv,getItem->XB,fits_of_scanBound->XC,concat_meets->XD,compEnvC->XE,call_meetsIn->XG,seqIndex?->X3,pickOrder->X',noFill_tuple_add->Yf,checkBuiltinCall->Yl,PassesOwn->Ym,wpAny_of_eq->YF,unsupported->YG,subscripted->YH,standAt->Zc,wpAny_runValue->Zh,typeIs_str->Zt,relayAll->Zu,raiseNew->ZO,pyIter->ZS,entryFor_alias->ZT,atKey->Z2,GenState->Z3,wpAny_standAt->Ë,wpAny_newList->Ì,wpAny_comprehension_free->Í,seq_tuple_add->Î,seqItems?->Õ,bindL->Ö,bindC->Ø,wpAny_Call_method_late->Ý,typeOf->Þ,setNextDrawn->ß,newExc->à,collect->á,IsEnum->æ,BindsTo->é,wpAny_isTrue_Compare1->ó,wpAny_pyIter_revIter->ü,step->ý,sizeLine_eq->þ,seqIndex_of->ÿ,rule->Ā,entryFor->ā,codeAny_extend_loopS->Ă,Operator->ă,wpAny_load->Ĕ,wpAny_call->ĕ,wpAny_Name->Ė,setsByText->ė,builtinsNs->Ę,WalksS->ę,JoinOk->ě,wpAny_pyIter_slot->ĥ,wpAny_assign_Name->Ħ,wpAny_Assign_Name->ħ,spliced->Ĩ,slot_list_getitem->ĩ,newList->Ī,ItemsOf->ı,CmpOp->Ĵ,wpAny_setScan_of->ĸ,wpAny_execs_cons->Ĺ,wpAny_eqBool_str->ĺ,wpAny_eqBool_int->Ļ,updateSeq->ļ,setDiscardHashed->Ľ,meets_dict_items->ľ,cellsFrom->Ŀ,codeAny_of_tree->ň,wpAny_Expr_any->ŏ,truthy->Ő,recursionLimit->ő,newTuple->Œ,isSubtype_stop->œ,field->Ŕ,bindArgs->ŕ,augStore->Ŗ,argsOk->ŗ,again->Ř
open Decidable renaming decide->cK
open PySem.Heap renaming get?_push_of_some->c2,lt_size->ez,get?_push_size->fx,SameBut->nc,get?_update_self->t7,get?_update_other->NM,get?_update_ne->Pn,size_push->XX,ExtBut->Ł
open List renaming length_map->c4,getElem?_eq_some_iff->dt,map_cons->d4,getElem?_set_self->d5,mem_cons->d7,length_append->gc,size_toArray->gj,range->gs,getElem?_set_ne->hH,mem_append->hQ,mem_singleton->hY,nil_append->i0,replicate->i1,getElem?_map->i2,map_append->i3,map_map->i6,all_eq_true->i8,length_cons->js,mem_map->ki,getElem?_eq_getElem->kj,mem_cons_of_mem->ko,nodup_cons->l0,mem_of_getElem?->l',mem_cons_self->mf,mem_append_right->mx,mem_filter->my,getElem?_append_right->qs,nodup_append->rr,length_filter_le->sx,lookup_cons->tA,append_nil->t4,map_congr_left->t8,getElem?_append_left->u3,mem_range->u5,not_mem_nil->vl,length_range->vu,length_singleton->wh,length_take->zy,length->C0,isEmpty_iff->C1,filter_cons->DD,map_nil->Kb,filterMap_cons->Kp,getElem?_replicate->Lk,getElem_mem->LL,getElem?_drop->LU,filter_sublist->MV,ext_getElem->M7,filter_eq_nil_iff->NP,find?_cons->N',perm_ext_iff_of_nodup->O1,map_reverse->O9,getD->O',length_reverse->Pz,filter_eq_self->PK,zip_cons_cons->P7,mem_filterMap->P',filter_append->Ql,filter_cons_of_pos->QF,filter_cons_of_neg->QH,take_of_length_le->QQ,map->QR,eraseIdx_eq_take_drop_succ->Rh,length_replicate->Rm,getElem?_eq_none->Rn,mem_append_left->RN,of_mem_zip->RS,filter_nil->RU,getElem_of_mem->R0,pairwise_cons->SV,reverse_cons->Tn,mem_reverse->TR,length_eq_zero_iff->TU,getElem?_cons_succ->TV,eraseIdx_cons_succ->TZ,any_eq_true->T1,length_eq_one_iff->Ub,length_nil->Uv,foldl_cons->Uy,mem_iff_getElem?->UC,nodup_nil->U0,getElem?_zipIdx->U1,mem_map_of_mem->VM,any_cons->VO,findIdx?_eq_some_iff_getElem->Wh,flatten_cons->Wv,all_map->Ww,eraseIdxIfInBounds_toArray->WH,getElem_map->WQ,length_zip->WV,forIn_cons->WX,drop_left'->WY,dropLast_concat_getLast->W9,getD_eq_getElem?_getD->X0,findIdx?_eq_none_iff->Yw,drop_eq_getElem_cons->YD,length_erase_of_mem->YJ,getElem?_take_of_lt->YO,findIdx?->YP,length_pos_of_mem->Zf,getElem?_reverse->Á,dropLast_eq_take->Â,mem_iff_getElem->Ç,mem_erase_of_ne->È,map_id->É,length_eraseIdx->Ê,length_pos_iff->Ð,flatten_append->Ñ,map_singleton->Û,take_sublist->ï,filter_congr->ð,ext_getElem?->ñ,append_assoc->ò,mem_toArray->õ,map_fst_zip->ö,length_drop->ø,getElem_inj->ù,drop_length->ú,cons_append->û,range_succ->Ċ,length_set->ċ,forIn_nil->Ē,map_take->ğ,map_drop->Ġ,all_cons->ġ,set_set->ĵ,range'->Ņ
open Array renaming length_toList->hU,getElem?_toList->r6,getElem?_eq_getElem->Ph,size_map->SA,getD->VP,forIn_toList->VQ,size_append->Wl,toList->Y6,toList_extract->Ã,toArray_toList->Ä,append_assoc->Ô,toList_push->Ü
open Nat renaming le_refl->hV,ne_of_lt->hW,lt_of_lt_of_le->i5,zero_le->ke,lt_irrefl->uv,le_trans->vr,ne_of_gt->K2,le_succ->ME,lt_succ_self->Pj,zero_add->Q7,le_of_lt->Q8,lt_succ_of_lt->Tv,lt_trans->WA,le_of_eq->WG,mod_lt->Yv,add_sub_cancel_left->Ze,succ_pos->À,lt_of_le_of_lt->î,not_lt_of_lt->ĉ,add_zero->ń
open PySem.Value renaming ref->lg,none->nH,type->sL,str->uk,bool->OW,builtin->Ti,isStrOf->VG,isStrOf_shape->Å,int->ã,isInt->Į
open Sum renaming inr->mu,inl->Wx
open PySem.Str renaming empty->mN,ofString->Su,length->Ŝ
open Ne renaming symm->nC
open PySem.Obj renaming mapSeq->ri,data_mapFields->N0,putSet->QD,isFreed_of_fields->UT,cls_mapFields->Wz,mapFields->į
open Option.some renaming inj->ti,injEq->RP
open Int renaming eq_ofNat_of_zero_le->tj,toNat_natCast->Ra,emod_nonneg->R3,emod_lt_of_pos->S_,le_trans->Ň
open PySem.Builtin.List renaming listExtendWith->tv,listTooLong->LS,listSameRef->Ou,listLengthHint->VN,listItems->WM,listUpdate->Ŋ
open PySem.SetTable.layClean renaming free->u6
open PySem.Heap.SameBut renaming update->x2,refl->KG
open PyProof.Rows renaming seqObj->x3,callWith_type1->K5,size_push'->Ms,callWith_builtin1->P4,StrsAre->Rx,AllBare->Ua,envOfC->Vq,subscriptTail->WN,listUpdate_at->WO,subscriptTail_builtinR->ê,listItems_at->ë,IntsAre->í,seqEpoch_at->Ĉ,sortedHeap->ĝ,Subscript_->Ğ,slot_str_getitem->Ń,joinParts_consE->ŋ,get?_update_seq->Ō,entry_list_sort->ō,call_isinstance_yes->Ŏ,sortedHeap_old->Ş,slot_list_sort->ş,joinParts_cons->Š,isTrue_and_nil->š,args_list_sort->Ţ,IsTup->ţ
open PySem.Calls renaming callWith_builtin->H8,evalArgs_plain->Mq,spliced_cons->Nh,spliced_nil->QJ,Name_function_global->XI,call_function_entry->XY
open PySem.Builtin.Frozenset renaming isAnySet->K1,difference->P2,sizeOf->Rj,differenceUpdate->Tj,unchanged->UB,copyOf->Vl,baseOf->Vn,addrOf->Vo,slot1->VH,updateFrom->ą,slot0->Ć,newClass->ć
open PySem.Builtin.SmallTypes renaming nextOf->Lf
open PySem.SetTable renaming sizeAbove->LC,below->MF,grown->Om,bits->O5,eraseAt->QP,turns->RO,layClean->Sw,fits->SD,laid->UQ,runEnd->Ws,relaid->Wt,fill->WS,orStandIn->Zd,fresh->Ù,leap->ä,drop->å
open PySem.NameKind renaming free->Nc
open False renaming elim->Ni
open PyProof.Rows.F renaming plain_set_update_loop->N8,entry_set_update_loop->Ts
open List.Perm renaming refl->Ol,swap->Ò,cons->Ó
open PySem.Around renaming under_plainId->Ox
open PySem.W renaming kas_sort->OT,looks_findIn->â,kas_ask->ī,Looks->ĭ,subIn->ř,findIn->Ś
open PySem.AutoSeq1 renaming wpAny_loadPart'->O8,sub_tuple_tuple->WU,sub_tuple_list->XJ,sub_list_tuple->XM,sub_list_list->XZ,idx_int->Æ
open ForInStep renaming yield->Pe
open PySem.PyData renaming keyHash->QI
open List.cons renaming injEq->Ro
open LT renaming lt->RA
open Classical renaming byContradiction->R6
open ToString renaming toString->Si
open PySem.Shared renaming TypeIs->Tc
open PySem.SeqAt renaming EqAt->T5,ne_of_list_tuple->Y0,RcAt->Ï,RcNeAt->Ě
open True renaming intro->T_
open PySem.Data renaming fields->UW,cell->Y2
open PySem.Txt renaming join->Vf
open PySem.F renaming typeOf_object_class->Vg,slot_gs_get->Z_,excBase_ValueError->ç,args_list_extend_2->è,entry_list_extend->ô,slot_list_extend->Ą,attr_ValueError->č,entry_list_pop->Ĝ,slot_list_pop->ĳ
open PySem.Code renaming quiet_builtin->VS
open Sum.inr renaming inj->Wq
open PySem.pickOrder renaming go->Xz
open PySem.SetTable.below renaming go->XH
open Prod.mk renaming injEq->XU
open PySem.SeqAt.EqAt renaming bool_bool->XW
open List.Sublist renaming refl->YE
open List.Nodup renaming sublist->YX
open PyProof.Rows.IsTup renaming new->ì
open PySem.ItemsOf renaming nil->Č
open PyProof.Rows.LSm renaming range_all->Ď,kept_iter->ď
open Prod renaming fst->Đ,ext->đ
open PySem.W.WShape renaming has->Ĭ
open PySem.Moved renaming trans->İ
open PySem.Heap.IsSliceOf renaming new->Ĳ
open LE renaming le->Ķ
open ForIn renaming forIn->ķ
open PySem.Walks renaming list->ŀ
open PySem.Builtin.Range renaming rangeSize->ł
open List.Pairwise renaming nil->ņ
open PySem.W.WData renaming int->ŉ
open PySem.W.Looks renaming ld->ś
open PySem.Heap.DictOf renaming new->ŝ
abbrev Ť:=@decide_eq_true_eq
abbrev ť:=@if_pos
abbrev Ŧ:=@if_neg
abbrev ŧ:=@decide_eq_false
abbrev Ũ:=@decide_eq_true
abbrev ũ:=@of_decide_eq_true
abbrev Ū:=@congrArg
abbrev ū:=@beq_eq_false_iff_ne
local macro_rules|`(def $a:declId $b* : $t :=$v)=>`(theorem $a:declId $b* : $t :=$v)
local macro_rules|`(abbrev $a:declId $b:optDeclSig $c:declVal)=>`(noncomputable def $a:declId $b:optDeclSig $c:declVal)
local macro_rules|`(tactic|show $t)=>`(tactic|refine $t)
local macro_rules|`(tactic|have⟨$a,*⟩:=$t)=>do let p<-a.getElems.mapM fun x=>`(Lean.Parser.Tactic.rcasesPatLo|$(⟨x⟩):ident);`(tactic|obtain⟨$p,*⟩:=$t)
local macro_rules|`(⋯)=>`(by lia)
local macro_rules|`(∅)=>`(by(first|exact trivial|exact⟨⟨_,rfl,rfl⟩,trivial⟩|exact⟨⟨_,rfl,rfl⟩,⟨_,rfl,rfl⟩,trivial⟩))
namespace K
open PySem PySem.W PyProof.Rows
abbrev vw:va:=view PySem.Challenge.pw_primer_k34_free_or_must [11,12,13,15,16,17,18,19,20,21,23,25,26,27,29,30,31,32,33,34,35,36,37,38,39,40,41,42,43,44,45]
abbrev lo:List Str:=["PrimerError","NoText","Unfit","Unknown","Unlearnt","TooMany","Lacking","NoRow","NoDeed"]
noncomputable abbrev xt(s:d6):Bool:=xlAt vw [] s&&recOk (RowW.records PySem.Challenge.rw_primer_k34_free_or_must.row.toRowW) s
noncomputable abbrev oe(w:w6):Option d6:=openEnds treeTable PySem.Challenge.rw_primer_k34_free_or_must.row.prog w 4000
noncomputable abbrev os(s:d6):=openSeen vw lo (importedModules PySem.Challenge.rw_primer_k34_free_or_must.row.prog.main.body) xt bD s
def MT(w:w6):(oe w).map (λs=>(os s).1)=a5 (openGood vw lo).1:=by kernel_rfl
def Nl(w:w6):(oe w).map (λs=>(os s).2)=a5 (openGood vw lo).2:=by kernel_rfl
end K
namespace L2
open PySem PySem.Spec PyProof.Rows
@[reducible]def Key:=Sum Int Str
abbrev jV:Key->dV->Bool
 |.inl k,v=>Į k v
 |.inr x,v=>VG x v
abbrev I0(w:w6):Key->Int
 |.inl k=>hashInt k
 |.inr x=>hashStr w x
theorem bq:∀{k:Key}{v:dV},jV k v=bD->(∃i t,k=Wx i/\v=ã i t)\/(∃x t,k=mu x/\v=uk x t)
 |.inl i,v,h=>by
  have⟨t,e⟩:=Value.isInt_shape (k:=i) (v:=v) h;show .inl ⟨i,t,rfl,e⟩
 |.inr x,v,h=>by
  have⟨t,e⟩:=Å (x:=x) (v:=v) h;show .inr ⟨x,t,rfl,e⟩
def v7(i:Int)(t:Tok):jV (.inl i) (.int i t)=bD:=by simp[jV,Į]
def v8(x:Str)(t:Tok):jV (.inr x) (.str x t)=bD:=by simp[jV,VG]
def Eo(a b:Int):cK ((Wx a:Key)=Wx b)=(a==b):=by
 by_cases e:a=b
 .subst e;simp
 .have h:¬(Wx a:Key)=Wx b:=λq=>e (Sum.inl.inj q);rw[ŧ h];show(ū.mpr e).symm
def Ep(a b:Str):cK ((mu a:Key)=mu b)=cK (a=b):=by
 by_cases e:a=b
 .subst e;simp
 .have h:¬(mu a:Key)=mu b:=λq=>e (Wq q);rw[ŧ h,ŧ e]
def Er(a:Int)(b:Str):cK ((Wx a:Key)=mu b)=cc:=ŧ (λq=>nomatch q)
def Es(a:Str)(b:Int):cK ((mu a:Key)=Wx b)=cc:=ŧ (λq=>nomatch q)
abbrev aS(prog:va)(w:w6):PySem.KeyKind prog w Key where
 is:=jV
 hash:=I0 w
 inj:=λv a b g f=>by
  rcases bq g with⟨i,t,rfl,rfl⟩|⟨x,t,rfl,rfl⟩
  .rcases bq f with⟨j,u,rfl,e⟩|⟨y,u,rfl,e⟩
   .injection e with c _;rw[c]
   .show nomatch e
  .rcases bq f with⟨j,u,rfl,e⟩|⟨y,u,rfl,e⟩
   .show nomatch e
   .injection e with c _;rw[c]
 byValue:=λk v h=>by
  rcases bq h with⟨i,t,rfl,rfl⟩|⟨x,t,rfl,rfl⟩<;>rfl
 pyHash:=λd h=>by
  rcases bq d with⟨i,t,rfl,rfl⟩|⟨x,t,rfl,rfl⟩
  .show wpAny_pyHash_int h
  .show wpAny_pyHash_str h
 eqBool:=λl d h=>by
  rcases bq l with⟨i,t,rfl,rfl⟩|⟨x,t,rfl,rfl⟩
  .rcases bq d with⟨j,u,rfl,rfl⟩|⟨y,u,rfl,rfl⟩
   .rw[Eo]at h;show Ļ h
   .rw[Er]at h;show SeqAt.EqAt.int_str i t y u _ _ _ _ h
  .rcases bq d with⟨j,u,rfl,rfl⟩|⟨y,u,rfl,rfl⟩
   .rw[Es]at h;show SeqAt.EqAt.str_int x t j u _ _ _ _ h
   .rw[Ep]at h;show ĺ h
 «strs»:=λk x t v h=>by
  rcases bq h with⟨i,u,rfl,e⟩|⟨y,u,rfl,e⟩
  .show nomatch e
  .injection e with c _
   subst c;cases v<;>rfl
def qg(prog:va)(w:w6)(i:Int)(t:Tok):(aS prog w).is (.inl i) (.int i t)=bD:=v7 i t
def qh(prog:va)(w:w6)(x:Str)(t:Tok):(aS prog w).is (.inr x) (.str x t)=bD:=v8 x t
inductive V where
 |J0|bl (b:Bool)|int (i:Int)|str (x:Str)|R7 (b:Array UInt8)|R8 (b:UInt64)|ref (a:d8)|ty (n:String)
 deriving DecidableEq
def RelV:V->dV->Prop
 |.J0,u=>u=nH
 |.bl b,u=>u=OW b
 |.int i,u=>∃t,u=ã i t
 |.str x,u=>∃t,u=uk x t
 |.R7 b,u=>∃t,u=Value.bytes b t
 |.R8 b,u=>∃t,u=Value.float b t
 |.ref a,u=>u=lg a
 |.ty n,u=>u=sL n
@[reducible]def Vals:List V->List dV->Prop:=Paired RelV
def Vals.length(r:Vals xs us):xs.length=us.length:=Paired.length r
theorem Vals.get:∀{xs:List V}{us:List dV}{i:Nat}{x:V},Vals xs us->xs[i]?=a5 x->∃u,us[i]?=a5 u/\RelV x u
 |_,_,_,_,.nil,e=>by simp at e
 |_,_,0,_,.cons r _,e=>by simp at e;subst e;show⟨_,rfl,r⟩
 |_,_,i+1,x,.cons _ t,e=>by
  have⟨u,a,b⟩:=Vals.get (i:=i) (x:=x) t (by simpa using e);show⟨u,by simpa using a,b⟩
theorem Vals.set(r:RelV x u):∀{xs:List V}{us:List dV} (i:Nat),Vals xs us->Vals (xs.set i x) (us.set i u)
 |_,_,_,.nil=>.nil
 |_,_,0,.cons _ t=>.cons r t
 |_,_,i+1,.cons q t=>.cons q (Vals.set r i t)
theorem Vals.append:∀{xs a:List V}{us ws:List dV},Vals xs us->Vals a ws->Vals (xs++a) (us++ws)
 |_,_,_,_,.nil,s=>s
 |_,_,_,_,.cons r t,s=>.cons r (Vals.append t s)
theorem Vals.take:∀{xs:List V}{us:List dV} (n:Nat),Vals xs us->Vals (xs.take n) (us.take n)
 |_,_,0,_=>.nil
 |_,_,_+1,.nil=>.nil
 |_,_,n+1,.cons r t=>.cons r (Vals.take n t)
theorem Vals.drop:∀{xs:List V}{us:List dV} (n:Nat),Vals xs us->Vals (xs.drop n) (us.drop n)
 |_,_,0,r=>r
 |_,_,_+1,.nil=>.nil
 |_,_,n+1,.cons _ t=>Vals.drop n t
def kl:Option V->Option dV->Prop
 |some v,a5 u=>RelV v u
 |none,b6=>True
 |_,_=>False
abbrev KV{κ:Type}:List (κ×V)->List (κ×dV)->Prop:=Paired λ(p:κ×V) (q:κ×dV)=>p.1=q.1/\RelV p.2 q.2
abbrev kV:Key->V
 |.inl i=>.int i
 |.inr x=>.str x
inductive HO where
 |lst (xs:List V)
 |tup (xs:List V)
 |dK (kvs:List (Key×V))|dT (kvs:List (List Key×V))
 |set (S:Int->Bool) (n:Nat)
 |ins (C dx:d8) (fs:List (Str×V))
 |own (x:d8)
 |xd (fs:List (Str×V))
 |met (f x:d8)
 |R9 (lo hi:Int)
 |KY (o:Obj) (u:HO)
 |Oo (ps:Array dV)
 |ext (φ:KX->Prop)
@[reducible]def Hp:=d8->Option HO
abbrev upd(H:Hp)(a:d8)(o:HO):Hp:=λb=>if b=a then a5 o else H b
def ax:upd H a o a=a5 o:=by unfold upd;rw[ť rfl]
def ak(h:b≠a):upd H a o b=H b:=by unfold upd;rw[Ŧ h]
def Bo:upd (upd H a o) a u=upd H a u:=by
 funext b;unfold upd;split<;>rfl
def GS{H:Hp}(h:H a=a5 o)(h':H b=a5 u)(d:o≠u):a≠b:=by
 intro e;subst e;rw[h]at h';show d (ti h')
def bu{H:Hp}(h:H a=a5 o)(h':H b=b6):a≠b:=by
 intro e;subst e;rw[h]at h';cases h'
section
variable(P:va)(w:w6)
def bI(H:Hp)(h:KX)(a:d8):HO->Prop
 |.lst xs=>xs.length<=cL/\∃(c:List dV) (n:Nat),Vals xs c/\h.get? a=a5 {cls:=.type "list",data:=.seq c.toArray n}
 |.tup xs=>xs.length<=cL/\∃c:List dV,Vals xs c/\ţ h a c.toArray
 |.dK kvs=>kvs.length<=cL/\(a==Oq)=cc/\∃vs,KV kvs vs/\h.DictOf (aS P w) a vs
 |.dT kvs=>kvs.length<=cL/\(a==Oq)=cc/\∃xs:List (List Key×d8×dV),
   Paired (λ(p:List Key×V) (q:List Key×d8×dV)=>p.1=q.1/\H q.2.1=a5 (.tup (p.1.map kV))/\RelV p.2 q.2.2) kvs xs /\
   ∃o es ep,h.get? a=a5 o/\o.ExactDict/\o.data=.dict es ep/\es.toList=xs.map (entryOfKey (Wr (aS P w)))/\(xs.map (·.1)).Nodup
 |.set S n=>h.SetOf (intKind P w) a S n
 |.ins C e d=>H e=a5 (.own a)/\d.length<=1000/\e≠a/\h.get? a=a5 (PySem.W.instObj C e) /\
   ∃b,h.Ns1 e b/\(∀f,kl (d.lookup f) (b f))/\PySem.Within b (d.map (·.1))
 |.own _=>∃o,h.get? a=a5 o
 |.xd d=>∃b,h.Ns1 a b/\∀f,kl (d.lookup f) (b f)
 |.R9 lo j=>∃t u v,h.get? a=a5 {cls:=.type "range",data:=.fields #[.int lo t,.int j u,.int 1 v]}
 |.KY o u=>h.get? a=a5 o/\bI H h a u
 |.Oo ps=>h.get? a=a5 {cls:=.none,data:=.fields ps}
 |.met f x=>h.get? a=a5 (PySem.W.methodObj (.ref f) (.ref x))
 |.ext φ=>φ h/\(∃o,h.get? a=a5 o)/\∀g i:KX,φ g->(∀o,g.get? a=a5 o->i.get? a=a5 o)->φ i
abbrev K6(H:Hp)(h:KX):Prop:=∀a o,H a=a5 o->bI P w H h a o
end
section
def bI.lt(x:bI P w H h a o):a<h.objs.size:=by
 cases o with
 |lst xs=>obtain⟨_,_,_,_,e⟩:=x;show ez e
 |tup xs=>obtain⟨_,_,_,p⟩:=x;show p.lt
 |set S n=>obtain⟨o,_,_,_,e,_⟩:=x;show ez e
 |ins C c b=>obtain⟨_,_,_,e,_⟩:=x;show ez e
 |own y=>obtain⟨_,e⟩:=x;show ez e
 |xd b=>obtain⟨_,⟨_,_,_,e,_⟩,_⟩:=x;show ez e
 |R9 lo d=>obtain⟨_,_,_,e⟩:=x;show ez e
 |KY g u=>obtain⟨e,_⟩:=x;show ez e
 |Oo ps=>show ez (show h.get? a=a5 _ from x)
 |met f y=>show ez (show h.get? a=a5 _ from x)
 |ext φ=>obtain⟨_,⟨_,e⟩,_⟩:=x;show ez e
 |_=>obtain⟨_,_,_,_,o,_,_,e,_⟩:=x;show ez e
theorem Paired.Et:∀{c:List α}{d:List β},Paired F c d->(∀a b,F a b->G a b)->Paired G c d
 |_,_,.nil,_=>.nil
 |_,_,.cons r t,f=>.cons (f _ _ r) (Paired.Et t f)
def bI.fI(x:bI P w H h a o)(k:∀b u,(b=a\/H b=a5 (.own a))->h.get? b=a5 u->h'.get? b=a5 u)
  (ho:∀b,H b=a5 (.own a)->H' b=a5 (.own a)) (m:∀b xs,H b=a5 (.tup xs)->H' b=a5 (.tup xs)):bI P w H' h' a o:=by
 induction o with
 |lst xs=>have⟨z,i,n,r,e⟩:=x;show⟨z,i,n,r,k _ _ (.inl rfl) e⟩
 |tup xs=>have⟨z,i,r,g,e,c⟩:=x;show⟨z,i,r,g,k _ _ (.inl rfl) e,c⟩
 |dK kvs=>have⟨z,y,vs,r,g,es,ep,e,c⟩:=x;show⟨z,y,vs,r,g,es,ep,k _ _ (.inl rfl) e,c⟩
 |dT kvs =>
  have⟨z,y,xs,r,g,es,ep,e,c⟩:=x;show⟨z,y,xs,Paired.Et r λp q z=>⟨z.1,m _ _ z.2.1,z.2.2⟩,g,es,ep,k _ _ (.inl rfl) e,c⟩
 |set S n=>have⟨g,es,ep,t,e,c⟩:=x;show⟨g,es,ep,t,k _ _ (.inl rfl) e,c⟩
 |ins C D s =>
  obtain⟨d,z,ne,e,j,⟨l,es,ep,A,c⟩,r⟩:=x;show⟨ho _ d,z,ne,k _ _ (.inl rfl) e,j,⟨l,es,ep,k _ _ (.inr d) A,c⟩,r⟩
 |own y=>have⟨g,e⟩:=x;show⟨g,k _ _ (.inl rfl) e⟩
 |xd s=>obtain⟨j,⟨l,es,ep,e,c⟩,r⟩:=x;show⟨j,⟨l,es,ep,k _ _ (.inl rfl) e,c⟩,r⟩
 |R9 lo G=>have⟨t,u,v,e⟩:=x;show⟨t,u,v,k _ _ (.inl rfl) e⟩
 |KY g u B=>have⟨e,q⟩:=x;show⟨k _ _ (.inl rfl) e,B q⟩
 |Oo ps =>
  have e:h.get? a=a5 {cls:=.none,data:=.fields ps}:=x;change h'.get? a=a5 {cls:=.none,data:=.fields ps};show k a _ (.inl rfl) e
 |met f y =>
  have e:h.get? a=a5 (PySem.W.methodObj (.ref f) (.ref y)):=x;change h'.get? a=a5 (PySem.W.methodObj (.ref f) (.ref y));show k a _ (.inl rfl) e
 |ext φ=>obtain⟨p,⟨o,e⟩,st⟩:=x;show⟨st _ _ p λo q=>k _ _ (.inl rfl) q,⟨o,k _ _ (.inl rfl) e⟩,st⟩
def K6.lt(x:K6 P w H h)(e:H a=a5 o):a<h.objs.size:=(x a o e).lt
def K6.fresh(x:K6 P w H h)(e:h.objs.size<=a):H a=b6:=by
 cases q:H a with
 |none=>rfl
 |some u=>show absurd (i5 (x.lt q) e) (uv _)
def K6.kept(x:K6 P w H h)(k:∀b u,h.get? b=a5 u->h'.get? b=a5 u):K6 P w H h':=λa o e =>
 (x a o e).fI (λb u _ q=>k b u q) (λ_ q=>q) λ_ _ q=>q
def K6.laid(x:K6 P w H h)(k:∀b u,h.get? b=a5 u->h'.get? b=a5 u)(g:h.objs.size<=a)(new:bI P w (upd H a o) h' a o):K6 P w (upd H a o) h':=λb u e=>by
 have d:=x.fresh g;by_cases f:b=a
 .subst f;rw[ax]at e;cases e;show new
 .rw[ak f]at e;show(x b u e).fI (λc v _ q=>k c v q) (λc q=>by rw[ak (bu q d)];show q) λc xs q=>by rw[ak (bu q d)];show q
end
abbrev Rd(H:Hp)(a:d8)(u:HO):Prop:=H a=a5 u\/∃o,H a=a5 (.KY o u)
def Rd.ok(r:Rd H a u)(x:K6 P w H h):bI P w H h a u:=by
 rcases r with r|⟨o,r⟩
 .show x a u r
 .obtain⟨_,q⟩:=x a _ r;show q
def QE:Option HO->Prop
 |some (.lst _)=>True
 |some (.dK _)=>True
 |some (.dT _)=>True
 |some (.set _ _)=>True
 |some (.ins _ _ _)=>True
 |some (.ext _)=>True
 |_=>False
section
def K6.write(l:K6 P w H h)(a:QE (H x))(g:e=x\/H e=a5 (.own x))(k:∀b u,b≠e->h.get? b=a5 u->h'.get? b=a5 u)(m:∃u,h'.get? e=a5 u)
  (new:bI P w (upd H x o') h' x o'):K6 P w (upd H x o') h':=λb u q=>by
 have i:∀c y,H c=a5 (.own y)->c≠x:=λc y r z=>by subst z;rw[r]at a;show a
 have n:∀c xs,H c=a5 (.tup xs)->c≠x:=λc xs r z=>by subst z;rw[r]at a;show a
 by_cases d:b=x
 .subst d;rw[ax]at q;cases q;show new
 .rw[ak d]at q;by_cases f:b=e
  .have j:H b=a5 (.own x):=by
    rcases g with z|z
    .show absurd (f.trans z) d
    .rw[f];show z
   rw[q]at j;cases j;have⟨v,o⟩:=m;show⟨v,by rw[f];show o⟩
  .show(l b u q).fI (λc v hc r=>k c v ?_ r) (λc r=>by rw[ak (i c b r)];show r) λc xs r=>by rw[ak (n c xs r)];show r
   rcases hc with rfl|hc
   .show f
   .rintro rfl;rcases g with z|z
    .show i c b hc z
    .rw[hc]at z;cases z;show d rfl
end
structure Un(fs ex:List d8)(H H':Hp)(h h':KX):Prop where
 keep:∀b o,h.get? b=a5 o->H b=b6->b∉fs->b∉ex->h'.get? b=a5 o
 slot:∀b o,h.get? b=a5 o->H b=b6->b∈fs->b∉ex->∃sl,h'.get? b=a5 {o with slots:=sl}
 free:∀b o,h.get? b=a5 o->H b=b6->b∉ex->H' b=b6
 there:∀b o,h.get? b=a5 o->b∉ex->∃o',h'.get? b=a5 o'
 fT:∀b xs,H b=a5 (.tup xs)->H' b=a5 (.tup xs)
 KZ:∀b o u,H b=a5 (.KY o u)->H' b=a5 (.KY o u)
 K9:∀b ps,H b=a5 (.Oo ps)->∃more,H' b=a5 (.Oo (ps++more))
section
def Un.any(u:Un e ex H i h f)(q:h.get? b=a5 a)(n:H b=b6)(c:b∉ex):∃g,f.get? b=a5 {a with slots:=g}:=by
 by_cases d:b∈e
 .show u.slot b a q n d c
 .show⟨a.slots,u.keep b a q n d c⟩
def Un.kept(k:∀b u,h.get? b=a5 u->h'.get? b=a5 u):Un c ex H H h h' :=
 ⟨λb a q _ _ _=>k b a q,λb a q _ _ _=>⟨a.slots,k b a q⟩,λ_ _ _ n _=>n,λb a q _=>⟨a,k b a q⟩,λ_ _ q=>q,λ_ _ _ q=>q,λ_ ps q=>⟨#[],by rw[q];simp⟩⟩
def Un.refl:Un a ex H H h h:=Un.kept λ_ _ q=>q
def Un.laid(k:∀b u,h.get? b=a5 u->h'.get? b=a5 u)(d:h.objs.size<=a)(c:H a=b6):Un e ex H (upd H a o) h h' where
 keep:=λb u q _ _ _=>k b u q
 slot:=λb u q _ _ _=>⟨u.slots,k b u q⟩
 free:=λb u q n _=>by rw[ak (hW (i5 (ez q) d))];show n
 there:=λb u q _=>⟨u,k b u q⟩
 fT:=λb xs q=>by rw[ak (bu q c)];show q
 KZ:=λb u xs q=>by rw[ak (bu q c)];show q
 K9:=λb ps q=>⟨#[],by rw[ak (bu q c),q];simp⟩
def Un.write(a:QE (H x))(i:e=x\/H e=a5 (.own x))(k:∀b u,b≠e->h.get? b=a5 u->h'.get? b=a5 u)(j:∃u,h'.get? e=a5 u):Un l ex H (upd H x o) h h':=by
 have d:∀b,H b=b6->b≠x:=λb n z=>by subst z;rw[n]at a;show a
 have f:∀b,H b=b6->b≠e:=λb n z=>by
  subst z;rcases i with r|r
  .show d b n r
  .rw[n]at r;cases r
 have c:∀b u,H b=a5 u->¬QE (a5 u)->b≠x:=λb u q nm z=>by subst z;rw[q]at a;show nm a
 show⟨λb u q n _ _=>k b u (f b n) q,λb u q n _ _=>⟨u.slots,k b u (f b n) q⟩,λb u q n _=>by rw[ak (d b n)];show n,λb u q _=>?_,
  λb xs q=>by rw[ak (c b _ q λz=>z)];show q,λb u xs q=>by rw[ak (c b _ q λz=>z)];show q,λb ps q=>⟨#[],by rw[ak (c b _ q λz=>z),q];simp⟩⟩
 by_cases g:b=e
 .subst g;show j
 .show⟨u,k b u g q⟩
end
abbrev R_(h:KX)(H:Hp):List d8:=(gs h.objs.size).filter λa=>(H a).isSome
abbrev oN(h:KX)(H:Hp):KX:=PySem.W.hideAll h (R_ h H)
def v9(h:KX)(H:Hp):(oN h H).objs.size=h.objs.size:=PySem.W.hideAll_size _ _
def xO(e:h.get? b=a5 o)(n:H b=b6):(oN h H).get? b=a5 o :=
 PySem.W.hideAll_get _ e λa=>by
  have q:(H b).isSome=bD:=(my.mp a).2;rw[n]at q;simp at q
def Bp(e:(oN h H).get? b=a5 o):h.get? b=a5 o/\H b=b6:=by
 have a:h.get? b=a5 o:=PySem.W.of_hideAll (R_ h H) e;show⟨a,?_⟩;cases q:H b with
 |none=>rfl
 |some x =>
  have c:b∈R_ h H:=my.mpr ⟨u5.mpr (ez a),by simp[q]⟩;have z:(oN h H).get? b=b6:=PySem.W.hideAll_none (R_ h H) c;rw[z]at e;cases e
structure Mod(K:PySem.W.Frag)(mg:Str->Option dV)(base:KX):Prop where
 P5:K.In base
 glob:base.Ns i9 mg
 blt:∃mb,base.Ns Ę mb/\∀x:Str,x≠"__name__"->mb x=t5 x
 nolimit:base.NoLimit
structure Cx where
 prog:va
 w:w6
 K:PySem.W.Frag
 mg:Str->Option dV
 base:KX
 A:N5
 N:List Str
 s₀:d6
 H₀:Hp
 env:Env
 outer:List Env
 stack:List Env
 ex:List d8
 fn:Str->Bool
 calm:Bool
 pn:List (d8×Obj)
 xe:dV->d6->Prop
abbrev Kx(l:List Env):List d8:=l.filterMap (·.frame)
noncomputable abbrev Cx.fs(X:Cx):List d8:=Kx X.outer
abbrev LJ(a:MH)(x:Str):Prop:=a.names.lookup x=a5 .local\/a.names.lookup x=a5 .cell\/a.names.lookup x=a5 .free
abbrev Loc(a:MH)(x:Str):Prop:=a.names.lookup x=a5 .local\/a.names.lookup x=a5 .cell
abbrev Look(env:Env)(h:KX)(m:Str->Option dV)(x:Str)(u:dV):Prop :=
 (env.kindOf x=a5 .local/\m x=a5 u)\/((env.kindOf x=a5 .cell\/env.kindOf x=a5 .free)/\∃c,env.cells.lookup x=a5 c/\h.IsCell c (a5 u))
structure Cx.Ok(X:Cx):Prop where
 mod:Mod X.K X.mg X.base
 kind:X.env.scope.kind=.function
 glob:X.env.globals=i9
 blt:X.env.builtins=Ę
 above:X.s₀.heap.objs.size<=X.env.locals
 inj:∀x y c,X.env.cells.lookup x=a5 c->X.env.cells.lookup y=a5 c->x=y
 has:∀x,(X.env.kindOf x=a5 .cell\/X.env.kindOf x=a5 .free)->∃c,X.env.cells.lookup x=a5 c
 P6:∀x c,X.fn x=bD->X.env.cells.lookup x=a5 c->X.s₀.heap.objs.size<=c
 hd:X.calm=bD->X.A.handled=b6
 frames:X.A.frames=a5 X.stack
 QG:X.stack=X.outer\/(X.stack=X.env::X.outer/\X.env.frame=a5 X.env.locals)
 Td:∀b∈X.ex,b≠X.env.locals/\∀x c,X.env.cells.lookup x=a5 c->c≠b
 bs:∀b o,X.base.get? b=a5 o->X.s₀.heap.get? b=a5 o/\X.H₀ b=b6
 N1:X.base.objs.size<=X.s₀.heap.objs.size
 MQ:∀b o,X.base.get? b=a5 o->b∉X.ex
 Nd:∀b∈X.ex,b∉X.fs
 km:X.s₀.heap.FunFrames X.base X.outer
 OX:∀b∈X.fs,X.H₀ b=b6
structure Inv(X:Cx)(pins:List (d8×Obj))(σ:List (Option V))(H:Hp)(s:d6):Prop where
 ok:X.Ok
 os:s.os=X.s₀.os
 bare:Ua s.gens
 base:Un X.fs X.ex X.H₀ H X.s₀.heap s.heap
 loc:∃m,s.heap.Ns X.env.locals m/\∀(i:Nat) (x:Str) (v:V),X.N[i]?=a5 x->σ[i]?=a5 (a5 v)->LJ X.env.scope x->∃u,RelV v u/\Look X.env s.heap m x u
 cell:∀x c,X.env.cells.lookup x=a5 c->∃v,s.heap.IsCell c v
 free:H X.env.locals=b6
 Ki:∀x c,X.env.cells.lookup x=a5 c->H c=b6
 pin:∀p∈X.pn++pins,s.heap.get? p.1=a5 p.2/\H p.1=b6/\p.1≠X.env.locals/\p.1∉X.fs/\∀v,p.2.data≠.cell v
 JV:K6 X.prog X.w H s.heap
 len:σ.length=X.N.length
section
variable{X:Cx}{pins:List (d8×Obj)}{σ:List (Option V)}{H H':Hp}{s:d6}{h':KX}
def Cx.Ok.I_(a:X.Ok)(e:X.base.get? b=a5 o):b∉X.fs:=λc=>by
 have:=(a.km.mem c).1;rw[e]at this;cases this
def Inv.bs(I:Inv X pins σ H s):∀b o,X.base.get? b=a5 o->s.heap.get? b=a5 o/\H b=b6:=λb o e =>
 ⟨I.base.keep b o (I.ok.bs b o e).1 (I.ok.bs b o e).2 (I.ok.I_ e) (I.ok.MQ b o e),I.base.free b o (I.ok.bs b o e).1 (I.ok.bs b o e).2 (I.ok.MQ b o e)⟩
def Inv.bk(I:Inv X pins σ H s):∀b o,X.base.get? b=a5 o->s.heap.get? b=a5 o:=λb o e=>(I.bs b o e).1
def Inv.mod(I:Inv X pins σ H s):Mod X.K X.mg X.base:=I.ok.mod
def Inv.Nf(I:Inv X pins σ H s):X.K.In s.heap:=I.ok.mod.P5.keeps I.bk
def Inv.lt(I:Inv X pins σ H s):X.env.locals<s.heap.objs.size:=let ⟨_,a,_⟩:=I.loc;a.lt
def Inv.sz(I:Inv X pins σ H s):X.s₀.heap.objs.size<=s.heap.objs.size:=vr I.ok.above (Q8 I.lt)
def Inv.Eu(I:Inv X pins σ H s)(h:s.heap.objs.size<=a):a∉X.fs:=λb=>by
 obtain⟨_,o,ho,_⟩:=I.ok.km.mem b;show absurd (i5 (ez ho) (vr I.sz h)) (uv _)
def Inv.Ng(I:Inv X pins σ H s):∀x c,X.env.cells.lookup x=a5 c->c≠X.env.locals:=λx c e z=>by
 have⟨v,o,ho,a⟩:=I.cell x c e;obtain⟨m,⟨o',es,ep,b,d,_⟩,_⟩:=I.loc;rw[z,b]at ho;cases ho;rw[d]at a;cases a
def Inv.km(I:Inv X pins σ H s):s.heap.FunFrames X.base X.outer:=by
 have all:∀(l:List Env),(∀b∈Kx l,b∈X.fs)->X.s₀.heap.FunFrames X.base l->s.heap.FunFrames X.base l:=by
  intro l;induction l with
  |nil=>intro _ _;trivial
  |cons env r f =>
   intro hs hl;obtain⟨hk,⟨L,o,a,g,ho,h⟩,i⟩:=hl;have c:L∈X.fs:=hs L (by unfold Kx;rw[Kp,a];show mf);have⟨j,e⟩:=I.base.slot L o ho (I.ok.OX L c) c λz=>I.ok.Nd L z c;show⟨hk,⟨L,_,a,g,e,h⟩,f (λb d=>hs b (by unfold Kx;rw[Kp,a];show ko _ d)) i⟩
 show all X.outer (λ_ d=>d) I.ok.km
def Inv.stack(I:Inv X pins σ H s):s.heap.FunFrames X.base X.stack:=by
 rcases I.ok.QG with e|⟨e,a⟩
 .rw[e];show I.km
 .rw[e];obtain⟨m,b,_⟩:=I.loc;show .cons (by rw[I.ok.kind];decide) a b ?_ I.km;show Heap.get?_none_of_le (vr I.ok.N1 I.ok.above)
def Inv.kU(I:Inv X pins σ H s):∀b∈Kx X.stack,b∈X.env.locals::X.fs:=λb a=>by
 rcases I.ok.QG with e|⟨e,c⟩
 .rw[e]at a;show ko _ a
 .rw[e]at a;unfold Kx at a;rw[Kp,c]at a;show a
def Inv.kJ(I:Inv X pins σ H s):∀b∈Kx X.stack,H b=b6:=λb hb=>by
 rcases d7.mp (I.kU b hb) with e|hb
 .rw[e];show I.free
 .obtain⟨_,o,ho,_⟩:=I.ok.km.mem hb;show I.base.free b o ho (I.ok.OX b hb) λz=>I.ok.Nd b z hb
def Inv.step{ch:List d8}(I:Inv X pins σ H s)
  (j:∀b∈ch,(b∈X.ex\/X.s₀.heap.objs.size<=b)/\b≠X.env.locals/\(∀x c,X.env.cells.lookup x=a5 c->c≠b)/\∀p∈X.pn++pins,p.1≠b)
  (keep:∀b o,b≠X.env.locals->b∉X.fs->b∉ch->s.heap.get? b=a5 o->H b=b6->h'.get? b=a5 o)
  (slot:∀b o,b≠X.env.locals->b∈X.fs->b∉ch->s.heap.get? b=a5 o->H b=b6->∃B,h'.get? b=a5 {o with slots:=B}) (free:∀b o,b∉ch->s.heap.get? b=a5 o->H b=b6->H' b=b6)
  (there:∀b o,b∉ch->s.heap.get? b=a5 o->∃o',h'.get? b=a5 o')
  (fT:∀b xs,H b=a5 (.tup xs)->H' b=a5 (.tup xs)) (KZ:∀b o u,H b=a5 (.KY o u)->H' b=a5 (.KY o u)) (K9:∀b ps,H b=a5 (.Oo ps)->∃more,H' b=a5 (.Oo (ps++more)))
  (ns:∀m,s.heap.Ns X.env.locals m->h'.Ns X.env.locals m) (L:K6 X.prog X.w H' h') (N:Ua g') :
  Inv X pins σ H' {s with heap:=h',gens:=g',drawn:=d',toks:=t' }:=by
 have D:∀b o,X.s₀.heap.get? b=a5 o->b≠X.env.locals:=λb o e=>hW (i5 (ez e) I.ok.above);have A:∀b o,X.s₀.heap.get? b=a5 o->b∉X.ex->b∉ch:=λb o e a h=>by
  rcases(j b h).1 with z|z
  .show a z
  .show absurd (i5 (ez e) z) (uv _)
 have f:∀x c,X.env.cells.lookup x=a5 c->∀v,s.heap.IsCell c v->h'.IsCell c v:=λx c e v O=>by
  have⟨o,ho,C⟩:=O;have t:c∉ch:=λz=>(j c z).2.2.1 x c e rfl;by_cases G:c∈X.fs
  .have⟨B,q⟩:=slot c o (I.Ng x c e) G t ho (I.Ki x c e);show⟨_,q,C⟩
  .show⟨o,keep c o (I.Ng x c e) G t ho (I.Ki x c e),C⟩
 show⟨I.ok,I.os,N,⟨λb o e n h a=>?_,λb o e n h a=>?_,λb o e n a=>?_,λb o e a=>?_,λb xs e=>fT b xs (I.base.fT b xs e),λb o xs e=>KZ b o xs (I.base.KZ b o xs e),λb ps e=>?_⟩,?_,λx c e=>?_,?_,λx c e=>?_,λp J=>?_,L,I.len⟩
 .show keep b o (D b o e) h (A b o e a) (I.base.keep b o e n h a) (I.base.free b o e n a)
 .have⟨B,g⟩:=I.base.slot b o e n h a;have⟨Q,y⟩:=slot b _ (D b o e) h (A b o e a) g (I.base.free b o e n a);show⟨Q,y⟩
 .have⟨o',g⟩:=I.base.there b o e a;show free b o' (A b o e a) g (I.base.free b o e n a)
 .have⟨o',g⟩:=I.base.there b o e a;show there b o' (A b o e a) g
 .have⟨m1,g⟩:=I.base.K9 b ps e;have⟨m2,y⟩:=K9 b _ g;show⟨m1++m2,by rw[y,Ô]⟩
 .have⟨m,T,hl⟩:=I.loc;show⟨m,ns m T,λi x v g y Y=>?_⟩;have⟨u,r,l⟩:=hl i x v g y Y;show⟨u,r,?_⟩;rcases l with l|⟨k,c,e,z⟩
  .show .inl l
  .show .inr ⟨k,c,e,f x c e _ z⟩
 .have⟨v,z⟩:=I.cell x c e;show⟨v,f x c e v z⟩
 .obtain⟨m,⟨o,_,_,ho,_⟩,_⟩:=I.loc;show free _ o (λz=>(j _ z).2.1 rfl) ho I.free
 .have⟨v,o,ho,C⟩:=I.cell x c e;show free c o (λz=>(j c z).2.2.1 x c e rfl) ho (I.Ki x c e)
 .have⟨e,n,ne,nf,d⟩:=I.pin p J;have t:p.1∉ch:=λz=>(j p.1 z).2.2.2 p J rfl;show⟨keep p.1 p.2 ne nf t e n,free p.1 p.2 t e n,ne,nf,d⟩
def Inv.un(I:Inv X pins σ H s)(u:Un X.fs [] H H' s.heap h')(d:K6 X.prog X.w H' h'):Inv X pins σ H' {s with heap:=h',toks:=t' }:=by
 obtain⟨m,⟨o,es,ep,ho,r⟩,_⟩:=id I.loc;have⟨k,f⟩:=u.any ho I.free (by simp);show I.step (g':=s.gens) (d':=s.drawn) (ch:=[]) (λ_ z=>nomatch z) (λb o _ a _ e n=>u.keep b o e n a (by simp)) (λb o _ a _ e n=>u.slot b o e n a (by simp)) (λb o _ e n=>u.free b o e n (by simp)) (λb o _ e=>u.there b o e (by simp)) u.fT u.KZ u.K9 (λl g=>by
  have⟨o',h,i,c,j⟩:=g;rw[ho]at c;cases c;show⟨_,h,i,f,j⟩) d I.bare
def Inv.call(I:Inv X pins σ H s)(u:Un (Kx X.stack) ch H H' s.heap h')(h:K6 X.prog X.w H' h')(i:Ua g')
  (f:∀b∈ch,(b∈X.ex\/X.s₀.heap.objs.size<=b)/\b≠X.env.locals/\(∀x c,X.env.cells.lookup x=a5 c->c≠b)/\∀p∈X.pn++pins,p.1≠b) :
  Inv X pins σ H' {s with heap:=h',gens:=g',drawn:=d',toks:=t' }:=by
 obtain⟨m,⟨o,es,ep,ho,r⟩,_⟩:=id I.loc;have⟨v,d⟩:=u.any ho I.free λz=>(f _ z).2.1 rfl;show I.step (ch:=ch) f (λb o d j a e n=>u.keep b o e n (λz=>(d7.mp (I.kU b z)).elim d j) a) (λb o _ _ a e n=>u.any e n a) (λb o a e n=>u.free b o e n a) (λb o a e=>u.there b o e a) u.fT u.KZ u.K9 (λy k=>by
  have⟨o',l,q,g,t⟩:=k;rw[ho]at g;cases g;show⟨_,l,q,d,t⟩) h i
def Inv.turned(I:Inv X pins σ H s)(k:∀b o,b≠it->s.heap.get? b=a5 o->h'.get? b=a5 o)(g:H it=b6)(d:it≠X.env.locals)
  (h:it∈X.ex\/X.s₀.heap.objs.size<=it) (i:∀x c,X.env.cells.lookup x=a5 c->c≠it) (j:∀p∈X.pn++pins,p.1≠it):Inv X pins σ H {s with heap:=h',toks:=t' }:=by
 have f:∀b u,H b=a5 u->b≠it:=λb u e z=>by rw[z,g]at e;cases e
 show I.step (g':=s.gens) (d':=s.drawn) (ch:=[it]) (λb l=>?_) (λb o _ _ a e _=>k b o (λz=>a (by simp[z])) e) (λb o _ _ a e _=>⟨o.slots,k b o (λz=>a (by simp[z])) e⟩) (λ_ _ _ _ n=>n)
  (λb o a e=>⟨o,k b o (λz=>a (by simp[z])) e⟩) (λ_ _ e=>e) (λ_ _ _ e=>e) (λb ps e=>⟨#[],by rw[e];simp⟩) (λm t=>?_) (λb u e=>?_) I.bare
 .have e:b=it:=by simpa using l
  subst e;show⟨h,d,i,j⟩
 .have⟨o,es,ep,ho,r⟩:=t;show⟨o,es,ep,k _ o (nC d) ho,r⟩
 .show(I.JV b u e).fI (λc v a q=>k c v ?_ q) (λ_ q=>q) λ_ _ q=>q;rcases a with z|z
  .rw[z];show f b u e
  .show f c _ z
def Inv.tok(I:Inv X pins σ H s)(t:Nat):Inv X pins σ H {s with toks:=t}:=I.un (h':=s.heap) (t':=t) Un.refl I.JV
def Inv.kept(I:Inv X pins σ H s)(k:∀b u,s.heap.get? b=a5 u->h'.get? b=a5 u):Inv X pins σ H {s with heap:=h',toks:=t' }:=I.un (Un.kept k) (I.JV.kept k)
def Inv.laid(I:Inv X pins σ H s)(k:∀b u,s.heap.get? b=a5 u->h'.get? b=a5 u)(c:s.heap.objs.size<=a)(new:bI X.prog X.w (upd H a o) h' a o):
  Inv X pins σ (upd H a o) {s with heap:=h',toks:=t' }:=I.un (Un.laid k c (I.JV.fresh c)) (I.JV.laid k c new)
def Inv.write(I:Inv X pins σ H s)(a:QE (H x))(c:e=x\/H e=a5 (.own x))(k:∀b u,b≠e->s.heap.get? b=a5 u->h'.get? b=a5 u)(d:∃u,h'.get? e=a5 u)
  (new:bI X.prog X.w (upd H x o) h' x o):Inv X pins σ (upd H x o) {s with heap:=h',toks:=t' }:=I.un (Un.write a c k d) (I.JV.write a c k d new)
def Inv.weak(I:Inv X pins σ H s)(hl:a.length=σ.length)(w:∀(i:Nat) v,a[i]?=a5 (a5 v)->σ[i]?=a5 (a5 v)):Inv X pins a H s :=
 ⟨I.ok,I.os,I.bare,I.base,let ⟨m,b,c⟩:=I.loc;⟨m,b,λi x v d e f=>c i x v d (w i v e) f⟩,I.cell,I.free,I.Ki,I.pin,I.JV,hl.trans I.len⟩
def Inv.eF(I:Inv X pins σ H s)(h:∀p∈a,s.heap.get? p.1=a5 p.2/\H p.1=b6/\p.1≠X.env.locals/\p.1∉X.fs/\∀v,p.2.data≠.cell v):Inv X a σ H s :=
 ⟨I.ok,I.os,I.bare,I.base,I.loc,I.cell,I.free,I.Ki,λp b=>(hQ.mp b).elim (λz=>I.pin p (RN _ z)) (h p),I.JV,I.len⟩
def iz{N:List Str}(c:N.Nodup){i j:Nat}(a:N[i]?=a5 x)(b:N[j]?=a5 x):i=j:=by
 have⟨f,d⟩:=dt.mp a;have⟨g,e⟩:=dt.mp b;show(ù c).mp (d.trans e.symm)
def ni(I:Inv X pins σ H s)(hN:X.N.Nodup)(D:X.N[i]?=a5 x)(l:Loc X.env.scope x)(r:RelV v u)
  (h:∀s',Inv X pins (σ.set i (a5 v)) H s'->(∃a,nc a s.heap s'.heap/\(a=X.env.locals\/X.env.cells.lookup x=a5 a))->Q () s') (hf:X.fn x=bD\/X.env.scope.names.lookup x=a5 .local:=by first|show .inl rfl|show .inr rfl|assumption):d3 M A (storeName X.env x u) Q E s:=by
 have⟨m,L,hl⟩:=id I.loc;have OY:(X.env.scope.kind==.class||(X.env.scope.kind==.module&&X.env.locals != X.env.globals))=cc:=by rw[I.ok.kind];rfl
 have V6:i < σ.length:=by rw[I.len];show(dt.mp D).1
 have O:=I.Ng;have f:∀{a:d8} {h':KX},(∃o,s.heap.get? a=a5 o/\H a=b6)->nc a s.heap h'->K6 X.prog X.w H h':=λ{a h'} ha hs b ob e=>by
  obtain⟨_,_,KN⟩:=ha;show(I.JV b ob e).fI (λc G hc q=>(hs.2 c ?_).trans q) (λ_ q=>q) λ_ _ q=>q;rintro rfl;rcases hc with rfl|hc
  .rw[KN]at e;cases e
  .rw[KN]at hc;cases hc
 rcases l with hk|hk
 .show wpAny_storeName_local hk L (λh' N3 hs=>?_) OY;obtain⟨oL,_,_,N4,_⟩:=id L;show h _ ⟨I.ok,I.os,I.bare,⟨λb o e n B l=>?_,λb o e n B l=>?_,I.base.free,λb o e l=>?_,I.base.fT,I.base.KZ,I.base.K9⟩,⟨_,N3,λj y T g t Y=>?_⟩,λy c e=>?_,I.free,I.Ki,λp hp=>?_,f ⟨oL,N4,I.free⟩ hs,by simpa using I.len⟩ ⟨_,hs,.inl rfl⟩
  .show(hs.2 b (hW (i5 (ez e) I.ok.above))).trans (I.base.keep b o e n B l)
  .have⟨sl,g⟩:=I.base.slot b o e n B l;show⟨sl,(hs.2 b (hW (i5 (ez e) I.ok.above))).trans g⟩
  .have⟨o',g⟩:=I.base.there b o e l;show⟨o',(hs.2 b (hW (i5 (ez e) I.ok.above))).trans g⟩
  .by_cases C:j=i
   .subst C;rw[D]at g;cases g;rw[d5 V6]at t;cases t;show⟨u,r,.inl ⟨hk,by simp⟩⟩
   .rw[hH (nC C)]at t;have⟨u',r',q⟩:=hl j y T g t Y;show⟨u',r',?_⟩;rcases q with⟨k,e⟩|⟨k,c,e,z⟩
    .show .inl ⟨k,?_⟩;have:y≠x:=λe=>C (iz hN g (e▸D));simp[this,e]
    .show .inr ⟨k,c,e,z.sameBut hs (O y c e)⟩
  .have⟨G,z⟩:=I.cell y c e;show⟨G,z.sameBut hs (O y c e)⟩
  .have⟨e,n,ne,nf,d⟩:=I.pin p hp;show⟨(hs.2 p.1 ne).trans e,n,ne,nf,d⟩
 .have Mm:X.fn x=bD:=by
   rcases hf with z|z
   .show z
   .rw[z]at hk;cases hk
  have⟨c,hc⟩:=I.ok.has x (.inl hk);have⟨G,z⟩:=I.cell x c hc;show wpAny_storeName_cell I.ok.kind hk hc z (λh' P8 hs=>?_);have⟨oc,V7,Te⟩:=id z;show h {s with heap:=h' } ⟨I.ok,I.os,I.bare,⟨λb o e n B l=>?_,λb o e n B l=>?_,I.base.free,λb o e l=>?_,I.base.fT,I.base.KZ,I.base.K9⟩,⟨m,L.sameBut hs (nC (O x c hc)),λj y T g t Y=>?_⟩,λy J e=>?_,I.free,I.Ki,λp hp=>?_,f ⟨oc,V7,I.Ki x c hc⟩ hs,by simpa using I.len⟩ ⟨c,hs,.inr hc⟩
  .show(hs.2 b (hW (i5 (ez e) (I.ok.P6 x c Mm hc)))).trans (I.base.keep b o e n B l)
  .have⟨sl,g⟩:=I.base.slot b o e n B l;show⟨sl,(hs.2 b (hW (i5 (ez e) (I.ok.P6 x c Mm hc)))).trans g⟩
  .have⟨o',g⟩:=I.base.there b o e l;show⟨o',(hs.2 b (hW (i5 (ez e) (I.ok.P6 x c Mm hc)))).trans g⟩
  .by_cases C:j=i
   .subst C;rw[D]at g;cases g;rw[d5 V6]at t;cases t;show⟨u,r,.inr ⟨.inl hk,c,hc,P8⟩⟩
   .rw[hH (nC C)]at t;have⟨u',r',q⟩:=hl j y T g t Y;show⟨u',r',?_⟩;rcases q with q|⟨k,J,e,z'⟩
    .show .inl q
    .show .inr ⟨k,J,e,z'.sameBut hs ?_⟩;rintro rfl;show C (iz hN g (I.ok.inj _ _ _ e hc▸D))
  .by_cases V8:J=c
   .subst V8;show⟨_,P8⟩
   .have⟨w2,z2⟩:=I.cell y J e;show⟨w2,z2.sameBut hs V8⟩
  .have⟨e,n,ne,nf,d⟩:=I.pin p hp;show⟨(hs.2 p.1 ?_).trans e,n,ne,nf,d⟩;intro q;rw[q,V7]at e;have q':oc=p.2:=ti e;show d G (by rw[<-q'];show Te)
def iA(I:Inv X pins σ H s)(a:X.N.Nodup)(b:X.N[i]?=a5 x)(c:Loc X.env.scope x)(r:RelV v u)
  (h:∀s',Inv X pins (σ.set i (a5 v)) H s'->Q () s') (d:X.fn x=bD\/X.env.scope.names.lookup x=a5 .local:=by first|show .inl rfl|show .inr rfl|assumption):d3 M A (storeName X.env x u) Q E s :=
 ni I a b c r (λs' e _=>h s' e) d
def Inv.DM(I:Inv X pins σ H s)(ho:s'.os=s.os)(u:Un (Kx X.stack) ch H H' s.heap s'.heap)(a:K6 X.prog X.w H' s'.heap)(d:Ua s'.gens)
  (f:∀b∈ch,(b∈X.ex\/X.s₀.heap.objs.size<=b)/\b≠X.env.locals/\(∀x c,X.env.cells.lookup x=a5 c->c≠b)/\∀p∈X.pn++pins,p.1≠b):Inv X pins σ H' s':=by
 have⟨h',g',d',t',o'⟩:=s';have e:o'=s.os:=ho;subst e;show I.call (g':=g') (t':=t') (d':=d') u a d f
end
@[reducible]def XK:=dV->Option d8->Hp->Prop
@[reducible]def St:=List (Option V)
@[reducible]def VK:=V->Hp->Prop
@[reducible]def TE:=St->Hp->VK->Prop
@[reducible]def TT:=St->Hp->(Bool->Hp->Prop)->Prop
@[reducible]def TA:=St->Hp->(List V->Hp->Prop)->Prop
structure Ends where
 nx:St->Hp->Prop
 rt:VK
 bk:St->Hp->Prop:=λ_ _=>False
 ct:St->Hp->Prop:=λ_ _=>False
@[reducible]def TS:=Ends->St->Hp->Prop
abbrev EP(X:Cx)(pins:List (d8×Obj))(σ:St)(Q:VK)(u:dV)(s':d6):Prop:=∃v H',Inv X pins σ H' s'/\RelV v u/\Q v H'
abbrev TP(X:Cx)(pins:List (d8×Obj))(σ:St)(Q:Bool->Hp->Prop)(b:Bool)(s':d6):Prop:=∃H',Inv X pins σ H' s'/\Q b H'
abbrev AP(X:Cx)(pins:List (d8×Obj))(σ:St)(Q:List V->Hp->Prop)(us:List dV)(s':d6):Prop:=∃vs H',Inv X pins σ H' s'/\Vals vs us/\Q vs H'
abbrev SP(X:Cx)(pins:List (d8×Obj))(D:Ends)(f:Flow)(s':d6):Prop :=
 match f with
 |.next=>∃a H',Inv X pins a H' s'/\D.nx a H'
 |.brk=>∃a H',Inv X pins a H' s'/\D.bk a H'
 |.cont=>∃a H',Inv X pins a H' s'/\D.ct a H'
 |.ret u=>∃v a H',Inv X pins a H' s'/\RelV v u/\D.rt v H'
abbrev PE(X:Cx)(e:kr)(t:TE):Prop :=
 ∀(pins:List (d8×Obj)) (s:d6) (σ:St) (H:Hp) (Q:VK),Inv X pins σ H s->t σ H Q->d3 (eH X.prog X.w) X.A (ve e X.env) (EP X pins σ Q) X.xe s
abbrev PT(X:Cx)(e:kr)(t:TT):Prop :=
 ∀(pins:List (d8×Obj)) (s:d6) (σ:St) (H:Hp) (Q:Bool->Hp->Prop),Inv X pins σ H s->t σ H Q->d3 (eH X.prog X.w) X.A (isTrue e X.env (ve e X.env)) (TP X pins σ Q) X.xe s
abbrev PW(X:Cx)(e:kr)(t:TT):Prop :=
 ∀(a:Sem dV) (pins:List (d8×Obj)) (s:d6) (σ:St) (H:Hp) (Q:Bool->Hp->Prop),Inv X pins σ H s->t σ H Q->d3 (eH X.prog X.w) X.A (isTrue e X.env a) (TP X pins σ Q) X.xe s
def PW.pt(h:PW X e t):PT X e t:=h _
abbrev PA(X:Cx)(es:List kr)(t:TA):Prop :=
 ∀(pos:Pos) (pins:List (d8×Obj)) (s:d6) (σ:St) (H:Hp) (Q:List V->Hp->Prop),Inv X pins σ H s->t σ H Q->d3 (eH X.prog X.w) X.A (Ĩ (Kg pos (hZ es X.env))) (AP X pins σ Q) X.xe s
abbrev PS(X:Cx)(st:M')(t:TS):Prop :=
 ∀(pins:List (d8×Obj)) (s:d6) (σ:St) (H:Hp) (D:Ends),Inv X pins σ H s->t D σ H->d3 (eH X.prog X.w) X.A (exec st X.env) (SP X pins D) X.xe s
abbrev Lg(X:Cx)(st:List M')(t:TS):Prop :=
 ∀(pins:List (d8×Obj)) (s:d6) (σ:St) (H:Hp) (D:Ends),Inv X pins σ H s->t D σ H->d3 (eH X.prog X.w) X.A (execs st X.env) (SP X pins D) X.xe s
def JZ(h:d3 M A t Q E s)(b:∀a s,Q a s->Q' a s):d3 M A t Q' E s:=mA h b λ_ _ x=>x
section
abbrev Ja(i:Nat):TE:=λσ H Q=>∃v,σ[i]?=a5 (a5 v)/\Q v H
abbrev tC(v:V):TE:=λ_ H Q=>Q v H
def bT(g:X.N[i]?=a5 x)(j:LJ X.env.scope x)(b:(x==("__debug__":Str))=cc:=by decide)(k:(x==("__classdict__":Str))=cc:=by decide):PE X (.Name x pos) (Ja i):=by
 intro pins s σ H Q I h;have⟨v,e,h⟩:=h;have⟨m,n,hl⟩:=I.loc;have⟨u,r,l⟩:=hl i x v g e j;have a:EP X pins σ Q u s:=⟨v,H,I,r,h⟩
 rcases l with⟨hk,o⟩|⟨hk,c,d,f⟩
 .show Ė (wpAny_loadName_local I.ok.kind hk n o a) b
 .rcases hk with hk|hk
  .show Ė (wpAny_loadName_cell I.ok.kind hk d f a) b
  .show Ė (wpAny_loadName_free I.ok.kind hk d f a k) b
def xP:PE X (.Constant (.int i) j pos) (tC (.int i)):=λ_ _ _ H _ I h=>wpAny_Constant_int ⟨.int i,H,I.tok _,⟨_,rfl⟩,h⟩
def qi:PE X (.Constant (.bool b) j pos) (tC (.bl b)):=λ_ _ _ H _ I h=>Constant_bool ⟨.bl b,H,I,rfl,h⟩
def xQ:PE X (.Constant .none j pos) (tC .J0):=λ_ _ _ H _ I h=>Constant_none ⟨.J0,H,I,rfl,h⟩
def r9:PE X (.Constant (.str x) j pos) (tC (.str x)):=λ_ _ _ H _ I h=>Calls.Constant_str ⟨.str x,H,I.tok _,⟨_,rfl⟩,h⟩
abbrev Gl(X:Cx)(x:Str):Prop:=X.env.kindOf x=a5 .globalImplicit
def gu(I:Inv X pins σ H s)(a:Gl X x)(b:X.mg x=a5 u)(h:Q u s)
  (c:(x==("__debug__":Str))=cc:=by decide):d3 (eH X.prog X.w) X.A (ve (.Name x pos) X.env) Q E s :=
 XI I.ok.kind a (Calls.loadGlobal_global (by rw[I.ok.glob];show I.mod.glob.keeps I.bk) b h) c
def cW(I:Inv X pins σ H s)(a:Gl X x)(b:X.mg x=b6)(c:t5 x=a5 u)(h:Q u s)
  (d:x≠"__name__":=by decide) (e:(x==("__debug__":Str))=cc:=by decide):d3 (eH X.prog X.w) X.A (ve (.Name x pos) X.env) Q E s:=by
 have⟨i,f,g⟩:=I.mod.blt;show XI I.ok.kind a (Calls.loadGlobal_builtin (by rw[I.ok.glob];show I.mod.glob.keeps I.bk) b (by rw[I.ok.blt];show f.keeps I.bk) ((g x d).trans c) h) e
def uq(a:Gl X x)(b:X.mg x=b6)(c:t5 x=a5 u)(r:RelV v u)(d:x≠"__name__":=by decide)(e:(x==("__debug__":Str))=cc:=by decide):PE X (.Name x pos) (tC v) :=
 λ_ _ _ H _ I h=>cW I a b c ⟨v,H,I,r,h⟩ d e
abbrev PC(X:Cx)(c:Ĵ)(a b:kr)(t:TE):Prop :=
 ∀(pins:List (d8×Obj)) (s:d6) (σ:St) (H:Hp) (Q:VK),Inv X pins σ H s->t σ H Q ->
  d3 (eH X.prog X.w) X.A (ve a X.env) (λv d=>d3 (eH X.prog X.w) X.A (ve b X.env) (λu e=>d3 (eH X.prog X.w) X.A (O0 c v u) (EP X pins σ Q) X.xe e) X.xe d) X.xe s
abbrev tB(t:TE):TT:=λσ H Q=>t σ H λx a=>∃c,x=.bl c/\Q c a
def xR(h:PC X f a b t)(e:Sa f b=cc:=by first|show n _ (by decide) (by decide)|rfl):PT X (.Compare a [f] [b] pos) (tB t):=by
 intro pins s σ H Q I g;show ó (JZ (h pins s σ H _ I g) λv s1 e=>JZ e λu s2 i=>JZ i λc s3 ⟨x,j,k,l,m⟩=>?_) e;have⟨d,rfl,q⟩:=m;cases l;show Ku ⟨j,k,q⟩
abbrev Jb(t u:TT):TT:=λσ H Q=>t σ H λc a=>if c=bD then u σ a Q else Q cc a
abbrev XA(t u:TT):TT:=λσ H Q=>t σ H λc a=>if c=bD then Q bD a else u σ a Q
abbrev Jc(t:TT):TT:=λσ H Q=>t σ H λc a=>Q (!c) a
def Br(b:PT X a d):PW X (.BoolOp .And [a] pos) d:=by
 intro f pins s σ H Q I h;show isTrue_and (JZ (b pins s σ H Q I h) λc s1 e=>?_);cases c with
 |true=>show š e
 |false=>show e
def Ew(b:PT X a d):PW X (.BoolOp .Or [a] pos) d:=by
 intro f pins s σ H Q I h;show isTrue_or (JZ (b pins s σ H Q I h) λc s1 e=>?_);cases c with
 |false=>show isTrue_or_nil e
 |true=>show e
def Ey(g:PT X a i)(j:PW X (.BoolOp .And (b::rest) pos) k):PW X (.BoolOp .And (a::b::rest) pos) (Jb i k):=by
 intro l pins s σ H Q I h;show isTrue_and (JZ (g pins s σ H _ I h) λc s1 m=>?_);have⟨d,e,f⟩:=m;cases c with
 |true=>show j l pins s1 σ d Q e f
 |false=>show⟨d,e,f⟩
def GU(g:PT X a i)(j:PW X (.BoolOp .Or (b::rest) pos) k):PW X (.BoolOp .Or (a::b::rest) pos) (XA i k):=by
 intro l pins s σ H Q I h;show isTrue_or (JZ (g pins s σ H _ I h) λc s1 m=>?_);have⟨d,e,f⟩:=m;cases c with
 |true=>show⟨d,e,f⟩
 |false=>show j l pins s1 σ d Q e f
def Ez(b:PT X a d):PT X (.UnaryOp .Not a pos) (Jc d):=by
 intro pins s σ H Q I h;show isTrue_not (b pins s σ H (λc e=>Q (!c) e) I h)
abbrev GV(b d:TE):TE:=λσ H Q=>b σ H λx a=>∃c,x=.bl c/\if c=bD then d σ a Q else Q (.bl cc) a
abbrev GW(a:TE):TE:=λσ H Q=>a σ H λx b=>∃c,x=.bl c/\Q (.bl (!c)) b
def EA(h:PE X a t):PE X (.BoolOp c [a] pos) t:=λpins s σ H Q I b=>BoolOp_one (h pins s σ H Q I b)
def EB(g:PE X a i)(j:PE X (.BoolOp .And (b::rest) pos) k):PE X (.BoolOp .And (a::b::rest) pos) (GV i k):=by
 intro pins s σ H Q I h;show BoolOp_and (JZ (g pins s σ H _ I h) λv s1 l=>?_);have⟨x,e,f,m,d⟩:=l;have⟨c,rfl,d⟩:=d;cases m;show Ku ?_;cases c with
 |true=>show j pins s1 σ e Q f d
 |false=>show⟨.bl cc,e,f,rfl,d⟩
def EC(d:PE X a e):PE X (.UnaryOp .Not a pos) (GW e):=by
 intro pins s σ H Q I h;show UnaryOp_ (JZ (d pins s σ H _ I h) λv s1 f=>?_);have⟨x,g,i,j,b⟩:=f;have⟨c,rfl,b⟩:=b;cases j;show not_of (Ku ⟨.bl (!c),g,i,rfl,b⟩)
abbrev XF(t:TT)(b d:TE):TE:=λσ H Q=>t σ H λc a=>if c=bD then b σ a Q else d σ a Q
def xS(i:PT X c j)(k:PE X a l)(m:PE X b n):PE X (.IfExp c a b pos) (XF j l n):=by
 intro pins s σ H Q I h;show wpAny_IfExp (JZ (i pins s σ H _ I h) λd s1 o=>?_);have⟨e,f,g⟩:=o;cases d with
 |true=>show k pins s1 σ e Q f g
 |false=>show m pins s1 σ e Q f g
end
abbrev Ko(K:PySem.W.Frag)(H:Hp)(a:d8)(xs:List V):Prop :=
 Rd H a (.lst xs) \/
  ∃(o:Obj) (b:Array dV) (n:Nat),K.lookup a=a5 o/\o.cls=.type "list"/\o.dict=b6/\o.data=.seq b n/\b.size<=cL/\Vals xs b.toList
abbrev KA(K:PySem.W.Frag)(H:Hp)(a:d8)(xs:List V):Prop :=
 Rd H a (.tup xs) \/
  ∃(o:Obj) (b:Array dV) (n:Nat),K.lookup a=a5 o/\o.cls=.type "tuple"/\o.data=.seq b n/\b.size<=cL/\Vals xs b.toList
abbrev Jd:dV->Option V
 |.none=>a5 .J0
 |.bool b=>a5 (.bl b)
 |.int i _=>a5 (.int i)
 |.str x _=>a5 (.str x)
 |.bytes b _=>a5 (.R7 b)
 |.float b _=>a5 (.R8 b)
 |.ref a=>a5 (.ref a)
 |.type n=>a5 (.ty n)
 |_=>b6
def RelV.abs(r:RelV x u):Jd u=a5 x:=by
 cases x with
 |J0=>cases r;rfl
 |bl _=>cases r;rfl
 |ref _=>cases r;rfl
 |ty _=>cases r;rfl
 |_=>have⟨t,rfl⟩:=r;rfl
def RelV.inj(r:RelV x u)(q:RelV y u):x=y:=ti (r.abs.symm.trans q.abs)
theorem Vals.inj:∀{xs a:List V}{us:List dV},Vals xs us->Vals a us->xs=a
 |_,_,_,.nil,.nil=>rfl
 |_,_,_,.cons r t,.cons b t'=>by rw[r.inj b,Vals.inj t t']
section
def Ko.of{K:PySem.W.Frag}(h:H a=a5 (.lst xs)):Ko K H a xs:=.inl (.inl h)
def KA.of{K:PySem.W.Frag}(h:H a=a5 (.tup xs)):KA K H a xs:=.inl (.inl h)
def Inv.list(I:Inv X pins σ H s)(h:Ko X.K H a xs):∃b:List dV,Vals xs b/\PlainL s.heap a b.toArray/\xs.length<=cL:=by
 rcases h with h|⟨o,b,n,hk,c,d,hs,hz,r⟩
 .have⟨z,b,n,r,e⟩:=h.ok I.JV;show⟨b,r,⟨_,n,e,rfl,rfl,rfl⟩,z⟩
 .show⟨b.toList,r,⟨o,n,I.Nf a o hk,c,d,by simpa using hs⟩,?_⟩;have e:=r.length;simp only[hU]at e;lia
def Inv.tuple(I:Inv X pins σ H s)(h:KA X.K H a xs):∃b:List dV,Vals xs b/\ţ s.heap a b.toArray/\xs.length<=cL:=by
 rcases h with h|⟨o,b,n,hk,c,hs,hz,r⟩
 .have⟨z,b,r,p⟩:=h.ok I.JV;show⟨b,r,p,z⟩
 .show⟨b.toList,r,⟨o,I.Nf a o hk,c,n,by simpa using hs⟩,?_⟩;have e:=r.length;simp only[hU]at e;lia
def Inv.kW(I:Inv X pins σ H s)(h:Ko X.K H a xs)(h':Ko X.K H a c):xs=c:=by
 obtain⟨f,r,⟨o,n,e,_,_,d⟩,_⟩:=I.list h;obtain⟨its',g,⟨o',j,b,_,_,d'⟩,_⟩:=I.list h';rw[e]at b;cases b;rw[d]at d';injection d' with i _
 have:f=its':=by simpa using Ū Y6 i
 subst this;show r.inj g
def Inv.nj(I:Inv X pins σ H s)(h:KA X.K H a xs)(h':KA X.K H a c):xs=c:=by
 obtain⟨f,r,⟨o,e,_,n,d⟩,_⟩:=I.tuple h;obtain⟨its',g,⟨o',b,_,j,d'⟩,_⟩:=I.tuple h';rw[e]at b;cases b;rw[d]at d';injection d' with i _
 have:f=its':=by simpa using Ū Y6 i
 subst this;show r.inj g
end
@[reducible]def Cx.kn(X:Cx)(E:dV->d6->Prop):Cx:={X with xe:=E}
@[reducible]def Cx.MG(X:Cx):Cx:=X.kn λ_ _=>False
def Cx.Ok.kn{X:Cx}(a:X.Ok)(E:dV->d6->Prop):(X.kn E).Ok :=
 ⟨a.mod,a.kind,a.glob,a.blt,a.above,a.inj,a.has,a.P6,a.hd,a.frames,a.QG,a.Td,a.bs,a.N1,a.MQ,a.Nd,a.km,a.OX⟩
def Cx.Ok.fM{X:Cx}(a:(X.kn E).Ok):X.Ok :=
 ⟨a.mod,a.kind,a.glob,a.blt,a.above,a.inj,a.has,a.P6,a.hd,a.frames,a.QG,a.Td,a.bs,a.N1,a.MQ,a.Nd,a.km,a.OX⟩
section
def Inv.kn(I:Inv X pins σ H s)(E:dV->d6->Prop):Inv (X.kn E) pins σ H s:=⟨I.ok.kn E,I.os,I.bare,I.base,I.loc,I.cell,I.free,I.Ki,I.pin,I.JV,I.len⟩
def Inv.fM(I:Inv (X.kn E) pins σ H s):Inv X pins σ H s:=⟨I.ok.fM,I.os,I.bare,I.base,I.loc,I.cell,I.free,I.Ki,I.pin,I.JV,I.len⟩
def SP.fM(h:SP (X.kn E) pins D f s'):SP X pins D f s':=by
 cases f with
 |ret u=>have⟨v,a,H',I,r,q⟩:=h;show⟨v,a,H',I.fM,r,q⟩
 |_=>have⟨a,H',I,q⟩:=h;show⟨a,H',I.fM,q⟩
def Lg.MG{st:List M'}(h:Lg X.MG st t):Lg X st t:=λpins s σ H D I a =>
 mA (h pins s σ H D (I.kn _) a) (λ_ _ q=>q.fM) λ_ _ z=>Ni z
end
section
variable{X:Cx}{st:M'}{rest:List M'}{t u:TS}{e:kr}{te:TE}{pos:Pos}
abbrev GX:TS:=λD σ H=>D.nx σ H
abbrev Je(t u:TS):TS:=λD σ H=>t {D with nx:=u D} σ H
def ur:Lg X [] GX:=λ_ _ σ H _ I h=>S0 ⟨σ,H,I,h⟩
def qj(a:PS X st t)(b:Lg X rest u):Lg X (st::rest) (Je t u):=by
 intro pins s σ H D I h;show Ĺ (JZ (a pins s σ H {D with nx:=u D} I h) λf s1 q=>?_);cases f with
 |next =>
  have⟨c,H',d,q⟩:=q;show b pins s1 c H' D d q
 |_=>show q
def Inv.quiet(I:Inv X pins σ H s):interactive X.env=cc:=by simp[interactive,I.ok.kind]
abbrev GY(te:TE):TS:=λD σ H=>te σ H λ_ a=>D.nx σ a
def kK(a:PE X e te)(hs:PZ e b6 pos.line X.env=pure cc:=by rfl):PS X (.Expr e pos) (GY te):=by
 intro pins s σ H D I h;show ŏ (JZ (a pins s σ H _ I h) λv s1 ⟨x,b,c,f,d⟩=>⟨σ,b,c,d⟩) I.quiet hs
abbrev Jf(te:TE):TS:=λD σ H=>te σ H D.rt
def xT(a:PE X e te):PS X (.Return (a5 e) pos) (Jf te):=by
 intro pins s σ H D I h;show wpAny_Return_some (JZ (a pins s σ H _ I h) λv s1 ⟨x,b,c,d,f⟩=>⟨x,σ,b,c,d,f⟩)
abbrev GZ:TS:=λD _ H=>D.rt .J0 H
def Bs:PS X (.Return b6 pos) GZ:=λ_ _ σ H _ I h=>wpAny_Return_none ⟨.J0,σ,H,I,rfl,h⟩
abbrev Jg(c:TT)(t u:TS):TS:=λD σ H=>c σ H λb a=>if b=bD then t D σ a else u D σ a
def G0(j:PT X c k)(l:Lg X a t)(m:Lg X b u):PS X (.If c a b pos) (Jg k t u):=by
 intro pins s σ H D I h;show wpAny_If (JZ (j pins s σ H _ I h) λd s1 n=>?_);have⟨f,g,i⟩:=n;cases d with
 |true=>show l pins s1 σ f D g i
 |false=>show m pins s1 σ f D g i
end
@[reducible]def TG:=V->St->Hp->(St->Hp->Prop)->Prop
@[reducible]def P9:=List V->St->Hp->(St->Hp->Prop)->Prop
abbrev PG(X:Cx)(a:kr)(t:TG):Prop :=
 ∀(pins:List (d8×Obj)) (s:d6) (σ:St) (H:Hp) (v:V) (u:dV) (Q:St->Hp->Prop),Inv X pins σ H s->RelV v u->t v σ H Q ->
  d3 (eH X.prog X.w) X.A (Tx a X.env u) (λ_ s'=>∃b H',Inv X pins b H' s'/\Q b H') X.xe s
abbrev QK(X:Cx)(ts:List kr)(t:P9):Prop :=
 ∀(pins:List (d8×Obj)) (s:d6) (σ:St) (H:Hp) (vs:List V) (us:List dV) (Q:St->Hp->Prop),Inv X pins σ H s->Vals vs us->t vs σ H Q ->
  d3 (eH X.prog X.w) X.A (assignInOrder ((Q2 ts X.env).map (·.2)) us) (λ_ s'=>∃a H',Inv X pins a H' s'/\Q a H') X.xe s
@[reducible]def ED:=V->V->V->Hp->(Hp->Prop)->Prop
abbrev oO(X:Cx)(t:ED):Prop :=
 ∀(pins:List (d8×Obj)) (s:d6) (σ:St) (H:Hp) (o i v:V) (a b u:dV) (Q:Hp->Prop),Inv X pins σ H s->RelV o a->RelV i b->RelV v u->t o i v H Q ->
  d3 (eH X.prog X.w) X.A (U3 a b u) (λ_ s'=>∃H',Inv X pins σ H' s'/\Q H') X.xe s
@[reducible]def Tg:=V->V->Hp->VK->Prop
abbrev Sb(X:Cx)(a:ă)(t:Tg):Prop :=
 ∀(pins:List (d8×Obj)) (s:d6) (σ:St) (H:Hp) (x y:V) (v u:dV) (Q:VK),Inv X pins σ H s->RelV x v->RelV y u->t x y H Q ->
  d3 (eH X.prog X.w) X.A (inplaceOp a v u) (EP X pins σ Q) X.xe s
section
abbrev uu(i:Nat):TG:=λv σ H Q=>Q (σ.set i (a5 v)) H
def uw(a:X.N.Nodup)(b:X.N[i]?=a5 x)(c:Loc X.env.scope x)(d:X.fn x=bD\/X.env.scope.names.lookup x=a5 .local:=by first|show .inl rfl|show .inr rfl|assumption):PG X (.Name x pos) (uu i):=by
 intro pins s σ H v u Q I r h;show Ħ (iA I a b c r (λs' e=>⟨_,H,e,h⟩) d)
abbrev G1:P9:=λvs σ H Q=>vs=[]/\Q σ H
abbrev DN(t:TG)(u:P9):P9:=λvs σ H Q=>∃v r,vs=v::r/\t v σ H λa H'=>u r a H' Q
def Bt:QK X [] G1:=by
 intro pins s σ H vs us Q I r h;have⟨e,h⟩:=h;subst e;cases r;show assignInOrder_nil ⟨σ,H,I,h⟩
def xU(a:PG X e t)(b:QK X es u)
  (hs:(Q2 (e::es) X.env).map (·.2)=Tx e X.env::(Q2 es X.env).map (·.2):=by rfl):QK X (e::es) (DN t u):=by
 intro pins s σ H vs us Q I r h;have⟨v,l,c,h⟩:=h;subst c;cases r with
 |cons r d =>
  rw[hs];show assignInOrder_cons (JZ (a pins s σ H _ _ _ I r h) λ_ s1 f=>?_);have⟨g,i,j,k⟩:=f;show b pins s1 g i _ _ Q j d k
abbrev Jh(K:PySem.W.Frag)(n:Nat)(t:P9):TG:=λv σ H Q=>∃a xs,v=.ref a/\KA K H a xs/\xs.length=n/\t xs σ H Q
def EF(d:X.calm=bD)(h:QK X es t)
  (f:(Q2 es X.env).length=n:=by rfl) (g:(Q2 es X.env).findIdx? (·.1)=b6:=by rfl):PG X (.Tuple es k pos) (Jh X.K n t):=by
 intro pins s σ H v u Q I r c;have⟨a,xs,i,j,hl,c⟩:=c;subst i;cases r;have⟨q,rv,l,hz⟩:=I.tuple j;show assign_Tuple_tuple (I.ok.hd d) l (by simp[f,<-hl,rv.length]) g λh' m=>?_;have p:Inv X pins σ H {s with heap:=h' }:=I.kept (t':=s.toks) λb o e=>m b o (hW (ez e)) e;show h pins _ σ H xs _ Q p (by simpa using rv) c
abbrev Ji(a b:TE)(t:ED):TG:=λv σ H Q=>a σ H λo c=>b σ c λi d=>t o i v d λe=>Q σ e
def xV(ho:PE X o c)(d:PE X i e)(hs:oO X t)
  (f:∀v,Tx (.Subscript o i pos) X.env v=(do
   let a <-NJ [v] (ve o X.env)
   let b <-NJ [v,a] (ve i X.env)
   Zc pos
   NJ [v,a,b] (U3 a b v)
   Xv [v,a,b] []):=by intro _;rfl):PG X (.Subscript o i pos) (Ji c e t):=by
 intro pins s σ H v u Q I r h;rw[f];show b8 (t6 (JZ (ho pins s σ H _ I h) λa s1 g=>?_));have⟨x,j,k,l,m⟩:=g;show b8 (t6 (JZ (d pins s1 σ j _ k m) λb s2 n=>?_));have⟨y,p,q,w,z⟩:=n;show b8 (Ë (b8 (t6 (JZ (hs pins s2 σ p x y v a b u _ q l w r z) λ_ s3 A=>?_))));have⟨B,C,D⟩:=A;show wpAny_release ⟨σ,B,C,D⟩
abbrev EG(a:TE)(g:TG):TS:=λD σ H=>a σ H λx b=>g x σ b D.nx
def r_(b:PE X e c)(d:PG X a g)(hs:R' [a] e pos.line X.env=pure cc:=by rfl)(f:WI [a] e X.env=pure b6:=by rfl)
  (i:(Q2 [a] X.env).map (·.2)=[Tx a X.env]:=by rfl):PS X (.Assign [a] e pos) (EG c g):=by
 intro pins s σ H D I h;show wpAny_Assign_stores (JZ (b pins s σ H _ I h) λv s1 ⟨x,j,k,l,m⟩=>?_) hs f;rw[i];show JZ (d pins s1 σ j x v _ k l m) λ_ s2 q=>q
def sd(a:X.N.Nodup)(b:X.N[i]?=a5 x)(c:Loc X.env.scope x)(d:PE X e f)(hs:PZ e (a5 (.Name x pos')) pos.line X.env=pure cc:=by rfl)(g:X.fn x=bD\/X.env.scope.names.lookup x=a5 .local:=by first|show .inl rfl|show .inr rfl|assumption):
  PS X (.Assign [.Name x pos'] e pos) (EG f (uu i)):=by
 intro pins s σ H D I h;show ħ (JZ (d pins s σ H _ I h) λv s1 ⟨y,j,k,l,m⟩=>?_) hs;show iA k a b c l (λs2 n=>⟨_,j,n,m⟩) g
abbrev G2(a b c:TE)(d:V->V->Hp->VK->Prop)(e:Tg)(f:ED):TS:=λD σ H=>a σ H λo g=>b σ g λi h=>d o i h λx j=>c σ j λy k=>e x y k λz l=>f o i z l λm=>D.nx σ m
abbrev G3(X:Cx)(t:V->V->Hp->VK->Prop):Prop :=
 ∀(pins:List (d8×Obj)) (s:d6) (σ:St) (H:Hp) (o i:V) (a b:dV) (Q:VK),Inv X pins σ H s->RelV o a->RelV i b->t o i H Q ->
  d3 (eH X.prog X.w) X.A (XB a b) (EP X pins σ Q) X.xe s
def Bu(ho:PE X o k)(l:PE X i m)(n:G3 X p)(q:PE X e r)(t:Sb X u w)(hs:oO X x)
  (y:∀a b new,Ŗ i a b new=(do NJ [new,a,b] (U3 a b new);Xv [new,a,b] [];pure .next):=by intros;rfl):PS X (.AugAssign (.Subscript o i XN) u e pos) (G2 k m r p w x):=by
 intro pins s σ H D I h;show wpAny_AugAssign_SubscriptAny (JZ (ho pins s σ H _ I h) λa s1 ⟨d,z,A,f,B⟩=>?_) y;show JZ (l pins s1 σ z _ A B) λb s2 C=>?_;have⟨g,G,J,j,L⟩:=C;show JZ (n pins s2 σ G d g a b _ J f j L) λc s3 N=>?_;have⟨O,Q,T,Y,q3⟩:=N;show JZ (q pins s3 σ Q _ T q3) λv s4 To=>?_;have⟨x4,H4,I4,r4,q4⟩:=To;show JZ (t pins s4 σ H4 O x4 c v _ I4 Y r4 q4) λnew s5 Tq=>?_;have⟨x5,H5,I5,r5,q5⟩:=Tq;show JZ (hs pins s5 σ H5 d g x5 a b new _ I5 f j r5 q5) λ_ s6 ⟨H6,I6,q6⟩=>⟨σ,H6,I6,q6⟩
abbrev Tr(f:Int->Int->Int):Tg:=λx y H Q=>∃i j,x=.int i/\y=.int j/\Q (.int (f i j)) H
def EH:Sb X .Add (Tr λi j=>i+j):=by
 intro pins s σ H x y v u Q I a b h;have⟨i,j,c,d,q⟩:=h;subst c;subst d;have⟨t,rfl⟩:=a;have⟨t',rfl⟩:=b;show iadd_int ⟨.int _,H,I.tok _,⟨_,rfl⟩,q⟩
def EI:Sb X .Sub (Tr λi j=>i - j):=by
 intro pins s σ H x y v u Q I a b h;have⟨i,j,c,d,q⟩:=h;subst c;subst d;have⟨t,rfl⟩:=a;have⟨t',rfl⟩:=b;show isub_int ⟨.int _,H,I.tok _,⟨_,rfl⟩,q⟩
end
section
abbrev EJ(c:TT)(f:TS):TS:=λD σ H=>∃W:Nat->St->Hp->Prop,(∃m,W m σ H)/\∀m σ H,W m σ H ->
 c σ H λb a=>if b=bD then ∃N:St->Hp->Prop,(∀d H',N d H'->∃e,e<m/\W e d H')/\f {D with nx:=N,ct:=N,bk:=D.nx} σ a else D.nx σ a
def xW(q:Ym (eH X.prog X.w) X.A X.env X.xe)(y:PT X c z)(B:Lg X body C):PS X (.While c body [] pos) (EJ z C):=by
 intro pins s σ H D I h;obtain⟨W,⟨m0,G⟩,a⟩:=h;show wpAny_While (codeAny_whileLoop (λn s'=>∃r H',Inv X pins r H' s'/\W n r H') ?_ m0 ⟨σ,H,I,G⟩);rintro n s1 ⟨g,t,J,L⟩;show OD q (JZ (y pins s1 g t _ J (a n g t L)) λb s2 O=>?_);have⟨u,v,i⟩:=O;cases b with
 |true =>
  have⟨N,x,i⟩:=i;rw[ť rfl];show OD q (JZ (B pins s2 g u _ v i) λf s3 j=>?_);cases f with
  |next =>
   have⟨d,e,k,l⟩:=j;have⟨m,o,p⟩:=x d e l;show⟨m,o,d,e,k,p⟩
  |cont =>
   have⟨d,e,k,l⟩:=j;have⟨m,o,p⟩:=x d e l;show⟨m,o,d,e,k,p⟩
  |_=>show j
 |false =>
  rw[Ŧ i7];show S0 ⟨g,u,v,i⟩
end
structure It where
 go:Nat->Hp->Prop
 Sd:Nat->Hp->V->Hp->Prop
 stop:Nat->Hp->Prop
abbrev iB(X:Cx)(pins:List (d8×Obj))(H:Hp)(b:d8):Prop :=
 H b=b6/\b≠X.env.locals/\b∉X.fs/\(b∈X.ex\/X.s₀.heap.objs.size<=b)/\(∀x c,X.env.cells.lookup x=a5 c->c≠b)/\∀p∈X.pn++pins,p.1≠b
def Inv.v_(I:Inv X pins σ H s)(a:s.heap.objs.size<=b)(d:H' b=b6):iB X pins H' b:=by
 show⟨d,K2 (i5 I.lt a),I.Eu a,.inr (vr I.sz a),λx c e z=>?_,λp f z=>?_⟩
 .have⟨v,q⟩:=I.cell x c e;show absurd (i5 q.lt (by rw[z];show a)) (uv _)
 .show absurd (i5 (ez (I.pin p f).1) (by rw[z];show a)) (uv _)
structure Turn(P:va)(w:w6)(K:PySem.W.Frag)(tg:kr)(J:It)(fp:List d8)(it:d8)(tn:Nat->KX->Prop):Prop where
 mem:it∈fp
 obj:∀i h,tn i h->∀b∈fp,∃o,h.get? b=a5 o/\∀v,o.data≠.cell v
 keep:∀i h h',tn i h->(∀b∈fp,∀o,h.get? b=a5 o->h'.get? b=a5 o)->tn i h'
 item:∀(X:Cx),X.prog=P->X.w=w->X.K=K->X.calm=bD->∀(i:Nat) (pins:List (d8×Obj)) (s:d6) (σ:St) (H:Hp) (E:dV->d6->Prop),Inv X pins σ H s->(∀b∈fp,iB X pins H b)->tn i s.heap->J.go i H ->
  d3 (eH P w) X.A (U_ (.ref it)) (λr s1=>∃u,r=a5 u /\
   d3 (eH P w) X.A (VE tg (.ref it) u) (λ_ s2=>∃x H',Inv X pins σ H' s2/\RelV x u/\J.Sd i H x H'/\tn (i+1) s2.heap/\∀b∈fp,H' b=b6) E s1) E s
 done:∀(X:Cx),X.prog=P->X.w=w->X.K=K->X.calm=bD->∀(i:Nat) (pins:List (d8×Obj)) (s:d6) (σ:St) (H:Hp) (E:dV->d6->Prop),Inv X pins σ H s->(∀b∈fp,iB X pins H b)->tn i s.heap->J.stop i H ->
  d3 (eH P w) X.A (U_ (.ref it)) (λr s1=>r=b6/\Inv X pins σ H s1) E s
 self:∀(A:N5) (i:Nat) (s:d6) (Q:dV->d6->Prop) (E:dV->d6->Prop),tn i s.heap->Q (.ref it) s->d3 (eH P w) A (ZS (.ref it)) Q E s
@[reducible]def TI:=St->Hp->(It->Hp->Prop)->Prop
abbrev V9(X:Cx)(pins:List (d8×Obj))(σ:St)(d:kr)(R:It->Hp->Prop)(e:dV)(s2:d6):Prop :=
 ∃(it:d8) (a:List d8) (c:Nat->KX->Prop) (J:It) (H':Hp),e=.ref it/\Inv X pins σ H' s2/\Turn X.prog X.w X.K d J a it c/\c 0 s2.heap/\(∀b∈a,iB X pins H' b)/\R J H'
abbrev PI(X:Cx)(b a:kr)(c:TI):Prop :=
 ∀(pins:List (d8×Obj)) (s:d6) (σ:St) (H:Hp) (R:It->Hp->Prop),Inv X pins σ H s->c σ H R ->
  d3 (eH X.prog X.w) X.A (ve a X.env) (λv s1=>d3 (eH X.prog X.w) X.A (ZS v) (V9 X pins σ b R) X.xe s1) X.xe s
def uA(ho:s.heap.get? it=a5 o)(b:o.cls=.type n)(c:o.data=.fields vs)
    (d:["enumerate","zip","dict_itemiterator","dict_reverseitemiterator","odict_iterator","itertools.zip_longest","itertools.pairwise"].contains n=cc) (a:Q () s):d3 M A (VE e (.ref it) u) Q E s:=by
  unfold VE;cases e<;>first
    | show df a
    | (cases u<;>first
        | show df a
        | (show b8 (Ĕ ho ?_)
           rw[b,c];change d3 M A (if (["enumerate","zip","dict_itemiterator","dict_reverseitemiterator","odict_iterator","itertools.zip_longest","itertools.pairwise"].contains n&&vs[0]?==a5 (u7 _))=bD then _ else _) Q E s;rw[Ŧ (by intro h;rw[d,ē]at h;cases h)];show df a))
abbrev Tt(K:PySem.W.Frag)(a:d8):It :=
 ⟨λi H=>∃xs x,Ko K H a xs/\xs[i]?=a5 x,λi H x H'=>H'=H/\∀xs,Ko K H a xs->xs[i]?=a5 x,λi H=>∃xs,Ko K H a xs/\xs.length<=i⟩
abbrev Tu(K:PySem.W.Frag)(a:d8):It :=
 ⟨λi H=>∃xs x,KA K H a xs/\xs[i]?=a5 x,λi H x H'=>H'=H/\∀xs,KA K H a xs->xs[i]?=a5 x,λi H=>∃xs,KA K H a xs/\xs.length<=i⟩
abbrev Sf(lo:Int)(n:Nat):It:=⟨λi _=>i<n,λi H x H'=>H'=H/\x=.int (lo+i),λi _=>n<=i⟩
def wa{K:PySem.W.Frag}(a it:d8):Turn P w K tg (Tt K a) [it] it (λi h=>h.IsListIter it a i) where
 mem:=by simp
 obj:=λi h st b f=>by
  have e:b=it:=by simpa using f
  subst e;have⟨o,e,c,d⟩:=st;show⟨o,e,λv z=>by rw[d]at z;cases z⟩
 keep:=λi h h' st k=>st.at λo e=>k it (by simp) o e
 item:=by
  intro X l m n D i pins s σ H E I g st q;subst l m n;have⟨xs,x,j,r⟩:=q;have⟨G,rv,p,hz⟩:=I.list j;have⟨u,J,L⟩:=rv.get r;have⟨t,y,N,A,B,C⟩:=g it (by simp);show wpAny_pyNext_list_item st p.isList (x:=u) (by simpa using J) λh' st' O=>?_;have Q:Inv X pins σ H {s with heap:=h' }:=I.turned (t':=s.toks) (λb o f e=>(O.2 b f).trans e) t y A B C;have⟨o,e,c,d⟩:=id st';show⟨u,rfl,uA (s:={s with heap:=h' }) e c d (by decide) ⟨x,H,Q,L,⟨rfl,λys T=>by rw[I.kW T j];show r⟩,st',λb f=>(g b f).1⟩⟩
 done:=by
  intro X l m n D i pins s σ H E I g st q;subst l m n;have⟨xs,j,r⟩:=q;have⟨G,rv,p,hz⟩:=I.list j;have⟨t,y,N,A,B,C⟩:=g it (by simp);have hl:=rv.length;show wpAny_pyNext_list_end (I.ok.hd D) st p.isList (by simp;lia) λh' Y=>⟨rfl,I.turned (t':=s.toks) (λb o f e=>Y b o f e) t y A B C⟩
 self:=λ_ _ _ _ _ st h=>wpAny_pyIter_listiter st h
def se{K:PySem.W.Frag}(a it:d8):Turn P w K tg (Tu K a) [it] it (λi h=>h.IsTupleIter it a i) where
 mem:=by simp
 obj:=λi h st b f=>by
  have e:b=it:=by simpa using f
  subst e;have⟨o,e,c,d⟩:=st;show⟨o,e,λv z=>by rw[d]at z;cases z⟩
 keep:=λi h h' st k=>st.at λo e=>k it (by simp) o e
 item:=by
  intro X l m n G i pins s σ H E I g st q;subst l m n;have⟨xs,x,j,r⟩:=q;have⟨t,rv,p,hz⟩:=I.tuple j;have⟨u,J,L⟩:=rv.get r;have⟨y,A,N,B,C,D⟩:=g it (by simp);show wpAny_pyNext_tuple_item st (show s.heap.IsTuple a t.toArray from p) (x:=u) (by simpa using J) λh' st' O=>?_;have Q:Inv X pins σ H {s with heap:=h' }:=I.turned (t':=s.toks) (λb o f e=>(O.2 b f).trans e) y A B C D;have⟨o,e,c,d⟩:=id st';show⟨u,rfl,uA (s:={s with heap:=h' }) e c d (by decide) ⟨x,H,Q,L,⟨rfl,λys T=>by rw[I.nj T j];show r⟩,st',λb f=>(g b f).1⟩⟩
 done:=by
  intro X l m n G i pins s σ H E I g st q;subst l m n;have⟨xs,j,r⟩:=q;have⟨t,rv,p,hz⟩:=I.tuple j;have⟨y,A,N,B,C,D⟩:=g it (by simp);have hl:=rv.length;show wpAny_pyNext_tuple_end (I.ok.hd G) st (show s.heap.IsTuple a t.toArray from p) (by simp;lia) λh' Y=>⟨rfl,I.turned (t':=s.toks) (λb o f e=>Y b o f e) y A B C D⟩
 self:=λ_ _ _ _ _ st h=>wpAny_pyIter_tupleiter st h
def sf{K:PySem.W.Frag}(it:d8)(lo:Int)(n:Nat):Turn P w K J (Sf lo n) [it] it (λi h=>IsRangeIter h it (lo+(i:Nat) * 1) ((n:Int) - (i:Nat)) 1) where
 mem:=by simp
 obj:=λi h st b a=>by
  have e:b=it:=by simpa using a
  subst e;show⟨_,st,λv z=>by
   have y:UW _=Y2 v:=z;cases y⟩
 keep:=λi h h' st k=>k it (by simp) _ st
 item:=by
  intro X d f g j i pins s σ H E I c st l;subst d f g;have⟨m,p,A,q,r,u⟩:=c it (by simp);have W:=Walks.range (prog:=X.prog) (w:=X.w) (I.ok.hd j) it lo 1 n;show W.item i s _ _ l st λv h' x B st' C=>?_;have⟨t,rfl⟩:=B;have D:Inv X pins σ H {s with heap:=h',toks:=x}:=I.turned (λb o a e=>C b o (by simpa using a) e) m p q r u;show⟨_,rfl,uA (s:={s with heap:=h',toks:=x}) (n:="range_iterator") st' rfl rfl (by decide) ⟨.int (lo+i),H,D,⟨t,?_⟩,⟨rfl,rfl⟩,st',λb a=>(c b a).1⟩⟩;rw[Int.mul_one]
 done:=by
  intro X d f g j i pins s σ H E I c st l;subst d f g;have⟨m,p,A,q,r,u⟩:=c it (by simp);show wpAny_pyNext_range_end (I.ok.hd j) st (by have:n<=i:=l;lia) λh' G=>⟨rfl,I.turned (t':=s.toks) (λb o a e=>G b o a e) m p q r u⟩
 self:=λ_ _ _ _ _ st h=>wpAny_pyIter_rangeiter st h
section
abbrev G4(K:PySem.W.Frag)(c:TE):TI:=λσ H R=>c σ H λx b=>∃a,x=.ref a/\(∃xs,Ko K b a xs)/\R (Tt K a) b
abbrev Jj(K:PySem.W.Frag)(c:TE):TI:=λσ H R=>c σ H λx b=>∃a,x=.ref a/\(∃xs,KA K b a xs)/\R (Tu K a) b
def Bw(hl:PE X l d):PI X n l (G4 X.K d):=by
 intro pins s σ H R I h;show JZ (hl pins s σ H _ I h) λv s1 f=>?_;have⟨x,g,c,i,j⟩:=f;obtain⟨a,e,⟨xs,k⟩,q⟩:=j;subst e;cases i;have⟨r,rv,p,hz⟩:=c.list k;show Xn p.isList ?_;show⟨s1.heap.objs.size,[s1.heap.objs.size],_,_,g,rfl,c.kept (t':=s1.toks) λb o e=>c2 _ e,wa a _,⟨_,fx _ rfl,rfl,rfl⟩,λb m=>?_,q⟩;have e:b=s1.heap.objs.size:=by simpa using m
 subst e;show c.v_ (hV _) (c.JV.fresh (hV _))
def EK(hl:PE X l d):PI X r l (Jj X.K d):=by
 intro pins s σ H R I h;show JZ (hl pins s σ H _ I h) λv s1 f=>?_;have⟨x,g,c,i,j⟩:=f;obtain⟨a,e,⟨xs,k⟩,q⟩:=j;subst e;cases i;have⟨m,rv,p,hz⟩:=c.tuple k;show QV (show s1.heap.IsTuple a m.toArray from p) ?_;show⟨s1.heap.objs.size,[s1.heap.objs.size],_,_,g,rfl,c.kept (t':=s1.toks) λb o e=>c2 _ e,se a _,⟨_,fx _ rfl,rfl,rfl⟩,λb n=>?_,q⟩;have e:b=s1.heap.objs.size:=by simpa using n
 subst e;show c.v_ (hV _) (c.JV.fresh (hV _))
def xX{lo a:Int}(I:Inv X pins σ H s)(f:-(2 ^ 62)<=lo)(g:lo<2 ^ 62)(h:-(2 ^ 62)<=a)(i:a<2 ^ 62)
  (q:R (Sf lo (a - lo).toNat) H):d3 (eH X.prog X.w) X.A (ZS (.ref s.heap.objs.size)) (V9 X pins σ m R) E {s with heap:=s.heap.push {cls:=.type "range",data:=.fields #[.int lo t,.int a u,.int 1 v]},toks:=d}:=by
 show wpAny_pyIter_range (IsRange.new ..) (small_one f g h i) ?_;have c:Inv X pins σ H {s with heap:=s.heap.push {cls:=.type "range",data:=.fields #[.int lo t,.int a u,.int 1 v]},toks:=d}:=I.kept λb o e=>c2 _ e;show⟨(s.heap.push {cls:=.type "range",data:=.fields #[.int lo t,.int a u,.int 1 v]}).objs.size,[(s.heap.push {cls:=.type "range",data:=.fields #[.int lo t,.int a u,.int 1 v]}).objs.size],_,_,H,rfl,
  c.kept (t':=d) λb o e=>c2 _ e,sf _ lo (a - lo).toNat,?_,λb j=>?_,q⟩
 .have k:lo+((0:Nat):Int) * 1=lo:=by simp
  have l:(((a - lo).toNat:Nat):Int) - ((0:Nat):Int)=ł lo a 1:=by rw[rangeSize_one];split<;>lia
  change IsRangeIter _ _ (lo+((0:Nat):Int) * 1) ((((a - lo).toNat:Nat):Int) - ((0:Nat):Int)) 1;rw[k,l];show fx _ rfl
 .have e:b=(s.heap.push {cls:=.type "range",data:=.fields #[.int lo t,.int a u,.int 1 v]}).objs.size:=by simpa using j
  subst e;show c.v_ (hV _) (c.JV.fresh (hV _))
abbrev G5(a:TA):TI:=λσ H R=>a σ H λvs b=>∃j:Int,vs=[.int j]/\-(2 ^ 62)<=j/\j<2 ^ 62/\R (Sf 0 j.toNat) b
def wb(c:Gl X "range")(d:X.mg "range"=b6)(f:PA X [a] g)(hs:hZ [a] X.env=[(cc,ve a X.env)]:=by rfl):PI X n (.Call (.Name "range" p) [a] [] pos) (G5 g):=by
 intro pins s σ H R I h;show Call_ (cW I c d boot_range (K5 (JZ (f pos pins s σ H _ I h) λus s1 ⟨vs,o,i,k,b⟩=>?_) hs rfl));have⟨j,e,b,l,q⟩:=b;subst e;cases k with
 |cons r m =>
  cases m;have⟨t,rfl⟩:=r;show call_range_1 (xX i ⋯ ⋯ b l (by simpa using q))
abbrev Jk(c:TI)(g:TG)(d:TS):TS:=λD σ H=>c σ H λJ e=>∃W:Nat->Nat->St->Hp->Prop,(∃m,W 0 m σ e)/\∀i m σ H,W i m σ H ->
 (J.stop i H/\D.nx σ H)\/(J.go i H/\∃N:St->Hp->Prop,(∀a H',N a H'->∃b,b<m/\W (i+1) b a H')/\∀x H',J.Sd i H x H'->g x σ H' λf h=>d {D with nx:=N,ct:=N,bk:=D.nx} f h)
abbrev kX(a:List d8)(h:KX):List (d8×Obj):=a.filterMap λb=>(h.get? b).map λo=>(b,o)
def fh(a:b∈c)(e:h.get? b=a5 o):(b,o)∈kX c h:=P'.mpr ⟨b,a,by rw[e];rfl⟩
def wc(a:p∈kX c h):p.1∈c/\h.get? p.1=a5 p.2:=by
 have⟨b,d,e⟩:=P'.mp a;cases q:h.get? b with
 |none=>rw[q]at e;cases e
 |some o =>
  rw[q]at e;have f:(b,o)=p:=ti e;subst f;show⟨d,q⟩
def Inv.pinned(I:Inv X pins σ H s)(g:∀b∈a,iB X pins H b)(ho:∀b∈a,∃o,s.heap.get? b=a5 o/\∀v,o.data≠.cell v):Inv X (pins++kX a s.heap) σ H s :=
 I.eF λp h=>(hQ.mp h).elim (λz=>I.pin p (mx _ z)) λz=>by
  have⟨c,e⟩:=wc z;obtain⟨i,j,k,_⟩:=g p.1 c;have⟨o,f,d⟩:=ho p.1 c;rw[e]at f;cases f;show⟨e,i,j,k,d⟩
def Inv.kY(I:Inv X (pins++b) σ H s):Inv X pins σ H s:=I.eF λp a=>I.pin p (mx _ (RN _ a))
def EL(q:Ym (eH X.prog X.w) X.A X.env X.xe)(hc:X.calm=bD)(hi:PI X tg l wi)(hg:PG X tg g)(a:Lg X body tb)
  (hs:∀x,MR l X.env x=pure x:=by intro _;rfl):PS X (.For tg l body [] pos) (Jk wi g tb):=by
 intro pins s σ H D I h;show wpAny_For (JZ (hi pins s σ H _ I h) λv s1 h1=>JZ h1 λSe s2 h2=>?_) hs;obtain⟨it,t,tn,J,H2,e,I2,T,st2,f2,W,⟨m0,w0⟩,y⟩:=h2;subst e;have L:∀{H':Hp},(∀b∈t,H' b=b6)->∀b∈t,iB X pins H' b:=λhn b a=>⟨hn b a,(f2 b a).2⟩
 show codeAny_forLoop_any (λn s'=>∃i z H',Inv X pins z H' s'/\tn i s'.heap/\(∀b∈t,H' b=b6)/\W i n z H') ?_ m0 ⟨0,σ,H2,I2,st2,λb a=>(f2 b a).1,w0⟩;rintro n s3 ⟨i,B,G,I3,Kr,QL,w3⟩;rcases y i n B G w3 with⟨C,qn⟩|⟨go,N,hN,ý⟩
 .show OD q (JZ (T.done X rfl rfl rfl hc i pins s3 B G X.xe I3 (L QL) Kr C) λr s4 Tz=>?_);have⟨O,I4⟩:=Tz;subst O;show S0 ⟨B,G,I4,qn⟩
 .show OD q (JZ (T.item X rfl rfl rfl hc i pins s3 B G X.xe I3 (L QL) Kr go) λr s4 TB=>?_);have⟨u,O,h4⟩:=TB;subst O;show OD q (JZ h4 λ_ s5 TC=>?_);have⟨x,H5,I5,r5,y5,Q,TF⟩:=TC;have TH:=I5.pinned (L TF) (T.obj _ _ Q);show OD q (JZ (hg _ s5 B H5 x u _ TH r5 (ý x H5 y5)) λ_ s6 TJ=>?_);have⟨σ6,H6,I6,q6⟩:=TJ;show OD q (JZ (a _ s6 σ6 H6 _ I6 q6) λf Y p=>?_);have Ř:∀{c:St} {j:Hp},Inv X (pins++kX t s5.heap) c j Y->N c j->∃m,m<n/\∃i z H',Inv X pins z H' Y/\tn i Y.heap/\(∀b∈t,H' b=b6)/\W i m z H':=λ{c j} k n7=>by
   have⟨m',hm,w7⟩:=hN c j n7;show⟨m',hm,i+1,c,j,k.kY,T.keep _ _ _ Q λb a o e=>(k.pin (b,o) (mx _ (mx _ (fh a e)))).1,λb a=>?_,w7⟩;have⟨o,e,d⟩:=T.obj _ _ Q b a;show(k.pin (b,o) (mx _ (mx _ (fh a e)))).2.1
  cases f with
  |brk=>have⟨c,j,k,p⟩:=p;show⟨c,j,k.kY,p⟩
  |ret v=>have⟨x7,c,j,k,r7,p⟩:=p;show⟨x7,c,j,k.kY,r7,p⟩
  |_=>have⟨c,j,k,n7⟩:=p;show Ř k n7
end
@[reducible]def R2:=V->V->Hp->VK->Prop
abbrev LY(X:Cx)(f:dV->dV->Sem dV)(r:R2):Prop :=
 ∀(pins:List (d8×Obj)) (s:d6) (σ:St) (H:Hp) (x y:V) (v u:dV) (Q:VK),Inv X pins σ H s->RelV x v->RelV y u->r x y H Q ->
  d3 (eH X.prog X.w) X.A (f v u) (EP X pins σ Q) X.xe s
abbrev TK(X:Cx)(f:dV->Sem dV)(r:V->Hp->VK->Prop):Prop :=
 ∀(pins:List (d8×Obj)) (s:d6) (σ:St) (H:Hp) (x:V) (v:dV) (Q:VK),Inv X pins σ H s->RelV x v->r x H Q ->
  d3 (eH X.prog X.w) X.A (f v) (EP X pins σ Q) X.xe s
abbrev jW(X:Cx)(f:dV)(r:List V->Hp->VK->Prop):Prop :=
 ∀(pins:List (d8×Obj)) (s:d6) (σ:St) (H:Hp) (xs:List V) (us:List dV) (Q:VK),Inv X pins σ H s->Vals xs us->r xs H Q ->
  d3 (eH X.prog X.w) X.A (OS f us) (EP X pins σ Q) X.xe s
abbrev Jl(X:Cx)(r:V->Hp->(Bool->Hp->Prop)->Prop):Prop :=
 ∀(pins:List (d8×Obj)) (s:d6) (σ:St) (H:Hp) (x:V) (v:dV) (Q:Bool->Hp->Prop),Inv X pins σ H s->RelV x v->r x H Q ->
  d3 (eH X.prog X.w) X.A (Ő v) (TP X pins σ Q) X.xe s
abbrev XO(r:V->Hp->VK->Prop)(a:TE):TE:=λσ H Q=>a σ H λx b=>r x b Q
abbrev rI(C:Int->Int->Prop)(g:Int->Int->V):R2:=λx y H Q=>∃i j,x=.int i/\y=.int j/\C i j/\Q (g i j) H
abbrev Ov(g:Int->Int->V):R2:=λx y H Q=>∃i j,x=.int i/\y=.int j/\Q (g i j) H
abbrev rU(g:Int->V):V->Hp->VK->Prop:=λx H Q=>∃i,x=.int i/\Q (g i) H
section
def G6(ho:TK X (unaryOp b) r)(c:PE X a d):PE X (.UnaryOp b a pos) (XO r d):=by
 intro pins s σ H Q I h;show UnaryOp_ (JZ (c pins s σ H _ I h) λv s1 ⟨x,e,f,g,i⟩=>ho pins s1 σ e x v Q f g i)
def Sg{g:Int->Int->Int}
  (Ā:∀(i j:Int) (t u:Tok) (s:d6) (Q:dV->d6->Prop) (E:dV->d6->Prop),C i j->Q (.int (g i j) s.toks) {s with toks:=s.toks+1}->d3 (eH X.prog X.w) X.A (f (.int i t) (.int j u)) Q E s) :
  LY X f (rI C λi j=>.int (g i j)):=by
 intro pins s σ H x y v u Q I a b h;have⟨i,j,rfl,rfl,c,q⟩:=h;have⟨t,rfl⟩:=a;have⟨t',rfl⟩:=b;show Ā i j t t' s _ _ c ⟨.int (g i j),H,I.tok _,⟨_,rfl⟩,q⟩
def G7{g:Int->Int->Int}
  (Ā:∀(i j:Int) (t u:Tok) (s:d6) (Q:dV->d6->Prop) (E:dV->d6->Prop),Q (.int (g i j) s.toks) {s with toks:=s.toks+1}->d3 (eH X.prog X.w) X.A (f (.int i t) (.int j u)) Q E s) :
  LY X f (Ov λi j=>.int (g i j)):=by
 intro pins s σ H x y v u Q I a b h;have⟨i,j,rfl,rfl,q⟩:=h;have⟨t,rfl⟩:=a;have⟨t',rfl⟩:=b;show Ā i j t t' s _ _ ⟨.int (g i j),H,I.tok _,⟨_,rfl⟩,q⟩
def Bx{g:Int->Int->Bool}
  (Ā:∀(i j:Int) (t u:Tok) (s:d6) (Q:dV->d6->Prop) (E:dV->d6->Prop),Q (.bool (g i j)) s->d3 (eH X.prog X.w) X.A (f (.int i t) (.int j u)) Q E s) :
  LY X f (Ov λi j=>.bl (g i j)):=by
 intro pins s σ H x y v u Q I a b h;have⟨i,j,rfl,rfl,q⟩:=h;have⟨t,rfl⟩:=a;have⟨t',rfl⟩:=b;show Ā i j t t' s _ _ ⟨.bl (g i j),H,I,rfl,q⟩
abbrev Jm(i j:Int):Prop:=0<j/\j<1073741824
abbrev Jn(i j:Int):Prop:=0<=j/\j<=1000000/\i.natAbs<2 ^ 64
abbrev EM(i j:Int):Prop:=(-(2 ^ 64)<i/\i<2 ^ 64)\/(-(2 ^ 64)<j/\j<2 ^ 64)
def EM.ok(h:EM i j):IntMulOk i j:=by
 rcases h with⟨a,b⟩|⟨a,b⟩
 .show .of_left (intBits_le_64 a b)
 .show .of_right (intBits_le_64 a b)
def cG:LY X (PM .Add) (Ov λi j=>.int (i+j)):=G7 λ_ _ _ _ _ _ _ q=>add_int q
def sg:LY X (PM .Sub) (Ov λi j=>.int (i - j)):=G7 λ_ _ _ _ _ _ _ q=>sub_int q
def kZ:LY X (PM .Mult) (rI EM λi j=>.int (i * j)):=Sg λ_ _ _ _ _ _ _ a q=>mul_int q a.ok
def By:LY X (PM .FloorDiv) (rI Jm λi j=>.int (i / j)):=Sg λi j _ _ _ _ _ a q=>by
 have b:(0:Int)<j:=a.1;have c:j<1073741824:=a.2;show floordiv_int ⋯ (by rw[Int.fdiv_eq_ediv_of_nonneg i ⋯];show q) (.inl (PyProof.noPylong_small ⋯))
def eL:LY X (PM .Mod) (rI (λ_ j=>0<j) λi j=>.int (i % j)):=Sg λi j _ _ _ _ _ a q=>by
 have b:(0:Int)<j:=a;show mod_int' ⋯ (by rw[Int.fmod_eq_emod_of_nonneg i ⋯];show q)
def oP:LY X (PM .Pow) (rI Jn λi j=>.int (i ^ j.toNat)):=Sg λ_ _ _ _ _ _ _ a q=>pow_int_small a.1 a.2.1 a.2.2 q
def QM{g:Int->Int}
  (Ā:∀(i:Int) (t:Tok) (s:d6) (Q:dV->d6->Prop) (E:dV->d6->Prop),Q (.int (g i) s.toks) {s with toks:=s.toks+1}->d3 (eH X.prog X.w) X.A (f (.int i t)) Q E s) :
  TK X f (rU λi=>.int (g i)):=by
 intro pins s σ H x v Q I a h;have⟨i,rfl,q⟩:=h;have⟨t,rfl⟩:=a;show Ā i t s _ _ ⟨.int (g i),H,I.tok _,⟨_,rfl⟩,q⟩
def EN:TK X (unaryOp .USub) (rU λi=>.int (-i)):=QM λ_ _ _ _ _ q=>neg_int q
end
section
def EO(I:Inv X pins σ H s)(q:Q (.bl k) H)(e:k=k'):EP X pins σ Q (.bool k') s:=by
 subst e;show⟨.bl k,H,I,rfl,q⟩
def G8:LY X (O0 .Lt) (Ov λi j=>.bl (cK (i<j))):=Bx λ_ _ _ _ _ _ _ q=>lt_int q
def G9:LY X (O0 .LtE) (Ov λi j=>.bl (cK (i<=j))):=Bx λ_ _ _ _ _ _ _ q=>le_int q
def G_:LY X (O0 .Gt) (Ov λi j=>.bl (cK (j<i))):=Bx λ_ _ _ _ _ _ _ q=>gt_int q
def Ha:LY X (O0 .GtE) (Ov λi j=>.bl (cK (j<=i))):=Bx λ_ _ _ _ _ _ _ q=>ge_int q
def ER:LY X (O0 .Is) (λx y H Q=>y=.J0/\Q (.bl (cK (x=.J0))) H):=by
 intro pins s σ H x y v u Q I a b h;have⟨rfl,q⟩:=h;cases b;show is_none_gen (EO I q ?_);cases x<;>first
  |(cases a;rfl)
  |(have⟨t,rfl⟩:=a;rfl)
abbrev Hb(K:PySem.W.Frag)(x:V)(H:Hp)(k:Bool):Prop :=
 match x with
 |.J0=>k=cc
 |.bl b=>k=b
 |.int i=>k=(i != 0)
 |.str y=>y.length<=cL/\k=((y.length:Int) != 0)
 |.R7 y=>y.size<=cL/\k=((y.size:Int) != 0)
 |.ref p=>(∃xs,Ko K H p xs/\k=!xs.isEmpty)\/(∃xs,KA K H p xs/\k=!xs.isEmpty)\/∃kvs,H p=a5 (.dK kvs)/\k=!kvs.isEmpty
 |_=>False
def si(r:KV kvs vs):(!vs.isEmpty)=!kvs.isEmpty:=by
 cases r<;>rfl
def k7(r:Vals xs a):(!a.toArray.isEmpty)=!xs.isEmpty:=by
 cases r<;>simp
def fN:(cL:Nat)<2 ^ 63:=by rw[þ];decide
def ES:Jl X (λx H Q=>∃k,Hb X.K x H k/\Q k H):=by
 intro pins s σ H x v Q I d h;have⟨k,e,q⟩:=h;have hl:=fN;have hs:cL=16777216:=þ;cases x with
 |J0 =>
  cases d;have a:k=cc:=e;subst a;show truthy_none ⟨H,I,q⟩
 |bl b =>
  cases d;have a:k=b:=e;subst a;show Ku ⟨H,I,q⟩
 |int i =>
  have⟨t,rfl⟩:=d;have a:k=(i != 0):=e;subst a;show PySem.P.truthy_int ⟨H,I,q⟩
 |str y =>
  have⟨t,rfl⟩:=d;obtain⟨j,a⟩:y.length<=cL/\k=((y.length:Int) != 0):=e;subst a;show PySem.P.truthy_str ⋯ ⟨H,I.tok _,q⟩
 |R7 y =>
  have⟨t,rfl⟩:=d;obtain⟨j,a⟩:y.size<=cL/\k=((y.size:Int) != 0):=e;subst a;show PySem.W.truthy_bytes ⋯ ⟨H,I.tok _,q⟩
 |ref p =>
  cases d;have a:(∃xs,Ko X.K H p xs/\k=!xs.isEmpty)\/(∃xs,KA X.K H p xs/\k=!xs.isEmpty)\/∃kvs,H p=a5 (.dK kvs)/\k=!kvs.isEmpty:=e;rcases a with⟨xs,f,a⟩|⟨xs,f,a⟩|⟨kvs,f,a⟩
  .subst a;have⟨l,r,g,hz⟩:=I.list f;have c:=r.length;show wpAny_truthy_list g.isList (by simp only[gj];lia) ⟨H,I.tok _,by rw[k7 r];show q⟩
  .subst a;have⟨l,r,g,hz⟩:=I.tuple f;have c:=r.length;show truthy_tuple g (by simp only[gj];lia) ⟨H,I.tok _,by rw[k7 r];show q⟩
  .subst a;obtain⟨hz,n,vs,r,m⟩:kvs.length<=cL/\(p==Oq)=cc/\∃vs,KV kvs vs/\s.heap.DictOf (aS X.prog X.w) p vs:=I.JV p _ f;have c:kvs.length=vs.length:=Paired.length r;show wpAny_truthy_dict n m ⋯ ⟨H,I.tok _,by rw[si r];show q⟩
 |_=>show(show False from e).elim
def xY(c:PE X a d)(e:∀b,isTrue a X.env b=(do let v <-b;Zc a.pos;NJ [v] (Ő v))):
  PT X a (λσ H Q=>d σ H λx H'=>∃k,Hb X.K x H' k/\Q k H'):=by
 intro pins s σ H Q I h;show isTrue_plain (JZ (c pins s σ H _ I h) λv s1 ⟨x,f,g,i,j⟩=>ES pins s1 σ f x v Q g i j) (e _)
def sj:LY X (PM .Add) (λx y H Q=>∃i j,x=.str i/\y=.str j/\i.length+j.length<=cL/\Q (.str (i++j)) H):=by
 intro pins s σ H x y v u Q I a b h;have⟨i,j,rfl,rfl,hz,q⟩:=h;have⟨t,rfl⟩:=a;have⟨t',rfl⟩:=b;show add_str (λt' c=>⟨.str (i++j),H,I.tok _,⟨_,rfl⟩,q⟩) hz
def vals1(r:Vals [x] us):∃u,us=[u]/\RelV x u:=by
 cases r with
 |cons a b=>cases b;show⟨_,rfl,a⟩
def vals2(r:Vals [x,y] us):∃u a,us=[u,a]/\RelV x u/\RelV y a:=by
 cases r with
 |cons b c =>
  cases c with
  |cons d e=>cases e;show⟨_,_,rfl,b,d⟩
def oQ:jW X (.type "str") (λxs H Q=>∃i,xs=[.int i]/\i.natAbs.log2<1920/\Q (.str (Si i)) H):=by
 intro pins s σ H xs us Q I r h;have⟨i,rfl,hz,q⟩:=h;have⟨u,rfl,t,rfl⟩:=vals1 r;show PySem.P.str_of_int hz ⟨.str _,H,I.tok _,⟨_,rfl⟩,q⟩
end
section
end
def kl.some_of(r:kl (a5 v) o):∃u,o=a5 u/\RelV v u:=by
 cases o with
 |none=>show(show False from r).elim
 |some u=>show⟨u,rfl,r⟩
section
end
structure XQ(K:PySem.W.Frag)(C:d8):Prop where
 pg:PySem.W.plainGet K C mN=bD
 hd:PySem.W.hasDictIn K C=bD
 po:PySem.W.plainOver K C=bD
 sa:PySem.W.findIn K (.ref C) "__setattr__"=a5 (a5 (.builtin "object.__setattr__"))
section
end
section
end
section
inductive k8(K:PySem.W.Frag)(H:Hp):V->dV->Prop where
 |J0:k8 K H .J0 (.type "NoneType")
 |bl (x:Bool):k8 K H (.bl x) (.type "bool")
 |int (i:Int):k8 K H (.int i) (.type "int")
 |str (x:Str):k8 K H (.str x) (.type "str")
 |R8 (x:UInt64):k8 K H (.R8 x) (.type "float")
 |lst {a:d8} {xs:List V} (e:H a=a5 (.lst xs)):k8 K H (.ref a) (.type "list")
 |KY {a:d8} {o:Obj} {xs:List V} (e:H a=a5 (.KY o (.lst xs))):k8 K H (.ref a) (.type "list")
 |tup {a:d8} {xs:List V} (e:H a=a5 (.tup xs)):k8 K H (.ref a) (.type "tuple")
 |dK {a:d8} {kvs:List (Key×V)} (e:H a=a5 (.dK kvs)):k8 K H (.ref a) (.type "dict")
 |dT {a:d8} {kvs:List (List Key×V)} (e:H a=a5 (.dT kvs)):k8 K H (.ref a) (.type "dict")
 |ins {a C dx:d8} {fs:List (Str×V)} (e:H a=a5 (.ins C dx fs)) (cl:XQ K C) (ha:PySem.W.findIn K (.ref C) "__class__"=a5 (a5 (.builtin "object.__class__")))
   (hn:PySem.W.specialIn K (.builtin "object.__class__") "__get__"=a5 (a5 (.builtin "getset_descriptor.__get__"))) (XR:PySem.W.takesIn K (.builtin "object.__class__")=a5 bD)
   (hm:PySem.W.mroIn K C (.type "object")=a5 bD):k8 K H (.ref a) (.ref C)
end
structure fJ(k:Nat)(A:N5):Prop where
 hd:A.handled=b6
 dp:A.depth+3 * k+5<ő
 un:A.units+16 * k+200<Mg
 gd:A.guards=a5 []
def fJ.deeper(r:fJ (k+1) A)(env:Env):fJ k (A.deeper env) :=
 ⟨r.hd,by have:=r.dp;change A.depth+1+3 * k+5 < _;lia,by have:=r.un;change A.units+3+16 * k+200 < _;lia,r.gd⟩
def fJ.depth(r:fJ k A):A.depth<ő:=by have:=r.dp;lia
abbrev Jo:TA:=λ_ H Q=>Q [] H
abbrev Hc(a:TE)(b:TA):TA:=λσ H Q=>a σ H λx c=>b σ c λxs d=>Q (x::xs) d
section
def fi:PA X [] Jo:=λ_ _ _ _ H Q I h=>QJ ⟨[],H,I,.nil,h⟩
def cX(a:PE X e b)(c:PA X es t)(hs:hZ (e::es) X.env=(cc,ve e X.env)::hZ es X.env:=by rfl):PA X (e::es) (Hc b t):=by
 intro pos pins s σ H Q I h;rw[hs];change d3 _ _ (Ĩ ((cc,ve e X.env)::Kg pos (hZ es X.env))) _ _ s;show Nh (JZ (a pins s σ H _ I h) λu s1 d=>?_);have⟨x,f,g,i,j⟩:=d;show JZ (c pos pins s1 σ f _ g j) λus s2 ⟨xs,k,l,m,n⟩=>⟨x::xs,k,l,.cons i m,n⟩
end
@[reducible]def Sp:=List V->Hp->VK->XK->Prop
@[reducible]def O2:=List Env->Hp->d6->XK->dV->d6->Prop
structure Bz(P:va)(w:w6)(K:PySem.W.Frag)(mg:Str->Option dV)(base:KX)(A:N5)(outer:List Env)(s:d6)(H:Hp):Prop where
 frames:A.frames=a5 outer
 mod:Mod K mg base
 bs:∀b o,base.get? b=a5 o->s.heap.get? b=a5 o/\H b=b6
 N1:base.objs.size<=s.heap.objs.size
 km:s.heap.FunFrames base outer
 OX:∀b∈Kx outer,H b=b6
 JV:K6 P w H s.heap
 bare:Ua s.gens
abbrev CE(outer:List Env)(P:va)(w:w6)(H:Hp)(s:d6)(Q:VK)(u:dV)(s':d6):Prop :=
 ∃v H',s'.os=s.os/\Ua s'.gens/\Un (Kx outer) [] H H' s.heap s'.heap/\K6 P w H' s'.heap/\RelV v u/\Q v H'
abbrev CR(CX:O2)(outer:List Env)(P:va)(w:w6)(H:Hp)(s:d6)(Q:VK)(E:XK)(r:Result)(s':d6):Prop :=
 match r with
 |.ok (.ret u)=>CE outer P w H s Q u s'
 |.ok _=>False
 |.error e=>CX outer H s E e s'
structure jv(P:va)(w:w6)(K:PySem.W.Frag)(mg:Str->Option dV)(base:KX)(CX:O2)(k:Nat)(f:d8)(fd:TL)(ps:List Str)(sp:Sp):Prop where
 len:∀vs H Q E,sp vs H Q E->vs.length=ps.length
 run:∀(A:N5) (outer:List Env) (s:d6) (H:Hp) (args:Args) (us:List dV) (vs:List V) (Q:VK) (E:XK),fJ k A->Bz P w K mg base A outer s H->é s fd args (ps.zip us)->Vals vs us->sp vs H Q E ->
  Rq (eH P w) A (.call (.ref f) args) (CR CX outer P w H s Q E) s
section
def Inv.Hd(I:Inv X pins σ H s):Bz X.prog X.w X.K X.mg X.base X.A X.stack s H :=
 ⟨I.ok.frames,I.ok.mod,I.bs,vr I.ok.N1 I.sz,I.stack,I.kJ,I.JV,I.bare⟩
def Inv.after(I:Inv X pins σ H s)(h:CE X.stack X.prog X.w H s Q u s'):EP X pins σ Q u s':=by
 have⟨v,H',os,a,c,e,r,q⟩:=h;have⟨f,g,d,t,i⟩:=s';obtain rfl:i=s.os:=os;show⟨v,H',I.call (h':=f) (g':=g) (d':=d) (t':=t) (ch:=[]) c e a (λb z=>absurd z (by simp)),r,q⟩
end
abbrev Binds(K:PySem.W.Frag)(b:TL)(ps:List Str)(a:List dV):Prop :=
 ∀(s:d6) (us:List dV),K.In s.heap->(us++a).length=ps.length->é s b ⟨us,[]⟩ (ps.zip (us++a))
def Binds.all{K:PySem.W.Frag}(h:∀us:List dV,us.length=ps.length->ŕ a ⟨us,[]⟩=pure (ps.zip us)):Binds K a ps []:=λs us _ hl=>by
 rw[t4]at hl ⊢;show .of_eq (h us hl)
abbrev Passes(CX:O2)(X:Cx)(E:XK):Prop:=∀(pins:List (d8×Obj)) (σ:St) (H:Hp) (s:d6) (e:dV) (s':d6),Inv X pins σ H s->CX X.stack H s E e s'->X.xe e s'
section
def xZ(F:jv X.prog X.w X.K X.mg X.base CX k f g ps sp)(i:fJ k X.A)(j:Binds X.K g ps a)(l:Vals b a)(m:Passes CX X E)
  (I:Inv X pins σ H s) (r:Vals vs us) (h:sp (vs++b) H Q E):d3 (eH X.prog X.w) X.A (OS (.ref f) us) (EP X pins σ Q) X.xe s:=by
 have d:Vals (vs++b) (us++a):=r.append l;have hl:(us++a).length=ps.length:=by rw[<-d.length];show F.len _ _ _ _ h
 show ĕ (Th (F.run X.A X.stack s H ⟨us,[]⟩ (us++a) (vs++b) Q E i I.Hd (j s us I.Nf hl) d h) λr s' c=>?_);cases r with
 |error e=>show m pins σ H s e s' I c
 |ok n =>
  cases n with
  |ret u=>show I.after c
  |_=>show Ni c
end
section
end
structure eG(N P:List Str)(sc:MH):Prop where
 kind:sc.kind=.function
 co:sc.isCoroutine=cc
 gen:sc.isGenerator=cc
 nd:N.Nodup
 pre:N.take P.length=P
 par:∀x∈P,sc.names.lookup x=a5 .local\/sc.names.lookup x=a5 .cell
 O3:∀y∈sc.names,y.2≠.free
theorem nq{kindOf:Str->Option PX}:∀{a:List (Str×dV)}{m:Str->Option dV},(∀v,(x,v)∉a)->Ö kindOf a m x=m x
 |[],_,_=>rfl
 |(n,v)::r,m,h=>by
  unfold Ö;rw[nq λw b=>h w (ko _ b)];split
  .have:x≠n:=by rintro rfl;show h v mf
   simp[this]
  .rfl
theorem nu{kindOf:Str->Option PX}:∀{a:List (Str×dV)}{m:Str->Option dV},(∀v,(x,v)∉a)->Ø kindOf a m x=m x
 |[],_,_=>rfl
 |(n,v)::r,m,h=>by
  unfold Ø;rw[nu λw b=>h w (ko _ b)];split
  .rfl
  .have:x≠n:=by rintro rfl;show h v mf
   simp[this]
theorem nv{kindOf:Str->Option PX}:∀{P:List Str}{vs:List dV}{i:Nat}{m:Str->Option dV},P.Nodup->P[i]?=a5 x->vs[i]?=a5 v->kindOf x=a5 .local ->
  Ö kindOf (P.zip vs) m x=a5 v
 |[],_,_,_,_,h,_,_=>by simp at h
 |_::_,[],_,_,_,_,h,_=>by simp at h
 |p::P,w::vs,0,m,c,a,b,hk=>by
  simp at a b;subst a;subst b;change Ö kindOf ((p,w)::P.zip vs) m p=_;unfold Ö;rw[nq λv d=>(l0.mp c).1 (RS d).1,ť hk];simp
 |p::P,w::vs,i+1,m,c,a,b,hk=>by
  change Ö kindOf ((p,w)::P.zip vs) m x=_;unfold Ö;show nv (i:=i) (l0.mp c).2 (by simpa using a) (by simpa using b) hk
theorem ny{kindOf:Str->Option PX}:∀{P:List Str}{vs:List dV}{i:Nat}{m:Str->Option dV},P.Nodup->P[i]?=a5 x->vs[i]?=a5 v->kindOf x≠a5 .local ->
  Ø kindOf (P.zip vs) m x=a5 v
 |[],_,_,_,_,h,_,_=>by simp at h
 |_::_,[],_,_,_,_,h,_=>by simp at h
 |p::P,w::vs,0,m,c,a,b,hk=>by
  simp at a b;subst a;subst b;change Ø kindOf ((p,w)::P.zip vs) m p=_;unfold Ø;rw[nu λv d=>(l0.mp c).1 (RS d).1,Ŧ hk];simp
 |p::P,w::vs,i+1,m,c,a,b,hk=>by
  change Ø kindOf ((p,w)::P.zip vs) m x=_;unfold Ø;show ny (i:=i) (l0.mp c).2 (by simpa using a) (by simpa using b) hk
abbrev start(N:List Str)(vs:List V):St:=vs.map a5++i1 (N.length - vs.length) b6
abbrev qk(CX:O2)(P:va)(w:w6)(K:PySem.W.Frag)(mg:Str->Option dV)(base:KX)(N:List Str)(a:Str)(scope:MH)(f:d8)(b:dV)(A:N5)(outer:List Env)(s:d6)(H:Hp)(E:XK):Cx where
 prog:=P
 w:=w
 K:=K
 mg:=mg
 base:=base
 A:=A.deeper (Vq a scope s.heap.objs.size f b)
 N:=N
 s₀:=s
 H₀:=H
 env:=Vq a scope s.heap.objs.size f b
 outer:=outer
 stack:=Vq a scope s.heap.objs.size f b::outer
 ex:=[]
 calm:=bD
 fn:=λ_=>bD
 pn:=[]
 xe:=λe s'=>d3 (eH P w) (A.deeper (Vq a scope s.heap.objs.size f b)) (leaving (Vq a scope s.heap.objs.size f b) e) (λ_ c=>CX outer H s E e c) (λd c=>CX outer H s E d c) s'
def ql{a:MH}(h:a.names.lookup x=a5 .cell):∃c,(Ŀ n a.names []).lookup x=a5 c:=by
 have q:=PySem.W.cellsFrom_some a.names n [] (.inl h);show Tf.mp q
def we{K:PySem.W.Frag}
  (S:eG N ps scope) (G:A.handled=b6) (j:Bz P w K mg base A outer s H) (hl:vs.length=ps.length) (r:Vals vs us)
  (x:InCallC s s.heap.objs.size (Ö (Vq g scope s.heap.objs.size f t).kindOf (ps.zip us) λ_=>b6) (Ŀ (s.heap.objs.size+1) scope.names []) (Ø (Vq g scope s.heap.objs.size f t).kindOf (ps.zip us) λ_=>b6) s1) :
  Inv (qk CX P w K mg base N g scope f t A outer s H E) [] (start N vs) H s1:=by
 have J:ps.length<=N.length:=by have:=Ū C0 S.pre;rw[zy]at this;lia
 have⟨m,L,rfl,hk⟩:=x.done;have B:∀b:d8,b∉(qk CX P w K mg base N g scope f t A outer s H E).ex:=λb z=>absurd (show b∈([]:List d8) from z) (by simp);show⟨⟨j.mod,S.kind,rfl,rfl,hV _,λy z c m d=>?_,λy hy=>?_,λy c _ h=>?_,λ_=>G,Around.frames_deeper j.frames,.inr ⟨rfl,rfl⟩,λb z=>absurd z (B b),j.bs,j.N1,λb _ _=>B b,λb z=>absurd z (B b),j.km,j.OX⟩,
  rfl,j.bare,Un.kept hk,⟨_,x.toInCall.ns,λi y v m d O=>?_⟩,λy c h=>⟨_,x.cell y c h⟩,j.JV.fresh (hV _),λy c h=>?_,λp l=>absurd (show p∈([]:List (d8×Obj)) from l) (by simp),j.JV.kept hk,?_⟩
 .show name_of_addr x.apart (PySem.mem_of_lookup m) (PySem.mem_of_lookup d)
 .have hy:scope.names.lookup y=a5 .cell\/scope.names.lookup y=a5 .free:=hy;rcases hy with hy|hy
  .show ql hy
  .show absurd rfl (S.O3 _ (PySem.mem_of_lookup hy))
 .show Q8 (x.above y c (PySem.mem_of_lookup h))
 .have o:i<vs.length:=by
   unfold start at d;by_cases o:i<vs.length
   .show o
   .rw[qs (by simpa using o)]at d;rw[Lk]at d;split at d<;>cases d
  have I:vs[i]?=a5 v:=by
   unfold start at d;rw[u3 (by simpa using o),i2]at d;cases e:vs[i]? with
   |none=>rw[e]at d;cases d
   |some a=>rw[e]at d;cases d;rfl
  have⟨u,C,rv⟩:=r.get I;have l:ps[i]?=a5 y:=by
   rw[<-S.pre,YO ⋯];show m
  have D:ps.Nodup:=by rw[<-S.pre];show S.nd.sublist (ï _ _)
  show⟨u,rv,?_⟩;rcases S.par y (l' l) with k|k
  .show .inl ⟨k,nv D l C k⟩
  .have⟨c,e⟩:=ql (n:=s.heap.objs.size+1) k;show .inr ⟨.inl k,c,e,?_⟩;have q:=x.cell y c e;rw[ny D l C (by change scope.names.lookup y≠_;rw[k];decide)]at q;show q
 .show j.JV.fresh (Q8 (x.above y c (PySem.mem_of_lookup h)))
 .unfold start;change _=N.length;rw[gc,c4,Rm];lia
def DO{K:PySem.W.Frag}{z kV g B d ct G:dV}
 (lk:K.lookup f=a5 ⟨G,od,.func (PySem.W.fnOf name a c body scope z kV g B L d ct),P_⟩) (O:PySem.W.codeIn K d a=bD) (S:eG N ps scope)
    (h:∀vs H Q E,sp vs H Q E->vs.length=ps.length)
    (T:∀(A:N5) (outer:List Env) (s:d6) (H:Hp) (vs:List V) (Q:VK) (E:XK),fJ k (A.deeper (Vq a scope s.heap.objs.size f d))->sp vs H Q E ->
      ∃t,Lg (qk CX P w K mg base N a scope f d A outer s H E) body t/\t {nx:=λ_ H'=>Q .J0 H',rt:=Q} (start N vs) H) :
    jv P w K mg base CX (k+1) f (PySem.W.fnOf name a c body scope z kV g B L d ct) ps sp:=by
  show⟨h,λA outer s H args us vs Q E m i Y r C=>?_⟩;have hl:=h _ _ _ _ C;have D:K.In s.heap:=i.mod.P5.keeps λb o e=>(i.bs b o e).1;have p:s.heap.NoLimit:=i.mod.nolimit.keeps λb o e=>(i.bs b o e).1;have QO:∀y∈ps.zip us,scope.names.lookup y.1=a5 .local\/(scope.names.lookup y.1=a5 .cell/\((Ŀ (s.heap.objs.size+1) scope.names []).lookup y.1).isSome=bD):=λ⟨n,v⟩ hy=>by
    rcases S.par n (RS hy).1 with q|q
    . show .inl q
    . show .inr ⟨q,PySem.W.cellsFrom_some _ _ _ (.inl q)⟩
  show codeAny_call_function m.depth (D _ _ lk) rfl S.co S.gen rfl (PySem.W.codeRec_of D O) (Y _ _ _ _ ?_);show wpAny_newFunctionEnv_cells S.kind QO λenv he s1 x=>?_;subst he;show⟨p.keeps x.toInCall.keep,codeAny_func ?_⟩;have⟨t,ht,hq⟩:=T A outer s H vs Q E (m.deeper _) C;have I:Inv (qk CX P w K mg base N a scope f d A outer s H E) [] (start N vs) H s1:=we S m.hd i hl r x;show mA (ht [] s1 (start N vs) H _ I hq) (λfl s' hs=>?_) λe s' hs=>hs;have j:∀{l:St} {H':Hp} {v:V} {u:dV},Inv (qk CX P w K mg base N a scope f d A outer s H E) [] l H' s'->RelV v u->Q v H'->CE outer P w H s Q u s' :=
    λ{l H' v u} J rv q=>⟨v,H',J.os,J.bare,J.base,J.JV,rv,q⟩
  cases fl with
  | ret u =>
    have⟨v,l,H',J,rv,q⟩:=hs;show j J rv q
  | next =>
    have⟨l,H',J,q⟩:=hs;show j (v:=V.J0) (u:=nH) J rfl q
  | brk =>
    obtain⟨_,_,_,q⟩:=hs;show Ni q
  | cont =>
    obtain⟨_,_,_,q⟩:=hs;show Ni q
section
end
end L2
namespace HT
open PySem PyProof.Rows
section
open PySem.SeqAt
open PySem.AutoSeq1 (wpAny_loadPart')
open PySem.MeetsSeq PySem.MeetsSeq2 PySem.MeetsSeq3
end
section
def BA(o:ţ s.heap t vs.toArray)(p:ţ s.heap b ws.toArray)(f:vs≠[])
  (q:ws=[]->Q (.ref t) s) (r:ws≠[]->Q (.ref s.heap.objs.size) {s with heap:=s.heap.push {cls:=.type "tuple",data:=.seq (vs++ws).toArray}})
  (hsz:vs.length+ws.length<=cL):d3 (eH prog w) A (PM .Add (.ref t) (.ref b)) Q E s:=by
 obtain⟨⟨cls,dd,data,g⟩,ho,h,n,i⟩:=id o;obtain⟨⟨u,j,data2,k⟩,c,l,m,a⟩:=id p;simp only at h i l a;subst h i l a;have e:vs.toArray++ws.toArray=(vs++ws).toArray:=by simp
 by_cases d:ws=[]
 .show XD ⟨_,ho,rfl⟩ ⟨_,c,rfl⟩ Yf Î PySem.F.slot_tuple_add PySem.F.entry_tuple_add (PySem.F.args_tuple_add_2 _ _)
   (tuple_addW1 t b vs.toArray ws.toArray n m dd j g k (by simpa using f) (by simp[d])) ⟨ho,c,q d⟩
 .show XD ⟨_,ho,rfl⟩ ⟨_,c,rfl⟩ Yf Î PySem.F.slot_tuple_add PySem.F.entry_tuple_add (PySem.F.args_tuple_add_2 _ _)
   (tuple_addW2 t b vs.toArray ws.toArray n m dd j g k (by simpa using f) (by simpa using d) (by rw[gj,gj];show hsz)) ⟨ho,c,?_⟩
  rw[e];show r d
abbrev L8(n d:Nat):Option Int->Nat
 |none=>d
 |some v=>if v<0 then(v+(n:Int)).toNat else min v.toNat n
end
end HT
namespace L2
open PySem PySem.Spec PyProof.Rows
@[reducible]def TO:=St->Hp->(Option Int->Hp->Prop)->Prop
abbrev PO(X:Cx)(e:Option kr)(t:TO):Prop :=
 ∀(pins:List (d8×Obj)) (s:d6) (σ:St) (H:Hp) (Q:Option Int->Hp->Prop),Inv X pins σ H s->t σ H Q ->
  d3 (eH X.prog X.w) X.A (evalPart e X.env) (λu s'=>∃o H',Inv X pins σ H' s'/\IsPart u o/\Q o H') X.xe s
abbrev BB:TO:=λ_ H Q=>Q b6 H
abbrev He(t:TE):TO:=λσ H Q=>t σ H λx a=>∃i,x=.int i/\Q (a5 i) a
section
variable{X:Cx}{e:kr}{te:TE}{lo hi:Option kr}{tl th:TO}{pos p2:Pos}
def BC:PO X b6 BB:=by
 intro pins s σ H Q I h;rw[evalPart_none];show df ⟨b6,H,I,.none,h⟩
def BD(h:PE X e te):PO X (a5 e) (He te):=by
 intro pins s σ H Q I a;rw[evalPart_some];show JZ (h pins s σ H _ I a) λu s1 b=>?_;have⟨x,c,d,f,g⟩:=b;have⟨i,rfl,q⟩:=g;have⟨t,rfl⟩:=f;show⟨a5 i,c,d,.int i t,q⟩
abbrev Oy(X:Cx)(r:V->Option Int->Option Int->Hp->VK->Prop):Prop :=
 ∀(pins:List (d8×Obj)) (s:d6) (σ:St) (H:Hp) (x:V) (v a b:dV) (lo hi:Option Int) (c:d8) (Q:VK),Inv X pins σ H s->RelV x v->s.heap.IsSliceOf c a b .none->IsPart a lo->IsPart b hi->r x lo hi H Q ->
  ∃T id,RY (.type T) "__getitem__"=pure (a5 (.builtin id))/\s.TypeIs v T/\d3 (eH X.prog X.w) X.A (XB v (.ref c)) (EP X pins σ Q) X.xe s
def Oy.or(h:Oy X r)(h':Oy X i):Oy X (λx lo hi H Q=>r x lo hi H Q\/i x lo hi H Q):=by
 intro pins s σ H x v a b lo hi c Q I d hs f g q;rcases q with q|q
 .show h pins s σ H x v a b lo hi c Q I d hs f g q
 .show h' pins s σ H x v a b lo hi c Q I d hs f g q
abbrev XS(r:V->Option Int->Option Int->Hp->VK->Prop)(te:TE)(tl th:TO):TE:=λσ H Q=>te σ H λx a=>tl σ a λl b=>th σ b λu c=>r x l u c Q
def x6(f:Oy X r)(g:PE X e te)(hl:PO X lo tl)(i:PO X hi th):PE X (.Subscript e (.Slice lo hi b6 p2) pos) (XS r te tl th):=by
 intro pins s σ H Q I h;show Ğ (JZ (g pins s σ H _ I h) λv s1 j=>?_);have⟨x,k,m,n,o⟩:=j;show wpAny_Slice (JZ (hl pins s1 σ k _ m o) λa s2 ⟨l,p,t,y,z⟩=>JZ (i pins s2 σ p _ t z) λc s3 B=>?_);have⟨u,d,C,D,G⟩:=B;rw[evalPart_none];show df ?_;have J:Inv X pins σ d {s3 with heap:=s3.heap.push {cls:=.type "slice",data:=.fields #[a,c,.none]}}:=C.kept (t':=s3.toks) λb Y q=>c2 _ q;have⟨T,id,L,N,O⟩:=f pins {s3 with heap:=s3.heap.push {cls:=.type "slice",data:=.fields #[a,c,.none]}} σ d x v a c l u s3.heap.objs.size Q J n (Ĳ ..) y D G;change d3 (eH X.prog X.w) X.A (WN e (.Slice lo hi b6 p2) v (.ref s3.heap.objs.size)) (EP X pins σ Q) X.xe {s3 with heap:=s3.heap.push {cls:=.type "slice",data:=.fields #[a,c,.none]}};show tail_any (ops:=[.ref s3.heap.objs.size,v]) N L O (by with_unfolding_all rfl)
abbrev wg(xs:List V)(lo hi:Option Int):List V:=(xs.drop (HT.L8 xs.length 0 lo)).take (HT.L8 xs.length xs.length hi - HT.L8 xs.length 0 lo)
def qm(xs:List V)(lo hi:Option Int):(wg xs lo hi).length<=xs.length:=by
 unfold wg;rw[zy,ø];lia
abbrev Hf(K:PySem.W.Frag):R2:=λx y H Q=>∃a b xs c,x=.ref a/\y=.ref b/\KA K H a xs/\KA K H b c/\xs≠[]/\xs.length+c.length<=cL /\
 (c=[]->Q (.ref a) H)/\(c≠[]->∀p,H p=b6->Q (.ref p) (upd H p (.tup (xs++c))))
def Vals.oR(r:Vals xs us):us=[]↔xs=[]:=by
 cases r with
 |_=>simp
def BE:LY X (PM .Add) (Hf X.K):=by
 intro pins s σ H x y v u Q I f g h;have⟨a,b,xs,i,rfl,rfl,j,k,l,hz,m,n⟩:=h;cases f;cases g;obtain⟨r,d,p,_⟩:=I.tuple j;obtain⟨t,c,p2,_⟩:=I.tuple k;show HT.BA p p2 (λz=>l (d.oR.mp z)) (λz=>⟨.ref a,H,I,rfl,m (c.oR.mp z)⟩) (λz=>?_) (by rw[<-d.length,<-c.length];show hz);show⟨.ref s.heap.objs.size,_,I.laid (t':=s.toks) (o:=.tup (xs++i)) (λb A q=>c2 _ q) (hV _) ?_,rfl,n (λw=>z (c.oR.mpr w)) _ (I.JV.fresh (hV _))⟩;show⟨by rw[gc];show hz,_,d.append c,ì _ _⟩
end
abbrev M9(n:Nat)(i:Int):Option Nat:=if 0<=i then(if i<n then a5 i.toNat else b6) else if -(n:Int)<=i then a5 (i+n).toNat else b6
abbrev Ky{α:Type}(xs:List α)(i:Int):Option α:=(M9 xs.length i).bind λj=>xs[j]?
def uB{n:Nat}(h:M9 n i=a5 j):X3 i n=a5 j/\j<n/\-(n:Int)<=i/\i<n:=by
 unfold M9 at h;by_cases b:0<=i
 .rw[ť b]at h;by_cases a:i<n
  .rw[ť a]at h;have e:i.toNat=j:=ti h;show⟨by rw[ÿ b a,e],⋯,⋯,a⟩
  .rw[Ŧ a]at h;cases h
 .rw[Ŧ b]at h;by_cases a:-(n:Int)<=i
  .rw[ť a]at h;have e:(i+n).toNat=j:=ti h;show⟨by rw[seqIndex_neg ⋯ a,e],⋯,a,⋯⟩
  .rw[Ŧ a]at h;cases h
def oS(h:Ky xs i=a5 v):∃j,X3 i xs.length=a5 j/\xs[j]?=a5 v/\j<xs.length/\-(xs.length:Int)<=i/\i<xs.length:=by
 unfold Ky at h;cases e:M9 xs.length i with
 |none=>rw[e]at h;cases h
 |some j =>
  rw[e]at h;have⟨a,b,c,d⟩:=uB e;show⟨j,a,h,b,c,d⟩
def cY{j:Nat}(h:xs[j]?=a5 v):Ky xs (j:Int)=a5 v:=by
 have a:j<xs.length:=(dt.mp h).1;have e:M9 xs.length (j:Int)=a5 j:=by
  unfold M9;rw[ť ⋯,ť ⋯];simp
 unfold Ky;rw[e];show h
abbrev oU(b:kr):Prop:=∀o i,YH b cc o i=operate [o,i] (XB o i)
abbrev TX(X:Cx)(r:R2):Prop :=
 ∀(b a:kr) (pins:List (d8×Obj)) (s:d6) (σ:St) (H:Hp) (x y:V) (v u:dV) (Q:VK),Inv X pins σ H s->RelV x v->RelV y u->r x y H Q ->
  YH a cc v u=operate [v,u] (XB v u)->d3 (eH X.prog X.w) X.A (WN b a v u) (EP X pins σ Q) X.xe s
abbrev TY(X:Cx)(id:String)(r:V->List V->Hp->VK->Prop):Prop :=
 ∀(pins:List (d8×Obj)) (s:d6) (σ:St) (H:Hp) (x:V) (xs:List V) (v:dV) (us:List dV) (Q:VK),Inv X pins σ H s->RelV x v->Vals xs us->r x xs H Q ->
  d3 (eH X.prog X.w) X.A (OS (.builtin id) (v::us)) (EP X pins σ Q) X.xe s
section
abbrev Jp(K:PySem.W.Frag):R2:=λx y H Q=>∃p xs i v,x=.ref p/\y=.int i/\Ko K H p xs/\Ky xs i=a5 v/\Q v H
abbrev Jq(K:PySem.W.Frag):R2:=λx y H Q=>∃p xs i v,x=.ref p/\y=.int i/\KA K H p xs/\Ky xs i=a5 v/\Q v H
abbrev Jr:R2:=λx y H Q=>∃z i c,x=.str z/\y=.int i/\z.length<=cL/\Ky z.cps.toList i=a5 c/\Q (.str ⟨#[c]⟩) H
def BF:TX X (Jp X.K):=by
 intro c d pins s σ H x y v u Q I m n h hs;have⟨p,xs,i,z,rfl,rfl,A,B,q⟩:=h;cases m;have⟨t,rfl⟩:=n;have⟨C,r,f,hz⟩:=I.list A;have⟨j,b,D,N,G,J⟩:=oS B;have⟨w,k,L⟩:=r.get D;have hl:=r.length;have O:=fN;have a:EP X pins σ Q w s:=⟨z,H,I,L,q⟩
 by_cases l:0<=i
 .have g:i.toNat=j:=by
   rw[ÿ l J]at b;show ti b
  show item_listR f.isList l ⋯ (by rw[g];simpa using k) a hs
 .have g:(i+(C.toArray.size:Int)).toNat=j:=by
   rw[seqIndex_neg ⋯ G]at b;rw[gj,<-hl];show ti b
  show ê (x:=w) f.isList.typeIs ĩ.lookup
   (wpAny_getItem_list_neg (Q:=λr s'=>r=w/\EP X pins σ Q r s') f.isList ⋯ (by rw[gj]<;>lia) ⋯ (by rw[g];simpa using k) ⟨rfl,a⟩) hs
def bU:TX X (Jq X.K):=by
 intro a b pins s σ H x y v u Q I f g h hs;have⟨p,xs,i,z,rfl,rfl,k,l,q⟩:=h;cases f;have⟨t,rfl⟩:=g;have⟨C,r,d,hz⟩:=I.tuple k;have⟨j,m,n,D,G,J⟩:=oS l;have⟨w,A,B⟩:=r.get n;have hl:=r.length;have L:=fN;have c:EP X pins σ Q w s:=⟨z,H,I,B,q⟩
 show ê (x:=w) d.typeIs slot_tuple_getitem.lookup
  (getItem_tuple (j:=j) (Q:=λr s'=>r=w/\EP X pins σ Q r s') d ⋯ ⋯ (by rw[gj,<-hl];show m) (by simpa using A) ⟨rfl,c⟩) hs
def oV:TX X Jr:=by
 intro a b pins s σ H x y v u Q I f g h hs;have⟨z,i,c,rfl,rfl,hz,k,q⟩:=h;have⟨t,rfl⟩:=f;have⟨t',rfl⟩:=g;have⟨j,d,l,A,m,n⟩:=oS k;have hl:z.cps.toList.length=z.length:=by simp[Ŝ]
 rw[hl]at d m n;have B:=fN;show tail_any (Zt s z t) Ń.lookup (getItem_str (c:=c) (by
  have p:cK (i < -(2 ^ 63:Int))=cc:=ŧ ⋯;have w:cK (i >= 2 ^ 63)=cc:=ŧ ⋯;rw[p,w,YY]) (by rw[d];simpa using l) ⟨.str ⟨#[c]⟩,H,I.tok _,⟨_,rfl⟩,q⟩) hs
def so(a:List dV)(n j:Nat)(u:dV):ri (·.setIfInBounds j u) {cls:=.type "list",data:=.seq a.toArray n}={cls:=.type "list",data:=.seq (a.set j u).toArray n}:=by
 simp[ri]
def Inv.lst(I:Inv X pins σ H s)(h:H p=a5 (.lst xs)):
  ∃(a:List dV) (n:Nat),Vals xs a/\s.heap.get? p=a5 {cls:=.type "list",data:=.seq a.toArray n}/\xs.length<=cL:=by
 have⟨z,a,n,r,e⟩:=I.JV p _ h;show⟨a,n,r,e,z⟩
def Inv.ET{a its':List dV}(I:Inv X pins σ H s)(h:H p=a5 (.lst xs))
  (ho:s.heap.get? p=a5 {cls:=.type "list",data:=.seq a.toArray n}) (c:f {cls:=.type "list",data:=.seq a.toArray n}={cls:=.type "list",data:=.seq its'.toArray d }) (r:Vals g its') (hz:g.length<=cL) (t:Nat) :
  Inv X pins σ (upd H p (.lst g)) {s with heap:=s.heap.update p f,toks:=t}:=by
 have e:(s.heap.update p f).get? p=a5 {cls:=.type "list",data:=.seq its'.toArray d }:=by
  rw[t7 f ho (by rw[c]<;>rfl),c]
 show I.write (x:=p) (e:=p) (by rw[h];trivial) (.inl rfl) (λb u i q=>(NM _ _ (nC i)).trans q) ⟨_,e⟩ ?_;show⟨hz,its',d,r,e⟩
abbrev Hg:V->V->V->Hp->(Hp->Prop)->Prop:=λo i v H Q=>∃p xs k j,o=.ref p/\i=.int k/\H p=a5 (.lst xs)/\M9 xs.length k=a5 j/\Q (upd H p (.lst (xs.set j v)))
def set_list:oO X Hg:=by
 intro pins s σ H o i v y z u Q I m w rv h;have⟨p,xs,k,j,rfl,rfl,b,x,q⟩:=h;cases m;have⟨t,rfl⟩:=w;have⟨c,n,r,ho,hz⟩:=I.lst b;have⟨a,A,d,f⟩:=uB x;have hl:=r.length;have B:=fN;have g:Inv X pins σ (upd H p (.lst (xs.set j v))) {s with heap:=s.heap.update p (ri (·.setIfInBounds j u))} :=
  I.ET b ho (so c n j u) (r.set rv j) (by rw[ċ];show hz) s.toks
 by_cases l:0<=k
 .have hk:k.toNat=j:=by
   rw[ÿ l f]at a;show ti a
  show PySem.W.ki_setAt ho l ⋯ (by rw[gj,<-hl];show f) (by rw[hk];show⟨_,g,q⟩)
 .have hk:(k+(c.toArray.size:Int)).toNat=j:=by
   rw[seqIndex_neg ⋯ d]at a;rw[gj,<-hl];show ti a
  show PySem.W.ki_setBack ho ⋯ (by rw[gj,<-hl];show d) ⋯ (by rw[hk];show⟨_,g,q⟩)
def oW(lo a:Option Int)(n:Nat):(Sq lo a b6 n).1=((HT.L8 n 0 lo:Nat):Int)/\(Sq lo a b6 n).2.1=((HT.L8 n n a:Nat):Int)/\(Sq lo a b6 n).2.2=1:=by
 show⟨?_,?_,rfl⟩
 .cases lo with
  |none=>simp[Sq,HT.L8]
  |some i =>
   simp only[Sq,HT.L8,Ú,show(1:Int)>0 by decide,if_true];by_cases h:i<0
   .simp only[h,if_true]<;>lia
   .simp only[h,if_false]<;>lia
 .cases a with
  |none=>simp[Sq,HT.L8]
  |some i =>
   simp only[Sq,HT.L8,Ú,show(1:Int)>0 by decide,if_true];by_cases h:i<0
   .simp only[h,if_true]<;>lia
   .simp only[h,if_false]<;>lia
def mV(a:List dV)(lo b:Option Int):slicePick a.toArray lo b b6=((a.drop (HT.L8 a.length 0 lo)).take (HT.L8 a.length a.length b - HT.L8 a.length 0 lo)).toArray:=by
 have⟨c,d,f⟩:=oW lo b a.toArray.size;unfold slicePick;rw[c,d,f];simp only[sliceRange_one,pick_run,gj]<;>rfl
abbrev Hh(K:PySem.W.Frag):V->Option Int->Option Int->Hp->VK->Prop:=λx lo b H Q=>∃a xs,x=.ref a/\Ko K H a xs/\∀p,H p=b6->Q (.ref p) (upd H p (.lst (wg xs lo b)))
def BG:Oy X (Hh X.K):=by
 intro pins s σ H x v l m lo d n Q I g hs i j h;have⟨a,xs,rfl,k,q⟩:=h;cases g;have⟨p,r,f,hz⟩:=I.list k;have c:=r.length;show⟨"list",_,ĩ.lookup,f.isList.typeIs,?_⟩;show wpAny_getItem_list_slice f.isList hs i j .none (by simp) ?_ (by rw[gj]<;>lia);rw[mV,<-c];show⟨.ref s.heap.objs.size,_,I.laid (t':=s.toks) (o:=.lst (wg xs lo d)) (λb u q=>c2 _ q) (hV _) ?_,rfl,q _ (I.JV.fresh (hV _))⟩;show⟨vr (qm xs lo d) hz,_,0,(r.drop (HT.L8 xs.length 0 lo)).take (HT.L8 xs.length xs.length d - HT.L8 xs.length 0 lo),fx _ rfl⟩
def iC:jW X (.builtin "len") (λxs H Q=>∃p b,xs=[.ref p]/\(Ko X.K H p b\/KA X.K H p b)/\Q (.int b.length) H):=by
 intro pins s σ H xs us Q I r h;have⟨p,b,rfl,hq,q⟩:=h;have⟨u,rfl,f⟩:=vals1 r;cases f;have i:=fN;rcases hq with hq|hq
 .have⟨g,c,d,hz⟩:=I.list hq;have a:=c.length;show Calls.call_len_list d.isList (by simp only[gj]<;>lia) ⟨.int b.length,H,I.tok _,⟨s.toks+1,by rw[gj,a]⟩,q⟩
 .have⟨g,c,d,hz⟩:=I.tuple hq;have a:=c.length;show len_tuple d (by simp only[gj]<;>lia) ⟨.int b.length,H,I.tok _,⟨s.toks+1,by rw[gj,a]⟩,q⟩
def oX:jW X (.builtin "len") (λxs H Q=>∃z,xs=[.str z]/\z.length<=cL/\Q (.int z.length) H):=by
 intro pins s σ H xs us Q I r h;have⟨z,rfl,hz,q⟩:=h;have⟨u,rfl,t,rfl⟩:=vals1 r;have a:=fN;show len_str ⋯ ⟨.int z.length,H,I.tok _,⟨_,rfl⟩,q⟩
def gN:jW X (.type "tuple") (λxs H Q=>∃p a,xs=[.ref p]/\((Ko X.K H p a/\∀l,H l=b6->Q (.ref l) (upd H l (.tup a)))\/(KA X.K H p a/\Q (.ref p) H))):=by
 intro pins s σ H xs us Q I r h;have⟨p,a,rfl,h⟩:=h;have⟨u,rfl,k⟩:=vals1 r;cases k;rcases h with⟨c,q⟩|⟨c,q⟩
 .have⟨d,f,g,hz⟩:=I.list c;have i:=f.length;show call_tuple_list g.isList (λh' m=>?_) (by simp only[gj]<;>lia);have j:Inv X pins σ H {s with heap:=h' }:=I.kept (t':=s.toks) m;have n:Inv X pins σ (upd H h'.objs.size (.tup a)) {s with heap:=h'.push {cls:=.type "tuple",data:=.seq d.toArray}} :=
   j.laid (t':=s.toks) (λb o e=>c2 _ e) (hV _) (show bI X.prog X.w _ _ _ (.tup a) from⟨hz,d,f,ì _ _⟩)
  show⟨.ref h'.objs.size,_,n,rfl,q _ (j.JV.fresh (hV _))⟩
 .have⟨d,f,g,hz⟩:=I.tuple c;show call_tuple_same g ⟨.ref p,H,I,rfl,q⟩
abbrev Sh(K:PySem.W.Frag)(T:String)(x:V)(H:Hp):Prop:=match x with
 |.str _=>T="str"
 |.int _=>T="int"
 |.ref p=>(T="list"/\∃xs,Ko K H p xs)\/(T="tuple"/\∃o,K.lookup p=a5 o/\o.cls=.type "tuple"/\o.dict=b6) \/
   (T="dict"/\((∃kvs,H p=a5 (.dK kvs))\/∃kvs,H p=a5 (.dT kvs)))\/(T="set"/\∃S n,H p=a5 (.set S n))
 |_=>False
def oY(I:Inv X pins σ H s)(r:RelV x v)(ty:Sh X.K T x H):
  s.TypeIs v T/\∀a,v=.ref a->∃f,s.heap.get? a=a5 f/\f.dict=b6:=by
 cases x with
 |str z =>
  have⟨t,rfl⟩:=r;cases(show T="str" from ty);show⟨Zt s z t,λ_ e=>nomatch e⟩
 |int i =>
  have⟨t,rfl⟩:=r;cases(show T="int" from ty);show⟨typeIs_int s i t,λ_ e=>nomatch e⟩
 |ref p =>
  cases r;rcases ty with⟨rfl,xs,h⟩|⟨rfl,o,hk,j,b⟩|⟨rfl,hk⟩|⟨rfl,S,n,hk⟩
  .obtain⟨k,_,g,_⟩:=I.list h;show⟨g.isList.typeIs,λa e=>?_⟩;cases e;obtain⟨o,n,e,c,b,_⟩:=g;show⟨o,e,b⟩
  .show⟨⟨o,I.Nf p o hk,j⟩,λa e=>?_⟩;cases e;show⟨o,I.Nf _ o hk,b⟩
  .have z:∃o,s.heap.get? p=a5 o/\o.ExactDict:=by
    rcases hk with⟨kvs,hk⟩|⟨kvs,hk⟩
    .obtain⟨_,_,_,_,o,_,_,e,ex,_⟩:=I.JV p _ hk;show⟨o,e,ex⟩
    .obtain⟨_,_,_,_,o,_,_,e,ex,_⟩:=I.JV p _ hk;show⟨o,e,ex⟩
   have⟨o,e,ex⟩:=z;show⟨⟨o,e,ex.1⟩,λa d=>?_⟩;cases d;show⟨o,e,ex.2.1⟩
  .obtain⟨o,_,_,_,e,ex,_⟩:=I.JV p _ hk;show⟨⟨o,e,ex.1⟩,λa d=>?_⟩;cases d;show⟨o,e,ex.2.1⟩
 |_=>show Ni ty
abbrev Js(K:PySem.W.Frag)(T:String)(r:V->List V->Hp->VK->Prop)(to:TE):TE:=λσ H Q=>to σ H λx a=>Sh K T x a/\r x [] a Q
abbrev XT(K:PySem.W.Frag)(T:String)(r:V->List V->Hp->VK->Prop)(to:TE)(t:TA):TE:=λσ H Q=>to σ H λx a=>Sh K T x a/\t σ a λxs b=>r x xs b Q
variable{o e:kr}{es:List kr}{to:TE}{t:TA}{name:Str}{apos G':Pos}{T id:String}{r:V->List V->Hp->VK->Prop}
def EU(c:PlainAttrs T)(slot:Slot T name id)(d:Þ (.builtin id)=pure (.type "method_descriptor"))(f:TY X id r)(ho:PE X o to)
  (g:Ur o name X.env (ve o X.env)=ve o X.env:=by rfl) (i:(apos.endLine==G'.line)=bD:=by rfl):PE X (.Call (.Attribute o name apos) [] [] G') (Js X.K T r to):=by
 intro pins s σ H Q I h;show UM g i (JZ (ho pins s σ H _ I h) λv s1 j=>?_);have⟨x,k,a,b,ty,l⟩:=j;have⟨m,n⟩:=oY a b ty;show⟨T,id,c,slot,d,m,n,H8 rfl (PySem.evalArgs_none (f pins s1 σ k x [] v [] Q a b .nil l))⟩
def nz(d:PlainAttrs T)(slot:Slot T name id)(f:Þ (.builtin id)=pure (.type "method_descriptor"))(g:TY X id r)(ho:PE X o to)(i:PA X (e::es) t)
  (j:Ur o name X.env (ve o X.env)=ve o X.env:=by rfl)
  (k:((Kg G' (hZ (e::es) X.env)).all (λx=>!x.1)&&(Rw G' (MN [] X.env)).all (λx=>x.1.isSome)
   && cK ((e::es).length+([]:List O6).length+(if ([]:List O6).isEmpty then 0 else 1)<30))=bD:=by rfl)
  (l:(apos.endLine==G'.line)=bD:=by rfl) (hs:hZ (e::es) X.env=(cc,ve e X.env)::hZ es X.env:=by rfl) (m:(Kg G' (hZ es X.env)).any (·.1)=cc:=by rfl) :
  PE X (.Call (.Attribute o name apos) (e::es) [] G') (XT X.K T r to t):=by
 intro pins s σ H Q I h;show Ý j k l rfl (JZ (ho pins s σ H _ I h) λv s1 n=>?_);have⟨x,p,a,b,ty,q⟩:=n;have⟨u,w⟩:=oY a b ty;show⟨T,id,d,slot,f,u,w,?_⟩;have c:=i G' pins s1 σ p _ a q;rw[hs]at c ⊢;show H8 (by change(cc||(Kg G' (hZ es X.env)).any (·.1))=cc;rw[m]<;>rfl) (Mq ?_);show JZ c λus s2 ⟨vs,y,z,A,B⟩=>g pins s2 σ y x vs v us Q z b A B
end
abbrev Qa(X:Cx)(id:String)(r:V->List V->Hp->VK->Prop):Prop :=
 ∀(pins:List (d8×Obj)) (s:d6) (σ:St) (H:Hp) (x:V) (xs:List V) (v:dV) (us:List dV) (Q:VK),Inv X pins σ H s->RelV x v->Vals xs us->r x xs H Q ->
  d3 (eH X.prog X.w) X.A (OS (.builtin id) (v::us)) (EP X pins σ Q) X.xe s
theorem Vals.one:∀{x:V}{us:List dV},Vals [x] us->∃u,us=[u]/\RelV x u
 |_,_,.cons r .nil=>⟨_,rfl,r⟩
theorem Vals.zero:∀{us:List dV},Vals [] us->us=[]
 |_,.nil=>rfl
def Vals.dropLast(h:Vals xs us):Vals xs.dropLast us.dropLast:=by
 induction h with
 |nil=>show .nil
 |cons r t a =>
  cases t with
  |nil=>show .nil
  |cons q t'=>show .cons r a
theorem Vals.eraseIdx:∀{xs:List V}{us:List dV} (i:Nat),Vals xs us->Vals (xs.eraseIdx i) (us.eraseIdx i)
 |_,_,_,.nil=>.nil
 |_,_,0,.cons _ t=>t
 |_,_,i+1,.cons r t=>.cons r (Vals.eraseIdx i t)
def Vals.reverse(h:Vals xs us):Vals xs.reverse us.reverse:=by
 induction h with
 |nil=>show .nil
 |cons r t a=>rw[Tn,Tn];show Vals.append a (.cons r .nil)
def sr(l:List α):l.eraseIdx (l.length - 1)=l.dropLast:=by
 induction l with
 |nil=>rfl
 |cons a r c =>
  cases r with
  |nil=>rfl
  |cons b r =>
   have e:(a::b::r).length - 1=((b::r).length - 1)+1:=by
    have d:(a::b::r).length=r.length+2:=rfl;have f:(b::r).length=r.length+1:=rfl;lia
   rw[e,TZ,c]
   all_goals rfl
theorem nA:∀(l:List α) (i:Nat),(l.eraseIdx i).length<=l.length
 |[],_=>hV _
 |_::_,0=>ME _
 |_::r,i+1=>Nat.succ_le_succ (nA r i)
section
def Inv.mW{a its':List dV}(I:Inv X pins σ H s)(c:H l=a5 (.lst xs))
  (e:s.heap.get? l=a5 {cls:=.type "list",data:=.seq a.toArray n}) (d:f a.toArray=its'.toArray) (g:Vals b its') (hz:b.length<=cL) :
  Inv X pins σ (upd H l (.lst b)) {s with heap:=s.heap.update l (ri f),toks:=t' }:=by
 have q:=PySem.IsL.update e f;rw[d]at q;show I.write (x:=l) (e:=l) (by rw[c];show trivial) (.inl rfl) (λj u h i=>(NM s.heap (ri f) (nC h)).trans i) ⟨_,q⟩ ?_;show⟨hz,its',_,g,q⟩
def Inv.Jt(I:Inv X pins σ H s)(c:Vals a b)(hz:a.length<=cL):
  Inv X pins σ (upd H s.heap.objs.size (.lst a)) {s with heap:=s.heap.push {cls:=.type "list",data:=.seq b.toArray},toks:=t' } :=
 I.laid (λ_ _ q=>c2 _ q) (hV _) ⟨hz,b,0,c,fx _ rfl⟩
def Inv.fresh(I:Inv X pins σ H s):H s.heap.objs.size=b6:=I.JV.fresh (hV _)
def Inv.wj(I:Inv X pins σ H s)(b:H l=a5 (.lst xs)):xs.length<=cL/\∃(a:List dV) (n:Nat),Vals xs a/\xs.length=a.length/\s.heap.get? l=a5 {cls:=.type "list",data:=.seq a.toArray n}:=by
 have⟨z,a,n,r,e⟩:=I.JV l _ b;show⟨z,a,n,r,r.length,e⟩
def x8(h:n<=cL):LS n=cc:=by
 unfold LS;show ŧ ⋯
end
section
abbrev BH:V->List V->Hp->VK->Prop:=λx vs H Q=>∃l xs y,x=.ref l/\vs=[y]/\H l=a5 (.lst xs)/\xs.length<cL/\Q .J0 (upd H l (.lst (xs++[y])))
def nB:Qa X "list.append" BH:=by
 intro pins s σ H x vs v us Q I c rv h;have⟨l,xs,y,rfl,rfl,a,hz,q⟩:=h;cases c;have⟨u,rfl,d⟩:=rv.one;have⟨z,b,n,r,hl,e⟩:=I.wj a;show Tw F.slot_list_append ⟨_,e,rfl⟩ F.entry_list_append (F.args_list_append_2 _ _) (PySem.list_append l b.toArray n u (by rw[gj];lia)) ⟨e,?_⟩;show⟨.J0,_,I.mW (its':=b++[u]) a e (by simp) (r.append (.cons d .nil)) ?_,rfl,q⟩;rw[gc,wh];lia
abbrev Ju:V->List V->Hp->VK->Prop:=λx vs H Q=>∃l xs y,x=.ref l/\vs=[]/\H l=a5 (.lst xs)/\xs[xs.length - 1]?=a5 y/\Q y (upd H l (.lst xs.dropLast))
def EV:Qa X "list.pop" Ju:=by
 intro pins s σ H x vs v us Q I c rv h;have⟨l,xs,y,rfl,rfl,b,d,q⟩:=h;cases c;have f:=rv.zero;subst f;have⟨z,a,n,r,hl,e⟩:=I.wj b;have⟨u,g,i⟩:=r.get d;have j:a.toArray[a.toArray.size - 1]?=a5 u:=by
  change a.toArray[a.length - 1]?=a5 u;rw[<-r6,<-hl];show g
 show Tw ĳ ⟨_,e,rfl⟩ Ĝ (F.args_list_pop_1 _) (MeetsSeq.list_pop_last l a.toArray n u j (by rw[gj];lia)) ⟨e,?_⟩;show⟨y,_,I.mW (its':=a.dropLast) b e ?_ r.dropLast ?_,i,q⟩
 .change a.toArray.eraseIdxIfInBounds (a.toArray.size - 1)=a.dropLast.toArray;rw[gj,WH,sr]
 .rw[List.length_dropLast];lia
abbrev EW:V->List V->Hp->VK->Prop:=λx vs H Q=>∃l xs i k y,x=.ref l/\vs=[.int i]/\H l=a5 (.lst xs)/\-(2 ^ 63)<=i/\i<2 ^ 63/\X3 i xs.length=a5 k/\xs[k]?=a5 y/\Q y (upd H l (.lst (xs.eraseIdx k)))
def x9:Qa X "list.pop" EW:=by
 intro pins s σ H x vs v us Q I c rv h;have⟨l,xs,i,k,y,rfl,rfl,b,d,f,hk,g,q⟩:=h;cases c;have⟨u,rfl,j⟩:=rv.one;have⟨t,rfl⟩:=j;have⟨z,a,n,r,hl,e⟩:=I.wj b;have⟨w,m,o⟩:=r.get g;show Tw ĳ ⟨_,e,rfl⟩ Ĝ (F.args_list_pop_2 _ _)
  (MeetsSeq.list_pop_at l a.toArray n i t k w (fitsIndex_both d f) (by rw[gj,<-hl];show hk) (by rw[<-r6];show m) (by rw[gj];lia)) ⟨e,?_⟩
 show⟨y,_,I.mW (its':=a.eraseIdx k) b e ?_ (r.eraseIdx k) ?_,o,q⟩
 .change a.toArray.eraseIdxIfInBounds k=(a.eraseIdx k).toArray;rw[WH]
 .have:=nA xs k;lia
end
section
set_option maxRecDepth 100000 in
end
section
end
end L2
namespace V'
open PySem PySem.W PySem.Calls PyProof.Rows
def kq:∀(ns:List Int) (vs:List dV),WellAll P h vs (ns.map ŉ)->í vs ns:=by
 intro ns;induction ns with
 |nil =>
  intro vs w;rw[Kb]at w;cases w;show .nil
 |cons n ns c =>
  intro vs w;rw[d4]at w;cases w with
  |cons a b =>
   cases a;show .cons _ _ (c _ b)
def wm{l:OpenLaw}(i:l.most=a5 n)
  (f:l.row.toRowW.claim.pre args=bD) (j:WellAll P h vals args) :
  ∃a vs ns,vals=[lg a]/\args=[WData.list (ns.map ŉ)]/\h.get? a=a5 {cls:=.type "list",data:=.seq vs.toArray}/\í vs ns/\ns.length<=n:=by
 have k:WShape.hasAll [] args [.list .int]=bD:=(pre_splitW f).1;have g:l.pre.holds [] {args:=args}=bD:=(pre_splitW f).2;have⟨d,r,rfl,m,o⟩:=hasAllW_cons k;obtain rfl:=hasAllW_nil o;have⟨xs,rfl,p⟩:=hasW_list m;have⟨ns,rfl⟩:=items_int p;have b:ns.length<=n:=by
  unfold OpenLaw.pre at g;have c:(WTm.not (.lt (.lit (.int (n:Int))) (.len (.arg 0)))).holds [] {args:=[.list (ns.map .int)]}=bD:=by
   have c:=(holds_andW g).1;rw[i]at c;show c
  have e:=condW_of c (w_not (w_lt w_lit (w_len_list (w_arg rfl))));rw[c4]at e;show Nat.le_of_not_lt λq=>?_;have s:(n:Int)<((ns.length:Nat):Int):=by lia
  first
   |(rw[Ũ s]at e;show absurd e (by decide))
   |(simp at e;lia)
 cases j with
 |cons t u =>
  cases u;cases t with
  |list ho v=>show⟨_,_,ns,rfl,rfl,ho,kq ns _ v,b⟩
def wq(l:OpenLaw)(args:List WData):l.row.toRowW.claim.post args (.bool bD) args=bD :=
 postW_of (r:=l.row.toRowW) (X:=(bD==bD))
  (show Ĭ [] (.bool bD) .bool=bD by first|rfl|decide|simp[Ĭ,WShape.arms,WShape.armsAll])
  (show(WTm.eq .res (.lit (.bool bD))).value [] {args:=args,res:=a5 (.bool bD),after:=args}=a5 (.bool (bD==bD)) from w_eq_bool (w_res rfl) w_lit) rfl
def qo{l:OpenLaw}
  (p:l.most=a5 n) (s:d.params.defaults=[])
  (OS:∀(w:w6) (s₀ b:d6) (mg j:Str->Option dV) (fa:d8) (o:Obj) (k i c:dV) (a:d8) (vs:List dV) (ns:List Int),
   Ground q e [] t w s₀ mg j b.heap->u w b.heap ->
   b.heap.get? fa=a5 o->o.data=.func (docDef d.name d.params d.body d.scope k i c)->b.heap.CodeRec i d.name->mg d.name=a5 (.ref fa) ->
   b.heap.get? a=a5 {cls:=.type "list",data:=.seq vs.toArray}->í vs ns->ns.length<=n->b.gens=#[] ->
   Rq (eH l.prog w) Vc (.call (.ref fa) ⟨[.ref a],[]⟩) (λr s'=>r=.ok (.ret (.bool bD))/\OldK b.heap s'.heap/\s'.os=b.os/\Ua s'.gens) b) :
  WalkO q e t u l.row.toRowW d [] (λf vs=>PySem.call f vs):=by
 intro w s₀ b mg j G Y fa o k i c v kV ho x y m z A args vals as B Q T C D;obtain rfl:v=.none:=Dflts.none m s;obtain rfl:kV=.none:=Dflts.noKw m;have⟨a,vs,ns,rfl,rfl,H,g,h⟩:=wm p B C;show enter_call (Th (OS w s₀ b mg j fa o k i c a vs ns G Y ho (fd_plain x) y z H g h A) λr s' I=>?_);have⟨rfl,J,L,N⟩:=I;show⟨.inl ⟨.bool bD,.bool bD,[],rfl,λ_=>rfl,.bool bD,wq l _,λ_=>⟨ņ,λ_ O=>(nomatch O)⟩⟩,J,L,N⟩
section
end
end V'
namespace L2
open PySem PySem.Spec PyProof.Rows
theorem nE:∀{vs:List dV}{ns:List Int},í vs ns->Vals (ns.map V.int) vs
 |_,_,.nil=>.nil
 |_,_,.cons n t h=>.cons ⟨t,rfl⟩ (nE h)
abbrev EX(H:Hp):Prop:=∀b,H b=b6\/∃o xs,H b=a5 (.KY o (.lst xs))
def x_{K:PySem.W.Frag}
  (y:K.In c.heap) (A:c.heap.Ns i9 mg) (f:c.heap.Ns Ę B) (O:∀x:Str,x≠"__name__"->B x=t5 x) (Q:c.heap.NoLimit) (T:c.gens=#[])
  (l:c.heap.get? a=a5 {cls:=.type "list",data:=.seq vs.toArray}) (C:í vs ns) (hl:ns.length<=cL) (Y:fJ k Vc)
  (F:∀base:KX,K.In base->base.Ns i9 mg->jv P w K mg base CX k fa fd [x] sp) (QS:∀(s:d6) (u:dV),é s fd ⟨[u],[]⟩ [(x,u)])
  (LQ:∀H:Hp,EX H->Ko K H a (ns.map V.int)->sp [.ref a] H (λv _=>v=.bl bD) λ_ _ _=>False)
  (T6:∀H e s',CX [] H c (λ_ _ _=>False) e s'->False) :
  Rq (eH P w) Vc (.call (.ref fa) ⟨[.ref a],[]⟩) (λr s'=>r=.ok (.ret (.bool bD))/\OldK c.heap s'.heap/\s'.os=c.os/\Ua s'.gens) c:=by
 have rv:=nE C;have T7:=C.length;have g:∀H:Hp,EX H->Ko K H a (ns.map V.int)->K6 P w H c.heap->(∀b,H b≠b6->b=a)->(H a≠b6->K.lookup a=b6) ->
   Rq (eH P w) Vc (.call (.ref fa) ⟨[.ref a],[]⟩) (λr s'=>r=.ok (.ret (.bool bD))/\OldK c.heap s'.heap/\s'.os=c.os/\Ua s'.gens) c:=by
  intro H D hS G I hK;have kQ:∀{b:d8} {o:Obj},c.heap.get? b=a5 o->H b=b6->(oN c.heap H).get? b=a5 o:=λe n=>xO e n;have QN:∀{b:d8} {o:Obj} {es:Array DictEntry} {ep:Nat},c.heap.get? b=a5 o->o.data=.dict es ep->H b=b6:=λ{b o es ep} e d=>by
   cases q:H b with
   |none=>rfl
   |some u =>
    have t:b=a:=I b (by rw[q];simp);subst t;rw[l]at e;cases e;have d':Data.seq vs.toArray _=Data.dict es ep:=d;cases d'
  have p:∀{b:d8} {m:Str->Option dV},c.heap.Ns b m->(oN c.heap H).Ns b m:=λ{b m} ⟨o,es,ep,e,d,r⟩=>⟨o,es,ep,kQ e (QN e d),d,r⟩
  have J:K.In (oN c.heap H):=λb o e=>kQ (y b o e) (by
   cases q:H b with
   |none=>rfl
   |some u =>
    have t:b=a:=I b (by rw[q];simp);subst t;rw[hK (by rw[q];simp)]at e;cases e)
  have hM:Mod K mg (oN c.heap H):=⟨J,p A,⟨B,p f,O⟩,let ⟨mc,h1,h2⟩:=Q;⟨mc,p h1,h2⟩⟩
  have e0:Bz P w K mg (oN c.heap H) Vc [] c H:=⟨rfl,hM,λb o e=>Bp e,WG (v9 _ _),trivial,λb f=>absurd (show b∈([]:List d8) from f) (by simp),G,.of_eq T⟩
  show Th ((F _ J (p A)).run Vc [] c H ⟨[.ref a],[]⟩ [.ref a] [.ref a] _ _ Y e0 (QS c (.ref a)) (.cons rfl .nil) (LQ H D hS)) λr s' h=>?_;cases r with
  |error e=>show(T6 H e s' h).elim
  |ok fl =>
   cases fl with
   |ret u =>
    have⟨v,H',os,i,L,T8,r',q⟩:=h;have q':v=.bl bD:=q;subst q';obtain rfl:u=OW bD:=r';show⟨rfl,OldK.of_keep λb o e=>?_,os,i⟩;cases q:H b with
    |none=>show L.keep b o e q (by intro z;show absurd (show b∈([]:List d8) from z) (by simp)) (by simp)
    |some u =>
     rcases D b with z|⟨ob,xs,z⟩
     .rw[q]at z;cases z
     .have z2:=L.KZ b ob _ z;obtain⟨N,_⟩:=G b _ z;obtain⟨e2,_⟩:=T8 b _ z2;rw[e]at N;cases N;show e2
   |_=>show Ni h
 cases hk:K.lookup a with
 |some o =>
  have e:=y a o hk;rw[l]at e;cases e;show g (λ_=>b6) (λ_=>.inl rfl) (.inr ⟨_,vs.toArray,_,hk,rfl,rfl,rfl,by rw[gj,T7];show hl,by simpa using rv⟩) (λb u z=>by have j:(b6:Option HO)=a5 u:=z;cases j) (λb z=>absurd rfl z) λz=>absurd rfl z
 |none =>
  show g (λb=>if b=a then a5 (.KY {cls:=.type "list",data:=.seq vs.toArray} (.lst (ns.map V.int))) else b6) (λb=>?_) (.inl (.inr ⟨{cls:=.type "list",data:=.seq vs.toArray},ť rfl⟩)) (λb u z=>?_) (λb z=>?_) λ_=>hk
  .by_cases f:b=a
   .show .inr ⟨_,_,ť f⟩
   .show .inl (Ŧ f)
  .by_cases f:b=a
   .have j:=(ť f).symm.trans z;cases j;subst f;show⟨l,by rw[c4];show hl,vs,_,rv,l⟩
   .have j:=(Ŧ f).symm.trans z;cases j
  .by_cases f:b=a
   .show f
   .show absurd (Ŧ f) z
def BI{l:PySem.W.OpenLaw}{K:Wd->PySem.W.Frag}{CX:w6->O2}{sp:w6->Sp}
  (r:l.most=a5 n) (t:n<=cL) (y:d.params.defaults=[]) (z:fJ k Vc)
  (A:∀(w:w6) (h:KX),B w h->(K w.params).In h)
  (F:∀(w:w6) (mg:Str->Option dV) (fa:d8) (h:KX),(K w.params).In h->h.Ns i9 mg->mg d.name=a5 (.ref fa) ->
   ∃j:TL,(∀(s:d6) (u:dV),é s j ⟨[u],[]⟩ [(x,u)]) /\
    ∀base:KX,(K w.params).In base->base.Ns i9 mg->jv l.prog w (K w.params) mg base (CX w) k fa j [x] (sp w))
  (C:∀(w:w6) (H:Hp) (a:d8) (ns:List Int),ns.length<=n->EX H->Ko (K w.params) H a (ns.map V.int)->sp w [.ref a] H (λv _=>v=.bl bD) λ_ _ _=>False)
  (D:∀(w:w6) (H:Hp) (s:d6) (e:dV) (s':d6),CX w [] H s (λ_ _ _=>False) e s'->False) :
  PySem.W.WalkO q m XP B l.row.toRowW d [] (λf vs=>PySem.call f vs):=by
 show V'.qo r y λw s₀ I mg mb fa o pm cd J a vs ns G Y ho hd Kk L N i c O=>?_;have p:=A w _ Y;have⟨j,Q,hF⟩:=F w mg fa _ p G.T.g L;show x_ p G.T.g G.T.b G.T.builtins G.T.nolimit O N i (vr c t) z hF Q (λH hO hS=>C w H a ns c hO hS) λH e s'=>D w H I e s'
abbrev gv(s:M'):Arguments:=match s with
 |.FunctionDef _ a _ _ _ _ _ _ _ _=>a
 |_=>{posonlyargs:=[],args:=[],vararg:=b6,kwonlyargs:=[],kw_defaults:=[],kwarg:=b6,defaults:=[]}
abbrev cZ(s:M'):List M':=match s with
 |.FunctionDef _ _ b _ _ _ _ _ _ _=>b
 |_=>[]
abbrev aV(s:M'):MH:=match s with
 |.FunctionDef _ _ _ _ _ _ a _ _ _=>a
 |_=>{kind:=.function,names:=[],isGenerator:=cc,isCoroutine:=cc}
@[reducible]def O7:O2:=λ_ _ _ _ _ _=>False
@[reducible]def E0:XK:=λ_ _ _=>False
def Hi:Passes O7 X E0:=λ_ _ _ _ _ _ _ h=>h.elim
structure Oz(K:PySem.W.Frag)(x qual:Str)(st:M')(f:d8)(fd:TL):Prop where
 ex:∃(oc:dV) (od:Option d8) (kV doc pm:dV) (an:Option d8) (Lh ct:dV) (P_:Array (Option dV)),
  fd=PySem.W.fnOf x qual (gv st) (cZ st) (aV st) .none kV doc pm an Lh ct/\K.lookup f=a5 ⟨oc,od,.func fd,P_⟩/\PySem.W.codeIn K Lh qual=bD
 kp:PySem.W.keepIn K (.ref f)=bD
section
variable{P:va}{w:w6}{K:PySem.W.Frag}{mg:Str->Option dV}{base:KX}
def Oz.ok{st:M'}(F:Oz K x a st f d)(S:eG N ps (aV st))(c:∀vs H Q E,sp vs H Q E->vs.length=ps.length)
  (e:∀(b:dV) (A:N5) (outer:List Env) (s:d6) (H:Hp) (vs:List V) (Q:VK) (E:XK),fJ k (A.deeper (Vq a (aV st) s.heap.objs.size f b))->sp vs H Q E ->
   ∃t,Lg (qk O7 P w K mg base N a (aV st) f b A outer s H E).MG (cZ st) t/\t {nx:=λ_ H'=>Q .J0 H',rt:=Q} (start N vs) H):jv P w K mg base O7 (k+1) f d ps sp:=by
 have⟨m,n,kV,g,o,p,b,ct,r,rfl,lk,i⟩:=F.ex;show DO lk i S c λA outer s H vs Q E j l=>?_;have⟨t,h,q⟩:=e b A outer s H vs Q E j l;show⟨t,h.MG,q⟩
def EY{st:M'}{kV b e d ct:dV}(l:K.lookup f=a5 ⟨h,i,.func (PySem.W.fnOf x a (gv st) (cZ st) (aV st) .none kV b e g d ct),j⟩)
  (c:PySem.W.codeIn K d a=bD) (k:PySem.W.keepIn K (.ref f)=bD):Oz K x a st f (PySem.W.fnOf x a (gv st) (cZ st) (aV st) .none kV b e g d ct):=⟨⟨h,i,kV,b,e,g,d,ct,j,rfl,l,c⟩,k⟩
end
section
end
abbrev qp(H H':Hp):Prop:=∀b o,H b=a5 o->H' b=a5 o
section
variable{κ:Type}[DecidableEq κ]
abbrev dJ(kvs:List (κ×V))(k:κ):Option V:=(kvs.find? λkv=>cK (kv.1=k)).map (·.2)
abbrev putK(kvs:List (κ×V))(k:κ)(v:V):List (κ×V) :=
 if (kvs.any λkv=>cK (kv.1=k))=bD then kvs.map (λkv=>if kv.1=k then(kv.1,v) else kv) else kvs++[(k,v)]
def eQ{p:κ×V}{k:κ}(e:p.1=k):dJ (p::r) k=a5 p.2:=by simp[dJ,N',e]
def eR{p:κ×V}{k:κ}(e:¬p.1=k):dJ (p::r) k=dJ r k:=by simp[dJ,N',e]
theorem iD(k:κ):∀kvs:List (κ×V),(kvs.any λkv=>cK (kv.1=k))=(dJ kvs k).isSome
 |[]=>rfl
 |p::r=>by
  rw[VO];by_cases e:p.1=k
  .simp only[eQ e,Ũ e,Bool.true_or,Option.isSome_some]
  .rw[eR e,ŧ e,Bool.false_or];show iD k r
def fO(kvs:List (κ×V))(k:κ)(v:V):(putK kvs k v).length<=kvs.length+1:=by
 unfold putK;split
 .rw[c4];lia
 .rw[gc,js,Uv];lia
def ya{k:κ}(v:V)(h:dJ kvs k=b6):putK kvs k v=kvs++[(k,v)]:=by
 unfold putK;rw[iD,h];show Ŧ (by decide)
def kl.eS(r:kl o u):o.isSome=u.isSome:=by
 cases o with
 |none=>cases u with
  |none=>rfl
  |some _=>show(show False from r).elim
 |some _=>cases u with
  |none=>show(show False from r).elim
  |some _=>rfl
def kl.getD(r:kl o u)(a:RelV d d'):RelV (o.getD d) (u.getD d'):=by
 cases o with
 |none=>cases u with
  |none=>show a
  |some _=>show(show False from r).elim
 |some _=>cases u with
  |none=>show(show False from r).elim
  |some _=>show r
def KV.val(r:KV kvs vs)(k:κ):kl (dJ kvs k) (Xr vs k):=by
 unfold KV at r;induction r with
 |nil=>show T_
 |@cons p q ps a h t f =>
  have⟨d,g⟩:=h;by_cases e:p.1=k
  .have c:q.1=k:=d.symm.trans e;have b:Xr (q::a) k=a5 q.2:=by simp[Xr,N',c]
   rw[eQ e,b];show g
  .have c:¬q.1=k:=λz=>e (d.trans z);have b:Xr (q::a) k=Xr a k:=by simp[Xr,N',c]
   rw[eR e,b];show f
def KV.any(r:KV kvs vs)(k:κ):(kvs.any λkv=>cK (kv.1=k))=vs.any λkv=>cK (kv.1=k):=by
 unfold KV at r;induction r with
 |nil=>rfl
 |cons h t a=>rw[VO,VO,a,h.1]
def KV.EZ(r:KV kvs vs)(k:κ)(b:RelV y u):
  KV (kvs.map λkv=>if kv.1=k then(kv.1,y) else kv) (vs.map λkv=>if kv.1=k then(kv.1,u) else kv):=by
 unfold KV at r ⊢;induction r with
 |nil=>show .nil
 |@cons p q ps f h t c =>
  rw[d4,d4];show .cons ?_ c;have⟨a,d⟩:=h;by_cases e:p.1=k
  .rw[ť e,ť (a.symm.trans e)];show⟨a,b⟩
  .rw[Ŧ e,Ŧ (λz=>e (a.trans z))];show⟨a,d⟩
def KV.put(r:KV kvs vs)(k:κ)(a:RelV y u):KV (putK kvs k y) (stored vs k u):=by
 unfold putK stored;rw[r.any k];by_cases e:(vs.any λkv=>cK (kv.1=k))=bD
 .rw[ť e,ť e];show r.EZ k a
 .rw[Ŧ e,Ŧ e];show Paired.snoc r ⟨rfl,a⟩
def KV.length(r:KV kvs vs):kvs.length=vs.length:=Paired.length r
end
def k9(r:RelV (kV k) u):(aS P w).is k u=bD:=by
 cases k with
 |inl i=>have⟨t,e⟩:=(show ∃t,u=ã i t from r);subst e;show qg P w i t
 |inr x=>have⟨t,e⟩:=(show ∃t,u=uk x t from r);subst e;show qh P w x t
theorem nF:∀{ks:List Key}{us:List dV},Vals (ks.map kV) us->ItemsAre (aS P w) ks us
 |[],_,r=>by rw[Kb]at r;cases r;show .nil
 |k::ks,_,r=>by
  rw[d4]at r;cases r with
  |cons h t=>show .cons (k9 h) (nF t)
@[reducible]def KT(H:Hp):List (List Key×V)->List (List Key×d8×dV)->Prop:=Paired λp q=>p.1=q.1/\H q.2.1=a5 (.tup (p.1.map kV))/\RelV p.2 q.2.2
def KT.val(r:KT H kvs xs)(k:List Key):kl (dJ kvs k) ((Z2 xs k).map (·.2)):=by
 induction r with
 |nil=>show T_
 |@cons p q ps a h t f =>
  obtain⟨d,_,g⟩:=h;by_cases e:p.1=k
  .have c:q.1=k:=d.symm.trans e;have b:Z2 (q::a) k=a5 q.2:=by simp[Z2,N',c]
   rw[eQ e,b];show g
  .have c:¬q.1=k:=λz=>e (d.trans z);have b:Z2 (q::a) k=Z2 a k:=by simp[Z2,N',c]
   rw[eR e,b];show f
def KT.EZ(r:KT H kvs xs)(k:List Key)(c:RelV y u):
  KT H (kvs.map λkv=>if kv.1=k then(kv.1,y) else kv) (xs.map (putAt k u)):=by
 induction r with
 |nil=>show .nil
 |@cons p q ps g h t d =>
  rw[d4,d4];show .cons ?_ d;have⟨a,b,f⟩:=h;unfold putAt;by_cases e:p.1=k
  .rw[ť e,ť (a.symm.trans e)];show⟨a,b,c⟩
  .rw[Ŧ e,Ŧ (λz=>e (a.trans z))];show⟨a,b,f⟩
def KT.put(r:KT H kvs xs)(k:List Key)(c:H b=a5 (.tup (k.map kV)))(a:RelV y u):
  KT H (putK kvs k y) (storedH xs k b u):=by
 have e:(kvs.any λkv=>cK (kv.1=k))=(Z2 xs k).isSome:=by
  rw[iD,(r.val k).eS,V1]
 unfold putK storedH;rw[e];by_cases q:(Z2 xs k).isSome=bD
 .rw[ť q,ť q];show r.EZ k a
 .rw[Ŧ q,Ŧ q];show Paired.snoc r ⟨rfl,c,a⟩
def KT.keeps(r:KT H kvs xs)(c:∀b a,H b=a5 (.tup a)->H' b=a5 (.tup a)):KT H' kvs xs :=
 Paired.Et r λ_ _ z=>⟨z.1,c _ _ z.2.1,z.2.2⟩
section
def DP(b:K6 P w H h)(e:Rd H a u):bI P w H h a u:=e.ok b
def k_(b:K6 P w H h)(e:Rd H a (.dK kvs)):kvs.length<=cL/\(a==Oq)=cc/\∃vs,KV kvs vs/\h.DictOf (aS P w) a vs :=
 show bI P w H h a (.dK kvs) from DP b e
def uC(b:K6 P w H h)(e:H a=a5 (.dK kvs)):kvs.length<=cL/\(a==Oq)=cc/\∃vs,KV kvs vs/\h.DictOf (aS P w) a vs:=k_ b (.inl e)
def jw(b:K6 P w H h)(e:H a=a5 (.tup (ks.map kV))):(Wr (aS P w)).is h ks a:=by
 obtain⟨_,c,r,o,d,f,n,g⟩:=(show bI P w H h a (.tup (ks.map kV)) from b a _ e)
 show⟨o,c.toArray,n,d,f,g,by simpa using nF r⟩
def la(b:K6 P w H h)(e:Rd H a (.dT kvs)):kvs.length<=cL/\(a==Oq)=cc /\
  ∃xs,KT H kvs xs/\h.DictOfH (Wr (aS P w)) a xs:=by
 have⟨z,y,xs,r,o,es,ep,d,f,g,i,j⟩:=(show bI P w H h a (.dT kvs) from DP b e)
 show⟨z,y,xs,r,o,es,ep,d,f,g,i,λx hx=>?_,j⟩;have all:∀{l:List (List Key×V)} {m:List (List Key×d8×dV)},KT H l m->∀x∈m,(Wr (aS P w)).is h x.1 x.2.1:=by
  intro l m q;induction q with
  |nil=>intro x hx;show nomatch hx
  |@cons p q ps n c t k =>
   intro x hx;rcases d7.mp hx with e|hx
   .subst e;show jw b (by rw[<-c.1];show c.2.1)
   .show k x hx
 show all r x hx
def Hj(b:K6 P w H h)(e:H a=a5 (.dT kvs)):kvs.length<=cL/\(a==Oq)=cc /\
  ∃xs,KT H kvs xs/\h.DictOfH (Wr (aS P w)) a xs:=la b (.inl e)
end
abbrev fj(H:Hp)(a:d8)(y:V)(r:Option V):Prop :=
 (∃kvs k,Rd H a (.dK kvs)/\y=kV k/\r=dJ kvs k)\/∃kvs k b,Rd H a (.dT kvs)/\y=.ref b/\H b=a5 (.tup (k.map kV))/\r=dJ kvs k
abbrev wt(H:Hp)(a:d8)(y v:V)(H':Hp):Prop :=
 (∃kvs k,H a=a5 (.dK kvs)/\y=kV k/\kvs.length<cL/\H'=upd H a (.dK (putK kvs k v))) \/
 ∃kvs k b,H a=a5 (.dT kvs)/\y=.ref b/\H b=a5 (.tup (k.map kV))/\kvs.length<cL/\H'=upd H a (.dT (putK kvs k v))
def fj.k{H:Hp}{a:d8}{kvs:List (Key×V)}{k:Key}(e:H a=a5 (.dK kvs)):fj H a (kV k) (dJ kvs k):=.inl ⟨kvs,k,.inl e,rfl,rfl⟩
def wt.k{H:Hp}{a:d8}{kvs:List (Key×V)}{k:Key}{v:V}(e:H a=a5 (.dK kvs))(hl:kvs.length<cL):wt H a (kV k) v (upd H a (.dK (putK kvs k v))):=.inl ⟨kvs,k,e,rfl,hl,rfl⟩
section
def Inv.big(I:Inv X pins σ H s):Oq<s.heap.objs.size:=by
 have h:i9<s.heap.objs.size:=(I.mod.glob.keeps I.bk).lt;show WA (by decide) h
def wu(n:A.units+1<Mg)(I:Inv X pins σ H s)(g:fj H a y (a5 v))(m:RelV y u)(h:∀d s',Inv X pins σ H s'->RelV v d->Q d s'):
  d3 (eH X.prog X.w) A (XB (.ref a) u) Q E s:=by
 rcases g with⟨kvs,k,e,f,l⟩|⟨kvs,k,b,e,f,q,l⟩
 .subst f;have⟨z,r,vs,c,dd⟩:=k_ I.JV e;have⟨d,i,j⟩:=kl.some_of (v:=v) (o:=Xr vs k) (by rw[l];show c.val k);show wpAny_getItem_of (k9 m) dd.mapOf i (h d _ (I.tok _) j)
 .subst f;cases(show u=lg b from m);have⟨z,r,xs,c,dd⟩:=la I.JV e;have⟨d,i,j⟩:=kl.some_of (v:=v) (o:=(Z2 xs k).map (·.2)) (by rw[l];show c.val k);have⟨p,t,x⟩:=et.mp i;show wpAny_getItem_heap (Q0 n) (jw I.JV q) dd t ?_;rw[x];show h d _ (I.tok _) j
def Hk(j:A.units+1<Mg)(I:Inv X pins σ H s)(g:fj H a y o)(i:RelV y u)(h:∀s',Inv X pins σ H s'->Q (.bool o.isSome) s'):
  d3 (eH X.prog X.w) A (O0 .In u (.ref a)) Q E s:=by
 rcases g with⟨kvs,k,e,d,l⟩|⟨kvs,k,b,e,d,m,l⟩
 .subst d;have⟨z,f,vs,c,dd⟩:=k_ I.JV e;show wpAny_in_of (k9 i) f dd.mapOf ?_;rw[<-(c.val k).eS,<-l];show h _ (I.tok _)
 .subst d;cases(show u=lg b from i);have⟨z,f,xs,c,dd⟩:=la I.JV e;show wpAny_in_heap (Q0 j) (jw I.JV m) f dd ?_;have q:=(c.val k).eS;rw[V1]at q;rw[<-q,<-l];show h _ (I.tok _)
def uD(j:A.units+1<Mg)(I:Inv X pins σ H s)(g:fj H a y o)(i:RelV y u)(h:∀s',Inv X pins σ H s'->Q (.bool (!o.isSome)) s'):
  d3 (eH X.prog X.w) A (O0 .NotIn u (.ref a)) Q E s:=by
 rcases g with⟨kvs,k,e,d,l⟩|⟨kvs,k,b,e,d,m,l⟩
 .subst d;have⟨z,f,vs,c,dd⟩:=k_ I.JV e;show wpAny_notIn_of (k9 i) f dd.mapOf ?_;rw[<-(c.val k).eS,<-l];show h _ (I.tok _)
 .subst d;cases(show u=lg b from i);have⟨z,f,xs,c,dd⟩:=la I.JV e;show wpAny_notIn_heap (Q0 j) (jw I.JV m) f dd ?_;have q:=(c.val k).eS;rw[V1]at q;rw[<-q,<-l];show h _ (I.tok _)
def oZ(I:Inv X pins σ H s)(d:QE (H a))(hs:nc a s.heap h')(f:∃q,h'.get? a=a5 q)(new:bI X.prog X.w (upd H a c) h' a c):
  Inv X pins σ (upd H a c) {s with heap:=h',toks:=t' } :=
 I.write (x:=a) (e:=a) d (.inl rfl) (λb q g z=>(hs.2 b g).trans z) f new
def yb(z:kvs.length<=cL)(c:(a==Oq)=cc)(b:KV kvs vs)(dd:h'.DictOf (aS P w) a vs):
  bI P w H' h' a (.dK kvs):=⟨z,c,vs,b,dd⟩
def wy(x:A.units+1<Mg)(I:Inv X pins σ H s)(g:wt H a y v H')(o:RelV y u)(rv:RelV v r)(h:∀s',Inv X pins σ H' s'->Q () s'):
  d3 (eH X.prog X.w) A (U3 (.ref a) u r) Q E s:=by
 rcases g with⟨kvs,k,e,j,l,m⟩|⟨kvs,k,b,e,j,p,l,m⟩
 .subst j m;have⟨z,n,vs,d,dd⟩:=uC I.JV e;have hz:vs.length<=cL:=by rw[<-d.length];show z
  have hl:(putK kvs k v).length<=cL:=by have:=fO kvs k v;lia
  show wpAny_setItem_pairs (hsz:=hz) (k9 o) dd λh' f hs=>h _ ?_;have B:∃q,h'.get? a=a5 q:=let ⟨q,_,_,i,_⟩:=f;⟨q,i⟩;show oZ I (by rw[e];show T_) hs B (yb hl n (d.put k rv) f)
 .subst j m;cases(show u=lg b from o);have⟨z,n,xs,d,dd⟩:=Hj I.JV e;have hz:xs.length<=cL:=by rw[<-Paired.length d];show z
  have hl:(putK kvs k v).length<=cL:=by have:=fO kvs k v;lia
  show wpAny_setItem_heap (hsz:=hz) (Q0 x) (jw I.JV p) dd λh' f hs=>h _ ?_;obtain⟨q,es,ep,i,C,D,G,_,J⟩:=f;show oZ I (by rw[e];show T_) hs ⟨q,i⟩ ⟨hl,n,_,(d.put k p rv).keeps λc L t=>?_,q,es,ep,i,C,D,G,J⟩;rw[ak (GS t e (λz=>nomatch z))];show t
end
section
end
abbrev E1(i:kr):Prop:=∀a b,YH i cc a b=operate [a,b] (XB a b)
def BJ{T id:String}
  (hl:RY (.type T) "__getitem__"=pure (a5 (.builtin id))) (hs:E1 a)
  (h:d3 (eH prog w) A (ve b env) (λo f=>d3 (eH prog w) A (ve a env) (λi d=>d.TypeIs o T/\d3 (eH prog w) A (XB o i) Q E d) E f) E s) :
  d3 (eH prog w) A (ve (.Subscript b a pos) env) Q E s:=by
 show Ğ (mA h (λo f k=>mA k (λi d e=>?_) λ_ _ x=>x) λ_ _ x=>x);have⟨g,e⟩:=e;unfold WN;show b8 ?_;rw[getitemInPython_of_ne g.not_modules];show b8 (Vr g hl ?_);have c:d3 (eH prog w) A (YH a cc o i) (λr j=>d3 (eH prog w) A (letTemporaryGo b o r >>= λ_=>pure r) Q E j) E d:=by
  rw[hs o i];show wpAny_operating (mA e (λr j l=>b8 (wpAny_letTemporaryGo (df l))) λ_ _ x=>x)
 first
  |show df (b8 c)
  |show b8 (df (b8 c))
  |show b8 c
def qq(I:Inv X pins σ H s)(g:fj H a y o):s.TypeIs (.ref a) "dict":=by
 rcases g with⟨kvs,k,e,_,_⟩|⟨kvs,k,b,e,_,_,_⟩
 .obtain⟨_,_,vs,_,dd⟩:=k_ I.JV e;show dd.typeIs
 .obtain⟨_,_,xs,_,dd⟩:=la I.JV e;show dd.typeIs
abbrev Hl(c ty:TE):TE:=λσ H Q=>c σ H λx d=>ty σ d λy b=>∃a v,x=.ref a/\fj b a y (a5 v)/\Q v b
abbrev Jv(ty c:TE):TE:=λσ H Q=>ty σ H λy d=>c σ d λx b=>∃a o,x=.ref a/\fj b a y o/\Q (.bl o.isSome) b
abbrev BK(ty c:TE):TE:=λσ H Q=>ty σ H λy d=>c σ d λx b=>∃a o,x=.ref a/\fj b a y o/\Q (.bl (!o.isSome)) b
section
def BL(c:X.A.units+1<Mg)(ho:PE X o d)(e:PE X i ty)(hs:E1 i):PE X (.Subscript o i pos) (Hl d ty):=by
 intro pins s σ H Q I h;show BJ PySem.F.slot_dict_getitem.lookup hs (JZ (ho pins s σ H _ I h) λu s1 ⟨x,f,j,k,l⟩=>JZ (e pins s1 σ f _ j l) λw s2 m=>?_);have⟨y,n,b,p,a,v,ex,g,q⟩:=m;subst ex;obtain rfl:u=lg a:=k;show⟨qq b g,wu c b g p λz s3 r t=>⟨v,n,r,t,q⟩⟩
def E2(b:X.A.units+1<Mg)(c:PE X i ty)(ho:PE X o d):PC X .In i o (Jv ty d):=by
 intro pins s σ H Q I h;show JZ (c pins s σ H _ I h) λv s1 ⟨y,e,f,j,k⟩=>JZ (ho pins s1 σ e _ f k) λu s2 l=>?_;have⟨x,m,n,p,a,q,ex,g,r⟩:=l;subst ex;obtain rfl:u=lg a:=p;show Hk b n g j λs3 t=>⟨.bl q.isSome,m,t,rfl,r⟩
def wz(b:X.A.units+1<Mg)(c:PE X i ty)(ho:PE X o d):PC X .NotIn i o (BK ty d):=by
 intro pins s σ H Q I h;show JZ (c pins s σ H _ I h) λv s1 ⟨y,e,f,j,k⟩=>JZ (ho pins s1 σ e _ f k) λu s2 l=>?_;have⟨x,m,n,p,a,q,ex,g,r⟩:=l;subst ex;obtain rfl:u=lg a:=p;show uD b n g j λs3 t=>⟨.bl (!q.isSome),m,t,rfl,r⟩
end
def qr(h:KX)(a:Oq<h.objs.size):bI P w H (h.push {cls:=.type "dict",data:=.dict #[]}) h.objs.size (.dK []) :=
 ⟨ke _,ū.mpr (nC (hW a)),[],.nil,ŝ h⟩
abbrev E3:TE:=λ_ H Q=>∀p,H p=b6->Q (.ref p) (upd H p (.dK []))
section
def qt:PE X (.Dict [] [] pos) E3:=λpins s σ H Q I h =>
 wpAny_Dict_empty ⟨.ref s.heap.objs.size,_,I.laid (a:=s.heap.objs.size) (o:=.dK []) (t':=s.toks) (λ_ _ q=>c2 _ q) (hV _) (qr s.heap I.big),rfl,h _ (I.JV.fresh (hV _))⟩
end
def su:List (TE×TE)->St->Hp->(List (V×V)->Hp->Prop)->Prop
 |[],_,H,Q=>Q [] H
 |(a,b)::r,σ,H,Q=>a σ H λx c=>b σ c λy d=>su r σ d λps e=>Q ((x,y)::ps) e
@[reducible]def VV:List (V×V)->List (dV×dV)->Prop:=Paired λp q=>RelV p.1 q.1/\RelV p.2 q.2
abbrev Sj(X:Cx)(pos:Pos)(b:List (Option kr))(a:List kr)(c:List (TE×TE)):Prop :=
 ∀(pins:List (d8×Obj)) (s:d6) (σ:St) (H:Hp) (Q:List (V×V)->Hp->Prop),Inv X pins σ H s->su c σ H Q ->
  d3 (eH X.prog X.w) X.A (evalPairs (pairTrees b a X.env pos)) (λvs s'=>∃ps H',Inv X pins σ H' s'/\VV ps vs/\Q ps H') X.xe s
def BM:Sj X pos [] [] []:=λpins s σ H Q I h=>pairTrees_nil_walk ⟨[],H,I,.nil,h⟩
def yc(hk:PE X k b)(c:PE X v d)(e:Sj X pos ks vs f):
  Sj X pos (a5 k::ks) (v::vs) ((b,d)::f):=λpins s σ H Q I h =>
 pairTrees_cons_walk (JZ (hk pins s σ H _ I h) λu s1 ⟨x,g,i,j,l⟩=>JZ (c pins s1 σ g _ i l) λw s2 ⟨y,m,n,o,p⟩ =>
  JZ (e pins s2 σ m _ n p) λws s3 ⟨ps,q,r,a,t⟩=>⟨(x,y)::ps,q,r,.cons ⟨j,o⟩ a,t⟩)
abbrev lb(kvs more:List (Key×V)):List (Key×V):=more.foldl (λacc kv=>putK acc kv.1 kv.2) kvs
def KV.merge:∀{more:List (Key×V)}{rs:List (Key×dV)}{kvs:List (Key×V)}{vs:List (Key×dV)},KV more rs->KV kvs vs->KV (lb kvs more) (merged vs rs):=by
 intro more rs kvs vs r;unfold KV at r;induction r generalizing kvs vs with
 |nil=>intro q;show q
 |@cons p q ps c h t a =>
  intro b;have e:KV (putK kvs p.1 p.2) (stored vs q.1 q.2):=by
   have:=b.put p.1 h.2;rw[<-h.1];show this
  show a e
theorem gO:∀(more kvs:List (Key×V)),(lb kvs more).length<=kvs.length+more.length
 |[],kvs=>by change kvs.length<=kvs.length+0;lia
 |p::r,kvs=>by
  have a:=gO r (putK kvs p.1 p.2);have b:=fO kvs p.1 p.2;change(lb (putK kvs p.1 p.2) r).length<=_;rw[js];lia
theorem lh:∀{kvs:List (Key×V)}{ws:List (dV×dV)},VV (kvs.map λkv=>(kV kv.1,kv.2)) ws->∃rs,Carries (aS P w) ws rs/\KV kvs rs
 |[],_,r=>by rw[Kb]at r;cases r;show⟨[],T_,.nil⟩
 |p::kvs,_,r=>by
  rw[d4]at r;cases r with
  |@cons a b as bs h t =>
   have⟨rs,c,q⟩:=lh (P:=P) (w:=w) t;have⟨b1,d⟩:=b;show⟨(p.1,d)::rs,⟨k9 h.1,rfl,c⟩,.cons ⟨rfl,h.2⟩ q⟩
abbrev Hm(b:List (TE×TE)):TE:=λσ H Q=>∀p,H p=b6->su b σ (upd H p (.dK [])) λps a=>a p=a5 (.dK [])/\∃kvs:List (Key×V),ps=kvs.map (λkv=>(kV kv.1,kv.2))/\kvs.length<=15/\Q (.ref p) (upd a p (.dK (lb [] kvs)))
def BN(h:Sj X pos b d j)(k:b.all (·.isSome)=bD)(hl:b.length=d.length)(l:b≠[])
  (m:b.length<=15):PE X (.Dict b d pos) (Hm j):=by
 intro pins s σ H Q I q;have n:=I.JV.fresh (hV s.heap.objs.size);have p:=I.laid (a:=s.heap.objs.size) (o:=.dK []) (h':=s.heap.push {cls:=.type "dict",data:=.dict #[]}) (t':=s.toks) (λ_ _ q=>c2 _ q) (hV _) (qr s.heap I.big);show wpAny_Dict_walk (knd:=aS X.prog X.w) k hl l m (JZ (h pins _ σ _ _ p (q _ n)) λws s2 r=>?_);have⟨ps,B,g,f,e,kvs,ep,lk,t⟩:=r;subst ep;have⟨rs,c,rk⟩:=lh (P:=X.prog) (w:=X.w) f;have⟨z,u,C,v,dd⟩:=uC g.JV e;cases v;show⟨rs,c,dd,λh' i hs=>⟨.ref s.heap.objs.size,_,?_,rfl,t⟩⟩;have hz:(lb [] kvs).length<=cL:=by
  have x:=gO kvs [];rw[Uv]at x;rw[þ];lia
 have y:∃q,h'.get? s.heap.objs.size=a5 q:=let ⟨q,_,_,A,_⟩:=i;⟨q,A⟩;show oZ g (by rw[e];show T_) hs y (yb hz u (rk.merge .nil) i)
structure M2(X:Cx)(o:kr)(m:Str)(apos:Pos)(e f:kr)(G':Pos):Prop where
 base:Ur o m X.env (ve o X.env)=ve o X.env
 N6:((Kg G' (hZ [e,f] X.env)).all (λx=>!x.1)&&(Rw G' (MN [] X.env)).all (λx=>x.1.isSome)
  && cK (([e,f]:List kr).length+([]:List O6).length+(if ([]:List O6).isEmpty then 0 else 1)<30))=bD
 line:(apos.endLine==G'.line)=bD
 trees:Kg G' (hZ [e,f] X.env)=[(cc,ve e X.env),(cc,ve f X.env)]
abbrev Wc(H:Hp)(a:d8):Prop:=(∃kvs,Rd H a (.dK kvs))\/∃kvs,Rd H a (.dT kvs)
def E4(I:Inv X pins σ H s)(d:Wc H a):
  s.TypeIs (.ref a) "dict"/\(∀b,lg a=.ref b->∃c,s.heap.get? b=a5 c/\c.dict=b6)/\(a==Oq)=cc:=by
 rcases d with⟨kvs,e⟩|⟨kvs,e⟩
 .obtain⟨_,f,vs,_,dd⟩:=k_ I.JV e;show⟨dd.typeIs,λb q=>?_,f⟩;cases q;obtain⟨c,_,_,g,h,_⟩:=dd;show⟨c,g,h.2.1⟩
 .obtain⟨_,f,xs,_,dd⟩:=la I.JV e;show⟨dd.typeIs,λb q=>?_,f⟩;cases q;obtain⟨c,_,_,g,h,_⟩:=dd;show⟨c,g,h.2.1⟩
section
def E5(p:A.units+1<Mg)(I:Inv X pins σ H s)(g:fj H a y o)(j:RelV y u)(m:RelV d r)(h:∀n s',Inv X pins σ H s'->RelV (o.getD d) n->Q n s'):
  d3 (eH X.prog X.w) A (OS (.builtin "dict.get") [.ref a,u,r]) Q E s:=by
 rcases g with⟨kvs,k,e,f,l⟩|⟨kvs,k,b,e,f,q,l⟩
 .subst f;have⟨z,i,vs,c,dd⟩:=k_ I.JV e;show XG PySem.F.slot_dict_get dd.typeIs PySem.F.entry_dict_get (PySem.F.args_dict_get_3 _ _ _) (meets_dict_get_default (aS X.prog X.w) a (k9 j) i r) ⟨_,dd.mapOf,h _ _ (I.tok _) ?_⟩;rw[l];show(c.val k).getD m
 .subst f;cases(show u=lg b from j);have⟨z,i,xs,c,dd⟩:=la I.JV e;show XG PySem.F.slot_dict_get dd.typeIs PySem.F.entry_dict_get (PySem.F.args_dict_get_3 _ _ _) (meetsH_dict_get_default (Wr (aS X.prog X.w)) a b i r) ⟨Q0 p,k,xs,jw I.JV q,dd,h _ _ (I.tok _) ?_⟩;rw[l];show(c.val k).getD m
end
abbrev E6(d ty e:TE):TE:=λσ H Q=>d σ H λx b=>∃a,x=.ref a/\Wc b a/\ty σ b λy f=>e σ f λz c=>∃o,fj c a y o/\Q (o.getD z) c
section
def yd(i:X.A.units+1<Mg)(ho:PE X o j)(k:PE X e ty)(l:PE X f n)(m:M2 X o "get" b e f p):PE X (.Call (.Attribute o "get" b) [e,f] [] p) (E6 j ty n):=by
 intro pins s σ H Q I h;show wpAny_Call_method m.base m.N6 m.line PySem.F.plainAttrs_dict PySem.F.slot_dict_get PySem.F.type_dict_get (JZ (ho pins s σ H _ I h) λu s1 q=>?_);have⟨x,r,c,t,a,ex,d,v⟩:=q;subst ex;obtain rfl:u=lg a:=t;obtain⟨w,B,_⟩:=E4 c d;show⟨w,B,?_⟩;rw[m.trees];show H8 rfl (Mq (Nh (JZ (k pins s1 σ r _ c v) λiv s2 ⟨y,C,D,G,J⟩ =>
  Nh (JZ (l pins s2 σ C _ D J) λfv s3 ⟨z,L,N,O,ov,g,T⟩=>QJ ?_))))
 show E5 i N g G O λw' s4 Y Mo=>⟨_,L,Y,Mo,T⟩
end
section
end
section
end
end L2
namespace Kj
open PySem PySem.Builtin.Str PySem.StrLaws
abbrev ye(i:Int):Str:=Su (Si i)
def app_list(x y:Str):(x++y).cps.toList=x.cps.toList++y.cps.toList:=by
 change(x.cps++y.cps).toList=_;simp
end Kj
namespace L2
open PySem PySem.Spec PyProof.Rows
abbrev bJ(env:Env):List (Str×PX)->List (Str×d8)->List (Str×d8)
 |[],b=>b
 |(n,k)::r,b=>bJ env r (if k==.free then(match env.cells.lookup n with|some a=>(n,a)::b|none=>b) else b)
def eT(h:∀y∈scope.names,y.2=.free->∃a,env.cells.lookup y.1=a5 a):closureFor scope env=pure (bJ env scope.names []):=by
 unfold closureFor;generalize scope.names=names at h
 suffices H:∀b,(ķ names b (λ(x:Str×PX) (r:List (Str×d8))=>if (x.2==Nc)=bD then do let a <-cellOf env x.1;pure (Pe ((x.1,a)::r)) else pure (Pe r)):Sem (List (Str×d8)))=pure (bJ env names b) by
  have:=H [];show Ū (λ(m:Sem (List (Str×d8)))=>m >>= pure) this
 induction names with
 |nil=>intro b;rfl
 |cons y r d =>
  intro b;have⟨n,k⟩:=y;rw[WX];have c:=d λy e=>h y (ko _ e);by_cases hk:(k==Nc)=bD
  .have⟨a,f⟩:=h (n,k) mf (by simpa using hk);have g:env.cells.lookup n=a5 a:=f;simp only[hk,if_true,cellOf,g,bJ];show c _
  .simp only[hk,if_false,bJ];show c _
theorem fk:∀(names:List (Str×PX)) (b:List (Str×d8)),(∀n c,b.lookup n=a5 c->env.cells.lookup n=a5 c)->∀n c,(bJ env names b).lookup n=a5 c->env.cells.lookup n=a5 c
 |[],_,h=>h
 |(m,k)::r,b,h=>by
  unfold bJ;show fk r _ λn c e=>?_;by_cases hk:(k==Nc)=bD
  .rw[ť hk]at e;cases q:env.cells.lookup m with
   |none=>rw[q]at e;show h n c e
   |some a =>
    rw[q]at e;simp only[tA]at e;cases d:n==m with
    |true =>
     rw[d]at e;have f:n=m:=by simpa using d
     subst f;simp only at e;rw[q];show e
    |false=>rw[d]at e;show h n c e
  .rw[Ŧ hk]at e;show h n c e
theorem jX(d:env.cells.lookup n=a5 a):∀(names:List (Str×PX)) (c:List (Str×d8)),c.lookup n=a5 a->(bJ env names c).lookup n=a5 a
 |[],_,h=>h
 |(m,k)::r,c,h=>by
  unfold bJ;show jX d r _ ?_;by_cases hk:(k==Nc)=bD
  .rw[ť hk];cases q:env.cells.lookup m with
   |none=>show h
   |some b =>
    simp only[tA];cases e:n==m with
    |true =>
     have f:n=m:=by simpa using e
     subst f;rw[d]at q;cases q;rfl
    |false=>show h
  .rw[Ŧ hk];show h
theorem h_(b:env.cells.lookup n=a5 a):∀(names:List (Str×PX)) (c:List (Str×d8)),(n,Nc)∈names->(bJ env names c).lookup n=a5 a
 |[],_,h=>by cases h
 |(m,k)::r,c,h=>by
  unfold bJ;rcases d7.mp h with e|e
  .cases e;show jX b r _ ?_;rw[ť (by decide),b];simp[tA]
  .show h_ b r _ e
theorem bZ{env:Env}:∀{names:List (Str×PX)}{x:Str}{k:PX},
  (names.map λ(n,k)=>if (k==Nc&&env.scope.kind==.function&&env.kindOf n==a5 .cell) then(n,NameKind.cell) else(n,k)).lookup x=a5 k ->
  names.lookup x=a5 k\/(k=.cell/\names.lookup x=a5 .free)
 |[],_,_,h=>by simp at h
 |(n,k0)::r,x,k,h=>by
  have e:=@bZ env r x k;rw[d4]at h;by_cases b:(k0==Nc&&env.scope.kind==.function&&env.kindOf n==a5 .cell)=bD
  .simp only[ť b,tA]at h;cases a:x==n with
   |true =>
    rw[a]at h;have f:k0=.free:=by
     have:=(D7.mp (D7.mp b).1).1;simpa using this
    show .inr ⟨by simpa using h.symm,by simp[tA,a,f]⟩
   |false =>
    rw[a]at h;rcases e h with z|⟨c,d⟩
    .show .inl (by simp[tA,a,z])
    .show .inr ⟨c,by simp[tA,a,d]⟩
  .simp only[Ŧ b,tA]at h;cases a:x==n with
   |true=>rw[a]at h;show .inl (by simpa[tA,a] using h)
   |false =>
    rw[a]at h;rcases e h with z|⟨c,d⟩
    .show .inl (by simp[tA,a,z])
    .show .inr ⟨c,by simp[tA,a,d]⟩
abbrev K4(X:Cx)(N:List Str)(scope:MH)(C:d8)(s:d6)(H:Hp)(ex:List d8):Cx where
 prog:=X.prog
 w:=X.w
 K:=X.K
 mg:=X.mg
 base:=X.base
 A:=X.A
 N:=N
 s₀:=s
 H₀:=H
 env:=XE scope (bJ X.env scope.names []) C X.env
 outer:=X.stack
 stack:=X.stack
 ex:=ex
 fn:=λ_=>cc
 calm:=X.calm
 pn:=[]
 xe:=λ_ _=>False
abbrev eM(D N:List Str):Prop:=D.length=N.length/\∀(i:Nat) (y:Str),D[i]?=a5 y->N[i]?=a5 y\/y="."\/y=".."
def eM.refl(N:List Str):eM N N:=⟨rfl,λ_ _ h=>.inl h⟩
def eM.set{D N:List Str}(h:eM D N)(j:Nat){m:Str}(b:m="."\/m=".."):eM (D.set j m) N:=by
 show⟨by rw[ċ];show h.1,λi y e=>?_⟩;by_cases a:j=i
 .subst a;rw[List.getElem?_set,ť rfl]at e;split at e
  .cases e;show .inr b
  .cases e
 .rw[hH a]at e;show h.2 i y e
structure dQ(X:Cx)(N own:List Str)(scope:MH):Prop where
 kind:scope.kind=.function
 Mp:∀y∈scope.names,y.2≠.cell
 names:∀y∈scope.names,y.2=.local->scope.names.lookup y.1=a5 .local
 nd:N.Nodup
 pre:N.take own.length=own
 loc:∀y∈scope.names,y.2=.local->y.1∈own\/y.1=".0"
 X1:(".0":Str)∉N
 tail:eM (N.drop own.length) X.N
 free:∀y∈scope.names,y.2=.free->X.env.scope.names.lookup y.1=a5 .cell\/X.env.scope.names.lookup y.1=a5 .free
 dot:∀y∈scope.names,y.1≠"."/\y.1≠".."
def mem_lookup{names:List (Str×PX)}(h:names.lookup x=a5 k):(x,k)∈names:=PySem.mem_of_lookup h
def dQ.cells(S:dQ X N c scope)(b:X.Ok):∀y∈scope.names,y.2=.free->∃a,X.env.cells.lookup y.1=a5 a:=λy d e=>by
 rcases S.free y d e with z|z
 .show b.has y.1 (.inl z)
 .show b.has y.1 (.inr z)
def yf(S:dQ X N d scope)(I:Inv X pins σ H s)
  (D:s.heap.objs.size<=C) (Ud:s4.os=s.os) (hg:s4.gens=s.gens) (keep:∀b o,s.heap.get? b=a5 o->s4.heap.get? b=a5 o) (ns:∃m,s4.heap.Ns C m)
  (f:∀b∈ex,iB X pins H b/\b<s.heap.objs.size):Inv (K4 X N scope C s H ex) [] (i1 d.length b6++σ) H s4:=by
 have⟨m0,Sk⟩:=ns;have sub:=fk (env:=X.env) scope.names [] (λn c e=>by simp at e);have Ue:∀b∈ex,b<C:=λb g=>i5 (f b g).2 D;have tl:d.length<=N.length:=by have:=Ū C0 S.pre;rw[zy]at this;lia
 show⟨⟨I.ok.mod,?_,I.ok.glob,I.ok.blt,D,λx y c A w=>I.ok.inj x y c (sub x c A) (sub y c w),λx hx=>?_,λx c h _=>absurd (show cc=bD from h) (by decide),I.ok.hd,I.ok.frames,.inl rfl,λb g=>⟨hW (Ue b g),λx c e=>?_⟩,λb o e=>I.bs b o e,?_,λb o e g=>?_,λb g=>?_,I.stack,I.kJ⟩,
  Ud,(by rw[hg];show I.bare),Un.kept keep,⟨m0,Sk,λi y v A w h3=>?_⟩,λx c e=>?_,I.JV.fresh D,λx c e=>I.Ki x c (sub x c e),λp hp=>absurd (show p∈([]:List (d8×Obj)) from hp) (by simp),I.JV.kept keep,?_⟩
 .change(U9 scope X.env).kind=.function;show S.kind
 .
  have QT:(U9 scope X.env).names.lookup x=a5 .cell\/(U9 scope X.env).names.lookup x=a5 .free:=hx;have t:scope.names.lookup x=a5 .free:=by
   rcases QT with z|z
   .rcases bZ z with q|⟨_,q⟩
    .show absurd rfl (S.Mp _ (mem_lookup q))
    .show q
   .rcases bZ z with q|⟨q,_⟩
    .show q
    .cases q
  have⟨a,ha⟩:=S.cells I.ok (x,.free) (mem_lookup t) rfl;show⟨a,h_ ha scope.names [] (mem_lookup t)⟩
 .show(f b g).1.2.2.2.2.1 x c (sub x c e)
 .show vr I.ok.N1 I.sz
 .have⟨f0,L,O,Q,f4,f5⟩:=(f b g).1;rcases Q with z|z
  .show I.ok.MQ b o e z
  .show absurd (i5 (ez e) (vr I.ok.N1 z)) (uv _)
 .intro KI;have⟨f0,L,O,Q,f4,f5⟩:=(f b g).1;rcases d7.mp (I.kU b KI) with z|z
  .show L z
  .show O z
 .
  have G:d.length<=i:=by
   by_cases G:i<d.length
   .rw[u3 (by simpa using G),Lk]at w;split at w<;>cases w
   .lia
  rw[qs (by simpa using G),Rm]at w;have X2:(N.drop d.length)[i - d.length]?=a5 y:=by
   rw[LU];have e:d.length+(i - d.length)=i:=by lia
   rw[e];show A
  have T:(U9 scope X.env).names.lookup y=a5 .local\/(U9 scope X.env).names.lookup y=a5 .cell\/(U9 scope X.env).names.lookup y=a5 .free:=h3;have t:scope.names.lookup y=a5 .free:=by
   rcases T with z|z|z
   .rcases bZ z with q|⟨q,_⟩
    .exfalso
     have Lw:y∈d:=by
      rcases S.loc (y,.local) (mem_lookup q) rfl with z|z
      .show z
      .have z':y=".0":=z;show absurd (l' A) (by rw[z'];show S.X1)
     have⟨j,Y,ej⟩:=R0 Lw;have MI:N[j]?=a5 y:=by
      have e1:(N.take d.length)[j]?=a5 y:=by rw[S.pre,kj Y,ej]
      rw[YO Y]at e1;show e1
     have:=iz S.nd MI A;lia
    .cases q
   .rcases bZ z with q|⟨_,q⟩
    .show absurd rfl (S.Mp _ (mem_lookup q))
    .show q
   .rcases bZ z with q|⟨q,_⟩
    .show q
    .cases q
  have hX:X.N[i - d.length]?=a5 y:=by
   rcases S.tail.2 _ _ X2 with e|e|e
   .show e
   .show absurd e (S.dot _ (mem_lookup t)).1
   .show absurd e (S.dot _ (mem_lookup t)).2
  have⟨m,hn,hl⟩:=I.loc;have hv:X.env.scope.names.lookup y=a5 .cell\/X.env.scope.names.lookup y=a5 .free:=S.free (y,.free) (mem_lookup t) rfl;have⟨u,r,l⟩:=hl _ y v hX w (.inr hv);show⟨u,r,?_⟩;rcases l with⟨k,_⟩|⟨k,c,e,z⟩
  .have k':X.env.scope.names.lookup y=a5 .local:=k;rcases hv with q|q<;>(rw[k']at q;cases q)
  .have hk:(U9 scope X.env).names.lookup y=a5 .cell\/(U9 scope X.env).names.lookup y=a5 .free:=by
    rcases T with q|q|q
    .rcases bZ q with B|⟨B,_⟩
     .rw[t]at B;cases B
     .cases B
    .show .inl q
    .show .inr q
   have⟨o,ho,J⟩:=z;show .inr ⟨hk,c,h_ e scope.names [] (mem_lookup t),o,keep c o ho,J⟩
 .have⟨v,o,ho,J⟩:=I.cell x c (sub x c e);show⟨v,o,keep c o ho,J⟩
 .rw[gc,Rm,I.len];have e:N.length=d.length+(N.drop d.length).length:=by rw[ø];lia
  change _=N.length;rw[e,S.tail.1]
def qu(I:Inv X pins σ H s)
  (d:Inv (K4 X N scope C s H ex) Q T j s4) (t:s.heap.objs.size<=D) (w:s.heap.objs.size<=C) (x:D≠C) (g:j D=b6) (rv:Vals l m) (y:s4.heap.PlainList D m.toArray) (hl:l.length<=cL)
  (h:nc C s4.heap h') (k:∀b∈ex,iB X pins H b):Inv X pins σ (upd j D (.lst l)) {s4 with heap:=h' }:=by
 have p:j C=b6:=d.free;have lt:∀{b:d8} {o:Obj},s.heap.get? b=a5 o->b≠C/\b≠D:=λe=>⟨hW (i5 (ez e) w),hW (i5 (ez e) t)⟩
 show I.DM (s':={s4 with heap:=h' }) (ch:=ex) d.os ⟨λb o e n i f=>?_,λb o e n i f=>?_,λb o e n f=>?_,λb o e f=>?_,λb xs e=>?_,λb o u e=>?_,λb ps e=>?_⟩ (λa o e=>?_) d.bare λb i=>?_
 .show(h.2 b (lt e).1).trans (d.base.keep b o e n i f)
 .have⟨A,q⟩:=d.base.slot b o e n i f;show⟨A,(h.2 b (lt e).1).trans q⟩
 .rw[ak (lt e).2];show d.base.free b o e n f
 .have⟨o',q⟩:=d.base.there b o e f;show⟨o',(h.2 b (lt e).1).trans q⟩
 .have q:=d.base.fT b xs e;rw[ak (bu q g)];show q
 .have q:=d.base.KZ b o u e;rw[ak (bu q g)];show q
 .have⟨more,q⟩:=d.base.K9 b ps e;show⟨more,by rw[ak (bu q g)];show q⟩
 .by_cases r:a=D
  .subst r;rw[ax]at e;cases e;have⟨n,q⟩:=y;show⟨hl,m,n,rv,(h.2 _ x).trans q⟩
  .rw[ak r]at e;show(d.JV a o e).fI (λc v B q=>(h.2 c ?_).trans q) (λc q=>?_) λc xs q=>?_
   .rintro rfl;rcases B with z|z
    .rw[<-z,p]at e;cases e
    .rw[p]at z;cases z
   .rw[ak (bu q g)];show q
   .rw[ak (bu q g)];show q
 .have⟨Y,G,f2,J,L,O⟩:=k b i;show⟨J,G,L,O⟩
section
def o_(I:Nat->d6->Prop)
  (b:∀n s,I n s->d3 (eH prog w) A (U_ it) (λr d=>match r with
   |none=>R (.ok .next) d
   |some v=>d3 (eH prog w) A (VE a it v) (λ_ d=>d3 (eH prog w) A (Tx a env v) (λ_ j =>
     d3 (eH prog w) A (ķ f bD λc r=>if r=bD then do let ok <-isTrue c env (ve c env);pure (Pe ok) else pure (Pe r)) (λok i =>
      if ok=bD then d3 (eH prog w) A (ve elt env) (λx k =>
       d3 (eH prog w) A (OS (.builtin "list.append") [acc,x]) (λ_ l=>∃m,m<n/\I m l) (Vb (eH prog w) A env λe s'=>R (.error e) s') k) (Vb (eH prog w) A env λe s'=>R (.error e) s') i
      else ∃m,m<n/\I m i) (Vb (eH prog w) A env λe s'=>R (.error e) s') j) (Vb (eH prog w) A env λe s'=>R (.error e) s') d) (Vb (eH prog w) A env λe s'=>R (.error e) s') d) (Vb (eH prog w) A env λe s'=>R (.error e) s') s)
  (n:Nat) (h:I n s) :
  Rq (eH prog w) A (.compLoop (.ListComp elt [⟨a,g,f,0⟩] scope pos) 0 it acc env) R s:=by
 show codeAny_loop rfl I (λn s q=>?_) n h;change d3 _ A ((compTurn (.ListComp elt [⟨a,g,f,0⟩] scope pos) 0 it acc env).onRaise (λx=>do noteFrame x env;theTreesLotGoes x)) _ _ s;show wpAny_noted ?_;rw[compTurn_list];show b8 (Ë (b8 (mA (b n s q) (λr d o=>?_) λ_ _ h'=>h')));cases r with
 |none=>show df o
 |some v =>
  show b8 (mA o (λ_ t u=>?_) λ_ _ h'=>h');show b8 (mA u (λ_ j y=>b8 (mA y (λok i p=>?_) λ_ _ h'=>h')) λ_ _ h'=>h');cases ok with
  |false=>show df ⟨rfl,p⟩
  |true =>
   show b8 (b8 (mA p (λx k z=>b8 (mA z (λ_ l B=>df (df ⟨rfl,B⟩)) λ_ _ h'=>h')) λ_ _ h'=>h'))
end
abbrev NR(X:Cx)(a:List kr)(t:TT):Prop :=
 ∀(pins:List (d8×Obj)) (s:d6) (σ:St) (H:Hp) (Q:Bool->Hp->Prop),Inv X pins σ H s->t σ H Q ->
  d3 (eH X.prog X.w) X.A (ķ a bD λc r=>if r=bD then do let b <-isTrue c X.env (ve c X.env);pure (Pe b) else pure (Pe r)) (TP X pins σ Q) X.xe s
abbrev Jw:TT:=λ_ H Q=>Q bD H
def pb:NR X [] Jw:=λ_ _ _ H _ I h=>wpAny_tests_nil ⟨H,I,h⟩
def uE(h:PT X c t):NR X [c] t:=λpins s σ H Q I q=>wpAny_tests_one (h pins s σ H Q I q)
abbrev uF(k:Nat)(J:It)(g:TG)(l:TT)(n:TE)(Q:VK)(σ:St)(o:Hp):Prop :=
  ∃W:Nat->Nat->List V->Hp->Prop,(∃m,W 0 m [] o)/\∀i m a H,W i m a H->a.length<=cL /\
    ((J.stop i H/\∀p,H p=b6->Q (.ref p) (upd H p (.lst a))) \/
     (J.go i H/\∃d:List V->Hp->Prop,(∀f H',d f H'->∃h,h<m/\W (i+1) h f H')/\∀x H',J.Sd i H x H'->g x (i1 k b6++σ) H' λe q=>∃c:St,c.length=k/\e=c++σ /\
        l e q λb j=>if b=bD then n e j λy r=>d (a++[y]) r else d a j))
abbrev yg(k:Nat)(a:TI)(g:TG)(b:TT)(c:TE):TE:=λσ H Q=>a σ H λJ d=>uF k J g b c Q σ d
section
def yh
  (S:dQ X N B scope) (hc:X.calm=bD) (hg:∀C s H ex,PG (K4 X N scope C s H ex) tg g) (hf:∀C s H ex,NR (K4 X N scope C s H ex) al tt) (he:∀C s H ex,PE (K4 X N scope C s H ex) elt te)
  (I:Inv X pins σ H s) (T:Turn X.prog X.w X.K tg J G it tn) (st:tn 0 s.heap) (f2:∀b∈G,iB X pins H b) (W:uF B.length J g tt te Q σ H)
  (hD:@Eq Nat D s.heap.objs.size) (hC:@Eq Nat C (s.heap.objs.size+1)) (Ud:s4.os=s.os) (X4:s4.gens=s.gens) (keep:∀b o,s.heap.get? b=a5 o->s4.heap.get? b=a5 o) (ns:∃m,s4.heap.Ns C m) (pl:s4.heap.PlainList D #[])
  (am:∀s5 Y O k,Inv (K4 X N scope C s H G) [] (i1 B.length b6++σ) Y s5->Y D=b6->Vals O k->s5.heap.PlainList D k.toArray->O.length<=cL->(∀p,Y p=b6->Q (.ref p) (upd Y p (.lst O)))->R (.ok .next) s5) :
  Rq (eH X.prog X.w) X.A (.compStart (.ListComp elt [⟨tg,an,al,0⟩] scope pos) 0 (.ref it) (.ref D) (XE scope (bJ X.env scope.names []) C X.env)) R s4:=by
 have N7:∀b∈G,@RA Nat _ b s.heap.objs.size:=λb h=>by
  obtain⟨o,e,_⟩:=T.obj 0 s.heap st b h;show ez e
 have I4:Inv (K4 X N scope C s H G) [] (i1 B.length b6++σ) H s4:=yf S I ⋯ Ud X4 keep ns λb h=>⟨f2 b h,N7 b h⟩
 have Qe:tn 0 s4.heap:=T.keep 0 s.heap s4.heap st λb _ o e=>keep b o e;have nD:H D=b6:=I.JV.fresh ⋯;obtain⟨W,⟨m0,w0⟩,ý⟩:=W;generalize l:K4 X N scope C s H G=f at I4 am;have eP:f.prog=X.prog:=by rw[<-l];rfl
 have ew:f.w=X.w:=by rw[<-l];rfl
 have eK:f.K=X.K:=by rw[<-l];rfl
 have ec:f.calm=bD:=by rw[<-l];show hc
 have eA:f.A=X.A:=by rw[<-l];rfl
 have ee:f.env=XE scope (bJ X.env scope.names []) C X.env:=by rw[<-l];rfl
 have Uh:f.xe=λ_ _=>False:=by rw[<-l];rfl
 have el:f.env.locals=C:=by rw[ee];rfl
 have Ui:PG f tg g:=by rw[<-l];show hg _ _ _ _
 have Uj:NR f al tt:=by rw[<-l];show hf _ _ _ _
 have Uk:PE f elt te:=by rw[<-l];show he _ _ _ _
 have s0:f.s₀=s:=by rw[<-l];rfl
 have QU:f.pn=[]:=by rw[<-l];rfl
 have Ul:∀{H':Hp} {o:Obj},(∀b∈G,H' b=b6)->∀b∈G,iB f [(D,o)] H' b:=λ{H' o} hn b h=>by
  have ex:f.ex=G:=by rw[<-l];rfl
  show⟨hn b h,?_,?_,.inl (by rw[ex];show h),λx c e=>?_,λp L=>?_⟩
  .rw[el];have:=N7 b h;show hW (by change @RA Nat _ b C;lia)
  .have e1:f.fs=Kx X.stack:=by rw[<-l];rfl
   rw[e1];intro z;have⟨f0,f1,X5,f3,f4,f5⟩:=f2 b h;rcases d7.mp (I.kU b z) with q|q
   .show f1 q
   .show X5 q
  .have e1:f.env.cells=bJ X.env scope.names []:=by rw[ee];rfl
   rw[e1]at e;show(f2 b h).2.2.2.2.1 x c (fk scope.names [] (λn c e=>by simp at e) x c e)
  .rw[QU,i0]at L;have:p=(D,o):=by simpa using L
   subst this;have:=N7 b h;show K2 (by change @RA Nat _ b D;lia)
 have Um:∀{σ':St} {H':Hp} {s':d6} {o:Obj},Inv f [] σ' H' s'->H' D=b6->s'.heap.get? D=a5 o->(∀v,o.data≠.cell v)->Inv f [(D,o)] σ' H' s':=λ{σ' H' s' o} I' n e d =>
  I'.eF λp L=>by
   have:p=(D,o):=by simpa using L
   subst this;show⟨e,n,?_,?_,d⟩
   .rw[el];show hW (by change @RA Nat _ D C;lia)
   .have e1:f.fs=Kx X.stack:=by rw[<-l];rfl
    rw[e1];intro z;have zz:(D:d8)∈Kx X.stack:=z;rcases d7.mp (I.kU D zz) with q|q
    .have:=I.lt;rw[<-q]at this;show absurd this (by change ¬@RA Nat _ D s.heap.objs.size;lia)
    .show I.Eu (a:=D) ⋯ q
 have start:∀s':d6,s'=s4->Rq (eH X.prog X.w) X.A (.compLoop (.ListComp elt [⟨tg,an,al,0⟩] scope pos) 0 (.ref it) (.ref D) (XE scope (bJ X.env scope.names []) C X.env)) R s':=by
  rintro s' rfl;show o_ (λn s'=>∃i O k H',Inv f [] (i1 B.length b6++σ) H' s'/\tn i s'.heap/\(∀b∈G,H' b=b6)/\H' D=b6/\Vals O k/\s'.heap.PlainList D k.toArray/\W i n O H') ?_ m0
   ⟨0,[],[],H,I4,Qe,λb h=>(f2 b h).1,nD,.nil,pl,w0⟩
  rintro n s3 ⟨i,O,k,H3,I3,Kr,QL,We,Sl,⟨nn,X6⟩,w3⟩;have⟨ab,MJ⟩:=ý i n O H3 w3;have IP:=Um I3 We X6 (λv z=>by have z':Data.seq _ _=Y2 v:=z;cases z');rcases MJ with⟨ap,qn⟩|⟨go,NN,Wf,ar⟩
  .have d:=T.done f eP ew eK ec i _ s3 _ H3 (Vb (eH X.prog X.w) X.A (XE scope (bJ X.env scope.names []) C X.env) λe s'=>R (.error e) s') IP (Ul QL) Kr ap;rw[eA]at d;show JZ d λr s4 Uo=>?_;have⟨hr,I5⟩:=Uo;subst hr;have e5:=(I5.pin (D,({cls:=.type "list",data:=.seq k.toArray nn}:Obj)) (by rw[QU];simp)).1;show am s4 H3 O k (I5.eF λp L=>by cases L) We Sl ⟨nn,e5⟩ ab qn
  .have d:=T.item f eP ew eK ec i _ s3 _ H3 (Vb (eH X.prog X.w) X.A (XE scope (bJ X.env scope.names []) C X.env) λe s'=>R (.error e) s') IP (Ul QL) Kr go;rw[eA]at d;show JZ d λr s4 Up=>?_;have⟨u,hr,h4⟩:=Up;subst hr;show JZ h4 λ_ s5 Uq=>?_;have⟨x,Y,I5,r5,y5,M8,TF⟩:=Uq;have a0:Y D=b6:=(I5.pin (D,({cls:=.type "list",data:=.seq k.toArray nn}:Obj)) (by rw[QU];simp)).2.1;have TH:=I5.pinned (Ul TF) (T.obj _ _ M8);have a6:=Ui _ s5 _ Y x u _ TH r5 (ar x Y y5);rw[eP,ew,eA,ee,Uh]at a6;show mA a6 (λ_ s6 ⟨σ6,H6,I6,q6⟩=>?_) λ_ _ z=>Ni z;have⟨ow,as,rfl,q6⟩:=q6;have a7:=Uj _ s6 _ H6 _ I6 q6;rw[eP,ew,eA,ee,Uh]at a7;show mA a7 (λb s7 ⟨H7,I7,q7⟩=>?_) λ_ _ z=>Ni z;have ac:∀{s8:d6} {t:Hp} {LZ:List V} {its':List dV} {nn':Nat},Inv f [] (ow++σ) t s8->tn (i+1) s8.heap->(∀b∈G,t b=b6)->t D=b6->Vals LZ its'->s8.heap.PlainList D its'.toArray->(∃m',m'<n/\W (i+1) m' LZ t) ->
     ∃m,m<n/\∃i O k H',Inv f [] (i1 B.length b6++σ) H' s8/\tn i s8.heap/\(∀b∈G,H' b=b6)/\H' D=b6/\Vals O k/\s8.heap.PlainList D k.toArray/\W i m O H':=λ{s8 t LZ its' nn'} I8 X7 X8 n8 X9 X_ w8=>by
    have⟨m',hm,w8⟩:=w8;show⟨m',hm,i+1,LZ,its',t,I8.weak (by simp[as]) (λj v e=>?_),X7,X8,n8,X9,X_,w8⟩;by_cases hj:j<B.length
    .rw[u3 (by simpa using hj),Lk]at e;split at e<;>cases e
    .rw[qs (by simpa using(Nat.not_lt.mp hj)),Rm]at e;rw[qs ⋯,as];show e
   have ag:∀{σ':St} {t:Hp} {s8:d6},Inv f ([(D,({cls:=.type "list",data:=.seq k.toArray nn}:Obj))]++kX G s5.heap) σ' t s8->s8.heap.get? D=a5 {cls:=.type "list",data:=.seq k.toArray nn}/\t D=b6/\tn (i+1) s8.heap/\∀b∈G,t b=b6:=λ{σ' t s8} I8=>by
    have p1:=I8.pin (D,({cls:=.type "list",data:=.seq k.toArray nn}:Obj)) (by rw[QU];simp);show⟨p1.1,p1.2.1,T.keep _ _ _ M8 λb h o e=>(I8.pin (b,o) (mx _ (mx _ (fh h e)))).1,λb h=>?_⟩;have⟨o,e,d⟩:=T.obj _ _ M8 b h;show(I8.pin (b,o) (mx _ (mx _ (fh h e)))).2.1
   cases b with
   |false =>
    rw[Ŧ i7]at q7 ⊢;have⟨p1,p2,p3,p4⟩:=ag I7;show ac (nn':=0) (I7.eF λp L=>by cases L) p3 p4 p2 Sl ⟨nn,p1⟩ (Wf _ _ q7)
   |true =>
    rw[ť rfl]at q7 ⊢;have a8:=Uk _ s7 _ H7 _ I7 q7;rw[eP,ew,eA,ee,Uh]at a8;show mA a8 (λy s8 ⟨yv,t,I8,r8,q8⟩=>?_) λ_ _ z=>Ni z;have⟨p1,p2,p3,p4⟩:=ag I8;have hsz:k.toArray.size<=cL:=by rw[gj,<-Sl.length];show ab
    show wpAny_list_append_plain (hsz:=hsz) ⟨nn,p1⟩ λh9 Ya Wg=>?_;have Yb:Inv f [] (ow++σ) t s8:=I8.eF λp L=>by cases L
    have Sm:∀x c,f.env.cells.lookup x=a5 c->c≠D:=λx c e=>by
     have e1:f.env.cells=bJ X.env scope.names []:=by rw[ee];rfl
     rw[e1]at e;have q:=fk scope.names [] (λn c e=>by simp at e) x c e;have⟨v,z⟩:=I.cell x c q;have:@RA Nat _ c s.heap.objs.size:=z.lt;show hW (by change @RA Nat _ c D;lia)
    have I9:Inv f [] (ow++σ) t {s8 with heap:=h9,toks:=s8.toks}:=Yb.turned (it:=D) (λb o h e=>(Wg.2 b h).trans e) p2 (by rw[el];show hW (by change @RA Nat _ D C;lia)) (.inr (by rw[s0];change @Ķ Nat _ s.heap.objs.size D;lia)) Sm (λp L=>by rw[QU]at L;cases L);have Yc:(k++[y]).toArray=k.toArray.push y:=by simp
    show ac (nn':=0) (s8:={s8 with heap:=h9,toks:=s8.toks}) I9 (T.keep _ _ _ p3 λb h o e=>(Wg.2 b ?_).trans e) p4 p2 (Sl.append (.cons r8 .nil)) (by rw[Yc];show Ya) (Wf _ _ q8);have:=N7 b h;show hW (by change @RA Nat _ b D;lia)
 show codeAny_compStart_list (start _ rfl) (T.self _ _ _ _ _ Qe (start _ rfl))
def lj{RR:dV->d8->Result->d6->Prop}
    (S:dQ X N d scope) (G:X.calm=bD) (L:∀C s H ex,PG (K4 X N scope C s H ex) v g) (O:∀C s H ex,NR (K4 X N scope C s H ex) l Y) (he:∀C s H ex,PE (K4 X N scope C s H ex) elt te)
 (I:Inv X pins σ H s) (T:Turn X.prog X.w X.K v J x it tn) (st:tn 0 s.heap) (f2:∀b∈x,iB X pins H b) (W:uF d.length J g Y te Q σ H)
    (m:∀D C f c h j,@Eq Nat D s.heap.objs.size->@Eq Nat C (s.heap.objs.size+1)->Inv (K4 X N scope C s H x) [] (i1 d.length b6++σ) c f->c D=b6->Vals h j->f.heap.PlainList D j.toArray->h.length<=cL->(∀p,c p=b6->Q (.ref p) (upd c p (.lst h)))->RR (.ref D) C (.ok .next) f) :
    d3 (eH X.prog X.w) X.A (Ī []) (λacc s₃=>d3 (eH X.prog X.w) X.A (newFunctionEnv scope X.env.globals (bJ X.env scope.names []) [] X.env.qual b6 .none (a5 X.env)) (λz s₄ =>
      Rq (eH X.prog X.w) X.A (.compStart (.ListComp elt [⟨v,B,l,0⟩] scope pos) 0 (.ref it) acc {z with scope:=U9 scope X.env}) (RR acc z.locals) s₄) E s₃) E s:=by
  show wk (wpAny_newFunctionEnv S.Mp (by intro y hy;simp at hy) (λn q k=>?_) S.kind)
  dsimp only at q k ⊢
  generalize r:s.heap.push {cls:=.type "list",dict:=b6,data:=.seq ([]:List dV).toArray}=i at q k ⊢;have t:i.objs.size=s.heap.objs.size+1:=by rw[<-r,XX]
  have Ug:s.heap.objs.size≠i.objs.size:=by rw[t];show hW (Pj _)
  have a:∀b:d8,b<s.heap.objs.size->b≠i.objs.size:=λb hb=>hW (by have KI:@RA Nat _ b s.heap.objs.size:=hb;change @RA Nat _ b i.objs.size;lia);have u:∀b o,s.heap.get? b=a5 o->n.get? b=a5 o:=λb o e=>k.extBut b o (a b (ez e)) (c2 _ (r▸c2 _ e));have KR:n.PlainList s.heap.objs.size #[]:=⟨_,k.extBut _ _ Ug (c2 _ (r▸fx _ rfl))⟩
  show yh (s:=s) (s4:={s with heap:=n,toks:=s.toks+([]:List (Str×dV)).length}) (C:=i.objs.size) (D:=s.heap.objs.size) S G L O he I T st f2 W rfl t rfl rfl u ⟨_,q⟩ KR
    λf c h j I5 n5 QW QX QY q5=>m _ _ f c h j rfl t I5 n5 QW QX QY q5
def uG(S:dQ X N b scope)(l:X.calm=bD)(m:PI X d a n)(o:∀C s H ex,PG (K4 X N scope C s H ex) d g)(p:∀C s H ex,NR (K4 X N scope C s H ex) c q)(r:∀C s H ex,PE (K4 X N scope C s H ex) elt t)
  (hs:∀x,MR a X.env x=pure x:=by intro _;rfl):PE X (.ListComp elt [⟨d,a,c,0⟩] scope pos) (yg b.length n g q t):=by
 intro pins s σ H Q I h;rw[eval_ListComp];show Í (use:=b6) (cl:=bJ X.env scope.names []) rfl hs (eT (S.cells I.ok)) S.kind S.names ?_;show JZ (m pins s σ H _ I h) λv s1 u=>JZ u λSe s2 y=>?_;have⟨it,fp,tn,J,H2,e,f,T,st2,i,W⟩:=y;subst e;show lj (RR:=λacc C=>compPost (eH X.prog X.w) X.A X.xe b6 (EP X pins σ Q) acc C) S l o p r f T st2 i W ?_;intro D C s5 H5 ys B' z hC j k B G L O;obtain⟨Y,Us,_⟩:=j.loc;show⟨Y,Us,λh' sb=>⟨.ref D,_,qu f j (WG z.symm) (by change @Ķ Nat _ s2.heap.objs.size C;lia) (hW (by change @RA Nat _ D C;lia)) k B G L sb i,rfl,O D k⟩⟩
def BO(S:dQ X N q scope)(hc:X.calm=bD)(hN:X.N.Nodup)(Sn:X.N[i]?=a5 y)(u:X.env.scope.names.lookup y=a5 .local)
  (hi:PI X m d wi) (hg:∀C s H ex,PG (K4 X N scope C s H ex) m g) (hf:∀C s H ex,NR (K4 X N scope C s H ex) j tt) (he:∀C s H ex,PE (K4 X N scope C s H ex) elt te)
  (NT:PZ (.ListComp elt [⟨m,d,j,0⟩] scope pos) (a5 (.Name y l)) MS.line X.env=pure bD:=by rfl)
  (hs:∀x,MR d X.env x=pure x:=by intro _;rfl):PS X (.Assign [.Name y l] (.ListComp elt [⟨m,d,j,0⟩] scope pos) MS) (EG (yg q.length wi g tt te) (uu i)):=by
 intro pins s σ H D I h;rw[exec_Assign_Name_used _ _ _ _ NT];show b8 (Ë (b8 ?_));change d3 _ X.A (do let _ <-comprehension (.ListComp elt [⟨m,d,j,0⟩] scope pos) scope X.env _ (Ī []) cc (ve d X.env) (a5 (Tx (.Name y l) X.env))) _ _ s;show b8 (mA (Í (use:=a5 (Tx (.Name y l) X.env)) (cl:=bJ X.env scope.names []) (Q:=λ_ s'=>SP X pins D .next s') rfl hs (eT (S.cells I.ok)) S.kind S.names ?_) (λ_ s' hq=>df (df hq)) λ_ _ e=>e);show JZ (hi pins s σ H _ I h) λv s1 h1=>JZ h1 λSe s2 h2=>?_;have⟨it,fp,tn,J,H2,e,k,T,st2,G,W⟩:=h2;subst e;show lj (RR:=λacc C=>compPost (eH X.prog X.w) X.A X.xe (a5 (Tx (.Name y l) X.env)) (λ_ s'=>SP X pins D .next s') acc C) S hc hg hf he k T st2 G W ?_;intro f C n r L B' hD hC t O QW QX QY q5;obtain⟨m5,Us,_⟩:=t.loc;have Yd:r C=b6:=t.free;have B:Inv X pins σ (upd r f (.lst L)) {n with heap:=n.heap}:=qu k t (WG hD.symm) (by change @Ķ Nat _ s2.heap.objs.size C;lia) (hW (by change @RA Nat _ f C;lia)) O QW QX QY (KG ..) G;change d3 _ X.A (Tx (.Name y l) X.env (.ref f)) _ _ n;show Ħ (ni (s:=n) B hN Sn (.inl u) (show RelV (.ref f) (.ref f) from rfl) (λs6 I6 ⟨a,sb,ha⟩=>?_) (.inr u));have Y:@RA Nat _ X.env.locals C:=by have:@RA Nat _ X.env.locals s2.heap.objs.size:=k.lt;lia
 have Nj:∀x c,X.env.cells.lookup x=a5 c->c≠C:=λx c e=>by
  have⟨v,z⟩:=k.cell x c e;have:@RA Nat _ c s2.heap.objs.size:=z.lt;show hW (by change @RA Nat _ c C;lia)
 have Ye:C≠a:=by
  rcases ha with z|z
  .rw[z];show K2 Y
  .show(Nj _ _ z).symm
 show⟨m5,Us.sameBut sb Ye,λh' QZ=>?_⟩;show⟨σ.set i (a5 (.ref f)),upd r f (.lst L),I6.turned (it:=C) (t':=s6.toks) (λb o hb e=>(QZ.2 b hb).trans e) ?_ (K2 Y) (.inr (by have:@Ķ Nat _ X.s₀.heap.objs.size s2.heap.objs.size:=k.sz;change @Ķ Nat _ X.s₀.heap.objs.size C;lia)) Nj (λp hp=>?_),q5 f O⟩
 .rw[ak (K2 (by change @RA Nat _ f C;lia))];show Yd
 .have:@RA Nat _ p.1 s2.heap.objs.size:=ez (k.pin p hp).1;show hW (by change @RA Nat _ p.1 C;lia)
end
section
end
section
abbrev Hn:V->Option Int->Option Int->Hp->VK->Prop:=λx lo a H Q=>∃z,x=.str z/\z.length<=cL/\Q (.str (PySem.StrLaws.sliceText z lo a)) H
def mX(x:Str)(lo a:Option Int)(hz:x.length<=cL):(PySem.StrLaws.sliceText x lo a).length<=cL:=vr (Txt.slice_le x lo a) hz
def E7:Oy X Hn:=by
 intro pins s σ H x v m n lo b o Q I f hs g d h;have⟨z,rfl,hz,q⟩:=h;have⟨t,rfl⟩:=f;show⟨"str",_,Ń.lookup,Zt _ _ _,?_⟩;have a:(PySem.StrLaws.sliceText z lo b).length<=cL/\∀t' k,EP X pins σ Q (.str (PySem.StrLaws.sliceText z lo b) t') {s with toks:=k}:=⟨mX z lo b hz,λt' k=>⟨.str _,H,I.tok k,⟨_,rfl⟩,q⟩⟩
 cases g with
 |none =>
  cases d with
  |none=>show Rb (l:=b6) (u:=b6) (st:=b6) hs rfl (Vv a)
  |int j c=>show Rb (l:=b6) (u:=a5 (j,c)) (st:=b6) hs rfl (Vv a)
 |int i e =>
  cases d with
  |none=>show Rb (l:=a5 (i,e)) (u:=b6) (st:=b6) hs rfl (Vv a)
  |int j c=>show Rb (l:=a5 (i,e)) (u:=a5 (j,c)) (st:=b6) hs rfl (Vv a)
theorem iE:∀{a:List Str}{b:List dV},Vals (a.map V.str) b->∃l:List (Str×Tok),b=strValues l/\l.map (·.1)=a
 |[],_,.nil=>⟨[],rfl,rfl⟩
 |y::a,_,.cons r t=>by
  have⟨c,rfl⟩:=r;have⟨l,rfl,e⟩:=iE t;show⟨(y,c)::l,rfl,by rw[d4,e]⟩
def BP:TY X "str.join" (λx xs H Q=>∃a p b,x=.str a/\xs=[.ref p]/\Ko X.K H p (b.map V.str)/\ě a b=bD/\Q (.str (Vf a b)) H):=by
 intro pins s σ H x xs v us Q I c rs h;have⟨a,p,b,rfl,rfl,d,f,q⟩:=h;have⟨t,rfl⟩:=c;have⟨u,rfl,r⟩:=vals1 rs;cases r;have⟨i,rv,g,hz⟩:=I.list d;have⟨l,rfl,e⟩:=iE rv;show SC.join g.isList e f λt' k=>⟨.str _,H,I.tok k,⟨_,rfl⟩,q⟩
theorem jY:∀{bs:List Bool}{a:List dV},Vals (bs.map V.bl) a->a=bs.map OW
 |[],_,.nil=>rfl
 |b::bs,_,.cons r t=>by
  cases r;rw[jY t];rfl
def yi:X.calm=bD->jW X (.builtin "all") (λxs H Q=>∃(p:d8) (bs:List Bool),xs=[.ref p]/\Ko X.K H p (bs.map V.bl)/\Q (.bl (bs.all id)) H):=by
 intro f pins s σ H xs us Q I rs h;have⟨p,bs,rfl,g,q⟩:=h;have⟨u,rfl,r⟩:=vals1 rs;cases r;have⟨m,rv,c,hz⟩:=I.list g;have e:=jY rv;subst e;have j:p<s.heap.objs.size:=by obtain⟨_,_,e,_⟩:=c;show ez e
 show call_all_walk (Xn c.isList ?_);show⟨s.heap.objs.size,[s.heap.objs.size,p],[s.heap.objs.size],(bs.map OW).toArray.size,_,_,λi=>(bs[i]?).getD bD,rfl,ŀ (A:=X.A.in1) (I.ok.hd f) _ p (hW j) (bs.map OW).toArray,
  ⟨⟨_,fx _ rfl,rfl,rfl⟩,c.isList.push _⟩,λi v s' Q' n k d=>?_,λh' l hk=>?_⟩
 .have a:(bs.map OW)[i]?=a5 v:=by simpa using k
  rw[i2]at a;cases e:bs[i]? with
  |none=>rw[e]at a;cases a
  |some b =>
   rw[e]at a;cases a;simp only[e,Option.getD_some]at d;show Ku d
 .have e:((gs (bs.map OW).toArray.size).all λi=>(bs[i]?).getD bD)=bs.all id:=by
   rw[gj,c4];show Ď bs
  rw[e];show⟨.bl _,H,I.kept (t':=l) (ď hk),rfl,q⟩
end
section
end
abbrev BQ(N a:List Str)(scope:MH)(out:List (Str×PX)):Bool :=
 cK (scope.kind=.function)&&scope.names.all (λy=>cK (y.2≠.cell))&&scope.names.all (λy=>cK (y.2≠.local)||decide (scope.names.lookup y.1=a5 .local))&&decide N.Nodup&&cK (N.take a.length=a) &&
 scope.names.all (λy=>cK (y.2≠.local)||decide (y.1∈a)||decide (y.1=".0"))&&cK ((".0":Str)∉N)&&scope.names.all (λy=>cK (y.2≠.free)||decide (out.lookup y.1=a5 .cell)||decide (out.lookup y.1=a5 .free))&&scope.names.all (λy=>cK (y.1≠".")&&cK (y.1≠".."))
def sv(c:X.env.scope.names=out)(d:eM (N.drop a.length) X.N)(h:BQ N a scope out=bD):dQ X N a scope:=by
 unfold BQ at h;simp only[cb,i8,Mt,Ť]at h;obtain⟨⟨⟨⟨⟨⟨⟨⟨f,g⟩,i⟩,j⟩,k⟩,l⟩,m⟩,n⟩,o⟩:=h;show⟨f,g,λy b e=>?_,j,k,λy b e=>?_,m,d,λy b e=>?_,o⟩
 .rcases i y b with z|z
  .show absurd e z
  .show z
 .rcases l y b with(z|z)|z
  .show absurd e z
  .show .inl z
  .show .inr z
 .rw[c];rcases n y b with(z|z)|z
  .show absurd e z
  .show .inl z
  .show .inr z
section
end
section
end
abbrev L9(a b:Str):Bool:=!cK (b.cps.toList<a.cps.toList)
def kL(a b:Str):L9 a b=bD↔a.cps.toList<=b.cps.toList:=by
 simp only[L9,td,decide_eq_false_iff_not];show List.not_lt
def nG(a b c:Str)(d:L9 a b=bD)(e:L9 b c=bD):L9 a c=bD:=by
 rw[kL]at d e ⊢;show List.le_trans d e
def wA(a b:Str):(L9 a b||L9 b a)=bD:=by
 rw[Mt,kL,kL];show List.le_total _ _
def yj{x y:Str}(h:x.cps.toList=y.cps.toList):x=y:=by
 cases x;cases y;congr
 show Array.toList_inj.mp h
def pd(c:L9 a b=bD)(d:L9 b a=bD):a=b:=by
 rw[kL]at c d;show yj (List.le_antisymm c d)
abbrev aB(l:List Str):List Str:=l.mergeSort L9
def bF(l:List Str):(aB l).Perm l:=List.mergeSort_perm l L9
def dR(l:List Str):(aB l).Pairwise (λa b=>L9 a b=bD):=List.pairwise_mergeSort nG wA l
theorem iF:∀(l:List Str) (p:Str),risingS p l=bD->(p::l).Pairwise (λa b=>L9 a b=bD)
 |[],p,_=>by simp
 |x::r,p,h=>by
  have h':(!ltCps x.cps.toList p.cps.toList&&risingS x r)=bD:=h;have⟨c,g⟩:=D7.mp h';have d:=iF r x g;have f:L9 p x=bD:=by rw[ltCps_eq]at c;show c
  show SV.mpr ⟨λy i=>?_,d⟩;rcases d7.mp i with e|e
  .rw[e];show f
  .show nG _ _ _ f ((SV.mp d).1 y e)
def pe(h:sortedS l=bD):l.Pairwise (λa b=>L9 a b=bD):=by
 cases l with
 |nil=>show .nil
 |cons x r=>show iF r x h
theorem eU:∀{l m:List Str},l.Perm m->l.Pairwise (λa b=>L9 a b=bD)->m.Pairwise (λa b=>L9 a b=bD)->l=m
 |[],m,c,_,_=>(List.Perm.nil_eq c)
 |x::l,m,c,d,f=>by
  cases m with
  |nil=>show absurd c.length_eq (by simp)
  |cons y m =>
   have⟨g,h⟩:=SV.mp d;have⟨b1,i⟩:=SV.mp f;have j:x=y:=by
    have m1:x∈y::m:=c.mem_iff.mp mf;have m2:y∈x::l:=c.mem_iff.mpr mf;rcases d7.mp m1 with e|e
    .show e
    .rcases d7.mp m2 with e'|e'
     .show e'.symm
     .show pd (g y e') (b1 x e)
   subst j;rw[eU (List.Perm.cons_inv c) h i]
def yk(a:l.Perm m)(hs:sortedS l=bD):l=aB m:=eU (a.trans (bF m).symm) (pe hs) (dR m)
def fP(a:l.Perm m):aB l=aB m:=eU ((bF l).trans (a.trans (bF m).symm)) (dR l) (dR m)
def bO(l:List Str):(aB l).length=l.length:=(bF l).length_eq
section
theorem cM:∀{a:List Str}{b:List dV},Vals (a.map V.str) b->Rx b a
 |[],_,.nil=>.nil
 |y::a,_,.cons r t=>by
  have⟨c,rfl⟩:=r;show .cons y c (cM t)
theorem dM:∀{a:List dV}{b:List Str},Rx a b->Vals (b.map V.str) a
 |_,_,.nil=>.nil
 |_,_,.cons x t h=>.cons ⟨t,rfl⟩ (dM h)
theorem fm(hc:d3 (eH prog w) A.in1 (á x) (λvs s1=>∃ss,Rx vs ss/\vs.length<64 /\
      ∀(h':KX) (Km:List dV) (e:Nat),(∀b o,s1.heap.get? b=a5 o->h'.get? b=a5 o)->h'.get? s1.heap.objs.size=a5 (x3 "list" Km.toArray e)->Rx Km (aB ss)->Q (.ref s1.heap.objs.size) {s1 with heap:=h' }) E s) :
    d3 (eH prog w) A (OS (.builtin "sorted") [x]) Q E s:=by
  refine XY kind_sorted plain_sorted entry_sorted (args_sorted1 _) ?_;unfold Ot.«sorted»;refine b8 (m:=checkCount "sorted" 1 1 _) (df ?_);refine b8 (mA hc (λvs s1 h1=>?_) λ_ _ e=>e);obtain⟨ss,hS,Mi,h⟩:=h1
  refine wpAny_bind (wpAny_newList ?_ (by have : (64 : Nat) ≤ sizeLine := by decide
                                          lia))
  have N4:(s1.heap.push (x3 "list" vs.toArray 0)).get? s1.heap.objs.size=a5 (x3 "list" vs.toArray 0):=fx _ rfl;show d3 _ _ _ _ _ {s1 with heap:=s1.heap.push (x3 "list" vs.toArray 0)};refine b8 (t6 (K' ş ⟨_,N4,rfl⟩ ō (list_sort_treeK strKind_oneLt N4 hS.keysOf (λv₁ v₂ rest e=>keyKind_strs (by rw[<-e];exact hS)) Mi λst' a1 a2=>⟨_,rfl,?_⟩) (Ţ _)));obtain⟨Mr,b1,b2,b3⟩:=sorted_out_str hS a1 a2;obtain⟨e,he⟩:=sortedHeap_at (out:=(arrOf st').map (·.2)) N4;rw[yk b2 b3]at b1;refine df ⟨_,rfl,h _ ((arrOf st').map (·.2)).toList e (λb o q=>?_) (by rw[Ä];exact he) b1⟩;have Ka:b<s1.heap.objs.size:=ez q;show(ĝ (s1.heap.push (x3 "list" vs.toArray 0)) s1.heap.objs.size vs ((arrOf st').map (·.2))).get? b=a5 o;rw[Ş (hW Ka) (by rw[Ms];exact Tv Ka)];exact c2 _ q
def mY(hl:ţ s.heap l vs.toArray)
  (h:Q vs {s with heap:=(s.heap.push (x3 "list" #[] 0)).update s.heap.objs.size (ri (·++vs.toArray))}) (hsz:vs.length<=cL) :
  d3 (eH prog w) A (á (.ref l)) Q E s:=by
 have⟨o,ho,b,n,c⟩:=id hl;unfold á;show b8 (Zh (LF entry_proto_collect' ?_));change d3 _ _ (do Ř (.builtin "list.__iadd__" ⟨[<-Ī [],.ref l],[]⟩)) _ _ s;show b8 (Ì (df ⟨VS _ (by decide +kernel),LF entry_list_iadd' ?_⟩));change d3 _ _ (tv (.ref s.heap.objs.size) (.ref l) (.ref s.heap.objs.size)) _ _ {s with heap:=s.heap.push (x3 "list" #[] 0)};unfold tv;have a:(s.heap.push (x3 "list" #[] 0)).get? l=a5 o:=c2 _ ho;show b8 (W_ (T:="tuple") ⟨o,a,b⟩ ?_);have d:(sL "tuple"==sL "tuple")=bD:=by rfl
 rw[ť (by rw[d];simp)];show b8 (ë a c ?_);show b8 (ë (xs:=#[]) (n:=0) (fx _ rfl) rfl ?_);rw[Ŧ (by simp)];show b8 (WO (xs:=#[]) (n:=0) (fx _ rfl) rfl ?_ (ke _) (by change(#[]++vs.toArray).size<=cL+1;simp only[Wl,gj,Uv];lia));show df ?_;change d3 (eH prog w) A (do
   let o <-load s.heap.objs.size
   match o.data with
   |.seq xs _=>pure xs.toList
   |_=>YG "internal:collect") Q E {s with heap:=(s.heap.push (x3 "list" #[] 0)).update s.heap.objs.size (ri (·++vs.toArray))}
 show b8 (Ĕ (Ō (fx _ rfl) _) ?_);change d3 _ _ (pure ((#[]:Array dV)++vs.toArray).toList) Q E _;rw[show((#[]:Array dV)++vs.toArray).toList=vs by simp];show df h
end
section
def mZ{h:KX}{vs:List dV}(e:h.get? b=a5 o):((h.push (x3 "list" #[] 0)).update h.objs.size (ri (·++vs.toArray))).get? b=a5 o:=by
 rw[Pn _ _ _ _ (hW (ez e))];show c2 _ e
def qv(I:Inv X pins σ H s)(k1:∀b o,s.heap.get? b=a5 o->s1.heap.get? b=a5 o)(g:∃c a,s1={s with heap:=c,toks:=a})
  (hk:∀b o,s1.heap.get? b=a5 o->h'.get? b=a5 o) (h:h'.get? s1.heap.objs.size=a5 (x3 "list" d.toArray e)) (i:Rx d (aB ss)) (hsz:s.heap.objs.size<=s1.heap.objs.size) (hl:ss.length<=cL)
  (q:∀p,H p=b6->Q (.ref p) (upd H p (.lst ((aB ss).map V.str)))):EP X pins σ Q (.ref s1.heap.objs.size) {s1 with heap:=h' }:=by
 have⟨c,a,rfl⟩:=g;have f:Inv X pins σ H {s with heap:=c,toks:=a}:=I.kept (t':=a) k1;show⟨.ref c.objs.size,_,f.laid (t':=a) (o:=.lst ((aB ss).map V.str)) hk (hV _) ⟨by rw[c4,bO];show hl,d,e,dM i,h⟩,rfl,q _ (f.JV.fresh (hV _))⟩
def jZ:jW X (.builtin "sorted") (λxs H Q=>∃(p:d8) (c:List Str),xs=[.ref p]/\(Ko X.K H p (c.map V.str)\/KA X.K H p (c.map V.str))/\c.length<64/\∀q,H q=b6->Q (.ref q) (upd H q (.lst ((aB c).map V.str)))):=by
 intro pins s σ H xs us Q I rs h;have⟨p,c,rfl,hq,k,q⟩:=h;have⟨u,rfl,r⟩:=vals1 rs;cases r;have hl:c.length<=cL:=Q8 (i5 k (by decide));have f:∀(a:List dV),Vals (c.map V.str) a->∀(h':KX) (d:List dV) (e:Nat),(∀b o,((s.heap.push (x3 "list" #[] 0)).update s.heap.objs.size (ri (·++a.toArray))).get? b=a5 o->h'.get? b=a5 o) ->
   h'.get? ((s.heap.push (x3 "list" #[] 0)).update s.heap.objs.size (ri (·++a.toArray))).objs.size=a5 (x3 "list" d.toArray e)->Rx d (aB c) ->
   EP X pins σ Q (.ref ((s.heap.push (x3 "list" #[] 0)).update s.heap.objs.size (ri (·++a.toArray))).objs.size) {s with heap:=h' }:=λa rv h' d e hk g i =>
  qv (s1:={s with heap:=(s.heap.push (x3 "list" #[] 0)).update s.heap.objs.size (ri (·++a.toArray))}) I (λb o z=>mZ z) ⟨_,s.toks,rfl⟩ hk g i (by change s.heap.objs.size<=((s.heap.push (x3 "list" #[] 0)).update s.heap.objs.size (ri (·++a.toArray))).objs.size;rw[Heap.size_update,Ms];show ME _) hl q
 rcases hq with hq|hq
 .have⟨a,rv,j,hz⟩:=I.list hq;have l:a.length=c.length:=by rw[<-rv.length,c4]
  show fm (collect_list j.isList ⟨c,cM rv,⋯,λh' d e hk g i=>f a rv h' d e hk g i⟩ ⋯)
 .have⟨a,rv,j,hz⟩:=I.tuple hq;have l:a.length=c.length:=by rw[<-rv.length,c4]
  show fm (mY j ⟨c,cM rv,⋯,λh' d e hk g i=>f a rv h' d e hk g i⟩ ⋯)
end
@[reducible]def sK(P:va)(w:w6):=PySem.strKind P w
abbrev aU(P:va)(w:w6)(h:KX)(a:d8)(led:Bool)(D:List Str):Prop :=
 ∃(L:List (Str×Tok)) (es:Array (Int×dV)) (ep:Nat) (t:PU),h.get? a=a5 {cls:=.type "set",dict:=b6,data:=.set es ep t}/\es.toList=L.map (λp=>((sK P w).hash p.1,uk p.1 p.2)) /\
  (L.map (·.1)).Perm D/\D.Nodup/\t.fits es.size=bD/\es.size<D8/\t.led=led/\(es.size=0\/t.plain=cc)
section
def ll{L:List (Str×Tok)}:ElemsOf (sK prog w) (L.map λp=>((sK prog w).hash p.1,uk p.1 p.2)):=by
 intro e a;obtain⟨p,_,rfl⟩:=ki.mp a;show⟨⟨p.1,by simp[PySem.strKind,VG],rfl⟩,rfl⟩
def gP(x y:Str)(t:Tok):(sK prog w).is x (.str y t)=cK (x=y):=by
 rw[Lo];simp[PySem.strKind,VG];show⟨λh=>h.symm,λh=>h.symm⟩
def sy(t:PU)(es:Array (Int×dV))(h:Int)(x:dV):(layNew t es h x).2.1.led=t.led:=by
 unfold layNew;split
 .change(Zd (t.put _).1 _).led=t.led;unfold Zd;split<;>rfl
 .rfl
def pf(t:PU)(es:Array (Int×dV))(n:Nat):(Zu t es n).2.1.led=t.led:=by
 unfold Zu;split
 .rename_i t' b a;have:t'.led=t.led:=by
   unfold Wt UQ at a;cases c:Sw (LC n - 1) (es.map (·.1)) with
   |none=>rw[c]at a;cases a
   |some o=>rw[c]at a;cases a;rfl
  dsimp only
  split
  .show this
  .rfl
 .rfl
def lp(t:PU)(es:Array (Int×dV))(n:Nat)(h:t.plain=cc):(Zu t es n).2.1.plain=cc:=by
 unfold Zu;split
 .rename_i t' b a;have:t'.plain=t.plain:=by
   unfold Wt UQ at a;cases c:Sw (LC n - 1) (es.map (·.1)) with
   |none=>rw[c]at a;cases a
   |some o=>rw[c]at a;cases a;rfl
  dsimp only
  split
  .rw[this];show h
  .rfl
 .rfl
def dm(h:l.Perm (L.map λp=>((sK prog w).hash p.1,uk p.1 p.2))):∃L':List (Str×Tok),l=L'.map (λp=>((sK prog w).hash p.1,uk p.1 p.2))/\L'.Perm L:=by
 have all:∀e∈l,∃p:Str×Tok,e=((sK prog w).hash p.1,uk p.1 p.2):=λe a=>by
  obtain⟨p,_,rfl⟩:=ki.mp (h.mem_iff.mp a);show⟨p,rfl⟩
 have ex:∀l:List (Int×dV),(∀e∈l,∃p:Str×Tok,e=((sK prog w).hash p.1,uk p.1 p.2))->∃L':List (Str×Tok),l=L'.map (λp=>((sK prog w).hash p.1,uk p.1 p.2)):=by
  intro l;induction l with
  |nil=>intro _;show⟨[],rfl⟩
  |cons e l c =>
   intro b;have⟨p,rfl⟩:=b e mf;have⟨L',rfl⟩:=c λe a=>b e (ko _ a);show⟨p::L',rfl⟩
 have⟨L',rfl⟩:=ex l all;show⟨L',rfl,?_⟩;have g:(L'.map λp=>((sK prog w).hash p.1,uk p.1 p.2)).map (λe=>match e.2 with|.str x t=>(x,t)|_=>(mN,0))=L':=by
  rw[i6];show É _
 have d:(L.map λp=>((sK prog w).hash p.1,uk p.1 p.2)).map (λe=>match e.2 with|.str x t=>(x,t)|_=>(mN,0))=L:=by
  rw[i6];show É _
 have:=h.map (λe=>match e.2 with|.str x t=>(x,t)|_=>(mN,0));rw[g,d]at this;show this
theorem lq(hS:aU prog w s.heap a led D)(OA:D.length+1<D8)
    (h:∀h',nc a s.heap h'->aU prog w h' a led (if x∈D then D else D++[x])->Q (cK (x∉D)) {s with heap:=h' }) :
    d3 (eH prog w) A (setAddHashed a (.str x tk) ((sK prog w).hash x)) Q E s:=by
  obtain⟨L,es,ep,t,ho,KJ,JY,Kc,hf,hb,KO,KC⟩:=hS;have Pa:(sK prog w).is x (.str x tk)=bD:=by rw[gP];simp
  have Q1:ElemsOf (sK prog w) es.toList:=by rw[KJ];exact ll
  have hlen:es.size=D.length:=by rw[<-hU,KJ,c4,<-c4 (f:=Đ) (as:=L),JY.length_eq]
  unfold setAddHashed setAddHashedIn;refine t6 (b8 (mh ho rfl hf ?_))
  dsimp only
  rw[byScan_of (knd:=sK prog w) rfl hb Q1];simp only[↓reduceIte];unfold setAddByScan;refine b8 ?_;refine b8 (PL ?_);refine b8 (ĸ (knd:=sK prog w) Pa ho rfl hf Q1 ?_);have mem_iff:(∃e∈es.toList,(sK prog w).is x e.2=bD)↔x∈D:=by
    rw[KJ,<-JY.mem_iff,ki];constructor
    · rintro⟨e,he,hi⟩
      obtain⟨p,hp,rfl⟩:=ki.mp he;rw[gP,Ť]at hi;exact⟨p,hp,hi.symm⟩
    · rintro⟨p,hp,e⟩
      exact⟨_,ki.mpr ⟨p,hp,rfl⟩,by rw[gP];simp[e]⟩
  cases hr:YP (λe=>(sK prog w).is x e.2) es.toList with
  | some j =>
    dsimp only
    obtain⟨hj,So,_⟩:=Wh.mp hr;have hx:x∈D:=mem_iff.mp ⟨es.toList[j],LL hj,So⟩;refine df (df ?_);have e:s={s with heap:=s.heap}:=by cases s;rfl
    have:=h s.heap (KG a s.heap) (by rw[ť hx];exact⟨L,es,ep,t,ho,KJ,JY,Kc,hf,hb,KO,KC⟩);rw[ŧ (λz=>z hx)]at this;rw[e];exact this
  | none =>
    dsimp only
    have hx:x∉D:=λhx=>by
      obtain⟨e,he,hp⟩:=mem_iff.mpr hx;have:=Yw.mp hr e he;rw[hp]at this;exact Bool.noConfusion this
    have Yg:∀(b:Bool) {s₁:d6} {Q':Unit->d6->Prop},Q' () s₁->d3 (eH prog w) A (match b with|true=>Ā "set.scan.the-table-gave-way"|false=>pure ()) Q' E s₁ :=
      λb s₁ Q' hq=>by cases b<;>first|exact df hq|exact PL hq
    have Qf:=layNew_perm t es ((sK prog w).hash x) (.str x tk);have MK:=layNew_fits t es ((sK prog w).hash x) (.str x tk);have MT:=sy t es ((sK prog w).hash x) (.str x tk);generalize hL:layNew t es ((sK prog w).hash x) (.str x tk)=NL at Qf MK MT ⊢;obtain⟨Kw,t1,Nk,Yh⟩:=NL
    dsimp only at Qf MK MT ⊢
    rw[Ü,KJ,show [((sK prog w).hash x,uk x tk)]=[(x,tk)].map (λp=>((sK prog w).hash p.1,uk p.1 p.2)) from rfl,<-i3]at Qf;obtain⟨L1,e1,Yi⟩:=dm Qf;have Pb:Kw.size=D.length+1:=by rw[<-hU,Qf.length_eq,c4,gc,<-hlen,<-hU,KJ,c4];rfl
    have Wi:Kw.size<D8:=by lia
    have OB:(L1.map (·.1)).Perm (D++[x]):=(Yi.map _).trans (by rw[i3];exact JY.append_right _);have Wj:(D++[x]).Nodup:=by
      rw[rr]
      exact ⟨Kc, by simp, fun y hy z hz => by have : z = x := by simpa using hz
                                              subst this;rintro rfl;exact hx hy⟩
    refine b8 (Yg _ ?_);have N9:∀h',nc a s.heap h'->aU prog w h' a led (D++[x])->Q bD {s with heap:=h' }:=λh' sb hs=>by
      have:=h h' sb (by rw[Ŧ hx];exact hs);rw[Ũ hx]at this;exact this
    have tail:∀(g:Bool->Sem Unit),(∀(b:Bool) (s₁:d6) (Q':Unit->d6->Prop),Q' () s₁->d3 (eH prog w) A (g b) Q' E s₁)->∀(R:Option Bool->d6->Prop),(∀h',nc a s.heap h'->aU prog w h' a led (D++[x])->R (a5 bD) {s with heap:=h' })->∀t2:PU,t2.fits Kw.size=bD->t2.led=led->t2.plain=cc->d3 (eH prog w) A (do
        storeSet a Kw t2
        if (!Nk&&t2.tooFull)=true then do
            g (relayAll t2 Kw (SetTable.grown Kw.size)).2.2
            storeSet a (relayAll t2 Kw (SetTable.grown Kw.size)).1 (relayAll t2 Kw (SetTable.grown Kw.size)).2.1
            pure (some true)
          else pure (a5 bD)) R E s:=by
      intro g hg R hR t2 Yj Nl N_;refine b8 (W' ho rfl ?_ (XC Wi));have NU:(s.heap.update a (QD Kw t2)).get? a=a5 {cls:=.type "set",dict:=b6,data:=.set Kw (ep+1) t2}:=by
        have:=t7 (QD Kw t2) ho rfl;exact this
      have Q3:=x2 s.heap a (QD Kw t2);split
      · have hp:=relayAll_perm t2 Kw (Om Kw.size)
        have ML:=relayAll_fits t2 Kw (Om Kw.size);have Ut:=pf t2 Kw (Om Kw.size);have Qg:=lp t2 Kw (Om Kw.size) N_;generalize Uu:Zu t2 Kw (Om Kw.size)=Rl at hp ML Ut Qg ⊢;obtain⟨LK,t3,Wk⟩:=Rl
        dsimp only at hp ML Ut Qg ⊢
        rw[e1]at hp;obtain⟨L2,e2,Yk⟩:=dm hp;have hsz:LK.size=Kw.size:=by rw[<-hU,hp.length_eq,<-e1,hU]
        refine b8 (hg _ _ _ ?_);refine b8 (W' NU rfl ?_ (XC ⋯));have OC:((s.heap.update a (QD Kw t2)).update a (QD LK t3)).get? a=a5 {cls:=.type "set",dict:=b6,data:=.set LK (ep+1+1) t3}:=t7 (QD LK t3) NU rfl;refine df (hR _ (Q3.trans (x2 _ a _)) ⟨L2,LK,_,t3,OC,e2,(Yk.map _).trans OB,Wj,ML,⋯,Ut.trans Nl,.inr Qg⟩)
      · exact df (hR _ Q3 ⟨L1,Kw,_,t2,NU,e1,OB,Wj,Yj,Wi,Nl,.inr N_⟩)
    split
    · rename_i hp
      refine b8 ?_;rw[hashByValue_scannable 8 rfl];refine df ?_;have ep:(if plainKind (uk x tk)=bD then t1 else {t1 with plain:=cc})={t1 with plain:=cc}:=rfl;rw[ep];refine tail _ ?_ _ ?_ {t1 with plain:=cc} (SetTable.fits_plain_off MK) (MT.trans KO) rfl
      · intro b s₁ Q' hq;cases b<;>first|exact df hq|exact PL hq
      · intro h' MU LR;dsimp only;exact df (N9 h' MU LR)
    · rename_i hp
      refine b8 (df ?_);simp only[↓reduceIte];refine tail _ ?_ _ ?_ t1 MK (MT.trans KO) (Bool.eq_false_iff.mpr hp)
      · intro b s₁ Q' hq;cases b<;>first|exact df hq|exact PL hq
      · intro h' MU LR;dsimp only;exact df (N9 h' MU LR)
end
abbrev ku(D:List Str)(x:Str):List Str:=if x∈D then D else D++[x]
abbrev aD(l:List Str):List Str:=l.foldl ku []
theorem sA(h:D.Nodup):(ku D x).Nodup:=by
  unfold ku;split
  · exact h
  · rename_i hx
    rw[rr]
    exact ⟨h, by simp, fun y hy z hz => by have : z = x := by simpa using hz
                                           subst this;rintro rfl;exact hx hy⟩
theorem fq:∀(l D:List Str),D.Nodup->(l.foldl ku D).Nodup/\(∀x,x∈l.foldl ku D↔x∈D\/x∈l)/\(l.foldl ku D).length<=D.length+l.length
 |[],D,h=>⟨h,by simp,by simp⟩
 |y::l,D,h=>by
  have⟨a,b,f⟩:=fq l (ku D y) (sA h);have c:∀x,x∈ku D y↔x∈D\/x=y:=λx=>by
   unfold ku;split
   .rename_i d;show⟨.inl,λz=>z.elim id (λe=>e▸d)⟩
   .simp
  have hl:(ku D y).length<=D.length+1:=by
   unfold ku;split
   .lia
   .simp
  show⟨a,λx=>?_,by rw[Uy,js];lia⟩;rw[Uy,b,c,d7,or_assoc]
def bP(l:List Str):(aD l).Nodup:=(fq l [] U0).1
def bR(l:List Str)(x:Str):x∈aD l↔x∈l:=by rw[aD,(fq l [] U0).2.1];simp
def ia(l:List Str):(aD l).length<=l.length:=by have:=(fq l [] U0).2.2;simpa[aD] using this
def qw(l:List Str)(x:Str):aD (l++[x])=ku (aD l) x:=by unfold aD;rw[List.foldl_append];rfl
section
variable{prog:va}{w:w6}{A:N5}{R:Result->d6->Prop}{I:d8}{fp wr:List d8}{G:Array Z3->Array Z3->Prop}{n:Nat}{P:Nat->dV->Prop}{St:Nat->d6->Prop}
def jx(W:ę prog w A.in1 I fp wr G n P St)(S:d8)(l:S∉fp)(led:Bool)
  (a:List Str) (hn:a.length=n) (u:∀i v,P i v->∃x t,a[i]?=a5 x/\v=.str x t) (c:n+1<D8) :
  ∀(k i:Nat) (s:d6),n - i=k->i<=n->St i s->aU prog w s.heap S led (aD (a.take i)) ->
   (∀s',Moved (S::wr) G s s'->aU prog w s'.heap S led (aD a)->R (.ok (.ret .none)) s') ->
   Rq (eH prog w) A (.builtin "set.update.loop" ⟨[.ref S,.ref I],[]⟩) R s:=by
 have m:S∉wr:=λh=>l (W.sub _ h);have p:∀b∈wr,b∈S::wr:=λb c=>ko _ c;intro k;induction k with
 |zero =>
  intro i s hk y g f j;have z:i=n:=by lia
  subst z;show LF Ts ?_;rw[Ox N8 _];change d3 _ A.in1 (U_ (.ref I) >>= _) _ _ s;show b8 (W.done s _ _ g λs' d=>?_);change d3 _ A.in1 (ret nH) _ _ s';rw[QQ ⋯]at f;show df (j s' (d.mono p) (by
   have⟨L,es,ep,t,ho,rest⟩:=f;show⟨L,es,ep,t,d.heap S _ m ho,rest⟩))
 |succ k B =>
  intro i s hk y g f j;have q:i<n:=by lia
  show LF Ts ?_;rw[Ox N8 _];change d3 _ A.in1 (U_ (.ref I) >>= _) _ _ s;show b8 (W.item i s _ _ q g λv s' C D d=>?_);have⟨x,t,H,rfl⟩:=u i v C;have J:aU prog w s'.heap S led (aD (a.take i)):=by
   have⟨L,es,ep,N,ho,rest⟩:=f;show⟨L,es,ep,N,d.heap S _ m ho,rest⟩
  change d3 _ A.in1 (NJ [uk x t] (setAdd S (.str x t)) >>= _) _ _ s';show b8 (t6 ?_);unfold setAdd;show t6 ?_;show b8 ((sK prog w).pyHash (k:=x) (by rw[gP];simp) ?_);have O:(aD (a.take i)).length+1<D8:=by have:=ia (a.take i);rw[zy]at this;lia
  show lq (s:={s' with toks:=s'.toks+1}) J O λh' r Q=>?_;have T:aU prog w h' S led (aD (a.take (i+1))):=by
   rw[List.take_add_one,H];change aU prog w h' S led (aD (a.take i++[x]));rw[qw];show Q
  show df ⟨Uc N8 _,B (i+1) _ ⋯ q (W.frame _ s' _ _ D (ME _) λb c o e=>?_) T λY Uw Ux=>?_⟩
  .rw[r.2 b (λh:b=S=>l (by rw[<-h];show c))];show e
  .show j Y (İ W.gtrans ((d.mono p).then_heap (ME _) λb o c e=>?_) Uw) Ux;rw[r.2 b (λh:b=S=>c (by rw[h];show mf))];show e
end
section
def m6(a:dV)
  (h:Q₁ (.ref s.heap.objs.size) {s with heap:=s.heap.push {cls:=.type "set",dict:=b6,data:=.set #[] 0 (.fresh 0 0 (!w.params.followText "set-order"))}}) :
  Rq (eH prog w) A (.call (.builtin "set.__new__") ⟨[.type "set",a],[]⟩) (wants Q₁ E) s:=by
 show ň ?_;change d3 _ A.in1 (do Yl "set.__new__" ⟨[.type "set",a],[]⟩;Ř (.builtin "set.__new__" ⟨[.type "set",a],[]⟩)) _ _ s;show b8 (YF (PySem.F.newCall_set_1 a) (df ⟨Uc PySem.F.plain_set_new _,LF PySem.F.entry_set_new ?_⟩));rw[Ox PySem.F.plain_set_new _];unfold Ot.«set.__new__» ć;have b:=Xs;have⟨c,g,d,e,os⟩:=s
 dsimp only
 wp_walk
 show RV (df ?_)
 dsimp only
 simp only[newObj];show b8 (wpAny_alloc (df ?_));show df h
def ib(b:h.get? a=a5 {cls:=.type "set",dict:=b6,data:=.set #[] 0 (.fresh 0 0 led)}):aU prog w h a led [] :=
 ⟨[],#[],0,_,b,rfl,.nil,U0,rfl,by unfold D8;decide,rfl,.inl rfl⟩
end
def sub_tuple_set:OZ (.type "tuple") (.type "set")=pure cc:=by rw[Kv];kernel_rfl
def sub_tuple_frozenset:OZ (.type "tuple") (.type "frozenset")=pure cc:=by rw[Kv];kernel_rfl
section
@[reducible]def aI(w:w6):Bool:=!w.params.followText "set-order"
@[reducible]def sC(led:Bool):Obj:={cls:=.type "set",dict:=b6,data:=.set #[] 0 (.fresh 0 0 led)}
def iG
  (L:s.TypeIs (.ref l) T) (Yn:OZ (.type T) (.type "set")=pure cc) (Yo:OZ (.type T) (.type "frozenset")=pure cc) (KS:(sL T==sL "dict")=cc)
  (N:a.length+1<D8)
  (k:∀(s1:d6) (B:N5) (Q':dV->d6->Prop),B.handled=A.handled->(∀b o,s.heap.get? b=a5 o->s1.heap.get? b=a5 o)->s.heap.objs.size<s1.heap.objs.size ->
   (∀I m n G P St d,ę prog w B.in1 I m n G a.length P St->(∀g g',G g g'->g'=g)->s.heap.objs.size∉m->(∀b∈n,s.heap.objs.size<b)->(∀i v,P i v->∃x t,a[i]?=a5 x/\v=.str x t)->St 0 {s1 with heap:=d}->(∀b o,s1.heap.get? b=a5 o->d.get? b=a5 o)->Q' (.ref I) {s1 with heap:=d})->d3 (eH prog w) B (ZS (.ref l)) Q' E s1)
  (h:∀(h':KX) (f:Nat),aU prog w h' s.heap.objs.size (aI w) (aD a)->(∀b o,b<s.heap.objs.size->s.heap.get? b=a5 o->h'.get? b=a5 o)->Q (.ref s.heap.objs.size) {s with heap:=h',toks:=f}) :
  d3 (eH prog w) A (OS (.type "set") [.ref l]) Q E s:=by
 have⟨c,tl,Yp⟩:=PySem.F.called_set.mro;have Wm:=PySem.F.called_set.made;have Nm:=PySem.F.called_set.sub;show ĕ (ň ?_);change d3 _ _ (callAny (.type "set") _) _ _ _;show df ⟨VS _ (by decide +kernel),LF PySem.F.entry_type_call ?_⟩;rw[Around.under_plain (weight_type_call_type "set" [.ref l] []) rfl];have d:=PySem.F.called_set.notType;have h2:=PySem.F.called_set.canCreate;have O:=PySem.F.typeCall_set_1 (.ref l)
 repeat (any_goals (first|assumption|wp_step))
 show Th (m6 (.ref l) (E:=E) (Q₁:=λobj C=>obj=.ref s.heap.objs.size/\C={s with heap:=s.heap.push (sC (aI w))}) ⟨rfl,rfl⟩) λr C p=>?_;cases r with
 |error e=>show p
 |ok Y =>
  cases Y with
  |ret obj =>
   have⟨rfl,rfl⟩:=p;have D:(s.heap.push (sC (aI w))).get? s.heap.objs.size=a5 (sC (aI w)):=fx _ rfl;have hT:Tc {s with heap:=s.heap.push (sC (aI w))} (.ref s.heap.objs.size) "set":=⟨_,D,rfl⟩
   have ab:=PySem.F.called_set.init.lookup;have ac:=PySem.F.called_set.init.bind (.ref s.heap.objs.size)
   repeat (any_goals (first|assumption|wp_step))
   show Th (Wb (R:=wants (λr H=>r=.none/\∃h' f,H={s with heap:=h',toks:=f} /\
     aU prog w h' s.heap.objs.size (aI w) (aD a) /\
     (∀b o,b<s.heap.objs.size->s.heap.get? b=a5 o->h'.get? b=a5 o)) E) PySem.F.called_set.init.plain PySem.F.entry_set_init (check_set_init_1 hT ?_)) λr₂ H q=>?_
   .have⟨ol,Q4,J⟩:=L;have⟨Yq,Q5,Q6,Pd⟩:=ol;simp only at J;subst J;have Uz:(s.heap.push (sC (aI w))).get? l=a5 {cls:=.type T,dict:=Q5,data:=Q6,slots:=Pd}:=c2 _ Q4;have Wn:Tc {s with heap:=s.heap.push (sC (aI w))} (.ref l) T:=⟨_,Uz,rfl⟩
    unfold Ot.«set.__init__» noKeywords ą;generalize Yr:ZS=PI
    wp_walk
    subst Yr;show k {s with heap:=s.heap.push (sC (aI w))} _ _ rfl (λb o e=>c2 _ e) (by rw[Ms];show Pj _) λI m n G P St d W hG hf Ys Pc J3 hk=>?_;show b8 (Zh ?_);show jx W s.heap.objs.size hf (aI w) a rfl Pc N (a.length - 0) 0 _ ⋯ (ke _) J3 (ib (hk _ _ D)) ?_;intro s' j u;have⟨h',g',d',Yt,TN⟩:=s';have eg:g'=s.gens:=hG _ _ j.gens;have ed:d'=s.drawn:=j.drawn;have eo:TN=s.os:=j.os;subst eg;subst ed;subst eo;change d3 _ _ _ _ _ _;show df ?_;change d3 _ _ (ret nH) _ _ _;show df ⟨rfl,h',Yt,rfl,u,λb o y e=>?_⟩;show j.heap b o (λz=>by
     rcases d7.mp z with z|z
     .rw[z]at y;show uv _ y
     .show absurd (Ys b z) (ĉ y)) (hk _ _ (c2 _ e))
   .cases r₂ with
    |error e=>show q
    |ok Yu =>
     cases Yu with
     |ret r =>
      have⟨rfl,h',f,rfl,u,KD⟩:=q
      repeat (any_goals (first|assumption|wp_step))
      show h _ _ u KD
     |_=>show q.elim
  |_=>show p.elim
end
section
theorem ph:∀{vs:List dV}{ss:List Str},Rx vs ss->∀(i:Nat) (v:dV),vs[i]?=a5 v->∃x t,ss[i]?=a5 x/\v=.str x t
 |_,_,.nil,i,v,h=>by simp at h
 |_,_,.cons x t h,0,v,e=>by simp at e;show⟨x,t,rfl,e.symm⟩
 |_,_,.cons x t h,i+1,v,e=>by rw[TV]at e;rw[TV];show ph h i v e
theorem iH:∀{vs:List dV}{ss:List Str},Rx vs ss->vs.length=ss.length
 |_,_,.nil=>rfl
 |_,_,.cons x t h=>by simp[iH h]
def uH(a:n≠S)(b:n≠l):n∉[S,l]:=by simp[a,b]
def fQ(j:A.handled=b6)(hl:s.heap.IsList l vs.toArray)(f:Rx vs a)(c:a.length+1<D8)
  (h:∀(h':KX) (k:Nat),aU prog w h' s.heap.objs.size (aI w) (aD a)->(∀b o,b<s.heap.objs.size->s.heap.get? b=a5 o->h'.get? b=a5 o)->Q (.ref s.heap.objs.size) {s with heap:=h',toks:=k}) :
  d3 (eH prog w) A (OS (.type "set") [.ref l]) Q E s:=by
 have g:l<s.heap.objs.size:=let ⟨o,ho,_⟩:=hl;ez ho;show iG hl.typeIs PySem.F.sub_list_set PySem.F.sub_list_frozenset (by decide) c (λs1 B Q' m hk d n=>?_) h;have MT:s1.heap.IsList l vs.toArray:=let ⟨o,ho,r⟩:=hl;⟨o,hk _ _ ho,r⟩;show Xn MT ?_;have p:l≠s1.heap.objs.size:=hW (WA g d);have W:=(ŀ (prog:=prog) (w:=w) (A:=B.in1) (by simp[m,j]) s1.heap.objs.size l p vs.toArray).toS;have q:vs.toArray.size=a.length:=by simp[iH f]
 rw[q]at W;show n _ _ _ _ _ _ _ W (λ_ _ e=>e) (uH (hW d) (K2 g)) (λb c=>by rw[hY.mp c];show d) (λi v t=>ph f i v (by simpa using t)) ⟨⟨_,fx _ rfl,rfl,rfl⟩,MT.push _⟩ λb o e=>c2 _ e
def gQ(j:A.handled=b6)(hl:s.heap.IsTuple l vs.toArray)(f:Rx vs a)(c:a.length+1<D8)
  (h:∀(h':KX) (k:Nat),aU prog w h' s.heap.objs.size (aI w) (aD a)->(∀b o,b<s.heap.objs.size->s.heap.get? b=a5 o->h'.get? b=a5 o)->Q (.ref s.heap.objs.size) {s with heap:=h',toks:=k}) :
  d3 (eH prog w) A (OS (.type "set") [.ref l]) Q E s:=by
 have g:l<s.heap.objs.size:=let ⟨o,ho,_⟩:=hl;ez ho;show iG hl.typeIs sub_tuple_set sub_tuple_frozenset (by decide) c (λs1 B Q' m hk d n=>?_) h;have MT:s1.heap.IsTuple l vs.toArray:=let ⟨o,ho,r⟩:=hl;⟨o,hk _ _ ho,r⟩;show QV MT ?_;have p:l≠s1.heap.objs.size:=hW (WA g d);have W:=(Walks.tuple (prog:=prog) (w:=w) (A:=B.in1) (by simp[m,j]) s1.heap.objs.size l p vs.toArray).toS;have q:vs.toArray.size=a.length:=by simp[iH f]
 rw[q]at W;show n _ _ _ _ _ _ _ W (λ_ _ e=>e) (uH (hW d) (K2 g)) (λb c=>by rw[hY.mp c];show d) (λi v t=>ph f i v (by simpa using t)) ⟨⟨_,fx _ rfl,rfl,rfl⟩,let ⟨o,ho,r⟩:=MT;⟨o,c2 _ ho,r⟩⟩ λb o e=>c2 _ e
def pj(a:n≠0)(h:∀i<n,Q i {s with drawn:=s.drawn.bump src}):d3 M A (choose src n) Q E s:=λΓ p b=>by
 change Sem.wp M Γ (.choose src n .pure) _ _ p s;rw[Sem.wp_choose];show⟨a,h _ (Yv _ (Nat.pos_of_ne_zero a))⟩
theorem ic:∀{xs:List α}{i:Nat}{x:α},xs[i]?=a5 x->(x::xs.eraseIdx i).Perm xs
 |[],i,x,h=>by simp at h
 |y::a,0,x,h=>by simp at h;subst h;show .refl _
 |y::a,i+1,x,h=>by
  rw[TV]at h;rw[TZ];show(Ò y x _).trans ((ic h).cons y)
theorem gR:∀(n:Nat) (xs:List α) (s:d6) (Q:List α->d6->Prop),xs.length=n->(∀a d,a.Perm xs->Q a {s with drawn:=d})->d3 M A (drawOrder n xs) Q E s
 |0,xs,s,Q,b,h=>by
  have:xs=[]:=TU.mp b;subst this;show df (h [] s.drawn (.refl _))
 |n+1,[],s,Q,b,h=>by simp at b
 |n+1,y::a,s,Q,b,h=>by
  change d3 M A (choose .order (y::a).length >>= _) Q E s;show b8 (pj (by simp) λi c=>?_);have e:(y::a)[i]?=a5 ((y::a)[i]'c):=kj c;have f:=ic e;generalize (y::a)[i]'c=x at e f;simp only[e];show b8 (gR n _ _ _ (by have:=f.length_eq;simp at this b ⊢;lia) λg d hz=>?_);show df (h (x::g) d ((hz.cons x).trans f))
theorem j3(next:Nat->Nat):∀(fuel k:Nat) (left:List α) (out:Array α),left.length=fuel->(Xz next fuel k left out).toList.Perm (out.toList++left)
 |0,k,left,out,hl=>by
  have:left=[]:=TU.mp hl;subst this;simp[Xz]
 |fuel+1,k,left,out,hl=>by
  unfold Xz;have a:next k % left.length<left.length:=Yv _ ⋯;have e:left[next k % left.length]?=a5 (left[next k % left.length]'a):=kj a;have b:=ic e;generalize left[next k % left.length]'a=x at e b;simp only[e];show(j3 next fuel _ _ _ (by have:=b.length_eq;simp at this;lia)).trans ?_;rw[Ü,ò];show(b.append_left _)
def dS(next:Nat->Nat)(xs:Array α):(X' next xs).toList.Perm xs.toList:=by
 have:=j3 next xs.size 0 xs.toList #[] (by simp);simpa[X'] using this
end
namespace SI
def qx:Manifest.owners.lookup (String.ofList ['r','o','t','a','r','e','t','i','_','t','e','s'].reverse)=a5 Manifest.sig_set_iterator:=by kernel_rfl
def slot_next:Slot "set_iterator" "__next__" "set_iterator.__next__" :=
 .of (owner:="set_iterator") (n:="__next__") (by rw[S9,O4];kernel_rfl) (by decide +kernel) (by decide +kernel) (by decide +kernel)
  (by first|show .inl (by decide +kernel)|show .inr (by decide +kernel)) (by rw[Kv];kernel_rfl)
def entry_next:ā table "set_iterator.__next__"=a5 Ot.«set_iterator.__next__»:=entryFor_of_tree (by kernel_rfl)
def args_next(a:dV):ŗ "set_iterator.__next__" ⟨[a],[]⟩:=by
 unfold ŗ;rw[signature?_of (id:="set_iterator.__next__") (n:=['_','_','t','x','e','n','_','_']) (o:=['r','o','t','a','r','e','t','i','_','t','e','s']) (by kernel_rfl) qx];kernel_rfl
def nI:Slot "set_iterator" "__iter__" "set_iterator.__iter__" :=
 .of (owner:="set_iterator") (n:="__iter__") (by rw[S9,O4];kernel_rfl) (by decide +kernel) (by decide +kernel) (by decide +kernel)
  (by first|show .inl (by decide +kernel)|show .inr (by decide +kernel)) (by rw[Kv];kernel_rfl)
def wB(a:dV):ŗ "set_iterator.__iter__" ⟨[a],[]⟩:=by
 unfold ŗ;rw[signature?_of (id:="set_iterator.__iter__") (n:=['_','_','r','e','t','i','_','_']) (o:=['r','o','t','a','r','e','t','i','_','t','e','s']) (by kernel_rfl) qx];kernel_rfl
def sD:ā table "set_iterator.__iter__"=a5 Ot.«dict_keyiterator.__iter__» :=
 ZT (id':="dict_keyiterator.__iter__") (by kernel_rfl) (by first|rfl|decide +kernel|(unfold String.splitOn;simp +decide [String.splitOnAux])) (by decide +kernel) (by kernel_rfl)
def lr:ā table "set.__iter__"=a5 Ot.«frozenset.__iter__» :=
 ZT (id':="frozenset.__iter__") (by kernel_rfl) rfl (by decide +kernel) (by kernel_rfl)
end SI
section
variable{prog:va}{w:w6}{A:N5}{E:dV->d6->Prop}{s:d6}
abbrev ie(h:KX)(I:d8)(first:dV)(i:Nat)(S:d8)(n ep:Nat):Prop:=∃o,h.get? I=a5 o/\o.cls=.type "set_iterator"/\o.data=.fields #[first,u7 i,.ref S,u7 n,u7 ep]
def ie.typeIs(x:ie s.heap I f i S n ep):s.TypeIs (.ref I) "set_iterator":=let ⟨o,ho,a,_⟩:=x;⟨o,ho,a⟩
def BR(a:ie s.heap I f i S n ep)(h:Q (.ref I) s):d3 (eH prog w) A (ZS (.ref I)) Q E s:=by
 show ĥ a.typeIs SI.nI (K' SI.nI a.typeIs SI.sD ?_ (SI.wB _));change d3 _ _ (ret (.ref I)) _ _ s;show df ⟨_,rfl,"set_iterator",_,a.typeIs,SI.slot_next.lookup,h⟩
def cN(h:Q (M.w.params.followText "set-order") s):d3 M A ė Q E s:=by
 unfold ė;show b8 (RV (df h))
end
end L2
namespace L2
open PySem PySem.Spec PyProof.Rows
section
variable{prog:va}{w:w6}{A:N5}{E:dV->d6->Prop}{s:d6}
@[reducible]def pk(es:Array (Int×dV))(ep:Nat)(t:PU):Obj:={cls:=.type "set",dict:=b6,data:=.set es ep t}
def qy{I:d8}{B:N5}{Q:Option dV->d6->Prop}{c:KX}{k:dV->Sem (Option dV)}(d:B.handled=b6)
  (f:∀h',(∀b o,c.get? b=a5 o->h'.get? b=a5 o)->∀e,Tc {s with heap:=h' } e "StopIteration"->E e {s with heap:=h' }) {Q':Fin->d6->Prop} :
  d3 (eH prog w) B (à (.type "StopIteration") [] >>= λe=>(ZO e:Sem Fin)) Q' E {s with heap:=c}:=by
 show b8 ?_;simp only[à,Œ];show b8 (wk ?_ (by size_fits));show b8 (m:=V_ _ _) (YF (a:=nH) (by first|rfl|(simp only[V_];rfl)) ?_);show wk ?_ (by size_fits);simp only[ZO];show b8 (wpAny_handled ?_);rw[d];show b8 (df (wpAny_throw ?_));show f _ (λb o e=>c2 _ (c2 _ e)) _ ⟨_,fx _ rfl,rfl⟩
def uI{I S:d8}{first:dV}{i ep:Nat}{es:Array (Int×dV)}{t:PU}(d:ie s.heap I first i S es.size ep)(ho:s.heap.get? S=a5 (pk es ep t))(j:t.fits es.size=bD)
  (k:∀(Q':Fin->d6->Prop) (h:dV->d6->Prop) ,(∀v s',Q (a5 v) s'->Q' (.done (.ret v)) s')->(∀e s',s'.TypeIs e "StopIteration"->Q b6 s'->h e s') ->
   d3 (eH prog w) A.in1 (if let .int slot _:=first then(do
     match <-Xt S slot.toNat i ep with
     |some (x,next) =>
      Xu (.ref I) 0 (u7 next)
      Xu (.ref I) 1 (u7 ((i:Int)+1))
      ret x
     |none=>Xu (.ref I) 2 .none;ZO (<-à (.type "StopIteration") []))
    else(do
     let a5 c <-Õ first|unsupported "internal:set_iterator"
     match c[i]? with
     |some (.int f _) =>
      let x <-ß S f.toNat ep
      Xu (.ref I) 1 (u7 ((i:Int)+1))
      ret x
     |some _=>YG "internal:set_iterator"
     |none=>Xu (.ref I) 0 (u7 0);Xu (.ref I) 2 .none;ZO (<-à (.type "StopIteration") []))) Q' h s):d3 (eH prog w) A (U_ (.ref I)) Q E s:=by
 have⟨o,l,n,m⟩:=id d;unfold U_;show b8 (wpAny_attempt (Rf (name:=Su "__next__") d.typeIs SI.slot_next
  (K' SI.slot_next d.typeIs SI.entry_next ?_ (SI.args_next _))))
 unfold Ot.«set_iterator.__next__»;show b8 (YF (a:=(lg I,[])) rfl ?_)
 try dsimp only
 show b8 (wpAny_fieldsOf l m ?_)
 try dsimp only
 show b8 (Ta ho rfl j ?_);rw[Ŧ (by simp)];show mA (k (λg s'=>∃r,g=.done (.ret r)/\Q (a5 r) s') (λe s'=>s'.TypeIs e "StopIteration"/\Q b6 s') (λv s' q=>⟨v,rfl,q⟩) λe s' z q=>⟨z,q⟩) ?_ ?_
 .rintro g s' ⟨r,rfl,q⟩;show⟨r,rfl,df q⟩
 .rintro e s' ⟨z,q⟩;show b8 (PY (T:="StopIteration") (b:=bD) z œ ?_);show df q
end
section
def uJ{I S:d8}{f f':dV}{i n ep:Nat}{h:KX}{o:Obj}(b:h.get? I=a5 o)(c:o.cls=.type "set_iterator")(a:o.data=.fields #[f,u7 i,.ref S,u7 n,u7 ep]):
  ie (h.update I (į (·.setIfInBounds 1 (u7 ((i:Int)+1))))) I f (i+1) S n ep :=
 ⟨_,t7 _ b (UT (N0 a _)),(Wz ..).trans c,by rw[N0 a];simp⟩
def qz{h:KX}(b:h.get? I=a5 o)(c:o.cls=.type "set_iterator")(a:o.data=.fields #[f,u7 i,.ref S,u7 n,u7 ep]):
  ∃o',(h.update I (į (·.setIfInBounds 0 f'))).get? I=a5 o'/\o'.cls=.type "set_iterator"/\o'.data=.fields #[f',u7 i,.ref S,u7 n,u7 ep] :=
 ⟨_,t7 _ b (UT (N0 a _)),(Wz ..).trans c,by rw[N0 a];simp⟩
def yl{I S:d8}{slot i ep:Nat}{es:Array (Int×dV)}{t:PU}{Q:Option dV->d6->Prop}(a:ie s.heap I (u7 slot) i S es.size ep)(ho:s.heap.get? S=a5 (pk es ep t))(j:t.fits es.size=bD)(l:A.handled=b6)
  {r:Option (dV×Nat)} (m:∀(B:N5) (f:dV->d6->Prop) (Q':Option (dV×Nat)->d6->Prop),Q' r s->d3 (eH prog w) B (Xt S slot i ep) Q' f s)
  (n:∀x nx,r=a5 (x,nx)->∀h',ie h' I (u7 nx) (i+1) S es.size ep->nc I s.heap h'->Q (a5 x) {s with heap:=h' })
  (q:r=b6->∀h',(∀b o,b≠I->s.heap.get? b=a5 o->h'.get? b=a5 o)->Q b6 {s with heap:=h' }):d3 (eH prog w) A (U_ (.ref I)) Q E s:=by
 show uI a ho j λQ' f u v=>?_;have⟨o,c,y,d⟩:=id a;change d3 _ _ (Xt S slot i ep >>= _) _ _ s;show b8 (m _ _ _ ?_);cases r with
 |some p =>
  have⟨x,nx⟩:=p
  dsimp only
  show b8 (NQ c d (by simp) ?_);have⟨o',g,z,h⟩:=qz (f':=u7 nx) c y d;show b8 (NQ (s:={s with heap:=_}) g h (by simp) ?_);show df (u _ _ (n x nx rfl _ (uJ (f':=u7 nx) g z h) ((x2 ..).trans (x2 ..))))
 |none =>
  dsimp only
  show b8 (NQ c d (by simp) ?_);show qy (I:=I) (k:=λ_=>pure b6) (Q:=λ_ _=>True) (s:=s) (by simpa using l) λh' hk e C=>v e _ C (q rfl h' λb D G H=>hk b D ?_);rw[Pn _ _ _ _ G];show H
def E8{I S T:d8}{i ep:Nat}{es:Array (Int×dV)}{t:PU}{a:List Nat}{Q:Option dV->d6->Prop}(c:ie s.heap I (.ref T) i S es.size ep)(ho:s.heap.get? S=a5 (pk es ep t))(m:t.fits es.size=bD)(r:A.handled=b6)
  (u:s.heap.IsTuple T ((a.map λ(j:Nat)=>u7 j).toArray))
  (v:∀(j:Nat) (e:Int×dV),a[i]?=a5 j->es[j]?=a5 e->∀h',ie h' I (.ref T) (i+1) S es.size ep->nc I s.heap h'->Q (a5 e.2) {s with heap:=h' })
  (x:∀j∈a,j<es.size)
  (y:a[i]?=b6->∀h',(∀b o,b≠I->s.heap.get? b=a5 o->h'.get? b=a5 o)->Q b6 {s with heap:=h' }):d3 (eH prog w) A (U_ (.ref I)) Q E s:=by
 show uI c ho m λQ' Y z B=>?_;have⟨o,d,n,f⟩:=id c;have⟨oT,C,D,nT,G⟩:=u;change d3 _ _ (Õ (.ref T) >>= _) _ _ s;show b8 (V4 C G ?_);cases e:a[i]? with
 |some j =>
  have g:(a.map λ(j:Nat)=>u7 j).toArray[i]?=a5 (u7 j):=by simp[e]
  simp only[g];have h:j<es.size:=x j (l' e);have l:es[j]?=a5 (es[j]'h):=by simp[h]
  change d3 _ _ (ß S (j:Int).toNat ep >>= _) _ _ s;unfold ß;rw[Ra];show b8 (b8 (mh ho rfl m ?_))
  dsimp only
  rw[Ŧ (by simp)];generalize es[j]'h=p at l;simp only[l];show df ?_;show b8 (NQ d f (by simp) ?_);show df (z _ _ (v j p e l _ (uJ (f':=.ref T) d n f) (x2 ..)))
 |none =>
  have g:(a.map λ(j:Nat)=>u7 j).toArray[i]?=b6:=by simp at e ⊢;show e
  simp only[g];show b8 (NQ d f (by simp) ?_);have⟨o',H,e2,J⟩:=qz (f':=u7 0) d n f;show b8 (NQ (s:={s with heap:=_}) H J (by simp) ?_);show qy (I:=I) (k:=λ_=>pure b6) (Q:=λ_ _=>True) (s:=s) (by simpa using r) λh' hk ex L=>B ex _ L (y e h' λb N q O=>hk b N ?_);rw[Pn _ _ _ _ q,Pn _ _ _ _ q];show O
end
section
def ie.at(x:ie h I f i S n ep)(e:∀o,h.get? I=a5 o->h'.get? I=a5 o):ie h' I f i S n ep:=let ⟨o,ho,r⟩:=x;⟨o,e _ ho,r⟩
def lu(r:A.handled=b6)(n:S≠I)(u:t.fits es.size=bD)(T:d8)(p:T≠I)(c:List dV)(k:c.length=es.size)
  (first:Nat->dV) (a:KX->Prop) (l:∀h h',a h->(∀o,h.get? T=a5 o->h'.get? T=a5 o)->a h')
  (m:∀(s:d6) (i:Nat) (E:dV->d6->Prop) (Q:Option dV->d6->Prop),i<=es.size->a s.heap->ie s.heap I (first i) i S es.size ep->s.heap.get? S=a5 (pk es ep t) ->
   (∀x,c[i]?=a5 x->∀h',ie h' I (first (i+1)) (i+1) S es.size ep->nc I s.heap h'->Q (a5 x) {s with heap:=h' }) ->
   (c[i]?=b6->∀h',(∀b o,b≠I->s.heap.get? b=a5 o->h'.get? b=a5 o)->Q b6 {s with heap:=h' })->d3 (eH prog w) A (U_ (.ref I)) Q E s) :
  Walks prog w A I [I,S,T] [I] es.size (λi v=>c[i]?=a5 v) (λi h=>i<=es.size/\ie h I (first i) i S es.size ep/\h.get? S=a5 (pk es ep t)/\a h) where
 sub:=λb d=>by rw[hY.mp d];simp
 frame:=λi h h' x hk=>⟨x.1,x.2.1.at λo e=>hk I (by simp) o e,hk S (by simp) _ x.2.2.1,l h h' x.2.2.2 λo e=>hk T (by simp) o e⟩
 item:=λi s Q E q x f=>by
  show m s i E Q x.1 x.2.2.2 x.2.1 x.2.2.1 (λv g h' j hs=>?_) λz=>absurd z (by simp;lia);show f v h' s.toks g ⟨q,j,?_,l _ h' x.2.2.2 λo e=>?_⟩ λb o d e=>?_
  .rw[hs.2 S n];show x.2.2.1
  .rw[hs.2 T p];show e
  .rw[hs.2 b λz=>d (by simp[z])];show e
 done:=λs Q E x f=>by
  show m s es.size E Q x.1 x.2.2.2 x.2.1 x.2.2.1 (λv g=>absurd g (by rw[Rn ⋯];simp)) λ_ h' hk=>f h' s.toks λb o d e=>hk b o (λz=>d (by simp[z])) e
 self:=λi s Q E x f=>BR x.2.1 f
def pq(ho:s.heap.get? S=a5 (pk es ep t))(a:t.fits es.size=bD)(h:Q (!w.params.followText "set-order"&&(!t.plain&&cK (es.size>1))) s):d3 (eH prog w) A (setDrawn S) Q E s:=by
 unfold setDrawn;show b8 (mh ho rfl a ?_)
 dsimp only
 show b8 (cN (df h))
def pv(a:w.params.followText "set-order"=bD)(ho:s.heap.get? S=a5 (pk es ep t))(b:t.fits es.size=bD)
  (h:Q ((X' (w.params.setOrder S ep) es)[i]?.map λe=>(e.2,0)) s):d3 (eH prog w) A (Xt S 0 i ep) Q E s:=by
 unfold Xt;show b8 (mh ho rfl b ?_)
 dsimp only
 show b8 (cN ?_);change d3 _ _ (if (w.params.followText "set-order")=bD then _ else _) _ _ s;rw[ť a];rw[Ŧ (by simp)];unfold setWalk;show b8 (b8 (mh ho rfl b ?_))
 dsimp only
 show b8 (cN ?_);change d3 _ _ (if (w.params.followText "set-order")=bD then _ else _) _ _ s;rw[ť a];show b8 (RV (df ?_));show df h
theorem qA(hw:w.params.followText "set-order"=cc)(ho:s.heap.get? S=a5 (pk es ep t))(hf:t.fits es.size=bD)(hl:t.led=bD)(h1:es.size<=1)
    (h:Q (match es[MF t.place slot]?,t.place[MF t.place slot]? with|some (_,x),a5 j=>a5 (x,j+1)|_,_=>b6) s):d3 (eH prog w) A (Xt S slot i ep) Q E s:=by
  unfold Xt;refine b8 (mh ho rfl hf ?_)
  dsimp only
  refine b8 (cN ?_);show d3 _ _ (if (w.params.followText "set-order")=bD then _ else _) _ _ s;rw[Ŧ (by rw[hw];simp)];show d3 _ _ (if (!t.plain&&cK (es.size>1))=bD then _ else _) _ _ s
  rw [if_neg (by have : decide (es.size > 1) = false := decide_eq_false (by lia)
                 rw[this];simp)]
  show d3 _ _ ((if (!t.led&&!es.isEmpty)=bD then _ else _) >>= _) _ _ s;rw[Ŧ (by rw[hl];simp)];exact b8 (df (df h))
def qB(es:Array (Int×dV))(a:Array Nat)(i:Nat)(c:es.size<=1)(d:a.size=es.size)(b:i<=es.size):
  (match es[MF a (if i=0 then 0 else(a[0]?).getD 0+1)]?,a[MF a (if i=0 then 0 else(a[0]?).getD 0+1)]? with|some (_,x),a5 j=>a5 (x,j+1)|_,_=>b6)=es[i]?.map λe=>(e.2,(a[0]?).getD 0+1):=by
 have⟨es⟩:=es;have⟨a⟩:=a
 match es,a,c,d,b with
 |[],[],_,_,b=>simp
 |[e],[p],_,_,b =>
  match i,b with
  |0,_ =>
   have:MF #[p] 0=0:=by simp[MF,XH]
   simp[this]
  |1,_ =>
   have:MF #[p] (p+1)=1:=by simp[MF,XH]
   simp[this]
  |n+2,h=>simp at h
 |[],_::_,_,h,_=>simp at h
 |[_],[],_,h,_=>simp at h
 |[_],_::_::_,_,h,_=>simp at h
 |_::_::_,_,h,_,_=>simp at h
def ym(G:B.handled=b6)(hS:aU prog w s.heap S (aI w) D)
  (h:∀(I:d8) (fp:List d8) (n:Nat) (P:Nat->dV->Prop) (St:Nat->KX->Prop) (c:List Str) (h':KX) (d':Drawn),Walks prog w B I fp [I] n P St->c.Perm D->n=c.length->(∀i v,P i v->∃x Y,c[i]?=a5 x/\v=.str x Y)->s.heap.objs.size<=I->(∀b∈fp,b=S\/s.heap.objs.size<=b)->St 0 h' ->
   (∀b o,s.heap.get? b=a5 o->h'.get? b=a5 o)->Q (.ref I) {s with heap:=h',drawn:=d' }):d3 (eH prog w) A (ZS (.ref S)) Q E s:=by
 have⟨L,es,ep,t,ho,KJ,JY,Kc,a,d,KO,KC⟩:=hS;have Wo:s.TypeIs (.ref S) "set":=⟨_,ho,rfl⟩
 have Np:S<s.heap.objs.size:=ez ho;show ĥ Wo PySem.F.slot_set_iter (K' PySem.F.slot_set_iter Wo SI.lr ?_ (PySem.F.args_set_iter_1 _));unfold Ot.«frozenset.__iter__» Ć slotArgs;simp only[List.isEmpty_nil,Ģ,Ma,↓reduceIte,bind_assoc,Uv,bne_self_eq_false];unfold Vo Rj;show b8 (df ?_)
 try dsimp only
 show b8 (df ?_);show b8 (b8 (Ta ho rfl a (df ?_)));have Yx:D.length=es.size:=by rw[<-JY.length_eq,c4,<-hU,KJ,c4]
 have f:∀(l:List (Int×dV)),l.Perm es.toList->∃c:List Str,c.Perm D/\c.length=es.size/\∀(i:Nat) (v:dV),(l.map (·.2))[i]?=a5 v->∃(x:Str) (Y:Tok),c[i]?=a5 x/\v=uk x Y:=by
  intro l hl;rw[KJ]at hl;have⟨L',e',p'⟩:=dm hl;show⟨L'.map (·.1),(p'.map _).trans JY,by rw[((p'.map _).trans JY).length_eq,Yx],λi v H=>?_⟩;subst e';rw[i6,i2]at H;rw[i2];cases q:L'[i]? with
  |none=>rw[q]at H;simp at H
  |some p=>rw[q]at H;simp at H;show⟨p.1,p.2,rfl,H.symm⟩
 show b8 (pq ho a ?_);cases hw:w.params.followText "set-order" with
 |true =>
  simp only[Ģ,ē,Ma,↓reduceIte];show b8 (df ?_);show b8 (b8 (mh ho rfl a (df ?_)));show b8 (wk ?_);have u:S≠s.heap.objs.size:=hW Np;have⟨c,J,N,O⟩:=f (X' (w.params.setOrder S ep) es).toList (dS _ _);have W:=lu (prog:=prog) (w:=w) (A:=B) (I:=s.heap.objs.size) (S:=S) (es:=es) (ep:=ep) (t:=t) G u a S u ((X' (w.params.setOrder S ep) es).toList.map (·.2)) (by rw[c4,(dS _ _).length_eq,hU]) (λ_=>u7 0) (λ_=>True) (λ_ _ _ _=>trivial)
   (λs i E Q _ _ g y k1 k2=>yl (slot:=0) g y a G (λB E' Q' q=>pv hw y a q) (λx nx e h' T hs=>by
    rw[et]at e;have⟨p,C,e2⟩:=e;cases e2;show k1 _ (by rw[i2,r6,C];rfl) h' T hs) (λe=>k2 (by rw[i2,r6,TQ];rwa [TQ]at e)))
  show df ⟨_,rfl,"set_iterator",_,⟨_,fx _ rfl,rfl⟩,SI.slot_next.lookup,?_⟩;show h _ _ _ _ _ c _ s.drawn W J N.symm O (hV _) (λb d=>by
   simp only[d7,vl,or_false]at d;rcases d with rfl|rfl|rfl
   .show .inr (hV _)
   .show .inl rfl
   .show .inl rfl) ⟨ke _,⟨_,fx _ rfl,rfl,rfl⟩,c2 _ ho,trivial⟩ λb o e=>c2 _ e
 |false =>
  by_cases hsz:es.size>1
  .have K3:t.plain=cc:=by
    rcases KC with z|z
    .lia
    .show z
   have C:(!cc&&(!t.plain&&cK (es.size>1)))=bD:=by rw[K3,Ũ hsz];rfl
   rw[C];simp only[↓reduceIte];show b8 (gR _ _ _ _ vu λm d' hp=>?_);simp only[Œ];have N_:∀j∈m,j<es.size:=λj hj=>by have:=hp.mem_iff.mp hj;simpa using this
   have Q9:m.length=es.size:=by rw[hp.length_eq];simp
   show b8 (wk ?_ (by
    change(m.map λ(j:Nat)=>u7 j).toArray.size<=_;have:es.size<4096:=d;simp only[gj,c4,Q9];have:(4096:Nat)<=cL:=by decide
    lia))
   have MW:(s.heap.push {cls:=.type "tuple",data:=.seq (m.map λ(j:Nat)=>u7 j).toArray}).get? S=a5 (pk es ep t):=c2 _ ho;show b8 (b8 (mh (s:={s with heap:=_,drawn:=d' }) MW rfl a (df ?_)));show b8 (wk ?_);have Yy:s.heap.objs.size≠(s.heap.push {cls:=.type "tuple",data:=.seq (m.map λ(j:Nat)=>u7 j).toArray}).objs.size:=by rw[Ms];show hW (Pj _)
   have u:S≠(s.heap.push {cls:=.type "tuple",data:=.seq (m.map λ(j:Nat)=>u7 j).toArray}).objs.size:=by rw[Ms];show hW (Tv Np)
   have Pf:(m.map λj=>(es[j]?).getD (0,nH)).Perm es.toList:=by
    show(hp.map _).trans ?_;have:(gs es.size).map (λj=>(es[j]?).getD (0,nH))=es.toList:=by
     apply M7
     .simp
     .intro i h1 h2;simp at h1 ⊢;simp[h1]
    rw[this]
   have⟨c,J,N,O⟩:=f _ Pf;have W:=lu (prog:=prog) (w:=w) (A:=B) (I:=(s.heap.push {cls:=.type "tuple",data:=.seq (m.map λ(j:Nat)=>u7 j).toArray}).objs.size) (S:=S) (es:=es) (ep:=ep) (t:=t) G u a s.heap.objs.size Yy ((m.map λj=>(es[j]?).getD (0,nH)).map (·.2)) (by simp[Q9]) (λ_=>.ref s.heap.objs.size) (λh=>h.IsTuple s.heap.objs.size (m.map λ(j:Nat)=>u7 j).toArray) (λh h' ⟨o,ho,r⟩ k=>⟨o,k _ ho,r⟩)
    (λs' i E Q _ MM g y k1 k2=>E8 g y a G MM (λj e ej ee h' T hs=>k1 _ (by rw[i2,i2,ej];simp[ee]) h' T hs) N_ (λe=>k2 (by rw[i2,i2,e];rfl)))
   show df ⟨_,rfl,"set_iterator",_,⟨_,fx _ rfl,rfl⟩,SI.slot_next.lookup,?_⟩;show h _ _ _ _ _ c _ d' W J N.symm O (by rw[Ms];show ME _) (λb d=>?_) ⟨ke _,⟨_,fx _ rfl,rfl,rfl⟩,c2 _ MW,⟨_,c2 _ (fx _ rfl),rfl,_,rfl⟩⟩ λb o e=>c2 _ (c2 _ e);rw[Ms]at d;simp only[d7,vl,or_false]at d;rcases d with rfl|rfl|rfl
   .show .inr (ME _)
   .show .inl rfl
   .show .inr (hV _)
  .have C:(!cc&&(!t.plain&&cK (es.size>1)))=cc:=by rw[ŧ hsz];simp
   rw[C];simp only[Ma,↓reduceIte];show b8 (df ?_);show b8 (b8 (mh ho rfl a (df ?_)));show b8 (wk ?_);have u:S≠s.heap.objs.size:=hW Np;have Yz:t.led=bD:=by rw[KO];change(!w.params.followText "set-order")=bD;rw[hw];rfl
   have⟨c,J,N,O⟩:=f es.toList (.refl _);have Mj:t.place.size=es.size:=by
    unfold SD at a;simp only[cb,beq_iff_eq]at a;show a.1
   have W:=lu (prog:=prog) (w:=w) (A:=B) (I:=s.heap.objs.size) (S:=S) (es:=es) (ep:=ep) (t:=t) G u a S u (es.toList.map (·.2)) (by simp) (λi=>u7 ((if i=0 then 0 else(t.place[0]?).getD 0+1:Nat):Nat)) (λ_=>True) (λ_ _ _ _=>trivial)
    (λs' i E Q hi _ g y k1 k2=>yl (slot:=if i=0 then 0 else(t.place[0]?).getD 0+1) g y a G (λB E' Q' q=>qA hw y a Yz ⋯ q) (λx nx e h' T hs=>by
     rw[qB es t.place i ⋯ Mj hi,et]at e;have⟨p,C,e2⟩:=e;cases e2;show k1 _ (by rw[i2,r6,C];rfl) h' ?_ hs;rw[Ŧ (Nat.succ_ne_zero i)];show T) (λe=>by
     rw[qB es t.place i ⋯ Mj hi,TQ]at e;show k2 (by rw[i2,r6,e];rfl)))
   show df ⟨_,rfl,"set_iterator",_,⟨_,fx _ rfl,rfl⟩,SI.slot_next.lookup,?_⟩;show h _ _ _ _ _ c _ s.drawn W J N.symm O (hV _) (λb d=>by
    simp only[d7,vl,or_false]at d;rcases d with rfl|rfl|rfl
    .show .inr (hV _)
    .show .inl rfl
    .show .inl rfl) ⟨ke _,⟨_,fx _ rfl,rfl,rfl⟩,c2 _ ho,trivial⟩ λb o e=>c2 _ e
end
def qC:RY (.type "set") "__len__"=pure (a5 (.builtin "set.__len__")):=by rw[S9,O4];kernel_rfl
section
theorem lx:∀{vs:List dV}{a:List Str},vs.length=a.length->(∀(i:Nat) (v:dV),vs[i]?=a5 v->∃x t,a[i]?=a5 x/\v=.str x t)->Rx vs a
 |[],[],_,_=>.nil
 |[],_::_,h,_=>by simp at h
 |_::_,[],h,_=>by simp at h
 |v::vs,y::a,h,k=>by
  have⟨x,t,b,c⟩:=k 0 v rfl;cases b;subst c;show .cons y t (lx (by simpa using h) λi w d=>k (i+1) w d)
def qD(J:A.handled=b6)(N:aU prog w s.heap S (aI w) D)(O:D.length<=cL)
  (T:∀(vs:List dV) (c:List Str) (h':KX) (d':Drawn) (h:Nat),c.Perm D->Rx vs c->s.heap.objs.size<=h'.objs.size->s.toks<=h->(∀b o,s.heap.get? b=a5 o->h'.get? b=a5 o)->Q vs {s with heap:=h',drawn:=d',toks:=h}) :
  d3 (eH prog w) A (á (.ref S)) Q E s:=by
 have⟨L,es,ep,t,ho,rest⟩:=id N;have Y:S<s.heap.objs.size:=ez ho;unfold á;show b8 (Zh (LF PySem.F.entry_proto_collect ?_));rw[Ox PySem.F.plain_proto_collect _];change d3 _ A.in1 (Ī [] >>= λl=>Ř (.builtin "list.__iadd__" ⟨[l,.ref S],[]⟩)) _ _ s;show b8 (wk ?_);show df ⟨Uc PySem.F.plain_list_iadd _,LF PySem.F.entry_list_iadd ?_⟩;rw[Ox PySem.F.plain_list_iadd _];have f:(s.heap.push {cls:=.type "list",data:=.seq ([]:List dV).toArray}).get? S=a5 {cls:=.type "set",dict:=b6,data:=.set es ep t}:=c2 _ ho;have hT:Tc {s with heap:=s.heap.push {cls:=.type "list",data:=.seq ([]:List dV).toArray}} (.ref S) "set":=⟨_,f,rfl⟩
 change d3 _ A.in1 (tv (.ref s.heap.objs.size) (.ref S) (.ref s.heap.objs.size)) _ _ _;unfold tv;show b8 (W_ hT ?_);have j:s.heap.objs.size≠S:=K2 Y;have h1:Ou (.ref s.heap.objs.size) (.ref S)=cc:=by simp[Ou,j]
 have h2:(sL "set"==sL "list")=cc:=by decide
 have h3:(sL "set"==sL "tuple")=cc:=by decide
 simp only[h1,h2,h3,YY,Ma,if_false];show b8 (ym (B:=A.in1) (by simpa using J) ⟨L,es,ep,t,f,rest⟩ ?_);intro I fp n P St c h' d' W k m hP p UA J3 hk;have g:Tc {s with heap:=h',drawn:=d' } (.ref S) "set":=⟨_,hk _ _ f,rfl⟩
 show b8 (t6 ?_);unfold VN;show b8 (Vr g qC ?_);have LQ:splitId "set.__len__"=a5 ("set","__len__"):=by decide +kernel
 dsimp only
 rw[LQ]
 dsimp only
 show b8 (PY g Xs ?_);rw[Ŧ (by decide)];rw[ť (by decide +kernel)];show b8 (W_ g ?_);show df ?_;rw[ť (by decide +kernel)];have q:s.heap.objs.size∉fp:=λa=>by
  rcases UA _ a with z|z
  .show j z
  .rw[Ms]at z;show absurd z (Nat.not_succ_le_self _)
 have r:h'.get? s.heap.objs.size=a5 {cls:=.type "list",data:=.seq ([]:List dV).toArray}:=hk _ _ (fx _ rfl);show b8 (PL ?_);show b8 ?_;change d3 _ A.in1 (ļ s.heap.objs.size (·.push .none) >>= λ_=>ļ s.heap.objs.size (·.pop)) _ _ _;show b8 (SX r rfl ?_);have u:=t7 (ri (·.push nH)) r rfl;show SX u rfl ?_;have YA:=t7 (ri (·.pop)) u rfl;have x:∀b o,b≠s.heap.objs.size->h'.get? b=a5 o->((h'.update s.heap.objs.size (ri (·.push nH))).update s.heap.objs.size (ri (·.pop))).get? b=a5 o :=
  λb o d e=>(NM _ _ (nC d)).trans ((NM _ _ (nC d)).trans e)
 show df ⟨Uc PySem.F.plain_extend_loop _,Ă W.toS (by rw[m,k.length_eq];show O) _ q _ n 0 _ _ _ rfl (ke _) (W.frame 0 h' _ J3 λb d o e=>x b o (λz=>q (z▸d)) e) YA (Č P) λs' KP c' a y C=>?_⟩;change d3 _ A (load s.heap.objs.size >>= _) _ _ s';show b8 (Ĕ y ?_);have⟨Ss,g2,G,YB,YC⟩:=s';have eg:g2=s.gens:=a.gens;have ed:G=d':=a.drawn;have eo:YC=s.os:=a.os;subst eg;subst ed;subst eo;show df (T _ c Ss G YB k (lx (by rw[hU,C.1,m]) λi v hv=>hP i v (C.2 i v (by rwa [r6]at hv))) (Q8 (ez y)) a.toks λb o e=>?_);have H:b≠s.heap.objs.size:=λz=>by rw[z]at e;show absurd (ez e) (uv _)
 show a.heap b o (λz=>?_) (x b o H (hk _ _ (c2 _ e)));rcases d7.mp z with z|z
 .show H z
 .rw[hY.mp z]at e;have:=ez e;rw[Ms]at p;show absurd (i5 this (vr (ME _) p)) (uv _)
end
section
def Inv.drawn(I:Inv X pins σ H s)(d:Drawn):Inv X pins σ H {s with drawn:=d}:=⟨I.ok,I.os,I.bare,I.base,I.loc,I.cell,I.free,I.Ki,I.pin,I.JV,I.len⟩
def pw(j:X.calm=bD)(I:Inv X pins σ H s)(hq:Ko X.K H p (c.map V.str)\/KA X.K H p (c.map V.str))(g:c.length+1<D8)
  (h:∀(S:d8) (h':KX) (a:Nat),aU X.prog X.w h' S (aI X.w) (aD c)->Inv X pins σ H {s with heap:=h',toks:=a}->Q (.ref S) {s with heap:=h',toks:=a}) :
  d3 (eH X.prog X.w) X.A (OS (.type "set") [.ref p]) Q X.xe s:=by
 have i:X.A.handled=b6:=I.ok.hd j;rcases hq with hq|hq
 .have⟨l,rv,d,hz⟩:=I.list hq;show fQ i d.isList (cM rv) g λh' a f k=>h _ h' a f (I.kept λb o e=>k b o (ez e) e)
 .have⟨l,rv,d,hz⟩:=I.tuple hq;show gQ i d (cM rv) g λh' a f k=>h _ h' a f (I.kept λb o e=>k b o (ez e) e)
def gS(h:X.calm=bD)(I:Inv X pins σ H s)(i:aU X.prog X.w s.heap S (aI X.w) D)(c:D.length<64)
  (q:∀p,H p=b6->Q (.ref p) (upd H p (.lst ((aB D).map V.str)))):d3 (eH X.prog X.w) X.A (OS (.builtin "sorted") [.ref S]) (EP X pins σ Q) X.xe s:=by
 have j:X.A.handled=b6:=I.ok.hd h;have hl:D.length<=cL:=Q8 (i5 c (by decide));show fm (qD (A:=X.A.in1) (by simpa using j) i hl λvs k h' d' a d f hsz n hk=>⟨k,f,by rw[iH f,d.length_eq];show c,λr l e k2 b s2=>?_⟩);rw[fP d]at s2;have m:Inv X pins σ H {s with heap:=h',toks:=a}:=I.kept (t':=a) hk;have g:Inv X pins σ H {s with heap:=h',drawn:=d',toks:=a}:=m.drawn d';show⟨.ref h'.objs.size,_,g.laid (t':=a) (o:=.lst ((aB D).map V.str)) k2 (hV _) ⟨by rw[c4,bO];show hl,l,e,dM s2,b⟩,rfl,q _ (g.JV.fresh (hV _))⟩
def sE(I:Inv X pins σ H s)(b:aU X.prog X.w s.heap S (aI X.w) D)
  (q:Q (.int D.length) H):d3 (eH X.prog X.w) X.A (OS (.builtin "len") [.ref S]) (EP X pins σ Q) X.xe s:=by
 have⟨L,es,ep,t,ho,c,d,i,g,h,j,k⟩:=b;have a:es.size=D.length:=by rw[<-hU,c,c4,<-c4 (f:=Đ) (as:=L),d.length_eq]
 have l:es.size<4096:=h;show call_len_set ho ⟨rfl,rfl,rfl⟩ rfl g ⋯ ?_;show⟨.int es.size,_,I.kept (t':=s.toks+1+1) (λ_ _ e=>e),⟨_,rfl⟩,by rw[a];show q⟩
end
end L2
namespace L2
open PySem
abbrev dU(mask:Nat):Nat->Nat×Nat->Nat×Nat
 |0,q=>q
 |t+1,q=>dU mask t (ä mask q.1 q.2)
theorem nJ(mask:Nat):∀(a b:Nat) (q:Nat×Nat),dU mask (a+b) q=dU mask b (dU mask a q)
 |0,b,q=>by rw[Q7];rfl
 |a+1,b,q=>by rw[show a+1+b=(a+b)+1 by lia];show nJ mask a b _
theorem nK(mask:Nat):∀(t:Nat) (q:Nat×Nat),(dU mask t q).2=q.2 / 32 ^ t
 |0,q=>by simp[dU]
 |t+1,q=>by
  change(dU mask t (ä mask q.1 q.2)).2=_;rw[nK mask t];change q.2 / 32 / 32 ^ t=_;rw[Nat.div_div_eq_div_mul,Nat.pow_succ,Nat.mul_comm]
theorem qE(mask:Nat):∀(t:Nat) (q:Nat×Nat),q.1<mask+1->(dU mask t q).1<mask+1
 |0,q,h=>h
 |t+1,q,h=>qE mask t _ (Yv _ (À _))
abbrev Nr(m:Nat):Nat->Nat->Nat
 |0,i=>i
 |t+1,i=>Nr m t ((i * 5+1) % m)
theorem nL(mask:Nat):∀(t i:Nat),dU mask t (i,0)=(Nr (mask+1) t i,0)
 |0,i=>rfl
 |t+1,i=>by
  change dU mask t ((i * 5+1+0 / 32) % (mask+1),0 / 32)=(Nr (mask+1) t ((i * 5+1) % (mask+1)),0)
  rw[Nat.zero_div,ń];show nL mask t _
theorem kM(m:Nat):∀(a b i:Nat),Nr m (a+b) i=Nr m b (Nr m a i)
 |0,b,i=>by rw[Q7];rfl
 |a+1,b,i=>by rw[show a+1+b=(a+b)+1 by lia];show kM m a b _
abbrev wC(m:Nat):Nat->Nat->List Nat
 |0,_=>[]
 |t+1,i=>i::wC m t ((i * 5+1) % m)
theorem uK(m:Nat):∀(n i t:Nat),t<n->(wC m n i)[t]?=a5 (Nr m t i)
 |0,_,_,h=>by lia
 |n+1,i,0,_=>rfl
 |n+1,i,t+1,h=>by
  change(wC m n ((i * 5+1) % m))[t]?=_;show uK m n _ t ⋯
theorem qF(m:Nat):∀(n i:Nat),(wC m n i).length=n
 |0,_=>rfl
 |n+1,i=>by change(wC m n _).length+1=_;rw[qF m n]
abbrev Full(m:Nat):Bool:=(gs m).all (λj=>(wC m m 0).contains j)&&(Nr m m 0==0)
def DQ:Full 8=bD:=by decide +kernel
def yn:Full 16=bD:=by decide +kernel
def yo:Full 32=bD:=by decide +kernel
def yp:Full 64=bD:=by decide +kernel
def uL:Full 128=bD:=by decide +kernel
def wD(h:Full m=bD)(l:i<m)(n:j<m):∃t,t<m/\Nr m t i=j:=by
 unfold Full at h;rw[cb,i8]at h;have⟨o,d⟩:=h;have d:Nr m m 0=0:=by simpa using d
 have get:∀k,k<m->∃a,a<m/\Nr m a 0=k:=λk hk=>by
  have:=o k (u5.mpr hk);rw[List.contains_iff_mem]at this;have⟨a,c⟩:=UC.mp this;have e:a<m:=by have:=(dt.mp c).1;rw[qF]at this;show this
  rw[uK m m 0 a e]at c;show⟨a,e,by simpa using c⟩
 have⟨a,c,f⟩:=get i l;have⟨b,p,g⟩:=get j n;by_cases q:a<=b
 .show⟨b - a,⋯,by rw[<-f,<-kM,show a+(b - a)=b by lia,g]⟩
 .show⟨m - a+b,⋯,?_⟩;rw[<-f,<-kM,show a+(m - a+b)=m+b by lia,kM,d,g]
theorem nM:∀(f i p:Nat),u6 mask owner f i p=b6->∀t,t<f->(owner.getD (dU mask t (i,p)).1 (a5 0)).isNone=cc
 |0,_,_,_,t,h=>by lia
 |f+1,i,p,h,t,b=>by
  unfold u6 at h;cases a:(gs (Ws mask i+1 - i)).find? (λk=>(owner.getD (i+k) (a5 0)).isNone) with
  |some k=>rw[a]at h;cases h
  |none =>
   rw[a]at h;cases t with
   |zero =>
    have:=List.find?_eq_none.mp a 0 (u5.mpr (by unfold Ws;split<;>lia));rw[ń]at this;change(owner.getD i (a5 0)).isNone=cc;cases e:(owner.getD i (a5 0)).isNone with
    |false=>rfl
    |true=>show absurd e this
   |succ t=>show nM f _ _ h t ⋯
theorem nN:∀(f i p j:Nat),u6 mask owner f i p=a5 j->owner[j]?=a5 b6
 |0,_,_,_,h=>by cases h
 |f+1,i,p,j,h=>by
  unfold u6 at h;cases b:(gs (Ws mask i+1 - i)).find? (λk=>(owner.getD (i+k) (a5 0)).isNone) with
  |some k =>
   rw[b]at h;cases h;have a:=List.find?_some b;have c:i+k<owner.size:=by
    show R6 λz=>?_;have:owner.getD (i+k) (a5 0)=a5 0:=by simp[VP,z]
    rw[this]at a;cases a
   have d:owner.getD (i+k) (a5 0)=owner[i+k]:=by simp[VP,c]
   rw[d]at a;rw[Ph c];cases e:owner[i+k] with
   |none=>rfl
   |some _=>rw[e]at a;cases a
  |none =>
   rw[b]at h;show nN f _ _ j h
def BS(c:Full (mask+1)=bD){j0:Nat}(a:owner[j0]?=a5 b6)(hsz:owner.size=mask+1)(d:i<mask+1)(f:p<2 ^ 64):∃j,u6 mask owner (RO mask) i p=a5 j/\owner[j]?=a5 b6:=by
 cases e:u6 mask owner (RO mask) i p with
 |some j=>show⟨j,rfl,nN _ _ _ _ e⟩
 |none =>
  have g:j0<mask+1:=by rw[<-hsz];show(Array.getElem?_eq_some_iff.mp a).1
  have h:(dU mask 13 (i,p)).2=0:=by
   rw[nK];show Nat.div_eq_of_lt (WA f (by decide))
  have⟨t,n,k⟩:=wD c (qE mask 13 (i,p) d) g;have l:dU mask (13+t) (i,p)=(j0,0):=by
   rw[nJ,show dU mask 13 (i,p)=((dU mask 13 (i,p)).1,0) from đ rfl h,nL,k]
  have:=nM _ _ _ e (13+t) (by unfold RO;lia);rw[l]at this;have m:owner.getD j0 (a5 0)=b6:=by
   have b:j0<owner.size:=by lia
   rw[Ph b]at a;simp[VP,b];show ti a
  rw[m]at this;cases this
abbrev vals(L:List (Option Nat)):List Nat:=L.filterMap id
theorem qG:∀{L:List (Option Nat)}{j:Nat},L[j]?=a5 b6->(vals (L.set j (a5 k))).Perm (k::vals L)
 |[],j,h=>by simp at h
 |x::L,0,h=>by
  have:x=b6:=by simpa using h
  subst this;show Ol _
 |x::L,j+1,h=>by
  have a:=qG (k:=k) (L:=L) (j:=j) (by simpa using h);cases x with
  |none=>show a
  |some y =>
   change(y::vals (L.set j (a5 k))).Perm (k::y::vals L);show(Ó y a).trans (Ò k y _)
theorem nO:∀{L:List (Option Nat)},(vals L).length<L.length->∃j:Nat,L[j]?=a5 b6
 |[],h=>by simp at h
 |none::L,_=>⟨0,rfl⟩
 |some y::L,h=>by
  have⟨j,a⟩:=nO (L:=L) (by
   have:(vals L).length+1<L.length+1:=h;lia)
  show⟨j+1,by simpa using a⟩
theorem yq(d:Full (mask+1)=bD):∀(hs:List Int) (owner:Array (Option Nat)) (k:Nat),owner.size=mask+1->(vals owner.toList).Perm (gs k)->k+hs.length<=mask ->
  ∃c,hs.foldl (λacc h=>do
   let (owner,k) <-acc
   let j <-u6 mask owner (RO mask) (O5 h % (mask+1)) (O5 h)
   pure (owner.setIfInBounds j (a5 k),k+1)) (a5 (owner,k))=a5 (c,k+hs.length)/\c.size=mask+1/\(vals c.toList).Perm (gs (k+hs.length))
 |[],owner,k,a,b,_=>⟨owner,rfl,a,b⟩
 |h::hs,owner,k,a,b,f=>by
  rw[js]at f;have⟨j0,g⟩:=nO (L:=owner.toList) (by rw[b.length_eq,vu,hU];lia);have⟨j,e,l⟩:=BS d (owner:=owner) (j0:=j0) (by rw[<-r6];show g) a (i:=O5 h % (mask+1)) (p:=O5 h) (Yv _ (À _)) (by unfold O5;lia);have m:owner.toList[j]?=a5 b6:=by rw[r6];show l
  have n:(vals (owner.setIfInBounds j (a5 k)).toList).Perm (gs (k+1)):=by
   rw[Array.toList_setIfInBounds,Ċ];show(qG m).trans ((Ó k b).trans (List.perm_append_singleton k _).symm)
  have⟨o',o,q,r⟩:=yq d hs (owner.setIfInBounds j (a5 k)) (k+1) (by rw[Array.size_setIfInBounds];show a) n ⋯;show⟨o',?_,q,by rw[show k+(h::hs).length=k+1+hs.length by simp;lia];show r⟩;rw[Uy,show k+(h::hs).length=k+1+hs.length by simp;lia,<-o];congr 1
  change(u6 mask owner (RO mask) (O5 h % (mask+1)) (O5 h)).bind _=_;rw[e];rfl
def sF(L:List (Option Nat)):(gs L.length).filterMap (λj=>L.getD j b6)=vals L:=by
 have h:(gs L.length).map (λj=>L.getD j b6)=L:=by
  apply M7
  .simp
  .intro i b a;simp[O',a]
 have a:vals ((gs L.length).map (λj=>L.getD j b6))=vals L:=Ū vals h;unfold vals at a;rw[List.filterMap_map]at a;show a
def uM{led plain:Bool}(e:Full (mask+1)=bD)(f:hs.size<=mask):∃t a,UQ mask finger moves led plain hs=a5 (t,a)/\t.fits hs.size=bD/\t.led=led/\t.plain=plain/\t.mask=mask/\t.dummies=#[]/\a.toList.Perm (gs hs.size):=by
 have⟨owner,c,g,b⟩:=yq e hs.toList (Array.replicate (mask+1) b6) 0 (by simp) (by
  have:∀n:Nat,vals (i1 n b6)=[]:=λn=>by
   induction n with
   |zero=>rfl
   |succ n h=>rw[List.replicate_succ];show h
  rw[Array.toList_replicate,this];show Ol _) (by rw[hU];lia)
 rw[Q7,hU]at c b;have i:Sw mask hs=a5 owner:=by
  unfold Sw;rw[<-Array.foldl_toList];rw[c];rfl
 have k:((gs (mask+1)).filterMap λj=>owner.getD j b6)=vals owner.toList:=by
  rw[<-sF,hU,g];congr 1
  funext j
  simp only[Array.getD_eq_getD_getElem?,X0,r6]
 have d:(((gs (mask+1)).filterMap λj=>(owner.getD j b6).map (j,·)).map (·.2))=vals owner.toList:=by
  rw[<-k,List.map_filterMap];congr 1
  funext j
  cases owner.getD j b6<;>rfl
 have hl:((gs (mask+1)).filterMap λj=>(owner.getD j b6).map (j,·)).length=hs.size:=by
  have:=Ū C0 d;rw[c4,b.length_eq,vu]at this;show this
 show⟨_,_,by unfold UQ;rw[i];rfl,?_,rfl,rfl,rfl,rfl,?_⟩
 .unfold SD WS;simp only[gj,c4,hl];simp;show f
 .change(((gs (mask+1)).filterMap λj=>(owner.getD j b6).map (j,·)).map (·.2)).Perm _;rw[d];show b
end L2
namespace L2
open PySem PySem.Spec PyProof.Rows
abbrev E9(P:va)(w:w6)(p:Str×Tok):Int×dV:=((sK P w).hash p.1,uk p.1 p.2)
section
def aU.perm(b:aU prog w h a led D)(p:D.Perm c):aU prog w h a led c :=
 let ⟨L,es,ep,t,d,e,f,g,i⟩:=b;⟨L,es,ep,t,d,e,f.trans p,p.nodup_iff.mp g,i⟩
def aU.at(b:aU prog w h a led D)(k:∀o,h.get? a=a5 o->h'.get? a=a5 o):aU prog w h' a led D :=
 let ⟨L,es,ep,t,c,d⟩:=b;⟨L,es,ep,t,k _ c,d⟩
def aU.sz{h:KX}{a:d8}{led:Bool}{D:List Str}{L:List (Str×Tok)}{es:Array (Int×dV)}(b:es.toList=L.map (λp=>((sK prog w).hash p.1,uk p.1 p.2)))(c:(L.map (·.1)).Perm D):es.size=D.length:=by
 rw[<-hU,b,c4,<-c.length_eq,c4]
def aU.of(g:aU prog w h a led D):h.SetOf (sK prog w) a (λx=>cK (x∈D)) D.length:=by
 have⟨L,es,ep,t,ho,b,d,l,i,j,m,n⟩:=g;show⟨_,es,ep,t,ho,⟨rfl,rfl,rfl⟩,rfl,by rw[b];show ll,λx=>?_,j,i,aU.sz (h:=h) (a:=a) (led:=led) b d⟩;rw[Ť,b,<-d.mem_iff,ki];constructor
 .rintro⟨p,c,e⟩;show⟨_,ki.mpr ⟨p,c,rfl⟩,by rw[gP];simp[e]⟩
 .rintro⟨e,k,f⟩;have⟨p,c,rfl⟩:=ki.mp k;rw[gP,Ť]at f;show⟨p,c,f.symm⟩
def qH(b:aU prog w s.heap a led D)(h:∀r:Option Nat,r.isSome=cK (x∈D)->Q r s):
  d3 (eH prog w) A (setFind a (.str x c) ((sK prog w).hash x)) Q E s :=
 wpAny_setFind_of (knd:=sK prog w) (by rw[gP];simp) rfl b.of h
def eV{L':List (Str×Tok)}(ho:s.heap.get? a=a5 {cls:=.type "set",dict:=b6,data:=.set es ep t})(f:b.toList=L'.map (λp=>((sK prog w).hash p.1,uk p.1 p.2)))(g:(L'.map (·.1)).Perm c)(i:c.Nodup)
  (j:t'.fits b.size=bD) (d:b.size<D8) (hl:t'.led=led) (k:b.size=0\/t'.plain=cc) (h:∀h',nc a s.heap h'->h'.get? a=a5 {cls:=.type "set",dict:=b6,data:=.set b (ep+1) t' }->aU prog w h' a led c->Q () {s with heap:=h' }) :
  d3 (eH prog w) A (storeSet a b t') Q E s:=by
 show W' ho rfl ?_ (XC d);have e:(s.heap.update a (QD b t')).get? a=a5 {cls:=.type "set",dict:=b6,data:=.set b (ep+1) t' }:=t7 (QD b t') ho rfl;show h _ (x2 s.heap a (QD b t')) e ⟨L',b,ep+1,t',e,f,g,i,j,d,hl,k⟩
def ft(xs:Array α)(i:Nat):(QP xs i).toList=xs.toList.eraseIdx i:=by
 unfold QP;rw[Array.toList_append,Ã,Ã,Rh];simp[List.extract];rw[QQ (by simp)]
def wF{t:PU}(h:t.fits n=bD)(e:i<n):(t.drop i).fits (n - 1)=bD:=by
 simp only[SD,cb,beq_iff_eq,Ť]at h;have⟨f,b⟩:=h;have a:i<t.place.size:=by lia
 have c:(QP t.place i).size=t.place.size - 1:=by
  rw[<-hU,ft,Ê,ť (by simpa using a),hU]
 have d:∀p x,(SetTable.insertAt t.dummies p x).size=t.dummies.size+1:=λp x=>by
  have:=(SetTable.insertAt_perm t.dummies p x).length_eq;rw[hU,hU,Array.size_push]at this;show this
 unfold å;rw[Ph a];simp only[SD,WS,cb,beq_iff_eq,Ť,c,d]at b ⊢;constructor<;>lia
def yr(t:PU)(i:Nat):(t.drop i).led=t.led/\(t.drop i).plain=t.plain:=by
 unfold å;split<;>show⟨rfl,rfl⟩
theorem erase_filter:∀{l:List Str}{j:Nat}{x:Str},l.Nodup->l[j]?=a5 x->l.eraseIdx j=l.filter λy=>cK (y≠x)
 |[],j,x,_,h=>by simp at h
 |y::l,0,x,a,h=>by
  have⟨b,c⟩:=l0.mp a;have:y=x:=by simpa using h
  subst this;rw[List.eraseIdx_cons_zero,QH (by simp)];show(PK.mpr λz hz=>by
   have:z≠y:=λe=>b (e▸hz);simpa using this).symm
 |y::l,j+1,x,a,h=>by
  have⟨b,c⟩:=l0.mp a;have d:l[j]?=a5 x:=by simpa using h
  have:y≠x:=λe=>b (e▸l' d);rw[TZ,erase_filter c d,QF (by simpa using this)]
theorem fR(f:α->β):∀(l:List α) (j:Nat),(l.map f).eraseIdx j=(l.eraseIdx j).map f
 |[],_=>rfl
 |x::l,0=>rfl
 |x::l,j+1=>by
  change f x::(l.map f).eraseIdx j=f x::(l.eraseIdx j).map f;rw[fR f l j]
def qI{a:d8}{led:Bool}{D:List Str}{x:Str}{k:Tok}{Q:Bool->d6->Prop}(l:aU prog w s.heap a led D)(h:∀b h',nc a s.heap h'->aU prog w h' a led (D.filter λy=>cK (y≠x))->Q b {s with heap:=h' }):
  d3 (eH prog w) A (Ľ a (.str x k) ((sK prog w).hash x)) Q E s:=by
 have u:=l;have⟨L,es,ep,t,ho,c,d,m,f,v,B,C⟩:=l;have G:(sK prog w).is x (.str x k)=bD:=by rw[gP];simp
 have n:ElemsOf (sK prog w) es.toList:=by rw[c];show ll
 have hsz:=aU.sz (h:=s.heap) (a:=a) (led:=led) c d;unfold Ľ setFind setFindIn;show b8 (b8 (mh ho rfl f ?_))
 dsimp only
 rw[byScan_of (knd:=sK prog w) rfl v n];simp only[↓reduceIte];show b8 (PL ?_);show b8 (ĸ (knd:=sK prog w) G ho rfl f n ?_);cases o:YP (λe=>(sK prog w).is x e.2) es.toList with
 |none =>
  dsimp only
  show df (df ?_);have g:x∉D:=λg=>by
   rw[<-d.mem_iff,ki]at g;have⟨p,H,e⟩:=g;have I:((sK prog w).hash p.1,uk p.1 p.2)∈es.toList:=by rw[c];show ki.mpr ⟨p,H,rfl⟩
   have:=Yw.mp o _ I;rw[gP,decide_eq_false_iff_not]at this;show this e.symm
  have e:D.filter (λy=>cK (y≠x))=D:=PK.mpr λz hz=>by
   have:z≠x:=λe=>g (e▸hz);simpa using this
  have J:s={s with heap:=s.heap}:=by cases s;rfl
  rw[J];show h cc s.heap (KG a s.heap) (by rw[e];show u)
 |some j =>
  dsimp only
  obtain⟨i,q,_⟩:=Wh.mp o;rw[Q7];show df ?_
  dsimp only
  show b8 (mh ho rfl f ?_)
  dsimp only
  have N:j<L.length:=by rw[c,c4]at i;show i
  have O:j<es.size:=by simpa using i
  have T:L[j].1=x:=by
   have e:es.toList[j]=((sK prog w).hash L[j].1,uk L[j].1 L[j].2):=by simp[c]
   rw[e,gP,Ť]at q;show q.symm
  have Y:(L.map (·.1)).Nodup:=d.nodup_iff.mpr m;have YI:(L.eraseIdx j).map (·.1)=(L.map (·.1)).filter λy=>cK (y≠x):=by
   rw[<-erase_filter Y (j:=j) (by simp[N,T]),fR]
  have UD:(QP es j).toList=(L.eraseIdx j).map (λp=>((sK prog w).hash p.1,uk p.1 p.2)):=by
   rw[ft,c,fR]
  have r:(QP es j).size=es.size - 1:=by rw[<-hU,ft,Ê,ť i,hU]
  have⟨d1,d2⟩:=yr t j;show b8 (eV (t':=t.drop j) (led:=led) ho UD (by rw[YI];show d.filter _) (YX MV m) (by rw[r];show wF f O) (by rw[r];lia) (d1.trans B) (.inr (d2.trans (C.resolve_left ⋯))) λh' sb hg Ll=>?_);show b8 (wpAny_point ?_);show df (h bD h' sb Ll)
end
def BU:Full 256=bD:=by decide +kernel
section
def iI{es:Array (Int×dV)}{a:Array Nat}(h:a.toList.Perm (gs es.size)):(a.filterMap (es[·]?)).toList.Perm es.toList:=by
 rw[Array.toList_filterMap];show(h.filterMap _).trans (by rw[filterMap_getElem?_range])
def nP{L:List (Str×Tok)}(ho:s.heap.get? a=a5 {cls:=.type "set",dict:=b6,data:=.set es ep t})(n:es.toList=L.map (λp=>((sK prog w).hash p.1,uk p.1 p.2)))(o:(L.map (·.1)).Perm D)(q:D.Nodup)
  (r:t.fits es.size=bD) (u:es.size<D8) (i:t.led=led) (v:es.size=0\/t.plain=cc) (j:LC c=m+1) (x:Full (m+1)=bD) (y:es.size<=m) (Y:m<1000)
  (h:∀h' (d:Array (Int×dV)) (t':PU) (z:Nat),nc a s.heap h'->h'.get? a=a5 {cls:=.type "set",dict:=b6,data:=.set d z t' }->aU prog w h' a led D->t'.fits d.size=bD->t'.mask=m->t'.dummies=#[]->t'.led=led->d.size=es.size->Q () {s with heap:=h' }) :
  d3 (eH prog w) A (setRelay a c) Q E s:=by
 have B:(2000:Nat)<=cL:=by decide
 have⟨t',b,C,f,k,G,H,I,l⟩:=uM (mask:=m) (finger:=t.finger) (moves:=t.movedTo m) (led:=t.led) (plain:=t.plain) (hs:=es.map (·.1)) x (by rw[SA];show y);rw[SA]at f l;have e:t.relaid (es.map (·.1)) c=a5 (t',b):=by
  unfold Wt;rw[j,Nat.add_sub_cancel];show C
 unfold setRelay;show b8 (mh ho rfl r ?_)
 dsimp only
 rw[Ŧ (by rw[j];lia)];show b8 ?_;rw[e];change d3 (eH prog w) A (if ((b.filterMap (es[·]?)).size != es.size)=bD then((YG "internal:set-table-lost-an-element":Sem Unit) >>= λ_=>pure (b.filterMap (es[·]?),t')) else pure (b.filterMap (es[·]?),t')) _ E s;have g:=iI l;have hsz:(b.filterMap (es[·]?)).size=es.size:=by rw[<-hU,g.length_eq,hU]
 rw[Ŧ (by rw[hsz];simp)];show df ?_;rw[n]at g;have⟨L',J,N⟩:=dm g;show eV (led:=led) ho J ((N.map _).trans o) q (by rw[hsz];show f) (by rw[hsz];show u) (k.trans i) (by rw[hsz,G];show v) λh' O T hs=>h h' _ t' _ O T hs (by rw[hsz];show f) H I (k.trans i) hsz
def yt(b:5<=n)(a:n<64):∃m,LC (2 * n)=m+1/\Full (m+1)=bD/\n<=m/\m<1000:=by
 have:∀n:_root_.Fin 64,LC (2 * n.val)=(if n.val<4 then 8 else if n.val<8 then 16 else if n.val<16 then 32 else if n.val<32 then 64 else 128):=by decide +kernel
 have e:=this ⟨n,a⟩
 dsimp only at e
 rw[e,Ŧ ⋯];split
 .show⟨15,rfl,yn,⋯,⋯⟩
 .split
  .show⟨31,rfl,yo,⋯,⋯⟩
  .split
   .show⟨63,rfl,yp,⋯,⋯⟩
   .show⟨127,rfl,uL,⋯,⋯⟩
def wG(a:n<64):∃m,LC (Om n)=m+1/\Full (m+1)=bD/\n<=m/\m<1000:=by
 have:∀n:_root_.Fin 64,LC (Om n.val)=(if n.val<2 then 8 else if n.val<4 then 16 else if n.val<8 then 32 else if n.val<16 then 64 else if n.val<32 then 128 else 256):=by decide +kernel
 have e:=this ⟨n,a⟩
 dsimp only at e
 rw[e];split
 .show⟨7,rfl,DQ,⋯,⋯⟩
 .split
  .show⟨15,rfl,yn,⋯,⋯⟩
  .split
   .show⟨31,rfl,yo,⋯,⋯⟩
   .split
    .show⟨63,rfl,yp,⋯,⋯⟩
    .split
     .show⟨127,rfl,uL,⋯,⋯⟩
     .show⟨255,rfl,BU,⋯,⋯⟩
def yu{a:d8}{led:Bool}{D:List Str}{Q:Unit->d6->Prop}(b:aU prog w s.heap a led D)(p:D.length<64)(h:∀h',nc a s.heap h'->aU prog w h' a led D->Q () {s with heap:=h' }):
  d3 (eH prog w) A (setTidy a) Q E s:=by
 have f:=b;have⟨L,es,ep,t,ho,c,d,g,e,i,j,k⟩:=b;have hsz:=aU.sz (h:=s.heap) (a:=a) (led:=led) c d;unfold setTidy;show b8 (mh ho rfl e ?_)
 dsimp only
 split
 .have⟨m,m1,m2,m3,m4⟩:=wG (n:=es.size) ⋯;show nP ho c d g e i j k m1 m2 m3 m4 λh' _ _ _ l _ hs _ _ _ _ _=>h h' l hs
 .have o:s={s with heap:=s.heap}:=by cases s;rfl
  show df ?_;rw[o];show h s.heap (KG a s.heap) f
def wH{a b:d8}{es:Array (Int×dV)}{D:List Str}{Q:Unit->d6->Prop}(v:a≠b)(ho:s.heap.get? a=a5 {cls:=.type "set",dict:=b6,data:=.set #[] 0 (.fresh 0 0 (aI w))})(x:aU prog w s.heap b (aI w) D)(Mi:D.length<64)
  (h:∀h',nc a s.heap h'->aU prog w h' a (aI w) D->Q () {s with heap:=h' }):d3 (eH prog w) A (setMerge a b) Q E s:=by
 have Qi:=x;have⟨L,d,YK,f,y,l,n,B,C,G,Rc,UE⟩:=x;have hsz:=aU.sz (h:=s.heap) (a:=b) (led:=aI w) l n;have o:(Ù 0 0 (aI w)).fits (#[]:Array (Int×dV)).size=bD:=rfl;unfold setMerge;rw[Ŧ (by simpa using v)];show b8 (mh y rfl C ?_)
 dsimp only
 split
 .rename_i UG;have hD:D=[]:=by
   have:d.size=0:=by simpa using UG
   show List.eq_nil_of_length_eq_zero ⋯
  subst hD;have p:s={s with heap:=s.heap}:=by cases s;rfl
  show df ?_;rw[p];show h s.heap (KG a s.heap) (ib ho)
 .rename_i KS;have UH:d.size≠0:=λz=>KS (by simpa using z);show b8 ?_;unfold setRoomFor;show b8 (mh ho rfl o ?_)
  dsimp only
  show mA (Q:=λ_ s1=>∃(g:KX) (ts:PU) (H:Nat) (k:Array (Int×dV)),s1={s with heap:=g}/\k.size=0/\nc a s.heap g/\g.get? a=a5 {cls:=.type "set",dict:=b6,data:=.set k H ts}/\ts.fits k.size=bD/\Full (ts.mask+1)=bD/\d.size<=ts.mask/\ts.dummies=#[]/\ts.led=aI w) ?_ (λ_ s1 ⟨g,ts,H,k,e,z,i,j,I,hF,q,UI,hl⟩=>?_) λ_ _ e=>e
  .unfold SetTable.roomFor;by_cases h5:5<=d.size
   .rw[ť (by change(0+d.size) * 5 >= 7 * 3;lia)]
    dsimp only
    have⟨m,m1,m2,m3,m4⟩:=yt h5 ⋯;have ew:((Ù 0 0 (aI w)).place.size+d.size) * 2=2 * d.size:=by change(0+d.size) * 2=_;lia
    rw[ew];show nP (L:=[]) (D:=[]) (led:=aI w) ho rfl (Ol _) .nil o (by decide) rfl (.inl rfl) m1 m2 (by change 0<=m;lia) m4 λh' JT t' N2 i j _ Uj J hd hl hz=>⟨h',t',N2,JT,rfl,hz,i,j,Uj,by rw[J];show m2,by rw[J];show m3,hd,hl⟩
   .rw[Ŧ (by change ¬(0+d.size) * 5 >= 7 * 3;lia)]
    dsimp only
    have p:s={s with heap:=s.heap}:=by cases s;rfl
    show df ⟨s.heap,_,0,#[],p,rfl,KG a s.heap,ho,o,DQ,by change d.size<=7;lia,rfl,rfl⟩
  .subst e;show b8 (mh j rfl I ?_)
   dsimp only
   have UJ:ts.place.size=0:=by
    simp only[SD,cb,beq_iff_eq]at I;lia
   have Rg:ts.road f=if ts.mask==f.mask&&f.dummies.isEmpty then .slotForSlot else .clean:=by
    unfold SetTable.road WS;rw[UJ,UI];rfl
   have YL:g.get? b=a5 {cls:=.type "set",dict:=b6,data:=.set d YK f}:=(i.2 b (nC v)).trans y;have N:(ts.plain&&f.plain)=cc:=by rw[UE.resolve_left UH,U2]
   have O:(ts.led&&f.led)=aI w:=by rw[hl,Rc,Ĥ]
   rw[Rg];by_cases T:(ts.mask==f.mask&&f.dummies.isEmpty)=bD
   .rw[ť T]
    dsimp only
    show eV (s:={s with heap:=g}) (led:=aI w) (L':=L) (t':={f with finger:=ts.finger,led:=ts.led&&f.led,moves:=ts.moves,plain:=ts.plain&&f.plain}) j l n B C G O (.inr N) λh' r _ hs=>h h' (i.trans r) hs
   .rw[Ŧ T]
    dsimp only
    have⟨t',c,q1,Y,q3,q4,q5,q6,q7⟩:=uM (mask:=ts.mask) (finger:=ts.finger) (moves:=ts.moves) (led:=ts.led&&f.led) (plain:=ts.plain&&f.plain) (hs:=d.map (·.1)) hF (by rw[SA];show q);rw[SA]at Y q7;show b8 ?_;rw[q1];change d3 (eH prog w) A (if ((c.filterMap (d[·]?)).size != d.size)=bD then((YG "internal:set-table-lost-an-element":Sem Unit) >>= λ_=>pure (c.filterMap (d[·]?),t')) else pure (c.filterMap (d[·]?),t')) _ E _;have t:=iI q7;have u:(c.filterMap (d[·]?)).size=d.size:=by rw[<-hU,t.length_eq,hU]
    rw[Ŧ (by rw[u];simp)];show df ?_;rw[l]at t;have⟨L',e',p'⟩:=dm t;show eV (s:={s with heap:=g}) (led:=aI w) j e' ((p'.map _).trans n) B (by rw[u];show Y) (by rw[u];show G) (q3.trans O) (.inr (q4.trans N)) λh' r _ hs=>h h' (i.trans r) hs
end
section
theorem ig:∀{l:List α},(∀x∈l,∀Q':ForInStep β->d6->Prop,Q' (.yield b) s->d3 M A (body x b) Q' E s)->Q b s->d3 M A (ķ l b body) Q E s
 |[],_,h=>by rw[Ē];show df h
 |x::l,a,h=>by
  rw[WX];show b8 (a x (by simp) _ (ig (λy c=>a y (by simp[c])) h))
def wI(hs:∀b∈sets,∃led D,aU prog w s.heap b led D)(h:Q bD s):d3 (eH prog w) A (setsQuiet sets) Q E s:=by
 unfold setsQuiet;show b8 (ig (λb c Q' d=>?_) (df h));have⟨led,D,L,es,ep,t,f,g,k,l,i,m,n,o⟩:=hs b c;show b8 (Ta f rfl i ?_);rw[<-VQ];show b8 (ig (λe a q j=>?_) (df d));rw[g]at a;obtain⟨p,_,rfl⟩:=ki.mp a;show df j
def qJ(l:aU prog w s.heap a (aI w) D)(ho:∀b∈others,∃led B,aU prog w s.heap b led B)(m:∀r,f=a5 r->aU prog w s.heap r (aI w) [])
  (h:∀(es:Array (Int×dV)) (L:List (Str×Tok)) (h':KX),es.toList=L.map (E9 prog w)->(L.map (·.1)).Perm D->(f=b6->h'=s.heap)->(∀r,f=a5 r->nc r s.heap h'/\aU prog w h' r (aI w) [])->Q es {s with heap:=h' }) :
  d3 (eH prog w) A (setWalkUnseen a others f) Q E s:=by
 have C:=l;have⟨L,es,ep,t,j,n,o,Kc,k,hb,G,H⟩:=l;have I:s={s with heap:=s.heap}:=by cases s;rfl
 have c:∀(d:Array (Int×dV)),d.toList.Perm es.toList->Q d s:=λd p=>by
  rw[n]at p;have⟨L',J,N⟩:=dm p;rw[I];show h d L' s.heap J ((N.map _).trans o) (λ_=>rfl) λr e=>⟨KG r s.heap,m r e⟩
 unfold setWalkUnseen;show b8 (mh j rfl k ?_)
 dsimp only
 show b8 (cN ?_);cases g:w.params.followText "set-order" with
 |true =>
  rw[ť (by change(w.params.followText "set-order"||t.led&&t.plain||decide (es.size<=1))=bD;rw[g];rfl)];unfold setWalk;show b8 (mh j rfl k ?_)
  dsimp only
  show b8 (cN ?_);rw[ť (by show g)];show b8 (RV ?_);show df (c _ (dS _ _))
 |false =>
  by_cases q:es.size<=1
  .rw[ť (by rw[Ũ q];simp)];unfold setWalk;show b8 (mh j rfl k ?_)
   dsimp only
   show b8 (cN ?_);rw[Ŧ (by change ¬w.params.followText "set-order"=bD;rw[g];simp)];change d3 _ _ (if (!t.plain&&cK (es.size>1))=bD then _ else _) _ _ s;rw[Ŧ (by rw[ŧ (show ¬es.size>1 by lia)];simp)];change d3 _ _ ((if (!t.led&&cK (es.size>1))=bD then _ else _) >>= _) _ _ s;rw[Ŧ (by rw[ŧ (show ¬es.size>1 by lia)];simp)];show b8 (df (df (c es (Ol _))))
  .have O:t.plain=cc:=H.resolve_left ⋯;rw[Ŧ (by change ¬(w.params.followText "set-order"||t.led&&t.plain||decide (es.size<=1))=bD;rw[g,O,ŧ q];simp)];show b8 (wI (λb KI=>by
    rcases d7.mp KI with rfl|KI
    .show⟨_,_,C⟩
    .show ho b KI) ?_)
   rw[Ŧ (by simp)];show b8 (PL ?_);cases f with
   |none=>show df (c es (Ol _))
   |some r =>
    dsimp only
    have⟨Lr,T,Y,i,u,v,x,UK,y,YM,Ri,YN⟩:=m r rfl;show b8 (mh u rfl y ?_)
    dsimp only
    have OE:T.size=0:=by
     have:=aU.sz (h:=s.heap) (a:=r) (led:=aI w) v x;simpa using this
    split
    .show b8 (eV (t':={i with led:=i.led&&t.led,plain:=i.plain&&t.plain}) (led:=aI w) u v x UK y YM (by change(i.led&&t.led)=_;rw[Ri,G,Ĥ]) (.inl OE) λh' sb _ hs=>?_);show df (h es L h' n o (λz=>nomatch z) λr' e=>by cases e;show⟨sb,hs⟩)
    .show df (c es (Ol _))
end
section
variable{prog:va}{w:w6}{A:N5}{E:dV->d6->Prop}{s:d6}
theorem jy(J:List (Str×Tok)->d6->Prop)(a:∀d p r s,d++p::r=L->J d s->∀Q':ForInStep PUnit->d6->Prop,(∀s',J (d++[p]) s'->Q' (.yield ⟨⟩) s')->d3 M A (body (E9 prog w p) ⟨⟩) Q' E s)(b:∀s',J L s'->Q ⟨⟩ s'):
  ∀(r d:List (Str×Tok)) (s:d6),d++r=L->J d s->d3 M A (ķ (r.map (E9 prog w)) ⟨⟩ body) Q E s
 |[],d,s,e,h=>by
  rw[t4]at e;subst e;rw[Kb,Ē];show df (b s h)
 |p::r,d,s,e,h=>by
  rw[d4,WX];show b8 (a d p r s e h _ λs' h'=>jy J a b r (d++[p]) s' (by rw[<-e];simp) h')
def aU.ty(h:aU prog w s.heap a led D):s.TypeIs (.ref a) "set":=let ⟨_,_,_,_,ho,_⟩:=h;⟨_,ho,rfl⟩
def gw(b:aU prog w s.heap a led D)(h:Q bD s):d3 (eH prog w) A (K1 (.ref a)) Q E s:=by
 unfold K1;show b8 (PY b.ty Xs ?_);show df h
def iJ{a:d8}{led:Bool}{D:List Str}{Q:Nat->d6->Prop}(b:aU prog w s.heap a led D)(h:Q D.length s):d3 (eH prog w) A (Rj a) Q E s:=by
 obtain⟨L,es,ep,t,ho,c,d,f,e,_⟩:=b;unfold Rj;show b8 (Ta ho rfl e (df ?_));rw[aU.sz (h:=s.heap) (a:=a) (led:=led) c d];show h
def qK(b:aU prog w s.heap a led D)(h:Q (.type "set") s):d3 (eH prog w) A (Vn a) Q E s:=by
 unfold Vn;show b8 (PY b.ty Xs ?_);show df h
def uN(h:Q (.ref s.heap.objs.size) {s with heap:=s.heap.push {cls:=.type "set",dict:=b6,data:=.set #[] 0 (.fresh 0 0 (aI w))}}):d3 (eH prog w) A (newSet (.type "set")) Q E s:=by
 unfold newSet ė;show b8 (b8 (RV (df ?_)))
 dsimp only
 simp only[newObj];show b8 (wpAny_alloc (df h))
def yw{a:d8}{D:List Str}{Q:dV->d6->Prop}(b:aU prog w s.heap a (aI w) D)(c:D.length<64)(h:∀h',nc s.heap.objs.size (s.heap.push {cls:=.type "set",dict:=b6,data:=.set #[] 0 (.fresh 0 0 (aI w))}) h'->aU prog w h' s.heap.objs.size (aI w) D->Q (.ref s.heap.objs.size) {s with heap:=h' }):
  d3 (eH prog w) A (Vl a) Q E s:=by
 unfold Vl;show b8 (qK b (b8 (uN ?_)));show b8 (df ?_);have d:s.heap.objs.size≠a:=λe=>by obtain⟨_,_,_,_,ho,_⟩:=b;show uv _ (e▸ez ho)
 show b8 (wH (es:=#[]) (s:={s with heap:=s.heap.push {cls:=.type "set",dict:=b6,data:=.set #[] 0 (.fresh 0 0 (aI w))}}) d (fx _ rfl) (b.at λo e=>c2 _ e) c λh' f hs=>?_);show df (h h' f hs)
def ly{id:String}(ho:s.heap.get? a=a5 {cls:=.type "set",dict:=b6,data:=.set es ep t})(b:t.fits es.size=bD)(h:Q () s):d3 (eH prog w) A (UB id a ep) Q E s:=by
 unfold UB;show b8 (Xg ho rfl b ?_);rw[Ŧ (by simp)];show df h
def yx{id:String}(v:a≠b)(o:aU prog w s.heap a (aI w) g)(j:aU prog w s.heap b (aI w) q)(B:g.length<64)(i:q.length<=g.length)
  (h:∀h',nc a s.heap h'->aU prog w h' a (aI w) (g.filter λx=>cK (x∉q))->Q () {s with heap:=h' }):d3 (eH prog w) A (Tj id a (.ref b)) Q E s:=by
 unfold Tj;rw[Ŧ (by simpa using nC v)];show b8 (gw j ?_);rw[ť rfl];show b8 (df ?_);show b8 (iJ j (b8 (iJ o ?_)));rw[Ŧ ⋯];have⟨L2,O,C,T,y,D,G,Y,z,Wa,Wy,YQ⟩:=_root_.id j;show b8 (Xg y rfl z ?_);show b8 (t6 ?_);show b8 (qJ j (others:=[a]) (f:=b6) (λc H=>by rw[hY.mp H];show⟨_,_,o⟩) (λr e=>nomatch e) λes L h0 I J t _=>?_);have t:=t rfl;subst t;rw[<-VQ,I];show b8 (jy (prog:=prog) (w:=w) (L:=L) (λd s'=>∃h',s'={s with heap:=h' }/\nc a s.heap h'/\aU prog w h' a (aI w) (g.filter λx=>cK (x∉d.map (·.1)))) (λd p r s' ed ⟨h',u,k,l⟩ Q' N=>?_) (λs' ⟨h',u,k,l⟩=>?_) L [] _ rfl ⟨s.heap,by cases s;rfl,KG a s.heap,by rw[PK.mpr λx _=>by simp];show o⟩)
 .subst u;show b8 (t6 (qI (s:={s with heap:=h' }) l λb' i m n=>?_));show b8 (ly (s:={s with heap:=i}) (((k.trans m).2 b (nC v)).trans y) z ?_);show df (N _ ⟨i,rfl,k.trans m,?_⟩);rw[List.filter_filter]at n;have e:(g.filter λx=>cK (x≠p.1)&&cK (x∉d.map (·.1)))=g.filter λx=>cK (x∉(d++[p]).map (·.1)):=by
   show ð λx _=>?_;rw[Lo];simp[not_or,and_comm]
  rw[<-e];show n
 .subst u;show df ?_;have e:(g.filter λx=>cK (x∉L.map (·.1)))=g.filter λx=>cK (x∉q):=by
   show ð λx _=>?_;rw[Lo];simp only[Ť];rw[J.mem_iff]
  rw[e]at l;show yu (s:={s with heap:=h' }) l (î (sx _ _) B) λi m n=>h i (k.trans m) n
def yy{id:String}(Nt:a≠b)(l:aU prog w s.heap a (aI w) m)(j:aU prog w s.heap b (aI w) g)(D:m.length<64)(k:g.length<64)
  (h:∀h',(∀c o,s.heap.get? c=a5 o->h'.get? c=a5 o)->aU prog w h' s.heap.objs.size (aI w) (m.filter λx=>cK (x∉g))->Q (.ref s.heap.objs.size) {s with heap:=h' }):d3 (eH prog w) A (P2 id a (.ref b)) Q E s:=by
 have keep:∀h',nc s.heap.objs.size (s.heap.push {cls:=.type "set",dict:=b6,data:=.set #[] 0 (.fresh 0 0 (aI w))}) h'->∀c o,s.heap.get? c=a5 o->h'.get? c=a5 o:=λh' i c o e =>
  (i.2 c (hW (ez e))).trans (c2 _ e)
 have G:a<s.heap.objs.size:=by obtain⟨_,_,_,_,ho,_⟩:=l;show ez ho
 have v:b<s.heap.objs.size:=by obtain⟨_,_,_,_,ho,_⟩:=j;show ez ho
 unfold P2
 dsimp only
 show b8 (gw j ?_);rw[Ŧ (by simp)];show b8 (df ?_);rw[Ŧ (by simp),ť rfl];show b8 (iJ j (b8 (iJ l ?_)));by_cases H:m.length / 4>g.length
 .rw[ť H];show b8 (PL ?_);show b8 (yw l D λh' i hs=>?_);show b8 (df ?_);show b8 (t6 (yx (s:={s with heap:=h' }) (K2 v) hs (j.at λo e=>keep h' i b o e) D ⋯ λk n t=>?_));show df (h k (keep k (i.trans n)) t)
 .rw[Ŧ H];show b8 (qK l (b8 (uN ?_)));show b8 (df ?_);have I:=l.at (h':=s.heap.push {cls:=.type "set",dict:=b6,data:=.set #[] 0 (.fresh 0 0 (aI w))}) λo e=>c2 _ e;have Wn:=j.at (h':=s.heap.push {cls:=.type "set",dict:=b6,data:=.set #[] 0 (.fresh 0 0 (aI w))}) λo e=>c2 _ e;have J:aU prog w (s.heap.push {cls:=.type "set",dict:=b6,data:=.set #[] 0 (.fresh 0 0 (aI w))}) s.heap.objs.size (aI w) []:=ib (fx _ rfl);have⟨La,ea,YR,ta,N,Qj,ab,UL,y,ac,WB,YS⟩:=_root_.id I;show b8 (Xg N rfl y ?_);show b8 (t6 ?_);rw[ť rfl];show b8 (qJ (s:={s with heap:=s.heap.push {cls:=.type "set",dict:=b6,data:=.set #[] 0 (.fresh 0 0 (aI w))}}) I (others:=[b,s.heap.objs.size]) (f:=a5 s.heap.objs.size) (λc hc=>by
   rcases d7.mp hc with rfl|hc
   .show⟨_,_,Wn⟩
   .rw[hY.mp hc];show⟨_,_,J⟩) (λr e=>by cases e;show J) λes L h0 he B _ e0=>?_)
  have⟨YT,Sx⟩:=e0 _ rfl;rw[<-VQ,he];have YU:L.length=m.length:=by rw[<-B.length_eq,c4]
  show b8 (jy (prog:=prog) (w:=w) (L:=L) (λd s'=>∃h',s'={s with heap:=h' }/\nc s.heap.objs.size (s.heap.push {cls:=.type "set",dict:=b6,data:=.set #[] 0 (.fresh 0 0 (aI w))}) h'/\aU prog w h' s.heap.objs.size (aI w) ((d.map (·.1)).filter λx=>cK (x∉g))) (λd p r s' O ⟨h',C,i,u⟩ Q' T=>?_) (λs' ⟨h',C,i,u⟩=>?_) L [] _ rfl ⟨h0,rfl,YT,Sx⟩)
  .subst C;have Y:(L.map (·.1)).Nodup:=B.nodup_iff.mpr UL;have YV:p.1∉d.map (·.1):=λz=>by
    rw[<-O,i3,rr]at Y;show Y.2.2 p.1 z p.1 (by simp) rfl
   have YW:aU prog w h' b (aI w) g:=j.at λo e=>keep h' i b o e;have WC:h'.get? a=a5 {cls:=.type "set",dict:=b6,data:=.set ea YR ta}:=(i.2 a (hW G)).trans N;have MO:d.length<64:=by have:=Ū C0 O;simp at this;lia
   show b8 (t6 ?_);rw[ť rfl];show b8 (qH (s:={s with heap:=h' }) YW λr hr=>?_);show b8 (df ?_);have em:((d++[p]).map (·.1)).filter (λx=>cK (x∉g))=(d.map (·.1)).filter (λx=>cK (x∉g))++if p.1∈g then [] else [p.1]:=by
    rw[i3,Ql];congr 1
    by_cases z:p.1∈g<;>simp[z]
   by_cases z:p.1∈g
   .rw[Ŧ (by rw[hr,Ũ z];simp)];show df ?_;show b8 (ly (s:={s with heap:=h' }) WC y ?_);show df (T _ ⟨h',rfl,i,?_⟩);rw[em,ť z,t4];show u
   .rw[ť (by rw[hr,ŧ z];rfl)];show b8 (lq (s:={s with heap:=h' }) u (by
     have:((d.map (·.1)).filter λx=>cK (x∉g)).length<=d.length:=vr (sx _ _) (by simp);have MU:D8=4096:=rfl;lia) λk n t=>?_)
    show df ?_;show b8 (ly (s:={s with heap:=k}) ((n.2 a (hW G)).trans WC) y ?_);show df (T _ ⟨k,rfl,i.trans n,?_⟩);rw[em,Ŧ z];rw[Ŧ (λq=>YV (my.mp q).1)]at t;show t
  .subst C;show df ?_;show df (h h' (keep h' i) (u.perm ?_));show B.filter _
end
def m7:ā table "set.__sub__"=a5 Ot.«frozenset.__sub__» :=
 ZT (id':="frozenset.__sub__") (by kernel_rfl) rfl (by decide +kernel) (by kernel_rfl)
section
def kN(n:a≠b)(g:aU prog w s.heap a (aI w) j)(i:aU prog w s.heap b (aI w) k)(p:j.length<64)(q:k.length<64)
  (h:∀h',(∀c o,s.heap.get? c=a5 o->h'.get? c=a5 o)->aU prog w h' s.heap.objs.size (aI w) (j.filter λx=>cK (x∉k))->Q (.ref s.heap.objs.size) {s with heap:=h' }):d3 (eH prog w) A (PM .Sub (.ref a) (.ref b)) Q E s:=by
 show wpAny_binaryOp_same (T:="set") g.ty i.ty PySem.F.fills_set_sub PySem.F.slot_set_sub (K' PySem.F.slot_set_sub g.ty m7 ?_ (PySem.F.args_set_sub_2 _ _));unfold Ot.«frozenset.__sub__»;change d3 (eH prog w) _ (do
  let x <-VH "__sub__" ⟨[.ref a,.ref b],[]⟩
  match x with
  |(self,f) =>
   match if cc=bD then(f,self) else(self,f) with
   |(l,r)=>do
    let c <-K1 l <&&> K1 r
    if (!c)=bD then do
      Ā (Si "frozenset."++Si "__sub__"++Si ".declined")
      ret Value.notImplemented
     else do
      let d <-Vo l
      let e <-P2 (Si "frozenset."++Si "__sub__") d r
      ret e) _ _ _
 show b8 (m:=VH "__sub__" ⟨[.ref a,.ref b],[]⟩) (df (a:=(lg a,lg b)) ?_)
 dsimp only
 show b8 (b8 (gw g ?_));change d3 _ _ (K1 (.ref b)) _ _ _;show gw i ?_;rw[Ŧ (by simp)];show b8 (df ?_);show b8 (yy n g i p q λh' hk hs=>?_);show df ⟨_,rfl,(λz=>by cases z),h h' hk hs⟩
end
section
def sG(m:X.calm=bD)(I:Inv X pins σ H s)(hq:Ko X.K H p (f.map V.str)\/KA X.K H p (f.map V.str))(i:f.length+1<D8)
  (h:∀(S:d8) (o:Obj) (s1:d6),s.heap.objs.size<=S->s1.heap.get? S=a5 o->aU X.prog X.w s1.heap S (aI X.w) (aD f)->Inv X ((S,o)::pins) σ H s1->Q (.ref S) s1) :
  d3 (eH X.prog X.w) X.A (OS (.type "set") [.ref p]) Q X.xe s:=by
 have j:X.A.handled=b6:=I.ok.hd m;have d:∀(h':KX) (a:Nat),aU X.prog X.w h' s.heap.objs.size (aI X.w) (aD f)->(∀b o,b<s.heap.objs.size->s.heap.get? b=a5 o->h'.get? b=a5 o)->Q (.ref s.heap.objs.size) {s with heap:=h',toks:=a}:=λh' a c k=>by
  have⟨L,es,ep,t,ho,r⟩:=_root_.id c;have l:Inv X pins σ H {s with heap:=h',toks:=a}:=I.kept λb o e=>k b o (ez e) e;show h _ _ _ (hV _) ho c (l.eF λq hq=>?_);rcases d7.mp hq with rfl|hq
  .show⟨ho,I.JV.fresh (hV _),K2 I.lt,I.Eu (hV _),λv z=>nomatch z⟩
  .show l.pin q (mx _ hq)
 rcases hq with hq|hq
 .have⟨n,rv,g,hz⟩:=I.list hq;show fQ j g.isList (cM rv) i λh' a c k=>d h' a c k
 .have⟨n,rv,g,hz⟩:=I.tuple hq;show gQ j g (cM rv) i λh' a c k=>d h' a c k
end
def sH:RY (.type "list_reverseiterator") "__len__"=pure b6:=by rw[S9,O4];kernel_rfl
def yz:RY (.type "list_reverseiterator") "__length_hint__"=pure (a5 (.builtin "list_reverseiterator.__length_hint__")):=by rw[S9,O4];kernel_rfl
def pz:OZ (.type "list_reverseiterator") (.type "list_reverseiterator")=pure bD:=by rw[Kv];kernel_rfl
section
variable{I:d8}{fp wr:List d8}{G:Array Z3->Array Z3->Prop}{n:Nat}{P:Nat->dV->Prop}{St:Nat->d6->Prop}
def sI(W:ę prog w A.in1 I fp wr G n P St)(c:∀i s,St i s->s.TypeIs (.ref I) "list_reverseiterator")(S:d8)(res:dV)(j:Nat)(a:St 0 s)(h:S∉fp)(k:I∈fp)
  (l:s.heap.get? S=a5 {cls:=.type "list",data:=.seq #[] j})
  (m:∀s' d b,Moved (S::wr) G s s'->s'.heap.get? S=a5 {cls:=.type "list",dict:=b6,data:=.seq d b,slots:=#[]}->ı P d n->R (.ok (.ret res)) s') (o:n<=cL) :
  d3 (eH prog w) A.in1 (tv (.ref S) (.ref I) res)
   (λg s'=>match g with|.done f=>R (.ok f) s'|.again b=>b.quiet=bD/\Rq (eH prog w) A b R s') (λe s'=>R (.error e) s') s:=by
 have p:S≠I:=λe=>h (e▸k);unfold tv;show b8 (W_ (c 0 _ a) ?_);have q:Ou (.ref S) (.ref I)=cc:=by simp[Ou,p]
 have r:(sL "list_reverseiterator"==sL "list")=cc:=by decide
 have t:(sL "list_reverseiterator"==sL "tuple")=cc:=by decide
 simp only[q,r,t,YY,Ma,if_false];show b8 (W.self 0 _ _ _ a ?_);show b8 (t6 ?_);unfold VN;show b8 (Vr (c 0 _ a) sH ?_);change d3 _ A.in1 (specialOf (lg I) (Su "__length_hint__") >>= _) _ _ _;show b8 (Vr (c 0 _ a) yz ?_);have u:splitId "list_reverseiterator.__length_hint__"=a5 ("list_reverseiterator","__length_hint__"):=by decide +kernel
 dsimp only
 rw[u]
 dsimp only
 show b8 (PY (c 0 _ a) pz ?_);rw[Ŧ (by decide)];rw[ť (by decide +kernel)];rw[Ŧ (by decide +kernel)];show df ?_;rw[Ŧ (by decide +kernel)];show df ⟨Uc PySem.F.plain_extend_loop _,Ă W o _ h _ n 0 _ _ _ rfl (ke _) a l (Č P) λs' d b v x y=>?_⟩;show m s' d b v x y
def m8(W:ę prog w A.in1 I fp wr G n P St)(p:∀i s,St i s->s.TypeIs (.ref I) "list_reverseiterator")(S:d8)(q:St 0 s)(l:S∉fp)(r:I∈fp)
  (g:s.heap.get? S=a5 {cls:=.type "list",data:=.seq #[]})
  (t:∀s' d a,Moved (S::wr) G s s'->s'.heap.get? S=a5 {cls:=.type "list",dict:=b6,data:=.seq d a,slots:=#[]}->ı P d n->R (.ok (.ret .none)) s') (u:n<=cL) :
  d3 (eH prog w) A.in1 (Ot.«list.__init__» ⟨[.ref S,.ref I],[]⟩)
   (λj s'=>match j with|.done f=>R (.ok f) s'|.again a=>a.quiet=bD/\Rq (eH prog w) A a R s') (λe s'=>R (.error e) s') s:=by
 change d3 _ A.in1 (do let k <-WM (.ref S);Ŋ (.ref S) (λ_=>#[]);letGo k.toList.reverse;tv (.ref S) (.ref I) .none) _ _ s;show b8 ?_;unfold WM;show b8 (V4 g rfl (df ?_));change d3 _ A.in1 (ļ S (λ_=>#[]) >>= λ_=>letGo (#[]:Array dV).toList.reverse >>= λ_=>tv (.ref S) (.ref I) .none) _ _ s;show b8 (SX g rfl ?_);have v:=t7 (ri (λ_=>(#[]:Array dV))) g rfl;have m:∀b o,b≠S->s.heap.get? b=a5 o->(s.heap.update S (ri (λ_=>(#[]:Array dV)))).get? b=a5 o :=
  λb o c e=>(NM _ _ (nC c)).trans e
 show b8 (wpAny_letGo ?_);show sI W p S .none _ (W.frame 0 s _ s.toks q (hV _) λb c o e=>m b o (λh=>l (h▸c)) e) l r v (λs' d a x y z=>?_) u;show t s' d a (İ W.gtrans ((Moved.refl W.grefl).then_heap (hV _) λb o c e=>m b o (λh=>c (h▸mf)) e) x) y z
def qL(W:ę prog w A.in1.in1 I fp wr G n P St)(h:∀i s,St i s->s.TypeIs (.ref I) "list_reverseiterator")(j:St 0 s)(k:∀b∈fp,b<s.heap.objs.size)(l:I∈fp)
  (m:∀s' a c,Moved (s.heap.objs.size::wr) G {s with heap:=s.heap.push {cls:=.type "list",data:=.seq #[]}} s' ->
   s'.heap.get? s.heap.objs.size=a5 {cls:=.type "list",dict:=b6,data:=.seq a c,slots:=#[]}->ı P a n->Q (.ref s.heap.objs.size) s') (p:n<=cL) :
  d3 (eH prog w) A (OS (.type "list") [.ref I]) Q E s:=by
 have q:s.heap.objs.size∉fp:=λd=>uv _ (k _ d);show callType_codes (Q₁:=λobj f=>obj=.ref s.heap.objs.size/\f={s with heap:=s.heap.push {cls:=.type "list",data:=.seq #[]}}) PySem.F.called_list (PySem.F.typeCall_list_1 _) PySem.F.entry_list_init
  (code_list_new _ ⟨rfl,rfl⟩) λobj f r=>?_
 have⟨rfl,rfl⟩:=r;have g:(s.heap.push {cls:=.type "list",data:=.seq #[]}).get? s.heap.objs.size=a5 {cls:=.type "list",data:=.seq #[]}:=fx _ rfl;show⟨⟨_,g,rfl⟩,PySem.F.args_list_init_2 _ _,m8 W h _ (W.frame 0 s _ s.toks j (hV _) λb _ o e=>c2 _ e) q l g (λs' a c d t u=>?_) p⟩;show⟨rfl,m s' a c d t u⟩
open AutoSeq1 (wpAny_loadPart') in
end
section
def iK(a:s.heap.IsTupleIter it l i)
  (hl:s.heap.IsTuple l b) (d:b[i]?=a5 x)
  (e:∀h',h'.IsTupleIter it l (i+1)->nc it s.heap h'->Q x {s with heap:=h' }) :
  d3 (eH prog w) A (Lf (.ref it)) Q E s:=by
 have⟨o,ho,f,c⟩:=id a;obtain⟨j,g,_,k,h⟩:=hl;unfold Lf;show b8 (Rf (name:=Su "__next__") a.typeIs PySem.F.slot_tuple_iterator_next
  (K' PySem.F.slot_tuple_iterator_next a.typeIs PySem.F.entry_tuple_iterator_next ?_ (PySem.F.args_tuple_iterator_next_1 _)))
 change d3 _ _ (Ŕ (.ref it) 0 >>= _) _ _ s;show b8 (V5 ho c (x:=.ref l) rfl ?_);change d3 _ _ (if (lg l==nH)=bD then _ else _) _ _ s;rw[Ŧ (show ¬((lg l==nH)=bD) from i7)];change d3 _ _ (Ŕ (.ref it) 1 >>= _) _ _ s;show b8 (V5 ho c (x:=.int i 0) rfl ?_);change d3 _ _ (Õ (.ref l) >>= _) _ _ s;show b8 (V4 g h ?_);simp only[Ra,d];show b8 (NQ ho c (by simp) (df ⟨x,rfl,df (e _ ?_ (x2 ..))⟩));show⟨_,t7 _ ho (UT (N0 c _)),(Wz ..).trans f,by
  rw[N0 c];simp[u7]⟩
def eW(f:A.handled=b6)
  (b:s.heap.IsTupleIter it l i) (hl:s.heap.IsTuple l c) (g:c[i]?=b6)
  (h:∀h' e,Ł it s.heap h'->(∃o,h'.get? e=a5 o/\o.cls=.type "StopIteration")->E (.ref e) {s with heap:=h' }) :
  d3 (eH prog w) A (Lf (.ref it)) Q E s:=by
 have⟨o,ho,n,d⟩:=id b;obtain⟨p,j,_,q,k⟩:=hl;unfold Lf;show b8 (Rf (name:=Su "__next__") b.typeIs PySem.F.slot_tuple_iterator_next
  (K' PySem.F.slot_tuple_iterator_next b.typeIs PySem.F.entry_tuple_iterator_next ?_ (PySem.F.args_tuple_iterator_next_1 _)))
 change d3 _ _ (Ŕ (.ref it) 0 >>= _) _ _ s;show b8 (V5 ho d (x:=.ref l) rfl ?_);change d3 _ _ (if (lg l==nH)=bD then _ else _) _ _ s;rw[Ŧ (show ¬((lg l==nH)=bD) from i7)];change d3 _ _ (Ŕ (.ref it) 1 >>= _) _ _ s;show b8 (V5 ho d (x:=.int i 0) rfl ?_);change d3 _ _ (Õ (.ref l) >>= _) _ _ s;show b8 (V4 j k ?_);simp only[Ra,g];show b8 (PL (b8 (NQ ho d (by simp) ?_)));change d3 _ _ (à (.type "StopIteration") [] >>= _) _ _ _;show b8 ?_;simp only[à,Œ];show b8 (wk ?_ (by size_fits));show b8 (m:=V_ _ _) (YF (a:=nH) (by first|rfl|(simp only[V_];rfl)) ?_);show wk ?_ (by size_fits);simp only[ZO];show b8 (wpAny_handled ?_)
 first|rw[show A.in1.handled=b6 from f]|rw[f]
 show b8 (df (wpAny_throw ?_));show h _ _ (((x2 ..).extBut.push _).push _) ⟨_,fx _ rfl,rfl⟩
end
def qM(d:A.handled=b6)(it l:d8)(f:l≠it)(a:Array dV):
  Draws prog w A it [it,l] a.size (λi v=>a[i]?=a5 v) (λi h=>h.IsTupleIter it l i/\h.IsTuple l a) where
 live:=λ_ _ st=>let ⟨o,ho,_⟩:=st.1;⟨o,ho⟩
 frame:=λ_ _ _ st hk=>⟨st.1.at λo e=>hk it (by simp) o e,let ⟨o,ho,r⟩:=st.2;⟨o,hk l (by simp) o ho,r⟩⟩
 item:=λi s Q E b st g=>by
  show iK st.1 st.2 (x:=a[i]) (by simp[b]) λh' j c=>?_;show g _ h' s.toks (by simp[b]) ⟨j,let ⟨o,ho,r⟩:=st.2;⟨o,(c.2 l f).trans ho,r⟩⟩ c
 done:=λs Q E st k=>eW d st.1 st.2 (by simp) k
open AutoSeq1 (wpAny_loadPart') in
def lz(l:d8)(a:Array dV)(n:Nat)(e:Option d8)(f:Array (Option dV)):
  Meets (Ot.«enumerate.__new__» ⟨[.type "enumerate",.ref l],[]⟩) (λ_ R s=>s.heap.get? l=a5 {cls:=.type "tuple",dict:=e,data:=.seq a n,slots:=f} /\
   R (.ok (.ret (.ref (s.heap.push {cls:=.type "tuple_iterator",data:=.fields #[.ref l,.int 0 0]}).objs.size)))
    {s with heap:=(s.heap.push {cls:=.type "tuple_iterator",data:=.fields #[.ref l,.int 0 0]}).push {cls:=.type "enumerate",data:=.fields #[.none,.bool cc,.ref s.heap.objs.size,u7 0,.none,.none]}}) :=
 .of_wp λprog w A R s h=>by
  have⟨i,g,d,j,os⟩:=s;have⟨hl,h⟩:=h;have k:=sub_enumerate;have b:Heap.IsTuple (Shared.heap ⟨i,g,d,j,os⟩) l a:=⟨_,hl,rfl,n,rfl⟩
  wp_walk using Vu hl
  show wpAny_stack_any λst=>df ?_;split
  .rename_i c _ _ _ _ _;cases(c==sL "enumerate")
   .wp_walk using Vu hl,QV b
    show⟨_,rfl,h⟩
   .wp_walk using Vu hl,QV b
    show⟨_,rfl,h⟩
  .wp_walk using Vu hl,QV b
   show⟨_,rfl,h⟩
section
def fS(g:s.heap.IsTuple l a)
  (h:∀h',æ h' (s.heap.objs.size+1) s.heap.objs.size 0 .none->h'.IsTupleIter s.heap.objs.size l 0->h'.objs.size=s.heap.objs.size+2 ->
   (∀b o,s.heap.get? b=a5 o->h'.get? b=a5 o)->Q (.ref (s.heap.objs.size+1)) {s with heap:=h' }) :
  d3 (eH prog w) A (OS (.type "enumerate") [.ref l]) Q E s:=by
 obtain⟨⟨c,i,j,k⟩,hl,d,n,e⟩:=g
 replace d:c=.type "tuple":=d
 replace e:j=.seq a n:=e
 subst d e;show callType_new PySem.F.called_enumerate (by decide) (PySem.F.typeCall_enumerate_1 _) (PySem.F.newCall_enumerate_1 _) (λobj=>PySem.F.args_object_init_2 obj _) PySem.F.entry_enumerate_new
  (lz l a n i k) ⟨hl,?_⟩
 have hz:(s.heap.push {cls:=.type "tuple_iterator",data:=.fields #[.ref l,.int 0 0]}).objs.size=s.heap.objs.size+1:=XX ..;change _/\_;rw[hz];have f:æ ((s.heap.push {cls:=.type "tuple_iterator",data:=.fields #[.ref l,.int 0 0]}).push
   {cls:=.type "enumerate",data:=.fields #[.none,.bool cc,.ref s.heap.objs.size,u7 0,.none,.none]}) (s.heap.objs.size+1) s.heap.objs.size 0 .none:=by
  have:=fx (s.heap.push {cls:=.type "tuple_iterator",data:=.fields #[.ref l,.int 0 0]})
   (o:={cls:=.type "enumerate",data:=.fields #[.none,.bool cc,.ref s.heap.objs.size,u7 0,.none,.none]}) rfl
  rw[hz]at this;show this
 show⟨⟨_,f,rfl⟩,h _ f ⟨_,c2 _ (fx _ rfl),rfl,rfl⟩ (by rw[XX,hz]) λb o x=>c2 _ (c2 _ x)⟩
end
end L2
namespace L2
open PySem PySem.Spec PyProof.Rows
section
def Inv.pA{ch:List d8}(I:Inv X pins σ H s)(d:∀b∈ch,iB X pins H b)(k:∀b o,b∉ch->s.heap.get? b=a5 o->h'.get? b=a5 o):Inv X pins σ H {s with heap:=h',toks:=t' }:=by
 have f:∀b u,H b=a5 u->b∉ch:=λb u e z=>by rw[(d b z).1]at e;cases e
 show I.step (g':=s.gens) (d':=s.drawn) (ch:=ch) (λb g=>?_) (λb o _ _ a e _=>k b o a e) (λb o _ _ a e _=>⟨o.slots,k b o a e⟩) (λ_ _ _ _ n=>n)
  (λb o a e=>⟨o,k b o a e⟩) (λ_ _ e=>e) (λ_ _ _ e=>e) (λb ps e=>⟨#[],by rw[e];simp⟩) (λm h=>?_) (λb u e=>?_) I.bare
 .have⟨t,i,w,j,l,p⟩:=d b g;show⟨j,i,l,p⟩
 .have⟨o,es,ep,ho,r⟩:=h;show⟨o,es,ep,k _ o (λz=>(d _ z).2.1 rfl) ho,r⟩
 .show(I.JV b u e).fI (λc v a q=>k c v ?_ q) (λ_ q=>q) λ_ _ q=>q;rcases a with z|z
  .rw[z];show f b u e
  .show f c _ z
def Inv.lA{ch:List d8}(I:Inv X pins σ H s)(g:∀b∈ch,iB X pins H b)(k:∀b o,b∉ch->s.heap.get? b=a5 o->h'.get? b=a5 o)(h:s.heap.objs.size<=T)(new:bI X.prog X.w (upd H T o) h' T o):
  Inv X pins σ (upd H T o) {s with heap:=h',toks:=t' }:=by
 have i:Inv X pins σ H {s with heap:=h',toks:=t' }:=I.pA g k;have j:H T=b6:=I.JV.fresh h;have l:∀b o,s.heap.get? b=a5 o->b≠T:=λb o e z=>by rw[z]at e;show absurd (i5 (ez e) h) (uv _)
 have a:∀b u,H b=a5 u->b≠T:=λb u e z=>by rw[z,j]at e;cases e
 show I.step (g':=s.gens) (d':=s.drawn) (ch:=ch) (λb f=>?_) (λb o _ _ d e _=>k b o d e) (λb o _ _ d e _=>⟨o.slots,k b o d e⟩) (λb o _ e n=>by rw[ak (l b o e)];show n)
  (λb o d e=>⟨o,k b o d e⟩) (λb _ e=>by rw[ak (a b _ e)];show e) (λb _ _ e=>by rw[ak (a b _ e)];show e) (λb ps e=>⟨#[],by rw[ak (a b _ e),e];simp⟩) (λm p=>?_) (λb u e=>?_) I.bare
 .have⟨B,t,C,x,y,A⟩:=g b f;show⟨x,t,y,A⟩
 .have⟨o,es,ep,ho,r⟩:=p;show⟨o,es,ep,k _ o (λz=>(g _ z).2.1 rfl) ho,r⟩
 .by_cases f:b=T
  .subst f;rw[ax]at e;cases e;show new
  .rw[ak f]at e;show(i.JV b u e).fI (λc v _ q=>q) (λc q=>by rw[ak (a c _ q)];show q) λc xs q=>by rw[ak (a c _ q)];show q
end
abbrev Qk(a:Hp->List V->Prop):It :=
 ⟨λi H=>∃xs x,a H xs/\xs[i]?=a5 x,λi H x H'=>∃p,H p=b6/\x=.ref p/\∀xs v,a H xs->xs[i]?=a5 v->H'=upd H p (.tup [.int i,v]),λi H=>∃xs,a H xs/\xs.length<=i⟩
def nQ{K:PySem.W.Frag}(n:Hp->List V->Prop)(a e it:d8)(N:e≠it)(At:Nat->KX->Prop)(r:KX->Array dV->Prop)
  (LA:∀i h h',At i h->(∀o,h.get? it=a5 o->h'.get? it=a5 o)->At i h') (WD:∀i h,At i h->∃o,h.get? it=a5 o/\∀v,o.data≠.cell v)
  (Sy:∀(X:Cx) (pins:List (d8×Obj)) (s:d6) (σ:St) (H:Hp) (xs:List V),X.K=K->Inv X pins σ H s->n H xs->∃j:List dV,Vals xs j/\r s.heap j.toArray)
  (UN:∀(X:Cx) (pins:List (d8×Obj)) (s:d6) (σ:St) (H:Hp) (xs t:List V),X.K=K->Inv X pins σ H s->n H xs->n H t->xs=t)
  (Qj:∀h c i d,r h c->æ h e it i d->e≠a)
  (hD:∀(A:N5) (c:Array dV),A.handled=b6->Draws P w A it [it,a] c.size (λi v=>c[i]?=a5 v) (λi h=>At i h/\r h c))
  (N9:∀(A:N5) (s:d6) (i:Nat) (c:Array dV) (Q:dV->d6->Prop) (E:dV->d6->Prop),A.handled=b6->At i s.heap->r s.heap c->c[i]?=b6 ->
   (∀h' x,Ł it s.heap h'->(∃o,h'.get? x=a5 o/\o.cls=.type "StopIteration")->E (.ref x) {s with heap:=h' })->d3 (eH P w) A (Lf (.ref it)) Q E s) :
  Turn P w K (.Tuple es kx ps) (Qk n) [e,it] e (λi h=>(∃d,æ h e it i d)/\At i h) where
 mem:=by simp
 obj:=λi h st b f=>by
  obtain⟨⟨d,g⟩,hl⟩:=st;rcases d7.mp f with z|z
  .rw[z];show⟨_,g,λv z=>by
    have z':UW _=Y2 v:=z;cases z'⟩
  .rw[hY.mp z];show WD i h hl
 keep:=λi h h' ⟨⟨d,g⟩,hl⟩ k=>⟨⟨d,k e (by simp) _ g⟩,LA i h h' hl λo q=>k it (by simp) o q⟩
 item:=by
  intro X O Y B hc i pins s σ H E I C ⟨⟨d,g⟩,hl⟩ hg;subst O Y;have⟨xs,x,G,hx⟩:=hg;have⟨j,rv,p⟩:=Sy X pins s σ H xs B I G;have⟨u,hu,ru⟩:=rv.get hx;have Ka:i<j.toArray.size:=by simpa using(dt.mp hu).1
  have D:=hD X.A.in1 j.toArray (by simpa using I.ok.hd hc);have UO:=Qj _ _ _ _ p g;show wpAny_pyNext_enum_itemD D g ⟨hl,p⟩ Ka N (by simp[N,UO]) λy h1 l J ho st1 L hsz hk=>?_;have ey:y=u:=by
   have:j.toArray[i]?=a5 u:=by simpa using hu
   rw[this]at J;cases J;rfl
  subst ey;show⟨_,rfl,wpAny_letOwnedTupleGo_enum (s:={s with heap:=h1,toks:=l+1}) ho λm Sz Li=>?_⟩;have WE:e<s.heap.objs.size:=ez g;have UP:m.get? s.heap.objs.size=a5 {cls:=.type "tuple",data:=.seq #[.int i l,y]}:=(Li.2 _ (K2 WE)).trans L;have k2:∀b o,b∉[e,it]->s.heap.get? b=a5 o->m.get? b=a5 o:=λb o f q=>by
   simp only[d7,vl,or_false,not_or]at f;show(Li.2 b f.1).trans (hk b o f.1 f.2 q)
  have I2:Inv X pins σ (upd H s.heap.objs.size (.tup [.int i,x])) {s with heap:=m,toks:=l+1}:=I.lA C k2 (hV _)
   (show bI X.prog X.w _ m _ (.tup [.int i,x]) from⟨by change 2<=cL;decide,[.int i l,y],.cons ⟨l,rfl⟩ (.cons ru .nil),⟨_,UP,rfl,_,rfl⟩⟩)
  show⟨.ref s.heap.objs.size,_,I2,rfl,⟨_,I.JV.fresh (hV _),rfl,λt v J hv=>?_⟩,⟨⟨_,Sz⟩,LA (i+1) h1 m st1.1 λo q=>(Li.2 it (nC N)).trans q⟩,λb f=>?_⟩
  .have:=UN X pins s σ H t xs B I J G;subst this;rw[hx]at hv;cases hv;rfl
  .have KI:b≠s.heap.objs.size:=by
    rcases d7.mp f with z|z
    .rw[z];show hW WE
    .rw[hY.mp z];obtain⟨o,q,_⟩:=WD i _ hl;show hW (ez q)
   rw[ak KI];show(C b f).1
 done:=by
  intro X O Y B hc i pins s σ H E I C ⟨⟨d,g⟩,hl⟩ hg;subst O Y;have⟨xs,G,hx⟩:=hg;have⟨j,rv,p⟩:=Sy X pins s σ H xs B I G;have ab:=rv.length;have L:s.TypeIs (.ref e) "enumerate":=⟨_,g,rfl⟩
  unfold U_;show b8 (wpAny_attempt (Rf (name:=Su "__next__") L PySem.F.slot_enumerate_next
   (K' PySem.F.slot_enumerate_next L PySem.F.entry_enumerate_next ?_ (PySem.F.args_enumerate_next_1 _))))
  change d3 _ _ (Ŕ (.ref e) 2 >>= _) _ _ _;show b8 (V5 g rfl (x:=.ref it) rfl ?_);show b8 (N9 _ _ i j.toArray _ _ (by simpa using I.ok.hd hc) hl p (by simp;lia) λh' x Uk QT=>?_);have⟨o,ho,Nn⟩:=QT;show b8 (PY (T:="StopIteration") (b:=bD) ⟨o,ho,Nn⟩ œ ?_);show df ⟨rfl,I.pA (t':=s.toks) (ch:=[it]) (λb f=>C b (ko _ f)) λb o f q=>Uk b o (λz=>f (by simp[z])) q⟩
 self:=λA i s Q E ⟨⟨d,g⟩,hl⟩ h=>Xo g h
section
variable{X:Cx}{es:List kr}{kx:Nat}{ps p pos:Pos}
def wJ:t5 "enumerate"=a5 (.type "enumerate"):=by decide +kernel
abbrev Jx(K:PySem.W.Frag)(c:TA):TI:=λσ H R=>c σ H λvs b=>∃a,vs=[.ref a]/\((∃xs,Ko K b a xs)/\R (Qk λH xs=>Ko K H a xs) b\/(∃xs,KA K b a xs)/\R (Qk λH xs=>KA K H a xs) b)
def E_(a e it:d8)(n:e≠it)(q:a≠it):Turn X.prog X.w X.K (.Tuple es kx ps) (Qk λH xs=>Ko X.K H a xs) [e,it] e (λi h=>(∃c,æ h e it i c)/\h.IsListIter it a i):=by
 show nQ _ a e it n (λi h=>h.IsListIter it a i) (λh b=>h.IsList a b) (λi h h' x k=>x.at k) (λi h ⟨o,ho,j,r⟩=>⟨o,ho,λv z=>by rw[r]at z;cases z⟩)
  (λY pins s σ H xs f I l=>?_) (λY pins s σ H xs D f I d m=>?_) (λh b i c ⟨o,ho,j,_⟩ t z=>?_) (λA b g=>Draws.list g it a q b) (λA s i b Q E g hl u d y=>wpAny_nextOf_list_end g hl u d y)
 .rw[<-f]at l;have⟨B,rv,p,hz⟩:=I.list l;show⟨B,rv,p.isList⟩
 .rw[<-f]at d m;show I.kW d m
 .rw[<-z,t]at ho;cases ho;have C:sL "enumerate"=sL "list":=j;show absurd C (by decide)
def Fb(a e it:d8)(n:e≠it)(q:a≠it):Turn X.prog X.w X.K (.Tuple es kx ps) (Qk λH xs=>KA X.K H a xs) [e,it] e (λi h=>(∃c,æ h e it i c)/\h.IsTupleIter it a i):=by
 show nQ _ a e it n (λi h=>h.IsTupleIter it a i) (λh b=>h.IsTuple a b) (λi h h' x k=>x.at k) (λi h ⟨o,ho,j,r⟩=>⟨o,ho,λv z=>by rw[r]at z;cases z⟩)
  (λY pins s σ H xs f I l=>?_) (λY pins s σ H xs D f I d m=>?_) (λh b i c ⟨o,ho,j,_⟩ t z=>?_) (λA b g=>qM g it a q b) (λA s i b Q E g hl u d y=>eW g hl u d y)
 .rw[<-f]at l;have⟨B,rv,p,hz⟩:=I.tuple l;show⟨B,rv,p⟩
 .rw[<-f]at d m;show I.nj d m
 .rw[<-z,t]at ho;cases ho;have C:sL "enumerate"=sL "tuple":=j;show absurd C (by decide)
def BV(m:Gl X "enumerate")(n:X.mg "enumerate"=b6)(t:PA X [a] v)(hs:hZ [a] X.env=[(cc,ve a X.env)]):PI X (.Tuple es kx ps) (.Call (.Name "enumerate" p) [a] [] pos) (Jx X.K v):=by
 intro pins s σ H R I h;show Call_ (cW I m n wJ (K5 (JZ (t pos pins s σ H _ I h) λus s1 ⟨vs,i,c,w,x⟩=>?_) hs rfl));have⟨a',e,q⟩:=x;subst e;have⟨u,rfl,r⟩:=vals1 w;cases r;have d:s1.heap.objs.size+1≠s1.heap.objs.size:=Nat.succ_ne_self _;have f:∀(h':KX),(∀b∈[s1.heap.objs.size+1,s1.heap.objs.size],iB X pins i b):=λh' b y=>by
  have l:s1.heap.objs.size<=b:=by
   rcases d7.mp y with z|z
   .rw[z];show ME _
   .rw[hY.mp z];show hV _
  show c.v_ l (c.JV.fresh l)
 rcases q with⟨⟨xs,j⟩,q⟩|⟨⟨xs,j⟩,q⟩
 .have⟨A,rv,p,hz⟩:=c.list j;have k:a'<s1.heap.objs.size:=let ⟨o,ho,_⟩:=p.isList;ez ho;show call_enumerate_list p.isList λh' g hl hsz hk=>?_;show Xo g ⟨_,[s1.heap.objs.size+1,s1.heap.objs.size],_,_,i,rfl,c.kept (t':=s1.toks) hk,E_ a' _ _ d (hW k),⟨⟨_,g⟩,hl⟩,f h',q⟩
 .have⟨A,rv,p,hz⟩:=c.tuple j;have k:a'<s1.heap.objs.size:=let ⟨o,ho,_⟩:=p;ez ho;show fS p λh' g hl hsz hk=>?_;show Xo g ⟨_,[s1.heap.objs.size+1,s1.heap.objs.size],_,_,i,rfl,c.kept (t':=s1.toks) hk,Fb a' _ _ d (hW k),⟨⟨_,g⟩,hl⟩,f h',q⟩
end
def BW{a:List dV}(h:ı (λi v=>a.toArray[a.toArray.size - 1 - i]?=a5 v) acc a.toArray.size):acc.toList=a.reverse:=by
 apply ñ;intro i;have hs:acc.size=a.length:=by have:=h.1;simpa using this
 by_cases c:i<a.length
 .have b:i<acc.size:=by lia
  have:=h.2 i (acc[i]'b) (by simp[b]);rw[r6,Ph b,Á c];simpa using this.symm
 .rw[Rn (by rw[hU];lia),Rn (by rw[Pz];lia)]
section
def qN(g:X.calm=bD)(I:Inv X pins σ H s)(j:Ko X.K H a xs)
  (h:∀c,Vals xs c->xs.length<=cL->∀(R:d8) (d:KX),R=s.heap.objs.size->d.objs.size=s.heap.objs.size+1->(∀b o,s.heap.get? b=a5 o->d.get? b=a5 o)->(∀B:N5,B.handled=X.A.handled ->
   Walks X.prog X.w B R [R,a] [R] c.toArray.size (λi v=>c.toArray[c.toArray.size - 1 - i]?=a5 v) (λi h=>i<=c.toArray.size/\h.IsRevIter R a ((c.toArray.size:Int) - 1 - (i:Int))/\h.IsList a c.toArray)) ->
   d.IsRevIter R a ((c.toArray.size:Int) - 1 - ((0:Nat):Int))->d.IsList a c.toArray->a<s.heap.objs.size->Q (.ref R) {s with heap:=d}):d3 (eH X.prog X.w) X.A (OS (.type "reversed") [.ref a]) Q X.xe s:=by
 have⟨c,rv,p,hz⟩:=I.list j;have f:a<s.heap.objs.size:=let ⟨o,ho,_⟩:=p.isList;ez ho;show call_reversed_list p.isList (h c rv hz _ _ rfl (by rw[Ms]) (λb o e=>c2 _ e) (λB k=>Walks.listRev (by rw[k];show I.ok.hd g) _ a (hW f) c.toArray) ?_ (p.isList.push _) f);show⟨_,fx _ rfl,rfl,?_⟩;change UW _=UW _;congr 3
 simp
def yA(n:X.calm=bD)(I:Inv X pins σ H s)(p:Ko X.K H a xs)(q:∀l,H l=b6->Q (.ref l) (upd H l (.lst xs.reverse))):
  d3 (eH X.prog X.w) X.A (OS (.type "reversed") [.ref a]) (λv s1=>d3 (eH X.prog X.w) X.A (OS (.type "list") [v]) (EP X pins σ Q) X.xe s1) X.xe s:=by
 show qN n I p λg rv hz R c h hsz hk r t hl u=>?_;have T:g.length=xs.length:=rv.length.symm;show qL (s:={s with heap:=c}) (r X.A.in1.in1 rfl).toS (λi s st=>st.2.1.typeIs) ⟨ke _,t,hl⟩ (λb d=>?_) (by simp) (λs' acc j f x y=>?_) (by simp;lia)
 .change b<c.objs.size;rw[hsz];rcases d7.mp d with z|z
  .rw[z,h];show Pj _
  .rw[hY.mp z];show Tv u
 .have⟨k,B,C,D,o2⟩:=s';have G:B=s.gens:=f.gens;have J:C=s.drawn:=f.drawn;have L:o2=s.os:=f.os;subst G J L;have k2:∀b o,s.heap.get? b=a5 o->k.get? b=a5 o:=λb o e=>f.heap b o (λz=>by
   have d:=ez e;rcases d7.mp z with z|z
   .rw[z]at d;have m:c.objs.size<s.heap.objs.size:=d;rw[hsz]at m;show absurd m (ĉ (Pj _))
   .rw[hY.mp z,h]at e;show absurd (ez e) (uv _)) (c2 _ (hk b o e))
  have N:=BW y;show⟨.ref c.objs.size,_,I.laid (t':=D) (o:=.lst xs.reverse) k2 (by rw[hsz];show ME _) ⟨by rw[Pz];show hz,g.reverse,j,rv.reverse,?_⟩,rfl,q _ (I.JV.fresh (by rw[hsz];show ME _))⟩;have O:k.get? c.objs.size=a5 {cls:=.type "list",dict:=b6,data:=.seq acc j,slots:=#[]}:=x;rw[O,<-N,Ä]
end
abbrev UR(K:PySem.W.Frag)(a:d8)(n:Nat):It :=
 ⟨λi H=>i<n/\∃xs,Ko K H a xs/\xs.length=n,λi H x H'=>H'=H/\∀xs,Ko K H a xs->xs[n - 1 - i]?=a5 x,λi _=>n<=i⟩
def yB{K:PySem.W.Frag}(a it:d8)(n:Nat):Turn P w K tg (UR K a n) [it] it (λi h=>i<=n/\h.IsRevIter it a ((n:Int) - 1 - (i:Nat))) where
 mem:=by simp
 obj:=λi h st b f=>by
  have e:b=it:=by simpa using f
  subst e;obtain⟨_,o,e,c,d⟩:=st;show⟨o,e,λv z=>by rw[d]at z;cases z⟩
 keep:=λi h h' st k=>⟨st.1,st.2.at λo e=>k it (by simp) o e⟩
 item:=by
  intro X j l m C i pins s σ H E I g st q;subst j l m;have⟨J,xs,D,hn⟩:=q;have⟨B',rv,p,hz⟩:=I.list D;have G:n - 1 - i<xs.length:=by lia
  have⟨u,L,N⟩:=rv.get (kj G);have⟨r,t,O,y,A,B⟩:=g it (by simp);have st2:s.heap.IsRevIter it a ((n - 1 - i:Nat):Int):=by rw[show((n - 1 - i:Nat):Int)=(n:Int) - 1 - (i:Nat) by lia];show st.2
  show wpAny_pyNext_rev_item st2 p.isList (x:=u) (by simpa using L) λh' st' Q=>?_;have T:Inv X pins σ H {s with heap:=h' }:=I.turned (t':=s.toks) (λb o f e=>(Q.2 b f).trans e) r t y A B;have⟨o,e,c,d⟩:=id st';show⟨u,rfl,uA (s:={s with heap:=h' }) e c d (by decide) ⟨_,H,T,N,⟨rfl,λys Y=>by rw[I.kW Y D];show kj G⟩,⟨⋯,by rw[show(n:Int) - 1 - ((i+1:Nat):Int)=((n - 1 - i:Nat):Int) - 1 by lia];show st'⟩,λb f=>(g b f).1⟩⟩
 done:=by
  intro X j l m C i pins s σ H E I g st q;subst j l m;have J:n<=i:=q;have⟨r,t,O,y,A,B⟩:=g it (by simp);have st2:s.heap.IsRevIter it a (-1):=by rw[show(-1:Int)=(n:Int) - 1 - (i:Nat) by have:=st.1;lia];show st.2
  show wpAny_pyNext_rev_end (I.ok.hd C) st2 λh' eb=>⟨rfl,I.turned (t':=s.toks) (λb o f e=>eb b o f e) r t y A B⟩
 self:=λ_ _ _ _ _ st h=>ü st.2 h
section
def wK:t5 "reversed"=a5 (.type "reversed"):=by decide +kernel
abbrev Jy(K:PySem.W.Frag)(c:TA):TI:=λσ H R=>c σ H λvs b=>∃a xs,vs=[.ref a]/\Ko K b a xs/\R (UR K a xs.length) b
def Fc(i:X.calm=bD)(j:Gl X "reversed")(k:X.mg "reversed"=b6)(l:PA X [a] m)(hs:hZ [a] X.env=[(cc,ve a X.env)]):PI X A (.Call (.Name "reversed" p) [a] [] pos) (Jy X.K m):=by
 intro pins s σ H R I h;show Call_ (cW I j k wK (K5 (JZ (l pos pins s σ H _ I h) λus s1 ⟨vs,n,c,o,t⟩=>?_) hs rfl));have⟨a',xs,e,v,q⟩:=t;subst e;have⟨u,rfl,r⟩:=vals1 o;cases r;show qN i c v λw rv hz f B x hsz hk C d hl D=>?_;have y:w.toArray.size=xs.length:=by simpa using rv.length.symm
 rw[y]at d;show ü d ⟨_,[f],_,_,n,rfl,c.kept (t':=s1.toks) hk,yB a' f xs.length,⟨ke _,d⟩,λb z=>?_,q⟩;have g:s1.heap.objs.size<=b:=by rw[hY.mp z,x];show hV _
 show c.v_ g (c.JV.fresh g)
end
end L2
namespace L2
open PySem PySem.W PyProof.Rows
section
def Inv.freeze(I:Inv X pins σ H s)(a:H r=a5 (.dK kvs))(ho:s.heap.get? r=a5 o):Inv X pins σ (upd H r (.KY o (.dK kvs))) s:=by
 have c:∀b u,H b=a5 u->u≠.dK kvs->b≠r:=λb u e n z=>by subst z;rw[a]at e;cases e;show n rfl
 show I.write (t':=s.toks) (x:=r) (e:=r) (by rw[a];trivial) (.inl rfl) (λb u _ q=>q) ⟨o,ho⟩ ⟨ho,(I.JV r _ a).fI (λ_ _ _ q=>q) (λb q=>by rw[ak (c b _ q (λz=>by cases z))];show q) λb xs q=>by rw[ak (c b _ q (λz=>by cases z))];show q⟩
def Fd(h:PE X e b):PE X e (λσ H Q=>∃r kvs,H r=a5 (.dK kvs)/\∀o,b σ (upd H r (.KY o (.dK kvs))) Q):=by
 intro pins s σ H Q I ⟨r,kvs,a,c⟩;obtain⟨_,_,vs,_,o,es,ep,ho,_⟩:=(show bI X.prog X.w H s.heap r (.dK kvs) from I.JV r _ a)
 show h pins s σ _ Q (I.freeze a ho) (c o)
end
abbrev US(r:d8)(o:Obj)(kvs:List (Key×V)):It :=
 ⟨λi H=>H r=a5 (.KY o (.dK kvs))/\i<kvs.length,λi H x H'=>∃p,H p=b6/\x=.ref p/\∀k v,kvs[i]?=a5 (k,v)->H'=upd H p (.tup [kV k,v]),λi H=>H r=a5 (.KY o (.dK kvs))/\kvs.length<=i⟩
def Fe(h:(aS P w).is k u=bD):RelV (kV k) u:=by
 rcases bq (show jV k u=bD from h) with⟨i,t,rfl,rfl⟩|⟨y,t,rfl,rfl⟩
 .show⟨t,rfl⟩
 .show⟨t,rfl⟩
theorem DR:∀{kvs:List (Key×V)}{vs:List (Key×dV)},KV kvs vs->∀(i:Nat) (h:i<kvs.length) (h':i<vs.length),kvs[i].1=vs[i].1/\RelV kvs[i].2 vs[i].2
 |_,_,.cons a _,0,_,_=>a
 |_,_,.cons _ b,i+1,h,h'=>DR b i (by simpa using h) (by simpa using h')
def sJ{K:PySem.W.Frag}(g:o.data=.dict G ep):
  Turn P w K (.Tuple es kx ps) (US r o kvs) [it] it (λi h=>∃c d,IsItemIter h it r i kvs.length ep c d) where
 mem:=by simp
 obj:=λi h ⟨c,d,st⟩ b a=>by
  rw[hY.mp a];show⟨_,st,λv z=>by
    have z':UW _=Y2 v:=z;cases z'⟩
 keep:=λi h h' ⟨c,d,st⟩ k=>⟨c,d,k it (by simp) _ st⟩
 item:=by
  intro X n p hK J i pins s σ H E I j ⟨c,d,st⟩ t;subst n p;have⟨u,x⟩:=t;have⟨ho,z1,z2,vs,kv,o',YZ,N2,e,y,f,B⟩:=(show bI X.prog X.w H s.heap r (.KY o (.dK kvs)) from I.JV r _ u)
  rw[ho]at e;cases e;rw[g]at f;cases f;have hl:vs.length=kvs.length:=(Paired.length kv).symm;have C:s.heap.DictAt (aS X.prog X.w) r vs ep:=⟨o,G,ho,y,g,B⟩
  obtain⟨q,hq,e1,e2⟩:∃q,vs[i]?=a5 q/\kvs[i].1=q.1/\RelV kvs[i].2 q.2:=by
   have L:i<vs.length:=by lia
   show⟨vs[i],by simp[L],?_⟩;show DR kv i x L
  rw[<-hl]at st;show wpAny_pyNext_items_item st C (k:=q.1) (v:=q.2) hq λkey h1 hk D hT hsz Pk=>⟨_,rfl,wpAny_letOwnedTupleGo_items (s:={s with heap:=h1}) D λl N O=>?_⟩
  have T:it<s.heap.objs.size:=ez st;have UP:l.get? s.heap.objs.size=a5 {cls:=.type "tuple",data:=.seq #[key,q.2]}:=(O.2 _ (K2 T)).trans hT;have k2:∀b o,b∉[it]->s.heap.get? b=a5 o->l.get? b=a5 o:=λb o a q=>by
   have m:b≠it:=λz=>a (by simp[z]);show(O.2 b m).trans (Pk b o m q)
  have I2:Inv X pins σ (upd H s.heap.objs.size (.tup [kV kvs[i].1,kvs[i].2])) {s with heap:=l,toks:=s.toks}:=I.lA j k2 (hV _)
   (show bI X.prog X.w _ l _ (.tup [kV kvs[i].1,kvs[i].2]) from⟨by change 2<=cL;decide,[key,q.2],.cons (by rw[e1];show Fe hk) (.cons e2 .nil),⟨_,UP,rfl,_,rfl⟩⟩)
  show⟨.ref s.heap.objs.size,_,I2,rfl,⟨_,I.JV.fresh (hV _),rfl,λk v Y=>?_⟩,⟨_,_,by rw[hl]at N;show N⟩,λb a=>?_⟩
  .rw[kj x]at Y;rw[ti Y]
  .have m:b≠s.heap.objs.size:=by rw[hY.mp a];show hW T
   rw[ak m];show(j b a).1
 done:=by
  intro X n p hK J i pins s σ H E I j ⟨c,d,st⟩ t;subst n p;have⟨u,x⟩:=t;have⟨ho,z1,z2,vs,kv,o',YZ,N2,e,y,f,B⟩:=(show bI X.prog X.w H s.heap r (.KY o (.dK kvs)) from I.JV r _ u)
  rw[ho]at e;cases e;rw[g]at f;cases f;have hl:vs.length=kvs.length:=(Paired.length kv).symm;have C:s.heap.DictAt (aS X.prog X.w) r vs ep:=⟨o,G,ho,y,g,B⟩
  rw[<-hl]at st;show wpAny_pyNext_items_end (by simpa using I.ok.hd J) st C (Rn ⋯) λh' QT=>⟨rfl,I.pA (t':=s.toks) j λb o a q=>QT b o (λz=>a (by simp[z])) q⟩
 self:=λA i s Q E ⟨c,d,st⟩ h=>kcp_self st h
section
abbrev Jz(i:Nat):TI:=λσ H R=>∃r o kvs,σ[i]?=a5 (a5 (.ref r))/\H r=a5 (.KY o (.dK kvs))/\R (US r o kvs) H
def yC(q:X.N[i]?=a5 x)(t:LJ X.env.scope x)(y:(x==("__debug__":Str))=cc)(A:(x==("__classdict__":Str))=cc)(B:(c.endLine==C.line)=bD):
  PI X (.Tuple es kx ps) (.Call (.Attribute (.Name x px) "items" c) [] [] C) (Jz i):=by
 intro pins s σ H R I ⟨r,o,kvs,hs,D,G⟩;show UM rfl B (JZ (bT q t y A pins s σ H (λv f=>v=.ref r/\f=H) I ⟨_,hs,rfl,rfl⟩) λv s1 J=>?_);have⟨x1,f,g,L,l,O⟩:=J;subst l O;cases(show v=lg r from L);have⟨ho,l,lo,vs,kv,o',j,ep,m,d,h,k⟩:=(show bI X.prog X.w f s1.heap r (.KY o (.dK kvs)) from g.JV r _ D)
 rw[ho]at m;cases m;have hl:vs.length=kvs.length:=(Paired.length kv).symm;have hm:s1.heap.DictAt (aS X.prog X.w) r vs ep:=⟨o,j,ho,d,h,k⟩
 have n:s1.TypeIs (.ref r) "dict":=⟨o,ho,d.1⟩
 show⟨"dict","dict.items",PySem.F.plainAttrs_dict,PySem.F.slot_dict_items,PySem.F.type_dict_items,n,λa e=>⟨o,by cases e;show ho,d.2.1⟩,H8 rfl (PySem.evalArgs_none (XG PySem.F.slot_dict_items n PySem.F.entry_dict_items (PySem.F.args_dict_items_1 _) (ľ (aS X.prog X.w) r lo) ⟨⟨vs,o,j,ep,ho,d,h,k⟩,?_⟩))⟩;have k1:∀b u,s1.heap.get? b=a5 u->(s1.heap.push {cls:=.type "dict_items",data:=.fields #[.ref r]}).get? b=a5 u:=λb u z=>c2 _ z;have Q:(s1.heap.push {cls:=.type "dict_items",data:=.fields #[.ref r]}).DictAt (aS X.prog X.w) r vs ep:=⟨o,j,k1 _ _ ho,d,h,k⟩
 show wpAny_pyIter_items (s:={s1 with heap:=s1.heap.push {cls:=.type "dict_items",data:=.fields #[.ref r]}}) ⟨_,fx _ rfl,rfl,rfl⟩ Q ?_;have hsz:(s1.heap.push {cls:=.type "dict_items",data:=.fields #[.ref r]}).objs.size=s1.heap.objs.size+1:=Ms ..;have T:=g.kept (t':=s1.toks) (h':=(s1.heap.push {cls:=.type "dict_items",data:=.fields #[.ref r]}).push {cls:=.type "dict_itemiterator",data:=.fields #[.none,.bool cc,.ref r,.int 0 0,.int vs.length 0,.int ep 0,.none,.none]}) λb u z=>c2 _ (k1 b u z);show⟨_,[_],_,_,f,rfl,T,sJ (kvs:=kvs) h,⟨.none,.none,by rw[<-hl];show fx _ rfl⟩,λb Y=>?_,G⟩;rw[hY.mp Y];have p:s1.heap.objs.size<=(s1.heap.push {cls:=.type "dict_items",data:=.fields #[.ref r]}).objs.size:=by rw[hsz];show ME _
 show g.v_ p (g.JV.fresh p)
end
end L2
namespace L2
open PySem PySem.Spec PyProof.Rows
def wL(l:d8)(a:Array dV)(n:Nat)(b:d8)(c:Array dV)(e:Nat)(dd:Option d8)(f:Array (Option dV))(o:¬(!a.isEmpty&&LS (a.size+c.size))=bD)(i:a.size<=cL)(j:a.size+c.size<=cL+1):
  Meets (Ot.«list.extend» ⟨[.ref l,.ref b],[]⟩) (λ_ R s=>s.heap.get? l=a5 {cls:=.type "list",dict:=b6,data:=.seq a n,slots:=#[]}/\s.heap.get? b=a5 {cls:=.type "list",dict:=dd,data:=.seq c e,slots:=f}/\R (.ok (.ret nH)) {s with heap:=s.heap.update l (ri λx=>x++c),toks:=s.toks}) :=
 .of_wp λprog w A R s h=>by
  have⟨p,g,d,q,os⟩:=s;have⟨hl,k,h⟩:=h;have r:=Æ;have t:=WU;have u:=XZ;have v:=XJ;have y:=XM;
  have m:(a++c).size<=cL+1:=by rw[Wl];show j
  wp_walk using(SX hl rfl (hz:=i) (_hz':=m)),O8 hl,O8 k;show⟨_,rfl,h⟩
def wM(l:d8)(a:Array dV)(n:Nat)(b:d8)(c:Array dV)(e:Nat)(dd:Option d8)(f:Array (Option dV))(o:¬(!a.isEmpty&&LS (a.size+c.size))=bD)(i:a.size<=cL)(j:a.size+c.size<=cL+1):
  Meets (Ot.«list.extend» ⟨[.ref l,.ref b],[]⟩) (λ_ R s=>s.heap.get? l=a5 {cls:=.type "list",dict:=b6,data:=.seq a n,slots:=#[]}/\s.heap.get? b=a5 {cls:=.type "tuple",dict:=dd,data:=.seq c e,slots:=f}/\R (.ok (.ret nH)) {s with heap:=s.heap.update l (ri λx=>x++c),toks:=s.toks}) :=
 .of_wp λprog w A R s h=>by
  have⟨p,g,d,q,os⟩:=s;have⟨hl,k,h⟩:=h;have r:=Æ;have t:=WU;have u:=XZ;have v:=XJ;have y:=XM;
  have m:(a++c).size<=cL+1:=by rw[Wl];show j
  wp_walk using(SX hl rfl (hz:=i) (_hz':=m)),O8 hl,O8 k;show⟨_,rfl,h⟩
section
def sM:Qa X "list.extend" (λx vs H Q=>∃l b xs c,x=.ref l/\vs=[.ref b]/\H l=a5 (.lst xs)/\(Ko X.K H b c\/KA X.K H b c)/\xs.length+c.length<=cL/\Q .J0 (upd H l (.lst (xs++c)))):=by
 intro pins s σ H x vs v us Q I y rv h;have⟨l,b,xs,c,rfl,rfl,t,hB,hz,q⟩:=h;cases y;have⟨u,rfl,A⟩:=rv.one;cases A;have⟨z,f,n,r,hl,e⟩:=I.wj t;have g:∀a:List dV,Vals c a->EP X pins σ Q nH {s with heap:=s.heap.update l (ri λx=>x++a.toArray),toks:=s.toks}:=λa d=>by
  show⟨.J0,_,I.mW (its':=f++a) t e (by simp) (r.append d) ?_,rfl,q⟩;rw[gc];lia
 have k:∀a:List dV,c.length=a.length->f.toArray.size+a.toArray.size<=cL:=λa h=>by rw[gj,gj];lia
 have w:∀a:List dV,c.length=a.length->¬(!f.toArray.isEmpty&&LS (f.toArray.size+a.toArray.size))=bD:=λa h=>by
  rw[x8 (k a h),U2];show i7
 rcases hB with hB|hB
 .obtain⟨a,d,m,_⟩:=I.list hB;obtain⟨⟨cls,dd,data,o⟩,ho,i,p,j⟩:=m.isList;simp only at i j;subst i j;have Nl:=d.length;have B:=k a Nl;show Tw Ą ⟨_,e,rfl⟩ ô (è _ _) (wL l f.toArray n b a.toArray p dd o (w a Nl) ⋯ ⋯) ⟨e,ho,g a d⟩
 .obtain⟨a,d,m,_⟩:=I.tuple hB;obtain⟨⟨cls,dd,data,o⟩,ho,i,p,j⟩:=m;simp only at i j;subst i j;have Nl:=d.length;have B:=k a Nl;show Tw Ą ⟨_,e,rfl⟩ ô (è _ _) (wM l f.toArray n b a.toArray p dd o (w a Nl) ⋯ ⋯) ⟨e,ho,g a d⟩
end
end L2
namespace L2
open PySem PySem.W PyProof.Rows
section
def wN{vs:List (Key×dV)}(hk:vs.map (·.1)=ks.map mu)(hl:acc.length=vs.length)(h:∀(j:Nat) (v:dV),acc[j]?=a5 v->∃k x,vs[j]?=a5 (k,x)/\(aS P w).is k v=bD):Rx acc ks:=by
 induction acc generalizing ks vs with
 |nil =>
  cases vs with
  |nil=>cases ks with
   |nil=>show .nil
   |cons _ _=>cases hk
  |cons _ _=>cases hl
 |cons v acc b =>
  cases vs with
  |nil=>cases hl
  |cons p vs =>
   cases ks with
   |nil=>cases hk
   |cons k ks =>
    simp only[d4,Ro]at hk;have⟨k',x,a,c⟩:=h 0 v rfl;simp only[List.getElem?_cons_zero,RP]at a;subst a;have d:k'=mu k:=hk.1;subst d;rcases bq (show jV (mu k) v=bD from c) with⟨i,t,e,rfl⟩|⟨y,t,e,rfl⟩
    .cases e
    .cases e;show .cons _ _ (b hk.2 (by simpa using hl) λj u f=>h (j+1) u (by simpa using f))
def jz:X.calm=bD->jW X (.builtin "sorted") (λxs H Q=>∃(d:d8) (kvs:List (Key×V)) (ks:List Str),xs=[.ref d]/\H d=a5 (.dK kvs)/\kvs.map (·.1)=ks.map mu/\ks.length<64/\∀q,H q=b6->Q (.ref q) (upd H q (.lst ((aB ks).map V.str)))):=by
 intro k pins s σ H xs us Q I rs h;have⟨d,kvs,ks,rfl,e,hk,C,q⟩:=h;have⟨u,rfl,r⟩:=vals1 rs;cases r;have⟨hz,lo,vs,kv,dd⟩:=uC I.JV e;have a:vs.length=kvs.length:=(Paired.length kv).symm;have l:kvs.length=ks.length:=by rw[<-c4 (f:=(·.1)),hk,c4]
 have m:vs.map (·.1)=ks.map mu:=by
  rw[<-hk];clear dd a hk l e q hz;induction kv with
  |nil=>rfl
  |cons r _ n=>rw[d4,d4,n,r.1]
 have⟨o,es,ep,p⟩:=id dd;have t:(64:Nat)<=cL:=by decide
 show fm (kdu_collect (A:=X.A.in1) (kdl_dict (knd:=aS X.prog X.w) (kvs:=vs) (ep:=ep) lo) (I.ok.hd k) ⟨o,es,p⟩ ⋯ λh' b acc x c=>⟨ks,wN m (by rw[hU];show c.1) (λj v y=>c.2 j v (by rw[<-r6];show y)),by rw[hU,c.1];lia,λD z B k2 g s2=>?_⟩);have i:Inv X pins σ H {s with heap:=h',toks:=b}:=I.kept (t':=b) x;show⟨.ref h'.objs.size,_,i.laid (t':=b) (o:=.lst ((aB ks).map V.str)) k2 (hV _) ⟨by rw[c4,bO];lia,z,B,dM s2,g⟩,rfl,q _ (i.JV.fresh (hV _))⟩
end
abbrev ij{α:Type}(lt:Nat->Nat->Bool):KasT α->α
 |.ret x=>x
 |.ask i j k=>ij lt (k (lt i j))
def Lm{α:Type}(n:Nat)(P:α->Prop):KasT α->Prop
 |.ret x=>P x
 |.ask i j k=>i<n/\j<n/\∀b,Lm n P (k b)
theorem Lm.Qm{P:α->Prop}{Q:β->Prop}{f:α->KasT β}(a:∀x,P x->Lm n Q (f x)):∀{t:KasT α},Lm n P t->Lm n Q (t.bind f)
 |.ret x,h=>a x h
 |.ask i j k,h=>⟨h.1,h.2.1,λb=>Lm.Qm a (h.2.2 b)⟩
theorem Lm.got:∀{t:KasT α},Lm n P t->P (ij lt t)
 |.ret _,h=>h
 |.ask i j k,h=>Lm.got (t:=k (lt i j)) (h.2.2 _)
theorem Lm.wp(b:∀i j,i<n->j<n->∀C:Bool->d6->Prop,C (lt i j) s->a i j C s):
  ∀{t:KasT α},Lm n P t->Q (ij lt t) s->t.kasWp a Q s
 |.ret _,_,q=>q
 |.ask i j k,h,q=>b i j h.1 h.2.1 _ (Lm.wp b (t:=k (lt i j)) (h.2.2 _) q)
abbrev Pm(n:Nat)(p:Array Nat):Prop:=p.toList.Perm (gs n)
section
variable{n:Nat}(hn:0<n)
include hn
def Pm.at(h:Pm n p)(i:Nat):p.getD i 0<n:=by
 by_cases a:i<p.size
 .have:p.getD i 0=p[i]:=by simp[VP,a]
  rw[this];have b:p[i]∈p.toList:=by simp
  show u5.mp (h.mem_iff.mp b)
 .have:p.getD i 0=0:=by simp[VP,a]
  rw[this];show hn
omit hn in
def Pm.rev(h:Pm n p)(i j:Nat):Pm n (kas_rev p i j):=(mirror_perm p i j _).toList.trans h
omit hn in
def Pm.Y1(h:Pm n p)(i j:Nat):Pm n (bubble p i j):=(bubble_perm p i j).toList.trans h
theorem sN(h:Pm n p):∀(f m:Nat),Lm n (λ_=>True) (kas_asc p f m)
 |0,m=>trivial
 |f+1,m=>⟨h.at hn _,h.at hn _,λb=>by
  cases b
  .show sN h f (m+1)
  .show trivial⟩
theorem kO:∀(f:Nat) (p:Array Nat) (m q:Nat),Pm n p->Lm n (λr=>Pm n r.1) (kas_desc f p m q)
 |0,p,m,q,h=>h
 |f+1,p,m,q,h=>⟨h.at hn _,h.at hn _,λb=>by
  cases b
  .show⟨h.at hn _,h.at hn _,λb=>by
    cases b
    .show kO f p (m+1) (q+1) h
    .show h⟩
  .change Lm n _ (if q>0 then _ else _);split
   .show kO f _ _ _ (h.rev _ _)
   .show kO f _ _ _ h⟩
def uO(h:Pm n p)(m r:Nat):Lm n (λx=>Pm n x.2) (kas_tail3 m r p):=by
 unfold kas_tail3;show Lm.Qm (λx _=>?_) (sN hn (h.rev _ _) _ _);show h.rev _ _
def uP(h:Pm n p)(m r:Nat):Lm n (λx=>Pm n x.2) (kas_descPart m r p):=by
 unfold kas_descPart;show Lm.Qm (λx a=>?_) (kO hn _ _ _ _ h);split
 .show uO hn (a.rev _ _) _ _
 .show uO hn a _ _
def yD(h:Pm n p)(r:Nat):Lm n (λx=>Pm n x.2) (kas_count r p):=by
 unfold kas_count;show Lm.Qm (λm _=>?_) (sN hn h _ _);split
 .show h
 .split
  .show⟨h.at hn _,h.at hn _,λb=>by
    cases b
    .show uP hn (h.rev _ _) _ _
    .show h⟩
  .show uP hn h _ _
theorem lB(h:Pm n p)(k:Nat):∀(f l r:Nat),Lm n (λ_=>True) (kas_place p k f l r)
 |0,l,r=>trivial
 |f+1,l,r=>by
  unfold kas_place;split
  .show trivial
  .show⟨h.at hn _,h.at hn _,λb=>by
    cases b
    .show lB h k f _ _
    .show lB h k f _ _⟩
theorem yE:∀(f:Nat) (p:Array Nat) (k:Nat),Pm n p->Lm n (Pm n) (kas_bin f p k)
 |0,p,k,h=>h
 |f+1,p,k,h=>Lm.Qm (λl _=>yE f _ _ (h.Y1 _ _)) (lB hn h _ _ _ _)
def uQ:Lm n (Pm n) (OT n):=by
 unfold OT;show Lm.Qm (λx a=>?_) (yD hn (p:=List.toArray (gs n)) (by unfold Pm;simp) n);split
 .show yE hn _ _ _ a
 .show a
end
def lC(lt:Nat->Nat->Bool)(n:Nat):(ij lt (OT n)).toList.Perm (gs n):=by
 cases n with
 |zero=>show Ol _
 |succ n=>show(uQ (À n)).got
section
def wO(ho:s.heap.get? a=a5 (x3 "list" vs.toArray n))(l:vs.length<64)
  (m:2<=vs.length->∀s1:d6,(∀b o,b≠a->s.heap.get? b=a5 o->s1.heap.get? b=a5 o)->d3 (eH prog w) A (keyKind' vs.toArray) (λκ s'=>s'=s1/\∀i j,i<vs.length->j<vs.length->∀C:Bool->d6->Prop,C (lt i j) s1->ī prog w A κ vs i j C s1) (λ_ _=>False) s1)
  (h:P (.done (.ret .none)) {s with heap:=ĝ s.heap a vs (((ij lt (OT vs.length)).toList.map λi=>vs.getD i nH).toArray)}) :
  d3 (eH prog w) A (Ot.«list.sort» ⟨[.ref a],[]⟩) P E s:=by
 have N:a<s.heap.objs.size:=ez ho;have u:(64:Nat)<=cL:=by decide
 rw[list_sort_plain];show b8 (ë ho rfl (b8 (WO ho rfl ?_ (by rw[gj];lia) (ke _))));obtain⟨k,q⟩:∃k,(s.heap.update a (ri λ_=>(#[]:Array dV))).get? a=a5 (x3 "list" #[] k):=⟨_,Ō ho λ_=>#[]⟩
 show b8 (Ĉ q rfl (b8 (wpAny_newTuple (b8 (Ì (t6 ?_) (ke _))) (by change vs.length<=_;lia))));have d:(((s.heap.update a (ri λ_=>(#[]:Array dV))).push (x3 "tuple" vs.toArray 0)).push (x3 "list" #[] 0)).get? a=a5 (x3 "list" #[] k):=c2 _ (c2 _ q);have f:∀b o,b≠a->s.heap.get? b=a5 o->(((s.heap.update a (ri λ_=>(#[]:Array dV))).push (x3 "tuple" vs.toArray 0)).push (x3 "list" #[] 0)).get? b=a5 o:=λb o y e =>
  c2 _ (c2 _ (by rw[Pn _ _ _ _ y];show e))
 change d3 (eH prog w) A _ P E {s with heap:=((s.heap.update a (ri λ_=>(#[]:Array dV))).push (x3 "tuple" vs.toArray 0)).push (x3 "list" #[] 0)}
 dsimp only
 have r:((ij lt (OT vs.length)).toList.map λi=>vs.getD i nH).length=vs.length:=by rw[c4,(lC lt _).length_eq,vu]
 by_cases c:vs.toArray.size<2
 .rw[ť c,ť c];show b8 (df ?_);rw[StateT.run_pure];show b8 (df ?_);have z:((ij lt (OT vs.length)).toList.map λi=>vs.getD i nH).toArray=(vs.toArray.zip vs.toArray).map (·.2):=by
   have g:=lC lt vs.length;clear h m r f d ho l
   match vs,c,g with
   |[],_,g=>rw[show(ij lt (OT ([]:List dV).length)).toList=[] from List.perm_nil.mp g];simp
   |[v],_,g=>rw[show(ij lt (OT [v].length)).toList=[0] from List.perm_singleton.mp g];simp
   |_::_::_,c,_=>simp at c;lia
  rw[z]at h
  dsimp only
  show b8 (Ĉ d rfl (b8 (WO d rfl ?_ (ke _) (by rw[SA];change(pairsOf vs).size<=_;rw[pairsOf_size];lia))));simp only[bne_self_eq_false,Ma,if_false];show df h
 .rw[Ŧ c,Ŧ c];have t:2<=vs.length:=by rw[gj]at c;lia
  show b8 (mA (m t _ f) (λκ O hk=>?_) λ_ _ x=>x.elim);have⟨rfl,hk⟩:=hk;show b8 (mA (kat_run (κ:=κ) (ks:=vs) (vs:=vs) (G:=λp s'=>p=ij lt (OT vs.length)/\s'={s with heap:=((s.heap.update a (ri λ_=>(#[]:Array dV))).push (x3 "tuple" vs.toArray 0)).push (x3 "list" #[] 0)})
   (Q:=λst' s'=>∃p:Array Nat,arrOf st'=p.map (kas_item (vs.toArray.zip vs.toArray))/\failedOf st'=b6/\p=ij lt (OT vs.length)/\s'={s with heap:=((s.heap.update a (ri λ_=>(#[]:Array dV))).push (x3 "tuple" vs.toArray 0)).push (x3 "list" #[] 0)})
   rfl t l (λp st' s' T B D H=>⟨p,B,D,H⟩) (Lm.wp hk (uQ ⋯) ⟨rfl,rfl⟩)) ?_ λ_ _ e=>e)
  rintro⟨⟨⟩,st'⟩ s' ⟨p,I,J,rfl,rfl⟩
  dsimp only
  have L:=kat_snds rfl I;rw[L,J];show b8 (Ĉ d rfl (b8 (WO d rfl ?_ (ke _) (by rw[gj,r];lia))));simp only[bne_self_eq_false,Ma,if_false];show df h
end
@[reducible]def BX:=Str×Int
abbrev OF(ks:List Str)(i j:Nat):Bool:=cK ((ks.getD i mN).cps.toList<(ks.getD j mN).cps.toList)
abbrev kA(ks:List Str):List Nat:=(ij (OF ks) (OT ks.length)).toList
def gy(ks:List Str):(kA ks).Perm (gs ks.length):=lC _ _
abbrev Ho(x:Str)(n:Int)(t u:Tok):Obj:={cls:=.type "tuple",data:=.seq #[.str x t,.int n u]}
abbrev fE(h:KX)(as:List d8)(ps:List BX):Prop:=as.length=ps.length/\∀(j:Nat) (a:d8),as[j]?=a5 a->∃p t u,ps[j]?=a5 p/\h.get? a=a5 (Ho p.1 p.2 t u)
def fE.keeps(x:fE h as ps)(k:∀b o,b∈as->h.get? b=a5 o->h'.get? b=a5 o):fE h' as ps :=
 ⟨x.1,λj a e=>let ⟨p,t,u,c,d⟩:=x.2 j a e;⟨p,t,u,c,k a _ (l' e) d⟩⟩
def fE.tail(x:fE h (a::as) (p::ps)):fE h as ps :=
 ⟨by have:=x.1;simpa using this,λj b e=>by
  have⟨q,t,u,c,d⟩:=x.2 (j+1) b (by simpa using e);show⟨q,t,u,by simpa using c,d⟩⟩
theorem fE.fT:∀{as:List d8}{ps:List BX},fE h as ps->∃b:List dV,KatTups h (as.map lg) b/\b.length=as.length/\∀v∈b,∃x t,v=uk x t
 |[],_,_=>⟨[],KatTups.nil,rfl,by simp⟩
 |a::as,[],x=>by have:=x.1;simp at this
 |a::as,p::ps,x=>by
  have⟨b,c,d,e⟩:=fE.fT x.tail;have⟨q,t,u,g,f⟩:=x.2 0 a rfl;show⟨.str q.1 t::b,KatTups.cons f rfl rfl rfl c,by simp[d],λv hv=>?_⟩;rcases d7.mp hv with rfl|hv
  .show⟨_,_,rfl⟩
  .show e v hv
theorem nS:∀{l:List α}{m:List β}{i:Nat}{x:α},Paired F l m->l[i]?=a5 x->∃y,m[i]?=a5 y/\F x y
 |_,_,_,_,.nil,e=>by simp at e
 |_,_,0,_,.cons r _,e=>by simp at e;subst e;show⟨_,rfl,r⟩
 |_,_,i+1,x,.cons _ t,e=>by
  have⟨u,a,b⟩:=nS (i:=i) (x:=x) t (by simpa using e);show⟨u,by simpa using a,b⟩
section
def Ff(x:fE s.heap as ps)(g:(ps.map (·.1)).Nodup)(e:i<as.length)(f:j<as.length)(q:C (OF (ps.map (·.1)) i j) s):
  ī prog w A (tuples' bD) (as.map lg) i j C s:=by
 have⟨p,t,u,d,k⟩:=x.2 i as[i] (by simp[e]);have⟨a,t',u',c,l⟩:=x.2 j as[j] (by simp[f]);have hl:=x.1;have m:i<ps.length:=by lia
 have n:j<ps.length:=by lia
 have o:(as.map lg).getD i nH=.ref as[i]:=by simp[O',e]
 have r:(as.map lg).getD j nH=.ref as[j]:=by simp[O',f]
 have v:(ps.map (·.1)).getD i mN=p.1:=by simp[O',d]
 have y:(ps.map (·.1)).getD j mN=a.1:=by simp[O',c]
 unfold ī;rw[o,r];show kat_lt (b:=bD) k rfl l rfl ?_;unfold OF at q;rw[v,y]at q;change KatLex prog w A bD (cK (2<2)) C [(.str p.1 t,.str a.1 t'),(.int p.2 u,.int a.2 u')] 0 s;show kat_cons (ĺ ?_);by_cases h:p.1=a.1
 .have z:i=j:=by
   have B:(ps.map (·.1))[i]'(by simpa using m)=(ps.map (·.1))[j]'(by simpa using n):=by
    obtain⟨_,D⟩:=dt.mp d;obtain⟨_,G⟩:=dt.mp c;simp[D,G,h]
   show(ù g).mp B
  subst z;rw[d]at c;cases c;rw[Ũ rfl];show kat_yes (kat_cons (Ļ ?_));rw[show(p.2==p.2)=bD by simp];show kat_yes (kat_nil ?_);have:cK (p.1.cps.toList<p.1.cps.toList)=cc:=ŧ (List.lt_irrefl _);rw[this]at q;show q
 .rw[ŧ h];show kat_no (oneLt_str q)
def Fg(x:fE s.heap as ps)(c:(ps.map (·.1)).Nodup)(g:2<=as.length):
  d3 (eH prog w) A (keyKind' (as.map lg).toArray) (λκ s'=>s'=s/\∀i j,i<(as.map lg).length->j<(as.map lg).length->∀C:Bool->d6->Prop,C (OF (ps.map (·.1)) i j) s->ī prog w A κ (as.map lg) i j C s) (λ_ _=>False) s:=by
 have⟨h,d,k,e⟩:=x.fT;show kat_kind (T:=.type "str") d ⋯ (λv f=>?_) rfl ⟨rfl,λi j a b C q=>?_⟩
 .have⟨y,t,rfl⟩:=e v f;show Looks.of_pure rfl
 .rw[c4]at a b;show Ff x c a b q
end
abbrev kB(H:Hp):List (d8×List V)->Hp
 |[]=>H
 |(a,vs)::r=>upd (kB H r) a (.tup vs)
theorem lD:∀{l:List (d8×List V)}{b:d8}{o:HO},kB H l b=a5 o->(∃vs,(b,vs)∈l/\o=.tup vs)\/H b=a5 o
 |[],b,o,h=>.inr h
 |(a,vs)::r,b,o,h=>by
  by_cases c:b=a
  .subst c;rw[kB,ax]at h;cases h;show .inl ⟨vs,by simp,rfl⟩
  .rw[kB,ak c]at h;rcases lD h with⟨ws,d,e⟩|q
   .show .inl ⟨ws,by simp[d],e⟩
   .show .inr q
theorem lE:∀{l:List (d8×List V)}{b:d8},(∀p∈l,p.1≠b)->kB H l b=H b
 |[],b,_=>rfl
 |(a,vs)::r,b,h=>by
  rw[kB,ak (nC (h _ mf))];show lE λp c=>h p (by simp[c])
theorem uR:∀{l:List (d8×List V)}{b:d8}{vs:List V},(l.map (·.1)).Nodup->(b,vs)∈l->kB H l b=a5 (.tup vs)
 |(a,ws)::r,b,vs,d,h=>by
  have c:a∉r.map (·.1)/\(r.map (·.1)).Nodup:=by simpa using d
  rcases d7.mp h with h|h
  .cases h;show ax
  .have:b≠a:=λz=>c.1 (by rw[<-z];show ki.mpr ⟨_,h,rfl⟩);rw[kB,ak this];show uR c.2 h
section
def Inv.many(I:Inv X pins σ H s)(k:∀b u,s.heap.get? b=a5 u->h'.get? b=a5 u)(a:∀b o,H b=a5 o->H' b=a5 o)
  (d:∀b o,H' b=a5 o->H b=a5 o\/(s.heap.objs.size<=b/\bI X.prog X.w H' h' b o)):Inv X pins σ H' {s with heap:=h',toks:=t' }:=by
 show I.un ⟨λb u q _ _ _=>k b u q,λb u q _ _ _=>⟨u.slots,k b u q⟩,λb u q n _=>?_,λb u q _=>⟨u,k b u q⟩,λb xs q=>a b _ q,λb u xs q=>a b _ q,λb ps q=>⟨#[],by rw[a b _ q];simp⟩⟩ λb o e=>?_
 .cases e:H' b with
  |none=>rfl
  |some o =>
   rcases d b o e with z|⟨z,_⟩
   .rw[n]at z;cases z
   .show absurd (i5 (ez q) z) (uv _)
 .rcases d b o e with z|⟨_,z⟩
  .show(I.JV b o z).fI (λc v _ q=>k c v q) (λc q=>a c _ q) λc xs q=>a c _ q
  .show z
abbrev NV(p:BX):List V:=[.str p.1,.int p.2]
def pB{ps:List BX}(hc:X.calm=bD)(I:Inv X pins σ H s)(e:H d=a5 (.dK (ps.map λp=>((mu p.1:Key),V.int p.2))))(Kc:(ps.map (·.1)).Nodup)(Mi:ps.length<64)
  (q:∀(as:List d8) (L:d8),as.length=ps.length->as.Nodup->(∀a∈L::as,H a=b6)->L∉as->Q (.ref L) (upd (kB H (as.zip (ps.map NV))) L (.lst ((kA (ps.map (·.1))).map λi=>V.ref (as.getD i 0))))) :
  d3 (eH X.prog X.w) X.A (OS (.builtin "dict.items") [.ref d]) (λv s1=>d3 (eH X.prog X.w) X.A (OS (.builtin "sorted") [v]) (EP X pins σ Q) X.xe s1) X.xe s:=by
 have ab:(64:Nat)<=cL:=by decide
 have⟨hz,lo,vs,kv,dd⟩:=uC I.JV e;have B:vs.length=ps.length:=by
  have:=Paired.length kv;simpa using this.symm
 have⟨o,es,ep,n⟩:=id dd;show XG PySem.F.slot_dict_items (show s.TypeIs (.ref d) "dict" from⟨o,n.1,n.2.1.1⟩) PySem.F.entry_dict_items (PySem.F.args_dict_items_1 _) (ľ (aS X.prog X.w) d lo) ⟨⟨vs,dd⟩,?_⟩;change d3 (eH X.prog X.w) X.A (OS (.builtin "sorted") [.ref s.heap.objs.size]) (EP X pins σ Q) X.xe {s with heap:=s.heap.push {cls:=.type "dict_items",data:=.fields #[.ref d]}};have k1:∀b u,s.heap.get? b=a5 u->(s.heap.push {cls:=.type "dict_items",data:=.fields #[.ref d]}).get? b=a5 u:=λb u z=>c2 _ z;have ac:(s.heap.push {cls:=.type "dict_items",data:=.fields #[.ref d]}).DictOf (aS X.prog X.w) d vs:=⟨o,es,ep,k1 _ _ n.1,n.2⟩
 have LA:(s.heap.push {cls:=.type "dict_items",data:=.fields #[.ref d]}).DictAt (aS X.prog X.w) d vs ep:=⟨o,es,k1 _ _ n.1,n.2⟩
 show XY kind_sorted plain_sorted entry_sorted (args_sorted1 _) ?_;unfold Ot.«sorted»;show b8 (m:=checkCount "sorted" 1 1 _) (df ?_);show b8 (kdx_collect (A:=X.A.in1) (knd:=aS X.prog X.w) (kvs:=vs) (ep:=ep) (I.ok.hd hc) ⟨_,fx _ rfl,rfl,rfl⟩ LA ⋯ λc tk as hk hl C=>?_);have D:as.length=ps.length:=hl.trans B;have f:∀a∈as,s.heap.objs.size<=a:=λa ha=>by
  have:=C.above a ha;have z:(s.heap.push {cls:=.type "dict_items",data:=.fields #[.ref d]}).objs.size=s.heap.objs.size+1:=Ms ..;have WJ:(s.heap.push {cls:=.type "dict_items",data:=.fields #[.ref d]}).objs.size<a:=this;lia
 have pa:fE c as ps:=⟨D,λj a ea=>by
  have⟨key,k,x,J,N,e3⟩:=C.pairs j a ea;have r:j<ps.length:=by rw[<-D];show(dt.mp ea).1
  have⟨y,ey,r1,r2⟩:=nS kv (i:=j) (x:=((mu ps[j].1:Key),V.int ps[j].2)) (by simp[r]);rw[J]at ey;cases ey;obtain⟨tx,rfl⟩:∃t,x=.int ps[j].2 t:=r2;have Y3:k=mu ps[j].1:=r1.symm;subst Y3;have⟨t,rfl⟩:=Å (x:=ps[j].1) (v:=key) N;show⟨ps[j],t,tx,by simp[r],e3⟩⟩
 have nd:as.Nodup:=C.rise.imp λh=>hW h;show b8 (Ì ?_ (by rw[c4];lia));have O:(c.push (x3 "list" (as.map lg).toArray 0)).get? c.objs.size=a5 (x3 "list" (as.map lg).toArray 0):=fx _ rfl;change d3 _ _ _ _ _ {s with heap:=c.push (x3 "list" (as.map lg).toArray 0),toks:=tk};have WK:∀a∈as,a<c.objs.size:=λa ha=>C.there ha;show b8 (t6 (K' ş ⟨_,O,rfl⟩ ō (wO (lt:=OF (ps.map (·.1))) O (by rw[c4];lia) (λh2 s1 ks=>?_) ⟨_,rfl,?_⟩) (Ţ _)))
 .show Fg (pa.keeps λb o G z=>ks b o (hW (WK b G)) (c2 _ z)) Kc (by rw[c4]at h2;show h2)
 .have⟨ee,he⟩:=sortedHeap_at (out:=((ij (OF (ps.map (·.1))) (OT (as.map lg).length)).toList.map λi=>(as.map lg).getD i nH).toArray) O;have g:∀b o,c.get? b=a5 o->(ĝ (c.push (x3 "list" (as.map lg).toArray 0)) c.objs.size (as.map lg) ((ij (OF (ps.map (·.1))) (OT (as.map lg).length)).toList.map λi=>(as.map lg).getD i nH).toArray).get? b=a5 o:=λb o z=>by
   have Ka:b<c.objs.size:=ez z;rw[Ş (hW Ka) (by rw[Ms];show Tv Ka)];show c2 _ z
  have Pb:s.heap.objs.size<=c.objs.size:=Q8 (ez (hk _ _ (fx _ rfl)));have eP:((ij (OF (ps.map (·.1))) (OT (as.map lg).length)).toList)=kA (ps.map (·.1)):=by
   unfold kA;rw[c4,c4,D]
  have Qn:H c.objs.size=b6:=I.JV.fresh Pb;have Y4:c.objs.size∉as:=λz=>uv _ (WK _ z);have WL:∀a∈as,H a=b6:=λa ha=>I.JV.fresh (f a ha);have UY:∀{b:d8} {ws:List V},(b,ws)∈as.zip (ps.map NV)->b∈as:=λz=>(RS z).1;show df ⟨_,rfl,.ref c.objs.size,upd (kB H (as.zip (ps.map NV))) c.objs.size (.lst ((kA (ps.map (·.1))).map λi=>V.ref (as.getD i 0))),?_,rfl,q as _ D nd (λa ha=>?_) Y4⟩
  .show I.many (λb u z=>g b u (hk b u (k1 b u z))) (λb o z=>?_) λb o z=>?_
   .have n1:b≠c.objs.size:=λy=>by rw[y,Qn]at z;cases z
    rw[ak n1,lE λp hp y=>?_]
    .show z
    .have:=WL p.1 (UY (b:=p.1) (ws:=p.2) hp);rw[y,z]at this;cases this
   .by_cases G:b=c.objs.size
    .subst G;rw[ax]at z;cases z;show .inr ⟨Pb,by rw[c4,(gy _).length_eq,vu,c4];lia,(kA (ps.map (·.1))).map λi=>(as.map lg).getD i nH,ee,?_,?_⟩
     .have T:∀i∈kA (ps.map (·.1)),i<as.length:=λi Y=>by
       have:=u5.mp ((gy _).mem_iff.mp Y);rw[c4]at this;lia
      generalize kA (ps.map (·.1))=l at T;induction l with
      |nil=>show .nil
      |cons i l ih =>
       show .cons ?_ (ih λj r=>T j (by simp[r]));have Y:=T i (by simp);change RelV (.ref (as.getD i 0)) ((as.map lg).getD i nH);have:(as.map lg).getD i nH=.ref (as.getD i 0):=by simp[O',Y]
       rw[this];rfl
     .rw[<-eP];show he
    .rw[ak G]at z;rcases lD z with⟨ws,z1,rfl⟩|z1
     .have⟨j,r,ej⟩:=Ç.mp z1;have UZ:j<as.length:=by simp at r;lia
      have UX:j<ps.length:=by lia
      have Y5:as[j]=b/\NV ps[j]=ws:=by simpa using ej
      have⟨rfl,rfl⟩:=Y5;have⟨p,t,u,J,N⟩:=pa.2 j as[j] (by simp[UZ]);have:p=ps[j]:=by simpa[UX] using J.symm
      subst this;show .inr ⟨f _ (by simp),by change 2<=cL;lia,[.str ps[j].1 t,.int ps[j].2 u],.cons ⟨t,rfl⟩ (.cons ⟨u,rfl⟩ .nil),_,g _ _ N,rfl,0,rfl⟩
     .show .inl z1
  .rcases d7.mp ha with rfl|ha
   .show Qn
   .show WL a ha
end
end L2
namespace L2
open PySem PySem.Spec PyProof.Rows
theorem pC:∀{bs:List Bool}{us:List dV},Vals (bs.map V.bl) us->us=bs.map OW
 |[],_,.nil=>rfl
 |_::_,_,.cons r t=>by rw[show _=OW _ from r,pC t];rfl
abbrev yF(b:Bool):dV->Bool
 |.bool c=>c==b
 |_=>cc
section
abbrev Fh:V->List V->Hp->VK->Prop:=λx vs H Q=>∃(l:d8) (bs:List Bool) (b:Bool),x=.ref l/\vs=[.bl b]/\H l=a5 (.lst (bs.map V.bl))/\Q (.int (bs.count b:Nat)) H
def yG:Qa X "list.count" Fh:=by
 intro pins s σ H x vs v us Q I a rv h;have⟨l,bs,b,rfl,rfl,d,q⟩:=h;cases a;have⟨u,rfl,f⟩:=rv.one;cases f;have⟨z,i,n,r,hl,e⟩:=I.wj d;obtain rfl:=pC r;show Tw F.slot_list_count ⟨_,e,rfl⟩ F.entry_list_count (F.args_list_count_2 _ _) (SeqAt.list_countAt l _ n b6 #[] (.bool b) (yF b)) ⟨e,λy g=>?_,?_⟩
 .obtain⟨c,_,rfl⟩:=ki.mp (õ.mp g);show XW c b
 .have:(bs.map OW).countP (yF b)=bs.count b:=by rw[List.countP_map];rfl
  show⟨.int (bs.count b:Nat),H,I.tok _,⟨s.toks,by rw[<-this]⟩,q⟩
abbrev Fi:V->List V->Hp->VK->Prop:=λx vs H Q=>∃(l:d8) (bs:List Bool) (b:Bool) (j:Nat),x=.ref l/\vs=[.bl b]/\H l=a5 (.lst (bs.map V.bl))/\bs[j]?=a5 b/\(∀m,m<j->bs[m]?≠a5 b)/\Q (.int j) H
def yH:Qa X "list.index" Fi:=by
 intro pins s σ H x vs v us Q I a rv h;have⟨l,bs,b,j,rfl,rfl,d,f,g,q⟩:=h;cases a;have⟨u,rfl,i⟩:=rv.one;cases i;have⟨z,B,n,r,hl,e⟩:=I.wj d;obtain rfl:=pC r;have⟨k,o⟩:=dt.mp f;have hz:cL<2 ^ 62:=by decide
 rw[c4]at z;show Tw F.slot_list_index ⟨_,e,rfl⟩ F.entry_list_index (F.args_list_index_2 _ _) (SeqAt.list_indexAt l _ n b6 #[] (.bool b) (yF b) j (by simpa using k) ⋯ (by simp[yF,o]) (λm p t=>?_)) ⟨e,λy w=>?_,?_⟩
 .have A:m<bs.length:=by simpa using p
  have:=g m t;rw[kj A]at this;simp only[List.getElem_toArray,WQ,yF];rw[ū];show λz=>this (by rw[z])
 .obtain⟨c,_,rfl⟩:=ki.mp (õ.mp w);show XW c b
 .show⟨.int j,H,I.tok _,⟨_,rfl⟩,q⟩
end
end L2
namespace L2
open PySem PyProof.Rows PySem.W
abbrev JA(h:KX)(e C:d8)(a0:dV)(T:Option d8)(b:dV):Prop:=∃oe vs,h.get? e=a5 oe/\oe.cls=.ref C/\oe.data=.fields vs/\vs[0]?=a5 a0/\match T with
 |none=>vs[1]?=a5 .none
 |some T=>T≠e/\vs[1]?=a5 (.ref T)/\∃a ts,h.get? T=a5 a/\a.data=.fields ts/\ts[3]?=a5 b
structure cj(P:va)(w:w6)(stack:List Env)(H:Hp)(s:d6)(e C:d8)(T:Option d8)(fl:dV)(H':Hp)(s':d6):Prop where
 os:s'.os=s.os
 bare:Ua s'.gens
 un:Un (Kx stack) [] H H' s.heap s'.heap
 JV:K6 P w H' s'.heap
 new:s.heap.get? e=b6
 he:H' e=b6
 exc:∃a0,JA s'.heap e C a0 T fl
 hT:∀a,T=a5 a->s.heap.get? a=b6/\H' a=b6
abbrev Pl(P:va)(w:w6):O2:=λouter H s E v s'=>∃e C T H',v=.ref e/\cj P w outer H s e C (a5 T) .none H' s'/\E (.ref C) b6 H'
def bI.there(x:bI P w H h a o):∃u,h.get? a=a5 u:=by
 cases o with
 |lst xs=>obtain⟨_,_,_,_,e⟩:=x;show⟨_,e⟩
 |tup xs=>obtain⟨_,_,_,_,e,_⟩:=x;show⟨_,e⟩
 |set S n=>obtain⟨o,_,_,_,e,_⟩:=x;show⟨_,e⟩
 |ins C c b=>obtain⟨_,_,_,e,_⟩:=x;show⟨_,e⟩
 |own y=>show x
 |xd b=>obtain⟨_,⟨_,_,_,e,_⟩,_⟩:=x;show⟨_,e⟩
 |R9 lo d=>obtain⟨_,_,_,e⟩:=x;show⟨_,e⟩
 |KY g u=>show⟨_,x.1⟩
 |Oo ps=>show⟨_,x⟩
 |met f y=>show⟨_,x⟩
 |ext φ=>show x.2.1
 |_=>obtain⟨_,_,_,_,o,_,_,e,_⟩:=x;show⟨_,e⟩
section
variable{P:va}{w:w6}{stack outer:List Env}{H H':Hp}{s s':d6}{e C L:d8}{T:Option d8}{fl:dV}{base:KX}{env:Env}{M:Model}{A:N5}{E:dV->d6->Prop}{Q:Unit->d6->Prop}
theorem uS(u:Un (Kx stack) [] H H' s.heap s'.heap)(a:∀b∈Kx stack,H b=b6):∀l:List Env,(∀b∈Kx l,b∈Kx stack)->s.heap.FunFrames base l->s'.heap.FunFrames base l
 |[],_,_=>trivial
 |env::l,hs,⟨hk,⟨L,o,c,d,ho,f⟩,g⟩=>by
  have h:Kx (env::l)=L::Kx l:=by unfold Kx;rw[Kp,c]
  rw[h]at hs;have⟨j,q⟩:=u.any ho (a L (hs L mf)) λz=>nomatch z
  show⟨hk,⟨L,_,c,d,q,f⟩,uS u a l (λb i=>hs b (ko _ i)) g⟩
def cj.next(F:cj P w stack H s e C T fl H' s')(k:s.heap.FunFrames base stack)(l:∀b∈Kx stack,H b=b6)(G:B=hideAll s'.heap (e::(T.toList++Kx stack))):
  B.StaysIn s'.heap/\s'.heap.FunFrames B stack/\B.get? e=b6/\(∀a,T=a5 a->B.get? a=b6) /\
   ∀h' i,B.StaysIn h'->h'.FunFrames B stack->h'.TracedAtW B e (.ref C) a0 i->s'.heap.UpToSlots h'->∃c,cj P w stack H s e C (a5 c) i H' {s' with heap:=h' }:=by
 have m:=uS F.un l _ (λ_ z=>z) k;subst G;show⟨λb o q=>of_hideAll _ q,funFrames_hide m λI J a N=>ko _ (mx _ (P'.mpr ⟨I,J,N⟩)),hideAll_none _ mf,λa z=>hideAll_none _ (ko _ (RN _ (by simp[z]))),λh' i k1 k2 ⟨O,Y,c,Y7,M_,b1,⟨b2,b0⟩,b3,b4,b5,p,r,t,b9⟩ k4=>?_⟩;have Y8:∀a,a∈e::(T.toList++Kx stack)->H' a=b6:=λa ha=>by
  rcases d7.mp ha with rfl|ha
  .show F.he
  rcases hQ.mp ha with ha|ha
  .show(F.hT a (by simpa using ha)).2
  .obtain⟨_,o,ho,_⟩:=k.mem ha;show F.un.free a o ho (l a ha) λz=>nomatch z
 have keep:∀b o,b∉e::(T.toList++Kx stack)->s'.heap.get? b=a5 o->h'.get? b=a5 o:=λb o hb q=>k1 b o (hideAll_get _ q hb);have slot:∀b o,b∈Kx stack->s'.heap.get? b=a5 o->∃v,h'.get? b=a5 {o with slots:=v}:=λb o hb q=>by
  obtain⟨_,o',d,j⟩:=m.mem hb;rw[q]at d;cases d;show k4 b o q j
 have x:∀b o,s.heap.get? b=a5 o->b∉Kx stack->b∉e::(T.toList++Kx stack):=λb o q hb z=>by
  rcases d7.mp z with z|z
  .rw[z,F.new]at q;cases q
  rcases hQ.mp z with z|z
  .rw[(F.hT b (by simpa using z)).1]at q;cases q
  .show hb z
 have tn:s.heap.get? c=b6/\H' c=b6:=by
  by_cases z:c∈e::(T.toList++Kx stack)
  .rcases d7.mp z with z|z
   .show absurd z p
   rcases hQ.mp z with z|z
   .show F.hT c (by simpa using z)
   .obtain⟨_,o',d,j⟩:=k2.mem z;rw[r]at d;cases d;show absurd t (j _)
  .have q:s'.heap.get? c=b6:=by
    cases q:s'.heap.get? c with
    |none=>rfl
    |some o=>have:=hideAll_get _ q z;rw[b5]at this;cases this
   show⟨?_,?_⟩
   .cases f:s.heap.get? c with
    |none=>rfl
    |some o=>have⟨o',y⟩:=F.un.there _ o f λz=>nomatch z;rw[q]at y;cases y
   .cases f:H' c with
    |none=>rfl
    |some u =>
     have⟨o,z⟩:=(F.JV c u f).there;rw[q]at z;cases z
 show⟨c,F.os,F.bare,⟨λb o q n hb g=>keep b o (x b o q hb) (F.un.keep b o q n hb g),λb o q n hb g=>?_,F.un.free,λb o q g=>?_,F.un.fT,F.un.KZ,F.un.K9⟩,λa u q=>(F.JV a u q).fI (λb o hb d=>?_) (λ_ z=>z) λ_ _ z=>z,F.new,F.he,⟨_,O,Y,b1,b2,b3,b0,p,b4,Y7,M_,r,t,b9⟩,λa z=>by cases z;show tn⟩
 .have⟨v,h⟩:=F.un.slot b o q n hb g;have⟨D,f⟩:=slot b _ hb h;show⟨D,f⟩
 .have⟨o',h⟩:=F.un.there b o q g;by_cases hb:b∈Kx stack
  .have⟨D,f⟩:=slot b _ hb h;show⟨_,f⟩
  .show⟨_,keep b _ (x b o q hb) h⟩
 .show keep b o (λz=>?_) d;have:=Y8 b z;rcases hb with rfl|hb
  .rw[q]at this;cases this
  .rw[hb]at this;cases this
def cj.leave(F:cj P w (env::outer) H s e C T .none H' s')(c:A.frames=a5 (env::outer))(d:env.frame=a5 L)(q:s.heap.FunFrames base (env::outer))(r:∀b∈Kx (env::outer),H b=b6)
  (h:∀f g,cj P w (env::outer) H s e C (a5 f) .none H' g->Q () g):d3 M A (leaving env (.ref e)) Q E s':=by
 have⟨a0,oe,vs,i,j,k,l,m⟩:=F.exc;obtain⟨B,t⟩:∃B,B=hideAll s'.heap (e::(T.toList++Kx (env::outer))):=⟨_,rfl⟩
 have⟨n,o,p,u,v⟩:=F.next (a0:=a0) q r t;have a:∀h',Heap.LeftW B (env::outer) e (.ref C) a0 s'.heap h'->Q () {s' with heap:=h' }:=λh' x=>by
  have⟨k1,k2,k3,y⟩:=x;have⟨f,z⟩:=v h' .none k1 k2 k3 y;show h _ _ z
 cases T with
 |none=>show wpAny_leaving_firstW c o d i n p k m l λh' z=>a h' (j▸z)
 |some T =>
  have⟨D,G,I,ts,J,N,O⟩:=m;show wpAny_leaving_nextW c o d ⟨oe,vs,T,I,ts,i,⟨j,l⟩,k,G,u T rfl,D,J,N,O⟩ n p a
def cj.note{T:d8}(F:cj P w (env::outer) H s e C (a5 T) .none H' s')(d:A.frames=a5 (env::outer))(f:env.frame=a5 L)(g:s.heap.FunFrames base (env::outer))(i:∀b∈Kx (env::outer),H b=b6)
  (h:∀a c,cj P w (env::outer) H s e C (a5 a) (u7 L) H' c->Q () c):d3 M A (noteFrame (.ref e) env) Q E s':=by
 have⟨a0,oe,vs,j,k,l,m,n,o,p,ts,q,r,t⟩:=F.exc;have⟨u,v,x,y,B⟩:=F.next (a0:=a0) g i rfl;show wpAny_noteFrame_onW d v f ⟨oe,vs,T,p,ts,j,⟨k,m⟩,l,o,y T rfl,n,q,r,t⟩ u x λh' D=>?_;have⟨k1,k2,k3,G⟩:=D;have⟨a,z⟩:=B h' _ k1 k2 k3 G;show h _ _ z
def cj.land{T:d8}(F:cj P w stack H s e C (a5 T) fl H' s')(d:s.heap.FunFrames base stack)(f:∀b∈Kx stack,H b=b6)
  (h:∀a c,cj P w stack H s e C (a5 a) .none H' c->Q () c):d3 M A (setFlight (.ref e) b6) Q E s':=by
 have⟨a0,oe,vs,g,i,j,k,l,m,p,ts,r,t,u⟩:=F.exc;have⟨v,x,G,y,B⟩:=F.next (a0:=a0) d f rfl;show wpAny_setFlight_noneW v x ⟨oe,vs,T,p,ts,g,⟨i,k⟩,j,m,y T rfl,l,r,t,u⟩ λh' k1 k2 k3 D=>?_;have⟨a,z⟩:=B h' _ k1 k2 k3 λb o q n=>⟨o.slots,D b o q n⟩
 show h _ _ z
end
section
def cj.down(I:Inv X pins σ H s)(j:X.ex=[])(hs:X.stack=X.env::X.outer)(k:X.env.frame=a5 X.env.locals)(F:cj X.prog X.w X.stack H s e C T l H' s'):cj X.prog X.w X.outer X.H₀ X.s₀ e C T l H' s':=by
 have nx:∀b:d8,b∉X.ex:=λb z=>by rw[j]at z;cases z
 have i:Kx X.stack=X.env.locals::Kx X.outer:=by rw[hs];unfold Kx;rw[Kp,k]
 have c:∀b,s.heap.get? b=b6->X.s₀.heap.get? b=b6:=λb q=>by
  cases z:X.s₀.heap.get? b with
  |none=>rfl
  |some o=>have⟨o',z⟩:=I.base.there b o z (nx b);rw[q]at z;cases z
 have hl:∀b o,X.s₀.heap.get? b=a5 o->b≠X.env.locals:=λb o q=>hW (i5 (ez q) I.ok.above);have g:∀b:d8,b∉([]:List d8):=λb z=>nomatch z
 show⟨F.os.trans I.os,F.bare,⟨λb o q n f _=>?_,λb o q n f _=>?_,λb o q n _=>?_,λb o q _=>?_,λb xs q=>F.un.fT b xs (I.base.fT b xs q),λb o u q=>F.un.KZ b o u (I.base.KZ b o u q),λb ps q=>?_⟩,F.JV,c _ F.new,F.he,F.exc,λa z=>⟨c _ (F.hT a z).1,(F.hT a z).2⟩⟩
 .show F.un.keep b o (I.base.keep b o q n f (nx b)) (I.base.free b o q n (nx b)) (λz=>by rw[i]at z;show(d7.mp z).elim (hl b o q) f) (g b)
 .have⟨p,d⟩:=I.base.slot b o q n f (nx b);have⟨m,h⟩:=F.un.slot b _ d (I.base.free b o q n (nx b)) (by rw[i];show ko _ f) (g b);show⟨m,h⟩
 .have⟨o',d⟩:=I.base.there b o q (nx b);show F.un.free b o' d (I.base.free b o q n (nx b)) (g b)
 .have⟨o',d⟩:=I.base.there b o q (nx b);show F.un.there b o' d (g b)
 .have⟨m1,d⟩:=I.base.K9 b ps q;have⟨m2,h⟩:=F.un.K9 b _ d;show⟨m1++m2,by rw[h,Ô]⟩
def cj.made(I:Inv X pins σ H s)(b:Heap.MadeExcOf s.heap h' e (.ref C) vs):cj X.prog X.w X.stack H s e C b6 .none H {s with heap:=h' }:=by
 obtain⟨t,c,_⟩:=b.there;show⟨rfl,I.bare,Un.kept b.keeps,I.JV.kept b.keeps,b.new,?_,⟨_,_,_,c,rfl,rfl,rfl,rfl⟩,λa z=>nomatch z⟩;cases z:H e with
 |none=>rfl
 |some u=>have⟨o,q⟩:=(I.JV e u z).there;rw[b.new]at q;cases q
abbrev Qo:List dV:=[.type "ValueError",.type "Exception",.type "BaseException",.type "object"]
abbrev Y9(p:d8->List dV->Option dV->Option dV->Option dV->Option dV->String->Option dV->Bool)(M:List dV)(S:List (Option dV)):Prop:=∃C a k0 k1 k2 k3 n k5,M=.ref C::a/\S=[k0,k1,k2,k3,a5 (.builtin n),k5]/\p C a k0 k1 k2 k3 n k5=bD
def nf{P:Prop}(h:cc=bD):P:=nomatch h
def Fj(q:excIn.match_1 (λ_ _=>Bool) M S p (λ_ _=>cc)=bD):Y9 p M S:=by
 cases M with
 |nil=>show nf q
 |cons v a =>
  cases v with
  |ref C =>
   cases S with
   |nil=>show nf q
   |cons k0 S =>
   cases S with
   |nil=>show nf q
   |cons k1 S =>
   cases S with
   |nil=>show nf q
   |cons k2 S =>
   cases S with
   |nil=>show nf q
   |cons k3 S =>
   cases S with
   |nil=>show nf q
   |cons b S =>
   cases b with
   |none=>show nf q
   |some v =>
   cases v with
   |builtin n =>
    cases S with
    |nil=>show nf q
    |cons k5 S =>
    cases S with
    |nil=>show⟨C,a,k0,k1,k2,k3,n,k5,rfl,rfl,q⟩
    |cons _ _=>show nf q
   |_=>show nf q
  |_=>show nf q
abbrev Y_(p:Option d8->ClassData->Array (Option dV)->Bool)(o:Option Obj):Prop:=∃d a b,o=a5 ⟨.type "type",d,.cls a,b⟩/\p d a b=bD
def Fm(q:excIn.match_6 (λ_=>Bool) o p (λ_=>cc)=bD):Y_ p o:=by
 split at q
 .show⟨_,_,_,rfl,q⟩
 .show nf q
def Fo{K:Frag}{P:Prop}(b:K.In h)(q:excIn K C Qo a=bD)(k:∀c N nm d bs hdct sn sub ab col dd k0 k1 k2 k3 k5 f,h.get? C=a5 (excClassObj nm d C N bs c hdct sn sub ab col dd k0 k1 k2 k3 k5 a)->h.Ns N f->f "__init__"=b6->OwnTail h Qo c->P):P:=by
 have⟨dd,p,r,ho,g⟩:=Fm q;have⟨v,c,k0,k1,k2,k3,n,k5,i,hs,j⟩:=Fj g;clear q g;have⟨nm,bs,mro,ns,d,s,sn,sub,ab,col,t⟩:=p;have⟨l⟩:=r;simp only[cb,beq_iff_eq,td]at j;obtain⟨⟨⟨⟨⟨rfl,rfl⟩,m⟩,u⟩,e⟩,o⟩:=j
 dsimp only at i m e o
 subst i m;obtain rfl:l=_:=hs;show k c ns nm d bs s sn sub ab col dd k0 k1 k2 k3 k5 _ (b _ _ ho) (.of_isNs (isNs_of_in b e)) (nsMap_none_of_in b e o) (tail_of_in b u)
def yI(g:X.calm=bD)(i:Gl X x)(d:X.mg x=a5 (.ref C))(j:(x==("__debug__":Str))=cc)(k:excIn X.K C Qo "ValueError.__new__"=bD)(l:PE X a m)
  (f:hZ [a] X.env=[(cc,ve a X.env)]) :
  PS X (.Raise (a5 (.Call (.Name x p) [a] [] z)) b6 pos) (λD σ H=>m σ H λv c=>∀pins s e s',Inv X pins σ c s->cj X.prog X.w X.stack c s e C b6 .none c s'->X.xe (.ref e) s'):=by
 intro pins s σ H D I h;show Fo I.mod.P5 k λA N nm n bs hdct sn sub ab col dd k0 k1 k2 k3 k5 B o r t T=>?_;show wpAny_Raise_call_subT (nm:=nm) (q:=n) (N:=N) (bs:=bs) (hdct:=hdct) (sn:=sn) (sub:=sub) (ab:=ab) (col:=col) (dd:=dd) (k0:=k0) (k1:=k1) (k2:=k2) (k3:=k3) (k5:=k5) ç (T.hasType ç.hasBase) (I.ok.hd g) (by rw[f];rfl) t (gu I i d ⟨rfl,?_⟩ j);rw[f];show Mq (Nh (JZ (l pins s σ H _ I h) λu s1 ⟨v,c,b,G,y⟩=>QJ ⟨rfl,?_,b.bk _ _ o,r.keeps b.bk,T.keeps b.bk,λh' e d=>y pins s1 e _ b (.made b d)⟩));show(by decide:1<=cL)
def Hq:Passes (Pl X.prog X.w) X E0:=λ_ _ _ _ _ _ _ ⟨_,_,_,_,_,_,h⟩=>h.elim
def uT(F:jv X.prog X.w X.K X.mg X.base CX k f c ps sp)(d:fJ k X.A)(g:Binds X.K c ps [])(I:Inv X pins σ H s)(r:Vals vs us)(h:sp vs H Q E)
  (i:∀e s',CX X.stack H s E e s'->EE e s'):d3 (eH X.prog X.w) X.A (OS (.ref f) us) (EP X pins σ Q) EE s:=by
 have hl:us.length=ps.length:=by rw[<-r.length];show F.len _ _ _ _ h
 have b:=g s us I.Nf (by rw[t4];show hl);rw[t4]at b;show ĕ (Th (F.run X.A X.stack s H ⟨us,[]⟩ us vs Q E d I.Hd b r h) λr s' a=>?_);cases r with
 |error e=>show i e s' a
 |ok j =>
  cases j with
  |ret u=>show I.after a
  |_=>show Ni a
end
@[reducible]def Cx.Nw(X:Cx)(e:d8)(oe:Obj)(E:dV->d6->Prop):Cx:={X with A:=X.A.mark (a5 (.ref e)),calm:=cc,pn:=(e,oe)::X.pn,xe:=E}
section
def Inv.Nw(I:Inv X pins σ H s)(a:s.heap.get? e=a5 oe)(b:H e=b6)(c:e≠X.env.locals)(d:e∉X.fs)(f:∀v,oe.data≠.cell v):Inv (X.Nw e oe E) pins σ H s :=
 ⟨⟨I.ok.mod,I.ok.kind,I.ok.glob,I.ok.blt,I.ok.above,I.ok.inj,I.ok.has,I.ok.P6,λz=>(nomatch z),I.ok.frames,I.ok.QG,I.ok.Td,I.ok.bs,I.ok.N1,I.ok.MQ,I.ok.Nd,I.ok.km,I.ok.OX⟩,I.os,I.bare,I.base,I.loc,I.cell,I.free,I.Ki,
  λp g=>(d7.mp (show p∈(e,oe)::(X.pn++pins) from g)).elim (λz=>by subst z;show⟨a,b,c,d,f⟩) λz=>I.pin p z,I.JV,I.len⟩
def Inv.JB(a:X.Ok)(I:Inv (X.Nw e oe E) pins σ H s):Inv X pins σ H s :=
 ⟨a,I.os,I.bare,I.base,I.loc,I.cell,I.free,I.Ki,λp b=>I.pin p (ko _ b),I.JV,I.len⟩
def Inv.gone(I:Inv X pins σ H s)(C:X.N.Nodup)(t:X.N[j]?=a5 n)(hl:X.env.scope.names.lookup n=a5 .local)
  (h:∀s',Inv X pins (σ.set j b6) H s'->Q () s'):d3 M A (do bindName X.env n .none;unbindBehindTheSuite X.env n pos) Q E s:=by
 have⟨m,D,G⟩:=id I.loc;have J:(X.env.scope.kind==.class||(X.env.scope.kind==.module&&X.env.locals != X.env.globals))=cc:=by rw[I.ok.kind];rfl
 show wpAny_nameGoes_keeps hl D J λh' v L hs=>h _ ?_;have w:=I.Ng;have O:j < σ.length:=by rw[I.len];show(dt.mp t).1
 have ne:∀b o,X.s₀.heap.get? b=a5 o->b≠X.env.locals:=λb o q=>hW (i5 (ez q) I.ok.above);show⟨I.ok,I.os,I.bare,⟨λb o e n k f=>(hs.2 b (ne b o e)).trans (I.base.keep b o e n k f),λb o e n k f=>?_,I.base.free,λb o e f=>?_,I.base.fT,I.base.KZ,I.base.K9⟩,⟨_,L,λi y u x g T=>?_⟩,λy c e=>?_,I.free,I.Ki,λp Y=>?_,λb ob e=>(I.JV b ob e).fI (λc w' hc q=>(hs.2 c ?_).trans q) (λ_ q=>q) λ_ _ q=>q,by simpa using I.len⟩
 .have⟨sl,q⟩:=I.base.slot b o e n k f;show⟨sl,(hs.2 b (ne b o e)).trans q⟩
 .have⟨o',q⟩:=I.base.there b o e f;show⟨o',(hs.2 b (ne b o e)).trans q⟩
 .have B:i≠j:=λz=>by subst z;rw[d5 O]at g;cases g
  rw[hH (nC B)]at g;have⟨u',r,l⟩:=G i y u x g T;show⟨u',r,l.imp (λ⟨a,b⟩=>⟨a,?_⟩) λ⟨a,c,b,d⟩=>⟨a,c,b,d.sameBut hs (w y c b)⟩⟩;change(if y=n then v else m y)=a5 u';rw[Ŧ λ(z:y=n)=>B (iz C x (by rw[z];show t))];show b
 .have⟨u,z⟩:=I.cell y c e;show⟨u,z.sameBut hs (w y c e)⟩
 .have⟨a,b,c,d⟩:=I.pin p Y;show⟨(hs.2 p.1 c).trans a,b,c,d⟩
 .rintro rfl;rcases hc with hc|hc
  .rw[<-hc,I.free]at e;cases e
  .rw[I.free]at hc;cases hc
end
section
variable{prog:va}{w:w6}{A:N5}{E:dV->d6->Prop}{h:KX}{g:Array Z3}{d:Drawn}{t:Nat}{os:OsState}{a C:d8}{o:Obj}{K:Frag}
def qO(e:K.In h)(hs:ř K (.ref C) (.type "object")=a5 bD)(b:h.get? a=a5 o)(c:o.cls=.ref C)(j:R (.ok (.ret (.ref C))) ⟨h,g,d,t,os⟩):
  Rq (eH prog w) A (.call (.builtin "getset_descriptor.__get__") ⟨[.builtin "object.__class__",.ref a,.ref C],[]⟩) R ⟨h,g,d,t,os⟩:=by
 have f:(⟨h,g,d,t,os⟩:d6).TypeIs (.builtin "object.__class__") "getset_descriptor":=Vg;have i:ĭ (eH prog w) h (OZ (.ref C) (.type (".".intercalate ("object.__class__".cutAt '.').dropLast))) bD:=by rw[F.owner_object_class];show looks_subIn e hs
 show Wb Z_.plain F.entry_gs_get (Z_.check _ _ _ _ _ _ _ _ f (F.args_gs_get _ _ _) ?_)
 repeat (any_goals (first|assumption|(with_reducible show Rp b ?_;rw[c])|with_reducible show i.at ?_|wp_step))
 show⟨VS _ (by decide +kernel),LF F.entry_object_class ?_⟩
 repeat (any_goals (first|assumption|(with_reducible show Rp b ?_;rw[c])|wp_step))
def m9(b:K.In h)(hs:ř K (.ref C) (.type "object")=a5 bD)(f:Ś K (.ref C) "__class__"=a5 (a5 (.builtin "object.__class__")))(c:h.get? a=a5 o)(e:o.cls=.ref C)(j:Q (.done (.ret (.ref C))) ⟨h,g,d,t,os⟩):
  d3 (eH prog w) A (Ot.«object.__getattribute__» ⟨[.ref a,.str "__class__" k],[]⟩) Q E ⟨h,g,d,t,os⟩:=by
 have l:(⟨h,g,d,t,os⟩:d6).TypeIs (.builtin "object.__class__") "getset_descriptor":=Vg;have i:ĭ (eH prog w) h (RY (.ref C) "__class__") (a5 (.builtin "object.__class__")):=â b f;have m:=Vg;have n:=Z_.lookup;have p:=F.slot_gs_set.lookup
 repeat (any_goals (first|assumption|(with_reducible show Rp c ?_;rw[e])|with_reducible show i.at ?_|wp_step))
 show qO b hs c e ?_
 repeat (any_goals (first|assumption|wp_step))
def sO(b:K.In h)(hs:ř K (.ref C) (.type "BaseException")=a5 bD)(c:h.get? a=a5 o)(e:o.cls=.ref C)(f:Q () ⟨h,g,d,t,os⟩):d3 M A (Yl "BaseException.__getattribute__" ⟨[.ref a,i],[]⟩) Q E ⟨h,g,d,t,os⟩:=by
 have hk:builtinKind "BaseException.__getattribute__"=a5 .slot:=by decide +kernel
 have j:splitId "BaseException.__getattribute__"=a5 ("BaseException","__getattribute__"):=by decide +kernel
 have k:ĭ M h (OZ (.ref C) (.type "BaseException")) bD:=looks_subIn b hs;have l:=F.args_bexc_ga (.ref a) i;simp only[Yl,hk,j];show b8 ?_
 .unfold isInstance
  repeat (first|(with_reducible show Rp c ?_;rw[e])|with_reducible show k.at ?_|wp_step)
  show f
abbrev fU(K:Frag)(C:d8):Bool:=ř K (.ref C) (.type "object")==a5 bD&&ř K (.ref C) (.type "BaseException")==a5 bD&&Ś K (.ref C) "__class__"==a5 (a5 (.builtin "object.__class__"))&&Ś K (.ref C) "__getattribute__"==a5 (a5 (.builtin "BaseException.__getattribute__"))&&Ś K (.ref C) "__getattr__"==a5 b6&&(clsIn K C).isSome
def sQ(b:K.In h)(f:fU K C=bD)(c:h.get? a=a5 o)(e:o.cls=.ref C)(l:Q (.ref C) ⟨h,g,d,t,os⟩):d3 (eH prog w) A (getAttrBy (.ref a) (.str "__class__" m) cc) Q E ⟨h,g,d,t,os⟩:=by
 simp only[fU,cb,beq_iff_eq]at f;obtain⟨⟨⟨⟨⟨o1,o2⟩,o3⟩,o4⟩,o5⟩,_⟩:=f;have n:=č.ga.bind (.ref a);have i:(cc&&onTheHeap (Ti "BaseException.__getattribute__"))=cc:=rfl;have j:(Ti "BaseException.__getattribute__"==Ti "object.__getattribute__")=cc:=by decide +kernel
 have p:(onTheHeap (lg C)&&Ti "BaseException.__getattribute__"==Ti "object.__getattribute__")=cc:=by rw[j];rfl
 have k:ĭ (eH prog w) h (RY (.ref C) "__getattribute__") (a5 (.builtin "BaseException.__getattribute__")):=â b o4;have L2:ĭ (eH prog w) h (RY (.ref C) "__getattr__") b6:=â b o5
 repeat (any_goals (first|assumption|(with_reducible show Rp c ?_;rw[e])|with_reducible show k.at ?_|with_reducible show L2.at ?_|wp_step))
 show Wb č.ga.plain F.entry_bexc_ga (sO b o2 c e (m9 b o1 o3 c e ?_))
 repeat (any_goals (first|assumption|wp_step))
def pD(b:K.In h)(c:fU K C=bD)(e:h.get? a=a5 o)(f:o.cls=.ref C)(i:Q (a5 (.ref C)) ⟨h,g,d,t+1,os⟩):d3 (eH prog w) A (getAttr? (.ref a) "__class__") Q E ⟨h,g,d,t,os⟩:=by
 unfold getAttr? getAttrBy?
 repeat (any_goals (first|assumption|with_reducible apply sQ b c e f|wp_step))
end
def yJ{K:Frag}(b:fU K C=bD):KitX K (.ref a) (.ref C) (λh=>∃o,h.get? a=a5 o/\o.cls=.ref C) where
 ty:=λM h _ j=>by
  have⟨o,f,i⟩:=j;show(ś f).andThen ?_;rw[i];show .now
 it:=λM h c _ A Q E s k q=>by
  simp only[fU,cb]at b;have z:=b.2;unfold clsIn at z;split at z
  .rename_i ho;unfold isType loadHead;show b8 (wpAny_loadPart (k _ _ (c _ _ ho)) (df q))
  .cases z
 ne:=λh l dd m n p c e=>by
  simp only[fU,cb]at b;have z:=b.2;unfold clsIn at z;split at z
  .rename_i ho;rw[ū];intro q;cases q;have:=c _ _ ho;rw[e]at this;cases this
  .cases z
 ca:=λ{_ _ _ _ _ s} c ⟨o,f,i⟩ q=>by
  have⟨h,g,d,t,os⟩:=s;show pD c b f i q
def Inv.Hr(I:Inv X pins σ H s)(d:s.heap.get? e=a5 oe)(g:H e=b6)(h:X.s₀.heap.get? e=b6)(i:e≠X.env.locals)(j:∀x c,X.env.cells.lookup x=a5 c->c≠e)(k:∀p∈X.pn++pins,p.1≠e):
  Inv X pins σ (upd H e (.KY oe (.ext λ_=>True))) s:=by
 have ne:∀b o,H b=a5 o->b≠e:=λb o q=>bu q g;show⟨I.ok,I.os,I.bare,⟨I.base.keep,I.base.slot,λb o q n l=>?_,I.base.there,λb xs q=>?_,λb o u q=>?_,λb ps q=>?_⟩,I.loc,I.cell,?_,λx c q=>?_,λp f=>?_,λb u q=>?_,I.len⟩
 .rw[ak (λz=>by rw[z,h]at q;cases q)];show I.base.free b o q n l
 .have:=I.base.fT b xs q;rw[ak (ne b _ this)];show this
 .have:=I.base.KZ b o u q;rw[ak (ne b _ this)];show this
 .have⟨m,q⟩:=I.base.K9 b ps q;show⟨m,by rw[ak (ne b _ q)];show q⟩
 .rw[ak (nC i)];show I.free
 .rw[ak (j x c q)];show I.Ki x c q
 .have⟨a,b,c⟩:=I.pin p f;show⟨a,by rw[ak (k p f)];show b,c⟩
 .by_cases z:b=e
  .subst z;rw[ax]at q;cases q;show⟨d,trivial,⟨oe,d⟩,λ_ _ _ _=>trivial⟩
  .rw[ak z]at q;show(I.JV b u q).fI (λ_ _ _ q=>q) (λc q=>by rw[ak (ne c _ q)];show q) λc xs q=>by rw[ak (ne c _ q)];show q
end L2
namespace TM
open PySem L2
inductive U where
 |J0|bl (b:Bool)|int (i:Int)|str (x:Str)
 |tup (xs:List U)|lst (xs:List U)
 |JU (ks:List Str) (vs:List U)
 |exc (c:Str)
mutual
noncomputable def Kl:U->Bool
 |.tup xs=>cV xs
 |.lst _=>cc
 |.JU _ _=>cc
 |.exc _=>bD
 |.J0=>bD|.bl _=>bD|.int _=>bD|.str _=>bD
noncomputable def cV:List U->Bool
 |[]=>bD
 |u::us=>Kl u&&cV us
end
inductive Kd where|own|io|loc|any|bor (j:Nat)|JS
deriving DecidableEq
abbrev Kd.root:Kd->Bool
 |.own=>bD
 |.io=>bD
 |_=>cc
@[reducible]def aw:=List (Option (Kd×U))
structure Ct where
 P:va
 w:w6
 K:PySem.W.Frag
 H₀:Hp
 Mu:d8->Prop
 IO:d8->Prop
 xw:U->Hp->Prop
abbrev KL(K:PySem.W.Frag)(a:d8)(xs:List V):Prop :=
 ∃(o:Obj) (b:Array dV) (n:Nat),K.lookup a=a5 o/\o.cls=.type "list"/\o.dict=b6/\o.data=.seq b n/\b.size<=cL/\Vals xs b.toList
abbrev Rr(K:PySem.W.Frag)(S:d8->Prop)(H:Hp)(a:d8)(vs:List V):Prop:=(S a/\Rd H a (.lst vs))\/KL K a vs
def Rr.sq(h:Rr K S H a vs):Ko K H a vs:=h.elim (λz=>.inl z.2) .inr
abbrev OG(H:Hp)(R:List V->Prop)(a:d8)(ks:List Str):Prop:=∃kvs:List (Key×V),H a=a5 (.dK kvs)/\kvs.map (·.1)=ks.map mu/\R (kvs.map (·.2))
abbrev JC(K:PySem.W.Frag)(H:Hp)(a:d8)(c:Str):Prop:=∃o C,H a=a5 (.KY o (.ext λ_=>True))/\o.cls=.ref C/\PySem.W.nsIn K i9 c=a5 (a5 (.ref C))
section
variable(C:Ct)(S:d8->Prop)(H:Hp)
mutual
def Rep:U->V->Prop
 |.J0,v=>v=.J0
 |.bl b,v=>v=.bl b
 |.int i,v=>v=.int i
 |.str x,v=>v=.str x
 |.tup us,v=>∃a vs,v=.ref a/\KA C.K H a vs/\au us vs
 |.lst us,v=>∃a vs,v=.ref a/\Rr C.K S H a vs/\au us vs
 |.JU ks us,v=>∃a,v=.ref a/\S a/\OG H (au us) a ks
 |.exc c,v=>∃a,v=.ref a/\JC C.K H a c
def au:List U->List V->Prop
 |[],vs=>vs=[]
 |u::us,vs=>∃v r,vs=v::r/\Rep u v/\au us r
end
end
def Tp:HO->Prop
 |.tup _=>True
 |.KY _ (.tup _)=>True
 |.KY _ (.ext _)=>True
 |_=>False
structure Mv(S:d8->Prop)(H:Hp)(S':d8->Prop)(H':Hp):Prop where
 sub:∀a,S a->S' a
 Qp:∀a o,H a=a5 o->Tp o->H' a=a5 o
 U4:∀a o,S a->H a=a5 o->H' a=a5 o
def Mv.Y'(m:Mv S H S' H')(h:KA K H a vs):KA K H' a vs:=by
 rcases h with(h|⟨o,h⟩)|h
 .show .inl (.inl (m.Qp a _ h trivial))
 .show .inl (.inr ⟨o,m.Qp a _ h trivial⟩)
 .show .inr h
def Mv.Za(m:Mv S H S' H')(h:Rr K S H a vs):Rr K S' H' a vs:=by
 rcases h with⟨s,h|⟨o,h⟩⟩|h
 .show .inl ⟨m.sub a s,.inl (m.U4 a _ s h)⟩
 .show .inl ⟨m.sub a s,.inr ⟨o,m.U4 a _ s h⟩⟩
 .show .inr h
def OG.mv(b:∀o,H a=a5 o->H' a=a5 o)(c:∀vs,R vs->d vs)(h:OG H R a ks):OG H' d a ks :=
 let ⟨kvs,e,f,g⟩:=h;⟨kvs,b _ e,f,c _ g⟩
section
mutual
theorem Rep.OH(m:Mv S H S' H'):∀(u:U) (v:V),Rep C S H u v->Rep C S' H' u v
 |.J0,_,h=>h
 |.bl _,_,h=>h
 |.int _,_,h=>h
 |.str _,_,h=>h
 |.tup us,v,h=>by
  have⟨a,vs,e,b,d⟩:=h;show⟨a,vs,e,m.Y' b,au.OH m us vs d⟩
 |.lst us,v,h=>by
  have⟨a,vs,e,b,d⟩:=h;show⟨a,vs,e,m.Za b,au.OH m us vs d⟩
 |.JU ks us,v,h=>by
  have⟨a,e,b,d⟩:=h;show⟨a,e,m.sub a b,d.mv (λo q=>m.U4 a o b q) λvs q=>au.OH m us vs q⟩
 |.exc c,v,h=>let ⟨a,e,o,f,b,d⟩:=h;⟨a,e,o,f,m.Qp a _ b trivial,d⟩
theorem au.OH(m:Mv S H S' H'):∀(us:List U) (vs:List V),au C S H us vs->au C S' H' us vs
 |[],_,h=>h
 |u::us,vs,h=>by
  have⟨v,r,e,a,b⟩:=h;show⟨v,r,e,Rep.OH m u v a,au.OH m us r b⟩
end
mutual
theorem Rep.wQ:∀(u:U) (v:V),Kl u=bD->Rep C S H u v->Rep C S' H u v
 |.J0,_,_,h=>h
 |.bl _,_,_,h=>h
 |.int _,_,_,h=>h
 |.str _,_,_,h=>h
 |.tup us,v,i,h=>by
  have⟨a,vs,e,b,c⟩:=h;show⟨a,vs,e,b,au.wQ us vs (by simpa[TM.Kl] using i) c⟩
 |.lst us,v,i,h=>by simp[TM.Kl]at i
 |.JU ks us,v,i,h=>by simp[TM.Kl]at i
 |.exc _,_,_,h=>h
theorem au.wQ:∀(us:List U) (vs:List V),cV us=bD->au C S H us vs->au C S' H us vs
 |[],_,_,h=>h
 |u::us,vs,i,h=>by
  have⟨v,r,e,b,c⟩:=h;have a:TM.Kl u=bD/\cV us=bD:=by simpa[cV] using i
  show⟨v,r,e,Rep.wQ u v a.1 b,au.wQ us r a.2 c⟩
end
def Rep.mv(m:Mv S H S' H')(h:Rep C S H u v):Rep C S' H' u v:=Rep.OH m u v h
def au.mv(m:Mv S H S' H')(h:au C S H us vs):au C S' H' us vs:=au.OH m us vs h
def Rep.Kl(i:TM.Kl u=bD)(h:Rep C S H u v):Rep C S' H u v:=Rep.wQ u v i h
def au.Kl(i:cV us=bD)(h:au C S H us vs):au C S' H us vs:=au.wQ us vs i h
def Mv.up(sub:∀a,S a->S' a):Mv S H S' H:=⟨sub,λ_ _ h _=>h,λ_ _ _ h=>h⟩
theorem au.len:∀{us:List U}{vs:List V},au C S H us vs->us.length=vs.length
 |[],_,h=>by cases h;rfl
 |u::us,vs,h=>by
  obtain⟨v,r,rfl,_,a⟩:=h;rw[js,js,au.len a]
theorem au.get:∀{us:List U}{vs:List V}{i:Nat}{u:U},au C S H us vs->us[i]?=a5 u->∃v,vs[i]?=a5 v/\Rep C S H u v
 |[],_,_,_,_,e=>by simp at e
 |u::us,vs,0,w,h,e=>by
  obtain⟨v,r,rfl,a,_⟩:=h;simp at e;subst e;show⟨v,rfl,a⟩
 |u::us,vs,i+1,w,h,e=>by
  obtain⟨v,r,rfl,_,b⟩:=h;have⟨c,d,h'⟩:=au.get (i:=i) (u:=w) b (by simpa using e);show⟨c,by simpa using d,h'⟩
theorem au.append:∀{us ws:List U}{vs a:List V},au C S H us vs->au C S H ws a->au C S H (us++ws) (vs++a)
 |[],_,_,_,h,h'=>by cases h;show h'
 |u::us,ws,vs,a,h,h'=>by
  have⟨v,r,rfl,b,c⟩:=h;show⟨v,r++a,rfl,b,c.append h'⟩
theorem au.take:∀{us:List U}{vs:List V} (n:Nat),au C S H us vs->au C S H (us.take n) (vs.take n)
 |_,_,0,_=>by simp[au]
 |[],_,n+1,h=>by cases h;simp[au]
 |u::us,vs,n+1,h=>by
  have⟨v,r,rfl,a,b⟩:=h;show⟨v,r.take n,rfl,a,b.take n⟩
theorem au.drop:∀{us:List U}{vs:List V} (n:Nat),au C S H us vs->au C S H (us.drop n) (vs.drop n)
 |_,_,0,h=>h
 |[],_,n+1,h=>by cases h;simp[au]
 |u::us,vs,n+1,h=>by
  have⟨v,r,rfl,b,a⟩:=h;show a.drop n
theorem au.set:∀{us:List U}{vs:List V} (n:Nat) {u:U}{v:V},au C S H us vs->Rep C S H u v->au C S H (us.set n u) (vs.set n v)
 |[],_,n,_,_,h,_=>by cases h;simp[au]
 |u::us,vs,0,_,_,h,h'=>by
  have⟨v,r,rfl,b,a⟩:=h;show⟨_,r,rfl,h',a⟩
 |u::us,vs,n+1,_,_,h,h'=>by
  have⟨v,r,rfl,b,a⟩:=h;show⟨v,_,rfl,b,a.set n h'⟩
def au.snoc(h:au C S H us vs)(h':Rep C S H u v):au C S H (us++[u]) (vs++[v]):=h.append ⟨v,[],rfl,h',rfl⟩
theorem au.strs:∀{xs:List Str}{vs:List V},au C S H (xs.map .str) vs↔vs=xs.map V.str
 |[],vs=>by simp[au]
 |x::xs,vs=>by
  constructor
  .rintro⟨v,r,rfl,a,b⟩;rw[au.strs.mp b];have:v=.str x:=a;rw[this];rfl
  .rintro rfl;show⟨_,_,rfl,rfl,au.strs.mpr rfl⟩
end
structure Ct.Eqv(C C':Ct):Prop where
 P:C.P=C'.P
 w:C.w=C'.w
 K:C.K=C'.K
section
mutual
theorem Rep.OI(q:C.Eqv f):∀(u:U) (v:V),Rep C S H u v->Rep f S H u v
 |.J0,_,h=>h
 |.bl _,_,h=>h
 |.int _,_,h=>h
 |.str _,_,h=>h
 |.tup us,v,h=>by
  have⟨a,vs,e,b,d⟩:=h;show⟨a,vs,e,q.K▸b,au.OI q us vs d⟩
 |.lst us,v,h=>by
  have⟨a,vs,e,b,d⟩:=h;show⟨a,vs,e,q.K▸b,au.OI q us vs d⟩
 |.JU ks us,v,h=>by
  have⟨a,e,b,d⟩:=h;show⟨a,e,b,d.mv (λ_ q=>q) λvs z=>au.OI q us vs z⟩
 |.exc c,v,h=>by
  have⟨a,e,h⟩:=h;show⟨a,e,q.K▸h⟩
theorem au.OI(q:C.Eqv a):∀(us:List U) (vs:List V),au C S H us vs->au a S H us vs
 |[],_,h=>h
 |u::us,vs,h=>by
  have⟨v,r,e,b,c⟩:=h;show⟨v,r,e,Rep.OI q u v b,au.OI q us r c⟩
end
def Rep.cg(q:C.Eqv a)(h:Rep C S H u v):Rep a S H u v:=Rep.OI q u v h
def au.cg(q:C.Eqv a)(h:au C S H us vs):au a S H us vs:=au.OI q us vs h
end
def c6(C:Ct)(S:d8->Prop)(H:Hp)(r:d8):U->Prop
 |.lst us=>∃vs,H r=a5 (.lst vs)/\au C S H us vs
 |.JU ks us=>OG H (au C S H us) r ks
 |_=>False
def c6.mv(m:Mv S H S' H')(a:∀o,H r=a5 o->H' r=a5 o)(h:c6 C S H r u):c6 C S' H' r u:=by
 cases u with
 |lst us=>have⟨vs,b,c⟩:=h;show⟨vs,a _ b,c.mv m⟩
 |JU ks us=>show OG.mv a (λvs q=>q.mv m) h
 |_=>show h
def c6.rep(hs:∀a,S a->S' a)(b:S' r)(h:c6 C S H r u):Rep C S' H u (.ref r):=by
 cases u with
 |lst us=>have⟨vs,c,d⟩:=h;show⟨r,vs,rfl,.inl ⟨b,.inl c⟩,d.mv (.up hs)⟩
 |JU ks us=>show⟨r,rfl,b,OG.mv (λ_ q=>q) (λvs q=>q.mv (.up hs)) h⟩
 |_=>show h.elim
def c6.cg(q:C.Eqv a)(h:c6 C S H r u):c6 a S H r u:=by
 cases u with
 |lst us=>have⟨vs,b,c⟩:=h;show⟨vs,b,c.cg q⟩
 |JU ks us=>show OG.mv (λ_ q=>q) (λvs z=>z.cg q) h
 |_=>show h
def c6.some(h:c6 C S H r u):∃o,H r=a5 o/\¬Tp o:=by
 cases u with
 |lst us=>obtain⟨vs,a,_⟩:=h;show⟨_,a,λz=>z⟩
 |JU ks us=>obtain⟨kvs,a,_⟩:=h;show⟨_,a,λz=>z⟩
 |_=>show h.elim
structure Cf where
 S:d8->Prop
 H:Hp
 σ:St
 st:aw
 kid:Nat->List d8
abbrev Cf.R1(c:Cf)(a:d8):Prop:=∃(j:Nat) (k:Kd) (u:U),k.root=bD/\c.st[j]?=a5 (a5 (k,u))/\c.σ[j]?=a5 (a5 (.ref a))
abbrev Cf.RD(c:Cf)(j:Nat)(a:d8):Prop:=∃(u:U) (r:d8),c.st[j]?=a5 (a5 (.JS,u))/\c.σ[j]?=a5 (a5 (.ref r))/\(a=r\/a∈c.kid j)
abbrev Cf.R(c:Cf)(a:d8):Prop:=c.R1 a\/∃j,c.RD j a
abbrev Cf.Qq(c:Cf)(a:d8):Prop:=∃j,c.RD j a
abbrev PS(C:Ct)(S:d8->Prop):d8->Prop:=λa=>C.Mu a\/S a
def fV(C:Ct)(S:d8->Prop)(H:Hp):Kd->U->V->Prop
 |.own,u,v=>∃r,v=.ref r/\¬S r/\¬C.Mu r/\C.H₀ r=b6/\c6 C S H r u
 |.io,u,v=>∃r,v=.ref r/\¬S r/\¬C.Mu r/\C.IO r/\c6 C S H r u
 |.loc,u,v=>Rep C S H u v
 |.any,u,v=>Rep C (PS C S) H u v
 |.bor _,_,_=>False
 |.JS,_,v=>∃r,v=.ref r
def dB(C:Ct)(S:d8->Prop)(H:Hp):List U->List d8->Prop
 |[],as=>as=[]
 |u::us,as=>∃a as' b vs,as=a::as'/\u=.lst b/\H a=a5 (.lst vs)/\au C S H b vs/\dB C S H us as'
def cD(C:Ct)(S:d8->Prop)(H:Hp)(r:d8)(as:List d8):U->Prop
 |.JU ks us=>∃kvs:List (Key×V),H r=a5 (.dK kvs)/\kvs.map (·.1)=ks.map mu/\kvs.map (·.2)=as.map V.ref/\(r::as).Nodup/\(∀a∈r::as,¬S a/\¬C.Mu a/\C.H₀ a=b6)/\dB C S H us as
 |_=>False
structure MZ(C:Ct)(c:Cf):Prop where
 kd:∀(j:Nat) (u:U) (r:d8),c.st[j]?=a5 (a5 (.JS,u))->c.σ[j]?=a5 (a5 (.ref r))->cD C c.S c.H r (c.kid j) u
 dj:∀(i j:Nat) (a:d8),c.RD i a->c.RD j a->i=j
 d1:∀(j:Nat) (a:d8),c.RD j a->¬c.R1 a
structure Ok(C:Ct)(c:Cf):Prop where
 same:∀a o,C.H₀ a=a5 o->¬C.IO a->c.H a=a5 o
 L3:∀a,c.S a->C.H₀ a=b6/\∃o,c.H a=a5 o
 par:∀a,C.Mu a->(∃o,C.H₀ a=a5 o)/\¬C.IO a
 io:∀a,C.IO a->(∃o,C.H₀ a=a5 o)/\∃o,c.H a=a5 o
 len:c.st.length=c.σ.length
 sl:∀(i:Nat) (k:Kd) (u:U),c.st[i]?=a5 (a5 (k,u))->∃v,c.σ[i]?=a5 (a5 v)/\fV C c.S c.H k u v
 inj:∀(i j:Nat) (k k':Kd) (u u':U) (r:d8),k.root=bD->k'.root=bD->c.st[i]?=a5 (a5 (k,u))->c.st[j]?=a5 (a5 (k',u'))->c.σ[i]?=a5 (a5 (.ref r))->c.σ[j]?=a5 (a5 (.ref r))->i=j
 dd:MZ C c
structure Ns(c c':Cf):Prop where
 keep:∀a o,c.H a=a5 o->¬c.R a->c'.H a=a5 o
 there:∀a o,c.H a=a5 o->∃o',c'.H a=a5 o'
 roots:∀a,c'.R a->c.R a\/c.H a=b6
 sub:∀a,c.S a->c'.S a
 new:∀a,c'.S a->c.S a\/c.R a\/c.H a=b6
section
def Ns.refl(c:Cf):Ns c c:=⟨λ_ _ h _=>h,λ_ o h=>⟨o,h⟩,λ_ h=>.inl h,λ_ h=>h,λ_ h=>.inl h⟩
def Ns.none(n:Ns c b)(h:b.H a=.none):c.H a=.none:=by
 cases e:c.H a with
 |none=>rfl
 |some o=>have⟨o',q⟩:=n.there a o e;rw[h]at q;cases q
def Ns.trans(m:Ns c d)(n:Ns d e):Ns c e where
 keep:=λa o h b=>by
  show n.keep a o (m.keep a o h b) λz=>?_;rcases m.roots a z with z|z
  .show b z
  .rw[h]at z;cases z
 there:=λa o h=>let ⟨o',h'⟩:=m.there a o h;n.there a o' h'
 roots:=λa h=>by
  rcases n.roots a h with z|z
  .show m.roots a z
  .show .inr (m.none z)
 sub:=λa h=>n.sub a (m.sub a h)
 new:=λa h=>by
  rcases n.new a h with z|z|z
  .show m.new a z
  .rcases m.roots a z with z|z
   .show .inr (.inl z)
   .show .inr (.inr z)
  .show .inr (.inr (m.none z))
def fV.rt(hk:k.root=bD)(h:fV C S H k u v):∃r,v=.ref r/\¬S r/\¬C.Mu r/\(C.H₀ r=b6\/C.IO r)/\c6 C S H r u:=by
 cases k with
 |own=>have⟨r,a,b,c,d,e⟩:=h;show⟨r,a,b,c,.inl d,e⟩
 |io=>have⟨r,a,b,c,d,e⟩:=h;show⟨r,a,b,c,.inr d,e⟩
 |_=>cases hk
theorem dB.mem:∀{us:List U}{as:List d8}{a:d8},dB C S H us as->a∈as->∃vs,H a=a5 (.lst vs)
 |[],as,a,h,ha=>by cases h;cases ha
 |u::us,as,a,h,ha=>by
  obtain⟨a',as',d,vs,rfl,_,b,_,c⟩:=h;rcases d7.mp ha with rfl|ha
  .show⟨vs,b⟩
  .show dB.mem c ha
theorem dB.mv(m:Mv S H S' H'):∀{us:List U}{as:List d8},(∀a∈as,∀o,H a=a5 o->H' a=a5 o)->dB C S H us as->dB C S' H' us as
 |[],as,_,h=>h
 |u::us,as,b,h=>by
  have⟨a,as',c,vs,rfl,e,d,f,g⟩:=h;show⟨a,as',c,vs,rfl,e,b a (by simp) _ d,f.mv m,dB.mv m (λa i=>b a (by simp[i])) g⟩
def cD.fr(h:cD C S H r as u):∀a∈r::as,¬S a/\¬C.Mu a/\C.H₀ a=b6:=by
 cases u<;>first|show h.elim|(obtain⟨kvs,_,_,_,_,b,_⟩:=h;show b)
def cD.there(h:cD C S H r as u):∀a∈r::as,∃o,H a=a5 o/\¬Tp o:=by
 cases u<;>first|show h.elim|skip
 obtain⟨kvs,b,_,_,_,_,c⟩:=h;intro a ha;rcases d7.mp ha with rfl|ha
 .show⟨_,b,λz=>z⟩
 .have⟨vs,e⟩:=c.mem ha;show⟨_,e,λz=>z⟩
def cD.mv(m:Mv S H S' H')(c:∀a∈r::as,¬S' a/\∀o,H a=a5 o->H' a=a5 o)(h:cD C S H r as u):cD C S' H' r as u:=by
 cases u<;>first|show h.elim|skip
 have⟨kvs,d,e,f,g,i,j⟩:=h;show⟨kvs,(c r (by simp)).2 _ d,e,f,g,λa b=>⟨(c a b).1,(i a b).2⟩,j.mv m λa b=>(c a (by simp[b])).2⟩
def MZ.of(d:MZ C c)(hk:e.kid=c.kid)(p:∀(j:Nat) (u:U),e.st[j]?=a5 (a5 (.JS,u))->c.st[j]?=a5 (a5 (.JS,u))/\e.σ[j]?=c.σ[j]?)(s:∀a,e.R1 a->c.R1 a\/∀j,¬c.RD j a)
  (m:Mv c.S c.H e.S e.H) (t:∀j a,c.RD j a->¬e.S a/\∀o,c.H a=a5 o->e.H a=a5 o):MZ C e:=by
 have b:∀j a,e.RD j a->c.RD j a:=λj a v=>by
  have⟨u,r,k,f,q⟩:=v;have⟨g,l⟩:=p j u k;rw[l]at f;rw[hk]at q;show⟨u,r,g,f,q⟩
 show⟨λj u r k f=>?_,λi j a h n=>d.dj i j a (b i a h) (b j a n),λj a h n=>?_⟩
 .have⟨g,l⟩:=p j u k;rw[l]at f;rw[hk];show cD.mv m (λa w=>t j a ⟨u,r,g,f,d7.mp w⟩) (d.kd j u r g f)
 .rcases s a n with z|z
  .show d.d1 j a (b j a h) z
  .show z j (b j a h)
def MZ.hs(d:MZ C c)(m:Mv c.S c.H S' H')(b:∀j a,c.RD j a->¬S' a/\∀o,c.H a=a5 o->H' a=a5 o):MZ C {c with H:=H',S:=S' } :=
 d.of rfl (λ_ _ e=>⟨e,rfl⟩) (λ_ z=>.inl z) m b
def Ok.root(f:Ok C c)(h:c.R r):¬c.S r/\¬C.Mu r/\(C.H₀ r=b6\/C.IO r)/\∃o,c.H r=a5 o/\¬Tp o:=by
 rcases h with⟨j,k,u,hk,b,d⟩|⟨j,u,g,b,d,a⟩
 .have⟨v,e,hs⟩:=f.sl j _ _ b;have⟨g,ev,a,l,m,n⟩:=hs.rt hk;rw[d]at e;cases e;cases ev;show⟨a,l,m,n.some⟩
 .have i:=f.dd.kd j u g b d;have⟨p,q,s⟩:=cD.fr i r (d7.mpr a);show⟨p,q,.inl s,cD.there i r (d7.mpr a)⟩
def Ok.mv(b:Ok C c)(n:Ns c d):Mv c.S c.H d.S d.H:=⟨n.sub,λa o h t=>n.keep a o h λz=>by
  obtain⟨_,_,_,o',h',e⟩:=b.root z;rw[h]at h';cases h';show e t,λa o s h=>n.keep a o h λz=>(b.root z).1 s⟩
def Ok.Oa(b:Ok C c)(n:Ns c d):Mv (PS C c.S) c.H (PS C d.S) d.H:=⟨λa h=>h.imp id (n.sub a),(b.mv n).Qp,λa o s h=>n.keep a o h λz=>by
  rcases s with s|s
  .show(b.root z).2.1 s
  .show(b.root z).1 s⟩
def Ok.kC(a:Ok C c)(h:c.H p=b6):C.H₀ p=b6/\¬c.S p/\¬C.Mu p/\¬C.IO p/\¬c.R p:=by
 have b:¬C.IO p:=λz=>by obtain⟨_,o,q⟩:=a.io p z;rw[h]at q;cases q
 have d:C.H₀ p=b6:=by
  cases e:C.H₀ p with
  |none=>rfl
  |some o=>have:=a.same p o e b;rw[h]at this;cases this
 show⟨d,λz=>?_,λz=>?_,b,λz=>?_⟩
 .obtain⟨_,o,q⟩:=a.L3 p z;rw[h]at q;cases q
 .obtain⟨⟨o,q⟩,_⟩:=a.par p z;rw[d]at q;cases q
 .obtain⟨_,_,_,o,q,_⟩:=a.root z;rw[h]at q;cases q
def fV.mv(m:Mv S H S' H')(i:Mv (PS C S) H (PS C S') H')(g:k.root=bD->∀r,v=.ref r->¬S' r/\∀o,H r=a5 o->H' r=a5 o)(h:fV C S H k u v):fV C S' H' k u v:=by
 cases k with
 |own =>
  have⟨r,e,l,a,b,c⟩:=h;have⟨d,f⟩:=g rfl r e;show⟨r,e,d,a,b,c.mv m f⟩
 |io =>
  have⟨r,e,l,a,b,c⟩:=h;have⟨d,f⟩:=g rfl r e;show⟨r,e,d,a,b,c.mv m f⟩
 |loc=>show Rep.mv m h
 |any=>show Rep.mv i h
 |bor j=>show h.elim
 |JS=>show h
structure Nx(c c':Cf):Prop extends Ns c c' where
 dk:∀a,c'.Qq a->c.Qq a/\∀o,c.H a=a5 o->c'.H a=a5 o
instance {c a:Cf}:Coe (Nx c a) (Ns c a):=⟨Nx.toNs⟩
def Nx.refl(c:Cf):Nx c c:=⟨.refl c,λ_ h=>⟨h,λ_ e=>e⟩⟩
def Nx.trans(m:Nx c b)(n:Nx b d):Nx c d:=⟨m.toNs.trans n.toNs,λa h=>⟨(m.dk a (n.dk a h).1).1,λo e=>(n.dk a h).2 o ((m.dk a (n.dk a h).1).2 o e)⟩⟩
def Nx.none(n:Nx c b)(h:b.H a=.none):c.H a=.none:=n.toNs.none h
def Ok.lay(b:Ok C c)(h:c.H p=b6):Ok C {c with H:=upd c.H p o}/\Nx c {c with H:=upd c.H p o}:=by
 have ne:∀{a:d8} {o':HO},c.H a=a5 o'->a≠p:=λe z=>by subst z;rw[h]at e;cases e
 have d:∀a o',c.H a=a5 o'->(upd c.H p o) a=a5 o':=λa o' e=>by rw[ak (ne e)];show e
 have nx:Nx c {c with H:=upd c.H p o}:=⟨⟨λa o' e _=>d a o' e,λa o' e=>⟨o',d a o' e⟩,λa z=>.inl z,λ_ z=>z,λ_ z=>.inl z⟩,λa h=>⟨h,d a⟩⟩
 show⟨⟨λa o' e z=>d a o' (b.same a o' e z),λa z=>⟨(b.L3 a z).1,let ⟨o',q⟩:=(b.L3 a z).2;⟨o',d a o' q⟩⟩,b.par,λa z=>⟨(b.io a z).1,let ⟨o',q⟩:=(b.io a z).2;⟨o',d a o' q⟩⟩,b.len,λi k u e=>?_,b.inj,b.dd.hs (b.mv nx.toNs) λj a z=>⟨(b.root (.inr ⟨j,z⟩)).1,λo' e=>d a o' e⟩⟩,nx⟩;have⟨v,l,f⟩:=b.sl i k u e;show⟨v,l,f.mv (b.mv nx.toNs) (b.Oa nx.toNs) λhk r m=>?_⟩;obtain⟨s,g,n,_⟩:=f.rt hk;rw[m]at g;cases g;show⟨n,λo' e=>d r o' e⟩
def Ok.grow(b:Ok C c)(hs:qp c.H H')(g:∀a,S' a->c.S a\/(c.H a=b6/\∃o,H' a=a5 o))(s:∀a,c.S a->S' a):Ok C {c with H:=H',S:=S' }/\Nx c {c with H:=H',S:=S' }:=by
 have nx:Nx c {c with H:=H',S:=S' }:=⟨⟨λa o' e _=>hs a o' e,λa o' e=>⟨o',hs a o' e⟩,λa z=>.inl z,s,λa z=>(g a z).imp id λq=>.inr q.1⟩,λa h=>⟨h,hs a⟩⟩
 show⟨⟨λa o' e z=>hs a o' (b.same a o' e z),λa z=>?_,b.par,λa z=>⟨(b.io a z).1,let ⟨o',q⟩:=(b.io a z).2;⟨o',hs a o' q⟩⟩,b.len,λi k u e=>?_,b.inj,b.dd.hs (b.mv nx.toNs) λj a z=>⟨λd=>?_,λo' e=>hs a o' e⟩⟩,nx⟩
 rotate_left 2
 .obtain⟨f,_,_,o,l,_⟩:=b.root (.inr ⟨j,z⟩);rcases g a d with d|⟨d,_⟩
  .show f d
  .rw[l]at d;cases d
 .rcases g a z with q|⟨f,m⟩
  .show⟨(b.L3 a q).1,let ⟨o',q⟩:=(b.L3 a q).2;⟨o',hs a o' q⟩⟩
  .show⟨(b.kC f).1,m⟩
 .have⟨v,t,n⟩:=b.sl i k u e;show⟨v,t,n.mv (b.mv nx.toNs) (b.Oa nx.toNs) λhk r w=>?_⟩;have⟨x,p,f,m,y,l⟩:=n.rt hk;rw[w]at p;cases p;obtain⟨o,ho,_⟩:=l.some;show⟨λz=>?_,λo' e=>hs r o' e⟩;rcases g r z with z|⟨z,_⟩
  .show f z
  .rw[z]at ho;cases ho
def aT(C:Ct)(c0 c:Cf):Kd->U->V->Prop
 |.own,u,v=>∃r,v=.ref r/\c0.H r=b6/\¬c.S r/\¬c.R r/\c6 C c.S c.H r u
 |.loc,u,v=>Rep C c.S c.H u v
 |.any,u,v=>Rep C (PS C c.S) c.H u v
 |.bor j,u,v=>(∃k:Kd,k.root=bD/\c.st[j]?=a5 (a5 (k,u)))/\c.σ[j]?=a5 (a5 v)
 |.io,_,_=>False
 |.JS,_,_=>False
def fW(C:Ct)(c0 c:Cf):Kd->U->V->Prop
 |.own,u,v=>∃r,v=.ref r/\c0.H r=b6/\¬c.S r/\¬c.R r/\c6 C c.S c.H r u
 |.loc,u,v=>Rep C c.S c.H u v
 |.any,u,v=>Rep C (PS C c.S) c.H u v
 |.bor j,u,v=>c.σ[j]?=a5 (a5 v)
 |.io,_,_=>False
 |.JS,_,_=>False
def aT.w(h:aT C c0 c k u v):fW C c0 c k u v:=by
 cases k with
 |bor j=>show h.2
 |_=>show h
def fW.WR(a:Ok C c)(n:Ns c b)(g:∀j,k=.bor j->b.σ[j]?=c.σ[j]?)(h:fW C c0 c k u v):fW C c0 b k u v:=by
 cases k with
 |own =>
  have⟨r,e,i,l,d,f⟩:=h;obtain⟨o,ho,_⟩:=f.some;show⟨r,e,i,λz=>?_,λz=>?_,f.mv (a.mv n) λo q=>n.keep r o q d⟩
  .rcases n.new r z with z|z|z
   .show l z
   .show d z
   .rw[z]at ho;cases ho
  .rcases n.roots r z with z|z
   .show d z
   .rw[z]at ho;cases ho
 |loc=>show Rep.mv (a.mv n) h
 |any=>show Rep.mv (a.Oa n) h
 |bor j=>change b.σ[j]?=_;rw[g j rfl];show h
 |_=>show h
def fW.on(b:Ok C c)(n:Ns c a)(d:a.σ=c.σ)(h:fW C c0 c k u v):fW C c0 a k u v:=h.WR b n λj _=>by rw[d]
def fW.from(n:Ns c0 c1)(h:fW C c1 c k u v):fW C c0 c k u v:=by
 cases k with
 |own=>have⟨r,e,a,b⟩:=h;show⟨r,e,n.none a,b⟩
 |_=>show h
def aT.from(n:Ns c0 c1)(h:aT C c1 c k u v):aT C c0 c k u v:=by
 cases k with
 |own=>have⟨r,e,a,b⟩:=h;show⟨r,e,n.none a,b⟩
 |_=>show h
def SK(C:Ct)(c:Cf):Kd->d8->Prop
 |.any=>PS C c.S
 |_=>c.S
abbrev kE:Kd->Kd
 |.any=>.any
 |_=>.loc
def Ok.rootOf(b:Ok C c){j:Nat}(h:∃k:Kd,k.root=bD/\c.st[j]?=a5 (a5 (k,u)))(e:c.σ[j]?=a5 (a5 v)):∃r,v=.ref r/\¬c.S r/\¬C.Mu r/\(C.H₀ r=b6\/C.IO r)/\c6 C c.S c.H r u:=by
 have⟨k,hk,h⟩:=h;have⟨f,a,d⟩:=b.sl j _ _ h;rw[e]at a;cases a;show d.rt hk
def aT.list(f:Ok C c)(h:aT C c0 c k (.lst us) v):∃a vs,v=.ref a/\Ko C.K c.H a vs/\au C (SK C c k) c.H us vs:=by
 cases k with
 |own=>obtain⟨r,e,_,_,_,vs,b,d⟩:=h;show⟨r,vs,e,Ko.of b,d⟩
 |bor j=>obtain⟨r,e,_,_,_,vs,b,d⟩:=f.rootOf h.1 h.2;show⟨r,vs,e,Ko.of b,d⟩
 |io=>show h.elim
 |JS=>show h.elim
 |_=>have⟨a,vs,e,b,d⟩:=h;show⟨a,vs,e,b.sq,d⟩
def aT.tuple(b:Ok C c)(h:aT C c0 c k (.tup us) v):∃a vs,v=.ref a/\KA C.K c.H a vs/\au C (SK C c k) c.H us vs:=by
 cases k with
 |own=>obtain⟨r,e,_,_,_,h⟩:=h;show h.elim
 |bor j=>obtain⟨r,e,_,_,_,h⟩:=b.rootOf h.1 h.2;show h.elim
 |io=>show h.elim
 |JS=>show h.elim
 |_=>have⟨a,vs,e,d,f⟩:=h;show⟨a,vs,e,d,f⟩
def aT.flat(b:Ok C c)(a:Kl u=bD)(h:aT C c0 c k u v):Rep C c.S c.H u v:=by
 cases k with
 |own=>obtain⟨r,e,_,_,_,h⟩:=h;cases u<;>simp[Kl]at a<;>show h.elim
 |loc=>show h
 |any=>show Rep.Kl a h
 |bor j=>obtain⟨r,e,_,_,_,h⟩:=b.rootOf h.1 h.2;cases u<;>simp[Kl]at a<;>show h.elim
 |_=>show h.elim
def aT.int(a:Ok C c)(h:aT C c0 c k (.int i) v):v=.int i:=h.flat a rfl
def aT.str(a:Ok C c)(h:aT C c0 c k (.str x) v):v=.str x:=h.flat a rfl
def aT.bl(a:Ok C c)(h:aT C c0 c k (.bl b) v):v=.bl b:=h.flat a rfl
def aT.J0(a:Ok C c)(h:aT C c0 c k .J0 v):v=.J0:=h.flat a rfl
def aT.item(h:Rep C (SK C c k) c.H u v):aT C c0 c (kE k) u v:=by
 cases k<;>show h
abbrev LV(H:Hp):d8->Prop:=λa=>∃o,H a=a5 o
def Ok.yK(b:Ok C c):∀a,c.S a->LV c.H a:=λa h=>(b.L3 a h).2
def Ok.Hs(b:Ok C c):∀a,PS C c.S a->LV c.H a:=λa h=>by
 rcases h with h|h
 .obtain⟨⟨o,e⟩,n⟩:=b.par a h;show⟨o,b.same a o e n⟩
 .show b.yK a h
def aT.read(a:Ok C c)(h:aT C c0 c k u v):Rep C (LV c.H) c.H u v:=by
 cases k with
 |own =>
  obtain⟨r,e,_,_,_,b⟩:=h;rw[e];obtain⟨o,ho,_⟩:=b.some;show b.rep a.yK ⟨o,ho⟩
 |loc=>show Rep.mv (.up a.yK) h
 |any=>show Rep.mv (.up a.Hs) h
 |bor j =>
  obtain⟨r,e,_,_,_,b⟩:=a.rootOf h.1 h.2;rw[e];obtain⟨o,ho,_⟩:=b.some;show b.rep a.yK ⟨o,ho⟩
 |_=>show h.elim
def Ok.newList(a:Ok C c)(n:Nx c0 c)(h:c.H p=b6)(d:au C c.S c.H us vs):
  Ok C {c with H:=upd c.H p (.lst vs)}/\Nx c0 {c with H:=upd c.H p (.lst vs)}/\aT C c0 {c with H:=upd c.H p (.lst vs)} .own (.lst us) (.ref p):=by
 have⟨e,b⟩:=a.lay (o:=.lst vs) h;have⟨i,f,j,k,g⟩:=a.kC h;show⟨e,n.trans b,p,rfl,n.none h,f,g,vs,ax,d.mv (a.mv b.toNs)⟩
def Ok.Fp(a:Ok C c)(n:Nx c0 c)(h:c.H p=b6)(d:au C c.S c.H us vs):
  Ok C {c with H:=upd c.H p (.tup vs)}/\Nx c0 {c with H:=upd c.H p (.tup vs)}/\aT C c0 {c with H:=upd c.H p (.tup vs)} .loc (.tup us) (.ref p):=by
 have⟨e,b⟩:=a.lay (o:=.tup vs) h;show⟨e,n.trans b,p,vs,rfl,KA.of ax,d.mv (a.mv b.toNs)⟩
end
inductive Ex(α:Type) where|ok (a:α)|exc (c:Str)
abbrev M(α:Type):=aw->Option (Ex α×aw)
namespace M
abbrev pure(a:α):M α:=λst=>a5 (.ok a,st)
abbrev fail:M α:=λ_=>b6
abbrev bind(m:M α)(f:α->M β):M β:=λst=>match m st with
 |none=>b6
 |some (.ok a,st')=>f a st'
 |some (.exc c,st')=>a5 (.exc c,st')
abbrev J8(o:Option α):M α:=λst=>match o with
 |none=>b6
 |some a=>a5 (.ok a,st)
end M
noncomputable instance:Monad M:={pure:=M.pure,bind:=M.bind}
abbrev W{α:Type}(m:M α)(st:aw)(Q:α->aw->Prop):Prop:=∃a st',m st=a5 (.ok a,st')/\Q a st'
section
def aq:W (pure a) st Q↔Q a st:=by
 constructor
 .rintro⟨b,st',e,h⟩;cases e;show h
 .intro h;show⟨a,st,rfl,h⟩
def ah:W (m >>= f) st Q↔W m st λa st'=>W (f a) st' Q:=by
 constructor
 .rintro⟨b,st',e,h⟩;have d:M.bind m f st=a5 (.ok b,st'):=e;unfold M.bind at d;cases q:m st with
  |none=>rw[q]at d;cases d
  |some r =>
   have⟨r,s1⟩:=r;rw[q]at d;cases r with
   |ok a=>show⟨a,s1,q,b,st',d,h⟩
   |exc c=>cases d
 .rintro⟨a,s1,q,b,st',e,h⟩;show⟨b,st',?_,h⟩;change M.bind m f st=_;unfold M.bind;rw[q];show e
def bz:W (M.J8 o) st Q↔∃a,o=a5 a/\Q a st:=by
 cases o with
 |none=>show⟨λ⟨_,_,e,_⟩=>(by cases e),λ⟨_,e,_⟩=>(by cases e)⟩
 |some a=>show⟨λ⟨_,_,e,h⟩=>(by cases e;show⟨a,rfl,h⟩),λ⟨_,e,h⟩=>(by cases e;show⟨a,st,rfl,h⟩)⟩
def bw:W (M.fail:M α) st Q↔False:=⟨λ⟨_,_,e,_⟩=>(by cases e),Ni⟩
def W.mono(h:W m st Q)(i:∀a s,Q a s->Q' a s):W m st Q':=let ⟨a,s,e,q⟩:=h;⟨a,s,e,i a s q⟩
end
inductive SE where|add|sub|mul|Po|mod|pow
deriving DecidableEq
inductive Rt where|eq|ne|lt|le|gt|ge|isin|J4|is|U5
deriving DecidableEq
inductive Bf where|len|sorted|list|tuple|str|int|repr|max|min|all|any
deriving DecidableEq
inductive B2 where|Ny|L4|sset|mW
deriving DecidableEq
inductive Mf where|split|join|partition|endswith
deriving DecidableEq
inductive Mb where|str|list|tuple|int|bool
deriving DecidableEq
inductive Ik where|seq|Lb|Zb|Pp|zip|rev
deriving DecidableEq
inductive E where
 |var (i:Nat)
 |cst (u:U)
 |SF (x:Str) (u:U)
 |bin (op:SE) (a b:E)
 |cmp (op:Rt) (a b:E)
 |Mw (o1 o2:Rt) (a b c:E)
 |and (es:List E)|or (es:List E)|not (a:E)
 |ite (c a b:E)
 |tup (es:List E)|lst (es:List E)|LM (r:Bool)
 |idx (a b:E)
 |Ob (a:E) (lo hi:List E)
 |bi (f:Bf) (es:List E)
 |NX (f:B2) (es:List E)
 |OJ (m:Mf) (a:E) (es:List E)
 |call (f:Str) (es:List E)
 |comp (k:Nat) (t:Bool) (ik:Ik) (src:List E) (cond:List E) (e:E)
 |neg (a:E)|bad|Mx (a:E) (T:Mb)|fst (es:List E)|inD (neg:Bool) (a:E) (i:Nat)|Qr (i:Nat)|My (i:Nat) (k d:E)|Qs (i:Nat)|OK (ln:Bool) (a b:E)
 |JW (f:Str) (es:List E) (is:List Nat)
 |pop (i:Nat)|Mz (i:Nat) (e:E)
 |Lp (a:E) (D:Str) (tb:List (Str×Bool))|Oc (ix:Bool) (i:Nat) (b:Bool)
 |Qt (i:Nat)
inductive S where
 |set (i:Nat) (e:E)
 |Oe (is:List Nat) (e:E)
 |put (i:Nat) (k v:E)
 |app (i:Nat) (e:E)|ext (i:Nat) (e:E)|bad|newD (i:Nat)|putD (i:Nat) (k v:E)|LN (i:Nat) (k v:E)|aug (sub:Bool) (i:Nat) (k v:E)|SG (i:Nat)
 |exp (e:E)
 |ret (e:E)|M0
 |MA (i:Nat) (e:E)
 |ite (c:E) (a b:List S)
 |J9 (t:Bool) (is:List Nat) (ik:Ik) (src:List E) (body:List S)
 |OL (c:E) (body:List S)
 |brk|cnt|SH
 |Na (is:List Nat)
 |NY (c:Str) (e:E)
 |Nz (f:Str) (es:List E)|NZ (i:Nat) (c:List E) (f:Str) (es:List E) (g:Str) (LK:List E) (x:Str) (cs:List Str) (j k:Nat)
abbrev isAny:Kd->Bool
 |.any=>bD
 |_=>cc
abbrev fu(k:Kd)(xs:List U):Bool:=!isAny k||cV xs
abbrev kT(k k':Kd):Kd:=if isAny k||isAny k' then .any else .loc
abbrev cut{α:Type}(xs:List α)(lo a:Option Int):List α:=(xs.drop (HT.L8 xs.length 0 lo)).take (HT.L8 xs.length xs.length a - HT.L8 xs.length 0 lo)
abbrev yL:Kd×U->Kd×U->Option (Kd×U)
 |(_,.int i),(_,.int j)=>a5 (.loc,.int (i+j))
 |(_,.str x),(_,.str y)=>if x.length+y.length<=cL then a5 (.loc,.str (x++y)) else b6
 |(k,.lst xs),(k',.lst a)=>if xs.length+a.length<=cL/\fu k xs=bD/\fu k' a=bD then a5 (.own,.lst (xs++a)) else b6
 |(k,.tup xs),(k',.tup a)=>if xs.length+a.length<=cL then a5 (kT k k',.tup (xs++a)) else b6
 |_,_=>b6
abbrev sR(f:Int->Int->Option Int):U->U->Option (Kd×U)
 |.int i,.int j=>(f i j).map λn=>(.loc,.int n)
 |_,_=>b6
abbrev BY(i j:Int):Option Int:=if ((-(2 ^ 64)<i/\i<2 ^ 64)\/(-(2 ^ 64)<j/\j<2 ^ 64)) then a5 (i * j) else b6
abbrev BZ(i j:Int):Option Int:=if 0<j/\j<1073741824 then a5 (i / j) else b6
abbrev B0(i j:Int):Option Int:=if 0<j then a5 (i % j) else b6
abbrev B1(i j:Int):Option Int:=if 0<=j/\j<=1000000/\i.natAbs<2 ^ 64 then a5 (i ^ j.toNat) else b6
abbrev M1(a:SE)(x y:Kd×U):Option (Kd×U):=match a with
 |.add=>yL x y
 |.sub=>sR (λi j=>a5 (i - j)) x.2 y.2
 |.mul=>sR BY x.2 y.2
 |.Po=>sR BZ x.2 y.2
 |.mod=>sR B0 x.2 y.2
 |.pow=>sR B1 x.2 y.2
mutual
noncomputable def Lc:Nat->U->Bool
 |_,.JU _ _=>cc
 |_,.exc _=>cc
 |0,.tup _=>cc
 |0,.lst _=>cc
 |n+1,.tup xs=>dW n xs
 |n+1,.lst xs=>dW n xs
 |_,.J0=>bD|_,.bl _=>bD|_,.int _=>bD|_,.str _=>bD
noncomputable def dW:Nat->List U->Bool
 |_,[]=>bD
 |n,u::us=>Lc n u&&dW n us
end
mutual
noncomputable def cH:U->U->Bool
 |.J0,.J0=>bD
 |.bl a,.bl b=>a==b
 |.bl a,.int b=>(if a then 1 else 0)==b
 |.int a,.bl b=>a==(if b then 1 else 0)
 |.int a,.int b=>a==b
 |.str a,.str b=>a==b
 |.tup xs,.tup c=>cP xs c
 |.lst xs,.lst c=>cP xs c
 |_,_=>cc
noncomputable def cP:List U->List U->Bool
 |[],[]=>bD
 |u::us,w::ws=>cH u w&&cP us ws
 |_,_=>cc
end
abbrev Pq(x:U)(a:List U):Option Bool:=if Lc 50 x=bD/\dW 50 a=bD then a5 (a.any λy=>cH y x) else b6
abbrev strsOf:List U->Option (List Str)
 |[]=>a5 []
 |.str x::us=>(strsOf us).map (x::·)
 |_::_=>b6
abbrev yM:U->U->Option Bool
 |x,.lst a=>Pq x a
 |x,.tup a=>Pq x a
 |.str x,.JU ks _=>a5 (cK (x∈ks))
 |_,_=>b6
abbrev dN:List Str->List U->Str->Option U
 |y::ks,u::us,x=>if y=x then a5 u else dN ks us x
 |_,_,_=>b6
abbrev dput(ks:List Str)(us:List U)(x:Str)(u:U):List Str×List U :=
 if x∈ks then(ks,(ks.zip us).map λp=>if p.1=x then u else p.2) else(ks++[x],us++[u])
abbrev lF:U->Bool
 |.J0=>bD
 |_=>cc
abbrev wR(f:Int->Int->Bool):U->U->Option Bool
 |.int i,.int j=>a5 (f i j)
 |_,_=>b6
abbrev bK:Rt->U->U->Option Bool
 |.eq,a,b=>if Lc 50 a=bD/\Lc 50 b=bD then a5 (cH a b) else b6
 |.ne,a,b=>if Lc 50 a=bD/\Lc 50 b=bD then a5 (!cH a b) else b6
 |.lt,a,b=>wR (λi j=>cK (i<j)) a b
 |.le,a,b=>wR (λi j=>cK (i<=j)) a b
 |.gt,a,b=>wR (λi j=>cK (j<i)) a b
 |.ge,a,b=>wR (λi j=>cK (j<=i)) a b
 |.isin,a,b=>yM a b
 |.J4,a,b=>(yM a b).map (!·)
 |.is,a,b=>if lF b=bD then a5 (lF a) else b6
 |_,_,_=>b6
abbrev gT:List U->Option (List Bool)
 |[]=>a5 []
 |.bl x::us=>(gT us).map (x::·)
 |_::_=>b6
abbrev jA:Kd×U->U->Option (Kd×U)
 |(k,.lst xs),.int i=>(Ky xs i).map λu=>(kE k,u)
 |(k,.tup xs),.int i=>(Ky xs i).map λu=>(kE k,u)
 |(_,.str x),.int i=>if x.length<=cL then(Ky x.cps.toList i).map λc=>(.loc,.str ⟨#[c]⟩) else b6
 |_,_=>b6
abbrev qP:Kd×U->Option Int->Option Int->Option (Kd×U)
 |(k,.lst xs),lo,a=>if fu k xs=bD then a5 (.own,.lst (cut xs lo a)) else b6
 |(_,.str x),lo,a=>if x.length<=cL then a5 (.loc,.str (PySem.StrLaws.sliceText x lo a)) else b6
 |_,_,_=>b6
abbrev Fq:U->Option Nat
 |.lst xs=>a5 xs.length
 |.tup xs=>a5 xs.length
 |.str x=>if x.length<=cL then a5 x.length else b6
 |_=>b6
abbrev iL{β:Type}(f:Kd×U->Option β):List (Kd×U)->Option β
 |[x]=>f x
 |_=>b6
abbrev intsOf:List U->Option (List Int)
 |[]=>a5 []
 |.int x::us=>(intsOf us).map (x::·)
 |_::_=>b6
abbrev Fs:Kd×U->Option (Kd×U)
 |(_,.lst xs)=>(strsOf xs).bind λss=>if ss.length<64 then a5 (.own,.lst ((aB ss).map .str)) else b6
 |(_,.JU ks _)=>if ks.length<64 then a5 (.own,.lst ((aB ks).map .str)) else b6
 |(_,.tup xs)=>(strsOf xs).bind λss=>if ss.length<64 then a5 (.own,.lst ((aB ss).map .str)) else b6
 |_=>b6
abbrev Ft:Kd×U->Option (Kd×U)
 |(k,.lst xs)=>a5 (kE k,.tup xs)
 |(k,.tup xs)=>a5 (kE k,.tup xs)
 |_=>b6
abbrev B3:Kd×U->Option (Kd×U)
 |(_,.int i)=>if i.natAbs.log2<1920 then a5 (.loc,.str (Si i)) else b6
 |_=>b6
abbrev Fu:Kd×U->Option (Kd×U)
 |(_,.lst xs)=>(gT xs).map λbs=>(.loc,.bl (bs.all id))
 |_=>b6
abbrev L5(f:Bf)(rs:List (Kd×U)):Option (Kd×U):=match f with
 |.len=>iL (λx=>(Fq x.2).map λ(n:Nat)=>(Kd.loc,U.int (n:Int))) rs
 |.sorted=>iL Fs rs
 |.tuple=>iL Ft rs
 |.str=>iL B3 rs
 |.all=>iL Fu rs
 |_=>b6
abbrev iM:U->Option (List Str)
 |.lst xs=>(strsOf xs).bind λss=>if ss.length+1<D8 then a5 (aD ss) else b6
 |.tup xs=>(strsOf xs).bind λss=>if ss.length+1<D8 then a5 (aD ss) else b6
 |_=>b6
abbrev Fv:Kd×U->Option (Kd×U)
 |(k,.lst xs)=>if fu k xs=bD then a5 (.own,.lst xs.reverse) else b6
 |_=>b6
abbrev sT(f:B2)(rs:List (Kd×U)):Option (Kd×U):=match f with
 |.Ny=>b6
 |.L4=>iL Fv rs
 |.sset=>iL (λx=>(iM x.2).bind λss=>if ss.length<64 then a5 (.own,.lst ((aB ss).map .str)) else b6) rs
 |.mW=>b6
abbrev m_:Mf->U->List (Kd×U)->Option (Kd×U)
 |.join,.str a,[(_,.lst xs)]=>(strsOf xs).bind λss=>if ě a ss=bD then a5 (.loc,.str (Vf a ss)) else b6
 |_,_,_=>b6
abbrev JD:Kd×U->Option (List (Kd×U))
 |(k,.lst xs)=>a5 (xs.map λu=>(kE k,u))
 |(k,.tup xs)=>a5 (xs.map λu=>(kE k,u))
 |_=>b6
abbrev yN:Kd×U->Option (List (Kd×U))
 |(_,.int n)=>if n<2 ^ 62/\-(2 ^ 62)<n then a5 ((gs n.toNat).map λi:Nat=>(Kd.loc,U.int (0+(i:Int)))) else b6
 |_=>b6
abbrev Fw:Kd×U->Option (List (Kd×U))
 |(k,.lst xs)=>a5 (xs.zipIdx.map λp=>(kE k,.tup [.int p.2,p.1]))
 |(k,.tup xs)=>a5 (xs.zipIdx.map λp=>(kE k,.tup [.int p.2,p.1]))
 |_=>b6
abbrev pE(d:List Str×List U):List (Kd×U):=(d.1.zip d.2).map λp=>(Kd.loc,U.tup [.str p.1,p.2])
abbrev Fx:Kd×U->Option (List (Kd×U))
 |(k,.lst xs)=>a5 (xs.reverse.map λu=>(kE k,u))
 |_=>b6
abbrev Mc(ik:Ik)(rs:List (Kd×U)):Option (List (Kd×U)):=match ik with
 |.seq=>iL JD rs
 |.Lb=>iL yN rs
 |.Pp=>iL Fw rs
 |.rev=>iL Fx rs
 |_=>b6
abbrev B4(ps:List (Str×Int)):List (Str×Int):=(kA (ps.map (·.1))).map λi=>ps.getD i (mN,0)
abbrev wU(p:Str×Int):U:=.tup [.str p.1,.int p.2]
abbrev yO:U->Option (Kd×U)
 |.JU ks us=>(intsOf us).bind λns=>if ks.length<64/\ks.Nodup/\ks.length=ns.length then a5 (.own,.lst ((B4 (ks.zip ns)).map wU)) else b6
 |_=>b6
abbrev qQ(ln:Bool)(a b:List Str):Option (Kd×U):=if a.length<64/\b.length<64 then a5 (if ln=bD then(.loc,.int ((a.filter λx=>cK (x∉b)).length:Nat)) else(.own,.lst ((aB (a.filter λx=>cK (x∉b))).map .str))) else b6
abbrev sU:U->Option Bool
 |.bl b=>a5 b
 |.lst xs=>a5 !xs.isEmpty
 |.tup xs=>a5 !xs.isEmpty
 |.str x=>if x.length<=cL then a5 ((x.length:Int) != 0) else b6
 |_=>b6
abbrev lift:Kd×U->M U
 |(.own,u)=>pure u
 |(.loc,u)=>pure u
 |(.any,u)=>if Kl u=bD then pure u else M.fail
 |(.bor j,_)=>λst=>match st[j]? with
  |some (a5 (.own,u))=>a5 (.ok u,st.set j (a5 (.loc,u)))
  |_=>b6
 |(.io,_)=>M.fail
 |(.JS,_)=>M.fail
abbrev c7:List (Kd×U)->M (List U)
 |[]=>pure []
 |r::rs=>do let u <-lift r;let us <-c7 rs;pure (u::us)
abbrev eN(i:Nat):Kd×U->M Unit
 |(.bor j,_)=>λst=>match st[j]? with
  |some (a5 (.own,u))=>a5 (.ok (),(st.set j (a5 (.loc,u))).set i (a5 (.loc,u)))
  |_=>b6
 |(.io,_)=>M.fail
 |(.JS,_)=>M.fail
 |(k,u)=>λst=>a5 (.ok (),st.set i (a5 (k,u)))
def bc:List (Kd×U)->aw->Prop
 |[],_=>True
 |(.bor j,u)::rs,st=>(∃k:Kd,k.root=bD/\st[j]?=a5 (a5 (k,u)))/\bc rs st
 |_::rs,st=>bc rs st
open Classical in
abbrev aE(rs:List (Kd×U)):M Unit:=λst=>if bc rs st then a5 (.ok (),st) else b6
@[reducible]def Tab:=Str->List U->Option (Ex (Kd×U))
abbrev lG(Γ:Tab)(f:Str)(us:List U):M (Kd×U):=λst=>match Γ f us with
 |some (.ok (.any,_))=>b6
 |none=>b6
 |some r=>a5 (r,st)
abbrev il(rs:List (Kd×U))(p:Nat):Option Nat:=match rs[p]? with
 |some (.bor j,.lst us)=>if cV us=bD then a5 j else b6
 |_=>b6
abbrev qR(a:List (Option Nat)):Kd×U->Bool
 |(.bor j,_)=>cK (a5 j∉a)
 |_=>bD
abbrev qS(rs:List (Kd×U))(is:List Nat):Bool:=is.all (λp=>(il rs p).isSome)&&cK ((is.map (il rs)).Nodup)&&(gs rs.length).all λq=>cK (q∈is)||qR (is.map (il rs)) (rs.getD q (.loc,.J0))
abbrev gU(rs:List (Kd×U)):List Nat->List U->aw->Option aw
 |[],[],st=>a5 st
 |p::is,w::ws,st=>match il rs p with
  |some j=>match w,st[j]? with
   |.lst us,a5 (a5 (k,_))=>gU rs is ws (st.set j (a5 (k,.lst us)))
   |_,_=>b6
  |none=>b6
 |_,_,_=>b6
abbrev QM:Kd×U->Option (Kd×U×List U)
 |(.own,.tup (u::ws))=>a5 (.own,u,ws)
 |(.loc,.tup (u::ws))=>a5 (.loc,u,ws)
 |_=>b6
abbrev eD(st:aw):Kd×U->Kd×U
 |(.bor j,u)=>(.bor j,match st[j]? with|some (a5 (k,u'))=>if k.root=bD then u' else u|_=>u)
 |r=>r
abbrev B5(rs:List (Kd×U)):M (List (Kd×U)):=λst=>a5 (.ok (rs.map (eD st)),st)
abbrev qT(Γ:Tab)(f:Str)(rs:List (Kd×U))(is:List Nat):M (Kd×U):=λst=>match Γ f (rs.map (·.2)) with
 |some (.ok r)=>match QM r with
  |some (k,u,ws)=>if qS rs is=bD then(match gU rs is ws st with|some st'=>a5 (.ok (k,u),st')|none=>b6) else b6
  |none=>b6
 |_=>b6
abbrev yP(i:Nat):M (Kd×U):=λst=>match st[i]? with
 |some (a5 (k,.lst us))=>if k.root=bD then(match us[us.length - 1]? with|some u=>a5 (.ok (.loc,u),st.set i (a5 (k,.lst us.dropLast)))|none=>b6) else b6
 |_=>b6
abbrev wV(i:Nat):U->M (Kd×U)
 |.int j=>λst=>match st[i]? with
  |some (a5 (k,.lst us))=>if k.root=bD/\0<=j/\j<1000000 then(match us[j.toNat]? with|some u=>a5 (.ok (.loc,u),st.set i (a5 (k,.lst (us.eraseIdx j.toNat))))|none=>b6) else b6
  |_=>b6
 |_=>M.fail
abbrev dC(i:Nat):M (Kd×U):=λst=>match st[i]? with
 |some (a5 (.JS,_))=>b6
 |some (a5 (k,u))=>a5 (.ok (if k.root=bD then .bor i else k,u),st)
 |_=>b6
abbrev iN(i:Nat):M (List Str×List U):=λst=>match st[i]? with
 |some (a5 (.JS,.JU ks us))=>a5 (.ok (ks,us),st)
 |_=>b6
abbrev kD(x:Kd×U):M Str:=match x.2 with
 |.str y=>pure y
 |_=>M.fail
abbrev U6(neg:Bool)(y:Str)(ks:List Str):Bool:=if neg=bD then !cK (y∈ks) else cK (y∈ks)
abbrev yQ(i:Nat):M (Kd×U):=λst=>match st[i]? with
 |some (a5 (.JS,u))=>a5 (.ok (.bor i,u),st.set i (a5 (.own,u)))
 |_=>dC i st
abbrev qU(i:Nat):M (List Str×List U):=λst=>match st[i]? with
 |some (a5 (.JS,.JU ks us))=>a5 (.ok (ks,us),st.set i b6)
 |_=>b6
abbrev DS(i:Nat):M Unit:=λst=>a5 (.ok (),st.set i (a5 (.JS,.JU [] [])))
abbrev lH(i:Nat)(y:Str):Kd×U->M Unit
 |(.own,.lst us)=>λst=>match st[i]? with
  |some (a5 (.JS,.JU ks vs))=>if y∉ks/\ks.length<cL then a5 (.ok (),st.set i (a5 (.JS,.JU (ks++[y]) (vs++[.lst us])))) else b6
  |_=>b6
 |_=>M.fail
abbrev jB:List Str->List U->Str->U->List U
 |k::ks,v::vs,y,u=>if k=y then u::vs else v::jB ks vs y u
 |_,vs,_,_=>vs
abbrev lI(i:Nat)(y:Str)(u:U):M Unit:=λst=>match st[i]? with
 |some (a5 (.JS,.JU ks vs))=>match dN ks vs y with
  |some (.lst xs)=>if xs.length<cL then a5 (.ok (),st.set i (a5 (.JS,.JU ks (jB ks vs y (.lst (xs++[u])))))) else b6
  |_=>b6
 |_=>b6
abbrev U7:U->M Unit
 |.JU _ _=>pure ()
 |_=>M.fail
abbrev B6(x:Kd×U)(y:Str)(u:U):Option (Kd×U):=match x with
 |(k,.JU ks us)=>a5 (match dN ks us y with|some v=>(kE k,v)|none=>(.loc,u))
 |_=>b6
abbrev qV(i:Nat):M (List U):=λst=>match st[i]? with
 |some (a5 (k,.lst us))=>if k.root=bD then a5 (.ok us,st) else b6
 |_=>b6
abbrev wW(x:Kd×U):M Int:=match x.2 with
 |.int j=>pure j
 |_=>M.fail
abbrev qW(us:List U)(j:Int):Option Int:=if 0<=j then(match us[j.toNat]? with|some (.int o)=>a5 o|_=>b6) else b6
abbrev wX(sub:Bool)(o w:Int):Int:=if sub=bD then o - w else o+w
abbrev JE:U->Option U
 |.lst us=>a5 (.lst us.reverse)
 |_=>b6
abbrev sets:List Nat->List (Kd×U)->M Unit
 |[],[]=>pure ()
 |i::is,r::rs=>do eN i r;sets is rs
 |_,_=>M.fail
abbrev dG(t:Bool)(is:List Nat)(r:Kd×U):M Unit:=match t,is,r with
 |false,[i],r=>eN i r
 |true,is,(k,.tup xs)=>sets is (xs.map λu=>(kE k,u))
 |_,_,_=>M.fail
abbrev inScope{α:Type}(k:Nat)(m:M α):M α:=λst=>match m (i1 k b6++st) with
 |none=>b6
 |some (r,st')=>a5 (r,st'.drop k)
abbrev bV(k:Nat)(t:Bool)(cond:M Bool)(elt:M (Kd×U))(src:List (Kd×U)):List (Kd×U)->List U->M (List U)
 |[],acc=>do aE src;pure acc
 |x::xs,acc=>do
  aE src
  let r <-inScope k (dG t (gs k) x >>= λ_=>cond >>= λb=>if b=bD then(elt >>= λr=>lift r >>= λu=>pure (a5 u)) else pure b6)
  match r with
  |some u=>if acc.length<cL then bV k t cond elt src xs (acc++[u]) else M.fail
  |none=>bV k t cond elt src xs acc
abbrev pF:U->Mb->Option Bool
 |.str _,T=>a5 (cK (T=.str))
 |.int _,T=>a5 (cK (T=.int))
 |.bl _,.bool=>a5 bD
 |.bl _,.int=>a5 bD
 |.lst _,T=>a5 (cK (T=.list))
 |.tup _,T=>a5 (cK (T=.tuple))
 |_,_=>b6
abbrev qX:U->Str->Option Str
 |.str y,out=>if y.length<=cL/\(out++y).length<=cL then a5 (out++y) else b6
 |.int i,out=>if i.natAbs.log2<1920/\(out++(Si i:Str)).length<=cL then a5 (out++(Si i:Str)) else b6
 |_,_=>b6
abbrev B7:Kd×U->Option (Kd×U)
 |(_,.int i)=>a5 (.loc,.int (-i))
 |_=>b6
abbrev Fy(x:Kd×U):M (Option Int):=match x.2 with
 |.int i=>pure (a5 i)
 |_=>M.fail
abbrev Of:U->M Unit
 |.lst _=>pure ()
 |_=>M.fail
section
variable(Γ:Tab)
abbrev yR(i:Nat):M (Kd×U):=λst=>match st[i]? with
 |some (a5 (.loc,.str y))=>a5 (.ok (.own,.JU [y] [.bl bD]),st)
 |_=>b6
abbrev sV(a:Bool)(i:Nat)(b:Bool):M (Kd×U):=λst=>match st[i]? with
 |some (a5 (k,.lst us))=>if k.root=bD then(match gT us with
  |some bs=>if a=bD then(if b∈bs then a5 (.ok (.loc,.int (bs.idxOf b:Nat)),st) else b6) else a5 (.ok (.loc,.int (bs.count b:Nat)),st)
  |none=>b6) else b6
 |_=>b6
abbrev eX(a:List (Str×Bool)):U->Option Bool
 |.exc c=>a.lookup c
 |_=>b6
mutual
noncomputable def ev:E->M (Kd×U)
 |.var i=>dC i
 |.cst u=>pure (.loc,u)
 |.SF _ u=>pure (.loc,u)
 |.bin g a b=>do
  let x <-ev a
  let y <-ev b
  aE [x,y]
  M.J8 (M1 g x y)
 |.cmp g a b=>do
  let x <-ev a
  let y <-ev b
  aE [x,y]
  let c <-M.J8 (bK g x.2 y.2)
  pure (.loc,.bl c)
 |.Mw _ _ _ _ _=>M.fail
 |.and es=>iO es
 |.or _=>M.fail
 |.not a=>do
  let x <-ev a
  match x.2 with
  |.bl c=>pure (.loc,.bl !c)
  |_=>M.fail
 |.ite c a b=>do
  let p <-J' c
  if p=bD then ev a else ev b
 |.tup es=>do
  let rs <-bj es
  aE rs
  let us <-c7 rs
  if us.length<=cL then pure (.loc,.tup us) else M.fail
 |.lst es=>do
  let rs <-bj es
  aE rs
  let us <-c7 rs
  if us.length<=cL then pure (.own,.lst us) else M.fail
 |.LM r=>pure (.own,.JU [] [])
 |.idx a b=>do
  let x <-ev a
  let y <-ev b
  aE [x,y]
  M.J8 (jA x y.2)
 |.Ob a lo j=>do
  let x <-ev a
  let l <-Pt lo
  let h <-Pt j
  aE [x]
  M.J8 (qP x l h)
 |.bi f es=>do
  let rs <-bj es
  aE rs
  M.J8 (L5 f rs)
 |.NX f es=>do
  let rs <-bj es
  aE rs
  M.J8 (sT f rs)
 |.OJ m a es=>do
  let x <-ev a
  let rs <-bj es
  aE (x::rs)
  M.J8 (m_ m x.2 rs)
 |.call f es=>do
  let rs <-bj es
  aE rs
  lG Γ f (rs.map (·.2))
 |.comp k t ik src cond e=>do
  let rs <-bj src
  aE rs
  let xs <-M.J8 (Mc ik rs)
  let us <-bV k t (ba cond) (ev e) rs xs []
  pure (.own,.lst us)
 |.neg a=>do
  let x <-ev a
  M.J8 (B7 x)
 |.bad=>M.fail
 |.inD _ _ _=>M.fail
 |.Qr i=>yQ i
 |.My i k d=>do
  let x <-dC i
  U7 x.2
  let y <-ev k
  let y <-kD y
  let z <-ev d
  let u <-lift z
  let x <-dC i
  M.J8 (B6 x y u)
 |.Qs i=>do
  let x <-dC i
  M.J8 (yO x.2)
 |.JW f es is=>do
  let rs <-(bj es >>= B5)
  aE rs
  qT Γ f rs is
 |.Lp a _ n=>do
  let x <-ev a
  let b <-M.J8 (eX n x.2)
  pure (.loc,.bl b)
 |.Oc o i b=>sV o i b
 |.Qt i=>yR i
 |.pop i=>yP i
 |.Mz i e=>do
  let x <-dC i
  Of x.2
  let y <-ev e
  wV i y.2
 |.OK ln a b=>do
  let x <-ev a
  let q <-M.J8 (iM x.2)
  let y <-ev b
  let v <-M.J8 (iM y.2)
  M.J8 (qQ ln q v)
 |.fst es=>do
  let s <-Og es mN
  pure (.loc,.str s)
 |.Mx a T=>do
  let x <-ev a
  let b <-M.J8 (pF x.2 T)
  pure (.loc,.bl b)
noncomputable def Og:List E->Str->M Str
 |[],out=>pure out
 |e::es,out=>do
  let x <-ev e
  let y <-M.J8 (qX x.2 out)
  Og es y
noncomputable def bj:List E->M (List (Kd×U))
 |[]=>pure []
 |e::es=>do let r <-ev e;let rs <-bj es;pure (r::rs)
noncomputable def Pt:List E->M (Option Int)
 |[]=>pure b6
 |[e]=>do let x <-ev e;Fy x
 |_=>M.fail
noncomputable def iO:List E->M (Kd×U)
 |[]=>M.fail
 |[e]=>ev e
 |e::es=>do
  let x <-ev e
  match x.2 with
  |.bl bD=>iO es
  |.bl cc=>pure (.loc,.bl cc)
  |_=>M.fail
noncomputable def J':E->M Bool
 |.and es=>ba es
 |.or es=>fX es
 |.not a=>do let b <-J' a;pure !b
 |.cmp e a b=>do
  let x <-ev a
  let y <-ev b
  aE [x,y]
  M.J8 (bK e x.2 y.2)
 |.var i=>do let x <-dC i;M.J8 (sU x.2)
 |.bi f es=>do
  let rs <-bj es
  aE rs
  let r <-M.J8 (L5 f rs)
  M.J8 (sU r.2)
 |.call f es=>do
  let rs <-bj es
  aE rs
  let r <-lG Γ f (rs.map (·.2))
  M.J8 (sU r.2)
 |.Mw o1 o2 a b c=>do
  let x <-ev a
  let y <-ev b
  aE [x,y]
  let p <-M.J8 (bK o1 x.2 y.2)
  if p=bD then do
   let z <-ev c
   aE [y,z]
   M.J8 (bK o2 y.2 z.2)
  else pure cc
 |.inD neg a i=>do
  let x <-ev a
  let y <-kD x
  let d <-iN i
  pure (U6 neg y d.1)
 |.Mx a T=>do
  let x <-ev a
  M.J8 (pF x.2 T)
 |.Lp a _ g=>do
  let x <-ev a
  M.J8 (eX g x.2)
 |_=>M.fail
noncomputable def ba:List E->M Bool
 |[]=>pure bD
 |[e]=>J' e
 |e::es=>do let b <-J' e;if b=bD then ba es else pure cc
noncomputable def fX:List E->M Bool
 |[]=>pure cc
 |[e]=>J' e
 |e::es=>do let b <-J' e;if b=bD then pure bD else fX es
end
inductive Fl where|nx|rt (k:Kd) (u:U)|bk|ct
abbrev retS:Kd×U->M Fl
 |(.own,u)=>pure (.rt .own u)
 |(.loc,u)=>pure (.rt .loc u)
 |(.any,u)=>if Kl u=bD then pure (.rt .loc u) else pure (.rt .any u)
 |(.bor j,_)=>λst=>match st[j]? with
  |some (a5 (.own,u))=>a5 (.ok (.rt .own u),st.set j b6)
  |_=>b6
 |(.io,_)=>M.fail
 |(.JS,_)=>M.fail
abbrev forM(t:Bool)(is:List Nat)(body:M Fl)(src:List (Kd×U)):List (Kd×U)->M Fl
 |[]=>do aE src;pure .nx
 |x::xs=>do
  aE src
  dG t is x
  let f <-body
  match f with
  |.nx=>forM t is body src xs
  |.ct=>forM t is body src xs
  |.bk=>pure .nx
  |.rt k u=>pure (.rt k u)
abbrev gJ(c:M Bool)(body:M Fl):Nat->M Fl
 |0=>M.fail
 |n+1=>do
  let b <-c
  if b=bD then do
   let f <-body
   match f with
   |.nx=>gJ c body n
   |.ct=>gJ c body n
   |.bk=>pure .nx
   |.rt k u=>pure (.rt k u)
  else pure .nx
abbrev dE(Γ:Tab)(f:Str)(us:List U):M (Sum (Kd×U) Str):=λst=>match Γ f us with
 |some (.ok (.own,u))=>a5 (.ok (.inl (.own,u)),st)
 |some (.ok (.loc,u))=>a5 (.ok (.inl (.loc,u)),st)
 |some (.exc c)=>a5 (.ok (.inr c),st)
 |_=>b6
abbrev B8:Sum (Kd×U) Str->M Fl
 |.inl _=>pure .nx
 |.inr c=>pure (.rt .io (.str c))
abbrev kF(a:List Str)(i j k:Nat):Sum (Kd×U) Str->M Fl
 |.inl r=>do eN i r;pure .nx
 |.inr c=>λst=>match st[j]? with
  |some b6=>if k≠j/\c∈a then(eN k (.loc,.exc c) >>= λ_=>pure .nx) st else b6
  |_=>b6
abbrev modS(i:Nat)(f:U->Option U):M Unit:=λst=>match st[i]? with
 |some (a5 (k,u))=>if k.root=bD then match f u with
   |some u'=>a5 (.ok (),st.set i (a5 (k,u')))
   |none=>b6
  else b6
 |_=>b6
abbrev yS(u:U):U->Option U
 |.lst xs=>if xs.length<cL then a5 (.lst (xs++[u])) else b6
 |_=>b6
abbrev lJ:Kd×U->U->Option U
 |(k,.lst a),.lst xs=>if xs.length+a.length<=cL/\fu k a=bD then a5 (.lst (xs++a)) else b6
 |(k,.tup a),.lst xs=>if xs.length+a.length<=cL/\fu k a=bD then a5 (.lst (xs++a)) else b6
 |_,_=>b6
abbrev eE(x u:U):U->Option U
 |.JU ks vs=>match x with
  |.str y=>if ks.length<cL then a5 (.JU (dput ks vs y u).1 (dput ks vs y u).2) else b6
  |_=>b6
 |.lst xs=>match x with
  |.int i=>(M9 xs.length i).map λj=>.lst (xs.set j u)
  |_=>b6
 |_=>b6
abbrev uU:List U->U->Option U
 |[u,x]=>eE x u
 |_=>λ_=>b6
abbrev fuel:Nat:=1000000000000
mutual
noncomputable def Qu:S->Nat->Bool
 |.set i _,j=>cK (j≠i)
 |.Oe is _,j=>cK (j∉is)
 |.ite _ a b,j=>LW a j&&LW b j
 |.J9 _ is _ _ body,j=>cK (j∉is)&&LW body j
 |.OL _ body,j=>LW body j
 |.put _ _ _,_=>bD
 |.app _ _,_=>bD
 |.ext _ _,_=>bD
 |.bad,_=>bD
 |.newD i,j=>cK (j≠i)
 |.putD _ _ _,_=>bD
 |.LN _ _ _,_=>bD
 |.aug _ _ _ _,_=>bD
 |.SG _,_=>bD
 |.exp _,_=>bD
 |.ret _,_=>bD
 |.MA _ _,_=>bD
 |.M0,_=>bD
 |.brk,_=>bD
 |.cnt,_=>bD
 |.SH,_=>bD
 |.Na _,_=>bD
 |.NY _ _,_=>bD
 |.Nz _ _,_=>bD
 |.NZ i _ _ _ _ _ _ _ j k,n=>cK (n≠i)&&cK (n≠k)&&cK (n≠j)
noncomputable def LW:List S->Nat->Bool
 |[],_=>bD
 |s::ss,j=>Qu s j&&LW ss j
end
abbrev uV(rs:List (Kd×U))(is:List Nat)(body:List S):Bool:=rs.all λr=>match r.1 with
 |.bor j=>cK (j∉is)&&LW body j
 |_=>bD
mutual
noncomputable def exec:S->M Fl
 |.set i e=>do let r <-ev Γ e;eN i r;pure .nx
 |.Oe is e=>do let r <-ev Γ e;dG bD is r;pure .nx
 |.put i k v=>do
  let r <-ev Γ v
  let _ <-dC i
  let x <-ev Γ k
  let us <-c7 [r,x]
  modS i (uU us)
  pure .nx
 |.app i e=>do
  let x <-dC i
  Of x.2
  let r <-ev Γ e
  let u <-lift r
  modS i (yS u)
  pure .nx
 |.ext i e=>do
  let x <-dC i
  Of x.2
  let r <-ev Γ e
  modS i (lJ r)
  pure .nx
 |.bad=>M.fail
 |.newD i=>do DS i;pure .nx
 |.putD i k v=>do
  let r <-ev Γ v
  let d <-iN i
  let x <-ev Γ k
  let y <-kD x
  lH i y r
  pure .nx
 |.LN i k v=>do
  let _ <-iN i
  let x <-ev Γ k
  let y <-kD x
  let d <-iN i
  if y∈d.1 then do
   let r <-ev Γ v
   let u <-lift r
   lI i y u
   pure .nx
  else M.fail
 |.aug sub i k v=>do
  let _ <-qV i
  let y <-ev Γ k
  let j <-wW y
  let us <-qV i
  let o <-M.J8 (qW us j)
  let z <-ev Γ v
  let w <-wW z
  modS i (eE (.int j) (.int (wX sub o w)))
  pure .nx
 |.SG i=>do
  modS i JE
  pure .nx
 |.exp e=>do let _ <-ev Γ e;pure .nx
 |.ret e=>do let r <-ev Γ e;retS r
 |.MA i e=>do
  let d <-qU i
  let us <-bV 2 bD (pure bD) (ev Γ e) [] (pE d) []
  retS (.own,.lst us)
 |.M0=>pure (.rt .loc .J0)
 |.ite c a b=>do let p <-J' Γ c;if p=bD then execs a else execs b
 |.J9 t is ik src body=>do
  let rs <-bj Γ src
  aE rs
  let xs <-M.J8 (Mc ik rs)
  if uV rs is body=bD then forM t is (execs body) rs xs else M.fail
 |.OL c body=>gJ (J' Γ c) (execs body) fuel
 |.brk=>pure .bk
 |.cnt=>pure .ct
 |.SH=>pure .nx
 |.Na _=>M.fail
 |.NY c e=>do let _ <-ev Γ e;pure (.rt .io (.str c))
 |.Nz f es=>do
  let r <-(bj Γ es >>= λrs=>aE rs >>= λ_=>dE Γ f (rs.map (·.2)))
  B8 r
 |.NZ i c f es g h _ l j k=>do
  let r <-(match c with
   |[c]=>J' Γ c >>= λp=>if p=bD then(bj Γ es >>= λrs=>aE rs >>= λ_=>dE Γ f (rs.map (·.2))) else(bj Γ h >>= λrs=>aE rs >>= λ_=>dE Γ g (rs.map (·.2)))
   |_=>bj Γ es >>= λrs=>aE rs >>= λ_=>dE Γ f (rs.map (·.2)))
  kF l i j k r
noncomputable def execs:List S->M Fl
 |[]=>pure .nx
 |s::ss=>do
  let f <-exec s
  match f with
  |.nx=>execs ss
  |f=>pure f
end
end
structure Fn where
 name:Str
 np:Nat
 ns:Nat
 body:List S
abbrev start(us:List U)(n:Nat):aw:=us.map (λu=>a5 (if Kl u=bD then Kd.loc else Kd.any,u))++i1 (n - us.length) b6
abbrev cu(Γ:Tab)(fn:Fn)(us:List U):Option (Ex (Kd×U)):=if us.length=fn.np then match execs Γ fn.body (start us fn.ns) with
  |some (.ok (.rt .own u),_)=>a5 (.ok (.own,u))
  |some (.ok (.rt .loc u),_)=>a5 (.ok (.loc,u))
  |some (.ok (.rt .any u),_)=>a5 (.ok (.any,u))
  |some (.ok .nx,_)=>a5 (.ok (.loc,.J0))
  |some (.ok (.rt .io (.str c)),_)=>a5 (.exc c)
  |_=>b6
 else b6
abbrev c8(is:List Nat)(us:List U)(n:Nat):aw:=(us.zipIdx.map λp=>a5 (if p.2∈is then Kd.io else if Kl p.1=bD then Kd.loc else Kd.any,p.1))++i1 (n - us.length) b6
abbrev Pu:List Nat->aw->Option (List U)
 |[],_=>a5 []
 |i::is,st=>match st[i]? with
  |some (a5 (.io,u))=>(Pu is st).map (u::·)
  |_=>b6
abbrev SJ:Fl->Option (Kd×U)
 |.rt .own u=>a5 (.own,u)
 |.rt .loc u=>a5 (.loc,u)
 |.nx=>a5 (.loc,.J0)
 |_=>b6
abbrev gK(Γ:Tab)(fn:Fn)(is:List Nat)(body:List S)(us:List U):Option (Ex (Kd×U)):=if us.length=fn.np then match execs Γ body (c8 is us fn.ns) with
  |some (.ok f,st)=>(SJ f).bind λr=>(Pu is st).map λws=>.ok (r.1,.tup (r.2::ws))
  |_=>b6
 else b6
abbrev Fn.io(fn:Fn):Option (List Nat×List S):=match fn.body with
 |.Na is::body=>a5 (is,body)
 |_=>b6
abbrev jC(Γ:Tab)(fn:Fn)(us:List U):Option (Ex (Kd×U)):=match fn.io with
 |some (is,body)=>gK Γ fn is body us
 |none=>cu Γ fn us
abbrev J5(P:List Fn):Nat->Tab
 |0=>λ_ _=>b6
 |d+1=>λf us=>match P.find? λfn=>cK (fn.name=f) with
  |some fn=>jC (J5 P d) fn us
  |none=>b6
end TM
namespace TM
open PySem L2
section
variable{X:Cx}{pins:List (d8×Obj)}{σ:St}{H:Hp}{s:d6}{C:Ct}{S:d8->Prop}
def uW(I:Inv X pins σ H s)(h:Ko X.K H a vs):∃b:List dV,Vals vs b/\s.heap.IsList a b.toArray/\vs.length<=cL:=by
 have⟨b,r,p,z⟩:=I.list h;show⟨b,r,p.isList,z⟩
inductive Kz(s:d6):Nat->U->dV->Prop where
 |J0 {n:Nat}:Kz s n .J0 .none
 |bl {n:Nat} {b:Bool}:Kz s n (.bl b) (.bool b)
 |int {n:Nat} {i:Int} {t:Tok}:Kz s n (.int i) (.int i t)
 |str {n:Nat} {y:Str} {t:Tok}:Kz s n (.str y) (.str y t)
 |tup {n:Nat} {us:List U} {B':List dV} {a:d8}:us.length=B'.length->(∀j (hj:j<B'.length),Kz s n (us.getD j .J0) B'[j])->cP us us=bD->s.heap.IsTuple a B'.toArray->Kz s (n+1) (.tup us) (.ref a)
 |lst {n:Nat} {us:List U} {B':List dV} {a:d8}:us.length=B'.length->(∀j (hj:j<B'.length),Kz s n (us.getD j .J0) B'[j])->cP us us=bD->s.heap.IsList a B'.toArray->Kz s (n+1) (.lst us) (.ref a)
def Kz.self(h:Kz s n u x):cH u u=bD:=by
 cases h<;>first|assumption|simp[cH]
theorem Kz.B9(f:∀u v x,Lc n u=bD->Rep C S H u v->RelV v x->Kz s n u x):∀{us:List U}{vs:List V}{a:List dV},dW n us=bD->au C S H us vs->Vals vs a->us.length=a.length/\(∀j (b:j<a.length),Kz s n (us.getD j .J0) a[j])/\cP us us=bD
 |[],_,_,_,h,r=>by cases h;cases r;show⟨rfl,λj b=>(nomatch b),rfl⟩
 |u::us,_,_,e,h,r=>by
  have⟨v,vs,rfl,c,g⟩:=h;simp only[dW,cb]at e;cases r with
  |cons d i =>
   have⟨l,k,y⟩:=Kz.B9 f e.2 g i;show⟨by simp[l],λj b=>?_,by rw[cP,(f _ _ _ e.1 c d).self,y];rfl⟩;cases j with
   |zero=>show f _ _ _ e.1 c d
   |succ j=>show k j (by simpa using b)
def Kz.of(I:Inv X pins σ H s)(d:C.K=X.K):∀(n:Nat) (u:U) (v:V) (x:dV),Lc n u=bD->Rep C S H u v->RelV v x->Kz s n u x:=by
 intro n;induction n with
 |zero=>intro u v x e h r;cases u<;>first|(simp[Lc]at e;done)|(simp only[Rep]at h;subst h;first|(cases r;constructor)|(have⟨t,rfl⟩:=r;constructor))
 |succ n f =>
  intro u v x e h r;cases u with
  |tup us =>
   have⟨a,vs,rfl,b,c⟩:=h;cases r;obtain⟨g,rv,p,_⟩:=I.tuple (d▸b);have⟨l,k,y⟩:=Kz.B9 f (by simpa[Lc] using e) c rv;show .tup l k y p
  |lst us =>
   have⟨a,vs,rfl,b,c⟩:=h;cases r;obtain⟨g,rv,p,_⟩:=uW I (d▸b.sq);have⟨l,k,y⟩:=Kz.B9 f (by simpa[Lc] using e) c rv;show .lst l k y p
  |_=>first|(simp[Lc]at e;done)|(simp only[Rep]at h;subst h;first|(cases r;constructor)|(have⟨t,rfl⟩:=r;constructor))
def Kz.inj:∀{n:Nat}{u w:U}{x:dV},Kz s n u x->Kz s n w x->u=w:=by
 intro n;induction n with
 |zero=>intro u w x h h';cases h<;>cases h'<;>rfl
 |succ n r =>
  have go:∀{us ws:List U} {c its':List dV} {a:d8} {o o':Obj} {m i:Nat},us.length=c.length->(∀j (t:j<c.length),Kz s n (us.getD j .J0) c[j])->ws.length=its'.length->(∀j (t:j<its'.length),Kz s n (ws.getD j .J0) its'[j])->s.heap.get? a=a5 o->o.data=.seq c.toArray m->s.heap.get? a=a5 o'->o'.data=.seq its'.toArray i->us=ws:=by
   intro us ws c its' a o o' m i l k f k' e d g d';rw[e]at g;cases g;rw[d]at d';injection d' with v _
   have:c=its':=by simpa using Ū Y6 v
   subst this;show M7 ⋯ λj z A=>?_;have:=r (k j ⋯) (k' j ⋯);simpa[z,A] using this
  intro u w x h h';cases h with
  |tup l k y p =>
   cases h' with
   |tup f k' q b=>obtain⟨o,e,_,m,d⟩:=p;obtain⟨o',g,_,i,d'⟩:=b;rw[go l k f k' e d g d']
   |lst f k' q b=>show absurd rfl (Y0 b p)
  |lst l k y p =>
   cases h' with
   |lst f k' q b=>obtain⟨o,e,_,m,d⟩:=p;obtain⟨o',g,_,i,d'⟩:=b;rw[go l k f k' e d g d']
   |tup f k' q b=>show absurd rfl (Y0 p b)
  |_=>cases h';rfl
theorem jD:∀{us ws:List U},us.length≠ws.length->cP us ws=cc
 |[],[],h=>absurd rfl h
 |[],_::_,_=>rfl
 |_::_,[],_=>rfl
 |u::us,w::ws,h=>by
  rw[cP,jD (us:=us) (ws:=ws) (λe=>h (by simp[e])),U2]
theorem fY:∀{us ws:List U},us.length=ws.length->cP us ws=(gs us.length).all λj=>cH (us.getD j .J0) (ws.getD j .J0)
 |[],[],_=>rfl
 |[],_::_,h=>by simp at h
 |_::_,[],h=>by simp at h
 |u::us,w::ws,h=>by
  have h':us.length=ws.length:=by simpa using h
  rw[cP,fY h',js,List.range_succ_eq_map,ġ,Ww];rfl
def Ht{a its':List dV}(c:us.length=a.length)(d:ws.length=its'.length):cP us ws=((gs (min a.toArray.size its'.toArray.size)).all (λj=>cH (us.getD j .J0) (ws.getD j .J0))&&a.toArray.size==its'.toArray.size):=by
 simp only[gj];by_cases b:us.length=ws.length
 .rw[fY b,show min a.length its'.length=us.length by lia,show(a.length==its'.length)=bD by simp;lia,ģ]
 .rw[jD b,show(a.length==its'.length)=cc by simp;lia,U2]
def uX(b:Kz s n u y)(h:Ï A s y x k)(hs:y=x->k=bD):T5 A s y x k:=λprog w E Q a=>by
 unfold eqBool;show t6 ?_;show wpAny_ite_split (λc=>?_) (λ_=>?_)
 .rw[hs (eq_of_beq c)]at a;show b8 (PL (df a))
 .cases b<;>show b8 (h prog w E _ (Ku a))
def U8(r:∀m,m+1=n->∀{u w:U}{x f:dV}{A:N5},Kz s m u x->Kz s m w f->A.units+m<Mg->T5 A s x f (cH u w))(h:Kz s n u x)(h':Kz s n w f)(v:A.units+n<Mg):Ï A s x f (cH u w)/\Ě A s x f (!cH u w):=by
 have a:A.units<Mg:=by lia
 have go:∀{m:Nat} {us ws:List U} {g its':List dV},m+1=n->(∀j (t:j<g.length),Kz s m (us.getD j .J0) g[j])->(∀j (t:j<its'.length),Kz s m (ws.getD j .J0) its'[j])->∀j (i:j<g.toArray.size) (o:j<its'.toArray.size),T5 A.in1 s g.toArray[j] its'.toArray[j] (cH (us.getD j .J0) (ws.getD j .J0)):=λ{m us ws g its'} e k k' j i o=>r m e (k j i) (k' j o) (by change A.units+1+m < _;lia);cases h with
 |J0 =>
  cases h' with
  |J0=>show⟨.none_none,.none_none⟩
  |bl=>show⟨.none_bool _,.none_bool _⟩
  |int=>show⟨.none_int _ _,.none_int _ _⟩
  |str=>show⟨.none_str _ _,.none_str _ _⟩
  |tup c k' d b=>show⟨.none_tuple b a,.none_tuple b a⟩
  |lst c k' d b=>show⟨.none_list b a,.none_list b a⟩
 |bl =>
  cases h' with
  |J0=>show⟨.bool_none _,.bool_none _⟩
  |bl=>show⟨.bool_bool _ _,.bool_bool _ _⟩
  |int=>show⟨.bool_int _ _ _,.bool_int _ _ _⟩
  |str=>show⟨.bool_str _ _ _,.bool_str _ _ _⟩
  |tup c k' d b=>show⟨.bool_tuple _ b a,.bool_tuple _ b a⟩
  |lst c k' d b=>show⟨.bool_list _ b a,.bool_list _ b a⟩
 |int =>
  cases h' with
  |J0=>show⟨.int_none _ _,.int_none _ _⟩
  |bl=>show⟨.int_bool _ _ _,.int_bool _ _ _⟩
  |int=>show⟨.int_int _ _ _ _,.int_int _ _ _ _⟩
  |str=>show⟨.int_str _ _ _ _,.int_str _ _ _ _⟩
  |tup c k' d b=>show⟨.int_tuple _ _ b a,.int_tuple _ _ b a⟩
  |lst c k' d b=>show⟨.int_list _ _ b a,.int_list _ _ b a⟩
 |str =>
  cases h' with
  |J0=>show⟨.str_none _ _,.str_none _ _⟩
  |bl=>show⟨.str_bool _ _ _,.str_bool _ _ _⟩
  |int=>show⟨.str_int _ _ _ _,.str_int _ _ _ _⟩
  |str=>show⟨.str_str _ _ _ _,.str_str _ _ _ _⟩
  |tup c k' d b=>show⟨.str_tuple _ _ b a,.str_tuple _ _ b a⟩
  |lst c k' d b=>show⟨.str_list _ _ b a,.str_list _ _ b a⟩
 |tup l k y p =>
  cases h' with
  |J0=>show⟨.tuple_none p a,.tuple_none p a⟩
  |bl=>show⟨.tuple_bool _ p a,.tuple_bool _ p a⟩
  |int=>show⟨.tuple_int _ _ p a,.tuple_int _ _ p a⟩
  |str=>show⟨.tuple_str _ _ p a,.tuple_str _ _ p a⟩
  |tup c k' d b=>rw[show cH (.tup _) (.tup _)=_ from Ht l c];show⟨.tuples p b a (go rfl k k'),.tuples p b a (go rfl k k')⟩
  |lst c k' d b=>show⟨.tuple_list p b a,.tuple_list p b a⟩
 |lst l k y p =>
  cases h' with
  |J0=>show⟨.list_none p a,.list_none p a⟩
  |bl=>show⟨.list_bool _ p a,.list_bool _ p a⟩
  |int=>show⟨.list_int _ _ p a,.list_int _ _ p a⟩
  |str=>show⟨.list_str _ _ p a,.list_str _ _ p a⟩
  |tup c k' d b=>show⟨.list_tuple p b a,.list_tuple p b a⟩
  |lst c k' d b =>
   rename_i us _ _ ws _ _;by_cases q:us.length=ws.length
   .rw[show cH (.lst us) (.lst ws)=_ from fY q,l,<-gj];show⟨.lists p b (by simp;lia) a (go rfl k k'),.lists p b (by simp;lia) a (go rfl k k')⟩
   .rw[show cH (.lst us) (.lst ws)=cc from jD q];show⟨.lists_lengths p b (by simp;lia) a,.lists_lengths p b (by simp;lia) a⟩
def Hu:∀{n:Nat}{u w:U}{x a:dV}{A:N5},Kz s n u x->Kz s n w a->A.units+n<Mg->T5 A s x a (cH u w):=by
 intro n;induction n with
 |zero=>intro u w x a A h h' b;show uX h (U8 (λm e=>by cases e) h h' b).1 λe=>by subst e;rw[h.inj h'];show h'.self
 |succ n c=>intro u w x a A h h' b;show uX h (U8 (λm e=>by cases e;show c) h h' b).1 λe=>by subst e;rw[h.inj h'];show h'.self
def Hv(h:Kz s n u x)(h':Kz s n w a)(b:A.units+n<Mg):Ï A s x a (cH u w)/\Ě A s x a (!cH u w):=U8 (λm e=>by cases e;show Hu) h h' b
end
end TM
namespace TM
open PySem L2 PyProof.Rows
abbrev JX(C:Ct)(m:M (Kd×U)):TE:=λσ H Q=>∃c0:Cf,c0.σ=σ/\c0.H=H/\Ok C c0/\W m c0.st λr st'=>∀c v,c.σ=σ->c.st=st'->Ok C c->Nx c0 c->aT C c0 c r.1 r.2 v->Q v c.H
abbrev Le(C:Ct)(m:M Bool):TT:=λσ H Q=>∃c0:Cf,c0.σ=σ/\c0.H=H/\Ok C c0/\W m c0.st λb st'=>∀c,c.σ=σ->c.st=st'->Ok C c->Nx c0 c->Q b c.H
def cQ(C:Ct)(c0 c:Cf):List (Kd×U)->List V->Prop
 |[],vs=>vs=[]
 |r::rs,vs=>∃v t,vs=v::t/\fW C c0 c r.1 r.2 v/\cQ C c0 c rs t/\(r.1=.own->∀(i:Nat) a b,rs[i]?=a5 a->t[i]?=a5 b->a.1=.own->b≠v)
abbrev Lq(C:Ct)(m:M (List (Kd×U))):TA:=λσ H Q=>∃c0:Cf,c0.σ=σ/\c0.H=H/\Ok C c0/\W m c0.st λrs st'=>∀c vs,c.σ=σ->c.st=st'->Ok C c->Nx c0 c->cQ C c0 c rs vs->Q vs c.H
section
def PE.weak(h:PE X e t)(i:∀σ H Q,t' σ H Q->t σ H Q):PE X e t':=λpins s σ H Q I q=>h pins s σ H Q I (i σ H Q q)
def PT.weak(h:PT X e t)(i:∀σ H Q,t' σ H Q->t σ H Q):PT X e t':=λpins s σ H Q I q=>h pins s σ H Q I (i σ H Q q)
def cA{st:aw}:W (aE rs) st Q↔bc rs st/\Q () st:=by
 constructor
 .rintro⟨a,st',e,h⟩;unfold aE at e;split at e
  .cases e;show⟨by assumption,h⟩
  .cases e
 .rintro⟨b,c⟩;show⟨(),st,by unfold aE;rw[ť b],c⟩
def eY{st:aw}:bc (r::rs) st↔bc [r] st/\bc rs st:=by
 have⟨k,u⟩:=r;cases k<;>simp[bc]
def fW.t(h:fW C c0 c k u v)(s:bc [(k,u)] c.st):aT C c0 c k u v:=by
 cases k with
 |bor j=>show⟨s.1,h⟩
 |_=>show h
structure Qv(C:Ct)(c0 c:Cf)(x y:Kd×U)(vx vy:V):Prop where
 hσ:c.σ=c0.σ
 ok:Ok C c
 nx:Nx c0 c
 rx:aT C c0 c x.1 x.2 vx
 ry:aT C c0 c y.1 y.2 vy
 ne:x.1=.own->y.1=.own->vy≠vx
def lK(h:fW C c0 c1 k u v)(h':fW C c1 c k' u' b):k=.own->k'=.own->b≠v:=by
 rintro rfl rfl e;obtain⟨r,d,_,_,_,f⟩:=h;obtain⟨i,g,a,_⟩:=h';obtain⟨o,ho,_⟩:=f.some;subst d;rw[g]at e;cases e;rw[ho]at a;cases a
def two{k:Kd×U->Kd×U->M β}{Post:β->aw->Prop}{f:dV->dV->Sem α}{Q':dV->dV->α->d6->Prop}(J:PE X a (JX C L))(N:PE X b (JX C q))(I:Inv X pins c0.σ c0.H s)(O:Ok C c0)
  (h:W (L >>= λx=>q >>= λy=>aE [x,y] >>= λ_=>k x y) c0.st Post)
  (Q:∀x y c d g v u s2,Qv C c0 c x y d g->Inv X pins c.σ c.H s2->RelV d v->RelV g u->W (k x y) c.st Post->d3 (eH X.prog X.w) X.A (f v u) (Q' v u) X.xe s2) :
  d3 (eH X.prog X.w) X.A (ve a X.env) (λv T=>d3 (eH X.prog X.w) X.A (ve b X.env) (λu Y=>d3 (eH X.prog X.w) X.A (f v u) (Q' v u) X.xe Y) X.xe T) X.xe s:=by
 rw[ah]at h;show JZ (J pins s c0.σ c0.H (λd r=>∃x c1,c1.H=r/\c1.σ=c0.σ/\Ok C c1/\Nx c0 c1/\aT C c0 c1 x.1 x.2 d/\W (q >>= λy=>aE [x,y] >>= λ_=>k x y) c1.st Post) I ⟨c0,rfl,rfl,O,h.mono λx st1 l c1 d m e2 n o p=>⟨x,c1,rfl,m,n,o,p,by rw[e2];show l⟩⟩) ?_;rintro v s1 ⟨d,r,I1,rv,x,c1,rfl,m,n,o,p,l⟩;rw[ah]at l;show JZ (N pins s1 c0.σ c1.H (λg z=>∃y e,e.H=z/\Qv C c0 e x y d g/\W (k x y) e.st Post) I1 ⟨c1,m,rfl,n,l.mono λy st2 i e g B e4 Ke D G=>?_⟩) ?_
 .rw[ah,cA]at i;subst e4;rw[eY]at i;show⟨y,e,rfl,⟨B,Ke,o.trans D,(p.w.on n D (B.trans m.symm)).t i.1.1,(G.from o),lK p.w G.w⟩,i.2⟩
 .rintro u s2 ⟨g,z,I2,ru,y,e,rfl,j,i⟩;have hs:e.σ=c0.σ:=j.hσ;show Q x y e d g v u s2 j (by rw[hs];show I2) rv ru i
structure Ml(C:Ct)(c0 c:Cf)(x:Kd×U)(vx:V):Prop where
 hσ:c.σ=c0.σ
 ok:Ok C c
 nx:Nx c0 c
 rx:aT C c0 c x.1 x.2 vx
def one{k:Kd×U->M β}{Post:β->aw->Prop}{f:dV->Sem α}{Q':α->d6->Prop}(i:PE X a (JX C j))(I:Inv X pins c0.σ c0.H s)(l:Ok C c0)
  (h:W (j >>= λx=>k x) c0.st Post)
  (m:∀x c b v s2,Ml C c0 c x b->Inv X pins c.σ c.H s2->RelV b v->W (k x) c.st Post->d3 (eH X.prog X.w) X.A (f v) Q' X.xe s2) :
  d3 (eH X.prog X.w) X.A (ve a X.env) (λv n=>d3 (eH X.prog X.w) X.A (f v) Q' X.xe n) X.xe s:=by
 rw[ah]at h;show JZ (i pins s c0.σ c0.H (λb e=>∃x c1,c1.H=e/\Ml C c0 c1 x b/\W (k x) c1.st Post) I ⟨c0,rfl,rfl,l,h.mono λx st1 d c1 b o p q r t=>⟨x,c1,rfl,⟨o,q,r,t⟩,by rw[p];show d⟩⟩) ?_;rintro v s1 ⟨b,e,u,rv,x,c1,rfl,g,d⟩;show m x c1 b v s1 g (by rw[g.hσ];show u) rv d
abbrev cn(C:Ct)(c0:Cf)(Q:VK)(r:Kd×U)(st':aw):Prop:=∀c v,c.σ=c0.σ->c.st=st'->Ok C c->Nx c0 c->aT C c0 c r.1 r.2 v->Q v c.H
section
def cn.flat(h:cn C c0 Q (.loc,u) c.st)(a:c.σ=c0.σ)(b:Ok C c)(n:Nx c0 c)(r:Rep C c.S c.H u v):Q v c.H:=h c v a rfl b n r
def cn.list(h:cn C c0 Q (.own,.lst us) c.st)(a:c.σ=c0.σ)(b:Ok C c)(n:Nx c0 c)(r:au C c.S c.H us vs)(p:d8)(d:c.H p=b6):Q (.ref p) (upd c.H p (.lst vs)):=by
 have⟨e,f,g⟩:=b.newList n d r;show h {c with H:=upd c.H p (.lst vs)} _ a rfl e f g
def cn.tup(h:cn C c0 Q (.loc,.tup us) c.st)(a:c.σ=c0.σ)(b:Ok C c)(n:Nx c0 c)(r:au C c.S c.H us vs)(p:d8)(d:c.H p=b6):Q (.ref p) (upd c.H p (.tup vs)):=by
 have⟨e,f,g⟩:=b.Fp n d r;show h {c with H:=upd c.H p (.tup vs)} _ a rfl e f g
def cn.tupK(h:cn C c0 Q (kE k,.tup us) c.st)(d:c.σ=c0.σ)(a:Ok C c)(n:Nx c0 c)(r:au C (SK C c k) c.H us vs)(p:d8)(e:c.H p=b6):Q (.ref p) (upd c.H p (.tup vs)):=by
 have⟨f,b⟩:=a.lay (o:=.tup vs) e;show h {c with H:=upd c.H p (.tup vs)} _ d rfl f (n.trans b) (aT.item ?_);cases k<;>show⟨p,vs,rfl,KA.of ax,by first|show r.mv (a.Oa b)|show r.mv (a.mv b)⟩
def eZ(h:fu k us=bD)(r:au C (SK C c k) c.H us vs):au C c.S c.H us vs:=by
 cases k with
 |any=>show r.Kl (by simpa[fu,isAny] using h)
 |_=>show r
end
def Fz(k k':Kd):∀a,SK C c k a->SK C c (kT k k') a:=by
 intro a h;cases k<;>cases k'<;>first|show h|show .inr h
def B_(k k':Kd):∀a,SK C c k' a->SK C c (kT k k') a:=by
 intro a h;cases k<;>cases k'<;>first|show h|show .inr h
def Hw(k k':Kd):kE (kT k k')=kT k k':=by cases k<;>cases k'<;>rfl
def Ca:LY X (PM .Add) (λx y H Q=>∃l b xs c,x=.ref l/\y=.ref b/\Ko X.K H l xs/\Ko X.K H b c/\xs.length+c.length<=cL/\∀p,H p=b6->Q (.ref p) (upd H p (.lst (xs++c)))):=by
 intro pins s σ H x y v u Q I m o h;have⟨l,b,xs,c,rfl,rfl,t,w,hz,q⟩:=h;cases m;cases o;have⟨d,r,A,z⟩:=I.list t;have⟨e,f,B,N⟩:=I.list w;have hl:=r.length;have Nl:=f.length;obtain⟨⟨cls,dd,data,C⟩,ho,g,n,i⟩:=A.isList;obtain⟨⟨O,D,data2,G⟩,j,k,J,a⟩:=B.isList;simp only at g i k a;subst g i k a;show XD ⟨_,ho,rfl⟩ ⟨_,j,rfl⟩ noFill_list_add seq_list_add PySem.F.slot_list_add PySem.F.entry_list_add (PySem.F.args_list_add_2 _ _)
   (list_addW l b d.toArray e.toArray n J dd D C G (by rw[gj,gj];lia)) ⟨ho,j,?_⟩
 have L:d.toArray++e.toArray=(d++e).toArray:=by simp
 rw[L];show⟨.ref _,_,I.Jt (t':=s.toks) (r.append f) (by rw[gc];lia),rfl,q _ I.fresh⟩
end
section
variable{X:Cx}{C:Ct}{pins:List (d8×Obj)}{s:d6}{c0 c:Cf}{Q:VK}
def yT:LY X (PM .Add) (λx y H Q=>∃a b e,x=.ref a/\y=.ref b/\KA X.K H a []/\KA X.K H b e/\Q (.ref b) H):=by
 intro pins s σ H x y v u Q I k l h;have⟨a,b,e,rfl,rfl,m,o,q⟩:=h;cases k;cases l;obtain⟨D,p,r,_⟩:=I.tuple m;obtain⟨t,G,p2,_⟩:=I.tuple o;cases p;obtain⟨⟨cls,dd,data,w⟩,ho,f,n,g⟩:=id r;obtain⟨⟨J,z,data2,A⟩,i,j,B,d⟩:=id p2;simp only at f g j d;subst f g j d;show XD ⟨_,ho,rfl⟩ ⟨_,i,rfl⟩ Yf Î PySem.F.slot_tuple_add PySem.F.entry_tuple_add (PySem.F.args_tuple_add_2 _ _)
   (tuple_addW0 a b _ t.toArray n B dd z w A (by rfl)) ⟨ho,i,.ref b,H,I,rfl,q⟩
abbrev SE.op:SE->ă
 |.add=>.Add|.sub=>.Sub|.mul=>.Mult|.Po=>.FloorDiv|.mod=>.Mod|.pow=>.Pow
def e_(h:sR f a b=a5 r):∃i j o,a=.int i/\b=.int j/\f i j=a5 o/\r=(.loc,.int o):=by
 unfold sR at h;split at h
 .rw[et]at h;have⟨o,e,rfl⟩:=h;show⟨_,_,o,rfl,rfl,e,rfl⟩
 .cases h
def FA(T:C.K=X.K)(t:Qv C c0 c x y g l)(I:Inv X pins c.σ c.H s)(z:RelV g v)(B:RelV l u)(h:M1 op x y=a5 r)(q:cn C c0 Q r c.st):
  d3 (eH X.prog X.w) X.A (PM op.op v u) (EP X pins c.σ Q) X.xe s:=by
 obtain⟨m,d,n,D,ty,_⟩:=t;cases op with
 |add =>
  have h:yL x y=a5 r:=h;unfold yL at h;split at h
  .have ex:=D.int d;have e:=ty.int d;cases h;show cG pins s c.σ c.H g l v u Q I z B ⟨_,_,ex,e,q.flat m d n rfl⟩
  .have ex:=D.str d;have e:=ty.str d;split at h
   .cases h;show sj pins s c.σ c.H g l v u Q I z B ⟨_,_,ex,e,by assumption,q.flat m d n rfl⟩
   .cases h
  .have⟨a,vs,ex,N,G⟩:=D.list d;have⟨b,ws,e,O,J⟩:=ty.list d;split at h
   .rename_i L;cases h;show Ca pins s c.σ c.H g l v u Q I z B ⟨a,b,vs,ws,ex,e,T▸N,T▸O,by rw[<-G.len,<-J.len];show L.1,λp Y=>q.list m d n ((eZ L.2.1 G).append (eZ L.2.2 J)) p Y⟩
   .cases h
  .rename_i k xs k' ys _ _;have⟨a,vs,ex,N,G⟩:=D.tuple d;have⟨b,ws,e,O,J⟩:=ty.tuple d;have M3:=N;have Qd:=O;rw[T]at M3 Qd;split at h
   .rename_i L;cases h;have m1:au C (SK C c (kT k k')) c.H xs vs:=G.mv (.up (Fz k k'));have m2:au C (SK C c (kT k k')) c.H ys ws:=J.mv (.up (B_ k k'));have q':cn C c0 Q (kE (kT k k'),.tup (xs++ys)) c.st:=by rw[Hw];show q
    by_cases e1:vs=[]
    .subst e1;show yT pins s c.σ c.H g l v u Q I z B ⟨a,b,ws,ex,e,M3,Qd,?_⟩;show q' c (.ref b) m rfl d n (aT.item ⟨b,ws,rfl,O,?_⟩);have:xs=[]:=by have:=m1.len;simpa using this
     rw[this];show m2
    .show BE pins s c.σ c.H g l v u Q I z B ⟨a,b,vs,ws,ex,e,M3,Qd,e1,by rw[<-G.len,<-J.len];show L,λe2=>?_,λ_ p Y=>q'.tupK m d n (m1.append m2) p Y⟩;subst e2;show q' c (.ref a) m rfl d n (aT.item ⟨a,vs,rfl,N,?_⟩);have:ys=[]:=by have:=m2.len;simpa using this
     rw[this,t4];show m1
   .cases h
  .cases h
 |sub =>
  have⟨i,j,o,ex,e,f,rfl⟩:=e_ h;have ex:=(ex▸D).int d;have e:=(e▸ty).int d;cases f;show sg pins s c.σ c.H g l v u Q I z B ⟨_,_,ex,e,q.flat m d n rfl⟩
 |mul =>
  have⟨i,j,o,ex,e,f,rfl⟩:=e_ h;have ex:=(ex▸D).int d;have e:=(e▸ty).int d;unfold BY at f;split at f
  .cases f;show kZ pins s c.σ c.H g l v u Q I z B ⟨_,_,ex,e,by assumption,q.flat m d n rfl⟩
  .cases f
 |Po =>
  have⟨i,j,o,ex,e,f,rfl⟩:=e_ h;have ex:=(ex▸D).int d;have e:=(e▸ty).int d;unfold BZ at f;split at f
  .cases f;show By pins s c.σ c.H g l v u Q I z B ⟨_,_,ex,e,by assumption,q.flat m d n rfl⟩
  .cases f
 |mod =>
  have⟨i,j,o,ex,e,f,rfl⟩:=e_ h;have ex:=(ex▸D).int d;have e:=(e▸ty).int d;unfold B0 at f;split at f
  .cases f;show eL pins s c.σ c.H g l v u Q I z B ⟨_,_,ex,e,by assumption,q.flat m d n rfl⟩
  .cases f
 |pow =>
  have⟨i,j,o,ex,e,f,rfl⟩:=e_ h;have ex:=(ex▸D).int d;have e:=(e▸ty).int d;unfold B1 at f;split at f
  .cases f;show oP pins s c.σ c.H g l v u Q I z B ⟨_,_,ex,e,by assumption,q.flat m d n rfl⟩
  .cases f
def Cb(d:C.K=X.K)(f:PE X a (JX C g))(i:PE X b (JX C j)):PE X (.BinOp a k.op b pos) (JX C (g >>= λx=>j >>= λy=>aE [x,y] >>= λ_=>M.J8 (M1 k x y))):=by
 rintro pins s σ H Q I ⟨c0,rfl,rfl,l,h⟩;show wpAny_BinOp (two f i I l h λx y c p A v u s2 t m n o w=>?_);have⟨r,e,q⟩:=bz.mp w;show JZ (FA d t m n o e q) λ_ _ z=>by rw[t.hσ]at z;show z
abbrev Rt.op:Rt->Ĵ
 |.eq=>.Eq|.ne=>.NotEq|.lt=>.Lt|.le=>.LtE|.gt=>.Gt|.ge=>.GtE|.isin=>.In|.J4=>.NotIn|.is=>.Is|.U5=>.IsNot
def Hx{neg:Bool}(I:Inv X pins c.σ c.H s)(m:C.K=X.K)(N:X.A.units+60<Mg){S:d8->Prop}(o:Rep C S c.H x n)(r:RelV n v)(t:au C S c.H i vs)
  (ha:Ko C.K c.H a vs\/KA C.K c.H a vs) (u:Lc 50 x=bD) (z:dW 50 i=bD) {Q:dV->d6->Prop} (q:Q (.bool (if neg then !(i.any λy=>cH y x) else i.any λy=>cH y x)) s) :
  d3 (eH X.prog X.w) X.A (O0 (if neg then .NotIn else .In) v (.ref a)) Q X.xe s:=by
 have B:=Kz.of I m 50 x n v u o r;have go:∀d:List dV,Vals vs d->∃e:dV->Bool,(∀y,y∈d.toArray->T5 X.A.in1 s y v (e y))/\d.toArray.any e=i.any λy=>cH y x:=by
  intro d rv;obtain⟨l,k,_⟩:=Kz.B9 (Kz.of I m 50) z t rv
  classical
  have q:∀j (b:j<d.length),cK (∃w,Kz s 50 w d[j]/\cH w x=bD)=cH (i.getD j .J0) x:=λj b=>by
   rw[Lo,decide_eq_true_iff];show⟨λ⟨w,f,g⟩=>by rw[<-f.inj (k j b)];show g,λh=>⟨_,k j b,h⟩⟩
  show⟨λy=>cK (∃w,Kz s 50 w y/\cH w x=bD),λy D=>?_,?_⟩
  .have⟨j,b,e⟩:=R0 (show y∈d by simpa using D);subst e;change T5 _ _ _ _ (decide _);rw[q j b];show Hu (k j b) B (by change X.A.units+1+50 < _;lia)
  .rw[Lo];simp only[List.any_toArray,T1];constructor
   .rintro⟨y,G,h⟩;have⟨j,b,rfl⟩:=R0 G;rw[q j b]at h;show⟨_,LL (l▸b),by simpa[l▸b] using h⟩
   .rintro⟨w,J,L⟩;have⟨j,b,rfl⟩:=R0 J;show⟨_,LL (l▸b),by rw[q j (l▸b)];simpa[b] using L⟩
 rcases ha with ha|ha
 .obtain⟨d,rv,p,_⟩:=uW I (m▸ha);have⟨e,f,g⟩:=go d rv;cases neg with
  |false=>show SeqAt.in_listAt e p f (by rw[g];show q)
  |true=>show SeqAt.notIn_listAt e p f (by rw[g];show q)
 .rw[m]at ha;obtain⟨d,rv,p,_⟩:=I.tuple ha;have⟨e,f,g⟩:=go d rv;cases neg with
  |false=>show SeqAt.in_tupleAt e p f (by rw[g];show q)
  |true=>show SeqAt.notIn_tupleAt e p f (by rw[g];show q)
end
section
theorem cR:∀{us:List U}{ss:List Str},strsOf us=a5 ss->us=ss.map .str
 |[],ss,h=>by cases h;rfl
 |.str x::us,ss,h=>by
  simp only[strsOf,et]at h;have⟨t,a,rfl⟩:=h;rw[cR a];rfl
 |.J0::_,_,h=>by cases h
 |.bl _::_,_,h=>by cases h
 |.int _::_,_,h=>by cases h
 |.tup _::_,_,h=>by cases h
 |.lst _::_,_,h=>by cases h
 |.JU _ _::_,_,h=>by cases h
theorem j4:∀{us:List U}{ns:List Int},intsOf us=a5 ns->us=ns.map .int
 |[],ns,h=>by cases h;rfl
 |u::us,ns,h=>by
  cases u<;>first|(cases h;done)|skip
  rename_i x;have h':(intsOf us).map (x::·)=a5 ns:=h;rw[et]at h';have⟨ms,e,rfl⟩:=h';rw[j4 e];rfl
theorem au.ints{S:d8->Prop}:∀{ns:List Int}{vs:List V},au C S H (ns.map .int) vs->vs=ns.map V.int
 |[],vs,h=>h
 |n::ns,vs,h=>by
  have⟨v,r,rfl,a,b⟩:=h;rw[au.ints b];have:v=.int n:=a;rw[this];rfl
theorem lL:∀{us:List U}{ss:List Bool},gT us=a5 ss->us=ss.map .bl
 |[],ss,h=>by cases h;rfl
 |.bl x::us,ss,h=>by
  simp only[gT,et]at h;have⟨t,a,rfl⟩:=h;rw[lL a];rfl
 |.J0::_,_,h=>by cases h
 |.str _::_,_,h=>by cases h
 |.int _::_,_,h=>by cases h
 |.tup _::_,_,h=>by cases h
 |.lst _::_,_,h=>by cases h
 |.JU _ _::_,_,h=>by cases h
theorem au.WT{S:d8->Prop}:∀{xs:List Bool}{vs:List V},au C S H (xs.map .bl) vs->vs=xs.map V.bl
 |[],vs,h=>h
 |x::xs,vs,h=>by
  have⟨v,r,rfl,a,b⟩:=h;rw[au.WT b];have:v=.bl x:=a;rw[this];rfl
abbrev FC(X:Cx)(pins:List (d8×Obj))(c:Cf)(b:Bool)(v:dV)(s':d6):Prop:=v=.bool b/\Inv X pins c.σ c.H s'
def iP(o:LY X f r)(I:Inv X pins c.σ c.H s)(e:RelV a v)(g:RelV d u)(h:r a d c.H λx H'=>x=.bl b/\H'=c.H):
  d3 (eH X.prog X.w) X.A (f v u) (FC X pins c b) X.xe s :=
 JZ (o pins s c.σ c.H a d v u _ I e g h) λw s' i=>by
  have⟨z,H',j,r,k,l⟩:=i;subst k l;show⟨r,j⟩
def aT.dict(g:Ok C c)(h:aT C c0 c k (.JU ks us) v):∃a kvs,v=.ref a/\c.H a=a5 (.dK kvs)/\kvs.map (·.1)=ks.map mu/\au C (SK C c k) c.H us (kvs.map (·.2)):=by
 cases k with
 |own=>obtain⟨r,e,_,_,_,kvs,b,d,f⟩:=h;show⟨r,kvs,e,b,d,f⟩
 |bor j=>obtain⟨r,e,_,_,_,kvs,b,d,f⟩:=g.rootOf h.1 h.2;show⟨r,kvs,e,b,d,f⟩
 |io=>show h.elim
 |JS=>show h.elim
 |_=>obtain⟨a,e,_,kvs,b,d,f⟩:=h;show⟨a,kvs,e,b,d,f⟩
theorem dO{S:d8->Prop}:∀{ks:List Str}{us:List U}{kvs:List (Key×V)},kvs.map (·.1)=ks.map mu->au C S H us (kvs.map (·.2)) ->
  (∀u,dN ks us x=a5 u->∃v,dJ kvs (mu x)=a5 v/\Rep C S H u v)/\(dJ kvs (mu x)).isSome=cK (x∈ks)
 |[],us,kvs,a,b=>by
  have:kvs=[]:=by simpa using a
  subst this;show⟨λu h=>by cases us<;>simp[dN]at h,by simp[dJ]⟩
 |k::ks,us,[],a,b=>by simp at a
 |k::ks,[],p::kvs,a,b=>by simp[au]at b
 |k::ks,j::us,p::kvs,a,b=>by
  have⟨v,r,e,d,f⟩:=b;rw[d4]at e;cases e;rw[d4,d4,Ro]at a;have⟨g,i⟩:=dO (x:=x) a.2 f;by_cases hk:k=x
  .subst hk;show⟨λu h=>?_,?_⟩
   .simp[dN]at h;subst h;show⟨p.2,eQ a.1,d⟩
   .rw[eQ a.1];simp
  .have c:¬p.1=mu x:=by rw[a.1];intro z;show hk (Wq z)
   show⟨λu h=>?_,?_⟩
   .simp[dN,hk]at h;have⟨v,e,q⟩:=g u h;show⟨v,by rw[eR c];show e,q⟩
   .rw[eR c,i];simp[nC hk]
def Rep.lF{S:d8->Prop}(h:Rep C S H u v):cK (v=.J0)=lF u:=by
 cases u with
 |J0=>have:v=.J0:=h;subst this;rfl
 |bl b=>have:v=.bl b:=h;subst this;rfl
 |int b=>have:v=.int b:=h;subst this;rfl
 |str b=>have:v=.str b:=h;subst this;rfl
 |JU ks us=>obtain⟨a,rfl,_⟩:=h;rfl
 |exc c=>obtain⟨a,rfl,_⟩:=h;rfl
 |_=>obtain⟨a,vs,rfl,_⟩:=h;rfl
def gz{c:Bool}(h:wR f a b=a5 c):∃i j,a=.int i/\b=.int j/\f i j=c:=by
 unfold wR at h;split at h
 .cases h;show⟨_,_,rfl,rfl,rfl⟩
 .cases h
def pG(hP:C.P=X.prog)(hw:C.w=X.w)(o:C.K=X.K)(N:X.A.units+60<Mg)(t:Qv C c0 c x y O vy)(I:Inv X pins c.σ c.H s)(f:RelV O v)(g:RelV vy u)(h:bK Q x.2 y.2=a5 b):
  d3 (eH X.prog X.w) X.A (O0 Q.op v u) (FC X pins c b) X.xe s:=by
 obtain⟨hσ,d,n,l,ty,_⟩:=t;have⟨kx,B⟩:=x;have⟨ky,p⟩:=y
 dsimp only at h l ty
 have D:∀neg:Bool,∀q,yM B p=a5 q->d3 (eH X.prog X.w) X.A (O0 (if neg then .NotIn else .In) v u) (FC X pins c (if neg then !q else q)) X.xe s:=by
  intro neg q h;have J:=l.read d;have T:=ty.read d;unfold yM at h;split at h
  .have⟨a,vs,rfl,m,G⟩:=T;cases g;unfold Pq at h;split at h
   .rename_i e;cases h;show Hx I o N J f G (.inl m.sq) e.1 e.2 ⟨by cases neg<;>rfl,I⟩
   .cases h
  .have⟨a,vs,rfl,m,G⟩:=T;cases g;unfold Pq at h;split at h
   .rename_i e;cases h;show Hx I o N J f G (.inr m) e.1 e.2 ⟨by cases neg<;>rfl,I⟩
   .cases h
  .cases h;have ex:O=_:=J;have⟨a,kvs,rfl,m,G,h3⟩:=ty.dict d;cases g;subst ex;have hs:=λz:Str=>(dO (x:=z) G h3).2;cases neg with
   |false=>show Hk ⋯ I (fj.k (k:=mu _) m) f λs' L=>⟨by rw[hs];rfl,L⟩
   |true=>show uD ⋯ I (fj.k (k:=mu _) m) f λs' L=>⟨by rw[hs];rfl,L⟩
  .cases h
 have Y:∀{r:Bool},(if Lc 50 B=bD/\Lc 50 p=bD then a5 r else b6)=a5 b->(Lc 50 B=bD/\Lc 50 p=bD)/\r=b:=λh=>by
  split at h
  .rename_i e;cases h;show⟨e,rfl⟩
  .cases h
 cases Q with
 |eq =>
  have⟨e,rfl⟩:=Y h;show(Hv (n:=50) (.of I o _ _ _ _ e.1 (l.read d) f) (.of I o _ _ _ _ e.2 (ty.read d) g) ⋯).1 _ _ _ _ ⟨rfl,I⟩
 |ne =>
  have⟨e,rfl⟩:=Y h;show(Hv (n:=50) (.of I o _ _ _ _ e.1 (l.read d) f) (.of I o _ _ _ _ e.2 (ty.read d) g) ⋯).2 _ _ _ _ ⟨rfl,I⟩
 |lt=>have⟨i,j,rfl,rfl,rfl⟩:=gz h;show iP G8 I f g ⟨_,_,l.int d,ty.int d,rfl,rfl⟩
 |le=>have⟨i,j,rfl,rfl,rfl⟩:=gz h;show iP G9 I f g ⟨_,_,l.int d,ty.int d,rfl,rfl⟩
 |gt=>have⟨i,j,rfl,rfl,rfl⟩:=gz h;show iP G_ I f g ⟨_,_,l.int d,ty.int d,rfl,rfl⟩
 |ge=>have⟨i,j,rfl,rfl,rfl⟩:=gz h;show iP Ha I f g ⟨_,_,l.int d,ty.int d,rfl,rfl⟩
 |isin=>show D cc b h
 |J4 =>
  have⟨q,m,rfl⟩:=et.mp (show(yM B p).map (!·)=a5 b from h);show D bD q m
 |is =>
  have h:(if lF p=bD then a5 (lF B) else b6)=a5 b:=h;split at h
  .rename_i hn;cases h;cases p with
   |J0=>show iP ER I f g ⟨ty.J0 d,by rw[(l.read d).lF],rfl⟩
   |_=>cases hn
  .cases h
 |_=>cases h
def Cd(f:C.P=X.prog)(g:C.w=X.w)(i:C.K=X.K)(j:X.A.units+60<Mg)(k:PE X a (JX C l))(m:PE X b (JX C n))(o:Sa d.op b=cc):
  PE X (.Compare a [d.op] [b] pos) (JX C (l >>= λx=>n >>= λy=>aE [x,y] >>= λ_=>M.J8 (bK d x.2 y.2) >>= λc=>pure (.loc,.bl c))):=by
 rintro pins s σ H Q I ⟨c0,rfl,rfl,p,h⟩;show wpAny_Compare1 (two k m I p h λx y c N O v u s2 t B D G w=>?_) o;rw[ah]at w;have⟨r,e,q⟩:=bz.mp w;rw[aq]at q;show JZ (pG f g i j t B D G e) λz s' J=>?_;have⟨e,L⟩:=J;subst e;show⟨.bl r,c.H,by rw[<-t.hσ];show L,rfl,q c (.bl r) t.hσ rfl t.ok t.nx rfl⟩
def Ce(g:C.P=X.prog)(i:C.w=X.w)(j:C.K=X.K)(k:X.A.units+60<Mg)(l:PE X a (JX C m))(n:PE X b (JX C o))(p:Sa d.op b=cc):
  PT X (.Compare a [d.op] [b] pos) (Le C (m >>= λx=>o >>= λy=>aE [x,y] >>= λ_=>M.J8 (bK d x.2 y.2))):=by
 rintro pins s σ H Q I ⟨c0,rfl,rfl,B,h⟩;show ó (two (f:=λv u=>O0 d.op v u) (Q':=λ_ _ c s=>d3 (eH X.prog X.w) X.A (Ő c) (TP X pins c0.σ Q) X.xe s) l n I B h λx y c O T v u s2 t D G J w=>?_) p;have⟨r,e,q⟩:=bz.mp w;show JZ (pG g i j k t D G J e) λz s' L=>?_;have⟨e,N⟩:=L;subst e;show Ku ⟨c.H,by rw[<-t.hσ];show N,q c t.hσ rfl t.ok t.nx⟩
end
section
abbrev DT(C:Ct)(c0:Cf)(Q:Bool->Hp->Prop)(b:Bool)(st':aw):Prop:=∀c,c.σ=c0.σ->c.st=st'->Ok C c->Nx c0 c->Q b c.H
def sW(a:c1.σ=c0.σ)(b:Ok C c1)(n:Nx c0 c1)(h:W m c1.st (cn C c0 Q)):JX C m c0.σ c1.H Q :=
 ⟨c1,a,rfl,b,h.mono λr st c d v e f g i j=>c d v e f g (n.trans i) (j.from n)⟩
def yU(a:c1.σ=c0.σ)(b:Ok C c1)(n:Nx c0 c1)(h:W m c1.st (DT C c0 Q)):Le C m c0.σ c1.H Q :=
 ⟨c1,a,rfl,b,h.mono λr st c d e f g i=>c d e f g (n.trans i)⟩
def aQ(a:Ok C c0)(h:W (b >>= k) c0.st Post)
  (hz:∀x c v,Ml C c0 c x v->W (k x) c.st Post->Z v c.H):JX C b c0.σ c0.H Z:=by
 rw[ah]at h;show⟨c0,rfl,rfl,a,h.mono λx st1 d c1 e f g i j l=>hz x c1 e ⟨f,i,j,l⟩ (by rw[g];show d)⟩
def dX(a:Ok C c0)(h:W (d >>= k) c0.st Post)
  (hz:∀b c,c.σ=c0.σ->Ok C c->Nx c0 c->W (k b) c.st Post->Z b c.H):Le C d c0.σ c0.H Z:=by
 rw[ah]at h;show⟨c0,rfl,rfl,a,h.mono λx st1 e c1 f g i j=>hz x c1 f i j (by rw[g];show e)⟩
abbrev Hy(m:M (Kd×U))(x:Kd×U):M (Kd×U):=match x.2 with
 |.bl bD=>m
 |.bl cc=>pure (.loc,.bl cc)
 |_=>M.fail
abbrev Hz(x:Kd×U):M (Kd×U):=match x.2 with
 |.bl c=>pure (.loc,.bl !c)
 |_=>M.fail
def snd_and(g:PE X a (JX C i))(j:PE X (.BoolOp .And (b::rest) pos) (JX C l)):PE X (.BoolOp .And (a::b::rest) pos) (JX C (i >>= Hy l)):=by
 show PE.weak (EB g j) ?_;rintro σ H Q ⟨c0,rfl,rfl,m,h⟩;show aQ m h λx c v t w=>?_;have⟨k,u⟩:=x;have⟨f,d,n,r⟩:=t;unfold Hy at w;split at w
 .rename_i e
  dsimp only at e r
  subst e;show⟨bD,r.bl d,by rw[ť rfl];show sW f d n w⟩
 .rename_i e
  dsimp only at e r
  subst e;rw[aq]at w;show⟨cc,r.bl d,by rw[Ŧ i7];show w c (.bl cc) f rfl d n rfl⟩
 .show(bw.mp w).elim
def Cg(d:PE X a (JX C f)):PE X (.UnaryOp .Not a pos) (JX C (f >>= Hz)):=by
 show PE.weak (EC d) ?_;rintro σ H Q ⟨c0,rfl,rfl,g,h⟩;show aQ g h λx c v t w=>?_;have⟨k,u⟩:=x;have⟨i,b,n,r⟩:=t;unfold Hz at w;split at w
 .rename_i e
  dsimp only at e r
  subst e;rw[aq]at w;show⟨_,r.bl b,w c (.bl _) i rfl b n rfl⟩
 .show(bw.mp w).elim
def Ci(d:PE X a (JX C f)):PE X (.UnaryOp .USub a pos) (JX C (f >>= λx=>M.J8 (B7 x))):=by
 show PE.weak (G6 EN d) ?_;rintro σ H Q ⟨c0,rfl,rfl,g,h⟩;show aQ g h λx c v t w=>?_;have⟨k,u⟩:=x;have⟨i,b,n,r⟩:=t;have⟨j,e,w⟩:=bz.mp w;unfold B7 at e;split at e
 .rename_i q;cases q;cases e;show⟨_,r.int b,w c (.int _) i rfl b n rfl⟩
 .cases e
def Cj(g:PT X d (Le C i))(j:PE X a (JX C k))(l:PE X b (JX C m)):PE X (.IfExp d a b pos) (JX C (i >>= λp=>if p=bD then k else m)):=by
 show PE.weak (xS g j l) ?_;rintro σ H Q ⟨c0,rfl,rfl,o,h⟩;show dX o h λp c e f n w=>?_;cases p with
 |true=>rw[ť rfl]at w ⊢;show sW e f n w
 |false=>rw[Ŧ i7]at w ⊢;show sW e f n w
def Cm(d:PT X a (Le C e)):PT X (.UnaryOp .Not a pos) (Le C (e >>= λb=>pure !b)):=by
 show PT.weak (Ez d) ?_;rintro σ H Q ⟨c0,rfl,rfl,f,h⟩;show dX f h λp c g i n w=>?_;rw[aq]at w;show w c g rfl i n
def Cn(f:PT X a (Le C g))(i:PW X (.BoolOp .And (b::rest) pos) (Le C j)):PW X (.BoolOp .And (a::b::rest) pos) (Le C (g >>= λp=>if p=bD then j else pure cc)):=by
 have k:=Ey f i;rintro l pins s σ H Q I ⟨c0,rfl,rfl,m,h⟩;show k l pins s c0.σ c0.H Q I (dX m h λp c d e n w=>?_);cases p with
 |true=>rw[ť rfl]at w ⊢;show yU d e n w
 |false=>rw[Ŧ i7]at w ⊢;rw[aq]at w;show w c d rfl e n
def FD(f:PT X a (Le C g))(i:PW X (.BoolOp .Or (b::rest) pos) (Le C j)):PW X (.BoolOp .Or (a::b::rest) pos) (Le C (g >>= λp=>if p=bD then pure bD else j)):=by
 have k:=GU f i;rintro l pins s σ H Q I ⟨c0,rfl,rfl,m,h⟩;show k l pins s c0.σ c0.H Q I (dX m h λp c d e n w=>?_);cases p with
 |true=>rw[ť rfl]at w ⊢;rw[aq]at w;show w c d rfl e n
 |false=>rw[Ŧ i7]at w ⊢;show yU d e n w
def uY{us:List α}{vs:List β}(h:us.length=vs.length):(!us.isEmpty)=!vs.isEmpty:=by
 cases us<;>cases vs<;>simp_all
def iQ(j:PE X a (JX C l))(i:C.K=X.K)(m:∀b,isTrue a X.env b=(do let v <-b;Zc a.pos;NJ [v] (Ő v))):PT X a (Le C (l >>= λx=>M.J8 (sU x.2))):=by
 show PT.weak (xY j m) ?_;rintro σ H Q ⟨c0,rfl,rfl,o,h⟩;show aQ o h λx c v t w=>?_;have⟨k,u⟩:=x;have⟨s,d,n,r⟩:=t;have⟨p,e,q⟩:=bz.mp w
 dsimp only at e r
 show⟨p,?_,q c s rfl d n⟩;unfold sU at e;split at e
 .cases e;rw[r.bl d];rfl
 .cases e;have⟨a,vs,rfl,f,g⟩:=r.list d;show .inl ⟨vs,i▸f,uY g.len⟩
 .cases e;have⟨a,vs,rfl,f,g⟩:=r.tuple d;rw[i]at f;show .inr (.inl ⟨vs,f,uY g.len⟩)
 .split at e
  .cases e;rw[r.str d];show⟨by assumption,rfl⟩
  .cases e
 .cases e
def yV(l:C.P=X.prog)(m:C.w=X.w)(n:C.K=X.K)(o:X.A.units+60<Mg)(N:PE X a (JX C O))(T:PE X b (JX C Y))(hd:PE X d (JX C md))(hm:lastMarks [o1.op,o2.op] [b,d]=cc):
  PT X (.Compare a [o1.op,o2.op] [b,d] pos) (Le C (O >>= λx=>Y >>= λy=>aE [x,y] >>= λ_=>M.J8 (bK o1 x.2 y.2) >>= λp=>if p=bD then(md >>= λz=>aE [y,z] >>= λ_=>M.J8 (bK o2 y.2 z.2)) else pure cc)):=by
 rintro pins s σ H Q I ⟨c0,rfl,rfl,ok,h⟩;show isTrue_chain (JZ (two N T I ok h λx y c vx vy v u s2 t I2 rx r w=>?_) λv s1 h1=>test_link (JZ h1 λu s2 f=>f)) hm;rw[ah]at w;have⟨p,e,q⟩:=bz.mp w;show JZ (pG l m n o t I2 rx r e) λz s' U'=>?_;have⟨e,B⟩:=U';subst e;show Ku ?_;cases p with
 |false =>
  rw[Ŧ i7,aq]at q;show ite_ff ⟨c.H,by rw[<-t.hσ];show B,q c t.hσ rfl t.ok t.nx⟩
 |true =>
  rw[ť rfl,ah]at q;show ite_tt (test_last (JZ (hd pins s' c.σ c.H (λj D=>∃z g,g.H=D/\Qv C c0 g y z vy j/\W (M.J8 (bK o2 y.2 z.2)) g.st (DT C c0 Q)) B ⟨c,rfl,rfl,t.ok,q.mono λz st2 f g j G k Ke J L=>?_⟩) ?_))
  .rw[ah,cA]at f;subst k;rw[eY]at f;show⟨z,g,rfl,⟨G.trans t.hσ,Ke,t.nx.trans J,(t.ry.w.on t.ok J G).t f.1.1,L.from t.nx,lK t.ry.w L.w⟩,f.2⟩
  .rintro zv s3 ⟨j,D,I3,rz,z,g,rfl,i,f⟩;have⟨q',e',w'⟩:=bz.mp f;show JZ (pG (pins:=pins) l m n o i (by rw[i.hσ,<-t.hσ];show I3) r rz e') λz' s4 Va=>?_;have⟨k,I4⟩:=Va;subst k;show Ku ⟨g.H,by rw[<-i.hσ];show I4,w' g i.hσ rfl i.ok i.nx⟩
end
section
def cQ.from(n:Nx c0 c1):cQ C c1 c rs vs->cQ C c0 c rs vs:=by
 intro h;induction rs generalizing vs with
 |nil=>show h
 |cons r rs a=>have⟨v,t,e,b,d,f⟩:=h;show⟨v,t,e,b.from n,a d,f⟩
def cQ.get{i:Nat}(h:cQ C c0 c rs vs)(e:rs[i]?=a5 r)(a:vs[i]?=a5 v):fW C c0 c r.1 r.2 v:=by
 induction rs generalizing vs i with
 |nil=>simp at e
 |cons g rs b =>
  have⟨j,t,rfl,d,f,k⟩:=h;cases i with
  |zero=>simp at e a;subst e a;show d
  |succ i=>show b f (by simpa using e) (by simpa using a)
def Co:PA X [] (Lq C (pure [])):=by
 rintro pos pins s σ H Q I ⟨c0,rfl,rfl,a,h⟩;rw[aq]at h;show fi pos pins s c0.σ c0.H Q I (h c0 [] rfl rfl a (Nx.refl c0) rfl)
def yW(f:PE X e (JX C m))(g:PA X es (Lq C ms))(hs:hZ (e::es) X.env=(cc,ve e X.env)::hZ es X.env):PA X (e::es) (Lq C (m >>= λr=>ms >>= λrs=>pure (r::rs))):=by
 rintro pos pins s σ H Q I ⟨c0,rfl,rfl,j,h⟩;show cX f g hs pos pins s c0.σ c0.H Q I (aQ j h λr c1 v t w=>?_);rw[ah]at w;show⟨c1,t.hσ,rfl,t.ok,w.mono λrs st2 a k vs b l n c d=>?_⟩;rw[aq]at a;show a k (v::vs) b l n (t.nx.trans c) ⟨v,vs,rfl,t.rx.w.on t.ok c (b.trans t.hσ.symm),d.from t.nx,λhk i u x o p q=>?_⟩;show lK t.rx.w (d.get o p) hk q
structure MB(C:Ct)(c0 c:Cf)(rs:List (Kd×U))(vs:List V):Prop where
 hσ:c.σ=c0.σ
 ok:Ok C c
 nx:Nx c0 c
 rep:cQ C c0 c rs vs
 OM:bc rs c.st
def args{k:List (Kd×U)->M β}{Post:β->aw->Prop}(d:PA X es (Lq C ms))(I:Inv X pins c0.σ c0.H s)(e:Ok C c0)(h:W (ms >>= λrs=>aE rs >>= λ_=>k rs) c0.st Post)(pos:Pos):
  d3 (eH X.prog X.w) X.A (Ĩ (Kg pos (hZ es X.env))) (λus s1=>∃rs c vs,MB C c0 c rs vs/\Inv X pins c.σ c.H s1/\Vals vs us/\W (k rs) c.st Post) X.xe s:=by
 rw[ah]at h;show JZ (d pos pins s c0.σ c0.H (λvs b=>∃rs c,c.H=b/\MB C c0 c rs vs/\W (k rs) c.st Post) I ⟨c0,rfl,rfl,e,h.mono λrs st1 a c1 vs f g i j l=>?_⟩) ?_
 .rw[ah,cA]at a;subst g;show⟨rs,c1,rfl,⟨f,i,j,l,a.1⟩,a.2⟩
 .rintro us s1 ⟨vs,b,m,rv,rs,c1,rfl,t,w⟩;show⟨rs,c1,vs,t,by rw[t.hσ];show m,rv,w⟩
def MB.one(t:MB C c0 c [r] vs):∃v,vs=[v]/\aT C c0 c r.1 r.2 v:=by
 obtain⟨v,t',rfl,a,b,_⟩:=t.rep;cases b;show⟨v,rfl,a.t t.OM⟩
def Ok.share(b:Ok C c)(g:C.H₀ r=b6)(h:∃o,c.H r=a5 o)(hl:st'.length=c.st.length)
  (d:∀(i:Nat) k u,st'[i]?=a5 (a5 (k,u))->(∃v,c.σ[i]?=a5 (a5 v)/\fV C (λa=>c.S a\/a=r) c.H k u v)/\(k.root=bD->c.st[i]?=a5 (a5 (k,u)))) (l:MZ C {c with S:=λa=>c.S a\/a=r,st:=st' }) :
  Ok C {c with S:=λa=>c.S a\/a=r,st:=st' }:=by
 show⟨b.same,λa z=>?_,b.par,b.io,by rw[show({c with S:=λa=>c.S a\/a=r,st:=st' }:Cf).st.length=st'.length from rfl,hl];show b.len,λi k u e=>(d i k u e).1,λi j k k' u u' m hk f n p q s=>?_,l⟩
 .rcases z with z|rfl
  .show b.L3 a z
  .show⟨g,h⟩
 .show b.inj i j k k' u u' m hk f ((d i k u n).2 hk) ((d j k' u' p).2 f) q s
def Ok.FE(p:Ok C c0)(b:Ok C c)(n:Nx c0 c)(d:c0.H r=b6)(f:¬c.R r)(s:c6 C c.S c.H r u):
  Ok C {c with S:=λa=>c.S a\/a=r}/\Nx c0 {c with S:=λa=>c.S a\/a=r}:=by
 obtain⟨o,ho,_⟩:=s.some;show⟨b.share (st':=c.st) (p.kC d).1 ⟨o,ho⟩ rfl (λi k u e=>⟨?_,λ_=>e⟩) (b.dd.hs (.up λa=>.inl) λj a z=>⟨λq=>q.elim (b.root (.inr ⟨j,z⟩)).1 λe=>f (.inr ⟨j,e▸z⟩),λo q=>q⟩),⟨⟨n.keep,n.there,n.roots,λa z=>.inl (n.sub a z),λa z=>?_⟩,n.dk⟩⟩
 .have⟨v,g,h⟩:=b.sl i k u e;have t:Mv c.S c.H (λa=>c.S a\/a=r) c.H:=.up λa=>.inl;show⟨v,g,h.mv t (.up λa z=>z.imp id .inl) λhk x l=>⟨?_,λo q=>q⟩⟩;obtain⟨y,m,w,_⟩:=h.rt hk;rw[l]at m;cases m;rintro(z|rfl)
  .show w z
  .show f (.inl ⟨i,k,u,hk,e,by rw[g,l]⟩)
 .rcases z with z|rfl
  .show n.new a z
  .show .inr (.inr d)
def Ok.yX(f:Ok C c)(n:Nx c0 c)(l:c.st[j]?=a5 (a5 (.own,u)))(m:c.σ[j]?=a5 (a5 (.ref r))):
  Ok C {c with S:=λa=>c.S a\/a=r,st:=c.st.set j (a5 (.loc,u))}/\Nx c0 {c with S:=λa=>c.S a\/a=r,st:=c.st.set j (a5 (.loc,u))}/\Rep C (λa=>c.S a\/a=r) c.H u (.ref r):=by
 have⟨Q,b,g,p,T,Y,G,A⟩:=f.sl j _ _ l;rw[m]at b;cases b;cases p;have B:Rep C (λa=>c.S a\/a=r) c.H u (.ref r):=A.rep (λa=>.inl) (.inr rfl);obtain⟨o,ho,_⟩:=A.some;have s:j<c.st.length:=(dt.mp l).1;have t:∀(i:Nat) k u',(c.st.set j (a5 (.loc,u)))[i]?=a5 (a5 (k,u'))->i≠j->c.st[i]?=a5 (a5 (k,u')):=λi k u' e ne=>by rw[hH (nC ne)]at e;show e
 have I:c.R1 r:=⟨j,.own,u,rfl,l,m⟩
 have w:∀(i:Nat) (u':U),(c.st.set j (a5 (.loc,u)))[i]?=a5 (a5 (.JS,u'))->c.st[i]?=a5 (a5 (.JS,u')):=λi u' e=>by
  by_cases d:i=j
  .subst d;rw[d5 s]at e;cases e
  .show t i .JS u' e d
 have b1:∀a,({c with S:=λa=>c.S a\/a=r,st:=c.st.set j (a5 (.loc,u))}:Cf).R1 a->c.R1 a:=λa J=>by
  have⟨i,k,u',hk,e,L⟩:=J;by_cases d:i=j
  .subst d;rw[d5 s]at e;cases e;cases hk
  .show⟨i,k,u',hk,t i k u' e d,L⟩
 have N:MZ C {c with S:=λa=>c.S a\/a=r,st:=c.st.set j (a5 (.loc,u))}:=f.dd.of rfl (λi u' e=>⟨w i u' e,rfl⟩) (λa z=>.inl (b1 a z)) (.up λa=>.inl) λi a z=>⟨λq=>q.elim (f.root (.inr ⟨i,z⟩)).1 λe=>f.dd.d1 i a z (e▸I),λo q=>q⟩
 show⟨f.share (st':=c.st.set j (a5 (.loc,u))) G ⟨o,ho⟩ (by simp) (λi k u' e=>?_) N,⟨⟨n.keep,n.there,λa z=>?_,λa z=>.inl (n.sub a z),λa z=>?_⟩,λa ⟨i,u',g,b,h,x⟩=>n.dk a ⟨i,u',g,w i u' b,h,x⟩⟩,B⟩
 .by_cases d:i=j
  .subst d;rw[d5 s]at e;cases e;show⟨⟨.ref r,m,B⟩,λz=>nomatch z⟩
  .have y:=t i k u' e d;have⟨v,b,h⟩:=f.sl i k u' y;show⟨⟨v,b,h.mv (.up λa=>.inl) (.up λa z=>z.imp id .inl) λhk g p=>⟨?_,λo q=>q⟩⟩,λ_=>y⟩;obtain⟨Ru,D,O,_⟩:=h.rt hk;rw[p]at D;cases D;rintro(z|rfl)
   .show O z
   .show d (f.inj i j k .own u' u g hk rfl y l (by rw[b,p]) m)
 .rcases z with z|⟨i,u',g,b,h,x⟩
  .show n.roots a (.inl (b1 a z))
  .show n.roots a (.inr ⟨i,u',g,w i u' b,h,x⟩)
 .rcases z with z|rfl
  .show n.new a z
  .rcases n.roots a (.inl ⟨j,.own,u,rfl,l,m⟩) with z|z
   .show .inr (.inl z)
   .show .inr (.inr z)
def iR(A:Ok C c0)(b:Ok C c)(n:Nx c0 c)(d:fW C c0 c r.1 r.2 v)(h:W (lift r) c.st Post):
  ∃(S':d8->Prop) (st':aw) (u:U),(∀a,c.S a->S' a)/\Ok C {c with S:=S',st:=st' }/\Nx c0 {c with S:=S',st:=st' }/\Rep C S' c.H u v/\Post u st' /\
   (∀a,S' a->c.S a\/v=.ref a/\(r.1=.own\/c.R a))/\∀a,({c with S:=S',st:=st' }:Cf).R a->c.R a:=by
 have⟨k,u⟩:=r;cases k with
 |own =>
  rw[show lift (.own,u)=pure u from rfl,aq]at h;have⟨r,e,B,N,D,t⟩:=d;have⟨l,m⟩:=Ok.FE A b n B D t;show⟨_,c.st,u,λa=>.inl,l,m,by rw[e];show t.rep (λa=>.inl) (.inr rfl),h,λa z=>?_,λa z=>z⟩;rcases z with z|rfl
  .show .inl z
  .show .inr ⟨e,.inl rfl⟩
 |loc =>
  rw[show lift (.loc,u)=pure u from rfl,aq]at h;show⟨c.S,c.st,u,λa=>id,b,n,d,h,λa z=>.inl z,λa z=>z⟩
 |any =>
  rw[show lift (.any,u)=if Kl u=bD then pure u else M.fail from rfl]at h;split at h
  .rw[aq]at h;show⟨c.S,c.st,u,λa=>id,b,n,Rep.Kl (by assumption) d,h,λa z=>.inl z,λa z=>z⟩
  .show(bw.mp h).elim
 |bor j =>
  have⟨x,st',e,G⟩:=h;rw[show lift (.bor j,u) c.st=match c.st[j]? with|some (a5 (.own,u))=>a5 (Ex.ok u,c.st.set j (a5 (.loc,u)))|_=>b6 from rfl]at e;split at e
  .rename_i w f;cases e;obtain⟨O,y,r,I,_⟩:=b.sl j _ _ f;have o:c.σ[j]?=a5 (a5 v):=d;rw[o]at y;cases y;subst I;have⟨l,m,p⟩:=b.yX n f o;show⟨_,_,_,λa=>.inl,l,m,p,G,λa z=>?_,λa z=>?_⟩
   .rcases z with z|rfl
    .show .inl z
    .show .inr ⟨rfl,.inr (.inl ⟨j,.own,_,rfl,f,o⟩)⟩
   .rcases z with⟨i,k,u',hk,e,q⟩|⟨i,u',J,e,q,L⟩
    rotate_left 1
    .by_cases g:i=j
     .subst g;have s:i<c.st.length:=(dt.mp f).1;rw[d5 s]at e;cases e
     .rw[hH (nC g)]at e;show .inr ⟨i,u',J,e,q,L⟩
    by_cases g:i=j
    .subst g;have s:i<c.st.length:=(dt.mp f).1;rw[d5 s]at e;cases e;cases hk
    .rw[hH (nC g)]at e;show .inl ⟨i,k,u',hk,e,q⟩
  .cases e
 |_=>show d.elim
theorem iS:∀{rs:List (Kd×U)}{vs:List V}{c:Cf}{Post:List U->aw->Prop},Ok C c0->Ok C c->Nx c0 c->cQ C c0 c rs vs->W (c7 rs) c.st Post ->
  ∃(S':d8->Prop) (st':aw) (us:List U),(∀a,c.S a->S' a)/\Ok C {c with S:=S',st:=st' }/\Nx c0 {c with S:=S',st:=st' }/\au C S' c.H us vs/\Post us st'
 |[],vs,c,Post,k,m,n,p,h=>by
  rw[show c7 []=pure [] from rfl,aq]at h;show⟨c.S,c.st,[],λa=>id,m,n,p,h⟩
 |r::rs,vs,c,Post,k,m,n,p,h=>by
  have⟨v,t,rfl,I,J,L⟩:=p;rw[show c7 (r::rs)=lift r >>= λu=>c7 rs >>= λus=>pure (u::us) from rfl,ah]at h;have⟨S1,st1,u,s1,N,O,b,s,Q,T⟩:=iR k m n I h;rw[ah]at s;have Y:cQ C c0 {c with S:=S1,st:=st1} rs t:=by
   clear h s;have x:∀(l:List (Kd×U)) (w:List V),cQ C c0 c l w->(r.1=.own->∀(i:Nat) f g,l[i]?=a5 f->w[i]?=a5 g->f.1=.own->g≠v)->cQ C c0 {c with S:=S1,st:=st1} l w:=by
    intro l;induction l with
    |nil=>intro w q _;show q
    |cons r2 l ih =>
     intro w q y;have⟨A,B,rfl,j,q2,q3⟩:=q;show⟨A,B,rfl,?_,ih B q2 (λhk i f g e1 e2 KD=>y hk (i+1) f g (by simpa using e1) (by simpa using e2) KD),q3⟩;have⟨k2,u2⟩:=r2;cases k2 with
     |own =>
      have⟨a,e,p1,p2,D,p4⟩:=j;show⟨a,e,p1,λz=>?_,λz=>D (T a z),p4.mv (.up s1) λo q=>q⟩;rcases Q a z with z|⟨z,z'|z'⟩
      .show p2 z
      .show y z' 0 _ A rfl rfl rfl (e.trans z.symm)
      .show D z'
     |loc=>show Rep.mv (.up s1) j
     |any=>show Rep.mv (.up λa z=>z.imp id (s1 a)) j
     |_=>show j
   show x rs t J L
  have⟨S2,st2,us,s2,Ke,n2,d,G⟩:=iS (c:={c with S:=S1,st:=st1}) k N O Y s;rw[aq]at G;show⟨S2,st2,u::us,λa z=>s2 a (s1 a z),Ke,n2,⟨v,t,rfl,b.mv (.up s2),d⟩,G⟩
def Cp(i:PA X es (Lq C ms)):PE X (.Tuple es o pos) (JX C (ms >>= λrs=>aE rs >>= λ_=>c7 rs >>= λus=>if us.length<=cL then pure (.loc,.tup us) else M.fail)):=by
 rintro pins s σ H Q I ⟨c0,rfl,rfl,f,h⟩;show wpAny_Tuple_spliced (JZ (args i I f h pos) λus s1 j=>?_);have⟨rs,c,vs,t,g,rv,w⟩:=j;rw[ah]at w;have⟨S',st',ws,p,k,l,a,d⟩:=iS f t.ok t.nx t.rep w;split at d
 .rename_i hz;rw[aq]at d;have hl:vs.length<=cL:=by rw[<-a.len];show hz
  show⟨by rw[<-rv.length];show hl,?_⟩;have m:c.H s1.heap.objs.size=b6:=g.JV.fresh (hV _);have n:Inv X pins c0.σ c.H s1:=by rw[<-t.hσ];show g
  show⟨.ref s1.heap.objs.size,upd c.H s1.heap.objs.size (.tup vs),n.laid (t':=s1.toks) (λb u e=>c2 _ e) (hV _) ⟨hl,us,rv,ì _ _⟩,rfl,?_⟩;show cn.tup (c:={c with S:=S',st:=st' }) d t.hσ k l a _ m
 .show(bw.mp d).elim
def Cq(i:PA X es (Lq C ms)):PE X (.List es pos) (JX C (ms >>= λrs=>aE rs >>= λ_=>c7 rs >>= λus=>if us.length<=cL then pure (.own,.lst us) else M.fail)):=by
 rintro pins s σ H Q I ⟨c0,rfl,rfl,f,h⟩;show wpAny_List_spliced (JZ (args i I f h pos) λus s1 j=>?_);have⟨rs,c,vs,t,g,rv,w⟩:=j;rw[ah]at w;have⟨S',st',ws,o,k,l,a,d⟩:=iS f t.ok t.nx t.rep w;split at d
 .rename_i hz;rw[aq]at d;have hl:vs.length<=cL:=by rw[<-a.len];show hz
  show⟨by rw[<-rv.length];show hl,?_⟩;have m:c.H s1.heap.objs.size=b6:=g.JV.fresh (hV _);have n:Inv X pins c0.σ c.H s1:=by rw[<-t.hσ];show g
  show⟨.ref s1.heap.objs.size,upd c.H s1.heap.objs.size (.lst vs),n.laid (t':=s1.toks) (λb u e=>c2 _ e) (hV _) ⟨hl,us,0,rv,fx _ rfl⟩,rfl,?_⟩;show cn.list (c:={c with S:=S',st:=st' }) d t.hσ k l a _ m
 .show(bw.mp d).elim
end
section
def pH(d:X.N[i]?=a5 x)(f:LJ X.env.scope x)(g:(x==("__debug__":Str))=cc)(l:(x==("__classdict__":Str))=cc):PE X (.Name x pos) (JX C (dC i)):=by
 show PE.weak (bT d f g l) ?_;rintro σ H Q ⟨c0,rfl,rfl,b,r,st',e,h⟩;unfold dC at e;split at e
 .cases e
 .rename_i k u m hs;cases e;have⟨v,c,a⟩:=b.sl i k u hs;show⟨v,c,h c0 v rfl rfl b (Nx.refl c0) ?_⟩;by_cases hk:k.root=bD
  .rw[ť hk];show⟨⟨k,hk,hs⟩,c⟩
  .rw[Ŧ hk];cases k with
   |loc=>show a
   |any=>show a
   |bor j=>show a.elim
   |JS=>show(m rfl).elim
   |_=>show absurd rfl hk
 .cases e
def kP(h:PE X e (tC v))(r:∀S H,Rep C S H u v):PE X e (JX C (pure (.loc,u))):=by
 show PE.weak h ?_;rintro σ H Q ⟨c0,rfl,rfl,a,h⟩;rw[aq]at h;show h c0 v rfl rfl a (Nx.refl c0) (r _ _)
def cn.root(h:cn C c0 Q (.own,u) c.st)(d:c.σ=c0.σ)(b:Ok C c)(n:Nx c0 c)(p:d8)(a:c.H p=b6)(r:c6 C c.S (upd c.H p o) p u):Q (.ref p) (upd c.H p o):=by
 have⟨e,f⟩:=b.lay (o:=o) a;have⟨j,g,k,l,i⟩:=b.kC a;show h {c with H:=upd c.H p o} _ d rfl e (n.trans f) ⟨p,rfl,n.none a,g,i,r⟩
def yY(c:C.P=X.prog)(d:C.w=X.w)(r:Bool):PE X (.Dict [] [] pos) (JX C (pure (.own,.JU [] []))):=by
 show PE.weak qt ?_;rintro σ H Q ⟨c0,rfl,rfl,a,h⟩ p b;rw[aq]at h;show cn.root h rfl a (Nx.refl c0) p b ⟨[],ax,rfl,rfl⟩
def Cr(f:X.N[i]?=a5 x)(g:LJ X.env.scope x)(j:(x==("__debug__":Str))=cc)(k:(x==("__classdict__":Str))=cc):PE X (.Dict [a5 (.Name x n)] [.Constant (.bool bD) q p2] pos) (JX C (yR i)):=by
 show PE.weak (BN (yc (bT f g j k) (qi (b:=bD)) BM) rfl rfl (by simp) (by simp)) ?_;rintro σ H Q ⟨c0,rfl,rfl,d,r,st',e,h⟩ p l;unfold yR at e;split at e
 .rename_i y hs;cases e;have⟨v,m,a⟩:=d.sl i _ _ hs;have a:v=.str y:=a;subst a;show⟨_,m,ax,[(mu y,.bl bD)],rfl,by simp,?_⟩;rw[Bo];show cn.root (u:=.JU [y] [.bl bD]) (c:=c0) h rfl d (Nx.refl c0) p l ⟨[(mu y,.bl bD)],ax,rfl,⟨_,_,rfl,rfl,rfl⟩⟩
 .cases e
def au.Ky{S:d8->Prop}(h:au C S H us vs)(e:Ky us i=a5 u):∃v,L2.Ky vs i=a5 v/\Rep C S H u v:=by
 unfold L2.Ky at e ⊢;rw[h.len]at e;cases q:M9 vs.length i with
 |none=>rw[q]at e;cases e
 |some j =>
  rw[q]at e;show h.get e
def FF(G:C.K=X.K)(J:X.A.units+60<Mg)(hs:oU b)(t:Qv C c0 c x y f g)(I:Inv X pins c.σ c.H s)(l:RelV f v)(m:RelV g u)(h:jA x y.2=a5 r)(q:cn C c0 Q r c.st):
  d3 (eH X.prog X.w) X.A (WN a b v u) (EP X pins c.σ Q) X.xe s:=by
 obtain⟨o,d,n,p,ty,-⟩:=t;have⟨L,N⟩:=y
 dsimp only at h ty
 unfold jA at h;split at h
 .rename_i k xs i;rw[et]at h;have⟨w,e,rfl⟩:=h;have⟨a',vs,ex,j,z⟩:=p.list d;have⟨vw,B,D⟩:=z.Ky e;show BF a b pins s c.σ c.H f g v u Q I l m ⟨a',vs,i,vw,ex,ty.int d,G▸j,B,q c vw o rfl d n (aT.item D)⟩ (hs _ _)
 .rename_i k xs i;rw[et]at h;have⟨w,e,rfl⟩:=h;have⟨a',vs,ex,j,z⟩:=p.tuple d;have⟨vw,B,D⟩:=z.Ky e;rw[G]at j;show bU a b pins s c.σ c.H f g v u Q I l m ⟨a',vs,i,vw,ex,ty.int d,j,B,q c vw o rfl d n (aT.item D)⟩ (hs _ _)
 .split at h
  .rw[et]at h;have⟨w,e,rfl⟩:=h;show oV a b pins s c.σ c.H f g v u Q I l m ⟨_,_,w,p.str d,ty.int d,by assumption,e,q c _ o rfl d n rfl⟩ (hs _ _)
  .cases h
 .cases h
def Cs(d:C.K=X.K)(f:X.A.units+60<Mg)(hs:oU b)(g:PE X a (JX C i))(j:PE X b (JX C k)):PE X (.Subscript a b pos) (JX C (i >>= λx=>k >>= λy=>aE [x,y] >>= λ_=>M.J8 (jA x y.2))):=by
 rintro pins s σ H Q I ⟨c0,rfl,rfl,l,h⟩;show Ğ (two g j I l h λx y c p B v u s2 t m n o w=>?_);have⟨r,e,q⟩:=bz.mp w;show JZ (FF d f hs t m n o e q) λ_ _ z=>by rw[t.hσ]at z;show z
def au.cut{S:d8->Prop}(h:au C S H us vs)(lo a:Option Int):au C S H (TM.cut us lo a) (wg vs lo a):=by
 unfold TM.cut wg;rw[h.len];show(h.drop _).take _
end
section
end
section
variable{X:Cx}{C:Ct}{pins:List (d8×Obj)}{s:d6}{c0 c c1:Cf}
variable{a b d e:kr}{es:List kr}{m ma mb md:M (Kd×U)}{ms:M (List (Kd×U))}{ta tb:M Bool}{pos p p2:Pos}
abbrev tO(C:Ct)(m:M (Option Int)):TO:=λσ H Q=>∃c0:Cf,c0.σ=σ/\c0.H=H/\Ok C c0/\W m c0.st λi st'=>∀c,c.σ=σ->c.st=st'->Ok C c->Nx c0 c->Q i c.H
def wY:PO X b6 (tO C (pure b6)):=by
 rintro pins s σ H Q I ⟨c0,rfl,rfl,f,h⟩;rw[aq]at h;show BC pins s c0.σ c0.H Q I (h c0 rfl rfl f (Nx.refl c0))
def wZ(f:PE X a (JX C ma)):PO X (a5 a) (tO C (ma >>= Fy)):=by
 rintro pins s σ H Q I ⟨c0,rfl,rfl,g,h⟩;show BD f pins s c0.σ c0.H Q I (aQ g h λx c v t w=>?_);have⟨k,u⟩:=x;unfold Fy at w;split at w
 .rename_i i e
  dsimp only at e
  subst e;rw[aq]at w;show⟨i,t.rx.int t.ok,w c t.hσ rfl t.ok t.nx⟩
 .show(bw.mp w).elim
def FG{lo f:Option Int}(l:C.K=X.K)(i:c.σ=c0.σ)(g:Ok C c)(n:Nx c0 c)(j:aT C c0 c x.1 x.2 k)(h:qP x lo f=a5 r)(q:cn C c0 Q r c.st):
  Hh X.K k lo f c.H Q\/Hn k lo f c.H Q:=by
 unfold qP at h;split at h
 .split at h
  .rename_i o;cases h;have⟨a',vs,ex,t,u⟩:=j.list g;show .inl ⟨a',vs,ex,l▸t,λp v=>q.list i g n ((eZ o u).cut lo f) p v⟩
  .cases h
 .split at h
  .cases h;show .inr ⟨_,j.str g,by assumption,q.flat i g n rfl⟩
  .cases h
 .cases h
def Cu{lo g:Option kr}(n:C.K=X.K)(o:PE X a (JX C ma))(hl:PO X lo (tO C ml))(u:PO X g (tO C y)):
  PE X (.Subscript a (.Slice lo g b6 p2) pos) (JX C (ma >>= λx=>ml >>= λl=>y >>= λh=>aE [x] >>= λ_=>M.J8 (qP x l h))):=by
 show PE.weak (x6 (Oy.or BG E7) o hl u) ?_;rintro σ H Q ⟨c0,rfl,rfl,z,h⟩;show aQ z h λx c v t w=>?_;rw[ah]at w;show⟨c,t.hσ,rfl,t.ok,w.mono λl st2 i A B D G I=>?_⟩;subst D;rw[ah]at i;show⟨A,B,rfl,G,i.mono λT Y f J j L N O=>?_⟩;subst L;rw[ah,cA]at f;have⟨r,e,q⟩:=bz.mp f.2;have k:Nx c J:=I.trans O;show FG n j N (t.nx.trans k) ((t.rx.w.on t.ok k (j.trans t.hσ.symm)).t f.1) e q
end
section
variable{X:Cx}{C:Ct}{pins:List (d8×Obj)}{s:d6}{c0 c c1:Cf}
variable{a b d e:kr}{es:List kr}{m ma mb md:M (Kd×U)}{ms:M (List (Kd×U))}{ta tb:M Bool}{pos p p2:Pos}
abbrev Bf.val:Bf->dV
 |.len=>.builtin "len"|.sorted=>.builtin "sorted"|.repr=>.builtin "repr"|.max=>.builtin "max"|.min=>.builtin "min"|.all=>.builtin "all"|.any=>.builtin "any"
 |.list=>.type "list"|.tuple=>.type "tuple"|.str=>.type "str"|.int=>.type "int"
abbrev Bf.name:Bf->Str
 |.len=>"len"|.sorted=>"sorted"|.repr=>"repr"|.max=>"max"|.min=>"min"|.all=>"all"|.any=>"any"
 |.list=>"list"|.tuple=>"tuple"|.str=>"str"|.int=>"int"
def call_of(g:jW X f r)(I:Inv X pins c.σ c.H s)(rv:Vals vs us)(h:r vs c.H Q):d3 (eH X.prog X.w) X.A (OS f us) (EP X pins c.σ Q) X.xe s:=g pins s c.σ c.H vs us Q I rv h
def cm(h:iL f rs=a5 r):∃x,rs=[x]/\f x=a5 r:=by
 unfold iL at h;split at h
 .show⟨_,rfl,h⟩
 .cases h
def DU(G:X.calm=bD)(y:C.K=X.K)(L:X.A.guards=a5 [])(N:X.A.units+60<Mg)(t:MB C c0 c rs vs)(I:Inv X pins c.σ c.H s)(rv:Vals vs us)(h:L5 f rs=a5 r)(q:cn C c0 Q r c.st):
  d3 (eH X.prog X.w) X.A (OS f.val us) (EP X pins c.σ Q) X.xe s:=by
 have u:=t.hσ;have g:=t.ok;have n:=t.nx;cases f with
 |len =>
  have⟨x,rfl,hz⟩:=cm (f:=λx=>(Fq x.2).map λ(n:Nat)=>(Kd.loc,U.int (n:Int))) h;clear h;have h:=hz;clear hz;rw[et]at h;have⟨k,e,rfl⟩:=h;have⟨v,rfl,l⟩:=t.one;have⟨O,D⟩:=x;unfold Fq at e;split at e
  .rename_i xs o;have o:D=.lst xs:=o;subst o;cases e;have⟨a',ws,ex,i,j⟩:=l.list g;rw[j.len]at q;show call_of iC I rv ⟨a',ws,by rw[ex],.inl (y▸i),q.flat u g n rfl⟩
  .rename_i xs o;have o:D=.tup xs:=o;subst o;cases e;have⟨a',ws,ex,i,j⟩:=l.tuple g;rw[y]at i;rw[j.len]at q;show call_of iC I rv ⟨a',ws,by rw[ex],.inr i,q.flat u g n rfl⟩
  .rename_i xs o;have o:D=.str xs:=o;subst o;split at e
   .cases e;show call_of oX I rv ⟨_,by rw[l.str g],by assumption,q.flat u g n rfl⟩
   .cases e
  .cases e
 |sorted =>
  have⟨x,rfl,hz⟩:=cm (f:=Fs) h;clear h;have h:=hz;clear hz;have⟨v,rfl,l⟩:=t.one;unfold Fs at h;split at h
  .rw[ro]at h;have⟨ss,e,h⟩:=h;have B:=cR e;subst B;have⟨a',ws,ex,i,j⟩:=l.list g;rw[au.strs]at j;subst j;split at h
   .cases h;show call_of jZ I rv ⟨a',ss,by rw[ex],.inl (y▸i),by assumption,λp z=>q.list u g n (au.strs.mpr rfl) p z⟩
   .cases h
  .obtain⟨a',kvs,ex,i,j,_⟩:=l.dict g;split at h
   .cases h;show call_of (jz G) I rv ⟨a',kvs,_,by rw[ex],i,j,by assumption,λp z=>q.list u g n (au.strs.mpr rfl) p z⟩
   .cases h
  .rw[ro]at h;have⟨ss,e,h⟩:=h;have B:=cR e;subst B;have⟨a',ws,ex,i,j⟩:=l.tuple g;rw[y]at i;rw[au.strs]at j;subst j;split at h
   .cases h;show call_of jZ I rv ⟨a',ss,by rw[ex],.inr i,by assumption,λp z=>q.list u g n (au.strs.mpr rfl) p z⟩
   .cases h
  .cases h
 |tuple =>
  have⟨x,rfl,hz⟩:=cm (f:=Ft) h;clear h;have h:=hz;clear hz;have⟨v,rfl,l⟩:=t.one;unfold Ft at h;split at h
  .have⟨a',ws,ex,i,j⟩:=l.list g;cases h;show call_of gN I rv ⟨a',ws,by rw[ex],.inl ⟨y▸i,λp z=>q.tupK u g n j p z⟩⟩
  .have⟨a',ws,ex,i,j⟩:=l.tuple g;have J:=i;rw[y]at J;cases h;show call_of gN I rv ⟨a',ws,by rw[ex],.inr ⟨J,q c (.ref a') u rfl g n (aT.item ⟨a',ws,rfl,i,j⟩)⟩⟩
  .cases h
 |str =>
  have⟨x,rfl,hz⟩:=cm (f:=B3) h;clear h;have h:=hz;clear hz;have⟨v,rfl,l⟩:=t.one;unfold B3 at h;split at h
  .split at h
   .cases h;show call_of oQ I rv ⟨_,by rw[l.int g],by assumption,q.flat u g n rfl⟩
   .cases h
  .cases h
 |all =>
  have⟨x,rfl,hz⟩:=cm (f:=Fu) h;clear h;have h:=hz;clear hz;have⟨v,rfl,l⟩:=t.one;unfold Fu at h;split at h
  .rw[et]at h;have⟨bs,e,rfl⟩:=h;have B:=lL e;subst B;have⟨a',ws,ex,i,j⟩:=l.list g;have:=j.WT;subst this;show call_of (yi G) I rv ⟨a',bs,by rw[ex],y▸i,q.flat u g n rfl⟩
  .cases h
 |_=>cases h
def Cv{id:String}(g:X.calm=bD)(i:C.K=X.K)(j:X.A.guards=a5 [])(k:X.A.units+60<Mg)(l:f.val=.builtin id)(n:Gl X x)(o:X.mg x=b6)(u:t5 x=a5 (.builtin id))(v:x≠"__name__")(y:(x==("__debug__":Str))=cc)
  (B:PA X (e::es) (Lq C ms)) (D:hZ (e::es) X.env=(cc,ve e X.env)::hZ es X.env) (G:(Kg pos (hZ es X.env)).any (·.1)=cc) :
  PE X (.Call (.Name x p) (e::es) [] pos) (JX C (ms >>= λrs=>aE rs >>= λ_=>M.J8 (L5 f rs))):=by
 rintro pins s σ H Q I ⟨c0,rfl,rfl,J,h⟩;show tr (cW I n o u ?_ v y);show P4 (JZ (args B I J h pos) λus s1 ⟨rs,c,vs,t,L,rv,w⟩=>?_) D G;have⟨r,e,q⟩:=bz.mp w;have z:=DU g i j k t L rv e q;rw[l,t.hσ]at z;show z
def Cw(g:X.calm=bD)(i:C.K=X.K)(j:X.A.guards=a5 [])(k:X.A.units+60<Mg)(l:f.val=.type T)(n:Gl X x)(o:X.mg x=b6)(u:t5 x=a5 (.type T))(v:x≠"__name__")(y:(x==("__debug__":Str))=cc)
  (B:PA X (e::es) (Lq C ms)) (D:hZ (e::es) X.env=(cc,ve e X.env)::hZ es X.env) (G:(Kg pos (hZ es X.env)).any (·.1)=cc) :
  PE X (.Call (.Name x p) (e::es) [] pos) (JX C (ms >>= λrs=>aE rs >>= λ_=>M.J8 (L5 f rs))):=by
 rintro pins s σ H Q I ⟨c0,rfl,rfl,J,h⟩;show tr (cW I n o u ?_ v y);show K5 (JZ (args B I J h pos) λus s1 ⟨rs,c,vs,t,L,rv,w⟩=>?_) D G;have⟨r,e,q⟩:=bz.mp w;have z:=DU g i j k t L rv e q;rw[l,t.hσ]at z;show z
abbrev Mb.name:Mb->Str
 |.str=>"str"|.list=>"list"|.tuple=>"tuple"|.int=>"int"|.bool=>"bool"
abbrev Mb.nm:Mb->String
 |.str=>"str"|.list=>"list"|.tuple=>"tuple"|.int=>"int"|.bool=>"bool"
def Cy(T:Mb):t5 T.name=a5 (.type T.nm)/\T.name≠"__name__"/\(T.name==("__debug__":Str))=cc:=by
 cases T<;>show⟨by decide +kernel,by decide +kernel,by decide +kernel⟩
def iT(T:Mb):Þ (.type T.nm)=pure (.type "type"):=by cases T<;>kernel_rfl
def kN(T:Mb):OZ (.type "str") (.type T.nm)=pure (cK (T=.str)):=by cases T<;>(rw[Kv];kernel_rfl)
def sub_int(T:Mb):OZ (.type "int") (.type T.nm)=pure (cK (T=.int)):=by cases T<;>(rw[Kv];kernel_rfl)
def ne_str{T:Mb}(h:¬T=.str):(sL "str"==sL T.nm)=cc:=by cases T<;>first|show absurd rfl h|decide
def ne_int{T:Mb}(h:¬T=.int):(sL "int"==sL T.nm)=cc:=by cases T<;>first|show absurd rfl h|decide
def qY(T:Mb):OZ (.type "list") (.type T.nm)=pure (cK (T=.list)):=by cases T<;>(rw[Kv];kernel_rfl)
def uZ(T:Mb):OZ (.type "tuple") (.type T.nm)=pure (cK (T=.tuple)):=by cases T<;>(rw[Kv];kernel_rfl)
def Cz{T:Mb}(h:¬T=.list):(sL "list"==sL T.nm)=cc:=by cases T<;>first|show absurd rfl h|decide
def FH{T:Mb}(h:¬T=.tuple):(sL "tuple"==sL T.nm)=cc:=by cases T<;>first|show absurd rfl h|decide
def FI{b:Bool}(z:C.K=X.K)(t:Ml C c0 c x v)(I:Inv X pins c.σ c.H s)(rv:RelV v val)(h:pF x.2 T=a5 b)(q:∀j,Q (.bool b) {s with toks:=j}):
  d3 (eH X.prog X.w) X.A (OS (.builtin "isinstance") [val,.type T.nm]) Q X.xe s:=by
 have⟨k,u⟩:=x;have⟨O,i,n,r⟩:=t;have D:Q (.bool b) s:=q s.toks
 dsimp only at h r
 have g:∀{B:String},b=bD->s.TypeIs val B->OZ (.type B) (.type T.nm)=pure bD->d3 (eH X.prog X.w) X.A (OS (.builtin "isinstance") [val,.type T.nm]) Q X.xe s:=λe G hs=>by
  subst e;show Ŏ G (iT T) hs D
 unfold pF at h;split at h
 .cases h;have e:v=_:=r.str i;subst e;have⟨j,rfl⟩:=rv;by_cases f:T=.str
  .subst f;show g (by simp) (Zt s _ j) (kN .str)
  .rw[ŧ f]at q;show VF (isinstance_false_str (ne_str f) (iT T) (by rw[kN,ŧ f])) (q _)
 .cases h;have e:v=_:=r.int i;subst e;have⟨j,rfl⟩:=rv;by_cases f:T=.int
  .subst f;show g (by simp) (typeIs_int s _ j) (sub_int .int)
  .rw[ŧ f]at q;show VF (isinstance_false_int (ne_int f) (iT T) (by rw[sub_int,ŧ f])) (q _)
 .cases h;have e:v=_:=r.bl i;subst e;cases rv;show g rfl (PySem.typeIs_bool s _) (by rw[Kv];kernel_rfl)
 .cases h;have e:v=_:=r.bl i;subst e;cases rv;show g rfl (PySem.typeIs_bool s _) (by rw[Kv];kernel_rfl)
 .cases h;have⟨a',ws,rfl,l,J⟩:=r.list i;cases rv;rw[z]at l;obtain⟨L,_,N,_⟩:=I.list l;obtain⟨o,ho,y,_⟩:=N.isList;by_cases f:T=.list
  .subst f;show g (by simp) ⟨o,ho,y⟩ (qY .list)
  .rw[ŧ f]at q;show VF (isinstance_false_list (Cz f) (iT T) (by rw[qY,ŧ f])) ⟨⟨o,ho,y⟩,q _⟩
 .cases h;have⟨a',ws,rfl,l,J⟩:=r.tuple i;cases rv;rw[z]at l;obtain⟨L,_,⟨o,ho,y,_⟩,_⟩:=I.tuple l;by_cases f:T=.tuple
  .subst f;show g (by simp) ⟨o,ho,y⟩ (uZ .tuple)
  .rw[ŧ f]at q;show VF (isinstance_false_tuple (FH f) (iT T) (by rw[uZ,ŧ f])) ⟨⟨o,ho,y⟩,q _⟩
 .cases h
def u9(g:C.K=X.K)(i:Gl X "isinstance")(j:X.mg "isinstance"=b6)(k:Gl X T.name)(l:X.mg T.name=b6)(n:PE X a (JX C ma))(hs:hZ [a,.Name T.name p2] X.env=(cc,ve a X.env)::hZ [.Name T.name p2] X.env):
  PE X (.Call (.Name "isinstance" p) [a,.Name T.name p2] [] pos) (JX C (ma >>= λx=>M.J8 (pF x.2 T) >>= λb=>pure (.loc,.bl b))):=by
 rintro pins s σ H Q I ⟨c0,rfl,rfl,o,h⟩;have⟨q,r,u⟩:=Cy T;show tr (cW I i j (show t5 "isinstance"=a5 (.builtin "isinstance") by decide +kernel) ?_ (by decide +kernel) (by decide +kernel));show P4 (JZ (cX n (cX (uq (v:=.ty T.nm) k l q rfl r u) fi) hs pos pins s c0.σ c0.H (λvs H'=>∃x c v b,Ml C c0 c x v/\c.H=H'/\vs=[v,.ty T.nm]/\pF x.2 T=a5 b/\cn C c0 Q (.loc,.bl b) c.st) I ?_) λus s1 ⟨vs,N,f,y,x,c,v,b,t,e,A,B,w⟩=>?_) hs (by rfl)
 .show aQ o h λx c v t w=>?_;rw[ah]at w;have⟨b,e,w⟩:=bz.mp w;rw[aq]at w;show⟨x,c,v,b,t,rfl,rfl,e,w⟩
 .subst e A;have⟨O,u2,rfl,D,G⟩:=vals2 y;cases G;have J:Inv X pins c.σ c.H s1:=by rw[t.hσ];show f
  have z:=FI (Q:=EP X pins c0.σ Q) g t J D B λL=>⟨.bl b,c.H,f.tok L,rfl,w c (.bl b) t.hσ rfl t.ok t.nx rfl⟩
  show z
abbrev PJ(X:Cx)(out:Str)(es:List kr)(t:TE):Prop :=
 ∀(pins:List (d8×Obj)) (s:d6) (σ:L2.St) (H:Hp) (Q:VK),Inv X pins σ H s->t σ H Q->d3 (eH X.prog X.w) X.A (joinParts out (evalEach es X.env)) (EP X pins σ Q) X.xe s
def FJ(hz:out.length<=cL):PJ X out [] (JX C (pure (.loc,.str out))):=by
 rintro pins s σ H Q I ⟨c0,rfl,rfl,f,h⟩;rw[aq]at h;show joinParts_nil ⟨.str out,c0.H,I.tok _,⟨_,rfl⟩,h c0 (.str out) rfl rfl f (Nx.refl c0) rfl⟩ hz
def FK(f:PJ X (out++y) es (JX C m))(hz:(out++y).length<=cL):PJ X out (.Constant (.str y) o p::es) (JX C m):=by
 intro pins s σ H Q I h;show ŋ (Š (JZ (r9 (X:=X) pins s σ H (λv H'=>v=.str y/\H'=H) I ⟨rfl,rfl⟩) λv s1 g=>?_));have⟨x,i,j,k,l,n⟩:=g;subst l n;have⟨t,rfl⟩:=k;show⟨hz,f pins s1 σ i Q j h⟩
def FL{g:Str->M (Kd×U)}(D:PE X a (JX C ma))(G:∀y,y.length<=cL->PJ X y es (JX C (g y))):PJ X out (.FormattedValue a (-1) b6 p::es) (JX C (ma >>= λx=>M.J8 (qX x.2 out) >>= λy=>g y)):=by
 rintro pins s σ H Q I ⟨c0,rfl,rfl,J,h⟩;show ŋ (Š (FormattedValue_plain (JZ (D pins s c0.σ c0.H (λv H'=>∃x c y,Ml C c0 c x v/\c.H=H'/\qX x.2 out=a5 y/\W (g y) c.st (cn C c0 Q)) I ?_) λv s1 ⟨o,H1,z,B,x,c,y,t,e,f,w⟩=>?_)))
 .show⟨c0,rfl,rfl,J,?_⟩;rw[ah]at h;show W.mono h λx st' w c v i hs L n r=>?_;subst hs;rw[ah]at w;have⟨y,e,w⟩:=bz.mp w;show⟨x,c,y,⟨i,L,n,r⟩,rfl,e,w⟩
 .subst e;have⟨k,u⟩:=x;have⟨i,j,n,r⟩:=t
  dsimp only at f r
  have go:∀s2:d6,Inv X pins c0.σ c.H s2->y.length<=cL->d3 (eH X.prog X.w) X.A (joinParts y (evalEach es X.env)) (EP X pins c0.σ Q) X.xe s2:=λs2 N hz =>
   G y hz pins s2 c0.σ c.H Q N ⟨c,i,rfl,j,W.mono w λr' st' q O T Y h2 h3 h4 h5=>q O T Y h2 h3 (n.trans h4) (h5.from n)⟩
  unfold qX at f;split at f
  .split at f
   .rename_i hz;cases f;have ev:o=_:=r.str j;subst ev;have⟨l,rfl⟩:=B;show formatField_str (λt' l=>⟨hz.2,go _ (z.tok l) hz.2⟩) hz.1
   .cases f
  .split at f
   .rename_i hz;cases f;have ev:o=_:=r.int j;subst ev;have⟨l,rfl⟩:=B;show formatField_int_small hz.1 ⟨hz.2,go _ (z.tok _) hz.2⟩
   .cases f
  .cases f
def CA(h:PJ X mN (f::g::es) (JX C m)):PE X (.JoinedStr (f::g::es) pos) (JX C m):=λpins s σ H Q I q=>JoinedStr_many (h pins s σ H Q I q)
@[reducible]def Oi(P:va)(w:w6)(K:PySem.W.Frag)(H:Hp)(f:d8->Prop):Ct:=⟨P,w,K,H,f,λ_=>False,λ_ _=>False⟩
structure Back(C:Ct)(H H':Hp)(S':d8->Prop)(k:Kd)(u:U)(v:V):Prop where
 same:qp H H'
 new:∀a,S' a->H a=b6/\∃o,H' a=a5 o
 own:k=.own->∃r,v=.ref r/\H r=b6/\¬S' r/\c6 C S' H' r u
 loc:k=.loc->Rep C S' H' u v
 any:k=.any->Rep C (PS C S') H' u v
abbrev spT(P:va)(w:w6)(K:PySem.W.Frag)(F:List U->Option (Ex (Kd×U)))(g:Nat):Sp:=λvs H Q E=>vs.length=g/\∃us r f,F us=a5 r/\(∀a,f a->LV H a)/\au (Oi P w K H f) f H us vs/\match r with
 |.ok (k,u)=>(k=.own\/k=.loc\/k=.any)/\∀v H' S',Back (Oi P w K H f) H H' S' k u v->Q v H'
 |.exc c=>∀C H',PySem.W.nsIn K i9 c=a5 (a5 (.ref C))->qp H H'->E (.ref C) b6 H'
def MB.read(t:MB C c0 c rs vs):au C (LV c.H) c.H (rs.map (·.2)) vs:=by
 have f:∀(l:List (Kd×U)) (w:List V),cQ C c0 c l w->bc l c.st->au C (LV c.H) c.H (l.map (·.2)) w:=by
  intro l;induction l with
  |nil=>intro w h _;show h
  |cons r l g =>
   intro w h hs;obtain⟨v,t',rfl,i,j,_⟩:=h;rw[eY]at hs;show⟨v,t',rfl,(i.t hs.1).read t.ok,g t' j hs.2⟩
 show f rs vs t.rep t.OM
def Back.here(hk:k=.own\/k=.loc)(i:c.σ=c0.σ)(f:Ok C c)(n:Nx c0 c)(q:j.Eqv C)(h:Back j c.H H' S' k u v)(w:cn C c0 Q (k,u) c.st):Q v H':=by
 have⟨l,t⟩:=f.grow (S':=λa=>c.S a\/S' a) h.same (λa z=>z.imp id λz=>h.new a z) λa=>.inl;have x:=n.trans t;show w {c with H:=H',S:=λa=>c.S a\/S' a} v i rfl l x ?_;rcases hk with rfl|rfl
 .have⟨r,e,g,y,A⟩:=h.own rfl;have⟨G,B,I,J,D⟩:=f.kC g;show⟨r,e,n.none g,λz=>z.elim B y,D,(A.cg q).mv (.up λa=>.inr) λo q=>q⟩
 .show((h.loc rfl).cg q).mv (.up λa=>.inr)
def yZ(o:C.P=X.prog)(x:C.w=X.w)(y:C.K=X.K)(L:Γ f=F)(hk:∀us k u,F us=a5 (.ok (k,u))->(k=.own\/k=.loc\/k=.any)/\us.length=B)
  (G:jv X.prog X.w X.K X.mg X.base (Pl X.prog X.w) k fa N ps (spT X.prog X.w X.K F B)) (O:fJ k X.A) (T:Gl X f) (Y:X.mg f=a5 (.ref fa)) (Pk:PySem.W.keepIn X.K (.ref fa)=bD) (j:Binds X.K N ps [])
  (MY:(f==("__debug__":Str))=cc) (ha:PA X (e::es) (Lq C ms)) (he:hZ (e::es) X.env=(cc,ve e X.env)::hZ es X.env) (KC:(Kg pos (hZ es X.env)).any (·.1)=cc) :
  PE X (.Call (.Name f p) (e::es) [] pos) (JX C (ms >>= λrs=>aE rs >>= λ_=>lG Γ f (rs.map (·.2)))):=by
 rintro pins s σ H Q I ⟨c0,rfl,rfl,ok,h⟩;show tr (gu I T Y ?_ MY);show PySem.W.callWith_K (h₀:=X.base) I.ok.mod.P5 Pk (JZ (args ha I ok h pos) λus s1 ⟨rs,c,vs,t,D,rv,w⟩=>⟨D.Nf,?_⟩) he KC;have⟨r,st',g,q⟩:=w;unfold lG at g;rw[L]at g;cases i:F (rs.map (·.2)) with
 |none=>rw[i]at g;cases g
 |some r' =>
  rw[i]at g;split at g
  .cases g
  .rename_i z;cases z
  rename_i Zg e3;cases e3;cases g;have⟨l,u⟩:=r;have⟨k0,k2⟩:=hk _ _ _ i;have k1:l=.own\/l=.loc:=by
   rcases k0 with z|z|z
   .show .inl z
   .show .inr z
   .subst z;show(Zg u rfl).elim
  have n:C.Eqv (Oi X.prog X.w X.K c.H (LV c.H)):=⟨o,x,y⟩
  have MD:(Oi X.prog X.w X.K c.H (LV c.H)).Eqv C:=⟨o.symm,x.symm,y.symm⟩
  have J:=t.read;have LQ:spT X.prog X.w X.K F B vs c.H (λv H'=>Q v H') E0:=⟨by rw[<-J.len];show k2,rs.map (·.2),.ok (l,u),LV c.H,i,λ_ z=>z,J.cg n,k0,λv H' S' j=>j.here k1 t.hσ t.ok t.nx MD q⟩
  have z:=xZ (Q:=Q) G O j .nil Hq D rv (by rw[t4];show LQ);rw[t.hσ]at z;show z
end
section
abbrev Mf.id:Mf->String
 |.split=>"str.split"|.join=>"str.join"|.partition=>"str.partition"|.endswith=>"str.endswith"
abbrev Mf.name:Mf->Str
 |.split=>"split"|.join=>"join"|.partition=>"partition"|.endswith=>"endswith"
def y6(h:m_ f u rs=a5 r):∃x,u=.str x:=by
 unfold m_ at h;split at h
 .show⟨_,rfl⟩
 .cases h
def FN(j:C.K=X.K)(t:MB C c0 c (x::rs) (a::vs))(I:Inv X pins c.σ c.H s)(k:RelV a v)(rv:Vals vs us)(h:m_ f x.2 rs=a5 r)(q:cn C c0 Q r c.st):
  d3 (eH X.prog X.w) X.A (OS (.builtin f.id) (v::us)) (EP X pins c.σ Q) X.xe s:=by
 have l:=t.hσ;have b:=t.ok;have n:=t.nx;have⟨m,o⟩:=x;have hs:=eY.mp t.OM;obtain⟨B,D,p,d,g,-⟩:=t.rep;cases p;have u:aT C c0 c m o a:=d.t hs.1;have one:∀{r:Kd×U},cQ C c0 c [r] vs->bc [r] c.st->∃v,vs=[v]/\aT C c0 c r.1 r.2 v:=λ{r} h s=>by
  obtain⟨v,t',rfl,d,g,_⟩:=h;cases g;show⟨v,rfl,d.t s⟩
 dsimp only at h
 unfold m_ at h;split at h
 .rw[ro]at h;have⟨ss,e,h⟩:=h;have y:=cR e;subst y;have⟨w,rfl,ty⟩:=one g hs.2;have⟨a',ws,ex,z,i⟩:=ty.list b;rw[au.strs]at i;subst i;split at h
  .cases h;show BP pins s c.σ c.H a [w] v us Q I k rv ⟨_,a',ss,u.str b,by rw[ex],j▸z,by assumption,q.flat l b n rfl⟩
  .cases h
 .cases h
def CB(J:C.K=X.K)(slot:Slot "str" name f.id)(L:Þ (.builtin f.id)=pure (.type "method_descriptor"))(ho:PE X o (JX C m))(N:PA X (e::es) (Lq C ms))
  (O:Ur o name X.env (ve o X.env)=ve o X.env)
  (T:((Kg a (hZ (e::es) X.env)).all (λx=>!x.1)&&(Rw a (MN [] X.env)).all (λx=>x.1.isSome)
   && cK ((e::es).length+([]:List O6).length+(if ([]:List O6).isEmpty then 0 else 1)<30))=bD)
  (Y:(d.endLine==a.line)=bD) (hs:hZ (e::es) X.env=(cc,ve e X.env)::hZ es X.env) (K3:(Kg a (hZ es X.env)).any (·.1)=cc) :
  PE X (.Call (.Attribute o name d) (e::es) [] a) (JX C (m >>= λx=>ms >>= λrs=>aE (x::rs) >>= λ_=>M.J8 (m_ f x.2 rs))):=by
 rintro pins s σ H Q I ⟨c0,rfl,rfl,ok,h⟩;show Ý O T Y rfl (JZ (ho pins s c0.σ c0.H (λg n=>∃x c1,c1.H=n/\Ml C c0 c1 x g/\W (ms >>= λrs=>aE (x::rs) >>= λ_=>M.J8 (m_ f x.2 rs)) c1.st (cn C c0 Q)) I (aQ ok h λx c v t w=>⟨x,c,rfl,t,w⟩)) ?_);rintro v s1 ⟨g,n,p,u,x,c1,rfl,t,w⟩;have Pw:∃z,x.2=.str z:=by
  rw[ah]at w;obtain⟨rs,st2,_,w⟩:=w;rw[ah]at w;obtain⟨_,Kr,_,w⟩:=w;obtain⟨r,e,_⟩:=bz.mp w;show y6 e
 have⟨z,hz⟩:=Pw;have y:=t.rx;rw[hz]at y;have ev:=y.str t.ok;have ty:Sh X.K "str" g c1.H:=by rw[ev];rfl
 have⟨h1,h2⟩:=oY p u ty;show⟨"str",f.id,PySem.F.plainAttrs_str,slot,L,h1,h2,?_⟩;rw[ah]at w;have A:=N a pins s1 c0.σ c1.H (λvs B=>∃rs b,b.H=B/\MB C c0 b (x::rs) (g::vs)/\W (M.J8 (m_ f x.2 rs)) b.st (cn C c0 Q)) p ⟨c1,t.hσ,rfl,t.ok,w.mono λrs st2 k b vs D e4 Ke G j=>by
  rw[ah,cA]at k;subst e4;show⟨rs,b,rfl,⟨D,Ke,t.nx.trans G,⟨g,vs,rfl,t.rx.w.on t.ok G (D.trans t.hσ.symm),j.from t.nx,λhk i r' v' e5 e6 KD=>lK t.rx.w (j.get e5 e6) hk KD⟩,k.1⟩,k.2⟩⟩
 rw[hs]at A ⊢;show H8 (by change(cc||(Kg a (hZ es X.env)).any (·.1))=cc;rw[K3]<;>rfl) (Mq ?_);show JZ A ?_;rintro us s2 ⟨vs,B,I2,j,rs,b,rfl,l,w2⟩;have⟨r,e,q⟩:=bz.mp w2;have z:=FN J l (by rw[l.hσ];show I2) u j e q;rw[l.hσ]at z;show z
end
section
variable{X:Cx}{C:Ct}{pins:List (d8×Obj)}{s:d6}{c0 c c1:Cf}
variable{e:kr}{es:List kr}{ms:M (List (Kd×U))}{pos p p2 pos2:Pos}
abbrev B2.out:B2->dV
 |.Ny=>.type "tuple"|.L4=>.type "list"|.sset=>.builtin "sorted"|.mW=>.builtin "len"
abbrev B2.SN:B2->dV
 |.Ny=>.type "reversed"|.L4=>.type "reversed"|.sset=>.type "set"|.mW=>.type "set"
abbrev B2.pI:B2->Str
 |.Ny=>"tuple"|.L4=>"list"|.sset=>"sorted"|.mW=>"len"
abbrev B2.iU:B2->Str
 |.Ny=>"reversed"|.L4=>"reversed"|.sset=>"set"|.mW=>"set"
theorem au.rev{S:d8->Prop}:∀{us:List U}{vs:List V},au C S H us vs->au C S H us.reverse vs.reverse
 |[],vs,h=>by cases h;show rfl
 |u::us,vs,h=>by
  have⟨v,r,rfl,a,b⟩:=h;rw[Tn,Tn];show(au.rev b).append ⟨v,[],rfl,a,rfl⟩
def nU(i:C.K=X.K)(j:Ok C c)(l:aT C c0 c k u v)(h:iM u=a5 ss):∃a b,v=.ref a/\(Ko X.K c.H a (b.map V.str)\/KA X.K c.H a (b.map V.str))/\b.length+1<D8/\ss=aD b:=by
 unfold iM at h;split at h
 .rw[ro]at h;have⟨b,e,h⟩:=h;have g:=cR e;subst g;have⟨a',ws,ex,f,d⟩:=l.list j;rw[au.strs]at d;subst d;split at h
  .cases h;show⟨a',b,ex,.inl (i▸f),by assumption,rfl⟩
  .cases h
 .rw[ro]at h;have⟨b,e,h⟩:=h;have g:=cR e;subst g;have⟨a',ws,ex,f,d⟩:=l.tuple j;rw[au.strs]at d;subst d;rw[i]at f;split at h
  .cases h;show⟨a',b,ex,.inr f,by assumption,rfl⟩
  .cases h
 .cases h
def FO(d:X.calm=bD)(k:C.K=X.K)(t:MB C c0 c rs vs)(I:Inv X pins c.σ c.H s)(rv:Vals vs us)(h:sT f rs=a5 r)(q:cn C c0 Q r c.st):
  d3 (eH X.prog X.w) X.A (OS f.SN us) (λv s1=>d3 (eH X.prog X.w) X.A (OS f.out [v]) (EP X pins c.σ Q) X.xe s1) X.xe s:=by
 have m:=t.hσ;have a:=t.ok;have n:=t.nx;cases f with
 |L4 =>
  have⟨x,rfl,hz⟩:=cm (f:=Fv) h;clear h;have h:=hz;clear hz;have⟨v,rfl,g⟩:=t.one;unfold Fv at h;split at h
  .have⟨a',ws,ex,b,i⟩:=g.list a;rw[k]at b;subst ex;have⟨u,rfl,j⟩:=vals1 rv;cases j;split at h
   .cases h;show yA d I b λl hl=>q.list m a n (eZ (by assumption) i).rev l hl
   .cases h
  .cases h
 |sset =>
  have⟨x,rfl,hz⟩:=cm (f:=λx=>(iM x.2).bind λss=>if ss.length<64 then a5 (Kd.own,U.lst ((aB ss).map .str)) else b6) h;clear h;have h:=hz;clear hz;have⟨ss,e,h⟩:=ro.mp h;have⟨v,rfl,g⟩:=t.one;have⟨a',z,rfl,b,i,rfl⟩:=nU k a g e;have⟨u,rfl,j⟩:=vals1 rv;cases j;split at h
  .cases h;show pw d I b i λS h' B o y=>gS d y o (by assumption) λl hl=>q.list m a n (au.strs.mpr rfl) l hl
  .cases h
 |_=>cases h
def u_:∀f:B2,t5 f.pI=a5 f.out/\t5 f.iU=a5 f.SN/\f.pI≠"__name__"/\f.iU≠"__name__"/\(f.pI==("__debug__":Str))=cc/\(f.iU==("__debug__":Str))=cc:=by
 intro f;cases f<;>show⟨by decide +kernel,by decide +kernel,by decide +kernel,by decide +kernel,by decide +kernel,by decide +kernel⟩
def FP(f:B2):∃T,f.SN=.type T:=by cases f<;>show⟨_,rfl⟩
def FQ(f:B2):(∃T,f.out=.type T)\/∃T,f.out=.builtin T:=by cases f<;>first|show .inl ⟨_,rfl⟩|show .inr ⟨_,rfl⟩
def vb{M:Model}{E:dV->d6->Prop}(h:d3 M A t (λv a=>d3 M A (OS (.type T) [v]) Q E a) E s):d3 M A (callWith pos (.type T) [] [(cc,t)] []) Q E s :=
 PySem.callWith_type rfl (Mq (Nh (mA h (λ_ _ b=>QJ b) λ_ _ e=>e)))
def pJ{M:Model}{E:dV->d6->Prop}(h:d3 M A t (λv a=>d3 M A (OS (.builtin T) [v]) Q E a) E s):d3 M A (callWith pos (.builtin T) [] [(cc,t)] []) Q E s :=
 H8 rfl (Mq (Nh (mA h (λ_ _ b=>QJ b) λ_ _ e=>e)))
def y7(b:X.calm=bD)(d:C.K=X.K)(g:Gl X f.iU)(i:X.mg f.iU=b6)
  (j:PA X (e::es) (Lq C ms)) (k:hZ (e::es) X.env=(cc,ve e X.env)::hZ es X.env) (l:(Kg pos2 (hZ es X.env)).any (·.1)=cc)
  (I:Inv X pins c0.σ c0.H s) (m:Ok C c0) (h:W (ms >>= λrs=>aE rs >>= λ_=>M.J8 (sT f rs)) c0.st (cn C c0 Q)) :
  d3 (eH X.prog X.w) X.A (ve (.Call (.Name f.iU p2) (e::es) [] pos2) X.env) (λv s1=>d3 (eH X.prog X.w) X.A (OS f.out [v]) (EP X pins c0.σ Q) X.xe s1) X.xe s:=by
 have⟨b1,n,b3,b4,B,o⟩:=u_ f;show tr (cW I g i n ?_ b4 o);have a:d3 (eH X.prog X.w) X.A (Ĩ (Kg pos2 (hZ (e::es) X.env))) (λus s1=>d3 (eH X.prog X.w) X.A (OS f.SN us) (λv s1=>d3 (eH X.prog X.w) X.A (OS f.out [v]) (EP X pins c0.σ Q) X.xe s1) X.xe s1) X.xe s :=
  JZ (args j I m h pos2) λus s1 u=>by
   have⟨rs,c,vs,t,x,rv,w⟩:=u;have⟨r,e,q⟩:=bz.mp w;have z:=FO b d t x rv e q;rw[t.hσ]at z;show z
 have⟨T,y⟩:=FP f;rw[y]at a ⊢;show K5 a k l
def CC(d:X.calm=bD)(g:C.K=X.K)(i:Gl X f.pI)(j:X.mg f.pI=b6)(k:Gl X f.iU)(l:X.mg f.iU=b6)
  (m:PA X (e::es) (Lq C ms)) (n:hZ (e::es) X.env=(cc,ve e X.env)::hZ es X.env) (o:(Kg pos2 (hZ es X.env)).any (·.1)=cc) :
  PE X (.Call (.Name f.pI p) [.Call (.Name f.iU p2) (e::es) [] pos2] [] pos) (JX C (ms >>= λrs=>aE rs >>= λ_=>M.J8 (sT f rs))):=by
 rintro pins s σ H Q I ⟨c0,rfl,rfl,q,h⟩;have⟨b1,v,b3,b4,r,w⟩:=u_ f;show tr (cW I i j b1 ?_ b3 r);have a:=y7 (p2:=p2) (pos2:=pos2) d g k l m n o I q h;have t:Kg pos (hZ [.Call (.Name f.iU p2) (e::es) [] pos2] X.env)=[(cc,ve (.Call (.Name f.iU p2) (e::es) [] pos2) X.env)]:=rfl;have u:Rw pos (MN [] X.env)=[]:=rfl;rw[t,u];rcases FQ f with⟨T,b⟩|⟨T,b⟩
 .rw[b]at a ⊢;show vb a
 .rw[b]at a ⊢;show pJ a
end
section
variable{X:Cx}{C:Ct}{pins:List (d8×Obj)}{s:d6}{c0 c c1:Cf}
variable{a b d e o tg:kr}{es:List kr}{m ma mb md:M (Kd×U)}{ms:M (List (Kd×U))}{ta tb:M Bool}{pos p p2 apos G':Pos}
abbrev lM(rs:List (Kd×U))(c f:Cf):Prop:=∀j u,(Kd.bor j,u)∈rs->f.σ[j]?=c.σ[j]?
abbrev Walk(C:Ct)(c:Cf)(rs:List (Kd×U))(xs:List (Kd×U))(J:It):Prop:=∀f,Ok C f->Ns c f->lM rs c f->bc rs f.st ->
 (∀(i:Nat) r,xs[i]?=a5 r->(r.1=.loc\/r.1=.any)/\J.go i f.H/\∀x H',J.Sd i f.H x H'->∃g:Cf,g.H=H'/\g.σ=f.σ/\g.st=f.st/\Ok C g/\Nx f g/\aT C f g r.1 r.2 x) /\
 ∀i:Nat,xs.length<=i->J.stop i f.H
abbrev NB(C:Ct)(ik:Ik)(ms:M (List (Kd×U))):TI:=λσ H R=>∃c0:Cf,c0.σ=σ/\c0.H=H/\Ok C c0/\W (ms >>= λrs=>aE rs >>= λ_=>M.J8 (Mc ik rs) >>= λxs=>pure (rs,xs)) c0.st λq st' =>
 ∀c J,c.σ=σ->c.st=st'->Ok C c->Nx c0 c->bc q.1 c.st->Walk C c q.1 q.2 J->R J c.H
def aT.walk(g:Ok C c)(n:Ns c f)(i:lM [r] c f)(hs:bc [r] f.st)(h:aT C c0 c r.1 r.2 v):aT C c0 f r.1 r.2 v :=
 (h.w.WR g n λj e=>i j r.2 (by rw[<-e];simp)).t hs
def vc(k:Kd):kE k=.loc\/kE k=.any:=by cases k<;>simp[kE]
def w9(z:C.K=X.K)(A:Ok C c)(h:aT C c0 c k (.lst us) (.ref a')):Walk C c [(k,.lst us)] (us.map λu=>(kE k,u)) (Tt X.K a'):=by
 intro l q n B hs;have h':=aT.walk (r:=(k,.lst us)) A n B hs h;have⟨H,vs,e,f,t⟩:=h'.list q;cases e;rw[z]at f;show⟨λi r w=>?_,λi D=>⟨vs,f,by rw[<-t.len];simpa using D⟩⟩;rw[i2,et]at w;have⟨u,G,rfl⟩:=w;have⟨v,y,g⟩:=t.get G;show⟨vc k,⟨vs,v,f,y⟩,λx H' j=>?_⟩;have⟨e,j⟩:=j;subst e;have:=j vs f;rw[y]at this;cases this;show⟨l,rfl,rfl,rfl,q,Nx.refl l,aT.item g⟩
def sX(z:C.K=X.K)(A:Ok C c)(h:aT C c0 c k (.tup us) (.ref a')):Walk C c [(k,.tup us)] (us.map λu=>(kE k,u)) (Tu X.K a'):=by
 intro l q n B hs;have h':=aT.walk (r:=(k,.tup us)) A n B hs h;have⟨H,vs,e,f,t⟩:=h'.tuple q;cases e;rw[z]at f;show⟨λi r w=>?_,λi D=>⟨vs,f,by rw[<-t.len];simpa using D⟩⟩;rw[i2,et]at w;have⟨u,G,rfl⟩:=w;have⟨v,y,g⟩:=t.get G;show⟨vc k,⟨vs,v,f,y⟩,λx H' j=>?_⟩;have⟨e,j⟩:=j;subst e;have:=j vs f;rw[y]at this;cases this;show⟨l,rfl,rfl,rfl,q,Nx.refl l,aT.item g⟩
def sY{lo:Int}:Walk C c rs ((gs n).map λi:Nat=>(Kd.loc,U.int (lo+(i:Int)))) (Sf lo n):=by
 intro h l nx t hs;show⟨λi r k=>?_,λi f=>by change n<=i;simpa using f⟩;rw[i2,et]at k;have⟨j,g,rfl⟩:=k;have f:i<n:=by simpa using(dt.mp g).1
 rw[List.getElem?_range f]at g;cases g;show⟨.inl rfl,f,λy H' q=>?_⟩;have⟨e,rfl⟩:=q;subst e;show⟨h,rfl,rfl,rfl,l,Nx.refl h,rfl⟩
def FR(i:C.K=X.K)(t:PE X a (JX C ma)):PI X tg a (NB C .seq (ma >>= λr=>pure [] >>= λrs=>pure (r::rs))):=by
 rintro pins s σ H R I ⟨c0,rfl,rfl,w,h⟩;rw[ah,ah]at h;have⟨r,st1,x,h⟩:=h;rw[ah,aq,aq,ah,cA,ah]at h;have⟨y,h⟩:=h;have⟨xs,j,h⟩:=bz.mp h;rw[aq]at h;have⟨k,u⟩:=r;cases u with
 |lst us =>
  cases j;show Bw t pins s c0.σ c0.H R I ⟨c0,rfl,rfl,w,_,st1,x,λc v l hs g n f=>?_⟩;have⟨a',vs,rfl,q,A⟩:=f.list g;subst hs;show⟨a',rfl,⟨vs,i▸q⟩,h c _ l rfl g n y (w9 i g f)⟩
 |tup us =>
  cases j;show EK t pins s c0.σ c0.H R I ⟨c0,rfl,rfl,w,_,st1,x,λc v l hs g n f=>?_⟩;have⟨a',vs,rfl,q,A⟩:=f.tuple g;subst hs;have z:=q;rw[i]at z;show⟨a',rfl,⟨vs,z⟩,h c _ l rfl g n y (sX i g f)⟩
 |_=>cases j
def sZ{k:List (Kd×U)->M β}{Post:β->aw->Prop}(g:Ok C c0)(h:W (ms >>= λrs=>aE rs >>= λ_=>k rs) c0.st Post)
  (hz:∀rs c vs,MB C c0 c rs vs->W (k rs) c.st Post->Z vs c.H):Lq C ms c0.σ c0.H Z:=by
 rw[ah]at h;show⟨c0,rfl,rfl,g,h.mono λrs st1 f c1 vs i j l n q=>?_⟩;rw[ah,cA]at f;subst j;show hz rs c1 vs ⟨i,l,n,q,f.1⟩ f.2
def CD(i:Gl X "range")(j:X.mg "range"=b6)(hs:hZ [a] X.env=[(cc,ve a X.env)])(k:PA X [a] (Lq C ms)):PI X tg (.Call (.Name "range" p) [a] [] pos) (NB C .Lb ms):=by
 rintro pins s σ H R I ⟨c0,rfl,rfl,l,h⟩;show wb i j k hs pins s c0.σ c0.H R I (sZ l h λrs c vs t w=>?_);rw[ah]at w;have⟨xs,g,w⟩:=bz.mp w;rw[aq]at w;have⟨x,rfl,hz⟩:=cm (f:=yN) g;clear g;have g:=hz;clear hz;have⟨v,rfl,n⟩:=t.one;unfold yN at g;split at g
 .split at g
  .rename_i q;cases g;show⟨_,by rw[n.int t.ok],⋯,⋯,w c _ t.hσ rfl t.ok t.nx t.OM sY⟩
  .cases g
 .cases g
def qZ{k:Kd}{us:List U}{h:U}{a':d8}{w:Hp->List V->Prop}(G:∀f,Ok C f->Ns c f->lM [(k,h)] c f->bc [(k,h)] f.st->∃vs,w f.H vs/\au C (SK C f k) f.H us vs):Walk C c [(k,h)] (us.zipIdx.map λp=>(kE k,.tup [.int p.2,p.1])) (Qk w):=by
 intro f g n I hs;have⟨vs,j,y⟩:=G f g n I hs;show⟨λi r z=>?_,λi J=>⟨vs,j,by rw[<-y.len];simpa using J⟩⟩;rw[i2,et]at z;have⟨p,A,rfl⟩:=z;rw[U1,et]at A;have⟨u,L,rfl⟩:=A;have⟨v,B,l⟩:=y.get L;show⟨vc k,⟨vs,v,j,B⟩,λx H' q=>?_⟩;have⟨p,N,rfl,q⟩:=q;have O:=q vs v j B;subst O;have⟨Q,t⟩:=g.lay (o:=.tup [.int i,v]) N;show⟨{f with H:=upd f.H p (.tup [.int i,v])},rfl,rfl,rfl,Q,t,aT.item ?_⟩;have D:au C (SK C f k) f.H [.int ((0+i:Nat):Int),u] [.int (i:Int),v]:=by
  rw[Q7];show⟨_,_,rfl,rfl,_,_,rfl,l,rfl⟩
 cases k<;>show⟨p,_,rfl,KA.of ax,by first|show D.mv (g.Oa t)|show D.mv (g.mv t)⟩
def FT{es:List kr}{z:Nat}{ps:Pos}(k:C.K=X.K)(A:Gl X "enumerate")(B:X.mg "enumerate"=b6)(hs:hZ [a] X.env=[(cc,ve a X.env)])(D:PA X [a] (Lq C ms)):PI X (.Tuple es z ps) (.Call (.Name "enumerate" p) [a] [] pos) (NB C .Pp ms):=by
 rintro pins s σ H R I ⟨c0,rfl,rfl,G,h⟩;show BV A B D hs pins s c0.σ c0.H R I (sZ G h λrs c vs t w=>?_);rw[ah]at w;have⟨xs,i,w⟩:=bz.mp w;rw[aq]at w;have⟨x,rfl,hz⟩:=cm (f:=Fw) i;clear i;have i:=hz;clear hz;have⟨v,rfl,l⟩:=t.one;unfold Fw at i;split at i
 .cases i;have⟨a',ws,q,g,j⟩:=l.list t.ok;subst q;show⟨a',rfl,.inl ⟨⟨ws,k▸g⟩,w c _ t.hσ rfl t.ok t.nx t.OM ?_⟩⟩;show qZ (a':=a') λJ r n u y=>?_;have⟨L,vs,e,g,j⟩:=(aT.walk t.ok n u y l).list r;cases e;show⟨vs,k▸g,j⟩
 .cases i;have⟨a',ws,q,g,j⟩:=l.tuple t.ok;subst q;rw[k]at g;show⟨a',rfl,.inr ⟨⟨ws,g⟩,w c _ t.hσ rfl t.ok t.nx t.OM ?_⟩⟩;show qZ (a':=a') λJ r n u y=>?_;have⟨L,vs,e,g,j⟩:=(aT.walk t.ok n u y l).tuple r;cases e;rw[k]at g;show⟨vs,g,j⟩
 .cases i
def y8{vs:List V}(A:C.K=X.K)(B:Ok C c)(h:aT C c0 c k (.lst us) (.ref a'))(hl:us.length=vs.length):Walk C c [(k,.lst us)] (us.reverse.map λu=>(kE k,u)) (UR X.K a' vs.length):=by
 intro t w n D hs;have h':=aT.walk (r:=(k,.lst us)) B n D hs h;have⟨H,ws,e,f,y⟩:=h'.list w;cases e;rw[A]at f;have I:=y.len;show⟨λi r z=>?_,λi g=>by change vs.length<=i;rw[<-hl];simpa using g⟩;rw[i2,et]at z;have⟨u,j,rfl⟩:=z;have g:i<us.length:=by simpa using(dt.mp j).1
 rw[Á g,hl]at j;have⟨v,G,l⟩:=y.get j;show⟨vc k,⟨⋯,ws,f,⋯⟩,λx H' q=>?_⟩;have⟨e,q⟩:=q;subst e;have:=q ws f;rw[G]at this;cases this;show⟨t,rfl,rfl,rfl,w,Nx.refl t,aT.item l⟩
def FU(k:X.calm=bD)(i:C.K=X.K)(l:Gl X "reversed")(n:X.mg "reversed"=b6)(hs:hZ [a] X.env=[(cc,ve a X.env)])(q:PA X [a] (Lq C ms)):PI X tg (.Call (.Name "reversed" p) [a] [] pos) (NB C .rev ms):=by
 rintro pins s σ H R I ⟨c0,rfl,rfl,r,h⟩;show Fc k l n q hs pins s c0.σ c0.H R I (sZ r h λrs c vs t w=>?_);rw[ah]at w;have⟨xs,g,w⟩:=bz.mp w;rw[aq]at w;have⟨x,rfl,hz⟩:=cm (f:=Fx) g;clear g;have g:=hz;clear hz;have⟨v,rfl,j⟩:=t.one;unfold Fx at g;split at g
 .cases g;have⟨a',ws,u,y,z⟩:=j.list t.ok;subst u;show⟨a',ws,rfl,i▸y,w c _ t.hσ rfl t.ok t.nx t.OM (y8 i t.ok j z.len)⟩
 .cases g
def Ok.put(t:Ok C c)(n:Nx c0 c)(hi:i<c.σ.length)(hk:k=.own\/k=.loc\/k=.any)(Ly:Ok C c0)(h:aT C c0 c k u v):
  Ok C {c with σ:=c.σ.set i (a5 v),st:=c.st.set i (a5 (k,u))}/\Nx c0 {c with σ:=c.σ.set i (a5 v),st:=c.st.set i (a5 (k,u))}:=by
 have Lx:i<c.st.length:=by rw[t.len];show hi
 have Kh:∀(j:Nat) k' u',(c.st.set i (a5 (k,u)))[j]?=a5 (a5 (k',u'))->j≠i->c.st[j]?=a5 (a5 (k',u')):=λj k' u' e ne=>by rw[hH (nC ne)]at e;show e
 have Md:∀(j:Nat) D,(c.σ.set i (a5 v))[j]?=a5 (a5 D)->j≠i->c.σ[j]?=a5 (a5 D):=λj D e ne=>by rw[hH (nC ne)]at e;show e
 have sl:fV C c.S c.H k u v:=by
  rcases hk with rfl|rfl|rfl
  .have⟨r,e,G,O,y,Q⟩:=h;have⟨z0,z1,T,z3,z4⟩:=Ly.kC G;show⟨r,e,O,T,z0,Q⟩
  .show h
  .show h
 have Px:∀(j:Nat) k' u' r,k'.root=bD->(c.st.set i (a5 (k,u)))[j]?=a5 (a5 (k',u'))->(c.σ.set i (a5 v))[j]?=a5 (a5 (.ref r))->j=i/\k=.own/\v=.ref r\/j≠i/\c.st[j]?=a5 (a5 (k',u'))/\c.σ[j]?=a5 (a5 (.ref r)):=λj k' u' r I f g=>by
  by_cases l:j=i
  .subst l;rw[d5 Lx]at f;rw[d5 hi]at g;cases f;cases g;rcases hk with rfl|rfl|rfl
   .show .inl ⟨rfl,rfl,rfl⟩
   .cases I
   .cases I
  .show .inr ⟨l,Kh j k' u' f l,Md j _ g l⟩
 have dD:∀(j:Nat) (u':U),(c.st.set i (a5 (k,u)))[j]?=a5 (a5 (.JS,u'))->c.st[j]?=a5 (a5 (.JS,u'))/\(c.σ.set i (a5 v))[j]?=c.σ[j]?:=λj u' e=>by
  by_cases l:j=i
  .subst l;rw[d5 Lx]at e;cases e;rcases hk with hk|hk|hk<;>cases hk
  .show⟨Kh j .JS u' e l,hH (nC l)⟩
 have b1:∀a,({c with σ:=c.σ.set i (a5 v),st:=c.st.set i (a5 (k,u))}:Cf).R1 a->c.R1 a\/k=.own/\v=.ref a:=λa J_=>by
  have⟨j,k',u',I,f,g⟩:=J_;rcases Px j k' u' a I f g with⟨Y,w,x⟩|⟨Y,w,x⟩
  .show .inr ⟨w,x⟩
  .show .inl ⟨j,k',u',I,w,x⟩
 have Oh:MZ C {c with σ:=c.σ.set i (a5 v),st:=c.st.set i (a5 (k,u))}:=t.dd.of rfl dD (λa z=>(b1 a z).imp id λ⟨J,L⟩ j z'=>by
  subst J;obtain⟨A,e,_,_,y,_⟩:=h;rw[L]at e;cases e;show y (.inr ⟨j,z'⟩)) (.up λ_ z=>z) λj a z=>⟨(t.root (.inr ⟨j,z⟩)).1,λo q=>q⟩
 show⟨⟨t.same,t.L3,t.par,t.io,by simp[t.len],λj k' u' e=>?_,λj1 j2 k1 k2 u1 u2 r Py Rv f g N e4=>?_,Oh⟩,⟨⟨n.keep,n.there,λa z=>?_,n.sub,n.new⟩,λa ⟨j,u',A,f,g,N⟩=>let ⟨J,L⟩:=dD j u' f;n.dk a ⟨j,u',A,J,L▸g,N⟩⟩⟩
 .by_cases l:j=i
  .subst l;rw[d5 Lx]at e;cases e;show⟨v,by rw[d5 hi],sl⟩
  .have⟨D,f,g⟩:=t.sl j k' u' (Kh j k' u' e l);show⟨D,by rw[hH (nC l)];show f,g⟩
 .have z1:=Px j1 k1 u1 r Py f N;have T:=Px j2 k2 u2 r Rv g e4;rcases z1 with⟨Y,w,x⟩|⟨Y,w,x⟩
  .rcases T with⟨b1,B,b3⟩|⟨b1,B,b3⟩
   .show Y.trans b1.symm
   .subst w;have⟨A,e,G,O,y,Q⟩:=h;rw[x]at e;cases e;show(y (.inl ⟨j2,k2,u2,Rv,B,b3⟩)).elim
  .rcases T with⟨b1,B,b3⟩|⟨b1,B,b3⟩
   .subst B;have⟨A,e,G,O,y,Q⟩:=h;rw[b3]at e;cases e;show(y (.inl ⟨j1,k1,u1,Py,w,x⟩)).elim
   .show t.inj j1 j2 k1 k2 u1 u2 r Py Rv w B x b3
 .rcases z with z|⟨j,u',A,f,g,N⟩
  .rcases b1 a z with z|⟨w,x⟩
   .show n.roots a (.inl z)
   .subst w;have⟨A,e,G,O,y,Q⟩:=h;rw[x]at e;cases e;show .inr G
  .have⟨J,L⟩:=dD j u' f;show n.roots a (.inr ⟨j,u',A,J,L▸g,N⟩)
def pK(z:Ok C c0)(q:Ok C c)(n:Nx c0 c)(A:i<c.σ.length)(t:aT C c0 c r.1 r.2 v)(h:W (eN i r) c.st Post):
  ∃y,y.σ=c.σ.set i (a5 v)/\y.H=c.H/\Ok C y/\Nx c0 y/\Post () y.st:=by
 have⟨k,u⟩:=r;cases k with
 |own =>
  have⟨x,st',e,f⟩:=h;cases e;have⟨g,l⟩:=q.put n A (.inl rfl) z t;show⟨{c with σ:=c.σ.set i (a5 v),st:=c.st.set i (a5 (.own,u))},rfl,rfl,g,l,f⟩
 |loc =>
  have⟨x,st',e,f⟩:=h;cases e;have⟨g,l⟩:=q.put n A (.inr (.inl rfl)) z t;show⟨{c with σ:=c.σ.set i (a5 v),st:=c.st.set i (a5 (.loc,u))},rfl,rfl,g,l,f⟩
 |any =>
  have⟨x,st',e,f⟩:=h;cases e;have⟨g,l⟩:=q.put n A (.inr (.inr rfl)) z t;show⟨{c with σ:=c.σ.set i (a5 v),st:=c.st.set i (a5 (.any,u))},rfl,rfl,g,l,f⟩
 |bor j =>
  have⟨x,st',e,f⟩:=h;rw[show eN i (.bor j,u) c.st=match c.st[j]? with|some (a5 (.own,u))=>a5 (Ex.ok (),(c.st.set j (a5 (.loc,u))).set i (a5 (.loc,u)))|_=>b6 from rfl]at e;split at e
  .rename_i w D;cases e;obtain⟨O,G,r,J,_⟩:=q.sl j _ _ D;have I:c.σ[j]?=a5 (a5 v):=t.2;rw[I]at G;cases G;subst J;have⟨L,N,B⟩:=q.yX n D I;have⟨g,l⟩:=Ok.put (c:={c with S:=λa=>c.S a\/a=r,st:=c.st.set j (a5 (.loc,w))}) L N (k:=.loc) (u:=w) (v:=.ref r) A (.inr (.inl rfl)) z B;show⟨{S:=λa=>c.S a\/a=r,H:=c.H,σ:=c.σ.set i (a5 (.ref r)),st:=(c.st.set j (a5 (.loc,w))).set i (a5 (.loc,w)),kid:=c.kid},rfl,rfl,g,l,f⟩
  .cases e
 |_=>show t.elim
end
section
abbrev tG(C:Ct)(t:Bool)(is:List Nat):TG:=λv σ H Q=>∃c0 c r,c.σ=σ/\c.H=H/\Ok C c0/\Ok C c/\Nx c0 c/\aT C c0 c r.1 r.2 v/\W (dG t is r) c.st λ_ st' =>
 ∀a,a.st=st'->Ok C a->Nx c0 a->(∀j,j∉is->a.σ[j]?=c.σ[j]?)->a.σ.length=c.σ.length->Q a.σ a.H
structure s9(X:Cx)(e:kr)(i:Nat):Prop where
 is:∃x pos,e=.Name x pos/\X.N[i]?=a5 x/\Loc X.env.scope x/\(X.fn x=bD\/X.env.scope.names.lookup x=a5 .local)
def FV(f:X.N.Nodup)(h:s9 X e i):PG X e (tG C cc [i]):=by
 have⟨x,pos,rfl,d,g,k⟩:=h.is;rintro pins s σ H v u Q I rv ⟨c0,c,r,rfl,rfl,l,m,n,a,w⟩;have o:i<c.σ.length:=by rw[I.len];show(dt.mp d).1
 have⟨p,b,t,y,A,q⟩:=pK (r:=r) l m n o a w;show uw f d g k pins s c.σ c.H v u Q I rv ?_;have z:=q p rfl y A (λj B=>by rw[b,hH (by intro z;show B (by simp[z]))]) (by rw[b];simp);rw[b,t]at z;show z
abbrev Vh:List Nat->P9
 |[]=>G1
 |i::is=>DN (uu i) (Vh is)
inductive fw(X:Cx):List kr->List Nat->Prop where
 |nil:fw X [] []
 |cons {e:kr} {es:List kr} {i:Nat} {is:List Nat} (h:s9 X e i) (t:fw X es is):fw X (e::es) (i::is)
def w_(a:X.N.Nodup)(h:fw X es is):QK X es (Vh is):=by
 induction h with
 |nil=>show Bt
 |cons h t b =>
  have⟨x,pos,rfl,c,d,e⟩:=h.is;show xU (uw a c d e) b rfl
def s_(h:fw X es is):(Q2 es X.env).length=is.length/\(Q2 es X.env).findIdx? (·.1)=b6:=by
 induction h with
 |nil=>show⟨rfl,rfl⟩
 |cons h t a =>
  have⟨x,pos,rfl,b,c,d⟩:=h.is;show⟨?_,?_⟩
  .change(_::_).length=_;simp[a.1]
  .change YP _ (_::_)=b6;rw[List.findIdx?_cons,Ŧ (by simp),a.2];rfl
theorem vd(hk:kE k=k)(g:Ok C c0):∀{is:List Nat}{us:List U}{vs:List V}{c:Cf}{Post:Unit->aw->Prop}{Q:L2.St->Hp->Prop},Ok C c->Nx c0 c->(∀i∈is,i<c.σ.length)->au C (SK C c k) c.H us vs->W (sets is (us.map λu=>(k,u))) c.st Post ->
  (∀b,Post () b.st->Ok C b->Nx c0 b->(∀j,j∉is->b.σ[j]?=c.σ[j]?)->b.σ.length=c.σ.length->Q b.σ b.H)->Vh is vs c.σ c.H Q
 |[],[],vs,c,Post,Q,ok,n,d,a,w,q=>by
  rw[show sets [] (QR (λu=>(k,u)) [])=pure () from rfl,aq]at w;show⟨a,q c w ok n (λ_ _=>rfl) rfl⟩
 |[],u::us,vs,c,Post,Q,ok,n,d,a,w,q=>(bw.mp w).elim
 |i::is,[],vs,c,Post,Q,ok,n,d,a,w,q=>(bw.mp w).elim
 |i::is,u::us,vs,c,Post,Q,ok,n,d,a,w,q=>by
  rw[show sets (i::is) (QR (λu=>(k,u)) (u::us))=eN i (k,u) >>= λ_=>sets is (us.map λu=>(k,u)) from rfl,ah]at w;have⟨v,r,rfl,h,l⟩:=a;have m:k=.own\/k=.loc\/k=.any:=by cases k<;>simp[kE]at hk<;>simp
  have B:k≠.own:=by cases k<;>simp[kE]at hk<;>simp
  have rt:aT C c0 c k u v:=by rw[<-hk];show aT.item h
  have⟨o,s⟩:=ok.put n (d i (by simp)) m g rt;have es:eN i (k,u)=λst=>a5 (.ok (),st.set i (a5 (k,u))):=by cases k<;>simp[kE]at hk<;>rfl
  obtain⟨_,st',e,t⟩:=w;rw[es]at e;cases e;show⟨v,r,rfl,vd (c:={c with σ:=c.σ.set i (a5 v),st:=c.st.set i (a5 (k,u))}) hk g o s (λj f=>by simpa using d j (by simp[f])) (by cases k<;>show l) t λb p x y A hl=>?_⟩;show q b p x y (λj f=>?_) (by rw[hl];simp);rw[A j (λz=>f (by simp[z])),hH (λz=>f (by simp[z]))]
def HA(j:X.calm=bD)(m:C.K=X.K)(o:X.N.Nodup)(h:fw X es is)(hl:∀i∈is,i<X.N.length):PG X (.Tuple es T pos) (tG C bD is):=by
 rintro pins s σ H v u Q I rv ⟨c0,c,r,rfl,rfl,q,e,n,b,w⟩;have⟨t,y⟩:=s_ h;show EF j (w_ o h) t y pins s c.σ c.H v u Q I rv ?_;have⟨k,z⟩:=r;cases z with
 |tup us =>
  rw[show dG bD is (k,.tup us)=sets is (us.map λu=>(kE k,u)) from by cases is<;>rfl]at w;have⟨a',vs,rfl,f,g⟩:=b.tuple e;rw[m]at f;have a:us.length=is.length:=by
   have d:∀(is:List Nat) (l:List (Kd×U)) (st:aw) (P:Unit->aw->Prop),W (sets is l) st P->l.length=is.length:=by
    intro is;induction is with
    |nil=>intro l st P w;cases l with
     |nil=>rfl
     |cons _ _=>show(bw.mp w).elim
    |cons i is A=>intro l st P w;cases l with
     |nil=>show(bw.mp w).elim
     |cons x l =>
      rw[show sets (i::is) (x::l)=eN i x >>= λ_=>sets is l from rfl,ah]at w;obtain⟨_,_,_,w⟩:=w;rw[js,js,A l _ _ w]
   simpa using d _ _ _ _ w
  show⟨a',vs,rfl,f,by rw[<-g.len,a],?_⟩;show vd (k:=kE k) (by cases k<;>rfl) q e n (λi B=>by rw[I.len];show hl i B) (by cases k<;>show g) w λD p G J L O=>p D rfl G J L O
 |_=>cases is<;>show(bw.mp w).elim
end
section
variable{X:Cx}{C:Ct}{pins:List (d8×Obj)}{s:d6}{c0 c c1:Cf}
variable{a b d e o tg iter elt:kr}{es ifs:List kr}{m ma mb md me:M (Kd×U)}{ms:M (List (Kd×U))}{ta tb tc:M Bool}{pos p p2 apos G':Pos}
def xb{m:M α}{st:aw}{Q:α->aw->Prop}:W (inScope k m) st Q↔W m (i1 k b6++st) λa st'=>Q a (st'.drop k):=by
 constructor
 .rintro⟨a,st',e,h⟩;unfold inScope at e;cases q:m (i1 k b6++st) with
  |none=>rw[q]at e;cases e
  |some r=>have⟨g,f⟩:=r;rw[q]at e;cases e;show⟨a,f,q,h⟩
 .rintro⟨a,st',e,h⟩;show⟨a,st'.drop k,by unfold inScope;rw[e],h⟩
abbrev Cf.ext(k:Nat)(c:Cf):Cf:={c with σ:=i1 k b6++c.σ,st:=i1 k b6++c.st,kid:=λj=>c.kid (j - k)}
abbrev Cf.cut(k:Nat)(c:Cf):Cf:={c with σ:=c.σ.drop k,st:=c.st.drop k,kid:=λj=>c.kid (k+j)}
def gA(h:(i1 k b6++l)[j]?=a5 (a5 x)):∃i,j=k+i/\l[i]?=a5 (a5 x):=by
 by_cases f:j<k
 .rw[u3 (by simpa using f)]at h;rw[Lk]at h;rw[ť f]at h;cases h
 .show⟨j - k,⋯,?_⟩;rw[qs (by simp;lia)]at h;simpa using h
def fy:(i1 k b6++l)[k+i]?=l[i]?:=by
 rw[qs (by simp)];simp
def y9:(c.ext k).R1 r↔c.R1 r:=by
 constructor
 .rintro⟨j,g,u,h,l,f⟩;have⟨i,rfl,e⟩:=gA l;rw[Cf.ext,fy]at f;show⟨i,g,u,h,e,f⟩
 .rintro⟨i,g,u,h,l,f⟩;show⟨k+i,g,u,h,by rw[Cf.ext,fy];show l,by rw[Cf.ext,fy];show f⟩
def lN{a:d8}(h:(c.ext k).RD j a):∃i,j=k+i/\c.RD i a:=by
 have⟨u,r,l,f,g⟩:=h;have⟨i,rfl,e⟩:=gA l;rw[Cf.ext,fy]at f;show⟨i,rfl,u,r,e,f,?_⟩;have:(c.ext k).kid (k+i)=c.kid i:=by change c.kid (k+i - k)=_;rw[Ze]
 rw[this]at g;show g
def HB(h:(c.ext k).R r):c.R r:=by
 rcases h with h|⟨j,h⟩
 .show .inl (y9.mp h)
 .obtain⟨i,_,h⟩:=lN h;show .inr ⟨i,h⟩
def Ok.ext(k:Nat)(f:Ok C c):Ok C (c.ext k)/\Nx c (c.ext k):=by
 show⟨⟨f.same,f.L3,f.par,f.io,by simp[Cf.ext,f.len],λj D u e=>?_,λi j k1 k2 u u' r G H l g A B=>?_,⟨λj u r l g=>?_,λi j a n q=>?_,λj a n q=>?_⟩⟩,⟨⟨λ_ _ h _=>h,λ_ o h=>⟨o,h⟩,λa h=>.inl (HB h),λ_ h=>h,λ_ h=>.inl h⟩,λa ⟨j,z⟩=>let ⟨i,_,y⟩:=lN z;⟨⟨i,y⟩,λ_ e=>e⟩⟩⟩
 .have⟨i,rfl,I⟩:=gA e;have⟨v,l,g⟩:=f.sl i D u I;show⟨v,by rw[Cf.ext,fy];show l,g⟩
 .have⟨t,rfl,J⟩:=gA l;have⟨w,rfl,L⟩:=gA g;rw[Cf.ext,fy]at A B;rw[f.inj t w k1 k2 u u' r G H J L A B]
 .have⟨i,rfl,e⟩:=gA l;rw[Cf.ext,fy]at g;have:(c.ext k).kid (k+i)=c.kid i:=by change c.kid (k+i - k)=_;rw[Ze]
  rw[this];show f.dd.kd i u r e g
 .have⟨t,rfl,x⟩:=lN n;have⟨w,rfl,N⟩:=lN q;rw[f.dd.dj t w a x N]
 .have⟨i,rfl,x⟩:=lN n;show f.dd.d1 i a x (y9.mp q)
def y_{a:d8}(h:(c.cut k).R1 a):c.R1 a:=by
 have⟨j,i,u,l,f,g⟩:=h;rw[Cf.cut,LU]at f g;show⟨k+j,i,u,l,f,g⟩
def lO{a:d8}(h:(c.cut k).RD j a):c.RD (k+j) a:=by
 have⟨u,r,f,g,i⟩:=h;rw[Cf.cut,LU]at f g;show⟨u,r,f,g,i⟩
def Ok.cut(k:Nat)(f:Ok C c):Ok C (c.cut k)/\Nx c (c.cut k):=by
 show⟨⟨f.same,f.L3,f.par,f.io,by simp[Cf.cut,f.len],λj x u e=>?_,λi j k1 k2 u u' r y A g l t w=>?_,⟨λj u r g l=>?_,λi j a n q=>?_,λj a n q=>f.dd.d1 _ a (lO n) (y_ q)⟩⟩,⟨⟨λ_ _ h _=>h,λ_ o h=>⟨o,h⟩,λa h=>.inl (h.elim (λz=>.inl (y_ z)) λ⟨j,z⟩=>.inr ⟨k+j,lO z⟩),λ_ h=>h,λ_ h=>.inl h⟩,λa ⟨j,z⟩=>⟨⟨_,lO z⟩,λ_ e=>e⟩⟩⟩
 .rw[Cf.cut,LU]at e;have⟨v,g,l⟩:=f.sl _ x u e;show⟨v,by rw[Cf.cut,LU];show g,l⟩
 .rw[Cf.cut,LU]at g l t w;have:=f.inj _ _ k1 k2 u u' r y A g l t w;lia
 .rw[Cf.cut,LU]at g l;show f.dd.kd _ u r g l
 .have:=f.dd.dj _ _ a (lO n) (lO q);lia
def CF(h:∀j,j∉gs k->g[j]?=(i1 k b6++σ)[j]?)(hl:g.length=(i1 k (b6:Option V)++σ).length):∃f:L2.St,f.length=k/\g=f++σ:=by
 show⟨g.take k,by rw[zy,hl];simp,?_⟩;apply ñ;intro j;by_cases i:j<k
 .rw[u3 (by rw[zy,hl];simp;lia),List.getElem?_take,ť i]
 .rw[h j (by simpa using i),qs (by simp;lia),qs (by rw[zy,hl];simp;lia)];congr 1
  rw[zy,hl];simp
def nV(e1:c1.σ=c0.σ)(J1:Ok C c1)(n1:Nx c0 c1)(hw:Walk C c1 rs xs J)(h3:W (bV k t tc me rs xs []) c1.st λus st'=>W (pure (Kd.own,U.lst us)) st' (cn C c0 Q)):
  uF k J (tG C t (gs k)) (Le C tc) (JX C me) Q c0.σ c1.H:=by
 show⟨λi m ys H=>∃c acc,c.H=H/\c.σ=c0.σ/\Ok C c/\Nx c1 c/\m=xs.length - i/\i<=xs.length/\au C c.S c.H acc ys/\acc.length<=cL/\W (bV k t tc me rs (xs.drop i) acc) c.st λus st'=>W (pure (Kd.own,U.lst us)) st' (cn C c0 Q),⟨xs.length,c1,[],rfl,e1,J1,Nx.refl c1,by simp,ke _,rfl,ke _,by simpa using h3⟩,?_⟩;rintro i m ys H ⟨c,acc,rfl,D,q,y,rfl,hi,g,h,w⟩;show⟨by rw[<-g.len];show h,?_⟩;have f:lM rs c1 c:=λj u _=>by rw[D,e1]
 by_cases G:i<xs.length
 .right
  rw[YD G]at w;rw[show bV k t tc me rs (xs[i]::xs.drop (i+1)) acc=aE rs >>= λ_=>inScope k (dG t (gs k) xs[i] >>= λ_=>tc >>= λb=>if b=bD then(me >>= λr=>lift r >>= λu=>pure (a5 u)) else pure b6) >>= λr=>match r with|some u=>if acc.length<cL then bV k t tc me rs (xs.drop (i+1)) (acc++[u]) else M.fail|none=>bV k t tc me rs (xs.drop (i+1)) acc from rfl,ah,cA]at w;have⟨NC,w⟩:=w;obtain⟨I,_⟩:=hw c q y f NC;have⟨Vi,Qx,Vj⟩:=I i xs[i] (by simp[G]);show⟨Qx,λLZ H'=>∃c acc,c.H=H'/\c.σ=c0.σ/\Ok C c/\Nx c1 c/\au C c.S c.H acc LZ/\acc.length<=cL/\W (bV k t tc me rs (xs.drop (i+1)) acc) c.st λus st'=>W (pure (Kd.own,U.lst us)) st' (cn C c0 Q),λLZ H' ⟨c',KP,z1,z2,z3,z4,z5,z6,z7⟩=>⟨xs.length - (i+1),⋯,c',KP,z1,z2,z3,z4,rfl,G,z5,z6,z7⟩,λx H' hy=>?_⟩;have⟨l,rfl,e4,e5,Ke,n2,rt⟩:=Vj x H' hy;rw[ah,xb,ah]at w;have⟨SO,nx⟩:=Ke.ext k;have Zi:aT C (l.ext k) (l.ext k) xs[i].1 xs[i].2 x:=by
   rcases Vi with z|z
   .rw[z]at rt ⊢;show rt
   .rw[z]at rt ⊢;show rt
  have eσ:(l.ext k).σ=i1 k b6++c0.σ:=by rw[Cf.ext];change i1 k b6++l.σ=_;rw[e4,D]
  show⟨l.ext k,l.ext k,xs[i],eσ,rfl,SO,SO,Nx.refl _,Zi,?_⟩;have Vk:(l.ext k).st=i1 k b6++c.st:=by rw[Cf.ext];change i1 k b6++l.st=_;rw[e5]
  rw[Vk];show w.mono λ_ Kr w3 c3 e6 MC n3 Ry Qy=>?_;subst e6;rw[eσ]at Ry Qy;have⟨L,N,O⟩:=CF Ry Qy;show⟨L,N,O,?_⟩;have WW:Nx c c3:=(n2.trans nx).trans n3;rw[ah]at w3;show⟨c3,rfl,rfl,MC,w3.mono λb Qe n B e7 e8 T n4=>?_⟩;subst e8;cases b with
  |false =>
   rw[Ŧ i7]at n ⊢;rw[aq]at n;have⟨Y,nk⟩:=T.cut k;have nn:Nx c (B.cut k):=(WW.trans n4).trans nk;show⟨B.cut k,acc,rfl,?_,Y,y.trans nn,g.mv (q.mv nn),h,n⟩;change B.σ.drop k=_;rw[e7,O,WY N]
  |true =>
   rw[ť rfl]at n ⊢;rw[ah]at n;show⟨B,e7,rfl,T,n.mono λr M8 w5 c5 v e9 Zj Zk n5 Zl=>?_⟩;subst Zj;rw[ah]at w5;obtain⟨S',st',u,sS,Zm,n6,Vm,A,_,_⟩:=iR T Zk n5 Zl.w w5;rw[aq]at A
   dsimp only at A
   split at A
   .rename_i hz;have⟨Y,nk⟩:=Zm.cut k;have nn:Nx c (Cf.cut k {c5 with S:=S',st:=st' }):=((WW.trans n4).trans n6).trans nk;show⟨Cf.cut k {c5 with S:=S',st:=st' },acc++[u],rfl,?_,Y,y.trans nn,(g.mv (q.mv nn)).snoc Vm,by rw[gc];show hz,A⟩;change c5.σ.drop k=_;rw[e9,O,WY N]
   .show(bw.mp A).elim
 .left
  have Lx:i=xs.length:=by lia
  subst Lx;rw[ú,show bV k t tc me rs [] acc=aE rs >>= λ_=>pure acc from rfl,ah,cA,aq,aq]at w;obtain⟨_,I⟩:=hw c q y f w.1;show⟨I _ (hV _),λp hp=>cn.list w.2 D q (n1.trans y) g p hp⟩
def nW(l:Ok C c0)
  (h:W (ms >>= λrs=>aE rs >>= λ_=>M.J8 (Mc ik rs) >>= λxs=>bV k t tc me rs xs [] >>= λus=>pure (Kd.own,U.lst us)) c0.st (cn C c0 Q)) :
  yg k (NB C ik ms) (tG C t (gs k)) (Le C tc) (JX C me) c0.σ c0.H Q:=by
 rw[ah]at h;show⟨c0,rfl,rfl,l,?_⟩;rw[ah];show h.mono λrs st1 f=>?_;rw[ah,cA]at f ⊢;show⟨f.1,?_⟩;have g:=f.2;rw[ah]at g ⊢;show g.mono λxs st2 i=>?_;rw[aq];intro c1 J n q r u v j;rw[ah]at i;subst q
 dsimp only at v j
 show nV n r u j i
def za(S:dQ X N own scope)(f:X.calm=bD)(g:PI X tg iter (NB C ik ms))
  (i:∀D s H ex,PG (K4 X N scope D s H ex) tg (tG C t (gs own.length))) (j:∀D s H ex,NR (K4 X N scope D s H ex) ifs (Le C tc)) (k:∀D s H ex,PE (K4 X N scope D s H ex) elt (JX C me))
  (hs:∀x,MR iter X.env x=pure x) :
  PE X (.ListComp elt [⟨tg,iter,ifs,0⟩] scope pos) (JX C (ms >>= λrs=>aE rs >>= λ_=>M.J8 (Mc ik rs) >>= λxs=>bV own.length t tc me rs xs [] >>= λus=>pure (.own,.lst us))):=by
 show PE.weak (uG S f g i j k hs) ?_;rintro σ H Q ⟨c0,rfl,rfl,l,h⟩;show nW l h
end
section
variable{a b d e o tg iter elt:kr}{es ifs:List kr}{m ma mb md me:M (Kd×U)}{ms:M (List (Kd×U))}{ta tb tc:M Bool}{pos p p2 apos G':Pos}{st:M'}{rest body:List M'}{f g mm:M Fl}{ns Lj:Nat->Bool}
def FW(C:Ct)(c:Cf):Kd->U->V->Prop
 |.own,u,v=>∃r,v=.ref r/\C.H₀ r=b6/\¬c.S r/\¬c.R r/\c6 C c.S c.H r u
 |.loc,u,v=>Rep C c.S c.H u v
 |.any,u,v=>Rep C (PS C c.S) c.H u v
 |_,_,_=>False
def JF(C:Ct)(Q:VK)(c:Cf):Kd->U->Prop
 |.io,u=>C.xw u c.H
 |k,u=>∀v,FW C c k u v->Q v c.H
abbrev Fin(C:Ct)(D:Ends)(f:Fl)(c:Cf):Prop:=match f with
 |.nx=>D.nx c.σ c.H
 |.bk=>D.bk c.σ c.H
 |.ct=>D.ct c.σ c.H
 |.rt k u=>JF C D.rt c k u
abbrev Kept(ns:Nat->Bool)(c h:Cf):Prop:=(∀j,ns j=bD->h.σ[j]?=c.σ[j]?)/\h.σ.length=c.σ.length
def Kept.refl:Kept ns c c:=⟨λ_ _=>rfl,rfl⟩
def Kept.trans(h:Kept ns c i)(h':Kept ns i k):Kept ns c k:=⟨λj z=>(h'.1 j z).trans (h.1 j z),h'.2.trans h.2⟩
def Kept.le(i:∀j,Lj j=bD->ns j=bD)(h:Kept ns c k):Kept Lj c k:=⟨λj z=>h.1 j (i j z),h.2⟩
def Kept.of(h:i.σ=c.σ):Kept ns c i:=⟨λj z=>by rw[h],by rw[h]⟩
abbrev fF(C:Ct)(c0:Cf)(ns:Nat->Bool)(D:Ends)(f:Fl)(st':aw):Prop:=∀c,c.st=st'->Ok C c->Ns c0 c->Kept ns c0 c->Fin C D f c
abbrev KH(C:Ct)(ns:Nat->Bool)(m:M Fl):TS:=λD σ H=>∃c0:Cf,c0.σ=σ/\c0.H=H/\Ok C c0/\W m c0.st (fF C c0 ns D)
def tf(c:Ok C c1)(n:Ns c0 c1)(k:Kept ns c0 c1)(h:W mm c1.st (fF C c0 ns D)):KH C ns mm D c1.σ c1.H :=
 ⟨c1,rfl,rfl,c,h.mono λf st i j e l q k2=>i j e l (n.trans q) (k.trans k2)⟩
def PS.weak(h:L2.PS X st t)(i:∀D σ H,t' D σ H->t D σ H):L2.PS X st t':=λpins s σ H D I q=>h pins s σ H D I (i D σ H q)
def Lg.weak(h:Lg X rest t)(i:∀D σ H,t' D σ H->t D σ H):Lg X rest t':=λpins s σ H D I q=>h pins s σ H D I (i D σ H q)
def pL(i:∀j,Lj j=bD->ns j=bD)(h:KH C Lj mm D σ H):KH C ns mm D σ H :=
 let ⟨c0,c,k,l,w⟩:=h;⟨c0,c,k,l,w.mono λf st n q e r s k2=>n q e r s (k2.le i)⟩
def HC:Lg X [] (KH C ns (pure .nx)):=by
 show Lg.weak ur ?_;rintro D σ H ⟨c0,rfl,rfl,c,h⟩;rw[aq]at h;show h c0 rfl c (Ns.refl c0) Kept.refl
abbrev CG(m:M Fl)(f:Fl):M Fl:=match f with
 |.nx=>m
 |f=>pure f
def FX(j:L2.PS X st (KH C ns f))(l:Lg X rest (KH C ns g)):Lg X (st::rest) (KH C ns (f >>= CG g)):=by
 show Lg.weak (qj j l) ?_;rintro D σ H ⟨c0,rfl,rfl,n,h⟩;rw[ah]at h;show⟨c0,rfl,rfl,n,h.mono λq st1 w c1 e c i k1=>?_⟩;subst e;cases q with
 |nx=>show tf c i k1 w
 |bk=>rw[show CG g .bk=pure .bk from rfl,aq]at w;show w c1 rfl c i k1
 |ct=>rw[show CG g .ct=pure .ct from rfl,aq]at w;show w c1 rfl c i k1
 |rt k u=>rw[show CG g (.rt k u)=pure (.rt k u) from rfl,aq]at w;show w c1 rfl c i k1
def HD(i:PE X a (JX C ma))(hs:PZ a b6 pos.line X.env=pure cc):L2.PS X (.Expr a pos) (KH C ns (ma >>= λ_=>pure .nx)):=by
 show PS.weak (kK i hs) ?_;rintro D σ H ⟨c0,rfl,rfl,j,h⟩;show aQ j h λx c v t w=>?_;rw[aq]at w;have:=w c rfl t.ok t.nx (Kept.of t.hσ);rw[<-t.hσ];show this
def FY:L2.PS X (.Return b6 pos) (KH C ns (pure (.rt .loc .J0))):=by
 show PS.weak Bs ?_;rintro D σ H ⟨c0,rfl,rfl,c,h⟩;rw[aq]at h;show h c0 rfl c (Ns.refl c0) Kept.refl .J0 rfl
def zb(Y:Ok C c0)(t:Ml C c0 c x v)(w:W (retS x) c.st (fF C c0 ns D)):D.rt v c.H:=by
 have⟨k,u⟩:=x;have⟨B,h,n,r⟩:=t;cases k with
 |own =>
  rw[show retS (.own,u)=pure (.rt .own u) from rfl,aq]at w;have⟨A,e,h1,h2,h3,h4⟩:=r;show w c rfl h n (Kept.of B) v ⟨A,e,(Y.kC h1).1,h2,h3,h4⟩
 |loc =>
  rw[show retS (.loc,u)=pure (.rt .loc u) from rfl,aq]at w;show w c rfl h n (Kept.of B) v r
 |any =>
  rw[show retS (.any,u)=if Kl u=bD then pure (.rt .loc u) else pure (.rt .any u) from rfl]at w;split at w
  .rw[aq]at w;show w c rfl h n (Kept.of B) v (Rep.Kl (by assumption) r)
  .rw[aq]at w;show w c rfl h n (Kept.of B) v r
 |bor j =>
  have⟨fl,st',e,w⟩:=w;rw[show retS (.bor j,u) c.st=match c.st[j]? with|some (a5 (.own,u))=>a5 (Ex.ok (Fl.rt .own u),c.st.set j b6)|_=>b6 from rfl]at e;split at e
  .rename_i u' I;cases e;have NA:j<c.st.length:=(dt.mp I).1;have y:∀(i:Nat) k u',(c.st.set j b6)[i]?=a5 (a5 (k,u'))->i≠j/\c.st[i]?=a5 (a5 (k,u')):=λi k u' e=>by
    by_cases J:i=j
    .subst J;rw[d5 NA]at e;cases e
    .rw[hH (nC J)]at e;show⟨J,e⟩
   have⟨v',l,A,er,q1,q2,q3,q4⟩:=h.sl j _ _ I;have L:c.σ[j]?=a5 (a5 v):=r.2;rw[L]at l;cases l;subst er;have O:∀a,({c with st:=c.st.set j b6}:Cf).R1 a->c.R1 a:=λa ⟨i,k,u2,hk,l,s⟩=>⟨i,k,u2,hk,(y i k u2 l).2,s⟩
   have hR:∀a,({c with st:=c.st.set j b6}:Cf).R a->c.R a:=λa z=>z.elim (λz=>.inl (O a z)) λ⟨i,u2,N,l,s,G⟩=>.inr ⟨i,u2,N,(y i .JS u2 l).2,s,G⟩;have Oh:MZ C {c with st:=c.st.set j b6}:=h.dd.of rfl (λi u2 e=>⟨(y i .JS u2 e).2,rfl⟩) (λa z=>.inl (O a z)) (.up λ_ z=>z) λi a z=>⟨(h.root (.inr ⟨i,z⟩)).1,λo q=>q⟩
   have Zn:Ok C {c with st:=c.st.set j b6}:=⟨h.same,h.L3,h.par,h.io,by simp[h.len],λi k u2 e=>h.sl i k u2 (y i k u2 e).2,λi Q k k' T u2 r hk KD l s G e4=>h.inj i Q k k' T u2 r hk KD (y i k T l).2 (y Q k' u2 s).2 G e4,Oh⟩
   have nn:Ns c0 {c with st:=c.st.set j b6}:=⟨n.keep,n.there,λa z=>n.roots a (hR a z),n.sub,n.new⟩
   show w {c with st:=c.st.set j b6} rfl Zn nn (Kept.of B) (.ref A) ⟨A,rfl,q3,q1,λz=>?_,q4⟩
   .rcases z with⟨i,k,u2,hk,l,s⟩|⟨i,u2,N,l,s,G⟩
    .have⟨ne,KQ⟩:=y i k u2 l;show ne (h.inj i j k .own u2 _ A hk rfl KQ I s L)
    .show h.dd.d1 i A ⟨u2,N,(y i .JS u2 l).2,s,G⟩ ⟨j,.own,_,rfl,I,L⟩
  .cases e
 |_=>show r.elim
def HE(j:PE X a (JX C ma)):L2.PS X (.Return (a5 a) pos) (KH C ns (ma >>= retS)):=by
 show PS.weak (xT j) ?_;rintro D σ H ⟨c0,rfl,rfl,i,h⟩;show aQ i h λx c v t w=>zb i t w
end
section
def lP(e:∀j,ns j=bD->j≠i)(f:Ok C c0)(t:Ml C c0 c r v)(g:i<c.σ.length)(w:W (eN i r >>= λ_=>(pure .nx:M Fl)) c.st (fF C c0 ns D)):D.nx (c0.σ.set i (a5 v)) c.H:=by
 rw[ah]at w;have⟨a,b,h,k,l,q⟩:=pK (r:=r) f t.ok t.nx g t.rx w;rw[aq]at q;have z:=q a rfl k l ⟨λj m=>by rw[b,t.hσ,hH (nC (e j m))],by rw[b,t.hσ];simp⟩;have d:D.nx a.σ a.H:=z;rw[b,h,t.hσ]at d;show d
def DV(e:∀j,ns j=bD->j≠i)(f:X.N.Nodup)(b:X.N[i]?=a5 x)(g:Loc X.env.scope x)(k:X.fn x=bD\/X.env.scope.names.lookup x=a5 .local)(l:PE X a (JX C m))
  (hs:PZ a (a5 (.Name x pos')) pos.line X.env=pure cc):L2.PS X (.Assign [.Name x pos'] a pos) (KH C ns (m >>= λr=>eN i r >>= λ_=>pure .nx)):=by
 rintro pins s σ H D I ⟨c0,rfl,rfl,d,h⟩;have n:i<c0.σ.length:=by rw[I.len];show(dt.mp b).1
 show sd f b g l hs k pins s c0.σ c0.H D I (aQ d h λr c v t w=>lP e d t (by rw[t.hσ];show n) w)
def FZ(k:∀j,ns j=bD->j≠i)(S:dQ X N own scope)(l:X.calm=bD)(m:X.N.Nodup)(e:X.N[i]?=a5 y)(o:X.env.scope.names.lookup y=a5 .local)
  (p:PI X d a (NB C ik ms)) (q:∀D s H ex,PG (K4 X N scope D s H ex) d (tG C t (gs own.length))) (u:∀D s H ex,NR (K4 X N scope D s H ex) b (Le C z)) (A:∀D s H ex,PE (K4 X N scope D s H ex) elt (JX C B))
  (G:PZ (.ListComp elt [⟨d,a,b,0⟩] scope pos) (a5 (.Name y J)) L.line X.env=pure bD) (hs:∀x,MR a X.env x=pure x) :
  L2.PS X (.Assign [.Name y J] (.ListComp elt [⟨d,a,b,0⟩] scope pos) L)
   (KH C ns ((ms >>= λrs=>aE rs >>= λ_=>M.J8 (Mc ik rs) >>= λxs=>bV own.length t z B rs xs [] >>= λus=>pure (.own,.lst us)) >>= λr=>eN i r >>= λ_=>pure .nx)):=by
 rintro pins s σ H D I ⟨c0,rfl,rfl,f,h⟩;have O:i<c0.σ.length:=by rw[I.len];show(dt.mp e).1
 show BO S l m e o p q u A G hs pins s c0.σ c0.H D I ?_;rw[ah]at h;show nW f (h.mono λr st1 w c v g Q T n rt=>?_);subst Q;show lP k f ⟨g,T,n,rt⟩ (by rw[g];show O) w
def F0(g:∀j,ns j=bD->j∉is)(i:PE X a (JX C k))(l:PG X b (tG C bD is))(hs:R' [b] a pos.line X.env=pure cc)(m:WI [b] a X.env=pure b6)(n:(Q2 [b] X.env).map (·.2)=[Tx b X.env]):
  L2.PS X (.Assign [b] a pos) (KH C ns (k >>= λr=>dG bD is r >>= λ_=>pure .nx)):=by
 show PS.weak (r_ i l hs m n) ?_;rintro D σ H ⟨c0,rfl,rfl,d,h⟩;show aQ d h λr c v t w=>?_;rw[ah]at w;show⟨c0,c,r,t.hσ,rfl,d,t.ok,t.nx,t.rx,w.mono λ_ st1 f o e p q s hl=>?_⟩;subst e;rw[aq]at f;show f o rfl p q ⟨λj u=>by rw[s j (g j u),t.hσ],by rw[hl,t.hσ]⟩
def HF(i:PT X a (Le C j))(k:Lg X ca (KH C ns f))(l:Lg X m (KH C ns g)):L2.PS X (.If a ca m pos) (KH C ns (j >>= λp=>if p=bD then f else g)):=by
 show PS.weak (G0 i k l) ?_;rintro D σ H ⟨c0,rfl,rfl,o,h⟩;show dX o h λp c b d n w=>?_;have e:c0.σ=c.σ:=b.symm;rw[e];cases p with
 |true=>rw[ť rfl]at w ⊢;show tf d n (Kept.of b) w
 |false=>rw[Ŧ i7]at w ⊢;show tf d n (Kept.of b) w
def HG(J:Ym (eH X.prog X.w) X.A X.env X.xe)(L:PT X a (Le C d))(N:Lg X body (KH C ns f)):L2.PS X (.While a body [] pos) (KH C ns (gJ d f n)):=by
 show PS.weak (xW J L N) ?_;rintro D σ H ⟨c0,rfl,rfl,O,h⟩;show⟨λm s H'=>∃c,c.H=H'/\c.σ=s/\Ok C c/\Ns c0 c/\Kept ns c0 c/\W (gJ d f m) c.st (fF C c0 ns D),⟨n,c0,rfl,rfl,O,Ns.refl c0,Kept.refl,h⟩,?_⟩;rintro m s H' ⟨c,rfl,rfl,Q,t,v,w⟩;cases m with
 |zero=>show(bw.mp w).elim
 |succ m =>
  rw[show gJ d f (m+1)=d >>= λb=>if b=bD then(f >>= λf'=>match f' with|.nx=>gJ d f m|.ct=>gJ d f m|.bk=>pure .nx|.rt k u=>pure (.rt k u)) else pure .nx from rfl]at w;show dX Q w λp j x y B g=>?_;have k2:Kept ns c j:=Kept.of x;rw[<-x];cases p with
  |false =>
   rw[Ŧ i7]at g ⊢;rw[aq]at g;show g j rfl y (t.trans B) (v.trans k2)
  |true =>
   rw[ť rfl]at g ⊢;show⟨λG I=>∃c,c.H=I/\c.σ=G/\Ok C c/\Ns c0 c/\Kept ns c0 c/\W (gJ d f m) c.st (fF C c0 ns D),λG I z=>⟨m,Pj m,z⟩,?_⟩;rw[ah]at g;show⟨j,rfl,rfl,y,g.mono λT Kr i l e o Y k3=>?_⟩;subst e;have q:=(t.trans B).trans Y;have r:=(v.trans k2).trans k3;cases T with
   |nx=>show⟨l,rfl,rfl,o,q,r,i⟩
   |ct=>show⟨l,rfl,rfl,o,q,r,i⟩
   |_=>rw[aq]at i;show i l rfl o q r
def HH(hp:Ym (eH X.prog X.w) X.A X.env X.xe)(hc:X.calm=bD)(hi:PI X tg a (NB C ik ms))(hg:PG X tg (tG C t is))(hb:Lg X body (KH C (LW q) f))(hs:∀x,MR a X.env x=pure x)
  (K7:∀j,ns j=bD->j∉is/\LW q j=bD) :
  L2.PS X (.For tg a body [] pos) (KH C ns (ms >>= λrs=>aE rs >>= λ_=>M.J8 (Mc ik rs) >>= λxs=>if uV rs is q=bD then forM t is f rs xs else M.fail)):=by
 show PS.weak (EL hp hc hi hg hb hs) ?_;rintro D σ H ⟨c0,rfl,rfl,ok,h⟩;rw[ah]at h;show⟨c0,rfl,rfl,ok,?_⟩;rw[ah];show h.mono λrs st1 r=>?_;rw[ah,cA]at r ⊢;show⟨r.1,?_⟩;have h2:=r.2;rw[ah]at h2 ⊢;show h2.mono λxs st2 s=>?_;rw[aq];intro c1 J e1 e2 J1 n1 J3 v;subst e2
 dsimp only at J3 v
 split at s
 .rename_i PB;have Vp:∀j u,(Kd.bor j,u)∈rs->j∉is/\LW q j=bD:=λj u l=>by
   have:=i8.mp PB _ l;simpa using this
  show⟨λi m d H'=>∃c,c.H=H'/\c.σ=d/\Ok C c/\Ns c1 c/\Kept ns c0 c/\lM rs c1 c/\m=xs.length - i/\i<=xs.length/\W (forM t is f rs (xs.drop i)) c.st (fF C c0 ns D),
   ⟨xs.length,c1,rfl,e1,J1,Ns.refl c1,Kept.of e1,λ_ _ _=>rfl,by simp,ke _,by simpa using s⟩,?_⟩
  rintro i m d H' ⟨c,rfl,rfl,y,n,kc,B,rfl,Lx,w⟩;by_cases G:i<xs.length
  .right
   rw[YD G,show forM t is f rs (xs[i]::xs.drop (i+1))=aE rs >>= λ_=>dG t is xs[i] >>= λ_=>f >>= λf'=>match f' with|.nx=>forM t is f rs (xs.drop (i+1))|.ct=>forM t is f rs (xs.drop (i+1))|.bk=>pure .nx|.rt k u=>pure (.rt k u) from rfl,ah,cA]at w;have⟨NC,w⟩:=w;obtain⟨I,_⟩:=v c y n B NC;have⟨Vi,Qx,Vj⟩:=I i xs[i] (by simp[G]);show⟨Qx,λd H'=>∃c,c.H=H'/\c.σ=d/\Ok C c/\Ns c1 c/\Kept ns c0 c/\lM rs c1 c/\W (forM t is f rs (xs.drop (i+1))) c.st (fF C c0 ns D),λd H' ⟨c',z1,z2,z3,z4,z5,z6,z7⟩=>⟨xs.length - (i+1),⋯,c',z1,z2,z3,z4,z5,z6,rfl,G,z7⟩,λx H' hy=>?_⟩;have⟨g,rfl,o,e5,Ke,n2,rt⟩:=Vj x H' hy;rw[ah]at w;have Zo:aT C g g xs[i].1 xs[i].2 x:=by
    rcases Vi with z|z
    .rw[z]at rt ⊢;show rt
    .rw[z]at rt ⊢;show rt
   show⟨g,g,xs[i],o,rfl,Ke,Ke,Nx.refl g,Zo,?_⟩;rw[e5];show w.mono λ_ Kr w3 c3 e6 MC n3 WZ Qy=>?_;subst e6;rw[ah]at w3;show⟨c3,rfl,rfl,MC,w3.mono λfl Qe p b e L n4 N=>?_⟩;subst e;have O:Ns c1 b:=((n.trans n2.toNs).trans n3.toNs).trans n4;have Q:Kept ns c0 b:=by
    show kc.trans ⟨λj hj=>?_,by rw[N.2,Qy,o]⟩;have⟨T,Y⟩:=K7 j hj;rw[N.1 j Y,WZ j T,o]
   have W0:lM rs c1 b:=λj u l=>by
    have⟨T,Y⟩:=Vp j u l;rw[N.1 j Y,WZ j T,o];show B j u l
   cases fl with
   |nx=>show⟨b,rfl,rfl,L,O,Q,W0,p⟩
   |ct=>show⟨b,rfl,rfl,L,O,Q,W0,p⟩
   |_=>rw[aq]at p;show p b rfl L (n1.toNs.trans O) Q
  .left
   have Zp:i=xs.length:=by lia
   subst Zp;rw[ú,show forM t is f rs []=aE rs >>= λ_=>pure .nx from rfl,ah,cA,aq]at w;obtain⟨_,I⟩:=v c y n B w.1;show⟨I _ (hV _),w.2 c rfl y (n1.toNs.trans n) kc⟩
 .show(bw.mp s).elim
end
section
def Ok.mod(b:Ok C c)(n:Ns c0 c)(hk:k.root=bD)(y:c.st[i]?=a5 (a5 (k,u)))(D:c.σ[i]?=a5 (a5 (.ref r)))(KS:∀a,a≠r->H' a=c.H a)(hr:∃o,H' r=a5 o)
  (new:Mv c.S c.H c.S H'->c6 C c.S H' r u'):Ok C {c with H:=H',st:=c.st.set i (a5 (k,u'))}/\Ns c0 {c with H:=H',st:=c.st.set i (a5 (k,u'))}:=by
 have Mk:c.R1 r:=⟨i,k,u,hk,y,D⟩
 have hR:c.R r:=.inl Mk;have⟨I,q2,q3,o,ho,PD⟩:=b.root hR;have J:i<c.st.length:=(dt.mp y).1;have m:∀{a:d8} {o':HO},a≠r->c.H a=a5 o'->H' a=a5 o':=λne e=>by rw[KS _ ne];show e
 have G:Mv c.S c.H c.S H':=⟨λ_ z=>z,λa o' e t=>m (λz=>by subst z;rw[ho]at e;cases e;show PD t) e,λa o' z e=>m (λd=>I (d▸z)) e⟩
 have Oa:Mv (PS C c.S) c.H (PS C c.S) H':=⟨λ_ z=>z,G.Qp,λa o' z e=>m (λd=>by subst d;show z.elim q2 I) e⟩
 have L:∀(j:Nat) k' w,(c.st.set i (a5 (k,u')))[j]?=a5 (a5 (k',w))->j≠i->c.st[j]?=a5 (a5 (k',w)):=λj k' w e ne=>by rw[hH (nC ne)]at e;show e
 have f:∀(j:Nat) k' w,k'.root=bD->(c.st.set i (a5 (k,u')))[j]?=a5 (a5 (k',w))->∃N,c.st[j]?=a5 (a5 (k',N)):=λj k' w _ e=>by
  by_cases p:j=i
  .subst p;rw[d5 J]at e;cases e;show⟨u,y⟩
  .show⟨w,L j k' w e p⟩
 have b1:∀a,({c with H:=H',st:=c.st.set i (a5 (k,u'))}:Cf).R1 a->c.R1 a:=λa J_=>by
  have⟨j,k',w,g,h,l⟩:=J_;have⟨N,O⟩:=f j k' w g h;show⟨j,k',N,g,O,l⟩
 have dD:∀(j:Nat) (w:U),(c.st.set i (a5 (k,u')))[j]?=a5 (a5 (.JS,w))->c.st[j]?=a5 (a5 (.JS,w)):=λj w e=>by
  by_cases p:j=i
  .subst p;rw[d5 J]at e;cases e;cases hk
  .show L j .JS w e p
 have Oh:MZ C {c with H:=H',st:=c.st.set i (a5 (k,u'))}:=b.dd.of rfl (λj w e=>⟨dD j w e,rfl⟩) (λa z=>.inl (b1 a z)) G λj a z=>⟨(b.root (.inr ⟨j,z⟩)).1,λo' e=>m (λd=>b.dd.d1 j a z (d▸Mk)) e⟩
 show⟨⟨λa o' e z=>?_,λa z=>?_,b.par,λa z=>?_,by simp[b.len],λj k' w e=>?_,λj1 j2 k1 k2 w1 w2 q g s h l Q e4=>?_,Oh⟩,n.trans ⟨λa o' e z=>m (λd=>z (d▸hR)) e,λa o' e=>?_,λa z=>?_,λ_ z=>z,λ_ z=>.inl z⟩⟩
 .have g:=b.same a o' e z;show m (λd=>?_) g;subst d;rcases q3 with q3|q3
  .rw[e]at q3;cases q3
  .show z q3
 .have⟨g,o',s⟩:=b.L3 a z;show⟨g,o',m (λd=>I (d▸z)) s⟩
 .have⟨g,o',s⟩:=b.io a z;show⟨g,?_⟩;by_cases A:a=r
  .subst A;show hr
  .show⟨o',m A s⟩
 .by_cases p:j=i
  .subst p;rw[d5 J]at e;cases e;have⟨v,h,l⟩:=b.sl j _ _ y;rw[D]at h;cases h;show⟨.ref r,D,?_⟩;have nr:=new G;cases k with
   |own=>obtain⟨q,x,B,T,Y,_⟩:=l;cases x;show⟨r,rfl,B,T,Y,nr⟩
   |io=>obtain⟨q,x,B,T,Y,_⟩:=l;cases x;show⟨r,rfl,B,T,Y,nr⟩
   |_=>cases hk
  .have e0:=L j k' w e p;have⟨v,h,l⟩:=b.sl j k' w e0;show⟨v,h,l.mv G Oa λKD q x=>?_⟩;obtain⟨Ru,LB,B,_⟩:=l.rt KD;rw[x]at LB;cases LB;show⟨B,λo' e=>m (λz=>?_) e⟩;subst z;show p (b.inj j i k' k w u q KD hk e0 y (by rw[h,x]) D)
 .have⟨SQ,O⟩:=f j1 k1 w1 g h;have⟨W2,a2⟩:=f j2 k2 w2 s l;show b.inj j1 j2 k1 k2 SQ W2 q g s O a2 Q e4
 .by_cases A:a=r
  .subst A;show hr
  .show⟨o',m A e⟩
 .rcases z with z|⟨j,w,q,h,l,Q⟩
  .show .inl (.inl (b1 a z))
  .show .inl (.inr ⟨j,w,q,dD j w h,l,Q⟩)
def gB{f:U->Option U}{st:aw}(h:W (modS i f) st Q):∃k u u',k.root=bD/\st[i]?=a5 (a5 (k,u))/\f u=a5 u'/\Q () (st.set i (a5 (k,u'))):=by
 obtain⟨_,st',e,q⟩:=h;unfold modS at e;split at e
 .rename_i k u hs;split at e
  .rename_i hk;cases a:f u with
   |none=>rw[a]at e;cases e
   |some u'=>rw[a]at e;cases e;show⟨k,u,u',hk,hs,a,q⟩
  .cases e
 .cases e
def dn{st:aw}(h:W (dC i) st Q):∃k u,k≠.JS/\st[i]?=a5 (a5 (k,u))/\Q (if k.root=bD then .bor i else k,u) st:=by
 have⟨r,st',e,q⟩:=h;unfold dC at e;split at e
 .cases e
 .rename_i k u a hs;cases e;show⟨k,u,λz=>a z,hs,q⟩
 .cases e
def HI(T:C.K=X.K)(Y:X.N[i]?=a5 x)(hv:LJ X.env.scope x)(hd:(x==("__debug__":Str))=cc)(Kk:(x==("__classdict__":Str))=cc)(ha:PE X a (JX C ma))
  (K_:((Kg g (hZ [a] X.env)).all (λx=>!x.1)&&(Rw g (MN [] X.env)).all (λx=>x.1.isSome)
   && cK ([a].length+([]:List O6).length+(if ([]:List O6).isEmpty then 0 else 1)<30))=bD)
  (J6:(b.endLine==g.line)=bD) (o:hZ [a] X.env=[(cc,ve a X.env)]) :
  L2.PS X (.Expr (.Call (.Attribute (.Name x px) "append" b) [a] [] g) pos) (KH C ns (dC i >>= λx=>Of x.2 >>= λ_=>ma >>= λr=>lift r >>= λu=>modS i (yS u) >>= λ_=>pure .nx)):=by
 show PS.weak (kK (nz PySem.F.plainAttrs_list PySem.F.slot_list_append PySem.F.type_list_append nB (bT Y hv hd Kk) (cX ha fi o) rfl K_ J6 o rfl)) ?_;rintro D σ H ⟨c0,rfl,rfl,f,h⟩;rw[ah]at h;have⟨k0,p,M4,s,h⟩:=dn h;have⟨y,l,m⟩:=f.sl i k0 p s;show⟨y,l,?_⟩;cases p with
 |lst A =>
  rw[ah,show Of (U.lst A)=pure () from rfl,aq]at h;have Rz:aT C c0 c0 (if k0.root=bD then .bor i else k0) (.lst A) y:=by
   by_cases hk:k0.root=bD
   .rw[ť hk];show⟨⟨k0,hk,s⟩,l⟩
   .rw[Ŧ hk];cases k0 with
    |loc=>show m
    |any=>show m
    |bor j=>show m.elim
    |JS=>show(M4 rfl).elim
    |_=>show absurd rfl hk
  obtain⟨a0,O_,n,Qb,_⟩:=Rz.list f;show⟨by rw[n];show .inl ⟨rfl,O_,T▸Qb⟩,?_⟩;show aQ f h λr c v t w=>?_;rw[ah]at w;obtain⟨S',st',u,sS,B,n1,d,G,_,_⟩:=iR f t.ok t.nx t.rx.w w;rw[ah]at G;have⟨k,u1,u2,hk,hs,e,q⟩:=gB G;have I:c.σ[i]?=a5 (a5 (.ref a0)):=by rw[t.hσ,l,n]
  cases u1 with
  |lst J =>
   simp only[yS]at e;split at e
   .rename_i hz;cases e;have⟨v',e1,e2⟩:=B.sl i k (.lst J) hs;have L:c.σ[i]?=a5 (a5 v'):=e1;rw[I]at L;cases L;obtain⟨r',er,_,_,_,ws,hw,O⟩:=e2.rt hk;cases er;have SR:c.H a0=a5 (.lst ws):=hw;show⟨a0,ws,v,n,rfl,SR,by rw[<-O.len];show hz,?_⟩;rw[aq]at q;have⟨Ke,n2⟩:=Ok.mod (c:={c with S:=S',st:=st' }) (H':=upd c.H a0 (.lst (ws++[v]))) (u':=.lst (J++[u])) B n1.toNs hk hs I (λa ne=>ak ne) ⟨_,ax⟩ λQ=>⟨ws++[v],ax,(O.mv Q).snoc (d.mv Q)⟩
    have z:=q _ rfl Ke n2 (Kept.of t.hσ);rw[<-t.hσ];show z
   .cases e
  |_=>cases e
 |_=>rw[ah]at h;show(bw.mp h).elim
def HJ(A:C.K=X.K)(hN:X.N[i]?=a5 x)(hv:LJ X.env.scope x)(hd:(x==("__debug__":Str))=cc)(Kk:(x==("__classdict__":Str))=cc)(ha:PE X a (JX C ma))
  (K_:((Kg l (hZ [a] X.env)).all (λx=>!x.1)&&(Rw l (MN [] X.env)).all (λx=>x.1.isSome)
   && cK ([a].length+([]:List O6).length+(if ([]:List O6).isEmpty then 0 else 1)<30))=bD)
  (J6:(g.endLine==l.line)=bD) (B:hZ [a] X.env=[(cc,ve a X.env)]) :
  L2.PS X (.Expr (.Call (.Attribute (.Name x px) "extend" g) [a] [] l) pos) (KH C ns (dC i >>= λx=>Of x.2 >>= λ_=>ma >>= λr=>modS i (lJ r) >>= λ_=>pure .nx)):=by
 show PS.weak (kK (nz PySem.F.plainAttrs_list PySem.F.slot_list_extend PySem.F.type_list_extend sM (bT hN hv hd Kk) (cX ha fi B) rfl K_ J6 B rfl)) ?_;rintro D σ H ⟨c0,rfl,rfl,m,h⟩;rw[ah]at h;have⟨k0,G,M4,I,h⟩:=dn h;have⟨J,n,o⟩:=m.sl i k0 G I;show⟨J,n,?_⟩;cases G with
 |lst L =>
  rw[ah,show Of (U.lst L)=pure () from rfl,aq]at h;have Rz:aT C c0 c0 (if k0.root=bD then .bor i else k0) (.lst L) J:=by
   by_cases hk:k0.root=bD
   .rw[ť hk];show⟨⟨k0,hk,I⟩,n⟩
   .rw[Ŧ hk];cases k0 with
    |loc=>show o
    |any=>show o
    |bor j=>show o.elim
    |JS=>show(M4 rfl).elim
    |_=>show absurd rfl hk
  obtain⟨a0,O_,p,Qb,_⟩:=Rz.list m;show⟨by rw[p];show .inl ⟨rfl,O_,A▸Qb⟩,?_⟩;show aQ m h λr c v t w=>?_;rw[ah]at w;have⟨k,s,u2,hk,hs,d,q⟩:=gB w;have O:c.σ[i]?=a5 (a5 (.ref a0)):=by rw[t.hσ,n,p]
  have⟨rk,ru⟩:=r;have key:∃e f b vs,s=.lst e/\v=.ref b/\(Ko C.K c.H b vs\/KA C.K c.H b vs)/\au C c.S c.H f vs/\e.length+f.length<=cL/\u2=.lst (e++f):=by
   cases ru with
   |lst f =>
    cases s with
    |lst e =>
     simp only[lJ]at d;split at d
     .rename_i hz;cases d;have⟨b,vs,ev,u,y⟩:=t.rx.list t.ok;show⟨_,_,b,vs,rfl,ev,.inl u,eZ hz.2 y,hz.1,rfl⟩
     .cases d
    |_=>simp[lJ]at d
   |tup f =>
    cases s with
    |lst e =>
     simp only[lJ]at d;split at d
     .rename_i hz;cases d;have⟨b,vs,ev,u,y⟩:=t.rx.tuple t.ok;show⟨_,_,b,vs,rfl,ev,.inr u,eZ hz.2 y,hz.1,rfl⟩
     .cases d
    |_=>simp[lJ]at d
   |_=>simp[lJ]at d
  have⟨e,f,b,vs,rfl,rfl,hB,hz,hl,rfl⟩:=key;have⟨v',Q,e2⟩:=t.ok.sl i k (.lst e) hs;rw[O]at Q;cases Q;obtain⟨r',er,_,_,_,ws,hw,T⟩:=e2.rt hk;cases er;show⟨a0,b,ws,vs,p,rfl,hw,A▸hB,by rw[<-T.len,<-hz.len];show hl,?_⟩;rw[aq]at q;have⟨Ke,n2⟩:=Ok.mod (c:=c) (H':=upd c.H a0 (.lst (ws++vs))) (u':=.lst (e++f)) t.ok t.nx.toNs hk hs O (λa ne=>ak ne) ⟨_,ax⟩ λY=>⟨ws++vs,ax,(T.mv Y).append (hz.mv Y)⟩
  have z:=q _ rfl Ke n2 (Kept.of t.hσ);rw[<-t.hσ];show z
 |_=>rw[ah]at h;show(bw.mp h).elim
def oO.or(h:oO X t)(h':oO X t'):oO X (λo i v H Q=>t o i v H Q\/t' o i v H Q):=λpins s σ H o i v a b u Q I c d e q =>
 q.elim (h pins s σ H o i v a b u Q I c d e) (h' pins s σ H o i v a b u Q I c d e)
def set_dict(b:X.A.units+1<Mg):oO X (λo i v H Q=>∃a H',o=.ref a/\wt H a i v H'/\Q H'):=by
 rintro pins s σ H o i v f h u Q I c d rv ⟨a,H',rfl,g,q⟩;cases c;show wy b I g d rv λs' e=>⟨H',e,q⟩
def zc{S:d8->Prop}{kvs:List (Key×V)}(a:kvs.map (·.1)=ks.map mu)(c:au C S H us (kvs.map (·.2)))(d:Rep C S H u v):
  (putK kvs (mu y) v).map (·.1)=(dput ks us y u).1.map mu/\au C S H (dput ks us y u).2 ((putK kvs (mu y) v).map (·.2)):=by
 have e:(kvs.any λkv=>cK (kv.1=(mu y:Key)))=cK (y∈ks):=by
  rw[iD];show(dO (x:=y) a c).2
 unfold putK dput;rw[e];by_cases b:y∈ks
 .rw[ť (by simpa using b),ť b];constructor
  .rw[i6];rw[<-a];apply t8;intro p _;change(if p.1=mu y then(p.1,v) else p).1=p.1;split<;>rfl
  .clear e b;induction kvs generalizing ks us with
   |nil =>
    have:ks=[]:=by simpa using a.symm
    subst this;simp[au]
   |cons p kvs g =>
    cases ks with
    |nil=>simp at a
    |cons k ks =>
     cases us with
     |nil=>simp[au]at c
     |cons j us =>
      rw[d4,d4,Ro]at a;have⟨l,m,f,h,i⟩:=c;rw[d4]at f;cases f;rw[d4,P7,d4,d4];show⟨_,_,rfl,?_,g a.2 i⟩;by_cases hk:k=y
      .rw[ť (by show hk),ť (by rw[a.1,hk])];show d
      .rw[Ŧ (by show hk),Ŧ (by rw[a.1];intro z;show hk (Wq z))];show h
 .rw[Ŧ (by simpa using b),Ŧ b];show⟨by rw[i3,a,i3];rfl,by rw[i3];show c.snoc d⟩
def HK(hP:C.P=X.prog)(hw:C.w=X.w)(hK:C.K=X.K)(hu:X.A.units+60<Mg)(hN:X.N[i]?=a5 x)(hv:LJ X.env.scope x)(hd:(x==("__debug__":Str))=cc)(Kk:(x==("__classdict__":Str))=cc)
  (ha:PE X a (JX C ma)) (hb:PE X b (JX C mb)) (hs:R' [.Subscript (.Name x B) b p] a pos.line X.env=pure cc) (Vs:WI [.Subscript (.Name x B) b p] a X.env=pure b6)
  (O:∀v,Tx (.Subscript (.Name x B) b p) X.env v=(do
   let G <-NJ [v] (ve (.Name x B) X.env)
   let Q <-NJ [v,G] (ve b X.env)
   Zc p
   NJ [v,G,Q] (U3 G Q v)
   Xv [v,G,Q] [])) :
  L2.PS X (.Assign [.Subscript (.Name x B) b p] a pos) (KH C ns (ma >>= λr=>dC i >>= λ_=>mb >>= λx=>c7 [r,x] >>= λus=>modS i (uU us) >>= λ_=>pure .nx)):=by
 show PS.weak (r_ ha (xV (bT hN hv hd Kk) hb (oO.or set_list (set_dict (X:=X) ⋯)) O) hs Vs rfl) ?_;rintro D σ H ⟨c0,rfl,rfl,ok,h⟩;show aQ ok h λr c v t w=>?_;rw[ah]at w;have⟨k0,u0,M4,Lv,w⟩:=dn w;have⟨v0,e0,MP⟩:=t.ok.sl i k0 u0 Lv;show⟨v0,by rw[<-t.hσ];show e0,?_⟩;rw[ah]at w;show⟨c,t.hσ,rfl,t.ok,w.mono λy st2 w2 f m I e4 Ke n2 r2=>?_⟩;subst e4;rw[ah]at w2;have Vt:=t.nx.trans n2;have T:cQ C c0 f [r,y] [v,m]:=⟨v,[m],rfl,t.rx.w.on t.ok n2 (I.trans t.hσ.symm),⟨m,[],rfl,(r2.w).from t.nx,rfl,λ_ i r' Y e _=>by simp at e⟩,λhk i r' Y e5 e6 KD=>by
  cases i with
  |zero=>simp at e5 e6;subst e5 e6;show lK t.rx.w r2.w hk KD
  |succ i=>simp at e5⟩
 have⟨S',st',us,sS,J1,n1,g,w1⟩:=iS ok Ke Vt T w2;rw[ah]at w1;have⟨k,J,u2,hk,L0,d,q⟩:=gB w1;rw[aq]at q;have hσ:f.σ[i]?=a5 (a5 v0):=by rw[I,<-t.hσ];show e0
 have⟨Y,e1,e2⟩:=J1.sl i k J L0;have KQ:f.σ[i]?=a5 (a5 Y):=e1;rw[hσ]at KQ;cases KQ;have⟨a0,er,z1,z2,z3,l⟩:=e2.rt hk;subst er;have Zq:({f with S:=S',st:=st' }:Cf).σ[i]?=a5 (a5 (.ref a0)):=hσ;obtain⟨SQ,ws,ew,W3,W2,ab,ac,W4,Zr⟩:∃u ws,us=[u,ws]/\Rep C S' f.H u v/\∃(_:Unit) (_:Unit),True/\Rep C S' f.H ws m/\True:=by
  cases us with
  |nil=>simp[au]at g
  |cons u us =>
   obtain⟨_,_,e,q1,q2⟩:=g;cases e;cases us with
   |nil=>simp[au]at q2
   |cons u' us =>
    obtain⟨_,_,e,q3,q4⟩:=q2;cases e;cases us with
    |nil=>show⟨u,u',rfl,q1,(),(),trivial,q3,trivial⟩
    |cons _ _=>obtain⟨_,_,e,_⟩:=q4;cases e
 subst ew;rw[show uU [SQ,ws] J=eE ws SQ J from rfl]at d;have n:∀{H':Hp} ,(∀a,a≠a0->H' a=f.H a)->(∃o,H' a0=a5 o)->(Mv S' f.H S' H'->c6 C S' H' a0 u2)->D.nx c0.σ H':=λ{H'} KS hr new=>by
  have⟨MC,n3⟩:=Ok.mod (c:={f with S:=S',st:=st' }) (H':=H') (u':=u2) J1 n1.toNs hk L0 Zq KS hr new;have z:=q _ rfl MC n3 (Kept.of I);rw[<-I];show z
 cases J with
 |lst xs =>
  cases ws with
  |int j =>
   simp only[eE,et]at d;have⟨j',hj,rfl⟩:=d;have⟨vs,h1,s⟩:=l;have ey:m=.int j:=W4;show .inl ⟨a0,vs,j,j',rfl,ey,h1,by rw[<-s.len];show hj,?_⟩;show n (λa ne=>ak ne) ⟨_,ax⟩ λL=>⟨vs.set j' v,ax,(s.mv L).set j' (W3.mv L)⟩
  |_=>simp[eE]at d
 |JU ks vs =>
  cases ws with
  |str y' =>
   simp only[eE]at d;split at d
   .rename_i hz;cases d;have⟨kvs,h1,s,h3⟩:=l;have ey:m=.str y':=W4;subst ey;have hl:kvs.length=ks.length:=by have:=Ū C0 s;simpa using this
    show .inr ⟨a0,_,rfl,wt.k (k:=mu y') h1 (by rw[hl];show hz),?_⟩;show n (λa ne=>ak ne) ⟨_,ax⟩ λL=>?_;have⟨g1,g2⟩:=zc (y:=y') s h3 W3;show⟨_,ax,g1,g2.mv L⟩
   .cases d
  |_=>simp[eE]at d
 |_=>simp[eE]at d
def Ok.slot(d:Ok C c)(e:k≠.JS)(hs:c.st[i]?=a5 (a5 (k,u))):∃v,c.σ[i]?=a5 (a5 v)/\aT C c c (if k.root=bD then .bor i else k) u v:=by
 have⟨f,b,a⟩:=d.sl i k u hs;show⟨f,b,?_⟩;by_cases hk:k.root=bD
 .rw[ť hk];show⟨⟨k,hk,hs⟩,b⟩
 .rw[Ŧ hk];cases k with
  |loc=>show a
  |any=>show a
  |bor j=>show a.elim
  |JS=>show(e rfl).elim
  |_=>show absurd rfl hk
end
end TM
namespace TM
open PySem L2 PyProof.Rows PySem.W
section
def HL(c:X.calm=bD)(d:Gl X x)(f:X.mg x=a5 (.ref b))(g:(x==("__debug__":Str))=cc)(i:excIn X.K b Qo "ValueError.__new__"=bD)(j:PE X a (JX C k))(l:hZ [a] X.env=[(cc,ve a X.env)])
  (m:∀H',C.xw (.str x) H'->∀pins σ s e s',Inv X pins σ H' s->cj X.prog X.w X.stack H' s e b b6 .none H' s'->X.xe (.ref e) s'):L2.PS X (.Raise (a5 (.Call (.Name x p) [a] [] q)) b6 pos) (KH C ns (k >>= λ_=>pure (.rt .io (.str x)))):=by
 show PS.weak (yI c d f g i j l) ?_;rintro D σ H ⟨c0,rfl,rfl,n,h⟩;show aQ n h λx o v t w=>?_;rw[aq]at w;show λpins s e s' I F=>m _ (w o rfl t.ok t.nx (Kept.of t.hσ)) pins _ s e s' I F
def Ok.kill(d:Ok C c)(n:c.st[j]?=a5 b6):Ok C {c with σ:=c.σ.set j b6}/\Nx c {c with σ:=c.σ.set j b6}:=by
 have ne:∀(i:Nat) (r:Kd×U),c.st[i]?=a5 (a5 r)->(c.σ.set j b6)[i]?=c.σ[i]?:=λi r e=>hH λz=>by subst z;rw[n]at e;cases e
 have l:∀a,({c with σ:=c.σ.set j b6}:Cf).R1 a->c.R1 a:=λa ⟨i,k,u,hk,b,f⟩=>⟨i,k,u,hk,b,(ne i _ b)▸f⟩
 have p:MZ C {c with σ:=c.σ.set j b6}:=d.dd.of rfl (λi u e=>⟨e,ne i _ e⟩) (λa z=>.inl (l a z)) (.up λ_ z=>z) λi a z=>⟨(d.root (.inr ⟨i,z⟩)).1,λo q=>q⟩
 show⟨⟨d.same,d.L3,d.par,d.io,by simp[d.len],λi k u e=>?_,λi m k k' u u' r hk s b f g t=>?_,p⟩,⟨⟨λ_ _ h _=>h,λ_ o h=>⟨o,h⟩,λa z=>.inl ?_,λ_ h=>h,λ_ h=>.inl h⟩,λa ⟨i,u,r,b,f,g⟩=>⟨⟨i,u,r,b,(ne i _ b)▸f,g⟩,λ_ e=>e⟩⟩⟩
 .have⟨v,q,z⟩:=d.sl i k u e;show⟨v,(ne i _ e).trans q,z⟩
 .show d.inj i m k k' u u' r hk s b f ((ne i _ b)▸g) ((ne m _ f)▸t)
 .show z.imp (l a) λ⟨i,u,r,b,f,g⟩=>⟨i,u,r,b,(ne i _ b)▸f,g⟩
end
end TM
namespace TM
open PySem L2 PyProof.Rows
section
def Ok.HM(d:Ok C c)(n:Ns c0 c)(O:c.st[i]?=a5 (a5 (.JS,u)))(B:c.σ[i]?=a5 (a5 (.ref r)))(KS:∀a,¬c.RD i a->H' a=c.H a)(Q:∀a o,c.H a=a5 o->∃o',H' a=a5 o')
  (new:Mv c.S c.H c.S H'->cD C c.S H' r as' u') (T:∀a∈as',a∈c.kid i\/(¬c.R a/\c0.H a=b6)) :
  Ok C {c with H:=H',st:=c.st.set i (a5 (.JS,u')),kid:=λj=>if j=i then as' else c.kid j}/\Ns c0 {c with H:=H',st:=c.st.set i (a5 (.JS,u')),kid:=λj=>if j=i then as' else c.kid j}:=by
 have Y:i<c.st.length:=(dt.mp O).1;have rt:∀{a},c.RD i a->¬c.S a/\¬C.Mu a/\(C.H₀ a=b6\/C.IO a)/\∃o,c.H a=a5 o/\¬Tp o:=λz=>d.root (.inr ⟨i,z⟩);have h0:∀{a},c.RD i a->C.H₀ a=b6:=λ⟨u1,r1,g,b,e3⟩=>(cD.fr (d.dd.kd i u1 r1 g b) _ (d7.mpr e3)).2.2;have q:∀{a:d8} {o:HO},¬c.RD i a->c.H a=a5 o->H' a=a5 o:=λz e=>by rw[KS _ z];show e
 have N:Mv c.S c.H c.S H':=⟨λ_ z=>z,λa o e t=>q (λz=>by
  obtain⟨_,_,_,o',l,nt⟩:=rt z;rw[e]at l;cases l;show nt t) e,λa o z e=>q (λm=>(rt m).1 z) e⟩
 have Oa:Mv (PS C c.S) c.H (PS C c.S) H':=⟨λ_ z=>z,N.Qp,λa o z e=>q (λm=>z.elim (rt m).2.1 (rt m).1) e⟩
 have D:∀(j:Nat) k w,(c.st.set i (a5 (.JS,u')))[j]?=a5 (a5 (k,w))->j≠i->c.st[j]?=a5 (a5 (k,w)):=λj k w e ne=>by rw[hH (nC ne)]at e;show e
 have PF:∀(j:Nat) k w,k.root=bD->(c.st.set i (a5 (.JS,u')))[j]?=a5 (a5 (k,w))->c.st[j]?=a5 (a5 (k,w)):=λj k w hk e=>by
  by_cases f:j=i
  .subst f;rw[d5 Y]at e;cases e;cases hk
  .show D j k w e f
 have b1:∀a,({c with H:=H',st:=c.st.set i (a5 (.JS,u')),kid:=λj=>if j=i then as' else c.kid j}:Cf).R1 a->c.R1 a:=λa ⟨j,k,w,hk,g,b⟩=>⟨j,k,w,hk,PF j k w hk g,b⟩
 have G:∀j a,({c with H:=H',st:=c.st.set i (a5 (.JS,u')),kid:=λj=>if j=i then as' else c.kid j}:Cf).RD j a->c.RD j a\/(j=i/\¬c.R a/\c0.H a=b6):=λj a J_=>by
  have⟨w,h,g,b,e3⟩:=J_;by_cases f:j=i
  .subst f;have I:c.σ[j]?=a5 (a5 (.ref h)):=b;rw[B]at I;cases I;rcases e3 with rfl|e3
   .show .inl ⟨u,_,O,B,.inl rfl⟩
   .have ON:a∈as':=by simpa using e3
    rcases T a ON with z|z
    .show .inl ⟨u,_,O,B,.inr z⟩
    .show .inr ⟨rfl,z⟩
  .have ON:a=h\/a∈c.kid j:=by simpa[f] using e3
   show .inl ⟨w,h,D j _ w g f,b,ON⟩
 show⟨⟨λa o e z=>q (λm=>by rw[h0 m]at e;cases e) (d.same a o e z),λa z=>?_,d.par,λa z=>?_,by simp[d.len],λj k w e=>?_,λx s k1 k2 w1 w2 h h1 h2 g b e3 e4=>d.inj x s k1 k2 w1 w2 h h1 h2 (PF x k1 w1 h1 g) (PF s k2 w2 h2 b) e3 e4,⟨λj w h g b=>?_,λx s a J L=>?_,λj a J L=>?_⟩⟩,⟨λa o e z=>?_,λa o e=>?_,λa z=>?_,n.sub,n.new⟩⟩
 .have⟨q1,o,q2⟩:=d.L3 a z;show⟨q1,Q a o q2⟩
 .have⟨q1,o,q2⟩:=d.io a z;show⟨q1,Q a o q2⟩
 .by_cases f:j=i
  .subst f;rw[d5 Y]at e;cases e;show⟨.ref r,B,r,rfl⟩
  .have⟨v,g,b⟩:=d.sl j k w (D j k w e f);show⟨v,g,b.mv N Oa λhk h er=>?_⟩;obtain⟨Ru,LB,J,_⟩:=b.rt hk;rw[er]at LB;cases LB;show⟨J,λo l=>q (λz=>d.dd.d1 i h z ⟨j,k,w,hk,D j k w e f,by rw[g,er]⟩) l⟩
 .by_cases f:j=i
  .subst f;rw[d5 Y]at g;cases g;have I:c.σ[j]?=a5 (a5 (.ref h)):=b;rw[B]at I;cases I;have z:=new N;simpa using z
  .have KQ:=D j _ w g f;have KD:(if j=i then as' else c.kid j)=c.kid j:=Ŧ f;change cD C c.S H' h (if j=i then as' else c.kid j) w;rw[KD];show cD.mv N (λa ha=>⟨(d.root (.inr ⟨j,w,h,KQ,b,d7.mp ha⟩)).1,λo l=>q (λz=>f (d.dd.dj j i a ⟨w,h,KQ,b,d7.mp ha⟩ z)) l⟩) (d.dd.kd j w h KQ b)
 .rcases G x a J with p|⟨rfl,p,_⟩
  .rcases G s a L with A|⟨rfl,A,_⟩
   .show d.dd.dj x s a p A
   .show(A (.inr ⟨x,p⟩)).elim
  .rcases G s a L with A|⟨rfl,A,_⟩
   .show(p (.inr ⟨s,A⟩)).elim
   .rfl
 .rcases G j a J with p|⟨rfl,p,_⟩
  .show d.dd.d1 j a p (b1 a L)
  .show p (.inl (b1 a L))
 .show q (λm=>by
   rcases n.roots a (.inr ⟨i,m⟩) with y|y
   .show z y
   .rw[e]at y;cases y) (n.keep a o e z)
 .have⟨o',l⟩:=n.there a o e;show Q a o' l
 .rcases z with z|⟨j,z⟩
  .show n.roots a (.inl (b1 a z))
  .rcases G j a z with y|⟨_,_,y⟩
   .show n.roots a (.inr ⟨j,y⟩)
   .show .inr y
def Ok.newD(l:Ok C c)(B:c.H p=b6)(u:i<c.σ.length):
  Ok C {c with H:=upd c.H p (.dK []),σ:=c.σ.set i (a5 (.ref p)),st:=c.st.set i (a5 (.JS,.JU [] [])),kid:=λj=>if j=i then [] else c.kid j}/\Ns c {c with H:=upd c.H p (.dK []),σ:=c.σ.set i (a5 (.ref p)),st:=c.st.set i (a5 (.JS,.JU [] [])),kid:=λj=>if j=i then [] else c.kid j}:=by
 have⟨n,Q⟩:=l.lay (o:=.dK []) B;have⟨q1,q2,q3,q4,D⟩:=l.kC B;have G:i<c.st.length:=by rw[l.len];show u
 have x:∀(j:Nat) k w,(c.st.set i (a5 (.JS,.JU [] [])))[j]?=a5 (a5 (k,w))->j≠i->c.st[j]?=a5 (a5 (k,w)):=λj k w e ne=>by rw[hH (nC ne)]at e;show e
 have q:∀(j:Nat),j≠i->(c.σ.set i (a5 (.ref p)))[j]?=c.σ[j]?:=λj ne=>hH (nC ne);have I:∀(j:Nat) k w,k.root=bD->(c.st.set i (a5 (.JS,.JU [] [])))[j]?=a5 (a5 (k,w))->j≠i/\c.st[j]?=a5 (a5 (k,w)):=λj k w hk e=>by
  by_cases b:j=i
  .subst b;rw[d5 G]at e;cases e;cases hk
  .show⟨b,x j k w e b⟩
 have b1:∀a,({c with H:=upd c.H p (.dK []),σ:=c.σ.set i (a5 (.ref p)),st:=c.st.set i (a5 (.JS,.JU [] [])),kid:=λj=>if j=i then [] else c.kid j}:Cf).R1 a->c.R1 a:=λa J=>by
  have⟨j,k,w,hk,d,f⟩:=J;have⟨b,L⟩:=I j k w hk d;show⟨j,k,w,hk,L,by rw[<-q j b];show f⟩
 have r:∀j a,({c with H:=upd c.H p (.dK []),σ:=c.σ.set i (a5 (.ref p)),st:=c.st.set i (a5 (.JS,.JU [] [])),kid:=λj=>if j=i then [] else c.kid j}:Cf).RD j a->(j≠i/\c.RD j a)\/(j=i/\a=p):=λj a J=>by
  have⟨w,g,d,f,e3⟩:=J;by_cases b:j=i
  .subst b;have s:(c.σ.set j (a5 (.ref p)))[j]?=a5 (a5 (.ref g)):=f;rw[d5 u]at s;cases s;rcases e3 with rfl|e3
   .show .inr ⟨rfl,rfl⟩
   .simp at e3
  .have ON:a=g\/a∈c.kid j:=by simpa[b] using e3
   show .inl ⟨b,w,g,x j _ w d b,by rw[<-q j b];show f,ON⟩
 show⟨⟨n.same,n.L3,n.par,n.io,by simp[l.len],λj k w e=>?_,λm h k1 k2 T Y g h1 h2 d f e3 e4=>?_,⟨λj w g d f=>?_,λm h a N t=>?_,λj a N t=>?_⟩⟩,⟨Q.keep,Q.there,λa z=>?_,λ_ z=>z,λ_ z=>.inl z⟩⟩
 .by_cases b:j=i
  .subst b;rw[d5 G]at e;cases e;show⟨.ref p,d5 u,p,rfl⟩
  .have⟨v,d,f⟩:=n.sl j k w (x j k w e b);show⟨v,(q j b).trans d,f⟩
 .have⟨NW,a1⟩:=I m k1 T h1 d;have⟨Nv,a2⟩:=I h k2 Y h2 f;show l.inj m h k1 k2 T Y g h1 h2 a1 a2 ((q m NW).symm.trans e3) ((q h Nv).symm.trans e4)
 .by_cases b:j=i
  .subst b;rw[d5 G]at d;cases d;have s:(c.σ.set j (a5 (.ref p)))[j]?=a5 (a5 (.ref g)):=f;rw[d5 u]at s;cases s;change cD C c.S (upd c.H p (.dK [])) p (if j=j then [] else c.kid j) (.JU [] []);rw[ť rfl];show⟨[],ax,rfl,rfl,by simp,λa ha=>by rw[hY.mp ha];show⟨q2,q3,q1⟩,rfl⟩
  .have L:=x j _ w d b;have z:=n.dd.kd j w g L ((q j b).symm.trans f);change cD C c.S (upd c.H p (.dK [])) g (if j=i then [] else c.kid j) w;rw[Ŧ b];show z
 .rcases r m a N with⟨_,A⟩|⟨rfl,rfl⟩
  .rcases r h a t with⟨_,O⟩|⟨rfl,rfl⟩
   .show l.dd.dj m h a A O
   .show(D (.inr ⟨m,A⟩)).elim
  .rcases r h a t with⟨_,O⟩|⟨rfl,_⟩
   .show(D (.inr ⟨h,O⟩)).elim
   .rfl
 .rcases r j a N with⟨_,A⟩|⟨rfl,rfl⟩
  .show l.dd.d1 j a A (b1 a t)
  .show D (.inl (b1 a t))
 .rcases z with z|⟨j,z⟩
  .show .inl (.inl (b1 a z))
  .rcases r j a z with⟨_,y⟩|⟨_,rfl⟩
   .show .inl (.inr ⟨j,y⟩)
   .show .inr B
end
section
theorem dB.rep{S S':d8->Prop}(hs:∀a,S a->S' a):∀{us:List U}{as:List d8},(∀a∈as,S' a)->dB C S H us as->au C S' H us (as.map V.ref)
 |[],as,_,h=>by cases h;show rfl
 |u::us,as,c,h=>by
  have⟨a,as',i,vs,rfl,rfl,d,e,f⟩:=h;show⟨.ref a,as'.map V.ref,rfl,⟨a,vs,rfl,.inl ⟨c a (by simp),.inl d⟩,e.mv (.up hs)⟩,dB.rep hs (λb g=>c b (by simp[g])) f⟩
def Ok.HN(b:Ok C c)(n:Nx c0 c)(Q:c.st[i]?=a5 (a5 (.JS,u)))(s:c.σ[i]?=a5 (a5 (.ref r))):
  Ok C {c with S:=λa=>c.S a\/a∈c.kid i,st:=c.st.set i (a5 (.own,u))}/\Nx c0 {c with S:=λa=>c.S a\/a∈c.kid i,st:=c.st.set i (a5 (.own,u))}:=by
 have T:i<c.st.length:=(dt.mp Q).1;have D:=b.dd.kd i u r Q s;have fr:=cD.fr D;have mem:∀a,(a=r\/a∈c.kid i)->c.RD i a:=λa z=>⟨u,r,Q,s,z⟩
 have up:Mv c.S c.H (λa=>c.S a\/a∈c.kid i) c.H:=.up λa=>.inl;have Zs:Mv (PS C c.S) c.H (PS C λa=>c.S a\/a∈c.kid i) c.H:=.up λa z=>z.imp id .inl;have SS:r∉c.kid i/\c6 C (λa=>c.S a\/a∈c.kid i) c.H r u:=by
  cases u<;>first|show D.elim|skip
  have⟨kvs,G,I,h3,h4,h5,h6⟩:=D;show⟨(l0.mp h4).1,kvs,G,I,?_⟩;rw[h3];show h6.rep (λa=>.inl) λa J=>.inr J
 have p:∀(j:Nat) k w,(c.st.set i (a5 (.own,u)))[j]?=a5 (a5 (k,w))->j≠i->c.st[j]?=a5 (a5 (k,w)):=λj k w e ne=>by rw[hH (nC ne)]at e;show e
 have b1:∀a,({c with S:=λa=>c.S a\/a∈c.kid i,st:=c.st.set i (a5 (.own,u))}:Cf).R1 a->c.R1 a\/a=r:=λa Y=>by
  have⟨j,k,w,hk,f,g⟩:=Y;by_cases d:j=i
  .subst d;have L_:c.σ[j]?=a5 (a5 (.ref a)):=g;rw[s]at L_;cases L_;show .inr rfl
  .show .inl ⟨j,k,w,hk,p j k w f d,g⟩
 have t:∀j a,({c with S:=λa=>c.S a\/a∈c.kid i,st:=c.st.set i (a5 (.own,u))}:Cf).RD j a->j≠i/\c.RD j a:=λj a Y=>by
  have⟨w,h,f,g,x⟩:=Y;by_cases d:j=i
  .subst d;rw[d5 T]at f;cases f
  .show⟨d,w,h,p j _ w f d,g,x⟩
 show⟨⟨b.same,λa z=>?_,b.par,b.io,by simp[b.len],λj k w e=>?_,λm l k1 k2 L N h G I f g x e4=>?_,⟨λj w h f g=>?_,λm l a A z2=>b.dd.dj m l a (t m a A).2 (t l a z2).2,λj a A z2=>?_⟩⟩,⟨⟨n.keep,n.there,λa z=>?_,λa z=>.inl (n.sub a z),λa z=>?_⟩,λa ⟨j,z⟩=>n.dk a ⟨j,(t j a z).2⟩⟩⟩
 .rcases z with z|z
  .show b.L3 a z
  .obtain⟨o,ho,_⟩:=cD.there D a (ko _ z);show⟨(fr a (ko _ z)).2.2,o,ho⟩
 .by_cases d:j=i
  .subst d;rw[d5 T]at e;cases e;have⟨q1,q2,q3⟩:=fr r (mf ..);show⟨.ref r,s,r,rfl,λz=>z.elim q1 SS.1,q2,q3,SS.2⟩
  .have⟨v,f,g⟩:=b.sl j k w (p j k w e d);show⟨v,f,g.mv up Zs λhk h er=>?_⟩;obtain⟨Ru,LB,A,_⟩:=g.rt hk;rw[er]at LB;cases LB;show⟨λz=>z.elim A λz=>b.dd.d1 i h (mem h (.inr z)) ⟨j,k,w,hk,p j k w e d,by rw[f,er]⟩,λo q=>q⟩
 .by_cases O:m=i
  .by_cases B:l=i
   .rw[O,B]
   .subst O;have ON:c.σ[m]?=a5 (a5 (.ref h)):=x;rw[s]at ON;cases ON;show(b.dd.d1 m r (mem r (.inl rfl)) ⟨l,k2,N,I,p l k2 N g B,e4⟩).elim
  .by_cases B:l=i
   .subst B;have W5:c.σ[l]?=a5 (a5 (.ref h)):=e4;rw[s]at W5;cases W5;show(b.dd.d1 l r (mem r (.inl rfl)) ⟨m,k1,L,G,p m k1 L f O,x⟩).elim
   .show b.inj m l k1 k2 L N h G I (p m k1 L f O) (p l k2 N g B) x e4
 .by_cases d:j=i
  .subst d;rw[d5 T]at f;cases f
  .have KQ:=p j _ w f d;show cD.mv up (λa J=>⟨λz=>z.elim (b.root (.inr ⟨j,w,h,KQ,g,d7.mp J⟩)).1 λz=>d (b.dd.dj j i a ⟨w,h,KQ,g,d7.mp J⟩ (mem a (.inr z))),λo q=>q⟩) (b.dd.kd j w h KQ g)
 .have⟨d,y⟩:=t j a A;rcases b1 a z2 with z|z
  .show b.dd.d1 j a y z
  .subst z;show d (b.dd.dj j i a y (mem a (.inl rfl)))
 .rcases z with z|⟨j,z⟩
  .rcases b1 a z with z|rfl
   .show n.roots a (.inl z)
   .show n.roots a (.inr ⟨i,mem a (.inl rfl)⟩)
  .show n.roots a (.inr ⟨j,(t j a z).2⟩)
 .rcases z with z|z
  .show n.new a z
  .rcases n.roots a (.inr ⟨i,mem a (.inr z)⟩) with y|y
   .show .inr (.inl y)
   .show .inr (.inr y)
def CH(d:X.N[i]?=a5 x)(f:LJ X.env.scope x)(g:(x==("__debug__":Str))=cc)(j:(x==("__classdict__":Str))=cc):PE X (.Name x pos) (JX C (yQ i)):=by
 have l:=pH (C:=C) (pos:=pos) d f g j;rintro pins s σ H Q I ⟨c0,rfl,rfl,b,r,st',e,h⟩;unfold yQ at e;split at e
 .rename_i u hs;cases e;have⟨v,c,k,rfl⟩:=b.sl i _ _ hs;have⟨m,n⟩:=b.HN (Nx.refl c0) hs c;have o:i<c0.st.length:=(dt.mp hs).1;show bT d f g j pins s c0.σ c0.H Q I ⟨.ref k,c,h {c0 with S:=λa=>c0.S a\/a∈c0.kid i,st:=c0.st.set i (a5 (.own,u))} (.ref k) rfl rfl m n ⟨⟨.own,rfl,d5 o⟩,c⟩⟩
 .show l pins s c0.σ c0.H Q I ⟨c0,rfl,rfl,b,r,st',e,h⟩
end
section
def gC{st:aw}(h:W (iN i) st Q):∃ks us,st[i]?=a5 (a5 (.JS,.JU ks us))/\Q (ks,us) st:=by
 have⟨r,st',e,q⟩:=h;unfold iN at e;split at e
 .rename_i ks us hs;cases e;show⟨ks,us,hs,q⟩
 .cases e
def gD{st:aw}(h:W (kD x) st Q):∃y,x.2=.str y/\Q y st:=by
 unfold kD at h;split at h
 .rename_i y e;rw[aq]at h;show⟨y,e,h⟩
 .show(bw.mp h).elim
def Ok.JU(d:Ok C c)(f:c.st[i]?=a5 (a5 (.JS,.JU ks us))):∃(r:d8) (kvs:List (Key×V)),c.σ[i]?=a5 (a5 (.ref r))/\c.H r=a5 (.dK kvs)/\kvs.map (·.1)=ks.map mu/\kvs.map (·.2)=(c.kid i).map V.ref /\
  (r::c.kid i).Nodup/\dB C c.S c.H us (c.kid i)/\(∀y:Str,(dJ kvs (mu y)).isSome=cK (y∈ks))/\∀(y:Str) (u:U),dN ks us y=a5 u->∃v,dJ kvs (mu y)=a5 v/\Rep C (λa=>c.S a\/a∈c.kid i) c.H u v:=by
 have⟨v,e,r,rfl⟩:=d.sl i _ _ f;have⟨kvs,k,b,g,l,n,h⟩:=d.dd.kd i _ r f e;have j:au C (λa=>c.S a\/a∈c.kid i) c.H us (kvs.map (·.2)):=by rw[g];show h.rep (λa=>.inl) λa m=>.inr m
 show⟨r,kvs,e,k,b,g,l,h,λy=>(dO (x:=y) b j).2,λy=>(dO (x:=y) b j).1⟩
def q9{k:Str->List Str×List U->M β}{Post:β->aw->Prop}{Z:V->V->Hp->Prop}(l:Ok C c0)(h:W (m >>= λx=>kD x >>= λy=>iN i >>= λd=>k y d) c0.st Post)
  (hz:∀(c:Cf) (y:Str) (ks:List Str) (us:List U) (r:d8) (kvs:List (Key×V)),c.σ=c0.σ->Ok C c->Nx c0 c->c.H r=a5 (.dK kvs)->(dJ kvs (mu y)).isSome=cK (y∈ks)->W (k y (ks,us)) c.st Post->Z (.str y) (.ref r) c.H) :
  JX C m c0.σ c0.H λv o=>∃b,c0.σ[i]?=a5 (a5 b)/\Z v b o:=by
 show⟨c0,rfl,rfl,l,?_⟩;rw[ah]at h;show W.mono h λx st' w c v f hs a n r=>?_;subst hs;have⟨t,u⟩:=x;rw[ah]at w;have⟨y,e,g⟩:=gD w;clear w
 dsimp only at e r
 subst e;have ev:v=.str y:=r.str a;subst ev;rw[ah]at g;have⟨ks,us,hs,w⟩:=gC g;obtain⟨j,kvs,p,q,_,_,_,_,s,_⟩:=a.JU hs;show⟨.ref j,by rw[<-f];show p,hz c y ks us j kvs f a n q (s y) w⟩
abbrev F5(neg:Bool):Ĵ:=if neg=bD then .NotIn else .In
def F6(b:∀j,ns j=bD->j≠i)(c:X.N.Nodup)(a:X.N[i]?=a5 x)(d:Loc X.env.scope x)(f:X.fn x=bD\/X.env.scope.names.lookup x=a5 .local)
  (hs:PZ (.Dict [] [] p) (a5 (.Name x pos')) pos.line X.env=pure cc):L2.PS X (.Assign [.Name x pos'] (.Dict [] [] p) pos) (KH C ns (DS i >>= λ_=>pure .nx)):=by
 rintro pins s σ H D I ⟨c0,rfl,rfl,g,h⟩;have k:i<c0.σ.length:=by rw[I.len];show(dt.mp a).1
 show sd c a d qt hs f pins s c0.σ c0.H D I λq l=>?_;have⟨m,n⟩:=g.newD l k;rw[ah]at h;obtain⟨_,st',e,w⟩:=h;cases e;rw[aq]at w;show w _ rfl m n ⟨λj o=>hH (nC (b j o)),by simp⟩
end
section
def CI(D:X.A.units+60<Mg)(m:X.N[i]?=a5 x)(p:LJ X.env.scope x)(q:(x==("__debug__":Str))=cc)(t:(x==("__classdict__":Str))=cc)(u:PE X a (JX C B))(v:Sa (F5 neg) (.Name x p2)=cc):
  PT X (.Compare a [F5 neg] [.Name x p2] pos) (Le C (B >>= λx=>kD x >>= λy=>iN i >>= λd=>pure (U6 neg y d.1))):=by
 rintro pins s σ H Q I ⟨c0,rfl,rfl,z,h⟩;cases neg with
 |false =>
  show xR (E2 ⋯ u (bT m p q t)) v pins s c0.σ c0.H Q I (q9 (Z:=λy x e=>∃a o,x=V.ref a/\fj e a y o/\∃b,V.bl o.isSome=.bl b/\Q b e) z h λc y ks us r kvs f g n j l w=>?_);rw[aq]at w;show⟨r,_,rfl,fj.k (k:=mu y) j,?_⟩;rw[l];show⟨_,rfl,w c f rfl g n⟩
 |true =>
  show xR (wz ⋯ u (bT m p q t)) v pins s c0.σ c0.H Q I (q9 (Z:=λy x e=>∃a o,x=V.ref a/\fj e a y o/\∃b,V.bl (!o.isSome)=.bl b/\Q b e) z h λc y ks us r kvs f g n j l w=>?_);rw[aq]at w;show⟨r,_,rfl,fj.k (k:=mu y) j,?_⟩;rw[l];show⟨_,rfl,w c f rfl g n⟩
theorem dB.snoc{S:d8->Prop}{a:d8}(b:H a=a5 (.lst vs))(c:au C S H d vs):∀{us:List U}{as:List d8},dB C S H us as->dB C S H (us++[.lst d]) (as++[a])
 |[],as,h=>by cases h;show⟨a,[],d,vs,rfl,rfl,b,c,rfl⟩
 |u::us,as,h=>by
  have⟨a',as',f,g,rfl,e,i,j,k⟩:=h;show⟨a',as'++[a],f,g,rfl,e,i,j,dB.snoc b c k⟩
def tm{st:aw}(h:W (lH i y r) st Q):∃us ks vs,r=(.own,.lst us)/\st[i]?=a5 (a5 (.JS,.JU ks vs))/\y∉ks/\ks.length<cL/\Q () (st.set i (a5 (.JS,.JU (ks++[y]) (vs++[.lst us])))):=by
 have⟨k,u⟩:=r;cases k<;>cases u<;>first|show(bw.mp h).elim|skip
 rename_i us;obtain⟨_,st',e,q⟩:=h;unfold lH at e
 dsimp only at e
 split at e
 .rename_i ks vs hs;split at e
  .rename_i hz;cases e;show⟨us,ks,vs,rfl,hs,hz.1,hz.2,q⟩
  .cases e
 .cases e
def F7{i:Nat}{x:Str}{j:Pos}(hu:X.A.units+60<Mg)(hN:X.N[i]?=a5 x)(hv:LJ X.env.scope x)(hd:(x==("__debug__":Str))=cc)(Kk:(x==("__classdict__":Str))=cc)
  (ha:PE X a (JX C ma)) (B:PE X b (JX C mb)) (hs:R' [.Subscript (.Name x j) b p] a pos.line X.env=pure cc) (Vs:WI [.Subscript (.Name x j) b p] a X.env=pure b6)
  (G:∀v,Tx (.Subscript (.Name x j) b p) X.env v=(do
   let n <-NJ [v] (ve (.Name x j) X.env)
   let I <-NJ [v,n] (ve b X.env)
   Zc p
   NJ [v,n,I] (U3 n I v)
   Xv [v,n,I] [])) :
  L2.PS X (.Assign [.Subscript (.Name x j) b p] a pos) (KH C ns (ma >>= λr=>iN i >>= λ_=>mb >>= λx=>kD x >>= λy=>lH i y r >>= λ_=>pure .nx)):=by
 show PS.weak (r_ ha (xV (bT hN hv hd Kk) B (set_dict (X:=X) ⋯) G) hs Vs rfl) ?_;rintro D σ H ⟨c0,rfl,rfl,O,h⟩;show aQ O h λr c v t w=>?_;rw[ah]at w;have⟨W6,us0,Lv,w⟩:=gC w;obtain⟨Q,PH,T,g0,_⟩:=t.ok.JU Lv;show⟨.ref Q,by rw[<-t.hσ];show T,?_⟩;rw[ah]at w;show⟨c,t.hσ,rfl,t.ok,w.mono λy st2 Y J vy s e4 u n2 r2=>?_⟩;subst e4;rw[ah]at Y;have⟨ky,uy⟩:=y;have⟨y,ey,w3⟩:=gD Y
 dsimp only at ey r2
 subst ey;have ev:vy=.str y:=r2.str u;subst ev;rw[ah]at w3;have⟨us,ks,vs,L,g,Sr,l,q⟩:=tm w3;subst L;rw[aq]at q;obtain⟨m,kvs,d,g1,g2,g3,g4,g5,g6,_⟩:=u.JU g;have L:m=Q:=by rw[s,<-t.hσ,T]at d;cases d;rfl
 subst L;have⟨f,rfl,k1,k2,k3,Km,k4,k5⟩:=t.rx.w.on t.ok n2.toNs (s.trans t.hσ.symm);have Vt:=t.nx.trans n2;have hl:kvs.length=ks.length:=by have:=Ū C0 g2;simpa using this
 have NF:dJ kvs (mu y)=b6:=by
  have:=g6 y;rw[ŧ Sr]at this;cases hq:dJ kvs (mu y) with
  |none=>rfl
  |some _=>rw[hq]at this;cases this
 show⟨m,_,rfl,wt.k (k:=mu y) g1 (by rw[hl];show l),?_⟩;rw[ya _ NF];have SS:f∉J.kid i:=λz=>k3 (.inr ⟨i,_,_,g,d,.inr z⟩);have W7:f≠m:=λz=>k3 (.inr ⟨i,_,_,g,d,.inl z⟩);have rd:=u.dd.kd i _ _ g d;have fr:=cD.fr rd;have⟨MC,n3⟩:=Ok.HM (H':=upd J.H m (.dK (kvs++[(mu y,.ref f)]))) (u':=.JU (ks++[y]) (vs++[.lst us])) (as':=J.kid i++[f]) u Vt.toNs g d
  (λa ne=>ak λz=>ne ⟨_,_,g,d,.inl z⟩) (λa o e=>by
   by_cases hz:a=m
   .subst hz;show⟨_,ax⟩
   .rw[ak hz];show⟨o,e⟩)
  (λmv=>by
   show⟨_,ax,by rw[i3,g2,i3];rfl,by rw[i3,g3,i3];rfl,?_,λa ha=>?_,?_⟩
   .rw[<-û,rr];show⟨g4,by simp,λa ha b B=>by
     have:b=f:=by simpa using B
     subst this;rintro rfl;rcases d7.mp ha with z|z
     .show W7 z
     .show SS z⟩
   .rw[<-û]at ha;rcases hQ.mp ha with ha|ha
    .show fr a ha
    .have:a=f:=by simpa using ha
     subst this;obtain⟨z1,_,z3,_⟩:=O.kC k1;show⟨k2,z3,z1⟩
   .show dB.snoc (by rw[ak W7];show k4) (k5.mv mv) (dB.mv mv (λa ha o e=>by
     rw[ak (λz=>(l0.mp g4).1 (by rw[<-z];show ha))];show e) g5))
  (λa ha=>by
   rcases hQ.mp ha with ha|ha
   .show .inl ha
   .have:a=f:=by simpa using ha
    subst this;show .inr ⟨k3,k1⟩)
 have z:=q _ rfl MC n3 (Kept.of s);rw[<-s];show z
theorem dB.at{S:d8->Prop}:∀{ks:List Str}{us:List U}{as:List d8}{kvs:List (Key×V)}{u:U},kvs.map (·.1)=ks.map mu->kvs.map (·.2)=as.map V.ref->as.Nodup->dB C S H us as->dN ks us y=a5 u ->
  ∃a ws f,dJ kvs (mu y)=a5 (.ref a)/\a∈as/\u=.lst f/\H a=a5 (.lst ws)/\au C S H f ws/\∀(H':Hp) (c:List U) (d:List V),Mv S H S H'->H' a=a5 (.lst d)->au C S H' c d->(∀b∈as,b≠a->H' b=H b)->dB C S H' (jB ks us y (.lst c)) as
 |[],us,as,kvs,u,_,_,_,_,h=>by cases us<;>cases h
 |k::ks,[],as,kvs,u,_,_,_,_,h=>by cases h
 |k::ks,Q::us,as,kvs,u,g,q,i,hk,h=>by
  have⟨a,as',f,ws,rfl,rfl,t,v,w⟩:=hk;cases kvs with
  |nil=>simp at g
  |cons p kvs =>
   rw[d4,d4,Ro]at g q;rw[l0]at i;by_cases j:k=y
   .subst j;simp only[dN,if_true]at h;cases h;show⟨a,ws,f,by rw[eQ g.1,q.1],by simp,rfl,t,v,λH' c d l r s m=>?_⟩;simp only[jB,if_true];show⟨a,as',c,d,rfl,rfl,r,s,dB.mv l (λb n o e=>by rw[m b (by simp[n]) (λz=>i.1 (z▸n))];show e) w⟩
   .simp only[dN,Ŧ j]at h;have⟨x,B,D,G,A,I,J,L,N⟩:=dB.at g.2 q.2 i.2 w h;show⟨x,B,D,?_,by simp[A],I,J,L,λH' c d l r s m=>?_⟩
    .rw[eR (by rw[g.1];intro z;show j (Wq z))];show G
    .simp only[jB,Ŧ j];have O:a≠x:=λz=>i.1 (z▸A);show⟨a,as',f,ws,rfl,rfl,by rw[m a (by simp) O];show t,v.mv l,N H' c d l r s λb n=>m b (by simp[n])⟩
def tq{st:aw}(h:W (lI i y u) st Q):∃ks vs xs,st[i]?=a5 (a5 (.JS,.JU ks vs))/\dN ks vs y=a5 (.lst xs)/\xs.length<cL/\Q () (st.set i (a5 (.JS,.JU ks (jB ks vs y (.lst (xs++[u])))))):=by
 obtain⟨_,st',e,q⟩:=h;unfold lI at e;split at e
 .rename_i ks vs hs;split at e
  .rename_i xs a;split at e
   .rename_i hz;cases e;show⟨ks,vs,xs,hs,a,hz,q⟩
   .cases e
  .cases e
 .cases e
abbrev zd(C:Ct)(m:M (Kd×U)):TE:=λσ H Q=>∃c0:Cf,c0.σ=σ/\c0.H=H/\Ok C c0/\W m c0.st λr st'=>∀c v,c.σ=σ->c.st=st'->Ok C c->Nx c0 c->(∀a o,c0.H a=a5 o->c.H a=a5 o)->aT C c0 c r.1 r.2 v->Q v c.H
def xf(b:Ok C c0)(h:W (d >>= k) c0.st Post)
  (hz:∀x c v,Ml C c0 c x v->(∀a o,c0.H a=a5 o->c.H a=a5 o)->W (k x) c.st Post->Z v c.H):zd C d c0.σ c0.H Z:=by
 rw[ah]at h;show⟨c0,rfl,rfl,b,h.mono λx st1 e c1 f g i j l m n=>hz x c1 f ⟨g,j,l,n⟩ m (by rw[i];show e)⟩
def ze(d:X.N[i]?=a5 x)(f:LJ X.env.scope x)(g:(x==("__debug__":Str))=cc)(l:(x==("__classdict__":Str))=cc):PE X (.Name x pos) (zd C (dC i)):=by
 show PE.weak (bT d f g l) ?_;rintro σ H Q ⟨c0,rfl,rfl,b,r,st',e,h⟩;unfold dC at e;split at e
 .cases e
 .rename_i k u m hs;cases e;have⟨v,c,a⟩:=b.sl i k u hs;show⟨v,c,h c0 v rfl rfl b (Nx.refl c0) (λ_ _ z=>z) ?_⟩;by_cases hk:k.root=bD
  .rw[ť hk];show⟨⟨k,hk,hs⟩,c⟩
  .rw[Ŧ hk];cases k with
   |loc=>show a
   |any=>show a
   |bor j=>show a.elim
   |JS=>show(m rfl).elim
   |_=>show absurd rfl hk
 .cases e
def iV(h:PE X e (tC v))(r:∀S H,Rep C S H u v):PE X e (zd C (pure (.loc,u))):=by
 show PE.weak h ?_;rintro σ H Q ⟨c0,rfl,rfl,a,h⟩;rw[aq]at h;show h c0 v rfl rfl a (Nx.refl c0) (λ_ _ z=>z) (r _ _)
def F8(hK:C.K=X.K)(hu:X.A.units+60<Mg)(hN:X.N[i]?=a5 x)(hv:LJ X.env.scope x)(hd:(x==("__debug__":Str))=cc)(Kk:(x==("__classdict__":Str))=cc)(G:PE X a (JX C ma))(hb:PE X b (JX C mb))(SU:E1 b)
  (K_:((Kg I (hZ [a] X.env)).all (λx=>!x.1)&&(Rw I (MN [] X.env)).all (λx=>x.1.isSome)
   && cK ([a].length+([]:List O6).length+(if ([]:List O6).isEmpty then 0 else 1)<30))=bD)
  (J6:(j.endLine==I.line)=bD) (J3:hZ [a] X.env=[(cc,ve a X.env)]) :
  L2.PS X (.Expr (.Call (.Attribute (.Subscript (.Name x px) b p) "append" j) [a] [] I) pos) (KH C ns (iN i >>= λ_=>mb >>= λx=>kD x >>= λy=>iN i >>= λd=>if y∈d.1 then(ma >>= λr=>lift r >>= λu=>lI i y u >>= λ_=>pure .nx) else M.fail)):=by
 show PS.weak (kK (nz PySem.F.plainAttrs_list PySem.F.slot_list_append PySem.F.type_list_append nB (BL ⋯ (bT hN hv hd Kk) hb SU) (cX G fi J3) rfl K_ J6 J3 rfl)) ?_;rintro D σ H ⟨c0,rfl,rfl,ok,h⟩;rw[ah]at h;have⟨W6,us0,Lv,h⟩:=gC h;obtain⟨r0,PH,J,g0,_⟩:=ok.JU Lv;show⟨.ref r0,J,?_⟩;show aQ ok h λry c vy t w=>?_;rw[ah]at w;have⟨ky,uy⟩:=ry;have⟨y,ey,w1⟩:=gD w
 dsimp only at ey
 subst ey;have ev:vy=.str y:=t.rx.str t.ok;subst ev;rw[ah]at w1;have⟨ks,us,hs,l⟩:=gC w1
 dsimp only at l
 by_cases L:y∈ks
 case neg=>rw[Ŧ L]at l;show(bw.mp l).elim
 rw[ť L]at l;obtain⟨O,kvs,f1,g1,g2,g3,g4,g5,g6,_⟩:=t.ok.JU hs;have Q:O=r0:=by rw[t.hσ,J]at f1;cases f1;rfl
 subst Q;have OP:=g6 y;rw[Ũ L]at OP;have⟨v0,s⟩:=Tf.mp OP;have Lw:v0∈(c.kid i).map V.ref:=by
  rw[<-g3];unfold dJ at s;have⟨q,hq,rfl⟩:=et.mp s;show VM (List.mem_of_find?_eq_some hq)
 have⟨f,Zv,rfl⟩:=ki.mp Lw;have⟨Zw,Vw⟩:=g5.mem Zv;show⟨O,.ref f,rfl,by rw[<-s];show fj.k (k:=mu y) g1,Or.inl ⟨rfl,Zw,.inl (.inl Vw)⟩,?_⟩;rw[<-t.hσ];show aQ t.ok l λr g v t' w3=>?_;rw[ah]at w3;obtain⟨S',st',u,sS,T,n1,m,w4,_,_⟩:=iR t.ok t'.ok t'.nx t'.rx.w w3;rw[ah]at w4;have⟨Nb,Km,xs,n,hx,hz,q⟩:=tq w4;rw[aq]at q;obtain⟨B,Y,k1,k2,k3,k4,k5,k6,_,_⟩:=T.JU n;have W8:g.σ[i]?=a5 (a5 (.ref B)):=k1;have Q:B=O:=by rw[t'.hσ,t.hσ,J]at W8;cases W8;rfl
 subst Q;have ab:g.H B=a5 (.dK Y):=k2;have Vx:Y=kvs:=by have:=(n1.dk _ ⟨i,_,_,n,k1,.inl rfl⟩).2 _ g1;rw[show _=_ from k2]at this;cases this;rfl
 subst Vx;have nd:=(l0.mp k5).2;have⟨a2,ws,ys,l1,l2,l3,l4,l5,l6⟩:=dB.at k3 k4 nd k6 hx;cases l3;rw[s]at l1;cases l1;have Zx:g.H f=a5 (.lst ws):=l4;show⟨f,ws,v,rfl,rfl,Zx,by rw[<-l5.len];show hz,?_⟩;have KS:f≠B:=λz=>(l0.mp k5).1 (z▸l2);have⟨Ke,n2⟩:=Ok.HM (c:={g with S:=S',st:=st' }) (H':=upd g.H f (.lst (ws++[v]))) (u':=.JU Nb (jB Nb Km y (.lst (xs++[u])))) (as':=g.kid i) T (t.nx.trans n1).toNs n k1
  (λa ne=>ak λz=>ne ⟨_,_,n,k1,.inr (z▸l2)⟩) (λa o e=>by
   by_cases hz:a=f
   .subst hz;show⟨_,ax⟩
   .rw[ak hz];show⟨o,e⟩)
  (λmv=>⟨Y,by rw[ak (nC KS)];show k2,k3,k4,k5,cD.fr (T.dd.kd i _ _ n k1),l6 _ _ _ mv ax ((l5.mv mv).snoc (m.mv mv)) λb _ ne=>ak ne⟩)
  (λa G=>.inl G)
 have z:=q _ rfl Ke n2 (Kept.of (t'.hσ.trans t.hσ));rw[<-t'.hσ];show z
end
section
def zf{st:aw}(h:W (U7 u) st Q):∃ks us,u=.JU ks us/\Q () st:=by
 cases u<;>first|show(bw.mp h).elim|skip
 show⟨_,_,rfl,aq.mp h⟩
def nX{st:aw}(h:W (wW x) st Q):∃j,x.2=.int j/\Q j st:=by
 unfold wW at h;split at h
 .rename_i y e;rw[aq]at h;show⟨y,e,h⟩
 .show(bw.mp h).elim
def nY{st:aw}(h:W (qV i) st Q):∃k us,k.root=bD/\st[i]?=a5 (a5 (k,.lst us))/\Q us st:=by
 have⟨r,st',e,q⟩:=h;unfold qV at e;split at e
 .rename_i k us hs;split at e
  .rename_i hk;cases e;show⟨k,_,hk,hs,q⟩
  .cases e
 .cases e
theorem q_:∀{ks:List Str}{us:List U},y∈ks->ks.length=us.length->dN ks us y=b6->False
 |[],us,h,_,_=>by cases h
 |k::ks,[],_,h,_=>by simp at h
 |k::ks,u::us,h,hl,e=>by
  by_cases hk:k=y
  .simp[dN,hk]at e
  .simp only[dN,Ŧ hk]at e;rcases d7.mp h with h|h
   .show hk h.symm
   .show q_ h (by simpa using hl) e
def zg{i:Nat}{x:Str}{B:Pos}(hu:X.A.units+60<Mg)(hN:X.N[i]?=a5 x)(hv:LJ X.env.scope x)(hd:(x==("__debug__":Str))=cc)(Kk:(x==("__classdict__":Str))=cc)
  (ha:PE X a (JX C ma)) (hb:PE X b (JX C mb)) (hm:M2 X (.Name x B) "get" e a b G') :
  PE X (.Call (.Attribute (.Name x B) "get" e) [a,b] [] G') (JX C (dC i >>= λx=>U7 x.2 >>= λ_=>ma >>= λy=>kD y >>= λy=>mb >>= λz=>lift z >>= λu=>dC i >>= λx=>M.J8 (B6 x y u))):=by
 rintro pins s σ H Q I ⟨c0,rfl,rfl,o,h⟩;show yd ⋯ (bT hN hv hd Kk) ha hb hm pins s c0.σ c0.H Q I ?_;rw[ah]at h;have⟨k0,u0,Vy,Lv,h⟩:=dn h;have⟨v0,D,t0⟩:=o.slot Vy Lv;rw[ah]at h;have⟨W6,us0,G,h'⟩:=zf h
 dsimp only at G
 subst G;obtain⟨a0,PH,rfl,g0,_⟩:=t0.dict o;show⟨.ref a0,D,a0,rfl,.inl ⟨PH,.inl g0⟩,?_⟩;show aQ o h' λry c vy t w=>?_;rw[ah]at w;have⟨ky,uy⟩:=ry;have⟨y,J,w1⟩:=gD w
 dsimp only at J
 subst J;have ev:vy=.str y:=t.rx.str t.ok;subst ev;rw[<-t.hσ];show aQ t.ok w1 λz f vz g L=>?_;rw[ah]at L;obtain⟨S',st',u,sS,p,n1,j,O,_,_⟩:=iR t.ok g.ok g.nx g.rx.w L;rw[ah]at O;have⟨k,u1,Zy,L0,w5⟩:=dn O;have⟨r,d,q⟩:=bz.mp w5;have⟨v1,e1,t1⟩:=p.slot Zy L0;have T:f.σ[i]?=a5 (a5 v1):=e1;rw[g.hσ,t.hσ,D]at T;cases T;cases u1<;>first|(simp only[B6]at d;cases d;done)|skip
 rename_i ks us;have⟨a1,kvs,ea,g1,Y,g3⟩:=t1.dict p;cases ea;have SW:f.H a0=a5 (.dK kvs):=g1;show⟨_,fj.k (k:=mu y) SW,?_⟩;simp only[B6]at d;have⟨l1,l2⟩:=dO (x:=y) Y g3;have l:∀v:V,aT C c0 {f with S:=S',st:=st' } r.1 r.2 v->Q v f.H:=λv z=>q {f with S:=S',st:=st' } v (g.hσ.trans t.hσ) rfl p (t.nx.trans n1) z;cases n:dN ks us y with
 |some w =>
  rw[n]at d;cases d;have⟨v,ev,rv⟩:=l1 w n;rw[ev];show l v ?_;show aT.item (k:=if k.root=bD then .bor i else k) rv
 |none =>
  rw[n]at d;cases d;have NF:dJ kvs (mu y)=b6:=by
   cases hq:dJ kvs (mu y) with
   |none=>rfl
   |some v =>
    exfalso
    rw[hq]at l2;have hy:y∈ks:=by simpa using l2.symm
    have m:ks.length=us.length:=by have h1:=Ū C0 Y;have h2:=g3.len;simp at h1 h2;lia
    show q_ hy m n
  rw[NF];show l vz j
def zh:G3 X (λo i H Q=>∃p xs j v,o=.ref p/\i=.int j/\H p=a5 (.lst xs)/\0<=j/\xs[j.toNat]?=a5 v/\Q v H):=by
 rintro pins s σ H o i k l Q I b c ⟨p,xs,j,v,rfl,rfl,d,e,a,q⟩;cases b;have⟨t,rfl⟩:=c;have⟨m,r,f,hz⟩:=I.list (.inl (.inl d));have⟨w,g,h⟩:=r.get a;have hl:=r.length;have n:=fN;have u:=(dt.mp a).1;show wpAny_getItem_list f.isList e ⋯ (by simpa using g) ⟨v,H,I,h,q⟩
def CJ:Sb X (if sub=bD then .Sub else .Add) (Tr (wX sub)):=by
 cases sub with
 |true=>show EI
 |false=>show EH
def HP(hN:X.N[i]?=a5 x)(hv:LJ X.env.scope x)(hd:(x==("__debug__":Str))=cc)(Kk:(x==("__classdict__":Str))=cc)
  (ha:PE X a (zd C ma)) (hb:PE X b (JX C mb))
  (m:∀e f new,Ŗ b e f new=(do NJ [new,e,f] (U3 e f new);Xv [new,e,f] [];pure .next)) :
  L2.PS X (.AugAssign (.Subscript (.Name x px) b p) (if sub=bD then .Sub else .Add) a pos) (KH C ns (qV i >>= λ_=>mb >>= λy=>wW y >>= λj=>qV i >>= λus=>M.J8 (qW us j) >>= λo=>ma >>= λz=>wW z >>= λw=>modS i (eE (.int j) (.int (wX sub o w))) >>= λ_=>pure .nx)):=by
 show PS.weak (Bu (bT hN hv hd Kk) hb zh ha CJ set_list m) ?_;rintro D σ H ⟨c0,rfl,rfl,u,h⟩;rw[ah]at h;have⟨k0,us0,Ls,Lv,h⟩:=nY h;have⟨v0,n,MP⟩:=u.sl i _ _ Lv;obtain⟨a0,rfl,_,_,_,_⟩:=MP.rt Ls;show⟨.ref a0,n,?_⟩;show aQ u h λry c vy t w=>?_;rw[ah]at w;have⟨ky,uy⟩:=ry;have⟨j,v,A⟩:=nX w
 dsimp only at v
 subst v;have ev:vy=.int j:=t.rx.int t.ok;subst ev;rw[ah]at A;have⟨k1,RB,Rk,L0,B⟩:=nY A;rw[ah]at B;have⟨o,ho,w3⟩:=bz.mp B;have⟨v1,G,Zz⟩:=t.ok.sl i _ _ L0;obtain⟨a1,rfl,_,_,_,RC⟩:=Zz.rt Rk;rw[t.hσ,n]at G;cases G;have⟨vs,I,g2⟩:=RC;unfold qW at ho;split at ho
 case isFalse=>cases ho
 rename_i Q_;split at ho
 case h_2=>cases ho
 rename_i o' Vz;cases ho;have⟨vo,ZA,ZC⟩:=g2.get Vz;have ZD:vo=.int o:=ZC;subst ZD;show⟨a0,vs,j,_,rfl,rfl,I,Q_,ZA,?_⟩;rw[<-t.hσ];show xf t.ok w3 λz r vz d all2 J=>?_;rw[ah]at J;have⟨kz,uz⟩:=z;have⟨w,L,O⟩:=nX J
 dsimp only at L
 subst L;have ev:vz=.int w:=d.rx.int d.ok;subst ev;show⟨o,w,rfl,rfl,?_⟩;rw[ah]at O;have⟨k,u1,u2,hk,Q,g,q⟩:=gB O;rw[aq]at q;have⟨v2,s,Ow⟩:=d.ok.sl i _ _ Q;obtain⟨a2,rfl,_,_,_,RE⟩:=Ow.rt hk;have ZE:=s;rw[d.hσ,t.hσ,n]at s;cases s;have T:r.H a0=a5 (.lst vs):=all2 _ _ I;cases u1 with
 |lst xs =>
  simp only[eE,et]at g;have⟨l,MI,rfl⟩:=g;have⟨ab,Y,l2⟩:=RE;rw[T]at Y;cases Y;show⟨a0,vs,j,l,rfl,rfl,T,by rw[<-l2.len];show MI,?_⟩;have⟨MC,n3⟩:=Ok.mod (c:=r) (H':=upd r.H a0 (.lst (vs.set l (.int (wX sub o w))))) (u':=.lst (xs.set l (.int (wX sub o w)))) d.ok (t.nx.trans d.nx).toNs hk Q ZE (λa ne=>ak ne) ⟨_,ax⟩ λmv=>⟨_,ax,(l2.mv mv).set l rfl⟩
  have z:=q _ rfl MC n3 (Kept.of (d.hσ.trans t.hσ));rw[<-d.hσ];show z
 |JU ks vs=>simp[eE]at g
 |_=>simp[eE]at g
end
section
def CK{ks:List Str}(c:kvs.map (·.1)=ks.map mu)(d:kvs.map (·.2)=ns.map V.int):kvs=(ks.zip ns).map λp=>((mu p.1:Key),V.int p.2):=by
 induction kvs generalizing ks ns with
 |nil =>
  cases ks with
  |nil=>rfl
  |cons _ _=>cases c
 |cons kv kvs e =>
  cases ks with
  |nil=>cases c
  |cons k ks =>
   cases ns with
   |nil=>cases d
   |cons n ns =>
    have⟨a,b⟩:=kv;simp only[d4,Ro]at c d;have⟨rfl,c⟩:=c;have⟨rfl,d⟩:=d;rw[e c d];rfl
theorem au.of_map{S:d8->Prop}{f:α->U}{g:α->V}:∀{l:List α},(∀x∈l,Rep C S H (f x) (g x))->au C S H (l.map f) (l.map g)
 |[],_=>rfl
 |x::l,h=>⟨g x,l.map g,rfl,h x (by simp),au.of_map λy a=>h y (by simp[a])⟩
def CL(O:X.calm=bD)(hK:C.K=X.K)(Y:Gl X "sorted")(hm:X.mg "sorted"=b6)(hN:X.N[i]?=a5 x)(hv:LJ X.env.scope x)(hd:(x==("__debug__":Str))=cc)(Kk:(x==("__classdict__":Str))=cc)(J6:(b.endLine==k.line)=bD):
  PE X (.Call (.Name "sorted" p) [.Call (.Attribute (.Name x m) "items" b) [] [] k] [] pos) (JX C (dC i >>= λx=>M.J8 (yO x.2))):=by
 rintro pins s σ H Q I ⟨c0,rfl,rfl,l,h⟩;show tr (cW I Y hm (show t5 "sorted"=a5 (.builtin "sorted") by decide +kernel) ?_ (by decide +kernel) (by decide +kernel));rw[ah]at h;have⟨k0,u0,Vy,Lv,h⟩:=dn h;have⟨v0,e0,t0⟩:=l.slot Vy Lv;have⟨r,c,g⟩:=bz.mp h
 dsimp only at c
 unfold yO at c;split at c
 rotate_left
 .cases c
 rename_i ks us;rw[ro]at c;have⟨ns,en,c⟩:=c;split at c
 rotate_left
 .cases c
 rename_i VA;cases c;have⟨Mi,Kc,t⟩:=VA;have⟨d,kvs,rfl,u,Ls,B⟩:=t0.dict l;rw[j4 en]at B;have Vx:=CK Ls (au.ints B);subst Vx;have ek:((ks.zip ns).map (·.1))=ks:=ö ⋯;have f:d3 (eH X.prog X.w) X.A (ve (.Call (.Attribute (.Name x m) "items" b) [] [] k) X.env) (λv s1=>d3 (eH X.prog X.w) X.A (OS (.builtin "sorted") [v]) (EP X pins c0.σ Q) X.xe s1) X.xe s:=by
  show UM rfl J6 (JZ (bT hN hv hd Kk pins s c0.σ c0.H (λv D=>v=.ref d/\D=c0.H) I ⟨_,e0,rfl,rfl⟩) λv s1 VB=>?_);have⟨x1,D,G,r1,z1,z2⟩:=VB;subst z1 z2;cases(show v=lg d from r1);have⟨h1,h2⟩:=oY (T:="dict") G (x:=.ref d) rfl (.inr (.inr (.inl ⟨rfl,.inl ⟨_,u⟩⟩)));show⟨"dict","dict.items",PySem.F.plainAttrs_dict,PySem.F.slot_dict_items,PySem.F.type_dict_items,h1,h2,H8 rfl (PySem.evalArgs_none (pB O G u (by rw[ek];show Kc) (by rw[WV];lia) λas L hl nd J hL=>?_))⟩;have n:c0.H L=b6:=J L (by simp);have ZF:(as.zip ((ks.zip ns).map NV)).map (·.1)=as:=ö (by rw[c4];lia);have ZG:∀p∈as.zip ((ks.zip ns).map NV),p.1∈as:=λp q=>(RS q).1;have same:qp c0.H (upd (kB c0.H (as.zip ((ks.zip ns).map NV))) L (.lst ((kA ((ks.zip ns).map (·.1))).map λi=>V.ref (as.getD i 0)))):=λa o e=>by
   have n1:a≠L:=λy=>by rw[y,n]at e;cases e
   rw[ak n1,lE λp q y=>?_]
   .show e
   .have:=J p.1 (by simp[ZG p q]);rw[y,e]at this;cases this
  have⟨J7,n'⟩:=l.grow (S':=c0.S) same (λa z=>.inl z) λa z=>z;have⟨q1,q2,q3,q4,q5⟩:=l.kC n;show g {c0 with H:=upd (kB c0.H (as.zip ((ks.zip ns).map NV))) L (.lst ((kA ((ks.zip ns).map (·.1))).map λi=>V.ref (as.getD i 0))),S:=c0.S} _ rfl rfl J7 n' ⟨L,rfl,n,q2,q5,_,ax,?_⟩;change au C c0.S _ ((B4 (ks.zip ns)).map wU) _;unfold B4;rw[i6];show au.of_map λj hj=>?_;have MI:j<(ks.zip ns).length:=by
   have:=u5.mp ((gy _).mem_iff.mp hj);rw[c4]at this;show this
  have UZ:j<as.length:=by lia
  have e1:(ks.zip ns).getD j (mN,0)=(ks.zip ns)[j]:=(List.getElem_eq_getD _).symm;have e2:as.getD j 0=as[j]:=by simp[O',UZ]
  change Rep C c0.S _ (wU ((ks.zip ns).getD j (mN,0))) (V.ref (as.getD j 0));rw[e1,e2];show⟨as[j],NV (ks.zip ns)[j],rfl,KA.of ?_,⟨_,_,rfl,rfl,_,_,rfl,rfl,rfl⟩⟩;have KS:as[j]≠L:=λy=>hL (by rw[<-y];simp);show(ak KS).trans (uR (by rw[ZF];show nd) (vs:=NV (ks.zip ns)[j]) ?_);show Ç.mpr ⟨j,by rw[WV,c4];lia,?_⟩;rw[List.getElem_zip,WQ]
 have eb:Kg pos (hZ [.Call (.Attribute (.Name x m) "items" b) [] [] k] X.env)=[(cc,ve (.Call (.Attribute (.Name x m) "items" b) [] [] k) X.env)]:=rfl;have ZH:Rw pos (MN [] X.env)=[]:=rfl;rw[eb,ZH];show pJ f
end
section
def vf(d:X.calm=bD)(f:C.K=X.K)(g:Gl X "set")(i:X.mg "set"=b6)(j:PE X a (JX C m))(hs:hZ [a] X.env=[(cc,ve a X.env)])(I:Inv X pins c0.σ c0.H s)(n:Ok C c0)
  (h:W (m >>= λx=>M.J8 (iM x.2) >>= k) c0.st Post)
  (r:∀(S:d8) (o:Obj) (s1:d6) (D:List Str) (c:Cf),c.σ=c0.σ->Ok C c->Nx c0 c->s1.heap.get? S=a5 o->aU X.prog X.w s1.heap S (aI X.w) D->Inv X ((S,o)::pins) c.σ c.H s1->W (k D) c.st Post->(∀q∈pins,q.1≠S)->Q (.ref S) s1) :
  d3 (eH X.prog X.w) X.A (ve (.Call (.Name "set" p) [a] [] pos) X.env) Q X.xe s:=by
 show tr (cW I g i (show t5 "set"=a5 (.type "set") by decide +kernel) ?_ (by decide +kernel) (by decide +kernel));have u:Kg pos (hZ [a] X.env)=[(cc,ve a X.env)]:=by rw[hs];rfl
 have y:Rw pos (MN [] X.env)=[]:=rfl;rw[u,y];show vb (one j I n h λx c T v s2 t b rv w=>?_);rw[ah]at w;have⟨D,e,w⟩:=bz.mp w;have⟨l,Y,rfl,B,G,rfl⟩:=nU f t.ok t.rx e;cases rv;show sG d b B G λS o s1 hsz J L N=>r S o s1 _ c t.hσ t.ok t.nx J L N w λq O z=>by
  have:=ez (b.pin q (mx _ O)).1;rw[z]at this;show absurd (i5 this hsz) (uv _)
def CM(m:X.calm=bD)(B:C.K=X.K)(D:Gl X (if ln=bD then "len" else "sorted"))(G:X.mg (if ln=bD then "len" else "sorted")=b6)(J:Gl X "set")(L:X.mg "set"=b6)(ha:PE X a (JX C ma))(hb:PE X b (JX C mb))(ZI:hZ [a] X.env=[(cc,ve a X.env)])(MU:hZ [b] X.env=[(cc,ve b X.env)]):
  PE X (.Call (.Name (if ln=bD then "len" else "sorted") p) [.BinOp (.Call (.Name "set" n) [a] [] t) .Sub (.Call (.Name "set" p2) [b] [] pos2) d] [] pos)
   (JX C (ma >>= λx=>M.J8 (iM x.2) >>= λd1=>mb >>= λy=>M.J8 (iM y.2) >>= λd2=>M.J8 (qQ ln d1 d2))):=by
 rintro pins s σ H Q I ⟨c0,rfl,rfl,ok,h⟩;have f:d3 (eH X.prog X.w) X.A (ve (.BinOp (.Call (.Name "set" n) [a] [] t) .Sub (.Call (.Name "set" p2) [b] [] pos2) d) X.env) (λv s1=>d3 (eH X.prog X.w) X.A (OS (.builtin (if ln=bD then "len" else "sorted")) [v]) (EP X pins c0.σ Q) X.xe s1) X.xe s:=by
  show wpAny_BinOp (vf m B J L ha ZI I ok h λS1 o1 s1 D1 c1 ZJ J1 ZK NU Nq I1 w1 Qf=>?_);show vf m B J L hb MU I1 J1 w1 λS2 o2 s2 D2 i ZL N ZM OC Qh u w2 Qc=>?_;have⟨r,k,j⟩:=bz.mp w2;have VC:=(u.pin (S1,o1) (mx _ (by simp))).1;have VD:aU X.prog X.w s2.heap S1 (aI X.w) D1:=Nq.at λo e=>by rw[NU]at e;cases e;show VC
  have KS:S1≠S2:=Qc (S1,o1) (by simp);have nx:Nx c0 i:=ZK.trans ZM;have z:i.σ=c0.σ:=ZL.trans ZJ;have I3:Inv X pins i.σ i.H s2:=u.eF λq hq=>u.pin q (mx _ (by simp[hq]));unfold qQ at k;split at k
  rotate_left
  .cases k
  rename_i g;show L2.kN KS VD Qh g.1 g.2 λh' hk O=>?_;have T:Inv X pins i.σ i.H {s2 with heap:=h' }:=I3.kept (t':=s2.toks) hk;rw[<-z];cases ln with
  |true =>
   cases k;show sE T O (cn.flat (c:=i) j z N nx rfl)
  |false =>
   cases k;show gS m T O (î (sx _ _) g.1) λl hl=>cn.list (c:=i) j z N nx (au.strs.mpr rfl) l hl
 have Y:Kg pos (hZ [.BinOp (.Call (.Name "set" n) [a] [] t) .Sub (.Call (.Name "set" p2) [b] [] pos2) d] X.env)=[(cc,ve (.BinOp (.Call (.Name "set" n) [a] [] t) .Sub (.Call (.Name "set" p2) [b] [] pos2) d) X.env)]:=rfl;have ek:Rw pos (MN [] X.env)=[]:=rfl;cases ln with
 |true =>
  show tr (cW I D G (show t5 "len"=a5 (.builtin "len") by decide +kernel) ?_ (by decide +kernel) (by decide +kernel));rw[Y,ek];show pJ f
 |false =>
  show tr (cW I D G (show t5 "sorted"=a5 (.builtin "sorted") by decide +kernel) ?_ (by decide +kernel) (by decide +kernel));rw[Y,ek];show pJ f
end
section
def Ok.HQ(b:Ok C c)(m:c.st[i]?=a5 (a5 (.own,u)))(p:c.σ[i]?=a5 (a5 (.ref r))):Ok C {c with H:=upd c.H r o',st:=c.st.set i b6}/\Ns c {c with H:=upd c.H r o',st:=c.st.set i b6}/\¬({c with H:=upd c.H r o',st:=c.st.set i b6}:Cf).R r:=by
 have Y:i<c.st.length:=(dt.mp m).1;have x:c.R1 r:=⟨i,.own,u,rfl,m,p⟩
 have⟨s,z2,z3,o,z4,z5⟩:=b.root (.inl x);have I:C.H₀ r=b6:=by
  obtain⟨v,f,h,t,_,_,q,_⟩:=b.sl i _ _ m;rw[p]at f;cases f;cases t;show q
 have l:∀(j:Nat) k w,(c.st.set i b6)[j]?=a5 (a5 (k,w))->j≠i/\c.st[j]?=a5 (a5 (k,w)):=λj k w e=>by
  by_cases A:j=i
  .subst A;rw[d5 Y]at e;cases e
  .rw[hH (nC A)]at e;show⟨A,e⟩
 have b1:∀a,({c with H:=upd c.H r o',st:=c.st.set i b6}:Cf).R1 a->c.R1 a/\a≠r:=λa J_=>by
  have⟨j,k,w,hk,f,g⟩:=J_;have⟨ne,J⟩:=l j k w f;show⟨⟨j,k,w,hk,J,g⟩,λz=>?_⟩;subst z;show ne (b.inj j i k .own w u a hk rfl J m g p)
 have L:∀j a,({c with H:=upd c.H r o',st:=c.st.set i b6}:Cf).RD j a->c.RD j a:=λj a ⟨w,h,f,g,B⟩=>⟨w,h,(l j _ w f).2,g,B⟩
 have N:∀j a,c.RD j a->a≠r:=λj a z e=>by subst e;show b.dd.d1 j a z x
 have D:∀S:d8->Prop,¬S r->Mv S c.H S (upd c.H r o'):=λS hS=>⟨λa z=>z,λa d e tp=>by
  have:a≠r:=λz=>by subst z;rw[z4]at e;cases e;show z5 tp
  rw[ak this];show e,λa d z e=>by
  have:a≠r:=λy=>by subst y;show hS z
  rw[ak this];show e⟩
 have hP:¬PS C c.S r:=λz=>z.elim z2 s;show⟨⟨λa d e KU=>?_,λa z=>?_,b.par,λa z=>?_,by simp[b.len],λj k w e=>?_,λj1 j2 k1 k2 w1 w2 h h1 h2 f g B e4=>b.inj j1 j2 k1 k2 w1 w2 h h1 h2 (l _ _ _ f).2 (l _ _ _ g).2 B e4,?_⟩,⟨λa d e hR=>?_,λa d e=>?_,λa z=>?_,λa z=>z,λa z=>.inl z⟩,λz=>?_⟩
 .have:a≠r:=λy=>by subst y;rw[I]at e;cases e
  change upd c.H r o' a=_;rw[ak this];show b.same a d e KU
 .have⟨n,d,G⟩:=b.L3 a z;have:a≠r:=λy=>by subst y;show s z
  show⟨n,d,by change upd c.H r o' a=_;rw[ak this];show G⟩
 .obtain⟨⟨d,n⟩,ZN,G⟩:=b.io a z;have:a≠r:=λy=>by subst y;rw[I]at n;cases n
  show⟨⟨d,n⟩,ZN,by change upd c.H r o' a=_;rw[ak this];show G⟩
 .have⟨ne,O⟩:=l j k w e;have⟨v,f,g⟩:=b.sl j k w O;show⟨v,f,g.mv (D _ s) (D _ hP) λhk h t=>?_⟩;obtain⟨Ru,Q,y1,_⟩:=g.rt hk;rw[t]at Q;cases Q;have:h≠r:=λy=>by subst y;show ne (b.inj j i k .own w u h hk rfl O m (by rw[f,t]) p)
  show⟨y1,λd q=>by change upd c.H r o' h=_;rw[ak this];show q⟩
 .show b.dd.of rfl (λj w e=>⟨(l j _ w e).2,rfl⟩) (λa z=>.inl (b1 a z).1) (D _ s) λj a z=>⟨(b.root (.inr ⟨j,z⟩)).1,λd q=>by change upd c.H r o' a=_;rw[ak (N j a z)];show q⟩
 .have:a≠r:=λy=>by subst y;show hR (.inl x)
  change upd c.H r o' a=_;rw[ak this];show e
 .by_cases T:a=r
  .subst T;show⟨o',ax⟩
  .show⟨d,by change upd c.H r o' a=_;rw[ak T];show e⟩
 .rcases z with z|⟨j,z⟩
  .show .inl (.inl (b1 a z).1)
  .show .inl (.inr ⟨j,L j a z⟩)
 .rcases z with z|⟨j,z⟩
  .show(b1 r z).2 rfl
  .show N j r (L j r z) rfl
def zi(u:c.H r=a5 (.KY o (.dK kvs)))(w:¬c.R r)(y:Ok C c)(hk:kvs.map (·.1)=ks.map mu)(z:au C c.S c.H us (kvs.map (·.2))):Walk C c [] (pE (ks,us)) (US r o kvs):=by
 intro b k n N hs;have l:=n.keep r _ u w;have m:=z.mv (y.mv n);have O:kvs.length=ks.length:=by rw[<-c4 (f:=(·.1)),hk,c4]
 have Q:us.length=kvs.length:=by rw[m.len,c4]
 have T:(pE (ks,us)).length=kvs.length:=by
  unfold pE;rw[c4,WV];change min ks.length us.length=_;lia
 show⟨λi q d=>?_,λi a=>⟨l,⋯⟩⟩;unfold pE at d;rw[i2,et]at d;have⟨p,A,rfl⟩:=d;have⟨s,B⟩:=List.getElem?_zip_eq_some.mp A;have⟨v,e,g⟩:=m.get B;have a:i<kvs.length:=by
  have:i<ks.length:=(dt.mp s).1;lia
 have D:kvs[i]?=a5 (mu p.1,v):=by
  rw[i2,kj a]at e;have h:(kvs.map (·.1))[i]?=(ks.map mu)[i]?:=by rw[hk]
  rw[i2,i2,kj a,s]at h;rw[kj a];simp only[T9,RP]at h e;rw[<-h,<-e]
 show⟨.inl rfl,⟨l,a⟩,λx H' j=>?_⟩;have⟨q,G,rfl,j⟩:=j;have I:=j _ _ D;subst I;have⟨J,t⟩:=k.lay (o:=.tup [kV (mu p.1),v]) G;show⟨{b with H:=upd b.H q (.tup [kV (mu p.1),v])},rfl,rfl,rfl,J,t,?_⟩;have L:au C b.S b.H [.str p.1,p.2] [kV (mu p.1),v]:=⟨_,_,rfl,rfl,_,_,rfl,g,rfl⟩
 show⟨q,_,rfl,KA.of ax,L.mv (k.mv t)⟩
def F9(t:X.N[i]?=a5 x)(A:LJ X.env.scope x)(B:(x==("__debug__":Str))=cc)(G:(x==("__classdict__":Str))=cc)(J:(g.endLine==L.line)=bD)
  (S:dQ X N own scope) (O:X.calm=bD) (hl:own.length=2) (T:∀D s H ex,PG (K4 X N scope D s H ex) (.Tuple es Y ps) (tG C bD (gs own.length))) (he:∀D s H ex,PE (K4 X N scope D s H ex) elt (JX C me)) :
  L2.PS X (.Return (a5 (.ListComp elt [⟨.Tuple es Y ps,.Call (.Attribute (.Name x px) "items" g) [] [] L,[],0⟩] scope pos)) ZP) (KH C ns (qU i >>= λd=>bV 2 bD (pure bD) me [] (pE d) [] >>= λus=>retS (.own,.lst us))):=by
 show PS.weak (xT (Fd (uG S O (yC t A B G J) T (λD s H ex=>show NR _ [] (Le C (pure bD)) from λpins s σ H Q I ⟨c0,f,e2,j,w⟩=>pb pins s σ H Q I (by subst f e2;rw[aq]at w;show w c0 rfl rfl j (Nx.refl c0))) he))) ?_;rintro D σ H ⟨c0,rfl,rfl,j,h⟩;rw[ah]at h;have⟨d,st',e,h⟩:=h;unfold qU at e;split at e
 rotate_left
 .cases e
 rename_i ks us k;cases e;have⟨v,f,r,er⟩:=j.sl i _ _ k;subst er;have⟨kvs,p,g2,g3,g4,g5,g6⟩:=j.dd.kd i _ r k f;show⟨r,kvs,p,λo=>?_⟩;have⟨J1,n1⟩:=Ok.HN j (Nx.refl c0) k f;have KW:i<c0.st.length:=(dt.mp k).1;have⟨Ke,n2,nR⟩:=Ok.HQ (o':=.KY o (.dK kvs)) J1 (i:=i) (u:=.JU ks us) (r:=r) (by change(c0.st.set i _)[i]?=_;rw[d5 KW]) f;let b:Cf:={S:=λa=>c0.S a\/a∈c0.kid i,H:=upd c0.H r (.KY o (.dK kvs)),σ:=c0.σ,st:=c0.st.set i b6,kid:=c0.kid}
 have Vk:(c0.st.set i (a5 (Kd.own,U.JU ks us))).set i b6=c0.st.set i b6:=by rw[ĵ]
 have l:({ ({c0 with S:=λa=>c0.S a\/a∈c0.kid i,st:=c0.st.set i (a5 (.own,.JU ks us))}:Cf) with H:=upd c0.H r (.KY o (.dK kvs)),st:=(c0.st.set i (a5 (Kd.own,U.JU ks us))).set i b6}:Cf)=b:=by rw[Vk]
 have m:Ok C b:=l▸Ke;have ZQ:Ns c0 b:=n1.toNs.trans (l▸n2);have ZR:¬b.R r:=l▸nR;have Lz:au C b.S b.H us (kvs.map (·.2)):=by
  rw[g3];have:=(dB.rep (S':=b.S) (λa=>.inl) (λa ha=>.inr ha) g6).mv (show Mv b.S c0.H b.S b.H from⟨λa z=>z,λa ob q tp=>?_,λa ob z q=>?_⟩)
  .show this
  .have:a≠r:=λy=>by subst y;rw[p]at q;cases q;show tp
   change upd c0.H r _ a=_;rw[ak this];show q
  .have:a≠r:=λy=>by
    subst y;rcases z with z|z
    .show(g5 a (by simp)).1 z
    .show(l0.mp g4).1 z
   change upd c0.H r _ a=_;rw[ak this];show q
 show⟨r,o,kvs,f,ax,?_⟩;rw[hl];show nV (c0:=b) (c1:=b) (rs:=[]) (xs:=pE (ks,us)) rfl m (Nx.refl b) (zi ax ZR m g2 Lz) ?_;rw[ah]at h;show h.mono λvs st2 w=>?_;rw[show retS (.own,.lst vs)=pure (.rt .own (.lst vs)) from rfl,aq]at w;rw[aq];intro c v hσ J3 Kf n rt;have⟨r0,e,h1,h2,h3,h4⟩:=rt;show w c J3 Kf (ZQ.trans n.toNs) (Kept.of hσ) v ⟨r0,e,(m.kC h1).1,h2,h3,h4⟩
end
section
variable{X:Cx}{C:Ct}{a:kr}{ma:M (Kd×U)}{apos G':Pos}{i:Nat}{x:Str}{px:Pos}
def Ok.zj(b:Ok C c)(hk:k.root=bD)(hs:c.st[i]?=a5 (a5 (k,.lst us))):∃a vs,c.σ[i]?=a5 (a5 (.ref a))/\c.H a=a5 (.lst vs)/\au C c.S c.H us vs:=by
 have⟨v,d,e⟩:=b.sl i k _ hs;obtain⟨r,rfl,_,_,_,vs,f,g⟩:=e.rt hk;show⟨r,vs,d,f,g⟩
theorem au.eraseIdx{S:d8->Prop}:∀{us:List U}{vs:List V} (n:Nat),au C S H us vs->au C S H (us.eraseIdx n) (vs.eraseIdx n)
 |[],_,n,h=>by cases h;simp[au]
 |u::us,vs,0,h=>by
  have⟨v,r,rfl,c,b⟩:=h;show b
 |u::us,vs,n+1,h=>by
  have⟨v,r,rfl,c,b⟩:=h;show⟨v,_,rfl,c,b.eraseIdx n⟩
def Ok.out(g:Ok C c)(n:Nx c0 c)(q:c.σ=c0.σ)(hk:k.root=bD)(hs:c.st[i]?=a5 (a5 (k,.lst us)))(h:c.σ[i]?=a5 (a5 (.ref r)))(s:au C c.S c.H f b)(y:Rep C c.S c.H u v)(w:cn C c0 Q (.loc,u) (c.st.set i (a5 (k,.lst f)))):Q v (upd c.H r (.lst b)):=by
 have A:Mv c.S c.H c.S (upd c.H r (.lst b)):=by
  have⟨v',d,l⟩:=g.sl i k _ hs;rw[h]at d;cases d;obtain⟨p,B,D,_,_,G⟩:=l.rt hk;cases B;have⟨o,ho,I⟩:=G.some;show⟨λ_ z=>z,λa o' e t=>by rw[ak (λz=>by subst z;rw[ho]at e;cases e;show I t)];show e,λa o' z e=>by rw[ak (λJ=>by subst J;show D z)];show e⟩
 have⟨L,N⟩:=g.mod (H':=upd c.H r (.lst b)) (u':=.lst f) n.toNs hk hs h (λa ne=>ak ne) ⟨_,ax⟩ λO=>⟨b,ax,s.mv O⟩
 have T:∀a,({c with H:=upd c.H r (.lst b),st:=c.st.set i (a5 (k,.lst f))}:Cf).Qq a->c0.Qq a/\∀o,c0.H a=a5 o->upd c.H r (.lst b) a=a5 o:=λa Y=>by
  have⟨j,u',p,d,l,e3⟩:=Y;have hj:j≠i:=λz=>by
   subst z;rw[d5 (dt.mp hs).1]at d;cases d;cases hk
  have KQ:c.st[j]?=a5 (a5 (.JS,u')):=by rw[<-d];show(hH (nC hj)).symm
  have m:c.RD j a:=⟨u',p,KQ,l,e3⟩
  have UU:a≠r:=λz=>g.dd.d1 j a m (z▸⟨i,k,_,hk,hs,h⟩);show⟨(n.dk a ⟨j,m⟩).1,λo e=>by rw[ak UU];show(n.dk a ⟨j,m⟩).2 o e⟩
 show w {c with H:=upd c.H r (.lst b),st:=c.st.set i (a5 (k,.lst f))} v q rfl L ⟨N,T⟩ (y.mv A)
def CN(g:X.N[i]?=a5 x)(j:LJ X.env.scope x)(l:(x==("__debug__":Str))=cc)(m:(x==("__classdict__":Str))=cc)(n:(apos.endLine==G'.line)=bD)(o:C.K=X.K):
  PE X (.Call (.Attribute (.Name x px) "pop" apos) [] [] G') (JX C (yP i)):=by
 show PE.weak (EU PySem.F.plainAttrs_list PySem.F.slot_list_pop PySem.F.type_list_pop EV (bT g j l m) rfl n) ?_;rintro σ H Q ⟨c0,rfl,rfl,c,h⟩;have⟨r,st',e,w⟩:=h;unfold yP at e;split at e
 .rename_i k us hs;split at e
  .rename_i hk;split at e
   .rename_i u q;cases e;have⟨p,vs,d,f,b⟩:=c.zj hk hs;have⟨v,s,t⟩:=b.get q;have hl:=b.len;show⟨_,d,.inl ⟨rfl,vs,o▸Ko.of f⟩,p,vs,v,rfl,rfl,f,by rw[<-hl];show s,?_⟩;show c.out (Nx.refl c0) rfl hk hs d ?_ t w;rw[Â,Â,hl];show b.take _
   .cases e
  .cases e
 .cases e
def HR(b:0<=j)(h:j.toNat<n):X3 j n=a5 j.toNat:=by
 simp only[X3];rw[Ŧ (show ¬j<0 by lia),ť (by rw[cb,Ť,Ť];lia)]
def xg{st:aw}(h:W (wV i u) st Q):∃(j:Int) (k:Kd) (us:List U) (y:U),u=.int j/\k.root=bD/\0<=j/\j<1000000/\st[i]?=a5 (a5 (k,.lst us))/\us[j.toNat]?=a5 y/\Q (.loc,y) (st.set i (a5 (k,.lst (us.eraseIdx j.toNat)))):=by
 have⟨r,st',e,w⟩:=h;cases u with
 |int j =>
  unfold wV at e
  dsimp only at e
  split at e
  .rename_i k us hs;split at e
   .rename_i hk;split at e
    .rename_i y b;cases e;show⟨j,k,us,y,rfl,hk.1,hk.2.1,hk.2.2,hs,b,w⟩
    .cases e
   .cases e
  .cases e
 |_=>cases e
def zk(o:C.K=X.K)(q:X.N[i]?=a5 x)(s:LJ X.env.scope x)(u:(x==("__debug__":Str))=cc)(A:(x==("__classdict__":Str))=cc)(B:PE X a (JX C ma))
  (D:((Kg G' (hZ [a] X.env)).all (λx=>!x.1)&&(Rw G' (MN [] X.env)).all (λx=>x.1.isSome)
   && cK ([a].length+([]:List O6).length+(if ([]:List O6).isEmpty then 0 else 1)<30))=bD)
  (G:(apos.endLine==G'.line)=bD) (e:hZ [a] X.env=[(cc,ve a X.env)]) :
  PE X (.Call (.Attribute (.Name x px) "pop" apos) [a] [] G') (JX C (dC i >>= λx=>Of x.2 >>= λ_=>ma >>= λy=>wV i y.2)):=by
 show PE.weak (nz PySem.F.plainAttrs_list PySem.F.slot_list_pop PySem.F.type_list_pop x9 (bT q s u A) (cX B fi e) rfl D G e rfl) ?_;rintro σ H Q ⟨c0,rfl,rfl,b,h⟩;rw[ah]at h;have⟨k0,I,J,L,h⟩:=dn h;have⟨O,f,T⟩:=b.slot J L;show⟨O,f,?_⟩;cases I with
 |lst Y =>
  rw[ah,show Of (U.lst Y)=pure () from rfl,aq]at h;obtain⟨a0,O_,d,Qb,_⟩:=T.list b;show⟨by rw[d];show .inl ⟨rfl,O_,o▸Qb⟩,?_⟩;show aQ b h λr c v t w=>?_;have⟨j,k,us,y,ej,hk,j0,j1,hs,hu,w⟩:=xg w;have⟨p,vs,g,h2,l⟩:=t.ok.zj hk hs;have hp:p=a0:=by
   have:=g;rw[t.hσ,f,d]at this;cases this;rfl
  subst hp;have⟨z,m,g2⟩:=l.get hu;have NA:j.toNat<vs.length:=(dt.mp m).1;have n:=t.rx;rw[ej]at n;have ev:=n.int t.ok;show⟨p,vs,j,j.toNat,z,d,by rw[ev],h2,Ň (by decide) j0,Int.lt_trans j1 (by decide),HR j0 NA,m,t.ok.out t.nx t.hσ hk hs g (l.eraseIdx _) g2 w⟩
 |_=>rw[ah]at h;show(bw.mp h).elim
end
end TM
namespace TM
open PySem L2 PyProof.Rows PySem.W
section
variable{X:Cx}{C:Ct}{pins:List (d8×Obj)}{s:d6}{c0 c c1:Cf}
variable{a b tt:kr}{e:kr}{es:List kr}{ms:M (List (Kd×U))}{ns:Nat->Bool}
abbrev Qz(X:Cx)(C:Ct)(pins:List (d8×Obj))(c0:Cf)(Post:Str->aw->Prop)(v:dV)(s':d6):Prop :=
 ∃(c:Cf) (s1:d6) (d T f:d8) (H':Hp) (cl:Str),v=.ref d/\c.σ=c0.σ/\Ok C c/\Nx c0 c/\Inv X pins c0.σ c.H s1/\cj X.prog X.w X.stack c.H s1 d f (a5 T) .none H' s'/\qp c.H H'/\nsIn X.K i9 cl=a5 (a5 (.ref f))/\Post cl c.st
abbrev PR(X:Cx)(C:Ct)(e:kr)(m:M (Sum (Kd×U) Str)):Prop:=∀(pins:List (d8×Obj)) (s:d6) (c0:Cf) (Post:Sum (Kd×U) Str->aw->Prop),Inv X pins c0.σ c0.H s->Ok C c0->W m c0.st Post ->
 d3 (eH X.prog X.w) X.A (ve e X.env) (λu s2=>∃r c v,Ml C c0 c r v/\Inv X pins c0.σ c.H s2/\RelV v u/\Post (.inl r) c.st) (Qz X C pins c0 λcl st=>Post (.inr cl) st) s
def F_
  (Y:C.P=X.prog) (hw:C.w=X.w) (hK:C.K=X.K) (hF:Γ f=F) (hk:∀us k u,F us=a5 (.ok (k,u))->(k=.own\/k=.loc\/k=.any)/\us.length=n) (KD:∀us c,F us=a5 (.exc c)->us.length=n)
  (G:jv X.prog X.w X.K X.mg X.base (Pl X.prog X.w) kd fa fd ps (spT X.prog X.w X.K F n)) (hr:fJ kd X.A) (hg:Gl X f) (hm:X.mg f=a5 (.ref fa)) (Pk:PySem.W.keepIn X.K (.ref fa)=bD) (o:Binds X.K fd ps []) (MY:(f==("__debug__":Str))=cc)
  (ha:PA X.MG (e::es) (Lq C ms)) (he:hZ (e::es) X.env=(cc,ve e X.env)::hZ es X.env) (KC:(Kg p3 (hZ es X.env)).any (·.1)=cc) :
  PR X C (.Call (.Name f p2) (e::es) [] p3) (ms >>= λrs=>aE rs >>= λ_=>dE Γ f (rs.map (·.2))):=by
 intro pins s c0 Post I ok h;show tr (gu I hg hm ?_ MY);show PySem.W.callWith_K (h₀:=X.base) I.ok.mod.P5 Pk (mA (args (X:=X.MG) ha (I.kn _) ok h p3) (λus s1 z=>?_) λ_ _ z=>z.elim) he KC;have⟨rs,c,vs,t,l,rv,w⟩:=z;have l:=l.fM;show⟨l.Nf,?_⟩;have m:C.Eqv (Oi X.prog X.w X.K c.H (LV c.H)):=⟨Y,hw,hK⟩
 have MD:(Oi X.prog X.w X.K c.H (LV c.H)).Eqv C:=⟨Y.symm,hw.symm,hK.symm⟩
 have p:=t.read;have i:∀(k1:Kd) (u:U),F (rs.map (·.2))=a5 (.ok (k1,u))->k1=.own\/k1=.loc->Post (.inl (k1,u)) c.st ->
   d3 (eH X.prog X.w) X.A (OS (.ref fa) us) (λu s2=>∃r c v,Ml C c0 c r v/\Inv X pins c0.σ c.H s2/\RelV v u/\Post (.inl r) c.st) (Qz X C pins c0 λcl st=>Post (.inr cl) st) s1:=λk1 u g Rk q=>by
  have⟨k0,k2⟩:=hk _ _ _ g;have x:spT X.prog X.w X.K F n vs c.H (λv H'=>∃d,Ml C c0 d (k1,u) v/\d.H=H'/\d.st=c.st) E0:=⟨by rw[<-p.len];show k2,rs.map (·.2),.ok (k1,u),LV c.H,g,λ_ z=>z,p.cg m,k0,λv H' S' o=>o.here (Q:=λv H'=>∃d,Ml C c0 d (k1,u) v/\d.H=H'/\d.st=c.st) Rk t.hσ t.ok t.nx MD λd v2 y B Ke n2 D=>⟨d,⟨y,Ke,n2,D⟩,rfl,B⟩⟩
  show mA (uT (EE:=Qz X C pins c0 λcl st=>Post (.inr cl) st) G hr o l rv x λ_ _ ⟨_,_,_,_,_,_,z⟩=>z.elim) (λv s2 ⟨v',H2,I2,D,d,t2,J,L⟩=>?_) λ_ _ z=>z;rw[t.hσ]at I2;subst J;show⟨_,d,v',t2,I2,D,L▸q⟩
 obtain⟨r,st',j,q⟩:∃r st',dE Γ f (rs.map (·.2)) c.st=a5 (.ok r,st')/\Post r st':=w;unfold dE at j;rw[hF]at j;split at j
 .rename_i u g;cases j;show i _ u g (.inl rfl) q
 .rename_i u g;cases j;show i _ u g (.inr rfl) q
 .rename_i cl g;cases j;have x:spT X.prog X.w X.K F n vs c.H (λ_ _=>False) (λv _ H'=>(∃N,v=.ref N/\nsIn X.K i9 cl=a5 (a5 (.ref N)))/\qp c.H H'):=⟨by rw[<-p.len];show KD _ _ g,rs.map (·.2),.exc _,LV c.H,g,λ_ z=>z,p.cg m,λO H1 h1 h2=>⟨⟨O,rfl,h1⟩,h2⟩⟩
  show mA (uT (EE:=Qz X C pins c0 λcl st=>Post (.inr cl) st) G hr o l rv x λv s' ⟨ea,O,T,H',y,F',⟨N,B,J⟩,L⟩=>?_) (λv s2 ⟨_,_,_,_,z⟩=>z.elim) λ_ _ z=>z;cases B;show⟨c,s1,ea,T,O,H',cl,y,t.hσ,t.ok,t.nx,by rw[<-t.hσ];show l,F',L,J,q⟩
 .cases j
def HS(x:PT X.MG tt (Le C y))(B:PR X C a k)(D:PR X C b l):PR X C (.IfExp tt a b pos) (y >>= λp=>if p=bD then k else l):=by
 intro pins s c0 Post I G h;show wpAny_IfExp (mA (x pins s c0.σ c0.H (λp o=>∃c,c.H=o/\c.σ=c0.σ/\Ok C c/\Nx c0 c/\W (if p=bD then k else l) c.st Post) (I.kn _) (dX G h λp c e i n w=>⟨c,rfl,e,i,n,w⟩)) (λp s1 ⟨o,g,c,J,d,i,n,w⟩=>?_) λ_ _ z=>z.elim);subst J;have g:=g.fM;rw[<-d]at g;have f:∀{e:kr} {m:M (Sum (Kd×U) Str)},PR X C e m->W m c.st Post->d3 (eH X.prog X.w) X.A (ve e X.env) (λu s2=>∃r c v,Ml C c0 c r v/\Inv X pins c0.σ c.H s2/\RelV v u/\Post (.inl r) c.st) (Qz X C pins c0 λcl st=>Post (.inr cl) st) s1:=λ{e m} L w=>by
  show mA (L pins s1 c Post g i w) (λu s2 ⟨r,j,v,t,N,rv,q⟩=>?_) λv s2 z=>?_
  .show⟨r,j,v,⟨t.hσ.trans d,t.ok,n.trans t.nx,t.rx.from n⟩,by rw[<-d];show N,rv,q⟩
  .have⟨j,s3,O,T,Q,H',cl,Y,hσ,Kf,n0,I3,F,hs,hn,q⟩:=z;show⟨j,s3,O,T,Q,H',cl,Y,hσ.trans d,Kf,n.trans n0,by rw[<-d];show I3,F,hs,hn,q⟩
 cases p with
 |true=>rw[ť rfl]at w;show f B w
 |false=>rw[Ŧ i7]at w;show f D w
def HU(f:PR X C a m)(hs:PZ a b6 pos.line X.env=pure cc)
  (g:∀c H',C.xw (.str c) H'->∀d T H pins σ s e s',nsIn X.K i9 c=a5 (a5 (.ref d))->Inv X pins σ H s->cj X.prog X.w X.stack H s e d T .none H' s'->X.xe (.ref e) s'):L2.PS X (.Expr a pos) (KH C ns (m >>= B8)):=by
 rintro pins s σ H D I ⟨c0,rfl,rfl,i,h⟩;rw[ah]at h;show ŏ (mA (f pins s c0 _ I i h) (λu s2 ⟨r,c,v,t,j,rv,q⟩=>?_) λv s2 z=>?_) I.quiet hs
 .rw[show B8 (.inl r)=pure .nx from rfl,aq]at q;have z:D.nx c.σ c.H:=q c rfl t.ok t.nx (Kept.of t.hσ);rw[t.hσ]at z;show⟨c0.σ,c.H,j,z⟩
 .have⟨c,s1,k,T,l,H',cl,rfl,n,o,p,x,F,hs,y,q⟩:=z;rw[show B8 (.inr cl)=pure (.rt .io (.str cl)) from rfl,aq]at q;have⟨A,B⟩:=o.grow (H':=H') (S':=c.S) hs (λa z=>.inl z) λa z=>z;show g cl H' (q {c with H:=H' } rfl A (p.trans B) (Kept.of n)) l _ c.H pins _ s1 k s2 y x F
def zl(l:∀m,ns m=bD->m≠k/\m≠j)(x:C.K=X.K)(y:Ok C c0)(A:Ok C c)(n:Nx c0 c)(f:c.σ=c0.σ)(B:k<c.σ.length)(hs:qp c.H H')(p:H' d=b6)(G:oe.cls=.ref t)(I:nsIn X.K i9 cl=a5 (a5 (.ref t)))(v:V)
  (w:W (kF cs i j k (.inr cl)) c.st (fF C c0 ns D)):D.nx (((c0.σ.set j (a5 v)).set k (a5 (.ref d))).set j b6) (upd H' d (.KY oe (.ext λ_=>True))):=by
 have⟨r,st',e,q⟩:=w;unfold kF at e
 dsimp only at e
 split at e
 .rename_i J;split at e
  case isFalse=>cases e
  rename_i L;have N:c.H d=b6:=by
   cases z:c.H d with
   |none=>rfl
   |some o=>rw[hs d o z]at p;cases p
  have⟨O,Q⟩:=A.kill J;have⟨T,Y⟩:=O.grow (H':=upd H' d (.KY oe (.ext λ_=>True))) (S':=c.S) (λa o z=>by
   rw[ak (bu z N)];show hs a o z) (λa z=>.inl z) λa z=>z
  have⟨g,h,e2,J7,n',w'⟩:=pK (r:=(.loc,.exc cl)) (v:=.ref d) (i:=k) y T ((n.trans Q).trans Y) (by simpa using B)
   (show Rep C c.S _ _ _ from⟨d,rfl,oe,t,ax,G,x▸I⟩) (Post:=λ_ LO=>fF C c0 ns D .nx LO) (by
    have z:W (eN k (.loc,.exc cl) >>= λ_=>(pure .nx:M Fl)) c.st (fF C c0 ns D):=⟨r,st',e,q⟩
    rw[ah]at z;show z.mono λ_ st z=>aq.mp z)
  have es:(((c0.σ.set j (a5 v)).set k (a5 (.ref d))).set j b6)=(c0.σ.set j b6).set k (a5 (.ref d)):=by
   rw[List.set_comm _ _ L.1,ĵ]
  have z:D.nx g.σ g.H:=w' g rfl J7 n' ⟨λm u=>by
   rw[h];change((c.σ.set j b6).set k _)[m]?=_;rw[hH (nC (l m u).1),hH (nC (l m u).2),f],by rw[h];simp[f]⟩
  rw[h,e2]at z;rw[es,<-f];show z
 .cases e
def HV(K7:∀m,ns m=bD->m≠i/\m≠k/\m≠j)(J:X.N.Nodup)(hi:X.N[i]?=a5 y)(hy:Loc X.env.scope y)(ZU:X.fn y=bD)(L:X.N[j]?=a5 n)(O:X.env.scope.names.lookup n=a5 .local)
  (hk:X.N[k]?=a5 z) (hz:Loc X.env.scope z) (ZV:X.fn z=bD) (hK:C.K=X.K) (hr:PR X C a m) (NT:PZ a (a5 (.Name y p1)) p4.line X.env=pure cc) (G:X.stack=X.env::X.outer/\X.env.frame=a5 X.env.locals) (hx:X.ex=[]) (ZW:Gl X x) (ZX:X.mg x=a5 (.ref Dc)) (ZY:(x==("__debug__":Str))=cc)
  (ZZ:∀cl∈cs,∀l,nsIn X.K i9 cl=a5 (a5 (.ref l))->exmOne X.K (.ref l) (.ref Dc)=a5 bD) (Kc:(n==("__debug__":Str))=cc) (Z0:(n==("__classdict__":Str))=cc) :
  L2.PS X (.Try [.Assign [.Name y p1] a p4] [.ExceptHandler (a5 (.Name x p5)) (a5 n) [.Assign [.Name z p6] (.Name n p9) Xa] Z1] [] [] pos) (KH C ns (m >>= kF cs i j k)):=by
 rintro pins s σ H D' I ⟨c0,rfl,rfl,ok,h⟩;have KW:i<c0.σ.length:=by rw[I.len];show(dt.mp hi).1
 have Nu:k<c0.σ.length:=by rw[I.len];show(dt.mp hk).1
 rw[ah]at h;show wpAny_Try_except (mA (Q:=λf s1=>f=Flow.next/\SP X pins D' .next s1) (E:=Qz X C pins c0 λcl st=>W (kF cs i j k (.inr cl)) st (fF C c0 ns D')) ?_ (λf s1 z=>?_) λv s1 z=>?_)
 .show Ĺ (ħ (mA (hr pins s c0 _ I ok h) (λu s2 ⟨r,c,v,t,I2,rv,q⟩=>?_) λ_ _ z=>z) NT);show iA I2 J hi hy rv (λs3 Y=>S0 ⟨rfl,_,c.H,Y,lP (λm z=>(K7 m z).1) ok t (by rw[t.hσ];show KW) q⟩) (.inl ZU)
 .have⟨rfl,z⟩:=z;show S0 z
 .have⟨c,s0,d,T,l,H',cl,rfl,hσ,Kf,n0,B,F1,hs,Nn,w⟩:=z;have Lw:cl∈cs:=by
   obtain⟨r,st',e,_⟩:=w;unfold kF at e
   dsimp only at e
   split at e
   .split at e
    case isFalse=>cases e
    rename_i q;show q.2
   .cases e
  have ab:=ZZ cl Lw l Nn;have MX:s0.heap.FunFrames X.base (X.env::X.outer):=by rw[<-G.1];show B.stack
  have ML:∀b∈Kx (X.env::X.outer),c.H b=b6:=by rw[<-G.1];show B.kJ
  have hA:X.A.frames=a5 (X.env::X.outer):=by rw[<-G.1];show B.ok.frames
  rw[G.1]at F1;show F1.note hA G.2 MX ML λT2 s2 F2=>F2.land MX ML λT3 s3 F3=>?_;have ac:∀{T:Option d8} {D:dV} {s':d6},cj X.prog X.w (X.env::X.outer) c.H s0 d l T D H' s'->Inv X pins c0.σ H' s':=λ{T D s'} F=>B.DM (ch:=[]) F.os (by rw[G.1];show F.un) F.JV F.bare λb z=>nomatch z
  have g:∀b o,s0.heap.get? b=a5 o->b≠d:=λb o q z=>by rw[z,F1.new]at q;cases q
  have Qj:d≠X.env.locals/\d∉X.fs:=by
   obtain⟨m,⟨o,_,_,ho,_⟩,_⟩:=B.loc;show⟨nC (g _ o ho),λz=>?_⟩;obtain⟨_,o,q,_⟩:=MX.mem (P'.mpr (by
    have⟨env,h1,h2⟩:=P'.mp z;show⟨env,ko _ h1,h2⟩))
   show g _ o q rfl
  have Nw:∀{T:Option d8} {D:dV} {s':d6} (E:dV->d6->Prop),cj X.prog X.w (X.env::X.outer) c.H s0 d l T D H' s'->∃oe,s'.heap.get? d=a5 oe/\oe.cls=.ref l/\Inv (X.Nw d oe E) pins c0.σ H' s':=λ{T D s'} E F=>by
   obtain⟨a0,oe,vs,h1,h2,h3,_⟩:=F.exc;show⟨oe,h1,h2,(ac F).Nw h1 F.he Qj.1 Qj.2 λv z=>by rw[h3]at z;cases z⟩
  show wpAny_handleBy_cons (codeAny_handlers_test ?_) λz=>nomatch z
  have⟨ag,g1,g2,Y⟩:=Nw (Vb (eH X.prog X.w) (X.A.mark (a5 (.ref d))) X.env λx s'=>cameBackBy (eH X.prog X.w) X.A X.env X.xe x s') F3;show gu Y ZW ZX ?_ ZY;have LT:ĭ (eH X.prog X.w) s3.heap (Þ (.ref d)) (.ref l):=by
   show(ś g1).andThen ?_;rw[g2];show .now
  show(exm_one Y.Nf LT ab).here (codeAny_handlers_suite_as ?_);show F3.land MX ML λT4 s4 F4=>?_;have⟨SY,g3,g4,I4⟩:=Nw (λ_ _=>False) F4;show iA (X:=X.Nw d SY λ_ _=>False) I4 J L (.inl O) (v:=.ref d) rfl (λs5 I5=>?_) (.inr O);have pt:=sd (X:=X.Nw d SY λ_ _=>False) (pos:=Xa) (pos':=p6) J hk hz (bT (pos:=p9) L (.inl O) Kc Z0) rfl (.inl ZV);show mA ((qj pt ur) pins s5 _ H' {nx:=λσ H=>σ=(c0.σ.set j (a5 (.ref d))).set k (a5 (.ref d))/\H=H',rt:=λ_ _=>False} I5 ?_) (λD s6 z=>?_) λ_ _ z=>z.elim
  .show⟨.ref d,d5 (by rw[I.len];show(dt.mp L).1),rfl,rfl⟩
  .cases D with
   |next =>
    obtain⟨_,_,I6,rfl,rfl⟩:=z;show Inv.gone (X:=X.Nw d SY λ_ _=>False) I6 J L O λs7 I7=>?_;have g7:=(I7.pin (d,SY) mf).1;show⟨_,_,(I7.JB I.ok).Hr g7 F4.he ?_ Qj.1 (λx c q=>?_) (λp hp=>?_),zl (X:=X) (λm z=>(K7 m z).2) hK ok Kf n0 hσ (by rw[hσ];show Nu) hs F4.he g4 Nn _ w⟩
    .cases q:X.s₀.heap.get? d with
     |none=>rfl
     |some o =>
      have⟨o',q'⟩:=B.base.there d o q (by rw[hx];show λz=>nomatch z);show absurd rfl (g d o' q')
    .obtain⟨v,o,q,_⟩:=B.cell x c q;show g c o q
    .show g p.1 p.2 (B.pin p hp).1
   |ret v=>obtain⟨_,_,_,_,_,z⟩:=z;show z.elim
   |_=>obtain⟨_,_,_,z⟩:=z;show z.elim
def vg(n:C.K=X.K)(r:Gl X "isinstance")(y:X.mg "isinstance"=b6)(A:PE X a (JX C B))(G:PE X D (tC vD))(J:∀u,RelV vD u->u=dv)(hs:hZ [a,D] X.env=(cc,ve a X.env)::hZ [D] X.env)(L:hZ [D] X.env=(cc,ve D X.env)::hZ [] X.env)(N:(Kg j (hZ [D] X.env)).any (·.1)=cc)
  (O:∀q∈g,∀d,nsIn X.K i9 q.1=a5 (a5 (.ref d))->fU X.K d=bD/\kitOne X.K (.ref d) dv=a5 q.2) :
  PE X (.Call (.Name "isinstance" p) [a,D] [] j) (JX C (B >>= λx=>M.J8 (eX g x.2) >>= λb=>pure (.loc,.bl b))):=by
 rintro pins s σ H Q I ⟨c0,rfl,rfl,T,h⟩;show tr (cW I r y (show t5 "isinstance"=a5 (.builtin "isinstance") by decide +kernel) ?_ (by decide +kernel) (by decide +kernel));show P4 (JZ (cX A (cX G fi L) hs j pins s c0.σ c0.H (λvs H'=>∃x c v b,Ml C c0 c x v/\c.H=H'/\vs=[v,vD]/\eX g x.2=a5 b/\cn C c0 Q (.loc,.bl b) c.st) I ?_) λus s1 ⟨vs,H1,i,Y,x,c,v,b,t,e,e2,f,w⟩=>?_) hs N
 .show aQ T h λx c v t w=>?_;rw[ah]at w;have⟨b,e,w⟩:=bz.mp w;rw[aq]at w;show⟨x,c,v,b,t,rfl,rfl,e,w⟩
 .subst e e2;have⟨u1,u2,rfl,Vd,Ve⟩:=vals2 Y;obtain rfl:=J _ Ve;have⟨kx,ux⟩:=x;unfold eX at f;split at f
  .rename_i cl k
   dsimp only at k
   subst k;have⟨a,ea,o,d,h1,h2,l⟩:=t.rx.read t.ok;subst ea;cases Vd;rw[n]at l;obtain⟨q,hq,m⟩:∃q∈g,q=(cl,b):=⟨_,PySem.mem_of_lookup f,rfl⟩
   have⟨k1,k2⟩:=O _ hq d (by rw[m];show l);rw[m]at k2;show kia_one (yJ k1) i.Nf ⟨o,(i.JV a _ h1).1,h2⟩ k2 (λz=>nomatch z) λtk=>?_;show⟨.bl b,c.H,i.tok tk,rfl,w c (.bl b) t.hσ rfl t.ok t.nx rfl⟩
  .cases f
theorem ra{S:d8->Prop}:∀{us:List U}{vs:List V}{bs:List Bool},au C S H us vs->gT us=a5 bs->vs=bs.map V.bl
 |[],vs,bs,h,e=>by cases e;show h
 |.bl b::us,vs,bs,h,e=>by
  have⟨v,r,rfl,d,f⟩:=h;rw[gT,et]at e;have⟨g,e,rfl⟩:=e;rw[show v=V.bl b from d,ra f e];rfl
 |.J0::_,_,_,_,e=>nomatch e
 |.int _::_,_,_,_,e=>nomatch e
 |.str _::_,_,_,_,e=>nomatch e
 |.tup _::_,_,_,_,e=>nomatch e
 |.lst _::_,_,_,_,e=>nomatch e
 |.JU _ _::_,_,_,_,e=>nomatch e
 |.exc _::_,_,_,_,e=>nomatch e
abbrev HW:Bool->Str
 |true=>"index"
 |false=>"count"
def CO{d b:Bool}(D:C.K=X.K)(u:X.N[i]?=a5 x)(v:LJ X.env.scope x)(y:(x==("__debug__":Str))=cc)(z:(x==("__classdict__":Str))=cc)(A:(g.endLine==G.line)=bD):
  PE X (.Call (.Attribute (.Name x px) (HW d) g) [.Constant (.bool b) q p2] [] G) (JX C (sV d i b)):=by
 have go:∀(σ:L2.St) (H:Hp) (Q:VK),JX C (sV d i b) σ H Q->∃(p:d8) (bs:List Bool),σ[i]?=a5 (a5 (.ref p))/\Ko X.K H p (bs.map V.bl)/\H p=a5 (.lst (bs.map V.bl))/\(d=bD->b∈bs/\Q (.int (bs.idxOf b:Nat)) H)/\(d=cc->Q (.int (bs.count b:Nat)) H):=by
  rintro σ H Q ⟨c0,rfl,rfl,n,h⟩;have⟨r,st',e,w⟩:=h;unfold sV at e;split at e
  .rename_i k us hs;split at e
   .rename_i hk;split at e
    .rename_i bs I;have⟨p,vs,j,f,l⟩:=n.zj hk hs;have J:=ra l I;subst J;show⟨p,bs,j,D▸Ko.of f,f,λo=>?_,λo=>?_⟩
     .subst o;rw[ť rfl]at e;split at e
      .rename_i t;cases e;show⟨t,w c0 _ rfl rfl n (Nx.refl c0) rfl⟩
      .cases e
     .subst o;rw[Ŧ i7]at e;cases e;show w c0 _ rfl rfl n (Nx.refl c0) rfl
    .cases e
   .cases e
  .cases e
 cases d with
 |false =>
  show PE.weak (nz PySem.F.plainAttrs_list PySem.F.slot_list_count PySem.F.type_list_count yG (bT u v y z) (cX (qi (b:=b)) fi rfl) rfl rfl A rfl rfl) ?_;intro σ H Q h;obtain⟨p,bs,j,f,l,_,L⟩:=go σ H Q h;show⟨_,j,.inl ⟨rfl,_,f⟩,p,bs,b,rfl,rfl,l,L rfl⟩
 |true =>
  show PE.weak (nz PySem.F.plainAttrs_list PySem.F.slot_list_index PySem.F.type_list_index yH (bT u v y z) (cX (qi (b:=b)) fi rfl) rfl rfl A rfl rfl) ?_;intro σ H Q h;obtain⟨p,bs,j,f,l,O,_⟩:=go σ H Q h;have⟨t,T⟩:=O rfl;have B:=List.idxOf_lt_length_of_mem t;show⟨_,j,.inl ⟨rfl,_,f⟩,p,bs,b,bs.idxOf b,rfl,rfl,l,?_,λm Y hh=>?_,T⟩
  .rw[kj B,List.getElem_idxOf B]
  .have:=List.not_of_lt_findIdx (p:=(·==b)) (xs:=bs) Y;have⟨h6,h7⟩:=dt.mp hh;rw[h7]at this;simp at this
end
end TM
namespace TM
open PySem L2 PyProof.Rows
@[reducible]def NG(P:va)(w:w6)(K:PySem.W.Frag)(H:Hp)(a IO:d8->Prop):Ct:=⟨P,w,K,H,a,IO,λ_ _=>False⟩
structure DW(C:Ct)(H H':Hp)(S':d8->Prop)(is:List Nat)(vs:List V)(ws:List U)(k:Kd)(u:U)(v:V):Prop where
 same:∀a o,H a=a5 o->¬C.IO a->H' a=a5 o
 new:∀a,S' a->H a=b6/\∃o,H' a=a5 o
 own:k=.own->∃r,v=.ref r/\H r=b6/\¬S' r/\c6 C S' H' r u
 loc:k=.loc->Rep C S' H' u v
 len:ws.length=is.length
 L6:∀(n i:Nat) (r:d8) (w:U),is[n]?=a5 i->vs[i]?=a5 (.ref r)->ws[n]?=a5 w->c6 C S' H' r w
structure Ga(C:Ct)(H:Hp)(is:List Nat)(us:List U)(vs:List V):Prop where
 len:us.length=vs.length
 par:∀a,C.Mu a->LV H a/\¬C.IO a
 Xb:∀a,C.IO a->LV H a
 io:∀(i:Nat) (u:U),i∈is->us[i]?=a5 u->∃r,vs[i]?=a5 (.ref r)/\C.IO r/\c6 C (λ_=>False) H r u
 any:∀(i:Nat) (u:U),i∉is->us[i]?=a5 u->∃v,vs[i]?=a5 v/\Rep C C.Mu H u v
 inj:∀(i j:Nat) (r:d8),i∈is->j∈is->vs[i]?=a5 (.ref r)->vs[j]?=a5 (.ref r)->i=j
 L6:∀a,C.IO a->∃i∈is,vs[i]?=a5 (.ref a)
abbrev S3(P:va)(w:w6)(K:PySem.W.Frag)(F:List U->Option (Ex (Kd×U)))(b:Nat)(is:List Nat):Sp:=λvs H Q _=>vs.length=b/\∃us k u ws a IO,F us=a5 (.ok (k,.tup (u::ws)))/\(k=.own\/k=.loc)/\Ga (NG P w K H a IO) H is us vs /\
 ∀v H' S',DW (NG P w K H a IO) H H' S' is vs ws k u v->Q v H'
theorem map_inj:∀{l:List α},(l.map f).Nodup->∀x∈l,∀y∈l,f x=f y->x=y
 |[],_,_,h,_,_,_=>by cases h
 |a::l,h,x,g,y,c,e=>by
  rw[d4,l0]at h;rcases d7.mp g with d|h1
  .rcases d7.mp c with b|h2
   .rw[d,b]
   .show absurd (ki.mpr ⟨y,h2,by rw[<-e,d]⟩) h.1
  .rcases d7.mp c with b|h2
   .show absurd (ki.mpr ⟨x,h1,by rw[e,b]⟩) h.1
   .show map_inj h.2 x h1 y h2 e
section
def xh(h:il rs p=a5 j):∃us,rs[p]?=a5 (.bor j,.lst us)/\cV us=bD:=by
 unfold il at h;split at h
 .split at h
  .cases h;show⟨_,by assumption,by assumption⟩
  .cases h
 .cases h
def MB.Xc(t:MB C c0 c rs vs){i:Nat}(h:rs[i]?=a5 r):∃v,vs[i]?=a5 v/\aT C c0 c r.1 r.2 v:=by
 have d:∀(l:List (Kd×U)) (w:List V),cQ C c0 c l w->bc l c.st->∀(i:Nat) (r:Kd×U),l[i]?=a5 r->∃v,w[i]?=a5 v/\aT C c0 c r.1 r.2 v:=by
  intro l;induction l with
  |nil=>intro w _ _ i r e;simp at e
  |cons x l f =>
   intro w h hs i r e;obtain⟨v,t',rfl,g,j,_⟩:=h;rw[eY]at hs;cases i with
   |zero=>simp at e;subst e;show⟨v,rfl,g.t hs.1⟩
   |succ i=>have⟨k,a,b⟩:=f t' j hs.2 i r (by simpa using e);show⟨k,by simpa using a,b⟩
 show d rs vs t.rep t.OM i r h
def MB.len(t:MB C c0 c rs vs):rs.length=vs.length:=by
 have:=t.read.len;rw[c4]at this;show this
theorem vh(q:C'.Eqv C){vs:List V}(hs:∀a,S' a->S1 a){IO:d8->Prop}(O:∀a,S' a->¬IO a)(y:∀a o,IO a->H' a=a5 o->¬Tp o):
  ∀(ps:List Nat) (ws:List U) (c:Cf) (st':aw),Ok C c->Ns c1 c->c.S=S1->gU rs ps ws c.st=a5 st'->(ps.map (il rs)).Nodup->(∀p∈ps,∀a,vs[p]?=a5 (.ref a)->IO a) ->
  (∀p∈ps,∀j,il rs p=a5 j->∃k u r,k.root=bD/\c.st[j]?=a5 (a5 (k,u))/\c.σ[j]?=a5 (a5 (.ref r))/\vs[p]?=a5 (.ref r)) ->
  (∀(n p:Nat) (r:d8) (w:U),ps[n]?=a5 p->vs[p]?=a5 (.ref r)->ws[n]?=a5 w->c6 C' S' H' r w)->(∀a,(∀p∈ps,vs[p]?≠a5 (.ref a))->c.H a=H' a)->(∀a,¬IO a->c.H a=H' a) ->
  ∃g:Cf,Ok C g/\Ns c1 g/\g.σ=c.σ/\g.S=S1/\g.st=st'/\g.H=H'/\g.kid=c.kid/\∀(j:Nat) (k:Kd) (u:U),g.st[j]?=a5 (a5 (k,u))->∃A,c.st[j]?=a5 (a5 (k,A))
 |[],ws,c,st',B,n,x,e,_,_,_,_,D,_=>by
  cases ws with
  |nil=>cases e;show⟨c,B,n,rfl,x,rfl,funext λa=>D a λp hp=>(by cases hp),rfl,λj k u e=>⟨u,e⟩⟩
  |cons _ _=>cases e
 |p::ps,ws,c,st',B,n,x,e,G,Q,T,rt,D,I=>by
  cases ws with
  |nil=>cases e
  |cons w ws =>
   simp only[gU]at e;split at e
   .rename_i j Y;split at e
    .rename_i us k0 ab J3;have⟨k,u,r,hk,s,e2,J⟩:=T p (by simp) j Y;rw[J3]at s;cases s;have s:=J3;have hr:=rt 0 p r _ rfl J rfl;have⟨xs,g1,g2⟩:=hr;have L:IO r:=Q p (by simp) r J;rw[d4,l0]at G;have⟨J7,n'⟩:=B.mod (H':=upd c.H r (.lst xs)) (u':=.lst us) n hk s e2 (λa ne=>ak ne) ⟨_,ax⟩ (λ_=>⟨xs,ax,by
      show(g2.cg q).mv ⟨λa z=>by rw[x];show hs a z,λa o h tp=>?_,λa o z h=>?_⟩
      .by_cases l:a=r
       .subst l;show absurd tp (y a o L h)
       .rw[ak l];by_cases v:IO a
        .show absurd tp (y a o v h)
        .rw[I a v];show h
      .have v:=O a z;have l:a≠r:=λe=>v (e▸L);rw[ak l,I a v];show h⟩)
     have KW:j<c.st.length:=(dt.mp s).1;have A1:∀f∈ps,∀t,il rs f=a5 t->∃k u r,Kd.root k=bD/\(c.st.set j (a5 (k0,.lst us)))[t]?=a5 (a5 (k,u))/\c.σ[t]?=a5 (a5 (.ref r))/\vs[f]?=a5 (.ref r):=λf hp t MI=>by
      have⟨k',u',N,a1,a2,a3,a4⟩:=T f (by simp[hp]) t MI;have ne:j≠t:=λz=>G.1 (ki.mpr ⟨f,hp,by rw[MI,Y,z]⟩);show⟨k',u',N,a1,by rw[hH ne];show a2,a3,a4⟩
     have A2:∀a,(∀f∈ps,vs[f]?≠a5 (.ref a))->upd c.H r (.lst xs) a=H' a:=λa l=>by
      by_cases h:a=r
      .subst h;rw[ax,g1]
      .rw[ak h];show D a λf hp z=>?_;rcases d7.mp hp with rfl|hp
       .rw[J]at z;cases z;show h rfl
       .show l f hp z
     have A3:∀a,¬IO a->upd c.H r (.lst xs) a=H' a:=λa l=>by
      have ne:a≠r:=λz=>l (by rw[z];show L);rw[ak ne];show I a l
     have⟨g,f1,f2,f3,f4,f5,f6,f7,f8⟩:=vh q hs O y ps ws {c with H:=upd c.H r (.lst xs),st:=c.st.set j (a5 (k0,.lst us))} st' J7 n' x e G.2 (λf hp=>Q f (by simp[hp])) A1 (λm f N w' a b d=>rt (m+1) f N w' (by simpa using a) b (by simpa using d)) A2 A3;show⟨g,f1,f2,f3,f4,f5,f6,f7,λi k' u' z=>?_⟩;have⟨A,z⟩:=f8 i k' u' z;by_cases hi:i=j
     .subst hi;have z:(c.st.set i (a5 (k0,.lst us)))[i]?=_:=z;rw[d5 KW]at z;cases z;show⟨_,s⟩
     .have z:(c.st.set j (a5 (k0,.lst us)))[i]?=_:=z;rw[hH (nC hi)]at z;show⟨A,z⟩
    .cases e
   .cases e
end
section
def CP(st:aw)(r:Kd×U):(eD st r).1=r.1:=by
 unfold eD;split<;>rfl
theorem cQ.Xd{st:aw}:∀{rs:List (Kd×U)}{vs:List V},cQ C c0 c rs vs->cQ C c0 c (rs.map (eD st)) vs
 |[],_,h=>h
 |r::rs,vs,h=>by
  have⟨v,t,rfl,d,e,f⟩:=h;show⟨v,t,rfl,?_,cQ.Xd e,λhk i m g a j b=>?_⟩
  .have⟨k,u⟩:=r;cases k<;>show d
  .rw[i2,et]at a;have⟨l,a,rfl⟩:=a;rw[CP]at hk b;show f hk i l g a j b
def CQ(h:PA X es (Lq C ms)):PA X es (Lq C (ms >>= B5)):=by
 rintro pos pins s σ H Q I ⟨c0,rfl,rfl,a,w⟩;show h pos pins s c0.σ c0.H Q I ⟨c0,rfl,rfl,a,?_⟩;rw[ah]at w;show w.mono λrs st b c vs d f g n r=>?_;have⟨i,st',e,q⟩:=b;cases e;show q c vs d f g n r.Xd
def zm(h:QM r=a5 (k,u,ws)):r=(k,.tup (u::ws))/\(k=.own\/k=.loc):=by
 unfold QM at h;split at h
 .cases h;show⟨rfl,.inl rfl⟩
 .cases h;show⟨rfl,.inr rfl⟩
 .cases h
def zo(hP:C.P=X.prog)(hw:C.w=X.w)(hK:C.K=X.K)(hF:Γ f=F)(hk:∀us r,F us=a5 (.ok r)->us.length=np)
  (G:jv X.prog X.w X.K X.mg X.base O7 k fa fd ps (S3 X.prog X.w X.K F np is)) (hr:fJ k X.A) (hg:Gl X f) (hm:X.mg f=a5 (.ref fa)) (Pk:PySem.W.keepIn X.K (.ref fa)=bD) (B:Binds X.K fd ps [])
  (MY:(f==("__debug__":Str))=cc) (ha:PA X (e::es) (Lq C ms)) (he:hZ (e::es) X.env=(cc,ve e X.env)::hZ es X.env) (KC:(Kg pos (hZ es X.env)).any (·.1)=cc) :
  PE X (.Call (.Name f p) (e::es) [] pos) (JX C (ms >>= λrs=>aE rs >>= λ_=>qT Γ f rs is)):=by
 rintro pins s σ H Q I ⟨c0,rfl,rfl,ok,h⟩;show tr (gu I hg hm ?_ MY);show PySem.W.callWith_K (h₀:=X.base) I.ok.mod.P5 Pk (JZ (args ha I ok h pos) λus s1 ⟨rs,c,vs,t,I1,rv,w⟩=>⟨I1.Nf,?_⟩) he KC;have⟨r,st',D,q⟩:=w;unfold qT at D;rw[hF]at D;split at D
 .rename_i r0 e2;split at D
  .rename_i kd u ws eu;split at D
   .rename_i KU;split at D
    .rename_i st2 VI;cases D;have⟨rfl,k1⟩:=zm eu;have k2:=hk _ _ e2;unfold qS at KU;simp only[cb,i8,Ť,Mt,u5]at KU;obtain⟨⟨h1,h2⟩,h3⟩:=KU;have T:∀p∈is,∃j xs k r,il rs p=a5 j/\rs[p]?=a5 (.bor j,.lst xs)/\cV xs=bD/\Kd.root k=bD/\c.st[j]?=a5 (a5 (k,.lst xs))/\c.σ[j]?=a5 (a5 (.ref r))/\vs[p]?=a5 (.ref r)/\¬c.S r/\¬C.Mu r/\c6 C c.S c.H r (.lst xs):=λp L=>by
      have⟨j,Y⟩:=Tf.mp (h1 p L);have⟨xs,a1,a2⟩:=xh Y;have⟨v,b1,x⟩:=t.Xc a1;obtain⟨r,rfl,d1,d2,_,N⟩:=t.ok.rootOf x.1 x.2;have⟨k,m,l⟩:=x.1;show⟨j,xs,k,r,Y,a1,a2,m,l,x.2,b1,d1,d2,N⟩
     let IO:d8->Prop:=λa=>∃p∈is,vs[p]?=a5 (.ref a);have RG:∀a,IO a->c.R a/\¬c.S a/\¬C.Mu a/\LV c.H a:=λa J_=>by
      have⟨p,L,e⟩:=J_;obtain⟨j,xs,k,r,_,_,_,m,l,y,J,g5,g6,g7⟩:=T p L;rw[e]at J;cases J;obtain⟨o,ho,_⟩:=g7.some;show⟨.inl ⟨j,k,_,m,l,y⟩,g5,g6,o,ho⟩
     let Pr:d8->Prop:=λa=>LV c.H a/\¬IO a;have ab:C.Eqv (NG X.prog X.w X.K c.H Pr IO):=⟨hP,hw,hK⟩
     have MD:(NG X.prog X.w X.K c.H Pr IO).Eqv C:=⟨hP.symm,hw.symm,hK.symm⟩
     have sP:∀a,c.S a->Pr a:=λa z=>⟨t.ok.yK a z,λz'=>(RG a z').2.1 z⟩
     have gi:∀{i:Nat} {u:U},(rs.map (·.2))[i]?=a5 u->∃k,rs[i]?=a5 (k,u):=λ{i u} e=>by
      rw[i2,et]at e;obtain⟨⟨k,u'⟩,e,rfl⟩:=e;show⟨k,e⟩
     have ac:Ga (NG X.prog X.w X.K c.H Pr IO) c.H is (rs.map (·.2)) vs:=by
      show⟨by rw[c4];show t.len,λa z=>z,λa z=>(RG a z).2.2.2,λi u O e=>?_,λi u O e=>?_,λi j r O Y e3 e4=>?_,λa z=>z⟩
      .obtain⟨j,xs,k,r,_,g0,gm,m,l,y,J,g5,g6,zs,g7,g8⟩:=T i O;have⟨k',e⟩:=gi e;rw[g0]at e;cases e;show⟨r,J,⟨i,O,J⟩,zs,g7,(au.Kl gm g8).cg ab⟩
      .have⟨k',e⟩:=gi e;have⟨v,b1,x⟩:=t.Xc e;show⟨v,b1,?_⟩;have KW:i<rs.length:=(dt.mp e).1;have QA:=(h3 i KW).resolve_left O;rw[X0,e]at QA;show Rep.cg ab (u:=u) ?_;cases k' with
       |own =>
        obtain⟨r,rfl,_,d1,d2,N⟩:=x;obtain⟨o,ho,_⟩:=N.some;show N.rep sP ⟨⟨o,ho⟩,λz=>d2 (RG r z).1⟩
       |loc=>show Rep.mv (.up sP) x
       |any=>show Rep.mv (.up λa z=>z.elim (λz=>⟨t.ok.Hs a (.inl z),λz'=>(RG a z').2.2.1 z⟩) (sP a)) x
       |bor j =>
        obtain⟨r,rfl,d1,d2,_,N⟩:=t.ok.rootOf x.1 x.2;obtain⟨o,ho,_⟩:=N.some;show N.rep sP ⟨⟨o,ho⟩,λ⟨p',S4,e'⟩=>?_⟩;obtain⟨j',xs,k2,r2,g,_,_,m,l,y,J,_⟩:=T p' S4;rw[e']at J;cases J;have⟨k3,z1,z2⟩:=x.1;have:=t.ok.inj j j' k3 k2 _ _ r z1 m z2 l x.2 y;subst this;have:a5 j∉is.map (il rs):=by simpa[qR] using QA
        show this (ki.mpr ⟨p',S4,g⟩)
       |_=>show x.elim
      .obtain⟨j1,_,k1,r1,a0,_,_,a1,a2,a3,a4,_⟩:=T i O;obtain⟨j2,_,k2,r2,b0,_,_,b1,x,b3,b4,_⟩:=T j Y;rw[e3]at a4;cases a4;rw[e4]at b4;cases b4;have:=t.ok.inj j1 j2 k1 k2 _ _ r a1 b1 a2 x a3 b3;subst this;show map_inj h2 i O j Y (by rw[a0,b0])
     have LQ:S3 X.prog X.w X.K F np is vs c.H (λv H'=>Q v H') E0:=⟨by rw[<-t.len,<-k2,c4],rs.map (·.2),kd,u,ws,Pr,IO,e2,k1,ac,λv H' S' B=>by
      classical
      let H1:Hp:=λa=>if IO a then c.H a else H' a
      have S5:∀a,¬IO a->H1 a=H' a:=λa z=>Ŧ z;have RF:∀a,S' a->¬IO a:=λa z z'=>by
       have⟨o,ho⟩:=(RG a z').2.2.2;rw[(B.new a z).1]at ho;cases ho
      have RH:qp c.H H1:=λa o e=>by
       by_cases z:IO a
       .change(if IO a then _ else _)=_;rw[ť z];show e
       .rw[S5 a z];show B.same a o e z
      have⟨J1,n1⟩:=t.ok.grow (H':=H1) (S':=λa=>c.S a\/S' a) RH (λa z=>z.imp id λz=>⟨(B.new a z).1,by rw[S5 a (RF a z)];show(B.new a z).2⟩) λa=>.inl;have RJ:∀(n i:Nat) (r:d8),is[n]?=a5 i->vs[i]?=a5 (.ref r)->∃w,ws[n]?=a5 w/\c6 (NG X.prog X.w X.K c.H Pr IO) S' H' r w:=λn i r a b=>by
       have hn:n<ws.length:=by rw[B.len];show(dt.mp a).1
       show⟨_,kj hn,B.L6 n i r _ a b (kj hn)⟩
      have⟨cf,f1,f2,f3,f4,f5,f6,f7,f8⟩:=vh (C:=C) MD (rs:=rs) (vs:=vs) (H':=H') (S':=S') (S1:=λa=>c.S a\/S' a) (λa=>.inr) (IO:=IO) RF (λa o ⟨i,O,z⟩ e=>by
        have⟨n,hn⟩:=List.getElem?_of_mem O;obtain⟨w,_,g⟩:=RJ n i a hn z;have⟨o',m,l⟩:=g.some;rw[e]at m;cases m;show l) is ws {c with H:=H1,S:=λa=>c.S a\/S' a} st' J1 n1.toNs rfl VI h2 (λp L a z=>⟨p,L,z⟩) (λp L j Y=>by
        obtain⟨j',xs,k,r,g0,_,_,m,l,y,J,_⟩:=T p L;rw[Y]at g0;cases g0;show⟨k,_,r,m,l,y,J⟩) (λn i r w a b d=>B.L6 n i r w a b d) (λa ha=>S5 a λ⟨p,L,z⟩=>ha p L z) S5
      subst f6;have Z4:∀a,cf.R a->c.R a:=λa z=>by
       rcases z with⟨j,k,u,m,l,y⟩|⟨j,u,r,m,l,y⟩
       .have⟨u0,g⟩:=f8 j k u l;rw[f3]at y;show .inl ⟨j,k,u0,m,g,y⟩
       .have⟨u0,g⟩:=f8 j .JS u m;rw[f3]at l;rw[f7]at y;show .inr ⟨j,u0,r,g,l,y⟩
      have dk:∀a,cf.Qq a->c0.Qq a/\∀o,c0.H a=a5 o->cf.H a=a5 o:=λa J_=>by
       have⟨j,u,r,m,l,y⟩:=J_;have⟨u0,g⟩:=f8 j .JS u m;rw[f3]at l;rw[f7]at y;have hd:c.RD j a:=⟨u0,r,g,l,y⟩
       have KU:¬IO a:=λJ_=>by
        have⟨p',S4,e'⟩:=J_;obtain⟨j',xs,k2,r2,_,_,_,y1,y2,y3,y4,_⟩:=T p' S4;rw[e']at y4;cases y4;show t.ok.dd.d1 j a hd ⟨j',k2,_,y1,y2,y3⟩
       show⟨(t.nx.dk a ⟨j,hd⟩).1,λo e=>B.same a o ((t.nx.dk a ⟨j,hd⟩).2 o e) KU⟩
      show q cf v (f3.trans t.hσ) f5 f1 ⟨t.nx.toNs.trans f2,dk⟩ ?_;rcases k1 with rfl|rfl
      .have⟨r,rfl,d1,d2,N⟩:=B.own rfl;obtain⟨_,z1,_,_,z4⟩:=t.ok.kC d1;show⟨r,rfl,t.nx.none d1,by rw[f4];show λz=>z.elim z1 d2,λz=>z4 (Z4 r z),(N.cg MD).mv (.up λa z=>by rw[f4];show .inr z) λo q=>q⟩
      .show((B.loc rfl).cg MD).mv (.up λa z=>by rw[f4];show .inr z)⟩
     have z:=xZ (Q:=Q) G hr B .nil Hi I1 rv (by rw[t4];show LQ);rw[t.hσ]at z;show z
    .cases D
   .cases D
  .cases D
 .cases D
end
structure Ck where
 fns:List Str
 gl:List (Str×U)
 L6:List (Str×List Nat)
 xc:List Str
 xd:List (Str×Str)
 xi:List (Str×Str×Bool)
 xe:List (Str×Str)
abbrev pM:U->U->Bool
 |.int i,.int j=>cK (i=j)
 |.str x,.str y=>cK (x=y)
 |.bl a,.bl b=>a==b
 |.J0,.J0=>bD
 |_,_=>cc
def cB(h:pM u v=bD):u=v:=by
 cases u<;>cases v<;>simp[pM]at h<;>subst_vars<;>rfl
abbrev noStar:kr->Bool
 |.Starred _ _=>cc
 |_=>bD
abbrev eI:kr->Bool
 |.Slice _ _ _ _=>cc
 |_=>bD
abbrev tu:kr->Bool
 |.Set _ _ _=>cc
 |_=>bD
abbrev pN:kr->Bool
 |.Call (.Name _ _) [] [] _=>cc
 |_=>bD
abbrev c9:kr->Bool
 |.ListComp _ _ _ _=>cc
 |.SetComp _ _ _ _=>cc
 |.DictComp _ _ _ _ _=>cc
 |_=>bD
abbrev Gb:kr->Bool
 |.Tuple _ _ _=>cc
 |_=>bD
abbrev Lu(a:MH)(x:Str):Bool:=cK (a.names.lookup x=a5 .globalImplicit)
abbrev fK(a:MH)(x:Str):Bool:=cK (a.names.lookup x=a5 .local)||decide (a.names.lookup x=a5 .cell)||decide (a.names.lookup x=a5 .free)
abbrev lQ(a:MH)(x:Str):Bool:=cK (a.names.lookup x=a5 .local)||decide (a.names.lookup x=a5 .cell)
abbrev HX(a:MH)(x:Str):Bool:=cK (a.names.lookup x=a5 .local)
abbrev bf(x:Str):Bool:=!(x==("__debug__":Str))&&!(x==("__classdict__":Str))
abbrev vi(N:List Str)(a:MH)(fa:Bool)(i:Nat):kr->Bool
 |.Name x _=>cK (N[i]?=a5 x)&&lQ a x&&(fa||HX a x)
 |_=>cc
abbrev pO(N:List Str)(a:MH)(fa:Bool):List Nat->List kr->Bool
 |[],[]=>bD
 |i::is,e::es=>vi N a fa i e&&pO N a fa is es
 |_,_=>cc
abbrev di:kr->List Str
 |.Name x _=>[x]
 |.Tuple es _ _=>es.filterMap fun|.Name x _=>a5 x|_=>b6
 |_=>[]
abbrev hide(a N:List Str):List Str:=match a.filter λx=>cK (x∈N) with
 |[]=>N
 |[x]=>N.set (N.idxOf x) "."
 |x::y::_=>(N.set (N.idxOf x) ".").set (N.idxOf y) ".."
abbrev PN(t:Bool)(N:List Str)(a:MH)(fa:Bool)(is:List Nat):kr->Bool
 |.Name x p=>!t&&(match is with|[i]=>vi N a fa i (.Name x p)|_=>cc)
 |.Tuple es _ _=>t&&pO N a fa is es&&is.all λi=>cK (i<N.length)
 |_=>cc
abbrev isTup:kr->Bool
 |.Tuple _ _ _=>bD
 |_=>cc
abbrev lR(e:kr):Option (Str×List kr):=match e with
 |.Call f as kw _=>match f with
  |.Name x _=>if kw.isEmpty=bD then a5 (x,as) else b6
  |_=>b6
 |_=>b6
def fZ(h:lR e=a5 (x,as)):∃p q,e=.Call (.Name x p) as [] q:=by
 unfold lR at h;split at h
 .split at h
  .split at h
   .rename_i hk;rw[C1]at hk;cases h;subst hk;show⟨_,_,rfl⟩
   .cases h
  .cases h
 .cases h
abbrev f9(a:MH)(b:kr)(ik:Ik)(e:kr):Option (List kr):=match ik with
 |.seq=>a5 [e]
 |.Lb=>(lR e).bind λp=>if p.1="range"/\Lu a p.1=bD/\p.2.length=1 then a5 p.2 else b6
 |.Pp=>(lR e).bind λp=>if p.1="enumerate"/\Lu a p.1=bD/\p.2.length=1/\isTup b=bD then a5 p.2 else b6
 |.rev=>(lR e).bind λp=>if p.1="reversed"/\Lu a p.1=bD/\p.2.length=1 then a5 p.2 else b6
 |_=>b6
abbrev simple:Bf->Bool:=λ_=>bD
abbrev zp(scope a:MH):MH:={scope with names:=scope.names.map λ(n,k)=>if (k==Nc&&a.kind==.function&&a.names.lookup n==a5 .cell)=bD then(n,.cell) else(n,k)}
abbrev a9(e:kr)(k:Str->Bool):Bool:=match e with|.Name x _=>k x|_=>cc
def ao(h:a9 e k=bD):∃x p,e=.Name x p/\k x=bD:=by
 unfold a9 at h;split at h
 .show⟨_,_,rfl,h⟩
 .cases h
abbrev cv{α:Type}(l:List α)(k:α->Bool):Bool:=match l with|[a]=>k a|_=>cc
def aM(h:cv l k=bD):∃a,l=[a]/\k a=bD:=by
 unfold cv at h;split at h
 .show⟨_,rfl,h⟩
 .cases h
abbrev c_(e:kr)(k:kr->List kr->Pos->Bool):Bool:=match e with|.Call f as kw p=>kw.isEmpty&&k f as p|_=>cc
def aW(h:c_ e k=bD):∃f as p,e=.Call f as [] p/\k f as p=bD:=by
 unfold c_ at h;split at h
 .rename_i f as kw p;rw[cb,C1]at h;have⟨rfl,h⟩:=h;show⟨_,_,_,rfl,h⟩
 .cases h
abbrev tw(e:kr)(k:kr->Str->Pos->Bool):Bool:=match e with|.Attribute o m p=>k o m p|_=>cc
def rb(h:tw e k=bD):∃o m p,e=.Attribute o m p/\k o m p=bD:=by
 unfold tw at h;split at h
 .show⟨_,_,_,rfl,h⟩
 .cases h
abbrev vj(e:kr)(k:kr->ă->kr->Bool):Bool:=match e with|.BinOp a c b _=>k a c b|_=>cc
def lS(h:vj e k=bD):∃a c b p,e=.BinOp a c b p/\k a c b=bD:=by
 unfold vj at h;split at h
 .show⟨_,_,_,_,rfl,h⟩
 .cases h
abbrev vk(e:kr)(k:kr->Ĵ->kr->Bool):Bool:=match e with|.Compare a ops bs _=>cv ops λc=>cv bs λb=>k a c b|_=>cc
def ip(h:vk e k=bD):∃a c b p,e=.Compare a [c] [b] p/\k a c b=bD:=by
 unfold vk at h;split at h
 .have⟨c,rfl,d⟩:=aM h;have⟨b,rfl,f⟩:=aM d;show⟨_,_,_,_,rfl,f⟩
 .cases h
abbrev dY(e:kr)(k:kr->Str->Pos->List kr->Pos->Bool):Bool:=c_ e λf as b=>tw f λo m a=>k o m a as b
def bE(h:dY e k=bD):∃o m a as b,e=.Call (.Attribute o m a) as [] b/\k o m a as b=bD:=by
 have⟨f,as,p,rfl,h⟩:=aW h;have⟨o,m,q,rfl,h⟩:=rb h;show⟨_,_,_,_,_,rfl,h⟩
abbrev j5(e:kr)(k:kr->kr->Bool):Bool:=match e with|.Subscript a b _=>k a b|_=>cc
def dq(h:j5 e k=bD):∃a b p,e=.Subscript a b p/\k a b=bD:=by
 unfold j5 at h;split at h
 .show⟨_,_,_,rfl,h⟩
 .cases h
abbrev Xe:E->Bool
 |.var _=>bD
 |.cst _=>bD
 |_=>cc
abbrev lT{α:Type}(l:List α)(k:α->α->Bool):Bool:=match l with|[a,b]=>k a b|_=>cc
def cO(h:lT l k=bD):∃a b,l=[a,b]/\k a b=bD:=by
 unfold lT at h;split at h
 .show⟨_,_,rfl,h⟩
 .cases h
abbrev rf(e:kr)(k:Const->Bool):Bool:=match e with|.Constant c _ _=>k c|_=>cc
def fz(h:rf e k=bD):∃c q p,e=.Constant c q p/\k c=bD:=by
 unfold rf at h;split at h
 .show⟨_,_,_,rfl,h⟩
 .cases h
abbrev JG:Const->Option U
 |.int j=>a5 (.int j)
 |.str y=>a5 (.str y)
 |.bool y=>a5 (.bl y)
 |.none=>a5 .J0
 |_=>b6
abbrev JH(u:U)(c:Const):Bool:=match JG c with|some v=>pM u v|none=>cc
abbrev CS(e:kr)(a:BoolOp)(k:List kr->Bool):Bool:=match e with|.BoolOp o es _=>cK (o=a)&&k es|_=>cc
def jE(h:CS e a k=bD):∃es p,e=.BoolOp a es p/\k es=bD:=by
 unfold CS at h;split at h
 .rw[cb,Ť]at h;have⟨rfl,h⟩:=h;show⟨_,_,rfl,h⟩
 .cases h
abbrev CT(e:kr)(b:UnaryOp)(k:kr->Bool):Bool:=match e with|.UnaryOp o a _=>cK (o=b)&&k a|_=>cc
def jF(h:CT e b k=bD):∃a p,e=.UnaryOp b a p/\k a=bD:=by
 unfold CT at h;split at h
 .rw[cb,Ť]at h;have⟨rfl,h⟩:=h;show⟨_,_,rfl,h⟩
 .cases h
abbrev CU(e:kr)(k:kr->kr->kr->Bool):Bool:=match e with|.IfExp c a b _=>k c a b|_=>cc
def nZ(h:CU e k=bD):∃c a b p,e=.IfExp c a b p/\k c a b=bD:=by
 unfold CU at h;split at h
 .show⟨_,_,_,_,rfl,h⟩
 .cases h
abbrev vm(e:kr)(k:List kr->Bool):Bool:=match e with|.Tuple l _ _=>k l|_=>cc
def lU(h:vm e k=bD):∃l q p,e=.Tuple l q p/\k l=bD:=by
 unfold vm at h;split at h
 .show⟨_,_,_,rfl,h⟩
 .cases h
abbrev zq(e:kr)(k:List kr->Bool):Bool:=match e with|.List l _=>k l|_=>cc
def tD(h:zq e k=bD):∃l p,e=.List l p/\k l=bD:=by
 unfold zq at h;split at h
 .show⟨_,_,rfl,h⟩
 .cases h
abbrev CV(e:kr):Bool:=match e with|.Dict a b _=>a.isEmpty&&b.isEmpty|_=>cc
def n9(h:CV e=bD):∃p,e=.Dict [] [] p:=by
 unfold CV at h;split at h
 .rw[cb,C1,C1]at h;have⟨rfl,rfl⟩:=h;show⟨_,rfl⟩
 .cases h
abbrev Ge(e:kr)(k:kr->kr->Bool):Bool:=match e with|.Dict ks vs _=>cv ks (λx=>match x with|some a=>cv vs (k a)|none=>cc)|_=>cc
def xj(h:Ge e k=bD):∃a b p,e=.Dict [a5 a] [b] p/\k a b=bD:=by
 unfold Ge at h;split at h
 .have⟨x,rfl,z⟩:=aM h;split at z
  .have⟨b,rfl,z⟩:=aM z;show⟨_,_,_,rfl,z⟩
  .cases z
 .cases h
abbrev zr(e:kr)(k:Option kr->Option kr->Bool):Bool:=match e with|.Slice a b c _=>c.isNone&&k a b|_=>cc
def tE(h:zr e k=bD):∃a b p,e=.Slice a b b6 p/\k a b=bD:=by
 unfold zr at h;split at h
 .rw[cb,SM]at h;have⟨rfl,h⟩:=h;show⟨_,_,_,rfl,h⟩
 .cases h
abbrev Gf(e:kr)(k:List kr->Bool):Bool:=match e with|.JoinedStr l _=>(match l with|_::_::_=>bD|_=>cc)&&k l|_=>cc
def xm(h:Gf e k=bD):∃a b l p,e=.JoinedStr (a::b::l) p/\k (a::b::l)=bD:=by
 unfold Gf at h;split at h
 .rw[cb]at h;have⟨c,h⟩:=h;split at c
  .show⟨_,_,_,_,rfl,h⟩
  .cases c
 .cases h
abbrev Gg(e:kr)(k:kr->kr->kr->List kr->MH->Bool):Bool:=match e with|.ListComp elt a b _=>cv a λg=>cK (g.is_async=0)&&k elt g.target g.iter g.ifs b|_=>cc
def jG(h:Gg e k=bD):∃elt d a b f p,e=.ListComp elt [⟨d,a,b,0⟩] f p/\k elt d a b f=bD:=by
 unfold Gg at h;split at h
 .obtain⟨⟨d,a,b,z⟩,rfl,c⟩:=aM h;rw[cb,Ť]at c;have⟨rfl,c⟩:=c;show⟨_,_,_,_,_,_,rfl,c⟩
 .cases h
abbrev zt(e:kr)(k:kr->Ĵ->Ĵ->kr->kr->Bool):Bool:=match e with|.Compare a ops d _=>lT ops λp q=>lT d λb c=>k a p q b c|_=>cc
def tF(h:zt e k=bD):∃a p q b c r,e=.Compare a [p,q] [b,c] r/\k a p q b c=bD:=by
 unfold zt at h;split at h
 .have⟨p,q,rfl,d⟩:=cO h;have⟨b,c,rfl,f⟩:=cO d;show⟨_,_,_,_,_,_,rfl,f⟩
 .cases h
abbrev isNm(e:kr)(n:Str):Bool:=a9 e λx=>cK (x=n)
def gE(h:isNm e n=bD):∃p,e=.Name n p:=by
 have⟨x,p,e,z⟩:=ao h;show⟨p,ũ z▸e⟩
abbrev CW(v:kr)(f:Str)(k:List kr->Bool):Bool:=c_ v λg as _=>isNm g f&&k as
def gF(h:CW v f k=bD):∃as p q,v=.Call (.Name f p) as [] q/\k as=bD:=by
 have⟨g,as,q,rfl,z⟩:=aW h;rw[cb]at z;have⟨p,rfl⟩:=gE z.1;show⟨as,p,q,rfl,z.2⟩
mutual
noncomputable def bo(k:Ck):E->List Str->MH->kr->Bool
 |.var i,N,g,h=>a9 h λx=>cK (N[i]?=a5 x)&&fK g x&&bf x
 |.cst u,N,g,h=>rf h λc=>JH u c
 |.SF _ _,_,_,_=>cc
 |.bin C a b,N,g,h=>vj h λa' B s=>cK (C.op=B)&&bo k a N g a'&&bo k b N g s
 |.cmp C a b,N,g,h=>vk h λa' B s=>cK (C.op=B)&&!Sa B s&&bo k a N g a'&&bo k b N g s
 |.Mw o1 o2 a b c,N,g,h=>zt h λa' p q s H=>cK (o1.op=p)&&cK (o2.op=q)&&!lastMarks [p,q] [s,H]&&bo k a N g a'&&bo k b N g s&&bo k c N g H
 |.and es,N,g,h=>CS h .And λv=>aX k es N g v
 |.or es,N,g,h=>CS h .Or λv=>aX k es N g v
 |.not a,N,g,h=>CT h .Not λa'=>bo k a N g a'
 |.ite c a b,N,g,h=>CU h λH a' s=>bo k c N g H&&bo k a N g a'&&bo k b N g s
 |.neg a,N,g,h=>CT h .USub λa'=>bo k a N g a'
 |.bad,_,_,_=>bD
 |.Lp a D I,N,g,h=>CW h "isinstance" λas=>lT as λa' s=>isNm s D&&noStar a'&&Lu g "isinstance"&&Lu g D&&bf D&&(k.xi.any λp=>cK (p.2.1=D))&&I.all (λp=>cK ((p.1,D,p.2)∈k.xi))&&bo k a N g a'
 |.Oc J i b,N,g,h=>dY h λo m j as z=>a9 o λx=>cv as λa'=>rf a' λc=>cK (c=.bool b)&&cK (m=HW J)&&cK (N[i]?=a5 x)&&fK g x&&bf x&&(j.endLine==z.line)
 |.Qt i,N,g,h=>Ge h λa' s=>a9 a' λx=>rf s λc=>cK (c=.bool bD)&&cK (N[i]?=a5 x)&&fK g x&&bf x
 |.pop i,N,g,h=>dY h λo m j as z=>a9 o λx=>as.isEmpty&&cK (m="pop")&&cK (N[i]?=a5 x)&&fK g x&&bf x&&(j.endLine==z.line)
 |.Mz i a,N,g,h=>dY h λo m j as z=>a9 o λx=>cv as λa'=>cK (m="pop")&&cK (N[i]?=a5 x)&&fK g x&&bf x&&(j.endLine==z.line)&&noStar a'&&bo k a N g a'
 |.JW f es is,N,g,h=>c_ h λf' v _=>a9 f' λx=>cK (x=f)&&cK ((f,is)∈k.L6)&&Lu g x&&bf x&&!v.isEmpty&&aX k es N g v
 |.inD neg a i,N,g,h=>vk h λa' B s=>a9 s λx=>cK (F5 neg=B)&&!Sa B s&&cK (N[i]?=a5 x)&&fK g x&&bf x&&bo k a N g a'
 |.Qr i,N,g,h=>a9 h λx=>cK (N[i]?=a5 x)&&fK g x&&bf x
 |.My i a b,N,g,h=>dY h λo m j as z=>a9 o λx=>lT as λa' s=>cK (m="get")&&cK (N[i]?=a5 x)&&fK g x&&bf x&&(j.endLine==z.line)&&noStar a'&&noStar s&&bo k a N g a'&&bo k b N g s
 |.Qs i,N,g,h=>c_ h λf' as _=>a9 f' λf=>cv as λc=>dY c λo m j bs z=>a9 o λx=>bs.isEmpty&&cK (f="sorted")&&Lu g f&&cK (m="items")&&cK (N[i]?=a5 x)&&fK g x&&bf x&&(j.endLine==z.line)
 |.OK ln a b,N,g,h=>c_ h λf' as _=>a9 f' λf=>cv as λd=>vj d λl C r=>c_ l λL O _=>a9 L λQ=>cv O λa'=>c_ r λY ar _=>a9 Y λg2=>cv ar λs =>
  cK (f=(if ln=bD then("len":Str) else "sorted"))&&cK (Q="set")&&cK (g2="set")&&cK (C=.Sub)&&Lu g f&&Lu g "set"&&noStar a'&&noStar s&&bo k a N g a'&&bo k b N g s
 |.fst es,N,g,h=>Gf h λl=>xn k es N g l
 |.Mx a T,N,g,h=>c_ h λf' as _=>a9 f' λx=>lT as λa' s=>a9 s λy=>cK (x="isinstance")&&cK (y=T.name)&&Lu g x&&Lu g y&&noStar a'&&bo k a N g a'
 |.tup es,N,g,h=>vm h λv=>aX k es N g v
 |.lst es,N,g,h=>zq h λv=>aX k es N g v
 |.LM _,N,g,h=>CV h
 |.idx a b,N,g,h=>j5 h λa' s=>eI s&&bo k a N g a'&&bo k b N g s
 |.Ob a lo hi,N,g,h=>j5 h λa' s=>zr s λXf Lx=>bo k a N g a'&&tH k lo N g Xf&&tH k hi N g Lx
 |.bi f es,N,g,h=>c_ h λf' v _=>a9 f' λx=>cK (x=f.name)&&simple f&&Lu g x&&!v.isEmpty&&aX k es N g v
 |.NX f es,N,g,h=>c_ h λf' as _=>a9 f' λx=>cv as λc=>c_ c λg' v _=>a9 g' λy=>cK (x=f.pI)&&cK (y=f.iU)&&Lu g x&&Lu g y&&!v.isEmpty&&aX k es N g v
 |.OJ m a es,N,g,h=>dY h λo name j v z=>cK (name=m.name)&&pN o&&(j.endLine==z.line)&&!v.isEmpty&&cK (v.length<20)&&bo k a N g o&&aX k es N g v
 |.call f es,N,g,h=>c_ h λf' v _=>a9 f' λx=>cK (x=f)&&cK (f∈k.fns)&&Lu g x&&bf x&&!v.isEmpty&&aX k es N g v
 |.comp n t ik src cond e,N,g,h=>Gg h λelt w A G scope =>
   cK ((di w).length=n)&&BQ (di w++hide (di w) N) (di w) scope g.names&&PN t (di w++hide (di w) N) (zp scope g) cc (gs n) w&&tu A &&
   (match f9 g w ik A with
    |some as=>aX k src N g as
    |none=>cc) &&
   cK (G.length<=1)&&aX k cond (di w++hide (di w) N) (zp scope g) G&&bo k e (di w++hide (di w) N) (zp scope g) elt
noncomputable def xn(k:Ck):List E->List Str->MH->List kr->Bool
 |[],_,_,a=>a.isEmpty
 |e::es,N,b,a=>match a with
  |.FormattedValue v (-1) b6 _::a=>bo k e N b v&&xn k es N b a
  |.Constant (.str y) _ _::a=>(match e with|.cst u=>pM u (.str y)|_=>cc)&&xn k es N b a
  |_=>cc
noncomputable def aX(k:Ck):List E->List Str->MH->List kr->Bool
 |[],_,_,a=>a.isEmpty
 |e::es,N,b,a=>match a with
  |e'::a=>noStar e'&&bo k e N b e'&&aX k es N b a
  |[]=>cc
noncomputable def tH(k:Ck):List E->List Str->MH->Option kr->Bool
 |[],_,_,o=>o.isNone
 |[e],N,a,o=>match o with
  |some b=>bo k e N a b
  |none=>cc
 |_::_::_,_,_,_=>cc
end
abbrev bW:List Str:=["len","sorted","repr","max","min","all","any","list","tuple","str","int","range","enumerate","zip","reversed","set","dict","sum","isinstance","bool"]
structure PQ(ck:Ck)(K:PySem.W.Frag)(mg:Str->Option dV):Prop where
 xc:∀x∈ck.xc,∃C,mg x=a5 (.ref C)/\PySem.W.nsIn K i9 x=a5 (a5 (.ref C))/\PySem.W.excIn K C Qo "ValueError.__new__"=bD
 xd:∀p∈ck.xd,∃C D,mg p.1=a5 (.ref C)/\PySem.W.nsIn K i9 p.1=a5 (a5 (.ref C))/\mg p.2=a5 (.ref D)/\PySem.W.exmOne K (.ref C) (.ref C)=a5 bD/\(PySem.W.kitCls K (.ref C) (.ref D)==a5 bD&&C != D)=bD
 xi:∀D,(∃p∈ck.xi,p.2.1=D)->∃dv,((∃D',dv=.ref D'/\mg D=a5 (.ref D'))\/(D="ValueError"/\dv=.type "ValueError"/\mg D=b6))/\∀p∈ck.xi,p.2.1=D->∀C,PySem.W.nsIn K i9 p.1=a5 (a5 (.ref C))->fU K C=bD/\PySem.W.kitOne K (.ref C) dv=a5 p.2.2
 xe:∀x,(∃p∈ck.xe,p.2=x)->∃D,mg x=a5 (.ref D)/\∀cl,(cl,x)∈ck.xe->∀C,PySem.W.nsIn K i9 cl=a5 (a5 (.ref C))->PySem.W.exmOne K (.ref C) (.ref D)=a5 bD
structure CY(P:va)(w:w6)(K:PySem.W.Frag)(mg:Str->Option dV)(base:KX)(d:Nat)(F:List U->Option (Ex (Kd×U)))(f:Str):Prop where
 ex:∃(np:Nat) (fa:d8) (fd:TL) (ps:List Str),jv P w K mg base (Pl P w) d fa fd ps (spT P w K F np)/\mg f=a5 (.ref fa)/\PySem.W.keepIn K (.ref fa)=bD/\Binds K fd ps []/\(∀us k u,F us=a5 (.ok (k,u))->(k=.own\/k=.loc\/k=.any)/\us.length=np)/\∀us c,F us=a5 (.exc c)->us.length=np
structure CZ(P:va)(w:w6)(K:PySem.W.Frag)(mg:Str->Option dV)(base:KX)(d:Nat)(F:List U->Option (Ex (Kd×U)))(f:Str)(is:List Nat):Prop where
 ex:∃(np:Nat) (fa:d8) (fd:TL) (ps:List Str),jv P w K mg base O7 d fa fd ps (S3 P w K F np is)/\mg f=a5 (.ref fa)/\PySem.W.keepIn K (.ref fa)=bD/\Binds K fd ps []/\∀us r,F us=a5 (.ok r)->us.length=np
structure Gd(ck:Ck)(Γ:Tab)(C:Ct)(d:Nat)(X:Cx):Prop where
 P:C.P=X.prog
 w:C.w=X.w
 K:C.K=X.K
 u:X.A.units+60<Mg
 calm:X.calm=bD
 room:fJ d X.A
 blt:∀x∈bW,X.mg x=b6
 fns:∀f∈ck.fns,CY X.prog X.w X.K X.mg X.base d (Γ f) f
 M5:∀p∈ck.gl,∃val v,X.mg p.1=a5 val/\RelV v val/\∀S H,Rep C S H p.2 v
 L6:∀p∈ck.L6,CZ X.prog X.w X.K X.mg X.base d (Γ p.1) p.1 p.2
 ND:PQ ck X.K X.mg
def Gd.cx(g:Gd ck Γ C d X)(N:List Str)(a:MH)(D:d8)(s:d6)(H:Hp)(ex:List d8):Gd ck Γ C d (K4 X N a D s H ex) :=
 ⟨g.P,g.w,g.K,g.u,g.calm,g.room,g.blt,g.fns,g.M5,g.L6,g.ND⟩
def cp(h:fK a x=bD):LJ a x:=by
 unfold fK at h;simp only[Mt,Ť]at h;rcases h with(h|h)|h
 .show .inl h
 .show .inr (.inl h)
 .show .inr (.inr h)
def aG(h:bf x=bD):(x==("__debug__":Str))=cc/\(x==("__classdict__":Str))=cc:=by
 unfold bf at h;simpa using h
def bb(h:noStar e=bD):hZ (e::es) env=(cc,ve e env)::hZ es env:=by
 cases e<;>first|rfl|cases h
def rg(h:eI e=bD):oU e:=by
 intro o i;cases e<;>first|rfl|cases h
def tI(h:tu e=bD):∀x,MR e env x=pure x:=by
 intro x;cases e<;>first|rfl|cases h
def kQ(h:pN o=bD):Ur o name env a=a:=by
 cases o with
 |Call f as ks p =>
  cases f with
  |Name x q=>cases as with
   |nil=>cases ks with
    |nil=>cases h
    |cons _ _=>rfl
   |cons _ _=>rfl
  |_=>rfl
 |_=>rfl
def bx(h:∀e∈es,noStar e=bD):(Kg pos (hZ es env)).any (·.1)=cc/\(Kg pos (hZ es env)).all (λx=>!x.1)=bD:=by
 induction es with
 |nil=>show⟨rfl,rfl⟩
 |cons e es a =>
  rw[bb (h e (by simp))];have:=a λb c=>h b (by simp[c]);constructor
  .change(cc||(Kg pos (hZ es env)).any (·.1))=cc;rw[this.1];rfl
  .change(!cc&&(Kg pos (hZ es env)).all (λx=>!x.1))=bD;rw[this.2];rfl
def cS(h:aX k es N c a=bD):∀e∈a,noStar e=bD:=by
 induction es generalizing a with
 |nil =>
  cases a with
  |nil=>intro e he;cases he
  |cons _ _=>simp[aX]at h
 |cons x es b =>
  cases a with
  |nil=>intro e he;cases he
  |cons d a =>
   simp only[aX,cb]at h;intro e he;rcases d7.mp he with rfl|he
   .show h.1.1
   .show b h.2 e he
def n_(a:fa=bD->∀x,X.fn x=bD)(h:vi X.N X.env.scope fa i e=bD):s9 X e i:=by
 cases e with
 |Name x p =>
  simp only[vi,cb,Ť,lQ,Mt,HX]at h;show⟨x,p,rfl,h.1.1,?_,?_⟩
  .rcases h.1.2 with z|z
   .show .inl z
   .show .inr z
  .rcases h.2 with z|z
   .show .inl (a z x)
   .show .inr z
 |_=>cases h
theorem lV(a:fa=bD->∀x,X.fn x=bD):∀{is:List Nat}{es:List kr},pO X.N X.env.scope fa is es=bD->fw X es is
 |[],[],_=>.nil
 |[],_::_,h=>by cases h
 |_::_,[],h=>by cases h
 |i::is,e::es,h=>by
  simp only[pO,cb]at h;show .cons (n_ a h.1) (lV a h.2)
def rh(d:X.calm=bD)(e:C.K=X.K)(a:X.N.Nodup)(b:fa=bD->∀x,X.fn x=bD)(h:PN t X.N X.env.scope fa is c=bD):PG X c (tG C t is):=by
 cases c with
 |Name x p =>
  simp only[PN,cb,td]at h;have⟨rfl,h⟩:=h;cases is with
  |nil=>cases h
  |cons i is=>cases is with
   |nil=>show FV a (n_ b h)
   |cons _ _=>cases h
 |Tuple es k p =>
  simp only[PN,cb,i8,Ť]at h;obtain⟨⟨rfl,f⟩,g⟩:=h;show HA d e a (lV b f) g
 |_=>cases h
def jH(a N:List Str):eM ((a++hide a N).drop a.length) N:=by
 rw[WY rfl];unfold hide;split
 .show .refl N
 .show(eM.refl N).set _ (.inl rfl)
 .show((eM.refl N).set _ (.inl rfl)).set _ (.inr rfl)
abbrev Bf.isB:Bf->Bool
 |.len=>bD|.sorted=>bD|.repr=>bD|.max=>bD|.min=>bD|.all=>bD|.any=>bD|_=>cc
abbrev Bf.id:Bf->String
 |.len=>"len"|.sorted=>"sorted"|.repr=>"repr"|.max=>"max"|.min=>"min"|.all=>"all"|.any=>"any"
 |.list=>"list"|.tuple=>"tuple"|.str=>"str"|.int=>"int"
def C2:∀f:Bf,simple f=bD->t5 f.name=a5 f.val/\f.name∈bW/\f.name≠"__name__"/\(f.name==("__debug__":Str))=cc:=by
 intro f h;cases f<;>first|show⟨by decide +kernel,by decide +kernel,by decide +kernel,by decide +kernel⟩|(cases h;done)
def Gh:∀f:Bf,simple f=bD->(f.val=.builtin f.id\/f.val=.type f.id):=by
 intro f h;cases f<;>first|show .inl rfl|show .inr rfl|(cases h;done)
def Gi:∀f:B2,f.pI∈bW/\f.iU∈bW:=by
 intro f;cases f<;>show⟨by decide +kernel,by decide +kernel⟩
def C3:∀f:Mf,Slot "str" f.name f.id/\Þ (.builtin f.id)=pure (.type "method_descriptor"):=by
 intro f;cases f with
 |split=>show⟨PySem.F.slot_str_split,PySem.F.type_str_split⟩
 |join=>show⟨PySem.F.slot_str_join,PySem.F.type_str_join⟩
 |partition=>show⟨PySem.F.slot_str_partition,PySem.F.type_str_partition⟩
 |endswith=>show⟨PySem.F.slot_str_endswith,PySem.F.type_str_endswith⟩
section
def cw(h:Lu X.env.scope x=bD):Gl X x:=by
 unfold Lu at h;change X.env.kindOf x=a5 .globalImplicit;show ũ h
def C4:("enumerate":Str)∈bW:=by decide +kernel
def iW:("isinstance":Str)∈bW:=by decide +kernel
def zu(T:Mb):T.name∈bW:=by cases T<;>decide +kernel
def C5:("range":Str)∈bW:=by decide +kernel
def DX(g:Gd ck Γ C d X)(h:f9 X.env.scope n ik i=a5 as)(l:PA X as (Lq C (bj Γ src)))(o:∀a,as=[a]->∃e,src=[e]/\PE X a (JX C (ev Γ e)))(m:∀e∈as,noStar e=bD):PI X n i (NB C ik (bj Γ src)):=by
 unfold f9 at h;split at h
 .cases h;have⟨e,rfl,r⟩:=o _ rfl;show FR g.K r
 .rw[ro]at h;obtain⟨⟨x,bs⟩,j,h⟩:=h;split at h
  .rename_i k;cases h;have⟨c,f,hl⟩:=k
   dsimp only at c f hl
   subst c;have⟨p,q,rfl⟩:=fZ j;have⟨b,rfl⟩:=Ub.mp hl;show CD (cw f) (g.blt _ C5) (bb (m _ (by simp))) l
  .cases h
 .rw[ro]at h;obtain⟨⟨x,bs⟩,j,h⟩:=h;split at h
  .rename_i k;cases h;have⟨c,f,hl,s⟩:=k
   dsimp only at c f hl
   subst c;have⟨p,q,rfl⟩:=fZ j;have⟨b,rfl⟩:=Ub.mp hl;cases n with
   |Tuple es t ps=>show FT g.K (cw f) (g.blt _ C4) (bb (m _ (by simp))) l
   |_=>cases s
  .cases h
 .rw[ro]at h;obtain⟨⟨x,bs⟩,j,h⟩:=h;split at h
  .rename_i k;cases h;have⟨c,f,hl⟩:=k
   dsimp only at c f hl
   subst c;have⟨p,q,rfl⟩:=fZ j;have⟨b,rfl⟩:=Ub.mp hl;show FU g.calm g.K (cw f) (g.blt _ (by decide +kernel)) (bb (m _ (by simp))) l
  .cases h
 .cases h
def Gd.MG(g:Gd ck Γ C d X):Gd ck Γ C d X.MG :=
 ⟨g.P,g.w,g.K,g.u,g.calm,g.room,g.blt,g.fns,g.M5,g.L6,g.ND⟩
def DY(g:Gd ck Γ C d X)(f:PE X a' (JX C (ev Γ a)))(l:isNm m D=bD)(n:noStar a'=bD)(h:Lu X.env.scope "isinstance"=bD)(i:Lu X.env.scope D=bD)(o:bf D=bD)(r:(ck.xi.any λp=>cK (p.2.1=D))=bD)(t:j.all (λp=>cK ((p.1,D,p.2)∈ck.xi))=bD):
  PE X (.Call (.Name "isinstance" p) [a',m] [] q) (JX C (ev Γ (.Lp a D j))):=by
 have⟨p2,rfl⟩:=gE l;have⟨v,w,x⟩:=T1.mp r;have⟨dv,y,A⟩:=g.ND.xi D ⟨v,w,ũ x⟩;have k:∀q∈j,∀b,PySem.W.nsIn X.K i9 q.1=a5 (a5 (.ref b))->fU X.K b=bD/\PySem.W.kitOne X.K (.ref b) dv=a5 q.2:=λq B b G=>A _ (ũ (i8.mp t q B)) rfl b G;have st:=bb (env:=X.env) (es:=[.Name D p2]) n;rcases y with⟨c,rfl,e⟩|⟨rfl,rfl,e⟩
 .have J:PE X (.Name D p2) (tC (.ref c)):=λpins s σ H Q I z=>gu I (cw i) e ⟨.ref c,H,I,rfl,z⟩ (aG o).1;show vg g.K (cw h) (g.blt _ iW) f J (dv:=.ref c) (λu z=>z) st rfl rfl k
 .show vg g.K (cw h) (g.blt _ iW) f (vD:=.ty "ValueError") (dv:=.type "ValueError") (uq (cw i) e (show t5 "ValueError"=a5 (.type "ValueError") by decide +kernel) rfl (by decide +kernel) (by decide +kernel)) (λu z=>z) st rfl rfl k
def DZ{a:M α}{b:α->M β}{c:α->M γ}{g:γ->M δ}{st:aw}{Q:δ->aw->Prop}(w:W (a >>= λx=>b x >>= λ_=>c x >>= g) st Q):W ((a >>= λx=>b x >>= λ_=>c x) >>= g) st Q:=by
 simp only[ah]at w ⊢;show w
def bA:PT X e (Le C M.fail):=λpins s σ H Q I ⟨_,_,_,_,w⟩=>(bw.mp w).elim
def lW:PE X e (JX C M.fail):=λpins s σ H Q I ⟨_,_,_,_,w⟩=>(bw.mp w).elim
def PT.eqv(h:PT X e (Le C m))(i:∀st Q,W a st Q->W m st Q):PT X e (Le C a):=PT.weak h λσ H Q ⟨c0,b,c,d,w⟩=>⟨c0,b,c,d,i _ _ w⟩
def HY(g:Gd ck Γ C d X)(b:PA X a (Lq C (bj Γ es)))
  (h:(cK (x=f.name)&&simple f&&Lu X.env.scope x&&!a.isEmpty&&aX ck es X.N X.env.scope a)=bD):PE X (.Call (.Name x p) a [] pos) (JX C (ev Γ (.bi f es))):=by
 simp only[cb,Ť,td]at h;obtain⟨⟨⟨⟨rfl,c⟩,i⟩,m⟩,n⟩:=h;have⟨b1,j,b3,b4⟩:=C2 f c;have k:=cS n;cases a with
 |nil=>cases m
 |cons o l =>
  have st:=bb (env:=X.env) (es:=l) (k o (by simp));have sn:=(bx (pos:=pos) (env:=X.env) (es:=l) λe q=>k e (by simp[q])).1;rcases Gh f c with hv|hv
  .show Cv g.calm g.K g.room.gd g.u hv (cw i) (g.blt _ j) (by rw[b1,hv]) b3 b4 b st sn
  .show Cw g.calm g.K g.room.gd g.u hv (cw i) (g.blt _ j) (by rw[b1,hv]) b3 b4 b st sn
def HZ(g:Gd ck Γ C d X)(i:PA X a (Lq C (bj Γ es)))
  (h:(cK (x=f.pI)&&cK (y=f.iU)&&Lu X.env.scope x&&Lu X.env.scope y&&!a.isEmpty&&aX ck es X.N X.env.scope a)=bD):PE X (.Call (.Name x p) [.Call (.Name y p2) a [] pos2] [] pos) (JX C (ev Γ (.NX f es))):=by
 simp only[cb,Ť,td]at h;obtain⟨⟨⟨⟨⟨rfl,rfl⟩,j⟩,k⟩,l⟩,m⟩:=h;have⟨b1,n⟩:=Gi f;have b:=cS m;cases a with
 |nil=>cases l
 |cons o c =>
  have st:=bb (env:=X.env) (es:=c) (b o (by simp));have sn:=(bx (pos:=pos2) (env:=X.env) (es:=c) λe q=>b e (by simp[q])).1;show CC g.calm g.K (cw j) (g.blt _ b1) (cw k) (g.blt _ n) i st sn
def H0(g:Gd ck Γ C d X)(l:PE X o (JX C (ev Γ a)))(n:PA X b (Lq C (bj Γ es)))
  (h:(cK (name=m.name)&&pN o&&(c.endLine==i.line)&&!b.isEmpty&&cK (b.length<20)&&bo ck a X.N X.env.scope o&&aX ck es X.N X.env.scope b)=bD):PE X (.Call (.Attribute o name c) b [] i) (JX C (ev Γ (.OJ m a es))):=by
 simp only[cb,Ť,td]at h;obtain⟨⟨⟨⟨⟨⟨rfl,p⟩,q⟩,r⟩,s⟩,w⟩,t⟩:=h;have j:=cS t;have⟨s1,s2⟩:=C3 m;cases b with
 |nil=>cases r
 |cons k f =>
  have st:=bb (env:=X.env) (es:=f) (j k (by simp));have sn:=(bx (pos:=i) (env:=X.env) (es:=f) λe u=>j e (by simp[u])).1;have v:=(bx (pos:=i) (env:=X.env) (es:=k::f) j).2;show CB g.K s1 s2 l n (kQ p) ?_ q st sn;rw[v];have:(k::f).length+([]:List O6).length+(if ([]:List O6).isEmpty=bD then 0 else 1)<30:=by simp at s ⊢;lia
  simp only[Ũ this];rfl
def zw(g:Gd ck Γ C d X)(i:PA X a (Lq C (bj Γ es)))
  (h:(cK (x=f)&&cK (f∈ck.fns)&&Lu X.env.scope x&&bf x&&!a.isEmpty&&aX ck es X.N X.env.scope a)=bD):PE X (.Call (.Name x p) a [] pos) (JX C (ev Γ (.call f es))):=by
 simp only[cb,Ť,td]at h;obtain⟨⟨⟨⟨⟨rfl,j⟩,k⟩,l⟩,m⟩,n⟩:=h;have b:=cS n;obtain⟨y,fa,z,ps,o,q,r,s,t,_⟩:=(g.fns _ j).ex;cases a with
 |nil=>cases m
 |cons u c =>
  have st:=bb (env:=X.env) (es:=c) (b u (by simp));have sn:=(bx (pos:=pos) (env:=X.env) (es:=c) λe v=>b e (by simp[v])).1;show yZ g.P g.w g.K rfl t o g.room (cw k) q r s (aG l).1 i st sn
def Gj(g:Gd ck Γ C d X)(i:PA X a (Lq C (bj Γ es)))
  (h:(cK (x=f)&&cK ((f,is)∈ck.L6)&&Lu X.env.scope x&&bf x&&!a.isEmpty&&aX ck es X.N X.env.scope a)=bD):PE X (.Call (.Name x p) a [] pos) (JX C (ev Γ (.JW f es is))):=by
 simp only[cb,Ť,td]at h;obtain⟨⟨⟨⟨⟨rfl,j⟩,k⟩,l⟩,m⟩,n⟩:=h;have b:=cS n;have⟨y,fa,z,ps,o,q,r,s,t⟩:=(g.L6 _ j).ex;cases a with
 |nil=>cases m
 |cons u c =>
  have st:=bb (env:=X.env) (es:=c) (b u (by simp));have sn:=(bx (pos:=pos) (env:=X.env) (es:=c) λe v=>b e (by simp[v])).1;show zo g.P g.w g.K rfl t o g.room (cw k) q r s (aG l).1 (CQ i) st sn
def dZ(h:(b&&aX k es N a c)=bD):aX k es N a c=bD:=(D7.mp h).2
mutual
theorem br:∀(e:E) (X:Cx) (k:kr),Gd ck Γ C d X->bo ck e X.N X.env.scope k=bD->PE X k (JX C (ev Γ e))
 |.var i,X,k,g,h=>by
  have⟨x,Y,rfl,A⟩:=ao h;clear h;have h:=A;simp only[cb,Ť]at h;have⟨G,L⟩:=aG h.2;show pH h.1.1 (cp h.1.2) G L
 |.cst u,X,k,g,h=>by
  have⟨c,q0,Y,rfl,A⟩:=fz h;cases c with
  |int j=>have:=cB A;subst this;show kP xP λ_ _=>rfl
  |str y=>have:=cB A;subst this;show kP r9 λ_ _=>rfl
  |bool y=>have:=cB A;subst this;show kP qi λ_ _=>rfl
  |none=>have:=cB A;subst this;show kP xQ λ_ _=>rfl
  |_=>cases A
 |.SF x u,X,k,g,h=>absurd (show cc=bD from h) i7
 |.bin op a b,X,k,g,h=>by
  have⟨a',NH,b',Y,rfl,A⟩:=lS h;clear h;have h:=A;simp only[cb,Ť]at h;obtain⟨⟨rfl,J⟩,O⟩:=h;show Cb g.K (br a X _ g J) (br b X _ g O)
 |.cmp op a b,X,k,g,h=>by
  have⟨a',NH,b',Y,rfl,v⟩:=ip h;have h:=v;simp only[cb,Ť,td]at h;obtain⟨⟨⟨rfl,h0⟩,J⟩,O⟩:=h;show Cd g.P g.w g.K g.u (br a X _ g J) (br b X _ g O) h0
 |.Mw o1 o2 a b c,X,k,g,h=>lW
 |.and es,X,k,g,h=>by
  have⟨JT,Y,rfl,A⟩:=jE h;clear h;have h:=A;show zx es X _ g h
 |.or es,X,k,g,h=>lW
 |.not a,X,k,g,h=>by
  have⟨a',Y,rfl,A⟩:=jF h;clear h;have h:=A;show Cg (br a X _ g h)
 |.neg a,X,k,g,h=>by
  have⟨a',Y,rfl,A⟩:=jF h;clear h;have h:=A;show Ci (br a X _ g h)
 |.bad,X,k,g,h=>lW
 |.Lp a D tb,X,k,g,h=>by
  have⟨as,p,q,rfl,v⟩:=gF h;have⟨a',b',rfl,B⟩:=cO v;clear h v;simp only[cb]at B;obtain⟨⟨⟨⟨⟨⟨⟨J,O⟩,G⟩,L⟩,h5⟩,h6⟩,h7⟩,h8⟩:=B;show DY g (br a X _ g h8) J O G L h5 h6 h7
 |.Oc ix i b,X,k,g,h=>by
  have⟨o,m,ab,as,G',rfl,v⟩:=bE h;have⟨x,px,rfl,B⟩:=ao v;have⟨a',rfl,z3⟩:=aM B;have⟨c,q,p,rfl,z4⟩:=fz z3;clear h v B z3;simp only[cb,Ť]at z4;obtain⟨⟨⟨⟨⟨rfl,rfl⟩,J⟩,O⟩,G⟩,L⟩:=z4;show CO g.K J (cp O) (aG G).1 (aG G).2 L
 |.Qt i,X,k,g,h=>by
  have⟨a',b',p,rfl,v⟩:=xj h;have⟨x,px,rfl,B⟩:=ao v;have⟨c,q,p2,rfl,z3⟩:=fz B;clear h v B;simp only[cb,Ť]at z3;obtain⟨⟨⟨rfl,J⟩,O⟩,G⟩:=z3;show Cr J (cp O) (aG G).1 (aG G).2
 |.pop i,X,k,g,h=>by
  have⟨o,m,ab,as,G',rfl,v⟩:=bE h;have⟨x,px,rfl,B⟩:=ao v;simp only[cb,Ť,C1]at B;obtain⟨⟨⟨⟨⟨rfl,rfl⟩,J⟩,O⟩,G⟩,L⟩:=B;have⟨q1,q2⟩:=aG G;show CN J (cp O) q1 q2 L g.K
 |.Mz i a,X,k,g,h=>by
  have⟨o,m,ab,as,G',rfl,v⟩:=bE h;have⟨x,px,rfl,B⟩:=ao v;have⟨a',rfl,z3⟩:=aM B;simp only[cb,Ť]at z3;obtain⟨⟨⟨⟨⟨⟨rfl,J⟩,O⟩,G⟩,L⟩,h5⟩,h6⟩:=z3;have⟨q1,q2⟩:=aG G;have sa:=bx (pos:=G') (env:=X.env) (es:=[a']) λe he=>by rw[hY.mp he];show h5
  show zk g.K J (cp O) q1 q2 (br a X _ g h6) (by rw[sa.2];rfl) L (bb h5)
 |.JW f es is,X,k,g,h=>by
  have⟨f',as,Y,rfl,v⟩:=aW h;have⟨x,p1,rfl,B⟩:=ao v;show Gj g (jI es X _ g (dZ B)) B
 |.inD neg a i,X,k,g,h=>lW
 |.Qr i,X,k,g,h=>by
  have⟨x,Y,rfl,A⟩:=ao h;clear h;have h:=A;simp only[cb,Ť]at h;have⟨G,L⟩:=aG h.2;show CH h.1.1 (cp h.1.2) G L
 |.My i a b,X,k,g,h=>by
  have⟨o,m,ab,as,G',rfl,v⟩:=bE h;have⟨x,px,rfl,B⟩:=ao v;have⟨a',b',rfl,z3⟩:=cO B;clear h v;have B:=z3;simp only[cb,Ť]at B;obtain⟨⟨⟨⟨⟨⟨⟨⟨rfl,J⟩,O⟩,G⟩,L⟩,h5⟩,h6⟩,h7⟩,h8⟩:=B;have⟨q1,q2⟩:=aG G;have sa:=bx (pos:=G') (env:=X.env) (es:=[a',b']) λe he=>by
   rcases d7.mp he with rfl|he
   .show h5
   .simp at he;subst he;show h6
  show zg g.u J (cp O) q1 q2 (br a X _ g h7) (br b X _ g h8) ⟨rfl,by rw[sa.2];rfl,L,by rw[bb h5,bb h6];rfl⟩
 |.Qs i,X,k,g,h=>by
  obtain⟨f',as,_,rfl,v⟩:=aW h;obtain⟨f,_,rfl,B⟩:=ao v;have⟨c,rfl,z3⟩:=aM B;have⟨o,m,ab,bs,G',rfl,z4⟩:=bE z3;have⟨x,px,rfl,z5⟩:=ao z4;simp only[cb,Ť,C1]at z5;obtain⟨⟨⟨⟨⟨⟨⟨rfl,rfl⟩,J⟩,rfl⟩,G⟩,L⟩,h5⟩,h6⟩:=z5;have⟨q1,q2⟩:=aG h5;show CL g.calm g.K (cw J) (g.blt _ (by decide +kernel)) G (cp L) q1 q2 h6
 |.OK ln a b,X,k,g,h=>by
  obtain⟨_,_,_,rfl,A⟩:=aW h;obtain⟨_,_,rfl,v⟩:=ao A;obtain⟨_,rfl,B⟩:=aM v;obtain⟨_,_,_,_,rfl,z3⟩:=lS B;obtain⟨_,_,_,rfl,z4⟩:=aW z3;obtain⟨_,_,rfl,z5⟩:=ao z4;obtain⟨_,rfl,z6⟩:=aM z5;obtain⟨_,_,_,rfl,z7⟩:=aW z6;obtain⟨_,_,rfl,z8⟩:=ao z7;obtain⟨_,rfl,z9⟩:=aM z8;simp only[cb,Ť]at z9;obtain⟨⟨⟨⟨⟨⟨⟨⟨⟨rfl,rfl⟩,rfl⟩,rfl⟩,J⟩,O⟩,G⟩,L⟩,h5⟩,h6⟩:=z9;show CM (ln:=ln) g.calm g.K (cw J) (g.blt _ (by cases ln<;>decide +kernel)) (cw O) (g.blt _ (by decide +kernel)) (br a X _ g h5) (br b X _ g h6) (bb G) (bb L)
 |.fst es,X,k,g,h=>by
  have⟨e1,e2,l,Y,rfl,A⟩:=xm h;clear h;have h:=A;show CA (Gk es X _ g h mN (by decide))
 |.Mx a T,X,k,g,h=>by
  have⟨f',as,Y,rfl,v⟩:=aW h;have⟨x,p1,rfl,B⟩:=ao v;clear h v;have⟨a',b',rfl,z4⟩:=cO B;have⟨y,p2,rfl,z3⟩:=ao z4;have h:=z3;simp only[cb,Ť]at h;obtain⟨⟨⟨⟨⟨rfl,rfl⟩,J⟩,O⟩,G⟩,L⟩:=h;show u9 g.K (cw J) (g.blt _ iW) (cw O) (g.blt _ (zu T)) (br a X _ g L) (bb G)
 |.ite c a b,X,k,g,h=>by
  have⟨c',a',b',Y,rfl,A⟩:=nZ h;clear h;have h:=A;simp only[cb]at h;show Cj (lX c X _ g h.1.1) (br a X _ g h.1.2) (br b X _ g h.2)
 |.tup es,X,k,g,h=>by
  have⟨l,q0,Y,rfl,A⟩:=lU h;clear h;have h:=A;show Cp (jI es X _ g h)
 |.lst es,X,k,g,h=>by
  have⟨l,Y,rfl,A⟩:=tD h;clear h;have h:=A;show Cq (jI es X _ g h)
 |.LM r,X,k,g,h=>by
  have⟨Y,rfl⟩:=n9 h;show yY g.P g.w r
 |.idx a b,X,k,g,h=>by
  have⟨a',b',Y,rfl,A⟩:=dq h;clear h;have h:=A;simp only[cb]at h;show Cs g.K g.u (rg h.1.1) (br a X _ g h.1.2) (br b X _ g h.2)
 |.Ob a lo hi,X,k,g,h=>by
  have⟨a',b',Y,rfl,v⟩:=dq h;have⟨Xf,Lx,p1,rfl,A⟩:=tE v;clear h v;simp only[cb]at A;show Cu g.K (br a X _ g A.1.1) (H9 lo X _ g A.1.2) (H9 hi X _ g A.2)
 |.bi f es,X,k,g,h=>by
  have⟨f',as,Y,rfl,v⟩:=aW h;have⟨x,p1,rfl,B⟩:=ao v;have h:=B;show HY g (jI es X _ g (dZ h)) h
 |.NX f es,X,k,g,h=>by
  have⟨f',as,Y,rfl,v⟩:=aW h;have⟨x,p1,rfl,B⟩:=ao v;have⟨c,rfl,z3⟩:=aM B;have⟨g',as',p2,rfl,z4⟩:=aW z3;have⟨y,p3,rfl,z5⟩:=ao z4;have h:=z5;show HZ g (jI es X _ g (dZ h)) h
 |.OJ m a es,X,k,g,h=>by
  have⟨o,name,ab,as,G',rfl,v⟩:=bE h;have h:=v;have h':=h;simp only[cb]at h';show H0 g (br a X _ g h'.1.2) (jI es X _ g (dZ h)) h
 |.call f es,X,k,g,h=>by
  have⟨f',as,Y,rfl,v⟩:=aW h;have⟨x,p1,rfl,B⟩:=ao v;have h:=B;show zw g (jI es X _ g (dZ h)) h
 |.comp n t ik src cond e,X,k,g,h=>by
  have⟨elt,tg,ac,ag,scope,Y,rfl,A⟩:=jG h;clear h;have h:=A;simp only[cb,Ť]at h;obtain⟨⟨⟨⟨⟨⟨⟨J,O⟩,G⟩,L⟩,h5⟩,h6⟩,h7⟩,h8⟩:=h;subst J;have S:=sv (X:=X) rfl (jH _ _) O;split at h5
  .rename_i as al;have J3:=cS h5;have hI:PI X tg ac (NB C ik (bj Γ src)):=DX g al (jI src X _ g h5) (λa e=>by
    subst e;cases src with
    |nil=>simp[aX]at h5
    |cons e1 Kw =>
     cases Kw with
     |nil =>
      simp only[aX,cb]at h5;show⟨e1,rfl,br e1 X _ g h5.1.2⟩
     |cons _ _=>simp[aX]at h5) J3
   show za S g.calm hI (λD s H ex=>rh (fa:=cc) g.calm g.K S.nd (λz=>nomatch z) G)
    (λD s H ex=>by
     cases ag with
     |nil =>
      cases cond with
      |nil=>show λpins s σ H Q I ⟨c0,e1,e2,ok,w⟩=>pb pins s σ H Q I (by subst e1 e2;rw[show ba Γ []=pure bD from rfl,aq]at w;show w c0 rfl rfl ok (Nx.refl c0))
      |cons _ _=>simp[aX]at h7
     |cons c1 cs =>
      cases cs with
      |nil =>
       cases cond with
       |nil=>simp[aX]at h7
       |cons e1 Kw =>
        cases Kw with
        |nil =>
         simp only[aX,cb]at h7;show uE (lX e1 (K4 X _ scope D s H ex) c1 (g.cx _ _ _ _ _ _) h7.1.2)
        |cons _ _=>simp[aX]at h7
      |cons _ _=>simp at h6)
    (λD s H ex=>br e (K4 X _ scope D s H ex) elt (g.cx _ _ _ _ _ _) h8) (tI L)
  .cases h5
theorem Gk:∀(es:List E) (X:Cx) (b:List kr),Gd ck Γ C d X->xn ck es X.N X.env.scope b=bD->∀out:Str,out.length<=cL->PJ X out b (JX C (Og Γ es out >>= λy=>pure (.loc,.str y)))
 |[],X,b,g,h,out,hz=>by
  cases b with
  |nil=>show FJ hz
  |cons _ _=>simp[xn]at h
 |e::es,X,b,g,h,out,hz=>by
  simp only[xn]at h;split at h
  .simp only[cb]at h;have z:=FL (p:=by assumption) (out:=out) (br e X _ g h.1) λy a=>Gk es X _ g h.2 y a;rintro pins s σ H Q I ⟨c0,c,f,i,w⟩;show z pins s σ H Q I ⟨c0,c,f,i,?_⟩;simp only[Og,ah]at w ⊢;show w
  .simp only[cb]at h;cases e with
   |cst u =>
    have k:=cB h.1;subst k;rintro pins s σ H Q I ⟨c0,c,f,i,w⟩;simp only[Og,ah]at w;rw[show ev Γ (.cst (.str _))=pure (.loc,.str _) from rfl,aq]at w;have⟨l,a,w⟩:=bz.mp w;simp only[qX]at a;split at a
    .rename_i j;cases a;show FK (Gk es X _ g h.2 _ j.2) j.2 pins s σ H Q I ⟨c0,c,f,i,by rw[ah];show w⟩
    .cases a
   |_=>simp at h
  .cases h
theorem jI:∀(es:List E) (X:Cx) (a:List kr),Gd ck Γ C d X->aX ck es X.N X.env.scope a=bD->PA X a (Lq C (bj Γ es))
 |[],X,a,g,h=>by
  cases a with
  |nil=>show Co
  |cons _ _=>simp[aX]at h
 |e::es,X,a,g,h=>by
  cases a with
  |nil=>simp[aX]at h
  |cons b a =>
   simp only[aX,cb]at h;show yW (br e X b g h.1.2) (jI es X a g h.2) (bb h.1.1)
theorem H9:∀(es:List E) (X:Cx) (o:Option kr),Gd ck Γ C d X->tH ck es X.N X.env.scope o=bD->PO X o (tO C (Pt Γ es))
 |[],X,o,g,h=>by
  cases o with
  |none=>show wY
  |some _=>simp[tH]at h
 |[e],X,o,g,h=>by
  cases o with
  |none=>simp[tH]at h
  |some a=>simp only[tH]at h;show wZ (br e X a g h)
 |_::_::_,X,o,g,h=>by simp[tH]at h
theorem zx:∀(es:List E) (X:Cx) (a:List kr),Gd ck Γ C d X->aX ck es X.N X.env.scope a=bD->∀{pos},PE X (.BoolOp .And a pos) (JX C (iO Γ es))
 |[],X,a,g,h,pos=>lW
 |[e],X,a,g,h,pos=>by
  cases a with
  |nil=>simp[aX]at h
  |cons b a =>
   cases a with
   |nil=>simp only[aX,cb]at h;show EA (br e X b g h.1.2)
   |cons _ _=>simp[aX]at h
 |e::c::es,X,a,g,h,pos=>by
  cases a with
  |nil=>simp[aX]at h
  |cons b a =>
   have h':noStar b=bD/\bo ck e X.N X.env.scope b=bD/\aX ck (c::es) X.N X.env.scope a=bD:=by
    rw[aX]at h;simp only[cb]at h;show⟨h.1.1,h.1.2,h.2⟩
   cases a with
   |nil=>have:=h'.2.2;simp[aX]at this
   |cons f i=>show snd_and (br e X b g h'.2.1) (zx (c::es) X _ g h'.2.2)
theorem lX:∀(e:E) (X:Cx) (j:kr),Gd ck Γ C d X->bo ck e X.N X.env.scope j=bD->PT X j (Le C (J' Γ e))
 |.and es,X,j,g,h=>by
  have⟨Y,s,rfl,l⟩:=jE h;clear h;have h:=l;show(vn es X _ g h).pt
 |.or es,X,j,g,h=>by
  have⟨Y,s,rfl,l⟩:=jE h;clear h;have h:=l;show(zA es X _ g h).pt
 |.not a,X,j,g,h=>by
  have⟨a',s,rfl,l⟩:=jF h;clear h;have h:=l;show Cm (lX a X _ g h)
 |.cmp op a b,X,j,g,h=>by
  have⟨a',NH,H,s,rfl,k⟩:=ip h;have h:=k;simp only[cb,Ť,td]at h;obtain⟨⟨⟨rfl,G⟩,v⟩,z⟩:=h;show Ce g.P g.w g.K g.u (br a X _ g v) (br b X _ g z) G
 |.Mw o1 o2 a b c,X,j,g,h=>by
  have⟨a',ab,ac,H,c',s,rfl,l⟩:=tF h;clear h;have h:=l;simp only[cb,Ť,td]at h;obtain⟨⟨⟨⟨⟨rfl,rfl⟩,G⟩,v⟩,z⟩,A⟩:=h;show yV g.P g.w g.K g.u (br a X _ g v) (br b X _ g z) (br c X _ g A) G
 |.var i,X,j,g,h=>by
  have⟨x,s,rfl,l⟩:=ao h;simp only[cb,Ť]at l;have⟨A,B⟩:=aG l.2;show iQ (pH l.1.1 (cp l.1.2) A B) g.K λ_=>rfl
 |.idx a b,X,j,g,h=>bA
 |.bi f es,X,j,g,h=>by
  have⟨f',as,s,rfl,k⟩:=aW h;have⟨x,I,rfl,o⟩:=ao k;have h:=o;show PT.eqv (iQ (HY g (jI es X _ g (dZ h)) h) g.K λ_=>rfl) λst Q w=>DZ w
 |.NX f es,X,j,g,h=>bA
 |.OJ m a es,X,j,g,h=>bA
 |.call f es,X,j,g,h=>by
  have⟨f',as,s,rfl,k⟩:=aW h;have⟨x,I,rfl,o⟩:=ao k;have h:=o;show PT.eqv (iQ (zw g (jI es X _ g (dZ h)) h) g.K λ_=>rfl) λst Q w=>DZ w
 |.cst u,X,j,g,h=>bA
 |.fst es,X,j,g,h=>bA
 |.SF x u,X,j,g,h=>bA
 |.neg a,X,j,g,h=>bA
 |.Mx a T,X,j,g,h=>by
  have⟨f',as,s,rfl,k⟩:=aW h;have⟨x,I,rfl,o⟩:=ao k;clear h k;have⟨a',H,rfl,z4⟩:=cO o;have⟨y,p2,rfl,z3⟩:=ao z4;have h:=z3;simp only[cb,Ť]at h;obtain⟨⟨⟨⟨⟨rfl,rfl⟩,v⟩,z⟩,A⟩,B⟩:=h;show PT.eqv (iQ (u9 g.K (cw v) (g.blt _ iW) (cw z) (g.blt _ (zu T)) (br a X _ g B) (bb A)) g.K λ_=>rfl) λst Q w=>?_;have w:W (ev Γ a >>= λx=>M.J8 (pF x.2 T)) st Q:=w;simp only[ah]at w ⊢;show W.mono w λx s1 J=>?_;have⟨b,e,L⟩:=bz.mp J;show bz.mpr ⟨b,e,aq.mpr (bz.mpr ⟨b,rfl,L⟩)⟩
 |.bad,X,j,g,h=>bA
 |.Lp a D O,X,j,g,h=>by
  have⟨as,p,q,rfl,k⟩:=gF h;have⟨a',H,rfl,o⟩:=cO k;clear h k;simp only[cb]at o;obtain⟨⟨⟨⟨⟨⟨⟨v,z⟩,A⟩,B⟩,h5⟩,h6⟩,h7⟩,h8⟩:=o;show PT.eqv (iQ (DY g (br a X _ g h8) v z A B h5 h6 h7) g.K λ_=>rfl) λst Q w=>?_;have w:W (ev Γ a >>= λx=>M.J8 (eX O x.2)) st Q:=w;have e:ev Γ (.Lp a D O)=(ev Γ a >>= λx=>M.J8 (eX O x.2) >>= λb=>pure (.loc,.bl b)):=rfl;rw[e];simp only[ah]at w ⊢;show W.mono w λx s1 J=>?_;have⟨b,e,L⟩:=bz.mp J;show bz.mpr ⟨b,e,aq.mpr (bz.mpr ⟨b,rfl,L⟩)⟩
 |.Oc ix i b,X,j,g,h=>bA
 |.Qt i,X,j,g,h=>bA
 |.pop i,X,j,g,h=>bA
 |.Mz i a,X,j,g,h=>bA
 |.JW f es is,X,j,g,h=>bA
 |.inD neg a i,X,j,g,h=>by
  have⟨a',NH,H,s,rfl,k⟩:=ip h;have⟨x,I,rfl,o⟩:=ao k;have h:=o;simp only[cb,Ť,td]at h;obtain⟨⟨⟨⟨⟨rfl,G⟩,v⟩,z⟩,A⟩,B⟩:=h;have⟨q1,q2⟩:=aG A;show CI g.u v (cp z) q1 q2 (br a X _ g B) G
 |.Qr i,X,j,g,h=>bA
 |.OK ln a b,X,j,g,h=>bA
 |.Qs i,X,j,g,h=>bA
 |.My i a b,X,j,g,h=>bA
 |.bin op a b,X,j,g,h=>bA
 |.ite c a b,X,j,g,h=>bA
 |.tup es,X,j,g,h=>bA
 |.lst es,X,j,g,h=>bA
 |.LM r,X,j,g,h=>bA
 |.Ob a lo hi,X,j,g,h=>bA
 |.comp n t ik src cond e,X,j,g,h=>bA
theorem vn:∀(es:List E) (X:Cx) (a:List kr),Gd ck Γ C d X->aX ck es X.N X.env.scope a=bD->∀{pos},PW X (.BoolOp .And a pos) (Le C (ba Γ es))
 |[],X,a,g,h,pos=>by
  cases a with
  |nil =>
   rintro i pins s σ H Q I ⟨c0,rfl,rfl,f,w⟩;rw[show ba Γ []=pure bD from rfl,aq]at w;show š ⟨c0.H,I,w c0 rfl rfl f (Nx.refl c0)⟩
  |cons _ _=>simp[aX]at h
 |[e],X,a,g,h,pos=>by
  cases a with
  |nil=>simp[aX]at h
  |cons b a =>
   cases a with
   |nil=>simp only[aX,cb]at h;show Br (lX e X b g h.1.2)
   |cons _ _=>simp[aX]at h
 |e::c::es,X,a,g,h,pos=>by
  cases a with
  |nil=>simp[aX]at h
  |cons b a =>
   have h':noStar b=bD/\bo ck e X.N X.env.scope b=bD/\aX ck (c::es) X.N X.env.scope a=bD:=by
    rw[aX]at h;simp only[cb]at h;show⟨h.1.1,h.1.2,h.2⟩
   cases a with
   |nil=>have:=h'.2.2;simp[aX]at this
   |cons j k=>show Cn (lX e X b g h'.2.1) (vn (c::es) X _ g h'.2.2)
theorem zA:∀(es:List E) (X:Cx) (a:List kr),Gd ck Γ C d X->aX ck es X.N X.env.scope a=bD->∀{pos},PW X (.BoolOp .Or a pos) (Le C (fX Γ es))
 |[],X,a,g,h,pos=>by
  cases a with
  |nil =>
   rintro i pins s σ H Q I ⟨c0,rfl,rfl,f,w⟩;rw[show fX Γ []=pure cc from rfl,aq]at w;show isTrue_or_nil ⟨c0.H,I,w c0 rfl rfl f (Nx.refl c0)⟩
  |cons _ _=>simp[aX]at h
 |[e],X,a,g,h,pos=>by
  cases a with
  |nil=>simp[aX]at h
  |cons b a =>
   cases a with
   |nil=>simp only[aX,cb]at h;show Ew (lX e X b g h.1.2)
   |cons _ _=>simp[aX]at h
 |e::c::es,X,a,g,h,pos=>by
  cases a with
  |nil=>simp[aX]at h
  |cons b a =>
   have h':noStar b=bD/\bo ck e X.N X.env.scope b=bD/\aX ck (c::es) X.N X.env.scope a=bD:=by
    rw[aX]at h;simp only[cb]at h;show⟨h.1.1,h.1.2,h.2⟩
   cases a with
   |nil=>have:=h'.2.2;simp[aX]at this
   |cons j k=>show FD (lX e X b g h'.2.1) (zA (c::es) X _ g h'.2.2)
end
def JI(g:Gd ck Γ C d X)(b:Xe e=bD)(h:bo ck e X.N X.env.scope f=bD):PE X f (zd C (ev Γ e)):=by
 cases e with
 |var i =>
  have⟨x,k,rfl,a⟩:=ao h;simp only[cb,Ť]at a;have⟨l,m⟩:=aG a.2;show ze a.1.1 (cp a.1.2) l m
 |cst u =>
  have⟨c,n,k,rfl,a⟩:=fz h;cases c with
  |int j=>have:=cB a;subst this;show iV xP λ_ _=>rfl
  |str y=>have:=cB a;subst this;show iV r9 λ_ _=>rfl
  |bool y=>have:=cB a;subst this;show iV qi λ_ _=>rfl
  |none=>have:=cB a;subst this;show iV xQ λ_ _=>rfl
  |_=>cases a
 |_=>cases b
end
abbrev RK(b:MH)(x:Str)(a:Nat):kr->Bool
 |.ListComp elt gens s pos=>cK (b.names.lookup x=a5 .local)&&(a==pos.line)&&!(s.names.any λ(n,k)=>n==x&&(k==.local||k==.cell))
 |_=>cc
abbrev lY(s:M')(k:kr->Bool):Bool:=match s with|.Expr e _=>k e|_=>cc
def d0(h:lY s k=bD):∃e p,s=.Expr e p/\k e=bD:=by
 unfold lY at h;split at h
 .show⟨_,_,rfl,h⟩
 .cases h
abbrev j6(s:M')(k:kr->kr->Bool):Bool:=match s with|.Assign ts v _=>cv ts λt=>k t v|_=>cc
def dr(h:j6 s k=bD):∃t v p,s=.Assign [t] v p/\k t v=bD:=by
 unfold j6 at h;split at h
 .have⟨t,rfl,a⟩:=aM h;show⟨_,_,_,rfl,h⟩
 .cases h
abbrev zB(s:M')(k:kr->Bool):Bool:=match s with|.Raise (a5 e) b6 _=>k e|_=>cc
def tJ(h:zB s k=bD):∃e p,s=.Raise (a5 e) b6 p/\k e=bD:=by
 unfold zB at h;split at h
 .show⟨_,_,rfl,h⟩
 .cases h
abbrev zC(s:M')(k:M'->ExceptHandler->Bool):Bool:=match s with|.Try b hs [] [] _=>cv b λb=>cv hs λh=>k b h|_=>cc
def tK(h:zC s k=bD):∃b a p,s=.Try [b] [a] [] [] p/\k b a=bD:=by
 unfold zC at h;split at h
 .have⟨b,rfl,c⟩:=aM h;have⟨a,rfl,d⟩:=aM c;show⟨_,_,_,rfl,d⟩
 .cases h
abbrev zD(s:ExceptHandler)(k:kr->Str->M'->Bool):Bool:=match s with|.ExceptHandler (a5 t) (a5 n) b _=>cv b λb=>k t n b|_=>cc
def tL(h:zD s k=bD):∃t n b p,s=.ExceptHandler (a5 t) (a5 n) [b] p/\k t n b=bD:=by
 unfold zD at h;split at h
 .have⟨b,rfl,a⟩:=aM h;show⟨_,_,_,_,rfl,a⟩
 .cases h
abbrev Gm(s:M')(k:Str->kr->Bool):Bool:=j6 s λt v=>a9 t λy=>k y v
def oa(h:Gm s k=bD):∃y p v a,s=.Assign [.Name y p] v a/\k y v=bD:=by
 have⟨t,v,a,rfl,z⟩:=dr h;have⟨y,p,rfl,z⟩:=ao z;show⟨y,p,v,a,rfl,z⟩
abbrev tM(e:kr)(k:kr->kr->kr->MH->Bool):Bool:=match e with
 |.ListComp elt gens scope _=>cv gens λg=>match g with
  |⟨b,a,[],0⟩=>k elt b a scope
  |_=>cc
 |_=>cc
def rj(h:tM e k=bD):∃elt c a scope p,e=.ListComp elt [⟨c,a,[],0⟩] scope p/\k elt c a scope=bD:=by
 unfold tM at h;split at h
 .have⟨g,rfl,b⟩:=aM h;split at b
  .show⟨_,_,_,_,_,rfl,b⟩
  .cases b
 .cases h
abbrev Gn(e:kr)(k:Str->Pos->Bool):Bool:=match e with|.Name x p=>k x p|_=>cc
def xp(h:Gn e k=bD):∃x p,e=.Name x p/\k x p=bD:=by
 unfold Gn at h;split at h
 .show⟨_,_,rfl,h⟩
 .cases h
abbrev zE(s:M')(k:kr->ă->kr->Bool):Bool:=match s with|.AugAssign t a b _=>k t a b|_=>cc
def tN(h:zE s k=bD):∃t a b p,s=.AugAssign t a b p/\k t a b=bD:=by
 unfold zE at h;split at h
 .show⟨_,_,_,_,rfl,h⟩
 .cases h
abbrev rm(s:M')(k:Option kr->Bool):Bool:=match s with|.Return v _=>k v|_=>cc
def iq(h:rm s k=bD):∃v p,s=.Return v p/\k v=bD:=by
 unfold rm at h;split at h
 .show⟨_,_,rfl,h⟩
 .cases h
abbrev Gp(v:Option kr)(k:kr->Bool):Bool:=match v with|some e=>k e|none=>cc
def og(h:Gp v k=bD):∃e,v=a5 e/\k e=bD:=by
 cases v with
 |none=>cases h
 |some e=>show⟨e,rfl,h⟩
abbrev zF(s:M')(k:kr->List M'->List M'->Bool):Bool:=match s with|.If c a b _=>k c a b|_=>cc
def tP(h:zF s k=bD):∃c a b p,s=.If c a b p/\k c a b=bD:=by
 unfold zF at h;split at h
 .show⟨_,_,_,_,rfl,h⟩
 .cases h
abbrev zG(s:M')(k:kr->kr->List M'->Bool):Bool:=match s with|.For t i b o _=>o.isEmpty&&k t i b|_=>cc
def tQ(h:zG s k=bD):∃t i b p,s=.For t i b [] p/\k t i b=bD:=by
 unfold zG at h;split at h
 .rw[cb,C1]at h;have⟨rfl,h⟩:=h;show⟨_,_,_,_,rfl,h⟩
 .cases h
abbrev Gq(s:M')(k:kr->List M'->Bool):Bool:=match s with|.While c b o _=>o.isEmpty&&k c b|_=>cc
def xq(h:Gq s k=bD):∃c b p,s=.While c b [] p/\k c b=bD:=by
 unfold Gq at h;split at h
 .rw[cb,C1]at h;have⟨rfl,h⟩:=h;show⟨_,_,_,rfl,h⟩
 .cases h
abbrev RL(k:Ck)(f:Str)(es:List E)(N:List Str)(a:MH)(v:kr):Bool:=CW v f λas=>cK (f∈k.fns)&&Lu a f&&bf f&&!as.isEmpty&&aX k es N a as
abbrev Z5(k:Ck)(c:List E)(f:Str)(es:List E)(g:Str)(b:List E)(N:List Str)(a:MH)(v:kr):Bool:=match c with
 |[]=>RL k f es N a v
 |[c]=>CU v λd a' e=>bo k c N a d&&RL k f es N a a'&&RL k g b N a e
 |_=>cc
mutual
noncomputable def zH(k:Ck):S->List Str->MH->M'->Bool
 |.set i e,N,d,s=>j6 s λt v=>Gn t λx p=>cK (N[i]?=a5 x)&&lQ d x&&cK (d.kind=.function)&&bo k e N d v&&(c9 v||RK d x p.line v||(match v with|.ListComp _ _ _ _=>bD|_=>cc))&&(match e with|.comp _ _ _ _ _ _=>bD|_=>c9 v)
 |.Oe is e,N,d,s=>j6 s λt v=>vm t λ_=>PN bD N d bD is t&&c9 v&&Gb v&&bo k e N d v
 |.put i a b,N,d,s=>j6 s λt u=>j5 t λo a'=>a9 o λx=>cK (N[i]?=a5 x)&&fK d x&&bf x&&c9 u&&eI a'&&bo k a N d a'&&bo k b N d u
 |.app i e,N,d,s=>lY s λc=>dY c λo m h as w=>a9 o λx=>cv as λa=>cK (m="append")&&cK (N[i]?=a5 x)&&fK d x&&bf x&&(h.endLine==w.line)&&noStar a&&bo k e N d a
 |.ext i e,N,d,s=>lY s λc=>dY c λo m h as w=>a9 o λx=>cv as λa=>cK (m="extend")&&cK (N[i]?=a5 x)&&fK d x&&bf x&&(h.endLine==w.line)&&noStar a&&bo k e N d a
 |.bad,_,_,_=>bD
 |.newD i,N,d,s=>j6 s λt v=>a9 t λx=>CV v&&cK (N[i]?=a5 x)&&lQ d x
 |.putD i a b,N,d,s=>j6 s λt u=>j5 t λo a'=>a9 o λx=>cK (N[i]?=a5 x)&&fK d x&&bf x&&c9 u&&eI a'&&bo k a N d a'&&bo k b N d u
 |.LN i a e,N,d,s=>lY s λc=>dY c λo m h as w=>j5 o λo' a'=>a9 o' λx=>cv as λb=>cK (m="append")&&cK (N[i]?=a5 x)&&fK d x&&bf x&&eI a'&&(h.endLine==w.line)&&noStar b&&bo k a N d a'&&bo k e N d b
 |.aug sub i a e,N,d,s=>zE s λt D b=>j5 t λo a'=>a9 o λx=>cK (D=if sub=bD then .Sub else .Add)&&cK (N[i]?=a5 x)&&fK d x&&bf x&&eI a'&&bo k a N d a'&&bo k e N d b&&Xe e
 |.SG _,_,_,_=>cc
 |.exp e,N,d,s=>lY s λA=>c9 A&&bo k e N d A
 |.ret e,N,d,s=>rm s λv=>Gp v λA=>bo k e N d A
 |.MA i e,N,d,s=>rm s λG=>Gp G λv=>tM v λelt q l scope=>dY l λo m h as w=>a9 o λx=>as.isEmpty&&cK (m="items")&&cK (N[i]?=a5 x)&&fK d x&&bf x&&(h.endLine==w.line)&&isTup q&&cK ((di q).length=2) &&
   BQ (di q++hide (di q) N) (di q) scope d.names&&PN bD (di q++hide (di q) N) (zp scope d) cc (gs 2) q&&bo k e (di q++hide (di q) N) (zp scope d) elt
 |.M0,N,d,s=>rm s λv=>v.isNone
 |.ite c a b,N,d,s=>zF s λB a' u=>bo k c N d B&&d9 k a N d a'&&d9 k b N d u
 |.J9 t is ik src body,N,d,s=>zG s λq l C=>PN t N d bD is q&&tu l&&(match f9 d q ik l with
    |some as=>aX k src N d as
    |none=>cc)&&d9 k body N d C
 |.OL c body,N,d,s=>Gq s λB C=>bo k c N d B&&d9 k body N d C
 |.brk,_,_,_=>cc
 |.cnt,_,_,_=>cc
 |.Na _,_,_,_=>cc
 |.Nz f es,N,d,s=>lY s λv=>RL k f es N d v
 |.NZ i c f es g H x I j m,N,d,s=>zC s λb J=>zD J λt n L=>Gm b λy v=>Gm L λz O=>(isNm t x&&isNm O n&&c9 v&&Z5 k c f es g H N d v)&&(I.all λcl=>cK ((cl,x)∈k.xe))&&(cK (k.xe.any λp=>cK (p.2=x))&&Lu d x&&bf x)&&(cK (N[i]?=a5 y)&&lQ d y&&cK (N[j]?=a5 n)&&cK (d.names.lookup n=a5 .local)&&bf n&&cK (N[m]?=a5 z)&&lQ d z)
 |.NY c e,N,d,s=>zB s λr=>CW r c λas=>cv as λa=>cK (c∈k.xc)&&Lu d c&&bf c&&noStar a&&bo k e N d a
 |.SH,_,_,_=>cc
noncomputable def d9(k:Ck):List S->List Str->MH->List M'->Bool
 |[],_,_,a=>a.isEmpty
 |s::ss,N,b,a=>match a with
  |s'::a=>zH k s N b s'&&d9 k ss N b a
  |[]=>cc
end
section
variable{ck:Ck}{Γ:Tab}{C:Ct}{d:Nat}{X:Cx}
def lZ(h:lQ a x=bD):Loc a x:=by
 unfold lQ at h;simp only[Mt,Ť]at h;show h
def fb(h:c9 v=bD):PZ v t a env=pure cc:=by
 cases v<;>first|rfl|cases h
def pP(h:c9 v=bD):R' [t] v a env=pure cc:=by
 rw[R'];show fb h
def C6(h:eI i=bD):∀a b new,Ŗ i a b new=(do NJ [new,a,b] (U3 a b new);Xv [new,a,b] [];pure .next):=by
 intro a b new;cases i<;>first|rfl|cases h
def vp(h:eI i=bD):∀v,Tx (.Subscript o i p) env v=(do
   let a <-NJ [v] (ve o env)
   let b <-NJ [v,a] (ve i env)
   Zc p
   NJ [v,a,b] (U3 a b v)
   Xv [v,a,b] []):=by
 intro v;cases i<;>first|rfl|cases h
structure Gs(ck:Ck)(Γ:Tab)(C:Ct)(d:Nat)(X:Cx):Prop where
 gd:Gd ck Γ C d X
 nd:X.N.Nodup
 fn:∀x,X.fn x=bD
 po:Ym (eH X.prog X.w) X.A X.env X.xe
 kd:X.env.scope.kind=.function
 xs:PQ ck X.K X.mg
 xl:∀c H',C.xw (.str c) H'->∀C' T H pins σ s e s',PySem.W.nsIn X.K i9 c=a5 (a5 (.ref C'))->Inv X pins σ H s->cj X.prog X.w X.stack H s e C' T .none H' s'->X.xe (.ref e) s'
 sk:X.stack=X.env::X.outer/\X.env.frame=a5 X.env.locals
 ex:X.ex=[]
def vq(g:Gd ck Γ C d X)(h:(match f9 X.env.scope i ik b with|some as=>aX ck src X.N X.env.scope as|none=>cc)=bD):PI X i b (NB C ik (bj Γ src)):=by
 split at h
 .rename_i as c;show DX g c (jI src X _ g h) (λa e=>by
   subst e;cases src with
   |nil=>simp[aX]at h
   |cons f j =>
    cases j with
    |nil =>
     simp only[aX,cb]at h;show⟨f,rfl,br f X _ g h.1.2⟩
    |cons _ _=>simp[aX]at h) (cS h)
 .cases h
def l8{pos p a:Pos}(hk:X.env.scope.kind=.function):PZ (.ListComp elt gens s pos) (a5 (.Name x p)) a.line X.env=pure (RK X.env.scope x p.line (.ListComp elt gens s pos)):=by
 have b:X.env.blockKind=.function:=by
  unfold Env.blockKind;rw[hk];rfl
 change(pure (X.env.blockKind==.function&&X.env.kindOf x==a5 .local&&p.line==pos.line&&!(s.names.any λ(n,k)=>n==x&&(k==.local||k==.cell))):Sem Bool)=_;rw[b];unfold RK;congr 1
 have:(X.env.kindOf x==a5 NameKind.local)=cK (X.env.scope.names.lookup x=a5 .local):=by
  unfold Env.kindOf;rw[Lo];simp
 rw[this];rfl
def Gr{src cond:List E}(G:Gs ck Γ C d X)(l:X.N[i]?=a5 x)(v:lQ X.env.scope x=bD)
  (h:bo ck (.comp n t ik src cond e) X.N X.env.scope (.ListComp elt [⟨m,a,b,0⟩] scope pos)=bD) (ns:Nat->Bool) (o:∀j,ns j=bD->j≠i) :
  L2.PS X (.Assign [.Name x p] (.ListComp elt [⟨m,a,b,0⟩] scope pos) MS) (KH C ns (ev Γ (.comp n t ik src cond e) >>= λr=>eN i r >>= λ_=>pure .nx)):=by
 have g:=G.gd;have q:=br (.comp n t ik src cond e) X _ g h;cases f:RK X.env.scope x p.line (.ListComp elt [⟨m,a,b,0⟩] scope pos) with
 |false=>show DV o G.nd l (lZ v) (.inl (G.fn x)) q (by rw[l8 G.kd,f])
 |true =>
  have hl:X.env.scope.names.lookup x=a5 .local:=by
   simp only[RK,cb,Ť]at f;show f.1.1
  have⟨Z6,y,Xh,Z7,VJ,p',A,u⟩:=jG h;cases A;clear h q;simp only[cb,Ť]at u;obtain⟨⟨⟨⟨⟨⟨⟨B,J⟩,L⟩,O⟩,T⟩,Y⟩,c⟩,h8⟩:=u;subst B;have S:=sv (X:=X) rfl (jH _ _) J;show FZ o S g.calm G.nd l hl (vq g T) (λD s H ex=>rh (fa:=cc) g.calm g.K S.nd (λz=>nomatch z) L)
   (λD s H ex=>by
    cases b with
    |nil =>
     cases cond with
     |nil=>show λpins s σ H Q I ⟨c0,k,e2,ok,w⟩=>pb pins s σ H Q I (by subst k e2;rw[show ba Γ []=pure bD from rfl,aq]at w;show w c0 rfl rfl ok (Nx.refl c0))
     |cons _ _=>simp[aX]at c
    |cons c1 cs =>
     cases cs with
     |nil =>
      cases cond with
      |nil=>simp[aX]at c
      |cons k Kw =>
       cases Kw with
       |nil =>
        simp only[aX,cb]at c;show uE (lX k (K4 X _ scope D s H ex) c1 (g.cx _ _ _ _ _ _) c.1.2)
       |cons _ _=>simp[aX]at c
     |cons _ _=>simp at Y)
   (λD s H ex=>br e (K4 X _ scope D s H ex) elt (g.cx _ _ _ _ _ _) h8) (by rw[l8 G.kd,f]) (tI O)
def vt(G:Gs ck Γ C d X)(h:RL ck f es X.N X.env.scope v=bD):PR X C v (bj Γ es >>= λrs=>aE rs >>= λ_=>dE Γ f (rs.map (·.2)))/\c9 v=bD:=by
 have⟨as,p2,g,rfl,z⟩:=gF h;simp only[cb,Ť,td]at z;obtain⟨⟨⟨⟨i,j⟩,k⟩,l⟩,a⟩:=z;have b:=cS a;have⟨u,fa,x,ps,m,n,o,p,q,r⟩:=(G.gd.fns _ i).ex;cases as with
 |nil=>cases l
 |cons s c =>
  have st:=bb (env:=X.env) (es:=c) (b s (by simp));have sn:=(bx (pos:=g) (env:=X.env) (es:=c) λe t=>b e (by simp[t])).1;show⟨F_ G.gd.P G.gd.w G.gd.K rfl q r m G.gd.room (cw j) n o p (aG k).1 (jI es X.MG _ (Gd.MG G.gd) a) st sn,rfl⟩
def C7(G:Gs ck Γ C d X)(h:zH ck (.Nz f es) X.N X.env.scope s'=bD):L2.PS X s' (KH C (Qu (.Nz f es)) (exec Γ (.Nz f es))):=by
 have⟨v,p,rfl,z⟩:=d0 h;have⟨a,b⟩:=vt G z;show HU a (fb b) G.xl
def C8(G:Gs ck Γ C d X)(h:zH ck (.NZ i c f es g l x k j m) X.N X.env.scope s'=bD):L2.PS X s' (KH C (Qu (.NZ i c f es g l x k j m)) (exec Γ (.NZ i c f es g l x k j m))):=by
 have⟨b,hd,p,rfl,r⟩:=tK h;have⟨t0,n,s,Z1,rfl,t⟩:=tL r;have⟨y,p1,v,p4,rfl,u⟩:=oa t;have⟨z,p6,v2,Xa,rfl,A⟩:=oa u;clear h r t u;simp only[cb,Ť]at A;obtain⟨⟨⟨⟨⟨⟨c1,D⟩,H⟩,a⟩,b1⟩,⟨⟨s,b3⟩,b4⟩⟩,⟨⟨⟨⟨⟨⟨I,J⟩,L⟩,O⟩,B⟩,Q⟩,T⟩⟩:=A;have⟨p5,rfl⟩:=gE c1;have⟨p9,rfl⟩:=gE D;have⟨Y,Z8,e0⟩:=T1.mp s;have⟨Dc,r1,r2⟩:=G.xs.xe x ⟨Y,Z8,ũ e0⟩;have o:∃q,PR X C v q/\exec Γ (.NZ i c f es g l x k j m)=q >>= kF k i j m:=by
  match c,a with
  |[],a=>show⟨_,(vt G a).1,rfl⟩
  |[c],a =>
   have⟨c',a',b',p3,rfl,w⟩:=nZ a;simp only[cb]at w;show⟨_,HS (lX c X.MG _ (Gd.MG G.gd) w.1.1) (vt G w.1.2).1 (vt G w.2).1,rfl⟩
  |_::_::_,a=>cases a
 have⟨q,o,e1⟩:=o;rw[e1];show HV (λn e=>by have e:(cK (n≠i)&&cK (n≠m)&&cK (n≠j))=bD:=e;simpa[and_assoc] using e) G.nd I (lZ J) (G.fn _) L O Q (lZ T) (G.fn _) G.gd.K o (fb H) G.sk G.ex (cw b3) r1 (aG b4).1 (λcl Nn Cc e=>r2 cl (ũ (i8.mp b1 cl Nn)) Cc e) (aG B).1 (aG B).2
def C9(G:Gs ck Γ C d X)(h:zH ck (.NY c e) X.N X.env.scope s'=bD):L2.PS X s' (KH C (Qu (.NY c e)) (exec Γ (.NY c e))):=by
 have⟨r,t,rfl,f⟩:=tJ h;have⟨as,u,p2,rfl,g⟩:=gF f;have⟨a,rfl,b⟩:=aM g;simp only[cb,Ť]at b;obtain⟨⟨⟨⟨i,j⟩,k⟩,l⟩,m⟩:=b;have⟨n,o,p,q⟩:=G.xs.xc _ i;show HL G.gd.calm (cw j) o (aG k).1 q (br e X a G.gd m) (bb (es:=[]) l) λH' w pins σ s e s' I F=>G.xl _ H' w n b6 H' pins σ s e s' p I F
mutual
theorem JJ:∀(s:S) (X:Cx) (s':M'),Gs ck Γ C d X->zH ck s X.N X.env.scope s'=bD->L2.PS X s' (KH C (Qu s) (exec Γ s))
 |.set i e,X,s',G,h=>by
  have⟨t,v,p1,rfl,k⟩:=dr h;have⟨x,p,rfl,l⟩:=xp k;clear h k;have h:=l;simp only[cb,Ť]at h;obtain⟨⟨⟨⟨⟨r,y⟩,B⟩,q⟩,J⟩,A⟩:=h;have K7:∀j,Qu (.set i e) j=bD->j≠i:=λj Q=>ũ (show cK (j≠i)=bD from Q);by_cases hc:c9 v=bD
  .show DV K7 G.nd r (lZ y) (.inl (G.fn x)) (br e X v G.gd q) (fb hc)
  .cases e with
   |comp n t ik src cond e =>
    obtain⟨elt,tg,ac,ag,scope,p3,rfl,_⟩:=jG q;show Gr G r y q _ K7
   |_=>show absurd A hc
 |.Oe is e,X,s',G,h=>by
  have⟨t,v,p1,rfl,k⟩:=dr h;have⟨es,kk,p,rfl,l⟩:=lU k;clear h k;have h:=l;simp only[cb]at h;obtain⟨⟨⟨r,y⟩,B⟩,q⟩:=h;show F0 (λj Q=>ũ (show cK (j∉is)=bD from Q)) (br e X v G.gd q) (rh (fa:=bD) G.gd.calm G.gd.K G.nd (λ_=>G.fn) r) (pP y) ?_ rfl;cases v<;>first|rfl|cases B
 |.put i a b,X,s',G,h=>by
  have⟨t,v,p,rfl,k⟩:=dr h;have⟨o,a',p1,rfl,l⟩:=dq k;have⟨x,px,rfl,L⟩:=ao l;simp only[cb,Ť]at L;obtain⟨⟨⟨⟨⟨⟨r,y⟩,B⟩,q⟩,J⟩,A⟩,h7⟩:=L;have⟨T,Y⟩:=aG B;show HK G.gd.P G.gd.w G.gd.K G.gd.u r (cp y) T Y (br b X _ G.gd h7) (br a X _ G.gd A) (pP q) rfl (vp J)
 |.app i e,X,s',G,h=>by
  have⟨c,p0,rfl,k⟩:=d0 h;have⟨o,m,ab,as,G',rfl,l⟩:=bE k;have⟨x,px,rfl,L⟩:=ao l;have⟨a,rfl,z4⟩:=aM L;simp only[cb,Ť]at z4;obtain⟨⟨⟨⟨⟨⟨rfl,r⟩,y⟩,B⟩,q⟩,J⟩,A⟩:=z4;have⟨T,Y⟩:=aG B;have st:=bb (env:=X.env) (es:=[]) J;have sa:=(bx (pos:=G') (env:=X.env) (es:=[a]) λe he=>by simp at he;subst he;show J).2;show HI G.gd.K r (cp y) T Y (br e X _ G.gd A) ?_ q st;rw[sa];rfl
 |.ext i e,X,s',G,h=>by
  have⟨c,p0,rfl,k⟩:=d0 h;have⟨o,m,ab,as,G',rfl,l⟩:=bE k;have⟨x,px,rfl,L⟩:=ao l;have⟨a,rfl,z4⟩:=aM L;simp only[cb,Ť]at z4;obtain⟨⟨⟨⟨⟨⟨rfl,r⟩,y⟩,B⟩,q⟩,J⟩,A⟩:=z4;have⟨T,Y⟩:=aG B;have st:=bb (env:=X.env) (es:=[]) J;have sa:=(bx (pos:=G') (env:=X.env) (es:=[a]) λe he=>by simp at he;subst he;show J).2;show HJ G.gd.K r (cp y) T Y (br e X _ G.gd A) ?_ q st;rw[sa];rfl
 |.bad,X,s',G,h=>λpins sh σ H D I ⟨_,_,_,_,w⟩=>(bw.mp w).elim
 |.newD i,X,s',G,h=>by
  have⟨t,v,p1,rfl,k⟩:=dr h;have⟨x,p,rfl,l⟩:=ao k;clear h k;have h:=l;simp only[cb,Ť]at h;have⟨p2,rfl⟩:=n9 h.1.1;show F6 (λj Q=>ũ (show cK (j≠i)=bD from Q)) G.nd h.1.2 (lZ h.2) (.inl (G.fn _)) (fb rfl)
 |.putD i a b,X,s',G,h=>by
  have⟨t,v,p,rfl,k⟩:=dr h;have⟨o,a',p1,rfl,l⟩:=dq k;have⟨x,px,rfl,L⟩:=ao l;simp only[cb,Ť]at L;obtain⟨⟨⟨⟨⟨⟨r,y⟩,B⟩,q⟩,J⟩,A⟩,h7⟩:=L;have⟨T,Y⟩:=aG B;show F7 G.gd.u r (cp y) T Y (br b X _ G.gd h7) (br a X _ G.gd A) (pP q) rfl (vp J)
 |.LN i a e,X,s',G,h=>by
  have⟨c,p0,rfl,k⟩:=d0 h;have⟨o,m,ab,as,G',rfl,l⟩:=bE k;have⟨o',a',p1,rfl,L⟩:=dq l;have⟨x,px,rfl,z4⟩:=ao L;have⟨b,rfl,z5⟩:=aM z4;simp only[cb,Ť]at z5;obtain⟨⟨⟨⟨⟨⟨⟨⟨rfl,r⟩,y⟩,B⟩,q⟩,J⟩,A⟩,h7⟩,h8⟩:=z5;have ha:=br e X _ G.gd h8;have⟨T,Y⟩:=aG B;have st:=bb (env:=X.env) (es:=[]) A;have sa:=(bx (pos:=G') (env:=X.env) (es:=[b]) λe he=>by simp at he;subst he;show A).2;show F8 G.gd.K G.gd.u r (cp y) T Y ha (br a X _ G.gd h7) (rg q) ?_ J st;rw[sa];rfl
 |.aug sub i a e,X,s',G,h=>by
  have⟨t,op,b,p,rfl,O⟩:=tN h;clear h;have h:=O;have⟨o,a',p1,rfl,k⟩:=dq h;have⟨x,px,rfl,l⟩:=ao k;simp only[cb,Ť]at l;obtain⟨⟨⟨⟨⟨⟨⟨rfl,r⟩,y⟩,B⟩,q⟩,J⟩,A⟩,h7⟩:=l;have ha:=JI (C:=C) (Γ:=Γ) (d:=d) (ck:=ck) G.gd h7 A;have⟨T,Y⟩:=aG B;show HP r (cp y) T Y ha (br a X _ G.gd J) (C6 q)
 |.SG i,X,s',G,h=>absurd (show cc=bD from h) i7
 |.exp e,X,s',G,h=>by
  have⟨e',p,rfl,O⟩:=d0 h;clear h;have h:=O;simp only[cb]at h;show HD (br e X _ G.gd h.2) (fb h.1)
 |.ret e,X,s',G,h=>by
  have⟨v,p,rfl,O⟩:=iq h;have⟨e',rfl,k⟩:=og O;clear h O;have h:=k;show HE (br e X _ G.gd h)
 |.MA i e,X,s',G,h=>by
  have g:=G.gd;have⟨v0,p0,rfl,y0⟩:=iq h;have⟨v,rfl,y1⟩:=og y0;clear h y0;have h:=y1;have⟨elt,tg,ac,scope,p,rfl,k⟩:=rj h;have⟨o,m,ab,as,G',rfl,l⟩:=bE k;have⟨x,px,rfl,L⟩:=ao l;simp only[cb,Ť,C1]at L;obtain⟨⟨⟨⟨⟨⟨⟨⟨⟨⟨rfl,rfl⟩,r⟩,y⟩,B⟩,q⟩,J⟩,A⟩,h7⟩,h8⟩,h9⟩:=L;cases tg with
  |Tuple es kx ps =>
   have⟨T,Y⟩:=aG B;have S:=sv (X:=X) rfl (jH _ _) h7;rw[<-A]at h8;show F9 r (cp y) T Y q S g.calm A (λD s H ex=>rh (fa:=cc) g.calm g.K S.nd (λz=>nomatch z) h8) (λD s H ex=>br e _ _ (g.cx _ _ _ _ _ _) h9)
  |_=>cases J
 |.M0,X,s',G,h=>by
  have⟨v,p,rfl,O⟩:=iq h;cases v with
  |none=>show FY
  |some _=>cases O
 |.ite c a b,X,s',G,h=>by
  have⟨c',a',b',p,rfl,O⟩:=tP h;clear h;have h:=O;simp only[cb]at h;have ha:=l9 a X _ G h.1.2;have hb:=l9 b X _ G h.2;show HF (lX c X _ G.gd h.1.1) (Lg.weak ha λD σ H z=>pL (λj Q=>(D7.mp (show(LW a j&&LW b j)=bD from Q)).1) z) (Lg.weak hb λD σ H z=>pL (λj Q=>(D7.mp (show(LW a j&&LW b j)=bD from Q)).2) z)
 |.J9 t is ik src body,X,s',G,h=>by
  have⟨tg,ac,Mh,p,rfl,O⟩:=tQ h;clear h;have h:=O;rw[cb,cb,cb]at h;show HH G.po G.gd.calm (vq G.gd h.1.2) (rh (fa:=bD) G.gd.calm G.gd.K G.nd (λ_=>G.fn) h.1.1.1) (l9 body X _ G h.2) (tI h.1.1.2) λj Q=>by have Q:(cK (j∉is)&&LW body j)=bD:=Q;simpa using Q
 |.OL c body,X,s',G,h=>by
  have⟨c',Mh,p,rfl,O⟩:=xq h;clear h;have h:=O;simp only[cb]at h;show HG G.po (lX c X _ G.gd h.1) (l9 body X _ G h.2)
 |.brk,X,s',G,h=>absurd (show cc=bD from h) i7
 |.cnt,X,s',G,h=>absurd (show cc=bD from h) i7
 |.Na is,X,s',G,h=>absurd (show cc=bD from h) i7
 |.Nz f es,X,s',G,h=>C7 G h
 |.NZ i c f es g LK x cs j m,X,s',G,h=>C8 G h
 |.NY c e,X,s',G,h=>C9 G h
 |.SH,X,s',G,h=>absurd (show cc=bD from h) i7
theorem l9:∀(ss:List S) (X:Cx) (a:List M'),Gs ck Γ C d X->d9 ck ss X.N X.env.scope a=bD->Lg X a (KH C (LW ss) (execs Γ ss))
 |[],X,a,G,h=>by
  cases a with
  |nil=>show HC
  |cons _ _=>simp[d9]at h
 |s::ss,X,a,G,h=>by
  cases a with
  |nil=>simp[d9]at h
  |cons s' a =>
   simp only[d9,cb]at h;have c:=JJ s X s' G h.1;have e:=l9 ss X a G h.2;show FX (PS.weak c λD σ H z=>pL (λj b=>by simp only[LW,cb]at b;show b.1) z) (Lg.weak e λD σ H z=>pL (λj b=>by simp only[LW,cb]at b;show b.2) z)
end
end
section
variable{ck:Ck}{Γ:Tab}{d:Nat}{P:va}{w:w6}{K:PySem.W.Frag}{mg:Str->Option dV}{base:KX}
def jJ{n i:Nat}(h:(start us n)[i]?=a5 (a5 (k,u))):us[i]?=a5 u/\k=if Kl u=bD then .loc else .any:=by
 unfold start at h;by_cases a:i<us.length
 .rw[u3 (by simpa using a),i2]at h;rw[kj a]at h ⊢;simp only[T9,RP,XU]at h;have⟨b,c⟩:=h;subst c;show⟨rfl,b.symm⟩
 .rw[qs (by simp;lia),Lk]at h;split at h<;>cases h
def du{i:Nat}(h:vs[i]?=a5 v):(L2.start N vs)[i]?=a5 (a5 v):=by
 unfold L2.start;have a:i<vs.length:=(dt.mp h).1;rw[u3 (by simpa using a),i2,h];rfl
def zI(p:∀a,c a->LV H a)(h:au ⟨P,w,K,H,c,λ_=>False,q⟩ c H us vs)(s:N.length=n):Ok ⟨P,w,K,H,c,λ_=>False,q⟩ ⟨λ_=>False,H,L2.start N vs,start us n,λ_=>[]⟩:=by
 have f:∀(j:Nat) (u:U),(start us n)[j]?≠a5 (a5 (.JS,u)):=λj u e=>by
  have:=(jJ e).2;split at this<;>cases this
 show⟨λa o e _=>e,λa z=>z.elim,λa z=>⟨p a z,λz=>z⟩,λa z=>z.elim,?_,λi k u e=>?_,λi j k k' u u' r hk x g m y A=>?_,⟨λj u r e _=>(f j u e).elim,λi j a ⟨u,_,e,_⟩=>(f i u e).elim,λj a ⟨u,_,e,_⟩=>(f j u e).elim⟩⟩
 .have:=h.len;simp[start,L2.start,s];lia
 .have⟨g,m⟩:=jJ e;have⟨v,ev,b⟩:=h.get g;show⟨v,du ev,?_⟩;subst m;by_cases l:Kl u=bD
  .rw[ť l];show Rep.Kl l b
  .rw[Ŧ l];show Rep.mv (.up λa z=>.inl z) b
 .obtain⟨_,t⟩:=jJ g;subst t;split at hk<;>cases hk
def pQ(h:cu Γ fn us=a5 (.ok (k,u))):us.length=fn.np/\((k=.own\/k=.loc\/k=.any)/\(∃st',execs Γ fn.body (start us fn.ns)=a5 (.ok (.rt k u),st'))\/(k=.loc/\u=.J0/\∃st',execs Γ fn.body (start us fn.ns)=a5 (.ok .nx,st'))):=by
 unfold cu at h;split at h
 .rename_i hl;show⟨hl,?_⟩;split at h
  .rename_i e;cases h;show .inl ⟨.inl rfl,_,e⟩
  .rename_i e;cases h;show .inl ⟨.inr (.inl rfl),_,e⟩
  .rename_i e;cases h;show .inl ⟨.inr (.inr rfl),_,e⟩
  .rename_i e;cases h;show .inr ⟨rfl,rfl,_,e⟩
  .cases h
  .cases h
 .cases h
def rn(h:cu Γ fn us=a5 (.exc c)):us.length=fn.np/\∃st',execs Γ fn.body (start us fn.ns)=a5 (.ok (.rt .io (.str c)),st'):=by
 unfold cu at h;split at h
 .rename_i hl;show⟨hl,?_⟩;split at h
  .cases h
  .cases h
  .cases h
  .cases h
  .rename_i e;cases h;show⟨_,e⟩
  .cases h
 .cases h
def D0{st:M'}(F:Oz K fn.name i st f fd)(S:eG N ps (aV st))(hN:N.length=fn.ns)(Mj:ps.length=fn.np)
  (PV:d9 ck fn.body N (aV st) (cZ st)=bD) (t:∀x∈bW,mg x=b6) (y:∀g∈ck.fns,CY P w K mg base d (Γ g) g)
  (M5:∀p∈ck.gl,∃val v,mg p.1=a5 val/\RelV v val/\∀(C:Ct) S H,Rep C S H p.2 v) (L6:∀p∈ck.L6,CZ P w K mg base d (Γ p.1) p.1 p.2) (xs:PQ ck K mg):jv P w K mg base (Pl P w) (d+1) f fd ps (spT P w K (cu Γ fn) fn.np):=by
 have⟨oc,od,kV,ab,pm,an,J,ct,P_,rfl,lk,Kk⟩:=F.ex;show DO lk Kk S (λvs H Q E h=>h.1.trans Mj.symm) λA outer s H vs Q E L h=>?_;have⟨hl,us,r,q,O,Z9,B,b⟩:=h;have Qw:=L.un;let l:Ct:=⟨P,w,K,H,q,λ_=>False,λu H'=>∃c,u=.str c/\∀j,PySem.W.nsIn K i9 c=a5 (a5 (.ref j))->E (.ref j) b6 H'⟩
 have D:(Oi P w K H q).Eqv l:=⟨rfl,rfl,rfl⟩
 have m:l.Eqv (Oi P w K H q):=⟨rfl,rfl,rfl⟩
 have G:Gs ck Γ l d (qk (Pl P w) P w K mg base N i (aV st) f J A outer s H E) :=
  ⟨⟨rfl,rfl,rfl,by change(A.deeper (Vq i (aV st) s.heap.objs.size f J)).units+60<Mg;lia,rfl,L,t,y,λp hp=>let ⟨val,v,D,m,q3⟩:=M5 p hp;⟨val,v,D,m,q3 _⟩,L6,xs⟩,S.nd,λ_=>rfl,PassesOwn.leaving,S.kind,xs,
   λc H' ⟨c',e1,hE⟩ j T H2 pins σ s2 e s' hm I F=>by
    cases e1;show F.leave I.ok.frames rfl I.stack I.kJ λT' Mn F'=>⟨e,j,T',H',rfl,F'.down I rfl rfl rfl,hE j hm⟩,⟨rfl,rfl⟩,rfl⟩
 show⟨_,l9 fn.body _ _ G PV,⟨λ_=>False,H,L2.start N vs,start us fn.ns,λ_=>[]⟩,rfl,rfl,zI Z9 (B.cg D) hN,?_⟩;cases r with
 |exc c =>
  obtain⟨_,st',e⟩:=rn O;show⟨_,st',e,λcf Y ok n kp=>⟨c,rfl,λj hC=>b j cf.H hC λa o z=>ok.same a o z λz=>z⟩⟩
 |ok x =>
 have⟨k,u⟩:=x;have⟨hk,b⟩:=b;obtain⟨_,VL⟩:=pQ O;have mk:∀(c:Cf),Ok l c->∀v,FW l c k u v->Back (Oi P w K H q) H c.H c.S k u v:=λc ok v r=>by
  show⟨λa o e=>ok.same a o e λz=>z,λa z=>ok.L3 a z,λe=>?_,λe=>?_,λe=>?_⟩
  .subst e;have⟨r0,e,h1,h2,h3,h4⟩:=r;show⟨r0,e,h1,h2,h4.cg m⟩
  .subst e;show Rep.cg m r
  .subst e;show Rep.cg m r
 rcases VL with⟨_,st',e⟩|⟨rfl,rfl,st',e⟩
 .rcases hk with rfl|rfl|rfl<;>show⟨_,st',e,λc Y ok n kp v r=>b v c.H c.S (mk c ok v r)⟩
 .show⟨_,st',e,λc Y ok n kp=>b .J0 c.H c.S (mk c ok .J0 rfl)⟩
def ir(h:(c8 is us n)[i]?=a5 (a5 (k,u))):us[i]?=a5 u/\k=if i∈is then .io else if Kl u=bD then .loc else .any:=by
 unfold c8 at h;by_cases a:i<us.length
 .rw[u3 (by simpa using a),i2,U1]at h;rw[kj a]at h ⊢;simp only[T9,RP,XU,Q7]at h;have⟨b,c⟩:=h;subst c;show⟨rfl,b.symm⟩
 .rw[qs (by simp;lia),Lk]at h;split at h<;>cases h
def xr(a:Ga C C.H₀ is us vs)(s:N.length=n):Ok C ⟨λ_=>False,C.H₀,L2.start N vs,c8 is us n,λ_=>[]⟩:=by
 have g:∀(j:Nat) (u:U),(c8 is us n)[j]?≠a5 (a5 (.JS,u)):=λj u e=>by
  have:=(ir e).2;split at this
  .cases this
  .split at this<;>cases this
 have rt:∀(j:Nat) (k:Kd) (u:U),k.root=bD->(c8 is us n)[j]?=a5 (a5 (k,u))->j∈is/\us[j]?=a5 u:=λj k u hk e=>by
  have⟨f,b⟩:=ir e;show⟨?_,f⟩;by_cases z:j∈is
  .show z
  .rw[Ŧ z]at b;subst b;split at hk<;>cases hk
 show⟨λa o e _=>e,λa z=>z.elim,λx z=>a.par x z,λx z=>⟨a.Xb x z,a.Xb x z⟩,?_,λi k u e=>?_,λi j k k' u u' r hk t f b l m=>?_,⟨λj u r e _=>(g j u e).elim,λi j a ⟨u,_,e,_⟩=>(g i u e).elim,λj a ⟨u,_,e,_⟩=>(g j u e).elim⟩⟩
 .have:=a.len;simp[c8,L2.start,s];lia
 .have⟨f,b⟩:=ir e;by_cases z:i∈is
  .rw[ť z]at b;subst b;have⟨r,b1,c,b3⟩:=a.io i u z f;show⟨_,du b1,r,rfl,λz=>z,λz=>(a.par r z).2 c,c,b3⟩
  .rw[Ŧ z]at b;have⟨v,b1,c⟩:=a.any i u z f;show⟨v,du b1,?_⟩;subst b;by_cases h:Kl u=bD
   .rw[ť h];show Rep.Kl h c
   .rw[Ŧ h];show Rep.mv (.up λa z=>.inl z) c
 .have⟨p,y⟩:=rt i k u hk f;have⟨q,A⟩:=rt j k' u' t b;obtain⟨B,b1,_⟩:=a.io i u p y;obtain⟨D,c,_⟩:=a.io j u' q A;rw[du b1]at l;rw[du c]at m;cases l;cases m;show a.inj i j _ p q b1 c
theorem vv:∀{is:List Nat}{st:aw}{ws:List U},Pu is st=a5 ws->ws.length=is.length/\∀(n i:Nat),is[n]?=a5 i->∃w,ws[n]?=a5 w/\st[i]?=a5 (a5 (.io,w))
 |[],_,_,h=>by cases h;show⟨rfl,λn i e=>by simp at e⟩
 |i::is,st,ws,h=>by
  unfold Pu at h;split at h
  .rename_i u c;rw[et]at h;have⟨k,h,rfl⟩:=h;have⟨a,b⟩:=vv h;show⟨by simp[a],λn j e=>?_⟩;cases n with
   |zero=>simp at e;subst e;show⟨u,rfl,c⟩
   |succ n=>have⟨w,f,g⟩:=b n j (by simpa using e);show⟨w,by simpa using f,g⟩
  .cases h
def vA(h:gK Γ fn is body us=a5 (.ok r)):us.length=fn.np/\∃f st k u ws,execs Γ body (c8 is us fn.ns)=a5 (.ok f,st)/\SJ f=a5 (k,u)/\Pu is st=a5 ws/\r=(k,.tup (u::ws)):=by
 unfold gK at h;split at h
 .rename_i hl;show⟨hl,?_⟩;split at h
  .rename_i f st e;obtain⟨⟨k,u⟩,a,h⟩:=ro.mp h;rw[et]at h;have⟨ws,b,c⟩:=h;cases c;show⟨f,st,k,u,ws,e,a,b,rfl⟩
  .cases h
 .cases h
def Gu{st:M'}(F:Oz K fn.name b st f fd)(S:eG N ps (aV st))(hN:N.length=fn.ns)(Mj:ps.length=fn.np)(K7:∀i∈is,LW body i=bD)
  (PV:d9 ck body N (aV st) (cZ st)=bD) (y:∀x∈bW,mg x=b6) (B:∀g∈ck.fns,CY P w K mg base d (Γ g) g)
  (M5:∀p∈ck.gl,∃val v,mg p.1=a5 val/\RelV v val/\∀(C:Ct) S H,Rep C S H p.2 v) (L6:∀p∈ck.L6,CZ P w K mg base d (Γ p.1) p.1 p.2) (xs:PQ ck K mg):jv P w K mg base O7 (d+1) f fd ps (S3 P w K (gK Γ fn is body) fn.np is):=by
 show F.ok S (λvs H Q E h=>h.1.trans Mj.symm) (λJ A outer s H vs Q E L h=>?_);have⟨hl,us,k,u,ws,m,IO,Ks,hk,D,j⟩:=h;have Qw:=L.un;have G:Gs ck Γ (NG P w K H m IO) d (qk O7 P w K mg base N b (aV st) f J A outer s H E).MG :=
  ⟨⟨rfl,rfl,rfl,by change(A.deeper (Vq b (aV st) s.heap.objs.size f J)).units+60<Mg;lia,rfl,L,y,B,λp hp=>let ⟨val,v,q1,q2,q3⟩:=M5 p hp;⟨val,v,q1,q2,q3 _⟩,L6,xs⟩,S.nd,λ_=>rfl,PassesOwn.never,S.kind,xs,λ_ _ z=>z.elim,⟨rfl,rfl⟩,rfl⟩
 show⟨_,l9 body _ _ G PV,⟨λ_=>False,H,L2.start N vs,c8 is us fn.ns,λ_=>[]⟩,rfl,rfl,xr (C:=NG P w K H m IO) D hN,?_⟩;obtain⟨_,O,st',k',u',OO,e,o,e2,e3⟩:=vA Ks;cases e3;have⟨l1,l2⟩:=vv e2;have T:∀(c:Cf),c.st=st'->Ok (NG P w K H m IO) c->Kept (LW body) ⟨λ_=>False,H,L2.start N vs,c8 is us fn.ns,λ_=>[]⟩ c->∀v,FW (NG P w K H m IO) c k u v->DW (NG P w K H m IO) H c.H c.S is vs ws k u v:=λc q l t v r=>by
  show⟨l.same,λa z=>l.L3 a z,λe=>?_,λe=>?_,l1,λn i r w Y g2 g3=>?_⟩
  .subst e;have⟨r0,e,h1,h2,h3,h4⟩:=r;show⟨r0,e,h1,h2,h4⟩
  .subst e;show r
  .have⟨w',z1,z2⟩:=l2 n i Y;rw[g3]at z1;cases z1;rw[<-q]at z2;obtain⟨v',I,r',y2,_,_,_,y3⟩:=l.sl i _ _ z2;have hi:i∈is:=l' Y;rw[t.1 i (K7 i hi)]at I;rw[show(L2.start N vs)[i]?=a5 (a5 (.ref r)) from du g2]at I;cases I;cases y2;show y3
 show⟨O,st',e,λc q l n t=>?_⟩;cases O with
 |nx=>cases o;show j .J0 c.H c.S (T c q l t .J0 rfl)
 |rt k0 u0=>cases k0<;>first|(cases o;done)|(cases o;show λv r=>j v c.H c.S (T c q l t v r))
 |_=>cases o
abbrev Fn.bd(fn:Fn):List S:=match fn.io with|some (_,b)=>b|none=>fn.body
abbrev S6(fn:Fn):Bool:=match fn.io with|some (is,b)=>is.all λi=>LW b i|none=>bD
abbrev S7(ck:Ck)(Pg:List Fn):Bool:=ck.fns.all (λg=>Pg.any λfn=>cK (fn.name=g)&&fn.io.isNone)&&ck.L6.all λp=>Pg.any λfn=>cK (fn.name=p.1)&&cK (fn.io.map (·.1)=a5 p.2)
structure Ld(ck:Ck)(K:PySem.W.Frag)(mg:Str->Option dV)(fn:Fn):Prop where
 ex:∃(qual:Str) (st:M') (f:d8) (fd:TL) (N ps:List Str),Oz K fn.name qual st f fd/\mg fn.name=a5 (.ref f)/\Binds K fd ps []/\eG N ps (aV st)/\N.length=fn.ns/\ps.length=fn.np/\d9 ck fn.bd N (aV st) (cZ st)=bD/\S6 fn=bD
def C_{Pg:List Fn}(a:(Pg.map (·.name)).Nodup)(h:fn∈Pg):Pg.find? (λg=>cK (g.name=fn.name))=a5 fn:=by
 induction Pg with
 |nil=>cases h
 |cons g Pg b =>
  rw[d4,l0]at a;rcases d7.mp h with rfl|h
  .simp
  .rw[N'];have:cK (g.name=fn.name)=cc:=by
    apply ŧ;intro z;show a.1 (z▸VM h)
   rw[this];show b a.2 h
def tR(a:(Pg.map (·.name)).Nodup)(h:fn∈Pg):J5 Pg (d+1) fn.name=jC (J5 Pg d) fn:=by
 funext us
 change(match Pg.find? λg=>cK (g.name=fn.name) with|some fn=>jC (J5 Pg d) fn us|none=>b6)=_;rw[C_ a h]
def oh(h:fn.io=b6):jC Γ fn=cu Γ fn:=by funext us;unfold jC;rw[h]
def xu(h:fn.io=a5 (is,b)):jC Γ fn=gK Γ fn is b:=by funext us;unfold jC;rw[h]
def vB(O:(Pg.map (·.name)).Nodup)(q:S7 ck Pg=bD)(t:∀x∈bW,mg x=b6)(T:∀p∈ck.gl,∃val v,mg p.1=a5 val/\RelV v val/\∀(C:Ct) S H,Rep C S H p.2 v)
  (ld:∀fn∈Pg,Ld ck K mg fn) (xs:PQ ck K mg):∀d,(∀g∈ck.fns,CY P w K mg base d (J5 Pg d g) g)/\∀p∈ck.L6,CZ P w K mg base d (J5 Pg d p.1) p.1 p.2:=by
 simp only[S7,cb,i8,T1,Ť]at q;intro d;induction d with
 |zero =>
  show⟨λg I=>?_,λp J=>?_⟩
  .obtain⟨fn,j,rfl,_⟩:=q.1 g I;obtain⟨a,st,f,l,N,ps,F,m,n,S,B,o,_⟩:=(ld fn j).ex;show⟨fn.np,f,l,ps,⟨λvs H Q E h=>h.1.trans o.symm,λA outer s H args us vs Q E _ _ _ _ h=>by obtain⟨_,us,r,_,e,_⟩:=h;cases e⟩,m,F.kp,n,λus k u e=>(by cases e),λus c e=>by cases e⟩
  .obtain⟨fn,j,e,_⟩:=q.2 p J;obtain⟨a,st,f,l,N,ps,F,m,n,S,B,o,_⟩:=(ld fn j).ex;show⟨fn.np,f,l,ps,⟨λvs H Q E h=>h.1.trans o.symm,λA outer s H args us vs Q E _ _ _ _ h=>by obtain⟨_,us,k,u,_,_,_,e,_⟩:=h;cases e⟩,e▸m,F.kp,n,λus k e=>by cases e⟩
 |succ d G =>
  show⟨λg I=>?_,λp J=>?_⟩
  .have⟨fn,j,rfl,i⟩:=q.1 g I;rw[SM]at i;obtain⟨a,st,f,l,N,ps,F,m,n,S,B,o,D,_⟩:=(ld fn j).ex;rw[tR O j,oh i];rw[show fn.bd=fn.body by unfold Fn.bd;rw[i]]at D;show⟨fn.np,f,l,ps,D0 F S B o D t G.1 T G.2 xs,m,F.kp,n,λus k u e=>?_,λus c e=>(rn e).1⟩;have⟨h1,h2⟩:=pQ e;show⟨?_,h1⟩;rcases h2 with⟨z,_⟩|⟨z,_⟩
   .show z
   .show .inr (.inl z)
  .have⟨fn,j,e,i⟩:=q.2 p J;rw[et]at i;obtain⟨⟨is,b⟩,i,Y⟩:=i;have⟨x,y⟩:=p
   dsimp only at e Y
   subst e Y;have⟨a,st,f,l,N,ps,F,m,n,S,B,o,D,L⟩:=(ld fn j).ex;rw[tR O j,xu i];rw[show fn.bd=b by unfold Fn.bd;rw[i]]at D;unfold S6 at L;rw[i]at L;show⟨fn.np,f,l,ps,Gu F S B o (i8.mp L) D t G.1 T G.2 xs,m,F.kp,n,λus r e=>(vA e).1⟩
end
abbrev tS(ns:List Int):U:=.lst (ns.map .int)
theorem oi{S:d8->Prop}:∀(ns:List Int),au C S H (ns.map .int) (ns.map V.int)
 |[]=>rfl
 |n::ns=>⟨_,_,rfl,rfl,oi ns⟩
def tT(h:Ko C.K H a (ns.map V.int)):Rep C (LV H) H (tS ns) (.ref a):=by
 show⟨a,_,rfl,?_,oi ns⟩;rcases h with(h|⟨o,h⟩)|h
 .show .inl ⟨⟨_,h⟩,.inl h⟩
 .show .inl ⟨⟨_,h⟩,.inr ⟨o,h⟩⟩
 .show .inr h
theorem rp:∀{l:List α},(∀a∈l,f a=g a)->l.filterMap f=l.filterMap g
 |[],_=>rfl
 |a::l,h=>by rw[Kp,Kp,h a (by simp),rp λb c=>h b (by simp[c])]
theorem vC:∀(l:List Str) (us:List dV),l.Nodup->us.length=l.length->l.filterMap (λn=>((l.zip us).lookup n).map (n,·))=l.zip us
 |[],_,_,_=>rfl
 |a::l,[],_,h=>nomatch h
 |a::l,u::us,b,h=>by
  rw[l0]at b;have c:=vC l us b.2 (by simpa using h);simp only[P7,Kp,tA,beq_self_eq_true,T9];congr 1
  conv=>rhs;rw[<-c]
  show rp λn d=>?_;have:(n==a)=cc:=by
   rw[ū];rintro rfl;show b.1 d
  rw[this]
def zJ(l:List Str)(us:List dV)(h:us.length=l.length):l.filter (λn=>((l.zip us).lookup n).isNone)=[]:=by
 rw[NP];intro n hn;induction l generalizing us with
 |nil=>cases hn
 |cons a l b =>
  cases us with
  |nil=>cases h
  |cons u us =>
   simp only[P7,tA];cases e:n==a with
   |true=>simp
   |false =>
    rcases d7.mp hn with rfl|hn
    .simp at e
    .show b us (by simpa using h) hn
def zK{kV a b c ct:dV}(d:(as.map (·.arg)).Nodup)(hl:us.length=(as.map (·.arg)).length):
  ŕ (PySem.W.fnOf x q ⟨[],as,b6,[],[],b6,[]⟩ body scope .none kV a b m c ct) ⟨us,[]⟩=pure ((as.map (·.arg)).zip us):=by
 have e:=vC _ us d hl;have f:=zJ _ us hl;change(if _ then _ else _)=_;rw[Ŧ (by simp[hl])];have g:∀k:Nat,¬(!(((as.map (·.arg)).take k).filter λn=>(((as.map (·.arg)).zip us).lookup n).isNone).isEmpty)=bD:=λk=>by
  rw[NP.mpr λn h=>NP.mp f n (List.mem_of_mem_take h)];show i7
 show(Ŧ (g _)).trans ?_;have hz:∀(l:List Str) (i j:Nat),(l.drop i).zip ((b6.getD #[]:Array dV).toList.drop j)=[]:=λl i j=>by rw[show(b6.getD #[]:Array dV).toList=[] from rfl,List.drop_nil,List.zip_nil_right]
 show Eq.trans (Ū (λz=>Bind.bind (ķ z _ _) _) (hz _ _ _)) ?_;show Ū (pure:List (Str×dV)->Sem (List (Str×dV))) ((Ū (List.filterMap _) (t4 _)).trans e)
structure Me where
 fn:Fn
 i:Nat
 N:List Str
 a:d8
 c:d8
 m:dV
 cr:Obj
abbrev Me.fd(top:Nat->M')(m:Me):TL:=PySem.W.fnOf m.fn.name m.fn.name (gv (top m.i)) (cZ (top m.i)) (aV (top m.i)) .none .none .none m.m b6 (.ref m.c) .none
abbrev Me.fo(top:Nat->M')(m:Me):Obj:=⟨.type "function",b6,.func (m.fd top),#[]⟩
@[reducible]def Gx:=Obj×List (d8×Obj)
abbrev adr(ms:List Me)(xa:List d8):List d8:=3::(ms.flatMap (λm=>[m.c,m.a])++xa)
abbrev L7(top:Nat->M')(g:Gx)(ms:List Me):PySem.W.Frag:=(3,g.1)::(ms.flatMap (λm=>[(m.c,m.cr),(m.a,m.fo top)])++g.2)
def vE(top:Nat->M')(g:Gx)(ms:List Me)(xa:List d8)(h:g.2.map (·.1)=xa):adr ms xa=(L7 top g ms).map (·.1):=by
 unfold adr L7;rw[d4,i3,List.map_flatMap,h];rfl
abbrev Gv(v:Option (Option dV))(a:d8):Bool:=match v with|some (a5 (.ref b))=>cK (b=a)|_=>cc
def Dd(h:Gv v a=bD):v=a5 (a5 (.ref a)):=by
 unfold Gv at h;split at h
 .rw[ũ h]
 .cases h
abbrev nn(o:Option (Option dV)):Bool:=match o with|some b6=>bD|_=>cc
def H_(h:nn o=bD):o=a5 b6:=by
 unfold nn at h;split at h
 .rfl
 .cases h
abbrev Ia(p:Arguments)(ps:List Str):Bool:=p.posonlyargs.isEmpty&&p.vararg.isNone&&p.kwonlyargs.isEmpty&&p.kw_defaults.isEmpty&&p.kwarg.isNone&&p.defaults.isEmpty&&cK (p.args.map (·.arg)=ps)
abbrev Xi(N:List Str)(b:Nat)(a:MH):Bool:=cK (a.kind=.function)&&cK (a.isCoroutine=cc)&&cK (a.isGenerator=cc)&&decide N.Nodup&&(N.take b).all (lQ a)&&a.names.all (λy=>cK (y.2≠.free))
abbrev Xj(ck:Ck)(top:Nat->M')(K:PySem.W.Frag)(m:Me):Bool:=PySem.W.codeIn K (.ref m.c) m.fn.name&&PySem.W.keepIn K (.ref m.a)&&Gv (PySem.W.nsIn K i9 m.fn.name) m.a&&Ia (gv (top m.i)) (m.N.take m.fn.np) &&
 Xi m.N m.fn.np (aV (top m.i))&&cK (m.N.length=m.fn.ns)&&cK (m.fn.np<=m.fn.ns)&&(d9 ck m.fn.bd m.N (aV (top m.i)) (cZ (top m.i))&&S6 m.fn)
abbrev Xk(K:PySem.W.Frag)(p:Str×U):Bool:=match p.2,PySem.W.nsIn K i9 p.1 with
 |.int i,a5 (a5 (.int j _))=>cK (i=j)
 |.str i,a5 (a5 (.str j _))=>cK (i=j)
 |_,_=>cc
abbrev OQ(ck:Ck)(top:Nat->M')(K:PySem.W.Frag)(ms:List Me):Bool:=ms.all (Xj ck top K)&&bW.all (λy=>nn (PySem.W.nsIn K i9 y))&&ck.gl.all (Xk K)&&cK (K.map (·.1)).Nodup
def Ib{K:PySem.W.Frag}(b:(K.map (·.1)).Nodup)(h:(a,o)∈K):K.lookup a=a5 o:=by
 induction K with
 |nil=>cases h
 |cons p K c =>
  rw[d4,l0]at b;rw[tA];rcases d7.mp h with rfl|h
  .simp
  .have:(a==p.1)=cc:=by
    rw[ū];rintro rfl;show b.1 (ki.mpr ⟨_,h,rfl⟩)
   rw[this];show c b.2 h
section
def D3(c:OQ ck top (L7 top g ms) ms=bD)(h:m∈ms):Oz (L7 top g ms) m.fn.name m.fn.name (top m.i) m.a (m.fd top)/\PySem.W.nsIn (L7 top g ms) i9 m.fn.name=a5 (a5 (.ref m.a)) /\
  (∀us:List dV,us.length=(m.N.take m.fn.np).length->ŕ (m.fd top) ⟨us,[]⟩=pure ((m.N.take m.fn.np).zip us))/\eG m.N (m.N.take m.fn.np) (aV (top m.i))/\m.N.length=m.fn.ns/\(m.N.take m.fn.np).length=m.fn.np/\(d9 ck m.fn.bd m.N (aV (top m.i)) (cZ (top m.i))=bD/\S6 m.fn=bD):=by
 simp only[OQ,cb,Ť]at c;have z:=i8.mp c.1.1.1 m h;simp only[Xj,cb,Ť]at z;obtain⟨⟨⟨⟨⟨⟨⟨j,k⟩,l⟩,b⟩,d⟩,n⟩,u⟩,o⟩:=z;simp only[Xi,cb,Ť]at d;obtain⟨⟨⟨⟨⟨s1,s2⟩,s3⟩,s4⟩,p⟩,q⟩:=d;have r:(L7 top g ms).lookup m.a=a5 (m.fo top):=Ib c.2 (d7.mpr (.inr (RN _ (List.mem_flatMap.mpr ⟨m,h,by simp⟩))));have hl:(m.N.take m.fn.np).length=m.fn.np:=by rw[zy];lia
 show⟨EY r j k,Dd l,λus f=>?_,⟨s1,s2,s3,s4,by rw[hl],λx s=>?_,λy t=>?_⟩,n,hl,o⟩
 .unfold Me.fd;revert b;cases gv (top m.i) with
  |mk v as w A B kw C =>
   intro b;simp only[Ia,cb,C1,SM,Ť]at b;obtain⟨⟨⟨⟨⟨⟨rfl,rfl⟩,rfl⟩,rfl⟩,rfl⟩,rfl⟩,e⟩:=b;rw[<-e]at f ⊢;show zK (by rw[e];show(ï _ _).nodup s4) f
 .have:=i8.mp p x s;simpa[lQ] using this
 .have:=i8.mp q y t;simpa using this
def Ic(i:OQ ck top (L7 top g ms) ms=bD)(X:(L7 top g ms).In h)(G:h.Ns i9 mg)(j:m∈ms):Ld ck (L7 top g ms) mg m.fn :=
 let ⟨a,b,c,d,e,f,k⟩:=D3 i j
 ⟨_,_,_,_,_,_,a,PySem.W.mg_of X G b,.all c,d,e,f,k⟩
def Gw(c:OQ ck top (L7 top g ms) ms=bD)(X:(L7 top g ms).In h)(G:h.Ns i9 mg):∀p∈ck.gl,∃val v,mg p.1=a5 val/\RelV v val/\∀(C:Ct) S H,Rep C S H p.2 v:=by
 intro p d;simp only[OQ,cb,Ť]at c;have z:=i8.mp c.1.2 p d;unfold Xk at z;split at z
 .rename_i i j k a b;obtain rfl:=ũ z;show⟨_,.int i,PySem.W.mg_of X G b,⟨_,rfl⟩,λ_ _ _=>by rw[a];rfl⟩
 .rename_i i j k a b;obtain rfl:=ũ z;show⟨_,.str i,PySem.W.mg_of X G b,⟨_,rfl⟩,λ_ _ _=>by rw[a];rfl⟩
 .cases z
end
abbrev zL(K:PySem.W.Frag)(x:Str):Option d8:=match PySem.W.nsIn K i9 x with|some (a5 (.ref C))=>a5 C|_=>b6
abbrev Xl(K:PySem.W.Frag)(D:Str):Option dV:=match PySem.W.nsIn K i9 D with|some (a5 (.ref C))=>a5 (.ref C)|some b6=>if D="ValueError" then a5 (.type "ValueError") else b6|_=>b6
abbrev gY(ck:Ck)(K:PySem.W.Frag):Bool:=ck.xi.all (λp=>match zL K p.1,Xl K p.2.1 with|some C,a5 dv=>fU K C&&(PySem.W.kitOne K (.ref C) dv==a5 p.2.2)|_,_=>cc)&&ck.xe.all λp=>match zL K p.1,zL K p.2 with|some C,a5 D=>PySem.W.exmOne K (.ref C) (.ref D)==a5 bD|_,_=>cc
def jK{K:PySem.W.Frag}(h:zL K x=a5 C):PySem.W.nsIn K i9 x=a5 (a5 (.ref C)):=by
 unfold zL at h;split at h
 .rename_i e;cases h;show e
 .cases h
def Ie{K:PySem.W.Frag}(z:gY ck K=bD)(X:K.In h)(G:h.Ns i9 mg)(D:Str)(g:∃p∈ck.xi,p.2.1=D):∃dv,((∃d,dv=.ref d/\mg D=a5 (.ref d))\/(D="ValueError"/\dv=.type "ValueError"/\mg D=b6))/\∀p∈ck.xi,p.2.1=D->∀C,PySem.W.nsIn K i9 p.1=a5 (a5 (.ref C))->fU K C=bD/\PySem.W.kitOne K (.ref C) dv=a5 p.2.2:=by
 rw[gY,cb,i8]at z;have⟨i,j,rfl⟩:=g;have f:=z.1 i j;split at f
 .rename_i o dv q a;show⟨dv,?_,λp k e C l=>?_⟩
  .unfold Xl at a;split at a
   .rename_i e;cases a;show .inl ⟨_,rfl,PySem.W.mg_of X G e⟩
   .rename_i e;split at a
    .rename_i c;cases a;show .inr ⟨c,rfl,PySem.W.mg_none_of X G e⟩
    .cases a
   .cases a
  .have b:=z.1 p k;rw[e,a]at b;split at b
   .rename_i r m c n;cases n;have:=jK c;rw[l]at this;cases this;rw[cb,beq_iff_eq]at b;show b
   .cases b
 .cases f
def Ig{K:PySem.W.Frag}(z:gY ck K=bD)(X:K.In h)(G:h.Ns i9 mg)(x:Str)(d:∃p∈ck.xe,p.2=x):∃D,mg x=a5 (.ref D)/\∀cl,(cl,x)∈ck.xe->∀C,PySem.W.nsIn K i9 cl=a5 (a5 (.ref C))->PySem.W.exmOne K (.ref C) (.ref D)=a5 bD:=by
 rw[gY,cb,i8,i8]at z;have⟨e,f,rfl⟩:=d;have b:=z.2 e f;split at b
 .rename_i l D m c;show⟨D,PySem.W.mg_of X G (jK c),λcl g C i=>?_⟩;have a:=z.2 _ g
  dsimp only at a
  rw[c]at a;split at a
  .rename_i n o j k;cases k;have:=jK j;rw[i]at this;cases this;show beq_iff_eq.mp a
  .cases a
 .cases b
abbrev gX(ck:Ck)(K:PySem.W.Frag):Bool:=ck.xc.all (λx=>match PySem.W.nsIn K i9 x with|some (a5 (.ref C))=>PySem.W.excIn K C Qo "ValueError.__new__"|_=>cc)&&ck.xd.all λp=>match PySem.W.nsIn K i9 p.1,PySem.W.nsIn K i9 p.2 with
 |some (a5 (.ref C)),a5 (a5 (.ref D))=>(PySem.W.exmOne K (.ref C) (.ref C)==a5 bD)&&(PySem.W.kitCls K (.ref C) (.ref D)==a5 bD&&C != D)
 |_,_=>cc
def Gy{K:PySem.W.Frag}(z:(gX ck K&&gY ck K)=bD)(X:K.In h)(G:h.Ns i9 mg):PQ ck K mg:=by
 rw[cb]at z;have⟨z,a⟩:=z;rw[gX,cb,i8,i8]at z;show⟨λx c=>?_,λp d=>?_,Ie a X G,Ig a X G⟩
 .have:=z.1 x c;split at this
  .rename_i e;show⟨_,PySem.W.mg_of X G e,e,this⟩
  .cases this
 .have:=z.2 p d;split at this
  .rename_i b f;rw[cb,beq_iff_eq]at this;show⟨_,_,PySem.W.mg_of X G b,b,PySem.W.mg_of X G f,this.1,this.2⟩
  .cases this
def walk{l:PySem.W.OpenLaw}{K:Wd->PySem.W.Frag}
  (A:l.most=a5 63) (B:d.params.defaults=[]) (D:fJ (dp+1) Vc) (I:∀(w:w6) (h:KX),J w h->(K w.params).In h)
  (j:(Pg.map (·.name)).Nodup) (r:S7 ck Pg=bD) (L:fn.io=b6) (O:fn∈Pg) (NI:fn.name=d.name)
  (F:∀(w:w6) (mg:Str->Option dV) (fa:d8) (h:KX),(K w.params).In h->h.Ns i9 mg->mg d.name=a5 (.ref fa) ->
   (∀y∈bW,mg y=b6)/\(∀p∈ck.gl,∃val v,mg p.1=a5 val/\RelV v val/\∀(C:Ct) S H,Rep C S H p.2 v)/\(∀g∈Pg,Ld ck (K w.params) mg g)/\PQ ck (K w.params) mg /\
   ∃(c:Str) (st:M') (i:TL) (N:List Str),Oz (K w.params) fn.name c st fa i/\eG N [x] (aV st)/\N.length=fn.ns/\1=fn.np/\d9 ck fn.body N (aV st) (cZ st)=bD/\∀(s:d6) (u:dV),é s i ⟨[u],[]⟩ [(x,u)])
  (T:∀ns:List Int,ns.length<=63->J5 Pg (dp+1) fn.name [tS ns]=a5 (.ok (.loc,.bl bD))) :
  PySem.W.WalkO q m XP J l.row.toRowW d [] (λf vs=>PySem.call f vs) :=
 L2.BI (n:=63) (k:=dp+1) (x:=x) (CX:=λw=>Pl l.prog w) (sp:=λw=>spT l.prog w (K w.params) (cu (J5 Pg dp) fn) fn.np) A (by decide) B D I
  (λw mg fa h Q G Y=>by
   have⟨e,o,ld,xs,c,st,i,N,F1,S,hN,Mj,hc,hb⟩:=F w mg fa h Q G Y;show⟨i,hb,λbase _ _=>D0 F1 S hN Mj hc e (vB j r e o ld xs dp).1 o (vB j r e o ld xs dp).2 xs⟩)
  (λw H a ns hl _ hS=>by
   have t:=T ns hl;rw[tR j O,oh L]at t;have Z':fn.np=1:=(pQ t).1.symm;show⟨Z'.symm,[tS ns],.ok (.loc,.bl bD),LV H,t,λ_ z=>z,⟨_,_,rfl,tT hS,rfl⟩,.inr (.inl rfl),λv H' S' b=>b.loc rfl⟩)
  λ_ _ _ _ _ ⟨_,_,_,_,_,_,z⟩=>z
def walk2{l:PySem.W.OpenLaw}{g:Wd->Gx}
  (A:l.most=a5 63) (B:d.params.defaults=[]) (C:fJ (dp+1) Vc) (p:ms.map (·.fn)=Pg) (D:(Pg.map (·.name)).Nodup) (H:S7 ck Pg=bD) (r:m.fn.io=b6) (t:m∈ms) (v:m.fn.name=d.name) (I:m.N.take m.fn.np=[x])
  (ok:∀P,OQ ck top (L7 top (g P) ms) ms=bD) (J:∀P,(gX ck (L7 top (g P) ms)&&gY ck (L7 top (g P) ms))=bD) (j:∀P,(g P).2.map (·.1)=xa) (T:∀ns:List Int,ns.length<=63->J5 Pg (dp+1) m.fn.name [tS ns]=a5 (.ok (.loc,.bl bD))) :
  PySem.W.WalkO q o O (PySem.W.kHook (λP=>L7 top (g P) ms) (adr ms xa) λP=>vE top (g P) ms xa (j P)).says l.row.toRowW d [] (λf vs=>PySem.call f vs) :=
 walk A B C (λw h Y=>PySem.W.kIn_of Y) D H r (p▸ki.mpr ⟨m,t,rfl⟩) v (λw mg fa h X G z=>by
  have hk:=ok w.params;have⟨a,b,c,e,f,k,n⟩:=D3 hk t;rw[<-v,PySem.W.mg_of X G b]at z;cases z;rw[I]at c e k;show⟨λy i=>PySem.W.mg_none_of X G (H_ ?_),Gw hk X G,λy i=>?_,Gy (J w.params) X G,_,_,_,_,a,e,f,k,by have:=n.1;rw[show m.fn.bd=m.fn.body by unfold Fn.bd;rw[r]]at this;show this,λs u=>.of_eq (c [u] rfl)⟩
  .simp only[OQ,cb]at hk;show i8.mp hk.1.1.2 y i
  .rw[<-p]at i;have⟨Q,L,rfl⟩:=ki.mp i;show Ic hk X G L) T
abbrev co(n:Str)(k l c:Nat)(r s:d8)(x y z:dV)(a b t:Nat):Obj:=⟨.type "code",b6,.fields #[.str n k,.str n (k+1),.str "/claim/cut.py" (k+2),.int l 0,.int c 0,.int 0 0,.int 0 0,.int 3 0,.ref r,.bool bD,.int t 0,.ref s,.none,x,y,z,.int a 0,.int l 0,.str "/claim/cut.py" b],#[]⟩
abbrev ge(P:Wd)(x:Str)(k:Nat)(v:dV):DictEntry:=⟨QI P x,.str x k,v⟩
end TM
namespace TM
open PySem L2
section
abbrev Run(m:M α)(st:aw)(a:α)(st':aw):Prop:=m st=a5 (.ok a,st')
def aa(c:Run m st a st1)(d:Run (f a) st1 b st2):Run (m >>= f) st b st2:=by
 change M.bind m f st=_;unfold M.bind;rw[show m st=_ from c];show d
def aP:Run (pure a:M α) st a st:=rfl
def bQ(h:o=a5 a):Run (M.J8 o) st a st:=by subst h;rfl
def aY(h:bc rs st):Run (aE rs) st () st:=by change aE rs st=_;unfold aE;rw[ť h]
abbrev kv(i:Nat)(k:Kd):Kd:=if k.root=bD then .bor i else k
def d_(h:st[i]?=a5 (a5 (k,u)))(hk:k≠.JS:=by intro z;cases z):Run (dC i) st (kv i k,u) st:=by
 change dC i st=_;unfold dC;rw[h];cases k<;>first|rfl|show absurd rfl hk
def af(h:st[i]?=a5 (a5 (.loc,u))):Run (ev Γ (.var i)) st (.loc,u) st:=d_ h
def aF(h:st[i]?=a5 (a5 (.any,u))):Run (ev Γ (.var i)) st (.any,u) st:=d_ h
def aC(h:st[i]?=a5 (a5 (.own,u))):Run (ev Γ (.var i)) st (.bor i,u) st:=d_ h
def ai:Run (ev Γ (.cst u)) st (.loc,u) st:=rfl
def bG(c:Run (ev Γ a) st x st1)(d:Run (ev Γ b) st1 y st2)(e:bc [x,y] st2)(f:M1 g x y=a5 r):Run (ev Γ (.bin g a b)) st r st2 :=
 aa c (aa d (aa (aY e) (bQ f)))
def fG(d:Run (ev Γ a) st x st1)(e:Run (ev Γ b) st1 y st2)(f:bc [x,y] st2)(g:bK h x.2 y.2=a5 c):Run (ev Γ (.cmp h a b)) st (.loc,.bl c) st2 :=
 aa d (aa e (aa (aY f) (aa (bQ g) aP)))
def aO(c:Run (ev Γ a) st x st1)(d:Run (ev Γ b) st1 y st2)(e:bc [x,y] st2)(f:jA x y.2=a5 r):Run (ev Γ (.idx a b)) st r st2 :=
 aa c (aa d (aa (aY e) (bQ f)))
def vF:Run (Pt Γ []) st b6 st:=rfl
def oj(h:Run (ev Γ e) st (k,.int i) st1):Run (Pt Γ [e]) st (a5 i) st1:=aa h rfl
def rq(c:Run (ev Γ a) st x st1)(d:Run (Pt Γ lo) st1 l st2)(e:Run (Pt Γ f) st2 h b)(g:bc [x] b)(i:qP x l h=a5 r):Run (ev Γ (.Ob a lo f)) st r b :=
 aa c (aa d (aa e (aa (aY g) (bQ i))))
def aj:Run (bj Γ []) st [] st:=rfl
def ae(a:Run (ev Γ e) st r st1)(b:Run (bj Γ es) st1 rs st2):Run (bj Γ (e::es)) st (r::rs) st2:=aa a (aa b aP)
def cC(a:Run (bj Γ es) st rs st1)(b:bc rs st1)(c:L5 f rs=a5 r):Run (ev Γ (.bi f es)) st r st1:=aa a (aa (aY b) (bQ c))
def vG(a:Run (bj Γ es) st rs st1)(b:bc rs st1)(c:sT f rs=a5 r):Run (ev Γ (.NX f es)) st r st1:=aa a (aa (aY b) (bQ c))
def zM(b:Run (ev Γ a) st x st1)(c:Run (bj Γ es) st1 rs st2)(d:bc (x::rs) st2)(e:m_ m x.2 rs=a5 r):Run (ev Γ (.OJ m a es)) st r st2:=aa b (aa c (aa (aY d) (bQ e)))
def vH(h:Γ f us=a5 (.ok r))(a:isAny r.1=cc):Run (lG Γ f us) st r st:=by
 have⟨k,u⟩:=r;change lG Γ f us st=_;unfold lG;rw[h];cases k<;>first|rfl|cases a
def bB(a:Run (bj Γ es) st rs st1)(b:bc rs st1)(c:Γ f (rs.map (·.2))=a5 (.ok r))(d:isAny r.1=cc:=by show rfl):Run (ev Γ (.call f es)) st r st1:=aa a (aa (aY b) (vH c d))
def gV(a:Run (bj Γ es) st rs st1)(b:bc rs st1)(c:Run (c7 rs) st1 us st2)(d:us.length<=cL):Run (ev Γ (.tup es)) st (.loc,.tup us) st2:=by
 show aa a (aa (aY b) (aa c ?_));rw[ť d];show aP
def bY(a:Run (bj Γ es) st rs st1)(b:bc rs st1)(c:Run (c7 rs) st1 us st2)(d:us.length<=cL):Run (ev Γ (.lst es)) st (.own,.lst us) st2:=by
 show aa a (aa (aY b) (aa c ?_));rw[ť d];show aP
def l_:Run (ev Γ (.LM r)) st (.own,.JU [] []) st:=rfl
def vI:Run (lift (.own,u)) st u st:=rfl
def aK:Run (lift (.loc,u)) st u st:=rfl
def j7(h:Kl u=bD):Run (lift (.any,u)) st u st:=by
 change(if Kl u=bD then(pure u:M U) else M.fail) st=_;rw[ť h];rfl
def aL:Run (c7 []) st [] st:=rfl
def aA(a:Run (lift r) st u st1)(b:Run (c7 rs) st1 us st2):Run (c7 (r::rs)) st (u::us) st2:=aa a (aa b aP)
def zN(d:Run (J' Γ c) st bD st1)(e:Run (ev Γ a) st1 r st2):Run (ev Γ (.ite c a b)) st r st2:=aa d e
def zO(d:Run (J' Γ c) st cc st1)(e:Run (ev Γ b) st1 r st2):Run (ev Γ (.ite c a b)) st r st2:=aa d e
def jL(h:Run (ev Γ e) st r st1):Run (iO Γ [e]) st r st1:=h
def Gz(h:Run (ev Γ e) st (k,.bl p) st1)(a:if p=bD then Run (iO Γ (b::es)) st1 r st2 else st2=st1/\r=(.loc,.bl cc)):Run (iO Γ (e::b::es)) st r st2:=by
 show aa h ?_;cases p with
 |true=>show a
 |false=>have⟨rfl,rfl⟩:=a;show aP
def om(h:Run (iO Γ es) st r st1):Run (ev Γ (.and es)) st r st1:=h
def aN(d:Run (ev Γ a) st x st1)(e:Run (ev Γ b) st1 y st2)(f:bc [x,y] st2)(g:bK h x.2 y.2=a5 c):Run (J' Γ (.cmp h a b)) st c st2:=aa d (aa e (aa (aY f) (bQ g)))
def iX(h:Run (J' Γ a) st c st1):Run (J' Γ (.not a)) st (!c) st1:=aa h aP
def iY(h:Run (ba Γ es) st c st1):Run (J' Γ (.and es)) st c st1:=h
def zP(h:Run (fX Γ es) st c st1):Run (J' Γ (.or es)) st c st1:=h
def iZ:Run (ba Γ []) st bD st:=rfl
def dw(h:Run (J' Γ e) st c st1):Run (ba Γ [e]) st c st1:=h
def mj(h:Run (J' Γ e) st bD st1)(a:Run (ba Γ (b::es)) st1 c st2):Run (ba Γ (e::b::es)) st c st2:=aa h a
def tU(h:Run (J' Γ e) st cc st1):Run (ba Γ (e::a::es)) st cc st1:=aa h aP
def rA(h:Run (J' Γ e) st c st1):Run (fX Γ [e]) st c st1:=h
def Ih(h:Run (J' Γ e) st bD st1):Run (fX Γ (e::a::es)) st bD st1:=aa h aP
def i_(h:Run (J' Γ e) st cc st1)(a:Run (fX Γ (b::es)) st1 c st2):Run (fX Γ (e::b::es)) st c st2:=aa h a
def bh:Run (eN i (.own,u)) st () (st.set i (a5 (.own,u))):=rfl
def aH:Run (eN i (.loc,u)) st () (st.set i (a5 (.loc,u))):=rfl
def j8:Run (eN i (.any,u)) st () (st.set i (a5 (.any,u))):=rfl
def Ii(a:Run (ev Γ e) st r st1)(b:Run (eN i r) st1 () st2):Run (exec Γ (.set i e)) st .nx st2:=aa a (aa b aP)
def Ij(b:∃k' c,st[i]?=a5 (a5 (k',.lst c))/\k'≠.JS)(d:Run (ev Γ e) st r st1)(f:Run (lift r) st1 u st2)(g:st2[i]?=a5 (a5 (k,.lst us)))(hk:k.root=bD)(hl:us.length<cL):
  Run (exec Γ (.app i e)) st .nx (st2.set i (a5 (k,.lst (us++[u])))):=by
 have⟨k',c,b,h⟩:=b;show aa (d_ b h) (aa (a:=()) (st1:=st) rfl (aa d (aa f (aa (a:=()) ?_ aP))));change modS i (yS u) st2=_;unfold modS;rw[g];simp only[hk,if_true];have e:yS u (.lst us)=a5 (.lst (us++[u])):=by change(if us.length<cL then _ else _)=_;rw[ť hl]
 rw[e]
def Il(a:Run (ev Γ e) st r st1)(b:Run (retS r) st1 f st2):Run (exec Γ (.ret e)) st f st2:=aa a b
def ja:Run (retS (.own,u)) st (.rt .own u) st:=rfl
def da:Run (retS (.loc,u)) st (.rt .loc u) st:=rfl
def mn(h:st[j]?=a5 (a5 (.own,u))):Run (retS (.bor j,a)) st (.rt .own u) (st.set j b6):=by
 change(match st[j]? with|some (a5 (.own,u))=>a5 (Ex.ok (Fl.rt .own u),st.set j b6)|_=>b6)=_;rw[h]
def jM(d:Run (J' Γ c) st bD st1)(e:Run (execs Γ a) st1 f st2):Run (exec Γ (.ite c a b)) st f st2:=aa d e
def tV(d:Run (J' Γ c) st cc st1)(e:Run (execs Γ b) st1 f st2):Run (exec Γ (.ite c a b)) st f st2:=aa d e
def av:Run (execs Γ []) st .nx st:=rfl
def f_(a:Run (exec Γ s) st .nx st1)(b:Run (execs Γ ss) st1 f st2):Run (execs Γ (s::ss)) st f st2:=aa a b
def pR(a:Run (exec Γ s) st (.rt k u) st1):Run (execs Γ (s::ss)) st (.rt k u) st1:=aa a aP
def ay(a:Run (ev Γ e) st r st1)(b:Run (eN i r) st1 () st2)(c:Run (execs Γ ss) st2 f d):Run (execs Γ (.set i e::ss)) st f d:=f_ (Ii a b) c
def gb(a:st[i]?=a5 (a5 (k',.lst l)))(b:Run (ev Γ e) st r st1)(c:Run (lift r) st1 u st2)(d:st2[i]?=a5 (a5 (k,.lst us)))(hk:k.root=bD)(hl:us.length<cL)
  (g:Run (execs Γ ss) (st2.set i (a5 (k,.lst (us++[u])))) f h) (j:k'≠.JS:=by intro z;cases z):Run (execs Γ (.app i e::ss)) st f h:=f_ (Ij ⟨_,_,a,j⟩ b c d hk hl) g
def bH(a:Run (ev Γ e) st r st1)(b:Run (retS r) st1 (.rt k u) st2):Run (execs Γ (.ret e::ss)) st (.rt k u) st2:=pR (Il a b)
def dH(d:Run (J' Γ c) st bD st1)(e:Run (execs Γ a) st1 .nx st2)(g:Run (execs Γ ss) st2 f h):Run (execs Γ (.ite c a b::ss)) st f h:=f_ (jM d e) g
def aZ(d:Run (J' Γ c) st cc st1)(e:Run (execs Γ b) st1 .nx st2)(g:Run (execs Γ ss) st2 f h):Run (execs Γ (.ite c a b::ss)) st f h:=f_ (tV d e) g
def jN(d:Run (J' Γ c) st bD st1)(e:Run (execs Γ a) st1 (.rt k u) st2):Run (execs Γ (.ite c a b::ss)) st (.rt k u) st2:=pR (jM d e)
def D4(a:Run (bj Γ src) st rs st1)(b:bc rs st1)(c:Mc ik rs=a5 xs)(d:uV rs is body=bD)(e:Run (forM t is (execs Γ body) rs xs) st1 f st2):
  Run (exec Γ (.J9 t is ik src body)) st f st2:=by
 show aa a (aa (aY b) (aa (bQ c) ?_));rw[ť d];show e
def cE(a:Run (bj Γ src) st rs st1)(b:bc rs st1)(c:Mc ik rs=a5 xs)(d:uV rs is body=bD)(e:Run (forM t is (execs Γ body) rs xs) st1 .nx st2)(g:Run (execs Γ ss) st2 f h):
  Run (execs Γ (.J9 t is ik src body::ss)) st f h:=f_ (D4 a b c d e) g
def D5(h:bc rs st):Run (forM t is body rs []) st .nx st:=aa (aY h) aP
def Im(h:bc rs st)(a:Run (dG t is x) st () st1)(b:Run body st1 .nx st2)(c:Run (forM t is body rs xs) st2 f d):Run (forM t is body rs (x::xs)) st f d:=aa (aY h) (aa a (aa b c))
def JK(h:bc rs st)(a:Run (dG t is x) st () st1)(b:Run body st1 (.rt k u) st2):Run (forM t is body rs (x::xs)) st (.rt k u) st2:=aa (aY h) (aa a (aa b aP))
def eh(h:Run (eN i r) st () st1):Run (dG cc [i] r) st () st1:=h
def a_(a:us.length=fn.np)(hk:k=.own\/k=.loc)(hs:start us fn.ns=st0)(h:Run (execs Γ fn.body) st0 (.rt k u) st):cu Γ fn us=a5 (.ok (k,u)):=by
 subst hs;unfold cu;rw[ť a,show execs Γ fn.body (start us fn.ns)=_ from h];rcases hk with rfl|rfl<;>rfl
def vJ{cond:M Bool}(h:bc src st):Run (bV k t cond elt src [] acc) st acc st:=aa (aY h) aP
def pS{cond:M Bool}(h:bc src st)(c:Run (dG t (gs k) x) (i1 k b6++st) () s1)(d:Run cond s1 bD s2)(e:Run elt s2 r s3)(g:Run (lift r) s3 u s4)
  (hl:acc.length<cL) (i:Run (bV k t cond elt src xs (acc++[u])) (s4.drop k) us st2):Run (bV k t cond elt src (x::xs) acc) st us st2:=by
 show aa (aY h) (aa (a:=a5 u) (st1:=s4.drop k) ?_ ?_)
 .change inScope k _ st=_;unfold inScope;have j:Run (dG t (gs k) x >>= λ_=>cond >>= λb=>if b=bD then(elt >>= λr=>lift r >>= λu=>pure (a5 u)) else pure b6) (i1 k b6++st) (a5 u) s4 :=
   aa c (aa d (show Run (elt >>= λr=>lift r >>= λu=>pure (a5 u)) s2 (a5 u) s4 from aa e (aa (f:=λu=>pure (a5 u)) g rfl)))
  rw[show _=_ from j]
 .change Run (if acc.length<cL then bV k t cond elt src xs (acc++[u]) else M.fail) _ _ _;rw[ť hl];show i
def zQ{cond:M Bool}(h:bc src st)(c:Run (dG t (gs k) x) (i1 k b6++st) () s1)(d:Run cond s1 cc s2)
  (e:Run (bV k t cond elt src xs acc) (s2.drop k) us st2):Run (bV k t cond elt src (x::xs) acc) st us st2:=by
 show aa (aY h) (aa (a:=b6) (st1:=s2.drop k) ?_ e);change inScope k _ st=_;unfold inScope;have f:Run (dG t (gs k) x >>= λ_=>cond >>= λb=>if b=bD then(elt >>= λr=>lift r >>= λu=>pure (a5 u)) else pure b6) (i1 k b6++st) b6 s2 :=
  aa c (aa d (show Run (pure b6:M (Option U)) s2 b6 s2 from rfl))
 rw[show _=_ from f]
def dc{src cond:List E}(a:Run (bj Γ src) st rs st1)(b:bc rs st1)(c:Mc ik rs=a5 xs)(d:Run (bV k t (ba Γ cond) (ev Γ e) rs xs []) st1 us st2):Run (ev Γ (.comp k t ik src cond e)) st (.own,.lst us) st2 :=
 aa a (aa (aY b) (aa (bQ c) (aa d aP)))
end
section
def tW(c:Run (bj Γ es) st rs st1)(d:bc (rs.map (eD st1)) st1)(e:Γ f ((rs.map (eD st1)).map (·.2))=a5 (.ok (k,.tup (u::ws))))(hk:k=.own\/k=.loc)(a:qS (rs.map (eD st1)) is=bD)(b:gU (rs.map (eD st1)) is ws st1=a5 st2):
  Run (ev Γ (.JW f es is)) st (k,u) st2:=by
 have g:Run (bj Γ es >>= B5) st (rs.map (eD st1)) st1:=aa c (show Run (B5 rs) st1 (rs.map (eD st1)) st1 from rfl);show aa g (aa (aY d) ?_);change qT Γ f _ is st1=_;unfold qT;rw[e];rcases hk with rfl|rfl
 .change(if _ then _ else _)=_;rw[ť a,b]
 .change(if _ then _ else _)=_;rw[ť a,b]
def Io(h:st[i]?=a5 (a5 (k,.lst us)))(hk:k.root=bD)(a:us[us.length - 1]?=a5 u):Run (ev Γ (.pop i)) st (.loc,u) (st.set i (a5 (k,.lst us.dropLast))):=by
 change yP i st=_;unfold yP;rw[h];change(if _ then _ else _)=_;rw[ť hk,a]
def GA(b:st[i]?=a5 (a5 (k0,.lst us0)))(c:k0≠.JS)(d:Run (ev Γ e) st (l,.int j) st1)(h:st1[i]?=a5 (a5 (k,.lst us)))(hk:k.root=bD)(j0:0<=j)(f:j<1000000)(g:us[j.toNat]?=a5 u):Run (ev Γ (.Mz i e)) st (.loc,u) (st1.set i (a5 (k,.lst (us.eraseIdx j.toNat)))):=by
 show aa (d_ b c) (aa (a:=()) (st1:=st) rfl (aa d ?_));change wV i (.int j) st1=_;unfold wV
 dsimp only
 rw[h];change(if _ then _ else _)=_;rw[ť ⟨hk,j0,f⟩,g]
def cy(a:us.length=fn.np)(hs:c8 is us fn.ns=st0)(h:Run (execs Γ body) st0 f st)(b:SJ f=a5 (k,u))(c:Pu is st=a5 ws):gK Γ fn is body us=a5 (.ok (k,.tup (u::ws))):=by
 subst hs;unfold gK;rw[ť a,show execs Γ body (c8 is us fn.ns)=_ from h];change(SJ f).bind _=_;rw[b];change(Pu is st).map _=_;rw[c];rfl
end
abbrev Kq(Pg:List Fn)(f:Str)(fn:Fn):Prop:=(Pg.find? λg=>cK (g.name=f))=a5 fn
section
def aJ(h:Kq Pg f fn)(us:List U)(a:fn.io=b6:=by rfl):J5 Pg (d+1) f us=cu (J5 Pg d) fn us:=by
 change(match Pg.find? λg=>cK (g.name=f) with|some fn=>jC (J5 Pg d) fn us|none=>b6)=_;rw[show _=a5 fn from h];change jC _ _ _=_;unfold jC;rw[a]
def cT(h:Kq Pg f fn)(us:List U)(a:fn.io=a5 (is,b)):J5 Pg (d+1) f us=gK (J5 Pg d) fn is b us:=by
 change(match Pg.find? λg=>cK (g.name=f) with|some fn=>jC (J5 Pg d) fn us|none=>b6)=_;rw[show _=a5 fn from h];change jC _ _ _=_;unfold jC;rw[a]
end
def eL(h:0<j):M1 .mod (k,.int i) (k',.int j)=a5 (.loc,.int (i % j)):=by change(B0 i j).map _=_;rw[B0,ť h];rfl
def mq(h:0<j/\j<1073741824):M1 .Po (k,.int i) (k',.int j)=a5 (.loc,.int (i / j)):=by change(BZ i j).map _=_;rw[BZ,ť h];rfl
def kZ(h:(-(2 ^ 64)<i/\i<2 ^ 64)\/(-(2 ^ 64)<j/\j<2 ^ 64)):M1 .mul (k,.int i) (k',.int j)=a5 (.loc,.int (i * j)):=by change(BY i j).map _=_;rw[BY,ť h];rfl
def oP(h:0<=j/\j<=1000000/\i.natAbs<2 ^ 64):M1 .pow (k,.int i) (k',.int j)=a5 (.loc,.int (i ^ j.toNat)):=by change(B1 i j).map _=_;rw[B1,ť h];rfl
def cG:M1 .add (k,.int i) (k',.int j)=a5 (.loc,.int (i+j)):=rfl
def bL(h:Ky xs i=a5 u):jA (k,.lst xs) (.int i)=a5 (kE k,u):=by change(Ky xs i).map _=_;rw[h];rfl
def bU(h:Ky xs i=a5 u):jA (k,.tup xs) (.int i)=a5 (kE k,u):=by change(Ky xs i).map _=_;rw[h];rfl
local macro_rules
 |`(tactic| sizeOf_list_dec)=>`(tactic| first|exact av|apply ay|apply gb|apply bH|exact ai|exact af rfl|exact aF rfl|exact aC rfl|apply bG|apply fG|apply aO|apply cC|apply bB|apply zM|apply aN|exact aj|apply ae|apply gV|apply bY|exact aL|apply aA|exact aK|exact vI|(first|exact trivial|exact⟨⟨_,rfl,rfl⟩,trivial⟩|exact⟨⟨_,rfl,rfl⟩,⟨_,rfl,rfl⟩,trivial⟩)|exact cG|exact sg|exact eL (by first|lia|decide)|exact mq (by first|lia|decide)|exact kZ (by first|lia|decide)|exact oP (by decide)|exact aH|exact bh|exact j8|exact da|exact ja|exact mn rfl|exact ke _|exact rfl|exact Oj)
def D6(h:cK (i<j)=c):bK .lt (.int i) (.int j)=a5 c:=by subst h;rfl
def jb(h:cK (j<i)=c):bK .gt (.int i) (.int j)=a5 c:=by subst h;rfl
def cq(h:(i==j)=c):bK .eq (.int i) (.int j)=a5 c:=by subst h;rfl
def b_:L5 .len [(k,.lst xs)]=a5 (.loc,.int (xs.length:Nat)):=rfl
def jc:L5 .len [(k,.tup xs)]=a5 (.loc,.int (xs.length:Nat)):=rfl
def zR(x:Kd×U):Mc .Lb [x]=yN x:=rfl
def iu(h:n<2 ^ 62):Mc .Lb [(k,.int (n:Nat))]=a5 ((gs n).map λi:Nat=>(Kd.loc,U.int (0+(i:Int)))):=by
 rw[zR,yN,ť ⋯,Ra]
end TM
local macro_rules
 |`(tactic| sizeOf_list_dec)=>`(tactic| first|exact TM.av|apply TM.ay|apply TM.gb|apply TM.bH|exact TM.ai|exact TM.af rfl|exact TM.aF rfl|exact TM.aC rfl|apply TM.bG|apply TM.fG|apply TM.aO|apply TM.cC|apply TM.bB|apply TM.zM|apply TM.aN|exact TM.aj|apply TM.ae|apply TM.gV|apply TM.bY|exact TM.aL|apply TM.aA|exact TM.aK|exact TM.vI|(first|exact trivial|exact⟨⟨_,rfl,rfl⟩,trivial⟩|exact⟨⟨_,rfl,rfl⟩,⟨_,rfl,rfl⟩,trivial⟩)|exact TM.cG|exact TM.sg|exact TM.eL (by first|lia|decide)|exact TM.mq (by first|lia|decide)|exact TM.kZ (by first|lia|decide)|exact TM.oP (by decide)|exact TM.aH|exact TM.bh|exact TM.j8|exact TM.da|exact TM.ja|exact TM.mn rfl|exact ke _|exact rfl|exact TM.Oj)
namespace Kj
open PySem L2
def len_list(x:Str):x.length=x.cps.toList.length:=by simp[Ŝ]
def xv(a:0<=k)(b:k<=99):(ye k).length<=2:=by
 have⟨m,rfl⟩:=tj a;have c:m<100:=by lia
 clear a b;revert m;decide +kernel
theorem fH:∀(ps:List Str) (acc:Array Nat),(ps.foldl (λacc p=>acc++mN.cps++p.cps) acc).toList=acc.toList++(ps.map λp=>p.cps.toList).flatten
 |[],acc=>by simp
 |p::ps,acc=>by
  rw[Uy,fH ps];have:mN.cps=#[]:=rfl;simp[this]
def join_list(ts:List Str):(Vf mN ts).cps.toList=(ts.map λp=>p.cps.toList).flatten:=by
 cases ts with
 |nil=>rfl
 |cons t ts =>
  change(ts.foldl (λacc p=>acc++mN.cps++p.cps) t.cps).toList=_;rw[fH];simp
abbrev one(c:Nat):Str:=⟨#[c]⟩
def join_ones(a:List Nat):(Vf mN (a.map one)).cps.toList=a:=by
 rw[join_list,i6];induction a with
 |nil=>rfl
 |cons c a b=>rw[d4,Wv,b];rfl
def rB(a:List Nat)(h:a.length<=100):ě mN (a.map one)=bD:=by
 unfold ě;have e:=PySem.StrLaws.joinTotal mN (a.map one);have b:mN.length=0:=rfl;have es:((a.map one).map (·.length)).sum=a.length:=by
  rw[i6];clear h e;induction a with
  |nil=>rfl
  |cons c a d=>rw[d4,List.sum_cons,d];change 1+a.length=a.length+1;lia
 rw[e,b,es];have f:a.length+(a.map one).length * 0<=100:=by lia
 revert f;generalize a.length+(a.map one).length * 0=m;revert m;decide
def GB(x:Str)(j:Nat):(PySem.StrLaws.sliceText x b6 (a5 (j:Int))).cps.toList=x.cps.toList.take j:=by
 by_cases h:j<=x.cps.toList.length
 .rw[PySem.StrLaws.sliceText_to (x:=x) ⟨⋯,⋯⟩];simp
 .have e:PySem.StrLaws.sliceText x b6 (a5 (j:Int))=PySem.StrLaws.sliceText x b6 (a5 (x.length:Int)):=by
   unfold PySem.StrLaws.sliceText;have hl:=len_list x;have:PySem.Builtin.Str.strSliceIndices b6 (a5 (j:Int)) 1 x.length=PySem.Builtin.Str.strSliceIndices b6 (a5 (x.length:Int)) 1 x.length:=by
    have a:¬((j:Int)<0):=by lia
    have b:¬((x.length:Int)<0):=by lia
    have c:min (j:Int) (x.length:Int)=x.length:=by lia
    simp[PySem.Builtin.Str.strSliceIndices,a,b,c]
   rw[this]
  have hl:=len_list x;rw[e,PySem.StrLaws.sliceText_to (x:=x) ⟨⋯,⋯⟩,List.drop_zero,QQ (l:=x.cps.toList) (i:=j) ⋯];change(x.cps.toList.take ((x.length:Int) - 0).toNat).toArray.toList=_;rw[QQ ⋯]
abbrev small:Str:="abcdefghijklmnopqrstuvwxyz"
theorem fc [DecidableEq α]:∀{l m:List α},l.Nodup->(∀x∈l,x∈m)->l.length<=m.length
 |[],_,_,_=>ke _
 |x::l,m,c,h=>by
  have⟨d,e⟩:=l0.mp c;have a:=h x mf;have f:=fc (l:=l) (m:=m.erase x) e λy b=>(È (by rintro rfl;show d b)).mpr (h y (ko _ b));rw[YJ a]at f;have:0<m.length:=Zf a;rw[js];lia
end Kj
namespace TM
open PySem L2 Kj
def oV(a:x.length<=cL)(h:Ky x.cps.toList i=a5 c):jA (k,.str x) (.int i)=a5 (.loc,.str (Kj.one c)):=by
 simp only[jA];rw[ť a,h];rfl
def rC:small.length<=cL:=by decide
theorem dP:∀(ss:List Str),strsOf (ss.map U.str)=a5 ss
 |[]=>rfl
 |s::ss=>by change(strsOf (ss.map U.str)).map (s::·)=_;rw[dP ss];rfl
section
def pT(h:x.length+y.length<=cL):M1 .add (k,.str x) (k',.str y)=a5 (.loc,.str (x++y)):=by
 simp only[M1,yL];rw[ť h]
theorem gG:∀(ss:List Str) (n:Nat),dW n (ss.map U.str)=bD
 |[],n=>by simp[dW]
 |s::ss,n=>by simp only[d4,dW,gG ss n,ģ];cases n<;>rfl
theorem rD(x:Str):∀(ss:List Str),((ss.map U.str).any λy=>cH y (.str x))=cK (x∈ss)
 |[]=>by simp
 |s::ss=>by
  rw[d4,VO,rD x ss];have:cH (.str s) (.str x)=cK (x=s):=by
   simp only[cH];by_cases h:x=s
   .subst h;simp
   .have h':s≠x:=λz=>h z.symm;simp[h,h']
  rw[this,Lo];simp
def De(x:Str)(ss:List Str):Pq (.str x) (ss.map U.str)=a5 (cK (x∈ss)):=by
 unfold Pq;rw[ť ⟨by rfl,gG ss 50⟩,rD]
def de{x:Str}{ss:List Str}:bK .J4 (.str x) (.lst (ss.map U.str))=a5 (cK (x∉ss)):=by
 change(Pq (.str x) (ss.map U.str)).map (!·)=_;rw[De];simp
end
section
end
def gW(h:Run (ev Γ j) st rv st1)(l:st1[i]?=a5 (a5 (k',u')))(m:Run (ev Γ n) st1 rk st2)(o:Run (c7 [rv,rk]) st2 [c,d] b)(p:b[i]?=a5 (a5 (k,e)))(hk:k.root=bD)(q:eE d c e=a5 g)
  (r:Run (execs Γ ss) (b.set i (a5 (k,g))) f s) (t:k'≠.JS:=by intro z;cases z):Run (execs Γ (.put i n j::ss)) st f s:=by
 show f_ (aa h (aa (d_ l t) (aa m (aa o (aa (a:=()) (st1:=b.set i (a5 (k,g))) ?_ aP))))) r;change modS i (uU [c,d]) b=_;unfold modS;rw[p];simp only[hk,if_true];change(match eE d c e with|some u'=>_|none=>b6)=_;rw[q]
@[reducible]def Row:=Str×List Str
abbrev A'(r:Row):U:=.tup [.str r.1,.tup (r.2.map .str)]
abbrev keyOf(r:Row):Row:=(r.1,aB r.2)
def sorted_strs(h:ss.length<64):L5 .sorted [(k,.tup (ss.map .str))]=a5 (.own,.lst ((aB ss).map .str)):=by
 change(strsOf (ss.map U.str)).bind _=_;rw[dP];change(if ss.length<64 then _ else _)=_;rw[ť h]
structure oo(names:List Str)(r:Row):Prop where
 word:r.1∈names
 N6:r.2.length<=8
 once:r.2.Nodup
 told:∀x∈r.2,x∈names
section
def oq(h:Run (execs Γ (a++ss)) st f st2):(∃s1,Run (execs Γ a) st .nx s1/\Run (execs Γ ss) s1 f st2)\/(Run (execs Γ a) st f st2/\f≠.nx):=by
 induction a generalizing st with
 |nil=>show .inl ⟨st,av,h⟩
 |cons s a i =>
  have h':M.bind (exec Γ s) (λf=>match f with|.nx=>execs Γ (a++ss)|f=>pure f) st=a5 (.ok f,st2):=h;unfold M.bind at h';cases e:exec Γ s st with
  |none=>rw[e]at h';cases h'
  |some p =>
   have⟨x,s1⟩:=p;rw[e]at h';cases x with
   |exc c=>cases h'
   |ok g =>
    cases g with
    |nx =>
     rcases i h' with⟨s2,b,d⟩|⟨b,d⟩
     .show .inl ⟨s2,f_ e b,d⟩
     .show .inr ⟨f_ e b,d⟩
    |rt k u=>cases h';show .inr ⟨pR e,λz=>nomatch z⟩
    |bk=>cases h';show .inr ⟨aa (show Run (exec Γ s) st Fl.bk _ from e) aP,λz=>nomatch z⟩
    |ct=>cases h';show .inr ⟨aa (show Run (exec Γ s) st Fl.ct _ from e) aP,λz=>nomatch z⟩
def Ip(a:Run (exec Γ s) st f st1)(b:f≠.nx):Run (execs Γ (s::ss)) st f st1:=by
 cases f with
 |nx=>show absurd rfl b
 |rt k u=>show pR a
 |_=>show aa a aP
def mr(g:Run (J' Γ c) st p st1)(h:p=bD->Run (execs Γ (a++ss)) st1 f st2)(i:p=cc->Run (execs Γ (b++ss)) st1 f st2):Run (execs Γ (.ite c a b::ss)) st f st2:=by
 cases p with
 |true =>
  rcases oq (h rfl) with⟨s1,d,e⟩|⟨d,e⟩
  .show f_ (jM g d) e
  .show Ip (jM g d) e
 |false =>
  rcases oq (i rfl) with⟨s1,d,e⟩|⟨d,e⟩
  .show f_ (tV g d) e
  .show Ip (tV g d) e
def gf(h:Run (ev Γ e) st (k,.bl p) st)(a:p=bD->Run (iO Γ (b::es)) st (.loc,.bl q) st):Run (iO Γ (e::b::es)) st (.loc,.bl (p&&q)) st:=by
 show Gz h ?_;cases p with
 |true=>rw[ť rfl];show a rfl
 |false=>rw[Ŧ i7];show⟨rfl,rfl⟩
def Iq(h:Run (J' Γ e) st p st)(a:p=cc->Run (fX Γ (b::es)) st q st):Run (fX Γ (e::b::es)) st (p||q) st:=by
 cases p with
 |true=>show Ih h
 |false=>show i_ h (a rfl)
def pU(h:Run (J' Γ e) st p st)(a:p=bD->Run (ba Γ (b::es)) st q st):Run (ba Γ (e::b::es)) st (p&&q) st:=by
 cases p with
 |true=>show mj h (a rfl)
 |false=>show tU h
theorem gh{cond:M Bool}(h:bc src st)(k:Kd)(hk:k=.loc\/k=.any)(a g:α->U)(c:Kd)(d:∀y,Run cond (a5 (k,a y)::st) bD (a5 (k,a y)::st)):∀(b:List α) (acc:List U),acc.length+b.length<=cL ->
  (∀y∈b,Run elt (a5 (k,a y)::st) (c,g y) (a5 (k,a y)::st)/\Run (lift (c,g y)) (a5 (k,a y)::st) (g y) (a5 (k,a y)::st))->Run (bV 1 cc cond elt src (b.map λy=>(k,a y)) acc) st (acc++b.map g) st
 |[],acc,_,_=>by rw[Kb,Kb,t4];show vJ h
 |y::b,acc,hl,e=>by
  have⟨f,i⟩:=e y (by simp);rw[js]at hl;show pS (s1:=a5 (k,a y)::st) (s2:=a5 (k,a y)::st) (s3:=a5 (k,a y)::st) (s4:=a5 (k,a y)::st) h ?_ (d y) f i ⋯ ?_
  .rcases hk with rfl|rfl
   .show eh aH
   .show eh j8
  .have:=gh h k hk a g c d b (acc++[g y]) (by simp;lia) λz hz=>e z (by simp[hz]);rw[d4];simpa using this
theorem jO{cond:M Bool}(h:bc src st)(k:Kd)(hk:k=.loc\/k=.any)(a g:α->U)(p:α->Bool)(d:Kd):∀(b:List α) (acc:List U),acc.length+b.length<=cL ->
  (∀y∈b,Run cond (a5 (k,a y)::st) (p y) (a5 (k,a y)::st)/\(p y=bD->Run elt (a5 (k,a y)::st) (d,g y) (a5 (k,a y)::st)/\Run (lift (d,g y)) (a5 (k,a y)::st) (g y) (a5 (k,a y)::st)))->Run (bV 1 cc cond elt src (b.map λy=>(k,a y)) acc) st (acc++(b.filter p).map g) st
 |[],acc,_,_=>by rw[Kb,RU,Kb,t4];show vJ h
 |y::b,acc,hl,f=>by
  have⟨e,i⟩:=f y (by simp);rw[js]at hl;have j:Run (dG cc (gs 1) (k,a y)) (i1 1 b6++st) () (a5 (k,a y)::st):=by
   rcases hk with rfl|rfl
   .show eh aH
   .show eh j8
  cases c:p y with
  |true =>
   rw[c]at e;have⟨l,m⟩:=i c;show pS (s1:=a5 (k,a y)::st) (s2:=a5 (k,a y)::st) (s3:=a5 (k,a y)::st) (s4:=a5 (k,a y)::st) h j e l m ⋯ ?_;have:=jO h k hk a g p d b (acc++[g y]) (by simp;lia) λz hz=>f z (by simp[hz]);rw[DD,ť c,d4];simpa using this
  |false =>
   rw[c]at e;show zQ (s1:=a5 (k,a y)::st) (s2:=a5 (k,a y)::st) h j e ?_;have:=jO h k hk a g p d b acc ⋯ λz hz=>f z (by simp[hz]);rw[DD,Ŧ (by simp[c])];show this
theorem bM(it:α->Kd×U)(I:List α->List α->aw->Prop)(hs:∀d r st,I d r st->bc rs st)
  (ý:∀d y r st,I d (y::r) st->∃st1 st2,Run (dG t is (it y)) st () st1/\Run body st1 .nx st2/\I (d++[y]) r st2):∀(r d:List α) (st:aw),I d r st->∃st',Run (forM t is body rs (r.map it)) st .nx st'/\I (d++r) [] st'
 |[],d,st,h=>⟨st,D5 (hs _ _ _ h),by rw[t4];show h⟩
 |y::r,d,st,h=>by
  have⟨s1,s2,a,b,c⟩:=ý d y r st h;have⟨s3,e,f⟩:=bM it I hs ý r (d++[y]) s2 c;show⟨s3,Im (hs _ _ _ h) a b e,by simpa using f⟩
def tX(a:Run (bj Γ es) st rs st1)(c:bc rs st1)(d:Γ f (rs.map (·.2))=a5 (.ok r))(e:sU r.2=a5 b)(g:isAny r.1=cc:=by show rfl):Run (J' Γ (.call f es)) st b st1:=aa a (aa (aY c) (aa (vH d g) (bQ e)))
def JL(a:Run (bj Γ es) st rs st1)(c:bc rs st1)(d:L5 f rs=a5 r)(e:sU r.2=a5 b):Run (J' Γ (.bi f es)) st b st1:=aa a (aa (aY c) (aa (bQ d) (bQ e)))
def zS(h:Run (ev Γ (.bi f es)) st (k,.bl b) st1):Run (J' Γ (.bi f es)) st b st1:=by
 have h':(bj Γ es >>= λrs=>aE rs >>= λ_=>M.J8 (L5 f rs)) st=a5 (.ok (k,.bl b),st1):=h;obtain⟨rs,s1,c,d,s2,e,r,s3,g,i⟩:∃rs s1,bj Γ es st=a5 (.ok rs,s1)/\∃(a:Unit) (s2:aw),aE rs s1=a5 (.ok a,s2)/\∃r s3,M.J8 (L5 f rs) s2=a5 (.ok r,s3)/\(r,s3)=((k,U.bl b),st1):=by
  have w:W (bj Γ es >>= λrs=>aE rs >>= λ_=>M.J8 (L5 f rs)) st λr s=>(r,s)=((k,U.bl b),st1):=⟨_,_,h',rfl⟩
  rw[ah]at w;have⟨rs,s1,c,w⟩:=w;rw[ah]at w;have⟨a,s2,d,w⟩:=w;have⟨r,s3,e,w⟩:=w;show⟨rs,s1,c,a,s2,d,r,s3,e,w⟩
 cases i;show aa c (aa (a:=d) e (aa g (bQ rfl)))
def Ir(b:Run (ev Γ a) st x st1)(c:B7 x=a5 r):Run (ev Γ (.neg a)) st r st1:=aa b (bQ c)
def zT(c:st[i]?=a5 (a5 (k',.lst n)))(d:Run (ev Γ e) st r st1)(g:st1[i]?=a5 (a5 (k,.lst us)))(hk:k.root=bD)(h:lJ r (.lst us)=a5 (.lst b))
  (j:Run (execs Γ ss) (st1.set i (a5 (k,.lst b))) f l) (m:k'≠.JS:=by intro z;cases z):Run (execs Γ (.ext i e::ss)) st f l:=by
 show f_ (aa (d_ c m) (aa (a:=()) (st1:=st) rfl (aa d (aa (a:=()) (st1:=st1.set i (a5 (k,.lst b))) ?_ aP)))) j;change modS i (lJ r) st1=_;unfold modS;rw[g];simp only[hk,if_true];rw[h]
end
def Df(h:xs.length+a.length<=cL)(hs:fu k a=bD):lJ (k,.tup a) (.lst xs)=a5 (.lst (xs++a)):=by
 change(if xs.length+a.length<=cL/\fu k a=bD then _ else _)=_;rw[ť ⟨h,hs⟩]
def vK(h:xs.length+a.length<=cL)(hs:fu k a=bD):lJ (k,.lst a) (.lst xs)=a5 (.lst (xs++a)):=by
 change(if xs.length+a.length<=cL/\fu k a=bD then _ else _)=_;rw[ť ⟨h,hs⟩]
theorem ot:∀ss:List Str,cV (ss.map U.str)=bD
 |[]=>by simp[cV]
 |s::ss=>by simp[cV,Kl,ot ss]
def vL(r:Row):Kl (A' r)=bD:=by simp[A',Kl,cV,ot]
theorem bN:∀rs:List Row,cV (rs.map A')=bD
 |[]=>by simp[cV]
 |r::rs=>by simp[cV,vL,bN rs]
theorem mw:∀(a b:List Str),cP (a.map U.str) (b.map U.str)=cK (a=b)
 |[],[]=>by simp[cP]
 |[],_::_=>by simp[cP]
 |_::_,[]=>by simp[cP]
 |x::a,y::b=>by
  rw[d4,d4,cP,mw a b];simp only[cH];by_cases h:x=y
  .subst h;simp
  .simp[h]
def mz(ss:List Str)(n:Nat):Lc (n+1) (.lst (ss.map U.str))=bD:=by simp[Lc,gG]
def rE{a b:List Str}:bK .eq (.lst (a.map U.str)) (.lst (b.map U.str))=a5 (cK (a=b)):=by
 simp only[bK];rw[ť ⟨mz a 49,mz b 49⟩];simp only[cH,mw]
def fA:bK .eq (.str a) (.str b)=a5 (cK (a=b)):=by
 simp only[bK];rw[ť ⟨rfl,rfl⟩];simp only[cH];by_cases h:a=b
 .subst h;simp
 .simp[h]
def Dg(f:α->β)(xs:List α)(lo a:Option Int):cut (xs.map f) lo a=(cut xs lo a).map f:=by simp[cut,ğ,Ġ]
def Dh(xs:List α)(lo a:Option Int):(cut xs lo a).length<=xs.length:=by simp[cut];lia
def zU(h:fu k (a.map U.int)=bD):qP (k,.lst (a.map .int)) lo b=a5 (.own,.lst ((cut a lo b).map .int)):=by
 simp only[qP];rw[ť h,Dg]
def rF(h:acc.length<4000)(a:(aD acc).length<64):sT .sset [(k,.lst (acc.map .str))]=a5 (.own,.lst ((aB (aD acc)).map .str)):=by
 have e:iM (.lst (acc.map U.str))=a5 (aD acc):=by
  change(strsOf (acc.map U.str)).bind _=_;rw[dP];change(if acc.length+1<D8 then _ else _)=_;rw[ť (by change acc.length+1<4096;lia)]
 change(iM (.lst (acc.map U.str))).bind _=_;rw[e];change(if (aD acc).length<64 then _ else _)=_;rw[ť a]
def mB(l:List Str):(aB (aD l)).Nodup:=(bF _).nodup_iff.mpr (bP l)
def GC(l:List Str)(x:Str):x∈aB (aD l)↔x∈l:=by rw[(bF _).mem_iff,bR]
def zV{l names:List Str}(h:∀x∈l,x∈names):(aD l).length<=names.length:=fc (bP l) λx a=>h x ((bR l x).mp a)
section
end
section
def Iu:Run (Og Γ [] out) st out st:=rfl
def tY(a:Run (ev Γ e) st x st1)(b:qX x.2 out=a5 y)(c:Run (Og Γ es y) st1 z st2):Run (Og Γ (e::es) out) st z st2:=aa a (aa (bQ b) c)
def Iv(h:Run (Og Γ es mN) st z st1):Run (ev Γ (.fst es)) st (.loc,.str z) st1:=aa h aP
def vM(c:Run (ev Γ a) st x st1)(d:pF x.2 T=a5 b):Run (ev Γ (.Mx a T)) st (.loc,.bl b) st1:=aa c (aa (bQ d) aP)
def D9(c:Run (ev Γ a) st x st1)(d:pF x.2 T=a5 b):Run (J' Γ (.Mx a T)) st b st1:=aa c (bQ d)
end
def jd(h:xs.length+a.length<=cL)(b:fu k xs=bD)(c:fu k' a=bD):M1 .add (k,.lst xs) (k',.lst a)=a5 (.own,.lst (xs++a)):=by
 simp only[M1,yL];rw[ť ⟨h,b,c⟩]
def Di(x y:Str):(x++y).cps.toList=x.cps.toList++y.cps.toList:=by
 change(x.cps++y.cps).toList=_;simp
def str_len(x y:Str):(x++y).length=x.length+y.length:=by rw[len_list,len_list,len_list,Di,gc]
def pV(a:y.length<=1000)(b:out.length<=1000):qX (.str y) out=a5 (out++y):=by
 have hsz:(4000:Nat)<=cL:=by decide
 simp only[qX];rw[ť ⟨⋯,by rw[str_len];lia⟩]
abbrev cI(rows:List Row):List Str:=(rows.map λr=>r.1::r.2).flatten
abbrev az(rows:List Row):List Str:=aB (aD (cI rows))
def rG(d:List Row)(y:Row):cI (d++[y])=cI d++[y.1]++y.2:=by simp[cI]
def dy:x∈cI rows↔∃r∈rows,x=r.1\/x∈r.2:=by
 simp only[cI,List.mem_flatten,ki];constructor
 .rintro⟨l,⟨r,a,rfl⟩,b⟩;show⟨r,a,d7.mp b⟩
 .rintro⟨r,a,b⟩;show⟨_,⟨r,a,rfl⟩,d7.mpr b⟩
def je(h:∀r∈rows,oo names r):∀x∈cI rows,x∈names:=by
 intro x hx;have⟨r,a,hx⟩:=dy.mp hx;rcases hx with rfl|hx
 .show(h r a).word
 .show(h r a).told x hx
def mC(h:∀r∈rows,r.2.length<=8):(cI rows).length<=9 * rows.length:=by
 induction rows with
 |nil=>simp[cI]
 |cons r rows a =>
  have c:=h r (by simp);have b:=a λs hs=>h s (by simp[hs]);simp only[cI,d4,Wv,gc,js]at b ⊢;lia
def iw:x∈az rows↔x∈cI rows:=GC _ _
def pW(rows:List Row):(az rows).Nodup:=mB _
def fB(h:∀r∈rows,oo names r):(az rows).length<=names.length:=by
 change(aB (aD (cI rows))).length<=_;rw[bO];show zV (je h)
abbrev mD:Fn:=⟨"words_of",1,3,[.set 1 (.lst []),.J9 cc [2] .seq [.var 0] [.app 1 (.idx (.var 2) (.cst (.int 0))),.ext 1 (.idx (.var 2) (.cst (.int 1)))],.ret (.NX .sset [.var 1])]⟩
def jf(hl:rows.length<=120)(c:∀r∈rows,oo names r)(p:names.length<64):cu Γ mD [.tup (rows.map A')]=a5 (.ok (.own,.lst ((az rows).map .str))):=by
 have hsz:(4000:Nat)<=cL:=by decide
 have f:TM.start [.tup (rows.map A')] 3=[a5 (.loc,.tup (rows.map A')),b6,b6]:=by simp[TM.start,Kl,bN]
 have b:∀r∈rows,r.2.length<=8:=λr h=>(c r h).N6;obtain⟨st',g,_,o2,e⟩:=bM (t:=cc) (is:=[2]) (body:=execs Γ [.app 1 (.idx (.var 2) (.cst (.int 0))),.ext 1 (.idx (.var 2) (.cst (.int 1)))]) (rs:=[(.loc,.tup (rows.map A'))]) (λr:Row=>(Kd.loc,A' r))
  (λd r st=>d++r=rows/\∃o2,st=[a5 (.loc,.tup (rows.map A')),a5 (.own,.lst ((cI d).map .str)),o2]) (λ_ _ _ _=>trivial) (λd y r st i=>by
   have⟨a,o2,e⟩:=i;subst e;have j:y∈rows:=by rw[<-a];simp
   have l:=mC (rows:=d) λs hs=>b s (by rw[<-a];simp[hs]);have m:d.length<=120:=by have:=Ū C0 a;simp at this;lia
   have n:=b y j;show⟨[a5 (.loc,.tup (rows.map A')),a5 (.own,.lst ((cI d).map .str)),a5 (.loc,A' y)],[a5 (.loc,.tup (rows.map A')),a5 (.own,.lst ((cI d).map .str++[.str y.1]++y.2.map .str)),a5 (.loc,A' y)],eh aH,?_,by rw[<-a];simp,a5 (.loc,A' y),?_⟩
   .show gb (k:=.own) (k':=.own) (r:=(.loc,.str y.1)) rfl (aO (x:=(.loc,A' y)) (af rfl) ai trivial rfl) aK rfl rfl (by rw[c4];lia)
     (zT (k:=.own) rfl (aO (x:=(.loc,A' y)) (af rfl) ai trivial rfl) rfl rfl (Df (by simp;lia) rfl) av)
   .rw[rG];simp) rows [] [a5 (.loc,.tup (rows.map A')),a5 (.own,.lst []),b6] ⟨rfl,b6,rfl⟩
 subst e;have o:(rows.map A').map (λu=>(kE .loc,u))=rows.map λr=>(Kd.loc,A' r):=by rw[i6];rfl
 have q:=mC b;have m:=zV (je c);show a_ rfl (.inl rfl) f (ay (r:=(.own,.lst [])) (bY aj trivial aL (ke _)) bh (cE (rs:=[(.loc,.tup (rows.map A'))]) (ae (af rfl) aj) trivial rfl rfl (by rw[o];show g) (bH (vG (ae (aC rfl) aj) ⟨⟨.own,rfl,rfl⟩,trivial⟩ (rF ⋯ ⋯)) ja)))
def vN(h:ks.length<1000):eE (.str x) u (.JU ks us)=a5 (.JU (dput ks us x u).1 (dput ks us x u).2):=by
 have hsz:(1000:Nat)<=cL:=by decide
 change(if ks.length<cL then _ else _)=_;rw[ť ⋯]
end TM
namespace Od
section
variable{W:Type}[DecidableEq W]{rows:List (W×List W)}
abbrev gk(rows:List (W×List W))(C:W->Prop):Prop:=∀r∈rows,(∀x∈r.2,C x)->C r.1
abbrev OR(rows:List (W×List W))(K:List W):Prop:=∀C:W->Prop,gk rows C->∀x∈K,C x
def same(a:K.Nodup)(b:L.Nodup)(sK:OR rows K)(c:OR rows L)(d:gk rows (·∈K))(e:gk rows (·∈L)):K.Perm L :=
 (O1 a b).mpr λx=>⟨λh=>sK _ e x h,λh=>c _ d x h⟩
abbrev told(rows:List (W×List W))(p:Nat):List W:=match rows[p]? with
 |some r=>r.2
 |none=>[]
def kR(h:rows[p]?=a5 r):told rows p=r.2:=by unfold told;rw[h]
abbrev tZ(K l:List W):Nat:=(l.filter λx=>cK (x∉K)).length
abbrev cnt(rows:List (W×List W))(K:List W)(p:Nat):Nat:=tZ K (told rows p)
def xx{K l:List W}:tZ K l=0↔∀x∈l,x∈K:=by
 unfold tZ;rw[TU,NP];constructor
 .intro h x a;have:=h x a;simpa using this
 .intro h x a;simpa using h x a
theorem rH(f:w∉K):∀{l:List W},l.Nodup->tZ (K++[w]) l+(if w∈l then 1 else 0)=tZ K l
 |[],_=>rfl
 |x::l,h=>by
  have⟨g,i⟩:=l0.mp h;have d:=rH f i;unfold tZ at d ⊢;by_cases e:x=w
  .subst e;have a:cK (x∉K++[x])≠bD:=by simp
   have b:cK (x∉K)=bD:=Ũ f;rw[QH (p:=λy=>cK (y∉K++[x])) a,QF (p:=λy=>cK (y∉K)) b,js,ť (mf ..)];rw[Ŧ g]at d;lia
  .have j:w≠x:=λz=>e z.symm;have k:(if w∈x::l then 1 else 0)=if w∈l then 1 else 0:=by simp[j]
   rw[k];by_cases c:x∈K
   .have a:cK (x∉K++[w])≠bD:=by simp[c]
    have b:cK (x∉K)≠bD:=by simp[c]
    rw[QH (p:=λy=>cK (y∉K++[w])) a,QH (p:=λy=>cK (y∉K)) b];show d
   .have a:cK (x∉K++[w])=bD:=by simp[c,e]
    have b:cK (x∉K)=bD:=by simp[c]
    rw[QF (p:=λy=>cK (y∉K++[w])) a,QF (p:=λy=>cK (y∉K)) b,js,js];lia
abbrev Once(rows:List (W×List W)):Prop:=∀r∈rows,r.2.Nodup
def Once.told(h:Once rows)(p:Nat):(told rows p).Nodup:=by
 unfold Od.told;split
 .rename_i r e;show h r (l' e)
 .show .nil
def rJ:cnt rows K p=0↔∀x∈told rows p,x∈K:=xx
def pX(h:Once rows)(a:w∉K)(p:Nat):cnt rows (K++[w]) p+(if w∈told rows p then 1 else 0)=cnt rows K p:=rH a (h.told p)
abbrev Kt(rows:List (W×List W))(n:Nat)(w:W):List Nat:=(gs n).filter λp=>cK (w∈told rows p)
def xy(n:Nat)(w:W):(Kt rows n w).Nodup:=YX MV List.nodup_range
def jg:p∈Kt rows n w↔p<n/\w∈told rows p:=by simp[Kt]
abbrev aR(ps:List (W×Nat))(w:W):List Nat:=(ps.filter λp=>cK (p.1=w)).map (·.2)
theorem rK:∀{l:List W},l.Nodup->aR (l.map λx=>(x,n)) w=if w∈l then [n] else []
 |[],_=>rfl
 |x::l,h=>by
  have⟨b,c⟩:=l0.mp h;have a:=rK (n:=n) (w:=w) c;unfold aR at a ⊢;rw[d4,DD];by_cases e:x=w
  .subst e;rw[Ŧ b]at a;rw[ť (by simp),d4,a,ť (by simp)]
  .rw[Ŧ (by simpa using e),a];have d:w≠x:=λz=>e z.symm;simp[d]
def rL(a b:List (W×Nat))(w:W):aR (a++b) w=aR a w++aR b w:=by simp[aR]
def xA(h:Once rows)(a:rows[n]?=a5 r)(b:∀w,aR ps w=Kt rows n w)(w:W):aR (ps++r.2.map λx=>(x,n)) w=Kt rows (n+1) w:=by
 rw[rL,b w,rK (h r (l' a))];unfold Kt;rw[Ċ,Ql];congr 1
 rw[DD,RU,kR a];by_cases e:w∈r.2<;>simp[e]
structure RI(rows:List (W×List W))(K0 K:List W)(R:List Nat):Prop where
 RM:∀t∈R,t<rows.length/\cnt rows K t=0
 all:∀t,t<rows.length->cnt rows K t=0->cnt rows K0 t=0\/t∈R
def RI.start(K:List W):RI rows K K []:=⟨by simp,λt _ h=>.inl h⟩
def RI.step(h:Once rows)(x:RI rows K0 K R)(d:w∉K):RI rows K0 (K++[w]) (R++(Kt rows rows.length w).filter λt=>cK (cnt rows K t=1)):=by
 show⟨λt ht=>?_,λt ht i=>?_⟩
 .have a:=pX h d t;rcases hQ.mp ht with ht|ht
  .have⟨b,e⟩:=x.RM t ht;show⟨b,⋯⟩
  .have⟨b,e⟩:=my.mp ht;have⟨f,g⟩:=jg.mp b;rw[ť g]at a;have:cnt rows K t=1:=by simpa using e
   show⟨f,⋯⟩
 .have a:=pX h d t;by_cases c:w∈told rows t
  .rw[ť c]at a;show .inr (hQ.mpr (.inr (my.mpr ⟨jg.mpr ⟨ht,c⟩,by simp;lia⟩)))
  .rw[Ŧ c]at a;rcases x.all t ht ⋯ with z|z
   .show .inl z
   .show .inr (hQ.mpr (.inl z))
structure NS(rows:List (W×List W))(K:List W)(d:List Nat)(ps:List (W×Nat)):Prop where
 ok:∀s∈ps,s.2∈d/\s.1∉K/\∃r,rows[s.2]?=a5 r/\r.1=s.1
 once:(ps.map (·.1)).Nodup
 all:∀p∈d,∀r,rows[p]?=a5 r->r.1∈K\/r.1∈ps.map (·.1)
def NS.start(K:List W):NS rows K [] []:=⟨by simp,by simp,by simp⟩
def NS.skip(x:NS rows K d ps)(f:rows[p]?=a5 r)(h:r.1∈K\/r.1∈ps.map (·.1)):NS rows K (d++[p]) ps :=
 ⟨λs hs=>let ⟨a,b,c⟩:=x.ok s hs;⟨by simp[a],b,c⟩,x.once,λq hq g e=>by
  rcases hQ.mp hq with hq|hq
  .show x.all q hq g e
  .have:q=p:=by simpa using hq
   subst this;rw[f]at e;cases e;show h⟩
def NS.take(x:NS rows K d ps)(g:rows[p]?=a5 r)(h:r.1∉K)(i:r.1∉ps.map (·.1)):NS rows K (d++[p]) (ps++[(r.1,p)]):=by
 show⟨λs hs=>?_,?_,λq hq j f=>?_⟩
 .rcases hQ.mp hs with hs|hs
  .have⟨a,b,c⟩:=x.ok s hs;show⟨by simp[a],b,c⟩
  .have:s=(r.1,p):=by simpa using hs
   subst this;show⟨by simp,h,r,g,rfl⟩
 .rw[i3,rr];show⟨x.once,by simp,λa k b l e=>?_⟩;have:b=r.1:=by simpa using l
  subst this;show i (e▸k)
 .rcases hQ.mp hq with hq|hq
  .rcases x.all q hq j f with z|z
   .show .inl z
   .show .inr (by simp only[i3,hQ];show .inl z)
  .have:q=p:=by simpa using hq
   subst this;rw[g]at f;cases f;show .inr (by simp)
def NS.perm(x:NS rows K d ps)(h:a.Perm ps):NS rows K d a :=
 ⟨λs hs=>x.ok s (h.mem_iff.mp hs),(h.map _).nodup_iff.mpr x.once,λp b r c=>(x.all p b r c).imp id λz=>(h.map _).mem_iff.mpr z⟩
def vS(rows:List (W×List W)):List W->List (W×Nat)->Prop
 |_,[]=>True
 |K,s::ss=>(s.1∉K/\∃r,rows[s.2]?=a5 r/\r.1=s.1/\∀x∈r.2,x∈K)/\vS rows (K++[s.1]) ss
theorem zW:∀{a b:List (W×Nat)}{K:List W},vS rows K a->vS rows (K++a.map (·.1)) b->vS rows K (a++b)
 |[],b,K,_,h=>by simpa using h
 |s::a,b,K,c,d=>⟨c.1,zW c.2 (by simpa using d)⟩
theorem zX:∀{ss:List (W×Nat)}{K:List W},(∀s∈ss,s.1∉K/\∃r,rows[s.2]?=a5 r/\r.1=s.1/\∀x∈r.2,x∈K)->(ss.map (·.1)).Nodup->vS rows K ss
 |[],K,_,_=>trivial
 |s::ss,K,h,a=>by
  have b:s.1∉ss.map (·.1)/\(ss.map (·.1)).Nodup:=by
   rw[d4]at a;show l0.mp a
  show⟨h s (by simp),zX (λt c=>?_) b.2⟩;have⟨d,r,e,f,g⟩:=h t (by simp[c]);show⟨λz=>?_,r,e,f,λx i=>by simp[g x i]⟩;rcases hQ.mp z with z|z
  .show d z
  .have:t.1=s.1:=by simpa using z
   show b.1 (this▸ki.mpr ⟨t,c,rfl⟩)
theorem mE:∀{ss:List (W×Nat)}{K:List W},vS rows K ss->K.Nodup->(K++ss.map (·.1)).Nodup
 |[],K,_,h=>by simpa using h
 |s::ss,K,h,c=>by
  have:(K++[s.1]).Nodup:=by
   rw[rr];show⟨c,by simp,λa d b f e=>?_⟩;have:b=s.1:=by simpa using f
   subst this;show h.1.1 (e▸d)
  have:=mE h.2 this;simpa using this
theorem zY:∀{ss:List (W×Nat)}{K:List W},vS rows K ss->OR rows K->OR rows (K++ss.map (·.1))
 |[],K,_,h=>by simpa using h
 |s::ss,K,h,b=>by
  have c:OR rows (K++[s.1]):=λC a x hx=>by
   rcases hQ.mp hx with hx|hx
   .show b C a x hx
   .have:x=s.1:=by simpa using hx
    subst this;obtain⟨_,r,d,e,f⟩:=h.1;rw[<-e];show a r (l' d) λy g=>b C a y (f y g)
  have:=zY h.2 c;simpa using this
theorem rM:∀{ss:List (W×Nat)}{K:List W},vS rows K ss->∀x∈ss.map (·.1),x∈rows.map (·.1)
 |[],K,_,x,hx=>by simp at hx
 |s::ss,K,h,x,hx=>by
  rw[d4]at hx;rcases d7.mp hx with rfl|hx
  .obtain⟨_,r,a,b,c⟩:=h.1;show ki.mpr ⟨r,l' a,b⟩
  .show rM h.2 x hx
structure LI(rows:List (W×List W))(J2:List (W×Nat))(R:List Nat):Prop where
 ok:vS rows [] J2
 RM:∀t∈R,t<rows.length/\cnt rows (J2.map (·.1)) t=0
 all:∀t r,rows[t]?=a5 r->cnt rows (J2.map (·.1)) t=0->t∈R\/r.1∈J2.map (·.1)
def LI.step(x:LI rows a R)(n:NS rows (a.map (·.1)) R st)(y:RI rows (a.map (·.1)) (a.map (·.1)++st.map (·.1)) e):LI rows (a++st) e:=by
 have em:(a++st).map (·.1)=a.map (·.1)++st.map (·.1):=i3;show⟨zW x.ok (zX (λs hs=>?_) n.once),λt f=>by rw[em];show y.RM t f,λt r b c=>?_⟩
 .have⟨g,h,r,d,i⟩:=n.ok s hs;have hz:=(x.RM _ g).2;rw[rJ,kR d]at hz;show⟨by simpa using h,r,d,i,by simpa using hz⟩
 .rw[em]at c ⊢;rcases y.all t (dt.mp b).1 c with z|z
  .rcases x.all t r b z with z|z
   .rcases n.all t z r b with z|z
    .show .inr (hQ.mpr (.inl z))
    .show .inr (hQ.mpr (.inr z))
   .show .inr (hQ.mpr (.inl z))
  .show .inl z
def LI.nd(x:LI rows a R):(a.map (·.1)).Nodup:=by simpa using mE x.ok .nil
def LI.sn(x:LI rows a R):OR rows (a.map (·.1)):=by simpa using zY x.ok λ_ _ _ h=>absurd h vl
def LI.wd(x:LI rows a R):∀y∈a.map (·.1),y∈rows.map (·.1):=rM x.ok
def LI.closed(x:LI rows b []):gk rows (·∈b.map (·.1)):=λr c h=>by
 have⟨t,a⟩:=UC.mp c;rcases x.all t r a (by rw[rJ,kR a];show h) with z|z
 .cases z
 .show z
def vO{K L:List W}(h:K.Nodup)(s:∀x∈K,x∈L):K.length<=L.length:=by
 induction K generalizing L with
 |nil=>simp
 |cons a K d =>
  have⟨f,g⟩:=l0.mp h;have b:a∈L:=s a (by simp);have:=d (L:=L.erase a) g λx c=>by
   have i:x≠a:=λe=>f (e▸c);show(È i).mpr (s x (by simp[c]))
  rw[YJ b]at this;have:0<L.length:=Zf b;rw[js];lia
end
end Od
namespace TM
open PySem L2 Kj
section
def D_(h:st[j]?=a5 (a5 (.own,u))):Run (lift (.bor j,a)) st u (st.set j (a5 (.loc,u))):=by
 change(match st[j]? with|some (a5 (.own,u))=>a5 (Ex.ok u,st.set j (a5 (.loc,u)))|_=>b6)=_;rw[h]
def vP(h:Run c st cc st1):Run (gJ c body (n+1)) st .nx st1:=aa h aP
def zZ(h:Run c st bD st1)(a:Run body st1 .nx st2)(b:Run (gJ c body n) st2 f d):Run (gJ c body (n+1)) st f d:=aa h (aa a b)
def z_(h:Run (gJ (J' Γ c) (execs Γ body) fuel) st .nx st1)(a:Run (execs Γ ss) st1 f st2):Run (execs Γ (.OL c body::ss)) st f st2:=f_ h a
def j9(hk:k=.loc\/k=.any):Run (dG bD [i,j] (k,.tup [a,b])) st () ((st.set i (a5 (k,a))).set j (a5 (k,b))):=by
 rcases hk with rfl|rfl<;>rfl
def Aa(h:Run (execs Γ ss) (st.set i (a5 (.JS,.JU [] []))) f st1):Run (execs Γ (.newD i::ss)) st f st1:=f_ (aa (a:=()) (st1:=st.set i (a5 (.JS,.JU [] []))) rfl aP) h
def pY(h:st[i]?=a5 (a5 (.JS,.JU ks us))):Run (iN i) st (ks,us) st:=by
 change iN i st=_;unfold iN;rw[h]
def t9:Run (kD (k,.str y)) st y st:=rfl
def Dj(a:st[i]?=a5 (a5 (.JS,.JU ks us)))(b:y∉ks)(c:ks.length<cL):Run (lH i y (.own,.lst xs)) st () (st.set i (a5 (.JS,.JU (ks++[y]) (us++[.lst xs])))):=by
 change lH i y (.own,.lst xs) st=_;unfold lH
 dsimp only
 rw[a]
 dsimp only
 rw[ť ⟨b,c⟩]
def Dk(a:st[i]?=a5 (a5 (.JS,.JU ks us)))(b:dN ks us y=a5 (.lst xs))(c:xs.length<cL):Run (lI i y u) st () (st.set i (a5 (.JS,.JU ks (jB ks us y (.lst (xs++[u])))))):=by
 change lI i y u st=_;unfold lI;rw[a]
 dsimp only
 rw[b]
 dsimp only
 rw[ť c]
def Ab(b:Run (ev Γ a) st (k,.str y) st1)(c:st1[i]?=a5 (a5 (.JS,.JU ks us))):Run (J' Γ (.inD neg a i)) st (U6 neg y ks) st1 :=
 aa b (aa t9 (aa (pY c) aP))
def Ac(b:Run (ev Γ c) st (.own,.lst xs) st1)(a:st1[i]?=a5 (a5 (.JS,.JU ks us)))(d:Run (ev Γ e) st1 (k,.str y) st1)(g:y∉ks)(h:ks.length<cL)
  (j:Run (execs Γ ss) (st1.set i (a5 (.JS,.JU (ks++[y]) (us++[.lst xs])))) f l):Run (execs Γ (.putD i e c::ss)) st f l:=by
 show f_ ?_ j;show aa b (aa (pY a) (aa d (aa t9 (aa (Dj a g h) aP))))
def Ad(a:st[i]?=a5 (a5 (.JS,.JU ks us)))(b:Run (ev Γ c) st (k,.str y) st)(d:y∈ks)(e:Run (ev Γ g) st r st)(h:Run (lift r) st u st)(j:dN ks us y=a5 (.lst xs))(l:xs.length<cL)
  (m:Run (execs Γ ss) (st.set i (a5 (.JS,.JU ks (jB ks us y (.lst (xs++[u])))))) f n):Run (execs Γ (.LN i c g::ss)) st f n:=by
 show f_ ?_ m;show aa (pY a) (aa b (aa t9 (aa (pY a) ?_)));rw[ť d];show aa e (aa h (aa (Dk a j l) aP))
def Iw(h:st[i]?=a5 (a5 (.JS,u))):Run (ev Γ (.Qr i)) st (.bor i,u) (st.set i (a5 (.own,u))):=by
 change yQ i st=_;unfold yQ;rw[h]
def GD(c:st[i]?=a5 (a5 (.own,.JU ks us)))(d:Run (ev Γ a) st (k,.str y) st)(e:Run (ev Γ b) st z st)(f:Run (lift z) st u st)(g:(match dN ks us y with|some v=>(Kd.loc,v)|none=>(.loc,u))=r):
  Run (ev Γ (.My i a b)) st r st:=by
 show aa (d_ c) (aa (a:=()) (st1:=st) rfl (aa d (aa (a:=y) (st1:=st) rfl (aa e (aa f (aa (d_ c) (bQ ?_)))))));subst g;rfl
def Iy(b:st[i]?=a5 (a5 (.own,.lst us)))(d:Run (ev Γ e) st (k1,.int (j:Nat)) st)(c:us[j]?=a5 (.int o))(g:Run (ev Γ h) st (k2,.int w) st)
  (k:Run (execs Γ ss) (st.set i (a5 (.own,.lst (us.set j (.int (o - w)))))) f l):Run (execs Γ (.aug bD i e h::ss)) st f l:=by
 have hl:qV i st=a5 (.ok us,st):=by unfold qV;rw[b];rfl
 have m:j<us.length:=(dt.mp c).1;have n:qW us (j:Nat)=a5 o:=by
  unfold qW;rw[ť ⋯,Ra,c]
 have p:M9 us.length (j:Nat)=a5 j:=by
  unfold M9;rw[ť ⋯]
  first|(rw[ť ⋯];simp)|simp[m]
 show f_ (aa (a:=us) (st1:=st) hl (aa d (aa (a:=(j:Int)) (st1:=st) rfl (aa (a:=us) (st1:=st) hl (aa (bQ n) (aa g (aa (a:=w) (st1:=st) rfl (aa (a:=()) (st1:=st.set i (a5 (.own,.lst (us.set j (.int (o - w)))))) ?_ aP)))))))) k;change modS i (eE (.int (j:Nat)) (.int (wX bD o w))) st=_;unfold modS;rw[b];simp only[Kd.root,if_true,eE];rw[p];rfl
def Iz(a:st[i]?=a5 (a5 (.own,u)))(b:yO u=a5 r):Run (ev Γ (.Qs i)) st r st:=aa (d_ a) (bQ b)
end
theorem jh(f:Str->U)(y:Str):∀ks:List Str,dN ks (ks.map f) y=if y∈ks then a5 (f y) else b6
 |[]=>rfl
 |k::ks=>by
  rw[d4];change(if k=y then a5 (f k) else dN ks (ks.map f) y)=_;by_cases e:k=y
  .subst e;rw[ť rfl,ť (by simp)]
  .rw[Ŧ e,jh f y ks];have:(y∈k::ks)↔y∈ks:=by simp[nC e]
   by_cases h:y∈ks
   .rw[ť h,ť (this.mpr h)]
   .rw[Ŧ h,Ŧ λz=>h (this.mp z)]
theorem mF(f:Str->U)(y:Str)(u:U):∀ks:List Str,ks.Nodup->jB ks (ks.map f) y u=ks.map λk=>if k=y then u else f k
 |[],_=>rfl
 |k::ks,h=>by
  have⟨b,c⟩:=l0.mp h;rw[d4,d4];change(if k=y then u::ks.map f else f k::jB ks (ks.map f) y u)=_;by_cases e:k=y
  .subst e;rw[ť rfl,ť rfl];congr 1
   show t8 λz hz=>?_;have a:z≠k:=λq=>b (by rw[<-q];show hz);rw[Ŧ a]
  .rw[Ŧ e,Ŧ e,mF f y u ks c]
abbrev stN(s:Str×Nat):U:=.tup [.str s.1,.int (s.2:Nat)]
theorem ou(f:α->Int):∀(ns:List α),intsOf (ns.map λa=>U.int (f a))=a5 (ns.map f)
 |[]=>rfl
 |n::ns=>by change(intsOf (ns.map λa=>U.int (f a))).map _=_;rw[ou f ns];rfl
def Dl(h:ps.length<64)(c:(ps.map (·.1)).Nodup):∃a:List (Str×Nat),a.Perm ps/\yO (.JU (ps.map (·.1)) (ps.map λp=>.int (p.2:Nat)))=a5 (.own,.lst (a.map stN)):=by
 have d:=ou (λp:Str×Nat=>((p.2:Nat):Int)) ps;have hz:(ps.map (·.1)).zip (ps.map λp:Str×Nat=>((p.2:Nat):Int))=ps.map λp=>(p.1,((p.2:Nat):Int)):=by
  rw[List.zip_map']
 let P:=kA ((ps.map λp=>(p.1,((p.2:Nat):Int))).map (·.1));have b:P.Perm (gs ps.length):=by
  have:=gy ((ps.map λp=>(p.1,((p.2:Nat):Int))).map (·.1));simpa[P] using this
 show⟨P.map λi=>ps.getD i (mN,0),?_,?_⟩
 .show(b.map _).trans ?_;have:(gs ps.length).map (λi=>ps.getD i (mN,0))=ps:=by
   apply M7
   .simp
   .intro i j e;simp[O',e]
  rw[this]
 .change(intsOf (ps.map λp=>U.int (p.2:Nat))).bind _=_;rw[d];change(if (ps.map (·.1)).length<64/\(ps.map (·.1)).Nodup/\(ps.map (·.1)).length=(ps.map λp:Str×Nat=>((p.2:Nat):Int)).length then _ else _)=_;rw[ť ⟨by simpa using h,c,by simp⟩,hz];congr 3
  change(B4 _).map wU=_;change(P.map λi=>(ps.map λp=>(p.1,((p.2:Nat):Int))).getD i (mN,0)).map wU=_;rw[i6,i6];show t8 λi f=>?_;have g:i<ps.length:=u5.mp (b.mem_iff.mp f);simp[O',g,wU,stN]
def IA(h:cK (i<=j)=c):bK .le (.int i) (.int j)=a5 c:=by subst h;rfl
def pZ:bK .isin (.str x) (.JU ks vs)=a5 (cK (x∈ks)):=rfl
def jP:bK .J4 (.str x) (.JU ks vs)=a5 (!cK (x∈ks)):=rfl
def Ae{x:Str}{ss:List Str}:bK .isin (.str x) (.lst (ss.map U.str))=a5 (cK (x∈ss)):=by
 have h:=@de x ss;have e:bK .J4 (.str x) (.lst (ss.map U.str))=(bK .isin (.str x) (.lst (ss.map U.str))).map (!·):=rfl;rw[e,et]at h;have⟨b,a,c⟩:=h;rw[a];congr 1
 cases b<;>simp_all
def mG:bK .ne (.str a) (.str b)=a5 (!cK (a=b)):=by
 have:bK .ne (.str a) (.str b)=(bK .eq (.str a) (.str b)).map (!·):=by
  simp only[bK];rw[ť ⟨rfl,rfl⟩,ť ⟨rfl,rfl⟩];rfl
 rw[this,fA];rfl
def p7(bs:List Bool):L5 .all [(k,.lst (bs.map .bl))]=a5 (.loc,.bl (bs.all id)):=by
 change(gT (bs.map U.bl)).map _=_;have:∀bs:List Bool,gT (bs.map U.bl)=a5 bs:=λbs=>by
  induction bs with
  |nil=>rfl
  |cons b bs a=>change(gT (bs.map U.bl)).map _=_;rw[a];rfl
 rw[this];rfl
section
end
def vQ(h:ks.length<1000)(a:x∉ks):eE (.str x) u (.JU ks us)=a5 (.JU (ks++[x]) (us++[u])):=by
 rw[vN h];unfold dput;rw[Ŧ a]
def rN(h:Lc 50 (.lst us)=bD):bK .ne (.lst us) (.lst [])=a5 (!us.isEmpty):=by
 simp only[bK];rw[ť ⟨h,by simp[Lc,dW]⟩];cases us with
 |_=>simp[cH,cP]
theorem ox(f:α->Int):∀(l:List α) (n:Nat),dW n (l.map λa=>U.int (f a))=bD
 |[],n=>by simp[dW]
 |a::l,n=>by rw[d4,dW,ox f l n];simp[Lc]
theorem mH:∀(ss:List (Str×Nat)) (n:Nat),dW (n+1) (ss.map stN)=bD
 |[],n=>by simp[dW]
 |s::ss,n=>by rw[d4,dW,mH ss n];simp[stN,Lc,dW]
def Dm:bK .eq (.tup (ss.map U.str)) (.tup [])=a5 (cK (ss=[])):=by
 simp only[bK];rw[ť ⟨by simp[Lc,gG],by simp[Lc,dW]⟩];cases ss with
 |_=>simp[cH,cP]
theorem mI{cond:M Bool}(h:bc src st)(a b g:α->U)(p:α->Bool):∀(c:List α) (acc:List U),acc.length+c.length<=cL ->
  (∀y∈c,Run cond (a5 (.loc,a y)::a5 (.loc,b y)::st) (p y) (a5 (.loc,a y)::a5 (.loc,b y)::st)/\Run elt (a5 (.loc,a y)::a5 (.loc,b y)::st) (.loc,g y) (a5 (.loc,a y)::a5 (.loc,b y)::st)) ->
  Run (bV 2 bD cond elt src (c.map λy=>(Kd.loc,U.tup [a y,b y])) acc) st (acc++(c.filter p).map g) st
 |[],acc,_,_=>by rw[Kb,RU,Kb,t4];show vJ h
 |y::c,acc,hl,f=>by
  have⟨d,j⟩:=f y (by simp);rw[js]at hl;have i:Run (dG bD (gs 2) (.loc,.tup [a y,b y])) (i1 2 b6++st) () (a5 (.loc,a y)::a5 (.loc,b y)::st):=j9 (.inl rfl);cases e:p y with
  |true =>
   rw[e]at d;show pS (s1:=a5 (.loc,a y)::a5 (.loc,b y)::st) (s2:=a5 (.loc,a y)::a5 (.loc,b y)::st) (s3:=a5 (.loc,a y)::a5 (.loc,b y)::st) (s4:=a5 (.loc,a y)::a5 (.loc,b y)::st) h i d j aK ⋯ ?_;have:=mI h a b g p c (acc++[g y]) (by simp;lia) λz hz=>f z (by simp[hz]);rw[DD,ť e,d4];simpa using this
  |false =>
   rw[e]at d;show zQ (s1:=a5 (.loc,a y)::a5 (.loc,b y)::st) (s2:=a5 (.loc,a y)::a5 (.loc,b y)::st) h i d ?_;have:=mI h a b g p c acc ⋯ λz hz=>f z (by simp[hz]);rw[DD,Ŧ (by simp[e])];show this
def set_range(n:Nat)(f:Nat->α)(t:Nat)(v:α):((gs n).map f).set t v=(gs n).map λp=>if p=t then v else f p:=by
 apply M7
 .simp
 .intro i a b;simp only[List.getElem_set,WQ,List.getElem_range];by_cases e:t=i
  .subst e;simp
  .rw[Ŧ e,Ŧ (nC e)]
def Dn{rows:List Row}{t:Nat}(h:rows[t]?=a5 r):Ky (rows.map A') (t:Int)=a5 (A' r):=cY (by simp[h])
section
def Ea(c:Run (ev Γ a) st x st1)(d:iM x.2=a5 e)(f:Run (ev Γ b) st1 y st2)(g:iM y.2=a5 h)(i:qQ ln e h=a5 r):Run (ev Γ (.OK ln a b)) st r st2 :=
 aa c (aa (bQ d) (aa f (aa (bQ g) (bQ i))))
end
def gH(h:ss.length<4000):iM (.lst (ss.map .str))=a5 (aD ss):=by
 change(strsOf (ss.map U.str)).bind _=_;rw[dP];change(if ss.length+1<D8 then _ else _)=_;rw[ť (by change ss.length+1<4096;lia)]
def Af(c:l.Perm m)(hs:m.Pairwise (λa b=>L9 a b=bD)):aB l=m:=eU ((bF l).trans c) (dR l) hs
end TM
namespace TM
open PySem L2
section
def dI(h:st[i]?=a5 (a5 (.io,u))):Run (ev Γ (.var i)) st (.bor i,u) st:=d_ h
end
abbrev GF:List S :=
   [.ite (.cmp .eq (.bi .len [.var 0]) (.cst (.int 0)))
      [.ret (.lst [.var 1,.cst (.int 0),.cst (.int 1)])]
      [],
    .set 2 (.pop 0),
    .ret (.lst [(.bin .Po (.var 2) (.cst (.int 2))),(.cst (.int 0)),(.bin .mod (.var 2) (.cst (.int 2)))])]
abbrev Ag:Fn:=⟨"_law_source",2,3,.Na [0]::GF⟩
def Xm:(3:Nat)<=cL:=by decide
def Ah:gK Γ Ag [0] GF [.lst [],.int k]=a5 (.ok (.own,.tup [.lst [.int k,.int 0,.int 1],.lst []])):=by
 show cy (st0:=[a5 (.io,.lst []),a5 (.loc,.int k),b6]) (f:=.rt .own (.lst [.int k,.int 0,.int 1])) (st:=[a5 (.io,.lst []),a5 (.loc,.int k),b6]) rfl rfl ?_ rfl rfl;apply jN
 all_goals repeat' (first|show dI rfl|show cq (by simp)|show b_|show Xm|sizeOf_list_dec)
def Ai:gK Γ Ag [0] GF [.lst ((ns++[c]).map .int),.int k]=a5 (.ok (.own,.tup [.lst [.int (c / 2),.int 0,.int (c % 2)],.lst (ns.map .int)])):=by
 have hl:bK .eq (.int (((ns++[c]).map U.int).length:Nat)) (.int 0)=a5 cc:=cq (by simp;lia);have a:((ns++[c]).map U.int).dropLast=ns.map .int:=by simp
 have b:Run (ev Γ (.pop 0)) [a5 (.io,.lst ((ns++[c]).map .int)),a5 (.loc,.int k),b6] (.loc,.int c) [a5 (.io,.lst (ns.map .int)),a5 (.loc,.int k),b6]:=by
  have:=Io (Γ:=Γ) (st:=[a5 (.io,.lst ((ns++[c]).map .int)),a5 (.loc,.int k),b6]) (i:=0) (u:=.int c) (us:=(ns++[c]).map .int) (k:=.io) rfl rfl (by simp);rw[a]at this;show this
 show cy (st0:=[a5 (.io,.lst ((ns++[c]).map .int)),a5 (.loc,.int k),b6]) (f:=.rt .own (.lst [.int (c / 2),.int 0,.int (c % 2)])) (st:=[a5 (.io,.lst (ns.map .int)),a5 (.loc,.int k),a5 (.loc,.int c)]) rfl rfl ?_ rfl rfl;show aZ (st1:=[a5 (.io,.lst ((ns++[c]).map .int)),a5 (.loc,.int k),b6]) ?_ av (ay (st2:=[a5 (.io,.lst (ns.map .int)),a5 (.loc,.int k),a5 (.loc,.int c)]) b aH ?_)
 all_goals repeat' (first|show dI rfl|show hl|show b_|show Xm|sizeOf_list_dec)
abbrev fL(a t w:Int):U:=.lst [.int a,.int t,.int w]
abbrev oy(a t w m:Int):Int:=if w=0 then a % m else((a % 10 ^ 15+1) * 48271+(t+1) * (t+1) * 16807+(t+1) * 7919) % 2147483647 * 69621 % 2147483629 % m
abbrev Aj(a w m:Int):Int:=if w=0 then a / m else a
abbrev Eb:List S :=
   [.put 0 (.cst (.int 1)) (.bin .add (.idx (.var 0) (.cst (.int 1))) (.cst (.int 1))),
    .ite (.cmp .eq (.idx (.var 0) (.cst (.int 2))) (.cst (.int 0)))
      [.set 2 (.bin .mod (.idx (.var 0) (.cst (.int 0))) (.var 1)),
      .put 0 (.cst (.int 0)) (.bin .Po (.idx (.var 0) (.cst (.int 0))) (.var 1)),
      .ret (.var 2)]
      [],
    .set 3 (.idx (.var 0) (.cst (.int 1))),
    .set 4 (.bin .add (.bin .add (.bin .mul (.bin .add (.bin .mod (.idx (.var 0) (.cst (.int 0))) (.bin .pow (.cst (.int 10)) (.cst (.int 15)))) (.cst (.int 1))) (.cst (.int 48271))) (.bin .mul (.bin .mul (.var 3) (.var 3)) (.cst (.int 16807)))) (.bin .mul (.var 3) (.cst (.int 7919)))),
    .ret (.bin .mod (.bin .mod (.bin .mul (.bin .mod (.var 4) (.cst (.int 2147483647))) (.cst (.int 69621))) (.cst (.int 2147483629))) (.var 1))]
abbrev vR:Fn:=⟨"_law_draw",2,5,.Na [0]::Eb⟩
def Ak(i:0<=t)(j:t<2 ^ 62)(m0:0<m)(m1:m<1073741824):gK Γ vR [0] Eb [fL a t w,.int m]=a5 (.ok (.loc,.tup [.int (oy a t w m),fL (Aj a w m) (t+1) w])):=by
 unfold oy Aj fL;have c:∀a t w:Int,Ky [U.int a,.int t,.int w] 0=a5 (.int a):=λa t w=>rfl;have d:∀a t w:Int,Ky [U.int a,.int t,.int w] 1=a5 (.int t):=λa t w=>rfl;have e:∀a t w:Int,Ky [U.int a,.int t,.int w] 2=a5 (.int w):=λa t w=>rfl;have g:∀a t w x:Int,eE (.int 1) (.int x) (.lst [.int a,.int t,.int w])=a5 (.lst [.int a,.int x,.int w]):=λa t w x=>rfl;have h:∀a t w x:Int,eE (.int 0) (.int x) (.lst [.int a,.int t,.int w])=a5 (.lst [.int x,.int t,.int w]):=λa t w x=>rfl;by_cases b:w=0
 .subst b;rw[ť rfl,ť rfl];show cy (st0:=[a5 (.io,.lst [.int a,.int t,.int 0]),a5 (.loc,.int m),b6,b6,b6]) (f:=.rt .loc (.int (a % m))) (st:=[a5 (.io,.lst [.int (a / m),.int (t+1),.int 0]),a5 (.loc,.int m),a5 (.loc,.int (a % m)),b6,b6]) rfl rfl ?_ rfl rfl;show gW (rv:=(.loc,.int (t+1))) (rk:=(.loc,.int 1)) (k:=.io) (k':=.io) (bG (aO (dI rfl) ai ∅ (bL (d _ _ _))) ai ∅ cG) rfl ai (aA aK (aA aK aL)) rfl rfl (g _ _ _ _) ?_;apply jN
  .repeat' (first|show dI rfl|show bL (e _ _ _)|show cq (show((0:Int)==0)=bD from rfl)|sizeOf_list_dec)
  .show ay (st2:=[a5 (.io,.lst [.int a,.int (t+1),.int 0]),a5 (.loc,.int m),a5 (.loc,.int (a % m)),b6,b6]) (bG (aO (dI rfl) ai ∅ (bL (c _ _ _))) (af rfl) ∅ (eL m0)) aH ?_;show gW (rv:=(.loc,.int (a / m))) (rk:=(.loc,.int 0)) (k:=.io) (k':=.io) (bG (aO (dI rfl) ai ∅ (bL (c _ _ _))) (af rfl) ∅ (mq ⟨m0,m1⟩)) rfl ai (aA aK (aA aK aL)) rfl rfl (h _ _ _ _) ?_
   repeat' sizeOf_list_dec
 .rw[Ŧ b,Ŧ b];show cy (st0:=[a5 (.io,.lst [.int a,.int t,.int w]),a5 (.loc,.int m),b6,b6,b6]) (f:=.rt .loc (.int (((a % 10 ^ 15+1) * 48271+(t+1) * (t+1) * 16807+(t+1) * 7919) % 2147483647 * 69621 % 2147483629 % m))) (st:=[a5 (.io,.lst [.int a,.int (t+1),.int w]),a5 (.loc,.int m),b6,a5 (.loc,.int (t+1)),a5 (.loc,.int ((a % 10 ^ 15+1) * 48271+(t+1) * (t+1) * 16807+(t+1) * 7919))]) rfl rfl ?_ rfl rfl;show gW (rv:=(.loc,.int (t+1))) (rk:=(.loc,.int 1)) (k:=.io) (k':=.io) (bG (aO (dI rfl) ai ∅ (bL (d _ _ _))) ai ∅ cG) rfl ai (aA aK (aA aK aL)) rfl rfl (g _ _ _ _) ?_;apply aZ
  .repeat' (first|show dI rfl|show bL (e _ _ _)|show cq (show(w==0)=cc by simp[b])|sizeOf_list_dec)
  .show av
  .repeat' (first|show dI rfl|show bL (c _ _ _)|show bL (d _ _ _)|show eL m0|sizeOf_list_dec)
abbrev Src(T:Int)(u:U):Prop:=∃a t w,u=fL a t w/\0<=t/\t<=T
def Src.up(h:Src T u)(l:T<=b):Src b u:=let ⟨a,t,w,e,c,d⟩:=h;⟨a,t,w,e,c,Ň d l⟩
abbrev bC(Γ:Tab):Prop:=∀(T m:Int) (u:U),Src T u->T<2 ^ 62->0<m->m<1073741824->∃n u',Γ "_law_draw" [u,.int m]=a5 (.ok (.loc,.tup [.int n,u']))/\0<=n/\n<m/\Src (T+1) u'
def rO(m0:0<m):0<=oy a t w m/\oy a t w m<m:=by
 unfold oy;split
 .show⟨R3 _ ⋯,S_ _ m0⟩
 .show⟨R3 _ ⋯,S_ _ m0⟩
def t_(h:Kq Pg "_law_draw" vR):bC (J5 Pg (d+1)):=by
 rintro T m u ⟨a,t,w,rfl,b,c⟩ e m0 m1;show⟨oy a t w m,fL (Aj a w m) (t+1) w,?_,(rO m0).1,(rO m0).2,⟨_,_,_,rfl,⋯,⋯⟩⟩;rw[cT h _ rfl];show Ak b ⋯ m0 m1
section
def Al(o:bC Γ)(p:st[i]?=a5 (a5 (k0,b)))(f:k0.root=bD)(q:Run (ev Γ e) st (.loc,.int m) st1)(d:st1[i]?=a5 (a5 (k,u)))(hk:k.root=bD)(g:Src T u)(r:T<2 ^ 62)(m0:0<m)(m1:m<1073741824):
  ∃n u',Run (ev Γ (.JW "_law_draw" [.var i,e] [0])) st (.loc,.int n) (st1.set i (a5 (k,u')))/\0<=n/\n<m/\Src (T+1) u':=by
 have⟨n,u',s,v,x,hs⟩:=o T m u g r m0 m1;show⟨n,u',?_,v,x,hs⟩;obtain⟨a,t,w,rfl,_,_⟩:=hs;obtain⟨a0,h,l,rfl,_,_⟩:=g;have y:Run (ev Γ (.var i)) st (.bor i,b) st:=by
  have:=d_ p (by rintro rfl;cases f);unfold kv at this;rw[ť f]at this;show this
 have c:[((Kd.bor i,b):Kd×U),(.loc,.int m)].map (eD st1)=[(.bor i,fL a0 h l),(.loc,.int m)]:=by
  change [eD st1 (.bor i,b),(.loc,.int m)]=_;unfold eD
  dsimp only
  rw[d];simp[hk]
 show tW (rs:=[(.bor i,b),(.loc,.int m)]) (ws:=[fL a t w]) (st1:=st1) (ae y (ae q aj)) ?_ ?_ (.inr rfl) ?_ ?_
 .rw[c];show⟨⟨k,hk,d⟩,trivial⟩
 .rw[c];show s
 .rw[c];change((bD&&cK ([a5 i].Nodup))&&(bD&&(bD&&bD)))=bD;simp
 .rw[c];change(match il [(Kd.bor i,fL a0 h l),(.loc,.int m)] 0 with|some j=>(match fL a t w,st1[j]? with|.lst us,a5 (a5 (k,_))=>gU _ [] [] (st1.set j (a5 (k,.lst us)))|_,_=>b6)|none=>b6)=_;change(match fL a t w,st1[i]? with|.lst us,a5 (a5 (k,_))=>gU _ [] [] (st1.set i (a5 (k,.lst us)))|_,_=>b6)=_;rw[d];rfl
def dg(b:bC Γ)(a:st[i]?=a5 (a5 (k,u)))(hk:k.root=bD)(c:Run (ev Γ e) st (.loc,.int m) st)(d:Src T u)(f:T<2 ^ 62)(m0:0<m)(m1:m<1073741824):
  ∃n u',Run (ev Γ (.JW "_law_draw" [.var i,e] [0])) st (.loc,.int n) (st.set i (a5 (k,u')))/\0<=n/\n<m/\Src (T+1) u':=Al b a hk c a hk d f m0 m1
end
section
def jQ(h:st[i]?=a5 (a5 (.loc,.bl b))):Run (J' Γ (.var i)) st b st:=aa (d_ h) (bQ rfl)
end
abbrev Am:List S :=
   [.set 6 (.idx (.var 1) (.JW "_law_draw" [.var 0,.bi .len [.var 1]] [0])),
   .ite (.and [.var 3,.cmp .gt (.var 2) (.cst (.int 0))])
    [.set 6 (.idx (.var 1) (.JW "_law_draw" [.var 0,.var 2] [0]))]
    [],
   .ite (.cmp .J4 (.var 6) (.var 4))
    [.app 4 (.var 6)]
    []]
abbrev IB:List U:=[.int 0,.int 1,.int 1,.int 2,.int 2,.int 3,.int 8,.int 2]
abbrev IC:List S :=
   [.set 4 (.lst []),
    .J9 cc [5] .Lb [.idx (.lst [.cst (.int 0),.cst (.int 1),.cst (.int 1),.cst (.int 2),.cst (.int 2),.cst (.int 3),.cst (.int 8),.cst (.int 2)]) (.JW "_law_draw" [.var 0,.cst (.int 8)] [0])] Am,
    .ret (.tup [(.idx (.var 1) (.var 2)),(.bi .tuple [(.var 4)])])]
abbrev GG:Fn:=⟨"_law_row",4,7,.Na [0]::IC⟩
abbrev eB(u:U)(ws:List Str)(at_:Int)(b:Bool)(told:List Str)(o5 o6:Option (Kd×U)):aw:=[a5 (.io,u),a5 (.any,.lst (ws.map .str)),a5 (.loc,.int at_),a5 (.loc,.bl b),a5 (.own,.lst (told.map .str)),o5,o6]
def p8{ws:List Str}{n:Int}(b:0<=n)(c:n<ws.length):∃x,x∈ws/\ws[n.toNat]?=a5 x/\Ky (ws.map U.str) n=a5 (.str x):=by
 have⟨k,rfl⟩:=tj b;have a:k<ws.length:=by lia
 show⟨ws[k],LL a,by simp[a],cY (by simp[a])⟩
def An(j:bC Γ)(s:Src T u)(G:T+1<2 ^ 62)(H:ws.length<1000000)(a0:0<=at_)(I:at_<ws.length)(J:told.length<=8):
  ∃u' x a,Run (execs Γ Am) (eB u ws at_ b told o5 o6) .nx (eB u' ws at_ b a o5 (a5 (.any,.str x)))/\Src (T+2) u'/\(a=told\/(x∈ws/\x∉told/\a=told++[x])):=by
 have t:(8:Nat)<cL:=by decide
 have⟨n,d,v,w,l,s1⟩:=dg (st:=eB u ws at_ b told o5 o6) j (i:=0) (k:=.io) (e:=.bi .len [.var 1]) (m:=((ws.map U.str).length:Nat)) rfl rfl (cC (ae (aF rfl) aj) trivial b_) s ⋯ (by simp;lia) (by simp;lia);rw[c4]at l;obtain⟨x,A,_,ex⟩:=p8 w l;have o:Run (ev Γ (.idx (.var 1) (.JW "_law_draw" [.var 0,.bi .len [.var 1]] [0]))) (eB u ws at_ b told o5 o6) (.any,.str x) (eB d ws at_ b told o5 o6):=aO (aF rfl) v trivial (bL (k:=.any) ex);have c:∀(u2:U) (y:Str),y∈ws->Src (T+2) u2->∃u' x a,Run (execs Γ [.ite (.cmp .J4 (.var 6) (.var 4)) [.app 4 (.var 6)] []]) (eB u2 ws at_ b told o5 (a5 (.any,.str y))) .nx (eB u' ws at_ b a o5 (a5 (.any,.str x)))/\Src (T+2) u'/\(a=told\/(x∈ws/\x∉told/\a=told++[x])):=by
  intro u2 y f hs;by_cases g:y∈told
  .show⟨u2,y,told,?_,hs,.inl rfl⟩;show aZ (aN (aF rfl) (aC rfl) ∅ (de.trans (by simp[g]))) av av
  .show⟨u2,y,told++[y],?_,hs,.inr ⟨f,g,rfl⟩⟩;show dH (aN (aF rfl) (aC rfl) ∅ (de.trans (by simp[g]))) (gb (k:=.own) (k':=.own) rfl (aF rfl) (j7 rfl) rfl rfl (by simp;lia) av) ?_;rw[show told.map U.str++[U.str y]=(told++[y]).map U.str by simp];show av
 by_cases p:b=bD/\0<at_
 .have⟨rfl,r⟩:=p;have⟨L,u2,B,h,C,s2⟩:=dg (st:=eB d ws at_ bD told o5 (a5 (.any,.str x))) j (i:=0) (k:=.io) (e:=.var 2) (m:=at_) rfl rfl (af rfl) s1 ⋯ r ⋯;obtain⟨y,f,_,D⟩:=p8 (ws:=ws) h ⋯;have⟨u',z,a,q,hs,ho⟩:=c u2 y f (s2.up ⋯);show⟨u',z,a,ay o j8 (dH (iY (mj (jQ rfl) (dw (aN (af rfl) ai trivial (jb (by simp[r])))))) (ay (aO (aF rfl) B trivial (bL (k:=.any) D)) j8 av) q),hs,ho⟩
 .have⟨u',z,a,q,hs,ho⟩:=c d x A (s1.up ⋯);show⟨u',z,a,ay o j8 (aZ (st1:=eB d ws at_ b told o5 (a5 (.any,.str x))) (iY ?_) av q),hs,ho⟩;cases b with
  |false=>show tU (jQ rfl)
  |true=>show mj (jQ rfl) (dw (aN (af rfl) ai trivial (jb (by simp at p ⊢;lia))))
abbrev mJ(Γ:Tab):Prop:=∀(T at_:Int) (u:U) (ws:List Str) (b:Bool),Src T u->T+17<2 ^ 62->ws.length<1000000->0<=at_->at_<ws.length->∃(x:Str) (told:List Str) (u':U),Γ "_law_row" [u,.lst (ws.map .str),.int at_,.bl b]=a5 (.ok (.loc,.tup [.tup [.str x,.tup (told.map .str)],u']))/\ws[at_.toNat]?=a5 x/\told.Nodup/\(∀y∈told,y∈ws)/\told.length<=8/\Src (T+17) u'
def Dp(a:0<=n)(b:n<8):∃m:Nat,m<=8/\Ky IB n=a5 (.int (m:Nat)):=by
 have⟨k,rfl⟩:=tj a;have:k=0\/k=1\/k=2\/k=3\/k=4\/k=5\/k=6\/k=7:=by lia
 rcases this with rfl|rfl|rfl|rfl|rfl|rfl|rfl|rfl
 .show⟨0,⋯,rfl⟩
 .show⟨1,⋯,rfl⟩
 .show⟨1,⋯,rfl⟩
 .show⟨2,⋯,rfl⟩
 .show⟨2,⋯,rfl⟩
 .show⟨3,⋯,rfl⟩
 .show⟨8,⋯,rfl⟩
 .show⟨2,⋯,rfl⟩
def Dq(l:bC Γ){ws:List Str}{T at_:Int}(o:Src T u)(hT:T+17<2 ^ 62)(A:ws.length<1000000)(a0:0<=at_)(p:at_<ws.length):
  ∃(x:Str) (told:List Str) (u':U),gK Γ GG [0] IC [u,.lst (ws.map .str),.int at_,.bl b]=a5 (.ok (.loc,.tup [.tup [.str x,.tup (told.map .str)],u']))/\ws[at_.toNat]?=a5 x/\told.Nodup/\(∀y∈told,y∈ws)/\told.length<=8/\Src (T+17) u':=by
 have B:(8:Nat)<cL:=by decide
 obtain⟨x,_,C,ex⟩:=p8 a0 p;have⟨n,s,D,G,H,s1⟩:=dg (st:=eB u ws at_ b [] b6 b6) l (i:=0) (k:=.io) (e:=.cst (.int 8)) (m:=8) rfl rfl ai o ⋯ ⋯ ⋯;have⟨m,hm,em⟩:=Dp G H;obtain⟨st',I,u2,told,o5,o6,rfl,s2,g,j,v,_⟩:=bM (rs:=[(.loc,.int (m:Nat))]) (t:=cc) (is:=[5]) (body:=execs Γ Am) (λi:Nat=>(Kd.loc,U.int (0+(i:Int)))) (λd r st=>∃(u2:U) (told:List Str) (o5 o6:Option (Kd×U)),st=eB u2 ws at_ b told o5 o6/\Src (T+1+2 * (d.length:Nat)) u2/\told.Nodup/\(∀y∈told,y∈ws)/\told.length<=d.length/\d.length+r.length=m)
  (λd r st _=>trivial) (λd y r st h=>by
   have⟨u2,told,o5,o6,rfl,s2,g,j,v,J⟩:=h;simp only[js]at J;have⟨L,z,N,q,s3,ho⟩:=An l (u:=u2) (ws:=ws) (told:=told) (b:=b) (at_:=at_) (o5:=a5 (.loc,.int (0+(y:Int)))) (o6:=o6) s2 ⋯ A a0 p ⋯;show⟨eB u2 ws at_ b told (a5 (.loc,.int (0+(y:Int)))) o6,_,aH,q,L,N,_,_,rfl,s3.up (by simp;lia),?_⟩;rw[gc,wh];rcases ho with rfl|⟨O,Q,rfl⟩
   .show⟨g,j,⋯,⋯⟩
   .show⟨rr.mpr ⟨g,by simp,λa Y c w=>by rw[hY]at w;subst w;show λe=>Q (e▸Y)⟩,λy hy=>?_,by simp;lia,⋯⟩;rcases hQ.mp hy with hy|hy
    .show j y hy
    .rw[hY]at hy;subst hy;show O) (gs m) [] (eB s ws at_ b [] b6 b6) ⟨s,[],b6,b6,rfl,by simpa using s1,by simp,by simp,by simp,by simp⟩
 rw[i0,vu]at s2 v;show⟨x,told,u2,?_,C,g,j,⋯,s2.up ⋯⟩;show cy (st0:=[a5 (.io,u),a5 (.any,.lst (ws.map .str)),a5 (.loc,.int at_),a5 (.loc,.bl b),b6,b6,b6]) (f:=.rt .loc (.tup [.str x,.tup (told.map .str)])) (st:=eB u2 ws at_ b told o5 o6) rfl ?_ ?_ rfl rfl
 .obtain⟨_,_,_,rfl,_⟩:=o;rfl
 show ay (st2:=eB u ws at_ b [] b6 b6) (bY aj trivial aL (ke _)) bh ?_;show cE (rs:=[(.loc,.int (m:Nat))]) (ae (aO (x:=(.own,.lst IB)) (bY (by repeat (first|show aj|show ae ai (by assumption)|apply ae ai)) (by show trivial) (by repeat (first|show aL|apply aA aK)) (by decide)) D trivial (bL em)) aj) trivial (iu ⋯) rfl I ?_;show bH (gV (ae (aO (aF rfl) (af rfl) trivial (bL (k:=.any) ex)) (ae (cC (ae (aC rfl) aj) ∅ rfl) aj)) trivial (aA (j7 rfl) (aA aK aL)) (by change 2<=cL;lia)) da
def ID(a:bC (J5 Pg d))(h:Kq Pg "_law_row" GG):mJ (J5 Pg (d+1)):=by
 intro T at_ u ws b c f g a0 i;have⟨x,told,u',e,r⟩:=Dq a (b:=b) c f g a0 i;show⟨x,told,u',by rw[cT h _ rfl];show e,r⟩
abbrev Ec:List S :=
   [.ite (.and [.cmp .eq (.idx (.var 2) (.cst (.int 0))) (.idx (.var 1) (.cst (.int 0))),.cmp .eq (.bi .sorted [.idx (.var 2) (.cst (.int 1))]) (.bi .sorted [.idx (.var 1) (.cst (.int 1))])])
    [.M0]
    []]
abbrev IE:List S:=[.J9 cc [2] .seq [.var 0] Ec,.app 0 (.var 1)]
abbrev Dr:Fn:=⟨"_law_lay",2,3,.Na [0]::IE⟩
abbrev gZ(rs:List Row)(r:Row)(o:Option (Kd×U)):aw:=[a5 (.io,.lst (rs.map A')),a5 (.loc,A' r),o]
abbrev layR(rs:List Row)(r:Row):List Row:=if keyOf r∈rs.map keyOf then rs else rs++[r]
def Ao(c:x.2.length<64)(d:r.2.length<64):Run (J' Γ (.and [.cmp .eq (.idx (.var 2) (.cst (.int 0))) (.idx (.var 1) (.cst (.int 0))),.cmp .eq (.bi .sorted [.idx (.var 2) (.cst (.int 1))]) (.bi .sorted [.idx (.var 1) (.cst (.int 1))])])) (gZ rs r (a5 (.loc,A' x))) (cK (keyOf x=keyOf r)) (gZ rs r (a5 (.loc,A' x))):=by
 have a:∀y:Row,jA (.loc,A' y) (.int 0)=a5 (.loc,.str y.1):=λy=>rfl;have b:∀y:Row,jA (.loc,A' y) (.int 1)=a5 (.loc,.tup (y.2.map .str)):=λy=>rfl;have f:Run (J' Γ (.cmp .eq (.idx (.var 2) (.cst (.int 0))) (.idx (.var 1) (.cst (.int 0))))) (gZ rs r (a5 (.loc,A' x))) (cK (x.1=r.1)) (gZ rs r (a5 (.loc,A' x))):=aN (aO (af rfl) ai trivial (a x)) (aO (af rfl) ai trivial (a r)) trivial fA;have g:Run (J' Γ (.cmp .eq (.bi .sorted [.idx (.var 2) (.cst (.int 1))]) (.bi .sorted [.idx (.var 1) (.cst (.int 1))]))) (gZ rs r (a5 (.loc,A' x))) (cK (aB x.2=aB r.2)) (gZ rs r (a5 (.loc,A' x))):=aN (cC (ae (aO (af rfl) ai trivial (b x)) aj) trivial (sorted_strs c)) (cC (ae (aO (af rfl) ai trivial (b r)) aj) trivial (sorted_strs d)) trivial rE;have e:cK (keyOf x=keyOf r)=(cK (x.1=r.1)&&cK (aB x.2=aB r.2)):=by
  rw[<-Bool.decide_and];show decide_eq_decide.mpr (by unfold keyOf;show XU ..▸Iff.rfl)
 rw[e];show iY (pU f λ_=>dw g)
def GH:Run (execs Γ (.M0::ss)) st (.rt .loc .J0) st:=pR (aP)
theorem rP(b:r.2.length<64):∀(xs:List Row) (o:Option (Kd×U)),(∀x∈xs,x.2.length<64) ->
  ∃o',Run (forM cc [2] (execs Γ Ec) [(.bor 0,.lst (rs.map A'))] (xs.map λx=>(Kd.loc,A' x))) (gZ rs r o) (if keyOf r∈xs.map keyOf then .rt .loc .J0 else .nx) (gZ rs r o')
 |[],o,_=>⟨o,by rw[Ŧ (by simp)];show D5 ⟨⟨_,rfl,rfl⟩,trivial⟩⟩
 |x::xs,o,h=>by
  have a:=Ao (Γ:=Γ) (rs:=rs) (h x (by simp)) b;by_cases hk:keyOf x=keyOf r
  .show⟨a5 (.loc,A' x),?_⟩;rw[ť (by simp[hk])];rw[Ũ hk]at a;show JK ⟨⟨_,rfl,rfl⟩,trivial⟩ aH (jN a GH)
  .rw[ŧ hk]at a;have⟨o',q⟩:=rP (Γ:=Γ) (rs:=rs) b xs (a5 (.loc,A' x)) λy c=>h y (by simp[c]);show⟨o',?_⟩;have d:(keyOf r∈(x::xs).map keyOf)↔(keyOf r∈xs.map keyOf):=by
    rw[d4,d7];show⟨λz=>z.resolve_left λe=>hk e.symm,.inr⟩
   rw[show(if keyOf r∈(x::xs).map keyOf then Fl.rt .loc .J0 else Fl.nx)=(if keyOf r∈xs.map keyOf then Fl.rt .loc .J0 else Fl.nx) by simp only[d]];show Im ⟨⟨_,rfl,rfl⟩,trivial⟩ aH (aZ a av av) q
def Ds(b:r.2.length<64)(h:∀x∈rs,x.2.length<64)(hl:rs.length<1000):gK Γ Dr [0] IE [.lst (rs.map A'),A' r]=a5 (.ok (.loc,.tup [.J0,.lst ((layR rs r).map A')])):=by
 have c:(1000:Nat)<cL:=by decide
 have⟨o',q⟩:=rP (Γ:=Γ) b rs b6 h;have hs:c8 [0] [.lst (rs.map A'),A' r] Dr.ns=gZ rs r b6:=by
  change [a5 (Kd.io,U.lst (rs.map A')),a5 (if Kl (A' r)=bD then Kd.loc else Kd.any,A' r),b6]=_;rw[ť (vL r)];rfl
 have a:Mc .seq [(Kd.bor 0,U.lst (rs.map A'))]=a5 (rs.map λx=>(Kd.loc,A' x)):=by
  change a5 ((rs.map A').map λu=>(kE (.bor 0),u))=_;rw[i6];rfl
 unfold layR;by_cases hk:keyOf r∈rs.map keyOf
 .rw[ť hk]at q ⊢;show cy (f:=.rt .loc .J0) rfl hs (pR (D4 (ae (dI rfl) aj) ⟨⟨_,rfl,rfl⟩,trivial⟩ a rfl q)) rfl rfl
 .rw[Ŧ hk]at q ⊢;show cy (f:=.nx) (st:=gZ (rs++[r]) r o') rfl hs (cE (ae (dI rfl) aj) ⟨⟨_,rfl,rfl⟩,trivial⟩ a rfl q (gb (k:=.io) (k':=.io) rfl (af rfl) aK rfl rfl (by simp;lia) ?_)) rfl rfl;rw[show rs.map A'++[A' r]=(rs++[r]).map A' by simp];show av
abbrev mK(Γ:Tab):Prop:=∀(rs:List Row) (r:Row),r.2.length<64->(∀x∈rs,x.2.length<64)->rs.length<1000->Γ "_law_lay" [.lst (rs.map A'),A' r]=a5 (.ok (.loc,.tup [.J0,.lst ((layR rs r).map A')]))
def IF(h:Kq Pg "_law_lay" Dr):mK (J5 Pg (d+1)):=λrs r a b hl=>by
 rw[cT h _ rfl];show Ds a b hl
abbrev S8:Kd×U->Bool
 |(.bor _,_)=>cc
 |_=>bD
section
def Ap(h:S8 r=bD):eD st r=r:=by
 have⟨k,u⟩:=r;cases k<;>first|rfl|cases h
def xB(h:S8 r=bD):qR a r=bD:=by
 have⟨k,u⟩:=r;cases k<;>first|rfl|cases h
def Aq(h:rs.all S8=bD):bc rs st:=by
 induction rs with
 |nil=>trivial
 |cons r rs a =>
  have⟨k,u⟩:=r;rw[ġ,cb]at h;have:=a h.2;cases k<;>first|show this|cases h.1
def Dt(j:st[i]?=a5 (a5 (k0,a)))(g:k0.root=bD)(l:Run (bj Γ es) st rs st1)(c:st1[i]?=a5 (a5 (k,.lst us)))(hk:k.root=bD)(m:cV us=bD)(n:rs.map (eD st1)=rs)(o:bc rs st1)(p:∀r∈rs,qR [a5 i] r=bD)
  (s:Γ f (.lst us::rs.map (·.2))=a5 (.ok (d,.tup [v,.lst h]))) (t:d=.own\/d=.loc):Run (ev Γ (.JW f (.var i::es) [0])) st (d,v) (st1.set i (a5 (k,.lst h))):=by
 have u:Run (ev Γ (.var i)) st (.bor i,a) st:=by
  have:=d_ j (by rintro rfl;cases g);unfold kv at this;rw[ť g]at this;show this
 have w:eD st1 (.bor i,a)=(.bor i,.lst us):=by
  unfold eD
  dsimp only
  rw[c];simp[hk]
 have b:((Kd.bor i,a)::rs).map (eD st1)=(.bor i,.lst us)::rs:=by rw[d4,w,n]
 have e:il ((Kd.bor i,U.lst us)::rs) 0=a5 i:=by
  change(if cV us=bD then a5 i else b6)=_;rw[ť m]
 show tW (rs:=(.bor i,a)::rs) (ws:=[.lst h]) (st1:=st1) (ae u l) ?_ ?_ t ?_ ?_
 .rw[b];show⟨⟨k,hk,c⟩,o⟩
 .rw[b];show s
 .rw[b];unfold qS;rw[cb,cb];show⟨⟨by simp[e],by simp⟩,i8.mpr λq x=>?_⟩;cases q with
  |zero=>simp
  |succ q =>
   have hl:q<rs.length:=by have:=u5.mp x;simpa using this
   rw[Mt];show .inr ?_;rw[show((Kd.bor i,U.lst us)::rs).getD (q+1) (.loc,.J0)=rs[q] by simp[O',hl]];simp only[d4,Kb,e];show p _ (LL hl)
 .rw[b];unfold gU;rw[e]
  dsimp only
  rw[c];rfl
def iy(d:st[i]?=a5 (a5 (k0,o)))(e:k0.root=bD)(g:Run (bj Γ es) st rs st1)(h:st1[i]?=a5 (a5 (k,.lst us)))(hk:k.root=bD)(j:cV us=bD)(a:rs.all S8=bD)
  (l:Γ f (.lst us::rs.map (·.2))=a5 (.ok (b,.tup [v,.lst m]))) (n:b=.own\/b=.loc):Run (ev Γ (.JW f (.var i::es) [0])) st (b,v) (st1.set i (a5 (k,.lst m))) :=
 Dt d e g h hk j ((t8 λr c=>Ap (i8.mp a r c)).trans (É rs)) (Aq a) (λr c=>xB (i8.mp a r c)) l n
end
section
def Ar(p:mJ Γ){ws:List Str}(c:st[i]?=a5 (a5 (k0,G)))(d:k0.root=bD)(f:st[j]?=a5 (a5 (kw,.lst (ws.map .str))))(q:kw=.loc\/kw=.any)(g:Run (ev Γ e) st (.loc,.int at_) st1)(h:Run (ev Γ t) st1 (.loc,.bl b) st2)
  (l:st2[i]?=a5 (a5 (k,u))) (hk:k.root=bD) (m:Src T u) (s:T+17<2 ^ 62) (v:ws.length<1000000) (a0:0<=at_) (z:at_<ws.length) :
  ∃(r:Row) (u':U),Run (ev Γ (.JW "_law_row" [.var i,.var j,e,t] [0])) st (.loc,A' r) (st2.set i (a5 (k,u')))/\ws[at_.toNat]?=a5 r.1/\r.2.Nodup/\(∀y∈r.2,y∈ws)/\r.2.length<=8/\Src (T+17) u':=by
 have⟨x,told,u',n,A,B,C,D,o⟩:=p T at_ u ws b m s v a0 z;show⟨(x,told),u',?_,A,B,C,D,o⟩;obtain⟨a,t',w,rfl,_,_⟩:=m;obtain⟨H,I,J,rfl,_,_⟩:=o;rcases q with rfl|rfl
 .show iy (rs:=[(.loc,.lst (ws.map .str)),(.loc,.int at_),(.loc,.bl b)]) c d (ae (af f) (ae g (ae h aj))) l hk rfl rfl n (.inr rfl)
 .show iy (rs:=[(.any,.lst (ws.map .str)),(.loc,.int at_),(.loc,.bl b)]) c d (ae (aF f) (ae g (ae h aj))) l hk rfl rfl n (.inr rfl)
def As(a:mK Γ)(b:st[i]?=a5 (a5 (k0,j)))(c:k0.root=bD)(d:Run (ev Γ e) st (.loc,A' r) st1)(f:st1[i]?=a5 (a5 (k,.lst (rs.map A'))))(hk:k.root=bD)(g:r.2.length<64)(h:∀x∈rs,x.2.length<64)(hl:rs.length<1000):
  Run (ev Γ (.JW "_law_lay" [.var i,e] [0])) st (.loc,.J0) (st1.set i (a5 (k,.lst ((layR rs r).map A')))) :=
 iy (rs:=[(.loc,A' r)]) b c (ae d aj) f hk (bN rs) rfl (a rs r g h hl) (.inr rfl)
def Ed(a:Run (ev Γ e) st r st1)(b:Run (execs Γ ss) st1 f st2):Run (execs Γ (.exp e::ss)) st f st2:=f_ (aa a aP) b
abbrev ji(Γ:Tab):Prop:=(∀k:Int,Γ "_law_source" [.lst [],.int k]=a5 (.ok (.own,.tup [fL k 0 1,.lst []])))/\∀(ns:List Int) (c k:Int),Γ "_law_source" [.lst ((ns++[c]).map .int),.int k]=a5 (.ok (.own,.tup [fL (c / 2) 0 (c % 2),.lst (ns.map .int)]))
def Au(h:Kq Pg "_law_source" Ag):ji (J5 Pg (d+1)):=⟨λk=>by rw[cT h _ rfl];show Ah,λns c k=>by rw[cT h _ rfl];show Ai⟩
theorem gI:∀ns:List Int,cV (ns.map U.int)=bD
 |[]=>rfl
 |n::ns=>by change(bD&&cV (ns.map U.int))=bD;rw[gI ns];rfl
def Av(a:ji Γ)(b:st[i]?=a5 (a5 (k0,h)))(d:k0.root=bD)(f:Run (ev Γ e) st (.loc,.int m) st1)(g:st1[i]?=a5 (a5 (k,.lst ((ns++[c]).map .int))))(hk:k.root=bD):
  Run (ev Γ (.JW "_law_source" [.var i,e] [0])) st (.own,fL (c / 2) 0 (c % 2)) (st1.set i (a5 (k,.lst (ns.map .int)))) :=
 iy (rs:=[(.loc,.int m)]) b d (ae f aj) g hk (gI _) rfl (a.2 ns c m) (.inl rfl)
def GI(a:ji Γ)(b:st[i]?=a5 (a5 (k0,g)))(c:k0.root=bD)(d:Run (ev Γ e) st (.loc,.int m) st1)(f:st1[i]?=a5 (a5 (k,.lst [])))(hk:k.root=bD):
  Run (ev Γ (.JW "_law_source" [.var i,e] [0])) st (.own,fL m 0 1) (st1.set i (a5 (k,.lst []))) :=
 iy (rs:=[(.loc,.int m)]) b c (ae d aj) f hk rfl rfl (a.1 m) (.inl rfl)
end
abbrev ua:List S :=
   [.set 6 (.JW "_law_draw" [.var 1,.bi .len [.var 2]] [0]),
   .ite (.cmp .eq (.var 4) (.cst (.int 3)))
    [.set 6 (.bin .mod (.var 5) (.bi .len [.var 2]))]
    [],
   .exp (.JW "_law_lay" [(.var 3),(.JW "_law_row" [(.var 1),(.var 2),(.var 6),(.cmp .gt (.var 4) (.cst (.int 1)))] [0])] [0])]
abbrev ub:List S :=
   [.set 7 (.JW "_law_source" [.var 0,.cst (.int 0)] [0]),
   .exp (.JW "_law_lay" [(.var 3),(.JW "_law_row" [(.var 7),(.var 2),(.JW "_law_draw" [(.var 7),(.bi .len [(.var 2)])] [0]),(.cmp .eq (.var 4) (.cst (.int 2)))] [0])] [0])]
abbrev dF(ns:List Int)(u:U)(ws:List Str)(rs:List Row)(way:Int)(o5 o6 o7:Option (Kd×U)):aw:=[a5 (.io,.lst (ns.map .int)),a5 (.io,u),a5 (.any,.lst (ws.map .str)),a5 (.own,.lst (rs.map A')),a5 (.loc,.int way),o5,o6,o7]
abbrev cF(ws:List Str)(r:Row):Prop:=r.1∈ws/\r.2.Nodup/\(∀y∈r.2,y∈ws)/\r.2.length<=8
abbrev dz(ws:List Str)(rs:List Row):Prop:=(∀r∈rs,cF ws r)/\(rs.map keyOf).Nodup
def dz.lay(h:dz ws rs)(d:cF ws r):dz ws (layR rs r):=by
 unfold layR;split
 .show h
 .rename_i hk;show⟨λx hx=>?_,?_⟩
  .rcases hQ.mp hx with hx|hx
   .show h.1 x hx
   .rw[hY]at hx;subst hx;show d
  .rw[i3];show rr.mpr ⟨h.2,by simp,λa f c b=>by rw[Û,hY]at b;subst b;show λe=>hk (e▸f)⟩
def rQ:(layR rs r).length<=rs.length+1:=by
 unfold layR;split
 .lia
 .simp
def xC(s:bC Γ)(v:mJ Γ)(w:mK Γ){k:Nat}(y:Src T u)(N:T+18<2 ^ 62)(O:0<ws.length)(z:ws.length<1000000)(h:dz ws rs)(hl:rs.length<1000):
  ∃u' a c,Run (execs Γ ua) (dF ns u ws rs way (a5 (.loc,.int (0+(k:Int)))) o6 o7) .nx (dF ns u' ws a way (a5 (.loc,.int (0+(k:Int)))) c o7)/\Src (T+18) u'/\dz ws a/\a.length<=rs.length+1:=by
 have⟨n,f,l,A,o,s1⟩:=dg (st:=dF ns u ws rs way (a5 (.loc,.int (0+(k:Int)))) o6 o7) s (i:=1) (k:=.io) (e:=.bi .len [.var 2]) (m:=((ws.map U.str).length:Nat)) rfl rfl (cC (ae (aF rfl) aj) trivial b_) y ⋯ (by simp;lia) (by simp;lia);rw[c4]at o;have d:∀at_:Int,0<=at_->at_<ws.length->∃u' a c,Run (execs Γ [.exp (.JW "_law_lay" [.var 3,.JW "_law_row" [.var 1,.var 2,.var 6,.cmp .gt (.var 4) (.cst (.int 1))] [0]] [0])]) (dF ns f ws rs way (a5 (.loc,.int (0+(k:Int)))) (a5 (.loc,.int at_)) o7) .nx (dF ns u' ws a way (a5 (.loc,.int (0+(k:Int)))) c o7)/\Src (T+18) u'/\dz ws a/\a.length<=rs.length+1:=by
  intro at_ a0 B;have⟨r,u2,q,C,D,G,H,I⟩:=Ar (st:=dF ns f ws rs way (a5 (.loc,.int (0+(k:Int)))) (a5 (.loc,.int at_)) o7) (st1:=dF ns f ws rs way (a5 (.loc,.int (0+(k:Int)))) (a5 (.loc,.int at_)) o7) (st2:=dF ns f ws rs way (a5 (.loc,.int (0+(k:Int)))) (a5 (.loc,.int at_)) o7) v (i:=1) (j:=2) (e:=.var 6) (t:=.cmp .gt (.var 4) (.cst (.int 1))) (k0:=.io) (k:=.io) (kw:=.any) (b:=cK (1<way)) rfl rfl rfl (.inr rfl) (af rfl) (fG (af rfl) ai trivial (jb rfl)) rfl rfl s1 ⋯ z a0 B;have J:cF ws r:=⟨l' C,D,G,H⟩
  show⟨u2,layR rs r,_,Ed (As w (k0:=.own) (k:=.own) (rs:=rs) rfl rfl q rfl rfl ⋯ (λx L=>by have:=(h.1 x L).2.2.2;lia) hl) av,I.up ⋯,h.lay J,rQ⟩
 by_cases p:way=3
 .subst p;have⟨u',a,c,q,g⟩:=d ((0+(k:Int)) % (ws.length:Nat)) (R3 _ ⋯) (S_ _ ⋯);show⟨u',a,c,ay l aH (dH (aN (af rfl) ai trivial (cq rfl)) (ay (bG (af rfl) (cC (ae (aF rfl) aj) trivial b_) trivial (eL (by simp;lia))) aH av) ?_),g⟩;rw[c4];show q
 .have⟨u',a,c,q,g⟩:=d n A o;show⟨u',a,c,ay l aH (aZ (aN (af rfl) ai trivial (cq (by simp[p]))) av q),g⟩
def xD(o:ji Γ)(p:bC Γ)(s:mJ Γ)(w:mK Γ)(L:0<ws.length)(y:ws.length<1000000)(d:dz ws rs)(hl:rs.length<1000):
  ∃a z,Run (execs Γ ub) (dF (ns++[c]) u ws rs way o5 o6 o7) .nx (dF ns u ws a way o5 o6 z)/\dz ws a/\a.length<=rs.length+1:=by
 have f:=Av (st:=dF (ns++[c]) u ws rs way o5 o6 o7) (st1:=dF (ns++[c]) u ws rs way o5 o6 o7) o (i:=0) (k0:=.io) (k:=.io) (e:=.cst (.int 0)) (m:=0) rfl rfl ai rfl rfl;have g:Src 0 (fL (c / 2) 0 (c % 2)):=⟨_,_,_,rfl,⋯,⋯⟩
 generalize fL (c / 2) 0 (c % 2)=v at f g;have⟨n,h,A,B,l,s1⟩:=dg (st:=dF ns u ws rs way o5 o6 (a5 (.own,v))) p (i:=7) (k:=.own) (e:=.bi .len [.var 2]) (m:=((ws.map U.str).length:Nat)) rfl rfl (cC (ae (aF rfl) aj) trivial b_) g ⋯ (by simp;lia) (by simp;lia);rw[c4]at l;have⟨r,u2,q,C,D,G,H,N⟩:=Ar (st:=dF ns u ws rs way o5 o6 (a5 (.own,v))) (st1:=dF ns u ws rs way o5 o6 (a5 (.own,h))) (st2:=dF ns u ws rs way o5 o6 (a5 (.own,h))) s (i:=7) (j:=2) (t:=.cmp .eq (.var 4) (.cst (.int 2))) (k0:=.own) (k:=.own) (kw:=.any) (b:=(way==2)) rfl rfl rfl (.inr rfl) A (fG (af rfl) ai trivial (cq rfl)) rfl rfl s1 ⋯ y B l;have I:cF ws r:=⟨l' C,D,G,H⟩
 show⟨layR rs r,a5 (.own,u2),ay (st2:=dF ns u ws rs way o5 o6 (a5 (.own,v))) f bh (Ed (As w (k0:=.own) (k:=.own) (rs:=rs) rfl rfl q rfl rfl ⋯ (λx J=>by have:=(d.1 x J).2.2.2;lia) hl) av),d.lay I,rQ⟩
abbrev uc:E:=.and [.cmp .gt (.bi .len [.var 0]) (.cst (.int 0)),.cmp .lt (.bi .len [.var 3]) (.cst (.int 60))]
def oz:Run (J' Γ uc) (dF ns u ws rs way o5 o6 o7) (cK (0<ns.length)&&cK (rs.length<60)) (dF ns u ws rs way o5 o6 o7):=by
 show iY (pU (aN (cC (ae (dI rfl) aj) ∅ b_) ai trivial (jb ?_)) λ_=>dw (aN (cC (ae (aC rfl) aj) ∅ b_) ai trivial (D6 ?_)))
 .rw[c4];show decide_eq_decide.mpr ⋯
 .rw[c4];show decide_eq_decide.mpr ⋯
def ud(o:ji Γ)(p:bC Γ)(q:mJ Γ)(r:mK Γ)(s:0<ws.length)(t:ws.length<1000000):
  ∀(k f:Nat) (ns:List Int) (rs:List Row) (o7:Option (Kd×U)),ns.length=k->k<f->dz ws rs->rs.length<=60->∃d b i,Run (gJ (J' Γ uc) (execs Γ ub) f) (dF ns u ws rs way o5 o6 o7) .nx (dF d u ws b way o5 o6 i)/\dz ws b/\b.length<=60/\d.length<=ns.length:=by
 intro k;induction k with
 |zero =>
  intro f ns rs o7 hk v h hl;obtain⟨f,rfl⟩:∃g,f=g+1:=⟨f - 1,⋯⟩
  have a:=oz (Γ:=Γ) (ns:=ns) (u:=u) (ws:=ws) (rs:=rs) (way:=way) (o5:=o5) (o6:=o6) (o7:=o7);rw[ŧ (show ¬0<ns.length by lia)]at a;show⟨ns,rs,o7,vP a,h,hl,hV _⟩
 |succ k w =>
  intro f ns rs o7 hk v h hl;obtain⟨f,rfl⟩:∃g,f=g+1:=⟨f - 1,⋯⟩
  have a:=oz (Γ:=Γ) (ns:=ns) (u:=u) (ws:=ws) (rs:=rs) (way:=way) (o5:=o5) (o6:=o6) (o7:=o7);rw[Ũ (show 0<ns.length by lia)]at a;by_cases m:rs.length<60
  .rw[Ũ m]at a;obtain⟨ms,c,rfl⟩:∃ms c,ns=ms++[c]:=by
    have n:ns≠[]:=λe=>by rw[e]at hk;cases hk
    show⟨ns.dropLast,ns.getLast n,(W9 n).symm⟩
   have x:ms.length=k:=by simpa using hk
   have⟨j,l,y,b1,C⟩:=xD (u:=u) (ws:=ws) (way:=way) (o5:=o5) (o6:=o6) (o7:=o7) (ns:=ms) (c:=c) o p q r s t h ⋯;have⟨d,b,i,z,A,B,D⟩:=w f ms j l x ⋯ b1 ⋯;show⟨d,b,i,zZ a y z,A,B,by simp;lia⟩
  .rw[ŧ m]at a;show⟨ns,rs,o7,vP a,h,hl,hV _⟩
abbrev Ee:List S :=
   [.set 3 (.lst []),
    .set 4 (.JW "_law_draw" [.var 1,.cst (.int 4)] [0]),
    .J9 cc [5] .Lb [.JW "_law_draw" [.var 1,.cst (.int 25)] [0]] ua,
    .OL uc ub,
    .ret (.bi .tuple [(.var 3)])]
abbrev p_:Fn:=⟨"_law_book",3,8,.Na [0,1]::Ee⟩
def ue(z:ji Γ)(g:bC Γ)(n:mJ Γ)(o:mK Γ){ns:List Int}(p:Src T u)(O:T+500<2 ^ 62)(Q:ns.length<1000)(s:0<ws.length)(v:ws.length<1000000):
  ∃(rs:List Row) (c:List Int) (u':U),gK Γ p_ [0,1] Ee [.lst (ns.map .int),u,.lst (ws.map .str)]=a5 (.ok (.loc,.tup [.tup (rs.map A'),.lst (c.map .int),u']))/\dz ws rs/\rs.length<=60/\c.length<=ns.length/\Src (T+500) u':=by
 have A:(60:Nat)<cL:=by decide
 obtain⟨way,B,C,_,_,s1⟩:=dg (st:=[a5 (.io,.lst (ns.map .int)),a5 (.io,u),a5 (.any,.lst (ws.map .str)),a5 (.own,.lst []),b6,b6,b6,b6]) g (i:=1) (k:=.io) (e:=.cst (.int 4)) (m:=4) rfl rfl ai p ⋯ ⋯ ⋯;have⟨m,u2,D,m0,m1,s2⟩:=dg (st:=dF ns B ws [] way b6 b6 b6) g (i:=1) (k:=.io) (e:=.cst (.int 25)) (m:=25) rfl rfl ai s1 ⋯ ⋯ ⋯;have⟨m,rfl⟩:=tj m0;obtain⟨st',G,a,b,o5,o6,rfl,s3,b3,w,_⟩:=bM (rs:=[(.loc,.int (m:Nat))]) (t:=cc) (is:=[5]) (body:=execs Γ ua) (λi:Nat=>(Kd.loc,U.int (0+(i:Int)))) (λd r st=>∃(a:U) (b:List Row) (o5 o6:Option (Kd×U)),st=dF ns a ws b way o5 o6 b6/\Src (T+2+18 * (d.length:Nat)) a/\dz ws b/\b.length<=d.length/\d.length+r.length=m)
  (λd r st _=>trivial) (λd y r st h=>by
   have⟨a,b,o5,o6,rfl,s3,b3,w,H⟩:=h;simp only[js]at H;have⟨I,j,Y,q,s4,b4,x⟩:=xC (ns:=ns) (way:=way) (k:=y) (o6:=o6) (o7:=b6) g n o s3 ⋯ s v b3 ⋯;show⟨dF ns a ws b way (a5 (.loc,.int (0+(y:Int)))) o6 b6,_,aH,q,I,j,_,_,rfl,s4.up (by simp;lia),b4,?_,?_⟩
   .simp;lia
   .simp;lia) (gs m) [] (dF ns u2 ws [] way b6 b6 b6) ⟨u2,[],b6,b6,rfl,s2.up (by simp;lia),⟨by simp,by simp⟩,by simp,by simp⟩
 rw[i0,vu]at s3 w;have⟨c,l,J,L,b4,x,N⟩:=ud z g n o (u:=a) (way:=way) (o5:=o5) (o6:=o6) s v ns.length fuel ns b b6 rfl (by unfold fuel;lia) b3 ⋯;show⟨l,c,a,?_,b4,x,N,s3.up ⋯⟩;show cy (st0:=[a5 (.io,.lst (ns.map .int)),a5 (.io,u),a5 (.any,.lst (ws.map .str)),b6,b6,b6,b6,b6]) (f:=.rt .loc (.tup (l.map A'))) (st:=dF c a ws l way o5 o6 J) rfl ?_ ?_ rfl rfl
 .obtain⟨_,_,_,rfl,_⟩:=p;rfl
 show ay (bY aj trivial aL (ke _)) bh (ay C aH ?_);show cE (rs:=[(.loc,.int (m:Nat))]) (ae D aj) trivial (iu ⋯) rfl G (z_ L ?_);show bH (cC (ae (aC rfl) aj) ∅ rfl) da
end TM
namespace TM
open PySem L2 Kj
theorem Aw{cond:M Bool}(it:α->Kd×U)(I:List α->List α->List U->aw->Prop)(hs:∀d r a st,I d r a st->bc src st)
  (ý:∀d y q a st,I d (y::q) a st->∃s1 s2 s3 s4 r u,Run (dG t (gs k) (it y)) (i1 k b6++st) () s1/\Run cond s1 bD s2/\Run elt s2 r s3/\Run (lift r) s3 u s4/\I (d++[y]) q (a++[u]) (s4.drop k)) :
  ∀(b d:List α) (acc:List U) (st:aw),I d b acc st->acc.length+b.length<=cL->∃us st',Run (bV k t cond elt src (b.map it) acc) st us st'/\I (d++b) [] us st'
 |[],d,acc,st,h,_=>⟨acc,st,vJ (hs _ _ _ _ h),by rw[t4];show h⟩
 |y::b,d,acc,st,h,hl=>by
  rw[js]at hl;have⟨s1,s2,s3,s4,r,u,c,e,f,g,i⟩:=ý d y b acc st h;have⟨us,st',j,l⟩:=Aw it I hs ý b (d++[y]) (acc++[u]) _ i (by simp;lia);show⟨us,st',pS (hs _ _ _ _ h) c e f g ⋯ j,by simpa using l⟩
def rR(a:0<=n)(b:n<26):∃c,Ky small.cps.toList n=a5 c:=by
 have⟨k,rfl⟩:=tj a;have hl:small.cps.toList.length=26:=by decide
 show⟨small.cps.toList[k]'⋯,cY (by simp)⟩
def Ax(g:bC Γ)(j:Src T u)(w:T+8<2 ^ 62):
  ∃x u',Run (ev Γ (.OJ .join (.cst (.str "")) [.comp 1 cc .Lb [.cst (.int 8)] [] (.idx (.var 2) (.JW "_law_draw" [.var 1,.cst (.int 26)] [0]))])) (a5 (.io,u)::a5 (.loc,.str small)::rest) (.loc,.str x) (a5 (.io,u')::a5 (.loc,.str small)::rest)/\x.length=8/\Src (T+8) u':=by
 have l:(100:Nat)<=cL:=by decide
 obtain⟨us,st',f,u',b,rfl,rfl,hl,hs,_⟩:=Aw (k:=1) (t:=cc) (cond:=ba Γ []) (elt:=ev Γ (.idx (.var 2) (.JW "_law_draw" [.var 1,.cst (.int 26)] [0]))) (src:=[(.loc,.int (8:Nat))]) (λi:Nat=>(Kd.loc,U.int (0+(i:Int))))
  (λd r a st=>∃(u':U) (b:List Nat),st=a5 (.io,u')::a5 (.loc,.str small)::rest/\a=(b.map Kj.one).map U.str/\b.length=d.length/\Src (T+(d.length:Nat)) u'/\d.length+r.length=8) (λ_ _ _ _ _=>trivial)
  (λd y q a st h=>by
   have⟨u',b,rfl,rfl,hl,hs,o⟩:=h;rw[js]at o;have⟨n,u2,r,p,s,s2⟩:=dg (st:=a5 (.loc,.int (0+(y:Int)))::a5 (.io,u')::a5 (.loc,.str small)::rest) g (i:=1) (k:=.io) (e:=.cst (.int 26)) (m:=26) rfl rfl ai hs ⋯ ⋯ ⋯;have⟨c,f⟩:=rR p s;show⟨_,_,_,_,_,_,eh aH,iZ,aO (af rfl) r trivial (oV rC f),aK,u2,b++[c],rfl,by simp,by simp[hl],s2.up (by simp;lia),by simp;lia⟩)
  (gs 8) [] [] (a5 (.io,u)::a5 (.loc,.str small)::rest) ⟨u,[],rfl,rfl,rfl,by simpa using j,by simp⟩ (by simp;lia)
 rw[i0,vu]at hl hs;have v:m_ .join (.str "") [(.own,.lst ((b.map Kj.one).map U.str))]=a5 (.loc,.str (Vf mN (b.map Kj.one))):=by
  change(strsOf ((b.map Kj.one).map U.str)).bind _=_;rw[dP];change(if ě mN (b.map Kj.one)=bD then _ else _)=_;rw[ť (Kj.rB b ⋯)];rfl
 show⟨Vf mN (b.map Kj.one),u',zM ai (ae (dc (ae ai aj) trivial (iu (n:=8) ⋯) f) aj) trivial v,?_,hs⟩;change(Vf mN (b.map Kj.one)).cps.size=8;rw[<-hU,Kj.join_ones,hl]
abbrev Ay:List S:=[.app 7 (.ite (.cmp .eq (.var 10) (.cst (.int 1))) (.var 9) (.bin .add (.bin .add (.var 9) (.cst (.str "/"))) (.bi .str [.var 10])))]
abbrev Az:List S :=
   .ite (.cmp .eq (.var 4) (.cst (.int 3)))
    [.set 10 (.bin .add (.cst (.int 1)) (.JW "_law_draw" [.var 0,.cst (.int 99)] [0]))]
    []::Ay
abbrev AA:List S :=
   .ite (.cmp .gt (.var 4) (.cst (.int 1)))
    [.set 9 (.bin .add (.idx (.var 1) (.bin .mod (.bin .add (.var 6) (.bin .mul (.cst (.int 7)) (.var 8))) (.cst (.int 26)))) (.Ob (.var 3) [.cst (.int 1)] [.var 5])),
    .set 10 (.cst (.int 1))]
    []::Az
abbrev uf:List S :=
   .set 9 (.Ob (.var 3) [] [.bin .add (.cst (.int 1)) (.bin .mod (.var 8) (.cst (.int 8)))]) ::
   .set 10 (.bin .add (.cst (.int 1)) (.bin .Po (.var 8) (.cst (.int 8)))) ::
   .ite (.cmp .eq (.var 4) (.cst (.int 1)))
    [.set 9 (.Ob (.var 3) [] [.var 5]),
    .set 10 (.bin .add (.cst (.int 1)) (.var 8))]
    []::AA
abbrev AB:List S :=
   [.set 1 (.cst (.str "abcdefghijklmnopqrstuvwxyz")),
    .set 2 (.bin .add (.cst (.int 1)) (.JW "_law_draw" [.var 0,.idx (.lst [.cst (.int 8),.cst (.int 16),.cst (.int 24)]) (.JW "_law_draw" [.var 0,.cst (.int 3)] [0])] [0])),
    .set 3 (.OJ .join (.cst (.str "")) [.comp 1 cc .Lb [.cst (.int 8)] [] (.idx (.var 2) (.JW "_law_draw" [.var 1,.cst (.int 26)] [0]))]),
    .set 4 (.JW "_law_draw" [.var 0,.cst (.int 4)] [0]),
    .set 5 (.bin .add (.cst (.int 1)) (.JW "_law_draw" [.var 0,.cst (.int 8)] [0])),
    .set 6 (.JW "_law_draw" [.var 0,.cst (.int 26)] [0]),
    .set 7 (.lst []),
    .J9 cc [8] .Lb [.var 2] uf,
    .ret (.var 7)]
abbrev mL:Fn:=⟨"_law_words",1,11,.Na [0]::AB⟩
abbrev jR(u:U)(many:Int)(base:Str)(way size first:Int)(acc:List Str)(o8 o9 o10:Option (Kd×U)):aw:=[a5 (.io,u),a5 (.loc,.str small),a5 (.loc,.int many),a5 (.loc,.str base),a5 (.loc,.int way),a5 (.loc,.int size),a5 (.loc,.int first),a5 (.own,.lst (acc.map .str)),o8,o9,o10]
def kS(h:x.length<=cL):qP (k,.str x) lo a=a5 (.loc,.str (PySem.StrLaws.sliceText x lo a)):=by
 change(if x.length<=cL then _ else _)=_;rw[ť h]
def oA(e:acc.length<1000)(f:w.length<=9)(g:1<=s)(s1:s<=99):
  ∃x:Str,x.length<=20/\Run (execs Γ Ay) (jR u many base way size first acc o8 (a5 (.loc,.str w)) (a5 (.loc,.int s))) .nx (jR u many base way size first (acc++[x]) o8 (a5 (.loc,.str w)) (a5 (.loc,.int s))):=by
 have b:(1000:Nat)<=cL:=by decide
 by_cases h:s=1
 .subst h;show⟨w,⋯,gb (k:=.own) (k':=.own) rfl (zN (aN (af rfl) ai trivial (cq rfl)) (af rfl)) aK rfl rfl (by simp;lia) ?_⟩;rw[show acc.map U.str++[U.str w]=(acc++[w]).map U.str by simp];show av
 .have i:=xv (k:=s) ⋯ s1;have c:L5 .str [(.loc,.int s)]=a5 (.loc,.str (ye s)):=by
   simp only[L5,iL,B3];rw[ť (by
    have:s.natAbs<2 ^ 7:=by lia
    have d:s.natAbs≠0:=by lia
    have:=(Nat.log2_lt d).mpr this;lia)]
   rfl
  have a:(w++("/":Str)).length=w.length+1:=by rw[len_list,len_list,app_list,gc];rfl
  show⟨w++("/":Str)++ye s,by rw[len_list,app_list,gc,<-len_list,<-len_list,a];lia,gb (k:=.own) (k':=.own) rfl (zO (aN (af rfl) ai trivial (cq (by simp[h]))) (bG (bG (af rfl) ai trivial (pT (by change w.length+1<=cL;lia))) (cC (ae (af rfl) aj) trivial c) trivial (pT (by rw[a];lia)))) aK rfl rfl (by simp;lia) ?_⟩;rw[show acc.map U.str++[U.str (w++("/":Str)++ye s)]=(acc++[w++("/":Str)++ye s]).map U.str by simp];show av
def oB(g:bC Γ)(b:Src T u)(p:T+1<2 ^ 62)(c:acc.length<1000)(d:w.length<=9)(j:1<=s)(s1:s<=99):
  ∃u' x o9 o10,Run (execs Γ Az) (jR u many base way size first acc o8 (a5 (.loc,.str w)) (a5 (.loc,.int s))) .nx (jR u' many base way size first (acc++[x]) o8 o9 o10)/\Src (T+1) u'/\x.length<=20:=by
 by_cases h:way=3
 .subst h;have⟨n,f,l,r,t,o⟩:=dg (st:=jR u many base 3 size first acc o8 (a5 (.loc,.str w)) (a5 (.loc,.int s))) g (i:=0) (k:=.io) (e:=.cst (.int 99)) (m:=99) rfl rfl ai b ⋯ ⋯ ⋯;have⟨x,a,q⟩:=oA (Γ:=Γ) (u:=f) (many:=many) (base:=base) (way:=3) (size:=size) (first:=first) (acc:=acc) (o8:=o8) (w:=w) (s:=1+n) c d ⋯ ⋯;show⟨f,x,_,_,dH (aN (af rfl) ai trivial (cq rfl)) (ay (bG ai l trivial cG) aH av) q,o,a⟩
 .have⟨x,a,q⟩:=oA (Γ:=Γ) (u:=u) (many:=many) (base:=base) (way:=way) (size:=size) (first:=first) (acc:=acc) (o8:=o8) (w:=w) (s:=s) c d j s1;show⟨u,x,_,_,aZ (aN (af rfl) ai trivial (cq (by simp[h]))) av q,b.up ⋯,a⟩
def oC(a:bC Γ){k:Nat}(b:Src T u)(d:T+1<2 ^ 62)(e:acc.length<1000)(f:w.length<=9)(g:1<=s)(s1:s<=99)(p:base.length=8)(i:1<=size)(r:size<=8)(t:0<=first)(v:first<26)(hk:k<1000):
  ∃u' x o9 o10,Run (execs Γ AA) (jR u many base way size first acc (a5 (.loc,.int (0+(k:Int)))) (a5 (.loc,.str w)) (a5 (.loc,.int s))) .nx (jR u' many base way size first (acc++[x]) (a5 (.loc,.int (0+(k:Int)))) o9 o10)/\Src (T+1) u'/\x.length<=20:=by
 have j:(1000:Nat)<=cL:=by decide
 by_cases h:1<way
 .have l:0<=(first+7 * (0+(k:Int))) % 26:=R3 _ ⋯;have m:(first+7 * (0+(k:Int))) % 26<26:=S_ _ ⋯;have⟨c,n⟩:=rR l m;have y:=len_list base;have z:(PySem.StrLaws.sliceText base (a5 1) (a5 size)).length<=8:=by
   rw[PySem.StrLaws.sliceText_plain ⟨⋯,i,⋯⟩,len_list];simp;lia
  have MT:(Kj.one c).length=1:=rfl;have o:(Kj.one c++PySem.StrLaws.sliceText base (a5 1) (a5 size)).length<=9:=by rw[len_list,app_list,gc,<-len_list,<-len_list];lia
  have⟨u',x,o9,o10,q,hs⟩:=oB (Γ:=Γ) a (u:=u) (many:=many) (base:=base) (way:=way) (size:=size) (first:=first) (acc:=acc) (o8:=a5 (.loc,.int (0+(k:Int)))) (w:=Kj.one c++PySem.StrLaws.sliceText base (a5 1) (a5 size)) (s:=1) b d e o ⋯ ⋯;show⟨u',x,o9,o10,dH (aN (af rfl) ai trivial (jb (by simp[h]))) (ay (bG (aO (af rfl) (bG (bG (af rfl) (bG ai (af rfl) trivial (kZ ⋯)) trivial cG) ai trivial (eL ⋯)) trivial (oV rC n)) (rq (af rfl) (oj ai) (oj (af rfl)) trivial (kS ⋯)) trivial (pT ⋯)) aH (ay ai aH av)) q,hs⟩
 .have⟨u',x,o9,o10,q,hs⟩:=oB (Γ:=Γ) a (u:=u) (many:=many) (base:=base) (way:=way) (size:=size) (first:=first) (acc:=acc) (o8:=a5 (.loc,.int (0+(k:Int)))) (w:=w) (s:=s) b d e f g s1;show⟨u',x,o9,o10,aZ (aN (af rfl) ai trivial (jb (by simp[h]))) av q,hs⟩
def AD(a:0<=j)(b:x.length=8):(PySem.StrLaws.sliceText x b6 (a5 j)).length<=9:=by
 have⟨j,rfl⟩:=tj a;have h:=len_list (PySem.StrLaws.sliceText x b6 (a5 (j:Int)));have hl:=len_list x;rw[GB]at h;rw[h,zy];lia
def xE(b:bC Γ){k:Nat}(c:Src T u)(d:T+1<2 ^ 62)(e:acc.length<1000)(a:base.length=8)(f:1<=size)(g:size<=8)(i:0<=first)(j:first<26)(hk:k<98):
  ∃u' x l m,Run (execs Γ uf) (jR u many base way size first acc (a5 (.loc,.int (0+(k:Int)))) o9 o10) .nx (jR u' many base way size first (acc++[x]) (a5 (.loc,.int (0+(k:Int)))) l m)/\Src (T+1) u'/\x.length<=20:=by
 have n:(1000:Nat)<=cL:=by decide
 have o:0<=(0+(k:Int)) % 8:=R3 _ ⋯;by_cases h:way=1
 .have⟨u',x,o9,o10,q,hs⟩:=oC (Γ:=Γ) b (u:=u) (many:=many) (base:=base) (way:=way) (size:=size) (first:=first) (acc:=acc) (k:=k) (w:=PySem.StrLaws.sliceText base b6 (a5 size)) (s:=1+(0+(k:Int))) c d e (AD ⋯ a) ⋯ ⋯ a f g i j ⋯;show⟨u',x,o9,o10,ay (rq (af rfl) vF (oj (bG ai (bG (af rfl) ai trivial (eL ⋯)) trivial cG)) trivial (kS ⋯)) aH (ay (bG ai (bG (af rfl) ai trivial (mq ⋯)) trivial cG) aH (dH (aN (af rfl) ai trivial (cq (by simp[h]))) (ay (rq (af rfl) vF (oj (af rfl)) trivial (kS ⋯)) aH (ay (bG ai (af rfl) trivial cG) aH av)) q)),hs⟩
 .have⟨u',x,o9,o10,q,hs⟩:=oC (Γ:=Γ) b (u:=u) (many:=many) (base:=base) (way:=way) (size:=size) (first:=first) (acc:=acc) (k:=k) (w:=PySem.StrLaws.sliceText base b6 (a5 (1+(0+(k:Int)) % 8))) (s:=1+(0+(k:Int)) / 8) c d e (AD ⋯ a) ⋯ ⋯ a f g i j ⋯;show⟨u',x,o9,o10,ay (rq (af rfl) vF (oj (bG ai (bG (af rfl) ai trivial (eL ⋯)) trivial cG)) trivial (kS ⋯)) aH (ay (bG ai (bG (af rfl) ai trivial (mq ⋯)) trivial cG) aH (aZ (aN (af rfl) ai trivial (cq (by simp[h]))) av q)),hs⟩
def JM(a:0<=n)(b:n<3):∃m:Int,8<=m/\m<=24/\Ky [U.int 8,.int 16,.int 24] n=a5 (.int m):=by
 have⟨k,rfl⟩:=tj a;have:k=0\/k=1\/k=2:=by lia
 rcases this with rfl|rfl|rfl
 .show⟨8,⋯,⋯,rfl⟩
 .show⟨16,⋯,⋯,rfl⟩
 .show⟨24,⋯,⋯,rfl⟩
def xF(a:bC Γ)(l:Src T u)(hT:T+100<2 ^ 62):
  ∃(ws:List Str) (u':U),gK Γ mL [0] AB [u]=a5 (.ok (.own,.tup [.lst (ws.map .str),u']))/\1<=ws.length/\ws.length<=24/\Src (T+100) u'/\∀x∈ws,x.length<=20:=by
 have A:(1000:Nat)<=cL:=by decide
 let S1:U->aw:=λv=>[a5 (.io,v),a5 (.loc,.str small),b6,b6,b6,b6,b6,b6,b6,b6,b6]
 have⟨i,B,C,D,G,s1⟩:=dg (st:=S1 u) a (i:=0) (k:=.io) (e:=.cst (.int 3)) (m:=3) rfl rfl ai l ⋯ ⋯ ⋯;have⟨m,m0,m1,em⟩:=JM D G;have⟨n,u2,H,n0,n1,s2⟩:=Al (st:=S1 u) (st1:=S1 B) a (i:=0) (k:=.io) (k0:=.io) (e:=.idx (.lst [.cst (.int 8),.cst (.int 16),.cst (.int 24)]) (.JW "_law_draw" [.var 0,.cst (.int 3)] [0])) (m:=m) rfl rfl (aO (x:=(.own,.lst [U.int 8,.int 16,.int 24])) (bY (ae ai (ae ai (ae ai aj))) trivial (aA aK (aA aK (aA aK aL))) (by change 3<=cL;lia)) C trivial (bL em)) rfl rfl s1 ⋯ ⋯ ⋯;have⟨base,b,I,J,s3⟩:=Ax (rest:=[a5 (.loc,.int (1+n)),b6,b6,b6,b6,b6,b6,b6,b6]) a s2 ⋯;obtain⟨way,g,L,_,_,s4⟩:=dg (st:=[a5 (.io,b),a5 (.loc,.str small),a5 (.loc,.int (1+n)),a5 (.loc,.str base),b6,b6,b6,b6,b6,b6,b6]) a (i:=0) (k:=.io) (e:=.cst (.int 4)) (m:=4) rfl rfl ai s3 ⋯ ⋯ ⋯;have⟨size,N,O,z0,z1,Q⟩:=dg (st:=[a5 (.io,g),a5 (.loc,.str small),a5 (.loc,.int (1+n)),a5 (.loc,.str base),a5 (.loc,.int way),b6,b6,b6,b6,b6,b6]) a (i:=0) (k:=.io) (e:=.cst (.int 8)) (m:=8) rfl rfl ai s4 ⋯ ⋯ ⋯;have⟨first,o,Y,f0,f1,s6⟩:=dg (st:=[a5 (.io,N),a5 (.loc,.str small),a5 (.loc,.int (1+n)),a5 (.loc,.str base),a5 (.loc,.int way),a5 (.loc,.int (1+size)),b6,b6,b6,b6,b6]) a (i:=0) (k:=.io) (e:=.cst (.int 26)) (m:=26) rfl rfl ai Q ⋯ ⋯ ⋯;have⟨many,RQ⟩:=tj (show 0<=1+n by lia);obtain⟨st',hf,p,ws,o8,o9,o10,rfl,s,l7,b7,_⟩:=bM (rs:=[(.loc,.int (1+n))]) (t:=cc) (is:=[8]) (body:=execs Γ uf) (λi:Nat=>(Kd.loc,U.int (0+(i:Int)))) (λd r st=>∃(b:U) (ws:List Str) (o8 o9 o10:Option (Kd×U)),st=jR b (1+n) base way (1+size) first ws o8 o9 o10/\Src (T+13+(d.length:Nat)) b/\ws.length=d.length/\(∀x∈ws,x.length<=20)/\∃j,d=Ņ 0 j/\r=Ņ j (many - j)/\j<=many)
  (λd r st _=>trivial) (λd y r st h=>by
   have⟨b,ws,o8,o9,o10,rfl,s3,w,b3,j,rfl,c,hj⟩:=h;have ab:j<many:=by
    rcases Nat.lt_or_ge j many with z|z
    .show z
    .rw[show many - j=0 by lia]at c;cases c
   rw[show many - j=(many - (j+1))+1 by lia,List.range'_succ]at c;cases c;rw[List.length_range']at s3 w;have⟨g,x,LH,NK,q,s4,hx⟩:=xE (Γ:=Γ) a (u:=b) (many:=1+n) (base:=base) (way:=way) (size:=1+size) (first:=first) (acc:=ws) (k:=y) (o9:=o9) (o10:=o10) s3 ⋯ ⋯ J ⋯ ⋯ f0 f1 ⋯;show⟨jR b (1+n) base way (1+size) first ws (a5 (.loc,.int (0+(y:Int)))) o9 o10,_,aH,q,g,ws++[x],_,_,_,rfl,s4.up (by simp;lia),by simp[w],λz hz=>(hQ.mp hz).elim (b3 z) λhz=>by rw[hY.mp hz];show hx,y+1,by have:=@List.range'_1_concat 0 y;simpa using this.symm,rfl,⋯⟩) (gs many) [] (jR o (1+n) base way (1+size) first [] b6 b6 b6) ⟨o,[],b6,b6,b6,rfl,s6.up (by simp;lia),by simp,λ_ h=>(nomatch h),0,rfl,by rw[List.range_eq_range'];simp,⋯⟩
 rw[i0,vu]at s l7;show⟨ws,p,?_,⋯,⋯,s.up ⋯,b7⟩;show cy (st0:=[a5 (.io,u),b6,b6,b6,b6,b6,b6,b6,b6,b6,b6]) (f:=.rt .own (.lst (ws.map .str))) (st:=(jR p (1+n) base way (1+size) first ws o8 o9 o10).set 7 b6) rfl ?_ ?_ rfl rfl
 .obtain⟨_,_,_,rfl,_⟩:=l;rfl
 show ay (st2:=S1 u) ai aH (ay (bG ai H trivial cG) aH (ay I aH (ay L aH (ay (bG ai O trivial cG) aH (ay Y aH (ay (bY aj trivial aL (ke _)) bh ?_))))));show cE (rs:=[(.loc,.int (1+n))]) (xs:=(gs many).map λi:Nat=>(Kd.loc,U.int (0+(i:Int)))) (ae (af rfl) aj) trivial (by rw[RQ];show iu ⋯) rfl hf (bH (aC rfl) (mn rfl))
abbrev vT(Γ:Tab):Prop:=∀(T:Int) (u:U),Src T u->T+100<2 ^ 62->∃(ws:List Str) (u':U),Γ "_law_words" [u]=a5 (.ok (.own,.tup [.lst (ws.map .str),u']))/\1<=ws.length/\ws.length<=24/\Src (T+100) u'/\∀x∈ws,x.length<=20
def Du(a:bC (J5 Pg d))(h:Kq Pg "_law_words" mL):vT (J5 Pg (d+1)):=by
 intro T u b c;have⟨ws,u',e,r⟩:=xF a b c;show⟨ws,u',by rw[cT h _ rfl];show e,r⟩
abbrev eO(ks:List Str)(x:Str):List Str:=if x∈ks then ks else ks++[x]
def AE:dput ks (ks.map f) x u=(eO ks x,(eO ks x).map λk=>if k=x then u else f k):=by
 unfold dput eO;by_cases h:x∈ks
 .rw[ť h,ť h];congr 1
  clear h;induction ks with
  |nil=>rfl
  |cons k ks a=>rw[d4,P7,d4,d4,a]
 .rw[Ŧ h,Ŧ h];congr 1
  rw[i3,Û,ť rfl];congr 1
  show t8 λk hk=>?_;rw[Ŧ (λe:k=x=>h (e▸hk))]
def ug(h:ks.Nodup):(eO ks x).Nodup:=by
 unfold eO;split
 .show h
 .rename_i d;show rr.mpr ⟨h,by simp,λa f c b=>by rw[hY]at b;subst b;show λe=>d (e▸f)⟩
def eC:y∈eO ks x↔y∈ks\/y=x:=by
 unfold eO;split
 .rename_i h;show⟨.inl,λz=>z.elim id λe=>e▸h⟩
 .simp
def Dv(h:ks.length<1000):eE (.str x) u (.JU ks (ks.map f))=a5 (.JU (eO ks x) ((eO ks x).map λk=>if k=x then u else f k)):=by
 rw[vN h,AE]
abbrev Ef:List S:=[.put 1 (.var 4) (.cst (.bl bD))]
abbrev AF:List S:=[.put 1 (.var 2) (.cst (.bl bD)),.J9 cc [4] .seq [.var 3] Ef]
abbrev AG:Fn:=⟨"_law_all",1,5,[.set 1 (.LM cc),.J9 bD [2,3] .seq [.var 0] AF,.ret (.bi .sorted [.var 1])]⟩
abbrev kG(ks:List Str):U:=.JU ks (ks.map λ_=>.bl bD)
def jj(h:ks.length<1000):eE (.str x) (.bl bD) (kG ks)=a5 (kG (eO ks x)):=by
 unfold kG;rw[Dv h];congr 3
 funext k
 split<;>rfl
abbrev gn(ws ks:List Str):Prop:=ks.Nodup/\∀x∈ks,x∈ws
def gn.ins(h:gn ws ks)(a:x∈ws):gn ws (eO ks x):=⟨ug h.1,λy b=>(eC.mp b).elim (h.2 y) λe=>e▸a⟩
def gn.len(h:gn ws ks):ks.length<=ws.length:=fc h.1 h.2
abbrev qa(rs:List Row)(ks:List Str)(o2 o3 o4:Option (Kd×U)):aw:=[a5 (.loc,.tup (rs.map A')),a5 (.own,kG ks),o2,o3,o4]
def jk{rs:List Row}:Mc .seq [(k,.tup (rs.map A'))]=a5 (rs.map λr=>(kE k,A' r)):=by
 change a5 ((rs.map A').map λu=>(kE k,u))=_;rw[i6];rfl
abbrev AH(Γ:Tab):Prop:=∀(ws:List Str) (rs:List Row),ws.length<=24->(∀r∈rs,cF ws r)->∃ts,Γ "_law_all" [.tup (rs.map A')]=a5 (.ok (.own,.lst (ts.map .str)))/\gn ws ts
abbrev AI:List S :=
   [.set 7 (.Mz 4 (.JW "_law_draw" [.var 0,.bi .len [.var 4]] [0])),
   .ite (.and [.cmp .J4 (.var 7) (.var 3),.cmp .eq (.JW "_law_draw" [.var 0,.var 2] [0]) (.cst (.int 0))])
    [.app 5 (.tup [.var 7,.tup []])]
    []]
abbrev IG:List S :=
   [.ite (.cmp .ne (.JW "_law_draw" [.var 0,.cst (.int 8)] [0]) (.cst (.int 1)))
      [.ret (.var 1)]
      [],
    .set 2 (.bin .add (.cst (.int 1)) (.JW "_law_draw" [.var 0,.cst (.int 2)] [0])),
    .set 3 (.comp 1 cc .seq [.var 1] [.cmp .eq (.idx (.var 0) (.cst (.int 1))) (.tup [])] (.idx (.var 0) (.cst (.int 0)))),
    .set 4 (.call "_law_all" [.var 1]),
    .set 5 (.lst []),
    .J9 cc [6] .Lb [.bi .len [.var 4]] AI,
    .ret (.bin .add (.var 1) (.bi .tuple [(.var 5)]))]
abbrev Dw:Fn:=⟨"_law_widened",2,8,.Na [0]::IG⟩
def mM(h:(!(i==j))=c):bK .ne (.int i) (.int j)=a5 c:=by subst h;rfl
abbrev kH(u:U)(rs:List Row)(share:Int)(hs ts:List Str)(more:List Row)(o6 o7:Option (Kd×U)):aw:=[a5 (.io,u),a5 (.loc,.tup (rs.map A')),a5 (.loc,.int share),a5 (.own,.lst (hs.map .str)),a5 (.own,.lst (ts.map .str)),a5 (.own,.lst (more.map A')),o6,o7]
def AJ(o:bC Γ)(w:Src T u)(N:T+2<2 ^ 62)(A:0<share)(O:share<=2)(Q:0<ts.length)(B:ts.length<=24)(p:∀x∈ts,x∈ws)(h:∀r∈more,cF ws r)(Y:more.length<1000):
  ∃u' a j C,Run (execs Γ AI) (kH u rs share hs ts more o6 o7) .nx (kH u' rs share hs a j o6 C)/\Src (T+2) u'/\a.length+1=ts.length/\(∀x∈a,x∈ws)/\(∀r∈j,cF ws r)/\j.length<=more.length+1:=by
 have D:(1000:Nat)<=cL:=by decide
 have⟨n,b,G,H,I,s1⟩:=dg (st:=kH u rs share hs ts more o6 o7) o (i:=0) (k:=.io) (e:=.bi .len [.var 4]) (m:=((ts.map U.str).length:Nat)) rfl rfl (cC (ae (aC rfl) aj) ∅ b_) w ⋯ (by simp;lia) (by simp;lia);rw[c4]at I;have l:n.toNat<ts.length:=by lia
 have q:(ts.map U.str)[n.toNat]?=a5 (.str ts[n.toNat]):=by simp[l]
 have s:ts[n.toNat]∈ws:=p _ (LL l);generalize ts[n.toNat]=x at q s;have J:(ts.map U.str).eraseIdx n.toNat=(ts.eraseIdx n.toNat).map U.str:=by
  rw[Rh,Rh,i3,ğ,Ġ]
 have hl:(ts.eraseIdx n.toNat).length+1=ts.length:=by rw[List.length_eraseIdx_of_lt l];lia
 have f:∀y∈ts.eraseIdx n.toNat,y∈ws:=λy L=>p y (List.mem_of_mem_eraseIdx L);have g:Run (ev Γ (.Mz 4 (.JW "_law_draw" [.var 0,.bi .len [.var 4]] [0]))) (kH u rs share hs ts more o6 o7) (.loc,.str x) (kH b rs share hs (ts.eraseIdx n.toNat) more o6 o7):=by
  have:=GA (i:=4) (k0:=.own) (k:=.own) (us0:=ts.map U.str) (us:=ts.map U.str) rfl (by intro z;cases z) G rfl rfl H ⋯ q;rw[J]at this;show this
 generalize ts.eraseIdx n.toNat=a at g hl f;have d:Run (J' Γ (.cmp .J4 (.var 7) (.var 3))) (kH b rs share hs a more o6 (a5 (.loc,.str x))) (cK (x∉hs)) (kH b rs share hs a more o6 (a5 (.loc,.str x))):=aN (af rfl) (aC rfl) ∅ de;by_cases t:x∈hs
 .rw[ŧ (by simp[t])]at d;show⟨b,a,more,_,ay g aH (aZ (iY (tU d)) av av),s1.up ⋯,hl,f,h,⋯⟩
 .rw[Ũ t]at d;have⟨m,u2,v,m0,m1,s2⟩:=dg (st:=kH b rs share hs a more o6 (a5 (.loc,.str x))) o (i:=0) (k:=.io) (e:=.var 2) (m:=share) rfl rfl (af rfl) s1 ⋯ A ⋯;by_cases hz:m=0
  .show⟨u2,a,more++[(x,[])],a5 (.loc,.str x),ay g aH (dH (iY (mj d (dw (aN v ai trivial (cq (c:=bD) (by simp[hz])))))) (gb (k:=.own) (k':=.own) rfl (gV (ae (af rfl) (ae (gV aj trivial aL (ke _)) aj)) trivial (aA aK (aA aK aL)) (by change 2<=cL;lia)) aK rfl rfl (by simp;lia) av) ?_),s2.up ⋯,hl,f,?_,by simp⟩
   .rw[show more.map A'++[U.tup [.str x,.tup []]]=(more++[(x,[])]).map A' by simp[A']];show av
   .intro r hr;rcases hQ.mp hr with hr|hr
    .show h r hr
    .rw[hY]at hr;subst hr;show⟨s,by simp,by simp,by simp⟩
  .show⟨u2,a,more,_,ay g aH (aZ (iY (mj d (dw (aN v ai trivial (cq (c:=cc) (by simp[hz])))))) av av),s2.up ⋯,hl,f,h,⋯⟩
def AK{rs:List Row}(hl:rs.length<=1000)(h:st[i]?=a5 (a5 (.loc,.tup (rs.map A')))):Run (ev Γ (.comp 1 cc .seq [.var i] [.cmp .eq (.idx (.var 0) (.cst (.int 1))) (.tup [])] (.idx (.var 0) (.cst (.int 0))))) st (.own,.lst (((rs.filter λr=>cK (r.2=[])).map (·.1)).map .str)) st:=by
 have b:(1000:Nat)<=cL:=by decide
 have c:∀y:Row,jA (.loc,A' y) (.int 0)=a5 (.loc,.str y.1):=λy=>rfl;have d:∀y:Row,jA (.loc,A' y) (.int 1)=a5 (.loc,.tup (y.2.map .str)):=λy=>rfl;have a:=jO (cond:=ba Γ [.cmp .eq (.idx (.var 0) (.cst (.int 1))) (.tup [])]) (elt:=ev Γ (.idx (.var 0) (.cst (.int 0)))) (src:=[(.loc,.tup (rs.map A'))]) (st:=st) trivial .loc (.inl rfl) A' (λr:Row=>.str r.1) (λr=>cK (r.2=[])) .loc rs [] (by simp;lia)
  (λr _=>⟨dw (aN (aO (af rfl) ai trivial (d r)) (gV aj trivial aL (ke _)) trivial Dm),λ_=>⟨aO (af rfl) ai trivial (c r),aK⟩⟩)
 rw[i0]at a;rw[i6];show dc (rs:=[(.loc,.tup (rs.map A'))]) (ae (af h) aj) trivial jk a
abbrev AL(Γ:Tab):Prop:=∀(T:Int) (u:U) (ws:List Str) (rs:List Row),Src T u->T+60<2 ^ 62->ws.length<=24->(∀r∈rs,cF ws r)->rs.length<=60->∃(a:List Row) (u':U),Γ "_law_widened" [u,.tup (rs.map A')]=a5 (.ok (.loc,.tup [.tup (a.map A'),u']))/\(∀r∈a,cF ws r)/\a.length<=84/\Src (T+60) u'
def Dx(g:bC Γ)(L:AH Γ){rs:List Row}(A:Src T u)(hT:T+60<2 ^ 62)(N:ws.length<=24)(j:∀r∈rs,cF ws r)(hl:rs.length<=60):
  ∃(l:List Row) (u':U),gK Γ Dw [0] IG [u,.tup (rs.map A')]=a5 (.ok (.loc,.tup [.tup (l.map A'),u']))/\(∀r∈l,cF ws r)/\l.length<=84/\Src (T+60) u':=by
 have O:(1000:Nat)<=cL:=by decide
 let c:U->aw:=λv=>[a5 (.io,v),a5 (.loc,.tup (rs.map A')),b6,b6,b6,b6,b6,b6]
 have B:c8 [0] [u,.tup (rs.map A')] Dw.ns=c u:=by
  obtain⟨_,_,_,rfl,_⟩:=A;change [a5 (Kd.io,_),a5 (if Kl (.tup (rs.map A'))=bD then Kd.loc else Kd.any,U.tup (rs.map A')),b6,b6,b6,b6,b6,b6]=_;rw[ť (by change cV (rs.map A')=bD;show bN rs)]
 have⟨n,o,C,n0,n1,s1⟩:=dg (st:=c u) g (i:=0) (k:=.io) (e:=.cst (.int 8)) (m:=8) rfl rfl ai A ⋯ ⋯ ⋯;by_cases D:n=1
 .have⟨p,u2,Q,p0,p1,s2⟩:=dg (st:=c o) g (i:=0) (k:=.io) (e:=.cst (.int 2)) (m:=2) rfl rfl ai s1 ⋯ ⋯ ⋯;have⟨ts,Y,G⟩:=L ws rs N j;have ab:=G.len;generalize s:((rs.filter λr=>cK (r.2=[])).map (·.1))=hs;have H:=AK (Γ:=Γ) (st:=[a5 (.io,u2),a5 (.loc,.tup (rs.map A')),a5 (.loc,.int (1+p)),b6,b6,b6,b6,b6]) (rs:=rs) (i:=1) ⋯ rfl;rw[s]at H;obtain⟨st',hf,a,b,more,o6,o7,rfl,s3,I,m3,J,w,_⟩:=bM (rs:=[(.loc,.int (ts.length:Nat))]) (t:=cc) (is:=[6]) (body:=execs Γ AI) (λi:Nat=>(Kd.loc,U.int (0+(i:Int)))) (λd r st=>∃(a:U) (b:List Str) (more:List Row) (o6 o7:Option (Kd×U)),st=kH a rs (1+p) hs b more o6 o7/\Src (T+2+2 * (d.length:Nat)) a/\b.length=r.length/\more.length<=d.length/\(∀x∈b,x∈ws)/\(∀r∈more,cF ws r)/\d.length+r.length=ts.length)
   (λd r st _=>trivial) (λd y r st h=>by
    have⟨a,b,more,o6,o7,rfl,s3,I,m3,J,w,t3⟩:=h;simp only[js]at I t3;have⟨u4,z,RT,LD,q,s4,l4,i4,g4,m4⟩:=AJ (Γ:=Γ) g (u:=a) (share:=1+p) (rs:=rs) (more:=more) (ws:=ws) (hs:=hs) (ts:=b) (o6:=a5 (.loc,.int (0+(y:Int)))) (o7:=o7) s3 ⋯ ⋯ ⋯ ⋯ ⋯ J w ⋯;show⟨kH a rs (1+p) hs b more (a5 (.loc,.int (0+(y:Int)))) o7,_,aH,q,u4,z,RT,_,_,rfl,s4.up (by simp;lia),⋯,by simp;lia,i4,g4,by simp;lia⟩) (gs ts.length) [] (kH u2 rs (1+p) hs ts [] b6 b6) ⟨u2,ts,[],b6,b6,rfl,s2.up (by simp;lia),by simp,by simp,G.2,by simp,by simp⟩
  rw[i0,vu]at m3 s3;show⟨rs++more,a,?_,?_,by simp;lia,s3.up ⋯⟩
  .show cy (f:=.rt .loc (.tup ((rs++more).map A'))) (st:=kH a rs (1+p) hs b more o6 o7) rfl B ?_ rfl rfl;show aZ (aN C ai trivial (mM (by simp[D]))) av (ay (bG ai Q trivial cG) aH (ay H bh (ay (bB (ae (af rfl) aj) trivial Y) bh (ay (bY aj trivial aL (ke _)) bh ?_))));show cE (rs:=[(.loc,.int (ts.length:Nat))]) (ae (cC (ae (aC rfl) aj) ∅ (by rw[b_,c4])) aj) trivial (iu ⋯) rfl hf (bH (bG (af rfl) (cC (ae (aC rfl) aj) ∅ rfl) trivial ?_) da);change(if (rs.map A').length+(more.map A').length<=cL then a5 (kT .loc .loc,U.tup (rs.map A'++more.map A')) else b6)=_;rw[ť (by simp;lia),i3];rfl
  .intro r hm;rcases hQ.mp hm with hm|hm
   .show j r hm
   .show w r hm
 .show⟨rs,o,cy (f:=.rt .loc (.tup (rs.map A'))) (st:=c o) rfl B (jN (aN C ai trivial (mM (by simp[D]))) (bH (af rfl) da)) rfl rfl,j,⋯,s1.up ⋯⟩
def IH(a:bC (J5 Pg d))(b:AH (J5 Pg d))(h:Kq Pg "_law_widened" Dw):AL (J5 Pg (d+1)):=by
 intro T u ws rs c f g i hl;have⟨j,u',e,r⟩:=Dx a b c f g i hl;show⟨j,u',by rw[cT h _ rfl];show e,r⟩
def II(h:Run (ev Γ a) st (k,.bl c) st1):Run (ev Γ (.not a)) st (.loc,.bl !c) st1:=aa h rfl
section
def AM(p:i≠j)(l:st[i]?=a5 (a5 (k0,a)))(c:k0.root=bD)(m:st[j]?=a5 (a5 (k0',d)))(z:k0'.root=bD)(A:Run (bj Γ es) st rs st1)
  (b:st1[i]?=a5 (a5 (k,.lst us))) (hk:k.root=bD) (B:cV us=bD) (n:st1[j]?=a5 (a5 (k',.lst vs))) (s:k'.root=bD) (C:cV vs=bD) (D:rs.map (eD st1)=rs) (G:bc rs st1) (H:∀r∈rs,qR [a5 i,a5 j] r=bD)
  (I:Γ f (.lst us::.lst vs::rs.map (·.2))=a5 (.ok (o,.tup [v,.lst t,.lst w]))) (J:o=.own\/o=.loc):Run (ev Γ (.JW f (.var i::.var j::es) [0,1])) st (o,v) ((st1.set i (a5 (k,.lst t))).set j (a5 (k',.lst w))):=by
 have x:∀(i:Nat) (k0:Kd) (a:U),st[i]?=a5 (a5 (k0,a))->k0.root=bD->Run (ev Γ (.var i)) st (.bor i,a) st:=λi k0 a l c=>by
  have:=d_ l (by rintro rfl;cases c);unfold kv at this;rw[ť c]at this;show this
 have y:∀(i:Nat) (k:Kd) (a u:U),st1[i]?=a5 (a5 (k,u))->k.root=bD->eD st1 (.bor i,a)=(.bor i,u):=λi k a u b hk=>by
  unfold eD
  dsimp only
  rw[b];simp[hk]
 have e:((Kd.bor i,a)::(Kd.bor j,d)::rs).map (eD st1)=(.bor i,.lst us)::(.bor j,.lst vs)::rs:=by rw[d4,d4,y i k a _ b hk,y j k' d _ n s,D]
 have g:il ((Kd.bor i,U.lst us)::(Kd.bor j,U.lst vs)::rs) 0=a5 i:=by
  change(if cV us=bD then a5 i else b6)=_;rw[ť B]
 have h:il ((Kd.bor i,U.lst us)::(Kd.bor j,U.lst vs)::rs) 1=a5 j:=by
  change(if cV vs=bD then a5 j else b6)=_;rw[ť C]
 show tW (rs:=(.bor i,a)::(.bor j,d)::rs) (ws:=[.lst t,.lst w]) (st1:=st1) (ae (x i k0 a l c) (ae (x j k0' d m z) A)) ?_ ?_ J ?_ ?_
 .rw[e];show⟨⟨k,hk,b⟩,⟨k',s,n⟩,G⟩
 .rw[e];show I
 .rw[e];unfold qS;rw[cb,cb];show⟨⟨by simp[g,h],by simp[g,h,p]⟩,i8.mpr λq L=>?_⟩
  match q with
  |0=>simp
  |1=>simp
  |q+2 =>
   have hl:q<rs.length:=by have:=u5.mp L;simpa using this
   rw[Mt];show .inr ?_;rw[show((Kd.bor i,U.lst us)::(Kd.bor j,U.lst vs)::rs).getD (q+2) (.loc,.J0)=rs[q] by simp[O',hl]];simp only[d4,Kb,g,h];show H _ (LL hl)
 .rw[e];unfold gU;rw[g]
  dsimp only
  rw[b]
  dsimp only
  unfold gU;rw[h]
  dsimp only
  rw[hH p,n];rfl
end
abbrev mO(Γ:Tab):Prop:=∀(ns:List Int) (u:U) (ws:List Str) (T:Int),Src T u->T+500<2 ^ 62->ns.length<1000->0<ws.length->ws.length<1000000 ->
  ∃(rs:List Row) (a:List Int) (u':U),Γ "_law_book" [.lst (ns.map .int),u,.lst (ws.map .str)]=a5 (.ok (.loc,.tup [.tup (rs.map A'),.lst (a.map .int),u']))/\dz ws rs/\rs.length<=60/\a.length<=ns.length/\Src (T+500) u'
def AN(a:ji (J5 Pg d))(b:bC (J5 Pg d))(c:mJ (J5 Pg d))(f:mK (J5 Pg d))(h:Kq Pg "_law_book" p_):mO (J5 Pg (d+1)):=by
 intro ns u ws T g i j k l;have⟨rs,m,u',e,r⟩:=ue a b c f g i j k l;show⟨rs,m,u',by rw[cT h _ rfl];show e,r⟩
def rS(a:ji Γ){ns:List Int}:∃(b:List Int) (u:U),Run (ev Γ (.JW "_law_source" [.var 1,.cst (.int k)] [0])) (o0::a5 (.own,.lst (ns.map .int))::rest) (.own,u) (o0::a5 (.own,.lst (b.map .int))::rest)/\b.length<=ns.length/\Src 0 u:=by
 by_cases h:ns=[]
 .subst h;show⟨[],fL k 0 1,GI (k0:=.own) (k:=.own) a rfl rfl ai rfl rfl,hV _,⟨_,_,_,rfl,⋯,⋯⟩⟩
 .have e:=W9 h;generalize ns.dropLast=l at e;generalize ns.getLast h=c at e;subst e;show⟨l,fL (c / 2) 0 (c % 2),Av (k0:=.own) (k:=.own) a rfl rfl ai rfl rfl,by simp,⟨_,_,_,rfl,⋯,⋯⟩⟩
def Src.lst(h:Src T u):∃us,u=.lst us/\cV us=bD:=by
 obtain⟨a,t,w,rfl,_,_⟩:=h;show⟨_,rfl,rfl⟩
end TM
namespace KL
open PySem L2 TM
abbrev dA:Fn:=⟨"gathered",1,4,[.newD 1,.J9 bD [2,3] .seq [.var 0] [.ite (.inD bD (.var 2) 1) [.putD 1 (.var 2) (.lst [])] [],.LN 1 (.var 2) (.var 3)],.ret (.Qr 1)]⟩
abbrev bp:Fn:=⟨"places_that_tell",1,4,[.set 1 (.lst []),.J9 bD [2,3] .Pp [.var 0] [.ext 1 (.comp 1 cc .seq [.idx (.var 3) (.cst (.int 1))] [] (.tup [.var 0,.var 3]))],.ret (.call "gathered" [.var 1])]⟩
abbrev cU:Fn:=⟨"new_steps",3,6,[.set 3 (.LM cc),.J9 cc [4] .seq [.var 1] [.set 5 (.idx (.idx (.var 0) (.var 4)) (.cst (.int 0))),.ite (.and [.cmp .J4 (.var 5) (.var 2),.cmp .J4 (.var 5) (.var 3)]) [.put 3 (.var 5) (.var 4)] []],.ret (.Qs 3)]⟩
abbrev bt:Fn:=⟨"steps_in_rounds",1,10,[.set 1 (.call "places_that_tell" [.var 0]),.set 2 (.comp 1 cc .seq [.var 0] [] (.bi .len [.idx (.var 0) (.cst (.int 1))])),.set 3 (.LM cc),.set 4 (.lst []),.set 5 (.comp 2 bD .Pp [.var 2] [.cmp .eq (.var 1) (.cst (.int 0))] (.var 0)),.OL (.cmp .ne (.var 5) (.lst [])) [.set 6 (.call "new_steps" [.var 0,.var 5,.var 3]),.set 5 (.lst []),.J9 bD [7,8] .seq [.var 6] [.put 3 (.var 7) (.cst (.bl bD)),.J9 cc [9] .seq [.My 1 (.var 7) (.lst [])] [.aug bD 2 (.var 9) (.cst (.int 1)),.ite (.cmp .eq (.idx (.var 2) (.var 9)) (.cst (.int 0))) [.app 5 (.var 9)] []]],.ite (.cmp .ne (.var 6) (.lst [])) [.app 4 (.var 6)] []],.ret (.var 4)]⟩
abbrev fC:Fn:=⟨"order",1,3,[.set 1 (.lst []),.J9 cc [2] .seq [.call "steps_in_rounds" [.var 0]] [.ext 1 (.var 2)],.ret (.var 1)]⟩
abbrev fe:Fn:=⟨"learnt",1,1,[.ret (.bi .sorted [.comp 2 bD .seq [.call "order" [.var 0]] [] (.var 0)])]⟩
end KL
namespace KL
open PySem L2 TM Kj Od
abbrev cJ(f:Str->List Nat)(k:Str):U:=.lst ((f k).map λt:Nat=>U.int (t:Nat))
def jS(d:List (Str×Nat))(y:Str×Nat)(k:Str):aR (d++[y]) k=if y.1=k then aR d k++[y.2] else aR d k:=by
 rw[rL];by_cases e:y.1=k
 .rw[ť e];simp[aR,e]
 .rw[Ŧ e];simp[aR,e]
def AO(d:List (Str×Nat))(k:Str):(aR d k).length<=d.length:=by
 unfold aR;rw[c4];show sx _ _
section
def qb(hl:ps.length<=1000):∃ks:List Str,(∀w,w∉ks->aR ps w=[])/\cu Γ dA [.lst (ps.map stN)]=a5 (.ok (.own,.JU ks (ks.map (cJ (aR ps))))):=by
 have hsz:(2000:Nat)<=cL:=by decide
 have x:TM.start [.lst (ps.map stN)] 4=[a5 (.any,.lst (ps.map stN)),b6,b6,b6]:=rfl;let S:=λ(ks:List Str) (us:List U) (o2 o3:Option (Kd×U))=>([a5 (.any,.lst (ps.map stN)),a5 (.JS,.JU ks us),o2,o3]:aw)
 let body:List TM.S:=[.ite (.inD bD (.var 2) 1)
    [.putD 1 (.var 2) (.lst [])]
    [],
   .LN 1 (.var 2) (.var 3)]
 have⟨st',A,l,ks,o2,o3,e,f,hk,B⟩:=bM (t:=bD) (is:=[2,3]) (body:=execs Γ body) (rs:=[(.any,.lst (ps.map stN))]) (λp:Str×Nat=>(Kd.any,stN p))
  (λd r st=>d++r=ps/\∃(ks:List Str) (o2 o3:Option (Kd×U)),st=S ks (ks.map (cJ (aR d))) o2 o3/\ks.Nodup/\(∀w,w∉ks->aR d w=[])/\ks.length<=d.length) (λ_ _ _ _=>trivial) (λd y r st C=>by
   have⟨l,ks,o2,o3,e,f,hk,B⟩:=C;subst e;have L:d.length<1000:=by have:=Ū C0 l;simp at this;lia
   let g:Option (Kd×U):=a5 (.any,.str y.1);let i:Option (Kd×U):=a5 (.any,.int (y.2:Nat));have D:=AO d y.1;have j:∀(ks:List Str),ks.Nodup->y.1∈ks->Run (execs Γ [.LN 1 (.var 2) (.var 3)]) (S ks (ks.map (cJ (aR d))) g i) .nx (S ks (ks.map (cJ (aR (d++[y])))) g i):=λks f c=>by
    have G:dN ks (ks.map (cJ (aR d))) y.1=a5 (.lst ((aR d y.1).map λt:Nat=>U.int (t:Nat))):=by rw[jh,ť c];rfl
    have hs:jB ks (ks.map (cJ (aR d))) y.1 (.lst ((aR d y.1).map (λt:Nat=>U.int (t:Nat))++[.int (y.2:Nat)]))=ks.map (cJ (aR (d++[y]))):=by
     rw[mF _ _ _ _ f];show t8 λk hk=>?_;unfold cJ;rw[jS];by_cases e:y.1=k
     .subst e;rw[ť rfl,ť rfl];simp
     .rw[Ŧ e,Ŧ (nC e)]
    rw[<-hs];show Ad (k:=.any) (r:=(.any,.int (y.2:Nat))) rfl (aF rfl) c (aF rfl) (j7 rfl) G (by rw[c4];lia) av
   have m:Run (J' Γ (.inD bD (.var 2) 1)) (S ks (ks.map (cJ (aR d))) g i) (!cK (y.1∈ks)) (S ks (ks.map (cJ (aR d))) g i):=Ab (neg:=bD) (k:=.any) (aF rfl) rfl;have o:Run (dG bD [2,3] (.any,stN y)) (S ks (ks.map (cJ (aR d))) o2 o3) () (S ks (ks.map (cJ (aR d))) g i):=j9 (.inr rfl);by_cases c:y.1∈ks
   .rw[Ũ c]at m;show⟨_,_,o,mr m (λh=>by cases h) λ_=>j ks f c,by rw[<-l];simp,ks,_,_,rfl,f,λw n=>?_,by simp;lia⟩;have H:y.1≠w:=λz=>n (by rw[<-z];show c);rw[jS,Ŧ H];show hk w n
   .rw[ŧ c]at m;have q:(ks++[y.1]).Nodup:=by
     rw[rr];show⟨f,by simp,λa I b J e=>?_⟩;have:b=y.1:=by simpa using J
     subst this;show c (e▸I)
    have em:ks.map (cJ (aR d))++[.lst []]=(ks++[y.1]).map (cJ (aR d)):=by
     rw[i3];congr 1
     change _=[cJ (aR d) y.1]
     unfold cJ;rw[hk y.1 c];rfl
    have s:=j (ks++[y.1]) q (by simp);rw[<-em]at s;show⟨_,_,o,mr m (λ_=>Ac (k:=.any) (xs:=[]) (bY aj trivial aL (ke _)) rfl (aF rfl) c ⋯ s) λh=>(by cases h),by rw[<-l];simp,ks++[y.1],_,_,rfl,q,λw n=>?_,by simp;lia⟩;have v:w∉ks/\w≠y.1:=by simpa using n
    rw[jS,Ŧ (nC v.2)];show hk w v.1) ps [] (S [] [] b6 b6) ⟨rfl,[],b6,b6,rfl,.nil,λ_ _=>rfl,hV _⟩
 subst e;rw[i0]at *;show⟨ks,hk,?_⟩;have e:(ps.map stN).map (λu=>(kE .any,u))=ps.map λp=>(Kd.any,stN p):=by rw[i6];rfl
 show a_ rfl (.inl rfl) x (Aa (cE (rs:=[(.any,.lst (ps.map stN))]) (st1:=S [] [] b6 b6) (ae (aF rfl) aj) trivial rfl rfl (by rw[e];show A) (bH (Iw rfl) (mn rfl))))
abbrev Eg(Γ:Tab):Prop:=∀ps:List (Str×Nat),ps.length<=1000->∃ks:List Str,(∀w,w∉ks->aR ps w=[])/\Γ "gathered" [.lst (ps.map stN)]=a5 (.ok (.own,.JU ks (ks.map (cJ (aR ps)))))
def uh(s:Eg Γ)(v:Once rows)(z:∀r∈rows,r.2.length<=8)(J:rows.length<=120):
  ∃ks:List Str,(∀w,w∉ks->Kt rows rows.length w=[])/\cu Γ bp [.tup (rows.map A')]=a5 (.ok (.own,.JU ks (ks.map (cJ (Kt rows rows.length))))):=by
 have hsz:(2000:Nat)<=cL:=by decide
 have A:TM.start [.tup (rows.map A')] 4=[a5 (.loc,.tup (rows.map A')),b6,b6,b6]:=by simp[TM.start,Kl,bN]
 let S:=λ(ps:List (Str×Nat)) (o2 o3:Option (Kd×U))=>([a5 (.loc,.tup (rows.map A')),a5 (.own,.lst (ps.map stN)),o2,o3]:aw)
 let body:List TM.S:=[.ext 1 (.comp 1 cc .seq [.idx (.var 3) (.cst (.int 1))] [] (.tup [.var 0,.var 3]))]
 have⟨st',B,g,ps,o2,o3,e,h,l⟩:=bM (t:=bD) (is:=[2,3]) (body:=execs Γ body) (rs:=[(.loc,.tup (rows.map A'))]) (λp:Row×Nat=>(Kd.loc,U.tup [.int (p.2:Nat),A' p.1]))
  (λd r st=>d++r=rows.zipIdx/\∃(ps:List (Str×Nat)) (o2 o3:Option (Kd×U)),st=S ps o2 o3/\(∀w,aR ps w=Kt rows d.length w)/\ps.length<=8 * d.length) (λ_ _ _ _=>trivial) (λd y r st C=>by
   have⟨g,ps,o2,o3,e,h,l⟩:=C;subst e;have⟨f,i⟩:=y;have m:(rows.zipIdx)[d.length]?=a5 (f,i):=by rw[<-g];simp
   rw[U1,et]at m;have⟨a,n,e⟩:=m;have D:a=f:=Ū Đ e;have o:0+d.length=i:=Ū Prod.snd e;rw[Q7]at o;subst D o;have L:d.length<120:=by have:=Ū C0 g;simp at this;lia
   have G:=z a (l' n);let b:Option (Kd×U):=a5 (.loc,.int (d.length:Nat));let c:Option (Kd×U):=a5 (.loc,A' a);have q:=gh (cond:=ba Γ []) (elt:=ev Γ (.tup [.var 0,.var 3])) (src:=[(.loc,.tup (a.2.map .str))]) (st:=S ps b c) trivial .loc (.inl rfl) U.str (λx=>stN (x,d.length)) .loc (λ_=>iZ) a.2 [] (by simp;lia)
    (λy _=>⟨gV (ae (af rfl) (ae (af rfl) aj)) trivial (aA aK (aA aK aL)) (by change 2<=cL;lia),aK⟩)
   rw[i0]at q;have e:(a.2.map U.str).map (λu=>(kE .loc,u))=a.2.map λr=>(Kd.loc,U.str r):=by rw[i6];rfl
   have H:Run (ev Γ (.comp 1 cc .seq [.idx (.var 3) (.cst (.int 1))] [] (.tup [.var 0,.var 3]))) (S ps b c) (.own,.lst (a.2.map λx=>stN (x,d.length))) (S ps b c) :=
    dc (rs:=[(.loc,.tup (a.2.map .str))]) (ae (aO (x:=(.loc,A' a)) (af rfl) ai trivial rfl) aj) trivial (by change a5 _=_;rw[e]) q
   have em:ps.map stN++(a.2.map λx=>stN (x,d.length))=(ps++a.2.map λx=>(x,d.length)).map stN:=by simp
   show⟨S ps b c,S (ps++a.2.map λx=>(x,d.length)) b c,j9 (.inl rfl),?_,by rw[<-g];simp,_,_,_,rfl,λw=>?_,by simp;lia⟩
   .change Run _ _ _ [a5 (.loc,.tup (rows.map A')),a5 (.own,.lst ((ps++a.2.map λx=>(x,d.length)).map stN)),b,c];rw[<-em];show zT (k:=.own) (k':=.own) rfl H rfl rfl (vK (by rw[c4,c4];lia) rfl) av
   .rw[gc];show xA v n h w) rows.zipIdx [] (S [] b6 b6) ⟨rfl,[],b6,b6,rfl,λw=>by simp[aR,Kt],by simp⟩
 subst e;rw[i0,List.length_zipIdx]at h l;have j:Mc .Pp [(.loc,.tup (rows.map A'))]=a5 (rows.zipIdx.map λp:Row×Nat=>(Kd.loc,U.tup [.int (p.2:Nat),A' p.1])):=by
  change a5 ((rows.map A').zipIdx.map λp=>(kE .loc,U.tup [.int p.2,p.1]))=_;rw[List.zipIdx_map,i6];rfl
 have⟨ks,k1,k2⟩:=s ps ⋯;have I:aR ps=Kt rows rows.length:=funext h;rw[I]at k1 k2;show⟨ks,k1,?_⟩;show a_ rfl (.inl rfl) A (ay (r:=(.own,.lst [])) (bY aj trivial aL (ke _)) bh (cE (rs:=[(.loc,.tup (rows.map A'))]) (st1:=S [] b6 b6) (ae (af rfl) aj) trivial j rfl B
  (bH (bB (ae (aC rfl) aj) ⟨⟨.own,rfl,rfl⟩,trivial⟩ k2) ja)))
def ng{names:List Str}(v:∀r∈rows,r.1∈names)(Q:names.length<64)(y:∀t∈R,t<rows.length):
  ∃st:List (Str×Nat),NS rows K0 R st/\cu Γ cU [.tup (rows.map A'),.lst (R.map λt:Nat=>.int (t:Nat)),.JU K0 vs]=a5 (.ok (.own,.lst (st.map stN))):=by
 have hsz:(2000:Nat)<=cL:=by decide
 have z:TM.start [.tup (rows.map A'),.lst (R.map λt:Nat=>.int (t:Nat)),.JU K0 vs] 6=[a5 (.loc,.tup (rows.map A')),a5 (.any,.lst (R.map λt:Nat=>.int (t:Nat))),a5 (.any,.JU K0 vs),b6,b6,b6]:=by simp[TM.start,Kl,bN]
 let S:=λ(ps:List (Str×Nat)) (o4 o5:Option (Kd×U))=>([a5 (.loc,.tup (rows.map A')),a5 (.any,.lst (R.map λt:Nat=>.int (t:Nat))),a5 (.any,.JU K0 vs),a5 (.own,.JU (ps.map (·.1)) (ps.map λp=>.int (p.2:Nat))),o4,o5]:aw)
 let body:List TM.S:=[.set 5 (.idx (.idx (.var 0) (.var 4)) (.cst (.int 0))),
   .ite (.and [.cmp .J4 (.var 5) (.var 2),.cmp .J4 (.var 5) (.var 3)])
    [.put 3 (.var 5) (.var 4)]
    []]
 have o:∀{d:List Nat} {ps:List (Str×Nat)},NS rows K0 d ps->ps.length<=names.length:=λ{d ps} x=>by
  have:=vO x.once (L:=names) λw A=>by
   have⟨s,hs,rfl⟩:=ki.mp A;obtain⟨_,_,r,b,c⟩:=x.ok s hs;rw[<-c];show v r (l' b)
  simpa using this
 have⟨st',B,j,ps,o4,o5,e,x⟩:=bM (t:=cc) (is:=[4]) (body:=execs Γ body) (rs:=[(.any,.lst (R.map λt:Nat=>.int (t:Nat)))]) (λt:Nat=>(Kd.any,U.int (t:Nat)))
  (λd r st=>d++r=R/\∃(ps:List (Str×Nat)) (o4 o5:Option (Kd×U)),st=S ps o4 o5/\NS rows K0 d ps) (λ_ _ _ _=>trivial) (λd t r st C=>by
   have⟨j,ps,o4,o5,e,x⟩:=C;subst e;have D:t<rows.length:=y t (by rw[<-j];simp);have l:rows[t]?=a5 rows[t]:=by simp[D]
   generalize rows[t]=a at l;let f:Option (Kd×U):=a5 (.any,.int (t:Nat));let m:Option (Kd×U):=a5 (.loc,.str a.1);have G:=o x;have i:Run (J' Γ (.and [.cmp .J4 (.var 5) (.var 2),.cmp .J4 (.var 5) (.var 3)])) (S ps f m) (!cK (a.1∈K0)&&!cK (a.1∈ps.map (·.1))) (S ps f m) :=
    iY (pU (aN (af rfl) (aF rfl) trivial jP) λ_=>dw (aN (af rfl) (aC rfl) ⟨⟨.own,rfl,rfl⟩,trivial⟩ jP))
   have g:∀{q:aw},Run (execs Γ [.ite (.and [.cmp .J4 (.var 5) (.var 2),.cmp .J4 (.var 5) (.var 3)])
    [.put 3 (.var 5) (.var 4)]
    []]) (S ps f m) .nx q->Run (execs Γ body) (S ps f o5) .nx q:=λh =>
    ay (r:=(.loc,.str a.1)) (aO (x:=(.loc,A' a)) (aO (af rfl) (aF rfl) trivial (bU (Dn l))) ai trivial rfl) aH h
   have n:Run (dG cc [4] (.any,.int (t:Nat))) (S ps o4 o5) () (S ps f o5):=eh j8;by_cases b:a.1∈K0
   .rw[Ũ b]at i;show⟨_,_,n,g (mr i (λh=>by cases h) λ_=>av),by rw[<-j];simp,ps,_,_,rfl,x.skip l (.inl b)⟩
   .by_cases c:a.1∈ps.map (·.1)
    .rw[ŧ b,Ũ c]at i;show⟨_,_,n,g (mr i (λh=>by cases h) λ_=>av),by rw[<-j];simp,ps,_,_,rfl,x.skip l (.inr c)⟩
    .rw[ŧ b,ŧ c]at i;show⟨_,S (ps++[(a.1,t)]) f m,n,g (mr i (λ_=>?_) λh=>by cases h),by rw[<-j];simp,_,_,_,rfl,x.take l b c⟩;have H:(ps++[(a.1,t)]).map (·.1)=ps.map (·.1)++[a.1]:=by simp
     have I:((ps++[(a.1,t)]).map λp=>U.int (p.2:Nat))=(ps.map λp=>U.int (p.2:Nat))++[.int (t:Nat)]:=by simp
     change Run _ _ _ [a5 (.loc,.tup (rows.map A')),a5 (.any,.lst (R.map λt:Nat=>.int (t:Nat))),a5 (.any,.JU K0 vs),a5 (.own,.JU ((ps++[(a.1,t)]).map (·.1)) ((ps++[(a.1,t)]).map λp=>.int (p.2:Nat))),f,m];rw[H,I];show gW (k:=.own) (rv:=(.any,.int (t:Nat))) (rk:=(.loc,.str a.1)) (aF rfl) rfl (af rfl) (aA (j7 rfl) (aA aK aL)) rfl rfl (vQ (by rw[c4];lia) c) av) R [] (S [] b6 b6) ⟨rfl,[],b6,b6,rfl,NS.start K0⟩
 subst e;rw[i0]at x;have G:=o x;have⟨J,N,O⟩:=Dl (ps:=ps) ⋯ x.once;show⟨J,x.perm N,?_⟩;have e:(R.map λt:Nat=>U.int (t:Nat)).map (λu=>(kE .any,u))=R.map λt=>(Kd.any,U.int (t:Nat)):=by rw[i6];rfl
 show a_ rfl (.inl rfl) z (ay (r:=(.own,.JU [] [])) l_ bh (cE (rs:=[(.any,.lst (R.map λt:Nat=>.int (t:Nat)))]) (st1:=S [] b6 b6) (ae (aF rfl) aj) trivial rfl rfl (by rw[e];show B) (bH (Iz rfl O) ja)))
end
abbrev mi(rows:List Row)(K0:List Str)(d:List Nat)(p:Nat):Int:=(cnt rows K0 p:Int) - (if p∈d then 1 else 0)
abbrev bX(rows:List Row)(f:Nat->Int):List U:=(gs rows.length).map λp=>U.int (f p)
abbrev fD(R:List Nat):List U:=R.map λt:Nat=>U.int (t:Nat)
def Dy(rows:List Row)(K0:List Str):bX rows (mi rows K0 [])=bX rows λp=>(cnt rows K0 p:Int):=by
 unfold bX mi;show t8 λp _=>?_;simp
def Dz(b:Once rows)(c:w∉K0):bX rows (mi rows K0 (Kt rows rows.length w))=bX rows λp=>(cnt rows (K0++[w]) p:Int):=by
 unfold bX mi;show t8 λp d=>?_;have e:=u5.mp d;have a:=pX b c p;by_cases h:w∈told rows p
 .rw[ť (jg.mpr ⟨e,h⟩)];rw[ť h]at a;change U.int ((cnt rows K0 p:Int) - 1)=U.int (cnt rows (K0++[w]) p:Int);congr 1
  lia
 .rw[Ŧ λz=>h (jg.mp z).2];rw[Ŧ h]at a;change U.int ((cnt rows K0 p:Int) - 0)=U.int (cnt rows (K0++[w]) p:Int);congr 1
  lia
def AQ(a:t∉d):(bX rows (mi rows K0 d)).set t (.int (mi rows K0 d t - 1))=bX rows (mi rows K0 (d++[t])):=by
 unfold bX;rw[set_range];show t8 λp _=>?_;unfold mi;by_cases e:p=t
 .subst e;rw[ť rfl,Ŧ a,ť (by simp)];rw[show((cnt rows K0 p:Int) - 0 - 1)=(cnt rows K0 p:Int) - 1 by lia]
 .rw[Ŧ e];have:(p∈d++[t])↔p∈d:=by simp[e]
  simp only[this]
def AR(h:t<rows.length):(bX rows f)[t]?=a5 (.int (f t)):=by simp[bX,h]
section
variable{Γ:Tab}{rows:List Row}
abbrev vU:List TM.S:=[.aug bD 2 (.var 9) (.cst (.int 1)),.ite (.cmp .eq (.idx (.var 2) (.var 9)) (.cst (.int 0))) [.app 5 (.var 9)] []]
def rT(v:Once rows)(J:rows.length<=120)(y:w∉K0)(L:R.length<=14400)(o9:Option (Kd×U))(A:∀st,bc src st):∃l:Option (Kd×U),
  Run (forM cc [9] (execs Γ vU) src ((Kt rows rows.length w).map λt:Nat=>(Kd.loc,U.int (t:Nat))))
   [b0,b1,a5 (.own,.lst (bX rows λp=>(cnt rows K0 p:Int))),b3,b4,a5 (.own,.lst (fD R)),o6,o7,o8,o9] .nx
   [b0,b1,a5 (.own,.lst (bX rows λp=>(cnt rows (K0++[w]) p:Int))),b3,b4,a5 (.own,.lst (fD (R++(Kt rows rows.length w).filter λt=>cK (cnt rows K0 t=1)))),o6,o7,o8,l]:=by
 have hsz:(20000:Nat)<=cL:=by decide
 let S:=λ(ms:List U) (R:List Nat) (o9:Option (Kd×U))=>([b0,b1,a5 (.own,.lst ms),b3,b4,a5 (.own,.lst (fD R)),o6,o7,o8,o9]:aw)
 have⟨st',m,c,l,e⟩:=bM (t:=cc) (is:=[9]) (body:=execs Γ vU) (rs:=src) (λt:Nat=>(Kd.loc,U.int (t:Nat)))
  (λd r st=>d++r=Kt rows rows.length w/\∃o9:Option (Kd×U),st=S (bX rows (mi rows K0 d)) (R++d.filter λt=>cK (cnt rows K0 t=1)) o9) (λ_ _ st _=>A st) (λd t r st B=>by
   have⟨c,o9,e⟩:=B;subst e;have C:t∈Kt rows rows.length w:=by rw[<-c];simp
   have o:t<rows.length:=(jg.mp C).1;have q:=xy (rows:=rows) rows.length w;have n:t∉d:=λz=>by
    rw[<-c,rr]at q;show q.2.2 t z t (by simp) rfl
   have N:d.length<=120:=by
    have D:=Ū C0 c;have G:(Kt rows rows.length w).length<=(gs rows.length).length:=sx _ _;simp at D G;lia
   let b:Option (Kd×U):=a5 (.loc,.int (t:Nat));let a:=R++d.filter λt=>cK (cnt rows K0 t=1);have O:a.length<=14520:=by
    have:(d.filter λt=>cK (cnt rows K0 t=1)).length<=d.length:=sx _ _;change(R++_).length<=_;rw[gc];lia
   have H:Ky (bX rows (mi rows K0 (d++[t]))) (t:Int)=a5 (.int (mi rows K0 (d++[t]) t)):=cY (AR o);have I:mi rows K0 (d++[t]) t=(cnt rows K0 t:Int) - 1:=by unfold mi;rw[ť (by simp)]
   have g:Run (J' Γ (.cmp .eq (.idx (.var 2) (.var 9)) (.cst (.int 0)))) (S (bX rows (mi rows K0 (d++[t]))) a b) (cK (cnt rows K0 t=1)) (S (bX rows (mi rows K0 (d++[t]))) a b) :=
    aN (aO (x:=(.bor 2,.lst (bX rows (mi rows K0 (d++[t]))))) (aC rfl) (af rfl) ⟨⟨.own,rfl,rfl⟩,trivial⟩ (bL H)) ai trivial (cq (by
     rw[I,Lo];simp;lia))
   have f:∀{s:aw},Run (execs Γ [.ite (.cmp .eq (.idx (.var 2) (.var 9)) (.cst (.int 0)))
      [.app 5 (.var 9)]
      []]) (S (bX rows (mi rows K0 (d++[t]))) a b) .nx s->Run (execs Γ vU) (S (bX rows (mi rows K0 d)) a b) .nx s:=λh=>by
    show Iy (us:=bX rows (mi rows K0 d)) (k1:=.loc) (k2:=.loc) (j:=t) (w:=1) rfl (af rfl) (AR o) ai ?_;rw[AQ n];show h
   have u:Run (dG cc [9] (.loc,.int (t:Nat))) (S (bX rows (mi rows K0 d)) a o9) () (S (bX rows (mi rows K0 d)) a b):=eh aH;cases i:cK (cnt rows K0 t=1) with
   |false =>
    rw[i]at g;show⟨_,_,u,f (mr g (λh=>by cases h) λ_=>av),by rw[<-c];simp,b,?_⟩;rw[Ql,DD,i];simp[S,a]
   |true =>
    rw[i]at g;show⟨_,S (bX rows (mi rows K0 (d++[t]))) (a++[t]) b,u,f (mr g (λ_=>?_) λh=>by cases h),by rw[<-c];simp,b,?_⟩
    .have em:fD (a++[t])=fD a++[.int (t:Nat)]:=by simp[fD]
     change Run _ _ _ [b0,b1,a5 (.own,.lst (bX rows (mi rows K0 (d++[t])))),b3,b4,a5 (.own,.lst (fD (a++[t]))),o6,o7,o8,b];rw[em];show gb (k:=.own) (k':=.own) (r:=(.loc,.int (t:Nat))) rfl (af rfl) aK rfl rfl (by unfold fD;rw[c4];lia) av
    .rw[Ql,DD,i];simp[S,a]) (Kt rows rows.length w) [] (S (bX rows (mi rows K0 [])) R o9) ⟨rfl,o9,by simp⟩
 subst e;rw[i0]at m;rw[Dy,Dz v y]at m;show⟨l,m⟩
abbrev AS:List TM.S:=[.put 3 (.var 7) (.cst (.bl bD)),.J9 cc [9] .seq [.My 1 (.var 7) (.lst [])] vU]
def xG(n:Once rows)(y:rows.length<=120)(A:∀w,w∉ks->Kt rows rows.length w=[])(o:(K0++st.map (·.1)).Nodup)(hl:K0.length+st.length<=120)(vs:List U)(o7 o8 o9:Option (Kd×U)):∃(g:List U) (R:List Nat) (i j a:Option (Kd×U)),
  RI rows K0 (K0++st.map (·.1)) R/\(st=[]->R=[])/\Run (forM bD [7,8] (execs Γ AS) [(.bor 6,.lst (st.map stN))] (st.map λs=>(Kd.loc,stN s)))
   [b0,a5 (.own,.JU ks (ks.map (cJ (Kt rows rows.length)))),a5 (.own,.lst (bX rows λp=>(cnt rows K0 p:Int))),a5 (.own,.JU K0 vs),b4,a5 (.own,.lst []),a5 (.own,.lst (st.map stN)),o7,o8,o9] .nx
   [b0,a5 (.own,.JU ks (ks.map (cJ (Kt rows rows.length)))),a5 (.own,.lst (bX rows λp=>(cnt rows (K0++st.map (·.1)) p:Int))),a5 (.own,.JU (K0++st.map (·.1)) g),b4,a5 (.own,.lst (fD R)),a5 (.own,.lst (st.map stN)),i,j,a]:=by
 let S:=λ(K:List Str) (vs:List U) (R:List Nat) (o7 o8 o9:Option (Kd×U))=>([b0,a5 (.own,.JU ks (ks.map (cJ (Kt rows rows.length)))),a5 (.own,.lst (bX rows λp=>(cnt rows K p:Int))),a5 (.own,.JU K vs),b4,a5 (.own,.lst (fD R)),a5 (.own,.lst (st.map stN)),o7,o8,o9]:aw)
 have⟨st',B,b,g,R,i,j,a,e,x,C,q⟩:=bM (t:=bD) (is:=[7,8]) (body:=execs Γ AS) (rs:=[(.bor 6,.lst (st.map stN))]) (λs:Str×Nat=>(Kd.loc,stN s))
  (λd r l=>d++r=st/\∃(vs:List U) (R:List Nat) (o7 o8 o9:Option (Kd×U)),l=S (K0++d.map (·.1)) vs R o7 o8 o9/\RI rows K0 (K0++d.map (·.1)) R/\R.length<=120 * d.length/\(d=[]->R=[])) (λ_ _ l ⟨_,vs,R,o7,o8,o9,e,_⟩=>by subst e;show⟨⟨.own,rfl,rfl⟩,trivial⟩) (λd s r l D=>by
   have⟨b,vs,R,o7,o8,o9,e,x,C,q⟩:=D;subst e;have⟨w,p⟩:=s;have N:d.length<st.length:=by have:=Ū C0 b;simp at this;lia
   have m:w∉K0++d.map (·.1):=λz=>by
    rw[<-b,i3,<-ò,rr]at o;show o.2.2 w z w (by simp) rfl
   let c:Option (Kd×U):=a5 (.loc,.str w);let f:Option (Kd×U):=a5 (.loc,.int (p:Nat));have⟨a,G⟩:=rT (Γ:=Γ) n y m (R:=R) ⋯ (b0:=b0) (b1:=a5 (.own,.JU ks (ks.map (cJ (Kt rows rows.length))))) (b3:=a5 (.own,.JU (K0++d.map (·.1)++[w]) (vs++[.bl bD]))) (b4:=b4) (o6:=a5 (.own,.lst (st.map stN))) (o7:=c) (o8:=f) o9 (src:=[(.loc,cJ (Kt rows rows.length) w)]) (λ_=>trivial);have em:K0++(d++[(w,p)]).map (·.1)=K0++d.map (·.1)++[w]:=by simp
   have H:(K0++d.map (·.1)).length<1000:=by rw[gc,c4];lia
   have I:(match dN ks (ks.map (cJ (Kt rows rows.length))) w with|some v=>(Kd.loc,v)|none=>(.loc,U.lst []))=(.loc,cJ (Kt rows rows.length) w):=by
    rw[jh];by_cases h:w∈ks
    .rw[ť h]
    .rw[Ŧ h];unfold cJ;rw[A w h];rfl
   have J:((Kt rows rows.length w).map λt:Nat=>U.int (t:Nat)).map (λu=>(kE .loc,u))=(Kt rows rows.length w).map λt=>(Kd.loc,U.int (t:Nat)):=by rw[i6];rfl
   show⟨S (K0++d.map (·.1)) vs R c f o9,S (K0++d.map (·.1)++[w]) (vs++[.bl bD]) (R++(Kt rows rows.length w).filter λt=>cK (cnt rows (K0++d.map (·.1)) t=1)) c f a,j9 (.inl rfl),?_,by rw[<-b];simp,vs++[.bl bD],_,c,f,a,by rw[em],?_,?_,λz=>by simp at z⟩
   .show gW (k:=.own) (rv:=(.loc,.bl bD)) (rk:=(.loc,.str w)) ai rfl (af rfl) (aA aK (aA aK aL)) rfl rfl (vQ H m) ?_;show cE (rs:=[(.loc,cJ (Kt rows rows.length) w)]) (ae (GD (k:=.loc) (z:=(.own,.lst [])) (u:=.lst []) rfl (af rfl) (bY aj trivial aL (ke _)) vI I) aj) trivial (by change a5 (QR (λu=>(kE .loc,u)) _)=_;rw[J]) rfl G av
   .rw[em];show x.step n m
   .have:((Kt rows rows.length w).filter λt=>cK (cnt rows (K0++d.map (·.1)) t=1)).length<=120:=by
     show vr (sx _ _) ?_;have L:(Kt rows rows.length w).length<=(gs rows.length).length:=sx _ _;simp at L;lia
    rw[gc,gc,wh];lia) st [] (S K0 vs [] o7 o8 o9) ⟨rfl,vs,[],o7,o8,o9,by simp[S],by simpa using RI.start K0,by simp,λ_=>rfl⟩
 subst e;show⟨g,R,i,j,a,by simpa using x,λz=>q (by simpa using z),by simpa[S,fD] using B⟩
abbrev gL(a:List (List (Str×Nat))):List U:=a.map λl=>U.lst (l.map stN)
abbrev AU:List TM.S:=[.set 6 (.call "new_steps" [.var 0,.var 5,.var 3]),.set 5 (.lst []),.J9 bD [7,8] .seq [.var 6] AS,.ite (.cmp .ne (.var 6) (.lst [])) [.app 4 (.var 6)] []]
abbrev AV(Γ:Tab)(rows:List Row):Prop:=∀(R:List Nat) (K0:List Str) (vs:List U),(∀t∈R,t<rows.length)->∃st:List (Str×Nat),NS rows K0 R st/\Γ "new_steps" [.tup (rows.map A'),.lst (fD R),.JU K0 vs]=a5 (.ok (.own,.lst (st.map stN)))
theorem jT(G:Once rows)(H:rows.length<=120)(I:AV Γ rows)(J:∀w,w∉ks->Kt rows rows.length w=[]):∀(f:Nat) (c:List (Str×Nat)) (d:List (List (Str×Nat))) (R:List Nat) (vs:List U) (o6 o7 o8 o9:Option (Kd×U)),
  LI rows c R->d.flatten=c->d.length<=c.length->(rows.length - c.length)+(if R=[] then 1 else 2)<=f ->
  ∃(RW:List (Str×Nat)) (N:List (List (Str×Nat))) (st':aw),LI rows RW []/\N.flatten=RW/\N.length<=120/\st'[4]?=a5 (a5 (.own,.lst (gL N))) /\
   Run (gJ (J' Γ (.cmp .ne (.var 5) (.lst []))) (execs Γ AU) f) [a5 (.loc,.tup (rows.map A')),a5 (.own,.JU ks (ks.map (cJ (Kt rows rows.length)))),a5 (.own,.lst (bX rows λp=>(cnt rows (c.map (·.1)) p:Int))),a5 (.own,.JU (c.map (·.1)) vs),a5 (.own,.lst (gL d)),a5 (.own,.lst (fD R)),o6,o7,o8,o9] .nx st'
 |0,c,d,R,vs,o6,o7,o8,o9,_,_,_,h=>by split at h<;>lia
 |f+1,c,d,R,vs,o6,o7,o8,o9,x,O,Sv,h=>by
  have hsz:(20000:Nat)<=cL:=by decide
  have N6:∀{s:List (Str×Nat)} {g:List Nat},LI rows s g->s.length<=rows.length:=λ{s g} x=>by
   have:=vO x.nd x.wd;simpa using this
  have K_:=N6 x;let S:=λ(K:List Str) (vs:List U) (d:List (List (Str×Nat))) (R:List Nat) (o6 o7 o8 o9:Option (Kd×U))=>([a5 (.loc,.tup (rows.map A')),a5 (.own,.JU ks (ks.map (cJ (Kt rows rows.length)))),a5 (.own,.lst (bX rows λp=>(cnt rows K p:Int))),a5 (.own,.JU K vs),a5 (.own,.lst (gL d)),a5 (.own,.lst (fD R)),o6,o7,o8,o9]:aw)
  have Q:∀R:List Nat,Lc 50 (.lst (fD R))=bD:=λR=>by change dW 49 _=bD;show ox (λt:Nat=>((t:Nat):Int)) R 49
  have A:Run (J' Γ (.cmp .ne (.var 5) (.lst []))) (S (c.map (·.1)) vs d R o6 o7 o8 o9) (!(fD R).isEmpty) (S (c.map (·.1)) vs d R o6 o7 o8 o9) :=
   aN (aC rfl) (bY aj trivial aL (ke _)) ⟨⟨.own,rfl,rfl⟩,trivial⟩ (rN (Q R))
  by_cases T:R=[]
  .subst T;show⟨c,d,_,x,O,⋯,rfl,vP A⟩
  .rw[Ŧ T]at h;have Y:(!(fD R).isEmpty)=bD:=by
    cases R with
    |nil=>show absurd rfl T
    |cons a l=>rfl
   rw[Y]at A;have⟨st,n,J3⟩:=I R (c.map (·.1)) vs λt ht=>(x.RM t ht).1;have Kc:(c.map (·.1)++st.map (·.1)).Nodup:=by
    rw[rr];show⟨x.nd,n.once,λa ha b q e=>?_⟩;have⟨s,hs,rfl⟩:=ki.mp q;show(n.ok s hs).2.1 (e▸ha)
   have al:c.length+st.length<=rows.length:=by
    have:=vO Kc (L:=rows.map (·.1)) λy hy=>by
     rcases hQ.mp hy with hy|hy
     .show x.wd y hy
     .have⟨s,hs,rfl⟩:=ki.mp hy;obtain⟨_,_,r,q1,q2⟩:=n.ok s hs;show ki.mpr ⟨r,l' q1,q2⟩
    simpa using this
   let v:Option (Kd×U):=a5 (.own,.lst (st.map stN));have⟨i,g,j,m,o,y,ab,VT⟩:=xG (Γ:=Γ) G H J Kc (by rw[c4];lia) (b0:=a5 (.loc,.tup (rows.map A'))) (b4:=a5 (.own,.lst (gL d))) vs o7 o8 o9;have x':=x.step n y;have em:(c++st).map (·.1)=c.map (·.1)++st.map (·.1):=i3;have ac:Lc 50 (.lst (st.map stN))=bD:=by change dW 49 _=bD;show mH st 48
   have B:Run (J' Γ (.cmp .ne (.var 6) (.lst []))) (S (c.map (·.1)++st.map (·.1)) i d g v j m o) (!(st.map stN).isEmpty) (S (c.map (·.1)++st.map (·.1)) i d g v j m o) :=
    aN (aC rfl) (bY aj trivial aL (ke _)) ⟨⟨.own,rfl,rfl⟩,trivial⟩ (rN ac)
   have e1:(st.map stN).map (λu=>(kE (.bor 6),u))=st.map λs=>(Kd.loc,stN s):=by rw[i6];rfl
   have z:∀{LO:aw},Run (execs Γ [.ite (.cmp .ne (.var 6) (.lst []))
    [.app 4 (.var 6)]
    []]) (S (c.map (·.1)++st.map (·.1)) i d g v j m o) .nx LO->Run (execs Γ AU) (S (c.map (·.1)) vs d R o6 o7 o8 o9) .nx LO:=λh=>by
    show ay (r:=(.own,.lst (st.map stN))) (bB (ae (af rfl) (ae (aC rfl) (ae (aC rfl) aj))) ⟨⟨.own,rfl,rfl⟩,⟨.own,rfl,rfl⟩,trivial⟩ J3) bh ?_;show ay (r:=(.own,.lst [])) (bY aj trivial aL (ke _)) bh ?_;show cE (rs:=[(.bor 6,.lst (st.map stN))]) (ae (aC rfl) aj) ⟨⟨.own,rfl,rfl⟩,trivial⟩ (by change a5 (QR (λu=>(kE (.bor 6),u)) _)=_;rw[e1]) rfl VT h
   by_cases C:st=[]
   .have ag:=ab C;subst C;rw[show(!(([]:List (Str×Nat)).map stN).isEmpty)=cc from rfl]at B;have ee:c++[]=c:=t4 _;rw[ee]at x';have q:=z (mr B (λh=>by cases h) λ_=>av);have⟨P0,P1,st2,z1,z2,z3,z4,D⟩:=jT G H I J f c d g i v j m o x' O Sv (by rw[ť ag];lia);show⟨P0,P1,st2,z1,z2,z3,z4,zZ A q ?_⟩;have e3:c.map (·.1)++([]:List (Str×Nat)).map (·.1)=c.map (·.1):=by simp
    change Run _ (S (c.map (·.1)++([]:List (Str×Nat)).map (·.1)) i d g v j m o) _ _;rw[e3];show D
   .have VU:(!(st.map stN).isEmpty)=bD:=by
     cases st with
     |nil=>show absurd rfl C
     |cons a l=>rfl
    rw[VU]at B;have VW:0<st.length:=Ð.mpr C;have ef:gL (d++[st])=gL d++[.lst (st.map stN)]:=by simp[gL]
    have q:Run (execs Γ AU) (S (c.map (·.1)) vs d R o6 o7 o8 o9) .nx (S (c.map (·.1)++st.map (·.1)) i (d++[st]) g (a5 (.loc,.lst (st.map stN))) j m o):=by
     show z (mr B (λ_=>?_) λh=>by cases h);change Run _ _ _ [a5 (.loc,.tup (rows.map A')),a5 (.own,.JU ks (ks.map (cJ (Kt rows rows.length)))),a5 (.own,.lst (bX rows λp=>(cnt rows (c.map (·.1)++st.map (·.1)) p:Int))),a5 (.own,.JU (c.map (·.1)++st.map (·.1)) i),a5 (.own,.lst (gL (d++[st]))),a5 (.own,.lst (fD g)),a5 (.loc,.lst (st.map stN)),j,m,o];rw[ef];show gb (k:=.own) (k':=.own) (r:=(.bor 6,.lst (st.map stN))) (u:=.lst (st.map stN)) rfl (aC rfl) (D_ rfl) rfl rfl (by unfold gL;rw[c4];lia) av
    have⟨P0,P1,st2,z1,z2,z3,z4,D⟩:=jT G H I J f (c++st) (d++[st]) g i (a5 (.loc,.lst (st.map stN))) j m o x' (by rw[Ñ,O];simp) (by rw[gc,gc,wh];lia) (by rw[gc];split<;>lia);show⟨P0,P1,st2,z1,z2,z3,z4,zZ A q ?_⟩;rw[em]at D;show D
abbrev Eh(Γ:Tab)(rows:List Row):Prop:=∃ks:List Str,(∀w,w∉ks->Kt rows rows.length w=[])/\Γ "places_that_tell" [.tup (rows.map A')]=a5 (.ok (.own,.JU ks (ks.map (cJ (Kt rows rows.length)))))
def gM(q:Once rows)(s:rows.length<=120)(v:Eh Γ rows)(w:AV Γ rows):∃(f:List (Str×Nat)) (d:List (List (Str×Nat))),LI rows f []/\d.flatten=f/\d.length<=120/\cu Γ bt [.tup (rows.map A')]=a5 (.ok (.own,.lst (gL d))):=by
 have hsz:(20000:Nat)<=cL:=by decide
 have⟨ks,z,A⟩:=v;have B:TM.start [.tup (rows.map A')] 10=[a5 (.loc,.tup (rows.map A')),b6,b6,b6,b6,b6,b6,b6,b6,b6]:=by simp[TM.start,Kl,bN]
 let g:Option (Kd×U):=a5 (.loc,.tup (rows.map A'));let h:Option (Kd×U):=a5 (.own,.JU ks (ks.map (cJ (Kt rows rows.length))));let C:Option (Kd×U):=a5 (.own,.lst (bX rows λp=>(cnt rows [] p:Int)));have D:Run (ev Γ (.comp 1 cc .seq [.var 0] [] (.bi .len [.idx (.var 0) (.cst (.int 1))]))) [g,h,b6,b6,b6,b6,b6,b6,b6,b6] (.own,.lst (bX rows λp=>(cnt rows [] p:Int))) [g,h,b6,b6,b6,b6,b6,b6,b6,b6]:=by
  have c:=gh (cond:=ba Γ []) (elt:=ev Γ (.bi .len [.idx (.var 0) (.cst (.int 1))])) (src:=[(.loc,.tup (rows.map A'))]) (st:=[g,h,b6,b6,b6,b6,b6,b6,b6,b6]) trivial .loc (.inl rfl) A' (λr=>.int (r.2.length:Nat)) .loc (λ_=>iZ) rows [] (by simp;lia)
   (λy _=>⟨cC (ae (aO (x:=(.loc,A' y)) (af rfl) ai trivial rfl) aj) trivial (by rw[jc,c4]),aK⟩)
  rw[i0]at c;have e:(rows.map A').map (λu=>(kE .loc,u))=rows.map λr=>(Kd.loc,A' r):=by rw[i6];rfl
  have G:(rows.map λr=>U.int (r.2.length:Nat))=bX rows λp=>(cnt rows [] p:Int):=by
   unfold bX;apply M7
   .simp
   .intro i j k;have H:i<rows.length:=by simpa using j
    have l:told rows i=rows[i].2:=kR (by simp[H]);have I:cnt rows [] i=rows[i].2.length:=by unfold cnt tZ;rw[l];simp
    simp[I]
  rw[G]at c;show dc (rs:=[(.loc,.tup (rows.map A'))]) (ae (af rfl) aj) trivial (by change a5 _=_;rw[e]) c
 let m:=(gs rows.length).filter λp=>cK (cnt rows [] p=0);let n:aw:=[g,h,C,a5 (.own,.JU [] []),a5 (.own,.lst []),b6,b6,b6,b6,b6]
 have J:Run (ev Γ (.comp 2 bD .Pp [.var 2] [.cmp .eq (.var 1) (.cst (.int 0))] (.var 0))) n (.own,.lst (fD m)) n:=by
  have c:=mI (st:=n) (cond:=ba Γ [.cmp .eq (.var 1) (.cst (.int 0))]) (elt:=ev Γ (.var 0)) (src:=[(.bor 2,.lst (bX rows λp=>(cnt rows [] p:Int)))]) ⟨⟨.own,rfl,rfl⟩,trivial⟩ (λp:Nat=>U.int (p:Nat)) (λp:Nat=>U.int (cnt rows [] p:Int)) (λp:Nat=>U.int (p:Nat)) (λp=>cK (cnt rows [] p=0)) (gs rows.length) [] (by simp;lia)
   (λy _=>⟨dw (aN (af rfl) ai trivial (cq (by rw[Lo];simp))),af rfl⟩)
  rw[i0]at c;have e:((bX rows λp=>(cnt rows [] p:Int)).zipIdx.map λp=>(kE (.bor 2),U.tup [.int p.2,p.1]))=(gs rows.length).map λp:Nat=>(Kd.loc,U.tup [.int (p:Nat),.int (cnt rows [] p:Int)]):=by
   unfold bX;apply M7
   .simp
   .intro i j k;simp[kE]
  show dc (rs:=[(.bor 2,.lst (bX rows λp=>(cnt rows [] p:Int)))]) (ae (aC rfl) aj) ⟨⟨.own,rfl,rfl⟩,trivial⟩ (by change a5 _=_;rw[e]) c
 have L:LI rows [] m:=⟨trivial,λt l=>by
  have⟨a,b⟩:=my.mp l;show⟨u5.mp a,by simpa using b⟩,λt r j k=>.inl (my.mpr ⟨u5.mpr (dt.mp j).1,by simpa using k⟩)⟩
 have⟨f,d,st',N,O,Q,o,T⟩:=jT q s w z fuel [] [] m [] b6 b6 b6 b6 L rfl (hV _) (by unfold fuel;split<;>simp<;>lia);show⟨f,d,N,O,Q,?_⟩;show a_ rfl (.inl rfl) B (ay (r:=(.own,.JU ks (ks.map (cJ (Kt rows rows.length))))) (bB (ae (af rfl) aj) trivial A) bh (ay D bh (ay (r:=(.own,.JU [] [])) l_ bh (ay (r:=(.own,.lst [])) (bY aj trivial aL (ke _)) bh (ay J bh (z_ T (bH (aC o) (mn o))))))))
def xH(hs:Γ "steps_in_rounds" [.tup (rows.map A')]=a5 (.ok (.own,.lst (gL a))))(c:a.flatten=f)(hl:f.length<=120):cu Γ fC [.tup (rows.map A')]=a5 (.ok (.own,.lst (f.map stN))):=by
 have hsz:(20000:Nat)<=cL:=by decide
 have h:TM.start [.tup (rows.map A')] 3=[a5 (.loc,.tup (rows.map A')),b6,b6]:=by simp[TM.start,Kl,bN]
 let S:=λ(l:List (Str×Nat)) (o2:Option (Kd×U))=>([a5 (.loc,.tup (rows.map A')),a5 (.own,.lst (l.map stN)),o2]:aw)
 have⟨st',i,b,o2,e⟩:=bM (t:=cc) (is:=[2]) (body:=execs Γ [.ext 1 (.var 2)]) (rs:=[(.own,.lst (gL a))]) (λl:List (Str×Nat)=>(Kd.loc,U.lst (l.map stN)))
  (λd r st=>d++r=a/\∃o2:Option (Kd×U),st=S d.flatten o2) (λ_ _ _ _=>trivial) (λd y r st j=>by
   have⟨b,o2,e⟩:=j;subst e;have m:d.flatten.length+y.length<=120:=by
    have:=Ū (λl:List (List (Str×Nat))=>l.flatten.length) b;simp only[Ñ,Wv,gc,c]at this;lia
   show⟨S d.flatten (a5 (.loc,.lst (y.map stN))),S (d++[y]).flatten (a5 (.loc,.lst (y.map stN))),eh aH,?_,by rw[<-b];simp,_,rfl⟩;have em:(d++[y]).flatten.map stN=d.flatten.map stN++y.map stN:=by simp
   change Run _ _ _ [a5 (.loc,.tup (rows.map A')),a5 (.own,.lst ((d++[y]).flatten.map stN)),a5 (.loc,.lst (y.map stN))];rw[em];show zT (k:=.own) (k':=.own) rfl (af rfl) rfl rfl (vK (by rw[c4,c4];lia) rfl) av) a [] (S [] b6) ⟨rfl,b6,rfl⟩
 subst e;have e:(gL a).map (λu=>(kE .own,u))=a.map λl=>(Kd.loc,U.lst (l.map stN)):=by unfold gL;rw[i6];rfl
 have g:=a_ (Γ:=Γ) (fn:=fC) rfl (.inl rfl) h (ay (r:=(.own,.lst [])) (bY aj trivial aL (ke _)) bh (cE (rs:=[(.own,.lst (gL a))]) (st1:=S [] b6) (ae (bB (ae (af rfl) aj) trivial hs) aj) trivial rfl rfl (by rw[e];show i) (bH (aC rfl) (mn rfl))));rw[i0,c]at g;show g
end
section
variable{Γ:Tab}{rows:List Row}{names:List Str}
def ui(h:ss.length<64):L5 .sorted [(k,.lst (ss.map .str))]=a5 (.own,.lst ((aB ss).map .str)):=by
 change(strsOf (ss.map U.str)).bind _=_;rw[dP];change(if ss.length<64 then _ else _)=_;rw[ť h]
def uj{a:List (Str×Nat)}(hl:a.length<64)(ho:Γ "order" [.tup (rows.map A')]=a5 (.ok (.own,.lst (a.map stN)))):cu Γ fe [.tup (rows.map A')]=a5 (.ok (.own,.lst ((aB (a.map (·.1))).map .str))):=by
 have hsz:(20000:Nat)<=cL:=by decide
 have c:TM.start [.tup (rows.map A')] 1=[a5 (.loc,.tup (rows.map A'))]:=by simp[TM.start,Kl,bN]
 have b:=mI (st:=[a5 (.loc,.tup (rows.map A'))]) (cond:=ba Γ []) (elt:=ev Γ (.var 0)) (src:=[(.own,.lst (a.map stN))]) trivial (λs:Str×Nat=>U.str s.1) (λs=>U.int (s.2:Nat)) (λs=>U.str s.1) (λ_=>bD) a [] (by simp;lia) (λy _=>⟨iZ,af rfl⟩);rw[i0,PK.mpr (λ_ _=>rfl)]at b;have e:(a.map stN).map (λu=>(kE .own,u))=a.map λs=>(Kd.loc,U.tup [.str s.1,.int (s.2:Nat)]):=by rw[i6];rfl
 have d:(a.map λs=>U.str s.1)=(a.map (·.1)).map U.str:=by rw[i6];rfl
 rw[d]at b;show a_ rfl (.inl rfl) c (bH (cC (ae (dc (rs:=[(.own,.lst (a.map stN))]) (ae (bB (ae (af rfl) aj) trivial ho) aj) trivial (by change a5 (QR (λu=>(kE .own,u)) _)=_;rw[e]) b) aj) trivial (ui (by rw[c4];show hl))) ja)
structure RX(prog:List Fn):Prop where
 g:Kq prog "gathered" dA
 p:Kq prog "places_that_tell" bp
 n:Kq prog "new_steps" cU
 s:Kq prog "steps_in_rounds" bt
 o:Kq prog "order" fC
 l:Kq prog "learnt" fe
structure Kn(rows:List Row)(K:List Str):Prop where
 nd:K.Nodup
 sn:OR rows K
 cl:gk rows (·∈K)
def Kn.perm(a:Kn rows K)(b:Kn rows L):K.Perm L:=same a.nd b.nd a.sn b.sn a.cl b.cl
def Kn.of(s:LI rows a []):Kn rows (a.map (·.1)):=⟨s.nd,s.sn,s.closed⟩
def vV(L:RX prog)(n:Nat)(d:∀r∈rows,oo names r)(y:names.length<=24)(e:rows.length<=120):∃c:List (Str×Nat),LI rows c []/\c.length<=24/\J5 prog (n+4) "order" [.tup (rows.map A')]=a5 (.ok (.own,.lst (c.map stN))):=by
 have j:∀r∈rows,r.2.length<=8:=λr h=>(d r h).N6;have f:Once rows:=λr h=>(d r h).once;have i:∀r∈rows,r.1∈names:=λr h=>(d r h).word;have k:Eg (J5 prog (n+1)):=λps hl=>by
  have⟨ks,a,b⟩:=qb (Γ:=J5 prog n) hl;show⟨ks,a,(aJ L.g _).trans b⟩
 have l:Eh (J5 prog (n+2)) rows:=by
  have⟨ks,a,b⟩:=uh k f j e;show⟨ks,a,(aJ L.p _).trans b⟩
 have m:AV (J5 prog (n+2)) rows:=λR K0 vs q=>by
  have⟨st,a,b⟩:=ng (Γ:=J5 prog (n+1)) i ⋯ q (K0:=K0) (vs:=vs);show⟨st,a,(aJ L.n _).trans b⟩
 have⟨c,t,s1,s2,s3,s4⟩:=gM f e l m;have u:J5 prog (n+3) "steps_in_rounds" [.tup (rows.map A')]=a5 (.ok (.own,.lst (gL t))):=(aJ L.s _).trans s4;have v:c.length<=24:=by
  have:=vO (Kn.of s1).nd (L:=names) λx w=>by
   have⟨r,a,b⟩:=ki.mp (s1.wd x w);show b▸i r a
  rw[c4]at this;lia
 show⟨c,s1,v,(aJ L.o _).trans (xH u s2 ⋯)⟩
def vW(L:RX prog)(n:Nat)(a:∀r∈rows,oo names r)(b:names.length<=24)(c:rows.length<=120)(d:Kn rows K):J5 prog (n+5) "learnt" [.tup (rows.map A')]=a5 (.ok (.own,.lst ((aB K).map .str))):=by
 have⟨f,s1,s2,s3⟩:=vV L n a b c;have e:aB (f.map (·.1))=aB K:=fP ((Kn.of s1).perm d);rw[<-e];show(aJ L.l _).trans (uj ⋯ s3)
end
end KL
namespace TM
open PySem L2 Kj
section
def DA{a b:List Str}:bK .ne (.lst (a.map U.str)) (.lst (b.map U.str))=a5 (!cK (a=b)):=by
 have h:=@rE a b;simp only[bK]at h ⊢;split at h
 .rename_i c;rw[ť c,ti h]
 .cases h
def cz(rs:List Row):(a5 (if Kl (.tup (rs.map A'))=bD then Kd.loc else Kd.any,U.tup (rs.map A')):Option (Kd×U))=a5 (.loc,.tup (rs.map A')):=by
 rw[ť (by change cV (rs.map A')=bD;show bN rs)]
def rV{ss:List Str}:Mc .seq [(k,.tup (ss.map .str))]=a5 (ss.map λx=>(kE k,U.str x)):=by
 change a5 ((ss.map U.str).map λu=>(kE k,u))=_;rw[i6];rfl
def oD(a:us.length=fn.np)(hs:start us fn.ns=st0)(h:Run (execs Γ fn.body) st0 .nx st):cu Γ fn us=a5 (.ok (.loc,.J0)):=by
 subst hs;unfold cu;rw[ť a,show execs Γ fn.body (start us fn.ns)=_ from h]
def Ei(h:Run (ev Γ e) st x st1):Run (execs Γ (.NY c e::ss)) st (.rt .io (.str c)) st1:=aa (aa h aP) aP
def jl(a:us.length=fn.np)(hs:start us fn.ns=st0)(h:Run (execs Γ fn.body) st0 (.rt .io (.str c)) st):cu Γ fn us=a5 (.exc c):=by
 subst hs;unfold cu;rw[ť a,show execs Γ fn.body (start us fn.ns)=_ from h]
def vX(h:Γ f us=a5 (.ok (.loc,u))):Run (dE Γ f us) st (.inl (.loc,u)) st:=by
 change dE Γ f us st=_;unfold dE;rw[h]
def AW(h:Γ f us=a5 (.exc c)):Run (dE Γ f us) st (.inr c) st:=by
 change dE Γ f us st=_;unfold dE;rw[h]
def AX(a:Run (bj Γ es) st rs st)(b:bc rs st)(c:Run (dE Γ f (rs.map (·.2))) st (.inl r) st)(d:Run (execs Γ ss) st e st1):Run (execs Γ (.Nz f es::ss)) st e st1 :=
 aa (aa (aa a (aa (aY b) c)) aP) d
def AY(a:Run (bj Γ es) st rs st)(b:bc rs st)(d:Run (dE Γ f (rs.map (·.2))) st (.inr c) st):Run (execs Γ (.Nz f es::ss)) st (.rt .io (.str c)) st :=
 aa (aa (aa a (aa (aY b) d)) aP) aP
def IJ(h:st[j]?=a5 b6)(hk:k≠j)(b:c∈a):Run (kF a i j k (.inr c)) st .nx (st.set k (a5 (.loc,.exc c))):=by
 change kF a i j k (.inr c) st=_;unfold kF
 dsimp only
 rw[h];show ť ⟨hk,b⟩
def IK:Run (kF a i j k (.inl (.loc,u))) st .nx (st.set i (a5 (.loc,u))):=aa aH aP
def j_(h:Run (ev Γ a) st x st1)(c:eX d x.2=a5 b):Run (ev Γ (.Lp a D d)) st (.loc,.bl b) st1:=aa h (aa (bQ c) aP)
def IL(h:Run (ev Γ a) st x st1)(c:eX d x.2=a5 b):Run (J' Γ (.Lp a D d)) st b st1:=aa h (bQ c)
def Ej(h:sV a i b st=a5 (.ok r,st)):Run (ev Γ (.Oc a i b)) st r st:=h
abbrev AZ:Fn:=⟨"refuse_unknown",2,2,[.ite (.cmp .gt (.OK bD (.var 1) (.call "words_of" [.var 0])) (.cst (.int 0))) [.NY "Unknown" (.cst (.str "the book has no such word"))] []]⟩
def cF.ok(h:cF ws r):oo ws r:=⟨h.1,h.2.2.2,h.2.1,h.2.2.1⟩
structure Bq(ws:List Str)(rs:List Row):Prop where
 wl:ws.length<=24
 rl:rs.length<=84
 ok:∀r∈rs,cF ws r
def A0(n:ws.length<1000)(hk:gn ws ks)(e:cF ws r):
  ∃a b,Run (execs Γ AF) (qa rs ks (a5 (.loc,.str r.1)) (a5 (.loc,.tup (r.2.map .str))) o4) .nx (qa rs a (a5 (.loc,.str r.1)) (a5 (.loc,.tup (r.2.map .str))) b)/\gn ws a/\∀x,x∈a↔x∈ks\/x=r.1\/x∈r.2:=by
 have o:=hk.len;obtain⟨st',j,a,b,rfl,l,_,c⟩:=bM (rs:=[(.loc,.tup (r.2.map .str))]) (t:=cc) (is:=[4]) (body:=execs Γ Ef) (λx:Str=>(Kd.loc,U.str x)) (λd q st=>∃a b,st=qa rs a (a5 (.loc,.str r.1)) (a5 (.loc,.tup (r.2.map .str))) b/\gn ws a/\(∀x∈q,x∈ws)/\∀x,x∈a↔(x∈ks\/x=r.1)\/x∈d)
  (λ_ _ _ _=>trivial) (λd y q st h=>by
   have⟨f,b,rfl,g,i,c⟩:=h;have p:=g.len;show⟨qa rs f (a5 (.loc,.str r.1)) (a5 (.loc,.tup (r.2.map .str))) (a5 (.loc,.str y)),_,aH,gW (k:=.own) (k':=.own) ai rfl (af rfl) (aA aK (aA aK aL)) rfl rfl (jj ⋯) av,eO f y,_,rfl,g.ins (i y (by simp)),λx m=>i x (by simp[m]),λx=>?_⟩;rw[eC,c x,hQ,hY,or_assoc]) r.2 [] (qa rs (eO ks r.1) (a5 (.loc,.str r.1)) (a5 (.loc,.tup (r.2.map .str))) o4) ⟨_,_,rfl,hk.ins e.1,e.2.2.1,λx=>by rw[eC];simp⟩
 show⟨a,b,?_,l,λx=>by rw[c x,or_assoc,i0]⟩;show gW (k:=.own) (k':=.own) ai rfl (af rfl) (aA aK (aA aK aL)) rfl rfl (jj ⋯) (cE (rs:=[(.loc,.tup (r.2.map .str))]) (ae (af rfl) aj) trivial rV rfl j av)
def IM(h:Kq Pg "_law_all" AG)(p:ws.length<=24)(f:∀r∈rs,cF ws r):J5 Pg (d+1) "_law_all" [.tup (rs.map A')]=a5 (.ok (.own,.lst ((az rs).map .str))):=by
 obtain⟨st',g,ks,o2,o3,o4,rfl,hk,_,i⟩:=bM (rs:=[(.loc,.tup (rs.map A'))]) (t:=bD) (is:=[2,3]) (body:=execs (J5 Pg d) AF) (λr:Row=>(Kd.loc,A' r)) (λd q st=>∃ks o2 o3 o4,st=qa rs ks o2 o3 o4/\gn ws ks/\(∀r∈q,cF ws r)/\∀x,x∈ks↔∃r∈d,x=r.1\/x∈r.2)
  (λ_ _ _ _=>trivial) (λd y q st h=>by
   have⟨j,o2,o3,o4,rfl,k,c,l⟩:=h;have⟨b,s,m,n,o⟩:=A0 (Γ:=J5 Pg ‹Nat›) (rs:=rs) (o4:=o4) ⋯ k (c y (by simp));show⟨qa rs j (a5 (.loc,.str y.1)) (a5 (.loc,.tup (y.2.map .str))) o4,_,j9 (.inl rfl),m,b,_,_,_,rfl,n,λr a=>c r (by simp[a]),λx=>?_⟩;rw[o x,l x];constructor
   .rintro(⟨r,a,e⟩|e)
    .show⟨r,by simp[a],e⟩
    .show⟨y,by simp,e⟩
   .rintro⟨r,a,e⟩;rcases hQ.mp a with q|q
    .show .inl ⟨r,q,e⟩
    .rw[hY]at q;subst q;show .inr e) rs [] (qa rs [] b6 b6 b6) ⟨[],b6,b6,b6,rfl,⟨by simp,by simp⟩,f,by simp⟩
 have hl:=hk.len;have e:aB ks=az rs:=fP ((O1 hk.1 (bP _)).mpr λx=>by rw[i x,bR,dy,i0]);show(aJ h _).trans (a_ (st0:=[a5 (.loc,.tup (rs.map A')),b6,b6,b6,b6]) rfl (.inl rfl) (Ū (λx:Option (Kd×U)=>[x,b6,b6,b6,b6]) (cz rs)) (ay (st2:=qa rs [] b6 b6 b6) l_ bh (cE (rs:=[(.loc,.tup (rs.map A'))]) (ae (af rfl) aj) trivial jk rfl g (bH (cC (ae (aC rfl) aj) ∅ ?_) ja))));change(if ks.length<64 then a5 (Kd.own,U.lst ((aB ks).map .str)) else b6)=_;rw[ť ⋯,e]
def all2(h:Kq Pg "_law_all" AG)(a:Bq ws rs):J5 Pg (d+1) "_law_all" [.tup (rs.map A')]=a5 (.ok (.own,.lst ((az rs).map .str))):=IM h a.wl a.ok
def GJ(h:Kq Pg "_law_all" AG):AH (J5 Pg (d+1)):=λws rs c a=>⟨_,IM h c a,mB _,λx f=>by
 have⟨r,b,e⟩:=dy.mp (iw.mp f);rcases e with rfl|e
 .show(a r b).1
 .show(a r b).2.2.1 _ e⟩
def xI(l:mO Γ)(m:AL Γ){ns:List Int}(n:ns.length<1000)(e:Src T u)(y:T+1000<2 ^ 62)(z:1<=ws.length)(f:ws.length<=24):
  ∃(rs:List Row) (a:List Int) (u':U),Run (ev Γ (.JW "_law_widened" [.var 3,.JW "_law_book" [.var 1,.var 3,.var 4] [0,1]] [0])) (o0::a5 (.own,.lst (ns.map .int))::o2::a5 (.own,u)::a5 (.own,.lst (ws.map .str))::rest) (.loc,.tup (rs.map A')) (o0::a5 (.own,.lst (a.map .int))::o2::a5 (.own,u')::a5 (.own,.lst (ws.map .str))::rest)/\Bq ws rs:=by
 have⟨b,rfl,c⟩:=e.lst;have⟨rs,a,u2,o,p,q,A,s2⟩:=l ns (.lst b) ws _ e ⋯ n ⋯ ⋯;have⟨g,rfl,d⟩:=s2.lst;have s:=AM (Γ:=Γ) (st:=o0::a5 (.own,.lst (ns.map .int))::o2::a5 (.own,.lst b)::a5 (.own,.lst (ws.map .str))::rest) (st1:=o0::a5 (.own,.lst (ns.map .int))::o2::a5 (.own,.lst b)::a5 (.own,.lst (ws.map .str))::rest) (i:=1) (j:=3) (k0:=.own) (k:=.own) (k0':=.own) (k':=.own) (rs:=[(.bor 4,.lst (ws.map .str))]) ⋯ rfl rfl rfl rfl (ae (aC rfl) aj) rfl rfl (gI ns) rfl rfl c rfl ⟨⟨.own,rfl,rfl⟩,trivial⟩ (λr h=>by rw[hY]at h;subst h;rfl) o (.inr rfl);have⟨t,B,v,b3,w,s3⟩:=m _ (.lst g) ws rs s2 ⋯ f p.1 q;have⟨x,rfl,C⟩:=s3.lst;show⟨t,a,.lst x,iy (Γ:=Γ) (st:=o0::a5 (.own,.lst (ns.map .int))::o2::a5 (.own,.lst b)::a5 (.own,.lst (ws.map .str))::rest) (st1:=o0::a5 (.own,.lst (a.map .int))::o2::a5 (.own,.lst g)::a5 (.own,.lst (ws.map .str))::rest) (i:=3) (k0:=.own) (k:=.own) (rs:=[(.loc,.tup (rs.map A'))]) rfl rfl (ae s aj) rfl rfl d rfl v (.inr rfl),f,w,b3⟩
end
end TM
namespace TM
open PySem L2 Kj Od
section
def jU(hk:k=.loc\/k=.any)(h:st[i]?=a5 (a5 (k,u))):Run (ev Γ (.var i)) st (k,u) st:=by
 rcases hk with rfl|rfl
 .show af h
 .show aF h
def V_K(hk:k=.loc\/k=.any)(h:Kl u=bD):Run (lift (k,u)) st u st:=by
 rcases hk with rfl|rfl
 .show aK
 .show j7 h
def gp(hk:k=.loc\/k=.any)(h:bc rs st):bc ((k,u)::rs) st:=by rcases hk with rfl|rfl<;>show h
def JN(hk:k=.loc\/k=.any):kE k=k:=by rcases hk with rfl|rfl<;>rfl
def rW{told known:List Str}(hk:k=.loc\/k=.any)(hl:told.length<=1000)(hs:Run (ev Γ src) st (k,.tup (told.map .str)) st)(b:st[j]?=a5 (a5 (.own,w)))(c:∀x:Str,bK .isin (.str x) w=a5 (cK (x∈known))):
  Run (ev Γ (.bi .all [.comp 1 cc .seq [src] [] (.cmp .isin (.var 0) (.var (j+1)))])) st (.loc,.bl (told.all λx=>cK (x∈known))) st:=by
 have hsz:(1000:Nat)<=cL:=by decide
 have a:=gh (cond:=ba Γ []) (elt:=ev Γ (.cmp .isin (.var 0) (.var (j+1)))) (src:=[(k,.tup (told.map .str))]) (st:=st) (gp hk trivial) k hk U.str (λx=>.bl (cK (x∈known))) .loc (λ_=>iZ) told [] (by simp;lia)
  (λy _=>⟨fG (jU hk rfl) (aC (by simpa using b)) (gp hk ⟨⟨.own,rfl,by simpa using b⟩,trivial⟩) (c y),aK⟩)
 rw[i0]at a;have e:(told.map U.str).map (λu=>(kE k,u))=told.map λr=>(k,U.str r):=by rw[i6,JN hk];rfl
 have d:(told.map λx=>U.bl (cK (x∈known)))=(told.map λx=>cK (x∈known)).map U.bl:=by rw[i6];rfl
 rw[d]at a;have f:(told.all λx=>cK (x∈known))=((told.map λx=>cK (x∈known)).all id):=by rw[Ww];rfl
 rw[f];show cC (ae (dc (rs:=[(k,.tup (told.map .str))]) (ae hs aj) (gp hk trivial) (by change a5 _=_;rw[e]) a) aj) trivial (p7 _)
abbrev IQ:List S:=[.ite (.and [.cmp .J4 (.var 3) (.var 1),.bi .all [.comp 1 cc .seq [.var 4] [] (.cmp .isin (.var 0) (.var 2))]]) [.put 1 (.var 3) (.cst (.bl bD)),.set 2 (.cst (.bl bD))] []]
abbrev GK:List S:=[.set 2 (.cst (.bl cc)),.J9 bD [3,4] .seq [.var 0] IQ]
abbrev DB:Fn:=⟨"_law_learnt",1,5,[.set 1 (.LM cc),.set 2 (.cst (.bl bD)),.OL (.var 2) GK,.ret (.var 1)]⟩
inductive Bv(rs:List Row):Kd->U->Prop
 |tup:Bv rs .loc (.tup (rs.map A'))
 |lst:Bv rs .any (.lst (rs.map A'))
def Bv.kd{W:U}(h:Bv rs k W):k=.loc\/k=.any:=by cases h<;>simp
def Bv.it{W:U}(h:Bv rs k W):Mc .seq [(k,W)]=a5 (rs.map λr=>(k,A' r)):=by
 cases h
 .show jk
 .change a5 ((rs.map A').map λu=>(kE .any,u))=_;rw[i6];rfl
def Bv.bg{W:U}(h:Bv rs k W):(a5 (if Kl W=bD then Kd.loc else Kd.any,W):Option (Kd×U))=a5 (k,W):=by
 cases h
 .show cz rs
 .rfl
abbrev kI(k:Kd)(W:U)(K:List Str)(b:Bool)(o3 o4:Option (Kd×U)):aw:=[a5 (k,W),a5 (.own,kG K),a5 (.loc,.bl b),o3,o4]
structure OU(ws:List Str)(rs:List Row)(K:List Str):Prop where
 ks:gn ws K
 snd:OR rs K
def OU.add(x:OU ws rs K)(b:r∈rs)(c:r.1∈ws)(d:∀y∈r.2,y∈K):OU ws rs (eO K r.1) :=
 ⟨x.ks.ins c,λC a y f=>(eC.mp f).elim (x.snd C a y) λe=>e▸a r b λz hz=>x.snd C a z (d z hz)⟩
def DC{W:U}(v:Bv rs k W)(I:ws.length<=40)(z:∀r∈rs,cF ws r)(x:OU ws rs K0):
  ∃(g:List Str) (b:Bool) (o p:Option (Kd×U)),Run (execs Γ GK) (kI k W K0 b0 o3 o4) .nx (kI k W g b o p)/\OU ws rs g/\(b=bD->K0.length<g.length)/\(b=cc->g=K0/\gk rs (·∈K0)):=by
 have hk:=v.kd;obtain⟨st1,C,_,g,b,o,p,rfl,i,l,c⟩:=bM (t:=bD) (is:=[3,4]) (body:=execs Γ IQ) (rs:=[(k,W)]) (λr:Row=>(k,A' r))
  (λd r st=>d++r=rs/\∃(K:List Str) (b:Bool) (o3 o4:Option (Kd×U)),st=kI k W K b o3 o4/\OU ws rs K/\(b=bD->K0.length<K.length)/\(b=cc->K=K0/\∀r∈d,(∀y∈r.2,y∈K0)->r.1∈K0)) (λ_ _ _ _=>gp hk trivial) (λd a r st D=>by
   have⟨q,K,b,o3,o4,e,i,l,c⟩:=D;subst e;have s:a∈rs:=by rw[<-q];simp
   have J:=(z a s).2.2.2;have L:=i.ks.len;have m:Run (J' Γ (.and [.cmp .J4 (.var 3) (.var 1),.bi .all [.comp 1 cc .seq [.var 4] [] (.cmp .isin (.var 0) (.var 2))]])) (kI k W K b (a5 (k,.str a.1)) (a5 (k,.tup (a.2.map .str)))) (!cK (a.1∈K)&&a.2.all λy=>cK (y∈K)) (kI k W K b (a5 (k,.str a.1)) (a5 (k,.tup (a.2.map .str)))) :=
    iY (pU (aN (jU hk rfl) (aC rfl) (gp hk ⟨⟨.own,rfl,rfl⟩,trivial⟩) jP) λ_=>dw (zS (rW (j:=1) (w:=kG K) hk ⋯ (jU hk rfl) rfl λ_=>pZ)))
   have A:Run (dG bD [3,4] (k,A' a)) (kI k W K b o3 o4) () (kI k W K b (a5 (k,.str a.1)) (a5 (k,.tup (a.2.map .str)))):=j9 hk;cases f:(!cK (a.1∈K)&&a.2.all λy=>cK (y∈K)) with
   |false =>
    rw[f]at m;show⟨_,_,A,aZ m av av,by rw[<-q];simp,K,b,_,_,rfl,i,l,λu=>⟨(c u).1,λn LG hz=>?_⟩⟩;rcases hQ.mp LG with LG|LG
    .show(c u).2 n LG hz
    .rw[hY]at LG;subst LG;rw[<-(c u).1]at hz ⊢;by_cases B:n.1∈K
     .show B
     .have:(!cK (n.1∈K)&&n.2.all λy=>cK (y∈K))=bD:=by
       rw[ŧ B];simpa using hz
      rw[this]at f;cases f
   |true =>
    rw[f]at m;simp only[cb,td,decide_eq_false_iff_not,i8,Ť]at f;have G:eO K a.1=K++[a.1]:=by unfold eO;rw[Ŧ f.1]
    show⟨_,kI k W (eO K a.1) bD (a5 (k,.str a.1)) (a5 (k,.tup (a.2.map .str))),A,dH m (gW (k:=.own) (k':=.own) ai rfl (jU hk rfl) (aA aK (aA (V_K hk rfl) aL)) rfl rfl (jj ⋯) (ay ai aH av)) av,by rw[<-q];simp,eO K a.1,bD,_,_,rfl,i.add s (z a s).1 f.2,λ_=>?_,λh=>by cases h⟩;rw[G,gc,wh];cases b with
    |true=>have:=l rfl;lia
    |false=>rw[(c rfl).1];lia) rs [] (kI k W K0 cc o3 o4) ⟨rfl,K0,cc,o3,o4,rfl,x,(λh=>by cases h),λ_=>⟨rfl,λr H=>by cases H⟩⟩
 rw[i0]at c;show⟨g,b,o,p,ay ai aH (cE (rs:=[(k,W)]) (st1:=kI k W K0 cc o3 o4) (ae (jU hk rfl) aj) (gp hk trivial) v.it (by rcases hk with rfl|rfl<;>rfl) C av),i,l,c⟩
theorem qc{W:U}(i:Bv rs k W)(j:ws.length<=40)(l:∀r∈rs,cF ws r):
  ∀(f:Nat) (K0:List Str) (o3 o4:Option (Kd×U)),OU ws rs K0->64 - K0.length<f->∃(a:List Str) (c d:Option (Kd×U)),Run (gJ (J' Γ (.var 2)) (execs Γ GK) (f+1)) (kI k W K0 bD o3 o4) .nx (kI k W a cc c d)/\OU ws rs a/\gk rs (·∈a)
 |0,_,_,_,_,h=>by lia
 |f+1,K0,o3,o4,x,h=>by
  have⟨a,b,c,d,m,g,n,o⟩:=DC (Γ:=Γ) i j l x (b0:=bD) (o3:=o3) (o4:=o4);cases b with
  |false =>
   have⟨e,p⟩:=o rfl;subst e;show⟨a,c,d,zZ (jQ rfl) m (vP (jQ rfl)),g,p⟩
  |true =>
   have:=n rfl;have:=g.ks.len;have⟨q,s,t,u,v,w⟩:=qc i j l f a c d g ⋯;show⟨q,s,t,zZ (jQ rfl) m u,v,w⟩
abbrev IS(m:Nat)(Γ:Tab):Prop:=∀(ws:List Str) (rs:List Row) (k:Kd) (W:U),Bv rs k W->ws.length<=m->(∀r∈rs,cF ws r)->∃K,Γ "_law_learnt" [W]=a5 (.ok (.own,kG K))/\gn ws K/\KL.Kn rs K
@[reducible]def IT:=IS 24
def JO(e:m<=40)(h:Kq Pg "_law_learnt" DB):IS m (J5 Pg (d+1)):=λws rs k W a f b=>by
 have⟨K,g,i,q,x,c⟩:=qc (Γ:=J5 Pg d) a ⋯ b 999999999999 [] b6 b6 ⟨⟨.nil,λ_ h=>absurd h vl⟩,λ_ _ _ h=>absurd h vl⟩ (by simp);show⟨K,(aJ h _).trans (a_ rfl (.inl rfl) (st0:=[a5 (k,W),b6,b6,b6,b6]) (Ū (λx:Option (Kd×U)=>[x,b6,b6,b6,b6]) a.bg) (ay l_ bh (ay ai aH (z_ q (bH (aC rfl) (mn rfl)))))),x.ks,x.ks.1,x.snd,c⟩
def JP(h:Kq Pg "_law_learnt" DB):IT (J5 Pg (d+1)):=JO (by decide) h
abbrev Ln(rs:List Row)(x:Str):Prop:=∀C:Str->Prop,gk rs C->C x
def Kn.mem(h:KL.Kn rs K):x∈K↔Ln rs x:=⟨λa C b=>h.sn C b x a,λhl=>hl _ h.cl⟩
def Kn.some(c:ws.length<=24)(a:∀r∈rs,cF ws r):∃K,KL.Kn rs K/\gn ws K:=by
 have⟨K,d,e,q,x,b⟩:=qc (Γ:=λ_ _=>b6) (Bv.tup (rs:=rs)) ⋯ a 999999999999 [] b6 b6 ⟨⟨.nil,λ_ h=>absurd h vl⟩,λ_ _ _ h=>absurd h vl⟩ (by simp);show⟨K,⟨x.ks.1,x.snd,b⟩,x.ks⟩
end
abbrev wo(rs:List Row)(o:Str):List Row:=rs.filter λr=>!cK (r.1=o)
def A4:r∈wo rs o↔r∈rs/\r.1≠o:=by unfold wo;rw[my];simp
def Bq.wo(h:Bq ws rs)(o:Str):Bq ws (wo rs o):=⟨h.wl,vr (sx _ _) h.rl,λr a=>h.ok r (A4.mp a).1⟩
section
def A5(hl:rs.length<=1000)(hk:k=.loc\/k=.any)(b:st[i]?=a5 (a5 (.loc,.tup (rs.map A'))))(c:st[j]?=a5 (a5 (k,.str o))):
  Run (ev Γ (.comp 1 cc .seq [.var i] [.cmp .ne (.idx (.var 0) (.cst (.int 0))) (.var (j+1))] (.var 0))) st (.own,.lst ((wo rs o).map A')) st:=by
 have hsz:(1000:Nat)<=cL:=by decide
 have a:=jO (cond:=ba Γ [.cmp .ne (.idx (.var 0) (.cst (.int 0))) (.var (j+1))]) (elt:=ev Γ (.var 0)) (src:=[(.loc,.tup (rs.map A'))]) (st:=st) trivial .loc (.inl rfl) A' A' (λr=>!cK (r.1=o)) .loc rs [] (by simp;lia)
  (λy _=>⟨dw (aN (x:=(.loc,.str y.1)) (aO (af rfl) ai trivial (bU rfl)) (jU (k:=k) hk (by simpa using c)) (gp (.inl rfl) (gp hk trivial)) mG),λ_=>⟨af rfl,aK⟩⟩)
 rw[i0]at a;show dc (rs:=[(.loc,.tup (rs.map A'))]) (ae (af b) aj) trivial jk a
abbrev VY:Fn:=⟨"without",2,2,[.ret (.bi .tuple [.comp 1 cc .seq [.var 0] [.cmp .ne (.idx (.var 0) (.cst (.int 0))) (.var 2)] (.var 0)])]⟩
def vY:L5 .tuple [(k,.lst us)]=a5 (kE k,.tup us):=rfl
def jm{rs:List Row}(n:Nat):start [.tup (rs.map A'),.str w] (n+2)=a5 (.loc,.tup (rs.map A'))::a5 (.loc,.str w)::i1 n b6:=by
 change a5 (if Kl (.tup (rs.map A'))=bD then Kd.loc else Kd.any,U.tup (rs.map A'))::a5 (Kd.loc,U.str w)::i1 (n+2 - 2) b6=_;rw[cz];rfl
def JQ(h:Kq Pg "without" VY)(hl:rs.length<=1000)(o:Str):J5 Pg (d+1) "without" [.tup (rs.map A'),.str o]=a5 (.ok (.loc,.tup ((wo rs o).map A'))) :=
 (aJ h _).trans (a_ rfl (.inr rfl) (jm 0) (bH (cC (ae (A5 (j:=1) (k:=.loc) hl (.inl rfl) rfl rfl) aj) trivial vY) da))
abbrev GL:List S:=[.put 3 (.var 5) (.cst (.bl bD))]
abbrev Xq:List S:=[.ite (.cmp .isin (.idx (.var 4) (.cst (.int 0))) (.var 3)) [.app 2 (.var 4),.J9 cc [5] .seq [.idx (.idx (.var 0) (.idx (.var 4) (.cst (.int 1)))) (.cst (.int 1))] GL] []]
abbrev VZ:Fn:=⟨"order_up_to",2,6,[.set 2 (.lst []),.set 3 (.Qt 1),.J9 cc [4] .rev [.call "order" [.var 0]] Xq,.ret (.NX .L4 [.var 2])]⟩
def IU(h:st[i]?=a5 (a5 (.loc,.str y))):Run (ev Γ (.Qt i)) st (.own,.JU [y] [.bl bD]) st:=by
 change yR i st=_;unfold yR;rw[h]
theorem A6:∀{a b:List (Str×Nat)}{y:Str×Nat}{K:List Str},vS rs K (a++y::b)->∃r,rs[y.2]?=a5 r/\r.1=y.1/\∀x∈r.2,x∈K++a.map (·.1)
 |[],b,y,K,h=>by
  obtain⟨_,r,c,d,e⟩:=h.1;show⟨r,c,d,by simpa using e⟩
 |s::a,b,y,K,h=>by
  have⟨r,c,d,e⟩:=A6 (a:=a) h.2;show⟨r,c,d,by simpa using e⟩
abbrev jn(rs:List Row)(w:Str)(bk:List (Str×Nat))(a:List Str)(o4 o5:Option (Kd×U)):aw:=[a5 (.loc,.tup (rs.map A')),a5 (.loc,.str w),a5 (.own,.lst (bk.map stN)),a5 (.own,kG a),o4,o5]
def DE{b ts:List Str}(o:ws.length<=24)(hk:gn ws b)(l:∀x∈ts,x∈ws):
  ∃a c,Run (forM cc [5] (execs Γ GL) [(.loc,.tup (ts.map .str))] (ts.map λx=>(Kd.loc,U.str x))) (jn rs w bk b o4 o5) .nx (jn rs w bk a o4 c)/\gn ws a/\(∀x∈b,x∈a)/\∀x∈ts,x∈a:=by
 obtain⟨st',m,a,c,rfl,f,g,h,_⟩:=bM (rs:=[(.loc,.tup (ts.map .str))]) (t:=cc) (is:=[5]) (body:=execs Γ GL) (λx:Str=>(Kd.loc,U.str x)) (λd q st=>∃a c,st=jn rs w bk a o4 c/\gn ws a/\(∀x∈b,x∈a)/\(∀x∈d,x∈a)/\∀x∈q,x∈ws)
  (λ_ _ _ _=>trivial) (λd y q st n=>by
   have⟨i,o5,rfl,f,g,h,j⟩:=n;have p:=f.len;show⟨jn rs w bk i o4 (a5 (.loc,.str y)),_,aH,gW (k:=.own) (k':=.own) ai rfl (af rfl) (aA aK (aA aK aL)) rfl rfl (jj ⋯) av,eO i y,_,rfl,f.ins (j y (by simp)),λx e=>eC.mpr (.inl (g x e)),λx e=>?_,λx e=>j x (by simp[e])⟩;rcases hQ.mp e with q|q
   .show eC.mpr (.inl (h x q))
   .rw[hY]at q;show eC.mpr (.inr q)) ts [] (jn rs w bk b o4 o5) ⟨b,o5,rfl,hk,λ_ q=>q,λ_ q=>absurd q vl,l⟩
 show⟨a,c,m,f,g,h⟩
end
section
abbrev A7:Fn:=⟨"refuse_unlearnt",2,2,[.ite (.cmp .J4 (.var 1) (.call "learnt" [.var 0])) [.NY "Unlearnt" (.fst [.cst (.str "the word "),.var 1,.cst (.str " can't be learnt")])] []]⟩
abbrev Ek(Γ:Tab):Prop:=∀(ws:List Str) (rs:List Row) (K:List Str),Bq ws rs->KL.Kn rs K->Γ "learnt" [.tup (rs.map A')]=a5 (.ok (.own,.lst ((aB K).map .str)))
def IV(L:KL.RX Pg)(n:Nat):Ek (J5 Pg (n+5)):=λws rs K a b=>KL.vW L n (λr c=>(a.ok r c).ok) a.wl (by have:=a.rl;lia) b
def JR(h:Kq Pg "refuse_unlearnt" A7)(c:Ek (J5 Pg d))(e:Bq ws rs)(f:KL.Kn rs K)(j:w.length<=20):J5 Pg (d+1) "refuse_unlearnt" [.tup (rs.map A'),.str w]=a5 (if w∈K then .ok (.loc,.J0) else .exc "Unlearnt"):=by
 have a:Run (J' (J5 Pg d) (.cmp .J4 (.var 1) (.call "learnt" [.var 0]))) [a5 (.loc,.tup (rs.map A')),a5 (.loc,.str w)] (cK (w∉aB K)) [a5 (.loc,.tup (rs.map A')),a5 (.loc,.str w)]:=aN (af rfl) (bB (ae (af rfl) aj) trivial (c ws rs K e f)) trivial de;have b:w∈aB K↔w∈K:=(bF K).mem_iff;by_cases hk:w∈K
 .rw[ŧ (by rw[b];simpa using hk)]at a;rw[ť hk];show(aJ h _).trans (oD rfl (jm 0) (aZ a av av))
 .rw[Ũ (by rw[b];show hk)]at a;rw[Ŧ hk];have g:(mN++("the word ":Str)).length<=1000:=by decide +kernel
  have i:((mN++("the word ":Str))++w).length<=1000:=by
   rw[len_list,app_list,gc,<-len_list,<-len_list];have:(mN++("the word ":Str)).length=9:=by decide +kernel
   lia
  show(aJ h _).trans (jl rfl (jm 0) (pR (jM a (Ei (Iv (tY ai (pV (by decide +kernel) (by decide)) (tY (af rfl) (pV ⋯ g) (tY ai (pV (by decide +kernel) i) Iu))))))))
structure Mst(rs:List Row)(w:Str)(M:List Str):Prop where
 nd:M.Nodup
 iff:∀o,o∈M↔(Ln rs o/\o≠w)/\¬Ln (wo rs o) w
end
section
abbrev A8(a b c d e f g h i:List (Str×Bool)):Fn:=⟨"_law_kind",1,2,
   [.set 1 (.lst [.Lp (.var 0) "Unknown" a,.Lp (.var 0) "Unlearnt" b,.Lp (.var 0) "TooMany" c,.Lp (.var 0) "Lacking" d]),
    .set 1 (.bin .add (.var 1) (.lst [.Lp (.var 0) "NoText" e,.Lp (.var 0) "Unfit" f,.Lp (.var 0) "NoRow" g,.Lp (.var 0) "NoDeed" h])),
    .ite (.or [.cmp .ne (.Oc cc 1 bD) (.cst (.int 1)),.not (.Lp (.var 0) "ValueError" i)])
      [.ret (.cst (.str "none"))]
      [],
    .ret (.idx (.lst [(.cst (.str "unknown")),(.cst (.str "unlearnt")),(.cst (.str "many")),(.cst (.str "lacking")),(.cst (.str "text")),(.cst (.str "unfit")),(.cst (.str "row")),(.cst (.str "deed"))]) (.Oc bD 1 bD))]⟩
def oE(o:eX p (.exc c)=a5 b1)(q:eX s (.exc c)=a5 d)(t:eX v (.exc c)=a5 b3)(w:eX y (.exc c)=a5 b4)(z:eX A (.exc c)=a5 f)(B:eX C (.exc c)=a5 g)(D:eX G (.exc c)=a5 i)(H:eX I (.exc c)=a5 j)(J:eX L (.exc c)=a5 bD)
  (N:sV cc 1 bD [a5 (.loc,.exc c),a5 (.own,.lst [.bl b1,.bl d,.bl b3,.bl b4,.bl f,.bl g,.bl i,.bl j])]=a5 (.ok (.loc,.int 1),[a5 (.loc,.exc c),a5 (.own,.lst [.bl b1,.bl d,.bl b3,.bl b4,.bl f,.bl g,.bl i,.bl j])]))
  (O:sV bD 1 bD [a5 (.loc,.exc c),a5 (.own,.lst [.bl b1,.bl d,.bl b3,.bl b4,.bl f,.bl g,.bl i,.bl j])]=a5 (.ok (.loc,.int n),[a5 (.loc,.exc c),a5 (.own,.lst [.bl b1,.bl d,.bl b3,.bl b4,.bl f,.bl g,.bl i,.bl j])]))
  (Q:Ky [U.str "unknown",.str "unlearnt",.str "many",.str "lacking",.str "text",.str "unfit",.str "row",.str "deed"] n=a5 (.str x)):cu Γ (A8 p s v y A C G I L) [.exc c]=a5 (.ok (.loc,.str x)):=by
 have T:(1000:Nat)<=cL:=by decide
 have l:(4:Nat)<=cL:=by lia
 have m:(8:Nat)<=cL:=by lia
 have a:∀(r:Kd×U) (rs:List (Kd×U)) (us:List U) (st:aw),r.1=.loc->Run (c7 rs) st us st->Run (c7 (r::rs)) st (r.2::us) st:=λr rs us st e h=>aA (by have⟨k,u⟩:=r;cases e;show aK) h;show a_ rfl (.inr rfl) (st:=[a5 (.loc,.exc c),a5 (.own,.lst [.bl b1,.bl d,.bl b3,.bl b4,.bl f,.bl g,.bl i,.bl j])]) (st0:=[a5 (.loc,.exc c),b6]) rfl (ay (r:=(.own,.lst [.bl b1,.bl d,.bl b3,.bl b4])) (st1:=[a5 (.loc,.exc c),b6]) ?_ bh (ay (r:=(.own,.lst [.bl b1,.bl d,.bl b3,.bl b4,.bl f,.bl g,.bl i,.bl j])) (st1:=[a5 (.loc,.exc c),a5 (.own,.lst [.bl b1,.bl d,.bl b3,.bl b4])]) ?_ bh (aZ (st2:=[a5 (.loc,.exc c),a5 (.own,.lst [.bl b1,.bl d,.bl b3,.bl b4,.bl f,.bl g,.bl i,.bl j])]) ?_ av (bH ?_ da))))
 .show bY (ae (j_ (af rfl) o) (ae (j_ (af rfl) q) (ae (j_ (af rfl) t) (ae (j_ (af rfl) w) aj)))) trivial (a _ _ _ _ rfl (a _ _ _ _ rfl (a _ _ _ _ rfl (a _ _ _ _ rfl aL)))) l
 .show bG (aC rfl) (bY (ae (j_ (af rfl) z) (ae (j_ (af rfl) B) (ae (j_ (af rfl) D) (ae (j_ (af rfl) H) aj)))) trivial (a _ _ _ _ rfl (a _ _ _ _ rfl (a _ _ _ _ rfl (a _ _ _ _ rfl aL)))) l) ∅ (jd m rfl rfl)
 .show zP (i_ (aN (Ej N) ai trivial (mM rfl)) (rA (iX (IL (b:=bD) (af rfl) J))))
 .show aO (bY (ae ai (ae ai (ae ai (ae ai (ae ai (ae ai (ae ai (ae ai aj)))))))) trivial (a _ _ _ _ rfl (a _ _ _ _ rfl (a _ _ _ _ rfl (a _ _ _ _ rfl (a _ _ _ _ rfl (a _ _ _ _ rfl (a _ _ _ _ rfl (a _ _ _ _ rfl aL)))))))) m) (Ej O) trivial (bL Q)
abbrev NO(a b:Bool):List (Str×Bool):=[("Unknown",a),("Unlearnt",b)]
abbrev qd:Fn:=A8 (NO bD cc) (NO cc bD) (NO cc cc) (NO cc cc) (NO cc cc) (NO cc cc) (NO cc cc) (NO cc cc) (NO bD bD)
def jo(a b:Bool):eX (NO a b) (.exc "Unknown")=a5 a:=by cases a<;>cases b<;>decide +kernel
def jq(a b:Bool):eX (NO a b) (.exc "Unlearnt")=a5 b:=by cases a<;>cases b<;>decide +kernel
def xJ:cu Γ qd [.exc "Unknown"]=a5 (.ok (.loc,.str "unknown")):=oE (jo _ _) (jo _ _) (jo _ _) (jo _ _) (jo _ _) (jo _ _) (jo _ _) (jo _ _) (jo _ _) rfl rfl rfl
def xK:cu Γ qd [.exc "Unlearnt"]=a5 (.ok (.loc,.str "unlearnt")):=oE (jq _ _) (jq _ _) (jq _ _) (jq _ _) (jq _ _) (jq _ _) (jq _ _) (jq _ _) (jq _ _) rfl rfl rfl
def A9(a:Run (bj Γ es) st rs st)(b:bc rs st)(c:Run (dE Γ f (rs.map (·.2))) st r st)(d:Run (kF e i j k r) st .nx st1)(h:Run (execs Γ ss) st1 l st2):
  Run (execs Γ (.NZ i [] f es g m x e j k::ss)) st l st2:=aa (aa (aa a (aa (aY b) c)) d) h
inductive A_(rs:List Row)(w:Str):Kd->U->Prop
 |V0:w∉az rs->A_ rs w .loc (.str "unknown")
 |K8:w∈az rs->¬Ln rs w->A_ rs w .loc (.str "unlearnt")
 |mus {M:List Str}:w∈az rs->Ln rs w->Mst rs w M->A_ rs w .own (.lst ((aB M).map .str))
def oF(a:Bq ws rs)(h:x∈az rs):x∈ws:=by
 have⟨r,b,e⟩:=dy.mp (iw.mp h);rcases e with rfl|e
 .show(a.ok r b).1
 .show(a.ok r b).2.2.1 _ e
end
end TM
namespace TM
open PySem L2 Kj
section
def GN(b:st[i]?=a5 (a5 (.JS,.JU ks us)))(c:Run (bV 2 bD (pure bD) (ev Γ e) [] (pE (ks,us)) []) (st.set i b6) vs st1):Run (execs Γ (.MA i e::ss)) st (.rt .own (.lst vs)) st1:=by
 show pR (aa (a:=(ks,us)) (st1:=st.set i b6) ?_ (aa c rfl));change qU i st=_;unfold qU;rw[b]
end
end TM
namespace KK
open PySem L2 TM Kj Od
abbrev vZ:Fn:=⟨"not_learnt",1,1,[.ret (.OK cc (.call "words_of" [.var 0]) (.call "learnt" [.var 0]))]⟩
abbrev El:List TM.S:=[.ite (.inD cc (.idx (.var 3) (.cst (.int 0))) 1) [.LN 1 (.idx (.var 3) (.cst (.int 0))) (.idx (.comp 1 cc .seq [.idx (.var 3) (.cst (.int 1))] [.inD cc (.var 0) 2] (.var 0)) (.cst (.int 0)))] []]
abbrev Ba:Fn:=⟨"knot",1,4,[.newD 1,.J9 cc [2] .seq [.call "not_learnt" [.var 0]] [.putD 1 (.var 2) (.lst [])],.J9 cc [3] .seq [.var 0] El,.MA 1 (.tup [.var 0,.bi .tuple [.var 1]])]⟩
abbrev K8(rows:List Row)(K:List Str):List Str:=(az rows).filter λx=>cK (x∉K)
def qe:x∈K8 rows K↔x∈cI rows/\x∉K:=by
 unfold K8;rw[my,iw];simp
def oG(rows:List Row)(K:List Str):(K8 rows K).Nodup:=(pW rows).sublist MV
abbrev pick(Z:List Str)(l:List Str):Str:=((l.filter λx=>cK (x∈Z)).head?).getD ""
abbrev LP(Z:List Str)(d:List Row)(k:Str):List Str:=(d.filter λr=>cK (r.1=k)).map λr=>pick Z r.2
abbrev dh(Z:List Str)(d:List Row)(k:Str):U:=.lst ((LP Z d k).map .str)
abbrev bS(Z:List Str)(rows:List Row):List Row:=Z.map λk=>(k,LP Z rows k)
section
def mP(f:K.length<64)(g:(az rows).length<64)(a:Γ "words_of" [.tup (rows.map A')]=a5 (.ok (.own,.lst ((az rows).map .str))))(b:Γ "learnt" [.tup (rows.map A')]=a5 (.ok (.own,.lst ((aB K).map .str)))):
  cu Γ vZ [.tup (rows.map A')]=a5 (.ok (.own,.lst ((K8 rows K).map .str))):=by
 have c:TM.start [.tup (rows.map A')] 1=[a5 (.loc,.tup (rows.map A'))]:=by simp[TM.start,Kl,bN]
 have h:=ia (az rows);have d:=ia (aB K);rw[bO]at d;have hs:qQ cc (aD (az rows)) (aD (aB K))=a5 (.own,.lst ((K8 rows K).map .str)):=by
  unfold qQ;rw[ť ⟨⋯,⋯⟩,Ŧ i7];have e:aB ((aD (az rows)).filter λx=>cK (x∉aD (aB K)))=K8 rows K:=by
   show Af ?_ ((dR _).sublist MV);show(O1 ((bP _).sublist MV) (oG rows K)).mpr λx=>?_;unfold K8;rw[my,my,bR];simp only[Ť,bR,(bF K).mem_iff]
  rw[e]
 show a_ rfl (.inl rfl) c (bH (Ea (bB (ae (af rfl) aj) trivial a) (gH ⋯) (bB (ae (af rfl) aj) trivial b) (gH (by rw[bO];lia)) hs) ja)
def rX(Z:List Str)(d:List Row)(r:Row)(k:Str):LP Z (d++[r]) k=if r.1=k then LP Z d k++[pick Z r.2] else LP Z d k:=by
 unfold LP;rw[Ql,i3,DD,RU];by_cases e:r.1=k
 .rw[ť e,ť (Ũ e)];rfl
 .rw[Ŧ e,Ŧ (by simpa using e)];simp
def DF(Z:List Str)(d:List Row)(k:Str):(LP Z d k).length<=d.length:=by
 unfold LP;rw[c4];show sx _ _
def Bb(hr:rows.length<=100)(D:∀r∈rows,r.2.length<=8)(n:Z.Nodup)(hl:Z.length<64)(G:∀r∈rows,r.1∈Z->∃x∈r.2,x∈Z)(H:Γ "not_learnt" [.tup (rows.map A')]=a5 (.ok (.own,.lst (Z.map .str)))):
  cu Γ Ba [.tup (rows.map A')]=a5 (.ok (.own,.lst ((bS Z rows).map A'))):=by
 have hsz:(20000:Nat)<=cL:=by decide
 let j:Option (Kd×U):=a5 (.loc,.tup (rows.map A'));have I:TM.start [.tup (rows.map A')] 4=[j,b6,b6,b6]:=by simp[TM.start,Kl,bN,j]
 let S:=λ(ks:List Str) (us:List TM.U) (o2 o3:Option (Kd×TM.U))=>([j,a5 (.JS,.JU ks us),o2,o3]:aw)
 obtain⟨st1,s,_,o2,e⟩:=bM (t:=cc) (is:=[2]) (body:=execs Γ [.putD 1 (.var 2) (.lst [])]) (rs:=[(.own,.lst (Z.map .str))]) (λw:Str=>(Kd.loc,U.str w))
  (λd r st=>d++r=Z/\∃o2,st=S d (d.map (dh Z [])) o2 b6) (λ_ _ _ _=>trivial) (λd w r st o=>by
   have⟨f,o2,e⟩:=o;subst e;have J:w∉d:=λz=>by
    rw[<-f,rr]at n;show n.2.2 w z w (by simp) rfl
   have L:d.length<64:=by have:=Ū C0 f;simp at this;lia
   have em:(d++[w]).map (dh Z [])=d.map (dh Z [])++[.lst []]:=by rw[i3];rfl
   show⟨S d (d.map (dh Z [])) (a5 (.loc,.str w)) b6,S (d++[w]) ((d++[w]).map (dh Z [])) (a5 (.loc,.str w)) b6,eh aH,?_,by rw[<-f];simp,_,rfl⟩;rw[em];show Ac (k:=.loc) (xs:=[]) (bY aj trivial aL (ke _)) rfl (af rfl) J ⋯ av) Z [] (S [] [] b6 b6) ⟨rfl,b6,rfl⟩
 subst e;rw[i0]at s;let body:List TM.S:=El;obtain⟨st2,v,_,o3,e⟩:=bM (t:=cc) (is:=[3]) (body:=execs Γ body) (rs:=[(.loc,.tup (rows.map A'))]) (λr:Row=>(Kd.loc,A' r))
  (λd r st=>d++r=rows/\∃o3,st=S Z (Z.map (dh Z d)) o2 o3) (λ_ _ _ _=>trivial) (λd b r st o=>by
   have⟨f,o3,e⟩:=o;subst e;have L:d.length<100:=by have:=Ū C0 f;simp at this;lia
   have A:b∈rows:=by rw[<-f];simp
   have N:=D b A;let c:Option (Kd×TM.U):=a5 (.loc,A' b);have B:Run (ev Γ (.idx (.var 3) (.cst (.int 0)))) (S Z (Z.map (dh Z d)) o2 c) (.loc,.str b.1) (S Z (Z.map (dh Z d)) o2 c):=aO (x:=(.loc,A' b)) (af rfl) ai trivial rfl;have m:Run (J' Γ (.inD cc (.idx (.var 3) (.cst (.int 0))) 1)) (S Z (Z.map (dh Z d)) o2 c) (cK (b.1∈Z)) (S Z (Z.map (dh Z d)) o2 c):=Ab (neg:=cc) (k:=.loc) B rfl;have C:Run (dG cc [3] (.loc,A' b)) (S Z (Z.map (dh Z d)) o2 o3) () (S Z (Z.map (dh Z d)) o2 c):=eh aH;by_cases g:b.1∈Z
   .rw[Ũ g]at m;have i:=jO (cond:=ba Γ [.inD cc (.var 0) 2]) (elt:=ev Γ (.var 0)) (src:=[(.loc,.tup (b.2.map .str))]) (st:=S Z (Z.map (dh Z d)) o2 c) trivial .loc (.inl rfl) U.str U.str (λx=>cK (x∈Z)) .loc b.2 [] (by simp;lia)
     (λy _=>⟨dw (Ab (neg:=cc) (k:=.loc) (af rfl) rfl),λ_=>⟨af rfl,aK⟩⟩)
    rw[i0]at i;have q:(b.2.map U.str).map (λu=>(kE .loc,u))=b.2.map λx=>(Kd.loc,U.str x):=by rw[i6];rfl
    have O:=dc (Γ:=Γ) (ik:=.seq) (rs:=[(.loc,.tup (b.2.map .str))]) (st:=S Z (Z.map (dh Z d)) o2 c) (src:=[.idx (.var 3) (.cst (.int 1))]) (ae (aO (x:=(.loc,A' b)) (af rfl) ai trivial rfl) aj) trivial (by change a5 (QR (λu=>(kE .loc,u)) _)=_;rw[q]) i;have Q:Ky ((b.2.filter λx=>cK (x∈Z)).map U.str) ((0:Nat):Int)=a5 (.str (pick Z b.2)):=by
     have⟨x,T,Y⟩:=G b A g;show cY ?_;unfold pick;cases hf:b.2.filter λx=>cK (x∈Z) with
     |nil =>
      have:x∈b.2.filter λx=>cK (x∈Z):=my.mpr ⟨T,Ũ Y⟩;rw[hf]at this;cases this
     |cons a l=>rfl
    have hg:dN Z (Z.map (dh Z d)) b.1=a5 (.lst ((LP Z d b.1).map .str)):=by rw[jh,ť g];rfl
    have hs:jB Z (Z.map (dh Z d)) b.1 (.lst ((LP Z d b.1).map .str++[.str (pick Z b.2)]))=Z.map (dh Z (d++[b])):=by
     rw[mF _ _ _ _ n];show t8 λk hk=>?_;unfold dh;rw[rX];by_cases e:b.1=k
     .subst e;rw[ť rfl,ť rfl];simp
     .rw[Ŧ e,Ŧ (nC e)]
    have QB:=DF Z d b.1;show⟨_,S Z (Z.map (dh Z (d++[b]))) o2 c,C,mr m (λ_=>?_) (λh=>by cases h),by rw[<-f];simp,_,rfl⟩;rw[<-hs];show Ad (k:=.loc) (r:=(.loc,.str (pick Z b.2))) rfl B g (aO O ai trivial (bL (k:=.own) Q)) aK hg (by rw[c4];lia) av
   .rw[ŧ g]at m;have em:Z.map (dh Z (d++[b]))=Z.map (dh Z d):=t8 λk hk=>by
     unfold dh;rw[rX,Ŧ (show ¬b.1=k from λz=>g (z▸hk))]
    show⟨_,S Z (Z.map (dh Z d)) o2 c,C,mr m (λh=>by cases h) (λ_=>av),by rw[<-f];simp,c,by rw[em]⟩) rows [] (S Z (Z.map (dh Z [])) o2 b6) ⟨rfl,b6,rfl⟩
 subst e;rw[i0]at v;have i:=mI (st:=[j,b6,o2,o3]) (cond:=pure bD) (elt:=ev Γ (.tup [.var 0,.bi .tuple [.var 1]])) (src:=[]) trivial (λk:Str=>U.str k) (λk=>dh Z rows k) (λk=>A' (k,LP Z rows k)) (λ_=>bD) Z [] (by simp;lia)
  (λy _=>⟨aP,gV (ae (af rfl) (ae (cC (ae (af rfl) aj) trivial (r:=(.loc,.tup ((LP Z rows y).map .str))) rfl) aj)) trivial (aA aK (aA aK aL)) (by change 2<=cL;lia)⟩)
 rw[i0,PK.mpr (λ_ _=>rfl)]at i;have ei:pE (Z,Z.map (dh Z rows))=Z.map λk=>(Kd.loc,U.tup [.str k,dh Z rows k]):=by
  have:∀l:List Str,(l.zip (l.map (dh Z rows))).map (λp=>(Kd.loc,U.tup [.str p.1,p.2]))=l.map λk=>(Kd.loc,U.tup [.str k,dh Z rows k]):=λl=>by
   induction l with
   |nil=>rfl
   |cons a l ih=>rw[d4,P7,d4,ih];rfl
  show this Z
 have ek:(bS Z rows).map A'=Z.map λk=>A' (k,LP Z rows k):=by unfold bS;rw[i6];rfl
 rw[ek];have q:(Z.map U.str).map (λu=>(kE .own,u))=Z.map λw=>(Kd.loc,U.str w):=by rw[i6];rfl
 have e2:(rows.map A').map (λu=>(kE .loc,u))=rows.map λr=>(Kd.loc,A' r):=by rw[i6];rfl
 show a_ rfl (.inl rfl) I (Aa (cE (rs:=[(.own,.lst (Z.map .str))]) (st1:=S [] [] b6 b6) (ae (bB (ae (af rfl) aj) trivial H) aj) trivial (by change a5 (QR (λu=>(kE .own,u)) _)=_;rw[q]) rfl s
  (cE (rs:=[(.loc,.tup (rows.map A'))]) (ae (af rfl) aj) trivial (by change a5 (QR (λu=>(kE .loc,u)) _)=_;rw[e2]) rfl v (GN rfl (by rw[ei];show i)))))
end
end KK
namespace TM
open PySem L2 Kj Od
section
theorem rY:∀{l:List (Str×Nat)}{K:List Str},vS rs K l->∀t∈l,t.1∉K
 |[],_,_,_,h=>absurd h vl
 |s::l,K,h,t,ht=>by
  rcases d7.mp ht with rfl|ht
  .show h.1.1
  .show λz=>rY h.2 t ht (hQ.mpr (.inl z))
theorem v3:∀{l:List (Str×Nat)}{K a:List Str},vS rs K l->(∀x∈K,x∈a)->(∀s∈l,s.1∉a)->vS rs a l
 |[],_,_,_,_,_=>trivial
 |s::l,K,a,h,hk,b=>by
  obtain⟨⟨i,r,e,f,g⟩,c⟩:=h;show⟨⟨b s (by simp),r,e,f,λx hx=>hk x (g x hx)⟩,v3 c (λx hx=>?_) λt d hx=>?_⟩
  .rcases hQ.mp hx with hx|hx
   .show hQ.mpr (.inl (hk x hx))
   .show hQ.mpr (.inr hx)
  .rcases hQ.mp hx with hx|hx
   .show b t (by simp[d]) hx
   .show rY c t d (hQ.mpr (.inr hx))
structure UpJ(ws:List Str)(rs:List Row)(w:Str)(bk:List (Str×Nat))(wn:List Str)(d q:List (Str×Nat)):Prop where
 sl:bk.Sublist d
 ks:gn ws wn
 vs:vS rs ((q.map (·.1)).filter λx=>cK (x∈wn)) bk.reverse
 hd:(bk=[]/\wn=[w]/\w∉d.map (·.1))\/∃p l,bk=(w,p)::l
def DG(D:Bq ws rs)(G:vS rs [] g)(hl:g.length<=24)(O:w∈ws)(ho:Γ "order" [.tup (rs.map A')]=a5 (.ok (.own,.lst (g.map stN)))):
  ∃B:List (Str×Nat),cu Γ VZ [.tup (rs.map A'),.str w]=a5 (.ok (.own,.lst (B.map stN)))/\B.length<=24/\vS rs [] B/\((w∈g.map (·.1)/\∃p l,B=l++[(w,p)])\/(w∉g.map (·.1)/\B=[])):=by
 have hsz:(1000:Nat)<=cL:=by decide
 have Q:=D.wl;have H:(g.reverse.map (·.1)).Nodup:=by rw[O9];show(List.reverse_perm _).nodup_iff.mpr (by simpa using mE G .nil)
 have⟨st',n,i,bk,f,o4,o5,rfl,c⟩:=bM (rs:=[(.own,.lst (g.map stN))]) (t:=cc) (is:=[4]) (body:=execs Γ Xq) (λs:Str×Nat=>(Kd.loc,stN s)) (λd q st=>d++q=g.reverse/\∃bk f o4 o5,st=jn rs w bk f o4 o5/\UpJ ws rs w bk f d q)
  (λ_ _ _ _=>trivial) (λd y q st T=>by
   have⟨i,bk,f,o4,o5,e,c⟩:=T;subst e;have es:g=q.reverse++y::d.reverse:=by rw[<-List.reverse_reverse g,<-i];simp
   have⟨r,o,Y,r3⟩:=A6 (a:=q.reverse) (b:=d.reverse) (y:=y) (by rw[<-es];show G);have v:∀x∈r.2,x∈q.map (·.1):=λx hx=>by have:=r3 x hx;rw[i0,O9]at this;show TR.mp this
   have A:r∈rs:=l' o;have MO:d.length<24:=by have:=Ū C0 i;simp at this;lia
   have I:=c.sl.length_le;rw[<-i,i3,d4,rr]at H;obtain⟨_,n2,J⟩:=H;obtain⟨n4,_⟩:=l0.mp n2;have Wu:∀s∈bk.reverse,s.1∈d.map (·.1):=λs hs=>VM (c.sl.subset (TR.mp hs));have m:Run (J' Γ (.cmp .isin (.idx (.var 4) (.cst (.int 0))) (.var 3))) (jn rs w bk f (a5 (.loc,stN y)) o5) (cK (y.1∈f)) (jn rs w bk f (a5 (.loc,stN y)) o5):=aN (x:=(.loc,.str y.1)) (aO (af rfl) ai trivial (bU rfl)) (aC rfl) ∅ pZ;show⟨jn rs w bk f (a5 (.loc,stN y)) o5,?_⟩;by_cases j:y.1∈f
   .rw[Ũ j]at m;have⟨M6,QC,n,k1,k2,k3⟩:=DE (Γ:=Γ) (rs:=rs) (w:=w) (bk:=bk++[y]) (ts:=r.2) (o4:=a5 (.loc,stN y)) (o5:=o5) Q c.ks (D.ok r A).2.2.1;show⟨_,aH,dH m (gb (k:=.own) (k':=.own) (st1:=jn rs w bk f (a5 (.loc,stN y)) o5) (st2:=jn rs w bk f (a5 (.loc,stN y)) o5) rfl (af rfl) aK rfl rfl (by rw[c4];lia) (cE (rs:=[(.loc,.tup (r.2.map .str))]) (st1:=jn rs w (bk++[y]) f (a5 (.loc,stN y)) o5) ?_ trivial rV rfl n av)) av,by rw[<-i];simp,bk++[y],M6,_,_,rfl,c.sl.append (YE _),k1,?_,?_⟩
    .have e:((bk.map stN)++[stN y]:List U)=(bk++[y]).map stN:=by simp
     have OE:(rs.map A')[y.2]?=a5 (A' r):=by rw[i2,o];rfl
     change Run _ [a5 (.loc,.tup (rs.map A')),a5 (.loc,.str w),a5 (.own,.lst ((bk.map stN)++[stN y])),a5 (.own,kG f),a5 (.loc,stN y),o5] _ _;rw[e];show ae (aO (aO (af rfl) (aO (af rfl) ai trivial (bU rfl)) trivial (bU (cY OE))) ai trivial (bU rfl)) aj
    .rw[List.reverse_append];show⟨⟨λz=>n4 (my.mp z).1,r,o,Y,λx hx=>my.mpr ⟨v x hx,Ũ (k3 x hx)⟩⟩,v3 c.vs (λx hx=>?_) λs hs hx=>?_⟩
     .have⟨a,b⟩:=my.mp hx;rw[d4]at a;rcases d7.mp a with a|a
      .show hQ.mpr (.inr (by rw[a];simp))
      .show hQ.mpr (.inl (my.mpr ⟨a,Ũ (k2 x (ũ b))⟩))
     .have L:=Wu s hs;rcases hQ.mp hx with hx|hx
      .show J _ L _ (ko _ (my.mp hx).1) rfl
      .show J _ L _ mf (by simpa using hx)
    .rcases c.hd with⟨rfl,rfl,_⟩|⟨p,l,rfl⟩
     .have VR:y.1=w:=by simpa using j
      show .inr ⟨y.2,[],by rw[<-VR];rfl⟩
     .show .inr ⟨p,l++[y],rfl⟩
   .rw[ŧ j]at m;show⟨_,aH,aZ m av av,by rw[<-i];simp,bk,f,_,_,rfl,c.sl.trans (List.sublist_append_left _ _),c.ks,?_,?_⟩
    .have:=c.vs;rw[d4,DD,Ŧ (by simpa using j)]at this;show this
    .rcases c.hd with⟨rfl,rfl,C⟩|h
     .show .inl ⟨rfl,rfl,λz=>?_⟩;rw[i3]at z;rcases hQ.mp z with z|z
      .show C z
      .show j (by simpa using(hY.mp z).symm)
     .show .inr h) g.reverse [] (jn rs w [] [w] b6 b6) ⟨rfl,[],[w],b6,b6,rfl,YE _,⟨by simp,by simpa using O⟩,trivial,.inl ⟨rfl,rfl,by simp⟩⟩
 have I:=c.sl.length_le;rw[i0,Pz]at I;have N:=c.vs;rw[Kb,RU]at N;show⟨bk.reverse,a_ rfl (.inl rfl) (jm 4) (ay (bY aj trivial aL (ke _)) bh (ay (IU rfl) bh (cE (rs:=[(.own,.lst (g.map stN))]) (st1:=jn rs w [] [w] b6 b6) (ae (bB (ae (af rfl) aj) trivial ho) aj) trivial ?_ rfl n (bH (vG (ae (aC rfl) aj) ∅ ?_) ja)))),by rw[Pz];lia,N,?_⟩
 .change a5 ((g.map stN).reverse.map λu=>(kE .own,u))=_;rw[<-O9,i6];rfl
 .change(if fu (.bor 2) (bk.map stN)=bD then a5 (Kd.own,U.lst (bk.map stN).reverse) else b6)=_;rw[ť (show fu (.bor 2) (bk.map stN)=bD from rfl),O9]
 .rcases c.hd with⟨rfl,_,C⟩|⟨p,l,rfl⟩
  .show .inr ⟨λz=>C ?_,rfl⟩;rw[i0,O9];show TR.mpr z
  .show .inl ⟨?_,p,l.reverse,by simp⟩;have:=c.sl.subset (mf (a:=(w,p)) (l:=l));rw[i0]at this;show ki.mpr ⟨_,TR.mp this,rfl⟩
def IW(g:Kq Pg "words_of" mD)(h:Kq Pg "refuse_unknown" AZ)(b:Bq ws rs)(w o:Str):J5 Pg (d+2) "refuse_unknown" [.tup (rs.map A'),.lst [.str w,.str o]]=a5 (if w∈az rs/\o∈az rs then .ok (.loc,.J0) else .exc "Unknown"):=by
 have k:=fB λr a=>(b.ok r a).ok;have hl:=b.wl;have l:(aD (az rs)).length<=(az rs).length:=fc (bP _) λx c=>by simpa[bR] using c
 have i:(aD [w,o]).length<=2:=fc (m:=[w,o]) (bP _) λx c=>by simpa[bR] using c
 have f:start [.tup (rs.map A'),.lst [.str w,.str o]] 2=[a5 (.loc,.tup (rs.map A')),a5 (.any,.lst [.str w,.str o])]:=Ū (λx:Option (Kd×U)=>[x,a5 (Kd.any,U.lst [.str w,.str o])]) (cz rs);have j:J5 Pg (d+1) "words_of" [.tup (rs.map A')]=a5 (.ok (.own,.lst ((az rs).map .str))):=(aJ g _).trans (jf (by have:=b.rl;lia) (λr a=>(b.ok r a).ok) ⋯);have hs:qQ bD (aD [w,o]) (aD (az rs))=a5 (.loc,.int (((aD [w,o]).filter λx=>cK (x∉aD (az rs))).length:Nat)):=by
  unfold qQ;rw[ť ⟨⋯,⋯⟩,ť rfl]
 have e:((aD [w,o]).filter λx=>cK (x∉aD (az rs)))=[]↔w∈az rs/\o∈az rs:=by
  rw[NP];simp[bR]
 generalize ((aD [w,o]).filter λx=>cK (x∉aD (az rs)))=L at hs e;have a:Run (ev (J5 Pg (d+1)) (.OK bD (.var 1) (.call "words_of" [.var 0]))) [a5 (.loc,.tup (rs.map A')),a5 (.any,.lst [.str w,.str o])] _ _:=Ea (aF rfl) (gH (ss:=[w,o]) (by simp)) (bB (ae (af rfl) aj) trivial j) (gH ⋯) hs;rw[aJ h];by_cases hk:w∈az rs/\o∈az rs
 .rw[ť hk];rw[e.mpr hk]at a;show oD rfl f (aZ (aN a ai trivial (jb rfl)) av av)
 .rw[Ŧ hk];have:0<L.length:=Ð.mpr λz=>hk (e.mp z);show jl rfl f (pR (jM (aN a ai trivial (jb (by simp;lia))) (Ei ai)))
end
section
def Kn.held(c:KL.Kn rs K):∀r∈rs,r.1∈KK.K8 rs K->∃x∈r.2,x∈KK.K8 rs K:=λr h hz=>by
 apply R6;intro d;show(KK.qe.mp hz).2 (c.cl r h λx b=>?_);apply R6;intro a;show d ⟨x,b,KK.qe.mpr ⟨dy.mpr ⟨r,h,.inr b⟩,a⟩⟩
def v5(a:Bq ws rs)(K:List Str):(KK.K8 rs K).length<=24:=by
 have c:(KK.K8 rs K).length<=(az rs).length:=sx _ _;have d:=fB λr b=>(a.ok r b).ok;have:=a.wl;lia
def GO(L:KL.RX Pg)(d:Kq Pg "words_of" mD)(e:Kq Pg "not_learnt" KK.vZ)(hk:Kq Pg "knot" KK.Ba)(n:Nat)(a:Bq ws rs)(c:KL.Kn rs K)(f:K.length<=24):J5 Pg (n+7) "knot" [.tup (rs.map A')]=a5 (.ok (.own,.lst ((KK.bS (KK.K8 rs K) rs).map A'))):=by
 have k:=fB λr b=>(a.ok r b).ok;have l:=a.wl;have g:=a.rl;have i:J5 Pg (n+5) "words_of" [.tup (rs.map A')]=a5 (.ok (.own,.lst ((az rs).map .str))):=(aJ d _).trans (jf ⋯ (λr b=>(a.ok r b).ok) ⋯);have j:J5 Pg (n+6) "not_learnt" [.tup (rs.map A')]=a5 (.ok (.own,.lst ((KK.K8 rs K).map .str))):=(aJ e _).trans (KK.mP ⋯ ⋯ i (KL.vW L n (λr b=>(a.ok r b).ok) a.wl ⋯ c));show(aJ hk _).trans (KK.Bb ⋯ (λr h=>(a.ok r h).2.2.2) (KK.oG _ _) (by have:=v5 a K;lia) (Kn.held c) j)
abbrev IX:Fn:=⟨"free_or_must",3,5,[.Nz "refuse_unknown" [.var 0,.lst [.var 1,.var 2]],.Nz "refuse_unlearnt" [.var 0,.var 1],.set 3 (.call "without" [.var 0,.var 2]),.set 4 (.call "order_up_to" [.var 3,.var 1]),.ite (.cmp .eq (.var 4) (.lst [])) [.ret (.tup [.cst (.str "must"),.call "knot" [.var 3]])] [],.ret (.tup [.cst (.str "free"),.var 4])]⟩
inductive OV(rs:List Row)(w o:Str):U->Prop
 |free {B l:List (Str×Nat)} {p:Nat}:vS (wo rs o) [] B->B.length<=24->B=l++[(w,p)]->OV rs w o (.tup [.str "free",.lst (B.map stN)])
 |RZ {K:List Str}:KL.Kn (wo rs o) K->w∈KK.K8 (wo rs o) K->OV rs w o (.tup [.str "must",.lst ((KK.bS (KK.K8 (wo rs o) K) (wo rs o)).map A')])
def Bc(h:Lc 50 (.lst us)=bD):bK .eq (.lst us) (.lst [])=a5 us.isEmpty:=by
 simp only[bK];rw[ť ⟨h,by simp[Lc,dW]⟩];cases us with
 |_=>simp[cH,cP]
def ff{rs:List Row}(n:Nat):start [.tup (rs.map A'),.str w,.str o] (n+3)=a5 (.loc,.tup (rs.map A'))::a5 (.loc,.str w)::a5 (.loc,.str o)::i1 n b6:=by
 change a5 (if Kl (.tup (rs.map A'))=bD then Kd.loc else Kd.any,U.tup (rs.map A'))::a5 (Kd.loc,U.str w)::a5 (Kd.loc,U.str o)::i1 (n+3 - 3) b6=_;rw[cz];rfl
structure V2(Pg:List Fn):Prop where
 L:KL.RX Pg
 w:Kq Pg "words_of" mD
 x:Kq Pg "refuse_unknown" AZ
 n:Kq Pg "refuse_unlearnt" A7
 o:Kq Pg "without" VY
 u:Kq Pg "order_up_to" VZ
 l:Kq Pg "not_learnt" KK.vZ
 t:Kq Pg "knot" KK.Ba
 m:Kq Pg "free_or_must" IX
def IY(H:V2 Pg)(n:Nat)(c:Bq ws rs)(j:w≠o)(k:w∈az rs)(ho:o∈az rs)(q:Ln rs w)
  (s:J5 Pg (n+7) "refuse_unknown" [.tup (rs.map A'),.lst [.str w,.str o]]=a5 (.ok (.loc,.J0))) (v:J5 Pg (n+7) "refuse_unlearnt" [.tup (rs.map A'),.str w]=a5 (.ok (.loc,.J0))):∃u,J5 Pg (n+8) "free_or_must" [.tup (rs.map A'),.str w,.str o]=a5 (.ok (.loc,u))/\OV rs w o u:=by
 have hsz:(1000:Nat)<=cL:=by decide
 have a:=c.wo o;have y:=oF c k;have⟨z,s1,s2,s3⟩:=KL.vV H.L (n+2) (λr b=>(a.ok r b).ok) a.wl (by have:=a.rl;lia);have⟨B,e,b1,A,b3⟩:=DG (Γ:=J5 Pg (n+6)) a s1.ok s2 y s3;have d:=KL.Kn.of s1;have g:=GO H.L H.w H.l H.t n a d (by rw[c4];lia);have C:∀r,Run (bj (J5 Pg (n+7)) [.var 0,.lst [.var 1,.var 2]]) (a5 (.loc,.tup (rs.map A'))::a5 (.loc,.str w)::a5 (.loc,.str o)::r) [(.loc,.tup (rs.map A')),(.own,.lst [.str w,.str o])] (a5 (.loc,.tup (rs.map A'))::a5 (.loc,.str w)::a5 (.loc,.str o)::r):=λr=>ae (af rfl) (ae (bY (ae (af rfl) (ae (af rfl) aj)) trivial (aA aK (aA aK aL)) (by change 2<=cL;lia)) aj);have f:Run (J' (J5 Pg (n+7)) (.cmp .eq (.var 4) (.lst []))) [a5 (.loc,.tup (rs.map A')),a5 (.loc,.str w),a5 (.loc,.str o),a5 (.loc,.tup ((wo rs o).map A')),a5 (.own,.lst (B.map stN))] (B.map stN).isEmpty [a5 (.loc,.tup (rs.map A')),a5 (.loc,.str w),a5 (.loc,.str o),a5 (.loc,.tup ((wo rs o).map A')),a5 (.own,.lst (B.map stN))] :=
  aN (aC rfl) (bY aj trivial aL (ke _)) ∅ (Bc (by change dW 49 (B.map stN)=bD;show mH B 48))
 have go:∀{u:U} {st':aw},Run (execs (J5 Pg (n+7)) [.ite (.cmp .eq (.var 4) (.lst [])) [.ret (.tup [.cst (.str "must"),.call "knot" [.var 3]])] [],.ret (.tup [.cst (.str "free"),.var 4])]) [a5 (.loc,.tup (rs.map A')),a5 (.loc,.str w),a5 (.loc,.str o),a5 (.loc,.tup ((wo rs o).map A')),a5 (.own,.lst (B.map stN))] (.rt .loc u) st'->J5 Pg (n+8) "free_or_must" [.tup (rs.map A'),.str w,.str o]=a5 (.ok (.loc,u)):=λh =>
  (aJ H.m _).trans (a_ rfl (.inr rfl) (ff 2) (AX (C _) trivial (vX s) (AX (rs:=[(.loc,.tup (rs.map A')),(.loc,.str w)]) (ae (af rfl) (ae (af rfl) aj)) trivial (vX v) (ay (bB (ae (af rfl) (ae (af rfl) aj)) trivial (JQ H.o (by have:=c.rl;lia) o)) aH (ay (bB (ae (af rfl) (ae (af rfl) aj)) trivial ((aJ H.u _).trans e)) bh h)))))
 rcases b3 with⟨_,p,l,rfl⟩|⟨i,rfl⟩
 .rw[show(((l++[(w,p)]).map stN).isEmpty)=cc by simp]at f;show⟨_,go (aZ f av (bH (gV (rs:=[(.loc,.str "free"),(.bor 4,.lst ((l++[(w,p)]).map stN))]) (ae ai (ae (aC rfl) aj)) ∅ (aA aK (aA (D_ rfl) aL)) (by change 2<=cL;lia)) da)),.free A b1 rfl⟩
 .generalize z.map (·.1)=K at d g i;show⟨_,go (jN f (bH (gV (rs:=[(.loc,.str "must"),(.own,.lst ((KK.bS (KK.K8 (wo rs o) K) (wo rs o)).map A'))]) (ae ai (ae (bB (ae (af rfl) aj) trivial g) aj)) trivial (aA aK (aA vI aL)) (by change 2<=cL;lia)) da)),.RZ d (KK.qe.mpr ⟨?_,i⟩)⟩;obtain⟨r,b,e⟩:∃r∈rs,r.1=w:=q (λx=>∃r∈rs,r.1=x) λr b _=>⟨r,b,rfl⟩
  show dy.mpr ⟨r,A4.mpr ⟨b,by rw[e];show j⟩,.inl e.symm⟩
abbrev Bd:Fn:=⟨"_law_asked",3,6,[.set 3 (.cst .J0),.set 4 (.cst .J0),.NZ 3 [] "free_or_must" [.var 0,.var 1,.var 2] "" [] "PrimerError" ["Unknown","Unlearnt"] 5 4,.ret (.ite (.cmp .is (.var 4) (.cst .J0)) (.var 3) (.call "_law_kind" [.var 4]))]⟩
inductive mQ(rs:List Row)(w o:Str):U->Prop
 |V0:¬(w∈az rs/\o∈az rs)->mQ rs w o (.str "unknown")
 |K8:w∈az rs->o∈az rs->¬Ln rs w->mQ rs w o (.str "unlearnt")
 |Xw {u:U}:w∈az rs->o∈az rs->Ln rs w->OV rs w o u->mQ rs w o u
def DH(H:V2 Pg)(k:Kq Pg "_law_asked" Bd)(j:Kq Pg "_law_kind" qd)(n:Nat)(b:Bq ws rs)(p:∀x∈ws,x.length<=20)(q:w≠o):∃u,J5 Pg (n+9) "_law_asked" [.tup (rs.map A'),.str w,.str o]=a5 (.ok (.loc,u))/\mQ rs w o u:=by
 have hsz:(1000:Nat)<=cL:=by decide
 have as:∀r,Run (bj (J5 Pg (n+8)) [.var 0,.var 1,.var 2]) (a5 (.loc,.tup (rs.map A'))::a5 (.loc,.str w)::a5 (.loc,.str o)::r) [(.loc,.tup (rs.map A')),(.loc,.str w),(.loc,.str o)] (a5 (.loc,.tup (rs.map A'))::a5 (.loc,.str w)::a5 (.loc,.str o)::r):=λr=>ae (af rfl) (ae (af rfl) (ae (af rfl) aj));have l:∀r,Run (bj (J5 Pg (n+7)) [.var 0,.lst [.var 1,.var 2]]) (a5 (.loc,.tup (rs.map A'))::a5 (.loc,.str w)::a5 (.loc,.str o)::r) [(.loc,.tup (rs.map A')),(.own,.lst [.str w,.str o])] (a5 (.loc,.tup (rs.map A'))::a5 (.loc,.str w)::a5 (.loc,.str o)::r):=λr=>ae (af rfl) (ae (bY (ae (af rfl) (ae (af rfl) aj)) trivial (aA aK (aA aK aL)) (by change 2<=cL;lia)) aj);have g:=IW (Pg:=Pg) (d:=n+5) H.w H.x b w o;have exc:∀c x,c∈(["Unknown","Unlearnt"]:List Str)->cu (J5 Pg (n+7)) qd [.exc c]=a5 (.ok (.loc,.str x))->J5 Pg (n+8) "free_or_must" [.tup (rs.map A'),.str w,.str o]=a5 (.exc c)->J5 Pg (n+9) "_law_asked" [.tup (rs.map A'),.str w,.str o]=a5 (.ok (.loc,.str x)):=λc x s hk t =>
  (aJ k _).trans (a_ rfl (.inr rfl) (ff 3) (ay ai aH (ay ai aH (A9 (as _) trivial (AW t) (IJ rfl (by decide) s) (bH (zO (aN (af rfl) ai trivial rfl) (bB (ae (af rfl) aj) trivial ((aJ j _).trans hk))) da)))))
 by_cases a:w∈az rs/\o∈az rs
 .rw[ť a]at g;obtain⟨K,h,_⟩:=Kn.some b.wl b.ok;have i:=JR (Pg:=Pg) H.n (IV H.L (n+1)) b h (p w (oF b a.1));by_cases hk:w∈K
  .rw[ť hk]at i;have⟨u,e,f⟩:=IY H n b q a.1 a.2 ((Kn.mem h).mp hk) g i;show⟨u,(aJ k _).trans (a_ rfl (.inr rfl) (ff 3) (ay ai aH (ay ai aH (A9 (as _) trivial (vX e) IK (bH (zN (aN (af rfl) ai trivial rfl) (af rfl)) da))))),.Xw a.1 a.2 ((Kn.mem h).mp hk) f⟩
  .rw[Ŧ hk]at i;show⟨_,exc _ _ (by simp) xK ((aJ H.m _).trans (jl rfl (ff 2) (AX (l _) trivial (vX g) (AY (rs:=[(.loc,.tup (rs.map A')),(.loc,.str w)]) (ae (af rfl) (ae (af rfl) aj)) trivial (AW i))))),.K8 a.1 a.2 λz=>hk ((Kn.mem h).mpr z)⟩
 .rw[Ŧ a]at g;show⟨_,exc _ _ (by simp) xJ ((aJ H.m _).trans (jl rfl (ff 2) (AY (l _) trivial (AW g)))),.V0 a⟩
end
section
def DI(e:Run (ev Γ a) st x st1)(f:Run (ev Γ b) st1 y st2)(g:bc [x,y] st2)(h:bK o1 x.2 y.2=a5 bD)(i:Run (ev Γ c) st2 z d)(j:bc [y,z] d)(k:bK o2 y.2 z.2=a5 q):Run (J' Γ (.Mw o1 o2 a b c)) st q d :=
 aa e (aa f (aa (aY g) (aa (bQ h) (aa i (aa (aY j) (bQ k))))))
def DJ{ss:List Str}:bK .isin (.str x) (.tup (ss.map U.str))=a5 (cK (x∈ss)):=@Ae x ss
abbrev GP:Fn:=⟨"_law_whole",1,1,[.ret (.and [.Mx (.var 0) .int,.not (.Mx (.var 0) .bool)])]⟩
def DK:cu Γ GP [.int n]=a5 (.ok (.loc,.bl bD)) :=
 a_ (st0:=[a5 (.loc,.int n)]) rfl (.inr rfl) rfl (bH (om (gf (p:=bD) (q:=bD) (vM (af rfl) rfl) λ_=>jL (II (c:=cc) (vM (af rfl) rfl)))) da)
abbrev IZ:List S :=
   [.ite (.or [.cmp .isin (.var 3) (.var 2),.not (.call "_law_whole" [.var 4]),.not (.Mw .le .lt (.cst (.int 0)) (.var 4) (.bi .len [.var 0])),.cmp .ne (.idx (.idx (.var 0) (.var 4)) (.cst (.int 0))) (.var 3)])
    [.ret (.cst (.bl cc))]
    [],
   .ite (.not (.bi .all [.comp 1 cc .seq [.idx (.idx (.var 0) (.var 4)) (.cst (.int 1))] [] (.cmp .isin (.var 0) (.var 3))]))
    [.ret (.cst (.bl cc))]
    [],
   .put 2 (.var 3) (.cst (.bl bD))]
abbrev GQ:Fn:=⟨"_law_is_order",2,5,[.set 2 (.LM cc),.J9 bD [3,4] .seq [.var 1] IZ,.ret (.cst (.bl bD))]⟩
abbrev nh(rs:List Row)(B:List (Str×Nat))(K:List Str)(o3 o4:Option (Kd×U)):aw:=[a5 (.loc,.tup (rs.map A')),a5 (.any,.lst (B.map stN)),a5 (.own,kG K),o3,o4]
def DL(i:∀n:Int,Γ "_law_whole" [.int n]=a5 (.ok (.loc,.bl bD)))(l:∀r∈rs,r.2.length<=8)(m:vS rs [] B)(hl:B.length<=24):cu Γ GQ [.tup (rs.map A'),.lst (B.map stN)]=a5 (.ok (.loc,.bl bD)):=by
 obtain⟨st',o,o3,o4,rfl,_⟩:=bM (rs:=[(.any,.lst (B.map stN))]) (t:=bD) (is:=[3,4]) (body:=execs Γ IZ) (λs:Str×Nat=>(Kd.any,stN s)) (λd q st=>∃o3 o4,st=nh rs B (d.map (·.1)) o3 o4/\vS rs (d.map (·.1)) q/\d.length+q.length<=24)
  (λ_ _ _ _=>trivial) (λd y q st p=>by
   have⟨o3,o4,e,h,hl⟩:=p;subst e;rw[js]at hl;obtain⟨⟨f,r,b,v,z⟩,A⟩:=h;have C:(rs.map A')[y.2]?=a5 (A' r):=by rw[i2,b];rfl
   have D:y.2<rs.length:=(dt.mp b).1;have G:=cY C;have a:∀o3,Run (ev Γ (.idx (.var 0) (.var 4))) (nh rs B (d.map (·.1)) o3 (a5 (.any,.int (y.2:Nat)))) (.loc,A' r) (nh rs B (d.map (·.1)) o3 (a5 (.any,.int (y.2:Nat)))):=λo3=>aO (af rfl) (aF rfl) trivial (bU G);have H:eO (d.map (·.1)) y.1=(d++[y]).map (·.1):=by unfold eO;rw[Ŧ f,i3];rfl
   have g:=jj (ks:=d.map (·.1)) (x:=y.1) (by rw[c4];lia);rw[H]at g;show⟨nh rs B (d.map (·.1)) (a5 (.any,.str y.1)) (a5 (.any,.int (y.2:Nat))),nh rs B ((d++[y]).map (·.1)) (a5 (.any,.str y.1)) (a5 (.any,.int (y.2:Nat))),j9 (.inr rfl),aZ (zP (i_ (aN (aF rfl) (aC rfl) ∅ (pZ.trans (by rw[ŧ f]))) (i_ (iX (c:=bD) (tX (ae (aF rfl) aj) trivial (i _) rfl)) (i_ (iX (c:=bD) (DI ai (aF rfl) trivial (IA (by simp)) (cC (ae (af rfl) aj) trivial jc) trivial (D6 (by simpa using D)))) (rA (aN (x:=(.loc,.str r.1)) (aO (a _) ai trivial (bU rfl)) (aF rfl) trivial (mG.trans (by rw[Ũ v];rfl)))))))) av (aZ (st1:=nh rs B (d.map (·.1)) (a5 (.any,.str y.1)) (a5 (.any,.int (y.2:Nat)))) (st2:=nh rs B (d.map (·.1)) (a5 (.any,.str y.1)) (a5 (.any,.int (y.2:Nat)))) (iX (c:=bD) ?_) av (gW (k:=.own) (k':=.own) ai rfl (aF rfl) (aA aK (aA (j7 rfl) aL)) rfl rfl g av)),_,_,rfl,by rw[i3];show A,by rw[gc,wh];lia⟩;have:=rW (Γ:=Γ) (src:=.idx (.idx (.var 0) (.var 4)) (.cst (.int 1))) (st:=nh rs B (d.map (·.1)) (a5 (.any,.str y.1)) (a5 (.any,.int (y.2:Nat)))) (j:=2) (k:=.loc) (told:=r.2) (known:=d.map (·.1)) (w:=kG (d.map (·.1))) (.inl rfl) (by have:=l r (l' b);lia) (aO (x:=(.loc,A' r)) (a _) ai trivial (bU rfl)) rfl λ_=>pZ;rw[show(r.2.all λx=>cK (x∈d.map (·.1)))=bD from i8.mpr λx I=>Ũ (z x I)]at this;show zS this) B [] (nh rs B [] b6 b6) ⟨b6,b6,rfl,m,by simpa using hl⟩
 show a_ rfl (.inr rfl) (st0:=[a5 (.loc,.tup (rs.map A')),a5 (.any,.lst (B.map stN)),b6,b6,b6]) (Ū (λx:Option (Kd×U)=>[x,a5 (Kd.any,U.lst (B.map stN)),b6,b6,b6]) (cz rs)) (ay l_ bh (cE (rs:=[(.any,.lst (B.map stN))]) (st1:=nh rs B [] b6 b6) (ae (aF rfl) aj) trivial ?_ rfl o (bH ai da)));change a5 ((B.map stN).map λu=>(kE .any,u))=_;rw[i6];rfl
abbrev Be:Fn:=⟨"_law_pairs",1,1,[.ret (.and [.Mx (.var 0) .list,.bi .all [.comp 1 cc .seq [.var 0] [] (.and [.Mx (.var 0) .tuple,.cmp .eq (.bi .len [.var 0]) (.cst (.int 2))])]])]⟩
def rZ(f:α->U)(g:∀a,∃x y,f a=.tup [x,y]){l:List α}(hl:l.length<=100):cu Γ Be [.lst (l.map f)]=a5 (.ok (.loc,.bl bD)):=by
 have hsz:(1000:Nat)<=cL:=by decide
 have c:=gh (cond:=ba Γ []) (elt:=ev Γ (.and [.Mx (.var 0) .tuple,.cmp .eq (.bi .len [.var 0]) (.cst (.int 2))])) (src:=[(.any,.lst (l.map f))]) (st:=[a5 (.any,.lst (l.map f))]) trivial .any (.inr rfl) f (λ_=>.bl bD) .loc (λ_=>iZ) l [] (by simp;lia)
  (λy _=>by
   have⟨a,b,e⟩:=g y;rw[e];show⟨om (gf (p:=bD) (q:=bD) (vM (aF rfl) rfl) λ_=>jL (fG (cC (ae (aF rfl) aj) trivial jc) ai trivial (cq rfl))),aK⟩)
 rw[i0,show(l.map λ_=>U.bl bD)=(l.map λ_=>bD).map U.bl by rw[i6];rfl]at c;have h:((l.map λ_=>bD).all id)=bD:=by rw[Ww];show i8.mpr λ_ _=>rfl
 have d:=p7 (k:=.own) (l.map λ_=>bD);rw[h]at d;show a_ rfl (.inr rfl) (st0:=[a5 (.any,.lst (l.map f))]) rfl (bH (om (gf (p:=bD) (q:=bD) (vM (aF rfl) rfl) λ_=>jL (cC (ae (dc (rs:=[(.any,.lst (l.map f))]) (ae (aF rfl) aj) trivial ?_ c) aj) trivial d))) da);change a5 ((l.map f).map λu=>(kE .any,u))=_;rw[i6];rfl
end
end TM
namespace TM
open PySem L2 Kj Od KK
section
abbrev Xx:List S :=
   [.set 5 (.comp 1 cc .seq [.var 0] [.cmp .eq (.idx (.var 0) (.cst (.int 0))) (.var 4)] (.var 0)),
   .ite (.or [.not (.Mx (.var 4) .tuple),.cmp .ne (.bi .len [.var 4]) (.bi .len [.var 5]),.cmp .J4 (.var 3) (.call "_law_all" [.var 0])])
    [.ret (.cst (.bl cc))]
    [],
   .ite (.not (.bi .all [.comp 1 cc .Lb [.bi .len [.var 5]] [] (.and [.cmp .isin (.idx (.var 5) (.var 0)) (.idx (.idx (.var 6) (.var 0)) (.cst (.int 1))),.cmp .isin (.idx (.var 5) (.var 0)) (.var 3)])]))
    [.ret (.cst (.bl cc))]
    []]
abbrev Bg:Fn:=⟨"_law_is_knot",2,6,[.set 2 (.comp 1 cc .seq [.var 1] [] (.idx (.var 0) (.cst (.int 0)))),.ite (.cmp .ne (.var 2) (.NX .sset [.var 2])) [.ret (.cst (.bl cc))] [],.J9 bD [3,4] .seq [.var 1] Xx,.ret (.cst (.bl bD))]⟩
abbrev qf(rs P:List Row)(Z:List Str)(o3 o4 o5:Option (Kd×U)):aw:=[a5 (.loc,.tup (rs.map A')),a5 (.any,.lst (P.map A')),a5 (.own,.lst (Z.map .str)),o3,o4,o5]
def Bh(h:∃x∈l,x∈Z):pick Z l∈l/\pick Z l∈Z:=by
 have⟨x,c,d⟩:=h;unfold pick;cases b:l.filter λx=>cK (x∈Z) with
 |nil =>
  have:x∈l.filter λx=>cK (x∈Z):=my.mpr ⟨c,Ũ d⟩;rw[b]at this;cases this
 |cons a t =>
  have:a∈l.filter λx=>cK (x∈Z):=by rw[b];show mf
  have⟨e,f⟩:=my.mp this;show⟨e,ũ f⟩
def GR{rs:List Row}(hl:rs.length<=1000)(b:st[i]?=a5 (a5 (.loc,.tup (rs.map A'))))(c:st[j]?=a5 (a5 (.any,.str k))):
  Run (ev Γ (.comp 1 cc .seq [.var i] [.cmp .eq (.idx (.var 0) (.cst (.int 0))) (.var (j+1))] (.var 0))) st (.own,.lst ((rs.filter λr=>cK (r.1=k)).map A')) st:=by
 have hsz:(1000:Nat)<=cL:=by decide
 have a:=jO (cond:=ba Γ [.cmp .eq (.idx (.var 0) (.cst (.int 0))) (.var (j+1))]) (elt:=ev Γ (.var 0)) (src:=[(.loc,.tup (rs.map A'))]) (st:=st) trivial .loc (.inl rfl) A' A' (λr=>cK (r.1=k)) .loc rs [] (by simp;lia)
  (λy _=>⟨dw (aN (x:=(.loc,.str y.1)) (aO (af rfl) ai trivial (bU rfl)) (aF (by simpa using c)) trivial fA),λ_=>⟨af rfl,aK⟩⟩)
 rw[i0]at a;show dc (rs:=[(.loc,.tup (rs.map A'))]) (ae (af b) aj) trivial jk a
def Bi(f:Bq ws rs)(G:Γ "_law_all" [.tup (rs.map A')]=a5 (.ok (.own,.lst ((az rs).map .str))))(m:Z.Sublist (az rs))(H:∀r∈rs,r.1∈Z->∃x∈r.2,x∈Z):cu Γ Bg [.tup (rs.map A'),.lst ((bS Z rs).map A')]=a5 (.ok (.loc,.bl bD)):=by
 have hsz:(1000:Nat)<=cL:=by decide
 have I:=f.rl;have Xy:Z.length<=24:=by have:=m.length_le;have:=fB λr g=>(f.ok r g).ok;have:=f.wl;lia
 have o:Z.Nodup:=m.nodup (mB _);have s:aB (aD Z)=Z:=eU ((bF _).trans ((O1 (bP _) o).mpr λx=>by rw[bR])) (dR _) ((dR _).sublist m);have MO:(aD Z).length<=Z.length:=fc (bP _) λx n=>by simpa[bR] using n
 have Nu:(bS Z rs).length=Z.length:=by unfold bS;rw[c4]
 have n:=gh (cond:=ba Γ []) (elt:=ev Γ (.idx (.var 0) (.cst (.int 0)))) (src:=[(.any,.lst ((bS Z rs).map A'))]) (st:=[a5 (.loc,.tup (rs.map A')),a5 (.any,.lst ((bS Z rs).map A')),b6,b6,b6,b6]) trivial .any (.inr rfl) A' (λr=>.str r.1) .any (λ_=>iZ) (bS Z rs) [] (by simp;lia)
  (λy _=>⟨aO (aF rfl) ai trivial (bU rfl),j7 rfl⟩)
 rw[i0,show((bS Z rs).map λr=>U.str r.1)=Z.map U.str by unfold bS;rw[i6];rfl]at n;have z:((bS Z rs).map A').map (λu=>(kE .any,u))=(bS Z rs).map λr=>(Kd.any,A' r):=by rw[i6];rfl
 obtain⟨st',J,o3,o4,o5,rfl,_⟩:=bM (rs:=[(.any,.lst ((bS Z rs).map A'))]) (t:=bD) (is:=[3,4]) (body:=execs Γ Xx) (λr:Row=>(Kd.any,A' r)) (λd q st=>∃o3 o4 o5,st=qf rs (bS Z rs) Z o3 o4 o5/\∀r∈q,r∈bS Z rs)
  (λ_ _ _ _=>trivial) (λd y q st L=>by
   have⟨o3,o4,o5,e,A⟩:=L;subst e;have⟨k,hk,rfl⟩:=ki.mp (A y (by simp));have l:(LP Z rs k).length=(rs.filter λr=>cK (r.1=k)).length:=by unfold LP;rw[c4]
   have v:=sx (λr:Row=>cK (r.1=k)) rs;have B:∀r∈rs.filter λr=>cK (r.1=k),pick Z r.2∈r.2/\pick Z r.2∈Z:=λr g=>by
    have⟨a,b⟩:=my.mp g;show Bh (H r a (ũ b▸hk))
   have N:LP Z rs k=(rs.filter λr=>cK (r.1=k)).map λr=>pick Z r.2:=rfl;have O:Run (J' Γ (.bi .all [.comp 1 cc .Lb [.bi .len [.var 5]] [] (.and [.cmp .isin (.idx (.var 5) (.var 0)) (.idx (.idx (.var 6) (.var 0)) (.cst (.int 1))),.cmp .isin (.idx (.var 5) (.var 0)) (.var 3)])])) (qf rs (bS Z rs) Z (a5 (.any,.str k)) (a5 (.any,.tup ((LP Z rs k).map .str))) (a5 (.own,.lst ((rs.filter λr=>cK (r.1=k)).map A')))) bD (qf rs (bS Z rs) Z (a5 (.any,.str k)) (a5 (.any,.tup ((LP Z rs k).map .str))) (a5 (.own,.lst ((rs.filter λr=>cK (r.1=k)).map A')))):=by
    rw[N];generalize (rs.filter λr=>cK (r.1=k))=F at B v;have C:=gh (cond:=ba Γ []) (elt:=ev Γ (.and [.cmp .isin (.idx (.var 5) (.var 0)) (.idx (.idx (.var 6) (.var 0)) (.cst (.int 1))),.cmp .isin (.idx (.var 5) (.var 0)) (.var 3)])) (src:=[(.loc,.int ((F.map A').length:Nat))]) (st:=qf rs (bS Z rs) Z (a5 (.any,.str k)) (a5 (.any,.tup ((F.map λr=>pick Z r.2).map .str))) (a5 (.own,.lst (F.map A')))) trivial .loc (.inl rfl) (λi:Nat=>U.int (0+(i:Int))) (λ_=>.bl bD) .loc (λ_=>iZ) (gs (F.map A').length) [] (by simp;lia)
     (λi Q=>by
      have w:i<F.length:=by simpa using u5.mp Q
      have⟨m1,m2⟩:=B F[i] (LL w);rw[show(0:Int)+(i:Int)=(i:Nat) by lia];have D:Ky ((F.map λr=>pick Z r.2).map U.str) (i:Nat)=a5 (.str (pick Z F[i].2)):=cY (by simp[w]);have T:Ky (F.map A') (i:Nat)=a5 (A' F[i]):=cY (by simp[w]);show⟨om (gf (p:=bD) (q:=bD) (fG (aO (aF rfl) (af rfl) trivial (bU D)) (aO (x:=(.loc,A' F[i])) (aO (aC rfl) (af rfl) ∅ (bL (k:=.bor 6) T)) ai trivial (bU rfl)) trivial (DJ.trans (by rw[Ũ m1]))) λ_=>jL (fG (aO (aF rfl) (af rfl) trivial (bU D)) (aC rfl) ∅ (Ae.trans (by rw[Ũ m2])))),aK⟩)
    rw[i0,show((gs (F.map A').length).map λ_=>U.bl bD)=((gs (F.map A').length).map λ_=>bD).map U.bl by rw[i6];rfl]at C;have f:=p7 (k:=.own) ((gs (F.map A').length).map λ_=>bD);rw[show(((gs (F.map A').length).map λ_=>bD).all id)=bD by rw[Ww];show i8.mpr λ_ _=>rfl]at f;show JL (ae (dc (rs:=[(.loc,.int ((F.map A').length:Nat))]) (ae (cC (ae (aC rfl) aj) ∅ b_) aj) trivial (iu (by rw[c4];lia)) C) aj) trivial f rfl
   have Y:k∈az rs:=m.subset hk;have V3:=GR (Γ:=Γ) (st:=qf rs (bS Z rs) Z (a5 (.any,.str k)) (a5 (.any,.tup ((LP Z rs k).map .str))) o5) (rs:=rs) (k:=k) (i:=0) (j:=3) ⋯ rfl rfl;show⟨qf rs (bS Z rs) Z (a5 (.any,.str k)) (a5 (.any,.tup ((LP Z rs k).map .str))) o5,_,j9 (.inr rfl),ay (st2:=qf rs (bS Z rs) Z (a5 (.any,.str k)) (a5 (.any,.tup ((LP Z rs k).map .str))) (a5 (.own,.lst ((rs.filter λr=>cK (r.1=k)).map A')))) V3 bh (aZ (zP (i_ (iX (c:=bD) (D9 (aF rfl) rfl)) (i_ (aN (cC (ae (aF rfl) aj) trivial jc) (cC (ae (aC rfl) aj) ∅ b_) trivial (mM (by rw[c4,c4,l];simp))) (rA (aN (aF rfl) (bB (ae (af rfl) aj) trivial G) trivial (de.trans (by rw[ŧ (not_not_intro Y)]))))))) av (aZ (iX (c:=bD) O) av av)),_,_,_,rfl,λr g=>A r (by simp[g])⟩) (bS Z rs) [] (qf rs (bS Z rs) Z b6 b6 b6) ⟨b6,b6,b6,rfl,λ_ h=>h⟩
 have KS:bK .ne (.lst (Z.map U.str)) (.lst ((aB (aD Z)).map U.str))=a5 cc:=by rw[DA,s];simp
 show a_ rfl (.inr rfl) (st0:=[a5 (.loc,.tup (rs.map A')),a5 (.any,.lst ((bS Z rs).map A')),b6,b6,b6,b6]) (Ū (λx:Option (Kd×U)=>[x,a5 (Kd.any,U.lst ((bS Z rs).map A')),b6,b6,b6,b6]) (cz rs)) (ay (st2:=qf rs (bS Z rs) Z b6 b6 b6) (dc (rs:=[(.any,.lst ((bS Z rs).map A'))]) (ae (aF rfl) aj) trivial (by change a5 (QR (λu=>(kE .any,u)) _)=_;rw[z]) n) bh (aZ (aN (aC rfl) (vG (ae (aC rfl) aj) ∅ (rF ⋯ ⋯)) ∅ KS) av (cE (rs:=[(.any,.lst ((bS Z rs).map A'))]) (ae (aF rfl) aj) trivial (by change a5 (QR (λu=>(kE .any,u)) _)=_;rw[z]) rfl J (bH ai da))))
abbrev um:Fn:=⟨"_law_right",4,5,[.set 4 (.bi .tuple [.comp 1 cc .seq [.var 0] [.cmp .ne (.idx (.var 0) (.cst (.int 0))) (.var 3)] (.var 0)]),.ite (.or [.not (.Mx (.var 3) .tuple),.cmp .ne (.bi .len [.var 3]) (.cst (.int 2)),.not (.call "_law_pairs" [.idx (.var 3) (.cst (.int 1))])]) [.ret (.cst (.bl cc))] [],.ite (.cmp .eq (.idx (.var 3) (.cst (.int 0))) (.cst (.str "free"))) [.ret (.and [.cmp .gt (.bi .len [.idx (.var 3) (.cst (.int 1))]) (.cst (.int 0)),.cmp .eq (.idx (.idx (.idx (.var 3) (.cst (.int 1))) (.neg (.cst (.int 1)))) (.cst (.int 0))) (.var 1),.call "_law_is_order" [.var 4,.idx (.var 3) (.cst (.int 1))]])] [],.ret (.and [.cmp .eq (.idx (.var 3) (.cst (.int 0))) (.cst (.str "must")),.cmp .isin (.var 1) (.comp 1 cc .seq [.idx (.var 3) (.cst (.int 1))] [] (.idx (.var 0) (.cst (.int 0)))),.call "_law_is_knot" [.var 4,.idx (.var 3) (.cst (.int 1))]])]⟩
def Bj:Ky (l++[x]) (-1)=a5 x:=by
 unfold L2.Ky L2.M9;rw[Ŧ ⋯,ť (by rw[gc,wh];lia)];change(l++[x])[((-1:Int)+((l++[x]).length:Nat)).toNat]?=_;rw[show((-1:Int)+((l++[x]).length:Nat)).toNat=l.length by rw[gc,wh];lia];simp
def xM(m:Bq ws rs)(D:∀B:List (Str×Nat),vS (wo rs o) [] B->B.length<=24->Γ "_law_is_order" [.tup ((wo rs o).map A'),.lst (B.map stN)]=a5 (.ok (.loc,.bl bD)))(G:∀Z:List Str,Z.Sublist (az (wo rs o))->(∀r∈wo rs o,r.1∈Z->∃x∈r.2,x∈Z)->Γ "_law_is_knot" [.tup ((wo rs o).map A'),.lst ((bS Z (wo rs o)).map A')]=a5 (.ok (.loc,.bl bD)))
  (d:∀B:List (Str×Nat),B.length<=24->Γ "_law_pairs" [.lst (B.map stN)]=a5 (.ok (.loc,.bl bD))) (e:∀P:List Row,P.length<=24->Γ "_law_pairs" [.lst (P.map A')]=a5 (.ok (.loc,.bl bD))) (h:OV rs w o u):cu Γ um [.tup (rs.map A'),.str w,.str o,u]=a5 (.ok (.loc,.bl bD)):=by
 have hsz:(1000:Nat)<=cL:=by decide
 let S:=λ(v:U) (o4:Option (Kd×U))=>([a5 (.loc,.tup (rs.map A')),a5 (.loc,.str w),a5 (.loc,.str o),a5 (.any,v),o4]:aw)
 have n:∀x l,start [.tup (rs.map A'),.str w,.str o,.tup [.str x,.lst l]] 5=S (.tup [.str x,.lst l]) b6:=λx l=>Ū (λz:Option (Kd×U)=>[z,a5 (Kd.loc,U.str w),a5 (Kd.loc,U.str o),a5 (Kd.any,U.tup [.str x,.lst l]),b6]) (cz rs);have s:∀v,Run (ev Γ (.bi .tuple [.comp 1 cc .seq [.var 0] [.cmp .ne (.idx (.var 0) (.cst (.int 0))) (.var 3)] (.var 0)])) (S v b6) (.loc,.tup ((wo rs o).map A')) (S v b6):=λv=>cC (ae (A5 (j:=2) (k:=.loc) (by have:=m.rl;lia) (.inl rfl) rfl rfl) aj) trivial vY;have a:∀x l o4,Run (ev Γ (.idx (.var 3) (.cst (.int 1)))) (S (.tup [.str x,.lst l]) o4) (.any,.lst l) (S (.tup [.str x,.lst l]) o4):=λx l o4=>aO (aF rfl) ai trivial (bU rfl);have f:∀x l o4,Run (ev Γ (.idx (.var 3) (.cst (.int 0)))) (S (.tup [.str x,.lst l]) o4) (.any,.str x) (S (.tup [.str x,.lst l]) o4):=λx l o4=>aO (aF rfl) ai trivial (bU rfl);have t:∀x l o4,Γ "_law_pairs" [.lst l]=a5 (.ok (.loc,.bl bD))->Run (J' Γ (.or [.not (.Mx (.var 3) .tuple),.cmp .ne (.bi .len [.var 3]) (.cst (.int 2)),.not (.call "_law_pairs" [.idx (.var 3) (.cst (.int 1))])])) (S (.tup [.str x,.lst l]) o4) cc (S (.tup [.str x,.lst l]) o4):=λx l o4 g=>zP (i_ (iX (c:=bD) (D9 (aF rfl) rfl)) (i_ (aN (cC (ae (aF rfl) aj) trivial jc) ai trivial (mM rfl)) (rA (iX (c:=bD) (tX (ae (a x l o4) aj) trivial g rfl)))));cases h with
 |@free B l p i b A =>
  have H:Ky (B.map stN) (-1)=a5 (stN (w,p)):=by rw[A,i3];show Bj
  have N:0<B.length:=by rw[A];simp
  show a_ rfl (.inr rfl) (n _ _) (ay (st2:=S (.tup [.str "free",.lst (B.map stN)]) (a5 (.loc,.tup ((wo rs o).map A')))) (s _) aH (aZ (t _ _ _ (d B b)) av (jN (aN (f _ _ _) ai trivial (fA.trans (by simp))) (bH (om (gf (p:=bD) (q:=bD) (fG (cC (ae (a _ _ _) aj) trivial b_) ai trivial (jb (by simp;lia))) λ_=>gf (p:=bD) (q:=bD) (fG (x:=(.any,.str w)) (aO (x:=(.any,stN (w,p))) (aO (a _ _ _) (Ir ai rfl) trivial (bL (k:=.any) H)) ai trivial (bU rfl)) (af rfl) trivial (fA.trans (by simp))) λ_=>jL (bB (ae (af rfl) (ae (a _ _ _) aj)) trivial (D B i b)))) da))))
 |@RZ K i b =>
  have I:=v5 (m.wo o) K;have J:(bS (K8 (wo rs o) K) (wo rs o)).length=(K8 (wo rs o) K).length:=by unfold bS;rw[c4]
  have C:=gh (cond:=ba Γ []) (elt:=ev Γ (.idx (.var 0) (.cst (.int 0)))) (src:=[(.any,.lst ((bS (K8 (wo rs o) K) (wo rs o)).map A'))]) (st:=S (.tup [.str "must",.lst ((bS (K8 (wo rs o) K) (wo rs o)).map A')]) (a5 (.loc,.tup ((wo rs o).map A')))) trivial .any (.inr rfl) A' (λr=>.str r.1) .any (λ_=>iZ) (bS (K8 (wo rs o) K) (wo rs o)) [] (by simp;lia)
   (λy _=>⟨aO (aF rfl) ai trivial (bU rfl),j7 rfl⟩)
  rw[i0,show((bS (K8 (wo rs o) K) (wo rs o)).map λr=>U.str r.1)=(K8 (wo rs o) K).map U.str by unfold bS;rw[i6];rfl]at C;have L:=G (K8 (wo rs o) K) MV (Kn.held i);have g:=e _ (vr (WG J) I);show a_ rfl (.inr rfl) (n _ _) (ay (st2:=S (.tup [.str "must",.lst ((bS (K8 (wo rs o) K) (wo rs o)).map A')]) (a5 (.loc,.tup ((wo rs o).map A')))) (s _) aH (aZ (t _ _ _ g) av (aZ (aN (f _ _ _) ai trivial (fA.trans (by rw[ŧ (by decide)]))) av (bH (om (gf (p:=bD) (q:=bD) (fG (f _ _ _) ai trivial (fA.trans (by simp))) λ_=>gf (p:=bD) (q:=bD) (fG (af rfl) (dc (rs:=[(.any,.lst ((bS (K8 (wo rs o) K) (wo rs o)).map A'))]) (ae (a _ _ _) aj) trivial (by change a5 (QR (λu=>(kE .any,u)) _)=_;rw[i6];rfl) C) trivial (Ae.trans (by rw[Ũ b]))) λ_=>jL (bB (ae (af rfl) (ae (a _ _ _) aj)) trivial L))) da))))
end
end TM
namespace TM
open PySem L2 Kj Od
section
noncomputable def Em : List S :=
        [.set 12 (.call "_law_asked" [.var 5,.var 10,.var 11]),
        .ite (.or [.cmp .J4 (.var 10) (.var 6),.cmp .J4 (.var 11) (.var 6)])
          [.ite (.cmp .ne (.var 12) (.cst (.str "unknown")))
            [.ret (.cst (.bl false))]
            []]
          [.ite (.cmp .J4 (.var 10) (.var 7))
            [.ite (.cmp .ne (.var 12) (.cst (.str "unlearnt")))
              [.ret (.cst (.bl false))]
              []]
            [.ite (.not (.call "_law_right" [.var 5,.var 10,.var 11,.var 12]))
              [.ret (.cst (.bl false))]
              []]]]
abbrev Bk:List S :=
   [.set 10 (.idx (.var 8) (.JW "_law_draw" [.var 2,.bi .len [.var 8]] [0])),
   .set 11 (.idx (.var 8) (.JW "_law_draw" [.var 2,.bi .len [.var 8]] [0])),
   .ite (.cmp .ne (.var 10) (.var 11)) Em
    []]
abbrev uo:Fn:=⟨"law",1,13,[.set 1 (.NX .L4 [.Ob (.var 0) [] [.cst (.int 200)]]),.set 2 (.JW "_law_source" [.var 1,.cst (.int 2)] [0]),.set 3 (.JW "_law_source" [.var 1,.cst (.int 1)] [0]),.set 4 (.JW "_law_words" [.var 3] [0]),.set 5 (.JW "_law_widened" [.var 3,.JW "_law_book" [.var 1,.var 3,.var 4] [0,1]] [0]),.set 6 (.call "_law_all" [.var 5]),.set 7 (.bi .sorted [.call "_law_learnt" [.var 5]]),.set 8 (.bin .add (.bin .add (.bin .add (.var 4) (.var 7)) (.var 7)) (.lst [.cst (.str "zzzzzzzz"),.cst (.str "a/99")])),.J9 cc [9] .Lb [.cst (.int 3)] Bk,.ret (.cst (.bl bD))]⟩
abbrev LX(o0 o1:Option (Kd×U))(u2:U)(o3 o4:Option (Kd×U))(rs:List Row)(K sm:List Str)(o9 o10 o11 o12:Option (Kd×U)):aw :=
 [o0,o1,a5 (.own,u2),o3,o4,a5 (.loc,.tup (rs.map A')),a5 (.own,.lst ((az rs).map .str)),a5 (.own,.lst ((aB K).map .str)),a5 (.own,.lst (sm.map .str)),o9,o10,o11,o12]
def Bl(j:KL.Kn rs K)(e:Γ "_law_asked" [.tup (rs.map A'),.str w,.str o]=a5 (.ok (.loc,u)))(h:mQ rs w o u)(k:∀u,OV rs w o u->Γ "_law_right" [.tup (rs.map A'),.str w,.str o,u]=a5 (.ok (.loc,.bl bD))):
  Run (execs Γ Em) (LX o0 o1 u2 o3 o4 rs K sm o9 (a5 (.loc,.str w)) (a5 (.loc,.str o)) o12) .nx (LX o0 o1 u2 o3 o4 rs K sm o9 (a5 (.loc,.str w)) (a5 (.loc,.str o)) (a5 (.loc,u))):=by
 have d:∀o12,Run (J' Γ (.or [.cmp .J4 (.var 10) (.var 6),.cmp .J4 (.var 11) (.var 6)])) (LX o0 o1 u2 o3 o4 rs K sm o9 (a5 (.loc,.str w)) (a5 (.loc,.str o)) o12) (cK (w∉az rs)||decide (o∉az rs)) (LX o0 o1 u2 o3 o4 rs K sm o9 (a5 (.loc,.str w)) (a5 (.loc,.str o)) o12):=λo12=>zP (Iq (aN (af rfl) (aC rfl) ∅ de) λ_=>rA (aN (af rfl) (aC rfl) ∅ de));have g:∀o12,Run (J' Γ (.cmp .J4 (.var 10) (.var 7))) (LX o0 o1 u2 o3 o4 rs K sm o9 (a5 (.loc,.str w)) (a5 (.loc,.str o)) o12) (cK (w∉aB K)) (LX o0 o1 u2 o3 o4 rs K sm o9 (a5 (.loc,.str w)) (a5 (.loc,.str o)) o12):=λo12=>aN (af rfl) (aC rfl) ∅ de;have i:w∈aB K↔Ln rs w:=(bF K).mem_iff.trans (Kn.mem j);show ay (st2:=LX o0 o1 u2 o3 o4 rs K sm o9 (a5 (.loc,.str w)) (a5 (.loc,.str o)) (a5 (.loc,u))) (bB (ae (af rfl) (ae (af rfl) (ae (af rfl) aj))) trivial e) aH ?_;have d:=d (a5 (.loc,u));have g:=g (a5 (.loc,u));cases h with
 |V0 a =>
  rw[show(cK (w∉az rs)||decide (o∉az rs))=bD by by_cases l:w∈az rs<;>by_cases m:o∈az rs<;>simp_all]at d;show dH d (aZ (aN (af rfl) ai trivial (mG.trans (by simp))) av av) av
 |K8 a b c =>
  rw[show(cK (w∉az rs)||decide (o∉az rs))=cc by simp[a,b]]at d;rw[Ũ (show w∉aB K from λz=>c (i.mp z))]at g;show aZ d (dH g (aZ (aN (af rfl) ai trivial (mG.trans (by simp))) av av) av) av
 |Xw a b c f =>
  rw[show(cK (w∉az rs)||decide (o∉az rs))=cc by simp[a,b]]at d;rw[ŧ (show ¬w∉aB K from λz=>z (i.mpr c))]at g;show aZ d (aZ g (aZ (iX (c:=bD) (tX (ae (af rfl) (ae (af rfl) (ae (af rfl) (ae (af rfl) aj)))) trivial (k _ f) rfl)) av av) av) av
def Bm(r:bC Γ)(v:KL.Kn rs K)(x:∀w o,w≠o->∃u,Γ "_law_asked" [.tup (rs.map A'),.str w,.str o]=a5 (.ok (.loc,u))/\mQ rs w o u)(y:∀w o u,OV rs w o u->Γ "_law_right" [.tup (rs.map A'),.str w,.str o,u]=a5 (.ok (.loc,.bl bD)))
 (z:Src T u2) (H:T+2<2 ^ 62) (A:0<sm.length) (B:sm.length<1000) :
    ∃s C D G,Run (execs Γ Bk) (LX o0 o1 u2 o3 o4 rs K sm o9 o10 o11 o12) .nx (LX o0 o1 s o3 o4 rs K sm o9 C D G)/\Src (T+2) s:=by
  have⟨n,c,q,d,g,s2⟩:=dg (Γ:=Γ) (st:=LX o0 o1 u2 o3 o4 rs K sm o9 o10 o11 o12) r (i:=2) (k:=.own) (e:=.bi .len [.var 8]) (m:=((sm.map U.str).length:Nat)) rfl rfl (cC (ae (aC rfl) aj) ∅ b_) z ⋯ (by simp;lia) (by simp;lia);have⟨m,rfl⟩:=tj d;have h:m<sm.length:=by simp at g;lia
  have j:Ky (sm.map U.str) (m:Int)=a5 (.str sm[m]):=cY (by simp[h]);generalize sm[m]=w at j;have⟨n,a,t,d,g,s3⟩:=dg (Γ:=Γ) (st:=LX o0 o1 c o3 o4 rs K sm o9 (a5 (.loc,.str w)) o11 o12) r (i:=2) (k:=.own) (e:=.bi .len [.var 8]) (m:=((sm.map U.str).length:Nat)) rfl rfl (cC (ae (aC rfl) aj) ∅ b_) s2 ⋯ (by simp;lia) (by simp;lia);have⟨m,rfl⟩:=tj d;have h:m<sm.length:=by simp at g;lia
  have l:Ky (sm.map U.str) (m:Int)=a5 (.str sm[m]):=cY (by simp[h]);generalize sm[m]=o at l;have b:Run (J' Γ (.cmp .ne (.var 10) (.var 11))) (LX o0 o1 a o3 o4 rs K sm o9 (a5 (.loc,.str w)) (a5 (.loc,.str o)) o12) (!cK (w=o)) (LX o0 o1 a o3 o4 rs K sm o9 (a5 (.loc,.str w)) (a5 (.loc,.str o)) o12):=aN (af rfl) (af rfl) trivial mG;have s4:Src (T+2) a:=s3.up ⋯;by_cases p:w=o
  . rw[Ũ p]at b
    show⟨a,_,_,_,ay (st2:=LX o0 o1 c o3 o4 rs K sm o9 (a5 (.loc,.str w)) o11 o12) (aO (aC rfl) q (by show⟨⟨.own,rfl,rfl⟩,trivial⟩) (bL j)) aH (ay (st2:=LX o0 o1 a o3 o4 rs K sm o9 (a5 (.loc,.str w)) (a5 (.loc,.str o)) o12) (aO (aC rfl) t (by show⟨⟨.own,rfl,rfl⟩,trivial⟩) (bL l)) aH (aZ b av av)),s4⟩
  . rw[ŧ p]at b
    have⟨u,e,f⟩:=x w o p;show⟨a,_,_,_,ay (st2:=LX o0 o1 c o3 o4 rs K sm o9 (a5 (.loc,.str w)) o11 o12) (aO (aC rfl) q (by show⟨⟨.own,rfl,rfl⟩,trivial⟩) (bL j)) aH (ay (st2:=LX o0 o1 a o3 o4 rs K sm o9 (a5 (.loc,.str w)) (a5 (.loc,.str o)) o12) (aO (aC rfl) t (by show⟨⟨.own,rfl,rfl⟩,trivial⟩) (bL l)) aH (dH b (Bl v e f λu=>y w o u) av)),s4⟩
abbrev oH:List Str:=["zzzzzzzz","a/99"]
def xN(m:ji Γ)(v:bC Γ)(z:vT Γ)(A:mO Γ)(B:AL Γ)(C:IT Γ)(D:∀ws rs,Bq ws rs->Γ "_law_all" [.tup (rs.map A')]=a5 (.ok (.own,.lst ((az rs).map .str))))(G:∀ws rs,Bq ws rs->(∀x∈ws,x.length<=20)->∀w o,w≠o->∃u,Γ "_law_asked" [.tup (rs.map A'),.str w,.str o]=a5 (.ok (.loc,u))/\mQ rs w o u)
  (H:∀ws rs,Bq ws rs->∀w o u,OV rs w o u->Γ "_law_right" [.tup (rs.map A'),.str w,.str o,u]=a5 (.ok (.loc,.bl bD))) {ns:List Int} (hn:ns.length<=63):cu Γ uo [.lst (ns.map .int)]=a5 (.ok (.loc,.bl bD)):=by
 have I:(1000:Nat)<=cL:=by decide
 have n:sT .L4 [(.own,.lst ((cut ns b6 (a5 200)).map .int))]=a5 (.own,.lst ((cut ns b6 (a5 200)).reverse.map .int)):=by
  change(if fu .own ((cut ns b6 (a5 200)).map U.int)=bD then a5 (Kd.own,U.lst ((cut ns b6 (a5 200)).map U.int).reverse) else b6)=_;rw[ť (show fu .own ((cut ns b6 (a5 200)).map U.int)=bD from rfl),O9]
 have c:(cut ns b6 (a5 200)).reverse.length<=63:=by rw[Pz];have:=Dh ns b6 (a5 200);lia
 generalize (cut ns b6 (a5 200)).reverse=f at n c;let o0:Option (Kd×U):=a5 (.any,.lst (ns.map .int));have⟨g,u2,J,l2,s2⟩:=rS (Γ:=Γ) m (ns:=f) (rest:=[b6,b6,b6,b6,b6,b6,b6,b6,b6,b6,b6]) (o0:=o0) (k:=2);have⟨p,L,N,l3,s3⟩:=rS (Γ:=Γ) m (ns:=g) (rest:=[a5 (.own,u2),b6,b6,b6,b6,b6,b6,b6,b6,b6,b6]) (o0:=o0) (k:=1);have⟨ws,u4,O,Q,Y,s4,wx⟩:=z 0 L s3 ⋯;have⟨VX,rfl,Xp⟩:=s3.lst;have⟨j,rfl,ab⟩:=s4.lst;have q4:=iy (Γ:=Γ) (st:=[o0,a5 (.own,.lst (p.map .int)),a5 (.own,u2),a5 (.own,.lst VX),b6,b6,b6,b6,b6,b6,b6,b6,b6]) (i:=3) (es:=[]) (k0:=.own) (k:=.own) rfl rfl aj rfl rfl Xp rfl O (.inl rfl);have⟨rs,a,b,q5,e⟩:=xI (Γ:=Γ) A B (ns:=p) (u:=.lst j) (ws:=ws) (rest:=[b6,b6,b6,b6,b6,b6,b6,b6]) (o0:=o0) (o2:=a5 (.own,u2)) ⋯ s4 ⋯ Q Y;have e6:=D ws rs e;have⟨K,e7,k1,k2⟩:=C ws rs .loc _ .tup e.wl e.ok;have ac:=k1.len;have l:L5 .sorted [(.own,kG K)]=a5 (.own,.lst ((aB K).map .str)):=by
  change(if K.length<64 then a5 (Kd.own,U.lst ((aB K).map .str)) else b6)=_;rw[ť ⋯]
 have hl:((aB K).map U.str).length=K.length:=by rw[c4,bO]
 have q8:Run (ev Γ (.bin .add (.bin .add (.bin .add (.var 4) (.var 7)) (.var 7)) (.lst [.cst (.str "zzzzzzzz"),.cst (.str "a/99")]))) [o0,a5 (.own,.lst (a.map .int)),a5 (.own,u2),a5 (.own,b),a5 (.own,.lst (ws.map .str)),a5 (.loc,.tup (rs.map A')),a5 (.own,.lst ((az rs).map .str)),a5 (.own,.lst ((aB K).map .str)),b6,b6,b6,b6,b6] (.own,.lst ((((ws++aB K)++aB K)++oH).map .str)) [o0,a5 (.own,.lst (a.map .int)),a5 (.own,u2),a5 (.own,b),a5 (.own,.lst (ws.map .str)),a5 (.loc,.tup (rs.map A')),a5 (.own,.lst ((az rs).map .str)),a5 (.own,.lst ((aB K).map .str)),b6,b6,b6,b6,b6]:=by
  rw[i3,i3,i3];show bG (x:=(.own,.lst ((ws.map .str++(aB K).map .str)++(aB K).map .str))) (bG (x:=(.own,.lst (ws.map .str++(aB K).map .str))) (bG (aC rfl) (aC rfl) ∅ (jd (by rw[c4,hl];lia) rfl rfl)) (aC rfl) ∅ (jd (by rw[gc,c4,hl];lia) rfl rfl)) (bY (us:=oH.map .str) (ae ai (ae ai aj)) trivial (aA aK (aA aK aL)) (by change 2<=cL;lia)) trivial (jd (by rw[gc,gc,c4,hl];change ws.length+K.length+K.length+2<=cL;lia) rfl rfl)
 obtain⟨st',hf,Tb,o9,o10,o11,o12,T,rfl,_⟩:=bM (rs:=[(.loc,.int (3:Nat))]) (t:=cc) (is:=[9]) (body:=execs Γ Bk) (λi:Nat=>(Kd.loc,U.int (0+(i:Int)))) (λd r st=>∃u2 o9 o10 o11 o12 T,st=LX o0 (a5 (.own,.lst (a.map .int))) u2 (a5 (.own,b)) (a5 (.own,.lst (ws.map .str))) rs K (((ws++aB K)++aB K)++oH) o9 o10 o11 o12/\Src T u2/\T+2 * (r.length:Nat)<1000)
  (λ_ _ _ _=>trivial) (λd y r st h=>by
   have⟨u2,o9,o10,o11,o12,T,rfl,s,t⟩:=h;rw[js]at t;have⟨Tb,NK,R4,R5,q,s'⟩:=Bm (Γ:=Γ) v k2 (G ws rs e wx) (H ws rs e) (o0:=o0) (o1:=a5 (.own,.lst (a.map .int))) (u2:=u2) (o3:=a5 (.own,b)) (o4:=a5 (.own,.lst (ws.map .str))) (sm:=((ws++aB K)++aB K)++oH) (o9:=a5 (.loc,.int (0+(y:Int)))) (o10:=o10) (o11:=o11) (o12:=o12) s ⋯ (by simp;lia) (by rw[gc,gc,gc,bO];change ws.length+K.length+K.length+2<1000;lia);show⟨LX o0 (a5 (.own,.lst (a.map .int))) u2 (a5 (.own,b)) (a5 (.own,.lst (ws.map .str))) rs K (((ws++aB K)++aB K)++oH) (a5 (.loc,.int (0+(y:Int)))) o10 o11 o12,_,aH,q,_,_,_,_,_,_,rfl,s',⋯⟩) (gs 3) [] (LX o0 (a5 (.own,.lst (a.map .int))) u2 (a5 (.own,b)) (a5 (.own,.lst (ws.map .str))) rs K (((ws++aB K)++aB K)++oH) b6 b6 b6 b6) ⟨_,_,_,_,_,0,rfl,s2,by simp⟩
 show a_ (st0:=[o0,b6,b6,b6,b6,b6,b6,b6,b6,b6,b6,b6,b6]) rfl (.inr rfl) rfl (ay (vG (ae (rq (aF rfl) vF (oj ai) trivial (zU (by change cV _=bD;show gI ns))) aj) trivial n) bh (ay J bh (ay N bh (ay q4 bh (ay q5 aH (ay (bB (ae (af rfl) aj) trivial e6) bh (ay (cC (ae (bB (ae (af rfl) aj) trivial e7) aj) trivial l) bh (ay q8 bh (cE (rs:=[(.loc,.int (3:Nat))]) (ae ai aj) trivial (iu ⋯) rfl hf (bH ai da))))))))))
end
end TM
namespace K
open PySem L2 TM
abbrev top(i:Nat):M':=PySem.Challenge.pw_primer_k34_free_or_must.main.body.getD i (.Pass ⟨0,0,0,0⟩)
noncomputable abbrev mR:Fn:=TM.mD
noncomputable abbrev dA:Fn:=KL.dA
noncomputable abbrev fg:Fn:=TM.AZ
noncomputable abbrev bp:Fn:=KL.bp
noncomputable abbrev cU:Fn:=KL.cU
noncomputable abbrev bt:Fn:=KL.bt
noncomputable abbrev fC:Fn:=KL.fC
noncomputable abbrev fe:Fn:=KL.fe
noncomputable abbrev jr:Fn:=KK.vZ
noncomputable abbrev eJ:Fn:=TM.A7
abbrev Bn:Fn:=⟨"knot",1,4,[.newD 1,.J9 cc [2] .seq [.call "not_learnt" [.var 0]] [.putD 1 (.var 2) (.lst [])],.J9 cc [3] .seq [.var 0] [.ite (.inD cc (.idx (.var 3) (.cst (.int 0))) 1) [.LN 1 (.idx (.var 3) (.cst (.int 0))) (.idx (.comp 1 cc .seq [.idx (.var 3) (.cst (.int 1))] [.inD cc (.var 0) 2] (.var 0)) (.cst (.int 0)))] []],.MA 1 (.tup [.var 0,.bi .tuple [.var 1]])]⟩
noncomputable abbrev oI:Fn:=TM.VY
noncomputable abbrev g9:Fn:=TM.VZ
noncomputable abbrev gq:Fn:=TM.IX
noncomputable abbrev jt:Fn:=TM.Ag
noncomputable abbrev mS:Fn:=TM.vR
noncomputable abbrev ka:Fn:=TM.mL
noncomputable abbrev oJ:Fn:=TM.GG
noncomputable abbrev oK:Fn:=TM.Dr
noncomputable abbrev mT:Fn:=TM.p_
noncomputable abbrev ju:Fn:=TM.DB
noncomputable abbrev oM:Fn:=TM.AG
noncomputable abbrev kb:Fn:=TM.GP
abbrev mU:Fn:=⟨"_law_kind",1,2,[.set 1 (.lst [.Lp (.var 0) "Unknown" [("Unknown",bD),("Unlearnt",cc)],.Lp (.var 0) "Unlearnt" [("Unknown",cc),("Unlearnt",bD)],.Lp (.var 0) "TooMany" [("Unknown",cc),("Unlearnt",cc)],.Lp (.var 0) "Lacking" [("Unknown",cc),("Unlearnt",cc)]]),.set 1 (.bin .add (.var 1) (.lst [.Lp (.var 0) "NoText" [("Unknown",cc),("Unlearnt",cc)],.Lp (.var 0) "Unfit" [("Unknown",cc),("Unlearnt",cc)],.Lp (.var 0) "NoRow" [("Unknown",cc),("Unlearnt",cc)],.Lp (.var 0) "NoDeed" [("Unknown",cc),("Unlearnt",cc)]])),.ite (.or [.cmp .ne (.Oc cc 1 bD) (.cst (.int 1)),.not (.Lp (.var 0) "ValueError" [("Unknown",bD),("Unlearnt",bD)])]) [.ret (.cst (.str "none"))] [],.ret (.idx (.lst [.cst (.str "unknown"),.cst (.str "unlearnt"),.cst (.str "many"),.cst (.str "lacking"),.cst (.str "text"),.cst (.str "unfit"),.cst (.str "row"),.cst (.str "deed")]) (.Oc bD 1 bD))]⟩
noncomputable abbrev gr:Fn:=TM.GQ
noncomputable abbrev g_:Fn:=TM.Bg
noncomputable abbrev kf:Fn:=TM.Be
noncomputable abbrev kg:Fn:=TM.Bd
noncomputable abbrev kh:Fn:=TM.um
noncomputable abbrev hJ:Fn:=TM.Dw
noncomputable abbrev En:Fn:=TM.uo
abbrev prog:List Fn:=[mR,dA,fg,bp,cU,bt,fC,fe,jr,eJ,Bn,oI,g9,gq,jt,mS,ka,oJ,oK,mT,ju,oM,kb,mU,gr,g_,kf,kg,kh,hJ,En]
abbrev ck:Ck:=⟨(prog.filter λf=>f.io.isNone).map (·.name),[],prog.filterMap λf=>f.io.map λp=>(f.name,p.1),["Unknown","Unlearnt"],[],[("Unknown","Lacking",cc),("Unknown","NoDeed",cc),("Unknown","NoRow",cc),("Unknown","NoText",cc),("Unknown","TooMany",cc),("Unknown","Unfit",cc),("Unknown","Unknown",bD),("Unknown","Unlearnt",cc),("Unknown","ValueError",bD),("Unlearnt","Lacking",cc),("Unlearnt","NoDeed",cc),("Unlearnt","NoRow",cc),("Unlearnt","NoText",cc),("Unlearnt","TooMany",cc),("Unlearnt","Unfit",cc),("Unlearnt","Unknown",cc),("Unlearnt","Unlearnt",bD),("Unlearnt","ValueError",bD)],[("Unknown","PrimerError"),("Unlearnt","PrimerError")]⟩
def pure(ns:List Int)(h:ns.length<=63):J5 prog 10 "law" [tS ns]=a5 (.ok (.loc,.bl bD)):=by
 have c:Kq prog "_law_draw" vR:=rfl;have hs:Kq prog "_law_source" Ag:=rfl;have d:Kq prog "_law_learnt" DB:=rfl;have g:Kq prog "_law_all" AG:=rfl;have b:Kq prog "_law_pairs" Be:=rfl;have ho:Kq prog "_law_is_order" GQ:=rfl;have hk:Kq prog "_law_is_knot" Bg:=rfl;have i:Kq prog "_law_whole" GP:=rfl;have j:Kq prog "_law_right" um:=rfl;have H:V2 prog:=⟨⟨rfl,rfl,rfl,rfl,rfl,rfl⟩,rfl,rfl,rfl,rfl,rfl,rfl,rfl,rfl⟩
 have k:bC (J5 prog 7):=t_ c;have e:bC (J5 prog 8):=t_ c;have hl:Kq prog "law" uo:=rfl;rw[show J5 prog 10 "law" [tS ns]=_ from aJ hl [tS ns]];show xN (Au hs) (t_ c) (Du e rfl) (AN (Au hs) e (ID k rfl) (IF rfl) rfl) (IH e (GJ rfl) rfl) (JP d) (λws rs a=>all2 g a) (λws rs a l w o m=>DH H rfl rfl 0 a l m) (λws rs a w o u f=>(aJ j _).trans (xM a (λB p hl=>(aJ ho _).trans (DL (λn=>(aJ i _).trans DK) (λr d=>((a.wo o).ok r d).2.2.2) p hl)) (λZ q b=>(aJ hk _).trans (Bi (a.wo o) (all2 g (a.wo o)) q b)) (λB hl=>(aJ b _).trans (rZ stN (λs=>⟨_,_,rfl⟩) ⋯)) (λP hl=>(aJ b _).trans (rZ A' (λs=>⟨_,_,rfl⟩) ⋯)) f)) h
end K
namespace K
open PySem L2 TM PySem.W PyProof.Rows
abbrev m0:dV:=.str "primer.books" 335
abbrev m1:dV:=.str "primer.learning" 364
abbrev m2:dV:=.str "primer.knots" 420
abbrev m3:dV:=.str "primer.musts" 428
abbrev m4:dV:=.str "law_primer_k34_free_or_must" 459
abbrev ml:Me:=⟨En,45,["_law_script","_law_left","_law_query","_law_source_here","_law_words_here","_law_book_here","_law_known","_law_learned","_law_some","_law_turn","_law_word","_law_other","_law_found"],316,315,m4,co "law" 597 245 1 310 311 (.ref 312) (.ref 313) (.ref 314) 613 614 181⟩
abbrev ms:List Me:=[⟨mR,11,["book","words","row"],130,129,m0,co "words_of" 337 21 1 124 125 (.ref 126) (.ref 127) (.ref 128) 343 344 181⟩,
 ⟨dA,12,["pairs","found","key","value"],137,136,m0,co "gathered" 346 27 1 131 132 (.ref 133) (.ref 134) (.ref 135) 353 354 181⟩,
 ⟨fg,13,["book","words"],144,143,m0,co "refuse_unknown" 356 34 2 138 139 (.ref 140) (.ref 141) (.ref 142) 361 362 181⟩,
 ⟨bp,15,["book","pairs","place","row"],149,148,m1,co "places_that_tell" 366 38 1 145 146 .none .none (.ref 147) 369 370 181⟩,
 ⟨cU,16,["book","places","known","steps","place","word"],156,155,m1,co "new_steps" 372 43 3 150 151 (.ref 152) (.ref 153) (.ref 154) 381 382 181⟩,
 ⟨bt,17,["book","tellers","missing","known","found","ready","steps","word","place","teller"],161,160,m1,co "steps_in_rounds" 384 50 1 157 158 .none .none (.ref 159) 387 388 181⟩,
 ⟨fC,18,["book","found","steps"],168,167,m1,co "order" 390 68 1 162 163 (.ref 164) (.ref 165) (.ref 166) 396 397 181⟩,
 ⟨fe,19,["book"],173,172,m1,co "learnt" 399 73 1 169 170 .none .none (.ref 171) 402 403 181⟩,
 ⟨jr,20,["book"],180,179,m1,co "not_learnt" 405 75 1 174 175 (.ref 176) (.ref 177) (.ref 178) 409 410 181⟩,
 ⟨eJ,21,["book","word"],187,186,m1,co "refuse_unlearnt" 412 77 2 181 182 (.ref 183) (.ref 184) (.ref 185) 417 418 181⟩,
 ⟨Bn,23,["book","blocks","word","row"],192,191,m2,co "knot" 422 81 1 188 189 .none .none (.ref 190) 425 426 181⟩,
 ⟨oI,25,["book","word"],197,196,m3,co "without" 430 90 2 193 194 .none .none (.ref 195) 433 434 181⟩,
 ⟨g9,26,["book","word","backward","wanted","step","each"],204,203,m3,co "order_up_to" 436 92 2 198 199 (.ref 200) (.ref 201) (.ref 202) 445 446 181⟩,
 ⟨gq,27,["book","word","other","rest","steps"],211,210,m3,co "free_or_must" 448 101 3 205 206 (.ref 207) (.ref 208) (.ref 209) 456 457 181⟩,
 ⟨jt,29,["_law_left","_law_k","_law_cell"],218,217,m4,co "_law_source" 461 110 2 212 213 (.ref 214) (.ref 215) (.ref 216) 467 468 181⟩,
 ⟨mS,30,["_law_source_here","_law_many","_law_number","_law_turn","_law_mixed"],225,224,m4,co "_law_draw" 470 115 2 219 220 (.ref 221) (.ref 222) (.ref 223) 478 479 181⟩,
 ⟨ka,31,["_law_source_here","_law_letters","_law_many","_law_base","_law_way","_law_size","_law_first","_law_words_here","_law_k","_law_word","_law_sense"],230,229,m4,co "_law_words" 481 124 1 226 227 .none .none (.ref 228) 484 485 181⟩,
 ⟨oJ,32,["_law_source_here","_law_words_here","_law_at","_law_below","_law_told","_law_k","_law_one"],237,236,m4,co "_law_row" 487 145 4 231 232 (.ref 233) (.ref 234) (.ref 235) 497 498 181⟩,
 ⟨oK,33,["_law_rows","_law_row_here","_law_other"],244,243,m4,co "_law_lay" 500 154 2 238 239 (.ref 240) (.ref 241) (.ref 242) 506 507 181⟩,
 ⟨mT,34,["_law_left","_law_source_here","_law_words_here","_law_rows","_law_way","_law_k","_law_at","_law_more"],251,250,m4,co "_law_book" 509 159 3 245 246 (.ref 247) (.ref 248) (.ref 249) 520 521 181⟩,
 ⟨ju,35,["_law_book_here","_law_known","_law_fell","_law_word","_law_told"],256,255,m4,co "_law_learnt" 523 171 1 252 253 .none .none (.ref 254) 526 527 181⟩,
 ⟨oM,36,["_law_book_here","_law_met","_law_word","_law_told","_law_one"],263,262,m4,co "_law_all" 529 181 1 257 258 (.ref 259) (.ref 260) (.ref 261) 537 538 181⟩,
 ⟨kb,37,["_law_found"],270,269,m4,co "_law_whole" 540 188 1 264 265 (.ref 266) (.ref 267) (.ref 268) 544 545 181⟩,
 ⟨mU,38,["_law_e","_law_some"],277,276,m4,co "_law_kind" 547 190 1 271 272 (.ref 273) (.ref 274) (.ref 275) 552 553 181⟩,
 ⟨gr,39,["_law_book_here","_law_steps","_law_known","_law_word","_law_place"],282,281,m4,co "_law_is_order" 555 196 2 278 279 .none .none (.ref 280) 558 559 181⟩,
 ⟨g_,40,["_law_book_here","_law_pairs_here","_law_held","_law_word","_law_blocks","_law_rows"],287,286,m4,co "_law_is_knot" 561 205 2 283 284 .none .none (.ref 285) 564 565 181⟩,
 ⟨kf,41,["_law_found"],292,291,m4,co "_law_pairs" 567 216 1 288 289 .none .none (.ref 290) 570 571 181⟩,
 ⟨kg,42,["_law_book_here","_law_word","_law_other","_law_found","_law_caught","_law_e"],299,298,m4,co "_law_asked" 573 218 3 293 294 (.ref 295) (.ref 296) (.ref 297) 582 583 181⟩,
 ⟨kh,43,["_law_book_here","_law_word","_law_other","_law_found","_law_less"],304,303,m4,co "_law_right" 585 226 4 300 301 .none .none (.ref 302) 588 589 181⟩,
 ⟨hJ,44,["_law_source_here","_law_book_here","_law_share","_law_heads","_law_pool","_law_more","_law_k","_law_word"],309,308,m4,co "_law_widened" 591 233 2 305 306 .none .none (.ref 307) 594 595 181⟩,
 ml]
abbrev gg(P:Wd):Obj:=⟨.type "dict",b6,.dict #[ge P "__name__" 165 (.str "law_primer_k34_free_or_must" 459),ge P "__doc__" 166 .none,ge P "__package__" 167 .none,ge P "__loader__" 168 (.builtin "__main__.__loader__#opaque"),ge P "__spec__" 169 .none,ge P "__annotations__" 170 (.ref 6),ge P "__builtins__" 171 (.ref 4),ge P "__file__" 173 (.str "/claim/cut.py" 172),ge P "__cached__" 174 .none,ge P "PrimerError" 206 (.ref 24),ge P "NoText" 222 (.ref 37),ge P "Unfit" 238 (.ref 49),ge P "Unknown" 254 (.ref 61),ge P "Unlearnt" 270 (.ref 73),ge P "TooMany" 286 (.ref 85),ge P "Lacking" 302 (.ref 97),ge P "NoRow" 318 (.ref 109),ge P "NoDeed" 334 (.ref 121),ge P "words_of" 345 (.ref 130),ge P "gathered" 355 (.ref 137),ge P "refuse_unknown" 363 (.ref 144),ge P "places_that_tell" 371 (.ref 149),ge P "new_steps" 383 (.ref 156),ge P "steps_in_rounds" 389 (.ref 161),ge P "order" 398 (.ref 168),ge P "learnt" 404 (.ref 173),ge P "not_learnt" 411 (.ref 180),ge P "refuse_unlearnt" 419 (.ref 187),ge P "knot" 427 (.ref 192),ge P "without" 435 (.ref 197),ge P "order_up_to" 447 (.ref 204),ge P "free_or_must" 458 (.ref 211),ge P "_law_source" 469 (.ref 218),ge P "_law_draw" 480 (.ref 225),ge P "_law_words" 486 (.ref 230),ge P "_law_row" 499 (.ref 237),ge P "_law_lay" 508 (.ref 244),ge P "_law_book" 522 (.ref 251),ge P "_law_learnt" 528 (.ref 256),ge P "_law_all" 539 (.ref 263),ge P "_law_whole" 546 (.ref 270),ge P "_law_kind" 554 (.ref 277),ge P "_law_is_order" 560 (.ref 282),ge P "_law_is_knot" 566 (.ref 287),ge P "_law_pairs" 572 (.ref 292),ge P "_law_asked" 584 (.ref 299),ge P "_law_right" 590 (.ref 304),ge P "_law_widened" 596 (.ref 309),ge P "law" 615 (.ref 316)] 49,#[]⟩
abbrev xk(a:d8)(n:Str)(b r:d8)(t u:Tok):Obj:={cls:=.type "type",data:=.cls {name:=n,bases:=[.ref b],mro:=[.ref a,.ref b,.type "ValueError",.type "Exception",.type "BaseException",.type "object"],ns:=a - 1,qualname:=n},slots:=#[a5 (.ref r),b6,a5 (.str n t),a5 (.str n u),a5 (.builtin "ValueError.__new__"),a5 (.bool bD)]}
abbrev xd(P:Wd)(m f:Tok)(l:Int)(n s:Tok)(a:d8)(d:Tok):Obj:={cls:=.type "dict",data:=.dict #[ge P "__module__" m (.str "primer.errors" 187),ge P "__firstlineno__" f (.int l n),ge P "__static_attributes__" s (.ref a),ge P "__doc__" d .none] 2}
abbrev xo(P:Wd):List (d8×Obj):=[(97,xk 97 "Lacking" 24 88 287 295),
 (121,xk 121 "NoDeed" 24 112 319 327),
 (109,xk 109 "NoRow" 24 100 303 311),
 (37,xk 37 "NoText" 24 28 207 215),
 (24,({cls:=.type "type",data:=.cls {name:="PrimerError",bases:=[.type "ValueError"],mro:=[.ref 24,.type "ValueError",.type "Exception",.type "BaseException",.type "object"],ns:=23,qualname:="PrimerError",subclasses:=[.ref 37,.ref 49,.ref 61,.ref 73,.ref 85,.ref 97,.ref 109,.ref 121]},slots:=#[a5 (.ref 15),b6,a5 (.str "PrimerError" 189),a5 (.str "PrimerError" 197),a5 (.builtin "ValueError.__new__"),a5 (.bool bD)]}:Obj)),
 (85,xk 85 "TooMany" 24 76 271 279),
 (49,xk 49 "Unfit" 24 40 223 231),
 (61,xk 61 "Unknown" 24 52 239 247),
 (73,xk 73 "Unlearnt" 24 64 255 263),
 (96,xd P 294 298 14 297 299 95 300),
 (120,xd P 326 330 18 329 331 119 332),
 (108,xd P 310 314 16 313 315 107 316),
 (36,xd P 214 218 4 217 219 35 220),
 (23,({cls:=.type "dict",data:=.dict #[{hash:=QI P "__module__",key:=.str "__module__" 196,val:=.str "primer.errors" 187},{hash:=QI P "__firstlineno__",key:=.str "__firstlineno__" 200,val:=.int 2 199},{hash:=QI P "__static_attributes__",key:=.str "__static_attributes__" 201,val:=.ref 22},{hash:=QI P "__weakref__",key:=.str "__weakref__" 203,val:=.ref 25},{hash:=QI P "__doc__",key:=.str "__doc__" 204,val:=.none}] 3}:Obj)),
 (84,xd P 278 282 12 281 283 83 284),
 (48,xd P 230 234 6 233 235 47 236),
 (60,xd P 246 250 8 249 251 59 252),
 (72,xd P 262 266 10 265 267 71 268)]
abbrev gx(P:Wd):Gx:=(gg P,xo P)
abbrev xa:List d8:=[97,121,109,37,24,85,49,61,73,96,120,108,36,23,84,48,60,72]
abbrev hk:Hook:=kHook (λP=>L7 top (gx P) ms) (adr ms xa) λP=>vE top (gx P) ms xa rfl
def Qy(w:w6):(oe w).map hk.obs=a5 (hk.val w):=by kernel_rfl
def hl:LeftO PySem.Challenge.rw_primer_k34_free_or_must.row.prog vw lo xt hk.obs hk.val 4000:=λw=>by
 have⟨s,e,a⟩:=et.mp (MT w);have b:=Nl w;have c:=Qy w;rw[e]at b c;change(oe w).map _=_;rw[e];show Ū a5 (đ (đ a (ti b)) (ti c))
def hs:PySem.Challenge.rw_primer_k34_free_or_must.wellSaid=bD:=by kernel_rfl
def ho(P:Wd):OQ ck top (L7 top (gx P) ms) ms=bD:=by kernel_rfl
def hox(P:Wd):(gX ck (L7 top (gx P) ms)&&gY ck (L7 top (gx P) ms))=bD:=by kernel_rfl
end K
open PySem PySem.W PyProof.Rows K
theorem PySem.Challenge.cw_primer_k34_free_or_must_holds : PySem.Challenge.rw_primer_k34_free_or_must.Holds := by
 w_on
 refine holds_law hs λz => ?_;refine holds_open hl hk.of hk.keeps (λs e => xl_of s (D7.mp e).1) XL.keeps rfl rfl rfl (λs e => recFacts_of (D7.mp e).2) rfl z (by kernel_rfl) ⟨rfl, rfl, rfl, rfl, rfl, by decide +kernel⟩ ?hw ?a
 (case hw => w_witness2)
 exact TM.walk2 (l := PySem.Challenge.rw_primer_k34_free_or_must) (Pg := prog) (ck := ck) (dp := 9) (x := "_law_script") (m := ml) rfl rfl ⟨rfl, by decide, by decide, rfl⟩ rfl (by decide +kernel) (by decide +kernel) rfl (UC.mpr ⟨30, rfl⟩) rfl rfl ho hox (λ_ => rfl) K.pure
