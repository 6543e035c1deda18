import PyProof.Rows.All
import Wide.All
import OpenK.AllK
import Wide.FinOn
import Lean
import PyProof.EqAt
import PyProof.EqKinds
import PyProof.TupleCall
import PyProof.StrLawsChain
import PyProof.StrLawsFirst
import PyProof.Rows.StrNews2
import OpenK.AllK
import PySem.SetOps
import OpenK.AllK
import PyProof.DictItems
import PyProof.StationsW
import PyProof.ExcBaseAll.ValueError
import PyProof.RulesAs
import PyProof.NsDelKeeps
import OpenK.AllK
import PyProof.ExcArgsOwn
import PyProof.ExcAttrAll.ValueError
import PyProof.IsiBase
import PyProof.ReprBulk
import PySem.Challenge.RW_primer_k42_spared
set_option Elab.async false
set_option linter.all false
set_option bootstrap.genMatcherCode false
set_option maxRecDepth 100000
set_option maxHeartbeats 4000000
set_option genInjectivity false
set_option genSizeOf false
set_option autoImplicit true
set_option relaxedAutoImplicit true
open Option renaming some->a5,none->b8,map_eq_some_iff->ez,bind_eq_some_iff->r3,isNone_iff_eq_none->Rk,isSome_iff_exists->R3,map_eq_none_iff->Sq,isSome_map->UX,map_some->VL,getD_none->ZP
open Bool renaming true->bD,and_eq_true->cb,false->cc,false_ne_true->i0,not_eq_true'->nH,and_eq_true_iff->t5,eq_iff_iff->JR,false_eq_true->K8,or_eq_true->Lx,and_false->Tx,or_false->X_,false_and->í,not_true->ý,and_true->þ,and_self->ÿ
open PySem renaming wpAny_bind->b6,sizeLine->cL,wpAny_pure->c4,Value->dt,wpAny->d3,Shared->d5,Addr->d7,model->eh,starEach->gj,mainGlobals->i3,wpAny_mono->i9,Expr->lg,wpAny_setState_of->l0,wpAny_Call_Name_kw->oT,wpAny_holding->tj,bootBuiltins->tA,rawInt->t8,eval->uk,Program->uv,wpAny_truthy_bool->wh,wpAny_newObj_type->wk,World->wq,backTo->x2,scanBound->x3,isSubtype_type->zy,Heap->DD,wpAny_call_entry->Jw,codeAny_builtin->J4,cLine->KX,keywordEach->Lj,holding->LQ,foldedSetIterable->LS,Scope->LU,behindInMarks->L4,Stmt->L5,Keyword->MF,wpAny_setField->M7,Around->M9,sysModules->NI,call->NK,Builtin->NM,wpAny_passesOwn->NY,isSubtype->Oj,builtinLookup_eq_fast->Ou,wpAny_rule->OY,binaryOp->OZ,SetTable->O1,NameKind->O3,wpAny_isInstance->O5,swapsWith->O6,compareOp->O7,backToKw->P1,wpAny_pyIter_tuple->P7,tupleKind_room_in1->P',assignEach->Qb,wpAny_getItem_str_slice->Qm,wpAny_callSpecial?_slot->Qn,wpAny_loadPart_at->Qu,codeAny->Qv,wpAny_askSetting->QC,typeLookup->QD,call_meets->QG,swapsWithSole->QX,sliceBounds->Q0,wpAny_updateSeq->Rx,wpAny_execs_nil->RJ,typeLookup_type->RP,wpAny_setEntries_of->RZ,codeAny_mono->R',assign->Sl,FuncData->So,plainId_quiet->SN,attributeBase->SO,setItem->TF,relabel->TJ,pyNext->TN,notedBy->TQ,callerA->TX,wpAny_specialOf->Ui,wpAny_loadPart'->Uo,post_val_or_str->Uq,letOwnedTupleGo->Ur,call_isinstance->Ut,wpAny_seqItems->U0,wpAny_field->U3,firstArgMember->U4,codeAny_call_builtin->U9,Params->Va,tupleKind->Vp,swappedStores->VD,wpAny_typeOf->Wc,wpAny_storeSet_of->Wj,wpAny_setEpoch_of->Wk,wpAny_pyIter_list->Wl,wpAny_pyIter_enum->Wm,valueAt->Wn,sub_set_self->Wo,standAt->Wr,setNext->Wv,setField->Ww,release->Wx,getItem->WA,fits_of_scanBound->WB,concat_meets->WC,compEnvC->WE,seqIndex?->Xp,pickOrder->Xq,noFill_tuple_add->Xx,checkBuiltinCall->Xy,PassesOwn->Xz,wpAny_of_eq->XH,unsupported->XS,subscripted->XT,wpAny_runValue->Yv,typeIs_str->Yw,relayAll->YP,raiseNew->YQ,pyIter->YR,entryFor_alias->Y0,atKey->Y1,GenState->Y8,wpAny_standAt->Zm,wpAny_newList->Zt,wpAny_comprehension_free->Zu,seq_tuple_add->Zv,wpAny_Call_method0_late->ZF,seqItems?->ZG,bindL->ZH,bindC->ZJ,wpAny_Call_method_late->ZT,typeOf->ZX,setNextDrawn->ZY,newExc->Z3,collect->Z9,call_meetsIn->Z_,IsEnum->Ã,BindsTo->Æ,wpAny_isTrue_Compare1->Ï,step->Ø,seqIndex_of->Ù,entryFor->Ú,codeAny_extend_loopS->Û,Operator->Ü,wpAny_load->î,wpAny_call->ï,wpAny_Name->ð,truthy->ñ,setsByText->ò,builtinsNs->ó,WalksS->ô,JoinOk->ø,wpAny_pyIter_slot->Ā,wpAny_assign_Name->ā,wpAny_Return_some->Ă,wpAny_Assign_Name->ă,spliced->Ą,slot_list_getitem->ą,newList->Ć,ItemsOf->č,CmpOp->Đ,wpAny_setScan_of->Ĕ,wpAny_execs_cons->ĕ,wpAny_eqBool_str->Ė,wpAny_eqBool_int->ė,updateSeq->Ę,setDiscardHashed->ę,rule->Ě,cellsFrom->ě,codeAny_of_tree->Ĥ,wpAny_Expr_any->ī,wpAny_Compare1->Ĭ,recursionLimit->ĭ,newTuple->Į,isSubtype_stop->į,fitsIndex_both->İ,field->ı,bindArgs->Ĳ,augStore->ĳ,argsOk->Ĵ,again->ĵ
open Decidable renaming decide->cK
open PySem.Heap renaming get?_push_of_some->c2,lt_size->d8,get?_push_size->eH,SameBut->mA,get?_update_self->tr,get?_update_other->MI,get?_update_ne->OT,size_push->WT,ExtBut->ĝ
open List renaming length_map->df,getElem?_eq_some_iff->dV,mem_cons->d4,getElem?_set_self->d6,map_cons->ei,size_toArray->et,range->fx,getElem?_set_ne->hH,mem_singleton->hV,mem_append->hW,length_append->hY,replicate->i2,nil_append->i5,length_cons->i6,all_eq_true->i7,mem_map->js,map_map->kb,map_append->ke,getElem?_map->ki,mem_cons_of_mem->ko,mem_append_right->kr,length_filter_le->l',nodup_cons->mh,mem_cons_self->mu,mem_of_getElem?->my,getElem?_append_right->nc,nodup_append->ro,append_nil->rr,mem_filter->so,lookup_cons->sx,getElem?_eq_getElem->td,getElem?_append_left->t6,length_range->u6,eraseIdx_eq_take_drop_succ->va,mem_range->ve,length_take->vl,map_congr_left->vu,filterMap_cons->y1,isEmpty_iff->D7,filter_cons->D8,getElem?_replicate->JI,map_nil->J0,length->Km,not_mem_nil->Kw,getElem_mem->KH,getElem?_drop->K2,mem_append_left->LF,ext_getElem->LV,take_of_length_le->M5,filter_eq_nil_iff->M6,find?_cons->Na,length_singleton->Nz,perm_ext_iff_of_nodup->Ol,getD->OC,mem_filterMap->PK,filter_append->PM,filter_cons_of_pos->PQ,filter_cons_of_neg->PZ,length_replicate->Qr,of_mem_zip->Qz,getElem_of_mem->QR,filter_sublist->QS,filter_eq_self->QT,zip_cons_cons->Rm,pairwise_cons->Rv,drop_eq_getElem_cons->R9,reverse_cons->Sf,length_eq_zero_iff->Sr,length_drop->Sz,getElem?_cons_succ->SD,eraseIdx_cons_succ->SE,any_eq_true->SF,foldl_cons->SQ,filter_nil->SV,mem_iff_getElem?->SX,getElem?_eq_none->SY,nodup_nil->Ts,getElem?_zipIdx->Tt,length_reverse->Ux,map_take->UI,map_drop->UJ,any_cons->UK,findIdx?_eq_some_iff_getElem->Vc,flatten_cons->Vs,append_assoc->Vt,eraseIdxIfInBounds_toArray->Vy,getElem_map->VN,length_nil->V3,forIn_cons->V4,drop_left'->V5,dropLast_concat_getLast->V6,map->W',length_eraseIdx_of_lt->Xf,getD_eq_getElem?_getD->Xg,findIdx?_eq_none_iff->XB,mem_of_mem_eraseIdx->XX,length_erase_of_mem->XZ,getElem?_take_of_lt->X0,findIdx?->X4,length_pos_of_mem->Yg,length_eq_one_iff->Yi,dropLast_eq_take->Zb,mem_of_mem_take->Zg,mem_iff_getElem->Zh,mem_erase_of_ne->Zj,map_id->Zk,length_eraseIdx->Zl,mem_map_of_mem->Zx,length_pos_iff->Zy,flatten_append->Zz,map_singleton->ZR,take_sublist->Ì,filter_congr->Í,ext_getElem?->Î,mem_toArray->Ò,map_fst_zip->Ó,getElem_inj->Ô,drop_length->Õ,cons_append->Ö,range_succ->ã,length_zip->ä,length_set->å,forIn_nil->ì,all_cons->ü,all_map->đ,range'->ġ
open Array renaming length_toList->eM,getElem?_toList->nM,getElem?_eq_getElem->OF,size_map->Q7,getD->UP,forIn_toList->UQ,size_append->Vg,toList->Yd,toList_extract->Zc,toArray_toList->Zd,append_assoc->ZE,toList_push->ZS
open Nat renaming ne_of_lt->gs,le_refl->hQ,lt_of_lt_of_le->i1,zero_le->i8,lt_irrefl->t4,le_trans->vr,ne_of_gt->Kk,le_succ->MT,lt_succ_self->OH,zero_add->Qh,le_of_lt->Qi,lt_succ_of_lt->Sh,lt_trans->Vx,mod_lt->XA,add_sub_cancel_left->Yf,succ_pos->Y',le_of_eq->Za,lt_of_le_of_lt->Ë,not_lt_of_lt->â,add_zero->Ġ
open PySem.Value renaming ref->kj,none->mN,type->ri,str->tv,bool->Oi,builtin->Sb,isStrOf->Uu,isStrOf_shape->Ze,int->À,isInt->Ċ
open Sum renaming inr->mx,inl->Vu
open PySem.Obj renaming mapSeq->nC,data_mapFields->M8,putSet->PN,isFreed_of_fields->Ti,cls_mapFields->Vv,mapFields->ċ
open Ne renaming symm->qs
open PySem.Builtin.List renaming listExtendWith->r6,listTooLong->K1,listSameRef->NO,listLengthHint->UH,listFitsIndex->UT,listItems->VE,listUpdate->Ħ
open Option.some renaming inj->sL,injEq->To
open PySem.Str renaming empty->ti,ofString->Q2,length->Ĺ
open PySem.SetTable.layClean renaming free->t7
open Int renaming eq_ofNat_of_zero_le->u7,toNat_natCast->Ql,emod_nonneg->QW,emod_lt_of_pos->RY,le_trans->ģ
open PySem.Heap.SameBut renaming update->wz,refl->C0
open PyProof.Rows renaming seqObj->w6,size_push'->Mc,callWith_type1->Mk,callWith_builtin1->Pd,StrsAre->Qw,AllBare->SM,envOfC->Ue,subscriptTail->VI,listUpdate_at->VJ,subscriptTail_builtinR->Ç,listItems_at->È,IntsAre->Ê,seqEpoch_at->á,sortedHeap->ú,Subscript_->û,slot_str_getitem->ğ,get?_update_seq->ħ,entry_list_sort->Ĩ,call_isinstance_yes->ĩ,sortedHeap_old->Ļ,slot_list_sort->ļ,isTrue_and_nil->Ľ,args_list_sort->ľ,IsTup->Ŀ
open PySem.Builtin.Frozenset renaming isAnySet->H8,difference->O_,sizeOf->Qp,differenceUpdate->Se,unchanged->SW,copyOf->T_,baseOf->Ua,addrOf->Ud,slot1->Uw,updateFrom->Þ,slot0->ß,newClass->à
open PySem.Builtin.SmallTypes renaming nextOf->JH
open PySem.Calls renaming callWith_builtin->JS,spliced_cons->KY,evalArgs_plain->Lw,spliced_nil->Nu,Name_function_global->WH,call_function_entry->WU
open PySem.SetTable renaming sizeAbove->JU,below->LH,grown->Nq,bits->Ov,eraseAt->P2,turns->Qy,layClean->Q3,fits->Rb,laid->Te,runEnd->Vq,relaid->Vr,fill->VS,orStandIn->Ye,fresh->ZK,leap->Á,drop->Â
open PySem.NameKind renaming free->Mz
open False renaming elim->ME
open PyProof.Rows.F renaming plain_set_update_loop->M',entry_set_update_loop->Sg
open List.Perm renaming refl->Np,swap->ZC,cons->ZD
open PySem.Around renaming under_plainId->NQ
open PySem.W renaming kas_sort->Oc,looks_findIn->Z',nsIn->õ,kas_ask->ć,Looks->ĉ,subIn->Ķ,findIn->ķ
open PySem.AutoSeq1 renaming wpAny_loadPart'->Ox,sub_tuple_tuple->VT,sub_tuple_list->WI,sub_list_tuple->WJ,sub_list_list->WX,idx_int->Zf
open ForInStep renaming yield->OE
open PySem.PyData renaming keyHash->P0
open List.cons renaming injEq->Qt
open LT renaming lt->Qx
open PySem.Shared renaming TypeIs->R0
open PySem.SeqAt renaming EqAt->SG,ne_of_list_tuple->X',RcAt->Zw,RcNeAt->ö
open ToString renaming toString->S0
open PySem.Txt renaming join->TY
open PySem.F renaming typeOf_object_class->TZ,slot_gs_get->Y_,excBase_ValueError->Ä,args_list_extend_2->Å,entry_list_extend->Ð,slot_list_extend->Ý,attr_ValueError->ç,entry_list_pop->ù,slot_list_pop->ď
open PySem.Code renaming quiet_builtin->US
open Sum.inr renaming inj->Vk
open Classical renaming byContradiction->VP
open PySem.Data renaming fields->VQ,cell->Ñ
open PySem.pickOrder renaming go->Wz
open PySem.SetTable.below renaming go->WG
open Prod.mk renaming injEq->WQ
open True renaming intro->WR
open PySem.SeqAt.EqAt renaming bool_bool->WS
open List.Nodup renaming sublist->X5
open PyProof.Rows.IsTup renaming new->É
open PySem.ItemsOf renaming nil->æ
open PyProof.Rows.LSm renaming range_all->è,kept_iter->é
open Prod renaming fst->ê,ext->ë
open PySem.W.WShape renaming has->Ĉ
open PySem.Moved renaming trans->Č
open PySem.Heap.IsSliceOf renaming new->Ď
open LE renaming le->Ē
open ForIn renaming forIn->ē
open PySem.Walks renaming list->Ĝ
open PySem.Builtin.Range renaming rangeSize->Ğ
open List.Pairwise renaming nil->Ģ
open PySem.W.WData renaming int->ĥ
open List.Sublist renaming refl->Ī
open PySem.W.Looks renaming ld->ĸ
open PySem.Heap.DictOf renaming new->ĺ
abbrev ŀ:=@decide_eq_true_eq
abbrev Ł:=@if_pos
abbrev ł:=@if_neg
abbrev Ń:=@decide_eq_false
abbrev ń:=@decide_eq_true
abbrev Ņ:=@of_decide_eq_true
abbrev ņ:=@congrArg
abbrev Ň:=@beq_eq_false_iff_ne
local macro_rules|`(def $a:declId $b* : $t :=$v)=>`(theorem $a:declId $b* : $t :=$v)
local macro_rules|`(abbrev $a:declId $b:optDeclSig $c:declVal)=>`(noncomputable def $a:declId $b:optDeclSig $c:declVal)
local macro_rules|`(tactic|show $t)=>`(tactic|refine $t)
local macro_rules|`(tactic|have⟨$a,*⟩:=$t)=>do let p<-a.getElems.mapM fun x=>`(Lean.Parser.Tactic.rcasesPatLo|$(⟨x⟩):ident);`(tactic|obtain⟨$p,*⟩:=$t)
local macro_rules|`(⋯)=>`(by lia)
local macro_rules|`(∅)=>`(by(first|exact trivial|exact⟨⟨_,rfl,rfl⟩,trivial⟩|exact⟨⟨_,rfl,rfl⟩,⟨_,rfl,rfl⟩,trivial⟩))
namespace L2
open PySem PySem.Spec PyProof.Rows
@[reducible]def Key:=Sum Int Str
abbrev kI:Key->dt->Bool
 |.inl k,v=>Ċ k v
 |.inr x,v=>Uu x v
abbrev Ic(w:wq):Key->Int
 |.inl k=>hashInt k
 |.inr x=>hashStr w x
theorem bE:∀{k:Key}{v:dt},kI k v=bD->(∃i t,k=Vu i/\v=À i t)\/(∃x t,k=mx x/\v=tv x t)
 |.inl i,v,h=>by
  have⟨t,e⟩:=Value.isInt_shape (k:=i) (v:=v) h;show .inl ⟨i,t,rfl,e⟩
 |.inr x,v,h=>by
  have⟨t,e⟩:=Ze (x:=x) (v:=v) h;show .inr ⟨x,t,rfl,e⟩
def vB(i:Int)(t:Tok):kI (.inl i) (.int i t)=bD:=by simp[kI,Ċ]
def vC(x:Str)(t:Tok):kI (.inr x) (.str x t)=bD:=by simp[kI,Uu]
def Dd(a b:Int):cK ((Vu a:Key)=Vu b)=(a==b):=by
 by_cases e:a=b
 .subst e;simp
 .have h:¬(Vu a:Key)=Vu b:=λq=>e (Sum.inl.inj q);rw[Ń h];show(Ň.mpr e).symm
def De(a b:Str):cK ((mx a:Key)=mx b)=cK (a=b):=by
 by_cases e:a=b
 .subst e;simp
 .have h:¬(mx a:Key)=mx b:=λq=>e (Vk q);rw[Ń h,Ń e]
def Df(a:Int)(b:Str):cK ((Vu a:Key)=mx b)=cc:=Ń (λq=>nomatch q)
def Dg(a:Str)(b:Int):cK ((mx a:Key)=Vu b)=cc:=Ń (λq=>nomatch q)
abbrev bj(prog:uv)(w:wq):PySem.KeyKind prog w Key where
 is:=kI
 hash:=Ic w
 inj:=λv a b g f=>by
  rcases bE g with⟨i,t,rfl,rfl⟩|⟨x,t,rfl,rfl⟩
  .rcases bE f with⟨j,u,rfl,e⟩|⟨y,u,rfl,e⟩
   .injection e with c _;rw[c]
   .show nomatch e
  .rcases bE f with⟨j,u,rfl,e⟩|⟨y,u,rfl,e⟩
   .show nomatch e
   .injection e with c _;rw[c]
 byValue:=λk v h=>by
  rcases bE h with⟨i,t,rfl,rfl⟩|⟨x,t,rfl,rfl⟩<;>rfl
 pyHash:=λd h=>by
  rcases bE d with⟨i,t,rfl,rfl⟩|⟨x,t,rfl,rfl⟩
  .show wpAny_pyHash_int h
  .show wpAny_pyHash_str h
 eqBool:=λl d h=>by
  rcases bE l with⟨i,t,rfl,rfl⟩|⟨x,t,rfl,rfl⟩
  .rcases bE d with⟨j,u,rfl,rfl⟩|⟨y,u,rfl,rfl⟩
   .rw[Dd]at h;show ė h
   .rw[Df]at h;show SeqAt.EqAt.int_str i t y u _ _ _ _ h
  .rcases bE d with⟨j,u,rfl,rfl⟩|⟨y,u,rfl,rfl⟩
   .rw[Dg]at h;show SeqAt.EqAt.str_int x t j u _ _ _ _ h
   .rw[De]at h;show Ė h
 «strs»:=λk x t v h=>by
  rcases bE h with⟨i,u,rfl,e⟩|⟨y,u,rfl,e⟩
  .show nomatch e
  .injection e with c _
   subst c;cases v<;>rfl
def pO(prog:uv)(w:wq)(i:Int)(t:Tok):(bj prog w).is (.inl i) (.int i t)=bD:=vB i t
def pP(prog:uv)(w:wq)(x:Str)(t:Tok):(bj prog w).is (.inr x) (.str x t)=bD:=vC x t
inductive V where
 |Jm|bl (b:Bool)|int (i:Int)|str (x:Str)|Q8 (b:Array UInt8)|Q9 (b:UInt64)|ref (a:d7)|ty (n:String)
 deriving DecidableEq
def RelV:V->dt->Prop
 |.Jm,u=>u=mN
 |.bl b,u=>u=Oi b
 |.int i,u=>∃t,u=À i t
 |.str x,u=>∃t,u=tv x t
 |.Q8 b,u=>∃t,u=Value.bytes b t
 |.Q9 b,u=>∃t,u=Value.float b t
 |.ref a,u=>u=kj a
 |.ty n,u=>u=ri n
@[reducible]def Vals:List V->List dt->Prop:=Paired RelV
def Vals.length(r:Vals xs us):xs.length=us.length:=Paired.length r
theorem Vals.get:∀{xs:List V}{us:List dt}{i:Nat}{x:V},Vals xs us->xs[i]?=a5 x->∃u,us[i]?=a5 u/\RelV x u
 |_,_,_,_,.nil,e=>by simp at e
 |_,_,0,_,.cons r _,e=>by simp at e;subst e;show⟨_,rfl,r⟩
 |_,_,i+1,x,.cons _ t,e=>by
  have⟨u,a,b⟩:=Vals.get (i:=i) (x:=x) t (by simpa using e);show⟨u,by simpa using a,b⟩
theorem Vals.set(r:RelV x u):∀{xs:List V}{us:List dt} (i:Nat),Vals xs us->Vals (xs.set i x) (us.set i u)
 |_,_,_,.nil=>.nil
 |_,_,0,.cons _ t=>.cons r t
 |_,_,i+1,.cons q t=>.cons q (Vals.set r i t)
theorem Vals.append:∀{xs a:List V}{us ws:List dt},Vals xs us->Vals a ws->Vals (xs++a) (us++ws)
 |_,_,_,_,.nil,s=>s
 |_,_,_,_,.cons r t,s=>.cons r (Vals.append t s)
theorem Vals.take:∀{xs:List V}{us:List dt} (n:Nat),Vals xs us->Vals (xs.take n) (us.take n)
 |_,_,0,_=>.nil
 |_,_,_+1,.nil=>.nil
 |_,_,n+1,.cons r t=>.cons r (Vals.take n t)
theorem Vals.drop:∀{xs:List V}{us:List dt} (n:Nat),Vals xs us->Vals (xs.drop n) (us.drop n)
 |_,_,0,r=>r
 |_,_,_+1,.nil=>.nil
 |_,_,n+1,.cons _ t=>Vals.drop n t
def j3:Option V->Option dt->Prop
 |some v,a5 u=>RelV v u
 |none,b8=>True
 |_,_=>False
abbrev KV{κ:Type}:List (κ×V)->List (κ×dt)->Prop:=Paired λ(p:κ×V) (q:κ×dt)=>p.1=q.1/\RelV p.2 q.2
abbrev kV:Key->V
 |.inl i=>.int i
 |.inr x=>.str x
inductive HO where
 |lst (xs:List V)
 |tup (xs:List V)
 |dK (kvs:List (Key×V))|dT (kvs:List (List Key×V))
 |set (S:Int->Bool) (n:Nat)
 |ins (C dx:d7) (fs:List (Str×V))
 |own (x:d7)
 |xd (fs:List (Str×V))
 |met (f x:d7)
 |Q_ (lo hi:Int)
 |K9 (o:Obj) (u:HO)
 |NJ (ps:Array dt)
 |ext (φ:DD->Prop)
@[reducible]def Hp:=d7->Option HO
abbrev upd(H:Hp)(a:d7)(o:HO):Hp:=λb=>if b=a then a5 o else H b
def aB:upd H a o a=a5 o:=by unfold upd;rw[Ł rfl]
def av(h:b≠a):upd H a o b=H b:=by unfold upd;rw[ł h]
def FQ{H:Hp}(h:H a=a5 o)(h':H b=a5 u)(d:o≠u):a≠b:=by
 intro e;subst e;rw[h]at h';show d (sL h')
def bx{H:Hp}(h:H a=a5 o)(h':H b=b8):a≠b:=by
 intro e;subst e;rw[h]at h';cases h'
section
variable(P:uv)(w:wq)
def bW(H:Hp)(h:DD)(a:d7):HO->Prop
 |.lst xs=>xs.length<=cL/\∃(c:List dt) (n:Nat),Vals xs c/\h.get? a=a5 {cls:=.type "list",data:=.seq c.toArray n}
 |.tup xs=>xs.length<=cL/\∃c:List dt,Vals xs c/\Ŀ h a c.toArray
 |.dK kvs=>kvs.length<=cL/\(a==NI)=cc/\∃vs,KV kvs vs/\h.DictOf (bj P w) a vs
 |.dT kvs=>kvs.length<=cL/\(a==NI)=cc/\∃xs:List (List Key×d7×dt),
   Paired (λ(p:List Key×V) (q:List Key×d7×dt)=>p.1=q.1/\H q.2.1=a5 (.tup (p.1.map kV))/\RelV p.2 q.2.2) kvs xs /\
   ∃o es ep,h.get? a=a5 o/\o.ExactDict/\o.data=.dict es ep/\es.toList=xs.map (entryOfKey (Vp (bj P w)))/\(xs.map (·.1)).Nodup
 |.set S n=>h.SetOf (intKind P w) a S n
 |.ins C e d=>H e=a5 (.own a)/\d.length<=1000/\e≠a/\h.get? a=a5 (PySem.W.instObj C e) /\
   ∃b,h.Ns1 e b/\(∀f,j3 (d.lookup f) (b f))/\PySem.Within b (d.map (·.1))
 |.own _=>∃o,h.get? a=a5 o
 |.xd d=>∃b,h.Ns1 a b/\∀f,j3 (d.lookup f) (b f)
 |.Q_ lo j=>∃t u v,h.get? a=a5 {cls:=.type "range",data:=.fields #[.int lo t,.int j u,.int 1 v]}
 |.K9 o u=>h.get? a=a5 o/\bW H h a u
 |.NJ ps=>h.get? a=a5 {cls:=.none,data:=.fields ps}
 |.met f x=>h.get? a=a5 (PySem.W.methodObj (.ref f) (.ref x))
 |.ext φ=>φ h/\(∃o,h.get? a=a5 o)/\∀g i:DD,φ g->(∀o,g.get? a=a5 o->i.get? a=a5 o)->φ i
abbrev Kc(H:Hp)(h:DD):Prop:=∀a o,H a=a5 o->bW P w H h a o
end
section
def bW.lt(x:bW P w H h a o):a<h.objs.size:=by
 cases o with
 |lst xs=>obtain⟨_,_,_,_,e⟩:=x;show d8 e
 |tup xs=>obtain⟨_,_,_,p⟩:=x;show p.lt
 |set S n=>obtain⟨o,_,_,_,e,_⟩:=x;show d8 e
 |ins C c b=>obtain⟨_,_,_,e,_⟩:=x;show d8 e
 |own y=>obtain⟨_,e⟩:=x;show d8 e
 |xd b=>obtain⟨_,⟨_,_,_,e,_⟩,_⟩:=x;show d8 e
 |Q_ lo d=>obtain⟨_,_,_,e⟩:=x;show d8 e
 |K9 g u=>obtain⟨e,_⟩:=x;show d8 e
 |NJ ps=>show d8 (show h.get? a=a5 _ from x)
 |met f y=>show d8 (show h.get? a=a5 _ from x)
 |ext φ=>obtain⟨_,⟨_,e⟩,_⟩:=x;show d8 e
 |_=>obtain⟨_,_,_,_,o,_,_,e,_⟩:=x;show d8 e
theorem Paired.Dh:∀{c:List α}{d:List β},Paired F c d->(∀a b,F a b->G a b)->Paired G c d
 |_,_,.nil,_=>.nil
 |_,_,.cons r t,f=>.cons (f _ _ r) (Paired.Dh t f)
def bW.fQ(x:bW P w H h a o)(k:∀b u,(b=a\/H b=a5 (.own a))->h.get? b=a5 u->h'.get? b=a5 u)
  (ho:∀b,H b=a5 (.own a)->H' b=a5 (.own a)) (m:∀b xs,H b=a5 (.tup xs)->H' b=a5 (.tup xs)):bW P w H' h' a o:=by
 induction o with
 |lst xs=>have⟨z,i,n,r,e⟩:=x;show⟨z,i,n,r,k _ _ (.inl rfl) e⟩
 |tup xs=>have⟨z,i,r,g,e,c⟩:=x;show⟨z,i,r,g,k _ _ (.inl rfl) e,c⟩
 |dK kvs=>have⟨z,y,vs,r,g,es,ep,e,c⟩:=x;show⟨z,y,vs,r,g,es,ep,k _ _ (.inl rfl) e,c⟩
 |dT kvs =>
  have⟨z,y,xs,r,g,es,ep,e,c⟩:=x;show⟨z,y,xs,Paired.Dh r λp q z=>⟨z.1,m _ _ z.2.1,z.2.2⟩,g,es,ep,k _ _ (.inl rfl) e,c⟩
 |set S n=>have⟨g,es,ep,t,e,c⟩:=x;show⟨g,es,ep,t,k _ _ (.inl rfl) e,c⟩
 |ins C D s =>
  obtain⟨d,z,ne,e,j,⟨l,es,ep,A,c⟩,r⟩:=x;show⟨ho _ d,z,ne,k _ _ (.inl rfl) e,j,⟨l,es,ep,k _ _ (.inr d) A,c⟩,r⟩
 |own y=>have⟨g,e⟩:=x;show⟨g,k _ _ (.inl rfl) e⟩
 |xd s=>obtain⟨j,⟨l,es,ep,e,c⟩,r⟩:=x;show⟨j,⟨l,es,ep,k _ _ (.inl rfl) e,c⟩,r⟩
 |Q_ lo G=>have⟨t,u,v,e⟩:=x;show⟨t,u,v,k _ _ (.inl rfl) e⟩
 |K9 g u B=>have⟨e,q⟩:=x;show⟨k _ _ (.inl rfl) e,B q⟩
 |NJ ps =>
  have e:h.get? a=a5 {cls:=.none,data:=.fields ps}:=x;change h'.get? a=a5 {cls:=.none,data:=.fields ps};show k a _ (.inl rfl) e
 |met f y =>
  have e:h.get? a=a5 (PySem.W.methodObj (.ref f) (.ref y)):=x;change h'.get? a=a5 (PySem.W.methodObj (.ref f) (.ref y));show k a _ (.inl rfl) e
 |ext φ=>obtain⟨p,⟨o,e⟩,st⟩:=x;show⟨st _ _ p λo q=>k _ _ (.inl rfl) q,⟨o,k _ _ (.inl rfl) e⟩,st⟩
def Kc.lt(x:Kc P w H h)(e:H a=a5 o):a<h.objs.size:=(x a o e).lt
def Kc.fresh(x:Kc P w H h)(e:h.objs.size<=a):H a=b8:=by
 cases q:H a with
 |none=>rfl
 |some u=>show absurd (i1 (x.lt q) e) (t4 _)
def Kc.kept(x:Kc P w H h)(k:∀b u,h.get? b=a5 u->h'.get? b=a5 u):Kc P w H h':=λa o e =>
 (x a o e).fQ (λb u _ q=>k b u q) (λ_ q=>q) λ_ _ q=>q
def Kc.laid(x:Kc P w H h)(k:∀b u,h.get? b=a5 u->h'.get? b=a5 u)(g:h.objs.size<=a)(new:bW P w (upd H a o) h' a o):Kc P w (upd H a o) h':=λb u e=>by
 have d:=x.fresh g;by_cases f:b=a
 .subst f;rw[aB]at e;cases e;show new
 .rw[av f]at e;show(x b u e).fQ (λc v _ q=>k c v q) (λc q=>by rw[av (bx q d)];show q) λc xs q=>by rw[av (bx q d)];show q
end
abbrev Rd(H:Hp)(a:d7)(u:HO):Prop:=H a=a5 u\/∃o,H a=a5 (.K9 o u)
def Rd.ok(r:Rd H a u)(x:Kc P w H h):bW P w H h a u:=by
 rcases r with r|⟨o,r⟩
 .show x a u r
 .obtain⟨_,q⟩:=x a _ r;show q
def PJ:Option HO->Prop
 |some (.lst _)=>True
 |some (.dK _)=>True
 |some (.dT _)=>True
 |some (.set _ _)=>True
 |some (.ins _ _ _)=>True
 |some (.ext _)=>True
 |_=>False
section
def Kc.write(m:Kc P w H h)(a:PJ (H x))(g:e=x\/H e=a5 (.own x))(k:∀b u,b≠e->h.get? b=a5 u->h'.get? b=a5 u)(n:∃u,h'.get? e=a5 u)
  (new:bW P w (upd H x i) h' x i):Kc P w (upd H x i) h':=λb u q=>by
 have j:∀c y,H c=a5 (.own y)->c≠x:=λc y r z=>by subst z;rw[r]at a;show a
 have o:∀c xs,H c=a5 (.tup xs)->c≠x:=λc xs r z=>by subst z;rw[r]at a;show a
 by_cases d:b=x
 .subst d;rw[aB]at q;cases q;show new
 .rw[av d]at q;by_cases f:b=e
  .have l:H b=a5 (.own x):=by
    rcases g with z|z
    .show absurd (f.trans z) d
    .rw[f];show z
   rw[q]at l;cases l;have⟨v,p⟩:=n;show⟨v,by rw[f];show p⟩
  .show(m b u q).fQ (λc v hc r=>k c v ?_ r) (λc r=>by rw[av (j c b r)];show r) λc xs r=>by rw[av (o c xs r)];show r
   rcases hc with rfl|hc
   .show f
   .rintro rfl;rcases g with z|z
    .show j c b hc z
    .rw[hc]at z;cases z;show d rfl
end
structure Un(fs ex:List d7)(H H':Hp)(h h':DD):Prop where
 keep:∀b o,h.get? b=a5 o->H b=b8->b∉fs->b∉ex->h'.get? b=a5 o
 slot:∀b o,h.get? b=a5 o->H b=b8->b∈fs->b∉ex->∃sl,h'.get? b=a5 {o with slots:=sl}
 free:∀b o,h.get? b=a5 o->H b=b8->b∉ex->H' b=b8
 there:∀b o,h.get? b=a5 o->b∉ex->∃o',h'.get? b=a5 o'
 fW:∀b xs,H b=a5 (.tup xs)->H' b=a5 (.tup xs)
 J':∀b o u,H b=a5 (.K9 o u)->H' b=a5 (.K9 o u)
 Kf:∀b ps,H b=a5 (.NJ ps)->∃more,H' b=a5 (.NJ (ps++more))
section
def Un.any(u:Un e ex H i h f)(q:h.get? b=a5 a)(n:H b=b8)(c:b∉ex):∃g,f.get? b=a5 {a with slots:=g}:=by
 by_cases d:b∈e
 .show u.slot b a q n d c
 .show⟨a.slots,u.keep b a q n d c⟩
def Un.kept(k:∀b u,h.get? b=a5 u->h'.get? b=a5 u):Un c ex H H h h' :=
 ⟨λb a q _ _ _=>k b a q,λb a q _ _ _=>⟨a.slots,k b a q⟩,λ_ _ _ n _=>n,λb a q _=>⟨a,k b a q⟩,λ_ _ q=>q,λ_ _ _ q=>q,λ_ ps q=>⟨#[],by rw[q];simp⟩⟩
def Un.refl:Un a ex H H h h:=Un.kept λ_ _ q=>q
def Un.laid(k:∀b u,h.get? b=a5 u->h'.get? b=a5 u)(d:h.objs.size<=a)(c:H a=b8):Un e ex H (upd H a o) h h' where
 keep:=λb u q _ _ _=>k b u q
 slot:=λb u q _ _ _=>⟨u.slots,k b u q⟩
 free:=λb u q n _=>by rw[av (gs (i1 (d8 q) d))];show n
 there:=λb u q _=>⟨u,k b u q⟩
 fW:=λb xs q=>by rw[av (bx q c)];show q
 J':=λb u xs q=>by rw[av (bx q c)];show q
 Kf:=λb ps q=>⟨#[],by rw[av (bx q c),q];simp⟩
def Un.write(a:PJ (H x))(i:e=x\/H e=a5 (.own x))(k:∀b u,b≠e->h.get? b=a5 u->h'.get? b=a5 u)(j:∃u,h'.get? e=a5 u):Un l ex H (upd H x o) h h':=by
 have d:∀b,H b=b8->b≠x:=λb n z=>by subst z;rw[n]at a;show a
 have f:∀b,H b=b8->b≠e:=λb n z=>by
  subst z;rcases i with r|r
  .show d b n r
  .rw[n]at r;cases r
 have c:∀b u,H b=a5 u->¬PJ (a5 u)->b≠x:=λb u q nm z=>by subst z;rw[q]at a;show nm a
 show⟨λb u q n _ _=>k b u (f b n) q,λb u q n _ _=>⟨u.slots,k b u (f b n) q⟩,λb u q n _=>by rw[av (d b n)];show n,λb u q _=>?_,
  λb xs q=>by rw[av (c b _ q λz=>z)];show q,λb u xs q=>by rw[av (c b _ q λz=>z)];show q,λb ps q=>⟨#[],by rw[av (c b _ q λz=>z),q];simp⟩⟩
 by_cases g:b=e
 .subst g;show j
 .show⟨u,k b u g q⟩
end
abbrev Ra(h:DD)(H:Hp):List d7:=(fx h.objs.size).filter λa=>(H a).isSome
abbrev ot(h:DD)(H:Hp):DD:=PySem.W.hideAll h (Ra h H)
def vE(h:DD)(H:Hp):(ot h H).objs.size=h.objs.size:=PySem.W.hideAll_size _ _
def xg(e:h.get? b=a5 o)(n:H b=b8):(ot h H).get? b=a5 o :=
 PySem.W.hideAll_get _ e λa=>by
  have q:(H b).isSome=bD:=(so.mp a).2;rw[n]at q;simp at q
def Aq(e:(ot h H).get? b=a5 o):h.get? b=a5 o/\H b=b8:=by
 have a:h.get? b=a5 o:=PySem.W.of_hideAll (Ra h H) e;show⟨a,?_⟩;cases q:H b with
 |none=>rfl
 |some x =>
  have c:b∈Ra h H:=so.mpr ⟨ve.mpr (d8 a),by simp[q]⟩;have z:(ot h H).get? b=b8:=PySem.W.hideAll_none (Ra h H) c;rw[z]at e;cases e
structure Mod(K:PySem.W.Frag)(mg:Str->Option dt)(base:DD):Prop where
 Oe:K.In base
 glob:base.Ns i3 mg
 blt:∃mb,base.Ns ó mb/\∀x:Str,x≠"__name__"->mb x=tA x
 nolimit:base.NoLimit
structure Cx where
 prog:uv
 w:wq
 K:PySem.W.Frag
 mg:Str->Option dt
 base:DD
 A:M9
 N:List Str
 s₀:d5
 H₀:Hp
 env:Env
 outer:List Env
 stack:List Env
 ex:List d7
 fn:Str->Bool
 calm:Bool
 pn:List (d7×Obj)
 xe:dt->d5->Prop
abbrev JW(l:List Env):List d7:=l.filterMap (·.frame)
noncomputable abbrev Cx.fs(X:Cx):List d7:=JW X.outer
abbrev K_(a:LU)(x:Str):Prop:=a.names.lookup x=a5 .local\/a.names.lookup x=a5 .cell\/a.names.lookup x=a5 .free
abbrev Loc(a:LU)(x:Str):Prop:=a.names.lookup x=a5 .local\/a.names.lookup x=a5 .cell
abbrev Look(env:Env)(h:DD)(m:Str->Option dt)(x:Str)(u:dt):Prop :=
 (env.kindOf x=a5 .local/\m x=a5 u)\/((env.kindOf x=a5 .cell\/env.kindOf x=a5 .free)/\∃c,env.cells.lookup x=a5 c/\h.IsCell c (a5 u))
structure Cx.Ok(X:Cx):Prop where
 mod:Mod X.K X.mg X.base
 kind:X.env.scope.kind=.function
 glob:X.env.globals=i3
 blt:X.env.builtins=ó
 above:X.s₀.heap.objs.size<=X.env.locals
 inj:∀x y c,X.env.cells.lookup x=a5 c->X.env.cells.lookup y=a5 c->x=y
 has:∀x,(X.env.kindOf x=a5 .cell\/X.env.kindOf x=a5 .free)->∃c,X.env.cells.lookup x=a5 c
 O9:∀x c,X.fn x=bD->X.env.cells.lookup x=a5 c->X.s₀.heap.objs.size<=c
 hd:X.calm=bD->X.A.handled=b8
 frames:X.A.frames=a5 X.stack
 PL:X.stack=X.outer\/(X.stack=X.env::X.outer/\X.env.frame=a5 X.env.locals)
 R_:∀b∈X.ex,b≠X.env.locals/\∀x c,X.env.cells.lookup x=a5 c->c≠b
 bs:∀b o,X.base.get? b=a5 o->X.s₀.heap.get? b=a5 o/\X.H₀ b=b8
 Nr:X.base.objs.size<=X.s₀.heap.objs.size
 Mi:∀b o,X.base.get? b=a5 o->b∉X.ex
 MG:∀b∈X.ex,b∉X.fs
 j4:X.s₀.heap.FunFrames X.base X.outer
 Of:∀b∈X.fs,X.H₀ b=b8
structure Inv(X:Cx)(pins:List (d7×Obj))(σ:List (Option V))(H:Hp)(s:d5):Prop where
 ok:X.Ok
 os:s.os=X.s₀.os
 bare:SM s.gens
 base:Un X.fs X.ex X.H₀ H X.s₀.heap s.heap
 loc:∃m,s.heap.Ns X.env.locals m/\∀(i:Nat) (x:Str) (v:V),X.N[i]?=a5 x->σ[i]?=a5 (a5 v)->K_ X.env.scope x->∃u,RelV v u/\Look X.env s.heap m x u
 cell:∀x c,X.env.cells.lookup x=a5 c->∃v,s.heap.IsCell c v
 free:H X.env.locals=b8
 JF:∀x c,X.env.cells.lookup x=a5 c->H c=b8
 pin:∀p∈X.pn++pins,s.heap.get? p.1=a5 p.2/\H p.1=b8/\p.1≠X.env.locals/\p.1∉X.fs/\∀v,p.2.data≠.cell v
 Jj:Kc X.prog X.w H s.heap
 len:σ.length=X.N.length
section
variable{X:Cx}{pins:List (d7×Obj)}{σ:List (Option V)}{H H':Hp}{s:d5}{h':DD}
def Cx.Ok.Ie(a:X.Ok)(e:X.base.get? b=a5 o):b∉X.fs:=λc=>by
 have:=(a.j4.mem c).1;rw[e]at this;cases this
def Inv.bs(I:Inv X pins σ H s):∀b o,X.base.get? b=a5 o->s.heap.get? b=a5 o/\H b=b8:=λb o e =>
 ⟨I.base.keep b o (I.ok.bs b o e).1 (I.ok.bs b o e).2 (I.ok.Ie e) (I.ok.Mi b o e),I.base.free b o (I.ok.bs b o e).1 (I.ok.bs b o e).2 (I.ok.Mi b o e)⟩
def Inv.bk(I:Inv X pins σ H s):∀b o,X.base.get? b=a5 o->s.heap.get? b=a5 o:=λb o e=>(I.bs b o e).1
def Inv.mod(I:Inv X pins σ H s):Mod X.K X.mg X.base:=I.ok.mod
def Inv.Mw(I:Inv X pins σ H s):X.K.In s.heap:=I.ok.mod.Oe.keeps I.bk
def Inv.lt(I:Inv X pins σ H s):X.env.locals<s.heap.objs.size:=let ⟨_,a,_⟩:=I.loc;a.lt
def Inv.sz(I:Inv X pins σ H s):X.s₀.heap.objs.size<=s.heap.objs.size:=vr I.ok.above (Qi I.lt)
def Inv.Di(I:Inv X pins σ H s)(h:s.heap.objs.size<=a):a∉X.fs:=λb=>by
 obtain⟨_,o,ho,_⟩:=I.ok.j4.mem b;show absurd (i1 (d8 ho) (vr I.sz h)) (t4 _)
def Inv.MH(I:Inv X pins σ H s):∀x c,X.env.cells.lookup x=a5 c->c≠X.env.locals:=λx c e z=>by
 have⟨v,o,ho,a⟩:=I.cell x c e;obtain⟨m,⟨f,es,ep,b,d,_⟩,_⟩:=I.loc;rw[z,b]at ho;cases ho;rw[d]at a;cases a
def Inv.j4(I:Inv X pins σ H s):s.heap.FunFrames X.base X.outer:=by
 have all:∀(l:List Env),(∀b∈JW l,b∈X.fs)->X.s₀.heap.FunFrames X.base l->s.heap.FunFrames X.base l:=by
  intro l;induction l with
  |nil=>intro _ _;trivial
  |cons env r f =>
   intro hs hl;obtain⟨hk,⟨L,o,a,g,ho,h⟩,i⟩:=hl;have c:L∈X.fs:=hs L (by unfold JW;rw[y1,a];show mu);have⟨j,e⟩:=I.base.slot L o ho (I.ok.Of L c) c λz=>I.ok.MG L z c;show⟨hk,⟨L,_,a,g,e,h⟩,f (λb d=>hs b (by unfold JW;rw[y1,a];show ko _ d)) i⟩
 show all X.outer (λ_ d=>d) I.ok.j4
def Inv.stack(I:Inv X pins σ H s):s.heap.FunFrames X.base X.stack:=by
 rcases I.ok.PL with e|⟨e,a⟩
 .rw[e];show I.j4
 .rw[e];obtain⟨m,b,_⟩:=I.loc;show .cons (by rw[I.ok.kind];decide) a b ?_ I.j4;show Heap.get?_none_of_le (vr I.ok.Nr I.ok.above)
def Inv.kJ(I:Inv X pins σ H s):∀b∈JW X.stack,b∈X.env.locals::X.fs:=λb a=>by
 rcases I.ok.PL with e|⟨e,c⟩
 .rw[e]at a;show ko _ a
 .rw[e]at a;unfold JW at a;rw[y1,c]at a;show a
def Inv.kg(I:Inv X pins σ H s):∀b∈JW X.stack,H b=b8:=λb hb=>by
 rcases d4.mp (I.kJ b hb) with e|hb
 .rw[e];show I.free
 .obtain⟨_,o,ho,_⟩:=I.ok.j4.mem hb;show I.base.free b o ho (I.ok.Of b hb) λz=>I.ok.MG b z hb
def Inv.step{ch:List d7}(I:Inv X pins σ H s)
  (j:∀b∈ch,(b∈X.ex\/X.s₀.heap.objs.size<=b)/\b≠X.env.locals/\(∀x c,X.env.cells.lookup x=a5 c->c≠b)/\∀p∈X.pn++pins,p.1≠b)
  (keep:∀b o,b≠X.env.locals->b∉X.fs->b∉ch->s.heap.get? b=a5 o->H b=b8->h'.get? b=a5 o)
  (slot:∀b o,b≠X.env.locals->b∈X.fs->b∉ch->s.heap.get? b=a5 o->H b=b8->∃C,h'.get? b=a5 {o with slots:=C}) (free:∀b o,b∉ch->s.heap.get? b=a5 o->H b=b8->H' b=b8)
  (there:∀b o,b∉ch->s.heap.get? b=a5 o->∃t,h'.get? b=a5 t)
  (fW:∀b xs,H b=a5 (.tup xs)->H' b=a5 (.tup xs)) (J':∀b o u,H b=a5 (.K9 o u)->H' b=a5 (.K9 o u)) (Kf:∀b ps,H b=a5 (.NJ ps)->∃more,H' b=a5 (.NJ (ps++more)))
  (ns:∀m,s.heap.Ns X.env.locals m->h'.Ns X.env.locals m) (N:Kc X.prog X.w H' h') (O:SM g') :
  Inv X pins σ H' {s with heap:=h',gens:=g',drawn:=d',toks:=t' }:=by
 have G:∀b o,X.s₀.heap.get? b=a5 o->b≠X.env.locals:=λb o e=>gs (i1 (d8 e) I.ok.above);have B:∀b o,X.s₀.heap.get? b=a5 o->b∉X.ex->b∉ch:=λb o e a h=>by
  rcases(j b h).1 with z|z
  .show a z
  .show absurd (i1 (d8 e) z) (t4 _)
 have f:∀x c,X.env.cells.lookup x=a5 c->∀v,s.heap.IsCell c v->h'.IsCell c v:=λx c e v Q=>by
  have⟨o,ho,D⟩:=Q;have y:c∉ch:=λz=>(j c z).2.2.1 x c e rfl;by_cases J:c∈X.fs
  .have⟨C,q⟩:=slot c o (I.MH x c e) J y ho (I.JF x c e);show⟨_,q,D⟩
  .show⟨o,keep c o (I.MH x c e) J y ho (I.JF x c e),D⟩
 show⟨I.ok,I.os,O,⟨λb o e n h a=>?_,λb o e n h a=>?_,λb o e n a=>?_,λb o e a=>?_,λb xs e=>fW b xs (I.base.fW b xs e),λb o xs e=>J' b o xs (I.base.J' b o xs e),λb ps e=>?_⟩,?_,λx c e=>?_,?_,λx c e=>?_,λp L=>?_,N,I.len⟩
 .show keep b o (G b o e) h (B b o e a) (I.base.keep b o e n h a) (I.base.free b o e n a)
 .have⟨C,g⟩:=I.base.slot b o e n h a;have⟨T,A⟩:=slot b _ (G b o e) h (B b o e a) g (I.base.free b o e n a);show⟨T,A⟩
 .have⟨t,g⟩:=I.base.there b o e a;show free b t (B b o e a) g (I.base.free b o e n a)
 .have⟨t,g⟩:=I.base.there b o e a;show there b t (B b o e a) g
 .have⟨m1,g⟩:=I.base.Kf b ps e;have⟨m2,A⟩:=Kf b _ g;show⟨m1++m2,by rw[A,ZE]⟩
 .have⟨m,Y,hl⟩:=I.loc;show⟨m,ns m Y,λi x v g A e3=>?_⟩;have⟨u,r,l⟩:=hl i x v g A e3;show⟨u,r,?_⟩;rcases l with l|⟨k,c,e,z⟩
  .show .inl l
  .show .inr ⟨k,c,e,f x c e _ z⟩
 .have⟨v,z⟩:=I.cell x c e;show⟨v,f x c e v z⟩
 .obtain⟨m,⟨o,_,_,ho,_⟩,_⟩:=I.loc;show free _ o (λz=>(j _ z).2.1 rfl) ho I.free
 .have⟨v,o,ho,D⟩:=I.cell x c e;show free c o (λz=>(j c z).2.2.1 x c e rfl) ho (I.JF x c e)
 .have⟨e,n,ne,nf,d⟩:=I.pin p L;have y:p.1∉ch:=λz=>(j p.1 z).2.2.2 p L rfl;show⟨keep p.1 p.2 ne nf y e n,free p.1 p.2 y e n,ne,nf,d⟩
def Inv.un(I:Inv X pins σ H s)(u:Un X.fs [] H H' s.heap h')(d:Kc X.prog X.w H' h'):Inv X pins σ H' {s with heap:=h',toks:=t' }:=by
 obtain⟨m,⟨o,es,ep,ho,r⟩,_⟩:=id I.loc;have⟨k,f⟩:=u.any ho I.free (by simp);show I.step (g':=s.gens) (d':=s.drawn) (ch:=[]) (λ_ z=>nomatch z) (λb o _ a _ e n=>u.keep b o e n a (by simp)) (λb o _ a _ e n=>u.slot b o e n a (by simp)) (λb o _ e n=>u.free b o e n (by simp)) (λb o _ e=>u.there b o e (by simp)) u.fW u.J' u.Kf (λl g=>by
  have⟨p,h,i,c,j⟩:=g;rw[ho]at c;cases c;show⟨_,h,i,f,j⟩) d I.bare
def Inv.call(I:Inv X pins σ H s)(u:Un (JW X.stack) ch H H' s.heap h')(h:Kc X.prog X.w H' h')(i:SM g')
  (f:∀b∈ch,(b∈X.ex\/X.s₀.heap.objs.size<=b)/\b≠X.env.locals/\(∀x c,X.env.cells.lookup x=a5 c->c≠b)/\∀p∈X.pn++pins,p.1≠b) :
  Inv X pins σ H' {s with heap:=h',gens:=g',drawn:=d',toks:=t' }:=by
 obtain⟨m,⟨o,es,ep,ho,r⟩,_⟩:=id I.loc;have⟨v,d⟩:=u.any ho I.free λz=>(f _ z).2.1 rfl;show I.step (ch:=ch) f (λb o d j a e n=>u.keep b o e n (λz=>(d4.mp (I.kJ b z)).elim d j) a) (λb o _ _ a e n=>u.any e n a) (λb o a e n=>u.free b o e n a) (λb o a e=>u.there b o e a) u.fW u.J' u.Kf (λy k=>by
  have⟨A,l,q,g,t⟩:=k;rw[ho]at g;cases g;show⟨_,l,q,d,t⟩) h i
def Inv.turned(I:Inv X pins σ H s)(k:∀b o,b≠it->s.heap.get? b=a5 o->h'.get? b=a5 o)(g:H it=b8)(d:it≠X.env.locals)
  (h:it∈X.ex\/X.s₀.heap.objs.size<=it) (i:∀x c,X.env.cells.lookup x=a5 c->c≠it) (j:∀p∈X.pn++pins,p.1≠it):Inv X pins σ H {s with heap:=h',toks:=t' }:=by
 have f:∀b u,H b=a5 u->b≠it:=λb u e z=>by rw[z,g]at e;cases e
 show I.step (g':=s.gens) (d':=s.drawn) (ch:=[it]) (λb l=>?_) (λb o _ _ a e _=>k b o (λz=>a (by simp[z])) e) (λb o _ _ a e _=>⟨o.slots,k b o (λz=>a (by simp[z])) e⟩) (λ_ _ _ _ n=>n)
  (λb o a e=>⟨o,k b o (λz=>a (by simp[z])) e⟩) (λ_ _ e=>e) (λ_ _ _ e=>e) (λb ps e=>⟨#[],by rw[e];simp⟩) (λm t=>?_) (λb u e=>?_) I.bare
 .have e:b=it:=by simpa using l
  subst e;show⟨h,d,i,j⟩
 .have⟨o,es,ep,ho,r⟩:=t;show⟨o,es,ep,k _ o (qs d) ho,r⟩
 .show(I.Jj b u e).fQ (λc v a q=>k c v ?_ q) (λ_ q=>q) λ_ _ q=>q;rcases a with z|z
  .rw[z];show f b u e
  .show f c _ z
def Inv.tok(I:Inv X pins σ H s)(t:Nat):Inv X pins σ H {s with toks:=t}:=I.un (h':=s.heap) (t':=t) Un.refl I.Jj
def Inv.kept(I:Inv X pins σ H s)(k:∀b u,s.heap.get? b=a5 u->h'.get? b=a5 u):Inv X pins σ H {s with heap:=h',toks:=t' }:=I.un (Un.kept k) (I.Jj.kept k)
def Inv.laid(I:Inv X pins σ H s)(k:∀b u,s.heap.get? b=a5 u->h'.get? b=a5 u)(c:s.heap.objs.size<=a)(new:bW X.prog X.w (upd H a o) h' a o):
  Inv X pins σ (upd H a o) {s with heap:=h',toks:=t' }:=I.un (Un.laid k c (I.Jj.fresh c)) (I.Jj.laid k c new)
def Inv.write(I:Inv X pins σ H s)(a:PJ (H x))(c:e=x\/H e=a5 (.own x))(k:∀b u,b≠e->s.heap.get? b=a5 u->h'.get? b=a5 u)(d:∃u,h'.get? e=a5 u)
  (new:bW X.prog X.w (upd H x o) h' x o):Inv X pins σ (upd H x o) {s with heap:=h',toks:=t' }:=I.un (Un.write a c k d) (I.Jj.write a c k d new)
def Inv.weak(I:Inv X pins σ H s)(hl:a.length=σ.length)(w:∀(i:Nat) v,a[i]?=a5 (a5 v)->σ[i]?=a5 (a5 v)):Inv X pins a H s :=
 ⟨I.ok,I.os,I.bare,I.base,let ⟨m,b,c⟩:=I.loc;⟨m,b,λi x v d e f=>c i x v d (w i v e) f⟩,I.cell,I.free,I.JF,I.pin,I.Jj,hl.trans I.len⟩
def Inv.eJ(I:Inv X pins σ H s)(h:∀p∈a,s.heap.get? p.1=a5 p.2/\H p.1=b8/\p.1≠X.env.locals/\p.1∉X.fs/\∀v,p.2.data≠.cell v):Inv X a σ H s :=
 ⟨I.ok,I.os,I.bare,I.base,I.loc,I.cell,I.free,I.JF,λp b=>(hW.mp b).elim (λz=>I.pin p (LF _ z)) (h p),I.Jj,I.len⟩
def iy{N:List Str}(c:N.Nodup){i j:Nat}(a:N[i]?=a5 x)(b:N[j]?=a5 x):i=j:=by
 have⟨f,d⟩:=dV.mp a;have⟨g,e⟩:=dV.mp b;show(Ô c).mp (d.trans e.symm)
def mO(I:Inv X pins σ H s)(hN:X.N.Nodup)(D:X.N[i]?=a5 x)(l:Loc X.env.scope x)(r:RelV v u)
  (h:∀s',Inv X pins (σ.set i (a5 v)) H s'->(∃a,mA a s.heap s'.heap/\(a=X.env.locals\/X.env.cells.lookup x=a5 a))->Q () s') (hf:X.fn x=bD\/X.env.scope.names.lookup x=a5 .local:=by first|show .inl rfl|show .inr rfl|assumption):d3 M A (storeName X.env x u) Q E s:=by
 have⟨m,L,hl⟩:=id I.loc;have Oh:(X.env.scope.kind==.class||(X.env.scope.kind==.module&&X.env.locals != X.env.globals))=cc:=by rw[I.ok.kind];rfl
 have U5:i < σ.length:=by rw[I.len];show(dV.mp D).1
 have O:=I.MH;have f:∀{a:d7} {h':DD},(∃o,s.heap.get? a=a5 o/\H a=b8)->mA a s.heap h'->Kc X.prog X.w H h':=λ{a h'} ha hs b ob e=>by
  obtain⟨_,_,J2⟩:=ha;show(I.Jj b ob e).fQ (λc G hc q=>(hs.2 c ?_).trans q) (λ_ q=>q) λ_ _ q=>q;rintro rfl;rcases hc with rfl|hc
  .rw[J2]at e;cases e
  .rw[J2]at hc;cases hc
 rcases l with hk|hk
 .show wpAny_storeName_local hk L (λh' O' hs=>?_) Oh;obtain⟨oL,_,_,Nt,_⟩:=id L;show h _ ⟨I.ok,I.os,I.bare,⟨λb o e n B l=>?_,λb o e n B l=>?_,I.base.free,λb o e l=>?_,I.base.fW,I.base.J',I.base.Kf⟩,⟨_,O',λj y T g t Y=>?_⟩,λy c e=>?_,I.free,I.JF,λp hp=>?_,f ⟨oL,Nt,I.free⟩ hs,by simpa using I.len⟩ ⟨_,hs,.inl rfl⟩
  .show(hs.2 b (gs (i1 (d8 e) I.ok.above))).trans (I.base.keep b o e n B l)
  .have⟨sl,g⟩:=I.base.slot b o e n B l;show⟨sl,(hs.2 b (gs (i1 (d8 e) I.ok.above))).trans g⟩
  .have⟨o',g⟩:=I.base.there b o e l;show⟨o',(hs.2 b (gs (i1 (d8 e) I.ok.above))).trans g⟩
  .by_cases C:j=i
   .subst C;rw[D]at g;cases g;rw[d6 U5]at t;cases t;show⟨u,r,.inl ⟨hk,by simp⟩⟩
   .rw[hH (qs C)]at t;have⟨u',r',q⟩:=hl j y T g t Y;show⟨u',r',?_⟩;rcases q with⟨k,e⟩|⟨k,c,e,z⟩
    .show .inl ⟨k,?_⟩;have:y≠x:=λe=>C (iy hN g (e▸D));simp[this,e]
    .show .inr ⟨k,c,e,z.sameBut hs (O y c e)⟩
  .have⟨G,z⟩:=I.cell y c e;show⟨G,z.sameBut hs (O y c e)⟩
  .have⟨e,n,ne,nf,d⟩:=I.pin p hp;show⟨(hs.2 p.1 ne).trans e,n,ne,nf,d⟩
 .have Lk:X.fn x=bD:=by
   rcases hf with z|z
   .show z
   .rw[z]at hk;cases hk
  have⟨c,hc⟩:=I.ok.has x (.inl hk);have⟨G,z⟩:=I.cell x c hc;show wpAny_storeName_cell I.ok.kind hk hc z (λh' Pa hs=>?_);have⟨oc,U6,Sa⟩:=id z;show h {s with heap:=h' } ⟨I.ok,I.os,I.bare,⟨λb o e n B l=>?_,λb o e n B l=>?_,I.base.free,λb o e l=>?_,I.base.fW,I.base.J',I.base.Kf⟩,⟨m,L.sameBut hs (qs (O x c hc)),λj y T g t Y=>?_⟩,λy J e=>?_,I.free,I.JF,λp hp=>?_,f ⟨oc,U6,I.JF x c hc⟩ hs,by simpa using I.len⟩ ⟨c,hs,.inr hc⟩
  .show(hs.2 b (gs (i1 (d8 e) (I.ok.O9 x c Lk hc)))).trans (I.base.keep b o e n B l)
  .have⟨sl,g⟩:=I.base.slot b o e n B l;show⟨sl,(hs.2 b (gs (i1 (d8 e) (I.ok.O9 x c Lk hc)))).trans g⟩
  .have⟨o',g⟩:=I.base.there b o e l;show⟨o',(hs.2 b (gs (i1 (d8 e) (I.ok.O9 x c Lk hc)))).trans g⟩
  .by_cases C:j=i
   .subst C;rw[D]at g;cases g;rw[d6 U5]at t;cases t;show⟨u,r,.inr ⟨.inl hk,c,hc,Pa⟩⟩
   .rw[hH (qs C)]at t;have⟨u',r',q⟩:=hl j y T g t Y;show⟨u',r',?_⟩;rcases q with q|⟨k,J,e,z'⟩
    .show .inl q
    .show .inr ⟨k,J,e,z'.sameBut hs ?_⟩;rintro rfl;show C (iy hN g (I.ok.inj _ _ _ e hc▸D))
  .by_cases U7:J=c
   .subst U7;show⟨_,Pa⟩
   .have⟨w2,z2⟩:=I.cell y J e;show⟨w2,z2.sameBut hs U7⟩
  .have⟨e,n,ne,nf,d⟩:=I.pin p hp;show⟨(hs.2 p.1 ?_).trans e,n,ne,nf,d⟩;intro q;rw[q,U6]at e;have q':oc=p.2:=sL e;show d G (by rw[<-q'];show Sa)
def iz(I:Inv X pins σ H s)(a:X.N.Nodup)(b:X.N[i]?=a5 x)(c:Loc X.env.scope x)(r:RelV v u)
  (h:∀s',Inv X pins (σ.set i (a5 v)) H s'->Q () s') (d:X.fn x=bD\/X.env.scope.names.lookup x=a5 .local:=by first|show .inl rfl|show .inr rfl|assumption):d3 M A (storeName X.env x u) Q E s :=
 mO I a b c r (λs' e _=>h s' e) d
def Inv.CB(I:Inv X pins σ H s)(ho:s'.os=s.os)(u:Un (JW X.stack) ch H H' s.heap s'.heap)(a:Kc X.prog X.w H' s'.heap)(d:SM s'.gens)
  (f:∀b∈ch,(b∈X.ex\/X.s₀.heap.objs.size<=b)/\b≠X.env.locals/\(∀x c,X.env.cells.lookup x=a5 c->c≠b)/\∀p∈X.pn++pins,p.1≠b):Inv X pins σ H' s':=by
 have⟨h',g',d',t',g⟩:=s';have e:g=s.os:=ho;subst e;show I.call (g':=g') (t':=t') (d':=d') u a d f
end
@[reducible]def XK:=dt->Option d7->Hp->Prop
@[reducible]def St:=List (Option V)
@[reducible]def VK:=V->Hp->Prop
@[reducible]def TE:=St->Hp->VK->Prop
@[reducible]def TT:=St->Hp->(Bool->Hp->Prop)->Prop
@[reducible]def TA:=St->Hp->(List V->Hp->Prop)->Prop
structure Ends where
 nx:St->Hp->Prop
 rt:VK
 bk:St->Hp->Prop:=λ_ _=>False
 ct:St->Hp->Prop:=λ_ _=>False
@[reducible]def TS:=Ends->St->Hp->Prop
abbrev EP(X:Cx)(pins:List (d7×Obj))(σ:St)(Q:VK)(u:dt)(s':d5):Prop:=∃v H',Inv X pins σ H' s'/\RelV v u/\Q v H'
abbrev TP(X:Cx)(pins:List (d7×Obj))(σ:St)(Q:Bool->Hp->Prop)(b:Bool)(s':d5):Prop:=∃H',Inv X pins σ H' s'/\Q b H'
abbrev AP(X:Cx)(pins:List (d7×Obj))(σ:St)(Q:List V->Hp->Prop)(us:List dt)(s':d5):Prop:=∃vs H',Inv X pins σ H' s'/\Vals vs us/\Q vs H'
abbrev SP(X:Cx)(pins:List (d7×Obj))(D:Ends)(f:Flow)(s':d5):Prop :=
 match f with
 |.next=>∃a H',Inv X pins a H' s'/\D.nx a H'
 |.brk=>∃a H',Inv X pins a H' s'/\D.bk a H'
 |.cont=>∃a H',Inv X pins a H' s'/\D.ct a H'
 |.ret u=>∃v a H',Inv X pins a H' s'/\RelV v u/\D.rt v H'
abbrev PE(X:Cx)(e:lg)(t:TE):Prop :=
 ∀(pins:List (d7×Obj)) (s:d5) (σ:St) (H:Hp) (Q:VK),Inv X pins σ H s->t σ H Q->d3 (eh X.prog X.w) X.A (uk e X.env) (EP X pins σ Q) X.xe s
abbrev PT(X:Cx)(e:lg)(t:TT):Prop :=
 ∀(pins:List (d7×Obj)) (s:d5) (σ:St) (H:Hp) (Q:Bool->Hp->Prop),Inv X pins σ H s->t σ H Q->d3 (eh X.prog X.w) X.A (isTrue e X.env (uk e X.env)) (TP X pins σ Q) X.xe s
abbrev PW(X:Cx)(e:lg)(t:TT):Prop :=
 ∀(a:Sem dt) (pins:List (d7×Obj)) (s:d5) (σ:St) (H:Hp) (Q:Bool->Hp->Prop),Inv X pins σ H s->t σ H Q->d3 (eh X.prog X.w) X.A (isTrue e X.env a) (TP X pins σ Q) X.xe s
def PW.pt(h:PW X e t):PT X e t:=h _
abbrev PA(X:Cx)(es:List lg)(t:TA):Prop :=
 ∀(pos:Pos) (pins:List (d7×Obj)) (s:d5) (σ:St) (H:Hp) (Q:List V->Hp->Prop),Inv X pins σ H s->t σ H Q->d3 (eh X.prog X.w) X.A (Ą (x2 pos (gj es X.env))) (AP X pins σ Q) X.xe s
abbrev PS(X:Cx)(st:L5)(t:TS):Prop :=
 ∀(pins:List (d7×Obj)) (s:d5) (σ:St) (H:Hp) (D:Ends),Inv X pins σ H s->t D σ H->d3 (eh X.prog X.w) X.A (exec st X.env) (SP X pins D) X.xe s
abbrev J6(X:Cx)(st:List L5)(t:TS):Prop :=
 ∀(pins:List (d7×Obj)) (s:d5) (σ:St) (H:Hp) (D:Ends),Inv X pins σ H s->t D σ H->d3 (eh X.prog X.w) X.A (execs st X.env) (SP X pins D) X.xe s
def Jo(h:d3 M A t Q E s)(b:∀a s,Q a s->Q' a s):d3 M A t Q' E s:=i9 h b λ_ _ x=>x
section
abbrev Ig(i:Nat):TE:=λσ H Q=>∃v,σ[i]?=a5 (a5 v)/\Q v H
abbrev tC(v:V):TE:=λ_ H Q=>Q v H
def bY(g:X.N[i]?=a5 x)(j:K_ X.env.scope x)(b:(x==("__debug__":Str))=cc:=by decide)(k:(x==("__classdict__":Str))=cc:=by decide):PE X (.Name x pos) (Ig i):=by
 intro pins s σ H Q I h;have⟨v,e,h⟩:=h;have⟨m,n,hl⟩:=I.loc;have⟨u,r,l⟩:=hl i x v g e j;have a:EP X pins σ Q u s:=⟨v,H,I,r,h⟩
 rcases l with⟨hk,o⟩|⟨hk,c,d,f⟩
 .show ð (wpAny_loadName_local I.ok.kind hk n o a) b
 .rcases hk with hk|hk
  .show ð (wpAny_loadName_cell I.ok.kind hk d f a) b
  .show ð (wpAny_loadName_free I.ok.kind hk d f a k) b
def xh:PE X (.Constant (.int i) j pos) (tC (.int i)):=λ_ _ _ H _ I h=>wpAny_Constant_int ⟨.int i,H,I.tok _,⟨_,rfl⟩,h⟩
def tS:PE X (.Constant (.bool b) j pos) (tC (.bl b)):=λ_ _ _ H _ I h=>Constant_bool ⟨.bl b,H,I,rfl,h⟩
def xj:PE X (.Constant .none j pos) (tC .Jm):=λ_ _ _ H _ I h=>Constant_none ⟨.Jm,H,I,rfl,h⟩
def xm:PE X (.Constant (.str x) j pos) (tC (.str x)):=λ_ _ _ H _ I h=>Calls.Constant_str ⟨.str x,H,I.tok _,⟨_,rfl⟩,h⟩
abbrev Gl(X:Cx)(x:Str):Prop:=X.env.kindOf x=a5 .globalImplicit
def ft(I:Inv X pins σ H s)(a:Gl X x)(b:X.mg x=a5 u)(h:Q u s)
  (c:(x==("__debug__":Str))=cc:=by decide):d3 (eh X.prog X.w) X.A (uk (.Name x pos) X.env) Q E s :=
 WH I.ok.kind a (Calls.loadGlobal_global (by rw[I.ok.glob];show I.mod.glob.keeps I.bk) b h) c
def dm(I:Inv X pins σ H s)(a:Gl X x)(b:X.mg x=b8)(c:tA x=a5 u)(h:Q u s)
  (d:x≠"__name__":=by decide) (e:(x==("__debug__":Str))=cc:=by decide):d3 (eh X.prog X.w) X.A (uk (.Name x pos) X.env) Q E s:=by
 have⟨i,f,g⟩:=I.mod.blt;show WH I.ok.kind a (Calls.loadGlobal_builtin (by rw[I.ok.glob];show I.mod.glob.keeps I.bk) b (by rw[I.ok.blt];show f.keeps I.bk) ((g x d).trans c) h) e
def tT(a:Gl X x)(b:X.mg x=b8)(c:tA x=a5 u)(r:RelV v u)(d:x≠"__name__":=by decide)(e:(x==("__debug__":Str))=cc:=by decide):PE X (.Name x pos) (tC v) :=
 λ_ _ _ H _ I h=>dm I a b c ⟨v,H,I,r,h⟩ d e
abbrev PC(X:Cx)(c:Đ)(a b:lg)(t:TE):Prop :=
 ∀(pins:List (d7×Obj)) (s:d5) (σ:St) (H:Hp) (Q:VK),Inv X pins σ H s->t σ H Q ->
  d3 (eh X.prog X.w) X.A (uk a X.env) (λv d=>d3 (eh X.prog X.w) X.A (uk b X.env) (λu e=>d3 (eh X.prog X.w) X.A (O7 c v u) (EP X pins σ Q) X.xe e) X.xe d) X.xe s
abbrev tB(t:TE):TT:=λσ H Q=>t σ H λx a=>∃c,x=.bl c/\Q c a
def xn(h:PC X f a b t)(e:L4 f b=cc:=by first|show n _ (by decide) (by decide)|rfl):PT X (.Compare a [f] [b] pos) (tB t):=by
 intro pins s σ H Q I g;show Ï (Jo (h pins s σ H _ I g) λv s1 e=>Jo e λu s2 i=>Jo i λc s3 ⟨x,j,k,l,m⟩=>?_) e;have⟨d,rfl,q⟩:=m;cases l;show wh ⟨j,k,q⟩
abbrev Ih(t u:TT):TT:=λσ H Q=>t σ H λc a=>if c=bD then u σ a Q else Q cc a
abbrev Wy(t u:TT):TT:=λσ H Q=>t σ H λc a=>if c=bD then Q bD a else u σ a Q
abbrev Ii(t:TT):TT:=λσ H Q=>t σ H λc a=>Q (!c) a
def Ar(b:PT X a d):PW X (.BoolOp .And [a] pos) d:=by
 intro f pins s σ H Q I h;show isTrue_and (Jo (b pins s σ H Q I h) λc s1 e=>?_);cases c with
 |true=>show Ľ e
 |false=>show e
def Dj(b:PT X a d):PW X (.BoolOp .Or [a] pos) d:=by
 intro f pins s σ H Q I h;show isTrue_or (Jo (b pins s σ H Q I h) λc s1 e=>?_);cases c with
 |false=>show isTrue_or_nil e
 |true=>show e
def Dk(g:PT X a i)(j:PW X (.BoolOp .And (b::rest) pos) k):PW X (.BoolOp .And (a::b::rest) pos) (Ih i k):=by
 intro l pins s σ H Q I h;show isTrue_and (Jo (g pins s σ H _ I h) λc s1 m=>?_);have⟨d,e,f⟩:=m;cases c with
 |true=>show j l pins s1 σ d Q e f
 |false=>show⟨d,e,f⟩
def FR(g:PT X a i)(j:PW X (.BoolOp .Or (b::rest) pos) k):PW X (.BoolOp .Or (a::b::rest) pos) (Wy i k):=by
 intro l pins s σ H Q I h;show isTrue_or (Jo (g pins s σ H _ I h) λc s1 m=>?_);have⟨d,e,f⟩:=m;cases c with
 |true=>show⟨d,e,f⟩
 |false=>show j l pins s1 σ d Q e f
def Dl(b:PT X a d):PT X (.UnaryOp .Not a pos) (Ii d):=by
 intro pins s σ H Q I h;show isTrue_not (b pins s σ H (λc e=>Q (!c) e) I h)
abbrev FT(b d:TE):TE:=λσ H Q=>b σ H λx a=>∃c,x=.bl c/\if c=bD then d σ a Q else Q (.bl cc) a
abbrev FU(a:TE):TE:=λσ H Q=>a σ H λx b=>∃c,x=.bl c/\Q (.bl (!c)) b
def Dm(h:PE X a t):PE X (.BoolOp c [a] pos) t:=λpins s σ H Q I b=>BoolOp_one (h pins s σ H Q I b)
def Dn(g:PE X a i)(j:PE X (.BoolOp .And (b::rest) pos) k):PE X (.BoolOp .And (a::b::rest) pos) (FT i k):=by
 intro pins s σ H Q I h;show BoolOp_and (Jo (g pins s σ H _ I h) λv s1 l=>?_);have⟨x,e,f,m,d⟩:=l;have⟨c,rfl,d⟩:=d;cases m;show wh ?_;cases c with
 |true=>show j pins s1 σ e Q f d
 |false=>show⟨.bl cc,e,f,rfl,d⟩
def Dp(d:PE X a e):PE X (.UnaryOp .Not a pos) (FU e):=by
 intro pins s σ H Q I h;show UnaryOp_ (Jo (d pins s σ H _ I h) λv s1 f=>?_);have⟨x,g,i,j,b⟩:=f;have⟨c,rfl,b⟩:=b;cases j;show not_of (wh ⟨.bl (!c),g,i,rfl,b⟩)
abbrev WD(t:TT)(b d:TE):TE:=λσ H Q=>t σ H λc a=>if c=bD then b σ a Q else d σ a Q
def xp(i:PT X c j)(k:PE X a l)(m:PE X b n):PE X (.IfExp c a b pos) (WD j l n):=by
 intro pins s σ H Q I h;show wpAny_IfExp (Jo (i pins s σ H _ I h) λd s1 o=>?_);have⟨e,f,g⟩:=o;cases d with
 |true=>show k pins s1 σ e Q f g
 |false=>show m pins s1 σ e Q f g
end
abbrev JN(K:PySem.W.Frag)(H:Hp)(a:d7)(xs:List V):Prop :=
 Rd H a (.lst xs) \/
  ∃(o:Obj) (b:Array dt) (n:Nat),K.lookup a=a5 o/\o.cls=.type "list"/\o.dict=b8/\o.data=.seq b n/\b.size<=cL/\Vals xs b.toList
abbrev JY(K:PySem.W.Frag)(H:Hp)(a:d7)(xs:List V):Prop :=
 Rd H a (.tup xs) \/
  ∃(o:Obj) (b:Array dt) (n:Nat),K.lookup a=a5 o/\o.cls=.type "tuple"/\o.data=.seq b n/\b.size<=cL/\Vals xs b.toList
abbrev Ij:dt->Option V
 |.none=>a5 .Jm
 |.bool b=>a5 (.bl b)
 |.int i _=>a5 (.int i)
 |.str x _=>a5 (.str x)
 |.bytes b _=>a5 (.Q8 b)
 |.float b _=>a5 (.Q9 b)
 |.ref a=>a5 (.ref a)
 |.type n=>a5 (.ty n)
 |_=>b8
def RelV.abs(r:RelV x u):Ij u=a5 x:=by
 cases x with
 |Jm=>cases r;rfl
 |bl _=>cases r;rfl
 |ref _=>cases r;rfl
 |ty _=>cases r;rfl
 |_=>have⟨t,rfl⟩:=r;rfl
def RelV.inj(r:RelV x u)(q:RelV y u):x=y:=sL (r.abs.symm.trans q.abs)
theorem Vals.inj:∀{xs a:List V}{us:List dt},Vals xs us->Vals a us->xs=a
 |_,_,_,.nil,.nil=>rfl
 |_,_,_,.cons r t,.cons b t'=>by rw[r.inj b,Vals.inj t t']
section
def JN.of{K:PySem.W.Frag}(h:H a=a5 (.lst xs)):JN K H a xs:=.inl (.inl h)
def JY.of{K:PySem.W.Frag}(h:H a=a5 (.tup xs)):JY K H a xs:=.inl (.inl h)
def Inv.list(I:Inv X pins σ H s)(h:JN X.K H a xs):∃b:List dt,Vals xs b/\PlainL s.heap a b.toArray/\xs.length<=cL:=by
 rcases h with h|⟨o,b,n,hk,c,d,hs,hz,r⟩
 .have⟨z,b,n,r,e⟩:=h.ok I.Jj;show⟨b,r,⟨_,n,e,rfl,rfl,rfl⟩,z⟩
 .show⟨b.toList,r,⟨o,n,I.Mw a o hk,c,d,by simpa using hs⟩,?_⟩;have e:=r.length;simp only[eM]at e;lia
def Inv.tuple(I:Inv X pins σ H s)(h:JY X.K H a xs):∃b:List dt,Vals xs b/\Ŀ s.heap a b.toArray/\xs.length<=cL:=by
 rcases h with h|⟨o,b,n,hk,c,hs,hz,r⟩
 .have⟨z,b,r,p⟩:=h.ok I.Jj;show⟨b,r,p,z⟩
 .show⟨b.toList,r,⟨o,I.Mw a o hk,c,n,by simpa using hs⟩,?_⟩;have e:=r.length;simp only[eM]at e;lia
def Inv.pQ(I:Inv X pins σ H s)(h:JN X.K H a xs)(h':JN X.K H a c):xs=c:=by
 obtain⟨f,r,⟨o,n,e,_,_,d⟩,_⟩:=I.list h;obtain⟨its',g,⟨j,k,b,_,_,d'⟩,_⟩:=I.list h';rw[e]at b;cases b;rw[d]at d';injection d' with i _
 have:f=its':=by simpa using ņ Yd i
 subst this;show r.inj g
def Inv.mP(I:Inv X pins σ H s)(h:JY X.K H a xs)(h':JY X.K H a c):xs=c:=by
 obtain⟨f,r,⟨o,e,_,n,d⟩,_⟩:=I.tuple h;obtain⟨its',g,⟨j,b,_,k,d'⟩,_⟩:=I.tuple h';rw[e]at b;cases b;rw[d]at d';injection d' with i _
 have:f=its':=by simpa using ņ Yd i
 subst this;show r.inj g
end
@[reducible]def Cx.iA(X:Cx)(E:dt->d5->Prop):Cx:={X with xe:=E}
@[reducible]def Cx.Ll(X:Cx):Cx:=X.iA λ_ _=>False
def Cx.Ok.iA{X:Cx}(a:X.Ok)(E:dt->d5->Prop):(X.iA E).Ok :=
 ⟨a.mod,a.kind,a.glob,a.blt,a.above,a.inj,a.has,a.O9,a.hd,a.frames,a.PL,a.R_,a.bs,a.Nr,a.Mi,a.MG,a.j4,a.Of⟩
def Cx.Ok.eQ{X:Cx}(a:(X.iA E).Ok):X.Ok :=
 ⟨a.mod,a.kind,a.glob,a.blt,a.above,a.inj,a.has,a.O9,a.hd,a.frames,a.PL,a.R_,a.bs,a.Nr,a.Mi,a.MG,a.j4,a.Of⟩
section
def Inv.iA(I:Inv X pins σ H s)(E:dt->d5->Prop):Inv (X.iA E) pins σ H s:=⟨I.ok.iA E,I.os,I.bare,I.base,I.loc,I.cell,I.free,I.JF,I.pin,I.Jj,I.len⟩
def Inv.eQ(I:Inv (X.iA E) pins σ H s):Inv X pins σ H s:=⟨I.ok.eQ,I.os,I.bare,I.base,I.loc,I.cell,I.free,I.JF,I.pin,I.Jj,I.len⟩
def SP.eQ(h:SP (X.iA E) pins D f s'):SP X pins D f s':=by
 cases f with
 |ret u=>have⟨v,a,H',I,r,q⟩:=h;show⟨v,a,H',I.eQ,r,q⟩
 |_=>have⟨a,H',I,q⟩:=h;show⟨a,H',I.eQ,q⟩
def J6.Ll{st:List L5}(h:J6 X.Ll st t):J6 X st t:=λpins s σ H D I a =>
 i9 (h pins s σ H D (I.iA _) a) (λ_ _ q=>q.eQ) λ_ _ z=>ME z
end
section
variable{X:Cx}{st:L5}{rest:List L5}{t u:TS}{e:lg}{te:TE}{pos:Pos}
abbrev FV:TS:=λD σ H=>D.nx σ H
abbrev Il(t u:TS):TS:=λD σ H=>t {D with nx:=u D} σ H
def tU:J6 X [] FV:=λ_ _ σ H _ I h=>RJ ⟨σ,H,I,h⟩
def pR(a:PS X st t)(b:J6 X rest u):J6 X (st::rest) (Il t u):=by
 intro pins s σ H D I h;show ĕ (Jo (a pins s σ H {D with nx:=u D} I h) λf s1 q=>?_);cases f with
 |next =>
  have⟨c,H',d,q⟩:=q;show b pins s1 c H' D d q
 |_=>show q
def Inv.quiet(I:Inv X pins σ H s):interactive X.env=cc:=by simp[interactive,I.ok.kind]
abbrev FW(te:TE):TS:=λD σ H=>te σ H λ_ a=>D.nx σ a
def iB(a:PE X e te)(hs:O6 e b8 pos.line X.env=pure cc:=by rfl):PS X (.Expr e pos) (FW te):=by
 intro pins s σ H D I h;show ī (Jo (a pins s σ H _ I h) λv s1 ⟨x,b,c,f,d⟩=>⟨σ,b,c,d⟩) I.quiet hs
abbrev Im(te:TE):TS:=λD σ H=>te σ H D.rt
def Dq(a:PE X e te):PS X (.Return (a5 e) pos) (Im te):=by
 intro pins s σ H D I h;show Ă (Jo (a pins s σ H _ I h) λv s1 ⟨x,b,c,d,f⟩=>⟨x,σ,b,c,d,f⟩)
abbrev FX:TS:=λD _ H=>D.rt .Jm H
def As:PS X (.Return b8 pos) FX:=λ_ _ σ H _ I h=>wpAny_Return_none ⟨.Jm,σ,H,I,rfl,h⟩
abbrev Io(c:TT)(t u:TS):TS:=λD σ H=>c σ H λb a=>if b=bD then t D σ a else u D σ a
def FY(j:PT X c k)(l:J6 X a t)(m:J6 X b u):PS X (.If c a b pos) (Io k t u):=by
 intro pins s σ H D I h;show wpAny_If (Jo (j pins s σ H _ I h) λd s1 n=>?_);have⟨f,g,i⟩:=n;cases d with
 |true=>show l pins s1 σ f D g i
 |false=>show m pins s1 σ f D g i
end
@[reducible]def TG:=V->St->Hp->(St->Hp->Prop)->Prop
@[reducible]def Pb:=List V->St->Hp->(St->Hp->Prop)->Prop
abbrev PG(X:Cx)(a:lg)(t:TG):Prop :=
 ∀(pins:List (d7×Obj)) (s:d5) (σ:St) (H:Hp) (v:V) (u:dt) (Q:St->Hp->Prop),Inv X pins σ H s->RelV v u->t v σ H Q ->
  d3 (eh X.prog X.w) X.A (Sl a X.env u) (λ_ s'=>∃b H',Inv X pins b H' s'/\Q b H') X.xe s
abbrev PU(X:Cx)(ts:List lg)(t:Pb):Prop :=
 ∀(pins:List (d7×Obj)) (s:d5) (σ:St) (H:Hp) (vs:List V) (us:List dt) (Q:St->Hp->Prop),Inv X pins σ H s->Vals vs us->t vs σ H Q ->
  d3 (eh X.prog X.w) X.A (assignInOrder ((Qb ts X.env).map (·.2)) us) (λ_ s'=>∃a H',Inv X pins a H' s'/\Q a H') X.xe s
@[reducible]def Dr:=V->V->V->Hp->(Hp->Prop)->Prop
abbrev ou(X:Cx)(t:Dr):Prop :=
 ∀(pins:List (d7×Obj)) (s:d5) (σ:St) (H:Hp) (o i v:V) (a b u:dt) (Q:Hp->Prop),Inv X pins σ H s->RelV o a->RelV i b->RelV v u->t o i v H Q ->
  d3 (eh X.prog X.w) X.A (TF a b u) (λ_ s'=>∃H',Inv X pins σ H' s'/\Q H') X.xe s
@[reducible]def Sd:=V->V->Hp->VK->Prop
abbrev Rc(X:Cx)(a:Ü)(t:Sd):Prop :=
 ∀(pins:List (d7×Obj)) (s:d5) (σ:St) (H:Hp) (x y:V) (v u:dt) (Q:VK),Inv X pins σ H s->RelV x v->RelV y u->t x y H Q ->
  d3 (eh X.prog X.w) X.A (inplaceOp a v u) (EP X pins σ Q) X.xe s
section
abbrev tV(i:Nat):TG:=λv σ H Q=>Q (σ.set i (a5 v)) H
def tW(a:X.N.Nodup)(b:X.N[i]?=a5 x)(c:Loc X.env.scope x)(d:X.fn x=bD\/X.env.scope.names.lookup x=a5 .local:=by first|show .inl rfl|show .inr rfl|assumption):PG X (.Name x pos) (tV i):=by
 intro pins s σ H v u Q I r h;show ā (iz I a b c r (λs' e=>⟨_,H,e,h⟩) d)
abbrev FZ:Pb:=λvs σ H Q=>vs=[]/\Q σ H
abbrev CC(t:TG)(u:Pb):Pb:=λvs σ H Q=>∃v r,vs=v::r/\t v σ H λa H'=>u r a H' Q
def Au:PU X [] FZ:=by
 intro pins s σ H vs us Q I r h;have⟨e,h⟩:=h;subst e;cases r;show assignInOrder_nil ⟨σ,H,I,h⟩
def xq(a:PG X e t)(b:PU X es u)
  (hs:(Qb (e::es) X.env).map (·.2)=Sl e X.env::(Qb es X.env).map (·.2):=by rfl):PU X (e::es) (CC t u):=by
 intro pins s σ H vs us Q I r h;have⟨v,l,c,h⟩:=h;subst c;cases r with
 |cons r d =>
  rw[hs];show assignInOrder_cons (Jo (a pins s σ H _ _ _ I r h) λ_ s1 f=>?_);have⟨g,i,j,k⟩:=f;show b pins s1 g i _ _ Q j d k
abbrev Ip(K:PySem.W.Frag)(n:Nat)(t:Pb):TG:=λv σ H Q=>∃a xs,v=.ref a/\JY K H a xs/\xs.length=n/\t xs σ H Q
def Ds(d:X.calm=bD)(h:PU X es t)
  (f:(Qb es X.env).length=n:=by rfl) (g:(Qb es X.env).findIdx? (·.1)=b8:=by rfl):PG X (.Tuple es k pos) (Ip X.K n t):=by
 intro pins s σ H v u Q I r c;have⟨a,xs,i,j,hl,c⟩:=c;subst i;cases r;have⟨q,rv,l,hz⟩:=I.tuple j;show assign_Tuple_tuple (I.ok.hd d) l (by simp[f,<-hl,rv.length]) g λh' m=>?_;have p:Inv X pins σ H {s with heap:=h' }:=I.kept (t':=s.toks) λb o e=>m b o (gs (d8 e)) e;show h pins _ σ H xs _ Q p (by simpa using rv) c
abbrev Iq(a b:TE)(t:Dr):TG:=λv σ H Q=>a σ H λo c=>b σ c λi d=>t o i v d λe=>Q σ e
def xr(ho:PE X o c)(d:PE X i e)(hs:ou X t)
  (f:∀v,Sl (.Subscript o i pos) X.env v=(do
   let a <-LQ [v] (uk o X.env)
   let b <-LQ [v,a] (uk i X.env)
   Wr pos
   LQ [v,a,b] (TF a b v)
   Wx [v,a,b] []):=by intro _;rfl):PG X (.Subscript o i pos) (Iq c e t):=by
 intro pins s σ H v u Q I r h;rw[f];show b6 (tj (Jo (ho pins s σ H _ I h) λa s1 g=>?_));have⟨x,j,k,l,m⟩:=g;show b6 (tj (Jo (d pins s1 σ j _ k m) λb s2 n=>?_));have⟨y,p,q,w,z⟩:=n;show b6 (Zm (b6 (tj (Jo (hs pins s2 σ p x y v a b u _ q l w r z) λ_ s3 A=>?_))));have⟨B,C,D⟩:=A;show wpAny_release ⟨σ,B,C,D⟩
abbrev Dt(a:TE)(g:TG):TS:=λD σ H=>a σ H λx b=>g x σ b D.nx
def rD(b:PE X e c)(d:PG X a g)(hs:QX [a] e pos.line X.env=pure cc:=by rfl)(f:VD [a] e X.env=pure b8:=by rfl)
  (i:(Qb [a] X.env).map (·.2)=[Sl a X.env]:=by rfl):PS X (.Assign [a] e pos) (Dt c g):=by
 intro pins s σ H D I h;show wpAny_Assign_stores (Jo (b pins s σ H _ I h) λv s1 ⟨x,j,k,l,m⟩=>?_) hs f;rw[i];show Jo (d pins s1 σ j x v _ k l m) λ_ s2 q=>q
def rE(a:X.N.Nodup)(b:X.N[i]?=a5 x)(c:Loc X.env.scope x)(d:PE X e f)(hs:O6 e (a5 (.Name x pos')) pos.line X.env=pure cc:=by rfl)(g:X.fn x=bD\/X.env.scope.names.lookup x=a5 .local:=by first|show .inl rfl|show .inr rfl|assumption):
  PS X (.Assign [.Name x pos'] e pos) (Dt f (tV i)):=by
 intro pins s σ H D I h;show ă (Jo (d pins s σ H _ I h) λv s1 ⟨y,j,k,l,m⟩=>?_) hs;show iz k a b c l (λs2 n=>⟨_,j,n,m⟩) g
abbrev F0(a b c:TE)(d:V->V->Hp->VK->Prop)(e:Sd)(f:Dr):TS:=λD σ H=>a σ H λo g=>b σ g λi h=>d o i h λx j=>c σ j λy k=>e x y k λz l=>f o i z l λm=>D.nx σ m
abbrev F5(X:Cx)(t:V->V->Hp->VK->Prop):Prop :=
 ∀(pins:List (d7×Obj)) (s:d5) (σ:St) (H:Hp) (o i:V) (a b:dt) (Q:VK),Inv X pins σ H s->RelV o a->RelV i b->t o i H Q ->
  d3 (eh X.prog X.w) X.A (WA a b) (EP X pins σ Q) X.xe s
def Av(ho:PE X o k)(l:PE X i m)(n:F5 X p)(q:PE X e r)(t:Rc X u w)(hs:ou X x)
  (y:∀a b new,ĳ i a b new=(do LQ [new,a,b] (TF a b new);Wx [new,a,b] [];pure .next):=by intros;rfl):PS X (.AugAssign (.Subscript o i WK) u e pos) (F0 k m r p w x):=by
 intro pins s σ H D I h;show wpAny_AugAssign_SubscriptAny (Jo (ho pins s σ H _ I h) λa s1 ⟨d,z,A,f,B⟩=>?_) y;show Jo (l pins s1 σ z _ A B) λb s2 C=>?_;have⟨g,G,J,j,L⟩:=C;show Jo (n pins s2 σ G d g a b _ J f j L) λc s3 N=>?_;have⟨O,Q,T,Y,q3⟩:=N;show Jo (q pins s3 σ Q _ T q3) λv s4 Si=>?_;have⟨x4,H4,I4,r4,q4⟩:=Si;show Jo (t pins s4 σ H4 O x4 c v _ I4 Y r4 q4) λnew s5 Sj=>?_;have⟨x5,H5,I5,r5,q5⟩:=Sj;show Jo (hs pins s5 σ H5 d g x5 a b new _ I5 f j r5 q5) λ_ s6 ⟨H6,I6,q6⟩=>⟨σ,H6,I6,q6⟩
abbrev Sk(f:Int->Int->Int):Sd:=λx y H Q=>∃i j,x=.int i/\y=.int j/\Q (.int (f i j)) H
def Du:Rc X .Add (Sk λi j=>i+j):=by
 intro pins s σ H x y v u Q I a b h;have⟨i,j,c,d,q⟩:=h;subst c;subst d;have⟨t,rfl⟩:=a;have⟨t',rfl⟩:=b;show iadd_int ⟨.int _,H,I.tok _,⟨_,rfl⟩,q⟩
def Dv:Rc X .Sub (Sk λi j=>i - j):=by
 intro pins s σ H x y v u Q I a b h;have⟨i,j,c,d,q⟩:=h;subst c;subst d;have⟨t,rfl⟩:=a;have⟨t',rfl⟩:=b;show isub_int ⟨.int _,H,I.tok _,⟨_,rfl⟩,q⟩
end
section
abbrev Dw(c:TT)(f:TS):TS:=λD σ H=>∃W:Nat->St->Hp->Prop,(∃m,W m σ H)/\∀m σ H,W m σ H ->
 c σ H λb a=>if b=bD then ∃N:St->Hp->Prop,(∀d H',N d H'->∃e,e<m/\W e d H')/\f {D with nx:=N,ct:=N,bk:=D.nx} σ a else D.nx σ a
def xu(q:Xz (eh X.prog X.w) X.A X.env X.xe)(y:PT X c z)(B:J6 X body C):PS X (.While c body [] pos) (Dw z C):=by
 intro pins s σ H D I h;obtain⟨W,⟨m0,G⟩,a⟩:=h;show wpAny_While (codeAny_whileLoop (λn s'=>∃r H',Inv X pins r H' s'/\W n r H') ?_ m0 ⟨σ,H,I,G⟩);rintro n s1 ⟨g,t,J,L⟩;show NY q (Jo (y pins s1 g t _ J (a n g t L)) λb s2 O=>?_);have⟨u,v,i⟩:=O;cases b with
 |true =>
  have⟨N,x,i⟩:=i;rw[Ł rfl];show NY q (Jo (B pins s2 g u _ v i) λf s3 j=>?_);cases f with
  |next =>
   have⟨d,e,k,l⟩:=j;have⟨m,o,p⟩:=x d e l;show⟨m,o,d,e,k,p⟩
  |cont =>
   have⟨d,e,k,l⟩:=j;have⟨m,o,p⟩:=x d e l;show⟨m,o,d,e,k,p⟩
  |_=>show j
 |false =>
  rw[ł i0];show RJ ⟨g,u,v,i⟩
end
structure It where
 go:Nat->Hp->Prop
 Rf:Nat->Hp->V->Hp->Prop
 stop:Nat->Hp->Prop
abbrev iC(X:Cx)(pins:List (d7×Obj))(H:Hp)(b:d7):Prop :=
 H b=b8/\b≠X.env.locals/\b∉X.fs/\(b∈X.ex\/X.s₀.heap.objs.size<=b)/\(∀x c,X.env.cells.lookup x=a5 c->c≠b)/\∀p∈X.pn++pins,p.1≠b
def Inv.Aw(I:Inv X pins σ H s)(a:s.heap.objs.size<=b)(d:H' b=b8):iC X pins H' b:=by
 show⟨d,Kk (i1 I.lt a),I.Di a,.inr (vr I.sz a),λx c e z=>?_,λp f z=>?_⟩
 .have⟨v,q⟩:=I.cell x c e;show absurd (i1 q.lt (by rw[z];show a)) (t4 _)
 .show absurd (i1 (d8 (I.pin p f).1) (by rw[z];show a)) (t4 _)
structure Turn(P:uv)(w:wq)(K:PySem.W.Frag)(tg:lg)(J:It)(fp:List d7)(it:d7)(tn:Nat->DD->Prop):Prop where
 mem:it∈fp
 obj:∀i h,tn i h->∀b∈fp,∃o,h.get? b=a5 o/\∀v,o.data≠.cell v
 keep:∀i h h',tn i h->(∀b∈fp,∀o,h.get? b=a5 o->h'.get? b=a5 o)->tn i h'
 item:∀(X:Cx),X.prog=P->X.w=w->X.K=K->X.calm=bD->∀(i:Nat) (pins:List (d7×Obj)) (s:d5) (σ:St) (H:Hp) (E:dt->d5->Prop),Inv X pins σ H s->(∀b∈fp,iC X pins H b)->tn i s.heap->J.go i H ->
  d3 (eh P w) X.A (TN (.ref it)) (λr s1=>∃u,r=a5 u /\
   d3 (eh P w) X.A (Ur tg (.ref it) u) (λ_ s2=>∃x H',Inv X pins σ H' s2/\RelV x u/\J.Rf i H x H'/\tn (i+1) s2.heap/\∀b∈fp,H' b=b8) E s1) E s
 done:∀(X:Cx),X.prog=P->X.w=w->X.K=K->X.calm=bD->∀(i:Nat) (pins:List (d7×Obj)) (s:d5) (σ:St) (H:Hp) (E:dt->d5->Prop),Inv X pins σ H s->(∀b∈fp,iC X pins H b)->tn i s.heap->J.stop i H ->
  d3 (eh P w) X.A (TN (.ref it)) (λr s1=>r=b8/\Inv X pins σ H s1) E s
 self:∀(A:M9) (i:Nat) (s:d5) (Q:dt->d5->Prop) (E:dt->d5->Prop),tn i s.heap->Q (.ref it) s->d3 (eh P w) A (YR (.ref it)) Q E s
@[reducible]def TI:=St->Hp->(It->Hp->Prop)->Prop
abbrev U8(X:Cx)(pins:List (d7×Obj))(σ:St)(d:lg)(R:It->Hp->Prop)(e:dt)(s2:d5):Prop :=
 ∃(it:d7) (a:List d7) (c:Nat->DD->Prop) (J:It) (H':Hp),e=.ref it/\Inv X pins σ H' s2/\Turn X.prog X.w X.K d J a it c/\c 0 s2.heap/\(∀b∈a,iC X pins H' b)/\R J H'
abbrev PI(X:Cx)(b a:lg)(c:TI):Prop :=
 ∀(pins:List (d7×Obj)) (s:d5) (σ:St) (H:Hp) (R:It->Hp->Prop),Inv X pins σ H s->c σ H R ->
  d3 (eh X.prog X.w) X.A (uk a X.env) (λv s1=>d3 (eh X.prog X.w) X.A (YR v) (U8 X pins σ b R) X.xe s1) X.xe s
def xv(ho:s.heap.get? it=a5 o)(b:o.cls=.type n)(c:o.data=.fields vs)
    (d:["enumerate","zip","dict_itemiterator","dict_reverseitemiterator","odict_iterator","itertools.zip_longest","itertools.pairwise"].contains n=cc) (a:Q () s):d3 M A (Ur e (.ref it) u) Q E s:=by
  unfold Ur;cases e<;>first
    | show c4 a
    | (cases u<;>first
        | show c4 a
        | (show b6 (î ho ?_)
           rw[b,c];change d3 M A (if (["enumerate","zip","dict_itemiterator","dict_reverseitemiterator","odict_iterator","itertools.zip_longest","itertools.pairwise"].contains n&&vs[0]?==a5 (t8 _))=bD then _ else _) Q E s;rw[ł (by intro h;rw[d,í]at h;cases h)];show c4 a))
abbrev Sm(K:PySem.W.Frag)(a:d7):It :=
 ⟨λi H=>∃xs x,JN K H a xs/\xs[i]?=a5 x,λi H x H'=>H'=H/\∀xs,JN K H a xs->xs[i]?=a5 x,λi H=>∃xs,JN K H a xs/\xs.length<=i⟩
abbrev Sn(K:PySem.W.Frag)(a:d7):It :=
 ⟨λi H=>∃xs x,JY K H a xs/\xs[i]?=a5 x,λi H x H'=>H'=H/\∀xs,JY K H a xs->xs[i]?=a5 x,λi H=>∃xs,JY K H a xs/\xs.length<=i⟩
abbrev Rh(lo:Int)(n:Nat):It:=⟨λi _=>i<n,λi H x H'=>H'=H/\x=.int (lo+i),λi _=>n<=i⟩
def vF{K:PySem.W.Frag}(a it:d7):Turn P w K tg (Sm K a) [it] it (λi h=>h.IsListIter it a i) where
 mem:=by simp
 obj:=λi h st b f=>by
  have e:b=it:=by simpa using f
  subst e;have⟨o,e,c,d⟩:=st;show⟨o,e,λv z=>by rw[d]at z;cases z⟩
 keep:=λi h h' st k=>st.at λo e=>k it (by simp) o e
 item:=by
  intro X l m n D i pins s σ H E I g st q;subst l m n;have⟨xs,x,j,r⟩:=q;have⟨G,rv,p,hz⟩:=I.list j;have⟨u,J,L⟩:=rv.get r;have⟨t,y,N,A,B,C⟩:=g it (by simp);show wpAny_pyNext_list_item st p.isList (x:=u) (by simpa using J) λh' st' O=>?_;have Q:Inv X pins σ H {s with heap:=h' }:=I.turned (t':=s.toks) (λb o f e=>(O.2 b f).trans e) t y A B C;have⟨o,e,c,d⟩:=id st';show⟨u,rfl,xv (s:={s with heap:=h' }) e c d (by decide) ⟨x,H,Q,L,⟨rfl,λys T=>by rw[I.pQ T j];show r⟩,st',λb f=>(g b f).1⟩⟩
 done:=by
  intro X l m n D i pins s σ H E I g st q;subst l m n;have⟨xs,j,r⟩:=q;have⟨G,rv,p,hz⟩:=I.list j;have⟨t,y,N,A,B,C⟩:=g it (by simp);have hl:=rv.length;show wpAny_pyNext_list_end (I.ok.hd D) st p.isList (by simp;lia) λh' Y=>⟨rfl,I.turned (t':=s.toks) (λb o f e=>Y b o f e) t y A B C⟩
 self:=λ_ _ _ _ _ st h=>wpAny_pyIter_listiter st h
def rF{K:PySem.W.Frag}(a it:d7):Turn P w K tg (Sn K a) [it] it (λi h=>h.IsTupleIter it a i) where
 mem:=by simp
 obj:=λi h st b f=>by
  have e:b=it:=by simpa using f
  subst e;have⟨o,e,c,d⟩:=st;show⟨o,e,λv z=>by rw[d]at z;cases z⟩
 keep:=λi h h' st k=>st.at λo e=>k it (by simp) o e
 item:=by
  intro X l m n G i pins s σ H E I g st q;subst l m n;have⟨xs,x,j,r⟩:=q;have⟨t,rv,p,hz⟩:=I.tuple j;have⟨u,J,L⟩:=rv.get r;have⟨y,A,N,B,C,D⟩:=g it (by simp);show wpAny_pyNext_tuple_item st (show s.heap.IsTuple a t.toArray from p) (x:=u) (by simpa using J) λh' st' O=>?_;have Q:Inv X pins σ H {s with heap:=h' }:=I.turned (t':=s.toks) (λb o f e=>(O.2 b f).trans e) y A B C D;have⟨o,e,c,d⟩:=id st';show⟨u,rfl,xv (s:={s with heap:=h' }) e c d (by decide) ⟨x,H,Q,L,⟨rfl,λys T=>by rw[I.mP T j];show r⟩,st',λb f=>(g b f).1⟩⟩
 done:=by
  intro X l m n G i pins s σ H E I g st q;subst l m n;have⟨xs,j,r⟩:=q;have⟨t,rv,p,hz⟩:=I.tuple j;have⟨y,A,N,B,C,D⟩:=g it (by simp);have hl:=rv.length;show wpAny_pyNext_tuple_end (I.ok.hd G) st (show s.heap.IsTuple a t.toArray from p) (by simp;lia) λh' Y=>⟨rfl,I.turned (t':=s.toks) (λb o f e=>Y b o f e) y A B C D⟩
 self:=λ_ _ _ _ _ st h=>wpAny_pyIter_tupleiter st h
def rG{K:PySem.W.Frag}(it:d7)(lo:Int)(n:Nat):Turn P w K J (Rh lo n) [it] it (λi h=>IsRangeIter h it (lo+(i:Nat) * 1) ((n:Int) - (i:Nat)) 1) where
 mem:=by simp
 obj:=λi h st b a=>by
  have e:b=it:=by simpa using a
  subst e;show⟨_,st,λv z=>by
   have y:VQ _=Ñ v:=z;cases y⟩
 keep:=λi h h' st k=>k it (by simp) _ st
 item:=by
  intro X d f g j i pins s σ H E I c st l;subst d f g;have⟨m,p,A,q,r,u⟩:=c it (by simp);have W:=Walks.range (prog:=X.prog) (w:=X.w) (I.ok.hd j) it lo 1 n;show W.item i s _ _ l st λv h' x B st' C=>?_;have⟨t,rfl⟩:=B;have D:Inv X pins σ H {s with heap:=h',toks:=x}:=I.turned (λb o a e=>C b o (by simpa using a) e) m p q r u;show⟨_,rfl,xv (s:={s with heap:=h',toks:=x}) (n:="range_iterator") st' rfl rfl (by decide) ⟨.int (lo+i),H,D,⟨t,?_⟩,⟨rfl,rfl⟩,st',λb a=>(c b a).1⟩⟩;rw[Int.mul_one]
 done:=by
  intro X d f g j i pins s σ H E I c st l;subst d f g;have⟨m,p,A,q,r,u⟩:=c it (by simp);show wpAny_pyNext_range_end (I.ok.hd j) st (by have:n<=i:=l;lia) λh' G=>⟨rfl,I.turned (t':=s.toks) (λb o a e=>G b o a e) m p q r u⟩
 self:=λ_ _ _ _ _ st h=>wpAny_pyIter_rangeiter st h
section
abbrev F6(K:PySem.W.Frag)(c:TE):TI:=λσ H R=>c σ H λx b=>∃a,x=.ref a/\(∃xs,JN K b a xs)/\R (Sm K a) b
abbrev Ir(K:PySem.W.Frag)(c:TE):TI:=λσ H R=>c σ H λx b=>∃a,x=.ref a/\(∃xs,JY K b a xs)/\R (Sn K a) b
def Ax(hl:PE X l d):PI X n l (F6 X.K d):=by
 intro pins s σ H R I h;show Jo (hl pins s σ H _ I h) λv s1 f=>?_;have⟨x,g,c,i,j⟩:=f;obtain⟨a,e,⟨xs,k⟩,q⟩:=j;subst e;cases i;have⟨r,rv,p,hz⟩:=c.list k;show Wl p.isList ?_;show⟨s1.heap.objs.size,[s1.heap.objs.size],_,_,g,rfl,c.kept (t':=s1.toks) λb o e=>c2 _ e,vF a _,⟨_,eH _ rfl,rfl,rfl⟩,λb m=>?_,q⟩;have e:b=s1.heap.objs.size:=by simpa using m
 subst e;show c.Aw (hQ _) (c.Jj.fresh (hQ _))
def Dx(hl:PE X l d):PI X r l (Ir X.K d):=by
 intro pins s σ H R I h;show Jo (hl pins s σ H _ I h) λv s1 f=>?_;have⟨x,g,c,i,j⟩:=f;obtain⟨a,e,⟨xs,k⟩,q⟩:=j;subst e;cases i;have⟨m,rv,p,hz⟩:=c.tuple k;show P7 (show s1.heap.IsTuple a m.toArray from p) ?_;show⟨s1.heap.objs.size,[s1.heap.objs.size],_,_,g,rfl,c.kept (t':=s1.toks) λb o e=>c2 _ e,rF a _,⟨_,eH _ rfl,rfl,rfl⟩,λb n=>?_,q⟩;have e:b=s1.heap.objs.size:=by simpa using n
 subst e;show c.Aw (hQ _) (c.Jj.fresh (hQ _))
def xx{lo a:Int}(I:Inv X pins σ H s)(f:-(2 ^ 62)<=lo)(g:lo<2 ^ 62)(h:-(2 ^ 62)<=a)(i:a<2 ^ 62)
  (q:R (Rh lo (a - lo).toNat) H):d3 (eh X.prog X.w) X.A (YR (.ref s.heap.objs.size)) (U8 X pins σ m R) E {s with heap:=s.heap.push {cls:=.type "range",data:=.fields #[.int lo t,.int a u,.int 1 v]},toks:=d}:=by
 show wpAny_pyIter_range (IsRange.new ..) (small_one f g h i) ?_;have c:Inv X pins σ H {s with heap:=s.heap.push {cls:=.type "range",data:=.fields #[.int lo t,.int a u,.int 1 v]},toks:=d}:=I.kept λb o e=>c2 _ e;show⟨(s.heap.push {cls:=.type "range",data:=.fields #[.int lo t,.int a u,.int 1 v]}).objs.size,[(s.heap.push {cls:=.type "range",data:=.fields #[.int lo t,.int a u,.int 1 v]}).objs.size],_,_,H,rfl,
  c.kept (t':=d) λb o e=>c2 _ e,rG _ lo (a - lo).toNat,?_,λb j=>?_,q⟩
 .have k:lo+((0:Nat):Int) * 1=lo:=by simp
  have l:(((a - lo).toNat:Nat):Int) - ((0:Nat):Int)=Ğ lo a 1:=by rw[rangeSize_one];split<;>lia
  change IsRangeIter _ _ (lo+((0:Nat):Int) * 1) ((((a - lo).toNat:Nat):Int) - ((0:Nat):Int)) 1;rw[k,l];show eH _ rfl
 .have e:b=(s.heap.push {cls:=.type "range",data:=.fields #[.int lo t,.int a u,.int 1 v]}).objs.size:=by simpa using j
  subst e;show c.Aw (hQ _) (c.Jj.fresh (hQ _))
abbrev F7(a:TA):TI:=λσ H R=>a σ H λvs b=>∃j:Int,vs=[.int j]/\-(2 ^ 62)<=j/\j<2 ^ 62/\R (Rh 0 j.toNat) b
def vG(c:Gl X "range")(d:X.mg "range"=b8)(f:PA X [a] g)(hs:gj [a] X.env=[(cc,uk a X.env)]:=by rfl):PI X n (.Call (.Name "range" p) [a] [] pos) (F7 g):=by
 intro pins s σ H R I h;show Call_ (dm I c d boot_range (Mk (Jo (f pos pins s σ H _ I h) λus s1 ⟨vs,o,i,k,b⟩=>?_) hs rfl));have⟨j,e,b,l,q⟩:=b;subst e;cases k with
 |cons r m =>
  cases m;have⟨t,rfl⟩:=r;show call_range_1 (xx i ⋯ ⋯ b l (by simpa using q))
abbrev Iu(c:TI)(g:TG)(d:TS):TS:=λD σ H=>c σ H λJ e=>∃W:Nat->Nat->St->Hp->Prop,(∃m,W 0 m σ e)/\∀i m σ H,W i m σ H ->
 (J.stop i H/\D.nx σ H)\/(J.go i H/\∃N:St->Hp->Prop,(∀a H',N a H'->∃b,b<m/\W (i+1) b a H')/\∀x H',J.Rf i H x H'->g x σ H' λf h=>d {D with nx:=N,ct:=N,bk:=D.nx} f h)
abbrev kK(a:List d7)(h:DD):List (d7×Obj):=a.filterMap λb=>(h.get? b).map λo=>(b,o)
def fu(a:b∈c)(e:h.get? b=a5 o):(b,o)∈kK c h:=PK.mpr ⟨b,a,by rw[e];rfl⟩
def vH(a:p∈kK c h):p.1∈c/\h.get? p.1=a5 p.2:=by
 have⟨b,d,e⟩:=PK.mp a;cases q:h.get? b with
 |none=>rw[q]at e;cases e
 |some o =>
  rw[q]at e;have f:(b,o)=p:=sL e;subst f;show⟨d,q⟩
def Inv.pinned(I:Inv X pins σ H s)(g:∀b∈a,iC X pins H b)(ho:∀b∈a,∃o,s.heap.get? b=a5 o/\∀v,o.data≠.cell v):Inv X (pins++kK a s.heap) σ H s :=
 I.eJ λp h=>(hW.mp h).elim (λz=>I.pin p (kr _ z)) λz=>by
  have⟨c,e⟩:=vH z;obtain⟨i,j,k,_⟩:=g p.1 c;have⟨o,f,d⟩:=ho p.1 c;rw[e]at f;cases f;show⟨e,i,j,k,d⟩
def Inv.kL(I:Inv X (pins++b) σ H s):Inv X pins σ H s:=I.eJ λp a=>I.pin p (kr _ (LF _ a))
def Dy(q:Xz (eh X.prog X.w) X.A X.env X.xe)(hc:X.calm=bD)(hi:PI X tg l wi)(hg:PG X tg g)(a:J6 X body tb)
  (hs:∀x,LS l X.env x=pure x:=by intro _;rfl):PS X (.For tg l body [] pos) (Iu wi g tb):=by
 intro pins s σ H D I h;show wpAny_For (Jo (hi pins s σ H _ I h) λv s1 h1=>Jo h1 λRg s2 h2=>?_) hs;obtain⟨it,t,tn,J,H2,e,I2,T,st2,f2,W,⟨m0,w0⟩,y⟩:=h2;subst e;have L:∀{H':Hp},(∀b∈t,H' b=b8)->∀b∈t,iC X pins H' b:=λhn b a=>⟨hn b a,(f2 b a).2⟩
 show codeAny_forLoop_any (λn s'=>∃i z H',Inv X pins z H' s'/\tn i s'.heap/\(∀b∈t,H' b=b8)/\W i n z H') ?_ m0 ⟨0,σ,H2,I2,st2,λb a=>(f2 b a).1,w0⟩;rintro n s3 ⟨i,B,G,I3,JJ,PV,w3⟩;rcases y i n B G w3 with⟨C,qn⟩|⟨go,N,hN,Ø⟩
 .show NY q (Jo (T.done X rfl rfl rfl hc i pins s3 B G X.xe I3 (L PV) JJ C) λr s4 Ss=>?_);have⟨O,I4⟩:=Ss;subst O;show RJ ⟨B,G,I4,qn⟩
 .show NY q (Jo (T.item X rfl rfl rfl hc i pins s3 B G X.xe I3 (L PV) JJ go) λr s4 Su=>?_);have⟨u,O,h4⟩:=Su;subst O;show NY q (Jo h4 λ_ s5 Sv=>?_);have⟨x,H5,I5,r5,y5,Q,Sw⟩:=Sv;have Sx:=I5.pinned (L Sw) (T.obj _ _ Q);show NY q (Jo (hg _ s5 B H5 x u _ Sx r5 (Ø x H5 y5)) λ_ s6 Sy=>?_);have⟨σ6,H6,I6,q6⟩:=Sy;show NY q (Jo (a _ s6 σ6 H6 _ I6 q6) λf Y p=>?_);have ĵ:∀{c:St} {j:Hp},Inv X (pins++kK t s5.heap) c j Y->N c j->∃m,m<n/\∃i z H',Inv X pins z H' Y/\tn i Y.heap/\(∀b∈t,H' b=b8)/\W i m z H':=λ{c j} k n7=>by
   have⟨m',hm,w7⟩:=hN c j n7;show⟨m',hm,i+1,c,j,k.kL,T.keep _ _ _ Q λb a o e=>(k.pin (b,o) (kr _ (kr _ (fu a e)))).1,λb a=>?_,w7⟩;have⟨o,e,d⟩:=T.obj _ _ Q b a;show(k.pin (b,o) (kr _ (kr _ (fu a e)))).2.1
  cases f with
  |brk=>have⟨c,j,k,p⟩:=p;show⟨c,j,k.kL,p⟩
  |ret v=>have⟨x7,c,j,k,r7,p⟩:=p;show⟨x7,c,j,k.kL,r7,p⟩
  |_=>have⟨c,j,k,n7⟩:=p;show ĵ k n7
end
@[reducible]def R2:=V->V->Hp->VK->Prop
abbrev Lm(X:Cx)(f:dt->dt->Sem dt)(r:R2):Prop :=
 ∀(pins:List (d7×Obj)) (s:d5) (σ:St) (H:Hp) (x y:V) (v u:dt) (Q:VK),Inv X pins σ H s->RelV x v->RelV y u->r x y H Q ->
  d3 (eh X.prog X.w) X.A (f v u) (EP X pins σ Q) X.xe s
abbrev iD(X:Cx)(f:dt)(r:List V->Hp->VK->Prop):Prop :=
 ∀(pins:List (d7×Obj)) (s:d5) (σ:St) (H:Hp) (xs:List V) (us:List dt) (Q:VK),Inv X pins σ H s->Vals xs us->r xs H Q ->
  d3 (eh X.prog X.w) X.A (NK f us) (EP X pins σ Q) X.xe s
abbrev Iv(X:Cx)(r:V->Hp->(Bool->Hp->Prop)->Prop):Prop :=
 ∀(pins:List (d7×Obj)) (s:d5) (σ:St) (H:Hp) (x:V) (v:dt) (Q:Bool->Hp->Prop),Inv X pins σ H s->RelV x v->r x H Q ->
  d3 (eh X.prog X.w) X.A (ñ v) (TP X pins σ Q) X.xe s
abbrev rI(C:Int->Int->Prop)(g:Int->Int->V):R2:=λx y H Q=>∃i j,x=.int i/\y=.int j/\C i j/\Q (g i j) H
abbrev Om(g:Int->Int->V):R2:=λx y H Q=>∃i j,x=.int i/\y=.int j/\Q (g i j) H
section
def Ri{g:Int->Int->Int}
  (Ě:∀(i j:Int) (t u:Tok) (s:d5) (Q:dt->d5->Prop) (E:dt->d5->Prop),C i j->Q (.int (g i j) s.toks) {s with toks:=s.toks+1}->d3 (eh X.prog X.w) X.A (f (.int i t) (.int j u)) Q E s) :
  Lm X f (rI C λi j=>.int (g i j)):=by
 intro pins s σ H x y v u Q I a b h;have⟨i,j,rfl,rfl,c,q⟩:=h;have⟨t,rfl⟩:=a;have⟨t',rfl⟩:=b;show Ě i j t t' s _ _ c ⟨.int (g i j),H,I.tok _,⟨_,rfl⟩,q⟩
def F8{g:Int->Int->Int}
  (Ě:∀(i j:Int) (t u:Tok) (s:d5) (Q:dt->d5->Prop) (E:dt->d5->Prop),Q (.int (g i j) s.toks) {s with toks:=s.toks+1}->d3 (eh X.prog X.w) X.A (f (.int i t) (.int j u)) Q E s) :
  Lm X f (Om λi j=>.int (g i j)):=by
 intro pins s σ H x y v u Q I a b h;have⟨i,j,rfl,rfl,q⟩:=h;have⟨t,rfl⟩:=a;have⟨t',rfl⟩:=b;show Ě i j t t' s _ _ ⟨.int (g i j),H,I.tok _,⟨_,rfl⟩,q⟩
def Dz{g:Int->Int->Bool}
  (Ě:∀(i j:Int) (t u:Tok) (s:d5) (Q:dt->d5->Prop) (E:dt->d5->Prop),Q (.bool (g i j)) s->d3 (eh X.prog X.w) X.A (f (.int i t) (.int j u)) Q E s) :
  Lm X f (Om λi j=>.bl (g i j)):=by
 intro pins s σ H x y v u Q I a b h;have⟨i,j,rfl,rfl,q⟩:=h;have⟨t,rfl⟩:=a;have⟨t',rfl⟩:=b;show Ě i j t t' s _ _ ⟨.bl (g i j),H,I,rfl,q⟩
abbrev Iw(i j:Int):Prop:=0<j/\j<1073741824
abbrev Iy(i j:Int):Prop:=0<=j/\j<=1000000/\i.natAbs<2 ^ 64
abbrev DA(i j:Int):Prop:=(-(2 ^ 64)<i/\i<2 ^ 64)\/(-(2 ^ 64)<j/\j<2 ^ 64)
def DA.ok(h:DA i j):IntMulOk i j:=by
 rcases h with⟨a,b⟩|⟨a,b⟩
 .show .of_left (intBits_le_64 a b)
 .show .of_right (intBits_le_64 a b)
def cu:Lm X (OZ .Add) (Om λi j=>.int (i+j)):=F8 λ_ _ _ _ _ _ _ q=>add_int q
def rH:Lm X (OZ .Sub) (Om λi j=>.int (i - j)):=F8 λ_ _ _ _ _ _ _ q=>sub_int q
def kM:Lm X (OZ .Mult) (rI DA λi j=>.int (i * j)):=Ri λ_ _ _ _ _ _ _ a q=>mul_int q a.ok
def Ay:Lm X (OZ .FloorDiv) (rI Iw λi j=>.int (i / j)):=Ri λi j _ _ _ _ _ a q=>by
 have b:(0:Int)<j:=a.1;have c:j<1073741824:=a.2;show floordiv_int ⋯ (by rw[Int.fdiv_eq_ediv_of_nonneg i ⋯];show q) (.inl (PyProof.noPylong_small ⋯))
def eR:Lm X (OZ .Mod) (rI (λ_ j=>0<j) λi j=>.int (i % j)):=Ri λi j _ _ _ _ _ a q=>by
 have b:(0:Int)<j:=a;show mod_int' ⋯ (by rw[Int.fmod_eq_emod_of_nonneg i ⋯];show q)
def ox:Lm X (OZ .Pow) (rI Iy λi j=>.int (i ^ j.toNat)):=Ri λ_ _ _ _ _ _ _ a q=>pow_int_small a.1 a.2.1 a.2.2 q
end
section
def DB(I:Inv X pins σ H s)(q:Q (.bl k) H)(e:k=k'):EP X pins σ Q (.bool k') s:=by
 subst e;show⟨.bl k,H,I,rfl,q⟩
def F9:Lm X (O7 .Lt) (Om λi j=>.bl (cK (i<j))):=Dz λ_ _ _ _ _ _ _ q=>lt_int q
def F_:Lm X (O7 .Gt) (Om λi j=>.bl (cK (j<i))):=Dz λ_ _ _ _ _ _ _ q=>gt_int q
def Ga:Lm X (O7 .GtE) (Om λi j=>.bl (cK (j<=i))):=Dz λ_ _ _ _ _ _ _ q=>ge_int q
def DC:Lm X (O7 .Is) (λx y H Q=>y=.Jm/\Q (.bl (cK (x=.Jm))) H):=by
 intro pins s σ H x y v u Q I a b h;have⟨rfl,q⟩:=h;cases b;show is_none_gen (DB I q ?_);cases x<;>first
  |(cases a;rfl)
  |(have⟨t,rfl⟩:=a;rfl)
abbrev Gb(K:PySem.W.Frag)(x:V)(H:Hp)(k:Bool):Prop :=
 match x with
 |.Jm=>k=cc
 |.bl b=>k=b
 |.int i=>k=(i != 0)
 |.str y=>y.length<=cL/\k=((y.length:Int) != 0)
 |.Q8 y=>y.size<=cL/\k=((y.size:Int) != 0)
 |.ref p=>(∃xs,JN K H p xs/\k=!xs.isEmpty)\/(∃xs,JY K H p xs/\k=!xs.isEmpty)\/∃kvs,H p=a5 (.dK kvs)/\k=!kvs.isEmpty
 |_=>False
def rJ(r:KV kvs vs):(!vs.isEmpty)=!kvs.isEmpty:=by
 cases r<;>rfl
def kN(r:Vals xs a):(!a.toArray.isEmpty)=!xs.isEmpty:=by
 cases r<;>simp
def fR:(cL:Nat)<2 ^ 63:=by rw[sizeLine_eq];decide
def DE:Iv X (λx H Q=>∃k,Gb X.K x H k/\Q k H):=by
 intro pins s σ H x v Q I d h;have⟨k,e,q⟩:=h;have hl:=fR;have hs:cL=16777216:=sizeLine_eq;cases x with
 |Jm =>
  cases d;have a:k=cc:=e;subst a;show truthy_none ⟨H,I,q⟩
 |bl b =>
  cases d;have a:k=b:=e;subst a;show wh ⟨H,I,q⟩
 |int i =>
  have⟨t,rfl⟩:=d;have a:k=(i != 0):=e;subst a;show PySem.P.truthy_int ⟨H,I,q⟩
 |str y =>
  have⟨t,rfl⟩:=d;obtain⟨j,a⟩:y.length<=cL/\k=((y.length:Int) != 0):=e;subst a;show PySem.P.truthy_str ⋯ ⟨H,I.tok _,q⟩
 |Q8 y =>
  have⟨t,rfl⟩:=d;obtain⟨j,a⟩:y.size<=cL/\k=((y.size:Int) != 0):=e;subst a;show PySem.W.truthy_bytes ⋯ ⟨H,I.tok _,q⟩
 |ref p =>
  cases d;have a:(∃xs,JN X.K H p xs/\k=!xs.isEmpty)\/(∃xs,JY X.K H p xs/\k=!xs.isEmpty)\/∃kvs,H p=a5 (.dK kvs)/\k=!kvs.isEmpty:=e;rcases a with⟨xs,f,a⟩|⟨xs,f,a⟩|⟨kvs,f,a⟩
  .subst a;have⟨l,r,g,hz⟩:=I.list f;have c:=r.length;show wpAny_truthy_list g.isList (by simp only[et];lia) ⟨H,I.tok _,by rw[kN r];show q⟩
  .subst a;have⟨l,r,g,hz⟩:=I.tuple f;have c:=r.length;show truthy_tuple g (by simp only[et];lia) ⟨H,I.tok _,by rw[kN r];show q⟩
  .subst a;obtain⟨hz,n,vs,r,m⟩:kvs.length<=cL/\(p==NI)=cc/\∃vs,KV kvs vs/\s.heap.DictOf (bj X.prog X.w) p vs:=I.Jj p _ f;have c:kvs.length=vs.length:=Paired.length r;show wpAny_truthy_dict n m ⋯ ⟨H,I.tok _,by rw[rJ r];show q⟩
 |_=>show(show False from e).elim
def xy(c:PE X a d)(e:∀b,isTrue a X.env b=(do let v <-b;Wr a.pos;LQ [v] (ñ v))):
  PT X a (λσ H Q=>d σ H λx H'=>∃k,Gb X.K x H' k/\Q k H'):=by
 intro pins s σ H Q I h;show isTrue_plain (Jo (c pins s σ H _ I h) λv s1 ⟨x,f,g,i,j⟩=>DE pins s1 σ f x v Q g i j) (e _)
def rK:Lm X (OZ .Add) (λx y H Q=>∃i j,x=.str i/\y=.str j/\i.length+j.length<=cL/\Q (.str (i++j)) H):=by
 intro pins s σ H x y v u Q I a b h;have⟨i,j,rfl,rfl,hz,q⟩:=h;have⟨t,rfl⟩:=a;have⟨t',rfl⟩:=b;show add_str (λt' c=>⟨.str (i++j),H,I.tok _,⟨_,rfl⟩,q⟩) hz
def vals1(r:Vals [x] us):∃u,us=[u]/\RelV x u:=by
 cases r with
 |cons a b=>cases b;show⟨_,rfl,a⟩
def vals2(r:Vals [x,y] us):∃u a,us=[u,a]/\RelV x u/\RelV y a:=by
 cases r with
 |cons b c =>
  cases c with
  |cons d e=>cases e;show⟨_,_,rfl,b,d⟩
def oy:iD X (.type "str") (λxs H Q=>∃i,xs=[.int i]/\i.natAbs.log2<1920/\Q (.str (S0 i)) H):=by
 intro pins s σ H xs us Q I r h;have⟨i,rfl,hz,q⟩:=h;have⟨u,rfl,t,rfl⟩:=vals1 r;show PySem.P.str_of_int hz ⟨.str _,H,I.tok _,⟨_,rfl⟩,q⟩
end
section
end
def j3.some_of(r:j3 (a5 v) o):∃u,o=a5 u/\RelV v u:=by
 cases o with
 |none=>show(show False from r).elim
 |some u=>show⟨u,rfl,r⟩
section
end
structure WL(K:PySem.W.Frag)(C:d7):Prop where
 pg:PySem.W.plainGet K C ti=bD
 hd:PySem.W.hasDictIn K C=bD
 po:PySem.W.plainOver K C=bD
 sa:PySem.W.findIn K (.ref C) "__setattr__"=a5 (a5 (.builtin "object.__setattr__"))
section
end
section
end
section
inductive kO(K:PySem.W.Frag)(H:Hp):V->dt->Prop where
 |Jm:kO K H .Jm (.type "NoneType")
 |bl (x:Bool):kO K H (.bl x) (.type "bool")
 |int (i:Int):kO K H (.int i) (.type "int")
 |str (x:Str):kO K H (.str x) (.type "str")
 |Q9 (x:UInt64):kO K H (.Q9 x) (.type "float")
 |lst {a:d7} {xs:List V} (e:H a=a5 (.lst xs)):kO K H (.ref a) (.type "list")
 |K9 {a:d7} {o:Obj} {xs:List V} (e:H a=a5 (.K9 o (.lst xs))):kO K H (.ref a) (.type "list")
 |tup {a:d7} {xs:List V} (e:H a=a5 (.tup xs)):kO K H (.ref a) (.type "tuple")
 |dK {a:d7} {kvs:List (Key×V)} (e:H a=a5 (.dK kvs)):kO K H (.ref a) (.type "dict")
 |dT {a:d7} {kvs:List (List Key×V)} (e:H a=a5 (.dT kvs)):kO K H (.ref a) (.type "dict")
 |ins {a C dx:d7} {fs:List (Str×V)} (e:H a=a5 (.ins C dx fs)) (cl:WL K C) (ha:PySem.W.findIn K (.ref C) "__class__"=a5 (a5 (.builtin "object.__class__")))
   (hn:PySem.W.specialIn K (.builtin "object.__class__") "__get__"=a5 (a5 (.builtin "getset_descriptor.__get__"))) (WM:PySem.W.takesIn K (.builtin "object.__class__")=a5 bD)
   (hm:PySem.W.mroIn K C (.type "object")=a5 bD):kO K H (.ref a) (.ref C)
end
structure fw(k:Nat)(A:M9):Prop where
 hd:A.handled=b8
 dp:A.depth+3 * k+5<ĭ
 un:A.units+16 * k+200<KX
 gd:A.guards=a5 []
def fw.deeper(r:fw (k+1) A)(env:Env):fw k (A.deeper env) :=
 ⟨r.hd,by have:=r.dp;change A.depth+1+3 * k+5 < _;lia,by have:=r.un;change A.units+3+16 * k+200 < _;lia,r.gd⟩
def fw.depth(r:fw k A):A.depth<ĭ:=by have:=r.dp;lia
abbrev Iz:TA:=λ_ H Q=>Q [] H
abbrev Ge(a:TE)(b:TA):TA:=λσ H Q=>a σ H λx c=>b σ c λxs d=>Q (x::xs) d
section
def eS:PA X [] Iz:=λ_ _ _ _ H Q I h=>Nu ⟨[],H,I,.nil,h⟩
def cH(a:PE X e b)(c:PA X es t)(hs:gj (e::es) X.env=(cc,uk e X.env)::gj es X.env:=by rfl):PA X (e::es) (Ge b t):=by
 intro pos pins s σ H Q I h;rw[hs];change d3 _ _ (Ą ((cc,uk e X.env)::x2 pos (gj es X.env))) _ _ s;show KY (Jo (a pins s σ H _ I h) λu s1 d=>?_);have⟨x,f,g,i,j⟩:=d;show Jo (c pos pins s1 σ f _ g j) λus s2 ⟨xs,k,l,m,n⟩=>⟨x::xs,k,l,.cons i m,n⟩
end
@[reducible]def Sp:=List V->Hp->VK->XK->Prop
@[reducible]def Oo:=List Env->Hp->d5->XK->dt->d5->Prop
structure Az(P:uv)(w:wq)(K:PySem.W.Frag)(mg:Str->Option dt)(base:DD)(A:M9)(outer:List Env)(s:d5)(H:Hp):Prop where
 frames:A.frames=a5 outer
 mod:Mod K mg base
 bs:∀b o,base.get? b=a5 o->s.heap.get? b=a5 o/\H b=b8
 Nr:base.objs.size<=s.heap.objs.size
 j4:s.heap.FunFrames base outer
 Of:∀b∈JW outer,H b=b8
 Jj:Kc P w H s.heap
 bare:SM s.gens
abbrev CE(outer:List Env)(P:uv)(w:wq)(H:Hp)(s:d5)(Q:VK)(u:dt)(s':d5):Prop :=
 ∃v H',s'.os=s.os/\SM s'.gens/\Un (JW outer) [] H H' s.heap s'.heap/\Kc P w H' s'.heap/\RelV v u/\Q v H'
abbrev CR(CX:Oo)(outer:List Env)(P:uv)(w:wq)(H:Hp)(s:d5)(Q:VK)(E:XK)(r:Result)(s':d5):Prop :=
 match r with
 |.ok (.ret u)=>CE outer P w H s Q u s'
 |.ok _=>False
 |.error e=>CX outer H s E e s'
structure iE(P:uv)(w:wq)(K:PySem.W.Frag)(mg:Str->Option dt)(base:DD)(CX:Oo)(k:Nat)(f:d7)(fd:So)(ps:List Str)(sp:Sp):Prop where
 len:∀vs H Q E,sp vs H Q E->vs.length=ps.length
 run:∀(A:M9) (outer:List Env) (s:d5) (H:Hp) (args:Args) (us:List dt) (vs:List V) (Q:VK) (E:XK),fw k A->Az P w K mg base A outer s H->Æ s fd args (ps.zip us)->Vals vs us->sp vs H Q E ->
  Qv (eh P w) A (.call (.ref f) args) (CR CX outer P w H s Q E) s
section
def Inv.Gf(I:Inv X pins σ H s):Az X.prog X.w X.K X.mg X.base X.A X.stack s H :=
 ⟨I.ok.frames,I.ok.mod,I.bs,vr I.ok.Nr I.sz,I.stack,I.kg,I.Jj,I.bare⟩
def Inv.after(I:Inv X pins σ H s)(h:CE X.stack X.prog X.w H s Q u s'):EP X pins σ Q u s':=by
 have⟨v,H',os,a,c,e,r,q⟩:=h;have⟨f,g,d,t,i⟩:=s';obtain rfl:i=s.os:=os;show⟨v,H',I.call (h':=f) (g':=g) (d':=d) (t':=t) (ch:=[]) c e a (λb z=>absurd z (by simp)),r,q⟩
end
abbrev Binds(K:PySem.W.Frag)(b:So)(ps:List Str)(a:List dt):Prop :=
 ∀(s:d5) (us:List dt),K.In s.heap->(us++a).length=ps.length->Æ s b ⟨us,[]⟩ (ps.zip (us++a))
def Binds.all{K:PySem.W.Frag}(h:∀us:List dt,us.length=ps.length->Ĳ a ⟨us,[]⟩=pure (ps.zip us)):Binds K a ps []:=λs us _ hl=>by
 rw[rr]at hl ⊢;show .of_eq (h us hl)
abbrev Passes(CX:Oo)(X:Cx)(E:XK):Prop:=∀(pins:List (d7×Obj)) (σ:St) (H:Hp) (s:d5) (e:dt) (s':d5),Inv X pins σ H s->CX X.stack H s E e s'->X.xe e s'
section
def xA(F:iE X.prog X.w X.K X.mg X.base CX k f g ps sp)(i:fw k X.A)(j:Binds X.K g ps a)(l:Vals b a)(m:Passes CX X E)
  (I:Inv X pins σ H s) (r:Vals vs us) (h:sp (vs++b) H Q E):d3 (eh X.prog X.w) X.A (NK (.ref f) us) (EP X pins σ Q) X.xe s:=by
 have d:Vals (vs++b) (us++a):=r.append l;have hl:(us++a).length=ps.length:=by rw[<-d.length];show F.len _ _ _ _ h
 show ï (R' (F.run X.A X.stack s H ⟨us,[]⟩ (us++a) (vs++b) Q E i I.Gf (j s us I.Mw hl) d h) λr s' c=>?_);cases r with
 |error e=>show m pins σ H s e s' I c
 |ok n =>
  cases n with
  |ret u=>show I.after c
  |_=>show ME c
end
section
end
structure eL(N P:List Str)(sc:LU):Prop where
 kind:sc.kind=.function
 co:sc.isCoroutine=cc
 gen:sc.isGenerator=cc
 nd:N.Nodup
 pre:N.take P.length=P
 par:∀x∈P,sc.names.lookup x=a5 .local\/sc.names.lookup x=a5 .cell
 Oq:∀y∈sc.names,y.2≠.free
theorem mQ{kindOf:Str->Option O3}:∀{a:List (Str×dt)}{m:Str->Option dt},(∀v,(x,v)∉a)->ZH kindOf a m x=m x
 |[],_,_=>rfl
 |(n,v)::r,m,h=>by
  unfold ZH;rw[mQ λw b=>h w (ko _ b)];split
  .have:x≠n:=by rintro rfl;show h v mu
   simp[this]
  .rfl
theorem mR{kindOf:Str->Option O3}:∀{a:List (Str×dt)}{m:Str->Option dt},(∀v,(x,v)∉a)->ZJ kindOf a m x=m x
 |[],_,_=>rfl
 |(n,v)::r,m,h=>by
  unfold ZJ;rw[mR λw b=>h w (ko _ b)];split
  .rfl
  .have:x≠n:=by rintro rfl;show h v mu
   simp[this]
theorem mS{kindOf:Str->Option O3}:∀{P:List Str}{vs:List dt}{i:Nat}{m:Str->Option dt},P.Nodup->P[i]?=a5 x->vs[i]?=a5 v->kindOf x=a5 .local ->
  ZH kindOf (P.zip vs) m x=a5 v
 |[],_,_,_,_,h,_,_=>by simp at h
 |_::_,[],_,_,_,_,h,_=>by simp at h
 |p::P,w::vs,0,m,c,a,b,hk=>by
  simp at a b;subst a;subst b;change ZH kindOf ((p,w)::P.zip vs) m p=_;unfold ZH;rw[mQ λv d=>(mh.mp c).1 (Qz d).1,Ł hk];simp
 |p::P,w::vs,i+1,m,c,a,b,hk=>by
  change ZH kindOf ((p,w)::P.zip vs) m x=_;unfold ZH;show mS (i:=i) (mh.mp c).2 (by simpa using a) (by simpa using b) hk
theorem mT{kindOf:Str->Option O3}:∀{P:List Str}{vs:List dt}{i:Nat}{m:Str->Option dt},P.Nodup->P[i]?=a5 x->vs[i]?=a5 v->kindOf x≠a5 .local ->
  ZJ kindOf (P.zip vs) m x=a5 v
 |[],_,_,_,_,h,_,_=>by simp at h
 |_::_,[],_,_,_,_,h,_=>by simp at h
 |p::P,w::vs,0,m,c,a,b,hk=>by
  simp at a b;subst a;subst b;change ZJ kindOf ((p,w)::P.zip vs) m p=_;unfold ZJ;rw[mR λv d=>(mh.mp c).1 (Qz d).1,ł hk];simp
 |p::P,w::vs,i+1,m,c,a,b,hk=>by
  change ZJ kindOf ((p,w)::P.zip vs) m x=_;unfold ZJ;show mT (i:=i) (mh.mp c).2 (by simpa using a) (by simpa using b) hk
abbrev start(N:List Str)(vs:List V):St:=vs.map a5++i2 (N.length - vs.length) b8
abbrev pS(CX:Oo)(P:uv)(w:wq)(K:PySem.W.Frag)(mg:Str->Option dt)(base:DD)(N:List Str)(a:Str)(scope:LU)(f:d7)(b:dt)(A:M9)(outer:List Env)(s:d5)(H:Hp)(E:XK):Cx where
 prog:=P
 w:=w
 K:=K
 mg:=mg
 base:=base
 A:=A.deeper (Ue a scope s.heap.objs.size f b)
 N:=N
 s₀:=s
 H₀:=H
 env:=Ue a scope s.heap.objs.size f b
 outer:=outer
 stack:=Ue a scope s.heap.objs.size f b::outer
 ex:=[]
 calm:=bD
 fn:=λ_=>bD
 pn:=[]
 xe:=λe s'=>d3 (eh P w) (A.deeper (Ue a scope s.heap.objs.size f b)) (leaving (Ue a scope s.heap.objs.size f b) e) (λ_ c=>CX outer H s E e c) (λd c=>CX outer H s E d c) s'
def pT{a:LU}(h:a.names.lookup x=a5 .cell):∃c,(ě n a.names []).lookup x=a5 c:=by
 have q:=PySem.W.cellsFrom_some a.names n [] (.inl h);show R3.mp q
def vI{K:PySem.W.Frag}
  (S:eL N ps scope) (G:A.handled=b8) (j:Az P w K mg base A outer s H) (hl:vs.length=ps.length) (r:Vals vs us)
  (x:InCallC s s.heap.objs.size (ZH (Ue g scope s.heap.objs.size f t).kindOf (ps.zip us) λ_=>b8) (ě (s.heap.objs.size+1) scope.names []) (ZJ (Ue g scope s.heap.objs.size f t).kindOf (ps.zip us) λ_=>b8) s1) :
  Inv (pS CX P w K mg base N g scope f t A outer s H E) [] (start N vs) H s1:=by
 have J:ps.length<=N.length:=by have:=ņ Km S.pre;rw[vl]at this;lia
 have⟨m,L,rfl,hk⟩:=x.done;have B:∀b:d7,b∉(pS CX P w K mg base N g scope f t A outer s H E).ex:=λb z=>absurd (show b∈([]:List d7) from z) (by simp);show⟨⟨j.mod,S.kind,rfl,rfl,hQ _,λy z c m d=>?_,λy hy=>?_,λy c _ h=>?_,λ_=>G,Around.frames_deeper j.frames,.inr ⟨rfl,rfl⟩,λb z=>absurd z (B b),j.bs,j.Nr,λb _ _=>B b,λb z=>absurd z (B b),j.j4,j.Of⟩,
  rfl,j.bare,Un.kept hk,⟨_,x.toInCall.ns,λi y v m d O=>?_⟩,λy c h=>⟨_,x.cell y c h⟩,j.Jj.fresh (hQ _),λy c h=>?_,λp l=>absurd (show p∈([]:List (d7×Obj)) from l) (by simp),j.Jj.kept hk,?_⟩
 .show name_of_addr x.apart (PySem.mem_of_lookup m) (PySem.mem_of_lookup d)
 .have hy:scope.names.lookup y=a5 .cell\/scope.names.lookup y=a5 .free:=hy;rcases hy with hy|hy
  .show pT hy
  .show absurd rfl (S.Oq _ (PySem.mem_of_lookup hy))
 .show Qi (x.above y c (PySem.mem_of_lookup h))
 .have o:i<vs.length:=by
   unfold start at d;by_cases o:i<vs.length
   .show o
   .rw[nc (by simpa using o)]at d;rw[JI]at d;split at d<;>cases d
  have I:vs[i]?=a5 v:=by
   unfold start at d;rw[t6 (by simpa using o),ki]at d;cases e:vs[i]? with
   |none=>rw[e]at d;cases d
   |some a=>rw[e]at d;cases d;rfl
  have⟨u,C,rv⟩:=r.get I;have l:ps[i]?=a5 y:=by
   rw[<-S.pre,X0 ⋯];show m
  have D:ps.Nodup:=by rw[<-S.pre];show S.nd.sublist (Ì _ _)
  show⟨u,rv,?_⟩;rcases S.par y (my l) with k|k
  .show .inl ⟨k,mS D l C k⟩
  .have⟨c,e⟩:=pT (n:=s.heap.objs.size+1) k;show .inr ⟨.inl k,c,e,?_⟩;have q:=x.cell y c e;rw[mT D l C (by change scope.names.lookup y≠_;rw[k];decide)]at q;show q
 .show j.Jj.fresh (Qi (x.above y c (PySem.mem_of_lookup h)))
 .unfold start;change _=N.length;rw[hY,df,Qr];lia
def CD{K:PySem.W.Frag}{z kV g B d ct G:dt}
 (lk:K.lookup f=a5 ⟨G,od,.func (PySem.W.fnOf name a c body scope z kV g B L d ct),Pc⟩) (O:PySem.W.codeIn K d a=bD) (S:eL N ps scope)
    (h:∀vs H Q E,sp vs H Q E->vs.length=ps.length)
    (T:∀(A:M9) (outer:List Env) (s:d5) (H:Hp) (vs:List V) (Q:VK) (E:XK),fw k (A.deeper (Ue a scope s.heap.objs.size f d))->sp vs H Q E ->
      ∃t,J6 (pS CX P w K mg base N a scope f d A outer s H E) body t/\t {nx:=λ_ H'=>Q .Jm H',rt:=Q} (start N vs) H) :
    iE P w K mg base CX (k+1) f (PySem.W.fnOf name a c body scope z kV g B L d ct) ps sp:=by
  show⟨h,λA outer s H args us vs Q E m i Y r C=>?_⟩;have hl:=h _ _ _ _ C;have D:K.In s.heap:=i.mod.Oe.keeps λb o e=>(i.bs b o e).1;have p:s.heap.NoLimit:=i.mod.nolimit.keeps λb o e=>(i.bs b o e).1;have PY:∀y∈ps.zip us,scope.names.lookup y.1=a5 .local\/(scope.names.lookup y.1=a5 .cell/\((ě (s.heap.objs.size+1) scope.names []).lookup y.1).isSome=bD):=λ⟨n,v⟩ hy=>by
    rcases S.par n (Qz hy).1 with q|q
    . show .inl q
    . show .inr ⟨q,PySem.W.cellsFrom_some _ _ _ (.inl q)⟩
  show codeAny_call_function m.depth (D _ _ lk) rfl S.co S.gen rfl (PySem.W.codeRec_of D O) (Y _ _ _ _ ?_);show wpAny_newFunctionEnv_cells S.kind PY λenv he s1 x=>?_;subst he;show⟨p.keeps x.toInCall.keep,codeAny_func ?_⟩;have⟨t,ht,hq⟩:=T A outer s H vs Q E (m.deeper _) C;have I:Inv (pS CX P w K mg base N a scope f d A outer s H E) [] (start N vs) H s1:=vI S m.hd i hl r x;show i9 (ht [] s1 (start N vs) H _ I hq) (λfl s' hs=>?_) λe s' hs=>hs;have j:∀{l:St} {H':Hp} {v:V} {u:dt},Inv (pS CX P w K mg base N a scope f d A outer s H E) [] l H' s'->RelV v u->Q v H'->CE outer P w H s Q u s' :=
    λ{l H' v u} J rv q=>⟨v,H',J.os,J.bare,J.base,J.Jj,rv,q⟩
  cases fl with
  | ret u =>
    have⟨v,l,H',J,rv,q⟩:=hs;show j J rv q
  | next =>
    have⟨l,H',J,q⟩:=hs;show j (v:=V.Jm) (u:=mN) J rfl q
  | brk =>
    obtain⟨_,_,_,q⟩:=hs;show ME q
  | cont =>
    obtain⟨_,_,_,q⟩:=hs;show ME q
section
end
end L2
namespace HT
open PySem PyProof.Rows
section
open PySem.SeqAt
open PySem.AutoSeq1 (wpAny_loadPart')
open PySem.MeetsSeq PySem.MeetsSeq2 PySem.MeetsSeq3
end
section
def AA(o:Ŀ s.heap t vs.toArray)(p:Ŀ s.heap b ws.toArray)(f:vs≠[])
  (q:ws=[]->Q (.ref t) s) (r:ws≠[]->Q (.ref s.heap.objs.size) {s with heap:=s.heap.push {cls:=.type "tuple",data:=.seq (vs++ws).toArray}})
  (hsz:vs.length+ws.length<=cL):d3 (eh prog w) A (OZ .Add (.ref t) (.ref b)) Q E s:=by
 obtain⟨⟨cls,dd,data,g⟩,ho,h,n,i⟩:=id o;obtain⟨⟨u,j,data2,k⟩,c,l,m,a⟩:=id p;simp only at h i l a;subst h i l a;have e:vs.toArray++ws.toArray=(vs++ws).toArray:=by simp
 by_cases d:ws=[]
 .show WC ⟨_,ho,rfl⟩ ⟨_,c,rfl⟩ Xx Zv PySem.F.slot_tuple_add PySem.F.entry_tuple_add (PySem.F.args_tuple_add_2 _ _)
   (tuple_addW1 t b vs.toArray ws.toArray n m dd j g k (by simpa using f) (by simp[d])) ⟨ho,c,q d⟩
 .show WC ⟨_,ho,rfl⟩ ⟨_,c,rfl⟩ Xx Zv PySem.F.slot_tuple_add PySem.F.entry_tuple_add (PySem.F.args_tuple_add_2 _ _)
   (tuple_addW2 t b vs.toArray ws.toArray n m dd j g k (by simpa using f) (by simpa using d) (by rw[et,et];show hsz)) ⟨ho,c,?_⟩
  rw[e];show r d
abbrev Lo(n d:Nat):Option Int->Nat
 |none=>d
 |some v=>if v<0 then(v+(n:Int)).toNat else min v.toNat n
end
end HT
namespace L2
open PySem PySem.Spec PyProof.Rows
@[reducible]def TO:=St->Hp->(Option Int->Hp->Prop)->Prop
abbrev PO(X:Cx)(e:Option lg)(t:TO):Prop :=
 ∀(pins:List (d7×Obj)) (s:d5) (σ:St) (H:Hp) (Q:Option Int->Hp->Prop),Inv X pins σ H s->t σ H Q ->
  d3 (eh X.prog X.w) X.A (evalPart e X.env) (λu s'=>∃o H',Inv X pins σ H' s'/\IsPart u o/\Q o H') X.xe s
abbrev AB:TO:=λ_ H Q=>Q b8 H
abbrev Gg(t:TE):TO:=λσ H Q=>t σ H λx a=>∃i,x=.int i/\Q (a5 i) a
section
variable{X:Cx}{e:lg}{te:TE}{lo hi:Option lg}{tl th:TO}{pos p2:Pos}
def AD:PO X b8 AB:=by
 intro pins s σ H Q I h;rw[evalPart_none];show c4 ⟨b8,H,I,.none,h⟩
def AE(h:PE X e te):PO X (a5 e) (Gg te):=by
 intro pins s σ H Q I a;rw[evalPart_some];show Jo (h pins s σ H _ I a) λu s1 b=>?_;have⟨x,c,d,f,g⟩:=b;have⟨i,rfl,q⟩:=g;have⟨t,rfl⟩:=f;show⟨a5 i,c,d,.int i t,q⟩
abbrev NR(X:Cx)(r:V->Option Int->Option Int->Hp->VK->Prop):Prop :=
 ∀(pins:List (d7×Obj)) (s:d5) (σ:St) (H:Hp) (x:V) (v a b:dt) (lo hi:Option Int) (c:d7) (Q:VK),Inv X pins σ H s->RelV x v->s.heap.IsSliceOf c a b .none->IsPart a lo->IsPart b hi->r x lo hi H Q ->
  ∃T id,QD (.type T) "__getitem__"=pure (a5 (.builtin id))/\s.TypeIs v T/\d3 (eh X.prog X.w) X.A (WA v (.ref c)) (EP X pins σ Q) X.xe s
def NR.or(h:NR X r)(h':NR X i):NR X (λx lo hi H Q=>r x lo hi H Q\/i x lo hi H Q):=by
 intro pins s σ H x v a b lo hi c Q I d hs f g q;rcases q with q|q
 .show h pins s σ H x v a b lo hi c Q I d hs f g q
 .show h' pins s σ H x v a b lo hi c Q I d hs f g q
abbrev WN(r:V->Option Int->Option Int->Hp->VK->Prop)(te:TE)(tl th:TO):TE:=λσ H Q=>te σ H λx a=>tl σ a λl b=>th σ b λu c=>r x l u c Q
def xB(f:NR X r)(g:PE X e te)(hl:PO X lo tl)(i:PO X hi th):PE X (.Subscript e (.Slice lo hi b8 p2) pos) (WN r te tl th):=by
 intro pins s σ H Q I h;show û (Jo (g pins s σ H _ I h) λv s1 j=>?_);have⟨x,k,m,n,o⟩:=j;show wpAny_Slice (Jo (hl pins s1 σ k _ m o) λa s2 ⟨l,p,t,y,z⟩=>Jo (i pins s2 σ p _ t z) λc s3 B=>?_);have⟨u,d,C,D,G⟩:=B;rw[evalPart_none];show c4 ?_;have J:Inv X pins σ d {s3 with heap:=s3.heap.push {cls:=.type "slice",data:=.fields #[a,c,.none]}}:=C.kept (t':=s3.toks) λb Y q=>c2 _ q;have⟨T,id,L,N,O⟩:=f pins {s3 with heap:=s3.heap.push {cls:=.type "slice",data:=.fields #[a,c,.none]}} σ d x v a c l u s3.heap.objs.size Q J n (Ď ..) y D G;change d3 (eh X.prog X.w) X.A (VI e (.Slice lo hi b8 p2) v (.ref s3.heap.objs.size)) (EP X pins σ Q) X.xe {s3 with heap:=s3.heap.push {cls:=.type "slice",data:=.fields #[a,c,.none]}};show tail_any (ops:=[.ref s3.heap.objs.size,v]) N L O (by with_unfolding_all rfl)
abbrev vJ(xs:List V)(lo hi:Option Int):List V:=(xs.drop (HT.Lo xs.length 0 lo)).take (HT.Lo xs.length xs.length hi - HT.Lo xs.length 0 lo)
def pU(xs:List V)(lo hi:Option Int):(vJ xs lo hi).length<=xs.length:=by
 unfold vJ;rw[vl,Sz];lia
abbrev Gh(K:PySem.W.Frag):R2:=λx y H Q=>∃a b xs c,x=.ref a/\y=.ref b/\JY K H a xs/\JY K H b c/\xs≠[]/\xs.length+c.length<=cL /\
 (c=[]->Q (.ref a) H)/\(c≠[]->∀p,H p=b8->Q (.ref p) (upd H p (.tup (xs++c))))
def Vals.oz(r:Vals xs us):us=[]↔xs=[]:=by
 cases r with
 |_=>simp
def AF:Lm X (OZ .Add) (Gh X.K):=by
 intro pins s σ H x y v u Q I f g h;have⟨a,b,xs,i,rfl,rfl,j,k,l,hz,m,n⟩:=h;cases f;cases g;obtain⟨r,d,p,_⟩:=I.tuple j;obtain⟨t,c,p2,_⟩:=I.tuple k;show HT.AA p p2 (λz=>l (d.oz.mp z)) (λz=>⟨.ref a,H,I,rfl,m (c.oz.mp z)⟩) (λz=>?_) (by rw[<-d.length,<-c.length];show hz);show⟨.ref s.heap.objs.size,_,I.laid (t':=s.toks) (o:=.tup (xs++i)) (λb A q=>c2 _ q) (hQ _) ?_,rfl,n (λw=>z (c.oz.mpr w)) _ (I.Jj.fresh (hQ _))⟩;show⟨by rw[hY];show hz,_,d.append c,É _ _⟩
end
abbrev MJ(n:Nat)(i:Int):Option Nat:=if 0<=i then(if i<n then a5 i.toNat else b8) else if -(n:Int)<=i then a5 (i+n).toNat else b8
abbrev J9{α:Type}(xs:List α)(i:Int):Option α:=(MJ xs.length i).bind λj=>xs[j]?
def tX{n:Nat}(h:MJ n i=a5 j):Xp i n=a5 j/\j<n/\-(n:Int)<=i/\i<n:=by
 unfold MJ at h;by_cases b:0<=i
 .rw[Ł b]at h;by_cases a:i<n
  .rw[Ł a]at h;have e:i.toNat=j:=sL h;show⟨by rw[Ù b a,e],⋯,⋯,a⟩
  .rw[ł a]at h;cases h
 .rw[ł b]at h;by_cases a:-(n:Int)<=i
  .rw[Ł a]at h;have e:(i+n).toNat=j:=sL h;show⟨by rw[seqIndex_neg ⋯ a,e],⋯,a,⋯⟩
  .rw[ł a]at h;cases h
def oA(h:J9 xs i=a5 v):∃j,Xp i xs.length=a5 j/\xs[j]?=a5 v/\j<xs.length/\-(xs.length:Int)<=i/\i<xs.length:=by
 unfold J9 at h;cases e:MJ xs.length i with
 |none=>rw[e]at h;cases h
 |some j =>
  rw[e]at h;have⟨a,b,c,d⟩:=tX e;show⟨j,a,h,b,c,d⟩
def iF{j:Nat}(h:xs[j]?=a5 v):J9 xs (j:Int)=a5 v:=by
 have a:j<xs.length:=(dV.mp h).1;have e:MJ xs.length (j:Int)=a5 j:=by
  unfold MJ;rw[Ł ⋯,Ł ⋯];simp
 unfold J9;rw[e];show h
abbrev oB(b:lg):Prop:=∀o i,XT b cc o i=operate [o,i] (WA o i)
abbrev SH(X:Cx)(r:R2):Prop :=
 ∀(b a:lg) (pins:List (d7×Obj)) (s:d5) (σ:St) (H:Hp) (x y:V) (v u:dt) (Q:VK),Inv X pins σ H s->RelV x v->RelV y u->r x y H Q ->
  XT a cc v u=operate [v,u] (WA v u)->d3 (eh X.prog X.w) X.A (VI b a v u) (EP X pins σ Q) X.xe s
abbrev SJ(X:Cx)(id:String)(r:V->List V->Hp->VK->Prop):Prop :=
 ∀(pins:List (d7×Obj)) (s:d5) (σ:St) (H:Hp) (x:V) (xs:List V) (v:dt) (us:List dt) (Q:VK),Inv X pins σ H s->RelV x v->Vals xs us->r x xs H Q ->
  d3 (eh X.prog X.w) X.A (NK (.builtin id) (v::us)) (EP X pins σ Q) X.xe s
section
abbrev IA(K:PySem.W.Frag):R2:=λx y H Q=>∃p xs i v,x=.ref p/\y=.int i/\JN K H p xs/\J9 xs i=a5 v/\Q v H
abbrev IB(K:PySem.W.Frag):R2:=λx y H Q=>∃p xs i v,x=.ref p/\y=.int i/\JY K H p xs/\J9 xs i=a5 v/\Q v H
abbrev IC:R2:=λx y H Q=>∃z i c,x=.str z/\y=.int i/\z.length<=cL/\J9 z.cps.toList i=a5 c/\Q (.str ⟨#[c]⟩) H
def AG:SH X (IA X.K):=by
 intro c d pins s σ H x y v u Q I m n h hs;have⟨p,xs,i,z,rfl,rfl,A,B,q⟩:=h;cases m;have⟨t,rfl⟩:=n;have⟨C,r,f,hz⟩:=I.list A;have⟨j,b,D,N,G,J⟩:=oA B;have⟨w,k,L⟩:=r.get D;have hl:=r.length;have O:=fR;have a:EP X pins σ Q w s:=⟨z,H,I,L,q⟩
 by_cases l:0<=i
 .have g:i.toNat=j:=by
   rw[Ù l J]at b;show sL b
  show item_listR f.isList l ⋯ (by rw[g];simpa using k) a hs
 .have g:(i+(C.toArray.size:Int)).toNat=j:=by
   rw[seqIndex_neg ⋯ G]at b;rw[et,<-hl];show sL b
  show Ç (x:=w) f.isList.typeIs ą.lookup
   (wpAny_getItem_list_neg (Q:=λr s'=>r=w/\EP X pins σ Q r s') f.isList ⋯ (by rw[et]<;>lia) ⋯ (by rw[g];simpa using k) ⟨rfl,a⟩) hs
def rL:SH X (IB X.K):=by
 intro a b pins s σ H x y v u Q I f g h hs;have⟨p,xs,i,z,rfl,rfl,k,l,q⟩:=h;cases f;have⟨t,rfl⟩:=g;have⟨C,r,d,hz⟩:=I.tuple k;have⟨j,m,n,D,G,J⟩:=oA l;have⟨w,A,B⟩:=r.get n;have hl:=r.length;have L:=fR;have c:EP X pins σ Q w s:=⟨z,H,I,B,q⟩
 show Ç (x:=w) d.typeIs slot_tuple_getitem.lookup
  (getItem_tuple (j:=j) (Q:=λr s'=>r=w/\EP X pins σ Q r s') d ⋯ ⋯ (by rw[et,<-hl];show m) (by simpa using A) ⟨rfl,c⟩) hs
def oC:SH X IC:=by
 intro a b pins s σ H x y v u Q I f g h hs;have⟨z,i,c,rfl,rfl,hz,k,q⟩:=h;have⟨t,rfl⟩:=f;have⟨t',rfl⟩:=g;have⟨j,d,l,A,m,n⟩:=oA k;have hl:z.cps.toList.length=z.length:=by simp[Ĺ]
 rw[hl]at d m n;have B:=fR;show tail_any (Yw s z t) ğ.lookup (getItem_str (c:=c) (by
  have p:cK (i < -(2 ^ 63:Int))=cc:=Ń ⋯;have w:cK (i >= 2 ^ 63)=cc:=Ń ⋯;rw[p,w,X_]) (by rw[d];simpa using l) ⟨.str ⟨#[c]⟩,H,I.tok _,⟨_,rfl⟩,q⟩) hs
def rM(a:List dt)(n j:Nat)(u:dt):nC (·.setIfInBounds j u) {cls:=.type "list",data:=.seq a.toArray n}={cls:=.type "list",data:=.seq (a.set j u).toArray n}:=by
 simp[nC]
def Inv.lst(I:Inv X pins σ H s)(h:H p=a5 (.lst xs)):
  ∃(a:List dt) (n:Nat),Vals xs a/\s.heap.get? p=a5 {cls:=.type "list",data:=.seq a.toArray n}/\xs.length<=cL:=by
 have⟨z,a,n,r,e⟩:=I.Jj p _ h;show⟨a,n,r,e,z⟩
def Inv.DF{a its':List dt}(I:Inv X pins σ H s)(h:H p=a5 (.lst xs))
  (ho:s.heap.get? p=a5 {cls:=.type "list",data:=.seq a.toArray n}) (c:f {cls:=.type "list",data:=.seq a.toArray n}={cls:=.type "list",data:=.seq its'.toArray d }) (r:Vals g its') (hz:g.length<=cL) (t:Nat) :
  Inv X pins σ (upd H p (.lst g)) {s with heap:=s.heap.update p f,toks:=t}:=by
 have e:(s.heap.update p f).get? p=a5 {cls:=.type "list",data:=.seq its'.toArray d }:=by
  rw[tr f ho (by rw[c]<;>rfl),c]
 show I.write (x:=p) (e:=p) (by rw[h];trivial) (.inl rfl) (λb u i q=>(MI _ _ (qs i)).trans q) ⟨_,e⟩ ?_;show⟨hz,its',d,r,e⟩
abbrev Gi:V->V->V->Hp->(Hp->Prop)->Prop:=λo i v H Q=>∃p xs k j,o=.ref p/\i=.int k/\H p=a5 (.lst xs)/\MJ xs.length k=a5 j/\Q (upd H p (.lst (xs.set j v)))
def set_list:ou X Gi:=by
 intro pins s σ H o i v y z u Q I m w rv h;have⟨p,xs,k,j,rfl,rfl,b,x,q⟩:=h;cases m;have⟨t,rfl⟩:=w;have⟨c,n,r,ho,hz⟩:=I.lst b;have⟨a,A,d,f⟩:=tX x;have hl:=r.length;have B:=fR;have g:Inv X pins σ (upd H p (.lst (xs.set j v))) {s with heap:=s.heap.update p (nC (·.setIfInBounds j u))} :=
  I.DF b ho (rM c n j u) (r.set rv j) (by rw[å];show hz) s.toks
 by_cases l:0<=k
 .have hk:k.toNat=j:=by
   rw[Ù l f]at a;show sL a
  show PySem.W.ki_setAt ho l ⋯ (by rw[et,<-hl];show f) (by rw[hk];show⟨_,g,q⟩)
 .have hk:(k+(c.toArray.size:Int)).toNat=j:=by
   rw[seqIndex_neg ⋯ d]at a;rw[et,<-hl];show sL a
  show PySem.W.ki_setBack ho ⋯ (by rw[et,<-hl];show d) ⋯ (by rw[hk];show⟨_,g,q⟩)
def oD(lo a:Option Int)(n:Nat):(Q0 lo a b8 n).1=((HT.Lo n 0 lo:Nat):Int)/\(Q0 lo a b8 n).2.1=((HT.Lo n n a:Nat):Int)/\(Q0 lo a b8 n).2.2=1:=by
 show⟨?_,?_,rfl⟩
 .cases lo with
  |none=>simp[Q0,HT.Lo]
  |some i =>
   simp only[Q0,HT.Lo,ZP,show(1:Int)>0 by decide,if_true];by_cases h:i<0
   .simp only[h,if_true]<;>lia
   .simp only[h,if_false]<;>lia
 .cases a with
  |none=>simp[Q0,HT.Lo]
  |some i =>
   simp only[Q0,HT.Lo,ZP,show(1:Int)>0 by decide,if_true];by_cases h:i<0
   .simp only[h,if_true]<;>lia
   .simp only[h,if_false]<;>lia
def mB(a:List dt)(lo b:Option Int):slicePick a.toArray lo b b8=((a.drop (HT.Lo a.length 0 lo)).take (HT.Lo a.length a.length b - HT.Lo a.length 0 lo)).toArray:=by
 have⟨c,d,f⟩:=oD lo b a.toArray.size;unfold slicePick;rw[c,d,f];simp only[sliceRange_one,pick_run,et]<;>rfl
abbrev Gj(K:PySem.W.Frag):V->Option Int->Option Int->Hp->VK->Prop:=λx lo b H Q=>∃a xs,x=.ref a/\JN K H a xs/\∀p,H p=b8->Q (.ref p) (upd H p (.lst (vJ xs lo b)))
def AH:NR X (Gj X.K):=by
 intro pins s σ H x v l m lo d n Q I g hs i j h;have⟨a,xs,rfl,k,q⟩:=h;cases g;have⟨p,r,f,hz⟩:=I.list k;have c:=r.length;show⟨"list",_,ą.lookup,f.isList.typeIs,?_⟩;show wpAny_getItem_list_slice f.isList hs i j .none (by simp) ?_ (by rw[et]<;>lia);rw[mB,<-c];show⟨.ref s.heap.objs.size,_,I.laid (t':=s.toks) (o:=.lst (vJ xs lo d)) (λb u q=>c2 _ q) (hQ _) ?_,rfl,q _ (I.Jj.fresh (hQ _))⟩;show⟨vr (pU xs lo d) hz,_,0,(r.drop (HT.Lo xs.length 0 lo)).take (HT.Lo xs.length xs.length d - HT.Lo xs.length 0 lo),eH _ rfl⟩
def iG:iD X (.builtin "len") (λxs H Q=>∃p b,xs=[.ref p]/\(JN X.K H p b\/JY X.K H p b)/\Q (.int b.length) H):=by
 intro pins s σ H xs us Q I r h;have⟨p,b,rfl,hq,q⟩:=h;have⟨u,rfl,f⟩:=vals1 r;cases f;have i:=fR;rcases hq with hq|hq
 .have⟨g,c,d,hz⟩:=I.list hq;have a:=c.length;show Calls.call_len_list d.isList (by simp only[et]<;>lia) ⟨.int b.length,H,I.tok _,⟨s.toks+1,by rw[et,a]⟩,q⟩
 .have⟨g,c,d,hz⟩:=I.tuple hq;have a:=c.length;show len_tuple d (by simp only[et]<;>lia) ⟨.int b.length,H,I.tok _,⟨s.toks+1,by rw[et,a]⟩,q⟩
def oE:iD X (.builtin "len") (λxs H Q=>∃z,xs=[.str z]/\z.length<=cL/\Q (.int z.length) H):=by
 intro pins s σ H xs us Q I r h;have⟨z,rfl,hz,q⟩:=h;have⟨u,rfl,t,rfl⟩:=vals1 r;have a:=fR;show len_str ⋯ ⟨.int z.length,H,I.tok _,⟨_,rfl⟩,q⟩
def iH:iD X (.type "list") (λxs H Q=>∃p c,xs=[.ref p]/\(JN X.K H p c\/JY X.K H p c)/\∀l,H l=b8->Q (.ref l) (upd H l (.lst c))):=by
 intro pins s σ H xs us Q I r h;have⟨p,c,rfl,hq,q⟩:=h;have⟨u,rfl,y⟩:=vals1 r;cases y;have g:∀(a:List dt),Vals c a->c.length<=cL->∀(h':DD) (d:Nat),(∀b x,s.heap.get? b=a5 x->h'.get? b=a5 x) ->
   h'.get? s.heap.objs.size=a5 {cls:=.type "list",dict:=b8,data:=.seq a.toArray d,slots:=#[]}->EP X pins σ Q (.ref s.heap.objs.size) {s with heap:=h' }:=λa f hz h' d i e =>
  ⟨.ref s.heap.objs.size,_,I.laid (t':=s.toks) i (hQ _) (show bW X.prog X.w _ h' _ (.lst c) from⟨hz,a,d,f,e⟩),rfl,q _ (I.Jj.fresh (hQ _))⟩
 rcases hq with hq|hq
 .have⟨a,f,k,hz⟩:=I.list hq;have j:=f.length;have⟨o,ho,m,n,v⟩:=k.isList;show call_list_seq p (.inl rfl) ho m v (λh' d i e=>g a f hz h' d i e) (by simp only[et]<;>lia)
 .have⟨a,f,k,hz⟩:=I.tuple hq;have j:=f.length;have⟨o,ho,m,n,v⟩:=k;show call_list_seq p (.inr rfl) ho m v (λh' d i e=>g a f hz h' d i e) (by simp only[et]<;>lia)
def gK:iD X (.type "tuple") (λxs H Q=>∃p a,xs=[.ref p]/\((JN X.K H p a/\∀l,H l=b8->Q (.ref l) (upd H l (.tup a)))\/(JY X.K H p a/\Q (.ref p) H))):=by
 intro pins s σ H xs us Q I r h;have⟨p,a,rfl,h⟩:=h;have⟨u,rfl,k⟩:=vals1 r;cases k;rcases h with⟨c,q⟩|⟨c,q⟩
 .have⟨d,f,g,hz⟩:=I.list c;have i:=f.length;show call_tuple_list g.isList (λh' m=>?_) (by simp only[et]<;>lia);have j:Inv X pins σ H {s with heap:=h' }:=I.kept (t':=s.toks) m;have n:Inv X pins σ (upd H h'.objs.size (.tup a)) {s with heap:=h'.push {cls:=.type "tuple",data:=.seq d.toArray}} :=
   j.laid (t':=s.toks) (λb o e=>c2 _ e) (hQ _) (show bW X.prog X.w _ _ _ (.tup a) from⟨hz,d,f,É _ _⟩)
  show⟨.ref h'.objs.size,_,n,rfl,q _ (j.Jj.fresh (hQ _))⟩
 .have⟨d,f,g,hz⟩:=I.tuple c;show call_tuple_same g ⟨.ref p,H,I,rfl,q⟩
abbrev Rj(K:PySem.W.Frag)(T:String)(x:V)(H:Hp):Prop:=match x with
 |.str _=>T="str"
 |.int _=>T="int"
 |.ref p=>(T="list"/\∃xs,JN K H p xs)\/(T="tuple"/\∃o,K.lookup p=a5 o/\o.cls=.type "tuple"/\o.dict=b8) \/
   (T="dict"/\((∃kvs,H p=a5 (.dK kvs))\/∃kvs,H p=a5 (.dT kvs)))\/(T="set"/\∃S n,H p=a5 (.set S n))
 |_=>False
def oF(I:Inv X pins σ H s)(r:RelV x v)(ty:Rj X.K T x H):
  s.TypeIs v T/\∀a,v=.ref a->∃f,s.heap.get? a=a5 f/\f.dict=b8:=by
 cases x with
 |str z =>
  have⟨t,rfl⟩:=r;cases(show T="str" from ty);show⟨Yw s z t,λ_ e=>nomatch e⟩
 |int i =>
  have⟨t,rfl⟩:=r;cases(show T="int" from ty);show⟨typeIs_int s i t,λ_ e=>nomatch e⟩
 |ref p =>
  cases r;rcases ty with⟨rfl,xs,h⟩|⟨rfl,o,hk,j,b⟩|⟨rfl,hk⟩|⟨rfl,S,n,hk⟩
  .obtain⟨k,_,g,_⟩:=I.list h;show⟨g.isList.typeIs,λa e=>?_⟩;cases e;obtain⟨o,n,e,c,b,_⟩:=g;show⟨o,e,b⟩
  .show⟨⟨o,I.Mw p o hk,j⟩,λa e=>?_⟩;cases e;show⟨o,I.Mw _ o hk,b⟩
  .have z:∃o,s.heap.get? p=a5 o/\o.ExactDict:=by
    rcases hk with⟨kvs,hk⟩|⟨kvs,hk⟩
    .obtain⟨_,_,_,_,o,_,_,e,ex,_⟩:=I.Jj p _ hk;show⟨o,e,ex⟩
    .obtain⟨_,_,_,_,o,_,_,e,ex,_⟩:=I.Jj p _ hk;show⟨o,e,ex⟩
   have⟨o,e,ex⟩:=z;show⟨⟨o,e,ex.1⟩,λa d=>?_⟩;cases d;show⟨o,e,ex.2.1⟩
  .obtain⟨o,_,_,_,e,ex,_⟩:=I.Jj p _ hk;show⟨⟨o,e,ex.1⟩,λa d=>?_⟩;cases d;show⟨o,e,ex.2.1⟩
 |_=>show ME ty
abbrev ID(K:PySem.W.Frag)(T:String)(r:V->List V->Hp->VK->Prop)(to:TE):TE:=λσ H Q=>to σ H λx a=>Rj K T x a/\r x [] a Q
abbrev WO(K:PySem.W.Frag)(T:String)(r:V->List V->Hp->VK->Prop)(to:TE)(t:TA):TE:=λσ H Q=>to σ H λx a=>Rj K T x a/\t σ a λxs b=>r x xs b Q
variable{o e:lg}{es:List lg}{to:TE}{t:TA}{name:Str}{apos G':Pos}{T id:String}{r:V->List V->Hp->VK->Prop}
def DG(c:PlainAttrs T)(slot:Slot T name id)(d:ZX (.builtin id)=pure (.type "method_descriptor"))(f:SJ X id r)(ho:PE X o to)
  (g:SO o name X.env (uk o X.env)=uk o X.env:=by rfl) (i:(apos.endLine==G'.line)=bD:=by rfl):PE X (.Call (.Attribute o name apos) [] [] G') (ID X.K T r to):=by
 intro pins s σ H Q I h;show ZF g i (Jo (ho pins s σ H _ I h) λv s1 j=>?_);have⟨x,k,a,b,ty,l⟩:=j;have⟨m,n⟩:=oF a b ty;show⟨T,id,c,slot,d,m,n,JS rfl (PySem.evalArgs_none (f pins s1 σ k x [] v [] Q a b .nil l))⟩
def kP(d:PlainAttrs T)(slot:Slot T name id)(f:ZX (.builtin id)=pure (.type "method_descriptor"))(g:SJ X id r)(ho:PE X o to)(i:PA X (e::es) t)
  (j:SO o name X.env (uk o X.env)=uk o X.env:=by rfl)
  (k:((x2 G' (gj (e::es) X.env)).all (λx=>!x.1)&&(P1 G' (Lj [] X.env)).all (λx=>x.1.isSome)
   && cK ((e::es).length+([]:List MF).length+(if ([]:List MF).isEmpty then 0 else 1)<30))=bD:=by rfl)
  (l:(apos.endLine==G'.line)=bD:=by rfl) (hs:gj (e::es) X.env=(cc,uk e X.env)::gj es X.env:=by rfl) (m:(x2 G' (gj es X.env)).any (·.1)=cc:=by rfl) :
  PE X (.Call (.Attribute o name apos) (e::es) [] G') (WO X.K T r to t):=by
 intro pins s σ H Q I h;show ZT j k l rfl (Jo (ho pins s σ H _ I h) λv s1 n=>?_);have⟨x,p,a,b,ty,q⟩:=n;have⟨u,w⟩:=oF a b ty;show⟨T,id,d,slot,f,u,w,?_⟩;have c:=i G' pins s1 σ p _ a q;rw[hs]at c ⊢;show JS (by change(cc||(x2 G' (gj es X.env)).any (·.1))=cc;rw[m]<;>rfl) (Lw ?_);show Jo c λus s2 ⟨vs,y,z,A,B⟩=>g pins s2 σ y x vs v us Q z b A B
end
abbrev Ot(X:Cx)(id:String)(r:V->List V->Hp->VK->Prop):Prop :=
 ∀(pins:List (d7×Obj)) (s:d5) (σ:St) (H:Hp) (x:V) (xs:List V) (v:dt) (us:List dt) (Q:VK),Inv X pins σ H s->RelV x v->Vals xs us->r x xs H Q ->
  d3 (eh X.prog X.w) X.A (NK (.builtin id) (v::us)) (EP X pins σ Q) X.xe s
theorem Vals.one:∀{x:V}{us:List dt},Vals [x] us->∃u,us=[u]/\RelV x u
 |_,_,.cons r .nil=>⟨_,rfl,r⟩
theorem Vals.zero:∀{us:List dt},Vals [] us->us=[]
 |_,.nil=>rfl
def Vals.dropLast(h:Vals xs us):Vals xs.dropLast us.dropLast:=by
 induction h with
 |nil=>show .nil
 |cons r t a =>
  cases t with
  |nil=>show .nil
  |cons q t'=>show .cons r a
theorem Vals.eraseIdx:∀{xs:List V}{us:List dt} (i:Nat),Vals xs us->Vals (xs.eraseIdx i) (us.eraseIdx i)
 |_,_,_,.nil=>.nil
 |_,_,0,.cons _ t=>t
 |_,_,i+1,.cons r t=>.cons r (Vals.eraseIdx i t)
def Vals.reverse(h:Vals xs us):Vals xs.reverse us.reverse:=by
 induction h with
 |nil=>show .nil
 |cons r t a=>rw[Sf,Sf];show Vals.append a (.cons r .nil)
def rN(l:List α):l.eraseIdx (l.length - 1)=l.dropLast:=by
 induction l with
 |nil=>rfl
 |cons a r c =>
  cases r with
  |nil=>rfl
  |cons b r =>
   have e:(a::b::r).length - 1=((b::r).length - 1)+1:=by
    have d:(a::b::r).length=r.length+2:=rfl;have f:(b::r).length=r.length+1:=rfl;lia
   rw[e,SE,c]
   all_goals rfl
theorem mU:∀(l:List α) (i:Nat),(l.eraseIdx i).length<=l.length
 |[],_=>hQ _
 |_::_,0=>MT _
 |_::r,i+1=>Nat.succ_le_succ (mU r i)
section
def Inv.kQ{a its':List dt}(I:Inv X pins σ H s)(c:H l=a5 (.lst xs))
  (e:s.heap.get? l=a5 {cls:=.type "list",data:=.seq a.toArray n}) (d:f a.toArray=its'.toArray) (g:Vals b its') (hz:b.length<=cL) :
  Inv X pins σ (upd H l (.lst b)) {s with heap:=s.heap.update l (nC f),toks:=t' }:=by
 have q:=PySem.IsL.update e f;rw[d]at q;show I.write (x:=l) (e:=l) (by rw[c];show trivial) (.inl rfl) (λj u h i=>(MI s.heap (nC f) (qs h)).trans i) ⟨_,q⟩ ?_;show⟨hz,its',_,g,q⟩
def Inv.IE(I:Inv X pins σ H s)(c:Vals a b)(hz:a.length<=cL):
  Inv X pins σ (upd H s.heap.objs.size (.lst a)) {s with heap:=s.heap.push {cls:=.type "list",data:=.seq b.toArray},toks:=t' } :=
 I.laid (λ_ _ q=>c2 _ q) (hQ _) ⟨hz,b,0,c,eH _ rfl⟩
def Inv.fresh(I:Inv X pins σ H s):H s.heap.objs.size=b8:=I.Jj.fresh (hQ _)
def Inv.rO(I:Inv X pins σ H s)(b:H l=a5 (.lst xs)):xs.length<=cL/\∃(a:List dt) (n:Nat),Vals xs a/\xs.length=a.length/\s.heap.get? l=a5 {cls:=.type "list",data:=.seq a.toArray n}:=by
 have⟨z,a,n,r,e⟩:=I.Jj l _ b;show⟨z,a,n,r,r.length,e⟩
def xC(h:n<=cL):K1 n=cc:=by
 unfold K1;show Ń ⋯
end
section
abbrev AI:V->List V->Hp->VK->Prop:=λx vs H Q=>∃l xs y,x=.ref l/\vs=[y]/\H l=a5 (.lst xs)/\xs.length<cL/\Q .Jm (upd H l (.lst (xs++[y])))
def mV:Ot X "list.append" AI:=by
 intro pins s σ H x vs v us Q I c rv h;have⟨l,xs,y,rfl,rfl,a,hz,q⟩:=h;cases c;have⟨u,rfl,d⟩:=rv.one;have⟨z,b,n,r,hl,e⟩:=I.rO a;show QG F.slot_list_append ⟨_,e,rfl⟩ F.entry_list_append (F.args_list_append_2 _ _) (PySem.list_append l b.toArray n u (by rw[et];lia)) ⟨e,?_⟩;show⟨.Jm,_,I.kQ (its':=b++[u]) a e (by simp) (r.append (.cons d .nil)) ?_,rfl,q⟩;rw[hY,Nz];lia
abbrev IF:V->List V->Hp->VK->Prop:=λx vs H Q=>∃l xs y,x=.ref l/\vs=[]/\H l=a5 (.lst xs)/\xs[xs.length - 1]?=a5 y/\Q y (upd H l (.lst xs.dropLast))
def DH:Ot X "list.pop" IF:=by
 intro pins s σ H x vs v us Q I c rv h;have⟨l,xs,y,rfl,rfl,b,d,q⟩:=h;cases c;have f:=rv.zero;subst f;have⟨z,a,n,r,hl,e⟩:=I.rO b;have⟨u,g,i⟩:=r.get d;have j:a.toArray[a.toArray.size - 1]?=a5 u:=by
  change a.toArray[a.length - 1]?=a5 u;rw[<-nM,<-hl];show g
 show QG ď ⟨_,e,rfl⟩ ù (F.args_list_pop_1 _) (MeetsSeq.list_pop_last l a.toArray n u j (by rw[et];lia)) ⟨e,?_⟩;show⟨y,_,I.kQ (its':=a.dropLast) b e ?_ r.dropLast ?_,i,q⟩
 .change a.toArray.eraseIdxIfInBounds (a.toArray.size - 1)=a.dropLast.toArray;rw[et,Vy,rN]
 .rw[List.length_dropLast];lia
abbrev DI:V->List V->Hp->VK->Prop:=λx vs H Q=>∃l xs i k y,x=.ref l/\vs=[.int i]/\H l=a5 (.lst xs)/\-(2 ^ 63)<=i/\i<2 ^ 63/\Xp i xs.length=a5 k/\xs[k]?=a5 y/\Q y (upd H l (.lst (xs.eraseIdx k)))
def xD:Ot X "list.pop" DI:=by
 intro pins s σ H x vs v us Q I c rv h;have⟨l,xs,i,k,y,rfl,rfl,b,d,f,hk,g,q⟩:=h;cases c;have⟨u,rfl,j⟩:=rv.one;have⟨t,rfl⟩:=j;have⟨z,a,n,r,hl,e⟩:=I.rO b;have⟨w,m,o⟩:=r.get g;show QG ď ⟨_,e,rfl⟩ ù (F.args_list_pop_2 _ _)
  (MeetsSeq.list_pop_at l a.toArray n i t k w (İ d f) (by rw[et,<-hl];show hk) (by rw[<-nM];show m) (by rw[et];lia)) ⟨e,?_⟩
 show⟨y,_,I.kQ (its':=a.eraseIdx k) b e ?_ (r.eraseIdx k) ?_,o,q⟩
 .change a.toArray.eraseIdxIfInBounds k=(a.eraseIdx k).toArray;rw[Vy]
 .have:=mU xs k;lia
end
section
set_option maxRecDepth 100000 in
end
section
end
end L2
namespace U_
open PySem PySem.W PySem.Calls PyProof.Rows
def j5:∀(ns:List Int) (vs:List dt),WellAll P h vs (ns.map ĥ)->Ê vs ns:=by
 intro ns;induction ns with
 |nil =>
  intro vs w;rw[J0]at w;cases w;show .nil
 |cons n ns c =>
  intro vs w;rw[ei]at w;cases w with
  |cons a b =>
   cases a;show .cons _ _ (c _ b)
def vK{l:OpenLaw}(i:l.most=a5 n)
  (f:l.row.toRowW.claim.pre args=bD) (j:WellAll P h vals args) :
  ∃a vs ns,vals=[kj a]/\args=[WData.list (ns.map ĥ)]/\h.get? a=a5 {cls:=.type "list",data:=.seq vs.toArray}/\Ê vs ns/\ns.length<=n:=by
 have k:WShape.hasAll [] args [.list .int]=bD:=(pre_splitW f).1;have g:l.pre.holds [] {args:=args}=bD:=(pre_splitW f).2;have⟨d,r,rfl,m,o⟩:=hasAllW_cons k;obtain rfl:=hasAllW_nil o;have⟨xs,rfl,p⟩:=hasW_list m;have⟨ns,rfl⟩:=items_int p;have b:ns.length<=n:=by
  unfold OpenLaw.pre at g;have c:(WTm.not (.lt (.lit (.int (n:Int))) (.len (.arg 0)))).holds [] {args:=[.list (ns.map .int)]}=bD:=by
   have c:=(holds_andW g).1;rw[i]at c;show c
  have e:=condW_of c (w_not (w_lt w_lit (w_len_list (w_arg rfl))));rw[df]at e;show Nat.le_of_not_lt λq=>?_;have s:(n:Int)<((ns.length:Nat):Int):=by lia
  first
   |(rw[ń s]at e;show absurd e (by decide))
   |(simp at e;lia)
 cases j with
 |cons t u =>
  cases u;cases t with
  |list ho v=>show⟨_,_,ns,rfl,rfl,ho,j5 ns _ v,b⟩
def vL(l:OpenLaw)(args:List WData):l.row.toRowW.claim.post args (.bool bD) args=bD :=
 postW_of (r:=l.row.toRowW) (X:=(bD==bD))
  (show Ĉ [] (.bool bD) .bool=bD by first|rfl|decide|simp[Ĉ,WShape.arms,WShape.armsAll])
  (show(WTm.eq .res (.lit (.bool bD))).value [] {args:=args,res:=a5 (.bool bD),after:=args}=a5 (.bool (bD==bD)) from w_eq_bool (w_res rfl) w_lit) rfl
def pV{l:OpenLaw}
  (p:l.most=a5 n) (s:d.params.defaults=[])
  (NK:∀(w:wq) (s₀ b:d5) (mg j:Str->Option dt) (fa:d7) (o:Obj) (k i c:dt) (a:d7) (vs:List dt) (ns:List Int),
   Ground q e [] t w s₀ mg j b.heap->u w b.heap ->
   b.heap.get? fa=a5 o->o.data=.func (docDef d.name d.params d.body d.scope k i c)->b.heap.CodeRec i d.name->mg d.name=a5 (.ref fa) ->
   b.heap.get? a=a5 {cls:=.type "list",data:=.seq vs.toArray}->Ê vs ns->ns.length<=n->b.gens=#[] ->
   Qv (eh l.prog w) TX (.call (.ref fa) ⟨[.ref a],[]⟩) (λr s'=>r=.ok (.ret (.bool bD))/\OldK b.heap s'.heap/\s'.os=b.os/\SM s'.gens) b) :
  WalkO q e t u l.row.toRowW d [] (λf vs=>PySem.call f vs):=by
 intro w s₀ b mg j G Y fa o k i c v kV ho x y m z A args vals as B O Q C T;obtain rfl:v=.none:=Dflts.none m s;obtain rfl:kV=.none:=Dflts.noKw m;have⟨a,vs,ns,rfl,rfl,D,g,h⟩:=vK p B C;show enter_call (R' (NK w s₀ b mg j fa o k i c a vs ns G Y ho (fd_plain x) y z D g h A) λr s' H=>?_);have⟨rfl,I,J,L⟩:=H;show⟨.inl ⟨.bool bD,.bool bD,[],rfl,λ_=>rfl,.bool bD,vL l _,λ_=>⟨Ģ,λ_ N=>(nomatch N)⟩⟩,I,J,L⟩
section
end
end U_
namespace L2
open PySem PySem.Spec PyProof.Rows
theorem mW:∀{vs:List dt}{ns:List Int},Ê vs ns->Vals (ns.map V.int) vs
 |_,_,.nil=>.nil
 |_,_,.cons n t h=>.cons ⟨t,rfl⟩ (mW h)
abbrev DJ(H:Hp):Prop:=∀b,H b=b8\/∃o xs,H b=a5 (.K9 o (.lst xs))
def xE{K:PySem.W.Frag}
  (y:K.In c.heap) (A:c.heap.Ns i3 mg) (f:c.heap.Ns ó B) (O:∀x:Str,x≠"__name__"->B x=tA x) (Q:c.heap.NoLimit) (T:c.gens=#[])
  (l:c.heap.get? a=a5 {cls:=.type "list",data:=.seq vs.toArray}) (C:Ê vs ns) (hl:ns.length<=cL) (Y:fw k TX)
  (F:∀base:DD,K.In base->base.Ns i3 mg->iE P w K mg base CX k fa fd [x] sp) (P4:∀(s:d5) (u:dt),Æ s fd ⟨[u],[]⟩ [(x,u)])
  (KI:∀H:Hp,DJ H->JN K H a (ns.map V.int)->sp [.ref a] H (λv _=>v=.bl bD) λ_ _ _=>False)
  (SR:∀H e s',CX [] H c (λ_ _ _=>False) e s'->False) :
  Qv (eh P w) TX (.call (.ref fa) ⟨[.ref a],[]⟩) (λr s'=>r=.ok (.ret (.bool bD))/\OldK c.heap s'.heap/\s'.os=c.os/\SM s'.gens) c:=by
 have rv:=mW C;have SS:=C.length;have g:∀H:Hp,DJ H->JN K H a (ns.map V.int)->Kc P w H c.heap->(∀b,H b≠b8->b=a)->(H a≠b8->K.lookup a=b8) ->
   Qv (eh P w) TX (.call (.ref fa) ⟨[.ref a],[]⟩) (λr s'=>r=.ok (.ret (.bool bD))/\OldK c.heap s'.heap/\s'.os=c.os/\SM s'.gens) c:=by
  intro H D hS G I hK;have kC:∀{b:d7} {o:Obj},c.heap.get? b=a5 o->H b=b8->(ot c.heap H).get? b=a5 o:=λe n=>xg e n;have PX:∀{b:d7} {o:Obj} {es:Array DictEntry} {ep:Nat},c.heap.get? b=a5 o->o.data=.dict es ep->H b=b8:=λ{b o es ep} e d=>by
   cases q:H b with
   |none=>rfl
   |some u =>
    have t:b=a:=I b (by rw[q];simp);subst t;rw[l]at e;cases e;have d':Data.seq vs.toArray _=Data.dict es ep:=d;cases d'
  have p:∀{b:d7} {m:Str->Option dt},c.heap.Ns b m->(ot c.heap H).Ns b m:=λ{b m} ⟨o,es,ep,e,d,r⟩=>⟨o,es,ep,kC e (PX e d),d,r⟩
  have J:K.In (ot c.heap H):=λb o e=>kC (y b o e) (by
   cases q:H b with
   |none=>rfl
   |some u =>
    have t:b=a:=I b (by rw[q];simp);subst t;rw[hK (by rw[q];simp)]at e;cases e)
  have hM:Mod K mg (ot c.heap H):=⟨J,p A,⟨B,p f,O⟩,let ⟨mc,h1,h2⟩:=Q;⟨mc,p h1,h2⟩⟩
  have e0:Az P w K mg (ot c.heap H) TX [] c H:=⟨rfl,hM,λb o e=>Aq e,Za (vE _ _),trivial,λb f=>absurd (show b∈([]:List d7) from f) (by simp),G,.of_eq T⟩
  show R' ((F _ J (p A)).run TX [] c H ⟨[.ref a],[]⟩ [.ref a] [.ref a] _ _ Y e0 (P4 c (.ref a)) (.cons rfl .nil) (KI H D hS)) λr s' h=>?_;cases r with
  |error e=>show(SR H e s' h).elim
  |ok fl =>
   cases fl with
   |ret u =>
    have⟨v,H',os,i,L,SU,r',q⟩:=h;have q':v=.bl bD:=q;subst q';obtain rfl:u=Oi bD:=r';show⟨rfl,OldK.of_keep λb o e=>?_,os,i⟩;cases q:H b with
    |none=>show L.keep b o e q (by intro z;show absurd (show b∈([]:List d7) from z) (by simp)) (by simp)
    |some u =>
     rcases D b with z|⟨ob,xs,z⟩
     .rw[q]at z;cases z
     .have z2:=L.J' b ob _ z;obtain⟨N,_⟩:=G b _ z;obtain⟨e2,_⟩:=SU b _ z2;rw[e]at N;cases N;show e2
   |_=>show ME h
 cases hk:K.lookup a with
 |some o =>
  have e:=y a o hk;rw[l]at e;cases e;show g (λ_=>b8) (λ_=>.inl rfl) (.inr ⟨_,vs.toArray,_,hk,rfl,rfl,rfl,by rw[et,SS];show hl,by simpa using rv⟩) (λb u z=>by have j:(b8:Option HO)=a5 u:=z;cases j) (λb z=>absurd rfl z) λz=>absurd rfl z
 |none =>
  show g (λb=>if b=a then a5 (.K9 {cls:=.type "list",data:=.seq vs.toArray} (.lst (ns.map V.int))) else b8) (λb=>?_) (.inl (.inr ⟨{cls:=.type "list",data:=.seq vs.toArray},Ł rfl⟩)) (λb u z=>?_) (λb z=>?_) λ_=>hk
  .by_cases f:b=a
   .show .inr ⟨_,_,Ł f⟩
   .show .inl (ł f)
  .by_cases f:b=a
   .have j:=(Ł f).symm.trans z;cases j;subst f;show⟨l,by rw[df];show hl,vs,_,rv,l⟩
   .have j:=(ł f).symm.trans z;cases j
  .by_cases f:b=a
   .show f
   .show absurd (ł f) z
def AJ{l:PySem.W.OpenLaw}{K:Va->PySem.W.Frag}{CX:wq->Oo}{sp:wq->Sp}
  (r:l.most=a5 n) (t:n<=cL) (y:d.params.defaults=[]) (z:fw k TX)
  (A:∀(w:wq) (h:DD),B w h->(K w.params).In h)
  (F:∀(w:wq) (mg:Str->Option dt) (fa:d7) (h:DD),(K w.params).In h->h.Ns i3 mg->mg d.name=a5 (.ref fa) ->
   ∃j:So,(∀(s:d5) (u:dt),Æ s j ⟨[u],[]⟩ [(x,u)]) /\
    ∀base:DD,(K w.params).In base->base.Ns i3 mg->iE l.prog w (K w.params) mg base (CX w) k fa j [x] (sp w))
  (C:∀(w:wq) (H:Hp) (a:d7) (ns:List Int),ns.length<=n->DJ H->JN (K w.params) H a (ns.map V.int)->sp w [.ref a] H (λv _=>v=.bl bD) λ_ _ _=>False)
  (D:∀(w:wq) (H:Hp) (s:d5) (e:dt) (s':d5),CX w [] H s (λ_ _ _=>False) e s'->False) :
  PySem.W.WalkO q m XP B l.row.toRowW d [] (λf vs=>PySem.call f vs):=by
 show U_.pV r y λw s₀ I mg mb fa o pm cd J a vs ns G Y ho hd JM L N i c O=>?_;have p:=A w _ Y;have⟨j,Q,hF⟩:=F w mg fa _ p G.T.g L;show xE p G.T.g G.T.b G.T.builtins G.T.nolimit O N i (vr c t) z hF Q (λH hO hS=>C w H a ns c hO hS) λH e s'=>D w H I e s'
abbrev gq(s:L5):Arguments:=match s with
 |.FunctionDef _ a _ _ _ _ _ _ _ _=>a
 |_=>{posonlyargs:=[],args:=[],vararg:=b8,kwonlyargs:=[],kw_defaults:=[],kwarg:=b8,defaults:=[]}
abbrev c_(s:L5):List L5:=match s with
 |.FunctionDef _ _ b _ _ _ _ _ _ _=>b
 |_=>[]
abbrev aV(s:L5):LU:=match s with
 |.FunctionDef _ _ _ _ _ _ a _ _ _=>a
 |_=>{kind:=.function,names:=[],isGenerator:=cc,isCoroutine:=cc}
@[reducible]def Ow:Oo:=λ_ _ _ _ _ _=>False
@[reducible]def E0:XK:=λ_ _ _=>False
def Gk:Passes Ow X E0:=λ_ _ _ _ _ _ _ h=>h.elim
structure NU(K:PySem.W.Frag)(x qual:Str)(st:L5)(f:d7)(fd:So):Prop where
 ex:∃(oc:dt) (od:Option d7) (kV doc pm:dt) (an:Option d7) (Ko ct:dt) (Pc:Array (Option dt)),
  fd=PySem.W.fnOf x qual (gq st) (c_ st) (aV st) .none kV doc pm an Ko ct/\K.lookup f=a5 ⟨oc,od,.func fd,Pc⟩/\PySem.W.codeIn K Ko qual=bD
 kp:PySem.W.keepIn K (.ref f)=bD
section
variable{P:uv}{w:wq}{K:PySem.W.Frag}{mg:Str->Option dt}{base:DD}
def NU.ok{st:L5}(F:NU K x a st f d)(S:eL N ps (aV st))(c:∀vs H Q E,sp vs H Q E->vs.length=ps.length)
  (e:∀(b:dt) (A:M9) (outer:List Env) (s:d5) (H:Hp) (vs:List V) (Q:VK) (E:XK),fw k (A.deeper (Ue a (aV st) s.heap.objs.size f b))->sp vs H Q E ->
   ∃t,J6 (pS Ow P w K mg base N a (aV st) f b A outer s H E).Ll (c_ st) t/\t {nx:=λ_ H'=>Q .Jm H',rt:=Q} (start N vs) H):iE P w K mg base Ow (k+1) f d ps sp:=by
 have⟨m,n,kV,g,o,p,b,ct,r,rfl,lk,i⟩:=F.ex;show CD lk i S c λA outer s H vs Q E j l=>?_;have⟨t,h,q⟩:=e b A outer s H vs Q E j l;show⟨t,h.Ll,q⟩
def DK{st:L5}{kV b e d ct:dt}(l:K.lookup f=a5 ⟨h,i,.func (PySem.W.fnOf x a (gq st) (c_ st) (aV st) .none kV b e g d ct),j⟩)
  (c:PySem.W.codeIn K d a=bD) (k:PySem.W.keepIn K (.ref f)=bD):NU K x a st f (PySem.W.fnOf x a (gq st) (c_ st) (aV st) .none kV b e g d ct):=⟨⟨h,i,kV,b,e,g,d,ct,j,rfl,l,c⟩,k⟩
end
section
end
abbrev oG(H H':Hp):Prop:=∀b o,H b=a5 o->H' b=a5 o
section
variable{κ:Type}[DecidableEq κ]
abbrev dO(kvs:List (κ×V))(k:κ):Option V:=(kvs.find? λkv=>cK (kv.1=k)).map (·.2)
abbrev putK(kvs:List (κ×V))(k:κ)(v:V):List (κ×V) :=
 if (kvs.any λkv=>cK (kv.1=k))=bD then kvs.map (λkv=>if kv.1=k then(kv.1,v) else kv) else kvs++[(k,v)]
def eW{p:κ×V}{k:κ}(e:p.1=k):dO (p::r) k=a5 p.2:=by simp[dO,Na,e]
def eX{p:κ×V}{k:κ}(e:¬p.1=k):dO (p::r) k=dO r k:=by simp[dO,Na,e]
theorem iI(k:κ):∀kvs:List (κ×V),(kvs.any λkv=>cK (kv.1=k))=(dO kvs k).isSome
 |[]=>rfl
 |p::r=>by
  rw[UK];by_cases e:p.1=k
  .simp only[eW e,ń e,Bool.true_or,Option.isSome_some]
  .rw[eX e,Ń e,Bool.false_or];show iI k r
def jK(kvs:List (κ×V))(k:κ)(v:V):(putK kvs k v).length<=kvs.length+1:=by
 unfold putK;split
 .rw[df];lia
 .rw[hY,i6,V3];lia
def xF{k:κ}(v:V)(h:dO kvs k=b8):putK kvs k v=kvs++[(k,v)]:=by
 unfold putK;rw[iI,h];show ł (by decide)
def j3.eY(r:j3 o u):o.isSome=u.isSome:=by
 cases o with
 |none=>cases u with
  |none=>rfl
  |some _=>show(show False from r).elim
 |some _=>cases u with
  |none=>show(show False from r).elim
  |some _=>rfl
def j3.getD(r:j3 o u)(a:RelV d d'):RelV (o.getD d) (u.getD d'):=by
 cases o with
 |none=>cases u with
  |none=>show a
  |some _=>show(show False from r).elim
 |some _=>cases u with
  |none=>show(show False from r).elim
  |some _=>show r
def KV.val(r:KV kvs vs)(k:κ):j3 (dO kvs k) (Wn vs k):=by
 unfold KV at r;induction r with
 |nil=>show WR
 |@cons p q ps a h t f =>
  have⟨d,g⟩:=h;by_cases e:p.1=k
  .have c:q.1=k:=d.symm.trans e;have b:Wn (q::a) k=a5 q.2:=by simp[Wn,Na,c]
   rw[eW e,b];show g
  .have c:¬q.1=k:=λz=>e (d.trans z);have b:Wn (q::a) k=Wn a k:=by simp[Wn,Na,c]
   rw[eX e,b];show f
def KV.any(r:KV kvs vs)(k:κ):(kvs.any λkv=>cK (kv.1=k))=vs.any λkv=>cK (kv.1=k):=by
 unfold KV at r;induction r with
 |nil=>rfl
 |cons h t a=>rw[UK,UK,a,h.1]
def KV.DL(r:KV kvs vs)(k:κ)(b:RelV y u):
  KV (kvs.map λkv=>if kv.1=k then(kv.1,y) else kv) (vs.map λkv=>if kv.1=k then(kv.1,u) else kv):=by
 unfold KV at r ⊢;induction r with
 |nil=>show .nil
 |@cons p q ps f h t c =>
  rw[ei,ei];show .cons ?_ c;have⟨a,d⟩:=h;by_cases e:p.1=k
  .rw[Ł e,Ł (a.symm.trans e)];show⟨a,b⟩
  .rw[ł e,ł (λz=>e (a.trans z))];show⟨a,d⟩
def KV.put(r:KV kvs vs)(k:κ)(a:RelV y u):KV (putK kvs k y) (stored vs k u):=by
 unfold putK stored;rw[r.any k];by_cases e:(vs.any λkv=>cK (kv.1=k))=bD
 .rw[Ł e,Ł e];show r.DL k a
 .rw[ł e,ł e];show Paired.snoc r ⟨rfl,a⟩
def KV.length(r:KV kvs vs):kvs.length=vs.length:=Paired.length r
end
def mX(r:RelV (kV k) u):(bj P w).is k u=bD:=by
 cases k with
 |inl i=>have⟨t,e⟩:=(show ∃t,u=À i t from r);subst e;show pO P w i t
 |inr x=>have⟨t,e⟩:=(show ∃t,u=tv x t from r);subst e;show pP P w x t
theorem mY:∀{ks:List Key}{us:List dt},Vals (ks.map kV) us->ItemsAre (bj P w) ks us
 |[],_,r=>by rw[J0]at r;cases r;show .nil
 |k::ks,_,r=>by
  rw[ei]at r;cases r with
  |cons h t=>show .cons (mX h) (mY t)
@[reducible]def KT(H:Hp):List (List Key×V)->List (List Key×d7×dt)->Prop:=Paired λp q=>p.1=q.1/\H q.2.1=a5 (.tup (p.1.map kV))/\RelV p.2 q.2.2
def KT.val(r:KT H kvs xs)(k:List Key):j3 (dO kvs k) ((Y1 xs k).map (·.2)):=by
 induction r with
 |nil=>show WR
 |@cons p q ps a h t f =>
  obtain⟨d,_,g⟩:=h;by_cases e:p.1=k
  .have c:q.1=k:=d.symm.trans e;have b:Y1 (q::a) k=a5 q.2:=by simp[Y1,Na,c]
   rw[eW e,b];show g
  .have c:¬q.1=k:=λz=>e (d.trans z);have b:Y1 (q::a) k=Y1 a k:=by simp[Y1,Na,c]
   rw[eX e,b];show f
def KT.DL(r:KT H kvs xs)(k:List Key)(c:RelV y u):
  KT H (kvs.map λkv=>if kv.1=k then(kv.1,y) else kv) (xs.map (putAt k u)):=by
 induction r with
 |nil=>show .nil
 |@cons p q ps g h t d =>
  rw[ei,ei];show .cons ?_ d;have⟨a,b,f⟩:=h;unfold putAt;by_cases e:p.1=k
  .rw[Ł e,Ł (a.symm.trans e)];show⟨a,b,c⟩
  .rw[ł e,ł (λz=>e (a.trans z))];show⟨a,b,f⟩
def KT.put(r:KT H kvs xs)(k:List Key)(c:H b=a5 (.tup (k.map kV)))(a:RelV y u):
  KT H (putK kvs k y) (storedH xs k b u):=by
 have e:(kvs.any λkv=>cK (kv.1=k))=(Y1 xs k).isSome:=by
  rw[iI,(r.val k).eY,UX]
 unfold putK storedH;rw[e];by_cases q:(Y1 xs k).isSome=bD
 .rw[Ł q,Ł q];show r.DL k a
 .rw[ł q,ł q];show Paired.snoc r ⟨rfl,c,a⟩
def KT.keeps(r:KT H kvs xs)(c:∀b a,H b=a5 (.tup a)->H' b=a5 (.tup a)):KT H' kvs xs :=
 Paired.Dh r λ_ _ z=>⟨z.1,c _ _ z.2.1,z.2.2⟩
section
def CF(b:Kc P w H h)(e:Rd H a u):bW P w H h a u:=e.ok b
def kR(b:Kc P w H h)(e:Rd H a (.dK kvs)):kvs.length<=cL/\(a==NI)=cc/\∃vs,KV kvs vs/\h.DictOf (bj P w) a vs :=
 show bW P w H h a (.dK kvs) from CF b e
def xG(b:Kc P w H h)(e:H a=a5 (.dK kvs)):kvs.length<=cL/\(a==NI)=cc/\∃vs,KV kvs vs/\h.DictOf (bj P w) a vs:=kR b (.inl e)
def jo(b:Kc P w H h)(e:H a=a5 (.tup (ks.map kV))):(Vp (bj P w)).is h ks a:=by
 obtain⟨_,c,r,o,d,f,n,g⟩:=(show bW P w H h a (.tup (ks.map kV)) from b a _ e)
 show⟨o,c.toArray,n,d,f,g,by simpa using mY r⟩
def kS(b:Kc P w H h)(e:Rd H a (.dT kvs)):kvs.length<=cL/\(a==NI)=cc /\
  ∃xs,KT H kvs xs/\h.DictOfH (Vp (bj P w)) a xs:=by
 have⟨z,y,xs,r,o,es,ep,d,f,g,i,j⟩:=(show bW P w H h a (.dT kvs) from CF b e)
 show⟨z,y,xs,r,o,es,ep,d,f,g,i,λx hx=>?_,j⟩;have all:∀{l:List (List Key×V)} {m:List (List Key×d7×dt)},KT H l m->∀x∈m,(Vp (bj P w)).is h x.1 x.2.1:=by
  intro l m q;induction q with
  |nil=>intro x hx;show nomatch hx
  |@cons p q ps n c t k =>
   intro x hx;rcases d4.mp hx with e|hx
   .subst e;show jo b (by rw[<-c.1];show c.2.1)
   .show k x hx
 show all r x hx
def Gm(b:Kc P w H h)(e:H a=a5 (.dT kvs)):kvs.length<=cL/\(a==NI)=cc /\
  ∃xs,KT H kvs xs/\h.DictOfH (Vp (bj P w)) a xs:=kS b (.inl e)
end
abbrev fy(H:Hp)(a:d7)(y:V)(r:Option V):Prop :=
 (∃kvs k,Rd H a (.dK kvs)/\y=kV k/\r=dO kvs k)\/∃kvs k b,Rd H a (.dT kvs)/\y=.ref b/\H b=a5 (.tup (k.map kV))/\r=dO kvs k
abbrev vM(H:Hp)(a:d7)(y v:V)(H':Hp):Prop :=
 (∃kvs k,H a=a5 (.dK kvs)/\y=kV k/\kvs.length<cL/\H'=upd H a (.dK (putK kvs k v))) \/
 ∃kvs k b,H a=a5 (.dT kvs)/\y=.ref b/\H b=a5 (.tup (k.map kV))/\kvs.length<cL/\H'=upd H a (.dT (putK kvs k v))
def fy.k{H:Hp}{a:d7}{kvs:List (Key×V)}{k:Key}(e:H a=a5 (.dK kvs)):fy H a (kV k) (dO kvs k):=.inl ⟨kvs,k,.inl e,rfl,rfl⟩
def vM.k{H:Hp}{a:d7}{kvs:List (Key×V)}{k:Key}{v:V}(e:H a=a5 (.dK kvs))(hl:kvs.length<cL):vM H a (kV k) v (upd H a (.dK (putK kvs k v))):=.inl ⟨kvs,k,e,rfl,hl,rfl⟩
section
def Inv.big(I:Inv X pins σ H s):NI<s.heap.objs.size:=by
 have h:i3<s.heap.objs.size:=(I.mod.glob.keeps I.bk).lt;show Vx (by decide) h
def vN(n:A.units+1<KX)(I:Inv X pins σ H s)(g:fy H a y (a5 v))(m:RelV y u)(h:∀d s',Inv X pins σ H s'->RelV v d->Q d s'):
  d3 (eh X.prog X.w) A (WA (.ref a) u) Q E s:=by
 rcases g with⟨kvs,k,e,f,l⟩|⟨kvs,k,b,e,f,q,l⟩
 .subst f;have⟨z,r,vs,c,dd⟩:=kR I.Jj e;have⟨d,i,j⟩:=j3.some_of (v:=v) (o:=Wn vs k) (by rw[l];show c.val k);show wpAny_getItem_of (mX m) dd.mapOf i (h d _ (I.tok _) j)
 .subst f;cases(show u=kj b from m);have⟨z,r,xs,c,dd⟩:=kS I.Jj e;have⟨d,i,j⟩:=j3.some_of (v:=v) (o:=(Y1 xs k).map (·.2)) (by rw[l];show c.val k);have⟨p,t,x⟩:=ez.mp i;show wpAny_getItem_heap (P' n) (jo I.Jj q) dd t ?_;rw[x];show h d _ (I.tok _) j
def Gn(j:A.units+1<KX)(I:Inv X pins σ H s)(g:fy H a y o)(i:RelV y u)(h:∀s',Inv X pins σ H s'->Q (.bool o.isSome) s'):
  d3 (eh X.prog X.w) A (O7 .In u (.ref a)) Q E s:=by
 rcases g with⟨kvs,k,e,d,l⟩|⟨kvs,k,b,e,d,m,l⟩
 .subst d;have⟨z,f,vs,c,dd⟩:=kR I.Jj e;show wpAny_in_of (mX i) f dd.mapOf ?_;rw[<-(c.val k).eY,<-l];show h _ (I.tok _)
 .subst d;cases(show u=kj b from i);have⟨z,f,xs,c,dd⟩:=kS I.Jj e;show wpAny_in_heap (P' j) (jo I.Jj m) f dd ?_;have q:=(c.val k).eY;rw[UX]at q;rw[<-q,<-l];show h _ (I.tok _)
def tY(j:A.units+1<KX)(I:Inv X pins σ H s)(g:fy H a y o)(i:RelV y u)(h:∀s',Inv X pins σ H s'->Q (.bool (!o.isSome)) s'):
  d3 (eh X.prog X.w) A (O7 .NotIn u (.ref a)) Q E s:=by
 rcases g with⟨kvs,k,e,d,l⟩|⟨kvs,k,b,e,d,m,l⟩
 .subst d;have⟨z,f,vs,c,dd⟩:=kR I.Jj e;show wpAny_notIn_of (mX i) f dd.mapOf ?_;rw[<-(c.val k).eY,<-l];show h _ (I.tok _)
 .subst d;cases(show u=kj b from i);have⟨z,f,xs,c,dd⟩:=kS I.Jj e;show wpAny_notIn_heap (P' j) (jo I.Jj m) f dd ?_;have q:=(c.val k).eY;rw[UX]at q;rw[<-q,<-l];show h _ (I.tok _)
def tZ(I:Inv X pins σ H s)(d:PJ (H a))(hs:mA a s.heap h')(f:∃q,h'.get? a=a5 q)(new:bW X.prog X.w (upd H a c) h' a c):
  Inv X pins σ (upd H a c) {s with heap:=h',toks:=t' } :=
 I.write (x:=a) (e:=a) d (.inl rfl) (λb q g z=>(hs.2 b g).trans z) f new
def DM(z:kvs.length<=cL)(c:(a==NI)=cc)(b:KV kvs vs)(dd:h'.DictOf (bj P w) a vs):
  bW P w H' h' a (.dK kvs):=⟨z,c,vs,b,dd⟩
def vO(x:A.units+1<KX)(I:Inv X pins σ H s)(g:vM H a y v H')(o:RelV y u)(rv:RelV v r)(h:∀s',Inv X pins σ H' s'->Q () s'):
  d3 (eh X.prog X.w) A (TF (.ref a) u r) Q E s:=by
 rcases g with⟨kvs,k,e,j,l,m⟩|⟨kvs,k,b,e,j,p,l,m⟩
 .subst j m;have⟨z,n,vs,d,dd⟩:=xG I.Jj e;have hz:vs.length<=cL:=by rw[<-d.length];show z
  have hl:(putK kvs k v).length<=cL:=by have:=jK kvs k v;lia
  show wpAny_setItem_pairs (hsz:=hz) (mX o) dd λh' f hs=>h _ ?_;have B:∃q,h'.get? a=a5 q:=let ⟨q,_,_,i,_⟩:=f;⟨q,i⟩;show tZ I (by rw[e];show WR) hs B (DM hl n (d.put k rv) f)
 .subst j m;cases(show u=kj b from o);have⟨z,n,xs,d,dd⟩:=Gm I.Jj e;have hz:xs.length<=cL:=by rw[<-Paired.length d];show z
  have hl:(putK kvs k v).length<=cL:=by have:=jK kvs k v;lia
  show wpAny_setItem_heap (hsz:=hz) (P' x) (jo I.Jj p) dd λh' f hs=>h _ ?_;obtain⟨q,es,ep,i,C,D,G,_,J⟩:=f;show tZ I (by rw[e];show WR) hs ⟨q,i⟩ ⟨hl,n,_,(d.put k p rv).keeps λc L t=>?_,q,es,ep,i,C,D,G,J⟩;rw[av (FQ t e (λz=>nomatch z))];show t
end
section
end
abbrev DN(i:lg):Prop:=∀a b,XT i cc a b=operate [a,b] (WA a b)
def AK{T id:String}
  (hl:QD (.type T) "__getitem__"=pure (a5 (.builtin id))) (hs:DN a)
  (h:d3 (eh prog w) A (uk b env) (λo f=>d3 (eh prog w) A (uk a env) (λi d=>d.TypeIs o T/\d3 (eh prog w) A (WA o i) Q E d) E f) E s) :
  d3 (eh prog w) A (uk (.Subscript b a pos) env) Q E s:=by
 show û (i9 h (λo f k=>i9 k (λi d e=>?_) λ_ _ x=>x) λ_ _ x=>x);have⟨g,e⟩:=e;unfold VI;show b6 ?_;rw[getitemInPython_of_ne g.not_modules];show b6 (Ui g hl ?_);have c:d3 (eh prog w) A (XT a cc o i) (λr j=>d3 (eh prog w) A (letTemporaryGo b o r >>= λ_=>pure r) Q E j) E d:=by
  rw[hs o i];show wpAny_operating (i9 e (λr j l=>b6 (wpAny_letTemporaryGo (c4 l))) λ_ _ x=>x)
 first
  |show c4 (b6 c)
  |show b6 (c4 (b6 c))
  |show b6 c
def pW(I:Inv X pins σ H s)(g:fy H a y o):s.TypeIs (.ref a) "dict":=by
 rcases g with⟨kvs,k,e,_,_⟩|⟨kvs,k,b,e,_,_,_⟩
 .obtain⟨_,_,vs,_,dd⟩:=kR I.Jj e;show dd.typeIs
 .obtain⟨_,_,xs,_,dd⟩:=kS I.Jj e;show dd.typeIs
abbrev Gp(c ty:TE):TE:=λσ H Q=>c σ H λx d=>ty σ d λy b=>∃a v,x=.ref a/\fy b a y (a5 v)/\Q v b
abbrev IG(ty c:TE):TE:=λσ H Q=>ty σ H λy d=>c σ d λx b=>∃a o,x=.ref a/\fy b a y o/\Q (.bl o.isSome) b
abbrev AL(ty c:TE):TE:=λσ H Q=>ty σ H λy d=>c σ d λx b=>∃a o,x=.ref a/\fy b a y o/\Q (.bl (!o.isSome)) b
section
def AM(c:X.A.units+1<KX)(ho:PE X o d)(e:PE X i ty)(hs:DN i):PE X (.Subscript o i pos) (Gp d ty):=by
 intro pins s σ H Q I h;show AK PySem.F.slot_dict_getitem.lookup hs (Jo (ho pins s σ H _ I h) λu s1 ⟨x,f,j,k,l⟩=>Jo (e pins s1 σ f _ j l) λw s2 m=>?_);have⟨y,n,b,p,a,v,ex,g,q⟩:=m;subst ex;obtain rfl:u=kj a:=k;show⟨pW b g,vN c b g p λz s3 r t=>⟨v,n,r,t,q⟩⟩
def DO(b:X.A.units+1<KX)(c:PE X i ty)(ho:PE X o d):PC X .In i o (IG ty d):=by
 intro pins s σ H Q I h;show Jo (c pins s σ H _ I h) λv s1 ⟨y,e,f,j,k⟩=>Jo (ho pins s1 σ e _ f k) λu s2 l=>?_;have⟨x,m,n,p,a,q,ex,g,r⟩:=l;subst ex;obtain rfl:u=kj a:=p;show Gn b n g j λs3 t=>⟨.bl q.isSome,m,t,rfl,r⟩
def vP(b:X.A.units+1<KX)(c:PE X i ty)(ho:PE X o d):PC X .NotIn i o (AL ty d):=by
 intro pins s σ H Q I h;show Jo (c pins s σ H _ I h) λv s1 ⟨y,e,f,j,k⟩=>Jo (ho pins s1 σ e _ f k) λu s2 l=>?_;have⟨x,m,n,p,a,q,ex,g,r⟩:=l;subst ex;obtain rfl:u=kj a:=p;show tY b n g j λs3 t=>⟨.bl (!q.isSome),m,t,rfl,r⟩
end
def xH(h:DD)(a:NI<h.objs.size):bW P w H (h.push {cls:=.type "dict",data:=.dict #[]}) h.objs.size (.dK []) :=
 ⟨i8 _,Ň.mpr (qs (gs a)),[],.nil,ĺ h⟩
abbrev DP:TE:=λ_ H Q=>∀p,H p=b8->Q (.ref p) (upd H p (.dK []))
section
def pX:PE X (.Dict [] [] pos) DP:=λpins s σ H Q I h =>
 wpAny_Dict_empty ⟨.ref s.heap.objs.size,_,I.laid (a:=s.heap.objs.size) (o:=.dK []) (t':=s.toks) (λ_ _ q=>c2 _ q) (hQ _) (xH s.heap I.big),rfl,h _ (I.Jj.fresh (hQ _))⟩
end
structure M2(X:Cx)(o:lg)(m:Str)(apos:Pos)(e f:lg)(G':Pos):Prop where
 base:SO o m X.env (uk o X.env)=uk o X.env
 Nv:((x2 G' (gj [e,f] X.env)).all (λx=>!x.1)&&(P1 G' (Lj [] X.env)).all (λx=>x.1.isSome)
  && cK (([e,f]:List lg).length+([]:List MF).length+(if ([]:List MF).isEmpty then 0 else 1)<30))=bD
 line:(apos.endLine==G'.line)=bD
 trees:x2 G' (gj [e,f] X.env)=[(cc,uk e X.env),(cc,uk f X.env)]
abbrev Vb(H:Hp)(a:d7):Prop:=(∃kvs,Rd H a (.dK kvs))\/∃kvs,Rd H a (.dT kvs)
def DQ(I:Inv X pins σ H s)(d:Vb H a):
  s.TypeIs (.ref a) "dict"/\(∀b,kj a=.ref b->∃c,s.heap.get? b=a5 c/\c.dict=b8)/\(a==NI)=cc:=by
 rcases d with⟨kvs,e⟩|⟨kvs,e⟩
 .obtain⟨_,f,vs,_,dd⟩:=kR I.Jj e;show⟨dd.typeIs,λb q=>?_,f⟩;cases q;obtain⟨c,_,_,g,h,_⟩:=dd;show⟨c,g,h.2.1⟩
 .obtain⟨_,f,xs,_,dd⟩:=kS I.Jj e;show⟨dd.typeIs,λb q=>?_,f⟩;cases q;obtain⟨c,_,_,g,h,_⟩:=dd;show⟨c,g,h.2.1⟩
section
def DR(p:A.units+1<KX)(I:Inv X pins σ H s)(g:fy H a y o)(j:RelV y u)(m:RelV d r)(h:∀n s',Inv X pins σ H s'->RelV (o.getD d) n->Q n s'):
  d3 (eh X.prog X.w) A (NK (.builtin "dict.get") [.ref a,u,r]) Q E s:=by
 rcases g with⟨kvs,k,e,f,l⟩|⟨kvs,k,b,e,f,q,l⟩
 .subst f;have⟨z,i,vs,c,dd⟩:=kR I.Jj e;show Z_ PySem.F.slot_dict_get dd.typeIs PySem.F.entry_dict_get (PySem.F.args_dict_get_3 _ _ _) (meets_dict_get_default (bj X.prog X.w) a (mX j) i r) ⟨_,dd.mapOf,h _ _ (I.tok _) ?_⟩;rw[l];show(c.val k).getD m
 .subst f;cases(show u=kj b from j);have⟨z,i,xs,c,dd⟩:=kS I.Jj e;show Z_ PySem.F.slot_dict_get dd.typeIs PySem.F.entry_dict_get (PySem.F.args_dict_get_3 _ _ _) (meetsH_dict_get_default (Vp (bj X.prog X.w)) a b i r) ⟨P' p,k,xs,jo I.Jj q,dd,h _ _ (I.tok _) ?_⟩;rw[l];show(c.val k).getD m
end
abbrev DS(d ty e:TE):TE:=λσ H Q=>d σ H λx b=>∃a,x=.ref a/\Vb b a/\ty σ b λy f=>e σ f λz c=>∃o,fy c a y o/\Q (o.getD z) c
section
def xI(i:X.A.units+1<KX)(ho:PE X o j)(k:PE X e ty)(l:PE X f n)(m:M2 X o "get" b e f p):PE X (.Call (.Attribute o "get" b) [e,f] [] p) (DS j ty n):=by
 intro pins s σ H Q I h;show wpAny_Call_method m.base m.Nv m.line PySem.F.plainAttrs_dict PySem.F.slot_dict_get PySem.F.type_dict_get (Jo (ho pins s σ H _ I h) λu s1 q=>?_);have⟨x,r,c,t,a,ex,d,v⟩:=q;subst ex;obtain rfl:u=kj a:=t;obtain⟨w,B,_⟩:=DQ c d;show⟨w,B,?_⟩;rw[m.trees];show JS rfl (Lw (KY (Jo (k pins s1 σ r _ c v) λiv s2 ⟨y,C,D,G,J⟩ =>
  KY (Jo (l pins s2 σ C _ D J) λfv s3 ⟨z,L,N,O,ov,g,T⟩=>Nu ?_))))
 show DR i N g G O λw' s4 Y LO=>⟨_,L,Y,LO,T⟩
end
section
end
section
end
end L2
namespace JE
open PySem PySem.Builtin.Str PySem.StrLaws
abbrev xJ(i:Int):Str:=Q2 (S0 i)
def app_list(x y:Str):(x++y).cps.toList=x.cps.toList++y.cps.toList:=by
 change(x.cps++y.cps).toList=_;simp
end JE
namespace L2
open PySem PySem.Spec PyProof.Rows
abbrev bM(env:Env):List (Str×O3)->List (Str×d7)->List (Str×d7)
 |[],b=>b
 |(n,k)::r,b=>bM env r (if k==.free then(match env.cells.lookup n with|some a=>(n,a)::b|none=>b) else b)
def eZ(h:∀y∈scope.names,y.2=.free->∃a,env.cells.lookup y.1=a5 a):closureFor scope env=pure (bM env scope.names []):=by
 unfold closureFor;generalize scope.names=names at h
 suffices H:∀b,(ē names b (λ(x:Str×O3) (r:List (Str×d7))=>if (x.2==Mz)=bD then do let a <-cellOf env x.1;pure (OE ((x.1,a)::r)) else pure (OE r)):Sem (List (Str×d7)))=pure (bM env names b) by
  have:=H [];show ņ (λ(m:Sem (List (Str×d7)))=>m >>= pure) this
 induction names with
 |nil=>intro b;rfl
 |cons y r d =>
  intro b;have⟨n,k⟩:=y;rw[V4];have c:=d λy e=>h y (ko _ e);by_cases hk:(k==Mz)=bD
  .have⟨a,f⟩:=h (n,k) mu (by simpa using hk);have g:env.cells.lookup n=a5 a:=f;simp only[hk,if_true,cellOf,g,bM];show c _
  .simp only[hk,if_false,bM];show c _
theorem fz:∀(names:List (Str×O3)) (b:List (Str×d7)),(∀n c,b.lookup n=a5 c->env.cells.lookup n=a5 c)->∀n c,(bM env names b).lookup n=a5 c->env.cells.lookup n=a5 c
 |[],_,h=>h
 |(m,k)::r,b,h=>by
  unfold bM;show fz r _ λn c e=>?_;by_cases hk:(k==Mz)=bD
  .rw[Ł hk]at e;cases q:env.cells.lookup m with
   |none=>rw[q]at e;show h n c e
   |some a =>
    rw[q]at e;simp only[sx]at e;cases d:n==m with
    |true =>
     rw[d]at e;have f:n=m:=by simpa using d
     subst f;simp only at e;rw[q];show e
    |false=>rw[d]at e;show h n c e
  .rw[ł hk]at e;show h n c e
theorem jL(d:env.cells.lookup n=a5 a):∀(names:List (Str×O3)) (c:List (Str×d7)),c.lookup n=a5 a->(bM env names c).lookup n=a5 a
 |[],_,h=>h
 |(m,k)::r,c,h=>by
  unfold bM;show jL d r _ ?_;by_cases hk:(k==Mz)=bD
  .rw[Ł hk];cases q:env.cells.lookup m with
   |none=>show h
   |some b =>
    simp only[sx];cases e:n==m with
    |true =>
     have f:n=m:=by simpa using e
     subst f;rw[d]at q;cases q;rfl
    |false=>show h
  .rw[ł hk];show h
theorem gZ(b:env.cells.lookup n=a5 a):∀(names:List (Str×O3)) (c:List (Str×d7)),(n,Mz)∈names->(bM env names c).lookup n=a5 a
 |[],_,h=>by cases h
 |(m,k)::r,c,h=>by
  unfold bM;rcases d4.mp h with e|e
  .cases e;show jL b r _ ?_;rw[Ł (by decide),b];simp[sx]
  .show gZ b r _ e
theorem bZ{env:Env}:∀{names:List (Str×O3)}{x:Str}{k:O3},
  (names.map λ(n,k)=>if (k==Mz&&env.scope.kind==.function&&env.kindOf n==a5 .cell) then(n,NameKind.cell) else(n,k)).lookup x=a5 k ->
  names.lookup x=a5 k\/(k=.cell/\names.lookup x=a5 .free)
 |[],_,_,h=>by simp at h
 |(n,k0)::r,x,k,h=>by
  have e:=@bZ env r x k;rw[ei]at h;by_cases b:(k0==Mz&&env.scope.kind==.function&&env.kindOf n==a5 .cell)=bD
  .simp only[Ł b,sx]at h;cases a:x==n with
   |true =>
    rw[a]at h;have f:k0=.free:=by
     have:=(t5.mp (t5.mp b).1).1;simpa using this
    show .inr ⟨by simpa using h.symm,by simp[sx,a,f]⟩
   |false =>
    rw[a]at h;rcases e h with z|⟨c,d⟩
    .show .inl (by simp[sx,a,z])
    .show .inr ⟨c,by simp[sx,a,d]⟩
  .simp only[ł b,sx]at h;cases a:x==n with
   |true=>rw[a]at h;show .inl (by simpa[sx,a] using h)
   |false =>
    rw[a]at h;rcases e h with z|⟨c,d⟩
    .show .inl (by simp[sx,a,z])
    .show .inr ⟨c,by simp[sx,a,d]⟩
abbrev Kg(X:Cx)(N:List Str)(scope:LU)(C:d7)(s:d5)(H:Hp)(ex:List d7):Cx where
 prog:=X.prog
 w:=X.w
 K:=X.K
 mg:=X.mg
 base:=X.base
 A:=X.A
 N:=N
 s₀:=s
 H₀:=H
 env:=WE scope (bM X.env scope.names []) C X.env
 outer:=X.stack
 stack:=X.stack
 ex:=ex
 fn:=λ_=>cc
 calm:=X.calm
 pn:=[]
 xe:=λ_ _=>False
abbrev eT(D N:List Str):Prop:=D.length=N.length/\∀(i:Nat) (y:Str),D[i]?=a5 y->N[i]?=a5 y\/y="."\/y=".."
def eT.refl(N:List Str):eT N N:=⟨rfl,λ_ _ h=>.inl h⟩
def eT.set{D N:List Str}(h:eT D N)(j:Nat){m:Str}(b:m="."\/m=".."):eT (D.set j m) N:=by
 show⟨by rw[å];show h.1,λi y e=>?_⟩;by_cases a:j=i
 .subst a;rw[List.getElem?_set,Ł rfl]at e;split at e
  .cases e;show .inr b
  .cases e
 .rw[hH a]at e;show h.2 i y e
structure eU(X:Cx)(N own:List Str)(scope:LU):Prop where
 kind:scope.kind=.function
 LP:∀y∈scope.names,y.2≠.cell
 names:∀y∈scope.names,y.2=.local->scope.names.lookup y.1=a5 .local
 nd:N.Nodup
 pre:N.take own.length=own
 loc:∀y∈scope.names,y.2=.local->y.1∈own\/y.1=".0"
 WV:(".0":Str)∉N
 tail:eT (N.drop own.length) X.N
 free:∀y∈scope.names,y.2=.free->X.env.scope.names.lookup y.1=a5 .cell\/X.env.scope.names.lookup y.1=a5 .free
 dot:∀y∈scope.names,y.1≠"."/\y.1≠".."
def mem_lookup{names:List (Str×O3)}(h:names.lookup x=a5 k):(x,k)∈names:=PySem.mem_of_lookup h
def eU.cells(S:eU X N c scope)(b:X.Ok):∀y∈scope.names,y.2=.free->∃a,X.env.cells.lookup y.1=a5 a:=λy d e=>by
 rcases S.free y d e with z|z
 .show b.has y.1 (.inl z)
 .show b.has y.1 (.inr z)
def xK(S:eU X N d scope)(I:Inv X pins σ H s)
  (D:s.heap.objs.size<=C) (S3:s4.os=s.os) (hg:s4.gens=s.gens) (keep:∀b o,s.heap.get? b=a5 o->s4.heap.get? b=a5 o) (ns:∃m,s4.heap.Ns C m)
  (f:∀b∈ex,iC X pins H b/\b<s.heap.objs.size):Inv (Kg X N scope C s H ex) [] (i2 d.length b8++σ) H s4:=by
 have⟨m0,Rn⟩:=ns;have sub:=fz (env:=X.env) scope.names [] (λn c e=>by simp at e);have S4:∀b∈ex,b<C:=λb g=>i1 (f b g).2 D;have tl:d.length<=N.length:=by have:=ņ Km S.pre;rw[vl]at this;lia
 show⟨⟨I.ok.mod,?_,I.ok.glob,I.ok.blt,D,λx y c A w=>I.ok.inj x y c (sub x c A) (sub y c w),λx hx=>?_,λx c h _=>absurd (show cc=bD from h) (by decide),I.ok.hd,I.ok.frames,.inl rfl,λb g=>⟨gs (S4 b g),λx c e=>?_⟩,λb o e=>I.bs b o e,?_,λb o e g=>?_,λb g=>?_,I.stack,I.kg⟩,
  S3,(by rw[hg];show I.bare),Un.kept keep,⟨m0,Rn,λi y v A w h3=>?_⟩,λx c e=>?_,I.Jj.fresh D,λx c e=>I.JF x c (sub x c e),λp hp=>absurd (show p∈([]:List (d7×Obj)) from hp) (by simp),I.Jj.kept keep,?_⟩
 .change(TJ scope X.env).kind=.function;show S.kind
 .
  have S5:(TJ scope X.env).names.lookup x=a5 .cell\/(TJ scope X.env).names.lookup x=a5 .free:=hx;have t:scope.names.lookup x=a5 .free:=by
   rcases S5 with z|z
   .rcases bZ z with q|⟨_,q⟩
    .show absurd rfl (S.LP _ (mem_lookup q))
    .show q
   .rcases bZ z with q|⟨q,_⟩
    .show q
    .cases q
  have⟨a,ha⟩:=S.cells I.ok (x,.free) (mem_lookup t) rfl;show⟨a,gZ ha scope.names [] (mem_lookup t)⟩
 .show(f b g).1.2.2.2.2.1 x c (sub x c e)
 .show vr I.ok.Nr I.sz
 .have⟨f0,L,O,Q,f4,f5⟩:=(f b g).1;rcases Q with z|z
  .show I.ok.Mi b o e z
  .show absurd (i1 (d8 e) (vr I.ok.Nr z)) (t4 _)
 .intro KR;have⟨f0,L,O,Q,f4,f5⟩:=(f b g).1;rcases d4.mp (I.kJ b KR) with z|z
  .show L z
  .show O z
 .
  have G:d.length<=i:=by
   by_cases G:i<d.length
   .rw[t6 (by simpa using G),JI]at w;split at w<;>cases w
   .lia
  rw[nc (by simpa using G),Qr]at w;have WW:(N.drop d.length)[i - d.length]?=a5 y:=by
   rw[K2];have e:d.length+(i - d.length)=i:=by lia
   rw[e];show A
  have T:(TJ scope X.env).names.lookup y=a5 .local\/(TJ scope X.env).names.lookup y=a5 .cell\/(TJ scope X.env).names.lookup y=a5 .free:=h3;have t:scope.names.lookup y=a5 .free:=by
   rcases T with z|z|z
   .rcases bZ z with q|⟨q,_⟩
    .exfalso
     have K':y∈d:=by
      rcases S.loc (y,.local) (mem_lookup q) rfl with z|z
      .show z
      .have z':y=".0":=z;show absurd (my A) (by rw[z'];show S.WV)
     have⟨j,Y,ej⟩:=QR K';have L6:N[j]?=a5 y:=by
      have e1:(N.take d.length)[j]?=a5 y:=by rw[S.pre,td Y,ej]
      rw[X0 Y]at e1;show e1
     have:=iy S.nd L6 A;lia
    .cases q
   .rcases bZ z with q|⟨_,q⟩
    .show absurd rfl (S.LP _ (mem_lookup q))
    .show q
   .rcases bZ z with q|⟨q,_⟩
    .show q
    .cases q
  have hX:X.N[i - d.length]?=a5 y:=by
   rcases S.tail.2 _ _ WW with e|e|e
   .show e
   .show absurd e (S.dot _ (mem_lookup t)).1
   .show absurd e (S.dot _ (mem_lookup t)).2
  have⟨m,hn,hl⟩:=I.loc;have hv:X.env.scope.names.lookup y=a5 .cell\/X.env.scope.names.lookup y=a5 .free:=S.free (y,.free) (mem_lookup t) rfl;have⟨u,r,l⟩:=hl _ y v hX w (.inr hv);show⟨u,r,?_⟩;rcases l with⟨k,_⟩|⟨k,c,e,z⟩
  .have k':X.env.scope.names.lookup y=a5 .local:=k;rcases hv with q|q<;>(rw[k']at q;cases q)
  .have hk:(TJ scope X.env).names.lookup y=a5 .cell\/(TJ scope X.env).names.lookup y=a5 .free:=by
    rcases T with q|q|q
    .rcases bZ q with B|⟨B,_⟩
     .rw[t]at B;cases B
     .cases B
    .show .inl q
    .show .inr q
   have⟨o,ho,J⟩:=z;show .inr ⟨hk,c,gZ e scope.names [] (mem_lookup t),o,keep c o ho,J⟩
 .have⟨v,o,ho,J⟩:=I.cell x c (sub x c e);show⟨v,o,keep c o ho,J⟩
 .rw[hY,Qr,I.len];have e:N.length=d.length+(N.drop d.length).length:=by rw[Sz];lia
  change _=N.length;rw[e,S.tail.1]
def pY(I:Inv X pins σ H s)
  (d:Inv (Kg X N scope C s H ex) T Y j s4) (t:s.heap.objs.size<=D) (w:s.heap.objs.size<=C) (x:D≠C) (g:j D=b8) (rv:Vals l m) (y:s4.heap.PlainList D m.toArray) (hl:l.length<=cL)
  (h:mA C s4.heap h') (k:∀b∈ex,iC X pins H b):Inv X pins σ (upd j D (.lst l)) {s4 with heap:=h' }:=by
 have p:j C=b8:=d.free;have lt:∀{b:d7} {o:Obj},s.heap.get? b=a5 o->b≠C/\b≠D:=λe=>⟨gs (i1 (d8 e) w),gs (i1 (d8 e) t)⟩
 show I.CB (s':={s4 with heap:=h' }) (ch:=ex) d.os ⟨λb o e n i f=>?_,λb o e n i f=>?_,λb o e n f=>?_,λb o e f=>?_,λb xs e=>?_,λb o u e=>?_,λb ps e=>?_⟩ (λa o e=>?_) d.bare λb i=>?_
 .show(h.2 b (lt e).1).trans (d.base.keep b o e n i f)
 .have⟨A,q⟩:=d.base.slot b o e n i f;show⟨A,(h.2 b (lt e).1).trans q⟩
 .rw[av (lt e).2];show d.base.free b o e n f
 .have⟨B,q⟩:=d.base.there b o e f;show⟨B,(h.2 b (lt e).1).trans q⟩
 .have q:=d.base.fW b xs e;rw[av (bx q g)];show q
 .have q:=d.base.J' b o u e;rw[av (bx q g)];show q
 .have⟨more,q⟩:=d.base.Kf b ps e;show⟨more,by rw[av (bx q g)];show q⟩
 .by_cases r:a=D
  .subst r;rw[aB]at e;cases e;have⟨n,q⟩:=y;show⟨hl,m,n,rv,(h.2 _ x).trans q⟩
  .rw[av r]at e;show(d.Jj a o e).fQ (λc v G q=>(h.2 c ?_).trans q) (λc q=>?_) λc xs q=>?_
   .rintro rfl;rcases G with z|z
    .rw[<-z,p]at e;cases e
    .rw[p]at z;cases z
   .rw[av (bx q g)];show q
   .rw[av (bx q g)];show q
 .have⟨f0,J,f2,L,O,Q⟩:=k b i;show⟨L,J,O,Q⟩
section
def oH(I:Nat->d5->Prop)
  (b:∀n s,I n s->d3 (eh prog w) A (TN it) (λr d=>match r with
   |none=>R (.ok .next) d
   |some v=>d3 (eh prog w) A (Ur a it v) (λ_ d=>d3 (eh prog w) A (Sl a env v) (λ_ j =>
     d3 (eh prog w) A (ē f bD λc r=>if r=bD then do let ok <-isTrue c env (uk c env);pure (OE ok) else pure (OE r)) (λok i =>
      if ok=bD then d3 (eh prog w) A (uk elt env) (λx k =>
       d3 (eh prog w) A (NK (.builtin "list.append") [acc,x]) (λ_ l=>∃m,m<n/\I m l) (TQ (eh prog w) A env λe s'=>R (.error e) s') k) (TQ (eh prog w) A env λe s'=>R (.error e) s') i
      else ∃m,m<n/\I m i) (TQ (eh prog w) A env λe s'=>R (.error e) s') j) (TQ (eh prog w) A env λe s'=>R (.error e) s') d) (TQ (eh prog w) A env λe s'=>R (.error e) s') d) (TQ (eh prog w) A env λe s'=>R (.error e) s') s)
  (n:Nat) (h:I n s) :
  Qv (eh prog w) A (.compLoop (.ListComp elt [⟨a,g,f,0⟩] scope pos) 0 it acc env) R s:=by
 show codeAny_loop rfl I (λn s q=>?_) n h;change d3 _ A ((compTurn (.ListComp elt [⟨a,g,f,0⟩] scope pos) 0 it acc env).onRaise (λx=>do noteFrame x env;theTreesLotGoes x)) _ _ s;show wpAny_noted ?_;rw[compTurn_list];show b6 (Zm (b6 (i9 (b n s q) (λr d o=>?_) λ_ _ h'=>h')));cases r with
 |none=>show c4 o
 |some v =>
  show b6 (i9 o (λ_ B t=>?_) λ_ _ h'=>h');show b6 (i9 t (λ_ j u=>b6 (i9 u (λok i p=>?_) λ_ _ h'=>h')) λ_ _ h'=>h');cases ok with
  |false=>show c4 ⟨rfl,p⟩
  |true =>
   show b6 (b6 (i9 p (λx k y=>b6 (i9 y (λ_ l z=>c4 (c4 ⟨rfl,z⟩)) λ_ _ h'=>h')) λ_ _ h'=>h'))
end
abbrev Nw(X:Cx)(a:List lg)(t:TT):Prop :=
 ∀(pins:List (d7×Obj)) (s:d5) (σ:St) (H:Hp) (Q:Bool->Hp->Prop),Inv X pins σ H s->t σ H Q ->
  d3 (eh X.prog X.w) X.A (ē a bD λc r=>if r=bD then do let b <-isTrue c X.env (uk c X.env);pure (OE b) else pure (OE r)) (TP X pins σ Q) X.xe s
abbrev IH:TT:=λ_ H Q=>Q bD H
def t9:Nw X [] IH:=λ_ _ _ H _ I h=>wpAny_tests_nil ⟨H,I,h⟩
def t_(h:PT X c t):Nw X [c] t:=λpins s σ H Q I q=>wpAny_tests_one (h pins s σ H Q I q)
abbrev ua(k:Nat)(J:It)(g:TG)(l:TT)(n:TE)(Q:VK)(σ:St)(o:Hp):Prop :=
  ∃W:Nat->Nat->List V->Hp->Prop,(∃m,W 0 m [] o)/\∀i m a H,W i m a H->a.length<=cL /\
    ((J.stop i H/\∀p,H p=b8->Q (.ref p) (upd H p (.lst a))) \/
     (J.go i H/\∃d:List V->Hp->Prop,(∀f H',d f H'->∃h,h<m/\W (i+1) h f H')/\∀x H',J.Rf i H x H'->g x (i2 k b8++σ) H' λe q=>∃c:St,c.length=k/\e=c++σ /\
        l e q λb j=>if b=bD then n e j λy r=>d (a++[y]) r else d a j))
abbrev xM(k:Nat)(a:TI)(g:TG)(b:TT)(c:TE):TE:=λσ H Q=>a σ H λJ d=>ua k J g b c Q σ d
section
def xN
  (S:eU X N B scope) (hc:X.calm=bD) (hg:∀C s H ex,PG (Kg X N scope C s H ex) tg g) (hf:∀C s H ex,Nw (Kg X N scope C s H ex) ak tt) (he:∀C s H ex,PE (Kg X N scope C s H ex) elt te)
  (I:Inv X pins σ H s) (T:Turn X.prog X.w X.K tg J G it tn) (st:tn 0 s.heap) (f2:∀b∈G,iC X pins H b) (W:ua B.length J g tt te Q σ H)
  (hD:@Eq Nat D s.heap.objs.size) (hC:@Eq Nat C (s.heap.objs.size+1)) (S3:s4.os=s.os) (WY:s4.gens=s.gens) (keep:∀b o,s.heap.get? b=a5 o->s4.heap.get? b=a5 o) (ns:∃m,s4.heap.Ns C m) (pl:s4.heap.PlainList D #[])
  (al:∀s5 Y O k,Inv (Kg X N scope C s H G) [] (i2 B.length b8++σ) Y s5->Y D=b8->Vals O k->s5.heap.PlainList D k.toArray->O.length<=cL->(∀p,Y p=b8->Q (.ref p) (upd Y p (.lst O)))->R (.ok .next) s5) :
  Qv (eh X.prog X.w) X.A (.compStart (.ListComp elt [⟨tg,am,ak,0⟩] scope pos) 0 (.ref it) (.ref D) (WE scope (bM X.env scope.names []) C X.env)) R s4:=by
 have Ny:∀b∈G,@Qx Nat _ b s.heap.objs.size:=λb h=>by
  obtain⟨o,e,_⟩:=T.obj 0 s.heap st b h;show d8 e
 have I4:Inv (Kg X N scope C s H G) [] (i2 B.length b8++σ) H s4:=xK S I ⋯ S3 WY keep ns λb h=>⟨f2 b h,Ny b h⟩
 have st4:tn 0 s4.heap:=T.keep 0 s.heap s4.heap st λb _ o e=>keep b o e;have nD:H D=b8:=I.Jj.fresh ⋯;obtain⟨W,⟨m0,w0⟩,Ø⟩:=W;generalize l:Kg X N scope C s H G=f at I4 al;have eP:f.prog=X.prog:=by rw[<-l];rfl
 have ew:f.w=X.w:=by rw[<-l];rfl
 have eK:f.K=X.K:=by rw[<-l];rfl
 have ec:f.calm=bD:=by rw[<-l];show hc
 have eA:f.A=X.A:=by rw[<-l];rfl
 have ee:f.env=WE scope (bM X.env scope.names []) C X.env:=by rw[<-l];rfl
 have S7:f.xe=λ_ _=>False:=by rw[<-l];rfl
 have el:f.env.locals=C:=by rw[ee];rfl
 have S8:PG f tg g:=by rw[<-l];show hg _ _ _ _
 have P5:Nw f ak tt:=by rw[<-l];show hf _ _ _ _
 have S9:PE f elt te:=by rw[<-l];show he _ _ _ _
 have s0:f.s₀=s:=by rw[<-l];rfl
 have P6:f.pn=[]:=by rw[<-l];rfl
 have S_:∀{H':Hp} {o:Obj},(∀b∈G,H' b=b8)->∀b∈G,iC f [(D,o)] H' b:=λ{H' o} hn b h=>by
  have ex:f.ex=G:=by rw[<-l];rfl
  show⟨hn b h,?_,?_,.inl (by rw[ex];show h),λx c e=>?_,λp L=>?_⟩
  .rw[el];have:=Ny b h;show gs (by change @Qx Nat _ b C;lia)
  .have e1:f.fs=JW X.stack:=by rw[<-l];rfl
   rw[e1];intro z;have⟨f0,f1,WZ,f3,f4,f5⟩:=f2 b h;rcases d4.mp (I.kJ b z) with q|q
   .show f1 q
   .show WZ q
  .have e1:f.env.cells=bM X.env scope.names []:=by rw[ee];rfl
   rw[e1]at e;show(f2 b h).2.2.2.2.1 x c (fz scope.names [] (λn c e=>by simp at e) x c e)
  .rw[P6,i5]at L;have:p=(D,o):=by simpa using L
   subst this;have:=Ny b h;show Kk (by change @Qx Nat _ b D;lia)
 have Ta:∀{σ':St} {H':Hp} {s':d5} {o:Obj},Inv f [] σ' H' s'->H' D=b8->s'.heap.get? D=a5 o->(∀v,o.data≠.cell v)->Inv f [(D,o)] σ' H' s':=λ{σ' H' s' o} I' n e d =>
  I'.eJ λp L=>by
   have:p=(D,o):=by simpa using L
   subst this;show⟨e,n,?_,?_,d⟩
   .rw[el];show gs (by change @Qx Nat _ D C;lia)
   .have e1:f.fs=JW X.stack:=by rw[<-l];rfl
    rw[e1];intro z;have zz:(D:d7)∈JW X.stack:=z;rcases d4.mp (I.kJ D zz) with q|q
    .have:=I.lt;rw[<-q]at this;show absurd this (by change ¬@Qx Nat _ D s.heap.objs.size;lia)
    .show I.Di (a:=D) ⋯ q
 have start:∀s':d5,s'=s4->Qv (eh X.prog X.w) X.A (.compLoop (.ListComp elt [⟨tg,am,ak,0⟩] scope pos) 0 (.ref it) (.ref D) (WE scope (bM X.env scope.names []) C X.env)) R s':=by
  rintro s' rfl;show oH (λn s'=>∃i O k H',Inv f [] (i2 B.length b8++σ) H' s'/\tn i s'.heap/\(∀b∈G,H' b=b8)/\H' D=b8/\Vals O k/\s'.heap.PlainList D k.toArray/\W i n O H') ?_ m0
   ⟨0,[],[],H,I4,st4,λb h=>(f2 b h).1,nD,.nil,pl,w0⟩
  rintro n s3 ⟨i,O,k,H3,I3,JJ,PV,Vd,Ro,⟨nn,W0⟩,w3⟩;have⟨ab,L7⟩:=Ø i n O H3 w3;have IP:=Ta I3 Vd W0 (λv z=>by have z':Data.seq _ _=Ñ v:=z;cases z');rcases L7 with⟨an,qn⟩|⟨go,NN,Ve,ap⟩
  .have d:=T.done f eP ew eK ec i _ s3 _ H3 (TQ (eh X.prog X.w) X.A (WE scope (bM X.env scope.names []) C X.env) λe s'=>R (.error e) s') IP (S_ PV) JJ an;rw[eA]at d;show Jo d λr s4 Tb=>?_;have⟨hr,I5⟩:=Tb;subst hr;have e5:=(I5.pin (D,({cls:=.type "list",data:=.seq k.toArray nn}:Obj)) (by rw[P6];simp)).1;show al s4 H3 O k (I5.eJ λp L=>by cases L) Vd Ro ⟨nn,e5⟩ ab qn
  .have d:=T.item f eP ew eK ec i _ s3 _ H3 (TQ (eh X.prog X.w) X.A (WE scope (bM X.env scope.names []) C X.env) λe s'=>R (.error e) s') IP (S_ PV) JJ go;rw[eA]at d;show Jo d λr s4 Tc=>?_;have⟨u,hr,h4⟩:=Tc;subst hr;show Jo h4 λ_ s5 Td=>?_;have⟨x,Y,I5,r5,y5,Mx,Sw⟩:=Td;have ZL:Y D=b8:=(I5.pin (D,({cls:=.type "list",data:=.seq k.toArray nn}:Obj)) (by rw[P6];simp)).2.1;have Sx:=I5.pinned (S_ Sw) (T.obj _ _ Mx);have a6:=S8 _ s5 _ Y x u _ Sx r5 (ap x Y y5);rw[eP,ew,eA,ee,S7]at a6;show i9 a6 (λ_ s6 ⟨σ6,H6,I6,q6⟩=>?_) λ_ _ z=>ME z;have⟨ow,ar,rfl,q6⟩:=q6;have a7:=P5 _ s6 _ H6 _ I6 q6;rw[eP,ew,eA,ee,S7]at a7;show i9 a7 (λb s7 ⟨H7,I7,q7⟩=>?_) λ_ _ z=>ME z;have ac:∀{s8:d5} {t:Hp} {Lb:List V} {its':List dt} {nn':Nat},Inv f [] (ow++σ) t s8->tn (i+1) s8.heap->(∀b∈G,t b=b8)->t D=b8->Vals Lb its'->s8.heap.PlainList D its'.toArray->(∃m',m'<n/\W (i+1) m' Lb t) ->
     ∃m,m<n/\∃i O k H',Inv f [] (i2 B.length b8++σ) H' s8/\tn i s8.heap/\(∀b∈G,H' b=b8)/\H' D=b8/\Vals O k/\s8.heap.PlainList D k.toArray/\W i m O H':=λ{s8 t Lb its' nn'} I8 W2 W3 n8 W4 W5 w8=>by
    have⟨m',hm,w8⟩:=w8;show⟨m',hm,i+1,Lb,its',t,I8.weak (by simp[ar]) (λj v e=>?_),W2,W3,n8,W4,W5,w8⟩;by_cases hj:j<B.length
    .rw[t6 (by simpa using hj),JI]at e;split at e<;>cases e
    .rw[nc (by simpa using(Nat.not_lt.mp hj)),Qr]at e;rw[nc ⋯,ar];show e
   have ag:∀{σ':St} {t:Hp} {s8:d5},Inv f ([(D,({cls:=.type "list",data:=.seq k.toArray nn}:Obj))]++kK G s5.heap) σ' t s8->s8.heap.get? D=a5 {cls:=.type "list",data:=.seq k.toArray nn}/\t D=b8/\tn (i+1) s8.heap/\∀b∈G,t b=b8:=λ{σ' t s8} I8=>by
    have p1:=I8.pin (D,({cls:=.type "list",data:=.seq k.toArray nn}:Obj)) (by rw[P6];simp);show⟨p1.1,p1.2.1,T.keep _ _ _ Mx λb h o e=>(I8.pin (b,o) (kr _ (kr _ (fu h e)))).1,λb h=>?_⟩;have⟨o,e,d⟩:=T.obj _ _ Mx b h;show(I8.pin (b,o) (kr _ (kr _ (fu h e)))).2.1
   cases b with
   |false =>
    rw[ł i0]at q7 ⊢;have⟨p1,p2,p3,p4⟩:=ag I7;show ac (nn':=0) (I7.eJ λp L=>by cases L) p3 p4 p2 Ro ⟨nn,p1⟩ (Ve _ _ q7)
   |true =>
    rw[Ł rfl]at q7 ⊢;have a8:=S9 _ s7 _ H7 _ I7 q7;rw[eP,ew,eA,ee,S7]at a8;show i9 a8 (λy s8 ⟨yv,t,I8,r8,q8⟩=>?_) λ_ _ z=>ME z;have⟨p1,p2,p3,p4⟩:=ag I8;have hsz:k.toArray.size<=cL:=by rw[et,<-Ro.length];show ab
    show wpAny_list_append_plain (hsz:=hsz) ⟨nn,p1⟩ λh9 W6 Vf=>?_;have W7:Inv f [] (ow++σ) t s8:=I8.eJ λp L=>by cases L
    have Rp:∀x c,f.env.cells.lookup x=a5 c->c≠D:=λx c e=>by
     have e1:f.env.cells=bM X.env scope.names []:=by rw[ee];rfl
     rw[e1]at e;have q:=fz scope.names [] (λn c e=>by simp at e) x c e;have⟨v,z⟩:=I.cell x c q;have:@Qx Nat _ c s.heap.objs.size:=z.lt;show gs (by change @Qx Nat _ c D;lia)
    have I9:Inv f [] (ow++σ) t {s8 with heap:=h9,toks:=s8.toks}:=W7.turned (it:=D) (λb o h e=>(Vf.2 b h).trans e) p2 (by rw[el];show gs (by change @Qx Nat _ D C;lia)) (.inr (by rw[s0];change @Ē Nat _ s.heap.objs.size D;lia)) Rp (λp L=>by rw[P6]at L;cases L);have W8:(k++[y]).toArray=k.toArray.push y:=by simp
    show ac (nn':=0) (s8:={s8 with heap:=h9,toks:=s8.toks}) I9 (T.keep _ _ _ p3 λb h o e=>(Vf.2 b ?_).trans e) p4 p2 (Ro.append (.cons r8 .nil)) (by rw[W8];show W6) (Ve _ _ q8);have:=Ny b h;show gs (by change @Qx Nat _ b D;lia)
 show codeAny_compStart_list (start _ rfl) (T.self _ _ _ _ _ st4 (start _ rfl))
def kU{RR:dt->d7->Result->d5->Prop}
    (S:eU X N d scope) (G:X.calm=bD) (L:∀C s H ex,PG (Kg X N scope C s H ex) v g) (O:∀C s H ex,Nw (Kg X N scope C s H ex) l Y) (he:∀C s H ex,PE (Kg X N scope C s H ex) elt te)
 (I:Inv X pins σ H s) (T:Turn X.prog X.w X.K v J x it tn) (st:tn 0 s.heap) (f2:∀b∈x,iC X pins H b) (W:ua d.length J g Y te Q σ H)
    (m:∀D C f c h j,@Eq Nat D s.heap.objs.size->@Eq Nat C (s.heap.objs.size+1)->Inv (Kg X N scope C s H x) [] (i2 d.length b8++σ) c f->c D=b8->Vals h j->f.heap.PlainList D j.toArray->h.length<=cL->(∀p,c p=b8->Q (.ref p) (upd c p (.lst h)))->RR (.ref D) C (.ok .next) f) :
    d3 (eh X.prog X.w) X.A (Ć []) (λacc s₃=>d3 (eh X.prog X.w) X.A (newFunctionEnv scope X.env.globals (bM X.env scope.names []) [] X.env.qual b8 .none (a5 X.env)) (λz s₄ =>
      Qv (eh X.prog X.w) X.A (.compStart (.ListComp elt [⟨v,B,l,0⟩] scope pos) 0 (.ref it) acc {z with scope:=TJ scope X.env}) (RR acc z.locals) s₄) E s₃) E s:=by
  show wk (wpAny_newFunctionEnv S.LP (by intro y hy;simp at hy) (λn q k=>?_) S.kind)
  dsimp only at q k ⊢
  generalize r:s.heap.push {cls:=.type "list",dict:=b8,data:=.seq ([]:List dt).toArray}=i at q k ⊢;have t:i.objs.size=s.heap.objs.size+1:=by rw[<-r,WT]
  have S6:s.heap.objs.size≠i.objs.size:=by rw[t];show gs (OH _)
  have a:∀b:d7,b<s.heap.objs.size->b≠i.objs.size:=λb hb=>gs (by have KR:@Qx Nat _ b s.heap.objs.size:=hb;change @Qx Nat _ b i.objs.size;lia);have u:∀b o,s.heap.get? b=a5 o->n.get? b=a5 o:=λb o e=>k.extBut b o (a b (d8 e)) (c2 _ (r▸c2 _ e));have J8:n.PlainList s.heap.objs.size #[]:=⟨_,k.extBut _ _ S6 (c2 _ (r▸eH _ rfl))⟩
  show xN (s:=s) (s4:={s with heap:=n,toks:=s.toks+([]:List (Str×dt)).length}) (C:=i.objs.size) (D:=s.heap.objs.size) S G L O he I T st f2 W rfl t rfl rfl u ⟨_,q⟩ J8
    λf c h j I5 n5 P8 P9 P_ q5=>m _ _ f c h j rfl t I5 n5 P8 P9 P_ q5
def AN(S:eU X N b scope)(l:X.calm=bD)(m:PI X d a n)(o:∀C s H ex,PG (Kg X N scope C s H ex) d g)(p:∀C s H ex,Nw (Kg X N scope C s H ex) c q)(r:∀C s H ex,PE (Kg X N scope C s H ex) elt t)
  (hs:∀x,LS a X.env x=pure x:=by intro _;rfl):PE X (.ListComp elt [⟨d,a,c,0⟩] scope pos) (xM b.length n g q t):=by
 intro pins s σ H Q I h;rw[eval_ListComp];show Zu (use:=b8) (cl:=bM X.env scope.names []) rfl hs (eZ (S.cells I.ok)) S.kind S.names ?_;show Jo (m pins s σ H _ I h) λv s1 u=>Jo u λRg s2 y=>?_;have⟨it,fp,tn,J,H2,e,f,T,st2,i,W⟩:=y;subst e;show kU (RR:=λacc C=>compPost (eh X.prog X.w) X.A X.xe b8 (EP X pins σ Q) acc C) S l o p r f T st2 i W ?_;intro D C s5 H5 ys A' z hC j k B G L O;obtain⟨Y,Tf,_⟩:=j.loc;show⟨Y,Tf,λh' sb=>⟨.ref D,_,pY f j (Za z.symm) (by change @Ē Nat _ s2.heap.objs.size C;lia) (gs (by change @Qx Nat _ D C;lia)) k B G L sb i,rfl,O D k⟩⟩
def AO(S:eU X N q scope)(hc:X.calm=bD)(hN:X.N.Nodup)(Rq:X.N[i]?=a5 y)(u:X.env.scope.names.lookup y=a5 .local)
  (hi:PI X m d wi) (hg:∀C s H ex,PG (Kg X N scope C s H ex) m g) (hf:∀C s H ex,Nw (Kg X N scope C s H ex) j tt) (he:∀C s H ex,PE (Kg X N scope C s H ex) elt te)
  (Nb:O6 (.ListComp elt [⟨m,d,j,0⟩] scope pos) (a5 (.Name y l)) Mj.line X.env=pure bD:=by rfl)
  (hs:∀x,LS d X.env x=pure x:=by intro _;rfl):PS X (.Assign [.Name y l] (.ListComp elt [⟨m,d,j,0⟩] scope pos) Mj) (Dt (xM q.length wi g tt te) (tV i)):=by
 intro pins s σ H D I h;rw[exec_Assign_Name_used _ _ _ _ Nb];show b6 (Zm (b6 ?_));change d3 _ X.A (do let _ <-comprehension (.ListComp elt [⟨m,d,j,0⟩] scope pos) scope X.env _ (Ć []) cc (uk d X.env) (a5 (Sl (.Name y l) X.env))) _ _ s;show b6 (i9 (Zu (use:=a5 (Sl (.Name y l) X.env)) (cl:=bM X.env scope.names []) (Q:=λ_ s'=>SP X pins D .next s') rfl hs (eZ (S.cells I.ok)) S.kind S.names ?_) (λ_ s' hq=>c4 (c4 hq)) λ_ _ e=>e);show Jo (hi pins s σ H _ I h) λv s1 h1=>Jo h1 λRg s2 h2=>?_;have⟨it,fp,tn,J,H2,e,k,T,st2,G,W⟩:=h2;subst e;show kU (RR:=λacc C=>compPost (eh X.prog X.w) X.A X.xe (a5 (Sl (.Name y l) X.env)) (λ_ s'=>SP X pins D .next s') acc C) S hc hg hf he k T st2 G W ?_;intro f C n r L A' hD hC t O P8 P9 P_ q5;obtain⟨m5,Tf,_⟩:=t.loc;have W9:r C=b8:=t.free;have B:Inv X pins σ (upd r f (.lst L)) {n with heap:=n.heap}:=pY k t (Za hD.symm) (by change @Ē Nat _ s2.heap.objs.size C;lia) (gs (by change @Qx Nat _ f C;lia)) O P8 P9 P_ (C0 ..) G;change d3 _ X.A (Sl (.Name y l) X.env (.ref f)) _ _ n;show ā (mO (s:=n) B hN Rq (.inl u) (show RelV (.ref f) (.ref f) from rfl) (λs6 I6 ⟨a,sb,ha⟩=>?_) (.inr u));have Y:@Qx Nat _ X.env.locals C:=by have:@Qx Nat _ X.env.locals s2.heap.objs.size:=k.lt;lia
 have MK:∀x c,X.env.cells.lookup x=a5 c->c≠C:=λx c e=>by
  have⟨v,z⟩:=k.cell x c e;have:@Qx Nat _ c s2.heap.objs.size:=z.lt;show gs (by change @Qx Nat _ c C;lia)
 have W_:C≠a:=by
  rcases ha with z|z
  .rw[z];show Kk Y
  .show(MK _ _ z).symm
 show⟨m5,Tf.sameBut sb W_,λh' Qa=>?_⟩;show⟨σ.set i (a5 (.ref f)),upd r f (.lst L),I6.turned (it:=C) (t':=s6.toks) (λb o hb e=>(Qa.2 b hb).trans e) ?_ (Kk Y) (.inr (by have:@Ē Nat _ X.s₀.heap.objs.size s2.heap.objs.size:=k.sz;change @Ē Nat _ X.s₀.heap.objs.size C;lia)) MK (λp hp=>?_),q5 f O⟩
 .rw[av (Kk (by change @Qx Nat _ f C;lia))];show W9
 .have:@Qx Nat _ p.1 s2.heap.objs.size:=d8 (k.pin p hp).1;show gs (by change @Qx Nat _ p.1 C;lia)
end
section
end
section
abbrev Gq:V->Option Int->Option Int->Hp->VK->Prop:=λx lo a H Q=>∃z,x=.str z/\z.length<=cL/\Q (.str (PySem.StrLaws.sliceText z lo a)) H
def mC(x:Str)(lo a:Option Int)(hz:x.length<=cL):(PySem.StrLaws.sliceText x lo a).length<=cL:=vr (Txt.slice_le x lo a) hz
def DT:NR X Gq:=by
 intro pins s σ H x v m n lo b o Q I f hs g d h;have⟨z,rfl,hz,q⟩:=h;have⟨t,rfl⟩:=f;show⟨"str",_,ğ.lookup,Yw _ _ _,?_⟩;have a:(PySem.StrLaws.sliceText z lo b).length<=cL/\∀t' k,EP X pins σ Q (.str (PySem.StrLaws.sliceText z lo b) t') {s with toks:=k}:=⟨mC z lo b hz,λt' k=>⟨.str _,H,I.tok k,⟨_,rfl⟩,q⟩⟩
 cases g with
 |none =>
  cases d with
  |none=>show Qm (l:=b8) (u:=b8) (st:=b8) hs rfl (Uq a)
  |int j c=>show Qm (l:=b8) (u:=a5 (j,c)) (st:=b8) hs rfl (Uq a)
 |int i e =>
  cases d with
  |none=>show Qm (l:=a5 (i,e)) (u:=b8) (st:=b8) hs rfl (Uq a)
  |int j c=>show Qm (l:=a5 (i,e)) (u:=a5 (j,c)) (st:=b8) hs rfl (Uq a)
theorem iJ:∀{a:List Str}{b:List dt},Vals (a.map V.str) b->∃l:List (Str×Tok),b=strValues l/\l.map (·.1)=a
 |[],_,.nil=>⟨[],rfl,rfl⟩
 |y::a,_,.cons r t=>by
  have⟨c,rfl⟩:=r;have⟨l,rfl,e⟩:=iJ t;show⟨(y,c)::l,rfl,by rw[ei,e]⟩
def AQ:SJ X "str.join" (λx xs H Q=>∃a p b,x=.str a/\xs=[.ref p]/\JN X.K H p (b.map V.str)/\ø a b=bD/\Q (.str (TY a b)) H):=by
 intro pins s σ H x xs v us Q I c rs h;have⟨a,p,b,rfl,rfl,d,f,q⟩:=h;have⟨t,rfl⟩:=c;have⟨u,rfl,r⟩:=vals1 rs;cases r;have⟨i,rv,g,hz⟩:=I.list d;have⟨l,rfl,e⟩:=iJ rv;show SC.join g.isList e f λt' k=>⟨.str _,H,I.tok k,⟨_,rfl⟩,q⟩
theorem jM:∀{bs:List Bool}{a:List dt},Vals (bs.map V.bl) a->a=bs.map Oi
 |[],_,.nil=>rfl
 |b::bs,_,.cons r t=>by
  cases r;rw[jM t];rfl
def xO:X.calm=bD->iD X (.builtin "all") (λxs H Q=>∃(p:d7) (bs:List Bool),xs=[.ref p]/\JN X.K H p (bs.map V.bl)/\Q (.bl (bs.all id)) H):=by
 intro f pins s σ H xs us Q I rs h;have⟨p,bs,rfl,g,q⟩:=h;have⟨u,rfl,r⟩:=vals1 rs;cases r;have⟨m,rv,c,hz⟩:=I.list g;have e:=jM rv;subst e;have j:p<s.heap.objs.size:=by obtain⟨_,_,e,_⟩:=c;show d8 e
 show call_all_walk (Wl c.isList ?_);show⟨s.heap.objs.size,[s.heap.objs.size,p],[s.heap.objs.size],(bs.map Oi).toArray.size,_,_,λi=>(bs[i]?).getD bD,rfl,Ĝ (A:=X.A.in1) (I.ok.hd f) _ p (gs j) (bs.map Oi).toArray,
  ⟨⟨_,eH _ rfl,rfl,rfl⟩,c.isList.push _⟩,λi v s' Q' n k d=>?_,λh' l hk=>?_⟩
 .have a:(bs.map Oi)[i]?=a5 v:=by simpa using k
  rw[ki]at a;cases e:bs[i]? with
  |none=>rw[e]at a;cases a
  |some b =>
   rw[e]at a;cases a;simp only[e,Option.getD_some]at d;show wh d
 .have e:((fx (bs.map Oi).toArray.size).all λi=>(bs[i]?).getD bD)=bs.all id:=by
   rw[et,df];show è bs
  rw[e];show⟨.bl _,H,I.kept (t':=l) (é hk),rfl,q⟩
end
section
end
abbrev DU(N a:List Str)(scope:LU)(out:List (Str×O3)):Bool :=
 cK (scope.kind=.function)&&scope.names.all (λy=>cK (y.2≠.cell))&&scope.names.all (λy=>cK (y.2≠.local)||decide (scope.names.lookup y.1=a5 .local))&&decide N.Nodup&&cK (N.take a.length=a) &&
 scope.names.all (λy=>cK (y.2≠.local)||decide (y.1∈a)||decide (y.1=".0"))&&cK ((".0":Str)∉N)&&scope.names.all (λy=>cK (y.2≠.free)||decide (out.lookup y.1=a5 .cell)||decide (out.lookup y.1=a5 .free))&&scope.names.all (λy=>cK (y.1≠".")&&cK (y.1≠".."))
def xP(c:X.env.scope.names=out)(d:eT (N.drop a.length) X.N)(h:DU N a scope out=bD):eU X N a scope:=by
 unfold DU at h;simp only[cb,i7,Lx,ŀ]at h;obtain⟨⟨⟨⟨⟨⟨⟨⟨f,g⟩,i⟩,j⟩,k⟩,l⟩,m⟩,n⟩,o⟩:=h;show⟨f,g,λy b e=>?_,j,k,λy b e=>?_,m,d,λy b e=>?_,o⟩
 .rcases i y b with z|z
  .show absurd e z
  .show z
 .rcases l y b with(z|z)|z
  .show absurd e z
  .show .inl z
  .show .inr z
 .rw[c];rcases n y b with(z|z)|z
  .show absurd e z
  .show .inl z
  .show .inr z
section
end
section
end
abbrev Lp(a b:Str):Bool:=!cK (b.cps.toList<a.cps.toList)
def kh(a b:Str):Lp a b=bD↔a.cps.toList<=b.cps.toList:=by
 simp only[Lp,nH,decide_eq_false_iff_not];show List.not_lt
def mZ(a b c:Str)(d:Lp a b=bD)(e:Lp b c=bD):Lp a c=bD:=by
 rw[kh]at d e ⊢;show List.le_trans d e
def vQ(a b:Str):(Lp a b||Lp b a)=bD:=by
 rw[Lx,kh,kh];show List.le_total _ _
def xQ{x y:Str}(h:x.cps.toList=y.cps.toList):x=y:=by
 cases x;cases y;congr
 show Array.toList_inj.mp h
def oI(c:Lp a b=bD)(d:Lp b a=bD):a=b:=by
 rw[kh]at c d;show xQ (List.le_antisymm c d)
abbrev aH(l:List Str):List Str:=l.mergeSort Lp
def bc(l:List Str):(aH l).Perm l:=List.mergeSort_perm l Lp
def e_(l:List Str):(aH l).Pairwise (λa b=>Lp a b=bD):=List.pairwise_mergeSort mZ vQ l
theorem iK:∀(l:List Str) (p:Str),risingS p l=bD->(p::l).Pairwise (λa b=>Lp a b=bD)
 |[],p,_=>by simp
 |x::r,p,h=>by
  have h':(!ltCps x.cps.toList p.cps.toList&&risingS x r)=bD:=h;have⟨c,g⟩:=t5.mp h';have d:=iK r x g;have f:Lp p x=bD:=by rw[ltCps_eq]at c;show c
  show Rv.mpr ⟨λy i=>?_,d⟩;rcases d4.mp i with e|e
  .rw[e];show f
  .show mZ _ _ _ f ((Rv.mp d).1 y e)
def oJ(h:sortedS l=bD):l.Pairwise (λa b=>Lp a b=bD):=by
 cases l with
 |nil=>show .nil
 |cons x r=>show iK r x h
theorem gr:∀{l m:List Str},l.Perm m->l.Pairwise (λa b=>Lp a b=bD)->m.Pairwise (λa b=>Lp a b=bD)->l=m
 |[],m,c,_,_=>(List.Perm.nil_eq c)
 |x::l,m,c,d,f=>by
  cases m with
  |nil=>show absurd c.length_eq (by simp)
  |cons y m =>
   have⟨g,h⟩:=Rv.mp d;have⟨b1,i⟩:=Rv.mp f;have j:x=y:=by
    have m1:x∈y::m:=c.mem_iff.mp mu;have m2:y∈x::l:=c.mem_iff.mpr mu;rcases d4.mp m1 with e|e
    .show e
    .rcases d4.mp m2 with e'|e'
     .show e'.symm
     .show oI (g y e') (b1 x e)
   subst j;rw[gr (List.Perm.cons_inv c) h i]
def xR(a:l.Perm m)(hs:sortedS l=bD):l=aH m:=gr (a.trans (bc m).symm) (oJ hs) (e_ m)
def fS(a:l.Perm m):aH l=aH m:=gr ((bc l).trans (a.trans (bc m).symm)) (e_ l) (e_ m)
def bO(l:List Str):(aH l).length=l.length:=(bc l).length_eq
section
theorem cR:∀{a:List Str}{b:List dt},Vals (a.map V.str) b->Qw b a
 |[],_,.nil=>.nil
 |y::a,_,.cons r t=>by
  have⟨c,rfl⟩:=r;show .cons y c (cR t)
theorem dP:∀{a:List dt}{b:List Str},Qw a b->Vals (b.map V.str) a
 |_,_,.nil=>.nil
 |_,_,.cons x t h=>.cons ⟨t,rfl⟩ (dP h)
theorem fA(hc:d3 (eh prog w) A.in1 (Z9 x) (λvs s1=>∃ss,Qw vs ss/\vs.length<64 /\
      ∀(h':DD) (JK:List dt) (e:Nat),(∀b o,s1.heap.get? b=a5 o->h'.get? b=a5 o)->h'.get? s1.heap.objs.size=a5 (w6 "list" JK.toArray e)->Qw JK (aH ss)->Q (.ref s1.heap.objs.size) {s1 with heap:=h' }) E s) :
    d3 (eh prog w) A (NK (.builtin "sorted") [x]) Q E s:=by
  refine WU kind_sorted plain_sorted entry_sorted (args_sorted1 _) ?_;unfold NM.«sorted»;refine b6 (m:=checkCount "sorted" 1 1 _) (c4 ?_);refine b6 (i9 hc (λvs s1 h1=>?_) λ_ _ e=>e);obtain⟨ss,hS,LJ,h⟩:=h1
  refine wpAny_bind (wpAny_newList ?_ (by have : (64 : Nat) ≤ sizeLine := by decide
                                          lia))
  have Nt:(s1.heap.push (w6 "list" vs.toArray 0)).get? s1.heap.objs.size=a5 (w6 "list" vs.toArray 0):=eH _ rfl;show d3 _ _ _ _ _ {s1 with heap:=s1.heap.push (w6 "list" vs.toArray 0)};refine b6 (tj (Jw ļ ⟨_,Nt,rfl⟩ Ĩ (list_sort_treeK strKind_oneLt Nt hS.keysOf (λv₁ v₂ rest e=>keyKind_strs (by rw[<-e];exact hS)) LJ λst' a1 a2=>⟨_,rfl,?_⟩) (ľ _)));obtain⟨LR,b1,b2,b3⟩:=sorted_out_str hS a1 a2;obtain⟨e,he⟩:=sortedHeap_at (out:=(arrOf st').map (·.2)) Nt;rw[xR b2 b3]at b1;refine c4 ⟨_,rfl,h _ ((arrOf st').map (·.2)).toList e (λb o q=>?_) (by rw[Zd];exact he) b1⟩;have JB:b<s1.heap.objs.size:=d8 q;show(ú (s1.heap.push (w6 "list" vs.toArray 0)) s1.heap.objs.size vs ((arrOf st').map (·.2))).get? b=a5 o;rw[Ļ (gs JB) (by rw[Mc];exact Sh JB)];exact c2 _ q
def mD(hl:Ŀ s.heap l vs.toArray)
  (h:Q vs {s with heap:=(s.heap.push (w6 "list" #[] 0)).update s.heap.objs.size (nC (·++vs.toArray))}) (hsz:vs.length<=cL) :
  d3 (eh prog w) A (Z9 (.ref l)) Q E s:=by
 have⟨o,ho,b,n,c⟩:=id hl;unfold Z9;show b6 (Yv (J4 entry_proto_collect' ?_));change d3 _ _ (do ĵ (.builtin "list.__iadd__" ⟨[<-Ć [],.ref l],[]⟩)) _ _ s;show b6 (Zt (c4 ⟨US _ (by decide +kernel),J4 entry_list_iadd' ?_⟩));change d3 _ _ (r6 (.ref s.heap.objs.size) (.ref l) (.ref s.heap.objs.size)) _ _ {s with heap:=s.heap.push (w6 "list" #[] 0)};unfold r6;have a:(s.heap.push (w6 "list" #[] 0)).get? l=a5 o:=c2 _ ho;show b6 (Wc (T:="tuple") ⟨o,a,b⟩ ?_);have d:(ri "tuple"==ri "tuple")=bD:=by rfl
 rw[Ł (by rw[d];simp)];show b6 (È a c ?_);show b6 (È (xs:=#[]) (n:=0) (eH _ rfl) rfl ?_);rw[ł (by simp)];show b6 (VJ (xs:=#[]) (n:=0) (eH _ rfl) rfl ?_ (i8 _) (by change(#[]++vs.toArray).size<=cL+1;simp only[Vg,et,V3];lia));show c4 ?_;change d3 (eh prog w) A (do
   let o <-load s.heap.objs.size
   match o.data with
   |.seq xs _=>pure xs.toList
   |_=>XS "internal:collect") Q E {s with heap:=(s.heap.push (w6 "list" #[] 0)).update s.heap.objs.size (nC (·++vs.toArray))}
 show b6 (î (ħ (eH _ rfl) _) ?_);change d3 _ _ (pure ((#[]:Array dt)++vs.toArray).toList) Q E _;rw[show((#[]:Array dt)++vs.toArray).toList=vs by simp];show c4 h
end
section
def mE{h:DD}{vs:List dt}(e:h.get? b=a5 o):((h.push (w6 "list" #[] 0)).update h.objs.size (nC (·++vs.toArray))).get? b=a5 o:=by
 rw[OT _ _ _ _ (gs (d8 e))];show c2 _ e
def pZ(I:Inv X pins σ H s)(k1:∀b o,s.heap.get? b=a5 o->s1.heap.get? b=a5 o)(g:∃c a,s1={s with heap:=c,toks:=a})
  (hk:∀b o,s1.heap.get? b=a5 o->h'.get? b=a5 o) (h:h'.get? s1.heap.objs.size=a5 (w6 "list" d.toArray e)) (i:Qw d (aH ss)) (hsz:s.heap.objs.size<=s1.heap.objs.size) (hl:ss.length<=cL)
  (q:∀p,H p=b8->Q (.ref p) (upd H p (.lst ((aH ss).map V.str)))):EP X pins σ Q (.ref s1.heap.objs.size) {s1 with heap:=h' }:=by
 have⟨c,a,rfl⟩:=g;have f:Inv X pins σ H {s with heap:=c,toks:=a}:=I.kept (t':=a) k1;show⟨.ref c.objs.size,_,f.laid (t':=a) (o:=.lst ((aH ss).map V.str)) hk (hQ _) ⟨by rw[df,bO];show hl,d,e,dP i,h⟩,rfl,q _ (f.Jj.fresh (hQ _))⟩
def jN:iD X (.builtin "sorted") (λxs H Q=>∃(p:d7) (c:List Str),xs=[.ref p]/\(JN X.K H p (c.map V.str)\/JY X.K H p (c.map V.str))/\c.length<64/\∀q,H q=b8->Q (.ref q) (upd H q (.lst ((aH c).map V.str)))):=by
 intro pins s σ H xs us Q I rs h;have⟨p,c,rfl,hq,k,q⟩:=h;have⟨u,rfl,r⟩:=vals1 rs;cases r;have hl:c.length<=cL:=Qi (i1 k (by decide));have f:∀(a:List dt),Vals (c.map V.str) a->∀(h':DD) (d:List dt) (e:Nat),(∀b o,((s.heap.push (w6 "list" #[] 0)).update s.heap.objs.size (nC (·++a.toArray))).get? b=a5 o->h'.get? b=a5 o) ->
   h'.get? ((s.heap.push (w6 "list" #[] 0)).update s.heap.objs.size (nC (·++a.toArray))).objs.size=a5 (w6 "list" d.toArray e)->Qw d (aH c) ->
   EP X pins σ Q (.ref ((s.heap.push (w6 "list" #[] 0)).update s.heap.objs.size (nC (·++a.toArray))).objs.size) {s with heap:=h' }:=λa rv h' d e hk g i =>
  pZ (s1:={s with heap:=(s.heap.push (w6 "list" #[] 0)).update s.heap.objs.size (nC (·++a.toArray))}) I (λb o z=>mE z) ⟨_,s.toks,rfl⟩ hk g i (by change s.heap.objs.size<=((s.heap.push (w6 "list" #[] 0)).update s.heap.objs.size (nC (·++a.toArray))).objs.size;rw[Heap.size_update,Mc];show MT _) hl q
 rcases hq with hq|hq
 .have⟨a,rv,j,hz⟩:=I.list hq;have l:a.length=c.length:=by rw[<-rv.length,df]
  show fA (collect_list j.isList ⟨c,cR rv,⋯,λh' d e hk g i=>f a rv h' d e hk g i⟩ ⋯)
 .have⟨a,rv,j,hz⟩:=I.tuple hq;have l:a.length=c.length:=by rw[<-rv.length,df]
  show fA (mD j ⟨c,cR rv,⋯,λh' d e hk g i=>f a rv h' d e hk g i⟩ ⋯)
end
@[reducible]def sK(P:uv)(w:wq):=PySem.strKind P w
abbrev aU(P:uv)(w:wq)(h:DD)(a:d7)(led:Bool)(D:List Str):Prop :=
 ∃(L:List (Str×Tok)) (es:Array (Int×dt)) (ep:Nat) (t:O1),h.get? a=a5 {cls:=.type "set",dict:=b8,data:=.set es ep t}/\es.toList=L.map (λp=>((sK P w).hash p.1,tv p.1 p.2)) /\
  (L.map (·.1)).Perm D/\D.Nodup/\t.fits es.size=bD/\es.size<x3/\t.led=led/\(es.size=0\/t.plain=cc)
section
def kW{L:List (Str×Tok)}:ElemsOf (sK prog w) (L.map λp=>((sK prog w).hash p.1,tv p.1 p.2)):=by
 intro e a;obtain⟨p,_,rfl⟩:=js.mp a;show⟨⟨p.1,by simp[PySem.strKind,Uu],rfl⟩,rfl⟩
def gL(x y:Str)(t:Tok):(sK prog w).is x (.str y t)=cK (x=y):=by
 rw[JR];simp[PySem.strKind,Uu];show⟨λh=>h.symm,λh=>h.symm⟩
def rP(t:O1)(es:Array (Int×dt))(h:Int)(x:dt):(layNew t es h x).2.1.led=t.led:=by
 unfold layNew;split
 .change(Ye (t.put _).1 _).led=t.led;unfold Ye;split<;>rfl
 .rfl
def oK(t:O1)(es:Array (Int×dt))(n:Nat):(YP t es n).2.1.led=t.led:=by
 unfold YP;split
 .rename_i t' b a;have:t'.led=t.led:=by
   unfold Vr Te at a;cases c:Q3 (JU n - 1) (es.map (·.1)) with
   |none=>rw[c]at a;cases a
   |some o=>rw[c]at a;cases a;rfl
  dsimp only
  split
  .show this
  .rfl
 .rfl
def kX(t:O1)(es:Array (Int×dt))(n:Nat)(h:t.plain=cc):(YP t es n).2.1.plain=cc:=by
 unfold YP;split
 .rename_i t' b a;have:t'.plain=t.plain:=by
   unfold Vr Te at a;cases c:Q3 (JU n - 1) (es.map (·.1)) with
   |none=>rw[c]at a;cases a
   |some o=>rw[c]at a;cases a;rfl
  dsimp only
  split
  .rw[this];show h
  .rfl
 .rfl
def dn(h:l.Perm (L.map λp=>((sK prog w).hash p.1,tv p.1 p.2))):∃L':List (Str×Tok),l=L'.map (λp=>((sK prog w).hash p.1,tv p.1 p.2))/\L'.Perm L:=by
 have all:∀e∈l,∃p:Str×Tok,e=((sK prog w).hash p.1,tv p.1 p.2):=λe a=>by
  obtain⟨p,_,rfl⟩:=js.mp (h.mem_iff.mp a);show⟨p,rfl⟩
 have ex:∀l:List (Int×dt),(∀e∈l,∃p:Str×Tok,e=((sK prog w).hash p.1,tv p.1 p.2))->∃L':List (Str×Tok),l=L'.map (λp=>((sK prog w).hash p.1,tv p.1 p.2)):=by
  intro l;induction l with
  |nil=>intro _;show⟨[],rfl⟩
  |cons e l c =>
   intro b;have⟨p,rfl⟩:=b e mu;have⟨L',rfl⟩:=c λe a=>b e (ko _ a);show⟨p::L',rfl⟩
 have⟨L',rfl⟩:=ex l all;show⟨L',rfl,?_⟩;have g:(L'.map λp=>((sK prog w).hash p.1,tv p.1 p.2)).map (λe=>match e.2 with|.str x t=>(x,t)|_=>(ti,0))=L':=by
  rw[kb];show Zk _
 have d:(L.map λp=>((sK prog w).hash p.1,tv p.1 p.2)).map (λe=>match e.2 with|.str x t=>(x,t)|_=>(ti,0))=L:=by
  rw[kb];show Zk _
 have:=h.map (λe=>match e.2 with|.str x t=>(x,t)|_=>(ti,0));rw[g,d]at this;show this
theorem kY(hS:aU prog w s.heap a led D)(NV:D.length+1<x3)
    (h:∀h',mA a s.heap h'->aU prog w h' a led (if x∈D then D else D++[x])->Q (cK (x∉D)) {s with heap:=h' }) :
    d3 (eh prog w) A (setAddHashed a (.str x tk) ((sK prog w).hash x)) Q E s:=by
  obtain⟨L,es,ep,t,ho,J1,Jk,Ju,hf,hb,J3,JZ⟩:=hS;have Oy:(sK prog w).is x (.str x tk)=bD:=by rw[gL];simp
  have Qc:ElemsOf (sK prog w) es.toList:=by rw[J1];exact kW
  have hlen:es.size=D.length:=by rw[<-eM,J1,df,<-df (f:=ê) (as:=L),Jk.length_eq]
  unfold setAddHashed setAddHashedIn;refine tj (b6 (l0 ho rfl hf ?_))
  dsimp only
  rw[byScan_of (knd:=sK prog w) rfl hb Qc];simp only[↓reduceIte];unfold setAddByScan;refine b6 ?_;refine b6 (OY ?_);refine b6 (Ĕ (knd:=sK prog w) Oy ho rfl hf Qc ?_);have mem_iff:(∃e∈es.toList,(sK prog w).is x e.2=bD)↔x∈D:=by
    rw[J1,<-Jk.mem_iff,js];constructor
    · rintro⟨e,he,hi⟩
      obtain⟨p,hp,rfl⟩:=js.mp he;rw[gL,ŀ]at hi;exact⟨p,hp,hi.symm⟩
    · rintro⟨p,hp,e⟩
      exact⟨_,js.mpr ⟨p,hp,rfl⟩,by rw[gL];simp[e]⟩
  cases hr:X4 (λe=>(sK prog w).is x e.2) es.toList with
  | some j =>
    dsimp only
    obtain⟨hj,Rr,_⟩:=Vc.mp hr;have hx:x∈D:=mem_iff.mp ⟨es.toList[j],KH hj,Rr⟩;refine c4 (c4 ?_);have e:s={s with heap:=s.heap}:=by cases s;rfl
    have:=h s.heap (C0 a s.heap) (by rw[Ł hx];exact⟨L,es,ep,t,ho,J1,Jk,Ju,hf,hb,J3,JZ⟩);rw[Ń (λz=>z hx)]at this;rw[e];exact this
  | none =>
    dsimp only
    have hx:x∉D:=λhx=>by
      obtain⟨e,he,hp⟩:=mem_iff.mpr hx;have:=XB.mp hr e he;rw[hp]at this;exact Bool.noConfusion this
    have Xa:∀(b:Bool) {s₁:d5} {Q':Unit->d5->Prop},Q' () s₁->d3 (eh prog w) A (match b with|true=>Ě "set.scan.the-table-gave-way"|false=>pure ()) Q' E s₁ :=
      λb s₁ Q' hq=>by cases b<;>first|exact c4 hq|exact OY hq
    have Ph:=layNew_perm t es ((sK prog w).hash x) (.str x tk);have L9:=layNew_fits t es ((sK prog w).hash x) (.str x tk);have L_:=rP t es ((sK prog w).hash x) (.str x tk);generalize hL:layNew t es ((sK prog w).hash x) (.str x tk)=NL at Ph L9 L_ ⊢;obtain⟨JT,t1,ML,Xb⟩:=NL
    dsimp only at Ph L9 L_ ⊢
    rw[ZS,J1,show [((sK prog w).hash x,tv x tk)]=[(x,tk)].map (λp=>((sK prog w).hash p.1,tv p.1 p.2)) from rfl,<-ke]at Ph;obtain⟨L1,e1,Xc⟩:=dn Ph;have Oz:JT.size=D.length+1:=by rw[<-eM,Ph.length_eq,df,hY,<-hlen,<-eM,J1,df];rfl
    have Vh:JT.size<x3:=by lia
    have NW:(L1.map (·.1)).Perm (D++[x]):=(Xc.map _).trans (by rw[ke];exact Jk.append_right _);have Vi:(D++[x]).Nodup:=by
      rw[ro]
      exact ⟨Ju, by simp, fun y hy z hz => by have : z = x := by simpa using hz
                                              subst this;rintro rfl;exact hx hy⟩
    refine b6 (Xa _ ?_);have Ly:∀h',mA a s.heap h'->aU prog w h' a led (D++[x])->Q bD {s with heap:=h' }:=λh' sb hs=>by
      have:=h h' sb (by rw[ł hx];exact hs);rw[ń hx]at this;exact this
    have tail:∀(g:Bool->Sem Unit),(∀(b:Bool) (s₁:d5) (Q':Unit->d5->Prop),Q' () s₁->d3 (eh prog w) A (g b) Q' E s₁)->∀(R:Option Bool->d5->Prop),(∀h',mA a s.heap h'->aU prog w h' a led (D++[x])->R (a5 bD) {s with heap:=h' })->∀t2:O1,t2.fits JT.size=bD->t2.led=led->t2.plain=cc->d3 (eh prog w) A (do
        storeSet a JT t2
        if (!ML&&t2.tooFull)=true then do
            g (relayAll t2 JT (SetTable.grown JT.size)).2.2
            storeSet a (relayAll t2 JT (SetTable.grown JT.size)).1 (relayAll t2 JT (SetTable.grown JT.size)).2.1
            pure (some true)
          else pure (a5 bD)) R E s:=by
      intro g hg R hR t2 Xd MM NA;refine b6 (Wj ho rfl ?_ (WB Vh));have Nc:(s.heap.update a (PN JT t2)).get? a=a5 {cls:=.type "set",dict:=b8,data:=.set JT (ep+1) t2}:=by
        have:=tr (PN JT t2) ho rfl;exact this
      have Qd:=wz s.heap a (PN JT t2);split
      · have hp:=relayAll_perm t2 JT (Nq JT.size)
        have Ma:=relayAll_fits t2 JT (Nq JT.size);have Tg:=oK t2 JT (Nq JT.size);have Pj:=kX t2 JT (Nq JT.size) NA;generalize Th:YP t2 JT (Nq JT.size)=Rl at hp Ma Tg Pj ⊢;obtain⟨KW,t3,Vj⟩:=Rl
        dsimp only at hp Ma Tg Pj ⊢
        rw[e1]at hp;obtain⟨L2,e2,Xe⟩:=dn hp;have hsz:KW.size=JT.size:=by rw[<-eM,hp.length_eq,<-e1,eM]
        refine b6 (hg _ _ _ ?_);refine b6 (Wj Nc rfl ?_ (WB ⋯));have NX:((s.heap.update a (PN JT t2)).update a (PN KW t3)).get? a=a5 {cls:=.type "set",dict:=b8,data:=.set KW (ep+1+1) t3}:=tr (PN KW t3) Nc rfl;refine c4 (hR _ (Qd.trans (wz _ a _)) ⟨L2,KW,_,t3,NX,e2,(Xe.map _).trans NW,Vi,Ma,⋯,Tg.trans MM,.inr Pj⟩)
      · exact c4 (hR _ Qd ⟨L1,JT,_,t2,Nc,e1,NW,Vi,Xd,Vh,MM,.inr NA⟩)
    split
    · rename_i hp
      refine b6 ?_;rw[hashByValue_scannable 8 rfl];refine c4 ?_;have ep:(if plainKind (tv x tk)=bD then t1 else {t1 with plain:=cc})={t1 with plain:=cc}:=rfl;rw[ep];refine tail _ ?_ _ ?_ {t1 with plain:=cc} (SetTable.fits_plain_off L9) (L_.trans J3) rfl
      · intro b s₁ Q' hq;cases b<;>first|exact c4 hq|exact OY hq
      · intro h' Kh K6;dsimp only;exact c4 (Ly h' Kh K6)
    · rename_i hp
      refine b6 (c4 ?_);simp only[↓reduceIte];refine tail _ ?_ _ ?_ t1 L9 (L_.trans J3) (Bool.eq_false_iff.mpr hp)
      · intro b s₁ Q' hq;cases b<;>first|exact c4 hq|exact OY hq
      · intro h' Kh K6;dsimp only;exact c4 (Ly h' Kh K6)
end
abbrev j6(D:List Str)(x:Str):List Str:=if x∈D then D else D++[x]
abbrev aD(l:List Str):List Str:=l.foldl j6 []
theorem rQ(h:D.Nodup):(j6 D x).Nodup:=by
  unfold j6;split
  · exact h
  · rename_i hx
    rw[ro]
    exact ⟨h, by simp, fun y hy z hz => by have : z = x := by simpa using hz
                                           subst this;rintro rfl;exact hx hy⟩
theorem fB:∀(l D:List Str),D.Nodup->(l.foldl j6 D).Nodup/\(∀x,x∈l.foldl j6 D↔x∈D\/x∈l)/\(l.foldl j6 D).length<=D.length+l.length
 |[],D,h=>⟨h,by simp,by simp⟩
 |y::l,D,h=>by
  have⟨a,b,f⟩:=fB l (j6 D y) (rQ h);have c:∀x,x∈j6 D y↔x∈D\/x=y:=λx=>by
   unfold j6;split
   .rename_i d;show⟨.inl,λz=>z.elim id (λe=>e▸d)⟩
   .simp
  have hl:(j6 D y).length<=D.length+1:=by
   unfold j6;split
   .lia
   .simp
  show⟨a,λx=>?_,by rw[SQ,i6];lia⟩;rw[SQ,b,c,d4,or_assoc]
def bC(l:List Str):(aD l).Nodup:=(fB l [] Ts).1
def bG(l:List Str)(x:Str):x∈aD l↔x∈l:=by rw[aD,(fB l [] Ts).2.1];simp
def rR(l:List Str):(aD l).length<=l.length:=by have:=(fB l [] Ts).2.2;simpa[aD] using this
def p7(l:List Str)(x:Str):aD (l++[x])=j6 (aD l) x:=by unfold aD;rw[List.foldl_append];rfl
section
variable{prog:uv}{w:wq}{A:M9}{R:Result->d5->Prop}{I:d7}{fp wr:List d7}{G:Array Y8->Array Y8->Prop}{n:Nat}{P:Nat->dt->Prop}{St:Nat->d5->Prop}
def jq(W:ô prog w A.in1 I fp wr G n P St)(S:d7)(l:S∉fp)(led:Bool)
  (a:List Str) (hn:a.length=n) (u:∀i v,P i v->∃x t,a[i]?=a5 x/\v=.str x t) (c:n+1<x3) :
  ∀(k i:Nat) (s:d5),n - i=k->i<=n->St i s->aU prog w s.heap S led (aD (a.take i)) ->
   (∀s',Moved (S::wr) G s s'->aU prog w s'.heap S led (aD a)->R (.ok (.ret .none)) s') ->
   Qv (eh prog w) A (.builtin "set.update.loop" ⟨[.ref S,.ref I],[]⟩) R s:=by
 have m:S∉wr:=λh=>l (W.sub _ h);have p:∀b∈wr,b∈S::wr:=λb c=>ko _ c;intro k;induction k with
 |zero =>
  intro i s hk y g f j;have z:i=n:=by lia
  subst z;show J4 Sg ?_;rw[NQ M' _];change d3 _ A.in1 (TN (.ref I) >>= _) _ _ s;show b6 (W.done s _ _ g λs' d=>?_);change d3 _ A.in1 (ret mN) _ _ s';rw[M5 ⋯]at f;show c4 (j s' (d.mono p) (by
   have⟨L,es,ep,t,ho,rest⟩:=f;show⟨L,es,ep,t,d.heap S _ m ho,rest⟩))
 |succ k B =>
  intro i s hk y g f j;have q:i<n:=by lia
  show J4 Sg ?_;rw[NQ M' _];change d3 _ A.in1 (TN (.ref I) >>= _) _ _ s;show b6 (W.item i s _ _ q g λv s' C D d=>?_);have⟨x,t,H,rfl⟩:=u i v C;have J:aU prog w s'.heap S led (aD (a.take i)):=by
   have⟨L,es,ep,N,ho,rest⟩:=f;show⟨L,es,ep,N,d.heap S _ m ho,rest⟩
  change d3 _ A.in1 (LQ [tv x t] (setAdd S (.str x t)) >>= _) _ _ s';show b6 (tj ?_);unfold setAdd;show tj ?_;show b6 ((sK prog w).pyHash (k:=x) (by rw[gL];simp) ?_);have O:(aD (a.take i)).length+1<x3:=by have:=rR (a.take i);rw[vl]at this;lia
  show kY (s:={s' with toks:=s'.toks+1}) J O λh' r Q=>?_;have T:aU prog w h' S led (aD (a.take (i+1))):=by
   rw[List.take_add_one,H];change aU prog w h' S led (aD (a.take i++[x]));rw[p7];show Q
  show c4 ⟨SN M' _,B (i+1) _ ⋯ q (W.frame _ s' _ _ D (MT _) λb c o e=>?_) T λY Tj Tn=>?_⟩
  .rw[r.2 b (λh:b=S=>l (by rw[<-h];show c))];show e
  .show j Y (Č W.gtrans ((d.mono p).then_heap (MT _) λb o c e=>?_) Tj) Tn;rw[r.2 b (λh:b=S=>c (by rw[h];show mu))];show e
end
section
def mF(a:dt)
  (h:Q₁ (.ref s.heap.objs.size) {s with heap:=s.heap.push {cls:=.type "set",dict:=b8,data:=.set #[] 0 (.fresh 0 0 (!w.params.followText "set-order"))}}) :
  Qv (eh prog w) A (.call (.builtin "set.__new__") ⟨[.type "set",a],[]⟩) (wants Q₁ E) s:=by
 show Ĥ ?_;change d3 _ A.in1 (do Xy "set.__new__" ⟨[.type "set",a],[]⟩;ĵ (.builtin "set.__new__" ⟨[.type "set",a],[]⟩)) _ _ s;show b6 (XH (PySem.F.newCall_set_1 a) (c4 ⟨SN PySem.F.plain_set_new _,J4 PySem.F.entry_set_new ?_⟩));rw[NQ PySem.F.plain_set_new _];unfold NM.«set.__new__» à;have b:=Wo;have⟨c,g,d,e,os⟩:=s
 dsimp only
 wp_walk
 show QC (c4 ?_)
 dsimp only
 simp only[newObj];show b6 (wpAny_alloc (c4 ?_));show c4 h
def g9(b:h.get? a=a5 {cls:=.type "set",dict:=b8,data:=.set #[] 0 (.fresh 0 0 led)}):aU prog w h a led [] :=
 ⟨[],#[],0,_,b,rfl,.nil,Ts,rfl,by unfold x3;decide,rfl,.inl rfl⟩
end
def sub_tuple_set:Oj (.type "tuple") (.type "set")=pure cc:=by rw[zy];kernel_rfl
def sub_tuple_frozenset:Oj (.type "tuple") (.type "frozenset")=pure cc:=by rw[zy];kernel_rfl
section
@[reducible]def aI(w:wq):Bool:=!w.params.followText "set-order"
@[reducible]def rS(led:Bool):Obj:={cls:=.type "set",dict:=b8,data:=.set #[] 0 (.fresh 0 0 led)}
def iL
  (L:s.TypeIs (.ref l) T) (Xh:Oj (.type T) (.type "set")=pure cc) (Xi:Oj (.type T) (.type "frozenset")=pure cc) (Kb:(ri T==ri "dict")=cc)
  (N:a.length+1<x3)
  (k:∀(s1:d5) (B:M9) (Q':dt->d5->Prop),B.handled=A.handled->(∀b o,s.heap.get? b=a5 o->s1.heap.get? b=a5 o)->s.heap.objs.size<s1.heap.objs.size ->
   (∀I m n G P St d,ô prog w B.in1 I m n G a.length P St->(∀g g',G g g'->g'=g)->s.heap.objs.size∉m->(∀b∈n,s.heap.objs.size<b)->(∀i v,P i v->∃x t,a[i]?=a5 x/\v=.str x t)->St 0 {s1 with heap:=d}->(∀b o,s1.heap.get? b=a5 o->d.get? b=a5 o)->Q' (.ref I) {s1 with heap:=d})->d3 (eh prog w) B (YR (.ref l)) Q' E s1)
  (h:∀(h':DD) (f:Nat),aU prog w h' s.heap.objs.size (aI w) (aD a)->(∀b o,b<s.heap.objs.size->s.heap.get? b=a5 o->h'.get? b=a5 o)->Q (.ref s.heap.objs.size) {s with heap:=h',toks:=f}) :
  d3 (eh prog w) A (NK (.type "set") [.ref l]) Q E s:=by
 have⟨c,tl,Xj⟩:=PySem.F.called_set.mro;have Vl:=PySem.F.called_set.made;have MN:=PySem.F.called_set.sub;show ï (Ĥ ?_);change d3 _ _ (callAny (.type "set") _) _ _ _;show c4 ⟨US _ (by decide +kernel),J4 PySem.F.entry_type_call ?_⟩;rw[Around.under_plain (weight_type_call_type "set" [.ref l] []) rfl];have d:=PySem.F.called_set.notType;have h2:=PySem.F.called_set.canCreate;have ZM:=PySem.F.typeCall_set_1 (.ref l)
 repeat (any_goals (first|assumption|wp_step))
 show R' (mF (.ref l) (E:=E) (Q₁:=λobj C=>obj=.ref s.heap.objs.size/\C={s with heap:=s.heap.push (rS (aI w))}) ⟨rfl,rfl⟩) λr C p=>?_;cases r with
 |error e=>show p
 |ok O =>
  cases O with
  |ret obj =>
   have⟨rfl,rfl⟩:=p;have D:(s.heap.push (rS (aI w))).get? s.heap.objs.size=a5 (rS (aI w)):=eH _ rfl;have Y:R0 {s with heap:=s.heap.push (rS (aI w))} (.ref s.heap.objs.size) "set":=⟨_,D,rfl⟩
   have Vm:=PySem.F.called_set.init.lookup;have ZN:=PySem.F.called_set.init.bind (.ref s.heap.objs.size)
   repeat (any_goals (first|assumption|wp_step))
   show R' (U9 (R:=wants (λr H=>r=.none/\∃h' f,H={s with heap:=h',toks:=f} /\
     aU prog w h' s.heap.objs.size (aI w) (aD a) /\
     (∀b o,b<s.heap.objs.size->s.heap.get? b=a5 o->h'.get? b=a5 o)) E) PySem.F.called_set.init.plain PySem.F.entry_set_init (check_set_init_1 Y ?_)) λr₂ H q=>?_
   .have⟨ol,Qe,J⟩:=L;have⟨Xk,Qf,Qg,OB⟩:=ol;simp only at J;subst J;have Tq:(s.heap.push (rS (aI w))).get? l=a5 {cls:=.type T,dict:=Qf,data:=Qg,slots:=OB}:=c2 _ Qe;have Vn:R0 {s with heap:=s.heap.push (rS (aI w))} (.ref l) T:=⟨_,Tq,rfl⟩
    unfold NM.«set.__init__» noKeywords Þ;generalize Xl:YR=PI
    wp_walk
    subst Xl;show k {s with heap:=s.heap.push (rS (aI w))} _ _ rfl (λb o e=>c2 _ e) (by rw[Mc];show OH _) λI m n G P St d W hG hf Xm OA Jp hk=>?_;show b6 (Yv ?_);show jq W s.heap.objs.size hf (aI w) a rfl OA N (a.length - 0) 0 _ ⋯ (i8 _) Jp (g9 (hk _ _ D)) ?_;intro s' j u;have⟨h',g',d',Xn,SA⟩:=s';have eg:g'=s.gens:=hG _ _ j.gens;have ed:d'=s.drawn:=j.drawn;have eo:SA=s.os:=j.os;subst eg;subst ed;subst eo;change d3 _ _ _ _ _ _;show c4 ?_;change d3 _ _ (ret mN) _ _ _;show c4 ⟨rfl,h',Xn,rfl,u,λb o y e=>?_⟩;show j.heap b o (λz=>by
     rcases d4.mp z with z|z
     .rw[z]at y;show t4 _ y
     .show absurd (Xm b z) (â y)) (hk _ _ (c2 _ e))
   .cases r₂ with
    |error e=>show q
    |ok Xo =>
     cases Xo with
     |ret r =>
      have⟨rfl,h',f,rfl,u,JO⟩:=q
      repeat (any_goals (first|assumption|wp_step))
      show h _ _ u JO
     |_=>show q.elim
  |_=>show p.elim
end
section
theorem oM:∀{vs:List dt}{ss:List Str},Qw vs ss->∀(i:Nat) (v:dt),vs[i]?=a5 v->∃x t,ss[i]?=a5 x/\v=.str x t
 |_,_,.nil,i,v,h=>by simp at h
 |_,_,.cons x t h,0,v,e=>by simp at e;show⟨x,t,rfl,e.symm⟩
 |_,_,.cons x t h,i+1,v,e=>by rw[SD]at e;rw[SD];show oM h i v e
theorem iM:∀{vs:List dt}{ss:List Str},Qw vs ss->vs.length=ss.length
 |_,_,.nil=>rfl
 |_,_,.cons x t h=>by simp[iM h]
def ub(a:n≠S)(b:n≠l):n∉[S,l]:=by simp[a,b]
def fT(j:A.handled=b8)(hl:s.heap.IsList l vs.toArray)(f:Qw vs a)(c:a.length+1<x3)
  (h:∀(h':DD) (k:Nat),aU prog w h' s.heap.objs.size (aI w) (aD a)->(∀b o,b<s.heap.objs.size->s.heap.get? b=a5 o->h'.get? b=a5 o)->Q (.ref s.heap.objs.size) {s with heap:=h',toks:=k}) :
  d3 (eh prog w) A (NK (.type "set") [.ref l]) Q E s:=by
 have g:l<s.heap.objs.size:=let ⟨o,ho,_⟩:=hl;d8 ho;show iL hl.typeIs PySem.F.sub_list_set PySem.F.sub_list_frozenset (by decide) c (λs1 B Q' m hk d n=>?_) h;have L_:s1.heap.IsList l vs.toArray:=let ⟨o,ho,r⟩:=hl;⟨o,hk _ _ ho,r⟩;show Wl L_ ?_;have p:l≠s1.heap.objs.size:=gs (Vx g d);have W:=(Ĝ (prog:=prog) (w:=w) (A:=B.in1) (by simp[m,j]) s1.heap.objs.size l p vs.toArray).toS;have q:vs.toArray.size=a.length:=by simp[iM f]
 rw[q]at W;show n _ _ _ _ _ _ _ W (λ_ _ e=>e) (ub (gs d) (Kk g)) (λb c=>by rw[hV.mp c];show d) (λi v t=>oM f i v (by simpa using t)) ⟨⟨_,eH _ rfl,rfl,rfl⟩,L_.push _⟩ λb o e=>c2 _ e
def gM(j:A.handled=b8)(hl:s.heap.IsTuple l vs.toArray)(f:Qw vs a)(c:a.length+1<x3)
  (h:∀(h':DD) (k:Nat),aU prog w h' s.heap.objs.size (aI w) (aD a)->(∀b o,b<s.heap.objs.size->s.heap.get? b=a5 o->h'.get? b=a5 o)->Q (.ref s.heap.objs.size) {s with heap:=h',toks:=k}) :
  d3 (eh prog w) A (NK (.type "set") [.ref l]) Q E s:=by
 have g:l<s.heap.objs.size:=let ⟨o,ho,_⟩:=hl;d8 ho;show iL hl.typeIs sub_tuple_set sub_tuple_frozenset (by decide) c (λs1 B Q' m hk d n=>?_) h;have L_:s1.heap.IsTuple l vs.toArray:=let ⟨o,ho,r⟩:=hl;⟨o,hk _ _ ho,r⟩;show P7 L_ ?_;have p:l≠s1.heap.objs.size:=gs (Vx g d);have W:=(Walks.tuple (prog:=prog) (w:=w) (A:=B.in1) (by simp[m,j]) s1.heap.objs.size l p vs.toArray).toS;have q:vs.toArray.size=a.length:=by simp[iM f]
 rw[q]at W;show n _ _ _ _ _ _ _ W (λ_ _ e=>e) (ub (gs d) (Kk g)) (λb c=>by rw[hV.mp c];show d) (λi v t=>oM f i v (by simpa using t)) ⟨⟨_,eH _ rfl,rfl,rfl⟩,let ⟨o,ho,r⟩:=L_;⟨o,c2 _ ho,r⟩⟩ λb o e=>c2 _ e
def oN(a:n≠0)(h:∀i<n,Q i {s with drawn:=s.drawn.bump src}):d3 M A (choose src n) Q E s:=λΓ p b=>by
 change Sem.wp M Γ (.choose src n .pure) _ _ p s;rw[Sem.wp_choose];show⟨a,h _ (XA _ (Nat.pos_of_ne_zero a))⟩
theorem g_:∀{xs:List α}{i:Nat}{x:α},xs[i]?=a5 x->(x::xs.eraseIdx i).Perm xs
 |[],i,x,h=>by simp at h
 |y::a,0,x,h=>by simp at h;subst h;show .refl _
 |y::a,i+1,x,h=>by
  rw[SD]at h;rw[SE];show(ZC y x _).trans ((g_ h).cons y)
theorem gN:∀(n:Nat) (xs:List α) (s:d5) (Q:List α->d5->Prop),xs.length=n->(∀a d,a.Perm xs->Q a {s with drawn:=d})->d3 M A (drawOrder n xs) Q E s
 |0,xs,s,Q,b,h=>by
  have:xs=[]:=Sr.mp b;subst this;show c4 (h [] s.drawn (.refl _))
 |n+1,[],s,Q,b,h=>by simp at b
 |n+1,y::a,s,Q,b,h=>by
  change d3 M A (choose .order (y::a).length >>= _) Q E s;show b6 (oN (by simp) λi c=>?_);have e:(y::a)[i]?=a5 ((y::a)[i]'c):=td c;have f:=g_ e;generalize (y::a)[i]'c=x at e f;simp only[e];show b6 (gN n _ _ _ (by have:=f.length_eq;simp at this b ⊢;lia) λg d hz=>?_);show c4 (h (x::g) d ((hz.cons x).trans f))
theorem jO(next:Nat->Nat):∀(fuel k:Nat) (left:List α) (out:Array α),left.length=fuel->(Wz next fuel k left out).toList.Perm (out.toList++left)
 |0,k,left,out,hl=>by
  have:left=[]:=Sr.mp hl;subst this;simp[Wz]
 |fuel+1,k,left,out,hl=>by
  unfold Wz;have a:next k % left.length<left.length:=XA _ ⋯;have e:left[next k % left.length]?=a5 (left[next k % left.length]'a):=td a;have b:=g_ e;generalize left[next k % left.length]'a=x at e b;simp only[e];show(jO next fuel _ _ _ (by have:=b.length_eq;simp at this;lia)).trans ?_;rw[ZS,Vt];show(b.append_left _)
def dY(next:Nat->Nat)(xs:Array α):(Xq next xs).toList.Perm xs.toList:=by
 have:=jO next xs.size 0 xs.toList #[] (by simp);simpa[Xq] using this
end
namespace SI
def p8:Manifest.owners.lookup (String.ofList ['r','o','t','a','r','e','t','i','_','t','e','s'].reverse)=a5 Manifest.sig_set_iterator:=by kernel_rfl
def slot_next:Slot "set_iterator" "__next__" "set_iterator.__next__" :=
 .of (owner:="set_iterator") (n:="__next__") (by rw[RP,Ou];kernel_rfl) (by decide +kernel) (by decide +kernel) (by decide +kernel)
  (by first|show .inl (by decide +kernel)|show .inr (by decide +kernel)) (by rw[zy];kernel_rfl)
def entry_next:Ú table "set_iterator.__next__"=a5 NM.«set_iterator.__next__»:=entryFor_of_tree (by kernel_rfl)
def args_next(a:dt):Ĵ "set_iterator.__next__" ⟨[a],[]⟩:=by
 unfold Ĵ;rw[signature?_of (id:="set_iterator.__next__") (n:=['_','_','t','x','e','n','_','_']) (o:=['r','o','t','a','r','e','t','i','_','t','e','s']) (by kernel_rfl) p8];kernel_rfl
def m6:Slot "set_iterator" "__iter__" "set_iterator.__iter__" :=
 .of (owner:="set_iterator") (n:="__iter__") (by rw[RP,Ou];kernel_rfl) (by decide +kernel) (by decide +kernel) (by decide +kernel)
  (by first|show .inl (by decide +kernel)|show .inr (by decide +kernel)) (by rw[zy];kernel_rfl)
def vR(a:dt):Ĵ "set_iterator.__iter__" ⟨[a],[]⟩:=by
 unfold Ĵ;rw[signature?_of (id:="set_iterator.__iter__") (n:=['_','_','r','e','t','i','_','_']) (o:=['r','o','t','a','r','e','t','i','_','t','e','s']) (by kernel_rfl) p8];kernel_rfl
def rT:Ú table "set_iterator.__iter__"=a5 NM.«dict_keyiterator.__iter__» :=
 Y0 (id':="dict_keyiterator.__iter__") (by kernel_rfl) (by first|rfl|decide +kernel|(unfold String.splitOn;simp +decide [String.splitOnAux])) (by decide +kernel) (by kernel_rfl)
def kZ:Ú table "set.__iter__"=a5 NM.«frozenset.__iter__» :=
 Y0 (id':="frozenset.__iter__") (by kernel_rfl) rfl (by decide +kernel) (by kernel_rfl)
end SI
section
variable{prog:uv}{w:wq}{A:M9}{E:dt->d5->Prop}{s:d5}
abbrev hJ(h:DD)(I:d7)(first:dt)(i:Nat)(S:d7)(n ep:Nat):Prop:=∃o,h.get? I=a5 o/\o.cls=.type "set_iterator"/\o.data=.fields #[first,t8 i,.ref S,t8 n,t8 ep]
def hJ.typeIs(x:hJ s.heap I f i S n ep):s.TypeIs (.ref I) "set_iterator":=let ⟨o,ho,a,_⟩:=x;⟨o,ho,a⟩
def AR(a:hJ s.heap I f i S n ep)(h:Q (.ref I) s):d3 (eh prog w) A (YR (.ref I)) Q E s:=by
 show Ā a.typeIs SI.m6 (Jw SI.m6 a.typeIs SI.rT ?_ (SI.vR _));change d3 _ _ (ret (.ref I)) _ _ s;show c4 ⟨_,rfl,"set_iterator",_,a.typeIs,SI.slot_next.lookup,h⟩
def cS(h:Q (M.w.params.followText "set-order") s):d3 M A ò Q E s:=by
 unfold ò;show b6 (QC (c4 h))
end
end L2
namespace L2
open PySem PySem.Spec PyProof.Rows
section
variable{prog:uv}{w:wq}{A:M9}{E:dt->d5->Prop}{s:d5}
@[reducible]def oO(es:Array (Int×dt))(ep:Nat)(t:O1):Obj:={cls:=.type "set",dict:=b8,data:=.set es ep t}
def p_{I:d7}{B:M9}{Q:Option dt->d5->Prop}{c:DD}{k:dt->Sem (Option dt)}(d:B.handled=b8)
  (f:∀h',(∀b o,c.get? b=a5 o->h'.get? b=a5 o)->∀e,R0 {s with heap:=h' } e "StopIteration"->E e {s with heap:=h' }) {Q':Fin->d5->Prop} :
  d3 (eh prog w) B (Z3 (.type "StopIteration") [] >>= λe=>(YQ e:Sem Fin)) Q' E {s with heap:=c}:=by
 show b6 ?_;simp only[Z3,Į];show b6 (wk ?_ (by size_fits));show b6 (m:=U4 _ _) (XH (a:=mN) (by first|rfl|(simp only[U4];rfl)) ?_);show wk ?_ (by size_fits);simp only[YQ];show b6 (wpAny_handled ?_);rw[d];show b6 (c4 (wpAny_throw ?_));show f _ (λb o e=>c2 _ (c2 _ e)) _ ⟨_,eH _ rfl,rfl⟩
def uc{I S:d7}{first:dt}{i ep:Nat}{es:Array (Int×dt)}{t:O1}(d:hJ s.heap I first i S es.size ep)(ho:s.heap.get? S=a5 (oO es ep t))(j:t.fits es.size=bD)
  (k:∀(Q':Fin->d5->Prop) (h:dt->d5->Prop) ,(∀v s',Q (a5 v) s'->Q' (.done (.ret v)) s')->(∀e s',s'.TypeIs e "StopIteration"->Q b8 s'->h e s') ->
   d3 (eh prog w) A.in1 (if let .int slot _:=first then(do
     match <-Wv S slot.toNat i ep with
     |some (x,next) =>
      Ww (.ref I) 0 (t8 next)
      Ww (.ref I) 1 (t8 ((i:Int)+1))
      ret x
     |none=>Ww (.ref I) 2 .none;YQ (<-Z3 (.type "StopIteration") []))
    else(do
     let a5 c <-ZG first|unsupported "internal:set_iterator"
     match c[i]? with
     |some (.int f _) =>
      let x <-ZY S f.toNat ep
      Ww (.ref I) 1 (t8 ((i:Int)+1))
      ret x
     |some _=>XS "internal:set_iterator"
     |none=>Ww (.ref I) 0 (t8 0);Ww (.ref I) 2 .none;YQ (<-Z3 (.type "StopIteration") []))) Q' h s):d3 (eh prog w) A (TN (.ref I)) Q E s:=by
 have⟨o,l,n,m⟩:=id d;unfold TN;show b6 (wpAny_attempt (Qn (name:=Q2 "__next__") d.typeIs SI.slot_next
  (Jw SI.slot_next d.typeIs SI.entry_next ?_ (SI.args_next _))))
 unfold NM.«set_iterator.__next__»;show b6 (XH (a:=(kj I,[])) rfl ?_)
 try dsimp only
 show b6 (wpAny_fieldsOf l m ?_)
 try dsimp only
 show b6 (RZ ho rfl j ?_);rw[ł (by simp)];show i9 (k (λg s'=>∃r,g=.done (.ret r)/\Q (a5 r) s') (λe s'=>s'.TypeIs e "StopIteration"/\Q b8 s') (λv s' q=>⟨v,rfl,q⟩) λe s' z q=>⟨z,q⟩) ?_ ?_
 .rintro g s' ⟨r,rfl,q⟩;show⟨r,rfl,c4 q⟩
 .rintro e s' ⟨z,q⟩;show b6 (O5 (T:="StopIteration") (b:=bD) z į ?_);show c4 q
end
section
def ud{I S:d7}{f f':dt}{i n ep:Nat}{h:DD}{o:Obj}(b:h.get? I=a5 o)(c:o.cls=.type "set_iterator")(a:o.data=.fields #[f,t8 i,.ref S,t8 n,t8 ep]):
  hJ (h.update I (ċ (·.setIfInBounds 1 (t8 ((i:Int)+1))))) I f (i+1) S n ep :=
 ⟨_,tr _ b (Ti (M8 a _)),(Vv ..).trans c,by rw[M8 a];simp⟩
def qa{h:DD}(c:h.get? I=a5 o)(d:o.cls=.type "set_iterator")(b:o.data=.fields #[f,t8 i,.ref S,t8 n,t8 ep]):
  ∃a,(h.update I (ċ (·.setIfInBounds 0 f'))).get? I=a5 a/\a.cls=.type "set_iterator"/\a.data=.fields #[f',t8 i,.ref S,t8 n,t8 ep] :=
 ⟨_,tr _ c (Ti (M8 b _)),(Vv ..).trans d,by rw[M8 b];simp⟩
def xS{I S:d7}{slot i ep:Nat}{es:Array (Int×dt)}{t:O1}{Q:Option dt->d5->Prop}(a:hJ s.heap I (t8 slot) i S es.size ep)(ho:s.heap.get? S=a5 (oO es ep t))(j:t.fits es.size=bD)(l:A.handled=b8)
  {r:Option (dt×Nat)} (m:∀(B:M9) (f:dt->d5->Prop) (Q':Option (dt×Nat)->d5->Prop),Q' r s->d3 (eh prog w) B (Wv S slot i ep) Q' f s)
  (n:∀x nx,r=a5 (x,nx)->∀h',hJ h' I (t8 nx) (i+1) S es.size ep->mA I s.heap h'->Q (a5 x) {s with heap:=h' })
  (q:r=b8->∀h',(∀b o,b≠I->s.heap.get? b=a5 o->h'.get? b=a5 o)->Q b8 {s with heap:=h' }):d3 (eh prog w) A (TN (.ref I)) Q E s:=by
 show uc a ho j λQ' f u v=>?_;have⟨o,c,y,d⟩:=id a;change d3 _ _ (Wv S slot i ep >>= _) _ _ s;show b6 (m _ _ _ ?_);cases r with
 |some p =>
  have⟨x,nx⟩:=p
  dsimp only
  show b6 (M7 c d (by simp) ?_);have⟨J,g,z,h⟩:=qa (f':=t8 nx) c y d;show b6 (M7 (s:={s with heap:=_}) g h (by simp) ?_);show c4 (u _ _ (n x nx rfl _ (ud (f':=t8 nx) g z h) ((wz ..).trans (wz ..))))
 |none =>
  dsimp only
  show b6 (M7 c d (by simp) ?_);show p_ (I:=I) (k:=λ_=>pure b8) (Q:=λ_ _=>True) (s:=s) (by simpa using l) λh' hk e C=>v e _ C (q rfl h' λb D G H=>hk b D ?_);rw[OT _ _ _ _ G];show H
def DV{I S T:d7}{i ep:Nat}{es:Array (Int×dt)}{t:O1}{a:List Nat}{Q:Option dt->d5->Prop}(c:hJ s.heap I (.ref T) i S es.size ep)(ho:s.heap.get? S=a5 (oO es ep t))(m:t.fits es.size=bD)(r:A.handled=b8)
  (u:s.heap.IsTuple T ((a.map λ(j:Nat)=>t8 j).toArray))
  (v:∀(j:Nat) (e:Int×dt),a[i]?=a5 j->es[j]?=a5 e->∀h',hJ h' I (.ref T) (i+1) S es.size ep->mA I s.heap h'->Q (a5 e.2) {s with heap:=h' })
  (x:∀j∈a,j<es.size)
  (y:a[i]?=b8->∀h',(∀b o,b≠I->s.heap.get? b=a5 o->h'.get? b=a5 o)->Q b8 {s with heap:=h' }):d3 (eh prog w) A (TN (.ref I)) Q E s:=by
 show uc c ho m λQ' O z B=>?_;have⟨o,d,n,f⟩:=id c;have⟨Y,C,ZO,nT,D⟩:=u;change d3 _ _ (ZG (.ref T) >>= _) _ _ s;show b6 (U0 C D ?_);cases e:a[i]? with
 |some j =>
  have g:(a.map λ(j:Nat)=>t8 j).toArray[i]?=a5 (t8 j):=by simp[e]
  simp only[g];have h:j<es.size:=x j (my e);have l:es[j]?=a5 (es[j]'h):=by simp[h]
  change d3 _ _ (ZY S (j:Int).toNat ep >>= _) _ _ s;unfold ZY;rw[Ql];show b6 (b6 (l0 ho rfl m ?_))
  dsimp only
  rw[ł (by simp)];generalize es[j]'h=p at l;simp only[l];show c4 ?_;show b6 (M7 d f (by simp) ?_);show c4 (z _ _ (v j p e l _ (ud (f':=.ref T) d n f) (wz ..)))
 |none =>
  have g:(a.map λ(j:Nat)=>t8 j).toArray[i]?=b8:=by simp at e ⊢;show e
  simp only[g];show b6 (M7 d f (by simp) ?_);have⟨o',G,e2,H⟩:=qa (f':=t8 0) d n f;show b6 (M7 (s:={s with heap:=_}) G H (by simp) ?_);show p_ (I:=I) (k:=λ_=>pure b8) (Q:=λ_ _=>True) (s:=s) (by simpa using r) λh' hk ex J=>B ex _ J (y e h' λb L q N=>hk b L ?_);rw[OT _ _ _ _ q,OT _ _ _ _ q];show N
end
section
def hJ.at(x:hJ h I f i S n ep)(e:∀o,h.get? I=a5 o->h'.get? I=a5 o):hJ h' I f i S n ep:=let ⟨o,ho,r⟩:=x;⟨o,e _ ho,r⟩
def k7(r:A.handled=b8)(n:S≠I)(u:t.fits es.size=bD)(T:d7)(p:T≠I)(c:List dt)(k:c.length=es.size)
  (first:Nat->dt) (a:DD->Prop) (l:∀h h',a h->(∀o,h.get? T=a5 o->h'.get? T=a5 o)->a h')
  (m:∀(s:d5) (i:Nat) (E:dt->d5->Prop) (Q:Option dt->d5->Prop),i<=es.size->a s.heap->hJ s.heap I (first i) i S es.size ep->s.heap.get? S=a5 (oO es ep t) ->
   (∀x,c[i]?=a5 x->∀h',hJ h' I (first (i+1)) (i+1) S es.size ep->mA I s.heap h'->Q (a5 x) {s with heap:=h' }) ->
   (c[i]?=b8->∀h',(∀b o,b≠I->s.heap.get? b=a5 o->h'.get? b=a5 o)->Q b8 {s with heap:=h' })->d3 (eh prog w) A (TN (.ref I)) Q E s) :
  Walks prog w A I [I,S,T] [I] es.size (λi v=>c[i]?=a5 v) (λi h=>i<=es.size/\hJ h I (first i) i S es.size ep/\h.get? S=a5 (oO es ep t)/\a h) where
 sub:=λb d=>by rw[hV.mp d];simp
 frame:=λi h h' x hk=>⟨x.1,x.2.1.at λo e=>hk I (by simp) o e,hk S (by simp) _ x.2.2.1,l h h' x.2.2.2 λo e=>hk T (by simp) o e⟩
 item:=λi s Q E q x f=>by
  show m s i E Q x.1 x.2.2.2 x.2.1 x.2.2.1 (λv g h' j hs=>?_) λz=>absurd z (by simp;lia);show f v h' s.toks g ⟨q,j,?_,l _ h' x.2.2.2 λo e=>?_⟩ λb o d e=>?_
  .rw[hs.2 S n];show x.2.2.1
  .rw[hs.2 T p];show e
  .rw[hs.2 b λz=>d (by simp[z])];show e
 done:=λs Q E x f=>by
  show m s es.size E Q x.1 x.2.2.2 x.2.1 x.2.2.1 (λv g=>absurd g (by rw[SY ⋯];simp)) λ_ h' hk=>f h' s.toks λb o d e=>hk b o (λz=>d (by simp[z])) e
 self:=λi s Q E x f=>AR x.2.1 f
def oP(ho:s.heap.get? S=a5 (oO es ep t))(a:t.fits es.size=bD)(h:Q (!w.params.followText "set-order"&&(!t.plain&&cK (es.size>1))) s):d3 (eh prog w) A (setDrawn S) Q E s:=by
 unfold setDrawn;show b6 (l0 ho rfl a ?_)
 dsimp only
 show b6 (cS (c4 h))
def oQ(a:w.params.followText "set-order"=bD)(ho:s.heap.get? S=a5 (oO es ep t))(b:t.fits es.size=bD)
  (h:Q ((Xq (w.params.setOrder S ep) es)[i]?.map λe=>(e.2,0)) s):d3 (eh prog w) A (Wv S 0 i ep) Q E s:=by
 unfold Wv;show b6 (l0 ho rfl b ?_)
 dsimp only
 show b6 (cS ?_);change d3 _ _ (if (w.params.followText "set-order")=bD then _ else _) _ _ s;rw[Ł a];rw[ł (by simp)];unfold setWalk;show b6 (b6 (l0 ho rfl b ?_))
 dsimp only
 show b6 (cS ?_);change d3 _ _ (if (w.params.followText "set-order")=bD then _ else _) _ _ s;rw[Ł a];show b6 (QC (c4 ?_));show c4 h
theorem qb(hw:w.params.followText "set-order"=cc)(ho:s.heap.get? S=a5 (oO es ep t))(hf:t.fits es.size=bD)(hl:t.led=bD)(h1:es.size<=1)
    (h:Q (match es[LH t.place slot]?,t.place[LH t.place slot]? with|some (_,x),a5 j=>a5 (x,j+1)|_,_=>b8) s):d3 (eh prog w) A (Wv S slot i ep) Q E s:=by
  unfold Wv;refine b6 (l0 ho rfl hf ?_)
  dsimp only
  refine b6 (cS ?_);show d3 _ _ (if (w.params.followText "set-order")=bD then _ else _) _ _ s;rw[ł (by rw[hw];simp)];show d3 _ _ (if (!t.plain&&cK (es.size>1))=bD then _ else _) _ _ s
  rw [if_neg (by have : decide (es.size > 1) = false := decide_eq_false (by lia)
                 rw[this];simp)]
  show d3 _ _ ((if (!t.led&&!es.isEmpty)=bD then _ else _) >>= _) _ _ s;rw[ł (by rw[hl];simp)];exact b6 (c4 (c4 h))
def qc(es:Array (Int×dt))(a:Array Nat)(i:Nat)(c:es.size<=1)(d:a.size=es.size)(b:i<=es.size):
  (match es[LH a (if i=0 then 0 else(a[0]?).getD 0+1)]?,a[LH a (if i=0 then 0 else(a[0]?).getD 0+1)]? with|some (_,x),a5 j=>a5 (x,j+1)|_,_=>b8)=es[i]?.map λe=>(e.2,(a[0]?).getD 0+1):=by
 have⟨es⟩:=es;have⟨a⟩:=a
 match es,a,c,d,b with
 |[],[],_,_,b=>simp
 |[e],[p],_,_,b =>
  match i,b with
  |0,_ =>
   have:LH #[p] 0=0:=by simp[LH,WG]
   simp[this]
  |1,_ =>
   have:LH #[p] (p+1)=1:=by simp[LH,WG]
   simp[this]
  |n+2,h=>simp at h
 |[],_::_,_,h,_=>simp at h
 |[_],[],_,h,_=>simp at h
 |[_],_::_::_,_,h,_=>simp at h
 |_::_::_,_,h,_,_=>simp at h
def xT(G:B.handled=b8)(hS:aU prog w s.heap S (aI w) D)
  (h:∀(I:d7) (fp:List d7) (n:Nat) (P:Nat->dt->Prop) (St:Nat->DD->Prop) (c:List Str) (h':DD) (d':Drawn),Walks prog w B I fp [I] n P St->c.Perm D->n=c.length->(∀i v,P i v->∃x Y,c[i]?=a5 x/\v=.str x Y)->s.heap.objs.size<=I->(∀b∈fp,b=S\/s.heap.objs.size<=b)->St 0 h' ->
   (∀b o,s.heap.get? b=a5 o->h'.get? b=a5 o)->Q (.ref I) {s with heap:=h',drawn:=d' }):d3 (eh prog w) A (YR (.ref S)) Q E s:=by
 have⟨L,es,ep,t,ho,J1,Jk,Ju,a,d,J3,JZ⟩:=hS;have Vo:s.TypeIs (.ref S) "set":=⟨_,ho,rfl⟩
 have MP:S<s.heap.objs.size:=d8 ho;show Ā Vo PySem.F.slot_set_iter (Jw PySem.F.slot_set_iter Vo SI.kZ ?_ (PySem.F.args_set_iter_1 _));unfold NM.«frozenset.__iter__» ß slotArgs;simp only[List.isEmpty_nil,ý,K8,↓reduceIte,bind_assoc,V3,bne_self_eq_false];unfold Ud Qp;show b6 (c4 ?_)
 try dsimp only
 show b6 (c4 ?_);show b6 (b6 (RZ ho rfl a (c4 ?_)));have Xr:D.length=es.size:=by rw[<-Jk.length_eq,df,<-eM,J1,df]
 have f:∀(l:List (Int×dt)),l.Perm es.toList->∃c:List Str,c.Perm D/\c.length=es.size/\∀(i:Nat) (v:dt),(l.map (·.2))[i]?=a5 v->∃(x:Str) (Y:Tok),c[i]?=a5 x/\v=tv x Y:=by
  intro l hl;rw[J1]at hl;have⟨L',e',p'⟩:=dn hl;show⟨L'.map (·.1),(p'.map _).trans Jk,by rw[((p'.map _).trans Jk).length_eq,Xr],λi v H=>?_⟩;subst e';rw[kb,ki]at H;rw[ki];cases q:L'[i]? with
  |none=>rw[q]at H;simp at H
  |some p=>rw[q]at H;simp at H;show⟨p.1,p.2,rfl,H.symm⟩
 show b6 (oP ho a ?_);cases hw:w.params.followText "set-order" with
 |true =>
  simp only[ý,í,K8,↓reduceIte];show b6 (c4 ?_);show b6 (b6 (l0 ho rfl a (c4 ?_)));show b6 (wk ?_);have u:S≠s.heap.objs.size:=gs MP;have⟨c,J,N,O⟩:=f (Xq (w.params.setOrder S ep) es).toList (dY _ _);have W:=k7 (prog:=prog) (w:=w) (A:=B) (I:=s.heap.objs.size) (S:=S) (es:=es) (ep:=ep) (t:=t) G u a S u ((Xq (w.params.setOrder S ep) es).toList.map (·.2)) (by rw[df,(dY _ _).length_eq,eM]) (λ_=>t8 0) (λ_=>True) (λ_ _ _ _=>trivial)
   (λs i E Q _ _ g y k1 k2=>xS (slot:=0) g y a G (λB E' Q' q=>oQ hw y a q) (λx nx e h' T hs=>by
    rw[ez]at e;have⟨p,C,e2⟩:=e;cases e2;show k1 _ (by rw[ki,nM,C];rfl) h' T hs) (λe=>k2 (by rw[ki,nM,Sq];rwa [Sq]at e)))
  show c4 ⟨_,rfl,"set_iterator",_,⟨_,eH _ rfl,rfl⟩,SI.slot_next.lookup,?_⟩;show h _ _ _ _ _ c _ s.drawn W J N.symm O (hQ _) (λb d=>by
   simp only[d4,Kw,or_false]at d;rcases d with rfl|rfl|rfl
   .show .inr (hQ _)
   .show .inl rfl
   .show .inl rfl) ⟨i8 _,⟨_,eH _ rfl,rfl,rfl⟩,c2 _ ho,trivial⟩ λb o e=>c2 _ e
 |false =>
  by_cases hsz:es.size>1
  .have Ka:t.plain=cc:=by
    rcases JZ with z|z
    .lia
    .show z
   have C:(!cc&&(!t.plain&&cK (es.size>1)))=bD:=by rw[Ka,ń hsz];rfl
   rw[C];simp only[↓reduceIte];show b6 (gN _ _ _ _ u6 λm d' hp=>?_);simp only[Į];have NA:∀j∈m,j<es.size:=λj hj=>by have:=hp.mem_iff.mp hj;simpa using this
   have Qj:m.length=es.size:=by rw[hp.length_eq];simp
   show b6 (wk ?_ (by
    change(m.map λ(j:Nat)=>t8 j).toArray.size<=_;have:es.size<4096:=d;simp only[et,df,Qj];have:(4096:Nat)<=cL:=by decide
    lia))
   have Ml:(s.heap.push {cls:=.type "tuple",data:=.seq (m.map λ(j:Nat)=>t8 j).toArray}).get? S=a5 (oO es ep t):=c2 _ ho;show b6 (b6 (l0 (s:={s with heap:=_,drawn:=d' }) Ml rfl a (c4 ?_)));show b6 (wk ?_);have Xs:s.heap.objs.size≠(s.heap.push {cls:=.type "tuple",data:=.seq (m.map λ(j:Nat)=>t8 j).toArray}).objs.size:=by rw[Mc];show gs (OH _)
   have u:S≠(s.heap.push {cls:=.type "tuple",data:=.seq (m.map λ(j:Nat)=>t8 j).toArray}).objs.size:=by rw[Mc];show gs (Sh MP)
   have OD:(m.map λj=>(es[j]?).getD (0,mN)).Perm es.toList:=by
    show(hp.map _).trans ?_;have:(fx es.size).map (λj=>(es[j]?).getD (0,mN))=es.toList:=by
     apply LV
     .simp
     .intro i h1 h2;simp at h1 ⊢;simp[h1]
    rw[this]
   have⟨c,J,N,O⟩:=f _ OD;have W:=k7 (prog:=prog) (w:=w) (A:=B) (I:=(s.heap.push {cls:=.type "tuple",data:=.seq (m.map λ(j:Nat)=>t8 j).toArray}).objs.size) (S:=S) (es:=es) (ep:=ep) (t:=t) G u a s.heap.objs.size Xs ((m.map λj=>(es[j]?).getD (0,mN)).map (·.2)) (by simp[Qj]) (λ_=>.ref s.heap.objs.size) (λh=>h.IsTuple s.heap.objs.size (m.map λ(j:Nat)=>t8 j).toArray) (λh h' ⟨o,ho,r⟩ k=>⟨o,k _ ho,r⟩)
    (λs' i E Q _ Mb g y k1 k2=>DV g y a G Mb (λj e ej ee h' T hs=>k1 _ (by rw[ki,ki,ej];simp[ee]) h' T hs) NA (λe=>k2 (by rw[ki,ki,e];rfl)))
   show c4 ⟨_,rfl,"set_iterator",_,⟨_,eH _ rfl,rfl⟩,SI.slot_next.lookup,?_⟩;show h _ _ _ _ _ c _ d' W J N.symm O (by rw[Mc];show MT _) (λb d=>?_) ⟨i8 _,⟨_,eH _ rfl,rfl,rfl⟩,c2 _ Ml,⟨_,c2 _ (eH _ rfl),rfl,_,rfl⟩⟩ λb o e=>c2 _ (c2 _ e);rw[Mc]at d;simp only[d4,Kw,or_false]at d;rcases d with rfl|rfl|rfl
   .show .inr (MT _)
   .show .inl rfl
   .show .inr (hQ _)
  .have C:(!cc&&(!t.plain&&cK (es.size>1)))=cc:=by rw[Ń hsz];simp
   rw[C];simp only[K8,↓reduceIte];show b6 (c4 ?_);show b6 (b6 (l0 ho rfl a (c4 ?_)));show b6 (wk ?_);have u:S≠s.heap.objs.size:=gs MP;have Xt:t.led=bD:=by rw[J3];change(!w.params.followText "set-order")=bD;rw[hw];rfl
   have⟨c,J,N,O⟩:=f es.toList (.refl _);have LK:t.place.size=es.size:=by
    unfold Rb at a;simp only[cb,beq_iff_eq]at a;show a.1
   have W:=k7 (prog:=prog) (w:=w) (A:=B) (I:=s.heap.objs.size) (S:=S) (es:=es) (ep:=ep) (t:=t) G u a S u (es.toList.map (·.2)) (by simp) (λi=>t8 ((if i=0 then 0 else(t.place[0]?).getD 0+1:Nat):Nat)) (λ_=>True) (λ_ _ _ _=>trivial)
    (λs' i E Q hi _ g y k1 k2=>xS (slot:=if i=0 then 0 else(t.place[0]?).getD 0+1) g y a G (λB E' Q' q=>qb hw y a Xt ⋯ q) (λx nx e h' T hs=>by
     rw[qc es t.place i ⋯ LK hi,ez]at e;have⟨p,C,e2⟩:=e;cases e2;show k1 _ (by rw[ki,nM,C];rfl) h' ?_ hs;rw[ł (Nat.succ_ne_zero i)];show T) (λe=>by
     rw[qc es t.place i ⋯ LK hi,Sq]at e;show k2 (by rw[ki,nM,e];rfl)))
   show c4 ⟨_,rfl,"set_iterator",_,⟨_,eH _ rfl,rfl⟩,SI.slot_next.lookup,?_⟩;show h _ _ _ _ _ c _ s.drawn W J N.symm O (hQ _) (λb d=>by
    simp only[d4,Kw,or_false]at d;rcases d with rfl|rfl|rfl
    .show .inr (hQ _)
    .show .inl rfl
    .show .inl rfl) ⟨i8 _,⟨_,eH _ rfl,rfl,rfl⟩,c2 _ ho,trivial⟩ λb o e=>c2 _ e
end
def qd:QD (.type "set") "__len__"=pure (a5 (.builtin "set.__len__")):=by rw[RP,Ou];kernel_rfl
section
theorem k8:∀{vs:List dt}{a:List Str},vs.length=a.length->(∀(i:Nat) (v:dt),vs[i]?=a5 v->∃x t,a[i]?=a5 x/\v=.str x t)->Qw vs a
 |[],[],_,_=>.nil
 |[],_::_,h,_=>by simp at h
 |_::_,[],h,_=>by simp at h
 |v::vs,y::a,h,k=>by
  have⟨x,t,b,c⟩:=k 0 v rfl;cases b;subst c;show .cons y t (k8 (by simpa using h) λi w d=>k (i+1) w d)
def qe(J:A.handled=b8)(N:aU prog w s.heap S (aI w) D)(O:D.length<=cL)
  (T:∀(vs:List dt) (c:List Str) (h':DD) (d':Drawn) (h:Nat),c.Perm D->Qw vs c->s.heap.objs.size<=h'.objs.size->s.toks<=h->(∀b o,s.heap.get? b=a5 o->h'.get? b=a5 o)->Q vs {s with heap:=h',drawn:=d',toks:=h}) :
  d3 (eh prog w) A (Z9 (.ref S)) Q E s:=by
 have⟨L,es,ep,t,ho,rest⟩:=id N;have Y:S<s.heap.objs.size:=d8 ho;unfold Z9;show b6 (Yv (J4 PySem.F.entry_proto_collect ?_));rw[NQ PySem.F.plain_proto_collect _];change d3 _ A.in1 (Ć [] >>= λl=>ĵ (.builtin "list.__iadd__" ⟨[l,.ref S],[]⟩)) _ _ s;show b6 (wk ?_);show c4 ⟨SN PySem.F.plain_list_iadd _,J4 PySem.F.entry_list_iadd ?_⟩;rw[NQ PySem.F.plain_list_iadd _];have f:(s.heap.push {cls:=.type "list",data:=.seq ([]:List dt).toArray}).get? S=a5 {cls:=.type "set",dict:=b8,data:=.set es ep t}:=c2 _ ho;have hT:R0 {s with heap:=s.heap.push {cls:=.type "list",data:=.seq ([]:List dt).toArray}} (.ref S) "set":=⟨_,f,rfl⟩
 change d3 _ A.in1 (r6 (.ref s.heap.objs.size) (.ref S) (.ref s.heap.objs.size)) _ _ _;unfold r6;show b6 (Wc hT ?_);have j:s.heap.objs.size≠S:=Kk Y;have h1:NO (.ref s.heap.objs.size) (.ref S)=cc:=by simp[NO,j]
 have h2:(ri "set"==ri "list")=cc:=by decide
 have h3:(ri "set"==ri "tuple")=cc:=by decide
 simp only[h1,h2,h3,X_,K8,if_false];show b6 (xT (B:=A.in1) (by simpa using J) ⟨L,es,ep,t,f,rest⟩ ?_);intro I fp n P St c h' d' W k m hP p Tr Jp hk;have g:R0 {s with heap:=h',drawn:=d' } (.ref S) "set":=⟨_,hk _ _ f,rfl⟩
 show b6 (tj ?_);unfold UH;show b6 (Ui g qd ?_);have KI:splitId "set.__len__"=a5 ("set","__len__"):=by decide +kernel
 dsimp only
 rw[KI]
 dsimp only
 show b6 (O5 g Wo ?_);rw[ł (by decide)];rw[Ł (by decide +kernel)];show b6 (Wc g ?_);show c4 ?_;rw[Ł (by decide +kernel)];have q:s.heap.objs.size∉fp:=λa=>by
  rcases Tr _ a with z|z
  .show j z
  .rw[Mc]at z;show absurd z (Nat.not_succ_le_self _)
 have r:h'.get? s.heap.objs.size=a5 {cls:=.type "list",data:=.seq ([]:List dt).toArray}:=hk _ _ (eH _ rfl);show b6 (OY ?_);show b6 ?_;change d3 _ A.in1 (Ę s.heap.objs.size (·.push .none) >>= λ_=>Ę s.heap.objs.size (·.pop)) _ _ _;show b6 (Rx r rfl ?_);have u:=tr (nC (·.push mN)) r rfl;show Rx u rfl ?_;have Xu:=tr (nC (·.pop)) u rfl;have x:∀b o,b≠s.heap.objs.size->h'.get? b=a5 o->((h'.update s.heap.objs.size (nC (·.push mN))).update s.heap.objs.size (nC (·.pop))).get? b=a5 o :=
  λb o d e=>(MI _ _ (qs d)).trans ((MI _ _ (qs d)).trans e)
 show c4 ⟨SN PySem.F.plain_extend_loop _,Û W.toS (by rw[m,k.length_eq];show O) _ q _ n 0 _ _ _ rfl (i8 _) (W.frame 0 h' _ Jp λb d o e=>x b o (λz=>q (z▸d)) e) Xu (æ P) λs' J5 c' a y C=>?_⟩;change d3 _ A (load s.heap.objs.size >>= _) _ _ s';show b6 (î y ?_);have⟨Ru,g2,G,Xv,Xw⟩:=s';have eg:g2=s.gens:=a.gens;have ed:G=d':=a.drawn;have eo:Xw=s.os:=a.os;subst eg;subst ed;subst eo;show c4 (T _ c Ru G Xv k (k8 (by rw[eM,C.1,m]) λi v hv=>hP i v (C.2 i v (by rwa [nM]at hv))) (Qi (d8 y)) a.toks λb o e=>?_);have H:b≠s.heap.objs.size:=λz=>by rw[z]at e;show absurd (d8 e) (t4 _)
 show a.heap b o (λz=>?_) (x b o H (hk _ _ (c2 _ e)));rcases d4.mp z with z|z
 .show H z
 .rw[hV.mp z]at e;have:=d8 e;rw[Mc]at p;show absurd (i1 this (vr (MT _) p)) (t4 _)
end
section
def Inv.drawn(I:Inv X pins σ H s)(d:Drawn):Inv X pins σ H {s with drawn:=d}:=⟨I.ok,I.os,I.bare,I.base,I.loc,I.cell,I.free,I.JF,I.pin,I.Jj,I.len⟩
def oR(j:X.calm=bD)(I:Inv X pins σ H s)(hq:JN X.K H p (c.map V.str)\/JY X.K H p (c.map V.str))(g:c.length+1<x3)
  (h:∀(S:d7) (h':DD) (a:Nat),aU X.prog X.w h' S (aI X.w) (aD c)->Inv X pins σ H {s with heap:=h',toks:=a}->Q (.ref S) {s with heap:=h',toks:=a}) :
  d3 (eh X.prog X.w) X.A (NK (.type "set") [.ref p]) Q X.xe s:=by
 have i:X.A.handled=b8:=I.ok.hd j;rcases hq with hq|hq
 .have⟨l,rv,d,hz⟩:=I.list hq;show fT i d.isList (cR rv) g λh' a f k=>h _ h' a f (I.kept λb o e=>k b o (d8 e) e)
 .have⟨l,rv,d,hz⟩:=I.tuple hq;show gM i d (cR rv) g λh' a f k=>h _ h' a f (I.kept λb o e=>k b o (d8 e) e)
def gO(h:X.calm=bD)(I:Inv X pins σ H s)(i:aU X.prog X.w s.heap S (aI X.w) D)(c:D.length<64)
  (q:∀p,H p=b8->Q (.ref p) (upd H p (.lst ((aH D).map V.str)))):d3 (eh X.prog X.w) X.A (NK (.builtin "sorted") [.ref S]) (EP X pins σ Q) X.xe s:=by
 have j:X.A.handled=b8:=I.ok.hd h;have hl:D.length<=cL:=Qi (i1 c (by decide));show fA (qe (A:=X.A.in1) (by simpa using j) i hl λvs k h' d' a d f hsz n hk=>⟨k,f,by rw[iM f,d.length_eq];show c,λr l e k2 b s2=>?_⟩);rw[fS d]at s2;have m:Inv X pins σ H {s with heap:=h',toks:=a}:=I.kept (t':=a) hk;have g:Inv X pins σ H {s with heap:=h',drawn:=d',toks:=a}:=m.drawn d';show⟨.ref h'.objs.size,_,g.laid (t':=a) (o:=.lst ((aH D).map V.str)) k2 (hQ _) ⟨by rw[df,bO];show hl,l,e,dP s2,b⟩,rfl,q _ (g.Jj.fresh (hQ _))⟩
def rU(I:Inv X pins σ H s)(b:aU X.prog X.w s.heap S (aI X.w) D)
  (q:Q (.int D.length) H):d3 (eh X.prog X.w) X.A (NK (.builtin "len") [.ref S]) (EP X pins σ Q) X.xe s:=by
 have⟨L,es,ep,t,ho,c,d,i,g,h,j,k⟩:=b;have a:es.size=D.length:=by rw[<-eM,c,df,<-df (f:=ê) (as:=L),d.length_eq]
 have l:es.size<4096:=h;show call_len_set ho ⟨rfl,rfl,rfl⟩ rfl g ⋯ ?_;show⟨.int es.size,_,I.kept (t':=s.toks+1+1) (λ_ _ e=>e),⟨_,rfl⟩,by rw[a];show q⟩
end
end L2
namespace L2
open PySem
abbrev dZ(mask:Nat):Nat->Nat×Nat->Nat×Nat
 |0,q=>q
 |t+1,q=>dZ mask t (Á mask q.1 q.2)
theorem m7(mask:Nat):∀(a b:Nat) (q:Nat×Nat),dZ mask (a+b) q=dZ mask b (dZ mask a q)
 |0,b,q=>by rw[Qh];rfl
 |a+1,b,q=>by rw[show a+1+b=(a+b)+1 by lia];show m7 mask a b _
theorem m8(mask:Nat):∀(t:Nat) (q:Nat×Nat),(dZ mask t q).2=q.2 / 32 ^ t
 |0,q=>by simp[dZ]
 |t+1,q=>by
  change(dZ mask t (Á mask q.1 q.2)).2=_;rw[m8 mask t];change q.2 / 32 / 32 ^ t=_;rw[Nat.div_div_eq_div_mul,Nat.pow_succ,Nat.mul_comm]
theorem qf(mask:Nat):∀(t:Nat) (q:Nat×Nat),q.1<mask+1->(dZ mask t q).1<mask+1
 |0,q,h=>h
 |t+1,q,h=>qf mask t _ (XA _ (Y' _))
abbrev MR(m:Nat):Nat->Nat->Nat
 |0,i=>i
 |t+1,i=>MR m t ((i * 5+1) % m)
theorem m9(mask:Nat):∀(t i:Nat),dZ mask t (i,0)=(MR (mask+1) t i,0)
 |0,i=>rfl
 |t+1,i=>by
  change dZ mask t ((i * 5+1+0 / 32) % (mask+1),0 / 32)=(MR (mask+1) t ((i * 5+1) % (mask+1)),0)
  rw[Nat.zero_div,Ġ];show m9 mask t _
theorem kl(m:Nat):∀(a b i:Nat),MR m (a+b) i=MR m b (MR m a i)
 |0,b,i=>by rw[Qh];rfl
 |a+1,b,i=>by rw[show a+1+b=(a+b)+1 by lia];show kl m a b _
abbrev vS(m:Nat):Nat->Nat->List Nat
 |0,_=>[]
 |t+1,i=>i::vS m t ((i * 5+1) % m)
theorem ue(m:Nat):∀(n i t:Nat),t<n->(vS m n i)[t]?=a5 (MR m t i)
 |0,_,_,h=>by lia
 |n+1,i,0,_=>rfl
 |n+1,i,t+1,h=>by
  change(vS m n ((i * 5+1) % m))[t]?=_;show ue m n _ t ⋯
theorem qg(m:Nat):∀(n i:Nat),(vS m n i).length=n
 |0,_=>rfl
 |n+1,i=>by change(vS m n _).length+1=_;rw[qg m n]
abbrev Full(m:Nat):Bool:=(fx m).all (λj=>(vS m m 0).contains j)&&(MR m m 0==0)
def CG:Full 8=bD:=by decide +kernel
def xU:Full 16=bD:=by decide +kernel
def xV:Full 32=bD:=by decide +kernel
def xW:Full 64=bD:=by decide +kernel
def uf:Full 128=bD:=by decide +kernel
def vT(h:Full m=bD)(l:i<m)(n:j<m):∃t,t<m/\MR m t i=j:=by
 unfold Full at h;rw[cb,i7]at h;have⟨o,d⟩:=h;have d:MR m m 0=0:=by simpa using d
 have get:∀k,k<m->∃a,a<m/\MR m a 0=k:=λk hk=>by
  have:=o k (ve.mpr hk);rw[List.contains_iff_mem]at this;have⟨a,c⟩:=SX.mp this;have e:a<m:=by have:=(dV.mp c).1;rw[qg]at this;show this
  rw[ue m m 0 a e]at c;show⟨a,e,by simpa using c⟩
 have⟨a,c,f⟩:=get i l;have⟨b,p,g⟩:=get j n;by_cases q:a<=b
 .show⟨b - a,⋯,by rw[<-f,<-kl,show a+(b - a)=b by lia,g]⟩
 .show⟨m - a+b,⋯,?_⟩;rw[<-f,<-kl,show a+(m - a+b)=m+b by lia,kl,d,g]
theorem m_:∀(f i p:Nat),t7 mask owner f i p=b8->∀t,t<f->(owner.getD (dZ mask t (i,p)).1 (a5 0)).isNone=cc
 |0,_,_,_,t,h=>by lia
 |f+1,i,p,h,t,b=>by
  unfold t7 at h;cases a:(fx (Vq mask i+1 - i)).find? (λk=>(owner.getD (i+k) (a5 0)).isNone) with
  |some k=>rw[a]at h;cases h
  |none =>
   rw[a]at h;cases t with
   |zero =>
    have:=List.find?_eq_none.mp a 0 (ve.mpr (by unfold Vq;split<;>lia));rw[Ġ]at this;change(owner.getD i (a5 0)).isNone=cc;cases e:(owner.getD i (a5 0)).isNone with
    |false=>rfl
    |true=>show absurd e this
   |succ t=>show m_ f _ _ h t ⋯
theorem nh:∀(f i p j:Nat),t7 mask owner f i p=a5 j->owner[j]?=a5 b8
 |0,_,_,_,h=>by cases h
 |f+1,i,p,j,h=>by
  unfold t7 at h;cases b:(fx (Vq mask i+1 - i)).find? (λk=>(owner.getD (i+k) (a5 0)).isNone) with
  |some k =>
   rw[b]at h;cases h;have a:=List.find?_some b;have c:i+k<owner.size:=by
    show VP λz=>?_;have:owner.getD (i+k) (a5 0)=a5 0:=by simp[UP,z]
    rw[this]at a;cases a
   have d:owner.getD (i+k) (a5 0)=owner[i+k]:=by simp[UP,c]
   rw[d]at a;rw[OF c];cases e:owner[i+k] with
   |none=>rfl
   |some _=>rw[e]at a;cases a
  |none =>
   rw[b]at h;show nh f _ _ j h
def AS(c:Full (mask+1)=bD){j0:Nat}(a:owner[j0]?=a5 b8)(hsz:owner.size=mask+1)(d:i<mask+1)(f:p<2 ^ 64):∃j,t7 mask owner (Qy mask) i p=a5 j/\owner[j]?=a5 b8:=by
 cases e:t7 mask owner (Qy mask) i p with
 |some j=>show⟨j,rfl,nh _ _ _ _ e⟩
 |none =>
  have g:j0<mask+1:=by rw[<-hsz];show(Array.getElem?_eq_some_iff.mp a).1
  have h:(dZ mask 13 (i,p)).2=0:=by
   rw[m8];show Nat.div_eq_of_lt (Vx f (by decide))
  have⟨t,n,k⟩:=vT c (qf mask 13 (i,p) d) g;have l:dZ mask (13+t) (i,p)=(j0,0):=by
   rw[m7,show dZ mask 13 (i,p)=((dZ mask 13 (i,p)).1,0) from ë rfl h,m9,k]
  have:=m_ _ _ _ e (13+t) (by unfold Qy;lia);rw[l]at this;have m:owner.getD j0 (a5 0)=b8:=by
   have b:j0<owner.size:=by lia
   rw[OF b]at a;simp[UP,b];show sL a
  rw[m]at this;cases this
abbrev vals(L:List (Option Nat)):List Nat:=L.filterMap id
theorem qh:∀{L:List (Option Nat)}{j:Nat},L[j]?=a5 b8->(vals (L.set j (a5 k))).Perm (k::vals L)
 |[],j,h=>by simp at h
 |x::L,0,h=>by
  have:x=b8:=by simpa using h
  subst this;show Np _
 |x::L,j+1,h=>by
  have a:=qh (k:=k) (L:=L) (j:=j) (by simpa using h);cases x with
  |none=>show a
  |some y =>
   change(y::vals (L.set j (a5 k))).Perm (k::y::vals L);show(ZD y a).trans (ZC k y _)
theorem ni:∀{L:List (Option Nat)},(vals L).length<L.length->∃j:Nat,L[j]?=a5 b8
 |[],h=>by simp at h
 |none::L,_=>⟨0,rfl⟩
 |some y::L,h=>by
  have⟨j,a⟩:=ni (L:=L) (by
   have:(vals L).length+1<L.length+1:=h;lia)
  show⟨j+1,by simpa using a⟩
theorem xX(d:Full (mask+1)=bD):∀(hs:List Int) (owner:Array (Option Nat)) (k:Nat),owner.size=mask+1->(vals owner.toList).Perm (fx k)->k+hs.length<=mask ->
  ∃c,hs.foldl (λacc h=>do
   let (owner,k) <-acc
   let j <-t7 mask owner (Qy mask) (Ov h % (mask+1)) (Ov h)
   pure (owner.setIfInBounds j (a5 k),k+1)) (a5 (owner,k))=a5 (c,k+hs.length)/\c.size=mask+1/\(vals c.toList).Perm (fx (k+hs.length))
 |[],owner,k,a,b,_=>⟨owner,rfl,a,b⟩
 |h::hs,owner,k,a,b,f=>by
  rw[i6]at f;have⟨j0,g⟩:=ni (L:=owner.toList) (by rw[b.length_eq,u6,eM];lia);have⟨j,e,l⟩:=AS d (owner:=owner) (j0:=j0) (by rw[<-nM];show g) a (i:=Ov h % (mask+1)) (p:=Ov h) (XA _ (Y' _)) (by unfold Ov;lia);have m:owner.toList[j]?=a5 b8:=by rw[nM];show l
  have n:(vals (owner.setIfInBounds j (a5 k)).toList).Perm (fx (k+1)):=by
   rw[Array.toList_setIfInBounds,ã];show(qh m).trans ((ZD k b).trans (List.perm_append_singleton k _).symm)
  have⟨o,q,r,s⟩:=xX d hs (owner.setIfInBounds j (a5 k)) (k+1) (by rw[Array.size_setIfInBounds];show a) n ⋯;show⟨o,?_,r,by rw[show k+(h::hs).length=k+1+hs.length by simp;lia];show s⟩;rw[SQ,show k+(h::hs).length=k+1+hs.length by simp;lia,<-q];congr 1
  change(t7 mask owner (Qy mask) (Ov h % (mask+1)) (Ov h)).bind _=_;rw[e];rfl
def rV(L:List (Option Nat)):(fx L.length).filterMap (λj=>L.getD j b8)=vals L:=by
 have h:(fx L.length).map (λj=>L.getD j b8)=L:=by
  apply LV
  .simp
  .intro i b a;simp[OC,a]
 have a:vals ((fx L.length).map (λj=>L.getD j b8))=vals L:=ņ vals h;unfold vals at a;rw[List.filterMap_map]at a;show a
def ug{led plain:Bool}(e:Full (mask+1)=bD)(f:hs.size<=mask):∃t a,Te mask finger moves led plain hs=a5 (t,a)/\t.fits hs.size=bD/\t.led=led/\t.plain=plain/\t.mask=mask/\t.dummies=#[]/\a.toList.Perm (fx hs.size):=by
 have⟨owner,c,g,b⟩:=xX e hs.toList (Array.replicate (mask+1) b8) 0 (by simp) (by
  have:∀n:Nat,vals (i2 n b8)=[]:=λn=>by
   induction n with
   |zero=>rfl
   |succ n h=>rw[List.replicate_succ];show h
  rw[Array.toList_replicate,this];show Np _) (by rw[eM];lia)
 rw[Qh,eM]at c b;have i:Q3 mask hs=a5 owner:=by
  unfold Q3;rw[<-Array.foldl_toList];rw[c];rfl
 have k:((fx (mask+1)).filterMap λj=>owner.getD j b8)=vals owner.toList:=by
  rw[<-rV,eM,g];congr 1
  funext j
  simp only[Array.getD_eq_getD_getElem?,Xg,nM]
 have d:(((fx (mask+1)).filterMap λj=>(owner.getD j b8).map (j,·)).map (·.2))=vals owner.toList:=by
  rw[<-k,List.map_filterMap];congr 1
  funext j
  cases owner.getD j b8<;>rfl
 have hl:((fx (mask+1)).filterMap λj=>(owner.getD j b8).map (j,·)).length=hs.size:=by
  have:=ņ Km d;rw[df,b.length_eq,u6]at this;show this
 show⟨_,_,by unfold Te;rw[i];rfl,?_,rfl,rfl,rfl,rfl,?_⟩
 .unfold Rb VS;simp only[et,df,hl];simp;show f
 .change(((fx (mask+1)).filterMap λj=>(owner.getD j b8).map (j,·)).map (·.2)).Perm _;rw[d];show b
end L2
namespace L2
open PySem PySem.Spec PyProof.Rows
abbrev DW(P:uv)(w:wq)(p:Str×Tok):Int×dt:=((sK P w).hash p.1,tv p.1 p.2)
section
def aU.perm(b:aU prog w h a led D)(p:D.Perm c):aU prog w h a led c :=
 let ⟨L,es,ep,t,d,e,f,g,i⟩:=b;⟨L,es,ep,t,d,e,f.trans p,p.nodup_iff.mp g,i⟩
def aU.at(b:aU prog w h a led D)(k:∀o,h.get? a=a5 o->h'.get? a=a5 o):aU prog w h' a led D :=
 let ⟨L,es,ep,t,c,d⟩:=b;⟨L,es,ep,t,k _ c,d⟩
def aU.sz{h:DD}{a:d7}{led:Bool}{D:List Str}{L:List (Str×Tok)}{es:Array (Int×dt)}(b:es.toList=L.map (λp=>((sK prog w).hash p.1,tv p.1 p.2)))(c:(L.map (·.1)).Perm D):es.size=D.length:=by
 rw[<-eM,b,df,<-c.length_eq,df]
def aU.of(g:aU prog w h a led D):h.SetOf (sK prog w) a (λx=>cK (x∈D)) D.length:=by
 have⟨L,es,ep,t,ho,b,d,l,i,j,m,n⟩:=g;show⟨_,es,ep,t,ho,⟨rfl,rfl,rfl⟩,rfl,by rw[b];show kW,λx=>?_,j,i,aU.sz (h:=h) (a:=a) (led:=led) b d⟩;rw[ŀ,b,<-d.mem_iff,js];constructor
 .rintro⟨p,c,e⟩;show⟨_,js.mpr ⟨p,c,rfl⟩,by rw[gL];simp[e]⟩
 .rintro⟨e,k,f⟩;have⟨p,c,rfl⟩:=js.mp k;rw[gL,ŀ]at f;show⟨p,c,f.symm⟩
def qi(b:aU prog w s.heap a led D)(h:∀r:Option Nat,r.isSome=cK (x∈D)->Q r s):
  d3 (eh prog w) A (setFind a (.str x c) ((sK prog w).hash x)) Q E s :=
 wpAny_setFind_of (knd:=sK prog w) (by rw[gL];simp) rfl b.of h
def fb{L':List (Str×Tok)}(ho:s.heap.get? a=a5 {cls:=.type "set",dict:=b8,data:=.set es ep t})(f:b.toList=L'.map (λp=>((sK prog w).hash p.1,tv p.1 p.2)))(g:(L'.map (·.1)).Perm c)(i:c.Nodup)
  (j:t'.fits b.size=bD) (d:b.size<x3) (hl:t'.led=led) (k:b.size=0\/t'.plain=cc) (h:∀h',mA a s.heap h'->h'.get? a=a5 {cls:=.type "set",dict:=b8,data:=.set b (ep+1) t' }->aU prog w h' a led c->Q () {s with heap:=h' }) :
  d3 (eh prog w) A (storeSet a b t') Q E s:=by
 show Wj ho rfl ?_ (WB d);have e:(s.heap.update a (PN b t')).get? a=a5 {cls:=.type "set",dict:=b8,data:=.set b (ep+1) t' }:=tr (PN b t') ho rfl;show h _ (wz s.heap a (PN b t')) e ⟨L',b,ep+1,t',e,f,g,i,j,d,hl,k⟩
def fC(xs:Array α)(i:Nat):(P2 xs i).toList=xs.toList.eraseIdx i:=by
 unfold P2;rw[Array.toList_append,Zc,Zc,va];simp[List.extract];rw[M5 (by simp)]
def vU{t:O1}(h:t.fits n=bD)(e:i<n):(t.drop i).fits (n - 1)=bD:=by
 simp only[Rb,cb,beq_iff_eq,ŀ]at h;have⟨f,b⟩:=h;have a:i<t.place.size:=by lia
 have c:(P2 t.place i).size=t.place.size - 1:=by
  rw[<-eM,fC,Zl,Ł (by simpa using a),eM]
 have d:∀p x,(SetTable.insertAt t.dummies p x).size=t.dummies.size+1:=λp x=>by
  have:=(SetTable.insertAt_perm t.dummies p x).length_eq;rw[eM,eM,Array.size_push]at this;show this
 unfold Â;rw[OF a];simp only[Rb,VS,cb,beq_iff_eq,ŀ,c,d]at b ⊢;constructor<;>lia
def xY(t:O1)(i:Nat):(t.drop i).led=t.led/\(t.drop i).plain=t.plain:=by
 unfold Â;split<;>show⟨rfl,rfl⟩
theorem erase_filter:∀{l:List Str}{j:Nat}{x:Str},l.Nodup->l[j]?=a5 x->l.eraseIdx j=l.filter λy=>cK (y≠x)
 |[],j,x,_,h=>by simp at h
 |y::l,0,x,a,h=>by
  have⟨b,c⟩:=mh.mp a;have:y=x:=by simpa using h
  subst this;rw[List.eraseIdx_cons_zero,PZ (by simp)];show(QT.mpr λz hz=>by
   have:z≠y:=λe=>b (e▸hz);simpa using this).symm
 |y::l,j+1,x,a,h=>by
  have⟨b,c⟩:=mh.mp a;have d:l[j]?=a5 x:=by simpa using h
  have:y≠x:=λe=>b (e▸my d);rw[SE,erase_filter c d,PQ (by simpa using this)]
theorem fU(f:α->β):∀(l:List α) (j:Nat),(l.map f).eraseIdx j=(l.eraseIdx j).map f
 |[],_=>rfl
 |x::l,0=>rfl
 |x::l,j+1=>by
  change f x::(l.map f).eraseIdx j=f x::(l.eraseIdx j).map f;rw[fU f l j]
def qj{a:d7}{led:Bool}{D:List Str}{x:Str}{k:Tok}{Q:Bool->d5->Prop}(l:aU prog w s.heap a led D)(h:∀b h',mA a s.heap h'->aU prog w h' a led (D.filter λy=>cK (y≠x))->Q b {s with heap:=h' }):
  d3 (eh prog w) A (ę a (.str x k) ((sK prog w).hash x)) Q E s:=by
 have u:=l;have⟨L,es,ep,t,ho,c,d,m,f,v,B,C⟩:=l;have G:(sK prog w).is x (.str x k)=bD:=by rw[gL];simp
 have n:ElemsOf (sK prog w) es.toList:=by rw[c];show kW
 have hsz:=aU.sz (h:=s.heap) (a:=a) (led:=led) c d;unfold ę setFind setFindIn;show b6 (b6 (l0 ho rfl f ?_))
 dsimp only
 rw[byScan_of (knd:=sK prog w) rfl v n];simp only[↓reduceIte];show b6 (OY ?_);show b6 (Ĕ (knd:=sK prog w) G ho rfl f n ?_);cases o:X4 (λe=>(sK prog w).is x e.2) es.toList with
 |none =>
  dsimp only
  show c4 (c4 ?_);have g:x∉D:=λg=>by
   rw[<-d.mem_iff,js]at g;have⟨p,H,e⟩:=g;have I:((sK prog w).hash p.1,tv p.1 p.2)∈es.toList:=by rw[c];show js.mpr ⟨p,H,rfl⟩
   have:=XB.mp o _ I;rw[gL,decide_eq_false_iff_not]at this;show this e.symm
  have e:D.filter (λy=>cK (y≠x))=D:=QT.mpr λz hz=>by
   have:z≠x:=λe=>g (e▸hz);simpa using this
  have J:s={s with heap:=s.heap}:=by cases s;rfl
  rw[J];show h cc s.heap (C0 a s.heap) (by rw[e];show u)
 |some j =>
  dsimp only
  obtain⟨i,q,_⟩:=Vc.mp o;rw[Qh];show c4 ?_
  dsimp only
  show b6 (l0 ho rfl f ?_)
  dsimp only
  have N:j<L.length:=by rw[c,df]at i;show i
  have O:j<es.size:=by simpa using i
  have T:L[j].1=x:=by
   have e:es.toList[j]=((sK prog w).hash L[j].1,tv L[j].1 L[j].2):=by simp[c]
   rw[e,gL,ŀ]at q;show q.symm
  have Y:(L.map (·.1)).Nodup:=d.nodup_iff.mpr m;have XC:(L.eraseIdx j).map (·.1)=(L.map (·.1)).filter λy=>cK (y≠x):=by
   rw[<-erase_filter Y (j:=j) (by simp[N,T]),fU]
  have Tu:(P2 es j).toList=(L.eraseIdx j).map (λp=>((sK prog w).hash p.1,tv p.1 p.2)):=by
   rw[fC,c,fU]
  have r:(P2 es j).size=es.size - 1:=by rw[<-eM,fC,Zl,Ł i,eM]
  have⟨d1,d2⟩:=xY t j;show b6 (fb (t':=t.drop j) (led:=led) ho Tu (by rw[XC];show d.filter _) (X5 QS m) (by rw[r];show vU f O) (by rw[r];lia) (d1.trans B) (.inr (d2.trans (C.resolve_left ⋯))) λh' sb hg KN=>?_);show b6 (wpAny_point ?_);show c4 (h bD h' sb KN)
end
def AU:Full 256=bD:=by decide +kernel
section
def iN{es:Array (Int×dt)}{a:Array Nat}(h:a.toList.Perm (fx es.size)):(a.filterMap (es[·]?)).toList.Perm es.toList:=by
 rw[Array.toList_filterMap];show(h.filterMap _).trans (by rw[filterMap_getElem?_range])
def nj{L:List (Str×Tok)}(ho:s.heap.get? a=a5 {cls:=.type "set",dict:=b8,data:=.set es ep t})(n:es.toList=L.map (λp=>((sK prog w).hash p.1,tv p.1 p.2)))(o:(L.map (·.1)).Perm D)(q:D.Nodup)
  (r:t.fits es.size=bD) (u:es.size<x3) (i:t.led=led) (v:es.size=0\/t.plain=cc) (j:JU c=m+1) (x:Full (m+1)=bD) (y:es.size<=m) (Y:m<1000)
  (h:∀h' (d:Array (Int×dt)) (t':O1) (z:Nat),mA a s.heap h'->h'.get? a=a5 {cls:=.type "set",dict:=b8,data:=.set d z t' }->aU prog w h' a led D->t'.fits d.size=bD->t'.mask=m->t'.dummies=#[]->t'.led=led->d.size=es.size->Q () {s with heap:=h' }) :
  d3 (eh prog w) A (setRelay a c) Q E s:=by
 have B:(2000:Nat)<=cL:=by decide
 have⟨t',b,C,f,k,G,H,I,l⟩:=ug (mask:=m) (finger:=t.finger) (moves:=t.movedTo m) (led:=t.led) (plain:=t.plain) (hs:=es.map (·.1)) x (by rw[Q7];show y);rw[Q7]at f l;have e:t.relaid (es.map (·.1)) c=a5 (t',b):=by
  unfold Vr;rw[j,Nat.add_sub_cancel];show C
 unfold setRelay;show b6 (l0 ho rfl r ?_)
 dsimp only
 rw[ł (by rw[j];lia)];show b6 ?_;rw[e];change d3 (eh prog w) A (if ((b.filterMap (es[·]?)).size != es.size)=bD then((XS "internal:set-table-lost-an-element":Sem Unit) >>= λ_=>pure (b.filterMap (es[·]?),t')) else pure (b.filterMap (es[·]?),t')) _ E s;have g:=iN l;have hsz:(b.filterMap (es[·]?)).size=es.size:=by rw[<-eM,g.length_eq,eM]
 rw[ł (by rw[hsz];simp)];show c4 ?_;rw[n]at g;have⟨L',J,N⟩:=dn g;show fb (led:=led) ho J ((N.map _).trans o) q (by rw[hsz];show f) (by rw[hsz];show u) (k.trans i) (by rw[hsz,G];show v) λh' O T hs=>h h' _ t' _ O T hs (by rw[hsz];show f) H I (k.trans i) hsz
def xZ(b:5<=n)(a:n<64):∃m,JU (2 * n)=m+1/\Full (m+1)=bD/\n<=m/\m<1000:=by
 have:∀n:_root_.Fin 64,JU (2 * n.val)=(if n.val<4 then 8 else if n.val<8 then 16 else if n.val<16 then 32 else if n.val<32 then 64 else 128):=by decide +kernel
 have e:=this ⟨n,a⟩
 dsimp only at e
 rw[e,ł ⋯];split
 .show⟨15,rfl,xU,⋯,⋯⟩
 .split
  .show⟨31,rfl,xV,⋯,⋯⟩
  .split
   .show⟨63,rfl,xW,⋯,⋯⟩
   .show⟨127,rfl,uf,⋯,⋯⟩
def vV(a:n<64):∃m,JU (Nq n)=m+1/\Full (m+1)=bD/\n<=m/\m<1000:=by
 have:∀n:_root_.Fin 64,JU (Nq n.val)=(if n.val<2 then 8 else if n.val<4 then 16 else if n.val<8 then 32 else if n.val<16 then 64 else if n.val<32 then 128 else 256):=by decide +kernel
 have e:=this ⟨n,a⟩
 dsimp only at e
 rw[e];split
 .show⟨7,rfl,CG,⋯,⋯⟩
 .split
  .show⟨15,rfl,xU,⋯,⋯⟩
  .split
   .show⟨31,rfl,xV,⋯,⋯⟩
   .split
    .show⟨63,rfl,xW,⋯,⋯⟩
    .split
     .show⟨127,rfl,uf,⋯,⋯⟩
     .show⟨255,rfl,AU,⋯,⋯⟩
def x6{a:d7}{led:Bool}{D:List Str}{Q:Unit->d5->Prop}(b:aU prog w s.heap a led D)(q:D.length<64)(h:∀h',mA a s.heap h'->aU prog w h' a led D->Q () {s with heap:=h' }):
  d3 (eh prog w) A (setTidy a) Q E s:=by
 have f:=b;have⟨L,es,ep,t,ho,c,d,g,e,i,j,k⟩:=b;have hsz:=aU.sz (h:=s.heap) (a:=a) (led:=led) c d;unfold setTidy;show b6 (l0 ho rfl e ?_)
 dsimp only
 split
 .have⟨m,m1,m2,m3,l⟩:=vV (n:=es.size) ⋯;show nj ho c d g e i j k m1 m2 m3 l λh' _ _ _ o _ hs _ _ _ _ _=>h h' o hs
 .have p:s={s with heap:=s.heap}:=by cases s;rfl
  show c4 ?_;rw[p];show h s.heap (C0 a s.heap) f
def vW{a b:d7}{es:Array (Int×dt)}{D:List Str}{Q:Unit->d5->Prop}(v:a≠b)(ho:s.heap.get? a=a5 {cls:=.type "set",dict:=b8,data:=.set #[] 0 (.fresh 0 0 (aI w))})(x:aU prog w s.heap b (aI w) D)(LJ:D.length<64)
  (h:∀h',mA a s.heap h'->aU prog w h' a (aI w) D->Q () {s with heap:=h' }):d3 (eh prog w) A (setMerge a b) Q E s:=by
 have Pl:=x;have⟨L,d,XD,f,y,l,n,B,C,G,Qo,Tv⟩:=x;have hsz:=aU.sz (h:=s.heap) (a:=b) (led:=aI w) l n;have o:(ZK 0 0 (aI w)).fits (#[]:Array (Int×dt)).size=bD:=rfl;unfold setMerge;rw[ł (by simpa using v)];show b6 (l0 y rfl C ?_)
 dsimp only
 split
 .rename_i Tw;have hD:D=[]:=by
   have:d.size=0:=by simpa using Tw
   show List.eq_nil_of_length_eq_zero ⋯
  subst hD;have p:s={s with heap:=s.heap}:=by cases s;rfl
  show c4 ?_;rw[p];show h s.heap (C0 a s.heap) (g9 ho)
 .rename_i Kb;have Tz:d.size≠0:=λz=>Kb (by simpa using z);show b6 ?_;unfold setRoomFor;show b6 (l0 ho rfl o ?_)
  dsimp only
  show i9 (Q:=λ_ s1=>∃(g:DD) (ts:O1) (H:Nat) (k:Array (Int×dt)),s1={s with heap:=g}/\k.size=0/\mA a s.heap g/\g.get? a=a5 {cls:=.type "set",dict:=b8,data:=.set k H ts}/\ts.fits k.size=bD/\Full (ts.mask+1)=bD/\d.size<=ts.mask/\ts.dummies=#[]/\ts.led=aI w) ?_ (λ_ s1 ⟨g,ts,H,k,e,z,i,j,I,hF,q,TB,hl⟩=>?_) λ_ _ e=>e
  .unfold SetTable.roomFor;by_cases h5:5<=d.size
   .rw[Ł (by change(0+d.size) * 5 >= 7 * 3;lia)]
    dsimp only
    have⟨m,m1,m2,m3,m4⟩:=xZ h5 ⋯;have ew:((ZK 0 0 (aI w)).place.size+d.size) * 2=2 * d.size:=by change(0+d.size) * 2=_;lia
    rw[ew];show nj (L:=[]) (D:=[]) (led:=aI w) ho rfl (Np _) .nil o (by decide) rfl (.inl rfl) m1 m2 (by change 0<=m;lia) m4 λh' Jg t' Og i j _ P5 J hd hl hz=>⟨h',t',Og,Jg,rfl,hz,i,j,P5,by rw[J];show m2,by rw[J];show m3,hd,hl⟩
   .rw[ł (by change ¬(0+d.size) * 5 >= 7 * 3;lia)]
    dsimp only
    have p:s={s with heap:=s.heap}:=by cases s;rfl
    show c4 ⟨s.heap,_,0,#[],p,rfl,C0 a s.heap,ho,o,CG,by change d.size<=7;lia,rfl,rfl⟩
  .subst e;show b6 (l0 j rfl I ?_)
   dsimp only
   have TC:ts.place.size=0:=by
    simp only[Rb,cb,beq_iff_eq]at I;lia
   have Qq:ts.road f=if ts.mask==f.mask&&f.dummies.isEmpty then .slotForSlot else .clean:=by
    unfold SetTable.road VS;rw[TC,TB];rfl
   have XE:g.get? b=a5 {cls:=.type "set",dict:=b8,data:=.set d XD f}:=(i.2 b (qs v)).trans y;have N:(ts.plain&&f.plain)=cc:=by rw[Tv.resolve_left Tz,Tx]
   have O:(ts.led&&f.led)=aI w:=by rw[hl,Qo,ÿ]
   rw[Qq];by_cases T:(ts.mask==f.mask&&f.dummies.isEmpty)=bD
   .rw[Ł T]
    dsimp only
    show fb (s:={s with heap:=g}) (led:=aI w) (L':=L) (t':={f with finger:=ts.finger,led:=ts.led&&f.led,moves:=ts.moves,plain:=ts.plain&&f.plain}) j l n B C G O (.inr N) λh' r _ hs=>h h' (i.trans r) hs
   .rw[ł T]
    dsimp only
    have⟨t',c,q1,Y,q3,q4,q5,q6,q7⟩:=ug (mask:=ts.mask) (finger:=ts.finger) (moves:=ts.moves) (led:=ts.led&&f.led) (plain:=ts.plain&&f.plain) (hs:=d.map (·.1)) hF (by rw[Q7];show q);rw[Q7]at Y q7;show b6 ?_;rw[q1];change d3 (eh prog w) A (if ((c.filterMap (d[·]?)).size != d.size)=bD then((XS "internal:set-table-lost-an-element":Sem Unit) >>= λ_=>pure (c.filterMap (d[·]?),t')) else pure (c.filterMap (d[·]?),t')) _ E _;have t:=iN q7;have u:(c.filterMap (d[·]?)).size=d.size:=by rw[<-eM,t.length_eq,eM]
    rw[ł (by rw[u];simp)];show c4 ?_;rw[l]at t;have⟨L',e',p'⟩:=dn t;show fb (s:={s with heap:=g}) (led:=aI w) j e' ((p'.map _).trans n) B (by rw[u];show Y) (by rw[u];show G) (q3.trans O) (.inr (q4.trans N)) λh' r _ hs=>h h' (i.trans r) hs
end
section
theorem hU:∀{l:List α},(∀x∈l,∀Q':ForInStep β->d5->Prop,Q' (.yield b) s->d3 M A (body x b) Q' E s)->Q b s->d3 M A (ē l b body) Q E s
 |[],_,h=>by rw[ì];show c4 h
 |x::l,a,h=>by
  rw[V4];show b6 (a x (by simp) _ (hU (λy c=>a y (by simp[c])) h))
def vX(hs:∀b∈sets,∃led D,aU prog w s.heap b led D)(h:Q bD s):d3 (eh prog w) A (setsQuiet sets) Q E s:=by
 unfold setsQuiet;show b6 (hU (λb c Q' d=>?_) (c4 h));have⟨led,D,L,es,ep,t,f,g,k,l,i,m,n,o⟩:=hs b c;show b6 (RZ f rfl i ?_);rw[<-UQ];show b6 (hU (λe a q j=>?_) (c4 d));rw[g]at a;obtain⟨p,_,rfl⟩:=js.mp a;show c4 j
def qk(l:aU prog w s.heap a (aI w) D)(ho:∀b∈others,∃led B,aU prog w s.heap b led B)(m:∀r,f=a5 r->aU prog w s.heap r (aI w) [])
  (h:∀(es:Array (Int×dt)) (L:List (Str×Tok)) (h':DD),es.toList=L.map (DW prog w)->(L.map (·.1)).Perm D->(f=b8->h'=s.heap)->(∀r,f=a5 r->mA r s.heap h'/\aU prog w h' r (aI w) [])->Q es {s with heap:=h' }) :
  d3 (eh prog w) A (setWalkUnseen a others f) Q E s:=by
 have C:=l;have⟨L,es,ep,t,j,n,o,Ju,k,hb,G,H⟩:=l;have I:s={s with heap:=s.heap}:=by cases s;rfl
 have c:∀(d:Array (Int×dt)),d.toList.Perm es.toList->Q d s:=λd p=>by
  rw[n]at p;have⟨L',J,N⟩:=dn p;rw[I];show h d L' s.heap J ((N.map _).trans o) (λ_=>rfl) λr e=>⟨C0 r s.heap,m r e⟩
 unfold setWalkUnseen;show b6 (l0 j rfl k ?_)
 dsimp only
 show b6 (cS ?_);cases g:w.params.followText "set-order" with
 |true =>
  rw[Ł (by change(w.params.followText "set-order"||t.led&&t.plain||decide (es.size<=1))=bD;rw[g];rfl)];unfold setWalk;show b6 (l0 j rfl k ?_)
  dsimp only
  show b6 (cS ?_);rw[Ł (by show g)];show b6 (QC ?_);show c4 (c _ (dY _ _))
 |false =>
  by_cases q:es.size<=1
  .rw[Ł (by rw[ń q];simp)];unfold setWalk;show b6 (l0 j rfl k ?_)
   dsimp only
   show b6 (cS ?_);rw[ł (by change ¬w.params.followText "set-order"=bD;rw[g];simp)];change d3 _ _ (if (!t.plain&&cK (es.size>1))=bD then _ else _) _ _ s;rw[ł (by rw[Ń (show ¬es.size>1 by lia)];simp)];change d3 _ _ ((if (!t.led&&cK (es.size>1))=bD then _ else _) >>= _) _ _ s;rw[ł (by rw[Ń (show ¬es.size>1 by lia)];simp)];show b6 (c4 (c4 (c es (Np _))))
  .have O:t.plain=cc:=H.resolve_left ⋯;rw[ł (by change ¬(w.params.followText "set-order"||t.led&&t.plain||decide (es.size<=1))=bD;rw[g,O,Ń q];simp)];show b6 (vX (λb KR=>by
    rcases d4.mp KR with rfl|KR
    .show⟨_,_,C⟩
    .show ho b KR) ?_)
   rw[ł (by simp)];show b6 (OY ?_);cases f with
   |none=>show c4 (c es (Np _))
   |some r =>
    dsimp only
    have⟨Lr,T,ZQ,i,u,v,x,Y,y,XF,Qs,XG⟩:=m r rfl;show b6 (l0 u rfl y ?_)
    dsimp only
    have Rw:T.size=0:=by
     have:=aU.sz (h:=s.heap) (a:=r) (led:=aI w) v x;simpa using this
    split
    .show b6 (fb (t':={i with led:=i.led&&t.led,plain:=i.plain&&t.plain}) (led:=aI w) u v x Y y XF (by change(i.led&&t.led)=_;rw[Qs,G,ÿ]) (.inl Rw) λh' sb _ hs=>?_);show c4 (h es L h' n o (λz=>nomatch z) λr' e=>by cases e;show⟨sb,hs⟩)
    .show c4 (c es (Np _))
end
section
variable{prog:uv}{w:wq}{A:M9}{E:dt->d5->Prop}{s:d5}
theorem jr(J:List (Str×Tok)->d5->Prop)(a:∀d p r s,d++p::r=L->J d s->∀Q':ForInStep PUnit->d5->Prop,(∀s',J (d++[p]) s'->Q' (.yield ⟨⟩) s')->d3 M A (body (DW prog w p) ⟨⟩) Q' E s)(b:∀s',J L s'->Q ⟨⟩ s'):
  ∀(r d:List (Str×Tok)) (s:d5),d++r=L->J d s->d3 M A (ē (r.map (DW prog w)) ⟨⟩ body) Q E s
 |[],d,s,e,h=>by
  rw[rr]at e;subst e;rw[J0,ì];show c4 (b s h)
 |p::r,d,s,e,h=>by
  rw[ei,V4];show b6 (a d p r s e h _ λs' h'=>jr J a b r (d++[p]) s' (by rw[<-e];simp) h')
def aU.ty(h:aU prog w s.heap a led D):s.TypeIs (.ref a) "set":=let ⟨_,_,_,_,ho,_⟩:=h;⟨_,ho,rfl⟩
def gu(b:aU prog w s.heap a led D)(h:Q bD s):d3 (eh prog w) A (H8 (.ref a)) Q E s:=by
 unfold H8;show b6 (O5 b.ty Wo ?_);show c4 h
def iO{a:d7}{led:Bool}{D:List Str}{Q:Nat->d5->Prop}(b:aU prog w s.heap a led D)(h:Q D.length s):d3 (eh prog w) A (Qp a) Q E s:=by
 obtain⟨L,es,ep,t,ho,c,d,f,e,_⟩:=b;unfold Qp;show b6 (RZ ho rfl e (c4 ?_));rw[aU.sz (h:=s.heap) (a:=a) (led:=led) c d];show h
def ql(b:aU prog w s.heap a led D)(h:Q (.type "set") s):d3 (eh prog w) A (Ua a) Q E s:=by
 unfold Ua;show b6 (O5 b.ty Wo ?_);show c4 h
def uh(h:Q (.ref s.heap.objs.size) {s with heap:=s.heap.push {cls:=.type "set",dict:=b8,data:=.set #[] 0 (.fresh 0 0 (aI w))}}):d3 (eh prog w) A (newSet (.type "set")) Q E s:=by
 unfold newSet ò;show b6 (b6 (QC (c4 ?_)))
 dsimp only
 simp only[newObj];show b6 (wpAny_alloc (c4 h))
def x8{a:d7}{D:List Str}{Q:dt->d5->Prop}(b:aU prog w s.heap a (aI w) D)(c:D.length<64)(h:∀h',mA s.heap.objs.size (s.heap.push {cls:=.type "set",dict:=b8,data:=.set #[] 0 (.fresh 0 0 (aI w))}) h'->aU prog w h' s.heap.objs.size (aI w) D->Q (.ref s.heap.objs.size) {s with heap:=h' }):
  d3 (eh prog w) A (T_ a) Q E s:=by
 unfold T_;show b6 (ql b (b6 (uh ?_)));show b6 (c4 ?_);have d:s.heap.objs.size≠a:=λe=>by obtain⟨_,_,_,_,ho,_⟩:=b;show t4 _ (e▸d8 ho)
 show b6 (vW (es:=#[]) (s:={s with heap:=s.heap.push {cls:=.type "set",dict:=b8,data:=.set #[] 0 (.fresh 0 0 (aI w))}}) d (eH _ rfl) (b.at λo e=>c2 _ e) c λh' f hs=>?_);show c4 (h h' f hs)
def k9{id:String}(ho:s.heap.get? a=a5 {cls:=.type "set",dict:=b8,data:=.set es ep t})(b:t.fits es.size=bD)(h:Q () s):d3 (eh prog w) A (SW id a ep) Q E s:=by
 unfold SW;show b6 (Wk ho rfl b ?_);rw[ł (by simp)];show c4 h
def x9{id:String}(v:a≠b)(o:aU prog w s.heap a (aI w) g)(j:aU prog w s.heap b (aI w) q)(B:g.length<64)(i:q.length<=g.length)
  (h:∀h',mA a s.heap h'->aU prog w h' a (aI w) (g.filter λx=>cK (x∉q))->Q () {s with heap:=h' }):d3 (eh prog w) A (Se id a (.ref b)) Q E s:=by
 unfold Se;rw[ł (by simpa using qs v)];show b6 (gu j ?_);rw[Ł rfl];show b6 (c4 ?_);show b6 (iO j (b6 (iO o ?_)));rw[ł ⋯];have⟨L2,I,J,N,y,O,T,Y,z,U',Vw,XI⟩:=_root_.id j;show b6 (Wk y rfl z ?_);show b6 (tj ?_);show b6 (qk j (others:=[a]) (f:=b8) (λc C=>by rw[hV.mp C];show⟨_,_,o⟩) (λr e=>nomatch e) λes L h0 D G t _=>?_);have t:=t rfl;subst t;rw[<-UQ,D];show b6 (jr (prog:=prog) (w:=w) (L:=L) (λd s'=>∃h',s'={s with heap:=h' }/\mA a s.heap h'/\aU prog w h' a (aI w) (g.filter λx=>cK (x∉d.map (·.1)))) (λd p r s' ed ⟨h',u,k,l⟩ Q' H=>?_) (λs' ⟨h',u,k,l⟩=>?_) L [] _ rfl ⟨s.heap,by cases s;rfl,C0 a s.heap,by rw[QT.mpr λx _=>by simp];show o⟩)
 .subst u;show b6 (tj (qj (s:={s with heap:=h' }) l λb' i m n=>?_));show b6 (k9 (s:={s with heap:=i}) (((k.trans m).2 b (qs v)).trans y) z ?_);show c4 (H _ ⟨i,rfl,k.trans m,?_⟩);rw[List.filter_filter]at n;have e:(g.filter λx=>cK (x≠p.1)&&cK (x∉d.map (·.1)))=g.filter λx=>cK (x∉(d++[p]).map (·.1)):=by
   show Í λx _=>?_;rw[JR];simp[not_or,and_comm]
  rw[<-e];show n
 .subst u;show c4 ?_;have e:(g.filter λx=>cK (x∉L.map (·.1)))=g.filter λx=>cK (x∉q):=by
   show Í λx _=>?_;rw[JR];simp only[ŀ];rw[G.mem_iff]
  rw[e]at l;show x6 (s:={s with heap:=h' }) l (Ë (l' _ _) B) λi m n=>h i (k.trans m) n
def x_{id:String}(MS:a≠b)(l:aU prog w s.heap a (aI w) m)(j:aU prog w s.heap b (aI w) g)(D:m.length<64)(k:g.length<64)
  (h:∀h',(∀c o,s.heap.get? c=a5 o->h'.get? c=a5 o)->aU prog w h' s.heap.objs.size (aI w) (m.filter λx=>cK (x∉g))->Q (.ref s.heap.objs.size) {s with heap:=h' }):d3 (eh prog w) A (O_ id a (.ref b)) Q E s:=by
 have keep:∀h',mA s.heap.objs.size (s.heap.push {cls:=.type "set",dict:=b8,data:=.set #[] 0 (.fresh 0 0 (aI w))}) h'->∀c o,s.heap.get? c=a5 o->h'.get? c=a5 o:=λh' i c o e =>
  (i.2 c (gs (d8 e))).trans (c2 _ e)
 have G:a<s.heap.objs.size:=by obtain⟨_,_,_,_,ho,_⟩:=l;show d8 ho
 have v:b<s.heap.objs.size:=by obtain⟨_,_,_,_,ho,_⟩:=j;show d8 ho
 unfold O_
 dsimp only
 show b6 (gu j ?_);rw[ł (by simp)];show b6 (c4 ?_);rw[ł (by simp),Ł rfl];show b6 (iO j (b6 (iO l ?_)));by_cases H:m.length / 4>g.length
 .rw[Ł H];show b6 (OY ?_);show b6 (x8 l D λh' i hs=>?_);show b6 (c4 ?_);show b6 (tj (x9 (s:={s with heap:=h' }) (Kk v) hs (j.at λo e=>keep h' i b o e) D ⋯ λk n t=>?_));show c4 (h k (keep k (i.trans n)) t)
 .rw[ł H];show b6 (ql l (b6 (uh ?_)));show b6 (c4 ?_);have I:=l.at (h':=s.heap.push {cls:=.type "set",dict:=b8,data:=.set #[] 0 (.fresh 0 0 (aI w))}) λo e=>c2 _ e;have Vn:=j.at (h':=s.heap.push {cls:=.type "set",dict:=b8,data:=.set #[] 0 (.fresh 0 0 (aI w))}) λo e=>c2 _ e;have J:aU prog w (s.heap.push {cls:=.type "set",dict:=b8,data:=.set #[] 0 (.fresh 0 0 (aI w))}) s.heap.objs.size (aI w) []:=g9 (eH _ rfl);have⟨La,ea,XJ,ta,N,Pn,ZU,TH,y,ZV,Vz,XM⟩:=_root_.id I;show b6 (Wk N rfl y ?_);show b6 (tj ?_);rw[Ł rfl];show b6 (qk (s:={s with heap:=s.heap.push {cls:=.type "set",dict:=b8,data:=.set #[] 0 (.fresh 0 0 (aI w))}}) I (others:=[b,s.heap.objs.size]) (f:=a5 s.heap.objs.size) (λc hc=>by
   rcases d4.mp hc with rfl|hc
   .show⟨_,_,Vn⟩
   .rw[hV.mp hc];show⟨_,_,J⟩) (λr e=>by cases e;show J) λes L h0 he B _ e0=>?_)
  have⟨XN,Ry⟩:=e0 _ rfl;rw[<-UQ,he];have XO:L.length=m.length:=by rw[<-B.length_eq,df]
  show b6 (jr (prog:=prog) (w:=w) (L:=L) (λd s'=>∃h',s'={s with heap:=h' }/\mA s.heap.objs.size (s.heap.push {cls:=.type "set",dict:=b8,data:=.set #[] 0 (.fresh 0 0 (aI w))}) h'/\aU prog w h' s.heap.objs.size (aI w) ((d.map (·.1)).filter λx=>cK (x∉g))) (λd p r s' O ⟨h',C,i,u⟩ Q' T=>?_) (λs' ⟨h',C,i,u⟩=>?_) L [] _ rfl ⟨h0,rfl,XN,Ry⟩)
  .subst C;have Y:(L.map (·.1)).Nodup:=B.nodup_iff.mpr TH;have XQ:p.1∉d.map (·.1):=λz=>by
    rw[<-O,ke,ro]at Y;show Y.2.2 p.1 z p.1 (by simp) rfl
   have XR:aU prog w h' b (aI w) g:=j.at λo e=>keep h' i b o e;have VA:h'.get? a=a5 {cls:=.type "set",dict:=b8,data:=.set ea XJ ta}:=(i.2 a (gs G)).trans N;have Mm:d.length<64:=by have:=ņ Km O;simp at this;lia
   show b6 (tj ?_);rw[Ł rfl];show b6 (qi (s:={s with heap:=h' }) XR λr hr=>?_);show b6 (c4 ?_);have em:((d++[p]).map (·.1)).filter (λx=>cK (x∉g))=(d.map (·.1)).filter (λx=>cK (x∉g))++if p.1∈g then [] else [p.1]:=by
    rw[ke,PM];congr 1
    by_cases z:p.1∈g<;>simp[z]
   by_cases z:p.1∈g
   .rw[ł (by rw[hr,ń z];simp)];show c4 ?_;show b6 (k9 (s:={s with heap:=h' }) VA y ?_);show c4 (T _ ⟨h',rfl,i,?_⟩);rw[em,Ł z,rr];show u
   .rw[Ł (by rw[hr,Ń z];rfl)];show b6 (kY (s:={s with heap:=h' }) u (by
     have:((d.map (·.1)).filter λx=>cK (x∉g)).length<=d.length:=vr (l' _ _) (by simp);have Kh:x3=4096:=rfl;lia) λk n t=>?_)
    show c4 ?_;show b6 (k9 (s:={s with heap:=k}) ((n.2 a (gs G)).trans VA) y ?_);show c4 (T _ ⟨k,rfl,i.trans n,?_⟩);rw[em,ł z];rw[ł (λq=>XQ (so.mp q).1)]at t;show t
  .subst C;show c4 ?_;show c4 (h h' (keep h' i) (u.perm ?_));show B.filter _
end
def mG:Ú table "set.__sub__"=a5 NM.«frozenset.__sub__» :=
 Y0 (id':="frozenset.__sub__") (by kernel_rfl) rfl (by decide +kernel) (by kernel_rfl)
section
def km(n:a≠b)(g:aU prog w s.heap a (aI w) j)(i:aU prog w s.heap b (aI w) k)(p:j.length<64)(q:k.length<64)
  (h:∀h',(∀c o,s.heap.get? c=a5 o->h'.get? c=a5 o)->aU prog w h' s.heap.objs.size (aI w) (j.filter λx=>cK (x∉k))->Q (.ref s.heap.objs.size) {s with heap:=h' }):d3 (eh prog w) A (OZ .Sub (.ref a) (.ref b)) Q E s:=by
 show wpAny_binaryOp_same (T:="set") g.ty i.ty PySem.F.fills_set_sub PySem.F.slot_set_sub (Jw PySem.F.slot_set_sub g.ty mG ?_ (PySem.F.args_set_sub_2 _ _));unfold NM.«frozenset.__sub__»;change d3 (eh prog w) _ (do
  let x <-Uw "__sub__" ⟨[.ref a,.ref b],[]⟩
  match x with
  |(self,f) =>
   match if cc=bD then(f,self) else(self,f) with
   |(l,r)=>do
    let c <-H8 l <&&> H8 r
    if (!c)=bD then do
      Ě (S0 "frozenset."++S0 "__sub__"++S0 ".declined")
      ret Value.notImplemented
     else do
      let d <-Ud l
      let e <-O_ (S0 "frozenset."++S0 "__sub__") d r
      ret e) _ _ _
 show b6 (m:=Uw "__sub__" ⟨[.ref a,.ref b],[]⟩) (c4 (a:=(kj a,kj b)) ?_)
 dsimp only
 show b6 (b6 (gu g ?_));change d3 _ _ (H8 (.ref b)) _ _ _;show gu i ?_;rw[ł (by simp)];show b6 (c4 ?_);show b6 (x_ n g i p q λh' hk hs=>?_);show c4 ⟨_,rfl,(λz=>by cases z),h h' hk hs⟩
end
section
def rW(m:X.calm=bD)(I:Inv X pins σ H s)(hq:JN X.K H p (f.map V.str)\/JY X.K H p (f.map V.str))(i:f.length+1<x3)
  (h:∀(S:d7) (o:Obj) (s1:d5),s.heap.objs.size<=S->s1.heap.get? S=a5 o->aU X.prog X.w s1.heap S (aI X.w) (aD f)->Inv X ((S,o)::pins) σ H s1->Q (.ref S) s1) :
  d3 (eh X.prog X.w) X.A (NK (.type "set") [.ref p]) Q X.xe s:=by
 have j:X.A.handled=b8:=I.ok.hd m;have d:∀(h':DD) (a:Nat),aU X.prog X.w h' s.heap.objs.size (aI X.w) (aD f)->(∀b o,b<s.heap.objs.size->s.heap.get? b=a5 o->h'.get? b=a5 o)->Q (.ref s.heap.objs.size) {s with heap:=h',toks:=a}:=λh' a c k=>by
  have⟨L,es,ep,t,ho,r⟩:=_root_.id c;have l:Inv X pins σ H {s with heap:=h',toks:=a}:=I.kept λb o e=>k b o (d8 e) e;show h _ _ _ (hQ _) ho c (l.eJ λq hq=>?_);rcases d4.mp hq with rfl|hq
  .show⟨ho,I.Jj.fresh (hQ _),Kk I.lt,I.Di (hQ _),λv z=>nomatch z⟩
  .show l.pin q (kr _ hq)
 rcases hq with hq|hq
 .have⟨n,rv,g,hz⟩:=I.list hq;show fT j g.isList (cR rv) i λh' a c k=>d h' a c k
 .have⟨n,rv,g,hz⟩:=I.tuple hq;show gM j g (cR rv) i λh' a c k=>d h' a c k
end
def rX:QD (.type "list_reverseiterator") "__len__"=pure b8:=by rw[RP,Ou];kernel_rfl
def ya:QD (.type "list_reverseiterator") "__length_hint__"=pure (a5 (.builtin "list_reverseiterator.__length_hint__")):=by rw[RP,Ou];kernel_rfl
def oS:Oj (.type "list_reverseiterator") (.type "list_reverseiterator")=pure bD:=by rw[zy];kernel_rfl
section
variable{I:d7}{fp wr:List d7}{G:Array Y8->Array Y8->Prop}{n:Nat}{P:Nat->dt->Prop}{St:Nat->d5->Prop}
def rY(W:ô prog w A.in1 I fp wr G n P St)(c:∀i s,St i s->s.TypeIs (.ref I) "list_reverseiterator")(S:d7)(res:dt)(j:Nat)(a:St 0 s)(h:S∉fp)(k:I∈fp)
  (l:s.heap.get? S=a5 {cls:=.type "list",data:=.seq #[] j})
  (m:∀s' d b,Moved (S::wr) G s s'->s'.heap.get? S=a5 {cls:=.type "list",dict:=b8,data:=.seq d b,slots:=#[]}->č P d n->R (.ok (.ret res)) s') (o:n<=cL) :
  d3 (eh prog w) A.in1 (r6 (.ref S) (.ref I) res)
   (λg s'=>match g with|.done f=>R (.ok f) s'|.again b=>b.quiet=bD/\Qv (eh prog w) A b R s') (λe s'=>R (.error e) s') s:=by
 have p:S≠I:=λe=>h (e▸k);unfold r6;show b6 (Wc (c 0 _ a) ?_);have q:NO (.ref S) (.ref I)=cc:=by simp[NO,p]
 have r:(ri "list_reverseiterator"==ri "list")=cc:=by decide
 have t:(ri "list_reverseiterator"==ri "tuple")=cc:=by decide
 simp only[q,r,t,X_,K8,if_false];show b6 (W.self 0 _ _ _ a ?_);show b6 (tj ?_);unfold UH;show b6 (Ui (c 0 _ a) rX ?_);change d3 _ A.in1 (specialOf (kj I) (Q2 "__length_hint__") >>= _) _ _ _;show b6 (Ui (c 0 _ a) ya ?_);have u:splitId "list_reverseiterator.__length_hint__"=a5 ("list_reverseiterator","__length_hint__"):=by decide +kernel
 dsimp only
 rw[u]
 dsimp only
 show b6 (O5 (c 0 _ a) oS ?_);rw[ł (by decide)];rw[Ł (by decide +kernel)];rw[ł (by decide +kernel)];show c4 ?_;rw[ł (by decide +kernel)];show c4 ⟨SN PySem.F.plain_extend_loop _,Û W o _ h _ n 0 _ _ _ rfl (i8 _) a l (æ P) λs' d b v x y=>?_⟩;show m s' d b v x y
def mH(W:ô prog w A.in1 I fp wr G n P St)(p:∀i s,St i s->s.TypeIs (.ref I) "list_reverseiterator")(S:d7)(q:St 0 s)(l:S∉fp)(r:I∈fp)
  (g:s.heap.get? S=a5 {cls:=.type "list",data:=.seq #[]})
  (t:∀s' d a,Moved (S::wr) G s s'->s'.heap.get? S=a5 {cls:=.type "list",dict:=b8,data:=.seq d a,slots:=#[]}->č P d n->R (.ok (.ret .none)) s') (u:n<=cL) :
  d3 (eh prog w) A.in1 (NM.«list.__init__» ⟨[.ref S,.ref I],[]⟩)
   (λj s'=>match j with|.done f=>R (.ok f) s'|.again a=>a.quiet=bD/\Qv (eh prog w) A a R s') (λe s'=>R (.error e) s') s:=by
 change d3 _ A.in1 (do let k <-VE (.ref S);Ħ (.ref S) (λ_=>#[]);letGo k.toList.reverse;r6 (.ref S) (.ref I) .none) _ _ s;show b6 ?_;unfold VE;show b6 (U0 g rfl (c4 ?_));change d3 _ A.in1 (Ę S (λ_=>#[]) >>= λ_=>letGo (#[]:Array dt).toList.reverse >>= λ_=>r6 (.ref S) (.ref I) .none) _ _ s;show b6 (Rx g rfl ?_);have v:=tr (nC (λ_=>(#[]:Array dt))) g rfl;have m:∀b o,b≠S->s.heap.get? b=a5 o->(s.heap.update S (nC (λ_=>(#[]:Array dt)))).get? b=a5 o :=
  λb o c e=>(MI _ _ (qs c)).trans e
 show b6 (wpAny_letGo ?_);show rY W p S .none _ (W.frame 0 s _ s.toks q (hQ _) λb c o e=>m b o (λh=>l (h▸c)) e) l r v (λs' d a x y z=>?_) u;show t s' d a (Č W.gtrans ((Moved.refl W.grefl).then_heap (hQ _) λb o c e=>m b o (λh=>c (h▸mu)) e) x) y z
def qm(W:ô prog w A.in1.in1 I fp wr G n P St)(h:∀i s,St i s->s.TypeIs (.ref I) "list_reverseiterator")(j:St 0 s)(k:∀b∈fp,b<s.heap.objs.size)(l:I∈fp)
  (m:∀s' a c,Moved (s.heap.objs.size::wr) G {s with heap:=s.heap.push {cls:=.type "list",data:=.seq #[]}} s' ->
   s'.heap.get? s.heap.objs.size=a5 {cls:=.type "list",dict:=b8,data:=.seq a c,slots:=#[]}->č P a n->Q (.ref s.heap.objs.size) s') (p:n<=cL) :
  d3 (eh prog w) A (NK (.type "list") [.ref I]) Q E s:=by
 have q:s.heap.objs.size∉fp:=λd=>t4 _ (k _ d);show callType_codes (Q₁:=λobj f=>obj=.ref s.heap.objs.size/\f={s with heap:=s.heap.push {cls:=.type "list",data:=.seq #[]}}) PySem.F.called_list (PySem.F.typeCall_list_1 _) PySem.F.entry_list_init
  (code_list_new _ ⟨rfl,rfl⟩) λobj f r=>?_
 have⟨rfl,rfl⟩:=r;have g:(s.heap.push {cls:=.type "list",data:=.seq #[]}).get? s.heap.objs.size=a5 {cls:=.type "list",data:=.seq #[]}:=eH _ rfl;show⟨⟨_,g,rfl⟩,PySem.F.args_list_init_2 _ _,mH W h _ (W.frame 0 s _ s.toks j (hQ _) λb _ o e=>c2 _ e) q l g (λs' a c d t u=>?_) p⟩;show⟨rfl,m s' a c d t u⟩
open AutoSeq1 (wpAny_loadPart') in
end
section
def iP(a:s.heap.IsTupleIter it l i)
  (hl:s.heap.IsTuple l b) (d:b[i]?=a5 x)
  (e:∀h',h'.IsTupleIter it l (i+1)->mA it s.heap h'->Q x {s with heap:=h' }) :
  d3 (eh prog w) A (JH (.ref it)) Q E s:=by
 have⟨o,ho,f,c⟩:=id a;obtain⟨j,g,_,k,h⟩:=hl;unfold JH;show b6 (Qn (name:=Q2 "__next__") a.typeIs PySem.F.slot_tuple_iterator_next
  (Jw PySem.F.slot_tuple_iterator_next a.typeIs PySem.F.entry_tuple_iterator_next ?_ (PySem.F.args_tuple_iterator_next_1 _)))
 change d3 _ _ (ı (.ref it) 0 >>= _) _ _ s;show b6 (U3 ho c (x:=.ref l) rfl ?_);change d3 _ _ (if (kj l==mN)=bD then _ else _) _ _ s;rw[ł (show ¬((kj l==mN)=bD) from i0)];change d3 _ _ (ı (.ref it) 1 >>= _) _ _ s;show b6 (U3 ho c (x:=.int i 0) rfl ?_);change d3 _ _ (ZG (.ref l) >>= _) _ _ s;show b6 (U0 g h ?_);simp only[Ql,d];show b6 (M7 ho c (by simp) (c4 ⟨x,rfl,c4 (e _ ?_ (wz ..))⟩));show⟨_,tr _ ho (Ti (M8 c _)),(Vv ..).trans f,by
  rw[M8 c];simp[t8]⟩
def fc(f:A.handled=b8)
  (b:s.heap.IsTupleIter it l i) (hl:s.heap.IsTuple l c) (g:c[i]?=b8)
  (h:∀h' e,ĝ it s.heap h'->(∃o,h'.get? e=a5 o/\o.cls=.type "StopIteration")->E (.ref e) {s with heap:=h' }) :
  d3 (eh prog w) A (JH (.ref it)) Q E s:=by
 have⟨o,ho,n,d⟩:=id b;obtain⟨p,j,_,q,k⟩:=hl;unfold JH;show b6 (Qn (name:=Q2 "__next__") b.typeIs PySem.F.slot_tuple_iterator_next
  (Jw PySem.F.slot_tuple_iterator_next b.typeIs PySem.F.entry_tuple_iterator_next ?_ (PySem.F.args_tuple_iterator_next_1 _)))
 change d3 _ _ (ı (.ref it) 0 >>= _) _ _ s;show b6 (U3 ho d (x:=.ref l) rfl ?_);change d3 _ _ (if (kj l==mN)=bD then _ else _) _ _ s;rw[ł (show ¬((kj l==mN)=bD) from i0)];change d3 _ _ (ı (.ref it) 1 >>= _) _ _ s;show b6 (U3 ho d (x:=.int i 0) rfl ?_);change d3 _ _ (ZG (.ref l) >>= _) _ _ s;show b6 (U0 j k ?_);simp only[Ql,g];show b6 (OY (b6 (M7 ho d (by simp) ?_)));change d3 _ _ (Z3 (.type "StopIteration") [] >>= _) _ _ _;show b6 ?_;simp only[Z3,Į];show b6 (wk ?_ (by size_fits));show b6 (m:=U4 _ _) (XH (a:=mN) (by first|rfl|(simp only[U4];rfl)) ?_);show wk ?_ (by size_fits);simp only[YQ];show b6 (wpAny_handled ?_)
 first|rw[show A.in1.handled=b8 from f]|rw[f]
 show b6 (c4 (wpAny_throw ?_));show h _ _ (((wz ..).extBut.push _).push _) ⟨_,eH _ rfl,rfl⟩
end
def qo(d:A.handled=b8)(it l:d7)(f:l≠it)(a:Array dt):
  Draws prog w A it [it,l] a.size (λi v=>a[i]?=a5 v) (λi h=>h.IsTupleIter it l i/\h.IsTuple l a) where
 live:=λ_ _ st=>let ⟨o,ho,_⟩:=st.1;⟨o,ho⟩
 frame:=λ_ _ _ st hk=>⟨st.1.at λo e=>hk it (by simp) o e,let ⟨o,ho,r⟩:=st.2;⟨o,hk l (by simp) o ho,r⟩⟩
 item:=λi s Q E b st g=>by
  show iP st.1 st.2 (x:=a[i]) (by simp[b]) λh' j c=>?_;show g _ h' s.toks (by simp[b]) ⟨j,let ⟨o,ho,r⟩:=st.2;⟨o,(c.2 l f).trans ho,r⟩⟩ c
 done:=λs Q E st k=>fc d st.1 st.2 (by simp) k
open AutoSeq1 (wpAny_loadPart') in
def k_(l:d7)(a:Array dt)(n:Nat)(e:Option d7)(f:Array (Option dt)):
  Meets (NM.«enumerate.__new__» ⟨[.type "enumerate",.ref l],[]⟩) (λ_ R s=>s.heap.get? l=a5 {cls:=.type "tuple",dict:=e,data:=.seq a n,slots:=f} /\
   R (.ok (.ret (.ref (s.heap.push {cls:=.type "tuple_iterator",data:=.fields #[.ref l,.int 0 0]}).objs.size)))
    {s with heap:=(s.heap.push {cls:=.type "tuple_iterator",data:=.fields #[.ref l,.int 0 0]}).push {cls:=.type "enumerate",data:=.fields #[.none,.bool cc,.ref s.heap.objs.size,t8 0,.none,.none]}}) :=
 .of_wp λprog w A R s h=>by
  have⟨i,g,d,j,os⟩:=s;have⟨hl,h⟩:=h;have k:=sub_enumerate;have b:Heap.IsTuple (Shared.heap ⟨i,g,d,j,os⟩) l a:=⟨_,hl,rfl,n,rfl⟩
  wp_walk using Uo hl
  show wpAny_stack_any λst=>c4 ?_;split
  .rename_i c _ _ _ _ _;cases(c==ri "enumerate")
   .wp_walk using Uo hl,P7 b
    show⟨_,rfl,h⟩
   .wp_walk using Uo hl,P7 b
    show⟨_,rfl,h⟩
  .wp_walk using Uo hl,P7 b
   show⟨_,rfl,h⟩
section
def fV(g:s.heap.IsTuple l a)
  (h:∀h',Ã h' (s.heap.objs.size+1) s.heap.objs.size 0 .none->h'.IsTupleIter s.heap.objs.size l 0->h'.objs.size=s.heap.objs.size+2 ->
   (∀b o,s.heap.get? b=a5 o->h'.get? b=a5 o)->Q (.ref (s.heap.objs.size+1)) {s with heap:=h' }) :
  d3 (eh prog w) A (NK (.type "enumerate") [.ref l]) Q E s:=by
 obtain⟨⟨c,i,j,k⟩,hl,d,n,e⟩:=g
 replace d:c=.type "tuple":=d
 replace e:j=.seq a n:=e
 subst d e;show callType_new PySem.F.called_enumerate (by decide) (PySem.F.typeCall_enumerate_1 _) (PySem.F.newCall_enumerate_1 _) (λobj=>PySem.F.args_object_init_2 obj _) PySem.F.entry_enumerate_new
  (k_ l a n i k) ⟨hl,?_⟩
 have hz:(s.heap.push {cls:=.type "tuple_iterator",data:=.fields #[.ref l,.int 0 0]}).objs.size=s.heap.objs.size+1:=WT ..;change _/\_;rw[hz];have f:Ã ((s.heap.push {cls:=.type "tuple_iterator",data:=.fields #[.ref l,.int 0 0]}).push
   {cls:=.type "enumerate",data:=.fields #[.none,.bool cc,.ref s.heap.objs.size,t8 0,.none,.none]}) (s.heap.objs.size+1) s.heap.objs.size 0 .none:=by
  have:=eH (s.heap.push {cls:=.type "tuple_iterator",data:=.fields #[.ref l,.int 0 0]})
   (o:={cls:=.type "enumerate",data:=.fields #[.none,.bool cc,.ref s.heap.objs.size,t8 0,.none,.none]}) rfl
  rw[hz]at this;show this
 show⟨⟨_,f,rfl⟩,h _ f ⟨_,c2 _ (eH _ rfl),rfl,rfl⟩ (by rw[WT,hz]) λb o x=>c2 _ (c2 _ x)⟩
end
end L2
namespace L2
open PySem PySem.Spec PyProof.Rows
section
def Inv.ui{ch:List d7}(I:Inv X pins σ H s)(d:∀b∈ch,iC X pins H b)(k:∀b o,b∉ch->s.heap.get? b=a5 o->h'.get? b=a5 o):Inv X pins σ H {s with heap:=h',toks:=t' }:=by
 have f:∀b u,H b=a5 u->b∉ch:=λb u e z=>by rw[(d b z).1]at e;cases e
 show I.step (g':=s.gens) (d':=s.drawn) (ch:=ch) (λb g=>?_) (λb o _ _ a e _=>k b o a e) (λb o _ _ a e _=>⟨o.slots,k b o a e⟩) (λ_ _ _ _ n=>n)
  (λb o a e=>⟨o,k b o a e⟩) (λ_ _ e=>e) (λ_ _ _ e=>e) (λb ps e=>⟨#[],by rw[e];simp⟩) (λm h=>?_) (λb u e=>?_) I.bare
 .have⟨t,i,w,j,l,p⟩:=d b g;show⟨j,i,l,p⟩
 .have⟨o,es,ep,ho,r⟩:=h;show⟨o,es,ep,k _ o (λz=>(d _ z).2.1 rfl) ho,r⟩
 .show(I.Jj b u e).fQ (λc v a q=>k c v ?_ q) (λ_ q=>q) λ_ _ q=>q;rcases a with z|z
  .rw[z];show f b u e
  .show f c _ z
def Inv.rZ{ch:List d7}(I:Inv X pins σ H s)(g:∀b∈ch,iC X pins H b)(k:∀b o,b∉ch->s.heap.get? b=a5 o->h'.get? b=a5 o)(h:s.heap.objs.size<=T)(new:bW X.prog X.w (upd H T o) h' T o):
  Inv X pins σ (upd H T o) {s with heap:=h',toks:=t' }:=by
 have i:Inv X pins σ H {s with heap:=h',toks:=t' }:=I.ui g k;have j:H T=b8:=I.Jj.fresh h;have l:∀b o,s.heap.get? b=a5 o->b≠T:=λb o e z=>by rw[z]at e;show absurd (i1 (d8 e) h) (t4 _)
 have a:∀b u,H b=a5 u->b≠T:=λb u e z=>by rw[z,j]at e;cases e
 show I.step (g':=s.gens) (d':=s.drawn) (ch:=ch) (λb f=>?_) (λb o _ _ d e _=>k b o d e) (λb o _ _ d e _=>⟨o.slots,k b o d e⟩) (λb o _ e n=>by rw[av (l b o e)];show n)
  (λb o d e=>⟨o,k b o d e⟩) (λb _ e=>by rw[av (a b _ e)];show e) (λb _ _ e=>by rw[av (a b _ e)];show e) (λb ps e=>⟨#[],by rw[av (a b _ e),e];simp⟩) (λm p=>?_) (λb u e=>?_) I.bare
 .have⟨B,t,C,x,y,A⟩:=g b f;show⟨x,t,y,A⟩
 .have⟨o,es,ep,ho,r⟩:=p;show⟨o,es,ep,k _ o (λz=>(g _ z).2.1 rfl) ho,r⟩
 .by_cases f:b=T
  .subst f;rw[aB]at e;cases e;show new
  .rw[av f]at e;show(i.Jj b u e).fQ (λc v _ q=>q) (λc q=>by rw[av (a c _ q)];show q) λc xs q=>by rw[av (a c _ q)];show q
end
abbrev Po(a:Hp->List V->Prop):It :=
 ⟨λi H=>∃xs x,a H xs/\xs[i]?=a5 x,λi H x H'=>∃p,H p=b8/\x=.ref p/\∀xs v,a H xs->xs[i]?=a5 v->H'=upd H p (.tup [.int i,v]),λi H=>∃xs,a H xs/\xs.length<=i⟩
def nq{K:PySem.W.Frag}(n:Hp->List V->Prop)(a e it:d7)(N:e≠it)(At:Nat->DD->Prop)(r:DD->Array dt->Prop)
  (L8:∀i h h',At i h->(∀o,h.get? it=a5 o->h'.get? it=a5 o)->At i h') (VB:∀i h,At i h->∃o,h.get? it=a5 o/\∀v,o.data≠.cell v)
  (Rz:∀(X:Cx) (pins:List (d7×Obj)) (s:d5) (σ:St) (H:Hp) (xs:List V),X.K=K->Inv X pins σ H s->n H xs->∃j:List dt,Vals xs j/\r s.heap j.toArray)
  (TK:∀(X:Cx) (pins:List (d7×Obj)) (s:d5) (σ:St) (H:Hp) (xs t:List V),X.K=K->Inv X pins σ H s->n H xs->n H t->xs=t)
  (Pn:∀h c i d,r h c->Ã h e it i d->e≠a)
  (hD:∀(A:M9) (c:Array dt),A.handled=b8->Draws P w A it [it,a] c.size (λi v=>c[i]?=a5 v) (λi h=>At i h/\r h c))
  (Ly:∀(A:M9) (s:d5) (i:Nat) (c:Array dt) (Q:dt->d5->Prop) (E:dt->d5->Prop),A.handled=b8->At i s.heap->r s.heap c->c[i]?=b8 ->
   (∀h' x,ĝ it s.heap h'->(∃o,h'.get? x=a5 o/\o.cls=.type "StopIteration")->E (.ref x) {s with heap:=h' })->d3 (eh P w) A (JH (.ref it)) Q E s) :
  Turn P w K (.Tuple es kx ps) (Po n) [e,it] e (λi h=>(∃d,Ã h e it i d)/\At i h) where
 mem:=by simp
 obj:=λi h st b f=>by
  obtain⟨⟨d,g⟩,hl⟩:=st;rcases d4.mp f with z|z
  .rw[z];show⟨_,g,λv z=>by
    have z':VQ _=Ñ v:=z;cases z'⟩
  .rw[hV.mp z];show VB i h hl
 keep:=λi h h' ⟨⟨d,g⟩,hl⟩ k=>⟨⟨d,k e (by simp) _ g⟩,L8 i h h' hl λo q=>k it (by simp) o q⟩
 item:=by
  intro X O Y B hc i pins s σ H E I C ⟨⟨d,g⟩,hl⟩ hg;subst O Y;have⟨xs,x,G,hx⟩:=hg;have⟨j,rv,p⟩:=Rz X pins s σ H xs B I G;have⟨u,hu,ru⟩:=rv.get hx;have JB:i<j.toArray.size:=by simpa using(dV.mp hu).1
  have D:=hD X.A.in1 j.toArray (by simpa using I.ok.hd hc);have TL:=Pn _ _ _ _ p g;show wpAny_pyNext_enum_itemD D g ⟨hl,p⟩ JB N (by simp[N,TL]) λy h1 l J ho st1 L hsz hk=>?_;have ey:y=u:=by
   have:j.toArray[i]?=a5 u:=by simpa using hu
   rw[this]at J;cases J;rfl
  subst ey;show⟨_,rfl,wpAny_letOwnedTupleGo_enum (s:={s with heap:=h1,toks:=l+1}) ho λm XU Kp=>?_⟩;have VC:e<s.heap.objs.size:=d8 g;have XW:m.get? s.heap.objs.size=a5 {cls:=.type "tuple",data:=.seq #[.int i l,y]}:=(Kp.2 _ (Kk VC)).trans L;have k2:∀b o,b∉[e,it]->s.heap.get? b=a5 o->m.get? b=a5 o:=λb o f q=>by
   simp only[d4,Kw,or_false,not_or]at f;show(Kp.2 b f.1).trans (hk b o f.1 f.2 q)
  have I2:Inv X pins σ (upd H s.heap.objs.size (.tup [.int i,x])) {s with heap:=m,toks:=l+1}:=I.rZ C k2 (hQ _)
   (show bW X.prog X.w _ m _ (.tup [.int i,x]) from⟨by change 2<=cL;decide,[.int i l,y],.cons ⟨l,rfl⟩ (.cons ru .nil),⟨_,XW,rfl,_,rfl⟩⟩)
  show⟨.ref s.heap.objs.size,_,I2,rfl,⟨_,I.Jj.fresh (hQ _),rfl,λt v J hv=>?_⟩,⟨⟨_,XU⟩,L8 (i+1) h1 m st1.1 λo q=>(Kp.2 it (qs N)).trans q⟩,λb f=>?_⟩
  .have:=TK X pins s σ H t xs B I J G;subst this;rw[hx]at hv;cases hv;rfl
  .have KR:b≠s.heap.objs.size:=by
    rcases d4.mp f with z|z
    .rw[z];show gs VC
    .rw[hV.mp z];obtain⟨o,q,_⟩:=VB i _ hl;show gs (d8 q)
   rw[av KR];show(C b f).1
 done:=by
  intro X O Y B hc i pins s σ H E I C ⟨⟨d,g⟩,hl⟩ hg;subst O Y;have⟨xs,G,hx⟩:=hg;have⟨j,rv,p⟩:=Rz X pins s σ H xs B I G;have ab:=rv.length;have L:s.TypeIs (.ref e) "enumerate":=⟨_,g,rfl⟩
  unfold TN;show b6 (wpAny_attempt (Qn (name:=Q2 "__next__") L PySem.F.slot_enumerate_next
   (Jw PySem.F.slot_enumerate_next L PySem.F.entry_enumerate_next ?_ (PySem.F.args_enumerate_next_1 _))))
  change d3 _ _ (ı (.ref e) 2 >>= _) _ _ _;show b6 (U3 g rfl (x:=.ref it) rfl ?_);show b6 (Ly _ _ i j.toArray _ _ (by simpa using I.ok.hd hc) hl p (by simp;lia) λh' x S9 S5=>?_);have⟨o,ho,MO⟩:=S5;show b6 (O5 (T:="StopIteration") (b:=bD) ⟨o,ho,MO⟩ į ?_);show c4 ⟨rfl,I.ui (t':=s.toks) (ch:=[it]) (λb f=>C b (ko _ f)) λb o f q=>S9 b o (λz=>f (by simp[z])) q⟩
 self:=λA i s Q E ⟨⟨d,g⟩,hl⟩ h=>Wm g h
section
variable{X:Cx}{es:List lg}{kx:Nat}{ps p pos:Pos}
def vY:tA "enumerate"=a5 (.type "enumerate"):=by decide +kernel
abbrev II(K:PySem.W.Frag)(c:TA):TI:=λσ H R=>c σ H λvs b=>∃a,vs=[.ref a]/\((∃xs,JN K b a xs)/\R (Po λH xs=>JN K H a xs) b\/(∃xs,JY K b a xs)/\R (Po λH xs=>JY K H a xs) b)
def DX(a e it:d7)(n:e≠it)(q:a≠it):Turn X.prog X.w X.K (.Tuple es kx ps) (Po λH xs=>JN X.K H a xs) [e,it] e (λi h=>(∃c,Ã h e it i c)/\h.IsListIter it a i):=by
 show nq _ a e it n (λi h=>h.IsListIter it a i) (λh b=>h.IsList a b) (λi h h' x k=>x.at k) (λi h ⟨o,ho,j,r⟩=>⟨o,ho,λv z=>by rw[r]at z;cases z⟩)
  (λY pins s σ H xs f I l=>?_) (λY pins s σ H xs D f I d m=>?_) (λh b i c ⟨o,ho,j,_⟩ t z=>?_) (λA b g=>Draws.list g it a q b) (λA s i b Q E g hl u d y=>wpAny_nextOf_list_end g hl u d y)
 .rw[<-f]at l;have⟨B,rv,p,hz⟩:=I.list l;show⟨B,rv,p.isList⟩
 .rw[<-f]at d m;show I.pQ d m
 .rw[<-z,t]at ho;cases ho;have C:ri "enumerate"=ri "list":=j;show absurd C (by decide)
def DY(a e it:d7)(n:e≠it)(q:a≠it):Turn X.prog X.w X.K (.Tuple es kx ps) (Po λH xs=>JY X.K H a xs) [e,it] e (λi h=>(∃c,Ã h e it i c)/\h.IsTupleIter it a i):=by
 show nq _ a e it n (λi h=>h.IsTupleIter it a i) (λh b=>h.IsTuple a b) (λi h h' x k=>x.at k) (λi h ⟨o,ho,j,r⟩=>⟨o,ho,λv z=>by rw[r]at z;cases z⟩)
  (λY pins s σ H xs f I l=>?_) (λY pins s σ H xs D f I d m=>?_) (λh b i c ⟨o,ho,j,_⟩ t z=>?_) (λA b g=>qo g it a q b) (λA s i b Q E g hl u d y=>fc g hl u d y)
 .rw[<-f]at l;have⟨B,rv,p,hz⟩:=I.tuple l;show⟨B,rv,p⟩
 .rw[<-f]at d m;show I.mP d m
 .rw[<-z,t]at ho;cases ho;have C:ri "enumerate"=ri "tuple":=j;show absurd C (by decide)
def AV(m:Gl X "enumerate")(n:X.mg "enumerate"=b8)(t:PA X [a] v)(hs:gj [a] X.env=[(cc,uk a X.env)]):PI X (.Tuple es kx ps) (.Call (.Name "enumerate" p) [a] [] pos) (II X.K v):=by
 intro pins s σ H R I h;show Call_ (dm I m n vY (Mk (Jo (t pos pins s σ H _ I h) λus s1 ⟨vs,i,c,w,x⟩=>?_) hs rfl));have⟨a',e,q⟩:=x;subst e;have⟨u,rfl,r⟩:=vals1 w;cases r;have d:s1.heap.objs.size+1≠s1.heap.objs.size:=Nat.succ_ne_self _;have f:∀(h':DD),(∀b∈[s1.heap.objs.size+1,s1.heap.objs.size],iC X pins i b):=λh' b y=>by
  have l:s1.heap.objs.size<=b:=by
   rcases d4.mp y with z|z
   .rw[z];show MT _
   .rw[hV.mp z];show hQ _
  show c.Aw l (c.Jj.fresh l)
 rcases q with⟨⟨xs,j⟩,q⟩|⟨⟨xs,j⟩,q⟩
 .have⟨A,rv,p,hz⟩:=c.list j;have k:a'<s1.heap.objs.size:=let ⟨o,ho,_⟩:=p.isList;d8 ho;show call_enumerate_list p.isList λh' g hl hsz hk=>?_;show Wm g ⟨_,[s1.heap.objs.size+1,s1.heap.objs.size],_,_,i,rfl,c.kept (t':=s1.toks) hk,DX a' _ _ d (gs k),⟨⟨_,g⟩,hl⟩,f h',q⟩
 .have⟨A,rv,p,hz⟩:=c.tuple j;have k:a'<s1.heap.objs.size:=let ⟨o,ho,_⟩:=p;d8 ho;show fV p λh' g hl hsz hk=>?_;show Wm g ⟨_,[s1.heap.objs.size+1,s1.heap.objs.size],_,_,i,rfl,c.kept (t':=s1.toks) hk,DY a' _ _ d (gs k),⟨⟨_,g⟩,hl⟩,f h',q⟩
end
def AW{a:List dt}(h:č (λi v=>a.toArray[a.toArray.size - 1 - i]?=a5 v) acc a.toArray.size):acc.toList=a.reverse:=by
 apply Î;intro i;have hs:acc.size=a.length:=by have:=h.1;simpa using this
 by_cases c:i<a.length
 .have b:i<acc.size:=by lia
  have:=h.2 i (acc[i]'b) (by simp[b]);rw[nM,OF b,List.getElem?_reverse c];simpa using this.symm
 .rw[SY (by rw[eM];lia),SY (by rw[Ux];lia)]
section
def yb(g:X.calm=bD)(I:Inv X pins σ H s)(j:JN X.K H a xs)
  (h:∀c,Vals xs c->xs.length<=cL->∀(R:d7) (d:DD),R=s.heap.objs.size->d.objs.size=s.heap.objs.size+1->(∀b o,s.heap.get? b=a5 o->d.get? b=a5 o)->(∀B:M9,B.handled=X.A.handled ->
   Walks X.prog X.w B R [R,a] [R] c.toArray.size (λi v=>c.toArray[c.toArray.size - 1 - i]?=a5 v) (λi h=>i<=c.toArray.size/\h.IsRevIter R a ((c.toArray.size:Int) - 1 - (i:Int))/\h.IsList a c.toArray)) ->
   d.IsRevIter R a ((c.toArray.size:Int) - 1 - ((0:Nat):Int))->d.IsList a c.toArray->a<s.heap.objs.size->Q (.ref R) {s with heap:=d}):d3 (eh X.prog X.w) X.A (NK (.type "reversed") [.ref a]) Q X.xe s:=by
 have⟨c,rv,p,hz⟩:=I.list j;have f:a<s.heap.objs.size:=let ⟨o,ho,_⟩:=p.isList;d8 ho;show call_reversed_list p.isList (h c rv hz _ _ rfl (by rw[Mc]) (λb o e=>c2 _ e) (λB k=>Walks.listRev (by rw[k];show I.ok.hd g) _ a (gs f) c.toArray) ?_ (p.isList.push _) f);show⟨_,eH _ rfl,rfl,?_⟩;change VQ _=VQ _;congr 3
 simp
def yc(n:X.calm=bD)(I:Inv X pins σ H s)(p:JN X.K H a xs)(q:∀l,H l=b8->Q (.ref l) (upd H l (.lst xs.reverse))):
  d3 (eh X.prog X.w) X.A (NK (.type "reversed") [.ref a]) (λv s1=>d3 (eh X.prog X.w) X.A (NK (.type "list") [v]) (EP X pins σ Q) X.xe s1) X.xe s:=by
 show yb n I p λg rv hz R c h hsz hk r t hl u=>?_;have T:g.length=xs.length:=rv.length.symm;show qm (s:={s with heap:=c}) (r X.A.in1.in1 rfl).toS (λi s st=>st.2.1.typeIs) ⟨i8 _,t,hl⟩ (λb d=>?_) (by simp) (λs' acc j f x y=>?_) (by simp;lia)
 .change b<c.objs.size;rw[hsz];rcases d4.mp d with z|z
  .rw[z,h];show OH _
  .rw[hV.mp z];show Sh u
 .have⟨k,B,C,D,o2⟩:=s';have G:B=s.gens:=f.gens;have J:C=s.drawn:=f.drawn;have L:o2=s.os:=f.os;subst G J L;have k2:∀b o,s.heap.get? b=a5 o->k.get? b=a5 o:=λb o e=>f.heap b o (λz=>by
   have d:=d8 e;rcases d4.mp z with z|z
   .rw[z]at d;have m:c.objs.size<s.heap.objs.size:=d;rw[hsz]at m;show absurd m (â (OH _))
   .rw[hV.mp z,h]at e;show absurd (d8 e) (t4 _)) (c2 _ (hk b o e))
  have N:=AW y;show⟨.ref c.objs.size,_,I.laid (t':=D) (o:=.lst xs.reverse) k2 (by rw[hsz];show MT _) ⟨by rw[Ux];show hz,g.reverse,j,rv.reverse,?_⟩,rfl,q _ (I.Jj.fresh (by rw[hsz];show MT _))⟩;have O:k.get? c.objs.size=a5 {cls:=.type "list",dict:=b8,data:=.seq acc j,slots:=#[]}:=x;rw[O,<-N,Zd]
end
def vZ(l:d7)(a:Array dt)(n:Nat)(b:d7)(c:Array dt)(e:Nat)(dd:Option d7)(f:Array (Option dt))(o:¬(!a.isEmpty&&K1 (a.size+c.size))=bD)(i:a.size<=cL)(j:a.size+c.size<=cL+1):
  Meets (NM.«list.extend» ⟨[.ref l,.ref b],[]⟩) (λ_ R s=>s.heap.get? l=a5 {cls:=.type "list",dict:=b8,data:=.seq a n,slots:=#[]}/\s.heap.get? b=a5 {cls:=.type "list",dict:=dd,data:=.seq c e,slots:=f}/\R (.ok (.ret mN)) {s with heap:=s.heap.update l (nC λx=>x++c),toks:=s.toks}) :=
 .of_wp λprog w A R s h=>by
  have⟨p,g,d,q,os⟩:=s;have⟨hl,k,h⟩:=h;have r:=Zf;have t:=VT;have u:=WX;have v:=WI;have y:=WJ;
  have m:(a++c).size<=cL+1:=by rw[Vg];show j
  wp_walk using(Rx hl rfl (hz:=i) (_hz':=m)),Ox hl,Ox k;show⟨_,rfl,h⟩
def v3(l:d7)(a:Array dt)(n:Nat)(b:d7)(c:Array dt)(e:Nat)(dd:Option d7)(f:Array (Option dt))(o:¬(!a.isEmpty&&K1 (a.size+c.size))=bD)(i:a.size<=cL)(j:a.size+c.size<=cL+1):
  Meets (NM.«list.extend» ⟨[.ref l,.ref b],[]⟩) (λ_ R s=>s.heap.get? l=a5 {cls:=.type "list",dict:=b8,data:=.seq a n,slots:=#[]}/\s.heap.get? b=a5 {cls:=.type "tuple",dict:=dd,data:=.seq c e,slots:=f}/\R (.ok (.ret mN)) {s with heap:=s.heap.update l (nC λx=>x++c),toks:=s.toks}) :=
 .of_wp λprog w A R s h=>by
  have⟨p,g,d,q,os⟩:=s;have⟨hl,k,h⟩:=h;have r:=Zf;have t:=VT;have u:=WX;have v:=WI;have y:=WJ;
  have m:(a++c).size<=cL+1:=by rw[Vg];show j
  wp_walk using(Rx hl rfl (hz:=i) (_hz':=m)),Ox hl,Ox k;show⟨_,rfl,h⟩
section
def r9:Ot X "list.extend" (λx vs H Q=>∃l b xs c,x=.ref l/\vs=[.ref b]/\H l=a5 (.lst xs)/\(JN X.K H b c\/JY X.K H b c)/\xs.length+c.length<=cL/\Q .Jm (upd H l (.lst (xs++c)))):=by
 intro pins s σ H x vs v us Q I y rv h;have⟨l,b,xs,c,rfl,rfl,t,hB,hz,q⟩:=h;cases y;have⟨u,rfl,A⟩:=rv.one;cases A;have⟨z,f,n,r,hl,e⟩:=I.rO t;have g:∀a:List dt,Vals c a->EP X pins σ Q mN {s with heap:=s.heap.update l (nC λx=>x++a.toArray),toks:=s.toks}:=λa d=>by
  show⟨.Jm,_,I.kQ (its':=f++a) t e (by simp) (r.append d) ?_,rfl,q⟩;rw[hY];lia
 have k:∀a:List dt,c.length=a.length->f.toArray.size+a.toArray.size<=cL:=λa h=>by rw[et,et];lia
 have w:∀a:List dt,c.length=a.length->¬(!f.toArray.isEmpty&&K1 (f.toArray.size+a.toArray.size))=bD:=λa h=>by
  rw[xC (k a h),Tx];show i0
 rcases hB with hB|hB
 .obtain⟨a,d,m,_⟩:=I.list hB;obtain⟨⟨cls,dd,data,o⟩,ho,i,p,j⟩:=m.isList;simp only at i j;subst i j;have MM:=d.length;have B:=k a MM;show QG Ý ⟨_,e,rfl⟩ Ð (Å _ _) (vZ l f.toArray n b a.toArray p dd o (w a MM) ⋯ ⋯) ⟨e,ho,g a d⟩
 .obtain⟨a,d,m,_⟩:=I.tuple hB;obtain⟨⟨cls,dd,data,o⟩,ho,i,p,j⟩:=m;simp only at i j;subst i j;have MM:=d.length;have B:=k a MM;show QG Ý ⟨_,e,rfl⟩ Ð (Å _ _) (v3 l f.toArray n b a.toArray p dd o (w a MM) ⋯ ⋯) ⟨e,ho,g a d⟩
end
end L2
namespace L2
open PySem PySem.W PyProof.Rows
section
def v5{vs:List (Key×dt)}(hk:vs.map (·.1)=ks.map mx)(hl:acc.length=vs.length)(h:∀(j:Nat) (v:dt),acc[j]?=a5 v->∃k x,vs[j]?=a5 (k,x)/\(bj P w).is k v=bD):Qw acc ks:=by
 induction acc generalizing ks vs with
 |nil =>
  cases vs with
  |nil=>cases ks with
   |nil=>show .nil
   |cons _ _=>cases hk
  |cons _ _=>cases hl
 |cons v acc b =>
  cases vs with
  |nil=>cases hl
  |cons p vs =>
   cases ks with
   |nil=>cases hk
   |cons k ks =>
    simp only[ei,Qt]at hk;have⟨k',x,a,c⟩:=h 0 v rfl;simp only[List.getElem?_cons_zero,To]at a;subst a;have d:k'=mx k:=hk.1;subst d;rcases bE (show kI (mx k) v=bD from c) with⟨i,t,e,rfl⟩|⟨y,t,e,rfl⟩
    .cases e
    .cases e;show .cons _ _ (b hk.2 (by simpa using hl) λj u f=>h (j+1) u (by simpa using f))
def jt:X.calm=bD->iD X (.builtin "sorted") (λxs H Q=>∃(d:d7) (kvs:List (Key×V)) (ks:List Str),xs=[.ref d]/\H d=a5 (.dK kvs)/\kvs.map (·.1)=ks.map mx/\ks.length<64/\∀q,H q=b8->Q (.ref q) (upd H q (.lst ((aH ks).map V.str)))):=by
 intro k pins s σ H xs us Q I rs h;have⟨d,kvs,ks,rfl,e,hk,C,q⟩:=h;have⟨u,rfl,r⟩:=vals1 rs;cases r;have⟨hz,lo,vs,kv,dd⟩:=xG I.Jj e;have a:vs.length=kvs.length:=(Paired.length kv).symm;have l:kvs.length=ks.length:=by rw[<-df (f:=(·.1)),hk,df]
 have m:vs.map (·.1)=ks.map mx:=by
  rw[<-hk];clear dd a hk l e q hz;induction kv with
  |nil=>rfl
  |cons r _ n=>rw[ei,ei,n,r.1]
 have⟨o,es,ep,p⟩:=id dd;have t:(64:Nat)<=cL:=by decide
 show fA (kdu_collect (A:=X.A.in1) (kdl_dict (knd:=bj X.prog X.w) (kvs:=vs) (ep:=ep) lo) (I.ok.hd k) ⟨o,es,p⟩ ⋯ λh' b acc x c=>⟨ks,v5 m (by rw[eM];show c.1) (λj v y=>c.2 j v (by rw[<-nM];show y)),by rw[eM,c.1];lia,λD z B k2 g s2=>?_⟩);have i:Inv X pins σ H {s with heap:=h',toks:=b}:=I.kept (t':=b) x;show⟨.ref h'.objs.size,_,i.laid (t':=b) (o:=.lst ((aH ks).map V.str)) k2 (hQ _) ⟨by rw[df,bO];lia,z,B,dP s2,g⟩,rfl,q _ (i.Jj.fresh (hQ _))⟩
end
abbrev hZ{α:Type}(lt:Nat->Nat->Bool):KasT α->α
 |.ret x=>x
 |.ask i j k=>hZ lt (k (lt i j))
def Kv{α:Type}(n:Nat)(P:α->Prop):KasT α->Prop
 |.ret x=>P x
 |.ask i j k=>i<n/\j<n/\∀b,Kv n P (k b)
theorem Kv.Pp{P:α->Prop}{Q:β->Prop}{f:α->KasT β}(a:∀x,P x->Kv n Q (f x)):∀{t:KasT α},Kv n P t->Kv n Q (t.bind f)
 |.ret x,h=>a x h
 |.ask i j k,h=>⟨h.1,h.2.1,λb=>Kv.Pp a (h.2.2 b)⟩
theorem Kv.got:∀{t:KasT α},Kv n P t->P (hZ lt t)
 |.ret _,h=>h
 |.ask i j k,h=>Kv.got (t:=k (lt i j)) (h.2.2 _)
theorem Kv.wp(b:∀i j,i<n->j<n->∀C:Bool->d5->Prop,C (lt i j) s->a i j C s):
  ∀{t:KasT α},Kv n P t->Q (hZ lt t) s->t.kasWp a Q s
 |.ret _,_,q=>q
 |.ask i j k,h,q=>b i j h.1 h.2.1 _ (Kv.wp b (t:=k (lt i j)) (h.2.2 _) q)
abbrev Pm(n:Nat)(p:Array Nat):Prop:=p.toList.Perm (fx n)
section
variable{n:Nat}(hn:0<n)
include hn
def Pm.at(h:Pm n p)(i:Nat):p.getD i 0<n:=by
 by_cases a:i<p.size
 .have:p.getD i 0=p[i]:=by simp[UP,a]
  rw[this];have b:p[i]∈p.toList:=by simp
  show ve.mp (h.mem_iff.mp b)
 .have:p.getD i 0=0:=by simp[UP,a]
  rw[this];show hn
omit hn in
def Pm.rev(h:Pm n p)(i j:Nat):Pm n (kas_rev p i j):=(mirror_perm p i j _).toList.trans h
omit hn in
def Pm.XY(h:Pm n p)(i j:Nat):Pm n (bubble p i j):=(bubble_perm p i j).toList.trans h
theorem r_(h:Pm n p):∀(f m:Nat),Kv n (λ_=>True) (kas_asc p f m)
 |0,m=>trivial
 |f+1,m=>⟨h.at hn _,h.at hn _,λb=>by
  cases b
  .show r_ h f (m+1)
  .show trivial⟩
theorem kq:∀(f:Nat) (p:Array Nat) (m q:Nat),Pm n p->Kv n (λr=>Pm n r.1) (kas_desc f p m q)
 |0,p,m,q,h=>h
 |f+1,p,m,q,h=>⟨h.at hn _,h.at hn _,λb=>by
  cases b
  .show⟨h.at hn _,h.at hn _,λb=>by
    cases b
    .show kq f p (m+1) (q+1) h
    .show h⟩
  .change Kv n _ (if q>0 then _ else _);split
   .show kq f _ _ _ (h.rev _ _)
   .show kq f _ _ _ h⟩
def uj(h:Pm n p)(m r:Nat):Kv n (λx=>Pm n x.2) (kas_tail3 m r p):=by
 unfold kas_tail3;show Kv.Pp (λx _=>?_) (r_ hn (h.rev _ _) _ _);show h.rev _ _
def um(h:Pm n p)(m r:Nat):Kv n (λx=>Pm n x.2) (kas_descPart m r p):=by
 unfold kas_descPart;show Kv.Pp (λx a=>?_) (kq hn _ _ _ _ h);split
 .show uj hn (a.rev _ _) _ _
 .show uj hn a _ _
def yd(h:Pm n p)(r:Nat):Kv n (λx=>Pm n x.2) (kas_count r p):=by
 unfold kas_count;show Kv.Pp (λm _=>?_) (r_ hn h _ _);split
 .show h
 .split
  .show⟨h.at hn _,h.at hn _,λb=>by
    cases b
    .show um hn (h.rev _ _) _ _
    .show h⟩
  .show um hn h _ _
theorem la(h:Pm n p)(k:Nat):∀(f l r:Nat),Kv n (λ_=>True) (kas_place p k f l r)
 |0,l,r=>trivial
 |f+1,l,r=>by
  unfold kas_place;split
  .show trivial
  .show⟨h.at hn _,h.at hn _,λb=>by
    cases b
    .show la h k f _ _
    .show la h k f _ _⟩
theorem ye:∀(f:Nat) (p:Array Nat) (k:Nat),Pm n p->Kv n (Pm n) (kas_bin f p k)
 |0,p,k,h=>h
 |f+1,p,k,h=>Kv.Pp (λl _=>ye f _ _ (h.XY _ _)) (la hn h _ _ _ _)
def uo:Kv n (Pm n) (Oc n):=by
 unfold Oc;show Kv.Pp (λx a=>?_) (yd hn (p:=List.toArray (fx n)) (by unfold Pm;simp) n);split
 .show ye hn _ _ _ a
 .show a
end
def lb(lt:Nat->Nat->Bool)(n:Nat):(hZ lt (Oc n)).toList.Perm (fx n):=by
 cases n with
 |zero=>show Np _
 |succ n=>show(uo (Y' n)).got
section
def v7(ho:s.heap.get? a=a5 (w6 "list" vs.toArray n))(l:vs.length<64)
  (m:2<=vs.length->∀s1:d5,(∀b o,b≠a->s.heap.get? b=a5 o->s1.heap.get? b=a5 o)->d3 (eh prog w) A (keyKind' vs.toArray) (λκ s'=>s'=s1/\∀i j,i<vs.length->j<vs.length->∀C:Bool->d5->Prop,C (lt i j) s1->ć prog w A κ vs i j C s1) (λ_ _=>False) s1)
  (h:P (.done (.ret .none)) {s with heap:=ú s.heap a vs (((hZ lt (Oc vs.length)).toList.map λi=>vs.getD i mN).toArray)}) :
  d3 (eh prog w) A (NM.«list.sort» ⟨[.ref a],[]⟩) P E s:=by
 have N:a<s.heap.objs.size:=d8 ho;have u:(64:Nat)<=cL:=by decide
 rw[list_sort_plain];show b6 (È ho rfl (b6 (VJ ho rfl ?_ (by rw[et];lia) (i8 _))));obtain⟨k,q⟩:∃k,(s.heap.update a (nC λ_=>(#[]:Array dt))).get? a=a5 (w6 "list" #[] k):=⟨_,ħ ho λ_=>#[]⟩
 show b6 (á q rfl (b6 (wpAny_newTuple (b6 (Zt (tj ?_) (i8 _))) (by change vs.length<=_;lia))));have d:(((s.heap.update a (nC λ_=>(#[]:Array dt))).push (w6 "tuple" vs.toArray 0)).push (w6 "list" #[] 0)).get? a=a5 (w6 "list" #[] k):=c2 _ (c2 _ q);have f:∀b o,b≠a->s.heap.get? b=a5 o->(((s.heap.update a (nC λ_=>(#[]:Array dt))).push (w6 "tuple" vs.toArray 0)).push (w6 "list" #[] 0)).get? b=a5 o:=λb o y e =>
  c2 _ (c2 _ (by rw[OT _ _ _ _ y];show e))
 change d3 (eh prog w) A _ P E {s with heap:=((s.heap.update a (nC λ_=>(#[]:Array dt))).push (w6 "tuple" vs.toArray 0)).push (w6 "list" #[] 0)}
 dsimp only
 have r:((hZ lt (Oc vs.length)).toList.map λi=>vs.getD i mN).length=vs.length:=by rw[df,(lb lt _).length_eq,u6]
 by_cases c:vs.toArray.size<2
 .rw[Ł c,Ł c];show b6 (c4 ?_);rw[StateT.run_pure];show b6 (c4 ?_);have z:((hZ lt (Oc vs.length)).toList.map λi=>vs.getD i mN).toArray=(vs.toArray.zip vs.toArray).map (·.2):=by
   have g:=lb lt vs.length;clear h m r f d ho l
   match vs,c,g with
   |[],_,g=>rw[show(hZ lt (Oc ([]:List dt).length)).toList=[] from List.perm_nil.mp g];simp
   |[v],_,g=>rw[show(hZ lt (Oc [v].length)).toList=[0] from List.perm_singleton.mp g];simp
   |_::_::_,c,_=>simp at c;lia
  rw[z]at h
  dsimp only
  show b6 (á d rfl (b6 (VJ d rfl ?_ (i8 _) (by rw[Q7];change(pairsOf vs).size<=_;rw[pairsOf_size];lia))));simp only[bne_self_eq_false,K8,if_false];show c4 h
 .rw[ł c,ł c];have t:2<=vs.length:=by rw[et]at c;lia
  show b6 (i9 (m t _ f) (λκ O hk=>?_) λ_ _ x=>x.elim);have⟨rfl,hk⟩:=hk;show b6 (i9 (kat_run (κ:=κ) (ks:=vs) (vs:=vs) (G:=λp s'=>p=hZ lt (Oc vs.length)/\s'={s with heap:=((s.heap.update a (nC λ_=>(#[]:Array dt))).push (w6 "tuple" vs.toArray 0)).push (w6 "list" #[] 0)})
   (Q:=λst' s'=>∃p:Array Nat,arrOf st'=p.map (kas_item (vs.toArray.zip vs.toArray))/\failedOf st'=b8/\p=hZ lt (Oc vs.length)/\s'={s with heap:=((s.heap.update a (nC λ_=>(#[]:Array dt))).push (w6 "tuple" vs.toArray 0)).push (w6 "list" #[] 0)})
   rfl t l (λp st' s' T B D H=>⟨p,B,D,H⟩) (Kv.wp hk (uo ⋯) ⟨rfl,rfl⟩)) ?_ λ_ _ e=>e)
  rintro⟨⟨⟩,st'⟩ s' ⟨p,I,J,rfl,rfl⟩
  dsimp only
  have L:=kat_snds rfl I;rw[L,J];show b6 (á d rfl (b6 (VJ d rfl ?_ (i8 _) (by rw[et,r];lia))));simp only[bne_self_eq_false,K8,if_false];show c4 h
end
@[reducible]def AX:=Str×Int
abbrev N0(ks:List Str)(i j:Nat):Bool:=cK ((ks.getD i ti).cps.toList<(ks.getD j ti).cps.toList)
abbrev j7(ks:List Str):List Nat:=(hZ (N0 ks) (Oc ks.length)).toList
def gv(ks:List Str):(j7 ks).Perm (fx ks.length):=lb _ _
abbrev Gr(x:Str)(n:Int)(t u:Tok):Obj:={cls:=.type "tuple",data:=.seq #[.str x t,.int n u]}
abbrev fL(h:DD)(as:List d7)(ps:List AX):Prop:=as.length=ps.length/\∀(j:Nat) (a:d7),as[j]?=a5 a->∃p t u,ps[j]?=a5 p/\h.get? a=a5 (Gr p.1 p.2 t u)
def fL.keeps(x:fL h as ps)(k:∀b o,b∈as->h.get? b=a5 o->h'.get? b=a5 o):fL h' as ps :=
 ⟨x.1,λj a e=>let ⟨p,t,u,c,d⟩:=x.2 j a e;⟨p,t,u,c,k a _ (my e) d⟩⟩
def fL.tail(x:fL h (a::as) (p::ps)):fL h as ps :=
 ⟨by have:=x.1;simpa using this,λj b e=>by
  have⟨q,t,u,c,d⟩:=x.2 (j+1) b (by simpa using e);show⟨q,t,u,by simpa using c,d⟩⟩
theorem fL.fW:∀{as:List d7}{ps:List AX},fL h as ps->∃b:List dt,KatTups h (as.map kj) b/\b.length=as.length/\∀v∈b,∃x t,v=tv x t
 |[],_,_=>⟨[],KatTups.nil,rfl,by simp⟩
 |a::as,[],x=>by have:=x.1;simp at this
 |a::as,p::ps,x=>by
  have⟨b,c,d,e⟩:=fL.fW x.tail;have⟨q,t,u,g,f⟩:=x.2 0 a rfl;show⟨.str q.1 t::b,KatTups.cons f rfl rfl rfl c,by simp[d],λv hv=>?_⟩;rcases d4.mp hv with rfl|hv
  .show⟨_,_,rfl⟩
  .show e v hv
theorem nu:∀{l:List α}{m:List β}{i:Nat}{x:α},Paired F l m->l[i]?=a5 x->∃y,m[i]?=a5 y/\F x y
 |_,_,_,_,.nil,e=>by simp at e
 |_,_,0,_,.cons r _,e=>by simp at e;subst e;show⟨_,rfl,r⟩
 |_,_,i+1,x,.cons _ t,e=>by
  have⟨u,a,b⟩:=nu (i:=i) (x:=x) t (by simpa using e);show⟨u,by simpa using a,b⟩
section
def DZ(x:fL s.heap as ps)(g:(ps.map (·.1)).Nodup)(e:i<as.length)(f:j<as.length)(q:C (N0 (ps.map (·.1)) i j) s):
  ć prog w A (tuples' bD) (as.map kj) i j C s:=by
 have⟨p,t,u,d,k⟩:=x.2 i as[i] (by simp[e]);have⟨a,t',u',c,l⟩:=x.2 j as[j] (by simp[f]);have hl:=x.1;have m:i<ps.length:=by lia
 have n:j<ps.length:=by lia
 have o:(as.map kj).getD i mN=.ref as[i]:=by simp[OC,e]
 have r:(as.map kj).getD j mN=.ref as[j]:=by simp[OC,f]
 have v:(ps.map (·.1)).getD i ti=p.1:=by simp[OC,d]
 have y:(ps.map (·.1)).getD j ti=a.1:=by simp[OC,c]
 unfold ć;rw[o,r];show kat_lt (b:=bD) k rfl l rfl ?_;unfold N0 at q;rw[v,y]at q;change KatLex prog w A bD (cK (2<2)) C [(.str p.1 t,.str a.1 t'),(.int p.2 u,.int a.2 u')] 0 s;show kat_cons (Ė ?_);by_cases h:p.1=a.1
 .have z:i=j:=by
   have B:(ps.map (·.1))[i]'(by simpa using m)=(ps.map (·.1))[j]'(by simpa using n):=by
    obtain⟨_,D⟩:=dV.mp d;obtain⟨_,G⟩:=dV.mp c;simp[D,G,h]
   show(Ô g).mp B
  subst z;rw[d]at c;cases c;rw[ń rfl];show kat_yes (kat_cons (ė ?_));rw[show(p.2==p.2)=bD by simp];show kat_yes (kat_nil ?_);have:cK (p.1.cps.toList<p.1.cps.toList)=cc:=Ń (List.lt_irrefl _);rw[this]at q;show q
 .rw[Ń h];show kat_no (oneLt_str q)
def D0(x:fL s.heap as ps)(c:(ps.map (·.1)).Nodup)(g:2<=as.length):
  d3 (eh prog w) A (keyKind' (as.map kj).toArray) (λκ s'=>s'=s/\∀i j,i<(as.map kj).length->j<(as.map kj).length->∀C:Bool->d5->Prop,C (N0 (ps.map (·.1)) i j) s->ć prog w A κ (as.map kj) i j C s) (λ_ _=>False) s:=by
 have⟨h,d,k,e⟩:=x.fW;show kat_kind (T:=.type "str") d ⋯ (λv f=>?_) rfl ⟨rfl,λi j a b C q=>?_⟩
 .have⟨y,t,rfl⟩:=e v f;show Looks.of_pure rfl
 .rw[df]at a b;show DZ x c a b q
end
abbrev j8(H:Hp):List (d7×List V)->Hp
 |[]=>H
 |(a,vs)::r=>upd (j8 H r) a (.tup vs)
theorem lh:∀{l:List (d7×List V)}{b:d7}{o:HO},j8 H l b=a5 o->(∃vs,(b,vs)∈l/\o=.tup vs)\/H b=a5 o
 |[],b,o,h=>.inr h
 |(a,vs)::r,b,o,h=>by
  by_cases c:b=a
  .subst c;rw[j8,aB]at h;cases h;show .inl ⟨vs,by simp,rfl⟩
  .rw[j8,av c]at h;rcases lh h with⟨ws,d,e⟩|q
   .show .inl ⟨ws,by simp[d],e⟩
   .show .inr q
theorem lj:∀{l:List (d7×List V)}{b:d7},(∀p∈l,p.1≠b)->j8 H l b=H b
 |[],b,_=>rfl
 |(a,vs)::r,b,h=>by
  rw[j8,av (qs (h _ mu))];show lj λp c=>h p (by simp[c])
theorem uq:∀{l:List (d7×List V)}{b:d7}{vs:List V},(l.map (·.1)).Nodup->(b,vs)∈l->j8 H l b=a5 (.tup vs)
 |(a,ws)::r,b,vs,d,h=>by
  have c:a∉r.map (·.1)/\(r.map (·.1)).Nodup:=by simpa using d
  rcases d4.mp h with h|h
  .cases h;show aB
  .have:b≠a:=λz=>c.1 (by rw[<-z];show js.mpr ⟨_,h,rfl⟩);rw[j8,av this];show uq c.2 h
section
def Inv.many(I:Inv X pins σ H s)(k:∀b u,s.heap.get? b=a5 u->h'.get? b=a5 u)(a:∀b o,H b=a5 o->H' b=a5 o)
  (d:∀b o,H' b=a5 o->H b=a5 o\/(s.heap.objs.size<=b/\bW X.prog X.w H' h' b o)):Inv X pins σ H' {s with heap:=h',toks:=t' }:=by
 show I.un ⟨λb u q _ _ _=>k b u q,λb u q _ _ _=>⟨u.slots,k b u q⟩,λb u q n _=>?_,λb u q _=>⟨u,k b u q⟩,λb xs q=>a b _ q,λb u xs q=>a b _ q,λb ps q=>⟨#[],by rw[a b _ q];simp⟩⟩ λb o e=>?_
 .cases e:H' b with
  |none=>rfl
  |some o =>
   rcases d b o e with z|⟨z,_⟩
   .rw[n]at z;cases z
   .show absurd (i1 (d8 q) z) (t4 _)
 .rcases d b o e with z|⟨_,z⟩
  .show(I.Jj b o z).fQ (λc v _ q=>k c v q) (λc q=>a c _ q) λc xs q=>a c _ q
  .show z
abbrev Nf(p:AX):List V:=[.str p.1,.int p.2]
def oU{ps:List AX}(hc:X.calm=bD)(I:Inv X pins σ H s)(e:H d=a5 (.dK (ps.map λp=>((mx p.1:Key),V.int p.2))))(Ju:(ps.map (·.1)).Nodup)(LJ:ps.length<64)
  (q:∀(as:List d7) (L:d7),as.length=ps.length->as.Nodup->(∀a∈L::as,H a=b8)->L∉as->Q (.ref L) (upd (j8 H (as.zip (ps.map Nf))) L (.lst ((j7 (ps.map (·.1))).map λi=>V.ref (as.getD i 0))))) :
  d3 (eh X.prog X.w) X.A (NK (.builtin "dict.items") [.ref d]) (λv s1=>d3 (eh X.prog X.w) X.A (NK (.builtin "sorted") [v]) (EP X pins σ Q) X.xe s1) X.xe s:=by
 have ab:(64:Nat)<=cL:=by decide
 have⟨hz,lo,vs,kv,dd⟩:=xG I.Jj e;have B:vs.length=ps.length:=by
  have:=Paired.length kv;simpa using this.symm
 have⟨o,es,ep,n⟩:=id dd;show Z_ PySem.F.slot_dict_items (show s.TypeIs (.ref d) "dict" from⟨o,n.1,n.2.1.1⟩) PySem.F.entry_dict_items (PySem.F.args_dict_items_1 _) (meets_dict_items (bj X.prog X.w) d lo) ⟨⟨vs,dd⟩,?_⟩;change d3 (eh X.prog X.w) X.A (NK (.builtin "sorted") [.ref s.heap.objs.size]) (EP X pins σ Q) X.xe {s with heap:=s.heap.push {cls:=.type "dict_items",data:=.fields #[.ref d]}};have k1:∀b u,s.heap.get? b=a5 u->(s.heap.push {cls:=.type "dict_items",data:=.fields #[.ref d]}).get? b=a5 u:=λb u z=>c2 _ z;have ZW:(s.heap.push {cls:=.type "dict_items",data:=.fields #[.ref d]}).DictOf (bj X.prog X.w) d vs:=⟨o,es,ep,k1 _ _ n.1,n.2⟩
 have L8:(s.heap.push {cls:=.type "dict_items",data:=.fields #[.ref d]}).DictAt (bj X.prog X.w) d vs ep:=⟨o,es,k1 _ _ n.1,n.2⟩
 show WU kind_sorted plain_sorted entry_sorted (args_sorted1 _) ?_;unfold NM.«sorted»;show b6 (m:=checkCount "sorted" 1 1 _) (c4 ?_);show b6 (kdx_collect (A:=X.A.in1) (knd:=bj X.prog X.w) (kvs:=vs) (ep:=ep) (I.ok.hd hc) ⟨_,eH _ rfl,rfl,rfl⟩ L8 ⋯ λc tk as hk hl C=>?_);have D:as.length=ps.length:=hl.trans B;have f:∀a∈as,s.heap.objs.size<=a:=λa ha=>by
  have:=C.above a ha;have z:(s.heap.push {cls:=.type "dict_items",data:=.fields #[.ref d]}).objs.size=s.heap.objs.size+1:=Mc ..;have VF:(s.heap.push {cls:=.type "dict_items",data:=.fields #[.ref d]}).objs.size<a:=this;lia
 have pa:fL c as ps:=⟨D,λj a ea=>by
  have⟨key,k,x,J,N,e3⟩:=C.pairs j a ea;have r:j<ps.length:=by rw[<-D];show(dV.mp ea).1
  have⟨y,ey,r1,r2⟩:=nu kv (i:=j) (x:=((mx ps[j].1:Key),V.int ps[j].2)) (by simp[r]);rw[J]at ey;cases ey;obtain⟨tx,rfl⟩:∃t,x=.int ps[j].2 t:=r2;have X1:k=mx ps[j].1:=r1.symm;subst X1;have⟨t,rfl⟩:=Ze (x:=ps[j].1) (v:=key) N;show⟨ps[j],t,tx,by simp[r],e3⟩⟩
 have nd:as.Nodup:=C.rise.imp λh=>gs h;show b6 (Zt ?_ (by rw[df];lia));have O:(c.push (w6 "list" (as.map kj).toArray 0)).get? c.objs.size=a5 (w6 "list" (as.map kj).toArray 0):=eH _ rfl;change d3 _ _ _ _ _ {s with heap:=c.push (w6 "list" (as.map kj).toArray 0),toks:=tk};have VG:∀a∈as,a<c.objs.size:=λa ha=>C.there ha;show b6 (tj (Jw ļ ⟨_,O,rfl⟩ Ĩ (v7 (lt:=N0 (ps.map (·.1))) O (by rw[df];lia) (λh2 s1 ks=>?_) ⟨_,rfl,?_⟩) (ľ _)))
 .show D0 (pa.keeps λb o G z=>ks b o (gs (VG b G)) (c2 _ z)) Ju (by rw[df]at h2;show h2)
 .have⟨ee,he⟩:=sortedHeap_at (out:=((hZ (N0 (ps.map (·.1))) (Oc (as.map kj).length)).toList.map λi=>(as.map kj).getD i mN).toArray) O;have g:∀b o,c.get? b=a5 o->(ú (c.push (w6 "list" (as.map kj).toArray 0)) c.objs.size (as.map kj) ((hZ (N0 (ps.map (·.1))) (Oc (as.map kj).length)).toList.map λi=>(as.map kj).getD i mN).toArray).get? b=a5 o:=λb o z=>by
   have JB:b<c.objs.size:=d8 z;rw[Ļ (gs JB) (by rw[Mc];show Sh JB)];show c2 _ z
  have Oz:s.heap.objs.size<=c.objs.size:=Qi (d8 (hk _ _ (eH _ rfl)));have eP:((hZ (N0 (ps.map (·.1))) (Oc (as.map kj).length)).toList)=j7 (ps.map (·.1)):=by
   unfold j7;rw[df,df,D]
  have Pq:H c.objs.size=b8:=I.Jj.fresh Oz;have X2:c.objs.size∉as:=λz=>t4 _ (VG _ z);have VH:∀a∈as,H a=b8:=λa ha=>I.Jj.fresh (f a ha);have TU:∀{b:d7} {ws:List V},(b,ws)∈as.zip (ps.map Nf)->b∈as:=λz=>(Qz z).1;show c4 ⟨_,rfl,.ref c.objs.size,upd (j8 H (as.zip (ps.map Nf))) c.objs.size (.lst ((j7 (ps.map (·.1))).map λi=>V.ref (as.getD i 0))),?_,rfl,q as _ D nd (λa ha=>?_) X2⟩
  .show I.many (λb u z=>g b u (hk b u (k1 b u z))) (λb o z=>?_) λb o z=>?_
   .have n1:b≠c.objs.size:=λy=>by rw[y,Pq]at z;cases z
    rw[av n1,lj λp hp y=>?_]
    .show z
    .have:=VH p.1 (TU (b:=p.1) (ws:=p.2) hp);rw[y,z]at this;cases this
   .by_cases G:b=c.objs.size
    .subst G;rw[aB]at z;cases z;show .inr ⟨Oz,by rw[df,(gv _).length_eq,u6,df];lia,(j7 (ps.map (·.1))).map λi=>(as.map kj).getD i mN,ee,?_,?_⟩
     .have T:∀i∈j7 (ps.map (·.1)),i<as.length:=λi Y=>by
       have:=ve.mp ((gv _).mem_iff.mp Y);rw[df]at this;lia
      generalize j7 (ps.map (·.1))=l at T;induction l with
      |nil=>show .nil
      |cons i l ih =>
       show .cons ?_ (ih λj r=>T j (by simp[r]));have Y:=T i (by simp);change RelV (.ref (as.getD i 0)) ((as.map kj).getD i mN);have:(as.map kj).getD i mN=.ref (as.getD i 0):=by simp[OC,Y]
       rw[this];rfl
     .rw[<-eP];show he
    .rw[av G]at z;rcases lh z with⟨ws,z1,rfl⟩|z1
     .have⟨j,r,ej⟩:=Zh.mp z1;have TV:j<as.length:=by simp at r;lia
      have TR:j<ps.length:=by lia
      have X3:as[j]=b/\Nf ps[j]=ws:=by simpa using ej
      have⟨rfl,rfl⟩:=X3;have⟨p,t,u,J,N⟩:=pa.2 j as[j] (by simp[TV]);have:p=ps[j]:=by simpa[TR] using J.symm
      subst this;show .inr ⟨f _ (by simp),by change 2<=cL;lia,[.str ps[j].1 t,.int ps[j].2 u],.cons ⟨t,rfl⟩ (.cons ⟨u,rfl⟩ .nil),_,g _ _ N,rfl,0,rfl⟩
     .show .inl z1
  .rcases d4.mp ha with rfl|ha
   .show Pq
   .show VH a ha
end
end L2
namespace L2
open PySem PySem.Spec PyProof.Rows
theorem oV:∀{bs:List Bool}{us:List dt},Vals (bs.map V.bl) us->us=bs.map Oi
 |[],_,.nil=>rfl
 |_::_,_,.cons r t=>by rw[show _=Oi _ from r,oV t];rfl
abbrev yf(b:Bool):dt->Bool
 |.bool c=>c==b
 |_=>cc
section
abbrev D3:V->List V->Hp->VK->Prop:=λx vs H Q=>∃(l:d7) (bs:List Bool) (b:Bool),x=.ref l/\vs=[.bl b]/\H l=a5 (.lst (bs.map V.bl))/\Q (.int (bs.count b:Nat)) H
def yg:Ot X "list.count" D3:=by
 intro pins s σ H x vs v us Q I a rv h;have⟨l,bs,b,rfl,rfl,d,q⟩:=h;cases a;have⟨u,rfl,f⟩:=rv.one;cases f;have⟨z,i,n,r,hl,e⟩:=I.rO d;obtain rfl:=oV r;show QG F.slot_list_count ⟨_,e,rfl⟩ F.entry_list_count (F.args_list_count_2 _ _) (SeqAt.list_countAt l _ n b8 #[] (.bool b) (yf b)) ⟨e,λy g=>?_,?_⟩
 .obtain⟨c,_,rfl⟩:=js.mp (Ò.mp g);show WS c b
 .have:(bs.map Oi).countP (yf b)=bs.count b:=by rw[List.countP_map];rfl
  show⟨.int (bs.count b:Nat),H,I.tok _,⟨s.toks,by rw[<-this]⟩,q⟩
abbrev D4:V->List V->Hp->VK->Prop:=λx vs H Q=>∃(l:d7) (bs:List Bool) (b:Bool) (j:Nat),x=.ref l/\vs=[.bl b]/\H l=a5 (.lst (bs.map V.bl))/\bs[j]?=a5 b/\(∀m,m<j->bs[m]?≠a5 b)/\Q (.int j) H
def yh:Ot X "list.index" D4:=by
 intro pins s σ H x vs v us Q I a rv h;have⟨l,bs,b,j,rfl,rfl,d,f,g,q⟩:=h;cases a;have⟨u,rfl,i⟩:=rv.one;cases i;have⟨z,B,n,r,hl,e⟩:=I.rO d;obtain rfl:=oV r;have⟨k,o⟩:=dV.mp f;have hz:cL<2 ^ 62:=by decide
 rw[df]at z;show QG F.slot_list_index ⟨_,e,rfl⟩ F.entry_list_index (F.args_list_index_2 _ _) (SeqAt.list_indexAt l _ n b8 #[] (.bool b) (yf b) j (by simpa using k) ⋯ (by simp[yf,o]) (λm p t=>?_)) ⟨e,λy w=>?_,?_⟩
 .have A:m<bs.length:=by simpa using p
  have:=g m t;rw[td A]at this;simp only[List.getElem_toArray,VN,yf];rw[Ň];show λz=>this (by rw[z])
 .obtain⟨c,_,rfl⟩:=js.mp (Ò.mp w);show WS c b
 .show⟨.int j,H,I.tok _,⟨_,rfl⟩,q⟩
end
section
abbrev AY:V->List V->Hp->VK->Prop:=λx vs H Q=>∃(l:d7) (xs:List V) (i:Nat) (y:V),x=.ref l/\vs=[.int (i:Nat),y]/\H l=a5 (.lst xs)/\i<=xs.length/\xs.length<cL/\Q .Jm (upd H l (.lst (xs.take i++y::xs.drop i)))
def v8:Ot X "list.insert" AY:=by
 intro pins s σ H x vs v us Q I c rv h;have⟨l,xs,i,y,rfl,rfl,b,w,hz,q⟩:=h;cases c;cases rv with
 |cons d f =>
  have⟨u,rfl,g⟩:=Vals.one f;have⟨t,rfl⟩:=d;have⟨z,a,n,r,hl,e⟩:=I.rO b;have hsz:cL<2 ^ 62:=by decide
  have j:UT ((i:Nat):Int)=bD:=İ ⋯ ⋯;have k:¬(!UT ((i:Nat):Int))=bD:=by rw[j];show i0
  have m:a.toArray.size<=cL:=by rw[et];lia
  show QG (T:="list") (name:="insert") F.slot_list_insert ⟨_,e,rfl⟩ F.entry_list_insert (F.args_list_insert_3 _ _ _) (@AutoListH.list_insert_list_int_val_1 l a.toArray n ((i:Nat):Int) t u k m) ?_;show⟨e,?_⟩;show⟨.Jm,_,I.kQ (its':=a.take i++u::a.drop i) b e ?_ ?_ ?_,rfl,q⟩
  .have o:min i a.length=i:=by lia
   have p:¬((i:Nat):Int)<0:=by lia
   simp[p,o];show M5 (by rw[Sz];lia)
  .show(r.take i).append (.cons g (r.drop i))
  .rw[hY,i6,vl,Sz];lia
end
end L2
namespace L2
open PySem PyProof.Rows PySem.W
abbrev IJ(h:DD)(e C:d7)(a0:dt)(T:Option d7)(b:dt):Prop:=∃oe vs,h.get? e=a5 oe/\oe.cls=.ref C/\oe.data=.fields vs/\vs[0]?=a5 a0/\match T with
 |none=>vs[1]?=a5 .none
 |some T=>T≠e/\vs[1]?=a5 (.ref T)/\∃a ts,h.get? T=a5 a/\a.data=.fields ts/\ts[3]?=a5 b
structure bS(P:uv)(w:wq)(stack:List Env)(H:Hp)(s:d5)(e C:d7)(T:Option d7)(fl:dt)(H':Hp)(s':d5):Prop where
 os:s'.os=s.os
 bare:SM s'.gens
 un:Un (JW stack) [] H H' s.heap s'.heap
 Jj:Kc P w H' s'.heap
 new:s.heap.get? e=b8
 he:H' e=b8
 exc:∃a0,IJ s'.heap e C a0 T fl
 hT:∀a,T=a5 a->s.heap.get? a=b8/\H' a=b8
abbrev N1(P:uv)(w:wq):Oo:=λouter H s E v s'=>∃e C T H',v=.ref e/\bS P w outer H s e C (a5 T) .none H' s'/\E (.ref C) b8 H'
def bW.there(x:bW P w H h a o):∃u,h.get? a=a5 u:=by
 cases o with
 |lst xs=>obtain⟨_,_,_,_,e⟩:=x;show⟨_,e⟩
 |tup xs=>obtain⟨_,_,_,_,e,_⟩:=x;show⟨_,e⟩
 |set S n=>obtain⟨o,_,_,_,e,_⟩:=x;show⟨_,e⟩
 |ins C c b=>obtain⟨_,_,_,e,_⟩:=x;show⟨_,e⟩
 |own y=>show x
 |xd b=>obtain⟨_,⟨_,_,_,e,_⟩,_⟩:=x;show⟨_,e⟩
 |Q_ lo d=>obtain⟨_,_,_,e⟩:=x;show⟨_,e⟩
 |K9 g u=>show⟨_,x.1⟩
 |NJ ps=>show⟨_,x⟩
 |met f y=>show⟨_,x⟩
 |ext φ=>show x.2.1
 |_=>obtain⟨_,_,_,_,o,_,_,e,_⟩:=x;show⟨_,e⟩
section
variable{P:uv}{w:wq}{stack outer:List Env}{H H':Hp}{s s':d5}{e C L:d7}{T:Option d7}{fl:dt}{base:DD}{env:Env}{M:Model}{A:M9}{E:dt->d5->Prop}{Q:Unit->d5->Prop}
theorem ur(u:Un (JW stack) [] H H' s.heap s'.heap)(a:∀b∈JW stack,H b=b8):∀l:List Env,(∀b∈JW l,b∈JW stack)->s.heap.FunFrames base l->s'.heap.FunFrames base l
 |[],_,_=>trivial
 |env::l,hs,⟨hk,⟨L,o,c,d,ho,f⟩,g⟩=>by
  have h:JW (env::l)=L::JW l:=by unfold JW;rw[y1,c]
  rw[h]at hs;have⟨j,q⟩:=u.any ho (a L (hs L mu)) λz=>nomatch z
  show⟨hk,⟨L,_,c,d,q,f⟩,ur u a l (λb i=>hs b (ko _ i)) g⟩
def bS.next(F:bS P w stack H s e C T fl H' s')(l:s.heap.FunFrames base stack)(m:∀b∈JW stack,H b=b8)(I:B=hideAll s'.heap (e::(T.toList++JW stack))):
  B.StaysIn s'.heap/\s'.heap.FunFrames B stack/\B.get? e=b8/\(∀a,T=a5 a->B.get? a=b8) /\
   ∀h' i,B.StaysIn h'->h'.FunFrames B stack->h'.TracedAtW B e (.ref C) a0 i->s'.heap.UpToSlots h'->∃c,bS P w stack H s e C (a5 c) i H' {s' with heap:=h' }:=by
 have p:=ur F.un m _ (λ_ z=>z) l;subst I;show⟨λb o q=>of_hideAll _ q,funFrames_hide p λJ N a O=>ko _ (kr _ (PK.mpr ⟨J,N,O⟩)),hideAll_none _ mu,λa z=>hideAll_none _ (ko _ (LF _ (by simp[z]))),λh' i k1 k2 ⟨Y,JK,c,X6,KO,b1,⟨b2,b0⟩,b3,b4,b5,r,t,v,b9⟩ k4=>?_⟩;have X7:∀a,a∈e::(T.toList++JW stack)->H' a=b8:=λa ha=>by
  rcases d4.mp ha with rfl|ha
  .show F.he
  rcases hW.mp ha with ha|ha
  .show(F.hT a (by simpa using ha)).2
  .obtain⟨_,o,ho,_⟩:=l.mem ha;show F.un.free a o ho (m a ha) λz=>nomatch z
 have keep:∀b o,b∉e::(T.toList++JW stack)->s'.heap.get? b=a5 o->h'.get? b=a5 o:=λb o hb q=>k1 b o (hideAll_get _ q hb);have slot:∀b o,b∈JW stack->s'.heap.get? b=a5 o->∃x,h'.get? b=a5 {o with slots:=x}:=λb o hb q=>by
  obtain⟨_,j,d,k⟩:=p.mem hb;rw[q]at d;cases d;show k4 b o q k
 have y:∀b o,s.heap.get? b=a5 o->b∉JW stack->b∉e::(T.toList++JW stack):=λb o q hb z=>by
  rcases d4.mp z with z|z
  .rw[z,F.new]at q;cases q
  rcases hW.mp z with z|z
  .rw[(F.hT b (by simpa using z)).1]at q;cases q
  .show hb z
 have tn:s.heap.get? c=b8/\H' c=b8:=by
  by_cases z:c∈e::(T.toList++JW stack)
  .rcases d4.mp z with z|z
   .show absurd z r
   rcases hW.mp z with z|z
   .show F.hT c (by simpa using z)
   .obtain⟨_,j,d,k⟩:=k2.mem z;rw[t]at d;cases d;show absurd v (k _)
  .have q:s'.heap.get? c=b8:=by
    cases q:s'.heap.get? c with
    |none=>rfl
    |some o=>have:=hideAll_get _ q z;rw[b5]at this;cases this
   show⟨?_,?_⟩
   .cases f:s.heap.get? c with
    |none=>rfl
    |some o=>have⟨j,D⟩:=F.un.there _ o f λz=>nomatch z;rw[q]at D;cases D
   .cases f:H' c with
    |none=>rfl
    |some u =>
     have⟨o,z⟩:=(F.Jj c u f).there;rw[q]at z;cases z
 show⟨c,F.os,F.bare,⟨λb o q n hb g=>keep b o (y b o q hb) (F.un.keep b o q n hb g),λb o q n hb g=>?_,F.un.free,λb o q g=>?_,F.un.fW,F.un.J',F.un.Kf⟩,λa u q=>(F.Jj a u q).fQ (λb o hb d=>?_) (λ_ z=>z) λ_ _ z=>z,F.new,F.he,⟨_,Y,JK,b1,b2,b3,b0,r,b4,X6,KO,t,v,b9⟩,λa z=>by cases z;show tn⟩
 .have⟨x,h⟩:=F.un.slot b o q n hb g;have⟨G,f⟩:=slot b _ hb h;show⟨G,f⟩
 .have⟨j,h⟩:=F.un.there b o q g;by_cases hb:b∈JW stack
  .have⟨G,f⟩:=slot b _ hb h;show⟨_,f⟩
  .show⟨_,keep b _ (y b o q hb) h⟩
 .show keep b o (λz=>?_) d;have:=X7 b z;rcases hb with rfl|hb
  .rw[q]at this;cases this
  .rw[hb]at this;cases this
def bS.leave(F:bS P w (env::outer) H s e C T .none H' s')(c:A.frames=a5 (env::outer))(d:env.frame=a5 L)(q:s.heap.FunFrames base (env::outer))(r:∀b∈JW (env::outer),H b=b8)
  (h:∀f g,bS P w (env::outer) H s e C (a5 f) .none H' g->Q () g):d3 M A (leaving env (.ref e)) Q E s':=by
 have⟨a0,oe,vs,i,j,k,l,m⟩:=F.exc;obtain⟨B,t⟩:∃B,B=hideAll s'.heap (e::(T.toList++JW (env::outer))):=⟨_,rfl⟩
 have⟨n,o,p,u,v⟩:=F.next (a0:=a0) q r t;have a:∀h',Heap.LeftW B (env::outer) e (.ref C) a0 s'.heap h'->Q () {s' with heap:=h' }:=λh' x=>by
  have⟨k1,k2,k3,y⟩:=x;have⟨f,z⟩:=v h' .none k1 k2 k3 y;show h _ _ z
 cases T with
 |none=>show wpAny_leaving_firstW c o d i n p k m l λh' z=>a h' (j▸z)
 |some T =>
  have⟨D,G,I,ts,J,N,O⟩:=m;show wpAny_leaving_nextW c o d ⟨oe,vs,T,I,ts,i,⟨j,l⟩,k,G,u T rfl,D,J,N,O⟩ n p a
def bS.note{T:d7}(F:bS P w (env::outer) H s e C (a5 T) .none H' s')(d:A.frames=a5 (env::outer))(f:env.frame=a5 L)(g:s.heap.FunFrames base (env::outer))(i:∀b∈JW (env::outer),H b=b8)
  (h:∀a c,bS P w (env::outer) H s e C (a5 a) (t8 L) H' c->Q () c):d3 M A (noteFrame (.ref e) env) Q E s':=by
 have⟨a0,oe,vs,j,k,l,m,n,o,p,ts,q,r,t⟩:=F.exc;have⟨u,v,x,y,B⟩:=F.next (a0:=a0) g i rfl;show wpAny_noteFrame_onW d v f ⟨oe,vs,T,p,ts,j,⟨k,m⟩,l,o,y T rfl,n,q,r,t⟩ u x λh' D=>?_;have⟨k1,k2,k3,G⟩:=D;have⟨a,z⟩:=B h' _ k1 k2 k3 G;show h _ _ z
def bS.land{T:d7}(F:bS P w stack H s e C (a5 T) fl H' s')(d:s.heap.FunFrames base stack)(f:∀b∈JW stack,H b=b8)
  (h:∀a c,bS P w stack H s e C (a5 a) .none H' c->Q () c):d3 M A (setFlight (.ref e) b8) Q E s':=by
 have⟨a0,oe,vs,g,i,j,k,l,m,p,ts,r,t,u⟩:=F.exc;have⟨v,x,G,y,B⟩:=F.next (a0:=a0) d f rfl;show wpAny_setFlight_noneW v x ⟨oe,vs,T,p,ts,g,⟨i,k⟩,j,m,y T rfl,l,r,t,u⟩ λh' k1 k2 k3 D=>?_;have⟨a,z⟩:=B h' _ k1 k2 k3 λb o q n=>⟨o.slots,D b o q n⟩
 show h _ _ z
end
section
def bS.down(I:Inv X pins σ H s)(k:X.ex=[])(hs:X.stack=X.env::X.outer)(l:X.env.frame=a5 X.env.locals)(F:bS X.prog X.w X.stack H s e C T m H' s'):bS X.prog X.w X.outer X.H₀ X.s₀ e C T m H' s':=by
 have nx:∀b:d7,b∉X.ex:=λb z=>by rw[k]at z;cases z
 have j:JW X.stack=X.env.locals::JW X.outer:=by rw[hs];unfold JW;rw[y1,l]
 have c:∀b,s.heap.get? b=b8->X.s₀.heap.get? b=b8:=λb q=>by
  cases z:X.s₀.heap.get? b with
  |none=>rfl
  |some o=>have⟨g,z⟩:=I.base.there b o z (nx b);rw[q]at z;cases z
 have hl:∀b o,X.s₀.heap.get? b=a5 o->b≠X.env.locals:=λb o q=>gs (i1 (d8 q) I.ok.above);have h:∀b:d7,b∉([]:List d7):=λb z=>nomatch z
 show⟨F.os.trans I.os,F.bare,⟨λb o q n f _=>?_,λb o q n f _=>?_,λb o q n _=>?_,λb o q _=>?_,λb xs q=>F.un.fW b xs (I.base.fW b xs q),λb o u q=>F.un.J' b o u (I.base.J' b o u q),λb ps q=>?_⟩,F.Jj,c _ F.new,F.he,F.exc,λa z=>⟨c _ (F.hT a z).1,(F.hT a z).2⟩⟩
 .show F.un.keep b o (I.base.keep b o q n f (nx b)) (I.base.free b o q n (nx b)) (λz=>by rw[j]at z;show(d4.mp z).elim (hl b o q) f) (h b)
 .have⟨r,d⟩:=I.base.slot b o q n f (nx b);have⟨p,i⟩:=F.un.slot b _ d (I.base.free b o q n (nx b)) (by rw[j];show ko _ f) (h b);show⟨p,i⟩
 .have⟨g,d⟩:=I.base.there b o q (nx b);show F.un.free b g d (I.base.free b o q n (nx b)) (h b)
 .have⟨g,d⟩:=I.base.there b o q (nx b);show F.un.there b g d (h b)
 .have⟨m1,d⟩:=I.base.Kf b ps q;have⟨m2,i⟩:=F.un.Kf b _ d;show⟨m1++m2,by rw[i,ZE]⟩
def bS.made(I:Inv X pins σ H s)(b:Heap.MadeExcOf s.heap h' e (.ref C) vs):bS X.prog X.w X.stack H s e C b8 .none H {s with heap:=h' }:=by
 obtain⟨t,c,_⟩:=b.there;show⟨rfl,I.bare,Un.kept b.keeps,I.Jj.kept b.keeps,b.new,?_,⟨_,_,_,c,rfl,rfl,rfl,rfl⟩,λa z=>nomatch z⟩;cases z:H e with
 |none=>rfl
 |some u=>have⟨o,q⟩:=(I.Jj e u z).there;rw[b.new]at q;cases q
abbrev Pt:List dt:=[.type "ValueError",.type "Exception",.type "BaseException",.type "object"]
abbrev X8(p:d7->List dt->Option dt->Option dt->Option dt->Option dt->String->Option dt->Bool)(M:List dt)(S:List (Option dt)):Prop:=∃C a k0 k1 k2 k3 n k5,M=.ref C::a/\S=[k0,k1,k2,k3,a5 (.builtin n),k5]/\p C a k0 k1 k2 k3 n k5=bD
def nf{P:Prop}(h:cc=bD):P:=nomatch h
def D5(q:excIn.match_1 (λ_ _=>Bool) M S p (λ_ _=>cc)=bD):X8 p M S:=by
 cases M with
 |nil=>show nf q
 |cons v a =>
  cases v with
  |ref C =>
   cases S with
   |nil=>show nf q
   |cons k0 S =>
   cases S with
   |nil=>show nf q
   |cons k1 S =>
   cases S with
   |nil=>show nf q
   |cons k2 S =>
   cases S with
   |nil=>show nf q
   |cons k3 S =>
   cases S with
   |nil=>show nf q
   |cons b S =>
   cases b with
   |none=>show nf q
   |some v =>
   cases v with
   |builtin n =>
    cases S with
    |nil=>show nf q
    |cons k5 S =>
    cases S with
    |nil=>show⟨C,a,k0,k1,k2,k3,n,k5,rfl,rfl,q⟩
    |cons _ _=>show nf q
   |_=>show nf q
  |_=>show nf q
abbrev X9(p:Option d7->ClassData->Array (Option dt)->Bool)(o:Option Obj):Prop:=∃d a b,o=a5 ⟨.type "type",d,.cls a,b⟩/\p d a b=bD
def D6(q:excIn.match_6 (λ_=>Bool) o p (λ_=>cc)=bD):X9 p o:=by
 split at q
 .show⟨_,_,_,rfl,q⟩
 .show nf q
def D9{K:Frag}{P:Prop}(b:K.In h)(q:excIn K C Pt a=bD)(k:∀c N nm d bs hdct sn sub ab col dd k0 k1 k2 k3 k5 f,h.get? C=a5 (excClassObj nm d C N bs c hdct sn sub ab col dd k0 k1 k2 k3 k5 a)->h.Ns N f->f "__init__"=b8->OwnTail h Pt c->P):P:=by
 have⟨dd,p,r,ho,g⟩:=D6 q;have⟨v,c,k0,k1,k2,k3,n,k5,i,hs,j⟩:=D5 g;clear q g;have⟨nm,bs,mro,ns,d,s,sn,sub,ab,col,t⟩:=p;have⟨l⟩:=r;simp only[cb,beq_iff_eq,nH]at j;obtain⟨⟨⟨⟨⟨rfl,rfl⟩,m⟩,u⟩,e⟩,o⟩:=j
 dsimp only at i m e o
 subst i m;obtain rfl:l=_:=hs;show k c ns nm d bs s sn sub ab col dd k0 k1 k2 k3 k5 _ (b _ _ ho) (.of_isNs (isNs_of_in b e)) (nsMap_none_of_in b e o) (tail_of_in b u)
def yi(g:X.calm=bD)(i:Gl X x)(d:X.mg x=a5 (.ref C))(j:(x==("__debug__":Str))=cc)(k:excIn X.K C Pt "ValueError.__new__"=bD)(l:PE X a m)
  (f:gj [a] X.env=[(cc,uk a X.env)]) :
  PS X (.Raise (a5 (.Call (.Name x p) [a] [] z)) b8 pos) (λD σ H=>m σ H λv c=>∀pins s e s',Inv X pins σ c s->bS X.prog X.w X.stack c s e C b8 .none c s'->X.xe (.ref e) s'):=by
 intro pins s σ H D I h;show D9 I.mod.Oe k λA N nm n bs hdct sn sub ab col dd k0 k1 k2 k3 k5 B o r t T=>?_;show wpAny_Raise_call_subT (nm:=nm) (q:=n) (N:=N) (bs:=bs) (hdct:=hdct) (sn:=sn) (sub:=sub) (ab:=ab) (col:=col) (dd:=dd) (k0:=k0) (k1:=k1) (k2:=k2) (k3:=k3) (k5:=k5) Ä (T.hasType Ä.hasBase) (I.ok.hd g) (by rw[f];rfl) t (ft I i d ⟨rfl,?_⟩ j);rw[f];show Lw (KY (Jo (l pins s σ H _ I h) λu s1 ⟨v,c,b,G,y⟩=>Nu ⟨rfl,?_,b.bk _ _ o,r.keeps b.bk,T.keeps b.bk,λh' e d=>y pins s1 e _ b (.made b d)⟩));show(by decide:1<=cL)
def Gu:Passes (N1 X.prog X.w) X E0:=λ_ _ _ _ _ _ _ ⟨_,_,_,_,_,_,h⟩=>h.elim
def ku(F:iE X.prog X.w X.K X.mg X.base CX k f c ps sp)(d:fw k X.A)(g:Binds X.K c ps [])(I:Inv X pins σ H s)(r:Vals vs us)(h:sp vs H Q E)
  (i:∀e s',CX X.stack H s E e s'->EE e s'):d3 (eh X.prog X.w) X.A (NK (.ref f) us) (EP X pins σ Q) EE s:=by
 have hl:us.length=ps.length:=by rw[<-r.length];show F.len _ _ _ _ h
 have b:=g s us I.Mw (by rw[rr];show hl);rw[rr]at b;show ï (R' (F.run X.A X.stack s H ⟨us,[]⟩ us vs Q E d I.Gf b r h) λr s' a=>?_);cases r with
 |error e=>show i e s' a
 |ok j =>
  cases j with
  |ret u=>show I.after a
  |_=>show ME a
end
@[reducible]def Cx.MV(X:Cx)(e:d7)(oe:Obj)(E:dt->d5->Prop):Cx:={X with A:=X.A.mark (a5 (.ref e)),calm:=cc,pn:=(e,oe)::X.pn,xe:=E}
section
def Inv.MV(I:Inv X pins σ H s)(a:s.heap.get? e=a5 oe)(b:H e=b8)(c:e≠X.env.locals)(d:e∉X.fs)(f:∀v,oe.data≠.cell v):Inv (X.MV e oe E) pins σ H s :=
 ⟨⟨I.ok.mod,I.ok.kind,I.ok.glob,I.ok.blt,I.ok.above,I.ok.inj,I.ok.has,I.ok.O9,λz=>(nomatch z),I.ok.frames,I.ok.PL,I.ok.R_,I.ok.bs,I.ok.Nr,I.ok.Mi,I.ok.MG,I.ok.j4,I.ok.Of⟩,I.os,I.bare,I.base,I.loc,I.cell,I.free,I.JF,
  λp g=>(d4.mp (show p∈(e,oe)::(X.pn++pins) from g)).elim (λz=>by subst z;show⟨a,b,c,d,f⟩) λz=>I.pin p z,I.Jj,I.len⟩
def Inv.IK(a:X.Ok)(I:Inv (X.MV e oe E) pins σ H s):Inv X pins σ H s :=
 ⟨a,I.os,I.bare,I.base,I.loc,I.cell,I.free,I.JF,λp b=>I.pin p (ko _ b),I.Jj,I.len⟩
def Inv.gone(I:Inv X pins σ H s)(C:X.N.Nodup)(t:X.N[j]?=a5 n)(hl:X.env.scope.names.lookup n=a5 .local)
  (h:∀s',Inv X pins (σ.set j b8) H s'->Q () s'):d3 M A (do bindName X.env n .none;unbindBehindTheSuite X.env n pos) Q E s:=by
 have⟨m,D,G⟩:=id I.loc;have J:(X.env.scope.kind==.class||(X.env.scope.kind==.module&&X.env.locals != X.env.globals))=cc:=by rw[I.ok.kind];rfl
 show wpAny_nameGoes_keeps hl D J λh' v L hs=>h _ ?_;have w:=I.MH;have O:j < σ.length:=by rw[I.len];show(dV.mp t).1
 have ne:∀b o,X.s₀.heap.get? b=a5 o->b≠X.env.locals:=λb o q=>gs (i1 (d8 q) I.ok.above);show⟨I.ok,I.os,I.bare,⟨λb o e n k f=>(hs.2 b (ne b o e)).trans (I.base.keep b o e n k f),λb o e n k f=>?_,I.base.free,λb o e f=>?_,I.base.fW,I.base.J',I.base.Kf⟩,⟨_,L,λi y u x g T=>?_⟩,λy c e=>?_,I.free,I.JF,λp Y=>?_,λb ob e=>(I.Jj b ob e).fQ (λc w' hc q=>(hs.2 c ?_).trans q) (λ_ q=>q) λ_ _ q=>q,by simpa using I.len⟩
 .have⟨sl,q⟩:=I.base.slot b o e n k f;show⟨sl,(hs.2 b (ne b o e)).trans q⟩
 .have⟨o',q⟩:=I.base.there b o e f;show⟨o',(hs.2 b (ne b o e)).trans q⟩
 .have B:i≠j:=λz=>by subst z;rw[d6 O]at g;cases g
  rw[hH (qs B)]at g;have⟨u',r,l⟩:=G i y u x g T;show⟨u',r,l.imp (λ⟨a,b⟩=>⟨a,?_⟩) λ⟨a,c,b,d⟩=>⟨a,c,b,d.sameBut hs (w y c b)⟩⟩;change(if y=n then v else m y)=a5 u';rw[ł λ(z:y=n)=>B (iy C x (by rw[z];show t))];show b
 .have⟨u,z⟩:=I.cell y c e;show⟨u,z.sameBut hs (w y c e)⟩
 .have⟨a,b,c,d⟩:=I.pin p Y;show⟨(hs.2 p.1 c).trans a,b,c,d⟩
 .rintro rfl;rcases hc with hc|hc
  .rw[<-hc,I.free]at e;cases e
  .rw[I.free]at hc;cases hc
end
section
variable{prog:uv}{w:wq}{A:M9}{E:dt->d5->Prop}{h:DD}{g:Array Y8}{d:Drawn}{t:Nat}{os:OsState}{a C:d7}{o:Obj}{K:Frag}
def qp(e:K.In h)(hs:Ķ K (.ref C) (.type "object")=a5 bD)(b:h.get? a=a5 o)(c:o.cls=.ref C)(j:R (.ok (.ret (.ref C))) ⟨h,g,d,t,os⟩):
  Qv (eh prog w) A (.call (.builtin "getset_descriptor.__get__") ⟨[.builtin "object.__class__",.ref a,.ref C],[]⟩) R ⟨h,g,d,t,os⟩:=by
 have f:(⟨h,g,d,t,os⟩:d5).TypeIs (.builtin "object.__class__") "getset_descriptor":=TZ;have i:ĉ (eh prog w) h (Oj (.ref C) (.type (".".intercalate ("object.__class__".cutAt '.').dropLast))) bD:=by rw[F.owner_object_class];show looks_subIn e hs
 show U9 Y_.plain F.entry_gs_get (Y_.check _ _ _ _ _ _ _ _ f (F.args_gs_get _ _ _) ?_)
 repeat (any_goals (first|assumption|(with_reducible show Qu b ?_;rw[c])|with_reducible show i.at ?_|wp_step))
 show⟨US _ (by decide +kernel),J4 F.entry_object_class ?_⟩
 repeat (any_goals (first|assumption|(with_reducible show Qu b ?_;rw[c])|wp_step))
def mI(b:K.In h)(hs:Ķ K (.ref C) (.type "object")=a5 bD)(f:ķ K (.ref C) "__class__"=a5 (a5 (.builtin "object.__class__")))(c:h.get? a=a5 o)(e:o.cls=.ref C)(j:Q (.done (.ret (.ref C))) ⟨h,g,d,t,os⟩):
  d3 (eh prog w) A (NM.«object.__getattribute__» ⟨[.ref a,.str "__class__" k],[]⟩) Q E ⟨h,g,d,t,os⟩:=by
 have l:(⟨h,g,d,t,os⟩:d5).TypeIs (.builtin "object.__class__") "getset_descriptor":=TZ;have i:ĉ (eh prog w) h (QD (.ref C) "__class__") (a5 (.builtin "object.__class__")):=Z' b f;have m:=TZ;have n:=Y_.lookup;have p:=F.slot_gs_set.lookup
 repeat (any_goals (first|assumption|(with_reducible show Qu c ?_;rw[e])|with_reducible show i.at ?_|wp_step))
 show qp b hs c e ?_
 repeat (any_goals (first|assumption|wp_step))
def sd(b:K.In h)(hs:Ķ K (.ref C) (.type "BaseException")=a5 bD)(c:h.get? a=a5 o)(e:o.cls=.ref C)(f:Q () ⟨h,g,d,t,os⟩):d3 M A (Xy "BaseException.__getattribute__" ⟨[.ref a,i],[]⟩) Q E ⟨h,g,d,t,os⟩:=by
 have hk:builtinKind "BaseException.__getattribute__"=a5 .slot:=by decide +kernel
 have j:splitId "BaseException.__getattribute__"=a5 ("BaseException","__getattribute__"):=by decide +kernel
 have k:ĉ M h (Oj (.ref C) (.type "BaseException")) bD:=looks_subIn b hs;have l:=F.args_bexc_ga (.ref a) i;simp only[Xy,hk,j];show b6 ?_
 .unfold isInstance
  repeat (first|(with_reducible show Qu c ?_;rw[e])|with_reducible show k.at ?_|wp_step)
  show f
abbrev fX(K:Frag)(C:d7):Bool:=Ķ K (.ref C) (.type "object")==a5 bD&&Ķ K (.ref C) (.type "BaseException")==a5 bD&&ķ K (.ref C) "__class__"==a5 (a5 (.builtin "object.__class__"))&&ķ K (.ref C) "__getattribute__"==a5 (a5 (.builtin "BaseException.__getattribute__"))&&ķ K (.ref C) "__getattr__"==a5 b8&&(clsIn K C).isSome
def se(b:K.In h)(f:fX K C=bD)(c:h.get? a=a5 o)(e:o.cls=.ref C)(l:Q (.ref C) ⟨h,g,d,t,os⟩):d3 (eh prog w) A (getAttrBy (.ref a) (.str "__class__" m) cc) Q E ⟨h,g,d,t,os⟩:=by
 simp only[fX,cb,beq_iff_eq]at f;obtain⟨⟨⟨⟨⟨i,o2⟩,o3⟩,o4⟩,o5⟩,_⟩:=f;have n:=ç.ga.bind (.ref a);have p:(cc&&onTheHeap (Sb "BaseException.__getattribute__"))=cc:=rfl;have j:(Sb "BaseException.__getattribute__"==Sb "object.__getattribute__")=cc:=by decide +kernel
 have q:(onTheHeap (kj C)&&Sb "BaseException.__getattribute__"==Sb "object.__getattribute__")=cc:=by rw[j];rfl
 have k:ĉ (eh prog w) h (QD (.ref C) "__getattribute__") (a5 (.builtin "BaseException.__getattribute__")):=Z' b o4;have L2:ĉ (eh prog w) h (QD (.ref C) "__getattr__") b8:=Z' b o5
 repeat (any_goals (first|assumption|(with_reducible show Qu c ?_;rw[e])|with_reducible show k.at ?_|with_reducible show L2.at ?_|wp_step))
 show U9 ç.ga.plain F.entry_bexc_ga (sd b o2 c e (mI b i o3 c e ?_))
 repeat (any_goals (first|assumption|wp_step))
def oW(b:K.In h)(c:fX K C=bD)(e:h.get? a=a5 o)(f:o.cls=.ref C)(i:Q (a5 (.ref C)) ⟨h,g,d,t+1,os⟩):d3 (eh prog w) A (getAttr? (.ref a) "__class__") Q E ⟨h,g,d,t,os⟩:=by
 unfold getAttr? getAttrBy?
 repeat (any_goals (first|assumption|with_reducible apply se b c e f|wp_step))
end
def yj{K:Frag}(b:fX K C=bD):KitX K (.ref a) (.ref C) (λh=>∃o,h.get? a=a5 o/\o.cls=.ref C) where
 ty:=λM h _ j=>by
  have⟨o,f,i⟩:=j;show(ĸ f).andThen ?_;rw[i];show .now
 it:=λM h c _ A Q E s k q=>by
  simp only[fX,cb]at b;have z:=b.2;unfold clsIn at z;split at z
  .rename_i ho;unfold isType loadHead;show b6 (wpAny_loadPart (k _ _ (c _ _ ho)) (c4 q))
  .cases z
 ne:=λh l dd m n p c e=>by
  simp only[fX,cb]at b;have z:=b.2;unfold clsIn at z;split at z
  .rename_i ho;rw[Ň];intro q;cases q;have:=c _ _ ho;rw[e]at this;cases this
  .cases z
 ca:=λ{_ _ _ _ _ s} c ⟨o,f,i⟩ q=>by
  have⟨h,g,d,t,os⟩:=s;show oW c b f i q
def Inv.Gv(I:Inv X pins σ H s)(d:s.heap.get? e=a5 oe)(g:H e=b8)(h:X.s₀.heap.get? e=b8)(i:e≠X.env.locals)(j:∀x c,X.env.cells.lookup x=a5 c->c≠e)(k:∀p∈X.pn++pins,p.1≠e):
  Inv X pins σ (upd H e (.K9 oe (.ext λ_=>True))) s:=by
 have ne:∀b o,H b=a5 o->b≠e:=λb o q=>bx q g;show⟨I.ok,I.os,I.bare,⟨I.base.keep,I.base.slot,λb o q n l=>?_,I.base.there,λb xs q=>?_,λb o u q=>?_,λb ps q=>?_⟩,I.loc,I.cell,?_,λx c q=>?_,λp f=>?_,λb u q=>?_,I.len⟩
 .rw[av (λz=>by rw[z,h]at q;cases q)];show I.base.free b o q n l
 .have:=I.base.fW b xs q;rw[av (ne b _ this)];show this
 .have:=I.base.J' b o u q;rw[av (ne b _ this)];show this
 .have⟨m,q⟩:=I.base.Kf b ps q;show⟨m,by rw[av (ne b _ q)];show q⟩
 .rw[av (qs i)];show I.free
 .rw[av (j x c q)];show I.JF x c q
 .have⟨a,b,c⟩:=I.pin p f;show⟨a,by rw[av (k p f)];show b,c⟩
 .by_cases z:b=e
  .subst z;rw[aB]at q;cases q;show⟨d,trivial,⟨oe,d⟩,λ_ _ _ _=>trivial⟩
  .rw[av z]at q;show(I.Jj b u q).fQ (λ_ _ _ q=>q) (λc q=>by rw[av (ne c _ q)];show q) λc xs q=>by rw[av (ne c _ q)];show q
end L2
namespace TM
open PySem L2
inductive U where
 |Jm|bl (b:Bool)|int (i:Int)|str (x:Str)
 |tup (xs:List U)|lst (xs:List U)
 |Ji (ks:List Str) (vs:List U)
 |exc (c:Str)
mutual
noncomputable def JG:U->Bool
 |.tup xs=>cT xs
 |.lst _=>cc
 |.Ji _ _=>cc
 |.exc _=>bD
 |.Jm=>bD|.bl _=>bD|.int _=>bD|.str _=>bD
noncomputable def cT:List U->Bool
 |[]=>bD
 |u::us=>JG u&&cT us
end
inductive Kd where|own|io|loc|any|bor (j:Nat)|Je
deriving DecidableEq
abbrev Kd.root:Kd->Bool
 |.own=>bD
 |.io=>bD
 |_=>cc
@[reducible]def ay:=List (Option (Kd×U))
structure Ct where
 P:uv
 w:wq
 K:PySem.W.Frag
 H₀:Hp
 LX:d7->Prop
 IO:d7->Prop
 xw:U->Hp->Prop
abbrev KL(K:PySem.W.Frag)(a:d7)(xs:List V):Prop :=
 ∃(o:Obj) (b:Array dt) (n:Nat),K.lookup a=a5 o/\o.cls=.type "list"/\o.dict=b8/\o.data=.seq b n/\b.size<=cL/\Vals xs b.toList
abbrev QA(K:PySem.W.Frag)(S:d7->Prop)(H:Hp)(a:d7)(vs:List V):Prop:=(S a/\Rd H a (.lst vs))\/KL K a vs
def QA.sq(h:QA K S H a vs):JN K H a vs:=h.elim (λz=>.inl z.2) .inr
abbrev N2(H:Hp)(R:List V->Prop)(a:d7)(ks:List Str):Prop:=∃kvs:List (Key×V),H a=a5 (.dK kvs)/\kvs.map (·.1)=ks.map mx/\R (kvs.map (·.2))
abbrev IL(K:PySem.W.Frag)(H:Hp)(a:d7)(c:Str):Prop:=∃o C,H a=a5 (.K9 o (.ext λ_=>True))/\o.cls=.ref C/\PySem.W.nsIn K i3 c=a5 (a5 (.ref C))
section
variable(C:Ct)(S:d7->Prop)(H:Hp)
mutual
def Rep:U->V->Prop
 |.Jm,v=>v=.Jm
 |.bl b,v=>v=.bl b
 |.int i,v=>v=.int i
 |.str x,v=>v=.str x
 |.tup us,v=>∃a vs,v=.ref a/\JY C.K H a vs/\au us vs
 |.lst us,v=>∃a vs,v=.ref a/\QA C.K S H a vs/\au us vs
 |.Ji ks us,v=>∃a,v=.ref a/\S a/\N2 H (au us) a ks
 |.exc c,v=>∃a,v=.ref a/\IL C.K H a c
def au:List U->List V->Prop
 |[],vs=>vs=[]
 |u::us,vs=>∃v r,vs=v::r/\Rep u v/\au us r
end
end
def Tp:HO->Prop
 |.tup _=>True
 |.K9 _ (.tup _)=>True
 |.K9 _ (.ext _)=>True
 |_=>False
structure Mv(S:d7->Prop)(H:Hp)(S':d7->Prop)(H':Hp):Prop where
 sub:∀a,S a->S' a
 Pu:∀a o,H a=a5 o->Tp o->H' a=a5 o
 T1:∀a o,S a->H a=a5 o->H' a=a5 o
def Mv.Ya(m:Mv S H S' H')(h:JY K H a vs):JY K H' a vs:=by
 rcases h with(h|⟨o,h⟩)|h
 .show .inl (.inl (m.Pu a _ h trivial))
 .show .inl (.inr ⟨o,m.Pu a _ h trivial⟩)
 .show .inr h
def Mv.Yb(m:Mv S H S' H')(h:QA K S H a vs):QA K S' H' a vs:=by
 rcases h with⟨s,h|⟨o,h⟩⟩|h
 .show .inl ⟨m.sub a s,.inl (m.T1 a _ s h)⟩
 .show .inl ⟨m.sub a s,.inr ⟨o,m.T1 a _ s h⟩⟩
 .show .inr h
def N2.mv(b:∀o,H a=a5 o->H' a=a5 o)(c:∀vs,R vs->d vs)(h:N2 H R a ks):N2 H' d a ks :=
 let ⟨kvs,e,f,g⟩:=h;⟨kvs,b _ e,f,c _ g⟩
section
mutual
theorem Rep.N3(m:Mv S H S' H'):∀(u:U) (v:V),Rep C S H u v->Rep C S' H' u v
 |.Jm,_,h=>h
 |.bl _,_,h=>h
 |.int _,_,h=>h
 |.str _,_,h=>h
 |.tup us,v,h=>by
  have⟨a,vs,e,b,d⟩:=h;show⟨a,vs,e,m.Ya b,au.N3 m us vs d⟩
 |.lst us,v,h=>by
  have⟨a,vs,e,b,d⟩:=h;show⟨a,vs,e,m.Yb b,au.N3 m us vs d⟩
 |.Ji ks us,v,h=>by
  have⟨a,e,b,d⟩:=h;show⟨a,e,m.sub a b,d.mv (λo q=>m.T1 a o b q) λvs q=>au.N3 m us vs q⟩
 |.exc c,v,h=>let ⟨a,e,o,f,b,d⟩:=h;⟨a,e,o,f,m.Pu a _ b trivial,d⟩
theorem au.N3(m:Mv S H S' H'):∀(us:List U) (vs:List V),au C S H us vs->au C S' H' us vs
 |[],_,h=>h
 |u::us,vs,h=>by
  have⟨v,r,e,a,b⟩:=h;show⟨v,r,e,Rep.N3 m u v a,au.N3 m us r b⟩
end
mutual
theorem Rep.v9:∀(u:U) (v:V),JG u=bD->Rep C S H u v->Rep C S' H u v
 |.Jm,_,_,h=>h
 |.bl _,_,_,h=>h
 |.int _,_,_,h=>h
 |.str _,_,_,h=>h
 |.tup us,v,i,h=>by
  have⟨a,vs,e,b,c⟩:=h;show⟨a,vs,e,b,au.v9 us vs (by simpa[TM.JG] using i) c⟩
 |.lst us,v,i,h=>by simp[TM.JG]at i
 |.Ji ks us,v,i,h=>by simp[TM.JG]at i
 |.exc _,_,_,h=>h
theorem au.v9:∀(us:List U) (vs:List V),cT us=bD->au C S H us vs->au C S' H us vs
 |[],_,_,h=>h
 |u::us,vs,i,h=>by
  have⟨v,r,e,b,c⟩:=h;have a:TM.JG u=bD/\cT us=bD:=by simpa[cT] using i
  show⟨v,r,e,Rep.v9 u v a.1 b,au.v9 us r a.2 c⟩
end
def Rep.mv(m:Mv S H S' H')(h:Rep C S H u v):Rep C S' H' u v:=Rep.N3 m u v h
def au.mv(m:Mv S H S' H')(h:au C S H us vs):au C S' H' us vs:=au.N3 m us vs h
def Rep.JG(i:TM.JG u=bD)(h:Rep C S H u v):Rep C S' H u v:=Rep.v9 u v i h
def au.JG(i:cT us=bD)(h:au C S H us vs):au C S' H us vs:=au.v9 us vs i h
def Mv.up(sub:∀a,S a->S' a):Mv S H S' H:=⟨sub,λ_ _ h _=>h,λ_ _ _ h=>h⟩
theorem au.len:∀{us:List U}{vs:List V},au C S H us vs->us.length=vs.length
 |[],_,h=>by cases h;rfl
 |u::us,vs,h=>by
  obtain⟨v,r,rfl,_,a⟩:=h;rw[i6,i6,au.len a]
theorem au.get:∀{us:List U}{vs:List V}{i:Nat}{u:U},au C S H us vs->us[i]?=a5 u->∃v,vs[i]?=a5 v/\Rep C S H u v
 |[],_,_,_,_,e=>by simp at e
 |u::us,vs,0,w,h,e=>by
  obtain⟨v,r,rfl,a,_⟩:=h;simp at e;subst e;show⟨v,rfl,a⟩
 |u::us,vs,i+1,w,h,e=>by
  obtain⟨v,r,rfl,_,b⟩:=h;have⟨c,d,h'⟩:=au.get (i:=i) (u:=w) b (by simpa using e);show⟨c,by simpa using d,h'⟩
theorem au.append:∀{us ws:List U}{vs a:List V},au C S H us vs->au C S H ws a->au C S H (us++ws) (vs++a)
 |[],_,_,_,h,h'=>by cases h;show h'
 |u::us,ws,vs,a,h,h'=>by
  have⟨v,r,rfl,b,c⟩:=h;show⟨v,r++a,rfl,b,c.append h'⟩
theorem au.take:∀{us:List U}{vs:List V} (n:Nat),au C S H us vs->au C S H (us.take n) (vs.take n)
 |_,_,0,_=>by simp[au]
 |[],_,n+1,h=>by cases h;simp[au]
 |u::us,vs,n+1,h=>by
  have⟨v,r,rfl,a,b⟩:=h;show⟨v,r.take n,rfl,a,b.take n⟩
theorem au.drop:∀{us:List U}{vs:List V} (n:Nat),au C S H us vs->au C S H (us.drop n) (vs.drop n)
 |_,_,0,h=>h
 |[],_,n+1,h=>by cases h;simp[au]
 |u::us,vs,n+1,h=>by
  have⟨v,r,rfl,b,a⟩:=h;show a.drop n
theorem au.set:∀{us:List U}{vs:List V} (n:Nat) {u:U}{v:V},au C S H us vs->Rep C S H u v->au C S H (us.set n u) (vs.set n v)
 |[],_,n,_,_,h,_=>by cases h;simp[au]
 |u::us,vs,0,_,_,h,h'=>by
  have⟨v,r,rfl,b,a⟩:=h;show⟨_,r,rfl,h',a⟩
 |u::us,vs,n+1,_,_,h,h'=>by
  have⟨v,r,rfl,b,a⟩:=h;show⟨v,_,rfl,b,a.set n h'⟩
def au.snoc(h:au C S H us vs)(h':Rep C S H u v):au C S H (us++[u]) (vs++[v]):=h.append ⟨v,[],rfl,h',rfl⟩
theorem au.strs:∀{xs:List Str}{vs:List V},au C S H (xs.map .str) vs↔vs=xs.map V.str
 |[],vs=>by simp[au]
 |x::xs,vs=>by
  constructor
  .rintro⟨v,r,rfl,a,b⟩;rw[au.strs.mp b];have:v=.str x:=a;rw[this];rfl
  .rintro rfl;show⟨_,_,rfl,rfl,au.strs.mpr rfl⟩
end
structure Ct.Eqv(C C':Ct):Prop where
 P:C.P=C'.P
 w:C.w=C'.w
 K:C.K=C'.K
section
mutual
theorem Rep.N4(q:C.Eqv f):∀(u:U) (v:V),Rep C S H u v->Rep f S H u v
 |.Jm,_,h=>h
 |.bl _,_,h=>h
 |.int _,_,h=>h
 |.str _,_,h=>h
 |.tup us,v,h=>by
  have⟨a,vs,e,b,d⟩:=h;show⟨a,vs,e,q.K▸b,au.N4 q us vs d⟩
 |.lst us,v,h=>by
  have⟨a,vs,e,b,d⟩:=h;show⟨a,vs,e,q.K▸b,au.N4 q us vs d⟩
 |.Ji ks us,v,h=>by
  have⟨a,e,b,d⟩:=h;show⟨a,e,b,d.mv (λ_ q=>q) λvs z=>au.N4 q us vs z⟩
 |.exc c,v,h=>by
  have⟨a,e,h⟩:=h;show⟨a,e,q.K▸h⟩
theorem au.N4(q:C.Eqv a):∀(us:List U) (vs:List V),au C S H us vs->au a S H us vs
 |[],_,h=>h
 |u::us,vs,h=>by
  have⟨v,r,e,b,c⟩:=h;show⟨v,r,e,Rep.N4 q u v b,au.N4 q us r c⟩
end
def Rep.cg(q:C.Eqv a)(h:Rep C S H u v):Rep a S H u v:=Rep.N4 q u v h
def au.cg(q:C.Eqv a)(h:au C S H us vs):au a S H us vs:=au.N4 q us vs h
end
def da(C:Ct)(S:d7->Prop)(H:Hp)(r:d7):U->Prop
 |.lst us=>∃vs,H r=a5 (.lst vs)/\au C S H us vs
 |.Ji ks us=>N2 H (au C S H us) r ks
 |_=>False
def da.mv(m:Mv S H S' H')(a:∀o,H r=a5 o->H' r=a5 o)(h:da C S H r u):da C S' H' r u:=by
 cases u with
 |lst us=>have⟨vs,b,c⟩:=h;show⟨vs,a _ b,c.mv m⟩
 |Ji ks us=>show N2.mv a (λvs q=>q.mv m) h
 |_=>show h
def da.rep(hs:∀a,S a->S' a)(b:S' r)(h:da C S H r u):Rep C S' H u (.ref r):=by
 cases u with
 |lst us=>have⟨vs,c,d⟩:=h;show⟨r,vs,rfl,.inl ⟨b,.inl c⟩,d.mv (.up hs)⟩
 |Ji ks us=>show⟨r,rfl,b,N2.mv (λ_ q=>q) (λvs q=>q.mv (.up hs)) h⟩
 |_=>show h.elim
def da.cg(q:C.Eqv a)(h:da C S H r u):da a S H r u:=by
 cases u with
 |lst us=>have⟨vs,b,c⟩:=h;show⟨vs,b,c.cg q⟩
 |Ji ks us=>show N2.mv (λ_ q=>q) (λvs z=>z.cg q) h
 |_=>show h
def da.some(h:da C S H r u):∃o,H r=a5 o/\¬Tp o:=by
 cases u with
 |lst us=>obtain⟨vs,a,_⟩:=h;show⟨_,a,λz=>z⟩
 |Ji ks us=>obtain⟨kvs,a,_⟩:=h;show⟨_,a,λz=>z⟩
 |_=>show h.elim
structure Cf where
 S:d7->Prop
 H:Hp
 σ:St
 st:ay
 kid:Nat->List d7
abbrev Cf.R1(c:Cf)(a:d7):Prop:=∃(j:Nat) (k:Kd) (u:U),k.root=bD/\c.st[j]?=a5 (a5 (k,u))/\c.σ[j]?=a5 (a5 (.ref a))
abbrev Cf.RD(c:Cf)(j:Nat)(a:d7):Prop:=∃(u:U) (r:d7),c.st[j]?=a5 (a5 (.Je,u))/\c.σ[j]?=a5 (a5 (.ref r))/\(a=r\/a∈c.kid j)
abbrev Cf.R(c:Cf)(a:d7):Prop:=c.R1 a\/∃j,c.RD j a
abbrev PS(C:Ct)(S:d7->Prop):d7->Prop:=λa=>C.LX a\/S a
def fY(C:Ct)(S:d7->Prop)(H:Hp):Kd->U->V->Prop
 |.own,u,v=>∃r,v=.ref r/\¬S r/\¬C.LX r/\C.H₀ r=b8/\da C S H r u
 |.io,u,v=>∃r,v=.ref r/\¬S r/\¬C.LX r/\C.IO r/\da C S H r u
 |.loc,u,v=>Rep C S H u v
 |.any,u,v=>Rep C (PS C S) H u v
 |.bor _,_,_=>False
 |.Je,_,v=>∃r,v=.ref r
def dF(C:Ct)(S:d7->Prop)(H:Hp):List U->List d7->Prop
 |[],as=>as=[]
 |u::us,as=>∃a as' b vs,as=a::as'/\u=.lst b/\H a=a5 (.lst vs)/\au C S H b vs/\dF C S H us as'
def cM(C:Ct)(S:d7->Prop)(H:Hp)(r:d7)(as:List d7):U->Prop
 |.Ji ks us=>∃kvs:List (Key×V),H r=a5 (.dK kvs)/\kvs.map (·.1)=ks.map mx/\kvs.map (·.2)=as.map V.ref/\(r::as).Nodup/\(∀a∈r::as,¬S a/\¬C.LX a/\C.H₀ a=b8)/\dF C S H us as
 |_=>False
structure Mo(C:Ct)(c:Cf):Prop where
 kd:∀(j:Nat) (u:U) (r:d7),c.st[j]?=a5 (a5 (.Je,u))->c.σ[j]?=a5 (a5 (.ref r))->cM C c.S c.H r (c.kid j) u
 dj:∀(i j:Nat) (a:d7),c.RD i a->c.RD j a->i=j
 d1:∀(j:Nat) (a:d7),c.RD j a->¬c.R1 a
structure Ok(C:Ct)(c:Cf):Prop where
 same:∀a o,C.H₀ a=a5 o->¬C.IO a->c.H a=a5 o
 Lu:∀a,c.S a->C.H₀ a=b8/\∃o,c.H a=a5 o
 par:∀a,C.LX a->(∃o,C.H₀ a=a5 o)/\¬C.IO a
 io:∀a,C.IO a->(∃o,C.H₀ a=a5 o)/\∃o,c.H a=a5 o
 len:c.st.length=c.σ.length
 sl:∀(i:Nat) (k:Kd) (u:U),c.st[i]?=a5 (a5 (k,u))->∃v,c.σ[i]?=a5 (a5 v)/\fY C c.S c.H k u v
 inj:∀(i j:Nat) (k k':Kd) (u u':U) (r:d7),k.root=bD->k'.root=bD->c.st[i]?=a5 (a5 (k,u))->c.st[j]?=a5 (a5 (k',u'))->c.σ[i]?=a5 (a5 (.ref r))->c.σ[j]?=a5 (a5 (.ref r))->i=j
 dd:Mo C c
structure Ns(c c':Cf):Prop where
 keep:∀a o,c.H a=a5 o->¬c.R a->c'.H a=a5 o
 there:∀a o,c.H a=a5 o->∃o',c'.H a=a5 o'
 roots:∀a,c'.R a->c.R a\/c.H a=b8
 sub:∀a,c.S a->c'.S a
 new:∀a,c'.S a->c.S a\/c.R a\/c.H a=b8
section
def Ns.refl(c:Cf):Ns c c:=⟨λ_ _ h _=>h,λ_ o h=>⟨o,h⟩,λ_ h=>.inl h,λ_ h=>h,λ_ h=>.inl h⟩
def Ns.none(n:Ns c b)(h:b.H a=.none):c.H a=.none:=by
 cases e:c.H a with
 |none=>rfl
 |some o=>have⟨d,q⟩:=n.there a o e;rw[h]at q;cases q
def Ns.trans(m:Ns c d)(n:Ns d e):Ns c e where
 keep:=λa o h b=>by
  show n.keep a o (m.keep a o h b) λz=>?_;rcases m.roots a z with z|z
  .show b z
  .rw[h]at z;cases z
 there:=λa o h=>let ⟨f,h'⟩:=m.there a o h;n.there a f h'
 roots:=λa h=>by
  rcases n.roots a h with z|z
  .show m.roots a z
  .show .inr (m.none z)
 sub:=λa h=>n.sub a (m.sub a h)
 new:=λa h=>by
  rcases n.new a h with z|z|z
  .show m.new a z
  .rcases m.roots a z with z|z
   .show .inr (.inl z)
   .show .inr (.inr z)
  .show .inr (.inr (m.none z))
def fY.rt(hk:k.root=bD)(h:fY C S H k u v):∃r,v=.ref r/\¬S r/\¬C.LX r/\(C.H₀ r=b8\/C.IO r)/\da C S H r u:=by
 cases k with
 |own=>have⟨r,a,b,c,d,e⟩:=h;show⟨r,a,b,c,.inl d,e⟩
 |io=>have⟨r,a,b,c,d,e⟩:=h;show⟨r,a,b,c,.inr d,e⟩
 |_=>cases hk
theorem dF.mem:∀{us:List U}{as:List d7}{a:d7},dF C S H us as->a∈as->∃vs,H a=a5 (.lst vs)
 |[],as,a,h,ha=>by cases h;cases ha
 |u::us,as,a,h,ha=>by
  obtain⟨a',as',d,vs,rfl,_,b,_,c⟩:=h;rcases d4.mp ha with rfl|ha
  .show⟨vs,b⟩
  .show dF.mem c ha
theorem dF.mv(m:Mv S H S' H'):∀{us:List U}{as:List d7},(∀a∈as,∀o,H a=a5 o->H' a=a5 o)->dF C S H us as->dF C S' H' us as
 |[],as,_,h=>h
 |u::us,as,b,h=>by
  have⟨a,as',c,vs,rfl,e,d,f,g⟩:=h;show⟨a,as',c,vs,rfl,e,b a (by simp) _ d,f.mv m,dF.mv m (λa i=>b a (by simp[i])) g⟩
def cM.fr(h:cM C S H r as u):∀a∈r::as,¬S a/\¬C.LX a/\C.H₀ a=b8:=by
 cases u<;>first|show h.elim|(obtain⟨kvs,_,_,_,_,b,_⟩:=h;show b)
def cM.there(h:cM C S H r as u):∀a∈r::as,∃o,H a=a5 o/\¬Tp o:=by
 cases u<;>first|show h.elim|skip
 obtain⟨kvs,b,_,_,_,_,c⟩:=h;intro a ha;rcases d4.mp ha with rfl|ha
 .show⟨_,b,λz=>z⟩
 .have⟨vs,e⟩:=c.mem ha;show⟨_,e,λz=>z⟩
def cM.mv(m:Mv S H S' H')(c:∀a∈r::as,¬S' a/\∀o,H a=a5 o->H' a=a5 o)(h:cM C S H r as u):cM C S' H' r as u:=by
 cases u<;>first|show h.elim|skip
 have⟨kvs,d,e,f,g,i,j⟩:=h;show⟨kvs,(c r (by simp)).2 _ d,e,f,g,λa b=>⟨(c a b).1,(i a b).2⟩,j.mv m λa b=>(c a (by simp[b])).2⟩
def Mo.of(d:Mo C c)(hk:e.kid=c.kid)(p:∀(j:Nat) (u:U),e.st[j]?=a5 (a5 (.Je,u))->c.st[j]?=a5 (a5 (.Je,u))/\e.σ[j]?=c.σ[j]?)(s:∀a,e.R1 a->c.R1 a\/∀j,¬c.RD j a)
  (m:Mv c.S c.H e.S e.H) (t:∀j a,c.RD j a->¬e.S a/\∀o,c.H a=a5 o->e.H a=a5 o):Mo C e:=by
 have b:∀j a,e.RD j a->c.RD j a:=λj a v=>by
  have⟨u,r,k,f,q⟩:=v;have⟨g,l⟩:=p j u k;rw[l]at f;rw[hk]at q;show⟨u,r,g,f,q⟩
 show⟨λj u r k f=>?_,λi j a h n=>d.dj i j a (b i a h) (b j a n),λj a h n=>?_⟩
 .have⟨g,l⟩:=p j u k;rw[l]at f;rw[hk];show cM.mv m (λa w=>t j a ⟨u,r,g,f,d4.mp w⟩) (d.kd j u r g f)
 .rcases s a n with z|z
  .show d.d1 j a (b j a h) z
  .show z j (b j a h)
def Mo.hs(d:Mo C c)(m:Mv c.S c.H S' H')(b:∀j a,c.RD j a->¬S' a/\∀o,c.H a=a5 o->H' a=a5 o):Mo C {c with H:=H',S:=S' } :=
 d.of rfl (λ_ _ e=>⟨e,rfl⟩) (λ_ z=>.inl z) m b
def Ok.root(f:Ok C c)(h:c.R r):¬c.S r/\¬C.LX r/\(C.H₀ r=b8\/C.IO r)/\∃o,c.H r=a5 o/\¬Tp o:=by
 rcases h with⟨j,k,u,hk,b,d⟩|⟨j,u,g,b,d,a⟩
 .have⟨v,e,hs⟩:=f.sl j _ _ b;have⟨g,ev,a,l,m,n⟩:=hs.rt hk;rw[d]at e;cases e;cases ev;show⟨a,l,m,n.some⟩
 .have i:=f.dd.kd j u g b d;have⟨p,q,s⟩:=cM.fr i r (d4.mpr a);show⟨p,q,.inl s,cM.there i r (d4.mpr a)⟩
def Ok.mv(b:Ok C c)(n:Ns c d):Mv c.S c.H d.S d.H:=⟨n.sub,λa o h t=>n.keep a o h λz=>by
  obtain⟨_,_,_,f,h',e⟩:=b.root z;rw[h]at h';cases h';show e t,λa o s h=>n.keep a o h λz=>(b.root z).1 s⟩
def Ok.NB(b:Ok C c)(n:Ns c d):Mv (PS C c.S) c.H (PS C d.S) d.H:=⟨λa h=>h.imp id (n.sub a),(b.mv n).Pu,λa o s h=>n.keep a o h λz=>by
  rcases s with s|s
  .show(b.root z).2.1 s
  .show(b.root z).1 s⟩
def Ok.ll(a:Ok C c)(h:c.H p=b8):C.H₀ p=b8/\¬c.S p/\¬C.LX p/\¬C.IO p/\¬c.R p:=by
 have b:¬C.IO p:=λz=>by obtain⟨_,o,q⟩:=a.io p z;rw[h]at q;cases q
 have d:C.H₀ p=b8:=by
  cases e:C.H₀ p with
  |none=>rfl
  |some o=>have:=a.same p o e b;rw[h]at this;cases this
 show⟨d,λz=>?_,λz=>?_,b,λz=>?_⟩
 .obtain⟨_,o,q⟩:=a.Lu p z;rw[h]at q;cases q
 .obtain⟨⟨o,q⟩,_⟩:=a.par p z;rw[d]at q;cases q
 .obtain⟨_,_,_,o,q,_⟩:=a.root z;rw[h]at q;cases q
def fY.mv(m:Mv S H S' H')(i:Mv (PS C S) H (PS C S') H')(g:k.root=bD->∀r,v=.ref r->¬S' r/\∀o,H r=a5 o->H' r=a5 o)(h:fY C S H k u v):fY C S' H' k u v:=by
 cases k with
 |own =>
  have⟨r,e,l,a,b,c⟩:=h;have⟨d,f⟩:=g rfl r e;show⟨r,e,d,a,b,c.mv m f⟩
 |io =>
  have⟨r,e,l,a,b,c⟩:=h;have⟨d,f⟩:=g rfl r e;show⟨r,e,d,a,b,c.mv m f⟩
 |loc=>show Rep.mv m h
 |any=>show Rep.mv i h
 |bor j=>show h.elim
 |Je=>show h
structure Nx(c c':Cf):Prop extends Ns c c' where
instance {c a:Cf}:Coe (Nx c a) (Ns c a):=⟨Nx.toNs⟩
def Nx.refl(c:Cf):Nx c c:=⟨.refl c⟩
def Nx.trans(m:Nx c a)(n:Nx a b):Nx c b:=⟨m.toNs.trans n.toNs⟩
def Nx.none(n:Nx c b)(h:b.H a=.none):c.H a=.none:=n.toNs.none h
def Ok.lay(d:Ok C c)(h:c.H p=b8):Ok C {c with H:=upd c.H p o}/\Nx c {c with H:=upd c.H p o}:=by
 have ne:∀{a:d7} {b:HO},c.H a=a5 b->a≠p:=λe z=>by subst z;rw[h]at e;cases e
 have f:∀a b,c.H a=a5 b->(upd c.H p o) a=a5 b:=λa b e=>by rw[av (ne e)];show e
 have nx:Nx c {c with H:=upd c.H p o}:=⟨⟨λa b e _=>f a b e,λa b e=>⟨b,f a b e⟩,λa z=>.inl z,λ_ z=>z,λ_ z=>.inl z⟩⟩
 show⟨⟨λa b e z=>f a b (d.same a b e z),λa z=>⟨(d.Lu a z).1,let ⟨b,q⟩:=(d.Lu a z).2;⟨b,f a b q⟩⟩,d.par,λa z=>⟨(d.io a z).1,let ⟨b,q⟩:=(d.io a z).2;⟨b,f a b q⟩⟩,d.len,λi k u e=>?_,d.inj,d.dd.hs (d.mv nx.toNs) λj a z=>⟨(d.root (.inr ⟨j,z⟩)).1,λb e=>f a b e⟩⟩,nx⟩;have⟨v,m,g⟩:=d.sl i k u e;show⟨v,m,g.mv (d.mv nx.toNs) (d.NB nx.toNs) λhk r n=>?_⟩;obtain⟨t,l,s,_⟩:=g.rt hk;rw[n]at l;cases l;show⟨s,λb e=>f r b e⟩
def Ok.grow(d:Ok C c)(hs:oG c.H H')(h:∀a,S' a->c.S a\/(c.H a=b8/\∃o,H' a=a5 o))(s:∀a,c.S a->S' a):Ok C {c with H:=H',S:=S' }/\Nx c {c with H:=H',S:=S' }:=by
 have nx:Nx c {c with H:=H',S:=S' }:=⟨⟨λa b e _=>hs a b e,λa b e=>⟨b,hs a b e⟩,λa z=>.inl z,s,λa z=>(h a z).imp id λq=>.inr q.1⟩⟩
 show⟨⟨λa b e z=>hs a b (d.same a b e z),λa z=>?_,d.par,λa z=>⟨(d.io a z).1,let ⟨b,q⟩:=(d.io a z).2;⟨b,hs a b q⟩⟩,d.len,λi k u e=>?_,d.inj,d.dd.hs (d.mv nx.toNs) λj a z=>⟨λf=>?_,λb e=>hs a b e⟩⟩,nx⟩
 rotate_left 2
 .obtain⟨g,_,_,o,l,_⟩:=d.root (.inr ⟨j,z⟩);rcases h a f with f|⟨f,_⟩
  .show g f
  .rw[l]at f;cases f
 .rcases h a z with q|⟨g,m⟩
  .show⟨(d.Lu a q).1,let ⟨b,q⟩:=(d.Lu a q).2;⟨b,hs a b q⟩⟩
  .show⟨(d.ll g).1,m⟩
 .have⟨v,t,n⟩:=d.sl i k u e;show⟨v,t,n.mv (d.mv nx.toNs) (d.NB nx.toNs) λhk r w=>?_⟩;have⟨x,p,g,m,y,l⟩:=n.rt hk;rw[w]at p;cases p;obtain⟨o,ho,_⟩:=l.some;show⟨λz=>?_,λb e=>hs r b e⟩;rcases h r z with z|⟨z,_⟩
  .show g z
  .rw[z]at ho;cases ho
def aS(C:Ct)(a c:Cf):Kd->U->V->Prop
 |.own,u,v=>∃r,v=.ref r/\a.H r=b8/\¬c.S r/\¬c.R r/\da C c.S c.H r u
 |.loc,u,v=>Rep C c.S c.H u v
 |.any,u,v=>Rep C (PS C c.S) c.H u v
 |.bor j,u,v=>(∃k:Kd,k.root=bD/\c.st[j]?=a5 (a5 (k,u)))/\c.σ[j]?=a5 (a5 v)
 |.io,_,_=>False
 |.Je,_,_=>False
def fZ(C:Ct)(a c:Cf):Kd->U->V->Prop
 |.own,u,v=>∃r,v=.ref r/\a.H r=b8/\¬c.S r/\¬c.R r/\da C c.S c.H r u
 |.loc,u,v=>Rep C c.S c.H u v
 |.any,u,v=>Rep C (PS C c.S) c.H u v
 |.bor j,u,v=>c.σ[j]?=a5 (a5 v)
 |.io,_,_=>False
 |.Je,_,_=>False
def aS.w(h:aS C a c k u v):fZ C a c k u v:=by
 cases k with
 |bor j=>show h.2
 |_=>show h
def fZ.VM(a:Ok C c)(n:Ns c b)(g:∀j,k=.bor j->b.σ[j]?=c.σ[j]?)(h:fZ C i c k u v):fZ C i b k u v:=by
 cases k with
 |own =>
  have⟨r,e,l,m,d,f⟩:=h;obtain⟨o,ho,_⟩:=f.some;show⟨r,e,l,λz=>?_,λz=>?_,f.mv (a.mv n) λo q=>n.keep r o q d⟩
  .rcases n.new r z with z|z|z
   .show m z
   .show d z
   .rw[z]at ho;cases ho
  .rcases n.roots r z with z|z
   .show d z
   .rw[z]at ho;cases ho
 |loc=>show Rep.mv (a.mv n) h
 |any=>show Rep.mv (a.NB n) h
 |bor j=>change b.σ[j]?=_;rw[g j rfl];show h
 |_=>show h
def fZ.on(b:Ok C c)(n:Ns c a)(d:a.σ=c.σ)(h:fZ C e c k u v):fZ C e a k u v:=h.VM b n λj _=>by rw[d]
def fZ.from(n:Ns a b)(h:fZ C b c k u v):fZ C a c k u v:=by
 cases k with
 |own=>have⟨r,e,d,f⟩:=h;show⟨r,e,n.none d,f⟩
 |_=>show h
def aS.from(n:Ns a b)(h:aS C b c k u v):aS C a c k u v:=by
 cases k with
 |own=>have⟨r,e,d,f⟩:=h;show⟨r,e,n.none d,f⟩
 |_=>show h
def SK(C:Ct)(c:Cf):Kd->d7->Prop
 |.any=>PS C c.S
 |_=>c.S
abbrev kE:Kd->Kd
 |.any=>.any
 |_=>.loc
def Ok.rootOf(b:Ok C c){j:Nat}(h:∃k:Kd,k.root=bD/\c.st[j]?=a5 (a5 (k,u)))(e:c.σ[j]?=a5 (a5 v)):∃r,v=.ref r/\¬c.S r/\¬C.LX r/\(C.H₀ r=b8\/C.IO r)/\da C c.S c.H r u:=by
 have⟨k,hk,h⟩:=h;have⟨f,a,d⟩:=b.sl j _ _ h;rw[e]at a;cases a;show d.rt hk
def aS.list(f:Ok C c)(h:aS C g c k (.lst us) v):∃a vs,v=.ref a/\JN C.K c.H a vs/\au C (SK C c k) c.H us vs:=by
 cases k with
 |own=>obtain⟨r,e,_,_,_,vs,b,d⟩:=h;show⟨r,vs,e,JN.of b,d⟩
 |bor j=>obtain⟨r,e,_,_,_,vs,b,d⟩:=f.rootOf h.1 h.2;show⟨r,vs,e,JN.of b,d⟩
 |io=>show h.elim
 |Je=>show h.elim
 |_=>have⟨a,vs,e,b,d⟩:=h;show⟨a,vs,e,b.sq,d⟩
def aS.tuple(b:Ok C c)(h:aS C g c k (.tup us) v):∃a vs,v=.ref a/\JY C.K c.H a vs/\au C (SK C c k) c.H us vs:=by
 cases k with
 |own=>obtain⟨r,e,_,_,_,h⟩:=h;show h.elim
 |bor j=>obtain⟨r,e,_,_,_,h⟩:=b.rootOf h.1 h.2;show h.elim
 |io=>show h.elim
 |Je=>show h.elim
 |_=>have⟨a,vs,e,d,f⟩:=h;show⟨a,vs,e,d,f⟩
def aS.flat(b:Ok C c)(a:JG u=bD)(h:aS C d c k u v):Rep C c.S c.H u v:=by
 cases k with
 |own=>obtain⟨r,e,_,_,_,h⟩:=h;cases u<;>simp[JG]at a<;>show h.elim
 |loc=>show h
 |any=>show Rep.JG a h
 |bor j=>obtain⟨r,e,_,_,_,h⟩:=b.rootOf h.1 h.2;cases u<;>simp[JG]at a<;>show h.elim
 |_=>show h.elim
def aS.int(a:Ok C c)(h:aS C b c k (.int i) v):v=.int i:=h.flat a rfl
def aS.str(a:Ok C c)(h:aS C b c k (.str x) v):v=.str x:=h.flat a rfl
def aS.bl(a:Ok C c)(h:aS C d c k (.bl b) v):v=.bl b:=h.flat a rfl
def aS.Jm(a:Ok C c)(h:aS C b c k .Jm v):v=.Jm:=h.flat a rfl
def aS.item(h:Rep C (SK C c k) c.H u v):aS C a c (kE k) u v:=by
 cases k<;>show h
abbrev KJ(H:Hp):d7->Prop:=λa=>∃o,H a=a5 o
def Ok.yk(b:Ok C c):∀a,c.S a->KJ c.H a:=λa h=>(b.Lu a h).2
def Ok.Gw(b:Ok C c):∀a,PS C c.S a->KJ c.H a:=λa h=>by
 rcases h with h|h
 .obtain⟨⟨o,e⟩,n⟩:=b.par a h;show⟨o,b.same a o e n⟩
 .show b.yk a h
def aS.read(a:Ok C c)(h:aS C d c k u v):Rep C (KJ c.H) c.H u v:=by
 cases k with
 |own =>
  obtain⟨r,e,_,_,_,b⟩:=h;rw[e];obtain⟨o,ho,_⟩:=b.some;show b.rep a.yk ⟨o,ho⟩
 |loc=>show Rep.mv (.up a.yk) h
 |any=>show Rep.mv (.up a.Gw) h
 |bor j =>
  obtain⟨r,e,_,_,_,b⟩:=a.rootOf h.1 h.2;rw[e];obtain⟨o,ho,_⟩:=b.some;show b.rep a.yk ⟨o,ho⟩
 |_=>show h.elim
def Ok.newList(a:Ok C c)(n:Nx b c)(h:c.H p=b8)(e:au C c.S c.H us vs):
  Ok C {c with H:=upd c.H p (.lst vs)}/\Nx b {c with H:=upd c.H p (.lst vs)}/\aS C b {c with H:=upd c.H p (.lst vs)} .own (.lst us) (.ref p):=by
 have⟨f,d⟩:=a.lay (o:=.lst vs) h;have⟨j,g,k,l,i⟩:=a.ll h;show⟨f,n.trans d,p,rfl,n.none h,g,i,vs,aB,e.mv (a.mv d.toNs)⟩
def Ok.D_(a:Ok C c)(n:Nx b c)(h:c.H p=b8)(e:au C c.S c.H us vs):
  Ok C {c with H:=upd c.H p (.tup vs)}/\Nx b {c with H:=upd c.H p (.tup vs)}/\aS C b {c with H:=upd c.H p (.tup vs)} .loc (.tup us) (.ref p):=by
 have⟨f,d⟩:=a.lay (o:=.tup vs) h;show⟨f,n.trans d,p,vs,rfl,JY.of aB,e.mv (a.mv d.toNs)⟩
end
inductive Ex(α:Type) where|ok (a:α)|exc (c:Str)
abbrev M(α:Type):=ay->Option (Ex α×ay)
namespace M
abbrev pure(a:α):M α:=λst=>a5 (.ok a,st)
abbrev fail:M α:=λ_=>b8
abbrev bind(m:M α)(f:α->M β):M β:=λst=>match m st with
 |none=>b8
 |some (.ok a,st')=>f a st'
 |some (.exc c,st')=>a5 (.exc c,st')
abbrev Jt(o:Option α):M α:=λst=>match o with
 |none=>b8
 |some a=>a5 (.ok a,st)
end M
noncomputable instance:Monad M:={pure:=M.pure,bind:=M.bind}
abbrev W{α:Type}(m:M α)(st:ay)(Q:α->ay->Prop):Prop:=∃a st',m st=a5 (.ok a,st')/\Q a st'
section
def ao:W (pure a) st Q↔Q a st:=by
 constructor
 .rintro⟨b,st',e,h⟩;cases e;show h
 .intro h;show⟨a,st,rfl,h⟩
def ah:W (m >>= f) st Q↔W m st λa st'=>W (f a) st' Q:=by
 constructor
 .rintro⟨b,st',e,h⟩;have d:M.bind m f st=a5 (.ok b,st'):=e;unfold M.bind at d;cases q:m st with
  |none=>rw[q]at d;cases d
  |some r =>
   have⟨r,s1⟩:=r;rw[q]at d;cases r with
   |ok a=>show⟨a,s1,q,b,st',d,h⟩
   |exc c=>cases d
 .rintro⟨a,s1,q,b,st',e,h⟩;show⟨b,st',?_,h⟩;change M.bind m f st=_;unfold M.bind;rw[q];show e
def bJ:W (M.Jt o) st Q↔∃a,o=a5 a/\Q a st:=by
 cases o with
 |none=>show⟨λ⟨_,_,e,_⟩=>(by cases e),λ⟨_,e,_⟩=>(by cases e)⟩
 |some a=>show⟨λ⟨_,_,e,h⟩=>(by cases e;show⟨a,rfl,h⟩),λ⟨_,e,h⟩=>(by cases e;show⟨a,st,rfl,h⟩)⟩
def bp:W (M.fail:M α) st Q↔False:=⟨λ⟨_,_,e,_⟩=>(by cases e),ME⟩
def W.mono(h:W m st Q)(i:∀a s,Q a s->Q' a s):W m st Q':=let ⟨a,s,e,q⟩:=h;⟨a,s,e,i a s q⟩
end
inductive RA where|add|sub|mul|OI|mod|pow
deriving DecidableEq
inductive OJ where|eq|ne|lt|le|gt|ge|isin|Jh|is|T5
deriving DecidableEq
inductive Bf where|len|sorted|list|tuple|str|int|repr|max|min|all|any
deriving DecidableEq
inductive B2 where|MW|Lc|sset|kQ
deriving DecidableEq
inductive Mf where|split|join|partition|endswith
deriving DecidableEq
inductive Lz where|str|list|tuple|int|bool
deriving DecidableEq
inductive Ik where|seq|Kj|Yc|OK|zip|rev
deriving DecidableEq
inductive E where
 |var (i:Nat)
 |cst (u:U)
 |RB (x:Str) (u:U)
 |bin (op:RA) (a b:E)
 |cmp (op:OJ) (a b:E)
 |MX (o1 o2:OJ) (a b c:E)
 |and (es:List E)|or (es:List E)|not (a:E)
 |ite (c a b:E)
 |tup (es:List E)|lst (es:List E)|KZ (r:Bool)
 |idx (a b:E)
 |Nh (a:E) (lo hi:List E)
 |bi (f:Bf) (es:List E)
 |Ni (f:B2) (es:List E)
 |N5 (m:Mf) (a:E) (es:List E)
 |call (f:Str) (es:List E)
 |comp (k:Nat) (t:Bool) (ik:Ik) (src:List E) (cond:List E) (e:E)
 |neg (a:E)|bad|MA (a:E) (T:Lz)|fst (es:List E)|inD (neg:Bool) (a:E) (i:Nat)|Pw (i:Nat)|LY (i:Nat) (k d:E)|Px (i:Nat)|N6 (ln:Bool) (a b:E)
 |Jf (f:Str) (es:List E) (is:List Nat)
 |pop (i:Nat)|Le (i:Nat) (e:E)
 |Kx (a:E) (D:Str) (tb:List (Str×Bool))|NC (ix:Bool) (i:Nat) (b:Bool)
inductive RE where
 |call (f:Str) (es:List E)
 |arg (f:Str) (r:RE)
 |cmp (op:OJ) (r:RE) (e:E)
inductive S where
 |set (i:Nat) (e:E)
 |ND (is:List Nat) (e:E)
 |put (i:Nat) (k v:E)
 |app (i:Nat) (e:E)|ext (i:Nat) (e:E)|bad|newD (i:Nat)|putD (i:Nat) (k v:E)|LA (i:Nat) (k v:E)|aug (sub:Bool) (i:Nat) (k v:E)|RC (i:Nat)
 |exp (e:E)
 |ret (e:E)|Mp
 |ite (c:E) (a b:List S)
 |Jy (t:Bool) (is:List Nat) (ik:Ik) (src:List E) (body:List S)
 |N7 (c:E) (body:List S)
 |brk|cnt|RF
 |Mq (is:List Nat)
 |Nj (c:Str) (e:E)
 |Nk (f:Str) (es:List E)|Nl (i:Nat) (c:List E) (f:Str) (es:List E) (g:Str) (KW:List E) (x:Str) (cs:List Str) (j k:Nat)
 |K3 (r:RE)
 |K4 (ng:Bool) (f:Str) (es:List E) (a b:List S)
 |ins (i:Nat) (k v:E)
abbrev isAny:Kd->Bool
 |.any=>bD
 |_=>cc
abbrev dQ(k:Kd)(xs:List U):Bool:=!isAny k||cT xs
abbrev kT(k k':Kd):Kd:=if isAny k||isAny k' then .any else .loc
abbrev cut{α:Type}(xs:List α)(lo a:Option Int):List α:=(xs.drop (HT.Lo xs.length 0 lo)).take (HT.Lo xs.length xs.length a - HT.Lo xs.length 0 lo)
abbrev yl:Kd×U->Kd×U->Option (Kd×U)
 |(_,.int i),(_,.int j)=>a5 (.loc,.int (i+j))
 |(_,.str x),(_,.str y)=>if x.length+y.length<=cL then a5 (.loc,.str (x++y)) else b8
 |(k,.lst xs),(k',.lst a)=>if xs.length+a.length<=cL/\dQ k xs=bD/\dQ k' a=bD then a5 (.own,.lst (xs++a)) else b8
 |(k,.tup xs),(k',.tup a)=>if xs.length+a.length<=cL then a5 (kT k k',.tup (xs++a)) else b8
 |_,_=>b8
abbrev si(f:Int->Int->Option Int):U->U->Option (Kd×U)
 |.int i,.int j=>(f i j).map λn=>(.loc,.int n)
 |_,_=>b8
abbrev AZ(i j:Int):Option Int:=if ((-(2 ^ 64)<i/\i<2 ^ 64)\/(-(2 ^ 64)<j/\j<2 ^ 64)) then a5 (i * j) else b8
abbrev A0(i j:Int):Option Int:=if 0<j/\j<1073741824 then a5 (i / j) else b8
abbrev A4(i j:Int):Option Int:=if 0<j then a5 (i % j) else b8
abbrev A5(i j:Int):Option Int:=if 0<=j/\j<=1000000/\i.natAbs<2 ^ 64 then a5 (i ^ j.toNat) else b8
abbrev Md(a:RA)(x y:Kd×U):Option (Kd×U):=match a with
 |.add=>yl x y
 |.sub=>si (λi j=>a5 (i - j)) x.2 y.2
 |.mul=>si AZ x.2 y.2
 |.OI=>si A0 x.2 y.2
 |.mod=>si A4 x.2 y.2
 |.pow=>si A5 x.2 y.2
mutual
noncomputable def Ky:Nat->U->Bool
 |_,.Ji _ _=>cc
 |_,.exc _=>cc
 |0,.tup _=>cc
 |0,.lst _=>cc
 |n+1,.tup xs=>eV n xs
 |n+1,.lst xs=>eV n xs
 |_,.Jm=>bD|_,.bl _=>bD|_,.int _=>bD|_,.str _=>bD
noncomputable def eV:Nat->List U->Bool
 |_,[]=>bD
 |n,u::us=>Ky n u&&eV n us
end
mutual
noncomputable def cP:U->U->Bool
 |.Jm,.Jm=>bD
 |.bl a,.bl b=>a==b
 |.bl a,.int b=>(if a then 1 else 0)==b
 |.int a,.bl b=>a==(if b then 1 else 0)
 |.int a,.int b=>a==b
 |.str a,.str b=>a==b
 |.tup xs,.tup c=>dc xs c
 |.lst xs,.lst c=>dc xs c
 |_,_=>cc
noncomputable def dc:List U->List U->Bool
 |[],[]=>bD
 |u::us,w::ws=>cP u w&&dc us ws
 |_,_=>cc
end
abbrev OL(x:U)(a:List U):Option Bool:=if Ky 50 x=bD/\eV 50 a=bD then a5 (a.any λy=>cP y x) else b8
abbrev strsOf:List U->Option (List Str)
 |[]=>a5 []
 |.str x::us=>(strsOf us).map (x::·)
 |_::_=>b8
abbrev ym:U->U->Option Bool
 |x,.lst a=>OL x a
 |x,.tup a=>OL x a
 |.str x,.Ji ks _=>a5 (cK (x∈ks))
 |_,_=>b8
abbrev d0:List Str->List U->Str->Option U
 |y::ks,u::us,x=>if y=x then a5 u else d0 ks us x
 |_,_,_=>b8
abbrev dput(ks:List Str)(us:List U)(x:Str)(u:U):List Str×List U :=
 if x∈ks then(ks,(ks.zip us).map λp=>if p.1=x then u else p.2) else(ks++[x],us++[u])
abbrev lp:U->Bool
 |.Jm=>bD
 |_=>cc
abbrev yn(f:Int->Int->Bool):U->U->Option Bool
 |.int i,.int j=>a5 (f i j)
 |_,_=>b8
abbrev bN:OJ->U->U->Option Bool
 |.eq,a,b=>if Ky 50 a=bD/\Ky 50 b=bD then a5 (cP a b) else b8
 |.ne,a,b=>if Ky 50 a=bD/\Ky 50 b=bD then a5 (!cP a b) else b8
 |.lt,a,b=>yn (λi j=>cK (i<j)) a b
 |.gt,a,b=>yn (λi j=>cK (j<i)) a b
 |.ge,a,b=>yn (λi j=>cK (j<=i)) a b
 |.isin,a,b=>ym a b
 |.Jh,a,b=>(ym a b).map (!·)
 |.is,a,b=>if lp b=bD then a5 (lp a) else b8
 |_,_,_=>b8
abbrev gP:List U->Option (List Bool)
 |[]=>a5 []
 |.bl x::us=>(gP us).map (x::·)
 |_::_=>b8
abbrev h_:Kd×U->U->Option (Kd×U)
 |(k,.lst xs),.int i=>(J9 xs i).map λu=>(kE k,u)
 |(k,.tup xs),.int i=>(J9 xs i).map λu=>(kE k,u)
 |(_,.str x),.int i=>if x.length<=cL then(J9 x.cps.toList i).map λc=>(.loc,.str ⟨#[c]⟩) else b8
 |_,_=>b8
abbrev qq:Kd×U->Option Int->Option Int->Option (Kd×U)
 |(k,.lst xs),lo,a=>if dQ k xs=bD then a5 (.own,.lst (cut xs lo a)) else b8
 |(_,.str x),lo,a=>if x.length<=cL then a5 (.loc,.str (PySem.StrLaws.sliceText x lo a)) else b8
 |_,_,_=>b8
abbrev Ea:U->Option Nat
 |.lst xs=>a5 xs.length
 |.tup xs=>a5 xs.length
 |.str x=>if x.length<=cL then a5 x.length else b8
 |_=>b8
abbrev iQ{β:Type}(f:Kd×U->Option β):List (Kd×U)->Option β
 |[x]=>f x
 |_=>b8
abbrev intsOf:List U->Option (List Int)
 |[]=>a5 []
 |.int x::us=>(intsOf us).map (x::·)
 |_::_=>b8
abbrev Eb:Kd×U->Option (Kd×U)
 |(_,.lst xs)=>(strsOf xs).bind λss=>if ss.length<64 then a5 (.own,.lst ((aH ss).map .str)) else b8
 |(_,.Ji ks _)=>if ks.length<64 then a5 (.own,.lst ((aH ks).map .str)) else b8
 |(_,.tup xs)=>(strsOf xs).bind λss=>if ss.length<64 then a5 (.own,.lst ((aH ss).map .str)) else b8
 |_=>b8
abbrev Ec:Kd×U->Option (Kd×U)
 |(k,.lst xs)=>if dQ k xs=bD then a5 (.own,.lst xs) else b8
 |(k,.tup xs)=>if dQ k xs=bD then a5 (.own,.lst xs) else b8
 |_=>b8
abbrev Ed:Kd×U->Option (Kd×U)
 |(k,.lst xs)=>a5 (kE k,.tup xs)
 |(k,.tup xs)=>a5 (kE k,.tup xs)
 |_=>b8
abbrev A6:Kd×U->Option (Kd×U)
 |(_,.int i)=>if i.natAbs.log2<1920 then a5 (.loc,.str (S0 i)) else b8
 |_=>b8
abbrev Ee:Kd×U->Option (Kd×U)
 |(_,.lst xs)=>(gP xs).map λbs=>(.loc,.bl (bs.all id))
 |_=>b8
abbrev Lf(f:Bf)(rs:List (Kd×U)):Option (Kd×U):=match f with
 |.len=>iQ (λx=>(Ea x.2).map λ(n:Nat)=>(Kd.loc,U.int (n:Int))) rs
 |.sorted=>iQ Eb rs
 |.list=>iQ Ec rs
 |.tuple=>iQ Ed rs
 |.str=>iQ A6 rs
 |.all=>iQ Ee rs
 |_=>b8
abbrev ia:U->Option (List Str)
 |.lst xs=>(strsOf xs).bind λss=>if ss.length+1<x3 then a5 (aD ss) else b8
 |.tup xs=>(strsOf xs).bind λss=>if ss.length+1<x3 then a5 (aD ss) else b8
 |_=>b8
abbrev Ef:Kd×U->Option (Kd×U)
 |(k,.lst xs)=>if dQ k xs=bD then a5 (.own,.lst xs.reverse) else b8
 |_=>b8
abbrev sj(f:B2)(rs:List (Kd×U)):Option (Kd×U):=match f with
 |.MW=>b8
 |.Lc=>iQ Ef rs
 |.sset=>iQ (λx=>(ia x.2).bind λss=>if ss.length<64 then a5 (.own,.lst ((aH ss).map .str)) else b8) rs
 |.kQ=>b8
abbrev mJ:Mf->U->List (Kd×U)->Option (Kd×U)
 |.join,.str a,[(_,.lst xs)]=>(strsOf xs).bind λss=>if ø a ss=bD then a5 (.loc,.str (TY a ss)) else b8
 |_,_,_=>b8
abbrev IM:Kd×U->Option (List (Kd×U))
 |(k,.lst xs)=>a5 (xs.map λu=>(kE k,u))
 |(k,.tup xs)=>a5 (xs.map λu=>(kE k,u))
 |_=>b8
abbrev yo:Kd×U->Option (List (Kd×U))
 |(_,.int n)=>if n<2 ^ 62/\-(2 ^ 62)<n then a5 ((fx n.toNat).map λi:Nat=>(Kd.loc,U.int (0+(i:Int)))) else b8
 |_=>b8
abbrev Eg:Kd×U->Option (List (Kd×U))
 |(k,.lst xs)=>a5 (xs.zipIdx.map λp=>(kE k,.tup [.int p.2,p.1]))
 |(k,.tup xs)=>a5 (xs.zipIdx.map λp=>(kE k,.tup [.int p.2,p.1]))
 |_=>b8
abbrev KU(a:Ik)(rs:List (Kd×U)):Option (List (Kd×U)):=match a with
 |.seq=>iQ IM rs
 |.Kj=>iQ yo rs
 |.OK=>iQ Eg rs
 |_=>b8
abbrev A7(ps:List (Str×Int)):List (Str×Int):=(j7 (ps.map (·.1))).map λi=>ps.getD i (ti,0)
abbrev v_(p:Str×Int):U:=.tup [.str p.1,.int p.2]
abbrev yp:U->Option (Kd×U)
 |.Ji ks us=>(intsOf us).bind λns=>if ks.length<64/\ks.Nodup/\ks.length=ns.length then a5 (.own,.lst ((A7 (ks.zip ns)).map v_)) else b8
 |_=>b8
abbrev qr(ln:Bool)(a b:List Str):Option (Kd×U):=if a.length<64/\b.length<64 then a5 (if ln=bD then(.loc,.int ((a.filter λx=>cK (x∉b)).length:Nat)) else(.own,.lst ((aH (a.filter λx=>cK (x∉b))).map .str))) else b8
abbrev wa:U->Option Bool
 |.bl b=>a5 b
 |.lst xs=>a5 !xs.isEmpty
 |.tup xs=>a5 !xs.isEmpty
 |.str x=>if x.length<=cL then a5 ((x.length:Int) != 0) else b8
 |_=>b8
abbrev lift:Kd×U->M U
 |(.own,u)=>pure u
 |(.loc,u)=>pure u
 |(.any,u)=>if JG u=bD then pure u else M.fail
 |(.bor j,_)=>λst=>match st[j]? with
  |some (a5 (.own,u))=>a5 (.ok u,st.set j (a5 (.loc,u)))
  |_=>b8
 |(.io,_)=>M.fail
 |(.Je,_)=>M.fail
abbrev de:List (Kd×U)->M (List U)
 |[]=>pure []
 |r::rs=>do let u <-lift r;let us <-de rs;pure (u::us)
abbrev dG(i:Nat):Kd×U->M Unit
 |(.bor j,_)=>λst=>match st[j]? with
  |some (a5 (.own,u))=>a5 (.ok (),(st.set j (a5 (.loc,u))).set i (a5 (.loc,u)))
  |_=>b8
 |(.io,_)=>M.fail
 |(.Je,_)=>M.fail
 |(k,u)=>λst=>a5 (.ok (),st.set i (a5 (k,u)))
def aX:List (Kd×U)->ay->Prop
 |[],_=>True
 |(.bor j,u)::rs,st=>(∃k:Kd,k.root=bD/\st[j]?=a5 (a5 (k,u)))/\aX rs st
 |_::rs,st=>aX rs st
open Classical in
abbrev aC(rs:List (Kd×U)):M Unit:=λst=>if aX rs st then a5 (.ok (),st) else b8
@[reducible]def Tab:=Str->List U->Option (Ex (Kd×U))
abbrev lq(Γ:Tab)(f:Str)(us:List U):M (Kd×U):=λst=>match Γ f us with
 |some (.ok (.any,_))=>b8
 |none=>b8
 |some r=>a5 (r,st)
abbrev ib(rs:List (Kd×U))(p:Nat):Option Nat:=match rs[p]? with
 |some (.bor j,.lst us)=>if cT us=bD then a5 j else b8
 |_=>b8
abbrev qt(a:List (Option Nat)):Kd×U->Bool
 |(.bor j,_)=>cK (a5 j∉a)
 |_=>bD
abbrev qu(rs:List (Kd×U))(is:List Nat):Bool:=is.all (λp=>(ib rs p).isSome)&&cK ((is.map (ib rs)).Nodup)&&(fx rs.length).all λq=>cK (q∈is)||qt (is.map (ib rs)) (rs.getD q (.loc,.Jm))
abbrev gQ(rs:List (Kd×U)):List Nat->List U->ay->Option ay
 |[],[],st=>a5 st
 |p::is,w::ws,st=>match ib rs p with
  |some j=>match w,st[j]? with
   |.lst us,a5 (a5 (k,_))=>gQ rs is ws (st.set j (a5 (k,.lst us)))
   |_,_=>b8
  |none=>b8
 |_,_,_=>b8
abbrev T6:Kd×U->Option (Kd×U×List U)
 |(.own,.tup (u::ws))=>a5 (.own,u,ws)
 |(.loc,.tup (u::ws))=>a5 (.loc,u,ws)
 |_=>b8
abbrev eG(st:ay):Kd×U->Kd×U
 |(.bor j,u)=>(.bor j,match st[j]? with|some (a5 (k,u'))=>if k.root=bD then u' else u|_=>u)
 |r=>r
abbrev A8(rs:List (Kd×U)):M (List (Kd×U)):=λst=>a5 (.ok (rs.map (eG st)),st)
abbrev qv(Γ:Tab)(f:Str)(rs:List (Kd×U))(is:List Nat):M (Kd×U):=λst=>match Γ f (rs.map (·.2)) with
 |some (.ok r)=>match T6 r with
  |some (k,u,ws)=>if qu rs is=bD then(match gQ rs is ws st with|some st'=>a5 (.ok (k,u),st')|none=>b8) else b8
  |none=>b8
 |_=>b8
abbrev yq(i:Nat):M (Kd×U):=λst=>match st[i]? with
 |some (a5 (k,.lst us))=>if k.root=bD then(match us[us.length - 1]? with|some u=>a5 (.ok (.loc,u),st.set i (a5 (k,.lst us.dropLast)))|none=>b8) else b8
 |_=>b8
abbrev wb(i:Nat):U->M (Kd×U)
 |.int j=>λst=>match st[i]? with
  |some (a5 (k,.lst us))=>if k.root=bD/\0<=j/\j<1000000 then(match us[j.toNat]? with|some u=>a5 (.ok (.loc,u),st.set i (a5 (k,.lst (us.eraseIdx j.toNat))))|none=>b8) else b8
  |_=>b8
 |_=>M.fail
abbrev dk(i:Nat):M (Kd×U):=λst=>match st[i]? with
 |some (a5 (.Je,_))=>b8
 |some (a5 (k,u))=>a5 (.ok (if k.root=bD then .bor i else k,u),st)
 |_=>b8
abbrev iR(i:Nat):M (List Str×List U):=λst=>match st[i]? with
 |some (a5 (.Je,.Ji ks us))=>a5 (.ok (ks,us),st)
 |_=>b8
abbrev j9(x:Kd×U):M Str:=match x.2 with
 |.str y=>pure y
 |_=>M.fail
abbrev T7(neg:Bool)(y:Str)(ks:List Str):Bool:=if neg=bD then !cK (y∈ks) else cK (y∈ks)
abbrev yr(i:Nat):M (Kd×U):=λst=>match st[i]? with
 |some (a5 (.Je,u))=>a5 (.ok (.bor i,u),st.set i (a5 (.own,u)))
 |_=>dk i st
abbrev CH(i:Nat):M Unit:=λst=>a5 (.ok (),st.set i (a5 (.Je,.Ji [] [])))
abbrev lr(i:Nat)(y:Str):Kd×U->M Unit
 |(.own,.lst us)=>λst=>match st[i]? with
  |some (a5 (.Je,.Ji ks vs))=>if y∉ks/\ks.length<cL then a5 (.ok (),st.set i (a5 (.Je,.Ji (ks++[y]) (vs++[.lst us])))) else b8
  |_=>b8
 |_=>M.fail
abbrev j_:List Str->List U->Str->U->List U
 |k::ks,v::vs,y,u=>if k=y then u::vs else v::j_ ks vs y u
 |_,vs,_,_=>vs
abbrev lu(i:Nat)(y:Str)(u:U):M Unit:=λst=>match st[i]? with
 |some (a5 (.Je,.Ji ks vs))=>match d0 ks vs y with
  |some (.lst xs)=>if xs.length<cL then a5 (.ok (),st.set i (a5 (.Je,.Ji ks (j_ ks vs y (.lst (xs++[u])))))) else b8
  |_=>b8
 |_=>b8
abbrev T8:U->M Unit
 |.Ji _ _=>pure ()
 |_=>M.fail
abbrev A9(x:Kd×U)(y:Str)(u:U):Option (Kd×U):=match x with
 |(k,.Ji ks us)=>a5 (match d0 ks us y with|some v=>(kE k,v)|none=>(.loc,u))
 |_=>b8
abbrev qw(i:Nat):M (List U):=λst=>match st[i]? with
 |some (a5 (k,.lst us))=>if k.root=bD then a5 (.ok us,st) else b8
 |_=>b8
abbrev wc(x:Kd×U):M Int:=match x.2 with
 |.int j=>pure j
 |_=>M.fail
abbrev qx(us:List U)(j:Int):Option Int:=if 0<=j then(match us[j.toNat]? with|some (.int o)=>a5 o|_=>b8) else b8
abbrev we(sub:Bool)(o w:Int):Int:=if sub=bD then o - w else o+w
abbrev IQ:U->Option U
 |.lst us=>a5 (.lst us.reverse)
 |_=>b8
abbrev sets:List Nat->List (Kd×U)->M Unit
 |[],[]=>pure ()
 |i::is,r::rs=>do dG i r;sets is rs
 |_,_=>M.fail
abbrev dR(t:Bool)(is:List Nat)(r:Kd×U):M Unit:=match t,is,r with
 |false,[i],r=>dG i r
 |true,is,(k,.tup xs)=>sets is (xs.map λu=>(kE k,u))
 |_,_,_=>M.fail
abbrev inScope{α:Type}(k:Nat)(m:M α):M α:=λst=>match m (i2 k b8++st) with
 |none=>b8
 |some (r,st')=>a5 (r,st'.drop k)
abbrev cv(k:Nat)(t:Bool)(cond:M Bool)(elt:M (Kd×U))(src:List (Kd×U)):List (Kd×U)->List U->M (List U)
 |[],acc=>do aC src;pure acc
 |x::xs,acc=>do
  aC src
  let r <-inScope k (dR t (fx k) x >>= λ_=>cond >>= λb=>if b=bD then(elt >>= λr=>lift r >>= λu=>pure (a5 u)) else pure b8)
  match r with
  |some u=>if acc.length<cL then cv k t cond elt src xs (acc++[u]) else M.fail
  |none=>cv k t cond elt src xs acc
abbrev oX:U->Lz->Option Bool
 |.str _,T=>a5 (cK (T=.str))
 |.int _,T=>a5 (cK (T=.int))
 |.bl _,.bool=>a5 bD
 |.bl _,.int=>a5 bD
 |.lst _,T=>a5 (cK (T=.list))
 |.tup _,T=>a5 (cK (T=.tuple))
 |_,_=>b8
abbrev IS:Kd×U->Option (Kd×U)
 |(_,.int i)=>a5 (.loc,.int (-i))
 |_=>b8
abbrev Eh(x:Kd×U):M (Option Int):=match x.2 with
 |.int i=>pure (a5 i)
 |_=>M.fail
abbrev MB:U->M Unit
 |.lst _=>pure ()
 |_=>M.fail
section
variable(Γ:Tab)
abbrev sm(a:Bool)(i:Nat)(b:Bool):M (Kd×U):=λst=>match st[i]? with
 |some (a5 (k,.lst us))=>if k.root=bD then(match gP us with
  |some bs=>if a=bD then(if b∈bs then a5 (.ok (.loc,.int (bs.idxOf b:Nat)),st) else b8) else a5 (.ok (.loc,.int (bs.count b:Nat)),st)
  |none=>b8) else b8
 |_=>b8
abbrev fe(a:List (Str×Bool)):U->Option Bool
 |.exc c=>a.lookup c
 |_=>b8
mutual
noncomputable def ev:E->M (Kd×U)
 |.var i=>dk i
 |.cst u=>pure (.loc,u)
 |.RB _ u=>pure (.loc,u)
 |.bin g a b=>do
  let x <-ev a
  let y <-ev b
  aC [x,y]
  M.Jt (Md g x y)
 |.cmp g a b=>do
  let x <-ev a
  let y <-ev b
  aC [x,y]
  let c <-M.Jt (bN g x.2 y.2)
  pure (.loc,.bl c)
 |.MX _ _ _ _ _=>M.fail
 |.and es=>iS es
 |.or _=>M.fail
 |.not a=>do
  let x <-ev a
  match x.2 with
  |.bl c=>pure (.loc,.bl !c)
  |_=>M.fail
 |.ite c a b=>do
  let p <-JC c
  if p=bD then ev a else ev b
 |.tup es=>do
  let rs <-ba es
  aC rs
  let us <-de rs
  if us.length<=cL then pure (.loc,.tup us) else M.fail
 |.lst es=>do
  let rs <-ba es
  aC rs
  let us <-de rs
  if us.length<=cL then pure (.own,.lst us) else M.fail
 |.KZ r=>pure (.own,.Ji [] [])
 |.idx a b=>do
  let x <-ev a
  let y <-ev b
  aC [x,y]
  M.Jt (h_ x y.2)
 |.Nh a lo j=>do
  let x <-ev a
  let l <-OM lo
  let h <-OM j
  aC [x]
  M.Jt (qq x l h)
 |.bi f es=>do
  let rs <-ba es
  aC rs
  M.Jt (Lf f rs)
 |.Ni f es=>do
  let rs <-ba es
  aC rs
  M.Jt (sj f rs)
 |.N5 m a es=>do
  let x <-ev a
  let rs <-ba es
  aC (x::rs)
  M.Jt (mJ m x.2 rs)
 |.call f es=>do
  let rs <-ba es
  aC rs
  lq Γ f (rs.map (·.2))
 |.comp k t n src cond e=>do
  let rs <-ba src
  aC rs
  let xs <-M.Jt (KU n rs)
  let us <-cv k t (bh cond) (ev e) rs xs []
  pure (.own,.lst us)
 |.neg a=>do
  let x <-ev a
  M.Jt (IS x)
 |.bad=>M.fail
 |.inD _ _ _=>M.fail
 |.Pw i=>yr i
 |.LY i k d=>do
  let x <-dk i
  T8 x.2
  let y <-ev k
  let y <-j9 y
  let z <-ev d
  let u <-lift z
  let x <-dk i
  M.Jt (A9 x y u)
 |.Px i=>do
  let x <-dk i
  M.Jt (yp x.2)
 |.Jf f es is=>do
  let rs <-(ba es >>= A8)
  aC rs
  qv Γ f rs is
 |.Kx a _ o=>do
  let x <-ev a
  let b <-M.Jt (fe o x.2)
  pure (.loc,.bl b)
 |.NC q i b=>sm q i b
 |.pop i=>yq i
 |.Le i e=>do
  let x <-dk i
  MB x.2
  let y <-ev e
  wb i y.2
 |.N6 ln a b=>do
  let x <-ev a
  let s <-M.Jt (ia x.2)
  let y <-ev b
  let v <-M.Jt (ia y.2)
  M.Jt (qr ln s v)
 |.fst es=>M.fail
 |.MA a T=>do
  let x <-ev a
  let b <-M.Jt (oX x.2 T)
  pure (.loc,.bl b)
noncomputable def ba:List E->M (List (Kd×U))
 |[]=>pure []
 |e::es=>do let r <-ev e;let rs <-ba es;pure (r::rs)
noncomputable def OM:List E->M (Option Int)
 |[]=>pure b8
 |[e]=>do let x <-ev e;Eh x
 |_=>M.fail
noncomputable def iS:List E->M (Kd×U)
 |[]=>M.fail
 |[e]=>ev e
 |e::es=>do
  let x <-ev e
  match x.2 with
  |.bl bD=>iS es
  |.bl cc=>pure (.loc,.bl cc)
  |_=>M.fail
noncomputable def JC:E->M Bool
 |.and es=>bh es
 |.or es=>iT es
 |.not a=>do let b <-JC a;pure !b
 |.cmp e a b=>do
  let x <-ev a
  let y <-ev b
  aC [x,y]
  M.Jt (bN e x.2 y.2)
 |.var i=>do let x <-dk i;M.Jt (wa x.2)
 |.bi f es=>do
  let rs <-ba es
  aC rs
  let r <-M.Jt (Lf f rs)
  M.Jt (wa r.2)
 |.call f es=>do
  let rs <-ba es
  aC rs
  let r <-lq Γ f (rs.map (·.2))
  M.Jt (wa r.2)
 |.MX g o2 a b c=>do
  let x <-ev a
  let y <-ev b
  aC [x,y]
  let p <-M.Jt (bN g x.2 y.2)
  if p=bD then do
   let z <-ev c
   aC [y,z]
   M.Jt (bN o2 y.2 z.2)
  else pure cc
 |.inD neg a i=>do
  let x <-ev a
  let y <-j9 x
  let d <-iR i
  pure (T7 neg y d.1)
 |.MA a T=>do
  let x <-ev a
  M.Jt (oX x.2 T)
 |.Kx a _ h=>do
  let x <-ev a
  M.Jt (fe h x.2)
 |_=>M.fail
noncomputable def bh:List E->M Bool
 |[]=>pure bD
 |[e]=>JC e
 |e::es=>do let b <-JC e;if b=bD then bh es else pure cc
noncomputable def iT:List E->M Bool
 |[]=>pure cc
 |[e]=>JC e
 |e::es=>do let b <-JC e;if b=bD then pure bD else iT es
end
inductive Fl where|nx|rt (k:Kd) (u:U)|bk|ct
abbrev retS:Kd×U->M Fl
 |(.own,u)=>pure (.rt .own u)
 |(.loc,u)=>pure (.rt .loc u)
 |(.any,u)=>if JG u=bD then pure (.rt .loc u) else pure (.rt .any u)
 |(.bor j,_)=>λst=>match st[j]? with
  |some (a5 (.own,u))=>a5 (.ok (.rt .own u),st.set j b8)
  |_=>b8
 |(.io,_)=>M.fail
 |(.Je,_)=>M.fail
abbrev forM(t:Bool)(is:List Nat)(body:M Fl)(src:List (Kd×U)):List (Kd×U)->M Fl
 |[]=>do aC src;pure .nx
 |x::xs=>do
  aC src
  dR t is x
  let f <-body
  match f with
  |.nx=>forM t is body src xs
  |.ct=>forM t is body src xs
  |.bk=>pure .nx
  |.rt k u=>pure (.rt k u)
abbrev gG(c:M Bool)(body:M Fl):Nat->M Fl
 |0=>M.fail
 |n+1=>do
  let b <-c
  if b=bD then do
   let f <-body
   match f with
   |.nx=>gG c body n
   |.ct=>gG c body n
   |.bk=>pure .nx
   |.rt k u=>pure (.rt k u)
  else pure .nx
abbrev bK(Γ:Tab)(f:Str)(us:List U):M (Sum (Kd×U) Str):=λst=>match Γ f us with
 |some (.ok (.own,u))=>a5 (.ok (.inl (.own,u)),st)
 |some (.ok (.loc,u))=>a5 (.ok (.inl (.loc,u)),st)
 |some (.exc c)=>a5 (.ok (.inr c),st)
 |_=>b8
abbrev A_:Sum (Kd×U) Str->M Fl
 |.inl _=>pure .nx
 |.inr c=>pure (.rt .io (.str c))
abbrev ju(a:List Str)(i j k:Nat):Sum (Kd×U) Str->M Fl
 |.inl r=>do dG i r;pure .nx
 |.inr c=>λst=>match st[j]? with
  |some b8=>if k≠j/\c∈a then(dG k (.loc,.exc c) >>= λ_=>pure .nx) st else b8
  |_=>b8
abbrev Gy(Γ:Tab)(f:Str):Sum (Kd×U) Str->M (Sum (Kd×U) Str)
 |.inl x=>do aC [x];bK Γ f [x.2]
 |.inr c=>pure (.inr c)
abbrev Gz(a:OJ)(m:M (Kd×U)):Sum (Kd×U) Str->M (Sum (Kd×U) Str)
 |.inl x=>do
  let y <-m
  aC [x,y]
  let b <-M.Jt (bN a x.2 y.2)
  pure (.inl (.loc,.bl b))
 |.inr c=>pure (.inr c)
abbrev LZ(Γ:Tab):RE->M (Sum (Kd×U) Str)
 |.call f es=>ba Γ es >>= λrs=>aC rs >>= λ_=>bK Γ f (rs.map (·.2))
 |.arg f r=>LZ Γ r >>= Gy Γ f
 |.cmp a r e=>LZ Γ r >>= Gz a (ev Γ e)
abbrev Ei:Sum (Kd×U) Str->M Fl
 |.inl x=>retS x
 |.inr c=>pure (.rt .io (.str c))
abbrev Ej(a:Bool)(f g:M Fl):Sum (Kd×U) Str->M Fl
 |.inl (_,.bl p)=>if (p != a)=bD then f else g
 |.inl _=>M.fail
 |.inr c=>pure (.rt .io (.str c))
abbrev Ba(k u:U):U->Option U
 |.lst xs=>match k with
  |.int i=>if 0<=i/\i.toNat<=xs.length/\xs.length<cL then a5 (.lst (xs.take i.toNat++u::xs.drop i.toNat)) else b8
  |_=>b8
 |_=>b8
abbrev modS(i:Nat)(f:U->Option U):M Unit:=λst=>match st[i]? with
 |some (a5 (k,u))=>if k.root=bD then match f u with
   |some u'=>a5 (.ok (),st.set i (a5 (k,u')))
   |none=>b8
  else b8
 |_=>b8
abbrev yt(u:U):U->Option U
 |.lst xs=>if xs.length<cL then a5 (.lst (xs++[u])) else b8
 |_=>b8
abbrev lx:Kd×U->U->Option U
 |(k,.lst a),.lst xs=>if xs.length+a.length<=cL/\dQ k a=bD then a5 (.lst (xs++a)) else b8
 |(k,.tup a),.lst xs=>if xs.length+a.length<=cL/\dQ k a=bD then a5 (.lst (xs++a)) else b8
 |_,_=>b8
abbrev eI(x u:U):U->Option U
 |.Ji ks vs=>match x with
  |.str y=>if ks.length<cL then a5 (.Ji (dput ks vs y u).1 (dput ks vs y u).2) else b8
  |_=>b8
 |.lst xs=>match x with
  |.int i=>(MJ xs.length i).map λj=>.lst (xs.set j u)
  |_=>b8
 |_=>b8
abbrev uu:List U->U->Option U
 |[u,x]=>eI x u
 |_=>λ_=>b8
abbrev fuel:Nat:=1000000000000
mutual
noncomputable def NF:S->Nat->Bool
 |.set i _,j=>cK (j≠i)
 |.ND is _,j=>cK (j∉is)
 |.ite _ a b,j=>Kr a j&&Kr b j
 |.Jy _ is _ _ body,j=>cK (j∉is)&&Kr body j
 |.N7 _ body,j=>Kr body j
 |.put _ _ _,_=>bD
 |.app _ _,_=>bD
 |.ext _ _,_=>bD
 |.bad,_=>bD
 |.newD i,j=>cK (j≠i)
 |.putD _ _ _,_=>bD
 |.LA _ _ _,_=>bD
 |.aug _ _ _ _,_=>bD
 |.RC _,_=>bD
 |.exp _,_=>bD
 |.ret _,_=>bD
 |.Mp,_=>bD
 |.brk,_=>bD
 |.cnt,_=>bD
 |.RF,_=>bD
 |.Mq _,_=>bD
 |.Nj _ _,_=>bD
 |.Nk _ _,_=>bD
 |.Nl i _ _ _ _ _ _ _ j k,n=>cK (n≠i)&&cK (n≠k)&&cK (n≠j)
 |.K3 _,_=>bD
 |.K4 _ _ _ a b,j=>Kr a j&&Kr b j
 |.ins _ _ _,_=>bD
noncomputable def Kr:List S->Nat->Bool
 |[],_=>bD
 |s::ss,j=>NF s j&&Kr ss j
end
abbrev uw(rs:List (Kd×U))(is:List Nat)(body:List S):Bool:=rs.all λr=>match r.1 with
 |.bor j=>cK (j∉is)&&Kr body j
 |_=>bD
mutual
noncomputable def exec:S->M Fl
 |.set i e=>do let r <-ev Γ e;dG i r;pure .nx
 |.ND is e=>do let r <-ev Γ e;dR bD is r;pure .nx
 |.put i k v=>do
  let r <-ev Γ v
  let _ <-dk i
  let x <-ev Γ k
  let us <-de [r,x]
  modS i (uu us)
  pure .nx
 |.app i e=>do
  let x <-dk i
  MB x.2
  let r <-ev Γ e
  let u <-lift r
  modS i (yt u)
  pure .nx
 |.ext i e=>do
  let x <-dk i
  MB x.2
  let r <-ev Γ e
  modS i (lx r)
  pure .nx
 |.bad=>M.fail
 |.newD i=>do CH i;pure .nx
 |.putD i k v=>do
  let r <-ev Γ v
  let d <-iR i
  let x <-ev Γ k
  let y <-j9 x
  lr i y r
  pure .nx
 |.LA i k v=>do
  let _ <-iR i
  let x <-ev Γ k
  let y <-j9 x
  let d <-iR i
  if y∈d.1 then do
   let r <-ev Γ v
   let u <-lift r
   lu i y u
   pure .nx
  else M.fail
 |.aug sub i k v=>do
  let _ <-qw i
  let y <-ev Γ k
  let j <-wc y
  let us <-qw i
  let o <-M.Jt (qx us j)
  let z <-ev Γ v
  let w <-wc z
  modS i (eI (.int j) (.int (we sub o w)))
  pure .nx
 |.RC i=>do
  modS i IQ
  pure .nx
 |.exp e=>do let _ <-ev Γ e;pure .nx
 |.ret e=>do let r <-ev Γ e;retS r
 |.Mp=>pure (.rt .loc .Jm)
 |.ite c a b=>do let p <-JC Γ c;if p=bD then execs a else execs b
 |.Jy t is h src body=>do
  let rs <-ba Γ src
  aC rs
  let xs <-M.Jt (KU h rs)
  if uw rs is body=bD then forM t is (execs body) rs xs else M.fail
 |.N7 c body=>gG (JC Γ c) (execs body) fuel
 |.brk=>pure .bk
 |.cnt=>pure .ct
 |.RF=>pure .nx
 |.Mq _=>M.fail
 |.Nj c e=>do let _ <-ev Γ e;pure (.rt .io (.str c))
 |.Nk f es=>do
  let r <-(ba Γ es >>= λrs=>aC rs >>= λ_=>bK Γ f (rs.map (·.2)))
  A_ r
 |.Nl i c f es g l _ m j k=>do
  let r <-(match c with
   |[c]=>JC Γ c >>= λp=>if p=bD then(ba Γ es >>= λrs=>aC rs >>= λ_=>bK Γ f (rs.map (·.2))) else(ba Γ l >>= λrs=>aC rs >>= λ_=>bK Γ g (rs.map (·.2)))
   |_=>ba Γ es >>= λrs=>aC rs >>= λ_=>bK Γ f (rs.map (·.2)))
  ju m i j k r
 |.K3 r=>LZ Γ r >>= Ei
 |.K4 n f es a b=>(ba Γ es >>= λrs=>aC rs >>= λ_=>bK Γ f (rs.map (·.2))) >>= Ej n (execs a) (execs b)
 |.ins i k e=>do
  let x <-dk i
  MB x.2
  let y <-ev Γ k
  let r <-ev Γ e
  aC [y]
  let u <-lift r
  modS i (Ba y.2 u)
  pure .nx
noncomputable def execs:List S->M Fl
 |[]=>pure .nx
 |s::ss=>do
  let f <-exec s
  match f with
  |.nx=>execs ss
  |f=>pure f
end
end
structure Fn where
 name:Str
 np:Nat
 ns:Nat
 body:List S
abbrev start(us:List U)(n:Nat):ay:=us.map (λu=>a5 (if JG u=bD then Kd.loc else Kd.any,u))++i2 (n - us.length) b8
abbrev dg(Γ:Tab)(fn:Fn)(us:List U):Option (Ex (Kd×U)):=if us.length=fn.np then match execs Γ fn.body (start us fn.ns) with
  |some (.ok (.rt .own u),_)=>a5 (.ok (.own,u))
  |some (.ok (.rt .loc u),_)=>a5 (.ok (.loc,u))
  |some (.ok (.rt .any u),_)=>a5 (.ok (.any,u))
  |some (.ok .nx,_)=>a5 (.ok (.loc,.Jm))
  |some (.ok (.rt .io (.str c)),_)=>a5 (.exc c)
  |_=>b8
 else b8
abbrev cU(is:List Nat)(us:List U)(n:Nat):ay:=(us.zipIdx.map λp=>a5 (if p.2∈is then Kd.io else if JG p.1=bD then Kd.loc else Kd.any,p.1))++i2 (n - us.length) b8
abbrev ON:List Nat->ay->Option (List U)
 |[],_=>a5 []
 |i::is,st=>match st[i]? with
  |some (a5 (.io,u))=>(ON is st).map (u::·)
  |_=>b8
abbrev RG:Fl->Option (Kd×U)
 |.rt .own u=>a5 (.own,u)
 |.rt .loc u=>a5 (.loc,u)
 |.nx=>a5 (.loc,.Jm)
 |_=>b8
abbrev gH(Γ:Tab)(fn:Fn)(is:List Nat)(body:List S)(us:List U):Option (Ex (Kd×U)):=if us.length=fn.np then match execs Γ body (cU is us fn.ns) with
  |some (.ok f,st)=>(RG f).bind λr=>(ON is st).map λws=>.ok (r.1,.tup (r.2::ws))
  |_=>b8
 else b8
abbrev Fn.io(fn:Fn):Option (List Nat×List S):=match fn.body with
 |.Mq is::body=>a5 (is,body)
 |_=>b8
abbrev jv(Γ:Tab)(fn:Fn)(us:List U):Option (Ex (Kd×U)):=match fn.io with
 |some (is,body)=>gH Γ fn is body us
 |none=>dg Γ fn us
abbrev Jq(P:List Fn):Nat->Tab
 |0=>λ_ _=>b8
 |d+1=>λf us=>match P.find? λfn=>cK (fn.name=f) with
  |some fn=>jv (Jq P d) fn us
  |none=>b8
end TM
namespace TM
open PySem L2
section
variable{X:Cx}{pins:List (d7×Obj)}{σ:St}{H:Hp}{s:d5}{C:Ct}{S:d7->Prop}
def uA(I:Inv X pins σ H s)(h:JN X.K H a vs):∃b:List dt,Vals vs b/\s.heap.IsList a b.toArray/\vs.length<=cL:=by
 have⟨b,r,p,z⟩:=I.list h;show⟨b,r,p.isList,z⟩
inductive JX(s:d5):Nat->U->dt->Prop where
 |Jm {n:Nat}:JX s n .Jm .none
 |bl {n:Nat} {b:Bool}:JX s n (.bl b) (.bool b)
 |int {n:Nat} {i:Int} {t:Tok}:JX s n (.int i) (.int i t)
 |str {n:Nat} {y:Str} {t:Tok}:JX s n (.str y) (.str y t)
 |tup {n:Nat} {us:List U} {A':List dt} {a:d7}:us.length=A'.length->(∀j (hj:j<A'.length),JX s n (us.getD j .Jm) A'[j])->dc us us=bD->s.heap.IsTuple a A'.toArray->JX s (n+1) (.tup us) (.ref a)
 |lst {n:Nat} {us:List U} {A':List dt} {a:d7}:us.length=A'.length->(∀j (hj:j<A'.length),JX s n (us.getD j .Jm) A'[j])->dc us us=bD->s.heap.IsList a A'.toArray->JX s (n+1) (.lst us) (.ref a)
def JX.self(h:JX s n u x):cP u u=bD:=by
 cases h<;>first|assumption|simp[cP]
theorem JX.wg(f:∀u v x,Ky n u=bD->Rep C S H u v->RelV v x->JX s n u x):∀{us:List U}{vs:List V}{a:List dt},eV n us=bD->au C S H us vs->Vals vs a->us.length=a.length/\(∀j (b:j<a.length),JX s n (us.getD j .Jm) a[j])/\dc us us=bD
 |[],_,_,_,h,r=>by cases h;cases r;show⟨rfl,λj b=>(nomatch b),rfl⟩
 |u::us,_,_,e,h,r=>by
  have⟨v,vs,rfl,c,g⟩:=h;simp only[eV,cb]at e;cases r with
  |cons d i =>
   have⟨l,k,y⟩:=JX.wg f e.2 g i;show⟨by simp[l],λj b=>?_,by rw[dc,(f _ _ _ e.1 c d).self,y];rfl⟩;cases j with
   |zero=>show f _ _ _ e.1 c d
   |succ j=>show k j (by simpa using b)
def JX.of(I:Inv X pins σ H s)(d:C.K=X.K):∀(n:Nat) (u:U) (v:V) (x:dt),Ky n u=bD->Rep C S H u v->RelV v x->JX s n u x:=by
 intro n;induction n with
 |zero=>intro u v x e h r;cases u<;>first|(simp[Ky]at e;done)|(simp only[Rep]at h;subst h;first|(cases r;constructor)|(have⟨t,rfl⟩:=r;constructor))
 |succ n f =>
  intro u v x e h r;cases u with
  |tup us =>
   have⟨a,vs,rfl,b,c⟩:=h;cases r;obtain⟨g,rv,p,_⟩:=I.tuple (d▸b);have⟨l,k,y⟩:=JX.wg f (by simpa[Ky] using e) c rv;show .tup l k y p
  |lst us =>
   have⟨a,vs,rfl,b,c⟩:=h;cases r;obtain⟨g,rv,p,_⟩:=uA I (d▸b.sq);have⟨l,k,y⟩:=JX.wg f (by simpa[Ky] using e) c rv;show .lst l k y p
  |_=>first|(simp[Ky]at e;done)|(simp only[Rep]at h;subst h;first|(cases r;constructor)|(have⟨t,rfl⟩:=r;constructor))
def JX.inj:∀{n:Nat}{u w:U}{x:dt},JX s n u x->JX s n w x->u=w:=by
 intro n;induction n with
 |zero=>intro u w x h h';cases h<;>cases h'<;>rfl
 |succ n t =>
  have go:∀{us ws:List U} {c its':List dt} {a:d7} {o i:Obj} {m q:Nat},us.length=c.length->(∀j (v:j<c.length),JX s n (us.getD j .Jm) c[j])->ws.length=its'.length->(∀j (v:j<its'.length),JX s n (ws.getD j .Jm) its'[j])->s.heap.get? a=a5 o->o.data=.seq c.toArray m->s.heap.get? a=a5 i->i.data=.seq its'.toArray q->us=ws:=by
   intro us ws c its' a o i m q l k f k' e d g d';rw[e]at g;cases g;rw[d]at d';injection d' with z _
   have:c=its':=by simpa using ņ Yd z
   subst this;show LV ⋯ λj A B=>?_;have:=t (k j ⋯) (k' j ⋯);simpa[A,B] using this
  intro u w x h h';cases h with
  |tup l k y p =>
   cases h' with
   |tup f k' r b=>obtain⟨o,e,_,m,d⟩:=p;obtain⟨i,g,_,q,d'⟩:=b;rw[go l k f k' e d g d']
   |lst f k' r b=>show absurd rfl (X' b p)
  |lst l k y p =>
   cases h' with
   |lst f k' r b=>obtain⟨o,e,_,m,d⟩:=p;obtain⟨i,g,_,q,d'⟩:=b;rw[go l k f k' e d g d']
   |tup f k' r b=>show absurd rfl (X' p b)
  |_=>cases h';rfl
theorem jw:∀{us ws:List U},us.length≠ws.length->dc us ws=cc
 |[],[],h=>absurd rfl h
 |[],_::_,_=>rfl
 |_::_,[],_=>rfl
 |u::us,w::ws,h=>by
  rw[dc,jw (us:=us) (ws:=ws) (λe=>h (by simp[e])),Tx]
theorem f9:∀{us ws:List U},us.length=ws.length->dc us ws=(fx us.length).all λj=>cP (us.getD j .Jm) (ws.getD j .Jm)
 |[],[],_=>rfl
 |[],_::_,h=>by simp at h
 |_::_,[],h=>by simp at h
 |u::us,w::ws,h=>by
  have h':us.length=ws.length:=by simpa using h
  rw[dc,f9 h',i6,List.range_succ_eq_map,ü,đ];rfl
def GA{a its':List dt}(c:us.length=a.length)(d:ws.length=its'.length):dc us ws=((fx (min a.toArray.size its'.toArray.size)).all (λj=>cP (us.getD j .Jm) (ws.getD j .Jm))&&a.toArray.size==its'.toArray.size):=by
 simp only[et];by_cases b:us.length=ws.length
 .rw[f9 b,show min a.length its'.length=us.length by lia,show(a.length==its'.length)=bD by simp;lia,þ]
 .rw[jw b,show(a.length==its'.length)=cc by simp;lia,Tx]
def uB(b:JX s n u y)(h:Zw A s y x k)(hs:y=x->k=bD):SG A s y x k:=λprog w E Q a=>by
 unfold eqBool;show tj ?_;show wpAny_ite_split (λc=>?_) (λ_=>?_)
 .rw[hs (eq_of_beq c)]at a;show b6 (OY (c4 a))
 .cases b<;>show b6 (h prog w E _ (wh a))
def T9(r:∀m,m+1=n->∀{u w:U}{x f:dt}{A:M9},JX s m u x->JX s m w f->A.units+m<KX->SG A s x f (cP u w))(h:JX s n u x)(h':JX s n w f)(v:A.units+n<KX):Zw A s x f (cP u w)/\ö A s x f (!cP u w):=by
 have a:A.units<KX:=by lia
 have go:∀{m:Nat} {us ws:List U} {g its':List dt},m+1=n->(∀j (t:j<g.length),JX s m (us.getD j .Jm) g[j])->(∀j (t:j<its'.length),JX s m (ws.getD j .Jm) its'[j])->∀j (i:j<g.toArray.size) (o:j<its'.toArray.size),SG A.in1 s g.toArray[j] its'.toArray[j] (cP (us.getD j .Jm) (ws.getD j .Jm)):=λ{m us ws g its'} e k k' j i o=>r m e (k j i) (k' j o) (by change A.units+1+m < _;lia);cases h with
 |Jm =>
  cases h' with
  |Jm=>show⟨.none_none,.none_none⟩
  |bl=>show⟨.none_bool _,.none_bool _⟩
  |int=>show⟨.none_int _ _,.none_int _ _⟩
  |str=>show⟨.none_str _ _,.none_str _ _⟩
  |tup c k' d b=>show⟨.none_tuple b a,.none_tuple b a⟩
  |lst c k' d b=>show⟨.none_list b a,.none_list b a⟩
 |bl =>
  cases h' with
  |Jm=>show⟨.bool_none _,.bool_none _⟩
  |bl=>show⟨.bool_bool _ _,.bool_bool _ _⟩
  |int=>show⟨.bool_int _ _ _,.bool_int _ _ _⟩
  |str=>show⟨.bool_str _ _ _,.bool_str _ _ _⟩
  |tup c k' d b=>show⟨.bool_tuple _ b a,.bool_tuple _ b a⟩
  |lst c k' d b=>show⟨.bool_list _ b a,.bool_list _ b a⟩
 |int =>
  cases h' with
  |Jm=>show⟨.int_none _ _,.int_none _ _⟩
  |bl=>show⟨.int_bool _ _ _,.int_bool _ _ _⟩
  |int=>show⟨.int_int _ _ _ _,.int_int _ _ _ _⟩
  |str=>show⟨.int_str _ _ _ _,.int_str _ _ _ _⟩
  |tup c k' d b=>show⟨.int_tuple _ _ b a,.int_tuple _ _ b a⟩
  |lst c k' d b=>show⟨.int_list _ _ b a,.int_list _ _ b a⟩
 |str =>
  cases h' with
  |Jm=>show⟨.str_none _ _,.str_none _ _⟩
  |bl=>show⟨.str_bool _ _ _,.str_bool _ _ _⟩
  |int=>show⟨.str_int _ _ _ _,.str_int _ _ _ _⟩
  |str=>show⟨.str_str _ _ _ _,.str_str _ _ _ _⟩
  |tup c k' d b=>show⟨.str_tuple _ _ b a,.str_tuple _ _ b a⟩
  |lst c k' d b=>show⟨.str_list _ _ b a,.str_list _ _ b a⟩
 |tup l k y p =>
  cases h' with
  |Jm=>show⟨.tuple_none p a,.tuple_none p a⟩
  |bl=>show⟨.tuple_bool _ p a,.tuple_bool _ p a⟩
  |int=>show⟨.tuple_int _ _ p a,.tuple_int _ _ p a⟩
  |str=>show⟨.tuple_str _ _ p a,.tuple_str _ _ p a⟩
  |tup c k' d b=>rw[show cP (.tup _) (.tup _)=_ from GA l c];show⟨.tuples p b a (go rfl k k'),.tuples p b a (go rfl k k')⟩
  |lst c k' d b=>show⟨.tuple_list p b a,.tuple_list p b a⟩
 |lst l k y p =>
  cases h' with
  |Jm=>show⟨.list_none p a,.list_none p a⟩
  |bl=>show⟨.list_bool _ p a,.list_bool _ p a⟩
  |int=>show⟨.list_int _ _ p a,.list_int _ _ p a⟩
  |str=>show⟨.list_str _ _ p a,.list_str _ _ p a⟩
  |tup c k' d b=>show⟨.list_tuple p b a,.list_tuple p b a⟩
  |lst c k' d b =>
   rename_i us _ _ ws _ _;by_cases q:us.length=ws.length
   .rw[show cP (.lst us) (.lst ws)=_ from f9 q,l,<-et];show⟨.lists p b (by simp;lia) a (go rfl k k'),.lists p b (by simp;lia) a (go rfl k k')⟩
   .rw[show cP (.lst us) (.lst ws)=cc from jw q];show⟨.lists_lengths p b (by simp;lia) a,.lists_lengths p b (by simp;lia) a⟩
def GB:∀{n:Nat}{u w:U}{x a:dt}{A:M9},JX s n u x->JX s n w a->A.units+n<KX->SG A s x a (cP u w):=by
 intro n;induction n with
 |zero=>intro u w x a A h h' b;show uB h (T9 (λm e=>by cases e) h h' b).1 λe=>by subst e;rw[h.inj h'];show h'.self
 |succ n c=>intro u w x a A h h' b;show uB h (T9 (λm e=>by cases e;show c) h h' b).1 λe=>by subst e;rw[h.inj h'];show h'.self
def GC(h:JX s n u x)(h':JX s n w a)(b:A.units+n<KX):Zw A s x a (cP u w)/\ö A s x a (!cP u w):=T9 (λm e=>by cases e;show GB) h h' b
end
end TM
namespace TM
open PySem L2 PyProof.Rows
abbrev Jl(C:Ct)(m:M (Kd×U)):TE:=λσ H Q=>∃a:Cf,a.σ=σ/\a.H=H/\Ok C a/\W m a.st λr st'=>∀c v,c.σ=σ->c.st=st'->Ok C c->Nx a c->aS C a c r.1 r.2 v->Q v c.H
abbrev Ks(C:Ct)(m:M Bool):TT:=λσ H Q=>∃a:Cf,a.σ=σ/\a.H=H/\Ok C a/\W m a.st λb st'=>∀c,c.σ=σ->c.st=st'->Ok C c->Nx a c->Q b c.H
def cX(C:Ct)(a c:Cf):List (Kd×U)->List V->Prop
 |[],vs=>vs=[]
 |r::rs,vs=>∃v t,vs=v::t/\fZ C a c r.1 r.2 v/\cX C a c rs t/\(r.1=.own->∀(i:Nat) b d,rs[i]?=a5 b->t[i]?=a5 d->b.1=.own->d≠v)
abbrev KC(C:Ct)(m:M (List (Kd×U))):TA:=λσ H Q=>∃a:Cf,a.σ=σ/\a.H=H/\Ok C a/\W m a.st λrs st'=>∀c vs,c.σ=σ->c.st=st'->Ok C c->Nx a c->cX C a c rs vs->Q vs c.H
section
def PE.weak(h:PE X e t)(i:∀σ H Q,t' σ H Q->t σ H Q):PE X e t':=λpins s σ H Q I q=>h pins s σ H Q I (i σ H Q q)
def PT.weak(h:PT X e t)(i:∀σ H Q,t' σ H Q->t σ H Q):PT X e t':=λpins s σ H Q I q=>h pins s σ H Q I (i σ H Q q)
def bR{st:ay}:W (aC rs) st Q↔aX rs st/\Q () st:=by
 constructor
 .rintro⟨a,st',e,h⟩;unfold aC at e;split at e
  .cases e;show⟨by assumption,h⟩
  .cases e
 .rintro⟨b,c⟩;show⟨(),st,by unfold aC;rw[Ł b],c⟩
def dS{st:ay}:aX (r::rs) st↔aX [r] st/\aX rs st:=by
 have⟨k,u⟩:=r;cases k<;>simp[aX]
def fZ.t(h:fZ C a c k u v)(s:aX [(k,u)] c.st):aS C a c k u v:=by
 cases k with
 |bor j=>show⟨s.1,h⟩
 |_=>show h
structure OO(C:Ct)(c0 c:Cf)(x y:Kd×U)(vx vy:V):Prop where
 hσ:c.σ=c0.σ
 ok:Ok C c
 nx:Nx c0 c
 rx:aS C c0 c x.1 x.2 vx
 ry:aS C c0 c y.1 y.2 vy
 ne:x.1=.own->y.1=.own->vy≠vx
def jx(h:fZ C j b k u v)(h':fZ C b c k' u' d):k=.own->k'=.own->d≠v:=by
 rintro rfl rfl e;obtain⟨r,f,_,_,_,g⟩:=h;obtain⟨l,i,a,_⟩:=h';obtain⟨o,ho,_⟩:=g.some;subst f;rw[i]at e;cases e;rw[ho]at a;cases a
def two{k:Kd×U->Kd×U->M β}{Post:β->ay->Prop}{f:dt->dt->Sem α}{Q':dt->dt->α->d5->Prop}(N:PE X a (Jl C O))(Q:PE X b (Jl C z))(I:Inv X pins d.σ d.H s)(T:Ok C d)
  (h:W (O >>= λx=>z >>= λy=>aC [x,y] >>= λ_=>k x y) d.st Post)
  (Y:∀x y c g j v u s2,OO C d c x y g j->Inv X pins c.σ c.H s2->RelV g v->RelV j u->W (k x y) c.st Post->d3 (eh X.prog X.w) X.A (f v u) (Q' v u) X.xe s2) :
  d3 (eh X.prog X.w) X.A (uk a X.env) (λv s₁=>d3 (eh X.prog X.w) X.A (uk b X.env) (λu s₂=>d3 (eh X.prog X.w) X.A (f v u) (Q' v u) X.xe s₂) X.xe s₁) X.xe s:=by
 rw[ah]at h;show Jo (N pins s d.σ d.H (λg B=>∃x e,e.H=B/\e.σ=d.σ/\Ok C e/\Nx d e/\aS C d e x.1 x.2 g/\W (z >>= λy=>aC [x,y] >>= λ_=>k x y) e.st Post) I ⟨d,rfl,rfl,T,h.mono λx st1 n e g o e2 p q r=>⟨x,e,rfl,o,p,q,r,by rw[e2];show n⟩⟩) ?_;rintro v s1 ⟨g,B,I1,rv,x,e,rfl,o,p,q,r,n⟩;rw[ah]at n;show Jo (Q pins s1 d.σ e.H (λj D=>∃y i,i.H=D/\OO C d i x y g j/\W (k x y) i.st Post) I1 ⟨e,o,rfl,p,n.mono λy st2 l i j G e4 Jv J L=>?_⟩) ?_
 .rw[ah,bR]at l;subst e4;rw[dS]at l;show⟨y,i,rfl,⟨G,Jv,q.trans J,(r.w.on p J (G.trans o.symm)).t l.1.1,(L.from q),jx r.w L.w⟩,l.2⟩
 .rintro u s2 ⟨j,D,I2,ru,y,i,rfl,m,l⟩;have hs:i.σ=d.σ:=m.hσ;show Y x y i g j v u s2 m (by rw[hs];show I2) rv ru l
structure Lv(C:Ct)(c0 c:Cf)(x:Kd×U)(vx:V):Prop where
 hσ:c.σ=c0.σ
 ok:Ok C c
 nx:Nx c0 c
 rx:aS C c0 c x.1 x.2 vx
def one{k:Kd×U->M β}{Post:β->ay->Prop}{f:dt->Sem α}{Q':α->d5->Prop}(l:PE X a (Jl C m))(I:Inv X pins b.σ b.H s)(n:Ok C b)
  (h:W (m >>= λx=>k x) b.st Post)
  (o:∀x c d v s2,Lv C b c x d->Inv X pins c.σ c.H s2->RelV d v->W (k x) c.st Post->d3 (eh X.prog X.w) X.A (f v) Q' X.xe s2) :
  d3 (eh X.prog X.w) X.A (uk a X.env) (λv p=>d3 (eh X.prog X.w) X.A (f v) Q' X.xe p) X.xe s:=by
 rw[ah]at h;show Jo (l pins s b.σ b.H (λd i=>∃x e,e.H=i/\Lv C b e x d/\W (k x) e.st Post) I ⟨b,rfl,rfl,n,h.mono λx st1 g e d q r t u y=>⟨x,e,rfl,⟨q,t,u,y⟩,by rw[r];show g⟩⟩) ?_;rintro v s1 ⟨d,i,z,rv,x,e,rfl,j,g⟩;show o x e d v s1 j (by rw[j.hσ];show z) rv g
abbrev cz(C:Ct)(a:Cf)(Q:VK)(r:Kd×U)(st':ay):Prop:=∀c v,c.σ=a.σ->c.st=st'->Ok C c->Nx a c->aS C a c r.1 r.2 v->Q v c.H
section
def cz.flat(h:cz C a Q (.loc,u) c.st)(b:c.σ=a.σ)(d:Ok C c)(n:Nx a c)(r:Rep C c.S c.H u v):Q v c.H:=h c v b rfl d n r
def cz.list(h:cz C a Q (.own,.lst us) c.st)(b:c.σ=a.σ)(d:Ok C c)(n:Nx a c)(r:au C c.S c.H us vs)(p:d7)(e:c.H p=b8):Q (.ref p) (upd c.H p (.lst vs)):=by
 have⟨f,g,i⟩:=d.newList n e r;show h {c with H:=upd c.H p (.lst vs)} _ b rfl f g i
def cz.tup(h:cz C a Q (.loc,.tup us) c.st)(b:c.σ=a.σ)(d:Ok C c)(n:Nx a c)(r:au C c.S c.H us vs)(p:d7)(e:c.H p=b8):Q (.ref p) (upd c.H p (.tup vs)):=by
 have⟨f,g,i⟩:=d.D_ n e r;show h {c with H:=upd c.H p (.tup vs)} _ b rfl f g i
def cz.tupK(h:cz C d Q (kE k,.tup us) c.st)(e:c.σ=d.σ)(a:Ok C c)(n:Nx d c)(r:au C (SK C c k) c.H us vs)(p:d7)(f:c.H p=b8):Q (.ref p) (upd c.H p (.tup vs)):=by
 have⟨g,b⟩:=a.lay (o:=.tup vs) f;show h {c with H:=upd c.H p (.tup vs)} _ e rfl g (n.trans b) (aS.item ?_);cases k<;>show⟨p,vs,rfl,JY.of aB,by first|show r.mv (a.NB b)|show r.mv (a.mv b)⟩
def dB(h:dQ k us=bD)(r:au C (SK C c k) c.H us vs):au C c.S c.H us vs:=by
 cases k with
 |any=>show r.JG (by simpa[dQ,isAny] using h)
 |_=>show r
end
def Ek(k k':Kd):∀a,SK C c k a->SK C c (kT k k') a:=by
 intro a h;cases k<;>cases k'<;>first|show h|show .inr h
def Bb(k k':Kd):∀a,SK C c k' a->SK C c (kT k k') a:=by
 intro a h;cases k<;>cases k'<;>first|show h|show .inr h
def GD(k k':Kd):kE (kT k k')=kT k k':=by cases k<;>cases k'<;>rfl
def Bc:Lm X (OZ .Add) (λx y H Q=>∃l b xs c,x=.ref l/\y=.ref b/\JN X.K H l xs/\JN X.K H b c/\xs.length+c.length<=cL/\∀p,H p=b8->Q (.ref p) (upd H p (.lst (xs++c)))):=by
 intro pins s σ H x y v u Q I m o h;have⟨l,b,xs,c,rfl,rfl,t,w,hz,q⟩:=h;cases m;cases o;have⟨d,r,A,z⟩:=I.list t;have⟨e,f,B,N⟩:=I.list w;have hl:=r.length;have MM:=f.length;obtain⟨⟨cls,dd,data,C⟩,ho,g,n,i⟩:=A.isList;obtain⟨⟨O,D,data2,G⟩,j,k,J,a⟩:=B.isList;simp only at g i k a;subst g i k a;show WC ⟨_,ho,rfl⟩ ⟨_,j,rfl⟩ noFill_list_add seq_list_add PySem.F.slot_list_add PySem.F.entry_list_add (PySem.F.args_list_add_2 _ _)
   (list_addW l b d.toArray e.toArray n J dd D C G (by rw[et,et];lia)) ⟨ho,j,?_⟩
 have L:d.toArray++e.toArray=(d++e).toArray:=by simp
 rw[L];show⟨.ref _,_,I.IE (t':=s.toks) (r.append f) (by rw[hY];lia),rfl,q _ I.fresh⟩
end
section
variable{X:Cx}{C:Ct}{pins:List (d7×Obj)}{s:d5}{c0 c:Cf}{Q:VK}
def yu:Lm X (OZ .Add) (λx y H Q=>∃a b e,x=.ref a/\y=.ref b/\JY X.K H a []/\JY X.K H b e/\Q (.ref b) H):=by
 intro pins s σ H x y v u Q I k l h;have⟨a,b,e,rfl,rfl,m,o,q⟩:=h;cases k;cases l;obtain⟨D,p,r,_⟩:=I.tuple m;obtain⟨t,G,p2,_⟩:=I.tuple o;cases p;obtain⟨⟨cls,dd,data,w⟩,ho,f,n,g⟩:=id r;obtain⟨⟨J,z,data2,A⟩,i,j,B,d⟩:=id p2;simp only at f g j d;subst f g j d;show WC ⟨_,ho,rfl⟩ ⟨_,i,rfl⟩ Xx Zv PySem.F.slot_tuple_add PySem.F.entry_tuple_add (PySem.F.args_tuple_add_2 _ _)
   (tuple_addW0 a b _ t.toArray n B dd z w A (by rfl)) ⟨ho,i,.ref b,H,I,rfl,q⟩
abbrev RA.op:RA->Ü
 |.add=>.Add|.sub=>.Sub|.mul=>.Mult|.OI=>.FloorDiv|.mod=>.Mod|.pow=>.Pow
def ff(h:si f a b=a5 r):∃i j o,a=.int i/\b=.int j/\f i j=a5 o/\r=(.loc,.int o):=by
 unfold si at h;split at h
 .rw[ez]at h;have⟨o,e,rfl⟩:=h;show⟨_,_,o,rfl,rfl,e,rfl⟩
 .cases h
def El(T:C.K=X.K)(t:OO C c0 c x y g l)(I:Inv X pins c.σ c.H s)(z:RelV g v)(B:RelV l u)(h:Md op x y=a5 r)(q:cz C c0 Q r c.st):
  d3 (eh X.prog X.w) X.A (OZ op.op v u) (EP X pins c.σ Q) X.xe s:=by
 obtain⟨m,d,n,D,ty,_⟩:=t;cases op with
 |add =>
  have h:yl x y=a5 r:=h;unfold yl at h;split at h
  .have ex:=D.int d;have e:=ty.int d;cases h;show cu pins s c.σ c.H g l v u Q I z B ⟨_,_,ex,e,q.flat m d n rfl⟩
  .have ex:=D.str d;have e:=ty.str d;split at h
   .cases h;show rK pins s c.σ c.H g l v u Q I z B ⟨_,_,ex,e,by assumption,q.flat m d n rfl⟩
   .cases h
  .have⟨a,vs,ex,N,G⟩:=D.list d;have⟨b,ws,e,O,J⟩:=ty.list d;split at h
   .rename_i L;cases h;show Bc pins s c.σ c.H g l v u Q I z B ⟨a,b,vs,ws,ex,e,T▸N,T▸O,by rw[<-G.len,<-J.len];show L.1,λp Y=>q.list m d n ((dB L.2.1 G).append (dB L.2.2 J)) p Y⟩
   .cases h
  .rename_i k xs k' ys _ _;have⟨a,vs,ex,N,G⟩:=D.tuple d;have⟨b,ws,e,O,J⟩:=ty.tuple d;have Mr:=N;have Pf:=O;rw[T]at Mr Pf;split at h
   .rename_i L;cases h;have m1:au C (SK C c (kT k k')) c.H xs vs:=G.mv (.up (Ek k k'));have m2:au C (SK C c (kT k k')) c.H ys ws:=J.mv (.up (Bb k k'));have q':cz C c0 Q (kE (kT k k'),.tup (xs++ys)) c.st:=by rw[GD];show q
    by_cases e1:vs=[]
    .subst e1;show yu pins s c.σ c.H g l v u Q I z B ⟨a,b,ws,ex,e,Mr,Pf,?_⟩;show q' c (.ref b) m rfl d n (aS.item ⟨b,ws,rfl,O,?_⟩);have:xs=[]:=by have:=m1.len;simpa using this
     rw[this];show m2
    .show AF pins s c.σ c.H g l v u Q I z B ⟨a,b,vs,ws,ex,e,Mr,Pf,e1,by rw[<-G.len,<-J.len];show L,λe2=>?_,λ_ p Y=>q'.tupK m d n (m1.append m2) p Y⟩;subst e2;show q' c (.ref a) m rfl d n (aS.item ⟨a,vs,rfl,N,?_⟩);have:ys=[]:=by have:=m2.len;simpa using this
     rw[this,rr];show m1
   .cases h
  .cases h
 |sub =>
  have⟨i,j,o,ex,e,f,rfl⟩:=ff h;have ex:=(ex▸D).int d;have e:=(e▸ty).int d;cases f;show rH pins s c.σ c.H g l v u Q I z B ⟨_,_,ex,e,q.flat m d n rfl⟩
 |mul =>
  have⟨i,j,o,ex,e,f,rfl⟩:=ff h;have ex:=(ex▸D).int d;have e:=(e▸ty).int d;unfold AZ at f;split at f
  .cases f;show kM pins s c.σ c.H g l v u Q I z B ⟨_,_,ex,e,by assumption,q.flat m d n rfl⟩
  .cases f
 |OI =>
  have⟨i,j,o,ex,e,f,rfl⟩:=ff h;have ex:=(ex▸D).int d;have e:=(e▸ty).int d;unfold A0 at f;split at f
  .cases f;show Ay pins s c.σ c.H g l v u Q I z B ⟨_,_,ex,e,by assumption,q.flat m d n rfl⟩
  .cases f
 |mod =>
  have⟨i,j,o,ex,e,f,rfl⟩:=ff h;have ex:=(ex▸D).int d;have e:=(e▸ty).int d;unfold A4 at f;split at f
  .cases f;show eR pins s c.σ c.H g l v u Q I z B ⟨_,_,ex,e,by assumption,q.flat m d n rfl⟩
  .cases f
 |pow =>
  have⟨i,j,o,ex,e,f,rfl⟩:=ff h;have ex:=(ex▸D).int d;have e:=(e▸ty).int d;unfold A5 at f;split at f
  .cases f;show ox pins s c.σ c.H g l v u Q I z B ⟨_,_,ex,e,by assumption,q.flat m d n rfl⟩
  .cases f
def Bd(d:C.K=X.K)(f:PE X a (Jl C g))(i:PE X b (Jl C j)):PE X (.BinOp a k.op b pos) (Jl C (g >>= λx=>j >>= λy=>aC [x,y] >>= λ_=>M.Jt (Md k x y))):=by
 rintro pins s σ H Q I ⟨c0,rfl,rfl,l,h⟩;show wpAny_BinOp (two f i I l h λx y c p A v u s2 t m n o w=>?_);have⟨r,e,q⟩:=bJ.mp w;show Jo (El d t m n o e q) λ_ _ z=>by rw[t.hσ]at z;show z
abbrev OJ.op:OJ->Đ
 |.eq=>.Eq|.ne=>.NotEq|.lt=>.Lt|.le=>.LtE|.gt=>.Gt|.ge=>.GtE|.isin=>.In|.Jh=>.NotIn|.is=>.Is|.T5=>.IsNot
def GF{neg:Bool}(I:Inv X pins c.σ c.H s)(m:C.K=X.K)(N:X.A.units+60<KX){S:d7->Prop}(o:Rep C S c.H x n)(r:RelV n v)(t:au C S c.H i vs)
  (ha:JN C.K c.H a vs\/JY C.K c.H a vs) (u:Ky 50 x=bD) (z:eV 50 i=bD) {Q:dt->d5->Prop} (q:Q (.bool (if neg then !(i.any λy=>cP y x) else i.any λy=>cP y x)) s) :
  d3 (eh X.prog X.w) X.A (O7 (if neg then .NotIn else .In) v (.ref a)) Q X.xe s:=by
 have B:=JX.of I m 50 x n v u o r;have go:∀d:List dt,Vals vs d->∃e:dt->Bool,(∀y,y∈d.toArray->SG X.A.in1 s y v (e y))/\d.toArray.any e=i.any λy=>cP y x:=by
  intro d rv;obtain⟨l,k,_⟩:=JX.wg (JX.of I m 50) z t rv
  classical
  have q:∀j (b:j<d.length),cK (∃w,JX s 50 w d[j]/\cP w x=bD)=cP (i.getD j .Jm) x:=λj b=>by
   rw[JR,decide_eq_true_iff];show⟨λ⟨w,f,g⟩=>by rw[<-f.inj (k j b)];show g,λh=>⟨_,k j b,h⟩⟩
  show⟨λy=>cK (∃w,JX s 50 w y/\cP w x=bD),λy D=>?_,?_⟩
  .have⟨j,b,e⟩:=QR (show y∈d by simpa using D);subst e;change SG _ _ _ _ (decide _);rw[q j b];show GB (k j b) B (by change X.A.units+1+50 < _;lia)
  .rw[JR];simp only[List.any_toArray,SF];constructor
   .rintro⟨y,G,h⟩;have⟨j,b,rfl⟩:=QR G;rw[q j b]at h;show⟨_,KH (l▸b),by simpa[l▸b] using h⟩
   .rintro⟨w,J,L⟩;have⟨j,b,rfl⟩:=QR J;show⟨_,KH (l▸b),by rw[q j (l▸b)];simpa[b] using L⟩
 rcases ha with ha|ha
 .obtain⟨d,rv,p,_⟩:=uA I (m▸ha);have⟨e,f,g⟩:=go d rv;cases neg with
  |false=>show SeqAt.in_listAt e p f (by rw[g];show q)
  |true=>show SeqAt.notIn_listAt e p f (by rw[g];show q)
 .rw[m]at ha;obtain⟨d,rv,p,_⟩:=I.tuple ha;have⟨e,f,g⟩:=go d rv;cases neg with
  |false=>show SeqAt.in_tupleAt e p f (by rw[g];show q)
  |true=>show SeqAt.notIn_tupleAt e p f (by rw[g];show q)
end
section
theorem cY:∀{us:List U}{ss:List Str},strsOf us=a5 ss->us=ss.map .str
 |[],ss,h=>by cases h;rfl
 |.str x::us,ss,h=>by
  simp only[strsOf,ez]at h;have⟨t,a,rfl⟩:=h;rw[cY a];rfl
 |.Jm::_,_,h=>by cases h
 |.bl _::_,_,h=>by cases h
 |.int _::_,_,h=>by cases h
 |.tup _::_,_,h=>by cases h
 |.lst _::_,_,h=>by cases h
 |.Ji _ _::_,_,h=>by cases h
theorem jP:∀{us:List U}{ns:List Int},intsOf us=a5 ns->us=ns.map .int
 |[],ns,h=>by cases h;rfl
 |u::us,ns,h=>by
  cases u<;>first|(cases h;done)|skip
  rename_i x;have h':(intsOf us).map (x::·)=a5 ns:=h;rw[ez]at h';have⟨ms,e,rfl⟩:=h';rw[jP e];rfl
theorem au.ints{S:d7->Prop}:∀{ns:List Int}{vs:List V},au C S H (ns.map .int) vs->vs=ns.map V.int
 |[],vs,h=>h
 |n::ns,vs,h=>by
  have⟨v,r,rfl,a,b⟩:=h;rw[au.ints b];have:v=.int n:=a;rw[this];rfl
theorem ly:∀{us:List U}{ss:List Bool},gP us=a5 ss->us=ss.map .bl
 |[],ss,h=>by cases h;rfl
 |.bl x::us,ss,h=>by
  simp only[gP,ez]at h;have⟨t,a,rfl⟩:=h;rw[ly a];rfl
 |.Jm::_,_,h=>by cases h
 |.str _::_,_,h=>by cases h
 |.int _::_,_,h=>by cases h
 |.tup _::_,_,h=>by cases h
 |.lst _::_,_,h=>by cases h
 |.Ji _ _::_,_,h=>by cases h
theorem au.VO{S:d7->Prop}:∀{xs:List Bool}{vs:List V},au C S H (xs.map .bl) vs->vs=xs.map V.bl
 |[],vs,h=>h
 |x::xs,vs,h=>by
  have⟨v,r,rfl,a,b⟩:=h;rw[au.VO b];have:v=.bl x:=a;rw[this];rfl
abbrev Em(X:Cx)(pins:List (d7×Obj))(c:Cf)(b:Bool)(v:dt)(s':d5):Prop:=v=.bool b/\Inv X pins c.σ c.H s'
def kA(o:Lm X f r)(I:Inv X pins c.σ c.H s)(e:RelV a v)(g:RelV d u)(h:r a d c.H λx H'=>x=.bl b/\H'=c.H):
  d3 (eh X.prog X.w) X.A (f v u) (Em X pins c b) X.xe s :=
 Jo (o pins s c.σ c.H a d v u _ I e g h) λw s' i=>by
  have⟨z,H',j,r,k,l⟩:=i;subst k l;show⟨r,j⟩
def aS.dict(g:Ok C c)(h:aS C i c k (.Ji ks us) v):∃a kvs,v=.ref a/\c.H a=a5 (.dK kvs)/\kvs.map (·.1)=ks.map mx/\au C (SK C c k) c.H us (kvs.map (·.2)):=by
 cases k with
 |own=>obtain⟨r,e,_,_,_,kvs,b,d,f⟩:=h;show⟨r,kvs,e,b,d,f⟩
 |bor j=>obtain⟨r,e,_,_,_,kvs,b,d,f⟩:=g.rootOf h.1 h.2;show⟨r,kvs,e,b,d,f⟩
 |io=>show h.elim
 |Je=>show h.elim
 |_=>obtain⟨a,e,_,kvs,b,d,f⟩:=h;show⟨a,kvs,e,b,d,f⟩
theorem dU{S:d7->Prop}:∀{ks:List Str}{us:List U}{kvs:List (Key×V)},kvs.map (·.1)=ks.map mx->au C S H us (kvs.map (·.2)) ->
  (∀u,d0 ks us x=a5 u->∃v,dO kvs (mx x)=a5 v/\Rep C S H u v)/\(dO kvs (mx x)).isSome=cK (x∈ks)
 |[],us,kvs,a,b=>by
  have:kvs=[]:=by simpa using a
  subst this;show⟨λu h=>by cases us<;>simp[d0]at h,by simp[dO]⟩
 |k::ks,us,[],a,b=>by simp at a
 |k::ks,[],p::kvs,a,b=>by simp[au]at b
 |k::ks,j::us,p::kvs,a,b=>by
  have⟨v,r,e,d,f⟩:=b;rw[ei]at e;cases e;rw[ei,ei,Qt]at a;have⟨g,i⟩:=dU (x:=x) a.2 f;by_cases hk:k=x
  .subst hk;show⟨λu h=>?_,?_⟩
   .simp[d0]at h;subst h;show⟨p.2,eW a.1,d⟩
   .rw[eW a.1];simp
  .have c:¬p.1=mx x:=by rw[a.1];intro z;show hk (Vk z)
   show⟨λu h=>?_,?_⟩
   .simp[d0,hk]at h;have⟨v,e,q⟩:=g u h;show⟨v,by rw[eX c];show e,q⟩
   .rw[eX c,i];simp[qs hk]
def Rep.lp{S:d7->Prop}(h:Rep C S H u v):cK (v=.Jm)=lp u:=by
 cases u with
 |Jm=>have:v=.Jm:=h;subst this;rfl
 |bl b=>have:v=.bl b:=h;subst this;rfl
 |int b=>have:v=.int b:=h;subst this;rfl
 |str b=>have:v=.str b:=h;subst this;rfl
 |Ji ks us=>obtain⟨a,rfl,_⟩:=h;rfl
 |exc c=>obtain⟨a,rfl,_⟩:=h;rfl
 |_=>obtain⟨a,vs,rfl,_⟩:=h;rfl
def jy{c:Bool}(h:yn f a b=a5 c):∃i j,a=.int i/\b=.int j/\f i j=c:=by
 unfold yn at h;split at h
 .cases h;show⟨_,_,rfl,rfl,rfl⟩
 .cases h
def lz(hP:C.P=X.prog)(hw:C.w=X.w)(o:C.K=X.K)(N:X.A.units+60<KX)(t:OO C c0 c x y O vy)(I:Inv X pins c.σ c.H s)(f:RelV O v)(g:RelV vy u)(h:bN Q x.2 y.2=a5 b):
  d3 (eh X.prog X.w) X.A (O7 Q.op v u) (Em X pins c b) X.xe s:=by
 obtain⟨hσ,d,n,l,ty,_⟩:=t;have⟨kx,B⟩:=x;have⟨ky,p⟩:=y
 dsimp only at h l ty
 have D:∀neg:Bool,∀q,ym B p=a5 q->d3 (eh X.prog X.w) X.A (O7 (if neg then .NotIn else .In) v u) (Em X pins c (if neg then !q else q)) X.xe s:=by
  intro neg q h;have J:=l.read d;have T:=ty.read d;unfold ym at h;split at h
  .have⟨a,vs,rfl,m,G⟩:=T;cases g;unfold OL at h;split at h
   .rename_i e;cases h;show GF I o N J f G (.inl m.sq) e.1 e.2 ⟨by cases neg<;>rfl,I⟩
   .cases h
  .have⟨a,vs,rfl,m,G⟩:=T;cases g;unfold OL at h;split at h
   .rename_i e;cases h;show GF I o N J f G (.inr m) e.1 e.2 ⟨by cases neg<;>rfl,I⟩
   .cases h
  .cases h;have ex:O=_:=J;have⟨a,kvs,rfl,m,G,h3⟩:=ty.dict d;cases g;subst ex;have hs:=λz:Str=>(dU (x:=z) G h3).2;cases neg with
   |false=>show Gn ⋯ I (fy.k (k:=mx _) m) f λs' L=>⟨by rw[hs];rfl,L⟩
   |true=>show tY ⋯ I (fy.k (k:=mx _) m) f λs' L=>⟨by rw[hs];rfl,L⟩
  .cases h
 have Y:∀{r:Bool},(if Ky 50 B=bD/\Ky 50 p=bD then a5 r else b8)=a5 b->(Ky 50 B=bD/\Ky 50 p=bD)/\r=b:=λh=>by
  split at h
  .rename_i e;cases h;show⟨e,rfl⟩
  .cases h
 cases Q with
 |eq =>
  have⟨e,rfl⟩:=Y h;show(GC (n:=50) (.of I o _ _ _ _ e.1 (l.read d) f) (.of I o _ _ _ _ e.2 (ty.read d) g) ⋯).1 _ _ _ _ ⟨rfl,I⟩
 |ne =>
  have⟨e,rfl⟩:=Y h;show(GC (n:=50) (.of I o _ _ _ _ e.1 (l.read d) f) (.of I o _ _ _ _ e.2 (ty.read d) g) ⋯).2 _ _ _ _ ⟨rfl,I⟩
 |lt=>have⟨i,j,rfl,rfl,rfl⟩:=jy h;show kA F9 I f g ⟨_,_,l.int d,ty.int d,rfl,rfl⟩
 |gt=>have⟨i,j,rfl,rfl,rfl⟩:=jy h;show kA F_ I f g ⟨_,_,l.int d,ty.int d,rfl,rfl⟩
 |ge=>have⟨i,j,rfl,rfl,rfl⟩:=jy h;show kA Ga I f g ⟨_,_,l.int d,ty.int d,rfl,rfl⟩
 |isin=>show D cc b h
 |Jh =>
  have⟨q,m,rfl⟩:=ez.mp (show(ym B p).map (!·)=a5 b from h);show D bD q m
 |is =>
  have h:(if lp p=bD then a5 (lp B) else b8)=a5 b:=h;split at h
  .rename_i hn;cases h;cases p with
   |Jm=>show kA DC I f g ⟨ty.Jm d,by rw[(l.read d).lp],rfl⟩
   |_=>cases hn
  .cases h
 |_=>cases h
def Be(f:C.P=X.prog)(g:C.w=X.w)(i:C.K=X.K)(j:X.A.units+60<KX)(k:PE X a (Jl C l))(m:PE X b (Jl C n))(o:L4 d.op b=cc):
  PE X (.Compare a [d.op] [b] pos) (Jl C (l >>= λx=>n >>= λy=>aC [x,y] >>= λ_=>M.Jt (bN d x.2 y.2) >>= λc=>pure (.loc,.bl c))):=by
 rintro pins s σ H Q I ⟨N,rfl,rfl,p,h⟩;show Ĭ (two k m I p h λx y c O T v u s2 t B D G w=>?_) o;rw[ah]at w;have⟨r,e,q⟩:=bJ.mp w;rw[ao]at q;show Jo (lz f g i j t B D G e) λz s' J=>?_;have⟨e,L⟩:=J;subst e;show⟨.bl r,c.H,by rw[<-t.hσ];show L,rfl,q c (.bl r) t.hσ rfl t.ok t.nx rfl⟩
def Bg(g:C.P=X.prog)(i:C.w=X.w)(j:C.K=X.K)(k:X.A.units+60<KX)(l:PE X a (Jl C m))(n:PE X b (Jl C o))(p:L4 d.op b=cc):
  PT X (.Compare a [d.op] [b] pos) (Ks C (m >>= λx=>o >>= λy=>aC [x,y] >>= λ_=>M.Jt (bN d x.2 y.2))):=by
 rintro pins s σ H Q I ⟨B,rfl,rfl,D,h⟩;show Ï (two (f:=λv u=>O7 d.op v u) (Q':=λ_ _ c s=>d3 (eh X.prog X.w) X.A (ñ c) (TP X pins B.σ Q) X.xe s) l n I D h λx y c T Y v u s2 t G J L w=>?_) p;have⟨r,e,q⟩:=bJ.mp w;show Jo (lz g i j k t G J L e) λz s' N=>?_;have⟨e,O⟩:=N;subst e;show wh ⟨c.H,by rw[<-t.hσ];show O,q c t.hσ rfl t.ok t.nx⟩
end
section
abbrev CI(C:Ct)(a:Cf)(Q:Bool->Hp->Prop)(b:Bool)(st':ay):Prop:=∀c,c.σ=a.σ->c.st=st'->Ok C c->Nx a c->Q b c.H
def sr(c:a.σ=b.σ)(d:Ok C a)(n:Nx b a)(h:W m a.st (cz C b Q)):Jl C m b.σ a.H Q :=
 ⟨a,c,rfl,d,h.mono λr st e f v g i j k l=>e f v g i j (n.trans k) (l.from n)⟩
def yw(c:a.σ=b.σ)(d:Ok C a)(n:Nx b a)(h:W m a.st (CI C b Q)):Ks C m b.σ a.H Q :=
 ⟨a,c,rfl,d,h.mono λr st e f g i j k=>e f g i j (n.trans k)⟩
def aO(b:Ok C a)(h:W (d >>= k) a.st Post)
  (hz:∀x c v,Lv C a c x v->W (k x) c.st Post->Z v c.H):Jl C d a.σ a.H Z:=by
 rw[ah]at h;show⟨a,rfl,rfl,b,h.mono λx st1 e f g i j l m n=>hz x f g ⟨i,l,m,n⟩ (by rw[j];show e)⟩
def d9(d:Ok C a)(h:W (e >>= k) a.st Post)
  (hz:∀b c,c.σ=a.σ->Ok C c->Nx a c->W (k b) c.st Post->Z b c.H):Ks C e a.σ a.H Z:=by
 rw[ah]at h;show⟨a,rfl,rfl,d,h.mono λx st1 f g i j l m=>hz x g i l m (by rw[j];show f)⟩
abbrev GG(m:M (Kd×U))(x:Kd×U):M (Kd×U):=match x.2 with
 |.bl bD=>m
 |.bl cc=>pure (.loc,.bl cc)
 |_=>M.fail
abbrev GH(x:Kd×U):M (Kd×U):=match x.2 with
 |.bl c=>pure (.loc,.bl !c)
 |_=>M.fail
def snd_and(g:PE X a (Jl C i))(j:PE X (.BoolOp .And (b::rest) pos) (Jl C l)):PE X (.BoolOp .And (a::b::rest) pos) (Jl C (i >>= GG l)):=by
 show PE.weak (Dn g j) ?_;rintro σ H Q ⟨o,rfl,rfl,m,h⟩;show aO m h λx c v t w=>?_;have⟨k,u⟩:=x;have⟨f,d,n,r⟩:=t;unfold GG at w;split at w
 .rename_i e
  dsimp only at e r
  subst e;show⟨bD,r.bl d,by rw[Ł rfl];show sr f d n w⟩
 .rename_i e
  dsimp only at e r
  subst e;rw[ao]at w;show⟨cc,r.bl d,by rw[ł i0];show w c (.bl cc) f rfl d n rfl⟩
 .show(bp.mp w).elim
def Bh(d:PE X a (Jl C f)):PE X (.UnaryOp .Not a pos) (Jl C (f >>= GH)):=by
 show PE.weak (Dp d) ?_;rintro σ H Q ⟨j,rfl,rfl,g,h⟩;show aO g h λx c v t w=>?_;have⟨k,u⟩:=x;have⟨i,b,n,r⟩:=t;unfold GH at w;split at w
 .rename_i e
  dsimp only at e r
  subst e;rw[ao]at w;show⟨_,r.bl b,w c (.bl _) i rfl b n rfl⟩
 .show(bp.mp w).elim
def Bi(g:PT X d (Ks C i))(j:PE X a (Jl C k))(l:PE X b (Jl C m)):PE X (.IfExp d a b pos) (Jl C (i >>= λp=>if p=bD then k else m)):=by
 show PE.weak (xp g j l) ?_;rintro σ H Q ⟨q,rfl,rfl,o,h⟩;show d9 o h λp c e f n w=>?_;cases p with
 |true=>rw[Ł rfl]at w ⊢;show sr e f n w
 |false=>rw[ł i0]at w ⊢;show sr e f n w
def Bj(d:PT X a (Ks C e)):PT X (.UnaryOp .Not a pos) (Ks C (e >>= λb=>pure !b)):=by
 show PT.weak (Dl d) ?_;rintro σ H Q ⟨j,rfl,rfl,f,h⟩;show d9 f h λp c g i n w=>?_;rw[ao]at w;show w c g rfl i n
def Bk(g:PT X a (Ks C i))(j:PW X (.BoolOp .And (b::rest) pos) (Ks C k)):PW X (.BoolOp .And (a::b::rest) pos) (Ks C (i >>= λp=>if p=bD then k else pure cc)):=by
 have l:=Dk g j;rintro m pins s σ H Q I ⟨d,rfl,rfl,o,h⟩;show l m pins s d.σ d.H Q I (d9 o h λp c e f n w=>?_);cases p with
 |true=>rw[Ł rfl]at w ⊢;show yw e f n w
 |false=>rw[ł i0]at w ⊢;rw[ao]at w;show w c e rfl f n
def En(g:PT X a (Ks C i))(j:PW X (.BoolOp .Or (b::rest) pos) (Ks C k)):PW X (.BoolOp .Or (a::b::rest) pos) (Ks C (i >>= λp=>if p=bD then pure bD else k)):=by
 have l:=FR g j;rintro m pins s σ H Q I ⟨d,rfl,rfl,o,h⟩;show l m pins s d.σ d.H Q I (d9 o h λp c e f n w=>?_);cases p with
 |true=>rw[Ł rfl]at w ⊢;rw[ao]at w;show w c e rfl f n
 |false=>rw[ł i0]at w ⊢;show yw e f n w
def uC{us:List α}{vs:List β}(h:us.length=vs.length):(!us.isEmpty)=!vs.isEmpty:=by
 cases us<;>cases vs<;>simp_all
def iU(j:PE X a (Jl C l))(i:C.K=X.K)(m:∀b,isTrue a X.env b=(do let v <-b;Wr a.pos;LQ [v] (ñ v))):PT X a (Ks C (l >>= λx=>M.Jt (wa x.2))):=by
 show PT.weak (xy j m) ?_;rintro σ H Q ⟨y,rfl,rfl,o,h⟩;show aO o h λx c v t w=>?_;have⟨k,u⟩:=x;have⟨s,d,n,r⟩:=t;have⟨p,e,q⟩:=bJ.mp w
 dsimp only at e r
 show⟨p,?_,q c s rfl d n⟩;unfold wa at e;split at e
 .cases e;rw[r.bl d];rfl
 .cases e;have⟨a,vs,rfl,f,g⟩:=r.list d;show .inl ⟨vs,i▸f,uC g.len⟩
 .cases e;have⟨a,vs,rfl,f,g⟩:=r.tuple d;rw[i]at f;show .inr (.inl ⟨vs,f,uC g.len⟩)
 .split at e
  .cases e;rw[r.str d];show⟨by assumption,rfl⟩
  .cases e
 .cases e
def yx(l:C.P=X.prog)(m:C.w=X.w)(n:C.K=X.K)(o:X.A.units+60<KX)(T:PE X a (Jl C Y))(hb:PE X b (Jl C mb))(hd:PE X d (Jl C md))(hm:lastMarks [r.op,o2.op] [b,d]=cc):
  PT X (.Compare a [r.op,o2.op] [b,d] pos) (Ks C (Y >>= λx=>mb >>= λy=>aC [x,y] >>= λ_=>M.Jt (bN r x.2 y.2) >>= λp=>if p=bD then(md >>= λz=>aC [y,z] >>= λ_=>M.Jt (bN o2 y.2 z.2)) else pure cc)):=by
 rintro pins s σ H Q I ⟨B,rfl,rfl,ok,h⟩;show isTrue_chain (Jo (two T hb I ok h λx y c vx vy v u s2 t I2 rx D w=>?_) λv s1 h1=>test_link (Jo h1 λu s2 f=>f)) hm;rw[ah]at w;have⟨p,e,q⟩:=bJ.mp w;show Jo (lz l m n o t I2 rx D e) λz s' Ub=>?_;have⟨e,G⟩:=Ub;subst e;show wh ?_;cases p with
 |false =>
  rw[ł i0,ao]at q;show ite_ff ⟨c.H,by rw[<-t.hσ];show G,q c t.hσ rfl t.ok t.nx⟩
 |true =>
  rw[Ł rfl,ah]at q;show ite_tt (test_last (Jo (hd pins s' c.σ c.H (λj J=>∃z g,g.H=J/\OO C B g y z vy j/\W (M.Jt (bN o2 y.2 z.2)) g.st (CI C B Q)) G ⟨c,rfl,rfl,t.ok,q.mono λz st2 f g j L k Jv N O=>?_⟩) ?_))
  .rw[ah,bR]at f;subst k;rw[dS]at f;show⟨z,g,rfl,⟨L.trans t.hσ,Jv,t.nx.trans N,(t.ry.w.on t.ok N L).t f.1.1,O.from t.nx,jx t.ry.w O.w⟩,f.2⟩
  .rintro zv s3 ⟨j,J,I3,rz,z,g,rfl,i,f⟩;have⟨q',e',w'⟩:=bJ.mp f;show Jo (lz (pins:=pins) l m n o i (by rw[i.hσ,<-t.hσ];show I3) D rz e') λz' s4 Uc=>?_;have⟨k,I4⟩:=Uc;subst k;show wh ⟨g.H,by rw[<-i.hσ];show I4,w' g i.hσ rfl i.ok i.nx⟩
end
section
def cX.from(n:Nx a b):cX C b c rs vs->cX C a c rs vs:=by
 intro h;induction rs generalizing vs with
 |nil=>show h
 |cons r rs d=>have⟨v,t,e,f,g,i⟩:=h;show⟨v,t,e,f.from n,d g,i⟩
def cX.get{i:Nat}(h:cX C b c rs vs)(e:rs[i]?=a5 r)(a:vs[i]?=a5 v):fZ C b c r.1 r.2 v:=by
 induction rs generalizing vs i with
 |nil=>simp at e
 |cons j rs d =>
  have⟨k,t,rfl,f,g,l⟩:=h;cases i with
  |zero=>simp at e a;subst e a;show f
  |succ i=>show d g (by simpa using e) (by simpa using a)
def Bl:PA X [] (KC C (pure [])):=by
 rintro pos pins s σ H Q I ⟨a,rfl,rfl,b,h⟩;rw[ao]at h;show eS pos pins s a.σ a.H Q I (h a [] rfl rfl b (Nx.refl a) rfl)
def yy(g:PE X e (Jl C m))(j:PA X es (KC C ms))(hs:gj (e::es) X.env=(cc,uk e X.env)::gj es X.env):PA X (e::es) (KC C (m >>= λr=>ms >>= λrs=>pure (r::rs))):=by
 rintro pos pins s σ H Q I ⟨a,rfl,rfl,k,h⟩;show cH g j hs pos pins s a.σ a.H Q I (aO k h λr l v t w=>?_);rw[ah]at w;show⟨l,t.hσ,rfl,t.ok,w.mono λrs st2 b n vs c o p d f=>?_⟩;rw[ao]at b;show b n (v::vs) c o p (t.nx.trans d) ⟨v,vs,rfl,t.rx.w.on t.ok d (c.trans t.hσ.symm),f.from t.nx,λhk i y z q u x=>?_⟩;show jx t.rx.w (f.get q u) hk x
structure LM(C:Ct)(c0 c:Cf)(rs:List (Kd×U))(vs:List V):Prop where
 hσ:c.σ=c0.σ
 ok:Ok C c
 nx:Nx c0 c
 rep:cX C c0 c rs vs
 OP:aX rs c.st
def args{k:List (Kd×U)->M β}{Post:β->ay->Prop}(f:PA X es (KC C ms))(I:Inv X pins a.σ a.H s)(g:Ok C a)(h:W (ms >>= λrs=>aC rs >>= λ_=>k rs) a.st Post)(pos:Pos):
  d3 (eh X.prog X.w) X.A (Ą (x2 pos (gj es X.env))) (λus s1=>∃rs c vs,LM C a c rs vs/\Inv X pins c.σ c.H s1/\Vals vs us/\W (k rs) c.st Post) X.xe s:=by
 rw[ah]at h;show Jo (f pos pins s a.σ a.H (λvs e=>∃rs c,c.H=e/\LM C a c rs vs/\W (k rs) c.st Post) I ⟨a,rfl,rfl,g,h.mono λrs st1 b d vs i j l m n=>?_⟩) ?_
 .rw[ah,bR]at b;subst j;show⟨rs,d,rfl,⟨i,l,m,n,b.1⟩,b.2⟩
 .rintro us s1 ⟨vs,e,o,rv,rs,d,rfl,t,w⟩;show⟨rs,d,vs,t,by rw[t.hσ];show o,rv,w⟩
def LM.one(t:LM C a c [r] vs):∃v,vs=[v]/\aS C a c r.1 r.2 v:=by
 obtain⟨v,t',rfl,b,d,_⟩:=t.rep;cases d;show⟨v,rfl,b.t t.OP⟩
def Ok.share(b:Ok C c)(g:C.H₀ r=b8)(h:∃o,c.H r=a5 o)(hl:st'.length=c.st.length)
  (d:∀(i:Nat) k u,st'[i]?=a5 (a5 (k,u))->(∃v,c.σ[i]?=a5 (a5 v)/\fY C (λa=>c.S a\/a=r) c.H k u v)/\(k.root=bD->c.st[i]?=a5 (a5 (k,u)))) (l:Mo C {c with S:=λa=>c.S a\/a=r,st:=st' }) :
  Ok C {c with S:=λa=>c.S a\/a=r,st:=st' }:=by
 show⟨b.same,λa z=>?_,b.par,b.io,by rw[show({c with S:=λa=>c.S a\/a=r,st:=st' }:Cf).st.length=st'.length from rfl,hl];show b.len,λi k u e=>(d i k u e).1,λi j k k' u u' m hk f n p q s=>?_,l⟩
 .rcases z with z|rfl
  .show b.Lu a z
  .show⟨g,h⟩
 .show b.inj i j k k' u u' m hk f ((d i k u n).2 hk) ((d j k' u' p).2 f) q s
def Ok.Eo(s:Ok C d)(b:Ok C c)(n:Nx d c)(f:d.H r=b8)(g:¬c.R r)(t:da C c.S c.H r u):
  Ok C {c with S:=λa=>c.S a\/a=r}/\Nx d {c with S:=λa=>c.S a\/a=r}:=by
 obtain⟨o,ho,_⟩:=t.some;show⟨b.share (st':=c.st) (s.ll f).1 ⟨o,ho⟩ rfl (λi k u e=>⟨?_,λ_=>e⟩) (b.dd.hs (.up λa=>.inl) λj a z=>⟨λq=>q.elim (b.root (.inr ⟨j,z⟩)).1 λe=>g (.inr ⟨j,e▸z⟩),λo q=>q⟩),⟨⟨n.keep,n.there,n.roots,λa z=>.inl (n.sub a z),λa z=>?_⟩⟩⟩
 .have⟨v,h,l⟩:=b.sl i k u e;have w:Mv c.S c.H (λa=>c.S a\/a=r) c.H:=.up λa=>.inl;show⟨v,h,l.mv w (.up λa z=>z.imp id .inl) λhk y m=>⟨?_,λo q=>q⟩⟩;obtain⟨A,p,x,_⟩:=l.rt hk;rw[m]at p;cases p;rintro(z|rfl)
  .show x z
  .show g (.inl ⟨i,k,u,hk,e,by rw[h,m]⟩)
 .rcases z with z|rfl
  .show n.new a z
  .show .inr (.inr f)
def Ok.yz(d:Ok C c)(n:Nx D c)(g:c.st[j]?=a5 (a5 (.own,u)))(h:c.σ[j]?=a5 (a5 (.ref r))):
  Ok C {c with S:=λa=>c.S a\/a=r,st:=c.st.set j (a5 (.loc,u))}/\Nx D {c with S:=λa=>c.S a\/a=r,st:=c.st.set j (a5 (.loc,u))}/\Rep C (λa=>c.S a\/a=r) c.H u (.ref r):=by
 have⟨T,f,l,m,Y,q2,G,x⟩:=d.sl j _ _ g;rw[h]at f;cases f;cases m;have y:Rep C (λa=>c.S a\/a=r) c.H u (.ref r):=x.rep (λa=>.inl) (.inr rfl);obtain⟨o,ho,_⟩:=x.some;have s:j<c.st.length:=(dV.mp g).1;have t:∀(i:Nat) k u',(c.st.set j (a5 (.loc,u)))[i]?=a5 (a5 (k,u'))->i≠j->c.st[i]?=a5 (a5 (k,u')):=λi k u' e ne=>by rw[hH (qs ne)]at e;show e
 have I:c.R1 r:=⟨j,.own,u,rfl,g,h⟩
 have A:∀(i:Nat) (u':U),(c.st.set j (a5 (.loc,u)))[i]?=a5 (a5 (.Je,u'))->c.st[i]?=a5 (a5 (.Je,u')):=λi u' e=>by
  by_cases b:i=j
  .subst b;rw[d6 s]at e;cases e
  .show t i .Je u' e b
 have b1:∀a,({c with S:=λa=>c.S a\/a=r,st:=c.st.set j (a5 (.loc,u))}:Cf).R1 a->c.R1 a:=λa J=>by
  have⟨i,k,u',hk,e,L⟩:=J;by_cases b:i=j
  .subst b;rw[d6 s]at e;cases e;cases hk
  .show⟨i,k,u',hk,t i k u' e b,L⟩
 have N:Mo C {c with S:=λa=>c.S a\/a=r,st:=c.st.set j (a5 (.loc,u))}:=d.dd.of rfl (λi u' e=>⟨A i u' e,rfl⟩) (λa z=>.inl (b1 a z)) (.up λa=>.inl) λi a z=>⟨λq=>q.elim (d.root (.inr ⟨i,z⟩)).1 λe=>d.dd.d1 i a z (e▸I),λo q=>q⟩
 show⟨d.share (st':=c.st.set j (a5 (.loc,u))) G ⟨o,ho⟩ (by simp) (λi k u' e=>?_) N,⟨⟨n.keep,n.there,λa z=>?_,λa z=>.inl (n.sub a z),λa z=>?_⟩⟩,y⟩
 .by_cases b:i=j
  .subst b;rw[d6 s]at e;cases e;show⟨⟨.ref r,h,y⟩,λz=>nomatch z⟩
  .have w:=t i k u' e b;have⟨v,f,p⟩:=d.sl i k u' w;show⟨⟨v,f,p.mv (.up λa=>.inl) (.up λa z=>z.imp id .inl) λhk l m=>⟨?_,λo q=>q⟩⟩,λ_=>w⟩;obtain⟨RH,B,O,_⟩:=p.rt hk;rw[m]at B;cases B;rintro(z|rfl)
   .show O z
   .show b (d.inj i j k .own u' u l hk rfl w g (by rw[f,m]) h)
 .rcases z with z|⟨i,u',l,f,p,Q⟩
  .show n.roots a (.inl (b1 a z))
  .show n.roots a (.inr ⟨i,u',l,A i u' f,p,Q⟩)
 .rcases z with z|rfl
  .show n.new a z
  .rcases n.roots a (.inl ⟨j,.own,u,rfl,g,h⟩) with z|z
   .show .inr (.inl z)
   .show .inr (.inr z)
def gw(B:Ok C l)(b:Ok C c)(n:Nx l c)(d:fZ C l c r.1 r.2 v)(h:W (lift r) c.st Post):
  ∃(S':d7->Prop) (st':ay) (u:U),(∀a,c.S a->S' a)/\Ok C {c with S:=S',st:=st' }/\Nx l {c with S:=S',st:=st' }/\Rep C S' c.H u v/\Post u st' /\
   (∀a,S' a->c.S a\/v=.ref a/\(r.1=.own\/c.R a))/\∀a,({c with S:=S',st:=st' }:Cf).R a->c.R a:=by
 have⟨k,u⟩:=r;cases k with
 |own =>
  rw[show lift (.own,u)=pure u from rfl,ao]at h;have⟨r,e,D,O,G,y⟩:=d;have⟨m,o⟩:=Ok.Eo B b n D G y;show⟨_,c.st,u,λa=>.inl,m,o,by rw[e];show y.rep (λa=>.inl) (.inr rfl),h,λa z=>?_,λa z=>z⟩;rcases z with z|rfl
  .show .inl z
  .show .inr ⟨e,.inl rfl⟩
 |loc =>
  rw[show lift (.loc,u)=pure u from rfl,ao]at h;show⟨c.S,c.st,u,λa=>id,b,n,d,h,λa z=>.inl z,λa z=>z⟩
 |any =>
  rw[show lift (.any,u)=if JG u=bD then pure u else M.fail from rfl]at h;split at h
  .rw[ao]at h;show⟨c.S,c.st,u,λa=>id,b,n,Rep.JG (by assumption) d,h,λa z=>.inl z,λa z=>z⟩
  .show(bp.mp h).elim
 |bor j =>
  have⟨x,st',e,I⟩:=h;rw[show lift (.bor j,u) c.st=match c.st[j]? with|some (a5 (.own,u))=>a5 (Ex.ok u,c.st.set j (a5 (.loc,u)))|_=>b8 from rfl]at e;split at e
  .rename_i w f;cases e;obtain⟨Q,A,r,J,_⟩:=b.sl j _ _ f;have p:c.σ[j]?=a5 (a5 v):=d;rw[p]at A;cases A;subst J;have⟨m,o,q⟩:=b.yz n f p;show⟨_,_,_,λa=>.inl,m,o,q,I,λa z=>?_,λa z=>?_⟩
   .rcases z with z|rfl
    .show .inl z
    .show .inr ⟨rfl,.inr (.inl ⟨j,.own,_,rfl,f,p⟩)⟩
   .rcases z with⟨i,k,u',hk,e,s⟩|⟨i,u',L,e,s,N⟩
    rotate_left 1
    .by_cases g:i=j
     .subst g;have t:i<c.st.length:=(dV.mp f).1;rw[d6 t]at e;cases e
     .rw[hH (qs g)]at e;show .inr ⟨i,u',L,e,s,N⟩
    by_cases g:i=j
    .subst g;have t:i<c.st.length:=(dV.mp f).1;rw[d6 t]at e;cases e;cases hk
    .rw[hH (qs g)]at e;show .inl ⟨i,k,u',hk,e,s⟩
  .cases e
 |_=>show d.elim
theorem iV:∀{rs:List (Kd×U)}{vs:List V}{c:Cf}{Post:List U->ay->Prop},Ok C b->Ok C c->Nx b c->cX C b c rs vs->W (de rs) c.st Post ->
  ∃(S':d7->Prop) (st':ay) (us:List U),(∀a,c.S a->S' a)/\Ok C {c with S:=S',st:=st' }/\Nx b {c with S:=S',st:=st' }/\au C S' c.H us vs/\Post us st'
 |[],vs,c,Post,m,p,n,s,h=>by
  rw[show de []=pure [] from rfl,ao]at h;show⟨c.S,c.st,[],λa=>id,p,n,s,h⟩
 |r::rs,vs,c,Post,m,p,n,s,h=>by
  have⟨v,t,rfl,J,L,N⟩:=s;rw[show de (r::rs)=lift r >>= λu=>de rs >>= λus=>pure (u::us) from rfl,ah]at h;have⟨S1,st1,u,s1,O,Q,d,x,T,Y⟩:=gw m p n J h;rw[ah]at x;have QB:cX C b {c with S:=S1,st:=st1} rs t:=by
   clear h x;have y:∀(l:List (Kd×U)) (w:List V),cX C b c l w->(r.1=.own->∀(i:Nat) g j,l[i]?=a5 g->w[i]?=a5 j->g.1=.own->j≠v)->cX C b {c with S:=S1,st:=st1} l w:=by
    intro l;induction l with
    |nil=>intro w q _;show q
    |cons r2 l ih =>
     intro w q A;have⟨B,D,rfl,k,q2,q3⟩:=q;show⟨B,D,rfl,?_,ih D q2 (λhk i g j e1 e2 JO=>A hk (i+1) g j (by simpa using e1) (by simpa using e2) JO),q3⟩;have⟨k2,u2⟩:=r2;cases k2 with
     |own =>
      have⟨a,e,p1,p2,G,p4⟩:=k;show⟨a,e,p1,λz=>?_,λz=>G (Y a z),p4.mv (.up s1) λo q=>q⟩;rcases T a z with z|⟨z,z'|z'⟩
      .show p2 z
      .show A z' 0 _ B rfl rfl rfl (e.trans z.symm)
      .show G z'
     |loc=>show Rep.mv (.up s1) k
     |any=>show Rep.mv (.up λa z=>z.imp id (s1 a)) k
     |_=>show k
   show y rs t L N
  have⟨S2,st2,us,s2,Jv,n2,f,I⟩:=iV (c:={c with S:=S1,st:=st1}) m O Q QB x;rw[ao]at I;show⟨S2,st2,u::us,λa z=>s2 a (s1 a z),Jv,n2,⟨v,t,rfl,d.mv (.up s2),f⟩,I⟩
def Bm(i:PA X es (KC C ms)):PE X (.Tuple es p pos) (Jl C (ms >>= λrs=>aC rs >>= λ_=>de rs >>= λus=>if us.length<=cL then pure (.loc,.tup us) else M.fail)):=by
 rintro pins s σ H Q I ⟨j,rfl,rfl,f,h⟩;show wpAny_Tuple_spliced (Jo (args i I f h pos) λus s1 k=>?_);have⟨rs,c,vs,t,g,rv,w⟩:=k;rw[ah]at w;have⟨S',st',ws,q,l,m,a,d⟩:=iV f t.ok t.nx t.rep w;split at d
 .rename_i hz;rw[ao]at d;have hl:vs.length<=cL:=by rw[<-a.len];show hz
  show⟨by rw[<-rv.length];show hl,?_⟩;have n:c.H s1.heap.objs.size=b8:=g.Jj.fresh (hQ _);have o:Inv X pins j.σ c.H s1:=by rw[<-t.hσ];show g
  show⟨.ref s1.heap.objs.size,upd c.H s1.heap.objs.size (.tup vs),o.laid (t':=s1.toks) (λb u e=>c2 _ e) (hQ _) ⟨hl,us,rv,É _ _⟩,rfl,?_⟩;show cz.tup (c:={c with S:=S',st:=st' }) d t.hσ l m a _ n
 .show(bp.mp d).elim
def Bn(i:PA X es (KC C ms)):PE X (.List es pos) (Jl C (ms >>= λrs=>aC rs >>= λ_=>de rs >>= λus=>if us.length<=cL then pure (.own,.lst us) else M.fail)):=by
 rintro pins s σ H Q I ⟨j,rfl,rfl,f,h⟩;show wpAny_List_spliced (Jo (args i I f h pos) λus s1 k=>?_);have⟨rs,c,vs,t,g,rv,w⟩:=k;rw[ah]at w;have⟨S',st',ws,p,l,m,a,d⟩:=iV f t.ok t.nx t.rep w;split at d
 .rename_i hz;rw[ao]at d;have hl:vs.length<=cL:=by rw[<-a.len];show hz
  show⟨by rw[<-rv.length];show hl,?_⟩;have n:c.H s1.heap.objs.size=b8:=g.Jj.fresh (hQ _);have o:Inv X pins j.σ c.H s1:=by rw[<-t.hσ];show g
  show⟨.ref s1.heap.objs.size,upd c.H s1.heap.objs.size (.lst vs),o.laid (t':=s1.toks) (λb u e=>c2 _ e) (hQ _) ⟨hl,us,0,rv,eH _ rfl⟩,rfl,?_⟩;show cz.list (c:={c with S:=S',st:=st' }) d t.hσ l m a _ n
 .show(bp.mp d).elim
end
section
def oY(f:X.N[i]?=a5 x)(g:K_ X.env.scope x)(l:(x==("__debug__":Str))=cc)(m:(x==("__classdict__":Str))=cc):PE X (.Name x pos) (Jl C (dk i)):=by
 show PE.weak (bY f g l m) ?_;rintro σ H Q ⟨b,rfl,rfl,c,r,st',e,h⟩;unfold dk at e;split at e
 .cases e
 .rename_i k u n hs;cases e;have⟨v,d,a⟩:=c.sl i k u hs;show⟨v,d,h b v rfl rfl c (Nx.refl b) ?_⟩;by_cases hk:k.root=bD
  .rw[Ł hk];show⟨⟨k,hk,hs⟩,d⟩
  .rw[ł hk];cases k with
   |loc=>show a
   |any=>show a
   |bor j=>show a.elim
   |Je=>show(n rfl).elim
   |_=>show absurd rfl hk
 .cases e
def kB(h:PE X e (tC v))(r:∀S H,Rep C S H u v):PE X e (Jl C (pure (.loc,u))):=by
 show PE.weak h ?_;rintro σ H Q ⟨a,rfl,rfl,b,h⟩;rw[ao]at h;show h a v rfl rfl b (Nx.refl a) (r _ _)
def cz.root(h:cz C b Q (.own,u) c.st)(e:c.σ=b.σ)(d:Ok C c)(n:Nx b c)(p:d7)(a:c.H p=b8)(r:da C c.S (upd c.H p o) p u):Q (.ref p) (upd c.H p o):=by
 have⟨f,g⟩:=d.lay (o:=o) a;have⟨k,i,l,m,j⟩:=d.ll a;show h {c with H:=upd c.H p o} _ e rfl f (n.trans g) ⟨p,rfl,n.none a,i,j,r⟩
def yA(d:C.P=X.prog)(e:C.w=X.w)(r:Bool):PE X (.Dict [] [] pos) (Jl C (pure (.own,.Ji [] []))):=by
 show PE.weak pX ?_;rintro σ H Q ⟨a,rfl,rfl,b,h⟩ p c;rw[ao]at h;show cz.root h rfl b (Nx.refl a) p c ⟨[],aB,rfl,rfl⟩
def au.J9{S:d7->Prop}(h:au C S H us vs)(e:J9 us i=a5 u):∃v,L2.J9 vs i=a5 v/\Rep C S H u v:=by
 unfold L2.J9 at e ⊢;rw[h.len]at e;cases q:MJ vs.length i with
 |none=>rw[q]at e;cases e
 |some j =>
  rw[q]at e;show h.get e
def Ep(G:C.K=X.K)(L:X.A.units+60<KX)(hs:oB b)(t:OO C J c x y f g)(I:Inv X pins c.σ c.H s)(l:RelV f v)(m:RelV g u)(h:h_ x y.2=a5 r)(q:cz C J Q r c.st):
  d3 (eh X.prog X.w) X.A (VI a b v u) (EP X pins c.σ Q) X.xe s:=by
 obtain⟨o,d,n,p,ty,-⟩:=t;have⟨N,O⟩:=y
 dsimp only at h ty
 unfold h_ at h;split at h
 .rename_i k xs i;rw[ez]at h;have⟨w,e,rfl⟩:=h;have⟨a',vs,ex,j,z⟩:=p.list d;have⟨vw,B,D⟩:=z.J9 e;show AG a b pins s c.σ c.H f g v u Q I l m ⟨a',vs,i,vw,ex,ty.int d,G▸j,B,q c vw o rfl d n (aS.item D)⟩ (hs _ _)
 .rename_i k xs i;rw[ez]at h;have⟨w,e,rfl⟩:=h;have⟨a',vs,ex,j,z⟩:=p.tuple d;have⟨vw,B,D⟩:=z.J9 e;rw[G]at j;show rL a b pins s c.σ c.H f g v u Q I l m ⟨a',vs,i,vw,ex,ty.int d,j,B,q c vw o rfl d n (aS.item D)⟩ (hs _ _)
 .split at h
  .rw[ez]at h;have⟨w,e,rfl⟩:=h;show oC a b pins s c.σ c.H f g v u Q I l m ⟨_,_,w,p.str d,ty.int d,by assumption,e,q c _ o rfl d n rfl⟩ (hs _ _)
  .cases h
 .cases h
def Bo(d:C.K=X.K)(f:X.A.units+60<KX)(hs:oB b)(g:PE X a (Jl C i))(j:PE X b (Jl C k)):PE X (.Subscript a b pos) (Jl C (i >>= λx=>k >>= λy=>aC [x,y] >>= λ_=>M.Jt (h_ x y.2))):=by
 rintro pins s σ H Q I ⟨p,rfl,rfl,l,h⟩;show û (two g j I l h λx y c B D v u s2 t m n o w=>?_);have⟨r,e,q⟩:=bJ.mp w;show Jo (Ep d f hs t m n o e q) λ_ _ z=>by rw[t.hσ]at z;show z
def au.cut{S:d7->Prop}(h:au C S H us vs)(lo a:Option Int):au C S H (TM.cut us lo a) (vJ vs lo a):=by
 unfold TM.cut vJ;rw[h.len];show(h.drop _).take _
end
section
end
section
variable{X:Cx}{C:Ct}{pins:List (d7×Obj)}{s:d5}{c0 c c1:Cf}
variable{a b d e:lg}{es:List lg}{m ma mb md:M (Kd×U)}{ms:M (List (Kd×U))}{ta tb:M Bool}{pos p p2:Pos}
abbrev tO(C:Ct)(m:M (Option Int)):TO:=λσ H Q=>∃c0:Cf,c0.σ=σ/\c0.H=H/\Ok C c0/\W m c0.st λi st'=>∀c,c.σ=σ->c.st=st'->Ok C c->Nx c0 c->Q i c.H
def wj:PO X b8 (tO C (pure b8)):=by
 rintro pins s σ H Q I ⟨c0,rfl,rfl,f,h⟩;rw[ao]at h;show AD pins s c0.σ c0.H Q I (h c0 rfl rfl f (Nx.refl c0))
def wm(f:PE X a (Jl C ma)):PO X (a5 a) (tO C (ma >>= Eh)):=by
 rintro pins s σ H Q I ⟨c0,rfl,rfl,g,h⟩;show AE f pins s c0.σ c0.H Q I (aO g h λx c v t w=>?_);have⟨k,u⟩:=x;unfold Eh at w;split at w
 .rename_i i e
  dsimp only at e
  subst e;rw[ao]at w;show⟨i,t.rx.int t.ok,w c t.hσ rfl t.ok t.nx⟩
 .show(bp.mp w).elim
def Er{lo f:Option Int}(l:C.K=X.K)(i:c.σ=c0.σ)(g:Ok C c)(n:Nx c0 c)(j:aS C c0 c x.1 x.2 k)(h:qq x lo f=a5 r)(q:cz C c0 Q r c.st):
  Gj X.K k lo f c.H Q\/Gq k lo f c.H Q:=by
 unfold qq at h;split at h
 .split at h
  .rename_i o;cases h;have⟨a',vs,ex,t,u⟩:=j.list g;show .inl ⟨a',vs,ex,l▸t,λp v=>q.list i g n ((dB o u).cut lo f) p v⟩
  .cases h
 .split at h
  .cases h;show .inr ⟨_,j.str g,by assumption,q.flat i g n rfl⟩
  .cases h
 .cases h
def Bp{lo g:Option lg}(n:C.K=X.K)(o:PE X a (Jl C ma))(hl:PO X lo (tO C ml))(u:PO X g (tO C y)):
  PE X (.Subscript a (.Slice lo g b8 p2) pos) (Jl C (ma >>= λx=>ml >>= λl=>y >>= λh=>aC [x] >>= λ_=>M.Jt (qq x l h))):=by
 show PE.weak (xB (NR.or AH DT) o hl u) ?_;rintro σ H Q ⟨c0,rfl,rfl,z,h⟩;show aO z h λx c v t w=>?_;rw[ah]at w;show⟨c,t.hσ,rfl,t.ok,w.mono λl st2 i A B D G I=>?_⟩;subst D;rw[ah]at i;show⟨A,B,rfl,G,i.mono λT Y f J j L N O=>?_⟩;subst L;rw[ah,bR]at f;have⟨r,e,q⟩:=bJ.mp f.2;have k:Nx c J:=I.trans O;show Er n j N (t.nx.trans k) ((t.rx.w.on t.ok k (j.trans t.hσ.symm)).t f.1) e q
end
section
variable{X:Cx}{C:Ct}{pins:List (d7×Obj)}{s:d5}{c0 c c1:Cf}
variable{a b d e:lg}{es:List lg}{m ma mb md:M (Kd×U)}{ms:M (List (Kd×U))}{ta tb:M Bool}{pos p p2:Pos}
abbrev Bf.val:Bf->dt
 |.len=>.builtin "len"|.sorted=>.builtin "sorted"|.repr=>.builtin "repr"|.max=>.builtin "max"|.min=>.builtin "min"|.all=>.builtin "all"|.any=>.builtin "any"
 |.list=>.type "list"|.tuple=>.type "tuple"|.str=>.type "str"|.int=>.type "int"
abbrev Bf.name:Bf->Str
 |.len=>"len"|.sorted=>"sorted"|.repr=>"repr"|.max=>"max"|.min=>"min"|.all=>"all"|.any=>"any"
 |.list=>"list"|.tuple=>"tuple"|.str=>"str"|.int=>"int"
def call_of(g:iD X f r)(I:Inv X pins c.σ c.H s)(rv:Vals vs us)(h:r vs c.H Q):d3 (eh X.prog X.w) X.A (NK f us) (EP X pins c.σ Q) X.xe s:=g pins s c.σ c.H vs us Q I rv h
def cp(h:iQ f rs=a5 r):∃x,rs=[x]/\f x=a5 r:=by
 unfold iQ at h;split at h
 .show⟨_,rfl,h⟩
 .cases h
def CJ(G:X.calm=bD)(z:C.K=X.K)(L:X.A.guards=a5 [])(N:X.A.units+60<KX)(t:LM C c0 c rs vs)(I:Inv X pins c.σ c.H s)(rv:Vals vs us)(h:Lf f rs=a5 r)(q:cz C c0 Q r c.st):
  d3 (eh X.prog X.w) X.A (NK f.val us) (EP X pins c.σ Q) X.xe s:=by
 have o:=t.hσ;have g:=t.ok;have n:=t.nx;cases f with
 |len =>
  have⟨x,rfl,hz⟩:=cp (f:=λx=>(Ea x.2).map λ(n:Nat)=>(Kd.loc,U.int (n:Int))) h;clear h;have h:=hz;clear hz;rw[ez]at h;have⟨k,e,rfl⟩:=h;have⟨v,rfl,l⟩:=t.one;have⟨O,D⟩:=x;unfold Ea at e;split at e
  .rename_i xs u;have u:D=.lst xs:=u;subst u;cases e;have⟨a',ws,ex,i,j⟩:=l.list g;rw[j.len]at q;show call_of iG I rv ⟨a',ws,by rw[ex],.inl (z▸i),q.flat o g n rfl⟩
  .rename_i xs u;have u:D=.tup xs:=u;subst u;cases e;have⟨a',ws,ex,i,j⟩:=l.tuple g;rw[z]at i;rw[j.len]at q;show call_of iG I rv ⟨a',ws,by rw[ex],.inr i,q.flat o g n rfl⟩
  .rename_i xs u;have u:D=.str xs:=u;subst u;split at e
   .cases e;show call_of oE I rv ⟨_,by rw[l.str g],by assumption,q.flat o g n rfl⟩
   .cases e
  .cases e
 |sorted =>
  have⟨x,rfl,hz⟩:=cp (f:=Eb) h;clear h;have h:=hz;clear hz;have⟨v,rfl,l⟩:=t.one;unfold Eb at h;split at h
  .rw[r3]at h;have⟨ss,e,h⟩:=h;have B:=cY e;subst B;have⟨a',ws,ex,i,j⟩:=l.list g;rw[au.strs]at j;subst j;split at h
   .cases h;show call_of jN I rv ⟨a',ss,by rw[ex],.inl (z▸i),by assumption,λp y=>q.list o g n (au.strs.mpr rfl) p y⟩
   .cases h
  .obtain⟨a',kvs,ex,i,j,_⟩:=l.dict g;split at h
   .cases h;show call_of (jt G) I rv ⟨a',kvs,_,by rw[ex],i,j,by assumption,λp y=>q.list o g n (au.strs.mpr rfl) p y⟩
   .cases h
  .rw[r3]at h;have⟨ss,e,h⟩:=h;have B:=cY e;subst B;have⟨a',ws,ex,i,j⟩:=l.tuple g;rw[z]at i;rw[au.strs]at j;subst j;split at h
   .cases h;show call_of jN I rv ⟨a',ss,by rw[ex],.inr i,by assumption,λp y=>q.list o g n (au.strs.mpr rfl) p y⟩
   .cases h
  .cases h
 |list =>
  have⟨x,rfl,hz⟩:=cp (f:=Ec) h;clear h;have h:=hz;clear hz;have⟨v,rfl,l⟩:=t.one;unfold Ec at h;split at h
  .have⟨a',ws,ex,i,j⟩:=l.list g;split at h
   .cases h;show call_of iH I rv ⟨a',ws,by rw[ex],.inl (z▸i),λp y=>q.list o g n (dB (by assumption) j) p y⟩
   .cases h
  .have⟨a',ws,ex,i,j⟩:=l.tuple g;rw[z]at i;split at h
   .cases h;show call_of iH I rv ⟨a',ws,by rw[ex],.inr i,λp y=>q.list o g n (dB (by assumption) j) p y⟩
   .cases h
  .cases h
 |tuple =>
  have⟨x,rfl,hz⟩:=cp (f:=Ed) h;clear h;have h:=hz;clear hz;have⟨v,rfl,l⟩:=t.one;unfold Ed at h;split at h
  .have⟨a',ws,ex,i,j⟩:=l.list g;cases h;show call_of gK I rv ⟨a',ws,by rw[ex],.inl ⟨z▸i,λp y=>q.tupK o g n j p y⟩⟩
  .have⟨a',ws,ex,i,j⟩:=l.tuple g;have J:=i;rw[z]at J;cases h;show call_of gK I rv ⟨a',ws,by rw[ex],.inr ⟨J,q c (.ref a') o rfl g n (aS.item ⟨a',ws,rfl,i,j⟩)⟩⟩
  .cases h
 |str =>
  have⟨x,rfl,hz⟩:=cp (f:=A6) h;clear h;have h:=hz;clear hz;have⟨v,rfl,l⟩:=t.one;unfold A6 at h;split at h
  .split at h
   .cases h;show call_of oy I rv ⟨_,by rw[l.int g],by assumption,q.flat o g n rfl⟩
   .cases h
  .cases h
 |all =>
  have⟨x,rfl,hz⟩:=cp (f:=Ee) h;clear h;have h:=hz;clear hz;have⟨v,rfl,l⟩:=t.one;unfold Ee at h;split at h
  .rw[ez]at h;have⟨bs,e,rfl⟩:=h;have B:=ly e;subst B;have⟨a',ws,ex,i,j⟩:=l.list g;have:=j.VO;subst this;show call_of (xO G) I rv ⟨a',bs,by rw[ex],z▸i,q.flat o g n rfl⟩
  .cases h
 |_=>cases h
def Br{id:String}(g:X.calm=bD)(i:C.K=X.K)(j:X.A.guards=a5 [])(k:X.A.units+60<KX)(l:f.val=.builtin id)(n:Gl X x)(o:X.mg x=b8)(u:tA x=a5 (.builtin id))(v:x≠"__name__")(y:(x==("__debug__":Str))=cc)
  (B:PA X (e::es) (KC C ms)) (D:gj (e::es) X.env=(cc,uk e X.env)::gj es X.env) (G:(x2 pos (gj es X.env)).any (·.1)=cc) :
  PE X (.Call (.Name x p) (e::es) [] pos) (Jl C (ms >>= λrs=>aC rs >>= λ_=>M.Jt (Lf f rs))):=by
 rintro pins s σ H Q I ⟨c0,rfl,rfl,J,h⟩;show oT (dm I n o u ?_ v y);show Pd (Jo (args B I J h pos) λus s1 ⟨rs,c,vs,t,L,rv,w⟩=>?_) D G;have⟨r,e,q⟩:=bJ.mp w;have z:=CJ g i j k t L rv e q;rw[l,t.hσ]at z;show z
def Bs(g:X.calm=bD)(i:C.K=X.K)(j:X.A.guards=a5 [])(k:X.A.units+60<KX)(l:f.val=.type T)(n:Gl X x)(o:X.mg x=b8)(u:tA x=a5 (.type T))(v:x≠"__name__")(y:(x==("__debug__":Str))=cc)
  (B:PA X (e::es) (KC C ms)) (D:gj (e::es) X.env=(cc,uk e X.env)::gj es X.env) (G:(x2 pos (gj es X.env)).any (·.1)=cc) :
  PE X (.Call (.Name x p) (e::es) [] pos) (Jl C (ms >>= λrs=>aC rs >>= λ_=>M.Jt (Lf f rs))):=by
 rintro pins s σ H Q I ⟨c0,rfl,rfl,J,h⟩;show oT (dm I n o u ?_ v y);show Mk (Jo (args B I J h pos) λus s1 ⟨rs,c,vs,t,L,rv,w⟩=>?_) D G;have⟨r,e,q⟩:=bJ.mp w;have z:=CJ g i j k t L rv e q;rw[l,t.hσ]at z;show z
abbrev Lz.name:Lz->Str
 |.str=>"str"|.list=>"list"|.tuple=>"tuple"|.int=>"int"|.bool=>"bool"
abbrev Lz.nm:Lz->String
 |.str=>"str"|.list=>"list"|.tuple=>"tuple"|.int=>"int"|.bool=>"bool"
def Bt(T:Lz):tA T.name=a5 (.type T.nm)/\T.name≠"__name__"/\(T.name==("__debug__":Str))=cc:=by
 cases T<;>show⟨by decide +kernel,by decide +kernel,by decide +kernel⟩
def iW(T:Lz):ZX (.type T.nm)=pure (.type "type"):=by cases T<;>kernel_rfl
def km(T:Lz):Oj (.type "str") (.type T.nm)=pure (cK (T=.str)):=by cases T<;>(rw[zy];kernel_rfl)
def sub_int(T:Lz):Oj (.type "int") (.type T.nm)=pure (cK (T=.int)):=by cases T<;>(rw[zy];kernel_rfl)
def ne_str{T:Lz}(h:¬T=.str):(ri "str"==ri T.nm)=cc:=by cases T<;>first|show absurd rfl h|decide
def ne_int{T:Lz}(h:¬T=.int):(ri "int"==ri T.nm)=cc:=by cases T<;>first|show absurd rfl h|decide
def qy(T:Lz):Oj (.type "list") (.type T.nm)=pure (cK (T=.list)):=by cases T<;>(rw[zy];kernel_rfl)
def uD(T:Lz):Oj (.type "tuple") (.type T.nm)=pure (cK (T=.tuple)):=by cases T<;>(rw[zy];kernel_rfl)
def Bu{T:Lz}(h:¬T=.list):(ri "list"==ri T.nm)=cc:=by cases T<;>first|show absurd rfl h|decide
def Es{T:Lz}(h:¬T=.tuple):(ri "tuple"==ri T.nm)=cc:=by cases T<;>first|show absurd rfl h|decide
def Et{b:Bool}(z:C.K=X.K)(t:Lv C c0 c x v)(I:Inv X pins c.σ c.H s)(rv:RelV v val)(h:oX x.2 T=a5 b)(q:∀j,Q (.bool b) {s with toks:=j}):
  d3 (eh X.prog X.w) X.A (NK (.builtin "isinstance") [val,.type T.nm]) Q X.xe s:=by
 have⟨k,u⟩:=x;have⟨O,i,n,r⟩:=t;have D:Q (.bool b) s:=q s.toks
 dsimp only at h r
 have g:∀{B:String},b=bD->s.TypeIs val B->Oj (.type B) (.type T.nm)=pure bD->d3 (eh X.prog X.w) X.A (NK (.builtin "isinstance") [val,.type T.nm]) Q X.xe s:=λe G hs=>by
  subst e;show ĩ G (iW T) hs D
 unfold oX at h;split at h
 .cases h;have e:v=_:=r.str i;subst e;have⟨j,rfl⟩:=rv;by_cases f:T=.str
  .subst f;show g (by simp) (Yw s _ j) (km .str)
  .rw[Ń f]at q;show Ut (isinstance_false_str (ne_str f) (iW T) (by rw[km,Ń f])) (q _)
 .cases h;have e:v=_:=r.int i;subst e;have⟨j,rfl⟩:=rv;by_cases f:T=.int
  .subst f;show g (by simp) (typeIs_int s _ j) (sub_int .int)
  .rw[Ń f]at q;show Ut (isinstance_false_int (ne_int f) (iW T) (by rw[sub_int,Ń f])) (q _)
 .cases h;have e:v=_:=r.bl i;subst e;cases rv;show g rfl (PySem.typeIs_bool s _) (by rw[zy];kernel_rfl)
 .cases h;have e:v=_:=r.bl i;subst e;cases rv;show g rfl (PySem.typeIs_bool s _) (by rw[zy];kernel_rfl)
 .cases h;have⟨a',ws,rfl,l,J⟩:=r.list i;cases rv;rw[z]at l;obtain⟨L,_,N,_⟩:=I.list l;obtain⟨o,ho,y,_⟩:=N.isList;by_cases f:T=.list
  .subst f;show g (by simp) ⟨o,ho,y⟩ (qy .list)
  .rw[Ń f]at q;show Ut (isinstance_false_list (Bu f) (iW T) (by rw[qy,Ń f])) ⟨⟨o,ho,y⟩,q _⟩
 .cases h;have⟨a',ws,rfl,l,J⟩:=r.tuple i;cases rv;rw[z]at l;obtain⟨L,_,⟨o,ho,y,_⟩,_⟩:=I.tuple l;by_cases f:T=.tuple
  .subst f;show g (by simp) ⟨o,ho,y⟩ (uD .tuple)
  .rw[Ń f]at q;show Ut (isinstance_false_tuple (Es f) (iW T) (by rw[uD,Ń f])) ⟨⟨o,ho,y⟩,q _⟩
 .cases h
def uE(g:C.K=X.K)(i:Gl X "isinstance")(j:X.mg "isinstance"=b8)(k:Gl X T.name)(l:X.mg T.name=b8)(n:PE X a (Jl C ma))(hs:gj [a,.Name T.name p2] X.env=(cc,uk a X.env)::gj [.Name T.name p2] X.env):
  PE X (.Call (.Name "isinstance" p) [a,.Name T.name p2] [] pos) (Jl C (ma >>= λx=>M.Jt (oX x.2 T) >>= λb=>pure (.loc,.bl b))):=by
 rintro pins s σ H Q I ⟨c0,rfl,rfl,o,h⟩;have⟨q,r,u⟩:=Bt T;show oT (dm I i j (show tA "isinstance"=a5 (.builtin "isinstance") by decide +kernel) ?_ (by decide +kernel) (by decide +kernel));show Pd (Jo (cH n (cH (tT (v:=.ty T.nm) k l q rfl r u) eS) hs pos pins s c0.σ c0.H (λvs H'=>∃x c v b,Lv C c0 c x v/\c.H=H'/\vs=[v,.ty T.nm]/\oX x.2 T=a5 b/\cz C c0 Q (.loc,.bl b) c.st) I ?_) λus s1 ⟨vs,N,f,y,x,c,v,b,t,e,A,B,w⟩=>?_) hs (by rfl)
 .show aO o h λx c v t w=>?_;rw[ah]at w;have⟨b,e,w⟩:=bJ.mp w;rw[ao]at w;show⟨x,c,v,b,t,rfl,rfl,e,w⟩
 .subst e A;have⟨O,u2,rfl,D,G⟩:=vals2 y;cases G;have J:Inv X pins c.σ c.H s1:=by rw[t.hσ];show f
  have z:=Et (Q:=EP X pins c0.σ Q) g t J D B λL=>⟨.bl b,c.H,f.tok L,rfl,w c (.bl b) t.hσ rfl t.ok t.nx rfl⟩
  show z
@[reducible]def MZ(P:uv)(w:wq)(K:PySem.W.Frag)(H:Hp)(f:d7->Prop):Ct:=⟨P,w,K,H,f,λ_=>False,λ_ _=>False⟩
structure Back(C:Ct)(H H':Hp)(S':d7->Prop)(k:Kd)(u:U)(v:V):Prop where
 same:oG H H'
 new:∀a,S' a->H a=b8/\∃o,H' a=a5 o
 own:k=.own->∃r,v=.ref r/\H r=b8/\¬S' r/\da C S' H' r u
 loc:k=.loc->Rep C S' H' u v
 any:k=.any->Rep C (PS C S') H' u v
abbrev spT(P:uv)(w:wq)(K:PySem.W.Frag)(F:List U->Option (Ex (Kd×U)))(g:Nat):Sp:=λvs H Q E=>vs.length=g/\∃us r f,F us=a5 r/\(∀a,f a->KJ H a)/\au (MZ P w K H f) f H us vs/\match r with
 |.ok (k,u)=>(k=.own\/k=.loc\/k=.any)/\∀v H' S',Back (MZ P w K H f) H H' S' k u v->Q v H'
 |.exc c=>∀C H',PySem.W.nsIn K i3 c=a5 (a5 (.ref C))->oG H H'->E (.ref C) b8 H'
def LM.read(t:LM C c0 c rs vs):au C (KJ c.H) c.H (rs.map (·.2)) vs:=by
 have f:∀(l:List (Kd×U)) (w:List V),cX C c0 c l w->aX l c.st->au C (KJ c.H) c.H (l.map (·.2)) w:=by
  intro l;induction l with
  |nil=>intro w h _;show h
  |cons r l g =>
   intro w h hs;obtain⟨v,t',rfl,i,j,_⟩:=h;rw[dS]at hs;show⟨v,t',rfl,(i.t hs.1).read t.ok,g t' j hs.2⟩
 show f rs vs t.rep t.OP
def Back.here(hk:k=.own\/k=.loc)(i:c.σ=c0.σ)(f:Ok C c)(n:Nx c0 c)(q:j.Eqv C)(h:Back j c.H H' S' k u v)(w:cz C c0 Q (k,u) c.st):Q v H':=by
 have⟨l,t⟩:=f.grow (S':=λa=>c.S a\/S' a) h.same (λa z=>z.imp id λz=>h.new a z) λa=>.inl;have x:=n.trans t;show w {c with H:=H',S:=λa=>c.S a\/S' a} v i rfl l x ?_;rcases hk with rfl|rfl
 .have⟨r,e,g,y,A⟩:=h.own rfl;have⟨G,B,I,J,D⟩:=f.ll g;show⟨r,e,n.none g,λz=>z.elim B y,D,(A.cg q).mv (.up λa=>.inr) λo q=>q⟩
 .show((h.loc rfl).cg q).mv (.up λa=>.inr)
def yB(o:C.P=X.prog)(x:C.w=X.w)(y:C.K=X.K)(L:Γ f=F)(hk:∀us k u,F us=a5 (.ok (k,u))->(k=.own\/k=.loc\/k=.any)/\us.length=B)
  (G:iE X.prog X.w X.K X.mg X.base (N1 X.prog X.w) k fa N ps (spT X.prog X.w X.K F B)) (O:fw k X.A) (T:Gl X f) (Y:X.mg f=a5 (.ref fa)) (OQ:PySem.W.keepIn X.K (.ref fa)=bD) (j:Binds X.K N ps [])
  (LW:(f==("__debug__":Str))=cc) (ha:PA X (e::es) (KC C ms)) (he:gj (e::es) X.env=(cc,uk e X.env)::gj es X.env) (JZ:(x2 pos (gj es X.env)).any (·.1)=cc) :
  PE X (.Call (.Name f p) (e::es) [] pos) (Jl C (ms >>= λrs=>aC rs >>= λ_=>lq Γ f (rs.map (·.2)))):=by
 rintro pins s σ H Q I ⟨c0,rfl,rfl,ok,h⟩;show oT (ft I T Y ?_ LW);show PySem.W.callWith_K (h₀:=X.base) I.ok.mod.Oe OQ (Jo (args ha I ok h pos) λus s1 ⟨rs,c,vs,t,D,rv,w⟩=>⟨D.Mw,?_⟩) he JZ;have⟨r,st',g,q⟩:=w;unfold lq at g;rw[L]at g;cases i:F (rs.map (·.2)) with
 |none=>rw[i]at g;cases g
 |some r' =>
  rw[i]at g;split at g
  .cases g
  .rename_i z;cases z
  rename_i Yh e3;cases e3;cases g;have⟨l,u⟩:=r;have⟨k0,k2⟩:=hk _ _ _ i;have k1:l=.own\/l=.loc:=by
   rcases k0 with z|z|z
   .show .inl z
   .show .inr z
   .subst z;show(Yh u rfl).elim
  have n:C.Eqv (MZ X.prog X.w X.K c.H (KJ c.H)):=⟨o,x,y⟩
  have Lg:(MZ X.prog X.w X.K c.H (KJ c.H)).Eqv C:=⟨o.symm,x.symm,y.symm⟩
  have J:=t.read;have KI:spT X.prog X.w X.K F B vs c.H (λv H'=>Q v H') E0:=⟨by rw[<-J.len];show k2,rs.map (·.2),.ok (l,u),KJ c.H,i,λ_ z=>z,J.cg n,k0,λv H' S' j=>j.here k1 t.hσ t.ok t.nx Lg q⟩
  have z:=xA (Q:=Q) G O j .nil Gu D rv (by rw[rr];show KI);rw[t.hσ]at z;show z
end
section
abbrev Mf.id:Mf->String
 |.split=>"str.split"|.join=>"str.join"|.partition=>"str.partition"|.endswith=>"str.endswith"
abbrev Mf.name:Mf->Str
 |.split=>"split"|.join=>"join"|.partition=>"partition"|.endswith=>"endswith"
def yC(h:mJ f u rs=a5 r):∃x,u=.str x:=by
 unfold mJ at h;split at h
 .show⟨_,rfl⟩
 .cases h
def Eu(k:C.K=X.K)(t:LM C a c (x::rs) (b::vs))(I:Inv X pins c.σ c.H s)(l:RelV b v)(rv:Vals vs us)(h:mJ f x.2 rs=a5 r)(q:cz C a Q r c.st):
  d3 (eh X.prog X.w) X.A (NK (.builtin f.id) (v::us)) (EP X pins c.σ Q) X.xe s:=by
 have m:=t.hσ;have d:=t.ok;have n:=t.nx;have⟨o,p⟩:=x;have hs:=dS.mp t.OP;obtain⟨D,G,u,g,i,-⟩:=t.rep;cases u;have y:aS C a c o p b:=g.t hs.1;have one:∀{r:Kd×U},cX C a c [r] vs->aX [r] c.st->∃v,vs=[v]/\aS C a c r.1 r.2 v:=λ{r} h s=>by
  obtain⟨v,t',rfl,g,i,_⟩:=h;cases i;show⟨v,rfl,g.t s⟩
 dsimp only at h
 unfold mJ at h;split at h
 .rw[r3]at h;have⟨ss,e,h⟩:=h;have z:=cY e;subst z;have⟨w,rfl,ty⟩:=one i hs.2;have⟨a',ws,ex,B,j⟩:=ty.list d;rw[au.strs]at j;subst j;split at h
  .cases h;show AQ pins s c.σ c.H b [w] v us Q I l rv ⟨_,a',ss,y.str d,by rw[ex],k▸B,by assumption,q.flat m d n rfl⟩
  .cases h
 .cases h
def Bx(N:C.K=X.K)(slot:Slot "str" name f.id)(O:ZX (.builtin f.id)=pure (.type "method_descriptor"))(ho:PE X o (Jl C m))(T:PA X (e::es) (KC C ms))
  (Y:SO o name X.env (uk o X.env)=uk o X.env)
  (J7:((x2 d (gj (e::es) X.env)).all (λx=>!x.1)&&(P1 d (Lj [] X.env)).all (λx=>x.1.isSome)
   && cK ((e::es).length+([]:List MF).length+(if ([]:List MF).isEmpty then 0 else 1)<30))=bD)
  (Js:(j.endLine==d.line)=bD) (hs:gj (e::es) X.env=(cc,uk e X.env)::gj es X.env) (Ka:(x2 d (gj es X.env)).any (·.1)=cc) :
  PE X (.Call (.Attribute o name j) (e::es) [] d) (Jl C (m >>= λx=>ms >>= λrs=>aC (x::rs) >>= λ_=>M.Jt (mJ f x.2 rs))):=by
 rintro pins s σ H Q I ⟨a,rfl,rfl,ok,h⟩;show ZT Y J7 Js rfl (Jo (ho pins s a.σ a.H (λk u=>∃x b,b.H=u/\Lv C a b x k/\W (ms >>= λrs=>aC (x::rs) >>= λ_=>M.Jt (mJ f x.2 rs)) b.st (cz C a Q)) I (aO ok h λx c v t w=>⟨x,c,rfl,t,w⟩)) ?_);rintro v s1 ⟨k,u,y,A,x,b,rfl,t,w⟩;have OR:∃z,x.2=.str z:=by
  rw[ah]at w;obtain⟨rs,st2,_,w⟩:=w;rw[ah]at w;obtain⟨_,JJ,_,w⟩:=w;obtain⟨r,e,_⟩:=bJ.mp w;show yC e
 have⟨z,hz⟩:=OR;have B:=t.rx;rw[hz]at B;have ev:=B.str t.ok;have ty:Rj X.K "str" k b.H:=by rw[ev];rfl
 have⟨h1,h2⟩:=oF y A ty;show⟨"str",f.id,PySem.F.plainAttrs_str,slot,O,h1,h2,?_⟩;rw[ah]at w;have D:=T d pins s1 a.σ b.H (λvs G=>∃rs g,g.H=G/\LM C a g (x::rs) (k::vs)/\W (M.Jt (mJ f x.2 rs)) g.st (cz C a Q)) y ⟨b,t.hσ,rfl,t.ok,w.mono λrs st2 n g vs J e4 Jv L l=>by
  rw[ah,bR]at n;subst e4;show⟨rs,g,rfl,⟨J,Jv,t.nx.trans L,⟨k,vs,rfl,t.rx.w.on t.ok L (J.trans t.hσ.symm),l.from t.nx,λhk i r' v' e5 e6 JO=>jx t.rx.w (l.get e5 e6) hk JO⟩,n.1⟩,n.2⟩⟩
 rw[hs]at D ⊢;show JS (by change(cc||(x2 d (gj es X.env)).any (·.1))=cc;rw[Ka]<;>rfl) (Lw ?_);show Jo D ?_;rintro us s2 ⟨vs,G,I2,l,rs,g,rfl,p,w2⟩;have⟨r,e,q⟩:=bJ.mp w2;have z:=Eu N p (by rw[p.hσ];show I2) A l e q;rw[p.hσ]at z;show z
end
section
variable{X:Cx}{C:Ct}{pins:List (d7×Obj)}{s:d5}{c0 c c1:Cf}
variable{e:lg}{es:List lg}{ms:M (List (Kd×U))}{pos p p2 pos2:Pos}
abbrev B2.out:B2->dt
 |.MW=>.type "tuple"|.Lc=>.type "list"|.sset=>.builtin "sorted"|.kQ=>.builtin "len"
abbrev B2.RK:B2->dt
 |.MW=>.type "reversed"|.Lc=>.type "reversed"|.sset=>.type "set"|.kQ=>.type "set"
abbrev B2.oZ:B2->Str
 |.MW=>"tuple"|.Lc=>"list"|.sset=>"sorted"|.kQ=>"len"
abbrev B2.iX:B2->Str
 |.MW=>"reversed"|.Lc=>"reversed"|.sset=>"set"|.kQ=>"set"
theorem au.rev{S:d7->Prop}:∀{us:List U}{vs:List V},au C S H us vs->au C S H us.reverse vs.reverse
 |[],vs,h=>by cases h;show rfl
 |u::us,vs,h=>by
  have⟨v,r,rfl,a,b⟩:=h;rw[Sf,Sf];show(au.rev b).append ⟨v,[],rfl,a,rfl⟩
def nv(i:C.K=X.K)(j:Ok C c)(l:aS C c0 c k u v)(h:ia u=a5 ss):∃a b,v=.ref a/\(JN X.K c.H a (b.map V.str)\/JY X.K c.H a (b.map V.str))/\b.length+1<x3/\ss=aD b:=by
 unfold ia at h;split at h
 .rw[r3]at h;have⟨b,e,h⟩:=h;have g:=cY e;subst g;have⟨a',ws,ex,f,d⟩:=l.list j;rw[au.strs]at d;subst d;split at h
  .cases h;show⟨a',b,ex,.inl (i▸f),by assumption,rfl⟩
  .cases h
 .rw[r3]at h;have⟨b,e,h⟩:=h;have g:=cY e;subst g;have⟨a',ws,ex,f,d⟩:=l.tuple j;rw[au.strs]at d;subst d;rw[i]at f;split at h
  .cases h;show⟨a',b,ex,.inr f,by assumption,rfl⟩
  .cases h
 .cases h
def Ew(d:X.calm=bD)(k:C.K=X.K)(t:LM C c0 c rs vs)(I:Inv X pins c.σ c.H s)(rv:Vals vs us)(h:sj f rs=a5 r)(q:cz C c0 Q r c.st):
  d3 (eh X.prog X.w) X.A (NK f.RK us) (λv s1=>d3 (eh X.prog X.w) X.A (NK f.out [v]) (EP X pins c.σ Q) X.xe s1) X.xe s:=by
 have m:=t.hσ;have a:=t.ok;have n:=t.nx;cases f with
 |Lc =>
  have⟨x,rfl,hz⟩:=cp (f:=Ef) h;clear h;have h:=hz;clear hz;have⟨v,rfl,g⟩:=t.one;unfold Ef at h;split at h
  .have⟨a',ws,ex,b,i⟩:=g.list a;rw[k]at b;subst ex;have⟨u,rfl,j⟩:=vals1 rv;cases j;split at h
   .cases h;show yc d I b λl hl=>q.list m a n (dB (by assumption) i).rev l hl
   .cases h
  .cases h
 |sset =>
  have⟨x,rfl,hz⟩:=cp (f:=λx=>(ia x.2).bind λss=>if ss.length<64 then a5 (Kd.own,U.lst ((aH ss).map .str)) else b8) h;clear h;have h:=hz;clear hz;have⟨ss,e,h⟩:=r3.mp h;have⟨v,rfl,g⟩:=t.one;have⟨a',z,rfl,b,i,rfl⟩:=nv k a g e;have⟨u,rfl,j⟩:=vals1 rv;cases j;split at h
  .cases h;show oR d I b i λS h' B o y=>gO d y o (by assumption) λl hl=>q.list m a n (au.strs.mpr rfl) l hl
  .cases h
 |_=>cases h
def uF:∀f:B2,tA f.oZ=a5 f.out/\tA f.iX=a5 f.RK/\f.oZ≠"__name__"/\f.iX≠"__name__"/\(f.oZ==("__debug__":Str))=cc/\(f.iX==("__debug__":Str))=cc:=by
 intro f;cases f<;>show⟨by decide +kernel,by decide +kernel,by decide +kernel,by decide +kernel,by decide +kernel,by decide +kernel⟩
def Ey(f:B2):∃T,f.RK=.type T:=by cases f<;>show⟨_,rfl⟩
def Ez(f:B2):(∃T,f.out=.type T)\/∃T,f.out=.builtin T:=by cases f<;>first|show .inl ⟨_,rfl⟩|show .inr ⟨_,rfl⟩
def uG{M:Model}{E:dt->d5->Prop}(h:d3 M A t (λv a=>d3 M A (NK (.type T) [v]) Q E a) E s):d3 M A (callWith pos (.type T) [] [(cc,t)] []) Q E s :=
 PySem.callWith_type rfl (Lw (KY (i9 h (λ_ _ b=>Nu b) λ_ _ e=>e)))
def o_{M:Model}{E:dt->d5->Prop}(h:d3 M A t (λv a=>d3 M A (NK (.builtin T) [v]) Q E a) E s):d3 M A (callWith pos (.builtin T) [] [(cc,t)] []) Q E s :=
 JS rfl (Lw (KY (i9 h (λ_ _ b=>Nu b) λ_ _ e=>e)))
def yD(b:X.calm=bD)(d:C.K=X.K)(g:Gl X f.iX)(i:X.mg f.iX=b8)
  (j:PA X (e::es) (KC C ms)) (k:gj (e::es) X.env=(cc,uk e X.env)::gj es X.env) (l:(x2 pos2 (gj es X.env)).any (·.1)=cc)
  (I:Inv X pins c0.σ c0.H s) (m:Ok C c0) (h:W (ms >>= λrs=>aC rs >>= λ_=>M.Jt (sj f rs)) c0.st (cz C c0 Q)) :
  d3 (eh X.prog X.w) X.A (uk (.Call (.Name f.iX p2) (e::es) [] pos2) X.env) (λv s1=>d3 (eh X.prog X.w) X.A (NK f.out [v]) (EP X pins c0.σ Q) X.xe s1) X.xe s:=by
 have⟨b1,n,b3,b4,B,o⟩:=uF f;show oT (dm I g i n ?_ b4 o);have a:d3 (eh X.prog X.w) X.A (Ą (x2 pos2 (gj (e::es) X.env))) (λus s1=>d3 (eh X.prog X.w) X.A (NK f.RK us) (λv s1=>d3 (eh X.prog X.w) X.A (NK f.out [v]) (EP X pins c0.σ Q) X.xe s1) X.xe s1) X.xe s :=
  Jo (args j I m h pos2) λus s1 u=>by
   have⟨rs,c,vs,t,x,rv,w⟩:=u;have⟨r,e,q⟩:=bJ.mp w;have z:=Ew b d t x rv e q;rw[t.hσ]at z;show z
 have⟨T,y⟩:=Ey f;rw[y]at a ⊢;show Mk a k l
def By(d:X.calm=bD)(g:C.K=X.K)(i:Gl X f.oZ)(j:X.mg f.oZ=b8)(k:Gl X f.iX)(l:X.mg f.iX=b8)
  (m:PA X (e::es) (KC C ms)) (n:gj (e::es) X.env=(cc,uk e X.env)::gj es X.env) (o:(x2 pos2 (gj es X.env)).any (·.1)=cc) :
  PE X (.Call (.Name f.oZ p) [.Call (.Name f.iX p2) (e::es) [] pos2] [] pos) (Jl C (ms >>= λrs=>aC rs >>= λ_=>M.Jt (sj f rs))):=by
 rintro pins s σ H Q I ⟨c0,rfl,rfl,q,h⟩;have⟨b1,v,b3,b4,r,w⟩:=uF f;show oT (dm I i j b1 ?_ b3 r);have a:=yD (p2:=p2) (pos2:=pos2) d g k l m n o I q h;have t:x2 pos (gj [.Call (.Name f.iX p2) (e::es) [] pos2] X.env)=[(cc,uk (.Call (.Name f.iX p2) (e::es) [] pos2) X.env)]:=rfl;have u:P1 pos (Lj [] X.env)=[]:=rfl;rw[t,u];rcases Ez f with⟨T,b⟩|⟨T,b⟩
 .rw[b]at a ⊢;show uG a
 .rw[b]at a ⊢;show o_ a
end
section
variable{X:Cx}{C:Ct}{pins:List (d7×Obj)}{s:d5}{c0 c c1:Cf}
variable{a b d e o tg:lg}{es:List lg}{m ma mb md:M (Kd×U)}{ms:M (List (Kd×U))}{ta tb:M Bool}{pos p p2 apos G':Pos}
abbrev lA(rs:List (Kd×U))(c f:Cf):Prop:=∀j u,(Kd.bor j,u)∈rs->f.σ[j]?=c.σ[j]?
abbrev Walk(C:Ct)(c:Cf)(rs:List (Kd×U))(xs:List (Kd×U))(J:It):Prop:=∀f,Ok C f->Ns c f->lA rs c f->aX rs f.st ->
 (∀(i:Nat) r,xs[i]?=a5 r->(r.1=.loc\/r.1=.any)/\J.go i f.H/\∀x H',J.Rf i f.H x H'->∃g:Cf,g.H=H'/\g.σ=f.σ/\g.st=f.st/\Ok C g/\Nx f g/\aS C f g r.1 r.2 x) /\
 ∀i:Nat,xs.length<=i->J.stop i f.H
abbrev Nm(C:Ct)(f:Ik)(ms:M (List (Kd×U))):TI:=λσ H R=>∃c0:Cf,c0.σ=σ/\c0.H=H/\Ok C c0/\W (ms >>= λrs=>aC rs >>= λ_=>M.Jt (KU f rs) >>= λxs=>pure (rs,xs)) c0.st λq st' =>
 ∀c J,c.σ=σ->c.st=st'->Ok C c->Nx c0 c->aX q.1 c.st->Walk C c q.1 q.2 J->R J c.H
def aS.walk(g:Ok C c)(n:Ns c f)(i:lA [r] c f)(hs:aX [r] f.st)(h:aS C c0 c r.1 r.2 v):aS C c0 f r.1 r.2 v :=
 (h.w.VM g n λj e=>i j r.2 (by rw[<-e];simp)).t hs
def yE(k:Kd):kE k=.loc\/kE k=.any:=by cases k<;>simp[kE]
def wo(z:C.K=X.K)(A:Ok C c)(h:aS C c0 c k (.lst us) (.ref a')):Walk C c [(k,.lst us)] (us.map λu=>(kE k,u)) (Sm X.K a'):=by
 intro l q n B hs;have h':=aS.walk (r:=(k,.lst us)) A n B hs h;have⟨H,vs,e,f,t⟩:=h'.list q;cases e;rw[z]at f;show⟨λi r w=>?_,λi D=>⟨vs,f,by rw[<-t.len];simpa using D⟩⟩;rw[ki,ez]at w;have⟨u,G,rfl⟩:=w;have⟨v,y,g⟩:=t.get G;show⟨yE k,⟨vs,v,f,y⟩,λx H' j=>?_⟩;have⟨e,j⟩:=j;subst e;have:=j vs f;rw[y]at this;cases this;show⟨l,rfl,rfl,rfl,q,Nx.refl l,aS.item g⟩
def su(z:C.K=X.K)(A:Ok C c)(h:aS C c0 c k (.tup us) (.ref a')):Walk C c [(k,.tup us)] (us.map λu=>(kE k,u)) (Sn X.K a'):=by
 intro l q n B hs;have h':=aS.walk (r:=(k,.tup us)) A n B hs h;have⟨H,vs,e,f,t⟩:=h'.tuple q;cases e;rw[z]at f;show⟨λi r w=>?_,λi D=>⟨vs,f,by rw[<-t.len];simpa using D⟩⟩;rw[ki,ez]at w;have⟨u,G,rfl⟩:=w;have⟨v,y,g⟩:=t.get G;show⟨yE k,⟨vs,v,f,y⟩,λx H' j=>?_⟩;have⟨e,j⟩:=j;subst e;have:=j vs f;rw[y]at this;cases this;show⟨l,rfl,rfl,rfl,q,Nx.refl l,aS.item g⟩
def sv{lo:Int}:Walk C c rs ((fx n).map λi:Nat=>(Kd.loc,U.int (lo+(i:Int)))) (Rh lo n):=by
 intro h l nx t hs;show⟨λi r k=>?_,λi f=>by change n<=i;simpa using f⟩;rw[ki,ez]at k;have⟨j,g,rfl⟩:=k;have f:i<n:=by simpa using(dV.mp g).1
 rw[List.getElem?_range f]at g;cases g;show⟨.inl rfl,f,λy H' q=>?_⟩;have⟨e,rfl⟩:=q;subst e;show⟨h,rfl,rfl,rfl,l,Nx.refl h,rfl⟩
def EA(i:C.K=X.K)(t:PE X a (Jl C ma)):PI X tg a (Nm C .seq (ma >>= λr=>pure [] >>= λrs=>pure (r::rs))):=by
 rintro pins s σ H R I ⟨c0,rfl,rfl,w,h⟩;rw[ah,ah]at h;have⟨r,st1,x,h⟩:=h;rw[ah,ao,ao,ah,bR,ah]at h;have⟨y,h⟩:=h;have⟨xs,j,h⟩:=bJ.mp h;rw[ao]at h;have⟨k,u⟩:=r;cases u with
 |lst us =>
  cases j;show Ax t pins s c0.σ c0.H R I ⟨c0,rfl,rfl,w,_,st1,x,λc v l hs g n f=>?_⟩;have⟨a',vs,rfl,q,A⟩:=f.list g;subst hs;show⟨a',rfl,⟨vs,i▸q⟩,h c _ l rfl g n y (wo i g f)⟩
 |tup us =>
  cases j;show Dx t pins s c0.σ c0.H R I ⟨c0,rfl,rfl,w,_,st1,x,λc v l hs g n f=>?_⟩;have⟨a',vs,rfl,q,A⟩:=f.tuple g;subst hs;have z:=q;rw[i]at z;show⟨a',rfl,⟨vs,z⟩,h c _ l rfl g n y (su i g f)⟩
 |_=>cases j
def yF{k:List (Kd×U)->M β}{Post:β->ay->Prop}(g:Ok C c0)(h:W (ms >>= λrs=>aC rs >>= λ_=>k rs) c0.st Post)
  (hz:∀rs c vs,LM C c0 c rs vs->W (k rs) c.st Post->Z vs c.H):KC C ms c0.σ c0.H Z:=by
 rw[ah]at h;show⟨c0,rfl,rfl,g,h.mono λrs st1 f c1 vs i j l n q=>?_⟩;rw[ah,bR]at f;subst j;show hz rs c1 vs ⟨i,l,n,q,f.1⟩ f.2
def BA(i:Gl X "range")(j:X.mg "range"=b8)(hs:gj [a] X.env=[(cc,uk a X.env)])(k:PA X [a] (KC C ms)):PI X tg (.Call (.Name "range" p) [a] [] pos) (Nm C .Kj ms):=by
 rintro pins s σ H R I ⟨c0,rfl,rfl,l,h⟩;show vG i j k hs pins s c0.σ c0.H R I (yF l h λrs c vs t w=>?_);rw[ah]at w;have⟨xs,g,w⟩:=bJ.mp w;rw[ao]at w;have⟨x,rfl,hz⟩:=cp (f:=yo) g;clear g;have g:=hz;clear hz;have⟨v,rfl,n⟩:=t.one;unfold yo at g;split at g
 .split at g
  .rename_i q;cases g;show⟨_,by rw[n.int t.ok],⋯,⋯,w c _ t.hσ rfl t.ok t.nx t.OP sv⟩
  .cases g
 .cases g
def qz{k:Kd}{us:List U}{h:U}{a':d7}{w:Hp->List V->Prop}(G:∀f,Ok C f->Ns c f->lA [(k,h)] c f->aX [(k,h)] f.st->∃vs,w f.H vs/\au C (SK C f k) f.H us vs):Walk C c [(k,h)] (us.zipIdx.map λp=>(kE k,.tup [.int p.2,p.1])) (Po w):=by
 intro f g n I hs;have⟨vs,j,y⟩:=G f g n I hs;show⟨λi r z=>?_,λi J=>⟨vs,j,by rw[<-y.len];simpa using J⟩⟩;rw[ki,ez]at z;have⟨p,A,rfl⟩:=z;rw[Tt,ez]at A;have⟨u,L,rfl⟩:=A;have⟨v,B,l⟩:=y.get L;show⟨yE k,⟨vs,v,j,B⟩,λx H' q=>?_⟩;have⟨p,N,rfl,q⟩:=q;have O:=q vs v j B;subst O;have⟨Q,t⟩:=g.lay (o:=.tup [.int i,v]) N;show⟨{f with H:=upd f.H p (.tup [.int i,v])},rfl,rfl,rfl,Q,t,aS.item ?_⟩;have D:au C (SK C f k) f.H [.int ((0+i:Nat):Int),u] [.int (i:Int),v]:=by
  rw[Qh];show⟨_,_,rfl,rfl,_,_,rfl,l,rfl⟩
 cases k<;>show⟨p,_,rfl,JY.of aB,by first|show D.mv (g.NB t)|show D.mv (g.mv t)⟩
def EB{es:List lg}{z:Nat}{ps:Pos}(k:C.K=X.K)(A:Gl X "enumerate")(B:X.mg "enumerate"=b8)(hs:gj [a] X.env=[(cc,uk a X.env)])(D:PA X [a] (KC C ms)):PI X (.Tuple es z ps) (.Call (.Name "enumerate" p) [a] [] pos) (Nm C .OK ms):=by
 rintro pins s σ H R I ⟨c0,rfl,rfl,G,h⟩;show AV A B D hs pins s c0.σ c0.H R I (yF G h λrs c vs t w=>?_);rw[ah]at w;have⟨xs,i,w⟩:=bJ.mp w;rw[ao]at w;have⟨x,rfl,hz⟩:=cp (f:=Eg) i;clear i;have i:=hz;clear hz;have⟨v,rfl,l⟩:=t.one;unfold Eg at i;split at i
 .cases i;have⟨a',ws,q,g,j⟩:=l.list t.ok;subst q;show⟨a',rfl,.inl ⟨⟨ws,k▸g⟩,w c _ t.hσ rfl t.ok t.nx t.OP ?_⟩⟩;show qz (a':=a') λJ r n u y=>?_;have⟨L,vs,e,g,j⟩:=(aS.walk t.ok n u y l).list r;cases e;show⟨vs,k▸g,j⟩
 .cases i;have⟨a',ws,q,g,j⟩:=l.tuple t.ok;subst q;rw[k]at g;show⟨a',rfl,.inr ⟨⟨ws,g⟩,w c _ t.hσ rfl t.ok t.nx t.OP ?_⟩⟩;show qz (a':=a') λJ r n u y=>?_;have⟨L,vs,e,g,j⟩:=(aS.walk t.ok n u y l).tuple r;cases e;rw[k]at g;show⟨vs,g,j⟩
 .cases i
def Ok.put(t:Ok C c)(n:Nx c0 c)(Q:i<c.σ.length)(hk:k=.own\/k=.loc\/k=.any)(KD:Ok C c0)(h:aS C c0 c k u v):
  Ok C {c with σ:=c.σ.set i (a5 v),st:=c.st.set i (a5 (k,u))}/\Nx c0 {c with σ:=c.σ.set i (a5 v),st:=c.st.set i (a5 (k,u))}:=by
 have T:i<c.st.length:=by rw[t.len];show Q
 have Y:∀(j:Nat) k' u',(c.st.set i (a5 (k,u)))[j]?=a5 (a5 (k',u'))->j≠i->c.st[j]?=a5 (a5 (k',u')):=λj k' u' e ne=>by rw[hH (qs ne)]at e;show e
 have LB:∀(j:Nat) B,(c.σ.set i (a5 v))[j]?=a5 (a5 B)->j≠i->c.σ[j]?=a5 (a5 B):=λj B e ne=>by rw[hH (qs ne)]at e;show e
 have sl:fY C c.S c.H k u v:=by
  rcases hk with rfl|rfl|rfl
  .have⟨r,e,D,J,y,L⟩:=h;have⟨z0,z1,N,z3,z4⟩:=KD.ll D;show⟨r,e,J,N,z0,L⟩
  .show h
  .show h
 have OS:∀(j:Nat) k' u' r,k'.root=bD->(c.st.set i (a5 (k,u)))[j]?=a5 (a5 (k',u'))->(c.σ.set i (a5 v))[j]?=a5 (a5 (.ref r))->j=i/\k=.own/\v=.ref r\/j≠i/\c.st[j]?=a5 (a5 (k',u'))/\c.σ[j]?=a5 (a5 (.ref r)):=λj k' u' r G g l=>by
  by_cases f:j=i
  .subst f;rw[d6 T]at g;rw[d6 Q]at l;cases g;cases l;rcases hk with rfl|rfl|rfl
   .show .inl ⟨rfl,rfl,rfl⟩
   .cases G
   .cases G
  .show .inr ⟨f,Y j k' u' g f,LB j _ l f⟩
 have dD:∀(j:Nat) (u':U),(c.st.set i (a5 (k,u)))[j]?=a5 (a5 (.Je,u'))->c.st[j]?=a5 (a5 (.Je,u'))/\(c.σ.set i (a5 v))[j]?=c.σ[j]?:=λj u' e=>by
  by_cases f:j=i
  .subst f;rw[d6 T]at e;cases e;rcases hk with hk|hk|hk<;>cases hk
  .show⟨Y j .Je u' e f,hH (qs f)⟩
 have b1:∀a,({c with σ:=c.σ.set i (a5 v),st:=c.st.set i (a5 (k,u))}:Cf).R1 a->c.R1 a\/k=.own/\v=.ref a:=λa JD=>by
  have⟨j,k',u',G,g,l⟩:=JD;rcases OS j k' u' a G g l with⟨O,w,x⟩|⟨O,w,x⟩
  .show .inr ⟨w,x⟩
  .show .inl ⟨j,k',u',G,w,x⟩
 have NG:Mo C {c with σ:=c.σ.set i (a5 v),st:=c.st.set i (a5 (k,u))}:=t.dd.of rfl dD (λa z=>(b1 a z).imp id λ⟨q1,q2⟩ j z'=>by
  subst q1;obtain⟨I,e,_,_,y,_⟩:=h;rw[q2]at e;cases e;show y (.inr ⟨j,z'⟩)) (.up λ_ z=>z) λj a z=>⟨(t.root (.inr ⟨j,z⟩)).1,λo q=>q⟩
 show⟨⟨t.same,t.Lu,t.par,t.io,by simp[t.len],λj k' u' e=>?_,λj1 j2 k1 k2 u1 u2 r Uj QB g l e3 e4=>?_,NG⟩,⟨⟨n.keep,n.there,λa z=>?_,n.sub,n.new⟩⟩⟩
 .by_cases f:j=i
  .subst f;rw[d6 T]at e;cases e;show⟨v,by rw[d6 Q],sl⟩
  .have⟨B,g,l⟩:=t.sl j k' u' (Y j k' u' e f);show⟨B,by rw[hH (qs f)];show g,l⟩
 .have z1:=OS j1 k1 u1 r Uj g e3;have N:=OS j2 k2 u2 r QB l e4;rcases z1 with⟨O,w,x⟩|⟨O,w,x⟩
  .rcases N with⟨b1,A,b3⟩|⟨b1,A,b3⟩
   .show O.trans b1.symm
   .subst w;have⟨I,e,D,J,y,L⟩:=h;rw[x]at e;cases e;show(y (.inl ⟨j2,k2,u2,QB,A,b3⟩)).elim
  .rcases N with⟨b1,A,b3⟩|⟨b1,A,b3⟩
   .subst A;have⟨I,e,D,J,y,L⟩:=h;rw[b3]at e;cases e;show(y (.inl ⟨j1,k1,u1,Uj,w,x⟩)).elim
   .show t.inj j1 j2 k1 k2 u1 u2 r Uj QB w A x b3
 .rcases z with z|⟨j,u',I,g,l,e3⟩
  .rcases b1 a z with z|⟨w,x⟩
   .show n.roots a (.inl z)
   .subst w;have⟨I,e,D,J,y,L⟩:=h;rw[x]at e;cases e;show .inr D
  .have⟨q1,q2⟩:=dD j u' g;show n.roots a (.inr ⟨j,u',I,q1,q2▸l,e3⟩)
def pb(z:Ok C c0)(q:Ok C c)(n:Nx c0 c)(A:i<c.σ.length)(t:aS C c0 c r.1 r.2 v)(h:W (dG i r) c.st Post):
  ∃y,y.σ=c.σ.set i (a5 v)/\y.H=c.H/\Ok C y/\Nx c0 y/\Post () y.st:=by
 have⟨k,u⟩:=r;cases k with
 |own =>
  have⟨x,st',e,f⟩:=h;cases e;have⟨g,l⟩:=q.put n A (.inl rfl) z t;show⟨{c with σ:=c.σ.set i (a5 v),st:=c.st.set i (a5 (.own,u))},rfl,rfl,g,l,f⟩
 |loc =>
  have⟨x,st',e,f⟩:=h;cases e;have⟨g,l⟩:=q.put n A (.inr (.inl rfl)) z t;show⟨{c with σ:=c.σ.set i (a5 v),st:=c.st.set i (a5 (.loc,u))},rfl,rfl,g,l,f⟩
 |any =>
  have⟨x,st',e,f⟩:=h;cases e;have⟨g,l⟩:=q.put n A (.inr (.inr rfl)) z t;show⟨{c with σ:=c.σ.set i (a5 v),st:=c.st.set i (a5 (.any,u))},rfl,rfl,g,l,f⟩
 |bor j =>
  have⟨x,st',e,f⟩:=h;rw[show dG i (.bor j,u) c.st=match c.st[j]? with|some (a5 (.own,u))=>a5 (Ex.ok (),(c.st.set j (a5 (.loc,u))).set i (a5 (.loc,u)))|_=>b8 from rfl]at e;split at e
  .rename_i w D;cases e;obtain⟨O,G,r,J,_⟩:=q.sl j _ _ D;have I:c.σ[j]?=a5 (a5 v):=t.2;rw[I]at G;cases G;subst J;have⟨L,N,B⟩:=q.yz n D I;have⟨g,l⟩:=Ok.put (c:={c with S:=λa=>c.S a\/a=r,st:=c.st.set j (a5 (.loc,w))}) L N (k:=.loc) (u:=w) (v:=.ref r) A (.inr (.inl rfl)) z B;show⟨{S:=λa=>c.S a\/a=r,H:=c.H,σ:=c.σ.set i (a5 (.ref r)),st:=(c.st.set j (a5 (.loc,w))).set i (a5 (.loc,w)),kid:=c.kid},rfl,rfl,g,l,f⟩
  .cases e
 |_=>show t.elim
end
section
abbrev tG(C:Ct)(t:Bool)(is:List Nat):TG:=λv σ H Q=>∃b c r,c.σ=σ/\c.H=H/\Ok C b/\Ok C c/\Nx b c/\aS C b c r.1 r.2 v/\W (dR t is r) c.st λ_ st' =>
 ∀a,a.st=st'->Ok C a->Nx b a->(∀j,j∉is->a.σ[j]?=c.σ[j]?)->a.σ.length=c.σ.length->Q a.σ a.H
structure sy(X:Cx)(e:lg)(i:Nat):Prop where
 is:∃x pos,e=.Name x pos/\X.N[i]?=a5 x/\Loc X.env.scope x/\(X.fn x=bD\/X.env.scope.names.lookup x=a5 .local)
def EC(f:X.N.Nodup)(h:sy X e i):PG X e (tG C cc [i]):=by
 have⟨x,pos,rfl,d,g,k⟩:=h.is;rintro pins s σ H v u Q I rv ⟨D,c,r,rfl,rfl,l,m,n,a,w⟩;have o:i<c.σ.length:=by rw[I.len];show(dV.mp d).1
 have⟨p,b,t,y,A,q⟩:=pb (r:=r) l m n o a w;show tW f d g k pins s c.σ c.H v u Q I rv ?_;have z:=q p rfl y A (λj B=>by rw[b,hH (by intro z;show B (by simp[z]))]) (by rw[b];simp);rw[b,t]at z;show z
abbrev Uk:List Nat->Pb
 |[]=>FZ
 |i::is=>CC (tV i) (Uk is)
inductive fD(X:Cx):List lg->List Nat->Prop where
 |nil:fD X [] []
 |cons {e:lg} {es:List lg} {i:Nat} {is:List Nat} (h:sy X e i) (t:fD X es is):fD X (e::es) (i::is)
def wt(a:X.N.Nodup)(h:fD X es is):PU X es (Uk is):=by
 induction h with
 |nil=>show Au
 |cons h t b =>
  have⟨x,pos,rfl,c,d,e⟩:=h.is;show xq (tW a c d e) b rfl
def sA(h:fD X es is):(Qb es X.env).length=is.length/\(Qb es X.env).findIdx? (·.1)=b8:=by
 induction h with
 |nil=>show⟨rfl,rfl⟩
 |cons h t a =>
  have⟨x,pos,rfl,b,c,d⟩:=h.is;show⟨?_,?_⟩
  .change(_::_).length=_;simp[a.1]
  .change X4 _ (_::_)=b8;rw[List.findIdx?_cons,ł (by simp),a.2];rfl
theorem uH(hk:kE k=k)(h:Ok C g):∀{is:List Nat}{us:List U}{vs:List V}{c:Cf}{Post:Unit->ay->Prop}{Q:L2.St->Hp->Prop},Ok C c->Nx g c->(∀i∈is,i<c.σ.length)->au C (SK C c k) c.H us vs->W (sets is (us.map λu=>(k,u))) c.st Post ->
  (∀b,Post () b.st->Ok C b->Nx g b->(∀j,j∉is->b.σ[j]?=c.σ[j]?)->b.σ.length=c.σ.length->Q b.σ b.H)->Uk is vs c.σ c.H Q
 |[],[],vs,c,Post,Q,ok,n,d,a,w,q=>by
  rw[show sets [] (W' (λu=>(k,u)) [])=pure () from rfl,ao]at w;show⟨a,q c w ok n (λ_ _=>rfl) rfl⟩
 |[],u::us,vs,c,Post,Q,ok,n,d,a,w,q=>(bp.mp w).elim
 |i::is,[],vs,c,Post,Q,ok,n,d,a,w,q=>(bp.mp w).elim
 |i::is,u::us,vs,c,Post,Q,ok,n,d,a,w,q=>by
  rw[show sets (i::is) (W' (λu=>(k,u)) (u::us))=dG i (k,u) >>= λ_=>sets is (us.map λu=>(k,u)) from rfl,ah]at w;have⟨v,r,rfl,l,m⟩:=a;have o:k=.own\/k=.loc\/k=.any:=by cases k<;>simp[kE]at hk<;>simp
  have D:k≠.own:=by cases k<;>simp[kE]at hk<;>simp
  have rt:aS C g c k u v:=by rw[<-hk];show aS.item l
  have⟨s,t⟩:=ok.put n (d i (by simp)) o h rt;have es:dG i (k,u)=λst=>a5 (.ok (),st.set i (a5 (k,u))):=by cases k<;>simp[kE]at hk<;>rfl
  obtain⟨_,st',e,x⟩:=w;rw[es]at e;cases e;show⟨v,r,rfl,uH (c:={c with σ:=c.σ.set i (a5 v),st:=c.st.set i (a5 (k,u))}) hk h s t (λj f=>by simpa using d j (by simp[f])) (by cases k<;>show m) x λb p y A B hl=>?_⟩;show q b p y A (λj f=>?_) (by rw[hl];simp);rw[B j (λz=>f (by simp[z])),hH (λz=>f (by simp[z]))]
def GI(j:X.calm=bD)(m:C.K=X.K)(o:X.N.Nodup)(h:fD X es is)(hl:∀i∈is,i<X.N.length):PG X (.Tuple es T pos) (tG C bD is):=by
 rintro pins s σ H v u Q I rv ⟨Y,c,r,rfl,rfl,q,e,n,b,w⟩;have⟨t,y⟩:=sA h;show Ds j (wt o h) t y pins s c.σ c.H v u Q I rv ?_;have⟨k,z⟩:=r;cases z with
 |tup us =>
  rw[show dR bD is (k,.tup us)=sets is (us.map λu=>(kE k,u)) from by cases is<;>rfl]at w;have⟨a',vs,rfl,f,g⟩:=b.tuple e;rw[m]at f;have a:us.length=is.length:=by
   have d:∀(is:List Nat) (l:List (Kd×U)) (st:ay) (P:Unit->ay->Prop),W (sets is l) st P->l.length=is.length:=by
    intro is;induction is with
    |nil=>intro l st P w;cases l with
     |nil=>rfl
     |cons _ _=>show(bp.mp w).elim
    |cons i is A=>intro l st P w;cases l with
     |nil=>show(bp.mp w).elim
     |cons x l =>
      rw[show sets (i::is) (x::l)=dG i x >>= λ_=>sets is l from rfl,ah]at w;obtain⟨_,_,_,w⟩:=w;rw[i6,i6,A l _ _ w]
   simpa using d _ _ _ _ w
  show⟨a',vs,rfl,f,by rw[<-g.len,a],?_⟩;show uH (k:=kE k) (by cases k<;>rfl) q e n (λi B=>by rw[I.len];show hl i B) (by cases k<;>show g) w λD p G J L O=>p D rfl G J L O
 |_=>cases is<;>show(bp.mp w).elim
end
section
variable{X:Cx}{C:Ct}{pins:List (d7×Obj)}{s:d5}{c0 c c1:Cf}
variable{a b d e o tg iter elt:lg}{es ifs:List lg}{m ma mb md me:M (Kd×U)}{ms:M (List (Kd×U))}{ta tb tc:M Bool}{pos p p2 apos G':Pos}
def wu{m:M α}{st:ay}{Q:α->ay->Prop}:W (inScope k m) st Q↔W m (i2 k b8++st) λa st'=>Q a (st'.drop k):=by
 constructor
 .rintro⟨a,st',e,h⟩;unfold inScope at e;cases q:m (i2 k b8++st) with
  |none=>rw[q]at e;cases e
  |some r=>have⟨g,f⟩:=r;rw[q]at e;cases e;show⟨a,f,q,h⟩
 .rintro⟨a,st',e,h⟩;show⟨a,st'.drop k,by unfold inScope;rw[e],h⟩
abbrev Cf.ext(k:Nat)(c:Cf):Cf:={c with σ:=i2 k b8++c.σ,st:=i2 k b8++c.st,kid:=λj=>c.kid (j - k)}
abbrev Cf.cut(k:Nat)(c:Cf):Cf:={c with σ:=c.σ.drop k,st:=c.st.drop k,kid:=λj=>c.kid (k+j)}
def gy(h:(i2 k b8++l)[j]?=a5 (a5 x)):∃i,j=k+i/\l[i]?=a5 (a5 x):=by
 by_cases f:j<k
 .rw[t6 (by simpa using f)]at h;rw[JI]at h;rw[Ł f]at h;cases h
 .show⟨j - k,⋯,?_⟩;rw[nc (by simp;lia)]at h;simpa using h
def fE:(i2 k b8++l)[k+i]?=l[i]?:=by
 rw[nc (by simp)];simp
def yG:(c.ext k).R1 r↔c.R1 r:=by
 constructor
 .rintro⟨j,g,u,h,l,f⟩;have⟨i,rfl,e⟩:=gy l;rw[Cf.ext,fE]at f;show⟨i,g,u,h,e,f⟩
 .rintro⟨i,g,u,h,l,f⟩;show⟨k+i,g,u,h,by rw[Cf.ext,fE];show l,by rw[Cf.ext,fE];show f⟩
def pd{a:d7}(h:(c.ext k).RD j a):∃i,j=k+i/\c.RD i a:=by
 have⟨u,r,l,f,g⟩:=h;have⟨i,rfl,e⟩:=gy l;rw[Cf.ext,fE]at f;show⟨i,rfl,u,r,e,f,?_⟩;have:(c.ext k).kid (k+i)=c.kid i:=by change c.kid (k+i - k)=_;rw[Yf]
 rw[this]at g;show g
def GJ(h:(c.ext k).R r):c.R r:=by
 rcases h with h|⟨j,h⟩
 .show .inl (yG.mp h)
 .obtain⟨i,_,h⟩:=pd h;show .inr ⟨i,h⟩
def Ok.ext(k:Nat)(f:Ok C c):Ok C (c.ext k)/\Nx c (c.ext k):=by
 show⟨⟨f.same,f.Lu,f.par,f.io,by simp[Cf.ext,f.len],λj A u e=>?_,λi j k1 k2 u u' r B D l g y z=>?_,⟨λj u r l g=>?_,λi j a n q=>?_,λj a n q=>?_⟩⟩,⟨⟨λ_ _ h _=>h,λ_ o h=>⟨o,h⟩,λa h=>.inl (GJ h),λ_ h=>h,λ_ h=>.inl h⟩⟩⟩
 .have⟨i,rfl,G⟩:=gy e;have⟨v,l,g⟩:=f.sl i A u G;show⟨v,by rw[Cf.ext,fE];show l,g⟩
 .have⟨t,rfl,H⟩:=gy l;have⟨w,rfl,I⟩:=gy g;rw[Cf.ext,fE]at y z;rw[f.inj t w k1 k2 u u' r B D H I y z]
 .have⟨i,rfl,e⟩:=gy l;rw[Cf.ext,fE]at g;have:(c.ext k).kid (k+i)=c.kid i:=by change c.kid (k+i - k)=_;rw[Yf]
  rw[this];show f.dd.kd i u r e g
 .have⟨t,rfl,x⟩:=pd n;have⟨w,rfl,J⟩:=pd q;rw[f.dd.dj t w a x J]
 .have⟨i,rfl,x⟩:=pd n;show f.dd.d1 i a x (yG.mp q)
def yH{a:d7}(h:(c.cut k).R1 a):c.R1 a:=by
 have⟨j,i,u,l,f,g⟩:=h;rw[Cf.cut,K2]at f g;show⟨k+j,i,u,l,f,g⟩
def pe{a:d7}(h:(c.cut k).RD j a):c.RD (k+j) a:=by
 have⟨u,r,f,g,i⟩:=h;rw[Cf.cut,K2]at f g;show⟨u,r,f,g,i⟩
def Ok.cut(k:Nat)(f:Ok C c):Ok C (c.cut k)/\Nx c (c.cut k):=by
 show⟨⟨f.same,f.Lu,f.par,f.io,by simp[Cf.cut,f.len],λj x u e=>?_,λi j k1 k2 u u' r y A g l t w=>?_,⟨λj u r g l=>?_,λi j a n q=>?_,λj a n q=>f.dd.d1 _ a (pe n) (yH q)⟩⟩,⟨⟨λ_ _ h _=>h,λ_ o h=>⟨o,h⟩,λa h=>.inl (h.elim (λz=>.inl (yH z)) λ⟨j,z⟩=>.inr ⟨k+j,pe z⟩),λ_ h=>h,λ_ h=>.inl h⟩⟩⟩
 .rw[Cf.cut,K2]at e;have⟨v,g,l⟩:=f.sl _ x u e;show⟨v,by rw[Cf.cut,K2];show g,l⟩
 .rw[Cf.cut,K2]at g l t w;have:=f.inj _ _ k1 k2 u u' r y A g l t w;lia
 .rw[Cf.cut,K2]at g l;show f.dd.kd _ u r g l
 .have:=f.dd.dj _ _ a (pe n) (pe q);lia
def BB(h:∀j,j∉fx k->g[j]?=(i2 k b8++σ)[j]?)(hl:g.length=(i2 k (b8:Option V)++σ).length):∃f:L2.St,f.length=k/\g=f++σ:=by
 show⟨g.take k,by rw[vl,hl];simp,?_⟩;apply Î;intro j;by_cases i:j<k
 .rw[t6 (by rw[vl,hl];simp;lia),List.getElem?_take,Ł i]
 .rw[h j (by simpa using i),nc (by simp;lia),nc (by rw[vl,hl];simp;lia)];congr 1
  rw[vl,hl];simp
def wy(e1:c1.σ=c0.σ)(Jn:Ok C c1)(n1:Nx c0 c1)(hw:Walk C c1 rs xs J)(h3:W (cv k t tc me rs xs []) c1.st λus st'=>W (pure (Kd.own,U.lst us)) st' (cz C c0 Q)):
  ua k J (tG C t (fx k)) (Ks C tc) (Jl C me) Q c0.σ c1.H:=by
 show⟨λi m ys H=>∃c acc,c.H=H/\c.σ=c0.σ/\Ok C c/\Nx c1 c/\m=xs.length - i/\i<=xs.length/\au C c.S c.H acc ys/\acc.length<=cL/\W (cv k t tc me rs (xs.drop i) acc) c.st λus st'=>W (pure (Kd.own,U.lst us)) st' (cz C c0 Q),⟨xs.length,c1,[],rfl,e1,Jn,Nx.refl c1,by simp,i8 _,rfl,i8 _,by simpa using h3⟩,?_⟩;rintro i m ys H ⟨c,acc,rfl,D,q,y,rfl,hi,g,h,w⟩;show⟨by rw[<-g.len];show h,?_⟩;have f:lA rs c1 c:=λj u _=>by rw[D,e1]
 by_cases G:i<xs.length
 .right
  rw[R9 G]at w;rw[show cv k t tc me rs (xs[i]::xs.drop (i+1)) acc=aC rs >>= λ_=>inScope k (dR t (fx k) xs[i] >>= λ_=>tc >>= λb=>if b=bD then(me >>= λr=>lift r >>= λu=>pure (a5 u)) else pure b8) >>= λr=>match r with|some u=>if acc.length<cL then cv k t tc me rs (xs.drop (i+1)) (acc++[u]) else M.fail|none=>cv k t tc me rs (xs.drop (i+1)) acc from rfl,ah,bR]at w;have⟨M0,w⟩:=w;obtain⟨I,_⟩:=hw c q y f M0;have⟨Ul,Pz,Um⟩:=I i xs[i] (by simp[G]);show⟨Pz,λLb H'=>∃c acc,c.H=H'/\c.σ=c0.σ/\Ok C c/\Nx c1 c/\au C c.S c.H acc Lb/\acc.length<=cL/\W (cv k t tc me rs (xs.drop (i+1)) acc) c.st λus st'=>W (pure (Kd.own,U.lst us)) st' (cz C c0 Q),λLb H' ⟨c',J5,z1,z2,z3,z4,z5,z6,z7⟩=>⟨xs.length - (i+1),⋯,c',J5,z1,z2,z3,z4,rfl,G,z5,z6,z7⟩,λx H' hy=>?_⟩;have⟨l,rfl,e4,e5,Jv,n2,rt⟩:=Um x H' hy;rw[ah,wu,ah]at w;have⟨RL,nx⟩:=Jv.ext k;have Yj:aS C (l.ext k) (l.ext k) xs[i].1 xs[i].2 x:=by
   rcases Ul with z|z
   .rw[z]at rt ⊢;show rt
   .rw[z]at rt ⊢;show rt
  have eσ:(l.ext k).σ=i2 k b8++c0.σ:=by rw[Cf.ext];change i2 k b8++l.σ=_;rw[e4,D]
  show⟨l.ext k,l.ext k,xs[i],eσ,rfl,RL,RL,Nx.refl _,Yj,?_⟩;have Yk:(l.ext k).st=i2 k b8++c.st:=by rw[Cf.ext];change i2 k b8++l.st=_;rw[e5]
  rw[Yk];show w.mono λ_ JJ w3 c3 e6 L0 n3 QE PB=>?_;subst e6;rw[eσ]at QE PB;have⟨L,N,O⟩:=BB QE PB;show⟨L,N,O,?_⟩;have VR:Nx c c3:=(n2.trans nx).trans n3;rw[ah]at w3;show⟨c3,rfl,rfl,L0,w3.mono λb st4 n B e7 e8 T n4=>?_⟩;subst e8;cases b with
  |false =>
   rw[ł i0]at n ⊢;rw[ao]at n;have⟨Y,nk⟩:=T.cut k;have nn:Nx c (B.cut k):=(VR.trans n4).trans nk;show⟨B.cut k,acc,rfl,?_,Y,y.trans nn,g.mv (q.mv nn),h,n⟩;change B.σ.drop k=_;rw[e7,O,V5 N]
  |true =>
   rw[Ł rfl]at n ⊢;rw[ah]at n;show⟨B,e7,rfl,T,n.mono λr Mx w5 c5 v e9 Yl Ym n5 Yn=>?_⟩;subst Yl;rw[ah]at w5;obtain⟨S',st',u,sS,Yo,n6,Up,A,_,_⟩:=gw T Ym n5 Yn.w w5;rw[ao]at A
   dsimp only at A
   split at A
   .rename_i hz;have⟨Y,nk⟩:=Yo.cut k;have nn:Nx c (Cf.cut k {c5 with S:=S',st:=st' }):=((VR.trans n4).trans n6).trans nk;show⟨Cf.cut k {c5 with S:=S',st:=st' },acc++[u],rfl,?_,Y,y.trans nn,(g.mv (q.mv nn)).snoc Up,by rw[hY];show hz,A⟩;change c5.σ.drop k=_;rw[e9,O,V5 N]
   .show(bp.mp A).elim
 .left
  have Lq:i=xs.length:=by lia
  subst Lq;rw[Õ,show cv k t tc me rs [] acc=aC rs >>= λ_=>pure acc from rfl,ah,bR,ao,ao]at w;obtain⟨_,I⟩:=hw c q y f w.1;show⟨I _ (hQ _),λp hp=>cz.list w.2 D q (n1.trans y) g p hp⟩
def ny(l:Ok C c0)
  (h:W (ms >>= λrs=>aC rs >>= λ_=>M.Jt (KU n rs) >>= λxs=>cv k t tc me rs xs [] >>= λus=>pure (Kd.own,U.lst us)) c0.st (cz C c0 Q)) :
  xM k (Nm C n ms) (tG C t (fx k)) (Ks C tc) (Jl C me) c0.σ c0.H Q:=by
 rw[ah]at h;show⟨c0,rfl,rfl,l,?_⟩;rw[ah];show h.mono λrs st1 f=>?_;rw[ah,bR]at f ⊢;show⟨f.1,?_⟩;have g:=f.2;rw[ah]at g ⊢;show g.mono λxs st2 i=>?_;rw[ao];intro c1 J q r u v w j;rw[ah]at i;subst r
 dsimp only at w j
 show wy q u v j i
def yI(S:eU X N own scope)(f:X.calm=bD)(g:PI X tg iter (Nm C i ms))
  (j:∀D s H ex,PG (Kg X N scope D s H ex) tg (tG C t (fx own.length))) (k:∀D s H ex,Nw (Kg X N scope D s H ex) ifs (Ks C tc)) (l:∀D s H ex,PE (Kg X N scope D s H ex) elt (Jl C me))
  (hs:∀x,LS iter X.env x=pure x) :
  PE X (.ListComp elt [⟨tg,iter,ifs,0⟩] scope pos) (Jl C (ms >>= λrs=>aC rs >>= λ_=>M.Jt (KU i rs) >>= λxs=>cv own.length t tc me rs xs [] >>= λus=>pure (.own,.lst us))):=by
 show PE.weak (AN S f g j k l hs) ?_;rintro σ H Q ⟨c0,rfl,rfl,n,h⟩;show ny n h
end
section
variable{a b d e o tg iter elt:lg}{es ifs:List lg}{m ma mb md me:M (Kd×U)}{ms:M (List (Kd×U))}{ta tb tc:M Bool}{pos p p2 apos G':Pos}{st:L5}{rest body:List L5}{f g mm:M Fl}{ns Kt:Nat->Bool}
def ED(C:Ct)(c:Cf):Kd->U->V->Prop
 |.own,u,v=>∃r,v=.ref r/\C.H₀ r=b8/\¬c.S r/\¬c.R r/\da C c.S c.H r u
 |.loc,u,v=>Rep C c.S c.H u v
 |.any,u,v=>Rep C (PS C c.S) c.H u v
 |_,_,_=>False
def IT(C:Ct)(Q:VK)(c:Cf):Kd->U->Prop
 |.io,u=>C.xw u c.H
 |k,u=>∀v,ED C c k u v->Q v c.H
abbrev Fin(C:Ct)(D:Ends)(f:Fl)(c:Cf):Prop:=match f with
 |.nx=>D.nx c.σ c.H
 |.bk=>D.bk c.σ c.H
 |.ct=>D.ct c.σ c.H
 |.rt k u=>IT C D.rt c k u
abbrev Kept(ns:Nat->Bool)(c h:Cf):Prop:=(∀j,ns j=bD->h.σ[j]?=c.σ[j]?)/\h.σ.length=c.σ.length
def Kept.refl:Kept ns c c:=⟨λ_ _=>rfl,rfl⟩
def Kept.trans(h:Kept ns c i)(h':Kept ns i k):Kept ns c k:=⟨λj z=>(h'.1 j z).trans (h.1 j z),h'.2.trans h.2⟩
def Kept.le(i:∀j,Kt j=bD->ns j=bD)(h:Kept ns c k):Kept Kt c k:=⟨λj z=>h.1 j (i j z),h.2⟩
def Kept.of(h:i.σ=c.σ):Kept ns c i:=⟨λj z=>by rw[h],by rw[h]⟩
abbrev eN(C:Ct)(h:Cf)(ns:Nat->Bool)(D:Ends)(f:Fl)(st':ay):Prop:=∀c,c.st=st'->Ok C c->Ns h c->Kept ns h c->Fin C D f c
abbrev JL(C:Ct)(ns:Nat->Bool)(m:M Fl):TS:=λD σ H=>∃c:Cf,c.σ=σ/\c.H=H/\Ok C c/\W m c.st (eN C c ns D)
def lB(j:Ok C c)(n:Ns i c)(k:Kept ns i c)(h:W mm c.st (eN C i ns D)):JL C ns mm D c.σ c.H :=
 ⟨c,rfl,rfl,j,h.mono λf st l q e r s k2=>l q e r (n.trans s) (k.trans k2)⟩
def PS.weak(h:L2.PS X st t)(i:∀D σ H,t' D σ H->t D σ H):L2.PS X st t':=λpins s σ H D I q=>h pins s σ H D I (i D σ H q)
def J6.weak(h:J6 X rest t)(i:∀D σ H,t' D σ H->t D σ H):J6 X rest t':=λpins s σ H D I q=>h pins s σ H D I (i D σ H q)
def jz(i:∀j,Kt j=bD->ns j=bD)(h:JL C Kt mm D σ H):JL C ns mm D σ H :=
 let ⟨c,k,l,n,w⟩:=h;⟨c,k,l,n,w.mono λf st q r e s t k2=>q r e s t (k2.le i)⟩
def GK:J6 X [] (JL C ns (pure .nx)):=by
 show J6.weak tU ?_;rintro D σ H ⟨c,rfl,rfl,i,h⟩;rw[ao]at h;show h c rfl i (Ns.refl c) Kept.refl
abbrev BC(m:M Fl)(f:Fl):M Fl:=match f with
 |.nx=>m
 |f=>pure f
def EF(l:L2.PS X st (JL C ns f))(n:J6 X rest (JL C ns g)):J6 X (st::rest) (JL C ns (f >>= BC g)):=by
 show J6.weak (pR l n) ?_;rintro D σ H ⟨q,rfl,rfl,r,h⟩;rw[ah]at h;show⟨q,rfl,rfl,r,h.mono λs st1 w j e c i k1=>?_⟩;subst e;cases s with
 |nx=>show lB c i k1 w
 |bk=>rw[show BC g .bk=pure .bk from rfl,ao]at w;show w j rfl c i k1
 |ct=>rw[show BC g .ct=pure .ct from rfl,ao]at w;show w j rfl c i k1
 |rt k u=>rw[show BC g (.rt k u)=pure (.rt k u) from rfl,ao]at w;show w j rfl c i k1
def GL(i:PE X a (Jl C ma))(hs:O6 a b8 pos.line X.env=pure cc):L2.PS X (.Expr a pos) (JL C ns (ma >>= λ_=>pure .nx)):=by
 show PS.weak (iB i hs) ?_;rintro D σ H ⟨k,rfl,rfl,j,h⟩;show aO j h λx c v t w=>?_;rw[ao]at w;have:=w c rfl t.ok t.nx (Kept.of t.hσ);rw[<-t.hσ];show this
def EG:L2.PS X (.Return b8 pos) (JL C ns (pure (.rt .loc .Jm))):=by
 show PS.weak As ?_;rintro D σ H ⟨c,rfl,rfl,i,h⟩;rw[ao]at h;show h c rfl i (Ns.refl c) Kept.refl .Jm rfl
def qA(ok:Ok C J)(t:Lv C J c x v)(w:W (retS x) c.st (eN C J ns D)):D.rt v c.H:=by
 have⟨k,u⟩:=x;have⟨B,h,n,r⟩:=t;cases k with
 |own =>
  rw[show retS (.own,u)=pure (.rt .own u) from rfl,ao]at w;have⟨A,e,h1,h2,h3,h4⟩:=r;show w c rfl h n (Kept.of B) v ⟨A,e,(ok.ll h1).1,h2,h3,h4⟩
 |loc =>
  rw[show retS (.loc,u)=pure (.rt .loc u) from rfl,ao]at w;show w c rfl h n (Kept.of B) v r
 |any =>
  rw[show retS (.any,u)=if JG u=bD then pure (.rt .loc u) else pure (.rt .any u) from rfl]at w;split at w
  .rw[ao]at w;show w c rfl h n (Kept.of B) v (Rep.JG (by assumption) r)
  .rw[ao]at w;show w c rfl h n (Kept.of B) v r
 |bor j =>
  have⟨fl,st',e,w⟩:=w;rw[show retS (.bor j,u) c.st=match c.st[j]? with|some (a5 (.own,u))=>a5 (Ex.ok (Fl.rt .own u),c.st.set j b8)|_=>b8 from rfl]at e;split at e
  .rename_i u' I;cases e;have MY:j<c.st.length:=(dV.mp I).1;have y:∀(i:Nat) k u',(c.st.set j b8)[i]?=a5 (a5 (k,u'))->i≠j/\c.st[i]?=a5 (a5 (k,u')):=λi k u' e=>by
    by_cases L:i=j
    .subst L;rw[d6 MY]at e;cases e
    .rw[hH (qs L)]at e;show⟨L,e⟩
   have⟨v',l,A,er,q1,q2,q3,q4⟩:=h.sl j _ _ I;have N:c.σ[j]?=a5 (a5 v):=r.2;rw[N]at l;cases l;subst er;have Q:∀a,({c with st:=c.st.set j b8}:Cf).R1 a->c.R1 a:=λa ⟨i,k,u2,hk,l,s⟩=>⟨i,k,u2,hk,(y i k u2 l).2,s⟩
   have hR:∀a,({c with st:=c.st.set j b8}:Cf).R a->c.R a:=λa z=>z.elim (λz=>.inl (Q a z)) λ⟨i,u2,O,l,s,G⟩=>.inr ⟨i,u2,O,(y i .Je u2 l).2,s,G⟩;have NG:Mo C {c with st:=c.st.set j b8}:=h.dd.of rfl (λi u2 e=>⟨(y i .Je u2 e).2,rfl⟩) (λa z=>.inl (Q a z)) (.up λ_ z=>z) λi a z=>⟨(h.root (.inr ⟨i,z⟩)).1,λo q=>q⟩
   have Yp:Ok C {c with st:=c.st.set j b8}:=⟨h.same,h.Lu,h.par,h.io,by simp[h.len],λi k u2 e=>h.sl i k u2 (y i k u2 e).2,λi T k k' Y u2 r hk JO l s G e4=>h.inj i T k k' Y u2 r hk JO (y i k Y l).2 (y T k' u2 s).2 G e4,NG⟩
   have nn:Ns J {c with st:=c.st.set j b8}:=⟨n.keep,n.there,λa z=>n.roots a (hR a z),n.sub,n.new⟩
   show w {c with st:=c.st.set j b8} rfl Yp nn (Kept.of B) (.ref A) ⟨A,rfl,q3,q1,λz=>?_,q4⟩
   .rcases z with⟨i,k,u2,hk,l,s⟩|⟨i,u2,O,l,s,G⟩
    .have⟨ne,J_⟩:=y i k u2 l;show ne (h.inj i j k .own u2 _ A hk rfl J_ I s N)
    .show h.dd.d1 i A ⟨u2,O,(y i .Je u2 l).2,s,G⟩ ⟨j,.own,_,rfl,I,N⟩
  .cases e
 |_=>show r.elim
def GN(j:PE X a (Jl C ma)):L2.PS X (.Return (a5 a) pos) (JL C ns (ma >>= retS)):=by
 show PS.weak (Dq j) ?_;rintro D σ H ⟨k,rfl,rfl,i,h⟩;show aO i h λx c v t w=>qA i t w
end
section
def lC(f:∀j,ns j=bD->j≠i)(g:Ok C a)(t:Lv C a c r v)(h:i<c.σ.length)(w:W (dG i r >>= λ_=>(pure .nx:M Fl)) c.st (eN C a ns D)):D.nx (a.σ.set i (a5 v)) c.H:=by
 rw[ah]at w;have⟨b,d,k,l,m,q⟩:=pb (r:=r) g t.ok t.nx h t.rx w;rw[ao]at q;have z:=q b rfl l m ⟨λj n=>by rw[d,t.hσ,hH (qs (f j n))],by rw[d,t.hσ];simp⟩;have e:D.nx b.σ b.H:=z;rw[d,k,t.hσ]at e;show e
def CK(f:∀j,ns j=bD->j≠i)(g:X.N.Nodup)(d:X.N[i]?=a5 x)(k:Loc X.env.scope x)(l:X.fn x=bD\/X.env.scope.names.lookup x=a5 .local)(m:PE X a (Jl C n))
  (hs:O6 a (a5 (.Name x pos')) pos.line X.env=pure cc):L2.PS X (.Assign [.Name x pos'] a pos) (JL C ns (n >>= λr=>dG i r >>= λ_=>pure .nx)):=by
 rintro pins s σ H D I ⟨b,rfl,rfl,e,h⟩;have o:i<b.σ.length:=by rw[I.len];show(dV.mp d).1
 show rE g d k m hs l pins s b.σ b.H D I (aO e h λr c v t w=>lC f e t (by rw[t.hσ];show o) w)
def EH(l:∀j,ns j=bD->j≠i)(S:eU X N own scope)(m:X.calm=bD)(o:X.N.Nodup)(f:X.N[i]?=a5 y)(p:X.env.scope.names.lookup y=a5 .local)
  (q:PI X d a (Nm C u ms)) (z:∀D s H ex,PG (Kg X N scope D s H ex) d (tG C t (fx own.length))) (A:∀D s H ex,Nw (Kg X N scope D s H ex) b (Ks C B)) (G:∀D s H ex,PE (Kg X N scope D s H ex) elt (Jl C J))
  (L:O6 (.ListComp elt [⟨d,a,b,0⟩] scope pos) (a5 (.Name y O)) Q.line X.env=pure bD) (hs:∀x,LS a X.env x=pure x) :
  L2.PS X (.Assign [.Name y O] (.ListComp elt [⟨d,a,b,0⟩] scope pos) Q)
   (JL C ns ((ms >>= λrs=>aC rs >>= λ_=>M.Jt (KU u rs) >>= λxs=>cv own.length t B J rs xs [] >>= λus=>pure (.own,.lst us)) >>= λr=>dG i r >>= λ_=>pure .nx)):=by
 rintro pins s σ H D I ⟨e,rfl,rfl,g,h⟩;have T:i<e.σ.length:=by rw[I.len];show(dV.mp f).1
 show AO S m o f p q z A G L hs pins s e.σ e.H D I ?_;rw[ah]at h;show ny g (h.mono λr st1 w c v k Y JA n rt=>?_);subst Y;show lC l g ⟨k,JA,n,rt⟩ (by rw[k];show T) w
def EI(g:∀j,ns j=bD->j∉is)(i:PE X a (Jl C k))(l:PG X b (tG C bD is))(hs:QX [b] a pos.line X.env=pure cc)(m:VD [b] a X.env=pure b8)(n:(Qb [b] X.env).map (·.2)=[Sl b X.env]):
  L2.PS X (.Assign [b] a pos) (JL C ns (k >>= λr=>dR bD is r >>= λ_=>pure .nx)):=by
 show PS.weak (rD i l hs m n) ?_;rintro D σ H ⟨o,rfl,rfl,d,h⟩;show aO d h λr c v t w=>?_;rw[ah]at w;show⟨o,c,r,t.hσ,rfl,d,t.ok,t.nx,t.rx,w.mono λ_ st1 f p e q s u hl=>?_⟩;subst e;rw[ao]at f;show f p rfl q s ⟨λj x=>by rw[u j (g j x),t.hσ],by rw[hl,t.hσ]⟩
def GO(i:PT X a (Ks C j))(k:J6 X ca (JL C ns f))(l:J6 X m (JL C ns g)):L2.PS X (.If a ca m pos) (JL C ns (j >>= λp=>if p=bD then f else g)):=by
 show PS.weak (FY i k l) ?_;rintro D σ H ⟨o,rfl,rfl,q,h⟩;show d9 q h λp c b d n w=>?_;have e:o.σ=c.σ:=b.symm;rw[e];cases p with
 |true=>rw[Ł rfl]at w ⊢;show lB d n (Kept.of b) w
 |false=>rw[ł i0]at w ⊢;show lB d n (Kept.of b) w
def GP(L:Xz (eh X.prog X.w) X.A X.env X.xe)(N:PT X a (Ks C g))(O:J6 X body (JL C ns f)):L2.PS X (.While a body [] pos) (JL C ns (gG g f n)):=by
 show PS.weak (xu L N O) ?_;rintro D σ H ⟨d,rfl,rfl,Q,h⟩;show⟨λm t H'=>∃c,c.H=H'/\c.σ=t/\Ok C c/\Ns d c/\Kept ns d c/\W (gG g f m) c.st (eN C d ns D),⟨n,d,rfl,rfl,Q,Ns.refl d,Kept.refl,h⟩,?_⟩;rintro m t H' ⟨c,rfl,rfl,T,v,x,w⟩;cases m with
 |zero=>show(bp.mp w).elim
 |succ m =>
  rw[show gG g f (m+1)=g >>= λb=>if b=bD then(f >>= λf'=>match f' with|.nx=>gG g f m|.ct=>gG g f m|.bk=>pure .nx|.rt k u=>pure (.rt k u)) else pure .nx from rfl]at w;show d9 T w λp l y B G i=>?_;have k2:Kept ns c l:=Kept.of y;rw[<-y];cases p with
  |false =>
   rw[ł i0]at i ⊢;rw[ao]at i;show i l rfl B (v.trans G) (x.trans k2)
  |true =>
   rw[Ł rfl]at i ⊢;show⟨λI J=>∃c,c.H=J/\c.σ=I/\Ok C c/\Ns d c/\Kept ns d c/\W (gG g f m) c.st (eN C d ns D),λI J z=>⟨m,OH m,z⟩,?_⟩;rw[ah]at i;show⟨l,rfl,rfl,B,i.mono λY JJ j o e q n3 k3=>?_⟩;subst e;have r:=(v.trans G).trans n3;have s:=(x.trans k2).trans k3;cases Y with
   |nx=>show⟨o,rfl,rfl,q,r,s,j⟩
   |ct=>show⟨o,rfl,rfl,q,r,s,j⟩
   |_=>rw[ao]at j;show j o rfl q r s
def GQ(hp:Xz (eh X.prog X.w) X.A X.env X.xe)(hc:X.calm=bD)(hi:PI X tg a (Nm C ik ms))(hg:PG X tg (tG C t is))(hb:J6 X body (JL C (Kr s) f))(hs:∀x,LS a X.env x=pure x)
  (Ke:∀j,ns j=bD->j∉is/\Kr s j=bD) :
  L2.PS X (.For tg a body [] pos) (JL C ns (ms >>= λrs=>aC rs >>= λ_=>M.Jt (KU ik rs) >>= λxs=>if uw rs is s=bD then forM t is f rs xs else M.fail)):=by
 show PS.weak (Dy hp hc hi hg hb hs) ?_;rintro D σ H ⟨d,rfl,rfl,ok,h⟩;rw[ah]at h;show⟨d,rfl,rfl,ok,?_⟩;rw[ah];show h.mono λrs st1 v=>?_;rw[ah,bR]at v ⊢;show⟨v.1,?_⟩;have h2:=v.2;rw[ah]at h2 ⊢;show h2.mono λxs st2 y=>?_;rw[ao];intro b J e1 e2 Jn n1 Jp B;subst e2
 dsimp only at Jp B
 split at y
 .rename_i OU;have Us:∀j u,(Kd.bor j,u)∈rs->j∉is/\Kr s j=bD:=λj u o=>by
   have:=i7.mp OU _ o;simpa using this
  show⟨λi m l H'=>∃c,c.H=H'/\c.σ=l/\Ok C c/\Ns b c/\Kept ns d c/\lA rs b c/\m=xs.length - i/\i<=xs.length/\W (forM t is f rs (xs.drop i)) c.st (eN C d ns D),
   ⟨xs.length,b,rfl,e1,Jn,Ns.refl b,Kept.of e1,λ_ _ _=>rfl,by simp,i8 _,by simpa using y⟩,?_⟩
  rintro i m l H' ⟨c,rfl,rfl,G,p,kc,I,rfl,Lq,w⟩;by_cases L:i<xs.length
  .right
   rw[R9 L,show forM t is f rs (xs[i]::xs.drop (i+1))=aC rs >>= λ_=>dR t is xs[i] >>= λ_=>f >>= λf'=>match f' with|.nx=>forM t is f rs (xs.drop (i+1))|.ct=>forM t is f rs (xs.drop (i+1))|.bk=>pure .nx|.rt k u=>pure (.rt k u) from rfl,ah,bR]at w;have⟨M0,w⟩:=w;obtain⟨N,_⟩:=B c G p I M0;have⟨Ul,Pz,Um⟩:=N i xs[i] (by simp[L]);show⟨Pz,λl H'=>∃c,c.H=H'/\c.σ=l/\Ok C c/\Ns b c/\Kept ns d c/\lA rs b c/\W (forM t is f rs (xs.drop (i+1))) c.st (eN C d ns D),λl H' ⟨c',z1,z2,z3,z4,z5,z6,z7⟩=>⟨xs.length - (i+1),⋯,c',z1,z2,z3,z4,z5,z6,rfl,L,z7⟩,λx H' hy=>?_⟩;have⟨n,rfl,q,e5,Jv,n2,rt⟩:=Um x H' hy;rw[ah]at w;have Yq:aS C n n xs[i].1 xs[i].2 x:=by
    rcases Ul with z|z
    .rw[z]at rt ⊢;show rt
    .rw[z]at rt ⊢;show rt
   show⟨n,n,xs[i],q,rfl,Jv,Jv,Nx.refl n,Yq,?_⟩;rw[e5];show w.mono λ_ JJ w3 c3 e6 L0 n3 VU PB=>?_;subst e6;rw[ah]at w3;show⟨c3,rfl,rfl,L0,w3.mono λfl st4 r g e O n4 Q=>?_⟩;subst e;have T:Ns b g:=((p.trans n2.toNs).trans n3.toNs).trans n4;have Y:Kept ns d g:=by
    show kc.trans ⟨λj hj=>?_,by rw[Q.2,PB,q]⟩;have⟨j1,j2⟩:=Ke j hj;rw[Q.1 j j2,VU j j1,q]
   have VV:lA rs b g:=λj u o=>by
    have⟨j1,j2⟩:=Us j u o;rw[Q.1 j j2,VU j j1,q];show I j u o
   cases fl with
   |nx=>show⟨g,rfl,rfl,O,T,Y,VV,r⟩
   |ct=>show⟨g,rfl,rfl,O,T,Y,VV,r⟩
   |_=>rw[ao]at r;show r g rfl O (n1.toNs.trans T) Y
  .left
   have Yr:i=xs.length:=by lia
   subst Yr;rw[Õ,show forM t is f rs []=aC rs >>= λ_=>pure .nx from rfl,ah,bR,ao]at w;obtain⟨_,N⟩:=B c G p I w.1;show⟨N _ (hQ _),w.2 c rfl G (n1.toNs.trans p) kc⟩
 .show(bp.mp y).elim
end
section
def Ok.mod(d:Ok C c)(n:Ns c0 c)(hk:k.root=bD)(A:c.st[i]?=a5 (a5 (k,u)))(G:c.σ[i]?=a5 (a5 (.ref r)))(Kb:∀a,a≠r->H' a=c.H a)(hr:∃o,H' r=a5 o)
  (new:Mv c.S c.H c.S H'->da C c.S H' r u'):Ok C {c with H:=H',st:=c.st.set i (a5 (k,u'))}/\Ns c0 {c with H:=H',st:=c.st.set i (a5 (k,u'))}:=by
 have LL:c.R1 r:=⟨i,k,u,hk,A,G⟩
 have hR:c.R r:=.inl LL;have⟨J,q2,q3,o,ho,OV⟩:=d.root hR;have L:i<c.st.length:=(dV.mp A).1;have p:∀{a:d7} {b:HO},a≠r->c.H a=a5 b->H' a=a5 b:=λne e=>by rw[Kb _ ne];show e
 have I:Mv c.S c.H c.S H':=⟨λ_ z=>z,λa b e t=>p (λz=>by subst z;rw[ho]at e;cases e;show OV t) e,λa b z e=>p (λf=>J (f▸z)) e⟩
 have NB:Mv (PS C c.S) c.H (PS C c.S) H':=⟨λ_ z=>z,I.Pu,λa b z e=>p (λf=>by subst f;show z.elim q2 J) e⟩
 have N:∀(j:Nat) k' w,(c.st.set i (a5 (k,u')))[j]?=a5 (a5 (k',w))->j≠i->c.st[j]?=a5 (a5 (k',w)):=λj k' w e ne=>by rw[hH (qs ne)]at e;show e
 have g:∀(j:Nat) k' w,k'.root=bD->(c.st.set i (a5 (k,u')))[j]?=a5 (a5 (k',w))->∃O,c.st[j]?=a5 (a5 (k',O)):=λj k' w _ e=>by
  by_cases q:j=i
  .subst q;rw[d6 L]at e;cases e;show⟨u,A⟩
  .show⟨w,N j k' w e q⟩
 have b1:∀a,({c with H:=H',st:=c.st.set i (a5 (k,u'))}:Cf).R1 a->c.R1 a:=λa JD=>by
  have⟨j,k',w,h,l,m⟩:=JD;have⟨O,Q⟩:=g j k' w h l;show⟨j,k',O,h,Q,m⟩
 have dD:∀(j:Nat) (w:U),(c.st.set i (a5 (k,u')))[j]?=a5 (a5 (.Je,w))->c.st[j]?=a5 (a5 (.Je,w)):=λj w e=>by
  by_cases q:j=i
  .subst q;rw[d6 L]at e;cases e;cases hk
  .show N j .Je w e q
 have NG:Mo C {c with H:=H',st:=c.st.set i (a5 (k,u'))}:=d.dd.of rfl (λj w e=>⟨dD j w e,rfl⟩) (λa z=>.inl (b1 a z)) I λj a z=>⟨(d.root (.inr ⟨j,z⟩)).1,λb e=>p (λf=>d.dd.d1 j a z (f▸LL)) e⟩
 show⟨⟨λa b e z=>?_,λa z=>?_,d.par,λa z=>?_,by simp[d.len],λj k' w e=>?_,λj1 j2 k1 k2 w1 w2 s h x l m T e4=>?_,NG⟩,n.trans ⟨λa b e z=>p (λf=>z (f▸hR)) e,λa b e=>?_,λa z=>?_,λ_ z=>z,λ_ z=>.inl z⟩⟩
 .have h:=d.same a b e z;show p (λf=>?_) h;subst f;rcases q3 with q3|q3
  .rw[e]at q3;cases q3
  .show z q3
 .have⟨h,b,x⟩:=d.Lu a z;show⟨h,b,p (λf=>J (f▸z)) x⟩
 .have⟨h,b,x⟩:=d.io a z;show⟨h,?_⟩;by_cases B:a=r
  .subst B;show hr
  .show⟨b,p B x⟩
 .by_cases q:j=i
  .subst q;rw[d6 L]at e;cases e;have⟨v,l,m⟩:=d.sl j _ _ A;rw[G]at l;cases l;show⟨.ref r,G,?_⟩;have nr:=new I;cases k with
   |own=>obtain⟨s,y,D,Y,z3,_⟩:=m;cases y;show⟨r,rfl,D,Y,z3,nr⟩
   |io=>obtain⟨s,y,D,Y,z3,_⟩:=m;cases y;show⟨r,rfl,D,Y,z3,nr⟩
   |_=>cases hk
  .have e0:=N j k' w e q;have⟨v,l,m⟩:=d.sl j k' w e0;show⟨v,l,m.mv I NB λJO s y=>?_⟩;obtain⟨RH,K7,D,_⟩:=m.rt JO;rw[y]at K7;cases K7;show⟨D,λb e=>p (λz=>?_) e⟩;subst z;show q (d.inj j i k' k w u s JO hk e0 A (by rw[l,y]) G)
 .have⟨RM,Q⟩:=g j1 k1 w1 h l;have⟨VW,a2⟩:=g j2 k2 w2 x m;show d.inj j1 j2 k1 k2 RM VW s h x Q a2 T e4
 .by_cases B:a=r
  .subst B;show hr
  .show⟨b,p B e⟩
 .rcases z with z|⟨j,w,s,l,m,T⟩
  .show .inl (.inl (b1 a z))
  .show .inl (.inr ⟨j,w,s,dD j w l,m,T⟩)
def fg{f:U->Option U}{st:ay}(h:W (modS i f) st Q):∃k u u',k.root=bD/\st[i]?=a5 (a5 (k,u))/\f u=a5 u'/\Q () (st.set i (a5 (k,u'))):=by
 obtain⟨_,st',e,q⟩:=h;unfold modS at e;split at e
 .rename_i k u hs;split at e
  .rename_i hk;cases a:f u with
   |none=>rw[a]at e;cases e
   |some u'=>rw[a]at e;cases e;show⟨k,u,u',hk,hs,a,q⟩
  .cases e
 .cases e
def cZ{st:ay}(h:W (dk i) st Q):∃k u,k≠.Je/\st[i]?=a5 (a5 (k,u))/\Q (if k.root=bD then .bor i else k,u) st:=by
 have⟨r,st',e,q⟩:=h;unfold dk at e;split at e
 .cases e
 .rename_i k u a hs;cases e;show⟨k,u,λz=>a z,hs,q⟩
 .cases e
def GR(Y:C.K=X.K)(hN:X.N[i]?=a5 x)(hv:K_ X.env.scope x)(hd:(x==("__debug__":Str))=cc)(JM:(x==("__classdict__":Str))=cc)(ha:PE X a (Jl C ma))
  (J7:((x2 g (gj [a] X.env)).all (λx=>!x.1)&&(P1 g (Lj [] X.env)).all (λx=>x.1.isSome)
   && cK ([a].length+([]:List MF).length+(if ([]:List MF).isEmpty then 0 else 1)<30))=bD)
  (Js:(b.endLine==g.line)=bD) (o:gj [a] X.env=[(cc,uk a X.env)]) :
  L2.PS X (.Expr (.Call (.Attribute (.Name x px) "append" b) [a] [] g) pos) (JL C ns (dk i >>= λx=>MB x.2 >>= λ_=>ma >>= λr=>lift r >>= λu=>modS i (yt u) >>= λ_=>pure .nx)):=by
 show PS.weak (iB (kP PySem.F.plainAttrs_list PySem.F.slot_list_append PySem.F.type_list_append mV (bY hN hv hd JM) (cH ha eS o) rfl J7 Js o rfl)) ?_;rintro D σ H ⟨p,rfl,rfl,f,h⟩;rw[ah]at h;have⟨k0,s,LC,y,h⟩:=cZ h;have⟨A,l,m⟩:=f.sl i k0 s y;show⟨A,l,?_⟩;cases s with
 |lst B =>
  rw[ah,show MB (U.lst B)=pure () from rfl,ao]at h;have QF:aS C p p (if k0.root=bD then .bor i else k0) (.lst B) A:=by
   by_cases hk:k0.root=bD
   .rw[Ł hk];show⟨⟨k0,hk,y⟩,l⟩
   .rw[ł hk];cases k0 with
    |loc=>show m
    |any=>show m
    |bor j=>show m.elim
    |Je=>show(LC rfl).elim
    |_=>show absurd rfl hk
  obtain⟨a0,N8,n,NT,_⟩:=QF.list f;show⟨by rw[n];show .inl ⟨rfl,N8,Y▸NT⟩,?_⟩;show aO f h λr c v t w=>?_;rw[ah]at w;obtain⟨S',st',u,sS,G,n1,d,I,_,_⟩:=gw f t.ok t.nx t.rx.w w;rw[ah]at I;have⟨k,u1,u2,hk,hs,e,q⟩:=fg I;have J:c.σ[i]?=a5 (a5 (.ref a0)):=by rw[t.hσ,l,n]
  cases u1 with
  |lst L =>
   simp only[yt]at e;split at e
   .rename_i hz;cases e;have⟨v',e1,e2⟩:=G.sl i k (.lst L) hs;have O:c.σ[i]?=a5 (a5 v'):=e1;rw[J]at O;cases O;obtain⟨r',er,_,_,_,ws,hw,Q⟩:=e2.rt hk;cases er;have PD:c.H a0=a5 (.lst ws):=hw;show⟨a0,ws,v,n,rfl,PD,by rw[<-Q.len];show hz,?_⟩;rw[ao]at q;have⟨Jv,n2⟩:=Ok.mod (c:={c with S:=S',st:=st' }) (H':=upd c.H a0 (.lst (ws++[v]))) (u':=.lst (L++[u])) G n1.toNs hk hs J (λa ne=>av ne) ⟨_,aB⟩ λT=>⟨ws++[v],aB,(Q.mv T).snoc (d.mv T)⟩
    have z:=q _ rfl Jv n2 (Kept.of t.hσ);rw[<-t.hσ];show z
   .cases e
  |_=>cases e
 |_=>rw[ah]at h;show(bp.mp h).elim
def GS(A:C.K=X.K)(hN:X.N[i]?=a5 x)(hv:K_ X.env.scope x)(hd:(x==("__debug__":Str))=cc)(JM:(x==("__classdict__":Str))=cc)(ha:PE X a (Jl C ma))
  (J7:((x2 l (gj [a] X.env)).all (λx=>!x.1)&&(P1 l (Lj [] X.env)).all (λx=>x.1.isSome)
   && cK ([a].length+([]:List MF).length+(if ([]:List MF).isEmpty then 0 else 1)<30))=bD)
  (Js:(g.endLine==l.line)=bD) (B:gj [a] X.env=[(cc,uk a X.env)]) :
  L2.PS X (.Expr (.Call (.Attribute (.Name x px) "extend" g) [a] [] l) pos) (JL C ns (dk i >>= λx=>MB x.2 >>= λ_=>ma >>= λr=>modS i (lx r) >>= λ_=>pure .nx)):=by
 show PS.weak (iB (kP PySem.F.plainAttrs_list PySem.F.slot_list_extend PySem.F.type_list_extend r9 (bY hN hv hd JM) (cH ha eS B) rfl J7 Js B rfl)) ?_;rintro D σ H ⟨G,rfl,rfl,m,h⟩;rw[ah]at h;have⟨k0,I,LC,J,h⟩:=cZ h;have⟨L,n,o⟩:=m.sl i k0 I J;show⟨L,n,?_⟩;cases I with
 |lst O =>
  rw[ah,show MB (U.lst O)=pure () from rfl,ao]at h;have QF:aS C G G (if k0.root=bD then .bor i else k0) (.lst O) L:=by
   by_cases hk:k0.root=bD
   .rw[Ł hk];show⟨⟨k0,hk,J⟩,n⟩
   .rw[ł hk];cases k0 with
    |loc=>show o
    |any=>show o
    |bor j=>show o.elim
    |Je=>show(LC rfl).elim
    |_=>show absurd rfl hk
  obtain⟨a0,N8,p,NT,_⟩:=QF.list m;show⟨by rw[p];show .inl ⟨rfl,N8,A▸NT⟩,?_⟩;show aO m h λr c v t w=>?_;rw[ah]at w;have⟨k,s,u2,hk,hs,d,q⟩:=fg w;have Q:c.σ[i]?=a5 (a5 (.ref a0)):=by rw[t.hσ,n,p]
  have⟨rk,ru⟩:=r;have key:∃e f b vs,s=.lst e/\v=.ref b/\(JN C.K c.H b vs\/JY C.K c.H b vs)/\au C c.S c.H f vs/\e.length+f.length<=cL/\u2=.lst (e++f):=by
   cases ru with
   |lst f =>
    cases s with
    |lst e =>
     simp only[lx]at d;split at d
     .rename_i hz;cases d;have⟨b,vs,ev,u,y⟩:=t.rx.list t.ok;show⟨_,_,b,vs,rfl,ev,.inl u,dB hz.2 y,hz.1,rfl⟩
     .cases d
    |_=>simp[lx]at d
   |tup f =>
    cases s with
    |lst e =>
     simp only[lx]at d;split at d
     .rename_i hz;cases d;have⟨b,vs,ev,u,y⟩:=t.rx.tuple t.ok;show⟨_,_,b,vs,rfl,ev,.inr u,dB hz.2 y,hz.1,rfl⟩
     .cases d
    |_=>simp[lx]at d
   |_=>simp[lx]at d
  have⟨e,f,b,vs,rfl,rfl,hB,hz,hl,rfl⟩:=key;have⟨v',T,e2⟩:=t.ok.sl i k (.lst e) hs;rw[Q]at T;cases T;obtain⟨r',er,_,_,_,ws,hw,Y⟩:=e2.rt hk;cases er;show⟨a0,b,ws,vs,p,rfl,hw,A▸hB,by rw[<-Y.len,<-hz.len];show hl,?_⟩;rw[ao]at q;have⟨Jv,n2⟩:=Ok.mod (c:=c) (H':=upd c.H a0 (.lst (ws++vs))) (u':=.lst (e++f)) t.ok t.nx.toNs hk hs Q (λa ne=>av ne) ⟨_,aB⟩ λmv=>⟨ws++vs,aB,(Y.mv mv).append (hz.mv mv)⟩
  have z:=q _ rfl Jv n2 (Kept.of t.hσ);rw[<-t.hσ];show z
 |_=>rw[ah]at h;show(bp.mp h).elim
def ou.or(h:ou X t)(h':ou X t'):ou X (λo i v H Q=>t o i v H Q\/t' o i v H Q):=λpins s σ H o i v a b u Q I c d e q =>
 q.elim (h pins s σ H o i v a b u Q I c d e) (h' pins s σ H o i v a b u Q I c d e)
def set_dict(b:X.A.units+1<KX):ou X (λo i v H Q=>∃a H',o=.ref a/\vM H a i v H'/\Q H'):=by
 rintro pins s σ H o i v f h u Q I c d rv ⟨a,H',rfl,g,q⟩;cases c;show vO b I g d rv λs' e=>⟨H',e,q⟩
def yJ{S:d7->Prop}{kvs:List (Key×V)}(a:kvs.map (·.1)=ks.map mx)(c:au C S H us (kvs.map (·.2)))(d:Rep C S H u v):
  (putK kvs (mx y) v).map (·.1)=(dput ks us y u).1.map mx/\au C S H (dput ks us y u).2 ((putK kvs (mx y) v).map (·.2)):=by
 have e:(kvs.any λkv=>cK (kv.1=(mx y:Key)))=cK (y∈ks):=by
  rw[iI];show(dU (x:=y) a c).2
 unfold putK dput;rw[e];by_cases b:y∈ks
 .rw[Ł (by simpa using b),Ł b];constructor
  .rw[kb];rw[<-a];apply vu;intro p _;change(if p.1=mx y then(p.1,v) else p).1=p.1;split<;>rfl
  .clear e b;induction kvs generalizing ks us with
   |nil =>
    have:ks=[]:=by simpa using a.symm
    subst this;simp[au]
   |cons p kvs g =>
    cases ks with
    |nil=>simp at a
    |cons k ks =>
     cases us with
     |nil=>simp[au]at c
     |cons j us =>
      rw[ei,ei,Qt]at a;have⟨l,m,f,h,i⟩:=c;rw[ei]at f;cases f;rw[ei,Rm,ei,ei];show⟨_,_,rfl,?_,g a.2 i⟩;by_cases hk:k=y
      .rw[Ł (by show hk),Ł (by rw[a.1,hk])];show d
      .rw[ł (by show hk),ł (by rw[a.1];intro z;show hk (Vk z))];show h
 .rw[ł (by simpa using b),ł b];show⟨by rw[ke,a,ke];rfl,by rw[ke];show c.snoc d⟩
def GU(hP:C.P=X.prog)(hw:C.w=X.w)(hK:C.K=X.K)(hu:X.A.units+60<KX)(hN:X.N[i]?=a5 x)(hv:K_ X.env.scope x)(hd:(x==("__debug__":Str))=cc)(JM:(x==("__classdict__":Str))=cc)
  (ha:PE X a (Jl C ma)) (hb:PE X b (Jl C mb)) (hs:QX [.Subscript (.Name x B) b p] a pos.line X.env=pure cc) (QH:VD [.Subscript (.Name x B) b p] a X.env=pure b8)
  (O:∀v,Sl (.Subscript (.Name x B) b p) X.env v=(do
   let G <-LQ [v] (uk (.Name x B) X.env)
   let Q <-LQ [v,G] (uk b X.env)
   Wr p
   LQ [v,G,Q] (TF G Q v)
   Wx [v,G,Q] [])) :
  L2.PS X (.Assign [.Subscript (.Name x B) b p] a pos) (JL C ns (ma >>= λr=>dk i >>= λ_=>mb >>= λx=>de [r,x] >>= λus=>modS i (uu us) >>= λ_=>pure .nx)):=by
 show PS.weak (rD ha (xr (bY hN hv hd JM) hb (ou.or set_list (set_dict (X:=X) ⋯)) O) hs QH rfl) ?_;rintro D σ H ⟨c0,rfl,rfl,ok,h⟩;show aO ok h λr c v t w=>?_;rw[ah]at w;have⟨k0,u0,LC,Kq,w⟩:=cZ w;have⟨v0,e0,Mg⟩:=t.ok.sl i k0 u0 Kq;show⟨v0,by rw[<-t.hσ];show e0,?_⟩;rw[ah]at w;show⟨c,t.hσ,rfl,t.ok,w.mono λy st2 w2 f m I e4 Jv n2 r2=>?_⟩;subst e4;rw[ah]at w2;have Uv:=t.nx.trans n2;have T:cX C c0 f [r,y] [v,m]:=⟨v,[m],rfl,t.rx.w.on t.ok n2 (I.trans t.hσ.symm),⟨m,[],rfl,(r2.w).from t.nx,rfl,λ_ i r' Y e _=>by simp at e⟩,λhk i r' Y e5 e6 JO=>by
  cases i with
  |zero=>simp at e5 e6;subst e5 e6;show jx t.rx.w r2.w hk JO
  |succ i=>simp at e5⟩
 have⟨S',st',us,sS,Jn,n1,g,w1⟩:=iV ok Jv Uv T w2;rw[ah]at w1;have⟨k,J,u2,hk,KS,d,q⟩:=fg w1;rw[ao]at q;have hσ:f.σ[i]?=a5 (a5 v0):=by rw[I,<-t.hσ];show e0
 have⟨Y,e1,e2⟩:=Jn.sl i k J KS;have J_:f.σ[i]?=a5 (a5 Y):=e1;rw[hσ]at J_;cases J_;have⟨a0,er,z1,z2,z3,l⟩:=e2.rt hk;subst er;have Ys:({f with S:=S',st:=st' }:Cf).σ[i]?=a5 (a5 (.ref a0)):=hσ;obtain⟨RM,ws,ew,VX,VW,ZZ,Z0,VY,Yt⟩:∃u ws,us=[u,ws]/\Rep C S' f.H u v/\∃(_:Unit) (_:Unit),True/\Rep C S' f.H ws m/\True:=by
  cases us with
  |nil=>simp[au]at g
  |cons u us =>
   obtain⟨_,_,e,q1,q2⟩:=g;cases e;cases us with
   |nil=>simp[au]at q2
   |cons u' us =>
    obtain⟨_,_,e,q3,q4⟩:=q2;cases e;cases us with
    |nil=>show⟨u,u',rfl,q1,(),(),trivial,q3,trivial⟩
    |cons _ _=>obtain⟨_,_,e,_⟩:=q4;cases e
 subst ew;rw[show uu [RM,ws] J=eI ws RM J from rfl]at d;have n:∀{H':Hp} ,(∀a,a≠a0->H' a=f.H a)->(∃o,H' a0=a5 o)->(Mv S' f.H S' H'->da C S' H' a0 u2)->D.nx c0.σ H':=λ{H'} Kb hr new=>by
  have⟨L0,n3⟩:=Ok.mod (c:={f with S:=S',st:=st' }) (H':=H') (u':=u2) Jn n1.toNs hk KS Ys Kb hr new;have z:=q _ rfl L0 n3 (Kept.of I);rw[<-I];show z
 cases J with
 |lst xs =>
  cases ws with
  |int j =>
   simp only[eI,ez]at d;have⟨j',hj,rfl⟩:=d;have⟨vs,h1,s⟩:=l;have ey:m=.int j:=VY;show .inl ⟨a0,vs,j,j',rfl,ey,h1,by rw[<-s.len];show hj,?_⟩;show n (λa ne=>av ne) ⟨_,aB⟩ λL=>⟨vs.set j' v,aB,(s.mv L).set j' (VX.mv L)⟩
  |_=>simp[eI]at d
 |Ji ks vs =>
  cases ws with
  |str y' =>
   simp only[eI]at d;split at d
   .rename_i hz;cases d;have⟨kvs,h1,s,h3⟩:=l;have ey:m=.str y':=VY;subst ey;have hl:kvs.length=ks.length:=by have:=ņ Km s;simpa using this
    show .inr ⟨a0,_,rfl,vM.k (k:=mx y') h1 (by rw[hl];show hz),?_⟩;show n (λa ne=>av ne) ⟨_,aB⟩ λL=>?_;have⟨g1,g2⟩:=yJ (y:=y') s h3 VX;show⟨_,aB,g1,g2.mv L⟩
   .cases d
  |_=>simp[eI]at d
 |_=>simp[eI]at d
def Ok.slot(d:Ok C c)(e:k≠.Je)(hs:c.st[i]?=a5 (a5 (k,u))):∃v,c.σ[i]?=a5 (a5 v)/\aS C c c (if k.root=bD then .bor i else k) u v:=by
 have⟨f,b,a⟩:=d.sl i k u hs;show⟨f,b,?_⟩;by_cases hk:k.root=bD
 .rw[Ł hk];show⟨⟨k,hk,hs⟩,b⟩
 .rw[ł hk];cases k with
  |loc=>show a
  |any=>show a
  |bor j=>show a.elim
  |Je=>show(e rfl).elim
  |_=>show absurd rfl hk
end
end TM
namespace TM
open PySem L2 PyProof.Rows PySem.W
section
def GV(c:X.calm=bD)(d:Gl X x)(f:X.mg x=a5 (.ref b))(g:(x==("__debug__":Str))=cc)(i:excIn X.K b Pt "ValueError.__new__"=bD)(j:PE X a (Jl C k))(l:gj [a] X.env=[(cc,uk a X.env)])
  (m:∀H',C.xw (.str x) H'->∀pins σ s e s',Inv X pins σ H' s->bS X.prog X.w X.stack H' s e b b8 .none H' s'->X.xe (.ref e) s'):L2.PS X (.Raise (a5 (.Call (.Name x p) [a] [] q)) b8 pos) (JL C ns (k >>= λ_=>pure (.rt .io (.str x)))):=by
 show PS.weak (yi c d f g i j l) ?_;rintro D σ H ⟨r,rfl,rfl,n,h⟩;show aO n h λx o v t w=>?_;rw[ao]at w;show λpins s e s' I F=>m _ (w o rfl t.ok t.nx (Kept.of t.hσ)) pins _ s e s' I F
def Ok.kill(b:Ok C c)(n:c.st[j]?=a5 b8):Ok C {c with σ:=c.σ.set j b8}/\Nx c {c with σ:=c.σ.set j b8}:=by
 have ne:∀(i:Nat) (r:Kd×U),c.st[i]?=a5 (a5 r)->(c.σ.set j b8)[i]?=c.σ[i]?:=λi r e=>hH λz=>by subst z;rw[n]at e;cases e
 have l:∀a,({c with σ:=c.σ.set j b8}:Cf).R1 a->c.R1 a:=λa ⟨i,k,u,hk,d,f⟩=>⟨i,k,u,hk,d,(ne i _ d)▸f⟩
 have p:Mo C {c with σ:=c.σ.set j b8}:=b.dd.of rfl (λi u e=>⟨e,ne i _ e⟩) (λa z=>.inl (l a z)) (.up λ_ z=>z) λi a z=>⟨(b.root (.inr ⟨i,z⟩)).1,λo q=>q⟩
 show⟨⟨b.same,b.Lu,b.par,b.io,by simp[b.len],λi k u e=>?_,λi m k k' u u' r hk s d f g t=>?_,p⟩,⟨λ_ _ h _=>h,λ_ o h=>⟨o,h⟩,λa z=>.inl ?_,λ_ h=>h,λ_ h=>.inl h⟩⟩
 .have⟨v,q,z⟩:=b.sl i k u e;show⟨v,(ne i _ e).trans q,z⟩
 .show b.inj i m k k' u u' r hk s d f ((ne i _ d)▸g) ((ne m _ f)▸t)
 .show z.imp (l a) λ⟨i,u,r,d,f,g⟩=>⟨i,u,r,d,(ne i _ d)▸f,g⟩
end
end TM
namespace TM
open PySem L2 PyProof.Rows
section
def Ok.GW(d:Ok C c)(n:Ns Q c)(T:c.st[i]?=a5 (a5 (.Je,u)))(B:c.σ[i]?=a5 (a5 (.ref r)))(Kb:∀a,¬c.RD i a->H' a=c.H a)(Y:∀a o,c.H a=a5 o->∃N,H' a=a5 N)
  (new:Mv c.S c.H c.S H'->cM C c.S H' r as' u') (ab:∀a∈as',a∈c.kid i\/(¬c.R a/\Q.H a=b8)) :
  Ok C {c with H:=H',st:=c.st.set i (a5 (.Je,u')),kid:=λj=>if j=i then as' else c.kid j}/\Ns Q {c with H:=H',st:=c.st.set i (a5 (.Je,u')),kid:=λj=>if j=i then as' else c.kid j}:=by
 have Kl:i<c.st.length:=(dV.mp T).1;have rt:∀{a},c.RD i a->¬c.S a/\¬C.LX a/\(C.H₀ a=b8\/C.IO a)/\∃o,c.H a=a5 o/\¬Tp o:=λz=>d.root (.inr ⟨i,z⟩);have h0:∀{a},c.RD i a->C.H₀ a=b8:=λ⟨u1,r1,g,b,e3⟩=>(cM.fr (d.dd.kd i u1 r1 g b) _ (d4.mpr e3)).2.2;have q:∀{a:d7} {o:HO},¬c.RD i a->c.H a=a5 o->H' a=a5 o:=λz e=>by rw[Kb _ z];show e
 have O:Mv c.S c.H c.S H':=⟨λ_ z=>z,λa o e t=>q (λz=>by
  obtain⟨_,_,_,N,l,nt⟩:=rt z;rw[e]at l;cases l;show nt t) e,λa o z e=>q (λm=>(rt m).1 z) e⟩
 have NB:Mv (PS C c.S) c.H (PS C c.S) H':=⟨λ_ z=>z,O.Pu,λa o z e=>q (λm=>z.elim (rt m).2.1 (rt m).1) e⟩
 have D:∀(j:Nat) k w,(c.st.set i (a5 (.Je,u')))[j]?=a5 (a5 (k,w))->j≠i->c.st[j]?=a5 (a5 (k,w)):=λj k w e ne=>by rw[hH (qs ne)]at e;show e
 have OW:∀(j:Nat) k w,k.root=bD->(c.st.set i (a5 (.Je,u')))[j]?=a5 (a5 (k,w))->c.st[j]?=a5 (a5 (k,w)):=λj k w hk e=>by
  by_cases f:j=i
  .subst f;rw[d6 Kl]at e;cases e;cases hk
  .show D j k w e f
 have b1:∀a,({c with H:=H',st:=c.st.set i (a5 (.Je,u')),kid:=λj=>if j=i then as' else c.kid j}:Cf).R1 a->c.R1 a:=λa ⟨j,k,w,hk,g,b⟩=>⟨j,k,w,hk,OW j k w hk g,b⟩
 have G:∀j a,({c with H:=H',st:=c.st.set i (a5 (.Je,u')),kid:=λj=>if j=i then as' else c.kid j}:Cf).RD j a->c.RD j a\/(j=i/\¬c.R a/\Q.H a=b8):=λj a JD=>by
  have⟨w,h,g,b,e3⟩:=JD;by_cases f:j=i
  .subst f;have I:c.σ[j]?=a5 (a5 (.ref h)):=b;rw[B]at I;cases I;rcases e3 with rfl|e3
   .show .inl ⟨u,_,T,B,.inl rfl⟩
   .have N9:a∈as':=by simpa using e3
    rcases ab a N9 with z|z
    .show .inl ⟨u,_,T,B,.inr z⟩
    .show .inr ⟨rfl,z⟩
  .have N9:a=h\/a∈c.kid j:=by simpa[f] using e3
   show .inl ⟨w,h,D j _ w g f,b,N9⟩
 show⟨⟨λa o e z=>q (λm=>by rw[h0 m]at e;cases e) (d.same a o e z),λa z=>?_,d.par,λa z=>?_,by simp[d.len],λj k w e=>?_,λx s k1 k2 w1 w2 h h1 h2 g b e3 e4=>d.inj x s k1 k2 w1 w2 h h1 h2 (OW x k1 w1 h1 g) (OW s k2 w2 h2 b) e3 e4,⟨λj w h g b=>?_,λx s a J L=>?_,λj a J L=>?_⟩⟩,⟨λa o e z=>?_,λa o e=>?_,λa z=>?_,n.sub,n.new⟩⟩
 .have⟨q1,o,q2⟩:=d.Lu a z;show⟨q1,Y a o q2⟩
 .have⟨q1,o,q2⟩:=d.io a z;show⟨q1,Y a o q2⟩
 .by_cases f:j=i
  .subst f;rw[d6 Kl]at e;cases e;show⟨.ref r,B,r,rfl⟩
  .have⟨v,g,b⟩:=d.sl j k w (D j k w e f);show⟨v,g,b.mv O NB λhk h er=>?_⟩;obtain⟨RH,K7,J,_⟩:=b.rt hk;rw[er]at K7;cases K7;show⟨J,λo l=>q (λz=>d.dd.d1 i h z ⟨j,k,w,hk,D j k w e f,by rw[g,er]⟩) l⟩
 .by_cases f:j=i
  .subst f;rw[d6 Kl]at g;cases g;have I:c.σ[j]?=a5 (a5 (.ref h)):=b;rw[B]at I;cases I;have z:=new O;simpa using z
  .have J_:=D j _ w g f;have JO:(if j=i then as' else c.kid j)=c.kid j:=ł f;change cM C c.S H' h (if j=i then as' else c.kid j) w;rw[JO];show cM.mv O (λa ha=>⟨(d.root (.inr ⟨j,w,h,J_,b,d4.mp ha⟩)).1,λo l=>q (λz=>f (d.dd.dj j i a ⟨w,h,J_,b,d4.mp ha⟩ z)) l⟩) (d.dd.kd j w h J_ b)
 .rcases G x a J with p|⟨rfl,p,_⟩
  .rcases G s a L with A|⟨rfl,A,_⟩
   .show d.dd.dj x s a p A
   .show(A (.inr ⟨x,p⟩)).elim
  .rcases G s a L with A|⟨rfl,A,_⟩
   .show(p (.inr ⟨s,A⟩)).elim
   .rfl
 .rcases G j a J with p|⟨rfl,p,_⟩
  .show d.dd.d1 j a p (b1 a L)
  .show p (.inl (b1 a L))
 .show q (λm=>by
   rcases n.roots a (.inr ⟨i,m⟩) with y|y
   .show z y
   .rw[e]at y;cases y) (n.keep a o e z)
 .have⟨N,l⟩:=n.there a o e;show Y a N l
 .rcases z with z|⟨j,z⟩
  .show n.roots a (.inl (b1 a z))
  .rcases G j a z with y|⟨_,_,y⟩
   .show n.roots a (.inr ⟨j,y⟩)
   .show .inr y
def Ok.newD(l:Ok C c)(B:c.H p=b8)(u:i<c.σ.length):
  Ok C {c with H:=upd c.H p (.dK []),σ:=c.σ.set i (a5 (.ref p)),st:=c.st.set i (a5 (.Je,.Ji [] [])),kid:=λj=>if j=i then [] else c.kid j}/\Ns c {c with H:=upd c.H p (.dK []),σ:=c.σ.set i (a5 (.ref p)),st:=c.st.set i (a5 (.Je,.Ji [] [])),kid:=λj=>if j=i then [] else c.kid j}:=by
 have⟨n,Q⟩:=l.lay (o:=.dK []) B;have⟨q1,q2,q3,q4,D⟩:=l.ll B;have G:i<c.st.length:=by rw[l.len];show u
 have x:∀(j:Nat) k w,(c.st.set i (a5 (.Je,.Ji [] [])))[j]?=a5 (a5 (k,w))->j≠i->c.st[j]?=a5 (a5 (k,w)):=λj k w e ne=>by rw[hH (qs ne)]at e;show e
 have q:∀(j:Nat),j≠i->(c.σ.set i (a5 (.ref p)))[j]?=c.σ[j]?:=λj ne=>hH (qs ne);have I:∀(j:Nat) k w,k.root=bD->(c.st.set i (a5 (.Je,.Ji [] [])))[j]?=a5 (a5 (k,w))->j≠i/\c.st[j]?=a5 (a5 (k,w)):=λj k w hk e=>by
  by_cases b:j=i
  .subst b;rw[d6 G]at e;cases e;cases hk
  .show⟨b,x j k w e b⟩
 have b1:∀a,({c with H:=upd c.H p (.dK []),σ:=c.σ.set i (a5 (.ref p)),st:=c.st.set i (a5 (.Je,.Ji [] [])),kid:=λj=>if j=i then [] else c.kid j}:Cf).R1 a->c.R1 a:=λa J=>by
  have⟨j,k,w,hk,d,f⟩:=J;have⟨b,L⟩:=I j k w hk d;show⟨j,k,w,hk,L,by rw[<-q j b];show f⟩
 have r:∀j a,({c with H:=upd c.H p (.dK []),σ:=c.σ.set i (a5 (.ref p)),st:=c.st.set i (a5 (.Je,.Ji [] [])),kid:=λj=>if j=i then [] else c.kid j}:Cf).RD j a->(j≠i/\c.RD j a)\/(j=i/\a=p):=λj a J=>by
  have⟨w,g,d,f,e3⟩:=J;by_cases b:j=i
  .subst b;have s:(c.σ.set j (a5 (.ref p)))[j]?=a5 (a5 (.ref g)):=f;rw[d6 u]at s;cases s;rcases e3 with rfl|e3
   .show .inr ⟨rfl,rfl⟩
   .simp at e3
  .have N9:a=g\/a∈c.kid j:=by simpa[b] using e3
   show .inl ⟨b,w,g,x j _ w d b,by rw[<-q j b];show f,N9⟩
 show⟨⟨n.same,n.Lu,n.par,n.io,by simp[l.len],λj k w e=>?_,λm h k1 k2 T Y g h1 h2 d f e3 e4=>?_,⟨λj w g d f=>?_,λm h a N t=>?_,λj a N t=>?_⟩⟩,⟨Q.keep,Q.there,λa z=>?_,λ_ z=>z,λ_ z=>.inl z⟩⟩
 .by_cases b:j=i
  .subst b;rw[d6 G]at e;cases e;show⟨.ref p,d6 u,p,rfl⟩
  .have⟨v,d,f⟩:=n.sl j k w (x j k w e b);show⟨v,(q j b).trans d,f⟩
 .have⟨Ng,a1⟩:=I m k1 T h1 d;have⟨MU,a2⟩:=I h k2 Y h2 f;show l.inj m h k1 k2 T Y g h1 h2 a1 a2 ((q m Ng).symm.trans e3) ((q h MU).symm.trans e4)
 .by_cases b:j=i
  .subst b;rw[d6 G]at d;cases d;have s:(c.σ.set j (a5 (.ref p)))[j]?=a5 (a5 (.ref g)):=f;rw[d6 u]at s;cases s;change cM C c.S (upd c.H p (.dK [])) p (if j=j then [] else c.kid j) (.Ji [] []);rw[Ł rfl];show⟨[],aB,rfl,rfl,by simp,λa ha=>by rw[hV.mp ha];show⟨q2,q3,q1⟩,rfl⟩
  .have L:=x j _ w d b;have z:=n.dd.kd j w g L ((q j b).symm.trans f);change cM C c.S (upd c.H p (.dK [])) g (if j=i then [] else c.kid j) w;rw[ł b];show z
 .rcases r m a N with⟨_,A⟩|⟨rfl,rfl⟩
  .rcases r h a t with⟨_,O⟩|⟨rfl,rfl⟩
   .show l.dd.dj m h a A O
   .show(D (.inr ⟨m,A⟩)).elim
  .rcases r h a t with⟨_,O⟩|⟨rfl,_⟩
   .show(D (.inr ⟨h,O⟩)).elim
   .rfl
 .rcases r j a N with⟨_,A⟩|⟨rfl,rfl⟩
  .show l.dd.d1 j a A (b1 a t)
  .show D (.inl (b1 a t))
 .rcases z with z|⟨j,z⟩
  .show .inl (.inl (b1 a z))
  .rcases r j a z with⟨_,y⟩|⟨_,rfl⟩
   .show .inl (.inr ⟨j,y⟩)
   .show .inr B
end
section
theorem dF.rep{S S':d7->Prop}(hs:∀a,S a->S' a):∀{us:List U}{as:List d7},(∀a∈as,S' a)->dF C S H us as->au C S' H us (as.map V.ref)
 |[],as,_,h=>by cases h;show rfl
 |u::us,as,c,h=>by
  have⟨a,as',i,vs,rfl,rfl,d,e,f⟩:=h;show⟨.ref a,as'.map V.ref,rfl,⟨a,vs,rfl,.inl ⟨c a (by simp),.inl d⟩,e.mv (.up hs)⟩,dF.rep hs (λb g=>c b (by simp[g])) f⟩
def Ok.IU(b:Ok C c)(n:Nx c0 c)(Q:c.st[i]?=a5 (a5 (.Je,u)))(s:c.σ[i]?=a5 (a5 (.ref r))):
  Ok C {c with S:=λa=>c.S a\/a∈c.kid i,st:=c.st.set i (a5 (.own,u))}/\Nx c0 {c with S:=λa=>c.S a\/a∈c.kid i,st:=c.st.set i (a5 (.own,u))}:=by
 have T:i<c.st.length:=(dV.mp Q).1;have B:=b.dd.kd i u r Q s;have fr:=cM.fr B;have mem:∀a,(a=r\/a∈c.kid i)->c.RD i a:=λa z=>⟨u,r,Q,s,z⟩
 have up:Mv c.S c.H (λa=>c.S a\/a∈c.kid i) c.H:=.up λa=>.inl;have Yu:Mv (PS C c.S) c.H (PS C λa=>c.S a\/a∈c.kid i) c.H:=.up λa z=>z.imp id .inl;have RN:r∉c.kid i/\da C (λa=>c.S a\/a∈c.kid i) c.H r u:=by
  cases u<;>first|show B.elim|skip
  have⟨kvs,D,G,h3,h4,h5,h6⟩:=B;show⟨(mh.mp h4).1,kvs,D,G,?_⟩;rw[h3];show h6.rep (λa=>.inl) λa I=>.inr I
 have p:∀(j:Nat) k w,(c.st.set i (a5 (.own,u)))[j]?=a5 (a5 (k,w))->j≠i->c.st[j]?=a5 (a5 (k,w)):=λj k w e ne=>by rw[hH (qs ne)]at e;show e
 have b1:∀a,({c with S:=λa=>c.S a\/a∈c.kid i,st:=c.st.set i (a5 (.own,u))}:Cf).R1 a->c.R1 a\/a=r:=λa Y=>by
  have⟨j,k,w,hk,f,g⟩:=Y;by_cases d:j=i
  .subst d;have Ls:c.σ[j]?=a5 (a5 (.ref a)):=g;rw[s]at Ls;cases Ls;show .inr rfl
  .show .inl ⟨j,k,w,hk,p j k w f d,g⟩
 have J:∀j a,({c with S:=λa=>c.S a\/a∈c.kid i,st:=c.st.set i (a5 (.own,u))}:Cf).RD j a->j≠i/\c.RD j a:=λj a Y=>by
  have⟨w,h,f,g,t⟩:=Y;by_cases d:j=i
  .subst d;rw[d6 T]at f;cases f
  .show⟨d,w,h,p j _ w f d,g,t⟩
 show⟨⟨b.same,λa z=>?_,b.par,b.io,by simp[b.len],λj k w e=>?_,λm l k1 k2 L N h D G f g t e4=>?_,⟨λj w h f g=>?_,λm l a x z2=>b.dd.dj m l a (J m a x).2 (J l a z2).2,λj a x z2=>?_⟩⟩,⟨⟨n.keep,n.there,λa z=>?_,λa z=>.inl (n.sub a z),λa z=>?_⟩⟩⟩
 .rcases z with z|z
  .show b.Lu a z
  .obtain⟨o,ho,_⟩:=cM.there B a (ko _ z);show⟨(fr a (ko _ z)).2.2,o,ho⟩
 .by_cases d:j=i
  .subst d;rw[d6 T]at e;cases e;have⟨q1,q2,q3⟩:=fr r (mu ..);show⟨.ref r,s,r,rfl,λz=>z.elim q1 RN.1,q2,q3,RN.2⟩
  .have⟨v,f,g⟩:=b.sl j k w (p j k w e d);show⟨v,f,g.mv up Yu λhk h er=>?_⟩;obtain⟨RH,K7,x,_⟩:=g.rt hk;rw[er]at K7;cases K7;show⟨λz=>z.elim x λz=>b.dd.d1 i h (mem h (.inr z)) ⟨j,k,w,hk,p j k w e d,by rw[f,er]⟩,λo q=>q⟩
 .by_cases O:m=i
  .by_cases A:l=i
   .rw[O,A]
   .subst O;have N9:c.σ[m]?=a5 (a5 (.ref h)):=t;rw[s]at N9;cases N9;show(b.dd.d1 m r (mem r (.inl rfl)) ⟨l,k2,N,G,p l k2 N g A,e4⟩).elim
  .by_cases A:l=i
   .subst A;have VZ:c.σ[l]?=a5 (a5 (.ref h)):=e4;rw[s]at VZ;cases VZ;show(b.dd.d1 l r (mem r (.inl rfl)) ⟨m,k1,L,D,p m k1 L f O,t⟩).elim
   .show b.inj m l k1 k2 L N h D G (p m k1 L f O) (p l k2 N g A) t e4
 .by_cases d:j=i
  .subst d;rw[d6 T]at f;cases f
  .have J_:=p j _ w f d;show cM.mv up (λa I=>⟨λz=>z.elim (b.root (.inr ⟨j,w,h,J_,g,d4.mp I⟩)).1 λz=>d (b.dd.dj j i a ⟨w,h,J_,g,d4.mp I⟩ (mem a (.inr z))),λo q=>q⟩) (b.dd.kd j w h J_ g)
 .have⟨d,y⟩:=J j a x;rcases b1 a z2 with z|z
  .show b.dd.d1 j a y z
  .subst z;show d (b.dd.dj j i a y (mem a (.inl rfl)))
 .rcases z with z|⟨j,z⟩
  .rcases b1 a z with z|rfl
   .show n.roots a (.inl z)
   .show n.roots a (.inr ⟨i,mem a (.inl rfl)⟩)
  .show n.roots a (.inr ⟨j,(J j a z).2⟩)
 .rcases z with z|z
  .show n.new a z
  .rcases n.roots a (.inr ⟨i,mem a (.inr z)⟩) with y|y
   .show .inr (.inl y)
   .show .inr (.inr y)
def BD(f:X.N[i]?=a5 x)(g:K_ X.env.scope x)(j:(x==("__debug__":Str))=cc)(k:(x==("__classdict__":Str))=cc):PE X (.Name x pos) (Jl C (yr i)):=by
 have m:=oY (C:=C) (pos:=pos) f g j k;rintro pins s σ H Q I ⟨b,rfl,rfl,c,r,st',e,h⟩;unfold yr at e;split at e
 .rename_i u hs;cases e;have⟨v,d,l,rfl⟩:=c.sl i _ _ hs;have⟨n,o⟩:=c.IU (Nx.refl b) hs d;have p:i<b.st.length:=(dV.mp hs).1;show bY f g j k pins s b.σ b.H Q I ⟨.ref l,d,h {b with S:=λa=>b.S a\/a∈b.kid i,st:=b.st.set i (a5 (.own,u))} (.ref l) rfl rfl n o ⟨⟨.own,rfl,d6 p⟩,d⟩⟩
 .show m pins s b.σ b.H Q I ⟨b,rfl,rfl,c,r,st',e,h⟩
end
section
def gz{st:ay}(h:W (iR i) st Q):∃ks us,st[i]?=a5 (a5 (.Je,.Ji ks us))/\Q (ks,us) st:=by
 have⟨r,st',e,q⟩:=h;unfold iR at e;split at e
 .rename_i ks us hs;cases e;show⟨ks,us,hs,q⟩
 .cases e
def gA{st:ay}(h:W (j9 x) st Q):∃y,x.2=.str y/\Q y st:=by
 unfold j9 at h;split at h
 .rename_i y e;rw[ao]at h;show⟨y,e,h⟩
 .show(bp.mp h).elim
def Ok.Ji(d:Ok C c)(f:c.st[i]?=a5 (a5 (.Je,.Ji ks us))):∃(r:d7) (kvs:List (Key×V)),c.σ[i]?=a5 (a5 (.ref r))/\c.H r=a5 (.dK kvs)/\kvs.map (·.1)=ks.map mx/\kvs.map (·.2)=(c.kid i).map V.ref /\
  (r::c.kid i).Nodup/\dF C c.S c.H us (c.kid i)/\(∀y:Str,(dO kvs (mx y)).isSome=cK (y∈ks))/\∀(y:Str) (u:U),d0 ks us y=a5 u->∃v,dO kvs (mx y)=a5 v/\Rep C (λa=>c.S a\/a∈c.kid i) c.H u v:=by
 have⟨v,e,r,rfl⟩:=d.sl i _ _ f;have⟨kvs,k,b,g,l,n,h⟩:=d.dd.kd i _ r f e;have j:au C (λa=>c.S a\/a∈c.kid i) c.H us (kvs.map (·.2)):=by rw[g];show h.rep (λa=>.inl) λa m=>.inr m
 show⟨r,kvs,e,k,b,g,l,h,λy=>(dU (x:=y) b j).2,λy=>(dU (x:=y) b j).1⟩
def qB{k:Str->List Str×List U->M β}{Post:β->ay->Prop}{Z:V->V->Hp->Prop}(m:Ok C a)(h:W (o >>= λx=>j9 x >>= λy=>iR i >>= λd=>k y d) a.st Post)
  (hz:∀(c:Cf) (y:Str) (ks:List Str) (us:List U) (r:d7) (kvs:List (Key×V)),c.σ=a.σ->Ok C c->Nx a c->c.H r=a5 (.dK kvs)->(dO kvs (mx y)).isSome=cK (y∈ks)->W (k y (ks,us)) c.st Post->Z (.str y) (.ref r) c.H) :
  Jl C o a.σ a.H λv p=>∃f,a.σ[i]?=a5 (a5 f)/\Z v f p:=by
 show⟨a,rfl,rfl,m,?_⟩;rw[ah]at h;show W.mono h λx st' w c v g hs b n r=>?_;subst hs;have⟨u,z⟩:=x;rw[ah]at w;have⟨y,e,j⟩:=gA w;clear w
 dsimp only at e r
 subst e;have ev:v=.str y:=r.str b;subst ev;rw[ah]at j;have⟨ks,us,hs,w⟩:=gz j;obtain⟨l,kvs,q,s,_,_,_,_,t,_⟩:=b.Ji hs;show⟨.ref l,by rw[<-g];show q,hz c y ks us l kvs g b n s (t y) w⟩
abbrev EJ(neg:Bool):Đ:=if neg=bD then .NotIn else .In
def EK(c:∀j,ns j=bD->j≠i)(d:X.N.Nodup)(b:X.N[i]?=a5 x)(f:Loc X.env.scope x)(g:X.fn x=bD\/X.env.scope.names.lookup x=a5 .local)
  (hs:O6 (.Dict [] [] p) (a5 (.Name x pos')) pos.line X.env=pure cc):L2.PS X (.Assign [.Name x pos'] (.Dict [] [] p) pos) (JL C ns (CH i >>= λ_=>pure .nx)):=by
 rintro pins s σ H D I ⟨a,rfl,rfl,k,h⟩;have l:i<a.σ.length:=by rw[I.len];show(dV.mp b).1
 show rE d b f pX hs g pins s a.σ a.H D I λq m=>?_;have⟨n,o⟩:=k.newD m l;rw[ah]at h;obtain⟨_,st',e,w⟩:=h;cases e;rw[ao]at w;show w _ rfl n o ⟨λj r=>hH (qs (c j r)),by simp⟩
end
section
def BE(G:X.A.units+60<KX)(p:X.N[i]?=a5 x)(q:K_ X.env.scope x)(t:(x==("__debug__":Str))=cc)(u:(x==("__classdict__":Str))=cc)(v:PE X a (Jl C D))(z:L4 (EJ neg) (.Name x p2)=cc):
  PT X (.Compare a [EJ neg] [.Name x p2] pos) (Ks C (D >>= λx=>j9 x >>= λy=>iR i >>= λd=>pure (T7 neg y d.1))):=by
 rintro pins s σ H Q I ⟨f,rfl,rfl,B,h⟩;cases neg with
 |false =>
  show xn (DO ⋯ v (bY p q t u)) z pins s f.σ f.H Q I (qB (Z:=λy x e=>∃a o,x=V.ref a/\fy e a y o/\∃b,V.bl o.isSome=.bl b/\Q b e) B h λc y ks us r kvs g j n l m w=>?_);rw[ao]at w;show⟨r,_,rfl,fy.k (k:=mx y) l,?_⟩;rw[m];show⟨_,rfl,w c g rfl j n⟩
 |true =>
  show xn (vP ⋯ v (bY p q t u)) z pins s f.σ f.H Q I (qB (Z:=λy x e=>∃a o,x=V.ref a/\fy e a y o/\∃b,V.bl (!o.isSome)=.bl b/\Q b e) B h λc y ks us r kvs g j n l m w=>?_);rw[ao]at w;show⟨r,_,rfl,fy.k (k:=mx y) l,?_⟩;rw[m];show⟨_,rfl,w c g rfl j n⟩
theorem dF.snoc{S:d7->Prop}{a:d7}(b:H a=a5 (.lst vs))(c:au C S H d vs):∀{us:List U}{as:List d7},dF C S H us as->dF C S H (us++[.lst d]) (as++[a])
 |[],as,h=>by cases h;show⟨a,[],d,vs,rfl,rfl,b,c,rfl⟩
 |u::us,as,h=>by
  have⟨a',as',f,g,rfl,e,i,j,k⟩:=h;show⟨a',as'++[a],f,g,rfl,e,i,j,dF.snoc b c k⟩
def sC{st:ay}(h:W (lr i y r) st Q):∃us ks vs,r=(.own,.lst us)/\st[i]?=a5 (a5 (.Je,.Ji ks vs))/\y∉ks/\ks.length<cL/\Q () (st.set i (a5 (.Je,.Ji (ks++[y]) (vs++[.lst us])))):=by
 have⟨k,u⟩:=r;cases k<;>cases u<;>first|show(bp.mp h).elim|skip
 rename_i us;obtain⟨_,st',e,q⟩:=h;unfold lr at e
 dsimp only at e
 split at e
 .rename_i ks vs hs;split at e
  .rename_i hz;cases e;show⟨us,ks,vs,rfl,hs,hz.1,hz.2,q⟩
  .cases e
 .cases e
def EL{i:Nat}{x:Str}{j:Pos}(hu:X.A.units+60<KX)(hN:X.N[i]?=a5 x)(hv:K_ X.env.scope x)(hd:(x==("__debug__":Str))=cc)(JM:(x==("__classdict__":Str))=cc)
  (ha:PE X a (Jl C ma)) (B:PE X b (Jl C mb)) (hs:QX [.Subscript (.Name x j) b p] a pos.line X.env=pure cc) (QH:VD [.Subscript (.Name x j) b p] a X.env=pure b8)
  (G:∀v,Sl (.Subscript (.Name x j) b p) X.env v=(do
   let n <-LQ [v] (uk (.Name x j) X.env)
   let I <-LQ [v,n] (uk b X.env)
   Wr p
   LQ [v,n,I] (TF n I v)
   Wx [v,n,I] [])) :
  L2.PS X (.Assign [.Subscript (.Name x j) b p] a pos) (JL C ns (ma >>= λr=>iR i >>= λ_=>mb >>= λx=>j9 x >>= λy=>lr i y r >>= λ_=>pure .nx)):=by
 show PS.weak (rD ha (xr (bY hN hv hd JM) B (set_dict (X:=X) ⋯) G) hs QH rfl) ?_;rintro D σ H ⟨c0,rfl,rfl,O,h⟩;show aO O h λr c v t w=>?_;rw[ah]at w;have⟨V0,us0,Kq,w⟩:=gz w;obtain⟨Q,OX,T,g0,_⟩:=t.ok.Ji Kq;show⟨.ref Q,by rw[<-t.hσ];show T,?_⟩;rw[ah]at w;show⟨c,t.hσ,rfl,t.ok,w.mono λy st2 Y J vy s e4 u n2 r2=>?_⟩;subst e4;rw[ah]at Y;have⟨ky,uy⟩:=y;have⟨y,ey,w3⟩:=gA Y
 dsimp only at ey r2
 subst ey;have ev:vy=.str y:=r2.str u;subst ev;rw[ah]at w3;have⟨us,ks,vs,L,g,Rt,l,q⟩:=sC w3;subst L;rw[ao]at q;obtain⟨m,kvs,d,g1,g2,g3,g4,g5,g6,_⟩:=u.Ji g;have L:m=Q:=by rw[s,<-t.hσ,T]at d;cases d;rfl
 subst L;have⟨f,rfl,k1,k2,k3,JK,k4,k5⟩:=t.rx.w.on t.ok n2.toNs (s.trans t.hσ.symm);have Uv:=t.nx.trans n2;have hl:kvs.length=ks.length:=by have:=ņ Km g2;simpa using this
 have M1:dO kvs (mx y)=b8:=by
  have:=g6 y;rw[Ń Rt]at this;cases hq:dO kvs (mx y) with
  |none=>rfl
  |some _=>rw[hq]at this;cases this
 show⟨m,_,rfl,vM.k (k:=mx y) g1 (by rw[hl];show l),?_⟩;rw[xF _ M1];have RN:f∉J.kid i:=λz=>k3 (.inr ⟨i,_,_,g,d,.inr z⟩);have V1:f≠m:=λz=>k3 (.inr ⟨i,_,_,g,d,.inl z⟩);have rd:=u.dd.kd i _ _ g d;have fr:=cM.fr rd;have⟨L0,n3⟩:=Ok.GW (H':=upd J.H m (.dK (kvs++[(mx y,.ref f)]))) (u':=.Ji (ks++[y]) (vs++[.lst us])) (as':=J.kid i++[f]) u Uv.toNs g d
  (λa ne=>av λz=>ne ⟨_,_,g,d,.inl z⟩) (λa o e=>by
   by_cases hz:a=m
   .subst hz;show⟨_,aB⟩
   .rw[av hz];show⟨o,e⟩)
  (λmv=>by
   show⟨_,aB,by rw[ke,g2,ke];rfl,by rw[ke,g3,ke];rfl,?_,λa ha=>?_,?_⟩
   .rw[<-Ö,ro];show⟨g4,by simp,λa ha b B=>by
     have:b=f:=by simpa using B
     subst this;rintro rfl;rcases d4.mp ha with z|z
     .show V1 z
     .show RN z⟩
   .rw[<-Ö]at ha;rcases hW.mp ha with ha|ha
    .show fr a ha
    .have:a=f:=by simpa using ha
     subst this;obtain⟨z1,_,z3,_⟩:=O.ll k1;show⟨k2,z3,z1⟩
   .show dF.snoc (by rw[av V1];show k4) (k5.mv mv) (dF.mv mv (λa ha o e=>by
     rw[av (λz=>(mh.mp g4).1 (by rw[<-z];show ha))];show e) g5))
  (λa ha=>by
   rcases hW.mp ha with ha|ha
   .show .inl ha
   .have:a=f:=by simpa using ha
    subst this;show .inr ⟨k3,k1⟩)
 have z:=q _ rfl L0 n3 (Kept.of s);rw[<-s];show z
theorem dF.at{S:d7->Prop}:∀{ks:List Str}{us:List U}{as:List d7}{kvs:List (Key×V)}{u:U},kvs.map (·.1)=ks.map mx->kvs.map (·.2)=as.map V.ref->as.Nodup->dF C S H us as->d0 ks us y=a5 u ->
  ∃a ws d,dO kvs (mx y)=a5 (.ref a)/\a∈as/\u=.lst d/\H a=a5 (.lst ws)/\au C S H d ws/\∀(H':Hp) (c:List U) (ws':List V),Mv S H S H'->H' a=a5 (.lst ws')->au C S H' c ws'->(∀b∈as,b≠a->H' b=H b)->dF C S H' (j_ ks us y (.lst c)) as
 |[],us,as,kvs,u,_,_,_,_,h=>by cases us<;>cases h
 |k::ks,[],as,kvs,u,_,_,_,_,h=>by cases h
 |k::ks,O::us,as,kvs,u,f,n,g,hk,h=>by
  have⟨a,as',d,ws,rfl,rfl,s,t,v⟩:=hk;cases kvs with
  |nil=>simp at f
  |cons p kvs =>
   rw[ei,ei,Qt]at f n;rw[mh]at g;by_cases i:k=y
   .subst i;simp only[d0,if_true]at h;cases h;show⟨a,ws,d,by rw[eW f.1,n.1],by simp,rfl,s,t,λH' c ws' j q r l=>?_⟩;simp only[j_,if_true];show⟨a,as',c,ws',rfl,rfl,q,r,dF.mv j (λb m o e=>by rw[l b (by simp[m]) (λz=>g.1 (z▸m))];show e) v⟩
   .simp only[d0,ł i]at h;have⟨w,A,B,D,x,G,I,J,L⟩:=dF.at f.2 n.2 g.2 v h;show⟨w,A,B,?_,by simp[x],G,I,J,λH' c ws' j q r l=>?_⟩
    .rw[eX (by rw[f.1];intro z;show i (Vk z))];show D
    .simp only[j_,ł i];have N:a≠w:=λz=>g.1 (z▸x);show⟨a,as',d,ws,rfl,rfl,by rw[l a (by simp) N];show s,t.mv j,L H' c ws' j q r λb m=>l b (by simp[m])⟩
def sD{st:ay}(h:W (lu i y u) st Q):∃ks vs xs,st[i]?=a5 (a5 (.Je,.Ji ks vs))/\d0 ks vs y=a5 (.lst xs)/\xs.length<cL/\Q () (st.set i (a5 (.Je,.Ji ks (j_ ks vs y (.lst (xs++[u])))))):=by
 obtain⟨_,st',e,q⟩:=h;unfold lu at e;split at e
 .rename_i ks vs hs;split at e
  .rename_i xs a;split at e
   .rename_i hz;cases e;show⟨ks,vs,xs,hs,a,hz,q⟩
   .cases e
  .cases e
 .cases e
abbrev wA(C:Ct)(m:M (Kd×U)):TE:=λσ H Q=>∃b:Cf,b.σ=σ/\b.H=H/\Ok C b/\W m b.st λr st'=>∀c v,c.σ=σ->c.st=st'->Ok C c->Nx b c->(∀a o,b.H a=a5 o->c.H a=a5 o)->aS C b c r.1 r.2 v->Q v c.H
def nz(d:Ok C b)(h:W (e >>= k) b.st Post)
  (hz:∀x c v,Lv C b c x v->(∀a o,b.H a=a5 o->c.H a=a5 o)->W (k x) c.st Post->Z v c.H):wA C e b.σ b.H Z:=by
 rw[ah]at h;show⟨b,rfl,rfl,d,h.mono λx st1 f g i j l m n p q=>hz x g i ⟨j,m,n,q⟩ p (by rw[l];show f)⟩
def yK(f:X.N[i]?=a5 x)(g:K_ X.env.scope x)(l:(x==("__debug__":Str))=cc)(m:(x==("__classdict__":Str))=cc):PE X (.Name x pos) (wA C (dk i)):=by
 show PE.weak (bY f g l m) ?_;rintro σ H Q ⟨b,rfl,rfl,c,r,st',e,h⟩;unfold dk at e;split at e
 .cases e
 .rename_i k u n hs;cases e;have⟨v,d,a⟩:=c.sl i k u hs;show⟨v,d,h b v rfl rfl c (Nx.refl b) (λ_ _ z=>z) ?_⟩;by_cases hk:k.root=bD
  .rw[Ł hk];show⟨⟨k,hk,hs⟩,d⟩
  .rw[ł hk];cases k with
   |loc=>show a
   |any=>show a
   |bor j=>show a.elim
   |Je=>show(n rfl).elim
   |_=>show absurd rfl hk
 .cases e
def iY(h:PE X e (tC v))(r:∀S H,Rep C S H u v):PE X e (wA C (pure (.loc,u))):=by
 show PE.weak h ?_;rintro σ H Q ⟨a,rfl,rfl,b,h⟩;rw[ao]at h;show h a v rfl rfl b (Nx.refl a) (λ_ _ z=>z) (r _ _)
def EM(hK:C.K=X.K)(hu:X.A.units+60<KX)(hN:X.N[i]?=a5 x)(hv:K_ X.env.scope x)(hd:(x==("__debug__":Str))=cc)(JM:(x==("__classdict__":Str))=cc)(G:PE X a (wA C ma))(hb:PE X b (Jl C mb))(RO:DN b)
  (J7:((x2 I (gj [a] X.env)).all (λx=>!x.1)&&(P1 I (Lj [] X.env)).all (λx=>x.1.isSome)
   && cK ([a].length+([]:List MF).length+(if ([]:List MF).isEmpty then 0 else 1)<30))=bD)
  (Js:(j.endLine==I.line)=bD) (Jp:gj [a] X.env=[(cc,uk a X.env)]) :
  L2.PS X (.Expr (.Call (.Attribute (.Subscript (.Name x px) b p) "append" j) [a] [] I) pos) (JL C ns (iR i >>= λ_=>mb >>= λx=>j9 x >>= λy=>iR i >>= λd=>if y∈d.1 then(ma >>= λr=>lift r >>= λu=>lu i y u >>= λ_=>pure .nx) else M.fail)):=by
 show PS.weak (iB (kP PySem.F.plainAttrs_list PySem.F.slot_list_append PySem.F.type_list_append mV (AM ⋯ (bY hN hv hd JM) hb RO) (cH G eS Jp) rfl J7 Js Jp rfl)) ?_;rintro D σ H ⟨c0,rfl,rfl,ok,h⟩;rw[ah]at h;have⟨V0,us0,Kq,h⟩:=gz h;obtain⟨r0,OX,J,g0,_⟩:=ok.Ji Kq;show⟨.ref r0,J,?_⟩;show aO ok h λry c vy t w=>?_;rw[ah]at w;have⟨ky,uy⟩:=ry;have⟨y,ey,w1⟩:=gA w
 dsimp only at ey
 subst ey;have ev:vy=.str y:=t.rx.str t.ok;subst ev;rw[ah]at w1;have⟨ks,us,hs,l⟩:=gz w1
 dsimp only at l
 by_cases L:y∈ks
 case neg=>rw[ł L]at l;show(bp.mp l).elim
 rw[Ł L]at l;obtain⟨O,kvs,f1,g1,g2,g3,g4,g5,g6,_⟩:=t.ok.Ji hs;have Q:O=r0:=by rw[t.hσ,J]at f1;cases f1;rfl
 subst Q;have N_:=g6 y;rw[ń L]at N_;have⟨v0,n⟩:=R3.mp N_;have K':v0∈(c.kid i).map V.ref:=by
  rw[<-g3];unfold dO at n;have⟨q,hq,rfl⟩:=ez.mp n;show Zx (List.mem_of_find?_eq_some hq)
 have⟨f,Yx,rfl⟩:=js.mp K';have⟨Yy,Uy⟩:=g5.mem Yx;show⟨O,.ref f,rfl,by rw[<-n];show fy.k (k:=mx y) g1,Or.inl ⟨rfl,Yy,.inl (.inl Uy)⟩,?_⟩;rw[<-t.hσ];show nz t.ok l λr g v t' wg w3=>?_;rw[ah]at w3;obtain⟨S',st',u,sS,T,n1,m,w4,_,_⟩:=gw t.ok t'.ok t'.nx t'.rx.w w3;rw[ah]at w4;have⟨MC,JK,xs,s,hx,hz,q⟩:=sD w4;rw[ao]at q;obtain⟨B,Y,k1,k2,k3,k4,k5,k6,_,_⟩:=T.Ji s;have V2:g.σ[i]?=a5 (a5 (.ref B)):=k1;have Q:B=O:=by rw[t'.hσ,t.hσ,J]at V2;cases V2;rfl
 subst Q;have Yz:g.H B=a5 (.dK Y):=k2;have Uz:Y=kvs:=by have:=wg _ _ g1;rw[Yz]at this;cases this;rfl
 subst Uz;have nd:=(mh.mp k5).2;have⟨a2,ws,ys,l1,l2,l3,l4,l5,l6⟩:=dF.at k3 k4 nd k6 hx;cases l3;rw[n]at l1;cases l1;have YA:g.H f=a5 (.lst ws):=l4;show⟨f,ws,v,rfl,rfl,YA,by rw[<-l5.len];show hz,?_⟩;have Kb:f≠B:=λz=>(mh.mp k5).1 (z▸l2);have⟨Jv,n2⟩:=Ok.GW (c:={g with S:=S',st:=st' }) (H':=upd g.H f (.lst (ws++[v]))) (u':=.Ji MC (j_ MC JK y (.lst (xs++[u])))) (as':=g.kid i) T (t.nx.trans n1).toNs s k1
  (λa ne=>av λz=>ne ⟨_,_,s,k1,.inr (z▸l2)⟩) (λa o e=>by
   by_cases hz:a=f
   .subst hz;show⟨_,aB⟩
   .rw[av hz];show⟨o,e⟩)
  (λmv=>⟨Y,by rw[av (qs Kb)];show k2,k3,k4,k5,cM.fr (T.dd.kd i _ _ s k1),l6 _ _ _ mv aB ((l5.mv mv).snoc (m.mv mv)) λb _ ne=>av ne⟩)
  (λa G=>.inl G)
 have z:=q _ rfl Jv n2 (Kept.of (t'.hσ.trans t.hσ));rw[<-t'.hσ];show z
end
section
def yL{st:ay}(h:W (T8 u) st Q):∃ks us,u=.Ji ks us/\Q () st:=by
 cases u<;>first|show(bp.mp h).elim|skip
 show⟨_,_,rfl,ao.mp h⟩
def nA{st:ay}(h:W (wc x) st Q):∃j,x.2=.int j/\Q j st:=by
 unfold wc at h;split at h
 .rename_i y e;rw[ao]at h;show⟨y,e,h⟩
 .show(bp.mp h).elim
def nB{st:ay}(h:W (qw i) st Q):∃k us,k.root=bD/\st[i]?=a5 (a5 (k,.lst us))/\Q us st:=by
 have⟨r,st',e,q⟩:=h;unfold qw at e;split at e
 .rename_i k us hs;split at e
  .rename_i hk;cases e;show⟨k,_,hk,hs,q⟩
  .cases e
 .cases e
theorem qC:∀{ks:List Str}{us:List U},y∈ks->ks.length=us.length->d0 ks us y=b8->False
 |[],us,h,_,_=>by cases h
 |k::ks,[],_,h,_=>by simp at h
 |k::ks,u::us,h,hl,e=>by
  by_cases hk:k=y
  .simp[d0,hk]at e
  .simp only[d0,ł hk]at e;rcases d4.mp h with h|h
   .show hk h.symm
   .show qC h (by simpa using hl) e
def yM{i:Nat}{x:Str}{D:Pos}(hu:X.A.units+60<KX)(hN:X.N[i]?=a5 x)(hv:K_ X.env.scope x)(hd:(x==("__debug__":Str))=cc)(JM:(x==("__classdict__":Str))=cc)
  (ha:PE X a (Jl C ma)) (hb:PE X b (Jl C mb)) (hm:M2 X (.Name x D) "get" e a b G') :
  PE X (.Call (.Attribute (.Name x D) "get" e) [a,b] [] G') (Jl C (dk i >>= λx=>T8 x.2 >>= λ_=>ma >>= λy=>j9 y >>= λy=>mb >>= λz=>lift z >>= λu=>dk i >>= λx=>M.Jt (A9 x y u))):=by
 rintro pins s σ H Q I ⟨o,rfl,rfl,p,h⟩;show xI ⋯ (bY hN hv hd JM) ha hb hm pins s o.σ o.H Q I ?_;rw[ah]at h;have⟨k0,u0,UA,Kq,h⟩:=cZ h;have⟨v0,G,t0⟩:=p.slot UA Kq;rw[ah]at h;have⟨V0,us0,J,h'⟩:=yL h
 dsimp only at J
 subst J;obtain⟨a0,OX,rfl,g0,_⟩:=t0.dict p;show⟨.ref a0,G,a0,rfl,.inl ⟨OX,.inl g0⟩,?_⟩;show aO p h' λry c vy t w=>?_;rw[ah]at w;have⟨ky,uy⟩:=ry;have⟨y,L,w1⟩:=gA w
 dsimp only at L
 subst L;have ev:vy=.str y:=t.rx.str t.ok;subst ev;rw[<-t.hσ];show aO t.ok w1 λz f vz g O=>?_;rw[ah]at O;obtain⟨S',st',u,sS,B,n1,j,T,_,_⟩:=gw t.ok g.ok g.nx g.rx.w O;rw[ah]at T;have⟨k,u1,YB,KS,w5⟩:=cZ T;have⟨r,d,q⟩:=bJ.mp w5;have⟨v1,e1,t1⟩:=B.slot YB KS;have Y:f.σ[i]?=a5 (a5 v1):=e1;rw[g.hσ,t.hσ,G]at Y;cases Y;cases u1<;>first|(simp only[A9]at d;cases d;done)|skip
 rename_i ks us;have⟨a1,kvs,ea,g1,g2,g3⟩:=t1.dict B;cases ea;have RQ:f.H a0=a5 (.dK kvs):=g1;show⟨_,fy.k (k:=mx y) RQ,?_⟩;simp only[A9]at d;have⟨l1,l2⟩:=dU (x:=y) g2 g3;have l:∀v:V,aS C o {f with S:=S',st:=st' } r.1 r.2 v->Q v f.H:=λv z=>q {f with S:=S',st:=st' } v (g.hσ.trans t.hσ) rfl B (t.nx.trans n1) z;cases n:d0 ks us y with
 |some w =>
  rw[n]at d;cases d;have⟨v,ev,rv⟩:=l1 w n;rw[ev];show l v ?_;show aS.item (k:=if k.root=bD then .bor i else k) rv
 |none =>
  rw[n]at d;cases d;have M1:dO kvs (mx y)=b8:=by
   cases hq:dO kvs (mx y) with
   |none=>rfl
   |some v =>
    exfalso
    rw[hq]at l2;have hy:y∈ks:=by simpa using l2.symm
    have m:ks.length=us.length:=by have h1:=ņ Km g2;have h2:=g3.len;simp at h1 h2;lia
    show qC hy m n
  rw[M1];show l vz j
def yN:F5 X (λo i H Q=>∃p xs j v,o=.ref p/\i=.int j/\H p=a5 (.lst xs)/\0<=j/\xs[j.toNat]?=a5 v/\Q v H):=by
 rintro pins s σ H o i k l Q I b c ⟨p,xs,j,v,rfl,rfl,d,e,a,q⟩;cases b;have⟨t,rfl⟩:=c;have⟨m,r,f,hz⟩:=I.list (.inl (.inl d));have⟨w,g,h⟩:=r.get a;have hl:=r.length;have n:=fR;have u:=(dV.mp a).1;show wpAny_getItem_list f.isList e ⋯ (by simpa using g) ⟨v,H,I,h,q⟩
def BF:Rc X (if sub=bD then .Sub else .Add) (Sk (we sub)):=by
 cases sub with
 |true=>show Dv
 |false=>show Du
def GX(hN:X.N[i]?=a5 x)(hv:K_ X.env.scope x)(hd:(x==("__debug__":Str))=cc)(JM:(x==("__classdict__":Str))=cc)
  (ha:PE X a (wA C ma)) (hb:PE X b (Jl C mb))
  (m:∀e f new,ĳ b e f new=(do LQ [new,e,f] (TF e f new);Wx [new,e,f] [];pure .next)) :
  L2.PS X (.AugAssign (.Subscript (.Name x px) b p) (if sub=bD then .Sub else .Add) a pos) (JL C ns (qw i >>= λ_=>mb >>= λy=>wc y >>= λj=>qw i >>= λus=>M.Jt (qx us j) >>= λo=>ma >>= λz=>wc z >>= λw=>modS i (eI (.int j) (.int (we sub o w))) >>= λ_=>pure .nx)):=by
 show PS.weak (Av (bY hN hv hd JM) hb yN ha BF set_list m) ?_;rintro D σ H ⟨c0,rfl,rfl,u,h⟩;rw[ah]at h;have⟨k0,us0,Kz,Kq,h⟩:=nB h;have⟨v0,n,Mg⟩:=u.sl i _ _ Kq;obtain⟨a0,rfl,_,_,_,_⟩:=Mg.rt Kz;show⟨.ref a0,n,?_⟩;show aO u h λry c vy t w=>?_;rw[ah]at w;have⟨ky,uy⟩:=ry;have⟨j,v,A⟩:=nA w
 dsimp only at v
 subst v;have ev:vy=.int j:=t.rx.int t.ok;subst ev;rw[ah]at A;have⟨k1,Nn,OG,KS,B⟩:=nB A;rw[ah]at B;have⟨o,ho,w3⟩:=bJ.mp B;have⟨v1,G,YC⟩:=t.ok.sl i _ _ KS;obtain⟨a1,rfl,_,_,_,QI⟩:=YC.rt OG;rw[t.hσ,n]at G;cases G;have⟨vs,I,g2⟩:=QI;unfold qx at ho;split at ho
 case isFalse=>cases ho
 rename_i Qk;split at ho
 case h_2=>cases ho
 rename_i o' UB;cases ho;have⟨vo,YD,YE⟩:=g2.get UB;have YF:vo=.int o:=YE;subst YF;show⟨a0,vs,j,_,rfl,rfl,I,Qk,YD,?_⟩;rw[<-t.hσ];show nz t.ok w3 λz r vz d all2 J=>?_;rw[ah]at J;have⟨kz,uz⟩:=z;have⟨w,L,O⟩:=nA J
 dsimp only at L
 subst L;have ev:vz=.int w:=d.rx.int d.ok;subst ev;show⟨o,w,rfl,rfl,?_⟩;rw[ah]at O;have⟨k,u1,u2,hk,Q,g,q⟩:=fg O;rw[ao]at q;have⟨v2,s,NP⟩:=d.ok.sl i _ _ Q;obtain⟨a2,rfl,_,_,_,QJ⟩:=NP.rt hk;have YG:=s;rw[d.hσ,t.hσ,n]at s;cases s;have T:r.H a0=a5 (.lst vs):=all2 _ _ I;cases u1 with
 |lst xs =>
  simp only[eI,ez]at g;have⟨l,L6,rfl⟩:=g;have⟨Z1,Y,l2⟩:=QJ;rw[T]at Y;cases Y;show⟨a0,vs,j,l,rfl,rfl,T,by rw[<-l2.len];show L6,?_⟩;have⟨L0,n3⟩:=Ok.mod (c:=r) (H':=upd r.H a0 (.lst (vs.set l (.int (we sub o w))))) (u':=.lst (xs.set l (.int (we sub o w)))) d.ok (t.nx.trans d.nx).toNs hk Q YG (λa ne=>av ne) ⟨_,aB⟩ λmv=>⟨_,aB,(l2.mv mv).set l rfl⟩
  have z:=q _ rfl L0 n3 (Kept.of (d.hσ.trans t.hσ));rw[<-d.hσ];show z
 |Ji ks vs=>simp[eI]at g
 |_=>simp[eI]at g
end
section
def BG{ks:List Str}(c:kvs.map (·.1)=ks.map mx)(d:kvs.map (·.2)=ns.map V.int):kvs=(ks.zip ns).map λp=>((mx p.1:Key),V.int p.2):=by
 induction kvs generalizing ks ns with
 |nil =>
  cases ks with
  |nil=>rfl
  |cons _ _=>cases c
 |cons kv kvs e =>
  cases ks with
  |nil=>cases c
  |cons k ks =>
   cases ns with
   |nil=>cases d
   |cons n ns =>
    have⟨a,b⟩:=kv;simp only[ei,Qt]at c d;have⟨rfl,c⟩:=c;have⟨rfl,d⟩:=d;rw[e c d];rfl
theorem au.of_map{S:d7->Prop}{f:α->U}{g:α->V}:∀{l:List α},(∀x∈l,Rep C S H (f x) (g x))->au C S H (l.map f) (l.map g)
 |[],_=>rfl
 |x::l,h=>⟨g x,l.map g,rfl,h x (by simp),au.of_map λy a=>h y (by simp[a])⟩
def BH(Y:X.calm=bD)(hK:C.K=X.K)(hg:Gl X "sorted")(hm:X.mg "sorted"=b8)(hN:X.N[i]?=a5 x)(hv:K_ X.env.scope x)(hd:(x==("__debug__":Str))=cc)(JM:(x==("__classdict__":Str))=cc)(Js:(b.endLine==l.line)=bD):
  PE X (.Call (.Name "sorted" p) [.Call (.Attribute (.Name x n) "items" b) [] [] l] [] pos) (Jl C (dk i >>= λx=>M.Jt (yp x.2))):=by
 rintro pins s σ H Q I ⟨c,rfl,rfl,m,h⟩;show oT (dm I hg hm (show tA "sorted"=a5 (.builtin "sorted") by decide +kernel) ?_ (by decide +kernel) (by decide +kernel));rw[ah]at h;have⟨k0,u0,UA,Kq,h⟩:=cZ h;have⟨v0,e0,t0⟩:=m.slot UA Kq;have⟨r,f,k⟩:=bJ.mp h
 dsimp only at f
 unfold yp at f;split at f
 rotate_left
 .cases f
 rename_i ks us;rw[r3]at f;have⟨ns,en,f⟩:=f;split at f
 rotate_left
 .cases f
 rename_i UC;cases f;have⟨LJ,Ju,u⟩:=UC;have⟨d,kvs,rfl,B,Kz,D⟩:=t0.dict m;rw[jP en]at D;have Uz:=BG Kz (au.ints D);subst Uz;have ek:((ks.zip ns).map (·.1))=ks:=Ó ⋯;have g:d3 (eh X.prog X.w) X.A (uk (.Call (.Attribute (.Name x n) "items" b) [] [] l) X.env) (λv s1=>d3 (eh X.prog X.w) X.A (NK (.builtin "sorted") [v]) (EP X pins c.σ Q) X.xe s1) X.xe s:=by
  show ZF rfl Js (Jo (bY hN hv hd JM pins s c.σ c.H (λv G=>v=.ref d/\G=c.H) I ⟨_,e0,rfl,rfl⟩) λv s1 UD=>?_);have⟨x1,G,J,r1,z1,z2⟩:=UD;subst z1 z2;cases(show v=kj d from r1);have⟨h1,h2⟩:=oF (T:="dict") J (x:=.ref d) rfl (.inr (.inr (.inl ⟨rfl,.inl ⟨_,B⟩⟩)));show⟨"dict","dict.items",PySem.F.plainAttrs_dict,PySem.F.slot_dict_items,PySem.F.type_dict_items,h1,h2,JS rfl (PySem.evalArgs_none (oU Y J B (by rw[ek];show Ju) (by rw[ä];lia) λas L hl nd O hL=>?_))⟩;have q:c.H L=b8:=O L (by simp);have YH:(as.zip ((ks.zip ns).map Nf)).map (·.1)=as:=Ó (by rw[df];lia);have YI:∀p∈as.zip ((ks.zip ns).map Nf),p.1∈as:=λp t=>(Qz t).1;have same:oG c.H (upd (j8 c.H (as.zip ((ks.zip ns).map Nf))) L (.lst ((j7 ((ks.zip ns).map (·.1))).map λi=>V.ref (as.getD i 0)))):=λa o e=>by
   have n1:a≠L:=λy=>by rw[y,q]at e;cases e
   rw[av n1,lj λp t y=>?_]
   .show e
   .have:=O p.1 (by simp[YI p t]);rw[y,e]at this;cases this
  have⟨Jx,n'⟩:=m.grow (S':=c.S) same (λa z=>.inl z) λa z=>z;have⟨q1,q2,q3,q4,q5⟩:=m.ll q;show k {c with H:=upd (j8 c.H (as.zip ((ks.zip ns).map Nf))) L (.lst ((j7 ((ks.zip ns).map (·.1))).map λi=>V.ref (as.getD i 0))),S:=c.S} _ rfl rfl Jx n' ⟨L,rfl,q,q2,q5,_,aB,?_⟩;change au C c.S _ ((A7 (ks.zip ns)).map v_) _;unfold A7;rw[kb];show au.of_map λj hj=>?_;have L6:j<(ks.zip ns).length:=by
   have:=ve.mp ((gv _).mem_iff.mp hj);rw[df]at this;show this
  have TV:j<as.length:=by lia
  have e1:(ks.zip ns).getD j (ti,0)=(ks.zip ns)[j]:=(List.getElem_eq_getD _).symm;have e2:as.getD j 0=as[j]:=by simp[OC,TV]
  change Rep C c.S _ (v_ ((ks.zip ns).getD j (ti,0))) (V.ref (as.getD j 0));rw[e1,e2];show⟨as[j],Nf (ks.zip ns)[j],rfl,JY.of ?_,⟨_,_,rfl,rfl,_,_,rfl,rfl,rfl⟩⟩;have Kb:as[j]≠L:=λy=>hL (by rw[<-y];simp);show(av Kb).trans (uq (by rw[YH];show nd) (vs:=Nf (ks.zip ns)[j]) ?_);show Zh.mpr ⟨j,by rw[ä,df];lia,?_⟩;rw[List.getElem_zip,VN]
 have eb:x2 pos (gj [.Call (.Attribute (.Name x n) "items" b) [] [] l] X.env)=[(cc,uk (.Call (.Attribute (.Name x n) "items" b) [] [] l) X.env)]:=rfl;have YJ:P1 pos (Lj [] X.env)=[]:=rfl;rw[eb,YJ];show o_ g
end
section
def uI(f:X.calm=bD)(g:C.K=X.K)(i:Gl X "set")(j:X.mg "set"=b8)(m:PE X a (Jl C n))(hs:gj [a] X.env=[(cc,uk a X.env)])(I:Inv X pins b.σ b.H s)(r:Ok C b)
  (h:W (n >>= λx=>M.Jt (ia x.2) >>= k) b.st Post)
  (u:∀(S:d7) (o:Obj) (s1:d5) (D:List Str) (c:Cf),c.σ=b.σ->Ok C c->Nx b c->s1.heap.get? S=a5 o->aU X.prog X.w s1.heap S (aI X.w) D->Inv X ((S,o)::pins) c.σ c.H s1->W (k D) c.st Post->(∀q∈pins,q.1≠S)->Q (.ref S) s1) :
  d3 (eh X.prog X.w) X.A (uk (.Call (.Name "set" p) [a] [] pos) X.env) Q X.xe s:=by
 show oT (dm I i j (show tA "set"=a5 (.type "set") by decide +kernel) ?_ (by decide +kernel) (by decide +kernel));have y:x2 pos (gj [a] X.env)=[(cc,uk a X.env)]:=by rw[hs];rfl
 have B:P1 pos (Lj [] X.env)=[]:=rfl;rw[y,B];show uG (one m I r h λx c Y v s2 t d rv w=>?_);rw[ah]at w;have⟨D,e,w⟩:=bJ.mp w;have⟨l,ys,rfl,G,J,rfl⟩:=nv g t.ok t.rx e;cases rv;show rW f d G J λS o s1 hsz L N O=>u S o s1 _ c t.hσ t.ok t.nx L N O w λq T z=>by
  have:=d8 (d.pin q (kr _ T)).1;rw[z]at this;show absurd (i1 this hsz) (t4 _)
def BI(m:X.calm=bD)(D:C.K=X.K)(G:Gl X (if ln=bD then "len" else "sorted"))(J:X.mg (if ln=bD then "len" else "sorted")=b8)(L:Gl X "set")(N:X.mg "set"=b8)(ha:PE X a (Jl C ma))(hb:PE X b (Jl C mb))(YK:gj [a] X.env=[(cc,uk a X.env)])(Kh:gj [b] X.env=[(cc,uk b X.env)]):
  PE X (.Call (.Name (if ln=bD then "len" else "sorted") p) [.BinOp (.Call (.Name "set" n) [a] [] t) .Sub (.Call (.Name "set" p2) [b] [] pos2) d] [] pos)
   (Jl C (ma >>= λx=>M.Jt (ia x.2) >>= λd1=>mb >>= λy=>M.Jt (ia y.2) >>= λd2=>M.Jt (qr ln d1 d2))):=by
 rintro pins s σ H Q I ⟨u,rfl,rfl,ok,h⟩;have f:d3 (eh X.prog X.w) X.A (uk (.BinOp (.Call (.Name "set" n) [a] [] t) .Sub (.Call (.Name "set" p2) [b] [] pos2) d) X.env) (λv s1=>d3 (eh X.prog X.w) X.A (NK (.builtin (if ln=bD then "len" else "sorted")) [v]) (EP X pins u.σ Q) X.xe s1) X.xe s:=by
  show wpAny_BinOp (uI m D L N ha YK I ok h λS1 O s1 D1 c1 YL Jn YM Nc MQ I1 w1 Ph=>?_);show uI m D L N hb Kh I1 Jn w1 λS2 o2 s2 D2 i YN T YO NX Pk z w2 Pe=>?_;have⟨r,k,j⟩:=bJ.mp w2;have UE:=(z.pin (S1,O) (kr _ (by simp))).1;have UG:aU X.prog X.w s2.heap S1 (aI X.w) D1:=MQ.at λo e=>by rw[Nc]at e;cases e;show UE
  have Kb:S1≠S2:=Pe (S1,O) (by simp);have nx:Nx u i:=YM.trans YO;have B:i.σ=u.σ:=YN.trans YL;have I3:Inv X pins i.σ i.H s2:=z.eJ λq hq=>z.pin q (kr _ (by simp[hq]));unfold qr at k;split at k
  rotate_left
  .cases k
  rename_i g;show L2.km Kb UG Pk g.1 g.2 λh' hk Y=>?_;have I4:Inv X pins i.σ i.H {s2 with heap:=h' }:=I3.kept (t':=s2.toks) hk;rw[<-B];cases ln with
  |true =>
   cases k;show rU I4 Y (cz.flat (c:=i) j B T nx rfl)
  |false =>
   cases k;show gO m I4 Y (Ë (l' _ _) g.1) λl hl=>cz.list (c:=i) j B T nx (au.strs.mpr rfl) l hl
 have eb:x2 pos (gj [.BinOp (.Call (.Name "set" n) [a] [] t) .Sub (.Call (.Name "set" p2) [b] [] pos2) d] X.env)=[(cc,uk (.BinOp (.Call (.Name "set" n) [a] [] t) .Sub (.Call (.Name "set" p2) [b] [] pos2) d) X.env)]:=rfl;have ek:P1 pos (Lj [] X.env)=[]:=rfl;cases ln with
 |true =>
  show oT (dm I G J (show tA "len"=a5 (.builtin "len") by decide +kernel) ?_ (by decide +kernel) (by decide +kernel));rw[eb,ek];show o_ f
 |false =>
  show oT (dm I G J (show tA "sorted"=a5 (.builtin "sorted") by decide +kernel) ?_ (by decide +kernel) (by decide +kernel));rw[eb,ek];show o_ f
end
section
variable{X:Cx}{C:Ct}{a:lg}{ma:M (Kd×U)}{apos G':Pos}{i:Nat}{x:Str}{px:Pos}
def Ok.yO(b:Ok C c)(hk:k.root=bD)(hs:c.st[i]?=a5 (a5 (k,.lst us))):∃a vs,c.σ[i]?=a5 (a5 (.ref a))/\c.H a=a5 (.lst vs)/\au C c.S c.H us vs:=by
 have⟨v,d,e⟩:=b.sl i k _ hs;obtain⟨r,rfl,_,_,_,vs,f,g⟩:=e.rt hk;show⟨r,vs,d,f,g⟩
theorem au.eraseIdx{S:d7->Prop}:∀{us:List U}{vs:List V} (n:Nat),au C S H us vs->au C S H (us.eraseIdx n) (vs.eraseIdx n)
 |[],_,n,h=>by cases h;simp[au]
 |u::us,vs,0,h=>by
  have⟨v,r,rfl,c,b⟩:=h;show b
 |u::us,vs,n+1,h=>by
  have⟨v,r,rfl,c,b⟩:=h;show⟨v,_,rfl,c,b.eraseIdx n⟩
def Ok.out(d:Ok C c)(n:Nx f c)(j:c.σ=f.σ)(hk:k.root=bD)(hs:c.st[i]?=a5 (a5 (k,.lst us)))(g:c.σ[i]?=a5 (a5 (.ref r)))(l:au C c.S c.H us' b)(m:Rep C c.S c.H u v)(w:cz C f Q (.loc,u) (c.st.set i (a5 (k,.lst us')))):Q v (upd c.H r (.lst b)):=by
 have p:Mv c.S c.H c.S (upd c.H r (.lst b)):=by
  have⟨N,h,q⟩:=d.sl i k _ hs;rw[g]at h;cases h;obtain⟨O,s,y,_,_,A⟩:=q.rt hk;cases s;have⟨o,ho,B⟩:=A.some;show⟨λ_ z=>z,λa D e t=>by rw[av (λz=>by subst z;rw[ho]at e;cases e;show B t)];show e,λa D z e=>by rw[av (λG=>by subst G;show y z)];show e⟩
 have⟨I,J⟩:=d.mod (H':=upd c.H r (.lst b)) (u':=.lst us') n.toNs hk hs g (λa ne=>av ne) ⟨_,aB⟩ λL=>⟨b,aB,l.mv L⟩
 show w {c with H:=upd c.H r (.lst b),st:=c.st.set i (a5 (k,.lst us'))} v j rfl I ⟨J⟩ (m.mv p)
def BJ(g:X.N[i]?=a5 x)(j:K_ X.env.scope x)(l:(x==("__debug__":Str))=cc)(m:(x==("__classdict__":Str))=cc)(n:(apos.endLine==G'.line)=bD)(o:C.K=X.K):
  PE X (.Call (.Attribute (.Name x px) "pop" apos) [] [] G') (Jl C (yq i)):=by
 show PE.weak (DG PySem.F.plainAttrs_list PySem.F.slot_list_pop PySem.F.type_list_pop DH (bY g j l m) rfl n) ?_;rintro σ H Q ⟨q,rfl,rfl,c,h⟩;have⟨r,st',e,w⟩:=h;unfold yq at e;split at e
 .rename_i k us hs;split at e
  .rename_i hk;split at e
   .rename_i u s;cases e;have⟨p,vs,d,f,b⟩:=c.yO hk hs;have⟨v,t,y⟩:=b.get s;have hl:=b.len;show⟨_,d,.inl ⟨rfl,vs,o▸JN.of f⟩,p,vs,v,rfl,rfl,f,by rw[<-hl];show t,?_⟩;show c.out (Nx.refl q) rfl hk hs d ?_ y w;rw[Zb,Zb,hl];show b.take _
   .cases e
  .cases e
 .cases e
def GY(b:0<=j)(h:j.toNat<n):Xp j n=a5 j.toNat:=by
 simp only[Xp];rw[ł (show ¬j<0 by lia),Ł (by rw[cb,ŀ,ŀ];lia)]
def wB{st:ay}(h:W (wb i u) st Q):∃(j:Int) (k:Kd) (us:List U) (y:U),u=.int j/\k.root=bD/\0<=j/\j<1000000/\st[i]?=a5 (a5 (k,.lst us))/\us[j.toNat]?=a5 y/\Q (.loc,y) (st.set i (a5 (k,.lst (us.eraseIdx j.toNat)))):=by
 have⟨r,st',e,w⟩:=h;cases u with
 |int j =>
  unfold wb at e
  dsimp only at e
  split at e
  .rename_i k us hs;split at e
   .rename_i hk;split at e
    .rename_i y b;cases e;show⟨j,k,us,y,rfl,hk.1,hk.2.1,hk.2.2,hs,b,w⟩
    .cases e
   .cases e
  .cases e
 |_=>cases e
def yP(o:C.K=X.K)(q:X.N[i]?=a5 x)(s:K_ X.env.scope x)(u:(x==("__debug__":Str))=cc)(A:(x==("__classdict__":Str))=cc)(B:PE X a (Jl C ma))
  (D:((x2 G' (gj [a] X.env)).all (λx=>!x.1)&&(P1 G' (Lj [] X.env)).all (λx=>x.1.isSome)
   && cK ([a].length+([]:List MF).length+(if ([]:List MF).isEmpty then 0 else 1)<30))=bD)
  (G:(apos.endLine==G'.line)=bD) (e:gj [a] X.env=[(cc,uk a X.env)]) :
  PE X (.Call (.Attribute (.Name x px) "pop" apos) [a] [] G') (Jl C (dk i >>= λx=>MB x.2 >>= λ_=>ma >>= λy=>wb i y.2)):=by
 show PE.weak (kP PySem.F.plainAttrs_list PySem.F.slot_list_pop PySem.F.type_list_pop xD (bY q s u A) (cH B eS e) rfl D G e rfl) ?_;rintro σ H Q ⟨c0,rfl,rfl,b,h⟩;rw[ah]at h;have⟨k0,I,J,L,h⟩:=cZ h;have⟨O,f,T⟩:=b.slot J L;show⟨O,f,?_⟩;cases I with
 |lst Y =>
  rw[ah,show MB (U.lst Y)=pure () from rfl,ao]at h;obtain⟨a0,N8,d,NT,_⟩:=T.list b;show⟨by rw[d];show .inl ⟨rfl,N8,o▸NT⟩,?_⟩;show aO b h λr c v t w=>?_;have⟨j,k,us,y,ej,hk,j0,j1,hs,hu,w⟩:=wB w;have⟨p,vs,g,h2,l⟩:=t.ok.yO hk hs;have hp:p=a0:=by
   have:=g;rw[t.hσ,f,d]at this;cases this;rfl
  subst hp;have⟨z,m,g2⟩:=l.get hu;have MY:j.toNat<vs.length:=(dV.mp m).1;have n:=t.rx;rw[ej]at n;have ev:=n.int t.ok;show⟨p,vs,j,j.toNat,z,d,by rw[ev],h2,ģ (by decide) j0,Int.lt_trans j1 (by decide),GY j0 MY,m,t.ok.out t.nx t.hσ hk hs g (l.eraseIdx _) g2 w⟩
 |_=>rw[ah]at h;show(bp.mp h).elim
end
end TM
namespace TM
open PySem L2 PyProof.Rows PySem.W
section
variable{X:Cx}{C:Ct}{pins:List (d7×Obj)}{s:d5}{c0 c c1:Cf}
variable{a b tt:lg}{e:lg}{es:List lg}{ms:M (List (Kd×U))}{ns:Nat->Bool}
abbrev MD(X:Cx)(C:Ct)(pins:List (d7×Obj))(c0:Cf)(Post:Str->ay->Prop)(v:dt)(s':d5):Prop :=
 ∃(c:Cf) (s1:d5) (d T f:d7) (H':Hp) (cl:Str),v=.ref d/\c.σ=c0.σ/\Ok C c/\Nx c0 c/\Inv X pins c0.σ c.H s1/\bS X.prog X.w X.stack c.H s1 d f (a5 T) .none H' s'/\oG c.H H'/\õ X.K i3 cl=a5 (a5 (.ref f))/\Post cl c.st
abbrev PR(X:Cx)(C:Ct)(e:lg)(m:M (Sum (Kd×U) Str)):Prop:=∀(pins:List (d7×Obj)) (s:d5) (c0:Cf) (Post:Sum (Kd×U) Str->ay->Prop),Inv X pins c0.σ c0.H s->Ok C c0->W m c0.st Post ->
 d3 (eh X.prog X.w) X.A (uk e X.env) (λu s2=>∃r c v,Lv C c0 c r v/\Inv X pins c0.σ c.H s2/\RelV v u/\Post (.inl r) c.st) (MD X C pins c0 λcl st=>Post (.inr cl) st) s
def EN
  (Y:C.P=X.prog) (hw:C.w=X.w) (hK:C.K=X.K) (hF:Γ f=F) (hk:∀us k u,F us=a5 (.ok (k,u))->(k=.own\/k=.loc\/k=.any)/\us.length=n) (JO:∀us c,F us=a5 (.exc c)->us.length=n)
  (G:iE X.prog X.w X.K X.mg X.base (N1 X.prog X.w) kd fa fd ps (spT X.prog X.w X.K F n)) (hr:fw kd X.A) (hg:Gl X f) (hm:X.mg f=a5 (.ref fa)) (OQ:PySem.W.keepIn X.K (.ref fa)=bD) (o:Binds X.K fd ps []) (LW:(f==("__debug__":Str))=cc)
  (ha:PA X.Ll (e::es) (KC C ms)) (he:gj (e::es) X.env=(cc,uk e X.env)::gj es X.env) (JZ:(x2 p3 (gj es X.env)).any (·.1)=cc) :
  PR X C (.Call (.Name f p2) (e::es) [] p3) (ms >>= λrs=>aC rs >>= λ_=>bK Γ f (rs.map (·.2))):=by
 intro pins s c0 Post I ok h;show oT (ft I hg hm ?_ LW);show PySem.W.callWith_K (h₀:=X.base) I.ok.mod.Oe OQ (i9 (args (X:=X.Ll) ha (I.iA _) ok h p3) (λus s1 z=>?_) λ_ _ z=>z.elim) he JZ;have⟨rs,c,vs,t,l,rv,w⟩:=z;have l:=l.eQ;show⟨l.Mw,?_⟩;have m:C.Eqv (MZ X.prog X.w X.K c.H (KJ c.H)):=⟨Y,hw,hK⟩
 have Lg:(MZ X.prog X.w X.K c.H (KJ c.H)).Eqv C:=⟨Y.symm,hw.symm,hK.symm⟩
 have p:=t.read;have i:∀(k1:Kd) (u:U),F (rs.map (·.2))=a5 (.ok (k1,u))->k1=.own\/k1=.loc->Post (.inl (k1,u)) c.st ->
   d3 (eh X.prog X.w) X.A (NK (.ref fa) us) (λu s2=>∃r c v,Lv C c0 c r v/\Inv X pins c0.σ c.H s2/\RelV v u/\Post (.inl r) c.st) (MD X C pins c0 λcl st=>Post (.inr cl) st) s1:=λk1 u g OG q=>by
  have⟨k0,k2⟩:=hk _ _ _ g;have x:spT X.prog X.w X.K F n vs c.H (λv H'=>∃d,Lv C c0 d (k1,u) v/\d.H=H'/\d.st=c.st) E0:=⟨by rw[<-p.len];show k2,rs.map (·.2),.ok (k1,u),KJ c.H,g,λ_ z=>z,p.cg m,k0,λv H' S' o=>o.here (Q:=λv H'=>∃d,Lv C c0 d (k1,u) v/\d.H=H'/\d.st=c.st) OG t.hσ t.ok t.nx Lg λd v2 y B Jv n2 D=>⟨d,⟨y,Jv,n2,D⟩,rfl,B⟩⟩
  show i9 (ku (EE:=MD X C pins c0 λcl st=>Post (.inr cl) st) G hr o l rv x λ_ _ ⟨_,_,_,_,_,_,z⟩=>z.elim) (λv s2 ⟨v',H2,I2,D,d,t2,J,L⟩=>?_) λ_ _ z=>z;rw[t.hσ]at I2;subst J;show⟨_,d,v',t2,I2,D,L▸q⟩
 obtain⟨r,st',j,q⟩:∃r st',bK Γ f (rs.map (·.2)) c.st=a5 (.ok r,st')/\Post r st':=w;unfold bK at j;rw[hF]at j;split at j
 .rename_i u g;cases j;show i _ u g (.inl rfl) q
 .rename_i u g;cases j;show i _ u g (.inr rfl) q
 .rename_i cl g;cases j;have x:spT X.prog X.w X.K F n vs c.H (λ_ _=>False) (λv _ H'=>(∃N,v=.ref N/\õ X.K i3 cl=a5 (a5 (.ref N)))/\oG c.H H'):=⟨by rw[<-p.len];show JO _ _ g,rs.map (·.2),.exc _,KJ c.H,g,λ_ z=>z,p.cg m,λO H1 h1 h2=>⟨⟨O,rfl,h1⟩,h2⟩⟩
  show i9 (ku (EE:=MD X C pins c0 λcl st=>Post (.inr cl) st) G hr o l rv x λv s' ⟨ea,O,T,H',y,F',⟨N,B,J⟩,L⟩=>?_) (λv s2 ⟨_,_,_,_,z⟩=>z.elim) λ_ _ z=>z;cases B;show⟨c,s1,ea,T,O,H',cl,y,t.hσ,t.ok,t.nx,by rw[<-t.hσ];show l,F',L,J,q⟩
 .cases j
def GZ(x:PT X.Ll tt (Ks C y))(B:PR X C a k)(D:PR X C b l):PR X C (.IfExp tt a b pos) (y >>= λp=>if p=bD then k else l):=by
 intro pins s c0 Post I G h;show wpAny_IfExp (i9 (x pins s c0.σ c0.H (λp o=>∃c,c.H=o/\c.σ=c0.σ/\Ok C c/\Nx c0 c/\W (if p=bD then k else l) c.st Post) (I.iA _) (d9 G h λp c e i n w=>⟨c,rfl,e,i,n,w⟩)) (λp s1 ⟨o,g,c,J,d,i,n,w⟩=>?_) λ_ _ z=>z.elim);subst J;have g:=g.eQ;rw[<-d]at g;have f:∀{e:lg} {m:M (Sum (Kd×U) Str)},PR X C e m->W m c.st Post->d3 (eh X.prog X.w) X.A (uk e X.env) (λu s2=>∃r c v,Lv C c0 c r v/\Inv X pins c0.σ c.H s2/\RelV v u/\Post (.inl r) c.st) (MD X C pins c0 λcl st=>Post (.inr cl) st) s1:=λ{e m} L w=>by
  show i9 (L pins s1 c Post g i w) (λu s2 ⟨r,j,v,t,N,rv,q⟩=>?_) λv s2 z=>?_
  .show⟨r,j,v,⟨t.hσ.trans d,t.ok,n.trans t.nx,t.rx.from n⟩,by rw[<-d];show N,rv,q⟩
  .have⟨j,s3,O,T,Q,H',cl,Y,hσ,JA,n0,I3,F,hs,hn,q⟩:=z;show⟨j,s3,O,T,Q,H',cl,Y,hσ.trans d,JA,n.trans n0,by rw[<-d];show I3,F,hs,hn,q⟩
 cases p with
 |true=>rw[Ł rfl]at w;show f B w
 |false=>rw[ł i0]at w;show f D w
def G0(f:PR X C a m)(hs:O6 a b8 pos.line X.env=pure cc)
  (g:∀c H',C.xw (.str c) H'->∀d T H pins σ s e s',õ X.K i3 c=a5 (a5 (.ref d))->Inv X pins σ H s->bS X.prog X.w X.stack H s e d T .none H' s'->X.xe (.ref e) s'):L2.PS X (.Expr a pos) (JL C ns (m >>= A_)):=by
 rintro pins s σ H D I ⟨c0,rfl,rfl,i,h⟩;rw[ah]at h;show ī (i9 (f pins s c0 _ I i h) (λu s2 ⟨r,c,v,t,j,rv,q⟩=>?_) λv s2 z=>?_) I.quiet hs
 .rw[show A_ (.inl r)=pure .nx from rfl,ao]at q;have z:D.nx c.σ c.H:=q c rfl t.ok t.nx (Kept.of t.hσ);rw[t.hσ]at z;show⟨c0.σ,c.H,j,z⟩
 .have⟨c,s1,k,T,l,H',cl,rfl,n,o,p,x,F,hs,y,q⟩:=z;rw[show A_ (.inr cl)=pure (.rt .io (.str cl)) from rfl,ao]at q;have⟨A,B⟩:=o.grow (H':=H') (S':=c.S) hs (λa z=>.inl z) λa z=>z;show g cl H' (q {c with H:=H' } rfl A (p.trans B) (Kept.of n)) l _ c.H pins _ s1 k s2 y x F
def yQ(l:∀m,ns m=bD->m≠k/\m≠j)(x:C.K=X.K)(y:Ok C c0)(A:Ok C c)(n:Nx c0 c)(f:c.σ=c0.σ)(B:k<c.σ.length)(hs:oG c.H H')(p:H' d=b8)(G:oe.cls=.ref t)(I:õ X.K i3 cl=a5 (a5 (.ref t)))(v:V)
  (w:W (ju cs i j k (.inr cl)) c.st (eN C c0 ns D)):D.nx (((c0.σ.set j (a5 v)).set k (a5 (.ref d))).set j b8) (upd H' d (.K9 oe (.ext λ_=>True))):=by
 have⟨r,st',e,q⟩:=w;unfold ju at e
 dsimp only at e
 split at e
 .rename_i J;split at e
  case isFalse=>cases e
  rename_i L;have N:c.H d=b8:=by
   cases z:c.H d with
   |none=>rfl
   |some o=>rw[hs d o z]at p;cases p
  have⟨O,Q⟩:=A.kill J;have⟨T,Y⟩:=O.grow (H':=upd H' d (.K9 oe (.ext λ_=>True))) (S':=c.S) (λa o z=>by
   rw[av (bx z N)];show hs a o z) (λa z=>.inl z) λa z=>z
  have⟨g,h,e2,Jx,n',w'⟩:=pb (r:=(.loc,.exc cl)) (v:=.ref d) (i:=k) y T ((n.trans Q).trans Y) (by simpa using B)
   (show Rep C c.S _ _ _ from⟨d,rfl,oe,t,aB,G,x▸I⟩) (Post:=λ_ K5=>eN C c0 ns D .nx K5) (by
    have z:W (dG k (.loc,.exc cl) >>= λ_=>(pure .nx:M Fl)) c.st (eN C c0 ns D):=⟨r,st',e,q⟩
    rw[ah]at z;show z.mono λ_ st z=>ao.mp z)
  have es:(((c0.σ.set j (a5 v)).set k (a5 (.ref d))).set j b8)=(c0.σ.set j b8).set k (a5 (.ref d)):=by
   rw[List.set_comm _ _ L.1,List.set_set]
  have z:D.nx g.σ g.H:=w' g rfl Jx n' ⟨λm u=>by
   rw[h];change((c.σ.set j b8).set k _)[m]?=_;rw[hH (qs (l m u).1),hH (qs (l m u).2),f],by rw[h];simp[f]⟩
  rw[h,e2]at z;rw[es,<-f];show z
 .cases e
def G1(Ke:∀m,ns m=bD->m≠i/\m≠k/\m≠j)(J:X.N.Nodup)(hi:X.N[i]?=a5 y)(hy:Loc X.env.scope y)(YS:X.fn y=bD)(L:X.N[j]?=a5 n)(O:X.env.scope.names.lookup n=a5 .local)
  (hk:X.N[k]?=a5 z) (hz:Loc X.env.scope z) (YT:X.fn z=bD) (hK:C.K=X.K) (hr:PR X C a m) (Nb:O6 a (a5 (.Name y p1)) p4.line X.env=pure cc) (G:X.stack=X.env::X.outer/\X.env.frame=a5 X.env.locals) (hx:X.ex=[]) (YU:Gl X x) (YV:X.mg x=a5 (.ref Dc)) (YW:(x==("__debug__":Str))=cc)
  (YX:∀cl∈cs,∀l,õ X.K i3 cl=a5 (a5 (.ref l))->exmOne X.K (.ref l) (.ref Dc)=a5 bD) (Ju:(n==("__debug__":Str))=cc) (YY:(n==("__classdict__":Str))=cc) :
  L2.PS X (.Try [.Assign [.Name y p1] a p4] [.ExceptHandler (a5 (.Name x p5)) (a5 n) [.Assign [.Name z p6] (.Name n p9) V7] YZ] [] [] pos) (JL C ns (m >>= ju cs i j k)):=by
 rintro pins s σ H D' I ⟨c0,rfl,rfl,ok,h⟩;have Kl:i<c0.σ.length:=by rw[I.len];show(dV.mp hi).1
 have Nd:k<c0.σ.length:=by rw[I.len];show(dV.mp hk).1
 rw[ah]at h;show wpAny_Try_except (i9 (Q:=λf s1=>f=Flow.next/\SP X pins D' .next s1) (E:=MD X C pins c0 λcl st=>W (ju cs i j k (.inr cl)) st (eN C c0 ns D')) ?_ (λf s1 z=>?_) λv s1 z=>?_)
 .show ĕ (ă (i9 (hr pins s c0 _ I ok h) (λu s2 ⟨r,c,v,t,I2,rv,q⟩=>?_) λ_ _ z=>z) Nb);show iz I2 J hi hy rv (λs3 Y=>RJ ⟨rfl,_,c.H,Y,lC (λm z=>(Ke m z).1) ok t (by rw[t.hσ];show Kl) q⟩) (.inl YS)
 .have⟨rfl,z⟩:=z;show RJ z
 .have⟨c,s0,d,T,l,H',cl,rfl,hσ,JA,n0,B,F1,hs,MO,w⟩:=z;have K':cl∈cs:=by
   obtain⟨r,st',e,_⟩:=w;unfold ju at e
   dsimp only at e
   split at e
   .split at e
    case isFalse=>cases e
    rename_i q;show q.2
   .cases e
  have ab:=YX cl K' l MO;have Mn:s0.heap.FunFrames X.base (X.env::X.outer):=by rw[<-G.1];show B.stack
  have Ma:∀b∈JW (X.env::X.outer),c.H b=b8:=by rw[<-G.1];show B.kg
  have hA:X.A.frames=a5 (X.env::X.outer):=by rw[<-G.1];show B.ok.frames
  rw[G.1]at F1;show F1.note hA G.2 Mn Ma λT2 s2 F2=>F2.land Mn Ma λT3 s3 F3=>?_;have ac:∀{T:Option d7} {D:dt} {s':d5},bS X.prog X.w (X.env::X.outer) c.H s0 d l T D H' s'->Inv X pins c0.σ H' s':=λ{T D s'} F=>B.CB (ch:=[]) F.os (by rw[G.1];show F.un) F.Jj F.bare λb z=>nomatch z
  have g:∀b o,s0.heap.get? b=a5 o->b≠d:=λb o q z=>by rw[z,F1.new]at q;cases q
  have Pn:d≠X.env.locals/\d∉X.fs:=by
   obtain⟨m,⟨o,_,_,ho,_⟩,_⟩:=B.loc;show⟨qs (g _ o ho),λz=>?_⟩;obtain⟨_,o,q,_⟩:=Mn.mem (PK.mpr (by
    have⟨env,h1,h2⟩:=PK.mp z;show⟨env,ko _ h1,h2⟩))
   show g _ o q rfl
  have MV:∀{T:Option d7} {D:dt} {s':d5} (E:dt->d5->Prop),bS X.prog X.w (X.env::X.outer) c.H s0 d l T D H' s'->∃oe,s'.heap.get? d=a5 oe/\oe.cls=.ref l/\Inv (X.MV d oe E) pins c0.σ H' s':=λ{T D s'} E F=>by
   obtain⟨a0,oe,vs,h1,h2,h3,_⟩:=F.exc;show⟨oe,h1,h2,(ac F).MV h1 F.he Pn.1 Pn.2 λv z=>by rw[h3]at z;cases z⟩
  show wpAny_handleBy_cons (codeAny_handlers_test ?_) λz=>nomatch z
  have⟨Z2,g1,g2,Y⟩:=MV (TQ (eh X.prog X.w) (X.A.mark (a5 (.ref d))) X.env λx s'=>cameBackBy (eh X.prog X.w) X.A X.env X.xe x s') F3;show ft Y YU YV ?_ YW;have LT:ĉ (eh X.prog X.w) s3.heap (ZX (.ref d)) (.ref l):=by
   show(ĸ g1).andThen ?_;rw[g2];show .now
  show(exm_one Y.Mw LT ab).here (codeAny_handlers_suite_as ?_);show F3.land Mn Ma λT4 s4 F4=>?_;have⟨RS,g3,g4,I4⟩:=MV (λ_ _=>False) F4;show iz (X:=X.MV d RS λ_ _=>False) I4 J L (.inl O) (v:=.ref d) rfl (λs5 I5=>?_) (.inr O);have pt:=rE (X:=X.MV d RS λ_ _=>False) (pos:=V7) (pos':=p6) J hk hz (bY (pos:=p9) L (.inl O) Ju YY) rfl (.inl YT);show i9 ((pR pt tU) pins s5 _ H' {nx:=λσ H=>σ=(c0.σ.set j (a5 (.ref d))).set k (a5 (.ref d))/\H=H',rt:=λ_ _=>False} I5 ?_) (λD s6 z=>?_) λ_ _ z=>z.elim
  .show⟨.ref d,d6 (by rw[I.len];show(dV.mp L).1),rfl,rfl⟩
  .cases D with
   |next =>
    obtain⟨_,_,I6,rfl,rfl⟩:=z;show Inv.gone (X:=X.MV d RS λ_ _=>False) I6 J L O λs7 I7=>?_;have g7:=(I7.pin (d,RS) mu).1;show⟨_,_,(I7.IK I.ok).Gv g7 F4.he ?_ Pn.1 (λx c q=>?_) (λp hp=>?_),yQ (X:=X) (λm z=>(Ke m z).2) hK ok JA n0 hσ (by rw[hσ];show Nd) hs F4.he g4 MO _ w⟩
    .cases q:X.s₀.heap.get? d with
     |none=>rfl
     |some o =>
      have⟨o',q'⟩:=B.base.there d o q (by rw[hx];show λz=>nomatch z);show absurd rfl (g d o' q')
    .obtain⟨v,o,q,_⟩:=B.cell x c q;show g c o q
    .show g p.1 p.2 (B.pin p hp).1
   |ret v=>obtain⟨_,_,_,_,_,z⟩:=z;show z.elim
   |_=>obtain⟨_,_,_,z⟩:=z;show z.elim
def uJ(n:C.K=X.K)(r:Gl X "isinstance")(y:X.mg "isinstance"=b8)(A:PE X a (Jl C B))(G:PE X D (tC vD))(J:∀u,RelV vD u->u=dv)(hs:gj [a,D] X.env=(cc,uk a X.env)::gj [D] X.env)(L:gj [D] X.env=(cc,uk D X.env)::gj [] X.env)(N:(x2 j (gj [D] X.env)).any (·.1)=cc)
  (O:∀q∈g,∀d,õ X.K i3 q.1=a5 (a5 (.ref d))->fX X.K d=bD/\kitOne X.K (.ref d) dv=a5 q.2) :
  PE X (.Call (.Name "isinstance" p) [a,D] [] j) (Jl C (B >>= λx=>M.Jt (fe g x.2) >>= λb=>pure (.loc,.bl b))):=by
 rintro pins s σ H Q I ⟨c0,rfl,rfl,T,h⟩;show oT (dm I r y (show tA "isinstance"=a5 (.builtin "isinstance") by decide +kernel) ?_ (by decide +kernel) (by decide +kernel));show Pd (Jo (cH A (cH G eS L) hs j pins s c0.σ c0.H (λvs H'=>∃x c v b,Lv C c0 c x v/\c.H=H'/\vs=[v,vD]/\fe g x.2=a5 b/\cz C c0 Q (.loc,.bl b) c.st) I ?_) λus s1 ⟨vs,H1,i,Y,x,c,v,b,t,e,e2,f,w⟩=>?_) hs N
 .show aO T h λx c v t w=>?_;rw[ah]at w;have⟨b,e,w⟩:=bJ.mp w;rw[ao]at w;show⟨x,c,v,b,t,rfl,rfl,e,w⟩
 .subst e e2;have⟨u1,u2,rfl,Ug,Uh⟩:=vals2 Y;obtain rfl:=J _ Uh;have⟨kx,ux⟩:=x;unfold fe at f;split at f
  .rename_i cl k
   dsimp only at k
   subst k;have⟨a,ea,o,d,h1,h2,l⟩:=t.rx.read t.ok;subst ea;cases Ug;rw[n]at l;obtain⟨q,hq,m⟩:∃q∈g,q=(cl,b):=⟨_,PySem.mem_of_lookup f,rfl⟩
   have⟨k1,k2⟩:=O _ hq d (by rw[m];show l);rw[m]at k2;show kia_one (yj k1) i.Mw ⟨o,(i.Jj a _ h1).1,h2⟩ k2 (λz=>nomatch z) λtk=>?_;show⟨.bl b,c.H,i.tok tk,rfl,w c (.bl b) t.hσ rfl t.ok t.nx rfl⟩
  .cases f
theorem qD{S:d7->Prop}:∀{us:List U}{vs:List V}{bs:List Bool},au C S H us vs->gP us=a5 bs->vs=bs.map V.bl
 |[],vs,bs,h,e=>by cases e;show h
 |.bl b::us,vs,bs,h,e=>by
  have⟨v,r,rfl,d,f⟩:=h;rw[gP,ez]at e;have⟨g,e,rfl⟩:=e;rw[show v=V.bl b from d,qD f e];rfl
 |.Jm::_,_,_,_,e=>nomatch e
 |.int _::_,_,_,_,e=>nomatch e
 |.str _::_,_,_,_,e=>nomatch e
 |.tup _::_,_,_,_,e=>nomatch e
 |.lst _::_,_,_,_,e=>nomatch e
 |.Ji _ _::_,_,_,_,e=>nomatch e
 |.exc _::_,_,_,_,e=>nomatch e
abbrev G2:Bool->Str
 |true=>"index"
 |false=>"count"
def BK{d b:Bool}(D:C.K=X.K)(u:X.N[i]?=a5 x)(v:K_ X.env.scope x)(y:(x==("__debug__":Str))=cc)(z:(x==("__classdict__":Str))=cc)(A:(g.endLine==G.line)=bD):
  PE X (.Call (.Attribute (.Name x px) (G2 d) g) [.Constant (.bool b) q p2] [] G) (Jl C (sm d i b)):=by
 have go:∀(σ:L2.St) (H:Hp) (Q:VK),Jl C (sm d i b) σ H Q->∃(p:d7) (bs:List Bool),σ[i]?=a5 (a5 (.ref p))/\JN X.K H p (bs.map V.bl)/\H p=a5 (.lst (bs.map V.bl))/\(d=bD->b∈bs/\Q (.int (bs.idxOf b:Nat)) H)/\(d=cc->Q (.int (bs.count b:Nat)) H):=by
  rintro σ H Q ⟨c0,rfl,rfl,n,h⟩;have⟨r,st',e,w⟩:=h;unfold sm at e;split at e
  .rename_i k us hs;split at e
   .rename_i hk;split at e
    .rename_i bs I;have⟨p,vs,j,f,l⟩:=n.yO hk hs;have J:=qD l I;subst J;show⟨p,bs,j,D▸JN.of f,f,λo=>?_,λo=>?_⟩
     .subst o;rw[Ł rfl]at e;split at e
      .rename_i t;cases e;show⟨t,w c0 _ rfl rfl n (Nx.refl c0) rfl⟩
      .cases e
     .subst o;rw[ł i0]at e;cases e;show w c0 _ rfl rfl n (Nx.refl c0) rfl
    .cases e
   .cases e
  .cases e
 cases d with
 |false =>
  show PE.weak (kP PySem.F.plainAttrs_list PySem.F.slot_list_count PySem.F.type_list_count yg (bY u v y z) (cH (tS (b:=b)) eS rfl) rfl rfl A rfl rfl) ?_;intro σ H Q h;obtain⟨p,bs,j,f,l,_,L⟩:=go σ H Q h;show⟨_,j,.inl ⟨rfl,_,f⟩,p,bs,b,rfl,rfl,l,L rfl⟩
 |true =>
  show PE.weak (kP PySem.F.plainAttrs_list PySem.F.slot_list_index PySem.F.type_list_index yh (bY u v y z) (cH (tS (b:=b)) eS rfl) rfl rfl A rfl rfl) ?_;intro σ H Q h;obtain⟨p,bs,j,f,l,O,_⟩:=go σ H Q h;have⟨t,T⟩:=O rfl;have B:=List.idxOf_lt_length_of_mem t;show⟨_,j,.inl ⟨rfl,_,f⟩,p,bs,b,bs.idxOf b,rfl,rfl,l,?_,λm Y hh=>?_,T⟩
  .rw[td B,List.getElem_idxOf B]
  .have:=List.not_of_lt_findIdx (p:=(·==b)) (xs:=bs) Y;have⟨h6,h7⟩:=dV.mp hh;rw[h7]at this;simp at this
end
section
def MD.mono(h:∀cl st,P cl st->a cl st)(z:MD X C pins b P v s'):MD X C pins b a v s':=by
 have⟨c,s1,d,T,f,H',cl,e,g,i,n,I,F,hs,j,q⟩:=z;show⟨c,s1,d,T,f,H',cl,e,g,i,n,I,F,hs,j,h _ _ q⟩
def G3
  (hP:C.P=X.prog) (hw:C.w=X.w) (hK:C.K=X.K) (hF:Γ f=F) (hk:∀us k u,F us=a5 (.ok (k,u))->(k=.own\/k=.loc\/k=.any)/\us.length=x) (JO:∀us c,F us=a5 (.exc c)->us.length=x)
  (G:iE X.prog X.w X.K X.mg X.base (N1 X.prog X.w) kd fa fd ps (spT X.prog X.w X.K F x)) (hr:fw kd X.A) (hg:Gl X f) (hm:X.mg f=a5 (.ref fa)) (OQ:PySem.W.keepIn X.K (.ref fa)=bD) (y:Binds X.K fd ps []) (LW:(f==("__debug__":Str))=cc)
  (ha:PR X C a m) (he:gj [a] X.env=[(cc,uk a X.env)]) :
  PR X C (.Call (.Name f p2) [a] [] p3) (m >>= Gy Γ f):=by
 intro pins s g Post I ok h;rw[ah]at h;show oT (ft I hg hm ?_ LW);show PySem.W.callWith_K (h₀:=X.base) (rest:=[]) I.ok.mod.Oe OQ ?_ he rfl;rw[he];show KY (i9 (ha pins s g _ I ok h) (λu s1 ⟨r,c,v,t,o,rv,w⟩=>Nu ?_) λv s1 z=>z.mono λcl st q=>ao.mp q);have w:W (aC [r] >>= λ_=>bK Γ f [r.2]) c.st Post:=w;rw[ah,bR]at w;have⟨Jp,w⟩:=w;show⟨o.Mw,?_⟩;have ta:LM C g c [r] [v]:=⟨t.hσ,t.ok,t.nx,⟨v,[],rfl,t.rx.w,rfl,λ_ i r' v' e _ _=>by simp at e⟩,Jp⟩
 have p:C.Eqv (MZ X.prog X.w X.K c.H (KJ c.H)):=⟨hP,hw,hK⟩
 have Lg:(MZ X.prog X.w X.K c.H (KJ c.H)).Eqv C:=⟨hP.symm,hw.symm,hK.symm⟩
 have rd:=ta.read;have V8:Vals [v] [u]:=.cons rv .nil;rw[<-t.hσ]at o;have l:∀(k1:Kd) (d:U),F [r.2]=a5 (.ok (k1,d))->k1=.own\/k1=.loc->Post (.inl (k1,d)) c.st ->
   d3 (eh X.prog X.w) X.A (NK (.ref fa) [u]) (λu s2=>∃r c v,Lv C g c r v/\Inv X pins g.σ c.H s2/\RelV v u/\Post (.inl r) c.st) (MD X C pins g λcl st=>Post (.inr cl) st) s1:=λk1 d j OG q=>by
  have⟨k0,k2⟩:=hk _ _ _ j;have B:spT X.prog X.w X.K F x [v] c.H (λv H'=>∃b,Lv C g b (k1,d) v/\b.H=H'/\b.st=c.st) E0:=⟨k2,[r.2],.ok (k1,d),KJ c.H,j,λ_ z=>z,rd.cg p,k0,λv H' S' y=>y.here (Q:=λv H'=>∃b,Lv C g b (k1,d) v/\b.H=H'/\b.st=c.st) OG t.hσ t.ok t.nx Lg λb v2 D J Jv n2 L=>⟨b,⟨D,Jv,n2,L⟩,rfl,J⟩⟩
  show i9 (ku (EE:=MD X C pins g λcl st=>Post (.inr cl) st) G hr y o V8 B λ_ _ ⟨_,_,_,_,_,_,z⟩=>z.elim) (λv s2 ⟨v',H2,I2,L,b,t2,N,O⟩=>?_) λ_ _ z=>z;rw[t.hσ]at I2;subst N;show⟨_,b,v',t2,I2,L,O▸q⟩
 obtain⟨Y,st',n,q⟩:∃Y st',bK Γ f [r.2] c.st=a5 (.ok Y,st')/\Post Y st':=w;unfold bK at n;rw[hF]at n;split at n
 .rename_i d j;cases n;show l _ d j (.inl rfl) q
 .rename_i d j;cases n;show l _ d j (.inr rfl) q
 .rename_i cl j;cases n;have B:spT X.prog X.w X.K F x [v] c.H (λ_ _=>False) (λv _ H'=>(∃Cc,v=.ref Cc/\õ X.K i3 cl=a5 (a5 (.ref Cc)))/\oG c.H H'):=⟨JO _ _ j,[r.2],.exc _,KJ c.H,j,λ_ z=>z,rd.cg p,λC1 H1 h1 h2=>⟨⟨C1,rfl,h1⟩,h2⟩⟩
  show i9 (ku (EE:=MD X C pins g λcl st=>Post (.inr cl) st) G hr y o V8 B λv s' ⟨ea,C1,T,H',D,F',⟨Cc,J,N⟩,O⟩=>?_) (λv s2 ⟨_,_,_,_,z⟩=>z.elim) λ_ _ z=>z;cases J;show⟨c,s1,ea,T,C1,H',cl,D,t.hσ,t.ok,t.nx,by rw[<-t.hσ];show o,F',O,N,q⟩
 .cases n
def G4(L:C.P=X.prog)(N:C.w=X.w)(O:C.K=X.K)(Q:X.A.units+60<KX)(T:PR X C a m)(Y:PE X.Ll b (Jl C l))(hm:L4 g.op b=cc):
  PR X C (.Compare a [g.op] [b] pos) (m >>= Gz g l):=by
 intro pins s n Post I ok h;rw[ah]at h;show Ĭ (i9 (T pins s n _ I ok h) (λv1 s1 ⟨x,c,vx,t,o,rv,w⟩=>?_) λv s1 z=>z.mono λcl st q=>ao.mp q) hm;have w:W (l >>= λy=>aC [x,y] >>= λ_=>M.Jt (bN g x.2 y.2) >>= λr=>pure (.inl (.loc,.bl r))) c.st Post:=w;rw[ah]at w;rw[<-t.hσ]at o;show i9 (Y pins s1 c.σ c.H (λj p=>∃y f,f.H=p/\OO C n f x y vx j/\W (M.Jt (bN g x.2 y.2) >>= λr=>(pure (.inl (.loc,.bl r)):M (Sum (Kd×U) Str))) f.st Post) (o.iA _) ⟨c,rfl,rfl,t.ok,w.mono λy st2 i f j B e4 Jv D G=>?_⟩) (λu s2 ⟨j,p,k,ru,y,f,e5,d,J⟩=>?_) λ_ _ z=>z.elim
 .rw[ah,bR]at i;subst e4;rw[dS]at i;show⟨y,f,rfl,⟨B.trans t.hσ,Jv,t.nx.trans D,(t.rx.w.on t.ok D B).t i.1.1,G.from t.nx,jx t.rx.w G.w⟩,i.2⟩
 .subst e5;have k:=k.eQ;rw[ah]at J;have⟨r,e,q⟩:=bJ.mp J;rw[ao]at q;show i9 (lz (X:=X.Ll) (pins:=pins) L N O Q d (by rw[d.hσ,<-t.hσ];show k.iA _) rv ru e) (λz s' ⟨e,I'⟩=>?_) λ_ _ z=>z.elim;subst e;show⟨(.loc,.bl r),f,.bl r,⟨d.hσ,d.ok,d.nx,rfl⟩,by rw[<-d.hσ];show I'.eQ,rfl,q⟩
def EO(g:PR X C a m)
  (i:∀c H',C.xw (.str c) H'->∀b T H pins σ s e s',õ X.K i3 c=a5 (a5 (.ref b))->Inv X pins σ H s->bS X.prog X.w X.stack H s e b T .none H' s'->X.xe (.ref e) s'):L2.PS X (.Return (a5 a) pos) (JL C ns (m >>= Ei)):=by
 rintro pins s σ H D I ⟨d,rfl,rfl,f,h⟩;rw[ah]at h;show Ă (i9 (g pins s d _ I f h) (λu s2 ⟨r,c,v,t,j,rv,q⟩=>?_) λv s2 z=>?_)
 .show⟨v,d.σ,c.H,j,rv,qA f t q⟩
 .have⟨c,s1,k,T,l,H',cl,rfl,n,o,p,x,F,hs,y,q⟩:=z;rw[show Ei (.inr cl)=pure (.rt .io (.str cl)) from rfl,ao]at q;have⟨A,B⟩:=o.grow (H':=H') (S':=c.S) hs (λa z=>.inl z) λa z=>z;show i cl H' (q {c with H:=H' } rfl A (p.trans B) (Kept.of n)) l _ c.H pins _ s1 k s2 y x F
def ER(G:PR X C a m)(J:∀x,isTrue a X.env x=(do let v <-x;Wr a.pos;LQ [v] (ñ v)))(L:t=if o=bD then .UnaryOp .Not a p2 else a)
  (N:∀c H',C.xw (.str c) H'->∀y T H pins σ s e s',õ X.K i3 c=a5 (a5 (.ref y))->Inv X pins σ H s->bS X.prog X.w X.stack H s e y T .none H' s'->X.xe (.ref e) s')
  (O:J6 X ca (JL C ns f)) (Q:J6 X Y (JL C ns g)):L2.PS X (.If t ca Y pos) (JL C ns (m >>= Ej o f g)):=by
 rintro pins s σ H D I ⟨b,rfl,rfl,ok,h⟩;rw[ah]at h;have B:d3 (eh X.prog X.w) X.A (isTrue a X.env (uk a X.env)) (λp s2=>∃c,c.σ=b.σ/\Ok C c/\Nx b c/\Inv X pins b.σ c.H s2/\W (if (p != o)=bD then f else g) c.st (eN C b ns D)) X.xe s:=by
  show isTrue_plain (i9 (G pins s b _ I ok h) (λu s2 ⟨r,c,v,t,I2,rv,q⟩=>?_) λv s2 z=>?_) (J _)
  .have⟨k,u1⟩:=r;cases u1 with
   |bl p =>
    have ev:v=.bl p:=t.rx.flat t.ok rfl;subst ev;cases rv;show wh ⟨c,t.hσ,t.ok,t.nx,I2,q⟩
   |_=>show(bp.mp q).elim
  .have⟨c,s1,ea,T,Cc,H',cl,rfl,hσ,JA,n0,I1,F,hs,hn,q⟩:=z;rw[show Ej o f g (.inr cl)=pure (.rt .io (.str cl)) from rfl,ao]at q;have⟨Jv,n2⟩:=JA.grow (H':=H') (S':=c.S) hs (λa z=>.inl z) λa z=>z;show N cl H' (q {c with H:=H' } rfl Jv (n0.trans n2) (Kept.of hσ)) Cc _ c.H pins _ s1 ea s2 hn I1 F
 have z1:d3 (eh X.prog X.w) X.A (isTrue t X.env (uk t X.env)) (λd s2=>∃c,c.σ=b.σ/\Ok C c/\Nx b c/\Inv X pins b.σ c.H s2/\W (if d=bD then f else g) c.st (eN C b ns D)) X.xe s:=by
  subst L;cases o with
  |false=>show i9 B (λp s2 ⟨c,i,l,n,j,q⟩=>⟨c,i,l,n,j,by rw[Bool.bne_false]at q;show q⟩) λ_ _ z=>z
  |true=>show isTrue_not (i9 B (λp s2 ⟨c,i,l,n,j,q⟩=>⟨c,i,l,n,j,by rw[Bool.bne_true]at q;show q⟩) λ_ _ z=>z)
 show wpAny_If (i9 z1 (λd s2 ⟨c,i,l,n,j,q⟩=>?_) λ_ _ z=>z);rw[<-i]at j;cases d with
 |true=>show O pins s2 c.σ c.H D j (lB l n.toNs (Kept.of i) q)
 |false=>show Q pins s2 c.σ c.H D j (lB l n.toNs (Kept.of i) q)
def G5(hK:C.K=X.K)(hN:X.N[i]?=a5 x)(hv:K_ X.env.scope x)(hd:(x==("__debug__":Str))=cc)(JM:(x==("__classdict__":Str))=cc)(ha:PE X a (Jl C ma))(hb:PE X b (Jl C mb))
  (J7:((x2 o (gj [a,b] X.env)).all (λx=>!x.1)&&(P1 o (Lj [] X.env)).all (λx=>x.1.isSome)
   && cK ([a,b].length+([]:List MF).length+(if ([]:List MF).isEmpty then 0 else 1)<30))=bD)
  (Js:(l.endLine==o.line)=bD) (I:gj [a,b] X.env=(cc,uk a X.env)::gj [b] X.env) (J:gj [b] X.env=[(cc,uk b X.env)]) :
  L2.PS X (.Expr (.Call (.Attribute (.Name x px) "insert" l) [a,b] [] o) pos) (JL C ns (dk i >>= λx=>MB x.2 >>= λ_=>ma >>= λy=>mb >>= λr=>aC [y] >>= λ_=>lift r >>= λu=>modS i (Ba y.2 u) >>= λ_=>pure .nx)):=by
 show PS.weak (iB (kP PySem.F.plainAttrs_list PySem.F.slot_list_insert PySem.F.type_list_insert v8 (bY hN hv hd JM) (cH ha (cH hb eS J) I) rfl J7 Js I (by rw[J];rfl))) ?_;rintro D σ H ⟨c0,rfl,rfl,p,h⟩;rw[ah]at h;have⟨k0,u0,LC,Kq,h⟩:=cZ h;have⟨v0,L,t0⟩:=p.slot LC Kq;show⟨v0,L,?_⟩;cases u0 with
 |lst Ms =>
  rw[ah,show MB (U.lst Ms)=pure () from rfl,ao]at h;obtain⟨a0,N8,s,NT,_⟩:=t0.list p;show⟨by rw[s];show .inl ⟨rfl,N8,hK▸NT⟩,?_⟩;show aO p h λy c v t w=>?_;rw[<-t.hσ];show aO t.ok w λr f A g m=>?_;rw[ah,bR]at m;have⟨Jp,m⟩:=m;rw[ah]at m;obtain⟨S',st',u,sS,O,n1,n,Q,_,_⟩:=gw t.ok g.ok g.nx g.rx.w m;rw[ah]at Q;have⟨k,u1,u2,hk,hs,d,q⟩:=fg Q;have T:f.σ[i]?=a5 (a5 (.ref a0)):=by rw[g.hσ,t.hσ,L,s]
  have⟨ky,uy⟩:=y;cases u1 with
  |lst e =>
   cases uy with
   |int j =>
    have d:(if 0<=j/\j.toNat<=e.length/\e.length<cL then a5 (U.lst (e.take j.toNat++u::e.drop j.toNat)) else b8)=a5 u2:=d;split at d
    .rename_i hz;cases d;have ev:v=.int j:=t.rx.int t.ok;subst ev;have⟨v',e1,e2⟩:=O.sl i k (.lst e) hs;have Y:f.σ[i]?=a5 (a5 v'):=e1;rw[T]at Y;cases Y;obtain⟨r',er,_,_,_,ws,hw,B⟩:=e2.rt hk;cases er;have PD:f.H a0=a5 (.lst ws):=hw;have hl:=B.len;show⟨a0,ws,j.toNat,A,s,by rw[Int.toNat_of_nonneg hz.1],PD,⋯,⋯,?_⟩;rw[ao]at q;have⟨Jv,n2⟩:=Ok.mod (c:={f with S:=S',st:=st' }) (H':=upd f.H a0 (.lst (ws.take j.toNat++A::ws.drop j.toNat))) (u':=.lst (e.take j.toNat++u::e.drop j.toNat)) O (t.nx.trans n1).toNs hk hs T (λa ne=>av ne) ⟨_,aB⟩ λG=>⟨_,aB,((B.mv G).take _).append ⟨A,_,rfl,n.mv G,(B.mv G).drop _⟩⟩
     have z:=q _ rfl Jv n2 (Kept.of (g.hσ.trans t.hσ));rw[show f.σ=c.σ from g.hσ]at z;show z
    .cases d
   |_=>cases d
  |_=>cases d
 |_=>rw[ah]at h;show(bp.mp h).elim
end
end TM
namespace TM
open PySem L2 PyProof.Rows
@[reducible]def M3(P:uv)(w:wq)(K:PySem.W.Frag)(H:Hp)(a IO:d7->Prop):Ct:=⟨P,w,K,H,a,IO,λ_ _=>False⟩
structure CL(C:Ct)(H H':Hp)(S':d7->Prop)(is:List Nat)(vs:List V)(ws:List U)(k:Kd)(u:U)(v:V):Prop where
 same:∀a o,H a=a5 o->¬C.IO a->H' a=a5 o
 new:∀a,S' a->H a=b8/\∃o,H' a=a5 o
 own:k=.own->∃r,v=.ref r/\H r=b8/\¬S' r/\da C S' H' r u
 loc:k=.loc->Rep C S' H' u v
 len:ws.length=is.length
 Lh:∀(n i:Nat) (r:d7) (w:U),is[n]?=a5 i->vs[i]?=a5 (.ref r)->ws[n]?=a5 w->da C S' H' r w
structure ES(C:Ct)(H:Hp)(is:List Nat)(us:List U)(vs:List V):Prop where
 len:us.length=vs.length
 par:∀a,C.LX a->KJ H a/\¬C.IO a
 V9:∀a,C.IO a->KJ H a
 io:∀(i:Nat) (u:U),i∈is->us[i]?=a5 u->∃r,vs[i]?=a5 (.ref r)/\C.IO r/\da C (λ_=>False) H r u
 any:∀(i:Nat) (u:U),i∉is->us[i]?=a5 u->∃v,vs[i]?=a5 v/\Rep C C.LX H u v
 inj:∀(i j:Nat) (r:d7),i∈is->j∈is->vs[i]?=a5 (.ref r)->vs[j]?=a5 (.ref r)->i=j
 Lh:∀a,C.IO a->∃i∈is,vs[i]?=a5 (.ref a)
abbrev RT(P:uv)(w:wq)(K:PySem.W.Frag)(F:List U->Option (Ex (Kd×U)))(b:Nat)(is:List Nat):Sp:=λvs H Q _=>vs.length=b/\∃us k u ws a IO,F us=a5 (.ok (k,.tup (u::ws)))/\(k=.own\/k=.loc)/\ES (M3 P w K H a IO) H is us vs /\
 ∀v H' S',CL (M3 P w K H a IO) H H' S' is vs ws k u v->Q v H'
theorem map_inj:∀{l:List α},(l.map f).Nodup->∀x∈l,∀y∈l,f x=f y->x=y
 |[],_,_,h,_,_,_=>by cases h
 |a::l,h,x,g,y,c,e=>by
  rw[ei,mh]at h;rcases d4.mp g with d|h1
  .rcases d4.mp c with b|h2
   .rw[d,b]
   .show absurd (js.mpr ⟨y,h2,by rw[<-e,d]⟩) h.1
  .rcases d4.mp c with b|h2
   .show absurd (js.mpr ⟨x,h1,by rw[e,b]⟩) h.1
   .show map_inj h.2 x h1 y h2 e
section
def wC(h:ib rs p=a5 j):∃us,rs[p]?=a5 (.bor j,.lst us)/\cT us=bD:=by
 unfold ib at h;split at h
 .split at h
  .cases h;show⟨_,by assumption,by assumption⟩
  .cases h
 .cases h
def LM.V_(t:LM C d c rs vs){i:Nat}(h:rs[i]?=a5 r):∃v,vs[i]?=a5 v/\aS C d c r.1 r.2 v:=by
 have f:∀(l:List (Kd×U)) (w:List V),cX C d c l w->aX l c.st->∀(i:Nat) (r:Kd×U),l[i]?=a5 r->∃v,w[i]?=a5 v/\aS C d c r.1 r.2 v:=by
  intro l;induction l with
  |nil=>intro w _ _ i r e;simp at e
  |cons x l g =>
   intro w h hs i r e;obtain⟨v,t',rfl,j,k,_⟩:=h;rw[dS]at hs;cases i with
   |zero=>simp at e;subst e;show⟨v,rfl,j.t hs.1⟩
   |succ i=>have⟨m,a,b⟩:=g t' k hs.2 i r (by simpa using e);show⟨m,by simpa using a,b⟩
 show f rs vs t.rep t.OP i r h
def LM.len(t:LM C a c rs vs):rs.length=vs.length:=by
 have:=t.read.len;rw[df]at this;show this
theorem uK(q:C'.Eqv C){vs:List V}(hs:∀a,S' a->S1 a){IO:d7->Prop}(O:∀a,S' a->¬IO a)(y:∀a o,IO a->H' a=a5 o->¬Tp o):
  ∀(ps:List Nat) (ws:List U) (c:Cf) (st':ay),Ok C c->Ns c1 c->c.S=S1->gQ rs ps ws c.st=a5 st'->(ps.map (ib rs)).Nodup->(∀p∈ps,∀a,vs[p]?=a5 (.ref a)->IO a) ->
  (∀p∈ps,∀j,ib rs p=a5 j->∃k u r,k.root=bD/\c.st[j]?=a5 (a5 (k,u))/\c.σ[j]?=a5 (a5 (.ref r))/\vs[p]?=a5 (.ref r)) ->
  (∀(n p:Nat) (r:d7) (w:U),ps[n]?=a5 p->vs[p]?=a5 (.ref r)->ws[n]?=a5 w->da C' S' H' r w)->(∀a,(∀p∈ps,vs[p]?≠a5 (.ref a))->c.H a=H' a)->(∀a,¬IO a->c.H a=H' a) ->
  ∃g:Cf,Ok C g/\Ns c1 g/\g.σ=c.σ/\g.S=S1/\g.st=st'/\g.H=H'/\g.kid=c.kid/\∀(j:Nat) (k:Kd) (u:U),g.st[j]?=a5 (a5 (k,u))->∃A,c.st[j]?=a5 (a5 (k,A))
 |[],ws,c,st',B,n,x,e,_,_,_,_,D,_=>by
  cases ws with
  |nil=>cases e;show⟨c,B,n,rfl,x,rfl,funext λa=>D a λp hp=>(by cases hp),rfl,λj k u e=>⟨u,e⟩⟩
  |cons _ _=>cases e
 |p::ps,ws,c,st',B,n,x,e,G,Q,T,rt,D,I=>by
  cases ws with
  |nil=>cases e
  |cons w ws =>
   simp only[gQ]at e;split at e
   .rename_i j Y;split at e
    .rename_i us k0 Z4 Jp;have⟨k,u,r,hk,s,e2,J⟩:=T p (by simp) j Y;rw[Jp]at s;cases s;have s:=Jp;have hr:=rt 0 p r _ rfl J rfl;have⟨xs,g1,g2⟩:=hr;have L:IO r:=Q p (by simp) r J;rw[ei,mh]at G;have⟨Jx,n'⟩:=B.mod (H':=upd c.H r (.lst xs)) (u':=.lst us) n hk s e2 (λa ne=>av ne) ⟨_,aB⟩ (λ_=>⟨xs,aB,by
      show(g2.cg q).mv ⟨λa z=>by rw[x];show hs a z,λa o h tp=>?_,λa o z h=>?_⟩
      .by_cases l:a=r
       .subst l;show absurd tp (y a o L h)
       .rw[av l];by_cases v:IO a
        .show absurd tp (y a o v h)
        .rw[I a v];show h
      .have v:=O a z;have l:a≠r:=λe=>v (e▸L);rw[av l,I a v];show h⟩)
     have Kl:j<c.st.length:=(dV.mp s).1;have A1:∀f∈ps,∀t,ib rs f=a5 t->∃k u r,Kd.root k=bD/\(c.st.set j (a5 (k0,.lst us)))[t]?=a5 (a5 (k,u))/\c.σ[t]?=a5 (a5 (.ref r))/\vs[f]?=a5 (.ref r):=λf hp t L6=>by
      have⟨k',u',N,a1,a2,a3,a4⟩:=T f (by simp[hp]) t L6;have ne:j≠t:=λz=>G.1 (js.mpr ⟨f,hp,by rw[L6,Y,z]⟩);show⟨k',u',N,a1,by rw[hH ne];show a2,a3,a4⟩
     have A2:∀a,(∀f∈ps,vs[f]?≠a5 (.ref a))->upd c.H r (.lst xs) a=H' a:=λa l=>by
      by_cases h:a=r
      .subst h;rw[aB,g1]
      .rw[av h];show D a λf hp z=>?_;rcases d4.mp hp with rfl|hp
       .rw[J]at z;cases z;show h rfl
       .show l f hp z
     have A3:∀a,¬IO a->upd c.H r (.lst xs) a=H' a:=λa l=>by
      have ne:a≠r:=λz=>l (by rw[z];show L);rw[av ne];show I a l
     have⟨g,f1,f2,f3,f4,f5,f6,f7,f8⟩:=uK q hs O y ps ws {c with H:=upd c.H r (.lst xs),st:=c.st.set j (a5 (k0,.lst us))} st' Jx n' x e G.2 (λf hp=>Q f (by simp[hp])) A1 (λm f N w' a b d=>rt (m+1) f N w' (by simpa using a) b (by simpa using d)) A2 A3;show⟨g,f1,f2,f3,f4,f5,f6,f7,λi k' u' z=>?_⟩;have⟨A,z⟩:=f8 i k' u' z;by_cases hi:i=j
     .subst hi;have z:(c.st.set i (a5 (k0,.lst us)))[i]?=_:=z;rw[d6 Kl]at z;cases z;show⟨_,s⟩
     .have z:(c.st.set j (a5 (k0,.lst us)))[i]?=_:=z;rw[hH (qs hi)]at z;show⟨A,z⟩
    .cases e
   .cases e
end
section
def BL(st:ay)(r:Kd×U):(eG st r).1=r.1:=by
 unfold eG;split<;>rfl
theorem cX.V'{st:ay}:∀{rs:List (Kd×U)}{vs:List V},cX C d c rs vs->cX C d c (rs.map (eG st)) vs
 |[],_,h=>h
 |r::rs,vs,h=>by
  have⟨v,t,rfl,e,f,g⟩:=h;show⟨v,t,rfl,?_,cX.V' f,λhk i n j a l b=>?_⟩
  .have⟨k,u⟩:=r;cases k<;>show e
  .rw[ki,ez]at a;have⟨m,a,rfl⟩:=a;rw[BL]at hk b;show g hk i m j a l b
def BM(h:PA X es (KC C ms)):PA X es (KC C (ms >>= A8)):=by
 rintro pos pins s σ H Q I ⟨a,rfl,rfl,b,w⟩;show h pos pins s a.σ a.H Q I ⟨a,rfl,rfl,b,?_⟩;rw[ah]at w;show w.mono λrs st d c vs f g i n r=>?_;have⟨j,st',e,q⟩:=d;cases e;show q c vs f g i n r.V'
def yR(h:T6 r=a5 (k,u,ws)):r=(k,.tup (u::ws))/\(k=.own\/k=.loc):=by
 unfold T6 at h;split at h
 .cases h;show⟨rfl,.inl rfl⟩
 .cases h;show⟨rfl,.inr rfl⟩
 .cases h
def yS(hP:C.P=X.prog)(hw:C.w=X.w)(hK:C.K=X.K)(hF:Γ f=F)(hk:∀us r,F us=a5 (.ok r)->us.length=np)
  (G:iE X.prog X.w X.K X.mg X.base Ow k fa fd ps (RT X.prog X.w X.K F np is)) (hr:fw k X.A) (hg:Gl X f) (hm:X.mg f=a5 (.ref fa)) (OQ:PySem.W.keepIn X.K (.ref fa)=bD) (B:Binds X.K fd ps [])
  (LW:(f==("__debug__":Str))=cc) (ha:PA X (e::es) (KC C ms)) (he:gj (e::es) X.env=(cc,uk e X.env)::gj es X.env) (JZ:(x2 pos (gj es X.env)).any (·.1)=cc) :
  PE X (.Call (.Name f p) (e::es) [] pos) (Jl C (ms >>= λrs=>aC rs >>= λ_=>qv Γ f rs is)):=by
 rintro pins s σ H Q I ⟨c0,rfl,rfl,ok,h⟩;show oT (ft I hg hm ?_ LW);show PySem.W.callWith_K (h₀:=X.base) I.ok.mod.Oe OQ (Jo (args ha I ok h pos) λus s1 ⟨rs,c,vs,t,I1,rv,w⟩=>⟨I1.Mw,?_⟩) he JZ;have⟨r,st',D,q⟩:=w;unfold qv at D;rw[hF]at D;split at D
 .rename_i r0 e2;split at D
  .rename_i kd u ws eu;split at D
   .rename_i Ki;split at D
    .rename_i st2 UL;cases D;have⟨rfl,k1⟩:=yR eu;have k2:=hk _ _ e2;unfold qu at Ki;simp only[cb,i7,ŀ,Lx,ve]at Ki;obtain⟨⟨h1,h2⟩,h3⟩:=Ki;have Y:∀p∈is,∃j xs k r,ib rs p=a5 j/\rs[p]?=a5 (.bor j,.lst xs)/\cT xs=bD/\Kd.root k=bD/\c.st[j]?=a5 (a5 (k,.lst xs))/\c.σ[j]?=a5 (a5 (.ref r))/\vs[p]?=a5 (.ref r)/\¬c.S r/\¬C.LX r/\da C c.S c.H r (.lst xs):=λp L=>by
      have⟨j,T⟩:=R3.mp (h1 p L);have⟨xs,a1,a2⟩:=wC T;have⟨v,b1,l⟩:=t.V_ a1;obtain⟨r,rfl,d1,d2,_,N⟩:=t.ok.rootOf l.1 l.2;have⟨k,m,x⟩:=l.1;show⟨j,xs,k,r,T,a1,a2,m,x,l.2,b1,d1,d2,N⟩
     let IO:d7->Prop:=λa=>∃p∈is,vs[p]?=a5 (.ref a);have QL:∀a,IO a->c.R a/\¬c.S a/\¬C.LX a/\KJ c.H a:=λa JD=>by
      have⟨p,L,e⟩:=JD;obtain⟨j,xs,k,r,_,_,_,m,x,y,J,g5,g6,g7⟩:=Y p L;rw[e]at J;cases J;obtain⟨o,ho,_⟩:=g7.some;show⟨.inl ⟨j,k,_,m,x,y⟩,g5,g6,o,ho⟩
     let Pr:d7->Prop:=λa=>KJ c.H a/\¬IO a;have ab:C.Eqv (M3 X.prog X.w X.K c.H Pr IO):=⟨hP,hw,hK⟩
     have Lg:(M3 X.prog X.w X.K c.H Pr IO).Eqv C:=⟨hP.symm,hw.symm,hK.symm⟩
     have sP:∀a,c.S a->Pr a:=λa z=>⟨t.ok.yk a z,λz'=>(QL a z').2.1 z⟩
     have gi:∀{i:Nat} {u:U},(rs.map (·.2))[i]?=a5 u->∃k,rs[i]?=a5 (k,u):=λ{i u} e=>by
      rw[ki,ez]at e;obtain⟨⟨k,u'⟩,e,rfl⟩:=e;show⟨k,e⟩
     have ac:ES (M3 X.prog X.w X.K c.H Pr IO) c.H is (rs.map (·.2)) vs:=by
      show⟨by rw[df];show t.len,λa z=>z,λa z=>(QL a z).2.2.2,λi u O e=>?_,λi u O e=>?_,λi j r O T e3 e4=>?_,λa z=>z⟩
      .obtain⟨j,xs,k,r,_,g0,gm,m,x,y,J,g5,g6,zs,g7,g8⟩:=Y i O;have⟨k',e⟩:=gi e;rw[g0]at e;cases e;show⟨r,J,⟨i,O,J⟩,zs,g7,(au.JG gm g8).cg ab⟩
      .have⟨k',e⟩:=gi e;have⟨v,b1,l⟩:=t.V_ e;show⟨v,b1,?_⟩;have Kl:i<rs.length:=(dV.mp e).1;have PF:=(h3 i Kl).resolve_left O;rw[Xg,e]at PF;show Rep.cg ab (u:=u) ?_;cases k' with
       |own =>
        obtain⟨r,rfl,_,d1,d2,N⟩:=l;obtain⟨o,ho,_⟩:=N.some;show N.rep sP ⟨⟨o,ho⟩,λz=>d2 (QL r z).1⟩
       |loc=>show Rep.mv (.up sP) l
       |any=>show Rep.mv (.up λa z=>z.elim (λz=>⟨t.ok.Gw a (.inl z),λz'=>(QL a z').2.2.1 z⟩) (sP a)) l
       |bor j =>
        obtain⟨r,rfl,d1,d2,_,N⟩:=t.ok.rootOf l.1 l.2;obtain⟨o,ho,_⟩:=N.some;show N.rep sP ⟨⟨o,ho⟩,λ⟨p',Wa,e'⟩=>?_⟩;obtain⟨j',xs,k2,r2,g,_,_,m,x,y,J,_⟩:=Y p' Wa;rw[e']at J;cases J;have⟨k3,z1,z2⟩:=l.1;have:=t.ok.inj j j' k3 k2 _ _ r z1 m z2 x l.2 y;subst this;have:a5 j∉is.map (ib rs):=by simpa[qt] using PF
        show this (js.mpr ⟨p',Wa,g⟩)
       |_=>show l.elim
      .obtain⟨j1,_,k1,r1,a0,_,_,a1,a2,a3,a4,_⟩:=Y i O;obtain⟨j2,_,k2,r2,b0,_,_,b1,l,b3,b4,_⟩:=Y j T;rw[e3]at a4;cases a4;rw[e4]at b4;cases b4;have:=t.ok.inj j1 j2 k1 k2 _ _ r a1 b1 a2 l a3 b3;subst this;show map_inj h2 i O j T (by rw[a0,b0])
     have KI:RT X.prog X.w X.K F np is vs c.H (λv H'=>Q v H') E0:=⟨by rw[<-t.len,<-k2,df],rs.map (·.2),kd,u,ws,Pr,IO,e2,k1,ac,λv H' S' B=>by
      classical
      let H1:Hp:=λa=>if IO a then c.H a else H' a
      have RU:∀a,¬IO a->H1 a=H' a:=λa z=>ł z;have QK:∀a,S' a->¬IO a:=λa z z'=>by
       have⟨o,ho⟩:=(QL a z').2.2.2;rw[(B.new a z).1]at ho;cases ho
      have QM:oG c.H H1:=λa o e=>by
       by_cases z:IO a
       .change(if IO a then _ else _)=_;rw[Ł z];show e
       .rw[RU a z];show B.same a o e z
      have⟨Jn,n1⟩:=t.ok.grow (H':=H1) (S':=λa=>c.S a\/S' a) QM (λa z=>z.imp id λz=>⟨(B.new a z).1,by rw[RU a (QK a z)];show(B.new a z).2⟩) λa=>.inl;have QN:∀(n i:Nat) (r:d7),is[n]?=a5 i->vs[i]?=a5 (.ref r)->∃w,ws[n]?=a5 w/\da (M3 X.prog X.w X.K c.H Pr IO) S' H' r w:=λn i r a b=>by
       have hn:n<ws.length:=by rw[B.len];show(dV.mp a).1
       show⟨_,td hn,B.Lh n i r _ a b (td hn)⟩
      have⟨cf,f1,f2,f3,f4,f5,f6,f7,f8⟩:=uK (C:=C) Lg (rs:=rs) (vs:=vs) (H':=H') (S':=S') (S1:=λa=>c.S a\/S' a) (λa=>.inr) (IO:=IO) QK (λa o ⟨i,O,z⟩ e=>by
        have⟨n,hn⟩:=List.getElem?_of_mem O;obtain⟨w,_,g⟩:=QN n i a hn z;have⟨o',m,x⟩:=g.some;rw[e]at m;cases m;show x) is ws {c with H:=H1,S:=λa=>c.S a\/S' a} st' Jn n1.toNs rfl UL h2 (λp L a z=>⟨p,L,z⟩) (λp L j T=>by
        obtain⟨j',xs,k,r,g0,_,_,m,x,y,J,_⟩:=Y p L;rw[T]at g0;cases g0;show⟨k,_,r,m,x,y,J⟩) (λn i r w a b d=>B.Lh n i r w a b d) (λa ha=>RU a λ⟨p,L,z⟩=>ha p L z) RU
      subst f6;have Y2:∀a,cf.R a->c.R a:=λa z=>by
       rcases z with⟨j,k,u,m,x,y⟩|⟨j,u,r,m,x,y⟩
       .have⟨u0,g⟩:=f8 j k u x;rw[f3]at y;show .inl ⟨j,k,u0,m,g,y⟩
       .have⟨u0,g⟩:=f8 j .Je u m;rw[f3]at x;rw[f7]at y;show .inr ⟨j,u0,r,g,x,y⟩
      show q cf v (f3.trans t.hσ) f5 f1 ⟨t.nx.toNs.trans f2⟩ ?_;rcases k1 with rfl|rfl
      .have⟨r,rfl,d1,d2,N⟩:=B.own rfl;obtain⟨_,z1,_,_,z4⟩:=t.ok.ll d1;show⟨r,rfl,t.nx.none d1,by rw[f4];show λz=>z.elim z1 d2,λz=>z4 (Y2 r z),(N.cg Lg).mv (.up λa z=>by rw[f4];show .inr z) λo q=>q⟩
      .show((B.loc rfl).cg Lg).mv (.up λa z=>by rw[f4];show .inr z)⟩
     have z:=xA (Q:=Q) G hr B .nil Gk I1 rv (by rw[rr];show KI);rw[t.hσ]at z;show z
    .cases D
   .cases D
  .cases D
 .cases D
end
structure Ck where
 fns:List Str
 gl:List (Str×U)
 Lh:List (Str×List Nat)
 xc:List Str
 xd:List (Str×Str)
 xi:List (Str×Str×Bool)
 xe:List (Str×Str)
abbrev sE:U->U->Bool
 |.int i,.int j=>cK (i=j)
 |.str x,.str y=>cK (x=y)
 |.bl a,.bl b=>a==b
 |.Jm,.Jm=>bD
 |_,_=>cc
def c6(h:sE u v=bD):u=v:=by
 cases u<;>cases v<;>simp[sE]at h<;>subst_vars<;>rfl
abbrev noStar:lg->Bool
 |.Starred _ _=>cc
 |_=>bD
abbrev eO:lg->Bool
 |.Slice _ _ _ _=>cc
 |_=>bD
abbrev sF:lg->Bool
 |.Set _ _ _=>cc
 |_=>bD
abbrev pf:lg->Bool
 |.Call (.Name _ _) [] [] _=>cc
 |_=>bD
abbrev dh:lg->Bool
 |.ListComp _ _ _ _=>cc
 |.SetComp _ _ _ _=>cc
 |.DictComp _ _ _ _ _=>cc
 |_=>bD
abbrev ET:lg->Bool
 |.Tuple _ _ _=>cc
 |_=>bD
abbrev Ku(a:LU)(x:Str):Bool:=cK (a.names.lookup x=a5 .globalImplicit)
abbrev f_(a:LU)(x:Str):Bool:=cK (a.names.lookup x=a5 .local)||decide (a.names.lookup x=a5 .cell)||decide (a.names.lookup x=a5 .free)
abbrev lD(a:LU)(x:Str):Bool:=cK (a.names.lookup x=a5 .local)||decide (a.names.lookup x=a5 .cell)
abbrev G6(a:LU)(x:Str):Bool:=cK (a.names.lookup x=a5 .local)
abbrev bf(x:Str):Bool:=!(x==("__debug__":Str))&&!(x==("__classdict__":Str))
abbrev uL(N:List Str)(a:LU)(fa:Bool)(i:Nat):lg->Bool
 |.Name x _=>cK (N[i]?=a5 x)&&lD a x&&(fa||G6 a x)
 |_=>cc
abbrev ph(N:List Str)(a:LU)(fa:Bool):List Nat->List lg->Bool
 |[],[]=>bD
 |i::is,e::es=>uL N a fa i e&&ph N a fa is es
 |_,_=>cc
abbrev gR:lg->List Str
 |.Name x _=>[x]
 |.Tuple es _ _=>es.filterMap fun|.Name x _=>a5 x|_=>b8
 |_=>[]
abbrev hide(a N:List Str):List Str:=match a.filter λx=>cK (x∈N) with
 |[]=>N
 |[x]=>N.set (N.idxOf x) "."
 |x::y::_=>(N.set (N.idxOf x) ".").set (N.idxOf y) ".."
abbrev PH(t:Bool)(N:List Str)(a:LU)(fa:Bool)(is:List Nat):lg->Bool
 |.Name x p=>!t&&(match is with|[i]=>uL N a fa i (.Name x p)|_=>cc)
 |.Tuple es _ _=>t&&ph N a fa is es&&is.all λi=>cK (i<N.length)
 |_=>cc
abbrev isTup:lg->Bool
 |.Tuple _ _ _=>bD
 |_=>cc
abbrev pj(e:lg):Option (Str×List lg):=match e with
 |.Call f as kw _=>match f with
  |.Name x _=>if kw.isEmpty=bD then a5 (x,as) else b8
  |_=>b8
 |_=>b8
def jQ(h:pj e=a5 (x,as)):∃p q,e=.Call (.Name x p) as [] q:=by
 unfold pj at h;split at h
 .split at h
  .split at h
   .rename_i hk;rw[D7]at hk;cases h;subst hk;show⟨_,_,rfl⟩
   .cases h
  .cases h
 .cases h
abbrev gb(a:LU)(b:lg)(c:Ik)(e:lg):Option (List lg):=match c with
 |.seq=>a5 [e]
 |.Kj=>(pj e).bind λp=>if p.1="range"/\Ku a p.1=bD/\p.2.length=1 then a5 p.2 else b8
 |.OK=>(pj e).bind λp=>if p.1="enumerate"/\Ku a p.1=bD/\p.2.length=1/\isTup b=bD then a5 p.2 else b8
 |_=>b8
abbrev simple:Bf->Bool:=λ_=>bD
abbrev EU(scope a:LU):LU:={scope with names:=scope.names.map λ(n,k)=>if (k==Mz&&a.kind==.function&&a.names.lookup n==a5 .cell)=bD then(n,.cell) else(n,k)}
abbrev a_(e:lg)(k:Str->Bool):Bool:=match e with|.Name x _=>k x|_=>cc
def aq(h:a_ e k=bD):∃x p,e=.Name x p/\k x=bD:=by
 unfold a_ at h;split at h
 .show⟨_,_,rfl,h⟩
 .cases h
abbrev cQ{α:Type}(l:List α)(k:α->Bool):Bool:=match l with|[a]=>k a|_=>cc
def aN(h:cQ l k=bD):∃a,l=[a]/\k a=bD:=by
 unfold cQ at h;split at h
 .show⟨_,rfl,h⟩
 .cases h
abbrev di(e:lg)(k:lg->List lg->Pos->Bool):Bool:=match e with|.Call f as kw p=>kw.isEmpty&&k f as p|_=>cc
def aW(h:di e k=bD):∃f as p,e=.Call f as [] p/\k f as p=bD:=by
 unfold di at h;split at h
 .rename_i f as kw p;rw[cb,D7]at h;have⟨rfl,h⟩:=h;show⟨_,_,_,rfl,h⟩
 .cases h
abbrev sG(e:lg)(k:lg->Str->Pos->Bool):Bool:=match e with|.Attribute o m p=>k o m p|_=>cc
def qE(h:sG e k=bD):∃o m p,e=.Attribute o m p/\k o m p=bD:=by
 unfold sG at h;split at h
 .show⟨_,_,_,rfl,h⟩
 .cases h
abbrev uM(e:lg)(k:lg->Ü->lg->Bool):Bool:=match e with|.BinOp a c b _=>k a c b|_=>cc
def lE(h:uM e k=bD):∃a c b p,e=.BinOp a c b p/\k a c b=bD:=by
 unfold uM at h;split at h
 .show⟨_,_,_,_,rfl,h⟩
 .cases h
abbrev qF(e:lg)(k:lg->Đ->lg->Bool):Bool:=match e with|.Compare a ops bs _=>cQ ops λc=>cQ bs λb=>k a c b|_=>cc
def fF(h:qF e k=bD):∃a c b p,e=.Compare a [c] [b] p/\k a c b=bD:=by
 unfold qF at h;split at h
 .have⟨c,rfl,d⟩:=aN h;have⟨b,rfl,f⟩:=aN d;show⟨_,_,_,_,rfl,f⟩
 .cases h
abbrev d_(e:lg)(k:lg->Str->Pos->List lg->Pos->Bool):Bool:=di e λf as b=>sG f λo m a=>k o m a as b
def bF(h:d_ e k=bD):∃o m a as b,e=.Call (.Attribute o m a) as [] b/\k o m a as b=bD:=by
 have⟨f,as,p,rfl,h⟩:=aW h;have⟨o,m,q,rfl,h⟩:=qE h;show⟨_,_,_,_,_,rfl,h⟩
abbrev jR(e:lg)(k:lg->lg->Bool):Bool:=match e with|.Subscript a b _=>k a b|_=>cc
def dq(h:jR e k=bD):∃a b p,e=.Subscript a b p/\k a b=bD:=by
 unfold jR at h;split at h
 .show⟨_,_,_,rfl,h⟩
 .cases h
abbrev UM:E->Bool
 |.var _=>bD
 |.cst _=>bD
 |_=>cc
abbrev jS{α:Type}(l:List α)(k:α->α->Bool):Bool:=match l with|[a,b]=>k a b|_=>cc
def cA(h:jS l k=bD):∃a b,l=[a,b]/\k a b=bD:=by
 unfold jS at h;split at h
 .show⟨_,_,rfl,h⟩
 .cases h
abbrev uN(e:lg)(k:Const->Bool):Bool:=match e with|.Constant c _ _=>k c|_=>cc
def ic(h:uN e k=bD):∃c q p,e=.Constant c q p/\k c=bD:=by
 unfold uN at h;split at h
 .show⟨_,_,_,rfl,h⟩
 .cases h
abbrev IV:Const->Option U
 |.int j=>a5 (.int j)
 |.str y=>a5 (.str y)
 |.bool y=>a5 (.bl y)
 |.none=>a5 .Jm
 |_=>b8
abbrev IW(u:U)(c:Const):Bool:=match IV c with|some v=>sE u v|none=>cc
abbrev BN(e:lg)(a:BoolOp)(k:List lg->Bool):Bool:=match e with|.BoolOp o es _=>cK (o=a)&&k es|_=>cc
def jA(h:BN e a k=bD):∃es p,e=.BoolOp a es p/\k es=bD:=by
 unfold BN at h;split at h
 .rw[cb,ŀ]at h;have⟨rfl,h⟩:=h;show⟨_,_,rfl,h⟩
 .cases h
abbrev EV(e:lg)(b:UnaryOp)(k:lg->Bool):Bool:=match e with|.UnaryOp o a _=>cK (o=b)&&k a|_=>cc
def nE(h:EV e b k=bD):∃a p,e=.UnaryOp b a p/\k a=bD:=by
 unfold EV at h;split at h
 .rw[cb,ŀ]at h;have⟨rfl,h⟩:=h;show⟨_,_,rfl,h⟩
 .cases h
abbrev BO(e:lg)(k:lg->lg->lg->Bool):Bool:=match e with|.IfExp c a b _=>k c a b|_=>cc
def nF(h:BO e k=bD):∃c a b p,e=.IfExp c a b p/\k c a b=bD:=by
 unfold BO at h;split at h
 .show⟨_,_,_,_,rfl,h⟩
 .cases h
abbrev uO(e:lg)(k:List lg->Bool):Bool:=match e with|.Tuple l _ _=>k l|_=>cc
def lF(h:uO e k=bD):∃l q p,e=.Tuple l q p/\k l=bD:=by
 unfold uO at h;split at h
 .show⟨_,_,_,rfl,h⟩
 .cases h
abbrev yT(e:lg)(k:List lg->Bool):Bool:=match e with|.List l _=>k l|_=>cc
def sH(h:yT e k=bD):∃l p,e=.List l p/\k l=bD:=by
 unfold yT at h;split at h
 .show⟨_,_,rfl,h⟩
 .cases h
abbrev BP(e:lg):Bool:=match e with|.Dict a b _=>a.isEmpty&&b.isEmpty|_=>cc
def nG(h:BP e=bD):∃p,e=.Dict [] [] p:=by
 unfold BP at h;split at h
 .rw[cb,D7,D7]at h;have⟨rfl,rfl⟩:=h;show⟨_,rfl⟩
 .cases h
abbrev yU(e:lg)(k:Option lg->Option lg->Bool):Bool:=match e with|.Slice a b c _=>c.isNone&&k a b|_=>cc
def sI(h:yU e k=bD):∃a b p,e=.Slice a b b8 p/\k a b=bD:=by
 unfold yU at h;split at h
 .rw[cb,Rk]at h;have⟨rfl,h⟩:=h;show⟨_,_,_,rfl,h⟩
 .cases h
abbrev EW(e:lg)(k:lg->lg->lg->List lg->LU->Bool):Bool:=match e with|.ListComp elt a b _=>cQ a λg=>cK (g.is_async=0)&&k elt g.target g.iter g.ifs b|_=>cc
def jB(h:EW e k=bD):∃elt d a b f p,e=.ListComp elt [⟨d,a,b,0⟩] f p/\k elt d a b f=bD:=by
 unfold EW at h;split at h
 .obtain⟨⟨d,a,b,z⟩,rfl,c⟩:=aN h;rw[cb,ŀ]at c;have⟨rfl,c⟩:=c;show⟨_,_,_,_,_,_,rfl,c⟩
 .cases h
abbrev yV(e:lg)(k:lg->Đ->Đ->lg->lg->Bool):Bool:=match e with|.Compare a ops d _=>jS ops λp q=>jS d λb c=>k a p q b c|_=>cc
def sJ(h:yV e k=bD):∃a p q b c r,e=.Compare a [p,q] [b,c] r/\k a p q b c=bD:=by
 unfold yV at h;split at h
 .have⟨p,q,rfl,d⟩:=cA h;have⟨b,c,rfl,f⟩:=cA d;show⟨_,_,_,_,_,_,rfl,f⟩
 .cases h
abbrev isNm(e:lg)(n:Str):Bool:=a_ e λx=>cK (x=n)
def gB(h:isNm e n=bD):∃p,e=.Name n p:=by
 have⟨x,p,e,z⟩:=aq h;show⟨p,Ņ z▸e⟩
abbrev yW(v:lg)(f:Str)(k:List lg->Bool):Bool:=di v λg as _=>isNm g f&&k as
def dW(h:yW v f k=bD):∃as p q,v=.Call (.Name f p) as [] q/\k as=bD:=by
 have⟨g,as,q,rfl,z⟩:=aW h;rw[cb]at z;have⟨p,rfl⟩:=gB z.1;show⟨as,p,q,rfl,z.2⟩
mutual
noncomputable def bo(k:Ck):E->List Str->LU->lg->Bool
 |.var i,N,g,h=>a_ h λx=>cK (N[i]?=a5 x)&&f_ g x&&bf x
 |.cst u,N,g,h=>uN h λc=>IW u c
 |.RB _ _,_,_,_=>cc
 |.bin C a b,N,g,h=>uM h λa' B s=>cK (C.op=B)&&bo k a N g a'&&bo k b N g s
 |.cmp C a b,N,g,h=>qF h λa' B s=>cK (C.op=B)&&!L4 B s&&bo k a N g a'&&bo k b N g s
 |.MX I o2 a b c,N,g,h=>yV h λa' p q s H=>cK (I.op=p)&&cK (o2.op=q)&&!lastMarks [p,q] [s,H]&&bo k a N g a'&&bo k b N g s&&bo k c N g H
 |.and es,N,g,h=>BN h .And λv=>aY k es N g v
 |.or es,N,g,h=>BN h .Or λv=>aY k es N g v
 |.not a,N,g,h=>EV h .Not λa'=>bo k a N g a'
 |.ite c a b,N,g,h=>BO h λH a' s=>bo k c N g H&&bo k a N g a'&&bo k b N g s
 |.neg _,_,_,_=>cc
 |.bad,_,_,_=>bD
 |.Kx a D J,N,g,h=>yW h "isinstance" λas=>jS as λa' s=>isNm s D&&noStar a'&&Ku g "isinstance"&&Ku g D&&bf D&&(k.xi.any λp=>cK (p.2.1=D))&&J.all (λp=>cK ((p.1,D,p.2)∈k.xi))&&bo k a N g a'
 |.NC L i b,N,g,h=>d_ h λo m j as z=>a_ o λx=>cQ as λa'=>uN a' λc=>cK (c=.bool b)&&cK (m=G2 L)&&cK (N[i]?=a5 x)&&f_ g x&&bf x&&(j.endLine==z.line)
 |.pop i,N,g,h=>d_ h λo m j as z=>a_ o λx=>as.isEmpty&&cK (m="pop")&&cK (N[i]?=a5 x)&&f_ g x&&bf x&&(j.endLine==z.line)
 |.Le i a,N,g,h=>d_ h λo m j as z=>a_ o λx=>cQ as λa'=>cK (m="pop")&&cK (N[i]?=a5 x)&&f_ g x&&bf x&&(j.endLine==z.line)&&noStar a'&&bo k a N g a'
 |.Jf f es is,N,g,h=>di h λf' v _=>a_ f' λx=>cK (x=f)&&cK ((f,is)∈k.Lh)&&Ku g x&&bf x&&!v.isEmpty&&aY k es N g v
 |.inD neg a i,N,g,h=>qF h λa' B s=>a_ s λx=>cK (EJ neg=B)&&!L4 B s&&cK (N[i]?=a5 x)&&f_ g x&&bf x&&bo k a N g a'
 |.Pw i,N,g,h=>a_ h λx=>cK (N[i]?=a5 x)&&f_ g x&&bf x
 |.LY i a b,N,g,h=>d_ h λo m j as z=>a_ o λx=>jS as λa' s=>cK (m="get")&&cK (N[i]?=a5 x)&&f_ g x&&bf x&&(j.endLine==z.line)&&noStar a'&&noStar s&&bo k a N g a'&&bo k b N g s
 |.Px i,N,g,h=>di h λf' as _=>a_ f' λf=>cQ as λc=>d_ c λo m j bs z=>a_ o λx=>bs.isEmpty&&cK (f="sorted")&&Ku g f&&cK (m="items")&&cK (N[i]?=a5 x)&&f_ g x&&bf x&&(j.endLine==z.line)
 |.N6 ln a b,N,g,h=>di h λf' as _=>a_ f' λf=>cQ as λd=>uM d λl C r=>di l λO Q _=>a_ O λY=>cQ Q λa'=>di r λr' ar _=>a_ r' λg2=>cQ ar λs =>
  cK (f=(if ln=bD then("len":Str) else "sorted"))&&cK (Y="set")&&cK (g2="set")&&cK (C=.Sub)&&Ku g f&&Ku g "set"&&noStar a'&&noStar s&&bo k a N g a'&&bo k b N g s
 |.fst es,N,g,h=>cc
 |.MA a T,N,g,h=>di h λf' as _=>a_ f' λx=>jS as λa' s=>a_ s λy=>cK (x="isinstance")&&cK (y=T.name)&&Ku g x&&Ku g y&&noStar a'&&bo k a N g a'
 |.tup es,N,g,h=>uO h λv=>aY k es N g v
 |.lst es,N,g,h=>yT h λv=>aY k es N g v
 |.KZ _,N,g,h=>BP h
 |.idx a b,N,g,h=>jR h λa' s=>eO s&&bo k a N g a'&&bo k b N g s
 |.Nh a lo hi,N,g,h=>jR h λa' s=>yU s λWb Lq=>bo k a N g a'&&sM k lo N g Wb&&sM k hi N g Lq
 |.bi f es,N,g,h=>di h λf' v _=>a_ f' λx=>cK (x=f.name)&&simple f&&Ku g x&&!v.isEmpty&&aY k es N g v
 |.Ni f es,N,g,h=>di h λf' as _=>a_ f' λx=>cQ as λc=>di c λg' v _=>a_ g' λy=>cK (x=f.oZ)&&cK (y=f.iX)&&Ku g x&&Ku g y&&!v.isEmpty&&aY k es N g v
 |.N5 m a es,N,g,h=>d_ h λo name j v z=>cK (name=m.name)&&pf o&&(j.endLine==z.line)&&!v.isEmpty&&cK (v.length<20)&&bo k a N g o&&aY k es N g v
 |.call f es,N,g,h=>di h λf' v _=>a_ f' λx=>cK (x=f)&&cK (f∈k.fns)&&Ku g x&&bf x&&!v.isEmpty&&aY k es N g v
 |.comp n t ik src cond e,N,g,h=>EW h λelt w A G scope =>
   cK ((gR w).length=n)&&DU (gR w++hide (gR w) N) (gR w) scope g.names&&PH t (gR w++hide (gR w) N) (EU scope g) cc (fx n) w&&sF A &&
   (match gb g w ik A with
    |some as=>aY k src N g as
    |none=>cc) &&
   cK (G.length<=1)&&aY k cond (gR w++hide (gR w) N) (EU scope g) G&&bo k e (gR w++hide (gR w) N) (EU scope g) elt
noncomputable def aY(k:Ck):List E->List Str->LU->List lg->Bool
 |[],_,_,a=>a.isEmpty
 |e::es,N,b,a=>match a with
  |e'::a=>noStar e'&&bo k e N b e'&&aY k es N b a
  |[]=>cc
noncomputable def sM(k:Ck):List E->List Str->LU->Option lg->Bool
 |[],_,_,o=>o.isNone
 |[e],N,a,o=>match o with
  |some b=>bo k e N a b
  |none=>cc
 |_::_::_,_,_,_=>cc
end
abbrev bT:List Str:=["len","sorted","repr","max","min","all","any","list","tuple","str","int","range","enumerate","zip","reversed","set","dict","sum","isinstance","bool"]
structure O0(ck:Ck)(K:PySem.W.Frag)(mg:Str->Option dt):Prop where
 xc:∀x∈ck.xc,∃C,mg x=a5 (.ref C)/\PySem.W.nsIn K i3 x=a5 (a5 (.ref C))/\PySem.W.excIn K C Pt "ValueError.__new__"=bD
 xd:∀p∈ck.xd,∃C D,mg p.1=a5 (.ref C)/\PySem.W.nsIn K i3 p.1=a5 (a5 (.ref C))/\mg p.2=a5 (.ref D)/\PySem.W.exmOne K (.ref C) (.ref C)=a5 bD/\(PySem.W.kitCls K (.ref C) (.ref D)==a5 bD&&C != D)=bD
 xi:∀D,(∃p∈ck.xi,p.2.1=D)->∃dv,((∃D',dv=.ref D'/\mg D=a5 (.ref D'))\/(D="ValueError"/\dv=.type "ValueError"/\mg D=b8))/\∀p∈ck.xi,p.2.1=D->∀C,PySem.W.nsIn K i3 p.1=a5 (a5 (.ref C))->fX K C=bD/\PySem.W.kitOne K (.ref C) dv=a5 p.2.2
 xe:∀x,(∃p∈ck.xe,p.2=x)->∃D,mg x=a5 (.ref D)/\∀cl,(cl,x)∈ck.xe->∀C,PySem.W.nsIn K i3 cl=a5 (a5 (.ref C))->PySem.W.exmOne K (.ref C) (.ref D)=a5 bD
structure BQ(P:uv)(w:wq)(K:PySem.W.Frag)(mg:Str->Option dt)(base:DD)(d:Nat)(F:List U->Option (Ex (Kd×U)))(f:Str):Prop where
 ex:∃(np:Nat) (fa:d7) (fd:So) (ps:List Str),iE P w K mg base (N1 P w) d fa fd ps (spT P w K F np)/\mg f=a5 (.ref fa)/\PySem.W.keepIn K (.ref fa)=bD/\Binds K fd ps []/\(∀us k u,F us=a5 (.ok (k,u))->(k=.own\/k=.loc\/k=.any)/\us.length=np)/\∀us c,F us=a5 (.exc c)->us.length=np
structure BR(P:uv)(w:wq)(K:PySem.W.Frag)(mg:Str->Option dt)(base:DD)(d:Nat)(F:List U->Option (Ex (Kd×U)))(f:Str)(is:List Nat):Prop where
 ex:∃(np:Nat) (fa:d7) (fd:So) (ps:List Str),iE P w K mg base Ow d fa fd ps (RT P w K F np is)/\mg f=a5 (.ref fa)/\PySem.W.keepIn K (.ref fa)=bD/\Binds K fd ps []/\∀us r,F us=a5 (.ok r)->us.length=np
structure Gd(ck:Ck)(Γ:Tab)(C:Ct)(d:Nat)(X:Cx):Prop where
 P:C.P=X.prog
 w:C.w=X.w
 K:C.K=X.K
 u:X.A.units+60<KX
 calm:X.calm=bD
 room:fw d X.A
 blt:∀x∈bT,X.mg x=b8
 fns:∀f∈ck.fns,BQ X.prog X.w X.K X.mg X.base d (Γ f) f
 Mt:∀p∈ck.gl,∃val v,X.mg p.1=a5 val/\RelV v val/\∀S H,Rep C S H p.2 v
 Lh:∀p∈ck.Lh,BR X.prog X.w X.K X.mg X.base d (Γ p.1) p.1 p.2
 Ms:O0 ck X.K X.mg
def Gd.cx(g:Gd ck Γ C d X)(N:List Str)(a:LU)(D:d7)(s:d5)(H:Hp)(ex:List d7):Gd ck Γ C d (Kg X N a D s H ex) :=
 ⟨g.P,g.w,g.K,g.u,g.calm,g.room,g.blt,g.fns,g.Mt,g.Lh,g.Ms⟩
def cB(h:f_ a x=bD):K_ a x:=by
 unfold f_ at h;simp only[Lx,ŀ]at h;rcases h with(h|h)|h
 .show .inl h
 .show .inr (.inl h)
 .show .inr (.inr h)
def aF(h:bf x=bD):(x==("__debug__":Str))=cc/\(x==("__classdict__":Str))=cc:=by
 unfold bf at h;simpa using h
def a9(h:noStar e=bD):gj (e::es) env=(cc,uk e env)::gj es env:=by
 cases e<;>first|rfl|cases h
def qG(h:eO e=bD):oB e:=by
 intro o i;cases e<;>first|rfl|cases h
def sN(h:sF e=bD):∀x,LS e env x=pure x:=by
 intro x;cases e<;>first|rfl|cases h
def kC(h:pf o=bD):SO o name env a=a:=by
 cases o with
 |Call f as ks p =>
  cases f with
  |Name x q=>cases as with
   |nil=>cases ks with
    |nil=>cases h
    |cons _ _=>rfl
   |cons _ _=>rfl
  |_=>rfl
 |_=>rfl
def bq(h:∀e∈es,noStar e=bD):(x2 pos (gj es env)).any (·.1)=cc/\(x2 pos (gj es env)).all (λx=>!x.1)=bD:=by
 induction es with
 |nil=>show⟨rfl,rfl⟩
 |cons e es a =>
  rw[a9 (h e (by simp))];have:=a λb c=>h b (by simp[c]);constructor
  .change(cc||(x2 pos (gj es env)).any (·.1))=cc;rw[this.1];rfl
  .change(!cc&&(x2 pos (gj es env)).all (λx=>!x.1))=bD;rw[this.2];rfl
def c7(h:aY k es N c a=bD):∀e∈a,noStar e=bD:=by
 induction es generalizing a with
 |nil =>
  cases a with
  |nil=>intro e he;cases he
  |cons _ _=>simp[aY]at h
 |cons x es b =>
  cases a with
  |nil=>intro e he;cases he
  |cons d a =>
   simp only[aY,cb]at h;intro e he;rcases d4.mp he with rfl|he
   .show h.1.1
   .show b h.2 e he
def nI(a:fa=bD->∀x,X.fn x=bD)(h:uL X.N X.env.scope fa i e=bD):sy X e i:=by
 cases e with
 |Name x p =>
  simp only[uL,cb,ŀ,lD,Lx,G6]at h;show⟨x,p,rfl,h.1.1,?_,?_⟩
  .rcases h.1.2 with z|z
   .show .inl z
   .show .inr z
  .rcases h.2 with z|z
   .show .inl (a z x)
   .show .inr z
 |_=>cases h
theorem lG(a:fa=bD->∀x,X.fn x=bD):∀{is:List Nat}{es:List lg},ph X.N X.env.scope fa is es=bD->fD X es is
 |[],[],_=>.nil
 |[],_::_,h=>by cases h
 |_::_,[],h=>by cases h
 |i::is,e::es,h=>by
  simp only[ph,cb]at h;show .cons (nI a h.1) (lG a h.2)
def uP(d:X.calm=bD)(e:C.K=X.K)(a:X.N.Nodup)(b:fa=bD->∀x,X.fn x=bD)(h:PH t X.N X.env.scope fa is c=bD):PG X c (tG C t is):=by
 cases c with
 |Name x p =>
  simp only[PH,cb,nH]at h;have⟨rfl,h⟩:=h;cases is with
  |nil=>cases h
  |cons i is=>cases is with
   |nil=>show EC a (nI b h)
   |cons _ _=>cases h
 |Tuple es k p =>
  simp only[PH,cb,i7,ŀ]at h;obtain⟨⟨rfl,f⟩,g⟩:=h;show GI d e a (lG b f) g
 |_=>cases h
def nJ(a N:List Str):eT ((a++hide a N).drop a.length) N:=by
 rw[V5 rfl];unfold hide;split
 .show .refl N
 .show(eT.refl N).set _ (.inl rfl)
 .show((eT.refl N).set _ (.inl rfl)).set _ (.inr rfl)
abbrev Bf.Z5:Bf->Bool
 |.len=>bD|.sorted=>bD|.repr=>bD|.max=>bD|.min=>bD|.all=>bD|.any=>bD|_=>cc
abbrev Bf.id:Bf->String
 |.len=>"len"|.sorted=>"sorted"|.repr=>"repr"|.max=>"max"|.min=>"min"|.all=>"all"|.any=>"any"
 |.list=>"list"|.tuple=>"tuple"|.str=>"str"|.int=>"int"
def BS:∀f:Bf,simple f=bD->tA f.name=a5 f.val/\f.name∈bT/\f.name≠"__name__"/\(f.name==("__debug__":Str))=cc:=by
 intro f h;cases f<;>first|show⟨by decide +kernel,by decide +kernel,by decide +kernel,by decide +kernel⟩|(cases h;done)
def EX:∀f:Bf,simple f=bD->(f.val=.builtin f.id\/f.val=.type f.id):=by
 intro f h;cases f<;>first|show .inl rfl|show .inr rfl|(cases h;done)
def EY:∀f:B2,f.oZ∈bT/\f.iX∈bT:=by
 intro f;cases f<;>show⟨by decide +kernel,by decide +kernel⟩
def BU:∀f:Mf,Slot "str" f.name f.id/\ZX (.builtin f.id)=pure (.type "method_descriptor"):=by
 intro f;cases f with
 |split=>show⟨PySem.F.slot_str_split,PySem.F.type_str_split⟩
 |join=>show⟨PySem.F.slot_str_join,PySem.F.type_str_join⟩
 |partition=>show⟨PySem.F.slot_str_partition,PySem.F.type_str_partition⟩
 |endswith=>show⟨PySem.F.slot_str_endswith,PySem.F.type_str_endswith⟩
section
def cC(h:Ku X.env.scope x=bD):Gl X x:=by
 unfold Ku at h;change X.env.kindOf x=a5 .globalImplicit;show Ņ h
def BV:("enumerate":Str)∈bT:=by decide +kernel
def iZ:("isinstance":Str)∈bT:=by decide +kernel
def yX(T:Lz):T.name∈bT:=by cases T<;>decide +kernel
def BW:("range":Str)∈bT:=by decide +kernel
def CM(g:Gd ck Γ C d X)(h:gb X.env.scope l o c=a5 as)(m:PA X as (KC C (ba Γ src)))(r:∀a,as=[a]->∃e,src=[e]/\PE X a (Jl C (ev Γ e)))(n:∀e∈as,noStar e=bD):PI X l c (Nm C o (ba Γ src)):=by
 unfold gb at h;split at h
 .cases h;have⟨e,rfl,s⟩:=r _ rfl;show EA g.K s
 .rw[r3]at h;obtain⟨⟨x,bs⟩,j,h⟩:=h;split at h
  .rename_i k;cases h;have⟨f,i,hl⟩:=k
   dsimp only at f i hl
   subst f;have⟨p,q,rfl⟩:=jQ j;have⟨b,rfl⟩:=Yi.mp hl;show BA (cC i) (g.blt _ BW) (a9 (n _ (by simp))) m
  .cases h
 .rw[r3]at h;obtain⟨⟨x,bs⟩,j,h⟩:=h;split at h
  .rename_i k;cases h;have⟨f,i,hl,t⟩:=k
   dsimp only at f i hl
   subst f;have⟨p,q,rfl⟩:=jQ j;have⟨b,rfl⟩:=Yi.mp hl;cases l with
   |Tuple es u ps=>show EB g.K (cC i) (g.blt _ BV) (a9 (n _ (by simp))) m
   |_=>cases t
  .cases h
 .cases h
def Gd.Ll(g:Gd ck Γ C d X):Gd ck Γ C d X.Ll :=
 ⟨g.P,g.w,g.K,g.u,g.calm,g.room,g.blt,g.fns,g.Mt,g.Lh,g.Ms⟩
def CN(g:Gd ck Γ C d X)(f:PE X a' (Jl C (ev Γ a)))(l:isNm m D=bD)(n:noStar a'=bD)(h:Ku X.env.scope "isinstance"=bD)(i:Ku X.env.scope D=bD)(o:bf D=bD)(r:(ck.xi.any λp=>cK (p.2.1=D))=bD)(t:j.all (λp=>cK ((p.1,D,p.2)∈ck.xi))=bD):
  PE X (.Call (.Name "isinstance" p) [a',m] [] q) (Jl C (ev Γ (.Kx a D j))):=by
 have⟨p2,rfl⟩:=gB l;have⟨v,w,x⟩:=SF.mp r;have⟨dv,y,A⟩:=g.Ms.xi D ⟨v,w,Ņ x⟩;have k:∀q∈j,∀b,PySem.W.nsIn X.K i3 q.1=a5 (a5 (.ref b))->fX X.K b=bD/\PySem.W.kitOne X.K (.ref b) dv=a5 q.2:=λq B b G=>A _ (Ņ (i7.mp t q B)) rfl b G;have st:=a9 (env:=X.env) (es:=[.Name D p2]) n;rcases y with⟨c,rfl,e⟩|⟨rfl,rfl,e⟩
 .have J:PE X (.Name D p2) (tC (.ref c)):=λpins s σ H Q I z=>ft I (cC i) e ⟨.ref c,H,I,rfl,z⟩ (aF o).1;show uJ g.K (cC h) (g.blt _ iZ) f J (dv:=.ref c) (λu z=>z) st rfl rfl k
 .show uJ g.K (cC h) (g.blt _ iZ) f (vD:=.ty "ValueError") (dv:=.type "ValueError") (tT (cC i) e (show tA "ValueError"=a5 (.type "ValueError") by decide +kernel) rfl (by decide +kernel) (by decide +kernel)) (λu z=>z) st rfl rfl k
def CO{a:M α}{b:α->M β}{c:α->M γ}{g:γ->M δ}{st:ay}{Q:δ->ay->Prop}(w:W (a >>= λx=>b x >>= λ_=>c x >>= g) st Q):W ((a >>= λx=>b x >>= λ_=>c x) >>= g) st Q:=by
 simp only[ah]at w ⊢;show w
def bH:PT X e (Ks C M.fail):=λpins s σ H Q I ⟨_,_,_,_,w⟩=>(bp.mp w).elim
def jC:PE X e (Jl C M.fail):=λpins s σ H Q I ⟨_,_,_,_,w⟩=>(bp.mp w).elim
def PT.eqv(h:PT X e (Ks C m))(i:∀st Q,W a st Q->W m st Q):PT X e (Ks C a):=PT.weak h λσ H Q ⟨b,c,d,f,w⟩=>⟨b,c,d,f,i _ _ w⟩
def G7(g:Gd ck Γ C d X)(b:PA X a (KC C (ba Γ es)))
  (h:(cK (x=f.name)&&simple f&&Ku X.env.scope x&&!a.isEmpty&&aY ck es X.N X.env.scope a)=bD):PE X (.Call (.Name x p) a [] pos) (Jl C (ev Γ (.bi f es))):=by
 simp only[cb,ŀ,nH]at h;obtain⟨⟨⟨⟨rfl,c⟩,i⟩,m⟩,n⟩:=h;have⟨b1,j,b3,b4⟩:=BS f c;have k:=c7 n;cases a with
 |nil=>cases m
 |cons o l =>
  have st:=a9 (env:=X.env) (es:=l) (k o (by simp));have sn:=(bq (pos:=pos) (env:=X.env) (es:=l) λe q=>k e (by simp[q])).1;rcases EX f c with hv|hv
  .show Br g.calm g.K g.room.gd g.u hv (cC i) (g.blt _ j) (by rw[b1,hv]) b3 b4 b st sn
  .show Bs g.calm g.K g.room.gd g.u hv (cC i) (g.blt _ j) (by rw[b1,hv]) b3 b4 b st sn
def G8(g:Gd ck Γ C d X)(i:PA X a (KC C (ba Γ es)))
  (h:(cK (x=f.oZ)&&cK (y=f.iX)&&Ku X.env.scope x&&Ku X.env.scope y&&!a.isEmpty&&aY ck es X.N X.env.scope a)=bD):PE X (.Call (.Name x p) [.Call (.Name y p2) a [] pos2] [] pos) (Jl C (ev Γ (.Ni f es))):=by
 simp only[cb,ŀ,nH]at h;obtain⟨⟨⟨⟨⟨rfl,rfl⟩,j⟩,k⟩,l⟩,m⟩:=h;have⟨b1,n⟩:=EY f;have b:=c7 m;cases a with
 |nil=>cases l
 |cons o c =>
  have st:=a9 (env:=X.env) (es:=c) (b o (by simp));have sn:=(bq (pos:=pos2) (env:=X.env) (es:=c) λe q=>b e (by simp[q])).1;show By g.calm g.K (cC j) (g.blt _ b1) (cC k) (g.blt _ n) i st sn
def G9(g:Gd ck Γ C d X)(l:PE X o (Jl C (ev Γ a)))(n:PA X b (KC C (ba Γ es)))
  (h:(cK (name=m.name)&&pf o&&(c.endLine==i.line)&&!b.isEmpty&&cK (b.length<20)&&bo ck a X.N X.env.scope o&&aY ck es X.N X.env.scope b)=bD):PE X (.Call (.Attribute o name c) b [] i) (Jl C (ev Γ (.N5 m a es))):=by
 simp only[cb,ŀ,nH]at h;obtain⟨⟨⟨⟨⟨⟨rfl,p⟩,q⟩,r⟩,s⟩,w⟩,t⟩:=h;have j:=c7 t;have⟨s1,s2⟩:=BU m;cases b with
 |nil=>cases r
 |cons k f =>
  have st:=a9 (env:=X.env) (es:=f) (j k (by simp));have sn:=(bq (pos:=i) (env:=X.env) (es:=f) λe u=>j e (by simp[u])).1;have v:=(bq (pos:=i) (env:=X.env) (es:=k::f) j).2;show Bx g.K s1 s2 l n (kC p) ?_ q st sn;rw[v];have:(k::f).length+([]:List MF).length+(if ([]:List MF).isEmpty=bD then 0 else 1)<30:=by simp at s ⊢;lia
  simp only[ń this];rfl
def yY(g:Gd ck Γ C d X)(i:PA X a (KC C (ba Γ es)))
  (h:(cK (x=f)&&cK (f∈ck.fns)&&Ku X.env.scope x&&bf x&&!a.isEmpty&&aY ck es X.N X.env.scope a)=bD):PE X (.Call (.Name x p) a [] pos) (Jl C (ev Γ (.call f es))):=by
 simp only[cb,ŀ,nH]at h;obtain⟨⟨⟨⟨⟨rfl,j⟩,k⟩,l⟩,m⟩,n⟩:=h;have b:=c7 n;obtain⟨y,fa,z,ps,o,q,r,s,t,_⟩:=(g.fns _ j).ex;cases a with
 |nil=>cases m
 |cons u c =>
  have st:=a9 (env:=X.env) (es:=c) (b u (by simp));have sn:=(bq (pos:=pos) (env:=X.env) (es:=c) λe v=>b e (by simp[v])).1;show yB g.P g.w g.K rfl t o g.room (cC k) q r s (aF l).1 i st sn
def EZ(g:Gd ck Γ C d X)(i:PA X a (KC C (ba Γ es)))
  (h:(cK (x=f)&&cK ((f,is)∈ck.Lh)&&Ku X.env.scope x&&bf x&&!a.isEmpty&&aY ck es X.N X.env.scope a)=bD):PE X (.Call (.Name x p) a [] pos) (Jl C (ev Γ (.Jf f es is))):=by
 simp only[cb,ŀ,nH]at h;obtain⟨⟨⟨⟨⟨rfl,j⟩,k⟩,l⟩,m⟩,n⟩:=h;have b:=c7 n;have⟨y,fa,z,ps,o,q,r,s,t⟩:=(g.Lh _ j).ex;cases a with
 |nil=>cases m
 |cons u c =>
  have st:=a9 (env:=X.env) (es:=c) (b u (by simp));have sn:=(bq (pos:=pos) (env:=X.env) (es:=c) λe v=>b e (by simp[v])).1;show yS g.P g.w g.K rfl t o g.room (cC k) q r s (aF l).1 (BM i) st sn
def eB(h:(b&&aY k es N a c)=bD):aY k es N a c=bD:=(t5.mp h).2
mutual
theorem bz:∀(e:E) (X:Cx) (k:lg),Gd ck Γ C d X->bo ck e X.N X.env.scope k=bD->PE X k (Jl C (ev Γ e))
 |.var i,X,k,g,h=>by
  have⟨x,p0,rfl,A⟩:=aq h;clear h;have h:=A;simp only[cb,ŀ]at h;have⟨G,J⟩:=aF h.2;show oY h.1.1 (cB h.1.2) G J
 |.cst u,X,k,g,h=>by
  have⟨c,q0,p0,rfl,A⟩:=ic h;cases c with
  |int j=>have:=c6 A;subst this;show kB xh λ_ _=>rfl
  |str y=>have:=c6 A;subst this;show kB xm λ_ _=>rfl
  |bool y=>have:=c6 A;subst this;show kB tS λ_ _=>rfl
  |none=>have:=c6 A;subst this;show kB xj λ_ _=>rfl
  |_=>cases A
 |.RB x u,X,k,g,h=>absurd (show cc=bD from h) i0
 |.bin op a b,X,k,g,h=>by
  have⟨a',LD,b',p0,rfl,A⟩:=lE h;clear h;have h:=A;simp only[cb,ŀ]at h;obtain⟨⟨rfl,L⟩,Y⟩:=h;show Bd g.K (bz a X _ g L) (bz b X _ g Y)
 |.cmp op a b,X,k,g,h=>by
  have⟨a',LD,b',p0,rfl,v⟩:=fF h;have h:=v;simp only[cb,ŀ,nH]at h;obtain⟨⟨⟨rfl,h0⟩,L⟩,Y⟩:=h;show Be g.P g.w g.K g.u (bz a X _ g L) (bz b X _ g Y) h0
 |.MX o1 o2 a b c,X,k,g,h=>jC
 |.and es,X,k,g,h=>by
  have⟨Jg,p0,rfl,A⟩:=jA h;clear h;have h:=A;show yZ es X _ g h
 |.or es,X,k,g,h=>jC
 |.not a,X,k,g,h=>by
  have⟨a',p0,rfl,A⟩:=nE h;clear h;have h:=A;show Bh (bz a X _ g h)
 |.neg a,X,k,g,h=>absurd (show cc=bD from h) i0
 |.bad,X,k,g,h=>jC
 |.Kx a D tb,X,k,g,h=>by
  have⟨as,p,q,rfl,v⟩:=dW h;have⟨a',b',rfl,B⟩:=cA v;clear h v;simp only[cb]at B;obtain⟨⟨⟨⟨⟨⟨⟨L,Y⟩,G⟩,J⟩,O⟩,h6⟩,h7⟩,h8⟩:=B;show CN g (bz a X _ g h8) L Y G J O h6 h7
 |.NC ix i b,X,k,g,h=>by
  have⟨o,m,ab,as,G',rfl,v⟩:=bF h;have⟨x,px,rfl,B⟩:=aq v;have⟨a',rfl,z3⟩:=aN B;have⟨c,q,p,rfl,z4⟩:=ic z3;clear h v B z3;simp only[cb,ŀ]at z4;obtain⟨⟨⟨⟨⟨rfl,rfl⟩,L⟩,Y⟩,G⟩,J⟩:=z4;show BK g.K L (cB Y) (aF G).1 (aF G).2 J
 |.pop i,X,k,g,h=>by
  have⟨o,m,ab,as,G',rfl,v⟩:=bF h;have⟨x,px,rfl,B⟩:=aq v;simp only[cb,ŀ,D7]at B;obtain⟨⟨⟨⟨⟨rfl,rfl⟩,L⟩,Y⟩,G⟩,J⟩:=B;have⟨q1,q2⟩:=aF G;show BJ L (cB Y) q1 q2 J g.K
 |.Le i a,X,k,g,h=>by
  have⟨o,m,ab,as,G',rfl,v⟩:=bF h;have⟨x,px,rfl,B⟩:=aq v;have⟨a',rfl,z3⟩:=aN B;simp only[cb,ŀ]at z3;obtain⟨⟨⟨⟨⟨⟨rfl,L⟩,Y⟩,G⟩,J⟩,O⟩,h6⟩:=z3;have⟨q1,q2⟩:=aF G;have sa:=bq (pos:=G') (env:=X.env) (es:=[a']) λe he=>by rw[hV.mp he];show O
  show yP g.K L (cB Y) q1 q2 (bz a X _ g h6) (by rw[sa.2];rfl) J (a9 O)
 |.Jf f es is,X,k,g,h=>by
  have⟨f',as,p0,rfl,v⟩:=aW h;have⟨x,p1,rfl,B⟩:=aq v;show EZ g (jD es X _ g (eB B)) B
 |.inD neg a i,X,k,g,h=>jC
 |.Pw i,X,k,g,h=>by
  have⟨x,p0,rfl,A⟩:=aq h;clear h;have h:=A;simp only[cb,ŀ]at h;have⟨G,J⟩:=aF h.2;show BD h.1.1 (cB h.1.2) G J
 |.LY i a b,X,k,g,h=>by
  have⟨o,m,ab,as,G',rfl,v⟩:=bF h;have⟨x,px,rfl,B⟩:=aq v;have⟨a',b',rfl,z3⟩:=cA B;clear h v;have B:=z3;simp only[cb,ŀ]at B;obtain⟨⟨⟨⟨⟨⟨⟨⟨rfl,L⟩,Y⟩,G⟩,J⟩,O⟩,h6⟩,h7⟩,h8⟩:=B;have⟨q1,q2⟩:=aF G;have sa:=bq (pos:=G') (env:=X.env) (es:=[a',b']) λe he=>by
   rcases d4.mp he with rfl|he
   .show O
   .simp at he;subst he;show h6
  show yM g.u L (cB Y) q1 q2 (bz a X _ g h7) (bz b X _ g h8) ⟨rfl,by rw[sa.2];rfl,J,by rw[a9 O,a9 h6];rfl⟩
 |.Px i,X,k,g,h=>by
  obtain⟨f',as,_,rfl,v⟩:=aW h;obtain⟨f,_,rfl,B⟩:=aq v;have⟨c,rfl,z3⟩:=aN B;have⟨o,m,ab,bs,G',rfl,z4⟩:=bF z3;have⟨x,px,rfl,z5⟩:=aq z4;simp only[cb,ŀ,D7]at z5;obtain⟨⟨⟨⟨⟨⟨⟨rfl,rfl⟩,L⟩,rfl⟩,G⟩,J⟩,O⟩,h6⟩:=z5;have⟨q1,q2⟩:=aF O;show BH g.calm g.K (cC L) (g.blt _ (by decide +kernel)) G (cB J) q1 q2 h6
 |.N6 ln a b,X,k,g,h=>by
  obtain⟨_,_,_,rfl,A⟩:=aW h;obtain⟨_,_,rfl,v⟩:=aq A;obtain⟨_,rfl,B⟩:=aN v;obtain⟨_,_,_,_,rfl,z3⟩:=lE B;obtain⟨_,_,_,rfl,z4⟩:=aW z3;obtain⟨_,_,rfl,z5⟩:=aq z4;obtain⟨_,rfl,z6⟩:=aN z5;obtain⟨_,_,_,rfl,z7⟩:=aW z6;obtain⟨_,_,rfl,z8⟩:=aq z7;obtain⟨_,rfl,z9⟩:=aN z8;simp only[cb,ŀ]at z9;obtain⟨⟨⟨⟨⟨⟨⟨⟨⟨rfl,rfl⟩,rfl⟩,rfl⟩,L⟩,Y⟩,G⟩,J⟩,O⟩,h6⟩:=z9;show BI (ln:=ln) g.calm g.K (cC L) (g.blt _ (by cases ln<;>decide +kernel)) (cC Y) (g.blt _ (by decide +kernel)) (bz a X _ g O) (bz b X _ g h6) (a9 G) (a9 J)
 |.fst es,X,k,g,h=>jC
 |.MA a T,X,k,g,h=>by
  have⟨f',as,p0,rfl,v⟩:=aW h;have⟨x,p1,rfl,B⟩:=aq v;clear h v;have⟨a',b',rfl,z4⟩:=cA B;have⟨y,p2,rfl,z3⟩:=aq z4;have h:=z3;simp only[cb,ŀ]at h;obtain⟨⟨⟨⟨⟨rfl,rfl⟩,L⟩,Y⟩,G⟩,J⟩:=h;show uE g.K (cC L) (g.blt _ iZ) (cC Y) (g.blt _ (yX T)) (bz a X _ g J) (a9 G)
 |.ite c a b,X,k,g,h=>by
  have⟨c',a',b',p0,rfl,A⟩:=nF h;clear h;have h:=A;simp only[cb]at h;show Bi (lH c X _ g h.1.1) (bz a X _ g h.1.2) (bz b X _ g h.2)
 |.tup es,X,k,g,h=>by
  have⟨l,q0,p0,rfl,A⟩:=lF h;clear h;have h:=A;show Bm (jD es X _ g h)
 |.lst es,X,k,g,h=>by
  have⟨l,p0,rfl,A⟩:=sH h;clear h;have h:=A;show Bn (jD es X _ g h)
 |.KZ r,X,k,g,h=>by
  have⟨p0,rfl⟩:=nG h;show yA g.P g.w r
 |.idx a b,X,k,g,h=>by
  have⟨a',b',p0,rfl,A⟩:=dq h;clear h;have h:=A;simp only[cb]at h;show Bo g.K g.u (qG h.1.1) (bz a X _ g h.1.2) (bz b X _ g h.2)
 |.Nh a lo hi,X,k,g,h=>by
  have⟨a',b',p0,rfl,v⟩:=dq h;have⟨Wb,Lq,p1,rfl,A⟩:=sI v;clear h v;simp only[cb]at A;show Bp g.K (bz a X _ g A.1.1) (G_ lo X _ g A.1.2) (G_ hi X _ g A.2)
 |.bi f es,X,k,g,h=>by
  have⟨f',as,p0,rfl,v⟩:=aW h;have⟨x,p1,rfl,B⟩:=aq v;have h:=B;show G7 g (jD es X _ g (eB h)) h
 |.Ni f es,X,k,g,h=>by
  have⟨f',as,p0,rfl,v⟩:=aW h;have⟨x,p1,rfl,B⟩:=aq v;have⟨c,rfl,z3⟩:=aN B;have⟨g',as',p2,rfl,z4⟩:=aW z3;have⟨y,p3,rfl,z5⟩:=aq z4;have h:=z5;show G8 g (jD es X _ g (eB h)) h
 |.N5 m a es,X,k,g,h=>by
  have⟨o,name,ab,as,G',rfl,v⟩:=bF h;have h:=v;have h':=h;simp only[cb]at h';show G9 g (bz a X _ g h'.1.2) (jD es X _ g (eB h)) h
 |.call f es,X,k,g,h=>by
  have⟨f',as,p0,rfl,v⟩:=aW h;have⟨x,p1,rfl,B⟩:=aq v;have h:=B;show yY g (jD es X _ g (eB h)) h
 |.comp n t ik src cond e,X,k,g,h=>by
  have⟨elt,tg,ac,ag,scope,p0,rfl,A⟩:=jB h;clear h;have h:=A;simp only[cb,ŀ]at h;obtain⟨⟨⟨⟨⟨⟨⟨L,Y⟩,G⟩,J⟩,O⟩,h6⟩,h7⟩,h8⟩:=h;subst L;have S:=xP (X:=X) rfl (nJ _ _) Y;split at O
  .rename_i as ak;have Jp:=c7 O;have hI:PI X tg ac (Nm C ik (ba Γ src)):=CM g ak (jD src X _ g O) (λa e=>by
    subst e;cases src with
    |nil=>simp[aY]at O
    |cons e1 JT =>
     cases JT with
     |nil =>
      simp only[aY,cb]at O;show⟨e1,rfl,bz e1 X _ g O.1.2⟩
     |cons _ _=>simp[aY]at O) Jp
   show yI S g.calm hI (λD s H ex=>uP (fa:=cc) g.calm g.K S.nd (λz=>nomatch z) G)
    (λD s H ex=>by
     cases ag with
     |nil =>
      cases cond with
      |nil=>show λpins s σ H Q I ⟨c0,e1,e2,ok,w⟩=>t9 pins s σ H Q I (by subst e1 e2;rw[show bh Γ []=pure bD from rfl,ao]at w;show w c0 rfl rfl ok (Nx.refl c0))
      |cons _ _=>simp[aY]at h7
     |cons c1 cs =>
      cases cs with
      |nil =>
       cases cond with
       |nil=>simp[aY]at h7
       |cons e1 JT =>
        cases JT with
        |nil =>
         simp only[aY,cb]at h7;show t_ (lH e1 (Kg X _ scope D s H ex) c1 (g.cx _ _ _ _ _ _) h7.1.2)
        |cons _ _=>simp[aY]at h7
      |cons _ _=>simp at h6)
    (λD s H ex=>bz e (Kg X _ scope D s H ex) elt (g.cx _ _ _ _ _ _) h8) (sN J)
  .cases O
theorem jD:∀(es:List E) (X:Cx) (a:List lg),Gd ck Γ C d X->aY ck es X.N X.env.scope a=bD->PA X a (KC C (ba Γ es))
 |[],X,a,g,h=>by
  cases a with
  |nil=>show Bl
  |cons _ _=>simp[aY]at h
 |e::es,X,a,g,h=>by
  cases a with
  |nil=>simp[aY]at h
  |cons b a =>
   simp only[aY,cb]at h;show yy (bz e X b g h.1.2) (jD es X a g h.2) (a9 h.1.1)
theorem G_:∀(es:List E) (X:Cx) (o:Option lg),Gd ck Γ C d X->sM ck es X.N X.env.scope o=bD->PO X o (tO C (OM Γ es))
 |[],X,o,g,h=>by
  cases o with
  |none=>show wj
  |some _=>simp[sM]at h
 |[e],X,o,g,h=>by
  cases o with
  |none=>simp[sM]at h
  |some a=>simp only[sM]at h;show wm (bz e X a g h)
 |_::_::_,X,o,g,h=>by simp[sM]at h
theorem yZ:∀(es:List E) (X:Cx) (a:List lg),Gd ck Γ C d X->aY ck es X.N X.env.scope a=bD->∀{pos},PE X (.BoolOp .And a pos) (Jl C (iS Γ es))
 |[],X,a,g,h,pos=>jC
 |[e],X,a,g,h,pos=>by
  cases a with
  |nil=>simp[aY]at h
  |cons b a =>
   cases a with
   |nil=>simp only[aY,cb]at h;show Dm (bz e X b g h.1.2)
   |cons _ _=>simp[aY]at h
 |e::c::es,X,a,g,h,pos=>by
  cases a with
  |nil=>simp[aY]at h
  |cons b a =>
   have h':noStar b=bD/\bo ck e X.N X.env.scope b=bD/\aY ck (c::es) X.N X.env.scope a=bD:=by
    rw[aY]at h;simp only[cb]at h;show⟨h.1.1,h.1.2,h.2⟩
   cases a with
   |nil=>have:=h'.2.2;simp[aY]at this
   |cons f i=>show snd_and (bz e X b g h'.2.1) (yZ (c::es) X _ g h'.2.2)
theorem lH:∀(e:E) (X:Cx) (j:lg),Gd ck Γ C d X->bo ck e X.N X.env.scope j=bD->PT X j (Ks C (JC Γ e))
 |.and es,X,j,g,h=>by
  have⟨Y,s,rfl,l⟩:=jA h;clear h;have h:=l;show(uQ es X _ g h).pt
 |.or es,X,j,g,h=>by
  have⟨Y,s,rfl,l⟩:=jA h;clear h;have h:=l;show(y0 es X _ g h).pt
 |.not a,X,j,g,h=>by
  have⟨a',s,rfl,l⟩:=nE h;clear h;have h:=l;show Bj (lH a X _ g h)
 |.cmp op a b,X,j,g,h=>by
  have⟨a',LD,H,s,rfl,k⟩:=fF h;have h:=k;simp only[cb,ŀ,nH]at h;obtain⟨⟨⟨rfl,G⟩,v⟩,z⟩:=h;show Bg g.P g.w g.K g.u (bz a X _ g v) (bz b X _ g z) G
 |.MX o1 o2 a b c,X,j,g,h=>by
  have⟨a',Z6,Z7,H,c',s,rfl,l⟩:=sJ h;clear h;have h:=l;simp only[cb,ŀ,nH]at h;obtain⟨⟨⟨⟨⟨rfl,rfl⟩,G⟩,v⟩,z⟩,A⟩:=h;show yx g.P g.w g.K g.u (bz a X _ g v) (bz b X _ g z) (bz c X _ g A) G
 |.var i,X,j,g,h=>by
  have⟨x,s,rfl,l⟩:=aq h;simp only[cb,ŀ]at l;have⟨A,B⟩:=aF l.2;show iU (oY l.1.1 (cB l.1.2) A B) g.K λ_=>rfl
 |.idx a b,X,j,g,h=>bH
 |.bi f es,X,j,g,h=>by
  have⟨f',as,s,rfl,k⟩:=aW h;have⟨x,I,rfl,o⟩:=aq k;have h:=o;show PT.eqv (iU (G7 g (jD es X _ g (eB h)) h) g.K λ_=>rfl) λst Q w=>CO w
 |.Ni f es,X,j,g,h=>bH
 |.N5 m a es,X,j,g,h=>bH
 |.call f es,X,j,g,h=>by
  have⟨f',as,s,rfl,k⟩:=aW h;have⟨x,I,rfl,o⟩:=aq k;have h:=o;show PT.eqv (iU (yY g (jD es X _ g (eB h)) h) g.K λ_=>rfl) λst Q w=>CO w
 |.cst u,X,j,g,h=>bH
 |.fst es,X,j,g,h=>bH
 |.RB x u,X,j,g,h=>bH
 |.neg a,X,j,g,h=>bH
 |.MA a T,X,j,g,h=>by
  have⟨f',as,s,rfl,k⟩:=aW h;have⟨x,I,rfl,o⟩:=aq k;clear h k;have⟨a',H,rfl,z4⟩:=cA o;have⟨y,p2,rfl,z3⟩:=aq z4;have h:=z3;simp only[cb,ŀ]at h;obtain⟨⟨⟨⟨⟨rfl,rfl⟩,v⟩,z⟩,A⟩,B⟩:=h;show PT.eqv (iU (uE g.K (cC v) (g.blt _ iZ) (cC z) (g.blt _ (yX T)) (bz a X _ g B) (a9 A)) g.K λ_=>rfl) λst Q w=>?_;have w:W (ev Γ a >>= λx=>M.Jt (oX x.2 T)) st Q:=w;simp only[ah]at w ⊢;show W.mono w λx s1 J=>?_;have⟨b,e,L⟩:=bJ.mp J;show bJ.mpr ⟨b,e,ao.mpr (bJ.mpr ⟨b,rfl,L⟩)⟩
 |.bad,X,j,g,h=>bH
 |.Kx a D O,X,j,g,h=>by
  have⟨as,p,q,rfl,k⟩:=dW h;have⟨a',H,rfl,o⟩:=cA k;clear h k;simp only[cb]at o;obtain⟨⟨⟨⟨⟨⟨⟨v,z⟩,A⟩,B⟩,h5⟩,h6⟩,h7⟩,h8⟩:=o;show PT.eqv (iU (CN g (bz a X _ g h8) v z A B h5 h6 h7) g.K λ_=>rfl) λst Q w=>?_;have w:W (ev Γ a >>= λx=>M.Jt (fe O x.2)) st Q:=w;have e:ev Γ (.Kx a D O)=(ev Γ a >>= λx=>M.Jt (fe O x.2) >>= λb=>pure (.loc,.bl b)):=rfl;rw[e];simp only[ah]at w ⊢;show W.mono w λx s1 J=>?_;have⟨b,e,L⟩:=bJ.mp J;show bJ.mpr ⟨b,e,ao.mpr (bJ.mpr ⟨b,rfl,L⟩)⟩
 |.NC ix i b,X,j,g,h=>bH
 |.pop i,X,j,g,h=>bH
 |.Le i a,X,j,g,h=>bH
 |.Jf f es is,X,j,g,h=>bH
 |.inD neg a i,X,j,g,h=>by
  have⟨a',LD,H,s,rfl,k⟩:=fF h;have⟨x,I,rfl,o⟩:=aq k;have h:=o;simp only[cb,ŀ,nH]at h;obtain⟨⟨⟨⟨⟨rfl,G⟩,v⟩,z⟩,A⟩,B⟩:=h;have⟨q1,q2⟩:=aF A;show BE g.u v (cB z) q1 q2 (bz a X _ g B) G
 |.Pw i,X,j,g,h=>bH
 |.N6 ln a b,X,j,g,h=>bH
 |.Px i,X,j,g,h=>bH
 |.LY i a b,X,j,g,h=>bH
 |.bin op a b,X,j,g,h=>bH
 |.ite c a b,X,j,g,h=>bH
 |.tup es,X,j,g,h=>bH
 |.lst es,X,j,g,h=>bH
 |.KZ r,X,j,g,h=>bH
 |.Nh a lo hi,X,j,g,h=>bH
 |.comp n t ik src cond e,X,j,g,h=>bH
theorem uQ:∀(es:List E) (X:Cx) (a:List lg),Gd ck Γ C d X->aY ck es X.N X.env.scope a=bD->∀{pos},PW X (.BoolOp .And a pos) (Ks C (bh Γ es))
 |[],X,a,g,h,pos=>by
  cases a with
  |nil =>
   rintro j pins s σ H Q I ⟨c,rfl,rfl,i,w⟩;rw[show bh Γ []=pure bD from rfl,ao]at w;show Ľ ⟨c.H,I,w c rfl rfl i (Nx.refl c)⟩
  |cons _ _=>simp[aY]at h
 |[e],X,a,g,h,pos=>by
  cases a with
  |nil=>simp[aY]at h
  |cons b a =>
   cases a with
   |nil=>simp only[aY,cb]at h;show Ar (lH e X b g h.1.2)
   |cons _ _=>simp[aY]at h
 |e::f::es,X,a,g,h,pos=>by
  cases a with
  |nil=>simp[aY]at h
  |cons b a =>
   have h':noStar b=bD/\bo ck e X.N X.env.scope b=bD/\aY ck (f::es) X.N X.env.scope a=bD:=by
    rw[aY]at h;simp only[cb]at h;show⟨h.1.1,h.1.2,h.2⟩
   cases a with
   |nil=>have:=h'.2.2;simp[aY]at this
   |cons k l=>show Bk (lH e X b g h'.2.1) (uQ (f::es) X _ g h'.2.2)
theorem y0:∀(es:List E) (X:Cx) (a:List lg),Gd ck Γ C d X->aY ck es X.N X.env.scope a=bD->∀{pos},PW X (.BoolOp .Or a pos) (Ks C (iT Γ es))
 |[],X,a,g,h,pos=>by
  cases a with
  |nil =>
   rintro j pins s σ H Q I ⟨c,rfl,rfl,i,w⟩;rw[show iT Γ []=pure cc from rfl,ao]at w;show isTrue_or_nil ⟨c.H,I,w c rfl rfl i (Nx.refl c)⟩
  |cons _ _=>simp[aY]at h
 |[e],X,a,g,h,pos=>by
  cases a with
  |nil=>simp[aY]at h
  |cons b a =>
   cases a with
   |nil=>simp only[aY,cb]at h;show Dj (lH e X b g h.1.2)
   |cons _ _=>simp[aY]at h
 |e::f::es,X,a,g,h,pos=>by
  cases a with
  |nil=>simp[aY]at h
  |cons b a =>
   have h':noStar b=bD/\bo ck e X.N X.env.scope b=bD/\aY ck (f::es) X.N X.env.scope a=bD:=by
    rw[aY]at h;simp only[cb]at h;show⟨h.1.1,h.1.2,h.2⟩
   cases a with
   |nil=>have:=h'.2.2;simp[aY]at this
   |cons k l=>show En (lH e X b g h'.2.1) (y0 (f::es) X _ g h'.2.2)
end
def Ha(g:Gd ck Γ C d X)(b:UM e=bD)(h:bo ck e X.N X.env.scope f=bD):PE X f (wA C (ev Γ e)):=by
 cases e with
 |var i =>
  have⟨x,k,rfl,a⟩:=aq h;simp only[cb,ŀ]at a;have⟨l,m⟩:=aF a.2;show yK a.1.1 (cB a.1.2) l m
 |cst u =>
  have⟨c,n,k,rfl,a⟩:=ic h;cases c with
  |int j=>have:=c6 a;subst this;show iY xh λ_ _=>rfl
  |str y=>have:=c6 a;subst this;show iY xm λ_ _=>rfl
  |bool y=>have:=c6 a;subst this;show iY tS λ_ _=>rfl
  |none=>have:=c6 a;subst this;show iY xj λ_ _=>rfl
  |_=>cases a
 |_=>cases b
end
abbrev QO(b:LU)(x:Str)(a:Nat):lg->Bool
 |.ListComp elt gens s pos=>cK (b.names.lookup x=a5 .local)&&(a==pos.line)&&!(s.names.any λ(n,k)=>n==x&&(k==.local||k==.cell))
 |_=>cc
abbrev jT(s:L5)(k:lg->Bool):Bool:=match s with|.Expr e _=>k e|_=>cc
def du(h:jT s k=bD):∃e p,s=.Expr e p/\k e=bD:=by
 unfold jT at h;split at h
 .show⟨_,_,rfl,h⟩
 .cases h
abbrev jU(s:L5)(k:lg->lg->Bool):Bool:=match s with|.Assign ts v _=>cQ ts λt=>k t v|_=>cc
def dw(h:jU s k=bD):∃t v p,s=.Assign [t] v p/\k t v=bD:=by
 unfold jU at h;split at h
 .have⟨t,rfl,a⟩:=aN h;show⟨_,_,_,rfl,h⟩
 .cases h
abbrev y4(s:L5)(k:lg->Bool):Bool:=match s with|.Raise (a5 e) b8 _=>k e|_=>cc
def sO(h:y4 s k=bD):∃e p,s=.Raise (a5 e) b8 p/\k e=bD:=by
 unfold y4 at h;split at h
 .show⟨_,_,rfl,h⟩
 .cases h
abbrev y6(s:L5)(k:L5->ExceptHandler->Bool):Bool:=match s with|.Try b hs [] [] _=>cQ b λb=>cQ hs λh=>k b h|_=>cc
def sQ(h:y6 s k=bD):∃b a p,s=.Try [b] [a] [] [] p/\k b a=bD:=by
 unfold y6 at h;split at h
 .have⟨b,rfl,c⟩:=aN h;have⟨a,rfl,d⟩:=aN c;show⟨_,_,_,rfl,d⟩
 .cases h
abbrev y7(s:ExceptHandler)(k:lg->Str->L5->Bool):Bool:=match s with|.ExceptHandler (a5 t) (a5 n) b _=>cQ b λb=>k t n b|_=>cc
def sR(h:y7 s k=bD):∃t n b p,s=.ExceptHandler (a5 t) (a5 n) [b] p/\k t n b=bD:=by
 unfold y7 at h;split at h
 .have⟨b,rfl,a⟩:=aN h;show⟨_,_,_,_,rfl,a⟩
 .cases h
abbrev E1(s:L5)(k:Str->lg->Bool):Bool:=jU s λt v=>a_ t λy=>k y v
def nK(h:E1 s k=bD):∃y p v a,s=.Assign [.Name y p] v a/\k y v=bD:=by
 have⟨t,v,a,rfl,z⟩:=dw h;have⟨y,p,rfl,z⟩:=aq z;show⟨y,p,v,a,rfl,z⟩
abbrev E2(e:lg)(k:Str->Pos->Bool):Bool:=match e with|.Name x p=>k x p|_=>cc
def wD(h:E2 e k=bD):∃x p,e=.Name x p/\k x p=bD:=by
 unfold E2 at h;split at h
 .show⟨_,_,rfl,h⟩
 .cases h
abbrev y8(s:L5)(k:lg->Ü->lg->Bool):Bool:=match s with|.AugAssign t a b _=>k t a b|_=>cc
def sT(h:y8 s k=bD):∃t a b p,s=.AugAssign t a b p/\k t a b=bD:=by
 unfold y8 at h;split at h
 .show⟨_,_,_,_,rfl,h⟩
 .cases h
abbrev qH(s:L5)(k:Option lg->Bool):Bool:=match s with|.Return v _=>k v|_=>cc
def ie(h:qH s k=bD):∃v p,s=.Return v p/\k v=bD:=by
 unfold qH at h;split at h
 .show⟨_,_,rfl,h⟩
 .cases h
abbrev E3(v:Option lg)(k:lg->Bool):Bool:=match v with|some e=>k e|none=>cc
def nL(h:E3 v k=bD):∃e,v=a5 e/\k e=bD:=by
 cases v with
 |none=>cases h
 |some e=>show⟨e,rfl,h⟩
abbrev uR(s:L5)(k:lg->List L5->List L5->Bool):Bool:=match s with|.If c a b _=>k c a b|_=>cc
def lI(h:uR s k=bD):∃c a b p,s=.If c a b p/\k c a b=bD:=by
 unfold uR at h;split at h
 .show⟨_,_,_,_,rfl,h⟩
 .cases h
abbrev y9(s:L5)(k:lg->lg->List L5->Bool):Bool:=match s with|.For t i b o _=>o.isEmpty&&k t i b|_=>cc
def sU(h:y9 s k=bD):∃t i b p,s=.For t i b [] p/\k t i b=bD:=by
 unfold y9 at h;split at h
 .rw[cb,D7]at h;have⟨rfl,h⟩:=h;show⟨_,_,_,_,rfl,h⟩
 .cases h
abbrev E4(s:L5)(k:lg->List L5->Bool):Bool:=match s with|.While c b o _=>o.isEmpty&&k c b|_=>cc
def wF(h:E4 s k=bD):∃c b p,s=.While c b [] p/\k c b=bD:=by
 unfold E4 at h;split at h
 .rw[cb,D7]at h;have⟨rfl,h⟩:=h;show⟨_,_,_,rfl,h⟩
 .cases h
abbrev N'(k:Ck)(f:Str)(es:List E)(N:List Str)(a:LU)(v:lg):Bool:=yW v f λas=>cK (f∈k.fns)&&Ku a f&&bf f&&!as.isEmpty&&aY k es N a as
abbrev Y3(k:Ck)(c:List E)(f:Str)(es:List E)(g:Str)(b:List E)(N:List Str)(a:LU)(v:lg):Bool:=match c with
 |[]=>N' k f es N a v
 |[c]=>BO v λd a' e=>bo k c N a d&&N' k f es N a a'&&N' k g b N a e
 |_=>cc
abbrev wG(k:Ck):RE->List Str->LU->lg->Bool
 |.call f es,N,a,v=>N' k f es N a v
 |.arg f r,N,a,v=>yW v f λas=>cQ as λa'=>cK (f∈k.fns)&&Ku a f&&bf f&&noStar a'&&wG k r N a a'
 |.cmp d r e,N,a,v=>qF v λa' b c=>cK (d.op=b)&&!L4 b c&&wG k r N a a'&&bo k e N a c
abbrev BX(a:Bool)(c:lg)(k:lg->Bool):Bool:=match a,c with|true,.UnaryOp .Not e _=>k e|false,e=>k e|_,_=>cc
def wH(h:BX a c k=bD):∃e p,(c=if a=bD then .UnaryOp .Not e p else e)/\k e=bD:=by
 unfold BX at h;split at h
 .show⟨_,_,rfl,h⟩
 .show⟨_,⟨0,0,0,0⟩,rfl,h⟩
 .cases h
mutual
noncomputable def sV(k:Ck):S->List Str->LU->L5->Bool
 |.set i e,N,d,s=>jU s λt v=>E2 t λx p=>cK (N[i]?=a5 x)&&lD d x&&cK (d.kind=.function)&&bo k e N d v&&(dh v||QO d x p.line v||(match v with|.ListComp _ _ _ _=>bD|_=>cc))&&(match e with|.comp _ _ _ _ _ _=>bD|_=>dh v)
 |.ND is e,N,d,s=>jU s λt v=>uO t λ_=>PH bD N d bD is t&&dh v&&ET v&&bo k e N d v
 |.put i a b,N,d,s=>jU s λt l=>jR t λo a'=>a_ o λx=>cK (N[i]?=a5 x)&&f_ d x&&bf x&&dh l&&eO a'&&bo k a N d a'&&bo k b N d l
 |.app i e,N,d,s=>jT s λc=>d_ c λo m h as w=>a_ o λx=>cQ as λa=>cK (m="append")&&cK (N[i]?=a5 x)&&f_ d x&&bf x&&(h.endLine==w.line)&&noStar a&&bo k e N d a
 |.ext i e,N,d,s=>jT s λc=>d_ c λo m h as w=>a_ o λx=>cQ as λa=>cK (m="extend")&&cK (N[i]?=a5 x)&&f_ d x&&bf x&&(h.endLine==w.line)&&noStar a&&bo k e N d a
 |.bad,_,_,_=>bD
 |.newD i,N,d,s=>jU s λt v=>a_ t λx=>BP v&&cK (N[i]?=a5 x)&&lD d x
 |.putD i a b,N,d,s=>jU s λt l=>jR t λo a'=>a_ o λx=>cK (N[i]?=a5 x)&&f_ d x&&bf x&&dh l&&eO a'&&bo k a N d a'&&bo k b N d l
 |.LA i a e,N,d,s=>jT s λc=>d_ c λo m h as w=>jR o λD a'=>a_ D λx=>cQ as λb=>cK (m="append")&&cK (N[i]?=a5 x)&&f_ d x&&bf x&&eO a'&&(h.endLine==w.line)&&noStar b&&bo k a N d a'&&bo k e N d b&&UM e
 |.aug sub i a e,N,d,s=>y8 s λt G b=>jR t λo a'=>a_ o λx=>cK (G=if sub=bD then .Sub else .Add)&&cK (N[i]?=a5 x)&&f_ d x&&bf x&&eO a'&&bo k a N d a'&&bo k e N d b&&UM e
 |.RC _,_,_,_=>cc
 |.exp e,N,d,s=>jT s λq=>dh q&&bo k e N d q
 |.ret e,N,d,s=>qH s λv=>E3 v λq=>bo k e N d q
 |.K3 r,N,d,s=>qH s λv=>E3 v λq=>wG k r N d q
 |.K4 H f es a b,N,d,s=>uR s λA a' l=>BX H A (λq=>N' k f es N d q)&&dC k a N d a'&&dC k b N d l
 |.ins i I J,N,d,s=>jT s λc=>d_ c λo m h as w=>a_ o λx=>jS as λa b=>cK (m="insert")&&cK (N[i]?=a5 x)&&f_ d x&&bf x&&(h.endLine==w.line)&&noStar a&&noStar b&&bo k I N d a&&bo k J N d b
 |.Mp,N,d,s=>qH s λv=>v.isNone
 |.ite c a b,N,d,s=>uR s λA a' l=>bo k c N d A&&dC k a N d a'&&dC k b N d l
 |.Jy t is L src body,N,d,s=>y9 s λC u B=>PH t N d bD is C&&sF u&&(match gb d C L u with
    |some as=>aY k src N d as
    |none=>cc)&&dC k body N d B
 |.N7 c body,N,d,s=>E4 s λA B=>bo k c N d A&&dC k body N d B
 |.brk,_,_,_=>cc
 |.cnt,_,_,_=>cc
 |.Mq _,_,_,_=>cc
 |.Nk f es,N,d,s=>jT s λv=>N' k f es N d v
 |.Nl i c f es g O x Q j m,N,d,s=>y6 s λb T=>y7 T λt n Y=>E1 b λy v=>E1 Y λz v2=>(isNm t x&&isNm v2 n&&dh v&&Y3 k c f es g O N d v)&&(Q.all λcl=>cK ((cl,x)∈k.xe))&&(cK (k.xe.any λp=>cK (p.2=x))&&Ku d x&&bf x)&&(cK (N[i]?=a5 y)&&lD d y&&cK (N[j]?=a5 n)&&cK (d.names.lookup n=a5 .local)&&bf n&&cK (N[m]?=a5 z)&&lD d z)
 |.Nj c e,N,d,s=>y4 s λr=>yW r c λas=>cQ as λa=>cK (c∈k.xc)&&Ku d c&&bf c&&noStar a&&bo k e N d a
 |.RF,_,_,_=>cc
noncomputable def dC(k:Ck):List S->List Str->LU->List L5->Bool
 |[],_,_,a=>a.isEmpty
 |s::ss,N,b,a=>match a with
  |s'::a=>sV k s N b s'&&dC k ss N b a
  |[]=>cc
end
section
variable{ck:Ck}{Γ:Tab}{C:Ct}{d:Nat}{X:Cx}
def lJ(h:lD a x=bD):Loc a x:=by
 unfold lD at h;simp only[Lx,ŀ]at h;show h
def fh(h:dh v=bD):O6 v t a env=pure cc:=by
 cases v<;>first|rfl|cases h
def pk(h:dh v=bD):QX [t] v a env=pure cc:=by
 rw[QX];show fh h
def BY(h:eO i=bD):∀a b new,ĳ i a b new=(do LQ [new,a,b] (TF a b new);Wx [new,a,b] [];pure .next):=by
 intro a b new;cases i<;>first|rfl|cases h
def uS(h:eO i=bD):∀v,Sl (.Subscript o i p) env v=(do
   let a <-LQ [v] (uk o env)
   let b <-LQ [v,a] (uk i env)
   Wr p
   LQ [v,a,b] (TF a b v)
   Wx [v,a,b] []):=by
 intro v;cases i<;>first|rfl|cases h
structure Gs(ck:Ck)(Γ:Tab)(C:Ct)(d:Nat)(X:Cx):Prop where
 gd:Gd ck Γ C d X
 nd:X.N.Nodup
 fn:∀x,X.fn x=bD
 po:Xz (eh X.prog X.w) X.A X.env X.xe
 kd:X.env.scope.kind=.function
 xs:O0 ck X.K X.mg
 xl:∀c H',C.xw (.str c) H'->∀C' T H pins σ s e s',PySem.W.nsIn X.K i3 c=a5 (a5 (.ref C'))->Inv X pins σ H s->bS X.prog X.w X.stack H s e C' T .none H' s'->X.xe (.ref e) s'
 sk:X.stack=X.env::X.outer/\X.env.frame=a5 X.env.locals
 ex:X.ex=[]
def uT(g:Gd ck Γ C d X)(h:(match gb X.env.scope i j b with|some as=>aY ck src X.N X.env.scope as|none=>cc)=bD):PI X i b (Nm C j (ba Γ src)):=by
 split at h
 .rename_i as c;show CM g c (jD src X _ g h) (λa e=>by
   subst e;cases src with
   |nil=>simp[aY]at h
   |cons f k =>
    cases k with
    |nil =>
     simp only[aY,cb]at h;show⟨f,rfl,bz f X _ g h.1.2⟩
    |cons _ _=>simp[aY]at h) (c7 h)
 .cases h
def lK{pos p a:Pos}(hk:X.env.scope.kind=.function):O6 (.ListComp elt gens s pos) (a5 (.Name x p)) a.line X.env=pure (QO X.env.scope x p.line (.ListComp elt gens s pos)):=by
 have b:X.env.blockKind=.function:=by
  unfold Env.blockKind;rw[hk];rfl
 change(pure (X.env.blockKind==.function&&X.env.kindOf x==a5 .local&&p.line==pos.line&&!(s.names.any λ(n,k)=>n==x&&(k==.local||k==.cell))):Sem Bool)=_;rw[b];unfold QO;congr 1
 have:(X.env.kindOf x==a5 NameKind.local)=cK (X.env.scope.names.lookup x=a5 .local):=by
  unfold Env.kindOf;rw[JR];simp
 rw[this];rfl
def E5{src cond:List E}(G:Gs ck Γ C d X)(l:X.N[i]?=a5 x)(A:lD X.env.scope x=bD)
  (h:bo ck (.comp n t m src cond e) X.N X.env.scope (.ListComp elt [⟨o,a,b,0⟩] scope pos)=bD) (ns:Nat->Bool) (q:∀j,ns j=bD->j≠i) :
  L2.PS X (.Assign [.Name x p] (.ListComp elt [⟨o,a,b,0⟩] scope pos) Mj) (JL C ns (ev Γ (.comp n t m src cond e) >>= λr=>dG i r >>= λ_=>pure .nx)):=by
 have g:=G.gd;have u:=bz (.comp n t m src cond e) X _ g h;cases f:QO X.env.scope x p.line (.ListComp elt [⟨o,a,b,0⟩] scope pos) with
 |false=>show CK q G.nd l (lJ A) (.inl (G.fn x)) u (by rw[lK G.kd,f])
 |true =>
  have hl:X.env.scope.names.lookup x=a5 .local:=by
   simp only[QO,cb,ŀ]at f;show f.1.1
  have⟨Y4,Z8,Wd,Y5,UN,p',B,v⟩:=jB h;cases B;clear h u;simp only[cb,ŀ]at v;obtain⟨⟨⟨⟨⟨⟨⟨J,L⟩,O⟩,T⟩,Y⟩,h6⟩,c⟩,h8⟩:=v;subst J;have S:=xP (X:=X) rfl (nJ _ _) L;show EH q S g.calm G.nd l hl (uT g Y) (λD s H ex=>uP (fa:=cc) g.calm g.K S.nd (λz=>nomatch z) O)
   (λD s H ex=>by
    cases b with
    |nil =>
     cases cond with
     |nil=>show λpins s σ H Q I ⟨y,k,e2,ok,w⟩=>t9 pins s σ H Q I (by subst k e2;rw[show bh Γ []=pure bD from rfl,ao]at w;show w y rfl rfl ok (Nx.refl y))
     |cons _ _=>simp[aY]at c
    |cons c1 cs =>
     cases cs with
     |nil =>
      cases cond with
      |nil=>simp[aY]at c
      |cons k JT =>
       cases JT with
       |nil =>
        simp only[aY,cb]at c;show t_ (lH k (Kg X _ scope D s H ex) c1 (g.cx _ _ _ _ _ _) c.1.2)
       |cons _ _=>simp[aY]at c
     |cons _ _=>simp at h6)
   (λD s H ex=>bz e (Kg X _ scope D s H ex) elt (g.cx _ _ _ _ _ _) h8) (by rw[lK G.kd,f]) (sN T)
def nN(G:Gs ck Γ C d X)(h:N' ck f es X.N X.env.scope v=bD):PR X C v (ba Γ es >>= λrs=>aC rs >>= λ_=>bK Γ f (rs.map (·.2)))/\dh v=bD:=by
 have⟨as,p2,g,rfl,z⟩:=dW h;simp only[cb,ŀ,nH]at z;obtain⟨⟨⟨⟨i,j⟩,k⟩,l⟩,a⟩:=z;have b:=c7 a;have⟨u,fa,x,ps,m,n,o,p,q,r⟩:=(G.gd.fns _ i).ex;cases as with
 |nil=>cases l
 |cons s c =>
  have st:=a9 (env:=X.env) (es:=c) (b s (by simp));have sn:=(bq (pos:=g) (env:=X.env) (es:=c) λe t=>b e (by simp[t])).1;show⟨EN G.gd.P G.gd.w G.gd.K rfl q r m G.gd.room (cC j) n o p (aF k).1 (jD es X.Ll _ (Gd.Ll G.gd) a) st sn,rfl⟩
theorem E6(G:Gs ck Γ C d X):∀(r:RE) (v:lg),wG ck r X.N X.env.scope v=bD->PR X C v (LZ Γ r)
 |.call f es,v,h=>(nN G h).1
 |.arg f r,v,h=>by
  have⟨as,p2,x,rfl,z⟩:=dW h;have⟨a',rfl,z⟩:=aN z;have z:(cK (f∈ck.fns)&&Ku X.env.scope f&&bf f&&noStar a'&&wG ck r X.N X.env.scope a')=bD:=z;simp only[cb,ŀ]at z;obtain⟨⟨⟨⟨j,a⟩,b⟩,c⟩,k⟩:=z;have⟨y,fa,A,ps,l,m,n,o,q,s⟩:=(G.gd.fns _ j).ex;show G3 G.gd.P G.gd.w G.gd.K rfl q s l G.gd.room (cC a) m n o (aF b).1 (E6 G r _ k) (a9 (es:=[]) c)
 |.cmp t r e,v,h=>by
  have⟨a',g,i,p,rfl,z⟩:=fF h;have z:(cK (t.op=g)&&!L4 g i&&wG ck r X.N X.env.scope a'&&bo ck e X.N X.env.scope i)=bD:=z;simp only[cb,ŀ,nH]at z;obtain⟨⟨⟨rfl,a⟩,b⟩,c⟩:=z;show G4 G.gd.P G.gd.w G.gd.K G.gd.u (E6 G r _ b) (bz e X.Ll _ (Gd.Ll G.gd) c) a
def y_(G:Gs ck Γ C d X)(h:sV ck (.K3 r) X.N X.env.scope s'=bD):L2.PS X s' (JL C (NF (.K3 r)) (exec Γ (.K3 r))):=by
 have⟨v,p,rfl,a⟩:=ie h;have⟨c,rfl,b⟩:=nL a;show EO (E6 G r _ b) G.xl
def za(G:Gs ck Γ C d X)(h:BX g i (λk=>N' ck f es X.N X.env.scope k)=bD)
  (l:J6 X a' (JL C (Kr a) (execs Γ a))) (m:J6 X n (JL C (Kr b) (execs Γ b))):L2.PS X (.If i a' n p) (JL C (NF (.K4 g f es a b)) (exec Γ (.K4 g f es a b))):=by
 have⟨e,p2,o,z⟩:=wH h;have q:=(nN G z).1;obtain⟨as,r,s,rfl,_⟩:=dW z;show ER q (λ_=>rfl) o G.xl (J6.weak l λD σ H z=>jz (λj c=>(t5.mp (show(Kr a j&&Kr b j)=bD from c)).1) z) (J6.weak m λD σ H z=>jz (λj c=>(t5.mp (show(Kr a j&&Kr b j)=bD from c)).2) z)
def BZ(G:Gs ck Γ C d X)(h:sV ck (.ins i f g) X.N X.env.scope s'=bD):L2.PS X s' (JL C (NF (.ins i f g)) (exec Γ (.ins i f g))):=by
 have⟨c,H,rfl,p⟩:=du h;have⟨o,m,j,as,q,rfl,r⟩:=bF p;have⟨x,I,rfl,s⟩:=aq r;have⟨a,b,rfl,k⟩:=cA s;simp only[cb,ŀ]at k;obtain⟨⟨⟨⟨⟨⟨⟨⟨rfl,t⟩,u⟩,v⟩,w⟩,l⟩,n⟩,y⟩,z⟩:=k;have⟨A,B⟩:=aF v;have D:=bq (pos:=q) (env:=X.env) (es:=[a,b]) λe he=>by
  rcases d4.mp he with rfl|he
  .show l
  .simp at he;subst he;show n
 show G5 G.gd.K t (cB u) A B (bz f X _ G.gd y) (bz g X _ G.gd z) (by rw[D.2];rfl) w (a9 l) (a9 (es:=[]) n)
def B0(G:Gs ck Γ C d X)(h:sV ck (.Nk f es) X.N X.env.scope s'=bD):L2.PS X s' (JL C (NF (.Nk f es)) (exec Γ (.Nk f es))):=by
 have⟨v,p,rfl,z⟩:=du h;have⟨a,b⟩:=nN G z;show G0 a (fh b) G.xl
def B1(G:Gs ck Γ C d X)(h:sV ck (.Nl i c f es g l x k j m) X.N X.env.scope s'=bD):L2.PS X s' (JL C (NF (.Nl i c f es g l x k j m)) (exec Γ (.Nl i c f es g l x k j m))):=by
 have⟨b,hd,p,rfl,r⟩:=sQ h;have⟨t0,n,s,YZ,rfl,t⟩:=sR r;have⟨y,p1,v,p4,rfl,u⟩:=nK t;have⟨z,p6,v2,V7,rfl,A⟩:=nK u;clear h r t u;simp only[cb,ŀ]at A;obtain⟨⟨⟨⟨⟨⟨D,H⟩,I⟩,a⟩,b1⟩,⟨⟨s,b3⟩,b4⟩⟩,⟨⟨⟨⟨⟨⟨J,L⟩,O⟩,Q⟩,B⟩,T⟩,Y⟩⟩:=A;have⟨p5,rfl⟩:=gB D;have⟨p9,rfl⟩:=gB H;have⟨q0,Y6,e0⟩:=SF.mp s;have⟨Dc,r1,r2⟩:=G.xs.xe x ⟨q0,Y6,Ņ e0⟩;have o:∃q,PR X C v q/\exec Γ (.Nl i c f es g l x k j m)=q >>= ju k i j m:=by
  match c,a with
  |[],a=>show⟨_,(nN G a).1,rfl⟩
  |[c],a =>
   have⟨c',a',b',p3,rfl,w⟩:=nF a;simp only[cb]at w;show⟨_,GZ (lH c X.Ll _ (Gd.Ll G.gd) w.1.1) (nN G w.1.2).1 (nN G w.2).1,rfl⟩
  |_::_::_,a=>cases a
 have⟨q,o,e1⟩:=o;rw[e1];show G1 (λn e=>by have e:(cK (n≠i)&&cK (n≠m)&&cK (n≠j))=bD:=e;simpa[and_assoc] using e) G.nd J (lJ L) (G.fn _) O Q T (lJ Y) (G.fn _) G.gd.K o (fh I) G.sk G.ex (cC b3) r1 (aF b4).1 (λcl MO Cc e=>r2 cl (Ņ (i7.mp b1 cl MO)) Cc e) (aF B).1 (aF B).2
def B3(G:Gs ck Γ C d X)(h:sV ck (.Nj c e) X.N X.env.scope s'=bD):L2.PS X s' (JL C (NF (.Nj c e)) (exec Γ (.Nj c e))):=by
 have⟨r,t,rfl,f⟩:=sO h;have⟨as,u,p2,rfl,g⟩:=dW f;have⟨a,rfl,b⟩:=aN g;simp only[cb,ŀ]at b;obtain⟨⟨⟨⟨i,j⟩,k⟩,l⟩,m⟩:=b;have⟨n,o,p,q⟩:=G.xs.xc _ i;show GV G.gd.calm (cC j) o (aF k).1 q (bz e X a G.gd m) (a9 (es:=[]) l) λH' w pins σ s e s' I F=>G.xl _ H' w n b8 H' pins σ s e s' p I F
mutual
theorem IX:∀(s:S) (X:Cx) (s':L5),Gs ck Γ C d X->sV ck s X.N X.env.scope s'=bD->L2.PS X s' (JL C (NF s) (exec Γ s))
 |.set i e,X,s',G,h=>by
  have⟨t,v,p1,rfl,k⟩:=dw h;have⟨x,p,rfl,l⟩:=wD k;clear h k;have h:=l;simp only[cb,ŀ]at h;obtain⟨⟨⟨⟨⟨y,A⟩,J⟩,q⟩,L⟩,O⟩:=h;have Ke:∀j,NF (.set i e) j=bD->j≠i:=λj Q=>Ņ (show cK (j≠i)=bD from Q);by_cases hc:dh v=bD
  .show CK Ke G.nd y (lJ A) (.inl (G.fn x)) (bz e X v G.gd q) (fh hc)
  .cases e with
   |comp n t ik src cond e =>
    obtain⟨elt,tg,ac,ag,scope,p3,rfl,_⟩:=jB q;show E5 G y A q _ Ke
   |_=>show absurd O hc
 |.ND is e,X,s',G,h=>by
  have⟨t,v,p1,rfl,k⟩:=dw h;have⟨es,kk,p,rfl,l⟩:=lF k;clear h k;have h:=l;simp only[cb]at h;obtain⟨⟨⟨y,A⟩,J⟩,q⟩:=h;show EI (λj Q=>Ņ (show cK (j∉is)=bD from Q)) (bz e X v G.gd q) (uP (fa:=bD) G.gd.calm G.gd.K G.nd (λ_=>G.fn) y) (pk A) ?_ rfl;cases v<;>first|rfl|cases J
 |.put i a b,X,s',G,h=>by
  have⟨t,v,p,rfl,k⟩:=dw h;have⟨o,a',p1,rfl,l⟩:=dq k;have⟨x,px,rfl,T⟩:=aq l;simp only[cb,ŀ]at T;obtain⟨⟨⟨⟨⟨⟨y,A⟩,J⟩,q⟩,L⟩,O⟩,h7⟩:=T;have⟨Y,q2⟩:=aF J;show GU G.gd.P G.gd.w G.gd.K G.gd.u y (cB A) Y q2 (bz b X _ G.gd h7) (bz a X _ G.gd O) (pk q) rfl (uS L)
 |.app i e,X,s',G,h=>by
  have⟨c,p0,rfl,k⟩:=du h;have⟨o,m,ab,as,G',rfl,l⟩:=bF k;have⟨x,px,rfl,T⟩:=aq l;have⟨a,rfl,z4⟩:=aN T;simp only[cb,ŀ]at z4;obtain⟨⟨⟨⟨⟨⟨rfl,y⟩,A⟩,J⟩,q⟩,L⟩,O⟩:=z4;have⟨Y,q2⟩:=aF J;have st:=a9 (env:=X.env) (es:=[]) L;have sa:=(bq (pos:=G') (env:=X.env) (es:=[a]) λe he=>by simp at he;subst he;show L).2;show GR G.gd.K y (cB A) Y q2 (bz e X _ G.gd O) ?_ q st;rw[sa];rfl
 |.ext i e,X,s',G,h=>by
  have⟨c,p0,rfl,k⟩:=du h;have⟨o,m,ab,as,G',rfl,l⟩:=bF k;have⟨x,px,rfl,T⟩:=aq l;have⟨a,rfl,z4⟩:=aN T;simp only[cb,ŀ]at z4;obtain⟨⟨⟨⟨⟨⟨rfl,y⟩,A⟩,J⟩,q⟩,L⟩,O⟩:=z4;have⟨Y,q2⟩:=aF J;have st:=a9 (env:=X.env) (es:=[]) L;have sa:=(bq (pos:=G') (env:=X.env) (es:=[a]) λe he=>by simp at he;subst he;show L).2;show GS G.gd.K y (cB A) Y q2 (bz e X _ G.gd O) ?_ q st;rw[sa];rfl
 |.bad,X,s',G,h=>λpins sh σ H D I ⟨_,_,_,_,w⟩=>(bp.mp w).elim
 |.newD i,X,s',G,h=>by
  have⟨t,v,p1,rfl,k⟩:=dw h;have⟨x,p,rfl,l⟩:=aq k;clear h k;have h:=l;simp only[cb,ŀ]at h;have⟨p2,rfl⟩:=nG h.1.1;show EK (λj Q=>Ņ (show cK (j≠i)=bD from Q)) G.nd h.1.2 (lJ h.2) (.inl (G.fn _)) (fh rfl)
 |.putD i a b,X,s',G,h=>by
  have⟨t,v,p,rfl,k⟩:=dw h;have⟨o,a',p1,rfl,l⟩:=dq k;have⟨x,px,rfl,T⟩:=aq l;simp only[cb,ŀ]at T;obtain⟨⟨⟨⟨⟨⟨y,A⟩,J⟩,q⟩,L⟩,O⟩,h7⟩:=T;have⟨Y,q2⟩:=aF J;show EL G.gd.u y (cB A) Y q2 (bz b X _ G.gd h7) (bz a X _ G.gd O) (pk q) rfl (uS L)
 |.LA i a e,X,s',G,h=>by
  have⟨c,p0,rfl,k⟩:=du h;have⟨o,m,ab,as,G',rfl,l⟩:=bF k;have⟨o',a',p1,rfl,T⟩:=dq l;have⟨x,px,rfl,z4⟩:=aq T;have⟨b,rfl,z5⟩:=aN z4;simp only[cb,ŀ]at z5;obtain⟨⟨⟨⟨⟨⟨⟨⟨⟨rfl,y⟩,A⟩,J⟩,q⟩,L⟩,O⟩,h7⟩,h8⟩,h9⟩:=z5;have ha:=Ha (C:=C) (Γ:=Γ) (d:=d) (ck:=ck) G.gd h9 h8;have⟨Y,q2⟩:=aF J;have st:=a9 (env:=X.env) (es:=[]) O;have sa:=(bq (pos:=G') (env:=X.env) (es:=[b]) λe he=>by simp at he;subst he;show O).2;show EM G.gd.K G.gd.u y (cB A) Y q2 ha (bz a X _ G.gd h7) (qG q) ?_ L st;rw[sa];rfl
 |.aug sub i a e,X,s',G,h=>by
  have⟨t,op,b,p,rfl,B⟩:=sT h;clear h;have h:=B;have⟨o,a',p1,rfl,k⟩:=dq h;have⟨x,px,rfl,l⟩:=aq k;simp only[cb,ŀ]at l;obtain⟨⟨⟨⟨⟨⟨⟨rfl,y⟩,A⟩,J⟩,q⟩,L⟩,O⟩,h7⟩:=l;have ha:=Ha (C:=C) (Γ:=Γ) (d:=d) (ck:=ck) G.gd h7 O;have⟨Y,q2⟩:=aF J;show GX y (cB A) Y q2 ha (bz a X _ G.gd L) (BY q)
 |.RC i,X,s',G,h=>absurd (show cc=bD from h) i0
 |.exp e,X,s',G,h=>by
  have⟨e',p,rfl,B⟩:=du h;clear h;have h:=B;simp only[cb]at h;show GL (bz e X _ G.gd h.2) (fh h.1)
 |.ret e,X,s',G,h=>by
  have⟨v,p,rfl,B⟩:=ie h;have⟨e',rfl,k⟩:=nL B;clear h B;have h:=k;show GN (bz e X _ G.gd h)
 |.Mp,X,s',G,h=>by
  have⟨v,p,rfl,B⟩:=ie h;cases v with
  |none=>show EG
  |some _=>cases B
 |.ite c a b,X,s',G,h=>by
  have⟨c',a',b',p,rfl,B⟩:=lI h;clear h;have h:=B;simp only[cb]at h;have ha:=i_ a X _ G h.1.2;have hb:=i_ b X _ G h.2;show GO (lH c X _ G.gd h.1.1) (J6.weak ha λD σ H z=>jz (λj Q=>(t5.mp (show(Kr a j&&Kr b j)=bD from Q)).1) z) (J6.weak hb λD σ H z=>jz (λj Q=>(t5.mp (show(Kr a j&&Kr b j)=bD from Q)).2) z)
 |.Jy t is ik src body,X,s',G,h=>by
  have⟨tg,ac,LG,p,rfl,B⟩:=sU h;clear h;have h:=B;rw[cb,cb,cb]at h;show GQ G.po G.gd.calm (uT G.gd h.1.2) (uP (fa:=bD) G.gd.calm G.gd.K G.nd (λ_=>G.fn) h.1.1.1) (i_ body X _ G h.2) (sN h.1.1.2) λj Q=>by have Q:(cK (j∉is)&&Kr body j)=bD:=Q;simpa using Q
 |.N7 c body,X,s',G,h=>by
  have⟨c',LG,p,rfl,B⟩:=wF h;clear h;have h:=B;simp only[cb]at h;show GP G.po (lH c X _ G.gd h.1) (i_ body X _ G h.2)
 |.brk,X,s',G,h=>absurd (show cc=bD from h) i0
 |.cnt,X,s',G,h=>absurd (show cc=bD from h) i0
 |.Mq is,X,s',G,h=>absurd (show cc=bD from h) i0
 |.Nk f es,X,s',G,h=>B0 G h
 |.Nl i c f es g KW x cs j m,X,s',G,h=>B1 G h
 |.K3 r,X,s',G,h=>y_ G h
 |.K4 ng f es a b,X,s',G,h=>by
  have⟨c',a',b',p,rfl,B⟩:=lI h;clear h;have h:=B;simp only[cb]at h;show za G h.1.1 (i_ a X _ G h.1.2) (i_ b X _ G h.2)
 |.ins i e1 e2,X,s',G,h=>BZ G h
 |.Nj c e,X,s',G,h=>B3 G h
 |.RF,X,s',G,h=>absurd (show cc=bD from h) i0
theorem i_:∀(ss:List S) (X:Cx) (a:List L5),Gs ck Γ C d X->dC ck ss X.N X.env.scope a=bD->J6 X a (JL C (Kr ss) (execs Γ ss))
 |[],X,a,G,h=>by
  cases a with
  |nil=>show GK
  |cons _ _=>simp[dC]at h
 |s::ss,X,a,G,h=>by
  cases a with
  |nil=>simp[dC]at h
  |cons s' a =>
   simp only[dC,cb]at h;have c:=IX s X s' G h.1;have e:=i_ ss X a G h.2;show EF (PS.weak c λD σ H z=>jz (λj b=>by simp only[Kr,cb]at b;show b.1) z) (J6.weak e λD σ H z=>jz (λj b=>by simp only[Kr,cb]at b;show b.2) z)
end
end
section
variable{ck:Ck}{Γ:Tab}{d:Nat}{P:uv}{w:wq}{K:PySem.W.Frag}{mg:Str->Option dt}{base:DD}
def jE{n i:Nat}(h:(start us n)[i]?=a5 (a5 (k,u))):us[i]?=a5 u/\k=if JG u=bD then .loc else .any:=by
 unfold start at h;by_cases a:i<us.length
 .rw[t6 (by simpa using a),ki]at h;rw[td a]at h ⊢;simp only[VL,To,WQ]at h;have⟨b,c⟩:=h;subst c;show⟨rfl,b.symm⟩
 .rw[nc (by simp;lia),JI]at h;split at h<;>cases h
def dy{i:Nat}(h:vs[i]?=a5 v):(L2.start N vs)[i]?=a5 (a5 v):=by
 unfold L2.start;have a:i<vs.length:=(dV.mp h).1;rw[t6 (by simpa using a),ki,h];rfl
def zb(p:∀a,c a->KJ H a)(h:au ⟨P,w,K,H,c,λ_=>False,q⟩ c H us vs)(s:N.length=n):Ok ⟨P,w,K,H,c,λ_=>False,q⟩ ⟨λ_=>False,H,L2.start N vs,start us n,λ_=>[]⟩:=by
 have f:∀(j:Nat) (u:U),(start us n)[j]?≠a5 (a5 (.Je,u)):=λj u e=>by
  have:=(jE e).2;split at this<;>cases this
 show⟨λa o e _=>e,λa z=>z.elim,λa z=>⟨p a z,λz=>z⟩,λa z=>z.elim,?_,λi k u e=>?_,λi j k k' u u' r hk x g m y A=>?_,⟨λj u r e _=>(f j u e).elim,λi j a ⟨u,_,e,_⟩=>(f i u e).elim,λj a ⟨u,_,e,_⟩=>(f j u e).elim⟩⟩
 .have:=h.len;simp[start,L2.start,s];lia
 .have⟨g,m⟩:=jE e;have⟨v,ev,b⟩:=h.get g;show⟨v,dy ev,?_⟩;subst m;by_cases l:JG u=bD
  .rw[Ł l];show Rep.JG l b
  .rw[ł l];show Rep.mv (.up λa z=>.inl z) b
 .obtain⟨_,t⟩:=jE g;subst t;split at hk<;>cases hk
def pq(h:dg Γ fn us=a5 (.ok (k,u))):us.length=fn.np/\((k=.own\/k=.loc\/k=.any)/\(∃st',execs Γ fn.body (start us fn.ns)=a5 (.ok (.rt k u),st'))\/(k=.loc/\u=.Jm/\∃st',execs Γ fn.body (start us fn.ns)=a5 (.ok .nx,st'))):=by
 unfold dg at h;split at h
 .rename_i hl;show⟨hl,?_⟩;split at h
  .rename_i e;cases h;show .inl ⟨.inl rfl,_,e⟩
  .rename_i e;cases h;show .inl ⟨.inr (.inl rfl),_,e⟩
  .rename_i e;cases h;show .inl ⟨.inr (.inr rfl),_,e⟩
  .rename_i e;cases h;show .inr ⟨rfl,rfl,_,e⟩
  .cases h
  .cases h
 .cases h
def qI(h:dg Γ fn us=a5 (.exc c)):us.length=fn.np/\∃st',execs Γ fn.body (start us fn.ns)=a5 (.ok (.rt .io (.str c)),st'):=by
 unfold dg at h;split at h
 .rename_i hl;show⟨hl,?_⟩;split at h
  .cases h
  .cases h
  .cases h
  .cases h
  .rename_i e;cases h;show⟨_,e⟩
  .cases h
 .cases h
def CP{st:L5}(F:NU K fn.name i st f fd)(S:eL N ps (aV st))(hN:N.length=fn.ns)(LK:ps.length=fn.np)
  (O2:dC ck fn.body N (aV st) (c_ st)=bD) (t:∀x∈bT,mg x=b8) (y:∀g∈ck.fns,BQ P w K mg base d (Γ g) g)
  (Mt:∀p∈ck.gl,∃val v,mg p.1=a5 val/\RelV v val/\∀(C:Ct) S H,Rep C S H p.2 v) (Lh:∀p∈ck.Lh,BR P w K mg base d (Γ p.1) p.1 p.2) (xs:O0 ck K mg):iE P w K mg base (N1 P w) (d+1) f fd ps (spT P w K (dg Γ fn) fn.np):=by
 have⟨oc,od,kV,ab,pm,an,J,ct,Pc,rfl,lk,JM⟩:=F.ex;show CD lk JM S (λvs H Q E h=>h.1.trans LK.symm) λA outer s H vs Q E L h=>?_;have⟨hl,us,r,q,O,Y7,B,b⟩:=h;have Py:=L.un;let l:Ct:=⟨P,w,K,H,q,λ_=>False,λu H'=>∃c,u=.str c/\∀j,PySem.W.nsIn K i3 c=a5 (a5 (.ref j))->E (.ref j) b8 H'⟩
 have D:(MZ P w K H q).Eqv l:=⟨rfl,rfl,rfl⟩
 have m:l.Eqv (MZ P w K H q):=⟨rfl,rfl,rfl⟩
 have G:Gs ck Γ l d (pS (N1 P w) P w K mg base N i (aV st) f J A outer s H E) :=
  ⟨⟨rfl,rfl,rfl,by change(A.deeper (Ue i (aV st) s.heap.objs.size f J)).units+60<KX;lia,rfl,L,t,y,λp hp=>let ⟨val,v,D,m,q3⟩:=Mt p hp;⟨val,v,D,m,q3 _⟩,Lh,xs⟩,S.nd,λ_=>rfl,PassesOwn.leaving,S.kind,xs,
   λc H' ⟨c',e1,hE⟩ j T H2 pins σ s2 e s' hm I F=>by
    cases e1;show F.leave I.ok.frames rfl I.stack I.kg λT' LN F'=>⟨e,j,T',H',rfl,F'.down I rfl rfl rfl,hE j hm⟩,⟨rfl,rfl⟩,rfl⟩
 show⟨_,i_ fn.body _ _ G O2,⟨λ_=>False,H,L2.start N vs,start us fn.ns,λ_=>[]⟩,rfl,rfl,zb Y7 (B.cg D) hN,?_⟩;cases r with
 |exc c =>
  obtain⟨_,st',e⟩:=qI O;show⟨_,st',e,λcf Y ok n kp=>⟨c,rfl,λj hC=>b j cf.H hC λa o z=>ok.same a o z λz=>z⟩⟩
 |ok x =>
 have⟨k,u⟩:=x;have⟨hk,b⟩:=b;obtain⟨_,UO⟩:=pq O;have mk:∀(c:Cf),Ok l c->∀v,ED l c k u v->Back (MZ P w K H q) H c.H c.S k u v:=λc ok v r=>by
  show⟨λa o e=>ok.same a o e λz=>z,λa z=>ok.Lu a z,λe=>?_,λe=>?_,λe=>?_⟩
  .subst e;have⟨r0,e,h1,h2,h3,h4⟩:=r;show⟨r0,e,h1,h2,h4.cg m⟩
  .subst e;show Rep.cg m r
  .subst e;show Rep.cg m r
 rcases UO with⟨_,st',e⟩|⟨rfl,rfl,st',e⟩
 .rcases hk with rfl|rfl|rfl<;>show⟨_,st',e,λc Y ok n kp v r=>b v c.H c.S (mk c ok v r)⟩
 .show⟨_,st',e,λc Y ok n kp=>b .Jm c.H c.S (mk c ok .Jm rfl)⟩
def ig(h:(cU is us n)[i]?=a5 (a5 (k,u))):us[i]?=a5 u/\k=if i∈is then .io else if JG u=bD then .loc else .any:=by
 unfold cU at h;by_cases a:i<us.length
 .rw[t6 (by simpa using a),ki,Tt]at h;rw[td a]at h ⊢;simp only[VL,To,WQ,Qh]at h;have⟨b,c⟩:=h;subst c;show⟨rfl,b.symm⟩
 .rw[nc (by simp;lia),JI]at h;split at h<;>cases h
def wI(a:ES C C.H₀ is us vs)(s:N.length=n):Ok C ⟨λ_=>False,C.H₀,L2.start N vs,cU is us n,λ_=>[]⟩:=by
 have g:∀(j:Nat) (u:U),(cU is us n)[j]?≠a5 (a5 (.Je,u)):=λj u e=>by
  have:=(ig e).2;split at this
  .cases this
  .split at this<;>cases this
 have rt:∀(j:Nat) (k:Kd) (u:U),k.root=bD->(cU is us n)[j]?=a5 (a5 (k,u))->j∈is/\us[j]?=a5 u:=λj k u hk e=>by
  have⟨f,b⟩:=ig e;show⟨?_,f⟩;by_cases z:j∈is
  .show z
  .rw[ł z]at b;subst b;split at hk<;>cases hk
 show⟨λa o e _=>e,λa z=>z.elim,λx z=>a.par x z,λx z=>⟨a.V9 x z,a.V9 x z⟩,?_,λi k u e=>?_,λi j k k' u u' r hk t f b l m=>?_,⟨λj u r e _=>(g j u e).elim,λi j a ⟨u,_,e,_⟩=>(g i u e).elim,λj a ⟨u,_,e,_⟩=>(g j u e).elim⟩⟩
 .have:=a.len;simp[cU,L2.start,s];lia
 .have⟨f,b⟩:=ig e;by_cases z:i∈is
  .rw[Ł z]at b;subst b;have⟨r,b1,c,b3⟩:=a.io i u z f;show⟨_,dy b1,r,rfl,λz=>z,λz=>(a.par r z).2 c,c,b3⟩
  .rw[ł z]at b;have⟨v,b1,c⟩:=a.any i u z f;show⟨v,dy b1,?_⟩;subst b;by_cases h:JG u=bD
   .rw[Ł h];show Rep.JG h c
   .rw[ł h];show Rep.mv (.up λa z=>.inl z) c
 .have⟨p,y⟩:=rt i k u hk f;have⟨q,A⟩:=rt j k' u' t b;obtain⟨B,b1,_⟩:=a.io i u p y;obtain⟨D,c,_⟩:=a.io j u' q A;rw[dy b1]at l;rw[dy c]at m;cases l;cases m;show a.inj i j _ p q b1 c
theorem uU:∀{is:List Nat}{st:ay}{ws:List U},ON is st=a5 ws->ws.length=is.length/\∀(n i:Nat),is[n]?=a5 i->∃w,ws[n]?=a5 w/\st[i]?=a5 (a5 (.io,w))
 |[],_,_,h=>by cases h;show⟨rfl,λn i e=>by simp at e⟩
 |i::is,st,ws,h=>by
  unfold ON at h;split at h
  .rename_i u c;rw[ez]at h;have⟨ws',h,rfl⟩:=h;have⟨a,b⟩:=uU h;show⟨by simp[a],λn j e=>?_⟩;cases n with
   |zero=>simp at e;subst e;show⟨u,rfl,c⟩
   |succ n=>have⟨w,f,g⟩:=b n j (by simpa using e);show⟨w,by simpa using f,g⟩
  .cases h
def uV(h:gH Γ fn is body us=a5 (.ok r)):us.length=fn.np/\∃f st k u ws,execs Γ body (cU is us fn.ns)=a5 (.ok f,st)/\RG f=a5 (k,u)/\ON is st=a5 ws/\r=(k,.tup (u::ws)):=by
 unfold gH at h;split at h
 .rename_i hl;show⟨hl,?_⟩;split at h
  .rename_i f st e;obtain⟨⟨k,u⟩,a,h⟩:=r3.mp h;rw[ez]at h;have⟨ws,b,c⟩:=h;cases c;show⟨f,st,k,u,ws,e,a,b,rfl⟩
  .cases h
 .cases h
def E7{st:L5}(F:NU K fn.name b st f fd)(S:eL N ps (aV st))(hN:N.length=fn.ns)(LK:ps.length=fn.np)(Ke:∀i∈is,Kr body i=bD)
  (O2:dC ck body N (aV st) (c_ st)=bD) (y:∀x∈bT,mg x=b8) (B:∀g∈ck.fns,BQ P w K mg base d (Γ g) g)
  (Mt:∀p∈ck.gl,∃val v,mg p.1=a5 val/\RelV v val/\∀(C:Ct) S H,Rep C S H p.2 v) (Lh:∀p∈ck.Lh,BR P w K mg base d (Γ p.1) p.1 p.2) (xs:O0 ck K mg):iE P w K mg base Ow (d+1) f fd ps (RT P w K (gH Γ fn is body) fn.np is):=by
 show F.ok S (λvs H Q E h=>h.1.trans LK.symm) (λJ A outer s H vs Q E L h=>?_);have⟨hl,us,k,u,ws,m,IO,JP,hk,D,j⟩:=h;have Py:=L.un;have G:Gs ck Γ (M3 P w K H m IO) d (pS Ow P w K mg base N b (aV st) f J A outer s H E).Ll :=
  ⟨⟨rfl,rfl,rfl,by change(A.deeper (Ue b (aV st) s.heap.objs.size f J)).units+60<KX;lia,rfl,L,y,B,λp hp=>let ⟨val,v,q1,q2,q3⟩:=Mt p hp;⟨val,v,q1,q2,q3 _⟩,Lh,xs⟩,S.nd,λ_=>rfl,PassesOwn.never,S.kind,xs,λ_ _ z=>z.elim,⟨rfl,rfl⟩,rfl⟩
 show⟨_,i_ body _ _ G O2,⟨λ_=>False,H,L2.start N vs,cU is us fn.ns,λ_=>[]⟩,rfl,rfl,wI (C:=M3 P w K H m IO) D hN,?_⟩;obtain⟨_,O,st',k',u',ws',e,o,e2,e3⟩:=uV JP;cases e3;have⟨l1,l2⟩:=uU e2;have T:∀(c:Cf),c.st=st'->Ok (M3 P w K H m IO) c->Kept (Kr body) ⟨λ_=>False,H,L2.start N vs,cU is us fn.ns,λ_=>[]⟩ c->∀v,ED (M3 P w K H m IO) c k u v->CL (M3 P w K H m IO) H c.H c.S is vs ws k u v:=λc q l t v r=>by
  show⟨l.same,λa z=>l.Lu a z,λe=>?_,λe=>?_,l1,λn i r w Y g2 g3=>?_⟩
  .subst e;have⟨r0,e,h1,h2,h3,h4⟩:=r;show⟨r0,e,h1,h2,h4⟩
  .subst e;show r
  .have⟨w',z1,z2⟩:=l2 n i Y;rw[g3]at z1;cases z1;rw[<-q]at z2;obtain⟨v',I,r',y2,_,_,_,y3⟩:=l.sl i _ _ z2;have hi:i∈is:=my Y;rw[t.1 i (Ke i hi)]at I;rw[show(L2.start N vs)[i]?=a5 (a5 (.ref r)) from dy g2]at I;cases I;cases y2;show y3
 show⟨O,st',e,λc q l n t=>?_⟩;cases O with
 |nx=>cases o;show j .Jm c.H c.S (T c q l t .Jm rfl)
 |rt k0 u0=>cases k0<;>first|(cases o;done)|(cases o;show λv r=>j v c.H c.S (T c q l t v r))
 |_=>cases o
abbrev Fn.bd(fn:Fn):List S:=match fn.io with|some (_,b)=>b|none=>fn.body
abbrev RV(fn:Fn):Bool:=match fn.io with|some (is,b)=>is.all λi=>Kr b i|none=>bD
abbrev RW(ck:Ck)(Pg:List Fn):Bool:=ck.fns.all (λg=>Pg.any λfn=>cK (fn.name=g)&&fn.io.isNone)&&ck.Lh.all λp=>Pg.any λfn=>cK (fn.name=p.1)&&cK (fn.io.map (·.1)=a5 p.2)
structure Ld(ck:Ck)(K:PySem.W.Frag)(mg:Str->Option dt)(fn:Fn):Prop where
 ex:∃(qual:Str) (st:L5) (f:d7) (fd:So) (N ps:List Str),NU K fn.name qual st f fd/\mg fn.name=a5 (.ref f)/\Binds K fd ps []/\eL N ps (aV st)/\N.length=fn.ns/\ps.length=fn.np/\dC ck fn.bd N (aV st) (c_ st)=bD/\RV fn=bD
def B4{Pg:List Fn}(a:(Pg.map (·.name)).Nodup)(h:fn∈Pg):Pg.find? (λg=>cK (g.name=fn.name))=a5 fn:=by
 induction Pg with
 |nil=>cases h
 |cons g Pg b =>
  rw[ei,mh]at a;rcases d4.mp h with rfl|h
  .simp
  .rw[Na];have:cK (g.name=fn.name)=cc:=by
    apply Ń;intro z;show a.1 (z▸Zx h)
   rw[this];show b a.2 h
def sW(a:(Pg.map (·.name)).Nodup)(h:fn∈Pg):Jq Pg (d+1) fn.name=jv (Jq Pg d) fn:=by
 funext us
 change(match Pg.find? λg=>cK (g.name=fn.name) with|some fn=>jv (Jq Pg d) fn us|none=>b8)=_;rw[B4 a h]
def nO(h:fn.io=b8):jv Γ fn=dg Γ fn:=by funext us;unfold jv;rw[h]
def wJ(h:fn.io=a5 (is,b)):jv Γ fn=gH Γ fn is b:=by funext us;unfold jv;rw[h]
def uW(O:(Pg.map (·.name)).Nodup)(q:RW ck Pg=bD)(t:∀x∈bT,mg x=b8)(T:∀p∈ck.gl,∃val v,mg p.1=a5 val/\RelV v val/\∀(C:Ct) S H,Rep C S H p.2 v)
  (ld:∀fn∈Pg,Ld ck K mg fn) (xs:O0 ck K mg):∀d,(∀g∈ck.fns,BQ P w K mg base d (Jq Pg d g) g)/\∀p∈ck.Lh,BR P w K mg base d (Jq Pg d p.1) p.1 p.2:=by
 simp only[RW,cb,i7,SF,ŀ]at q;intro d;induction d with
 |zero =>
  show⟨λg I=>?_,λp J=>?_⟩
  .obtain⟨fn,j,rfl,_⟩:=q.1 g I;obtain⟨a,st,f,l,N,ps,F,m,n,S,B,o,_⟩:=(ld fn j).ex;show⟨fn.np,f,l,ps,⟨λvs H Q E h=>h.1.trans o.symm,λA outer s H args us vs Q E _ _ _ _ h=>by obtain⟨_,us,r,_,e,_⟩:=h;cases e⟩,m,F.kp,n,λus k u e=>(by cases e),λus c e=>by cases e⟩
  .obtain⟨fn,j,e,_⟩:=q.2 p J;obtain⟨a,st,f,l,N,ps,F,m,n,S,B,o,_⟩:=(ld fn j).ex;show⟨fn.np,f,l,ps,⟨λvs H Q E h=>h.1.trans o.symm,λA outer s H args us vs Q E _ _ _ _ h=>by obtain⟨_,us,k,u,_,_,_,e,_⟩:=h;cases e⟩,e▸m,F.kp,n,λus k e=>by cases e⟩
 |succ d G =>
  show⟨λg I=>?_,λp J=>?_⟩
  .have⟨fn,j,rfl,i⟩:=q.1 g I;rw[Rk]at i;obtain⟨a,st,f,l,N,ps,F,m,n,S,B,o,D,_⟩:=(ld fn j).ex;rw[sW O j,nO i];rw[show fn.bd=fn.body by unfold Fn.bd;rw[i]]at D;show⟨fn.np,f,l,ps,CP F S B o D t G.1 T G.2 xs,m,F.kp,n,λus k u e=>?_,λus c e=>(qI e).1⟩;have⟨h1,h2⟩:=pq e;show⟨?_,h1⟩;rcases h2 with⟨z,_⟩|⟨z,_⟩
   .show z
   .show .inr (.inl z)
  .have⟨fn,j,e,i⟩:=q.2 p J;rw[ez]at i;obtain⟨⟨is,b⟩,i,Y⟩:=i;have⟨x,y⟩:=p
   dsimp only at e Y
   subst e Y;have⟨a,st,f,l,N,ps,F,m,n,S,B,o,D,L⟩:=(ld fn j).ex;rw[sW O j,wJ i];rw[show fn.bd=b by unfold Fn.bd;rw[i]]at D;unfold RV at L;rw[i]at L;show⟨fn.np,f,l,ps,E7 F S B o (i7.mp L) D t G.1 T G.2 xs,m,F.kp,n,λus r e=>(uV e).1⟩
end
abbrev sX(ns:List Int):U:=.lst (ns.map .int)
theorem nP{S:d7->Prop}:∀(ns:List Int),au C S H (ns.map .int) (ns.map V.int)
 |[]=>rfl
 |n::ns=>⟨_,_,rfl,rfl,nP ns⟩
def sY(h:JN C.K H a (ns.map V.int)):Rep C (KJ H) H (sX ns) (.ref a):=by
 show⟨a,_,rfl,?_,nP ns⟩;rcases h with(h|⟨o,h⟩)|h
 .show .inl ⟨⟨_,h⟩,.inl h⟩
 .show .inl ⟨⟨_,h⟩,.inr ⟨o,h⟩⟩
 .show .inr h
theorem qJ:∀{l:List α},(∀a∈l,f a=g a)->l.filterMap f=l.filterMap g
 |[],_=>rfl
 |a::l,h=>by rw[y1,y1,h a (by simp),qJ λb c=>h b (by simp[c])]
theorem uX:∀(l:List Str) (us:List dt),l.Nodup->us.length=l.length->l.filterMap (λn=>((l.zip us).lookup n).map (n,·))=l.zip us
 |[],_,_,_=>rfl
 |a::l,[],_,h=>nomatch h
 |a::l,u::us,b,h=>by
  rw[mh]at b;have c:=uX l us b.2 (by simpa using h);simp only[Rm,y1,sx,beq_self_eq_true,VL];congr 1
  conv=>rhs;rw[<-c]
  show qJ λn d=>?_;have:(n==a)=cc:=by
   rw[Ň];rintro rfl;show b.1 d
  rw[this]
def zc(l:List Str)(us:List dt)(h:us.length=l.length):l.filter (λn=>((l.zip us).lookup n).isNone)=[]:=by
 rw[M6];intro n hn;induction l generalizing us with
 |nil=>cases hn
 |cons a l b =>
  cases us with
  |nil=>cases h
  |cons u us =>
   simp only[Rm,sx];cases e:n==a with
   |true=>simp
   |false =>
    rcases d4.mp hn with rfl|hn
    .simp at e
    .show b us (by simpa using h) hn
def zd{kV a b c ct:dt}(d:(as.map (·.arg)).Nodup)(hl:us.length=(as.map (·.arg)).length):
  Ĳ (PySem.W.fnOf x q ⟨[],as,b8,[],[],b8,[]⟩ body scope .none kV a b m c ct) ⟨us,[]⟩=pure ((as.map (·.arg)).zip us):=by
 have e:=uX _ us d hl;have f:=zc _ us hl;change(if _ then _ else _)=_;rw[ł (by simp[hl])];have g:∀k:Nat,¬(!(((as.map (·.arg)).take k).filter λn=>(((as.map (·.arg)).zip us).lookup n).isNone).isEmpty)=bD:=λk=>by
  rw[M6.mpr λn h=>M6.mp f n (Zg h)];show i0
 show(ł (g _)).trans ?_;have hz:∀(l:List Str) (i j:Nat),(l.drop i).zip ((b8.getD #[]:Array dt).toList.drop j)=[]:=λl i j=>by rw[show(b8.getD #[]:Array dt).toList=[] from rfl,List.drop_nil,List.zip_nil_right]
 show Eq.trans (ņ (λz=>Bind.bind (ē z _ _) _) (hz _ _ _)) ?_;show ņ (pure:List (Str×dt)->Sem (List (Str×dt))) ((ņ (List.filterMap _) (rr _)).trans e)
structure Me where
 fn:Fn
 i:Nat
 N:List Str
 a:d7
 c:d7
 m:dt
 cr:Obj
abbrev Me.fd(top:Nat->L5)(m:Me):So:=PySem.W.fnOf m.fn.name m.fn.name (gq (top m.i)) (c_ (top m.i)) (aV (top m.i)) .none .none .none m.m b8 (.ref m.c) .none
abbrev Me.fo(top:Nat->L5)(m:Me):Obj:=⟨.type "function",b8,.func (m.fd top),#[]⟩
@[reducible]def Gx:=Obj×List (d7×Obj)
abbrev adr(ms:List Me)(xa:List d7):List d7:=3::(ms.flatMap (λm=>[m.c,m.a])++xa)
abbrev Li(top:Nat->L5)(g:Gx)(ms:List Me):PySem.W.Frag:=(3,g.1)::(ms.flatMap (λm=>[(m.c,m.cr),(m.a,m.fo top)])++g.2)
def uY(top:Nat->L5)(g:Gx)(ms:List Me)(xa:List d7)(h:g.2.map (·.1)=xa):adr ms xa=(Li top g ms).map (·.1):=by
 unfold adr Li;rw[ei,ke,List.map_flatMap,h];rfl
abbrev E8(v:Option (Option dt))(a:d7):Bool:=match v with|some (a5 (.ref b))=>cK (b=a)|_=>cc
def B5(h:E8 v a=bD):v=a5 (a5 (.ref a)):=by
 unfold E8 at h;split at h
 .rw[Ņ h]
 .cases h
abbrev nn(o:Option (Option dt)):Bool:=match o with|some b8=>bD|_=>cc
def Hb(h:nn o=bD):o=a5 b8:=by
 unfold nn at h;split at h
 .rfl
 .cases h
abbrev Hc(p:Arguments)(ps:List Str):Bool:=p.posonlyargs.isEmpty&&p.vararg.isNone&&p.kwonlyargs.isEmpty&&p.kw_defaults.isEmpty&&p.kwarg.isNone&&p.defaults.isEmpty&&cK (p.args.map (·.arg)=ps)
abbrev We(N:List Str)(b:Nat)(a:LU):Bool:=cK (a.kind=.function)&&cK (a.isCoroutine=cc)&&cK (a.isGenerator=cc)&&decide N.Nodup&&(N.take b).all (lD a)&&a.names.all (λy=>cK (y.2≠.free))
abbrev Wf(ck:Ck)(top:Nat->L5)(K:PySem.W.Frag)(m:Me):Bool:=PySem.W.codeIn K (.ref m.c) m.fn.name&&PySem.W.keepIn K (.ref m.a)&&E8 (PySem.W.nsIn K i3 m.fn.name) m.a&&Hc (gq (top m.i)) (m.N.take m.fn.np) &&
 We m.N m.fn.np (aV (top m.i))&&cK (m.N.length=m.fn.ns)&&cK (m.fn.np<=m.fn.ns)&&(dC ck m.fn.bd m.N (aV (top m.i)) (c_ (top m.i))&&RV m.fn)
abbrev Wg(K:PySem.W.Frag)(p:Str×U):Bool:=match p.2,PySem.W.nsIn K i3 p.1 with
 |.int i,a5 (a5 (.int j _))=>cK (i=j)
 |.str i,a5 (a5 (.str j _))=>cK (i=j)
 |_,_=>cc
abbrev Oa(ck:Ck)(top:Nat->L5)(K:PySem.W.Frag)(ms:List Me):Bool:=ms.all (Wf ck top K)&&bT.all (λy=>nn (PySem.W.nsIn K i3 y))&&ck.gl.all (Wg K)&&cK (K.map (·.1)).Nodup
def He{K:PySem.W.Frag}(b:(K.map (·.1)).Nodup)(h:(a,o)∈K):K.lookup a=a5 o:=by
 induction K with
 |nil=>cases h
 |cons p K c =>
  rw[ei,mh]at b;rw[sx];rcases d4.mp h with rfl|h
  .simp
  .have:(a==p.1)=cc:=by
    rw[Ň];rintro rfl;show b.1 (js.mpr ⟨_,h,rfl⟩)
   rw[this];show c b.2 h
section
def CQ(c:Oa ck top (Li top g ms) ms=bD)(h:m∈ms):NU (Li top g ms) m.fn.name m.fn.name (top m.i) m.a (m.fd top)/\PySem.W.nsIn (Li top g ms) i3 m.fn.name=a5 (a5 (.ref m.a)) /\
  (∀us:List dt,us.length=(m.N.take m.fn.np).length->Ĳ (m.fd top) ⟨us,[]⟩=pure ((m.N.take m.fn.np).zip us))/\eL m.N (m.N.take m.fn.np) (aV (top m.i))/\m.N.length=m.fn.ns/\(m.N.take m.fn.np).length=m.fn.np/\(dC ck m.fn.bd m.N (aV (top m.i)) (c_ (top m.i))=bD/\RV m.fn=bD):=by
 simp only[Oa,cb,ŀ]at c;have z:=i7.mp c.1.1.1 m h;simp only[Wf,cb,ŀ]at z;obtain⟨⟨⟨⟨⟨⟨⟨j,k⟩,l⟩,b⟩,d⟩,n⟩,u⟩,o⟩:=z;simp only[We,cb,ŀ]at d;obtain⟨⟨⟨⟨⟨s1,s2⟩,s3⟩,s4⟩,p⟩,q⟩:=d;have r:(Li top g ms).lookup m.a=a5 (m.fo top):=He c.2 (d4.mpr (.inr (LF _ (List.mem_flatMap.mpr ⟨m,h,by simp⟩))));have hl:(m.N.take m.fn.np).length=m.fn.np:=by rw[vl];lia
 show⟨DK r j k,B5 l,λus f=>?_,⟨s1,s2,s3,s4,by rw[hl],λx s=>?_,λy t=>?_⟩,n,hl,o⟩
 .unfold Me.fd;revert b;cases gq (top m.i) with
  |mk v as w A B kw C =>
   intro b;simp only[Hc,cb,D7,Rk,ŀ]at b;obtain⟨⟨⟨⟨⟨⟨rfl,rfl⟩,rfl⟩,rfl⟩,rfl⟩,rfl⟩,e⟩:=b;rw[<-e]at f ⊢;show zd (by rw[e];show(Ì _ _).nodup s4) f
 .have:=i7.mp p x s;simpa[lD] using this
 .have:=i7.mp q y t;simpa using this
def Hf(i:Oa ck top (Li top g ms) ms=bD)(X:(Li top g ms).In h)(G:h.Ns i3 mg)(j:m∈ms):Ld ck (Li top g ms) mg m.fn :=
 let ⟨a,b,c,d,e,f,k⟩:=CQ i j
 ⟨_,_,_,_,_,_,a,PySem.W.mg_of X G b,.all c,d,e,f,k⟩
def E9(c:Oa ck top (Li top g ms) ms=bD)(X:(Li top g ms).In h)(G:h.Ns i3 mg):∀p∈ck.gl,∃val v,mg p.1=a5 val/\RelV v val/\∀(C:Ct) S H,Rep C S H p.2 v:=by
 intro p d;simp only[Oa,cb,ŀ]at c;have z:=i7.mp c.1.2 p d;unfold Wg at z;split at z
 .rename_i i j k a b;obtain rfl:=Ņ z;show⟨_,.int i,PySem.W.mg_of X G b,⟨_,rfl⟩,λ_ _ _=>by rw[a];rfl⟩
 .rename_i i j k a b;obtain rfl:=Ņ z;show⟨_,.str i,PySem.W.mg_of X G b,⟨_,rfl⟩,λ_ _ _=>by rw[a];rfl⟩
 .cases z
end
abbrev ze(K:PySem.W.Frag)(x:Str):Option d7:=match PySem.W.nsIn K i3 x with|some (a5 (.ref C))=>a5 C|_=>b8
abbrev Wh(K:PySem.W.Frag)(D:Str):Option dt:=match PySem.W.nsIn K i3 D with|some (a5 (.ref C))=>a5 (.ref C)|some b8=>if D="ValueError" then a5 (.type "ValueError") else b8|_=>b8
abbrev gY(ck:Ck)(K:PySem.W.Frag):Bool:=ck.xi.all (λp=>match ze K p.1,Wh K p.2.1 with|some C,a5 dv=>fX K C&&(PySem.W.kitOne K (.ref C) dv==a5 p.2.2)|_,_=>cc)&&ck.xe.all λp=>match ze K p.1,ze K p.2 with|some C,a5 D=>PySem.W.exmOne K (.ref C) (.ref D)==a5 bD|_,_=>cc
def jF{K:PySem.W.Frag}(h:ze K x=a5 C):PySem.W.nsIn K i3 x=a5 (a5 (.ref C)):=by
 unfold ze at h;split at h
 .rename_i e;cases h;show e
 .cases h
def Hg{K:PySem.W.Frag}(z:gY ck K=bD)(X:K.In h)(G:h.Ns i3 mg)(D:Str)(g:∃p∈ck.xi,p.2.1=D):∃dv,((∃d,dv=.ref d/\mg D=a5 (.ref d))\/(D="ValueError"/\dv=.type "ValueError"/\mg D=b8))/\∀p∈ck.xi,p.2.1=D->∀C,PySem.W.nsIn K i3 p.1=a5 (a5 (.ref C))->fX K C=bD/\PySem.W.kitOne K (.ref C) dv=a5 p.2.2:=by
 rw[gY,cb,i7]at z;have⟨i,j,rfl⟩:=g;have f:=z.1 i j;split at f
 .rename_i n dv o a;show⟨dv,?_,λp k e C l=>?_⟩
  .unfold Wh at a;split at a
   .rename_i e;cases a;show .inl ⟨_,rfl,PySem.W.mg_of X G e⟩
   .rename_i e;split at a
    .rename_i c;cases a;show .inr ⟨c,rfl,PySem.W.mg_none_of X G e⟩
    .cases a
   .cases a
  .have b:=z.1 p k;rw[e,a]at b;split at b
   .rename_i q r c m;cases m;have:=jF c;rw[l]at this;cases this;rw[cb,beq_iff_eq]at b;show b
   .cases b
 .cases f
def Hh{K:PySem.W.Frag}(z:gY ck K=bD)(X:K.In h)(G:h.Ns i3 mg)(x:Str)(d:∃p∈ck.xe,p.2=x):∃D,mg x=a5 (.ref D)/\∀cl,(cl,x)∈ck.xe->∀C,PySem.W.nsIn K i3 cl=a5 (a5 (.ref C))->PySem.W.exmOne K (.ref C) (.ref D)=a5 bD:=by
 rw[gY,cb,i7,i7]at z;have⟨e,f,rfl⟩:=d;have b:=z.2 e f;split at b
 .rename_i l D m c;show⟨D,PySem.W.mg_of X G (jF c),λcl g C i=>?_⟩;have a:=z.2 _ g
  dsimp only at a
  rw[c]at a;split at a
  .rename_i n o j k;cases k;have:=jF j;rw[i]at this;cases this;show beq_iff_eq.mp a
  .cases a
 .cases b
abbrev gX(ck:Ck)(K:PySem.W.Frag):Bool:=ck.xc.all (λx=>match PySem.W.nsIn K i3 x with|some (a5 (.ref C))=>PySem.W.excIn K C Pt "ValueError.__new__"|_=>cc)&&ck.xd.all λp=>match PySem.W.nsIn K i3 p.1,PySem.W.nsIn K i3 p.2 with
 |some (a5 (.ref C)),a5 (a5 (.ref D))=>(PySem.W.exmOne K (.ref C) (.ref C)==a5 bD)&&(PySem.W.kitCls K (.ref C) (.ref D)==a5 bD&&C != D)
 |_,_=>cc
def E_{K:PySem.W.Frag}(z:(gX ck K&&gY ck K)=bD)(X:K.In h)(G:h.Ns i3 mg):O0 ck K mg:=by
 rw[cb]at z;have⟨z,a⟩:=z;rw[gX,cb,i7,i7]at z;show⟨λx c=>?_,λp d=>?_,Hg a X G,Hh a X G⟩
 .have:=z.1 x c;split at this
  .rename_i e;show⟨_,PySem.W.mg_of X G e,e,this⟩
  .cases this
 .have:=z.2 p d;split at this
  .rename_i b f;rw[cb,beq_iff_eq]at this;show⟨_,_,PySem.W.mg_of X G b,b,PySem.W.mg_of X G f,this.1,this.2⟩
  .cases this
def walk{l:PySem.W.OpenLaw}{K:Va->PySem.W.Frag}
  (A:l.most=a5 63) (B:d.params.defaults=[]) (D:fw (dp+1) TX) (I:∀(w:wq) (h:DD),J w h->(K w.params).In h)
  (j:(Pg.map (·.name)).Nodup) (r:RW ck Pg=bD) (L:fn.io=b8) (O:fn∈Pg) (M4:fn.name=d.name)
  (F:∀(w:wq) (mg:Str->Option dt) (fa:d7) (h:DD),(K w.params).In h->h.Ns i3 mg->mg d.name=a5 (.ref fa) ->
   (∀y∈bT,mg y=b8)/\(∀p∈ck.gl,∃val v,mg p.1=a5 val/\RelV v val/\∀(C:Ct) S H,Rep C S H p.2 v)/\(∀g∈Pg,Ld ck (K w.params) mg g)/\O0 ck (K w.params) mg /\
   ∃(c:Str) (st:L5) (i:So) (N:List Str),NU (K w.params) fn.name c st fa i/\eL N [x] (aV st)/\N.length=fn.ns/\1=fn.np/\dC ck fn.body N (aV st) (c_ st)=bD/\∀(s:d5) (u:dt),Æ s i ⟨[u],[]⟩ [(x,u)])
  (T:∀ns:List Int,ns.length<=63->Jq Pg (dp+1) fn.name [sX ns]=a5 (.ok (.loc,.bl bD))) :
  PySem.W.WalkO q m XP J l.row.toRowW d [] (λf vs=>PySem.call f vs) :=
 L2.AJ (n:=63) (k:=dp+1) (x:=x) (CX:=λw=>N1 l.prog w) (sp:=λw=>spT l.prog w (K w.params) (dg (Jq Pg dp) fn) fn.np) A (by decide) B D I
  (λw mg fa h Q G Y=>by
   have⟨e,o,ld,xs,c,st,i,N,F1,S,hN,LK,hc,hb⟩:=F w mg fa h Q G Y;show⟨i,hb,λbase _ _=>CP F1 S hN LK hc e (uW j r e o ld xs dp).1 o (uW j r e o ld xs dp).2 xs⟩)
  (λw H a ns hl _ hS=>by
   have t:=T ns hl;rw[sW j O,nO L]at t;have Y9:fn.np=1:=(pq t).1.symm;show⟨Y9.symm,[sX ns],.ok (.loc,.bl bD),KJ H,t,λ_ z=>z,⟨_,_,rfl,sY hS,rfl⟩,.inr (.inl rfl),λv H' S' b=>b.loc rfl⟩)
  λ_ _ _ _ _ ⟨_,_,_,_,_,_,z⟩=>z
def walk2{l:PySem.W.OpenLaw}{g:Va->Gx}
  (z:l.most=a5 63) (A:d.params.defaults=[]) (B:fw (dp+1) TX) (o:ms.map (·.fn)=Pg) (C:(Pg.map (·.name)).Nodup) (D:RW ck Pg=bD) (p:m.fn.io=b8) (r:m∈ms) (t:m.fn.name=d.name) (H:m.N.take m.fn.np=[x])
  (ok:∀P,Oa ck top (Li top (g P) ms) ms=bD) (I:∀P,(gX ck (Li top (g P) ms)&&gY ck (Li top (g P) ms))=bD) (J:∀P,(g P).2.map (·.1)=xa) (T:∀ns:List Int,ns.length<=63->Jq Pg (dp+1) m.fn.name [sX ns]=a5 (.ok (.loc,.bl bD))) :
  PySem.W.WalkO q j O (PySem.W.kHook (λP=>Li top (g P) ms) (adr ms xa) λP=>uY top (g P) ms xa (J P)).says l.row.toRowW d [] (λf vs=>PySem.call f vs) :=
 walk z A B (λw h Y=>PySem.W.kIn_of Y) C D p (o▸js.mpr ⟨m,r,rfl⟩) t (λw mg fa h X G v=>by
  have hk:=ok w.params;have⟨a,b,c,e,f,k,n⟩:=CQ hk r;rw[<-t,PySem.W.mg_of X G b]at v;cases v;rw[H]at c e k;show⟨λy i=>PySem.W.mg_none_of X G (Hb ?_),E9 hk X G,λy i=>?_,E_ (I w.params) X G,_,_,_,_,a,e,f,k,by have:=n.1;rw[show m.fn.bd=m.fn.body by unfold Fn.bd;rw[p]]at this;show this,λs u=>.of_eq (c [u] rfl)⟩
  .simp only[Oa,cb]at hk;show i7.mp hk.1.1.2 y i
  .rw[<-o]at i;have⟨Q,L,rfl⟩:=js.mp i;show Hf hk X G L) T
abbrev co(n:Str)(k l c:Nat)(r s:d7)(x y z:dt)(a b t:Nat):Obj:=⟨.type "code",b8,.fields #[.str n k,.str n (k+1),.str "/claim/cut.py" (k+2),.int l 0,.int c 0,.int 0 0,.int 0 0,.int 3 0,.ref r,.bool bD,.int t 0,.ref s,.none,x,y,z,.int a 0,.int l 0,.str "/claim/cut.py" b],#[]⟩
abbrev ge(P:Va)(x:Str)(k:Nat)(v:dt):DictEntry:=⟨P0 P x,.str x k,v⟩
end TM
namespace TM
open PySem L2
section
abbrev Run(m:M α)(st:ay)(a:α)(st':ay):Prop:=m st=a5 (.ok a,st')
def aa(c:Run m st a st1)(d:Run (f a) st1 b st2):Run (m >>= f) st b st2:=by
 change M.bind m f st=_;unfold M.bind;rw[show m st=_ from c];show d
def aK:Run (pure a:M α) st a st:=rfl
def cw(h:o=a5 a):Run (M.Jt o) st a st:=by subst h;rfl
def aR(h:aX rs st):Run (aC rs) st () st:=by change aC rs st=_;unfold aC;rw[Ł h]
abbrev kv(i:Nat)(k:Kd):Kd:=if k.root=bD then .bor i else k
def dM(h:st[i]?=a5 (a5 (k,u)))(hk:k≠.Je:=by intro z;cases z):Run (dk i) st (kv i k,u) st:=by
 change dk i st=_;unfold dk;rw[h];cases k<;>first|rfl|show absurd rfl hk
def af(h:st[i]?=a5 (a5 (.loc,u))):Run (ev Γ (.var i)) st (.loc,u) st:=dM h
def aT(h:st[i]?=a5 (a5 (.any,u))):Run (ev Γ (.var i)) st (.any,u) st:=dM h
def aA(h:st[i]?=a5 (a5 (.own,u))):Run (ev Γ (.var i)) st (.bor i,u) st:=dM h
def ai:Run (ev Γ (.cst u)) st (.loc,u) st:=rfl
def bB(c:Run (ev Γ a) st x st1)(d:Run (ev Γ b) st1 y st2)(e:aX [x,y] st2)(f:Md g x y=a5 r):Run (ev Γ (.bin g a b)) st r st2 :=
 aa c (aa d (aa (aR e) (cw f)))
def lL(d:Run (ev Γ a) st x st1)(e:Run (ev Γ b) st1 y st2)(f:aX [x,y] st2)(g:bN h x.2 y.2=a5 c):Run (ev Γ (.cmp h a b)) st (.loc,.bl c) st2 :=
 aa d (aa e (aa (aR f) (aa (cw g) aK)))
def bL(c:Run (ev Γ a) st x st1)(d:Run (ev Γ b) st1 y st2)(e:aX [x,y] st2)(f:h_ x y.2=a5 r):Run (ev Γ (.idx a b)) st r st2 :=
 aa c (aa d (aa (aR e) (cw f)))
def uZ:Run (OM Γ []) st b8 st:=rfl
def nQ(h:Run (ev Γ e) st (k,.int i) st1):Run (OM Γ [e]) st (a5 i) st1:=aa h rfl
def qK(c:Run (ev Γ a) st x st1)(d:Run (OM Γ lo) st1 l st2)(e:Run (OM Γ f) st2 h b)(g:aX [x] b)(i:qq x l h=a5 r):Run (ev Γ (.Nh a lo f)) st r b :=
 aa c (aa d (aa e (aa (aR g) (cw i))))
def aj:Run (ba Γ []) st [] st:=rfl
def ae(a:Run (ev Γ e) st r st1)(b:Run (ba Γ es) st1 rs st2):Run (ba Γ (e::es)) st (r::rs) st2:=aa a (aa b aK)
def cI(a:Run (ba Γ es) st rs st1)(b:aX rs st1)(c:Lf f rs=a5 r):Run (ev Γ (.bi f es)) st r st1:=aa a (aa (aR b) (cw c))
def zf(a:Run (ba Γ es) st rs st1)(b:aX rs st1)(c:sj f rs=a5 r):Run (ev Γ (.Ni f es)) st r st1:=aa a (aa (aR b) (cw c))
def zg(b:Run (ev Γ a) st x st1)(c:Run (ba Γ es) st1 rs st2)(d:aX (x::rs) st2)(e:mJ m x.2 rs=a5 r):Run (ev Γ (.N5 m a es)) st r st2:=aa b (aa c (aa (aR d) (cw e)))
def u9(h:Γ f us=a5 (.ok r))(a:isAny r.1=cc):Run (lq Γ f us) st r st:=by
 have⟨k,u⟩:=r;change lq Γ f us st=_;unfold lq;rw[h];cases k<;>first|rfl|cases a
def b_(a:Run (ba Γ es) st rs st1)(b:aX rs st1)(c:Γ f (rs.map (·.2))=a5 (.ok r))(d:isAny r.1=cc:=by show rfl):Run (ev Γ (.call f es)) st r st1:=aa a (aa (aR b) (u9 c d))
def gS(a:Run (ba Γ es) st rs st1)(b:aX rs st1)(c:Run (de rs) st1 us st2)(d:us.length<=cL):Run (ev Γ (.tup es)) st (.loc,.tup us) st2:=by
 show aa a (aa (aR b) (aa c ?_));rw[Ł d];show aK
def cD(a:Run (ba Γ es) st rs st1)(b:aX rs st1)(c:Run (de rs) st1 us st2)(d:us.length<=cL):Run (ev Γ (.lst es)) st (.own,.lst us) st2:=by
 show aa a (aa (aR b) (aa c ?_));rw[Ł d];show aK
def lM:Run (ev Γ (.KZ r)) st (.own,.Ji [] []) st:=rfl
def zh:Run (lift (.own,u)) st u st:=rfl
def aP:Run (lift (.loc,u)) st u st:=rfl
def qL(h:JG u=bD):Run (lift (.any,u)) st u st:=by
 change(if JG u=bD then(pure u:M U) else M.fail) st=_;rw[Ł h];rfl
def aM:Run (de []) st [] st:=rfl
def aJ(a:Run (lift r) st u st1)(b:Run (de rs) st1 us st2):Run (de (r::rs)) st (u::us) st2:=aa a (aa b aK)
def lN(d:Run (JC Γ c) st bD st1)(e:Run (ev Γ a) st1 r st2):Run (ev Γ (.ite c a b)) st r st2:=aa d e
def pv(d:Run (JC Γ c) st cc st1)(e:Run (ev Γ b) st1 r st2):Run (ev Γ (.ite c a b)) st r st2:=aa d e
def Fb(h:Run (ev Γ e) st r st1):Run (iS Γ [e]) st r st1:=h
def Fc(h:Run (ev Γ e) st (k,.bl p) st1)(a:if p=bD then Run (iS Γ (b::es)) st1 r st2 else st2=st1/\r=(.loc,.bl cc)):Run (iS Γ (e::b::es)) st r st2:=by
 show aa h ?_;cases p with
 |true=>show a
 |false=>have⟨rfl,rfl⟩:=a;show aK
def Hi(h:Run (iS Γ es) st r st1):Run (ev Γ (.and es)) st r st1:=h
def aG(d:Run (ev Γ a) st x st1)(e:Run (ev Γ b) st1 y st2)(f:aX [x,y] st2)(g:bN h x.2 y.2=a5 c):Run (JC Γ (.cmp h a b)) st c st2:=aa d (aa e (aa (aR f) (cw g)))
def lO(h:Run (JC Γ a) st c st1):Run (JC Γ (.not a)) st (!c) st1:=aa h aK
def fi(h:Run (bh Γ es) st c st1):Run (JC Γ (.and es)) st c st1:=h
def wK(h:Run (iT Γ es) st c st1):Run (JC Γ (.or es)) st c st1:=h
def nR:Run (bh Γ []) st bD st:=rfl
def cE(h:Run (JC Γ e) st c st1):Run (bh Γ [e]) st c st1:=h
def ij(h:Run (JC Γ e) st bD st1)(a:Run (bh Γ (b::es)) st1 c st2):Run (bh Γ (e::b::es)) st c st2:=aa h a
def pw(h:Run (JC Γ e) st cc st1):Run (bh Γ (e::a::es)) st cc st1:=aa h aK
def qM(h:Run (JC Γ e) st c st1):Run (iT Γ [e]) st c st1:=h
def Hj(h:Run (JC Γ e) st bD st1):Run (iT Γ (e::a::es)) st bD st1:=aa h aK
def qN(h:Run (JC Γ e) st cc st1)(a:Run (iT Γ (b::es)) st1 c st2):Run (iT Γ (e::b::es)) st c st2:=aa h a
def aZ:Run (dG i (.own,u)) st () (st.set i (a5 (.own,u))):=rfl
def aE:Run (dG i (.loc,u)) st () (st.set i (a5 (.loc,u))):=rfl
def ja:Run (dG i (.any,u)) st () (st.set i (a5 (.any,u))):=rfl
def Hk(a:Run (ev Γ e) st r st1)(b:Run (dG i r) st1 () st2):Run (exec Γ (.set i e)) st .nx st2:=aa a (aa b aK)
def Hl(b:∃k' us',st[i]?=a5 (a5 (k',.lst us'))/\k'≠.Je)(c:Run (ev Γ e) st r st1)(d:Run (lift r) st1 u st2)(f:st2[i]?=a5 (a5 (k,.lst us)))(hk:k.root=bD)(hl:us.length<cL):
  Run (exec Γ (.app i e)) st .nx (st2.set i (a5 (k,.lst (us++[u])))):=by
 have⟨k',us',b,g⟩:=b;show aa (dM b g) (aa (a:=()) (st1:=st) rfl (aa c (aa d (aa (a:=()) ?_ aK))));change modS i (yt u) st2=_;unfold modS;rw[f];simp only[hk,if_true];have e:yt u (.lst us)=a5 (.lst (us++[u])):=by change(if us.length<cL then _ else _)=_;rw[Ł hl]
 rw[e]
def Hm(a:Run (ev Γ e) st r st1)(b:Run (retS r) st1 f st2):Run (exec Γ (.ret e)) st f st2:=aa a b
def jV:Run (retS (.own,u)) st (.rt .own u) st:=rfl
def dN:Run (retS (.loc,u)) st (.rt .loc u) st:=rfl
def gT(h:st[j]?=a5 (a5 (.own,u))):Run (retS (.bor j,a)) st (.rt .own u) (st.set j b8):=by
 change(match st[j]? with|some (a5 (.own,u))=>a5 (Ex.ok (Fl.rt .own u),st.set j b8)|_=>b8)=_;rw[h]
def il(d:Run (JC Γ c) st bD st1)(e:Run (execs Γ a) st1 f st2):Run (exec Γ (.ite c a b)) st f st2:=aa d e
def jG(d:Run (JC Γ c) st cc st1)(e:Run (execs Γ b) st1 f st2):Run (exec Γ (.ite c a b)) st f st2:=aa d e
def ax:Run (execs Γ []) st .nx st:=rfl
def eC(a:Run (exec Γ s) st .nx st1)(b:Run (execs Γ ss) st1 f st2):Run (execs Γ (s::ss)) st f st2:=aa a b
def lP(a:Run (exec Γ s) st (.rt k u) st1):Run (execs Γ (s::ss)) st (.rt k u) st1:=aa a aK
def aw(a:Run (ev Γ e) st r st1)(b:Run (dG i r) st1 () st2)(c:Run (execs Γ ss) st2 f d):Run (execs Γ (.set i e::ss)) st f d:=eC (Hk a b) c
def gc(a:st[i]?=a5 (a5 (k',.lst us')))(b:Run (ev Γ e) st r st1)(c:Run (lift r) st1 u st2)(d:st2[i]?=a5 (a5 (k,.lst us)))(hk:k.root=bD)(hl:us.length<cL)
  (g:Run (execs Γ ss) (st2.set i (a5 (k,.lst (us++[u])))) f h) (j:k'≠.Je:=by intro z;cases z):Run (execs Γ (.app i e::ss)) st f h:=eC (Hl ⟨_,_,a,j⟩ b c d hk hl) g
def bP(a:Run (ev Γ e) st r st1)(b:Run (retS r) st1 (.rt k u) st2):Run (execs Γ (.ret e::ss)) st (.rt k u) st2:=lP (Hm a b)
def dH(d:Run (JC Γ c) st bD st1)(e:Run (execs Γ a) st1 .nx st2)(g:Run (execs Γ ss) st2 f h):Run (execs Γ (.ite c a b::ss)) st f h:=eC (il d e) g
def bA(d:Run (JC Γ c) st cc st1)(e:Run (execs Γ b) st1 .nx st2)(g:Run (execs Γ ss) st2 f h):Run (execs Γ (.ite c a b::ss)) st f h:=eC (jG d e) g
def pz(d:Run (JC Γ c) st bD st1)(e:Run (execs Γ a) st1 (.rt k u) st2):Run (execs Γ (.ite c a b::ss)) st (.rt k u) st2:=lP (il d e)
def CS(a:Run (ba Γ src) st rs st1)(b:aX rs st1)(c:KU d rs=a5 xs)(e:uw rs is body=bD)(g:Run (forM t is (execs Γ body) rs xs) st1 f st2):
  Run (exec Γ (.Jy t is d src body)) st f st2:=by
 show aa a (aa (aR b) (aa (cw c) ?_));rw[Ł e];show g
def c8(a:Run (ba Γ src) st rs st1)(b:aX rs st1)(c:KU d rs=a5 xs)(e:uw rs is body=bD)(g:Run (forM t is (execs Γ body) rs xs) st1 .nx st2)(h:Run (execs Γ ss) st2 f i):
  Run (execs Γ (.Jy t is d src body::ss)) st f i:=eC (CS a b c e g) h
def CT(h:aX rs st):Run (forM t is body rs []) st .nx st:=aa (aR h) aK
def Hn(h:aX rs st)(a:Run (dR t is x) st () st1)(b:Run body st1 .nx st2)(c:Run (forM t is body rs xs) st2 f d):Run (forM t is body rs (x::xs)) st f d:=aa (aR h) (aa a (aa b c))
def IY(h:aX rs st)(a:Run (dR t is x) st () st1)(b:Run body st1 (.rt k u) st2):Run (forM t is body rs (x::xs)) st (.rt k u) st2:=aa (aR h) (aa a (aa b aK))
def fG(h:Run (dG i r) st () st1):Run (dR cc [i] r) st () st1:=h
def bt(a:us.length=fn.np)(hk:k=.own\/k=.loc)(hs:start us fn.ns=st0)(h:Run (execs Γ fn.body) st0 (.rt k u) st):dg Γ fn us=a5 (.ok (k,u)):=by
 subst hs;unfold dg;rw[Ł a,show execs Γ fn.body (start us fn.ns)=_ from h];rcases hk with rfl|rfl<;>rfl
def u_{cond:M Bool}(h:aX src st):Run (cv k t cond elt src [] acc) st acc st:=aa (aR h) aK
def pA{cond:M Bool}(h:aX src st)(c:Run (dR t (fx k) x) (i2 k b8++st) () s1)(d:Run cond s1 bD s2)(e:Run elt s2 r s3)(g:Run (lift r) s3 u s4)
  (hl:acc.length<cL) (i:Run (cv k t cond elt src xs (acc++[u])) (s4.drop k) us st2):Run (cv k t cond elt src (x::xs) acc) st us st2:=by
 show aa (aR h) (aa (a:=a5 u) (st1:=s4.drop k) ?_ ?_)
 .change inScope k _ st=_;unfold inScope;have j:Run (dR t (fx k) x >>= λ_=>cond >>= λb=>if b=bD then(elt >>= λr=>lift r >>= λu=>pure (a5 u)) else pure b8) (i2 k b8++st) (a5 u) s4 :=
   aa c (aa d (show Run (elt >>= λr=>lift r >>= λu=>pure (a5 u)) s2 (a5 u) s4 from aa e (aa (f:=λu=>pure (a5 u)) g rfl)))
  rw[show _=_ from j]
 .change Run (if acc.length<cL then cv k t cond elt src xs (acc++[u]) else M.fail) _ _ _;rw[Ł hl];show i
def zi{cond:M Bool}(h:aX src st)(c:Run (dR t (fx k) x) (i2 k b8++st) () s1)(d:Run cond s1 cc s2)
  (e:Run (cv k t cond elt src xs acc) (s2.drop k) us st2):Run (cv k t cond elt src (x::xs) acc) st us st2:=by
 show aa (aR h) (aa (a:=b8) (st1:=s2.drop k) ?_ e);change inScope k _ st=_;unfold inScope;have f:Run (dR t (fx k) x >>= λ_=>cond >>= λb=>if b=bD then(elt >>= λr=>lift r >>= λu=>pure (a5 u)) else pure b8) (i2 k b8++st) b8 s2 :=
  aa c (aa d (show Run (pure b8:M (Option U)) s2 b8 s2 from rfl))
 rw[show _=_ from f]
def dI{src cond:List E}(a:Run (ba Γ src) st rs st1)(b:aX rs st1)(c:KU d rs=a5 xs)(f:Run (cv k t (bh Γ cond) (ev Γ e) rs xs []) st1 us st2):Run (ev Γ (.comp k t d src cond e)) st (.own,.lst us) st2 :=
 aa a (aa (aR b) (aa (cw c) (aa f aK)))
end
section
def sZ(c:Run (ba Γ es) st rs st1)(d:aX (rs.map (eG st1)) st1)(e:Γ f ((rs.map (eG st1)).map (·.2))=a5 (.ok (k,.tup (u::ws))))(hk:k=.own\/k=.loc)(a:qu (rs.map (eG st1)) is=bD)(b:gQ (rs.map (eG st1)) is ws st1=a5 st2):
  Run (ev Γ (.Jf f es is)) st (k,u) st2:=by
 have g:Run (ba Γ es >>= A8) st (rs.map (eG st1)) st1:=aa c (show Run (A8 rs) st1 (rs.map (eG st1)) st1 from rfl);show aa g (aa (aR d) ?_);change qv Γ f _ is st1=_;unfold qv;rw[e];rcases hk with rfl|rfl
 .change(if _ then _ else _)=_;rw[Ł a,b]
 .change(if _ then _ else _)=_;rw[Ł a,b]
def Ho(h:st[i]?=a5 (a5 (k,.lst us)))(hk:k.root=bD)(a:us[us.length - 1]?=a5 u):Run (ev Γ (.pop i)) st (.loc,u) (st.set i (a5 (k,.lst us.dropLast))):=by
 change yq i st=_;unfold yq;rw[h];change(if _ then _ else _)=_;rw[Ł hk,a]
def zj(b:st[i]?=a5 (a5 (k0,.lst us0)))(c:k0≠.Je)(d:Run (ev Γ e) st (l,.int j) st1)(h:st1[i]?=a5 (a5 (k,.lst us)))(hk:k.root=bD)(j0:0<=j)(f:j<1000000)(g:us[j.toNat]?=a5 u):Run (ev Γ (.Le i e)) st (.loc,u) (st1.set i (a5 (k,.lst (us.eraseIdx j.toNat)))):=by
 show aa (dM b c) (aa (a:=()) (st1:=st) rfl (aa d ?_));change wb i (.int j) st1=_;unfold wb
 dsimp only
 rw[h];change(if _ then _ else _)=_;rw[Ł ⟨hk,j0,f⟩,g]
def cn(a:us.length=fn.np)(hs:cU is us fn.ns=st0)(h:Run (execs Γ body) st0 f st)(b:RG f=a5 (k,u))(c:ON is st=a5 ws):gH Γ fn is body us=a5 (.ok (k,.tup (u::ws))):=by
 subst hs;unfold gH;rw[Ł a,show execs Γ body (cU is us fn.ns)=_ from h];change(RG f).bind _=_;rw[b];change(ON is st).map _=_;rw[c];rfl
end
abbrev Jz(Pg:List Fn)(f:Str)(fn:Fn):Prop:=(Pg.find? λg=>cK (g.name=f))=a5 fn
section
def aL(h:Jz Pg f fn)(us:List U)(a:fn.io=b8:=by rfl):Jq Pg (d+1) f us=dg (Jq Pg d) fn us:=by
 change(match Pg.find? λg=>cK (g.name=f) with|some fn=>jv (Jq Pg d) fn us|none=>b8)=_;rw[show _=a5 fn from h];change jv _ _ _=_;unfold jv;rw[a]
def cJ(h:Jz Pg f fn)(us:List U)(a:fn.io=a5 (is,b)):Jq Pg (d+1) f us=gH (Jq Pg d) fn is b us:=by
 change(match Pg.find? λg=>cK (g.name=f) with|some fn=>jv (Jq Pg d) fn us|none=>b8)=_;rw[show _=a5 fn from h];change jv _ _ _=_;unfold jv;rw[a]
end
def eR(h:0<j):Md .mod (k,.int i) (k',.int j)=a5 (.loc,.int (i % j)):=by change(A4 i j).map _=_;rw[A4,Ł h];rfl
def lQ(h:0<j/\j<1073741824):Md .OI (k,.int i) (k',.int j)=a5 (.loc,.int (i / j)):=by change(A0 i j).map _=_;rw[A0,Ł h];rfl
def kM(h:(-(2 ^ 64)<i/\i<2 ^ 64)\/(-(2 ^ 64)<j/\j<2 ^ 64)):Md .mul (k,.int i) (k',.int j)=a5 (.loc,.int (i * j)):=by change(AZ i j).map _=_;rw[AZ,Ł h];rfl
def ox(h:0<=j/\j<=1000000/\i.natAbs<2 ^ 64):Md .pow (k,.int i) (k',.int j)=a5 (.loc,.int (i ^ j.toNat)):=by change(A5 i j).map _=_;rw[A5,Ł h];rfl
def cu:Md .add (k,.int i) (k',.int j)=a5 (.loc,.int (i+j)):=rfl
def cN(h:J9 xs i=a5 u):h_ (k,.lst xs) (.int i)=a5 (kE k,u):=by change(J9 xs i).map _=_;rw[h];rfl
def rL(h:J9 xs i=a5 u):h_ (k,.tup xs) (.int i)=a5 (kE k,u):=by change(J9 xs i).map _=_;rw[h];rfl
local macro_rules
 |`(tactic| sizeOf_list_dec)=>`(tactic| first|exact ax|apply aw|apply gc|apply bP|exact ai|exact af rfl|exact aT rfl|exact aA rfl|apply bB|apply lL|apply bL|apply cI|apply b_|apply zg|apply aG|exact aj|apply ae|apply gS|apply cD|exact aM|apply aJ|exact aP|exact zh|(first|exact trivial|exact⟨⟨_,rfl,rfl⟩,trivial⟩|exact⟨⟨_,rfl,rfl⟩,⟨_,rfl,rfl⟩,trivial⟩)|exact cu|exact rH|exact eR (by first|lia|decide)|exact lQ (by first|lia|decide)|exact kM (by first|lia|decide)|exact ox (by decide)|exact aE|exact aZ|exact ja|exact dN|exact jV|exact gT rfl|exact i8 _|exact rfl|exact NH)
def Hq(h:cK (i<j)=c):bN .lt (.int i) (.int j)=a5 c:=by subst h;rfl
def fM(h:cK (j<i)=c):bN .gt (.int i) (.int j)=a5 c:=by subst h;rfl
def bI(h:(i==j)=c):bN .eq (.int i) (.int j)=a5 c:=by subst h;rfl
def cj:Lf .len [(k,.lst xs)]=a5 (.loc,.int (xs.length:Nat)):=rfl
def B6:Lf .len [(k,.tup xs)]=a5 (.loc,.int (xs.length:Nat)):=rfl
def zk(x:Kd×U):KU .Kj [x]=yo x:=rfl
def ip(h:n<2 ^ 62):KU .Kj [(k,.int (n:Nat))]=a5 ((fx n).map λi:Nat=>(Kd.loc,U.int (0+(i:Int)))):=by
 rw[zk,yo,Ł ⋯,Ql]
end TM
local macro_rules
 |`(tactic| sizeOf_list_dec)=>`(tactic| first|exact TM.ax|apply TM.aw|apply TM.gc|apply TM.bP|exact TM.ai|exact TM.af rfl|exact TM.aT rfl|exact TM.aA rfl|apply TM.bB|apply TM.lL|apply TM.bL|apply TM.cI|apply TM.b_|apply TM.zg|apply TM.aG|exact TM.aj|apply TM.ae|apply TM.gS|apply TM.cD|exact TM.aM|apply TM.aJ|exact TM.aP|exact TM.zh|(first|exact trivial|exact⟨⟨_,rfl,rfl⟩,trivial⟩|exact⟨⟨_,rfl,rfl⟩,⟨_,rfl,rfl⟩,trivial⟩)|exact TM.cu|exact TM.rH|exact TM.eR (by first|lia|decide)|exact TM.lQ (by first|lia|decide)|exact TM.kM (by first|lia|decide)|exact TM.ox (by decide)|exact TM.aE|exact TM.aZ|exact TM.ja|exact TM.dN|exact TM.jV|exact TM.gT rfl|exact i8 _|exact rfl|exact TM.NH)
namespace JE
open PySem L2
def len_list(x:Str):x.length=x.cps.toList.length:=by simp[Ĺ]
def wL(a:0<=k)(b:k<=99):(xJ k).length<=2:=by
 have⟨m,rfl⟩:=u7 a;have c:m<100:=by lia
 clear a b;revert m;decide +kernel
theorem fN:∀(ps:List Str) (acc:Array Nat),(ps.foldl (λacc p=>acc++ti.cps++p.cps) acc).toList=acc.toList++(ps.map λp=>p.cps.toList).flatten
 |[],acc=>by simp
 |p::ps,acc=>by
  rw[SQ,fN ps];have:ti.cps=#[]:=rfl;simp[this]
def join_list(ts:List Str):(TY ti ts).cps.toList=(ts.map λp=>p.cps.toList).flatten:=by
 cases ts with
 |nil=>rfl
 |cons t ts =>
  change(ts.foldl (λacc p=>acc++ti.cps++p.cps) t.cps).toList=_;rw[fN];simp
abbrev one(c:Nat):Str:=⟨#[c]⟩
def join_ones(a:List Nat):(TY ti (a.map one)).cps.toList=a:=by
 rw[join_list,kb];induction a with
 |nil=>rfl
 |cons c a b=>rw[ei,Vs,b];rfl
def qO(a:List Nat)(h:a.length<=100):ø ti (a.map one)=bD:=by
 unfold ø;have e:=PySem.StrLaws.joinTotal ti (a.map one);have b:ti.length=0:=rfl;have es:((a.map one).map (·.length)).sum=a.length:=by
  rw[kb];clear h e;induction a with
  |nil=>rfl
  |cons c a d=>rw[ei,List.sum_cons,d];change 1+a.length=a.length+1;lia
 rw[e,b,es];have f:a.length+(a.map one).length * 0<=100:=by lia
 revert f;generalize a.length+(a.map one).length * 0=m;revert m;decide
def Fd(x:Str)(j:Nat):(PySem.StrLaws.sliceText x b8 (a5 (j:Int))).cps.toList=x.cps.toList.take j:=by
 by_cases h:j<=x.cps.toList.length
 .rw[PySem.StrLaws.sliceText_to (x:=x) ⟨⋯,⋯⟩];simp
 .have e:PySem.StrLaws.sliceText x b8 (a5 (j:Int))=PySem.StrLaws.sliceText x b8 (a5 (x.length:Int)):=by
   unfold PySem.StrLaws.sliceText;have hl:=len_list x;have:PySem.Builtin.Str.strSliceIndices b8 (a5 (j:Int)) 1 x.length=PySem.Builtin.Str.strSliceIndices b8 (a5 (x.length:Int)) 1 x.length:=by
    have a:¬((j:Int)<0):=by lia
    have b:¬((x.length:Int)<0):=by lia
    have c:min (j:Int) (x.length:Int)=x.length:=by lia
    simp[PySem.Builtin.Str.strSliceIndices,a,b,c]
   rw[this]
  have hl:=len_list x;rw[e,PySem.StrLaws.sliceText_to (x:=x) ⟨⋯,⋯⟩,List.drop_zero,M5 (l:=x.cps.toList) (i:=j) ⋯];change(x.cps.toList.take ((x.length:Int) - 0).toNat).toArray.toList=_;rw[M5 ⋯]
abbrev small:Str:="abcdefghijklmnopqrstuvwxyz"
theorem cF [DecidableEq α]:∀{l m:List α},l.Nodup->(∀x∈l,x∈m)->l.length<=m.length
 |[],_,_,_=>i8 _
 |x::l,m,c,h=>by
  have⟨d,e⟩:=mh.mp c;have a:=h x mu;have f:=cF (l:=l) (m:=m.erase x) e λy b=>(Zj (by rintro rfl;show d b)).mpr (h y (ko _ b));rw[XZ a]at f;have:0<m.length:=Yg a;rw[i6];lia
end JE
namespace TM
open PySem L2 JE
def oC(a:x.length<=cL)(h:J9 x.cps.toList i=a5 c):h_ (k,.str x) (.int i)=a5 (.loc,.str (JE.one c)):=by
 simp only[h_];rw[Ł a,h];rfl
def qP:small.length<=cL:=by decide
theorem dX:∀(ss:List Str),strsOf (ss.map U.str)=a5 ss
 |[]=>rfl
 |s::ss=>by change(strsOf (ss.map U.str)).map (s::·)=_;rw[dX ss];rfl
section
def pB(h:x.length+y.length<=cL):Md .add (k,.str x) (k',.str y)=a5 (.loc,.str (x++y)):=by
 simp only[Md,yl];rw[Ł h]
theorem gC:∀(ss:List Str) (n:Nat),eV n (ss.map U.str)=bD
 |[],n=>by simp[eV]
 |s::ss,n=>by simp only[ei,eV,gC ss n,þ];cases n<;>rfl
theorem qQ(x:Str):∀(ss:List Str),((ss.map U.str).any λy=>cP y (.str x))=cK (x∈ss)
 |[]=>by simp
 |s::ss=>by
  rw[ei,UK,qQ x ss];have:cP (.str s) (.str x)=cK (x=s):=by
   simp only[cP];by_cases h:x=s
   .subst h;simp
   .have h':s≠x:=λz=>h z.symm;simp[h,h']
  rw[this,JR];simp
def B7(x:Str)(ss:List Str):OL (.str x) (ss.map U.str)=a5 (cK (x∈ss)):=by
 unfold OL;rw[Ł ⟨by rfl,gC ss 50⟩,qQ]
def eD{x:Str}{ss:List Str}:bN .Jh (.str x) (.lst (ss.map U.str))=a5 (cK (x∉ss)):=by
 change(OL (.str x) (ss.map U.str)).map (!·)=_;rw[B7];simp
end
section
end
def jb(h:Run (ev Γ j) st rv st1)(l:st1[i]?=a5 (a5 (k',u')))(m:Run (ev Γ n) st1 rk st2)(o:Run (de [rv,rk]) st2 [c,d] b)(p:b[i]?=a5 (a5 (k,e)))(hk:k.root=bD)(q:eI d c e=a5 g)
  (r:Run (execs Γ ss) (b.set i (a5 (k,g))) f st4) (s:k'≠.Je:=by intro z;cases z):Run (execs Γ (.put i n j::ss)) st f st4:=by
 show eC (aa h (aa (dM l s) (aa m (aa o (aa (a:=()) (st1:=b.set i (a5 (k,g))) ?_ aK))))) r;change modS i (uu [c,d]) b=_;unfold modS;rw[p];simp only[hk,if_true];change(match eI d c e with|some u'=>_|none=>b8)=_;rw[q]
@[reducible]def Row:=Str×List Str
abbrev B'(r:Row):U:=.tup [.str r.1,.tup (r.2.map .str)]
abbrev keyOf(r:Row):Row:=(r.1,aH r.2)
def sorted_strs(h:ss.length<64):Lf .sorted [(k,.tup (ss.map .str))]=a5 (.own,.lst ((aH ss).map .str)):=by
 change(strsOf (ss.map U.str)).bind _=_;rw[dX];change(if ss.length<64 then _ else _)=_;rw[Ł h]
structure nS(names:List Str)(r:Row):Prop where
 word:r.1∈names
 Nv:r.2.length<=8
 once:r.2.Nodup
 told:∀x∈r.2,x∈names
section
def nU(h:Run (execs Γ (a++ss)) st f st2):(∃s1,Run (execs Γ a) st .nx s1/\Run (execs Γ ss) s1 f st2)\/(Run (execs Γ a) st f st2/\f≠.nx):=by
 induction a generalizing st with
 |nil=>show .inl ⟨st,ax,h⟩
 |cons s a i =>
  have h':M.bind (exec Γ s) (λf=>match f with|.nx=>execs Γ (a++ss)|f=>pure f) st=a5 (.ok f,st2):=h;unfold M.bind at h';cases e:exec Γ s st with
  |none=>rw[e]at h';cases h'
  |some p =>
   have⟨x,s1⟩:=p;rw[e]at h';cases x with
   |exc c=>cases h'
   |ok g =>
    cases g with
    |nx =>
     rcases i h' with⟨s2,b,d⟩|⟨b,d⟩
     .show .inl ⟨s2,eC e b,d⟩
     .show .inr ⟨eC e b,d⟩
    |rt k u=>cases h';show .inr ⟨lP e,λz=>nomatch z⟩
    |bk=>cases h';show .inr ⟨aa (show Run (exec Γ s) st Fl.bk _ from e) aK,λz=>nomatch z⟩
    |ct=>cases h';show .inr ⟨aa (show Run (exec Γ s) st Fl.ct _ from e) aK,λz=>nomatch z⟩
def Hr(a:Run (exec Γ s) st f st1)(b:f≠.nx):Run (execs Γ (s::ss)) st f st1:=by
 cases f with
 |nx=>show absurd rfl b
 |rt k u=>show lP a
 |_=>show aa a aK
def pC(g:Run (JC Γ c) st p st1)(h:p=bD->Run (execs Γ (a++ss)) st1 f st2)(i:p=cc->Run (execs Γ (b++ss)) st1 f st2):Run (execs Γ (.ite c a b::ss)) st f st2:=by
 cases p with
 |true =>
  rcases nU (h rfl) with⟨s1,d,e⟩|⟨d,e⟩
  .show eC (il g d) e
  .show Hr (il g d) e
 |false =>
  rcases nU (i rfl) with⟨s1,d,e⟩|⟨d,e⟩
  .show eC (jG g d) e
  .show Hr (jG g d) e
def Fe(h:Run (ev Γ e) st (k,.bl p) st)(a:p=bD->Run (iS Γ (b::es)) st (.loc,.bl q) st):Run (iS Γ (e::b::es)) st (.loc,.bl (p&&q)) st:=by
 show Fc h ?_;cases p with
 |true=>rw[Ł rfl];show a rfl
 |false=>rw[ł i0];show⟨rfl,rfl⟩
def lR(h:Run (JC Γ e) st p st)(a:p=bD->Run (bh Γ (b::es)) st q st):Run (bh Γ (e::b::es)) st (p&&q) st:=by
 cases p with
 |true=>show ij h (a rfl)
 |false=>show pw h
theorem lS{cond:M Bool}(h:aX src st)(k:Kd)(hk:k=.loc\/k=.any)(a g:α->U)(c:Kd)(d:∀y,Run cond (a5 (k,a y)::st) bD (a5 (k,a y)::st)):∀(b:List α) (acc:List U),acc.length+b.length<=cL ->
  (∀y∈b,Run elt (a5 (k,a y)::st) (c,g y) (a5 (k,a y)::st)/\Run (lift (c,g y)) (a5 (k,a y)::st) (g y) (a5 (k,a y)::st))->Run (cv 1 cc cond elt src (b.map λy=>(k,a y)) acc) st (acc++b.map g) st
 |[],acc,_,_=>by rw[J0,J0,rr];show u_ h
 |y::b,acc,hl,e=>by
  have⟨f,i⟩:=e y (by simp);rw[i6]at hl;show pA (s1:=a5 (k,a y)::st) (s2:=a5 (k,a y)::st) (s3:=a5 (k,a y)::st) (s4:=a5 (k,a y)::st) h ?_ (d y) f i ⋯ ?_
  .rcases hk with rfl|rfl
   .show fG aE
   .show fG ja
  .have:=lS h k hk a g c d b (acc++[g y]) (by simp;lia) λz hz=>e z (by simp[hz]);rw[ei];simpa using this
theorem iq{cond:M Bool}(h:aX src st)(k:Kd)(hk:k=.loc\/k=.any)(a g:α->U)(p:α->Bool)(d:Kd):∀(b:List α) (acc:List U),acc.length+b.length<=cL ->
  (∀y∈b,Run cond (a5 (k,a y)::st) (p y) (a5 (k,a y)::st)/\(p y=bD->Run elt (a5 (k,a y)::st) (d,g y) (a5 (k,a y)::st)/\Run (lift (d,g y)) (a5 (k,a y)::st) (g y) (a5 (k,a y)::st)))->Run (cv 1 cc cond elt src (b.map λy=>(k,a y)) acc) st (acc++(b.filter p).map g) st
 |[],acc,_,_=>by rw[J0,SV,J0,rr];show u_ h
 |y::b,acc,hl,f=>by
  have⟨e,j⟩:=f y (by simp);rw[i6]at hl;have i:Run (dR cc (fx 1) (k,a y)) (i2 1 b8++st) () (a5 (k,a y)::st):=by
   rcases hk with rfl|rfl
   .show fG aE
   .show fG ja
  cases c:p y with
  |true =>
   rw[c]at e;have⟨l,m⟩:=j c;show pA (s1:=a5 (k,a y)::st) (s2:=a5 (k,a y)::st) (s3:=a5 (k,a y)::st) (s4:=a5 (k,a y)::st) h i e l m ⋯ ?_;have:=iq h k hk a g p d b (acc++[g y]) (by simp;lia) λz hz=>f z (by simp[hz]);rw[D8,Ł c,ei];simpa using this
  |false =>
   rw[c]at e;show zi (s1:=a5 (k,a y)::st) (s2:=a5 (k,a y)::st) h i e ?_;have:=iq h k hk a g p d b acc ⋯ λz hz=>f z (by simp[hz]);rw[D8,ł (by simp[c])];show this
theorem bU(it:α->Kd×U)(I:List α->List α->ay->Prop)(hs:∀d r st,I d r st->aX rs st)
  (Ø:∀d y r st,I d (y::r) st->∃st1 st2,Run (dR t is (it y)) st () st1/\Run body st1 .nx st2/\I (d++[y]) r st2):∀(r d:List α) (st:ay),I d r st->∃st',Run (forM t is body rs (r.map it)) st .nx st'/\I (d++r) [] st'
 |[],d,st,h=>⟨st,CT (hs _ _ _ h),by rw[rr];show h⟩
 |y::r,d,st,h=>by
  have⟨s1,s2,a,b,c⟩:=Ø d y r st h;have⟨s3,e,f⟩:=bU it I hs Ø r (d++[y]) s2 c;show⟨s3,Hn (hs _ _ _ h) a b e,by simpa using f⟩
def s9(a:Run (ba Γ es) st rs st1)(c:aX rs st1)(d:Γ f (rs.map (·.2))=a5 (.ok r))(e:wa r.2=a5 b)(g:isAny r.1=cc:=by show rfl):Run (JC Γ (.call f es)) st b st1:=aa a (aa (aR c) (aa (u9 d g) (cw e)))
def zl(h:Run (ev Γ (.bi f es)) st (k,.bl b) st1):Run (JC Γ (.bi f es)) st b st1:=by
 have h':(ba Γ es >>= λrs=>aC rs >>= λ_=>M.Jt (Lf f rs)) st=a5 (.ok (k,.bl b),st1):=h;obtain⟨rs,s1,c,d,s2,e,r,s3,g,i⟩:∃rs s1,ba Γ es st=a5 (.ok rs,s1)/\∃(a:Unit) (s2:ay),aC rs s1=a5 (.ok a,s2)/\∃r s3,M.Jt (Lf f rs) s2=a5 (.ok r,s3)/\(r,s3)=((k,U.bl b),st1):=by
  have w:W (ba Γ es >>= λrs=>aC rs >>= λ_=>M.Jt (Lf f rs)) st λr s=>(r,s)=((k,U.bl b),st1):=⟨_,_,h',rfl⟩
  rw[ah]at w;have⟨rs,s1,c,w⟩:=w;rw[ah]at w;have⟨a,s2,d,w⟩:=w;have⟨r,s3,e,w⟩:=w;show⟨rs,s1,c,a,s2,d,r,s3,e,w⟩
 cases i;show aa c (aa (a:=d) e (aa g (cw rfl)))
def zm(c:st[i]?=a5 (a5 (k',.lst us')))(d:Run (ev Γ e) st r st1)(g:st1[i]?=a5 (a5 (k,.lst us)))(hk:k.root=bD)(h:lx r (.lst us)=a5 (.lst b))
  (j:Run (execs Γ ss) (st1.set i (a5 (k,.lst b))) f l) (m:k'≠.Je:=by intro z;cases z):Run (execs Γ (.ext i e::ss)) st f l:=by
 show eC (aa (dM c m) (aa (a:=()) (st1:=st) rfl (aa d (aa (a:=()) (st1:=st1.set i (a5 (k,.lst b))) ?_ aK)))) j;change modS i (lx r) st1=_;unfold modS;rw[g];simp only[hk,if_true];rw[h]
end
def B8(h:xs.length+a.length<=cL)(hs:dQ k a=bD):lx (k,.tup a) (.lst xs)=a5 (.lst (xs++a)):=by
 change(if xs.length+a.length<=cL/\dQ k a=bD then _ else _)=_;rw[Ł ⟨h,hs⟩]
def vb(h:xs.length+a.length<=cL)(hs:dQ k a=bD):lx (k,.lst a) (.lst xs)=a5 (.lst (xs++a)):=by
 change(if xs.length+a.length<=cL/\dQ k a=bD then _ else _)=_;rw[Ł ⟨h,hs⟩]
theorem gD:∀ss:List Str,cT (ss.map U.str)=bD
 |[]=>by simp[cT]
 |s::ss=>by simp[cT,JG,gD ss]
def vc(r:Row):JG (B' r)=bD:=by simp[B',JG,cT,gD]
theorem cq:∀rs:List Row,cT (rs.map B')=bD
 |[]=>by simp[cT]
 |r::rs=>by simp[cT,vc,cq rs]
theorem lT:∀(a b:List Str),dc (a.map U.str) (b.map U.str)=cK (a=b)
 |[],[]=>by simp[dc]
 |[],_::_=>by simp[dc]
 |_::_,[]=>by simp[dc]
 |x::a,y::b=>by
  rw[ei,ei,dc,lT a b];simp only[cP];by_cases h:x=y
  .subst h;simp
  .simp[h]
def lU(ss:List Str)(n:Nat):Ky (n+1) (.lst (ss.map U.str))=bD:=by simp[Ky,gC]
def jc{a b:List Str}:bN .eq (.lst (a.map U.str)) (.lst (b.map U.str))=a5 (cK (a=b)):=by
 simp only[bN];rw[Ł ⟨lU a 49,lU b 49⟩];simp only[cP,lT]
def vd:bN .eq (.str a) (.str b)=a5 (cK (a=b)):=by
 simp only[bN];rw[Ł ⟨rfl,rfl⟩];simp only[cP];by_cases h:a=b
 .subst h;simp
 .simp[h]
def B9(f:α->β)(xs:List α)(lo a:Option Int):cut (xs.map f) lo a=(cut xs lo a).map f:=by simp[cut,UI,UJ]
def B_(xs:List α)(lo a:Option Int):(cut xs lo a).length<=xs.length:=by simp[cut];lia
def zo(h:dQ k (a.map U.int)=bD):qq (k,.lst (a.map .int)) lo b=a5 (.own,.lst ((cut a lo b).map .int)):=by
 simp only[qq];rw[Ł h,B9]
def qR(h:acc.length<4000)(a:(aD acc).length<64):sj .sset [(k,.lst (acc.map .str))]=a5 (.own,.lst ((aH (aD acc)).map .str)):=by
 have e:ia (.lst (acc.map U.str))=a5 (aD acc):=by
  change(strsOf (acc.map U.str)).bind _=_;rw[dX];change(if acc.length+1<x3 then _ else _)=_;rw[Ł (by change acc.length+1<4096;lia)]
 change(ia (.lst (acc.map U.str))).bind _=_;rw[e];change(if (aD acc).length<64 then _ else _)=_;rw[Ł a]
def qS(l:List Str):(aH (aD l)).Nodup:=(bc _).nodup_iff.mpr (bC l)
def Ff(l:List Str)(x:Str):x∈aH (aD l)↔x∈l:=by rw[(bc _).mem_iff,bG]
def zp{l names:List Str}(h:∀x∈l,x∈names):(aD l).length<=names.length:=cF (bC l) λx a=>h x ((bG l x).mp a)
section
end
section
def Hs(c:Run (ev Γ a) st x st1)(d:oX x.2 T=a5 b):Run (ev Γ (.MA a T)) st (.loc,.bl b) st1:=aa c (aa (cw d) aK)
def Ht(c:Run (ev Γ a) st x st1)(d:oX x.2 T=a5 b):Run (JC Γ (.MA a T)) st b st1:=aa c (cw d)
end
def qT(h:xs.length+a.length<=cL)(b:dQ k xs=bD)(c:dQ k' a=bD):Md .add (k,.lst xs) (k',.lst a)=a5 (.own,.lst (xs++a)):=by
 simp only[Md,yl];rw[Ł ⟨h,b,c⟩]
abbrev cV(rows:List Row):List Str:=(rows.map λr=>r.1::r.2).flatten
abbrev az(rows:List Row):List Str:=aH (aD (cV rows))
def qU(d:List Row)(y:Row):cV (d++[y])=cV d++[y.1]++y.2:=by simp[cV]
def cm:x∈cV rows↔∃r∈rows,x=r.1\/x∈r.2:=by
 simp only[cV,List.mem_flatten,js];constructor
 .rintro⟨l,⟨r,a,rfl⟩,b⟩;show⟨r,a,d4.mp b⟩
 .rintro⟨r,a,b⟩;show⟨_,⟨r,a,rfl⟩,d4.mpr b⟩
def jd(h:∀r∈rows,nS names r):∀x∈cV rows,x∈names:=by
 intro x hx;have⟨r,a,hx⟩:=cm.mp hx;rcases hx with rfl|hx
 .show(h r a).word
 .show(h r a).told x hx
def lV(h:∀r∈rows,r.2.length<=8):(cV rows).length<=9 * rows.length:=by
 induction rows with
 |nil=>simp[cV]
 |cons r rows a =>
  have c:=h r (by simp);have b:=a λs hs=>h s (by simp[hs]);simp only[cV,ei,Vs,hY,i6]at b ⊢;lia
def cW:x∈az rows↔x∈cV rows:=Ff _ _
def fH(rows:List Row):(az rows).Nodup:=qS _
def fI(h:∀r∈rows,nS names r):(az rows).length<=names.length:=by
 change(aH (aD (cV rows))).length<=_;rw[bO];show zp (jd h)
abbrev ir:Fn:=⟨"words_of",1,3,[.set 1 (.lst []),.Jy cc [2] .seq [.var 0] [.app 1 (.idx (.var 2) (.cst (.int 0))),.ext 1 (.idx (.var 2) (.cst (.int 1)))],.ret (.Ni .sset [.var 1])]⟩
def je(hl:rows.length<=120)(c:∀r∈rows,nS names r)(n:names.length<64):dg Γ ir [.tup (rows.map B')]=a5 (.ok (.own,.lst ((az rows).map .str))):=by
 have hsz:(4000:Nat)<=cL:=by decide
 have f:TM.start [.tup (rows.map B')] 3=[a5 (.loc,.tup (rows.map B')),b8,b8]:=by simp[TM.start,JG,cq]
 have b:∀r∈rows,r.2.length<=8:=λr h=>(c r h).Nv;obtain⟨st',g,_,o2,e⟩:=bU (t:=cc) (is:=[2]) (body:=execs Γ [.app 1 (.idx (.var 2) (.cst (.int 0))),.ext 1 (.idx (.var 2) (.cst (.int 1)))]) (rs:=[(.loc,.tup (rows.map B'))]) (λr:Row=>(Kd.loc,B' r))
  (λd r st=>d++r=rows/\∃o2,st=[a5 (.loc,.tup (rows.map B')),a5 (.own,.lst ((cV d).map .str)),o2]) (λ_ _ _ _=>trivial) (λd y r st i=>by
   have⟨a,o2,e⟩:=i;subst e;have j:y∈rows:=by rw[<-a];simp
   have o:=lV (rows:=d) λs hs=>b s (by rw[<-a];simp[hs]);have l:d.length<=120:=by have:=ņ Km a;simp at this;lia
   have p:=b y j;show⟨[a5 (.loc,.tup (rows.map B')),a5 (.own,.lst ((cV d).map .str)),a5 (.loc,B' y)],[a5 (.loc,.tup (rows.map B')),a5 (.own,.lst ((cV d).map .str++[.str y.1]++y.2.map .str)),a5 (.loc,B' y)],fG aE,?_,by rw[<-a];simp,a5 (.loc,B' y),?_⟩
   .show gc (k:=.own) (k':=.own) (r:=(.loc,.str y.1)) rfl (bL (x:=(.loc,B' y)) (af rfl) ai trivial rfl) aP rfl rfl (by rw[df];lia)
     (zm (k:=.own) rfl (bL (x:=(.loc,B' y)) (af rfl) ai trivial rfl) rfl rfl (B8 (by simp;lia) rfl) ax)
   .rw[qU];simp) rows [] [a5 (.loc,.tup (rows.map B')),a5 (.own,.lst []),b8] ⟨rfl,b8,rfl⟩
 subst e;have m:(rows.map B').map (λu=>(kE .loc,u))=rows.map λr=>(Kd.loc,B' r):=by rw[kb];rfl
 have q:=lV b;have l:=zp (jd c);show bt rfl (.inl rfl) f (aw (r:=(.own,.lst [])) (cD aj trivial aM (i8 _)) aZ (c8 (rs:=[(.loc,.tup (rows.map B'))]) (ae (af rfl) aj) trivial rfl rfl (by rw[m];show g) (bP (zf (ae (aA rfl) aj) ⟨⟨.own,rfl,rfl⟩,trivial⟩ (qR ⋯ ⋯)) jV)))
def vf(h:ks.length<1000):eI (.str x) u (.Ji ks us)=a5 (.Ji (dput ks us x u).1 (dput ks us x u).2):=by
 have hsz:(1000:Nat)<=cL:=by decide
 change(if ks.length<cL then _ else _)=_;rw[Ł ⋯]
end TM
namespace Od
section
variable{W:Type}[DecidableEq W]{rows:List (W×List W)}
abbrev gf(rows:List (W×List W))(C:W->Prop):Prop:=∀r∈rows,(∀x∈r.2,C x)->C r.1
abbrev QP(rows:List (W×List W))(K:List W):Prop:=∀C:W->Prop,gf rows C->∀x∈K,C x
def same(a:K.Nodup)(b:L.Nodup)(sK:QP rows K)(c:QP rows L)(d:gf rows (·∈K))(e:gf rows (·∈L)):K.Perm L :=
 (Ol a b).mpr λx=>⟨λh=>sK _ e x h,λh=>c _ d x h⟩
abbrev told(rows:List (W×List W))(p:Nat):List W:=match rows[p]? with
 |some r=>r.2
 |none=>[]
def kD(h:rows[p]?=a5 r):told rows p=r.2:=by unfold told;rw[h]
abbrev s_(K l:List W):Nat:=(l.filter λx=>cK (x∉K)).length
abbrev cnt(rows:List (W×List W))(K:List W)(p:Nat):Nat:=s_ K (told rows p)
def wM{K l:List W}:s_ K l=0↔∀x∈l,x∈K:=by
 unfold s_;rw[Sr,M6];constructor
 .intro h x a;have:=h x a;simpa using this
 .intro h x a;simpa using h x a
theorem qV(f:w∉K):∀{l:List W},l.Nodup->s_ (K++[w]) l+(if w∈l then 1 else 0)=s_ K l
 |[],_=>rfl
 |x::l,h=>by
  have⟨g,i⟩:=mh.mp h;have d:=qV f i;unfold s_ at d ⊢;by_cases e:x=w
  .subst e;have a:cK (x∉K++[x])≠bD:=by simp
   have b:cK (x∉K)=bD:=ń f;rw[PZ (p:=λy=>cK (y∉K++[x])) a,PQ (p:=λy=>cK (y∉K)) b,i6,Ł (mu ..)];rw[ł g]at d;lia
  .have j:w≠x:=λz=>e z.symm;have k:(if w∈x::l then 1 else 0)=if w∈l then 1 else 0:=by simp[j]
   rw[k];by_cases c:x∈K
   .have a:cK (x∉K++[w])≠bD:=by simp[c]
    have b:cK (x∉K)≠bD:=by simp[c]
    rw[PZ (p:=λy=>cK (y∉K++[w])) a,PZ (p:=λy=>cK (y∉K)) b];show d
   .have a:cK (x∉K++[w])=bD:=by simp[c,e]
    have b:cK (x∉K)=bD:=by simp[c]
    rw[PQ (p:=λy=>cK (y∉K++[w])) a,PQ (p:=λy=>cK (y∉K)) b,i6,i6];lia
abbrev Once(rows:List (W×List W)):Prop:=∀r∈rows,r.2.Nodup
def Once.told(h:Once rows)(p:Nat):(told rows p).Nodup:=by
 unfold Od.told;split
 .rename_i r e;show h r (my e)
 .show .nil
def qW:cnt rows K p=0↔∀x∈told rows p,x∈K:=wM
def pD(h:Once rows)(a:w∉K)(p:Nat):cnt rows (K++[w]) p+(if w∈told rows p then 1 else 0)=cnt rows K p:=qV a (h.told p)
abbrev JQ(rows:List (W×List W))(n:Nat)(w:W):List Nat:=(fx n).filter λp=>cK (w∈told rows p)
def wN(n:Nat)(w:W):(JQ rows n w).Nodup:=X5 QS List.nodup_range
def jf:p∈JQ rows n w↔p<n/\w∈told rows p:=by simp[JQ]
abbrev aQ(ps:List (W×Nat))(w:W):List Nat:=(ps.filter λp=>cK (p.1=w)).map (·.2)
theorem qX:∀{l:List W},l.Nodup->aQ (l.map λx=>(x,n)) w=if w∈l then [n] else []
 |[],_=>rfl
 |x::l,h=>by
  have⟨b,c⟩:=mh.mp h;have a:=qX (n:=n) (w:=w) c;unfold aQ at a ⊢;rw[ei,D8];by_cases e:x=w
  .subst e;rw[ł b]at a;rw[Ł (by simp),ei,a,Ł (by simp)]
  .rw[ł (by simpa using e),a];have d:w≠x:=λz=>e z.symm;simp[d]
def qY(a b:List (W×Nat))(w:W):aQ (a++b) w=aQ a w++aQ b w:=by simp[aQ]
def wO(h:Once rows)(a:rows[n]?=a5 r)(b:∀w,aQ ps w=JQ rows n w)(w:W):aQ (ps++r.2.map λx=>(x,n)) w=JQ rows (n+1) w:=by
 rw[qY,b w,qX (h r (my a))];unfold JQ;rw[ã,PM];congr 1
 rw[D8,SV,kD a];by_cases e:w∈r.2<;>simp[e]
structure RI(rows:List (W×List W))(K0 K:List W)(R:List Nat):Prop where
 QQ:∀t∈R,t<rows.length/\cnt rows K t=0
 all:∀t,t<rows.length->cnt rows K t=0->cnt rows K0 t=0\/t∈R
def RI.start(K:List W):RI rows K K []:=⟨by simp,λt _ h=>.inl h⟩
def RI.step(h:Once rows)(x:RI rows K0 K R)(d:w∉K):RI rows K0 (K++[w]) (R++(JQ rows rows.length w).filter λt=>cK (cnt rows K t=1)):=by
 show⟨λt ht=>?_,λt ht i=>?_⟩
 .have a:=pD h d t;rcases hW.mp ht with ht|ht
  .have⟨b,e⟩:=x.QQ t ht;show⟨b,⋯⟩
  .have⟨b,e⟩:=so.mp ht;have⟨f,g⟩:=jf.mp b;rw[Ł g]at a;have:cnt rows K t=1:=by simpa using e
   show⟨f,⋯⟩
 .have a:=pD h d t;by_cases c:w∈told rows t
  .rw[Ł c]at a;show .inr (hW.mpr (.inr (so.mpr ⟨jf.mpr ⟨ht,c⟩,by simp;lia⟩)))
  .rw[ł c]at a;rcases x.all t ht ⋯ with z|z
   .show .inl z
   .show .inr (hW.mpr (.inl z))
structure NS(rows:List (W×List W))(K:List W)(d:List Nat)(ps:List (W×Nat)):Prop where
 ok:∀s∈ps,s.2∈d/\s.1∉K/\∃r,rows[s.2]?=a5 r/\r.1=s.1
 once:(ps.map (·.1)).Nodup
 all:∀p∈d,∀r,rows[p]?=a5 r->r.1∈K\/r.1∈ps.map (·.1)
def NS.start(K:List W):NS rows K [] []:=⟨by simp,by simp,by simp⟩
def NS.skip(x:NS rows K d ps)(f:rows[p]?=a5 r)(h:r.1∈K\/r.1∈ps.map (·.1)):NS rows K (d++[p]) ps :=
 ⟨λs hs=>let ⟨a,b,c⟩:=x.ok s hs;⟨by simp[a],b,c⟩,x.once,λq hq g e=>by
  rcases hW.mp hq with hq|hq
  .show x.all q hq g e
  .have:q=p:=by simpa using hq
   subst this;rw[f]at e;cases e;show h⟩
def NS.take(x:NS rows K d ps)(g:rows[p]?=a5 r)(h:r.1∉K)(i:r.1∉ps.map (·.1)):NS rows K (d++[p]) (ps++[(r.1,p)]):=by
 show⟨λs hs=>?_,?_,λq hq j f=>?_⟩
 .rcases hW.mp hs with hs|hs
  .have⟨a,b,c⟩:=x.ok s hs;show⟨by simp[a],b,c⟩
  .have:s=(r.1,p):=by simpa using hs
   subst this;show⟨by simp,h,r,g,rfl⟩
 .rw[ke,ro];show⟨x.once,by simp,λa k b l e=>?_⟩;have:b=r.1:=by simpa using l
  subst this;show i (e▸k)
 .rcases hW.mp hq with hq|hq
  .rcases x.all q hq j f with z|z
   .show .inl z
   .show .inr (by simp only[ke,hW];show .inl z)
  .have:q=p:=by simpa using hq
   subst this;rw[g]at f;cases f;show .inr (by simp)
def NS.perm(x:NS rows K d ps)(h:a.Perm ps):NS rows K d a :=
 ⟨λs hs=>x.ok s (h.mem_iff.mp hs),(h.map _).nodup_iff.mpr x.once,λp b r c=>(x.all p b r c).imp id λz=>(h.map _).mem_iff.mpr z⟩
structure LI(rows:List (W×List W))(Jr:List (W×Nat))(R:List Nat):Prop where
 nd:(Jr.map (·.1)).Nodup
 sn:QP rows (Jr.map (·.1))
 wd:∀x∈Jr.map (·.1),x∈rows.map (·.1)
 QQ:∀t∈R,t<rows.length/\cnt rows (Jr.map (·.1)) t=0
 all:∀t r,rows[t]?=a5 r->cnt rows (Jr.map (·.1)) t=0->t∈R\/r.1∈Jr.map (·.1)
def LI.step(x:LI rows d R)(n:NS rows (d.map (·.1)) R st)(y:RI rows (d.map (·.1)) (d.map (·.1)++st.map (·.1)) j):LI rows (d++st) j:=by
 have em:(d++st).map (·.1)=d.map (·.1)++st.map (·.1):=ke;have hs:∀z∈st.map (·.1),z∉d.map (·.1)/\∃r∈rows,r.1=z/\∀x∈r.2,x∈d.map (·.1):=λz hz=>by
  have⟨s,hs,rfl⟩:=js.mp hz;have⟨k,l,r,h,m⟩:=n.ok s hs;have hz:=(x.QQ _ k).2;rw[qW,kD h]at hz;show⟨l,r,my h,m,hz⟩
 show⟨?_,λC f y hy=>?_,λy hy=>?_,λt o=>by rw[em];show y.QQ t o,λt r g i=>?_⟩
 .rw[em,ro];show⟨x.nd,n.once,λa p b q e=>(hs b q).1 (e▸p)⟩
 .rw[em]at hy;rcases hW.mp hy with hy|hy
  .show x.sn C f y hy
  .obtain⟨_,r,a,b,c⟩:=hs y hy;show b▸f r a λz hz=>x.sn C f z (c z hz)
 .rw[em]at hy;rcases hW.mp hy with hy|hy
  .show x.wd y hy
  .obtain⟨_,r,a,b,c⟩:=hs y hy;show js.mpr ⟨r,a,b⟩
 .rw[em]at i ⊢;rcases y.all t (dV.mp g).1 i with z|z
  .rcases x.all t r g z with z|z
   .rcases n.all t z r g with z|z
    .show .inr (hW.mpr (.inl z))
    .show .inr (hW.mpr (.inr z))
   .show .inr (hW.mpr (.inl z))
  .show .inl z
def LI.closed(x:LI rows b []):gf rows (·∈b.map (·.1)):=λr c h=>by
 have⟨t,a⟩:=SX.mp c;rcases x.all t r a (by rw[qW,kD a];show h) with z|z
 .cases z
 .show z
def vg{K L:List W}(h:K.Nodup)(s:∀x∈K,x∈L):K.length<=L.length:=by
 induction K generalizing L with
 |nil=>simp
 |cons a K d =>
  have⟨f,g⟩:=mh.mp h;have b:a∈L:=s a (by simp);have:=d (L:=L.erase a) g λx c=>by
   have i:x≠a:=λe=>f (e▸c);show(Zj i).mpr (s x (by simp[c]))
  rw[XZ b]at this;have:0<L.length:=Yg b;rw[i6];lia
end
end Od
namespace TM
open PySem L2 JE
section
def Hu(h:st[j]?=a5 (a5 (.own,u))):Run (lift (.bor j,a)) st u (st.set j (a5 (.loc,u))):=by
 change(match st[j]? with|some (a5 (.own,u))=>a5 (Ex.ok u,st.set j (a5 (.loc,u)))|_=>b8)=_;rw[h]
def vh(h:Run c st cc st1):Run (gG c body (n+1)) st .nx st1:=aa h aK
def zq(h:Run c st bD st1)(a:Run body st1 .nx st2)(b:Run (gG c body n) st2 f d):Run (gG c body (n+1)) st f d:=aa h (aa a b)
def zr(h:Run (gG (JC Γ c) (execs Γ body) fuel) st .nx st1)(a:Run (execs Γ ss) st1 f st2):Run (execs Γ (.N7 c body::ss)) st f st2:=eC h a
def nV(hk:k=.loc\/k=.any):Run (dR bD [i,j] (k,.tup [a,b])) st () ((st.set i (a5 (k,a))).set j (a5 (k,b))):=by
 rcases hk with rfl|rfl<;>rfl
def Fg(h:Run (execs Γ ss) (st.set i (a5 (.Je,.Ji [] []))) f st1):Run (execs Γ (.newD i::ss)) st f st1:=eC (aa (a:=()) (st1:=st.set i (a5 (.Je,.Ji [] []))) rfl aK) h
def pE(h:st[i]?=a5 (a5 (.Je,.Ji ks us))):Run (iR i) st (ks,us) st:=by
 change iR i st=_;unfold iR;rw[h]
def tf:Run (j9 (k,.str y)) st y st:=rfl
def Ca(a:st[i]?=a5 (a5 (.Je,.Ji ks us)))(b:y∉ks)(c:ks.length<cL):Run (lr i y (.own,.lst xs)) st () (st.set i (a5 (.Je,.Ji (ks++[y]) (us++[.lst xs])))):=by
 change lr i y (.own,.lst xs) st=_;unfold lr
 dsimp only
 rw[a]
 dsimp only
 rw[Ł ⟨b,c⟩]
def Cb(a:st[i]?=a5 (a5 (.Je,.Ji ks us)))(b:d0 ks us y=a5 (.lst xs))(c:xs.length<cL):Run (lu i y u) st () (st.set i (a5 (.Je,.Ji ks (j_ ks us y (.lst (xs++[u])))))):=by
 change lu i y u st=_;unfold lu;rw[a]
 dsimp only
 rw[b]
 dsimp only
 rw[Ł c]
def Hv(b:Run (ev Γ a) st (k,.str y) st1)(c:st1[i]?=a5 (a5 (.Je,.Ji ks us))):Run (JC Γ (.inD neg a i)) st (T7 neg y ks) st1 :=
 aa b (aa tf (aa (pE c) aK))
def Fh(b:Run (ev Γ c) st (.own,.lst xs) st1)(a:st1[i]?=a5 (a5 (.Je,.Ji ks us)))(d:Run (ev Γ e) st1 (k,.str y) st1)(g:y∉ks)(h:ks.length<cL)
  (j:Run (execs Γ ss) (st1.set i (a5 (.Je,.Ji (ks++[y]) (us++[.lst xs])))) f l):Run (execs Γ (.putD i e c::ss)) st f l:=by
 show eC ?_ j;show aa b (aa (pE a) (aa d (aa tf (aa (Ca a g h) aK))))
def Fi(a:st[i]?=a5 (a5 (.Je,.Ji ks us)))(b:Run (ev Γ c) st (k,.str y) st)(d:y∈ks)(e:Run (ev Γ g) st r st)(h:Run (lift r) st u st)(j:d0 ks us y=a5 (.lst xs))(l:xs.length<cL)
  (m:Run (execs Γ ss) (st.set i (a5 (.Je,.Ji ks (j_ ks us y (.lst (xs++[u])))))) f n):Run (execs Γ (.LA i c g::ss)) st f n:=by
 show eC ?_ m;show aa (pE a) (aa b (aa tf (aa (pE a) ?_)));rw[Ł d];show aa e (aa h (aa (Cb a j l) aK))
def Hw(h:st[i]?=a5 (a5 (.Je,u))):Run (ev Γ (.Pw i)) st (.bor i,u) (st.set i (a5 (.own,u))):=by
 change yr i st=_;unfold yr;rw[h]
def Fj(c:st[i]?=a5 (a5 (.own,.Ji ks us)))(d:Run (ev Γ a) st (k,.str y) st)(e:Run (ev Γ b) st z st)(f:Run (lift z) st u st)(g:(match d0 ks us y with|some v=>(Kd.loc,v)|none=>(.loc,u))=r):
  Run (ev Γ (.LY i a b)) st r st:=by
 show aa (dM c) (aa (a:=()) (st1:=st) rfl (aa d (aa (a:=y) (st1:=st) rfl (aa e (aa f (aa (dM c) (cw ?_)))))));subst g;rfl
def Hx(b:st[i]?=a5 (a5 (.own,.lst us)))(d:Run (ev Γ e) st (k1,.int (j:Nat)) st)(c:us[j]?=a5 (.int o))(g:Run (ev Γ h) st (k2,.int w) st)
  (k:Run (execs Γ ss) (st.set i (a5 (.own,.lst (us.set j (.int (o - w)))))) f l):Run (execs Γ (.aug bD i e h::ss)) st f l:=by
 have hl:qw i st=a5 (.ok us,st):=by unfold qw;rw[b];rfl
 have m:j<us.length:=(dV.mp c).1;have n:qx us (j:Nat)=a5 o:=by
  unfold qx;rw[Ł ⋯,Ql,c]
 have p:MJ us.length (j:Nat)=a5 j:=by
  unfold MJ;rw[Ł ⋯]
  first|(rw[Ł ⋯];simp)|simp[m]
 show eC (aa (a:=us) (st1:=st) hl (aa d (aa (a:=(j:Int)) (st1:=st) rfl (aa (a:=us) (st1:=st) hl (aa (cw n) (aa g (aa (a:=w) (st1:=st) rfl (aa (a:=()) (st1:=st.set i (a5 (.own,.lst (us.set j (.int (o - w)))))) ?_ aK)))))))) k;change modS i (eI (.int (j:Nat)) (.int (we bD o w))) st=_;unfold modS;rw[b];simp only[Kd.root,if_true,eI];rw[p];rfl
def Hy(a:st[i]?=a5 (a5 (.own,u)))(b:yp u=a5 r):Run (ev Γ (.Px i)) st r st:=aa (dM a) (cw b)
end
theorem lW(f:Str->U)(y:Str):∀ks:List Str,d0 ks (ks.map f) y=if y∈ks then a5 (f y) else b8
 |[]=>rfl
 |k::ks=>by
  rw[ei];change(if k=y then a5 (f k) else d0 ks (ks.map f) y)=_;by_cases e:k=y
  .subst e;rw[Ł rfl,Ł (by simp)]
  .rw[ł e,lW f y ks];have:(y∈k::ks)↔y∈ks:=by simp[qs e]
   by_cases h:y∈ks
   .rw[Ł h,Ł (this.mpr h)]
   .rw[ł h,ł λz=>h (this.mp z)]
theorem qZ(f:Str->U)(y:Str)(u:U):∀ks:List Str,ks.Nodup->j_ ks (ks.map f) y u=ks.map λk=>if k=y then u else f k
 |[],_=>rfl
 |k::ks,h=>by
  have⟨a,b⟩:=mh.mp h;rw[ei,ei];change(if k=y then u::ks.map f else f k::j_ ks (ks.map f) y u)=_;by_cases e:k=y
  .subst e;rw[Ł rfl,Ł rfl];congr 1
   show vu λz hz=>?_;have c:z≠k:=λq=>a (by rw[<-q];show hz);rw[ł c]
  .rw[ł e,ł e,qZ f y u ks b]
abbrev stN(s:Str×Nat):U:=.tup [.str s.1,.int (s.2:Nat)]
theorem nW(f:α->Int):∀(ns:List α),intsOf (ns.map λa=>U.int (f a))=a5 (ns.map f)
 |[]=>rfl
 |n::ns=>by change(intsOf (ns.map λa=>U.int (f a))).map _=_;rw[nW f ns];rfl
def Cd(h:ps.length<64)(c:(ps.map (·.1)).Nodup):∃a:List (Str×Nat),a.Perm ps/\yp (.Ji (ps.map (·.1)) (ps.map λp=>.int (p.2:Nat)))=a5 (.own,.lst (a.map stN)):=by
 have d:=nW (λp:Str×Nat=>((p.2:Nat):Int)) ps;have hz:(ps.map (·.1)).zip (ps.map λp:Str×Nat=>((p.2:Nat):Int))=ps.map λp=>(p.1,((p.2:Nat):Int)):=by
  rw[List.zip_map']
 let P:=j7 ((ps.map λp=>(p.1,((p.2:Nat):Int))).map (·.1));have b:P.Perm (fx ps.length):=by
  have:=gv ((ps.map λp=>(p.1,((p.2:Nat):Int))).map (·.1));simpa[P] using this
 show⟨P.map λi=>ps.getD i (ti,0),?_,?_⟩
 .show(b.map _).trans ?_;have:(fx ps.length).map (λi=>ps.getD i (ti,0))=ps:=by
   apply LV
   .simp
   .intro i j e;simp[OC,e]
  rw[this]
 .change(intsOf (ps.map λp=>U.int (p.2:Nat))).bind _=_;rw[d];change(if (ps.map (·.1)).length<64/\(ps.map (·.1)).Nodup/\(ps.map (·.1)).length=(ps.map λp:Str×Nat=>((p.2:Nat):Int)).length then _ else _)=_;rw[Ł ⟨by simpa using h,c,by simp⟩,hz];congr 3
  change(A7 _).map v_=_;change(P.map λi=>(ps.map λp=>(p.1,((p.2:Nat):Int))).getD i (ti,0)).map v_=_;rw[kb,kb];show vu λi f=>?_;have g:i<ps.length:=ve.mp (b.mem_iff.mp f);simp[OC,g,v_,stN]
def Fm:bN .isin (.str x) (.Ji ks vs)=a5 (cK (x∈ks)):=rfl
def fj:bN .Jh (.str x) (.Ji ks vs)=a5 (!cK (x∈ks)):=rfl
def Hz{ss:List Str}:bN .isin (.str x) (.lst (ss.map U.str))=a5 (cK (x∈ss)):=by
 have h:=@eD x ss;have e:bN .Jh (.str x) (.lst (ss.map U.str))=(bN .isin (.str x) (.lst (ss.map U.str))).map (!·):=rfl;rw[e,ez]at h;have⟨b,a,c⟩:=h;rw[a];congr 1
 cases b<;>simp_all
def tm:bN .ne (.str a) (.str b)=a5 (!cK (a=b)):=by
 have:bN .ne (.str a) (.str b)=(bN .eq (.str a) (.str b)).map (!·):=by
  simp only[bN];rw[Ł ⟨rfl,rfl⟩,Ł ⟨rfl,rfl⟩];rfl
 rw[this,vd];rfl
def vi(bs:List Bool):Lf .all [(k,.lst (bs.map .bl))]=a5 (.loc,.bl (bs.all id)):=by
 change(gP (bs.map U.bl)).map _=_;have:∀bs:List Bool,gP (bs.map U.bl)=a5 bs:=λbs=>by
  induction bs with
  |nil=>rfl
  |cons b bs a=>change(gP (bs.map U.bl)).map _=_;rw[a];rfl
 rw[this];rfl
section
end
def vj(h:ks.length<1000)(a:x∉ks):eI (.str x) u (.Ji ks us)=a5 (.Ji (ks++[x]) (us++[u])):=by
 rw[vf h];unfold dput;rw[ł a]
def q9(h:Ky 50 (.lst us)=bD):bN .ne (.lst us) (.lst [])=a5 (!us.isEmpty):=by
 simp only[bN];rw[Ł ⟨h,by simp[Ky,eV]⟩];cases us with
 |_=>simp[cP,dc]
theorem nX(f:α->Int):∀(l:List α) (n:Nat),eV n (l.map λa=>U.int (f a))=bD
 |[],n=>by simp[eV]
 |a::l,n=>by rw[ei,eV,nX f l n];simp[Ky]
theorem q_:∀(ss:List (Str×Nat)) (n:Nat),eV (n+1) (ss.map stN)=bD
 |[],n=>by simp[eV]
 |s::ss,n=>by rw[ei,eV,q_ ss n];simp[stN,Ky,eV]
def vk:bN .eq (.tup (ss.map U.str)) (.tup [])=a5 (cK (ss=[])):=by
 simp only[bN];rw[Ł ⟨by simp[Ky,gC],by simp[Ky,eV]⟩];cases ss with
 |_=>simp[cP,dc]
theorem pF{cond:M Bool}(h:aX src st)(a b g:α->U)(p:α->Bool):∀(c:List α) (acc:List U),acc.length+c.length<=cL ->
  (∀y∈c,Run cond (a5 (.loc,a y)::a5 (.loc,b y)::st) (p y) (a5 (.loc,a y)::a5 (.loc,b y)::st)/\Run elt (a5 (.loc,a y)::a5 (.loc,b y)::st) (.loc,g y) (a5 (.loc,a y)::a5 (.loc,b y)::st)) ->
  Run (cv 2 bD cond elt src (c.map λy=>(Kd.loc,U.tup [a y,b y])) acc) st (acc++(c.filter p).map g) st
 |[],acc,_,_=>by rw[J0,SV,J0,rr];show u_ h
 |y::c,acc,hl,f=>by
  have⟨d,j⟩:=f y (by simp);rw[i6]at hl;have i:Run (dR bD (fx 2) (.loc,.tup [a y,b y])) (i2 2 b8++st) () (a5 (.loc,a y)::a5 (.loc,b y)::st):=nV (.inl rfl);cases e:p y with
  |true =>
   rw[e]at d;show pA (s1:=a5 (.loc,a y)::a5 (.loc,b y)::st) (s2:=a5 (.loc,a y)::a5 (.loc,b y)::st) (s3:=a5 (.loc,a y)::a5 (.loc,b y)::st) (s4:=a5 (.loc,a y)::a5 (.loc,b y)::st) h i d j aP ⋯ ?_;have:=pF h a b g p c (acc++[g y]) (by simp;lia) λz hz=>f z (by simp[hz]);rw[D8,Ł e,ei];simpa using this
  |false =>
   rw[e]at d;show zi (s1:=a5 (.loc,a y)::a5 (.loc,b y)::st) (s2:=a5 (.loc,a y)::a5 (.loc,b y)::st) h i d ?_;have:=pF h a b g p c acc ⋯ λz hz=>f z (by simp[hz]);rw[D8,ł (by simp[e])];show this
def set_range(n:Nat)(f:Nat->α)(t:Nat)(v:α):((fx n).map f).set t v=(fx n).map λp=>if p=t then v else f p:=by
 apply LV
 .simp
 .intro i a b;simp only[List.getElem_set,VN,List.getElem_range];by_cases e:t=i
  .subst e;simp
  .rw[ł e,ł (qs e)]
def Ce{rows:List Row}{t:Nat}(h:rows[t]?=a5 r):J9 (rows.map B') (t:Int)=a5 (B' r):=iF (by simp[h])
section
def CU(c:Run (ev Γ a) st x st1)(d:ia x.2=a5 e)(f:Run (ev Γ b) st1 y st2)(g:ia y.2=a5 h)(i:qr ln e h=a5 r):Run (ev Γ (.N6 ln a b)) st r st2 :=
 aa c (aa (cw d) (aa f (aa (cw g) (cw i))))
end
def gE(h:ss.length<4000):ia (.lst (ss.map .str))=a5 (aD ss):=by
 change(strsOf (ss.map U.str)).bind _=_;rw[dX];change(if ss.length+1<x3 then _ else _)=_;rw[Ł (by change ss.length+1<4096;lia)]
def ra(c:l.Perm m)(hs:m.Pairwise (λa b=>Lp a b=bD)):aH l=m:=gr ((bc l).trans c) (e_ l) hs
end TM
namespace TM
open PySem L2
section
def dJ(h:st[i]?=a5 (a5 (.io,u))):Run (ev Γ (.var i)) st (.bor i,u) st:=dM h
end
abbrev Fo:List S :=
   [.ite (.cmp .eq (.bi .len [.var 0]) (.cst (.int 0)))
      [.ret (.lst [.var 1,.cst (.int 0),.cst (.int 1)])]
      [],
    .set 2 (.pop 0),
    .ret (.lst [(.bin .OI (.var 2) (.cst (.int 2))),(.cst (.int 0)),(.bin .mod (.var 2) (.cst (.int 2)))])]
abbrev zt:Fn:=⟨"_law_source",2,3,.Mq [0]::Fo⟩
def Wi:(3:Nat)<=cL:=by decide
def zu:gH Γ zt [0] Fo [.lst [],.int k]=a5 (.ok (.own,.tup [.lst [.int k,.int 0,.int 1],.lst []])):=by
 show cn (st0:=[a5 (.io,.lst []),a5 (.loc,.int k),b8]) (f:=.rt .own (.lst [.int k,.int 0,.int 1])) (st:=[a5 (.io,.lst []),a5 (.loc,.int k),b8]) rfl rfl ?_ rfl rfl;apply pz
 all_goals repeat' (first|show dJ rfl|show bI (by simp)|show cj|show Wi|sizeOf_list_dec)
def zw:gH Γ zt [0] Fo [.lst ((ns++[c]).map .int),.int k]=a5 (.ok (.own,.tup [.lst [.int (c / 2),.int 0,.int (c % 2)],.lst (ns.map .int)])):=by
 have hl:bN .eq (.int (((ns++[c]).map U.int).length:Nat)) (.int 0)=a5 cc:=bI (by simp;lia);have a:((ns++[c]).map U.int).dropLast=ns.map .int:=by simp
 have b:Run (ev Γ (.pop 0)) [a5 (.io,.lst ((ns++[c]).map .int)),a5 (.loc,.int k),b8] (.loc,.int c) [a5 (.io,.lst (ns.map .int)),a5 (.loc,.int k),b8]:=by
  have:=Ho (Γ:=Γ) (st:=[a5 (.io,.lst ((ns++[c]).map .int)),a5 (.loc,.int k),b8]) (i:=0) (u:=.int c) (us:=(ns++[c]).map .int) (k:=.io) rfl rfl (by simp);rw[a]at this;show this
 show cn (st0:=[a5 (.io,.lst ((ns++[c]).map .int)),a5 (.loc,.int k),b8]) (f:=.rt .own (.lst [.int (c / 2),.int 0,.int (c % 2)])) (st:=[a5 (.io,.lst (ns.map .int)),a5 (.loc,.int k),a5 (.loc,.int c)]) rfl rfl ?_ rfl rfl;show bA (st1:=[a5 (.io,.lst ((ns++[c]).map .int)),a5 (.loc,.int k),b8]) ?_ ax (aw (st2:=[a5 (.io,.lst (ns.map .int)),a5 (.loc,.int k),a5 (.loc,.int c)]) b aE ?_)
 all_goals repeat' (first|show dJ rfl|show hl|show cj|show Wi|sizeOf_list_dec)
abbrev fP(a t w:Int):U:=.lst [.int a,.int t,.int w]
abbrev nY(a t w m:Int):Int:=if w=0 then a % m else((a % 10 ^ 15+1) * 48271+(t+1) * (t+1) * 16807+(t+1) * 7919) % 2147483647 * 69621 % 2147483629 % m
abbrev zx(a w m:Int):Int:=if w=0 then a / m else a
abbrev CV:List S :=
   [.put 0 (.cst (.int 1)) (.bin .add (.idx (.var 0) (.cst (.int 1))) (.cst (.int 1))),
    .ite (.cmp .eq (.idx (.var 0) (.cst (.int 2))) (.cst (.int 0)))
      [.set 2 (.bin .mod (.idx (.var 0) (.cst (.int 0))) (.var 1)),
      .put 0 (.cst (.int 0)) (.bin .OI (.idx (.var 0) (.cst (.int 0))) (.var 1)),
      .ret (.var 2)]
      [],
    .set 3 (.idx (.var 0) (.cst (.int 1))),
    .set 4 (.bin .add (.bin .add (.bin .mul (.bin .add (.bin .mod (.idx (.var 0) (.cst (.int 0))) (.bin .pow (.cst (.int 10)) (.cst (.int 15)))) (.cst (.int 1))) (.cst (.int 48271))) (.bin .mul (.bin .mul (.var 3) (.var 3)) (.cst (.int 16807)))) (.bin .mul (.var 3) (.cst (.int 7919)))),
    .ret (.bin .mod (.bin .mod (.bin .mul (.bin .mod (.var 4) (.cst (.int 2147483647))) (.cst (.int 69621))) (.cst (.int 2147483629))) (.var 1))]
abbrev vm:Fn:=⟨"_law_draw",2,5,.Mq [0]::CV⟩
def zA(i:0<=t)(j:t<2 ^ 62)(m0:0<m)(m1:m<1073741824):gH Γ vm [0] CV [fP a t w,.int m]=a5 (.ok (.loc,.tup [.int (nY a t w m),fP (zx a w m) (t+1) w])):=by
 unfold nY zx fP;have c:∀a t w:Int,J9 [U.int a,.int t,.int w] 0=a5 (.int a):=λa t w=>rfl;have d:∀a t w:Int,J9 [U.int a,.int t,.int w] 1=a5 (.int t):=λa t w=>rfl;have e:∀a t w:Int,J9 [U.int a,.int t,.int w] 2=a5 (.int w):=λa t w=>rfl;have g:∀a t w x:Int,eI (.int 1) (.int x) (.lst [.int a,.int t,.int w])=a5 (.lst [.int a,.int x,.int w]):=λa t w x=>rfl;have h:∀a t w x:Int,eI (.int 0) (.int x) (.lst [.int a,.int t,.int w])=a5 (.lst [.int x,.int t,.int w]):=λa t w x=>rfl;by_cases b:w=0
 .subst b;rw[Ł rfl,Ł rfl];show cn (st0:=[a5 (.io,.lst [.int a,.int t,.int 0]),a5 (.loc,.int m),b8,b8,b8]) (f:=.rt .loc (.int (a % m))) (st:=[a5 (.io,.lst [.int (a / m),.int (t+1),.int 0]),a5 (.loc,.int m),a5 (.loc,.int (a % m)),b8,b8]) rfl rfl ?_ rfl rfl;show jb (rv:=(.loc,.int (t+1))) (rk:=(.loc,.int 1)) (k:=.io) (k':=.io) (bB (bL (dJ rfl) ai ∅ (cN (d _ _ _))) ai ∅ cu) rfl ai (aJ aP (aJ aP aM)) rfl rfl (g _ _ _ _) ?_;apply pz
  .repeat' (first|show dJ rfl|show cN (e _ _ _)|show bI (show((0:Int)==0)=bD from rfl)|sizeOf_list_dec)
  .show aw (st2:=[a5 (.io,.lst [.int a,.int (t+1),.int 0]),a5 (.loc,.int m),a5 (.loc,.int (a % m)),b8,b8]) (bB (bL (dJ rfl) ai ∅ (cN (c _ _ _))) (af rfl) ∅ (eR m0)) aE ?_;show jb (rv:=(.loc,.int (a / m))) (rk:=(.loc,.int 0)) (k:=.io) (k':=.io) (bB (bL (dJ rfl) ai ∅ (cN (c _ _ _))) (af rfl) ∅ (lQ ⟨m0,m1⟩)) rfl ai (aJ aP (aJ aP aM)) rfl rfl (h _ _ _ _) ?_
   repeat' sizeOf_list_dec
 .rw[ł b,ł b];show cn (st0:=[a5 (.io,.lst [.int a,.int t,.int w]),a5 (.loc,.int m),b8,b8,b8]) (f:=.rt .loc (.int (((a % 10 ^ 15+1) * 48271+(t+1) * (t+1) * 16807+(t+1) * 7919) % 2147483647 * 69621 % 2147483629 % m))) (st:=[a5 (.io,.lst [.int a,.int (t+1),.int w]),a5 (.loc,.int m),b8,a5 (.loc,.int (t+1)),a5 (.loc,.int ((a % 10 ^ 15+1) * 48271+(t+1) * (t+1) * 16807+(t+1) * 7919))]) rfl rfl ?_ rfl rfl;show jb (rv:=(.loc,.int (t+1))) (rk:=(.loc,.int 1)) (k:=.io) (k':=.io) (bB (bL (dJ rfl) ai ∅ (cN (d _ _ _))) ai ∅ cu) rfl ai (aJ aP (aJ aP aM)) rfl rfl (g _ _ _ _) ?_;apply bA
  .repeat' (first|show dJ rfl|show cN (e _ _ _)|show bI (show(w==0)=cc by simp[b])|sizeOf_list_dec)
  .show ax
  .repeat' (first|show dJ rfl|show cN (c _ _ _)|show cN (d _ _ _)|show eR m0|sizeOf_list_dec)
abbrev Src(T:Int)(u:U):Prop:=∃a t w,u=fP a t w/\0<=t/\t<=T
def Src.up(h:Src T u)(l:T<=b):Src b u:=let ⟨a,t,w,e,c,d⟩:=h;⟨a,t,w,e,c,ģ d l⟩
abbrev bb(Γ:Tab):Prop:=∀(T m:Int) (u:U),Src T u->T<2 ^ 62->0<m->m<1073741824->∃n u',Γ "_law_draw" [u,.int m]=a5 (.ok (.loc,.tup [.int n,u']))/\0<=n/\n<m/\Src (T+1) u'
def rb(m0:0<m):0<=nY a t w m/\nY a t w m<m:=by
 unfold nY;split
 .show⟨QW _ ⋯,RY _ m0⟩
 .show⟨QW _ ⋯,RY _ m0⟩
def tq(h:Jz Pg "_law_draw" vm):bb (Jq Pg (d+1)):=by
 rintro T m u ⟨a,t,w,rfl,b,c⟩ e m0 m1;show⟨nY a t w m,fP (zx a w m) (t+1) w,?_,(rb m0).1,(rb m0).2,⟨_,_,_,rfl,⋯,⋯⟩⟩;rw[cJ h _ rfl];show zA b ⋯ m0 m1
section
def zB(o:bb Γ)(p:st[i]?=a5 (a5 (k0,b)))(f:k0.root=bD)(q:Run (ev Γ e) st (.loc,.int m) st1)(d:st1[i]?=a5 (a5 (k,u)))(hk:k.root=bD)(g:Src T u)(r:T<2 ^ 62)(m0:0<m)(m1:m<1073741824):
  ∃n u',Run (ev Γ (.Jf "_law_draw" [.var i,e] [0])) st (.loc,.int n) (st1.set i (a5 (k,u')))/\0<=n/\n<m/\Src (T+1) u':=by
 have⟨n,u',s,v,x,hs⟩:=o T m u g r m0 m1;show⟨n,u',?_,v,x,hs⟩;obtain⟨a,t,w,rfl,_,_⟩:=hs;obtain⟨a0,h,l,rfl,_,_⟩:=g;have y:Run (ev Γ (.var i)) st (.bor i,b) st:=by
  have:=dM p (by rintro rfl;cases f);unfold kv at this;rw[Ł f]at this;show this
 have c:[((Kd.bor i,b):Kd×U),(.loc,.int m)].map (eG st1)=[(.bor i,fP a0 h l),(.loc,.int m)]:=by
  change [eG st1 (.bor i,b),(.loc,.int m)]=_;unfold eG
  dsimp only
  rw[d];simp[hk]
 show sZ (rs:=[(.bor i,b),(.loc,.int m)]) (ws:=[fP a t w]) (st1:=st1) (ae y (ae q aj)) ?_ ?_ (.inr rfl) ?_ ?_
 .rw[c];show⟨⟨k,hk,d⟩,trivial⟩
 .rw[c];show s
 .rw[c];change((bD&&cK ([a5 i].Nodup))&&(bD&&(bD&&bD)))=bD;simp
 .rw[c];change(match ib [(Kd.bor i,fP a0 h l),(.loc,.int m)] 0 with|some j=>(match fP a t w,st1[j]? with|.lst us,a5 (a5 (k,_))=>gQ _ [] [] (st1.set j (a5 (k,.lst us)))|_,_=>b8)|none=>b8)=_;change(match fP a t w,st1[i]? with|.lst us,a5 (a5 (k,_))=>gQ _ [] [] (st1.set i (a5 (k,.lst us)))|_,_=>b8)=_;rw[d];rfl
def cy(b:bb Γ)(a:st[i]?=a5 (a5 (k,u)))(hk:k.root=bD)(c:Run (ev Γ e) st (.loc,.int m) st)(d:Src T u)(f:T<2 ^ 62)(m0:0<m)(m1:m<1073741824):
  ∃n u',Run (ev Γ (.Jf "_law_draw" [.var i,e] [0])) st (.loc,.int n) (st.set i (a5 (k,u')))/\0<=n/\n<m/\Src (T+1) u':=zB b a hk c a hk d f m0 m1
end
section
def gh(h:st[i]?=a5 (a5 (.loc,.bl b))):Run (JC Γ (.var i)) st b st:=aa (dM h) (cw rfl)
end
abbrev zC:List S :=
   [.set 6 (.idx (.var 1) (.Jf "_law_draw" [.var 0,.bi .len [.var 1]] [0])),
   .ite (.and [.var 3,.cmp .gt (.var 2) (.cst (.int 0))])
    [.set 6 (.idx (.var 1) (.Jf "_law_draw" [.var 0,.var 2] [0]))]
    [],
   .ite (.cmp .Jh (.var 6) (.var 4))
    [.app 4 (.var 6)]
    []]
abbrev HA:List U:=[.int 0,.int 1,.int 1,.int 2,.int 2,.int 3,.int 8,.int 2]
abbrev HB:List S :=
   [.set 4 (.lst []),
    .Jy cc [5] .Kj [.idx (.lst [.cst (.int 0),.cst (.int 1),.cst (.int 1),.cst (.int 2),.cst (.int 2),.cst (.int 3),.cst (.int 8),.cst (.int 2)]) (.Jf "_law_draw" [.var 0,.cst (.int 8)] [0])] zC,
    .ret (.tup [(.idx (.var 1) (.var 2)),(.bi .tuple [(.var 4)])])]
abbrev Fp:Fn:=⟨"_law_row",4,7,.Mq [0]::HB⟩
abbrev eE(u:U)(ws:List Str)(at_:Int)(b:Bool)(told:List Str)(o5 o6:Option (Kd×U)):ay:=[a5 (.io,u),a5 (.any,.lst (ws.map .str)),a5 (.loc,.int at_),a5 (.loc,.bl b),a5 (.own,.lst (told.map .str)),o5,o6]
def pG{ws:List Str}{n:Int}(b:0<=n)(c:n<ws.length):∃x,x∈ws/\ws[n.toNat]?=a5 x/\J9 (ws.map U.str) n=a5 (.str x):=by
 have⟨k,rfl⟩:=u7 b;have a:k<ws.length:=by lia
 show⟨ws[k],KH a,by simp[a],iF (by simp[a])⟩
def zD(h:bb Γ)(r:Src T u)(G:T+1<2 ^ 62)(H:ws.length<1000000)(a0:0<=at_)(I:at_<ws.length)(J:told.length<=8):
  ∃u' x a,Run (execs Γ zC) (eE u ws at_ b told o5 o6) .nx (eE u' ws at_ b a o5 (a5 (.any,.str x)))/\Src (T+2) u'/\(a=told\/(x∈ws/\x∉told/\a=told++[x])):=by
 have s:(8:Nat)<cL:=by decide
 have⟨n,d,t,v,j,s1⟩:=cy (st:=eE u ws at_ b told o5 o6) h (i:=0) (k:=.io) (e:=.bi .len [.var 1]) (m:=((ws.map U.str).length:Nat)) rfl rfl (cI (ae (aT rfl) aj) trivial cj) r ⋯ (by simp;lia) (by simp;lia);rw[df]at j;obtain⟨x,w,_,ex⟩:=pG v j;have l:Run (ev Γ (.idx (.var 1) (.Jf "_law_draw" [.var 0,.bi .len [.var 1]] [0]))) (eE u ws at_ b told o5 o6) (.any,.str x) (eE d ws at_ b told o5 o6):=bL (aT rfl) t trivial (cN (k:=.any) ex);have c:∀(u2:U) (y:Str),y∈ws->Src (T+2) u2->∃u' x a,Run (execs Γ [.ite (.cmp .Jh (.var 6) (.var 4)) [.app 4 (.var 6)] []]) (eE u2 ws at_ b told o5 (a5 (.any,.str y))) .nx (eE u' ws at_ b a o5 (a5 (.any,.str x)))/\Src (T+2) u'/\(a=told\/(x∈ws/\x∉told/\a=told++[x])):=by
  intro u2 y f hs;by_cases g:y∈told
  .show⟨u2,y,told,?_,hs,.inl rfl⟩;show bA (aG (aT rfl) (aA rfl) ∅ (eD.trans (by simp[g]))) ax ax
  .show⟨u2,y,told++[y],?_,hs,.inr ⟨f,g,rfl⟩⟩;show dH (aG (aT rfl) (aA rfl) ∅ (eD.trans (by simp[g]))) (gc (k:=.own) (k':=.own) rfl (aT rfl) (qL rfl) rfl rfl (by simp;lia) ax) ?_;rw[show told.map U.str++[U.str y]=(told++[y]).map U.str by simp];show ax
 by_cases o:b=bD/\0<at_
 .have⟨rfl,p⟩:=o;have⟨L,u2,A,B,C,s2⟩:=cy (st:=eE d ws at_ bD told o5 (a5 (.any,.str x))) h (i:=0) (k:=.io) (e:=.var 2) (m:=at_) rfl rfl (af rfl) s1 ⋯ p ⋯;obtain⟨y,f,_,D⟩:=pG (ws:=ws) B ⋯;have⟨u',z,a,q,hs,ho⟩:=c u2 y f (s2.up ⋯);show⟨u',z,a,aw l ja (dH (fi (ij (gh rfl) (cE (aG (af rfl) ai trivial (fM (by simp[p])))))) (aw (bL (aT rfl) A trivial (cN (k:=.any) D)) ja ax) q),hs,ho⟩
 .have⟨u',z,a,q,hs,ho⟩:=c d x w (s1.up ⋯);show⟨u',z,a,aw l ja (bA (st1:=eE d ws at_ b told o5 (a5 (.any,.str x))) (fi ?_) ax q),hs,ho⟩;cases b with
  |false=>show pw (gh rfl)
  |true=>show ij (gh rfl) (cE (aG (af rfl) ai trivial (fM (by simp at o ⊢;lia))))
abbrev lX(Γ:Tab):Prop:=∀(T at_:Int) (u:U) (ws:List Str) (b:Bool),Src T u->T+17<2 ^ 62->ws.length<1000000->0<=at_->at_<ws.length->∃(x:Str) (told:List Str) (u':U),Γ "_law_row" [u,.lst (ws.map .str),.int at_,.bl b]=a5 (.ok (.loc,.tup [.tup [.str x,.tup (told.map .str)],u']))/\ws[at_.toNat]?=a5 x/\told.Nodup/\(∀y∈told,y∈ws)/\told.length<=8/\Src (T+17) u'
def Cg(a:0<=n)(b:n<8):∃m:Nat,m<=8/\J9 HA n=a5 (.int (m:Nat)):=by
 have⟨k,rfl⟩:=u7 a;have:k=0\/k=1\/k=2\/k=3\/k=4\/k=5\/k=6\/k=7:=by lia
 rcases this with rfl|rfl|rfl|rfl|rfl|rfl|rfl|rfl
 .show⟨0,⋯,rfl⟩
 .show⟨1,⋯,rfl⟩
 .show⟨1,⋯,rfl⟩
 .show⟨2,⋯,rfl⟩
 .show⟨2,⋯,rfl⟩
 .show⟨3,⋯,rfl⟩
 .show⟨8,⋯,rfl⟩
 .show⟨2,⋯,rfl⟩
def Ci(l:bb Γ){ws:List Str}{T at_:Int}(o:Src T u)(hT:T+17<2 ^ 62)(A:ws.length<1000000)(a0:0<=at_)(p:at_<ws.length):
  ∃(x:Str) (told:List Str) (u':U),gH Γ Fp [0] HB [u,.lst (ws.map .str),.int at_,.bl b]=a5 (.ok (.loc,.tup [.tup [.str x,.tup (told.map .str)],u']))/\ws[at_.toNat]?=a5 x/\told.Nodup/\(∀y∈told,y∈ws)/\told.length<=8/\Src (T+17) u':=by
 have B:(8:Nat)<cL:=by decide
 obtain⟨x,_,C,ex⟩:=pG a0 p;have⟨n,s,D,G,H,s1⟩:=cy (st:=eE u ws at_ b [] b8 b8) l (i:=0) (k:=.io) (e:=.cst (.int 8)) (m:=8) rfl rfl ai o ⋯ ⋯ ⋯;have⟨m,hm,em⟩:=Cg G H;obtain⟨st',I,u2,told,o5,o6,rfl,s2,g,j,v,_⟩:=bU (rs:=[(.loc,.int (m:Nat))]) (t:=cc) (is:=[5]) (body:=execs Γ zC) (λi:Nat=>(Kd.loc,U.int (0+(i:Int)))) (λd r st=>∃(u2:U) (told:List Str) (o5 o6:Option (Kd×U)),st=eE u2 ws at_ b told o5 o6/\Src (T+1+2 * (d.length:Nat)) u2/\told.Nodup/\(∀y∈told,y∈ws)/\told.length<=d.length/\d.length+r.length=m)
  (λd r st _=>trivial) (λd y r st h=>by
   have⟨u2,told,o5,o6,rfl,s2,g,j,v,J⟩:=h;simp only[i6]at J;have⟨L,z,N,q,s3,ho⟩:=zD l (u:=u2) (ws:=ws) (told:=told) (b:=b) (at_:=at_) (o5:=a5 (.loc,.int (0+(y:Int)))) (o6:=o6) s2 ⋯ A a0 p ⋯;show⟨eE u2 ws at_ b told (a5 (.loc,.int (0+(y:Int)))) o6,_,aE,q,L,N,_,_,rfl,s3.up (by simp;lia),?_⟩;rw[hY,Nz];rcases ho with rfl|⟨O,Q,rfl⟩
   .show⟨g,j,⋯,⋯⟩
   .show⟨ro.mpr ⟨g,by simp,λa Y c w=>by rw[hV]at w;subst w;show λe=>Q (e▸Y)⟩,λy hy=>?_,by simp;lia,⋯⟩;rcases hW.mp hy with hy|hy
    .show j y hy
    .rw[hV]at hy;subst hy;show O) (fx m) [] (eE s ws at_ b [] b8 b8) ⟨s,[],b8,b8,rfl,by simpa using s1,by simp,by simp,by simp,by simp⟩
 rw[i5,u6]at s2 v;show⟨x,told,u2,?_,C,g,j,⋯,s2.up ⋯⟩;show cn (st0:=[a5 (.io,u),a5 (.any,.lst (ws.map .str)),a5 (.loc,.int at_),a5 (.loc,.bl b),b8,b8,b8]) (f:=.rt .loc (.tup [.str x,.tup (told.map .str)])) (st:=eE u2 ws at_ b told o5 o6) rfl ?_ ?_ rfl rfl
 .obtain⟨_,_,_,rfl,_⟩:=o;rfl
 show aw (st2:=eE u ws at_ b [] b8 b8) (cD aj trivial aM (i8 _)) aZ ?_;show c8 (rs:=[(.loc,.int (m:Nat))]) (ae (bL (x:=(.own,.lst HA)) (cD (by repeat (first|show aj|show ae ai (by assumption)|apply ae ai)) (by show trivial) (by repeat (first|show aM|apply aJ aP)) (by decide)) D trivial (cN em)) aj) trivial (ip ⋯) rfl I ?_;show bP (gS (ae (bL (aT rfl) (af rfl) trivial (cN (k:=.any) ex)) (ae (cI (ae (aA rfl) aj) ∅ rfl) aj)) trivial (aJ (qL rfl) (aJ aP aM)) (by change 2<=cL;lia)) dN
def HC(a:bb (Jq Pg d))(h:Jz Pg "_law_row" Fp):lX (Jq Pg (d+1)):=by
 intro T at_ u ws b c f g a0 i;have⟨x,told,u',e,r⟩:=Ci a (b:=b) c f g a0 i;show⟨x,told,u',by rw[cJ h _ rfl];show e,r⟩
abbrev CW:List S :=
   [.ite (.and [.cmp .eq (.idx (.var 2) (.cst (.int 0))) (.idx (.var 1) (.cst (.int 0))),.cmp .eq (.bi .sorted [.idx (.var 2) (.cst (.int 1))]) (.bi .sorted [.idx (.var 1) (.cst (.int 1))])])
    [.Mp]
    []]
abbrev HD:List S:=[.Jy cc [2] .seq [.var 0] CW,.app 0 (.var 1)]
abbrev Cj:Fn:=⟨"_law_lay",2,3,.Mq [0]::HD⟩
abbrev gU(rs:List Row)(r:Row)(o:Option (Kd×U)):ay:=[a5 (.io,.lst (rs.map B')),a5 (.loc,B' r),o]
abbrev layR(rs:List Row)(r:Row):List Row:=if keyOf r∈rs.map keyOf then rs else rs++[r]
def zE(c:x.2.length<64)(d:r.2.length<64):Run (JC Γ (.and [.cmp .eq (.idx (.var 2) (.cst (.int 0))) (.idx (.var 1) (.cst (.int 0))),.cmp .eq (.bi .sorted [.idx (.var 2) (.cst (.int 1))]) (.bi .sorted [.idx (.var 1) (.cst (.int 1))])])) (gU rs r (a5 (.loc,B' x))) (cK (keyOf x=keyOf r)) (gU rs r (a5 (.loc,B' x))):=by
 have a:∀y:Row,h_ (.loc,B' y) (.int 0)=a5 (.loc,.str y.1):=λy=>rfl;have b:∀y:Row,h_ (.loc,B' y) (.int 1)=a5 (.loc,.tup (y.2.map .str)):=λy=>rfl;have f:Run (JC Γ (.cmp .eq (.idx (.var 2) (.cst (.int 0))) (.idx (.var 1) (.cst (.int 0))))) (gU rs r (a5 (.loc,B' x))) (cK (x.1=r.1)) (gU rs r (a5 (.loc,B' x))):=aG (bL (af rfl) ai trivial (a x)) (bL (af rfl) ai trivial (a r)) trivial vd;have g:Run (JC Γ (.cmp .eq (.bi .sorted [.idx (.var 2) (.cst (.int 1))]) (.bi .sorted [.idx (.var 1) (.cst (.int 1))]))) (gU rs r (a5 (.loc,B' x))) (cK (aH x.2=aH r.2)) (gU rs r (a5 (.loc,B' x))):=aG (cI (ae (bL (af rfl) ai trivial (b x)) aj) trivial (sorted_strs c)) (cI (ae (bL (af rfl) ai trivial (b r)) aj) trivial (sorted_strs d)) trivial jc;have e:cK (keyOf x=keyOf r)=(cK (x.1=r.1)&&cK (aH x.2=aH r.2)):=by
  rw[<-Bool.decide_and];show decide_eq_decide.mpr (by unfold keyOf;show WQ ..▸Iff.rfl)
 rw[e];show fi (lR f λ_=>cE g)
def Fq:Run (execs Γ (.Mp::ss)) st (.rt .loc .Jm) st:=lP (aK)
theorem rf(c:r.2.length<64):∀(xs:List Row) (o:Option (Kd×U)),(∀x∈xs,x.2.length<64) ->
  ∃b,Run (forM cc [2] (execs Γ CW) [(.bor 0,.lst (rs.map B'))] (xs.map λx=>(Kd.loc,B' x))) (gU rs r o) (if keyOf r∈xs.map keyOf then .rt .loc .Jm else .nx) (gU rs r b)
 |[],o,_=>⟨o,by rw[ł (by simp)];show CT ⟨⟨_,rfl,rfl⟩,trivial⟩⟩
 |x::xs,o,h=>by
  have a:=zE (Γ:=Γ) (rs:=rs) (h x (by simp)) c;by_cases hk:keyOf x=keyOf r
  .show⟨a5 (.loc,B' x),?_⟩;rw[Ł (by simp[hk])];rw[ń hk]at a;show IY ⟨⟨_,rfl,rfl⟩,trivial⟩ aE (pz a Fq)
  .rw[Ń hk]at a;have⟨b,q⟩:=rf (Γ:=Γ) (rs:=rs) c xs (a5 (.loc,B' x)) λy d=>h y (by simp[d]);show⟨b,?_⟩;have f:(keyOf r∈(x::xs).map keyOf)↔(keyOf r∈xs.map keyOf):=by
    rw[ei,d4];show⟨λz=>z.resolve_left λe=>hk e.symm,.inr⟩
   rw[show(if keyOf r∈(x::xs).map keyOf then Fl.rt .loc .Jm else Fl.nx)=(if keyOf r∈xs.map keyOf then Fl.rt .loc .Jm else Fl.nx) by simp only[f]];show Hn ⟨⟨_,rfl,rfl⟩,trivial⟩ aE (bA a ax ax) q
def Cm(b:r.2.length<64)(h:∀x∈rs,x.2.length<64)(hl:rs.length<1000):gH Γ Cj [0] HD [.lst (rs.map B'),B' r]=a5 (.ok (.loc,.tup [.Jm,.lst ((layR rs r).map B')])):=by
 have c:(1000:Nat)<cL:=by decide
 have⟨d,q⟩:=rf (Γ:=Γ) b rs b8 h;have hs:cU [0] [.lst (rs.map B'),B' r] Cj.ns=gU rs r b8:=by
  change [a5 (Kd.io,U.lst (rs.map B')),a5 (if JG (B' r)=bD then Kd.loc else Kd.any,B' r),b8]=_;rw[Ł (vc r)];rfl
 have a:KU .seq [(Kd.bor 0,U.lst (rs.map B'))]=a5 (rs.map λx=>(Kd.loc,B' x)):=by
  change a5 ((rs.map B').map λu=>(kE (.bor 0),u))=_;rw[kb];rfl
 unfold layR;by_cases hk:keyOf r∈rs.map keyOf
 .rw[Ł hk]at q ⊢;show cn (f:=.rt .loc .Jm) rfl hs (lP (CS (ae (dJ rfl) aj) ⟨⟨_,rfl,rfl⟩,trivial⟩ a rfl q)) rfl rfl
 .rw[ł hk]at q ⊢;show cn (f:=.nx) (st:=gU (rs++[r]) r d) rfl hs (c8 (ae (dJ rfl) aj) ⟨⟨_,rfl,rfl⟩,trivial⟩ a rfl q (gc (k:=.io) (k':=.io) rfl (af rfl) aP rfl rfl (by simp;lia) ?_)) rfl rfl;rw[show rs.map B'++[B' r]=(rs++[r]).map B' by simp];show ax
abbrev lY(Γ:Tab):Prop:=∀(rs:List Row) (r:Row),r.2.length<64->(∀x∈rs,x.2.length<64)->rs.length<1000->Γ "_law_lay" [.lst (rs.map B'),B' r]=a5 (.ok (.loc,.tup [.Jm,.lst ((layR rs r).map B')]))
def HE(h:Jz Pg "_law_lay" Cj):lY (Jq Pg (d+1)):=λrs r a b hl=>by
 rw[cJ h _ rfl];show Cm a b hl
abbrev RX:Kd×U->Bool
 |(.bor _,_)=>cc
 |_=>bD
section
def zF(h:RX r=bD):eG st r=r:=by
 have⟨k,u⟩:=r;cases k<;>first|rfl|cases h
def wQ(h:RX r=bD):qt a r=bD:=by
 have⟨k,u⟩:=r;cases k<;>first|rfl|cases h
def zG(h:rs.all RX=bD):aX rs st:=by
 induction rs with
 |nil=>trivial
 |cons r rs a =>
  have⟨k,u⟩:=r;rw[ü,cb]at h;have:=a h.2;cases k<;>first|show this|cases h.1
def pH(h:st[i]?=a5 (a5 (k0,a)))(g:k0.root=bD)(j:Run (ba Γ es) st rs st1)(c:st1[i]?=a5 (a5 (k,.lst us)))(hk:k.root=bD)(l:cT us=bD)(m:rs.map (eG st1)=rs)(n:aX rs st1)(o:∀r∈rs,qt [a5 i] r=bD)
  (p:Γ f (.lst us::rs.map (·.2))=a5 (.ok (d,.tup [v,.lst us']))) (s:d=.own\/d=.loc):Run (ev Γ (.Jf f (.var i::es) [0])) st (d,v) (st1.set i (a5 (k,.lst us'))):=by
 have t:Run (ev Γ (.var i)) st (.bor i,a) st:=by
  have:=dM h (by rintro rfl;cases g);unfold kv at this;rw[Ł g]at this;show this
 have u:eG st1 (.bor i,a)=(.bor i,.lst us):=by
  unfold eG
  dsimp only
  rw[c];simp[hk]
 have b:((Kd.bor i,a)::rs).map (eG st1)=(.bor i,.lst us)::rs:=by rw[ei,u,m]
 have e:ib ((Kd.bor i,U.lst us)::rs) 0=a5 i:=by
  change(if cT us=bD then a5 i else b8)=_;rw[Ł l]
 show sZ (rs:=(.bor i,a)::rs) (ws:=[.lst us']) (st1:=st1) (ae t j) ?_ ?_ s ?_ ?_
 .rw[b];show⟨⟨k,hk,c⟩,n⟩
 .rw[b];show p
 .rw[b];unfold qu;rw[cb,cb];show⟨⟨by simp[e],by simp⟩,i7.mpr λq w=>?_⟩;cases q with
  |zero=>simp
  |succ q =>
   have hl:q<rs.length:=by have:=ve.mp w;simpa using this
   rw[Lx];show .inr ?_;rw[show((Kd.bor i,U.lst us)::rs).getD (q+1) (.loc,.Jm)=rs[q] by simp[OC,hl]];simp only[ei,J0,e];show o _ (KH hl)
 .rw[b];unfold gQ;rw[e]
  dsimp only
  rw[c];rfl
def iu(d:st[i]?=a5 (a5 (k0,n)))(e:k0.root=bD)(g:Run (ba Γ es) st rs st1)(h:st1[i]?=a5 (a5 (k,.lst us)))(hk:k.root=bD)(j:cT us=bD)(a:rs.all RX=bD)
  (l:Γ f (.lst us::rs.map (·.2))=a5 (.ok (b,.tup [v,.lst us']))) (m:b=.own\/b=.loc):Run (ev Γ (.Jf f (.var i::es) [0])) st (b,v) (st1.set i (a5 (k,.lst us'))) :=
 pH d e g h hk j ((vu λr c=>zF (i7.mp a r c)).trans (Zk rs)) (zG a) (λr c=>wQ (i7.mp a r c)) l m
end
section
def zH(p:lX Γ){ws:List Str}(c:st[i]?=a5 (a5 (k0,G)))(d:k0.root=bD)(f:st[j]?=a5 (a5 (kw,.lst (ws.map .str))))(q:kw=.loc\/kw=.any)(g:Run (ev Γ e) st (.loc,.int at_) st1)(h:Run (ev Γ t) st1 (.loc,.bl b) st2)
  (l:st2[i]?=a5 (a5 (k,u))) (hk:k.root=bD) (m:Src T u) (s:T+17<2 ^ 62) (v:ws.length<1000000) (a0:0<=at_) (z:at_<ws.length) :
  ∃(r:Row) (u':U),Run (ev Γ (.Jf "_law_row" [.var i,.var j,e,t] [0])) st (.loc,B' r) (st2.set i (a5 (k,u')))/\ws[at_.toNat]?=a5 r.1/\r.2.Nodup/\(∀y∈r.2,y∈ws)/\r.2.length<=8/\Src (T+17) u':=by
 have⟨x,told,u',n,A,B,C,D,o⟩:=p T at_ u ws b m s v a0 z;show⟨(x,told),u',?_,A,B,C,D,o⟩;obtain⟨a,t',w,rfl,_,_⟩:=m;obtain⟨H,I,J,rfl,_,_⟩:=o;rcases q with rfl|rfl
 .show iu (rs:=[(.loc,.lst (ws.map .str)),(.loc,.int at_),(.loc,.bl b)]) c d (ae (af f) (ae g (ae h aj))) l hk rfl rfl n (.inr rfl)
 .show iu (rs:=[(.any,.lst (ws.map .str)),(.loc,.int at_),(.loc,.bl b)]) c d (ae (aT f) (ae g (ae h aj))) l hk rfl rfl n (.inr rfl)
def zI(a:lY Γ)(b:st[i]?=a5 (a5 (k0,j)))(c:k0.root=bD)(d:Run (ev Γ e) st (.loc,B' r) st1)(f:st1[i]?=a5 (a5 (k,.lst (rs.map B'))))(hk:k.root=bD)(g:r.2.length<64)(h:∀x∈rs,x.2.length<64)(hl:rs.length<1000):
  Run (ev Γ (.Jf "_law_lay" [.var i,e] [0])) st (.loc,.Jm) (st1.set i (a5 (k,.lst ((layR rs r).map B')))) :=
 iu (rs:=[(.loc,B' r)]) b c (ae d aj) f hk (cq rs) rfl (a rs r g h hl) (.inr rfl)
def CY(a:Run (ev Γ e) st r st1)(b:Run (execs Γ ss) st1 f st2):Run (execs Γ (.exp e::ss)) st f st2:=eC (aa a aK) b
abbrev jg(Γ:Tab):Prop:=(∀k:Int,Γ "_law_source" [.lst [],.int k]=a5 (.ok (.own,.tup [fP k 0 1,.lst []])))/\∀(ns:List Int) (c k:Int),Γ "_law_source" [.lst ((ns++[c]).map .int),.int k]=a5 (.ok (.own,.tup [fP (c / 2) 0 (c % 2),.lst (ns.map .int)]))
def zJ(h:Jz Pg "_law_source" zt):jg (Jq Pg (d+1)):=⟨λk=>by rw[cJ h _ rfl];show zu,λns c k=>by rw[cJ h _ rfl];show zw⟩
theorem gF:∀ns:List Int,cT (ns.map U.int)=bD
 |[]=>rfl
 |n::ns=>by change(bD&&cT (ns.map U.int))=bD;rw[gF ns];rfl
def zK(a:jg Γ)(b:st[i]?=a5 (a5 (k0,h)))(d:k0.root=bD)(f:Run (ev Γ e) st (.loc,.int m) st1)(g:st1[i]?=a5 (a5 (k,.lst ((ns++[c]).map .int))))(hk:k.root=bD):
  Run (ev Γ (.Jf "_law_source" [.var i,e] [0])) st (.own,fP (c / 2) 0 (c % 2)) (st1.set i (a5 (k,.lst (ns.map .int)))) :=
 iu (rs:=[(.loc,.int m)]) b d (ae f aj) g hk (gF _) rfl (a.2 ns c m) (.inl rfl)
def Fs(a:jg Γ)(b:st[i]?=a5 (a5 (k0,g)))(c:k0.root=bD)(d:Run (ev Γ e) st (.loc,.int m) st1)(f:st1[i]?=a5 (a5 (k,.lst [])))(hk:k.root=bD):
  Run (ev Γ (.Jf "_law_source" [.var i,e] [0])) st (.own,fP m 0 1) (st1.set i (a5 (k,.lst []))) :=
 iu (rs:=[(.loc,.int m)]) b c (ae d aj) f hk rfl rfl (a.1 m) (.inl rfl)
end
abbrev tu:List S :=
   [.set 6 (.Jf "_law_draw" [.var 1,.bi .len [.var 2]] [0]),
   .ite (.cmp .eq (.var 4) (.cst (.int 3)))
    [.set 6 (.bin .mod (.var 5) (.bi .len [.var 2]))]
    [],
   .exp (.Jf "_law_lay" [(.var 3),(.Jf "_law_row" [(.var 1),(.var 2),(.var 6),(.cmp .gt (.var 4) (.cst (.int 1)))] [0])] [0])]
abbrev tw:List S :=
   [.set 7 (.Jf "_law_source" [.var 0,.cst (.int 0)] [0]),
   .exp (.Jf "_law_lay" [(.var 3),(.Jf "_law_row" [(.var 7),(.var 2),(.Jf "_law_draw" [(.var 7),(.bi .len [(.var 2)])] [0]),(.cmp .eq (.var 4) (.cst (.int 2)))] [0])] [0])]
abbrev dE(ns:List Int)(u:U)(ws:List Str)(rs:List Row)(way:Int)(o5 o6 o7:Option (Kd×U)):ay:=[a5 (.io,.lst (ns.map .int)),a5 (.io,u),a5 (.any,.lst (ws.map .str)),a5 (.own,.lst (rs.map B')),a5 (.loc,.int way),o5,o6,o7]
abbrev bX(ws:List Str)(r:Row):Prop:=r.1∈ws/\r.2.Nodup/\(∀y∈r.2,y∈ws)/\r.2.length<=8
abbrev dz(ws:List Str)(rs:List Row):Prop:=(∀r∈rs,bX ws r)/\(rs.map keyOf).Nodup
def dz.lay(h:dz ws rs)(d:bX ws r):dz ws (layR rs r):=by
 unfold layR;split
 .show h
 .rename_i hk;show⟨λx hx=>?_,?_⟩
  .rcases hW.mp hx with hx|hx
   .show h.1 x hx
   .rw[hV]at hx;subst hx;show d
  .rw[ke];show ro.mpr ⟨h.2,by simp,λa f c b=>by rw[ZR,hV]at b;subst b;show λe=>hk (e▸f)⟩
def rg:(layR rs r).length<=rs.length+1:=by
 unfold layR;split
 .lia
 .simp
def wR(s:bb Γ)(v:lX Γ)(w:lY Γ){k:Nat}(y:Src T u)(N:T+18<2 ^ 62)(O:0<ws.length)(z:ws.length<1000000)(h:dz ws rs)(hl:rs.length<1000):
  ∃u' a c,Run (execs Γ tu) (dE ns u ws rs way (a5 (.loc,.int (0+(k:Int)))) o6 o7) .nx (dE ns u' ws a way (a5 (.loc,.int (0+(k:Int)))) c o7)/\Src (T+18) u'/\dz ws a/\a.length<=rs.length+1:=by
 have⟨n,f,l,A,o,s1⟩:=cy (st:=dE ns u ws rs way (a5 (.loc,.int (0+(k:Int)))) o6 o7) s (i:=1) (k:=.io) (e:=.bi .len [.var 2]) (m:=((ws.map U.str).length:Nat)) rfl rfl (cI (ae (aT rfl) aj) trivial cj) y ⋯ (by simp;lia) (by simp;lia);rw[df]at o;have d:∀at_:Int,0<=at_->at_<ws.length->∃u' a c,Run (execs Γ [.exp (.Jf "_law_lay" [.var 3,.Jf "_law_row" [.var 1,.var 2,.var 6,.cmp .gt (.var 4) (.cst (.int 1))] [0]] [0])]) (dE ns f ws rs way (a5 (.loc,.int (0+(k:Int)))) (a5 (.loc,.int at_)) o7) .nx (dE ns u' ws a way (a5 (.loc,.int (0+(k:Int)))) c o7)/\Src (T+18) u'/\dz ws a/\a.length<=rs.length+1:=by
  intro at_ a0 B;have⟨r,u2,q,C,D,G,H,I⟩:=zH (st:=dE ns f ws rs way (a5 (.loc,.int (0+(k:Int)))) (a5 (.loc,.int at_)) o7) (st1:=dE ns f ws rs way (a5 (.loc,.int (0+(k:Int)))) (a5 (.loc,.int at_)) o7) (st2:=dE ns f ws rs way (a5 (.loc,.int (0+(k:Int)))) (a5 (.loc,.int at_)) o7) v (i:=1) (j:=2) (e:=.var 6) (t:=.cmp .gt (.var 4) (.cst (.int 1))) (k0:=.io) (k:=.io) (kw:=.any) (b:=cK (1<way)) rfl rfl rfl (.inr rfl) (af rfl) (lL (af rfl) ai trivial (fM rfl)) rfl rfl s1 ⋯ z a0 B;have J:bX ws r:=⟨my C,D,G,H⟩
  show⟨u2,layR rs r,_,CY (zI w (k0:=.own) (k:=.own) (rs:=rs) rfl rfl q rfl rfl ⋯ (λx L=>by have:=(h.1 x L).2.2.2;lia) hl) ax,I.up ⋯,h.lay J,rg⟩
 by_cases p:way=3
 .subst p;have⟨u',a,c,q,g⟩:=d ((0+(k:Int)) % (ws.length:Nat)) (QW _ ⋯) (RY _ ⋯);show⟨u',a,c,aw l aE (dH (aG (af rfl) ai trivial (bI rfl)) (aw (bB (af rfl) (cI (ae (aT rfl) aj) trivial cj) trivial (eR (by simp;lia))) aE ax) ?_),g⟩;rw[df];show q
 .have⟨u',a,c,q,g⟩:=d n A o;show⟨u',a,c,aw l aE (bA (aG (af rfl) ai trivial (bI (by simp[p]))) ax q),g⟩
def wU(o:jg Γ)(p:bb Γ)(s:lX Γ)(w:lY Γ)(L:0<ws.length)(y:ws.length<1000000)(d:dz ws rs)(hl:rs.length<1000):
  ∃a z,Run (execs Γ tw) (dE (ns++[c]) u ws rs way o5 o6 o7) .nx (dE ns u ws a way o5 o6 z)/\dz ws a/\a.length<=rs.length+1:=by
 have f:=zK (st:=dE (ns++[c]) u ws rs way o5 o6 o7) (st1:=dE (ns++[c]) u ws rs way o5 o6 o7) o (i:=0) (k0:=.io) (k:=.io) (e:=.cst (.int 0)) (m:=0) rfl rfl ai rfl rfl;have g:Src 0 (fP (c / 2) 0 (c % 2)):=⟨_,_,_,rfl,⋯,⋯⟩
 generalize fP (c / 2) 0 (c % 2)=v at f g;have⟨n,h,A,B,l,s1⟩:=cy (st:=dE ns u ws rs way o5 o6 (a5 (.own,v))) p (i:=7) (k:=.own) (e:=.bi .len [.var 2]) (m:=((ws.map U.str).length:Nat)) rfl rfl (cI (ae (aT rfl) aj) trivial cj) g ⋯ (by simp;lia) (by simp;lia);rw[df]at l;have⟨r,u2,q,C,D,G,H,N⟩:=zH (st:=dE ns u ws rs way o5 o6 (a5 (.own,v))) (st1:=dE ns u ws rs way o5 o6 (a5 (.own,h))) (st2:=dE ns u ws rs way o5 o6 (a5 (.own,h))) s (i:=7) (j:=2) (t:=.cmp .eq (.var 4) (.cst (.int 2))) (k0:=.own) (k:=.own) (kw:=.any) (b:=(way==2)) rfl rfl rfl (.inr rfl) A (lL (af rfl) ai trivial (bI rfl)) rfl rfl s1 ⋯ y B l;have I:bX ws r:=⟨my C,D,G,H⟩
 show⟨layR rs r,a5 (.own,u2),aw (st2:=dE ns u ws rs way o5 o6 (a5 (.own,v))) f aZ (CY (zI w (k0:=.own) (k:=.own) (rs:=rs) rfl rfl q rfl rfl ⋯ (λx J=>by have:=(d.1 x J).2.2.2;lia) hl) ax),d.lay I,rg⟩
abbrev tD:E:=.and [.cmp .gt (.bi .len [.var 0]) (.cst (.int 0)),.cmp .lt (.bi .len [.var 3]) (.cst (.int 60))]
def nZ:Run (JC Γ tD) (dE ns u ws rs way o5 o6 o7) (cK (0<ns.length)&&cK (rs.length<60)) (dE ns u ws rs way o5 o6 o7):=by
 show fi (lR (aG (cI (ae (dJ rfl) aj) ∅ cj) ai trivial (fM ?_)) λ_=>cE (aG (cI (ae (aA rfl) aj) ∅ cj) ai trivial (Hq ?_)))
 .rw[df];show decide_eq_decide.mpr ⋯
 .rw[df];show decide_eq_decide.mpr ⋯
def tE(m:jg Γ)(n:bb Γ)(o:lX Γ)(p:lY Γ)(q:0<ws.length)(r:ws.length<1000000):
  ∀(k f:Nat) (ns:List Int) (rs:List Row) (o7:Option (Kd×U)),ns.length=k->k<f->dz ws rs->rs.length<=60->∃d b i,Run (gG (JC Γ tD) (execs Γ tw) f) (dE ns u ws rs way o5 o6 o7) .nx (dE d u ws b way o5 o6 i)/\dz ws b/\b.length<=60/\d.length<=ns.length:=by
 intro k;induction k with
 |zero =>
  intro f ns rs o7 hk s h hl;obtain⟨f,rfl⟩:∃g,f=g+1:=⟨f - 1,⋯⟩
  have a:=nZ (Γ:=Γ) (ns:=ns) (u:=u) (ws:=ws) (rs:=rs) (way:=way) (o5:=o5) (o6:=o6) (o7:=o7);rw[Ń (show ¬0<ns.length by lia)]at a;show⟨ns,rs,o7,vh a,h,hl,hQ _⟩
 |succ k t =>
  intro f ns rs o7 hk s h hl;obtain⟨f,rfl⟩:∃g,f=g+1:=⟨f - 1,⋯⟩
  have a:=nZ (Γ:=Γ) (ns:=ns) (u:=u) (ws:=ws) (rs:=rs) (way:=way) (o5:=o5) (o6:=o6) (o7:=o7);rw[ń (show 0<ns.length by lia)]at a;by_cases j:rs.length<60
  .rw[ń j]at a;obtain⟨ms,c,rfl⟩:∃ms c,ns=ms++[c]:=by
    have l:ns≠[]:=λe=>by rw[e]at hk;cases hk
    show⟨ns.dropLast,ns.getLast l,(V6 l).symm⟩
   have v:ms.length=k:=by simpa using hk
   have⟨w,x,y,b1,C⟩:=wU (u:=u) (ws:=ws) (way:=way) (o5:=o5) (o6:=o6) (o7:=o7) (ns:=ms) (c:=c) m n o p q r h ⋯;have⟨d,b,i,z,A,B,D⟩:=t f ms w x v ⋯ b1 ⋯;show⟨d,b,i,zq a y z,A,B,by simp;lia⟩
  .rw[Ń j]at a;show⟨ns,rs,o7,vh a,h,hl,hQ _⟩
abbrev CZ:List S :=
   [.set 3 (.lst []),
    .set 4 (.Jf "_law_draw" [.var 1,.cst (.int 4)] [0]),
    .Jy cc [5] .Kj [.Jf "_law_draw" [.var 1,.cst (.int 25)] [0]] tu,
    .N7 tD tw,
    .ret (.bi .tuple [(.var 3)])]
abbrev pI:Fn:=⟨"_law_book",3,8,.Mq [0,1]::CZ⟩
def tF(x:jg Γ)(g:bb Γ)(l:lX Γ)(n:lY Γ){ns:List Int}(o:Src T u)(O:T+500<2 ^ 62)(Q:ns.length<1000)(p:0<ws.length)(s:ws.length<1000000):
  ∃(rs:List Row) (c:List Int) (u':U),gH Γ pI [0,1] CZ [.lst (ns.map .int),u,.lst (ws.map .str)]=a5 (.ok (.loc,.tup [.tup (rs.map B'),.lst (c.map .int),u']))/\dz ws rs/\rs.length<=60/\c.length<=ns.length/\Src (T+500) u':=by
 have z:(60:Nat)<cL:=by decide
 obtain⟨way,A,B,_,_,s1⟩:=cy (st:=[a5 (.io,.lst (ns.map .int)),a5 (.io,u),a5 (.any,.lst (ws.map .str)),a5 (.own,.lst []),b8,b8,b8,b8]) g (i:=1) (k:=.io) (e:=.cst (.int 4)) (m:=4) rfl rfl ai o ⋯ ⋯ ⋯;have⟨m,u2,C,m0,m1,s2⟩:=cy (st:=dE ns A ws [] way b8 b8 b8) g (i:=1) (k:=.io) (e:=.cst (.int 25)) (m:=25) rfl rfl ai s1 ⋯ ⋯ ⋯;have⟨m,rfl⟩:=u7 m0;obtain⟨st',D,a,b,o5,o6,rfl,s3,b3,v,_⟩:=bU (rs:=[(.loc,.int (m:Nat))]) (t:=cc) (is:=[5]) (body:=execs Γ tu) (λi:Nat=>(Kd.loc,U.int (0+(i:Int)))) (λd r st=>∃(a:U) (b:List Row) (o5 o6:Option (Kd×U)),st=dE ns a ws b way o5 o6 b8/\Src (T+2+18 * (d.length:Nat)) a/\dz ws b/\b.length<=d.length/\d.length+r.length=m)
  (λd r st _=>trivial) (λd y r st h=>by
   have⟨a,b,o5,o6,rfl,s3,b3,v,G⟩:=h;simp only[i6]at G;have⟨H,I,Y,q,s4,b4,w⟩:=wR (ns:=ns) (way:=way) (k:=y) (o6:=o6) (o7:=b8) g l n s3 ⋯ p s b3 ⋯;show⟨dE ns a ws b way (a5 (.loc,.int (0+(y:Int)))) o6 b8,_,aE,q,H,I,_,_,rfl,s4.up (by simp;lia),b4,?_,?_⟩
   .simp;lia
   .simp;lia) (fx m) [] (dE ns u2 ws [] way b8 b8 b8) ⟨u2,[],b8,b8,rfl,s2.up (by simp;lia),⟨by simp,by simp⟩,by simp,by simp⟩
 rw[i5,u6]at s3 v;have⟨c,j,J,L,b4,w,N⟩:=tE x g l n (u:=a) (way:=way) (o5:=o5) (o6:=o6) p s ns.length fuel ns b b8 rfl (by unfold fuel;lia) b3 ⋯;show⟨j,c,a,?_,b4,w,N,s3.up ⋯⟩;show cn (st0:=[a5 (.io,.lst (ns.map .int)),a5 (.io,u),a5 (.any,.lst (ws.map .str)),b8,b8,b8,b8,b8]) (f:=.rt .loc (.tup (j.map B'))) (st:=dE c a ws j way o5 o6 J) rfl ?_ ?_ rfl rfl
 .obtain⟨_,_,_,rfl,_⟩:=o;rfl
 show aw (cD aj trivial aM (i8 _)) aZ (aw B aE ?_);show c8 (rs:=[(.loc,.int (m:Nat))]) (ae C aj) trivial (ip ⋯) rfl D (zr L ?_);show bP (cI (ae (aA rfl) aj) ∅ rfl) dN
end TM
namespace TM
open PySem L2 JE
theorem zL{cond:M Bool}(it:α->Kd×U)(I:List α->List α->List U->ay->Prop)(hs:∀d r a st,I d r a st->aX src st)
  (Ø:∀d y q a st,I d (y::q) a st->∃s1 s2 s3 s4 r u,Run (dR t (fx k) (it y)) (i2 k b8++st) () s1/\Run cond s1 bD s2/\Run elt s2 r s3/\Run (lift r) s3 u s4/\I (d++[y]) q (a++[u]) (s4.drop k)) :
  ∀(b d:List α) (acc:List U) (st:ay),I d b acc st->acc.length+b.length<=cL->∃us st',Run (cv k t cond elt src (b.map it) acc) st us st'/\I (d++b) [] us st'
 |[],d,acc,st,h,_=>⟨acc,st,u_ (hs _ _ _ _ h),by rw[rr];show h⟩
 |y::b,d,acc,st,h,hl=>by
  rw[i6]at hl;have⟨s1,s2,s3,s4,r,u,c,e,f,g,i⟩:=Ø d y b acc st h;have⟨us,st',j,l⟩:=zL it I hs Ø b (d++[y]) (acc++[u]) _ i (by simp;lia);show⟨us,st',pA (hs _ _ _ _ h) c e f g ⋯ j,by simpa using l⟩
def rh(a:0<=n)(b:n<26):∃c,J9 small.cps.toList n=a5 c:=by
 have⟨k,rfl⟩:=u7 a;have hl:small.cps.toList.length=26:=by decide
 show⟨small.cps.toList[k]'⋯,iF (by simp)⟩
def zM(g:bb Γ)(j:Src T u)(w:T+8<2 ^ 62):
  ∃x u',Run (ev Γ (.N5 .join (.cst (.str "")) [.comp 1 cc .Kj [.cst (.int 8)] [] (.idx (.var 2) (.Jf "_law_draw" [.var 1,.cst (.int 26)] [0]))])) (a5 (.io,u)::a5 (.loc,.str small)::rest) (.loc,.str x) (a5 (.io,u')::a5 (.loc,.str small)::rest)/\x.length=8/\Src (T+8) u':=by
 have l:(100:Nat)<=cL:=by decide
 obtain⟨us,st',f,u',b,rfl,rfl,hl,hs,_⟩:=zL (k:=1) (t:=cc) (cond:=bh Γ []) (elt:=ev Γ (.idx (.var 2) (.Jf "_law_draw" [.var 1,.cst (.int 26)] [0]))) (src:=[(.loc,.int (8:Nat))]) (λi:Nat=>(Kd.loc,U.int (0+(i:Int))))
  (λd r a st=>∃(u':U) (b:List Nat),st=a5 (.io,u')::a5 (.loc,.str small)::rest/\a=(b.map JE.one).map U.str/\b.length=d.length/\Src (T+(d.length:Nat)) u'/\d.length+r.length=8) (λ_ _ _ _ _=>trivial)
  (λd y q a st h=>by
   have⟨u',b,rfl,rfl,hl,hs,o⟩:=h;rw[i6]at o;have⟨n,u2,r,p,s,s2⟩:=cy (st:=a5 (.loc,.int (0+(y:Int)))::a5 (.io,u')::a5 (.loc,.str small)::rest) g (i:=1) (k:=.io) (e:=.cst (.int 26)) (m:=26) rfl rfl ai hs ⋯ ⋯ ⋯;have⟨c,f⟩:=rh p s;show⟨_,_,_,_,_,_,fG aE,nR,bL (af rfl) r trivial (oC qP f),aP,u2,b++[c],rfl,by simp,by simp[hl],s2.up (by simp;lia),by simp;lia⟩)
  (fx 8) [] [] (a5 (.io,u)::a5 (.loc,.str small)::rest) ⟨u,[],rfl,rfl,rfl,by simpa using j,by simp⟩ (by simp;lia)
 rw[i5,u6]at hl hs;have v:mJ .join (.str "") [(.own,.lst ((b.map JE.one).map U.str))]=a5 (.loc,.str (TY ti (b.map JE.one))):=by
  change(strsOf ((b.map JE.one).map U.str)).bind _=_;rw[dX];change(if ø ti (b.map JE.one)=bD then _ else _)=_;rw[Ł (JE.qO b ⋯)];rfl
 show⟨TY ti (b.map JE.one),u',zg ai (ae (dI (ae ai aj) trivial (ip (n:=8) ⋯) f) aj) trivial v,?_,hs⟩;change(TY ti (b.map JE.one)).cps.size=8;rw[<-eM,JE.join_ones,hl]
abbrev zN:List S:=[.app 7 (.ite (.cmp .eq (.var 10) (.cst (.int 1))) (.var 9) (.bin .add (.bin .add (.var 9) (.cst (.str "/"))) (.bi .str [.var 10])))]
abbrev zO:List S :=
   .ite (.cmp .eq (.var 4) (.cst (.int 3)))
    [.set 10 (.bin .add (.cst (.int 1)) (.Jf "_law_draw" [.var 0,.cst (.int 99)] [0]))]
    []::zN
abbrev zP:List S :=
   .ite (.cmp .gt (.var 4) (.cst (.int 1)))
    [.set 9 (.bin .add (.idx (.var 1) (.bin .mod (.bin .add (.var 6) (.bin .mul (.cst (.int 7)) (.var 8))) (.cst (.int 26)))) (.Nh (.var 3) [.cst (.int 1)] [.var 5])),
    .set 10 (.cst (.int 1))]
    []::zO
abbrev tH:List S :=
   .set 9 (.Nh (.var 3) [] [.bin .add (.cst (.int 1)) (.bin .mod (.var 8) (.cst (.int 8)))]) ::
   .set 10 (.bin .add (.cst (.int 1)) (.bin .OI (.var 8) (.cst (.int 8)))) ::
   .ite (.cmp .eq (.var 4) (.cst (.int 1)))
    [.set 9 (.Nh (.var 3) [] [.var 5]),
    .set 10 (.bin .add (.cst (.int 1)) (.var 8))]
    []::zP
abbrev zQ:List S :=
   [.set 1 (.cst (.str "abcdefghijklmnopqrstuvwxyz")),
    .set 2 (.bin .add (.cst (.int 1)) (.Jf "_law_draw" [.var 0,.idx (.lst [.cst (.int 8),.cst (.int 16),.cst (.int 24)]) (.Jf "_law_draw" [.var 0,.cst (.int 3)] [0])] [0])),
    .set 3 (.N5 .join (.cst (.str "")) [.comp 1 cc .Kj [.cst (.int 8)] [] (.idx (.var 2) (.Jf "_law_draw" [.var 1,.cst (.int 26)] [0]))]),
    .set 4 (.Jf "_law_draw" [.var 0,.cst (.int 4)] [0]),
    .set 5 (.bin .add (.cst (.int 1)) (.Jf "_law_draw" [.var 0,.cst (.int 8)] [0])),
    .set 6 (.Jf "_law_draw" [.var 0,.cst (.int 26)] [0]),
    .set 7 (.lst []),
    .Jy cc [8] .Kj [.var 2] tH,
    .ret (.var 7)]
abbrev lZ:Fn:=⟨"_law_words",1,11,.Mq [0]::zQ⟩
abbrev jH(u:U)(many:Int)(base:Str)(way size first:Int)(acc:List Str)(o8 o9 o10:Option (Kd×U)):ay:=[a5 (.io,u),a5 (.loc,.str small),a5 (.loc,.int many),a5 (.loc,.str base),a5 (.loc,.int way),a5 (.loc,.int size),a5 (.loc,.int first),a5 (.own,.lst (acc.map .str)),o8,o9,o10]
def kF(h:x.length<=cL):qq (k,.str x) lo a=a5 (.loc,.str (PySem.StrLaws.sliceText x lo a)):=by
 change(if x.length<=cL then _ else _)=_;rw[Ł h]
def n9(e:acc.length<1000)(f:w.length<=9)(g:1<=s)(s1:s<=99):
  ∃x:Str,x.length<=20/\Run (execs Γ zN) (jH u many base way size first acc o8 (a5 (.loc,.str w)) (a5 (.loc,.int s))) .nx (jH u many base way size first (acc++[x]) o8 (a5 (.loc,.str w)) (a5 (.loc,.int s))):=by
 have b:(1000:Nat)<=cL:=by decide
 by_cases h:s=1
 .subst h;show⟨w,⋯,gc (k:=.own) (k':=.own) rfl (lN (aG (af rfl) ai trivial (bI rfl)) (af rfl)) aP rfl rfl (by simp;lia) ?_⟩;rw[show acc.map U.str++[U.str w]=(acc++[w]).map U.str by simp];show ax
 .have i:=wL (k:=s) ⋯ s1;have c:Lf .str [(.loc,.int s)]=a5 (.loc,.str (xJ s)):=by
   simp only[Lf,iQ,A6];rw[Ł (by
    have:s.natAbs<2 ^ 7:=by lia
    have d:s.natAbs≠0:=by lia
    have:=(Nat.log2_lt d).mpr this;lia)]
   rfl
  have a:(w++("/":Str)).length=w.length+1:=by rw[len_list,len_list,app_list,hY];rfl
  show⟨w++("/":Str)++xJ s,by rw[len_list,app_list,hY,<-len_list,<-len_list,a];lia,gc (k:=.own) (k':=.own) rfl (pv (aG (af rfl) ai trivial (bI (by simp[h]))) (bB (bB (af rfl) ai trivial (pB (by change w.length+1<=cL;lia))) (cI (ae (af rfl) aj) trivial c) trivial (pB (by rw[a];lia)))) aP rfl rfl (by simp;lia) ?_⟩;rw[show acc.map U.str++[U.str (w++("/":Str)++xJ s)]=(acc++[w++("/":Str)++xJ s]).map U.str by simp];show ax
def n_(g:bb Γ)(b:Src T u)(p:T+1<2 ^ 62)(c:acc.length<1000)(d:w.length<=9)(j:1<=s)(s1:s<=99):
  ∃u' x o9 o10,Run (execs Γ zO) (jH u many base way size first acc o8 (a5 (.loc,.str w)) (a5 (.loc,.int s))) .nx (jH u' many base way size first (acc++[x]) o8 o9 o10)/\Src (T+1) u'/\x.length<=20:=by
 by_cases h:way=3
 .subst h;have⟨n,f,l,r,t,o⟩:=cy (st:=jH u many base 3 size first acc o8 (a5 (.loc,.str w)) (a5 (.loc,.int s))) g (i:=0) (k:=.io) (e:=.cst (.int 99)) (m:=99) rfl rfl ai b ⋯ ⋯ ⋯;have⟨x,a,q⟩:=n9 (Γ:=Γ) (u:=f) (many:=many) (base:=base) (way:=3) (size:=size) (first:=first) (acc:=acc) (o8:=o8) (w:=w) (s:=1+n) c d ⋯ ⋯;show⟨f,x,_,_,dH (aG (af rfl) ai trivial (bI rfl)) (aw (bB ai l trivial cu) aE ax) q,o,a⟩
 .have⟨x,a,q⟩:=n9 (Γ:=Γ) (u:=u) (many:=many) (base:=base) (way:=way) (size:=size) (first:=first) (acc:=acc) (o8:=o8) (w:=w) (s:=s) c d j s1;show⟨u,x,_,_,bA (aG (af rfl) ai trivial (bI (by simp[h]))) ax q,b.up ⋯,a⟩
def oa(a:bb Γ){k:Nat}(b:Src T u)(d:T+1<2 ^ 62)(e:acc.length<1000)(f:w.length<=9)(g:1<=s)(s1:s<=99)(r:base.length=8)(i:1<=size)(t:size<=8)(v:0<=first)(y:first<26)(hk:k<1000):
  ∃u' x o9 o10,Run (execs Γ zP) (jH u many base way size first acc (a5 (.loc,.int (0+(k:Int)))) (a5 (.loc,.str w)) (a5 (.loc,.int s))) .nx (jH u' many base way size first (acc++[x]) (a5 (.loc,.int (0+(k:Int)))) o9 o10)/\Src (T+1) u'/\x.length<=20:=by
 have j:(1000:Nat)<=cL:=by decide
 by_cases h:1<way
 .have l:0<=(first+7 * (0+(k:Int))) % 26:=QW _ ⋯;have m:(first+7 * (0+(k:Int))) % 26<26:=RY _ ⋯;have⟨c,n⟩:=rh l m;have o:=len_list base;have z:(PySem.StrLaws.sliceText base (a5 1) (a5 size)).length<=8:=by
   rw[PySem.StrLaws.sliceText_plain ⟨⋯,i,⋯⟩,len_list];simp;lia
  have L_:(JE.one c).length=1:=rfl;have p:(JE.one c++PySem.StrLaws.sliceText base (a5 1) (a5 size)).length<=9:=by rw[len_list,app_list,hY,<-len_list,<-len_list];lia
  have⟨u',x,o9,o10,q,hs⟩:=n_ (Γ:=Γ) a (u:=u) (many:=many) (base:=base) (way:=way) (size:=size) (first:=first) (acc:=acc) (o8:=a5 (.loc,.int (0+(k:Int)))) (w:=JE.one c++PySem.StrLaws.sliceText base (a5 1) (a5 size)) (s:=1) b d e p ⋯ ⋯;show⟨u',x,o9,o10,dH (aG (af rfl) ai trivial (fM (by simp[h]))) (aw (bB (bL (af rfl) (bB (bB (af rfl) (bB ai (af rfl) trivial (kM ⋯)) trivial cu) ai trivial (eR ⋯)) trivial (oC qP n)) (qK (af rfl) (nQ ai) (nQ (af rfl)) trivial (kF ⋯)) trivial (pB ⋯)) aE (aw ai aE ax)) q,hs⟩
 .have⟨u',x,o9,o10,q,hs⟩:=n_ (Γ:=Γ) a (u:=u) (many:=many) (base:=base) (way:=way) (size:=size) (first:=first) (acc:=acc) (o8:=a5 (.loc,.int (0+(k:Int)))) (w:=w) (s:=s) b d e f g s1;show⟨u',x,o9,o10,bA (aG (af rfl) ai trivial (fM (by simp[h]))) ax q,hs⟩
def zR(a:0<=j)(b:x.length=8):(PySem.StrLaws.sliceText x b8 (a5 j)).length<=9:=by
 have⟨j,rfl⟩:=u7 a;have h:=len_list (PySem.StrLaws.sliceText x b8 (a5 (j:Int)));have hl:=len_list x;rw[Fd]at h;rw[h,vl];lia
def wV(b:bb Γ){k:Nat}(c:Src T u)(d:T+1<2 ^ 62)(e:acc.length<1000)(a:base.length=8)(f:1<=size)(g:size<=8)(i:0<=first)(j:first<26)(hk:k<98):
  ∃u' x l m,Run (execs Γ tH) (jH u many base way size first acc (a5 (.loc,.int (0+(k:Int)))) o9 o10) .nx (jH u' many base way size first (acc++[x]) (a5 (.loc,.int (0+(k:Int)))) l m)/\Src (T+1) u'/\x.length<=20:=by
 have n:(1000:Nat)<=cL:=by decide
 have o:0<=(0+(k:Int)) % 8:=QW _ ⋯;by_cases h:way=1
 .have⟨u',x,o9,o10,q,hs⟩:=oa (Γ:=Γ) b (u:=u) (many:=many) (base:=base) (way:=way) (size:=size) (first:=first) (acc:=acc) (k:=k) (w:=PySem.StrLaws.sliceText base b8 (a5 size)) (s:=1+(0+(k:Int))) c d e (zR ⋯ a) ⋯ ⋯ a f g i j ⋯;show⟨u',x,o9,o10,aw (qK (af rfl) uZ (nQ (bB ai (bB (af rfl) ai trivial (eR ⋯)) trivial cu)) trivial (kF ⋯)) aE (aw (bB ai (bB (af rfl) ai trivial (lQ ⋯)) trivial cu) aE (dH (aG (af rfl) ai trivial (bI (by simp[h]))) (aw (qK (af rfl) uZ (nQ (af rfl)) trivial (kF ⋯)) aE (aw (bB ai (af rfl) trivial cu) aE ax)) q)),hs⟩
 .have⟨u',x,o9,o10,q,hs⟩:=oa (Γ:=Γ) b (u:=u) (many:=many) (base:=base) (way:=way) (size:=size) (first:=first) (acc:=acc) (k:=k) (w:=PySem.StrLaws.sliceText base b8 (a5 (1+(0+(k:Int)) % 8))) (s:=1+(0+(k:Int)) / 8) c d e (zR ⋯ a) ⋯ ⋯ a f g i j ⋯;show⟨u',x,o9,o10,aw (qK (af rfl) uZ (nQ (bB ai (bB (af rfl) ai trivial (eR ⋯)) trivial cu)) trivial (kF ⋯)) aE (aw (bB ai (bB (af rfl) ai trivial (lQ ⋯)) trivial cu) aE (bA (aG (af rfl) ai trivial (bI (by simp[h]))) ax q)),hs⟩
def IZ(a:0<=n)(b:n<3):∃m:Int,8<=m/\m<=24/\J9 [U.int 8,.int 16,.int 24] n=a5 (.int m):=by
 have⟨k,rfl⟩:=u7 a;have:k=0\/k=1\/k=2:=by lia
 rcases this with rfl|rfl|rfl
 .show⟨8,⋯,⋯,rfl⟩
 .show⟨16,⋯,⋯,rfl⟩
 .show⟨24,⋯,⋯,rfl⟩
def wW(a:bb Γ)(l:Src T u)(hT:T+100<2 ^ 62):
  ∃(ws:List Str) (u':U),gH Γ lZ [0] zQ [u]=a5 (.ok (.own,.tup [.lst (ws.map .str),u']))/\1<=ws.length/\ws.length<=24/\Src (T+100) u'/\∀x∈ws,x.length<=20:=by
 have A:(1000:Nat)<=cL:=by decide
 let S1:U->ay:=λv=>[a5 (.io,v),a5 (.loc,.str small),b8,b8,b8,b8,b8,b8,b8,b8,b8]
 have⟨i,B,C,D,G,s1⟩:=cy (st:=S1 u) a (i:=0) (k:=.io) (e:=.cst (.int 3)) (m:=3) rfl rfl ai l ⋯ ⋯ ⋯;have⟨m,m0,m1,em⟩:=IZ D G;have⟨n,u2,H,n0,n1,s2⟩:=zB (st:=S1 u) (st1:=S1 B) a (i:=0) (k:=.io) (k0:=.io) (e:=.idx (.lst [.cst (.int 8),.cst (.int 16),.cst (.int 24)]) (.Jf "_law_draw" [.var 0,.cst (.int 3)] [0])) (m:=m) rfl rfl (bL (x:=(.own,.lst [U.int 8,.int 16,.int 24])) (cD (ae ai (ae ai (ae ai aj))) trivial (aJ aP (aJ aP (aJ aP aM))) (by change 3<=cL;lia)) C trivial (cN em)) rfl rfl s1 ⋯ ⋯ ⋯;have⟨base,b,I,J,s3⟩:=zM (rest:=[a5 (.loc,.int (1+n)),b8,b8,b8,b8,b8,b8,b8,b8]) a s2 ⋯;obtain⟨way,g,L,_,_,s4⟩:=cy (st:=[a5 (.io,b),a5 (.loc,.str small),a5 (.loc,.int (1+n)),a5 (.loc,.str base),b8,b8,b8,b8,b8,b8,b8]) a (i:=0) (k:=.io) (e:=.cst (.int 4)) (m:=4) rfl rfl ai s3 ⋯ ⋯ ⋯;have⟨size,N,O,z0,z1,Q⟩:=cy (st:=[a5 (.io,g),a5 (.loc,.str small),a5 (.loc,.int (1+n)),a5 (.loc,.str base),a5 (.loc,.int way),b8,b8,b8,b8,b8,b8]) a (i:=0) (k:=.io) (e:=.cst (.int 8)) (m:=8) rfl rfl ai s4 ⋯ ⋯ ⋯;have⟨first,o,Y,f0,f1,s6⟩:=cy (st:=[a5 (.io,N),a5 (.loc,.str small),a5 (.loc,.int (1+n)),a5 (.loc,.str base),a5 (.loc,.int way),a5 (.loc,.int (1+size)),b8,b8,b8,b8,b8]) a (i:=0) (k:=.io) (e:=.cst (.int 26)) (m:=26) rfl rfl ai Q ⋯ ⋯ ⋯;have⟨many,QU⟩:=u7 (show 0<=1+n by lia);obtain⟨st',hf,p,ws,o8,o9,o10,rfl,s,l7,b7,_⟩:=bU (rs:=[(.loc,.int (1+n))]) (t:=cc) (is:=[8]) (body:=execs Γ tH) (λi:Nat=>(Kd.loc,U.int (0+(i:Int)))) (λd r st=>∃(b:U) (ws:List Str) (o8 o9 o10:Option (Kd×U)),st=jH b (1+n) base way (1+size) first ws o8 o9 o10/\Src (T+13+(d.length:Nat)) b/\ws.length=d.length/\(∀x∈ws,x.length<=20)/\∃j,d=ġ 0 j/\r=ġ j (many - j)/\j<=many)
  (λd r st _=>trivial) (λd y r st h=>by
   have⟨b,ws,o8,o9,o10,rfl,s3,w,b3,j,rfl,c,hj⟩:=h;have ab:j<many:=by
    rcases Nat.lt_or_ge j many with z|z
    .show z
    .rw[show many - j=0 by lia]at c;cases c
   rw[show many - j=(many - (j+1))+1 by lia,List.range'_succ]at c;cases c;rw[List.length_range']at s3 w;have⟨g,x,KG,KQ,q,s4,hx⟩:=wV (Γ:=Γ) a (u:=b) (many:=1+n) (base:=base) (way:=way) (size:=1+size) (first:=first) (acc:=ws) (k:=y) (o9:=o9) (o10:=o10) s3 ⋯ ⋯ J ⋯ ⋯ f0 f1 ⋯;show⟨jH b (1+n) base way (1+size) first ws (a5 (.loc,.int (0+(y:Int)))) o9 o10,_,aE,q,g,ws++[x],_,_,_,rfl,s4.up (by simp;lia),by simp[w],λz hz=>(hW.mp hz).elim (b3 z) λhz=>by rw[hV.mp hz];show hx,y+1,by have:=@List.range'_1_concat 0 y;simpa using this.symm,rfl,⋯⟩) (fx many) [] (jH o (1+n) base way (1+size) first [] b8 b8 b8) ⟨o,[],b8,b8,b8,rfl,s6.up (by simp;lia),by simp,λ_ h=>(nomatch h),0,rfl,by rw[List.range_eq_range'];simp,⋯⟩
 rw[i5,u6]at s l7;show⟨ws,p,?_,⋯,⋯,s.up ⋯,b7⟩;show cn (st0:=[a5 (.io,u),b8,b8,b8,b8,b8,b8,b8,b8,b8,b8]) (f:=.rt .own (.lst (ws.map .str))) (st:=(jH p (1+n) base way (1+size) first ws o8 o9 o10).set 7 b8) rfl ?_ ?_ rfl rfl
 .obtain⟨_,_,_,rfl,_⟩:=l;rfl
 show aw (st2:=S1 u) ai aE (aw (bB ai H trivial cu) aE (aw I aE (aw L aE (aw (bB ai O trivial cu) aE (aw Y aE (aw (cD aj trivial aM (i8 _)) aZ ?_))))));show c8 (rs:=[(.loc,.int (1+n))]) (xs:=(fx many).map λi:Nat=>(Kd.loc,U.int (0+(i:Int)))) (ae (af rfl) aj) trivial (by rw[QU];show ip ⋯) rfl hf (bP (aA rfl) (gT rfl))
abbrev vn(Γ:Tab):Prop:=∀(T:Int) (u:U),Src T u->T+100<2 ^ 62->∃(ws:List Str) (u':U),Γ "_law_words" [u]=a5 (.ok (.own,.tup [.lst (ws.map .str),u']))/\1<=ws.length/\ws.length<=24/\Src (T+100) u'/\∀x∈ws,x.length<=20
def Cn(a:bb (Jq Pg d))(h:Jz Pg "_law_words" lZ):vn (Jq Pg (d+1)):=by
 intro T u b c;have⟨ws,u',e,r⟩:=wW a b c;show⟨ws,u',by rw[cJ h _ rfl];show e,r⟩
abbrev fk(ks:List Str)(x:Str):List Str:=if x∈ks then ks else ks++[x]
def zS:dput ks (ks.map f) x u=(fk ks x,(fk ks x).map λk=>if k=x then u else f k):=by
 unfold dput fk;by_cases h:x∈ks
 .rw[Ł h,Ł h];congr 1
  clear h;induction ks with
  |nil=>rfl
  |cons k ks a=>rw[ei,Rm,ei,ei,a]
 .rw[ł h,ł h];congr 1
  rw[ke,ZR,Ł rfl];congr 1
  show vu λk hk=>?_;rw[ł (λe:k=x=>h (e▸hk))]
def tI(h:ks.Nodup):(fk ks x).Nodup:=by
 unfold fk;split
 .show h
 .rename_i d;show ro.mpr ⟨h,by simp,λa f c b=>by rw[hV]at b;subst b;show λe=>d (e▸f)⟩
def gk:y∈fk ks x↔y∈ks\/y=x:=by
 unfold fk;split
 .rename_i h;show⟨.inl,λz=>z.elim id λe=>e▸h⟩
 .simp
def Co(h:ks.length<1000):eI (.str x) u (.Ji ks (ks.map f))=a5 (.Ji (fk ks x) ((fk ks x).map λk=>if k=x then u else f k)):=by
 rw[vf h,zS]
abbrev C2:List S:=[.put 1 (.var 4) (.cst (.bl bD))]
abbrev zT:List S:=[.put 1 (.var 2) (.cst (.bl bD)),.Jy cc [4] .seq [.var 3] C2]
abbrev wX:Fn:=⟨"_law_all",1,5,[.set 1 (.KZ cc),.Jy bD [2,3] .seq [.var 0] zT,.ret (.bi .sorted [.var 1])]⟩
abbrev mK(ks:List Str):U:=.Ji ks (ks.map λ_=>.bl bD)
def kG(h:ks.length<1000):eI (.str x) (.bl bD) (mK ks)=a5 (mK (fk ks x)):=by
 unfold mK;rw[Co h];congr 3
 funext k
 split<;>rfl
abbrev jh(ws ks:List Str):Prop:=ks.Nodup/\∀x∈ks,x∈ws
def jh.ins(h:jh ws ks)(a:x∈ws):jh ws (fk ks x):=⟨tI h.1,λy b=>(gk.mp b).elim (h.2 y) λe=>e▸a⟩
def jh.len(h:jh ws ks):ks.length<=ws.length:=cF h.1 h.2
abbrev pJ(rs:List Row)(ks:List Str)(o2 o3 o4:Option (Kd×U)):ay:=[a5 (.loc,.tup (rs.map B')),a5 (.own,mK ks),o2,o3,o4]
def kH{rs:List Row}:KU .seq [(k,.tup (rs.map B'))]=a5 (rs.map λr=>(kE k,B' r)):=by
 change a5 ((rs.map B').map λu=>(kE k,u))=_;rw[kb];rfl
abbrev zU(Γ:Tab):Prop:=∀(ws:List Str) (rs:List Row),ws.length<=24->(∀r∈rs,bX ws r)->∃ts,Γ "_law_all" [.tup (rs.map B')]=a5 (.ok (.own,.lst (ts.map .str)))/\jh ws ts
abbrev zV:List S :=
   [.set 7 (.Le 4 (.Jf "_law_draw" [.var 0,.bi .len [.var 4]] [0])),
   .ite (.and [.cmp .Jh (.var 7) (.var 3),.cmp .eq (.Jf "_law_draw" [.var 0,.var 2] [0]) (.cst (.int 0))])
    [.app 5 (.tup [.var 7,.tup []])]
    []]
abbrev HF:List S :=
   [.ite (.cmp .ne (.Jf "_law_draw" [.var 0,.cst (.int 8)] [0]) (.cst (.int 1)))
      [.ret (.var 1)]
      [],
    .set 2 (.bin .add (.cst (.int 1)) (.Jf "_law_draw" [.var 0,.cst (.int 2)] [0])),
    .set 3 (.comp 1 cc .seq [.var 1] [.cmp .eq (.idx (.var 0) (.cst (.int 1))) (.tup [])] (.idx (.var 0) (.cst (.int 0)))),
    .set 4 (.call "_law_all" [.var 1]),
    .set 5 (.lst []),
    .Jy cc [6] .Kj [.bi .len [.var 4]] zV,
    .ret (.bin .add (.var 1) (.bi .tuple [(.var 5)]))]
abbrev Cp:Fn:=⟨"_law_widened",2,8,.Mq [0]::HF⟩
def tJ(h:(!(i==j))=c):bN .ne (.int i) (.int j)=a5 c:=by subst h;rfl
abbrev ka(u:U)(rs:List Row)(share:Int)(hs ts:List Str)(more:List Row)(o6 o7:Option (Kd×U)):ay:=[a5 (.io,u),a5 (.loc,.tup (rs.map B')),a5 (.loc,.int share),a5 (.own,.lst (hs.map .str)),a5 (.own,.lst (ts.map .str)),a5 (.own,.lst (more.map B')),o6,o7]
def zW(o:bb Γ)(w:Src T u)(L:T+2<2 ^ 62)(A:0<share)(N:share<=2)(O:0<ts.length)(Q:ts.length<=24)(p:∀x∈ts,x∈ws)(h:∀r∈more,bX ws r)(Y:more.length<1000):
  ∃u' a j B,Run (execs Γ zV) (ka u rs share hs ts more o6 o7) .nx (ka u' rs share hs a j o6 B)/\Src (T+2) u'/\a.length+1=ts.length/\(∀x∈a,x∈ws)/\(∀r∈j,bX ws r)/\j.length<=more.length+1:=by
 have C:(1000:Nat)<=cL:=by decide
 have⟨n,b,D,G,H,s1⟩:=cy (st:=ka u rs share hs ts more o6 o7) o (i:=0) (k:=.io) (e:=.bi .len [.var 4]) (m:=((ts.map U.str).length:Nat)) rfl rfl (cI (ae (aA rfl) aj) ∅ cj) w ⋯ (by simp;lia) (by simp;lia);rw[df]at H;have l:n.toNat<ts.length:=by lia
 have q:(ts.map U.str)[n.toNat]?=a5 (.str ts[n.toNat]):=by simp[l]
 have s:ts[n.toNat]∈ws:=p _ (KH l);generalize ts[n.toNat]=x at q s;have I:(ts.map U.str).eraseIdx n.toNat=(ts.eraseIdx n.toNat).map U.str:=by
  rw[va,va,ke,UI,UJ]
 have hl:(ts.eraseIdx n.toNat).length+1=ts.length:=by rw[Xf l];lia
 have f:∀y∈ts.eraseIdx n.toNat,y∈ws:=λy J=>p y (XX J);have g:Run (ev Γ (.Le 4 (.Jf "_law_draw" [.var 0,.bi .len [.var 4]] [0]))) (ka u rs share hs ts more o6 o7) (.loc,.str x) (ka b rs share hs (ts.eraseIdx n.toNat) more o6 o7):=by
  have:=zj (i:=4) (k0:=.own) (k:=.own) (us0:=ts.map U.str) (us:=ts.map U.str) rfl (by intro z;cases z) D rfl rfl G ⋯ q;rw[I]at this;show this
 generalize ts.eraseIdx n.toNat=a at g hl f;have d:Run (JC Γ (.cmp .Jh (.var 7) (.var 3))) (ka b rs share hs a more o6 (a5 (.loc,.str x))) (cK (x∉hs)) (ka b rs share hs a more o6 (a5 (.loc,.str x))):=aG (af rfl) (aA rfl) ∅ eD;by_cases t:x∈hs
 .rw[Ń (by simp[t])]at d;show⟨b,a,more,_,aw g aE (bA (fi (pw d)) ax ax),s1.up ⋯,hl,f,h,⋯⟩
 .rw[ń t]at d;have⟨m,u2,v,m0,m1,s2⟩:=cy (st:=ka b rs share hs a more o6 (a5 (.loc,.str x))) o (i:=0) (k:=.io) (e:=.var 2) (m:=share) rfl rfl (af rfl) s1 ⋯ A ⋯;by_cases hz:m=0
  .show⟨u2,a,more++[(x,[])],a5 (.loc,.str x),aw g aE (dH (fi (ij d (cE (aG v ai trivial (bI (c:=bD) (by simp[hz])))))) (gc (k:=.own) (k':=.own) rfl (gS (ae (af rfl) (ae (gS aj trivial aM (i8 _)) aj)) trivial (aJ aP (aJ aP aM)) (by change 2<=cL;lia)) aP rfl rfl (by simp;lia) ax) ?_),s2.up ⋯,hl,f,?_,by simp⟩
   .rw[show more.map B'++[U.tup [.str x,.tup []]]=(more++[(x,[])]).map B' by simp[B']];show ax
   .intro r hr;rcases hW.mp hr with hr|hr
    .show h r hr
    .rw[hV]at hr;subst hr;show⟨s,by simp,by simp,by simp⟩
  .show⟨u2,a,more,_,aw g aE (bA (fi (ij d (cE (aG v ai trivial (bI (c:=cc) (by simp[hz])))))) ax ax),s2.up ⋯,hl,f,h,⋯⟩
def rj{rs:List Row}(hl:rs.length<=1000)(h:st[i]?=a5 (a5 (.loc,.tup (rs.map B')))):Run (ev Γ (.comp 1 cc .seq [.var i] [.cmp .eq (.idx (.var 0) (.cst (.int 1))) (.tup [])] (.idx (.var 0) (.cst (.int 0))))) st (.own,.lst (((rs.filter λr=>cK (r.2=[])).map (·.1)).map .str)) st:=by
 have b:(1000:Nat)<=cL:=by decide
 have c:∀y:Row,h_ (.loc,B' y) (.int 0)=a5 (.loc,.str y.1):=λy=>rfl;have d:∀y:Row,h_ (.loc,B' y) (.int 1)=a5 (.loc,.tup (y.2.map .str)):=λy=>rfl;have a:=iq (cond:=bh Γ [.cmp .eq (.idx (.var 0) (.cst (.int 1))) (.tup [])]) (elt:=ev Γ (.idx (.var 0) (.cst (.int 0)))) (src:=[(.loc,.tup (rs.map B'))]) (st:=st) trivial .loc (.inl rfl) B' (λr:Row=>.str r.1) (λr=>cK (r.2=[])) .loc rs [] (by simp;lia)
  (λr _=>⟨cE (aG (bL (af rfl) ai trivial (d r)) (gS aj trivial aM (i8 _)) trivial vk),λ_=>⟨bL (af rfl) ai trivial (c r),aP⟩⟩)
 rw[i5]at a;rw[kb];show dI (rs:=[(.loc,.tup (rs.map B'))]) (ae (af h) aj) trivial kH a
abbrev zX(Γ:Tab):Prop:=∀(T:Int) (u:U) (ws:List Str) (rs:List Row),Src T u->T+60<2 ^ 62->ws.length<=24->(∀r∈rs,bX ws r)->rs.length<=60->∃(a:List Row) (u':U),Γ "_law_widened" [u,.tup (rs.map B')]=a5 (.ok (.loc,.tup [.tup (a.map B'),u']))/\(∀r∈a,bX ws r)/\a.length<=84/\Src (T+60) u'
def Cq(g:bb Γ)(I:zU Γ){rs:List Row}(w:Src T u)(hT:T+60<2 ^ 62)(J:ws.length<=24)(j:∀r∈rs,bX ws r)(hl:rs.length<=60):
  ∃(l:List Row) (u':U),gH Γ Cp [0] HF [u,.tup (rs.map B')]=a5 (.ok (.loc,.tup [.tup (l.map B'),u']))/\(∀r∈l,bX ws r)/\l.length<=84/\Src (T+60) u':=by
 have L:(1000:Nat)<=cL:=by decide
 let c:U->ay:=λv=>[a5 (.io,v),a5 (.loc,.tup (rs.map B')),b8,b8,b8,b8,b8,b8]
 have z:cU [0] [u,.tup (rs.map B')] Cp.ns=c u:=by
  obtain⟨_,_,_,rfl,_⟩:=w;change [a5 (Kd.io,_),a5 (if JG (.tup (rs.map B'))=bD then Kd.loc else Kd.any,U.tup (rs.map B')),b8,b8,b8,b8,b8,b8]=_;rw[Ł (by change cT (rs.map B')=bD;show cq rs)]
 have⟨n,o,A,n0,n1,s1⟩:=cy (st:=c u) g (i:=0) (k:=.io) (e:=.cst (.int 8)) (m:=8) rfl rfl ai w ⋯ ⋯ ⋯;by_cases B:n=1
 .have⟨p,u2,N,p0,p1,s2⟩:=cy (st:=c o) g (i:=0) (k:=.io) (e:=.cst (.int 2)) (m:=2) rfl rfl ai s1 ⋯ ⋯ ⋯;have⟨ts,O,C⟩:=I ws rs J j;have Zi:=C.len;generalize Q:((rs.filter λr=>cK (r.2=[])).map (·.1))=hs;have D:=rj (Γ:=Γ) (st:=[a5 (.io,u2),a5 (.loc,.tup (rs.map B')),a5 (.loc,.int (1+p)),b8,b8,b8,b8,b8]) (rs:=rs) (i:=1) ⋯ rfl;rw[Q]at D;obtain⟨st',Y,a,b,more,o6,o7,rfl,s3,G,m3,H,s,_⟩:=bU (rs:=[(.loc,.int (ts.length:Nat))]) (t:=cc) (is:=[6]) (body:=execs Γ zV) (λi:Nat=>(Kd.loc,U.int (0+(i:Int)))) (λd r st=>∃(a:U) (b:List Str) (more:List Row) (o6 o7:Option (Kd×U)),st=ka a rs (1+p) hs b more o6 o7/\Src (T+2+2 * (d.length:Nat)) a/\b.length=r.length/\more.length<=d.length/\(∀x∈b,x∈ws)/\(∀r∈more,bX ws r)/\d.length+r.length=ts.length)
   (λd r st _=>trivial) (λd y r st h=>by
    have⟨a,b,more,o6,o7,rfl,s3,G,m3,H,s,t3⟩:=h;simp only[i6]at G t3;have⟨u4,UR,QV,KP,q,s4,l4,i4,g4,m4⟩:=zW (Γ:=Γ) g (u:=a) (share:=1+p) (rs:=rs) (more:=more) (ws:=ws) (hs:=hs) (ts:=b) (o6:=a5 (.loc,.int (0+(y:Int)))) (o7:=o7) s3 ⋯ ⋯ ⋯ ⋯ ⋯ H s ⋯;show⟨ka a rs (1+p) hs b more (a5 (.loc,.int (0+(y:Int)))) o7,_,aE,q,u4,UR,QV,_,_,rfl,s4.up (by simp;lia),⋯,by simp;lia,i4,g4,by simp;lia⟩) (fx ts.length) [] (ka u2 rs (1+p) hs ts [] b8 b8) ⟨u2,ts,[],b8,b8,rfl,s2.up (by simp;lia),by simp,by simp,C.2,by simp,by simp⟩
  rw[i5,u6]at m3 s3;show⟨rs++more,a,?_,?_,by simp;lia,s3.up ⋯⟩
  .show cn (f:=.rt .loc (.tup ((rs++more).map B'))) (st:=ka a rs (1+p) hs b more o6 o7) rfl z ?_ rfl rfl;show bA (aG A ai trivial (tJ (by simp[B]))) ax (aw (bB ai N trivial cu) aE (aw D aZ (aw (b_ (ae (af rfl) aj) trivial O) aZ (aw (cD aj trivial aM (i8 _)) aZ ?_))));show c8 (rs:=[(.loc,.int (ts.length:Nat))]) (ae (cI (ae (aA rfl) aj) ∅ (by rw[cj,df])) aj) trivial (ip ⋯) rfl Y (bP (bB (af rfl) (cI (ae (aA rfl) aj) ∅ rfl) trivial ?_) dN);change(if (rs.map B').length+(more.map B').length<=cL then a5 (kT .loc .loc,U.tup (rs.map B'++more.map B')) else b8)=_;rw[Ł (by simp;lia),ke];rfl
  .intro r hm;rcases hW.mp hm with hm|hm
   .show j r hm
   .show s r hm
 .show⟨rs,o,cn (f:=.rt .loc (.tup (rs.map B'))) (st:=c o) rfl z (pz (aG A ai trivial (tJ (by simp[B]))) (bP (af rfl) dN)) rfl rfl,j,⋯,s1.up ⋯⟩
def HG(a:bb (Jq Pg d))(b:zU (Jq Pg d))(h:Jz Pg "_law_widened" Cp):zX (Jq Pg (d+1)):=by
 intro T u ws rs c f g i hl;have⟨j,u',e,r⟩:=Cq a b c f g i hl;show⟨j,u',by rw[cJ h _ rfl];show e,r⟩
section
def zY(o:i≠j)(l:st[i]?=a5 (a5 (k0,a)))(c:k0.root=bD)(x:st[j]?=a5 (a5 (k0',d)))(y:k0'.root=bD)(z:Run (ba Γ es) st rs st1)
  (b:st1[i]?=a5 (a5 (k,.lst us))) (hk:k.root=bD) (A:cT us=bD) (m:st1[j]?=a5 (a5 (k',.lst vs))) (p:k'.root=bD) (B:cT vs=bD) (C:rs.map (eG st1)=rs) (D:aX rs st1) (G:∀r∈rs,qt [a5 i,a5 j] r=bD)
  (H:Γ f (.lst us::.lst vs::rs.map (·.2))=a5 (.ok (n,.tup [v,.lst us',.lst s]))) (I:n=.own\/n=.loc):Run (ev Γ (.Jf f (.var i::.var j::es) [0,1])) st (n,v) ((st1.set i (a5 (k,.lst us'))).set j (a5 (k',.lst s))):=by
 have t:∀(i:Nat) (k0:Kd) (a:U),st[i]?=a5 (a5 (k0,a))->k0.root=bD->Run (ev Γ (.var i)) st (.bor i,a) st:=λi k0 a l c=>by
  have:=dM l (by rintro rfl;cases c);unfold kv at this;rw[Ł c]at this;show this
 have w:∀(i:Nat) (k:Kd) (a u:U),st1[i]?=a5 (a5 (k,u))->k.root=bD->eG st1 (.bor i,a)=(.bor i,u):=λi k a u b hk=>by
  unfold eG
  dsimp only
  rw[b];simp[hk]
 have e:((Kd.bor i,a)::(Kd.bor j,d)::rs).map (eG st1)=(.bor i,.lst us)::(.bor j,.lst vs)::rs:=by rw[ei,ei,w i k a _ b hk,w j k' d _ m p,C]
 have g:ib ((Kd.bor i,U.lst us)::(Kd.bor j,U.lst vs)::rs) 0=a5 i:=by
  change(if cT us=bD then a5 i else b8)=_;rw[Ł A]
 have h:ib ((Kd.bor i,U.lst us)::(Kd.bor j,U.lst vs)::rs) 1=a5 j:=by
  change(if cT vs=bD then a5 j else b8)=_;rw[Ł B]
 show sZ (rs:=(.bor i,a)::(.bor j,d)::rs) (ws:=[.lst us',.lst s]) (st1:=st1) (ae (t i k0 a l c) (ae (t j k0' d x y) z)) ?_ ?_ I ?_ ?_
 .rw[e];show⟨⟨k,hk,b⟩,⟨k',p,m⟩,D⟩
 .rw[e];show H
 .rw[e];unfold qu;rw[cb,cb];show⟨⟨by simp[g,h],by simp[g,h,o]⟩,i7.mpr λq J=>?_⟩
  match q with
  |0=>simp
  |1=>simp
  |q+2 =>
   have hl:q<rs.length:=by have:=ve.mp J;simpa using this
   rw[Lx];show .inr ?_;rw[show((Kd.bor i,U.lst us)::(Kd.bor j,U.lst vs)::rs).getD (q+2) (.loc,.Jm)=rs[q] by simp[OC,hl]];simp only[ei,J0,g,h];show G _ (KH hl)
 .rw[e];unfold gQ;rw[g]
  dsimp only
  rw[b]
  dsimp only
  unfold gQ;rw[h]
  dsimp only
  rw[hH o,m];rfl
end
abbrev l8(Γ:Tab):Prop:=∀(ns:List Int) (u:U) (ws:List Str) (T:Int),Src T u->T+500<2 ^ 62->ns.length<1000->0<ws.length->ws.length<1000000 ->
  ∃(rs:List Row) (a:List Int) (u':U),Γ "_law_book" [.lst (ns.map .int),u,.lst (ws.map .str)]=a5 (.ok (.loc,.tup [.tup (rs.map B'),.lst (a.map .int),u']))/\dz ws rs/\rs.length<=60/\a.length<=ns.length/\Src (T+500) u'
def zZ(a:jg (Jq Pg d))(b:bb (Jq Pg d))(c:lX (Jq Pg d))(f:lY (Jq Pg d))(h:Jz Pg "_law_book" pI):l8 (Jq Pg (d+1)):=by
 intro ns u ws T g i j k l;have⟨rs,m,u',e,r⟩:=tF a b c f g i j k l;show⟨rs,m,u',by rw[cJ h _ rfl];show e,r⟩
def rm(a:jg Γ){ns:List Int}:∃(b:List Int) (u:U),Run (ev Γ (.Jf "_law_source" [.var 1,.cst (.int k)] [0])) (o0::a5 (.own,.lst (ns.map .int))::rest) (.own,u) (o0::a5 (.own,.lst (b.map .int))::rest)/\b.length<=ns.length/\Src 0 u:=by
 by_cases h:ns=[]
 .subst h;show⟨[],fP k 0 1,Fs (k0:=.own) (k:=.own) a rfl rfl ai rfl rfl,hQ _,⟨_,_,_,rfl,⋯,⋯⟩⟩
 .have e:=V6 h;generalize ns.dropLast=l at e;generalize ns.getLast h=c at e;subst e;show⟨l,fP (c / 2) 0 (c % 2),zK (k0:=.own) (k:=.own) a rfl rfl ai rfl rfl,by simp,⟨_,_,_,rfl,⋯,⋯⟩⟩
def Src.lst(h:Src T u):∃us,u=.lst us/\cT us=bD:=by
 obtain⟨a,t,w,rfl,_,_⟩:=h;show⟨_,rfl,rfl⟩
end TM
namespace KL
open PySem L2 TM
abbrev dA:Fn:=⟨"gathered",1,4,[.newD 1,.Jy bD [2,3] .seq [.var 0] [.ite (.inD bD (.var 2) 1) [.putD 1 (.var 2) (.lst [])] [],.LA 1 (.var 2) (.var 3)],.ret (.Pw 1)]⟩
abbrev br:Fn:=⟨"places_that_tell",1,4,[.set 1 (.lst []),.Jy bD [2,3] .OK [.var 0] [.ext 1 (.comp 1 cc .seq [.idx (.var 3) (.cst (.int 1))] [] (.tup [.var 0,.var 3]))],.ret (.call "gathered" [.var 1])]⟩
abbrev c9:Fn:=⟨"new_steps",3,6,[.set 3 (.KZ cc),.Jy cc [4] .seq [.var 1] [.set 5 (.idx (.idx (.var 0) (.var 4)) (.cst (.int 0))),.ite (.and [.cmp .Jh (.var 5) (.var 2),.cmp .Jh (.var 5) (.var 3)]) [.put 3 (.var 5) (.var 4)] []],.ret (.Px 3)]⟩
abbrev bu:Fn:=⟨"steps_in_rounds",1,10,[.set 1 (.call "places_that_tell" [.var 0]),.set 2 (.comp 1 cc .seq [.var 0] [] (.bi .len [.idx (.var 0) (.cst (.int 1))])),.set 3 (.KZ cc),.set 4 (.lst []),.set 5 (.comp 2 bD .OK [.var 2] [.cmp .eq (.var 1) (.cst (.int 0))] (.var 0)),.N7 (.cmp .ne (.var 5) (.lst [])) [.set 6 (.call "new_steps" [.var 0,.var 5,.var 3]),.set 5 (.lst []),.Jy bD [7,8] .seq [.var 6] [.put 3 (.var 7) (.cst (.bl bD)),.Jy cc [9] .seq [.LY 1 (.var 7) (.lst [])] [.aug bD 2 (.var 9) (.cst (.int 1)),.ite (.cmp .eq (.idx (.var 2) (.var 9)) (.cst (.int 0))) [.app 5 (.var 9)] []]],.ite (.cmp .ne (.var 6) (.lst [])) [.app 4 (.var 6)] []],.ret (.var 4)]⟩
abbrev fJ:Fn:=⟨"order",1,3,[.set 1 (.lst []),.Jy cc [2] .seq [.call "steps_in_rounds" [.var 0]] [.ext 1 (.var 2)],.ret (.var 1)]⟩
abbrev fm:Fn:=⟨"learnt",1,1,[.ret (.bi .sorted [.comp 2 bD .seq [.call "order" [.var 0]] [] (.var 0)])]⟩
end KL
namespace KL
open PySem L2 TM JE Od
abbrev cO(f:Str->List Nat)(k:Str):U:=.lst ((f k).map λt:Nat=>U.int (t:Nat))
def jI(d:List (Str×Nat))(y:Str×Nat)(k:Str):aQ (d++[y]) k=if y.1=k then aQ d k++[y.2] else aQ d k:=by
 rw[qY];by_cases e:y.1=k
 .rw[Ł e];simp[aQ,e]
 .rw[ł e];simp[aQ,e]
def z_(d:List (Str×Nat))(k:Str):(aQ d k).length<=d.length:=by
 unfold aQ;rw[df];show l' _ _
section
def pK(hl:ps.length<=1000):∃ks:List Str,(∀w,w∉ks->aQ ps w=[])/\dg Γ dA [.lst (ps.map stN)]=a5 (.ok (.own,.Ji ks (ks.map (cO (aQ ps))))):=by
 have hsz:(2000:Nat)<=cL:=by decide
 have x:TM.start [.lst (ps.map stN)] 4=[a5 (.any,.lst (ps.map stN)),b8,b8,b8]:=rfl;let S:=λ(ks:List Str) (us:List U) (o2 o3:Option (Kd×U))=>([a5 (.any,.lst (ps.map stN)),a5 (.Je,.Ji ks us),o2,o3]:ay)
 let body:List TM.S:=[.ite (.inD bD (.var 2) 1)
    [.putD 1 (.var 2) (.lst [])]
    [],
   .LA 1 (.var 2) (.var 3)]
 have⟨st',A,l,ks,o2,o3,e,f,hk,B⟩:=bU (t:=bD) (is:=[2,3]) (body:=execs Γ body) (rs:=[(.any,.lst (ps.map stN))]) (λp:Str×Nat=>(Kd.any,stN p))
  (λd r st=>d++r=ps/\∃(ks:List Str) (o2 o3:Option (Kd×U)),st=S ks (ks.map (cO (aQ d))) o2 o3/\ks.Nodup/\(∀w,w∉ks->aQ d w=[])/\ks.length<=d.length) (λ_ _ _ _=>trivial) (λd y r st C=>by
   have⟨l,ks,o2,o3,e,f,hk,B⟩:=C;subst e;have J:d.length<1000:=by have:=ņ Km l;simp at this;lia
   let g:Option (Kd×U):=a5 (.any,.str y.1);let i:Option (Kd×U):=a5 (.any,.int (y.2:Nat));have L:=z_ d y.1;have j:∀(ks:List Str),ks.Nodup->y.1∈ks->Run (execs Γ [.LA 1 (.var 2) (.var 3)]) (S ks (ks.map (cO (aQ d))) g i) .nx (S ks (ks.map (cO (aQ (d++[y])))) g i):=λks f c=>by
    have D:d0 ks (ks.map (cO (aQ d))) y.1=a5 (.lst ((aQ d y.1).map λt:Nat=>U.int (t:Nat))):=by rw[lW,Ł c];rfl
    have hs:j_ ks (ks.map (cO (aQ d))) y.1 (.lst ((aQ d y.1).map (λt:Nat=>U.int (t:Nat))++[.int (y.2:Nat)]))=ks.map (cO (aQ (d++[y]))):=by
     rw[qZ _ _ _ _ f];show vu λk hk=>?_;unfold cO;rw[jI];by_cases e:y.1=k
     .subst e;rw[Ł rfl,Ł rfl];simp
     .rw[ł e,ł (qs e)]
    rw[<-hs];show Fi (k:=.any) (r:=(.any,.int (y.2:Nat))) rfl (aT rfl) c (aT rfl) (qL rfl) D (by rw[df];lia) ax
   have m:Run (JC Γ (.inD bD (.var 2) 1)) (S ks (ks.map (cO (aQ d))) g i) (!cK (y.1∈ks)) (S ks (ks.map (cO (aQ d))) g i):=Hv (neg:=bD) (k:=.any) (aT rfl) rfl;have o:Run (dR bD [2,3] (.any,stN y)) (S ks (ks.map (cO (aQ d))) o2 o3) () (S ks (ks.map (cO (aQ d))) g i):=nV (.inr rfl);by_cases c:y.1∈ks
   .rw[ń c]at m;show⟨_,_,o,pC m (λh=>by cases h) λ_=>j ks f c,by rw[<-l];simp,ks,_,_,rfl,f,λw n=>?_,by simp;lia⟩;have G:y.1≠w:=λz=>n (by rw[<-z];show c);rw[jI,ł G];show hk w n
   .rw[Ń c]at m;have q:(ks++[y.1]).Nodup:=by
     rw[ro];show⟨f,by simp,λa H b I e=>?_⟩;have:b=y.1:=by simpa using I
     subst this;show c (e▸H)
    have em:ks.map (cO (aQ d))++[.lst []]=(ks++[y.1]).map (cO (aQ d)):=by
     rw[ke];congr 1
     change _=[cO (aQ d) y.1]
     unfold cO;rw[hk y.1 c];rfl
    have s:=j (ks++[y.1]) q (by simp);rw[<-em]at s;show⟨_,_,o,pC m (λ_=>Fh (k:=.any) (xs:=[]) (cD aj trivial aM (i8 _)) rfl (aT rfl) c ⋯ s) λh=>(by cases h),by rw[<-l];simp,ks++[y.1],_,_,rfl,q,λw n=>?_,by simp;lia⟩;have v:w∉ks/\w≠y.1:=by simpa using n
    rw[jI,ł (qs v.2)];show hk w v.1) ps [] (S [] [] b8 b8) ⟨rfl,[],b8,b8,rfl,.nil,λ_ _=>rfl,hQ _⟩
 subst e;rw[i5]at *;show⟨ks,hk,?_⟩;have e:(ps.map stN).map (λu=>(kE .any,u))=ps.map λp=>(Kd.any,stN p):=by rw[kb];rfl
 show bt rfl (.inl rfl) x (Fg (c8 (rs:=[(.any,.lst (ps.map stN))]) (st1:=S [] [] b8 b8) (ae (aT rfl) aj) trivial rfl rfl (by rw[e];show A) (bP (Hw rfl) (gT rfl))))
abbrev C3(Γ:Tab):Prop:=∀ps:List (Str×Nat),ps.length<=1000->∃ks:List Str,(∀w,w∉ks->aQ ps w=[])/\Γ "gathered" [.lst (ps.map stN)]=a5 (.ok (.own,.Ji ks (ks.map (cO (aQ ps)))))
def tK(s:C3 Γ)(v:Once rows)(z:∀r∈rows,r.2.length<=8)(J:rows.length<=120):
  ∃ks:List Str,(∀w,w∉ks->JQ rows rows.length w=[])/\dg Γ br [.tup (rows.map B')]=a5 (.ok (.own,.Ji ks (ks.map (cO (JQ rows rows.length))))):=by
 have hsz:(2000:Nat)<=cL:=by decide
 have A:TM.start [.tup (rows.map B')] 4=[a5 (.loc,.tup (rows.map B')),b8,b8,b8]:=by simp[TM.start,JG,cq]
 let S:=λ(ps:List (Str×Nat)) (o2 o3:Option (Kd×U))=>([a5 (.loc,.tup (rows.map B')),a5 (.own,.lst (ps.map stN)),o2,o3]:ay)
 let body:List TM.S:=[.ext 1 (.comp 1 cc .seq [.idx (.var 3) (.cst (.int 1))] [] (.tup [.var 0,.var 3]))]
 have⟨st',B,g,ps,o2,o3,e,h,l⟩:=bU (t:=bD) (is:=[2,3]) (body:=execs Γ body) (rs:=[(.loc,.tup (rows.map B'))]) (λp:Row×Nat=>(Kd.loc,U.tup [.int (p.2:Nat),B' p.1]))
  (λd r st=>d++r=rows.zipIdx/\∃(ps:List (Str×Nat)) (o2 o3:Option (Kd×U)),st=S ps o2 o3/\(∀w,aQ ps w=JQ rows d.length w)/\ps.length<=8 * d.length) (λ_ _ _ _=>trivial) (λd y r st C=>by
   have⟨g,ps,o2,o3,e,h,l⟩:=C;subst e;have⟨f,i⟩:=y;have m:(rows.zipIdx)[d.length]?=a5 (f,i):=by rw[<-g];simp
   rw[Tt,ez]at m;have⟨a,n,e⟩:=m;have D:a=f:=ņ ê e;have o:0+d.length=i:=ņ Prod.snd e;rw[Qh]at o;subst D o;have L:d.length<120:=by have:=ņ Km g;simp at this;lia
   have G:=z a (my n);let b:Option (Kd×U):=a5 (.loc,.int (d.length:Nat));let c:Option (Kd×U):=a5 (.loc,B' a);have q:=lS (cond:=bh Γ []) (elt:=ev Γ (.tup [.var 0,.var 3])) (src:=[(.loc,.tup (a.2.map .str))]) (st:=S ps b c) trivial .loc (.inl rfl) U.str (λx=>stN (x,d.length)) .loc (λ_=>nR) a.2 [] (by simp;lia)
    (λy _=>⟨gS (ae (af rfl) (ae (af rfl) aj)) trivial (aJ aP (aJ aP aM)) (by change 2<=cL;lia),aP⟩)
   rw[i5]at q;have e:(a.2.map U.str).map (λu=>(kE .loc,u))=a.2.map λr=>(Kd.loc,U.str r):=by rw[kb];rfl
   have H:Run (ev Γ (.comp 1 cc .seq [.idx (.var 3) (.cst (.int 1))] [] (.tup [.var 0,.var 3]))) (S ps b c) (.own,.lst (a.2.map λx=>stN (x,d.length))) (S ps b c) :=
    dI (rs:=[(.loc,.tup (a.2.map .str))]) (ae (bL (x:=(.loc,B' a)) (af rfl) ai trivial rfl) aj) trivial (by change a5 _=_;rw[e]) q
   have em:ps.map stN++(a.2.map λx=>stN (x,d.length))=(ps++a.2.map λx=>(x,d.length)).map stN:=by simp
   show⟨S ps b c,S (ps++a.2.map λx=>(x,d.length)) b c,nV (.inl rfl),?_,by rw[<-g];simp,_,_,_,rfl,λw=>?_,by simp;lia⟩
   .change Run _ _ _ [a5 (.loc,.tup (rows.map B')),a5 (.own,.lst ((ps++a.2.map λx=>(x,d.length)).map stN)),b,c];rw[<-em];show zm (k:=.own) (k':=.own) rfl H rfl rfl (vb (by rw[df,df];lia) rfl) ax
   .rw[hY];show wO v n h w) rows.zipIdx [] (S [] b8 b8) ⟨rfl,[],b8,b8,rfl,λw=>by simp[aQ,JQ],by simp⟩
 subst e;rw[i5,List.length_zipIdx]at h l;have j:KU .OK [(.loc,.tup (rows.map B'))]=a5 (rows.zipIdx.map λp:Row×Nat=>(Kd.loc,U.tup [.int (p.2:Nat),B' p.1])):=by
  change a5 ((rows.map B').zipIdx.map λp=>(kE .loc,U.tup [.int p.2,p.1]))=_;rw[List.zipIdx_map,kb];rfl
 have⟨ks,k1,k2⟩:=s ps ⋯;have I:aQ ps=JQ rows rows.length:=funext h;rw[I]at k1 k2;show⟨ks,k1,?_⟩;show bt rfl (.inl rfl) A (aw (r:=(.own,.lst [])) (cD aj trivial aM (i8 _)) aZ (c8 (rs:=[(.loc,.tup (rows.map B'))]) (st1:=S [] b8 b8) (ae (af rfl) aj) trivial j rfl B
  (bP (b_ (ae (aA rfl) aj) ⟨⟨.own,rfl,rfl⟩,trivial⟩ k2) jV)))
def mL{names:List Str}(v:∀r∈rows,r.1∈names)(Q:names.length<64)(y:∀t∈R,t<rows.length):
  ∃st:List (Str×Nat),NS rows K0 R st/\dg Γ c9 [.tup (rows.map B'),.lst (R.map λt:Nat=>.int (t:Nat)),.Ji K0 vs]=a5 (.ok (.own,.lst (st.map stN))):=by
 have hsz:(2000:Nat)<=cL:=by decide
 have z:TM.start [.tup (rows.map B'),.lst (R.map λt:Nat=>.int (t:Nat)),.Ji K0 vs] 6=[a5 (.loc,.tup (rows.map B')),a5 (.any,.lst (R.map λt:Nat=>.int (t:Nat))),a5 (.any,.Ji K0 vs),b8,b8,b8]:=by simp[TM.start,JG,cq]
 let S:=λ(ps:List (Str×Nat)) (o4 o5:Option (Kd×U))=>([a5 (.loc,.tup (rows.map B')),a5 (.any,.lst (R.map λt:Nat=>.int (t:Nat))),a5 (.any,.Ji K0 vs),a5 (.own,.Ji (ps.map (·.1)) (ps.map λp=>.int (p.2:Nat))),o4,o5]:ay)
 let body:List TM.S:=[.set 5 (.idx (.idx (.var 0) (.var 4)) (.cst (.int 0))),
   .ite (.and [.cmp .Jh (.var 5) (.var 2),.cmp .Jh (.var 5) (.var 3)])
    [.put 3 (.var 5) (.var 4)]
    []]
 have o:∀{d:List Nat} {ps:List (Str×Nat)},NS rows K0 d ps->ps.length<=names.length:=λ{d ps} x=>by
  have:=vg x.once (L:=names) λw A=>by
   have⟨s,hs,rfl⟩:=js.mp A;obtain⟨_,_,r,b,c⟩:=x.ok s hs;rw[<-c];show v r (my b)
  simpa using this
 have⟨st',B,j,ps,o4,o5,e,x⟩:=bU (t:=cc) (is:=[4]) (body:=execs Γ body) (rs:=[(.any,.lst (R.map λt:Nat=>.int (t:Nat)))]) (λt:Nat=>(Kd.any,U.int (t:Nat)))
  (λd r st=>d++r=R/\∃(ps:List (Str×Nat)) (o4 o5:Option (Kd×U)),st=S ps o4 o5/\NS rows K0 d ps) (λ_ _ _ _=>trivial) (λd t r st C=>by
   have⟨j,ps,o4,o5,e,x⟩:=C;subst e;have D:t<rows.length:=y t (by rw[<-j];simp);have l:rows[t]?=a5 rows[t]:=by simp[D]
   generalize rows[t]=a at l;let f:Option (Kd×U):=a5 (.any,.int (t:Nat));let m:Option (Kd×U):=a5 (.loc,.str a.1);have G:=o x;have i:Run (JC Γ (.and [.cmp .Jh (.var 5) (.var 2),.cmp .Jh (.var 5) (.var 3)])) (S ps f m) (!cK (a.1∈K0)&&!cK (a.1∈ps.map (·.1))) (S ps f m) :=
    fi (lR (aG (af rfl) (aT rfl) trivial fj) λ_=>cE (aG (af rfl) (aA rfl) ⟨⟨.own,rfl,rfl⟩,trivial⟩ fj))
   have g:∀{q:ay},Run (execs Γ [.ite (.and [.cmp .Jh (.var 5) (.var 2),.cmp .Jh (.var 5) (.var 3)])
    [.put 3 (.var 5) (.var 4)]
    []]) (S ps f m) .nx q->Run (execs Γ body) (S ps f o5) .nx q:=λh =>
    aw (r:=(.loc,.str a.1)) (bL (x:=(.loc,B' a)) (bL (af rfl) (aT rfl) trivial (rL (Ce l))) ai trivial rfl) aE h
   have n:Run (dR cc [4] (.any,.int (t:Nat))) (S ps o4 o5) () (S ps f o5):=fG ja;by_cases b:a.1∈K0
   .rw[ń b]at i;show⟨_,_,n,g (pC i (λh=>by cases h) λ_=>ax),by rw[<-j];simp,ps,_,_,rfl,x.skip l (.inl b)⟩
   .by_cases c:a.1∈ps.map (·.1)
    .rw[Ń b,ń c]at i;show⟨_,_,n,g (pC i (λh=>by cases h) λ_=>ax),by rw[<-j];simp,ps,_,_,rfl,x.skip l (.inr c)⟩
    .rw[Ń b,Ń c]at i;show⟨_,S (ps++[(a.1,t)]) f m,n,g (pC i (λ_=>?_) λh=>by cases h),by rw[<-j];simp,_,_,_,rfl,x.take l b c⟩;have H:(ps++[(a.1,t)]).map (·.1)=ps.map (·.1)++[a.1]:=by simp
     have I:((ps++[(a.1,t)]).map λp=>U.int (p.2:Nat))=(ps.map λp=>U.int (p.2:Nat))++[.int (t:Nat)]:=by simp
     change Run _ _ _ [a5 (.loc,.tup (rows.map B')),a5 (.any,.lst (R.map λt:Nat=>.int (t:Nat))),a5 (.any,.Ji K0 vs),a5 (.own,.Ji ((ps++[(a.1,t)]).map (·.1)) ((ps++[(a.1,t)]).map λp=>.int (p.2:Nat))),f,m];rw[H,I];show jb (k:=.own) (rv:=(.any,.int (t:Nat))) (rk:=(.loc,.str a.1)) (aT rfl) rfl (af rfl) (aJ (qL rfl) (aJ aP aM)) rfl rfl (vj (by rw[df];lia) c) ax) R [] (S [] b8 b8) ⟨rfl,[],b8,b8,rfl,NS.start K0⟩
 subst e;rw[i5]at x;have G:=o x;have⟨J,N,O⟩:=Cd (ps:=ps) ⋯ x.once;show⟨J,x.perm N,?_⟩;have e:(R.map λt:Nat=>U.int (t:Nat)).map (λu=>(kE .any,u))=R.map λt=>(Kd.any,U.int (t:Nat)):=by rw[kb];rfl
 show bt rfl (.inl rfl) z (aw (r:=(.own,.Ji [] [])) lM aZ (c8 (rs:=[(.any,.lst (R.map λt:Nat=>.int (t:Nat)))]) (st1:=S [] b8 b8) (ae (aT rfl) aj) trivial rfl rfl (by rw[e];show B) (bP (Hy rfl O) jV)))
end
abbrev mi(rows:List Row)(K0:List Str)(d:List Nat)(p:Nat):Int:=(cnt rows K0 p:Int) - (if p∈d then 1 else 0)
abbrev bV(rows:List Row)(f:Nat->Int):List U:=(fx rows.length).map λp=>U.int (f p)
abbrev fK(R:List Nat):List U:=R.map λt:Nat=>U.int (t:Nat)
def Cr(rows:List Row)(K0:List Str):bV rows (mi rows K0 [])=bV rows λp=>(cnt rows K0 p:Int):=by
 unfold bV mi;show vu λp _=>?_;simp
def Cs(b:Once rows)(c:w∉K0):bV rows (mi rows K0 (JQ rows rows.length w))=bV rows λp=>(cnt rows (K0++[w]) p:Int):=by
 unfold bV mi;show vu λp d=>?_;have e:=ve.mp d;have a:=pD b c p;by_cases h:w∈told rows p
 .rw[Ł (jf.mpr ⟨e,h⟩)];rw[Ł h]at a;change U.int ((cnt rows K0 p:Int) - 1)=U.int (cnt rows (K0++[w]) p:Int);congr 1
  lia
 .rw[ł λz=>h (jf.mp z).2];rw[ł h]at a;change U.int ((cnt rows K0 p:Int) - 0)=U.int (cnt rows (K0++[w]) p:Int);congr 1
  lia
def Aa(a:t∉d):(bV rows (mi rows K0 d)).set t (.int (mi rows K0 d t - 1))=bV rows (mi rows K0 (d++[t])):=by
 unfold bV;rw[set_range];show vu λp _=>?_;unfold mi;by_cases e:p=t
 .subst e;rw[Ł rfl,ł a,Ł (by simp)];rw[show((cnt rows K0 p:Int) - 0 - 1)=(cnt rows K0 p:Int) - 1 by lia]
 .rw[ł e];have:(p∈d++[t])↔p∈d:=by simp[e]
  simp only[this]
def Ab(h:t<rows.length):(bV rows f)[t]?=a5 (.int (f t)):=by simp[bV,h]
section
variable{Γ:Tab}{rows:List Row}
abbrev vp:List TM.S:=[.aug bD 2 (.var 9) (.cst (.int 1)),.ite (.cmp .eq (.idx (.var 2) (.var 9)) (.cst (.int 0))) [.app 5 (.var 9)] []]
def rn(u:Once rows)(J:rows.length<=120)(v:w∉K0)(L:R.length<=14400)(o9:Option (Kd×U))(y:∀st,aX src st):∃l:Option (Kd×U),
  Run (forM cc [9] (execs Γ vp) src ((JQ rows rows.length w).map λt:Nat=>(Kd.loc,U.int (t:Nat))))
   [b0,b1,a5 (.own,.lst (bV rows λp=>(cnt rows K0 p:Int))),b3,b4,a5 (.own,.lst (fK R)),o6,o7,o8,o9] .nx
   [b0,b1,a5 (.own,.lst (bV rows λp=>(cnt rows (K0++[w]) p:Int))),b3,b4,a5 (.own,.lst (fK (R++(JQ rows rows.length w).filter λt=>cK (cnt rows K0 t=1)))),o6,o7,o8,l]:=by
 have hsz:(20000:Nat)<=cL:=by decide
 let S:=λ(ms:List U) (R:List Nat) (o9:Option (Kd×U))=>([b0,b1,a5 (.own,.lst ms),b3,b4,a5 (.own,.lst (fK R)),o6,o7,o8,o9]:ay)
 have⟨st',m,c,l,e⟩:=bU (t:=cc) (is:=[9]) (body:=execs Γ vp) (rs:=src) (λt:Nat=>(Kd.loc,U.int (t:Nat)))
  (λd r st=>d++r=JQ rows rows.length w/\∃o9:Option (Kd×U),st=S (bV rows (mi rows K0 d)) (R++d.filter λt=>cK (cnt rows K0 t=1)) o9) (λ_ _ st _=>y st) (λd t r st A=>by
   have⟨c,o9,e⟩:=A;subst e;have B:t∈JQ rows rows.length w:=by rw[<-c];simp
   have n:t<rows.length:=(jf.mp B).1;have o:=wN (rows:=rows) rows.length w;have C:t∉d:=λz=>by
    rw[<-c,ro]at o;show o.2.2 t z t (by simp) rfl
   have N:d.length<=120:=by
    have D:=ņ Km c;have G:(JQ rows rows.length w).length<=(fx rows.length).length:=l' _ _;simp at D G;lia
   let b:Option (Kd×U):=a5 (.loc,.int (t:Nat));let a:=R++d.filter λt=>cK (cnt rows K0 t=1);have O:a.length<=14520:=by
    have:(d.filter λt=>cK (cnt rows K0 t=1)).length<=d.length:=l' _ _;change(R++_).length<=_;rw[hY];lia
   have H:J9 (bV rows (mi rows K0 (d++[t]))) (t:Int)=a5 (.int (mi rows K0 (d++[t]) t)):=iF (Ab n);have I:mi rows K0 (d++[t]) t=(cnt rows K0 t:Int) - 1:=by unfold mi;rw[Ł (by simp)]
   have g:Run (JC Γ (.cmp .eq (.idx (.var 2) (.var 9)) (.cst (.int 0)))) (S (bV rows (mi rows K0 (d++[t]))) a b) (cK (cnt rows K0 t=1)) (S (bV rows (mi rows K0 (d++[t]))) a b) :=
    aG (bL (x:=(.bor 2,.lst (bV rows (mi rows K0 (d++[t]))))) (aA rfl) (af rfl) ⟨⟨.own,rfl,rfl⟩,trivial⟩ (cN H)) ai trivial (bI (by
     rw[I,JR];simp;lia))
   have f:∀{q:ay},Run (execs Γ [.ite (.cmp .eq (.idx (.var 2) (.var 9)) (.cst (.int 0)))
      [.app 5 (.var 9)]
      []]) (S (bV rows (mi rows K0 (d++[t]))) a b) .nx q->Run (execs Γ vp) (S (bV rows (mi rows K0 d)) a b) .nx q:=λh=>by
    show Hx (us:=bV rows (mi rows K0 d)) (k1:=.loc) (k2:=.loc) (j:=t) (w:=1) rfl (af rfl) (Ab n) ai ?_;rw[Aa C];show h
   have s:Run (dR cc [9] (.loc,.int (t:Nat))) (S (bV rows (mi rows K0 d)) a o9) () (S (bV rows (mi rows K0 d)) a b):=fG aE;cases i:cK (cnt rows K0 t=1) with
   |false =>
    rw[i]at g;show⟨_,_,s,f (pC g (λh=>by cases h) λ_=>ax),by rw[<-c];simp,b,?_⟩;rw[PM,D8,i];simp[S,a]
   |true =>
    rw[i]at g;show⟨_,S (bV rows (mi rows K0 (d++[t]))) (a++[t]) b,s,f (pC g (λ_=>?_) λh=>by cases h),by rw[<-c];simp,b,?_⟩
    .have em:fK (a++[t])=fK a++[.int (t:Nat)]:=by simp[fK]
     change Run _ _ _ [b0,b1,a5 (.own,.lst (bV rows (mi rows K0 (d++[t])))),b3,b4,a5 (.own,.lst (fK (a++[t]))),o6,o7,o8,b];rw[em];show gc (k:=.own) (k':=.own) (r:=(.loc,.int (t:Nat))) rfl (af rfl) aP rfl rfl (by unfold fK;rw[df];lia) ax
    .rw[PM,D8,i];simp[S,a]) (JQ rows rows.length w) [] (S (bV rows (mi rows K0 [])) R o9) ⟨rfl,o9,by simp⟩
 subst e;rw[i5]at m;rw[Cr,Cs u v]at m;show⟨l,m⟩
abbrev Ac:List TM.S:=[.put 3 (.var 7) (.cst (.bl bD)),.Jy cc [9] .seq [.LY 1 (.var 7) (.lst [])] vp]
def wY(n:Once rows)(y:rows.length<=120)(A:∀w,w∉ks->JQ rows rows.length w=[])(o:(K0++st.map (·.1)).Nodup)(hl:K0.length+st.length<=120)(vs:List U)(o7 o8 o9:Option (Kd×U)):∃(g:List U) (R:List Nat) (i j a:Option (Kd×U)),
  RI rows K0 (K0++st.map (·.1)) R/\(st=[]->R=[])/\Run (forM bD [7,8] (execs Γ Ac) [(.bor 6,.lst (st.map stN))] (st.map λs=>(Kd.loc,stN s)))
   [b0,a5 (.own,.Ji ks (ks.map (cO (JQ rows rows.length)))),a5 (.own,.lst (bV rows λp=>(cnt rows K0 p:Int))),a5 (.own,.Ji K0 vs),b4,a5 (.own,.lst []),a5 (.own,.lst (st.map stN)),o7,o8,o9] .nx
   [b0,a5 (.own,.Ji ks (ks.map (cO (JQ rows rows.length)))),a5 (.own,.lst (bV rows λp=>(cnt rows (K0++st.map (·.1)) p:Int))),a5 (.own,.Ji (K0++st.map (·.1)) g),b4,a5 (.own,.lst (fK R)),a5 (.own,.lst (st.map stN)),i,j,a]:=by
 let S:=λ(K:List Str) (vs:List U) (R:List Nat) (o7 o8 o9:Option (Kd×U))=>([b0,a5 (.own,.Ji ks (ks.map (cO (JQ rows rows.length)))),a5 (.own,.lst (bV rows λp=>(cnt rows K p:Int))),a5 (.own,.Ji K vs),b4,a5 (.own,.lst (fK R)),a5 (.own,.lst (st.map stN)),o7,o8,o9]:ay)
 have⟨st',B,b,g,R,i,j,a,e,x,C,q⟩:=bU (t:=bD) (is:=[7,8]) (body:=execs Γ Ac) (rs:=[(.bor 6,.lst (st.map stN))]) (λs:Str×Nat=>(Kd.loc,stN s))
  (λd r l=>d++r=st/\∃(vs:List U) (R:List Nat) (o7 o8 o9:Option (Kd×U)),l=S (K0++d.map (·.1)) vs R o7 o8 o9/\RI rows K0 (K0++d.map (·.1)) R/\R.length<=120 * d.length/\(d=[]->R=[])) (λ_ _ l ⟨_,vs,R,o7,o8,o9,e,_⟩=>by subst e;show⟨⟨.own,rfl,rfl⟩,trivial⟩) (λd s r l D=>by
   have⟨b,vs,R,o7,o8,o9,e,x,C,q⟩:=D;subst e;have⟨w,p⟩:=s;have N:d.length<st.length:=by have:=ņ Km b;simp at this;lia
   have m:w∉K0++d.map (·.1):=λz=>by
    rw[<-b,ke,<-Vt,ro]at o;show o.2.2 w z w (by simp) rfl
   let c:Option (Kd×U):=a5 (.loc,.str w);let f:Option (Kd×U):=a5 (.loc,.int (p:Nat));have⟨a,G⟩:=rn (Γ:=Γ) n y m (R:=R) ⋯ (b0:=b0) (b1:=a5 (.own,.Ji ks (ks.map (cO (JQ rows rows.length))))) (b3:=a5 (.own,.Ji (K0++d.map (·.1)++[w]) (vs++[.bl bD]))) (b4:=b4) (o6:=a5 (.own,.lst (st.map stN))) (o7:=c) (o8:=f) o9 (src:=[(.loc,cO (JQ rows rows.length) w)]) (λ_=>trivial);have em:K0++(d++[(w,p)]).map (·.1)=K0++d.map (·.1)++[w]:=by simp
   have H:(K0++d.map (·.1)).length<1000:=by rw[hY,df];lia
   have I:(match d0 ks (ks.map (cO (JQ rows rows.length))) w with|some v=>(Kd.loc,v)|none=>(.loc,U.lst []))=(.loc,cO (JQ rows rows.length) w):=by
    rw[lW];by_cases h:w∈ks
    .rw[Ł h]
    .rw[ł h];unfold cO;rw[A w h];rfl
   have J:((JQ rows rows.length w).map λt:Nat=>U.int (t:Nat)).map (λu=>(kE .loc,u))=(JQ rows rows.length w).map λt=>(Kd.loc,U.int (t:Nat)):=by rw[kb];rfl
   show⟨S (K0++d.map (·.1)) vs R c f o9,S (K0++d.map (·.1)++[w]) (vs++[.bl bD]) (R++(JQ rows rows.length w).filter λt=>cK (cnt rows (K0++d.map (·.1)) t=1)) c f a,nV (.inl rfl),?_,by rw[<-b];simp,vs++[.bl bD],_,c,f,a,by rw[em],?_,?_,λz=>by simp at z⟩
   .show jb (k:=.own) (rv:=(.loc,.bl bD)) (rk:=(.loc,.str w)) ai rfl (af rfl) (aJ aP (aJ aP aM)) rfl rfl (vj H m) ?_;show c8 (rs:=[(.loc,cO (JQ rows rows.length) w)]) (ae (Fj (k:=.loc) (z:=(.own,.lst [])) (u:=.lst []) rfl (af rfl) (cD aj trivial aM (i8 _)) zh I) aj) trivial (by change a5 (W' (λu=>(kE .loc,u)) _)=_;rw[J]) rfl G ax
   .rw[em];show x.step n m
   .have:((JQ rows rows.length w).filter λt=>cK (cnt rows (K0++d.map (·.1)) t=1)).length<=120:=by
     show vr (l' _ _) ?_;have L:(JQ rows rows.length w).length<=(fx rows.length).length:=l' _ _;simp at L;lia
    rw[hY,hY,Nz];lia) st [] (S K0 vs [] o7 o8 o9) ⟨rfl,vs,[],o7,o8,o9,by simp[S],by simpa using RI.start K0,by simp,λ_=>rfl⟩
 subst e;show⟨g,R,i,j,a,by simpa using x,λz=>q (by simpa using z),by simpa[S,fK] using B⟩
abbrev gI(a:List (List (Str×Nat))):List U:=a.map λl=>U.lst (l.map stN)
abbrev Ad:List TM.S:=[.set 6 (.call "new_steps" [.var 0,.var 5,.var 3]),.set 5 (.lst []),.Jy bD [7,8] .seq [.var 6] Ac,.ite (.cmp .ne (.var 6) (.lst [])) [.app 4 (.var 6)] []]
abbrev Ae(Γ:Tab)(rows:List Row):Prop:=∀(R:List Nat) (K0:List Str) (vs:List U),(∀t∈R,t<rows.length)->∃st:List (Str×Nat),NS rows K0 R st/\Γ "new_steps" [.tup (rows.map B'),.lst (fK R),.Ji K0 vs]=a5 (.ok (.own,.lst (st.map stN)))
theorem jJ(G:Once rows)(H:rows.length<=120)(I:Ae Γ rows)(J:∀w,w∉ks->JQ rows rows.length w=[]):∀(f:Nat) (c:List (Str×Nat)) (d:List (List (Str×Nat))) (R:List Nat) (vs:List U) (o6 o7 o8 o9:Option (Kd×U)),
  LI rows c R->d.flatten=c->d.length<=c.length->(rows.length - c.length)+(if R=[] then 1 else 2)<=f ->
  ∃(QY:List (Str×Nat)) (N:List (List (Str×Nat))) (st':ay),LI rows QY []/\N.flatten=QY/\N.length<=120/\st'[4]?=a5 (a5 (.own,.lst (gI N))) /\
   Run (gG (JC Γ (.cmp .ne (.var 5) (.lst []))) (execs Γ Ad) f) [a5 (.loc,.tup (rows.map B')),a5 (.own,.Ji ks (ks.map (cO (JQ rows rows.length)))),a5 (.own,.lst (bV rows λp=>(cnt rows (c.map (·.1)) p:Int))),a5 (.own,.Ji (c.map (·.1)) vs),a5 (.own,.lst (gI d)),a5 (.own,.lst (fK R)),o6,o7,o8,o9] .nx st'
 |0,c,d,R,vs,o6,o7,o8,o9,_,_,_,h=>by split at h<;>lia
 |f+1,c,d,R,vs,o6,o7,o8,o9,x,O,NZ,h=>by
  have hsz:(20000:Nat)<=cL:=by decide
  have Nv:∀{s:List (Str×Nat)} {g:List Nat},LI rows s g->s.length<=rows.length:=λ{s g} x=>by
   have:=vg x.nd x.wd;simpa using this
  have J7:=Nv x;let S:=λ(K:List Str) (vs:List U) (d:List (List (Str×Nat))) (R:List Nat) (o6 o7 o8 o9:Option (Kd×U))=>([a5 (.loc,.tup (rows.map B')),a5 (.own,.Ji ks (ks.map (cO (JQ rows rows.length)))),a5 (.own,.lst (bV rows λp=>(cnt rows K p:Int))),a5 (.own,.Ji K vs),a5 (.own,.lst (gI d)),a5 (.own,.lst (fK R)),o6,o7,o8,o9]:ay)
  have Zn:∀R:List Nat,Ky 50 (.lst (fK R))=bD:=λR=>by change eV 49 _=bD;show nX (λt:Nat=>((t:Nat):Int)) R 49
  have A:Run (JC Γ (.cmp .ne (.var 5) (.lst []))) (S (c.map (·.1)) vs d R o6 o7 o8 o9) (!(fK R).isEmpty) (S (c.map (·.1)) vs d R o6 o7 o8 o9) :=
   aG (aA rfl) (cD aj trivial aM (i8 _)) ⟨⟨.own,rfl,rfl⟩,trivial⟩ (q9 (Zn R))
  by_cases Q:R=[]
  .subst Q;show⟨c,d,_,x,O,⋯,rfl,vh A⟩
  .rw[ł Q]at h;have Zo:(!(fK R).isEmpty)=bD:=by
    cases R with
    |nil=>show absurd rfl Q
    |cons a l=>rfl
   rw[Zo]at A;have⟨st,n,Jp⟩:=I R (c.map (·.1)) vs λt ht=>(x.QQ t ht).1;have Ju:(c.map (·.1)++st.map (·.1)).Nodup:=by
    rw[ro];show⟨x.nd,n.once,λa ha b q e=>?_⟩;have⟨s,hs,rfl⟩:=js.mp q;show(n.ok s hs).2.1 (e▸ha)
   have ab:c.length+st.length<=rows.length:=by
    have:=vg Ju (L:=rows.map (·.1)) λy hy=>by
     rcases hW.mp hy with hy|hy
     .show x.wd y hy
     .have⟨s,hs,rfl⟩:=js.mp hy;obtain⟨_,_,r,q1,q2⟩:=n.ok s hs;show js.mpr ⟨r,my q1,q2⟩
    simpa using this
   let v:Option (Kd×U):=a5 (.own,.lst (st.map stN));have⟨i,g,j,m,o,y,Zp,UU⟩:=wY (Γ:=Γ) G H J Ju (by rw[df];lia) (b0:=a5 (.loc,.tup (rows.map B'))) (b4:=a5 (.own,.lst (gI d))) vs o7 o8 o9;have T:=x.step n y;have em:(c++st).map (·.1)=c.map (·.1)++st.map (·.1):=ke;have Zq:Ky 50 (.lst (st.map stN))=bD:=by change eV 49 _=bD;show q_ st 48
   have B:Run (JC Γ (.cmp .ne (.var 6) (.lst []))) (S (c.map (·.1)++st.map (·.1)) i d g v j m o) (!(st.map stN).isEmpty) (S (c.map (·.1)++st.map (·.1)) i d g v j m o) :=
    aG (aA rfl) (cD aj trivial aM (i8 _)) ⟨⟨.own,rfl,rfl⟩,trivial⟩ (q9 Zq)
   have e1:(st.map stN).map (λu=>(kE (.bor 6),u))=st.map λs=>(Kd.loc,stN s):=by rw[kb];rfl
   have z:∀{K5:ay},Run (execs Γ [.ite (.cmp .ne (.var 6) (.lst []))
    [.app 4 (.var 6)]
    []]) (S (c.map (·.1)++st.map (·.1)) i d g v j m o) .nx K5->Run (execs Γ Ad) (S (c.map (·.1)) vs d R o6 o7 o8 o9) .nx K5:=λh=>by
    show aw (r:=(.own,.lst (st.map stN))) (b_ (ae (af rfl) (ae (aA rfl) (ae (aA rfl) aj))) ⟨⟨.own,rfl,rfl⟩,⟨.own,rfl,rfl⟩,trivial⟩ Jp) aZ ?_;show aw (r:=(.own,.lst [])) (cD aj trivial aM (i8 _)) aZ ?_;show c8 (rs:=[(.bor 6,.lst (st.map stN))]) (ae (aA rfl) aj) ⟨⟨.own,rfl,rfl⟩,trivial⟩ (by change a5 (W' (λu=>(kE (.bor 6),u)) _)=_;rw[e1]) rfl UU h
   by_cases C:st=[]
   .have Zr:=Zp C;subst C;rw[show(!(([]:List (Str×Nat)).map stN).isEmpty)=cc from rfl]at B;have ee:c++[]=c:=rr _;rw[ee]at T;have q:=z (pC B (λh=>by cases h) λ_=>ax);have⟨Y,O8,st2,z1,z2,z3,z4,D⟩:=jJ G H I J f c d g i v j m o T O NZ (by rw[Ł Zr];lia);show⟨Y,O8,st2,z1,z2,z3,z4,zq A q ?_⟩;have e3:c.map (·.1)++([]:List (Str×Nat)).map (·.1)=c.map (·.1):=by simp
    change Run _ (S (c.map (·.1)++([]:List (Str×Nat)).map (·.1)) i d g v j m o) _ _;rw[e3];show D
   .have UW:(!(st.map stN).isEmpty)=bD:=by
     cases st with
     |nil=>show absurd rfl C
     |cons a l=>rfl
    rw[UW]at B;have Zs:0<st.length:=Zy.mpr C;have ef:gI (d++[st])=gI d++[.lst (st.map stN)]:=by simp[gI]
    have q:Run (execs Γ Ad) (S (c.map (·.1)) vs d R o6 o7 o8 o9) .nx (S (c.map (·.1)++st.map (·.1)) i (d++[st]) g (a5 (.loc,.lst (st.map stN))) j m o):=by
     show z (pC B (λ_=>?_) λh=>by cases h);change Run _ _ _ [a5 (.loc,.tup (rows.map B')),a5 (.own,.Ji ks (ks.map (cO (JQ rows rows.length)))),a5 (.own,.lst (bV rows λp=>(cnt rows (c.map (·.1)++st.map (·.1)) p:Int))),a5 (.own,.Ji (c.map (·.1)++st.map (·.1)) i),a5 (.own,.lst (gI (d++[st]))),a5 (.own,.lst (fK g)),a5 (.loc,.lst (st.map stN)),j,m,o];rw[ef];show gc (k:=.own) (k':=.own) (r:=(.bor 6,.lst (st.map stN))) (u:=.lst (st.map stN)) rfl (aA rfl) (Hu rfl) rfl rfl (by unfold gI;rw[df];lia) ax
    have⟨Y,O8,st2,z1,z2,z3,z4,D⟩:=jJ G H I J f (c++st) (d++[st]) g i (a5 (.loc,.lst (st.map stN))) j m o T (by rw[Zz,O];simp) (by rw[hY,hY,Nz];lia) (by rw[hY];split<;>lia);show⟨Y,O8,st2,z1,z2,z3,z4,zq A q ?_⟩;rw[em]at D;show D
abbrev C4(Γ:Tab)(rows:List Row):Prop:=∃ks:List Str,(∀w,w∉ks->JQ rows rows.length w=[])/\Γ "places_that_tell" [.tup (rows.map B')]=a5 (.ok (.own,.Ji ks (ks.map (cO (JQ rows rows.length)))))
def gJ(s:Once rows)(v:rows.length<=120)(w:C4 Γ rows)(z:Ae Γ rows):∃(f:List (Str×Nat)) (d:List (List (Str×Nat))),LI rows f []/\d.flatten=f/\d.length<=120/\dg Γ bu [.tup (rows.map B')]=a5 (.ok (.own,.lst (gI d))):=by
 have hsz:(20000:Nat)<=cL:=by decide
 have⟨ks,A,B⟩:=w;have C:TM.start [.tup (rows.map B')] 10=[a5 (.loc,.tup (rows.map B')),b8,b8,b8,b8,b8,b8,b8,b8,b8]:=by simp[TM.start,JG,cq]
 let g:Option (Kd×U):=a5 (.loc,.tup (rows.map B'));let j:Option (Kd×U):=a5 (.own,.Ji ks (ks.map (cO (JQ rows rows.length))));let D:Option (Kd×U):=a5 (.own,.lst (bV rows λp=>(cnt rows [] p:Int)));have G:Run (ev Γ (.comp 1 cc .seq [.var 0] [] (.bi .len [.idx (.var 0) (.cst (.int 1))]))) [g,j,b8,b8,b8,b8,b8,b8,b8,b8] (.own,.lst (bV rows λp=>(cnt rows [] p:Int))) [g,j,b8,b8,b8,b8,b8,b8,b8,b8]:=by
  have c:=lS (cond:=bh Γ []) (elt:=ev Γ (.bi .len [.idx (.var 0) (.cst (.int 1))])) (src:=[(.loc,.tup (rows.map B'))]) (st:=[g,j,b8,b8,b8,b8,b8,b8,b8,b8]) trivial .loc (.inl rfl) B' (λr=>.int (r.2.length:Nat)) .loc (λ_=>nR) rows [] (by simp;lia)
   (λy _=>⟨cI (ae (bL (x:=(.loc,B' y)) (af rfl) ai trivial rfl) aj) trivial (by rw[B6,df]),aP⟩)
  rw[i5]at c;have e:(rows.map B').map (λu=>(kE .loc,u))=rows.map λr=>(Kd.loc,B' r):=by rw[kb];rfl
  have H:(rows.map λr=>U.int (r.2.length:Nat))=bV rows λp=>(cnt rows [] p:Int):=by
   unfold bV;apply LV
   .simp
   .intro i k l;have I:i<rows.length:=by simpa using k
    have m:told rows i=rows[i].2:=kD (by simp[I]);have J:cnt rows [] i=rows[i].2.length:=by unfold cnt s_;rw[m];simp
    simp[J]
  rw[H]at c;show dI (rs:=[(.loc,.tup (rows.map B'))]) (ae (af rfl) aj) trivial (by change a5 _=_;rw[e]) c
 let n:=(fx rows.length).filter λp=>cK (cnt rows [] p=0);let o:ay:=[g,j,D,a5 (.own,.Ji [] []),a5 (.own,.lst []),b8,b8,b8,b8,b8]
 have L:Run (ev Γ (.comp 2 bD .OK [.var 2] [.cmp .eq (.var 1) (.cst (.int 0))] (.var 0))) o (.own,.lst (fK n)) o:=by
  have c:=pF (st:=o) (cond:=bh Γ [.cmp .eq (.var 1) (.cst (.int 0))]) (elt:=ev Γ (.var 0)) (src:=[(.bor 2,.lst (bV rows λp=>(cnt rows [] p:Int)))]) ⟨⟨.own,rfl,rfl⟩,trivial⟩ (λp:Nat=>U.int (p:Nat)) (λp:Nat=>U.int (cnt rows [] p:Int)) (λp:Nat=>U.int (p:Nat)) (λp=>cK (cnt rows [] p=0)) (fx rows.length) [] (by simp;lia)
   (λy _=>⟨cE (aG (af rfl) ai trivial (bI (by rw[JR];simp))),af rfl⟩)
  rw[i5]at c;have e:((bV rows λp=>(cnt rows [] p:Int)).zipIdx.map λp=>(kE (.bor 2),U.tup [.int p.2,p.1]))=(fx rows.length).map λp:Nat=>(Kd.loc,U.tup [.int (p:Nat),.int (cnt rows [] p:Int)]):=by
   unfold bV;apply LV
   .simp
   .intro i k l;simp[kE]
  show dI (rs:=[(.bor 2,.lst (bV rows λp=>(cnt rows [] p:Int)))]) (ae (aA rfl) aj) ⟨⟨.own,rfl,rfl⟩,trivial⟩ (by change a5 _=_;rw[e]) c
 have N:LI rows [] n:=⟨.nil,λ_ _ _ h=>(nomatch h),λ_ h=>(nomatch h),λt m=>by
  have⟨a,b⟩:=so.mp m;show⟨ve.mp a,by simpa using b⟩,λt r k l=>.inl (so.mpr ⟨ve.mpr (dV.mp k).1,by simpa using l⟩)⟩
 have⟨f,d,st',O,Q,T,q,Y⟩:=jJ s v z A fuel [] [] n [] b8 b8 b8 b8 N rfl (hQ _) (by unfold fuel;split<;>simp<;>lia);show⟨f,d,O,Q,T,?_⟩;show bt rfl (.inl rfl) C (aw (r:=(.own,.Ji ks (ks.map (cO (JQ rows rows.length))))) (b_ (ae (af rfl) aj) trivial B) aZ (aw G aZ (aw (r:=(.own,.Ji [] [])) lM aZ (aw (r:=(.own,.lst [])) (cD aj trivial aM (i8 _)) aZ (aw L aZ (zr Y (bP (aA q) (gT q))))))))
def wZ(hs:Γ "steps_in_rounds" [.tup (rows.map B')]=a5 (.ok (.own,.lst (gI a))))(c:a.flatten=f)(hl:f.length<=120):dg Γ fJ [.tup (rows.map B')]=a5 (.ok (.own,.lst (f.map stN))):=by
 have hsz:(20000:Nat)<=cL:=by decide
 have h:TM.start [.tup (rows.map B')] 3=[a5 (.loc,.tup (rows.map B')),b8,b8]:=by simp[TM.start,JG,cq]
 let S:=λ(l:List (Str×Nat)) (o2:Option (Kd×U))=>([a5 (.loc,.tup (rows.map B')),a5 (.own,.lst (l.map stN)),o2]:ay)
 have⟨st',i,b,o2,e⟩:=bU (t:=cc) (is:=[2]) (body:=execs Γ [.ext 1 (.var 2)]) (rs:=[(.own,.lst (gI a))]) (λl:List (Str×Nat)=>(Kd.loc,U.lst (l.map stN)))
  (λd r st=>d++r=a/\∃o2:Option (Kd×U),st=S d.flatten o2) (λ_ _ _ _=>trivial) (λd y r st j=>by
   have⟨b,o2,e⟩:=j;subst e;have m:d.flatten.length+y.length<=120:=by
    have:=ņ (λl:List (List (Str×Nat))=>l.flatten.length) b;simp only[Zz,Vs,hY,c]at this;lia
   show⟨S d.flatten (a5 (.loc,.lst (y.map stN))),S (d++[y]).flatten (a5 (.loc,.lst (y.map stN))),fG aE,?_,by rw[<-b];simp,_,rfl⟩;have em:(d++[y]).flatten.map stN=d.flatten.map stN++y.map stN:=by simp
   change Run _ _ _ [a5 (.loc,.tup (rows.map B')),a5 (.own,.lst ((d++[y]).flatten.map stN)),a5 (.loc,.lst (y.map stN))];rw[em];show zm (k:=.own) (k':=.own) rfl (af rfl) rfl rfl (vb (by rw[df,df];lia) rfl) ax) a [] (S [] b8) ⟨rfl,b8,rfl⟩
 subst e;have e:(gI a).map (λu=>(kE .own,u))=a.map λl=>(Kd.loc,U.lst (l.map stN)):=by unfold gI;rw[kb];rfl
 have g:=bt (Γ:=Γ) (fn:=fJ) rfl (.inl rfl) h (aw (r:=(.own,.lst [])) (cD aj trivial aM (i8 _)) aZ (c8 (rs:=[(.own,.lst (gI a))]) (st1:=S [] b8) (ae (b_ (ae (af rfl) aj) trivial hs) aj) trivial rfl rfl (by rw[e];show i) (bP (aA rfl) (gT rfl))));rw[i5,c]at g;show g
end
section
variable{Γ:Tab}{rows:List Row}{names:List Str}
def l9(h:ss.length<64):Lf .sorted [(k,.lst (ss.map .str))]=a5 (.own,.lst ((aH ss).map .str)):=by
 change(strsOf (ss.map U.str)).bind _=_;rw[dX];change(if ss.length<64 then _ else _)=_;rw[Ł h]
def tL{a:List (Str×Nat)}(hl:a.length<64)(ho:Γ "order" [.tup (rows.map B')]=a5 (.ok (.own,.lst (a.map stN)))):dg Γ fm [.tup (rows.map B')]=a5 (.ok (.own,.lst ((aH (a.map (·.1))).map .str))):=by
 have hsz:(20000:Nat)<=cL:=by decide
 have c:TM.start [.tup (rows.map B')] 1=[a5 (.loc,.tup (rows.map B'))]:=by simp[TM.start,JG,cq]
 have b:=pF (st:=[a5 (.loc,.tup (rows.map B'))]) (cond:=bh Γ []) (elt:=ev Γ (.var 0)) (src:=[(.own,.lst (a.map stN))]) trivial (λs:Str×Nat=>U.str s.1) (λs=>U.int (s.2:Nat)) (λs=>U.str s.1) (λ_=>bD) a [] (by simp;lia) (λy _=>⟨nR,af rfl⟩);rw[i5,QT.mpr (λ_ _=>rfl)]at b;have e:(a.map stN).map (λu=>(kE .own,u))=a.map λs=>(Kd.loc,U.tup [.str s.1,.int (s.2:Nat)]):=by rw[kb];rfl
 have d:(a.map λs=>U.str s.1)=(a.map (·.1)).map U.str:=by rw[kb];rfl
 rw[d]at b;show bt rfl (.inl rfl) c (bP (cI (ae (dI (rs:=[(.own,.lst (a.map stN))]) (ae (b_ (ae (af rfl) aj) trivial ho) aj) trivial (by change a5 (W' (λu=>(kE .own,u)) _)=_;rw[e]) b) aj) trivial (l9 (by rw[df];show hl))) jV)
structure QZ(prog:List Fn):Prop where
 g:Jz prog "gathered" dA
 p:Jz prog "places_that_tell" br
 n:Jz prog "new_steps" c9
 s:Jz prog "steps_in_rounds" bu
 o:Jz prog "order" fJ
 l:Jz prog "learnt" fm
structure Kn(rows:List Row)(K:List Str):Prop where
 nd:K.Nodup
 sn:QP rows K
 cl:gf rows (·∈K)
def Kn.perm(a:Kn rows K)(b:Kn rows L):K.Perm L:=same a.nd b.nd a.sn b.sn a.cl b.cl
def Kn.of(s:LI rows a []):Kn rows (a.map (·.1)):=⟨s.nd,s.sn,s.closed⟩
def Cu(L:QZ prog)(n:Nat)(d:∀r∈rows,nS names r)(y:names.length<=24)(e:rows.length<=120):∃c:List (Str×Nat),LI rows c []/\c.length<=24/\Jq prog (n+4) "order" [.tup (rows.map B')]=a5 (.ok (.own,.lst (c.map stN))):=by
 have j:∀r∈rows,r.2.length<=8:=λr h=>(d r h).Nv;have f:Once rows:=λr h=>(d r h).once;have i:∀r∈rows,r.1∈names:=λr h=>(d r h).word;have k:C3 (Jq prog (n+1)):=λps hl=>by
  have⟨ks,a,b⟩:=pK (Γ:=Jq prog n) hl;show⟨ks,a,(aL L.g _).trans b⟩
 have l:C4 (Jq prog (n+2)) rows:=by
  have⟨ks,a,b⟩:=tK k f j e;show⟨ks,a,(aL L.p _).trans b⟩
 have m:Ae (Jq prog (n+2)) rows:=λR K0 vs q=>by
  have⟨st,a,b⟩:=mL (Γ:=Jq prog (n+1)) i ⋯ q (K0:=K0) (vs:=vs);show⟨st,a,(aL L.n _).trans b⟩
 have⟨c,t,s1,s2,s3,s4⟩:=gJ f e l m;have u:Jq prog (n+3) "steps_in_rounds" [.tup (rows.map B')]=a5 (.ok (.own,.lst (gI t))):=(aL L.s _).trans s4;have v:c.length<=24:=by
  have:=vg (Kn.of s1).nd (L:=names) λx w=>by
   have⟨r,a,b⟩:=js.mp (s1.wd x w);show b▸i r a
  rw[df]at this;lia
 show⟨c,s1,v,(aL L.o _).trans (wZ u s2 ⋯)⟩
def Cv(L:QZ prog)(n:Nat)(a:∀r∈rows,nS names r)(b:names.length<=24)(c:rows.length<=120)(d:Kn rows K):Jq prog (n+5) "learnt" [.tup (rows.map B')]=a5 (.ok (.own,.lst ((aH K).map .str))):=by
 have⟨f,s1,s2,s3⟩:=Cu L n a b c;have e:aH (f.map (·.1))=aH K:=fS ((Kn.of s1).perm d);rw[<-e];show(aL L.l _).trans (tL ⋯ s3)
end
end KL
namespace TM
open PySem L2 JE
section
def vq{a b:List Str}:bN .ne (.lst (a.map U.str)) (.lst (b.map U.str))=a5 (!cK (a=b)):=by
 have h:=@jc a b;simp only[bN]at h ⊢;split at h
 .rename_i c;rw[Ł c,sL h]
 .cases h
def eF(rs:List Row):(a5 (if JG (.tup (rs.map B'))=bD then Kd.loc else Kd.any,U.tup (rs.map B')):Option (Kd×U))=a5 (.loc,.tup (rs.map B')):=by
 rw[Ł (by change cT (rs.map B')=bD;show cq rs)]
def rp{ss:List Str}:KU .seq [(k,.tup (ss.map .str))]=a5 (ss.map λx=>(kE k,U.str x)):=by
 change a5 ((ss.map U.str).map λu=>(kE k,u))=_;rw[kb];rfl
def w9{ss:List Str}(hk:k=.any\/k=.loc):dQ k (ss.map .str)=bD:=by
 rcases hk with rfl|rfl
 .show gD ss
 .rfl
def w_(a:us.length=fn.np)(hs:start us fn.ns=st0)(h:Run (execs Γ fn.body) st0 .nx st):dg Γ fn us=a5 (.ok (.loc,.Jm)):=by
 subst hs;unfold dg;rw[Ł a,show execs Γ fn.body (start us fn.ns)=_ from h]
def C5(h:Run (ev Γ e) st x st1):Run (execs Γ (.Nj c e::ss)) st (.rt .io (.str c)) st1:=aa (aa h aK) aK
def gn(a:us.length=fn.np)(hs:start us fn.ns=st0)(h:Run (execs Γ fn.body) st0 (.rt .io (.str c)) st):dg Γ fn us=a5 (.exc c):=by
 subst hs;unfold dg;rw[Ł a,show execs Γ fn.body (start us fn.ns)=_ from h]
def C6(h:Γ f us=a5 (.ok (.own,u))):Run (bK Γ f us) st (.inl (.own,u)) st:=by
 change bK Γ f us st=_;unfold bK;rw[h]
def l_(h:Γ f us=a5 (.ok (.loc,u))):Run (bK Γ f us) st (.inl (.loc,u)) st:=by
 change bK Γ f us st=_;unfold bK;rw[h]
def vt(h:Γ f us=a5 (.exc c)):Run (bK Γ f us) st (.inr c) st:=by
 change bK Γ f us st=_;unfold bK;rw[h]
def HH(a:Run (ba Γ es) st rs st)(b:aX rs st)(c:Run (bK Γ f (rs.map (·.2))) st (.inl r) st)(d:Run (execs Γ ss) st e st1):Run (execs Γ (.Nk f es::ss)) st e st1 :=
 aa (aa (aa a (aa (aR b) c)) aK) d
def Ft(a:Run (ba Γ es) st rs st)(b:aX rs st)(d:Run (bK Γ f (rs.map (·.2))) st (.inr c) st):Run (execs Γ (.Nk f es::ss)) st (.rt .io (.str c)) st :=
 aa (aa (aa a (aa (aR b) d)) aK) aK
def HI(h:st[j]?=a5 b8)(hk:k≠j)(b:c∈a):Run (ju a i j k (.inr c)) st .nx (st.set k (a5 (.loc,.exc c))):=by
 change ju a i j k (.inr c) st=_;unfold ju
 dsimp only
 rw[h];show Ł ⟨hk,b⟩
def HJ:Run (ju a i j k (.inl (.own,u))) st .nx (st.set i (a5 (.own,u))):=aa aZ aK
def HK:Run (ju a i j k (.inl (.loc,u))) st .nx (st.set i (a5 (.loc,u))):=aa aE aK
def jW(h:Run (ev Γ a) st x st1)(c:fe d x.2=a5 b):Run (ev Γ (.Kx a D d)) st (.loc,.bl b) st1:=aa h (aa (cw c) aK)
def HL(h:Run (ev Γ a) st x st1)(c:fe d x.2=a5 b):Run (JC Γ (.Kx a D d)) st b st1:=aa h (cw c)
def C7(h:sm a i b st=a5 (.ok r,st)):Run (ev Γ (.NC a i b)) st r st:=h
abbrev og:Fn:=⟨"refuse_unknown",2,2,[.ite (.cmp .gt (.N6 bD (.var 1) (.call "words_of" [.var 0])) (.cst (.int 0))) [.Nj "Unknown" (.cst (.str "the book has no such word"))] []]⟩
def bX.ok(h:bX ws r):nS ws r:=⟨h.1,h.2.2.2,h.2.1,h.2.2.1⟩
structure Bq(ws:List Str)(rs:List Row):Prop where
 wl:ws.length<=24
 rl:rs.length<=84
 ok:∀r∈rs,bX ws r
def Af(n:ws.length<1000)(hk:jh ws ks)(e:bX ws r):
  ∃a b,Run (execs Γ zT) (pJ rs ks (a5 (.loc,.str r.1)) (a5 (.loc,.tup (r.2.map .str))) o4) .nx (pJ rs a (a5 (.loc,.str r.1)) (a5 (.loc,.tup (r.2.map .str))) b)/\jh ws a/\∀x,x∈a↔x∈ks\/x=r.1\/x∈r.2:=by
 have o:=hk.len;obtain⟨st',j,a,b,rfl,l,_,c⟩:=bU (rs:=[(.loc,.tup (r.2.map .str))]) (t:=cc) (is:=[4]) (body:=execs Γ C2) (λx:Str=>(Kd.loc,U.str x)) (λd q st=>∃a b,st=pJ rs a (a5 (.loc,.str r.1)) (a5 (.loc,.tup (r.2.map .str))) b/\jh ws a/\(∀x∈q,x∈ws)/\∀x,x∈a↔(x∈ks\/x=r.1)\/x∈d)
  (λ_ _ _ _=>trivial) (λd y q st h=>by
   have⟨f,b,rfl,g,i,c⟩:=h;have p:=g.len;show⟨pJ rs f (a5 (.loc,.str r.1)) (a5 (.loc,.tup (r.2.map .str))) (a5 (.loc,.str y)),_,aE,jb (k:=.own) (k':=.own) ai rfl (af rfl) (aJ aP (aJ aP aM)) rfl rfl (kG ⋯) ax,fk f y,_,rfl,g.ins (i y (by simp)),λx m=>i x (by simp[m]),λx=>?_⟩;rw[gk,c x,hW,hV,or_assoc]) r.2 [] (pJ rs (fk ks r.1) (a5 (.loc,.str r.1)) (a5 (.loc,.tup (r.2.map .str))) o4) ⟨_,_,rfl,hk.ins e.1,e.2.2.1,λx=>by rw[gk];simp⟩
 show⟨a,b,?_,l,λx=>by rw[c x,or_assoc,i5]⟩;show jb (k:=.own) (k':=.own) ai rfl (af rfl) (aJ aP (aJ aP aM)) rfl rfl (kG ⋯) (c8 (rs:=[(.loc,.tup (r.2.map .str))]) (ae (af rfl) aj) trivial rp rfl j ax)
def Fu(h:Jz Pg "_law_all" wX)(p:ws.length<=24)(c:∀r∈rs,bX ws r):Jq Pg (d+1) "_law_all" [.tup (rs.map B')]=a5 (.ok (.own,.lst ((az rs).map .str))):=by
 obtain⟨st',f,ks,o2,o3,o4,rfl,hk,_,g⟩:=bU (rs:=[(.loc,.tup (rs.map B'))]) (t:=bD) (is:=[2,3]) (body:=execs (Jq Pg d) zT) (λr:Row=>(Kd.loc,B' r)) (λd q st=>∃ks o2 o3 o4,st=pJ rs ks o2 o3 o4/\jh ws ks/\(∀r∈q,bX ws r)/\∀x,x∈ks↔∃r∈d,x=r.1\/x∈r.2)
  (λ_ _ _ _=>trivial) (λd y q st h=>by
   have⟨i,o2,o3,o4,rfl,j,b,k⟩:=h;have⟨l,s,m,n,o⟩:=Af (Γ:=Jq Pg ‹Nat›) (rs:=rs) (o4:=o4) ⋯ j (b y (by simp));show⟨pJ rs i (a5 (.loc,.str y.1)) (a5 (.loc,.tup (y.2.map .str))) o4,_,nV (.inl rfl),m,l,_,_,_,rfl,n,λr a=>b r (by simp[a]),λx=>?_⟩;rw[o x,k x];constructor
   .rintro(⟨r,a,e⟩|e)
    .show⟨r,by simp[a],e⟩
    .show⟨y,by simp,e⟩
   .rintro⟨r,a,e⟩;rcases hW.mp a with q|q
    .show .inl ⟨r,q,e⟩
    .rw[hV]at q;subst q;show .inr e) rs [] (pJ rs [] b8 b8 b8) ⟨[],b8,b8,b8,rfl,⟨by simp,by simp⟩,c,by simp⟩
 have hl:=hk.len;have e:aH ks=az rs:=fS ((Ol hk.1 (bC _)).mpr λx=>by rw[g x,bG,cm,i5]);show(aL h _).trans (bt (st0:=[a5 (.loc,.tup (rs.map B')),b8,b8,b8,b8]) rfl (.inl rfl) (ņ (λx:Option (Kd×U)=>[x,b8,b8,b8,b8]) (eF rs)) (aw (st2:=pJ rs [] b8 b8 b8) lM aZ (c8 (rs:=[(.loc,.tup (rs.map B'))]) (ae (af rfl) aj) trivial kH rfl f (bP (cI (ae (aA rfl) aj) ∅ ?_) jV))));change(if ks.length<64 then a5 (Kd.own,U.lst ((aH ks).map .str)) else b8)=_;rw[Ł ⋯,e]
def all2(h:Jz Pg "_law_all" wX)(a:Bq ws rs):Jq Pg (d+1) "_law_all" [.tup (rs.map B')]=a5 (.ok (.own,.lst ((az rs).map .str))):=Fu h a.wl a.ok
def Fv(h:Jz Pg "_law_all" wX):zU (Jq Pg (d+1)):=λws rs c a=>⟨_,Fu h c a,qS _,λx f=>by
 have⟨r,b,e⟩:=cm.mp (cW.mp f);rcases e with rfl|e
 .show(a r b).1
 .show(a r b).2.2.1 _ e⟩
def xb(g:l8 Γ)(h:zX Γ){ns:List Int}(l:ns.length<1000)(c:Src T u)(y:T+1000<2 ^ 62)(z:1<=ws.length)(d:ws.length<=24):
  ∃(rs:List Row) (a:List Int) (u':U),Run (ev Γ (.Jf "_law_widened" [.var 3,.Jf "_law_book" [.var 1,.var 3,.var 4] [0,1]] [0])) (o0::a5 (.own,.lst (ns.map .int))::o2::a5 (.own,u)::a5 (.own,.lst (ws.map .str))::rest) (.loc,.tup (rs.map B')) (o0::a5 (.own,.lst (a.map .int))::o2::a5 (.own,u')::a5 (.own,.lst (ws.map .str))::rest)/\Bq ws rs:=by
 have⟨b,rfl,m⟩:=c.lst;have⟨rs,a,u2,n,o,p,A,s2⟩:=g ns (.lst b) ws _ c ⋯ l ⋯ ⋯;have⟨e,rfl,q⟩:=s2.lst;have s:=zY (Γ:=Γ) (st:=o0::a5 (.own,.lst (ns.map .int))::o2::a5 (.own,.lst b)::a5 (.own,.lst (ws.map .str))::rest) (st1:=o0::a5 (.own,.lst (ns.map .int))::o2::a5 (.own,.lst b)::a5 (.own,.lst (ws.map .str))::rest) (i:=1) (j:=3) (k0:=.own) (k:=.own) (k0':=.own) (k':=.own) (rs:=[(.bor 4,.lst (ws.map .str))]) ⋯ rfl rfl rfl rfl (ae (aA rfl) aj) rfl rfl (gF ns) rfl rfl m rfl ⟨⟨.own,rfl,rfl⟩,trivial⟩ (λr f=>by rw[hV]at f;subst f;rfl) n (.inr rfl);have⟨t,B,v,b3,w,s3⟩:=h _ (.lst e) ws rs s2 ⋯ d o.1 p;have⟨x,rfl,C⟩:=s3.lst;show⟨t,a,.lst x,iu (Γ:=Γ) (st:=o0::a5 (.own,.lst (ns.map .int))::o2::a5 (.own,.lst b)::a5 (.own,.lst (ws.map .str))::rest) (st1:=o0::a5 (.own,.lst (a.map .int))::o2::a5 (.own,.lst e)::a5 (.own,.lst (ws.map .str))::rest) (i:=3) (k0:=.own) (k:=.own) (rs:=[(.loc,.tup (rs.map B'))]) rfl rfl (ae s aj) rfl rfl q rfl v (.inr rfl),d,w,b3⟩
end
end TM
namespace TM
open PySem L2 JE Od
section
abbrev Ag(a b c d e f g h i:List (Str×Bool)):Fn:=⟨"_law_kind",1,2,
   [.set 1 (.lst [.Kx (.var 0) "Unknown" a,.Kx (.var 0) "Unlearnt" b,.Kx (.var 0) "TooMany" c,.Kx (.var 0) "Lacking" d]),
    .set 1 (.bin .add (.var 1) (.lst [.Kx (.var 0) "NoText" e,.Kx (.var 0) "Unfit" f,.Kx (.var 0) "NoRow" g,.Kx (.var 0) "NoDeed" h])),
    .ite (.or [.cmp .ne (.NC cc 1 bD) (.cst (.int 1)),.not (.Kx (.var 0) "ValueError" i)])
      [.ret (.cst (.str "none"))]
      [],
    .ret (.idx (.lst [(.cst (.str "unknown")),(.cst (.str "unlearnt")),(.cst (.str "many")),(.cst (.str "lacking")),(.cst (.str "text")),(.cst (.str "unfit")),(.cst (.str "row")),(.cst (.str "deed"))]) (.NC bD 1 bD))]⟩
def oh(o:fe p (.exc c)=a5 b1)(q:fe s (.exc c)=a5 d)(t:fe v (.exc c)=a5 b3)(w:fe y (.exc c)=a5 b4)(z:fe A (.exc c)=a5 f)(B:fe C (.exc c)=a5 g)(D:fe G (.exc c)=a5 i)(H:fe I (.exc c)=a5 j)(J:fe L (.exc c)=a5 bD)
  (N:sm cc 1 bD [a5 (.loc,.exc c),a5 (.own,.lst [.bl b1,.bl d,.bl b3,.bl b4,.bl f,.bl g,.bl i,.bl j])]=a5 (.ok (.loc,.int 1),[a5 (.loc,.exc c),a5 (.own,.lst [.bl b1,.bl d,.bl b3,.bl b4,.bl f,.bl g,.bl i,.bl j])]))
  (O:sm bD 1 bD [a5 (.loc,.exc c),a5 (.own,.lst [.bl b1,.bl d,.bl b3,.bl b4,.bl f,.bl g,.bl i,.bl j])]=a5 (.ok (.loc,.int n),[a5 (.loc,.exc c),a5 (.own,.lst [.bl b1,.bl d,.bl b3,.bl b4,.bl f,.bl g,.bl i,.bl j])]))
  (Q:J9 [U.str "unknown",.str "unlearnt",.str "many",.str "lacking",.str "text",.str "unfit",.str "row",.str "deed"] n=a5 (.str x)):dg Γ (Ag p s v y A C G I L) [.exc c]=a5 (.ok (.loc,.str x)):=by
 have T:(1000:Nat)<=cL:=by decide
 have l:(4:Nat)<=cL:=by lia
 have m:(8:Nat)<=cL:=by lia
 have a:∀(r:Kd×U) (rs:List (Kd×U)) (us:List U) (st:ay),r.1=.loc->Run (de rs) st us st->Run (de (r::rs)) st (r.2::us) st:=λr rs us st e h=>aJ (by have⟨k,u⟩:=r;cases e;show aP) h;show bt rfl (.inr rfl) (st:=[a5 (.loc,.exc c),a5 (.own,.lst [.bl b1,.bl d,.bl b3,.bl b4,.bl f,.bl g,.bl i,.bl j])]) (st0:=[a5 (.loc,.exc c),b8]) rfl (aw (r:=(.own,.lst [.bl b1,.bl d,.bl b3,.bl b4])) (st1:=[a5 (.loc,.exc c),b8]) ?_ aZ (aw (r:=(.own,.lst [.bl b1,.bl d,.bl b3,.bl b4,.bl f,.bl g,.bl i,.bl j])) (st1:=[a5 (.loc,.exc c),a5 (.own,.lst [.bl b1,.bl d,.bl b3,.bl b4])]) ?_ aZ (bA (st2:=[a5 (.loc,.exc c),a5 (.own,.lst [.bl b1,.bl d,.bl b3,.bl b4,.bl f,.bl g,.bl i,.bl j])]) ?_ ax (bP ?_ dN))))
 .show cD (ae (jW (af rfl) o) (ae (jW (af rfl) q) (ae (jW (af rfl) t) (ae (jW (af rfl) w) aj)))) trivial (a _ _ _ _ rfl (a _ _ _ _ rfl (a _ _ _ _ rfl (a _ _ _ _ rfl aM)))) l
 .show bB (aA rfl) (cD (ae (jW (af rfl) z) (ae (jW (af rfl) B) (ae (jW (af rfl) D) (ae (jW (af rfl) H) aj)))) trivial (a _ _ _ _ rfl (a _ _ _ _ rfl (a _ _ _ _ rfl (a _ _ _ _ rfl aM)))) l) ∅ (qT m rfl rfl)
 .show wK (qN (aG (C7 N) ai trivial (tJ rfl)) (qM (lO (HL (b:=bD) (af rfl) J))))
 .show bL (cD (ae ai (ae ai (ae ai (ae ai (ae ai (ae ai (ae ai (ae ai aj)))))))) trivial (a _ _ _ _ rfl (a _ _ _ _ rfl (a _ _ _ _ rfl (a _ _ _ _ rfl (a _ _ _ _ rfl (a _ _ _ _ rfl (a _ _ _ _ rfl (a _ _ _ _ rfl aM)))))))) m) (C7 O) trivial (cN Q)
def tM(a:Run (ba Γ es) st rs st)(b:aX rs st)(c:Run (bK Γ f (rs.map (·.2))) st r st)(d:Run (ju e i j k r) st .nx st1)(h:Run (execs Γ ss) st1 l st2):
  Run (execs Γ (.Nl i [] f es g m x e j k::ss)) st l st2:=aa (aa (aa a (aa (aR b) c)) d) h
end
section
def cG(hk:k=.loc\/k=.any)(h:st[i]?=a5 (a5 (k,u))):Run (ev Γ (.var i)) st (k,u) st:=by
 rcases hk with rfl|rfl
 .show af h
 .show aT h
def UY(hk:k=.loc\/k=.any)(h:JG u=bD):Run (lift (k,u)) st u st:=by
 rcases hk with rfl|rfl
 .show aP
 .show qL h
def bQ(hk:k=.loc\/k=.any)(h:aX rs st):aX ((k,u)::rs) st:=by rcases hk with rfl|rfl<;>show h
def I0(hk:k=.loc\/k=.any):kE k=k:=by rcases hk with rfl|rfl<;>rfl
def Ah{told a:List Str}(hk:k=.loc\/k=.any)(hl:told.length<=1000)(hs:Run (ev Γ src) st (k,.tup (told.map .str)) st)(c:st[j]?=a5 (a5 (.own,w)))(d:∀x:Str,bN .isin (.str x) w=a5 (cK (x∈a))):
  Run (ev Γ (.bi .all [.comp 1 cc .seq [src] [] (.cmp .isin (.var 0) (.var (j+1)))])) st (.loc,.bl (told.all λx=>cK (x∈a))) st:=by
 have hsz:(1000:Nat)<=cL:=by decide
 have b:=lS (cond:=bh Γ []) (elt:=ev Γ (.cmp .isin (.var 0) (.var (j+1)))) (src:=[(k,.tup (told.map .str))]) (st:=st) (bQ hk trivial) k hk U.str (λx=>.bl (cK (x∈a))) .loc (λ_=>nR) told [] (by simp;lia)
  (λy _=>⟨lL (cG hk rfl) (aA (by simpa using c)) (bQ hk ⟨⟨.own,rfl,by simpa using c⟩,trivial⟩) (d y),aP⟩)
 rw[i5]at b;have e:(told.map U.str).map (λu=>(kE k,u))=told.map λr=>(k,U.str r):=by rw[kb,I0 hk];rfl
 have f:(told.map λx=>U.bl (cK (x∈a)))=(told.map λx=>cK (x∈a)).map U.bl:=by rw[kb];rfl
 rw[f]at b;have g:(told.all λx=>cK (x∈a))=((told.map λx=>cK (x∈a)).all id):=by rw[đ];rfl
 rw[g];show cI (ae (dI (rs:=[(k,.tup (told.map .str))]) (ae hs aj) (bQ hk trivial) (by change a5 _=_;rw[e]) b) aj) trivial (vi _)
abbrev HM:List S:=[.ite (.and [.cmp .Jh (.var 3) (.var 1),.bi .all [.comp 1 cc .seq [.var 4] [] (.cmp .isin (.var 0) (.var 2))]]) [.put 1 (.var 3) (.cst (.bl bD)),.set 2 (.cst (.bl bD))] []]
abbrev Fw:List S:=[.set 2 (.cst (.bl cc)),.Jy bD [3,4] .seq [.var 0] HM]
abbrev Cw:Fn:=⟨"_law_learnt",1,5,[.set 1 (.KZ cc),.set 2 (.cst (.bl bD)),.N7 (.var 2) Fw,.ret (.var 1)]⟩
inductive Bv(rs:List Row):Kd->U->Prop
 |tup:Bv rs .loc (.tup (rs.map B'))
 |lst:Bv rs .any (.lst (rs.map B'))
def Bv.kd{W:U}(h:Bv rs k W):k=.loc\/k=.any:=by cases h<;>simp
def Bv.it{W:U}(h:Bv rs k W):KU .seq [(k,W)]=a5 (rs.map λr=>(k,B' r)):=by
 cases h
 .show kH
 .change a5 ((rs.map B').map λu=>(kE .any,u))=_;rw[kb];rfl
def Bv.bg{W:U}(h:Bv rs k W):(a5 (if JG W=bD then Kd.loc else Kd.any,W):Option (Kd×U))=a5 (k,W):=by
 cases h
 .show eF rs
 .rfl
abbrev kf(k:Kd)(W:U)(K:List Str)(b:Bool)(o3 o4:Option (Kd×U)):ay:=[a5 (k,W),a5 (.own,mK K),a5 (.loc,.bl b),o3,o4]
structure Ob(ws:List Str)(rs:List Row)(K:List Str):Prop where
 ks:jh ws K
 snd:QP rs K
def Ob.add(x:Ob ws rs K)(b:r∈rs)(c:r.1∈ws)(d:∀y∈r.2,y∈K):Ob ws rs (fk K r.1) :=
 ⟨x.ks.ins c,λC a y f=>(gk.mp f).elim (x.snd C a y) λe=>e▸a r b λz hz=>x.snd C a z (d z hz)⟩
def Cy{W:U}(v:Bv rs k W)(I:ws.length<=40)(z:∀r∈rs,bX ws r)(x:Ob ws rs K0):
  ∃(g:List Str) (b:Bool) (o p:Option (Kd×U)),Run (execs Γ Fw) (kf k W K0 b0 o3 o4) .nx (kf k W g b o p)/\Ob ws rs g/\(b=bD->K0.length<g.length)/\(b=cc->g=K0/\gf rs (·∈K0)):=by
 have hk:=v.kd;obtain⟨st1,C,_,g,b,o,p,rfl,i,l,c⟩:=bU (t:=bD) (is:=[3,4]) (body:=execs Γ HM) (rs:=[(k,W)]) (λr:Row=>(k,B' r))
  (λd r st=>d++r=rs/\∃(K:List Str) (b:Bool) (o3 o4:Option (Kd×U)),st=kf k W K b o3 o4/\Ob ws rs K/\(b=bD->K0.length<K.length)/\(b=cc->K=K0/\∀r∈d,(∀y∈r.2,y∈K0)->r.1∈K0)) (λ_ _ _ _=>bQ hk trivial) (λd a r st D=>by
   have⟨q,K,b,o3,o4,e,i,l,c⟩:=D;subst e;have s:a∈rs:=by rw[<-q];simp
   have J:=(z a s).2.2.2;have L:=i.ks.len;have m:Run (JC Γ (.and [.cmp .Jh (.var 3) (.var 1),.bi .all [.comp 1 cc .seq [.var 4] [] (.cmp .isin (.var 0) (.var 2))]])) (kf k W K b (a5 (k,.str a.1)) (a5 (k,.tup (a.2.map .str)))) (!cK (a.1∈K)&&a.2.all λy=>cK (y∈K)) (kf k W K b (a5 (k,.str a.1)) (a5 (k,.tup (a.2.map .str)))) :=
    fi (lR (aG (cG hk rfl) (aA rfl) (bQ hk ⟨⟨.own,rfl,rfl⟩,trivial⟩) fj) λ_=>cE (zl (Ah (j:=1) (w:=mK K) hk ⋯ (cG hk rfl) rfl λ_=>Fm)))
   have A:Run (dR bD [3,4] (k,B' a)) (kf k W K b o3 o4) () (kf k W K b (a5 (k,.str a.1)) (a5 (k,.tup (a.2.map .str)))):=nV hk;cases f:(!cK (a.1∈K)&&a.2.all λy=>cK (y∈K)) with
   |false =>
    rw[f]at m;show⟨_,_,A,bA m ax ax,by rw[<-q];simp,K,b,_,_,rfl,i,l,λu=>⟨(c u).1,λn Mh hz=>?_⟩⟩;rcases hW.mp Mh with Mh|Mh
    .show(c u).2 n Mh hz
    .rw[hV]at Mh;subst Mh;rw[<-(c u).1]at hz ⊢;by_cases B:n.1∈K
     .show B
     .have:(!cK (n.1∈K)&&n.2.all λy=>cK (y∈K))=bD:=by
       rw[Ń B];simpa using hz
      rw[this]at f;cases f
   |true =>
    rw[f]at m;simp only[cb,nH,decide_eq_false_iff_not,i7,ŀ]at f;have G:fk K a.1=K++[a.1]:=by unfold fk;rw[ł f.1]
    show⟨_,kf k W (fk K a.1) bD (a5 (k,.str a.1)) (a5 (k,.tup (a.2.map .str))),A,dH m (jb (k:=.own) (k':=.own) ai rfl (cG hk rfl) (aJ aP (aJ (UY hk rfl) aM)) rfl rfl (kG ⋯) (aw ai aE ax)) ax,by rw[<-q];simp,fk K a.1,bD,_,_,rfl,i.add s (z a s).1 f.2,λ_=>?_,λh=>by cases h⟩;rw[G,hY,Nz];cases b with
    |true=>have:=l rfl;lia
    |false=>rw[(c rfl).1];lia) rs [] (kf k W K0 cc o3 o4) ⟨rfl,K0,cc,o3,o4,rfl,x,(λh=>by cases h),λ_=>⟨rfl,λr H=>by cases H⟩⟩
 rw[i5]at c;show⟨g,b,o,p,aw ai aE (c8 (rs:=[(k,W)]) (st1:=kf k W K0 cc o3 o4) (ae (cG hk rfl) aj) (bQ hk trivial) v.it (by rcases hk with rfl|rfl<;>rfl) C ax),i,l,c⟩
theorem pL{W:U}(i:Bv rs k W)(j:ws.length<=40)(l:∀r∈rs,bX ws r):
  ∀(f:Nat) (K0:List Str) (o3 o4:Option (Kd×U)),Ob ws rs K0->64 - K0.length<f->∃(a:List Str) (c d:Option (Kd×U)),Run (gG (JC Γ (.var 2)) (execs Γ Fw) (f+1)) (kf k W K0 bD o3 o4) .nx (kf k W a cc c d)/\Ob ws rs a/\gf rs (·∈a)
 |0,_,_,_,_,h=>by lia
 |f+1,K0,o3,o4,x,h=>by
  have⟨a,b,c,d,m,g,n,o⟩:=Cy (Γ:=Γ) i j l x (b0:=bD) (o3:=o3) (o4:=o4);cases b with
  |false =>
   have⟨e,p⟩:=o rfl;subst e;show⟨a,c,d,zq (gh rfl) m (vh (gh rfl)),g,p⟩
  |true =>
   have:=n rfl;have:=g.ks.len;have⟨q,s,t,u,v,w⟩:=pL i j l f a c d g ⋯;show⟨q,s,t,zq (gh rfl) m u,v,w⟩
abbrev HN(m:Nat)(Γ:Tab):Prop:=∀(ws:List Str) (rs:List Row) (k:Kd) (W:U),Bv rs k W->ws.length<=m->(∀r∈rs,bX ws r)->∃K,Γ "_law_learnt" [W]=a5 (.ok (.own,mK K))/\jh ws K/\KL.Kn rs K
@[reducible]def I_:=HN 24
def HP(e:m<=40)(h:Jz Pg "_law_learnt" Cw):HN m (Jq Pg (d+1)):=λws rs k W a f b=>by
 have⟨K,g,i,q,x,c⟩:=pL (Γ:=Jq Pg d) a ⋯ b 999999999999 [] b8 b8 ⟨⟨.nil,λ_ h=>absurd h Kw⟩,λ_ _ _ h=>absurd h Kw⟩ (by simp);show⟨K,(aL h _).trans (bt rfl (.inl rfl) (st0:=[a5 (k,W),b8,b8,b8,b8]) (ņ (λx:Option (Kd×U)=>[x,b8,b8,b8,b8]) a.bg) (aw lM aZ (aw ai aE (zr q (bP (aA rfl) (gT rfl)))))),x.ks,x.ks.1,x.snd,c⟩
abbrev Ln(rs:List Row)(x:Str):Prop:=∀C:Str->Prop,gf rs C->C x
def Kn.mem(h:KL.Kn rs K):x∈K↔Ln rs x:=⟨λa C b=>h.sn C b x a,λhl=>hl _ h.cl⟩
def Kn.some(c:ws.length<=24)(a:∀r∈rs,bX ws r):∃K,KL.Kn rs K/\jh ws K:=by
 have⟨K,d,e,q,x,b⟩:=pL (Γ:=λ_ _=>b8) (Bv.tup (rs:=rs)) ⋯ a 999999999999 [] b8 b8 ⟨⟨.nil,λ_ h=>absurd h Kw⟩,λ_ _ _ h=>absurd h Kw⟩ (by simp);show⟨K,⟨x.ks.1,x.snd,b⟩,x.ks⟩
end
inductive Bw(L:List Str):Kd->U->Prop
 |tup:Bw L .loc (.tup (L.map .str))
 |lst:Bw L .any (.lst (L.map .str))
def Bw.kd{W:U}(h:Bw L k W):k=.loc\/k=.any:=by cases h<;>simp
def Bw.it{W:U}(h:Bw L k W):KU .seq [(k,W)]=a5 (L.map λx=>(k,U.str x)):=by
 cases h
 .show rp
 .change a5 ((L.map U.str).map λu=>(kE .any,u))=_;rw[kb];rfl
def Bw.bg{W:U}(h:Bw L k W):(a5 (if JG W=bD then Kd.loc else Kd.any,W):Option (Kd×U))=a5 (k,W):=by
 cases h
 .rw[Ł (by change cT (L.map U.str)=bD;show gD L)]
 .rfl
def Bw.set{W:U}(h:Bw L k W)(hl:L.length<4000):ia W=a5 (aD L):=by
 have:=gE hl;cases h<;>show this
def Bw.start{rs:List Row}{W:U}(h:Bw L k W)(n:Nat):TM.start [.tup (rs.map B'),W] (n+2)=a5 (.loc,.tup (rs.map B'))::a5 (k,W)::i2 n b8:=by
 change a5 (if JG (.tup (rs.map B'))=bD then Kd.loc else Kd.any,U.tup (rs.map B'))::a5 (if JG W=bD then Kd.loc else Kd.any,W)::i2 (n+2 - 2) b8=_;rw[eF,h.bg];rfl
abbrev KA(rs:List Row)(L:List Str):Prop:=∀x∈L,x∈az rs
structure Bz(ws:List Str)(rs:List Row):Prop where
 wl:ws.length<=24
 rl:rs.length<=120
 ok:∀r∈rs,bX ws r
def Bq.z(h:Bq ws rs):Bz ws rs:=⟨h.wl,by have:=h.rl;lia,h.ok⟩
def Bz.in(h:Bz ws rs)(b:x∈az rs):x∈ws:=by
 have⟨r,a,e⟩:=cm.mp (cW.mp b);rcases e with rfl|e
 .show(h.ok r a).1
 .show(h.ok r a).2.2.1 _ e
section
def HQ(g:Jz Pg "words_of" ir)(h:Jz Pg "refuse_unknown" og)(b:Bz ws rs){W:U}(c:Bw L k W)(hl:L.length<=40):
  (KA rs L->Jq Pg (d+2) "refuse_unknown" [.tup (rs.map B'),W]=a5 (.ok (.loc,.Jm)))/\(¬KA rs L->Jq Pg (d+2) "refuse_unknown" [.tup (rs.map B'),W]=a5 (.exc "Unknown")):=by
 have l:=fI λr a=>(b.ok r a).ok;have L_:=b.wl;have m:(aD (az rs)).length<=(az rs).length:=cF (bC _) λx e=>by simpa[bG] using e
 have i:(aD L).length<=L.length:=cF (bC _) λx e=>by simpa[bG] using e
 have j:Jq Pg (d+1) "words_of" [.tup (rs.map B')]=a5 (.ok (.own,.lst ((az rs).map .str))):=(aL g _).trans (je b.rl (λr a=>(b.ok r a).ok) ⋯);have hs:qr bD (aD L) (aD (az rs))=a5 (.loc,.int (((aD L).filter λx=>cK (x∉aD (az rs))).length:Nat)):=by
  unfold qr;rw[Ł ⟨⋯,⋯⟩,Ł rfl]
 have f:((aD L).filter λx=>cK (x∉aD (az rs)))=[]↔KA rs L:=by
  rw[M6];simp[bG,KA]
 generalize ((aD L).filter λx=>cK (x∉aD (az rs)))=M at hs f;have a:Run (ev (Jq Pg (d+1)) (.N6 bD (.var 1) (.call "words_of" [.var 0]))) [a5 (.loc,.tup (rs.map B')),a5 (k,W)] _ _:=CU (cG c.kd rfl) (c.set ⋯) (b_ (ae (af rfl) aj) trivial j) (gE ⋯) hs;show⟨λhk=>?_,λhk=>?_⟩
 .rw[f.mpr hk]at a;show(aL h _).trans (w_ rfl (c.start 0) (bA (aG a ai trivial (fM rfl)) ax ax))
 .have:0<M.length:=Zy.mpr λz=>hk (f.mp z);show(aL h _).trans (gn rfl (c.start 0) (lP (il (aG a ai trivial (fM (by simp;lia))) (C5 ai))))
abbrev heads(rs:List Row):List Str:=(rs.filter λr=>cK (r.2=[])).map (·.1)
abbrev wp(rs:List Row)(L:List Str):List Row:=rs++(L.filter λw=>cK (w∉heads rs)).map λw=>(w,[])
def Ai(h:r∈wp rs L):r∈rs\/(r.1∈L/\r.2=[]):=by
 rcases hW.mp h with h|h
 .show .inl h
 .have⟨w,a,rfl⟩:=js.mp h;show .inr ⟨(so.mp a).1,rfl⟩
def Fx:(wp rs L).length<=rs.length+L.length:=by
 unfold wp;rw[hY,df];have:=l' (λw=>cK (w∉heads rs)) L;lia
def C8(d:∀r∈rs,bX ws r)(c:∀x∈ws,x∈ws')(e:∀x∈L,x∈ws'):∀r∈wp rs L,bX ws' r:=λr h=>by
 rcases Ai h with h|⟨a,b⟩
 .have⟨p,q,s,t⟩:=d r h;show⟨c _ p,q,λy f=>c y (s y f),t⟩
 .show⟨e _ a,?_,?_,?_⟩<;>rw[b]<;>simp
def pM(hk:KA rs L):x∈az (wp rs L)↔x∈az rs:=by
 constructor
 .intro h;have⟨r,c,e⟩:=cm.mp (cW.mp h);rcases Ai c with c|⟨a,b⟩
  .show cW.mpr (cm.mpr ⟨r,c,e⟩)
  .rw[b]at e;rcases e with rfl|e
   .show hk _ a
   .cases e
 .intro h;have⟨r,c,e⟩:=cm.mp (cW.mp h);show cW.mpr (cm.mpr ⟨r,LF _ c,e⟩)
def rq{W:U}(a:Bw L k W){H:List Str}(hl:L.length<=40)(d:st[i]?=a5 (a5 (k,W)))(b:st[j]?=a5 (a5 (.own,w)))(e:∀x:Str,bN .Jh (.str x) w=a5 (cK (x∉H))):
  Run (ev Γ (.bi .tuple [.comp 1 cc .seq [.var i] [.cmp .Jh (.var 0) (.var (j+1))] (.tup [.var 0,.tup []])])) st (.loc,.tup (((L.filter λw=>cK (w∉H)).map λw=>(w,[])).map B')) st:=by
 have hsz:(1000:Nat)<=cL:=by decide
 have hk:=a.kd;have c:=iq (cond:=bh Γ [.cmp .Jh (.var 0) (.var (j+1))]) (elt:=ev Γ (.tup [.var 0,.tup []])) (src:=[(k,W)]) (st:=st) (bQ hk trivial) k hk U.str (λw=>B' (w,[])) (λw=>cK (w∉H)) .loc L [] (by simp;lia)
  (λy _=>⟨cE (aG (cG hk rfl) (aA (by simpa using b)) (bQ hk ⟨⟨.own,rfl,by simpa using b⟩,trivial⟩) (e y)),λ_=>⟨gS (ae (cG hk rfl) (ae (gS aj trivial aM (i8 _)) aj)) (bQ hk trivial) (aJ (UY hk rfl) (aJ aP aM)) (by change 2<=cL;lia),aP⟩⟩)
 rw[i5]at c;rw[kb];show cI (ae (dI (rs:=[(k,W)]) (ae (cG hk d) aj) (bQ hk trivial) a.it c) aj) trivial rfl
abbrev HR:List S:=[.ite (.cmp .eq (.idx (.var 3) (.cst (.int 1))) (.tup [])) [.put 2 (.idx (.var 3) (.cst (.int 0))) (.cst (.bl bD))] []]
abbrev Q1:Fn:=⟨"with_pictures",2,4,[.Nk "refuse_unknown" [.var 0,.var 1],.set 2 (.KZ cc),.Jy cc [3] .seq [.var 0] HR,.ret (.bin .add (.var 0) (.bi .tuple [.comp 1 cc .seq [.var 1] [.cmp .Jh (.var 0) (.var 3)] (.tup [.var 0,.tup []])]))]⟩
abbrev tN(rs:List Row)(k:Kd)(W:U)(K:List Str)(o3:Option (Kd×U)):ay:=[a5 (.loc,.tup (rs.map B')),a5 (k,W),a5 (.own,mK K),o3]
def vv{rs ms:List Row}(h:rs.length+ms.length<=1000):Md .add (.loc,.tup (rs.map B')) (.loc,.tup (ms.map B'))=a5 (.loc,.tup ((rs++ms).map B')):=by
 have hsz:(1000:Nat)<=cL:=by decide
 change(if (rs.map B').length+(ms.map B').length<=cL then a5 (kT .loc .loc,U.tup (rs.map B'++ms.map B')) else b8)=_;rw[Ł (by simp;lia),ke];rfl
def Ja(u:Jz Pg "words_of" ir)(b:Jz Pg "refuse_unknown" og)(h:Jz Pg "with_pictures" Q1)(f:Bz ws rs){W:U}(c:Bw L k W)(hl:L.length<=40):
  (KA rs L->Jq Pg (d+3) "with_pictures" [.tup (rs.map B'),W]=a5 (.ok (.loc,.tup ((wp rs L).map B'))))/\(¬KA rs L->Jq Pg (d+3) "with_pictures" [.tup (rs.map B'),W]=a5 (.exc "Unknown")):=by
 have hk:=c.kd;have n:=HQ (d:=d) u b f c hl;have as:∀r,Run (ba (Jq Pg (d+2)) [.var 0,.var 1]) (a5 (.loc,.tup (rs.map B'))::a5 (k,W)::r) [(.loc,.tup (rs.map B')),(k,W)] (a5 (.loc,.tup (rs.map B'))::a5 (k,W)::r):=λr=>ae (af rfl) (ae (cG hk rfl) aj);have o:∀st,aX [(Kd.loc,U.tup (rs.map B')),(k,W)] st:=λst=>bQ (.inl rfl) (bQ hk trivial);show⟨λz=>?_,λz=>(aL h _).trans (gn rfl (c.start 2) (Ft (as _) (o _) (vt (n.2 z))))⟩;obtain⟨st',v,K,o3,rfl,D,p,_⟩:=bU (rs:=[(.loc,.tup (rs.map B'))]) (t:=cc) (is:=[3]) (body:=execs (Jq Pg (d+2)) HR) (λr:Row=>(Kd.loc,B' r)) (λa q st=>∃K o3,st=tN rs k W K o3/\jh ws K/\(∀x,x∈K↔x∈heads a)/\∀r∈q,bX ws r)
  (λ_ _ _ _=>trivial) (λa y q st A=>by
   have⟨K,o3,e,l,s,m⟩:=A;subst e;have G:=l.len;have I:=f.wl;have g:Run (JC (Jq Pg (d+2)) (.cmp .eq (.idx (.var 3) (.cst (.int 1))) (.tup []))) (tN rs k W K (a5 (.loc,B' y))) (cK (y.2=[])) (tN rs k W K (a5 (.loc,B' y))):=aG (bL (af rfl) ai trivial (show h_ (.loc,B' y) (.int 1)=a5 (.loc,.tup (y.2.map .str)) from rfl)) (gS aj trivial aM (i8 _)) trivial vk;have B:heads (a++[y])=heads a++(if y.2=[] then [y.1] else []):=by
    unfold heads;rw[PM,ke,D8,SV];by_cases e:y.2=[]<;>simp[e]
   rw[B];by_cases e:y.2=[]
   .rw[ń e]at g;rw[Ł e];show⟨_,tN rs k W (fk K y.1) (a5 (.loc,B' y)),aE,dH g (jb (k:=.own) (k':=.own) ai rfl (bL (af rfl) ai trivial (show h_ (.loc,B' y) (.int 0)=a5 (.loc,.str y.1) from rfl)) (aJ aP (aJ aP aM)) rfl rfl (kG ⋯) ax) ax,fk K y.1,_,rfl,l.ins (m y (by simp)).1,λx=>?_,λr b=>m r (by simp[b])⟩;rw[gk,s x,hW,hV]
   .rw[Ń e]at g;rw[ł e,rr];show⟨_,tN rs k W K (a5 (.loc,B' y)),aE,bA g ax ax,K,_,rfl,l,s,λr b=>m r (by simp[b])⟩) rs [] (tN rs k W [] b8) ⟨[],b8,rfl,⟨.nil,by simp⟩,λx=>by simp[heads],f.ok⟩
 rw[i5]at p;have C:=rq (Γ:=Jq Pg (d+2)) (st:=tN rs k W K o3) c (i:=1) (j:=2) (w:=mK K) (H:=heads rs) hl rfl rfl λx=>fj.trans (by simp[p x]);have J:=l' (λw=>cK (w∉heads rs)) L;show(aL h _).trans (bt rfl (.inr rfl) (c.start 2) (HH (as _) (o _) (l_ (n.1 z)) (aw lM aZ (c8 (rs:=[(.loc,.tup (rs.map B'))]) (ae (af rfl) aj) trivial kH rfl v (bP (bB (af rfl) C trivial (vv (by rw[df];have:=f.rl;lia))) dN)))))
end
section
def Aj(a:Run (ba Γ es) st rs st1)(b:aX rs st1)(c:Run (bK Γ f (rs.map (·.2))) st1 r st2):Run (LZ Γ (.call f es)) st r st2:=aa a (aa (aR b) c)
def HS(a:Run (LZ Γ r) st (.inl x) st1)(b:aX [x] st1)(c:Run (bK Γ f [x.2]) st1 y st2):Run (LZ Γ (.arg f r)) st y st2:=aa a (aa (aR b) c)
def Fy(a:Run (LZ Γ r) st (.inr c) st1):Run (LZ Γ (.arg f r)) st (.inr c) st1:=aa a aK
def HU(a:Run (LZ Γ r) st (.inl x) st1)(c:Run (ev Γ e) st1 y st2)(d:aX [x,y] st2)(f:bN g x.2 y.2=a5 b):Run (LZ Γ (.cmp g r e)) st (.inl (.loc,.bl b)) st2:=aa a (aa c (aa (aR d) (aa (cw f) aK)))
def Fz(a:Run (LZ Γ r) st (.inr c) st1):Run (LZ Γ (.cmp b r e)) st (.inr c) st1:=aa a aK
def FA(a:Run (LZ Γ r) st (.inl x) st1)(b:Run (retS x) st1 (.rt k u) st2):Run (execs Γ (.K3 r::ss)) st (.rt k u) st2:=lP (aa a b)
def FC(a:Run (LZ Γ r) st (.inr c) st1):Run (execs Γ (.K3 r::ss)) st (.rt .io (.str c)) st1:=lP (aa a aK)
abbrev rA:Fn:=⟨"not_learnt",1,1,[.ret (.N6 cc (.call "words_of" [.var 0]) (.call "learnt" [.var 0]))]⟩
def Ak(e:K.length<64)(f:(az rs).length<64)(b:Γ "words_of" [.tup (rs.map B')]=a5 (.ok (.own,.lst ((az rs).map .str))))(c:Γ "learnt" [.tup (rs.map B')]=a5 (.ok (.own,.lst ((aH K).map .str)))):
  ∃Z:List Str,dg Γ rA [.tup (rs.map B')]=a5 (.ok (.own,.lst (Z.map .str)))/\∀x,x∈Z↔x∈az rs/\x∉K:=by
 have g:(aD (az rs)).length<=(az rs).length:=cF (bC _) λx a=>by simpa[bG] using a
 have d:(aD (aH K)).length<=(aH K).length:=cF (bC _) λx a=>by simpa[bG] using a
 rw[bO]at d;have hs:qr cc (aD (az rs)) (aD (aH K))=a5 (.own,.lst ((aH ((aD (az rs)).filter λx=>cK (x∉aD (aH K)))).map .str)):=by
  unfold qr;rw[Ł ⟨⋯,⋯⟩,ł i0]
 show⟨_,bt rfl (.inl rfl) (st0:=[a5 (.loc,.tup (rs.map B'))]) (ņ (λx:Option (Kd×U)=>[x]) (eF rs)) (bP (CU (b_ (ae (af rfl) aj) trivial b) (gE ⋯) (b_ (ae (af rfl) aj) trivial c) (gE (by rw[bO];lia)) hs) jV),λx=>?_⟩;rw[(bc _).mem_iff,so];simp[bG,(bc K).mem_iff]
abbrev Cz:Fn:=⟨"suffice",2,2,[.K3 (.cmp .eq (.arg "not_learnt" (.call "with_pictures" [.var 0,.var 1])) (.lst []))]⟩
abbrev Suf(rs:List Row)(L:List Str):Prop:=∀x∈az rs,Ln (wp rs L) x
def C9(s:KL.QZ Pg)(o:Jz Pg "words_of" ir)(f:Jz Pg "refuse_unknown" og)(t:Jz Pg "with_pictures" Q1)(m:Jz Pg "not_learnt" rA)(h:Jz Pg "suffice" Cz)(i:Bz ws rs){W:U}(j:Bw L k W)(hl:L.length<=40)(hz:KA rs L->rs.length+L.length<=120):
  (KA rs L->∃b,Jq Pg (d+7) "suffice" [.tup (rs.map B'),W]=a5 (.ok (.loc,.bl b))/\(b=bD↔Suf rs L))/\(¬KA rs L->Jq Pg (d+7) "suffice" [.tup (rs.map B'),W]=a5 (.exc "Unknown")):=by
 have hk:=j.kd;have c:=Ja (d:=d+3) o f t i j hl;have as:∀r,Run (ba (Jq Pg (d+6)) [.var 0,.var 1]) (a5 (.loc,.tup (rs.map B'))::a5 (k,W)::r) [(.loc,.tup (rs.map B')),(k,W)] (a5 (.loc,.tup (rs.map B'))::a5 (k,W)::r):=λr=>ae (af rfl) (ae (cG hk rfl) aj);have p:∀st,aX [(Kd.loc,U.tup (rs.map B')),(k,W)] st:=λst=>bQ (.inl rfl) (bQ hk trivial);show⟨λz=>?_,λz=>(aL h _).trans (gn rfl (j.start 0) (FC (Fz (Fy (Aj (as _) (p _) (vt (c.2 z)))))))⟩;have A:=i.wl;have l:=C8 (L:=L) i.ok (ws':=ws) (λ_ h=>h) λx c=>i.in (z x c);have e:(wp rs L).length<=120:=vr Fx (hz z);have⟨K,n,u⟩:=Kn.some i.wl l;have B:=u.len;have C:=fI λr f=>(l r f).ok;have v:Jq Pg (d+5) "words_of" [.tup ((wp rs L).map B')]=a5 (.ok (.own,.lst ((az (wp rs L)).map .str))):=(aL o _).trans (je e (λr f=>(l r f).ok) ⋯);have⟨Z,w,q⟩:=Ak ⋯ ⋯ v (KL.Cv s d (λr f=>(l r f).ok) i.wl e n);show⟨cK (Z=[]),(aL h _).trans (bt rfl (.inr rfl) (j.start 0) (FA (HU (HS (Aj (as _) (p _) (l_ (c.1 z))) trivial (C6 ((aL m _).trans w))) (cD aj trivial aM (i8 _)) trivial (jc (b:=[]))) dN)),?_⟩;rw[decide_eq_true_iff,List.eq_nil_iff_forall_not_mem];constructor
 .intro g x c;show VP λm=>g x ((q x).mpr ⟨(pM z).mpr c,λy=>m ((Kn.mem n).mp y)⟩)
 .intro g x c;have⟨a,b⟩:=(q x).mp c;show b ((Kn.mem n).mpr (g x ((pM z).mp a)))
abbrev R4:Fn:=⟨"_law_pictured",2,3,[.set 2 (.comp 1 cc .seq [.var 0] [.cmp .eq (.idx (.var 0) (.cst (.int 1))) (.tup [])] (.idx (.var 0) (.cst (.int 0)))),.ret (.bin .add (.bi .tuple [.var 0]) (.bi .tuple [.comp 1 cc .seq [.var 1] [.cmp .Jh (.var 0) (.var 3)] (.tup [.var 0,.tup []])]))]⟩
def Jb(h:Jz Pg "_law_pictured" R4)(b:rs.length<=120)(hl:L.length<=40):Jq Pg (d+1) "_law_pictured" [.tup (rs.map B'),.lst (L.map .str)]=a5 (.ok (.loc,.tup ((wp rs L).map B'))):=by
 have c:=l' (λw=>cK (w∉heads rs)) L;have a:=rq (Γ:=Jq Pg d) (st:=[a5 (.loc,.tup (rs.map B')),a5 (.any,.lst (L.map .str)),a5 (.own,.lst ((heads rs).map .str))]) .lst (i:=1) (j:=2) (w:=.lst ((heads rs).map .str)) (H:=heads rs) hl rfl rfl λx=>eD;show(aL h _).trans (bt rfl (.inr rfl) (Bw.lst.start 1) (aw (rj ⋯ rfl) aZ (bP (bB (cI (ae (af rfl) aj) trivial rfl) a trivial (vv (by rw[df];lia))) dN)))
abbrev UZ:Fn:=⟨"_law_suffice",2,2,[.ret (.cmp .eq (.bi .sorted [.call "_law_learnt" [.call "_law_pictured" [.var 0,.var 1]]]) (.call "_law_all" [.var 0]))]⟩
def Jc(f:Jz Pg "_law_pictured" R4)(i:Jz Pg "_law_learnt" Cw)(j:Jz Pg "_law_all" wX)(h:Jz Pg "_law_suffice" UZ){ws ws':List Str}(c:Bz ws rs)(hl:L.length<=40)(k:ws'.length<=40)(l:∀x∈ws,x∈ws')(m:∀x∈L,x∈ws'):
  ∃b,Jq Pg (d+2) "_law_suffice" [.tup (rs.map B'),.lst (L.map .str)]=a5 (.ok (.loc,.bl b))/\(KA rs L->(b=bD↔Suf rs L)):=by
 have⟨K,e,k1,k2⟩:=HP (d:=d) (hQ 40) i ws' (wp rs L) .loc _ .tup k (C8 c.ok l m);have o:=k1.len;show⟨cK (aH K=az rs),(aL h _).trans (bt rfl (.inr rfl) (Bw.lst.start 0) (bP (lL (x:=(.own,.lst ((aH K).map .str))) (cI (ae (b_ (ae (b_ (ae (af rfl) (ae (aT rfl) aj)) trivial (Jb f c.rl hl)) aj) trivial e) aj) trivial ?_) (b_ (ae (af rfl) aj) trivial (Fu j c.wl c.ok)) trivial jc) dN)),λz=>?_⟩
 .change(if K.length<64 then a5 (Kd.own,U.lst ((aH K).map .str)) else b8)=_;rw[Ł ⋯]
 .rw[decide_eq_true_iff];constructor
  .intro g x a;show(Kn.mem k2).mp ((bc K).mem_iff.mp (g▸a))
  .intro g;show ra ((Ol k1.1 (fH rs)).mpr λx=>⟨λa=>?_,λa=>(Kn.mem k2).mpr (g x a)⟩) (e_ _);have:=(Kn.mem k2).mp a (·∈az (wp rs L)) λr n _=>cW.mpr (cm.mpr ⟨r,n,.inl rfl⟩);show(pM z).mp this
end
section
abbrev Al:List S :=
   [.set 6 (.Le 3 (.Jf "_law_draw" [.var 0,.bi .len [.var 3]] [0])),
   .ite (.cmp .eq (.Jf "_law_draw" [.var 0,.var 2] [0]) (.cst (.int 0)))
    [.app 4 (.var 6)]
    []]
abbrev Jd:List S :=
   [.set 3 (.bi .list [.var 1]),
    .set 4 (.lst []),
    .Jy cc [5] .Kj [.bi .len [.var 3]] Al,
    .ret (.var 4)]
abbrev FD:Fn:=⟨"_law_some",3,7,.Mq [0]::Jd⟩
abbrev mM(u:U)(kn:List Str)(share:Int)(ts L:List Str)(o5 o6:Option (Kd×U)):ay:=[a5 (.io,u),a5 (.any,.lst (kn.map .str)),a5 (.loc,.int share),a5 (.own,.lst (ts.map .str)),a5 (.own,.lst (L.map .str)),o5,o6]
def Am(h:bb Γ)(v:Src T u)(J:T+2<2 ^ 62)(w:0<share)(N:share<=24)(O:0<ts.length)(Q:ts.length<=24)(j:∀x∈ts,x∈kn)(l:∀x∈L,x∈kn)(Y:L.length<1000):
  ∃u' a L' A,Run (execs Γ Al) (mM u kn share ts L o5 o6) .nx (mM u' kn share a L' o5 A)/\Src (T+2) u'/\a.length+1=ts.length/\(∀x∈a,x∈kn)/\(∀x∈L',x∈kn)/\L'.length<=L.length+1/\((L++ts).Nodup->(L'++a).Nodup):=by
 have B:(1000:Nat)<=cL:=by decide
 have⟨n,o,C,D,G,s1⟩:=cy (st:=mM u kn share ts L o5 o6) h (i:=0) (k:=.io) (e:=.bi .len [.var 3]) (m:=((ts.map U.str).length:Nat)) rfl rfl (cI (ae (aA rfl) aj) ∅ cj) v ⋯ (by simp;lia) (by simp;lia);rw[df]at G;have b:n.toNat<ts.length:=by lia
 have p:(ts.map U.str)[n.toNat]?=a5 (.str ts[n.toNat]):=by simp[b]
 have q:ts[n.toNat]∈kn:=j _ (KH b);have d:(ts[n.toNat]::ts.eraseIdx n.toNat).Perm ts:=by
  rw[va]
  conv=>rhs;rw[<-List.take_append_drop n.toNat ts,R9 b]
  show List.perm_middle.symm
 generalize ts[n.toNat]=x at p q d;have H:(ts.map U.str).eraseIdx n.toNat=(ts.eraseIdx n.toNat).map U.str:=by
  rw[va,va,ke,UI,UJ]
 have hl:(ts.eraseIdx n.toNat).length+1=ts.length:=by rw[Xf b];lia
 have f:∀y∈ts.eraseIdx n.toNat,y∈kn:=λy I=>j y (XX I);have g:Run (ev Γ (.Le 3 (.Jf "_law_draw" [.var 0,.bi .len [.var 3]] [0]))) (mM u kn share ts L o5 o6) (.loc,.str x) (mM o kn share (ts.eraseIdx n.toNat) L o5 o6):=by
  have:=zj (i:=3) (k0:=.own) (k:=.own) (us0:=ts.map U.str) (us:=ts.map U.str) rfl (by intro z;cases z) C rfl rfl D ⋯ p;rw[H]at this;show this
 generalize ts.eraseIdx n.toNat=a at g hl f d;have s:(L++ts).Nodup->(L++(x::a)).Nodup:=λz=>((d.append_left L).nodup_iff).mpr z;have⟨m,u2,t,m0,m1,s2⟩:=cy (st:=mM o kn share a L o5 (a5 (.loc,.str x))) h (i:=0) (k:=.io) (e:=.var 2) (m:=share) rfl rfl (af rfl) s1 ⋯ w ⋯;by_cases hz:m=0
 .show⟨u2,a,L++[x],a5 (.loc,.str x),aw g aE (dH (aG t ai trivial (bI (c:=bD) (by simp[hz]))) (gc (k:=.own) (k':=.own) rfl (af rfl) aP rfl rfl (by simp;lia) ax) ?_),s2.up ⋯,hl,f,?_,by simp,λz=>by rw[Vt];show s z⟩
  .rw[show L.map U.str++[U.str x]=(L++[x]).map U.str by simp];show ax
  .intro r hr;rcases hW.mp hr with hr|hr
   .show l r hr
   .rw[hV]at hr;subst hr;show q
 .show⟨u2,a,L,_,aw g aE (bA (aG t ai trivial (bI (c:=cc) (by simp[hz]))) ax ax),s2.up ⋯,hl,f,l,⋯,λz=>(s z).sublist ((List.sublist_cons_self x a).append_left L)⟩
abbrev rB(Γ:Tab):Prop:=∀(T:Int) (u:U) (kn:List Str) (share:Int),Src T u->T+60<2 ^ 62->kn.length<=24->0<share->share<=24->∃(L:List Str) (u':U),Γ "_law_some" [u,.lst (kn.map .str),.int share]=a5 (.ok (.own,.tup [.lst (L.map .str),u']))/\(∀x∈L,x∈kn)/\L.length<=24/\Src (T+60) u'/\(kn.Nodup->L.Nodup)
def mf{ss:List Str}(hk:dQ k (ss.map .str)=bD):Lf .list [(k,.lst (ss.map .str))]=a5 (.own,.lst (ss.map .str)):=by
 change(if dQ k (ss.map U.str)=bD then a5 (Kd.own,U.lst (ss.map U.str)) else b8)=_;rw[Ł hk]
def HV(m:bb (Jq Pg d))(h:Jz Pg "_law_some" FD):rB (Jq Pg (d+1)):=by
 intro T u kn share j J N n o;have p:(1000:Nat)<=cL:=by decide
 have s:cU [0] [u,.lst (kn.map .str),.int share] FD.ns=[a5 (.io,u),a5 (.any,.lst (kn.map .str)),a5 (.loc,.int share),b8,b8,b8,b8]:=by
  obtain⟨_,_,_,rfl,_⟩:=j;rfl
 obtain⟨st',v,c,b,L,o5,o6,rfl,s3,k,m3,l,e,_,g⟩:=bU (rs:=[(.loc,.int (kn.length:Nat))]) (t:=cc) (is:=[5]) (body:=execs (Jq Pg d) Al) (λi:Nat=>(Kd.loc,U.int (0+(i:Int)))) (λa r st=>∃(c:U) (b L:List Str) (o5 o6:Option (Kd×U)),st=mM c kn share b L o5 o6/\Src (T+2 * (a.length:Nat)) c/\b.length=r.length/\L.length<=a.length/\(∀x∈b,x∈kn)/\(∀x∈L,x∈kn)/\a.length+r.length=kn.length/\(kn.Nodup->(L++b).Nodup))
  (λ_ r st _=>trivial) (λa y r st h=>by
   have⟨c,b,L,o5,o6,rfl,s3,k,m3,l,e,w,g⟩:=h;simp only[i6]at k w;have⟨A,B,C,O,q,s4,Q,D,G,Y,H⟩:=Am (Γ:=Jq Pg d) m (u:=c) (share:=share) (kn:=kn) (ts:=b) (L:=L) (o5:=a5 (.loc,.int (0+(y:Int)))) (o6:=o6) s3 ⋯ n o ⋯ ⋯ l e ⋯;show⟨mM c kn share b L (a5 (.loc,.int (0+(y:Int)))) o6,_,aE,q,A,B,C,_,_,rfl,s4.up (by simp;lia),⋯,by simp;lia,D,G,by simp;lia,λz=>H (g z)⟩) (fx kn.length) [] (mM u kn share kn [] b8 b8) ⟨u,kn,[],b8,b8,rfl,j.up (by simp),by simp,by simp,λx I=>I,by simp,by simp,λz=>z⟩
 rw[i5,u6]at m3 s3;show⟨L,c,?_,e,⋯,s3.up ⋯,λz=>(g z).sublist (List.sublist_append_left _ _)⟩;rw[cJ h _ rfl];show cn (f:=.rt .own (.lst (L.map .str))) (st:=(mM c kn share b L o5 o6).set 4 b8) rfl s ?_ rfl rfl;show aw (cI (ae (aT rfl) aj) trivial (mf (w9 (.inl rfl)))) aZ (aw (cD aj trivial aM (i8 _)) aZ (c8 (rs:=[(.loc,.int (kn.length:Nat))]) (ae (cI (ae (aA rfl) aj) ∅ (by rw[cj,df])) aj) trivial (ip ⋯) rfl v (bP (aA rfl) (gT rfl))))
end
section
def HW(c:st[i]?=a5 (a5 (k',.lst us')))(d:k'≠.Je)(g:Run (ev Γ a) st (h,.int j) st1)(l:Run (ev Γ e) st1 r st2)(m:aX [(h,U.int j)] st2)(n:Run (lift r) st2 u b)(o:b[i]?=a5 (a5 (k,.lst us)))(hk:k.root=bD)(j0:0<=j)(p:j.toNat<=us.length)(hl:us.length<cL)
  (q:Run (execs Γ ss) (b.set i (a5 (k,.lst (us.take j.toNat++u::us.drop j.toNat)))) f st4):Run (execs Γ (.ins i a e::ss)) st f st4:=by
 show eC (aa (dM c d) (aa (a:=()) (st1:=st) rfl (aa g (aa l (aa (aR m) (aa n (aa (a:=()) ?_ aK))))))) q;change modS i (Ba (.int j) u) b=_;unfold modS;rw[o];simp only[hk,if_true];have e:Ba (.int j) u (.lst us)=a5 (.lst (us.take j.toNat++u::us.drop j.toNat)):=by change(if 0<=j/\j.toNat<=us.length/\us.length<cL then _ else _)=_;rw[Ł ⟨j0,p,hl⟩]
 rw[e]
abbrev ji:List Str:=["zzzzzzzz","a/99","q"]
def FE{L:List Str}:KU .seq [(.bor i,.lst (L.map .str))]=a5 (L.map λx=>(Kd.loc,U.str x)):=by
 change a5 ((L.map U.str).map λu=>(kE (.bor i),u))=_;rw[kb];rfl
end
section
inductive Hd(L:List Str):Kd->U->Prop
 |tup:Hd L .loc (.tup (L.map .str))
 |lst:Hd L .own (.lst (L.map .str))
def Hd.bw{W:U}(h:Hd L k W):∃k',Bw L k' W:=by
 cases h
 .show⟨_,.tup⟩
 .show⟨_,.lst⟩
def HX{W:U}(h:Hd L k W)(e:st[i]?=a5 (a5 (k,W))):∃k',Run (ev Γ (.var i)) st (k',W) st/\(∀rs,aX rs st->aX ((k',W)::rs) st)/\dQ k' (L.map .str)=bD:=by
 cases h
 .show⟨_,af e,λ_ z=>z,rfl⟩
 .show⟨_,aA e,λ_ z=>⟨⟨.own,rfl,e⟩,z⟩,rfl⟩
end
section
def vA(c:Run (ba Γ es) st rs st1)(d:aX rs st1)(e:Run (bK Γ f (rs.map (·.2))) st1 (.inl (k,.bl p)) st2)(g:Run (if (p != h)=bD then execs Γ a else execs Γ b) st2 i j):Run (exec Γ (.K4 h f es a b)) st i j:=aa (aa c (aa (aR d) e)) g
def HY(d:Run (ba Γ es) st rs st1)(e:aX rs st1)(g:Run (bK Γ f (rs.map (·.2))) st1 (.inr c) st2):Run (exec Γ (.K4 h f es a b)) st (.rt .io (.str c)) st2:=aa (aa d (aa (aR e) g)) aK
def HZ(h:st[j]?=a5 (a5 (.own,u))):Run (dG i (.bor j,a)) st () ((st.set j (a5 (.loc,u))).set i (a5 (.loc,u))):=by
 change dG i (.bor j,a) st=_;unfold dG
 dsimp only
 rw[h]
def H0{M:List Str}(hk:k=.own\/k=.loc)(e:st[i]?=a5 (a5 (k,.lst (M.map .str)))):∃k',Run (ev Γ (.var i)) st (k',.lst (M.map .str)) st/\(∀rs,aX rs st->aX ((k',.lst (M.map .str))::rs) st)/\KU .seq [(k',.lst (M.map .str))]=a5 (M.map λx=>(Kd.loc,U.str x)):=by
 rcases hk with rfl|rfl
 .show⟨_,aA e,λ_ z=>⟨⟨.own,rfl,e⟩,z⟩,?_⟩;change a5 ((M.map U.str).map λu=>(kE (.bor i),u))=_;rw[kb];rfl
 .show⟨_,af e,λ_ z=>z,?_⟩;change a5 ((M.map U.str).map λu=>(kE .loc,u))=_;rw[kb];rfl
abbrev dr(M:List Str)(y:Str):List Str:=M.filter λx=>!cK (x=y)
def iw{M:List Str}:x∈dr M y↔x∈M/\x≠y:=by unfold dr;rw[so];simp
def An{M:List Str}(hk:k=.loc\/k=.any)(hl:M.length<=1000)(hs:Run (ev Γ (.var i)) st src st)(b:aX [src] st)(e:KU .seq [src]=a5 (M.map λx=>(k,U.str x)))(a:∃k',(k'=.loc\/k'=.any)/\st[j]?=a5 (a5 (k',.str y))):
  Run (ev Γ (.comp 1 cc .seq [.var i] [.cmp .ne (.var 0) (.var (j+1))] (.var 0))) st (.own,.lst ((dr M y).map .str)) st:=by
 have hsz:(1000:Nat)<=cL:=by decide
 have⟨k',c,a⟩:=a;have d:=iq (cond:=bh Γ [.cmp .ne (.var 0) (.var (j+1))]) (elt:=ev Γ (.var 0)) (src:=[src]) (st:=st) b k hk U.str U.str (λx=>!cK (x=y)) k M [] (by simp;lia)
  (λx _=>⟨cE (aG (cG hk rfl) (cG c (by simpa using a)) (bQ hk (bQ c trivial)) tm),λ_=>⟨cG hk rfl,UY hk rfl⟩⟩)
 rw[i5]at d;show dI (rs:=[src]) (ae hs aj) b e d
def Suf.mono{M N:List Str}(h:∀x∈M,x∈N)(s:Suf rs M):Suf rs N:=λx b C c=>s x b C λr hr=>c r (by
 rcases hW.mp hr with hr|hr
 .show LF _ hr
 .have⟨w,a,rfl⟩:=js.mp hr;show kr _ (js.mpr ⟨w,so.mpr ⟨h w (so.mp a).1,(so.mp a).2⟩,rfl⟩))
structure L3(rs:List Row)(L M d:List Str):Prop where
 sub:M.Sublist (aH L)
 U1:Suf rs M
 min:∀w∈M,w∈d->¬Suf rs (dr M w)
def L3.drop{L M d:List Str}(h:L3 rs L M d)(s:Suf rs (dr M y)):L3 rs L (dr M y) (d++[y]):=by
 show⟨(QS).trans h.sub,s,λw e hd z=>?_⟩;have⟨a,b⟩:=iw.mp e;rcases hW.mp hd with hd|hd
 .show h.min w a hd (z.mono λx c=>iw.mpr ⟨(iw.mp (iw.mp c).1).1,(iw.mp c).2⟩)
 .show b (hV.mp hd)
def L3.keep{L M d:List Str}(h:L3 rs L M d)(s:¬Suf rs (dr M y)):L3 rs L M (d++[y]):=by
 show⟨h.sub,h.U1,λw a hd z=>?_⟩;rcases hW.mp hd with hd|hd
 .show h.min w a hd z
 .rw[hV]at hd;subst hd;show s z
abbrev FF:List S :=
   [.set 4 (.comp 1 cc .seq [.var 2] [.cmp .ne (.var 0) (.var 4)] (.var 0)),
   .K4 cc "suffice" [.var 0,.var 4]
    [.set 2 (.var 4)]
    []]
abbrev FG:Fn:=⟨"spared",2,5,[.K4 bD "suffice" [.var 0,.var 1] [.Nj "Lacking" (.cst (.str "these words do not suffice"))] [],.set 2 (.bi .sorted [.var 1]),.Jy cc [3] .seq [.bi .sorted [.var 1]] FF,.ret (.var 2)]⟩
abbrev pN(rs:List Row)(k:Kd)(W:U)(k2:Kd)(M:List Str)(o3 o4:Option (Kd×U)):ay:=[a5 (.loc,.tup (rs.map B')),a5 (k,W),a5 (k2,.lst (M.map .str)),o3,o4]
def Bw.U2{W:U}(h:Bw L k W)(hl:L.length<64):Lf .sorted [(k,W)]=a5 (.own,.lst ((aH L).map .str)):=by
 cases h
 .show sorted_strs hl
 .show KL.l9 hl
def Ao{W:U}{M:List Str}(a:k2=.own\/k2=.loc)(hl:M.length<=1000)(hs:Γ "suffice" [.tup (rs.map B'),.lst ((dr M y).map .str)]=a5 (.ok (.loc,.bl b))):
  ∃k3 e,(k3=Kd.own\/k3=.loc)/\Run (execs Γ FF) (pN rs k W k2 M (a5 (.loc,.str y)) o4) .nx (pN rs k W k3 (if b=bD then dr M y else M) (a5 (.loc,.str y)) e):=by
 have⟨k',f,g,h⟩:=H0 (Γ:=Γ) (st:=pN rs k W k2 M (a5 (.loc,.str y)) o4) (i:=2) (M:=M) a rfl;have c:=An (j:=3) (y:=y) (.inl rfl) hl f (g _ trivial) h ⟨.loc,.inl rfl,rfl⟩;have d:Run (ba Γ [.var 0,.var 4]) (pN rs k W k2 M (a5 (.loc,.str y)) (a5 (.own,.lst ((dr M y).map .str)))) _ _:=ae (af rfl) (ae (aA rfl) aj);cases b with
 |true=>show⟨.loc,a5 (.loc,.lst ((dr M y).map .str)),.inr rfl,aw c aZ (eC (vA d ⟨⟨.own,rfl,rfl⟩,trivial⟩ (l_ hs) (by show aw (aA rfl) (HZ rfl) ax)) ax)⟩
 |false=>show⟨k2,a5 (.own,.lst ((dr M y).map .str)),a,aw c aZ (eC (vA d ⟨⟨.own,rfl,rfl⟩,trivial⟩ (l_ hs) (by show ax (Γ:=Γ))) ax)⟩
def H9(p:KL.QZ Pg)(j:Jz Pg "words_of" ir)(v:Jz Pg "refuse_unknown" og)(A:Jz Pg "with_pictures" Q1)(B:Jz Pg "not_learnt" rA)(hs:Jz Pg "suffice" Cz)(h:Jz Pg "spared" FG)(C:Bz ws rs){W:U}(g:Bw L k W)(hl:L.length<=40)(hz:KA rs L->rs.length+L.length<=120):
  (KA rs L->Suf rs L->∃k2 M,(k2=Kd.own\/k2=.loc)/\Jq Pg (d+8) "spared" [.tup (rs.map B'),W]=a5 (.ok (k2,.lst (M.map .str)))/\L3 rs L M M)/\(KA rs L->¬Suf rs L->Jq Pg (d+8) "spared" [.tup (rs.map B'),W]=a5 (.exc "Lacking"))/\(¬KA rs L->Jq Pg (d+8) "spared" [.tup (rs.map B'),W]=a5 (.exc "Unknown")):=by
 have hk:=g.kd;have f:=C9 (d:=d) p j v A B hs C g hl hz;have as:∀r,Run (ba (Jq Pg (d+7)) [.var 0,.var 1]) (a5 (.loc,.tup (rs.map B'))::a5 (k,W)::r) [(.loc,.tup (rs.map B')),(k,W)] (a5 (.loc,.tup (rs.map B'))::a5 (k,W)::r):=λr=>ae (af rfl) (ae (cG hk rfl) aj);have n:∀st,aX [(Kd.loc,U.tup (rs.map B')),(k,W)] st:=λst=>bQ (.inl rfl) (bQ hk trivial);show⟨λz s=>?_,λz s=>?_,λz=>(aL h _).trans (gn rfl (g.start 3) (lP (HY (as _) (n _) (vt (f.2 z)))))⟩
 .have⟨b,l,i⟩:=f.1 z;have:b=bD:=i.mpr s;subst this;have D:∀r,Run (ev (Jq Pg (d+7)) (.bi .sorted [.var 1])) (a5 (.loc,.tup (rs.map B'))::a5 (k,W)::r) (.own,.lst ((aH L).map .str)) (a5 (.loc,.tup (rs.map B'))::a5 (k,W)::r):=λr=>cI (ae (cG hk rfl) aj) (bQ hk trivial) (g.U2 ⋯);have⟨st',G,k2,M,o3,o4,m,rfl,c⟩:=bU (rs:=[(.own,.lst ((aH L).map .str))]) (t:=cc) (is:=[3]) (body:=execs (Jq Pg (d+7)) FF) (λx:Str=>(Kd.loc,U.str x)) (λa q st=>∃k2 M o3 o4,(k2=Kd.own\/k2=.loc)/\st=pN rs k W k2 M o3 o4/\L3 rs L M a)
   (λ_ _ _ _=>trivial) (λa y q st H=>by
    have⟨k2,M,o3,o4,m,e,c⟩:=H;subst e;have O:M.length<=L.length:=by have:=c.sub.length_le;rw[bO]at this;show this
    have Q:(dr M y).length<=M.length:=l' _ _;have I:KA rs (dr M y):=λx f=>z x ((bc L).mem_iff.mp (c.sub.subset (iw.mp f).1));have⟨b,l,i⟩:=(C9 (d:=d) p j v A B hs C (L:=dr M y) .lst ⋯ λ_=>by have:=hz z;lia).1 I;have⟨k3,T,J,q⟩:=Ao (k:=k) (W:=W) (o4:=o4) m ⋯ l;show⟨pN rs k W k2 M (a5 (.loc,.str y)) o4,_,aE,q,k3,_,_,_,J,rfl,?_⟩;cases b with
    |true=>show c.drop (i.mp rfl)
    |false=>show c.keep λs=>by cases i.mpr s) (aH L) [] (pN rs k W .own (aH L) b8 b8) ⟨.own,aH L,b8,b8,.inl rfl,rfl,⟨Ī _,s.mono λx f=>(bc L).mem_iff.mpr f,λ_ _ N=>by cases N⟩⟩
  rw[i5]at c;have o:∃st',Run (execs (Jq Pg (d+7)) [.ret (.var 2)]) (pN rs k W k2 M o3 o4) (.rt k2 (.lst (M.map .str))) st':=by
   rcases m with rfl|rfl
   .show⟨_,bP (aA rfl) (gT rfl)⟩
   .show⟨_,bP (af rfl) dN⟩
  have⟨st',o⟩:=o;show⟨k2,M,m,(aL h _).trans (bt rfl m (g.start 3) (eC (vA (as _) (n _) (l_ l) (by show ax (Γ:=Jq Pg (d+7)))) (aw (st2:=pN rs k W .own (aH L) b8 b8) (D [b8,b8,b8]) aZ (c8 (rs:=[(.own,.lst ((aH L).map .str))]) (xs:=(aH L).map λx=>(Kd.loc,U.str x)) (ae (D [a5 (.own,.lst ((aH L).map .str)),b8,b8]) aj) trivial (by change a5 (((aH L).map U.str).map λu=>(kE .own,u))=_;rw[kb];rfl) rfl G o)))),c.sub,c.U1,λw j _=>c.min w j (c.sub.subset j)⟩
 .have⟨b,l,i⟩:=f.1 z;have:b=cc:=by
   cases b with
   |false=>rfl
   |true=>show absurd (i.mp rfl) s
  subst this;show(aL h _).trans (gn rfl (g.start 3) (lP (vA (as _) (n _) (l_ l) (by show C5 ai))))
end
section
abbrev M_(a b:Bool):List (Str×Bool):=[("Lacking",a),("Unknown",b)]
abbrev mj:Fn:=Ag (M_ cc bD) (M_ cc cc) (M_ cc cc) (M_ bD cc) (M_ cc cc) (M_ cc cc) (M_ cc cc) (M_ cc cc) (M_ bD bD)
def jj(a b:Bool):fe (M_ a b) (.exc "Lacking")=a5 a:=by cases a<;>cases b<;>decide +kernel
def jk(a b:Bool):fe (M_ a b) (.exc "Unknown")=a5 b:=by cases a<;>cases b<;>decide +kernel
def tP:dg Γ mj [.exc "Unknown"]=a5 (.ok (.loc,.str "unknown")):=oh (jk _ _) (jk _ _) (jk _ _) (jk _ _) (jk _ _) (jk _ _) (jk _ _) (jk _ _) (jk _ _) rfl rfl rfl
def tQ:dg Γ mj [.exc "Lacking"]=a5 (.ok (.loc,.str "lacking")):=oh (jj _ _) (jj _ _) (jj _ _) (jj _ _) (jj _ _) (jj _ _) (jj _ _) (jj _ _) (jj _ _) rfl rfl rfl
abbrev tR:Fn:=⟨"_law_asked",2,5,[.set 2 (.cst .Jm),.set 3 (.cst .Jm),.Nl 2 [] "spared" [.var 0,.var 1] "" [] "PrimerError" ["Lacking","Unknown"] 4 3,.ret (.ite (.cmp .is (.var 3) (.cst .Jm)) (.var 2) (.call "_law_kind" [.var 3]))]⟩
inductive oi(rs:List Row)(L:List Str):Kd->U->Prop
 |R5:¬KA rs L->oi rs L .loc (.str "unknown")
 |R6:KA rs L->¬Suf rs L->oi rs L .loc (.str "lacking")
 |R7 {k:Kd} {M:List Str}:KA rs L->Suf rs L->(k=.own\/k=.loc)->L3 rs L M M->oi rs L k (.lst (M.map .str))
def H_(h:Jz Pg "_law_asked" tR)(hk:Jz Pg "_law_kind" mj){W:U}(a:Bw L k W)
  (j:KA rs L->Suf rs L->∃k2 M,(k2=Kd.own\/k2=.loc)/\Jq Pg (d+1) "spared" [.tup (rs.map B'),W]=a5 (.ok (k2,.lst (M.map .str)))/\L3 rs L M M) (l:KA rs L->¬Suf rs L->Jq Pg (d+1) "spared" [.tup (rs.map B'),W]=a5 (.exc "Lacking")) (m:¬KA rs L->Jq Pg (d+1) "spared" [.tup (rs.map B'),W]=a5 (.exc "Unknown")) :
  ∃k' u,Jq Pg (d+2) "_law_asked" [.tup (rs.map B'),W]=a5 (.ok (k',u))/\oi rs L k' u:=by
 have b:=a.start (rs:=rs) 3;have f:∀st,aX [(Kd.loc,U.tup (rs.map B')),(k,W)] st:=λst=>bQ (.inl rfl) (bQ a.kd trivial);have as:∀r,Run (ba (Jq Pg (d+1)) [.var 0,.var 1]) (a5 (.loc,.tup (rs.map B'))::a5 (k,W)::r) [(.loc,.tup (rs.map B')),(k,W)] (a5 (.loc,.tup (rs.map B'))::a5 (k,W)::r):=λr=>ae (af rfl) (ae (cG a.kd rfl) aj);have g:∀(c:Str) (x:Str),c∈[("Lacking":Str),"Unknown"]->Jq Pg (d+1) "spared" [.tup (rs.map B'),W]=a5 (.exc c)->dg (Jq Pg d) mj [.exc c]=a5 (.ok (.loc,.str x))->Jq Pg (d+2) "_law_asked" [.tup (rs.map B'),W]=a5 (.ok (.loc,.str x)):=λc x n e z =>
  (aL h _).trans (bt rfl (.inr rfl) b (aw ai aE (aw ai aE (tM (as _) (f _) (vt e) (HI rfl (by decide) n) (bP (pv (aG (af rfl) ai trivial rfl) (b_ (ae (af rfl) aj) trivial ((aL hk _).trans z))) dN)))))
 by_cases z:KA rs L
 .by_cases s:Suf rs L
  .have⟨k2,M,i,e,o⟩:=j z s;show⟨k2,_,?_,.R7 z s i o⟩;rcases i with rfl|rfl
   .show(aL h _).trans (bt rfl (.inl rfl) b (aw ai aE (aw ai aE (tM (as _) (f _) (C6 e) HJ (bP (lN (aG (af rfl) ai trivial rfl) (aA rfl)) (gT rfl))))))
   .show(aL h _).trans (bt rfl (.inr rfl) b (aw ai aE (aw ai aE (tM (as _) (f _) (l_ e) HK (bP (lN (aG (af rfl) ai trivial rfl) (af rfl)) dN)))))
  .show⟨_,_,g "Lacking" _ (by simp) (l z s) tQ,.R6 z s⟩
 .show⟨_,_,g "Unknown" _ (by simp) (m z) tP,.R5 z⟩
abbrev Ia:List S:=[.ite (.call "_law_suffice" [.var 0,.comp 1 cc .seq [.var 2] [.cmp .ne (.var 0) (.var 4)] (.var 0)]) [.ret (.cst (.bl cc))] []]
abbrev FH:Fn:=⟨"_law_right",3,4,[.ite (.or [.not (.MA (.var 2) .list),.not (.bi .all [.comp 1 cc .seq [.var 2] [] (.and [.MA (.var 0) .str,.cmp .isin (.var 0) (.var 2)])])]) [.ret (.cst (.bl cc))] [],.ite (.or [.cmp .ne (.var 2) (.Ni .sset [.var 2]),.not (.call "_law_suffice" [.var 0,.var 2])]) [.ret (.cst (.bl cc))] [],.Jy cc [3] .seq [.var 2] Ia,.ret (.cst (.bl bD))]⟩
def L3.U2{L M d:List Str}(a:L.Nodup)(h:L3 rs L M d):M.Nodup/\aH (aD M)=M:=by
 have n:M.Nodup:=((bc L).nodup_iff.mpr a).sublist h.sub;show⟨n,ra ((Ol (bC M) n).mpr λx=>by simp[bG]) ((e_ L).sublist h.sub)⟩
def Ib{L M:List Str}(r:∀N,(∀x∈N,x∈L)->N.length<=L.length->∃b,Γ "_law_suffice" [.tup (rs.map B'),.lst (N.map .str)]=a5 (.ok (.loc,.bl b))/\(b=bD↔Suf rs N))(s:L.Nodup)(hl:L.length<=60)(g:L3 rs L M M):
  dg Γ FH [.tup (rs.map B'),.lst (L.map .str),.lst (M.map .str)]=a5 (.ok (.loc,.bl bD)):=by
 have hsz:(1000:Nat)<=cL:=by decide
 have⟨I,u⟩:=g.U2 s;have v:M.length<=L.length:=by have:=g.sub.length_le;rw[bO]at this;show this
 have l:∀x∈M,x∈L:=λx d=>(bc L).mem_iff.mp (g.sub.subset d);let S:Option (Kd×U)->ay:=λo=>[a5 (.loc,.tup (rs.map B')),a5 (.any,.lst (L.map .str)),a5 (.any,.lst (M.map .str)),o]
 have w:start [.tup (rs.map B'),.lst (L.map .str),.lst (M.map .str)] 4=S b8:=by
  change [a5 (if JG (.tup (rs.map B'))=bD then Kd.loc else Kd.any,U.tup (rs.map B')),a5 (Kd.any,U.lst (L.map .str)),a5 (Kd.any,U.lst (M.map .str)),b8]=_;rw[eF]
 have f:KU .seq [(.any,.lst (M.map .str))]=a5 (M.map λx=>(Kd.any,U.str x)):=(Bw.lst (L:=M)).it;have z:Run (ev Γ (.bi .all [.comp 1 cc .seq [.var 2] [] (.and [.MA (.var 0) .str,.cmp .isin (.var 0) (.var 2)])])) (S b8) (.loc,.bl bD) (S b8):=by
  have d:=lS (cond:=bh Γ []) (elt:=ev Γ (.and [.MA (.var 0) .str,.cmp .isin (.var 0) (.var 2)])) (src:=[(.any,.lst (M.map .str))]) (st:=S b8) trivial .any (.inr rfl) U.str (λ_=>.bl bD) .loc (λ_=>nR) M [] (by simp;lia)
   (λy A=>⟨Hi (Fe (p:=bD) (q:=bD) (Hs (aT rfl) rfl) λ_=>Fb (lL (aT rfl) (aT rfl) trivial (Hz.trans (by rw[ń (l y A)])))),aP⟩)
  rw[i5]at d;have h:(M.map λx=>U.bl bD)=(M.map λx=>bD).map U.bl:=by rw[kb];rfl
  rw[h]at d;have B:((M.map λx=>bD).all id)=bD:=by rw[i7];intro x d;obtain⟨_,_,rfl⟩:=js.mp d;rfl
  have:Run (ev Γ (.bi .all [.comp 1 cc .seq [.var 2] [] (.and [.MA (.var 0) .str,.cmp .isin (.var 0) (.var 2)])])) (S b8) (.loc,.bl ((M.map λx=>bD).all id)) (S b8):=cI (ae (dI (rs:=[(.any,.lst (M.map .str))]) (ae (aT rfl) aj) trivial f d) aj) trivial (vi _);rw[B]at this;show this
 have C:(aD M).length<=M.length:=cF (bC _) λx d=>by simpa[bG] using d
 have⟨b,m,h⟩:=r M l v;have:b=bD:=h.mpr g.U1;subst this;obtain⟨st',D,o,rfl,_⟩:=bU (rs:=[(.any,.lst (M.map .str))]) (t:=cc) (is:=[3]) (body:=execs Γ Ia) (λx:Str=>(Kd.any,U.str x)) (λa q st=>∃o,st=S o/\∀x∈q,x∈M)
  (λ_ _ _ _=>trivial) (λa y q st G=>by
   have⟨o,e,n⟩:=G;subst e;have C:(dr M y).length<=M.length:=l' _ _;have⟨b,m,h⟩:=r (dr M y) (λx d=>l x (iw.mp d).1) ⋯;have:b=cc:=by
    cases b with
    |false=>rfl
    |true=>show absurd (h.mp rfl) (g.min y (n y (by simp)) (n y (by simp)))
   subst this;have H:=An (Γ:=Γ) (st:=S (a5 (.any,.str y))) (i:=2) (j:=3) (k:=.any) (src:=(.any,.lst (M.map .str))) (y:=y) (.inr rfl) ⋯ (aT rfl) trivial f ⟨.any,.inr rfl,rfl⟩;show⟨S (a5 (.any,.str y)),S (a5 (.any,.str y)),ja,bA (s9 (ae (af rfl) (ae H aj)) trivial m rfl) ax ax,_,rfl,λx d=>n x (by simp[d])⟩) M [] (S b8) ⟨b8,rfl,λx d=>d⟩
 show bt rfl (.inr rfl) w (bA (wK (qN (lO (c:=bD) (Ht (aT rfl) rfl)) (qM (lO (c:=bD) (zl z))))) ax (bA (wK (qN (aG (aT rfl) (zf (ae (aT rfl) aj) trivial (qR ⋯ ⋯)) trivial ?_) (qM (lO (c:=bD) (s9 (ae (af rfl) (ae (aT rfl) aj)) trivial m rfl))))) ax (c8 (rs:=[(.any,.lst (M.map .str))]) (ae (aT rfl) aj) trivial f rfl D (bP ai dN))));rw[u];show vq.trans (by simp)
end
section
@[reducible]def O4:=Option (Kd×U)×Option (Kd×U)×Option (Kd×U)×Option (Kd×U)
abbrev JV(f:O4)(rs:List Row)(K:List Str)(u2:U)(o8 o9 o10 o11 o12 o13 o14:Option (Kd×U)):ay :=
 [f.1,f.2.1,a5 (.own,u2),f.2.2.1,f.2.2.2,a5 (.loc,.tup (rs.map B')),a5 (.own,.lst ((az rs).map .str)),a5 (.own,mK K),o8,o9,o10,o11,o12,o13,o14]
def FI(b:bb Γ)(c:rB Γ)(hl:(az rs).length<=24)(d:Src T u2)(q:T+100<2 ^ 62):∃(L:List Str) (u':U),Run (ev Γ (.Jf "_law_some" [.var 2,.var 6,.bin .add (.cst (.int 1)) (.Jf "_law_draw" [.var 2,.cst (.int 2)] [0])] [0])) (JV f rs K u2 o8 o9 o10 o11 o12 o13 o14) (.own,.lst (L.map .str)) (JV f rs K u' o8 o9 o10 o11 o12 o13 o14)/\(∀x∈L,x∈az rs)/\L.Nodup/\Src (T+70) u':=by
 have⟨n,g,h,s,t,s1⟩:=cy (Γ:=Γ) (st:=JV f rs K u2 o8 o9 o10 o11 o12 o13 o14) b (i:=2) (k:=.own) (e:=.cst (.int 2)) (m:=2) rfl rfl ai d ⋯ ⋯ ⋯;have⟨L,u',e,j,u,a,l⟩:=c _ g (az rs) (1+n) s1 ⋯ hl ⋯ ⋯;have⟨o,rfl,p⟩:=s1.lst;have⟨us',rfl,v⟩:=a.lst;show⟨L,.lst us',?_,j,l (fH rs),a.up ⋯⟩;show pH (Γ:=Γ) (st:=JV f rs K u2 o8 o9 o10 o11 o12 o13 o14) (st1:=JV f rs K (.lst o) o8 o9 o10 o11 o12 o13 o14) (i:=2) (k0:=.own) (k:=.own) (rs:=[(.bor 6,.lst ((az rs).map .str)),(.loc,.int (1+n))]) rfl rfl (ae (aA rfl) (ae (bB ai h trivial cu) aj)) rfl rfl p rfl ⟨⟨.own,rfl,rfl⟩,trivial⟩ (λr hr=>by rcases d4.mp hr with rfl|hr;rfl;rw[hV]at hr;subst hr;rfl) e (.inl rfl)
noncomputable def Wq : S := .ite (.cmp .gt (.Jf "_law_draw" [(.var 2), (.cst (.int 3))] [0]) (.cst (.int 0)))
        [.set 10 (.Jf "_law_some" [.var 2,.comp 1 cc .seq [.var 6] [.and [.cmp .Jh (.var 0) (.var 8),.cmp .Jh (.var 0) (.var 10)]] (.var 0),.cst (.int 1)] [0]),
        .set 9 (.bin .add (.var 10) (.var 9))]
        []
def FJ(w:bb Γ)(z:rB Γ){L:List Str}(hl:(az rs).length<=24)(g:∀x∈L,x∈az rs)(j:L.Nodup)(A:Src T u2)(Y:T+100<2 ^ 62):∃(L':List Str) (u':U) (B:Option (Kd×U)),Run (exec Γ Wq) (JV f rs K u2 o8 (a5 (.own,.lst (L.map .str))) o10 o11 o12 o13 o14) .nx (JV f rs K u' o8 (a5 (.own,.lst (L'.map .str))) B o11 o12 o13 o14)/\(∀x∈L',x∈az rs)/\L'.Nodup/\Src (T+70) u':=by
 have C:(1000:Nat)<=cL:=by decide
 have⟨n,c,l,n0,n1,s1⟩:=cy (Γ:=Γ) (st:=JV f rs K u2 o8 (a5 (.own,.lst (L.map .str))) o10 o11 o12 o13 o14) w (i:=2) (k:=.own) (e:=.cst (.int 3)) (m:=3) rfl rfl ai A ⋯ ⋯ ⋯;by_cases h:0<n
 .have hx:=iq (cond:=bh Γ [.and [.cmp .Jh (.var 0) (.var 8),.cmp .Jh (.var 0) (.var 10)]]) (elt:=ev Γ (.var 0)) (src:=[(.bor 6,.lst ((az rs).map .str))]) (st:=JV f rs K c o8 (a5 (.own,.lst (L.map .str))) o10 o11 o12 o13 o14) ⟨⟨.own,rfl,rfl⟩,trivial⟩ .loc (.inl rfl) U.str U.str (λx=>!cK (x∈K)&&cK (x∉L)) .loc (az rs) [] (by simp;lia)
   (λy _=>⟨cE (fi (lR (aG (af rfl) (aA rfl) ⟨⟨.own,rfl,rfl⟩,trivial⟩ fj) λ_=>cE (aG (af rfl) (aA rfl) ⟨⟨.own,rfl,rfl⟩,trivial⟩ eD))),λ_=>⟨af rfl,aP⟩⟩)
  rw[i5]at hx;have D:=l' (λx=>!cK (x∈K)&&cK (x∉L)) (az rs);have o:((az rs).filter λx=>!cK (x∈K)&&cK (x∉L)).Nodup:=(fH rs).sublist QS;have d:∀x∈(az rs).filter λx=>!cK (x∈K)&&cK (x∉L),x∈az rs/\x∉L:=λx hx=>by
   have⟨a,b⟩:=so.mp hx;rw[cb]at b;show⟨a,Ņ b.2⟩
  have p:Run (ev Γ (.comp 1 cc .seq [.var 6] [.and [.cmp .Jh (.var 0) (.var 8),.cmp .Jh (.var 0) (.var 10)]] (.var 0))) (JV f rs K c o8 (a5 (.own,.lst (L.map .str))) o10 o11 o12 o13 o14) _ _:=dI (rs:=[(.bor 6,.lst ((az rs).map .str))]) (ae (aA rfl) aj) ⟨⟨.own,rfl,rfl⟩,trivial⟩ FE hx;generalize ((az rs).filter λx=>!cK (x∈K)&&cK (x∉L))=P at hx D o d p;have⟨M,u',e,q,h2,s,G⟩:=z _ c P 1 s1 ⋯ ⋯ ⋯ ⋯;have⟨t,rfl,H⟩:=s1.lst;have⟨us',rfl,ZA⟩:=s.lst;have I:=pH (Γ:=Γ) (f:="_law_some") (es:=[.comp 1 cc .seq [.var 6] [.and [.cmp .Jh (.var 0) (.var 8),.cmp .Jh (.var 0) (.var 10)]] (.var 0),.cst (.int 1)]) (st:=JV f rs K (.lst t) o8 (a5 (.own,.lst (L.map .str))) o10 o11 o12 o13 o14) (st1:=JV f rs K (.lst t) o8 (a5 (.own,.lst (L.map .str))) o10 o11 o12 o13 o14) (i:=2) (k0:=.own) (k:=.own) (rs:=[(.own,.lst (P.map .str)),(.loc,.int 1)]) rfl rfl (ae p (ae ai aj)) rfl rfl H rfl trivial (λr hr=>by rcases d4.mp hr with rfl|hr;rfl;rw[hV]at hr;subst hr;rfl) e (.inl rfl);have u:(M++L).Nodup:=ro.mpr ⟨G o,j,λa J b N e=>(d a (q a J)).2 (e▸N)⟩;have v:∀x∈M++L,x∈az rs:=λx hx=>by
   rcases hW.mp hx with hx|hx
   .show(d x (q x hx)).1
   .show g x hx
  have O:=cF u v;have Q:Run (ev Γ (.bin .add (.var 10) (.var 9))) (JV f rs K (.lst us') o8 (a5 (.own,.lst (L.map .str))) (a5 (.own,.lst (M.map .str))) o11 o12 o13 o14) (.own,.lst ((M++L).map .str)) (JV f rs K (.lst us') o8 (a5 (.own,.lst (L.map .str))) (a5 (.own,.lst (M.map .str))) o11 o12 o13 o14):=by
   rw[ke];show bB (aA rfl) (aA rfl) ⟨⟨.own,rfl,rfl⟩,⟨.own,rfl,rfl⟩,trivial⟩ (qT (by rw[df,df];rw[hY]at O;lia) rfl rfl)
  show⟨M++L,.lst us',a5 (.own,.lst (M.map .str)),il (aG l ai trivial (fM (ń h))) (aw I aZ (aw Q aZ ax)),v,u,s.up ⋯⟩
 .show⟨L,c,o10,jG (aG l ai trivial (fM (Ń h))) ax,g,j,s1.up ⋯⟩
def FK:Run (ev Γ (.comp 1 cc .seq [.lst [.cst (.str "zzzzzzzz"),.cst (.str "a/99"),.cst (.str "q")]] [.cmp .Jh (.var 0) (.var 7)] (.var 0))) (JV f rs K u2 o8 o9 o10 o11 o12 o13 o14) (.own,.lst ((ji.filter λx=>cK (x∉az rs)).map .str)) (JV f rs K u2 o8 o9 o10 o11 o12 o13 o14):=by
 have b:(1000:Nat)<=cL:=by decide
 have a:=iq (cond:=bh Γ [.cmp .Jh (.var 0) (.var 7)]) (elt:=ev Γ (.var 0)) (src:=[(.own,.lst (ji.map .str))]) (st:=JV f rs K u2 o8 o9 o10 o11 o12 o13 o14) trivial .loc (.inl rfl) U.str U.str (λx=>cK (x∉az rs)) .loc ji [] (by change 0+3<=cL;lia)
  (λy _=>⟨cE (aG (af rfl) (aA rfl) ⟨⟨.own,rfl,rfl⟩,trivial⟩ eD),λ_=>⟨af rfl,aP⟩⟩)
 rw[i5]at a;show dI (rs:=[(.own,.lst (ji.map .str))]) (ae (cD (us:=ji.map .str) (ae ai (ae ai (ae ai aj))) trivial (aJ aP (aJ aP (aJ aP aM))) (by change 3<=cL;lia)) aj) trivial rfl a
inductive Due(rs:List Row)(L:List Str):U->Prop
 |no:¬KA rs L->Due rs L (.str "unknown")
 |bl {b:Bool}:KA rs L->L.Nodup->(b=bD↔Suf rs L)->Due rs L (.bl b)
noncomputable def Ws : S := .ite (.and [(.cmp .eq (.Jf "_law_draw" [(.var 2), (.cst (.int 4))] [0]) (.cst (.int 0))), (.cmp .gt (.bi .len [(.var 11)]) (.cst (.int 0)))])
        [.ins 9 (.Jf "_law_draw" [.var 2,.bin .add (.bi .len [.var 9]) (.cst (.int 1))] [0]) (.idx (.var 11) (.cst (.int 0))),
        .set 12 (.cst (.str "unknown"))]
        []
def FL(d:bb Γ){L sg:List Str}(hl:L.length<=24)(hs:sg.length<=3)(p:∀x∈sg,x∉az rs)(g:Due rs L w)(t:Src T u2)(B:T+100<2 ^ 62):∃(L':List Str) (j u':U),Run (exec Γ Ws) (JV f rs K u2 o8 (a5 (.own,.lst (L.map .str))) o10 (a5 (.own,.lst (sg.map .str))) (a5 (.loc,w)) o13 o14) .nx (JV f rs K u' o8 (a5 (.own,.lst (L'.map .str))) o10 (a5 (.own,.lst (sg.map .str))) (a5 (.loc,j)) o13 o14)/\(∀x∈L',x∈L\/x∈sg)/\L'.length<=25/\Due rs L' j/\Src (T+2) u':=by
 have v:(1000:Nat)<=cL:=by decide
 have⟨n,b,l,C,D,s1⟩:=cy (Γ:=Γ) (st:=JV f rs K u2 o8 (a5 (.own,.lst (L.map .str))) o10 (a5 (.own,.lst (sg.map .str))) (a5 (.loc,w)) o13 o14) d (i:=2) (k:=.own) (e:=.cst (.int 4)) (m:=4) rfl rfl ai t ⋯ ⋯ ⋯;by_cases h:n=0
 .have o:=aG l (ai (Γ:=Γ) (u:=.int 0)) trivial (bI (c:=bD) (by simp[h]));cases sg with
  |nil=>show⟨L,w,b,jG (fi (ij o (cE (aG (cI (ae (aA rfl) aj) (by show⟨⟨.own,rfl,rfl⟩,trivial⟩) cj) ai trivial (fM rfl))))) ax,λx hx=>.inl hx,⋯,g,s1.up ⋯⟩
  |cons s sg =>
   have⟨m,u',y,m0,m1,s2⟩:=cy (Γ:=Γ) (st:=JV f rs K b o8 (a5 (.own,.lst (L.map .str))) o10 (a5 (.own,.lst ((s::sg).map .str))) (a5 (.loc,w)) o13 o14) d (i:=2) (k:=.own) (e:=.bin .add (.bi .len [.var 9]) (.cst (.int 1))) (m:=((L.map U.str).length:Nat)+1) rfl rfl (bB (cI (ae (aA rfl) aj) (by show⟨⟨.own,rfl,rfl⟩,trivial⟩) cj) ai trivial cu) s1 ⋯ ⋯ (by simp;lia);rw[df]at m1;have q:=λss A st' z=>HW (Γ:=Γ) (i:=9) (a:=.Jf "_law_draw" [.var 2,.bin .add (.bi .len [.var 9]) (.cst (.int 1))] [0]) (e:=.idx (.var 11) (.cst (.int 0))) (ss:=ss) (f:=A) (st4:=st') (k:=.own) (k':=.own) (us:=L.map .str) (us':=L.map .str) (r:=(.loc,.str s)) (u:=.str s) rfl (by intro z;cases z) y (bL (aA rfl) ai (by show⟨⟨.own,rfl,rfl⟩,trivial⟩) (cN (show J9 ((s::sg).map U.str) ((0:Nat):Int)=_ from iF rfl))) trivial aP rfl rfl m0 (by rw[df];lia) (by rw[df];lia) z;show⟨L.take m.toNat++s::L.drop m.toNat,.str "unknown",u',?_,λx hx=>?_,by simp;lia,.no λz=>p s (by simp) (z s (by simp)),s2.up ⋯⟩
   .rw[show(L.take m.toNat++s::L.drop m.toNat).map U.str=(L.map U.str).take m.toNat++U.str s::(L.map U.str).drop m.toNat by simp[UI,UJ]];show il (fi (ij o (cE (aG (cI (ae (aA rfl) aj) (by show⟨⟨.own,rfl,rfl⟩,trivial⟩) cj) ai trivial (fM (c:=bD) (by simp)))))) (q _ _ _ (aw ai aE ax))
   .rcases hW.mp hx with hx|hx
    .show .inl (Zg hx)
    .rcases d4.mp hx with rfl|hx
     .show .inr (by simp)
     .show .inl (List.mem_of_mem_drop hx)
 .show⟨L,w,b,jG (fi (pw (aG l ai trivial (bI (c:=cc) (by simp[h]))))) ax,λx hx=>.inl hx,⋯,g,s1.up ⋯⟩
def FN(g:bb Γ)(j:Src T u2)(l:T<2 ^ 62):∃(k:Kd) (W:U) (u':U),(∀ss a st',Run (execs Γ ss) (JV f rs K u' o8 (a5 (.own,.lst (L.map .str))) o10 o11 o12 (a5 (k,W)) o14) a st'->Run (execs Γ (.set 13 (.ite (.cmp .eq (.Jf "_law_draw" [.var 2,.cst (.int 2)] [0]) (.cst (.int 1))) (.bi .tuple [.var 9]) (.bi .list [.var 9]))::ss)) (JV f rs K u2 o8 (a5 (.own,.lst (L.map .str))) o10 o11 o12 o13 o14) a st')/\Hd L k W/\Src (T+1) u':=by
 have⟨n,b,d,o,p,s1⟩:=cy (Γ:=Γ) (st:=JV f rs K u2 o8 (a5 (.own,.lst (L.map .str))) o10 o11 o12 o13 o14) g (i:=2) (k:=.own) (e:=.cst (.int 2)) (m:=2) rfl rfl ai j ⋯ ⋯ ⋯;by_cases h:n=1
 .show⟨.loc,.tup (L.map .str),b,λss a st' q=>aw (r:=(.loc,.tup (L.map .str))) (lN (aG d ai trivial (bI (c:=bD) (by simp[h]))) (cI (ae (aA rfl) aj) (by show⟨⟨.own,rfl,rfl⟩,trivial⟩) rfl)) aE q,.tup,s1⟩
 .show⟨.own,.lst (L.map .str),b,λss a st' q=>aw (r:=(.own,.lst (L.map .str))) (pv (aG d ai trivial (bI (c:=cc) (by simp[h]))) (cI (ae (aA rfl) aj) (by show⟨⟨.own,rfl,rfl⟩,trivial⟩) (mf rfl))) aZ q,.lst,s1⟩
end
section
abbrev Wt:List S :=
   [.set 14 (.call "_law_asked" [.var 5,.var 13]),
   .ite (.or [.cmp .eq (.var 12) (.cst (.str "unknown")),.not (.var 12)])
    [.ite (.cmp .ne (.var 14) (.ite (.cmp .eq (.var 12) (.cst (.str "unknown"))) (.var 12) (.cst (.str "lacking"))))
     [.ret (.cst (.bl cc))]
     []]
    [.ite (.not (.call "_law_right" [.var 5,.var 9,.var 14]))
     [.ret (.cst (.bl cc))]
     []],
   .ite (.cmp .ne (.bi .list [.var 13]) (.var 9))
    [.ret (.cst (.bl cc))]
    []]
def FO{W w:U}(a:Hd L k W)(o:Due rs L w)(p:∃k' u,Γ "_law_asked" [.tup (rs.map B'),W]=a5 (.ok (k',u))/\oi rs L k' u)(q:∀M,L.Nodup->KA rs L->L3 rs L M M->Γ "_law_right" [.tup (rs.map B'),.lst (L.map .str),.lst (M.map .str)]=a5 (.ok (.loc,.bl bD))):
  ∃r,Run (execs Γ Wt) (JV f rs K u2 o8 (a5 (.own,.lst (L.map .str))) o10 o11 (a5 (.loc,w)) (a5 (k,W)) o14) .nx (JV f rs K u2 o8 (a5 (.own,.lst (L.map .str))) o10 o11 (a5 (.loc,w)) (a5 (k,W)) r):=by
 obtain⟨k1,d,t,_⟩:=HX (Γ:=Γ) (st:=JV f rs K u2 o8 (a5 (.own,.lst (L.map .str))) o10 o11 (a5 (.loc,w)) (a5 (k,W)) o14) a (i:=13) rfl;have g:∀o14,Run (execs Γ [.ite (.cmp .ne (.bi .list [.var 13]) (.var 9)) [.ret (.cst (.bl cc))] []]) (JV f rs K u2 o8 (a5 (.own,.lst (L.map .str))) o10 o11 (a5 (.loc,w)) (a5 (k,W)) o14) .nx (JV f rs K u2 o8 (a5 (.own,.lst (L.map .str))) o10 o11 (a5 (.loc,w)) (a5 (k,W)) o14):=λo14=>by
  have⟨k',d,v,l⟩:=HX (Γ:=Γ) (st:=JV f rs K u2 o8 (a5 (.own,.lst (L.map .str))) o10 o11 (a5 (.loc,w)) (a5 (k,W)) o14) a (i:=13) rfl;have x:Lf .list [(k',W)]=a5 (.own,.lst (L.map .str)):=by
   cases a
   .change(if dQ k' (L.map U.str)=bD then a5 (Kd.own,U.lst (L.map U.str)) else b8)=_;rw[Ł l]
   .show mf l
  show bA (aG (cI (ae d aj) (v _ trivial) x) (aA rfl) (by show⟨⟨.own,rfl,rfl⟩,trivial⟩) (vq.trans (by simp))) ax ax
 have⟨k',u,e,ho⟩:=p;have h:Run (ev Γ (.call "_law_asked" [.var 5,.var 13])) (JV f rs K u2 o8 (a5 (.own,.lst (L.map .str))) o10 o11 (a5 (.loc,w)) (a5 (k,W)) o14) (k',u) (JV f rs K u2 o8 (a5 (.own,.lst (L.map .str))) o10 o11 (a5 (.loc,w)) (a5 (k,W)) o14):=b_ (ae (af rfl) (ae d aj)) (by show t _ trivial) e (by cases ho with|R5=>rfl|R6=>rfl|R7 _ _ hk _=>rcases hk with rfl|rfl<;>rfl);have m:bN .eq (.str "unknown") (.str "unknown")=a5 bD:=by decide +kernel
 have j:∀b,bN .eq (.bl b) (.str "unknown")=a5 cc:=λb=>by cases b<;>decide +kernel
 cases o with
 |no hz =>
  cases ho with
  |R5 _=>show⟨_,aw h aE (dH (wK (Hj (aG (af rfl) ai trivial m))) (bA (aG (af rfl) (lN (aG (af rfl) ai trivial m) (af rfl)) trivial (tm.trans (by simp))) ax ax) (g _))⟩
  |R6 z _=>show absurd z hz
  |R7 z _ _ _=>show absurd z hz
 |@bl b hz y n =>
  cases ho with
  |R5 z=>show absurd hz z
  |R6 _ s =>
   have:b=cc:=by
    cases b with
    |false=>rfl
    |true=>show absurd (n.mp rfl) s
   subst this;show⟨_,aw h aE (dH (wK (qN (aG (af rfl) ai trivial (j _)) (qM (lO (c:=cc) (gh rfl))))) (bA (aG (af rfl) (pv (aG (af rfl) ai trivial (j _)) ai) trivial (tm.trans (by simp))) ax ax) (g _))⟩
  |@R7 _ M _ s hk A =>
   have:b=bD:=n.mpr s;subst this;have B:=q M y hz A;obtain⟨k2,C,D,_⟩:=H0 (Γ:=Γ) (st:=JV f rs K u2 o8 (a5 (.own,.lst (L.map .str))) o10 o11 (a5 (.loc,.bl bD)) (a5 (k,W)) (a5 (k',.lst (M.map .str)))) (i:=14) hk rfl;have G:Run (dG 14 (k',.lst (M.map .str))) (JV f rs K u2 o8 (a5 (.own,.lst (L.map .str))) o10 o11 (a5 (.loc,.bl bD)) (a5 (k,W)) o14) () (JV f rs K u2 o8 (a5 (.own,.lst (L.map .str))) o10 o11 (a5 (.loc,.bl bD)) (a5 (k,W)) (a5 (k',.lst (M.map .str)))):=by
    rcases hk with rfl|rfl
    .show aZ
    .show aE
   show⟨_,aw h G (bA (wK (qN (aG (af rfl) ai trivial (j _)) (qM (lO (c:=bD) (gh rfl))))) (bA (lO (c:=bD) (s9 (ae (af rfl) (ae (aA rfl) (ae C aj))) (by show⟨⟨.own,rfl,rfl⟩,D _ trivial⟩) B rfl)) ax ax) (g _))⟩
abbrev FP:List S :=
   [.set 9 (.Jf "_law_some" [.var 2,.var 6,.bin .add (.cst (.int 1)) (.Jf "_law_draw" [.var 2,.cst (.int 2)] [0])] [0]),
   Wq,
   .set 11 (.comp 1 cc .seq [.lst [.cst (.str "zzzzzzzz"),.cst (.str "a/99"),.cst (.str "q")]] [.cmp .Jh (.var 0) (.var 7)] (.var 0)),
   .set 12 (.call "_law_suffice" [.var 5,.var 9]),
   Ws,
   .set 13 (.ite (.cmp .eq (.Jf "_law_draw" [(.var 2),(.cst (.int 2))] [0]) (.cst (.int 1))) (.bi .tuple [(.var 9)]) (.bi .list [(.var 9)]))]++Wt
structure Wu(Γ:Tab)(rs:List Row):Prop where
 sf:∀L,(∀x∈L,x∈az rs)->L.length<=24->∃b,Γ "_law_suffice" [.tup (rs.map B'),.lst (L.map .str)]=a5 (.ok (.loc,.bl b))/\(b=bD↔Suf rs L)
 ak:∀L k W,Bw L k W->L.length<=25->∃k' u,Γ "_law_asked" [.tup (rs.map B'),W]=a5 (.ok (k',u))/\oi rs L k' u
 rt:∀L M,L.Nodup->KA rs L->L3 rs L M M->Γ "_law_right" [.tup (rs.map B'),.lst (L.map .str),.lst (M.map .str)]=a5 (.ok (.loc,.bl bD))
def CA(c:bb Γ)(g:rB Γ)(hl:(az rs).length<=24)(d:Wu Γ rs)(m:Src T u2)(Q:T+300<2 ^ 62):
  ∃h n a o p q e,Run (execs Γ FP) (JV f rs K u2 o8 o9 o10 o11 o12 o13 o14) .nx (JV f rs K h o8 n a o p q e)/\Src (T+150) h:=by
 have⟨Y,u3,r,s,t,s3⟩:=FI (Γ:=Γ) (f:=f) (K:=K) (o8:=o8) (o9:=o9) (o10:=o10) (o11:=o11) (o12:=o12) (o13:=o13) (o14:=o14) c g hl m ⋯;have⟨L2,u4,a,u,b1,i,s4⟩:=FJ (Γ:=Γ) (f:=f) (K:=K) (o8:=o8) (o10:=o10) (o11:=o11) (o12:=o12) (o13:=o13) (o14:=o14) c g hl s t s3 ⋯;have l2:=cF i b1;have⟨b,v,y⟩:=d.sf L2 b1 ⋯;have z:(ji.filter λx=>cK (x∉az rs)).length<=3:=l' _ _;have⟨L,w,u5,A,c1,B,C,D⟩:=FL (Γ:=Γ) (f:=f) (K:=K) (o8:=o8) (o10:=a) (o13:=o13) (o14:=o14) (rs:=rs) c (sg:=ji.filter λx=>cK (x∉az rs)) (L:=L2) ⋯ z (λx G=>Ņ (so.mp G).2) (.bl b1 i y) s4 ⋯;have⟨k,W,j,H,l,I⟩:=FN (Γ:=Γ) (f:=f) (rs:=rs) (K:=K) (o8:=o8) (o10:=a) (o11:=a5 (.own,.lst ((ji.filter λx=>cK (x∉az rs)).map .str))) (o12:=a5 (.loc,w)) (o13:=o13) (o14:=o14) c (L:=L) D ⋯;have⟨J,N⟩:=l.bw;have⟨e,O⟩:=FO (Γ:=Γ) (f:=f) (K:=K) (u2:=j) (o8:=o8) (o10:=a) (o11:=a5 (.own,.lst ((ji.filter λx=>cK (x∉az rs)).map .str))) (o14:=o14) l C (d.ak L J W N B) λM=>d.rt L M;show⟨j,_,_,_,_,_,e,aw r aZ (eC u (aw FK aZ (aw (b_ (ae (af rfl) (ae (aA rfl) aj)) (by show⟨⟨.own,rfl,rfl⟩,trivial⟩) v) aE (eC A (H _ _ _ O))))),I.up ⋯⟩
abbrev Ap:Fn:=⟨"law",1,15,[.set 1 (.Ni .Lc [.Nh (.var 0) [] [.cst (.int 200)]]),.set 2 (.Jf "_law_source" [.var 1,.cst (.int 2)] [0]),.set 3 (.Jf "_law_source" [.var 1,.cst (.int 1)] [0]),.set 4 (.Jf "_law_words" [.var 3] [0]),.set 5 (.Jf "_law_widened" [.var 3,.Jf "_law_book" [.var 1,.var 3,.var 4] [0,1]] [0]),.set 6 (.call "_law_all" [.var 5]),.set 7 (.call "_law_learnt" [.var 5]),.Jy cc [8] .Kj [.cst (.int 2)] FP,.ret (.cst (.bl bD))]⟩
def xf(c:jg Γ)(j:bb Γ)(l:vn Γ)(m:l8 Γ)(n:zX Γ)(o:rB Γ)(p:∀ws rs,Bq ws rs->Γ "_law_all" [.tup (rs.map B')]=a5 (.ok (.own,.lst ((az rs).map .str))))(v:I_ Γ)
  (w:∀ws rs,Bq ws rs->Wu Γ rs) {ns:List Int} (hn:ns.length<=63):dg Γ Ap [.lst (ns.map .int)]=a5 (.ok (.loc,.bl bD)):=by
 have x:(1000:Nat)<=cL:=by decide
 have e:sj .Lc [(.own,.lst ((cut ns b8 (a5 200)).map .int))]=a5 (.own,.lst ((cut ns b8 (a5 200)).reverse.map .int)):=by
  change(if dQ .own ((cut ns b8 (a5 200)).map U.int)=bD then a5 (Kd.own,U.lst ((cut ns b8 (a5 200)).map U.int).reverse) else b8)=_;rw[Ł (show dQ .own ((cut ns b8 (a5 200)).map U.int)=bD from rfl),List.map_reverse]
 have b:(cut ns b8 (a5 200)).reverse.length<=63:=by rw[Ux];have:=B_ ns b8 (a5 200);lia
 generalize (cut ns b8 (a5 200)).reverse=z at e b;let o0:Option (Kd×U):=a5 (.any,.lst (ns.map .int));have⟨A,u2,B,l2,s2⟩:=rm (Γ:=Γ) c (ns:=z) (rest:=[b8,b8,b8,b8,b8,b8,b8,b8,b8,b8,b8,b8,b8]) (o0:=o0) (k:=2);have⟨g,C,D,l3,s3⟩:=rm (Γ:=Γ) c (ns:=A) (rest:=[a5 (.own,u2),b8,b8,b8,b8,b8,b8,b8,b8,b8,b8,b8,b8]) (o0:=o0) (k:=1);have⟨ws,u4,G,H,I,s4,wx⟩:=l 0 C s3 ⋯;have⟨J,rfl,L⟩:=s3.lst;have⟨N,rfl,O⟩:=s4.lst;have Q:=iu (Γ:=Γ) (st:=[o0,a5 (.own,.lst (g.map .int)),a5 (.own,u2),a5 (.own,.lst J),b8,b8,b8,b8,b8,b8,b8,b8,b8,b8,b8]) (i:=3) (es:=[]) (k0:=.own) (k:=.own) rfl rfl aj rfl rfl L rfl G (.inl rfl);have⟨rs,Y,u5,q5,a⟩:=xb (Γ:=Γ) m n (ns:=g) (u:=.lst N) (ws:=ws) (rest:=[b8,b8,b8,b8,b8,b8,b8,b8,b8,b8]) (o0:=o0) (o2:=a5 (.own,u2)) ⋯ s4 ⋯ H I;have My:=fI λr hr=>(a.ok r hr).ok;obtain⟨K,eK,_,_⟩:=v ws rs .loc _ .tup a.wl a.ok;let f:O4:=(o0,a5 (.own,.lst (Y.map .int)),a5 (.own,u5),a5 (.own,.lst (ws.map .str)))
 obtain⟨st',hf,R8,o8,o9,o10,o11,o12,o13,o14,T,rfl,_⟩:=bU (rs:=[(.loc,.int (2:Nat))]) (t:=cc) (is:=[8]) (body:=execs Γ FP) (λi:Nat=>(Kd.loc,U.int (0+(i:Int)))) (λd r st=>∃u2 o8 o9 o10 o11 o12 o13 o14 T,st=JV f rs K u2 o8 o9 o10 o11 o12 o13 o14/\Src T u2/\T+150 * (r.length:Nat)<1000)
  (λ_ _ _ _=>trivial) (λd y r st h=>by
   have⟨u2,o8,o9,o10,o11,o12,o13,o14,T,rfl,s,t⟩:=h;rw[i6]at t;have⟨R8,KG,KQ,Q4,Q5,Q6,Mu,q,s'⟩:=CA (Γ:=Γ) (f:=f) (rs:=rs) (K:=K) (u2:=u2) (o8:=a5 (.loc,.int (0+(y:Int)))) (o9:=o9) (o10:=o10) (o11:=o11) (o12:=o12) (o13:=o13) (o14:=o14) j o (vr My a.wl) (w ws rs a) s ⋯;show⟨JV f rs K u2 (a5 (.loc,.int (0+(y:Int)))) o9 o10 o11 o12 o13 o14,_,aE,q,_,_,_,_,_,_,_,_,_,rfl,s',⋯⟩) (fx 2) [] (JV f rs K u2 b8 b8 b8 b8 b8 b8 b8) ⟨_,_,_,_,_,_,_,_,0,rfl,s2,by simp⟩
 show bt (st0:=[o0,b8,b8,b8,b8,b8,b8,b8,b8,b8,b8,b8,b8,b8,b8]) rfl (.inr rfl) rfl (aw (zf (ae (qK (aT rfl) uZ (nQ ai) trivial (zo (by change cT _=bD;show gF ns))) aj) trivial e) aZ (aw B aZ (aw D aZ (aw Q aZ (aw q5 aE (aw (b_ (ae (af rfl) aj) trivial (p ws rs a)) aZ (aw (b_ (ae (af rfl) aj) trivial eK) aZ (c8 (rs:=[(.loc,.int (2:Nat))]) (ae ai aj) trivial (ip ⋯) rfl hf (bP ai dN)))))))))
end
end TM
namespace K
open PySem L2 TM
abbrev top(i:Nat):L5:=PySem.Challenge.pw_primer_k42_spared.main.body.getD i (.Pass ⟨0,0,0,0⟩)
noncomputable abbrev mn:Fn:=TM.ir
noncomputable abbrev dA:Fn:=KL.dA
noncomputable abbrev fq:Fn:=TM.og
noncomputable abbrev br:Fn:=KL.br
noncomputable abbrev c9:Fn:=KL.c9
noncomputable abbrev bu:Fn:=KL.bu
noncomputable abbrev fJ:Fn:=KL.fJ
noncomputable abbrev fm:Fn:=KL.fm
noncomputable abbrev jl:Fn:=TM.rA
noncomputable abbrev fO:Fn:=TM.Q1
noncomputable abbrev oj:Fn:=TM.Cz
noncomputable abbrev rC:Fn:=TM.FG
noncomputable abbrev jm:Fn:=TM.zt
noncomputable abbrev mq:Fn:=TM.vm
noncomputable abbrev jX:Fn:=TM.lZ
noncomputable abbrev om:Fn:=TM.Fp
noncomputable abbrev oo:Fn:=TM.Cj
noncomputable abbrev mr:Fn:=TM.pI
noncomputable abbrev jn:Fn:=TM.Cw
noncomputable abbrev oq:Fn:=TM.wX
abbrev mw:Fn:=⟨"_law_kind",1,2,[.set 1 (.lst [.Kx (.var 0) "Unknown" [("Lacking",cc),("Unknown",bD)],.Kx (.var 0) "Unlearnt" [("Lacking",cc),("Unknown",cc)],.Kx (.var 0) "TooMany" [("Lacking",cc),("Unknown",cc)],.Kx (.var 0) "Lacking" [("Lacking",bD),("Unknown",cc)]]),.set 1 (.bin .add (.var 1) (.lst [.Kx (.var 0) "NoText" [("Lacking",cc),("Unknown",cc)],.Kx (.var 0) "Unfit" [("Lacking",cc),("Unknown",cc)],.Kx (.var 0) "NoRow" [("Lacking",cc),("Unknown",cc)],.Kx (.var 0) "NoDeed" [("Lacking",cc),("Unknown",cc)]])),.ite (.or [.cmp .ne (.NC cc 1 bD) (.cst (.int 1)),.not (.Kx (.var 0) "ValueError" [("Lacking",bD),("Unknown",bD)])]) [.ret (.cst (.str "none"))] [],.ret (.idx (.lst [.cst (.str "unknown"),.cst (.str "unlearnt"),.cst (.str "many"),.cst (.str "lacking"),.cst (.str "text"),.cst (.str "unfit"),.cst (.str "row"),.cst (.str "deed")]) (.NC bD 1 bD))]⟩
noncomputable abbrev mz:Fn:=TM.FD
noncomputable abbrev gp:Fn:=TM.R4
noncomputable abbrev gV:Fn:=TM.UZ
noncomputable abbrev jY:Fn:=TM.tR
noncomputable abbrev jZ:Fn:=TM.FH
noncomputable abbrev gW:Fn:=TM.Cp
abbrev C_:Fn:=⟨"law",1,15,[.set 1 (.Ni .Lc [.Nh (.var 0) [] [.cst (.int 200)]]),.set 2 (.Jf "_law_source" [.var 1,.cst (.int 2)] [0]),.set 3 (.Jf "_law_source" [.var 1,.cst (.int 1)] [0]),.set 4 (.Jf "_law_words" [.var 3] [0]),.set 5 (.Jf "_law_widened" [.var 3,.Jf "_law_book" [.var 1,.var 3,.var 4] [0,1]] [0]),.set 6 (.call "_law_all" [.var 5]),.set 7 (.call "_law_learnt" [.var 5]),.Jy cc [8] .Kj [.cst (.int 2)] [.set 9 (.Jf "_law_some" [.var 2,.var 6,.bin .add (.cst (.int 1)) (.Jf "_law_draw" [.var 2,.cst (.int 2)] [0])] [0]),.ite (.cmp .gt (.Jf "_law_draw" [.var 2,.cst (.int 3)] [0]) (.cst (.int 0))) [.set 10 (.Jf "_law_some" [.var 2,.comp 1 cc .seq [.var 6] [.and [.cmp .Jh (.var 0) (.var 8),.cmp .Jh (.var 0) (.var 10)]] (.var 0),.cst (.int 1)] [0]),.set 9 (.bin .add (.var 10) (.var 9))] [],.set 11 (.comp 1 cc .seq [.lst [.cst (.str "zzzzzzzz"),.cst (.str "a/99"),.cst (.str "q")]] [.cmp .Jh (.var 0) (.var 7)] (.var 0)),.set 12 (.call "_law_suffice" [.var 5,.var 9]),.ite (.and [.cmp .eq (.Jf "_law_draw" [.var 2,.cst (.int 4)] [0]) (.cst (.int 0)),.cmp .gt (.bi .len [.var 11]) (.cst (.int 0))]) [.ins 9 (.Jf "_law_draw" [.var 2,.bin .add (.bi .len [.var 9]) (.cst (.int 1))] [0]) (.idx (.var 11) (.cst (.int 0))),.set 12 (.cst (.str "unknown"))] [],.set 13 (.ite (.cmp .eq (.Jf "_law_draw" [.var 2,.cst (.int 2)] [0]) (.cst (.int 1))) (.bi .tuple [.var 9]) (.bi .list [.var 9])),.set 14 (.call "_law_asked" [.var 5,.var 13]),.ite (.or [.cmp .eq (.var 12) (.cst (.str "unknown")),.not (.var 12)]) [.ite (.cmp .ne (.var 14) (.ite (.cmp .eq (.var 12) (.cst (.str "unknown"))) (.var 12) (.cst (.str "lacking")))) [.ret (.cst (.bl cc))] []] [.ite (.not (.call "_law_right" [.var 5,.var 9,.var 14])) [.ret (.cst (.bl cc))] []],.ite (.cmp .ne (.bi .list [.var 13]) (.var 9)) [.ret (.cst (.bl cc))] []],.ret (.cst (.bl bD))]⟩
abbrev prog:List Fn:=[mn,dA,fq,br,c9,bu,fJ,fm,jl,fO,oj,rC,jm,mq,jX,om,oo,mr,jn,oq,mw,mz,gp,gV,jY,jZ,gW,C_]
abbrev ck:Ck:=⟨(prog.filter λf=>f.io.isNone).map (·.name),[],prog.filterMap λf=>f.io.map λp=>(f.name,p.1),["Lacking","Unknown"],[],[("Lacking","Lacking",bD),("Lacking","NoDeed",cc),("Lacking","NoRow",cc),("Lacking","NoText",cc),("Lacking","TooMany",cc),("Lacking","Unfit",cc),("Lacking","Unknown",cc),("Lacking","Unlearnt",cc),("Lacking","ValueError",bD),("Unknown","Lacking",cc),("Unknown","NoDeed",cc),("Unknown","NoRow",cc),("Unknown","NoText",cc),("Unknown","TooMany",cc),("Unknown","Unfit",cc),("Unknown","Unknown",bD),("Unknown","Unlearnt",cc),("Unknown","ValueError",bD)],[("Lacking","PrimerError"),("Unknown","PrimerError")]⟩
def pure(ns:List Int)(n:ns.length<=63):Jq prog 10 "law" [sX ns]=a5 (.ok (.loc,.bl bD)):=by
 have g:Jz prog "_law_draw" vm:=rfl;have hs:Jz prog "_law_source" zt:=rfl;have e:Jz prog "_law_learnt" Cw:=rfl;have i:Jz prog "_law_all" wX:=rfl;have o:Jz prog "_law_pictured" R4:=rfl;have p:Jz prog "_law_suffice" UZ:=rfl;have hk:Jz prog "_law_asked" tR:=rfl;have q:Jz prog "_law_kind" mj:=rfl;have s:Jz prog "_law_right" FH:=rfl;have t:Jz prog "words_of" ir:=rfl;have u:Jz prog "refuse_unknown" og:=rfl;have v:Jz prog "with_pictures" Q1:=rfl;have w:Jz prog "not_learnt" rA:=rfl;have y:Jz prog "suffice" Cz:=rfl;have A:Jz prog "spared" FG:=rfl;have B:KL.QZ prog:=⟨rfl,rfl,rfl,rfl,rfl,rfl⟩
 have C:bb (Jq prog 7):=tq g;have f:bb (Jq prog 8):=tq g;have hl:Jz prog "law" Ap:=rfl;rw[show Jq prog 10 "law" [sX ns]=_ from aL hl [sX ns]];show xf (zJ hs) (tq g) (Cn f rfl) (zZ (zJ hs) f (HC C rfl) (HE rfl) rfl) (HG f (Fv rfl) rfl) (HV f rfl) (λws rs a=>all2 i a) (HP ⋯ e) (λws rs a=>?_) n;have D:=a.rl;have T:=a.wl;have j:∀(d:Nat) (L:List Str),(∀x∈L,x∈az rs)->L.length<=40->∃b,Jq prog (d+2) "_law_suffice" [.tup (rs.map B'),.lst (L.map .str)]=a5 (.ok (.loc,.bl b))/\(b=bD↔Suf rs L):=λd L h hl=>by
  have⟨b,G,H⟩:=Jc (d:=d) o e i p a.z (L:=L) (ws':=ws) hl ⋯ (λx c=>c) λx c=>a.z.in (h x c);show⟨b,G,H h⟩
 show⟨λL h hl=>j 7 L h ⋯,λL k W l hl=>?_,λL M m hk I=>?_⟩
 .have⟨J,O,Q⟩:=H9 (d:=0) B t u v w y A a.z l ⋯ λ_=>by lia
  show H_ (d:=7) hk q l J O Q
 .have Y:L.length<=(az rs).length:=JE.cF m hk;have QH:=fI λr e=>(a.ok r e).ok;show(aL s _).trans (Ib (λN h hl=>j 6 N (λx c=>hk x (h x c)) ⋯) m ⋯ I)
end K
namespace K
open PySem L2 TM PySem.W PyProof.Rows
abbrev m0:dt:=.str "primer.books" 335
abbrev m1:dt:=.str "primer.learning" 364
abbrev m2:dt:=.str "primer.pictures" 412
abbrev m3:dt:=.str "law_primer_k42_spared" 434
abbrev ml:Me:=⟨C_,41,["_law_script","_law_left","_law_query","_law_source_here","_law_words_here","_law_book_here","_law_known","_law_learned","_law_turn","_law_some_here","_law_more","_law_strange","_law_due","_law_handed","_law_found"],297,296,m3,co "law" 573 223 1 293 294 .none .none (.ref 295) 576 577 181⟩
abbrev ms:List Me:=[⟨mn,11,["book","words","row"],130,129,m0,co "words_of" 337 21 1 124 125 (.ref 126) (.ref 127) (.ref 128) 343 344 181⟩,
 ⟨dA,12,["pairs","found","key","value"],137,136,m0,co "gathered" 346 27 1 131 132 (.ref 133) (.ref 134) (.ref 135) 353 354 181⟩,
 ⟨fq,13,["book","words"],144,143,m0,co "refuse_unknown" 356 34 2 138 139 (.ref 140) (.ref 141) (.ref 142) 361 362 181⟩,
 ⟨br,15,["book","pairs","place","row"],149,148,m1,co "places_that_tell" 366 38 1 145 146 .none .none (.ref 147) 369 370 181⟩,
 ⟨c9,16,["book","places","known","steps","place","word"],156,155,m1,co "new_steps" 372 43 3 150 151 (.ref 152) (.ref 153) (.ref 154) 381 382 181⟩,
 ⟨bu,17,["book","tellers","missing","known","found","ready","steps","word","place","teller"],161,160,m1,co "steps_in_rounds" 384 50 1 157 158 .none .none (.ref 159) 387 388 181⟩,
 ⟨fJ,18,["book","found","steps"],168,167,m1,co "order" 390 68 1 162 163 (.ref 164) (.ref 165) (.ref 166) 396 397 181⟩,
 ⟨fm,19,["book"],173,172,m1,co "learnt" 399 73 1 169 170 .none .none (.ref 171) 402 403 181⟩,
 ⟨jl,20,["book"],180,179,m1,co "not_learnt" 405 75 1 174 175 (.ref 176) (.ref 177) (.ref 178) 409 410 181⟩,
 ⟨fO,22,["book","words","pictured","row"],185,184,m2,co "with_pictures" 414 78 2 181 182 .none .none (.ref 183) 417 418 181⟩,
 ⟨oj,23,["book","words"],192,191,m2,co "suffice" 420 85 2 186 187 (.ref 188) (.ref 189) (.ref 190) 425 426 181⟩,
 ⟨rC,24,["book","words","kept","word","fewer"],197,196,m2,co "spared" 428 87 2 193 194 .none .none (.ref 195) 431 432 181⟩,
 ⟨jm,26,["_law_left","_law_k","_law_cell"],204,203,m3,co "_law_source" 436 97 2 198 199 (.ref 200) (.ref 201) (.ref 202) 442 443 181⟩,
 ⟨mq,27,["_law_source_here","_law_many","_law_number","_law_turn","_law_mixed"],211,210,m3,co "_law_draw" 445 102 2 205 206 (.ref 207) (.ref 208) (.ref 209) 453 454 181⟩,
 ⟨jX,28,["_law_source_here","_law_letters","_law_many","_law_base","_law_way","_law_size","_law_first","_law_words_here","_law_k","_law_word","_law_sense"],216,215,m3,co "_law_words" 456 111 1 212 213 .none .none (.ref 214) 459 460 181⟩,
 ⟨om,29,["_law_source_here","_law_words_here","_law_at","_law_below","_law_told","_law_k","_law_one"],223,222,m3,co "_law_row" 462 132 4 217 218 (.ref 219) (.ref 220) (.ref 221) 472 473 181⟩,
 ⟨oo,30,["_law_rows","_law_row_here","_law_other"],230,229,m3,co "_law_lay" 475 141 2 224 225 (.ref 226) (.ref 227) (.ref 228) 481 482 181⟩,
 ⟨mr,31,["_law_left","_law_source_here","_law_words_here","_law_rows","_law_way","_law_k","_law_at","_law_more"],237,236,m3,co "_law_book" 484 146 3 231 232 (.ref 233) (.ref 234) (.ref 235) 495 496 181⟩,
 ⟨jn,32,["_law_book_here","_law_known","_law_fell","_law_word","_law_told"],242,241,m3,co "_law_learnt" 498 158 1 238 239 .none .none (.ref 240) 501 502 181⟩,
 ⟨oq,33,["_law_book_here","_law_met","_law_word","_law_told","_law_one"],249,248,m3,co "_law_all" 504 168 1 243 244 (.ref 245) (.ref 246) (.ref 247) 512 513 181⟩,
 ⟨mw,34,["_law_e","_law_some_here"],256,255,m3,co "_law_kind" 515 175 1 250 251 (.ref 252) (.ref 253) (.ref 254) 520 521 181⟩,
 ⟨mz,35,["_law_query","_law_known","_law_share","_law_pool","_law_some_here","_law_k","_law_word"],263,262,m3,co "_law_some" 523 181 3 257 258 (.ref 259) (.ref 260) (.ref 261) 533 534 181⟩,
 ⟨gp,36,["_law_book_here","_law_words_here","_law_heads"],268,267,m3,co "_law_pictured" 536 189 2 264 265 .none .none (.ref 266) 539 540 181⟩,
 ⟨gV,37,["_law_book_here","_law_words_here"],275,274,m3,co "_law_suffice" 542 192 2 269 270 (.ref 271) (.ref 272) (.ref 273) 547 548 181⟩,
 ⟨jY,38,["_law_book_here","_law_words_here","_law_found","_law_caught","_law_e"],282,281,m3,co "_law_asked" 550 194 2 276 277 (.ref 278) (.ref 279) (.ref 280) 558 559 181⟩,
 ⟨jZ,39,["_law_book_here","_law_some_here","_law_found","_law_word"],287,286,m3,co "_law_right" 561 202 3 283 284 .none .none (.ref 285) 564 565 181⟩,
 ⟨gW,40,["_law_source_here","_law_book_here","_law_share","_law_heads","_law_pool","_law_more","_law_k","_law_word"],292,291,m3,co "_law_widened" 567 211 2 288 289 .none .none (.ref 290) 570 571 181⟩,
 ml]
abbrev gg(P:Va):Obj:=⟨.type "dict",b8,.dict #[ge P "__name__" 165 (.str "law_primer_k42_spared" 434),ge P "__doc__" 166 .none,ge P "__package__" 167 .none,ge P "__loader__" 168 (.builtin "__main__.__loader__#opaque"),ge P "__spec__" 169 .none,ge P "__annotations__" 170 (.ref 6),ge P "__builtins__" 171 (.ref 4),ge P "__file__" 173 (.str "/claim/cut.py" 172),ge P "__cached__" 174 .none,ge P "PrimerError" 206 (.ref 24),ge P "NoText" 222 (.ref 37),ge P "Unfit" 238 (.ref 49),ge P "Unknown" 254 (.ref 61),ge P "Unlearnt" 270 (.ref 73),ge P "TooMany" 286 (.ref 85),ge P "Lacking" 302 (.ref 97),ge P "NoRow" 318 (.ref 109),ge P "NoDeed" 334 (.ref 121),ge P "words_of" 345 (.ref 130),ge P "gathered" 355 (.ref 137),ge P "refuse_unknown" 363 (.ref 144),ge P "places_that_tell" 371 (.ref 149),ge P "new_steps" 383 (.ref 156),ge P "steps_in_rounds" 389 (.ref 161),ge P "order" 398 (.ref 168),ge P "learnt" 404 (.ref 173),ge P "not_learnt" 411 (.ref 180),ge P "with_pictures" 419 (.ref 185),ge P "suffice" 427 (.ref 192),ge P "spared" 433 (.ref 197),ge P "_law_source" 444 (.ref 204),ge P "_law_draw" 455 (.ref 211),ge P "_law_words" 461 (.ref 216),ge P "_law_row" 474 (.ref 223),ge P "_law_lay" 483 (.ref 230),ge P "_law_book" 497 (.ref 237),ge P "_law_learnt" 503 (.ref 242),ge P "_law_all" 514 (.ref 249),ge P "_law_kind" 522 (.ref 256),ge P "_law_some" 535 (.ref 263),ge P "_law_pictured" 541 (.ref 268),ge P "_law_suffice" 549 (.ref 275),ge P "_law_asked" 560 (.ref 282),ge P "_law_right" 566 (.ref 287),ge P "_law_widened" 572 (.ref 292),ge P "law" 578 (.ref 297)] 46,#[]⟩
abbrev xk(a:d7)(n:Str)(b r:d7)(t u:Tok):Obj:={cls:=.type "type",data:=.cls {name:=n,bases:=[.ref b],mro:=[.ref a,.ref b,.type "ValueError",.type "Exception",.type "BaseException",.type "object"],ns:=a - 1,qualname:=n},slots:=#[a5 (.ref r),b8,a5 (.str n t),a5 (.str n u),a5 (.builtin "ValueError.__new__"),a5 (.bool bD)]}
abbrev xd(P:Va)(m f:Tok)(l:Int)(n s:Tok)(a:d7)(d:Tok):Obj:={cls:=.type "dict",data:=.dict #[ge P "__module__" m (.str "primer.errors" 187),ge P "__firstlineno__" f (.int l n),ge P "__static_attributes__" s (.ref a),ge P "__doc__" d .none] 2}
abbrev xo(P:Va):List (d7×Obj):=[(97,xk 97 "Lacking" 24 88 287 295),
 (121,xk 121 "NoDeed" 24 112 319 327),
 (109,xk 109 "NoRow" 24 100 303 311),
 (37,xk 37 "NoText" 24 28 207 215),
 (24,({cls:=.type "type",data:=.cls {name:="PrimerError",bases:=[.type "ValueError"],mro:=[.ref 24,.type "ValueError",.type "Exception",.type "BaseException",.type "object"],ns:=23,qualname:="PrimerError",subclasses:=[.ref 37,.ref 49,.ref 61,.ref 73,.ref 85,.ref 97,.ref 109,.ref 121]},slots:=#[a5 (.ref 15),b8,a5 (.str "PrimerError" 189),a5 (.str "PrimerError" 197),a5 (.builtin "ValueError.__new__"),a5 (.bool bD)]}:Obj)),
 (85,xk 85 "TooMany" 24 76 271 279),
 (49,xk 49 "Unfit" 24 40 223 231),
 (61,xk 61 "Unknown" 24 52 239 247),
 (73,xk 73 "Unlearnt" 24 64 255 263),
 (96,xd P 294 298 14 297 299 95 300),
 (120,xd P 326 330 18 329 331 119 332),
 (108,xd P 310 314 16 313 315 107 316),
 (36,xd P 214 218 4 217 219 35 220),
 (23,({cls:=.type "dict",data:=.dict #[{hash:=P0 P "__module__",key:=.str "__module__" 196,val:=.str "primer.errors" 187},{hash:=P0 P "__firstlineno__",key:=.str "__firstlineno__" 200,val:=.int 2 199},{hash:=P0 P "__static_attributes__",key:=.str "__static_attributes__" 201,val:=.ref 22},{hash:=P0 P "__weakref__",key:=.str "__weakref__" 203,val:=.ref 25},{hash:=P0 P "__doc__",key:=.str "__doc__" 204,val:=.none}] 3}:Obj)),
 (84,xd P 278 282 12 281 283 83 284),
 (48,xd P 230 234 6 233 235 47 236),
 (60,xd P 246 250 8 249 251 59 252),
 (72,xd P 262 266 10 265 267 71 268)]
abbrev gx(P:Va):Gx:=(gg P,xo P)
abbrev xa:List d7:=[97,121,109,37,24,85,49,61,73,96,120,108,36,23,84,48,60,72]
abbrev vw:uv:=view PySem.Challenge.pw_primer_k42_spared [11,12,13,15,16,17,18,19,20,22,23,24,26,27,28,29,30,31,32,33,34,35,36,37,38,39,40,41]
abbrev hk:Hook:=kHook (λP=>Li top (gx P) ms) (adr ms xa) λP=>uY top (gx P) ms xa rfl
abbrev lo:List Str:=["PrimerError","NoText","Unfit","Unknown","Unlearnt","TooMany","Lacking","NoRow","NoDeed"]
noncomputable abbrev xt(s:d5):Bool:=xlAt vw [] s&&recOk (RowW.records PySem.Challenge.rw_primer_k42_spared.row.toRowW) s
noncomputable abbrev oe(w:wq):Option d5:=openEnds treeTable PySem.Challenge.rw_primer_k42_spared.row.prog w 4000
noncomputable abbrev os(s:d5):=openSeen vw lo (importedModules PySem.Challenge.rw_primer_k42_spared.row.prog.main.body) xt bD s
def L_(w:wq):(oe w).map (λs=>(os s).1)=a5 (openGood vw lo).1:=by kernel_rfl
def MM(w:wq):(oe w).map (λs=>(os s).2)=a5 (openGood vw lo).2:=by kernel_rfl
def PB(w:wq):(oe w).map hk.obs=a5 (hk.val w):=by kernel_rfl
def hl:LeftO PySem.Challenge.rw_primer_k42_spared.row.prog vw lo xt hk.obs hk.val 4000:=λw=>by
 have⟨s,e,a⟩:=ez.mp (L_ w);have b:=MM w;have c:=PB w;rw[e]at b c;change(oe w).map _=_;rw[e];show ņ a5 (ë (ë a (sL b)) (sL c))
def hs:PySem.Challenge.rw_primer_k42_spared.wellSaid=bD:=by kernel_rfl
def ho(P:Va):Oa ck top (Li top (gx P) ms) ms=bD:=by kernel_rfl
def ZI(P:Va):(gX ck (Li top (gx P) ms)&&gY ck (Li top (gx P) ms))=bD:=by kernel_rfl
end K
open PySem PySem.W PyProof.Rows K
theorem PySem.Challenge.cw_primer_k42_spared_holds : PySem.Challenge.rw_primer_k42_spared.Holds := by
 w_on
 refine holds_law hs λz => ?_;refine holds_open hl hk.of hk.keeps (λs e => xl_of s (t5.mp e).1) XL.keeps rfl rfl rfl (λs e => recFacts_of (t5.mp e).2) rfl z (by kernel_rfl) ⟨rfl, rfl, rfl, rfl, rfl, by decide +kernel⟩ ?hw ?a
 (case hw => w_witness2)
 exact TM.walk2 (l := PySem.Challenge.rw_primer_k42_spared) (Pg := prog) (ck := ck) (dp := 9) (x := "_law_script") (m := ml) rfl rfl ⟨rfl, by decide, by decide, rfl⟩ rfl (by decide +kernel) (by decide +kernel) rfl (SX.mpr ⟨27, rfl⟩) rfl rfl ho ZI (λ_ => rfl) K.pure
