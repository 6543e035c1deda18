import PyProof.Rows.All
import Wide.All
import OpenK.AllK
import Wide.FinOn
import Lean
import PyProof.EqAt
import PyProof.EqKinds
import PyProof.TupleCall
import PyProof.StrLawsChain
import PyProof.StrLawsFirst
import PyProof.Rows.StrNews2
import OpenK.AllK
import PySem.SetOps
import PyProof.DictItems
import OpenK.AllK
import PyProof.StationsW
import PyProof.ExcBaseAll.ValueError
import PyProof.RulesAs
import PyProof.NsDelKeeps
import OpenK.AllK
import PyProof.ExcArgsOwn
import PyProof.ExcAttrAll.ValueError
import PyProof.IsiBase
import PyProof.ReprBulk
import PySem.Challenge.RW_primer_k46_fewest_refused
set_option Elab.async false
set_option linter.all false
set_option bootstrap.genMatcherCode false
set_option maxRecDepth 100000
set_option maxHeartbeats 4000000
set_option genInjectivity false
set_option genSizeOf false
set_option autoImplicit true
set_option relaxedAutoImplicit true
open Option renaming some->a5,none->b8,map_eq_some_iff->eH,bind_eq_some_iff->sx,isNone_iff_eq_none->RC,isSome_iff_exists->RV,map_eq_none_iff->Sk,map_some->Su,isSome_map->UG,getD_none->ZK
open PySem renaming wpAny_bind->bD,sizeLine->cL,wpAny_pure->df,Value->dV,wpAny->d3,Shared->d5,Addr->d8,model->et,starEach->hW,mainGlobals->js,wpAny_setState_of->lg,Expr->l0,wpAny_mono->my,wpAny_Call_Name_kw->sL,wpAny_holding->tA,bootBuiltins->t7,rawInt->uv,Program->u3,eval->u7,wpAny_newObj_type->va,World->ve,scanBound->x3,backTo->C1,isSubtype_type->Jg,Heap->Jv,wpAny_call_entry->J1,codeAny_builtin->Kw,cLine->K2,wpAny_truthy_bool->LC,keywordEach->LD,foldedSetIterable->LF,Scope->LG,Stmt->LS,holding->Mj,wpAny_setField->MP,Around->M4,sysModules->Nm,Builtin->Nn,wpAny_passesOwn->NV,call->NW,isSubtype->N1,compareOp->N3,builtinLookup_eq_fast->N_,Keyword->Oc,wpAny_rule->OK,binaryOp->OL,SetTable->OM,NameKind->OO,wpAny_isInstance->OQ,swapsWith->OT,wpAny_pyIter_tuple->P7,tupleKind_room_in1->P8,assignEach->P',wpAny_getItem_str_slice->Qe,wpAny_callSpecial?_slot->Qg,wpAny_loadPart_at->Qm,codeAny->Qs,backToKw->Qt,wpAny_askSetting->QR,typeLookup->QS,swapsWithSole->Q5,behindInMarks->Q6,sliceBounds->Rf,wpAny_updateSeq->RM,wpAny_execs_nil->RN,typeLookup_type->RO,wpAny_setEntries_of->RT,codeAny_mono->RW,call_meets->R',assign->Sh,FuncData->Sj,plainId_quiet->Sz,attributeBase->SA,wpAny_Call_method0_late->S6,setItem->Tt,relabel->Tv,pyNext->Tx,notedBy->TC,callerA->TF,wpAny_specialOf->T6,wpAny_loadPart'->Ua,post_val_or_str->Uc,letOwnedTupleGo->Ud,call_isinstance->Ug,wpAny_seqItems->UH,wpAny_field->UI,firstArgMember->UN,codeAny_call_builtin->UY,Params->U0,tupleKind->U',swappedStores->Vq,wpAny_typeOf->VR,wpAny_storeSet_of->V1,wpAny_setEpoch_of->V2,wpAny_pyIter_list->V3,wpAny_pyIter_enum->V_,valueAt->Wh,sub_set_self->Wi,setNext->Wl,setField->Wm,release->Wo,getItem->Wr,fits_of_scanBound->Ws,concat_meets->Wu,compEnvC->Wv,call_meetsIn->Ww,seqIndex?->W9,pickOrder->Xg,noFill_tuple_add->Xh,checkBuiltinCall->Xo,PassesOwn->Xp,wpAny_of_eq->Xz,unsupported->XH,subscripted->XI,standAt->X',wpAny_runValue->YI,typeIs_str->YP,relayAll->YR,raiseNew->YS,pyIter->YX,entryFor_alias->YZ,atKey->Y1,GenState->Y2,wpAny_standAt->Zj,wpAny_newList->Zk,wpAny_comprehension_free->Zl,seq_tuple_add->Zm,seqItems?->ZC,bindL->ZE,bindC->ZF,wpAny_Call_method_late->ZW,typeOf->ZX,setNextDrawn->ZZ,newExc->Z0,collect->Z2,IsEnum->Z8,BindsTo->Z',wpAny_isTrue_Compare1->Ç,wpAny_loadName_local->Ï,step->Ð,seqIndex_of->Ñ,entryFor->Ò,codeAny_extend_loopS->Ó,Operator->Ô,wpAny_loadName_cell->à,wpAny_load->é,wpAny_call->ê,wpAny_Name->ë,setsByText->ì,builtinsNs->í,WalksS->î,JoinOk->ð,wpAny_pyIter_slot->ù,wpAny_assign_Name->ú,wpAny_Assign_Name->û,spliced->ü,slot_list_getitem->ý,newList->þ,ItemsOf->ą,wpAny_setScan_of->Č,wpAny_execs_cons->č,wpAny_eqBool_str->Ď,wpAny_eqBool_int->ď,updateSeq->Đ,storeName->đ,setDiscardHashed->Ē,rule->ē,meets_dict_items->Ĕ,cellsFrom->ĕ,codeAny_of_tree->Ġ,wpAny_Expr_any->ħ,truthy->Ĩ,recursionLimit->ĩ,newTuple->Ī,isSubtype_stop->ī,field->Ĭ,bindArgs->ĭ,augStore->Į,argsOk->į,again->İ
open Bool renaming true->b6,and_eq_true->cb,false->cc,false_ne_true->i3,not_eq_true'->tr,and_eq_true_iff->x2,eq_iff_iff->H8,false_eq_true->K1,or_eq_true->K',and_false->Ts,or_false->X4,false_and->è,not_true->õ,and_true->ö,and_self->ø
open Decidable renaming decide->cK
open PySem.Heap renaming get?_push_of_some->c2,lt_size->eh,get?_push_size->ez,SameBut->nC,get?_update_self->t4,get?_update_other->Mk,get?_update_ne->OH,size_push->WK,ExtBut->ė
open List renaming length_map->c4,getElem?_eq_some_iff->dt,getElem?_set_self->d4,mem_cons->d6,map_cons->d7,size_toArray->fx,getElem?_set_ne->gc,range->gs,mem_singleton->hQ,length_append->hY,mem_append->i1,replicate->i2,map_map->i4,mem_map->i6,nil_append->i7,getElem?_map->i8,all_eq_true->i9,length_cons->ke,map_append->ki,mem_append_right->kj,mem_cons_of_mem->kr,nodup_cons->mh,getElem?_eq_getElem->mx,mem_cons_self->mA,mem_of_getElem?->mN,length_filter_le->nc,getElem?_append_right->qk,mem_filter->ro,nodup_append->rz,append_nil->r6,map_congr_left->td,lookup_cons->tj,getElem?_append_left->uc,mem_range->u5,mem_append_left->u6,length_take->vu,length->wh,isEmpty_iff->wk,filter_cons->w6,length_range->C0,filterMap_cons->DD,length_singleton->Jk,getElem?_replicate->J7,map_nil->Kp,not_mem_nil->KA,getElem?_drop->KX,getElem_mem->LL,ext_getElem->LR,take_of_length_le->Mo,filter_eq_nil_iff->ML,filter_append->MO,find?_cons->M_,perm_ext_iff_of_nodup->N8,getD->Oz,filter_sublist->OI,filter_eq_self->OJ,zip_cons_cons->Pw,mem_filterMap->Px,filter_cons_of_pos->PJ,filter_cons_of_neg->PK,length_replicate->Qj,getElem?_eq_none->Qk,any_eq_true->Ql,of_mem_zip->QO,filter_nil->QP,getElem_of_mem->QX,pairwise_cons->RL,reverse_cons->RZ,filter_congr->R0,append_assoc->R6,map->Sl,length_eq_zero_iff->Sm,getElem?_cons_succ->Sq,eraseIdx_cons_succ->Sr,foldl_cons->SD,mem_iff_getElem?->SW,nodup_nil->Ti,getElem?_zipIdx->Tq,length_reverse->Ul,any_cons->Uy,findIdx?_eq_some_iff_getElem->U1,flatten_cons->Vl,eraseIdxIfInBounds_toArray->Vp,getElem_map->Vz,map_id->VA,length_zip->VG,length_nil->VH,forIn_cons->VI,drop_left'->VL,dropLast_concat_getLast->VO,getD_eq_getElem?_getD->W8,findIdx?_eq_none_iff->Xr,drop_eq_getElem_cons->Xs,length_erase_of_mem->XM,getElem?_take_of_lt->XO,findIdx?->XT,length_pos_of_mem->YD,length_eq_one_iff->YH,dropLast_eq_take->Y6,mem_iff_getElem->Zg,mem_erase_of_ne->Zh,length_eraseIdx->Zi,mem_map_of_mem->Zp,flatten_append->Zq,map_singleton->ZQ,filter_filter->ZU,take_sublist->Å,ext_getElem?->Æ,mem_toArray->É,map_fst_zip->Ê,length_drop->Ë,getElem_inj->Ì,drop_length->Í,cons_append->Î,zipIdx_map->Ý,range_succ->Þ,length_set->ß,forIn_nil->ç,all_cons->ô,set_set->Ĉ,all_map->ĉ,range'->ĝ
open Array renaming length_toList->gj,getElem?_toList->ri,getElem?_eq_getElem->OE,size_map->Rt,getD->Uz,forIn_toList->UA,size_append->U6,toList->X8,toList_extract->Y7,toArray_toList->Y8,append_assoc->Zv,toList_push->ZV
open Nat renaming ne_of_lt->hH,le_refl->hU,lt_of_lt_of_le->i0,zero_le->i5,le_trans->t6,lt_irrefl->t8,ne_of_gt->JC,le_succ->Lo,lt_succ_self->OG,zero_add->Qa,le_of_lt->Qc,lt_succ_of_lt->R_,lt_trans->Vo,mod_lt->Xq,add_sub_cancel_left->Yk,succ_pos->Y4,le_of_eq->Y5,pow_le_pow_right->Zo,lt_of_le_of_lt->Ä,not_lt_of_lt->Û,le_of_not_lt->Ü,pow_succ->Ě,lt_or_ge->ě,add_zero->Ĝ
open PySem.Value renaming ref->ko,none->oT,type->rr,str->t5,bool->N0,builtin->RX,isStrOf->Uh,isStrOf_shape->Y9,int->Z5,isInt->Ă
open Sum renaming inr->mu,inl->Vm
open Ne renaming symm->nH
open PySem.Obj renaming mapSeq->qs,data_mapFields->MY,putSet->Py,isFreed_of_fields->S_,cls_mapFields->Vn,mapFields->ă
open PySem.Builtin.List renaming listExtendWith->ti,listTooLong->KN,listSameRef->Nr,listLengthHint->Ux,listItems->Vr,listUpdate->Ģ
open Option.some renaming inj->ts,injEq->QM
open PySem.Str renaming empty->tv,ofString->Rh,length->Ĵ
open PySem.SetTable.layClean renaming free->uk
open Int renaming eq_ofNat_of_zero_le->u4,toNat_natCast->NQ,emod_nonneg->Q2,emod_lt_of_pos->RP,le_trans->ğ
open PySem.Heap.SameBut renaming update->vl,refl->Jt
open PyProof.Rows renaming seqObj->vr,size_push'->K5,callWith_type1->LX,callWith_builtin1->Pt,StrsAre->Qw,AllBare->Sv,envOfC->TZ,subscriptTail->Vt,listUpdate_at->Vu,subscriptTail_builtinR->À,listItems_at->Á,IntsAre->Ã,seqEpoch_at->Ú,sortedHeap->ò,Subscript_->ó,slot_str_getitem->ę,get?_update_seq->ģ,entry_list_sort->Ĥ,call_isinstance_yes->ĥ,sortedHeap_old->Ķ,slot_list_sort->ķ,isTrue_and_nil->ĸ,args_list_sort->Ĺ,IsTup->ĺ
open PySem.Calls renaming callWith_builtin->zy,evalArgs_plain->K4,spliced_cons->Ma,spliced_nil->PU,Name_function_global->Wy,call_function_entry->WN
open PySem.Builtin.Frozenset renaming isAnySet->JB,difference->OY,sizeOf->Qi,differenceUpdate->RY,unchanged->SE,copyOf->TV,baseOf->TX,addrOf->TY,slot1->Uk,updateFrom->Ö,slot0->Ø,newClass->Ù
open PySem.Builtin.SmallTypes renaming nextOf->J5
open PySem.SetTable renaming sizeAbove->Kb,below->Ls,grown->Nk,bits->N',eraseAt->P0,turns->QJ,layClean->Rm,fits->RA,laid->S9,runEnd->Vd,relaid->Vh,fill->VB,orStandIn->Yj,fresh->ZG,leap->Z6,drop->Z7
open List.Perm renaming refl->Lq,swap->Zs,cons->Zu
open PySem.NameKind renaming free->L0
open False renaming elim->Mg
open PyProof.Rows.F renaming plain_set_update_loop->M7,entry_set_update_loop->R9
open PySem.Around renaming under_plainId->Nz
open Classical renaming byContradiction->NU,propDecidable->VQ
open PySem.W renaming kas_sort->NZ,looks_findIn->Z3,kas_ask->ÿ,Looks->ā,subIn->ı,findIn->Ĳ
open PySem.AutoSeq1 renaming wpAny_loadPart'->Ou,sub_tuple_tuple->VF,sub_tuple_list->Wz,sub_list_tuple->WG,sub_list_list->W2,idx_int->Y'
open List.cons renaming injEq->OA
open ForInStep renaming yield->OB
open PySem.PyData renaming keyHash->PL
open LT renaming lt->QI
open PySem.Shared renaming TypeIs->RU
open PySem.SeqAt renaming EqAt->Ss,ne_of_list_tuple->X5,RcAt->Zn,RcNeAt->ï
open ToString renaming toString->S3
open PySem.Data renaming fields->Tg,cell->X6
open PySem.Txt renaming join->TH
open PySem.F renaming typeOf_object_class->TJ,slot_gs_get->Y3,excBase_ValueError->Z9,args_list_extend_2->Z_,entry_list_extend->È,slot_list_extend->Õ,attr_ValueError->â,entry_list_pop->ñ,slot_list_pop->ć
open PySem.Code renaming quiet_builtin->UE
open Sum.inr renaming inj->U9
open PySem.pickOrder renaming go->Wq
open PySem.SetTable.below renaming go->Wx
open Prod.mk renaming injEq->WH
open True renaming intro->WI
open PySem.SeqAt.EqAt renaming bool_bool->WJ
open List.Nodup renaming sublist->X3
open PyProof.Rows.IsTup renaming new->Â
open PySem.ItemsOf renaming nil->á
open PyProof.Rows.LSm renaming range_all->ã,kept_iter->ä
open Prod renaming fst->å,ext->æ
open PySem.W.WShape renaming has->Ā
open PySem.Moved renaming trans->Ą
open PySem.Heap.IsSliceOf renaming new->Ć
open LE renaming le->Ċ
open ForIn renaming forIn->ċ
open PySem.Walks renaming list->Ė
open PySem.Builtin.Range renaming rangeSize->Ę
open List.Pairwise renaming nil->Ğ
open PySem.W.WData renaming int->ġ
open List.Sublist renaming refl->Ħ
open PySem.W.Looks renaming ld->ĳ
open PySem.Heap.DictOf renaming new->ĵ
abbrev Ļ:=@decide_eq_true_eq
abbrev ļ:=@if_pos
abbrev Ľ:=@if_neg
abbrev ľ:=@decide_eq_false
abbrev Ŀ:=@decide_eq_true
abbrev ŀ:=@of_decide_eq_true
abbrev Ł:=@congrArg
abbrev ł:=@beq_eq_false_iff_ne
local macro_rules|`(def $a:declId $b* : $t :=$v)=>`(theorem $a:declId $b* : $t :=$v)
local macro_rules|`(abbrev $a:declId $b:optDeclSig $c:declVal)=>`(noncomputable def $a:declId $b:optDeclSig $c:declVal)
local macro_rules|`(tactic|show $t)=>`(tactic|refine $t)
local macro_rules|`(tactic|have⟨$a,*⟩:=$t)=>do let p<-a.getElems.mapM fun x=>`(Lean.Parser.Tactic.rcasesPatLo|$(⟨x⟩):ident);`(tactic|obtain⟨$p,*⟩:=$t)
local macro_rules|`(⋯)=>`(by lia)
local macro_rules|`(∅)=>`(by(first|exact trivial|exact⟨⟨_,rfl,rfl⟩,trivial⟩|exact⟨⟨_,rfl,rfl⟩,⟨_,rfl,rfl⟩,trivial⟩))
namespace L2
open PySem PySem.Spec PyProof.Rows
@[reducible]def Key:=Sum Int Str
abbrev jD:Key->dV->Bool
 |.inl k,v=>Ă k v
 |.inr x,v=>Uh x v
abbrev HG(w:ve):Key->Int
 |.inl k=>hashInt k
 |.inr x=>hashStr w x
theorem bo:∀{k:Key}{v:dV},jD k v=b6->(∃i t,k=Vm i/\v=Z5 i t)\/(∃x t,k=mu x/\v=t5 x t)
 |.inl i,v,h=>by
  have⟨t,e⟩:=Value.isInt_shape (k:=i) (v:=v) h;show .inl ⟨i,t,rfl,e⟩
 |.inr x,v,h=>by
  have⟨t,e⟩:=Y9 (x:=x) (v:=v) h;show .inr ⟨x,t,rfl,e⟩
def vI(i:Int)(t:Tok):jD (.inl i) (.int i t)=b6:=by simp[jD,Ă]
def vJ(x:Str)(t:Tok):jD (.inr x) (.str x t)=b6:=by simp[jD,Uh]
def Di(a b:Int):cK ((Vm a:Key)=Vm b)=(a==b):=by
 by_cases e:a=b
 .subst e;simp
 .have h:¬(Vm a:Key)=Vm b:=λq=>e (Sum.inl.inj q);rw[ľ h];show(ł.mpr e).symm
def Dj(a b:Str):cK ((mu a:Key)=mu b)=cK (a=b):=by
 by_cases e:a=b
 .subst e;simp
 .have h:¬(mu a:Key)=mu b:=λq=>e (U9 q);rw[ľ h,ľ e]
def Dk(a:Int)(b:Str):cK ((Vm a:Key)=mu b)=cc:=ľ (λq=>nomatch q)
def Dl(a:Str)(b:Int):cK ((mu a:Key)=Vm b)=cc:=ľ (λq=>nomatch q)
abbrev aR(prog:u3)(w:ve):PySem.KeyKind prog w Key where
 is:=jD
 hash:=HG w
 inj:=λv a b g f=>by
  rcases bo g with⟨i,t,rfl,rfl⟩|⟨x,t,rfl,rfl⟩
  .rcases bo f with⟨j,u,rfl,e⟩|⟨y,u,rfl,e⟩
   .injection e with c _;rw[c]
   .show nomatch e
  .rcases bo f with⟨j,u,rfl,e⟩|⟨y,u,rfl,e⟩
   .show nomatch e
   .injection e with c _;rw[c]
 byValue:=λk v h=>by
  rcases bo h with⟨i,t,rfl,rfl⟩|⟨x,t,rfl,rfl⟩<;>rfl
 pyHash:=λd h=>by
  rcases bo d with⟨i,t,rfl,rfl⟩|⟨x,t,rfl,rfl⟩
  .show wpAny_pyHash_int h
  .show wpAny_pyHash_str h
 eqBool:=λl d h=>by
  rcases bo l with⟨i,t,rfl,rfl⟩|⟨x,t,rfl,rfl⟩
  .rcases bo d with⟨j,u,rfl,rfl⟩|⟨y,u,rfl,rfl⟩
   .rw[Di]at h;show ď h
   .rw[Dk]at h;show SeqAt.EqAt.int_str i t y u _ _ _ _ h
  .rcases bo d with⟨j,u,rfl,rfl⟩|⟨y,u,rfl,rfl⟩
   .rw[Dl]at h;show SeqAt.EqAt.str_int x t j u _ _ _ _ h
   .rw[Dj]at h;show Ď h
 «strs»:=λk x t v h=>by
  rcases bo h with⟨i,u,rfl,e⟩|⟨y,u,rfl,e⟩
  .show nomatch e
  .injection e with c _
   subst c;cases v<;>rfl
def pO(prog:u3)(w:ve)(i:Int)(t:Tok):(aR prog w).is (.inl i) (.int i t)=b6:=vI i t
def pP(prog:u3)(w:ve)(x:Str)(t:Tok):(aR prog w).is (.inr x) (.str x t)=b6:=vJ x t
inductive V where
 |IV|bl (b:Bool)|int (i:Int)|str (x:Str)|QT (b:Array UInt8)|QU (b:UInt64)|ref (a:d8)|ty (n:String)
 deriving DecidableEq
def RelV:V->dV->Prop
 |.IV,u=>u=oT
 |.bl b,u=>u=N0 b
 |.int i,u=>∃t,u=Z5 i t
 |.str x,u=>∃t,u=t5 x t
 |.QT b,u=>∃t,u=Value.bytes b t
 |.QU b,u=>∃t,u=Value.float b t
 |.ref a,u=>u=ko a
 |.ty n,u=>u=rr n
@[reducible]def Vals:List V->List dV->Prop:=Paired RelV
def Vals.length(r:Vals xs us):xs.length=us.length:=Paired.length r
theorem Vals.get:∀{xs:List V}{us:List dV}{i:Nat}{x:V},Vals xs us->xs[i]?=a5 x->∃u,us[i]?=a5 u/\RelV x u
 |_,_,_,_,.nil,e=>by simp at e
 |_,_,0,_,.cons r _,e=>by simp at e;subst e;show⟨_,rfl,r⟩
 |_,_,i+1,x,.cons _ t,e=>by
  have⟨u,a,b⟩:=Vals.get (i:=i) (x:=x) t (by simpa using e);show⟨u,by simpa using a,b⟩
theorem Vals.set(r:RelV x u):∀{xs:List V}{us:List dV} (i:Nat),Vals xs us->Vals (xs.set i x) (us.set i u)
 |_,_,_,.nil=>.nil
 |_,_,0,.cons _ t=>.cons r t
 |_,_,i+1,.cons q t=>.cons q (Vals.set r i t)
theorem Vals.append:∀{xs a:List V}{us ws:List dV},Vals xs us->Vals a ws->Vals (xs++a) (us++ws)
 |_,_,_,_,.nil,s=>s
 |_,_,_,_,.cons r t,s=>.cons r (Vals.append t s)
theorem Vals.take:∀{xs:List V}{us:List dV} (n:Nat),Vals xs us->Vals (xs.take n) (us.take n)
 |_,_,0,_=>.nil
 |_,_,_+1,.nil=>.nil
 |_,_,n+1,.cons r t=>.cons r (Vals.take n t)
theorem Vals.drop:∀{xs:List V}{us:List dV} (n:Nat),Vals xs us->Vals (xs.drop n) (us.drop n)
 |_,_,0,r=>r
 |_,_,_+1,.nil=>.nil
 |_,_,n+1,.cons _ t=>Vals.drop n t
def jV:Option V->Option dV->Prop
 |some v,a5 u=>RelV v u
 |none,b8=>True
 |_,_=>False
abbrev KV{κ:Type}:List (κ×V)->List (κ×dV)->Prop:=Paired λ(p:κ×V) (q:κ×dV)=>p.1=q.1/\RelV p.2 q.2
abbrev kV:Key->V
 |.inl i=>.int i
 |.inr x=>.str x
inductive HO where
 |lst (xs:List V)
 |tup (xs:List V)
 |dK (kvs:List (Key×V))|dT (kvs:List (List Key×V))
 |set (S:Int->Bool) (n:Nat)
 |ins (C dx:d8) (fs:List (Str×V))
 |own (x:d8)
 |xd (fs:List (Str×V))
 |met (f x:d8)
 |QV (lo hi:Int)
 |JX (o:Obj) (u:HO)
 |Nl (ps:Array dV)
 |ext (φ:Jv->Prop)
@[reducible]def Hp:=d8->Option HO
abbrev upd(H:Hp)(a:d8)(o:HO):Hp:=λb=>if b=a then a5 o else H b
def ax:upd H a o a=a5 o:=by unfold upd;rw[ļ rfl]
def ak(h:b≠a):upd H a o b=H b:=by unfold upd;rw[Ľ h]
def Fx{H:Hp}(h:H a=a5 o)(h':H b=a5 u)(d:o≠u):a≠b:=by
 intro e;subst e;rw[h]at h';show d (ts h')
def bt{H:Hp}(h:H a=a5 o)(h':H b=b8):a≠b:=by
 intro e;subst e;rw[h]at h';cases h'
section
variable(P:u3)(w:ve)
def bF(H:Hp)(h:Jv)(a:d8):HO->Prop
 |.lst xs=>xs.length<=cL/\∃(c:List dV) (n:Nat),Vals xs c/\h.get? a=a5 {cls:=.type "list",data:=.seq c.toArray n}
 |.tup xs=>xs.length<=cL/\∃c:List dV,Vals xs c/\ĺ h a c.toArray
 |.dK kvs=>kvs.length<=cL/\(a==Nm)=cc/\∃vs,KV kvs vs/\h.DictOf (aR P w) a vs
 |.dT kvs=>kvs.length<=cL/\(a==Nm)=cc/\∃xs:List (List Key×d8×dV),
   Paired (λ(p:List Key×V) (q:List Key×d8×dV)=>p.1=q.1/\H q.2.1=a5 (.tup (p.1.map kV))/\RelV p.2 q.2.2) kvs xs /\
   ∃o es ep,h.get? a=a5 o/\o.ExactDict/\o.data=.dict es ep/\es.toList=xs.map (entryOfKey (U' (aR P w)))/\(xs.map (·.1)).Nodup
 |.set S n=>h.SetOf (intKind P w) a S n
 |.ins C e d=>H e=a5 (.own a)/\d.length<=1000/\e≠a/\h.get? a=a5 (PySem.W.instObj C e) /\
   ∃b,h.Ns1 e b/\(∀f,jV (d.lookup f) (b f))/\PySem.Within b (d.map (·.1))
 |.own _=>∃o,h.get? a=a5 o
 |.xd d=>∃b,h.Ns1 a b/\∀f,jV (d.lookup f) (b f)
 |.QV lo j=>∃t u v,h.get? a=a5 {cls:=.type "range",data:=.fields #[.int lo t,.int j u,.int 1 v]}
 |.JX o u=>h.get? a=a5 o/\bF H h a u
 |.Nl ps=>h.get? a=a5 {cls:=.none,data:=.fields ps}
 |.met f x=>h.get? a=a5 (PySem.W.methodObj (.ref f) (.ref x))
 |.ext φ=>φ h/\(∃o,h.get? a=a5 o)/\∀g i:Jv,φ g->(∀o,g.get? a=a5 o->i.get? a=a5 o)->φ i
abbrev J2(H:Hp)(h:Jv):Prop:=∀a o,H a=a5 o->bF P w H h a o
end
section
def bF.lt(x:bF P w H h a o):a<h.objs.size:=by
 cases o with
 |lst xs=>obtain⟨_,_,_,_,e⟩:=x;show eh e
 |tup xs=>obtain⟨_,_,_,p⟩:=x;show p.lt
 |set S n=>obtain⟨o,_,_,_,e,_⟩:=x;show eh e
 |ins C c b=>obtain⟨_,_,_,e,_⟩:=x;show eh e
 |own y=>obtain⟨_,e⟩:=x;show eh e
 |xd b=>obtain⟨_,⟨_,_,_,e,_⟩,_⟩:=x;show eh e
 |QV lo d=>obtain⟨_,_,_,e⟩:=x;show eh e
 |JX g u=>obtain⟨e,_⟩:=x;show eh e
 |Nl ps=>show eh (show h.get? a=a5 _ from x)
 |met f y=>show eh (show h.get? a=a5 _ from x)
 |ext φ=>obtain⟨_,⟨_,e⟩,_⟩:=x;show eh e
 |_=>obtain⟨_,_,_,_,o,_,_,e,_⟩:=x;show eh e
theorem Paired.Dm:∀{c:List α}{d:List β},Paired F c d->(∀a b,F a b->G a b)->Paired G c d
 |_,_,.nil,_=>.nil
 |_,_,.cons r t,f=>.cons (f _ _ r) (Paired.Dm t f)
def bF.fJ(x:bF P w H h a o)(k:∀b u,(b=a\/H b=a5 (.own a))->h.get? b=a5 u->h'.get? b=a5 u)
  (ho:∀b,H b=a5 (.own a)->H' b=a5 (.own a)) (m:∀b xs,H b=a5 (.tup xs)->H' b=a5 (.tup xs)):bF P w H' h' a o:=by
 induction o with
 |lst xs=>have⟨z,i,n,r,e⟩:=x;show⟨z,i,n,r,k _ _ (.inl rfl) e⟩
 |tup xs=>have⟨z,i,r,g,e,c⟩:=x;show⟨z,i,r,g,k _ _ (.inl rfl) e,c⟩
 |dK kvs=>have⟨z,y,vs,r,g,es,ep,e,c⟩:=x;show⟨z,y,vs,r,g,es,ep,k _ _ (.inl rfl) e,c⟩
 |dT kvs =>
  have⟨z,y,xs,r,g,es,ep,e,c⟩:=x;show⟨z,y,xs,Paired.Dm r λp q z=>⟨z.1,m _ _ z.2.1,z.2.2⟩,g,es,ep,k _ _ (.inl rfl) e,c⟩
 |set S n=>have⟨g,es,ep,t,e,c⟩:=x;show⟨g,es,ep,t,k _ _ (.inl rfl) e,c⟩
 |ins C D s =>
  obtain⟨d,z,ne,e,j,⟨l,es,ep,A,c⟩,r⟩:=x;show⟨ho _ d,z,ne,k _ _ (.inl rfl) e,j,⟨l,es,ep,k _ _ (.inr d) A,c⟩,r⟩
 |own y=>have⟨g,e⟩:=x;show⟨g,k _ _ (.inl rfl) e⟩
 |xd s=>obtain⟨j,⟨l,es,ep,e,c⟩,r⟩:=x;show⟨j,⟨l,es,ep,k _ _ (.inl rfl) e,c⟩,r⟩
 |QV lo G=>have⟨t,u,v,e⟩:=x;show⟨t,u,v,k _ _ (.inl rfl) e⟩
 |JX g u B=>have⟨e,q⟩:=x;show⟨k _ _ (.inl rfl) e,B q⟩
 |Nl ps =>
  have e:h.get? a=a5 {cls:=.none,data:=.fields ps}:=x;change h'.get? a=a5 {cls:=.none,data:=.fields ps};show k a _ (.inl rfl) e
 |met f y =>
  have e:h.get? a=a5 (PySem.W.methodObj (.ref f) (.ref y)):=x;change h'.get? a=a5 (PySem.W.methodObj (.ref f) (.ref y));show k a _ (.inl rfl) e
 |ext φ=>obtain⟨p,⟨o,e⟩,st⟩:=x;show⟨st _ _ p λo q=>k _ _ (.inl rfl) q,⟨o,k _ _ (.inl rfl) e⟩,st⟩
def J2.lt(x:J2 P w H h)(e:H a=a5 o):a<h.objs.size:=(x a o e).lt
def J2.fresh(x:J2 P w H h)(e:h.objs.size<=a):H a=b8:=by
 cases q:H a with
 |none=>rfl
 |some u=>show absurd (i0 (x.lt q) e) (t8 _)
def J2.kept(x:J2 P w H h)(k:∀b u,h.get? b=a5 u->h'.get? b=a5 u):J2 P w H h':=λa o e =>
 (x a o e).fJ (λb u _ q=>k b u q) (λ_ q=>q) λ_ _ q=>q
def J2.laid(x:J2 P w H h)(k:∀b u,h.get? b=a5 u->h'.get? b=a5 u)(g:h.objs.size<=a)(new:bF P w (upd H a o) h' a o):J2 P w (upd H a o) h':=λb u e=>by
 have d:=x.fresh g;by_cases f:b=a
 .subst f;rw[ax]at e;cases e;show new
 .rw[ak f]at e;show(x b u e).fJ (λc v _ q=>k c v q) (λc q=>by rw[ak (bt q d)];show q) λc xs q=>by rw[ak (bt q d)];show q
end
abbrev Rd(H:Hp)(a:d8)(u:HO):Prop:=H a=a5 u\/∃o,H a=a5 (.JX o u)
def Rd.ok(r:Rd H a u)(x:J2 P w H h):bF P w H h a u:=by
 rcases r with r|⟨o,r⟩
 .show x a u r
 .obtain⟨_,q⟩:=x a _ r;show q
def Pq:Option HO->Prop
 |some (.lst _)=>True
 |some (.dK _)=>True
 |some (.dT _)=>True
 |some (.set _ _)=>True
 |some (.ins _ _ _)=>True
 |some (.ext _)=>True
 |_=>False
section
def J2.write(l:J2 P w H h)(a:Pq (H x))(g:e=x\/H e=a5 (.own x))(k:∀b u,b≠e->h.get? b=a5 u->h'.get? b=a5 u)(m:∃u,h'.get? e=a5 u)
  (new:bF P w (upd H x o') h' x o'):J2 P w (upd H x o') h':=λb u q=>by
 have i:∀c y,H c=a5 (.own y)->c≠x:=λc y r z=>by subst z;rw[r]at a;show a
 have n:∀c xs,H c=a5 (.tup xs)->c≠x:=λc xs r z=>by subst z;rw[r]at a;show a
 by_cases d:b=x
 .subst d;rw[ax]at q;cases q;show new
 .rw[ak d]at q;by_cases f:b=e
  .have j:H b=a5 (.own x):=by
    rcases g with z|z
    .show absurd (f.trans z) d
    .rw[f];show z
   rw[q]at j;cases j;have⟨v,o⟩:=m;show⟨v,by rw[f];show o⟩
  .show(l b u q).fJ (λc v hc r=>k c v ?_ r) (λc r=>by rw[ak (i c b r)];show r) λc xs r=>by rw[ak (n c xs r)];show r
   rcases hc with rfl|hc
   .show f
   .rintro rfl;rcases g with z|z
    .show i c b hc z
    .rw[hc]at z;cases z;show d rfl
end
structure Un(fs ex:List d8)(H H':Hp)(h h':Jv):Prop where
 keep:∀b o,h.get? b=a5 o->H b=b8->b∉fs->b∉ex->h'.get? b=a5 o
 slot:∀b o,h.get? b=a5 o->H b=b8->b∈fs->b∉ex->∃sl,h'.get? b=a5 {o with slots:=sl}
 free:∀b o,h.get? b=a5 o->H b=b8->b∉ex->H' b=b8
 there:∀b o,h.get? b=a5 o->b∉ex->∃o',h'.get? b=a5 o'
 fU:∀b xs,H b=a5 (.tup xs)->H' b=a5 (.tup xs)
 JY:∀b o u,H b=a5 (.JX o u)->H' b=a5 (.JX o u)
 J3:∀b ps,H b=a5 (.Nl ps)->∃more,H' b=a5 (.Nl (ps++more))
section
def Un.any(u:Un e ex H i h f)(q:h.get? b=a5 a)(n:H b=b8)(c:b∉ex):∃g,f.get? b=a5 {a with slots:=g}:=by
 by_cases d:b∈e
 .show u.slot b a q n d c
 .show⟨a.slots,u.keep b a q n d c⟩
def Un.kept(k:∀b u,h.get? b=a5 u->h'.get? b=a5 u):Un c ex H H h h' :=
 ⟨λb a q _ _ _=>k b a q,λb a q _ _ _=>⟨a.slots,k b a q⟩,λ_ _ _ n _=>n,λb a q _=>⟨a,k b a q⟩,λ_ _ q=>q,λ_ _ _ q=>q,λ_ ps q=>⟨#[],by rw[q];simp⟩⟩
def Un.refl:Un a ex H H h h:=Un.kept λ_ _ q=>q
def Un.laid(k:∀b u,h.get? b=a5 u->h'.get? b=a5 u)(d:h.objs.size<=a)(c:H a=b8):Un e ex H (upd H a o) h h' where
 keep:=λb u q _ _ _=>k b u q
 slot:=λb u q _ _ _=>⟨u.slots,k b u q⟩
 free:=λb u q n _=>by rw[ak (hH (i0 (eh q) d))];show n
 there:=λb u q _=>⟨u,k b u q⟩
 fU:=λb xs q=>by rw[ak (bt q c)];show q
 JY:=λb u xs q=>by rw[ak (bt q c)];show q
 J3:=λb ps q=>⟨#[],by rw[ak (bt q c),q];simp⟩
def Un.write(a:Pq (H x))(i:e=x\/H e=a5 (.own x))(k:∀b u,b≠e->h.get? b=a5 u->h'.get? b=a5 u)(j:∃u,h'.get? e=a5 u):Un l ex H (upd H x o) h h':=by
 have d:∀b,H b=b8->b≠x:=λb n z=>by subst z;rw[n]at a;show a
 have f:∀b,H b=b8->b≠e:=λb n z=>by
  subst z;rcases i with r|r
  .show d b n r
  .rw[n]at r;cases r
 have c:∀b u,H b=a5 u->¬Pq (a5 u)->b≠x:=λb u q nm z=>by subst z;rw[q]at a;show nm a
 show⟨λb u q n _ _=>k b u (f b n) q,λb u q n _ _=>⟨u.slots,k b u (f b n) q⟩,λb u q n _=>by rw[ak (d b n)];show n,λb u q _=>?_,
  λb xs q=>by rw[ak (c b _ q λz=>z)];show q,λb u xs q=>by rw[ak (c b _ q λz=>z)];show q,λb ps q=>⟨#[],by rw[ak (c b _ q λz=>z),q];simp⟩⟩
 by_cases g:b=e
 .subst g;show j
 .show⟨u,k b u g q⟩
end
abbrev QW(h:Jv)(H:Hp):List d8:=(gs h.objs.size).filter λa=>(H a).isSome
abbrev oj(h:Jv)(H:Hp):Jv:=PySem.W.hideAll h (QW h H)
def vK(h:Jv)(H:Hp):(oj h H).objs.size=h.objs.size:=PySem.W.hideAll_size _ _
def w9(e:h.get? b=a5 o)(n:H b=b8):(oj h H).get? b=a5 o :=
 PySem.W.hideAll_get _ e λa=>by
  have q:(H b).isSome=b6:=(ro.mp a).2;rw[n]at q;simp at q
def Ar(e:(oj h H).get? b=a5 o):h.get? b=a5 o/\H b=b8:=by
 have a:h.get? b=a5 o:=PySem.W.of_hideAll (QW h H) e;show⟨a,?_⟩;cases q:H b with
 |none=>rfl
 |some x =>
  have c:b∈QW h H:=ro.mpr ⟨u5.mpr (eh a),by simp[q]⟩;have z:(oj h H).get? b=b8:=PySem.W.hideAll_none (QW h H) c;rw[z]at e;cases e
structure Mod(K:PySem.W.Frag)(mg:Str->Option dV)(base:Jv):Prop where
 OR:K.In base
 glob:base.Ns js mg
 blt:∃mb,base.Ns í mb/\∀x:Str,x≠"__name__"->mb x=t7 x
 nolimit:base.NoLimit
structure Cx where
 prog:u3
 w:ve
 K:PySem.W.Frag
 mg:Str->Option dV
 base:Jv
 A:M4
 N:List Str
 s₀:d5
 H₀:Hp
 env:Env
 outer:List Env
 stack:List Env
 ex:List d8
 fn:Str->Bool
 calm:Bool
 pn:List (d8×Obj)
 xe:dV->d5->Prop
abbrev JF(l:List Env):List d8:=l.filterMap (·.frame)
noncomputable abbrev Cx.fs(X:Cx):List d8:=JF X.outer
abbrev Ks(a:LG)(x:Str):Prop:=a.names.lookup x=a5 .local\/a.names.lookup x=a5 .cell\/a.names.lookup x=a5 .free
abbrev Loc(a:LG)(x:Str):Prop:=a.names.lookup x=a5 .local\/a.names.lookup x=a5 .cell
abbrev Look(env:Env)(h:Jv)(m:Str->Option dV)(x:Str)(u:dV):Prop :=
 (env.kindOf x=a5 .local/\m x=a5 u)\/((env.kindOf x=a5 .cell\/env.kindOf x=a5 .free)/\∃c,env.cells.lookup x=a5 c/\h.IsCell c (a5 u))
structure Cx.Ok(X:Cx):Prop where
 mod:Mod X.K X.mg X.base
 kind:X.env.scope.kind=.function
 glob:X.env.globals=js
 blt:X.env.builtins=í
 above:X.s₀.heap.objs.size<=X.env.locals
 inj:∀x y c,X.env.cells.lookup x=a5 c->X.env.cells.lookup y=a5 c->x=y
 has:∀x,(X.env.kindOf x=a5 .cell\/X.env.kindOf x=a5 .free)->∃c,X.env.cells.lookup x=a5 c
 OS:∀x c,X.fn x=b6->X.env.cells.lookup x=a5 c->X.s₀.heap.objs.size<=c
 hd:X.calm=b6->X.A.handled=b8
 frames:X.A.frames=a5 X.stack
 Pu:X.stack=X.outer\/(X.stack=X.env::X.outer/\X.env.frame=a5 X.env.locals)
 RQ:∀b∈X.ex,b≠X.env.locals/\∀x c,X.env.cells.lookup x=a5 c->c≠b
 bs:∀b o,X.base.get? b=a5 o->X.s₀.heap.get? b=a5 o/\X.H₀ b=b8
 M0:X.base.objs.size<=X.s₀.heap.objs.size
 LW:∀b o,X.base.get? b=a5 o->b∉X.ex
 Ml:∀b∈X.ex,b∉X.fs
 jW:X.s₀.heap.FunFrames X.base X.outer
 NR:∀b∈X.fs,X.H₀ b=b8
structure Inv(X:Cx)(pins:List (d8×Obj))(σ:List (Option V))(H:Hp)(s:d5):Prop where
 ok:X.Ok
 os:s.os=X.s₀.os
 bare:Sv s.gens
 base:Un X.fs X.ex X.H₀ H X.s₀.heap s.heap
 loc:∃m,s.heap.Ns X.env.locals m/\∀(i:Nat) (x:Str) (v:V),X.N[i]?=a5 x->σ[i]?=a5 (a5 v)->Ks X.env.scope x->∃u,RelV v u/\Look X.env s.heap m x u
 cell:∀x c,X.env.cells.lookup x=a5 c->∃v,s.heap.IsCell c v
 free:H X.env.locals=b8
 Jr:∀x c,X.env.cells.lookup x=a5 c->H c=b8
 pin:∀p∈X.pn++pins,s.heap.get? p.1=a5 p.2/\H p.1=b8/\p.1≠X.env.locals/\p.1∉X.fs/\∀v,p.2.data≠.cell v
 IS:J2 X.prog X.w H s.heap
 len:σ.length=X.N.length
section
variable{X:Cx}{pins:List (d8×Obj)}{σ:List (Option V)}{H H':Hp}{s:d5}{h':Jv}
def Cx.Ok.HH(a:X.Ok)(e:X.base.get? b=a5 o):b∉X.fs:=λc=>by
 have:=(a.jW.mem c).1;rw[e]at this;cases this
def Inv.bs(I:Inv X pins σ H s):∀b o,X.base.get? b=a5 o->s.heap.get? b=a5 o/\H b=b8:=λb o e =>
 ⟨I.base.keep b o (I.ok.bs b o e).1 (I.ok.bs b o e).2 (I.ok.HH e) (I.ok.LW b o e),I.base.free b o (I.ok.bs b o e).1 (I.ok.bs b o e).2 (I.ok.LW b o e)⟩
def Inv.bk(I:Inv X pins σ H s):∀b o,X.base.get? b=a5 o->s.heap.get? b=a5 o:=λb o e=>(I.bs b o e).1
def Inv.mod(I:Inv X pins σ H s):Mod X.K X.mg X.base:=I.ok.mod
def Inv.Mm(I:Inv X pins σ H s):X.K.In s.heap:=I.ok.mod.OR.keeps I.bk
def Inv.lt(I:Inv X pins σ H s):X.env.locals<s.heap.objs.size:=let ⟨_,a,_⟩:=I.loc;a.lt
def Inv.sz(I:Inv X pins σ H s):X.s₀.heap.objs.size<=s.heap.objs.size:=t6 I.ok.above (Qc I.lt)
def Inv.Dn(I:Inv X pins σ H s)(h:s.heap.objs.size<=a):a∉X.fs:=λb=>by
 obtain⟨_,o,ho,_⟩:=I.ok.jW.mem b;show absurd (i0 (eh ho) (t6 I.sz h)) (t8 _)
def Inv.Mn(I:Inv X pins σ H s):∀x c,X.env.cells.lookup x=a5 c->c≠X.env.locals:=λx c e z=>by
 have⟨v,o,ho,a⟩:=I.cell x c e;obtain⟨m,⟨o',es,ep,b,d,_⟩,_⟩:=I.loc;rw[z,b]at ho;cases ho;rw[d]at a;cases a
def Inv.jW(I:Inv X pins σ H s):s.heap.FunFrames X.base X.outer:=by
 have all:∀(l:List Env),(∀b∈JF l,b∈X.fs)->X.s₀.heap.FunFrames X.base l->s.heap.FunFrames X.base l:=by
  intro l;induction l with
  |nil=>intro _ _;trivial
  |cons env r f =>
   intro hs hl;obtain⟨hk,⟨L,o,a,g,ho,h⟩,i⟩:=hl;have c:L∈X.fs:=hs L (by unfold JF;rw[DD,a];show mA);have⟨j,e⟩:=I.base.slot L o ho (I.ok.NR L c) c λz=>I.ok.Ml L z c;show⟨hk,⟨L,_,a,g,e,h⟩,f (λb d=>hs b (by unfold JF;rw[DD,a];show kr _ d)) i⟩
 show all X.outer (λ_ d=>d) I.ok.jW
def Inv.stack(I:Inv X pins σ H s):s.heap.FunFrames X.base X.stack:=by
 rcases I.ok.Pu with e|⟨e,a⟩
 .rw[e];show I.jW
 .rw[e];obtain⟨m,b,_⟩:=I.loc;show .cons (by rw[I.ok.kind];decide) a b ?_ I.jW;show Heap.get?_none_of_le (t6 I.ok.M0 I.ok.above)
def Inv.kG(I:Inv X pins σ H s):∀b∈JF X.stack,b∈X.env.locals::X.fs:=λb a=>by
 rcases I.ok.Pu with e|⟨e,c⟩
 .rw[e]at a;show kr _ a
 .rw[e]at a;unfold JF at a;rw[DD,c]at a;show a
def Inv.ka(I:Inv X pins σ H s):∀b∈JF X.stack,H b=b8:=λb hb=>by
 rcases d6.mp (I.kG b hb) with e|hb
 .rw[e];show I.free
 .obtain⟨_,o,ho,_⟩:=I.ok.jW.mem hb;show I.base.free b o ho (I.ok.NR b hb) λz=>I.ok.Ml b z hb
def Inv.step{ch:List d8}(I:Inv X pins σ H s)
  (j:∀b∈ch,(b∈X.ex\/X.s₀.heap.objs.size<=b)/\b≠X.env.locals/\(∀x c,X.env.cells.lookup x=a5 c->c≠b)/\∀p∈X.pn++pins,p.1≠b)
  (keep:∀b o,b≠X.env.locals->b∉X.fs->b∉ch->s.heap.get? b=a5 o->H b=b8->h'.get? b=a5 o)
  (slot:∀b o,b≠X.env.locals->b∈X.fs->b∉ch->s.heap.get? b=a5 o->H b=b8->∃C,h'.get? b=a5 {o with slots:=C}) (free:∀b o,b∉ch->s.heap.get? b=a5 o->H b=b8->H' b=b8)
  (there:∀b o,b∉ch->s.heap.get? b=a5 o->∃o',h'.get? b=a5 o')
  (fU:∀b xs,H b=a5 (.tup xs)->H' b=a5 (.tup xs)) (JY:∀b o u,H b=a5 (.JX o u)->H' b=a5 (.JX o u)) (J3:∀b ps,H b=a5 (.Nl ps)->∃t,H' b=a5 (.Nl (ps++t)))
  (ns:∀m,s.heap.Ns X.env.locals m->h'.Ns X.env.locals m) (N:J2 X.prog X.w H' h') (O:Sv g') :
  Inv X pins σ H' {s with heap:=h',gens:=g',drawn:=d',toks:=t' }:=by
 have G:∀b o,X.s₀.heap.get? b=a5 o->b≠X.env.locals:=λb o e=>hH (i0 (eh e) I.ok.above);have B:∀b o,X.s₀.heap.get? b=a5 o->b∉X.ex->b∉ch:=λb o e a h=>by
  rcases(j b h).1 with z|z
  .show a z
  .show absurd (i0 (eh e) z) (t8 _)
 have f:∀x c,X.env.cells.lookup x=a5 c->∀v,s.heap.IsCell c v->h'.IsCell c v:=λx c e v Q=>by
  have⟨o,ho,D⟩:=Q;have y:c∉ch:=λz=>(j c z).2.2.1 x c e rfl;by_cases J:c∈X.fs
  .have⟨C,q⟩:=slot c o (I.Mn x c e) J y ho (I.Jr x c e);show⟨_,q,D⟩
  .show⟨o,keep c o (I.Mn x c e) J y ho (I.Jr x c e),D⟩
 show⟨I.ok,I.os,O,⟨λb o e n h a=>?_,λb o e n h a=>?_,λb o e n a=>?_,λb o e a=>?_,λb xs e=>fU b xs (I.base.fU b xs e),λb o xs e=>JY b o xs (I.base.JY b o xs e),λb ps e=>?_⟩,?_,λx c e=>?_,?_,λx c e=>?_,λp L=>?_,N,I.len⟩
 .show keep b o (G b o e) h (B b o e a) (I.base.keep b o e n h a) (I.base.free b o e n a)
 .have⟨C,g⟩:=I.base.slot b o e n h a;have⟨T,A⟩:=slot b _ (G b o e) h (B b o e a) g (I.base.free b o e n a);show⟨T,A⟩
 .have⟨o',g⟩:=I.base.there b o e a;show free b o' (B b o e a) g (I.base.free b o e n a)
 .have⟨o',g⟩:=I.base.there b o e a;show there b o' (B b o e a) g
 .have⟨m1,g⟩:=I.base.J3 b ps e;have⟨m2,A⟩:=J3 b _ g;show⟨m1++m2,by rw[A,Zv]⟩
 .have⟨m,Y,hl⟩:=I.loc;show⟨m,ns m Y,λi x v g A e3=>?_⟩;have⟨u,r,l⟩:=hl i x v g A e3;show⟨u,r,?_⟩;rcases l with l|⟨k,c,e,z⟩
  .show .inl l
  .show .inr ⟨k,c,e,f x c e _ z⟩
 .have⟨v,z⟩:=I.cell x c e;show⟨v,f x c e v z⟩
 .obtain⟨m,⟨o,_,_,ho,_⟩,_⟩:=I.loc;show free _ o (λz=>(j _ z).2.1 rfl) ho I.free
 .have⟨v,o,ho,D⟩:=I.cell x c e;show free c o (λz=>(j c z).2.2.1 x c e rfl) ho (I.Jr x c e)
 .have⟨e,n,ne,nf,d⟩:=I.pin p L;have y:p.1∉ch:=λz=>(j p.1 z).2.2.2 p L rfl;show⟨keep p.1 p.2 ne nf y e n,free p.1 p.2 y e n,ne,nf,d⟩
def Inv.un(I:Inv X pins σ H s)(u:Un X.fs [] H H' s.heap h')(d:J2 X.prog X.w H' h'):Inv X pins σ H' {s with heap:=h',toks:=t' }:=by
 obtain⟨m,⟨o,es,ep,ho,r⟩,_⟩:=id I.loc;have⟨k,f⟩:=u.any ho I.free (by simp);show I.step (g':=s.gens) (d':=s.drawn) (ch:=[]) (λ_ z=>nomatch z) (λb o _ a _ e n=>u.keep b o e n a (by simp)) (λb o _ a _ e n=>u.slot b o e n a (by simp)) (λb o _ e n=>u.free b o e n (by simp)) (λb o _ e=>u.there b o e (by simp)) u.fU u.JY u.J3 (λl g=>by
  have⟨o',h,i,c,j⟩:=g;rw[ho]at c;cases c;show⟨_,h,i,f,j⟩) d I.bare
def Inv.call(I:Inv X pins σ H s)(u:Un (JF X.stack) ch H H' s.heap h')(h:J2 X.prog X.w H' h')(i:Sv g')
  (f:∀b∈ch,(b∈X.ex\/X.s₀.heap.objs.size<=b)/\b≠X.env.locals/\(∀x c,X.env.cells.lookup x=a5 c->c≠b)/\∀p∈X.pn++pins,p.1≠b) :
  Inv X pins σ H' {s with heap:=h',gens:=g',drawn:=d',toks:=t' }:=by
 obtain⟨m,⟨o,es,ep,ho,r⟩,_⟩:=id I.loc;have⟨v,d⟩:=u.any ho I.free λz=>(f _ z).2.1 rfl;show I.step (ch:=ch) f (λb o d j a e n=>u.keep b o e n (λz=>(d6.mp (I.kG b z)).elim d j) a) (λb o _ _ a e n=>u.any e n a) (λb o a e n=>u.free b o e n a) (λb o a e=>u.there b o e a) u.fU u.JY u.J3 (λy k=>by
  have⟨o',l,q,g,t⟩:=k;rw[ho]at g;cases g;show⟨_,l,q,d,t⟩) h i
def Inv.turned(I:Inv X pins σ H s)(k:∀b o,b≠it->s.heap.get? b=a5 o->h'.get? b=a5 o)(g:H it=b8)(d:it≠X.env.locals)
  (h:it∈X.ex\/X.s₀.heap.objs.size<=it) (i:∀x c,X.env.cells.lookup x=a5 c->c≠it) (j:∀p∈X.pn++pins,p.1≠it):Inv X pins σ H {s with heap:=h',toks:=t' }:=by
 have f:∀b u,H b=a5 u->b≠it:=λb u e z=>by rw[z,g]at e;cases e
 show I.step (g':=s.gens) (d':=s.drawn) (ch:=[it]) (λb l=>?_) (λb o _ _ a e _=>k b o (λz=>a (by simp[z])) e) (λb o _ _ a e _=>⟨o.slots,k b o (λz=>a (by simp[z])) e⟩) (λ_ _ _ _ n=>n)
  (λb o a e=>⟨o,k b o (λz=>a (by simp[z])) e⟩) (λ_ _ e=>e) (λ_ _ _ e=>e) (λb ps e=>⟨#[],by rw[e];simp⟩) (λm t=>?_) (λb u e=>?_) I.bare
 .have e:b=it:=by simpa using l
  subst e;show⟨h,d,i,j⟩
 .have⟨o,es,ep,ho,r⟩:=t;show⟨o,es,ep,k _ o (nH d) ho,r⟩
 .show(I.IS b u e).fJ (λc v a q=>k c v ?_ q) (λ_ q=>q) λ_ _ q=>q;rcases a with z|z
  .rw[z];show f b u e
  .show f c _ z
def Inv.tok(I:Inv X pins σ H s)(t:Nat):Inv X pins σ H {s with toks:=t}:=I.un (h':=s.heap) (t':=t) Un.refl I.IS
def Inv.kept(I:Inv X pins σ H s)(k:∀b u,s.heap.get? b=a5 u->h'.get? b=a5 u):Inv X pins σ H {s with heap:=h',toks:=t' }:=I.un (Un.kept k) (I.IS.kept k)
def Inv.laid(I:Inv X pins σ H s)(k:∀b u,s.heap.get? b=a5 u->h'.get? b=a5 u)(c:s.heap.objs.size<=a)(new:bF X.prog X.w (upd H a o) h' a o):
  Inv X pins σ (upd H a o) {s with heap:=h',toks:=t' }:=I.un (Un.laid k c (I.IS.fresh c)) (I.IS.laid k c new)
def Inv.write(I:Inv X pins σ H s)(a:Pq (H x))(c:e=x\/H e=a5 (.own x))(k:∀b u,b≠e->s.heap.get? b=a5 u->h'.get? b=a5 u)(d:∃u,h'.get? e=a5 u)
  (new:bF X.prog X.w (upd H x o) h' x o):Inv X pins σ (upd H x o) {s with heap:=h',toks:=t' }:=I.un (Un.write a c k d) (I.IS.write a c k d new)
def Inv.weak(I:Inv X pins σ H s)(hl:a.length=σ.length)(w:∀(i:Nat) v,a[i]?=a5 (a5 v)->σ[i]?=a5 (a5 v)):Inv X pins a H s :=
 ⟨I.ok,I.os,I.bare,I.base,let ⟨m,b,c⟩:=I.loc;⟨m,b,λi x v d e f=>c i x v d (w i v e) f⟩,I.cell,I.free,I.Jr,I.pin,I.IS,hl.trans I.len⟩
def Inv.eI(I:Inv X pins σ H s)(h:∀p∈a,s.heap.get? p.1=a5 p.2/\H p.1=b8/\p.1≠X.env.locals/\p.1∉X.fs/\∀v,p.2.data≠.cell v):Inv X a σ H s :=
 ⟨I.ok,I.os,I.bare,I.base,I.loc,I.cell,I.free,I.Jr,λp b=>(i1.mp b).elim (λz=>I.pin p (u6 _ z)) (h p),I.IS,I.len⟩
def iz{N:List Str}(c:N.Nodup){i j:Nat}(a:N[i]?=a5 x)(b:N[j]?=a5 x):i=j:=by
 have⟨f,d⟩:=dt.mp a;have⟨g,e⟩:=dt.mp b;show(Ì c).mp (d.trans e.symm)
def mG(I:Inv X pins σ H s)(hN:X.N.Nodup)(D:X.N[i]?=a5 x)(l:Loc X.env.scope x)(r:RelV v u)
  (h:∀s',Inv X pins (σ.set i (a5 v)) H s'->(∃a,nC a s.heap s'.heap/\(a=X.env.locals\/X.env.cells.lookup x=a5 a))->Q () s') (hf:X.fn x=b6\/X.env.scope.names.lookup x=a5 .local:=by first|show .inl rfl|show .inr rfl|assumption):d3 M A (đ X.env x u) Q E s:=by
 have⟨m,L,hl⟩:=id I.loc;have NT:(X.env.scope.kind==.class||(X.env.scope.kind==.module&&X.env.locals != X.env.globals))=cc:=by rw[I.ok.kind];rfl
 have U2:i < σ.length:=by rw[I.len];show(dt.mp D).1
 have O:=I.Mn;have f:∀{a:d8} {h':Jv},(∃o,s.heap.get? a=a5 o/\H a=b8)->nC a s.heap h'->J2 X.prog X.w H h':=λ{a h'} ha hs b ob e=>by
  obtain⟨_,_,JN⟩:=ha;show(I.IS b ob e).fJ (λc G hc q=>(hs.2 c ?_).trans q) (λ_ q=>q) λ_ _ q=>q;rintro rfl;rcases hc with rfl|hc
  .rw[JN]at e;cases e
  .rw[JN]at hc;cases hc
 rcases l with hk|hk
 .show wpAny_storeName_local hk L (λh' OU hs=>?_) NT;obtain⟨oL,_,_,M3,_⟩:=id L;show h _ ⟨I.ok,I.os,I.bare,⟨λb o e n B l=>?_,λb o e n B l=>?_,I.base.free,λb o e l=>?_,I.base.fU,I.base.JY,I.base.J3⟩,⟨_,OU,λj y T g t Y=>?_⟩,λy c e=>?_,I.free,I.Jr,λp hp=>?_,f ⟨oL,M3,I.free⟩ hs,by simpa using I.len⟩ ⟨_,hs,.inl rfl⟩
  .show(hs.2 b (hH (i0 (eh e) I.ok.above))).trans (I.base.keep b o e n B l)
  .have⟨sl,g⟩:=I.base.slot b o e n B l;show⟨sl,(hs.2 b (hH (i0 (eh e) I.ok.above))).trans g⟩
  .have⟨o',g⟩:=I.base.there b o e l;show⟨o',(hs.2 b (hH (i0 (eh e) I.ok.above))).trans g⟩
  .by_cases C:j=i
   .subst C;rw[D]at g;cases g;rw[d4 U2]at t;cases t;show⟨u,r,.inl ⟨hk,by simp⟩⟩
   .rw[gc (nH C)]at t;have⟨u',r',q⟩:=hl j y T g t Y;show⟨u',r',?_⟩;rcases q with⟨k,e⟩|⟨k,c,e,z⟩
    .show .inl ⟨k,?_⟩;have:y≠x:=λe=>C (iz hN g (e▸D));simp[this,e]
    .show .inr ⟨k,c,e,z.sameBut hs (O y c e)⟩
  .have⟨G,z⟩:=I.cell y c e;show⟨G,z.sameBut hs (O y c e)⟩
  .have⟨e,n,ne,nf,d⟩:=I.pin p hp;show⟨(hs.2 p.1 ne).trans e,n,ne,nf,d⟩
 .have Li:X.fn x=b6:=by
   rcases hf with z|z
   .show z
   .rw[z]at hk;cases hk
  have⟨c,hc⟩:=I.ok.has x (.inl hk);have⟨G,z⟩:=I.cell x c hc;show wpAny_storeName_cell I.ok.kind hk hc z (λh' OV hs=>?_);have⟨oc,U3,RS⟩:=id z;show h {s with heap:=h' } ⟨I.ok,I.os,I.bare,⟨λb o e n B l=>?_,λb o e n B l=>?_,I.base.free,λb o e l=>?_,I.base.fU,I.base.JY,I.base.J3⟩,⟨m,L.sameBut hs (nH (O x c hc)),λj y T g t Y=>?_⟩,λy J e=>?_,I.free,I.Jr,λp hp=>?_,f ⟨oc,U3,I.Jr x c hc⟩ hs,by simpa using I.len⟩ ⟨c,hs,.inr hc⟩
  .show(hs.2 b (hH (i0 (eh e) (I.ok.OS x c Li hc)))).trans (I.base.keep b o e n B l)
  .have⟨sl,g⟩:=I.base.slot b o e n B l;show⟨sl,(hs.2 b (hH (i0 (eh e) (I.ok.OS x c Li hc)))).trans g⟩
  .have⟨o',g⟩:=I.base.there b o e l;show⟨o',(hs.2 b (hH (i0 (eh e) (I.ok.OS x c Li hc)))).trans g⟩
  .by_cases C:j=i
   .subst C;rw[D]at g;cases g;rw[d4 U2]at t;cases t;show⟨u,r,.inr ⟨.inl hk,c,hc,OV⟩⟩
   .rw[gc (nH C)]at t;have⟨u',r',q⟩:=hl j y T g t Y;show⟨u',r',?_⟩;rcases q with q|⟨k,J,e,z'⟩
    .show .inl q
    .show .inr ⟨k,J,e,z'.sameBut hs ?_⟩;rintro rfl;show C (iz hN g (I.ok.inj _ _ _ e hc▸D))
  .by_cases U4:J=c
   .subst U4;show⟨_,OV⟩
   .have⟨w2,z2⟩:=I.cell y J e;show⟨w2,z2.sameBut hs U4⟩
  .have⟨e,n,ne,nf,d⟩:=I.pin p hp;show⟨(hs.2 p.1 ?_).trans e,n,ne,nf,d⟩;intro q;rw[q,U3]at e;have q':oc=p.2:=ts e;show d G (by rw[<-q'];show RS)
def fN(I:Inv X pins σ H s)(a:X.N.Nodup)(b:X.N[i]?=a5 x)(c:Loc X.env.scope x)(r:RelV v u)
  (h:∀s',Inv X pins (σ.set i (a5 v)) H s'->Q () s') (d:X.fn x=b6\/X.env.scope.names.lookup x=a5 .local:=by first|show .inl rfl|show .inr rfl|assumption):d3 M A (đ X.env x u) Q E s :=
 mG I a b c r (λs' e _=>h s' e) d
def Inv.CG(I:Inv X pins σ H s)(ho:s'.os=s.os)(u:Un (JF X.stack) ch H H' s.heap s'.heap)(a:J2 X.prog X.w H' s'.heap)(d:Sv s'.gens)
  (f:∀b∈ch,(b∈X.ex\/X.s₀.heap.objs.size<=b)/\b≠X.env.locals/\(∀x c,X.env.cells.lookup x=a5 c->c≠b)/\∀p∈X.pn++pins,p.1≠b):Inv X pins σ H' s':=by
 have⟨h',g',d',t',o'⟩:=s';have e:o'=s.os:=ho;subst e;show I.call (g':=g') (t':=t') (d':=d') u a d f
end
@[reducible]def XK:=dV->Option d8->Hp->Prop
@[reducible]def St:=List (Option V)
@[reducible]def VK:=V->Hp->Prop
@[reducible]def TE:=St->Hp->VK->Prop
@[reducible]def TT:=St->Hp->(Bool->Hp->Prop)->Prop
@[reducible]def TA:=St->Hp->(List V->Hp->Prop)->Prop
structure Ends where
 nx:St->Hp->Prop
 rt:VK
 bk:St->Hp->Prop:=λ_ _=>False
 ct:St->Hp->Prop:=λ_ _=>False
@[reducible]def TS:=Ends->St->Hp->Prop
abbrev EP(X:Cx)(a:List (d8×Obj))(σ:St)(Q:VK)(u:dV)(s':d5):Prop:=∃v H',Inv X a σ H' s'/\RelV v u/\Q v H'
abbrev TP(X:Cx)(a:List (d8×Obj))(σ:St)(Q:Bool->Hp->Prop)(b:Bool)(s':d5):Prop:=∃H',Inv X a σ H' s'/\Q b H'
abbrev AP(X:Cx)(a:List (d8×Obj))(σ:St)(Q:List V->Hp->Prop)(us:List dV)(s':d5):Prop:=∃vs H',Inv X a σ H' s'/\Vals vs us/\Q vs H'
abbrev SP(X:Cx)(a:List (d8×Obj))(D:Ends)(f:Flow)(s':d5):Prop :=
 match f with
 |.next=>∃b H',Inv X a b H' s'/\D.nx b H'
 |.brk=>∃b H',Inv X a b H' s'/\D.bk b H'
 |.cont=>∃b H',Inv X a b H' s'/\D.ct b H'
 |.ret u=>∃v b H',Inv X a b H' s'/\RelV v u/\D.rt v H'
abbrev PE(X:Cx)(e:l0)(t:TE):Prop :=
 ∀(a:List (d8×Obj)) (s:d5) (σ:St) (H:Hp) (Q:VK),Inv X a σ H s->t σ H Q->d3 (et X.prog X.w) X.A (u7 e X.env) (EP X a σ Q) X.xe s
abbrev PT(X:Cx)(e:l0)(t:TT):Prop :=
 ∀(a:List (d8×Obj)) (s:d5) (σ:St) (H:Hp) (Q:Bool->Hp->Prop),Inv X a σ H s->t σ H Q->d3 (et X.prog X.w) X.A (isTrue e X.env (u7 e X.env)) (TP X a σ Q) X.xe s
abbrev PW(X:Cx)(e:l0)(t:TT):Prop :=
 ∀(b:Sem dV) (a:List (d8×Obj)) (s:d5) (σ:St) (H:Hp) (Q:Bool->Hp->Prop),Inv X a σ H s->t σ H Q->d3 (et X.prog X.w) X.A (isTrue e X.env b) (TP X a σ Q) X.xe s
def PW.pt(h:PW X e t):PT X e t:=h _
abbrev PA(X:Cx)(es:List l0)(t:TA):Prop :=
 ∀(pos:Pos) (a:List (d8×Obj)) (s:d5) (σ:St) (H:Hp) (Q:List V->Hp->Prop),Inv X a σ H s->t σ H Q->d3 (et X.prog X.w) X.A (ü (C1 pos (hW es X.env))) (AP X a σ Q) X.xe s
abbrev PS(X:Cx)(st:LS)(t:TS):Prop :=
 ∀(a:List (d8×Obj)) (s:d5) (σ:St) (H:Hp) (D:Ends),Inv X a σ H s->t D σ H->d3 (et X.prog X.w) X.A (exec st X.env) (SP X a D) X.xe s
abbrev J8(X:Cx)(st:List LS)(t:TS):Prop :=
 ∀(a:List (d8×Obj)) (s:d5) (σ:St) (H:Hp) (D:Ends),Inv X a σ H s->t D σ H->d3 (et X.prog X.w) X.A (execs st X.env) (SP X a D) X.xe s
def I0(h:d3 M A t Q E s)(b:∀a s,Q a s->Q' a s):d3 M A t Q' E s:=my h b λ_ _ x=>x
section
abbrev HI(i:Nat):TE:=λσ H Q=>∃v,σ[i]?=a5 (a5 v)/\Q v H
abbrev tC(v:V):TE:=λ_ H Q=>Q v H
def bO(j:X.N[i]?=a5 x)(k:Ks X.env.scope x)(d:(x==("__debug__":Str))=cc:=by decide)(n:(x==("__classdict__":Str))=cc:=by decide):PE X (.Name x pos) (HI i):=by
 intro b s σ H Q I h;have⟨v,e,h⟩:=h;have⟨m,o,hl⟩:=I.loc;have⟨u,r,l⟩:=hl i x v j e k;have a:EP X b σ Q u s:=⟨v,H,I,r,h⟩
 rcases l with⟨hk,p⟩|⟨hk,c,f,g⟩
 .show ë (Ï I.ok.kind hk o p a) d
 .rcases hk with hk|hk
  .show ë (à I.ok.kind hk f g a) d
  .show ë (wpAny_loadName_free I.ok.kind hk f g a n) d
def rH:PE X (.Constant (.int i) j pos) (tC (.int i)):=λ_ _ _ H _ I h=>wpAny_Constant_int ⟨.int i,H,I.tok _,⟨_,rfl⟩,h⟩
def tT:PE X (.Constant (.bool b) j pos) (tC (.bl b)):=λ_ _ _ H _ I h=>Constant_bool ⟨.bl b,H,I,rfl,h⟩
def w_:PE X (.Constant .none j pos) (tC .IV):=λ_ _ _ H _ I h=>Constant_none ⟨.IV,H,I,rfl,h⟩
def xb:PE X (.Constant (.str x) j pos) (tC (.str x)):=λ_ _ _ H _ I h=>Calls.Constant_str ⟨.str x,H,I.tok _,⟨_,rfl⟩,h⟩
abbrev Gl(X:Cx)(x:Str):Prop:=X.env.kindOf x=a5 .globalImplicit
def fe(I:Inv X a σ H s)(b:Gl X x)(c:X.mg x=a5 u)(h:Q u s)
  (d:(x==("__debug__":Str))=cc:=by decide):d3 (et X.prog X.w) X.A (u7 (.Name x pos) X.env) Q E s :=
 Wy I.ok.kind b (Calls.loadGlobal_global (by rw[I.ok.glob];show I.mod.glob.keeps I.bk) c h) d
def dh(I:Inv X a σ H s)(b:Gl X x)(c:X.mg x=b8)(d:t7 x=a5 u)(h:Q u s)
  (e:x≠"__name__":=by decide) (f:(x==("__debug__":Str))=cc:=by decide):d3 (et X.prog X.w) X.A (u7 (.Name x pos) X.env) Q E s:=by
 have⟨j,g,i⟩:=I.mod.blt;show Wy I.ok.kind b (Calls.loadGlobal_builtin (by rw[I.ok.glob];show I.mod.glob.keeps I.bk) c (by rw[I.ok.blt];show g.keeps I.bk) ((i x e).trans d) h) f
def As(a:Gl X x)(b:X.mg x=a5 u)(r:RelV v u)(c:(x==("__debug__":Str))=cc:=by decide):PE X (.Name x pos) (tC v) :=
 λ_ _ _ H _ I h=>fe I a b ⟨v,H,I,r,h⟩ c
def tU(a:Gl X x)(b:X.mg x=b8)(c:t7 x=a5 u)(r:RelV v u)(d:x≠"__name__":=by decide)(e:(x==("__debug__":Str))=cc:=by decide):PE X (.Name x pos) (tC v) :=
 λ_ _ _ H _ I h=>dh I a b c ⟨v,H,I,r,h⟩ d e
abbrev PC(X:Cx)(d:CmpOp)(a b:l0)(t:TE):Prop :=
 ∀(c:List (d8×Obj)) (s:d5) (σ:St) (H:Hp) (Q:VK),Inv X c σ H s->t σ H Q ->
  d3 (et X.prog X.w) X.A (u7 a X.env) (λv e=>d3 (et X.prog X.w) X.A (u7 b X.env) (λu f=>d3 (et X.prog X.w) X.A (N3 d v u) (EP X c σ Q) X.xe f) X.xe e) X.xe s
abbrev tB(t:TE):TT:=λσ H Q=>t σ H λx a=>∃c,x=.bl c/\Q c a
def xf(h:PC X g a b t)(f:Q6 g b=cc:=by first|show o _ (by decide) (by decide)|rfl):PT X (.Compare a [g] [b] pos) (tB t):=by
 intro e s σ H Q I i;show Ç (I0 (h e s σ H _ I i) λv s1 f=>I0 f λu s2 j=>I0 j λc s3 ⟨x,k,l,m,n⟩=>?_) f;have⟨d,rfl,q⟩:=n;cases m;show LC ⟨k,l,q⟩
abbrev HJ(t u:TT):TT:=λσ H Q=>t σ H λc a=>if c=b6 then u σ a Q else Q cc a
abbrev Wn(t u:TT):TT:=λσ H Q=>t σ H λc a=>if c=b6 then Q b6 a else u σ a Q
abbrev HK(t:TT):TT:=λσ H Q=>t σ H λc a=>Q (!c) a
def Au(d:PT X a f):PW X (.BoolOp .And [a] pos) f:=by
 intro g b s σ H Q I h;show isTrue_and (I0 (d b s σ H Q I h) λc s1 e=>?_);cases c with
 |true=>show ĸ e
 |false=>show e
def Dp(d:PT X a f):PW X (.BoolOp .Or [a] pos) f:=by
 intro g b s σ H Q I h;show isTrue_or (I0 (d b s σ H Q I h) λc s1 e=>?_);cases c with
 |false=>show isTrue_or_nil e
 |true=>show e
def Dq(i:PT X a j)(k:PW X (.BoolOp .And (b::rest) pos) l):PW X (.BoolOp .And (a::b::rest) pos) (HJ j l):=by
 intro m d s σ H Q I h;show isTrue_and (I0 (i d s σ H _ I h) λc s1 n=>?_);have⟨e,f,g⟩:=n;cases c with
 |true=>show k m d s1 σ e Q f g
 |false=>show⟨e,f,g⟩
def Fy(i:PT X a j)(k:PW X (.BoolOp .Or (b::rest) pos) l):PW X (.BoolOp .Or (a::b::rest) pos) (Wn j l):=by
 intro m d s σ H Q I h;show isTrue_or (I0 (i d s σ H _ I h) λc s1 n=>?_);have⟨e,f,g⟩:=n;cases c with
 |true=>show⟨e,f,g⟩
 |false=>show k m d s1 σ e Q f g
def Dr(d:PT X a e):PT X (.UnaryOp .Not a pos) (HK e):=by
 intro b s σ H Q I h;show isTrue_not (d b s σ H (λc f=>Q (!c) f) I h)
abbrev Fz(b d:TE):TE:=λσ H Q=>b σ H λx a=>∃c,x=.bl c/\if c=b6 then d σ a Q else Q (.bl cc) a
abbrev FA(a:TE):TE:=λσ H Q=>a σ H λx b=>∃c,x=.bl c/\Q (.bl (!c)) b
def Ds(h:PE X a t):PE X (.BoolOp d [a] pos) t:=λb s σ H Q I c=>BoolOp_one (h b s σ H Q I c)
def Dt(i:PE X a j)(k:PE X (.BoolOp .And (b::rest) pos) l):PE X (.BoolOp .And (a::b::rest) pos) (Fz j l):=by
 intro d s σ H Q I h;show BoolOp_and (I0 (i d s σ H _ I h) λv s1 m=>?_);have⟨x,f,g,n,e⟩:=m;have⟨c,rfl,e⟩:=e;cases n;show LC ?_;cases c with
 |true=>show k d s1 σ f Q g e
 |false=>show⟨.bl cc,f,g,rfl,e⟩
def Du(e:PE X a f):PE X (.UnaryOp .Not a pos) (FA f):=by
 intro b s σ H Q I h;show UnaryOp_ (I0 (e b s σ H _ I h) λv s1 g=>?_);have⟨x,i,j,k,d⟩:=g;have⟨c,rfl,d⟩:=d;cases k;show not_of (LC ⟨.bl (!c),i,j,rfl,d⟩)
abbrev Wt(t:TT)(b d:TE):TE:=λσ H Q=>t σ H λc a=>if c=b6 then b σ a Q else d σ a Q
def xg(j:PT X c k)(l:PE X a m)(n:PE X b o):PE X (.IfExp c a b pos) (Wt k m o):=by
 intro e s σ H Q I h;show wpAny_IfExp (I0 (j e s σ H _ I h) λd s1 p=>?_);have⟨f,g,i⟩:=p;cases d with
 |true=>show l e s1 σ f Q g i
 |false=>show n e s1 σ f Q g i
end
abbrev Jw(K:PySem.W.Frag)(H:Hp)(a:d8)(xs:List V):Prop :=
 Rd H a (.lst xs) \/
  ∃(o:Obj) (b:Array dV) (n:Nat),K.lookup a=a5 o/\o.cls=.type "list"/\o.dict=b8/\o.data=.seq b n/\b.size<=cL/\Vals xs b.toList
abbrev JI(K:PySem.W.Frag)(H:Hp)(a:d8)(xs:List V):Prop :=
 Rd H a (.tup xs) \/
  ∃(o:Obj) (b:Array dV) (n:Nat),K.lookup a=a5 o/\o.cls=.type "tuple"/\o.data=.seq b n/\b.size<=cL/\Vals xs b.toList
abbrev HL:dV->Option V
 |.none=>a5 .IV
 |.bool b=>a5 (.bl b)
 |.int i _=>a5 (.int i)
 |.str x _=>a5 (.str x)
 |.bytes b _=>a5 (.QT b)
 |.float b _=>a5 (.QU b)
 |.ref a=>a5 (.ref a)
 |.type n=>a5 (.ty n)
 |_=>b8
def RelV.abs(r:RelV x u):HL u=a5 x:=by
 cases x with
 |IV=>cases r;rfl
 |bl _=>cases r;rfl
 |ref _=>cases r;rfl
 |ty _=>cases r;rfl
 |_=>have⟨t,rfl⟩:=r;rfl
def RelV.inj(r:RelV x u)(q:RelV y u):x=y:=ts (r.abs.symm.trans q.abs)
theorem Vals.inj:∀{xs a:List V}{us:List dV},Vals xs us->Vals a us->xs=a
 |_,_,_,.nil,.nil=>rfl
 |_,_,_,.cons r t,.cons b t'=>by rw[r.inj b,Vals.inj t t']
section
def Jw.of{K:PySem.W.Frag}(h:H a=a5 (.lst xs)):Jw K H a xs:=.inl (.inl h)
def JI.of{K:PySem.W.Frag}(h:H a=a5 (.tup xs)):JI K H a xs:=.inl (.inl h)
def Inv.list(I:Inv X c σ H s)(h:Jw X.K H a xs):∃b:List dV,Vals xs b/\PlainL s.heap a b.toArray/\xs.length<=cL:=by
 rcases h with h|⟨o,b,n,hk,d,f,hs,hz,r⟩
 .have⟨z,b,n,r,e⟩:=h.ok I.IS;show⟨b,r,⟨_,n,e,rfl,rfl,rfl⟩,z⟩
 .show⟨b.toList,r,⟨o,n,I.Mm a o hk,d,f,by simpa using hs⟩,?_⟩;have e:=r.length;simp only[gj]at e;lia
def Inv.tuple(I:Inv X c σ H s)(h:JI X.K H a xs):∃b:List dV,Vals xs b/\ĺ s.heap a b.toArray/\xs.length<=cL:=by
 rcases h with h|⟨o,b,n,hk,d,hs,hz,r⟩
 .have⟨z,b,r,p⟩:=h.ok I.IS;show⟨b,r,p,z⟩
 .show⟨b.toList,r,⟨o,I.Mm a o hk,d,n,by simpa using hs⟩,?_⟩;have e:=r.length;simp only[gj]at e;lia
def Inv.pQ(I:Inv X b σ H s)(h:Jw X.K H a xs)(h':Jw X.K H a f):xs=f:=by
 obtain⟨g,r,⟨o,n,e,_,_,d⟩,_⟩:=I.list h;obtain⟨its',i,⟨o',k,c,_,_,d'⟩,_⟩:=I.list h';rw[e]at c;cases c;rw[d]at d';injection d' with j _
 have:g=its':=by simpa using Ł X8 j
 subst this;show r.inj i
def Inv.mH(I:Inv X b σ H s)(h:JI X.K H a xs)(h':JI X.K H a f):xs=f:=by
 obtain⟨g,r,⟨o,e,_,n,d⟩,_⟩:=I.tuple h;obtain⟨its',i,⟨o',c,_,k,d'⟩,_⟩:=I.tuple h';rw[e]at c;cases c;rw[d]at d';injection d' with j _
 have:g=its':=by simpa using Ł X8 j
 subst this;show r.inj i
end
@[reducible]def Cx.jX(X:Cx)(E:dV->d5->Prop):Cx:={X with xe:=E}
@[reducible]def Cx.LK(X:Cx):Cx:=X.jX λ_ _=>False
def Cx.Ok.jX{X:Cx}(a:X.Ok)(E:dV->d5->Prop):(X.jX E).Ok :=
 ⟨a.mod,a.kind,a.glob,a.blt,a.above,a.inj,a.has,a.OS,a.hd,a.frames,a.Pu,a.RQ,a.bs,a.M0,a.LW,a.Ml,a.jW,a.NR⟩
def Cx.Ok.fO{X:Cx}(a:(X.jX E).Ok):X.Ok :=
 ⟨a.mod,a.kind,a.glob,a.blt,a.above,a.inj,a.has,a.OS,a.hd,a.frames,a.Pu,a.RQ,a.bs,a.M0,a.LW,a.Ml,a.jW,a.NR⟩
section
def Inv.jX(I:Inv X a σ H s)(E:dV->d5->Prop):Inv (X.jX E) a σ H s:=⟨I.ok.jX E,I.os,I.bare,I.base,I.loc,I.cell,I.free,I.Jr,I.pin,I.IS,I.len⟩
def Inv.fO(I:Inv (X.jX E) a σ H s):Inv X a σ H s:=⟨I.ok.fO,I.os,I.bare,I.base,I.loc,I.cell,I.free,I.Jr,I.pin,I.IS,I.len⟩
def SP.fO(h:SP (X.jX E) a D f s'):SP X a D f s':=by
 cases f with
 |ret u=>have⟨v,b,H',I,r,q⟩:=h;show⟨v,b,H',I.fO,r,q⟩
 |_=>have⟨b,H',I,q⟩:=h;show⟨b,H',I.fO,q⟩
def J8.LK{st:List LS}(h:J8 X.LK st t):J8 X st t:=λa s σ H D I b =>
 my (h a s σ H D (I.jX _) b) (λ_ _ q=>q.fO) λ_ _ z=>Mg z
end
section
variable{X:Cx}{st:LS}{rest:List LS}{t u:TS}{e:l0}{te:TE}{pos:Pos}
abbrev FC:TS:=λD σ H=>D.nx σ H
abbrev HM(t u:TS):TS:=λD σ H=>t {D with nx:=u D} σ H
def tV:J8 X [] FC:=λ_ _ σ H _ I h=>RN ⟨σ,H,I,h⟩
def pR(b:PS X st t)(c:J8 X rest u):J8 X (st::rest) (HM t u):=by
 intro a s σ H D I h;show č (I0 (b a s σ H {D with nx:=u D} I h) λf s1 q=>?_);cases f with
 |next =>
  have⟨d,H',g,q⟩:=q;show c a s1 d H' D g q
 |_=>show q
def Inv.quiet(I:Inv X a σ H s):interactive X.env=cc:=by simp[interactive,I.ok.kind]
abbrev FD(te:TE):TS:=λD σ H=>te σ H λ_ a=>D.nx σ a
def kb(b:PE X e te)(hs:OT e b8 pos.line X.env=pure cc:=by rfl):PS X (.Expr e pos) (FD te):=by
 intro a s σ H D I h;show ħ (I0 (b a s σ H _ I h) λv s1 ⟨x,c,d,g,f⟩=>⟨σ,c,d,f⟩) I.quiet hs
abbrev HN(te:TE):TS:=λD σ H=>te σ H D.rt
def xh(b:PE X e te):PS X (.Return (a5 e) pos) (HN te):=by
 intro a s σ H D I h;show wpAny_Return_some (I0 (b a s σ H _ I h) λv s1 ⟨x,c,d,f,g⟩=>⟨x,σ,c,d,f,g⟩)
abbrev FE:TS:=λD _ H=>D.rt .IV H
def Av:PS X (.Return b8 pos) FE:=λ_ _ σ H _ I h=>wpAny_Return_none ⟨.IV,σ,H,I,rfl,h⟩
abbrev HP(c:TT)(t u:TS):TS:=λD σ H=>c σ H λb a=>if b=b6 then t D σ a else u D σ a
def FF(k:PT X c l)(m:J8 X a t)(n:J8 X b u):PS X (.If c a b pos) (HP l t u):=by
 intro f s σ H D I h;show wpAny_If (I0 (k f s σ H _ I h) λd s1 o=>?_);have⟨g,i,j⟩:=o;cases d with
 |true=>show m f s1 σ g D i j
 |false=>show n f s1 σ g D i j
end
@[reducible]def TG:=V->St->Hp->(St->Hp->Prop)->Prop
@[reducible]def OW:=List V->St->Hp->(St->Hp->Prop)->Prop
abbrev PG(X:Cx)(a:l0)(t:TG):Prop :=
 ∀(b:List (d8×Obj)) (s:d5) (σ:St) (H:Hp) (v:V) (u:dV) (Q:St->Hp->Prop),Inv X b σ H s->RelV v u->t v σ H Q ->
  d3 (et X.prog X.w) X.A (Sh a X.env u) (λ_ s'=>∃c H',Inv X b c H' s'/\Q c H') X.xe s
abbrev Pz(X:Cx)(c:List l0)(t:OW):Prop :=
 ∀(a:List (d8×Obj)) (s:d5) (σ:St) (H:Hp) (vs:List V) (us:List dV) (Q:St->Hp->Prop),Inv X a σ H s->Vals vs us->t vs σ H Q ->
  d3 (et X.prog X.w) X.A (assignInOrder ((P' c X.env).map (·.2)) us) (λ_ s'=>∃b H',Inv X a b H' s'/\Q b H') X.xe s
@[reducible]def Dv:=V->V->V->Hp->(Hp->Prop)->Prop
abbrev om(X:Cx)(t:Dv):Prop :=
 ∀(a:List (d8×Obj)) (s:d5) (σ:St) (H:Hp) (o i v:V) (b c u:dV) (Q:Hp->Prop),Inv X a σ H s->RelV o b->RelV i c->RelV v u->t o i v H Q ->
  d3 (et X.prog X.w) X.A (Tt b c u) (λ_ s'=>∃H',Inv X a σ H' s'/\Q H') X.xe s
@[reducible]def QY:=V->V->Hp->VK->Prop
abbrev PB(X:Cx)(b:Ô)(t:QY):Prop :=
 ∀(a:List (d8×Obj)) (s:d5) (σ:St) (H:Hp) (x y:V) (v u:dV) (Q:VK),Inv X a σ H s->RelV x v->RelV y u->t x y H Q ->
  d3 (et X.prog X.w) X.A (inplaceOp b v u) (EP X a σ Q) X.xe s
section
abbrev tW(i:Nat):TG:=λv σ H Q=>Q (σ.set i (a5 v)) H
def tX(b:X.N.Nodup)(c:X.N[i]?=a5 x)(d:Loc X.env.scope x)(e:X.fn x=b6\/X.env.scope.names.lookup x=a5 .local:=by first|show .inl rfl|show .inr rfl|assumption):PG X (.Name x pos) (tW i):=by
 intro a s σ H v u Q I r h;show ú (fN I b c d r (λs' f=>⟨_,H,f,h⟩) e)
abbrev FG:OW:=λvs σ H Q=>vs=[]/\Q σ H
abbrev CH(t:TG)(u:OW):OW:=λvs σ H Q=>∃v r,vs=v::r/\t v σ H λa H'=>u r a H' Q
def Aw:Pz X [] FG:=by
 intro a s σ H vs us Q I r h;have⟨e,h⟩:=h;subst e;cases r;show assignInOrder_nil ⟨σ,H,I,h⟩
def xj(b:PG X e t)(c:Pz X es u)
  (hs:(P' (e::es) X.env).map (·.2)=Sh e X.env::(P' es X.env).map (·.2):=by rfl):Pz X (e::es) (CH t u):=by
 intro a s σ H vs us Q I r h;have⟨v,m,d,h⟩:=h;subst d;cases r with
 |cons r f =>
  rw[hs];show assignInOrder_cons (I0 (b a s σ H _ _ _ I r h) λ_ s1 g=>?_);have⟨i,j,k,l⟩:=g;show c a s1 i j _ _ Q k f l
abbrev HQ(K:PySem.W.Frag)(n:Nat)(t:OW):TG:=λv σ H Q=>∃a xs,v=.ref a/\JI K H a xs/\xs.length=n/\t xs σ H Q
def Dw(f:X.calm=b6)(h:Pz X es t)
  (g:(P' es X.env).length=n:=by rfl) (i:(P' es X.env).findIdx? (·.1)=b8:=by rfl):PG X (.Tuple es k pos) (HQ X.K n t):=by
 intro c s σ H v u Q I r d;have⟨a,xs,j,l,hl,d⟩:=d;subst j;cases r;have⟨w,rv,m,hz⟩:=I.tuple l;show assign_Tuple_tuple (I.ok.hd f) m (by simp[g,<-hl,rv.length]) i λh' p=>?_;have q:Inv X c σ H {s with heap:=h' }:=I.kept (t':=s.toks) λb o e=>p b o (hH (eh e)) e;show h c _ σ H xs _ Q q (by simpa using rv) d
abbrev HR(a b:TE)(t:Dv):TG:=λv σ H Q=>a σ H λo c=>b σ c λi d=>t o i v d λe=>Q σ e
def xm(ho:PE X o d)(e:PE X i f)(hs:om X t)
  (g:∀v,Sh (.Subscript o i pos) X.env v=(do
   let b <-Mj [v] (u7 o X.env)
   let c <-Mj [v,b] (u7 i X.env)
   X' pos
   Mj [v,b,c] (Tt b c v)
   Wo [v,b,c] []):=by intro _;rfl):PG X (.Subscript o i pos) (HR d f t):=by
 intro a s σ H v u Q I r h;rw[g];show bD (tA (I0 (ho a s σ H _ I h) λb s1 j=>?_));have⟨x,k,l,m,n⟩:=j;show bD (tA (I0 (e a s1 σ k _ l n) λc s2 p=>?_));have⟨y,q,w,z,A⟩:=p;show bD (Zj (bD (tA (I0 (hs a s2 σ q x y v b c u _ w m z r A) λ_ s3 B=>?_))));have⟨C,D,G⟩:=B;show wpAny_release ⟨σ,C,D,G⟩
abbrev Dx(a:TE)(g:TG):TS:=λD σ H=>a σ H λx b=>g x σ b D.nx
def rJ(c:PE X e d)(f:PG X b g)(hs:Q5 [b] e pos.line X.env=pure cc:=by rfl)(i:Vq [b] e X.env=pure b8:=by rfl)
  (j:(P' [b] X.env).map (·.2)=[Sh b X.env]:=by rfl):PS X (.Assign [b] e pos) (Dx d g):=by
 intro a s σ H D I h;show wpAny_Assign_stores (I0 (c a s σ H _ I h) λv s1 ⟨x,k,l,m,n⟩=>?_) hs i;rw[j];show I0 (f a s1 σ k x v _ l m n) λ_ s2 q=>q
def rK(b:X.N.Nodup)(c:X.N[i]?=a5 x)(d:Loc X.env.scope x)(f:PE X e g)(hs:OT e (a5 (.Name x pos')) pos.line X.env=pure cc:=by rfl)(j:X.fn x=b6\/X.env.scope.names.lookup x=a5 .local:=by first|show .inl rfl|show .inr rfl|assumption):
  PS X (.Assign [.Name x pos'] e pos) (Dx g (tW i)):=by
 intro a s σ H D I h;show û (I0 (f a s σ H _ I h) λv s1 ⟨y,k,l,m,n⟩=>?_) hs;show fN l b c d m (λs2 o=>⟨_,k,o,n⟩) j
abbrev HS(i:Nat)(a:TE)(b:QY):TS:=λD σ H=>∃x,σ[i]?=a5 (a5 x)/\a σ H λy c=>b x y c λz d=>D.nx (σ.set i (a5 z)) d
def Dy(g:X.N.Nodup)(d:X.N[i]?=a5 x)(b:Loc X.env.scope x)(j:PE X e n)(ho:PB X f o)(p:X.fn x=b6\/X.env.scope.names.lookup x=a5 .local:=by first|show .inl rfl|show .inr rfl|assumption):
  PS X (.AugAssign (.Name x pos') f e pos) (HS i n o):=by
 intro a s σ H D I h;have⟨v,q,h⟩:=h;have⟨m,t,hl⟩:=I.loc;have B:Ks X.env.scope x:=by rcases b with k|k;show .inl k;show .inr (.inl k)
 have⟨u,r,l⟩:=hl i x v d q B;show wpAny_AugAssign_Name ?_;have go:d3 (et X.prog X.w) X.A (u7 e X.env) (λw C=>d3 (et X.prog X.w) X.A (inplaceOp f u w) (λr G=>d3 (et X.prog X.w) X.A (đ X.env x r) (λ_=>SP X a D .next) X.xe G) X.xe C) X.xe s:=by
  show I0 (j a s σ H _ I h) λw s1 J=>?_;have⟨y,L,O,Q,T⟩:=J;show I0 (ho a s1 σ L v y u w _ O r Q T) λz s2 Y=>?_;have⟨zv,H2,I2,r2,q2⟩:=Y;show fN I2 g d b r2 (λs3 I3=>⟨_,H2,I3,q2⟩) p
 rcases l with⟨hk,hm⟩|⟨hk,c,hc,LJ⟩
 .show Ï I.ok.kind hk t hm go
 .rcases hk with hk|hk
  .show à I.ok.kind hk hc LJ go
  .rcases b with k|k
   .have:X.env.scope.names.lookup x=a5 .free:=hk;rw[k]at this;cases this
   .have:X.env.scope.names.lookup x=a5 .free:=hk;rw[k]at this;cases this
abbrev FH(a b c:TE)(d:V->V->Hp->VK->Prop)(e:QY)(f:Dv):TS:=λD σ H=>a σ H λo g=>b σ g λi h=>d o i h λx j=>c σ j λy k=>e x y k λz l=>f o i z l λm=>D.nx σ m
abbrev FI(X:Cx)(t:V->V->Hp->VK->Prop):Prop :=
 ∀(a:List (d8×Obj)) (s:d5) (σ:St) (H:Hp) (o i:V) (b c:dV) (Q:VK),Inv X a σ H s->RelV o b->RelV i c->t o i H Q ->
  d3 (et X.prog X.w) X.A (Wr b c) (EP X a σ Q) X.xe s
def Ax(ho:PE X o l)(m:PE X i n)(p:FI X q)(r:PE X e t)(u:PB X w x)(hs:om X y)
  (z:∀b c new,Į i b c new=(do Mj [new,b,c] (Tt b c new);Wo [new,b,c] [];pure .next):=by intros;rfl):PS X (.AugAssign (.Subscript o i WA) w e pos) (FH l n t q x y):=by
 intro a s σ H D I h;show wpAny_AugAssign_SubscriptAny (I0 (ho a s σ H _ I h) λb s1 ⟨f,A,B,g,C⟩=>?_) z;show I0 (m a s1 σ A _ B C) λc s2 G=>?_;have⟨j,J,L,k,N⟩:=G;show I0 (p a s2 σ J f j b c _ L g k N) λd s3 O=>?_;have⟨Q,T,Y,r3,q3⟩:=O;show I0 (r a s3 σ T _ Y q3) λv s4 R3=>?_;have⟨x4,H4,I4,r4,q4⟩:=R3;show I0 (u a s4 σ H4 Q x4 d v _ I4 r3 r4 q4) λnew s5 R4=>?_;have⟨x5,H5,I5,r5,q5⟩:=R4;show I0 (hs a s5 σ H5 f j x5 b c new _ I5 g k r5 q5) λ_ s6 ⟨H6,I6,q6⟩=>⟨σ,H6,I6,q6⟩
abbrev R5(f:Int->Int->Int):QY:=λx y H Q=>∃i j,x=.int i/\y=.int j/\Q (.int (f i j)) H
def xn:PB X .Add (R5 λi j=>i+j):=by
 intro a s σ H x y v u Q I b c h;have⟨i,j,d,e,q⟩:=h;subst d;subst e;have⟨t,rfl⟩:=b;have⟨t',rfl⟩:=c;show iadd_int ⟨.int _,H,I.tok _,⟨_,rfl⟩,q⟩
def Dz:PB X .Sub (R5 λi j=>i - j):=by
 intro a s σ H x y v u Q I b c h;have⟨i,j,d,e,q⟩:=h;subst d;subst e;have⟨t,rfl⟩:=b;have⟨t',rfl⟩:=c;show isub_int ⟨.int _,H,I.tok _,⟨_,rfl⟩,q⟩
end
section
abbrev DA(c:TT)(f:TS):TS:=λD σ H=>∃W:Nat->St->Hp->Prop,(∃m,W m σ H)/\∀m σ H,W m σ H ->
 c σ H λb a=>if b=b6 then ∃N:St->Hp->Prop,(∀d H',N d H'->∃e,e<m/\W e d H')/\f {D with nx:=N,ct:=N,bk:=D.nx} σ a else D.nx σ a
def xp(r:Xp (et X.prog X.w) X.A X.env X.xe)(z:PT X c B)(C:J8 X body G):PS X (.While c body [] pos) (DA B G):=by
 intro a s σ H D I h;obtain⟨W,⟨m0,J⟩,d⟩:=h;show wpAny_While (codeAny_whileLoop (λn s'=>∃t H',Inv X a t H' s'/\W n t H') ?_ m0 ⟨σ,H,I,J⟩);rintro n s1 ⟨i,u,L,O⟩;show NV r (I0 (z a s1 i u _ L (d n i u O)) λb s2 Q=>?_);have⟨v,x,j⟩:=Q;cases b with
 |true =>
  have⟨N,y,j⟩:=j;rw[ļ rfl];show NV r (I0 (C a s2 i v _ x j) λf s3 k=>?_);cases f with
  |next =>
   have⟨e,g,l,m⟩:=k;have⟨o,p,q⟩:=y e g m;show⟨o,p,e,g,l,q⟩
  |cont =>
   have⟨e,g,l,m⟩:=k;have⟨o,p,q⟩:=y e g m;show⟨o,p,e,g,l,q⟩
  |_=>show k
 |false =>
  rw[Ľ i3];show RN ⟨i,v,x,j⟩
end
structure It where
 go:Nat->Hp->Prop
 QZ:Nat->Hp->V->Hp->Prop
 stop:Nat->Hp->Prop
abbrev iA(X:Cx)(a:List (d8×Obj))(H:Hp)(b:d8):Prop :=
 H b=b8/\b≠X.env.locals/\b∉X.fs/\(b∈X.ex\/X.s₀.heap.objs.size<=b)/\(∀x c,X.env.cells.lookup x=a5 c->c≠b)/\∀p∈X.pn++a,p.1≠b
def Inv.xq(I:Inv X a σ H s)(d:s.heap.objs.size<=b)(f:H' b=b8):iA X a H' b:=by
 show⟨f,JC (i0 I.lt d),I.Dn d,.inr (t6 I.sz d),λx c e z=>?_,λp g z=>?_⟩
 .have⟨v,q⟩:=I.cell x c e;show absurd (i0 q.lt (by rw[z];show d)) (t8 _)
 .show absurd (i0 (eh (I.pin p g).1) (by rw[z];show d)) (t8 _)
structure Turn(P:u3)(w:ve)(K:PySem.W.Frag)(tg:l0)(J:It)(fp:List d8)(it:d8)(tn:Nat->Jv->Prop):Prop where
 mem:it∈fp
 obj:∀i h,tn i h->∀b∈fp,∃o,h.get? b=a5 o/\∀v,o.data≠.cell v
 keep:∀i h h',tn i h->(∀b∈fp,∀o,h.get? b=a5 o->h'.get? b=a5 o)->tn i h'
 item:∀(X:Cx),X.prog=P->X.w=w->X.K=K->X.calm=b6->∀(i:Nat) (pins:List (d8×Obj)) (s:d5) (σ:St) (H:Hp) (E:dV->d5->Prop),Inv X pins σ H s->(∀b∈fp,iA X pins H b)->tn i s.heap->J.go i H ->
  d3 (et P w) X.A (Tx (.ref it)) (λr s1=>∃u,r=a5 u /\
   d3 (et P w) X.A (Ud tg (.ref it) u) (λ_ s2=>∃x H',Inv X pins σ H' s2/\RelV x u/\J.QZ i H x H'/\tn (i+1) s2.heap/\∀b∈fp,H' b=b8) E s1) E s
 done:∀(X:Cx),X.prog=P->X.w=w->X.K=K->X.calm=b6->∀(i:Nat) (pins:List (d8×Obj)) (s:d5) (σ:St) (H:Hp) (E:dV->d5->Prop),Inv X pins σ H s->(∀b∈fp,iA X pins H b)->tn i s.heap->J.stop i H ->
  d3 (et P w) X.A (Tx (.ref it)) (λr s1=>r=b8/\Inv X pins σ H s1) E s
 self:∀(A:M4) (i:Nat) (s:d5) (Q:dV->d5->Prop) (E:dV->d5->Prop),tn i s.heap->Q (.ref it) s->d3 (et P w) A (YX (.ref it)) Q E s
@[reducible]def TI:=St->Hp->(It->Hp->Prop)->Prop
abbrev U5(X:Cx)(a:List (d8×Obj))(σ:St)(e:l0)(R:It->Hp->Prop)(f:dV)(s2:d5):Prop :=
 ∃(it:d8) (c:List d8) (d:Nat->Jv->Prop) (J:It) (H':Hp),f=.ref it/\Inv X a σ H' s2/\Turn X.prog X.w X.K e J c it d/\d 0 s2.heap/\(∀b∈c,iA X a H' b)/\R J H'
abbrev PI(X:Cx)(c b:l0)(d:TI):Prop :=
 ∀(a:List (d8×Obj)) (s:d5) (σ:St) (H:Hp) (R:It->Hp->Prop),Inv X a σ H s->d σ H R ->
  d3 (et X.prog X.w) X.A (u7 b X.env) (λv s1=>d3 (et X.prog X.w) X.A (YX v) (U5 X a σ c R) X.xe s1) X.xe s
def xr(ho:s.heap.get? it=a5 o)(b:o.cls=.type n)(c:o.data=.fields vs)
    (d:["enumerate","zip","dict_itemiterator","dict_reverseitemiterator","odict_iterator","itertools.zip_longest","itertools.pairwise"].contains n=cc) (a:Q () s):d3 M A (Ud e (.ref it) u) Q E s:=by
  unfold Ud;cases e<;>first
    | show df a
    | (cases u<;>first
        | show df a
        | (show bD (é ho ?_)
           rw[b,c];change d3 M A (if (["enumerate","zip","dict_itemiterator","dict_reverseitemiterator","odict_iterator","itertools.zip_longest","itertools.pairwise"].contains n&&vs[0]?==a5 (uv _))=b6 then _ else _) Q E s;rw[Ľ (by intro h;rw[d,è]at h;cases h)];show df a))
abbrev R7(K:PySem.W.Frag)(a:d8):It :=
 ⟨λi H=>∃xs x,Jw K H a xs/\xs[i]?=a5 x,λi H x H'=>H'=H/\∀xs,Jw K H a xs->xs[i]?=a5 x,λi H=>∃xs,Jw K H a xs/\xs.length<=i⟩
abbrev R8(K:PySem.W.Frag)(a:d8):It :=
 ⟨λi H=>∃xs x,JI K H a xs/\xs[i]?=a5 x,λi H x H'=>H'=H/\∀xs,JI K H a xs->xs[i]?=a5 x,λi H=>∃xs,JI K H a xs/\xs.length<=i⟩
abbrev Q1(lo:Int)(n:Nat):It:=⟨λi _=>i<n,λi H x H'=>H'=H/\x=.int (lo+i),λi _=>n<=i⟩
def vL{K:PySem.W.Frag}(a it:d8):Turn P w K tg (R7 K a) [it] it (λi h=>h.IsListIter it a i) where
 mem:=by simp
 obj:=λi h st b g=>by
  have e:b=it:=by simpa using g
  subst e;have⟨o,e,c,d⟩:=st;show⟨o,e,λv z=>by rw[d]at z;cases z⟩
 keep:=λi h h' st k=>st.at λo e=>k it (by simp) o e
 item:=by
  intro X m n q G i f s σ H E I j st r;subst m n q;have⟨xs,x,l,t⟩:=r;have⟨J,rv,p,hz⟩:=I.list l;have⟨u,L,N⟩:=rv.get t;have⟨y,A,O,B,C,D⟩:=j it (by simp);show wpAny_pyNext_list_item st p.isList (x:=u) (by simpa using L) λh' st' Q=>?_;have T:Inv X f σ H {s with heap:=h' }:=I.turned (t':=s.toks) (λb o g e=>(Q.2 b g).trans e) y A B C D;have⟨o,e,c,d⟩:=id st';show⟨u,rfl,xr (s:={s with heap:=h' }) e c d (by decide) ⟨x,H,T,N,⟨rfl,λys Y=>by rw[I.pQ Y l];show t⟩,st',λb g=>(j b g).1⟩⟩
 done:=by
  intro X m n q G i f s σ H E I j st r;subst m n q;have⟨xs,l,t⟩:=r;have⟨J,rv,p,hz⟩:=I.list l;have⟨y,A,O,B,C,D⟩:=j it (by simp);have hl:=rv.length;show wpAny_pyNext_list_end (I.ok.hd G) st p.isList (by simp;lia) λh' eb=>⟨rfl,I.turned (t':=s.toks) (λb o g e=>eb b o g e) y A B C D⟩
 self:=λ_ _ _ _ _ st h=>wpAny_pyIter_listiter st h
def rL{K:PySem.W.Frag}(a it:d8):Turn P w K tg (R8 K a) [it] it (λi h=>h.IsTupleIter it a i) where
 mem:=by simp
 obj:=λi h st b g=>by
  have e:b=it:=by simpa using g
  subst e;have⟨o,e,c,d⟩:=st;show⟨o,e,λv z=>by rw[d]at z;cases z⟩
 keep:=λi h h' st k=>st.at λo e=>k it (by simp) o e
 item:=by
  intro X m n q J i f s σ H E I j st r;subst m n q;have⟨xs,x,l,t⟩:=r;have⟨y,rv,p,hz⟩:=I.tuple l;have⟨u,L,N⟩:=rv.get t;have⟨A,B,O,C,D,G⟩:=j it (by simp);show wpAny_pyNext_tuple_item st (show s.heap.IsTuple a y.toArray from p) (x:=u) (by simpa using L) λh' st' Q=>?_;have T:Inv X f σ H {s with heap:=h' }:=I.turned (t':=s.toks) (λb o g e=>(Q.2 b g).trans e) A B C D G;have⟨o,e,c,d⟩:=id st';show⟨u,rfl,xr (s:={s with heap:=h' }) e c d (by decide) ⟨x,H,T,N,⟨rfl,λys Y=>by rw[I.mH Y l];show t⟩,st',λb g=>(j b g).1⟩⟩
 done:=by
  intro X m n q J i f s σ H E I j st r;subst m n q;have⟨xs,l,t⟩:=r;have⟨y,rv,p,hz⟩:=I.tuple l;have⟨A,B,O,C,D,G⟩:=j it (by simp);have hl:=rv.length;show wpAny_pyNext_tuple_end (I.ok.hd J) st (show s.heap.IsTuple a y.toArray from p) (by simp;lia) λh' eb=>⟨rfl,I.turned (t':=s.toks) (λb o g e=>eb b o g e) A B C D G⟩
 self:=λ_ _ _ _ _ st h=>wpAny_pyIter_tupleiter st h
def rM{K:PySem.W.Frag}(it:d8)(lo:Int)(n:Nat):Turn P w K L (Q1 lo n) [it] it (λi h=>IsRangeIter h it (lo+(i:Nat) * 1) ((n:Int) - (i:Nat)) 1) where
 mem:=by simp
 obj:=λi h st b c=>by
  have e:b=it:=by simpa using c
  subst e;show⟨_,st,λv z=>by
   have A:Tg _=X6 v:=z;cases A⟩
 keep:=λi h h' st k=>k it (by simp) _ st
 item:=by
  intro X f g j l i a s σ H E I d st m;subst f g j;have⟨p,q,B,r,u,x⟩:=d it (by simp);have W:=Walks.range (prog:=X.prog) (w:=X.w) (I.ok.hd l) it lo 1 n;show W.item i s _ _ m st λv h' y C st' D=>?_;have⟨t,rfl⟩:=C;have G:Inv X a σ H {s with heap:=h',toks:=y}:=I.turned (λb o c e=>D b o (by simpa using c) e) p q r u x;show⟨_,rfl,xr (s:={s with heap:=h',toks:=y}) (n:="range_iterator") st' rfl rfl (by decide) ⟨.int (lo+i),H,G,⟨t,?_⟩,⟨rfl,rfl⟩,st',λb c=>(d b c).1⟩⟩;rw[Int.mul_one]
 done:=by
  intro X f g j l i a s σ H E I d st m;subst f g j;have⟨p,q,B,r,u,x⟩:=d it (by simp);show wpAny_pyNext_range_end (I.ok.hd l) st (by have:n<=i:=m;lia) λh' J=>⟨rfl,I.turned (t':=s.toks) (λb o c e=>J b o c e) p q r u x⟩
 self:=λ_ _ _ _ _ st h=>wpAny_pyIter_rangeiter st h
section
abbrev FJ(K:PySem.W.Frag)(c:TE):TI:=λσ H R=>c σ H λx b=>∃a,x=.ref a/\(∃xs,Jw K b a xs)/\R (R7 K a) b
abbrev HU(K:PySem.W.Frag)(c:TE):TI:=λσ H R=>c σ H λx b=>∃a,x=.ref a/\(∃xs,JI K b a xs)/\R (R8 K a) b
def Ay(hl:PE X l f):PI X r l (FJ X.K f):=by
 intro c s σ H R I h;show I0 (hl c s σ H _ I h) λv s1 g=>?_;have⟨x,i,d,j,k⟩:=g;obtain⟨a,e,⟨xs,m⟩,q⟩:=k;subst e;cases j;have⟨t,rv,p,hz⟩:=d.list m;show V3 p.isList ?_;show⟨s1.heap.objs.size,[s1.heap.objs.size],_,_,i,rfl,d.kept (t':=s1.toks) λb o e=>c2 _ e,vL a _,⟨_,ez _ rfl,rfl,rfl⟩,λb n=>?_,q⟩;have e:b=s1.heap.objs.size:=by simpa using n
 subst e;show d.xq (hU _) (d.IS.fresh (hU _))
def DB(hl:PE X l f):PI X t l (HU X.K f):=by
 intro c s σ H R I h;show I0 (hl c s σ H _ I h) λv s1 g=>?_;have⟨x,i,d,j,k⟩:=g;obtain⟨a,e,⟨xs,m⟩,q⟩:=k;subst e;cases j;have⟨n,rv,p,hz⟩:=d.tuple m;show P7 (show s1.heap.IsTuple a n.toArray from p) ?_;show⟨s1.heap.objs.size,[s1.heap.objs.size],_,_,i,rfl,d.kept (t':=s1.toks) λb o e=>c2 _ e,rL a _,⟨_,ez _ rfl,rfl,rfl⟩,λb r=>?_,q⟩;have e:b=s1.heap.objs.size:=by simpa using r
 subst e;show d.xq (hU _) (d.IS.fresh (hU _))
def xu{lo a:Int}(I:Inv X c σ H s)(g:-(2 ^ 62)<=lo)(h:lo<2 ^ 62)(i:-(2 ^ 62)<=a)(j:a<2 ^ 62)
  (q:R (Q1 lo (a - lo).toNat) H):d3 (et X.prog X.w) X.A (YX (.ref s.heap.objs.size)) (U5 X c σ n R) E {s with heap:=s.heap.push {cls:=.type "range",data:=.fields #[.int lo t,.int a u,.int 1 v]},toks:=f}:=by
 show wpAny_pyIter_range (IsRange.new ..) (small_one g h i j) ?_;have d:Inv X c σ H {s with heap:=s.heap.push {cls:=.type "range",data:=.fields #[.int lo t,.int a u,.int 1 v]},toks:=f}:=I.kept λb o e=>c2 _ e;show⟨(s.heap.push {cls:=.type "range",data:=.fields #[.int lo t,.int a u,.int 1 v]}).objs.size,[(s.heap.push {cls:=.type "range",data:=.fields #[.int lo t,.int a u,.int 1 v]}).objs.size],_,_,H,rfl,
  d.kept (t':=f) λb o e=>c2 _ e,rM _ lo (a - lo).toNat,?_,λb k=>?_,q⟩
 .have l:lo+((0:Nat):Int) * 1=lo:=by simp
  have m:(((a - lo).toNat:Nat):Int) - ((0:Nat):Int)=Ę lo a 1:=by rw[rangeSize_one];split<;>lia
  change IsRangeIter _ _ (lo+((0:Nat):Int) * 1) ((((a - lo).toNat:Nat):Int) - ((0:Nat):Int)) 1;rw[l,m];show ez _ rfl
 .have e:b=(s.heap.push {cls:=.type "range",data:=.fields #[.int lo t,.int a u,.int 1 v]}).objs.size:=by simpa using k
  subst e;show d.xq (hU _) (d.IS.fresh (hU _))
abbrev FK(a:TA):TI:=λσ H R=>a σ H λvs b=>∃j:Int,vs=[.int j]/\-(2 ^ 62)<=j/\j<2 ^ 62/\R (Q1 0 j.toNat) b
def vM(d:Gl X "range")(f:X.mg "range"=b8)(g:PA X [a] i)(hs:hW [a] X.env=[(cc,u7 a X.env)]:=by rfl):PI X o (.Call (.Name "range" p) [a] [] pos) (FK i):=by
 intro b s σ H R I h;show Call_ (dh I d f boot_range (LX (I0 (g pos b s σ H _ I h) λus s1 ⟨vs,u,k,l,c⟩=>?_) hs rfl));have⟨j,e,c,m,q⟩:=c;subst e;cases l with
 |cons r n =>
  cases n;have⟨t,rfl⟩:=r;show call_range_1 (xu k ⋯ ⋯ c m (by simpa using q))
abbrev HV(c:TI)(g:TG)(d:TS):TS:=λD σ H=>c σ H λJ e=>∃W:Nat->Nat->St->Hp->Prop,(∃m,W 0 m σ e)/\∀i m σ H,W i m σ H ->
 (J.stop i H/\D.nx σ H)\/(J.go i H/\∃N:St->Hp->Prop,(∀a H',N a H'->∃b,b<m/\W (i+1) b a H')/\∀x H',J.QZ i H x H'->g x σ H' λf h=>d {D with nx:=N,ct:=N,bk:=D.nx} f h)
abbrev kH(a:List d8)(h:Jv):List (d8×Obj):=a.filterMap λb=>(h.get? b).map λo=>(b,o)
def ff(a:b∈c)(e:h.get? b=a5 o):(b,o)∈kH c h:=Px.mpr ⟨b,a,by rw[e];rfl⟩
def vN(a:p∈kH c h):p.1∈c/\h.get? p.1=a5 p.2:=by
 have⟨b,d,e⟩:=Px.mp a;cases q:h.get? b with
 |none=>rw[q]at e;cases e
 |some o =>
  rw[q]at e;have f:(b,o)=p:=ts e;subst f;show⟨d,q⟩
def Inv.pinned(I:Inv X a σ H s)(h:∀b∈c,iA X a H b)(ho:∀b∈c,∃o,s.heap.get? b=a5 o/\∀v,o.data≠.cell v):Inv X (a++kH c s.heap) σ H s :=
 I.eI λp i=>(i1.mp i).elim (λz=>I.pin p (kj _ z)) λz=>by
  have⟨f,e⟩:=vN z;obtain⟨j,k,l,_⟩:=h p.1 f;have⟨o,g,d⟩:=ho p.1 f;rw[e]at g;cases g;show⟨e,j,k,l,d⟩
def Inv.kI(I:Inv X (a++c) σ H s):Inv X a σ H s:=I.eI λp b=>I.pin p (kj _ (u6 _ b))
def DC(t:Xp (et X.prog X.w) X.A X.env X.xe)(hc:X.calm=b6)(hi:PI X tg p wi)(hg:PG X tg g)(c:J8 X body tb)
  (hs:∀x,LF p X.env x=pure x:=by intro _;rfl):PS X (.For tg p body [] pos) (HV wi g tb):=by
 intro a s σ H D I h;show wpAny_For (I0 (hi a s σ H _ I h) λv s1 h1=>I0 h1 λQ0 s2 h2=>?_) hs;obtain⟨it,y,tn,J,H2,e,I2,T,st2,f2,W,⟨m0,w0⟩,z⟩:=h2;subst e;have O:∀{H':Hp},(∀b∈y,H' b=b8)->∀b∈y,iA X a H' b:=λhn b c=>⟨hn b c,(f2 b c).2⟩
 show codeAny_forLoop_any (λn s'=>∃i B H',Inv X a B H' s'/\tn i s'.heap/\(∀b∈y,H' b=b8)/\W i n B H') ?_ m0 ⟨0,σ,H2,I2,st2,λb c=>(f2 b c).1,w0⟩;rintro n s3 ⟨i,C,L,I3,Jx,PD,w3⟩;rcases z i n C L w3 with⟨G,qn⟩|⟨go,N,hN,Ð⟩
 .show NV t (I0 (T.done X rfl rfl rfl hc i a s3 C L X.xe I3 (O PD) Jx G) λr s4 Sa=>?_);have⟨Q,I4⟩:=Sa;subst Q;show RN ⟨C,L,I4,qn⟩
 .show NV t (I0 (T.item X rfl rfl rfl hc i a s3 C L X.xe I3 (O PD) Jx go) λr s4 Sb=>?_);have⟨u,Q,h4⟩:=Sb;subst Q;show NV t (I0 h4 λ_ s5 Sd=>?_);have⟨x,H5,I5,r5,y5,Y,Se⟩:=Sd;have Sf:=I5.pinned (O Se) (T.obj _ _ Y);show NV t (I0 (hg _ s5 C H5 x u _ Sf r5 (Ð x H5 y5)) λ_ s6 Sg=>?_);have⟨σ6,H6,I6,q6⟩:=Sg;show NV t (I0 (c _ s6 σ6 H6 _ I6 q6) λf s7 q=>?_);have İ:∀{j:St} {k:Hp},Inv X (a++kH y s5.heap) j k s7->N j k->∃m,m<n/\∃i B H',Inv X a B H' s7/\tn i s7.heap/\(∀b∈y,H' b=b8)/\W i m B H':=λ{j k} l n7=>by
   have⟨m',hm,w7⟩:=hN j k n7;show⟨m',hm,i+1,j,k,l.kI,T.keep _ _ _ Y λb c o e=>(l.pin (b,o) (kj _ (kj _ (ff c e)))).1,λb c=>?_,w7⟩;have⟨o,e,d⟩:=T.obj _ _ Y b c;show(l.pin (b,o) (kj _ (kj _ (ff c e)))).2.1
  cases f with
  |brk=>have⟨j,k,l,q⟩:=q;show⟨j,k,l.kI,q⟩
  |ret v=>have⟨x7,j,k,l,r7,q⟩:=q;show⟨x7,j,k,l.kI,r7,q⟩
  |_=>have⟨j,k,l,n7⟩:=q;show İ l n7
end
@[reducible]def R2:=V->V->Hp->VK->Prop
abbrev KO(X:Cx)(f:dV->dV->Sem dV)(r:R2):Prop :=
 ∀(a:List (d8×Obj)) (s:d5) (σ:St) (H:Hp) (x y:V) (v u:dV) (Q:VK),Inv X a σ H s->RelV x v->RelV y u->r x y H Q ->
  d3 (et X.prog X.w) X.A (f v u) (EP X a σ Q) X.xe s
abbrev jE(X:Cx)(f:dV)(r:List V->Hp->VK->Prop):Prop :=
 ∀(a:List (d8×Obj)) (s:d5) (σ:St) (H:Hp) (xs:List V) (us:List dV) (Q:VK),Inv X a σ H s->Vals xs us->r xs H Q ->
  d3 (et X.prog X.w) X.A (NW f us) (EP X a σ Q) X.xe s
abbrev HW(X:Cx)(r:V->Hp->(Bool->Hp->Prop)->Prop):Prop :=
 ∀(a:List (d8×Obj)) (s:d5) (σ:St) (H:Hp) (x:V) (v:dV) (Q:Bool->Hp->Prop),Inv X a σ H s->RelV x v->r x H Q ->
  d3 (et X.prog X.w) X.A (Ĩ v) (TP X a σ Q) X.xe s
abbrev rI(C:Int->Int->Prop)(g:Int->Int->V):R2:=λx y H Q=>∃i j,x=.int i/\y=.int j/\C i j/\Q (g i j) H
abbrev Np(g:Int->Int->V):R2:=λx y H Q=>∃i j,x=.int i/\y=.int j/\Q (g i j) H
section
def Q3{g:Int->Int->Int}
  (ē:∀(i j:Int) (t u:Tok) (s:d5) (Q:dV->d5->Prop) (E:dV->d5->Prop),C i j->Q (.int (g i j) s.toks) {s with toks:=s.toks+1}->d3 (et X.prog X.w) X.A (f (.int i t) (.int j u)) Q E s) :
  KO X f (rI C λi j=>.int (g i j)):=by
 intro a s σ H x y v u Q I b c h;have⟨i,j,rfl,rfl,d,q⟩:=h;have⟨t,rfl⟩:=b;have⟨t',rfl⟩:=c;show ē i j t t' s _ _ d ⟨.int (g i j),H,I.tok _,⟨_,rfl⟩,q⟩
def FL{g:Int->Int->Int}
  (ē:∀(i j:Int) (t u:Tok) (s:d5) (Q:dV->d5->Prop) (E:dV->d5->Prop),Q (.int (g i j) s.toks) {s with toks:=s.toks+1}->d3 (et X.prog X.w) X.A (f (.int i t) (.int j u)) Q E s) :
  KO X f (Np λi j=>.int (g i j)):=by
 intro a s σ H x y v u Q I b c h;have⟨i,j,rfl,rfl,q⟩:=h;have⟨t,rfl⟩:=b;have⟨t',rfl⟩:=c;show ē i j t t' s _ _ ⟨.int (g i j),H,I.tok _,⟨_,rfl⟩,q⟩
def Az{g:Int->Int->Bool}
  (ē:∀(i j:Int) (t u:Tok) (s:d5) (Q:dV->d5->Prop) (E:dV->d5->Prop),Q (.bool (g i j)) s->d3 (et X.prog X.w) X.A (f (.int i t) (.int j u)) Q E s) :
  KO X f (Np λi j=>.bl (g i j)):=by
 intro a s σ H x y v u Q I b c h;have⟨i,j,rfl,rfl,q⟩:=h;have⟨t,rfl⟩:=b;have⟨t',rfl⟩:=c;show ē i j t t' s _ _ ⟨.bl (g i j),H,I,rfl,q⟩
abbrev HX(i j:Int):Prop:=0<j/\j<1073741824
abbrev HY(i j:Int):Prop:=0<=j/\j<=1000000/\i.natAbs<2 ^ 64
abbrev DE(i j:Int):Prop:=(-(2 ^ 64)<i/\i<2 ^ 64)\/(-(2 ^ 64)<j/\j<2 ^ 64)
def DE.ok(h:DE i j):IntMulOk i j:=by
 rcases h with⟨a,b⟩|⟨a,b⟩
 .show .of_left (intBits_le_64 a b)
 .show .of_right (intBits_le_64 a b)
def bW:KO X (OL .Add) (Np λi j=>.int (i+j)):=FL λ_ _ _ _ _ _ _ q=>add_int q
def g_:KO X (OL .Sub) (Np λi j=>.int (i - j)):=FL λ_ _ _ _ _ _ _ q=>sub_int q
def kJ:KO X (OL .Mult) (rI DE λi j=>.int (i * j)):=Q3 λ_ _ _ _ _ _ _ a q=>mul_int q a.ok
def AA:KO X (OL .FloorDiv) (rI HX λi j=>.int (i / j)):=Q3 λi j _ _ _ _ _ a q=>by
 have b:(0:Int)<j:=a.1;have c:j<1073741824:=a.2;show floordiv_int ⋯ (by rw[Int.fdiv_eq_ediv_of_nonneg i ⋯];show q) (.inl (PyProof.noPylong_small ⋯))
def eN:KO X (OL .Mod) (rI (λ_ j=>0<j) λi j=>.int (i % j)):=Q3 λi j _ _ _ _ _ a q=>by
 have b:(0:Int)<j:=a;show mod_int' ⋯ (by rw[Int.fmod_eq_emod_of_nonneg i ⋯];show q)
def oo:KO X (OL .Pow) (rI HY λi j=>.int (i ^ j.toNat)):=Q3 λ_ _ _ _ _ _ _ a q=>pow_int_small a.1 a.2.1 a.2.2 q
end
section
def DF(I:Inv X a σ H s)(q:Q (.bl k) H)(e:k=k'):EP X a σ Q (.bool k') s:=by
 subst e;show⟨.bl k,H,I,rfl,q⟩
def FN:KO X (N3 .Lt) (Np λi j=>.bl (cK (i<j))):=Az λ_ _ _ _ _ _ _ q=>lt_int q
def FO:KO X (N3 .LtE) (Np λi j=>.bl (cK (i<=j))):=Az λ_ _ _ _ _ _ _ q=>le_int q
def FP:KO X (N3 .Gt) (Np λi j=>.bl (cK (j<i))):=Az λ_ _ _ _ _ _ _ q=>gt_int q
def FQ:KO X (N3 .GtE) (Np λi j=>.bl (cK (j<=i))):=Az λ_ _ _ _ _ _ _ q=>ge_int q
def DG:KO X (N3 .Is) (λx y H Q=>y=.IV/\Q (.bl (cK (x=.IV))) H):=by
 intro a s σ H x y v u Q I b c h;have⟨rfl,q⟩:=h;cases c;show is_none_gen (DF I q ?_);cases x<;>first
  |(cases b;rfl)
  |(have⟨t,rfl⟩:=b;rfl)
abbrev FR(K:PySem.W.Frag)(x:V)(H:Hp)(k:Bool):Prop :=
 match x with
 |.IV=>k=cc
 |.bl b=>k=b
 |.int i=>k=(i != 0)
 |.str y=>y.length<=cL/\k=((y.length:Int) != 0)
 |.QT y=>y.size<=cL/\k=((y.size:Int) != 0)
 |.ref p=>(∃xs,Jw K H p xs/\k=!xs.isEmpty)\/(∃xs,JI K H p xs/\k=!xs.isEmpty)\/∃kvs,H p=a5 (.dK kvs)/\k=!kvs.isEmpty
 |_=>False
def rN(r:KV kvs vs):(!vs.isEmpty)=!kvs.isEmpty:=by
 cases r<;>rfl
def kK(r:Vals xs a):(!a.toArray.isEmpty)=!xs.isEmpty:=by
 cases r<;>simp
def fP:(cL:Nat)<2 ^ 63:=by rw[sizeLine_eq];decide
def DH:HW X (λx H Q=>∃k,FR X.K x H k/\Q k H):=by
 intro j s σ H x v Q I d h;have⟨k,e,q⟩:=h;have hl:=fP;have hs:cL=16777216:=sizeLine_eq;cases x with
 |IV =>
  cases d;have a:k=cc:=e;subst a;show truthy_none ⟨H,I,q⟩
 |bl b =>
  cases d;have a:k=b:=e;subst a;show LC ⟨H,I,q⟩
 |int i =>
  have⟨t,rfl⟩:=d;have a:k=(i != 0):=e;subst a;show PySem.P.truthy_int ⟨H,I,q⟩
 |str y =>
  have⟨t,rfl⟩:=d;obtain⟨l,a⟩:y.length<=cL/\k=((y.length:Int) != 0):=e;subst a;show PySem.P.truthy_str ⋯ ⟨H,I.tok _,q⟩
 |QT y =>
  have⟨t,rfl⟩:=d;obtain⟨l,a⟩:y.size<=cL/\k=((y.size:Int) != 0):=e;subst a;show PySem.W.truthy_bytes ⋯ ⟨H,I.tok _,q⟩
 |ref p =>
  cases d;have a:(∃xs,Jw X.K H p xs/\k=!xs.isEmpty)\/(∃xs,JI X.K H p xs/\k=!xs.isEmpty)\/∃kvs,H p=a5 (.dK kvs)/\k=!kvs.isEmpty:=e;rcases a with⟨xs,f,a⟩|⟨xs,f,a⟩|⟨kvs,f,a⟩
  .subst a;have⟨n,r,g,hz⟩:=I.list f;have c:=r.length;show wpAny_truthy_list g.isList (by simp only[fx];lia) ⟨H,I.tok _,by rw[kK r];show q⟩
  .subst a;have⟨n,r,g,hz⟩:=I.tuple f;have c:=r.length;show truthy_tuple g (by simp only[fx];lia) ⟨H,I.tok _,by rw[kK r];show q⟩
  .subst a;obtain⟨hz,o,vs,r,m⟩:kvs.length<=cL/\(p==Nm)=cc/\∃vs,KV kvs vs/\s.heap.DictOf (aR X.prog X.w) p vs:=I.IS p _ f;have c:kvs.length=vs.length:=Paired.length r;show wpAny_truthy_dict o m ⋯ ⟨H,I.tok _,by rw[rN r];show q⟩
 |_=>show(show False from e).elim
def xv(d:PE X a e)(f:∀b,isTrue a X.env b=(do let v <-b;X' a.pos;Mj [v] (Ĩ v))):
  PT X a (λσ H Q=>e σ H λx H'=>∃k,FR X.K x H' k/\Q k H'):=by
 intro c s σ H Q I h;show isTrue_plain (I0 (d c s σ H _ I h) λv s1 ⟨x,g,i,j,l⟩=>DH c s1 σ g x v Q i j l) (f _)
def rO:KO X (OL .Add) (λx y H Q=>∃i j,x=.str i/\y=.str j/\i.length+j.length<=cL/\Q (.str (i++j)) H):=by
 intro a s σ H x y v u Q I b c h;have⟨i,j,rfl,rfl,hz,q⟩:=h;have⟨t,rfl⟩:=b;have⟨t',rfl⟩:=c;show add_str (λt' d=>⟨.str (i++j),H,I.tok _,⟨_,rfl⟩,q⟩) hz
def vals1(r:Vals [x] us):∃u,us=[u]/\RelV x u:=by
 cases r with
 |cons a b=>cases b;show⟨_,rfl,a⟩
def vals2(r:Vals [x,y] us):∃u a,us=[u,a]/\RelV x u/\RelV y a:=by
 cases r with
 |cons b c =>
  cases c with
  |cons d e=>cases e;show⟨_,_,rfl,b,d⟩
def oq:jE X (.type "str") (λxs H Q=>∃i,xs=[.int i]/\i.natAbs.log2<1920/\Q (.str (S3 i)) H):=by
 intro a s σ H xs us Q I r h;have⟨i,rfl,hz,q⟩:=h;have⟨u,rfl,t,rfl⟩:=vals1 r;show PySem.P.str_of_int hz ⟨.str _,H,I.tok _,⟨_,rfl⟩,q⟩
end
section
end
def jV.some_of(r:jV (a5 v) o):∃u,o=a5 u/\RelV v u:=by
 cases o with
 |none=>show(show False from r).elim
 |some u=>show⟨u,rfl,r⟩
section
end
structure WB(K:PySem.W.Frag)(C:d8):Prop where
 pg:PySem.W.plainGet K C tv=b6
 hd:PySem.W.hasDictIn K C=b6
 po:PySem.W.plainOver K C=b6
 sa:PySem.W.findIn K (.ref C) "__setattr__"=a5 (a5 (.builtin "object.__setattr__"))
section
end
section
end
section
inductive kL(K:PySem.W.Frag)(H:Hp):V->dV->Prop where
 |IV:kL K H .IV (.type "NoneType")
 |bl (x:Bool):kL K H (.bl x) (.type "bool")
 |int (i:Int):kL K H (.int i) (.type "int")
 |str (x:Str):kL K H (.str x) (.type "str")
 |QU (x:UInt64):kL K H (.QU x) (.type "float")
 |lst {a:d8} {xs:List V} (e:H a=a5 (.lst xs)):kL K H (.ref a) (.type "list")
 |JX {a:d8} {o:Obj} {xs:List V} (e:H a=a5 (.JX o (.lst xs))):kL K H (.ref a) (.type "list")
 |tup {a:d8} {xs:List V} (e:H a=a5 (.tup xs)):kL K H (.ref a) (.type "tuple")
 |dK {a:d8} {kvs:List (Key×V)} (e:H a=a5 (.dK kvs)):kL K H (.ref a) (.type "dict")
 |dT {a:d8} {kvs:List (List Key×V)} (e:H a=a5 (.dT kvs)):kL K H (.ref a) (.type "dict")
 |ins {a C dx:d8} {fs:List (Str×V)} (e:H a=a5 (.ins C dx fs)) (cl:WB K C) (ha:PySem.W.findIn K (.ref C) "__class__"=a5 (a5 (.builtin "object.__class__")))
   (hn:PySem.W.specialIn K (.builtin "object.__class__") "__get__"=a5 (a5 (.builtin "getset_descriptor.__get__"))) (WC:PySem.W.takesIn K (.builtin "object.__class__")=a5 b6)
   (hm:PySem.W.mroIn K C (.type "object")=a5 b6):kL K H (.ref a) (.ref C)
end
structure fK(k:Nat)(A:M4):Prop where
 hd:A.handled=b8
 dp:A.depth+3 * k+5<ĩ
 un:A.units+16 * k+200<K2
 gd:A.guards=a5 []
def fK.deeper(r:fK (k+1) A)(env:Env):fK k (A.deeper env) :=
 ⟨r.hd,by have:=r.dp;change A.depth+1+3 * k+5 < _;lia,by have:=r.un;change A.units+3+16 * k+200 < _;lia,r.gd⟩
def fK.depth(r:fK k A):A.depth<ĩ:=by have:=r.dp;lia
abbrev HZ:TA:=λ_ H Q=>Q [] H
abbrev FT(a:TE)(b:TA):TA:=λσ H Q=>a σ H λx c=>b σ c λxs d=>Q (x::xs) d
section
def fg:PA X [] HZ:=λ_ _ _ _ H Q I h=>PU ⟨[],H,I,.nil,h⟩
def cS(b:PE X e c)(d:PA X es t)(hs:hW (e::es) X.env=(cc,u7 e X.env)::hW es X.env:=by rfl):PA X (e::es) (FT c t):=by
 intro pos a s σ H Q I h;rw[hs];change d3 _ _ (ü ((cc,u7 e X.env)::C1 pos (hW es X.env))) _ _ s;show Ma (I0 (b a s σ H _ I h) λu s1 f=>?_);have⟨x,g,i,j,k⟩:=f;show I0 (d pos a s1 σ g _ i k) λus s2 ⟨xs,l,m,n,o⟩=>⟨x::xs,l,m,.cons j n,o⟩
end
@[reducible]def Sp:=List V->Hp->VK->XK->Prop
@[reducible]def NX:=List Env->Hp->d5->XK->dV->d5->Prop
structure AB(P:u3)(w:ve)(K:PySem.W.Frag)(mg:Str->Option dV)(base:Jv)(A:M4)(outer:List Env)(s:d5)(H:Hp):Prop where
 frames:A.frames=a5 outer
 mod:Mod K mg base
 bs:∀b o,base.get? b=a5 o->s.heap.get? b=a5 o/\H b=b8
 M0:base.objs.size<=s.heap.objs.size
 jW:s.heap.FunFrames base outer
 NR:∀b∈JF outer,H b=b8
 IS:J2 P w H s.heap
 bare:Sv s.gens
abbrev CE(outer:List Env)(P:u3)(w:ve)(H:Hp)(s:d5)(Q:VK)(u:dV)(s':d5):Prop :=
 ∃v H',s'.os=s.os/\Sv s'.gens/\Un (JF outer) [] H H' s.heap s'.heap/\J2 P w H' s'.heap/\RelV v u/\Q v H'
abbrev CR(CX:NX)(outer:List Env)(P:u3)(w:ve)(H:Hp)(s:d5)(Q:VK)(E:XK)(r:Result)(s':d5):Prop :=
 match r with
 |.ok (.ret u)=>CE outer P w H s Q u s'
 |.ok _=>False
 |.error e=>CX outer H s E e s'
structure jh(P:u3)(w:ve)(K:PySem.W.Frag)(mg:Str->Option dV)(base:Jv)(CX:NX)(k:Nat)(f:d8)(fd:Sj)(ps:List Str)(sp:Sp):Prop where
 len:∀vs H Q E,sp vs H Q E->vs.length=ps.length
 run:∀(A:M4) (outer:List Env) (s:d5) (H:Hp) (args:Args) (us:List dV) (vs:List V) (Q:VK) (E:XK),fK k A->AB P w K mg base A outer s H->Z' s fd args (ps.zip us)->Vals vs us->sp vs H Q E ->
  Qs (et P w) A (.call (.ref f) args) (CR CX outer P w H s Q E) s
section
def Inv.FU(I:Inv X a σ H s):AB X.prog X.w X.K X.mg X.base X.A X.stack s H :=
 ⟨I.ok.frames,I.ok.mod,I.bs,t6 I.ok.M0 I.sz,I.stack,I.ka,I.IS,I.bare⟩
def Inv.after(I:Inv X a σ H s)(h:CE X.stack X.prog X.w H s Q u s'):EP X a σ Q u s':=by
 have⟨v,H',os,c,e,f,r,q⟩:=h;have⟨i,g,d,t,j⟩:=s';obtain rfl:j=s.os:=os;show⟨v,H',I.call (h':=i) (g':=g) (d':=d) (t':=t) (ch:=[]) e f c (λb z=>absurd z (by simp)),r,q⟩
end
abbrev Binds(K:PySem.W.Frag)(b:Sj)(ps:List Str)(a:List dV):Prop :=
 ∀(s:d5) (us:List dV),K.In s.heap->(us++a).length=ps.length->Z' s b ⟨us,[]⟩ (ps.zip (us++a))
def Binds.all{K:PySem.W.Frag}(h:∀us:List dV,us.length=ps.length->ĭ a ⟨us,[]⟩=pure (ps.zip us)):Binds K a ps []:=λs us _ hl=>by
 rw[r6]at hl ⊢;show .of_eq (h us hl)
abbrev Passes(CX:NX)(X:Cx)(E:XK):Prop:=∀(a:List (d8×Obj)) (σ:St) (H:Hp) (s:d5) (e:dV) (s':d5),Inv X a σ H s->CX X.stack H s E e s'->X.xe e s'
section
def xx(F:jh X.prog X.w X.K X.mg X.base CX k f i ps sp)(j:fK k X.A)(l:Binds X.K i ps b)(m:Vals c b)(n:Passes CX X E)
  (I:Inv X a σ H s) (r:Vals vs us) (h:sp (vs++c) H Q E):d3 (et X.prog X.w) X.A (NW (.ref f) us) (EP X a σ Q) X.xe s:=by
 have g:Vals (vs++c) (us++b):=r.append m;have hl:(us++b).length=ps.length:=by rw[<-g.length];show F.len _ _ _ _ h
 show ê (RW (F.run X.A X.stack s H ⟨us,[]⟩ (us++b) (vs++c) Q E j I.FU (l s us I.Mm hl) g h) λr s' d=>?_);cases r with
 |error e=>show n a σ H s e s' I d
 |ok o =>
  cases o with
  |ret u=>show I.after d
  |_=>show Mg d
end
section
end
structure eJ(N P:List Str)(sc:LG):Prop where
 kind:sc.kind=.function
 co:sc.isCoroutine=cc
 gen:sc.isGenerator=cc
 nd:N.Nodup
 pre:N.take P.length=P
 par:∀x∈P,sc.names.lookup x=a5 .local\/sc.names.lookup x=a5 .cell
 NY:∀y∈sc.names,y.2≠.free
theorem mI{kindOf:Str->Option OO}:∀{a:List (Str×dV)}{m:Str->Option dV},(∀v,(x,v)∉a)->ZE kindOf a m x=m x
 |[],_,_=>rfl
 |(n,v)::r,m,h=>by
  unfold ZE;rw[mI λw b=>h w (kr _ b)];split
  .have:x≠n:=by rintro rfl;show h v mA
   simp[this]
  .rfl
theorem mJ{kindOf:Str->Option OO}:∀{a:List (Str×dV)}{m:Str->Option dV},(∀v,(x,v)∉a)->ZF kindOf a m x=m x
 |[],_,_=>rfl
 |(n,v)::r,m,h=>by
  unfold ZF;rw[mJ λw b=>h w (kr _ b)];split
  .rfl
  .have:x≠n:=by rintro rfl;show h v mA
   simp[this]
theorem mK{kindOf:Str->Option OO}:∀{P:List Str}{vs:List dV}{i:Nat}{m:Str->Option dV},P.Nodup->P[i]?=a5 x->vs[i]?=a5 v->kindOf x=a5 .local ->
  ZE kindOf (P.zip vs) m x=a5 v
 |[],_,_,_,_,h,_,_=>by simp at h
 |_::_,[],_,_,_,_,h,_=>by simp at h
 |p::P,w::vs,0,m,c,a,b,hk=>by
  simp at a b;subst a;subst b;change ZE kindOf ((p,w)::P.zip vs) m p=_;unfold ZE;rw[mI λv d=>(mh.mp c).1 (QO d).1,ļ hk];simp
 |p::P,w::vs,i+1,m,c,a,b,hk=>by
  change ZE kindOf ((p,w)::P.zip vs) m x=_;unfold ZE;show mK (i:=i) (mh.mp c).2 (by simpa using a) (by simpa using b) hk
theorem mL{kindOf:Str->Option OO}:∀{P:List Str}{vs:List dV}{i:Nat}{m:Str->Option dV},P.Nodup->P[i]?=a5 x->vs[i]?=a5 v->kindOf x≠a5 .local ->
  ZF kindOf (P.zip vs) m x=a5 v
 |[],_,_,_,_,h,_,_=>by simp at h
 |_::_,[],_,_,_,_,h,_=>by simp at h
 |p::P,w::vs,0,m,c,a,b,hk=>by
  simp at a b;subst a;subst b;change ZF kindOf ((p,w)::P.zip vs) m p=_;unfold ZF;rw[mJ λv d=>(mh.mp c).1 (QO d).1,Ľ hk];simp
 |p::P,w::vs,i+1,m,c,a,b,hk=>by
  change ZF kindOf ((p,w)::P.zip vs) m x=_;unfold ZF;show mL (i:=i) (mh.mp c).2 (by simpa using a) (by simpa using b) hk
abbrev start(N:List Str)(vs:List V):St:=vs.map a5++i2 (N.length - vs.length) b8
abbrev pS(CX:NX)(P:u3)(w:ve)(K:PySem.W.Frag)(mg:Str->Option dV)(base:Jv)(N:List Str)(a:Str)(scope:LG)(f:d8)(b:dV)(A:M4)(outer:List Env)(s:d5)(H:Hp)(E:XK):Cx where
 prog:=P
 w:=w
 K:=K
 mg:=mg
 base:=base
 A:=A.deeper (TZ a scope s.heap.objs.size f b)
 N:=N
 s₀:=s
 H₀:=H
 env:=TZ a scope s.heap.objs.size f b
 outer:=outer
 stack:=TZ a scope s.heap.objs.size f b::outer
 ex:=[]
 calm:=b6
 fn:=λ_=>b6
 pn:=[]
 xe:=λe s'=>d3 (et P w) (A.deeper (TZ a scope s.heap.objs.size f b)) (leaving (TZ a scope s.heap.objs.size f b) e) (λ_ c=>CX outer H s E e c) (λd c=>CX outer H s E d c) s'
def pT{a:LG}(h:a.names.lookup x=a5 .cell):∃c,(ĕ n a.names []).lookup x=a5 c:=by
 have q:=PySem.W.cellsFrom_some a.names n [] (.inl h);show RV.mp q
def vO{K:PySem.W.Frag}
  (S:eJ N ps scope) (G:A.handled=b8) (j:AB P w K mg base A outer s H) (hl:vs.length=ps.length) (r:Vals vs us)
  (x:InCallC s s.heap.objs.size (ZE (TZ g scope s.heap.objs.size f t).kindOf (ps.zip us) λ_=>b8) (ĕ (s.heap.objs.size+1) scope.names []) (ZF (TZ g scope s.heap.objs.size f t).kindOf (ps.zip us) λ_=>b8) s1) :
  Inv (pS CX P w K mg base N g scope f t A outer s H E) [] (start N vs) H s1:=by
 have J:ps.length<=N.length:=by have:=Ł wh S.pre;rw[vu]at this;lia
 have⟨m,L,rfl,hk⟩:=x.done;have B:∀b:d8,b∉(pS CX P w K mg base N g scope f t A outer s H E).ex:=λb z=>absurd (show b∈([]:List d8) from z) (by simp);show⟨⟨j.mod,S.kind,rfl,rfl,hU _,λy z c m d=>?_,λy hy=>?_,λy c _ h=>?_,λ_=>G,Around.frames_deeper j.frames,.inr ⟨rfl,rfl⟩,λb z=>absurd z (B b),j.bs,j.M0,λb _ _=>B b,λb z=>absurd z (B b),j.jW,j.NR⟩,
  rfl,j.bare,Un.kept hk,⟨_,x.toInCall.ns,λi y v m d O=>?_⟩,λy c h=>⟨_,x.cell y c h⟩,j.IS.fresh (hU _),λy c h=>?_,λp l=>absurd (show p∈([]:List (d8×Obj)) from l) (by simp),j.IS.kept hk,?_⟩
 .show name_of_addr x.apart (PySem.mem_of_lookup m) (PySem.mem_of_lookup d)
 .have hy:scope.names.lookup y=a5 .cell\/scope.names.lookup y=a5 .free:=hy;rcases hy with hy|hy
  .show pT hy
  .show absurd rfl (S.NY _ (PySem.mem_of_lookup hy))
 .show Qc (x.above y c (PySem.mem_of_lookup h))
 .have o:i<vs.length:=by
   unfold start at d;by_cases o:i<vs.length
   .show o
   .rw[qk (by simpa using o)]at d;rw[J7]at d;split at d<;>cases d
  have I:vs[i]?=a5 v:=by
   unfold start at d;rw[uc (by simpa using o),i8]at d;cases e:vs[i]? with
   |none=>rw[e]at d;cases d
   |some a=>rw[e]at d;cases d;rfl
  have⟨u,C,rv⟩:=r.get I;have l:ps[i]?=a5 y:=by
   rw[<-S.pre,XO ⋯];show m
  have D:ps.Nodup:=by rw[<-S.pre];show S.nd.sublist (Å _ _)
  show⟨u,rv,?_⟩;rcases S.par y (mN l) with k|k
  .show .inl ⟨k,mK D l C k⟩
  .have⟨c,e⟩:=pT (n:=s.heap.objs.size+1) k;show .inr ⟨.inl k,c,e,?_⟩;have q:=x.cell y c e;rw[mL D l C (by change scope.names.lookup y≠_;rw[k];decide)]at q;show q
 .show j.IS.fresh (Qc (x.above y c (PySem.mem_of_lookup h)))
 .unfold start;change _=N.length;rw[hY,c4,Qj];lia
def CI{K:PySem.W.Frag}{z kV g B d ct G:dV}
 (lk:K.lookup f=a5 ⟨G,od,.func (PySem.W.fnOf name a c body scope z kV g B L d ct),OX⟩) (O:PySem.W.codeIn K d a=b6) (S:eJ N ps scope)
    (h:∀vs H Q E,sp vs H Q E->vs.length=ps.length)
    (T:∀(A:M4) (outer:List Env) (s:d5) (H:Hp) (vs:List V) (Q:VK) (E:XK),fK k (A.deeper (TZ a scope s.heap.objs.size f d))->sp vs H Q E ->
      ∃t,J8 (pS CX P w K mg base N a scope f d A outer s H E) body t/\t {nx:=λ_ H'=>Q .IV H',rt:=Q} (start N vs) H) :
    jh P w K mg base CX (k+1) f (PySem.W.fnOf name a c body scope z kV g B L d ct) ps sp:=by
  show⟨h,λA outer s H args us vs Q E m i Y r C=>?_⟩;have hl:=h _ _ _ _ C;have D:K.In s.heap:=i.mod.OR.keeps λb o e=>(i.bs b o e).1;have p:s.heap.NoLimit:=i.mod.nolimit.keeps λb o e=>(i.bs b o e).1;have PH:∀y∈ps.zip us,scope.names.lookup y.1=a5 .local\/(scope.names.lookup y.1=a5 .cell/\((ĕ (s.heap.objs.size+1) scope.names []).lookup y.1).isSome=b6):=λ⟨n,v⟩ hy=>by
    rcases S.par n (QO hy).1 with q|q
    . show .inl q
    . show .inr ⟨q,PySem.W.cellsFrom_some _ _ _ (.inl q)⟩
  show codeAny_call_function m.depth (D _ _ lk) rfl S.co S.gen rfl (PySem.W.codeRec_of D O) (Y _ _ _ _ ?_);show wpAny_newFunctionEnv_cells S.kind PH λenv he s1 x=>?_;subst he;show⟨p.keeps x.toInCall.keep,codeAny_func ?_⟩;have⟨t,ht,hq⟩:=T A outer s H vs Q E (m.deeper _) C;have I:Inv (pS CX P w K mg base N a scope f d A outer s H E) [] (start N vs) H s1:=vO S m.hd i hl r x;show my (ht [] s1 (start N vs) H _ I hq) (λfl s' hs=>?_) λe s' hs=>hs;have j:∀{l:St} {H':Hp} {v:V} {u:dV},Inv (pS CX P w K mg base N a scope f d A outer s H E) [] l H' s'->RelV v u->Q v H'->CE outer P w H s Q u s' :=
    λ{l H' v u} J rv q=>⟨v,H',J.os,J.bare,J.base,J.IS,rv,q⟩
  cases fl with
  | ret u =>
    have⟨v,l,H',J,rv,q⟩:=hs;show j J rv q
  | next =>
    have⟨l,H',J,q⟩:=hs;show j (v:=V.IV) (u:=oT) J rfl q
  | brk =>
    obtain⟨_,_,_,q⟩:=hs;show Mg q
  | cont =>
    obtain⟨_,_,_,q⟩:=hs;show Mg q
section
end
end L2
namespace HT
open PySem PyProof.Rows
section
open PySem.SeqAt
open PySem.AutoSeq1 (wpAny_loadPart')
open PySem.MeetsSeq PySem.MeetsSeq2 PySem.MeetsSeq3
end
section
def AD(o:ĺ s.heap t vs.toArray)(p:ĺ s.heap b ws.toArray)(f:vs≠[])
  (q:ws=[]->Q (.ref t) s) (r:ws≠[]->Q (.ref s.heap.objs.size) {s with heap:=s.heap.push {cls:=.type "tuple",data:=.seq (vs++ws).toArray}})
  (hsz:vs.length+ws.length<=cL):d3 (et prog w) A (OL .Add (.ref t) (.ref b)) Q E s:=by
 obtain⟨⟨cls,dd,data,g⟩,ho,h,n,i⟩:=id o;obtain⟨⟨u,j,data2,k⟩,c,l,m,a⟩:=id p;simp only at h i l a;subst h i l a;have e:vs.toArray++ws.toArray=(vs++ws).toArray:=by simp
 by_cases d:ws=[]
 .show Wu ⟨_,ho,rfl⟩ ⟨_,c,rfl⟩ Xh Zm PySem.F.slot_tuple_add PySem.F.entry_tuple_add (PySem.F.args_tuple_add_2 _ _)
   (tuple_addW1 t b vs.toArray ws.toArray n m dd j g k (by simpa using f) (by simp[d])) ⟨ho,c,q d⟩
 .show Wu ⟨_,ho,rfl⟩ ⟨_,c,rfl⟩ Xh Zm PySem.F.slot_tuple_add PySem.F.entry_tuple_add (PySem.F.args_tuple_add_2 _ _)
   (tuple_addW2 t b vs.toArray ws.toArray n m dd j g k (by simpa using f) (by simpa using d) (by rw[fx,fx];show hsz)) ⟨ho,c,?_⟩
  rw[e];show r d
abbrev Kt(n d:Nat):Option Int->Nat
 |none=>d
 |some v=>if v<0 then(v+(n:Int)).toNat else min v.toNat n
def AE(n d k:Nat):Kt n d (a5 (k:Int))=min k n:=by
 change(if (k:Int)<0 then((k:Int)+(n:Int)).toNat else min (k:Int).toNat n)=min k n;rw[Ľ ⋯,NQ]
end
end HT
namespace L2
open PySem PySem.Spec PyProof.Rows
@[reducible]def TO:=St->Hp->(Option Int->Hp->Prop)->Prop
abbrev PO(X:Cx)(e:Option l0)(t:TO):Prop :=
 ∀(a:List (d8×Obj)) (s:d5) (σ:St) (H:Hp) (Q:Option Int->Hp->Prop),Inv X a σ H s->t σ H Q ->
  d3 (et X.prog X.w) X.A (evalPart e X.env) (λu s'=>∃o H',Inv X a σ H' s'/\IsPart u o/\Q o H') X.xe s
abbrev AF:TO:=λ_ H Q=>Q b8 H
abbrev FV(t:TE):TO:=λσ H Q=>t σ H λx a=>∃i,x=.int i/\Q (a5 i) a
section
variable{X:Cx}{e:l0}{te:TE}{lo hi:Option l0}{tl th:TO}{pos p2:Pos}
def AG:PO X b8 AF:=by
 intro a s σ H Q I h;rw[evalPart_none];show df ⟨b8,H,I,.none,h⟩
def AH(h:PE X e te):PO X (a5 e) (FV te):=by
 intro a s σ H Q I b;rw[evalPart_some];show I0 (h a s σ H _ I b) λu s1 c=>?_;have⟨x,d,f,g,j⟩:=c;have⟨i,rfl,q⟩:=j;have⟨t,rfl⟩:=g;show⟨a5 i,d,f,.int i t,q⟩
abbrev Nt(X:Cx)(r:V->Option Int->Option Int->Hp->VK->Prop):Prop :=
 ∀(a:List (d8×Obj)) (s:d5) (σ:St) (H:Hp) (x:V) (v b c:dV) (lo hi:Option Int) (d:d8) (Q:VK),Inv X a σ H s->RelV x v->s.heap.IsSliceOf d b c .none->IsPart b lo->IsPart c hi->r x lo hi H Q ->
  ∃T id,QS (.type T) "__getitem__"=pure (a5 (.builtin id))/\s.TypeIs v T/\d3 (et X.prog X.w) X.A (Wr v (.ref d)) (EP X a σ Q) X.xe s
def Nt.or(h:Nt X r)(h':Nt X j):Nt X (λx lo hi H Q=>r x lo hi H Q\/j x lo hi H Q):=by
 intro a s σ H x v b c lo hi d Q I f hs g i q;rcases q with q|q
 .show h a s σ H x v b c lo hi d Q I f hs g i q
 .show h' a s σ H x v b c lo hi d Q I f hs g i q
abbrev WD(r:V->Option Int->Option Int->Hp->VK->Prop)(te:TE)(tl th:TO):TE:=λσ H Q=>te σ H λx a=>tl σ a λl b=>th σ b λu c=>r x l u c Q
def xy(g:Nt X r)(i:PE X e te)(hl:PO X lo tl)(j:PO X hi th):PE X (.Subscript e (.Slice lo hi b8 p2) pos) (WD r te tl th):=by
 intro a s σ H Q I h;show ó (I0 (i a s σ H _ I h) λv s1 k=>?_);have⟨x,m,n,o,p⟩:=k;show wpAny_Slice (I0 (hl a s1 σ m _ n p) λc s2 ⟨l,t,y,z,B⟩=>I0 (j a s2 σ t _ y B) λd s3 C=>?_);have⟨u,f,D,G,J⟩:=C;rw[evalPart_none];show df ?_;have L:Inv X a σ f {s3 with heap:=s3.heap.push {cls:=.type "slice",data:=.fields #[c,d,.none]}}:=D.kept (t':=s3.toks) λb ob q=>c2 _ q;have⟨T,id,N,O,Y⟩:=g a {s3 with heap:=s3.heap.push {cls:=.type "slice",data:=.fields #[c,d,.none]}} σ f x v c d l u s3.heap.objs.size Q L o (Ć ..) z G J;change d3 (et X.prog X.w) X.A (Vt e (.Slice lo hi b8 p2) v (.ref s3.heap.objs.size)) (EP X a σ Q) X.xe {s3 with heap:=s3.heap.push {cls:=.type "slice",data:=.fields #[c,d,.none]}};show tail_any (ops:=[.ref s3.heap.objs.size,v]) O N Y (by with_unfolding_all rfl)
abbrev vP(xs:List V)(lo hi:Option Int):List V:=(xs.drop (HT.Kt xs.length 0 lo)).take (HT.Kt xs.length xs.length hi - HT.Kt xs.length 0 lo)
def pU(xs:List V)(lo hi:Option Int):(vP xs lo hi).length<=xs.length:=by
 unfold vP;rw[vu,Ë];lia
abbrev FW(K:PySem.W.Frag):R2:=λx y H Q=>∃a b xs c,x=.ref a/\y=.ref b/\JI K H a xs/\JI K H b c/\xs≠[]/\xs.length+c.length<=cL /\
 (c=[]->Q (.ref a) H)/\(c≠[]->∀p,H p=b8->Q (.ref p) (upd H p (.tup (xs++c))))
def Vals.ot(r:Vals xs us):us=[]↔xs=[]:=by
 cases r with
 |_=>simp
def AI:KO X (OL .Add) (FW X.K):=by
 intro f s σ H x y v u Q I g i h;have⟨a,b,xs,j,rfl,rfl,k,l,m,hz,n,p⟩:=h;cases g;cases i;obtain⟨t,d,r,_⟩:=I.tuple k;obtain⟨A,c,p2,_⟩:=I.tuple l;show HT.AD r p2 (λz=>m (d.ot.mp z)) (λz=>⟨.ref a,H,I,rfl,n (c.ot.mp z)⟩) (λz=>?_) (by rw[<-d.length,<-c.length];show hz);show⟨.ref s.heap.objs.size,_,I.laid (t':=s.toks) (o:=.tup (xs++j)) (λb B q=>c2 _ q) (hU _) ?_,rfl,p (λw=>z (c.ot.mpr w)) _ (I.IS.fresh (hU _))⟩;show⟨by rw[hY];show hz,_,d.append c,Â _ _⟩
end
abbrev Mp(n:Nat)(i:Int):Option Nat:=if 0<=i then(if i<n then a5 i.toNat else b8) else if -(n:Int)<=i then a5 (i+n).toNat else b8
abbrev JK{α:Type}(xs:List α)(i:Int):Option α:=(Mp xs.length i).bind λj=>xs[j]?
def tY{n:Nat}(h:Mp n i=a5 j):W9 i n=a5 j/\j<n/\-(n:Int)<=i/\i<n:=by
 unfold Mp at h;by_cases b:0<=i
 .rw[ļ b]at h;by_cases a:i<n
  .rw[ļ a]at h;have e:i.toNat=j:=ts h;show⟨by rw[Ñ b a,e],⋯,⋯,a⟩
  .rw[Ľ a]at h;cases h
 .rw[Ľ b]at h;by_cases a:-(n:Int)<=i
  .rw[ļ a]at h;have e:(i+n).toNat=j:=ts h;show⟨by rw[seqIndex_neg ⋯ a,e],⋯,a,⋯⟩
  .rw[Ľ a]at h;cases h
def ou(h:JK xs i=a5 v):∃j,W9 i xs.length=a5 j/\xs[j]?=a5 v/\j<xs.length/\-(xs.length:Int)<=i/\i<xs.length:=by
 unfold JK at h;cases e:Mp xs.length i with
 |none=>rw[e]at h;cases h
 |some j =>
  rw[e]at h;have⟨a,b,c,d⟩:=tY e;show⟨j,a,h,b,c,d⟩
def eL{j:Nat}(h:xs[j]?=a5 v):JK xs (j:Int)=a5 v:=by
 have a:j<xs.length:=(dt.mp h).1;have e:Mp xs.length (j:Int)=a5 j:=by
  unfold Mp;rw[ļ ⋯,ļ ⋯];simp
 unfold JK;rw[e];show h
abbrev ox(b:l0):Prop:=∀o i,XI b cc o i=operate [o,i] (Wr o i)
abbrev Sn(X:Cx)(r:R2):Prop :=
 ∀(c a:l0) (b:List (d8×Obj)) (s:d5) (σ:St) (H:Hp) (x y:V) (v u:dV) (Q:VK),Inv X b σ H s->RelV x v->RelV y u->r x y H Q ->
  XI a cc v u=operate [v,u] (Wr v u)->d3 (et X.prog X.w) X.A (Vt c a v u) (EP X b σ Q) X.xe s
abbrev So(X:Cx)(id:String)(r:V->List V->Hp->VK->Prop):Prop :=
 ∀(a:List (d8×Obj)) (s:d5) (σ:St) (H:Hp) (x:V) (xs:List V) (v:dV) (us:List dV) (Q:VK),Inv X a σ H s->RelV x v->Vals xs us->r x xs H Q ->
  d3 (et X.prog X.w) X.A (NW (.builtin id) (v::us)) (EP X a σ Q) X.xe s
section
abbrev H0(K:PySem.W.Frag):R2:=λx y H Q=>∃p xs i v,x=.ref p/\y=.int i/\Jw K H p xs/\JK xs i=a5 v/\Q v H
abbrev H9(K:PySem.W.Frag):R2:=λx y H Q=>∃p xs i v,x=.ref p/\y=.int i/\JI K H p xs/\JK xs i=a5 v/\Q v H
abbrev H_:R2:=λx y H Q=>∃z i c,x=.str z/\y=.int i/\z.length<=cL/\JK z.cps.toList i=a5 c/\Q (.str ⟨#[c]⟩) H
def AJ:Sn X (H0 X.K):=by
 intro d f a s σ H x y v u Q I n A h hs;have⟨p,xs,i,z,rfl,rfl,B,C,q⟩:=h;cases n;have⟨t,rfl⟩:=A;have⟨D,r,g,hz⟩:=I.list B;have⟨j,c,G,O,J,L⟩:=ou C;have⟨w,l,N⟩:=r.get G;have hl:=r.length;have Y:=fP;have b:EP X a σ Q w s:=⟨z,H,I,N,q⟩
 by_cases m:0<=i
 .have k:i.toNat=j:=by
   rw[Ñ m L]at c;show ts c
  show item_listR g.isList m ⋯ (by rw[k];simpa using l) b hs
 .have k:(i+(D.toArray.size:Int)).toNat=j:=by
   rw[seqIndex_neg ⋯ J]at c;rw[fx,<-hl];show ts c
  show À (x:=w) g.isList.typeIs ý.lookup
   (wpAny_getItem_list_neg (Q:=λr s'=>r=w/\EP X a σ Q r s') g.isList ⋯ (by rw[fx]<;>lia) ⋯ (by rw[k];simpa using l) ⟨rfl,b⟩) hs
def oy:Sn X (H9 X.K):=by
 intro b c a s σ H x y v u Q I g k h hs;have⟨p,xs,i,z,rfl,rfl,l,m,q⟩:=h;cases g;have⟨t,rfl⟩:=k;have⟨D,r,f,hz⟩:=I.tuple l;have⟨j,n,A,G,J,L⟩:=ou m;have⟨w,B,C⟩:=r.get A;have hl:=r.length;have N:=fP;have d:EP X a σ Q w s:=⟨z,H,I,C,q⟩
 show À (x:=w) f.typeIs slot_tuple_getitem.lookup
  (getItem_tuple (j:=j) (Q:=λr s'=>r=w/\EP X a σ Q r s') f ⋯ ⋯ (by rw[fx,<-hl];show n) (by simpa using B) ⟨rfl,d⟩) hs
def oz:Sn X H_:=by
 intro a b d s σ H x y v u Q I g k h hs;have⟨z,i,c,rfl,rfl,hz,l,q⟩:=h;have⟨t,rfl⟩:=g;have⟨t',rfl⟩:=k;have⟨j,f,m,B,n,p⟩:=ou l;have hl:z.cps.toList.length=z.length:=by simp[Ĵ]
 rw[hl]at f n p;have C:=fP;show tail_any (YP s z t) ę.lookup (getItem_str (c:=c) (by
  have w:cK (i < -(2 ^ 63:Int))=cc:=ľ ⋯;have A:cK (i >= 2 ^ 63)=cc:=ľ ⋯;rw[w,A,X4]) (by rw[f];simpa using m) ⟨.str ⟨#[c]⟩,H,I.tok _,⟨_,rfl⟩,q⟩) hs
def rP(a:List dV)(n j:Nat)(u:dV):qs (·.setIfInBounds j u) {cls:=.type "list",data:=.seq a.toArray n}={cls:=.type "list",data:=.seq (a.set j u).toArray n}:=by
 simp[qs]
def Inv.lst(I:Inv X b σ H s)(h:H p=a5 (.lst xs)):
  ∃(a:List dV) (n:Nat),Vals xs a/\s.heap.get? p=a5 {cls:=.type "list",data:=.seq a.toArray n}/\xs.length<=cL:=by
 have⟨z,a,n,r,e⟩:=I.IS p _ h;show⟨a,n,r,e,z⟩
def Inv.DI{c its':List dV}(I:Inv X a σ H s)(h:H p=a5 (.lst xs))
  (ho:s.heap.get? p=a5 {cls:=.type "list",data:=.seq c.toArray n}) (d:f {cls:=.type "list",data:=.seq c.toArray n}={cls:=.type "list",data:=.seq its'.toArray g }) (r:Vals i its') (hz:i.length<=cL) (t:Nat) :
  Inv X a σ (upd H p (.lst i)) {s with heap:=s.heap.update p f,toks:=t}:=by
 have e:(s.heap.update p f).get? p=a5 {cls:=.type "list",data:=.seq its'.toArray g }:=by
  rw[t4 f ho (by rw[d]<;>rfl),d]
 show I.write (x:=p) (e:=p) (by rw[h];trivial) (.inl rfl) (λb u j q=>(Mk _ _ (nH j)).trans q) ⟨_,e⟩ ?_;show⟨hz,its',g,r,e⟩
abbrev FX:V->V->V->Hp->(Hp->Prop)->Prop:=λo i v H Q=>∃p xs k j,o=.ref p/\i=.int k/\H p=a5 (.lst xs)/\Mp xs.length k=a5 j/\Q (upd H p (.lst (xs.set j v)))
def set_list:om X FX:=by
 intro a s σ H o i v z A u Q I w x rv h;have⟨p,xs,k,j,rfl,rfl,c,y,q⟩:=h;cases w;have⟨t,rfl⟩:=x;have⟨d,n,r,ho,hz⟩:=I.lst c;have⟨b,B,f,g⟩:=tY y;have hl:=r.length;have C:=fP;have l:Inv X a σ (upd H p (.lst (xs.set j v))) {s with heap:=s.heap.update p (qs (·.setIfInBounds j u))} :=
  I.DI c ho (rP d n j u) (r.set rv j) (by rw[ß];show hz) s.toks
 by_cases m:0<=k
 .have hk:k.toNat=j:=by
   rw[Ñ m g]at b;show ts b
  show PySem.W.ki_setAt ho m ⋯ (by rw[fx,<-hl];show g) (by rw[hk];show⟨_,l,q⟩)
 .have hk:(k+(d.toArray.size:Int)).toNat=j:=by
   rw[seqIndex_neg ⋯ f]at b;rw[fx,<-hl];show ts b
  show PySem.W.ki_setBack ho ⋯ (by rw[fx,<-hl];show f) ⋯ (by rw[hk];show⟨_,l,q⟩)
def oA(lo a:Option Int)(n:Nat):(Rf lo a b8 n).1=((HT.Kt n 0 lo:Nat):Int)/\(Rf lo a b8 n).2.1=((HT.Kt n n a:Nat):Int)/\(Rf lo a b8 n).2.2=1:=by
 show⟨?_,?_,rfl⟩
 .cases lo with
  |none=>simp[Rf,HT.Kt]
  |some i =>
   simp only[Rf,HT.Kt,ZK,show(1:Int)>0 by decide,if_true];by_cases h:i<0
   .simp only[h,if_true]<;>lia
   .simp only[h,if_false]<;>lia
 .cases a with
  |none=>simp[Rf,HT.Kt]
  |some i =>
   simp only[Rf,HT.Kt,ZK,show(1:Int)>0 by decide,if_true];by_cases h:i<0
   .simp only[h,if_true]<;>lia
   .simp only[h,if_false]<;>lia
def mf(a:List dV)(lo b:Option Int):slicePick a.toArray lo b b8=((a.drop (HT.Kt a.length 0 lo)).take (HT.Kt a.length a.length b - HT.Kt a.length 0 lo)).toArray:=by
 have⟨c,d,f⟩:=oA lo b a.toArray.size;unfold slicePick;rw[c,d,f];simp only[sliceRange_one,pick_run,fx]<;>rfl
abbrev FY(K:PySem.W.Frag):V->Option Int->Option Int->Hp->VK->Prop:=λx lo b H Q=>∃a xs,x=.ref a/\Jw K H a xs/\∀p,H p=b8->Q (.ref p) (upd H p (.lst (vP xs lo b)))
def AK:Nt X (FY X.K):=by
 intro f s σ H x v m n lo d p Q I i hs j k h;have⟨a,xs,rfl,l,q⟩:=h;cases i;have⟨u,r,g,hz⟩:=I.list l;have c:=r.length;show⟨"list",_,ý.lookup,g.isList.typeIs,?_⟩;show wpAny_getItem_list_slice g.isList hs j k .none (by simp) ?_ (by rw[fx]<;>lia);rw[mf,<-c];show⟨.ref s.heap.objs.size,_,I.laid (t':=s.toks) (o:=.lst (vP xs lo d)) (λb w q=>c2 _ q) (hU _) ?_,rfl,q _ (I.IS.fresh (hU _))⟩;show⟨t6 (pU xs lo d) hz,_,0,(r.drop (HT.Kt xs.length 0 lo)).take (HT.Kt xs.length xs.length d - HT.Kt xs.length 0 lo),ez _ rfl⟩
def iB:jE X (.builtin "len") (λxs H Q=>∃p b,xs=[.ref p]/\(Jw X.K H p b\/JI X.K H p b)/\Q (.int b.length) H):=by
 intro f s σ H xs us Q I r h;have⟨p,b,rfl,hq,q⟩:=h;have⟨u,rfl,g⟩:=vals1 r;cases g;have j:=fP;rcases hq with hq|hq
 .have⟨i,c,d,hz⟩:=I.list hq;have a:=c.length;show Calls.call_len_list d.isList (by simp only[fx]<;>lia) ⟨.int b.length,H,I.tok _,⟨s.toks+1,by rw[fx,a]⟩,q⟩
 .have⟨i,c,d,hz⟩:=I.tuple hq;have a:=c.length;show len_tuple d (by simp only[fx]<;>lia) ⟨.int b.length,H,I.tok _,⟨s.toks+1,by rw[fx,a]⟩,q⟩
def oB:jE X (.builtin "len") (λxs H Q=>∃z,xs=[.str z]/\z.length<=cL/\Q (.int z.length) H):=by
 intro a s σ H xs us Q I r h;have⟨z,rfl,hz,q⟩:=h;have⟨u,rfl,t,rfl⟩:=vals1 r;have b:=fP;show len_str ⋯ ⟨.int z.length,H,I.tok _,⟨_,rfl⟩,q⟩
def gQ:jE X (.type "tuple") (λxs H Q=>∃p c,xs=[.ref p]/\((Jw X.K H p c/\∀l,H l=b8->Q (.ref l) (upd H l (.tup c)))\/(JI X.K H p c/\Q (.ref p) H))):=by
 intro a s σ H xs us Q I r h;have⟨p,c,rfl,h⟩:=h;have⟨u,rfl,m⟩:=vals1 r;cases m;rcases h with⟨d,q⟩|⟨d,q⟩
 .have⟨f,g,i,hz⟩:=I.list d;have j:=g.length;show call_tuple_list i.isList (λh' n=>?_) (by simp only[fx]<;>lia);have k:Inv X a σ H {s with heap:=h' }:=I.kept (t':=s.toks) n;have v:Inv X a σ (upd H h'.objs.size (.tup c)) {s with heap:=h'.push {cls:=.type "tuple",data:=.seq f.toArray}} :=
   k.laid (t':=s.toks) (λb o e=>c2 _ e) (hU _) (show bF X.prog X.w _ _ _ (.tup c) from⟨hz,f,g,Â _ _⟩)
  show⟨.ref h'.objs.size,_,v,rfl,q _ (k.IS.fresh (hU _))⟩
 .have⟨f,g,i,hz⟩:=I.tuple d;show call_tuple_same i ⟨.ref p,H,I,rfl,q⟩
abbrev Q4(K:PySem.W.Frag)(T:String)(x:V)(H:Hp):Prop:=match x with
 |.str _=>T="str"
 |.int _=>T="int"
 |.ref p=>(T="list"/\∃xs,Jw K H p xs)\/(T="tuple"/\∃o,K.lookup p=a5 o/\o.cls=.type "tuple"/\o.dict=b8) \/
   (T="dict"/\((∃kvs,H p=a5 (.dK kvs))\/∃kvs,H p=a5 (.dT kvs)))\/(T="set"/\∃S n,H p=a5 (.set S n))
 |_=>False
def oC(I:Inv X f σ H s)(r:RelV x v)(ty:Q4 X.K T x H):
  s.TypeIs v T/\∀a,v=.ref a->∃g,s.heap.get? a=a5 g/\g.dict=b8:=by
 cases x with
 |str z =>
  have⟨t,rfl⟩:=r;cases(show T="str" from ty);show⟨YP s z t,λ_ e=>nomatch e⟩
 |int i =>
  have⟨t,rfl⟩:=r;cases(show T="int" from ty);show⟨typeIs_int s i t,λ_ e=>nomatch e⟩
 |ref p =>
  cases r;rcases ty with⟨rfl,xs,j⟩|⟨rfl,o,hk,k,b⟩|⟨rfl,hk⟩|⟨rfl,S,n,hk⟩
  .obtain⟨l,_,h,_⟩:=I.list j;show⟨h.isList.typeIs,λa e=>?_⟩;cases e;obtain⟨o,n,e,c,b,_⟩:=h;show⟨o,e,b⟩
  .show⟨⟨o,I.Mm p o hk,k⟩,λa e=>?_⟩;cases e;show⟨o,I.Mm _ o hk,b⟩
  .have z:∃o,s.heap.get? p=a5 o/\o.ExactDict:=by
    rcases hk with⟨kvs,hk⟩|⟨kvs,hk⟩
    .obtain⟨_,_,_,_,o,_,_,e,ex,_⟩:=I.IS p _ hk;show⟨o,e,ex⟩
    .obtain⟨_,_,_,_,o,_,_,e,ex,_⟩:=I.IS p _ hk;show⟨o,e,ex⟩
   have⟨o,e,ex⟩:=z;show⟨⟨o,e,ex.1⟩,λa d=>?_⟩;cases d;show⟨o,e,ex.2.1⟩
  .obtain⟨o,_,_,_,e,ex,_⟩:=I.IS p _ hk;show⟨⟨o,e,ex.1⟩,λa d=>?_⟩;cases d;show⟨o,e,ex.2.1⟩
 |_=>show Mg ty
abbrev Ia(K:PySem.W.Frag)(T:String)(r:V->List V->Hp->VK->Prop)(to:TE):TE:=λσ H Q=>to σ H λx a=>Q4 K T x a/\r x [] a Q
abbrev WE(K:PySem.W.Frag)(T:String)(r:V->List V->Hp->VK->Prop)(to:TE)(t:TA):TE:=λσ H Q=>to σ H λx a=>Q4 K T x a/\t σ a λxs b=>r x xs b Q
variable{o e:l0}{es:List l0}{to:TE}{t:TA}{name:Str}{apos G':Pos}{T id:String}{r:V->List V->Hp->VK->Prop}
def DJ(d:PlainAttrs T)(slot:Slot T name id)(f:ZX (.builtin id)=pure (.type "method_descriptor"))(g:So X id r)(ho:PE X o to)
  (i:SA o name X.env (u7 o X.env)=u7 o X.env:=by rfl) (j:(apos.endLine==G'.line)=b6:=by rfl):PE X (.Call (.Attribute o name apos) [] [] G') (Ia X.K T r to):=by
 intro a s σ H Q I h;show S6 i j (I0 (ho a s σ H _ I h) λv s1 k=>?_);have⟨x,l,b,c,ty,m⟩:=k;have⟨n,p⟩:=oC b c ty;show⟨T,id,d,slot,f,n,p,zy rfl (PySem.evalArgs_none (g a s1 σ l x [] v [] Q b c .nil m))⟩
def mM(f:PlainAttrs T)(slot:Slot T name id)(g:ZX (.builtin id)=pure (.type "method_descriptor"))(i:So X id r)(ho:PE X o to)(j:PA X (e::es) t)
  (k:SA o name X.env (u7 o X.env)=u7 o X.env:=by rfl)
  (l:((C1 G' (hW (e::es) X.env)).all (λx=>!x.1)&&(Qt G' (LD [] X.env)).all (λx=>x.1.isSome)
   && cK ((e::es).length+([]:List Oc).length+(if ([]:List Oc).isEmpty then 0 else 1)<30))=b6:=by rfl)
  (m:(apos.endLine==G'.line)=b6:=by rfl) (hs:hW (e::es) X.env=(cc,u7 e X.env)::hW es X.env:=by rfl) (n:(C1 G' (hW es X.env)).any (·.1)=cc:=by rfl) :
  PE X (.Call (.Attribute o name apos) (e::es) [] G') (WE X.K T r to t):=by
 intro a s σ H Q I h;show ZW k l m rfl (I0 (ho a s σ H _ I h) λv s1 p=>?_);have⟨x,q,b,c,ty,u⟩:=p;have⟨w,y⟩:=oC b c ty;show⟨T,id,f,slot,g,w,y,?_⟩;have d:=j G' a s1 σ q _ b u;rw[hs]at d ⊢;show zy (by change(cc||(C1 G' (hW es X.env)).any (·.1))=cc;rw[n]<;>rfl) (K4 ?_);show I0 d λus s2 ⟨vs,z,A,B,C⟩=>i a s2 σ z x vs v us Q A c B C
end
abbrev OZ(X:Cx)(id:String)(r:V->List V->Hp->VK->Prop):Prop :=
 ∀(a:List (d8×Obj)) (s:d5) (σ:St) (H:Hp) (x:V) (xs:List V) (v:dV) (us:List dV) (Q:VK),Inv X a σ H s->RelV x v->Vals xs us->r x xs H Q ->
  d3 (et X.prog X.w) X.A (NW (.builtin id) (v::us)) (EP X a σ Q) X.xe s
theorem Vals.one:∀{x:V}{us:List dV},Vals [x] us->∃u,us=[u]/\RelV x u
 |_,_,.cons r .nil=>⟨_,rfl,r⟩
theorem Vals.zero:∀{us:List dV},Vals [] us->us=[]
 |_,.nil=>rfl
def Vals.dropLast(h:Vals xs us):Vals xs.dropLast us.dropLast:=by
 induction h with
 |nil=>show .nil
 |cons r t a =>
  cases t with
  |nil=>show .nil
  |cons q t'=>show .cons r a
theorem Vals.eraseIdx:∀{xs:List V}{us:List dV} (i:Nat),Vals xs us->Vals (xs.eraseIdx i) (us.eraseIdx i)
 |_,_,_,.nil=>.nil
 |_,_,0,.cons _ t=>t
 |_,_,i+1,.cons r t=>.cons r (Vals.eraseIdx i t)
def Vals.reverse(h:Vals xs us):Vals xs.reverse us.reverse:=by
 induction h with
 |nil=>show .nil
 |cons r t a=>rw[RZ,RZ];show Vals.append a (.cons r .nil)
def rQ(l:List α):l.eraseIdx (l.length - 1)=l.dropLast:=by
 induction l with
 |nil=>rfl
 |cons a r c =>
  cases r with
  |nil=>rfl
  |cons b r =>
   have e:(a::b::r).length - 1=((b::r).length - 1)+1:=by
    have d:(a::b::r).length=r.length+2:=rfl;have f:(b::r).length=r.length+1:=rfl;lia
   rw[e,Sr,c]
   all_goals rfl
theorem mO:∀(l:List α) (i:Nat),(l.eraseIdx i).length<=l.length
 |[],_=>hU _
 |_::_,0=>Lo _
 |_::r,i+1=>Nat.succ_le_succ (mO r i)
section
def Inv.mj{b its':List dV}(I:Inv X a σ H s)(d:H l=a5 (.lst xs))
  (e:s.heap.get? l=a5 {cls:=.type "list",data:=.seq b.toArray n}) (g:f b.toArray=its'.toArray) (h:Vals c its') (hz:c.length<=cL) :
  Inv X a σ (upd H l (.lst c)) {s with heap:=s.heap.update l (qs f),toks:=t' }:=by
 have q:=PySem.IsL.update e f;rw[g]at q;show I.write (x:=l) (e:=l) (by rw[d];show trivial) (.inl rfl) (λk u i j=>(Mk s.heap (qs f) (nH i)).trans j) ⟨_,q⟩ ?_;show⟨hz,its',_,h,q⟩
def Inv.Ib(I:Inv X a σ H s)(d:Vals b c)(hz:b.length<=cL):
  Inv X a σ (upd H s.heap.objs.size (.lst b)) {s with heap:=s.heap.push {cls:=.type "list",data:=.seq c.toArray},toks:=t' } :=
 I.laid (λ_ _ q=>c2 _ q) (hU _) ⟨hz,c,0,d,ez _ rfl⟩
def Inv.fresh(I:Inv X a σ H s):H s.heap.objs.size=b8:=I.IS.fresh (hU _)
def Inv.vQ(I:Inv X b σ H s)(c:H l=a5 (.lst xs)):xs.length<=cL/\∃(a:List dV) (n:Nat),Vals xs a/\xs.length=a.length/\s.heap.get? l=a5 {cls:=.type "list",data:=.seq a.toArray n}:=by
 have⟨z,a,n,r,e⟩:=I.IS l _ c;show⟨z,a,n,r,r.length,e⟩
def xA(h:n<=cL):KN n=cc:=by
 unfold KN;show ľ ⋯
end
section
abbrev AL:V->List V->Hp->VK->Prop:=λx vs H Q=>∃l xs y,x=.ref l/\vs=[y]/\H l=a5 (.lst xs)/\xs.length<cL/\Q .IV (upd H l (.lst (xs++[y])))
def mP:OZ X "list.append" AL:=by
 intro a s σ H x vs v us Q I d rv h;have⟨l,xs,y,rfl,rfl,b,hz,q⟩:=h;cases d;have⟨u,rfl,f⟩:=rv.one;have⟨z,c,n,r,hl,e⟩:=I.vQ b;show R' F.slot_list_append ⟨_,e,rfl⟩ F.entry_list_append (F.args_list_append_2 _ _) (PySem.list_append l c.toArray n u (by rw[fx];lia)) ⟨e,?_⟩;show⟨.IV,_,I.mj (its':=c++[u]) b e (by simp) (r.append (.cons f .nil)) ?_,rfl,q⟩;rw[hY,Jk];lia
abbrev Ic:V->List V->Hp->VK->Prop:=λx vs H Q=>∃l xs y,x=.ref l/\vs=[]/\H l=a5 (.lst xs)/\xs[xs.length - 1]?=a5 y/\Q y (upd H l (.lst xs.dropLast))
def DK:OZ X "list.pop" Ic:=by
 intro b s σ H x vs v us Q I d rv h;have⟨l,xs,y,rfl,rfl,c,f,q⟩:=h;cases d;have g:=rv.zero;subst g;have⟨z,a,n,r,hl,e⟩:=I.vQ c;have⟨u,i,j⟩:=r.get f;have k:a.toArray[a.toArray.size - 1]?=a5 u:=by
  change a.toArray[a.length - 1]?=a5 u;rw[<-ri,<-hl];show i
 show R' ć ⟨_,e,rfl⟩ ñ (F.args_list_pop_1 _) (MeetsSeq.list_pop_last l a.toArray n u k (by rw[fx];lia)) ⟨e,?_⟩;show⟨y,_,I.mj (its':=a.dropLast) c e ?_ r.dropLast ?_,j,q⟩
 .change a.toArray.eraseIdxIfInBounds (a.toArray.size - 1)=a.dropLast.toArray;rw[fx,Vp,rQ]
 .rw[List.length_dropLast];lia
abbrev DL:V->List V->Hp->VK->Prop:=λx vs H Q=>∃l xs i k y,x=.ref l/\vs=[.int i]/\H l=a5 (.lst xs)/\-(2 ^ 63)<=i/\i<2 ^ 63/\W9 i xs.length=a5 k/\xs[k]?=a5 y/\Q y (upd H l (.lst (xs.eraseIdx k)))
def xB:OZ X "list.pop" DL:=by
 intro b s σ H x vs v us Q I d rv h;have⟨l,xs,i,k,y,rfl,rfl,c,f,g,hk,j,q⟩:=h;cases d;have⟨u,rfl,m⟩:=rv.one;have⟨t,rfl⟩:=m;have⟨z,a,n,r,hl,e⟩:=I.vQ c;have⟨w,o,p⟩:=r.get j;show R' ć ⟨_,e,rfl⟩ ñ (F.args_list_pop_2 _ _)
  (MeetsSeq.list_pop_at l a.toArray n i t k w (fitsIndex_both f g) (by rw[fx,<-hl];show hk) (by rw[<-ri];show o) (by rw[fx];lia)) ⟨e,?_⟩
 show⟨y,_,I.mj (its':=a.eraseIdx k) c e ?_ (r.eraseIdx k) ?_,p,q⟩
 .change a.toArray.eraseIdxIfInBounds k=(a.eraseIdx k).toArray;rw[Vp]
 .have:=mO xs k;lia
end
section
set_option maxRecDepth 100000 in
end
section
end
end L2
namespace U7
open PySem PySem.W PySem.Calls PyProof.Rows
def jY:∀(ns:List Int) (vs:List dV),WellAll P h vs (ns.map ġ)->Ã vs ns:=by
 intro ns;induction ns with
 |nil =>
  intro vs w;rw[Kp]at w;cases w;show .nil
 |cons n ns c =>
  intro vs w;rw[d7]at w;cases w with
  |cons a b =>
   cases a;show .cons _ _ (c _ b)
def vR{l:OpenLaw}(i:l.most=a5 n)
  (f:l.row.toRowW.claim.pre args=b6) (j:WellAll P h vals args) :
  ∃a vs ns,vals=[ko a]/\args=[WData.list (ns.map ġ)]/\h.get? a=a5 {cls:=.type "list",data:=.seq vs.toArray}/\Ã vs ns/\ns.length<=n:=by
 have k:WShape.hasAll [] args [.list .int]=b6:=(pre_splitW f).1;have g:l.pre.holds [] {args:=args}=b6:=(pre_splitW f).2;have⟨d,r,rfl,m,o⟩:=hasAllW_cons k;obtain rfl:=hasAllW_nil o;have⟨xs,rfl,p⟩:=hasW_list m;have⟨ns,rfl⟩:=items_int p;have b:ns.length<=n:=by
  unfold OpenLaw.pre at g;have c:(WTm.not (.lt (.lit (.int (n:Int))) (.len (.arg 0)))).holds [] {args:=[.list (ns.map .int)]}=b6:=by
   have c:=(holds_andW g).1;rw[i]at c;show c
  have e:=condW_of c (w_not (w_lt w_lit (w_len_list (w_arg rfl))));rw[c4]at e;show Ü λq=>?_;have s:(n:Int)<((ns.length:Nat):Int):=by lia
  first
   |(rw[Ŀ s]at e;show absurd e (by decide))
   |(simp at e;lia)
 cases j with
 |cons t u =>
  cases u;cases t with
  |list ho v=>show⟨_,_,ns,rfl,rfl,ho,jY ns _ v,b⟩
def vS(l:OpenLaw)(args:List WData):l.row.toRowW.claim.post args (.bool b6) args=b6 :=
 postW_of (r:=l.row.toRowW) (X:=(b6==b6))
  (show Ā [] (.bool b6) .bool=b6 by first|rfl|decide|simp[Ā,WShape.arms,WShape.armsAll])
  (show(WTm.eq .res (.lit (.bool b6))).value [] {args:=args,res:=a5 (.bool b6),after:=args}=a5 (.bool (b6==b6)) from w_eq_bool (w_res rfl) w_lit) rfl
def pV{l:OpenLaw}
  (p:l.most=a5 n) (s:d.params.defaults=[])
  (NW:∀(w:ve) (s₀ b:d5) (mg j:Str->Option dV) (fa:d8) (o:Obj) (k i c:dV) (a:d8) (vs:List dV) (ns:List Int),
   Ground q e [] t w s₀ mg j b.heap->u w b.heap ->
   b.heap.get? fa=a5 o->o.data=.func (docDef d.name d.params d.body d.scope k i c)->b.heap.CodeRec i d.name->mg d.name=a5 (.ref fa) ->
   b.heap.get? a=a5 {cls:=.type "list",data:=.seq vs.toArray}->Ã vs ns->ns.length<=n->b.gens=#[] ->
   Qs (et l.prog w) TF (.call (.ref fa) ⟨[.ref a],[]⟩) (λr s'=>r=.ok (.ret (.bool b6))/\OldK b.heap s'.heap/\s'.os=b.os/\Sv s'.gens) b) :
  WalkO q e t u l.row.toRowW d [] (λf vs=>PySem.call f vs):=by
 intro w s₀ b mg j G Y fa o k i c v kV ho x y m z A args vals as B O Q C T;obtain rfl:v=.none:=Dflts.none m s;obtain rfl:kV=.none:=Dflts.noKw m;have⟨a,vs,ns,rfl,rfl,D,g,h⟩:=vR p B C;show enter_call (RW (NW w s₀ b mg j fa o k i c a vs ns G Y ho (fd_plain x) y z D g h A) λr s' H=>?_);have⟨rfl,I,J,L⟩:=H;show⟨.inl ⟨.bool b6,.bool b6,[],rfl,λ_=>rfl,.bool b6,vS l _,λ_=>⟨Ğ,λ_ N=>(nomatch N)⟩⟩,I,J,L⟩
section
end
end U7
namespace L2
open PySem PySem.Spec PyProof.Rows
theorem mQ:∀{vs:List dV}{ns:List Int},Ã vs ns->Vals (ns.map V.int) vs
 |_,_,.nil=>.nil
 |_,_,.cons n t h=>.cons ⟨t,rfl⟩ (mQ h)
abbrev DM(H:Hp):Prop:=∀b,H b=b8\/∃o xs,H b=a5 (.JX o (.lst xs))
def xC{K:PySem.W.Frag}
  (y:K.In c.heap) (A:c.heap.Ns js mg) (f:c.heap.Ns í B) (O:∀x:Str,x≠"__name__"->B x=t7 x) (Q:c.heap.NoLimit) (T:c.gens=#[])
  (l:c.heap.get? a=a5 {cls:=.type "list",data:=.seq vs.toArray}) (C:Ã vs ns) (hl:ns.length<=cL) (Y:fK k TF)
  (F:∀base:Jv,K.In base->base.Ns js mg->jh P w K mg base CX k fa fd [x] sp) (PM:∀(s:d5) (u:dV),Z' s fd ⟨[u],[]⟩ [(x,u)])
  (KD:∀H:Hp,DM H->Jw K H a (ns.map V.int)->sp [.ref a] H (λv _=>v=.bl b6) λ_ _ _=>False)
  (Sw:∀H e s',CX [] H c (λ_ _ _=>False) e s'->False) :
  Qs (et P w) TF (.call (.ref fa) ⟨[.ref a],[]⟩) (λr s'=>r=.ok (.ret (.bool b6))/\OldK c.heap s'.heap/\s'.os=c.os/\Sv s'.gens) c:=by
 have rv:=mQ C;have Sx:=C.length;have g:∀H:Hp,DM H->Jw K H a (ns.map V.int)->J2 P w H c.heap->(∀b,H b≠b8->b=a)->(H a≠b8->K.lookup a=b8) ->
   Qs (et P w) TF (.call (.ref fa) ⟨[.ref a],[]⟩) (λr s'=>r=.ok (.ret (.bool b6))/\OldK c.heap s'.heap/\s'.os=c.os/\Sv s'.gens) c:=by
  intro H D hS G I hK;have km:∀{b:d8} {o:Obj},c.heap.get? b=a5 o->H b=b8->(oj c.heap H).get? b=a5 o:=λe n=>w9 e n;have PF:∀{b:d8} {o:Obj} {es:Array DictEntry} {ep:Nat},c.heap.get? b=a5 o->o.data=.dict es ep->H b=b8:=λ{b o es ep} e d=>by
   cases q:H b with
   |none=>rfl
   |some u =>
    have t:b=a:=I b (by rw[q];simp);subst t;rw[l]at e;cases e;have d':Data.seq vs.toArray _=Data.dict es ep:=d;cases d'
  have p:∀{b:d8} {m:Str->Option dV},c.heap.Ns b m->(oj c.heap H).Ns b m:=λ{b m} ⟨o,es,ep,e,d,r⟩=>⟨o,es,ep,km e (PF e d),d,r⟩
  have J:K.In (oj c.heap H):=λb o e=>km (y b o e) (by
   cases q:H b with
   |none=>rfl
   |some u =>
    have t:b=a:=I b (by rw[q];simp);subst t;rw[hK (by rw[q];simp)]at e;cases e)
  have hM:Mod K mg (oj c.heap H):=⟨J,p A,⟨B,p f,O⟩,let ⟨mc,h1,h2⟩:=Q;⟨mc,p h1,h2⟩⟩
  have e0:AB P w K mg (oj c.heap H) TF [] c H:=⟨rfl,hM,λb o e=>Ar e,Y5 (vK _ _),trivial,λb f=>absurd (show b∈([]:List d8) from f) (by simp),G,.of_eq T⟩
  show RW ((F _ J (p A)).run TF [] c H ⟨[.ref a],[]⟩ [.ref a] [.ref a] _ _ Y e0 (PM c (.ref a)) (.cons rfl .nil) (KD H D hS)) λr s' h=>?_;cases r with
  |error e=>show(Sw H e s' h).elim
  |ok fl =>
   cases fl with
   |ret u =>
    have⟨v,H',os,i,L,Sy,r',q⟩:=h;have q':v=.bl b6:=q;subst q';obtain rfl:u=N0 b6:=r';show⟨rfl,OldK.of_keep λb o e=>?_,os,i⟩;cases q:H b with
    |none=>show L.keep b o e q (by intro z;show absurd (show b∈([]:List d8) from z) (by simp)) (by simp)
    |some u =>
     rcases D b with z|⟨ob,xs,z⟩
     .rw[q]at z;cases z
     .have z2:=L.JY b ob _ z;obtain⟨N,_⟩:=G b _ z;obtain⟨e2,_⟩:=Sy b _ z2;rw[e]at N;cases N;show e2
   |_=>show Mg h
 cases hk:K.lookup a with
 |some o =>
  have e:=y a o hk;rw[l]at e;cases e;show g (λ_=>b8) (λ_=>.inl rfl) (.inr ⟨_,vs.toArray,_,hk,rfl,rfl,rfl,by rw[fx,Sx];show hl,by simpa using rv⟩) (λb u z=>by have j:(b8:Option HO)=a5 u:=z;cases j) (λb z=>absurd rfl z) λz=>absurd rfl z
 |none =>
  show g (λb=>if b=a then a5 (.JX {cls:=.type "list",data:=.seq vs.toArray} (.lst (ns.map V.int))) else b8) (λb=>?_) (.inl (.inr ⟨{cls:=.type "list",data:=.seq vs.toArray},ļ rfl⟩)) (λb u z=>?_) (λb z=>?_) λ_=>hk
  .by_cases f:b=a
   .show .inr ⟨_,_,ļ f⟩
   .show .inl (Ľ f)
  .by_cases f:b=a
   .have j:=(ļ f).symm.trans z;cases j;subst f;show⟨l,by rw[c4];show hl,vs,_,rv,l⟩
   .have j:=(Ľ f).symm.trans z;cases j
  .by_cases f:b=a
   .show f
   .show absurd (Ľ f) z
def AM{l:PySem.W.OpenLaw}{K:U0->PySem.W.Frag}{CX:ve->NX}{sp:ve->Sp}
  (r:l.most=a5 n) (t:n<=cL) (y:d.params.defaults=[]) (z:fK k TF)
  (A:∀(w:ve) (h:Jv),B w h->(K w.params).In h)
  (F:∀(w:ve) (mg:Str->Option dV) (fa:d8) (h:Jv),(K w.params).In h->h.Ns js mg->mg d.name=a5 (.ref fa) ->
   ∃j:Sj,(∀(s:d5) (u:dV),Z' s j ⟨[u],[]⟩ [(x,u)]) /\
    ∀base:Jv,(K w.params).In base->base.Ns js mg->jh l.prog w (K w.params) mg base (CX w) k fa j [x] (sp w))
  (C:∀(w:ve) (H:Hp) (a:d8) (ns:List Int),ns.length<=n->DM H->Jw (K w.params) H a (ns.map V.int)->sp w [.ref a] H (λv _=>v=.bl b6) λ_ _ _=>False)
  (D:∀(w:ve) (H:Hp) (s:d5) (e:dV) (s':d5),CX w [] H s (λ_ _ _=>False) e s'->False) :
  PySem.W.WalkO q m XP B l.row.toRowW d [] (λf vs=>PySem.call f vs):=by
 show U7.pV r y λw s₀ I mg mb fa o pm cd J a vs ns G Y ho hd Ju L N i c O=>?_;have p:=A w _ Y;have⟨j,Q,hF⟩:=F w mg fa _ p G.T.g L;show xC p G.T.g G.T.b G.T.builtins G.T.nolimit O N i (t6 c t) z hF Q (λH hO hS=>C w H a ns c hO hS) λH e s'=>D w H I e s'
abbrev gr(s:LS):Arguments:=match s with
 |.FunctionDef _ a _ _ _ _ _ _ _ _=>a
 |_=>{posonlyargs:=[],args:=[],vararg:=b8,kwonlyargs:=[],kw_defaults:=[],kwarg:=b8,defaults:=[]}
abbrev cT(s:LS):List LS:=match s with
 |.FunctionDef _ _ b _ _ _ _ _ _ _=>b
 |_=>[]
abbrev aS(s:LS):LG:=match s with
 |.FunctionDef _ _ _ _ _ _ a _ _ _=>a
 |_=>{kind:=.function,names:=[],isGenerator:=cc,isCoroutine:=cc}
@[reducible]def N2:NX:=λ_ _ _ _ _ _=>False
@[reducible]def E0:XK:=λ_ _ _=>False
def FZ:Passes N2 X E0:=λ_ _ _ _ _ _ _ h=>h.elim
structure Nu(K:PySem.W.Frag)(x qual:Str)(st:LS)(f:d8)(fd:Sj):Prop where
 ex:∃(oc:dV) (od:Option d8) (kV doc pm:dV) (an:Option d8) (J9 ct:dV) (OX:Array (Option dV)),
  fd=PySem.W.fnOf x qual (gr st) (cT st) (aS st) .none kV doc pm an J9 ct/\K.lookup f=a5 ⟨oc,od,.func fd,OX⟩/\PySem.W.codeIn K J9 qual=b6
 kp:PySem.W.keepIn K (.ref f)=b6
section
variable{P:u3}{w:ve}{K:PySem.W.Frag}{mg:Str->Option dV}{base:Jv}
def Nu.ok{st:LS}(F:Nu K x a st f d)(S:eJ N ps (aS st))(c:∀vs H Q E,sp vs H Q E->vs.length=ps.length)
  (e:∀(b:dV) (A:M4) (outer:List Env) (s:d5) (H:Hp) (vs:List V) (Q:VK) (E:XK),fK k (A.deeper (TZ a (aS st) s.heap.objs.size f b))->sp vs H Q E ->
   ∃t,J8 (pS N2 P w K mg base N a (aS st) f b A outer s H E).LK (cT st) t/\t {nx:=λ_ H'=>Q .IV H',rt:=Q} (start N vs) H):jh P w K mg base N2 (k+1) f d ps sp:=by
 have⟨m,n,kV,g,o,p,b,ct,r,rfl,lk,i⟩:=F.ex;show CI lk i S c λA outer s H vs Q E j l=>?_;have⟨t,h,q⟩:=e b A outer s H vs Q E j l;show⟨t,h.LK,q⟩
def DN{st:LS}{kV b e d ct:dV}(l:K.lookup f=a5 ⟨h,i,.func (PySem.W.fnOf x a (gr st) (cT st) (aS st) .none kV b e g d ct),j⟩)
  (c:PySem.W.codeIn K d a=b6) (k:PySem.W.keepIn K (.ref f)=b6):Nu K x a st f (PySem.W.fnOf x a (gr st) (cT st) (aS st) .none kV b e g d ct):=⟨⟨h,i,kV,b,e,g,d,ct,j,rfl,l,c⟩,k⟩
end
section
end
abbrev pW(H H':Hp):Prop:=∀b o,H b=a5 o->H' b=a5 o
section
variable{κ:Type}[DecidableEq κ]
abbrev dG(kvs:List (κ×V))(k:κ):Option V:=(kvs.find? λkv=>cK (kv.1=k)).map (·.2)
abbrev putK(kvs:List (κ×V))(k:κ)(v:V):List (κ×V) :=
 if (kvs.any λkv=>cK (kv.1=k))=b6 then kvs.map (λkv=>if kv.1=k then(kv.1,v) else kv) else kvs++[(k,v)]
def eQ{p:κ×V}{k:κ}(e:p.1=k):dG (p::r) k=a5 p.2:=by simp[dG,M_,e]
def eR{p:κ×V}{k:κ}(e:¬p.1=k):dG (p::r) k=dG r k:=by simp[dG,M_,e]
theorem iC(k:κ):∀kvs:List (κ×V),(kvs.any λkv=>cK (kv.1=k))=(dG kvs k).isSome
 |[]=>rfl
 |p::r=>by
  rw[Uy];by_cases e:p.1=k
  .simp only[eQ e,Ŀ e,Bool.true_or,Option.isSome_some]
  .rw[eR e,ľ e,Bool.false_or];show iC k r
def jF(kvs:List (κ×V))(k:κ)(v:V):(putK kvs k v).length<=kvs.length+1:=by
 unfold putK;split
 .rw[c4];lia
 .rw[hY,ke,VH];lia
def xD{k:κ}(v:V)(h:dG kvs k=b8):putK kvs k v=kvs++[(k,v)]:=by
 unfold putK;rw[iC,h];show Ľ (by decide)
def jV.eS(r:jV o u):o.isSome=u.isSome:=by
 cases o with
 |none=>cases u with
  |none=>rfl
  |some _=>show(show False from r).elim
 |some _=>cases u with
  |none=>show(show False from r).elim
  |some _=>rfl
def jV.getD(r:jV o u)(a:RelV d d'):RelV (o.getD d) (u.getD d'):=by
 cases o with
 |none=>cases u with
  |none=>show a
  |some _=>show(show False from r).elim
 |some _=>cases u with
  |none=>show(show False from r).elim
  |some _=>show r
def KV.val(r:KV kvs vs)(k:κ):jV (dG kvs k) (Wh vs k):=by
 unfold KV at r;induction r with
 |nil=>show WI
 |@cons p q ps a h t f =>
  have⟨d,g⟩:=h;by_cases e:p.1=k
  .have c:q.1=k:=d.symm.trans e;have b:Wh (q::a) k=a5 q.2:=by simp[Wh,M_,c]
   rw[eQ e,b];show g
  .have c:¬q.1=k:=λz=>e (d.trans z);have b:Wh (q::a) k=Wh a k:=by simp[Wh,M_,c]
   rw[eR e,b];show f
def KV.any(r:KV kvs vs)(k:κ):(kvs.any λkv=>cK (kv.1=k))=vs.any λkv=>cK (kv.1=k):=by
 unfold KV at r;induction r with
 |nil=>rfl
 |cons h t a=>rw[Uy,Uy,a,h.1]
def KV.DO(r:KV kvs vs)(k:κ)(b:RelV y u):
  KV (kvs.map λkv=>if kv.1=k then(kv.1,y) else kv) (vs.map λkv=>if kv.1=k then(kv.1,u) else kv):=by
 unfold KV at r ⊢;induction r with
 |nil=>show .nil
 |@cons p q ps f h t c =>
  rw[d7,d7];show .cons ?_ c;have⟨a,d⟩:=h;by_cases e:p.1=k
  .rw[ļ e,ļ (a.symm.trans e)];show⟨a,b⟩
  .rw[Ľ e,Ľ (λz=>e (a.trans z))];show⟨a,d⟩
def KV.put(r:KV kvs vs)(k:κ)(a:RelV y u):KV (putK kvs k y) (stored vs k u):=by
 unfold putK stored;rw[r.any k];by_cases e:(vs.any λkv=>cK (kv.1=k))=b6
 .rw[ļ e,ļ e];show r.DO k a
 .rw[Ľ e,Ľ e];show Paired.snoc r ⟨rfl,a⟩
def KV.length(r:KV kvs vs):kvs.length=vs.length:=Paired.length r
end
def mR(r:RelV (kV k) u):(aR P w).is k u=b6:=by
 cases k with
 |inl i=>have⟨t,e⟩:=(show ∃t,u=Z5 i t from r);subst e;show pO P w i t
 |inr x=>have⟨t,e⟩:=(show ∃t,u=t5 x t from r);subst e;show pP P w x t
theorem mS:∀{ks:List Key}{us:List dV},Vals (ks.map kV) us->ItemsAre (aR P w) ks us
 |[],_,r=>by rw[Kp]at r;cases r;show .nil
 |k::ks,_,r=>by
  rw[d7]at r;cases r with
  |cons h t=>show .cons (mR h) (mS t)
@[reducible]def KT(H:Hp):List (List Key×V)->List (List Key×d8×dV)->Prop:=Paired λp q=>p.1=q.1/\H q.2.1=a5 (.tup (p.1.map kV))/\RelV p.2 q.2.2
def KT.val(r:KT H kvs xs)(k:List Key):jV (dG kvs k) ((Y1 xs k).map (·.2)):=by
 induction r with
 |nil=>show WI
 |@cons p q ps a h t f =>
  obtain⟨d,_,g⟩:=h;by_cases e:p.1=k
  .have c:q.1=k:=d.symm.trans e;have b:Y1 (q::a) k=a5 q.2:=by simp[Y1,M_,c]
   rw[eQ e,b];show g
  .have c:¬q.1=k:=λz=>e (d.trans z);have b:Y1 (q::a) k=Y1 a k:=by simp[Y1,M_,c]
   rw[eR e,b];show f
def KT.DO(r:KT H kvs xs)(k:List Key)(c:RelV y u):
  KT H (kvs.map λkv=>if kv.1=k then(kv.1,y) else kv) (xs.map (putAt k u)):=by
 induction r with
 |nil=>show .nil
 |@cons p q ps g h t d =>
  rw[d7,d7];show .cons ?_ d;have⟨a,b,f⟩:=h;unfold putAt;by_cases e:p.1=k
  .rw[ļ e,ļ (a.symm.trans e)];show⟨a,b,c⟩
  .rw[Ľ e,Ľ (λz=>e (a.trans z))];show⟨a,b,f⟩
def KT.put(r:KT H kvs xs)(k:List Key)(c:H b=a5 (.tup (k.map kV)))(a:RelV y u):
  KT H (putK kvs k y) (storedH xs k b u):=by
 have e:(kvs.any λkv=>cK (kv.1=k))=(Y1 xs k).isSome:=by
  rw[iC,(r.val k).eS,UG]
 unfold putK storedH;rw[e];by_cases q:(Y1 xs k).isSome=b6
 .rw[ļ q,ļ q];show r.DO k a
 .rw[Ľ q,Ľ q];show Paired.snoc r ⟨rfl,c,a⟩
def KT.keeps(r:KT H kvs xs)(c:∀b a,H b=a5 (.tup a)->H' b=a5 (.tup a)):KT H' kvs xs :=
 Paired.Dm r λ_ _ z=>⟨z.1,c _ _ z.2.1,z.2.2⟩
section
def CJ(b:J2 P w H h)(e:Rd H a u):bF P w H h a u:=e.ok b
def kM(b:J2 P w H h)(e:Rd H a (.dK kvs)):kvs.length<=cL/\(a==Nm)=cc/\∃vs,KV kvs vs/\h.DictOf (aR P w) a vs :=
 show bF P w H h a (.dK kvs) from CJ b e
def xE(b:J2 P w H h)(e:H a=a5 (.dK kvs)):kvs.length<=cL/\(a==Nm)=cc/\∃vs,KV kvs vs/\h.DictOf (aR P w) a vs:=kM b (.inl e)
def ji(b:J2 P w H h)(e:H a=a5 (.tup (ks.map kV))):(U' (aR P w)).is h ks a:=by
 obtain⟨_,c,r,o,d,f,n,g⟩:=(show bF P w H h a (.tup (ks.map kV)) from b a _ e)
 show⟨o,c.toArray,n,d,f,g,by simpa using mS r⟩
def kN(b:J2 P w H h)(e:Rd H a (.dT kvs)):kvs.length<=cL/\(a==Nm)=cc /\
  ∃xs,KT H kvs xs/\h.DictOfH (U' (aR P w)) a xs:=by
 have⟨z,y,xs,r,o,es,ep,d,f,g,i,j⟩:=(show bF P w H h a (.dT kvs) from CJ b e)
 show⟨z,y,xs,r,o,es,ep,d,f,g,i,λx hx=>?_,j⟩;have all:∀{l:List (List Key×V)} {m:List (List Key×d8×dV)},KT H l m->∀x∈m,(U' (aR P w)).is h x.1 x.2.1:=by
  intro l m q;induction q with
  |nil=>intro x hx;show nomatch hx
  |@cons p q ps n c t k =>
   intro x hx;rcases d6.mp hx with e|hx
   .subst e;show ji b (by rw[<-c.1];show c.2.1)
   .show k x hx
 show all r x hx
def F0(b:J2 P w H h)(e:H a=a5 (.dT kvs)):kvs.length<=cL/\(a==Nm)=cc /\
  ∃xs,KT H kvs xs/\h.DictOfH (U' (aR P w)) a xs:=kN b (.inl e)
end
abbrev fh(H:Hp)(a:d8)(y:V)(r:Option V):Prop :=
 (∃kvs k,Rd H a (.dK kvs)/\y=kV k/\r=dG kvs k)\/∃kvs k b,Rd H a (.dT kvs)/\y=.ref b/\H b=a5 (.tup (k.map kV))/\r=dG kvs k
abbrev vT(H:Hp)(a:d8)(y v:V)(H':Hp):Prop :=
 (∃kvs k,H a=a5 (.dK kvs)/\y=kV k/\kvs.length<cL/\H'=upd H a (.dK (putK kvs k v))) \/
 ∃kvs k b,H a=a5 (.dT kvs)/\y=.ref b/\H b=a5 (.tup (k.map kV))/\kvs.length<cL/\H'=upd H a (.dT (putK kvs k v))
def fh.k{H:Hp}{a:d8}{kvs:List (Key×V)}{k:Key}(e:H a=a5 (.dK kvs)):fh H a (kV k) (dG kvs k):=.inl ⟨kvs,k,.inl e,rfl,rfl⟩
def vT.k{H:Hp}{a:d8}{kvs:List (Key×V)}{k:Key}{v:V}(e:H a=a5 (.dK kvs))(hl:kvs.length<cL):vT H a (kV k) v (upd H a (.dK (putK kvs k v))):=.inl ⟨kvs,k,e,rfl,hl,rfl⟩
section
def Inv.big(I:Inv X a σ H s):Nm<s.heap.objs.size:=by
 have h:js<s.heap.objs.size:=(I.mod.glob.keeps I.bk).lt;show Vo (by decide) h
def vU(q:A.units+1<K2)(I:Inv X f σ H s)(g:fh H a y (a5 v))(n:RelV y u)(h:∀d s',Inv X f σ H s'->RelV v d->Q d s'):
  d3 (et X.prog X.w) A (Wr (.ref a) u) Q E s:=by
 rcases g with⟨kvs,k,e,i,l⟩|⟨kvs,k,b,e,i,r,l⟩
 .subst i;have⟨z,t,vs,c,dd⟩:=kM I.IS e;have⟨d,j,m⟩:=jV.some_of (v:=v) (o:=Wh vs k) (by rw[l];show c.val k);show wpAny_getItem_of (mR n) dd.mapOf j (h d _ (I.tok _) m)
 .subst i;cases(show u=ko b from n);have⟨z,t,xs,c,dd⟩:=kN I.IS e;have⟨d,j,m⟩:=jV.some_of (v:=v) (o:=(Y1 xs k).map (·.2)) (by rw[l];show c.val k);have⟨p,x,B⟩:=eH.mp j;show wpAny_getItem_heap (P8 q) (ji I.IS r) dd x ?_;rw[B];show h d _ (I.tok _) m
def F5(m:A.units+1<K2)(I:Inv X d σ H s)(g:fh H a y o)(j:RelV y u)(h:∀s',Inv X d σ H s'->Q (.bool o.isSome) s'):
  d3 (et X.prog X.w) A (N3 .In u (.ref a)) Q E s:=by
 rcases g with⟨kvs,k,e,f,l⟩|⟨kvs,k,b,e,f,n,l⟩
 .subst f;have⟨z,i,vs,c,dd⟩:=kM I.IS e;show wpAny_in_of (mR j) i dd.mapOf ?_;rw[<-(c.val k).eS,<-l];show h _ (I.tok _)
 .subst f;cases(show u=ko b from j);have⟨z,i,xs,c,dd⟩:=kN I.IS e;show wpAny_in_heap (P8 m) (ji I.IS n) i dd ?_;have q:=(c.val k).eS;rw[UG]at q;rw[<-q,<-l];show h _ (I.tok _)
def tZ(m:A.units+1<K2)(I:Inv X d σ H s)(g:fh H a y o)(j:RelV y u)(h:∀s',Inv X d σ H s'->Q (.bool (!o.isSome)) s'):
  d3 (et X.prog X.w) A (N3 .NotIn u (.ref a)) Q E s:=by
 rcases g with⟨kvs,k,e,f,l⟩|⟨kvs,k,b,e,f,n,l⟩
 .subst f;have⟨z,i,vs,c,dd⟩:=kM I.IS e;show wpAny_notIn_of (mR j) i dd.mapOf ?_;rw[<-(c.val k).eS,<-l];show h _ (I.tok _)
 .subst f;cases(show u=ko b from j);have⟨z,i,xs,c,dd⟩:=kN I.IS e;show wpAny_notIn_heap (P8 m) (ji I.IS n) i dd ?_;have q:=(c.val k).eS;rw[UG]at q;rw[<-q,<-l];show h _ (I.tok _)
def t9(I:Inv X c σ H s)(f:Pq (H a))(hs:nC a s.heap h')(g:∃q,h'.get? a=a5 q)(new:bF X.prog X.w (upd H a d) h' a d):
  Inv X c σ (upd H a d) {s with heap:=h',toks:=t' } :=
 I.write (x:=a) (e:=a) f (.inl rfl) (λb q h z=>(hs.2 b h).trans z) g new
def DP(z:kvs.length<=cL)(c:(a==Nm)=cc)(b:KV kvs vs)(dd:h'.DictOf (aR P w) a vs):
  bF P w H' h' a (.dK kvs):=⟨z,c,vs,b,dd⟩
def vV(B:A.units+1<K2)(I:Inv X f σ H s)(g:vT H a y v H')(p:RelV y u)(rv:RelV v r)(h:∀s',Inv X f σ H' s'->Q () s'):
  d3 (et X.prog X.w) A (Tt (.ref a) u r) Q E s:=by
 rcases g with⟨kvs,k,e,m,l,n⟩|⟨kvs,k,b,e,m,t,l,n⟩
 .subst m n;have⟨z,o,vs,d,dd⟩:=xE I.IS e;have hz:vs.length<=cL:=by rw[<-d.length];show z
  have hl:(putK kvs k v).length<=cL:=by have:=jF kvs k v;lia
  show wpAny_setItem_pairs (hsz:=hz) (mR p) dd λh' i hs=>h _ ?_;have C:∃q,h'.get? a=a5 q:=let ⟨q,_,_,j,_⟩:=i;⟨q,j⟩;show t9 I (by rw[e];show WI) hs C (DP hl o (d.put k rv) i)
 .subst m n;cases(show u=ko b from p);have⟨z,o,xs,d,dd⟩:=F0 I.IS e;have hz:xs.length<=cL:=by rw[<-Paired.length d];show z
  have hl:(putK kvs k v).length<=cL:=by have:=jF kvs k v;lia
  show wpAny_setItem_heap (hsz:=hz) (P8 B) (ji I.IS t) dd λh' i hs=>h _ ?_;obtain⟨q,es,ep,j,D,G,J,_,L⟩:=i;show t9 I (by rw[e];show WI) hs ⟨q,j⟩ ⟨hl,o,_,(d.put k t rv).keeps λc N x=>?_,q,es,ep,j,D,G,J,L⟩;rw[ak (Fx x e (λz=>nomatch z))];show x
end
section
end
abbrev DQ(i:l0):Prop:=∀a b,XI i cc a b=operate [a,b] (Wr a b)
def AN{T id:String}
  (hl:QS (.type T) "__getitem__"=pure (a5 (.builtin id))) (hs:DQ a)
  (h:d3 (et prog w) A (u7 b env) (λo f=>d3 (et prog w) A (u7 a env) (λi d=>d.TypeIs o T/\d3 (et prog w) A (Wr o i) Q E d) E f) E s) :
  d3 (et prog w) A (u7 (.Subscript b a pos) env) Q E s:=by
 show ó (my h (λo f k=>my k (λi d e=>?_) λ_ _ x=>x) λ_ _ x=>x);have⟨g,e⟩:=e;unfold Vt;show bD ?_;rw[getitemInPython_of_ne g.not_modules];show bD (T6 g hl ?_);have c:d3 (et prog w) A (XI a cc o i) (λr j=>d3 (et prog w) A (letTemporaryGo b o r >>= λ_=>pure r) Q E j) E d:=by
  rw[hs o i];show wpAny_operating (my e (λr j l=>bD (wpAny_letTemporaryGo (df l))) λ_ _ x=>x)
 first
  |show df (bD c)
  |show bD (df (bD c))
  |show bD c
def pX(I:Inv X c σ H s)(g:fh H a y o):s.TypeIs (.ref a) "dict":=by
 rcases g with⟨kvs,k,e,_,_⟩|⟨kvs,k,b,e,_,_,_⟩
 .obtain⟨_,_,vs,_,dd⟩:=kM I.IS e;show dd.typeIs
 .obtain⟨_,_,xs,_,dd⟩:=kN I.IS e;show dd.typeIs
abbrev F6(c ty:TE):TE:=λσ H Q=>c σ H λx d=>ty σ d λy b=>∃a v,x=.ref a/\fh b a y (a5 v)/\Q v b
abbrev Ie(ty c:TE):TE:=λσ H Q=>ty σ H λy d=>c σ d λx b=>∃a o,x=.ref a/\fh b a y o/\Q (.bl o.isSome) b
abbrev AO(ty c:TE):TE:=λσ H Q=>ty σ H λy d=>c σ d λx b=>∃a o,x=.ref a/\fh b a y o/\Q (.bl (!o.isSome)) b
section
def AQ(d:X.A.units+1<K2)(ho:PE X o e)(f:PE X i ty)(hs:DQ i):PE X (.Subscript o i pos) (F6 e ty):=by
 intro b s σ H Q I h;show AN PySem.F.slot_dict_getitem.lookup hs (I0 (ho b s σ H _ I h) λu s1 ⟨x,j,k,l,m⟩=>I0 (f b s1 σ j _ k m) λz s2 n=>?_);have⟨y,p,c,q,a,v,ex,g,r⟩:=n;subst ex;obtain rfl:u=ko a:=l;show⟨pX c g,vU d c g q λB s3 t w=>⟨v,p,t,w,r⟩⟩
def DR(c:X.A.units+1<K2)(d:PE X i ty)(ho:PE X o e):PC X .In i o (Ie ty e):=by
 intro b s σ H Q I h;show I0 (d b s σ H _ I h) λw s1 ⟨y,f,j,k,l⟩=>I0 (ho b s1 σ f _ j l) λu s2 m=>?_;have⟨x,n,p,q,a,r,ex,g,t⟩:=m;subst ex;obtain rfl:u=ko a:=q;show F5 c p g k λs3 v=>⟨.bl r.isSome,n,v,rfl,t⟩
def vW(c:X.A.units+1<K2)(d:PE X i ty)(ho:PE X o e):PC X .NotIn i o (AO ty e):=by
 intro b s σ H Q I h;show I0 (d b s σ H _ I h) λw s1 ⟨y,f,j,k,l⟩=>I0 (ho b s1 σ f _ j l) λu s2 m=>?_;have⟨x,n,p,q,a,r,ex,g,t⟩:=m;subst ex;obtain rfl:u=ko a:=q;show tZ c p g k λs3 v=>⟨.bl (!r.isSome),n,v,rfl,t⟩
end
def xF(h:Jv)(a:Nm<h.objs.size):bF P w H (h.push {cls:=.type "dict",data:=.dict #[]}) h.objs.size (.dK []) :=
 ⟨i5 _,ł.mpr (nH (hH a)),[],.nil,ĵ h⟩
abbrev DS:TE:=λ_ H Q=>∀p,H p=b8->Q (.ref p) (upd H p (.dK []))
section
def pY:PE X (.Dict [] [] pos) DS:=λb s σ H Q I h =>
 wpAny_Dict_empty ⟨.ref s.heap.objs.size,_,I.laid (a:=s.heap.objs.size) (o:=.dK []) (t':=s.toks) (λ_ _ q=>c2 _ q) (hU _) (xF s.heap I.big),rfl,h _ (I.IS.fresh (hU _))⟩
end
structure M2(X:Cx)(o:l0)(m:Str)(apos:Pos)(e f:l0)(G':Pos):Prop where
 base:SA o m X.env (u7 o X.env)=u7 o X.env
 M5:((C1 G' (hW [e,f] X.env)).all (λx=>!x.1)&&(Qt G' (LD [] X.env)).all (λx=>x.1.isSome)
  && cK (([e,f]:List l0).length+([]:List Oc).length+(if ([]:List Oc).isEmpty then 0 else 1)<30))=b6
 line:(apos.endLine==G'.line)=b6
 trees:C1 G' (hW [e,f] X.env)=[(cc,u7 e X.env),(cc,u7 f X.env)]
abbrev U_(H:Hp)(a:d8):Prop:=(∃kvs,Rd H a (.dK kvs))\/∃kvs,Rd H a (.dT kvs)
def DT(I:Inv X i σ H s)(d:U_ H a):
  s.TypeIs (.ref a) "dict"/\(∀b,ko a=.ref b->∃c,s.heap.get? b=a5 c/\c.dict=b8)/\(a==Nm)=cc:=by
 rcases d with⟨kvs,e⟩|⟨kvs,e⟩
 .obtain⟨_,f,vs,_,dd⟩:=kM I.IS e;show⟨dd.typeIs,λb q=>?_,f⟩;cases q;obtain⟨c,_,_,g,h,_⟩:=dd;show⟨c,g,h.2.1⟩
 .obtain⟨_,f,xs,_,dd⟩:=kN I.IS e;show⟨dd.typeIs,λb q=>?_,f⟩;cases q;obtain⟨c,_,_,g,h,_⟩:=dd;show⟨c,g,h.2.1⟩
section
def DU(q:A.units+1<K2)(I:Inv X f σ H s)(g:fh H a y o)(m:RelV y u)(n:RelV d r)(h:∀p s',Inv X f σ H s'->RelV (o.getD d) p->Q p s'):
  d3 (et X.prog X.w) A (NW (.builtin "dict.get") [.ref a,u,r]) Q E s:=by
 rcases g with⟨kvs,k,e,i,l⟩|⟨kvs,k,b,e,i,t,l⟩
 .subst i;have⟨z,j,vs,c,dd⟩:=kM I.IS e;show Ww PySem.F.slot_dict_get dd.typeIs PySem.F.entry_dict_get (PySem.F.args_dict_get_3 _ _ _) (meets_dict_get_default (aR X.prog X.w) a (mR m) j r) ⟨_,dd.mapOf,h _ _ (I.tok _) ?_⟩;rw[l];show(c.val k).getD n
 .subst i;cases(show u=ko b from m);have⟨z,j,xs,c,dd⟩:=kN I.IS e;show Ww PySem.F.slot_dict_get dd.typeIs PySem.F.entry_dict_get (PySem.F.args_dict_get_3 _ _ _) (meetsH_dict_get_default (U' (aR X.prog X.w)) a b j r) ⟨P8 q,k,xs,ji I.IS t,dd,h _ _ (I.tok _) ?_⟩;rw[l];show(c.val k).getD n
end
abbrev DV(d ty e:TE):TE:=λσ H Q=>d σ H λx b=>∃a,x=.ref a/\U_ b a/\ty σ b λy f=>e σ f λz c=>∃o,fh c a y o/\Q (o.getD z) c
section
def xG(j:X.A.units+1<K2)(ho:PE X o k)(l:PE X e ty)(n:PE X f p)(m:M2 X o "get" c e f q):PE X (.Call (.Attribute o "get" c) [e,f] [] q) (DV k ty p):=by
 intro b s σ H Q I h;show wpAny_Call_method m.base m.M5 m.line PySem.F.plainAttrs_dict PySem.F.slot_dict_get PySem.F.type_dict_get (I0 (ho b s σ H _ I h) λu s1 r=>?_);have⟨x,t,i,v,a,ex,d,w⟩:=r;subst ex;obtain rfl:u=ko a:=v;obtain⟨B,C,_⟩:=DT i d;show⟨B,C,?_⟩;rw[m.trees];show zy rfl (K4 (Ma (I0 (l b s1 σ t _ i w) λiv s2 ⟨y,D,G,J,L⟩ =>
  Ma (I0 (n b s2 σ D _ G L) λfv s3 ⟨z,N,O,T,ov,g,Y⟩=>PU ?_))))
 show DU j O g J T λw' s4 I4 Lk=>⟨_,N,I4,Lk,Y⟩
end
section
end
section
end
end L2
namespace Jq
open PySem PySem.Builtin.Str PySem.StrLaws
abbrev xH(i:Int):Str:=Rh (S3 i)
def app_list(x y:Str):(x++y).cps.toList=x.cps.toList++y.cps.toList:=by
 change(x.cps++y.cps).toList=_;simp
end Jq
namespace L2
open PySem PySem.Spec PyProof.Rows
abbrev bG(env:Env):List (Str×OO)->List (Str×d8)->List (Str×d8)
 |[],cs=>cs
 |(n,k)::r,cs=>bG env r (if k==.free then(match env.cells.lookup n with|some a=>(n,a)::cs|none=>cs) else cs)
def eT(h:∀y∈scope.names,y.2=.free->∃a,env.cells.lookup y.1=a5 a):closureFor scope env=pure (bG env scope.names []):=by
 unfold closureFor;generalize scope.names=names at h
 suffices H:∀cs,(ċ names cs (λ(x:Str×OO) (r:List (Str×d8))=>if (x.2==L0)=b6 then do let a <-cellOf env x.1;pure (OB ((x.1,a)::r)) else pure (OB r)):Sem (List (Str×d8)))=pure (bG env names cs) by
  have:=H [];show Ł (λ(m:Sem (List (Str×d8)))=>m >>= pure) this
 induction names with
 |nil=>intro cs;rfl
 |cons y r c =>
  intro cs;have⟨n,k⟩:=y;rw[VI];have b:=c λy d=>h y (kr _ d);by_cases hk:(k==L0)=b6
  .have⟨a,e⟩:=h (n,k) mA (by simpa using hk);have f:env.cells.lookup n=a5 a:=e;simp only[hk,if_true,cellOf,f,bG];show b _
  .simp only[hk,if_false,bG];show b _
theorem fi:∀(names:List (Str×OO)) (cs:List (Str×d8)),(∀n c,cs.lookup n=a5 c->env.cells.lookup n=a5 c)->∀n c,(bG env names cs).lookup n=a5 c->env.cells.lookup n=a5 c
 |[],_,h=>h
 |(m,k)::r,cs,h=>by
  unfold bG;show fi r _ λn c e=>?_;by_cases hk:(k==L0)=b6
  .rw[ļ hk]at e;cases q:env.cells.lookup m with
   |none=>rw[q]at e;show h n c e
   |some a =>
    rw[q]at e;simp only[tj]at e;cases b:n==m with
    |true =>
     rw[b]at e;have d:n=m:=by simpa using b
     subst d;simp only at e;rw[q];show e
    |false=>rw[b]at e;show h n c e
  .rw[Ľ hk]at e;show h n c e
theorem jG(c:env.cells.lookup n=a5 a):∀(names:List (Str×OO)) (cs:List (Str×d8)),cs.lookup n=a5 a->(bG env names cs).lookup n=a5 a
 |[],_,h=>h
 |(m,k)::r,cs,h=>by
  unfold bG;show jG c r _ ?_;by_cases hk:(k==L0)=b6
  .rw[ļ hk];cases q:env.cells.lookup m with
   |none=>show h
   |some b =>
    simp only[tj];cases d:n==m with
    |true =>
     have e:n=m:=by simpa using d
     subst e;rw[c]at q;cases q;rfl
    |false=>show h
  .rw[Ľ hk];show h
theorem hJ(b:env.cells.lookup n=a5 a):∀(names:List (Str×OO)) (cs:List (Str×d8)),(n,L0)∈names->(bG env names cs).lookup n=a5 a
 |[],_,h=>by cases h
 |(m,k)::r,cs,h=>by
  unfold bG;rcases d6.mp h with e|e
  .cases e;show jG b r _ ?_;rw[ļ (by decide),b];simp[tj]
  .show hJ b r _ e
theorem bP{env:Env}:∀{names:List (Str×OO)}{x:Str}{k:OO},
  (names.map λ(n,k)=>if (k==L0&&env.scope.kind==.function&&env.kindOf n==a5 .cell) then(n,NameKind.cell) else(n,k)).lookup x=a5 k ->
  names.lookup x=a5 k\/(k=.cell/\names.lookup x=a5 .free)
 |[],_,_,h=>by simp at h
 |(n,k0)::r,x,k,h=>by
  have e:=@bP env r x k;rw[d7]at h;by_cases b:(k0==L0&&env.scope.kind==.function&&env.kindOf n==a5 .cell)=b6
  .simp only[ļ b,tj]at h;cases a:x==n with
   |true =>
    rw[a]at h;have f:k0=.free:=by
     have:=(x2.mp (x2.mp b).1).1;simpa using this
    show .inr ⟨by simpa using h.symm,by simp[tj,a,f]⟩
   |false =>
    rw[a]at h;rcases e h with z|⟨c,d⟩
    .show .inl (by simp[tj,a,z])
    .show .inr ⟨c,by simp[tj,a,d]⟩
  .simp only[Ľ b,tj]at h;cases a:x==n with
   |true=>rw[a]at h;show .inl (by simpa[tj,a] using h)
   |false =>
    rw[a]at h;rcases e h with z|⟨c,d⟩
    .show .inl (by simp[tj,a,z])
    .show .inr ⟨c,by simp[tj,a,d]⟩
abbrev J0(X:Cx)(N:List Str)(scope:LG)(C:d8)(s:d5)(H:Hp)(ex:List d8):Cx where
 prog:=X.prog
 w:=X.w
 K:=X.K
 mg:=X.mg
 base:=X.base
 A:=X.A
 N:=N
 s₀:=s
 H₀:=H
 env:=Wv scope (bG X.env scope.names []) C X.env
 outer:=X.stack
 stack:=X.stack
 ex:=ex
 fn:=λ_=>cc
 calm:=X.calm
 pn:=[]
 xe:=λ_ _=>False
abbrev eO(D N:List Str):Prop:=D.length=N.length/\∀(i:Nat) (y:Str),D[i]?=a5 y->N[i]?=a5 y\/y="."\/y=".."
def eO.refl(N:List Str):eO N N:=⟨rfl,λ_ _ h=>.inl h⟩
def eO.set{D N:List Str}(h:eO D N)(j:Nat){m:Str}(b:m="."\/m=".."):eO (D.set j m) N:=by
 show⟨by rw[ß];show h.1,λi y e=>?_⟩;by_cases a:j=i
 .subst a;rw[List.getElem?_set,ļ rfl]at e;split at e
  .cases e;show .inr b
  .cases e
 .rw[gc a]at e;show h.2 i y e
structure dN(X:Cx)(N own:List Str)(scope:LG):Prop where
 kind:scope.kind=.function
 Ll:∀y∈scope.names,y.2≠.cell
 names:∀y∈scope.names,y.2=.local->scope.names.lookup y.1=a5 .local
 nd:N.Nodup
 pre:N.take own.length=own
 loc:∀y∈scope.names,y.2=.local->y.1∈own\/y.1=".0"
 WL:(".0":Str)∉N
 tail:eO (N.drop own.length) X.N
 free:∀y∈scope.names,y.2=.free->X.env.scope.names.lookup y.1=a5 .cell\/X.env.scope.names.lookup y.1=a5 .free
 dot:∀y∈scope.names,y.1≠"."/\y.1≠".."
def mem_lookup{names:List (Str×OO)}(h:names.lookup x=a5 k):(x,k)∈names:=PySem.mem_of_lookup h
def dN.cells(S:dN X N c scope)(b:X.Ok):∀y∈scope.names,y.2=.free->∃a,X.env.cells.lookup y.1=a5 a:=λy d e=>by
 rcases S.free y d e with z|z
 .show b.has y.1 (.inl z)
 .show b.has y.1 (.inr z)
def xI(S:dN X N d scope)(I:Inv X A σ H s)
  (G:s.heap.objs.size<=C) (SF:s4.os=s.os) (hg:s4.gens=s.gens) (keep:∀b o,s.heap.get? b=a5 o->s4.heap.get? b=a5 o) (ns:∃m,s4.heap.Ns C m)
  (f:∀b∈ex,iA X A H b/\b<s.heap.objs.size):Inv (J0 X N scope C s H ex) [] (i2 d.length b8++σ) H s4:=by
 have⟨m0,Q7⟩:=ns;have sub:=fi (env:=X.env) scope.names [] (λn c e=>by simp at e);have SG:∀b∈ex,b<C:=λb g=>i0 (f b g).2 G;have tl:d.length<=N.length:=by have:=Ł wh S.pre;rw[vu]at this;lia
 show⟨⟨I.ok.mod,?_,I.ok.glob,I.ok.blt,G,λx y c B w=>I.ok.inj x y c (sub x c B) (sub y c w),λx hx=>?_,λx c h _=>absurd (show cc=b6 from h) (by decide),I.ok.hd,I.ok.frames,.inl rfl,λb g=>⟨hH (SG b g),λx c e=>?_⟩,λb o e=>I.bs b o e,?_,λb o e g=>?_,λb g=>?_,I.stack,I.ka⟩,
  SF,(by rw[hg];show I.bare),Un.kept keep,⟨m0,Q7,λi y v B w h3=>?_⟩,λx c e=>?_,I.IS.fresh G,λx c e=>I.Jr x c (sub x c e),λp hp=>absurd (show p∈([]:List (d8×Obj)) from hp) (by simp),I.IS.kept keep,?_⟩
 .change(Tv scope X.env).kind=.function;show S.kind
 .
  have PN:(Tv scope X.env).names.lookup x=a5 .cell\/(Tv scope X.env).names.lookup x=a5 .free:=hx;have t:scope.names.lookup x=a5 .free:=by
   rcases PN with z|z
   .rcases bP z with q|⟨_,q⟩
    .show absurd rfl (S.Ll _ (mem_lookup q))
    .show q
   .rcases bP z with q|⟨q,_⟩
    .show q
    .cases q
  have⟨a,ha⟩:=S.cells I.ok (x,.free) (mem_lookup t) rfl;show⟨a,hJ ha scope.names [] (mem_lookup t)⟩
 .show(f b g).1.2.2.2.2.1 x c (sub x c e)
 .show t6 I.ok.M0 I.sz
 .have⟨f0,O,Q,T,f4,f5⟩:=(f b g).1;rcases T with z|z
  .show I.ok.LW b o e z
  .show absurd (i0 (eh e) (t6 I.ok.M0 z)) (t8 _)
 .intro Kc;have⟨f0,O,Q,T,f4,f5⟩:=(f b g).1;rcases d6.mp (I.kG b Kc) with z|z
  .show O z
  .show Q z
 .
  have J:d.length<=i:=by
   by_cases J:i<d.length
   .rw[uc (by simpa using J),J7]at w;split at w<;>cases w
   .lia
  rw[qk (by simpa using J),Qj]at w;have WM:(N.drop d.length)[i - d.length]?=a5 y:=by
   rw[KX];have e:d.length+(i - d.length)=i:=by lia
   rw[e];show B
  have Y:(Tv scope X.env).names.lookup y=a5 .local\/(Tv scope X.env).names.lookup y=a5 .cell\/(Tv scope X.env).names.lookup y=a5 .free:=h3;have t:scope.names.lookup y=a5 .free:=by
   rcases Y with z|z|z
   .rcases bP z with q|⟨q,_⟩
    .exfalso
     have KP:y∈d:=by
      rcases S.loc (y,.local) (mem_lookup q) rfl with z|z
      .show z
      .have z':y=".0":=z;show absurd (mN B) (by rw[z'];show S.WL)
     have⟨j,hj,ej⟩:=QX KP;have Lm:N[j]?=a5 y:=by
      have e1:(N.take d.length)[j]?=a5 y:=by rw[S.pre,mx hj,ej]
      rw[XO hj]at e1;show e1
     have:=iz S.nd Lm B;lia
    .cases q
   .rcases bP z with q|⟨_,q⟩
    .show absurd rfl (S.Ll _ (mem_lookup q))
    .show q
   .rcases bP z with q|⟨q,_⟩
    .show q
    .cases q
  have hX:X.N[i - d.length]?=a5 y:=by
   rcases S.tail.2 _ _ WM with e|e|e
   .show e
   .show absurd e (S.dot _ (mem_lookup t)).1
   .show absurd e (S.dot _ (mem_lookup t)).2
  have⟨m,hn,hl⟩:=I.loc;have hv:X.env.scope.names.lookup y=a5 .cell\/X.env.scope.names.lookup y=a5 .free:=S.free (y,.free) (mem_lookup t) rfl;have⟨u,r,l⟩:=hl _ y v hX w (.inr hv);show⟨u,r,?_⟩;rcases l with⟨k,_⟩|⟨k,c,e,z⟩
  .have k':X.env.scope.names.lookup y=a5 .local:=k;rcases hv with q|q<;>(rw[k']at q;cases q)
  .have hk:(Tv scope X.env).names.lookup y=a5 .cell\/(Tv scope X.env).names.lookup y=a5 .free:=by
    rcases Y with q|q|q
    .rcases bP q with D|⟨D,_⟩
     .rw[t]at D;cases D
     .cases D
    .show .inl q
    .show .inr q
   have⟨o,ho,L⟩:=z;show .inr ⟨hk,c,hJ e scope.names [] (mem_lookup t),o,keep c o ho,L⟩
 .have⟨v,o,ho,L⟩:=I.cell x c (sub x c e);show⟨v,o,keep c o ho,L⟩
 .rw[hY,Qj,I.len];have e:N.length=d.length+(N.drop d.length).length:=by rw[Ë];lia
  change _=N.length;rw[e,S.tail.1]
def pZ(I:Inv X f σ H s)
  (d:Inv (J0 X N scope C s H ex) Y σ' l s4) (x:s.heap.objs.size<=D) (y:s.heap.objs.size<=C) (A:D≠C) (h:l D=b8) (rv:Vals p r) (B:s4.heap.PlainList D r.toArray) (hl:p.length<=cL)
  (i:nC C s4.heap h') (m:∀b∈ex,iA X f H b):Inv X f σ (upd l D (.lst p)) {s4 with heap:=h' }:=by
 have t:l C=b8:=d.free;have lt:∀{b:d8} {o:Obj},s.heap.get? b=a5 o->b≠C/\b≠D:=λe=>⟨hH (i0 (eh e) y),hH (i0 (eh e) x)⟩
 show I.CG (s':={s4 with heap:=h' }) (ch:=ex) d.os ⟨λb o e n j g=>?_,λb o e n j g=>?_,λb o e n g=>?_,λb o e g=>?_,λb xs e=>?_,λb o u e=>?_,λb ps e=>?_⟩ (λa o e=>?_) d.bare λb j=>?_
 .show(i.2 b (lt e).1).trans (d.base.keep b o e n j g)
 .have⟨G,q⟩:=d.base.slot b o e n j g;show⟨G,(i.2 b (lt e).1).trans q⟩
 .rw[ak (lt e).2];show d.base.free b o e n g
 .have⟨o',q⟩:=d.base.there b o e g;show⟨o',(i.2 b (lt e).1).trans q⟩
 .have q:=d.base.fU b xs e;rw[ak (bt q h)];show q
 .have q:=d.base.JY b o u e;rw[ak (bt q h)];show q
 .have⟨k,q⟩:=d.base.J3 b ps e;show⟨k,by rw[ak (bt q h)];show q⟩
 .by_cases w:a=D
  .subst w;rw[ax]at e;cases e;have⟨n,q⟩:=B;show⟨hl,r,n,rv,(i.2 _ A).trans q⟩
  .rw[ak w]at e;show(d.IS a o e).fJ (λc v J q=>(i.2 c ?_).trans q) (λc q=>?_) λc xs q=>?_
   .rintro rfl;rcases J with z|z
    .rw[<-z,t]at e;cases e
    .rw[t]at z;cases z
   .rw[ak (bt q h)];show q
   .rw[ak (bt q h)];show q
 .have⟨f0,L,f2,O,Q,T⟩:=m b j;show⟨O,L,Q,T⟩
section
def oD(I:Nat->d5->Prop)
  (b:∀n s,I n s->d3 (et prog w) A (Tx it) (λr d=>match r with
   |none=>R (.ok .next) d
   |some v=>d3 (et prog w) A (Ud a it v) (λ_ d=>d3 (et prog w) A (Sh a env v) (λ_ j =>
     d3 (et prog w) A (ċ f b6 λc r=>if r=b6 then do let ok <-isTrue c env (u7 c env);pure (OB ok) else pure (OB r)) (λok i =>
      if ok=b6 then d3 (et prog w) A (u7 elt env) (λx k =>
       d3 (et prog w) A (NW (.builtin "list.append") [acc,x]) (λ_ l=>∃m,m<n/\I m l) (TC (et prog w) A env λe s'=>R (.error e) s') k) (TC (et prog w) A env λe s'=>R (.error e) s') i
      else ∃m,m<n/\I m i) (TC (et prog w) A env λe s'=>R (.error e) s') j) (TC (et prog w) A env λe s'=>R (.error e) s') d) (TC (et prog w) A env λe s'=>R (.error e) s') d) (TC (et prog w) A env λe s'=>R (.error e) s') s)
  (n:Nat) (h:I n s) :
  Qs (et prog w) A (.compLoop (.ListComp elt [⟨a,g,f,0⟩] scope pos) 0 it acc env) R s:=by
 show codeAny_loop rfl I (λn s q=>?_) n h;change d3 _ A ((compTurn (.ListComp elt [⟨a,g,f,0⟩] scope pos) 0 it acc env).onRaise (λx=>do noteFrame x env;theTreesLotGoes x)) _ _ s;show wpAny_noted ?_;rw[compTurn_list];show bD (Zj (bD (my (b n s q) (λr d o=>?_) λ_ _ h'=>h')));cases r with
 |none=>show df o
 |some v =>
  show bD (my o (λ_ B t=>?_) λ_ _ h'=>h');show bD (my t (λ_ j u=>bD (my u (λok i p=>?_) λ_ _ h'=>h')) λ_ _ h'=>h');cases ok with
  |false=>show df ⟨rfl,p⟩
  |true =>
   show bD (bD (my p (λx k y=>bD (my y (λ_ l z=>df (df ⟨rfl,z⟩)) λ_ _ h'=>h')) λ_ _ h'=>h'))
end
abbrev MQ(X:Cx)(b:List l0)(t:TT):Prop :=
 ∀(a:List (d8×Obj)) (s:d5) (σ:St) (H:Hp) (Q:Bool->Hp->Prop),Inv X a σ H s->t σ H Q ->
  d3 (et X.prog X.w) X.A (ċ b b6 λc r=>if r=b6 then do let d <-isTrue c X.env (u7 c X.env);pure (OB d) else pure (OB r)) (TP X a σ Q) X.xe s
abbrev Ig:TT:=λ_ H Q=>Q b6 H
def oE:MQ X [] Ig:=λ_ _ _ H _ I h=>wpAny_tests_nil ⟨H,I,h⟩
def t_(h:PT X c t):MQ X [c] t:=λa s σ H Q I q=>wpAny_tests_one (h a s σ H Q I q)
abbrev ud(k:Nat)(J:It)(g:TG)(l:TT)(n:TE)(Q:VK)(σ:St)(o:Hp):Prop :=
  ∃W:Nat->Nat->List V->Hp->Prop,(∃m,W 0 m [] o)/\∀i m a H,W i m a H->a.length<=cL /\
    ((J.stop i H/\∀p,H p=b8->Q (.ref p) (upd H p (.lst a))) \/
     (J.go i H/\∃d:List V->Hp->Prop,(∀f H',d f H'->∃h,h<m/\W (i+1) h f H')/\∀x H',J.QZ i H x H'->g x (i2 k b8++σ) H' λe q=>∃c:St,c.length=k/\e=c++σ /\
        l e q λb j=>if b=b6 then n e j λy r=>d (a++[y]) r else d a j))
abbrev xJ(k:Nat)(a:TI)(g:TG)(b:TT)(c:TE):TE:=λσ H Q=>a σ H λJ d=>ud k J g b c Q σ d
section
def xK
  (S:dN X N B scope) (hc:X.calm=b6) (hg:∀C s H ex,PG (J0 X N scope C s H ex) tg g) (hf:∀C s H ex,MQ (J0 X N scope C s H ex) al tt) (he:∀C s H ex,PE (J0 X N scope C s H ex) elt te)
  (I:Inv X am σ H s) (T:Turn X.prog X.w X.K tg J G it tn) (st:tn 0 s.heap) (f2:∀b∈G,iA X am H b) (W:ud B.length J g tt te Q σ H)
  (hD:@Eq Nat D s.heap.objs.size) (hC:@Eq Nat C (s.heap.objs.size+1)) (SF:s4.os=s.os) (WO:s4.gens=s.gens) (keep:∀b o,s.heap.get? b=a5 o->s4.heap.get? b=a5 o) (ns:∃m,s4.heap.Ns C m) (pl:s4.heap.PlainList D #[])
  (an:∀s5 Y O k,Inv (J0 X N scope C s H G) [] (i2 B.length b8++σ) Y s5->Y D=b8->Vals O k->s5.heap.PlainList D k.toArray->O.length<=cL->(∀p,Y p=b8->Q (.ref p) (upd Y p (.lst O)))->R (.ok .next) s5) :
  Qs (et X.prog X.w) X.A (.compStart (.ListComp elt [⟨tg,ap,al,0⟩] scope pos) 0 (.ref it) (.ref D) (Wv scope (bG X.env scope.names []) C X.env)) R s4:=by
 have M6:∀b∈G,@QI Nat _ b s.heap.objs.size:=λb h=>by
  obtain⟨o,e,_⟩:=T.obj 0 s.heap st b h;show eh e
 have I4:Inv (J0 X N scope C s H G) [] (i2 B.length b8++σ) H s4:=xI S I ⋯ SF WO keep ns λb h=>⟨f2 b h,M6 b h⟩
 have O3:tn 0 s4.heap:=T.keep 0 s.heap s4.heap st λb _ o e=>keep b o e;have nD:H D=b8:=I.IS.fresh ⋯;obtain⟨W,⟨m0,w0⟩,Ð⟩:=W;generalize l:J0 X N scope C s H G=f at I4 an;have eP:f.prog=X.prog:=by rw[<-l];rfl
 have ew:f.w=X.w:=by rw[<-l];rfl
 have eK:f.K=X.K:=by rw[<-l];rfl
 have ec:f.calm=b6:=by rw[<-l];show hc
 have eA:f.A=X.A:=by rw[<-l];rfl
 have ee:f.env=Wv scope (bG X.env scope.names []) C X.env:=by rw[<-l];rfl
 have SJ:f.xe=λ_ _=>False:=by rw[<-l];rfl
 have el:f.env.locals=C:=by rw[ee];rfl
 have SM:PG f tg g:=by rw[<-l];show hg _ _ _ _
 have SN:MQ f al tt:=by rw[<-l];show hf _ _ _ _
 have SO:PE f elt te:=by rw[<-l];show he _ _ _ _
 have s0:f.s₀=s:=by rw[<-l];rfl
 have PQ:f.pn=[]:=by rw[<-l];rfl
 have SQ:∀{H':Hp} {o:Obj},(∀b∈G,H' b=b8)->∀b∈G,iA f [(D,o)] H' b:=λ{H' o} hn b h=>by
  have ex:f.ex=G:=by rw[<-l];rfl
  show⟨hn b h,?_,?_,.inl (by rw[ex];show h),λx c e=>?_,λp L=>?_⟩
  .rw[el];have:=M6 b h;show hH (by change @QI Nat _ b C;lia)
  .have e1:f.fs=JF X.stack:=by rw[<-l];rfl
   rw[e1];intro z;have⟨f0,f1,WQ,f3,f4,f5⟩:=f2 b h;rcases d6.mp (I.kG b z) with q|q
   .show f1 q
   .show WQ q
  .have e1:f.env.cells=bG X.env scope.names []:=by rw[ee];rfl
   rw[e1]at e;show(f2 b h).2.2.2.2.1 x c (fi scope.names [] (λn c e=>by simp at e) x c e)
  .rw[PQ,i7]at L;have:p=(D,o):=by simpa using L
   subst this;have:=M6 b h;show JC (by change @QI Nat _ b D;lia)
 have SR:∀{σ':St} {H':Hp} {s':d5} {o:Obj},Inv f [] σ' H' s'->H' D=b8->s'.heap.get? D=a5 o->(∀v,o.data≠.cell v)->Inv f [(D,o)] σ' H' s':=λ{σ' H' s' o} I' n e d =>
  I'.eI λp L=>by
   have:p=(D,o):=by simpa using L
   subst this;show⟨e,n,?_,?_,d⟩
   .rw[el];show hH (by change @QI Nat _ D C;lia)
   .have e1:f.fs=JF X.stack:=by rw[<-l];rfl
    rw[e1];intro z;have zz:(D:d8)∈JF X.stack:=z;rcases d6.mp (I.kG D zz) with q|q
    .have:=I.lt;rw[<-q]at this;show absurd this (by change ¬@QI Nat _ D s.heap.objs.size;lia)
    .show I.Dn (a:=D) ⋯ q
 have start:∀s':d5,s'=s4->Qs (et X.prog X.w) X.A (.compLoop (.ListComp elt [⟨tg,ap,al,0⟩] scope pos) 0 (.ref it) (.ref D) (Wv scope (bG X.env scope.names []) C X.env)) R s':=by
  rintro s' rfl;show oD (λn s'=>∃i O k H',Inv f [] (i2 B.length b8++σ) H' s'/\tn i s'.heap/\(∀b∈G,H' b=b8)/\H' D=b8/\Vals O k/\s'.heap.PlainList D k.toArray/\W i n O H') ?_ m0
   ⟨0,[],[],H,I4,O3,λb h=>(f2 b h).1,nD,.nil,pl,w0⟩
  rintro n s3 ⟨i,O,k,H3,I3,Jx,PD,Va,Q8,⟨nn,WR⟩,w3⟩;have⟨ab,LM⟩:=Ð i n O H3 w3;have IP:=SR I3 Va WR (λv z=>by have z':Data.seq _ _=X6 v:=z;cases z');rcases LM with⟨ar,qn⟩|⟨go,NN,Vb,as⟩
  .have d:=T.done f eP ew eK ec i _ s3 _ H3 (TC (et X.prog X.w) X.A (Wv scope (bG X.env scope.names []) C X.env) λe s'=>R (.error e) s') IP (SQ PD) Jx ar;rw[eA]at d;show I0 d λr s4 SS=>?_;have⟨hr,I5⟩:=SS;subst hr;have e5:=(I5.pin (D,({cls:=.type "list",data:=.seq k.toArray nn}:Obj)) (by rw[PQ];simp)).1;show an s4 H3 O k (I5.eI λp L=>by cases L) Va Q8 ⟨nn,e5⟩ ab qn
  .have d:=T.item f eP ew eK ec i _ s3 _ H3 (TC (et X.prog X.w) X.A (Wv scope (bG X.env scope.names []) C X.env) λe s'=>R (.error e) s') IP (SQ PD) Jx go;rw[eA]at d;show I0 d λr s4 SU=>?_;have⟨u,hr,h4⟩:=SU;subst hr;show I0 h4 λ_ s5 SV=>?_;have⟨x,Y,I5,r5,y5,Mb,Se⟩:=SV;have Zw:Y D=b8:=(I5.pin (D,({cls:=.type "list",data:=.seq k.toArray nn}:Obj)) (by rw[PQ];simp)).2.1;have Sf:=I5.pinned (SQ Se) (T.obj _ _ Mb);have a6:=SM _ s5 _ Y x u _ Sf r5 (as x Y y5);rw[eP,ew,eA,ee,SJ]at a6;show my a6 (λ_ s6 ⟨σ6,H6,I6,q6⟩=>?_) λ_ _ z=>Mg z;have⟨ow,a0,rfl,q6⟩:=q6;have a7:=SN _ s6 _ H6 _ I6 q6;rw[eP,ew,eA,ee,SJ]at a7;show my a7 (λb s7 ⟨H7,I7,q7⟩=>?_) λ_ _ z=>Mg z;have ac:∀{s8:d5} {t:Hp} {KQ:List V} {its':List dV} {nn':Nat},Inv f [] (ow++σ) t s8->tn (i+1) s8.heap->(∀b∈G,t b=b8)->t D=b8->Vals KQ its'->s8.heap.PlainList D its'.toArray->(∃m',m'<n/\W (i+1) m' KQ t) ->
     ∃m,m<n/\∃i O k H',Inv f [] (i2 B.length b8++σ) H' s8/\tn i s8.heap/\(∀b∈G,H' b=b8)/\H' D=b8/\Vals O k/\s8.heap.PlainList D k.toArray/\W i m O H':=λ{s8 t KQ its' nn'} I8 WS WT n8 WU WV w8=>by
    have⟨m',hm,w8⟩:=w8;show⟨m',hm,i+1,KQ,its',t,I8.weak (by simp[a0]) (λj v e=>?_),WS,WT,n8,WU,WV,w8⟩;by_cases hj:j<B.length
    .rw[uc (by simpa using hj),J7]at e;split at e<;>cases e
    .rw[qk (by simpa using(Nat.not_lt.mp hj)),Qj]at e;rw[qk ⋯,a0];show e
   have ag:∀{σ':St} {t:Hp} {s8:d5},Inv f ([(D,({cls:=.type "list",data:=.seq k.toArray nn}:Obj))]++kH G s5.heap) σ' t s8->s8.heap.get? D=a5 {cls:=.type "list",data:=.seq k.toArray nn}/\t D=b8/\tn (i+1) s8.heap/\∀b∈G,t b=b8:=λ{σ' t s8} I8=>by
    have p1:=I8.pin (D,({cls:=.type "list",data:=.seq k.toArray nn}:Obj)) (by rw[PQ];simp);show⟨p1.1,p1.2.1,T.keep _ _ _ Mb λb h o e=>(I8.pin (b,o) (kj _ (kj _ (ff h e)))).1,λb h=>?_⟩;have⟨o,e,d⟩:=T.obj _ _ Mb b h;show(I8.pin (b,o) (kj _ (kj _ (ff h e)))).2.1
   cases b with
   |false =>
    rw[Ľ i3]at q7 ⊢;have⟨p1,p2,p3,p4⟩:=ag I7;show ac (nn':=0) (I7.eI λp L=>by cases L) p3 p4 p2 Q8 ⟨nn,p1⟩ (Vb _ _ q7)
   |true =>
    rw[ļ rfl]at q7 ⊢;have a8:=SO _ s7 _ H7 _ I7 q7;rw[eP,ew,eA,ee,SJ]at a8;show my a8 (λy s8 ⟨yv,t,I8,r8,q8⟩=>?_) λ_ _ z=>Mg z;have⟨p1,p2,p3,p4⟩:=ag I8;have hsz:k.toArray.size<=cL:=by rw[fx,<-Q8.length];show ab
    show wpAny_list_append_plain (hsz:=hsz) ⟨nn,p1⟩ λh9 WW Vc=>?_;have WX:Inv f [] (ow++σ) t s8:=I8.eI λp L=>by cases L
    have Q9:∀x c,f.env.cells.lookup x=a5 c->c≠D:=λx c e=>by
     have e1:f.env.cells=bG X.env scope.names []:=by rw[ee];rfl
     rw[e1]at e;have q:=fi scope.names [] (λn c e=>by simp at e) x c e;have⟨v,z⟩:=I.cell x c q;have:@QI Nat _ c s.heap.objs.size:=z.lt;show hH (by change @QI Nat _ c D;lia)
    have I9:Inv f [] (ow++σ) t {s8 with heap:=h9,toks:=s8.toks}:=WX.turned (it:=D) (λb o h e=>(Vc.2 b h).trans e) p2 (by rw[el];show hH (by change @QI Nat _ D C;lia)) (.inr (by rw[s0];change @Ċ Nat _ s.heap.objs.size D;lia)) Q9 (λp L=>by rw[PQ]at L;cases L);have WY:(k++[y]).toArray=k.toArray.push y:=by simp
    show ac (nn':=0) (s8:={s8 with heap:=h9,toks:=s8.toks}) I9 (T.keep _ _ _ p3 λb h o e=>(Vc.2 b ?_).trans e) p4 p2 (Q8.append (.cons r8 .nil)) (by rw[WY];show WW) (Vb _ _ q8);have:=M6 b h;show hH (by change @QI Nat _ b D;lia)
 show codeAny_compStart_list (start _ rfl) (T.self _ _ _ _ _ O3 (start _ rfl))
def kO{RR:dV->d8->Result->d5->Prop}
    (S:dN X N d scope) (L:X.calm=b6) (O:∀C s H ex,PG (J0 X N scope C s H ex) x g) (Y:∀C s H ex,MQ (J0 X N scope C s H ex) m tt) (he:∀C s H ex,PE (J0 X N scope C s H ex) elt te)
 (I:Inv X f σ H s) (T:Turn X.prog X.w X.K x J z it tn) (st:tn 0 s.heap) (f2:∀b∈z,iA X f H b) (W:ud d.length J g tt te Q σ H)
    (n:∀D C h c i k,@Eq Nat D s.heap.objs.size->@Eq Nat C (s.heap.objs.size+1)->Inv (J0 X N scope C s H z) [] (i2 d.length b8++σ) c h->c D=b8->Vals i k->h.heap.PlainList D k.toArray->i.length<=cL->(∀p,c p=b8->Q (.ref p) (upd c p (.lst i)))->RR (.ref D) C (.ok .next) h) :
    d3 (et X.prog X.w) X.A (þ []) (λacc s₃=>d3 (et X.prog X.w) X.A (newFunctionEnv scope X.env.globals (bG X.env scope.names []) [] X.env.qual b8 .none (a5 X.env)) (λB s₄ =>
      Qs (et X.prog X.w) X.A (.compStart (.ListComp elt [⟨x,G,m,0⟩] scope pos) 0 (.ref it) acc {B with scope:=Tv scope X.env}) (RR acc B.locals) s₄) E s₃) E s:=by
  show va (wpAny_newFunctionEnv S.Ll (by intro y hy;simp at hy) (λq r l=>?_) S.kind)
  dsimp only at r l ⊢
  generalize t:s.heap.push {cls:=.type "list",dict:=b8,data:=.seq ([]:List dV).toArray}=j at r l ⊢;have u:j.objs.size=s.heap.objs.size+1:=by rw[<-t,WK]
  have SH:s.heap.objs.size≠j.objs.size:=by rw[u];show hH (OG _)
  have a:∀b:d8,b<s.heap.objs.size->b≠j.objs.size:=λb hb=>hH (by have Kc:@QI Nat _ b s.heap.objs.size:=hb;change @QI Nat _ b j.objs.size;lia);have v:∀b o,s.heap.get? b=a5 o->q.get? b=a5 o:=λb o e=>l.extBut b o (a b (eh e)) (c2 _ (t▸c2 _ e));have JU:q.PlainList s.heap.objs.size #[]:=⟨_,l.extBut _ _ SH (c2 _ (t▸ez _ rfl))⟩
  show xK (s:=s) (s4:={s with heap:=q,toks:=s.toks+([]:List (Str×dV)).length}) (C:=j.objs.size) (D:=s.heap.objs.size) S L O Y he I T st f2 W rfl u rfl rfl v ⟨_,r⟩ JU
    λh c i k I5 n5 PV PX PY q5=>n _ _ h c i k rfl u I5 n5 PV PX PY q5
def ue(S:dN X N c scope)(m:X.calm=b6)(n:PI X f a o)(p:∀C s H ex,PG (J0 X N scope C s H ex) f g)(q:∀C s H ex,MQ (J0 X N scope C s H ex) d r)(t:∀C s H ex,PE (J0 X N scope C s H ex) elt u)
  (hs:∀x,LF a X.env x=pure x:=by intro _;rfl):PE X (.ListComp elt [⟨f,a,d,0⟩] scope pos) (xJ c.length o g r u):=by
 intro b s σ H Q I h;rw[eval_ListComp];show Zl (use:=b8) (cl:=bG X.env scope.names []) rfl hs (eT (S.cells I.ok)) S.kind S.names ?_;show I0 (n b s σ H _ I h) λv s1 y=>I0 y λQ0 s2 z=>?_;have⟨it,fp,tn,J,H2,e,i,T,st2,j,W⟩:=z;subst e;show kO (RR:=λacc C=>compPost (et X.prog X.w) X.A X.xe b8 (EP X b σ Q) acc C) S m p q t i T st2 j W ?_;intro D C s5 H5 ys A' B hC k l G L O Y;obtain⟨m5,SX,_⟩:=k.loc;show⟨m5,SX,λh' sb=>⟨.ref D,_,pZ i k (Y5 B.symm) (by change @Ċ Nat _ s2.heap.objs.size C;lia) (hH (by change @QI Nat _ D C;lia)) l G L O sb j,rfl,Y D l⟩⟩
def AR(S:dN X N r scope)(hc:X.calm=b6)(hN:X.N.Nodup)(Q_:X.N[i]?=a5 y)(G:X.env.scope.names.lookup y=a5 .local)
  (hi:PI X n d wi) (hg:∀C s H ex,PG (J0 X N scope C s H ex) n g) (hf:∀C s H ex,MQ (J0 X N scope C s H ex) k tt) (he:∀C s H ex,PE (J0 X N scope C s H ex) elt te)
  (MR:OT (.ListComp elt [⟨n,d,k,0⟩] scope pos) (a5 (.Name y m)) LY.line X.env=pure b6:=by rfl)
  (hs:∀x,LF d X.env x=pure x:=by intro _;rfl):PS X (.Assign [.Name y m] (.ListComp elt [⟨n,d,k,0⟩] scope pos) LY) (Dx (xJ r.length wi g tt te) (tW i)):=by
 intro f s σ H D I h;rw[exec_Assign_Name_used _ _ _ _ MR];show bD (Zj (bD ?_));change d3 _ X.A (do let _ <-comprehension (.ListComp elt [⟨n,d,k,0⟩] scope pos) scope X.env _ (þ []) cc (u7 d X.env) (a5 (Sh (.Name y m) X.env))) _ _ s;show bD (my (Zl (use:=a5 (Sh (.Name y m) X.env)) (cl:=bG X.env scope.names []) (Q:=λ_ s'=>SP X f D .next s') rfl hs (eT (S.cells I.ok)) S.kind S.names ?_) (λ_ s' hq=>df (df hq)) λ_ _ e=>e);show I0 (hi f s σ H _ I h) λv s1 h1=>I0 h1 λQ0 s2 h2=>?_;have⟨it,fp,tn,J,H2,e,l,T,st2,L,W⟩:=h2;subst e;show kO (RR:=λacc C=>compPost (et X.prog X.w) X.A X.xe (a5 (Sh (.Name y m) X.env)) (λ_ s'=>SP X f D .next s') acc C) S hc hg hf he l T st2 L W ?_;intro j C q t O A' hD hC u Y PV PX PY q5;obtain⟨m5,SX,_⟩:=u.loc;have WZ:t C=b8:=u.free;have B:Inv X f σ (upd t j (.lst O)) {q with heap:=q.heap}:=pZ l u (Y5 hD.symm) (by change @Ċ Nat _ s2.heap.objs.size C;lia) (hH (by change @QI Nat _ j C;lia)) Y PV PX PY (Jt ..) L;change d3 _ X.A (Sh (.Name y m) X.env (.ref j)) _ _ q;show ú (mG (s:=q) B hN Q_ (.inl G) (show RelV (.ref j) (.ref j) from rfl) (λs6 I6 ⟨a,sb,ha⟩=>?_) (.inr G));have Q9:@QI Nat _ X.env.locals C:=by have:@QI Nat _ X.env.locals s2.heap.objs.size:=l.lt;lia
 have Mq:∀x c,X.env.cells.lookup x=a5 c->c≠C:=λx c e=>by
  have⟨v,z⟩:=l.cell x c e;have:@QI Nat _ c s2.heap.objs.size:=z.lt;show hH (by change @QI Nat _ c C;lia)
 have W0:C≠a:=by
  rcases ha with z|z
  .rw[z];show JC Q9
  .show(Mq _ _ z).symm
 show⟨m5,SX.sameBut sb W0,λh' PZ=>?_⟩;show⟨σ.set i (a5 (.ref j)),upd t j (.lst O),I6.turned (it:=C) (t':=s6.toks) (λb o hb e=>(PZ.2 b hb).trans e) ?_ (JC Q9) (.inr (by have:@Ċ Nat _ X.s₀.heap.objs.size s2.heap.objs.size:=l.sz;change @Ċ Nat _ X.s₀.heap.objs.size C;lia)) Mq (λp hp=>?_),q5 j Y⟩
 .rw[ak (JC (by change @QI Nat _ j C;lia))];show WZ
 .have:@QI Nat _ p.1 s2.heap.objs.size:=eh (l.pin p hp).1;show hH (by change @QI Nat _ p.1 C;lia)
end
section
end
section
abbrev F7:V->Option Int->Option Int->Hp->VK->Prop:=λx lo a H Q=>∃z,x=.str z/\z.length<=cL/\Q (.str (PySem.StrLaws.sliceText z lo a)) H
def mn(x:Str)(lo a:Option Int)(hz:x.length<=cL):(PySem.StrLaws.sliceText x lo a).length<=cL:=t6 (Txt.slice_le x lo a) hz
def DW:Nt X F7:=by
 intro b s σ H x v n o lo c p Q I g hs m e h;have⟨z,rfl,hz,q⟩:=h;have⟨t,rfl⟩:=g;show⟨"str",_,ę.lookup,YP _ _ _,?_⟩;have a:(PySem.StrLaws.sliceText z lo c).length<=cL/\∀t' k,EP X b σ Q (.str (PySem.StrLaws.sliceText z lo c) t') {s with toks:=k}:=⟨mn z lo c hz,λt' k=>⟨.str _,H,I.tok k,⟨_,rfl⟩,q⟩⟩
 cases m with
 |none =>
  cases e with
  |none=>show Qe (l:=b8) (u:=b8) (st:=b8) hs rfl (Uc a)
  |int j d=>show Qe (l:=b8) (u:=a5 (j,d)) (st:=b8) hs rfl (Uc a)
 |int i f =>
  cases e with
  |none=>show Qe (l:=a5 (i,f)) (u:=b8) (st:=b8) hs rfl (Uc a)
  |int j d=>show Qe (l:=a5 (i,f)) (u:=a5 (j,d)) (st:=b8) hs rfl (Uc a)
theorem iD:∀{a:List Str}{b:List dV},Vals (a.map V.str) b->∃l:List (Str×Tok),b=strValues l/\l.map (·.1)=a
 |[],_,.nil=>⟨[],rfl,rfl⟩
 |y::a,_,.cons r t=>by
  have⟨c,rfl⟩:=r;have⟨l,rfl,e⟩:=iD t;show⟨(y,c)::l,rfl,by rw[d7,e]⟩
def AS:So X "str.join" (λx xs H Q=>∃a p b,x=.str a/\xs=[.ref p]/\Jw X.K H p (b.map V.str)/\ð a b=b6/\Q (.str (TH a b)) H):=by
 intro c s σ H x xs v us Q I d rs h;have⟨a,p,b,rfl,rfl,f,g,q⟩:=h;have⟨t,rfl⟩:=d;have⟨u,rfl,r⟩:=vals1 rs;cases r;have⟨j,rv,i,hz⟩:=I.list f;have⟨l,rfl,e⟩:=iD rv;show SC.join i.isList e g λt' k=>⟨.str _,H,I.tok k,⟨_,rfl⟩,q⟩
theorem jH:∀{bs:List Bool}{a:List dV},Vals (bs.map V.bl) a->a=bs.map N0
 |[],_,.nil=>rfl
 |b::bs,_,.cons r t=>by
  cases r;rw[jH t];rfl
def xM:X.calm=b6->jE X (.builtin "all") (λxs H Q=>∃(p:d8) (bs:List Bool),xs=[.ref p]/\Jw X.K H p (bs.map V.bl)/\Q (.bl (bs.all id)) H):=by
 intro g d s σ H xs us Q I rs h;have⟨p,bs,rfl,j,q⟩:=h;have⟨u,rfl,r⟩:=vals1 rs;cases r;have⟨n,rv,c,hz⟩:=I.list j;have e:=jH rv;subst e;have k:p<s.heap.objs.size:=by obtain⟨_,_,e,_⟩:=c;show eh e
 show call_all_walk (V3 c.isList ?_);show⟨s.heap.objs.size,[s.heap.objs.size,p],[s.heap.objs.size],(bs.map N0).toArray.size,_,_,λi=>(bs[i]?).getD b6,rfl,Ė (A:=X.A.in1) (I.ok.hd g) _ p (hH k) (bs.map N0).toArray,
  ⟨⟨_,ez _ rfl,rfl,rfl⟩,c.isList.push _⟩,λi v s' Q' o l f=>?_,λh' m hk=>?_⟩
 .have a:(bs.map N0)[i]?=a5 v:=by simpa using l
  rw[i8]at a;cases e:bs[i]? with
  |none=>rw[e]at a;cases a
  |some b =>
   rw[e]at a;cases a;simp only[e,Option.getD_some]at f;show LC f
 .have e:((gs (bs.map N0).toArray.size).all λi=>(bs[i]?).getD b6)=bs.all id:=by
   rw[fx,c4];show ã bs
  rw[e];show⟨.bl _,H,I.kept (t':=m) (ä hk),rfl,q⟩
end
section
end
abbrev AU(N a:List Str)(scope:LG)(out:List (Str×OO)):Bool :=
 cK (scope.kind=.function)&&scope.names.all (λy=>cK (y.2≠.cell))&&scope.names.all (λy=>cK (y.2≠.local)||decide (scope.names.lookup y.1=a5 .local))&&decide N.Nodup&&cK (N.take a.length=a) &&
 scope.names.all (λy=>cK (y.2≠.local)||decide (y.1∈a)||decide (y.1=".0"))&&cK ((".0":Str)∉N)&&scope.names.all (λy=>cK (y.2≠.free)||decide (out.lookup y.1=a5 .cell)||decide (out.lookup y.1=a5 .free))&&scope.names.all (λy=>cK (y.1≠".")&&cK (y.1≠".."))
def rR(c:X.env.scope.names=out)(d:eO (N.drop a.length) X.N)(h:AU N a scope out=b6):dN X N a scope:=by
 unfold AU at h;simp only[cb,i9,K',Ļ]at h;obtain⟨⟨⟨⟨⟨⟨⟨⟨f,g⟩,i⟩,j⟩,k⟩,l⟩,m⟩,n⟩,o⟩:=h;show⟨f,g,λy b e=>?_,j,k,λy b e=>?_,m,d,λy b e=>?_,o⟩
 .rcases i y b with z|z
  .show absurd e z
  .show z
 .rcases l y b with(z|z)|z
  .show absurd e z
  .show .inl z
  .show .inr z
 .rw[c];rcases n y b with(z|z)|z
  .show absurd e z
  .show .inl z
  .show .inr z
section
end
section
end
abbrev KY(a b:Str):Bool:=!cK (b.cps.toList<a.cps.toList)
def kf(a b:Str):KY a b=b6↔a.cps.toList<=b.cps.toList:=by
 simp only[KY,tr,decide_eq_false_iff_not];show List.not_lt
def mT(a b c:Str)(d:KY a b=b6)(e:KY b c=b6):KY a c=b6:=by
 rw[kf]at d e ⊢;show List.le_trans d e
def vX(a b:Str):(KY a b||KY b a)=b6:=by
 rw[K',kf,kf];show List.le_total _ _
def xN{x y:Str}(h:x.cps.toList=y.cps.toList):x=y:=by
 cases x;cases y;congr
 show Array.toList_inj.mp h
def oF(c:KY a b=b6)(d:KY b a=b6):a=b:=by
 rw[kf]at c d;show xN (List.le_antisymm c d)
abbrev aP(l:List Str):List Str:=l.mergeSort KY
def bY(l:List Str):(aP l).Perm l:=List.mergeSort_perm l KY
def dO(l:List Str):(aP l).Pairwise (λa b=>KY a b=b6):=List.pairwise_mergeSort mT vX l
theorem iE:∀(l:List Str) (p:Str),risingS p l=b6->(p::l).Pairwise (λa b=>KY a b=b6)
 |[],p,_=>by simp
 |x::r,p,h=>by
  have h':(!ltCps x.cps.toList p.cps.toList&&risingS x r)=b6:=h;have⟨c,g⟩:=x2.mp h';have d:=iE r x g;have f:KY p x=b6:=by rw[ltCps_eq]at c;show c
  show RL.mpr ⟨λy i=>?_,d⟩;rcases d6.mp i with e|e
  .rw[e];show f
  .show mT _ _ _ f ((RL.mp d).1 y e)
def oG(h:sortedS l=b6):l.Pairwise (λa b=>KY a b=b6):=by
 cases l with
 |nil=>show .nil
 |cons x r=>show iE r x h
theorem gu:∀{l m:List Str},l.Perm m->l.Pairwise (λa b=>KY a b=b6)->m.Pairwise (λa b=>KY a b=b6)->l=m
 |[],m,c,_,_=>(List.Perm.nil_eq c)
 |x::l,m,c,d,f=>by
  cases m with
  |nil=>show absurd c.length_eq (by simp)
  |cons y m =>
   have⟨g,h⟩:=RL.mp d;have⟨b1,i⟩:=RL.mp f;have j:x=y:=by
    have m1:x∈y::m:=c.mem_iff.mp mA;have m2:y∈x::l:=c.mem_iff.mpr mA;rcases d6.mp m1 with e|e
    .show e
    .rcases d6.mp m2 with e'|e'
     .show e'.symm
     .show oF (g y e') (b1 x e)
   subst j;rw[gu (List.Perm.cons_inv c) h i]
def xO(a:l.Perm m)(hs:sortedS l=b6):l=aP m:=gu (a.trans (bY m).symm) (oG hs) (dO m)
def fQ(a:l.Perm m):aP l=aP m:=gu ((bY l).trans (a.trans (bY m).symm)) (dO l) (dO m)
def cn(l:List Str):(aP l).length=l.length:=(bY l).length_eq
section
theorem cF:∀{a:List Str}{b:List dV},Vals (a.map V.str) b->Qw b a
 |[],_,.nil=>.nil
 |y::a,_,.cons r t=>by
  have⟨c,rfl⟩:=r;show .cons y c (cF t)
theorem dH:∀{a:List dV}{b:List Str},Qw a b->Vals (b.map V.str) a
 |_,_,.nil=>.nil
 |_,_,.cons x t h=>.cons ⟨t,rfl⟩ (dH h)
theorem fj(hc:d3 (et prog w) A.in1 (Z2 x) (λvs s1=>∃ss,Qw vs ss/\vs.length<64 /\
      ∀(h':Jv) (Js:List dV) (e:Nat),(∀b o,s1.heap.get? b=a5 o->h'.get? b=a5 o)->h'.get? s1.heap.objs.size=a5 (vr "list" Js.toArray e)->Qw Js (aP ss)->Q (.ref s1.heap.objs.size) {s1 with heap:=h' }) E s) :
    d3 (et prog w) A (NW (.builtin "sorted") [x]) Q E s:=by
  refine WN kind_sorted plain_sorted entry_sorted (args_sorted1 _) ?_;unfold Nn.«sorted»;refine bD (m:=checkCount "sorted" 1 1 _) (df ?_);refine bD (my hc (λvs s1 h1=>?_) λ_ _ e=>e);obtain⟨ss,hS,Lb,h⟩:=h1
  refine wpAny_bind (wpAny_newList ?_ (by have : (64 : Nat) ≤ sizeLine := by decide
                                          lia))
  have M3:(s1.heap.push (vr "list" vs.toArray 0)).get? s1.heap.objs.size=a5 (vr "list" vs.toArray 0):=ez _ rfl;show d3 _ _ _ _ _ {s1 with heap:=s1.heap.push (vr "list" vs.toArray 0)};refine bD (tA (J1 ķ ⟨_,M3,rfl⟩ Ĥ (list_sort_treeK strKind_oneLt M3 hS.keysOf (λv₁ v₂ rest e=>keyKind_strs (by rw[<-e];exact hS)) Lb λst' a1 a2=>⟨_,rfl,?_⟩) (Ĺ _)));obtain⟨Lp,b1,b2,b3⟩:=sorted_out_str hS a1 a2;obtain⟨e,he⟩:=sortedHeap_at (out:=(arrOf st').map (·.2)) M3;rw[xO b2 b3]at b1;refine df ⟨_,rfl,h _ ((arrOf st').map (·.2)).toList e (λb o q=>?_) (by rw[Y8];exact he) b1⟩;have Jh:b<s1.heap.objs.size:=eh q;show(ò (s1.heap.push (vr "list" vs.toArray 0)) s1.heap.objs.size vs ((arrOf st').map (·.2))).get? b=a5 o;rw[Ķ (hH Jh) (by rw[K5];exact R_ Jh)];exact c2 _ q
def mq(hl:ĺ s.heap l vs.toArray)
  (h:Q vs {s with heap:=(s.heap.push (vr "list" #[] 0)).update s.heap.objs.size (qs (·++vs.toArray))}) (hsz:vs.length<=cL) :
  d3 (et prog w) A (Z2 (.ref l)) Q E s:=by
 have⟨o,ho,b,n,c⟩:=id hl;unfold Z2;show bD (YI (Kw entry_proto_collect' ?_));change d3 _ _ (do İ (.builtin "list.__iadd__" ⟨[<-þ [],.ref l],[]⟩)) _ _ s;show bD (Zk (df ⟨UE _ (by decide +kernel),Kw entry_list_iadd' ?_⟩));change d3 _ _ (ti (.ref s.heap.objs.size) (.ref l) (.ref s.heap.objs.size)) _ _ {s with heap:=s.heap.push (vr "list" #[] 0)};unfold ti;have a:(s.heap.push (vr "list" #[] 0)).get? l=a5 o:=c2 _ ho;show bD (VR (T:="tuple") ⟨o,a,b⟩ ?_);have d:(rr "tuple"==rr "tuple")=b6:=by rfl
 rw[ļ (by rw[d];simp)];show bD (Á a c ?_);show bD (Á (xs:=#[]) (n:=0) (ez _ rfl) rfl ?_);rw[Ľ (by simp)];show bD (Vu (xs:=#[]) (n:=0) (ez _ rfl) rfl ?_ (i5 _) (by change(#[]++vs.toArray).size<=cL+1;simp only[U6,fx,VH];lia));show df ?_;change d3 (et prog w) A (do
   let o <-load s.heap.objs.size
   match o.data with
   |.seq xs _=>pure xs.toList
   |_=>XH "internal:collect") Q E {s with heap:=(s.heap.push (vr "list" #[] 0)).update s.heap.objs.size (qs (·++vs.toArray))}
 show bD (é (ģ (ez _ rfl) _) ?_);change d3 _ _ (pure ((#[]:Array dV)++vs.toArray).toList) Q E _;rw[show((#[]:Array dV)++vs.toArray).toList=vs by simp];show df h
end
section
def mr{h:Jv}{vs:List dV}(e:h.get? b=a5 o):((h.push (vr "list" #[] 0)).update h.objs.size (qs (·++vs.toArray))).get? b=a5 o:=by
 rw[OH _ _ _ _ (hH (eh e))];show c2 _ e
def p7(I:Inv X a σ H s)(k1:∀b o,s.heap.get? b=a5 o->s1.heap.get? b=a5 o)(i:∃d c,s1={s with heap:=d,toks:=c})
  (hk:∀b o,s1.heap.get? b=a5 o->h'.get? b=a5 o) (j:h'.get? s1.heap.objs.size=a5 (vr "list" g.toArray e)) (k:Qw g (aP f)) (hsz:s.heap.objs.size<=s1.heap.objs.size) (hl:f.length<=cL)
  (q:∀p,H p=b8->Q (.ref p) (upd H p (.lst ((aP f).map V.str)))):EP X a σ Q (.ref s1.heap.objs.size) {s1 with heap:=h' }:=by
 have⟨d,c,rfl⟩:=i;have h:Inv X a σ H {s with heap:=d,toks:=c}:=I.kept (t':=c) k1;show⟨.ref d.objs.size,_,h.laid (t':=c) (o:=.lst ((aP f).map V.str)) hk (hU _) ⟨by rw[c4,cn];show hl,g,e,dH k,j⟩,rfl,q _ (h.IS.fresh (hU _))⟩
def jI:jE X (.builtin "sorted") (λxs H Q=>∃(p:d8) (c:List Str),xs=[.ref p]/\(Jw X.K H p (c.map V.str)\/JI X.K H p (c.map V.str))/\c.length<64/\∀q,H q=b8->Q (.ref q) (upd H q (.lst ((aP c).map V.str)))):=by
 intro f s σ H xs us Q I rs h;have⟨p,c,rfl,hq,l,q⟩:=h;have⟨u,rfl,r⟩:=vals1 rs;cases r;have hl:c.length<=cL:=Qc (i0 l (by decide));have g:∀(a:List dV),Vals (c.map V.str) a->∀(h':Jv) (d:List dV) (e:Nat),(∀b o,((s.heap.push (vr "list" #[] 0)).update s.heap.objs.size (qs (·++a.toArray))).get? b=a5 o->h'.get? b=a5 o) ->
   h'.get? ((s.heap.push (vr "list" #[] 0)).update s.heap.objs.size (qs (·++a.toArray))).objs.size=a5 (vr "list" d.toArray e)->Qw d (aP c) ->
   EP X f σ Q (.ref ((s.heap.push (vr "list" #[] 0)).update s.heap.objs.size (qs (·++a.toArray))).objs.size) {s with heap:=h' }:=λa rv h' d e hk i j =>
  p7 (s1:={s with heap:=(s.heap.push (vr "list" #[] 0)).update s.heap.objs.size (qs (·++a.toArray))}) I (λb o z=>mr z) ⟨_,s.toks,rfl⟩ hk i j (by change s.heap.objs.size<=((s.heap.push (vr "list" #[] 0)).update s.heap.objs.size (qs (·++a.toArray))).objs.size;rw[Heap.size_update,K5];show Lo _) hl q
 rcases hq with hq|hq
 .have⟨a,rv,k,hz⟩:=I.list hq;have m:a.length=c.length:=by rw[<-rv.length,c4]
  show fj (collect_list k.isList ⟨c,cF rv,⋯,λh' d e hk i j=>g a rv h' d e hk i j⟩ ⋯)
 .have⟨a,rv,k,hz⟩:=I.tuple hq;have m:a.length=c.length:=by rw[<-rv.length,c4]
  show fj (mq k ⟨c,cF rv,⋯,λh' d e hk i j=>g a rv h' d e hk i j⟩ ⋯)
end
@[reducible]def sK(P:u3)(w:ve):=PySem.strKind P w
abbrev aQ(P:u3)(w:ve)(h:Jv)(a:d8)(led:Bool)(D:List Str):Prop :=
 ∃(L:List (Str×Tok)) (es:Array (Int×dV)) (ep:Nat) (t:OM),h.get? a=a5 {cls:=.type "set",dict:=b8,data:=.set es ep t}/\es.toList=L.map (λp=>((sK P w).hash p.1,t5 p.1 p.2)) /\
  (L.map (·.1)).Perm D/\D.Nodup/\t.fits es.size=b6/\es.size<x3/\t.led=led/\(es.size=0\/t.plain=cc)
section
def kP{L:List (Str×Tok)}:ElemsOf (sK prog w) (L.map λp=>((sK prog w).hash p.1,t5 p.1 p.2)):=by
 intro e a;obtain⟨p,_,rfl⟩:=i6.mp a;show⟨⟨p.1,by simp[PySem.strKind,Uh],rfl⟩,rfl⟩
def gR(x y:Str)(t:Tok):(sK prog w).is x (.str y t)=cK (x=y):=by
 rw[H8];simp[PySem.strKind,Uh];show⟨λh=>h.symm,λh=>h.symm⟩
def rS(t:OM)(es:Array (Int×dV))(h:Int)(x:dV):(layNew t es h x).2.1.led=t.led:=by
 unfold layNew;split
 .change(Yj (t.put _).1 _).led=t.led;unfold Yj;split<;>rfl
 .rfl
def oH(t:OM)(es:Array (Int×dV))(n:Nat):(YR t es n).2.1.led=t.led:=by
 unfold YR;split
 .rename_i t' b a;have:t'.led=t.led:=by
   unfold Vh S9 at a;cases c:Rm (Kb n - 1) (es.map (·.1)) with
   |none=>rw[c]at a;cases a
   |some o=>rw[c]at a;cases a;rfl
  dsimp only
  split
  .show this
  .rfl
 .rfl
def kQ(t:OM)(es:Array (Int×dV))(n:Nat)(h:t.plain=cc):(YR t es n).2.1.plain=cc:=by
 unfold YR;split
 .rename_i t' b a;have:t'.plain=t.plain:=by
   unfold Vh S9 at a;cases c:Rm (Kb n - 1) (es.map (·.1)) with
   |none=>rw[c]at a;cases a
   |some o=>rw[c]at a;cases a;rfl
  dsimp only
  split
  .rw[this];show h
  .rfl
 .rfl
def di(h:l.Perm (L.map λp=>((sK prog w).hash p.1,t5 p.1 p.2))):∃L':List (Str×Tok),l=L'.map (λp=>((sK prog w).hash p.1,t5 p.1 p.2))/\L'.Perm L:=by
 have all:∀e∈l,∃p:Str×Tok,e=((sK prog w).hash p.1,t5 p.1 p.2):=λe a=>by
  obtain⟨p,_,rfl⟩:=i6.mp (h.mem_iff.mp a);show⟨p,rfl⟩
 have ex:∀l:List (Int×dV),(∀e∈l,∃p:Str×Tok,e=((sK prog w).hash p.1,t5 p.1 p.2))->∃L':List (Str×Tok),l=L'.map (λp=>((sK prog w).hash p.1,t5 p.1 p.2)):=by
  intro l;induction l with
  |nil=>intro _;show⟨[],rfl⟩
  |cons e l c =>
   intro b;have⟨p,rfl⟩:=b e mA;have⟨L',rfl⟩:=c λe a=>b e (kr _ a);show⟨p::L',rfl⟩
 have⟨L',rfl⟩:=ex l all;show⟨L',rfl,?_⟩;have g:(L'.map λp=>((sK prog w).hash p.1,t5 p.1 p.2)).map (λe=>match e.2 with|.str x t=>(x,t)|_=>(tv,0))=L':=by
  rw[i4];show VA _
 have d:(L.map λp=>((sK prog w).hash p.1,t5 p.1 p.2)).map (λe=>match e.2 with|.str x t=>(x,t)|_=>(tv,0))=L:=by
  rw[i4];show VA _
 have:=h.map (λe=>match e.2 with|.str x t=>(x,t)|_=>(tv,0));rw[g,d]at this;show this
theorem kR(hS:aQ prog w s.heap a led D)(Nv:D.length+1<x3)
    (h:∀h',nC a s.heap h'->aQ prog w h' a led (if x∈D then D else D++[x])->Q (cK (x∉D)) {s with heap:=h' }) :
    d3 (et prog w) A (setAddHashed a (.str x tk) ((sK prog w).hash x)) Q E s:=by
  obtain⟨L,es,ep,t,ho,JL,IU,Jj,hf,hb,JO,JJ⟩:=hS;have N4:(sK prog w).is x (.str x tk)=b6:=by rw[gR];simp
  have P1:ElemsOf (sK prog w) es.toList:=by rw[JL];exact kP
  have hlen:es.size=D.length:=by rw[<-gj,JL,c4,<-c4 (f:=å) (as:=L),IU.length_eq]
  unfold setAddHashed setAddHashedIn;refine tA (bD (lg ho rfl hf ?_))
  dsimp only
  rw[byScan_of (knd:=sK prog w) rfl hb P1];simp only[↓reduceIte];unfold setAddByScan;refine bD ?_;refine bD (OK ?_);refine bD (Č (knd:=sK prog w) N4 ho rfl hf P1 ?_);have mem_iff:(∃e∈es.toList,(sK prog w).is x e.2=b6)↔x∈D:=by
    rw[JL,<-IU.mem_iff,i6];constructor
    · rintro⟨e,he,hi⟩
      obtain⟨p,hp,rfl⟩:=i6.mp he;rw[gR,Ļ]at hi;exact⟨p,hp,hi.symm⟩
    · rintro⟨p,hp,e⟩
      exact⟨_,i6.mpr ⟨p,hp,rfl⟩,by rw[gR];simp[e]⟩
  cases hr:XT (λe=>(sK prog w).is x e.2) es.toList with
  | some j =>
    dsimp only
    obtain⟨hj,Ra,_⟩:=U1.mp hr;have hx:x∈D:=mem_iff.mp ⟨es.toList[j],LL hj,Ra⟩;refine df (df ?_);have e:s={s with heap:=s.heap}:=by cases s;rfl
    have:=h s.heap (Jt a s.heap) (by rw[ļ hx];exact⟨L,es,ep,t,ho,JL,IU,Jj,hf,hb,JO,JJ⟩);rw[ľ (λz=>z hx)]at this;rw[e];exact this
  | none =>
    dsimp only
    have hx:x∉D:=λhx=>by
      obtain⟨e,he,hp⟩:=mem_iff.mpr hx;have:=Xr.mp hr e he;rw[hp]at this;exact Bool.noConfusion this
    have W3:∀(b:Bool) {s₁:d5} {Q':Unit->d5->Prop},Q' () s₁->d3 (et prog w) A (match b with|true=>ē "set.scan.the-table-gave-way"|false=>pure ()) Q' E s₁ :=
      λb s₁ Q' hq=>by cases b<;>first|exact df hq|exact OK hq
    have O4:=layNew_perm t es ((sK prog w).hash x) (.str x tk);have LN:=layNew_fits t es ((sK prog w).hash x) (.str x tk);have LO:=rS t es ((sK prog w).hash x) (.str x tk);generalize hL:layNew t es ((sK prog w).hash x) (.str x tk)=NL at O4 LN LO ⊢;obtain⟨JD,t1,Mr,W4⟩:=NL
    dsimp only at O4 LN LO ⊢
    rw[ZV,JL,show [((sK prog w).hash x,t5 x tk)]=[(x,tk)].map (λp=>((sK prog w).hash p.1,t5 p.1 p.2)) from rfl,<-ki]at O4;obtain⟨L1,e1,W5⟩:=di O4;have N5:JD.size=D.length+1:=by rw[<-gj,O4.length_eq,c4,hY,<-hlen,<-gj,JL,c4];rfl
    have Ve:JD.size<x3:=by lia
    have Nw:(L1.map (·.1)).Perm (D++[x]):=(W5.map _).trans (by rw[ki];exact IU.append_right _);have Vf:(D++[x]).Nodup:=by
      rw[rz]
      exact ⟨Jj, by simp, fun y hy z hz => by have : z = x := by simpa using hz
                                              subst this;rintro rfl;exact hx hy⟩
    refine bD (W3 _ ?_);have M8:∀h',nC a s.heap h'->aQ prog w h' a led (D++[x])->Q b6 {s with heap:=h' }:=λh' sb hs=>by
      have:=h h' sb (by rw[Ľ hx];exact hs);rw[Ŀ hx]at this;exact this
    have tail:∀(g:Bool->Sem Unit),(∀(b:Bool) (s₁:d5) (Q':Unit->d5->Prop),Q' () s₁->d3 (et prog w) A (g b) Q' E s₁)->∀(R:Option Bool->d5->Prop),(∀h',nC a s.heap h'->aQ prog w h' a led (D++[x])->R (a5 b6) {s with heap:=h' })->∀t2:OM,t2.fits JD.size=b6->t2.led=led->t2.plain=cc->d3 (et prog w) A (do
        storeSet a JD t2
        if (!Mr&&t2.tooFull)=true then do
            g (relayAll t2 JD (SetTable.grown JD.size)).2.2
            storeSet a (relayAll t2 JD (SetTable.grown JD.size)).1 (relayAll t2 JD (SetTable.grown JD.size)).2.1
            pure (some true)
          else pure (a5 b6)) R E s:=by
      intro g hg R hR t2 W6 Ms M9;refine bD (V1 ho rfl ?_ (Ws Ve));have MS:(s.heap.update a (Py JD t2)).get? a=a5 {cls:=.type "set",dict:=b8,data:=.set JD (ep+1) t2}:=by
        have:=t4 (Py JD t2) ho rfl;exact this
      have P2:=vl s.heap a (Py JD t2);split
      · have hp:=relayAll_perm t2 JD (Nk JD.size)
        have LP:=relayAll_fits t2 JD (Nk JD.size);have SY:=oH t2 JD (Nk JD.size);have O5:=kQ t2 JD (Nk JD.size) M9;generalize S0:YR t2 JD (Nk JD.size)=Rl at hp LP SY O5 ⊢;obtain⟨Ku,t3,Vg⟩:=Rl
        dsimp only at hp LP SY O5 ⊢
        rw[e1]at hp;obtain⟨L2,e2,W7⟩:=di hp;have hsz:Ku.size=JD.size:=by rw[<-gj,hp.length_eq,<-e1,gj]
        refine bD (hg _ _ _ ?_);refine bD (V1 MS rfl ?_ (Ws ⋯));have Ny:((s.heap.update a (Py JD t2)).update a (Py Ku t3)).get? a=a5 {cls:=.type "set",dict:=b8,data:=.set Ku (ep+1+1) t3}:=t4 (Py Ku t3) MS rfl;refine df (hR _ (P2.trans (vl _ a _)) ⟨L2,Ku,_,t3,Ny,e2,(W7.map _).trans Nw,Vf,LP,⋯,SY.trans Ms,.inr O5⟩)
      · exact df (hR _ P2 ⟨L1,JD,_,t2,MS,e1,Nw,Vf,W6,Ve,Ms,.inr M9⟩)
    split
    · rename_i hp
      refine bD ?_;rw[hashByValue_scannable 8 rfl];refine df ?_;have ep:(if plainKind (t5 x tk)=b6 then t1 else {t1 with plain:=cc})={t1 with plain:=cc}:=rfl;rw[ep];refine tail _ ?_ _ ?_ {t1 with plain:=cc} (SetTable.fits_plain_off LN) (LO.trans JO) rfl
      · intro b s₁ Q' hq;cases b<;>first|exact df hq|exact OK hq
      · intro h' LZ KG;dsimp only;exact df (M8 h' LZ KG)
    · rename_i hp
      refine bD (df ?_);simp only[↓reduceIte];refine tail _ ?_ _ ?_ t1 LN (LO.trans JO) (Bool.eq_false_iff.mpr hp)
      · intro b s₁ Q' hq;cases b<;>first|exact df hq|exact OK hq
      · intro h' LZ KG;dsimp only;exact df (M8 h' LZ KG)
end
abbrev jZ(D:List Str)(x:Str):List Str:=if x∈D then D else D++[x]
abbrev aD(l:List Str):List Str:=l.foldl jZ []
theorem rT(h:D.Nodup):(jZ D x).Nodup:=by
  unfold jZ;split
  · exact h
  · rename_i hx
    rw[rz]
    exact ⟨h, by simp, fun y hy z hz => by have : z = x := by simpa using hz
                                           subst this;rintro rfl;exact hx hy⟩
theorem fk:∀(l D:List Str),D.Nodup->(l.foldl jZ D).Nodup/\(∀x,x∈l.foldl jZ D↔x∈D\/x∈l)/\(l.foldl jZ D).length<=D.length+l.length
 |[],D,h=>⟨h,by simp,by simp⟩
 |y::l,D,h=>by
  have⟨a,b,f⟩:=fk l (jZ D y) (rT h);have c:∀x,x∈jZ D y↔x∈D\/x=y:=λx=>by
   unfold jZ;split
   .rename_i d;show⟨.inl,λz=>z.elim id (λe=>e▸d)⟩
   .simp
  have hl:(jZ D y).length<=D.length+1:=by
   unfold jZ;split
   .lia
   .simp
  show⟨a,λx=>?_,by rw[SD,ke];lia⟩;rw[SD,b,c,d6,or_assoc]
def cp(l:List Str):(aD l).Nodup:=(fk l [] Ti).1
def bQ(l:List Str)(x:Str):x∈aD l↔x∈l:=by rw[aD,(fk l [] Ti).2.1];simp
def hV(l:List Str):(aD l).length<=l.length:=by have:=(fk l [] Ti).2.2;simpa[aD] using this
def p8(l:List Str)(x:Str):aD (l++[x])=jZ (aD l) x:=by unfold aD;rw[List.foldl_append];rfl
section
variable{prog:u3}{w:ve}{A:M4}{R:Result->d5->Prop}{I:d8}{fp wr:List d8}{G:Array Y2->Array Y2->Prop}{n:Nat}{P:Nat->dV->Prop}{St:Nat->d5->Prop}
def jj(W:î prog w A.in1 I fp wr G n P St)(S:d8)(l:S∉fp)(led:Bool)
  (a:List Str) (hn:a.length=n) (u:∀i v,P i v->∃x t,a[i]?=a5 x/\v=.str x t) (c:n+1<x3) :
  ∀(k i:Nat) (s:d5),n - i=k->i<=n->St i s->aQ prog w s.heap S led (aD (a.take i)) ->
   (∀s',Moved (S::wr) G s s'->aQ prog w s'.heap S led (aD a)->R (.ok (.ret .none)) s') ->
   Qs (et prog w) A (.builtin "set.update.loop" ⟨[.ref S,.ref I],[]⟩) R s:=by
 have m:S∉wr:=λh=>l (W.sub _ h);have p:∀b∈wr,b∈S::wr:=λb c=>kr _ c;intro k;induction k with
 |zero =>
  intro i s hk y g f j;have z:i=n:=by lia
  subst z;show Kw R9 ?_;rw[Nz M7 _];change d3 _ A.in1 (Tx (.ref I) >>= _) _ _ s;show bD (W.done s _ _ g λs' d=>?_);change d3 _ A.in1 (ret oT) _ _ s';rw[Mo ⋯]at f;show df (j s' (d.mono p) (by
   have⟨L,es,ep,t,ho,rest⟩:=f;show⟨L,es,ep,t,d.heap S _ m ho,rest⟩))
 |succ k B =>
  intro i s hk y g f j;have q:i<n:=by lia
  show Kw R9 ?_;rw[Nz M7 _];change d3 _ A.in1 (Tx (.ref I) >>= _) _ _ s;show bD (W.item i s _ _ q g λv s' C D d=>?_);have⟨x,t,H,rfl⟩:=u i v C;have J:aQ prog w s'.heap S led (aD (a.take i)):=by
   have⟨L,es,ep,N,ho,rest⟩:=f;show⟨L,es,ep,N,d.heap S _ m ho,rest⟩
  change d3 _ A.in1 (Mj [t5 x t] (setAdd S (.str x t)) >>= _) _ _ s';show bD (tA ?_);unfold setAdd;show tA ?_;show bD ((sK prog w).pyHash (k:=x) (by rw[gR];simp) ?_);have O:(aD (a.take i)).length+1<x3:=by have:=hV (a.take i);rw[vu]at this;lia
  show kR (s:={s' with toks:=s'.toks+1}) J O λh' r Q=>?_;have T:aQ prog w h' S led (aD (a.take (i+1))):=by
   rw[List.take_add_one,H];change aQ prog w h' S led (aD (a.take i++[x]));rw[p8];show Q
  show df ⟨Sz M7 _,B (i+1) _ ⋯ q (W.frame _ s' _ _ D (Lo _) λb c o e=>?_) T λY S4 S5=>?_⟩
  .rw[r.2 b (λh:b=S=>l (by rw[<-h];show c))];show e
  .show j Y (Ą W.gtrans ((d.mono p).then_heap (Lo _) λb o c e=>?_) S4) S5;rw[r.2 b (λh:b=S=>c (by rw[h];show mA))];show e
end
section
def mw(a:dV)
  (h:Q₁ (.ref s.heap.objs.size) {s with heap:=s.heap.push {cls:=.type "set",dict:=b8,data:=.set #[] 0 (.fresh 0 0 (!w.params.followText "set-order"))}}) :
  Qs (et prog w) A (.call (.builtin "set.__new__") ⟨[.type "set",a],[]⟩) (wants Q₁ E) s:=by
 show Ġ ?_;change d3 _ A.in1 (do Xo "set.__new__" ⟨[.type "set",a],[]⟩;İ (.builtin "set.__new__" ⟨[.type "set",a],[]⟩)) _ _ s;show bD (Xz (PySem.F.newCall_set_1 a) (df ⟨Sz PySem.F.plain_set_new _,Kw PySem.F.entry_set_new ?_⟩));rw[Nz PySem.F.plain_set_new _];unfold Nn.«set.__new__» Ù;have b:=Wi;have⟨c,g,d,e,os⟩:=s
 dsimp only
 wp_walk
 show QR (df ?_)
 dsimp only
 simp only[newObj];show bD (wpAny_alloc (df ?_));show df h
def hZ(b:h.get? a=a5 {cls:=.type "set",dict:=b8,data:=.set #[] 0 (.fresh 0 0 led)}):aQ prog w h a led [] :=
 ⟨[],#[],0,_,b,rfl,.nil,Ti,rfl,by unfold x3;decide,rfl,.inl rfl⟩
end
def sub_tuple_set:N1 (.type "tuple") (.type "set")=pure cc:=by rw[Jg];kernel_rfl
def sub_tuple_frozenset:N1 (.type "tuple") (.type "frozenset")=pure cc:=by rw[Jg];kernel_rfl
section
@[reducible]def aE(w:ve):Bool:=!w.params.followText "set-order"
@[reducible]def rU(led:Bool):Obj:={cls:=.type "set",dict:=b8,data:=.set #[] 0 (.fresh 0 0 led)}
def iF
  (L:s.TypeIs (.ref l) T) (W_:N1 (.type T) (.type "set")=pure cc) (W':N1 (.type T) (.type "frozenset")=pure cc) (JS:(rr T==rr "dict")=cc)
  (N:a.length+1<x3)
  (k:∀(s1:d5) (B:M4) (Q':dV->d5->Prop),B.handled=A.handled->(∀b o,s.heap.get? b=a5 o->s1.heap.get? b=a5 o)->s.heap.objs.size<s1.heap.objs.size ->
   (∀I m n G P St d,î prog w B.in1 I m n G a.length P St->(∀g g',G g g'->g'=g)->s.heap.objs.size∉m->(∀b∈n,s.heap.objs.size<b)->(∀i v,P i v->∃x t,a[i]?=a5 x/\v=.str x t)->St 0 {s1 with heap:=d}->(∀b o,s1.heap.get? b=a5 o->d.get? b=a5 o)->Q' (.ref I) {s1 with heap:=d})->d3 (et prog w) B (YX (.ref l)) Q' E s1)
  (h:∀(h':Jv) (f:Nat),aQ prog w h' s.heap.objs.size (aE w) (aD a)->(∀b o,b<s.heap.objs.size->s.heap.get? b=a5 o->h'.get? b=a5 o)->Q (.ref s.heap.objs.size) {s with heap:=h',toks:=f}) :
  d3 (et prog w) A (NW (.type "set") [.ref l]) Q E s:=by
 have⟨c,tl,Xa⟩:=PySem.F.called_set.mro;have Vi:=PySem.F.called_set.made;have Mt:=PySem.F.called_set.sub;show ê (Ġ ?_);change d3 _ _ (callAny (.type "set") _) _ _ _;show df ⟨UE _ (by decide +kernel),Kw PySem.F.entry_type_call ?_⟩;rw[Around.under_plain (weight_type_call_type "set" [.ref l] []) rfl];have d:=PySem.F.called_set.notType;have h2:=PySem.F.called_set.canCreate;have Zx:=PySem.F.typeCall_set_1 (.ref l)
 repeat (any_goals (first|assumption|wp_step))
 show RW (mw (.ref l) (E:=E) (Q₁:=λobj C=>obj=.ref s.heap.objs.size/\C={s with heap:=s.heap.push (rU (aE w))}) ⟨rfl,rfl⟩) λr C p=>?_;cases r with
 |error e=>show p
 |ok O =>
  cases O with
  |ret obj =>
   have⟨rfl,rfl⟩:=p;have D:(s.heap.push (rU (aE w))).get? s.heap.objs.size=a5 (rU (aE w)):=ez _ rfl;have Y:RU {s with heap:=s.heap.push (rU (aE w))} (.ref s.heap.objs.size) "set":=⟨_,D,rfl⟩
   have Zy:=PySem.F.called_set.init.lookup;have Zz:=PySem.F.called_set.init.bind (.ref s.heap.objs.size)
   repeat (any_goals (first|assumption|wp_step))
   show RW (UY (R:=wants (λr H=>r=.none/\∃h' f,H={s with heap:=h',toks:=f} /\
     aQ prog w h' s.heap.objs.size (aE w) (aD a) /\
     (∀b o,b<s.heap.objs.size->s.heap.get? b=a5 o->h'.get? b=a5 o)) E) PySem.F.called_set.init.plain PySem.F.entry_set_init (check_set_init_1 Y ?_)) λr₂ H q=>?_
   .have⟨ol,P4,J⟩:=L;have⟨Xb,P5,P6,N7⟩:=ol;simp only at J;subst J;have S7:(s.heap.push (rU (aE w))).get? l=a5 {cls:=.type T,dict:=P5,data:=P6,slots:=N7}:=c2 _ P4;have Vj:RU {s with heap:=s.heap.push (rU (aE w))} (.ref l) T:=⟨_,S7,rfl⟩
    unfold Nn.«set.__init__» noKeywords Ö;generalize Xc:YX=PI
    wp_walk
    subst Xc;show k {s with heap:=s.heap.push (rU (aE w))} _ _ rfl (λb o e=>c2 _ e) (by rw[K5];show OG _) λI m n G P St d W hG hf Xd N6 IZ hk=>?_;show bD (YI ?_);show jj W s.heap.objs.size hf (aE w) a rfl N6 N (a.length - 0) 0 _ ⋯ (i5 _) IZ (hZ (hk _ _ D)) ?_;intro s' j u;have⟨h',g',d',Xe,Si⟩:=s';have eg:g'=s.gens:=hG _ _ j.gens;have ed:d'=s.drawn:=j.drawn;have eo:Si=s.os:=j.os;subst eg;subst ed;subst eo;change d3 _ _ _ _ _ _;show df ?_;change d3 _ _ (ret oT) _ _ _;show df ⟨rfl,h',Xe,rfl,u,λb o y e=>?_⟩;show j.heap b o (λz=>by
     rcases d6.mp z with z|z
     .rw[z]at y;show t8 _ y
     .show absurd (Xd b z) (Û y)) (hk _ _ (c2 _ e))
   .cases r₂ with
    |error e=>show q
    |ok Xf =>
     cases Xf with
     |ret r =>
      have⟨rfl,h',f,rfl,u,JE⟩:=q
      repeat (any_goals (first|assumption|wp_step))
      show h _ _ u JE
     |_=>show q.elim
  |_=>show p.elim
end
section
theorem oI:∀{vs:List dV}{a:List Str},Qw vs a->∀(i:Nat) (v:dV),vs[i]?=a5 v->∃x t,a[i]?=a5 x/\v=.str x t
 |_,_,.nil,i,v,h=>by simp at h
 |_,_,.cons x t h,0,v,e=>by simp at e;show⟨x,t,rfl,e.symm⟩
 |_,_,.cons x t h,i+1,v,e=>by rw[Sq]at e;rw[Sq];show oI h i v e
theorem iG:∀{vs:List dV}{a:List Str},Qw vs a->vs.length=a.length
 |_,_,.nil=>rfl
 |_,_,.cons x t h=>by simp[iG h]
def uf(a:n≠S)(b:n≠l):n∉[S,l]:=by simp[a,b]
def fR(j:A.handled=b8)(hl:s.heap.IsList l vs.toArray)(f:Qw vs a)(c:a.length+1<x3)
  (h:∀(h':Jv) (k:Nat),aQ prog w h' s.heap.objs.size (aE w) (aD a)->(∀b o,b<s.heap.objs.size->s.heap.get? b=a5 o->h'.get? b=a5 o)->Q (.ref s.heap.objs.size) {s with heap:=h',toks:=k}) :
  d3 (et prog w) A (NW (.type "set") [.ref l]) Q E s:=by
 have g:l<s.heap.objs.size:=let ⟨o,ho,_⟩:=hl;eh ho;show iF hl.typeIs PySem.F.sub_list_set PySem.F.sub_list_frozenset (by decide) c (λs1 B Q' m hk d n=>?_) h;have LO:s1.heap.IsList l vs.toArray:=let ⟨o,ho,r⟩:=hl;⟨o,hk _ _ ho,r⟩;show V3 LO ?_;have p:l≠s1.heap.objs.size:=hH (Vo g d);have W:=(Ė (prog:=prog) (w:=w) (A:=B.in1) (by simp[m,j]) s1.heap.objs.size l p vs.toArray).toS;have q:vs.toArray.size=a.length:=by simp[iG f]
 rw[q]at W;show n _ _ _ _ _ _ _ W (λ_ _ e=>e) (uf (hH d) (JC g)) (λb c=>by rw[hQ.mp c];show d) (λi v t=>oI f i v (by simpa using t)) ⟨⟨_,ez _ rfl,rfl,rfl⟩,LO.push _⟩ λb o e=>c2 _ e
def gS(j:A.handled=b8)(hl:s.heap.IsTuple l vs.toArray)(f:Qw vs a)(c:a.length+1<x3)
  (h:∀(h':Jv) (k:Nat),aQ prog w h' s.heap.objs.size (aE w) (aD a)->(∀b o,b<s.heap.objs.size->s.heap.get? b=a5 o->h'.get? b=a5 o)->Q (.ref s.heap.objs.size) {s with heap:=h',toks:=k}) :
  d3 (et prog w) A (NW (.type "set") [.ref l]) Q E s:=by
 have g:l<s.heap.objs.size:=let ⟨o,ho,_⟩:=hl;eh ho;show iF hl.typeIs sub_tuple_set sub_tuple_frozenset (by decide) c (λs1 B Q' m hk d n=>?_) h;have LO:s1.heap.IsTuple l vs.toArray:=let ⟨o,ho,r⟩:=hl;⟨o,hk _ _ ho,r⟩;show P7 LO ?_;have p:l≠s1.heap.objs.size:=hH (Vo g d);have W:=(Walks.tuple (prog:=prog) (w:=w) (A:=B.in1) (by simp[m,j]) s1.heap.objs.size l p vs.toArray).toS;have q:vs.toArray.size=a.length:=by simp[iG f]
 rw[q]at W;show n _ _ _ _ _ _ _ W (λ_ _ e=>e) (uf (hH d) (JC g)) (λb c=>by rw[hQ.mp c];show d) (λi v t=>oI f i v (by simpa using t)) ⟨⟨_,ez _ rfl,rfl,rfl⟩,let ⟨o,ho,r⟩:=LO;⟨o,c2 _ ho,r⟩⟩ λb o e=>c2 _ e
def oJ(a:n≠0)(h:∀i<n,Q i {s with drawn:=s.drawn.bump src}):d3 M A (choose src n) Q E s:=λΓ p b=>by
 change Sem.wp M Γ (.choose src n .pure) _ _ p s;rw[Sem.wp_choose];show⟨a,h _ (Xq _ (Nat.pos_of_ne_zero a))⟩
theorem h_:∀{xs:List α}{i:Nat}{x:α},xs[i]?=a5 x->(x::xs.eraseIdx i).Perm xs
 |[],i,x,h=>by simp at h
 |y::a,0,x,h=>by simp at h;subst h;show .refl _
 |y::a,i+1,x,h=>by
  rw[Sq]at h;rw[Sr];show(Zs y x _).trans ((h_ h).cons y)
theorem gT:∀(n:Nat) (xs:List α) (s:d5) (Q:List α->d5->Prop),xs.length=n->(∀a d,a.Perm xs->Q a {s with drawn:=d})->d3 M A (drawOrder n xs) Q E s
 |0,xs,s,Q,b,h=>by
  have:xs=[]:=Sm.mp b;subst this;show df (h [] s.drawn (.refl _))
 |n+1,[],s,Q,b,h=>by simp at b
 |n+1,y::a,s,Q,b,h=>by
  change d3 M A (choose .order (y::a).length >>= _) Q E s;show bD (oJ (by simp) λi c=>?_);have e:(y::a)[i]?=a5 ((y::a)[i]'c):=mx c;have f:=h_ e;generalize (y::a)[i]'c=x at e f;simp only[e];show bD (gT n _ _ _ (by have:=f.length_eq;simp at this b ⊢;lia) λg d hz=>?_);show df (h (x::g) d ((hz.cons x).trans f))
theorem jJ(next:Nat->Nat):∀(fuel k:Nat) (left:List α) (out:Array α),left.length=fuel->(Wq next fuel k left out).toList.Perm (out.toList++left)
 |0,k,left,out,hl=>by
  have:left=[]:=Sm.mp hl;subst this;simp[Wq]
 |fuel+1,k,left,out,hl=>by
  unfold Wq;have a:next k % left.length<left.length:=Xq _ ⋯;have e:left[next k % left.length]?=a5 (left[next k % left.length]'a):=mx a;have b:=h_ e;generalize left[next k % left.length]'a=x at e b;simp only[e];show(jJ next fuel _ _ _ (by have:=b.length_eq;simp at this;lia)).trans ?_;rw[ZV,R6];show(b.append_left _)
def dP(next:Nat->Nat)(xs:Array α):(Xg next xs).toList.Perm xs.toList:=by
 have:=jJ next xs.size 0 xs.toList #[] (by simp);simpa[Xg] using this
end
namespace SI
def p_:Manifest.owners.lookup (String.ofList ['r','o','t','a','r','e','t','i','_','t','e','s'].reverse)=a5 Manifest.sig_set_iterator:=by kernel_rfl
def slot_next:Slot "set_iterator" "__next__" "set_iterator.__next__" :=
 .of (owner:="set_iterator") (n:="__next__") (by rw[RO,N_];kernel_rfl) (by decide +kernel) (by decide +kernel) (by decide +kernel)
  (by first|show .inl (by decide +kernel)|show .inr (by decide +kernel)) (by rw[Jg];kernel_rfl)
def entry_next:Ò table "set_iterator.__next__"=a5 Nn.«set_iterator.__next__»:=entryFor_of_tree (by kernel_rfl)
def args_next(a:dV):į "set_iterator.__next__" ⟨[a],[]⟩:=by
 unfold į;rw[signature?_of (id:="set_iterator.__next__") (n:=['_','_','t','x','e','n','_','_']) (o:=['r','o','t','a','r','e','t','i','_','t','e','s']) (by kernel_rfl) p_];kernel_rfl
def mU:Slot "set_iterator" "__iter__" "set_iterator.__iter__" :=
 .of (owner:="set_iterator") (n:="__iter__") (by rw[RO,N_];kernel_rfl) (by decide +kernel) (by decide +kernel) (by decide +kernel)
  (by first|show .inl (by decide +kernel)|show .inr (by decide +kernel)) (by rw[Jg];kernel_rfl)
def vY(a:dV):į "set_iterator.__iter__" ⟨[a],[]⟩:=by
 unfold į;rw[signature?_of (id:="set_iterator.__iter__") (n:=['_','_','r','e','t','i','_','_']) (o:=['r','o','t','a','r','e','t','i','_','t','e','s']) (by kernel_rfl) p_];kernel_rfl
def rV:Ò table "set_iterator.__iter__"=a5 Nn.«dict_keyiterator.__iter__» :=
 YZ (id':="dict_keyiterator.__iter__") (by kernel_rfl) (by first|rfl|decide +kernel|(unfold String.splitOn;simp +decide [String.splitOnAux])) (by decide +kernel) (by kernel_rfl)
def kS:Ò table "set.__iter__"=a5 Nn.«frozenset.__iter__» :=
 YZ (id':="frozenset.__iter__") (by kernel_rfl) rfl (by decide +kernel) (by kernel_rfl)
end SI
section
variable{prog:u3}{w:ve}{A:M4}{E:dV->d5->Prop}{s:d5}
abbrev ia(h:Jv)(I:d8)(first:dV)(i:Nat)(S:d8)(n ep:Nat):Prop:=∃o,h.get? I=a5 o/\o.cls=.type "set_iterator"/\o.data=.fields #[first,uv i,.ref S,uv n,uv ep]
def ia.typeIs(x:ia s.heap I f i S n ep):s.TypeIs (.ref I) "set_iterator":=let ⟨o,ho,a,_⟩:=x;⟨o,ho,a⟩
def AV(a:ia s.heap I f i S n ep)(h:Q (.ref I) s):d3 (et prog w) A (YX (.ref I)) Q E s:=by
 show ù a.typeIs SI.mU (J1 SI.mU a.typeIs SI.rV ?_ (SI.vY _));change d3 _ _ (ret (.ref I)) _ _ s;show df ⟨_,rfl,"set_iterator",_,a.typeIs,SI.slot_next.lookup,h⟩
def cG(h:Q (M.w.params.followText "set-order") s):d3 M A ì Q E s:=by
 unfold ì;show bD (QR (df h))
end
end L2
namespace L2
open PySem PySem.Spec PyProof.Rows
section
variable{prog:u3}{w:ve}{A:M4}{E:dV->d5->Prop}{s:d5}
@[reducible]def oK(es:Array (Int×dV))(ep:Nat)(t:OM):Obj:={cls:=.type "set",dict:=b8,data:=.set es ep t}
def qa{I:d8}{B:M4}{Q:Option dV->d5->Prop}{c:Jv}{k:dV->Sem (Option dV)}(d:B.handled=b8)
  (f:∀h',(∀b o,c.get? b=a5 o->h'.get? b=a5 o)->∀e,RU {s with heap:=h' } e "StopIteration"->E e {s with heap:=h' }) {Q':Fin->d5->Prop} :
  d3 (et prog w) B (Z0 (.type "StopIteration") [] >>= λe=>(YS e:Sem Fin)) Q' E {s with heap:=c}:=by
 show bD ?_;simp only[Z0,Ī];show bD (va ?_ (by size_fits));show bD (m:=UN _ _) (Xz (a:=oT) (by first|rfl|(simp only[UN];rfl)) ?_);show va ?_ (by size_fits);simp only[YS];show bD (wpAny_handled ?_);rw[d];show bD (df (wpAny_throw ?_));show f _ (λb o e=>c2 _ (c2 _ e)) _ ⟨_,ez _ rfl,rfl⟩
def ug{I S:d8}{first:dV}{i ep:Nat}{es:Array (Int×dV)}{t:OM}(d:ia s.heap I first i S es.size ep)(ho:s.heap.get? S=a5 (oK es ep t))(j:t.fits es.size=b6)
  (k:∀(Q':Fin->d5->Prop) (h:dV->d5->Prop) ,(∀v s',Q (a5 v) s'->Q' (.done (.ret v)) s')->(∀e s',s'.TypeIs e "StopIteration"->Q b8 s'->h e s') ->
   d3 (et prog w) A.in1 (if let .int slot _:=first then(do
     match <-Wl S slot.toNat i ep with
     |some (x,next) =>
      Wm (.ref I) 0 (uv next)
      Wm (.ref I) 1 (uv ((i:Int)+1))
      ret x
     |none=>Wm (.ref I) 2 .none;YS (<-Z0 (.type "StopIteration") []))
    else(do
     let a5 c <-ZC first|unsupported "internal:set_iterator"
     match c[i]? with
     |some (.int f _) =>
      let x <-ZZ S f.toNat ep
      Wm (.ref I) 1 (uv ((i:Int)+1))
      ret x
     |some _=>XH "internal:set_iterator"
     |none=>Wm (.ref I) 0 (uv 0);Wm (.ref I) 2 .none;YS (<-Z0 (.type "StopIteration") []))) Q' h s):d3 (et prog w) A (Tx (.ref I)) Q E s:=by
 have⟨o,l,n,m⟩:=id d;unfold Tx;show bD (wpAny_attempt (Qg (name:=Rh "__next__") d.typeIs SI.slot_next
  (J1 SI.slot_next d.typeIs SI.entry_next ?_ (SI.args_next _))))
 unfold Nn.«set_iterator.__next__»;show bD (Xz (a:=(ko I,[])) rfl ?_)
 try dsimp only
 show bD (wpAny_fieldsOf l m ?_)
 try dsimp only
 show bD (RT ho rfl j ?_);rw[Ľ (by simp)];show my (k (λg s'=>∃r,g=.done (.ret r)/\Q (a5 r) s') (λe s'=>s'.TypeIs e "StopIteration"/\Q b8 s') (λv s' q=>⟨v,rfl,q⟩) λe s' z q=>⟨z,q⟩) ?_ ?_
 .rintro g s' ⟨r,rfl,q⟩;show⟨r,rfl,df q⟩
 .rintro e s' ⟨z,q⟩;show bD (OQ (T:="StopIteration") (b:=b6) z ī ?_);show df q
end
section
def uh{I S:d8}{f f':dV}{i n ep:Nat}{h:Jv}{o:Obj}(b:h.get? I=a5 o)(c:o.cls=.type "set_iterator")(a:o.data=.fields #[f,uv i,.ref S,uv n,uv ep]):
  ia (h.update I (ă (·.setIfInBounds 1 (uv ((i:Int)+1))))) I f (i+1) S n ep :=
 ⟨_,t4 _ b (S_ (MY a _)),(Vn ..).trans c,by rw[MY a];simp⟩
def qb{h:Jv}(b:h.get? I=a5 o)(c:o.cls=.type "set_iterator")(a:o.data=.fields #[f,uv i,.ref S,uv n,uv ep]):
  ∃o',(h.update I (ă (·.setIfInBounds 0 f'))).get? I=a5 o'/\o'.cls=.type "set_iterator"/\o'.data=.fields #[f',uv i,.ref S,uv n,uv ep] :=
 ⟨_,t4 _ b (S_ (MY a _)),(Vn ..).trans c,by rw[MY a];simp⟩
def xP{I S:d8}{slot i ep:Nat}{es:Array (Int×dV)}{t:OM}{Q:Option dV->d5->Prop}(a:ia s.heap I (uv slot) i S es.size ep)(ho:s.heap.get? S=a5 (oK es ep t))(j:t.fits es.size=b6)(l:A.handled=b8)
  {r:Option (dV×Nat)} (m:∀(B:M4) (f:dV->d5->Prop) (Q':Option (dV×Nat)->d5->Prop),Q' r s->d3 (et prog w) B (Wl S slot i ep) Q' f s)
  (n:∀x nx,r=a5 (x,nx)->∀h',ia h' I (uv nx) (i+1) S es.size ep->nC I s.heap h'->Q (a5 x) {s with heap:=h' })
  (q:r=b8->∀h',(∀b o,b≠I->s.heap.get? b=a5 o->h'.get? b=a5 o)->Q b8 {s with heap:=h' }):d3 (et prog w) A (Tx (.ref I)) Q E s:=by
 show ug a ho j λQ' f u v=>?_;have⟨o,c,y,d⟩:=id a;change d3 _ _ (Wl S slot i ep >>= _) _ _ s;show bD (m _ _ _ ?_);cases r with
 |some p =>
  have⟨x,nx⟩:=p
  dsimp only
  show bD (MP c d (by simp) ?_);have⟨o',g,z,h⟩:=qb (f':=uv nx) c y d;show bD (MP (s:={s with heap:=_}) g h (by simp) ?_);show df (u _ _ (n x nx rfl _ (uh (f':=uv nx) g z h) ((vl ..).trans (vl ..))))
 |none =>
  dsimp only
  show bD (MP c d (by simp) ?_);show qa (I:=I) (k:=λ_=>pure b8) (Q:=λ_ _=>True) (s:=s) (by simpa using l) λh' hk e C=>v e _ C (q rfl h' λb D G H=>hk b D ?_);rw[OH _ _ _ _ G];show H
def DX{I S T:d8}{i ep:Nat}{es:Array (Int×dV)}{t:OM}{a:List Nat}{Q:Option dV->d5->Prop}(c:ia s.heap I (.ref T) i S es.size ep)(ho:s.heap.get? S=a5 (oK es ep t))(m:t.fits es.size=b6)(r:A.handled=b8)
  (u:s.heap.IsTuple T ((a.map λ(j:Nat)=>uv j).toArray))
  (v:∀(j:Nat) (e:Int×dV),a[i]?=a5 j->es[j]?=a5 e->∀h',ia h' I (.ref T) (i+1) S es.size ep->nC I s.heap h'->Q (a5 e.2) {s with heap:=h' })
  (x:∀j∈a,j<es.size)
  (y:a[i]?=b8->∀h',(∀b o,b≠I->s.heap.get? b=a5 o->h'.get? b=a5 o)->Q b8 {s with heap:=h' }):d3 (et prog w) A (Tx (.ref I)) Q E s:=by
 show ug c ho m λQ' O z B=>?_;have⟨o,d,n,f⟩:=id c;have⟨Y,C,ZA,nT,D⟩:=u;change d3 _ _ (ZC (.ref T) >>= _) _ _ s;show bD (UH C D ?_);cases e:a[i]? with
 |some j =>
  have g:(a.map λ(j:Nat)=>uv j).toArray[i]?=a5 (uv j):=by simp[e]
  simp only[g];have h:j<es.size:=x j (mN e);have l:es[j]?=a5 (es[j]'h):=by simp[h]
  change d3 _ _ (ZZ S (j:Int).toNat ep >>= _) _ _ s;unfold ZZ;rw[NQ];show bD (bD (lg ho rfl m ?_))
  dsimp only
  rw[Ľ (by simp)];generalize es[j]'h=p at l;simp only[l];show df ?_;show bD (MP d f (by simp) ?_);show df (z _ _ (v j p e l _ (uh (f':=.ref T) d n f) (vl ..)))
 |none =>
  have g:(a.map λ(j:Nat)=>uv j).toArray[i]?=b8:=by simp at e ⊢;show e
  simp only[g];show bD (MP d f (by simp) ?_);have⟨o',G,e2,H⟩:=qb (f':=uv 0) d n f;show bD (MP (s:={s with heap:=_}) G H (by simp) ?_);show qa (I:=I) (k:=λ_=>pure b8) (Q:=λ_ _=>True) (s:=s) (by simpa using r) λh' hk ex J=>B ex _ J (y e h' λb L q N=>hk b L ?_);rw[OH _ _ _ _ q,OH _ _ _ _ q];show N
end
section
def ia.at(x:ia h I f i S n ep)(e:∀o,h.get? I=a5 o->h'.get? I=a5 o):ia h' I f i S n ep:=let ⟨o,ho,r⟩:=x;⟨o,e _ ho,r⟩
def kU(r:A.handled=b8)(n:S≠I)(u:t.fits es.size=b6)(T:d8)(p:T≠I)(c:List dV)(k:c.length=es.size)
  (first:Nat->dV) (a:Jv->Prop) (l:∀h h',a h->(∀o,h.get? T=a5 o->h'.get? T=a5 o)->a h')
  (m:∀(s:d5) (i:Nat) (E:dV->d5->Prop) (Q:Option dV->d5->Prop),i<=es.size->a s.heap->ia s.heap I (first i) i S es.size ep->s.heap.get? S=a5 (oK es ep t) ->
   (∀x,c[i]?=a5 x->∀h',ia h' I (first (i+1)) (i+1) S es.size ep->nC I s.heap h'->Q (a5 x) {s with heap:=h' }) ->
   (c[i]?=b8->∀h',(∀b o,b≠I->s.heap.get? b=a5 o->h'.get? b=a5 o)->Q b8 {s with heap:=h' })->d3 (et prog w) A (Tx (.ref I)) Q E s) :
  Walks prog w A I [I,S,T] [I] es.size (λi v=>c[i]?=a5 v) (λi h=>i<=es.size/\ia h I (first i) i S es.size ep/\h.get? S=a5 (oK es ep t)/\a h) where
 sub:=λb d=>by rw[hQ.mp d];simp
 frame:=λi h h' x hk=>⟨x.1,x.2.1.at λo e=>hk I (by simp) o e,hk S (by simp) _ x.2.2.1,l h h' x.2.2.2 λo e=>hk T (by simp) o e⟩
 item:=λi s Q E q x f=>by
  show m s i E Q x.1 x.2.2.2 x.2.1 x.2.2.1 (λv g h' j hs=>?_) λz=>absurd z (by simp;lia);show f v h' s.toks g ⟨q,j,?_,l _ h' x.2.2.2 λo e=>?_⟩ λb o d e=>?_
  .rw[hs.2 S n];show x.2.2.1
  .rw[hs.2 T p];show e
  .rw[hs.2 b λz=>d (by simp[z])];show e
 done:=λs Q E x f=>by
  show m s es.size E Q x.1 x.2.2.2 x.2.1 x.2.2.1 (λv g=>absurd g (by rw[Qk ⋯];simp)) λ_ h' hk=>f h' s.toks λb o d e=>hk b o (λz=>d (by simp[z])) e
 self:=λi s Q E x f=>AV x.2.1 f
def oM(ho:s.heap.get? S=a5 (oK es ep t))(a:t.fits es.size=b6)(h:Q (!w.params.followText "set-order"&&(!t.plain&&cK (es.size>1))) s):d3 (et prog w) A (setDrawn S) Q E s:=by
 unfold setDrawn;show bD (lg ho rfl a ?_)
 dsimp only
 show bD (cG (df h))
def oN(a:w.params.followText "set-order"=b6)(ho:s.heap.get? S=a5 (oK es ep t))(b:t.fits es.size=b6)
  (h:Q ((Xg (w.params.setOrder S ep) es)[i]?.map λe=>(e.2,0)) s):d3 (et prog w) A (Wl S 0 i ep) Q E s:=by
 unfold Wl;show bD (lg ho rfl b ?_)
 dsimp only
 show bD (cG ?_);change d3 _ _ (if (w.params.followText "set-order")=b6 then _ else _) _ _ s;rw[ļ a];rw[Ľ (by simp)];unfold setWalk;show bD (bD (lg ho rfl b ?_))
 dsimp only
 show bD (cG ?_);change d3 _ _ (if (w.params.followText "set-order")=b6 then _ else _) _ _ s;rw[ļ a];show bD (QR (df ?_));show df h
theorem qc(hw:w.params.followText "set-order"=cc)(ho:s.heap.get? S=a5 (oK es ep t))(hf:t.fits es.size=b6)(hl:t.led=b6)(h1:es.size<=1)
    (h:Q (match es[Ls t.place slot]?,t.place[Ls t.place slot]? with|some (_,x),a5 j=>a5 (x,j+1)|_,_=>b8) s):d3 (et prog w) A (Wl S slot i ep) Q E s:=by
  unfold Wl;refine bD (lg ho rfl hf ?_)
  dsimp only
  refine bD (cG ?_);show d3 _ _ (if (w.params.followText "set-order")=b6 then _ else _) _ _ s;rw[Ľ (by rw[hw];simp)];show d3 _ _ (if (!t.plain&&cK (es.size>1))=b6 then _ else _) _ _ s
  rw [if_neg (by have : decide (es.size > 1) = false := decide_eq_false (by lia)
                 rw[this];simp)]
  show d3 _ _ ((if (!t.led&&!es.isEmpty)=b6 then _ else _) >>= _) _ _ s;rw[Ľ (by rw[hl];simp)];exact bD (df (df h))
def qd(es:Array (Int×dV))(a:Array Nat)(i:Nat)(c:es.size<=1)(d:a.size=es.size)(b:i<=es.size):
  (match es[Ls a (if i=0 then 0 else(a[0]?).getD 0+1)]?,a[Ls a (if i=0 then 0 else(a[0]?).getD 0+1)]? with|some (_,x),a5 j=>a5 (x,j+1)|_,_=>b8)=es[i]?.map λe=>(e.2,(a[0]?).getD 0+1):=by
 have⟨es⟩:=es;have⟨a⟩:=a
 match es,a,c,d,b with
 |[],[],_,_,b=>simp
 |[e],[p],_,_,b =>
  match i,b with
  |0,_ =>
   have:Ls #[p] 0=0:=by simp[Ls,Wx]
   simp[this]
  |1,_ =>
   have:Ls #[p] (p+1)=1:=by simp[Ls,Wx]
   simp[this]
  |n+2,h=>simp at h
 |[],_::_,_,h,_=>simp at h
 |[_],[],_,h,_=>simp at h
 |[_],_::_::_,_,h,_=>simp at h
 |_::_::_,_,h,_,_=>simp at h
def xQ(G:B.handled=b8)(hS:aQ prog w s.heap S (aE w) D)
  (h:∀(I:d8) (fp:List d8) (n:Nat) (P:Nat->dV->Prop) (St:Nat->Jv->Prop) (c:List Str) (h':Jv) (d':Drawn),Walks prog w B I fp [I] n P St->c.Perm D->n=c.length->(∀i v,P i v->∃x Y,c[i]?=a5 x/\v=.str x Y)->s.heap.objs.size<=I->(∀b∈fp,b=S\/s.heap.objs.size<=b)->St 0 h' ->
   (∀b o,s.heap.get? b=a5 o->h'.get? b=a5 o)->Q (.ref I) {s with heap:=h',drawn:=d' }):d3 (et prog w) A (YX (.ref S)) Q E s:=by
 have⟨L,es,ep,t,ho,JL,IU,Jj,a,d,JO,JJ⟩:=hS;have Vk:s.TypeIs (.ref S) "set":=⟨_,ho,rfl⟩
 have Mu:S<s.heap.objs.size:=eh ho;show ù Vk PySem.F.slot_set_iter (J1 PySem.F.slot_set_iter Vk SI.kS ?_ (PySem.F.args_set_iter_1 _));unfold Nn.«frozenset.__iter__» Ø slotArgs;simp only[List.isEmpty_nil,õ,K1,↓reduceIte,bind_assoc,VH,bne_self_eq_false];unfold TY Qi;show bD (df ?_)
 try dsimp only
 show bD (df ?_);show bD (bD (RT ho rfl a (df ?_)));have Xi:D.length=es.size:=by rw[<-IU.length_eq,c4,<-gj,JL,c4]
 have f:∀(l:List (Int×dV)),l.Perm es.toList->∃c:List Str,c.Perm D/\c.length=es.size/\∀(i:Nat) (v:dV),(l.map (·.2))[i]?=a5 v->∃(x:Str) (Y:Tok),c[i]?=a5 x/\v=t5 x Y:=by
  intro l hl;rw[JL]at hl;have⟨L',e',p'⟩:=di hl;show⟨L'.map (·.1),(p'.map _).trans IU,by rw[((p'.map _).trans IU).length_eq,Xi],λi v H=>?_⟩;subst e';rw[i4,i8]at H;rw[i8];cases q:L'[i]? with
  |none=>rw[q]at H;simp at H
  |some p=>rw[q]at H;simp at H;show⟨p.1,p.2,rfl,H.symm⟩
 show bD (oM ho a ?_);cases hw:w.params.followText "set-order" with
 |true =>
  simp only[õ,è,K1,↓reduceIte];show bD (df ?_);show bD (bD (lg ho rfl a (df ?_)));show bD (va ?_);have u:S≠s.heap.objs.size:=hH Mu;have⟨c,J,N,O⟩:=f (Xg (w.params.setOrder S ep) es).toList (dP _ _);have W:=kU (prog:=prog) (w:=w) (A:=B) (I:=s.heap.objs.size) (S:=S) (es:=es) (ep:=ep) (t:=t) G u a S u ((Xg (w.params.setOrder S ep) es).toList.map (·.2)) (by rw[c4,(dP _ _).length_eq,gj]) (λ_=>uv 0) (λ_=>True) (λ_ _ _ _=>trivial)
   (λs i E Q _ _ g y k1 k2=>xP (slot:=0) g y a G (λB E' Q' q=>oN hw y a q) (λx nx e h' T hs=>by
    rw[eH]at e;have⟨p,C,e2⟩:=e;cases e2;show k1 _ (by rw[i8,ri,C];rfl) h' T hs) (λe=>k2 (by rw[i8,ri,Sk];rwa [Sk]at e)))
  show df ⟨_,rfl,"set_iterator",_,⟨_,ez _ rfl,rfl⟩,SI.slot_next.lookup,?_⟩;show h _ _ _ _ _ c _ s.drawn W J N.symm O (hU _) (λb d=>by
   simp only[d6,KA,or_false]at d;rcases d with rfl|rfl|rfl
   .show .inr (hU _)
   .show .inl rfl
   .show .inl rfl) ⟨i5 _,⟨_,ez _ rfl,rfl,rfl⟩,c2 _ ho,trivial⟩ λb o e=>c2 _ e
 |false =>
  by_cases hsz:es.size>1
  .have JZ:t.plain=cc:=by
    rcases JJ with z|z
    .lia
    .show z
   have C:(!cc&&(!t.plain&&cK (es.size>1)))=b6:=by rw[JZ,Ŀ hsz];rfl
   rw[C];simp only[↓reduceIte];show bD (gT _ _ _ _ C0 λm d' hp=>?_);simp only[Ī];have M9:∀j∈m,j<es.size:=λj hj=>by have:=hp.mem_iff.mp hj;simpa using this
   have P9:m.length=es.size:=by rw[hp.length_eq];simp
   show bD (va ?_ (by
    change(m.map λ(j:Nat)=>uv j).toArray.size<=_;have:es.size<4096:=d;simp only[fx,c4,P9];have:(4096:Nat)<=cL:=by decide
    lia))
   have L4:(s.heap.push {cls:=.type "tuple",data:=.seq (m.map λ(j:Nat)=>uv j).toArray}).get? S=a5 (oK es ep t):=c2 _ ho;show bD (bD (lg (s:={s with heap:=_,drawn:=d' }) L4 rfl a (df ?_)));show bD (va ?_);have Xj:s.heap.objs.size≠(s.heap.push {cls:=.type "tuple",data:=.seq (m.map λ(j:Nat)=>uv j).toArray}).objs.size:=by rw[K5];show hH (OG _)
   have u:S≠(s.heap.push {cls:=.type "tuple",data:=.seq (m.map λ(j:Nat)=>uv j).toArray}).objs.size:=by rw[K5];show hH (R_ Mu)
   have N9:(m.map λj=>(es[j]?).getD (0,oT)).Perm es.toList:=by
    show(hp.map _).trans ?_;have:(gs es.size).map (λj=>(es[j]?).getD (0,oT))=es.toList:=by
     apply LR
     .simp
     .intro i h1 h2;simp at h1 ⊢;simp[h1]
    rw[this]
   have⟨c,J,N,O⟩:=f _ N9;have W:=kU (prog:=prog) (w:=w) (A:=B) (I:=(s.heap.push {cls:=.type "tuple",data:=.seq (m.map λ(j:Nat)=>uv j).toArray}).objs.size) (S:=S) (es:=es) (ep:=ep) (t:=t) G u a s.heap.objs.size Xj ((m.map λj=>(es[j]?).getD (0,oT)).map (·.2)) (by simp[P9]) (λ_=>.ref s.heap.objs.size) (λh=>h.IsTuple s.heap.objs.size (m.map λ(j:Nat)=>uv j).toArray) (λh h' ⟨o,ho,r⟩ k=>⟨o,k _ ho,r⟩)
    (λs' i E Q _ LQ g y k1 k2=>DX g y a G LQ (λj e ej ee h' T hs=>k1 _ (by rw[i8,i8,ej];simp[ee]) h' T hs) M9 (λe=>k2 (by rw[i8,i8,e];rfl)))
   show df ⟨_,rfl,"set_iterator",_,⟨_,ez _ rfl,rfl⟩,SI.slot_next.lookup,?_⟩;show h _ _ _ _ _ c _ d' W J N.symm O (by rw[K5];show Lo _) (λb d=>?_) ⟨i5 _,⟨_,ez _ rfl,rfl,rfl⟩,c2 _ L4,⟨_,c2 _ (ez _ rfl),rfl,_,rfl⟩⟩ λb o e=>c2 _ (c2 _ e);rw[K5]at d;simp only[d6,KA,or_false]at d;rcases d with rfl|rfl|rfl
   .show .inr (Lo _)
   .show .inl rfl
   .show .inr (hU _)
  .have C:(!cc&&(!t.plain&&cK (es.size>1)))=cc:=by rw[ľ hsz];simp
   rw[C];simp only[K1,↓reduceIte];show bD (df ?_);show bD (bD (lg ho rfl a (df ?_)));show bD (va ?_);have u:S≠s.heap.objs.size:=hH Mu;have Xk:t.led=b6:=by rw[JO];change(!w.params.followText "set-order")=b6;rw[hw];rfl
   have⟨c,J,N,O⟩:=f es.toList (.refl _);have Lc:t.place.size=es.size:=by
    unfold RA at a;simp only[cb,beq_iff_eq]at a;show a.1
   have W:=kU (prog:=prog) (w:=w) (A:=B) (I:=s.heap.objs.size) (S:=S) (es:=es) (ep:=ep) (t:=t) G u a S u (es.toList.map (·.2)) (by simp) (λi=>uv ((if i=0 then 0 else(t.place[0]?).getD 0+1:Nat):Nat)) (λ_=>True) (λ_ _ _ _=>trivial)
    (λs' i E Q hi _ g y k1 k2=>xP (slot:=if i=0 then 0 else(t.place[0]?).getD 0+1) g y a G (λB E' Q' q=>qc hw y a Xk ⋯ q) (λx nx e h' T hs=>by
     rw[qd es t.place i ⋯ Lc hi,eH]at e;have⟨p,C,e2⟩:=e;cases e2;show k1 _ (by rw[i8,ri,C];rfl) h' ?_ hs;rw[Ľ (Nat.succ_ne_zero i)];show T) (λe=>by
     rw[qd es t.place i ⋯ Lc hi,Sk]at e;show k2 (by rw[i8,ri,e];rfl)))
   show df ⟨_,rfl,"set_iterator",_,⟨_,ez _ rfl,rfl⟩,SI.slot_next.lookup,?_⟩;show h _ _ _ _ _ c _ s.drawn W J N.symm O (hU _) (λb d=>by
    simp only[d6,KA,or_false]at d;rcases d with rfl|rfl|rfl
    .show .inr (hU _)
    .show .inl rfl
    .show .inl rfl) ⟨i5 _,⟨_,ez _ rfl,rfl,rfl⟩,c2 _ ho,trivial⟩ λb o e=>c2 _ e
end
def qe:QS (.type "set") "__len__"=pure (a5 (.builtin "set.__len__")):=by rw[RO,N_];kernel_rfl
section
theorem kW:∀{vs:List dV}{a:List Str},vs.length=a.length->(∀(i:Nat) (v:dV),vs[i]?=a5 v->∃x t,a[i]?=a5 x/\v=.str x t)->Qw vs a
 |[],[],_,_=>.nil
 |[],_::_,h,_=>by simp at h
 |_::_,[],h,_=>by simp at h
 |v::vs,y::a,h,k=>by
  have⟨x,t,b,c⟩:=k 0 v rfl;cases b;subst c;show .cons y t (kW (by simpa using h) λi w d=>k (i+1) w d)
def qf(J:A.handled=b8)(N:aQ prog w s.heap S (aE w) D)(O:D.length<=cL)
  (T:∀(vs:List dV) (c:List Str) (h':Jv) (d':Drawn) (h:Nat),c.Perm D->Qw vs c->s.heap.objs.size<=h'.objs.size->s.toks<=h->(∀b o,s.heap.get? b=a5 o->h'.get? b=a5 o)->Q vs {s with heap:=h',drawn:=d',toks:=h}) :
  d3 (et prog w) A (Z2 (.ref S)) Q E s:=by
 have⟨L,es,ep,t,ho,rest⟩:=id N;have Y:S<s.heap.objs.size:=eh ho;unfold Z2;show bD (YI (Kw PySem.F.entry_proto_collect ?_));rw[Nz PySem.F.plain_proto_collect _];change d3 _ A.in1 (þ [] >>= λl=>İ (.builtin "list.__iadd__" ⟨[l,.ref S],[]⟩)) _ _ s;show bD (va ?_);show df ⟨Sz PySem.F.plain_list_iadd _,Kw PySem.F.entry_list_iadd ?_⟩;rw[Nz PySem.F.plain_list_iadd _];have f:(s.heap.push {cls:=.type "list",data:=.seq ([]:List dV).toArray}).get? S=a5 {cls:=.type "set",dict:=b8,data:=.set es ep t}:=c2 _ ho;have hT:RU {s with heap:=s.heap.push {cls:=.type "list",data:=.seq ([]:List dV).toArray}} (.ref S) "set":=⟨_,f,rfl⟩
 change d3 _ A.in1 (ti (.ref s.heap.objs.size) (.ref S) (.ref s.heap.objs.size)) _ _ _;unfold ti;show bD (VR hT ?_);have j:s.heap.objs.size≠S:=JC Y;have h1:Nr (.ref s.heap.objs.size) (.ref S)=cc:=by simp[Nr,j]
 have h2:(rr "set"==rr "list")=cc:=by decide
 have h3:(rr "set"==rr "tuple")=cc:=by decide
 simp only[h1,h2,h3,X4,K1,if_false];show bD (xQ (B:=A.in1) (by simpa using J) ⟨L,es,ep,t,f,rest⟩ ?_);intro I fp n P St c h' d' W k m hP p S8 IZ hk;have g:RU {s with heap:=h',drawn:=d' } (.ref S) "set":=⟨_,hk _ _ f,rfl⟩
 show bD (tA ?_);unfold Ux;show bD (T6 g qe ?_);have KD:splitId "set.__len__"=a5 ("set","__len__"):=by decide +kernel
 dsimp only
 rw[KD]
 dsimp only
 show bD (OQ g Wi ?_);rw[Ľ (by decide)];rw[ļ (by decide +kernel)];show bD (VR g ?_);show df ?_;rw[ļ (by decide +kernel)];have q:s.heap.objs.size∉fp:=λa=>by
  rcases S8 _ a with z|z
  .show j z
  .rw[K5]at z;show absurd z (Nat.not_succ_le_self _)
 have r:h'.get? s.heap.objs.size=a5 {cls:=.type "list",data:=.seq ([]:List dV).toArray}:=hk _ _ (ez _ rfl);show bD (OK ?_);show bD ?_;change d3 _ A.in1 (Đ s.heap.objs.size (·.push .none) >>= λ_=>Đ s.heap.objs.size (·.pop)) _ _ _;show bD (RM r rfl ?_);have u:=t4 (qs (·.push oT)) r rfl;show RM u rfl ?_;have Xl:=t4 (qs (·.pop)) u rfl;have x:∀b o,b≠s.heap.objs.size->h'.get? b=a5 o->((h'.update s.heap.objs.size (qs (·.push oT))).update s.heap.objs.size (qs (·.pop))).get? b=a5 o :=
  λb o d e=>(Mk _ _ (nH d)).trans ((Mk _ _ (nH d)).trans e)
 show df ⟨Sz PySem.F.plain_extend_loop _,Ó W.toS (by rw[m,k.length_eq];show O) _ q _ n 0 _ _ _ rfl (i5 _) (W.frame 0 h' _ IZ λb d o e=>x b o (λz=>q (z▸d)) e) Xl (á P) λs' JP c' a y C=>?_⟩;change d3 _ A (load s.heap.objs.size >>= _) _ _ s';show bD (é y ?_);have⟨Rc,g2,G,Xm,Xn⟩:=s';have eg:g2=s.gens:=a.gens;have ed:G=d':=a.drawn;have eo:Xn=s.os:=a.os;subst eg;subst ed;subst eo;show df (T _ c Rc G Xm k (kW (by rw[gj,C.1,m]) λi v hv=>hP i v (C.2 i v (by rwa [ri]at hv))) (Qc (eh y)) a.toks λb o e=>?_);have H:b≠s.heap.objs.size:=λz=>by rw[z]at e;show absurd (eh e) (t8 _)
 show a.heap b o (λz=>?_) (x b o H (hk _ _ (c2 _ e)));rcases d6.mp z with z|z
 .show H z
 .rw[hQ.mp z]at e;have:=eh e;rw[K5]at p;show absurd (i0 this (t6 (Lo _) p)) (t8 _)
end
section
def Inv.drawn(I:Inv X a σ H s)(d:Drawn):Inv X a σ H {s with drawn:=d}:=⟨I.ok,I.os,I.bare,I.base,I.loc,I.cell,I.free,I.Jr,I.pin,I.IS,I.len⟩
def oO(l:X.calm=b6)(I:Inv X c σ H s)(hq:Jw X.K H p (d.map V.str)\/JI X.K H p (d.map V.str))(i:d.length+1<x3)
  (h:∀(S:d8) (h':Jv) (a:Nat),aQ X.prog X.w h' S (aE X.w) (aD d)->Inv X c σ H {s with heap:=h',toks:=a}->Q (.ref S) {s with heap:=h',toks:=a}) :
  d3 (et X.prog X.w) X.A (NW (.type "set") [.ref p]) Q X.xe s:=by
 have j:X.A.handled=b8:=I.ok.hd l;rcases hq with hq|hq
 .have⟨m,rv,f,hz⟩:=I.list hq;show fR j f.isList (cF rv) i λh' a g k=>h _ h' a g (I.kept λb o e=>k b o (eh e) e)
 .have⟨m,rv,f,hz⟩:=I.tuple hq;show gS j f (cF rv) i λh' a g k=>h _ h' a g (I.kept λb o e=>k b o (eh e) e)
def gU(i:X.calm=b6)(I:Inv X a σ H s)(j:aQ X.prog X.w s.heap S (aE X.w) D)(d:D.length<64)
  (q:∀p,H p=b8->Q (.ref p) (upd H p (.lst ((aP D).map V.str)))):d3 (et X.prog X.w) X.A (NW (.builtin "sorted") [.ref S]) (EP X a σ Q) X.xe s:=by
 have k:X.A.handled=b8:=I.ok.hd i;have hl:D.length<=cL:=Qc (i0 d (by decide));show fj (qf (A:=X.A.in1) (by simpa using k) j hl λvs l h' d' b f g hsz r hk=>⟨l,g,by rw[iG g,f.length_eq];show d,λt m e k2 c s2=>?_⟩);rw[fQ f]at s2;have n:Inv X a σ H {s with heap:=h',toks:=b}:=I.kept (t':=b) hk;have h:Inv X a σ H {s with heap:=h',drawn:=d',toks:=b}:=n.drawn d';show⟨.ref h'.objs.size,_,h.laid (t':=b) (o:=.lst ((aP D).map V.str)) k2 (hU _) ⟨by rw[c4,cn];show hl,m,e,dH s2,c⟩,rfl,q _ (h.IS.fresh (hU _))⟩
def rW(I:Inv X a σ H s)(c:aQ X.prog X.w s.heap S (aE X.w) D)
  (q:Q (.int D.length) H):d3 (et X.prog X.w) X.A (NW (.builtin "len") [.ref S]) (EP X a σ Q) X.xe s:=by
 have⟨L,es,ep,t,ho,d,g,j,h,i,k,l⟩:=c;have b:es.size=D.length:=by rw[<-gj,d,c4,<-c4 (f:=å) (as:=L),g.length_eq]
 have m:es.size<4096:=i;show call_len_set ho ⟨rfl,rfl,rfl⟩ rfl h ⋯ ?_;show⟨.int es.size,_,I.kept (t':=s.toks+1+1) (λ_ _ e=>e),⟨_,rfl⟩,by rw[b];show q⟩
end
end L2
namespace L2
open PySem
abbrev dQ(mask:Nat):Nat->Nat×Nat->Nat×Nat
 |0,q=>q
 |t+1,q=>dQ mask t (Z6 mask q.1 q.2)
theorem mV(mask:Nat):∀(a b:Nat) (q:Nat×Nat),dQ mask (a+b) q=dQ mask b (dQ mask a q)
 |0,b,q=>by rw[Qa];rfl
 |a+1,b,q=>by rw[show a+1+b=(a+b)+1 by lia];show mV mask a b _
theorem mW(mask:Nat):∀(t:Nat) (q:Nat×Nat),(dQ mask t q).2=q.2 / 32 ^ t
 |0,q=>by simp[dQ]
 |t+1,q=>by
  change(dQ mask t (Z6 mask q.1 q.2)).2=_;rw[mW mask t];change q.2 / 32 / 32 ^ t=_;rw[Nat.div_div_eq_div_mul,Ě,Nat.mul_comm]
theorem qg(mask:Nat):∀(t:Nat) (q:Nat×Nat),q.1<mask+1->(dQ mask t q).1<mask+1
 |0,q,h=>h
 |t+1,q,h=>qg mask t _ (Xq _ (Y4 _))
abbrev Mx(m:Nat):Nat->Nat->Nat
 |0,i=>i
 |t+1,i=>Mx m t ((i * 5+1) % m)
theorem mX(mask:Nat):∀(t i:Nat),dQ mask t (i,0)=(Mx (mask+1) t i,0)
 |0,i=>rfl
 |t+1,i=>by
  change dQ mask t ((i * 5+1+0 / 32) % (mask+1),0 / 32)=(Mx (mask+1) t ((i * 5+1) % (mask+1)),0)
  rw[Nat.zero_div,Ĝ];show mX mask t _
theorem kg(m:Nat):∀(a b i:Nat),Mx m (a+b) i=Mx m b (Mx m a i)
 |0,b,i=>by rw[Qa];rfl
 |a+1,b,i=>by rw[show a+1+b=(a+b)+1 by lia];show kg m a b _
abbrev vZ(m:Nat):Nat->Nat->List Nat
 |0,_=>[]
 |t+1,i=>i::vZ m t ((i * 5+1) % m)
theorem ui(m:Nat):∀(n i t:Nat),t<n->(vZ m n i)[t]?=a5 (Mx m t i)
 |0,_,_,h=>by lia
 |n+1,i,0,_=>rfl
 |n+1,i,t+1,h=>by
  change(vZ m n ((i * 5+1) % m))[t]?=_;show ui m n _ t ⋯
theorem qh(m:Nat):∀(n i:Nat),(vZ m n i).length=n
 |0,_=>rfl
 |n+1,i=>by change(vZ m n _).length+1=_;rw[qh m n]
abbrev Full(m:Nat):Bool:=(gs m).all (λj=>(vZ m m 0).contains j)&&(Mx m m 0==0)
def CK:Full 8=b6:=by decide +kernel
def xR:Full 16=b6:=by decide +kernel
def xS:Full 32=b6:=by decide +kernel
def xT:Full 64=b6:=by decide +kernel
def uj:Full 128=b6:=by decide +kernel
def v3(h:Full m=b6)(l:i<m)(n:j<m):∃t,t<m/\Mx m t i=j:=by
 unfold Full at h;rw[cb,i9]at h;have⟨o,d⟩:=h;have d:Mx m m 0=0:=by simpa using d
 have get:∀k,k<m->∃a,a<m/\Mx m a 0=k:=λk hk=>by
  have:=o k (u5.mpr hk);rw[List.contains_iff_mem]at this;have⟨a,c⟩:=SW.mp this;have e:a<m:=by have:=(dt.mp c).1;rw[qh]at this;show this
  rw[ui m m 0 a e]at c;show⟨a,e,by simpa using c⟩
 have⟨a,c,f⟩:=get i l;have⟨b,p,g⟩:=get j n;by_cases q:a<=b
 .show⟨b - a,⋯,by rw[<-f,<-kg,show a+(b - a)=b by lia,g]⟩
 .show⟨m - a+b,⋯,?_⟩;rw[<-f,<-kg,show a+(m - a+b)=m+b by lia,kg,d,g]
theorem mY:∀(f i p:Nat),uk mask owner f i p=b8->∀t,t<f->(owner.getD (dQ mask t (i,p)).1 (a5 0)).isNone=cc
 |0,_,_,_,t,h=>by lia
 |f+1,i,p,h,t,b=>by
  unfold uk at h;cases a:(gs (Vd mask i+1 - i)).find? (λk=>(owner.getD (i+k) (a5 0)).isNone) with
  |some k=>rw[a]at h;cases h
  |none =>
   rw[a]at h;cases t with
   |zero =>
    have:=List.find?_eq_none.mp a 0 (u5.mpr (by unfold Vd;split<;>lia));rw[Ĝ]at this;change(owner.getD i (a5 0)).isNone=cc;cases e:(owner.getD i (a5 0)).isNone with
    |false=>rfl
    |true=>show absurd e this
   |succ t=>show mY f _ _ h t ⋯
theorem mZ:∀(f i p j:Nat),uk mask owner f i p=a5 j->owner[j]?=a5 b8
 |0,_,_,_,h=>by cases h
 |f+1,i,p,j,h=>by
  unfold uk at h;cases b:(gs (Vd mask i+1 - i)).find? (λk=>(owner.getD (i+k) (a5 0)).isNone) with
  |some k =>
   rw[b]at h;cases h;have a:=List.find?_some b;have c:i+k<owner.size:=by
    show NU λz=>?_;have:owner.getD (i+k) (a5 0)=a5 0:=by simp[Uz,z]
    rw[this]at a;cases a
   have d:owner.getD (i+k) (a5 0)=owner[i+k]:=by simp[Uz,c]
   rw[d]at a;rw[OE c];cases e:owner[i+k] with
   |none=>rfl
   |some _=>rw[e]at a;cases a
  |none =>
   rw[b]at h;show mZ f _ _ j h
def AW(c:Full (mask+1)=b6){j0:Nat}(a:owner[j0]?=a5 b8)(hsz:owner.size=mask+1)(d:i<mask+1)(f:p<2 ^ 64):∃j,uk mask owner (QJ mask) i p=a5 j/\owner[j]?=a5 b8:=by
 cases e:uk mask owner (QJ mask) i p with
 |some j=>show⟨j,rfl,mZ _ _ _ _ e⟩
 |none =>
  have g:j0<mask+1:=by rw[<-hsz];show(Array.getElem?_eq_some_iff.mp a).1
  have h:(dQ mask 13 (i,p)).2=0:=by
   rw[mW];show Nat.div_eq_of_lt (Vo f (by decide))
  have⟨t,n,k⟩:=v3 c (qg mask 13 (i,p) d) g;have l:dQ mask (13+t) (i,p)=(j0,0):=by
   rw[mV,show dQ mask 13 (i,p)=((dQ mask 13 (i,p)).1,0) from æ rfl h,mX,k]
  have:=mY _ _ _ e (13+t) (by unfold QJ;lia);rw[l]at this;have m:owner.getD j0 (a5 0)=b8:=by
   have b:j0<owner.size:=by lia
   rw[OE b]at a;simp[Uz,b];show ts a
  rw[m]at this;cases this
abbrev vals(L:List (Option Nat)):List Nat:=L.filterMap id
theorem qi:∀{L:List (Option Nat)}{j:Nat},L[j]?=a5 b8->(vals (L.set j (a5 k))).Perm (k::vals L)
 |[],j,h=>by simp at h
 |x::L,0,h=>by
  have:x=b8:=by simpa using h
  subst this;show Lq _
 |x::L,j+1,h=>by
  have a:=qi (k:=k) (L:=L) (j:=j) (by simpa using h);cases x with
  |none=>show a
  |some y =>
   change(y::vals (L.set j (a5 k))).Perm (k::y::vals L);show(Zu y a).trans (Zs k y _)
theorem m6:∀{L:List (Option Nat)},(vals L).length<L.length->∃j:Nat,L[j]?=a5 b8
 |[],h=>by simp at h
 |none::L,_=>⟨0,rfl⟩
 |some y::L,h=>by
  have⟨j,a⟩:=m6 (L:=L) (by
   have:(vals L).length+1<L.length+1:=h;lia)
  show⟨j+1,by simpa using a⟩
theorem xU(d:Full (mask+1)=b6):∀(hs:List Int) (owner:Array (Option Nat)) (k:Nat),owner.size=mask+1->(vals owner.toList).Perm (gs k)->k+hs.length<=mask ->
  ∃c,hs.foldl (λacc h=>do
   let (owner,k) <-acc
   let j <-uk mask owner (QJ mask) (N' h % (mask+1)) (N' h)
   pure (owner.setIfInBounds j (a5 k),k+1)) (a5 (owner,k))=a5 (c,k+hs.length)/\c.size=mask+1/\(vals c.toList).Perm (gs (k+hs.length))
 |[],owner,k,a,b,_=>⟨owner,rfl,a,b⟩
 |h::hs,owner,k,a,b,f=>by
  rw[ke]at f;have⟨j0,g⟩:=m6 (L:=owner.toList) (by rw[b.length_eq,C0,gj];lia);have⟨j,e,l⟩:=AW d (owner:=owner) (j0:=j0) (by rw[<-ri];show g) a (i:=N' h % (mask+1)) (p:=N' h) (Xq _ (Y4 _)) (by unfold N';lia);have m:owner.toList[j]?=a5 b8:=by rw[ri];show l
  have n:(vals (owner.setIfInBounds j (a5 k)).toList).Perm (gs (k+1)):=by
   rw[Array.toList_setIfInBounds,Þ];show(qi m).trans ((Zu k b).trans (List.perm_append_singleton k _).symm)
  have⟨o',o,q,r⟩:=xU d hs (owner.setIfInBounds j (a5 k)) (k+1) (by rw[Array.size_setIfInBounds];show a) n ⋯;show⟨o',?_,q,by rw[show k+(h::hs).length=k+1+hs.length by simp;lia];show r⟩;rw[SD,show k+(h::hs).length=k+1+hs.length by simp;lia,<-o];congr 1
  change(uk mask owner (QJ mask) (N' h % (mask+1)) (N' h)).bind _=_;rw[e];rfl
def rX(L:List (Option Nat)):(gs L.length).filterMap (λj=>L.getD j b8)=vals L:=by
 have h:(gs L.length).map (λj=>L.getD j b8)=L:=by
  apply LR
  .simp
  .intro i b a;simp[Oz,a]
 have a:vals ((gs L.length).map (λj=>L.getD j b8))=vals L:=Ł vals h;unfold vals at a;rw[List.filterMap_map]at a;show a
def um{led plain:Bool}(e:Full (mask+1)=b6)(f:hs.size<=mask):∃t a,S9 mask finger moves led plain hs=a5 (t,a)/\t.fits hs.size=b6/\t.led=led/\t.plain=plain/\t.mask=mask/\t.dummies=#[]/\a.toList.Perm (gs hs.size):=by
 have⟨owner,c,g,b⟩:=xU e hs.toList (Array.replicate (mask+1) b8) 0 (by simp) (by
  have:∀n:Nat,vals (i2 n b8)=[]:=λn=>by
   induction n with
   |zero=>rfl
   |succ n h=>rw[List.replicate_succ];show h
  rw[Array.toList_replicate,this];show Lq _) (by rw[gj];lia)
 rw[Qa,gj]at c b;have i:Rm mask hs=a5 owner:=by
  unfold Rm;rw[<-Array.foldl_toList];rw[c];rfl
 have k:((gs (mask+1)).filterMap λj=>owner.getD j b8)=vals owner.toList:=by
  rw[<-rX,gj,g];congr 1
  funext j
  simp only[Array.getD_eq_getD_getElem?,W8,ri]
 have d:(((gs (mask+1)).filterMap λj=>(owner.getD j b8).map (j,·)).map (·.2))=vals owner.toList:=by
  rw[<-k,List.map_filterMap];congr 1
  funext j
  cases owner.getD j b8<;>rfl
 have hl:((gs (mask+1)).filterMap λj=>(owner.getD j b8).map (j,·)).length=hs.size:=by
  have:=Ł wh d;rw[c4,b.length_eq,C0]at this;show this
 show⟨_,_,by unfold S9;rw[i];rfl,?_,rfl,rfl,rfl,rfl,?_⟩
 .unfold RA VB;simp only[fx,c4,hl];simp;show f
 .change(((gs (mask+1)).filterMap λj=>(owner.getD j b8).map (j,·)).map (·.2)).Perm _;rw[d];show b
end L2
namespace L2
open PySem PySem.Spec PyProof.Rows
abbrev DY(P:u3)(w:ve)(p:Str×Tok):Int×dV:=((sK P w).hash p.1,t5 p.1 p.2)
section
def aQ.perm(b:aQ prog w h a led D)(p:D.Perm c):aQ prog w h a led c :=
 let ⟨L,es,ep,t,d,e,f,g,i⟩:=b;⟨L,es,ep,t,d,e,f.trans p,p.nodup_iff.mp g,i⟩
def aQ.at(b:aQ prog w h a led D)(k:∀o,h.get? a=a5 o->h'.get? a=a5 o):aQ prog w h' a led D :=
 let ⟨L,es,ep,t,c,d⟩:=b;⟨L,es,ep,t,k _ c,d⟩
def aQ.sz{h:Jv}{a:d8}{led:Bool}{D:List Str}{L:List (Str×Tok)}{es:Array (Int×dV)}(b:es.toList=L.map (λp=>((sK prog w).hash p.1,t5 p.1 p.2)))(c:(L.map (·.1)).Perm D):es.size=D.length:=by
 rw[<-gj,b,c4,<-c.length_eq,c4]
def aQ.of(g:aQ prog w h a led D):h.SetOf (sK prog w) a (λx=>cK (x∈D)) D.length:=by
 have⟨L,es,ep,t,ho,b,d,l,i,j,m,n⟩:=g;show⟨_,es,ep,t,ho,⟨rfl,rfl,rfl⟩,rfl,by rw[b];show kP,λx=>?_,j,i,aQ.sz (h:=h) (a:=a) (led:=led) b d⟩;rw[Ļ,b,<-d.mem_iff,i6];constructor
 .rintro⟨p,c,e⟩;show⟨_,i6.mpr ⟨p,c,rfl⟩,by rw[gR];simp[e]⟩
 .rintro⟨e,k,f⟩;have⟨p,c,rfl⟩:=i6.mp k;rw[gR,Ļ]at f;show⟨p,c,f.symm⟩
def qj(b:aQ prog w s.heap a led D)(h:∀r:Option Nat,r.isSome=cK (x∈D)->Q r s):
  d3 (et prog w) A (setFind a (.str x c) ((sK prog w).hash x)) Q E s :=
 wpAny_setFind_of (knd:=sK prog w) (by rw[gR];simp) rfl b.of h
def eU{L':List (Str×Tok)}(ho:s.heap.get? a=a5 {cls:=.type "set",dict:=b8,data:=.set es ep t})(f:b.toList=L'.map (λp=>((sK prog w).hash p.1,t5 p.1 p.2)))(g:(L'.map (·.1)).Perm c)(i:c.Nodup)
  (j:t'.fits b.size=b6) (d:b.size<x3) (hl:t'.led=led) (k:b.size=0\/t'.plain=cc) (h:∀h',nC a s.heap h'->h'.get? a=a5 {cls:=.type "set",dict:=b8,data:=.set b (ep+1) t' }->aQ prog w h' a led c->Q () {s with heap:=h' }) :
  d3 (et prog w) A (storeSet a b t') Q E s:=by
 show V1 ho rfl ?_ (Ws d);have e:(s.heap.update a (Py b t')).get? a=a5 {cls:=.type "set",dict:=b8,data:=.set b (ep+1) t' }:=t4 (Py b t') ho rfl;show h _ (vl s.heap a (Py b t')) e ⟨L',b,ep+1,t',e,f,g,i,j,d,hl,k⟩
def fm(xs:Array α)(i:Nat):(P0 xs i).toList=xs.toList.eraseIdx i:=by
 unfold P0;rw[Array.toList_append,Y7,Y7,List.eraseIdx_eq_take_drop_succ];simp[List.extract];rw[Mo (by simp)]
def v5{t:OM}(h:t.fits n=b6)(e:i<n):(t.drop i).fits (n - 1)=b6:=by
 simp only[RA,cb,beq_iff_eq,Ļ]at h;have⟨f,b⟩:=h;have a:i<t.place.size:=by lia
 have c:(P0 t.place i).size=t.place.size - 1:=by
  rw[<-gj,fm,Zi,ļ (by simpa using a),gj]
 have d:∀p x,(SetTable.insertAt t.dummies p x).size=t.dummies.size+1:=λp x=>by
  have:=(SetTable.insertAt_perm t.dummies p x).length_eq;rw[gj,gj,Array.size_push]at this;show this
 unfold Z7;rw[OE a];simp only[RA,VB,cb,beq_iff_eq,Ļ,c,d]at b ⊢;constructor<;>lia
def xV(t:OM)(i:Nat):(t.drop i).led=t.led/\(t.drop i).plain=t.plain:=by
 unfold Z7;split<;>show⟨rfl,rfl⟩
theorem erase_filter:∀{l:List Str}{j:Nat}{x:Str},l.Nodup->l[j]?=a5 x->l.eraseIdx j=l.filter λy=>cK (y≠x)
 |[],j,x,_,h=>by simp at h
 |y::l,0,x,a,h=>by
  have⟨b,c⟩:=mh.mp a;have:y=x:=by simpa using h
  subst this;rw[List.eraseIdx_cons_zero,PK (by simp)];show(OJ.mpr λz hz=>by
   have:z≠y:=λe=>b (e▸hz);simpa using this).symm
 |y::l,j+1,x,a,h=>by
  have⟨b,c⟩:=mh.mp a;have d:l[j]?=a5 x:=by simpa using h
  have:y≠x:=λe=>b (e▸mN d);rw[Sr,erase_filter c d,PJ (by simpa using this)]
theorem fS(f:α->β):∀(l:List α) (j:Nat),(l.map f).eraseIdx j=(l.eraseIdx j).map f
 |[],_=>rfl
 |x::l,0=>rfl
 |x::l,j+1=>by
  change f x::(l.map f).eraseIdx j=f x::(l.eraseIdx j).map f;rw[fS f l j]
def ql{a:d8}{led:Bool}{D:List Str}{x:Str}{k:Tok}{Q:Bool->d5->Prop}(l:aQ prog w s.heap a led D)(h:∀b h',nC a s.heap h'->aQ prog w h' a led (D.filter λy=>cK (y≠x))->Q b {s with heap:=h' }):
  d3 (et prog w) A (Ē a (.str x k) ((sK prog w).hash x)) Q E s:=by
 have u:=l;have⟨L,es,ep,t,ho,c,d,m,f,v,B,C⟩:=l;have G:(sK prog w).is x (.str x k)=b6:=by rw[gR];simp
 have n:ElemsOf (sK prog w) es.toList:=by rw[c];show kP
 have hsz:=aQ.sz (h:=s.heap) (a:=a) (led:=led) c d;unfold Ē setFind setFindIn;show bD (bD (lg ho rfl f ?_))
 dsimp only
 rw[byScan_of (knd:=sK prog w) rfl v n];simp only[↓reduceIte];show bD (OK ?_);show bD (Č (knd:=sK prog w) G ho rfl f n ?_);cases o:XT (λe=>(sK prog w).is x e.2) es.toList with
 |none =>
  dsimp only
  show df (df ?_);have g:x∉D:=λg=>by
   rw[<-d.mem_iff,i6]at g;have⟨p,H,e⟩:=g;have I:((sK prog w).hash p.1,t5 p.1 p.2)∈es.toList:=by rw[c];show i6.mpr ⟨p,H,rfl⟩
   have:=Xr.mp o _ I;rw[gR,decide_eq_false_iff_not]at this;show this e.symm
  have e:D.filter (λy=>cK (y≠x))=D:=OJ.mpr λz hz=>by
   have:z≠x:=λe=>g (e▸hz);simpa using this
  have J:s={s with heap:=s.heap}:=by cases s;rfl
  rw[J];show h cc s.heap (Jt a s.heap) (by rw[e];show u)
 |some j =>
  dsimp only
  obtain⟨i,q,_⟩:=U1.mp o;rw[Qa];show df ?_
  dsimp only
  show bD (lg ho rfl f ?_)
  dsimp only
  have N:j<L.length:=by rw[c,c4]at i;show i
  have O:j<es.size:=by simpa using i
  have T:L[j].1=x:=by
   have e:es.toList[j]=((sK prog w).hash L[j].1,t5 L[j].1 L[j].2):=by simp[c]
   rw[e,gR,Ļ]at q;show q.symm
  have Y:(L.map (·.1)).Nodup:=d.nodup_iff.mpr m;have Xt:(L.eraseIdx j).map (·.1)=(L.map (·.1)).filter λy=>cK (y≠x):=by
   rw[<-erase_filter Y (j:=j) (by simp[N,T]),fS]
  have Ta:(P0 es j).toList=(L.eraseIdx j).map (λp=>((sK prog w).hash p.1,t5 p.1 p.2)):=by
   rw[fm,c,fS]
  have r:(P0 es j).size=es.size - 1:=by rw[<-gj,fm,Zi,ļ i,gj]
  have⟨d1,d2⟩:=xV t j;show bD (eU (t':=t.drop j) (led:=led) ho Ta (by rw[Xt];show d.filter _) (X3 OI m) (by rw[r];show v5 f O) (by rw[r];lia) (d1.trans B) (.inr (d2.trans (C.resolve_left ⋯))) λh' sb hg Km=>?_);show bD (wpAny_point ?_);show df (h b6 h' sb Km)
end
def AX:Full 256=b6:=by decide +kernel
section
def iH{es:Array (Int×dV)}{a:Array Nat}(h:a.toList.Perm (gs es.size)):(a.filterMap (es[·]?)).toList.Perm es.toList:=by
 rw[Array.toList_filterMap];show(h.filterMap _).trans (by rw[filterMap_getElem?_range])
def m7{L:List (Str×Tok)}(ho:s.heap.get? a=a5 {cls:=.type "set",dict:=b8,data:=.set es ep t})(n:es.toList=L.map (λp=>((sK prog w).hash p.1,t5 p.1 p.2)))(o:(L.map (·.1)).Perm D)(q:D.Nodup)
  (r:t.fits es.size=b6) (u:es.size<x3) (i:t.led=led) (v:es.size=0\/t.plain=cc) (j:Kb c=m+1) (x:Full (m+1)=b6) (y:es.size<=m) (Y:m<1000)
  (h:∀h' (d:Array (Int×dV)) (t':OM) (z:Nat),nC a s.heap h'->h'.get? a=a5 {cls:=.type "set",dict:=b8,data:=.set d z t' }->aQ prog w h' a led D->t'.fits d.size=b6->t'.mask=m->t'.dummies=#[]->t'.led=led->d.size=es.size->Q () {s with heap:=h' }) :
  d3 (et prog w) A (setRelay a c) Q E s:=by
 have B:(2000:Nat)<=cL:=by decide
 have⟨t',b,C,f,k,G,H,I,l⟩:=um (mask:=m) (finger:=t.finger) (moves:=t.movedTo m) (led:=t.led) (plain:=t.plain) (hs:=es.map (·.1)) x (by rw[Rt];show y);rw[Rt]at f l;have e:t.relaid (es.map (·.1)) c=a5 (t',b):=by
  unfold Vh;rw[j,Nat.add_sub_cancel];show C
 unfold setRelay;show bD (lg ho rfl r ?_)
 dsimp only
 rw[Ľ (by rw[j];lia)];show bD ?_;rw[e];change d3 (et prog w) A (if ((b.filterMap (es[·]?)).size != es.size)=b6 then((XH "internal:set-table-lost-an-element":Sem Unit) >>= λ_=>pure (b.filterMap (es[·]?),t')) else pure (b.filterMap (es[·]?),t')) _ E s;have g:=iH l;have hsz:(b.filterMap (es[·]?)).size=es.size:=by rw[<-gj,g.length_eq,gj]
 rw[Ľ (by rw[hsz];simp)];show df ?_;rw[n]at g;have⟨L',J,N⟩:=di g;show eU (led:=led) ho J ((N.map _).trans o) q (by rw[hsz];show f) (by rw[hsz];show u) (k.trans i) (by rw[hsz,G];show v) λh' O T hs=>h h' _ t' _ O T hs (by rw[hsz];show f) H I (k.trans i) hsz
def xW(b:5<=n)(a:n<64):∃m,Kb (2 * n)=m+1/\Full (m+1)=b6/\n<=m/\m<1000:=by
 have:∀n:_root_.Fin 64,Kb (2 * n.val)=(if n.val<4 then 8 else if n.val<8 then 16 else if n.val<16 then 32 else if n.val<32 then 64 else 128):=by decide +kernel
 have e:=this ⟨n,a⟩
 dsimp only at e
 rw[e,Ľ ⋯];split
 .show⟨15,rfl,xR,⋯,⋯⟩
 .split
  .show⟨31,rfl,xS,⋯,⋯⟩
  .split
   .show⟨63,rfl,xT,⋯,⋯⟩
   .show⟨127,rfl,uj,⋯,⋯⟩
def v7(a:n<64):∃m,Kb (Nk n)=m+1/\Full (m+1)=b6/\n<=m/\m<1000:=by
 have:∀n:_root_.Fin 64,Kb (Nk n.val)=(if n.val<2 then 8 else if n.val<4 then 16 else if n.val<8 then 32 else if n.val<16 then 64 else if n.val<32 then 128 else 256):=by decide +kernel
 have e:=this ⟨n,a⟩
 dsimp only at e
 rw[e];split
 .show⟨7,rfl,CK,⋯,⋯⟩
 .split
  .show⟨15,rfl,xR,⋯,⋯⟩
  .split
   .show⟨31,rfl,xS,⋯,⋯⟩
   .split
    .show⟨63,rfl,xT,⋯,⋯⟩
    .split
     .show⟨127,rfl,uj,⋯,⋯⟩
     .show⟨255,rfl,AX,⋯,⋯⟩
def xX{a:d8}{led:Bool}{D:List Str}{Q:Unit->d5->Prop}(b:aQ prog w s.heap a led D)(p:D.length<64)(h:∀h',nC a s.heap h'->aQ prog w h' a led D->Q () {s with heap:=h' }):
  d3 (et prog w) A (setTidy a) Q E s:=by
 have f:=b;have⟨L,es,ep,t,ho,c,d,g,e,i,j,k⟩:=b;have hsz:=aQ.sz (h:=s.heap) (a:=a) (led:=led) c d;unfold setTidy;show bD (lg ho rfl e ?_)
 dsimp only
 split
 .have⟨m,m1,m2,m3,m4⟩:=v7 (n:=es.size) ⋯;show m7 ho c d g e i j k m1 m2 m3 m4 λh' _ _ _ l _ hs _ _ _ _ _=>h h' l hs
 .have o:s={s with heap:=s.heap}:=by cases s;rfl
  show df ?_;rw[o];show h s.heap (Jt a s.heap) f
def v8{a b:d8}{es:Array (Int×dV)}{D:List Str}{Q:Unit->d5->Prop}(x:a≠b)(ho:s.heap.get? a=a5 {cls:=.type "set",dict:=b8,data:=.set #[] 0 (.fresh 0 0 (aE w))})(y:aQ prog w s.heap b (aE w) D)(Lb:D.length<64)
  (h:∀h',nC a s.heap h'->aQ prog w h' a (aE w) D->Q () {s with heap:=h' }):d3 (et prog w) A (setMerge a b) Q E s:=by
 have O7:=y;have⟨L,f,Xv,g,B,n,o,C,G,H,Qb,Tb⟩:=y;have hsz:=aQ.sz (h:=s.heap) (a:=b) (led:=aE w) n o;have p:(ZG 0 0 (aE w)).fits (#[]:Array (Int×dV)).size=b6:=rfl;unfold setMerge;rw[Ľ (by simpa using x)];show bD (lg B rfl G ?_)
 dsimp only
 split
 .rename_i Tc;have hD:D=[]:=by
   have:f.size=0:=by simpa using Tc
   show List.eq_nil_of_length_eq_zero ⋯
  subst hD;have q:s={s with heap:=s.heap}:=by cases s;rfl
  show df ?_;rw[q];show h s.heap (Jt a s.heap) (hZ ho)
 .rename_i JS;have Td:f.size≠0:=λz=>JS (by simpa using z);show bD ?_;unfold setRoomFor;show bD (lg ho rfl p ?_)
  dsimp only
  show my (Q:=λ_ s1=>∃(i:Jv) (c:OM) (I:Nat) (l:Array (Int×dV)),s1={s with heap:=i}/\l.size=0/\nC a s.heap i/\i.get? a=a5 {cls:=.type "set",dict:=b8,data:=.set l I c}/\c.fits l.size=b6/\Full (c.mask+1)=b6/\f.size<=c.mask/\c.dummies=#[]/\c.led=aE w) ?_ (λ_ s1 ⟨i,c,I,l,e,z,j,k,J,hF,r,Te,hl⟩=>?_) λ_ _ e=>e
  .unfold SetTable.roomFor;by_cases h5:5<=f.size
   .rw[ļ (by change(0+f.size) * 5 >= 7 * 3;lia)]
    dsimp only
    have⟨m,m1,m2,m3,m4⟩:=xW h5 ⋯;have ew:((ZG 0 0 (aE w)).place.size+f.size) * 2=2 * f.size:=by change(0+f.size) * 2=_;lia
    rw[ew];show m7 (L:=[]) (D:=[]) (led:=aE w) ho rfl (Lq _) .nil p (by decide) rfl (.inl rfl) m1 m2 (by change 0<=m;lia) m4 λh' IM t' M1 j k _ SN N hd hl hz=>⟨h',t',M1,IM,rfl,hz,j,k,SN,by rw[N];show m2,by rw[N];show m3,hd,hl⟩
   .rw[Ľ (by change ¬(0+f.size) * 5 >= 7 * 3;lia)]
    dsimp only
    have q:s={s with heap:=s.heap}:=by cases s;rfl
    show df ⟨s.heap,_,0,#[],q,rfl,Jt a s.heap,ho,p,CK,by change f.size<=7;lia,rfl,rfl⟩
  .subst e;show bD (lg k rfl J ?_)
   dsimp only
   have Tf:c.place.size=0:=by
    simp only[RA,cb,beq_iff_eq]at J;lia
   have Qd:c.road g=if c.mask==g.mask&&g.dummies.isEmpty then .slotForSlot else .clean:=by
    unfold SetTable.road VB;rw[Tf,Te];rfl
   have Xw:i.get? b=a5 {cls:=.type "set",dict:=b8,data:=.set f Xv g}:=(j.2 b (nH x)).trans B;have O:(c.plain&&g.plain)=cc:=by rw[Tb.resolve_left Td,Ts]
   have T:(c.led&&g.led)=aE w:=by rw[hl,Qb,ø]
   rw[Qd];by_cases Y:(c.mask==g.mask&&g.dummies.isEmpty)=b6
   .rw[ļ Y]
    dsimp only
    show eU (s:={s with heap:=i}) (led:=aE w) (L':=L) (t':={g with finger:=c.finger,led:=c.led&&g.led,moves:=c.moves,plain:=c.plain&&g.plain}) k n o C G H T (.inr O) λh' t _ hs=>h h' (j.trans t) hs
   .rw[Ľ Y]
    dsimp only
    have⟨t',d,q1,q2,q3,q4,q5,q6,q7⟩:=um (mask:=c.mask) (finger:=c.finger) (moves:=c.moves) (led:=c.led&&g.led) (plain:=c.plain&&g.plain) (hs:=f.map (·.1)) hF (by rw[Rt];show r);rw[Rt]at q2 q7;show bD ?_;rw[q1];change d3 (et prog w) A (if ((d.filterMap (f[·]?)).size != f.size)=b6 then((XH "internal:set-table-lost-an-element":Sem Unit) >>= λ_=>pure (d.filterMap (f[·]?),t')) else pure (d.filterMap (f[·]?),t')) _ E _;have u:=iH q7;have v:(d.filterMap (f[·]?)).size=f.size:=by rw[<-gj,u.length_eq,gj]
    rw[Ľ (by rw[v];simp)];show df ?_;rw[n]at u;have⟨L',e',p'⟩:=di u;show eU (s:={s with heap:=i}) (led:=aE w) k e' ((p'.map _).trans o) C (by rw[v];show q2) (by rw[v];show H) (q3.trans T) (.inr (q4.trans O)) λh' t _ hs=>h h' (j.trans t) hs
end
section
theorem ib:∀{l:List α},(∀x∈l,∀Q':ForInStep β->d5->Prop,Q' (.yield b) s->d3 M A (body x b) Q' E s)->Q b s->d3 M A (ċ l b body) Q E s
 |[],_,h=>by rw[ç];show df h
 |x::l,a,h=>by
  rw[VI];show bD (a x (by simp) _ (ib (λy c=>a y (by simp[c])) h))
def v9(hs:∀b∈sets,∃led D,aQ prog w s.heap b led D)(h:Q b6 s):d3 (et prog w) A (setsQuiet sets) Q E s:=by
 unfold setsQuiet;show bD (ib (λb c Q' d=>?_) (df h));have⟨led,D,L,es,ep,t,f,g,k,l,i,m,n,o⟩:=hs b c;show bD (RT f rfl i ?_);rw[<-UA];show bD (ib (λe a q j=>?_) (df d));rw[g]at a;obtain⟨p,_,rfl⟩:=i6.mp a;show df j
def qm(l:aQ prog w s.heap a (aE w) D)(ho:∀b∈others,∃led B,aQ prog w s.heap b led B)(m:∀r,f=a5 r->aQ prog w s.heap r (aE w) [])
  (h:∀(es:Array (Int×dV)) (L:List (Str×Tok)) (h':Jv),es.toList=L.map (DY prog w)->(L.map (·.1)).Perm D->(f=b8->h'=s.heap)->(∀r,f=a5 r->nC r s.heap h'/\aQ prog w h' r (aE w) [])->Q es {s with heap:=h' }) :
  d3 (et prog w) A (setWalkUnseen a others f) Q E s:=by
 have C:=l;have⟨L,es,ep,t,j,n,o,Jj,k,hb,G,H⟩:=l;have I:s={s with heap:=s.heap}:=by cases s;rfl
 have c:∀(d:Array (Int×dV)),d.toList.Perm es.toList->Q d s:=λd p=>by
  rw[n]at p;have⟨L',J,N⟩:=di p;rw[I];show h d L' s.heap J ((N.map _).trans o) (λ_=>rfl) λr e=>⟨Jt r s.heap,m r e⟩
 unfold setWalkUnseen;show bD (lg j rfl k ?_)
 dsimp only
 show bD (cG ?_);cases g:w.params.followText "set-order" with
 |true =>
  rw[ļ (by change(w.params.followText "set-order"||t.led&&t.plain||decide (es.size<=1))=b6;rw[g];rfl)];unfold setWalk;show bD (lg j rfl k ?_)
  dsimp only
  show bD (cG ?_);rw[ļ (by show g)];show bD (QR ?_);show df (c _ (dP _ _))
 |false =>
  by_cases q:es.size<=1
  .rw[ļ (by rw[Ŀ q];simp)];unfold setWalk;show bD (lg j rfl k ?_)
   dsimp only
   show bD (cG ?_);rw[Ľ (by change ¬w.params.followText "set-order"=b6;rw[g];simp)];change d3 _ _ (if (!t.plain&&cK (es.size>1))=b6 then _ else _) _ _ s;rw[Ľ (by rw[ľ (show ¬es.size>1 by lia)];simp)];change d3 _ _ ((if (!t.led&&cK (es.size>1))=b6 then _ else _) >>= _) _ _ s;rw[Ľ (by rw[ľ (show ¬es.size>1 by lia)];simp)];show bD (df (df (c es (Lq _))))
  .have O:t.plain=cc:=H.resolve_left ⋯;rw[Ľ (by change ¬(w.params.followText "set-order"||t.led&&t.plain||decide (es.size<=1))=b6;rw[g,O,ľ q];simp)];show bD (v9 (λb Kc=>by
    rcases d6.mp Kc with rfl|Kc
    .show⟨_,_,C⟩
    .show ho b Kc) ?_)
   rw[Ľ (by simp)];show bD (OK ?_);cases f with
   |none=>show df (c es (Lq _))
   |some r =>
    dsimp only
    have⟨Lr,T,ZD,i,u,v,x,Y,y,Xx,Qf,Xy⟩:=m r rfl;show bD (lg u rfl y ?_)
    dsimp only
    have Rg:T.size=0:=by
     have:=aQ.sz (h:=s.heap) (a:=r) (led:=aE w) v x;simpa using this
    split
    .show bD (eU (t':={i with led:=i.led&&t.led,plain:=i.plain&&t.plain}) (led:=aE w) u v x Y y Xx (by change(i.led&&t.led)=_;rw[Qf,G,ø]) (.inl Rg) λh' sb _ hs=>?_);show df (h es L h' n o (λz=>nomatch z) λr' e=>by cases e;show⟨sb,hs⟩)
    .show df (c es (Lq _))
end
section
variable{prog:u3}{w:ve}{A:M4}{E:dV->d5->Prop}{s:d5}
theorem jk(J:List (Str×Tok)->d5->Prop)(a:∀d p r s,d++p::r=L->J d s->∀Q':ForInStep PUnit->d5->Prop,(∀s',J (d++[p]) s'->Q' (.yield ⟨⟩) s')->d3 M A (body (DY prog w p) ⟨⟩) Q' E s)(b:∀s',J L s'->Q ⟨⟩ s'):
  ∀(r d:List (Str×Tok)) (s:d5),d++r=L->J d s->d3 M A (ċ (r.map (DY prog w)) ⟨⟩ body) Q E s
 |[],d,s,e,h=>by
  rw[r6]at e;subst e;rw[Kp,ç];show df (b s h)
 |p::r,d,s,e,h=>by
  rw[d7,VI];show bD (a d p r s e h _ λs' h'=>jk J a b r (d++[p]) s' (by rw[<-e];simp) h')
def aQ.ty(h:aQ prog w s.heap a led D):s.TypeIs (.ref a) "set":=let ⟨_,_,_,_,ho,_⟩:=h;⟨_,ho,rfl⟩
def gw(b:aQ prog w s.heap a led D)(h:Q b6 s):d3 (et prog w) A (JB (.ref a)) Q E s:=by
 unfold JB;show bD (OQ b.ty Wi ?_);show df h
def iI{a:d8}{led:Bool}{D:List Str}{Q:Nat->d5->Prop}(b:aQ prog w s.heap a led D)(h:Q D.length s):d3 (et prog w) A (Qi a) Q E s:=by
 obtain⟨L,es,ep,t,ho,c,d,f,e,_⟩:=b;unfold Qi;show bD (RT ho rfl e (df ?_));rw[aQ.sz (h:=s.heap) (a:=a) (led:=led) c d];show h
def qo(b:aQ prog w s.heap a led D)(h:Q (.type "set") s):d3 (et prog w) A (TX a) Q E s:=by
 unfold TX;show bD (OQ b.ty Wi ?_);show df h
def uo(h:Q (.ref s.heap.objs.size) {s with heap:=s.heap.push {cls:=.type "set",dict:=b8,data:=.set #[] 0 (.fresh 0 0 (aE w))}}):d3 (et prog w) A (newSet (.type "set")) Q E s:=by
 unfold newSet ì;show bD (bD (QR (df ?_)))
 dsimp only
 simp only[newObj];show bD (wpAny_alloc (df h))
def xY{a:d8}{D:List Str}{Q:dV->d5->Prop}(b:aQ prog w s.heap a (aE w) D)(c:D.length<64)(h:∀h',nC s.heap.objs.size (s.heap.push {cls:=.type "set",dict:=b8,data:=.set #[] 0 (.fresh 0 0 (aE w))}) h'->aQ prog w h' s.heap.objs.size (aE w) D->Q (.ref s.heap.objs.size) {s with heap:=h' }):
  d3 (et prog w) A (TV a) Q E s:=by
 unfold TV;show bD (qo b (bD (uo ?_)));show bD (df ?_);have d:s.heap.objs.size≠a:=λe=>by obtain⟨_,_,_,_,ho,_⟩:=b;show t8 _ (e▸eh ho)
 show bD (v8 (es:=#[]) (s:={s with heap:=s.heap.push {cls:=.type "set",dict:=b8,data:=.set #[] 0 (.fresh 0 0 (aE w))}}) d (ez _ rfl) (b.at λo e=>c2 _ e) c λh' f hs=>?_);show df (h h' f hs)
def kX{id:String}(ho:s.heap.get? a=a5 {cls:=.type "set",dict:=b8,data:=.set es ep t})(b:t.fits es.size=b6)(h:Q () s):d3 (et prog w) A (SE id a ep) Q E s:=by
 unfold SE;show bD (V2 ho rfl b ?_);rw[Ľ (by simp)];show df h
def xZ{id:String}(v:a≠b)(o:aQ prog w s.heap a (aE w) g)(j:aQ prog w s.heap b (aE w) q)(B:g.length<64)(i:q.length<=g.length)
  (h:∀h',nC a s.heap h'->aQ prog w h' a (aE w) (g.filter λx=>cK (x∉q))->Q () {s with heap:=h' }):d3 (et prog w) A (RY id a (.ref b)) Q E s:=by
 unfold RY;rw[Ľ (by simpa using nH v)];show bD (gw j ?_);rw[ļ rfl];show bD (df ?_);show bD (iI j (bD (iI o ?_)));rw[Ľ ⋯];have⟨L2,I,J,N,y,O,T,Y,z,U8,Vs,XA⟩:=_root_.id j;show bD (V2 y rfl z ?_);show bD (tA ?_);show bD (qm j (others:=[a]) (f:=b8) (λc C=>by rw[hQ.mp C];show⟨_,_,o⟩) (λr e=>nomatch e) λes L h0 D G t _=>?_);have t:=t rfl;subst t;rw[<-UA,D];show bD (jk (prog:=prog) (w:=w) (L:=L) (λd s'=>∃h',s'={s with heap:=h' }/\nC a s.heap h'/\aQ prog w h' a (aE w) (g.filter λx=>cK (x∉d.map (·.1)))) (λd p r s' ed ⟨h',u,k,l⟩ Q' H=>?_) (λs' ⟨h',u,k,l⟩=>?_) L [] _ rfl ⟨s.heap,by cases s;rfl,Jt a s.heap,by rw[OJ.mpr λx _=>by simp];show o⟩)
 .subst u;show bD (tA (ql (s:={s with heap:=h' }) l λb' i m n=>?_));show bD (kX (s:={s with heap:=i}) (((k.trans m).2 b (nH v)).trans y) z ?_);show df (H _ ⟨i,rfl,k.trans m,?_⟩);rw[ZU]at n;have e:(g.filter λx=>cK (x≠p.1)&&cK (x∉d.map (·.1)))=g.filter λx=>cK (x∉(d++[p]).map (·.1)):=by
   show R0 λx _=>?_;rw[H8];simp[not_or,and_comm]
  rw[<-e];show n
 .subst u;show df ?_;have e:(g.filter λx=>cK (x∉L.map (·.1)))=g.filter λx=>cK (x∉q):=by
   show R0 λx _=>?_;rw[H8];simp only[Ļ];rw[G.mem_iff]
  rw[e]at l;show xX (s:={s with heap:=h' }) l (Ä (nc _ _) B) λi m n=>h i (k.trans m) n
def x6{id:String}(Le:a≠b)(l:aQ prog w s.heap a (aE w) m)(j:aQ prog w s.heap b (aE w) g)(D:m.length<64)(k:g.length<64)
  (h:∀h',(∀c o,s.heap.get? c=a5 o->h'.get? c=a5 o)->aQ prog w h' s.heap.objs.size (aE w) (m.filter λx=>cK (x∉g))->Q (.ref s.heap.objs.size) {s with heap:=h' }):d3 (et prog w) A (OY id a (.ref b)) Q E s:=by
 have keep:∀h',nC s.heap.objs.size (s.heap.push {cls:=.type "set",dict:=b8,data:=.set #[] 0 (.fresh 0 0 (aE w))}) h'->∀c o,s.heap.get? c=a5 o->h'.get? c=a5 o:=λh' i c o e =>
  (i.2 c (hH (eh e))).trans (c2 _ e)
 have G:a<s.heap.objs.size:=by obtain⟨_,_,_,_,ho,_⟩:=l;show eh ho
 have v:b<s.heap.objs.size:=by obtain⟨_,_,_,_,ho,_⟩:=j;show eh ho
 unfold OY
 dsimp only
 show bD (gw j ?_);rw[Ľ (by simp)];show bD (df ?_);rw[Ľ (by simp),ļ rfl];show bD (iI j (bD (iI l ?_)));by_cases H:m.length / 4>g.length
 .rw[ļ H];show bD (OK ?_);show bD (xY l D λh' i hs=>?_);show bD (df ?_);show bD (tA (xZ (s:={s with heap:=h' }) (JC v) hs (j.at λo e=>keep h' i b o e) D ⋯ λk n t=>?_));show df (h k (keep k (i.trans n)) t)
 .rw[Ľ H];show bD (qo l (bD (uo ?_)));show bD (df ?_);have I:=l.at (h':=s.heap.push {cls:=.type "set",dict:=b8,data:=.set #[] 0 (.fresh 0 0 (aE w))}) λo e=>c2 _ e;have Vj:=j.at (h':=s.heap.push {cls:=.type "set",dict:=b8,data:=.set #[] 0 (.fresh 0 0 (aE w))}) λo e=>c2 _ e;have J:aQ prog w (s.heap.push {cls:=.type "set",dict:=b8,data:=.set #[] 0 (.fresh 0 0 (aE w))}) s.heap.objs.size (aE w) []:=hZ (ez _ rfl);have⟨La,ea,XB,ta,N,O9,ZH,Th,y,ZI,Vv,XC⟩:=_root_.id I;show bD (V2 N rfl y ?_);show bD (tA ?_);rw[ļ rfl];show bD (qm (s:={s with heap:=s.heap.push {cls:=.type "set",dict:=b8,data:=.set #[] 0 (.fresh 0 0 (aE w))}}) I (others:=[b,s.heap.objs.size]) (f:=a5 s.heap.objs.size) (λc hc=>by
   rcases d6.mp hc with rfl|hc
   .show⟨_,_,Vj⟩
   .rw[hQ.mp hc];show⟨_,_,J⟩) (λr e=>by cases e;show J) λes L h0 he B _ e0=>?_)
  have⟨XD,Ri⟩:=e0 _ rfl;rw[<-UA,he];have XE:L.length=m.length:=by rw[<-B.length_eq,c4]
  show bD (jk (prog:=prog) (w:=w) (L:=L) (λd s'=>∃h',s'={s with heap:=h' }/\nC s.heap.objs.size (s.heap.push {cls:=.type "set",dict:=b8,data:=.set #[] 0 (.fresh 0 0 (aE w))}) h'/\aQ prog w h' s.heap.objs.size (aE w) ((d.map (·.1)).filter λx=>cK (x∉g))) (λd p r s' O ⟨h',C,i,u⟩ Q' T=>?_) (λs' ⟨h',C,i,u⟩=>?_) L [] _ rfl ⟨h0,rfl,XD,Ri⟩)
  .subst C;have Y:(L.map (·.1)).Nodup:=B.nodup_iff.mpr Th;have XF:p.1∉d.map (·.1):=λz=>by
    rw[<-O,ki,rz]at Y;show Y.2.2 p.1 z p.1 (by simp) rfl
   have XG:aQ prog w h' b (aE w) g:=j.at λo e=>keep h' i b o e;have Vw:h'.get? a=a5 {cls:=.type "set",dict:=b8,data:=.set ea XB ta}:=(i.2 a (hH G)).trans N;have Mc:d.length<64:=by have:=Ł wh O;simp at this;lia
   show bD (tA ?_);rw[ļ rfl];show bD (qj (s:={s with heap:=h' }) XG λr hr=>?_);show bD (df ?_);have em:((d++[p]).map (·.1)).filter (λx=>cK (x∉g))=(d.map (·.1)).filter (λx=>cK (x∉g))++if p.1∈g then [] else [p.1]:=by
    rw[ki,MO];congr 1
    by_cases z:p.1∈g<;>simp[z]
   by_cases z:p.1∈g
   .rw[Ľ (by rw[hr,Ŀ z];simp)];show df ?_;show bD (kX (s:={s with heap:=h' }) Vw y ?_);show df (T _ ⟨h',rfl,i,?_⟩);rw[em,ļ z,r6];show u
   .rw[ļ (by rw[hr,ľ z];rfl)];show bD (kR (s:={s with heap:=h' }) u (by
     have:((d.map (·.1)).filter λx=>cK (x∉g)).length<=d.length:=t6 (nc _ _) (by simp);have LZ:x3=4096:=rfl;lia) λk n t=>?_)
    show df ?_;show bD (kX (s:={s with heap:=k}) ((n.2 a (hH G)).trans Vw) y ?_);show df (T _ ⟨k,rfl,i.trans n,?_⟩);rw[em,Ľ z];rw[Ľ (λq=>XF (ro.mp q).1)]at t;show t
  .subst C;show df ?_;show df (h h' (keep h' i) (u.perm ?_));show B.filter _
end
def mz:Ò table "set.__sub__"=a5 Nn.«frozenset.__sub__» :=
 YZ (id':="frozenset.__sub__") (by kernel_rfl) rfl (by decide +kernel) (by kernel_rfl)
section
def kh(n:a≠b)(g:aQ prog w s.heap a (aE w) j)(i:aQ prog w s.heap b (aE w) k)(p:j.length<64)(q:k.length<64)
  (h:∀h',(∀c o,s.heap.get? c=a5 o->h'.get? c=a5 o)->aQ prog w h' s.heap.objs.size (aE w) (j.filter λx=>cK (x∉k))->Q (.ref s.heap.objs.size) {s with heap:=h' }):d3 (et prog w) A (OL .Sub (.ref a) (.ref b)) Q E s:=by
 show wpAny_binaryOp_same (T:="set") g.ty i.ty PySem.F.fills_set_sub PySem.F.slot_set_sub (J1 PySem.F.slot_set_sub g.ty mz ?_ (PySem.F.args_set_sub_2 _ _));unfold Nn.«frozenset.__sub__»;change d3 (et prog w) _ (do
  let x <-Uk "__sub__" ⟨[.ref a,.ref b],[]⟩
  match x with
  |(self,f) =>
   match if cc=b6 then(f,self) else(self,f) with
   |(l,r)=>do
    let c <-JB l <&&> JB r
    if (!c)=b6 then do
      ē (S3 "frozenset."++S3 "__sub__"++S3 ".declined")
      ret Value.notImplemented
     else do
      let d <-TY l
      let e <-OY (S3 "frozenset."++S3 "__sub__") d r
      ret e) _ _ _
 show bD (m:=Uk "__sub__" ⟨[.ref a,.ref b],[]⟩) (df (a:=(ko a,ko b)) ?_)
 dsimp only
 show bD (bD (gw g ?_));change d3 _ _ (JB (.ref b)) _ _ _;show gw i ?_;rw[Ľ (by simp)];show bD (df ?_);show bD (x6 n g i p q λh' hk hs=>?_);show df ⟨_,rfl,(λz=>by cases z),h h' hk hs⟩
end
section
def rY(n:X.calm=b6)(I:Inv X a σ H s)(hq:Jw X.K H p (g.map V.str)\/JI X.K H p (g.map V.str))(j:g.length+1<x3)
  (h:∀(S:d8) (o:Obj) (s1:d5),s.heap.objs.size<=S->s1.heap.get? S=a5 o->aQ X.prog X.w s1.heap S (aE X.w) (aD g)->Inv X ((S,o)::a) σ H s1->Q (.ref S) s1) :
  d3 (et X.prog X.w) X.A (NW (.type "set") [.ref p]) Q X.xe s:=by
 have l:X.A.handled=b8:=I.ok.hd n;have f:∀(h':Jv) (c:Nat),aQ X.prog X.w h' s.heap.objs.size (aE X.w) (aD g)->(∀b o,b<s.heap.objs.size->s.heap.get? b=a5 o->h'.get? b=a5 o)->Q (.ref s.heap.objs.size) {s with heap:=h',toks:=c}:=λh' c d k=>by
  have⟨L,es,ep,t,ho,r⟩:=_root_.id d;have m:Inv X a σ H {s with heap:=h',toks:=c}:=I.kept λb o e=>k b o (eh e) e;show h _ _ _ (hU _) ho d (m.eI λq hq=>?_);rcases d6.mp hq with rfl|hq
  .show⟨ho,I.IS.fresh (hU _),JC I.lt,I.Dn (hU _),λv z=>nomatch z⟩
  .show m.pin q (kj _ hq)
 rcases hq with hq|hq
 .have⟨u,rv,i,hz⟩:=I.list hq;show fR l i.isList (cF rv) j λh' c d k=>f h' c d k
 .have⟨u,rv,i,hz⟩:=I.tuple hq;show gS l i (cF rv) j λh' c d k=>f h' c d k
end
def rZ:QS (.type "list_reverseiterator") "__len__"=pure b8:=by rw[RO,N_];kernel_rfl
def x8:QS (.type "list_reverseiterator") "__length_hint__"=pure (a5 (.builtin "list_reverseiterator.__length_hint__")):=by rw[RO,N_];kernel_rfl
def oP:N1 (.type "list_reverseiterator") (.type "list_reverseiterator")=pure b6:=by rw[Jg];kernel_rfl
section
variable{I:d8}{fp wr:List d8}{G:Array Y2->Array Y2->Prop}{n:Nat}{P:Nat->dV->Prop}{St:Nat->d5->Prop}
def r9(W:î prog w A.in1 I fp wr G n P St)(c:∀i s,St i s->s.TypeIs (.ref I) "list_reverseiterator")(S:d8)(res:dV)(j:Nat)(a:St 0 s)(h:S∉fp)(k:I∈fp)
  (l:s.heap.get? S=a5 {cls:=.type "list",data:=.seq #[] j})
  (m:∀s' d b,Moved (S::wr) G s s'->s'.heap.get? S=a5 {cls:=.type "list",dict:=b8,data:=.seq d b,slots:=#[]}->ą P d n->R (.ok (.ret res)) s') (o:n<=cL) :
  d3 (et prog w) A.in1 (ti (.ref S) (.ref I) res)
   (λg s'=>match g with|.done f=>R (.ok f) s'|.again b=>b.quiet=b6/\Qs (et prog w) A b R s') (λe s'=>R (.error e) s') s:=by
 have p:S≠I:=λe=>h (e▸k);unfold ti;show bD (VR (c 0 _ a) ?_);have q:Nr (.ref S) (.ref I)=cc:=by simp[Nr,p]
 have r:(rr "list_reverseiterator"==rr "list")=cc:=by decide
 have t:(rr "list_reverseiterator"==rr "tuple")=cc:=by decide
 simp only[q,r,t,X4,K1,if_false];show bD (W.self 0 _ _ _ a ?_);show bD (tA ?_);unfold Ux;show bD (T6 (c 0 _ a) rZ ?_);change d3 _ A.in1 (specialOf (ko I) (Rh "__length_hint__") >>= _) _ _ _;show bD (T6 (c 0 _ a) x8 ?_);have u:splitId "list_reverseiterator.__length_hint__"=a5 ("list_reverseiterator","__length_hint__"):=by decide +kernel
 dsimp only
 rw[u]
 dsimp only
 show bD (OQ (c 0 _ a) oP ?_);rw[Ľ (by decide)];rw[ļ (by decide +kernel)];rw[Ľ (by decide +kernel)];show df ?_;rw[Ľ (by decide +kernel)];show df ⟨Sz PySem.F.plain_extend_loop _,Ó W o _ h _ n 0 _ _ _ rfl (i5 _) a l (á P) λs' d b v x y=>?_⟩;show m s' d b v x y
def mB(W:î prog w A.in1 I fp wr G n P St)(p:∀i s,St i s->s.TypeIs (.ref I) "list_reverseiterator")(S:d8)(q:St 0 s)(l:S∉fp)(r:I∈fp)
  (g:s.heap.get? S=a5 {cls:=.type "list",data:=.seq #[]})
  (t:∀s' d a,Moved (S::wr) G s s'->s'.heap.get? S=a5 {cls:=.type "list",dict:=b8,data:=.seq d a,slots:=#[]}->ą P d n->R (.ok (.ret .none)) s') (u:n<=cL) :
  d3 (et prog w) A.in1 (Nn.«list.__init__» ⟨[.ref S,.ref I],[]⟩)
   (λj s'=>match j with|.done f=>R (.ok f) s'|.again a=>a.quiet=b6/\Qs (et prog w) A a R s') (λe s'=>R (.error e) s') s:=by
 change d3 _ A.in1 (do let k <-Vr (.ref S);Ģ (.ref S) (λ_=>#[]);letGo k.toList.reverse;ti (.ref S) (.ref I) .none) _ _ s;show bD ?_;unfold Vr;show bD (UH g rfl (df ?_));change d3 _ A.in1 (Đ S (λ_=>#[]) >>= λ_=>letGo (#[]:Array dV).toList.reverse >>= λ_=>ti (.ref S) (.ref I) .none) _ _ s;show bD (RM g rfl ?_);have v:=t4 (qs (λ_=>(#[]:Array dV))) g rfl;have m:∀b o,b≠S->s.heap.get? b=a5 o->(s.heap.update S (qs (λ_=>(#[]:Array dV)))).get? b=a5 o :=
  λb o c e=>(Mk _ _ (nH c)).trans e
 show bD (wpAny_letGo ?_);show r9 W p S .none _ (W.frame 0 s _ s.toks q (hU _) λb c o e=>m b o (λh=>l (h▸c)) e) l r v (λs' d a x y z=>?_) u;show t s' d a (Ą W.gtrans ((Moved.refl W.grefl).then_heap (hU _) λb o c e=>m b o (λh=>c (h▸mA)) e) x) y z
def qp(W:î prog w A.in1.in1 I fp wr G n P St)(h:∀i s,St i s->s.TypeIs (.ref I) "list_reverseiterator")(j:St 0 s)(k:∀b∈fp,b<s.heap.objs.size)(l:I∈fp)
  (m:∀s' a c,Moved (s.heap.objs.size::wr) G {s with heap:=s.heap.push {cls:=.type "list",data:=.seq #[]}} s' ->
   s'.heap.get? s.heap.objs.size=a5 {cls:=.type "list",dict:=b8,data:=.seq a c,slots:=#[]}->ą P a n->Q (.ref s.heap.objs.size) s') (p:n<=cL) :
  d3 (et prog w) A (NW (.type "list") [.ref I]) Q E s:=by
 have q:s.heap.objs.size∉fp:=λd=>t8 _ (k _ d);show callType_codes (Q₁:=λobj f=>obj=.ref s.heap.objs.size/\f={s with heap:=s.heap.push {cls:=.type "list",data:=.seq #[]}}) PySem.F.called_list (PySem.F.typeCall_list_1 _) PySem.F.entry_list_init
  (code_list_new _ ⟨rfl,rfl⟩) λobj f r=>?_
 have⟨rfl,rfl⟩:=r;have g:(s.heap.push {cls:=.type "list",data:=.seq #[]}).get? s.heap.objs.size=a5 {cls:=.type "list",data:=.seq #[]}:=ez _ rfl;show⟨⟨_,g,rfl⟩,PySem.F.args_list_init_2 _ _,mB W h _ (W.frame 0 s _ s.toks j (hU _) λb _ o e=>c2 _ e) q l g (λs' a c d t u=>?_) p⟩;show⟨rfl,m s' a c d t u⟩
open AutoSeq1 (wpAny_loadPart') in
end
section
def iJ(a:s.heap.IsTupleIter it l i)
  (hl:s.heap.IsTuple l b) (d:b[i]?=a5 x)
  (e:∀h',h'.IsTupleIter it l (i+1)->nC it s.heap h'->Q x {s with heap:=h' }) :
  d3 (et prog w) A (J5 (.ref it)) Q E s:=by
 have⟨o,ho,f,c⟩:=id a;obtain⟨j,g,_,k,h⟩:=hl;unfold J5;show bD (Qg (name:=Rh "__next__") a.typeIs PySem.F.slot_tuple_iterator_next
  (J1 PySem.F.slot_tuple_iterator_next a.typeIs PySem.F.entry_tuple_iterator_next ?_ (PySem.F.args_tuple_iterator_next_1 _)))
 change d3 _ _ (Ĭ (.ref it) 0 >>= _) _ _ s;show bD (UI ho c (x:=.ref l) rfl ?_);change d3 _ _ (if (ko l==oT)=b6 then _ else _) _ _ s;rw[Ľ (show ¬((ko l==oT)=b6) from i3)];change d3 _ _ (Ĭ (.ref it) 1 >>= _) _ _ s;show bD (UI ho c (x:=.int i 0) rfl ?_);change d3 _ _ (ZC (.ref l) >>= _) _ _ s;show bD (UH g h ?_);simp only[NQ,d];show bD (MP ho c (by simp) (df ⟨x,rfl,df (e _ ?_ (vl ..))⟩));show⟨_,t4 _ ho (S_ (MY c _)),(Vn ..).trans f,by
  rw[MY c];simp[uv]⟩
def eV(f:A.handled=b8)
  (b:s.heap.IsTupleIter it l i) (hl:s.heap.IsTuple l c) (g:c[i]?=b8)
  (h:∀h' e,ė it s.heap h'->(∃o,h'.get? e=a5 o/\o.cls=.type "StopIteration")->E (.ref e) {s with heap:=h' }) :
  d3 (et prog w) A (J5 (.ref it)) Q E s:=by
 have⟨o,ho,n,d⟩:=id b;obtain⟨p,j,_,q,k⟩:=hl;unfold J5;show bD (Qg (name:=Rh "__next__") b.typeIs PySem.F.slot_tuple_iterator_next
  (J1 PySem.F.slot_tuple_iterator_next b.typeIs PySem.F.entry_tuple_iterator_next ?_ (PySem.F.args_tuple_iterator_next_1 _)))
 change d3 _ _ (Ĭ (.ref it) 0 >>= _) _ _ s;show bD (UI ho d (x:=.ref l) rfl ?_);change d3 _ _ (if (ko l==oT)=b6 then _ else _) _ _ s;rw[Ľ (show ¬((ko l==oT)=b6) from i3)];change d3 _ _ (Ĭ (.ref it) 1 >>= _) _ _ s;show bD (UI ho d (x:=.int i 0) rfl ?_);change d3 _ _ (ZC (.ref l) >>= _) _ _ s;show bD (UH j k ?_);simp only[NQ,g];show bD (OK (bD (MP ho d (by simp) ?_)));change d3 _ _ (Z0 (.type "StopIteration") [] >>= _) _ _ _;show bD ?_;simp only[Z0,Ī];show bD (va ?_ (by size_fits));show bD (m:=UN _ _) (Xz (a:=oT) (by first|rfl|(simp only[UN];rfl)) ?_);show va ?_ (by size_fits);simp only[YS];show bD (wpAny_handled ?_)
 first|rw[show A.in1.handled=b8 from f]|rw[f]
 show bD (df (wpAny_throw ?_));show h _ _ (((vl ..).extBut.push _).push _) ⟨_,ez _ rfl,rfl⟩
end
def qq(d:A.handled=b8)(it l:d8)(f:l≠it)(a:Array dV):
  Draws prog w A it [it,l] a.size (λi v=>a[i]?=a5 v) (λi h=>h.IsTupleIter it l i/\h.IsTuple l a) where
 live:=λ_ _ st=>let ⟨o,ho,_⟩:=st.1;⟨o,ho⟩
 frame:=λ_ _ _ st hk=>⟨st.1.at λo e=>hk it (by simp) o e,let ⟨o,ho,r⟩:=st.2;⟨o,hk l (by simp) o ho,r⟩⟩
 item:=λi s Q E b st g=>by
  show iJ st.1 st.2 (x:=a[i]) (by simp[b]) λh' j c=>?_;show g _ h' s.toks (by simp[b]) ⟨j,let ⟨o,ho,r⟩:=st.2;⟨o,(c.2 l f).trans ho,r⟩⟩ c
 done:=λs Q E st k=>eV d st.1 st.2 (by simp) k
open AutoSeq1 (wpAny_loadPart') in
def kY(l:d8)(a:Array dV)(n:Nat)(e:Option d8)(f:Array (Option dV)):
  Meets (Nn.«enumerate.__new__» ⟨[.type "enumerate",.ref l],[]⟩) (λ_ R s=>s.heap.get? l=a5 {cls:=.type "tuple",dict:=e,data:=.seq a n,slots:=f} /\
   R (.ok (.ret (.ref (s.heap.push {cls:=.type "tuple_iterator",data:=.fields #[.ref l,.int 0 0]}).objs.size)))
    {s with heap:=(s.heap.push {cls:=.type "tuple_iterator",data:=.fields #[.ref l,.int 0 0]}).push {cls:=.type "enumerate",data:=.fields #[.none,.bool cc,.ref s.heap.objs.size,uv 0,.none,.none]}}) :=
 .of_wp λprog w A R s h=>by
  have⟨i,g,d,j,os⟩:=s;have⟨hl,h⟩:=h;have k:=sub_enumerate;have b:Heap.IsTuple (Shared.heap ⟨i,g,d,j,os⟩) l a:=⟨_,hl,rfl,n,rfl⟩
  wp_walk using Ua hl
  show wpAny_stack_any λst=>df ?_;split
  .rename_i c _ _ _ _ _;cases(c==rr "enumerate")
   .wp_walk using Ua hl,P7 b
    show⟨_,rfl,h⟩
   .wp_walk using Ua hl,P7 b
    show⟨_,rfl,h⟩
  .wp_walk using Ua hl,P7 b
   show⟨_,rfl,h⟩
section
def fT(g:s.heap.IsTuple l a)
  (h:∀h',Z8 h' (s.heap.objs.size+1) s.heap.objs.size 0 .none->h'.IsTupleIter s.heap.objs.size l 0->h'.objs.size=s.heap.objs.size+2 ->
   (∀b o,s.heap.get? b=a5 o->h'.get? b=a5 o)->Q (.ref (s.heap.objs.size+1)) {s with heap:=h' }) :
  d3 (et prog w) A (NW (.type "enumerate") [.ref l]) Q E s:=by
 obtain⟨⟨c,i,j,k⟩,hl,d,n,e⟩:=g
 replace d:c=.type "tuple":=d
 replace e:j=.seq a n:=e
 subst d e;show callType_new PySem.F.called_enumerate (by decide) (PySem.F.typeCall_enumerate_1 _) (PySem.F.newCall_enumerate_1 _) (λobj=>PySem.F.args_object_init_2 obj _) PySem.F.entry_enumerate_new
  (kY l a n i k) ⟨hl,?_⟩
 have hz:(s.heap.push {cls:=.type "tuple_iterator",data:=.fields #[.ref l,.int 0 0]}).objs.size=s.heap.objs.size+1:=WK ..;change _/\_;rw[hz];have f:Z8 ((s.heap.push {cls:=.type "tuple_iterator",data:=.fields #[.ref l,.int 0 0]}).push
   {cls:=.type "enumerate",data:=.fields #[.none,.bool cc,.ref s.heap.objs.size,uv 0,.none,.none]}) (s.heap.objs.size+1) s.heap.objs.size 0 .none:=by
  have:=ez (s.heap.push {cls:=.type "tuple_iterator",data:=.fields #[.ref l,.int 0 0]})
   (o:={cls:=.type "enumerate",data:=.fields #[.none,.bool cc,.ref s.heap.objs.size,uv 0,.none,.none]}) rfl
  rw[hz]at this;show this
 show⟨⟨_,f,rfl⟩,h _ f ⟨_,c2 _ (ez _ rfl),rfl,rfl⟩ (by rw[WK,hz]) λb o x=>c2 _ (c2 _ x)⟩
end
end L2
namespace L2
open PySem PySem.Spec PyProof.Rows
section
def Inv.oQ{ch:List d8}(I:Inv X a σ H s)(f:∀b∈ch,iA X a H b)(k:∀b o,b∉ch->s.heap.get? b=a5 o->h'.get? b=a5 o):Inv X a σ H {s with heap:=h',toks:=t' }:=by
 have g:∀b u,H b=a5 u->b∉ch:=λb u e z=>by rw[(f b z).1]at e;cases e
 show I.step (g':=s.gens) (d':=s.drawn) (ch:=ch) (λb h=>?_) (λb o _ _ d e _=>k b o d e) (λb o _ _ d e _=>⟨o.slots,k b o d e⟩) (λ_ _ _ _ n=>n)
  (λb o d e=>⟨o,k b o d e⟩) (λ_ _ e=>e) (λ_ _ _ e=>e) (λb ps e=>⟨#[],by rw[e];simp⟩) (λm i=>?_) (λb u e=>?_) I.bare
 .have⟨w,j,x,l,p,t⟩:=f b h;show⟨l,j,p,t⟩
 .have⟨o,es,ep,ho,r⟩:=i;show⟨o,es,ep,k _ o (λz=>(f _ z).2.1 rfl) ho,r⟩
 .show(I.IS b u e).fJ (λc v d q=>k c v ?_ q) (λ_ q=>q) λ_ _ q=>q;rcases d with z|z
  .rw[z];show g b u e
  .show g c _ z
def Inv.kZ{ch:List d8}(I:Inv X a σ H s)(h:∀b∈ch,iA X a H b)(k:∀b o,b∉ch->s.heap.get? b=a5 o->h'.get? b=a5 o)(i:s.heap.objs.size<=T)(new:bF X.prog X.w (upd H T o) h' T o):
  Inv X a σ (upd H T o) {s with heap:=h',toks:=t' }:=by
 have j:Inv X a σ H {s with heap:=h',toks:=t' }:=I.oQ h k;have l:H T=b8:=I.IS.fresh i;have p:∀b o,s.heap.get? b=a5 o->b≠T:=λb o e z=>by rw[z]at e;show absurd (i0 (eh e) i) (t8 _)
 have d:∀b u,H b=a5 u->b≠T:=λb u e z=>by rw[z,l]at e;cases e
 show I.step (g':=s.gens) (d':=s.drawn) (ch:=ch) (λb g=>?_) (λb o _ _ f e _=>k b o f e) (λb o _ _ f e _=>⟨o.slots,k b o f e⟩) (λb o _ e n=>by rw[ak (p b o e)];show n)
  (λb o f e=>⟨o,k b o f e⟩) (λb _ e=>by rw[ak (d b _ e)];show e) (λb _ _ e=>by rw[ak (d b _ e)];show e) (λb ps e=>⟨#[],by rw[ak (d b _ e),e];simp⟩) (λm t=>?_) (λb u e=>?_) I.bare
 .have⟨C,x,D,y,A,B⟩:=h b g;show⟨y,x,A,B⟩
 .have⟨o,es,ep,ho,r⟩:=t;show⟨o,es,ep,k _ o (λz=>(h _ z).2.1 rfl) ho,r⟩
 .by_cases g:b=T
  .subst g;rw[ax]at e;cases e;show new
  .rw[ak g]at e;show(j.IS b u e).fJ (λc v _ q=>q) (λc q=>by rw[ak (d c _ q)];show q) λc xs q=>by rw[ak (d c _ q)];show q
end
abbrev O_(a:Hp->List V->Prop):It :=
 ⟨λi H=>∃xs x,a H xs/\xs[i]?=a5 x,λi H x H'=>∃p,H p=b8/\x=.ref p/\∀xs v,a H xs->xs[i]?=a5 v->H'=upd H p (.tup [.int i,v]),λi H=>∃xs,a H xs/\xs.length<=i⟩
def m8{K:PySem.W.Frag}(r:Hp->List V->Prop)(a e it:d8)(O:e≠it)(At:Nat->Jv->Prop)(t:Jv->Array dV->Prop)
  (KZ:∀i h h',At i h->(∀o,h.get? it=a5 o->h'.get? it=a5 o)->At i h') (Vx:∀i h,At i h->∃o,h.get? it=a5 o/\∀v,o.data≠.cell v)
  (Rj:∀(X:Cx) (d:List (d8×Obj)) (s:d5) (σ:St) (H:Hp) (xs:List V),X.K=K->Inv X d σ H s->r H xs->∃l:List dV,Vals xs l/\t s.heap l.toArray)
  (Tj:∀(X:Cx) (d:List (d8×Obj)) (s:d5) (σ:St) (H:Hp) (xs B:List V),X.K=K->Inv X d σ H s->r H xs->r H B->xs=B)
  (O9:∀h c i f,t h c->Z8 h e it i f->e≠a)
  (hD:∀(A:M4) (c:Array dV),A.handled=b8->Draws P w A it [it,a] c.size (λi v=>c[i]?=a5 v) (λi h=>At i h/\t h c))
  (M8:∀(A:M4) (s:d5) (i:Nat) (c:Array dV) (Q:dV->d5->Prop) (E:dV->d5->Prop),A.handled=b8->At i s.heap->t s.heap c->c[i]?=b8 ->
   (∀h' x,ė it s.heap h'->(∃o,h'.get? x=a5 o/\o.cls=.type "StopIteration")->E (.ref x) {s with heap:=h' })->d3 (et P w) A (J5 (.ref it)) Q E s) :
  Turn P w K (.Tuple es kx ps) (O_ r) [e,it] e (λi h=>(∃f,Z8 h e it i f)/\At i h) where
 mem:=by simp
 obj:=λi h st b g=>by
  obtain⟨⟨f,j⟩,hl⟩:=st;rcases d6.mp g with z|z
  .rw[z];show⟨_,j,λv z=>by
    have z':Tg _=X6 v:=z;cases z'⟩
  .rw[hQ.mp z];show Vx i h hl
 keep:=λi h h' ⟨⟨f,j⟩,hl⟩ k=>⟨⟨f,k e (by simp) _ j⟩,KZ i h h' hl λo q=>k it (by simp) o q⟩
 item:=by
  intro X Y hw C hc i d s σ H E I G ⟨⟨f,j⟩,hl⟩ hg;subst Y hw;have⟨xs,x,J,hx⟩:=hg;have⟨l,rv,p⟩:=Rj X d s σ H xs C I J;have⟨u,hu,ru⟩:=rv.get hx;have Jh:i<l.toArray.size:=by simpa using(dt.mp hu).1
  have D:=hD X.A.in1 l.toArray (by simpa using I.ok.hd hc);have Tn:=O9 _ _ _ _ p j;show wpAny_pyNext_enum_itemD D j ⟨hl,p⟩ Jh O (by simp[O,Tn]) λy h1 m L ho st1 N hsz hk=>?_;have ey:y=u:=by
   have:l.toArray[i]?=a5 u:=by simpa using hu
   rw[this]at L;cases L;rfl
  subst ey;show⟨_,rfl,wpAny_letOwnedTupleGo_enum (s:={s with heap:=h1,toks:=m+1}) ho λn Rk J_=>?_⟩;have Vy:e<s.heap.objs.size:=eh j;have To:n.get? s.heap.objs.size=a5 {cls:=.type "tuple",data:=.seq #[.int i m,y]}:=(J_.2 _ (JC Vy)).trans N;have k2:∀b o,b∉[e,it]->s.heap.get? b=a5 o->n.get? b=a5 o:=λb o g q=>by
   simp only[d6,KA,or_false,not_or]at g;show(J_.2 b g.1).trans (hk b o g.1 g.2 q)
  have I2:Inv X d σ (upd H s.heap.objs.size (.tup [.int i,x])) {s with heap:=n,toks:=m+1}:=I.kZ G k2 (hU _)
   (show bF X.prog X.w _ n _ (.tup [.int i,x]) from⟨by change 2<=cL;decide,[.int i m,y],.cons ⟨m,rfl⟩ (.cons ru .nil),⟨_,To,rfl,_,rfl⟩⟩)
  show⟨.ref s.heap.objs.size,_,I2,rfl,⟨_,I.IS.fresh (hU _),rfl,λB v L hv=>?_⟩,⟨⟨_,Rk⟩,KZ (i+1) h1 n st1.1 λo q=>(J_.2 it (nH O)).trans q⟩,λb g=>?_⟩
  .have:=Tj X d s σ H B xs C I L J;subst this;rw[hx]at hv;cases hv;rfl
  .have Kc:b≠s.heap.objs.size:=by
    rcases d6.mp g with z|z
    .rw[z];show hH Vy
    .rw[hQ.mp z];obtain⟨o,q,_⟩:=Vx i _ hl;show hH (eh q)
   rw[ak Kc];show(G b g).1
 done:=by
  intro X Y hw C hc i d s σ H E I G ⟨⟨f,j⟩,hl⟩ hg;subst Y hw;have⟨xs,J,hx⟩:=hg;have⟨l,rv,p⟩:=Rj X d s σ H xs C I J;have ab:=rv.length;have N:s.TypeIs (.ref e) "enumerate":=⟨_,j,rfl⟩
  unfold Tx;show bD (wpAny_attempt (Qg (name:=Rh "__next__") N PySem.F.slot_enumerate_next
   (J1 PySem.F.slot_enumerate_next N PySem.F.entry_enumerate_next ?_ (PySem.F.args_enumerate_next_1 _))))
  change d3 _ _ (Ĭ (.ref e) 2 >>= _) _ _ _;show bD (UI j rfl (x:=.ref it) rfl ?_);show bD (M8 _ _ i l.toArray _ _ (by simpa using I.ok.hd hc) hl p (by simp;lia) λh' x SO PN=>?_);have⟨o,ho,L3⟩:=PN;show bD (OQ (T:="StopIteration") (b:=b6) ⟨o,ho,L3⟩ ī ?_);show df ⟨rfl,I.oQ (t':=s.toks) (ch:=[it]) (λb g=>G b (kr _ g)) λb o g q=>SO b o (λz=>g (by simp[z])) q⟩
 self:=λA i s Q E ⟨⟨f,j⟩,hl⟩ h=>V_ j h
section
variable{X:Cx}{es:List l0}{kx:Nat}{ps p pos:Pos}
def v_:t7 "enumerate"=a5 (.type "enumerate"):=by decide +kernel
abbrev Ih(K:PySem.W.Frag)(c:TA):TI:=λσ H R=>c σ H λvs b=>∃a,vs=[.ref a]/\((∃xs,Jw K b a xs)/\R (O_ λH xs=>Jw K H a xs) b\/(∃xs,JI K b a xs)/\R (O_ λH xs=>JI K H a xs) b)
def DZ(a e it:d8)(q:e≠it)(r:a≠it):Turn X.prog X.w X.K (.Tuple es kx ps) (O_ λH xs=>Jw X.K H a xs) [e,it] e (λi h=>(∃c,Z8 h e it i c)/\h.IsListIter it a i):=by
 show m8 _ a e it q (λi h=>h.IsListIter it a i) (λh b=>h.IsList a b) (λi h h' x k=>x.at k) (λi h ⟨o,ho,l,t⟩=>⟨o,ho,λv z=>by rw[t]at z;cases z⟩)
  (λY d s σ H xs g I m=>?_) (λY d s σ H xs G g I f n=>?_) (λh b i c ⟨o,ho,l,_⟩ u z=>?_) (λA b j=>Draws.list j it a r b) (λA s i b Q E j hl y f B=>wpAny_nextOf_list_end j hl y f B)
 .rw[<-g]at m;have⟨C,rv,p,hz⟩:=I.list m;show⟨C,rv,p.isList⟩
 .rw[<-g]at f n;show I.pQ f n
 .rw[<-z,u]at ho;cases ho;have D:rr "enumerate"=rr "list":=l;show absurd D (by decide)
def D0(a e it:d8)(q:e≠it)(r:a≠it):Turn X.prog X.w X.K (.Tuple es kx ps) (O_ λH xs=>JI X.K H a xs) [e,it] e (λi h=>(∃c,Z8 h e it i c)/\h.IsTupleIter it a i):=by
 show m8 _ a e it q (λi h=>h.IsTupleIter it a i) (λh b=>h.IsTuple a b) (λi h h' x k=>x.at k) (λi h ⟨o,ho,l,t⟩=>⟨o,ho,λv z=>by rw[t]at z;cases z⟩)
  (λY d s σ H xs g I m=>?_) (λY d s σ H xs G g I f n=>?_) (λh b i c ⟨o,ho,l,_⟩ u z=>?_) (λA b j=>qq j it a r b) (λA s i b Q E j hl y f B=>eV j hl y f B)
 .rw[<-g]at m;have⟨C,rv,p,hz⟩:=I.tuple m;show⟨C,rv,p⟩
 .rw[<-g]at f n;show I.mH f n
 .rw[<-z,u]at ho;cases ho;have D:rr "enumerate"=rr "tuple":=l;show absurd D (by decide)
def AY(n:Gl X "enumerate")(t:X.mg "enumerate"=b8)(v:PA X [a] w)(hs:hW [a] X.env=[(cc,u7 a X.env)]):PI X (.Tuple es kx ps) (.Call (.Name "enumerate" p) [a] [] pos) (Ih X.K w):=by
 intro c s σ H R I h;show Call_ (dh I n t v_ (LX (I0 (v pos c s σ H _ I h) λus s1 ⟨vs,j,d,x,y⟩=>?_) hs rfl));have⟨a',e,q⟩:=y;subst e;have⟨u,rfl,r⟩:=vals1 x;cases r;have f:s1.heap.objs.size+1≠s1.heap.objs.size:=Nat.succ_ne_self _;have g:∀(h':Jv),(∀b∈[s1.heap.objs.size+1,s1.heap.objs.size],iA X c j b):=λh' b A=>by
  have m:s1.heap.objs.size<=b:=by
   rcases d6.mp A with z|z
   .rw[z];show Lo _
   .rw[hQ.mp z];show hU _
  show d.xq m (d.IS.fresh m)
 rcases q with⟨⟨xs,k⟩,q⟩|⟨⟨xs,k⟩,q⟩
 .have⟨B,rv,p,hz⟩:=d.list k;have l:a'<s1.heap.objs.size:=let ⟨o,ho,_⟩:=p.isList;eh ho;show call_enumerate_list p.isList λh' i hl hsz hk=>?_;show V_ i ⟨_,[s1.heap.objs.size+1,s1.heap.objs.size],_,_,j,rfl,d.kept (t':=s1.toks) hk,DZ a' _ _ f (hH l),⟨⟨_,i⟩,hl⟩,g h',q⟩
 .have⟨B,rv,p,hz⟩:=d.tuple k;have l:a'<s1.heap.objs.size:=let ⟨o,ho,_⟩:=p;eh ho;show fT p λh' i hl hsz hk=>?_;show V_ i ⟨_,[s1.heap.objs.size+1,s1.heap.objs.size],_,_,j,rfl,d.kept (t':=s1.toks) hk,D0 a' _ _ f (hH l),⟨⟨_,i⟩,hl⟩,g h',q⟩
end
def AZ{a:List dV}(h:ą (λi v=>a.toArray[a.toArray.size - 1 - i]?=a5 v) acc a.toArray.size):acc.toList=a.reverse:=by
 apply Æ;intro i;have hs:acc.size=a.length:=by have:=h.1;simpa using this
 by_cases c:i<a.length
 .have b:i<acc.size:=by lia
  have:=h.2 i (acc[i]'b) (by simp[b]);rw[ri,OE b,List.getElem?_reverse c];simpa using this.symm
 .rw[Qk (by rw[gj];lia),Qk (by rw[Ul];lia)]
section
def x9(j:X.calm=b6)(I:Inv X f σ H s)(k:Jw X.K H a xs)
  (h:∀c,Vals xs c->xs.length<=cL->∀(R:d8) (d:Jv),R=s.heap.objs.size->d.objs.size=s.heap.objs.size+1->(∀b o,s.heap.get? b=a5 o->d.get? b=a5 o)->(∀B:M4,B.handled=X.A.handled ->
   Walks X.prog X.w B R [R,a] [R] c.toArray.size (λi v=>c.toArray[c.toArray.size - 1 - i]?=a5 v) (λi h=>i<=c.toArray.size/\h.IsRevIter R a ((c.toArray.size:Int) - 1 - (i:Int))/\h.IsList a c.toArray)) ->
   d.IsRevIter R a ((c.toArray.size:Int) - 1 - ((0:Nat):Int))->d.IsList a c.toArray->a<s.heap.objs.size->Q (.ref R) {s with heap:=d}):d3 (et X.prog X.w) X.A (NW (.type "reversed") [.ref a]) Q X.xe s:=by
 have⟨c,rv,p,hz⟩:=I.list k;have g:a<s.heap.objs.size:=let ⟨o,ho,_⟩:=p.isList;eh ho;show call_reversed_list p.isList (h c rv hz _ _ rfl (by rw[K5]) (λb o e=>c2 _ e) (λB l=>Walks.listRev (by rw[l];show I.ok.hd j) _ a (hH g) c.toArray) ?_ (p.isList.push _) g);show⟨_,ez _ rfl,rfl,?_⟩;change Tg _=Tg _;congr 3
 simp
def x_(p:X.calm=b6)(I:Inv X c σ H s)(r:Jw X.K H a xs)(q:∀l,H l=b8->Q (.ref l) (upd H l (.lst xs.reverse))):
  d3 (et X.prog X.w) X.A (NW (.type "reversed") [.ref a]) (λv s1=>d3 (et X.prog X.w) X.A (NW (.type "list") [v]) (EP X c σ Q) X.xe s1) X.xe s:=by
 show x9 p I r λh rv hz R d j hsz hk t u hl x=>?_;have Y:h.length=xs.length:=rv.length.symm;show qp (s:={s with heap:=d}) (t X.A.in1.in1 rfl).toS (λi s st=>st.2.1.typeIs) ⟨i5 _,u,hl⟩ (λb f=>?_) (by simp) (λs' acc k g y B=>?_) (by simp;lia)
 .change b<d.objs.size;rw[hsz];rcases d6.mp f with z|z
  .rw[z,j];show OG _
  .rw[hQ.mp z];show R_ x
 .have⟨m,C,D,G,o2⟩:=s';have J:C=s.gens:=g.gens;have L:D=s.drawn:=g.drawn;have N:o2=s.os:=g.os;subst J L N;have k2:∀b o,s.heap.get? b=a5 o->m.get? b=a5 o:=λb o e=>g.heap b o (λz=>by
   have f:=eh e;rcases d6.mp z with z|z
   .rw[z]at f;have n:d.objs.size<s.heap.objs.size:=f;rw[hsz]at n;show absurd n (Û (OG _))
   .rw[hQ.mp z,j]at e;show absurd (eh e) (t8 _)) (c2 _ (hk b o e))
  have O:=AZ B;show⟨.ref d.objs.size,_,I.laid (t':=G) (o:=.lst xs.reverse) k2 (by rw[hsz];show Lo _) ⟨by rw[Ul];show hz,h.reverse,k,rv.reverse,?_⟩,rfl,q _ (I.IS.fresh (by rw[hsz];show Lo _))⟩;have T:m.get? d.objs.size=a5 {cls:=.type "list",dict:=b8,data:=.seq acc k,slots:=#[]}:=y;rw[T,<-O,Y8]
end
end L2
namespace L2
open PySem PySem.W PyProof.Rows
section
def Inv.freeze(I:Inv X a σ H s)(c:H r=a5 (.dK kvs))(ho:s.heap.get? r=a5 o):Inv X a σ (upd H r (.JX o (.dK kvs))) s:=by
 have d:∀b u,H b=a5 u->u≠.dK kvs->b≠r:=λb u e n z=>by subst z;rw[c]at e;cases e;show n rfl
 show I.write (t':=s.toks) (x:=r) (e:=r) (by rw[c];trivial) (.inl rfl) (λb u _ q=>q) ⟨o,ho⟩ ⟨ho,(I.IS r _ c).fJ (λ_ _ _ q=>q) (λb q=>by rw[ak (d b _ q (λz=>by cases z))];show q) λb xs q=>by rw[ak (d b _ q (λz=>by cases z))];show q⟩
def D3(h:PE X e c):PE X e (λσ H Q=>∃r kvs,H r=a5 (.dK kvs)/\∀o,c σ (upd H r (.JX o (.dK kvs))) Q):=by
 intro a s σ H Q I ⟨r,kvs,b,d⟩;obtain⟨_,_,vs,_,o,es,ep,ho,_⟩:=(show bF X.prog X.w H s.heap r (.dK kvs) from I.IS r _ b)
 show h a s σ _ Q (I.freeze b ho) (d o)
end
abbrev Tr(r:d8)(o:Obj)(kvs:List (Key×V)):It :=
 ⟨λi H=>H r=a5 (.JX o (.dK kvs))/\i<kvs.length,λi H x H'=>∃p,H p=b8/\x=.ref p/\∀k v,kvs[i]?=a5 (k,v)->H'=upd H p (.tup [kV k,v]),λi H=>H r=a5 (.JX o (.dK kvs))/\kvs.length<=i⟩
def D4(h:(aR P w).is k u=b6):RelV (kV k) u:=by
 rcases bo (show jD k u=b6 from h) with⟨i,t,rfl,rfl⟩|⟨y,t,rfl,rfl⟩
 .show⟨t,rfl⟩
 .show⟨t,rfl⟩
theorem CL:∀{kvs:List (Key×V)}{vs:List (Key×dV)},KV kvs vs->∀(i:Nat) (h:i<kvs.length) (h':i<vs.length),kvs[i].1=vs[i].1/\RelV kvs[i].2 vs[i].2
 |_,_,.cons a _,0,_,_=>a
 |_,_,.cons _ b,i+1,h,h'=>CL b i (by simpa using h) (by simpa using h')
def r_{K:PySem.W.Frag}(j:o.data=.dict J ep):
  Turn P w K (.Tuple es kx ps) (Tr r o kvs) [it] it (λi h=>∃d e,IsItemIter h it r i kvs.length ep d e) where
 mem:=by simp
 obj:=λi h ⟨d,e,st⟩ b a=>by
  rw[hQ.mp a];show⟨_,st,λv z=>by
    have z':Tg _=X6 v:=z;cases z'⟩
 keep:=λi h h' ⟨d,e,st⟩ k=>⟨d,e,k it (by simp) _ st⟩
 item:=by
  intro X p t hK L i c s σ H E I l ⟨d,e,st⟩ u;subst p t;have⟨x,y⟩:=u;have⟨ho,z1,z2,vs,kv,o',XJ,M1,f,B,g,C⟩:=(show bF X.prog X.w H s.heap r (.JX o (.dK kvs)) from I.IS r _ x)
  rw[ho]at f;cases f;rw[j]at g;cases g;have hl:vs.length=kvs.length:=(Paired.length kv).symm;have D:s.heap.DictAt (aR X.prog X.w) r vs ep:=⟨o,J,ho,B,j,C⟩
  obtain⟨q,hq,e1,e2⟩:∃q,vs[i]?=a5 q/\kvs[i].1=q.1/\RelV kvs[i].2 q.2:=by
   have N:i<vs.length:=by lia
   show⟨vs[i],by simp[N],?_⟩;show CL kv i y N
  rw[<-hl]at st;show wpAny_pyNext_items_item st D (k:=q.1) (v:=q.2) hq λkey h1 hk G hT hsz Oa=>⟨_,rfl,wpAny_letOwnedTupleGo_items (s:={s with heap:=h1}) G λm O T=>?_⟩
  have Y:it<s.heap.objs.size:=eh st;have To:m.get? s.heap.objs.size=a5 {cls:=.type "tuple",data:=.seq #[key,q.2]}:=(T.2 _ (JC Y)).trans hT;have k2:∀b o,b∉[it]->s.heap.get? b=a5 o->m.get? b=a5 o:=λb o a q=>by
   have n:b≠it:=λz=>a (by simp[z]);show(T.2 b n).trans (Oa b o n q)
  have I2:Inv X c σ (upd H s.heap.objs.size (.tup [kV kvs[i].1,kvs[i].2])) {s with heap:=m,toks:=s.toks}:=I.kZ l k2 (hU _)
   (show bF X.prog X.w _ m _ (.tup [kV kvs[i].1,kvs[i].2]) from⟨by change 2<=cL;decide,[key,q.2],.cons (by rw[e1];show D4 hk) (.cons e2 .nil),⟨_,To,rfl,_,rfl⟩⟩)
  show⟨.ref s.heap.objs.size,_,I2,rfl,⟨_,I.IS.fresh (hU _),rfl,λk v Rn=>?_⟩,⟨_,_,by rw[hl]at O;show O⟩,λb a=>?_⟩
  .rw[mx y]at Rn;rw[ts Rn]
  .have n:b≠s.heap.objs.size:=by rw[hQ.mp a];show hH Y
   rw[ak n];show(l b a).1
 done:=by
  intro X p t hK L i c s σ H E I l ⟨d,e,st⟩ u;subst p t;have⟨x,y⟩:=u;have⟨ho,z1,z2,vs,kv,o',XJ,M1,f,B,g,C⟩:=(show bF X.prog X.w H s.heap r (.JX o (.dK kvs)) from I.IS r _ x)
  rw[ho]at f;cases f;rw[j]at g;cases g;have hl:vs.length=kvs.length:=(Paired.length kv).symm;have D:s.heap.DictAt (aR X.prog X.w) r vs ep:=⟨o,J,ho,B,j,C⟩
  rw[<-hl]at st;show wpAny_pyNext_items_end (by simpa using I.ok.hd L) st D (Qk ⋯) λh' PN=>⟨rfl,I.oQ (t':=s.toks) l λb o a q=>PN b o (λz=>a (by simp[z])) q⟩
 self:=λA i s Q E ⟨d,e,st⟩ h=>kcp_self st h
section
abbrev Ii(i:Nat):TI:=λσ H R=>∃r o kvs,σ[i]?=a5 (a5 (.ref r))/\H r=a5 (.JX o (.dK kvs))/\R (Tr r o kvs) H
def ya(t:X.N[i]?=a5 x)(y:Ks X.env.scope x)(A:(x==("__debug__":Str))=cc)(B:(x==("__classdict__":Str))=cc)(C:(c.endLine==D.line)=b6):
  PI X (.Tuple es kx ps) (.Call (.Attribute (.Name x px) "items" c) [] [] D) (Ii i):=by
 intro d s σ H R I ⟨r,o,kvs,hs,G,J⟩;show S6 rfl C (I0 (bO t y A B d s σ H (λv g=>v=.ref r/\g=H) I ⟨_,hs,rfl,rfl⟩) λv s1 L=>?_);have⟨x1,g,h,O,m,Q⟩:=L;subst m Q;cases(show v=ko r from O);have⟨ho,m,lo,vs,kv,o',k,ep,n,f,j,l⟩:=(show bF X.prog X.w g s1.heap r (.JX o (.dK kvs)) from h.IS r _ G)
 rw[ho]at n;cases n;have hl:vs.length=kvs.length:=(Paired.length kv).symm;have hm:s1.heap.DictAt (aR X.prog X.w) r vs ep:=⟨o,k,ho,f,j,l⟩
 have p:s1.TypeIs (.ref r) "dict":=⟨o,ho,f.1⟩
 show⟨"dict","dict.items",PySem.F.plainAttrs_dict,PySem.F.slot_dict_items,PySem.F.type_dict_items,p,λa e=>⟨o,by cases e;show ho,f.2.1⟩,zy rfl (PySem.evalArgs_none (Ww PySem.F.slot_dict_items p PySem.F.entry_dict_items (PySem.F.args_dict_items_1 _) (Ĕ (aR X.prog X.w) r lo) ⟨⟨vs,o,k,ep,ho,f,j,l⟩,?_⟩))⟩;have k1:∀b u,s1.heap.get? b=a5 u->(s1.heap.push {cls:=.type "dict_items",data:=.fields #[.ref r]}).get? b=a5 u:=λb u z=>c2 _ z;have T:(s1.heap.push {cls:=.type "dict_items",data:=.fields #[.ref r]}).DictAt (aR X.prog X.w) r vs ep:=⟨o,k,k1 _ _ ho,f,j,l⟩
 show wpAny_pyIter_items (s:={s1 with heap:=s1.heap.push {cls:=.type "dict_items",data:=.fields #[.ref r]}}) ⟨_,ez _ rfl,rfl,rfl⟩ T ?_;have hsz:(s1.heap.push {cls:=.type "dict_items",data:=.fields #[.ref r]}).objs.size=s1.heap.objs.size+1:=K5 ..;have Y:=h.kept (t':=s1.toks) (h':=(s1.heap.push {cls:=.type "dict_items",data:=.fields #[.ref r]}).push {cls:=.type "dict_itemiterator",data:=.fields #[.none,.bool cc,.ref r,.int 0 0,.int vs.length 0,.int ep 0,.none,.none]}) λb u z=>c2 _ (k1 b u z);show⟨_,[_],_,_,g,rfl,Y,r_ (kvs:=kvs) j,⟨.none,.none,by rw[<-hl];show ez _ rfl⟩,λb hb=>?_,J⟩;rw[hQ.mp hb];have q:s1.heap.objs.size<=(s1.heap.push {cls:=.type "dict_items",data:=.fields #[.ref r]}).objs.size:=by rw[hsz];show Lo _
 show h.xq q (h.IS.fresh q)
end
end L2
namespace L2
open PySem PySem.Spec PyProof.Rows
def wa(l:d8)(a:Array dV)(n:Nat)(b:d8)(c:Array dV)(e:Nat)(dd:Option d8)(f:Array (Option dV))(o:¬(!a.isEmpty&&KN (a.size+c.size))=b6)(i:a.size<=cL)(j:a.size+c.size<=cL+1):
  Meets (Nn.«list.extend» ⟨[.ref l,.ref b],[]⟩) (λ_ R s=>s.heap.get? l=a5 {cls:=.type "list",dict:=b8,data:=.seq a n,slots:=#[]}/\s.heap.get? b=a5 {cls:=.type "list",dict:=dd,data:=.seq c e,slots:=f}/\R (.ok (.ret oT)) {s with heap:=s.heap.update l (qs λx=>x++c),toks:=s.toks}) :=
 .of_wp λprog w A R s h=>by
  have⟨p,g,d,q,os⟩:=s;have⟨hl,k,h⟩:=h;have r:=Y';have t:=VF;have u:=W2;have v:=Wz;have y:=WG;
  have m:(a++c).size<=cL+1:=by rw[U6];show j
  wp_walk using(RM hl rfl (hz:=i) (_hz':=m)),Ou hl,Ou k;show⟨_,rfl,h⟩
def wb(l:d8)(a:Array dV)(n:Nat)(b:d8)(c:Array dV)(e:Nat)(dd:Option d8)(f:Array (Option dV))(o:¬(!a.isEmpty&&KN (a.size+c.size))=b6)(i:a.size<=cL)(j:a.size+c.size<=cL+1):
  Meets (Nn.«list.extend» ⟨[.ref l,.ref b],[]⟩) (λ_ R s=>s.heap.get? l=a5 {cls:=.type "list",dict:=b8,data:=.seq a n,slots:=#[]}/\s.heap.get? b=a5 {cls:=.type "tuple",dict:=dd,data:=.seq c e,slots:=f}/\R (.ok (.ret oT)) {s with heap:=s.heap.update l (qs λx=>x++c),toks:=s.toks}) :=
 .of_wp λprog w A R s h=>by
  have⟨p,g,d,q,os⟩:=s;have⟨hl,k,h⟩:=h;have r:=Y';have t:=VF;have u:=W2;have v:=Wz;have y:=WG;
  have m:(a++c).size<=cL+1:=by rw[U6];show j
  wp_walk using(RM hl rfl (hz:=i) (_hz':=m)),Ou hl,Ou k;show⟨_,rfl,h⟩
section
def sd:OZ X "list.extend" (λx vs H Q=>∃l b xs c,x=.ref l/\vs=[.ref b]/\H l=a5 (.lst xs)/\(Jw X.K H b c\/JI X.K H b c)/\xs.length+c.length<=cL/\Q .IV (upd H l (.lst (xs++c)))):=by
 intro g s σ H x vs v us Q I A rv h;have⟨l,b,xs,c,rfl,rfl,w,hB,hz,q⟩:=h;cases A;have⟨u,rfl,B⟩:=rv.one;cases B;have⟨z,f,n,r,hl,e⟩:=I.vQ w;have i:∀a:List dV,Vals c a->EP X g σ Q oT {s with heap:=s.heap.update l (qs λx=>x++a.toArray),toks:=s.toks}:=λa d=>by
  show⟨.IV,_,I.mj (its':=f++a) w e (by simp) (r.append d) ?_,rfl,q⟩;rw[hY];lia
 have m:∀a:List dV,c.length=a.length->f.toArray.size+a.toArray.size<=cL:=λa h=>by rw[fx,fx];lia
 have y:∀a:List dV,c.length=a.length->¬(!f.toArray.isEmpty&&KN (f.toArray.size+a.toArray.size))=b6:=λa h=>by
  rw[xA (m a h),Ts];show i3
 rcases hB with hB|hB
 .obtain⟨a,d,o,_⟩:=I.list hB;obtain⟨⟨cls,dd,data,p⟩,ho,j,t,k⟩:=o.isList;simp only at j k;subst j k;have Ms:=d.length;have C:=m a Ms;show R' Õ ⟨_,e,rfl⟩ È (Z_ _ _) (wa l f.toArray n b a.toArray t dd p (y a Ms) ⋯ ⋯) ⟨e,ho,i a d⟩
 .obtain⟨a,d,o,_⟩:=I.tuple hB;obtain⟨⟨cls,dd,data,p⟩,ho,j,t,k⟩:=o;simp only at j k;subst j k;have Ms:=d.length;have C:=m a Ms;show R' Õ ⟨_,e,rfl⟩ È (Z_ _ _) (wb l f.toArray n b a.toArray t dd p (y a Ms) ⋯ ⋯) ⟨e,ho,i a d⟩
end
end L2
namespace L2
open PySem PySem.W PyProof.Rows
section
def wc{vs:List (Key×dV)}(hk:vs.map (·.1)=ks.map mu)(hl:acc.length=vs.length)(h:∀(j:Nat) (v:dV),acc[j]?=a5 v->∃k x,vs[j]?=a5 (k,x)/\(aR P w).is k v=b6):Qw acc ks:=by
 induction acc generalizing ks vs with
 |nil =>
  cases vs with
  |nil=>cases ks with
   |nil=>show .nil
   |cons _ _=>cases hk
  |cons _ _=>cases hl
 |cons v acc b =>
  cases vs with
  |nil=>cases hl
  |cons p vs =>
   cases ks with
   |nil=>cases hk
   |cons k ks =>
    simp only[d7,OA]at hk;have⟨k',x,a,c⟩:=h 0 v rfl;simp only[List.getElem?_cons_zero,QM]at a;subst a;have d:k'=mu k:=hk.1;subst d;rcases bo (show jD (mu k) v=b6 from c) with⟨i,t,e,rfl⟩|⟨y,t,e,rfl⟩
    .cases e
    .cases e;show .cons _ _ (b hk.2 (by simpa using hl) λj u f=>h (j+1) u (by simpa using f))
def jl:X.calm=b6->jE X (.builtin "sorted") (λxs H Q=>∃(d:d8) (kvs:List (Key×V)) (ks:List Str),xs=[.ref d]/\H d=a5 (.dK kvs)/\kvs.map (·.1)=ks.map mu/\ks.length<64/\∀q,H q=b8->Q (.ref q) (upd H q (.lst ((aP ks).map V.str)))):=by
 intro l a s σ H xs us Q I rs h;have⟨d,kvs,ks,rfl,e,hk,D,q⟩:=h;have⟨u,rfl,r⟩:=vals1 rs;cases r;have⟨hz,lo,vs,kv,dd⟩:=xE I.IS e;have b:vs.length=kvs.length:=(Paired.length kv).symm;have m:kvs.length=ks.length:=by rw[<-c4 (f:=(·.1)),hk,c4]
 have n:vs.map (·.1)=ks.map mu:=by
  rw[<-hk];clear dd b hk m e q hz;induction kv with
  |nil=>rfl
  |cons r _ p=>rw[d7,d7,p,r.1]
 have⟨o,es,ep,t⟩:=id dd;have x:(64:Nat)<=cL:=by decide
 show fj (kdu_collect (A:=X.A.in1) (kdl_dict (knd:=aR X.prog X.w) (kvs:=vs) (ep:=ep) lo) (I.ok.hd l) ⟨o,es,t⟩ ⋯ λh' c acc y g=>⟨ks,wc n (by rw[gj];show g.1) (λj v z=>g.2 j v (by rw[<-ri];show z)),by rw[gj,g.1];lia,λG B C k2 i s2=>?_⟩);have k:Inv X a σ H {s with heap:=h',toks:=c}:=I.kept (t':=c) y;show⟨.ref h'.objs.size,_,k.laid (t':=c) (o:=.lst ((aP ks).map V.str)) k2 (hU _) ⟨by rw[c4,cn];lia,B,C,dH s2,i⟩,rfl,q _ (k.IS.fresh (hU _))⟩
end
abbrev ic{α:Type}(lt:Nat->Nat->Bool):KasT α->α
 |.ret x=>x
 |.ask i j k=>ic lt (k (lt i j))
def Ke{α:Type}(n:Nat)(P:α->Prop):KasT α->Prop
 |.ret x=>P x
 |.ask i j k=>i<n/\j<n/\∀b,Ke n P (k b)
theorem Ke.O'{P:α->Prop}{Q:β->Prop}{f:α->KasT β}(a:∀x,P x->Ke n Q (f x)):∀{t:KasT α},Ke n P t->Ke n Q (t.bind f)
 |.ret x,h=>a x h
 |.ask i j k,h=>⟨h.1,h.2.1,λb=>Ke.O' a (h.2.2 b)⟩
theorem Ke.got:∀{t:KasT α},Ke n P t->P (ic lt t)
 |.ret _,h=>h
 |.ask i j k,h=>Ke.got (t:=k (lt i j)) (h.2.2 _)
theorem Ke.wp(b:∀i j,i<n->j<n->∀C:Bool->d5->Prop,C (lt i j) s->a i j C s):
  ∀{t:KasT α},Ke n P t->Q (ic lt t) s->t.kasWp a Q s
 |.ret _,_,q=>q
 |.ask i j k,h,q=>b i j h.1 h.2.1 _ (Ke.wp b (t:=k (lt i j)) (h.2.2 _) q)
abbrev Pm(n:Nat)(p:Array Nat):Prop:=p.toList.Perm (gs n)
section
variable{n:Nat}(hn:0<n)
include hn
def Pm.at(h:Pm n p)(i:Nat):p.getD i 0<n:=by
 by_cases a:i<p.size
 .have:p.getD i 0=p[i]:=by simp[Uz,a]
  rw[this];have b:p[i]∈p.toList:=by simp
  show u5.mp (h.mem_iff.mp b)
 .have:p.getD i 0=0:=by simp[Uz,a]
  rw[this];show hn
omit hn in
def Pm.rev(h:Pm n p)(i j:Nat):Pm n (kas_rev p i j):=(mirror_perm p i j _).toList.trans h
omit hn in
def Pm.XN(h:Pm n p)(i j:Nat):Pm n (bubble p i j):=(bubble_perm p i j).toList.trans h
theorem se(h:Pm n p):∀(f m:Nat),Ke n (λ_=>True) (kas_asc p f m)
 |0,m=>trivial
 |f+1,m=>⟨h.at hn _,h.at hn _,λb=>by
  cases b
  .show se h f (m+1)
  .show trivial⟩
theorem kl:∀(f:Nat) (p:Array Nat) (m q:Nat),Pm n p->Ke n (λr=>Pm n r.1) (kas_desc f p m q)
 |0,p,m,q,h=>h
 |f+1,p,m,q,h=>⟨h.at hn _,h.at hn _,λb=>by
  cases b
  .show⟨h.at hn _,h.at hn _,λb=>by
    cases b
    .show kl f p (m+1) (q+1) h
    .show h⟩
  .change Ke n _ (if q>0 then _ else _);split
   .show kl f _ _ _ (h.rev _ _)
   .show kl f _ _ _ h⟩
def uq(h:Pm n p)(m r:Nat):Ke n (λx=>Pm n x.2) (kas_tail3 m r p):=by
 unfold kas_tail3;show Ke.O' (λx _=>?_) (se hn (h.rev _ _) _ _);show h.rev _ _
def ur(h:Pm n p)(m r:Nat):Ke n (λx=>Pm n x.2) (kas_descPart m r p):=by
 unfold kas_descPart;show Ke.O' (λx a=>?_) (kl hn _ _ _ _ h);split
 .show uq hn (a.rev _ _) _ _
 .show uq hn a _ _
def yb(h:Pm n p)(r:Nat):Ke n (λx=>Pm n x.2) (kas_count r p):=by
 unfold kas_count;show Ke.O' (λm _=>?_) (se hn h _ _);split
 .show h
 .split
  .show⟨h.at hn _,h.at hn _,λb=>by
    cases b
    .show ur hn (h.rev _ _) _ _
    .show h⟩
  .show ur hn h _ _
theorem k7(h:Pm n p)(k:Nat):∀(f l r:Nat),Ke n (λ_=>True) (kas_place p k f l r)
 |0,l,r=>trivial
 |f+1,l,r=>by
  unfold kas_place;split
  .show trivial
  .show⟨h.at hn _,h.at hn _,λb=>by
    cases b
    .show k7 h k f _ _
    .show k7 h k f _ _⟩
theorem yc:∀(f:Nat) (p:Array Nat) (k:Nat),Pm n p->Ke n (Pm n) (kas_bin f p k)
 |0,p,k,h=>h
 |f+1,p,k,h=>Ke.O' (λl _=>yc f _ _ (h.XN _ _)) (k7 hn h _ _ _ _)
def uu:Ke n (Pm n) (NZ n):=by
 unfold NZ;show Ke.O' (λx a=>?_) (yb hn (p:=List.toArray (gs n)) (by unfold Pm;simp) n);split
 .show yc hn _ _ _ a
 .show a
end
def k8(lt:Nat->Nat->Bool)(n:Nat):(ic lt (NZ n)).toList.Perm (gs n):=by
 cases n with
 |zero=>show Lq _
 |succ n=>show(uu (Y4 n)).got
section
def we(ho:s.heap.get? a=a5 (vr "list" vs.toArray n))(l:vs.length<64)
  (m:2<=vs.length->∀s1:d5,(∀b o,b≠a->s.heap.get? b=a5 o->s1.heap.get? b=a5 o)->d3 (et prog w) A (keyKind' vs.toArray) (λκ s'=>s'=s1/\∀i j,i<vs.length->j<vs.length->∀C:Bool->d5->Prop,C (lt i j) s1->ÿ prog w A κ vs i j C s1) (λ_ _=>False) s1)
  (h:P (.done (.ret .none)) {s with heap:=ò s.heap a vs (((ic lt (NZ vs.length)).toList.map λi=>vs.getD i oT).toArray)}) :
  d3 (et prog w) A (Nn.«list.sort» ⟨[.ref a],[]⟩) P E s:=by
 have N:a<s.heap.objs.size:=eh ho;have u:(64:Nat)<=cL:=by decide
 rw[list_sort_plain];show bD (Á ho rfl (bD (Vu ho rfl ?_ (by rw[fx];lia) (i5 _))));obtain⟨k,q⟩:∃k,(s.heap.update a (qs λ_=>(#[]:Array dV))).get? a=a5 (vr "list" #[] k):=⟨_,ģ ho λ_=>#[]⟩
 show bD (Ú q rfl (bD (wpAny_newTuple (bD (Zk (tA ?_) (i5 _))) (by change vs.length<=_;lia))));have d:(((s.heap.update a (qs λ_=>(#[]:Array dV))).push (vr "tuple" vs.toArray 0)).push (vr "list" #[] 0)).get? a=a5 (vr "list" #[] k):=c2 _ (c2 _ q);have f:∀b o,b≠a->s.heap.get? b=a5 o->(((s.heap.update a (qs λ_=>(#[]:Array dV))).push (vr "tuple" vs.toArray 0)).push (vr "list" #[] 0)).get? b=a5 o:=λb o y e =>
  c2 _ (c2 _ (by rw[OH _ _ _ _ y];show e))
 change d3 (et prog w) A _ P E {s with heap:=((s.heap.update a (qs λ_=>(#[]:Array dV))).push (vr "tuple" vs.toArray 0)).push (vr "list" #[] 0)}
 dsimp only
 have r:((ic lt (NZ vs.length)).toList.map λi=>vs.getD i oT).length=vs.length:=by rw[c4,(k8 lt _).length_eq,C0]
 by_cases c:vs.toArray.size<2
 .rw[ļ c,ļ c];show bD (df ?_);rw[StateT.run_pure];show bD (df ?_);have z:((ic lt (NZ vs.length)).toList.map λi=>vs.getD i oT).toArray=(vs.toArray.zip vs.toArray).map (·.2):=by
   have g:=k8 lt vs.length;clear h m r f d ho l
   match vs,c,g with
   |[],_,g=>rw[show(ic lt (NZ ([]:List dV).length)).toList=[] from List.perm_nil.mp g];simp
   |[v],_,g=>rw[show(ic lt (NZ [v].length)).toList=[0] from List.perm_singleton.mp g];simp
   |_::_::_,c,_=>simp at c;lia
  rw[z]at h
  dsimp only
  show bD (Ú d rfl (bD (Vu d rfl ?_ (i5 _) (by rw[Rt];change(pairsOf vs).size<=_;rw[pairsOf_size];lia))));simp only[bne_self_eq_false,K1,if_false];show df h
 .rw[Ľ c,Ľ c];have t:2<=vs.length:=by rw[fx]at c;lia
  show bD (my (m t _ f) (λκ O hk=>?_) λ_ _ x=>x.elim);have⟨rfl,hk⟩:=hk;show bD (my (kat_run (κ:=κ) (ks:=vs) (vs:=vs) (G:=λp s'=>p=ic lt (NZ vs.length)/\s'={s with heap:=((s.heap.update a (qs λ_=>(#[]:Array dV))).push (vr "tuple" vs.toArray 0)).push (vr "list" #[] 0)})
   (Q:=λst' s'=>∃p:Array Nat,arrOf st'=p.map (kas_item (vs.toArray.zip vs.toArray))/\failedOf st'=b8/\p=ic lt (NZ vs.length)/\s'={s with heap:=((s.heap.update a (qs λ_=>(#[]:Array dV))).push (vr "tuple" vs.toArray 0)).push (vr "list" #[] 0)})
   rfl t l (λp st' s' T B D H=>⟨p,B,D,H⟩) (Ke.wp hk (uu ⋯) ⟨rfl,rfl⟩)) ?_ λ_ _ e=>e)
  rintro⟨⟨⟩,st'⟩ s' ⟨p,I,J,rfl,rfl⟩
  dsimp only
  have L:=kat_snds rfl I;rw[L,J];show bD (Ú d rfl (bD (Vu d rfl ?_ (i5 _) (by rw[fx,r];lia))));simp only[bne_self_eq_false,K1,if_false];show df h
end
@[reducible]def A0:=Str×Int
abbrev NA(ks:List Str)(i j:Nat):Bool:=cK ((ks.getD i tv).cps.toList<(ks.getD j tv).cps.toList)
abbrev j3(ks:List Str):List Nat:=(ic (NA ks) (NZ ks.length)).toList
def gy(ks:List Str):(j3 ks).Perm (gs ks.length):=k8 _ _
abbrev F8(x:Str)(n:Int)(t u:Tok):Obj:={cls:=.type "tuple",data:=.seq #[.str x t,.int n u]}
abbrev fF(h:Jv)(as:List d8)(ps:List A0):Prop:=as.length=ps.length/\∀(j:Nat) (a:d8),as[j]?=a5 a->∃p t u,ps[j]?=a5 p/\h.get? a=a5 (F8 p.1 p.2 t u)
def fF.keeps(x:fF h as ps)(k:∀b o,b∈as->h.get? b=a5 o->h'.get? b=a5 o):fF h' as ps :=
 ⟨x.1,λj a e=>let ⟨p,t,u,c,d⟩:=x.2 j a e;⟨p,t,u,c,k a _ (mN e) d⟩⟩
def fF.tail(x:fF h (a::as) (p::ps)):fF h as ps :=
 ⟨by have:=x.1;simpa using this,λj b e=>by
  have⟨q,t,u,c,d⟩:=x.2 (j+1) b (by simpa using e);show⟨q,t,u,by simpa using c,d⟩⟩
theorem fF.fU:∀{as:List d8}{ps:List A0},fF h as ps->∃b:List dV,KatTups h (as.map ko) b/\b.length=as.length/\∀v∈b,∃x t,v=t5 x t
 |[],_,_=>⟨[],KatTups.nil,rfl,by simp⟩
 |a::as,[],x=>by have:=x.1;simp at this
 |a::as,p::ps,x=>by
  have⟨b,c,d,e⟩:=fF.fU x.tail;have⟨q,t,u,g,f⟩:=x.2 0 a rfl;show⟨.str q.1 t::b,KatTups.cons f rfl rfl rfl c,by simp[d],λv hv=>?_⟩;rcases d6.mp hv with rfl|hv
  .show⟨_,_,rfl⟩
  .show e v hv
theorem m9:∀{l:List α}{m:List β}{i:Nat}{x:α},Paired F l m->l[i]?=a5 x->∃y,m[i]?=a5 y/\F x y
 |_,_,_,_,.nil,e=>by simp at e
 |_,_,0,_,.cons r _,e=>by simp at e;subst e;show⟨_,rfl,r⟩
 |_,_,i+1,x,.cons _ t,e=>by
  have⟨u,a,b⟩:=m9 (i:=i) (x:=x) t (by simpa using e);show⟨u,by simpa using a,b⟩
section
def D5(x:fF s.heap as ps)(g:(ps.map (·.1)).Nodup)(e:i<as.length)(f:j<as.length)(q:C (NA (ps.map (·.1)) i j) s):
  ÿ prog w A (tuples' b6) (as.map ko) i j C s:=by
 have⟨p,t,u,d,k⟩:=x.2 i as[i] (by simp[e]);have⟨a,t',u',c,l⟩:=x.2 j as[j] (by simp[f]);have hl:=x.1;have m:i<ps.length:=by lia
 have n:j<ps.length:=by lia
 have o:(as.map ko).getD i oT=.ref as[i]:=by simp[Oz,e]
 have r:(as.map ko).getD j oT=.ref as[j]:=by simp[Oz,f]
 have v:(ps.map (·.1)).getD i tv=p.1:=by simp[Oz,d]
 have y:(ps.map (·.1)).getD j tv=a.1:=by simp[Oz,c]
 unfold ÿ;rw[o,r];show kat_lt (b:=b6) k rfl l rfl ?_;unfold NA at q;rw[v,y]at q;change KatLex prog w A b6 (cK (2<2)) C [(.str p.1 t,.str a.1 t'),(.int p.2 u,.int a.2 u')] 0 s;show kat_cons (Ď ?_);by_cases h:p.1=a.1
 .have z:i=j:=by
   have B:(ps.map (·.1))[i]'(by simpa using m)=(ps.map (·.1))[j]'(by simpa using n):=by
    obtain⟨_,D⟩:=dt.mp d;obtain⟨_,G⟩:=dt.mp c;simp[D,G,h]
   show(Ì g).mp B
  subst z;rw[d]at c;cases c;rw[Ŀ rfl];show kat_yes (kat_cons (ď ?_));rw[show(p.2==p.2)=b6 by simp];show kat_yes (kat_nil ?_);have:cK (p.1.cps.toList<p.1.cps.toList)=cc:=ľ (List.lt_irrefl _);rw[this]at q;show q
 .rw[ľ h];show kat_no (oneLt_str q)
def D6(x:fF s.heap as ps)(c:(ps.map (·.1)).Nodup)(g:2<=as.length):
  d3 (et prog w) A (keyKind' (as.map ko).toArray) (λκ s'=>s'=s/\∀i j,i<(as.map ko).length->j<(as.map ko).length->∀C:Bool->d5->Prop,C (NA (ps.map (·.1)) i j) s->ÿ prog w A κ (as.map ko) i j C s) (λ_ _=>False) s:=by
 have⟨h,d,k,e⟩:=x.fU;show kat_kind (T:=.type "str") d ⋯ (λv f=>?_) rfl ⟨rfl,λi j a b C q=>?_⟩
 .have⟨y,t,rfl⟩:=e v f;show Looks.of_pure rfl
 .rw[c4]at a b;show D5 x c a b q
end
abbrev j4(H:Hp):List (d8×List V)->Hp
 |[]=>H
 |(a,vs)::r=>upd (j4 H r) a (.tup vs)
theorem k9:∀{l:List (d8×List V)}{b:d8}{o:HO},j4 H l b=a5 o->(∃vs,(b,vs)∈l/\o=.tup vs)\/H b=a5 o
 |[],b,o,h=>.inr h
 |(a,vs)::r,b,o,h=>by
  by_cases c:b=a
  .subst c;rw[j4,ax]at h;cases h;show .inl ⟨vs,by simp,rfl⟩
  .rw[j4,ak c]at h;rcases k9 h with⟨ws,d,e⟩|q
   .show .inl ⟨ws,by simp[d],e⟩
   .show .inr q
theorem k_:∀{l:List (d8×List V)}{b:d8},(∀p∈l,p.1≠b)->j4 H l b=H b
 |[],b,_=>rfl
 |(a,vs)::r,b,h=>by
  rw[j4,ak (nH (h _ mA))];show k_ λp c=>h p (by simp[c])
theorem uw:∀{l:List (d8×List V)}{b:d8}{vs:List V},(l.map (·.1)).Nodup->(b,vs)∈l->j4 H l b=a5 (.tup vs)
 |(a,ws)::r,b,vs,d,h=>by
  have c:a∉r.map (·.1)/\(r.map (·.1)).Nodup:=by simpa using d
  rcases d6.mp h with h|h
  .cases h;show ax
  .have:b≠a:=λz=>c.1 (by rw[<-z];show i6.mpr ⟨_,h,rfl⟩);rw[j4,ak this];show uw c.2 h
section
def Inv.many(I:Inv X a σ H s)(k:∀b u,s.heap.get? b=a5 u->h'.get? b=a5 u)(d:∀b o,H b=a5 o->H' b=a5 o)
  (f:∀b o,H' b=a5 o->H b=a5 o\/(s.heap.objs.size<=b/\bF X.prog X.w H' h' b o)):Inv X a σ H' {s with heap:=h',toks:=t' }:=by
 show I.un ⟨λb u q _ _ _=>k b u q,λb u q _ _ _=>⟨u.slots,k b u q⟩,λb u q n _=>?_,λb u q _=>⟨u,k b u q⟩,λb xs q=>d b _ q,λb u xs q=>d b _ q,λb ps q=>⟨#[],by rw[d b _ q];simp⟩⟩ λb o e=>?_
 .cases e:H' b with
  |none=>rfl
  |some o =>
   rcases f b o e with z|⟨z,_⟩
   .rw[n]at z;cases z
   .show absurd (i0 (eh q) z) (t8 _)
 .rcases f b o e with z|⟨_,z⟩
  .show(I.IS b o z).fJ (λc v _ q=>k c v q) (λc q=>d c _ q) λc xs q=>d c _ q
  .show z
abbrev MT(p:A0):List V:=[.str p.1,.int p.2]
def oR{ps:List A0}(hc:X.calm=b6)(I:Inv X g σ H s)(e:H d=a5 (.dK (ps.map λp=>((mu p.1:Key),V.int p.2))))(Jj:(ps.map (·.1)).Nodup)(Lb:ps.length<64)
  (q:∀(as:List d8) (L:d8),as.length=ps.length->as.Nodup->(∀a∈L::as,H a=b8)->L∉as->Q (.ref L) (upd (j4 H (as.zip (ps.map MT))) L (.lst ((j3 (ps.map (·.1))).map λi=>V.ref (as.getD i 0))))) :
  d3 (et X.prog X.w) X.A (NW (.builtin "dict.items") [.ref d]) (λv s1=>d3 (et X.prog X.w) X.A (NW (.builtin "sorted") [v]) (EP X g σ Q) X.xe s1) X.xe s:=by
 have ab:(64:Nat)<=cL:=by decide
 have⟨hz,lo,vs,kv,dd⟩:=xE I.IS e;have C:vs.length=ps.length:=by
  have:=Paired.length kv;simpa using this.symm
 have⟨o,es,ep,r⟩:=id dd;show Ww PySem.F.slot_dict_items (show s.TypeIs (.ref d) "dict" from⟨o,r.1,r.2.1.1⟩) PySem.F.entry_dict_items (PySem.F.args_dict_items_1 _) (Ĕ (aR X.prog X.w) d lo) ⟨⟨vs,dd⟩,?_⟩;change d3 (et X.prog X.w) X.A (NW (.builtin "sorted") [.ref s.heap.objs.size]) (EP X g σ Q) X.xe {s with heap:=s.heap.push {cls:=.type "dict_items",data:=.fields #[.ref d]}};have k1:∀b u,s.heap.get? b=a5 u->(s.heap.push {cls:=.type "dict_items",data:=.fields #[.ref d]}).get? b=a5 u:=λb u z=>c2 _ z;have ZJ:(s.heap.push {cls:=.type "dict_items",data:=.fields #[.ref d]}).DictOf (aR X.prog X.w) d vs:=⟨o,es,ep,k1 _ _ r.1,r.2⟩
 have KZ:(s.heap.push {cls:=.type "dict_items",data:=.fields #[.ref d]}).DictAt (aR X.prog X.w) d vs ep:=⟨o,es,k1 _ _ r.1,r.2⟩
 show WN kind_sorted plain_sorted entry_sorted (args_sorted1 _) ?_;unfold Nn.«sorted»;show bD (m:=checkCount "sorted" 1 1 _) (df ?_);show bD (kdx_collect (A:=X.A.in1) (knd:=aR X.prog X.w) (kvs:=vs) (ep:=ep) (I.ok.hd hc) ⟨_,ez _ rfl,rfl,rfl⟩ KZ ⋯ λc tk as hk hl D=>?_);have G:as.length=ps.length:=hl.trans C;have f:∀a∈as,s.heap.objs.size<=a:=λa ha=>by
  have:=D.above a ha;have z:(s.heap.push {cls:=.type "dict_items",data:=.fields #[.ref d]}).objs.size=s.heap.objs.size+1:=K5 ..;have VC:(s.heap.push {cls:=.type "dict_items",data:=.fields #[.ref d]}).objs.size<a:=this;lia
 have pa:fF c as ps:=⟨G,λj a ea=>by
  have⟨key,k,x,N,O,e3⟩:=D.pairs j a ea;have B:j<ps.length:=by rw[<-G];show(dt.mp ea).1
  have⟨y,ey,r1,r2⟩:=m9 kv (i:=j) (x:=((mu ps[j].1:Key),V.int ps[j].2)) (by simp[B]);rw[N]at ey;cases ey;obtain⟨tx,rfl⟩:∃t,x=.int ps[j].2 t:=r2;have XQ:k=mu ps[j].1:=r1.symm;subst XQ;have⟨t,rfl⟩:=Y9 (x:=ps[j].1) (v:=key) O;show⟨ps[j],t,tx,by simp[B],e3⟩⟩
 have nd:as.Nodup:=D.rise.imp λh=>hH h;show bD (Zk ?_ (by rw[c4];lia));have T:(c.push (vr "list" (as.map ko).toArray 0)).get? c.objs.size=a5 (vr "list" (as.map ko).toArray 0):=ez _ rfl;change d3 _ _ _ _ _ {s with heap:=c.push (vr "list" (as.map ko).toArray 0),toks:=tk};have VD:∀a∈as,a<c.objs.size:=λa ha=>D.there ha;show bD (tA (J1 ķ ⟨_,T,rfl⟩ Ĥ (we (lt:=NA (ps.map (·.1))) T (by rw[c4];lia) (λh2 s1 ks=>?_) ⟨_,rfl,?_⟩) (Ĺ _)))
 .show D6 (pa.keeps λb o J z=>ks b o (hH (VD b J)) (c2 _ z)) Jj (by rw[c4]at h2;show h2)
 .have⟨ee,he⟩:=sortedHeap_at (out:=((ic (NA (ps.map (·.1))) (NZ (as.map ko).length)).toList.map λi=>(as.map ko).getD i oT).toArray) T;have n:∀b o,c.get? b=a5 o->(ò (c.push (vr "list" (as.map ko).toArray 0)) c.objs.size (as.map ko) ((ic (NA (ps.map (·.1))) (NZ (as.map ko).length)).toList.map λi=>(as.map ko).getD i oT).toArray).get? b=a5 o:=λb o z=>by
   have Jh:b<c.objs.size:=eh z;rw[Ķ (hH Jh) (by rw[K5];show R_ Jh)];show c2 _ z
  have N5:s.heap.objs.size<=c.objs.size:=Qc (eh (hk _ _ (ez _ rfl)));have eP:((ic (NA (ps.map (·.1))) (NZ (as.map ko).length)).toList)=j3 (ps.map (·.1)):=by
   unfold j3;rw[c4,c4,G]
  have Pa:H c.objs.size=b8:=I.IS.fresh N5;have XR:c.objs.size∉as:=λz=>t8 _ (VD _ z);have VE:∀a∈as,H a=b8:=λa ha=>I.IS.fresh (f a ha);have Tz:∀{b:d8} {ws:List V},(b,ws)∈as.zip (ps.map MT)->b∈as:=λz=>(QO z).1;show df ⟨_,rfl,.ref c.objs.size,upd (j4 H (as.zip (ps.map MT))) c.objs.size (.lst ((j3 (ps.map (·.1))).map λi=>V.ref (as.getD i 0))),?_,rfl,q as _ G nd (λa ha=>?_) XR⟩
  .show I.many (λb u z=>n b u (hk b u (k1 b u z))) (λb o z=>?_) λb o z=>?_
   .have n1:b≠c.objs.size:=λy=>by rw[y,Pa]at z;cases z
    rw[ak n1,k_ λp hp y=>?_]
    .show z
    .have:=VE p.1 (Tz (b:=p.1) (ws:=p.2) hp);rw[y,z]at this;cases this
   .by_cases J:b=c.objs.size
    .subst J;rw[ax]at z;cases z;show .inr ⟨N5,by rw[c4,(gy _).length_eq,C0,c4];lia,(j3 (ps.map (·.1))).map λi=>(as.map ko).getD i oT,ee,?_,?_⟩
     .have Y:∀i∈j3 (ps.map (·.1)),i<as.length:=λi hi=>by
       have:=u5.mp ((gy _).mem_iff.mp hi);rw[c4]at this;lia
      generalize j3 (ps.map (·.1))=l at Y;induction l with
      |nil=>show .nil
      |cons i l ih =>
       show .cons ?_ (ih λj B=>Y j (by simp[B]));have hi:=Y i (by simp);change RelV (.ref (as.getD i 0)) ((as.map ko).getD i oT);have:(as.map ko).getD i oT=.ref (as.getD i 0):=by simp[Oz,hi]
       rw[this];rfl
     .rw[<-eP];show he
    .rw[ak J]at z;rcases k9 z with⟨ws,z1,rfl⟩|z1
     .have⟨j,B,ej⟩:=Zg.mp z1;have TB:j<as.length:=by simp at B;lia
      have Tw:j<ps.length:=by lia
      have XS:as[j]=b/\MT ps[j]=ws:=by simpa using ej
      have⟨rfl,rfl⟩:=XS;have⟨p,t,u,N,O⟩:=pa.2 j as[j] (by simp[TB]);have:p=ps[j]:=by simpa[Tw] using N.symm
      subst this;show .inr ⟨f _ (by simp),by change 2<=cL;lia,[.str ps[j].1 t,.int ps[j].2 u],.cons ⟨t,rfl⟩ (.cons ⟨u,rfl⟩ .nil),_,n _ _ O,rfl,0,rfl⟩
     .show .inl z1
  .rcases d6.mp ha with rfl|ha
   .show Pa
   .show VE a ha
end
end L2
namespace L2
open PySem PySem.Spec PyProof.Rows
theorem oS:∀{bs:List Bool}{us:List dV},Vals (bs.map V.bl) us->us=bs.map N0
 |[],_,.nil=>rfl
 |_::_,_,.cons r t=>by rw[show _=N0 _ from r,oS t];rfl
abbrev yd(b:Bool):dV->Bool
 |.bool c=>c==b
 |_=>cc
section
abbrev D7:V->List V->Hp->VK->Prop:=λx vs H Q=>∃(l:d8) (bs:List Bool) (b:Bool),x=.ref l/\vs=[.bl b]/\H l=a5 (.lst (bs.map V.bl))/\Q (.int (bs.count b:Nat)) H
def ye:OZ X "list.count" D7:=by
 intro a s σ H x vs v us Q I d rv h;have⟨l,bs,b,rfl,rfl,f,q⟩:=h;cases d;have⟨u,rfl,g⟩:=rv.one;cases g;have⟨z,j,n,r,hl,e⟩:=I.vQ f;obtain rfl:=oS r;show R' F.slot_list_count ⟨_,e,rfl⟩ F.entry_list_count (F.args_list_count_2 _ _) (SeqAt.list_countAt l _ n b8 #[] (.bool b) (yd b)) ⟨e,λy i=>?_,?_⟩
 .obtain⟨c,_,rfl⟩:=i6.mp (É.mp i);show WJ c b
 .have:(bs.map N0).countP (yd b)=bs.count b:=by rw[List.countP_map];rfl
  show⟨.int (bs.count b:Nat),H,I.tok _,⟨s.toks,by rw[<-this]⟩,q⟩
abbrev D8:V->List V->Hp->VK->Prop:=λx vs H Q=>∃(l:d8) (bs:List Bool) (b:Bool) (j:Nat),x=.ref l/\vs=[.bl b]/\H l=a5 (.lst (bs.map V.bl))/\bs[j]?=a5 b/\(∀m,m<j->bs[m]?≠a5 b)/\Q (.int j) H
def yf:OZ X "list.index" D8:=by
 intro a s σ H x vs v us Q I d rv h;have⟨l,bs,b,j,rfl,rfl,f,g,i,q⟩:=h;cases d;have⟨u,rfl,k⟩:=rv.one;cases k;have⟨z,C,n,r,hl,e⟩:=I.vQ f;obtain rfl:=oS r;have⟨o,p⟩:=dt.mp g;have hz:cL<2 ^ 62:=by decide
 rw[c4]at z;show R' F.slot_list_index ⟨_,e,rfl⟩ F.entry_list_index (F.args_list_index_2 _ _) (SeqAt.list_indexAt l _ n b8 #[] (.bool b) (yd b) j (by simpa using o) ⋯ (by simp[yd,p]) (λm t w=>?_)) ⟨e,λy A=>?_,?_⟩
 .have B:m<bs.length:=by simpa using t
  have:=i m w;rw[mx B]at this;simp only[List.getElem_toArray,Vz,yd];rw[ł];show λz=>this (by rw[z])
 .obtain⟨c,_,rfl⟩:=i6.mp (É.mp A);show WJ c b
 .show⟨.int j,H,I.tok _,⟨_,rfl⟩,q⟩
end
end L2
namespace L2
open PySem PyProof.Rows PySem.W
abbrev Ij(h:Jv)(e C:d8)(a0:dV)(T:Option d8)(c:dV):Prop:=∃oe vs,h.get? e=a5 oe/\oe.cls=.ref C/\oe.data=.fields vs/\vs[0]?=a5 a0/\match T with
 |none=>vs[1]?=a5 .none
 |some T=>T≠e/\vs[1]?=a5 (.ref T)/\∃a b,h.get? T=a5 a/\a.data=.fields b/\b[3]?=a5 c
structure bV(P:u3)(w:ve)(stack:List Env)(H:Hp)(s:d5)(e C:d8)(T:Option d8)(fl:dV)(H':Hp)(s':d5):Prop where
 os:s'.os=s.os
 bare:Sv s'.gens
 un:Un (JF stack) [] H H' s.heap s'.heap
 IS:J2 P w H' s'.heap
 new:s.heap.get? e=b8
 he:H' e=b8
 exc:∃a0,Ij s'.heap e C a0 T fl
 hT:∀a,T=a5 a->s.heap.get? a=b8/\H' a=b8
abbrev Ob(P:u3)(w:ve):NX:=λouter H s E v s'=>∃e C T H',v=.ref e/\bV P w outer H s e C (a5 T) .none H' s'/\E (.ref C) b8 H'
def bF.there(x:bF P w H h a o):∃u,h.get? a=a5 u:=by
 cases o with
 |lst xs=>obtain⟨_,_,_,_,e⟩:=x;show⟨_,e⟩
 |tup xs=>obtain⟨_,_,_,_,e,_⟩:=x;show⟨_,e⟩
 |set S n=>obtain⟨o,_,_,_,e,_⟩:=x;show⟨_,e⟩
 |ins C c b=>obtain⟨_,_,_,e,_⟩:=x;show⟨_,e⟩
 |own y=>show x
 |xd b=>obtain⟨_,⟨_,_,_,e,_⟩,_⟩:=x;show⟨_,e⟩
 |QV lo d=>obtain⟨_,_,_,e⟩:=x;show⟨_,e⟩
 |JX g u=>show⟨_,x.1⟩
 |Nl ps=>show⟨_,x⟩
 |met f y=>show⟨_,x⟩
 |ext φ=>show x.2.1
 |_=>obtain⟨_,_,_,_,o,_,_,e,_⟩:=x;show⟨_,e⟩
section
variable{P:u3}{w:ve}{stack outer:List Env}{H H':Hp}{s s':d5}{e C L:d8}{T:Option d8}{fl:dV}{base:Jv}{env:Env}{M:Model}{A:M4}{E:dV->d5->Prop}{Q:Unit->d5->Prop}
theorem uA(u:Un (JF stack) [] H H' s.heap s'.heap)(a:∀b∈JF stack,H b=b8):∀l:List Env,(∀b∈JF l,b∈JF stack)->s.heap.FunFrames base l->s'.heap.FunFrames base l
 |[],_,_=>trivial
 |env::l,hs,⟨hk,⟨L,o,c,d,ho,f⟩,g⟩=>by
  have h:JF (env::l)=L::JF l:=by unfold JF;rw[DD,c]
  rw[h]at hs;have⟨j,q⟩:=u.any ho (a L (hs L mA)) λz=>nomatch z
  show⟨hk,⟨L,_,c,d,q,f⟩,uA u a l (λb i=>hs b (kr _ i)) g⟩
def bV.next(F:bV P w stack H s e C T fl H' s')(k:s.heap.FunFrames base stack)(l:∀b∈JF stack,H b=b8)(G:B=hideAll s'.heap (e::(T.toList++JF stack))):
  B.StaysIn s'.heap/\s'.heap.FunFrames B stack/\B.get? e=b8/\(∀a,T=a5 a->B.get? a=b8) /\
   ∀h' i,B.StaysIn h'->h'.FunFrames B stack->h'.TracedAtW B e (.ref C) a0 i->s'.heap.UpToSlots h'->∃c,bV P w stack H s e C (a5 c) i H' {s' with heap:=h' }:=by
 have m:=uA F.un l _ (λ_ z=>z) k;subst G;show⟨λb o q=>of_hideAll _ q,funFrames_hide m λI J a N=>kr _ (kj _ (Px.mpr ⟨I,J,N⟩)),hideAll_none _ mA,λa z=>hideAll_none _ (kr _ (u6 _ (by simp[z]))),λh' i k1 k2 ⟨O,Y,c,XU,XW,b1,⟨b2,b0⟩,b3,b4,b5,p,r,t,b9⟩ k4=>?_⟩;have XX:∀a,a∈e::(T.toList++JF stack)->H' a=b8:=λa ha=>by
  rcases d6.mp ha with rfl|ha
  .show F.he
  rcases i1.mp ha with ha|ha
  .show(F.hT a (by simpa using ha)).2
  .obtain⟨_,o,ho,_⟩:=k.mem ha;show F.un.free a o ho (l a ha) λz=>nomatch z
 have keep:∀b o,b∉e::(T.toList++JF stack)->s'.heap.get? b=a5 o->h'.get? b=a5 o:=λb o hb q=>k1 b o (hideAll_get _ q hb);have slot:∀b o,b∈JF stack->s'.heap.get? b=a5 o->∃v,h'.get? b=a5 {o with slots:=v}:=λb o hb q=>by
  obtain⟨_,o',d,j⟩:=m.mem hb;rw[q]at d;cases d;show k4 b o q j
 have x:∀b o,s.heap.get? b=a5 o->b∉JF stack->b∉e::(T.toList++JF stack):=λb o q hb z=>by
  rcases d6.mp z with z|z
  .rw[z,F.new]at q;cases q
  rcases i1.mp z with z|z
  .rw[(F.hT b (by simpa using z)).1]at q;cases q
  .show hb z
 have tn:s.heap.get? c=b8/\H' c=b8:=by
  by_cases z:c∈e::(T.toList++JF stack)
  .rcases d6.mp z with z|z
   .show absurd z p
   rcases i1.mp z with z|z
   .show F.hT c (by simpa using z)
   .obtain⟨_,o',d,j⟩:=k2.mem z;rw[r]at d;cases d;show absurd t (j _)
  .have q:s'.heap.get? c=b8:=by
    cases q:s'.heap.get? c with
    |none=>rfl
    |some o=>have:=hideAll_get _ q z;rw[b5]at this;cases this
   show⟨?_,?_⟩
   .cases f:s.heap.get? c with
    |none=>rfl
    |some o=>have⟨o',y⟩:=F.un.there _ o f λz=>nomatch z;rw[q]at y;cases y
   .cases f:H' c with
    |none=>rfl
    |some u =>
     have⟨o,z⟩:=(F.IS c u f).there;rw[q]at z;cases z
 show⟨c,F.os,F.bare,⟨λb o q n hb g=>keep b o (x b o q hb) (F.un.keep b o q n hb g),λb o q n hb g=>?_,F.un.free,λb o q g=>?_,F.un.fU,F.un.JY,F.un.J3⟩,λa u q=>(F.IS a u q).fJ (λb o hb d=>?_) (λ_ z=>z) λ_ _ z=>z,F.new,F.he,⟨_,O,Y,b1,b2,b3,b0,p,b4,XU,XW,r,t,b9⟩,λa z=>by cases z;show tn⟩
 .have⟨v,h⟩:=F.un.slot b o q n hb g;have⟨D,f⟩:=slot b _ hb h;show⟨D,f⟩
 .have⟨o',h⟩:=F.un.there b o q g;by_cases hb:b∈JF stack
  .have⟨D,f⟩:=slot b _ hb h;show⟨_,f⟩
  .show⟨_,keep b _ (x b o q hb) h⟩
 .show keep b o (λz=>?_) d;have:=XX b z;rcases hb with rfl|hb
  .rw[q]at this;cases this
  .rw[hb]at this;cases this
def bV.leave(F:bV P w (env::outer) H s e C T .none H' s')(c:A.frames=a5 (env::outer))(d:env.frame=a5 L)(q:s.heap.FunFrames base (env::outer))(r:∀b∈JF (env::outer),H b=b8)
  (h:∀f g,bV P w (env::outer) H s e C (a5 f) .none H' g->Q () g):d3 M A (leaving env (.ref e)) Q E s':=by
 have⟨a0,oe,vs,i,j,k,l,m⟩:=F.exc;obtain⟨B,t⟩:∃B,B=hideAll s'.heap (e::(T.toList++JF (env::outer))):=⟨_,rfl⟩
 have⟨n,o,p,u,v⟩:=F.next (a0:=a0) q r t;have a:∀h',Heap.LeftW B (env::outer) e (.ref C) a0 s'.heap h'->Q () {s' with heap:=h' }:=λh' x=>by
  have⟨k1,k2,k3,y⟩:=x;have⟨f,z⟩:=v h' .none k1 k2 k3 y;show h _ _ z
 cases T with
 |none=>show wpAny_leaving_firstW c o d i n p k m l λh' z=>a h' (j▸z)
 |some T =>
  have⟨D,G,I,J,N,O,Y⟩:=m;show wpAny_leaving_nextW c o d ⟨oe,vs,T,I,J,i,⟨j,l⟩,k,G,u T rfl,D,N,O,Y⟩ n p a
def bV.note{T:d8}(F:bV P w (env::outer) H s e C (a5 T) .none H' s')(d:A.frames=a5 (env::outer))(f:env.frame=a5 L)(g:s.heap.FunFrames base (env::outer))(i:∀b∈JF (env::outer),H b=b8)
  (h:∀a c,bV P w (env::outer) H s e C (a5 a) (uv L) H' c->Q () c):d3 M A (noteFrame (.ref e) env) Q E s':=by
 have⟨a0,oe,vs,j,k,l,m,n,o,p,q,r,t,u⟩:=F.exc;have⟨v,x,y,B,D⟩:=F.next (a0:=a0) g i rfl;show wpAny_noteFrame_onW d x f ⟨oe,vs,T,p,q,j,⟨k,m⟩,l,o,B T rfl,n,r,t,u⟩ v y λh' G=>?_;have⟨k1,k2,k3,I⟩:=G;have⟨a,z⟩:=D h' _ k1 k2 k3 I;show h _ _ z
def bV.land{T:d8}(F:bV P w stack H s e C (a5 T) fl H' s')(d:s.heap.FunFrames base stack)(f:∀b∈JF stack,H b=b8)
  (h:∀a c,bV P w stack H s e C (a5 a) .none H' c->Q () c):d3 M A (setFlight (.ref e) b8) Q E s':=by
 have⟨a0,oe,vs,g,i,j,k,l,m,p,r,t,u,v⟩:=F.exc;have⟨x,y,I,B,D⟩:=F.next (a0:=a0) d f rfl;show wpAny_setFlight_noneW x y ⟨oe,vs,T,p,r,g,⟨i,k⟩,j,m,B T rfl,l,t,u,v⟩ λh' k1 k2 k3 G=>?_;have⟨a,z⟩:=D h' _ k1 k2 k3 λb o q n=>⟨o.slots,G b o q n⟩
 show h _ _ z
end
section
def bV.down(I:Inv X i σ H s)(k:X.ex=[])(hs:X.stack=X.env::X.outer)(l:X.env.frame=a5 X.env.locals)(F:bV X.prog X.w X.stack H s e C T m H' s'):bV X.prog X.w X.outer X.H₀ X.s₀ e C T m H' s':=by
 have nx:∀b:d8,b∉X.ex:=λb z=>by rw[k]at z;cases z
 have j:JF X.stack=X.env.locals::JF X.outer:=by rw[hs];unfold JF;rw[DD,l]
 have c:∀b,s.heap.get? b=b8->X.s₀.heap.get? b=b8:=λb q=>by
  cases z:X.s₀.heap.get? b with
  |none=>rfl
  |some o=>have⟨o',z⟩:=I.base.there b o z (nx b);rw[q]at z;cases z
 have hl:∀b o,X.s₀.heap.get? b=a5 o->b≠X.env.locals:=λb o q=>hH (i0 (eh q) I.ok.above);have g:∀b:d8,b∉([]:List d8):=λb z=>nomatch z
 show⟨F.os.trans I.os,F.bare,⟨λb o q n f _=>?_,λb o q n f _=>?_,λb o q n _=>?_,λb o q _=>?_,λb xs q=>F.un.fU b xs (I.base.fU b xs q),λb o u q=>F.un.JY b o u (I.base.JY b o u q),λb ps q=>?_⟩,F.IS,c _ F.new,F.he,F.exc,λa z=>⟨c _ (F.hT a z).1,(F.hT a z).2⟩⟩
 .show F.un.keep b o (I.base.keep b o q n f (nx b)) (I.base.free b o q n (nx b)) (λz=>by rw[j]at z;show(d6.mp z).elim (hl b o q) f) (g b)
 .have⟨r,d⟩:=I.base.slot b o q n f (nx b);have⟨p,h⟩:=F.un.slot b _ d (I.base.free b o q n (nx b)) (by rw[j];show kr _ f) (g b);show⟨p,h⟩
 .have⟨o',d⟩:=I.base.there b o q (nx b);show F.un.free b o' d (I.base.free b o q n (nx b)) (g b)
 .have⟨o',d⟩:=I.base.there b o q (nx b);show F.un.there b o' d (g b)
 .have⟨m1,d⟩:=I.base.J3 b ps q;have⟨m2,h⟩:=F.un.J3 b _ d;show⟨m1++m2,by rw[h,Zv]⟩
def bV.made(I:Inv X c σ H s)(b:Heap.MadeExcOf s.heap h' e (.ref C) vs):bV X.prog X.w X.stack H s e C b8 .none H {s with heap:=h' }:=by
 obtain⟨t,d,_⟩:=b.there;show⟨rfl,I.bare,Un.kept b.keeps,I.IS.kept b.keeps,b.new,?_,⟨_,_,_,d,rfl,rfl,rfl,rfl⟩,λa z=>nomatch z⟩;cases z:H e with
 |none=>rfl
 |some u=>have⟨o,q⟩:=(I.IS e u z).there;rw[b.new]at q;cases q
abbrev Pb:List dV:=[.type "ValueError",.type "Exception",.type "BaseException",.type "object"]
abbrev XY(p:d8->List dV->Option dV->Option dV->Option dV->Option dV->String->Option dV->Bool)(M:List dV)(S:List (Option dV)):Prop:=∃C a k0 k1 k2 k3 n k5,M=.ref C::a/\S=[k0,k1,k2,k3,a5 (.builtin n),k5]/\p C a k0 k1 k2 k3 n k5=b6
def nf{P:Prop}(h:cc=b6):P:=nomatch h
def D9(q:excIn.match_1 (λ_ _=>Bool) M S p (λ_ _=>cc)=b6):XY p M S:=by
 cases M with
 |nil=>show nf q
 |cons v a =>
  cases v with
  |ref C =>
   cases S with
   |nil=>show nf q
   |cons k0 S =>
   cases S with
   |nil=>show nf q
   |cons k1 S =>
   cases S with
   |nil=>show nf q
   |cons k2 S =>
   cases S with
   |nil=>show nf q
   |cons k3 S =>
   cases S with
   |nil=>show nf q
   |cons b S =>
   cases b with
   |none=>show nf q
   |some v =>
   cases v with
   |builtin n =>
    cases S with
    |nil=>show nf q
    |cons k5 S =>
    cases S with
    |nil=>show⟨C,a,k0,k1,k2,k3,n,k5,rfl,rfl,q⟩
    |cons _ _=>show nf q
   |_=>show nf q
  |_=>show nf q
abbrev XZ(p:Option d8->ClassData->Array (Option dV)->Bool)(o:Option Obj):Prop:=∃d a b,o=a5 ⟨.type "type",d,.cls a,b⟩/\p d a b=b6
def D_(q:excIn.match_6 (λ_=>Bool) o p (λ_=>cc)=b6):XZ p o:=by
 split at q
 .show⟨_,_,_,rfl,q⟩
 .show nf q
def Ea{K:Frag}{P:Prop}(b:K.In h)(q:excIn K C Pb a=b6)(k:∀c N nm d bs hdct sn sub ab col dd k0 k1 k2 k3 k5 f,h.get? C=a5 (excClassObj nm d C N bs c hdct sn sub ab col dd k0 k1 k2 k3 k5 a)->h.Ns N f->f "__init__"=b8->OwnTail h Pb c->P):P:=by
 have⟨dd,p,r,ho,g⟩:=D_ q;have⟨v,c,k0,k1,k2,k3,n,k5,i,hs,j⟩:=D9 g;clear q g;have⟨nm,bs,mro,ns,d,s,sn,sub,ab,col,t⟩:=p;have⟨l⟩:=r;simp only[cb,beq_iff_eq,tr]at j;obtain⟨⟨⟨⟨⟨rfl,rfl⟩,m⟩,u⟩,e⟩,o⟩:=j
 dsimp only at i m e o
 subst i m;obtain rfl:l=_:=hs;show k c ns nm d bs s sn sub ab col dd k0 k1 k2 k3 k5 _ (b _ _ ho) (.of_isNs (isNs_of_in b e)) (nsMap_none_of_in b e o) (tail_of_in b u)
def yg(i:X.calm=b6)(j:Gl X x)(f:X.mg x=a5 (.ref C))(k:(x==("__debug__":Str))=cc)(l:excIn X.K C Pb "ValueError.__new__"=b6)(m:PE X a n)
  (g:hW [a] X.env=[(cc,u7 a X.env)]) :
  PS X (.Raise (a5 (.Call (.Name x p) [a] [] A)) b8 pos) (λD σ H=>n σ H λv d=>∀b s e s',Inv X b σ d s->bV X.prog X.w X.stack d s e C b8 .none d s'->X.xe (.ref e) s'):=by
 intro b s σ H D I h;show Ea I.mod.OR l λB N nm o bs hdct sn sub ab col dd k0 k1 k2 k3 k5 G r t y T=>?_;show wpAny_Raise_call_subT (nm:=nm) (q:=o) (N:=N) (bs:=bs) (hdct:=hdct) (sn:=sn) (sub:=sub) (ab:=ab) (col:=col) (dd:=dd) (k0:=k0) (k1:=k1) (k2:=k2) (k3:=k3) (k5:=k5) Z9 (T.hasType Z9.hasBase) (I.ok.hd i) (by rw[g];rfl) y (fe I j f ⟨rfl,?_⟩ k);rw[g];show K4 (Ma (I0 (m b s σ H _ I h) λu s1 ⟨v,d,c,J,z⟩=>PU ⟨rfl,?_,c.bk _ _ r,t.keeps c.bk,T.keeps c.bk,λh' e f=>z b s1 e _ c (.made c f)⟩));show(by decide:1<=cL)
def F9:Passes (Ob X.prog X.w) X E0:=λ_ _ _ _ _ _ _ ⟨_,_,_,_,_,_,h⟩=>h.elim
def uB(F:jh X.prog X.w X.K X.mg X.base CX k f d ps sp)(g:fK k X.A)(i:Binds X.K d ps [])(I:Inv X a σ H s)(r:Vals vs us)(h:sp vs H Q E)
  (j:∀e s',CX X.stack H s E e s'->EE e s'):d3 (et X.prog X.w) X.A (NW (.ref f) us) (EP X a σ Q) EE s:=by
 have hl:us.length=ps.length:=by rw[<-r.length];show F.len _ _ _ _ h
 have c:=i s us I.Mm (by rw[r6];show hl);rw[r6]at c;show ê (RW (F.run X.A X.stack s H ⟨us,[]⟩ us vs Q E g I.FU c r h) λr s' b=>?_);cases r with
 |error e=>show j e s' b
 |ok l =>
  cases l with
  |ret u=>show I.after b
  |_=>show Mg b
end
@[reducible]def Cx.Mz(X:Cx)(e:d8)(oe:Obj)(E:dV->d5->Prop):Cx:={X with A:=X.A.mark (a5 (.ref e)),calm:=cc,pn:=(e,oe)::X.pn,xe:=E}
section
def Inv.Mz(I:Inv X a σ H s)(b:s.heap.get? e=a5 oe)(c:H e=b8)(d:e≠X.env.locals)(f:e∉X.fs)(g:∀v,oe.data≠.cell v):Inv (X.Mz e oe E) a σ H s :=
 ⟨⟨I.ok.mod,I.ok.kind,I.ok.glob,I.ok.blt,I.ok.above,I.ok.inj,I.ok.has,I.ok.OS,λz=>(nomatch z),I.ok.frames,I.ok.Pu,I.ok.RQ,I.ok.bs,I.ok.M0,I.ok.LW,I.ok.Ml,I.ok.jW,I.ok.NR⟩,I.os,I.bare,I.base,I.loc,I.cell,I.free,I.Jr,
  λp h=>(d6.mp (show p∈(e,oe)::(X.pn++a) from h)).elim (λz=>by subst z;show⟨b,c,d,f,g⟩) λz=>I.pin p z,I.IS,I.len⟩
def Inv.Il(b:X.Ok)(I:Inv (X.Mz e oe E) a σ H s):Inv X a σ H s :=
 ⟨b,I.os,I.bare,I.base,I.loc,I.cell,I.free,I.Jr,λp c=>I.pin p (kr _ c),I.IS,I.len⟩
def Inv.gone(I:Inv X f σ H s)(D:X.N.Nodup)(w:X.N[j]?=a5 n)(hl:X.env.scope.names.lookup n=a5 .local)
  (h:∀s',Inv X f (σ.set j b8) H s'->Q () s'):d3 M A (do bindName X.env n .none;unbindBehindTheSuite X.env n pos) Q E s:=by
 have⟨m,G,J⟩:=id I.loc;have L:(X.env.scope.kind==.class||(X.env.scope.kind==.module&&X.env.locals != X.env.globals))=cc:=by rw[I.ok.kind];rfl
 show wpAny_nameGoes_keeps hl G L λh' v O hs=>h _ ?_;have x:=I.Mn;have T:j < σ.length:=by rw[I.len];show(dt.mp w).1
 have ne:∀b o,X.s₀.heap.get? b=a5 o->b≠X.env.locals:=λb o q=>hH (i0 (eh q) I.ok.above);show⟨I.ok,I.os,I.bare,⟨λb o e n t g=>(hs.2 b (ne b o e)).trans (I.base.keep b o e n t g),λb o e n t g=>?_,I.base.free,λb o e g=>?_,I.base.fU,I.base.JY,I.base.J3⟩,⟨_,O,λi y u B k Y=>?_⟩,λy c e=>?_,I.free,I.Jr,λp hp=>?_,λb ob e=>(I.IS b ob e).fJ (λc w' hc q=>(hs.2 c ?_).trans q) (λ_ q=>q) λ_ _ q=>q,by simpa using I.len⟩
 .have⟨sl,q⟩:=I.base.slot b o e n t g;show⟨sl,(hs.2 b (ne b o e)).trans q⟩
 .have⟨o',q⟩:=I.base.there b o e g;show⟨o',(hs.2 b (ne b o e)).trans q⟩
 .have C:i≠j:=λz=>by subst z;rw[d4 T]at k;cases k
  rw[gc (nH C)]at k;have⟨u',r,l⟩:=J i y u B k Y;show⟨u',r,l.imp (λ⟨a,b⟩=>⟨a,?_⟩) λ⟨a,c,b,d⟩=>⟨a,c,b,d.sameBut hs (x y c b)⟩⟩;change(if y=n then v else m y)=a5 u';rw[Ľ λ(z:y=n)=>C (iz D B (by rw[z];show w))];show b
 .have⟨u,z⟩:=I.cell y c e;show⟨u,z.sameBut hs (x y c e)⟩
 .have⟨a,b,c,d⟩:=I.pin p hp;show⟨(hs.2 p.1 c).trans a,b,c,d⟩
 .rintro rfl;rcases hc with hc|hc
  .rw[<-hc,I.free]at e;cases e
  .rw[I.free]at hc;cases hc
end
section
variable{prog:u3}{w:ve}{A:M4}{E:dV->d5->Prop}{h:Jv}{g:Array Y2}{d:Drawn}{t:Nat}{os:OsState}{a C:d8}{o:Obj}{K:Frag}
def qr(e:K.In h)(hs:ı K (.ref C) (.type "object")=a5 b6)(b:h.get? a=a5 o)(c:o.cls=.ref C)(j:R (.ok (.ret (.ref C))) ⟨h,g,d,t,os⟩):
  Qs (et prog w) A (.call (.builtin "getset_descriptor.__get__") ⟨[.builtin "object.__class__",.ref a,.ref C],[]⟩) R ⟨h,g,d,t,os⟩:=by
 have f:(⟨h,g,d,t,os⟩:d5).TypeIs (.builtin "object.__class__") "getset_descriptor":=TJ;have i:ā (et prog w) h (N1 (.ref C) (.type (".".intercalate ("object.__class__".cutAt '.').dropLast))) b6:=by rw[F.owner_object_class];show looks_subIn e hs
 show UY Y3.plain F.entry_gs_get (Y3.check _ _ _ _ _ _ _ _ f (F.args_gs_get _ _ _) ?_)
 repeat (any_goals (first|assumption|(with_reducible show Qm b ?_;rw[c])|with_reducible show i.at ?_|wp_step))
 show⟨UE _ (by decide +kernel),Kw F.entry_object_class ?_⟩
 repeat (any_goals (first|assumption|(with_reducible show Qm b ?_;rw[c])|wp_step))
def mC(b:K.In h)(hs:ı K (.ref C) (.type "object")=a5 b6)(f:Ĳ K (.ref C) "__class__"=a5 (a5 (.builtin "object.__class__")))(c:h.get? a=a5 o)(e:o.cls=.ref C)(j:Q (.done (.ret (.ref C))) ⟨h,g,d,t,os⟩):
  d3 (et prog w) A (Nn.«object.__getattribute__» ⟨[.ref a,.str "__class__" k],[]⟩) Q E ⟨h,g,d,t,os⟩:=by
 have l:(⟨h,g,d,t,os⟩:d5).TypeIs (.builtin "object.__class__") "getset_descriptor":=TJ;have i:ā (et prog w) h (QS (.ref C) "__class__") (a5 (.builtin "object.__class__")):=Z3 b f;have m:=TJ;have n:=Y3.lookup;have p:=F.slot_gs_set.lookup
 repeat (any_goals (first|assumption|(with_reducible show Qm c ?_;rw[e])|with_reducible show i.at ?_|wp_step))
 show qr b hs c e ?_
 repeat (any_goals (first|assumption|wp_step))
def sg(b:K.In h)(hs:ı K (.ref C) (.type "BaseException")=a5 b6)(c:h.get? a=a5 o)(e:o.cls=.ref C)(f:Q () ⟨h,g,d,t,os⟩):d3 M A (Xo "BaseException.__getattribute__" ⟨[.ref a,i],[]⟩) Q E ⟨h,g,d,t,os⟩:=by
 have hk:builtinKind "BaseException.__getattribute__"=a5 .slot:=by decide +kernel
 have j:splitId "BaseException.__getattribute__"=a5 ("BaseException","__getattribute__"):=by decide +kernel
 have k:ā M h (N1 (.ref C) (.type "BaseException")) b6:=looks_subIn b hs;have l:=F.args_bexc_ga (.ref a) i;simp only[Xo,hk,j];show bD ?_
 .unfold isInstance
  repeat (first|(with_reducible show Qm c ?_;rw[e])|with_reducible show k.at ?_|wp_step)
  show f
abbrev fV(K:Frag)(C:d8):Bool:=ı K (.ref C) (.type "object")==a5 b6&&ı K (.ref C) (.type "BaseException")==a5 b6&&Ĳ K (.ref C) "__class__"==a5 (a5 (.builtin "object.__class__"))&&Ĳ K (.ref C) "__getattribute__"==a5 (a5 (.builtin "BaseException.__getattribute__"))&&Ĳ K (.ref C) "__getattr__"==a5 b8&&(clsIn K C).isSome
def si(b:K.In h)(f:fV K C=b6)(c:h.get? a=a5 o)(e:o.cls=.ref C)(l:Q (.ref C) ⟨h,g,d,t,os⟩):d3 (et prog w) A (getAttrBy (.ref a) (.str "__class__" m) cc) Q E ⟨h,g,d,t,os⟩:=by
 simp only[fV,cb,beq_iff_eq]at f;obtain⟨⟨⟨⟨⟨i,o2⟩,o3⟩,o4⟩,o5⟩,_⟩:=f;have n:=â.ga.bind (.ref a);have p:(cc&&onTheHeap (RX "BaseException.__getattribute__"))=cc:=rfl;have j:(RX "BaseException.__getattribute__"==RX "object.__getattribute__")=cc:=by decide +kernel
 have q:(onTheHeap (ko C)&&RX "BaseException.__getattribute__"==RX "object.__getattribute__")=cc:=by rw[j];rfl
 have k:ā (et prog w) h (QS (.ref C) "__getattribute__") (a5 (.builtin "BaseException.__getattribute__")):=Z3 b o4;have L2:ā (et prog w) h (QS (.ref C) "__getattr__") b8:=Z3 b o5
 repeat (any_goals (first|assumption|(with_reducible show Qm c ?_;rw[e])|with_reducible show k.at ?_|with_reducible show L2.at ?_|wp_step))
 show UY â.ga.plain F.entry_bexc_ga (sg b o2 c e (mC b i o3 c e ?_))
 repeat (any_goals (first|assumption|wp_step))
def oU(b:K.In h)(c:fV K C=b6)(e:h.get? a=a5 o)(f:o.cls=.ref C)(i:Q (a5 (.ref C)) ⟨h,g,d,t+1,os⟩):d3 (et prog w) A (getAttr? (.ref a) "__class__") Q E ⟨h,g,d,t,os⟩:=by
 unfold getAttr? getAttrBy?
 repeat (any_goals (first|assumption|with_reducible apply si b c e f|wp_step))
end
def yh{K:Frag}(b:fV K C=b6):KitX K (.ref a) (.ref C) (λh=>∃o,h.get? a=a5 o/\o.cls=.ref C) where
 ty:=λM h _ j=>by
  have⟨o,f,i⟩:=j;show(ĳ f).andThen ?_;rw[i];show .now
 it:=λM h c _ A Q E s k q=>by
  simp only[fV,cb]at b;have z:=b.2;unfold clsIn at z;split at z
  .rename_i ho;unfold isType loadHead;show bD (wpAny_loadPart (k _ _ (c _ _ ho)) (df q))
  .cases z
 ne:=λh l dd m n p c e=>by
  simp only[fV,cb]at b;have z:=b.2;unfold clsIn at z;split at z
  .rename_i ho;rw[ł];intro q;cases q;have:=c _ _ ho;rw[e]at this;cases this
  .cases z
 ca:=λ{_ _ _ _ _ s} c ⟨o,f,i⟩ q=>by
  have⟨h,g,d,t,os⟩:=s;show oU c b f i q
def Inv.F_(I:Inv X d σ H s)(f:s.heap.get? e=a5 oe)(h:H e=b8)(i:X.s₀.heap.get? e=b8)(j:e≠X.env.locals)(k:∀x c,X.env.cells.lookup x=a5 c->c≠e)(l:∀p∈X.pn++d,p.1≠e):
  Inv X d σ (upd H e (.JX oe (.ext λ_=>True))) s:=by
 have ne:∀b o,H b=a5 o->b≠e:=λb o q=>bt q h;show⟨I.ok,I.os,I.bare,⟨I.base.keep,I.base.slot,λb o q n r=>?_,I.base.there,λb xs q=>?_,λb o u q=>?_,λb ps q=>?_⟩,I.loc,I.cell,?_,λx c q=>?_,λp g=>?_,λb u q=>?_,I.len⟩
 .rw[ak (λz=>by rw[z,i]at q;cases q)];show I.base.free b o q n r
 .have:=I.base.fU b xs q;rw[ak (ne b _ this)];show this
 .have:=I.base.JY b o u q;rw[ak (ne b _ this)];show this
 .have⟨m,q⟩:=I.base.J3 b ps q;show⟨m,by rw[ak (ne b _ q)];show q⟩
 .rw[ak (nH j)];show I.free
 .rw[ak (k x c q)];show I.Jr x c q
 .have⟨a,b,c⟩:=I.pin p g;show⟨a,by rw[ak (l p g)];show b,c⟩
 .by_cases z:b=e
  .subst z;rw[ax]at q;cases q;show⟨f,trivial,⟨oe,f⟩,λ_ _ _ _=>trivial⟩
  .rw[ak z]at q;show(I.IS b u q).fJ (λ_ _ _ q=>q) (λc q=>by rw[ak (ne c _ q)];show q) λc xs q=>by rw[ak (ne c _ q)];show q
end L2
namespace TM
open PySem L2
inductive U where
 |IV|bl (b:Bool)|int (i:Int)|str (x:Str)
 |tup (xs:List U)|lst (xs:List U)
 |IQ (ks:List Str) (vs:List U)
 |exc (c:Str)
mutual
noncomputable def Jo:U->Bool
 |.tup xs=>cB xs
 |.lst _=>cc
 |.IQ _ _=>cc
 |.exc _=>b6
 |.IV=>b6|.bl _=>b6|.int _=>b6|.str _=>b6
noncomputable def cB:List U->Bool
 |[]=>b6
 |u::us=>Jo u&&cB us
end
inductive Kd where|own|io|loc|any|bor (j:Nat)|IL
deriving DecidableEq
abbrev Kd.root:Kd->Bool
 |.own=>b6
 |.io=>b6
 |_=>cc
@[reducible]def aw:=List (Option (Kd×U))
structure Ct where
 P:u3
 w:ve
 K:PySem.W.Frag
 H₀:Hp
 Lu:d8->Prop
 IO:d8->Prop
 xw:U->Hp->Prop
abbrev KL(K:PySem.W.Frag)(a:d8)(xs:List V):Prop :=
 ∃(o:Obj) (b:Array dV) (n:Nat),K.lookup a=a5 o/\o.cls=.type "list"/\o.dict=b8/\o.data=.seq b n/\b.size<=cL/\Vals xs b.toList
abbrev Qn(K:PySem.W.Frag)(S:d8->Prop)(H:Hp)(a:d8)(vs:List V):Prop:=(S a/\Rd H a (.lst vs))\/KL K a vs
def Qn.sq(h:Qn K S H a vs):Jw K H a vs:=h.elim (λz=>.inl z.2) .inr
abbrev NB(H:Hp)(R:List V->Prop)(a:d8)(ks:List Str):Prop:=∃kvs:List (Key×V),H a=a5 (.dK kvs)/\kvs.map (·.1)=ks.map mu/\R (kvs.map (·.2))
abbrev Im(K:PySem.W.Frag)(H:Hp)(a:d8)(c:Str):Prop:=∃o C,H a=a5 (.JX o (.ext λ_=>True))/\o.cls=.ref C/\PySem.W.nsIn K js c=a5 (a5 (.ref C))
section
variable(C:Ct)(S:d8->Prop)(H:Hp)
mutual
def Rep:U->V->Prop
 |.IV,v=>v=.IV
 |.bl b,v=>v=.bl b
 |.int i,v=>v=.int i
 |.str x,v=>v=.str x
 |.tup us,v=>∃a vs,v=.ref a/\JI C.K H a vs/\au us vs
 |.lst us,v=>∃a vs,v=.ref a/\Qn C.K S H a vs/\au us vs
 |.IQ ks us,v=>∃a,v=.ref a/\S a/\NB H (au us) a ks
 |.exc c,v=>∃a,v=.ref a/\Im C.K H a c
def au:List U->List V->Prop
 |[],vs=>vs=[]
 |u::us,vs=>∃v r,vs=v::r/\Rep u v/\au us r
end
end
def Tp:HO->Prop
 |.tup _=>True
 |.JX _ (.tup _)=>True
 |.JX _ (.ext _)=>True
 |_=>False
structure Mv(S:d8->Prop)(H:Hp)(S':d8->Prop)(H':Hp):Prop where
 sub:∀a,S a->S' a
 Pc:∀a o,H a=a5 o->Tp o->H' a=a5 o
 TK:∀a o,S a->H a=a5 o->H' a=a5 o
def Mv.X0(m:Mv S H S' H')(h:JI K H a vs):JI K H' a vs:=by
 rcases h with(h|⟨o,h⟩)|h
 .show .inl (.inl (m.Pc a _ h trivial))
 .show .inl (.inr ⟨o,m.Pc a _ h trivial⟩)
 .show .inr h
def Mv.X1(m:Mv S H S' H')(h:Qn K S H a vs):Qn K S' H' a vs:=by
 rcases h with⟨s,h|⟨o,h⟩⟩|h
 .show .inl ⟨m.sub a s,.inl (m.TK a _ s h)⟩
 .show .inl ⟨m.sub a s,.inr ⟨o,m.TK a _ s h⟩⟩
 .show .inr h
def NB.mv(b:∀o,H a=a5 o->H' a=a5 o)(c:∀vs,R vs->d vs)(h:NB H R a ks):NB H' d a ks :=
 let ⟨kvs,e,f,g⟩:=h;⟨kvs,b _ e,f,c _ g⟩
section
mutual
theorem Rep.NC(m:Mv S H S' H'):∀(u:U) (v:V),Rep C S H u v->Rep C S' H' u v
 |.IV,_,h=>h
 |.bl _,_,h=>h
 |.int _,_,h=>h
 |.str _,_,h=>h
 |.tup us,v,h=>by
  have⟨a,vs,e,b,d⟩:=h;show⟨a,vs,e,m.X0 b,au.NC m us vs d⟩
 |.lst us,v,h=>by
  have⟨a,vs,e,b,d⟩:=h;show⟨a,vs,e,m.X1 b,au.NC m us vs d⟩
 |.IQ ks us,v,h=>by
  have⟨a,e,b,d⟩:=h;show⟨a,e,m.sub a b,d.mv (λo q=>m.TK a o b q) λvs q=>au.NC m us vs q⟩
 |.exc c,v,h=>let ⟨a,e,o,f,b,d⟩:=h;⟨a,e,o,f,m.Pc a _ b trivial,d⟩
theorem au.NC(m:Mv S H S' H'):∀(us:List U) (vs:List V),au C S H us vs->au C S' H' us vs
 |[],_,h=>h
 |u::us,vs,h=>by
  have⟨v,r,e,a,b⟩:=h;show⟨v,r,e,Rep.NC m u v a,au.NC m us r b⟩
end
mutual
theorem Rep.wg:∀(u:U) (v:V),Jo u=b6->Rep C S H u v->Rep C S' H u v
 |.IV,_,_,h=>h
 |.bl _,_,_,h=>h
 |.int _,_,_,h=>h
 |.str _,_,_,h=>h
 |.tup us,v,i,h=>by
  have⟨a,vs,e,b,c⟩:=h;show⟨a,vs,e,b,au.wg us vs (by simpa[TM.Jo] using i) c⟩
 |.lst us,v,i,h=>by simp[TM.Jo]at i
 |.IQ ks us,v,i,h=>by simp[TM.Jo]at i
 |.exc _,_,_,h=>h
theorem au.wg:∀(us:List U) (vs:List V),cB us=b6->au C S H us vs->au C S' H us vs
 |[],_,_,h=>h
 |u::us,vs,i,h=>by
  have⟨v,r,e,b,c⟩:=h;have a:TM.Jo u=b6/\cB us=b6:=by simpa[cB] using i
  show⟨v,r,e,Rep.wg u v a.1 b,au.wg us r a.2 c⟩
end
def Rep.mv(m:Mv S H S' H')(h:Rep C S H u v):Rep C S' H' u v:=Rep.NC m u v h
def au.mv(m:Mv S H S' H')(h:au C S H us vs):au C S' H' us vs:=au.NC m us vs h
def Rep.Jo(i:TM.Jo u=b6)(h:Rep C S H u v):Rep C S' H u v:=Rep.wg u v i h
def au.Jo(i:cB us=b6)(h:au C S H us vs):au C S' H us vs:=au.wg us vs i h
def Mv.up(sub:∀a,S a->S' a):Mv S H S' H:=⟨sub,λ_ _ h _=>h,λ_ _ _ h=>h⟩
theorem au.len:∀{us:List U}{vs:List V},au C S H us vs->us.length=vs.length
 |[],_,h=>by cases h;rfl
 |u::us,vs,h=>by
  obtain⟨v,r,rfl,_,a⟩:=h;rw[ke,ke,au.len a]
theorem au.get:∀{us:List U}{vs:List V}{i:Nat}{u:U},au C S H us vs->us[i]?=a5 u->∃v,vs[i]?=a5 v/\Rep C S H u v
 |[],_,_,_,_,e=>by simp at e
 |u::us,vs,0,w,h,e=>by
  obtain⟨v,r,rfl,a,_⟩:=h;simp at e;subst e;show⟨v,rfl,a⟩
 |u::us,vs,i+1,w,h,e=>by
  obtain⟨v,r,rfl,_,b⟩:=h;have⟨c,d,h'⟩:=au.get (i:=i) (u:=w) b (by simpa using e);show⟨c,by simpa using d,h'⟩
theorem au.append:∀{us ws:List U}{vs a:List V},au C S H us vs->au C S H ws a->au C S H (us++ws) (vs++a)
 |[],_,_,_,h,h'=>by cases h;show h'
 |u::us,ws,vs,a,h,h'=>by
  have⟨v,r,rfl,b,c⟩:=h;show⟨v,r++a,rfl,b,c.append h'⟩
theorem au.take:∀{us:List U}{vs:List V} (n:Nat),au C S H us vs->au C S H (us.take n) (vs.take n)
 |_,_,0,_=>by simp[au]
 |[],_,n+1,h=>by cases h;simp[au]
 |u::us,vs,n+1,h=>by
  have⟨v,r,rfl,a,b⟩:=h;show⟨v,r.take n,rfl,a,b.take n⟩
theorem au.drop:∀{us:List U}{vs:List V} (n:Nat),au C S H us vs->au C S H (us.drop n) (vs.drop n)
 |_,_,0,h=>h
 |[],_,n+1,h=>by cases h;simp[au]
 |u::us,vs,n+1,h=>by
  have⟨v,r,rfl,b,a⟩:=h;show a.drop n
theorem au.set:∀{us:List U}{vs:List V} (n:Nat) {u:U}{v:V},au C S H us vs->Rep C S H u v->au C S H (us.set n u) (vs.set n v)
 |[],_,n,_,_,h,_=>by cases h;simp[au]
 |u::us,vs,0,_,_,h,h'=>by
  have⟨v,r,rfl,b,a⟩:=h;show⟨_,r,rfl,h',a⟩
 |u::us,vs,n+1,_,_,h,h'=>by
  have⟨v,r,rfl,b,a⟩:=h;show⟨v,_,rfl,b,a.set n h'⟩
def au.snoc(h:au C S H us vs)(h':Rep C S H u v):au C S H (us++[u]) (vs++[v]):=h.append ⟨v,[],rfl,h',rfl⟩
theorem au.strs:∀{xs:List Str}{vs:List V},au C S H (xs.map .str) vs↔vs=xs.map V.str
 |[],vs=>by simp[au]
 |x::xs,vs=>by
  constructor
  .rintro⟨v,r,rfl,a,b⟩;rw[au.strs.mp b];have:v=.str x:=a;rw[this];rfl
  .rintro rfl;show⟨_,_,rfl,rfl,au.strs.mpr rfl⟩
end
structure Ct.Eqv(C C':Ct):Prop where
 P:C.P=C'.P
 w:C.w=C'.w
 K:C.K=C'.K
section
mutual
theorem Rep.ND(q:C.Eqv f):∀(u:U) (v:V),Rep C S H u v->Rep f S H u v
 |.IV,_,h=>h
 |.bl _,_,h=>h
 |.int _,_,h=>h
 |.str _,_,h=>h
 |.tup us,v,h=>by
  have⟨a,vs,e,b,d⟩:=h;show⟨a,vs,e,q.K▸b,au.ND q us vs d⟩
 |.lst us,v,h=>by
  have⟨a,vs,e,b,d⟩:=h;show⟨a,vs,e,q.K▸b,au.ND q us vs d⟩
 |.IQ ks us,v,h=>by
  have⟨a,e,b,d⟩:=h;show⟨a,e,b,d.mv (λ_ q=>q) λvs z=>au.ND q us vs z⟩
 |.exc c,v,h=>by
  have⟨a,e,h⟩:=h;show⟨a,e,q.K▸h⟩
theorem au.ND(q:C.Eqv a):∀(us:List U) (vs:List V),au C S H us vs->au a S H us vs
 |[],_,h=>h
 |u::us,vs,h=>by
  have⟨v,r,e,b,c⟩:=h;show⟨v,r,e,Rep.ND q u v b,au.ND q us r c⟩
end
def Rep.cg(q:C.Eqv a)(h:Rep C S H u v):Rep a S H u v:=Rep.ND q u v h
def au.cg(q:C.Eqv a)(h:au C S H us vs):au a S H us vs:=au.ND q us vs h
end
def cU(C:Ct)(S:d8->Prop)(H:Hp)(r:d8):U->Prop
 |.lst us=>∃vs,H r=a5 (.lst vs)/\au C S H us vs
 |.IQ ks us=>NB H (au C S H us) r ks
 |_=>False
def cU.mv(m:Mv S H S' H')(a:∀o,H r=a5 o->H' r=a5 o)(h:cU C S H r u):cU C S' H' r u:=by
 cases u with
 |lst us=>have⟨vs,b,c⟩:=h;show⟨vs,a _ b,c.mv m⟩
 |IQ ks us=>show NB.mv a (λvs q=>q.mv m) h
 |_=>show h
def cU.rep(hs:∀a,S a->S' a)(b:S' r)(h:cU C S H r u):Rep C S' H u (.ref r):=by
 cases u with
 |lst us=>have⟨vs,c,d⟩:=h;show⟨r,vs,rfl,.inl ⟨b,.inl c⟩,d.mv (.up hs)⟩
 |IQ ks us=>show⟨r,rfl,b,NB.mv (λ_ q=>q) (λvs q=>q.mv (.up hs)) h⟩
 |_=>show h.elim
def cU.cg(q:C.Eqv a)(h:cU C S H r u):cU a S H r u:=by
 cases u with
 |lst us=>have⟨vs,b,c⟩:=h;show⟨vs,b,c.cg q⟩
 |IQ ks us=>show NB.mv (λ_ q=>q) (λvs z=>z.cg q) h
 |_=>show h
def cU.some(h:cU C S H r u):∃o,H r=a5 o/\¬Tp o:=by
 cases u with
 |lst us=>obtain⟨vs,a,_⟩:=h;show⟨_,a,λz=>z⟩
 |IQ ks us=>obtain⟨kvs,a,_⟩:=h;show⟨_,a,λz=>z⟩
 |_=>show h.elim
structure Cf where
 S:d8->Prop
 H:Hp
 σ:St
 st:aw
 kid:Nat->List d8
abbrev Cf.R1(c:Cf)(a:d8):Prop:=∃(j:Nat) (k:Kd) (u:U),k.root=b6/\c.st[j]?=a5 (a5 (k,u))/\c.σ[j]?=a5 (a5 (.ref a))
abbrev Cf.RD(c:Cf)(j:Nat)(a:d8):Prop:=∃(u:U) (r:d8),c.st[j]?=a5 (a5 (.IL,u))/\c.σ[j]?=a5 (a5 (.ref r))/\(a=r\/a∈c.kid j)
abbrev Cf.R(c:Cf)(a:d8):Prop:=c.R1 a\/∃j,c.RD j a
abbrev Cf.Pd(c:Cf)(a:d8):Prop:=∃j,c.RD j a
abbrev PS(C:Ct)(S:d8->Prop):d8->Prop:=λa=>C.Lu a\/S a
def fW(C:Ct)(S:d8->Prop)(H:Hp):Kd->U->V->Prop
 |.own,u,v=>∃r,v=.ref r/\¬S r/\¬C.Lu r/\C.H₀ r=b8/\cU C S H r u
 |.io,u,v=>∃r,v=.ref r/\¬S r/\¬C.Lu r/\C.IO r/\cU C S H r u
 |.loc,u,v=>Rep C S H u v
 |.any,u,v=>Rep C (PS C S) H u v
 |.bor _,_,_=>False
 |.IL,_,v=>∃r,v=.ref r
def du(C:Ct)(S:d8->Prop)(H:Hp):List U->List d8->Prop
 |[],as=>as=[]
 |u::us,as=>∃a as' b vs,as=a::as'/\u=.lst b/\H a=a5 (.lst vs)/\au C S H b vs/\du C S H us as'
def cv(C:Ct)(S:d8->Prop)(H:Hp)(r:d8)(as:List d8):U->Prop
 |.IQ ks us=>∃kvs:List (Key×V),H r=a5 (.dK kvs)/\kvs.map (·.1)=ks.map mu/\kvs.map (·.2)=as.map V.ref/\(r::as).Nodup/\(∀a∈r::as,¬S a/\¬C.Lu a/\C.H₀ a=b8)/\du C S H us as
 |_=>False
structure L7(C:Ct)(c:Cf):Prop where
 kd:∀(j:Nat) (u:U) (r:d8),c.st[j]?=a5 (a5 (.IL,u))->c.σ[j]?=a5 (a5 (.ref r))->cv C c.S c.H r (c.kid j) u
 dj:∀(i j:Nat) (a:d8),c.RD i a->c.RD j a->i=j
 d1:∀(j:Nat) (a:d8),c.RD j a->¬c.R1 a
structure Ok(C:Ct)(c:Cf):Prop where
 same:∀a o,C.H₀ a=a5 o->¬C.IO a->c.H a=a5 o
 KS:∀a,c.S a->C.H₀ a=b8/\∃o,c.H a=a5 o
 par:∀a,C.Lu a->(∃o,C.H₀ a=a5 o)/\¬C.IO a
 io:∀a,C.IO a->(∃o,C.H₀ a=a5 o)/\∃o,c.H a=a5 o
 len:c.st.length=c.σ.length
 sl:∀(i:Nat) (k:Kd) (u:U),c.st[i]?=a5 (a5 (k,u))->∃v,c.σ[i]?=a5 (a5 v)/\fW C c.S c.H k u v
 inj:∀(i j:Nat) (k k':Kd) (u u':U) (r:d8),k.root=b6->k'.root=b6->c.st[i]?=a5 (a5 (k,u))->c.st[j]?=a5 (a5 (k',u'))->c.σ[i]?=a5 (a5 (.ref r))->c.σ[j]?=a5 (a5 (.ref r))->i=j
 dd:L7 C c
structure Ns(c c':Cf):Prop where
 keep:∀a o,c.H a=a5 o->¬c.R a->c'.H a=a5 o
 there:∀a o,c.H a=a5 o->∃o',c'.H a=a5 o'
 roots:∀a,c'.R a->c.R a\/c.H a=b8
 sub:∀a,c.S a->c'.S a
 new:∀a,c'.S a->c.S a\/c.R a\/c.H a=b8
section
def Ns.refl(c:Cf):Ns c c:=⟨λ_ _ h _=>h,λ_ o h=>⟨o,h⟩,λ_ h=>.inl h,λ_ h=>h,λ_ h=>.inl h⟩
def Ns.none(n:Ns c b)(h:b.H a=.none):c.H a=.none:=by
 cases e:c.H a with
 |none=>rfl
 |some o=>have⟨o',q⟩:=n.there a o e;rw[h]at q;cases q
def Ns.trans(m:Ns c d)(n:Ns d e):Ns c e where
 keep:=λa o h b=>by
  show n.keep a o (m.keep a o h b) λz=>?_;rcases m.roots a z with z|z
  .show b z
  .rw[h]at z;cases z
 there:=λa o h=>let ⟨o',h'⟩:=m.there a o h;n.there a o' h'
 roots:=λa h=>by
  rcases n.roots a h with z|z
  .show m.roots a z
  .show .inr (m.none z)
 sub:=λa h=>n.sub a (m.sub a h)
 new:=λa h=>by
  rcases n.new a h with z|z|z
  .show m.new a z
  .rcases m.roots a z with z|z
   .show .inr (.inl z)
   .show .inr (.inr z)
  .show .inr (.inr (m.none z))
def fW.rt(hk:k.root=b6)(h:fW C S H k u v):∃r,v=.ref r/\¬S r/\¬C.Lu r/\(C.H₀ r=b8\/C.IO r)/\cU C S H r u:=by
 cases k with
 |own=>have⟨r,a,b,c,d,e⟩:=h;show⟨r,a,b,c,.inl d,e⟩
 |io=>have⟨r,a,b,c,d,e⟩:=h;show⟨r,a,b,c,.inr d,e⟩
 |_=>cases hk
theorem du.mem:∀{us:List U}{as:List d8}{a:d8},du C S H us as->a∈as->∃vs,H a=a5 (.lst vs)
 |[],as,a,h,ha=>by cases h;cases ha
 |u::us,as,a,h,ha=>by
  obtain⟨a',as',d,vs,rfl,_,b,_,c⟩:=h;rcases d6.mp ha with rfl|ha
  .show⟨vs,b⟩
  .show du.mem c ha
theorem du.mv(m:Mv S H S' H'):∀{us:List U}{as:List d8},(∀a∈as,∀o,H a=a5 o->H' a=a5 o)->du C S H us as->du C S' H' us as
 |[],as,_,h=>h
 |u::us,as,b,h=>by
  have⟨a,as',c,vs,rfl,e,d,f,g⟩:=h;show⟨a,as',c,vs,rfl,e,b a (by simp) _ d,f.mv m,du.mv m (λa i=>b a (by simp[i])) g⟩
def cv.fr(h:cv C S H r as u):∀a∈r::as,¬S a/\¬C.Lu a/\C.H₀ a=b8:=by
 cases u<;>first|show h.elim|(obtain⟨kvs,_,_,_,_,b,_⟩:=h;show b)
def cv.there(h:cv C S H r as u):∀a∈r::as,∃o,H a=a5 o/\¬Tp o:=by
 cases u<;>first|show h.elim|skip
 obtain⟨kvs,b,_,_,_,_,c⟩:=h;intro a ha;rcases d6.mp ha with rfl|ha
 .show⟨_,b,λz=>z⟩
 .have⟨vs,e⟩:=c.mem ha;show⟨_,e,λz=>z⟩
def cv.mv(m:Mv S H S' H')(c:∀a∈r::as,¬S' a/\∀o,H a=a5 o->H' a=a5 o)(h:cv C S H r as u):cv C S' H' r as u:=by
 cases u<;>first|show h.elim|skip
 have⟨kvs,d,e,f,g,i,j⟩:=h;show⟨kvs,(c r (by simp)).2 _ d,e,f,g,λa b=>⟨(c a b).1,(i a b).2⟩,j.mv m λa b=>(c a (by simp[b])).2⟩
def L7.of(d:L7 C c)(hk:e.kid=c.kid)(p:∀(j:Nat) (u:U),e.st[j]?=a5 (a5 (.IL,u))->c.st[j]?=a5 (a5 (.IL,u))/\e.σ[j]?=c.σ[j]?)(s:∀a,e.R1 a->c.R1 a\/∀j,¬c.RD j a)
  (m:Mv c.S c.H e.S e.H) (t:∀j a,c.RD j a->¬e.S a/\∀o,c.H a=a5 o->e.H a=a5 o):L7 C e:=by
 have b:∀j a,e.RD j a->c.RD j a:=λj a v=>by
  have⟨u,r,k,f,q⟩:=v;have⟨g,l⟩:=p j u k;rw[l]at f;rw[hk]at q;show⟨u,r,g,f,q⟩
 show⟨λj u r k f=>?_,λi j a h n=>d.dj i j a (b i a h) (b j a n),λj a h n=>?_⟩
 .have⟨g,l⟩:=p j u k;rw[l]at f;rw[hk];show cv.mv m (λa w=>t j a ⟨u,r,g,f,d6.mp w⟩) (d.kd j u r g f)
 .rcases s a n with z|z
  .show d.d1 j a (b j a h) z
  .show z j (b j a h)
def L7.hs(d:L7 C c)(m:Mv c.S c.H S' H')(b:∀j a,c.RD j a->¬S' a/\∀o,c.H a=a5 o->H' a=a5 o):L7 C {c with H:=H',S:=S' } :=
 d.of rfl (λ_ _ e=>⟨e,rfl⟩) (λ_ z=>.inl z) m b
def Ok.root(f:Ok C c)(h:c.R r):¬c.S r/\¬C.Lu r/\(C.H₀ r=b8\/C.IO r)/\∃o,c.H r=a5 o/\¬Tp o:=by
 rcases h with⟨j,k,u,hk,b,d⟩|⟨j,u,g,b,d,a⟩
 .have⟨v,e,hs⟩:=f.sl j _ _ b;have⟨g,ev,a,l,m,n⟩:=hs.rt hk;rw[d]at e;cases e;cases ev;show⟨a,l,m,n.some⟩
 .have i:=f.dd.kd j u g b d;have⟨p,q,s⟩:=cv.fr i r (d6.mpr a);show⟨p,q,.inl s,cv.there i r (d6.mpr a)⟩
def Ok.mv(b:Ok C c)(n:Ns c d):Mv c.S c.H d.S d.H:=⟨n.sub,λa o h t=>n.keep a o h λz=>by
  obtain⟨_,_,_,o',h',e⟩:=b.root z;rw[h]at h';cases h';show e t,λa o s h=>n.keep a o h λz=>(b.root z).1 s⟩
def Ok.M'(b:Ok C c)(n:Ns c d):Mv (PS C c.S) c.H (PS C d.S) d.H:=⟨λa h=>h.imp id (n.sub a),(b.mv n).Pc,λa o s h=>n.keep a o h λz=>by
  rcases s with s|s
  .show(b.root z).2.1 s
  .show(b.root z).1 s⟩
def Ok.j5(a:Ok C c)(h:c.H p=b8):C.H₀ p=b8/\¬c.S p/\¬C.Lu p/\¬C.IO p/\¬c.R p:=by
 have b:¬C.IO p:=λz=>by obtain⟨_,o,q⟩:=a.io p z;rw[h]at q;cases q
 have d:C.H₀ p=b8:=by
  cases e:C.H₀ p with
  |none=>rfl
  |some o=>have:=a.same p o e b;rw[h]at this;cases this
 show⟨d,λz=>?_,λz=>?_,b,λz=>?_⟩
 .obtain⟨_,o,q⟩:=a.KS p z;rw[h]at q;cases q
 .obtain⟨⟨o,q⟩,_⟩:=a.par p z;rw[d]at q;cases q
 .obtain⟨_,_,_,o,q,_⟩:=a.root z;rw[h]at q;cases q
def fW.mv(m:Mv S H S' H')(i:Mv (PS C S) H (PS C S') H')(g:k.root=b6->∀r,v=.ref r->¬S' r/\∀o,H r=a5 o->H' r=a5 o)(h:fW C S H k u v):fW C S' H' k u v:=by
 cases k with
 |own =>
  have⟨r,e,l,a,b,c⟩:=h;have⟨d,f⟩:=g rfl r e;show⟨r,e,d,a,b,c.mv m f⟩
 |io =>
  have⟨r,e,l,a,b,c⟩:=h;have⟨d,f⟩:=g rfl r e;show⟨r,e,d,a,b,c.mv m f⟩
 |loc=>show Rep.mv m h
 |any=>show Rep.mv i h
 |bor j=>show h.elim
 |IL=>show h
structure Nx(c c':Cf):Prop extends Ns c c' where
 dk:∀a,c'.Pd a->c.Pd a/\∀o,c.H a=a5 o->c'.H a=a5 o
instance {c a:Cf}:Coe (Nx c a) (Ns c a):=⟨Nx.toNs⟩
def Nx.refl(c:Cf):Nx c c:=⟨.refl c,λ_ h=>⟨h,λ_ e=>e⟩⟩
def Nx.trans(m:Nx c b)(n:Nx b d):Nx c d:=⟨m.toNs.trans n.toNs,λa h=>⟨(m.dk a (n.dk a h).1).1,λo e=>(n.dk a h).2 o ((m.dk a (n.dk a h).1).2 o e)⟩⟩
def Nx.none(n:Nx c b)(h:b.H a=.none):c.H a=.none:=n.toNs.none h
def Ok.lay(b:Ok C c)(h:c.H p=b8):Ok C {c with H:=upd c.H p o}/\Nx c {c with H:=upd c.H p o}:=by
 have ne:∀{a:d8} {o':HO},c.H a=a5 o'->a≠p:=λe z=>by subst z;rw[h]at e;cases e
 have d:∀a o',c.H a=a5 o'->(upd c.H p o) a=a5 o':=λa o' e=>by rw[ak (ne e)];show e
 have nx:Nx c {c with H:=upd c.H p o}:=⟨⟨λa o' e _=>d a o' e,λa o' e=>⟨o',d a o' e⟩,λa z=>.inl z,λ_ z=>z,λ_ z=>.inl z⟩,λa h=>⟨h,d a⟩⟩
 show⟨⟨λa o' e z=>d a o' (b.same a o' e z),λa z=>⟨(b.KS a z).1,let ⟨o',q⟩:=(b.KS a z).2;⟨o',d a o' q⟩⟩,b.par,λa z=>⟨(b.io a z).1,let ⟨o',q⟩:=(b.io a z).2;⟨o',d a o' q⟩⟩,b.len,λi k u e=>?_,b.inj,b.dd.hs (b.mv nx.toNs) λj a z=>⟨(b.root (.inr ⟨j,z⟩)).1,λo' e=>d a o' e⟩⟩,nx⟩;have⟨v,l,f⟩:=b.sl i k u e;show⟨v,l,f.mv (b.mv nx.toNs) (b.M' nx.toNs) λhk r m=>?_⟩;obtain⟨s,g,n,_⟩:=f.rt hk;rw[m]at g;cases g;show⟨n,λo' e=>d r o' e⟩
def Ok.grow(b:Ok C c)(hs:pW c.H H')(g:∀a,S' a->c.S a\/(c.H a=b8/\∃o,H' a=a5 o))(s:∀a,c.S a->S' a):Ok C {c with H:=H',S:=S' }/\Nx c {c with H:=H',S:=S' }:=by
 have nx:Nx c {c with H:=H',S:=S' }:=⟨⟨λa o' e _=>hs a o' e,λa o' e=>⟨o',hs a o' e⟩,λa z=>.inl z,s,λa z=>(g a z).imp id λq=>.inr q.1⟩,λa h=>⟨h,hs a⟩⟩
 show⟨⟨λa o' e z=>hs a o' (b.same a o' e z),λa z=>?_,b.par,λa z=>⟨(b.io a z).1,let ⟨o',q⟩:=(b.io a z).2;⟨o',hs a o' q⟩⟩,b.len,λi k u e=>?_,b.inj,b.dd.hs (b.mv nx.toNs) λj a z=>⟨λd=>?_,λo' e=>hs a o' e⟩⟩,nx⟩
 rotate_left 2
 .obtain⟨f,_,_,o,l,_⟩:=b.root (.inr ⟨j,z⟩);rcases g a d with d|⟨d,_⟩
  .show f d
  .rw[l]at d;cases d
 .rcases g a z with q|⟨f,m⟩
  .show⟨(b.KS a q).1,let ⟨o',q⟩:=(b.KS a q).2;⟨o',hs a o' q⟩⟩
  .show⟨(b.j5 f).1,m⟩
 .have⟨v,t,n⟩:=b.sl i k u e;show⟨v,t,n.mv (b.mv nx.toNs) (b.M' nx.toNs) λhk r w=>?_⟩;have⟨x,p,f,m,y,l⟩:=n.rt hk;rw[w]at p;cases p;obtain⟨o,ho,_⟩:=l.some;show⟨λz=>?_,λo' e=>hs r o' e⟩;rcases g r z with z|⟨z,_⟩
  .show f z
  .rw[z]at ho;cases ho
def aN(C:Ct)(c0 c:Cf):Kd->U->V->Prop
 |.own,u,v=>∃r,v=.ref r/\c0.H r=b8/\¬c.S r/\¬c.R r/\cU C c.S c.H r u
 |.loc,u,v=>Rep C c.S c.H u v
 |.any,u,v=>Rep C (PS C c.S) c.H u v
 |.bor j,u,v=>(∃k:Kd,k.root=b6/\c.st[j]?=a5 (a5 (k,u)))/\c.σ[j]?=a5 (a5 v)
 |.io,_,_=>False
 |.IL,_,_=>False
def fX(C:Ct)(c0 c:Cf):Kd->U->V->Prop
 |.own,u,v=>∃r,v=.ref r/\c0.H r=b8/\¬c.S r/\¬c.R r/\cU C c.S c.H r u
 |.loc,u,v=>Rep C c.S c.H u v
 |.any,u,v=>Rep C (PS C c.S) c.H u v
 |.bor j,u,v=>c.σ[j]?=a5 (a5 v)
 |.io,_,_=>False
 |.IL,_,_=>False
def aN.w(h:aN C c0 c k u v):fX C c0 c k u v:=by
 cases k with
 |bor j=>show h.2
 |_=>show h
def fX.VJ(a:Ok C c)(n:Ns c b)(g:∀j,k=.bor j->b.σ[j]?=c.σ[j]?)(h:fX C c0 c k u v):fX C c0 b k u v:=by
 cases k with
 |own =>
  have⟨r,e,i,l,d,f⟩:=h;obtain⟨o,ho,_⟩:=f.some;show⟨r,e,i,λz=>?_,λz=>?_,f.mv (a.mv n) λo q=>n.keep r o q d⟩
  .rcases n.new r z with z|z|z
   .show l z
   .show d z
   .rw[z]at ho;cases ho
  .rcases n.roots r z with z|z
   .show d z
   .rw[z]at ho;cases ho
 |loc=>show Rep.mv (a.mv n) h
 |any=>show Rep.mv (a.M' n) h
 |bor j=>change b.σ[j]?=_;rw[g j rfl];show h
 |_=>show h
def fX.on(b:Ok C c)(n:Ns c a)(d:a.σ=c.σ)(h:fX C c0 c k u v):fX C c0 a k u v:=h.VJ b n λj _=>by rw[d]
def fX.from(n:Ns c0 c1)(h:fX C c1 c k u v):fX C c0 c k u v:=by
 cases k with
 |own=>have⟨r,e,a,b⟩:=h;show⟨r,e,n.none a,b⟩
 |_=>show h
def aN.from(n:Ns c0 c1)(h:aN C c1 c k u v):aN C c0 c k u v:=by
 cases k with
 |own=>have⟨r,e,a,b⟩:=h;show⟨r,e,n.none a,b⟩
 |_=>show h
def SK(C:Ct)(c:Cf):Kd->d8->Prop
 |.any=>PS C c.S
 |_=>c.S
abbrev kE:Kd->Kd
 |.any=>.any
 |_=>.loc
def Ok.rootOf(b:Ok C c){j:Nat}(h:∃k:Kd,k.root=b6/\c.st[j]?=a5 (a5 (k,u)))(e:c.σ[j]?=a5 (a5 v)):∃r,v=.ref r/\¬c.S r/\¬C.Lu r/\(C.H₀ r=b8\/C.IO r)/\cU C c.S c.H r u:=by
 have⟨k,hk,h⟩:=h;have⟨f,a,d⟩:=b.sl j _ _ h;rw[e]at a;cases a;show d.rt hk
def aN.list(f:Ok C c)(h:aN C c0 c k (.lst us) v):∃a vs,v=.ref a/\Jw C.K c.H a vs/\au C (SK C c k) c.H us vs:=by
 cases k with
 |own=>obtain⟨r,e,_,_,_,vs,b,d⟩:=h;show⟨r,vs,e,Jw.of b,d⟩
 |bor j=>obtain⟨r,e,_,_,_,vs,b,d⟩:=f.rootOf h.1 h.2;show⟨r,vs,e,Jw.of b,d⟩
 |io=>show h.elim
 |IL=>show h.elim
 |_=>have⟨a,vs,e,b,d⟩:=h;show⟨a,vs,e,b.sq,d⟩
def aN.tuple(b:Ok C c)(h:aN C c0 c k (.tup us) v):∃a vs,v=.ref a/\JI C.K c.H a vs/\au C (SK C c k) c.H us vs:=by
 cases k with
 |own=>obtain⟨r,e,_,_,_,h⟩:=h;show h.elim
 |bor j=>obtain⟨r,e,_,_,_,h⟩:=b.rootOf h.1 h.2;show h.elim
 |io=>show h.elim
 |IL=>show h.elim
 |_=>have⟨a,vs,e,d,f⟩:=h;show⟨a,vs,e,d,f⟩
def aN.flat(b:Ok C c)(a:Jo u=b6)(h:aN C c0 c k u v):Rep C c.S c.H u v:=by
 cases k with
 |own=>obtain⟨r,e,_,_,_,h⟩:=h;cases u<;>simp[Jo]at a<;>show h.elim
 |loc=>show h
 |any=>show Rep.Jo a h
 |bor j=>obtain⟨r,e,_,_,_,h⟩:=b.rootOf h.1 h.2;cases u<;>simp[Jo]at a<;>show h.elim
 |_=>show h.elim
def aN.int(a:Ok C c)(h:aN C c0 c k (.int i) v):v=.int i:=h.flat a rfl
def aN.str(a:Ok C c)(h:aN C c0 c k (.str x) v):v=.str x:=h.flat a rfl
def aN.bl(a:Ok C c)(h:aN C c0 c k (.bl b) v):v=.bl b:=h.flat a rfl
def aN.IV(a:Ok C c)(h:aN C c0 c k .IV v):v=.IV:=h.flat a rfl
def aN.item(h:Rep C (SK C c k) c.H u v):aN C c0 c (kE k) u v:=by
 cases k<;>show h
abbrev KH(H:Hp):d8->Prop:=λa=>∃o,H a=a5 o
def Ok.yi(b:Ok C c):∀a,c.S a->KH c.H a:=λa h=>(b.KS a h).2
def Ok.Ga(b:Ok C c):∀a,PS C c.S a->KH c.H a:=λa h=>by
 rcases h with h|h
 .obtain⟨⟨o,e⟩,n⟩:=b.par a h;show⟨o,b.same a o e n⟩
 .show b.yi a h
def aN.read(a:Ok C c)(h:aN C c0 c k u v):Rep C (KH c.H) c.H u v:=by
 cases k with
 |own =>
  obtain⟨r,e,_,_,_,b⟩:=h;rw[e];obtain⟨o,ho,_⟩:=b.some;show b.rep a.yi ⟨o,ho⟩
 |loc=>show Rep.mv (.up a.yi) h
 |any=>show Rep.mv (.up a.Ga) h
 |bor j =>
  obtain⟨r,e,_,_,_,b⟩:=a.rootOf h.1 h.2;rw[e];obtain⟨o,ho,_⟩:=b.some;show b.rep a.yi ⟨o,ho⟩
 |_=>show h.elim
def Ok.newList(a:Ok C c)(n:Nx c0 c)(h:c.H p=b8)(d:au C c.S c.H us vs):
  Ok C {c with H:=upd c.H p (.lst vs)}/\Nx c0 {c with H:=upd c.H p (.lst vs)}/\aN C c0 {c with H:=upd c.H p (.lst vs)} .own (.lst us) (.ref p):=by
 have⟨e,b⟩:=a.lay (o:=.lst vs) h;have⟨i,f,j,k,g⟩:=a.j5 h;show⟨e,n.trans b,p,rfl,n.none h,f,g,vs,ax,d.mv (a.mv b.toNs)⟩
def Ok.Eb(a:Ok C c)(n:Nx c0 c)(h:c.H p=b8)(d:au C c.S c.H us vs):
  Ok C {c with H:=upd c.H p (.tup vs)}/\Nx c0 {c with H:=upd c.H p (.tup vs)}/\aN C c0 {c with H:=upd c.H p (.tup vs)} .loc (.tup us) (.ref p):=by
 have⟨e,b⟩:=a.lay (o:=.tup vs) h;show⟨e,n.trans b,p,vs,rfl,JI.of ax,d.mv (a.mv b.toNs)⟩
end
inductive Ex(α:Type) where|ok (a:α)|exc (c:Str)
abbrev M(α:Type):=aw->Option (Ex α×aw)
namespace M
abbrev pure(a:α):M α:=λst=>a5 (.ok a,st)
abbrev fail:M α:=λ_=>b8
abbrev bind(m:M α)(f:α->M β):M β:=λst=>match m st with
 |none=>b8
 |some (.ok a,st')=>f a st'
 |some (.exc c,st')=>a5 (.exc c,st')
abbrev Jf(o:Option α):M α:=λst=>match o with
 |none=>b8
 |some a=>a5 (.ok a,st)
end M
noncomputable instance:Monad M:={pure:=M.pure,bind:=M.bind}
abbrev W{α:Type}(m:M α)(st:aw)(Q:α->aw->Prop):Prop:=∃a st',m st=a5 (.ok a,st')/\Q a st'
section
def aq:W (pure a) st Q↔Q a st:=by
 constructor
 .rintro⟨b,st',e,h⟩;cases e;show h
 .intro h;show⟨a,st,rfl,h⟩
def ah:W (m >>= f) st Q↔W m st λa st'=>W (f a) st' Q:=by
 constructor
 .rintro⟨b,st',e,h⟩;have d:M.bind m f st=a5 (.ok b,st'):=e;unfold M.bind at d;cases q:m st with
  |none=>rw[q]at d;cases d
  |some r =>
   have⟨r,s1⟩:=r;rw[q]at d;cases r with
   |ok a=>show⟨a,s1,q,b,st',d,h⟩
   |exc c=>cases d
 .rintro⟨a,s1,q,b,st',e,h⟩;show⟨b,st',?_,h⟩;change M.bind m f st=_;unfold M.bind;rw[q];show e
def bI:W (M.Jf o) st Q↔∃a,o=a5 a/\Q a st:=by
 cases o with
 |none=>show⟨λ⟨_,_,e,_⟩=>(by cases e),λ⟨_,e,_⟩=>(by cases e)⟩
 |some a=>show⟨λ⟨_,_,e,h⟩=>(by cases e;show⟨a,rfl,h⟩),λ⟨_,e,h⟩=>(by cases e;show⟨a,st,rfl,h⟩)⟩
def bp:W (M.fail:M α) st Q↔False:=⟨λ⟨_,_,e,_⟩=>(by cases e),Mg⟩
def W.mono(h:W m st Q)(i:∀a s,Q a s->Q' a s):W m st Q':=let ⟨a,s,e,q⟩:=h;⟨a,s,e,i a s q⟩
end
inductive Ro where|add|sub|mul|Oe|mod|pow
deriving DecidableEq
inductive Qo where|eq|ne|lt|le|gt|ge|isin|Ja|is|TL
deriving DecidableEq
inductive Bf where|len|sorted|list|tuple|str|int|repr|max|min|all|any
deriving DecidableEq
inductive B2 where|MA|K6|sset|mj
deriving DecidableEq
inductive Mf where|split|join|partition|endswith
deriving DecidableEq
inductive K7 where|str|list|tuple|int|bool
deriving DecidableEq
inductive Ik where|seq|Kx|X2|Na|zip|rev
deriving DecidableEq
inductive E where
 |var (i:Nat)
 |cst (u:U)
 |Of (x:Str) (u:U)
 |bin (op:Ro) (a b:E)
 |cmp (op:Qo) (a b:E)
 |MB (o1 o2:Qo) (a b c:E)
 |and (es:List E)|or (es:List E)|not (a:E)
 |ite (c a b:E)
 |tup (es:List E)|lst (es:List E)|Ky (r:Bool)
 |idx (a b:E)
 |MC (a:E) (lo hi:List E)
 |bi (f:Bf) (es:List E)
 |NF (f:B2) (es:List E)
 |NG (m:Mf) (a:E) (es:List E)
 |call (f:Str) (es:List E)
 |comp (k:Nat) (t:Bool) (ik:Ik) (src:List E) (cond:List E) (e:E)
 |neg (a:E)|bad|NH (a:E) (T:K7)|fst (es:List E)|inD (neg:Bool) (a:E) (i:Nat)|Pe (i:Nat)|Lv (i:Nat) (k d:E)|Pf (i:Nat)|Nb (ln:Bool) (a b:E)
 |IT (f:Str) (es:List E) (is:List Nat)
 |pop (i:Nat)|Nc (i:Nat) (e:E)
 |Kf (a:E) (D:Str) (tb:List (Str×Bool))|Nd (ix:Bool) (i:Nat) (b:Bool)
inductive S where
 |set (i:Nat) (e:E)
 |L8 (is:List Nat) (e:E)
 |put (i:Nat) (k v:E)
 |app (i:Nat) (e:E)|ext (i:Nat) (e:E)|bad|newD (i:Nat)|putD (i:Nat) (k v:E)|Kz (i:Nat) (k v:E)|aug (sub:Bool) (i:Nat) (k v:E)|Rp (i:Nat)
 |exp (e:E)
 |ret (e:E)|L9
 |Lw (i:Nat) (e:E)
 |ite (c:E) (a b:List S)
 |Ji (t:Bool) (is:List Nat) (ik:Ik) (src:List E) (body:List S)
 |MV (c:E) (body:List S)
 |brk|cnt|Rq
 |Mh (is:List Nat)
 |Nf (c:Str) (e:E)
 |Og (f:Str) (es:List E)|MW (i:Nat) (c:List E) (f:Str) (es:List E) (g:Str) (Ku:List E) (x:Str) (cs:List Str) (j k:Nat)
 |inc (i:Nat) (n:Int)
abbrev isAny:Kd->Bool
 |.any=>b6
 |_=>cc
abbrev fq(k:Kd)(xs:List U):Bool:=!isAny k||cB xs
abbrev kT(k k':Kd):Kd:=if isAny k||isAny k' then .any else .loc
abbrev cut{α:Type}(xs:List α)(lo a:Option Int):List α:=(xs.drop (HT.Kt xs.length 0 lo)).take (HT.Kt xs.length xs.length a - HT.Kt xs.length 0 lo)
abbrev yj:Kd×U->Kd×U->Option (Kd×U)
 |(_,.int i),(_,.int j)=>a5 (.loc,.int (i+j))
 |(_,.str x),(_,.str y)=>if x.length+y.length<=cL then a5 (.loc,.str (x++y)) else b8
 |(k,.lst xs),(k',.lst a)=>if xs.length+a.length<=cL/\fq k xs=b6/\fq k' a=b6 then a5 (.own,.lst (xs++a)) else b8
 |(k,.tup xs),(k',.tup a)=>if xs.length+a.length<=cL then a5 (kT k k',.tup (xs++a)) else b8
 |_,_=>b8
abbrev sj(f:Int->Int->Option Int):U->U->Option (Kd×U)
 |.int i,.int j=>(f i j).map λn=>(.loc,.int n)
 |_,_=>b8
abbrev A4(i j:Int):Option Int:=if ((-(2 ^ 64)<i/\i<2 ^ 64)\/(-(2 ^ 64)<j/\j<2 ^ 64)) then a5 (i * j) else b8
abbrev A5(i j:Int):Option Int:=if 0<j/\j<1073741824 then a5 (i / j) else b8
abbrev A6(i j:Int):Option Int:=if 0<j then a5 (i % j) else b8
abbrev A7(i j:Int):Option Int:=if 0<=j/\j<=1000000/\i.natAbs<2 ^ 64 then a5 (i ^ j.toNat) else b8
abbrev Lg(a:Ro)(x y:Kd×U):Option (Kd×U):=match a with
 |.add=>yj x y
 |.sub=>sj (λi j=>a5 (i - j)) x.2 y.2
 |.mul=>sj A4 x.2 y.2
 |.Oe=>sj A5 x.2 y.2
 |.mod=>sj A6 x.2 y.2
 |.pow=>sj A7 x.2 y.2
mutual
noncomputable def J6:Nat->U->Bool
 |_,.IQ _ _=>cc
 |_,.exc _=>cc
 |0,.tup _=>cc
 |0,.lst _=>cc
 |n+1,.tup xs=>dw n xs
 |n+1,.lst xs=>dw n xs
 |_,.IV=>b6|_,.bl _=>b6|_,.int _=>b6|_,.str _=>b6
noncomputable def dw:Nat->List U->Bool
 |_,[]=>b6
 |n,u::us=>J6 n u&&dw n us
end
mutual
noncomputable def cy:U->U->Bool
 |.IV,.IV=>b6
 |.bl a,.bl b=>a==b
 |.bl a,.int b=>(if a then 1 else 0)==b
 |.int a,.bl b=>a==(if b then 1 else 0)
 |.int a,.int b=>a==b
 |.str a,.str b=>a==b
 |.tup xs,.tup c=>cJ xs c
 |.lst xs,.lst c=>cJ xs c
 |_,_=>cc
noncomputable def cJ:List U->List U->Bool
 |[],[]=>b6
 |u::us,w::ws=>cy u w&&cJ us ws
 |_,_=>cc
end
abbrev Oh(x:U)(a:List U):Option Bool:=if J6 50 x=b6/\dw 50 a=b6 then a5 (a.any λy=>cy y x) else b8
abbrev strsOf:List U->Option (List Str)
 |[]=>a5 []
 |.str x::us=>(strsOf us).map (x::·)
 |_::_=>b8
abbrev yk:U->U->Option Bool
 |x,.lst a=>Oh x a
 |x,.tup a=>Oh x a
 |.str x,.IQ ks _=>a5 (cK (x∈ks))
 |_,_=>b8
abbrev dI:List Str->List U->Str->Option U
 |y::ks,u::us,x=>if y=x then a5 u else dI ks us x
 |_,_,_=>b8
abbrev dput(ks:List Str)(us:List U)(x:Str)(u:U):List Str×List U :=
 if x∈ks then(ks,(ks.zip us).map λp=>if p.1=x then u else p.2) else(ks++[x],us++[u])
abbrev la:U->Bool
 |.IV=>b6
 |_=>cc
abbrev wj(f:Int->Int->Bool):U->U->Option Bool
 |.int i,.int j=>a5 (f i j)
 |_,_=>b8
abbrev cH:Qo->U->U->Option Bool
 |.eq,a,b=>if J6 50 a=b6/\J6 50 b=b6 then a5 (cy a b) else b8
 |.ne,a,b=>if J6 50 a=b6/\J6 50 b=b6 then a5 (!cy a b) else b8
 |.lt,a,b=>wj (λi j=>cK (i<j)) a b
 |.le,a,b=>wj (λi j=>cK (i<=j)) a b
 |.gt,a,b=>wj (λi j=>cK (j<i)) a b
 |.ge,a,b=>wj (λi j=>cK (j<=i)) a b
 |.isin,a,b=>yk a b
 |.Ja,a,b=>(yk a b).map (!·)
 |.is,a,b=>if la b=b6 then a5 (la a) else b8
 |_,_,_=>b8
abbrev gV:List U->Option (List Bool)
 |[]=>a5 []
 |.bl x::us=>(gV us).map (x::·)
 |_::_=>b8
abbrev gM:Kd×U->U->Option (Kd×U)
 |(k,.lst xs),.int i=>(JK xs i).map λu=>(kE k,u)
 |(k,.tup xs),.int i=>(JK xs i).map λu=>(kE k,u)
 |(_,.str x),.int i=>if x.length<=cL then(JK x.cps.toList i).map λc=>(.loc,.str ⟨#[c]⟩) else b8
 |_,_=>b8
abbrev lb:Kd×U->Option Int->Option Int->Option (Kd×U)
 |(k,.lst xs),lo,a=>if fq k xs=b6 then a5 (.own,.lst (cut xs lo a)) else b8
 |(_,.str x),lo,a=>if x.length<=cL then a5 (.loc,.str (PySem.StrLaws.sliceText x lo a)) else b8
 |_,_,_=>b8
abbrev Ec:U->Option Nat
 |.lst xs=>a5 xs.length
 |.tup xs=>a5 xs.length
 |.str x=>if x.length<=cL then a5 x.length else b8
 |_=>b8
abbrev jm{β:Type}(f:Kd×U->Option β):List (Kd×U)->Option β
 |[x]=>f x
 |_=>b8
abbrev intsOf:List U->Option (List Int)
 |[]=>a5 []
 |.int x::us=>(intsOf us).map (x::·)
 |_::_=>b8
abbrev Ed:Kd×U->Option (Kd×U)
 |(_,.lst xs)=>(strsOf xs).bind λa=>if a.length<64 then a5 (.own,.lst ((aP a).map .str)) else b8
 |(_,.IQ ks _)=>if ks.length<64 then a5 (.own,.lst ((aP ks).map .str)) else b8
 |(_,.tup xs)=>(strsOf xs).bind λa=>if a.length<64 then a5 (.own,.lst ((aP a).map .str)) else b8
 |_=>b8
abbrev Ee:Kd×U->Option (Kd×U)
 |(k,.lst xs)=>a5 (kE k,.tup xs)
 |(k,.tup xs)=>a5 (kE k,.tup xs)
 |_=>b8
abbrev A8:Kd×U->Option (Kd×U)
 |(_,.int i)=>if i.natAbs.log2<1920 then a5 (.loc,.str (S3 i)) else b8
 |_=>b8
abbrev Ef:Kd×U->Option (Kd×U)
 |(_,.lst xs)=>(gV xs).map λbs=>(.loc,.bl (bs.all id))
 |_=>b8
abbrev Lh(f:Bf)(rs:List (Kd×U)):Option (Kd×U):=match f with
 |.len=>jm (λx=>(Ec x.2).map λ(n:Nat)=>(Kd.loc,U.int (n:Int))) rs
 |.sorted=>jm Ed rs
 |.tuple=>jm Ee rs
 |.str=>jm A8 rs
 |.all=>jm Ef rs
 |_=>b8
abbrev ie:U->Option (List Str)
 |.lst xs=>(strsOf xs).bind λa=>if a.length+1<x3 then a5 (aD a) else b8
 |.tup xs=>(strsOf xs).bind λa=>if a.length+1<x3 then a5 (aD a) else b8
 |_=>b8
abbrev Eg:Kd×U->Option (Kd×U)
 |(k,.lst xs)=>if fq k xs=b6 then a5 (.own,.lst xs.reverse) else b8
 |_=>b8
abbrev sm(f:B2)(rs:List (Kd×U)):Option (Kd×U):=match f with
 |.MA=>b8
 |.K6=>jm Eg rs
 |.sset=>jm (λx=>(ie x.2).bind λa=>if a.length<64 then a5 (.own,.lst ((aP a).map .str)) else b8) rs
 |.mj=>b8
abbrev mD:Mf->U->List (Kd×U)->Option (Kd×U)
 |.join,.str a,[(_,.lst xs)]=>(strsOf xs).bind λb=>if ð a b=b6 then a5 (.loc,.str (TH a b)) else b8
 |_,_,_=>b8
abbrev Io:Kd×U->Option (List (Kd×U))
 |(k,.lst xs)=>a5 (xs.map λu=>(kE k,u))
 |(k,.tup xs)=>a5 (xs.map λu=>(kE k,u))
 |_=>b8
abbrev yl:Kd×U->Option (List (Kd×U))
 |(_,.int n)=>if n<2 ^ 62/\-(2 ^ 62)<n then a5 ((gs n.toNat).map λi:Nat=>(Kd.loc,U.int (0+(i:Int)))) else b8
 |_=>b8
abbrev Eh:Kd×U->Option (List (Kd×U))
 |(k,.lst xs)=>a5 (xs.zipIdx.map λp=>(kE k,.tup [.int p.2,p.1]))
 |(k,.tup xs)=>a5 (xs.zipIdx.map λp=>(kE k,.tup [.int p.2,p.1]))
 |_=>b8
abbrev oV(d:List Str×List U):List (Kd×U):=(d.1.zip d.2).map λp=>(Kd.loc,U.tup [.str p.1,p.2])
abbrev KI(ik:Ik)(rs:List (Kd×U)):Option (List (Kd×U)):=match ik with
 |.seq=>jm Io rs
 |.Kx=>jm yl rs
 |.Na=>jm Eh rs
 |_=>b8
abbrev A9(ps:List (Str×Int)):List (Str×Int):=(j3 (ps.map (·.1))).map λi=>ps.getD i (tv,0)
abbrev wm(p:Str×Int):U:=.tup [.str p.1,.int p.2]
abbrev ym:U->Option (Kd×U)
 |.IQ ks us=>(intsOf us).bind λns=>if ks.length<64/\ks.Nodup/\ks.length=ns.length then a5 (.own,.lst ((A9 (ks.zip ns)).map wm)) else b8
 |_=>b8
abbrev qt(ln:Bool)(a b:List Str):Option (Kd×U):=if a.length<64/\b.length<64 then a5 (if ln=b6 then(.loc,.int ((a.filter λx=>cK (x∉b)).length:Nat)) else(.own,.lst ((aP (a.filter λx=>cK (x∉b))).map .str))) else b8
abbrev wo:U->Option Bool
 |.bl b=>a5 b
 |.lst xs=>a5 !xs.isEmpty
 |.tup xs=>a5 !xs.isEmpty
 |.str x=>if x.length<=cL then a5 ((x.length:Int) != 0) else b8
 |_=>b8
abbrev lift:Kd×U->M U
 |(.own,u)=>pure u
 |(.loc,u)=>pure u
 |(.any,u)=>if Jo u=b6 then pure u else M.fail
 |(.bor j,_)=>λst=>match st[j]? with
  |some (a5 (.own,u))=>a5 (.ok u,st.set j (a5 (.loc,u)))
  |_=>b8
 |(.io,_)=>M.fail
 |(.IL,_)=>M.fail
abbrev cV:List (Kd×U)->M (List U)
 |[]=>pure []
 |r::rs=>do let u <-lift r;let us <-cV rs;pure (u::us)
abbrev dR(i:Nat):Kd×U->M Unit
 |(.bor j,_)=>λst=>match st[j]? with
  |some (a5 (.own,u))=>a5 (.ok (),(st.set j (a5 (.loc,u))).set i (a5 (.loc,u)))
  |_=>b8
 |(.io,_)=>M.fail
 |(.IL,_)=>M.fail
 |(k,u)=>λst=>a5 (.ok (),st.set i (a5 (k,u)))
def bq:List (Kd×U)->aw->Prop
 |[],_=>True
 |(.bor j,u)::rs,st=>(∃k:Kd,k.root=b6/\st[j]?=a5 (a5 (k,u)))/\bq rs st
 |_::rs,st=>bq rs st
open Classical in
abbrev aA(rs:List (Kd×U)):M Unit:=λst=>if bq rs st then a5 (.ok (),st) else b8
@[reducible]def Tab:=Str->List U->Option (Ex (Kd×U))
abbrev lh(Γ:Tab)(f:Str)(us:List U):M (Kd×U):=λst=>match Γ f us with
 |some (.ok (.any,_))=>b8
 |none=>b8
 |some r=>a5 (r,st)
abbrev ig(rs:List (Kd×U))(p:Nat):Option Nat:=match rs[p]? with
 |some (.bor j,.lst us)=>if cB us=b6 then a5 j else b8
 |_=>b8
abbrev qu(a:List (Option Nat)):Kd×U->Bool
 |(.bor j,_)=>cK (a5 j∉a)
 |_=>b6
abbrev qv(rs:List (Kd×U))(is:List Nat):Bool:=is.all (λp=>(ig rs p).isSome)&&cK ((is.map (ig rs)).Nodup)&&(gs rs.length).all λq=>cK (q∈is)||qu (is.map (ig rs)) (rs.getD q (.loc,.IV))
abbrev gW(rs:List (Kd×U)):List Nat->List U->aw->Option aw
 |[],[],st=>a5 st
 |p::is,w::ws,st=>match ig rs p with
  |some j=>match w,st[j]? with
   |.lst us,a5 (a5 (k,_))=>gW rs is ws (st.set j (a5 (k,.lst us)))
   |_,_=>b8
  |none=>b8
 |_,_,_=>b8
abbrev TN:Kd×U->Option (Kd×U×List U)
 |(.own,.tup (u::ws))=>a5 (.own,u,ws)
 |(.loc,.tup (u::ws))=>a5 (.loc,u,ws)
 |_=>b8
abbrev eF(st:aw):Kd×U->Kd×U
 |(.bor j,u)=>(.bor j,match st[j]? with|some (a5 (k,u'))=>if k.root=b6 then u' else u|_=>u)
 |r=>r
abbrev A_(rs:List (Kd×U)):M (List (Kd×U)):=λst=>a5 (.ok (rs.map (eF st)),st)
abbrev qw(Γ:Tab)(f:Str)(rs:List (Kd×U))(is:List Nat):M (Kd×U):=λst=>match Γ f (rs.map (·.2)) with
 |some (.ok r)=>match TN r with
  |some (k,u,ws)=>if qv rs is=b6 then(match gW rs is ws st with|some st'=>a5 (.ok (k,u),st')|none=>b8) else b8
  |none=>b8
 |_=>b8
abbrev yn(i:Nat):M (Kd×U):=λst=>match st[i]? with
 |some (a5 (k,.lst us))=>if k.root=b6 then(match us[us.length - 1]? with|some u=>a5 (.ok (.loc,u),st.set i (a5 (k,.lst us.dropLast)))|none=>b8) else b8
 |_=>b8
abbrev Ba(i:Nat):U->M (Kd×U)
 |.int j=>λst=>match st[i]? with
  |some (a5 (k,.lst us))=>if k.root=b6/\0<=j/\j<1000000 then(match us[j.toNat]? with|some u=>a5 (.ok (.loc,u),st.set i (a5 (k,.lst (us.eraseIdx j.toNat))))|none=>b8) else b8
  |_=>b8
 |_=>M.fail
abbrev c_(i:Nat):M (Kd×U):=λst=>match st[i]? with
 |some (a5 (.IL,_))=>b8
 |some (a5 (k,u))=>a5 (.ok (if k.root=b6 then .bor i else k,u),st)
 |_=>b8
abbrev iK(i:Nat):M (List Str×List U):=λst=>match st[i]? with
 |some (a5 (.IL,.IQ ks us))=>a5 (.ok (ks,us),st)
 |_=>b8
abbrev j6(x:Kd×U):M Str:=match x.2 with
 |.str y=>pure y
 |_=>M.fail
abbrev TQ(neg:Bool)(y:Str)(ks:List Str):Bool:=if neg=b6 then !cK (y∈ks) else cK (y∈ks)
abbrev yo(i:Nat):M (Kd×U):=λst=>match st[i]? with
 |some (a5 (.IL,u))=>a5 (.ok (.bor i,u),st.set i (a5 (.own,u)))
 |_=>c_ i st
abbrev qx(i:Nat):M (List Str×List U):=λst=>match st[i]? with
 |some (a5 (.IL,.IQ ks us))=>a5 (.ok (ks,us),st.set i b8)
 |_=>b8
abbrev CM(i:Nat):M Unit:=λst=>a5 (.ok (),st.set i (a5 (.IL,.IQ [] [])))
abbrev lj(i:Nat)(y:Str):Kd×U->M Unit
 |(.own,.lst us)=>λst=>match st[i]? with
  |some (a5 (.IL,.IQ ks vs))=>if y∉ks/\ks.length<cL then a5 (.ok (),st.set i (a5 (.IL,.IQ (ks++[y]) (vs++[.lst us])))) else b8
  |_=>b8
 |_=>M.fail
abbrev jn:List Str->List U->Str->U->List U
 |k::ks,v::vs,y,u=>if k=y then u::vs else v::jn ks vs y u
 |_,vs,_,_=>vs
abbrev ll(i:Nat)(y:Str)(u:U):M Unit:=λst=>match st[i]? with
 |some (a5 (.IL,.IQ ks vs))=>match dI ks vs y with
  |some (.lst xs)=>if xs.length<cL then a5 (.ok (),st.set i (a5 (.IL,.IQ ks (jn ks vs y (.lst (xs++[u])))))) else b8
  |_=>b8
 |_=>b8
abbrev TR:U->M Unit
 |.IQ _ _=>pure ()
 |_=>M.fail
abbrev Bb(x:Kd×U)(y:Str)(u:U):Option (Kd×U):=match x with
 |(k,.IQ ks us)=>a5 (match dI ks us y with|some v=>(kE k,v)|none=>(.loc,u))
 |_=>b8
abbrev qy(i:Nat):M (List U):=λst=>match st[i]? with
 |some (a5 (k,.lst us))=>if k.root=b6 then a5 (.ok us,st) else b8
 |_=>b8
abbrev oW(x:Kd×U):M Int:=match x.2 with
 |.int j=>pure j
 |_=>M.fail
abbrev qz(us:List U)(j:Int):Option Int:=if 0<=j then(match us[j.toNat]? with|some (.int o)=>a5 o|_=>b8) else b8
abbrev wq(sub:Bool)(o w:Int):Int:=if sub=b6 then o - w else o+w
abbrev Ip:U->Option U
 |.lst us=>a5 (.lst us.reverse)
 |_=>b8
abbrev sets:List Nat->List (Kd×U)->M Unit
 |[],[]=>pure ()
 |i::is,r::rs=>do dR i r;sets is rs
 |_,_=>M.fail
abbrev dy(t:Bool)(is:List Nat)(r:Kd×U):M Unit:=match t,is,r with
 |false,[i],r=>dR i r
 |true,is,(k,.tup xs)=>sets is (xs.map λu=>(kE k,u))
 |_,_,_=>M.fail
abbrev inScope{α:Type}(k:Nat)(m:M α):M α:=λst=>match m (i2 k b8++st) with
 |none=>b8
 |some (r,st')=>a5 (r,st'.drop k)
abbrev bJ(k:Nat)(t:Bool)(cond:M Bool)(elt:M (Kd×U))(src:List (Kd×U)):List (Kd×U)->List U->M (List U)
 |[],acc=>do aA src;pure acc
 |x::xs,acc=>do
  aA src
  let r <-inScope k (dy t (gs k) x >>= λ_=>cond >>= λb=>if b=b6 then(elt >>= λr=>lift r >>= λu=>pure (a5 u)) else pure b8)
  match r with
  |some u=>if acc.length<cL then bJ k t cond elt src xs (acc++[u]) else M.fail
  |none=>bJ k t cond elt src xs acc
abbrev qA:U->K7->Option Bool
 |.str _,T=>a5 (cK (T=.str))
 |.int _,T=>a5 (cK (T=.int))
 |.bl _,.bool=>a5 b6
 |.bl _,.int=>a5 b6
 |.lst _,T=>a5 (cK (T=.list))
 |.tup _,T=>a5 (cK (T=.tuple))
 |_,_=>b8
abbrev Iq:Kd×U->Option (Kd×U)
 |(_,.int i)=>a5 (.loc,.int (-i))
 |_=>b8
abbrev Ei(x:Kd×U):M (Option Int):=match x.2 with
 |.int i=>pure (a5 i)
 |_=>M.fail
abbrev Ng:U->M Unit
 |.lst _=>pure ()
 |_=>M.fail
section
variable(Γ:Tab)
abbrev so(a:Bool)(i:Nat)(b:Bool):M (Kd×U):=λst=>match st[i]? with
 |some (a5 (k,.lst us))=>if k.root=b6 then(match gV us with
  |some bs=>if a=b6 then(if b∈bs then a5 (.ok (.loc,.int (bs.idxOf b:Nat)),st) else b8) else a5 (.ok (.loc,.int (bs.count b:Nat)),st)
  |none=>b8) else b8
 |_=>b8
abbrev ft(a:List (Str×Bool)):U->Option Bool
 |.exc c=>a.lookup c
 |_=>b8
mutual
noncomputable def ev:E->M (Kd×U)
 |.var i=>c_ i
 |.cst u=>pure (.loc,u)
 |.Of _ u=>pure (.loc,u)
 |.bin g a b=>do
  let x <-ev a
  let y <-ev b
  aA [x,y]
  M.Jf (Lg g x y)
 |.cmp g a b=>do
  let x <-ev a
  let y <-ev b
  aA [x,y]
  let c <-M.Jf (cH g x.2 y.2)
  pure (.loc,.bl c)
 |.MB _ _ _ _ _=>M.fail
 |.and es=>iL es
 |.or _=>M.fail
 |.not a=>do
  let x <-ev a
  match x.2 with
  |.bl c=>pure (.loc,.bl !c)
  |_=>M.fail
 |.ite c a b=>do
  let p <-Jl c
  if p=b6 then ev a else ev b
 |.tup es=>do
  let rs <-bw es
  aA rs
  let us <-cV rs
  if us.length<=cL then pure (.loc,.tup us) else M.fail
 |.lst es=>do
  let rs <-bw es
  aA rs
  let us <-cV rs
  if us.length<=cL then pure (.own,.lst us) else M.fail
 |.Ky r=>pure (.own,.IQ [] [])
 |.idx a b=>do
  let x <-ev a
  let y <-ev b
  aA [x,y]
  M.Jf (gM x y.2)
 |.MC a lo j=>do
  let x <-ev a
  let l <-Oi lo
  let h <-Oi j
  aA [x]
  M.Jf (lb x l h)
 |.bi f es=>do
  let rs <-bw es
  aA rs
  M.Jf (Lh f rs)
 |.NF f es=>do
  let rs <-bw es
  aA rs
  M.Jf (sm f rs)
 |.NG m a es=>do
  let x <-ev a
  let rs <-bw es
  aA (x::rs)
  M.Jf (mD m x.2 rs)
 |.call f es=>do
  let rs <-bw es
  aA rs
  lh Γ f (rs.map (·.2))
 |.comp k t ik src cond e=>do
  let rs <-bw src
  aA rs
  let xs <-M.Jf (KI ik rs)
  let us <-bJ k t (a_ cond) (ev e) rs xs []
  pure (.own,.lst us)
 |.neg a=>do
  let x <-ev a
  M.Jf (Iq x)
 |.bad=>M.fail
 |.inD _ _ _=>M.fail
 |.Pe i=>yo i
 |.Lv i k d=>do
  let x <-c_ i
  TR x.2
  let y <-ev k
  let y <-j6 y
  let z <-ev d
  let u <-lift z
  let x <-c_ i
  M.Jf (Bb x y u)
 |.Pf i=>do
  let x <-c_ i
  M.Jf (ym x.2)
 |.IT f es is=>do
  let rs <-(bw es >>= A_)
  aA rs
  qw Γ f rs is
 |.Kf a _ n=>do
  let x <-ev a
  let b <-M.Jf (ft n x.2)
  pure (.loc,.bl b)
 |.Nd o i b=>so o i b
 |.pop i=>yn i
 |.Nc i e=>do
  let x <-c_ i
  Ng x.2
  let y <-ev e
  Ba i y.2
 |.Nb ln a b=>do
  let x <-ev a
  let q <-M.Jf (ie x.2)
  let y <-ev b
  let s <-M.Jf (ie y.2)
  M.Jf (qt ln q s)
 |.fst es=>M.fail
 |.NH a T=>do
  let x <-ev a
  let b <-M.Jf (qA x.2 T)
  pure (.loc,.bl b)
noncomputable def bw:List E->M (List (Kd×U))
 |[]=>pure []
 |e::es=>do let r <-ev e;let rs <-bw es;pure (r::rs)
noncomputable def Oi:List E->M (Option Int)
 |[]=>pure b8
 |[e]=>do let x <-ev e;Ei x
 |_=>M.fail
noncomputable def iL:List E->M (Kd×U)
 |[]=>M.fail
 |[e]=>ev e
 |e::es=>do
  let x <-ev e
  match x.2 with
  |.bl b6=>iL es
  |.bl cc=>pure (.loc,.bl cc)
  |_=>M.fail
noncomputable def Jl:E->M Bool
 |.and es=>a_ es
 |.or es=>jK es
 |.not a=>do let b <-Jl a;pure !b
 |.cmp e a b=>do
  let x <-ev a
  let y <-ev b
  aA [x,y]
  M.Jf (cH e x.2 y.2)
 |.var i=>do let x <-c_ i;M.Jf (wo x.2)
 |.bi f es=>do
  let rs <-bw es
  aA rs
  let r <-M.Jf (Lh f rs)
  M.Jf (wo r.2)
 |.call f es=>do
  let rs <-bw es
  aA rs
  let r <-lh Γ f (rs.map (·.2))
  M.Jf (wo r.2)
 |.MB g o2 a b c=>do
  let x <-ev a
  let y <-ev b
  aA [x,y]
  let p <-M.Jf (cH g x.2 y.2)
  if p=b6 then do
   let z <-ev c
   aA [y,z]
   M.Jf (cH o2 y.2 z.2)
  else pure cc
 |.inD neg a i=>do
  let x <-ev a
  let y <-j6 x
  let d <-iK i
  pure (TQ neg y d.1)
 |.NH a T=>do
  let x <-ev a
  M.Jf (qA x.2 T)
 |.Kf a _ h=>do
  let x <-ev a
  M.Jf (ft h x.2)
 |_=>M.fail
noncomputable def a_:List E->M Bool
 |[]=>pure b6
 |[e]=>Jl e
 |e::es=>do let b <-Jl e;if b=b6 then a_ es else pure cc
noncomputable def jK:List E->M Bool
 |[]=>pure cc
 |[e]=>Jl e
 |e::es=>do let b <-Jl e;if b=b6 then pure b6 else jK es
end
inductive Fl where|nx|rt (k:Kd) (u:U)|bk|ct
abbrev retS:Kd×U->M Fl
 |(.own,u)=>pure (.rt .own u)
 |(.loc,u)=>pure (.rt .loc u)
 |(.any,u)=>if Jo u=b6 then pure (.rt .loc u) else pure (.rt .any u)
 |(.bor j,_)=>λst=>match st[j]? with
  |some (a5 (.own,u))=>a5 (.ok (.rt .own u),st.set j b8)
  |_=>b8
 |(.io,_)=>M.fail
 |(.IL,_)=>M.fail
abbrev forM(t:Bool)(is:List Nat)(body:M Fl)(src:List (Kd×U)):List (Kd×U)->M Fl
 |[]=>do aA src;pure .nx
 |x::xs=>do
  aA src
  dy t is x
  let f <-body
  match f with
  |.nx=>forM t is body src xs
  |.ct=>forM t is body src xs
  |.bk=>pure .nx
  |.rt k u=>pure (.rt k u)
abbrev fL(c:M Bool)(body:M Fl):Nat->M Fl
 |0=>M.fail
 |n+1=>do
  let b <-c
  if b=b6 then do
   let f <-body
   match f with
   |.nx=>fL c body n
   |.ct=>fL c body n
   |.bk=>pure .nx
   |.rt k u=>pure (.rt k u)
  else pure .nx
abbrev dU(Γ:Tab)(f:Str)(us:List U):M (Sum (Kd×U) Str):=λst=>match Γ f us with
 |some (.ok (.own,u))=>a5 (.ok (.inl (.own,u)),st)
 |some (.ok (.loc,u))=>a5 (.ok (.inl (.loc,u)),st)
 |some (.exc c)=>a5 (.ok (.inr c),st)
 |_=>b8
abbrev Bc:Sum (Kd×U) Str->M Fl
 |.inl _=>pure .nx
 |.inr c=>pure (.rt .io (.str c))
abbrev j7(cs:List Str)(i j k:Nat):Sum (Kd×U) Str->M Fl
 |.inl r=>do dR i r;pure .nx
 |.inr c=>λst=>match st[j]? with
  |some b8=>if k≠j/\c∈cs then(dR k (.loc,.exc c) >>= λ_=>pure .nx) st else b8
  |_=>b8
abbrev modS(i:Nat)(f:U->Option U):M Unit:=λst=>match st[i]? with
 |some (a5 (k,u))=>if k.root=b6 then match f u with
   |some u'=>a5 (.ok (),st.set i (a5 (k,u')))
   |none=>b8
  else b8
 |_=>b8
abbrev yp(u:U):U->Option U
 |.lst xs=>if xs.length<cL then a5 (.lst (xs++[u])) else b8
 |_=>b8
abbrev lp:Kd×U->U->Option U
 |(k,.lst a),.lst xs=>if xs.length+a.length<=cL/\fq k a=b6 then a5 (.lst (xs++a)) else b8
 |(k,.tup a),.lst xs=>if xs.length+a.length<=cL/\fq k a=b6 then a5 (.lst (xs++a)) else b8
 |_,_=>b8
abbrev eG(x u:U):U->Option U
 |.IQ ks vs=>match x with
  |.str y=>if ks.length<cL then a5 (.IQ (dput ks vs y u).1 (dput ks vs y u).2) else b8
  |_=>b8
 |.lst xs=>match x with
  |.int i=>(Mp xs.length i).map λj=>.lst (xs.set j u)
  |_=>b8
 |_=>b8
abbrev uC:List U->U->Option U
 |[u,x]=>eG x u
 |_=>λ_=>b8
abbrev fuel:Nat:=1000000000000
mutual
noncomputable def Oj:S->Nat->Bool
 |.set i _,j=>cK (j≠i)
 |.L8 is _,j=>cK (j∉is)
 |.ite _ a b,j=>KJ a j&&KJ b j
 |.Ji _ is _ _ body,j=>cK (j∉is)&&KJ body j
 |.MV _ body,j=>KJ body j
 |.put _ _ _,_=>b6
 |.app _ _,_=>b6
 |.ext _ _,_=>b6
 |.bad,_=>b6
 |.newD i,j=>cK (j≠i)
 |.putD _ _ _,_=>b6
 |.Kz _ _ _,_=>b6
 |.aug _ _ _ _,_=>b6
 |.Rp _,_=>b6
 |.exp _,_=>b6
 |.ret _,_=>b6
 |.Lw _ _,_=>b6
 |.L9,_=>b6
 |.brk,_=>b6
 |.cnt,_=>b6
 |.Rq,_=>b6
 |.Mh _,_=>b6
 |.Nf _ _,_=>b6
 |.Og _ _,_=>b6
 |.MW i _ _ _ _ _ _ _ j k,n=>cK (n≠i)&&cK (n≠k)&&cK (n≠j)
 |.inc i _,j=>cK (j≠i)
noncomputable def KJ:List S->Nat->Bool
 |[],_=>b6
 |s::a,j=>Oj s j&&KJ a j
end
abbrev uD(rs:List (Kd×U))(is:List Nat)(body:List S):Bool:=rs.all λr=>match r.1 with
 |.bor j=>cK (j∉is)&&KJ body j
 |_=>b6
mutual
noncomputable def exec:S->M Fl
 |.set i e=>do let r <-ev Γ e;dR i r;pure .nx
 |.L8 is e=>do let r <-ev Γ e;dy b6 is r;pure .nx
 |.put i k v=>do
  let r <-ev Γ v
  let _ <-c_ i
  let x <-ev Γ k
  let us <-cV [r,x]
  modS i (uC us)
  pure .nx
 |.app i e=>do
  let x <-c_ i
  Ng x.2
  let r <-ev Γ e
  let u <-lift r
  modS i (yp u)
  pure .nx
 |.ext i e=>do
  let x <-c_ i
  Ng x.2
  let r <-ev Γ e
  modS i (lp r)
  pure .nx
 |.bad=>M.fail
 |.newD i=>do CM i;pure .nx
 |.putD i k v=>do
  let r <-ev Γ v
  let d <-iK i
  let x <-ev Γ k
  let y <-j6 x
  lj i y r
  pure .nx
 |.Kz i k v=>do
  let _ <-iK i
  let x <-ev Γ k
  let y <-j6 x
  let d <-iK i
  if y∈d.1 then do
   let r <-ev Γ v
   let u <-lift r
   ll i y u
   pure .nx
  else M.fail
 |.aug sub i k v=>do
  let _ <-qy i
  let y <-ev Γ k
  let j <-oW y
  let us <-qy i
  let o <-M.Jf (qz us j)
  let z <-ev Γ v
  let w <-oW z
  modS i (eG (.int j) (.int (wq sub o w)))
  pure .nx
 |.Rp i=>do
  modS i Ip
  pure .nx
 |.exp e=>do let _ <-ev Γ e;pure .nx
 |.ret e=>do let r <-ev Γ e;retS r
 |.Lw i e=>do
  let d <-qx i
  let us <-bJ 2 b6 (pure b6) (ev Γ e) [] (oV d) []
  retS (.own,.lst us)
 |.L9=>pure (.rt .loc .IV)
 |.ite c a b=>do let p <-Jl Γ c;if p=b6 then execs a else execs b
 |.Ji t is ik src body=>do
  let rs <-bw Γ src
  aA rs
  let xs <-M.Jf (KI ik rs)
  if uD rs is body=b6 then forM t is (execs body) rs xs else M.fail
 |.MV c body=>fL (Jl Γ c) (execs body) fuel
 |.brk=>pure .bk
 |.cnt=>pure .ct
 |.Rq=>pure .nx
 |.Mh _=>M.fail
 |.Nf c e=>do let _ <-ev Γ e;pure (.rt .io (.str c))
 |.Og f es=>do
  let r <-(bw Γ es >>= λrs=>aA rs >>= λ_=>dU Γ f (rs.map (·.2)))
  Bc r
 |.MW i c f es g h _ cs j k=>do
  let r <-(match c with
   |[c]=>Jl Γ c >>= λp=>if p=b6 then(bw Γ es >>= λrs=>aA rs >>= λ_=>dU Γ f (rs.map (·.2))) else(bw Γ h >>= λrs=>aA rs >>= λ_=>dU Γ g (rs.map (·.2)))
   |_=>bw Γ es >>= λrs=>aA rs >>= λ_=>dU Γ f (rs.map (·.2)))
  j7 cs i j k r
 |.inc i n=>c_ i >>= λr=>oW r >>= λm=>dR i (.loc,.int (m+n)) >>= λ_=>pure .nx
noncomputable def execs:List S->M Fl
 |[]=>pure .nx
 |s::a=>do
  let f <-exec s
  match f with
  |.nx=>execs a
  |f=>pure f
end
end
structure Fn where
 name:Str
 np:Nat
 ns:Nat
 body:List S
abbrev start(us:List U)(n:Nat):aw:=us.map (λu=>a5 (if Jo u=b6 then Kd.loc else Kd.any,u))++i2 (n - us.length) b8
abbrev da(Γ:Tab)(fn:Fn)(us:List U):Option (Ex (Kd×U)):=if us.length=fn.np then match execs Γ fn.body (start us fn.ns) with
  |some (.ok (.rt .own u),_)=>a5 (.ok (.own,u))
  |some (.ok (.rt .loc u),_)=>a5 (.ok (.loc,u))
  |some (.ok (.rt .any u),_)=>a5 (.ok (.any,u))
  |some (.ok .nx,_)=>a5 (.ok (.loc,.IV))
  |some (.ok (.rt .io (.str c)),_)=>a5 (.exc c)
  |_=>b8
 else b8
abbrev cW(is:List Nat)(us:List U)(n:Nat):aw:=(us.zipIdx.map λp=>a5 (if p.2∈is then Kd.io else if Jo p.1=b6 then Kd.loc else Kd.any,p.1))++i2 (n - us.length) b8
abbrev Ol:List Nat->aw->Option (List U)
 |[],_=>a5 []
 |i::is,st=>match st[i]? with
  |some (a5 (.io,u))=>(Ol is st).map (u::·)
  |_=>b8
abbrev Rr:Fl->Option (Kd×U)
 |.rt .own u=>a5 (.own,u)
 |.rt .loc u=>a5 (.loc,u)
 |.nx=>a5 (.loc,.IV)
 |_=>b8
abbrev ij(Γ:Tab)(fn:Fn)(is:List Nat)(body:List S)(us:List U):Option (Ex (Kd×U)):=if us.length=fn.np then match execs Γ body (cW is us fn.ns) with
  |some (.ok f,st)=>(Rr f).bind λr=>(Ol is st).map λws=>.ok (r.1,.tup (r.2::ws))
  |_=>b8
 else b8
abbrev Fn.io(fn:Fn):Option (List Nat×List S):=match fn.body with
 |.Mh is::body=>a5 (is,body)
 |_=>b8
abbrev jo(Γ:Tab)(fn:Fn)(us:List U):Option (Ex (Kd×U)):=match fn.io with
 |some (is,body)=>ij Γ fn is body us
 |none=>da Γ fn us
abbrev I_(P:List Fn):Nat->Tab
 |0=>λ_ _=>b8
 |d+1=>λf us=>match P.find? λfn=>cK (fn.name=f) with
  |some fn=>jo (I_ P d) fn us
  |none=>b8
end TM
namespace TM
open PySem L2
section
variable{X:Cx}{pins:List (d8×Obj)}{σ:St}{H:Hp}{s:d5}{C:Ct}{S:d8->Prop}
def uE(I:Inv X pins σ H s)(h:Jw X.K H a vs):∃b:List dV,Vals vs b/\s.heap.IsList a b.toArray/\vs.length<=cL:=by
 have⟨b,r,p,z⟩:=I.list h;show⟨b,r,p.isList,z⟩
inductive JG(s:d5):Nat->U->dV->Prop where
 |IV {n:Nat}:JG s n .IV .none
 |bl {n:Nat} {b:Bool}:JG s n (.bl b) (.bool b)
 |int {n:Nat} {i:Int} {t:Tok}:JG s n (.int i) (.int i t)
 |str {n:Nat} {y:Str} {t:Tok}:JG s n (.str y) (.str y t)
 |tup {n:Nat} {us:List U} {A':List dV} {a:d8}:us.length=A'.length->(∀j (hj:j<A'.length),JG s n (us.getD j .IV) A'[j])->cJ us us=b6->s.heap.IsTuple a A'.toArray->JG s (n+1) (.tup us) (.ref a)
 |lst {n:Nat} {us:List U} {A':List dV} {a:d8}:us.length=A'.length->(∀j (hj:j<A'.length),JG s n (us.getD j .IV) A'[j])->cJ us us=b6->s.heap.IsList a A'.toArray->JG s (n+1) (.lst us) (.ref a)
def JG.self(h:JG s n u x):cy u u=b6:=by
 cases h<;>first|assumption|simp[cy]
theorem JG.Bd(f:∀u v x,J6 n u=b6->Rep C S H u v->RelV v x->JG s n u x):∀{us:List U}{vs:List V}{a:List dV},dw n us=b6->au C S H us vs->Vals vs a->us.length=a.length/\(∀j (b:j<a.length),JG s n (us.getD j .IV) a[j])/\cJ us us=b6
 |[],_,_,_,h,r=>by cases h;cases r;show⟨rfl,λj b=>(nomatch b),rfl⟩
 |u::us,_,_,e,h,r=>by
  have⟨v,vs,rfl,c,g⟩:=h;simp only[dw,cb]at e;cases r with
  |cons d i =>
   have⟨l,k,y⟩:=JG.Bd f e.2 g i;show⟨by simp[l],λj b=>?_,by rw[cJ,(f _ _ _ e.1 c d).self,y];rfl⟩;cases j with
   |zero=>show f _ _ _ e.1 c d
   |succ j=>show k j (by simpa using b)
def JG.of(I:Inv X pins σ H s)(d:C.K=X.K):∀(n:Nat) (u:U) (v:V) (x:dV),J6 n u=b6->Rep C S H u v->RelV v x->JG s n u x:=by
 intro n;induction n with
 |zero=>intro u v x e h r;cases u<;>first|(simp[J6]at e;done)|(simp only[Rep]at h;subst h;first|(cases r;constructor)|(have⟨t,rfl⟩:=r;constructor))
 |succ n f =>
  intro u v x e h r;cases u with
  |tup us =>
   have⟨a,vs,rfl,b,c⟩:=h;cases r;obtain⟨g,rv,p,_⟩:=I.tuple (d▸b);have⟨l,k,y⟩:=JG.Bd f (by simpa[J6] using e) c rv;show .tup l k y p
  |lst us =>
   have⟨a,vs,rfl,b,c⟩:=h;cases r;obtain⟨g,rv,p,_⟩:=uE I (d▸b.sq);have⟨l,k,y⟩:=JG.Bd f (by simpa[J6] using e) c rv;show .lst l k y p
  |_=>first|(simp[J6]at e;done)|(simp only[Rep]at h;subst h;first|(cases r;constructor)|(have⟨t,rfl⟩:=r;constructor))
def JG.inj:∀{n:Nat}{u w:U}{x:dV},JG s n u x->JG s n w x->u=w:=by
 intro n;induction n with
 |zero=>intro u w x h h';cases h<;>cases h'<;>rfl
 |succ n r =>
  have go:∀{us ws:List U} {c its':List dV} {a:d8} {o o':Obj} {m i:Nat},us.length=c.length->(∀j (t:j<c.length),JG s n (us.getD j .IV) c[j])->ws.length=its'.length->(∀j (t:j<its'.length),JG s n (ws.getD j .IV) its'[j])->s.heap.get? a=a5 o->o.data=.seq c.toArray m->s.heap.get? a=a5 o'->o'.data=.seq its'.toArray i->us=ws:=by
   intro us ws c its' a o o' m i l k f k' e d g d';rw[e]at g;cases g;rw[d]at d';injection d' with v _
   have:c=its':=by simpa using Ł X8 v
   subst this;show LR ⋯ λj z A=>?_;have:=r (k j ⋯) (k' j ⋯);simpa[z,A] using this
  intro u w x h h';cases h with
  |tup l k y p =>
   cases h' with
   |tup f k' q b=>obtain⟨o,e,_,m,d⟩:=p;obtain⟨o',g,_,i,d'⟩:=b;rw[go l k f k' e d g d']
   |lst f k' q b=>show absurd rfl (X5 b p)
  |lst l k y p =>
   cases h' with
   |lst f k' q b=>obtain⟨o,e,_,m,d⟩:=p;obtain⟨o',g,_,i,d'⟩:=b;rw[go l k f k' e d g d']
   |tup f k' q b=>show absurd rfl (X5 p b)
  |_=>cases h';rfl
theorem jq:∀{us ws:List U},us.length≠ws.length->cJ us ws=cc
 |[],[],h=>absurd rfl h
 |[],_::_,_=>rfl
 |_::_,[],_=>rfl
 |u::us,w::ws,h=>by
  rw[cJ,jq (us:=us) (ws:=ws) (λe=>h (by simp[e])),Ts]
theorem fY:∀{us ws:List U},us.length=ws.length->cJ us ws=(gs us.length).all λj=>cy (us.getD j .IV) (ws.getD j .IV)
 |[],[],_=>rfl
 |[],_::_,h=>by simp at h
 |_::_,[],h=>by simp at h
 |u::us,w::ws,h=>by
  have h':us.length=ws.length:=by simpa using h
  rw[cJ,fY h',ke,List.range_succ_eq_map,ô,ĉ];rfl
def Gb{a its':List dV}(c:us.length=a.length)(d:ws.length=its'.length):cJ us ws=((gs (min a.toArray.size its'.toArray.size)).all (λj=>cy (us.getD j .IV) (ws.getD j .IV))&&a.toArray.size==its'.toArray.size):=by
 simp only[fx];by_cases b:us.length=ws.length
 .rw[fY b,show min a.length its'.length=us.length by lia,show(a.length==its'.length)=b6 by simp;lia,ö]
 .rw[jq b,show(a.length==its'.length)=cc by simp;lia,Ts]
def uF(b:JG s n u y)(h:Zn A s y x k)(hs:y=x->k=b6):Ss A s y x k:=λprog w E Q a=>by
 unfold eqBool;show tA ?_;show wpAny_ite_split (λc=>?_) (λ_=>?_)
 .rw[hs (eq_of_beq c)]at a;show bD (OK (df a))
 .cases b<;>show bD (h prog w E _ (LC a))
def TU(r:∀m,m+1=n->∀{u w:U}{x f:dV}{A:M4},JG s m u x->JG s m w f->A.units+m<K2->Ss A s x f (cy u w))(h:JG s n u x)(h':JG s n w f)(v:A.units+n<K2):Zn A s x f (cy u w)/\ï A s x f (!cy u w):=by
 have a:A.units<K2:=by lia
 have go:∀{m:Nat} {us ws:List U} {g its':List dV},m+1=n->(∀j (t:j<g.length),JG s m (us.getD j .IV) g[j])->(∀j (t:j<its'.length),JG s m (ws.getD j .IV) its'[j])->∀j (i:j<g.toArray.size) (o:j<its'.toArray.size),Ss A.in1 s g.toArray[j] its'.toArray[j] (cy (us.getD j .IV) (ws.getD j .IV)):=λ{m us ws g its'} e k k' j i o=>r m e (k j i) (k' j o) (by change A.units+1+m < _;lia);cases h with
 |IV =>
  cases h' with
  |IV=>show⟨.none_none,.none_none⟩
  |bl=>show⟨.none_bool _,.none_bool _⟩
  |int=>show⟨.none_int _ _,.none_int _ _⟩
  |str=>show⟨.none_str _ _,.none_str _ _⟩
  |tup c k' d b=>show⟨.none_tuple b a,.none_tuple b a⟩
  |lst c k' d b=>show⟨.none_list b a,.none_list b a⟩
 |bl =>
  cases h' with
  |IV=>show⟨.bool_none _,.bool_none _⟩
  |bl=>show⟨.bool_bool _ _,.bool_bool _ _⟩
  |int=>show⟨.bool_int _ _ _,.bool_int _ _ _⟩
  |str=>show⟨.bool_str _ _ _,.bool_str _ _ _⟩
  |tup c k' d b=>show⟨.bool_tuple _ b a,.bool_tuple _ b a⟩
  |lst c k' d b=>show⟨.bool_list _ b a,.bool_list _ b a⟩
 |int =>
  cases h' with
  |IV=>show⟨.int_none _ _,.int_none _ _⟩
  |bl=>show⟨.int_bool _ _ _,.int_bool _ _ _⟩
  |int=>show⟨.int_int _ _ _ _,.int_int _ _ _ _⟩
  |str=>show⟨.int_str _ _ _ _,.int_str _ _ _ _⟩
  |tup c k' d b=>show⟨.int_tuple _ _ b a,.int_tuple _ _ b a⟩
  |lst c k' d b=>show⟨.int_list _ _ b a,.int_list _ _ b a⟩
 |str =>
  cases h' with
  |IV=>show⟨.str_none _ _,.str_none _ _⟩
  |bl=>show⟨.str_bool _ _ _,.str_bool _ _ _⟩
  |int=>show⟨.str_int _ _ _ _,.str_int _ _ _ _⟩
  |str=>show⟨.str_str _ _ _ _,.str_str _ _ _ _⟩
  |tup c k' d b=>show⟨.str_tuple _ _ b a,.str_tuple _ _ b a⟩
  |lst c k' d b=>show⟨.str_list _ _ b a,.str_list _ _ b a⟩
 |tup l k y p =>
  cases h' with
  |IV=>show⟨.tuple_none p a,.tuple_none p a⟩
  |bl=>show⟨.tuple_bool _ p a,.tuple_bool _ p a⟩
  |int=>show⟨.tuple_int _ _ p a,.tuple_int _ _ p a⟩
  |str=>show⟨.tuple_str _ _ p a,.tuple_str _ _ p a⟩
  |tup c k' d b=>rw[show cy (.tup _) (.tup _)=_ from Gb l c];show⟨.tuples p b a (go rfl k k'),.tuples p b a (go rfl k k')⟩
  |lst c k' d b=>show⟨.tuple_list p b a,.tuple_list p b a⟩
 |lst l k y p =>
  cases h' with
  |IV=>show⟨.list_none p a,.list_none p a⟩
  |bl=>show⟨.list_bool _ p a,.list_bool _ p a⟩
  |int=>show⟨.list_int _ _ p a,.list_int _ _ p a⟩
  |str=>show⟨.list_str _ _ p a,.list_str _ _ p a⟩
  |tup c k' d b=>show⟨.list_tuple p b a,.list_tuple p b a⟩
  |lst c k' d b =>
   rename_i us _ _ ws _ _;by_cases q:us.length=ws.length
   .rw[show cy (.lst us) (.lst ws)=_ from fY q,l,<-fx];show⟨.lists p b (by simp;lia) a (go rfl k k'),.lists p b (by simp;lia) a (go rfl k k')⟩
   .rw[show cy (.lst us) (.lst ws)=cc from jq q];show⟨.lists_lengths p b (by simp;lia) a,.lists_lengths p b (by simp;lia) a⟩
def Ge:∀{n:Nat}{u w:U}{x a:dV}{A:M4},JG s n u x->JG s n w a->A.units+n<K2->Ss A s x a (cy u w):=by
 intro n;induction n with
 |zero=>intro u w x a A h h' b;show uF h (TU (λm e=>by cases e) h h' b).1 λe=>by subst e;rw[h.inj h'];show h'.self
 |succ n c=>intro u w x a A h h' b;show uF h (TU (λm e=>by cases e;show c) h h' b).1 λe=>by subst e;rw[h.inj h'];show h'.self
def Gf(h:JG s n u x)(h':JG s n w a)(b:A.units+n<K2):Zn A s x a (cy u w)/\ï A s x a (!cy u w):=TU (λm e=>by cases e;show Ge) h h' b
end
end TM
namespace TM
open PySem L2 PyProof.Rows
abbrev IX(C:Ct)(m:M (Kd×U)):TE:=λσ H Q=>∃c0:Cf,c0.σ=σ/\c0.H=H/\Ok C c0/\W m c0.st λr st'=>∀c v,c.σ=σ->c.st=st'->Ok C c->Nx c0 c->aN C c0 c r.1 r.2 v->Q v c.H
abbrev Ka(C:Ct)(m:M Bool):TT:=λσ H Q=>∃c0:Cf,c0.σ=σ/\c0.H=H/\Ok C c0/\W m c0.st λb st'=>∀c,c.σ=σ->c.st=st'->Ok C c->Nx c0 c->Q b c.H
def cM(C:Ct)(c0 c:Cf):List (Kd×U)->List V->Prop
 |[],vs=>vs=[]
 |r::rs,vs=>∃v t,vs=v::t/\fX C c0 c r.1 r.2 v/\cM C c0 c rs t/\(r.1=.own->∀(i:Nat) a b,rs[i]?=a5 a->t[i]?=a5 b->a.1=.own->b≠v)
abbrev Kj(C:Ct)(m:M (List (Kd×U))):TA:=λσ H Q=>∃c0:Cf,c0.σ=σ/\c0.H=H/\Ok C c0/\W m c0.st λrs st'=>∀c vs,c.σ=σ->c.st=st'->Ok C c->Nx c0 c->cM C c0 c rs vs->Q vs c.H
section
def PE.weak(h:PE X e t)(i:∀σ H Q,t' σ H Q->t σ H Q):PE X e t':=λa s σ H Q I q=>h a s σ H Q I (i σ H Q q)
def PT.weak(h:PT X e t)(i:∀σ H Q,t' σ H Q->t σ H Q):PT X e t':=λa s σ H Q I q=>h a s σ H Q I (i σ H Q q)
def cE{st:aw}:W (aA rs) st Q↔bq rs st/\Q () st:=by
 constructor
 .rintro⟨a,st',e,h⟩;unfold aA at e;split at e
  .cases e;show⟨by assumption,h⟩
  .cases e
 .rintro⟨b,c⟩;show⟨(),st,by unfold aA;rw[ļ b],c⟩
def gz{st:aw}:bq (r::rs) st↔bq [r] st/\bq rs st:=by
 have⟨k,u⟩:=r;cases k<;>simp[bq]
def fX.t(h:fX C c0 c k u v)(s:bq [(k,u)] c.st):aN C c0 c k u v:=by
 cases k with
 |bor j=>show⟨s.1,h⟩
 |_=>show h
structure Qp(C:Ct)(c0 c:Cf)(x y:Kd×U)(vx vy:V):Prop where
 hσ:c.σ=c0.σ
 ok:Ok C c
 nx:Nx c0 c
 rx:aN C c0 c x.1 x.2 vx
 ry:aN C c0 c y.1 y.2 vy
 ne:x.1=.own->y.1=.own->vy≠vx
def oX(h:fX C c0 c1 k u v)(h':fX C c1 c k' u' b):k=.own->k'=.own->b≠v:=by
 rintro rfl rfl e;obtain⟨r,d,_,_,_,f⟩:=h;obtain⟨i,g,a,_⟩:=h';obtain⟨o,ho,_⟩:=f.some;subst d;rw[g]at e;cases e;rw[ho]at a;cases a
def two{k:Kd×U->Kd×U->M β}{Post:β->aw->Prop}{f:dV->dV->Sem α}{Q':dV->dV->α->d5->Prop}(L:PE X a (IX C N))(O:PE X b (IX C r))(I:Inv X d c0.σ c0.H s)(Q:Ok C c0)
  (h:W (N >>= λx=>r >>= λy=>aA [x,y] >>= λ_=>k x y) c0.st Post)
  (T:∀x y c e i v u s2,Qp C c0 c x y e i->Inv X d c.σ c.H s2->RelV e v->RelV i u->W (k x y) c.st Post->d3 (et X.prog X.w) X.A (f v u) (Q' v u) X.xe s2) :
  d3 (et X.prog X.w) X.A (u7 a X.env) (λv Y=>d3 (et X.prog X.w) X.A (u7 b X.env) (λu s₂=>d3 (et X.prog X.w) X.A (f v u) (Q' v u) X.xe s₂) X.xe Y) X.xe s:=by
 rw[ah]at h;show I0 (L d s c0.σ c0.H (λe z=>∃x c1,c1.H=z/\c1.σ=c0.σ/\Ok C c1/\Nx c0 c1/\aN C c0 c1 x.1 x.2 e/\W (r >>= λy=>aA [x,y] >>= λ_=>k x y) c1.st Post) I ⟨c0,rfl,rfl,Q,h.mono λx st1 m c1 e n e2 o p q=>⟨x,c1,rfl,n,o,p,q,by rw[e2];show m⟩⟩) ?_;rintro v s1 ⟨e,z,I1,rv,x,c1,rfl,n,o,p,q,m⟩;rw[ah]at m;show I0 (O d s1 c0.σ c1.H (λi B=>∃y g,g.H=B/\Qp C c0 g x y e i/\W (k x y) g.st Post) I1 ⟨c1,n,rfl,o,m.mono λy st2 j g i D e4 Jm G J=>?_⟩) ?_
 .rw[ah,cE]at j;subst e4;rw[gz]at j;show⟨y,g,rfl,⟨D,Jm,p.trans G,(q.w.on o G (D.trans n.symm)).t j.1.1,(J.from p),oX q.w J.w⟩,j.2⟩
 .rintro u s2 ⟨i,B,I2,ru,y,g,rfl,l,j⟩;have hs:g.σ=c0.σ:=l.hσ;show T x y g e i v u s2 l (by rw[hs];show I2) rv ru j
structure Lx(C:Ct)(c0 c:Cf)(x:Kd×U)(vx:V):Prop where
 hσ:c.σ=c0.σ
 ok:Ok C c
 nx:Nx c0 c
 rx:aN C c0 c x.1 x.2 vx
def one{k:Kd×U->M β}{Post:β->aw->Prop}{f:dV->Sem α}{Q':α->d5->Prop}(j:PE X a (IX C l))(I:Inv X b c0.σ c0.H s)(m:Ok C c0)
  (h:W (l >>= λx=>k x) c0.st Post)
  (n:∀x c d v s2,Lx C c0 c x d->Inv X b c.σ c.H s2->RelV d v->W (k x) c.st Post->d3 (et X.prog X.w) X.A (f v) Q' X.xe s2) :
  d3 (et X.prog X.w) X.A (u7 a X.env) (λv o=>d3 (et X.prog X.w) X.A (f v) Q' X.xe o) X.xe s:=by
 rw[ah]at h;show I0 (j b s c0.σ c0.H (λd g=>∃x c1,c1.H=g/\Lx C c0 c1 x d/\W (k x) c1.st Post) I ⟨c0,rfl,rfl,m,h.mono λx st1 e c1 d p q r t u=>⟨x,c1,rfl,⟨p,r,t,u⟩,by rw[q];show e⟩⟩) ?_;rintro v s1 ⟨d,g,y,rv,x,c1,rfl,i,e⟩;show n x c1 d v s1 i (by rw[i.hσ];show y) rv e
abbrev bZ(C:Ct)(c0:Cf)(Q:VK)(r:Kd×U)(st':aw):Prop:=∀c v,c.σ=c0.σ->c.st=st'->Ok C c->Nx c0 c->aN C c0 c r.1 r.2 v->Q v c.H
section
def bZ.flat(h:bZ C c0 Q (.loc,u) c.st)(a:c.σ=c0.σ)(b:Ok C c)(n:Nx c0 c)(r:Rep C c.S c.H u v):Q v c.H:=h c v a rfl b n r
def bZ.list(h:bZ C c0 Q (.own,.lst us) c.st)(a:c.σ=c0.σ)(b:Ok C c)(n:Nx c0 c)(r:au C c.S c.H us vs)(p:d8)(d:c.H p=b8):Q (.ref p) (upd c.H p (.lst vs)):=by
 have⟨e,f,g⟩:=b.newList n d r;show h {c with H:=upd c.H p (.lst vs)} _ a rfl e f g
def bZ.tup(h:bZ C c0 Q (.loc,.tup us) c.st)(a:c.σ=c0.σ)(b:Ok C c)(n:Nx c0 c)(r:au C c.S c.H us vs)(p:d8)(d:c.H p=b8):Q (.ref p) (upd c.H p (.tup vs)):=by
 have⟨e,f,g⟩:=b.Eb n d r;show h {c with H:=upd c.H p (.tup vs)} _ a rfl e f g
def bZ.tupK(h:bZ C c0 Q (kE k,.tup us) c.st)(d:c.σ=c0.σ)(a:Ok C c)(n:Nx c0 c)(r:au C (SK C c k) c.H us vs)(p:d8)(e:c.H p=b8):Q (.ref p) (upd c.H p (.tup vs)):=by
 have⟨f,b⟩:=a.lay (o:=.tup vs) e;show h {c with H:=upd c.H p (.tup vs)} _ d rfl f (n.trans b) (aN.item ?_);cases k<;>show⟨p,vs,rfl,JI.of ax,by first|show r.mv (a.M' b)|show r.mv (a.mv b)⟩
def eW(h:fq k us=b6)(r:au C (SK C c k) c.H us vs):au C c.S c.H us vs:=by
 cases k with
 |any=>show r.Jo (by simpa[fq,isAny] using h)
 |_=>show r
end
def Ej(k k':Kd):∀a,SK C c k a->SK C c (kT k k') a:=by
 intro a h;cases k<;>cases k'<;>first|show h|show .inr h
def Be(k k':Kd):∀a,SK C c k' a->SK C c (kT k k') a:=by
 intro a h;cases k<;>cases k'<;>first|show h|show .inr h
def Gg(k k':Kd):kE (kT k k')=kT k k':=by cases k<;>cases k'<;>rfl
def Bg:KO X (OL .Add) (λx y H Q=>∃l b xs c,x=.ref l/\y=.ref b/\Jw X.K H l xs/\Jw X.K H b c/\xs.length+c.length<=cL/\∀p,H p=b8->Q (.ref p) (upd H p (.lst (xs++c)))):=by
 intro f s σ H x y v u Q I o t h;have⟨l,b,xs,c,rfl,rfl,w,A,hz,q⟩:=h;cases o;cases t;have⟨d,r,B,z⟩:=I.list w;have⟨e,g,C,O⟩:=I.list A;have hl:=r.length;have Ms:=g.length;obtain⟨⟨cls,dd,data,D⟩,ho,i,n,j⟩:=B.isList;obtain⟨⟨T,G,data2,J⟩,k,m,L,a⟩:=C.isList;simp only at i j m a;subst i j m a;show Wu ⟨_,ho,rfl⟩ ⟨_,k,rfl⟩ noFill_list_add seq_list_add PySem.F.slot_list_add PySem.F.entry_list_add (PySem.F.args_list_add_2 _ _)
   (list_addW l b d.toArray e.toArray n L dd G D J (by rw[fx,fx];lia)) ⟨ho,k,?_⟩
 have N:d.toArray++e.toArray=(d++e).toArray:=by simp
 rw[N];show⟨.ref _,_,I.Ib (t':=s.toks) (r.append g) (by rw[hY];lia),rfl,q _ I.fresh⟩
end
section
variable{X:Cx}{C:Ct}{pins:List (d8×Obj)}{s:d5}{c0 c:Cf}{Q:VK}
def yq:KO X (OL .Add) (λx y H Q=>∃a b e,x=.ref a/\y=.ref b/\JI X.K H a []/\JI X.K H b e/\Q (.ref b) H):=by
 intro pins s σ H x y v u Q I k l h;have⟨a,b,e,rfl,rfl,m,o,q⟩:=h;cases k;cases l;obtain⟨D,p,r,_⟩:=I.tuple m;obtain⟨t,G,p2,_⟩:=I.tuple o;cases p;obtain⟨⟨cls,dd,data,w⟩,ho,f,n,g⟩:=id r;obtain⟨⟨J,z,data2,A⟩,i,j,B,d⟩:=id p2;simp only at f g j d;subst f g j d;show Wu ⟨_,ho,rfl⟩ ⟨_,i,rfl⟩ Xh Zm PySem.F.slot_tuple_add PySem.F.entry_tuple_add (PySem.F.args_tuple_add_2 _ _)
   (tuple_addW0 a b _ t.toArray n B dd z w A (by rfl)) ⟨ho,i,.ref b,H,I,rfl,q⟩
abbrev Ro.op:Ro->Ô
 |.add=>.Add|.sub=>.Sub|.mul=>.Mult|.Oe=>.FloorDiv|.mod=>.Mod|.pow=>.Pow
def eX(h:sj f a b=a5 r):∃i j o,a=.int i/\b=.int j/\f i j=a5 o/\r=(.loc,.int o):=by
 unfold sj at h;split at h
 .rw[eH]at h;have⟨o,e,rfl⟩:=h;show⟨_,_,o,rfl,rfl,e,rfl⟩
 .cases h
def Ek(T:C.K=X.K)(t:Qp C c0 c x y g l)(I:Inv X pins c.σ c.H s)(z:RelV g v)(B:RelV l u)(h:Lg op x y=a5 r)(q:bZ C c0 Q r c.st):
  d3 (et X.prog X.w) X.A (OL op.op v u) (EP X pins c.σ Q) X.xe s:=by
 obtain⟨m,d,n,D,ty,_⟩:=t;cases op with
 |add =>
  have h:yj x y=a5 r:=h;unfold yj at h;split at h
  .have ex:=D.int d;have e:=ty.int d;cases h;show bW pins s c.σ c.H g l v u Q I z B ⟨_,_,ex,e,q.flat m d n rfl⟩
  .have ex:=D.str d;have e:=ty.str d;split at h
   .cases h;show rO pins s c.σ c.H g l v u Q I z B ⟨_,_,ex,e,by assumption,q.flat m d n rfl⟩
   .cases h
  .have⟨a,vs,ex,N,G⟩:=D.list d;have⟨b,ws,e,O,J⟩:=ty.list d;split at h
   .rename_i L;cases h;show Bg pins s c.σ c.H g l v u Q I z B ⟨a,b,vs,ws,ex,e,T▸N,T▸O,by rw[<-G.len,<-J.len];show L.1,λp Y=>q.list m d n ((eW L.2.1 G).append (eW L.2.2 J)) p Y⟩
   .cases h
  .rename_i k xs k' ys _ _;have⟨a,vs,ex,N,G⟩:=D.tuple d;have⟨b,ws,e,O,J⟩:=ty.tuple d;have Ly:=N;have O2:=O;rw[T]at Ly O2;split at h
   .rename_i L;cases h;have m1:au C (SK C c (kT k k')) c.H xs vs:=G.mv (.up (Ej k k'));have m2:au C (SK C c (kT k k')) c.H ys ws:=J.mv (.up (Be k k'));have q':bZ C c0 Q (kE (kT k k'),.tup (xs++ys)) c.st:=by rw[Gg];show q
    by_cases e1:vs=[]
    .subst e1;show yq pins s c.σ c.H g l v u Q I z B ⟨a,b,ws,ex,e,Ly,O2,?_⟩;show q' c (.ref b) m rfl d n (aN.item ⟨b,ws,rfl,O,?_⟩);have:xs=[]:=by have:=m1.len;simpa using this
     rw[this];show m2
    .show AI pins s c.σ c.H g l v u Q I z B ⟨a,b,vs,ws,ex,e,Ly,O2,e1,by rw[<-G.len,<-J.len];show L,λe2=>?_,λ_ p Y=>q'.tupK m d n (m1.append m2) p Y⟩;subst e2;show q' c (.ref a) m rfl d n (aN.item ⟨a,vs,rfl,N,?_⟩);have:ys=[]:=by have:=m2.len;simpa using this
     rw[this,r6];show m1
   .cases h
  .cases h
 |sub =>
  have⟨i,j,o,ex,e,f,rfl⟩:=eX h;have ex:=(ex▸D).int d;have e:=(e▸ty).int d;cases f;show g_ pins s c.σ c.H g l v u Q I z B ⟨_,_,ex,e,q.flat m d n rfl⟩
 |mul =>
  have⟨i,j,o,ex,e,f,rfl⟩:=eX h;have ex:=(ex▸D).int d;have e:=(e▸ty).int d;unfold A4 at f;split at f
  .cases f;show kJ pins s c.σ c.H g l v u Q I z B ⟨_,_,ex,e,by assumption,q.flat m d n rfl⟩
  .cases f
 |Oe =>
  have⟨i,j,o,ex,e,f,rfl⟩:=eX h;have ex:=(ex▸D).int d;have e:=(e▸ty).int d;unfold A5 at f;split at f
  .cases f;show AA pins s c.σ c.H g l v u Q I z B ⟨_,_,ex,e,by assumption,q.flat m d n rfl⟩
  .cases f
 |mod =>
  have⟨i,j,o,ex,e,f,rfl⟩:=eX h;have ex:=(ex▸D).int d;have e:=(e▸ty).int d;unfold A6 at f;split at f
  .cases f;show eN pins s c.σ c.H g l v u Q I z B ⟨_,_,ex,e,by assumption,q.flat m d n rfl⟩
  .cases f
 |pow =>
  have⟨i,j,o,ex,e,f,rfl⟩:=eX h;have ex:=(ex▸D).int d;have e:=(e▸ty).int d;unfold A7 at f;split at f
  .cases f;show oo pins s c.σ c.H g l v u Q I z B ⟨_,_,ex,e,by assumption,q.flat m d n rfl⟩
  .cases f
def Bh(d:C.K=X.K)(f:PE X a (IX C g))(i:PE X b (IX C j)):PE X (.BinOp a k.op b pos) (IX C (g >>= λx=>j >>= λy=>aA [x,y] >>= λ_=>M.Jf (Lg k x y))):=by
 rintro pins s σ H Q I ⟨c0,rfl,rfl,l,h⟩;show wpAny_BinOp (two f i I l h λx y c p A v u s2 t m n o w=>?_);have⟨r,e,q⟩:=bI.mp w;show I0 (Ek d t m n o e q) λ_ _ z=>by rw[t.hσ]at z;show z
abbrev Qo.op:Qo->CmpOp
 |.eq=>.Eq|.ne=>.NotEq|.lt=>.Lt|.le=>.LtE|.gt=>.Gt|.ge=>.GtE|.isin=>.In|.Ja=>.NotIn|.is=>.Is|.TL=>.IsNot
def Gh{neg:Bool}(I:Inv X pins c.σ c.H s)(m:C.K=X.K)(N:X.A.units+60<K2){S:d8->Prop}(o:Rep C S c.H x n)(r:RelV n v)(t:au C S c.H i vs)
  (ha:Jw C.K c.H a vs\/JI C.K c.H a vs) (u:J6 50 x=b6) (z:dw 50 i=b6) {Q:dV->d5->Prop} (q:Q (.bool (if neg then !(i.any λy=>cy y x) else i.any λy=>cy y x)) s) :
  d3 (et X.prog X.w) X.A (N3 (if neg then .NotIn else .In) v (.ref a)) Q X.xe s:=by
 have B:=JG.of I m 50 x n v u o r;have go:∀d:List dV,Vals vs d->∃e:dV->Bool,(∀y,y∈d.toArray->Ss X.A.in1 s y v (e y))/\d.toArray.any e=i.any λy=>cy y x:=by
  intro d rv;obtain⟨l,k,_⟩:=JG.Bd (JG.of I m 50) z t rv
  classical
  have q:∀j (b:j<d.length),cK (∃w,JG s 50 w d[j]/\cy w x=b6)=cy (i.getD j .IV) x:=λj b=>by
   rw[H8,decide_eq_true_iff];show⟨λ⟨w,f,g⟩=>by rw[<-f.inj (k j b)];show g,λh=>⟨_,k j b,h⟩⟩
  show⟨λy=>cK (∃w,JG s 50 w y/\cy w x=b6),λy D=>?_,?_⟩
  .have⟨j,b,e⟩:=QX (show y∈d by simpa using D);subst e;change Ss _ _ _ _ (decide _);rw[q j b];show Ge (k j b) B (by change X.A.units+1+50 < _;lia)
  .rw[H8];simp only[List.any_toArray,Ql];constructor
   .rintro⟨y,G,h⟩;have⟨j,b,rfl⟩:=QX G;rw[q j b]at h;show⟨_,LL (l▸b),by simpa[l▸b] using h⟩
   .rintro⟨w,J,L⟩;have⟨j,b,rfl⟩:=QX J;show⟨_,LL (l▸b),by rw[q j (l▸b)];simpa[b] using L⟩
 rcases ha with ha|ha
 .obtain⟨d,rv,p,_⟩:=uE I (m▸ha);have⟨e,f,g⟩:=go d rv;cases neg with
  |false=>show SeqAt.in_listAt e p f (by rw[g];show q)
  |true=>show SeqAt.notIn_listAt e p f (by rw[g];show q)
 .rw[m]at ha;obtain⟨d,rv,p,_⟩:=I.tuple ha;have⟨e,f,g⟩:=go d rv;cases neg with
  |false=>show SeqAt.in_tupleAt e p f (by rw[g];show q)
  |true=>show SeqAt.notIn_tupleAt e p f (by rw[g];show q)
end
section
theorem cN:∀{us:List U}{a:List Str},strsOf us=a5 a->us=a.map .str
 |[],a,h=>by cases h;rfl
 |.str x::us,a,h=>by
  simp only[strsOf,eH]at h;have⟨t,b,rfl⟩:=h;rw[cN b];rfl
 |.IV::_,_,h=>by cases h
 |.bl _::_,_,h=>by cases h
 |.int _::_,_,h=>by cases h
 |.tup _::_,_,h=>by cases h
 |.lst _::_,_,h=>by cases h
 |.IQ _ _::_,_,h=>by cases h
theorem jL:∀{us:List U}{ns:List Int},intsOf us=a5 ns->us=ns.map .int
 |[],ns,h=>by cases h;rfl
 |u::us,ns,h=>by
  cases u<;>first|(cases h;done)|skip
  rename_i x;have h':(intsOf us).map (x::·)=a5 ns:=h;rw[eH]at h';have⟨ms,e,rfl⟩:=h';rw[jL e];rfl
theorem au.ints{S:d8->Prop}:∀{ns:List Int}{vs:List V},au C S H (ns.map .int) vs->vs=ns.map V.int
 |[],vs,h=>h
 |n::ns,vs,h=>by
  have⟨v,r,rfl,a,b⟩:=h;rw[au.ints b];have:v=.int n:=a;rw[this];rfl
theorem lq:∀{us:List U}{a:List Bool},gV us=a5 a->us=a.map .bl
 |[],a,h=>by cases h;rfl
 |.bl x::us,a,h=>by
  simp only[gV,eH]at h;have⟨t,b,rfl⟩:=h;rw[lq b];rfl
 |.IV::_,_,h=>by cases h
 |.str _::_,_,h=>by cases h
 |.int _::_,_,h=>by cases h
 |.tup _::_,_,h=>by cases h
 |.lst _::_,_,h=>by cases h
 |.IQ _ _::_,_,h=>by cases h
theorem au.VM{S:d8->Prop}:∀{xs:List Bool}{vs:List V},au C S H (xs.map .bl) vs->vs=xs.map V.bl
 |[],vs,h=>h
 |x::xs,vs,h=>by
  have⟨v,r,rfl,a,b⟩:=h;rw[au.VM b];have:v=.bl x:=a;rw[this];rfl
abbrev El(X:Cx)(a:List (d8×Obj))(c:Cf)(b:Bool)(v:dV)(s':d5):Prop:=v=.bool b/\Inv X a c.σ c.H s'
def iM(o:KO X f r)(I:Inv X a c.σ c.H s)(g:RelV d v)(i:RelV e u)(h:r d e c.H λx H'=>x=.bl b/\H'=c.H):
  d3 (et X.prog X.w) X.A (f v u) (El X a c b) X.xe s :=
 I0 (o a s c.σ c.H d e v u _ I g i h) λw s' j=>by
  have⟨z,H',k,r,l,m⟩:=j;subst l m;show⟨r,k⟩
def aN.dict(g:Ok C c)(h:aN C c0 c k (.IQ ks us) v):∃a kvs,v=.ref a/\c.H a=a5 (.dK kvs)/\kvs.map (·.1)=ks.map mu/\au C (SK C c k) c.H us (kvs.map (·.2)):=by
 cases k with
 |own=>obtain⟨r,e,_,_,_,kvs,b,d,f⟩:=h;show⟨r,kvs,e,b,d,f⟩
 |bor j=>obtain⟨r,e,_,_,_,kvs,b,d,f⟩:=g.rootOf h.1 h.2;show⟨r,kvs,e,b,d,f⟩
 |io=>show h.elim
 |IL=>show h.elim
 |_=>obtain⟨a,e,_,kvs,b,d,f⟩:=h;show⟨a,kvs,e,b,d,f⟩
theorem dJ{S:d8->Prop}:∀{ks:List Str}{us:List U}{kvs:List (Key×V)},kvs.map (·.1)=ks.map mu->au C S H us (kvs.map (·.2)) ->
  (∀u,dI ks us x=a5 u->∃v,dG kvs (mu x)=a5 v/\Rep C S H u v)/\(dG kvs (mu x)).isSome=cK (x∈ks)
 |[],us,kvs,a,b=>by
  have:kvs=[]:=by simpa using a
  subst this;show⟨λu h=>by cases us<;>simp[dI]at h,by simp[dG]⟩
 |k::ks,us,[],a,b=>by simp at a
 |k::ks,[],p::kvs,a,b=>by simp[au]at b
 |k::ks,j::us,p::kvs,a,b=>by
  have⟨v,r,e,d,f⟩:=b;rw[d7]at e;cases e;rw[d7,d7,OA]at a;have⟨g,i⟩:=dJ (x:=x) a.2 f;by_cases hk:k=x
  .subst hk;show⟨λu h=>?_,?_⟩
   .simp[dI]at h;subst h;show⟨p.2,eQ a.1,d⟩
   .rw[eQ a.1];simp
  .have c:¬p.1=mu x:=by rw[a.1];intro z;show hk (U9 z)
   show⟨λu h=>?_,?_⟩
   .simp[dI,hk]at h;have⟨v,e,q⟩:=g u h;show⟨v,by rw[eR c];show e,q⟩
   .rw[eR c,i];simp[nH hk]
def Rep.la{S:d8->Prop}(h:Rep C S H u v):cK (v=.IV)=la u:=by
 cases u with
 |IV=>have:v=.IV:=h;subst this;rfl
 |bl b=>have:v=.bl b:=h;subst this;rfl
 |int b=>have:v=.int b:=h;subst this;rfl
 |str b=>have:v=.str b:=h;subst this;rfl
 |IQ ks us=>obtain⟨a,rfl,_⟩:=h;rfl
 |exc c=>obtain⟨a,rfl,_⟩:=h;rfl
 |_=>obtain⟨a,vs,rfl,_⟩:=h;rfl
def gA{c:Bool}(h:wj f a b=a5 c):∃i j,a=.int i/\b=.int j/\f i j=c:=by
 unfold wj at h;split at h
 .cases h;show⟨_,_,rfl,rfl,rfl⟩
 .cases h
def yr(hP:C.P=X.prog)(hw:C.w=X.w)(p:C.K=X.K)(O:X.A.units+60<K2)(t:Qp C c0 c x y Q vy)(I:Inv X m c.σ c.H s)(f:RelV Q v)(g:RelV vy u)(h:cH T x.2 y.2=a5 b):
  d3 (et X.prog X.w) X.A (N3 T.op v u) (El X m c b) X.xe s:=by
 obtain⟨hσ,d,n,l,ty,_⟩:=t;have⟨kx,D⟩:=x;have⟨ky,q⟩:=y
 dsimp only at h l ty
 have G:∀neg:Bool,∀B,yk D q=a5 B->d3 (et X.prog X.w) X.A (N3 (if neg then .NotIn else .In) v u) (El X m c (if neg then !B else B)) X.xe s:=by
  intro neg B h;have L:=l.read d;have Y:=ty.read d;unfold yk at h;split at h
  .have⟨a,vs,rfl,o,J⟩:=Y;cases g;unfold Oh at h;split at h
   .rename_i e;cases h;show Gh I p O L f J (.inl o.sq) e.1 e.2 ⟨by cases neg<;>rfl,I⟩
   .cases h
  .have⟨a,vs,rfl,o,J⟩:=Y;cases g;unfold Oh at h;split at h
   .rename_i e;cases h;show Gh I p O L f J (.inr o) e.1 e.2 ⟨by cases neg<;>rfl,I⟩
   .cases h
  .cases h;have ex:Q=_:=L;have⟨a,kvs,rfl,o,J,h3⟩:=ty.dict d;cases g;subst ex;have hs:=λz:Str=>(dJ (x:=z) J h3).2;cases neg with
   |false=>show F5 ⋯ I (fh.k (k:=mu _) o) f λs' N=>⟨by rw[hs];rfl,N⟩
   |true=>show tZ ⋯ I (fh.k (k:=mu _) o) f λs' N=>⟨by rw[hs];rfl,N⟩
  .cases h
 have VN:∀{r:Bool},(if J6 50 D=b6/\J6 50 q=b6 then a5 r else b8)=a5 b->(J6 50 D=b6/\J6 50 q=b6)/\r=b:=λh=>by
  split at h
  .rename_i e;cases h;show⟨e,rfl⟩
  .cases h
 cases T with
 |eq =>
  have⟨e,rfl⟩:=VN h;show(Gf (n:=50) (.of I p _ _ _ _ e.1 (l.read d) f) (.of I p _ _ _ _ e.2 (ty.read d) g) ⋯).1 _ _ _ _ ⟨rfl,I⟩
 |ne =>
  have⟨e,rfl⟩:=VN h;show(Gf (n:=50) (.of I p _ _ _ _ e.1 (l.read d) f) (.of I p _ _ _ _ e.2 (ty.read d) g) ⋯).2 _ _ _ _ ⟨rfl,I⟩
 |lt=>have⟨i,j,rfl,rfl,rfl⟩:=gA h;show iM FN I f g ⟨_,_,l.int d,ty.int d,rfl,rfl⟩
 |le=>have⟨i,j,rfl,rfl,rfl⟩:=gA h;show iM FO I f g ⟨_,_,l.int d,ty.int d,rfl,rfl⟩
 |gt=>have⟨i,j,rfl,rfl,rfl⟩:=gA h;show iM FP I f g ⟨_,_,l.int d,ty.int d,rfl,rfl⟩
 |ge=>have⟨i,j,rfl,rfl,rfl⟩:=gA h;show iM FQ I f g ⟨_,_,l.int d,ty.int d,rfl,rfl⟩
 |isin=>show G cc b h
 |Ja =>
  have⟨B,o,rfl⟩:=eH.mp (show(yk D q).map (!·)=a5 b from h);show G b6 B o
 |is =>
  have h:(if la q=b6 then a5 (la D) else b8)=a5 b:=h;split at h
  .rename_i hn;cases h;cases q with
   |IV=>show iM DG I f g ⟨ty.IV d,by rw[(l.read d).la],rfl⟩
   |_=>cases hn
  .cases h
 |_=>cases h
def Bi(g:C.P=X.prog)(i:C.w=X.w)(j:C.K=X.K)(k:X.A.units+60<K2)(l:PE X a (IX C m))(n:PE X b (IX C o))(p:Q6 d.op b=cc):
  PE X (.Compare a [d.op] [b] pos) (IX C (m >>= λx=>o >>= λy=>aA [x,y] >>= λ_=>M.Jf (cH d x.2 y.2) >>= λc=>pure (.loc,.bl c))):=by
 rintro f s σ H Q I ⟨c0,rfl,rfl,B,h⟩;show wpAny_Compare1 (two l n I B h λx y c O T v u s2 t D G J w=>?_) p;rw[ah]at w;have⟨r,e,q⟩:=bI.mp w;rw[aq]at q;show I0 (yr g i j k t D G J e) λz s' L=>?_;have⟨e,N⟩:=L;subst e;show⟨.bl r,c.H,by rw[<-t.hσ];show N,rfl,q c (.bl r) t.hσ rfl t.ok t.nx rfl⟩
def Bj(i:C.P=X.prog)(j:C.w=X.w)(k:C.K=X.K)(l:X.A.units+60<K2)(m:PE X a (IX C n))(o:PE X b (IX C p))(B:Q6 g.op b=cc):
  PT X (.Compare a [g.op] [b] pos) (Ka C (n >>= λx=>p >>= λy=>aA [x,y] >>= λ_=>M.Jf (cH g x.2 y.2))):=by
 rintro d s σ H Q I ⟨c0,rfl,rfl,D,h⟩;show Ç (two (f:=λv u=>N3 g.op v u) (Q':=λ_ _ c s=>d3 (et X.prog X.w) X.A (Ĩ c) (TP X d c0.σ Q) X.xe s) m o I D h λx y c T Y v u s2 t G J L w=>?_) B;have⟨r,e,q⟩:=bI.mp w;show I0 (yr i j k l t G J L e) λz s' N=>?_;have⟨e,O⟩:=N;subst e;show LC ⟨c.H,by rw[<-t.hσ];show O,q c t.hσ rfl t.ok t.nx⟩
end
section
abbrev Gi(C:Ct)(c0:Cf)(Q:Bool->Hp->Prop)(b:Bool)(st':aw):Prop:=∀c,c.σ=c0.σ->c.st=st'->Ok C c->Nx c0 c->Q b c.H
def sr(a:c1.σ=c0.σ)(b:Ok C c1)(n:Nx c0 c1)(h:W m c1.st (bZ C c0 Q)):IX C m c0.σ c1.H Q :=
 ⟨c1,a,rfl,b,h.mono λr st c d v e f g i j=>c d v e f g (n.trans i) (j.from n)⟩
def yt(a:c1.σ=c0.σ)(b:Ok C c1)(n:Nx c0 c1)(h:W m c1.st (Gi C c0 Q)):Ka C m c0.σ c1.H Q :=
 ⟨c1,a,rfl,b,h.mono λr st c d e f g i=>c d e f g (n.trans i)⟩
def aM(a:Ok C c0)(h:W (b >>= k) c0.st Post)
  (hz:∀x c v,Lx C c0 c x v->W (k x) c.st Post->Z v c.H):IX C b c0.σ c0.H Z:=by
 rw[ah]at h;show⟨c0,rfl,rfl,a,h.mono λx st1 d c1 e f g i j l=>hz x c1 e ⟨f,i,j,l⟩ (by rw[g];show d)⟩
def dW(a:Ok C c0)(h:W (d >>= k) c0.st Post)
  (hz:∀b c,c.σ=c0.σ->Ok C c->Nx c0 c->W (k b) c.st Post->Z b c.H):Ka C d c0.σ c0.H Z:=by
 rw[ah]at h;show⟨c0,rfl,rfl,a,h.mono λx st1 e c1 f g i j=>hz x c1 f i j (by rw[g];show e)⟩
abbrev Gj(m:M (Kd×U))(x:Kd×U):M (Kd×U):=match x.2 with
 |.bl b6=>m
 |.bl cc=>pure (.loc,.bl cc)
 |_=>M.fail
abbrev Gk(x:Kd×U):M (Kd×U):=match x.2 with
 |.bl c=>pure (.loc,.bl !c)
 |_=>M.fail
def snd_and(g:PE X a (IX C i))(j:PE X (.BoolOp .And (b::rest) pos) (IX C l)):PE X (.BoolOp .And (a::b::rest) pos) (IX C (i >>= Gj l)):=by
 show PE.weak (Dt g j) ?_;rintro σ H Q ⟨c0,rfl,rfl,m,h⟩;show aM m h λx c v t w=>?_;have⟨k,u⟩:=x;have⟨f,d,n,r⟩:=t;unfold Gj at w;split at w
 .rename_i e
  dsimp only at e r
  subst e;show⟨b6,r.bl d,by rw[ļ rfl];show sr f d n w⟩
 .rename_i e
  dsimp only at e r
  subst e;rw[aq]at w;show⟨cc,r.bl d,by rw[Ľ i3];show w c (.bl cc) f rfl d n rfl⟩
 .show(bp.mp w).elim
def Bk(d:PE X a (IX C f)):PE X (.UnaryOp .Not a pos) (IX C (f >>= Gk)):=by
 show PE.weak (Du d) ?_;rintro σ H Q ⟨c0,rfl,rfl,g,h⟩;show aM g h λx c v t w=>?_;have⟨k,u⟩:=x;have⟨i,b,n,r⟩:=t;unfold Gk at w;split at w
 .rename_i e
  dsimp only at e r
  subst e;rw[aq]at w;show⟨_,r.bl b,w c (.bl _) i rfl b n rfl⟩
 .show(bp.mp w).elim
def Bl(g:PT X d (Ka C i))(j:PE X a (IX C k))(l:PE X b (IX C m)):PE X (.IfExp d a b pos) (IX C (i >>= λp=>if p=b6 then k else m)):=by
 show PE.weak (xg g j l) ?_;rintro σ H Q ⟨c0,rfl,rfl,o,h⟩;show dW o h λp c e f n w=>?_;cases p with
 |true=>rw[ļ rfl]at w ⊢;show sr e f n w
 |false=>rw[Ľ i3]at w ⊢;show sr e f n w
def Bm(d:PT X a (Ka C e)):PT X (.UnaryOp .Not a pos) (Ka C (e >>= λb=>pure !b)):=by
 show PT.weak (Dr d) ?_;rintro σ H Q ⟨c0,rfl,rfl,f,h⟩;show dW f h λp c g i n w=>?_;rw[aq]at w;show w c g rfl i n
def Bn(g:PT X a (Ka C i))(j:PW X (.BoolOp .And (b::rest) pos) (Ka C k)):PW X (.BoolOp .And (a::b::rest) pos) (Ka C (i >>= λp=>if p=b6 then k else pure cc)):=by
 have l:=Dq g j;rintro m d s σ H Q I ⟨c0,rfl,rfl,o,h⟩;show l m d s c0.σ c0.H Q I (dW o h λp c e f n w=>?_);cases p with
 |true=>rw[ļ rfl]at w ⊢;show yt e f n w
 |false=>rw[Ľ i3]at w ⊢;rw[aq]at w;show w c e rfl f n
def Em(g:PT X a (Ka C i))(j:PW X (.BoolOp .Or (b::rest) pos) (Ka C k)):PW X (.BoolOp .Or (a::b::rest) pos) (Ka C (i >>= λp=>if p=b6 then pure b6 else k)):=by
 have l:=Fy g j;rintro m d s σ H Q I ⟨c0,rfl,rfl,o,h⟩;show l m d s c0.σ c0.H Q I (dW o h λp c e f n w=>?_);cases p with
 |true=>rw[ļ rfl]at w ⊢;rw[aq]at w;show w c e rfl f n
 |false=>rw[Ľ i3]at w ⊢;show yt e f n w
def uG{us:List α}{vs:List β}(h:us.length=vs.length):(!us.isEmpty)=!vs.isEmpty:=by
 cases us<;>cases vs<;>simp_all
def iN(j:PE X a (IX C l))(i:C.K=X.K)(m:∀b,isTrue a X.env b=(do let v <-b;X' a.pos;Mj [v] (Ĩ v))):PT X a (Ka C (l >>= λx=>M.Jf (wo x.2))):=by
 show PT.weak (xv j m) ?_;rintro σ H Q ⟨c0,rfl,rfl,o,h⟩;show aM o h λx c v t w=>?_;have⟨k,u⟩:=x;have⟨s,d,n,r⟩:=t;have⟨p,e,q⟩:=bI.mp w
 dsimp only at e r
 show⟨p,?_,q c s rfl d n⟩;unfold wo at e;split at e
 .cases e;rw[r.bl d];rfl
 .cases e;have⟨a,vs,rfl,f,g⟩:=r.list d;show .inl ⟨vs,i▸f,uG g.len⟩
 .cases e;have⟨a,vs,rfl,f,g⟩:=r.tuple d;rw[i]at f;show .inr (.inl ⟨vs,f,uG g.len⟩)
 .split at e
  .cases e;rw[r.str d];show⟨by assumption,rfl⟩
  .cases e
 .cases e
end
section
def cM.from(n:Nx c0 c1):cM C c1 c rs vs->cM C c0 c rs vs:=by
 intro h;induction rs generalizing vs with
 |nil=>show h
 |cons r rs a=>have⟨v,t,e,b,d,f⟩:=h;show⟨v,t,e,b.from n,a d,f⟩
def cM.get{i:Nat}(h:cM C c0 c rs vs)(e:rs[i]?=a5 r)(a:vs[i]?=a5 v):fX C c0 c r.1 r.2 v:=by
 induction rs generalizing vs i with
 |nil=>simp at e
 |cons g rs b =>
  have⟨j,t,rfl,d,f,k⟩:=h;cases i with
  |zero=>simp at e a;subst e a;show d
  |succ i=>show b f (by simpa using e) (by simpa using a)
def Bo:PA X [] (Kj C (pure [])):=by
 rintro pos a s σ H Q I ⟨c0,rfl,rfl,b,h⟩;rw[aq]at h;show fg pos a s c0.σ c0.H Q I (h c0 [] rfl rfl b (Nx.refl c0) rfl)
def yu(g:PE X e (IX C m))(j:PA X es (Kj C ms))(hs:hW (e::es) X.env=(cc,u7 e X.env)::hW es X.env):PA X (e::es) (Kj C (m >>= λr=>ms >>= λrs=>pure (r::rs))):=by
 rintro pos a s σ H Q I ⟨c0,rfl,rfl,k,h⟩;show cS g j hs pos a s c0.σ c0.H Q I (aM k h λr c1 v t w=>?_);rw[ah]at w;show⟨c1,t.hσ,rfl,t.ok,w.mono λrs st2 b l vs c n o d f=>?_⟩;rw[aq]at b;show b l (v::vs) c n o (t.nx.trans d) ⟨v,vs,rfl,t.rx.w.on t.ok d (c.trans t.hσ.symm),f.from t.nx,λhk i x y p q u=>?_⟩;show oX t.rx.w (f.get p q) hk u
structure Lz(C:Ct)(c0 c:Cf)(rs:List (Kd×U))(vs:List V):Prop where
 hσ:c.σ=c0.σ
 ok:Ok C c
 nx:Nx c0 c
 rep:cM C c0 c rs vs
 Om:bq rs c.st
def args{k:List (Kd×U)->M β}{Post:β->aw->Prop}(e:PA X es (Kj C ms))(I:Inv X a c0.σ c0.H s)(f:Ok C c0)(h:W (ms >>= λrs=>aA rs >>= λ_=>k rs) c0.st Post)(pos:Pos):
  d3 (et X.prog X.w) X.A (ü (C1 pos (hW es X.env))) (λus s1=>∃rs c vs,Lz C c0 c rs vs/\Inv X a c.σ c.H s1/\Vals vs us/\W (k rs) c.st Post) X.xe s:=by
 rw[ah]at h;show I0 (e pos a s c0.σ c0.H (λvs d=>∃rs c,c.H=d/\Lz C c0 c rs vs/\W (k rs) c.st Post) I ⟨c0,rfl,rfl,f,h.mono λrs st1 b c1 vs g i j l m=>?_⟩) ?_
 .rw[ah,cE]at b;subst i;show⟨rs,c1,rfl,⟨g,j,l,m,b.1⟩,b.2⟩
 .rintro us s1 ⟨vs,d,n,rv,rs,c1,rfl,t,w⟩;show⟨rs,c1,vs,t,by rw[t.hσ];show n,rv,w⟩
def Lz.one(t:Lz C c0 c [r] vs):∃v,vs=[v]/\aN C c0 c r.1 r.2 v:=by
 obtain⟨v,t',rfl,a,b,_⟩:=t.rep;cases b;show⟨v,rfl,a.t t.Om⟩
def Ok.share(b:Ok C c)(g:C.H₀ r=b8)(h:∃o,c.H r=a5 o)(hl:st'.length=c.st.length)
  (d:∀(i:Nat) k u,st'[i]?=a5 (a5 (k,u))->(∃v,c.σ[i]?=a5 (a5 v)/\fW C (λa=>c.S a\/a=r) c.H k u v)/\(k.root=b6->c.st[i]?=a5 (a5 (k,u)))) (l:L7 C {c with S:=λa=>c.S a\/a=r,st:=st' }) :
  Ok C {c with S:=λa=>c.S a\/a=r,st:=st' }:=by
 show⟨b.same,λa z=>?_,b.par,b.io,by rw[show({c with S:=λa=>c.S a\/a=r,st:=st' }:Cf).st.length=st'.length from rfl,hl];show b.len,λi k u e=>(d i k u e).1,λi j k k' u u' m hk f n p q s=>?_,l⟩
 .rcases z with z|rfl
  .show b.KS a z
  .show⟨g,h⟩
 .show b.inj i j k k' u u' m hk f ((d i k u n).2 hk) ((d j k' u' p).2 f) q s
def Ok.En(p:Ok C c0)(b:Ok C c)(n:Nx c0 c)(d:c0.H r=b8)(f:¬c.R r)(s:cU C c.S c.H r u):
  Ok C {c with S:=λa=>c.S a\/a=r}/\Nx c0 {c with S:=λa=>c.S a\/a=r}:=by
 obtain⟨o,ho,_⟩:=s.some;show⟨b.share (st':=c.st) (p.j5 d).1 ⟨o,ho⟩ rfl (λi k u e=>⟨?_,λ_=>e⟩) (b.dd.hs (.up λa=>.inl) λj a z=>⟨λq=>q.elim (b.root (.inr ⟨j,z⟩)).1 λe=>f (.inr ⟨j,e▸z⟩),λo q=>q⟩),⟨⟨n.keep,n.there,n.roots,λa z=>.inl (n.sub a z),λa z=>?_⟩,n.dk⟩⟩
 .have⟨v,g,h⟩:=b.sl i k u e;have t:Mv c.S c.H (λa=>c.S a\/a=r) c.H:=.up λa=>.inl;show⟨v,g,h.mv t (.up λa z=>z.imp id .inl) λhk x l=>⟨?_,λo q=>q⟩⟩;obtain⟨y,m,w,_⟩:=h.rt hk;rw[l]at m;cases m;rintro(z|rfl)
  .show w z
  .show f (.inl ⟨i,k,u,hk,e,by rw[g,l]⟩)
 .rcases z with z|rfl
  .show n.new a z
  .show .inr (.inr d)
def Ok.yw(f:Ok C c)(n:Nx c0 c)(l:c.st[j]?=a5 (a5 (.own,u)))(m:c.σ[j]?=a5 (a5 (.ref r))):
  Ok C {c with S:=λa=>c.S a\/a=r,st:=c.st.set j (a5 (.loc,u))}/\Nx c0 {c with S:=λa=>c.S a\/a=r,st:=c.st.set j (a5 (.loc,u))}/\Rep C (λa=>c.S a\/a=r) c.H u (.ref r):=by
 have⟨Q,b,g,p,T,Y,G,A⟩:=f.sl j _ _ l;rw[m]at b;cases b;cases p;have B:Rep C (λa=>c.S a\/a=r) c.H u (.ref r):=A.rep (λa=>.inl) (.inr rfl);obtain⟨o,ho,_⟩:=A.some;have s:j<c.st.length:=(dt.mp l).1;have t:∀(i:Nat) k u',(c.st.set j (a5 (.loc,u)))[i]?=a5 (a5 (k,u'))->i≠j->c.st[i]?=a5 (a5 (k,u')):=λi k u' e ne=>by rw[gc (nH ne)]at e;show e
 have I:c.R1 r:=⟨j,.own,u,rfl,l,m⟩
 have w:∀(i:Nat) (u':U),(c.st.set j (a5 (.loc,u)))[i]?=a5 (a5 (.IL,u'))->c.st[i]?=a5 (a5 (.IL,u')):=λi u' e=>by
  by_cases d:i=j
  .subst d;rw[d4 s]at e;cases e
  .show t i .IL u' e d
 have b1:∀a,({c with S:=λa=>c.S a\/a=r,st:=c.st.set j (a5 (.loc,u))}:Cf).R1 a->c.R1 a:=λa J=>by
  have⟨i,k,u',hk,e,L⟩:=J;by_cases d:i=j
  .subst d;rw[d4 s]at e;cases e;cases hk
  .show⟨i,k,u',hk,t i k u' e d,L⟩
 have N:L7 C {c with S:=λa=>c.S a\/a=r,st:=c.st.set j (a5 (.loc,u))}:=f.dd.of rfl (λi u' e=>⟨w i u' e,rfl⟩) (λa z=>.inl (b1 a z)) (.up λa=>.inl) λi a z=>⟨λq=>q.elim (f.root (.inr ⟨i,z⟩)).1 λe=>f.dd.d1 i a z (e▸I),λo q=>q⟩
 show⟨f.share (st':=c.st.set j (a5 (.loc,u))) G ⟨o,ho⟩ (by simp) (λi k u' e=>?_) N,⟨⟨n.keep,n.there,λa z=>?_,λa z=>.inl (n.sub a z),λa z=>?_⟩,λa ⟨i,u',g,b,h,x⟩=>n.dk a ⟨i,u',g,w i u' b,h,x⟩⟩,B⟩
 .by_cases d:i=j
  .subst d;rw[d4 s]at e;cases e;show⟨⟨.ref r,m,B⟩,λz=>nomatch z⟩
  .have y:=t i k u' e d;have⟨v,b,h⟩:=f.sl i k u' y;show⟨⟨v,b,h.mv (.up λa=>.inl) (.up λa z=>z.imp id .inl) λhk g p=>⟨?_,λo q=>q⟩⟩,λ_=>y⟩;obtain⟨Qq,D,O,_⟩:=h.rt hk;rw[p]at D;cases D;rintro(z|rfl)
   .show O z
   .show d (f.inj i j k .own u' u g hk rfl y l (by rw[b,p]) m)
 .rcases z with z|⟨i,u',g,b,h,x⟩
  .show n.roots a (.inl (b1 a z))
  .show n.roots a (.inr ⟨i,u',g,w i u' b,h,x⟩)
 .rcases z with z|rfl
  .show n.new a z
  .rcases n.roots a (.inl ⟨j,.own,u,rfl,l,m⟩) with z|z
   .show .inr (.inl z)
   .show .inr (.inr z)
def iO(A:Ok C c0)(b:Ok C c)(n:Nx c0 c)(d:fX C c0 c r.1 r.2 v)(h:W (lift r) c.st Post):
  ∃(S':d8->Prop) (st':aw) (u:U),(∀a,c.S a->S' a)/\Ok C {c with S:=S',st:=st' }/\Nx c0 {c with S:=S',st:=st' }/\Rep C S' c.H u v/\Post u st' /\
   (∀a,S' a->c.S a\/v=.ref a/\(r.1=.own\/c.R a))/\∀a,({c with S:=S',st:=st' }:Cf).R a->c.R a:=by
 have⟨k,u⟩:=r;cases k with
 |own =>
  rw[show lift (.own,u)=pure u from rfl,aq]at h;have⟨r,e,B,N,D,t⟩:=d;have⟨l,m⟩:=Ok.En A b n B D t;show⟨_,c.st,u,λa=>.inl,l,m,by rw[e];show t.rep (λa=>.inl) (.inr rfl),h,λa z=>?_,λa z=>z⟩;rcases z with z|rfl
  .show .inl z
  .show .inr ⟨e,.inl rfl⟩
 |loc =>
  rw[show lift (.loc,u)=pure u from rfl,aq]at h;show⟨c.S,c.st,u,λa=>id,b,n,d,h,λa z=>.inl z,λa z=>z⟩
 |any =>
  rw[show lift (.any,u)=if Jo u=b6 then pure u else M.fail from rfl]at h;split at h
  .rw[aq]at h;show⟨c.S,c.st,u,λa=>id,b,n,Rep.Jo (by assumption) d,h,λa z=>.inl z,λa z=>z⟩
  .show(bp.mp h).elim
 |bor j =>
  have⟨x,st',e,G⟩:=h;rw[show lift (.bor j,u) c.st=match c.st[j]? with|some (a5 (.own,u))=>a5 (Ex.ok u,c.st.set j (a5 (.loc,u)))|_=>b8 from rfl]at e;split at e
  .rename_i w f;cases e;obtain⟨O,y,r,I,_⟩:=b.sl j _ _ f;have o:c.σ[j]?=a5 (a5 v):=d;rw[o]at y;cases y;subst I;have⟨l,m,p⟩:=b.yw n f o;show⟨_,_,_,λa=>.inl,l,m,p,G,λa z=>?_,λa z=>?_⟩
   .rcases z with z|rfl
    .show .inl z
    .show .inr ⟨rfl,.inr (.inl ⟨j,.own,_,rfl,f,o⟩)⟩
   .rcases z with⟨i,k,u',hk,e,q⟩|⟨i,u',J,e,q,L⟩
    rotate_left 1
    .by_cases g:i=j
     .subst g;have s:i<c.st.length:=(dt.mp f).1;rw[d4 s]at e;cases e
     .rw[gc (nH g)]at e;show .inr ⟨i,u',J,e,q,L⟩
    by_cases g:i=j
    .subst g;have s:i<c.st.length:=(dt.mp f).1;rw[d4 s]at e;cases e;cases hk
    .rw[gc (nH g)]at e;show .inl ⟨i,k,u',hk,e,q⟩
  .cases e
 |_=>show d.elim
theorem iP:∀{rs:List (Kd×U)}{vs:List V}{c:Cf}{Post:List U->aw->Prop},Ok C c0->Ok C c->Nx c0 c->cM C c0 c rs vs->W (cV rs) c.st Post ->
  ∃(S':d8->Prop) (st':aw) (us:List U),(∀a,c.S a->S' a)/\Ok C {c with S:=S',st:=st' }/\Nx c0 {c with S:=S',st:=st' }/\au C S' c.H us vs/\Post us st'
 |[],vs,c,Post,k,m,n,p,h=>by
  rw[show cV []=pure [] from rfl,aq]at h;show⟨c.S,c.st,[],λa=>id,m,n,p,h⟩
 |r::rs,vs,c,Post,k,m,n,p,h=>by
  have⟨v,t,rfl,I,J,L⟩:=p;rw[show cV (r::rs)=lift r >>= λu=>cV rs >>= λus=>pure (u::us) from rfl,ah]at h;have⟨S1,st1,u,s1,N,O,b,s,Q,T⟩:=iO k m n I h;rw[ah]at s;have Y:cM C c0 {c with S:=S1,st:=st1} rs t:=by
   clear h s;have x:∀(l:List (Kd×U)) (w:List V),cM C c0 c l w->(r.1=.own->∀(i:Nat) f g,l[i]?=a5 f->w[i]?=a5 g->f.1=.own->g≠v)->cM C c0 {c with S:=S1,st:=st1} l w:=by
    intro l;induction l with
    |nil=>intro w q _;show q
    |cons r2 l ih =>
     intro w q y;have⟨A,B,rfl,j,q2,q3⟩:=q;show⟨A,B,rfl,?_,ih B q2 (λhk i f g e1 e2 JE=>y hk (i+1) f g (by simpa using e1) (by simpa using e2) JE),q3⟩;have⟨k2,u2⟩:=r2;cases k2 with
     |own =>
      have⟨a,e,p1,p2,D,p4⟩:=j;show⟨a,e,p1,λz=>?_,λz=>D (T a z),p4.mv (.up s1) λo q=>q⟩;rcases Q a z with z|⟨z,z'|z'⟩
      .show p2 z
      .show y z' 0 _ A rfl rfl rfl (e.trans z.symm)
      .show D z'
     |loc=>show Rep.mv (.up s1) j
     |any=>show Rep.mv (.up λa z=>z.imp id (s1 a)) j
     |_=>show j
   show x rs t J L
  have⟨S2,st2,us,s2,Jm,n2,d,G⟩:=iP (c:={c with S:=S1,st:=st1}) k N O Y s;rw[aq]at G;show⟨S2,st2,u::us,λa z=>s2 a (s1 a z),Jm,n2,⟨v,t,rfl,b.mv (.up s2),d⟩,G⟩
def Bp(j:PA X es (Kj C ms)):PE X (.Tuple es p pos) (IX C (ms >>= λrs=>aA rs >>= λ_=>cV rs >>= λus=>if us.length<=cL then pure (.loc,.tup us) else M.fail)):=by
 rintro a s σ H Q I ⟨c0,rfl,rfl,g,h⟩;show wpAny_Tuple_spliced (I0 (args j I g h pos) λus s1 k=>?_);have⟨rs,c,vs,t,i,rv,w⟩:=k;rw[ah]at w;have⟨S',st',ws,q,l,m,d,f⟩:=iP g t.ok t.nx t.rep w;split at f
 .rename_i hz;rw[aq]at f;have hl:vs.length<=cL:=by rw[<-d.len];show hz
  show⟨by rw[<-rv.length];show hl,?_⟩;have n:c.H s1.heap.objs.size=b8:=i.IS.fresh (hU _);have o:Inv X a c0.σ c.H s1:=by rw[<-t.hσ];show i
  show⟨.ref s1.heap.objs.size,upd c.H s1.heap.objs.size (.tup vs),o.laid (t':=s1.toks) (λb u e=>c2 _ e) (hU _) ⟨hl,us,rv,Â _ _⟩,rfl,?_⟩;show bZ.tup (c:={c with S:=S',st:=st' }) f t.hσ l m d _ n
 .show(bp.mp f).elim
def Bq(j:PA X es (Kj C ms)):PE X (.List es pos) (IX C (ms >>= λrs=>aA rs >>= λ_=>cV rs >>= λus=>if us.length<=cL then pure (.own,.lst us) else M.fail)):=by
 rintro a s σ H Q I ⟨c0,rfl,rfl,g,h⟩;show wpAny_List_spliced (I0 (args j I g h pos) λus s1 k=>?_);have⟨rs,c,vs,t,i,rv,w⟩:=k;rw[ah]at w;have⟨S',st',ws,p,l,m,d,f⟩:=iP g t.ok t.nx t.rep w;split at f
 .rename_i hz;rw[aq]at f;have hl:vs.length<=cL:=by rw[<-d.len];show hz
  show⟨by rw[<-rv.length];show hl,?_⟩;have n:c.H s1.heap.objs.size=b8:=i.IS.fresh (hU _);have o:Inv X a c0.σ c.H s1:=by rw[<-t.hσ];show i
  show⟨.ref s1.heap.objs.size,upd c.H s1.heap.objs.size (.lst vs),o.laid (t':=s1.toks) (λb u e=>c2 _ e) (hU _) ⟨hl,us,0,rv,ez _ rfl⟩,rfl,?_⟩;show bZ.list (c:={c with S:=S',st:=st' }) f t.hσ l m d _ n
 .show(bp.mp f).elim
end
section
def oY(d:X.N[i]?=a5 x)(f:Ks X.env.scope x)(g:(x==("__debug__":Str))=cc)(l:(x==("__classdict__":Str))=cc):PE X (.Name x pos) (IX C (c_ i)):=by
 show PE.weak (bO d f g l) ?_;rintro σ H Q ⟨c0,rfl,rfl,b,r,st',e,h⟩;unfold c_ at e;split at e
 .cases e
 .rename_i k u m hs;cases e;have⟨v,c,a⟩:=b.sl i k u hs;show⟨v,c,h c0 v rfl rfl b (Nx.refl c0) ?_⟩;by_cases hk:k.root=b6
  .rw[ļ hk];show⟨⟨k,hk,hs⟩,c⟩
  .rw[Ľ hk];cases k with
   |loc=>show a
   |any=>show a
   |bor j=>show a.elim
   |IL=>show(m rfl).elim
   |_=>show absurd rfl hk
 .cases e
def iQ(h:PE X e (tC v))(r:∀S H,Rep C S H u v):PE X e (IX C (pure (.loc,u))):=by
 show PE.weak h ?_;rintro σ H Q ⟨c0,rfl,rfl,a,h⟩;rw[aq]at h;show h c0 v rfl rfl a (Nx.refl c0) (r _ _)
def bZ.root(h:bZ C c0 Q (.own,u) c.st)(d:c.σ=c0.σ)(b:Ok C c)(n:Nx c0 c)(p:d8)(a:c.H p=b8)(r:cU C c.S (upd c.H p o) p u):Q (.ref p) (upd c.H p o):=by
 have⟨e,f⟩:=b.lay (o:=o) a;have⟨j,g,k,l,i⟩:=b.j5 a;show h {c with H:=upd c.H p o} _ d rfl e (n.trans f) ⟨p,rfl,n.none a,g,i,r⟩
def yx(c:C.P=X.prog)(d:C.w=X.w)(r:Bool):PE X (.Dict [] [] pos) (IX C (pure (.own,.IQ [] []))):=by
 show PE.weak pY ?_;rintro σ H Q ⟨c0,rfl,rfl,a,h⟩ p b;rw[aq]at h;show bZ.root h rfl a (Nx.refl c0) p b ⟨[],ax,rfl,rfl⟩
def au.JK{S:d8->Prop}(h:au C S H us vs)(e:JK us i=a5 u):∃v,L2.JK vs i=a5 v/\Rep C S H u v:=by
 unfold L2.JK at e ⊢;rw[h.len]at e;cases q:Mp vs.length i with
 |none=>rw[q]at e;cases e
 |some j =>
  rw[q]at e;show h.get e
def Eo(J:C.K=X.K)(L:X.A.units+60<K2)(hs:ox b)(t:Qp C c0 c x y g j)(I:Inv X d c.σ c.H s)(m:RelV g v)(o:RelV j u)(h:gM x y.2=a5 r)(q:bZ C c0 Q r c.st):
  d3 (et X.prog X.w) X.A (Vt a b v u) (EP X d c.σ Q) X.xe s:=by
 obtain⟨p,f,n,z,ty,-⟩:=t;have⟨N,O⟩:=y
 dsimp only at h ty
 unfold gM at h;split at h
 .rename_i k xs i;rw[eH]at h;have⟨w,e,rfl⟩:=h;have⟨a',vs,ex,l,B⟩:=z.list f;have⟨vw,D,G⟩:=B.JK e;show AJ a b d s c.σ c.H g j v u Q I m o ⟨a',vs,i,vw,ex,ty.int f,J▸l,D,q c vw p rfl f n (aN.item G)⟩ (hs _ _)
 .rename_i k xs i;rw[eH]at h;have⟨w,e,rfl⟩:=h;have⟨a',vs,ex,l,B⟩:=z.tuple f;have⟨vw,D,G⟩:=B.JK e;rw[J]at l;show oy a b d s c.σ c.H g j v u Q I m o ⟨a',vs,i,vw,ex,ty.int f,l,D,q c vw p rfl f n (aN.item G)⟩ (hs _ _)
 .split at h
  .rw[eH]at h;have⟨w,e,rfl⟩:=h;show oz a b d s c.σ c.H g j v u Q I m o ⟨_,_,w,z.str f,ty.int f,by assumption,e,q c _ p rfl f n rfl⟩ (hs _ _)
  .cases h
 .cases h
def Br(f:C.K=X.K)(g:X.A.units+60<K2)(hs:ox b)(i:PE X a (IX C j))(k:PE X b (IX C l)):PE X (.Subscript a b pos) (IX C (j >>= λx=>l >>= λy=>aA [x,y] >>= λ_=>M.Jf (gM x y.2))):=by
 rintro d s σ H Q I ⟨c0,rfl,rfl,m,h⟩;show ó (two i k I m h λx y c B D v u s2 t n o p w=>?_);have⟨r,e,q⟩:=bI.mp w;show I0 (Eo f g hs t n o p e q) λ_ _ z=>by rw[t.hσ]at z;show z
def au.cut{S:d8->Prop}(h:au C S H us vs)(lo a:Option Int):au C S H (TM.cut us lo a) (vP vs lo a):=by
 unfold TM.cut vP;rw[h.len];show(h.drop _).take _
end
section
end
section
variable{X:Cx}{C:Ct}{pins:List (d8×Obj)}{s:d5}{c0 c c1:Cf}
variable{a b d e:l0}{es:List l0}{m ma mb md:M (Kd×U)}{ms:M (List (Kd×U))}{ta tb:M Bool}{pos p p2:Pos}
abbrev tO(C:Ct)(m:M (Option Int)):TO:=λσ H Q=>∃c0:Cf,c0.σ=σ/\c0.H=H/\Ok C c0/\W m c0.st λi st'=>∀c,c.σ=σ->c.st=st'->Ok C c->Nx c0 c->Q i c.H
def wt:PO X b8 (tO C (pure b8)):=by
 rintro pins s σ H Q I ⟨c0,rfl,rfl,f,h⟩;rw[aq]at h;show AG pins s c0.σ c0.H Q I (h c0 rfl rfl f (Nx.refl c0))
def wu(f:PE X a (IX C ma)):PO X (a5 a) (tO C (ma >>= Ei)):=by
 rintro pins s σ H Q I ⟨c0,rfl,rfl,g,h⟩;show AH f pins s c0.σ c0.H Q I (aM g h λx c v t w=>?_);have⟨k,u⟩:=x;unfold Ei at w;split at w
 .rename_i i e
  dsimp only at e
  subst e;rw[aq]at w;show⟨i,t.rx.int t.ok,w c t.hσ rfl t.ok t.nx⟩
 .show(bp.mp w).elim
def Ep{lo f:Option Int}(l:C.K=X.K)(i:c.σ=c0.σ)(g:Ok C c)(n:Nx c0 c)(j:aN C c0 c x.1 x.2 k)(h:lb x lo f=a5 r)(q:bZ C c0 Q r c.st):
  FY X.K k lo f c.H Q\/F7 k lo f c.H Q:=by
 unfold lb at h;split at h
 .split at h
  .rename_i o;cases h;have⟨a',vs,ex,t,u⟩:=j.list g;show .inl ⟨a',vs,ex,l▸t,λp v=>q.list i g n ((eW o u).cut lo f) p v⟩
  .cases h
 .split at h
  .cases h;show .inr ⟨_,j.str g,by assumption,q.flat i g n rfl⟩
  .cases h
 .cases h
def Bs{lo g:Option l0}(n:C.K=X.K)(o:PE X a (IX C ma))(hl:PO X lo (tO C ml))(u:PO X g (tO C y)):
  PE X (.Subscript a (.Slice lo g b8 p2) pos) (IX C (ma >>= λx=>ml >>= λl=>y >>= λh=>aA [x] >>= λ_=>M.Jf (lb x l h))):=by
 show PE.weak (xy (Nt.or AK DW) o hl u) ?_;rintro σ H Q ⟨c0,rfl,rfl,z,h⟩;show aM z h λx c v t w=>?_;rw[ah]at w;show⟨c,t.hσ,rfl,t.ok,w.mono λl st2 i A B D G I=>?_⟩;subst D;rw[ah]at i;show⟨A,B,rfl,G,i.mono λT Y f J j L N O=>?_⟩;subst L;rw[ah,cE]at f;have⟨r,e,q⟩:=bI.mp f.2;have k:Nx c J:=I.trans O;show Ep n j N (t.nx.trans k) ((t.rx.w.on t.ok k (j.trans t.hσ.symm)).t f.1) e q
end
section
variable{X:Cx}{C:Ct}{pins:List (d8×Obj)}{s:d5}{c0 c c1:Cf}
variable{a b d e:l0}{es:List l0}{m ma mb md:M (Kd×U)}{ms:M (List (Kd×U))}{ta tb:M Bool}{pos p p2:Pos}
abbrev Bf.val:Bf->dV
 |.len=>.builtin "len"|.sorted=>.builtin "sorted"|.repr=>.builtin "repr"|.max=>.builtin "max"|.min=>.builtin "min"|.all=>.builtin "all"|.any=>.builtin "any"
 |.list=>.type "list"|.tuple=>.type "tuple"|.str=>.type "str"|.int=>.type "int"
abbrev Bf.name:Bf->Str
 |.len=>"len"|.sorted=>"sorted"|.repr=>"repr"|.max=>"max"|.min=>"min"|.all=>"all"|.any=>"any"
 |.list=>"list"|.tuple=>"tuple"|.str=>"str"|.int=>"int"
def call_of(g:jE X f r)(I:Inv X pins c.σ c.H s)(rv:Vals vs us)(h:r vs c.H Q):d3 (et X.prog X.w) X.A (NW f us) (EP X pins c.σ Q) X.xe s:=g pins s c.σ c.H vs us Q I rv h
def cq(h:jm f rs=a5 r):∃x,rs=[x]/\f x=a5 r:=by
 unfold jm at h;split at h
 .show⟨_,rfl,h⟩
 .cases h
def CN(J:X.calm=b6)(y:C.K=X.K)(N:X.A.guards=a5 [])(O:X.A.units+60<K2)(t:Lz C c0 c rs vs)(I:Inv X pins c.σ c.H s)(rv:Vals vs us)(h:Lh f rs=a5 r)(q:bZ C c0 Q r c.st):
  d3 (et X.prog X.w) X.A (NW f.val us) (EP X pins c.σ Q) X.xe s:=by
 have u:=t.hσ;have g:=t.ok;have n:=t.nx;cases f with
 |len =>
  have⟨x,rfl,hz⟩:=cq (f:=λx=>(Ec x.2).map λ(n:Nat)=>(Kd.loc,U.int (n:Int))) h;clear h;have h:=hz;clear hz;rw[eH]at h;have⟨k,e,rfl⟩:=h;have⟨v,rfl,l⟩:=t.one;have⟨T,D⟩:=x;unfold Ec at e;split at e
  .rename_i xs o;have o:D=.lst xs:=o;subst o;cases e;have⟨a',ws,ex,i,j⟩:=l.list g;rw[j.len]at q;show call_of iB I rv ⟨a',ws,by rw[ex],.inl (y▸i),q.flat u g n rfl⟩
  .rename_i xs o;have o:D=.tup xs:=o;subst o;cases e;have⟨a',ws,ex,i,j⟩:=l.tuple g;rw[y]at i;rw[j.len]at q;show call_of iB I rv ⟨a',ws,by rw[ex],.inr i,q.flat u g n rfl⟩
  .rename_i xs o;have o:D=.str xs:=o;subst o;split at e
   .cases e;show call_of oB I rv ⟨_,by rw[l.str g],by assumption,q.flat u g n rfl⟩
   .cases e
  .cases e
 |sorted =>
  have⟨x,rfl,hz⟩:=cq (f:=Ed) h;clear h;have h:=hz;clear hz;have⟨v,rfl,l⟩:=t.one;unfold Ed at h;split at h
  .rw[sx]at h;have⟨G,e,h⟩:=h;have B:=cN e;subst B;have⟨a',ws,ex,i,j⟩:=l.list g;rw[au.strs]at j;subst j;split at h
   .cases h;show call_of jI I rv ⟨a',G,by rw[ex],.inl (y▸i),by assumption,λp z=>q.list u g n (au.strs.mpr rfl) p z⟩
   .cases h
  .obtain⟨a',kvs,ex,i,j,_⟩:=l.dict g;split at h
   .cases h;show call_of (jl J) I rv ⟨a',kvs,_,by rw[ex],i,j,by assumption,λp z=>q.list u g n (au.strs.mpr rfl) p z⟩
   .cases h
  .rw[sx]at h;have⟨G,e,h⟩:=h;have B:=cN e;subst B;have⟨a',ws,ex,i,j⟩:=l.tuple g;rw[y]at i;rw[au.strs]at j;subst j;split at h
   .cases h;show call_of jI I rv ⟨a',G,by rw[ex],.inr i,by assumption,λp z=>q.list u g n (au.strs.mpr rfl) p z⟩
   .cases h
  .cases h
 |tuple =>
  have⟨x,rfl,hz⟩:=cq (f:=Ee) h;clear h;have h:=hz;clear hz;have⟨v,rfl,l⟩:=t.one;unfold Ee at h;split at h
  .have⟨a',ws,ex,i,j⟩:=l.list g;cases h;show call_of gQ I rv ⟨a',ws,by rw[ex],.inl ⟨y▸i,λp z=>q.tupK u g n j p z⟩⟩
  .have⟨a',ws,ex,i,j⟩:=l.tuple g;have L:=i;rw[y]at L;cases h;show call_of gQ I rv ⟨a',ws,by rw[ex],.inr ⟨L,q c (.ref a') u rfl g n (aN.item ⟨a',ws,rfl,i,j⟩)⟩⟩
  .cases h
 |str =>
  have⟨x,rfl,hz⟩:=cq (f:=A8) h;clear h;have h:=hz;clear hz;have⟨v,rfl,l⟩:=t.one;unfold A8 at h;split at h
  .split at h
   .cases h;show call_of oq I rv ⟨_,by rw[l.int g],by assumption,q.flat u g n rfl⟩
   .cases h
  .cases h
 |all =>
  have⟨x,rfl,hz⟩:=cq (f:=Ef) h;clear h;have h:=hz;clear hz;have⟨v,rfl,l⟩:=t.one;unfold Ef at h;split at h
  .rw[eH]at h;have⟨bs,e,rfl⟩:=h;have B:=lq e;subst B;have⟨a',ws,ex,i,j⟩:=l.list g;have:=j.VM;subst this;show call_of (xM J) I rv ⟨a',bs,by rw[ex],y▸i,q.flat u g n rfl⟩
  .cases h
 |_=>cases h
def Bt{id:String}(g:X.calm=b6)(i:C.K=X.K)(j:X.A.guards=a5 [])(k:X.A.units+60<K2)(l:f.val=.builtin id)(n:Gl X x)(o:X.mg x=b8)(u:t7 x=a5 (.builtin id))(v:x≠"__name__")(y:(x==("__debug__":Str))=cc)
  (B:PA X (e::es) (Kj C ms)) (D:hW (e::es) X.env=(cc,u7 e X.env)::hW es X.env) (G:(C1 pos (hW es X.env)).any (·.1)=cc) :
  PE X (.Call (.Name x p) (e::es) [] pos) (IX C (ms >>= λrs=>aA rs >>= λ_=>M.Jf (Lh f rs))):=by
 rintro pins s σ H Q I ⟨c0,rfl,rfl,J,h⟩;show sL (dh I n o u ?_ v y);show Pt (I0 (args B I J h pos) λus s1 ⟨rs,c,vs,t,L,rv,w⟩=>?_) D G;have⟨r,e,q⟩:=bI.mp w;have z:=CN g i j k t L rv e q;rw[l,t.hσ]at z;show z
def Bu(g:X.calm=b6)(i:C.K=X.K)(j:X.A.guards=a5 [])(k:X.A.units+60<K2)(l:f.val=.type T)(n:Gl X x)(o:X.mg x=b8)(u:t7 x=a5 (.type T))(v:x≠"__name__")(y:(x==("__debug__":Str))=cc)
  (B:PA X (e::es) (Kj C ms)) (D:hW (e::es) X.env=(cc,u7 e X.env)::hW es X.env) (G:(C1 pos (hW es X.env)).any (·.1)=cc) :
  PE X (.Call (.Name x p) (e::es) [] pos) (IX C (ms >>= λrs=>aA rs >>= λ_=>M.Jf (Lh f rs))):=by
 rintro pins s σ H Q I ⟨c0,rfl,rfl,J,h⟩;show sL (dh I n o u ?_ v y);show LX (I0 (args B I J h pos) λus s1 ⟨rs,c,vs,t,L,rv,w⟩=>?_) D G;have⟨r,e,q⟩:=bI.mp w;have z:=CN g i j k t L rv e q;rw[l,t.hσ]at z;show z
abbrev K7.name:K7->Str
 |.str=>"str"|.list=>"list"|.tuple=>"tuple"|.int=>"int"|.bool=>"bool"
abbrev K7.nm:K7->String
 |.str=>"str"|.list=>"list"|.tuple=>"tuple"|.int=>"int"|.bool=>"bool"
def Bx(T:K7):t7 T.name=a5 (.type T.nm)/\T.name≠"__name__"/\(T.name==("__debug__":Str))=cc:=by
 cases T<;>show⟨by decide +kernel,by decide +kernel,by decide +kernel⟩
def iR(T:K7):ZX (.type T.nm)=pure (.type "type"):=by cases T<;>kernel_rfl
def kh(T:K7):N1 (.type "str") (.type T.nm)=pure (cK (T=.str)):=by cases T<;>(rw[Jg];kernel_rfl)
def sub_int(T:K7):N1 (.type "int") (.type T.nm)=pure (cK (T=.int)):=by cases T<;>(rw[Jg];kernel_rfl)
def ne_str{T:K7}(h:¬T=.str):(rr "str"==rr T.nm)=cc:=by cases T<;>first|show absurd rfl h|decide
def ne_int{T:K7}(h:¬T=.int):(rr "int"==rr T.nm)=cc:=by cases T<;>first|show absurd rfl h|decide
def qB(T:K7):N1 (.type "list") (.type T.nm)=pure (cK (T=.list)):=by cases T<;>(rw[Jg];kernel_rfl)
def uH(T:K7):N1 (.type "tuple") (.type T.nm)=pure (cK (T=.tuple)):=by cases T<;>(rw[Jg];kernel_rfl)
def By{T:K7}(h:¬T=.list):(rr "list"==rr T.nm)=cc:=by cases T<;>first|show absurd rfl h|decide
def Er{T:K7}(h:¬T=.tuple):(rr "tuple"==rr T.nm)=cc:=by cases T<;>first|show absurd rfl h|decide
def Es{b:Bool}(z:C.K=X.K)(t:Lx C c0 c x v)(I:Inv X pins c.σ c.H s)(rv:RelV v val)(h:qA x.2 T=a5 b)(q:∀j,Q (.bool b) {s with toks:=j}):
  d3 (et X.prog X.w) X.A (NW (.builtin "isinstance") [val,.type T.nm]) Q X.xe s:=by
 have⟨k,u⟩:=x;have⟨O,i,n,r⟩:=t;have D:Q (.bool b) s:=q s.toks
 dsimp only at h r
 have g:∀{B:String},b=b6->s.TypeIs val B->N1 (.type B) (.type T.nm)=pure b6->d3 (et X.prog X.w) X.A (NW (.builtin "isinstance") [val,.type T.nm]) Q X.xe s:=λe G hs=>by
  subst e;show ĥ G (iR T) hs D
 unfold qA at h;split at h
 .cases h;have e:v=_:=r.str i;subst e;have⟨j,rfl⟩:=rv;by_cases f:T=.str
  .subst f;show g (by simp) (YP s _ j) (kh .str)
  .rw[ľ f]at q;show Ug (isinstance_false_str (ne_str f) (iR T) (by rw[kh,ľ f])) (q _)
 .cases h;have e:v=_:=r.int i;subst e;have⟨j,rfl⟩:=rv;by_cases f:T=.int
  .subst f;show g (by simp) (typeIs_int s _ j) (sub_int .int)
  .rw[ľ f]at q;show Ug (isinstance_false_int (ne_int f) (iR T) (by rw[sub_int,ľ f])) (q _)
 .cases h;have e:v=_:=r.bl i;subst e;cases rv;show g rfl (PySem.typeIs_bool s _) (by rw[Jg];kernel_rfl)
 .cases h;have e:v=_:=r.bl i;subst e;cases rv;show g rfl (PySem.typeIs_bool s _) (by rw[Jg];kernel_rfl)
 .cases h;have⟨a',ws,rfl,l,J⟩:=r.list i;cases rv;rw[z]at l;obtain⟨L,_,N,_⟩:=I.list l;obtain⟨o,ho,y,_⟩:=N.isList;by_cases f:T=.list
  .subst f;show g (by simp) ⟨o,ho,y⟩ (qB .list)
  .rw[ľ f]at q;show Ug (isinstance_false_list (By f) (iR T) (by rw[qB,ľ f])) ⟨⟨o,ho,y⟩,q _⟩
 .cases h;have⟨a',ws,rfl,l,J⟩:=r.tuple i;cases rv;rw[z]at l;obtain⟨L,_,⟨o,ho,y,_⟩,_⟩:=I.tuple l;by_cases f:T=.tuple
  .subst f;show g (by simp) ⟨o,ho,y⟩ (uH .tuple)
  .rw[ľ f]at q;show Ug (isinstance_false_tuple (Er f) (iR T) (by rw[uH,ľ f])) ⟨⟨o,ho,y⟩,q _⟩
 .cases h
def uI(g:C.K=X.K)(i:Gl X "isinstance")(j:X.mg "isinstance"=b8)(k:Gl X T.name)(l:X.mg T.name=b8)(n:PE X a (IX C ma))(hs:hW [a,.Name T.name p2] X.env=(cc,u7 a X.env)::hW [.Name T.name p2] X.env):
  PE X (.Call (.Name "isinstance" p) [a,.Name T.name p2] [] pos) (IX C (ma >>= λx=>M.Jf (qA x.2 T) >>= λb=>pure (.loc,.bl b))):=by
 rintro pins s σ H Q I ⟨c0,rfl,rfl,o,h⟩;have⟨q,r,u⟩:=Bx T;show sL (dh I i j (show t7 "isinstance"=a5 (.builtin "isinstance") by decide +kernel) ?_ (by decide +kernel) (by decide +kernel));show Pt (I0 (cS n (cS (tU (v:=.ty T.nm) k l q rfl r u) fg) hs pos pins s c0.σ c0.H (λvs H'=>∃x c v b,Lx C c0 c x v/\c.H=H'/\vs=[v,.ty T.nm]/\qA x.2 T=a5 b/\bZ C c0 Q (.loc,.bl b) c.st) I ?_) λus s1 ⟨vs,N,f,y,x,c,v,b,t,e,A,B,w⟩=>?_) hs (by rfl)
 .show aM o h λx c v t w=>?_;rw[ah]at w;have⟨b,e,w⟩:=bI.mp w;rw[aq]at w;show⟨x,c,v,b,t,rfl,rfl,e,w⟩
 .subst e A;have⟨O,Y,rfl,D,G⟩:=vals2 y;cases G;have J:Inv X pins c.σ c.H s1:=by rw[t.hσ];show f
  have z:=Es (Q:=EP X pins c0.σ Q) g t J D B λL=>⟨.bl b,c.H,f.tok L,rfl,w c (.bl b) t.hσ rfl t.ok t.nx rfl⟩
  show z
@[reducible]def Ni(P:u3)(w:ve)(K:PySem.W.Frag)(H:Hp)(f:d8->Prop):Ct:=⟨P,w,K,H,f,λ_=>False,λ_ _=>False⟩
structure Back(C:Ct)(H H':Hp)(S':d8->Prop)(k:Kd)(u:U)(v:V):Prop where
 same:pW H H'
 new:∀a,S' a->H a=b8/\∃o,H' a=a5 o
 own:k=.own->∃r,v=.ref r/\H r=b8/\¬S' r/\cU C S' H' r u
 loc:k=.loc->Rep C S' H' u v
 any:k=.any->Rep C (PS C S') H' u v
abbrev spT(P:u3)(w:ve)(K:PySem.W.Frag)(F:List U->Option (Ex (Kd×U)))(g:Nat):Sp:=λvs H Q E=>vs.length=g/\∃us r f,F us=a5 r/\(∀a,f a->KH H a)/\au (Ni P w K H f) f H us vs/\match r with
 |.ok (k,u)=>(k=.own\/k=.loc\/k=.any)/\∀v H' S',Back (Ni P w K H f) H H' S' k u v->Q v H'
 |.exc c=>∀C H',PySem.W.nsIn K js c=a5 (a5 (.ref C))->pW H H'->E (.ref C) b8 H'
def Lz.read(t:Lz C c0 c rs vs):au C (KH c.H) c.H (rs.map (·.2)) vs:=by
 have f:∀(l:List (Kd×U)) (w:List V),cM C c0 c l w->bq l c.st->au C (KH c.H) c.H (l.map (·.2)) w:=by
  intro l;induction l with
  |nil=>intro w h _;show h
  |cons r l g =>
   intro w h hs;obtain⟨v,t',rfl,i,j,_⟩:=h;rw[gz]at hs;show⟨v,t',rfl,(i.t hs.1).read t.ok,g t' j hs.2⟩
 show f rs vs t.rep t.Om
def Back.here(hk:k=.own\/k=.loc)(i:c.σ=c0.σ)(f:Ok C c)(n:Nx c0 c)(q:j.Eqv C)(h:Back j c.H H' S' k u v)(w:bZ C c0 Q (k,u) c.st):Q v H':=by
 have⟨l,t⟩:=f.grow (S':=λa=>c.S a\/S' a) h.same (λa z=>z.imp id λz=>h.new a z) λa=>.inl;have x:=n.trans t;show w {c with H:=H',S:=λa=>c.S a\/S' a} v i rfl l x ?_;rcases hk with rfl|rfl
 .have⟨r,e,g,y,A⟩:=h.own rfl;have⟨G,B,I,J,D⟩:=f.j5 g;show⟨r,e,n.none g,λz=>z.elim B y,D,(A.cg q).mv (.up λa=>.inr) λo q=>q⟩
 .show((h.loc rfl).cg q).mv (.up λa=>.inr)
def yy(o:C.P=X.prog)(x:C.w=X.w)(y:C.K=X.K)(L:Γ f=F)(hk:∀us k u,F us=a5 (.ok (k,u))->(k=.own\/k=.loc\/k=.any)/\us.length=B)
  (G:jh X.prog X.w X.K X.mg X.base (Ob X.prog X.w) k fa N ps (spT X.prog X.w X.K F B)) (O:fK k X.A) (T:Gl X f) (Y:X.mg f=a5 (.ref fa)) (Oa:PySem.W.keepIn X.K (.ref fa)=b6) (j:Binds X.K N ps [])
  (L6:(f==("__debug__":Str))=cc) (ha:PA X (e::es) (Kj C ms)) (he:hW (e::es) X.env=(cc,u7 e X.env)::hW es X.env) (JJ:(C1 pos (hW es X.env)).any (·.1)=cc) :
  PE X (.Call (.Name f p) (e::es) [] pos) (IX C (ms >>= λrs=>aA rs >>= λ_=>lh Γ f (rs.map (·.2)))):=by
 rintro pins s σ H Q I ⟨c0,rfl,rfl,ok,h⟩;show sL (fe I T Y ?_ L6);show PySem.W.callWith_K (h₀:=X.base) I.ok.mod.OR Oa (I0 (args ha I ok h pos) λus s1 ⟨rs,c,vs,t,D,rv,w⟩=>⟨D.Mm,?_⟩) he JJ;have⟨r,st',g,q⟩:=w;unfold lh at g;rw[L]at g;cases i:F (rs.map (·.2)) with
 |none=>rw[i]at g;cases g
 |some r' =>
  rw[i]at g;split at g
  .cases g
  .rename_i z;cases z
  rename_i X7 e3;cases e3;cases g;have⟨l,u⟩:=r;have⟨k0,k2⟩:=hk _ _ _ i;have k1:l=.own\/l=.loc:=by
   rcases k0 with z|z|z
   .show .inl z
   .show .inr z
   .subst z;show(X7 u rfl).elim
  have n:C.Eqv (Ni X.prog X.w X.K c.H (KH c.H)):=⟨o,x,y⟩
  have LB:(Ni X.prog X.w X.K c.H (KH c.H)).Eqv C:=⟨o.symm,x.symm,y.symm⟩
  have J:=t.read;have KD:spT X.prog X.w X.K F B vs c.H (λv H'=>Q v H') E0:=⟨by rw[<-J.len];show k2,rs.map (·.2),.ok (l,u),KH c.H,i,λ_ z=>z,J.cg n,k0,λv H' S' j=>j.here k1 t.hσ t.ok t.nx LB q⟩
  have z:=xx (Q:=Q) G O j .nil F9 D rv (by rw[r6];show KD);rw[t.hσ]at z;show z
end
section
abbrev Mf.id:Mf->String
 |.split=>"str.split"|.join=>"str.join"|.partition=>"str.partition"|.endswith=>"str.endswith"
abbrev Mf.name:Mf->Str
 |.split=>"split"|.join=>"join"|.partition=>"partition"|.endswith=>"endswith"
def yz(h:mD f u rs=a5 r):∃x,u=.str x:=by
 unfold mD at h;split at h
 .show⟨_,rfl⟩
 .cases h
def Et(k:C.K=X.K)(t:Lz C c0 c (x::rs) (b::vs))(I:Inv X a c.σ c.H s)(l:RelV b v)(rv:Vals vs us)(h:mD f x.2 rs=a5 r)(q:bZ C c0 Q r c.st):
  d3 (et X.prog X.w) X.A (NW (.builtin f.id) (v::us)) (EP X a c.σ Q) X.xe s:=by
 have m:=t.hσ;have d:=t.ok;have n:=t.nx;have⟨o,p⟩:=x;have hs:=gz.mp t.Om;obtain⟨G,J,u,g,i,-⟩:=t.rep;cases u;have y:aN C c0 c o p b:=g.t hs.1;have one:∀{r:Kd×U},cM C c0 c [r] vs->bq [r] c.st->∃v,vs=[v]/\aN C c0 c r.1 r.2 v:=λ{r} h s=>by
  obtain⟨v,t',rfl,g,i,_⟩:=h;cases i;show⟨v,rfl,g.t s⟩
 dsimp only at h
 unfold mD at h;split at h
 .rw[sx]at h;have⟨z,e,h⟩:=h;have B:=cN e;subst B;have⟨w,rfl,ty⟩:=one i hs.2;have⟨a',ws,ex,D,j⟩:=ty.list d;rw[au.strs]at j;subst j;split at h
  .cases h;show AS a s c.σ c.H b [w] v us Q I l rv ⟨_,a',z,y.str d,by rw[ex],k▸D,by assumption,q.flat m d n rfl⟩
  .cases h
 .cases h
def BA(L:C.K=X.K)(slot:Slot "str" name f.id)(N:ZX (.builtin f.id)=pure (.type "method_descriptor"))(ho:PE X o (IX C m))(O:PA X (e::es) (Kj C ms))
  (T:SA o name X.env (u7 o X.env)=u7 o X.env)
  (Y:((C1 b (hW (e::es) X.env)).all (λx=>!x.1)&&(Qt b (LD [] X.env)).all (λx=>x.1.isSome)
   && cK ((e::es).length+([]:List Oc).length+(if ([]:List Oc).isEmpty then 0 else 1)<30))=b6)
  (Jc:(g.endLine==b.line)=b6) (hs:hW (e::es) X.env=(cc,u7 e X.env)::hW es X.env) (JZ:(C1 b (hW es X.env)).any (·.1)=cc) :
  PE X (.Call (.Attribute o name g) (e::es) [] b) (IX C (m >>= λx=>ms >>= λrs=>aA (x::rs) >>= λ_=>M.Jf (mD f x.2 rs))):=by
 rintro a s σ H Q I ⟨c0,rfl,rfl,ok,h⟩;show ZW T Y Jc rfl (I0 (ho a s c0.σ c0.H (λj p=>∃x c1,c1.H=p/\Lx C c0 c1 x j/\W (ms >>= λrs=>aA (x::rs) >>= λ_=>M.Jf (mD f x.2 rs)) c1.st (bZ C c0 Q)) I (aM ok h λx c v t w=>⟨x,c,rfl,t,w⟩)) ?_);rintro v s1 ⟨j,p,u,y,x,c1,rfl,t,w⟩;have Oo:∃z,x.2=.str z:=by
  rw[ah]at w;obtain⟨rs,st2,_,w⟩:=w;rw[ah]at w;obtain⟨_,Jx,_,w⟩:=w;obtain⟨r,e,_⟩:=bI.mp w;show yz e
 have⟨z,hz⟩:=Oo;have A:=t.rx;rw[hz]at A;have ev:=A.str t.ok;have ty:Q4 X.K "str" j c1.H:=by rw[ev];rfl
 have⟨h1,h2⟩:=oC u y ty;show⟨"str",f.id,PySem.F.plainAttrs_str,slot,N,h1,h2,?_⟩;rw[ah]at w;have B:=O b a s1 c0.σ c1.H (λvs D=>∃rs d,d.H=D/\Lz C c0 d (x::rs) (j::vs)/\W (M.Jf (mD f x.2 rs)) d.st (bZ C c0 Q)) u ⟨c1,t.hσ,rfl,t.ok,w.mono λrs st2 l d vs G e4 Jm J k=>by
  rw[ah,cE]at l;subst e4;show⟨rs,d,rfl,⟨G,Jm,t.nx.trans J,⟨j,vs,rfl,t.rx.w.on t.ok J (G.trans t.hσ.symm),k.from t.nx,λhk i r' v' e5 e6 JE=>oX t.rx.w (k.get e5 e6) hk JE⟩,l.1⟩,l.2⟩⟩
 rw[hs]at B ⊢;show zy (by change(cc||(C1 b (hW es X.env)).any (·.1))=cc;rw[JZ]<;>rfl) (K4 ?_);show I0 B ?_;rintro us s2 ⟨vs,D,I2,k,rs,d,rfl,n,w2⟩;have⟨r,e,q⟩:=bI.mp w2;have z:=Et L n (by rw[n.hσ];show I2) y k e q;rw[n.hσ]at z;show z
end
section
variable{X:Cx}{C:Ct}{pins:List (d8×Obj)}{s:d5}{c0 c c1:Cf}
variable{e:l0}{es:List l0}{ms:M (List (Kd×U))}{pos p p2 pos2:Pos}
abbrev B2.out:B2->dV
 |.MA=>.type "tuple"|.K6=>.type "list"|.sset=>.builtin "sorted"|.mj=>.builtin "len"
abbrev B2.Ru:B2->dV
 |.MA=>.type "reversed"|.K6=>.type "reversed"|.sset=>.type "set"|.mj=>.type "set"
abbrev B2.oZ:B2->Str
 |.MA=>"tuple"|.K6=>"list"|.sset=>"sorted"|.mj=>"len"
abbrev B2.iS:B2->Str
 |.MA=>"reversed"|.K6=>"reversed"|.sset=>"set"|.mj=>"set"
theorem au.rev{S:d8->Prop}:∀{us:List U}{vs:List V},au C S H us vs->au C S H us.reverse vs.reverse
 |[],vs,h=>by cases h;show rfl
 |u::us,vs,h=>by
  have⟨v,r,rfl,a,b⟩:=h;rw[RZ,RZ];show(au.rev b).append ⟨v,[],rfl,a,rfl⟩
def m_(i:C.K=X.K)(j:Ok C c)(l:aN C c0 c k u v)(h:ie u=a5 m):∃a b,v=.ref a/\(Jw X.K c.H a (b.map V.str)\/JI X.K c.H a (b.map V.str))/\b.length+1<x3/\m=aD b:=by
 unfold ie at h;split at h
 .rw[sx]at h;have⟨b,e,h⟩:=h;have g:=cN e;subst g;have⟨a',ws,ex,f,d⟩:=l.list j;rw[au.strs]at d;subst d;split at h
  .cases h;show⟨a',b,ex,.inl (i▸f),by assumption,rfl⟩
  .cases h
 .rw[sx]at h;have⟨b,e,h⟩:=h;have g:=cN e;subst g;have⟨a',ws,ex,f,d⟩:=l.tuple j;rw[au.strs]at d;subst d;rw[i]at f;split at h
  .cases h;show⟨a',b,ex,.inr f,by assumption,rfl⟩
  .cases h
 .cases h
def Eu(d:X.calm=b6)(m:C.K=X.K)(t:Lz C c0 c rs vs)(I:Inv X pins c.σ c.H s)(rv:Vals vs us)(h:sm f rs=a5 r)(q:bZ C c0 Q r c.st):
  d3 (et X.prog X.w) X.A (NW f.Ru us) (λv s1=>d3 (et X.prog X.w) X.A (NW f.out [v]) (EP X pins c.σ Q) X.xe s1) X.xe s:=by
 have o:=t.hσ;have a:=t.ok;have n:=t.nx;cases f with
 |K6 =>
  have⟨x,rfl,hz⟩:=cq (f:=Eg) h;clear h;have h:=hz;clear hz;have⟨v,rfl,g⟩:=t.one;unfold Eg at h;split at h
  .have⟨a',ws,ex,b,i⟩:=g.list a;rw[m]at b;subst ex;have⟨u,rfl,j⟩:=vals1 rv;cases j;split at h
   .cases h;show x_ d I b λl hl=>q.list o a n (eW (by assumption) i).rev l hl
   .cases h
  .cases h
 |sset =>
  have⟨x,rfl,hz⟩:=cq (f:=λx=>(ie x.2).bind λk=>if k.length<64 then a5 (Kd.own,U.lst ((aP k).map .str)) else b8) h;clear h;have h:=hz;clear hz;have⟨k,e,h⟩:=sx.mp h;have⟨v,rfl,g⟩:=t.one;have⟨a',B,rfl,b,i,rfl⟩:=m_ m a g e;have⟨u,rfl,j⟩:=vals1 rv;cases j;split at h
  .cases h;show oO d I b i λS h' D y z=>gU d z y (by assumption) λl hl=>q.list o a n (au.strs.mpr rfl) l hl
  .cases h
 |_=>cases h
def uJ:∀f:B2,t7 f.oZ=a5 f.out/\t7 f.iS=a5 f.Ru/\f.oZ≠"__name__"/\f.iS≠"__name__"/\(f.oZ==("__debug__":Str))=cc/\(f.iS==("__debug__":Str))=cc:=by
 intro f;cases f<;>show⟨by decide +kernel,by decide +kernel,by decide +kernel,by decide +kernel,by decide +kernel,by decide +kernel⟩
def Ew(f:B2):∃T,f.Ru=.type T:=by cases f<;>show⟨_,rfl⟩
def Ey(f:B2):(∃T,f.out=.type T)\/∃T,f.out=.builtin T:=by cases f<;>first|show .inl ⟨_,rfl⟩|show .inr ⟨_,rfl⟩
def uK{M:Model}{E:dV->d5->Prop}(h:d3 M A t (λv a=>d3 M A (NW (.type T) [v]) Q E a) E s):d3 M A (callWith pos (.type T) [] [(cc,t)] []) Q E s :=
 PySem.callWith_type rfl (K4 (Ma (my h (λ_ _ b=>PU b) λ_ _ e=>e)))
def o_{M:Model}{E:dV->d5->Prop}(h:d3 M A t (λv a=>d3 M A (NW (.builtin T) [v]) Q E a) E s):d3 M A (callWith pos (.builtin T) [] [(cc,t)] []) Q E s :=
 zy rfl (K4 (Ma (my h (λ_ _ b=>PU b) λ_ _ e=>e)))
def yA(b:X.calm=b6)(d:C.K=X.K)(g:Gl X f.iS)(i:X.mg f.iS=b8)
  (j:PA X (e::es) (Kj C ms)) (k:hW (e::es) X.env=(cc,u7 e X.env)::hW es X.env) (l:(C1 pos2 (hW es X.env)).any (·.1)=cc)
  (I:Inv X pins c0.σ c0.H s) (m:Ok C c0) (h:W (ms >>= λrs=>aA rs >>= λ_=>M.Jf (sm f rs)) c0.st (bZ C c0 Q)) :
  d3 (et X.prog X.w) X.A (u7 (.Call (.Name f.iS p2) (e::es) [] pos2) X.env) (λv s1=>d3 (et X.prog X.w) X.A (NW f.out [v]) (EP X pins c0.σ Q) X.xe s1) X.xe s:=by
 have⟨b1,n,b3,b4,B,o⟩:=uJ f;show sL (dh I g i n ?_ b4 o);have a:d3 (et X.prog X.w) X.A (ü (C1 pos2 (hW (e::es) X.env))) (λus s1=>d3 (et X.prog X.w) X.A (NW f.Ru us) (λv s1=>d3 (et X.prog X.w) X.A (NW f.out [v]) (EP X pins c0.σ Q) X.xe s1) X.xe s1) X.xe s :=
  I0 (args j I m h pos2) λus s1 u=>by
   have⟨rs,c,vs,t,x,rv,w⟩:=u;have⟨r,e,q⟩:=bI.mp w;have z:=Eu b d t x rv e q;rw[t.hσ]at z;show z
 have⟨T,y⟩:=Ew f;rw[y]at a ⊢;show LX a k l
def BB(d:X.calm=b6)(g:C.K=X.K)(i:Gl X f.oZ)(j:X.mg f.oZ=b8)(k:Gl X f.iS)(l:X.mg f.iS=b8)
  (m:PA X (e::es) (Kj C ms)) (n:hW (e::es) X.env=(cc,u7 e X.env)::hW es X.env) (o:(C1 pos2 (hW es X.env)).any (·.1)=cc) :
  PE X (.Call (.Name f.oZ p) [.Call (.Name f.iS p2) (e::es) [] pos2] [] pos) (IX C (ms >>= λrs=>aA rs >>= λ_=>M.Jf (sm f rs))):=by
 rintro pins s σ H Q I ⟨c0,rfl,rfl,q,h⟩;have⟨b1,v,b3,b4,r,w⟩:=uJ f;show sL (dh I i j b1 ?_ b3 r);have a:=yA (p2:=p2) (pos2:=pos2) d g k l m n o I q h;have t:C1 pos (hW [.Call (.Name f.iS p2) (e::es) [] pos2] X.env)=[(cc,u7 (.Call (.Name f.iS p2) (e::es) [] pos2) X.env)]:=rfl;have u:Qt pos (LD [] X.env)=[]:=rfl;rw[t,u];rcases Ey f with⟨T,b⟩|⟨T,b⟩
 .rw[b]at a ⊢;show uK a
 .rw[b]at a ⊢;show o_ a
end
section
variable{X:Cx}{C:Ct}{pins:List (d8×Obj)}{s:d5}{c0 c c1:Cf}
variable{a b d e o tg:l0}{es:List l0}{m ma mb md:M (Kd×U)}{ms:M (List (Kd×U))}{ta tb:M Bool}{pos p p2 apos G':Pos}
abbrev lr(rs:List (Kd×U))(c f:Cf):Prop:=∀j u,(Kd.bor j,u)∈rs->f.σ[j]?=c.σ[j]?
abbrev Walk(C:Ct)(c:Cf)(rs:List (Kd×U))(xs:List (Kd×U))(J:It):Prop:=∀f,Ok C f->Ns c f->lr rs c f->bq rs f.st ->
 (∀(i:Nat) r,xs[i]?=a5 r->(r.1=.loc\/r.1=.any)/\J.go i f.H/\∀x H',J.QZ i f.H x H'->∃g:Cf,g.H=H'/\g.σ=f.σ/\g.st=f.st/\Ok C g/\Nx f g/\aN C f g r.1 r.2 x) /\
 ∀i:Nat,xs.length<=i->J.stop i f.H
abbrev MX(C:Ct)(ik:Ik)(ms:M (List (Kd×U))):TI:=λσ H R=>∃c0:Cf,c0.σ=σ/\c0.H=H/\Ok C c0/\W (ms >>= λrs=>aA rs >>= λ_=>M.Jf (KI ik rs) >>= λxs=>pure (rs,xs)) c0.st λq st' =>
 ∀c J,c.σ=σ->c.st=st'->Ok C c->Nx c0 c->bq q.1 c.st->Walk C c q.1 q.2 J->R J c.H
def aN.walk(g:Ok C c)(n:Ns c f)(i:lr [r] c f)(hs:bq [r] f.st)(h:aN C c0 c r.1 r.2 v):aN C c0 f r.1 r.2 v :=
 (h.w.VJ g n λj e=>i j r.2 (by rw[<-e];simp)).t hs
def yB(k:Kd):kE k=.loc\/kE k=.any:=by cases k<;>simp[kE]
def wx(z:C.K=X.K)(A:Ok C c)(h:aN C c0 c k (.lst us) (.ref a')):Walk C c [(k,.lst us)] (us.map λu=>(kE k,u)) (R7 X.K a'):=by
 intro l q n B hs;have h':=aN.walk (r:=(k,.lst us)) A n B hs h;have⟨H,vs,e,f,t⟩:=h'.list q;cases e;rw[z]at f;show⟨λi r w=>?_,λi D=>⟨vs,f,by rw[<-t.len];simpa using D⟩⟩;rw[i8,eH]at w;have⟨u,G,rfl⟩:=w;have⟨v,y,g⟩:=t.get G;show⟨yB k,⟨vs,v,f,y⟩,λx H' j=>?_⟩;have⟨e,j⟩:=j;subst e;have:=j vs f;rw[y]at this;cases this;show⟨l,rfl,rfl,rfl,q,Nx.refl l,aN.item g⟩
def su(z:C.K=X.K)(A:Ok C c)(h:aN C c0 c k (.tup us) (.ref a')):Walk C c [(k,.tup us)] (us.map λu=>(kE k,u)) (R8 X.K a'):=by
 intro l q n B hs;have h':=aN.walk (r:=(k,.tup us)) A n B hs h;have⟨H,vs,e,f,t⟩:=h'.tuple q;cases e;rw[z]at f;show⟨λi r w=>?_,λi D=>⟨vs,f,by rw[<-t.len];simpa using D⟩⟩;rw[i8,eH]at w;have⟨u,G,rfl⟩:=w;have⟨v,y,g⟩:=t.get G;show⟨yB k,⟨vs,v,f,y⟩,λx H' j=>?_⟩;have⟨e,j⟩:=j;subst e;have:=j vs f;rw[y]at this;cases this;show⟨l,rfl,rfl,rfl,q,Nx.refl l,aN.item g⟩
def sv{lo:Int}:Walk C c rs ((gs n).map λi:Nat=>(Kd.loc,U.int (lo+(i:Int)))) (Q1 lo n):=by
 intro h l nx t hs;show⟨λi r k=>?_,λi f=>by change n<=i;simpa using f⟩;rw[i8,eH]at k;have⟨j,g,rfl⟩:=k;have f:i<n:=by simpa using(dt.mp g).1
 rw[List.getElem?_range f]at g;cases g;show⟨.inl rfl,f,λy H' q=>?_⟩;have⟨e,rfl⟩:=q;subst e;show⟨h,rfl,rfl,rfl,l,Nx.refl h,rfl⟩
def Ez(i:C.K=X.K)(t:PE X a (IX C ma)):PI X tg a (MX C .seq (ma >>= λr=>pure [] >>= λrs=>pure (r::rs))):=by
 rintro pins s σ H R I ⟨c0,rfl,rfl,w,h⟩;rw[ah,ah]at h;have⟨r,st1,x,h⟩:=h;rw[ah,aq,aq,ah,cE,ah]at h;have⟨y,h⟩:=h;have⟨xs,j,h⟩:=bI.mp h;rw[aq]at h;have⟨k,u⟩:=r;cases u with
 |lst us =>
  cases j;show Ay t pins s c0.σ c0.H R I ⟨c0,rfl,rfl,w,_,st1,x,λc v l hs g n f=>?_⟩;have⟨a',vs,rfl,q,A⟩:=f.list g;subst hs;show⟨a',rfl,⟨vs,i▸q⟩,h c _ l rfl g n y (wx i g f)⟩
 |tup us =>
  cases j;show DB t pins s c0.σ c0.H R I ⟨c0,rfl,rfl,w,_,st1,x,λc v l hs g n f=>?_⟩;have⟨a',vs,rfl,q,A⟩:=f.tuple g;subst hs;have z:=q;rw[i]at z;show⟨a',rfl,⟨vs,z⟩,h c _ l rfl g n y (su i g f)⟩
 |_=>cases j
def yC{k:List (Kd×U)->M β}{Post:β->aw->Prop}(g:Ok C c0)(h:W (ms >>= λrs=>aA rs >>= λ_=>k rs) c0.st Post)
  (hz:∀rs c vs,Lz C c0 c rs vs->W (k rs) c.st Post->Z vs c.H):Kj C ms c0.σ c0.H Z:=by
 rw[ah]at h;show⟨c0,rfl,rfl,g,h.mono λrs st1 f c1 vs i j l n q=>?_⟩;rw[ah,cE]at f;subst j;show hz rs c1 vs ⟨i,l,n,q,f.1⟩ f.2
def BC(i:Gl X "range")(j:X.mg "range"=b8)(hs:hW [a] X.env=[(cc,u7 a X.env)])(k:PA X [a] (Kj C ms)):PI X tg (.Call (.Name "range" p) [a] [] pos) (MX C .Kx ms):=by
 rintro pins s σ H R I ⟨c0,rfl,rfl,l,h⟩;show vM i j k hs pins s c0.σ c0.H R I (yC l h λrs c vs t w=>?_);rw[ah]at w;have⟨xs,g,w⟩:=bI.mp w;rw[aq]at w;have⟨x,rfl,hz⟩:=cq (f:=yl) g;clear g;have g:=hz;clear hz;have⟨v,rfl,n⟩:=t.one;unfold yl at g;split at g
 .split at g
  .rename_i q;cases g;show⟨_,by rw[n.int t.ok],⋯,⋯,w c _ t.hσ rfl t.ok t.nx t.Om sv⟩
  .cases g
 .cases g
def qC{k:Kd}{us:List U}{h:U}{a':d8}{w:Hp->List V->Prop}(G:∀f,Ok C f->Ns c f->lr [(k,h)] c f->bq [(k,h)] f.st->∃vs,w f.H vs/\au C (SK C f k) f.H us vs):Walk C c [(k,h)] (us.zipIdx.map λp=>(kE k,.tup [.int p.2,p.1])) (O_ w):=by
 intro f g n I hs;have⟨vs,j,y⟩:=G f g n I hs;show⟨λi r z=>?_,λi J=>⟨vs,j,by rw[<-y.len];simpa using J⟩⟩;rw[i8,eH]at z;have⟨p,A,rfl⟩:=z;rw[Tq,eH]at A;have⟨u,L,rfl⟩:=A;have⟨v,B,l⟩:=y.get L;show⟨yB k,⟨vs,v,j,B⟩,λx H' q=>?_⟩;have⟨p,N,rfl,q⟩:=q;have O:=q vs v j B;subst O;have⟨Q,t⟩:=g.lay (o:=.tup [.int i,v]) N;show⟨{f with H:=upd f.H p (.tup [.int i,v])},rfl,rfl,rfl,Q,t,aN.item ?_⟩;have D:au C (SK C f k) f.H [.int ((0+i:Nat):Int),u] [.int (i:Int),v]:=by
  rw[Qa];show⟨_,_,rfl,rfl,_,_,rfl,l,rfl⟩
 cases k<;>show⟨p,_,rfl,JI.of ax,by first|show D.mv (g.M' t)|show D.mv (g.mv t)⟩
def EA{es:List l0}{z:Nat}{ps:Pos}(k:C.K=X.K)(A:Gl X "enumerate")(B:X.mg "enumerate"=b8)(hs:hW [a] X.env=[(cc,u7 a X.env)])(D:PA X [a] (Kj C ms)):PI X (.Tuple es z ps) (.Call (.Name "enumerate" p) [a] [] pos) (MX C .Na ms):=by
 rintro pins s σ H R I ⟨c0,rfl,rfl,G,h⟩;show AY A B D hs pins s c0.σ c0.H R I (yC G h λrs c vs t w=>?_);rw[ah]at w;have⟨xs,i,w⟩:=bI.mp w;rw[aq]at w;have⟨x,rfl,hz⟩:=cq (f:=Eh) i;clear i;have i:=hz;clear hz;have⟨v,rfl,l⟩:=t.one;unfold Eh at i;split at i
 .cases i;have⟨a',ws,q,g,j⟩:=l.list t.ok;subst q;show⟨a',rfl,.inl ⟨⟨ws,k▸g⟩,w c _ t.hσ rfl t.ok t.nx t.Om ?_⟩⟩;show qC (a':=a') λJ r n u y=>?_;have⟨L,vs,e,g,j⟩:=(aN.walk t.ok n u y l).list r;cases e;show⟨vs,k▸g,j⟩
 .cases i;have⟨a',ws,q,g,j⟩:=l.tuple t.ok;subst q;rw[k]at g;show⟨a',rfl,.inr ⟨⟨ws,g⟩,w c _ t.hσ rfl t.ok t.nx t.Om ?_⟩⟩;show qC (a':=a') λJ r n u y=>?_;have⟨L,vs,e,g,j⟩:=(aN.walk t.ok n u y l).tuple r;cases e;rw[k]at g;show⟨vs,g,j⟩
 .cases i
def Ok.put(t:Ok C c)(n:Nx c0 c)(hi:i<c.σ.length)(hk:k=.own\/k=.loc\/k=.any)(Kk:Ok C c0)(h:aN C c0 c k u v):
  Ok C {c with σ:=c.σ.set i (a5 v),st:=c.st.set i (a5 (k,u))}/\Nx c0 {c with σ:=c.σ.set i (a5 v),st:=c.st.set i (a5 (k,u))}:=by
 have Kv:i<c.st.length:=by rw[t.len];show hi
 have Jn:∀(j:Nat) k' u',(c.st.set i (a5 (k,u)))[j]?=a5 (a5 (k',u'))->j≠i->c.st[j]?=a5 (a5 (k',u')):=λj k' u' e ne=>by rw[gc (nH ne)]at e;show e
 have K8:∀(j:Nat) D,(c.σ.set i (a5 v))[j]?=a5 (a5 D)->j≠i->c.σ[j]?=a5 (a5 D):=λj D e ne=>by rw[gc (nH ne)]at e;show e
 have sl:fW C c.S c.H k u v:=by
  rcases hk with rfl|rfl|rfl
  .have⟨r,e,G,O,y,Q⟩:=h;have⟨z0,z1,T,z3,z4⟩:=Kk.j5 G;show⟨r,e,O,T,z0,Q⟩
  .show h
  .show h
 have Oq:∀(j:Nat) k' u' r,k'.root=b6->(c.st.set i (a5 (k,u)))[j]?=a5 (a5 (k',u'))->(c.σ.set i (a5 v))[j]?=a5 (a5 (.ref r))->j=i/\k=.own/\v=.ref r\/j≠i/\c.st[j]?=a5 (a5 (k',u'))/\c.σ[j]?=a5 (a5 (.ref r)):=λj k' u' r I f g=>by
  by_cases l:j=i
  .subst l;rw[d4 Kv]at f;rw[d4 hi]at g;cases f;cases g;rcases hk with rfl|rfl|rfl
   .show .inl ⟨rfl,rfl,rfl⟩
   .cases I
   .cases I
  .show .inr ⟨l,Jn j k' u' f l,K8 j _ g l⟩
 have dD:∀(j:Nat) (u':U),(c.st.set i (a5 (k,u)))[j]?=a5 (a5 (.IL,u'))->c.st[j]?=a5 (a5 (.IL,u'))/\(c.σ.set i (a5 v))[j]?=c.σ[j]?:=λj u' e=>by
  by_cases l:j=i
  .subst l;rw[d4 Kv]at e;cases e;rcases hk with hk|hk|hk<;>cases hk
  .show⟨Jn j .IL u' e l,gc (nH l)⟩
 have b1:∀a,({c with σ:=c.σ.set i (a5 v),st:=c.st.set i (a5 (k,u))}:Cf).R1 a->c.R1 a\/k=.own/\v=.ref a:=λa Jd=>by
  have⟨j,k',u',I,f,g⟩:=Jd;rcases Oq j k' u' a I f g with⟨Y,w,x⟩|⟨Y,w,x⟩
  .show .inr ⟨w,x⟩
  .show .inl ⟨j,k',u',I,w,x⟩
 have Nh:L7 C {c with σ:=c.σ.set i (a5 v),st:=c.st.set i (a5 (k,u))}:=t.dd.of rfl dD (λa z=>(b1 a z).imp id λ⟨J,L⟩ j z'=>by
  subst J;obtain⟨A,e,_,_,y,_⟩:=h;rw[L]at e;cases e;show y (.inr ⟨j,z'⟩)) (.up λ_ z=>z) λj a z=>⟨(t.root (.inr ⟨j,z⟩)).1,λo q=>q⟩
 show⟨⟨t.same,t.KS,t.par,t.io,by simp[t.len],λj k' u' e=>?_,λj1 j2 k1 k2 u1 u2 r Ot Qr f g N e4=>?_,Nh⟩,⟨⟨n.keep,n.there,λa z=>?_,n.sub,n.new⟩,λa ⟨j,u',A,f,g,N⟩=>let ⟨J,L⟩:=dD j u' f;n.dk a ⟨j,u',A,J,L▸g,N⟩⟩⟩
 .by_cases l:j=i
  .subst l;rw[d4 Kv]at e;cases e;show⟨v,by rw[d4 hi],sl⟩
  .have⟨D,f,g⟩:=t.sl j k' u' (Jn j k' u' e l);show⟨D,by rw[gc (nH l)];show f,g⟩
 .have z1:=Oq j1 k1 u1 r Ot f N;have T:=Oq j2 k2 u2 r Qr g e4;rcases z1 with⟨Y,w,x⟩|⟨Y,w,x⟩
  .rcases T with⟨b1,B,b3⟩|⟨b1,B,b3⟩
   .show Y.trans b1.symm
   .subst w;have⟨A,e,G,O,y,Q⟩:=h;rw[x]at e;cases e;show(y (.inl ⟨j2,k2,u2,Qr,B,b3⟩)).elim
  .rcases T with⟨b1,B,b3⟩|⟨b1,B,b3⟩
   .subst B;have⟨A,e,G,O,y,Q⟩:=h;rw[b3]at e;cases e;show(y (.inl ⟨j1,k1,u1,Ot,w,x⟩)).elim
   .show t.inj j1 j2 k1 k2 u1 u2 r Ot Qr w B x b3
 .rcases z with z|⟨j,u',A,f,g,N⟩
  .rcases b1 a z with z|⟨w,x⟩
   .show n.roots a (.inl z)
   .subst w;have⟨A,e,G,O,y,Q⟩:=h;rw[x]at e;cases e;show .inr G
  .have⟨J,L⟩:=dD j u' f;show n.roots a (.inr ⟨j,u',A,J,L▸g,N⟩)
def pb(z:Ok C c0)(q:Ok C c)(n:Nx c0 c)(A:i<c.σ.length)(t:aN C c0 c r.1 r.2 v)(h:W (dR i r) c.st Post):
  ∃y,y.σ=c.σ.set i (a5 v)/\y.H=c.H/\Ok C y/\Nx c0 y/\Post () y.st:=by
 have⟨k,u⟩:=r;cases k with
 |own =>
  have⟨x,st',e,f⟩:=h;cases e;have⟨g,l⟩:=q.put n A (.inl rfl) z t;show⟨{c with σ:=c.σ.set i (a5 v),st:=c.st.set i (a5 (.own,u))},rfl,rfl,g,l,f⟩
 |loc =>
  have⟨x,st',e,f⟩:=h;cases e;have⟨g,l⟩:=q.put n A (.inr (.inl rfl)) z t;show⟨{c with σ:=c.σ.set i (a5 v),st:=c.st.set i (a5 (.loc,u))},rfl,rfl,g,l,f⟩
 |any =>
  have⟨x,st',e,f⟩:=h;cases e;have⟨g,l⟩:=q.put n A (.inr (.inr rfl)) z t;show⟨{c with σ:=c.σ.set i (a5 v),st:=c.st.set i (a5 (.any,u))},rfl,rfl,g,l,f⟩
 |bor j =>
  have⟨x,st',e,f⟩:=h;rw[show dR i (.bor j,u) c.st=match c.st[j]? with|some (a5 (.own,u))=>a5 (Ex.ok (),(c.st.set j (a5 (.loc,u))).set i (a5 (.loc,u)))|_=>b8 from rfl]at e;split at e
  .rename_i w D;cases e;obtain⟨O,G,r,J,_⟩:=q.sl j _ _ D;have I:c.σ[j]?=a5 (a5 v):=t.2;rw[I]at G;cases G;subst J;have⟨L,N,B⟩:=q.yw n D I;have⟨g,l⟩:=Ok.put (c:={c with S:=λa=>c.S a\/a=r,st:=c.st.set j (a5 (.loc,w))}) L N (k:=.loc) (u:=w) (v:=.ref r) A (.inr (.inl rfl)) z B;show⟨{S:=λa=>c.S a\/a=r,H:=c.H,σ:=c.σ.set i (a5 (.ref r)),st:=(c.st.set j (a5 (.loc,w))).set i (a5 (.loc,w)),kid:=c.kid},rfl,rfl,g,l,f⟩
  .cases e
 |_=>show t.elim
end
section
abbrev tG(C:Ct)(t:Bool)(is:List Nat):TG:=λv σ H Q=>∃c0 c r,c.σ=σ/\c.H=H/\Ok C c0/\Ok C c/\Nx c0 c/\aN C c0 c r.1 r.2 v/\W (dy t is r) c.st λ_ st' =>
 ∀a,a.st=st'->Ok C a->Nx c0 a->(∀j,j∉is->a.σ[j]?=c.σ[j]?)->a.σ.length=c.σ.length->Q a.σ a.H
structure sy(X:Cx)(e:l0)(i:Nat):Prop where
 is:∃x pos,e=.Name x pos/\X.N[i]?=a5 x/\Loc X.env.scope x/\(X.fn x=b6\/X.env.scope.names.lookup x=a5 .local)
def EB(g:X.N.Nodup)(h:sy X e i):PG X e (tG C cc [i]):=by
 have⟨x,pos,rfl,f,k,l⟩:=h.is;rintro a s σ H v u Q I rv ⟨c0,c,r,rfl,rfl,m,o,n,b,w⟩;have p:i<c.σ.length:=by rw[I.len];show(dt.mp f).1
 have⟨t,d,y,A,B,q⟩:=pb (r:=r) m o n p b w;show tX g f k l a s c.σ c.H v u Q I rv ?_;have z:=q t rfl A B (λj D=>by rw[d,gc (by intro z;show D (by simp[z]))]) (by rw[d];simp);rw[d,y]at z;show z
abbrev T7:List Nat->OW
 |[]=>FG
 |i::is=>CH (tW i) (T7 is)
inductive fu(X:Cx):List l0->List Nat->Prop where
 |nil:fu X [] []
 |cons {e:l0} {es:List l0} {i:Nat} {is:List Nat} (h:sy X e i) (t:fu X es is):fu X (e::es) (i::is)
def wy(a:X.N.Nodup)(h:fu X es is):Pz X es (T7 is):=by
 induction h with
 |nil=>show Aw
 |cons h t b =>
  have⟨x,pos,rfl,c,d,e⟩:=h.is;show xj (tX a c d e) b rfl
def sA(h:fu X es is):(P' es X.env).length=is.length/\(P' es X.env).findIdx? (·.1)=b8:=by
 induction h with
 |nil=>show⟨rfl,rfl⟩
 |cons h t a =>
  have⟨x,pos,rfl,b,c,d⟩:=h.is;show⟨?_,?_⟩
  .change(_::_).length=_;simp[a.1]
  .change XT _ (_::_)=b8;rw[List.findIdx?_cons,Ľ (by simp),a.2];rfl
theorem uL(hk:kE k=k)(g:Ok C c0):∀{is:List Nat}{us:List U}{vs:List V}{c:Cf}{Post:Unit->aw->Prop}{Q:L2.St->Hp->Prop},Ok C c->Nx c0 c->(∀i∈is,i<c.σ.length)->au C (SK C c k) c.H us vs->W (sets is (us.map λu=>(k,u))) c.st Post ->
  (∀b,Post () b.st->Ok C b->Nx c0 b->(∀j,j∉is->b.σ[j]?=c.σ[j]?)->b.σ.length=c.σ.length->Q b.σ b.H)->T7 is vs c.σ c.H Q
 |[],[],vs,c,Post,Q,ok,n,d,a,w,q=>by
  rw[show sets [] (Sl (λu=>(k,u)) [])=pure () from rfl,aq]at w;show⟨a,q c w ok n (λ_ _=>rfl) rfl⟩
 |[],u::us,vs,c,Post,Q,ok,n,d,a,w,q=>(bp.mp w).elim
 |i::is,[],vs,c,Post,Q,ok,n,d,a,w,q=>(bp.mp w).elim
 |i::is,u::us,vs,c,Post,Q,ok,n,d,a,w,q=>by
  rw[show sets (i::is) (Sl (λu=>(k,u)) (u::us))=dR i (k,u) >>= λ_=>sets is (us.map λu=>(k,u)) from rfl,ah]at w;have⟨v,r,rfl,h,l⟩:=a;have m:k=.own\/k=.loc\/k=.any:=by cases k<;>simp[kE]at hk<;>simp
  have B:k≠.own:=by cases k<;>simp[kE]at hk<;>simp
  have rt:aN C c0 c k u v:=by rw[<-hk];show aN.item h
  have⟨o,s⟩:=ok.put n (d i (by simp)) m g rt;have es:dR i (k,u)=λst=>a5 (.ok (),st.set i (a5 (k,u))):=by cases k<;>simp[kE]at hk<;>rfl
  obtain⟨_,st',e,t⟩:=w;rw[es]at e;cases e;show⟨v,r,rfl,uL (c:={c with σ:=c.σ.set i (a5 v),st:=c.st.set i (a5 (k,u))}) hk g o s (λj f=>by simpa using d j (by simp[f])) (by cases k<;>show l) t λb p x y A hl=>?_⟩;show q b p x y (λj f=>?_) (by rw[hl];simp);rw[A j (λz=>f (by simp[z])),gc (λz=>f (by simp[z]))]
def Gm(m:X.calm=b6)(o:C.K=X.K)(q:X.N.Nodup)(h:fu X es is)(hl:∀i∈is,i<X.N.length):PG X (.Tuple es Y pos) (tG C b6 is):=by
 rintro a s σ H v u Q I rv ⟨c0,c,r,rfl,rfl,t,f,n,d,w⟩;have⟨y,z⟩:=sA h;show Dw m (wy q h) y z a s c.σ c.H v u Q I rv ?_;have⟨k,A⟩:=r;cases A with
 |tup us =>
  rw[show dy b6 is (k,.tup us)=sets is (us.map λu=>(kE k,u)) from by cases is<;>rfl]at w;have⟨a',vs,rfl,g,j⟩:=d.tuple f;rw[o]at g;have b:us.length=is.length:=by
   have e:∀(is:List Nat) (l:List (Kd×U)) (st:aw) (P:Unit->aw->Prop),W (sets is l) st P->l.length=is.length:=by
    intro is;induction is with
    |nil=>intro l st P w;cases l with
     |nil=>rfl
     |cons _ _=>show(bp.mp w).elim
    |cons i is B=>intro l st P w;cases l with
     |nil=>show(bp.mp w).elim
     |cons x l =>
      rw[show sets (i::is) (x::l)=dR i x >>= λ_=>sets is l from rfl,ah]at w;obtain⟨_,_,_,w⟩:=w;rw[ke,ke,B l _ _ w]
   simpa using e _ _ _ _ w
  show⟨a',vs,rfl,g,by rw[<-j.len,b],?_⟩;show uL (k:=kE k) (by cases k<;>rfl) t f n (λi D=>by rw[I.len];show hl i D) (by cases k<;>show j) w λG p J L O T=>p G rfl J L O T
 |_=>cases is<;>show(bp.mp w).elim
end
section
variable{X:Cx}{C:Ct}{pins:List (d8×Obj)}{s:d5}{c0 c c1:Cf}
variable{a b d e o tg iter elt:l0}{es ifs:List l0}{m ma mb md me:M (Kd×U)}{ms:M (List (Kd×U))}{ta tb tc:M Bool}{pos p p2 apos G':Pos}
def wz{m:M α}{st:aw}{Q:α->aw->Prop}:W (inScope k m) st Q↔W m (i2 k b8++st) λa st'=>Q a (st'.drop k):=by
 constructor
 .rintro⟨a,st',e,h⟩;unfold inScope at e;cases q:m (i2 k b8++st) with
  |none=>rw[q]at e;cases e
  |some r=>have⟨g,f⟩:=r;rw[q]at e;cases e;show⟨a,f,q,h⟩
 .rintro⟨a,st',e,h⟩;show⟨a,st'.drop k,by unfold inScope;rw[e],h⟩
abbrev Cf.ext(k:Nat)(c:Cf):Cf:={c with σ:=i2 k b8++c.σ,st:=i2 k b8++c.st,kid:=λj=>c.kid (j - k)}
abbrev Cf.cut(k:Nat)(c:Cf):Cf:={c with σ:=c.σ.drop k,st:=c.st.drop k,kid:=λj=>c.kid (k+j)}
def gB(h:(i2 k b8++l)[j]?=a5 (a5 x)):∃i,j=k+i/\l[i]?=a5 (a5 x):=by
 by_cases f:j<k
 .rw[uc (by simpa using f)]at h;rw[J7]at h;rw[ļ f]at h;cases h
 .show⟨j - k,⋯,?_⟩;rw[qk (by simp;lia)]at h;simpa using h
def fw:(i2 k b8++l)[k+i]?=l[i]?:=by
 rw[qk (by simp)];simp
def yD:(c.ext k).R1 r↔c.R1 r:=by
 constructor
 .rintro⟨j,g,u,h,l,f⟩;have⟨i,rfl,e⟩:=gB l;rw[Cf.ext,fw]at f;show⟨i,g,u,h,e,f⟩
 .rintro⟨i,g,u,h,l,f⟩;show⟨k+i,g,u,h,by rw[Cf.ext,fw];show l,by rw[Cf.ext,fw];show f⟩
def lu{a:d8}(h:(c.ext k).RD j a):∃i,j=k+i/\c.RD i a:=by
 have⟨u,r,l,f,g⟩:=h;have⟨i,rfl,e⟩:=gB l;rw[Cf.ext,fw]at f;show⟨i,rfl,u,r,e,f,?_⟩;have:(c.ext k).kid (k+i)=c.kid i:=by change c.kid (k+i - k)=_;rw[Yk]
 rw[this]at g;show g
def Gn(h:(c.ext k).R r):c.R r:=by
 rcases h with h|⟨j,h⟩
 .show .inl (yD.mp h)
 .obtain⟨i,_,h⟩:=lu h;show .inr ⟨i,h⟩
def Ok.ext(k:Nat)(f:Ok C c):Ok C (c.ext k)/\Nx c (c.ext k):=by
 show⟨⟨f.same,f.KS,f.par,f.io,by simp[Cf.ext,f.len],λj D u e=>?_,λi j k1 k2 u u' r G H l g A B=>?_,⟨λj u r l g=>?_,λi j a n q=>?_,λj a n q=>?_⟩⟩,⟨⟨λ_ _ h _=>h,λ_ o h=>⟨o,h⟩,λa h=>.inl (Gn h),λ_ h=>h,λ_ h=>.inl h⟩,λa ⟨j,z⟩=>let ⟨i,_,y⟩:=lu z;⟨⟨i,y⟩,λ_ e=>e⟩⟩⟩
 .have⟨i,rfl,I⟩:=gB e;have⟨v,l,g⟩:=f.sl i D u I;show⟨v,by rw[Cf.ext,fw];show l,g⟩
 .have⟨t,rfl,J⟩:=gB l;have⟨w,rfl,L⟩:=gB g;rw[Cf.ext,fw]at A B;rw[f.inj t w k1 k2 u u' r G H J L A B]
 .have⟨i,rfl,e⟩:=gB l;rw[Cf.ext,fw]at g;have:(c.ext k).kid (k+i)=c.kid i:=by change c.kid (k+i - k)=_;rw[Yk]
  rw[this];show f.dd.kd i u r e g
 .have⟨t,rfl,x⟩:=lu n;have⟨w,rfl,N⟩:=lu q;rw[f.dd.dj t w a x N]
 .have⟨i,rfl,x⟩:=lu n;show f.dd.d1 i a x (yD.mp q)
def yE{a:d8}(h:(c.cut k).R1 a):c.R1 a:=by
 have⟨j,i,u,l,f,g⟩:=h;rw[Cf.cut,KX]at f g;show⟨k+j,i,u,l,f,g⟩
def lx{a:d8}(h:(c.cut k).RD j a):c.RD (k+j) a:=by
 have⟨u,r,f,g,i⟩:=h;rw[Cf.cut,KX]at f g;show⟨u,r,f,g,i⟩
def Ok.cut(k:Nat)(f:Ok C c):Ok C (c.cut k)/\Nx c (c.cut k):=by
 show⟨⟨f.same,f.KS,f.par,f.io,by simp[Cf.cut,f.len],λj x u e=>?_,λi j k1 k2 u u' r y A g l t w=>?_,⟨λj u r g l=>?_,λi j a n q=>?_,λj a n q=>f.dd.d1 _ a (lx n) (yE q)⟩⟩,⟨⟨λ_ _ h _=>h,λ_ o h=>⟨o,h⟩,λa h=>.inl (h.elim (λz=>.inl (yE z)) λ⟨j,z⟩=>.inr ⟨k+j,lx z⟩),λ_ h=>h,λ_ h=>.inl h⟩,λa ⟨j,z⟩=>⟨⟨_,lx z⟩,λ_ e=>e⟩⟩⟩
 .rw[Cf.cut,KX]at e;have⟨v,g,l⟩:=f.sl _ x u e;show⟨v,by rw[Cf.cut,KX];show g,l⟩
 .rw[Cf.cut,KX]at g l t w;have:=f.inj _ _ k1 k2 u u' r y A g l t w;lia
 .rw[Cf.cut,KX]at g l;show f.dd.kd _ u r g l
 .have:=f.dd.dj _ _ a (lx n) (lx q);lia
def BD(h:∀j,j∉gs k->g[j]?=(i2 k b8++σ)[j]?)(hl:g.length=(i2 k (b8:Option V)++σ).length):∃f:L2.St,f.length=k/\g=f++σ:=by
 show⟨g.take k,by rw[vu,hl];simp,?_⟩;apply Æ;intro j;by_cases i:j<k
 .rw[uc (by rw[vu,hl];simp;lia),List.getElem?_take,ļ i]
 .rw[h j (by simpa using i),qk (by simp;lia),qk (by rw[vu,hl];simp;lia)];congr 1
  rw[vu,hl];simp
def ng(e1:c1.σ=c0.σ)(IY:Ok C c1)(n1:Nx c0 c1)(hw:Walk C c1 rs xs J)(h3:W (bJ k t tc me rs xs []) c1.st λus st'=>W (pure (Kd.own,U.lst us)) st' (bZ C c0 Q)):
  ud k J (tG C t (gs k)) (Ka C tc) (IX C me) Q c0.σ c1.H:=by
 show⟨λi m ys H=>∃c acc,c.H=H/\c.σ=c0.σ/\Ok C c/\Nx c1 c/\m=xs.length - i/\i<=xs.length/\au C c.S c.H acc ys/\acc.length<=cL/\W (bJ k t tc me rs (xs.drop i) acc) c.st λus st'=>W (pure (Kd.own,U.lst us)) st' (bZ C c0 Q),⟨xs.length,c1,[],rfl,e1,IY,Nx.refl c1,by simp,i5 _,rfl,i5 _,by simpa using h3⟩,?_⟩;rintro i m ys H ⟨c,acc,rfl,D,q,y,rfl,hi,g,h,w⟩;show⟨by rw[<-g.len];show h,?_⟩;have f:lr rs c1 c:=λj u _=>by rw[D,e1]
 by_cases G:i<xs.length
 .right
  rw[Xs G]at w;rw[show bJ k t tc me rs (xs[i]::xs.drop (i+1)) acc=aA rs >>= λ_=>inScope k (dy t (gs k) xs[i] >>= λ_=>tc >>= λb=>if b=b6 then(me >>= λr=>lift r >>= λu=>pure (a5 u)) else pure b8) >>= λr=>match r with|some u=>if acc.length<cL then bJ k t tc me rs (xs.drop (i+1)) (acc++[u]) else M.fail|none=>bJ k t tc me rs (xs.drop (i+1)) acc from rfl,ah,cE]at w;have⟨ME,w⟩:=w;obtain⟨I,_⟩:=hw c q y f ME;have⟨T8,Pk,T9⟩:=I i xs[i] (by simp[G]);show⟨Pk,λKQ H'=>∃c acc,c.H=H'/\c.σ=c0.σ/\Ok C c/\Nx c1 c/\au C c.S c.H acc KQ/\acc.length<=cL/\W (bJ k t tc me rs (xs.drop (i+1)) acc) c.st λus st'=>W (pure (Kd.own,U.lst us)) st' (bZ C c0 Q),λKQ H' ⟨c',JP,z1,z2,z3,z4,z5,z6,z7⟩=>⟨xs.length - (i+1),⋯,c',JP,z1,z2,z3,z4,rfl,G,z5,z6,z7⟩,λx H' hy=>?_⟩;have⟨l,rfl,e4,e5,Jm,n2,rt⟩:=T9 x H' hy;rw[ah,wz,ah]at w;have⟨Rv,nx⟩:=Jm.ext k;have X9:aN C (l.ext k) (l.ext k) xs[i].1 xs[i].2 x:=by
   rcases T8 with z|z
   .rw[z]at rt ⊢;show rt
   .rw[z]at rt ⊢;show rt
  have eσ:(l.ext k).σ=i2 k b8++c0.σ:=by rw[Cf.ext];change i2 k b8++l.σ=_;rw[e4,D]
  show⟨l.ext k,l.ext k,xs[i],eσ,rfl,Rv,Rv,Nx.refl _,X9,?_⟩;have T_:(l.ext k).st=i2 k b8++c.st:=by rw[Cf.ext];change i2 k b8++l.st=_;rw[e5]
  rw[T_];show w.mono λ_ Jx w3 c3 e6 LA n3 Qu Pl=>?_;subst e6;rw[eσ]at Qu Pl;have⟨L,N,O⟩:=BD Qu Pl;show⟨L,N,O,?_⟩;have VP:Nx c c3:=(n2.trans nx).trans n3;rw[ah]at w3;show⟨c3,rfl,rfl,LA,w3.mono λb O3 n B e7 e8 T n4=>?_⟩;subst e8;cases b with
  |false =>
   rw[Ľ i3]at n ⊢;rw[aq]at n;have⟨Y,nk⟩:=T.cut k;have nn:Nx c (B.cut k):=(VP.trans n4).trans nk;show⟨B.cut k,acc,rfl,?_,Y,y.trans nn,g.mv (q.mv nn),h,n⟩;change B.σ.drop k=_;rw[e7,O,VL N]
  |true =>
   rw[ļ rfl]at n ⊢;rw[ah]at n;show⟨B,e7,rfl,T,n.mono λr Mb w5 c5 v e9 X_ Ya n5 Yb=>?_⟩;subst X_;rw[ah]at w5;obtain⟨S',st',u,sS,Yc,n6,Ub,A,_,_⟩:=iO T Ya n5 Yb.w w5;rw[aq]at A
   dsimp only at A
   split at A
   .rename_i hz;have⟨Y,nk⟩:=Yc.cut k;have nn:Nx c (Cf.cut k {c5 with S:=S',st:=st' }):=((VP.trans n4).trans n6).trans nk;show⟨Cf.cut k {c5 with S:=S',st:=st' },acc++[u],rfl,?_,Y,y.trans nn,(g.mv (q.mv nn)).snoc Ub,by rw[hY];show hz,A⟩;change c5.σ.drop k=_;rw[e9,O,VL N]
   .show(bp.mp A).elim
 .left
  have Kv:i=xs.length:=by lia
  subst Kv;rw[Í,show bJ k t tc me rs [] acc=aA rs >>= λ_=>pure acc from rfl,ah,cE,aq,aq]at w;obtain⟨_,I⟩:=hw c q y f w.1;show⟨I _ (hU _),λp hp=>bZ.list w.2 D q (n1.trans y) g p hp⟩
def nh(l:Ok C c0)
  (h:W (ms >>= λrs=>aA rs >>= λ_=>M.Jf (KI ik rs) >>= λxs=>bJ k t tc me rs xs [] >>= λus=>pure (Kd.own,U.lst us)) c0.st (bZ C c0 Q)) :
  xJ k (MX C ik ms) (tG C t (gs k)) (Ka C tc) (IX C me) c0.σ c0.H Q:=by
 rw[ah]at h;show⟨c0,rfl,rfl,l,?_⟩;rw[ah];show h.mono λrs st1 f=>?_;rw[ah,cE]at f ⊢;show⟨f.1,?_⟩;have g:=f.2;rw[ah]at g ⊢;show g.mono λxs st2 i=>?_;rw[aq];intro c1 J n q r u v j;rw[ah]at i;subst q
 dsimp only at v j
 show ng n r u j i
def yF(S:dN X N own scope)(f:X.calm=b6)(g:PI X tg iter (MX C ik ms))
  (i:∀D s H ex,PG (J0 X N scope D s H ex) tg (tG C t (gs own.length))) (j:∀D s H ex,MQ (J0 X N scope D s H ex) ifs (Ka C tc)) (k:∀D s H ex,PE (J0 X N scope D s H ex) elt (IX C me))
  (hs:∀x,LF iter X.env x=pure x) :
  PE X (.ListComp elt [⟨tg,iter,ifs,0⟩] scope pos) (IX C (ms >>= λrs=>aA rs >>= λ_=>M.Jf (KI ik rs) >>= λxs=>bJ own.length t tc me rs xs [] >>= λus=>pure (.own,.lst us))):=by
 show PE.weak (ue S f g i j k hs) ?_;rintro σ H Q ⟨c0,rfl,rfl,l,h⟩;show nh l h
end
section
variable{a b d e o tg iter elt:l0}{es ifs:List l0}{m ma mb md me:M (Kd×U)}{ms:M (List (Kd×U))}{ta tb tc:M Bool}{pos p p2 apos G':Pos}{st:LS}{rest body:List LS}{f g mm:M Fl}{ns Kg:Nat->Bool}
def EC(C:Ct)(c:Cf):Kd->U->V->Prop
 |.own,u,v=>∃r,v=.ref r/\C.H₀ r=b8/\¬c.S r/\¬c.R r/\cU C c.S c.H r u
 |.loc,u,v=>Rep C c.S c.H u v
 |.any,u,v=>Rep C (PS C c.S) c.H u v
 |_,_,_=>False
def Ir(C:Ct)(Q:VK)(c:Cf):Kd->U->Prop
 |.io,u=>C.xw u c.H
 |k,u=>∀v,EC C c k u v->Q v c.H
abbrev Fin(C:Ct)(D:Ends)(f:Fl)(c:Cf):Prop:=match f with
 |.nx=>D.nx c.σ c.H
 |.bk=>D.bk c.σ c.H
 |.ct=>D.ct c.σ c.H
 |.rt k u=>Ir C D.rt c k u
abbrev Kept(ns:Nat->Bool)(c h:Cf):Prop:=(∀j,ns j=b6->h.σ[j]?=c.σ[j]?)/\h.σ.length=c.σ.length
def Kept.refl:Kept ns c c:=⟨λ_ _=>rfl,rfl⟩
def Kept.trans(h:Kept ns c i)(h':Kept ns i k):Kept ns c k:=⟨λj z=>(h'.1 j z).trans (h.1 j z),h'.2.trans h.2⟩
def Kept.le(i:∀j,Kg j=b6->ns j=b6)(h:Kept ns c k):Kept Kg c k:=⟨λj z=>h.1 j (i j z),h.2⟩
def Kept.of(h:i.σ=c.σ):Kept ns c i:=⟨λj z=>by rw[h],by rw[h]⟩
abbrev fG(C:Ct)(c0:Cf)(ns:Nat->Bool)(D:Ends)(f:Fl)(st':aw):Prop:=∀c,c.st=st'->Ok C c->Ns c0 c->Kept ns c0 c->Fin C D f c
abbrev JH(C:Ct)(ns:Nat->Bool)(m:M Fl):TS:=λD σ H=>∃c0:Cf,c0.σ=σ/\c0.H=H/\Ok C c0/\W m c0.st (fG C c0 ns D)
def sC(c:Ok C c1)(n:Ns c0 c1)(k:Kept ns c0 c1)(h:W mm c1.st (fG C c0 ns D)):JH C ns mm D c1.σ c1.H :=
 ⟨c1,rfl,rfl,c,h.mono λf st i j e l q k2=>i j e l (n.trans q) (k.trans k2)⟩
def PS.weak(h:L2.PS X st t)(i:∀D σ H,t' D σ H->t D σ H):L2.PS X st t':=λc s σ H D I q=>h c s σ H D I (i D σ H q)
def J8.weak(h:J8 X rest t)(i:∀D σ H,t' D σ H->t D σ H):J8 X rest t':=λc s σ H D I q=>h c s σ H D I (i D σ H q)
def pd(i:∀j,Kg j=b6->ns j=b6)(h:JH C Kg mm D σ H):JH C ns mm D σ H :=
 let ⟨c0,c,k,l,w⟩:=h;⟨c0,c,k,l,w.mono λf st n q e r s k2=>n q e r s (k2.le i)⟩
def Gp:J8 X [] (JH C ns (pure .nx)):=by
 show J8.weak tV ?_;rintro D σ H ⟨c0,rfl,rfl,c,h⟩;rw[aq]at h;show h c0 rfl c (Ns.refl c0) Kept.refl
abbrev BE(m:M Fl)(f:Fl):M Fl:=match f with
 |.nx=>m
 |f=>pure f
def ED(j:L2.PS X st (JH C ns f))(l:J8 X rest (JH C ns g)):J8 X (st::rest) (JH C ns (f >>= BE g)):=by
 show J8.weak (pR j l) ?_;rintro D σ H ⟨c0,rfl,rfl,n,h⟩;rw[ah]at h;show⟨c0,rfl,rfl,n,h.mono λq st1 w c1 e c i k1=>?_⟩;subst e;cases q with
 |nx=>show sC c i k1 w
 |bk=>rw[show BE g .bk=pure .bk from rfl,aq]at w;show w c1 rfl c i k1
 |ct=>rw[show BE g .ct=pure .ct from rfl,aq]at w;show w c1 rfl c i k1
 |rt k u=>rw[show BE g (.rt k u)=pure (.rt k u) from rfl,aq]at w;show w c1 rfl c i k1
def Gq(i:PE X a (IX C ma))(hs:OT a b8 pos.line X.env=pure cc):L2.PS X (.Expr a pos) (JH C ns (ma >>= λ_=>pure .nx)):=by
 show PS.weak (kb i hs) ?_;rintro D σ H ⟨c0,rfl,rfl,j,h⟩;show aM j h λx c v t w=>?_;rw[aq]at w;have:=w c rfl t.ok t.nx (Kept.of t.hσ);rw[<-t.hσ];show this
def EF:L2.PS X (.Return b8 pos) (JH C ns (pure (.rt .loc .IV))):=by
 show PS.weak Av ?_;rintro D σ H ⟨c0,rfl,rfl,c,h⟩;rw[aq]at h;show h c0 rfl c (Ns.refl c0) Kept.refl .IV rfl
def yG(ok:Ok C c0)(t:Lx C c0 c x v)(w:W (retS x) c.st (fG C c0 ns D)):D.rt v c.H:=by
 have⟨k,u⟩:=x;have⟨G,l,n,r⟩:=t;cases k with
 |own =>
  rw[show retS (.own,u)=pure (.rt .own u) from rfl,aq]at w;have⟨B,e,h1,h2,h3,h4⟩:=r;show w c rfl l n (Kept.of G) v ⟨B,e,(ok.j5 h1).1,h2,h3,h4⟩
 |loc =>
  rw[show retS (.loc,u)=pure (.rt .loc u) from rfl,aq]at w;show w c rfl l n (Kept.of G) v r
 |any =>
  rw[show retS (.any,u)=if Jo u=b6 then pure (.rt .loc u) else pure (.rt .any u) from rfl]at w;split at w
  .rw[aq]at w;show w c rfl l n (Kept.of G) v (Rep.Jo (by assumption) r)
  .rw[aq]at w;show w c rfl l n (Kept.of G) v r
 |bor j =>
  have⟨fl,st',e,w⟩:=w;rw[show retS (.bor j,u) c.st=match c.st[j]? with|some (a5 (.own,u))=>a5 (Ex.ok (Fl.rt .own u),c.st.set j b8)|_=>b8 from rfl]at e;split at e
  .rename_i u' J;cases e;have MD:j<c.st.length:=(dt.mp J).1;have A:∀(i:Nat) k u',(c.st.set j b8)[i]?=a5 (a5 (k,u'))->i≠j/\c.st[i]?=a5 (a5 (k,u')):=λi k u' e=>by
    by_cases L:i=j
    .subst L;rw[d4 MD]at e;cases e
    .rw[gc (nH L)]at e;show⟨L,e⟩
   have⟨v',s,B,er,q1,q2,q3,q4⟩:=l.sl j _ _ J;have N:c.σ[j]?=a5 (a5 v):=r.2;rw[N]at s;cases s;subst er;have Q:∀a,({c with st:=c.st.set j b8}:Cf).R1 a->c.R1 a:=λa ⟨i,k,h,hk,s,y⟩=>⟨i,k,h,hk,(A i k h s).2,y⟩
   have hR:∀a,({c with st:=c.st.set j b8}:Cf).R a->c.R a:=λa z=>z.elim (λz=>.inl (Q a z)) λ⟨i,h,O,s,y,I⟩=>.inr ⟨i,h,O,(A i .IL h s).2,y,I⟩;have Nh:L7 C {c with st:=c.st.set j b8}:=l.dd.of rfl (λi h e=>⟨(A i .IL h e).2,rfl⟩) (λa z=>.inl (Q a z)) (.up λ_ z=>z) λi a z=>⟨(l.root (.inr ⟨i,z⟩)).1,λo q=>q⟩
   have Yd:Ok C {c with st:=c.st.set j b8}:=⟨l.same,l.KS,l.par,l.io,by simp[l.len],λi k h e=>l.sl i k h (A i k h e).2,λi T k k' Y h r hk JE s y I e4=>l.inj i T k k' Y h r hk JE (A i k Y s).2 (A T k' h y).2 I e4,Nh⟩
   have nn:Ns c0 {c with st:=c.st.set j b8}:=⟨n.keep,n.there,λa z=>n.roots a (hR a z),n.sub,n.new⟩
   show w {c with st:=c.st.set j b8} rfl Yd nn (Kept.of G) (.ref B) ⟨B,rfl,q3,q1,λz=>?_,q4⟩
   .rcases z with⟨i,k,h,hk,s,y⟩|⟨i,h,O,s,y,I⟩
    .have⟨ne,JT⟩:=A i k h s;show ne (l.inj i j k .own h _ B hk rfl JT J y N)
    .show l.dd.d1 i B ⟨h,O,(A i .IL h s).2,y,I⟩ ⟨j,.own,_,rfl,J,N⟩
  .cases e
 |_=>show r.elim
def Gr(j:PE X a (IX C ma)):L2.PS X (.Return (a5 a) pos) (JH C ns (ma >>= retS)):=by
 show PS.weak (xh j) ?_;rintro D σ H ⟨c0,rfl,rfl,i,h⟩;show aM i h λx c v t w=>yG i t w
end
section
def iT(e:∀j,ns j=b6->j≠i)(f:Ok C c0)(t:Lx C c0 c r v)(g:i<c.σ.length)(w:W (dR i r >>= λ_=>(pure .nx:M Fl)) c.st (fG C c0 ns D)):D.nx (c0.σ.set i (a5 v)) c.H:=by
 rw[ah]at w;have⟨a,b,h,k,l,q⟩:=pb (r:=r) f t.ok t.nx g t.rx w;rw[aq]at q;have z:=q a rfl k l ⟨λj m=>by rw[b,t.hσ,gc (nH (e j m))],by rw[b,t.hσ];simp⟩;have d:D.nx a.σ a.H:=z;rw[b,h,t.hσ]at d;show d
def CO(f:∀j,ns j=b6->j≠i)(g:X.N.Nodup)(d:X.N[i]?=a5 x)(k:Loc X.env.scope x)(l:X.fn x=b6\/X.env.scope.names.lookup x=a5 .local)(m:PE X a (IX C n))
  (hs:OT a (a5 (.Name x pos')) pos.line X.env=pure cc):L2.PS X (.Assign [.Name x pos'] a pos) (JH C ns (n >>= λr=>dR i r >>= λ_=>pure .nx)):=by
 rintro b s σ H D I ⟨c0,rfl,rfl,e,h⟩;have o:i<c0.σ.length:=by rw[I.len];show(dt.mp d).1
 show rK g d k m hs l b s c0.σ c0.H D I (aM e h λr c v t w=>iT f e t (by rw[t.hσ];show o) w)
def EG(l:∀j,ns j=b6->j≠i)(S:dN X N own scope)(m:X.calm=b6)(o:X.N.Nodup)(f:X.N[i]?=a5 y)(p:X.env.scope.names.lookup y=a5 .local)
  (q:PI X e a (MX C ik ms)) (u:∀D s H ex,PG (J0 X N scope D s H ex) e (tG C t (gs own.length))) (z:∀D s H ex,MQ (J0 X N scope D s H ex) b (Ka C A)) (B:∀D s H ex,PE (J0 X N scope D s H ex) elt (IX C G))
  (J:OT (.ListComp elt [⟨e,a,b,0⟩] scope pos) (a5 (.Name y L)) O.line X.env=pure b6) (hs:∀x,LF a X.env x=pure x) :
  L2.PS X (.Assign [.Name y L] (.ListComp elt [⟨e,a,b,0⟩] scope pos) O)
   (JH C ns ((ms >>= λrs=>aA rs >>= λ_=>M.Jf (KI ik rs) >>= λxs=>bJ own.length t A G rs xs [] >>= λus=>pure (.own,.lst us)) >>= λr=>dR i r >>= λ_=>pure .nx)):=by
 rintro d s σ H D I ⟨c0,rfl,rfl,g,h⟩;have Q:i<c0.σ.length:=by rw[I.len];show(dt.mp f).1
 show AR S m o f p q u z B J hs d s c0.σ c0.H D I ?_;rw[ah]at h;show nh g (h.mono λr st1 w c v k T Y n rt=>?_);subst T;show iT l g ⟨k,Y,n,rt⟩ (by rw[k];show Q) w
def EH(g:∀j,ns j=b6->j∉is)(i:PE X a (IX C k))(l:PG X b (tG C b6 is))(hs:Q5 [b] a pos.line X.env=pure cc)(m:Vq [b] a X.env=pure b8)(n:(P' [b] X.env).map (·.2)=[Sh b X.env]):
  L2.PS X (.Assign [b] a pos) (JH C ns (k >>= λr=>dy b6 is r >>= λ_=>pure .nx)):=by
 show PS.weak (rJ i l hs m n) ?_;rintro D σ H ⟨c0,rfl,rfl,d,h⟩;show aM d h λr c v t w=>?_;rw[ah]at w;show⟨c0,c,r,t.hσ,rfl,d,t.ok,t.nx,t.rx,w.mono λ_ st1 f o e p q s hl=>?_⟩;subst e;rw[aq]at f;show f o rfl p q ⟨λj u=>by rw[s j (g j u),t.hσ],by rw[hl,t.hσ]⟩
def Gu(i:PT X a (Ka C j))(k:J8 X ca (JH C ns f))(l:J8 X m (JH C ns g)):L2.PS X (.If a ca m pos) (JH C ns (j >>= λp=>if p=b6 then f else g)):=by
 show PS.weak (FF i k l) ?_;rintro D σ H ⟨c0,rfl,rfl,o,h⟩;show dW o h λp c b d n w=>?_;have e:c0.σ=c.σ:=b.symm;rw[e];cases p with
 |true=>rw[ļ rfl]at w ⊢;show sC d n (Kept.of b) w
 |false=>rw[Ľ i3]at w ⊢;show sC d n (Kept.of b) w
def Gv(J:Xp (et X.prog X.w) X.A X.env X.xe)(L:PT X a (Ka C d))(N:J8 X body (JH C ns f)):L2.PS X (.While a body [] pos) (JH C ns (fL d f n)):=by
 show PS.weak (xp J L N) ?_;rintro D σ H ⟨c0,rfl,rfl,O,h⟩;show⟨λm s H'=>∃c,c.H=H'/\c.σ=s/\Ok C c/\Ns c0 c/\Kept ns c0 c/\W (fL d f m) c.st (fG C c0 ns D),⟨n,c0,rfl,rfl,O,Ns.refl c0,Kept.refl,h⟩,?_⟩;rintro m s H' ⟨c,rfl,rfl,Q,t,v,w⟩;cases m with
 |zero=>show(bp.mp w).elim
 |succ m =>
  rw[show fL d f (m+1)=d >>= λb=>if b=b6 then(f >>= λf'=>match f' with|.nx=>fL d f m|.ct=>fL d f m|.bk=>pure .nx|.rt k u=>pure (.rt k u)) else pure .nx from rfl]at w;show dW Q w λp j x y B g=>?_;have k2:Kept ns c j:=Kept.of x;rw[<-x];cases p with
  |false =>
   rw[Ľ i3]at g ⊢;rw[aq]at g;show g j rfl y (t.trans B) (v.trans k2)
  |true =>
   rw[ļ rfl]at g ⊢;show⟨λG I=>∃c,c.H=I/\c.σ=G/\Ok C c/\Ns c0 c/\Kept ns c0 c/\W (fL d f m) c.st (fG C c0 ns D),λG I z=>⟨m,OG m,z⟩,?_⟩;rw[ah]at g;show⟨j,rfl,rfl,y,g.mono λT Jx i l e o Y k3=>?_⟩;subst e;have q:=(t.trans B).trans Y;have r:=(v.trans k2).trans k3;cases T with
   |nx=>show⟨l,rfl,rfl,o,q,r,i⟩
   |ct=>show⟨l,rfl,rfl,o,q,r,i⟩
   |_=>rw[aq]at i;show i l rfl o q r
def Gw(hp:Xp (et X.prog X.w) X.A X.env X.xe)(hc:X.calm=b6)(hi:PI X tg a (MX C ik ms))(hg:PG X tg (tG C t is))(hb:J8 X body (JH C (KJ q) f))(hs:∀x,LF a X.env x=pure x)
  (JW:∀j,ns j=b6->j∉is/\KJ q j=b6) :
  L2.PS X (.For tg a body [] pos) (JH C ns (ms >>= λrs=>aA rs >>= λ_=>M.Jf (KI ik rs) >>= λxs=>if uD rs is q=b6 then forM t is f rs xs else M.fail)):=by
 show PS.weak (DC hp hc hi hg hb hs) ?_;rintro D σ H ⟨c0,rfl,rfl,ok,h⟩;rw[ah]at h;show⟨c0,rfl,rfl,ok,?_⟩;rw[ah];show h.mono λrs st1 r=>?_;rw[ah,cE]at r ⊢;show⟨r.1,?_⟩;have h2:=r.2;rw[ah]at h2 ⊢;show h2.mono λxs st2 s=>?_;rw[aq];intro c1 J e1 e2 IY n1 IZ v;subst e2
 dsimp only at IZ v
 split at s
 .rename_i Ov;have Ue:∀j u,(Kd.bor j,u)∈rs->j∉is/\KJ q j=b6:=λj u l=>by
   have:=i9.mp Ov _ l;simpa using this
  show⟨λi m d H'=>∃c,c.H=H'/\c.σ=d/\Ok C c/\Ns c1 c/\Kept ns c0 c/\lr rs c1 c/\m=xs.length - i/\i<=xs.length/\W (forM t is f rs (xs.drop i)) c.st (fG C c0 ns D),
   ⟨xs.length,c1,rfl,e1,IY,Ns.refl c1,Kept.of e1,λ_ _ _=>rfl,by simp,i5 _,by simpa using s⟩,?_⟩
  rintro i m d H' ⟨c,rfl,rfl,y,n,kc,B,rfl,Kv,w⟩;by_cases G:i<xs.length
  .right
   rw[Xs G,show forM t is f rs (xs[i]::xs.drop (i+1))=aA rs >>= λ_=>dy t is xs[i] >>= λ_=>f >>= λf'=>match f' with|.nx=>forM t is f rs (xs.drop (i+1))|.ct=>forM t is f rs (xs.drop (i+1))|.bk=>pure .nx|.rt k u=>pure (.rt k u) from rfl,ah,cE]at w;have⟨ME,w⟩:=w;obtain⟨I,_⟩:=v c y n B ME;have⟨T8,Pk,T9⟩:=I i xs[i] (by simp[G]);show⟨Pk,λd H'=>∃c,c.H=H'/\c.σ=d/\Ok C c/\Ns c1 c/\Kept ns c0 c/\lr rs c1 c/\W (forM t is f rs (xs.drop (i+1))) c.st (fG C c0 ns D),λd H' ⟨c',z1,z2,z3,z4,z5,z6,z7⟩=>⟨xs.length - (i+1),⋯,c',z1,z2,z3,z4,z5,z6,rfl,G,z7⟩,λx H' hy=>?_⟩;have⟨g,rfl,o,e5,Jm,n2,rt⟩:=T9 x H' hy;rw[ah]at w;have Ye:aN C g g xs[i].1 xs[i].2 x:=by
    rcases T8 with z|z
    .rw[z]at rt ⊢;show rt
    .rw[z]at rt ⊢;show rt
   show⟨g,g,xs[i],o,rfl,Jm,Jm,Nx.refl g,Ye,?_⟩;rw[e5];show w.mono λ_ Jx w3 c3 e6 LA n3 VS Pl=>?_;subst e6;rw[ah]at w3;show⟨c3,rfl,rfl,LA,w3.mono λfl O3 p b e L n4 N=>?_⟩;subst e;have O:Ns c1 b:=((n.trans n2.toNs).trans n3.toNs).trans n4;have Q:Kept ns c0 b:=by
    show kc.trans ⟨λj hj=>?_,by rw[N.2,Pl,o]⟩;have⟨T,Y⟩:=JW j hj;rw[N.1 j Y,VS j T,o]
   have VT:lr rs c1 b:=λj u l=>by
    have⟨T,Y⟩:=Ue j u l;rw[N.1 j Y,VS j T,o];show B j u l
   cases fl with
   |nx=>show⟨b,rfl,rfl,L,O,Q,VT,p⟩
   |ct=>show⟨b,rfl,rfl,L,O,Q,VT,p⟩
   |_=>rw[aq]at p;show p b rfl L (n1.toNs.trans O) Q
  .left
   have Yf:i=xs.length:=by lia
   subst Yf;rw[Í,show forM t is f rs []=aA rs >>= λ_=>pure .nx from rfl,ah,cE,aq]at w;obtain⟨_,I⟩:=v c y n B w.1;show⟨I _ (hU _),w.2 c rfl y (n1.toNs.trans n) kc⟩
 .show(bp.mp s).elim
end
section
def Ok.mod(b:Ok C c)(n:Ns c0 c)(hk:k.root=b6)(y:c.st[i]?=a5 (a5 (k,u)))(D:c.σ[i]?=a5 (a5 (.ref r)))(JS:∀a,a≠r->H' a=c.H a)(hr:∃o,H' r=a5 o)
  (new:Mv c.S c.H c.S H'->cU C c.S H' r u'):Ok C {c with H:=H',st:=c.st.set i (a5 (k,u'))}/\Ns c0 {c with H:=H',st:=c.st.set i (a5 (k,u'))}:=by
 have Lf:c.R1 r:=⟨i,k,u,hk,y,D⟩
 have hR:c.R r:=.inl Lf;have⟨I,q2,q3,o,ho,Ow⟩:=b.root hR;have J:i<c.st.length:=(dt.mp y).1;have m:∀{a:d8} {o':HO},a≠r->c.H a=a5 o'->H' a=a5 o':=λne e=>by rw[JS _ ne];show e
 have G:Mv c.S c.H c.S H':=⟨λ_ z=>z,λa o' e t=>m (λz=>by subst z;rw[ho]at e;cases e;show Ow t) e,λa o' z e=>m (λd=>I (d▸z)) e⟩
 have M':Mv (PS C c.S) c.H (PS C c.S) H':=⟨λ_ z=>z,G.Pc,λa o' z e=>m (λd=>by subst d;show z.elim q2 I) e⟩
 have L:∀(j:Nat) k' w,(c.st.set i (a5 (k,u')))[j]?=a5 (a5 (k',w))->j≠i->c.st[j]?=a5 (a5 (k',w)):=λj k' w e ne=>by rw[gc (nH ne)]at e;show e
 have f:∀(j:Nat) k' w,k'.root=b6->(c.st.set i (a5 (k,u')))[j]?=a5 (a5 (k',w))->∃N,c.st[j]?=a5 (a5 (k',N)):=λj k' w _ e=>by
  by_cases p:j=i
  .subst p;rw[d4 J]at e;cases e;show⟨u,y⟩
  .show⟨w,L j k' w e p⟩
 have b1:∀a,({c with H:=H',st:=c.st.set i (a5 (k,u'))}:Cf).R1 a->c.R1 a:=λa Jd=>by
  have⟨j,k',w,g,h,l⟩:=Jd;have⟨N,O⟩:=f j k' w g h;show⟨j,k',N,g,O,l⟩
 have dD:∀(j:Nat) (w:U),(c.st.set i (a5 (k,u')))[j]?=a5 (a5 (.IL,w))->c.st[j]?=a5 (a5 (.IL,w)):=λj w e=>by
  by_cases p:j=i
  .subst p;rw[d4 J]at e;cases e;cases hk
  .show L j .IL w e p
 have Nh:L7 C {c with H:=H',st:=c.st.set i (a5 (k,u'))}:=b.dd.of rfl (λj w e=>⟨dD j w e,rfl⟩) (λa z=>.inl (b1 a z)) G λj a z=>⟨(b.root (.inr ⟨j,z⟩)).1,λo' e=>m (λd=>b.dd.d1 j a z (d▸Lf)) e⟩
 show⟨⟨λa o' e z=>?_,λa z=>?_,b.par,λa z=>?_,by simp[b.len],λj k' w e=>?_,λj1 j2 k1 k2 w1 w2 q g s h l Q e4=>?_,Nh⟩,n.trans ⟨λa o' e z=>m (λd=>z (d▸hR)) e,λa o' e=>?_,λa z=>?_,λ_ z=>z,λ_ z=>.inl z⟩⟩
 .have g:=b.same a o' e z;show m (λd=>?_) g;subst d;rcases q3 with q3|q3
  .rw[e]at q3;cases q3
  .show z q3
 .have⟨g,o',s⟩:=b.KS a z;show⟨g,o',m (λd=>I (d▸z)) s⟩
 .have⟨g,o',s⟩:=b.io a z;show⟨g,?_⟩;by_cases A:a=r
  .subst A;show hr
  .show⟨o',m A s⟩
 .by_cases p:j=i
  .subst p;rw[d4 J]at e;cases e;have⟨v,h,l⟩:=b.sl j _ _ y;rw[D]at h;cases h;show⟨.ref r,D,?_⟩;have nr:=new G;cases k with
   |own=>obtain⟨q,x,B,T,Y,_⟩:=l;cases x;show⟨r,rfl,B,T,Y,nr⟩
   |io=>obtain⟨q,x,B,T,Y,_⟩:=l;cases x;show⟨r,rfl,B,T,Y,nr⟩
   |_=>cases hk
  .have e0:=L j k' w e p;have⟨v,h,l⟩:=b.sl j k' w e0;show⟨v,h,l.mv G M' λJE q x=>?_⟩;obtain⟨Qq,Ko,B,_⟩:=l.rt JE;rw[x]at Ko;cases Ko;show⟨B,λo' e=>m (λz=>?_) e⟩;subst z;show p (b.inj j i k' k w u q JE hk e0 y (by rw[h,x]) D)
 .have⟨Rw,O⟩:=f j1 k1 w1 g h;have⟨VU,a2⟩:=f j2 k2 w2 s l;show b.inj j1 j2 k1 k2 Rw VU q g s O a2 Q e4
 .by_cases A:a=r
  .subst A;show hr
  .show⟨o',m A e⟩
 .rcases z with z|⟨j,w,q,h,l,Q⟩
  .show .inl (.inl (b1 a z))
  .show .inl (.inr ⟨j,w,q,dD j w h,l,Q⟩)
def gC{f:U->Option U}{st:aw}(h:W (modS i f) st Q):∃k u u',k.root=b6/\st[i]?=a5 (a5 (k,u))/\f u=a5 u'/\Q () (st.set i (a5 (k,u'))):=by
 obtain⟨_,st',e,q⟩:=h;unfold modS at e;split at e
 .rename_i k u hs;split at e
  .rename_i hk;cases a:f u with
   |none=>rw[a]at e;cases e
   |some u'=>rw[a]at e;cases e;show⟨k,u,u',hk,hs,a,q⟩
  .cases e
 .cases e
def cO{st:aw}(h:W (c_ i) st Q):∃k u,k≠.IL/\st[i]?=a5 (a5 (k,u))/\Q (if k.root=b6 then .bor i else k,u) st:=by
 have⟨r,st',e,q⟩:=h;unfold c_ at e;split at e
 .cases e
 .rename_i k u a hs;cases e;show⟨k,u,λz=>a z,hs,q⟩
 .cases e
def Gy(T:C.K=X.K)(Y:X.N[i]?=a5 x)(hv:Ks X.env.scope x)(hd:(x==("__debug__":Str))=cc)(Ju:(x==("__classdict__":Str))=cc)(ha:PE X a (IX C ma))
  (J4:((C1 g (hW [a] X.env)).all (λx=>!x.1)&&(Qt g (LD [] X.env)).all (λx=>x.1.isSome)
   && cK ([a].length+([]:List Oc).length+(if ([]:List Oc).isEmpty then 0 else 1)<30))=b6)
  (Jc:(b.endLine==g.line)=b6) (o:hW [a] X.env=[(cc,u7 a X.env)]) :
  L2.PS X (.Expr (.Call (.Attribute (.Name x px) "append" b) [a] [] g) pos) (JH C ns (c_ i >>= λx=>Ng x.2 >>= λ_=>ma >>= λr=>lift r >>= λu=>modS i (yp u) >>= λ_=>pure .nx)):=by
 show PS.weak (kb (mM PySem.F.plainAttrs_list PySem.F.slot_list_append PySem.F.type_list_append mP (bO Y hv hd Ju) (cS ha fg o) rfl J4 Jc o rfl)) ?_;rintro D σ H ⟨c0,rfl,rfl,f,h⟩;rw[ah]at h;have⟨k0,p,K9,s,h⟩:=cO h;have⟨y,l,m⟩:=f.sl i k0 p s;show⟨y,l,?_⟩;cases p with
 |lst A =>
  rw[ah,show Ng (U.lst A)=pure () from rfl,aq]at h;have Qv:aN C c0 c0 (if k0.root=b6 then .bor i else k0) (.lst A) y:=by
   by_cases hk:k0.root=b6
   .rw[ļ hk];show⟨⟨k0,hk,s⟩,l⟩
   .rw[Ľ hk];cases k0 with
    |loc=>show m
    |any=>show m
    |bor j=>show m.elim
    |IL=>show(K9 rfl).elim
    |_=>show absurd rfl hk
  obtain⟨a0,Pj,n,O0,_⟩:=Qv.list f;show⟨by rw[n];show .inl ⟨rfl,Pj,T▸O0⟩,?_⟩;show aM f h λr c v t w=>?_;rw[ah]at w;obtain⟨S',st',u,sS,B,n1,d,G,_,_⟩:=iO f t.ok t.nx t.rx.w w;rw[ah]at G;have⟨k,u1,u2,hk,hs,e,q⟩:=gC G;have I:c.σ[i]?=a5 (a5 (.ref a0)):=by rw[t.hσ,l,n]
  cases u1 with
  |lst J =>
   simp only[yp]at e;split at e
   .rename_i hz;cases e;have⟨v',e1,e2⟩:=B.sl i k (.lst J) hs;have L:c.σ[i]?=a5 (a5 v'):=e1;rw[I]at L;cases L;obtain⟨r',er,_,_,_,ws,hw,O⟩:=e2.rt hk;cases er;have Rx:c.H a0=a5 (.lst ws):=hw;show⟨a0,ws,v,n,rfl,Rx,by rw[<-O.len];show hz,?_⟩;rw[aq]at q;have⟨Jm,n2⟩:=Ok.mod (c:={c with S:=S',st:=st' }) (H':=upd c.H a0 (.lst (ws++[v]))) (u':=.lst (J++[u])) B n1.toNs hk hs I (λa ne=>ak ne) ⟨_,ax⟩ λQ=>⟨ws++[v],ax,(O.mv Q).snoc (d.mv Q)⟩
    have z:=q _ rfl Jm n2 (Kept.of t.hσ);rw[<-t.hσ];show z
   .cases e
  |_=>cases e
 |_=>rw[ah]at h;show(bp.mp h).elim
def Gz(A:C.K=X.K)(hN:X.N[i]?=a5 x)(hv:Ks X.env.scope x)(hd:(x==("__debug__":Str))=cc)(Ju:(x==("__classdict__":Str))=cc)(ha:PE X a (IX C ma))
  (J4:((C1 l (hW [a] X.env)).all (λx=>!x.1)&&(Qt l (LD [] X.env)).all (λx=>x.1.isSome)
   && cK ([a].length+([]:List Oc).length+(if ([]:List Oc).isEmpty then 0 else 1)<30))=b6)
  (Jc:(g.endLine==l.line)=b6) (B:hW [a] X.env=[(cc,u7 a X.env)]) :
  L2.PS X (.Expr (.Call (.Attribute (.Name x px) "extend" g) [a] [] l) pos) (JH C ns (c_ i >>= λx=>Ng x.2 >>= λ_=>ma >>= λr=>modS i (lp r) >>= λ_=>pure .nx)):=by
 show PS.weak (kb (mM PySem.F.plainAttrs_list PySem.F.slot_list_extend PySem.F.type_list_extend sd (bO hN hv hd Ju) (cS ha fg B) rfl J4 Jc B rfl)) ?_;rintro D σ H ⟨c0,rfl,rfl,m,h⟩;rw[ah]at h;have⟨k0,G,K9,I,h⟩:=cO h;have⟨J,n,o⟩:=m.sl i k0 G I;show⟨J,n,?_⟩;cases G with
 |lst L =>
  rw[ah,show Ng (U.lst L)=pure () from rfl,aq]at h;have Qv:aN C c0 c0 (if k0.root=b6 then .bor i else k0) (.lst L) J:=by
   by_cases hk:k0.root=b6
   .rw[ļ hk];show⟨⟨k0,hk,I⟩,n⟩
   .rw[Ľ hk];cases k0 with
    |loc=>show o
    |any=>show o
    |bor j=>show o.elim
    |IL=>show(K9 rfl).elim
    |_=>show absurd rfl hk
  obtain⟨a0,Pj,p,O0,_⟩:=Qv.list m;show⟨by rw[p];show .inl ⟨rfl,Pj,A▸O0⟩,?_⟩;show aM m h λr c v t w=>?_;rw[ah]at w;have⟨k,s,u2,hk,hs,d,q⟩:=gC w;have O:c.σ[i]?=a5 (a5 (.ref a0)):=by rw[t.hσ,n,p]
  have⟨rk,ru⟩:=r;have key:∃e f b vs,s=.lst e/\v=.ref b/\(Jw C.K c.H b vs\/JI C.K c.H b vs)/\au C c.S c.H f vs/\e.length+f.length<=cL/\u2=.lst (e++f):=by
   cases ru with
   |lst f =>
    cases s with
    |lst e =>
     simp only[lp]at d;split at d
     .rename_i hz;cases d;have⟨b,vs,ev,u,y⟩:=t.rx.list t.ok;show⟨_,_,b,vs,rfl,ev,.inl u,eW hz.2 y,hz.1,rfl⟩
     .cases d
    |_=>simp[lp]at d
   |tup f =>
    cases s with
    |lst e =>
     simp only[lp]at d;split at d
     .rename_i hz;cases d;have⟨b,vs,ev,u,y⟩:=t.rx.tuple t.ok;show⟨_,_,b,vs,rfl,ev,.inr u,eW hz.2 y,hz.1,rfl⟩
     .cases d
    |_=>simp[lp]at d
   |_=>simp[lp]at d
  have⟨e,f,b,vs,rfl,rfl,hB,hz,hl,rfl⟩:=key;have⟨v',Q,e2⟩:=t.ok.sl i k (.lst e) hs;rw[O]at Q;cases Q;obtain⟨r',er,_,_,_,ws,hw,T⟩:=e2.rt hk;cases er;show⟨a0,b,ws,vs,p,rfl,hw,A▸hB,by rw[<-T.len,<-hz.len];show hl,?_⟩;rw[aq]at q;have⟨Jm,n2⟩:=Ok.mod (c:=c) (H':=upd c.H a0 (.lst (ws++vs))) (u':=.lst (e++f)) t.ok t.nx.toNs hk hs O (λa ne=>ak ne) ⟨_,ax⟩ λY=>⟨ws++vs,ax,(T.mv Y).append (hz.mv Y)⟩
  have z:=q _ rfl Jm n2 (Kept.of t.hσ);rw[<-t.hσ];show z
 |_=>rw[ah]at h;show(bp.mp h).elim
def om.or(h:om X t)(h':om X t'):om X (λo i v H Q=>t o i v H Q\/t' o i v H Q):=λa s σ H o i v b c u Q I d e f q =>
 q.elim (h a s σ H o i v b c u Q I d e f) (h' a s σ H o i v b c u Q I d e f)
def set_dict(c:X.A.units+1<K2):om X (λo i v H Q=>∃a H',o=.ref a/\vT H a i v H'/\Q H'):=by
 rintro b s σ H o i v h j u Q I d e rv ⟨a,H',rfl,g,q⟩;cases d;show vV c I g e rv λs' f=>⟨H',f,q⟩
def yH{S:d8->Prop}{kvs:List (Key×V)}(a:kvs.map (·.1)=ks.map mu)(c:au C S H us (kvs.map (·.2)))(d:Rep C S H u v):
  (putK kvs (mu y) v).map (·.1)=(dput ks us y u).1.map mu/\au C S H (dput ks us y u).2 ((putK kvs (mu y) v).map (·.2)):=by
 have e:(kvs.any λkv=>cK (kv.1=(mu y:Key)))=cK (y∈ks):=by
  rw[iC];show(dJ (x:=y) a c).2
 unfold putK dput;rw[e];by_cases b:y∈ks
 .rw[ļ (by simpa using b),ļ b];constructor
  .rw[i4];rw[<-a];apply td;intro p _;change(if p.1=mu y then(p.1,v) else p).1=p.1;split<;>rfl
  .clear e b;induction kvs generalizing ks us with
   |nil =>
    have:ks=[]:=by simpa using a.symm
    subst this;simp[au]
   |cons p kvs g =>
    cases ks with
    |nil=>simp at a
    |cons k ks =>
     cases us with
     |nil=>simp[au]at c
     |cons j us =>
      rw[d7,d7,OA]at a;have⟨l,m,f,h,i⟩:=c;rw[d7]at f;cases f;rw[d7,Pw,d7,d7];show⟨_,_,rfl,?_,g a.2 i⟩;by_cases hk:k=y
      .rw[ļ (by show hk),ļ (by rw[a.1,hk])];show d
      .rw[Ľ (by show hk),Ľ (by rw[a.1];intro z;show hk (U9 z))];show h
 .rw[Ľ (by simpa using b),Ľ b];show⟨by rw[ki,a,ki];rfl,by rw[ki];show c.snoc d⟩
def GA(hP:C.P=X.prog)(hw:C.w=X.w)(hK:C.K=X.K)(hu:X.A.units+60<K2)(hN:X.N[i]?=a5 x)(hv:Ks X.env.scope x)(hd:(x==("__debug__":Str))=cc)(Ju:(x==("__classdict__":Str))=cc)
  (ha:PE X a (IX C ma)) (hb:PE X b (IX C mb)) (hs:Q5 [.Subscript (.Name x B) b p] a pos.line X.env=pure cc) (Ui:Vq [.Subscript (.Name x B) b p] a X.env=pure b8)
  (O:∀v,Sh (.Subscript (.Name x B) b p) X.env v=(do
   let G <-Mj [v] (u7 (.Name x B) X.env)
   let Q <-Mj [v,G] (u7 b X.env)
   X' p
   Mj [v,G,Q] (Tt G Q v)
   Wo [v,G,Q] [])) :
  L2.PS X (.Assign [.Subscript (.Name x B) b p] a pos) (JH C ns (ma >>= λr=>c_ i >>= λ_=>mb >>= λx=>cV [r,x] >>= λus=>modS i (uC us) >>= λ_=>pure .nx)):=by
 show PS.weak (rJ ha (xm (bO hN hv hd Ju) hb (om.or set_list (set_dict (X:=X) ⋯)) O) hs Ui rfl) ?_;rintro D σ H ⟨c0,rfl,rfl,ok,h⟩;show aM ok h λr c v t w=>?_;rw[ah]at w;have⟨k0,u0,K9,J',w⟩:=cO w;have⟨v0,e0,LU⟩:=t.ok.sl i k0 u0 J';show⟨v0,by rw[<-t.hσ];show e0,?_⟩;rw[ah]at w;show⟨c,t.hσ,rfl,t.ok,w.mono λy st2 w2 f m I e4 Jm n2 r2=>?_⟩;subst e4;rw[ah]at w2;have Uj:=t.nx.trans n2;have T:cM C c0 f [r,y] [v,m]:=⟨v,[m],rfl,t.rx.w.on t.ok n2 (I.trans t.hσ.symm),⟨m,[],rfl,(r2.w).from t.nx,rfl,λ_ i r' Y e _=>by simp at e⟩,λhk i r' Y e5 e6 JE=>by
  cases i with
  |zero=>simp at e5 e6;subst e5 e6;show oX t.rx.w r2.w hk JE
  |succ i=>simp at e5⟩
 have⟨S',st',us,sS,IY,n1,g,w1⟩:=iP ok Jm Uj T w2;rw[ah]at w1;have⟨k,J,u2,hk,KR,d,q⟩:=gC w1;rw[aq]at q;have hσ:f.σ[i]?=a5 (a5 v0):=by rw[I,<-t.hσ];show e0
 have⟨Y,e1,e2⟩:=IY.sl i k J KR;have JT:f.σ[i]?=a5 (a5 Y):=e1;rw[hσ]at JT;cases JT;have⟨a0,er,z1,z2,z3,l⟩:=e2.rt hk;subst er;have Yg:({f with S:=S',st:=st' }:Cf).σ[i]?=a5 (a5 (.ref a0)):=hσ;obtain⟨Rw,ws,ew,VV,VU,ZL,ZM,VW,Yh⟩:∃u ws,us=[u,ws]/\Rep C S' f.H u v/\∃(_:Unit) (_:Unit),True/\Rep C S' f.H ws m/\True:=by
  cases us with
  |nil=>simp[au]at g
  |cons u us =>
   obtain⟨_,_,e,q1,q2⟩:=g;cases e;cases us with
   |nil=>simp[au]at q2
   |cons u' us =>
    obtain⟨_,_,e,q3,q4⟩:=q2;cases e;cases us with
    |nil=>show⟨u,u',rfl,q1,(),(),trivial,q3,trivial⟩
    |cons _ _=>obtain⟨_,_,e,_⟩:=q4;cases e
 subst ew;rw[show uC [Rw,ws] J=eG ws Rw J from rfl]at d;have n:∀{H':Hp} ,(∀a,a≠a0->H' a=f.H a)->(∃o,H' a0=a5 o)->(Mv S' f.H S' H'->cU C S' H' a0 u2)->D.nx c0.σ H':=λ{H'} JS hr new=>by
  have⟨LA,n3⟩:=Ok.mod (c:={f with S:=S',st:=st' }) (H':=H') (u':=u2) IY n1.toNs hk KR Yg JS hr new;have z:=q _ rfl LA n3 (Kept.of I);rw[<-I];show z
 cases J with
 |lst xs =>
  cases ws with
  |int j =>
   simp only[eG,eH]at d;have⟨j',hj,rfl⟩:=d;have⟨vs,h1,s⟩:=l;have ey:m=.int j:=VW;show .inl ⟨a0,vs,j,j',rfl,ey,h1,by rw[<-s.len];show hj,?_⟩;show n (λa ne=>ak ne) ⟨_,ax⟩ λL=>⟨vs.set j' v,ax,(s.mv L).set j' (VV.mv L)⟩
  |_=>simp[eG]at d
 |IQ ks vs =>
  cases ws with
  |str y' =>
   simp only[eG]at d;split at d
   .rename_i hz;cases d;have⟨kvs,h1,s,h3⟩:=l;have ey:m=.str y':=VW;subst ey;have hl:kvs.length=ks.length:=by have:=Ł wh s;simpa using this
    show .inr ⟨a0,_,rfl,vT.k (k:=mu y') h1 (by rw[hl];show hz),?_⟩;show n (λa ne=>ak ne) ⟨_,ax⟩ λL=>?_;have⟨g1,g2⟩:=yH (y:=y') s h3 VV;show⟨_,ax,g1,g2.mv L⟩
   .cases d
  |_=>simp[eG]at d
 |_=>simp[eG]at d
def Ok.slot(d:Ok C c)(e:k≠.IL)(hs:c.st[i]?=a5 (a5 (k,u))):∃v,c.σ[i]?=a5 (a5 v)/\aN C c c (if k.root=b6 then .bor i else k) u v:=by
 have⟨f,b,a⟩:=d.sl i k u hs;show⟨f,b,?_⟩;by_cases hk:k.root=b6
 .rw[ļ hk];show⟨⟨k,hk,hs⟩,b⟩
 .rw[Ľ hk];cases k with
  |loc=>show a
  |any=>show a
  |bor j=>show a.elim
  |IL=>show(e rfl).elim
  |_=>show absurd rfl hk
def GB(d:∀j,ns j=b6->j≠i)(e:X.N.Nodup)(c:X.N[i]?=a5 x)(f:Loc X.env.scope x)(g:X.fn x=b6\/X.env.scope.names.lookup x=a5 .local):
  L2.PS X (.AugAssign (.Name x pos') .Add (.Constant (.int n) j q) pos) (JH C ns (c_ i >>= λr=>oW r >>= λm=>dR i (.loc,.int (m+n)) >>= λ_=>pure .nx)):=by
 rintro a s σ H D I ⟨c0,rfl,rfl,b,h⟩;have l:i<c0.σ.length:=by rw[I.len];show(dt.mp c).1
 rw[ah]at h;have⟨k0,o,p,t,h⟩:=cO h;have⟨u,w,y⟩:=b.slot p t;cases o with
 |int m =>
  rw[ah,show ∀k:Kd,oW (k,U.int m)=pure m from λ_=>rfl,aq]at h;have ev:u=.int m:=y.int b;subst ev;show Dy e c f rH xn g a s c0.σ c0.H D I ⟨.int m,w,m,n,rfl,rfl,iT (r:=(.loc,.int (m+n))) (v:=.int (m+n)) d b ⟨rfl,b,Nx.refl c0,rfl⟩ l h⟩
 |_=>rw[ah]at h;show(bp.mp h).elim
end
end TM
namespace TM
open PySem L2 PyProof.Rows PySem.W
section
def GC(d:X.calm=b6)(f:Gl X x)(g:X.mg x=a5 (.ref c))(i:(x==("__debug__":Str))=cc)(j:excIn X.K c Pb "ValueError.__new__"=b6)(k:PE X a (IX C l))(m:hW [a] X.env=[(cc,u7 a X.env)])
  (n:∀H',C.xw (.str x) H'->∀b σ s e s',Inv X b σ H' s->bV X.prog X.w X.stack H' s e c b8 .none H' s'->X.xe (.ref e) s'):L2.PS X (.Raise (a5 (.Call (.Name x p) [a] [] r)) b8 pos) (JH C ns (l >>= λ_=>pure (.rt .io (.str x)))):=by
 show PS.weak (yg d f g i j k m) ?_;rintro D σ H ⟨c0,rfl,rfl,o,h⟩;show aM o h λx q v t w=>?_;rw[aq]at w;show λb s e s' I F=>n _ (w q rfl t.ok t.nx (Kept.of t.hσ)) b _ s e s' I F
def Ok.kill(d:Ok C c)(n:c.st[j]?=a5 b8):Ok C {c with σ:=c.σ.set j b8}/\Nx c {c with σ:=c.σ.set j b8}:=by
 have ne:∀(i:Nat) (r:Kd×U),c.st[i]?=a5 (a5 r)->(c.σ.set j b8)[i]?=c.σ[i]?:=λi r e=>gc λz=>by subst z;rw[n]at e;cases e
 have l:∀a,({c with σ:=c.σ.set j b8}:Cf).R1 a->c.R1 a:=λa ⟨i,k,u,hk,b,f⟩=>⟨i,k,u,hk,b,(ne i _ b)▸f⟩
 have p:L7 C {c with σ:=c.σ.set j b8}:=d.dd.of rfl (λi u e=>⟨e,ne i _ e⟩) (λa z=>.inl (l a z)) (.up λ_ z=>z) λi a z=>⟨(d.root (.inr ⟨i,z⟩)).1,λo q=>q⟩
 show⟨⟨d.same,d.KS,d.par,d.io,by simp[d.len],λi k u e=>?_,λi m k k' u u' r hk s b f g t=>?_,p⟩,⟨⟨λ_ _ h _=>h,λ_ o h=>⟨o,h⟩,λa z=>.inl ?_,λ_ h=>h,λ_ h=>.inl h⟩,λa ⟨i,u,r,b,f,g⟩=>⟨⟨i,u,r,b,(ne i _ b)▸f,g⟩,λ_ e=>e⟩⟩⟩
 .have⟨v,q,z⟩:=d.sl i k u e;show⟨v,(ne i _ e).trans q,z⟩
 .show d.inj i m k k' u u' r hk s b f ((ne i _ b)▸g) ((ne m _ f)▸t)
 .show z.imp (l a) λ⟨i,u,r,b,f,g⟩=>⟨i,u,r,b,(ne i _ b)▸f,g⟩
end
end TM
namespace TM
open PySem L2 PyProof.Rows
section
def Ok.GD(d:Ok C c)(n:Ns c0 c)(O:c.st[i]?=a5 (a5 (.IL,u)))(B:c.σ[i]?=a5 (a5 (.ref r)))(JS:∀a,¬c.RD i a->H' a=c.H a)(Q:∀a o,c.H a=a5 o->∃o',H' a=a5 o')
  (new:Mv c.S c.H c.S H'->cv C c.S H' r as' u') (T:∀a∈as',a∈c.kid i\/(¬c.R a/\c0.H a=b8)) :
  Ok C {c with H:=H',st:=c.st.set i (a5 (.IL,u')),kid:=λj=>if j=i then as' else c.kid j}/\Ns c0 {c with H:=H',st:=c.st.set i (a5 (.IL,u')),kid:=λj=>if j=i then as' else c.kid j}:=by
 have Y:i<c.st.length:=(dt.mp O).1;have rt:∀{a},c.RD i a->¬c.S a/\¬C.Lu a/\(C.H₀ a=b8\/C.IO a)/\∃o,c.H a=a5 o/\¬Tp o:=λz=>d.root (.inr ⟨i,z⟩);have h0:∀{a},c.RD i a->C.H₀ a=b8:=λ⟨u1,r1,g,b,e3⟩=>(cv.fr (d.dd.kd i u1 r1 g b) _ (d6.mpr e3)).2.2;have q:∀{a:d8} {o:HO},¬c.RD i a->c.H a=a5 o->H' a=a5 o:=λz e=>by rw[JS _ z];show e
 have N:Mv c.S c.H c.S H':=⟨λ_ z=>z,λa o e t=>q (λz=>by
  obtain⟨_,_,_,o',l,nt⟩:=rt z;rw[e]at l;cases l;show nt t) e,λa o z e=>q (λm=>(rt m).1 z) e⟩
 have M':Mv (PS C c.S) c.H (PS C c.S) H':=⟨λ_ z=>z,N.Pc,λa o z e=>q (λm=>z.elim (rt m).2.1 (rt m).1) e⟩
 have D:∀(j:Nat) k w,(c.st.set i (a5 (.IL,u')))[j]?=a5 (a5 (k,w))->j≠i->c.st[j]?=a5 (a5 (k,w)):=λj k w e ne=>by rw[gc (nH ne)]at e;show e
 have Ox:∀(j:Nat) k w,k.root=b6->(c.st.set i (a5 (.IL,u')))[j]?=a5 (a5 (k,w))->c.st[j]?=a5 (a5 (k,w)):=λj k w hk e=>by
  by_cases f:j=i
  .subst f;rw[d4 Y]at e;cases e;cases hk
  .show D j k w e f
 have b1:∀a,({c with H:=H',st:=c.st.set i (a5 (.IL,u')),kid:=λj=>if j=i then as' else c.kid j}:Cf).R1 a->c.R1 a:=λa ⟨j,k,w,hk,g,b⟩=>⟨j,k,w,hk,Ox j k w hk g,b⟩
 have G:∀j a,({c with H:=H',st:=c.st.set i (a5 (.IL,u')),kid:=λj=>if j=i then as' else c.kid j}:Cf).RD j a->c.RD j a\/(j=i/\¬c.R a/\c0.H a=b8):=λj a Jd=>by
  have⟨w,h,g,b,e3⟩:=Jd;by_cases f:j=i
  .subst f;have I:c.σ[j]?=a5 (a5 (.ref h)):=b;rw[B]at I;cases I;rcases e3 with rfl|e3
   .show .inl ⟨u,_,O,B,.inl rfl⟩
   .have NI:a∈as':=by simpa using e3
    rcases T a NI with z|z
    .show .inl ⟨u,_,O,B,.inr z⟩
    .show .inr ⟨rfl,z⟩
  .have NI:a=h\/a∈c.kid j:=by simpa[f] using e3
   show .inl ⟨w,h,D j _ w g f,b,NI⟩
 show⟨⟨λa o e z=>q (λm=>by rw[h0 m]at e;cases e) (d.same a o e z),λa z=>?_,d.par,λa z=>?_,by simp[d.len],λj k w e=>?_,λx s k1 k2 w1 w2 h h1 h2 g b e3 e4=>d.inj x s k1 k2 w1 w2 h h1 h2 (Ox x k1 w1 h1 g) (Ox s k2 w2 h2 b) e3 e4,⟨λj w h g b=>?_,λx s a J L=>?_,λj a J L=>?_⟩⟩,⟨λa o e z=>?_,λa o e=>?_,λa z=>?_,n.sub,n.new⟩⟩
 .have⟨q1,o,q2⟩:=d.KS a z;show⟨q1,Q a o q2⟩
 .have⟨q1,o,q2⟩:=d.io a z;show⟨q1,Q a o q2⟩
 .by_cases f:j=i
  .subst f;rw[d4 Y]at e;cases e;show⟨.ref r,B,r,rfl⟩
  .have⟨v,g,b⟩:=d.sl j k w (D j k w e f);show⟨v,g,b.mv N M' λhk h er=>?_⟩;obtain⟨Qq,Ko,J,_⟩:=b.rt hk;rw[er]at Ko;cases Ko;show⟨J,λo l=>q (λz=>d.dd.d1 i h z ⟨j,k,w,hk,D j k w e f,by rw[g,er]⟩) l⟩
 .by_cases f:j=i
  .subst f;rw[d4 Y]at g;cases g;have I:c.σ[j]?=a5 (a5 (.ref h)):=b;rw[B]at I;cases I;have z:=new N;simpa using z
  .have JT:=D j _ w g f;have JE:(if j=i then as' else c.kid j)=c.kid j:=Ľ f;change cv C c.S H' h (if j=i then as' else c.kid j) w;rw[JE];show cv.mv N (λa ha=>⟨(d.root (.inr ⟨j,w,h,JT,b,d6.mp ha⟩)).1,λo l=>q (λz=>f (d.dd.dj j i a ⟨w,h,JT,b,d6.mp ha⟩ z)) l⟩) (d.dd.kd j w h JT b)
 .rcases G x a J with p|⟨rfl,p,_⟩
  .rcases G s a L with A|⟨rfl,A,_⟩
   .show d.dd.dj x s a p A
   .show(A (.inr ⟨x,p⟩)).elim
  .rcases G s a L with A|⟨rfl,A,_⟩
   .show(p (.inr ⟨s,A⟩)).elim
   .rfl
 .rcases G j a J with p|⟨rfl,p,_⟩
  .show d.dd.d1 j a p (b1 a L)
  .show p (.inl (b1 a L))
 .show q (λm=>by
   rcases n.roots a (.inr ⟨i,m⟩) with y|y
   .show z y
   .rw[e]at y;cases y) (n.keep a o e z)
 .have⟨o',l⟩:=n.there a o e;show Q a o' l
 .rcases z with z|⟨j,z⟩
  .show n.roots a (.inl (b1 a z))
  .rcases G j a z with y|⟨_,_,y⟩
   .show n.roots a (.inr ⟨j,y⟩)
   .show .inr y
def Ok.newD(l:Ok C c)(B:c.H p=b8)(u:i<c.σ.length):
  Ok C {c with H:=upd c.H p (.dK []),σ:=c.σ.set i (a5 (.ref p)),st:=c.st.set i (a5 (.IL,.IQ [] [])),kid:=λj=>if j=i then [] else c.kid j}/\Ns c {c with H:=upd c.H p (.dK []),σ:=c.σ.set i (a5 (.ref p)),st:=c.st.set i (a5 (.IL,.IQ [] [])),kid:=λj=>if j=i then [] else c.kid j}:=by
 have⟨n,Q⟩:=l.lay (o:=.dK []) B;have⟨q1,q2,q3,q4,D⟩:=l.j5 B;have G:i<c.st.length:=by rw[l.len];show u
 have x:∀(j:Nat) k w,(c.st.set i (a5 (.IL,.IQ [] [])))[j]?=a5 (a5 (k,w))->j≠i->c.st[j]?=a5 (a5 (k,w)):=λj k w e ne=>by rw[gc (nH ne)]at e;show e
 have q:∀(j:Nat),j≠i->(c.σ.set i (a5 (.ref p)))[j]?=c.σ[j]?:=λj ne=>gc (nH ne);have I:∀(j:Nat) k w,k.root=b6->(c.st.set i (a5 (.IL,.IQ [] [])))[j]?=a5 (a5 (k,w))->j≠i/\c.st[j]?=a5 (a5 (k,w)):=λj k w hk e=>by
  by_cases b:j=i
  .subst b;rw[d4 G]at e;cases e;cases hk
  .show⟨b,x j k w e b⟩
 have b1:∀a,({c with H:=upd c.H p (.dK []),σ:=c.σ.set i (a5 (.ref p)),st:=c.st.set i (a5 (.IL,.IQ [] [])),kid:=λj=>if j=i then [] else c.kid j}:Cf).R1 a->c.R1 a:=λa J=>by
  have⟨j,k,w,hk,d,f⟩:=J;have⟨b,L⟩:=I j k w hk d;show⟨j,k,w,hk,L,by rw[<-q j b];show f⟩
 have r:∀j a,({c with H:=upd c.H p (.dK []),σ:=c.σ.set i (a5 (.ref p)),st:=c.st.set i (a5 (.IL,.IQ [] [])),kid:=λj=>if j=i then [] else c.kid j}:Cf).RD j a->(j≠i/\c.RD j a)\/(j=i/\a=p):=λj a J=>by
  have⟨w,g,d,f,e3⟩:=J;by_cases b:j=i
  .subst b;have s:(c.σ.set j (a5 (.ref p)))[j]?=a5 (a5 (.ref g)):=f;rw[d4 u]at s;cases s;rcases e3 with rfl|e3
   .show .inr ⟨rfl,rfl⟩
   .simp at e3
  .have NI:a=g\/a∈c.kid j:=by simpa[b] using e3
   show .inl ⟨b,w,g,x j _ w d b,by rw[<-q j b];show f,NI⟩
 show⟨⟨n.same,n.KS,n.par,n.io,by simp[l.len],λj k w e=>?_,λm h k1 k2 T Y g h1 h2 d f e3 e4=>?_,⟨λj w g d f=>?_,λm h a N t=>?_,λj a N t=>?_⟩⟩,⟨Q.keep,Q.there,λa z=>?_,λ_ z=>z,λ_ z=>.inl z⟩⟩
 .by_cases b:j=i
  .subst b;rw[d4 G]at e;cases e;show⟨.ref p,d4 u,p,rfl⟩
  .have⟨v,d,f⟩:=n.sl j k w (x j k w e b);show⟨v,(q j b).trans d,f⟩
 .have⟨MU,a1⟩:=I m k1 T h1 d;have⟨My,a2⟩:=I h k2 Y h2 f;show l.inj m h k1 k2 T Y g h1 h2 a1 a2 ((q m MU).symm.trans e3) ((q h My).symm.trans e4)
 .by_cases b:j=i
  .subst b;rw[d4 G]at d;cases d;have s:(c.σ.set j (a5 (.ref p)))[j]?=a5 (a5 (.ref g)):=f;rw[d4 u]at s;cases s;change cv C c.S (upd c.H p (.dK [])) p (if j=j then [] else c.kid j) (.IQ [] []);rw[ļ rfl];show⟨[],ax,rfl,rfl,by simp,λa ha=>by rw[hQ.mp ha];show⟨q2,q3,q1⟩,rfl⟩
  .have L:=x j _ w d b;have z:=n.dd.kd j w g L ((q j b).symm.trans f);change cv C c.S (upd c.H p (.dK [])) g (if j=i then [] else c.kid j) w;rw[Ľ b];show z
 .rcases r m a N with⟨_,A⟩|⟨rfl,rfl⟩
  .rcases r h a t with⟨_,O⟩|⟨rfl,rfl⟩
   .show l.dd.dj m h a A O
   .show(D (.inr ⟨m,A⟩)).elim
  .rcases r h a t with⟨_,O⟩|⟨rfl,_⟩
   .show(D (.inr ⟨h,O⟩)).elim
   .rfl
 .rcases r j a N with⟨_,A⟩|⟨rfl,rfl⟩
  .show l.dd.d1 j a A (b1 a t)
  .show D (.inl (b1 a t))
 .rcases z with z|⟨j,z⟩
  .show .inl (.inl (b1 a z))
  .rcases r j a z with⟨_,y⟩|⟨_,rfl⟩
   .show .inl (.inr ⟨j,y⟩)
   .show .inr B
end
section
theorem du.rep{S S':d8->Prop}(hs:∀a,S a->S' a):∀{us:List U}{as:List d8},(∀a∈as,S' a)->du C S H us as->au C S' H us (as.map V.ref)
 |[],as,_,h=>by cases h;show rfl
 |u::us,as,c,h=>by
  have⟨a,as',i,vs,rfl,rfl,d,e,f⟩:=h;show⟨.ref a,as'.map V.ref,rfl,⟨a,vs,rfl,.inl ⟨c a (by simp),.inl d⟩,e.mv (.up hs)⟩,du.rep hs (λb g=>c b (by simp[g])) f⟩
def Ok.GF(b:Ok C c)(n:Nx c0 c)(Q:c.st[i]?=a5 (a5 (.IL,u)))(s:c.σ[i]?=a5 (a5 (.ref r))):
  Ok C {c with S:=λa=>c.S a\/a∈c.kid i,st:=c.st.set i (a5 (.own,u))}/\Nx c0 {c with S:=λa=>c.S a\/a∈c.kid i,st:=c.st.set i (a5 (.own,u))}:=by
 have T:i<c.st.length:=(dt.mp Q).1;have D:=b.dd.kd i u r Q s;have fr:=cv.fr D;have mem:∀a,(a=r\/a∈c.kid i)->c.RD i a:=λa z=>⟨u,r,Q,s,z⟩
 have up:Mv c.S c.H (λa=>c.S a\/a∈c.kid i) c.H:=.up λa=>.inl;have Yi:Mv (PS C c.S) c.H (PS C λa=>c.S a\/a∈c.kid i) c.H:=.up λa z=>z.imp id .inl;have Ry:r∉c.kid i/\cU C (λa=>c.S a\/a∈c.kid i) c.H r u:=by
  cases u<;>first|show D.elim|skip
  have⟨kvs,G,I,h3,h4,h5,h6⟩:=D;show⟨(mh.mp h4).1,kvs,G,I,?_⟩;rw[h3];show h6.rep (λa=>.inl) λa J=>.inr J
 have p:∀(j:Nat) k w,(c.st.set i (a5 (.own,u)))[j]?=a5 (a5 (k,w))->j≠i->c.st[j]?=a5 (a5 (k,w)):=λj k w e ne=>by rw[gc (nH ne)]at e;show e
 have b1:∀a,({c with S:=λa=>c.S a\/a∈c.kid i,st:=c.st.set i (a5 (.own,u))}:Cf).R1 a->c.R1 a\/a=r:=λa Y=>by
  have⟨j,k,w,hk,f,g⟩:=Y;by_cases d:j=i
  .subst d;have K3:c.σ[j]?=a5 (a5 (.ref a)):=g;rw[s]at K3;cases K3;show .inr rfl
  .show .inl ⟨j,k,w,hk,p j k w f d,g⟩
 have t:∀j a,({c with S:=λa=>c.S a\/a∈c.kid i,st:=c.st.set i (a5 (.own,u))}:Cf).RD j a->j≠i/\c.RD j a:=λj a Y=>by
  have⟨w,h,f,g,x⟩:=Y;by_cases d:j=i
  .subst d;rw[d4 T]at f;cases f
  .show⟨d,w,h,p j _ w f d,g,x⟩
 show⟨⟨b.same,λa z=>?_,b.par,b.io,by simp[b.len],λj k w e=>?_,λm l k1 k2 L N h G I f g x e4=>?_,⟨λj w h f g=>?_,λm l a A z2=>b.dd.dj m l a (t m a A).2 (t l a z2).2,λj a A z2=>?_⟩⟩,⟨⟨n.keep,n.there,λa z=>?_,λa z=>.inl (n.sub a z),λa z=>?_⟩,λa ⟨j,z⟩=>n.dk a ⟨j,(t j a z).2⟩⟩⟩
 .rcases z with z|z
  .show b.KS a z
  .obtain⟨o,ho,_⟩:=cv.there D a (kr _ z);show⟨(fr a (kr _ z)).2.2,o,ho⟩
 .by_cases d:j=i
  .subst d;rw[d4 T]at e;cases e;have⟨q1,q2,q3⟩:=fr r (mA ..);show⟨.ref r,s,r,rfl,λz=>z.elim q1 Ry.1,q2,q3,Ry.2⟩
  .have⟨v,f,g⟩:=b.sl j k w (p j k w e d);show⟨v,f,g.mv up Yi λhk h er=>?_⟩;obtain⟨Qq,Ko,A,_⟩:=g.rt hk;rw[er]at Ko;cases Ko;show⟨λz=>z.elim A λz=>b.dd.d1 i h (mem h (.inr z)) ⟨j,k,w,hk,p j k w e d,by rw[f,er]⟩,λo q=>q⟩
 .by_cases O:m=i
  .by_cases B:l=i
   .rw[O,B]
   .subst O;have NI:c.σ[m]?=a5 (a5 (.ref h)):=x;rw[s]at NI;cases NI;show(b.dd.d1 m r (mem r (.inl rfl)) ⟨l,k2,N,I,p l k2 N g B,e4⟩).elim
  .by_cases B:l=i
   .subst B;have VX:c.σ[l]?=a5 (a5 (.ref h)):=e4;rw[s]at VX;cases VX;show(b.dd.d1 l r (mem r (.inl rfl)) ⟨m,k1,L,G,p m k1 L f O,x⟩).elim
   .show b.inj m l k1 k2 L N h G I (p m k1 L f O) (p l k2 N g B) x e4
 .by_cases d:j=i
  .subst d;rw[d4 T]at f;cases f
  .have JT:=p j _ w f d;show cv.mv up (λa J=>⟨λz=>z.elim (b.root (.inr ⟨j,w,h,JT,g,d6.mp J⟩)).1 λz=>d (b.dd.dj j i a ⟨w,h,JT,g,d6.mp J⟩ (mem a (.inr z))),λo q=>q⟩) (b.dd.kd j w h JT g)
 .have⟨d,y⟩:=t j a A;rcases b1 a z2 with z|z
  .show b.dd.d1 j a y z
  .subst z;show d (b.dd.dj j i a y (mem a (.inl rfl)))
 .rcases z with z|⟨j,z⟩
  .rcases b1 a z with z|rfl
   .show n.roots a (.inl z)
   .show n.roots a (.inr ⟨i,mem a (.inl rfl)⟩)
  .show n.roots a (.inr ⟨j,(t j a z).2⟩)
 .rcases z with z|z
  .show n.new a z
  .rcases n.roots a (.inr ⟨i,mem a (.inr z)⟩) with y|y
   .show .inr (.inl y)
   .show .inr (.inr y)
def BF(f:X.N[i]?=a5 x)(g:Ks X.env.scope x)(j:(x==("__debug__":Str))=cc)(k:(x==("__classdict__":Str))=cc):PE X (.Name x pos) (IX C (yo i)):=by
 have m:=oY (C:=C) (pos:=pos) f g j k;rintro b s σ H Q I ⟨c0,rfl,rfl,c,r,st',e,h⟩;unfold yo at e;split at e
 .rename_i u hs;cases e;have⟨v,d,l,rfl⟩:=c.sl i _ _ hs;have⟨n,o⟩:=c.GF (Nx.refl c0) hs d;have p:i<c0.st.length:=(dt.mp hs).1;show bO f g j k b s c0.σ c0.H Q I ⟨.ref l,d,h {c0 with S:=λa=>c0.S a\/a∈c0.kid i,st:=c0.st.set i (a5 (.own,u))} (.ref l) rfl rfl n o ⟨⟨.own,rfl,d4 p⟩,d⟩⟩
 .show m b s c0.σ c0.H Q I ⟨c0,rfl,rfl,c,r,st',e,h⟩
end
section
def gD{st:aw}(h:W (iK i) st Q):∃ks us,st[i]?=a5 (a5 (.IL,.IQ ks us))/\Q (ks,us) st:=by
 have⟨r,st',e,q⟩:=h;unfold iK at e;split at e
 .rename_i ks us hs;cases e;show⟨ks,us,hs,q⟩
 .cases e
def gE{st:aw}(h:W (j6 x) st Q):∃y,x.2=.str y/\Q y st:=by
 unfold j6 at h;split at h
 .rename_i y e;rw[aq]at h;show⟨y,e,h⟩
 .show(bp.mp h).elim
def Ok.IQ(d:Ok C c)(f:c.st[i]?=a5 (a5 (.IL,.IQ ks us))):∃(r:d8) (kvs:List (Key×V)),c.σ[i]?=a5 (a5 (.ref r))/\c.H r=a5 (.dK kvs)/\kvs.map (·.1)=ks.map mu/\kvs.map (·.2)=(c.kid i).map V.ref /\
  (r::c.kid i).Nodup/\du C c.S c.H us (c.kid i)/\(∀y:Str,(dG kvs (mu y)).isSome=cK (y∈ks))/\∀(y:Str) (u:U),dI ks us y=a5 u->∃v,dG kvs (mu y)=a5 v/\Rep C (λa=>c.S a\/a∈c.kid i) c.H u v:=by
 have⟨v,e,r,rfl⟩:=d.sl i _ _ f;have⟨kvs,k,b,g,l,n,h⟩:=d.dd.kd i _ r f e;have j:au C (λa=>c.S a\/a∈c.kid i) c.H us (kvs.map (·.2)):=by rw[g];show h.rep (λa=>.inl) λa m=>.inr m
 show⟨r,kvs,e,k,b,g,l,h,λy=>(dJ (x:=y) b j).2,λy=>(dJ (x:=y) b j).1⟩
def qD{k:Str->List Str×List U->M β}{Post:β->aw->Prop}{Z:V->V->Hp->Prop}(l:Ok C c0)(h:W (m >>= λx=>j6 x >>= λy=>iK i >>= λd=>k y d) c0.st Post)
  (hz:∀(c:Cf) (y:Str) (ks:List Str) (us:List U) (r:d8) (kvs:List (Key×V)),c.σ=c0.σ->Ok C c->Nx c0 c->c.H r=a5 (.dK kvs)->(dG kvs (mu y)).isSome=cK (y∈ks)->W (k y (ks,us)) c.st Post->Z (.str y) (.ref r) c.H) :
  IX C m c0.σ c0.H λv o=>∃b,c0.σ[i]?=a5 (a5 b)/\Z v b o:=by
 show⟨c0,rfl,rfl,l,?_⟩;rw[ah]at h;show W.mono h λx st' w c v f hs a n r=>?_;subst hs;have⟨t,u⟩:=x;rw[ah]at w;have⟨y,e,g⟩:=gE w;clear w
 dsimp only at e r
 subst e;have ev:v=.str y:=r.str a;subst ev;rw[ah]at g;have⟨ks,us,hs,w⟩:=gD g;obtain⟨j,kvs,p,q,_,_,_,_,s,_⟩:=a.IQ hs;show⟨.ref j,by rw[<-f];show p,hz c y ks us j kvs f a n q (s y) w⟩
abbrev EI(neg:Bool):CmpOp:=if neg=b6 then .NotIn else .In
def EJ(c:∀j,ns j=b6->j≠i)(d:X.N.Nodup)(b:X.N[i]?=a5 x)(f:Loc X.env.scope x)(g:X.fn x=b6\/X.env.scope.names.lookup x=a5 .local)
  (hs:OT (.Dict [] [] p) (a5 (.Name x pos')) pos.line X.env=pure cc):L2.PS X (.Assign [.Name x pos'] (.Dict [] [] p) pos) (JH C ns (CM i >>= λ_=>pure .nx)):=by
 rintro a s σ H D I ⟨c0,rfl,rfl,k,h⟩;have l:i<c0.σ.length:=by rw[I.len];show(dt.mp b).1
 show rK d b f pY hs g a s c0.σ c0.H D I λq m=>?_;have⟨n,o⟩:=k.newD m l;rw[ah]at h;obtain⟨_,st',e,w⟩:=h;cases e;rw[aq]at w;show w _ rfl n o ⟨λj r=>gc (nH (c j r)),by simp⟩
end
section
def BG(G:X.A.units+60<K2)(p:X.N[i]?=a5 x)(q:Ks X.env.scope x)(t:(x==("__debug__":Str))=cc)(u:(x==("__classdict__":Str))=cc)(v:PE X a (IX C D))(z:Q6 (EI neg) (.Name x p2)=cc):
  PT X (.Compare a [EI neg] [.Name x p2] pos) (Ka C (D >>= λx=>j6 x >>= λy=>iK i >>= λd=>pure (TQ neg y d.1))):=by
 rintro e s σ H Q I ⟨c0,rfl,rfl,B,h⟩;cases neg with
 |false =>
  show xf (DR ⋯ v (bO p q t u)) z e s c0.σ c0.H Q I (qD (Z:=λy x f=>∃a o,x=V.ref a/\fh f a y o/\∃b,V.bl o.isSome=.bl b/\Q b f) B h λc y ks us r kvs g j n l m w=>?_);rw[aq]at w;show⟨r,_,rfl,fh.k (k:=mu y) l,?_⟩;rw[m];show⟨_,rfl,w c g rfl j n⟩
 |true =>
  show xf (vW ⋯ v (bO p q t u)) z e s c0.σ c0.H Q I (qD (Z:=λy x f=>∃a o,x=V.ref a/\fh f a y o/\∃b,V.bl (!o.isSome)=.bl b/\Q b f) B h λc y ks us r kvs g j n l m w=>?_);rw[aq]at w;show⟨r,_,rfl,fh.k (k:=mu y) l,?_⟩;rw[m];show⟨_,rfl,w c g rfl j n⟩
theorem du.snoc{S:d8->Prop}{a:d8}(b:H a=a5 (.lst vs))(c:au C S H d vs):∀{us:List U}{as:List d8},du C S H us as->du C S H (us++[.lst d]) (as++[a])
 |[],as,h=>by cases h;show⟨a,[],d,vs,rfl,rfl,b,c,rfl⟩
 |u::us,as,h=>by
  have⟨a',as',f,g,rfl,e,i,j,k⟩:=h;show⟨a',as'++[a],f,g,rfl,e,i,j,du.snoc b c k⟩
def sD{st:aw}(h:W (lj i y r) st Q):∃us ks vs,r=(.own,.lst us)/\st[i]?=a5 (a5 (.IL,.IQ ks vs))/\y∉ks/\ks.length<cL/\Q () (st.set i (a5 (.IL,.IQ (ks++[y]) (vs++[.lst us])))):=by
 have⟨k,u⟩:=r;cases k<;>cases u<;>first|show(bp.mp h).elim|skip
 rename_i us;obtain⟨_,st',e,q⟩:=h;unfold lj at e
 dsimp only at e
 split at e
 .rename_i ks vs hs;split at e
  .rename_i hz;cases e;show⟨us,ks,vs,rfl,hs,hz.1,hz.2,q⟩
  .cases e
 .cases e
def EK{i:Nat}{x:Str}{j:Pos}(hu:X.A.units+60<K2)(hN:X.N[i]?=a5 x)(hv:Ks X.env.scope x)(hd:(x==("__debug__":Str))=cc)(Ju:(x==("__classdict__":Str))=cc)
  (ha:PE X a (IX C ma)) (B:PE X b (IX C mb)) (hs:Q5 [.Subscript (.Name x j) b p] a pos.line X.env=pure cc) (Ui:Vq [.Subscript (.Name x j) b p] a X.env=pure b8)
  (G:∀v,Sh (.Subscript (.Name x j) b p) X.env v=(do
   let n <-Mj [v] (u7 (.Name x j) X.env)
   let I <-Mj [v,n] (u7 b X.env)
   X' p
   Mj [v,n,I] (Tt n I v)
   Wo [v,n,I] [])) :
  L2.PS X (.Assign [.Subscript (.Name x j) b p] a pos) (JH C ns (ma >>= λr=>iK i >>= λ_=>mb >>= λx=>j6 x >>= λy=>lj i y r >>= λ_=>pure .nx)):=by
 show PS.weak (rJ ha (xm (bO hN hv hd Ju) B (set_dict (X:=X) ⋯) G) hs Ui rfl) ?_;rintro D σ H ⟨c0,rfl,rfl,O,h⟩;show aM O h λr c v t w=>?_;rw[ah]at w;have⟨VY,Um,J',w⟩:=gD w;obtain⟨Q,Oy,T,g0,_⟩:=t.ok.IQ J';show⟨.ref Q,by rw[<-t.hσ];show T,?_⟩;rw[ah]at w;show⟨c,t.hσ,rfl,t.ok,w.mono λy st2 Y J vy s e4 u n2 r2=>?_⟩;subst e4;rw[ah]at Y;have⟨ky,uy⟩:=y;have⟨y,ey,w3⟩:=gE Y
 dsimp only at ey r2
 subst ey;have ev:vy=.str y:=r2.str u;subst ev;rw[ah]at w3;have⟨us,ks,vs,L,g,Rb,l,q⟩:=sD w3;subst L;rw[aq]at q;obtain⟨m,kvs,d,g1,g2,g3,g4,g5,g6,_⟩:=u.IQ g;have L:m=Q:=by rw[s,<-t.hσ,T]at d;cases d;rfl
 subst L;have⟨f,rfl,k1,k2,k3,Js,k4,k5⟩:=t.rx.w.on t.ok n2.toNs (s.trans t.hσ.symm);have Uj:=t.nx.trans n2;have hl:kvs.length=ks.length:=by have:=Ł wh g2;simpa using this
 have MG:dG kvs (mu y)=b8:=by
  have:=g6 y;rw[ľ Rb]at this;cases hq:dG kvs (mu y) with
  |none=>rfl
  |some _=>rw[hq]at this;cases this
 show⟨m,_,rfl,vT.k (k:=mu y) g1 (by rw[hl];show l),?_⟩;rw[xD _ MG];have Ry:f∉J.kid i:=λz=>k3 (.inr ⟨i,_,_,g,d,.inr z⟩);have VZ:f≠m:=λz=>k3 (.inr ⟨i,_,_,g,d,.inl z⟩);have rd:=u.dd.kd i _ _ g d;have fr:=cv.fr rd;have⟨LA,n3⟩:=Ok.GD (H':=upd J.H m (.dK (kvs++[(mu y,.ref f)]))) (u':=.IQ (ks++[y]) (vs++[.lst us])) (as':=J.kid i++[f]) u Uj.toNs g d
  (λa ne=>ak λz=>ne ⟨_,_,g,d,.inl z⟩) (λa o e=>by
   by_cases hz:a=m
   .subst hz;show⟨_,ax⟩
   .rw[ak hz];show⟨o,e⟩)
  (λmv=>by
   show⟨_,ax,by rw[ki,g2,ki];rfl,by rw[ki,g3,ki];rfl,?_,λa ha=>?_,?_⟩
   .rw[<-Î,rz];show⟨g4,by simp,λa ha b B=>by
     have:b=f:=by simpa using B
     subst this;rintro rfl;rcases d6.mp ha with z|z
     .show VZ z
     .show Ry z⟩
   .rw[<-Î]at ha;rcases i1.mp ha with ha|ha
    .show fr a ha
    .have:a=f:=by simpa using ha
     subst this;obtain⟨z1,_,z3,_⟩:=O.j5 k1;show⟨k2,z3,z1⟩
   .show du.snoc (by rw[ak VZ];show k4) (k5.mv mv) (du.mv mv (λa ha o e=>by
     rw[ak (λz=>(mh.mp g4).1 (by rw[<-z];show ha))];show e) g5))
  (λa ha=>by
   rcases i1.mp ha with ha|ha
   .show .inl ha
   .have:a=f:=by simpa using ha
    subst this;show .inr ⟨k3,k1⟩)
 have z:=q _ rfl LA n3 (Kept.of s);rw[<-s];show z
theorem du.at{S:d8->Prop}:∀{ks:List Str}{us:List U}{as:List d8}{kvs:List (Key×V)}{u:U},kvs.map (·.1)=ks.map mu->kvs.map (·.2)=as.map V.ref->as.Nodup->du C S H us as->dI ks us y=a5 u ->
  ∃a ws f,dG kvs (mu y)=a5 (.ref a)/\a∈as/\u=.lst f/\H a=a5 (.lst ws)/\au C S H f ws/\∀(H':Hp) (c:List U) (d:List V),Mv S H S H'->H' a=a5 (.lst d)->au C S H' c d->(∀b∈as,b≠a->H' b=H b)->du C S H' (jn ks us y (.lst c)) as
 |[],us,as,kvs,u,_,_,_,_,h=>by cases us<;>cases h
 |k::ks,[],as,kvs,u,_,_,_,_,h=>by cases h
 |k::ks,Q::us,as,kvs,u,g,q,i,hk,h=>by
  have⟨a,as',f,ws,rfl,rfl,t,v,w⟩:=hk;cases kvs with
  |nil=>simp at g
  |cons p kvs =>
   rw[d7,d7,OA]at g q;rw[mh]at i;by_cases j:k=y
   .subst j;simp only[dI,if_true]at h;cases h;show⟨a,ws,f,by rw[eQ g.1,q.1],by simp,rfl,t,v,λH' c d l r s m=>?_⟩;simp only[jn,if_true];show⟨a,as',c,d,rfl,rfl,r,s,du.mv l (λb n o e=>by rw[m b (by simp[n]) (λz=>i.1 (z▸n))];show e) w⟩
   .simp only[dI,Ľ j]at h;have⟨x,B,D,G,A,I,J,L,N⟩:=du.at g.2 q.2 i.2 w h;show⟨x,B,D,?_,by simp[A],I,J,L,λH' c d l r s m=>?_⟩
    .rw[eR (by rw[g.1];intro z;show j (U9 z))];show G
    .simp only[jn,Ľ j];have O:a≠x:=λz=>i.1 (z▸A);show⟨a,as',f,ws,rfl,rfl,by rw[m a (by simp) O];show t,v.mv l,N H' c d l r s λb n=>m b (by simp[n])⟩
def sE{st:aw}(h:W (ll i y u) st Q):∃ks vs xs,st[i]?=a5 (a5 (.IL,.IQ ks vs))/\dI ks vs y=a5 (.lst xs)/\xs.length<cL/\Q () (st.set i (a5 (.IL,.IQ ks (jn ks vs y (.lst (xs++[u])))))):=by
 obtain⟨_,st',e,q⟩:=h;unfold ll at e;split at e
 .rename_i ks vs hs;split at e
  .rename_i xs a;split at e
   .rename_i hz;cases e;show⟨ks,vs,xs,hs,a,hz,q⟩
   .cases e
  .cases e
 .cases e
abbrev yI(C:Ct)(m:M (Kd×U)):TE:=λσ H Q=>∃c0:Cf,c0.σ=σ/\c0.H=H/\Ok C c0/\W m c0.st λr st'=>∀c v,c.σ=σ->c.st=st'->Ok C c->Nx c0 c->(∀a o,c0.H a=a5 o->c.H a=a5 o)->aN C c0 c r.1 r.2 v->Q v c.H
def wA(b:Ok C c0)(h:W (d >>= k) c0.st Post)
  (hz:∀x c v,Lx C c0 c x v->(∀a o,c0.H a=a5 o->c.H a=a5 o)->W (k x) c.st Post->Z v c.H):yI C d c0.σ c0.H Z:=by
 rw[ah]at h;show⟨c0,rfl,rfl,b,h.mono λx st1 e c1 f g i j l m n=>hz x c1 f ⟨g,j,l,n⟩ m (by rw[i];show e)⟩
def yJ(d:X.N[i]?=a5 x)(f:Ks X.env.scope x)(g:(x==("__debug__":Str))=cc)(l:(x==("__classdict__":Str))=cc):PE X (.Name x pos) (yI C (c_ i)):=by
 show PE.weak (bO d f g l) ?_;rintro σ H Q ⟨c0,rfl,rfl,b,r,st',e,h⟩;unfold c_ at e;split at e
 .cases e
 .rename_i k u m hs;cases e;have⟨v,c,a⟩:=b.sl i k u hs;show⟨v,c,h c0 v rfl rfl b (Nx.refl c0) (λ_ _ z=>z) ?_⟩;by_cases hk:k.root=b6
  .rw[ļ hk];show⟨⟨k,hk,hs⟩,c⟩
  .rw[Ľ hk];cases k with
   |loc=>show a
   |any=>show a
   |bor j=>show a.elim
   |IL=>show(m rfl).elim
   |_=>show absurd rfl hk
 .cases e
def iU(h:PE X e (tC v))(r:∀S H,Rep C S H u v):PE X e (yI C (pure (.loc,u))):=by
 show PE.weak h ?_;rintro σ H Q ⟨c0,rfl,rfl,a,h⟩;rw[aq]at h;show h c0 v rfl rfl a (Nx.refl c0) (λ_ _ z=>z) (r _ _)
def EL(hK:C.K=X.K)(hu:X.A.units+60<K2)(hN:X.N[i]?=a5 x)(hv:Ks X.env.scope x)(hd:(x==("__debug__":Str))=cc)(Ju:(x==("__classdict__":Str))=cc)(G:PE X a (IX C ma))(hb:PE X b (IX C mb))(Rz:DQ b)
  (J4:((C1 I (hW [a] X.env)).all (λx=>!x.1)&&(Qt I (LD [] X.env)).all (λx=>x.1.isSome)
   && cK ([a].length+([]:List Oc).length+(if ([]:List Oc).isEmpty then 0 else 1)<30))=b6)
  (Jc:(j.endLine==I.line)=b6) (IZ:hW [a] X.env=[(cc,u7 a X.env)]) :
  L2.PS X (.Expr (.Call (.Attribute (.Subscript (.Name x px) b p) "append" j) [a] [] I) pos) (JH C ns (iK i >>= λ_=>mb >>= λx=>j6 x >>= λy=>iK i >>= λd=>if y∈d.1 then(ma >>= λr=>lift r >>= λu=>ll i y u >>= λ_=>pure .nx) else M.fail)):=by
 show PS.weak (kb (mM PySem.F.plainAttrs_list PySem.F.slot_list_append PySem.F.type_list_append mP (AQ ⋯ (bO hN hv hd Ju) hb Rz) (cS G fg IZ) rfl J4 Jc IZ rfl)) ?_;rintro D σ H ⟨c0,rfl,rfl,ok,h⟩;rw[ah]at h;have⟨VY,Um,J',h⟩:=gD h;obtain⟨r0,Oy,J,g0,_⟩:=ok.IQ J';show⟨.ref r0,J,?_⟩;show aM ok h λry c vy t w=>?_;rw[ah]at w;have⟨ky,uy⟩:=ry;have⟨y,ey,w1⟩:=gE w
 dsimp only at ey
 subst ey;have ev:vy=.str y:=t.rx.str t.ok;subst ev;rw[ah]at w1;have⟨ks,us,hs,l⟩:=gD w1
 dsimp only at l
 by_cases L:y∈ks
 case neg=>rw[Ľ L]at l;show(bp.mp l).elim
 rw[ļ L]at l;obtain⟨O,kvs,f1,g1,g2,g3,g4,g5,g6,_⟩:=t.ok.IQ hs;have Q:O=r0:=by rw[t.hσ,J]at f1;cases f1;rfl
 subst Q;have NJ:=g6 y;rw[Ŀ L]at NJ;have⟨v0,s⟩:=RV.mp NJ;have KP:v0∈(c.kid i).map V.ref:=by
  rw[<-g3];unfold dG at s;have⟨q,hq,rfl⟩:=eH.mp s;show Zp (List.mem_of_find?_eq_some hq)
 have⟨f,Yl,rfl⟩:=i6.mp KP;have⟨Ym,Uo⟩:=g5.mem Yl;show⟨O,.ref f,rfl,by rw[<-s];show fh.k (k:=mu y) g1,Or.inl ⟨rfl,Ym,.inl (.inl Uo)⟩,?_⟩;rw[<-t.hσ];show aM t.ok l λr g v t' w3=>?_;rw[ah]at w3;obtain⟨S',st',u,sS,T,n1,m,w4,_,_⟩:=iO t.ok t'.ok t'.nx t'.rx.w w3;rw[ah]at w4;have⟨Mi,Js,xs,n,hx,hz,q⟩:=sE w4;rw[aq]at q;obtain⟨B,Y,k1,k2,k3,k4,k5,k6,_,_⟩:=T.IQ n;have V0:g.σ[i]?=a5 (a5 (.ref B)):=k1;have Q:B=O:=by rw[t'.hσ,t.hσ,J]at V0;cases V0;rfl
 subst Q;have ZN:g.H B=a5 (.dK Y):=k2;have Up:Y=kvs:=by have:=(n1.dk _ ⟨i,_,_,n,k1,.inl rfl⟩).2 _ g1;rw[show _=_ from k2]at this;cases this;rfl
 subst Up;have nd:=(mh.mp k5).2;have⟨a2,ws,ys,l1,l2,l3,l4,l5,l6⟩:=du.at k3 k4 nd k6 hx;cases l3;rw[s]at l1;cases l1;have Yn:g.H f=a5 (.lst ws):=l4;show⟨f,ws,v,rfl,rfl,Yn,by rw[<-l5.len];show hz,?_⟩;have JS:f≠B:=λz=>(mh.mp k5).1 (z▸l2);have⟨Jm,n2⟩:=Ok.GD (c:={g with S:=S',st:=st' }) (H':=upd g.H f (.lst (ws++[v]))) (u':=.IQ Mi (jn Mi Js y (.lst (xs++[u])))) (as':=g.kid i) T (t.nx.trans n1).toNs n k1
  (λa ne=>ak λz=>ne ⟨_,_,n,k1,.inr (z▸l2)⟩) (λa o e=>by
   by_cases hz:a=f
   .subst hz;show⟨_,ax⟩
   .rw[ak hz];show⟨o,e⟩)
  (λmv=>⟨Y,by rw[ak (nH JS)];show k2,k3,k4,k5,cv.fr (T.dd.kd i _ _ n k1),l6 _ _ _ mv ax ((l5.mv mv).snoc (m.mv mv)) λb _ ne=>ak ne⟩)
  (λa G=>.inl G)
 have z:=q _ rfl Jm n2 (Kept.of (t'.hσ.trans t.hσ));rw[<-t'.hσ];show z
end
section
def yK{st:aw}(h:W (TR u) st Q):∃ks us,u=.IQ ks us/\Q () st:=by
 cases u<;>first|show(bp.mp h).elim|skip
 show⟨_,_,rfl,aq.mp h⟩
def ni{st:aw}(h:W (oW x) st Q):∃j,x.2=.int j/\Q j st:=by
 unfold oW at h;split at h
 .rename_i y e;rw[aq]at h;show⟨y,e,h⟩
 .show(bp.mp h).elim
def nj{st:aw}(h:W (qy i) st Q):∃k us,k.root=b6/\st[i]?=a5 (a5 (k,.lst us))/\Q us st:=by
 have⟨r,st',e,q⟩:=h;unfold qy at e;split at e
 .rename_i k us hs;split at e
  .rename_i hk;cases e;show⟨k,_,hk,hs,q⟩
  .cases e
 .cases e
theorem qE:∀{ks:List Str}{us:List U},y∈ks->ks.length=us.length->dI ks us y=b8->False
 |[],us,h,_,_=>by cases h
 |k::ks,[],_,h,_=>by simp at h
 |k::ks,u::us,h,hl,e=>by
  by_cases hk:k=y
  .simp[dI,hk]at e
  .simp only[dI,Ľ hk]at e;rcases d6.mp h with h|h
   .show hk h.symm
   .show qE h (by simpa using hl) e
def yL{i:Nat}{x:Str}{D:Pos}(hu:X.A.units+60<K2)(hN:X.N[i]?=a5 x)(hv:Ks X.env.scope x)(hd:(x==("__debug__":Str))=cc)(Ju:(x==("__classdict__":Str))=cc)
  (ha:PE X a (IX C ma)) (hb:PE X b (IX C mb)) (hm:M2 X (.Name x D) "get" e a b G') :
  PE X (.Call (.Attribute (.Name x D) "get" e) [a,b] [] G') (IX C (c_ i >>= λx=>TR x.2 >>= λ_=>ma >>= λy=>j6 y >>= λy=>mb >>= λz=>lift z >>= λu=>c_ i >>= λx=>M.Jf (Bb x y u))):=by
 rintro f s σ H Q I ⟨c0,rfl,rfl,p,h⟩;show xG ⋯ (bO hN hv hd Ju) ha hb hm f s c0.σ c0.H Q I ?_;rw[ah]at h;have⟨k0,u0,Uq,J',h⟩:=cO h;have⟨v0,G,t0⟩:=p.slot Uq J';rw[ah]at h;have⟨VY,Um,J,h'⟩:=yK h
 dsimp only at J
 subst J;obtain⟨a0,Oy,rfl,g0,_⟩:=t0.dict p;show⟨.ref a0,G,a0,rfl,.inl ⟨Oy,.inl g0⟩,?_⟩;show aM p h' λry c vy t w=>?_;rw[ah]at w;have⟨ky,uy⟩:=ry;have⟨y,L,w1⟩:=gE w
 dsimp only at L
 subst L;have ev:vy=.str y:=t.rx.str t.ok;subst ev;rw[<-t.hσ];show aM t.ok w1 λz g vz j O=>?_;rw[ah]at O;obtain⟨S',st',u,sS,B,n1,l,T,_,_⟩:=iO t.ok j.ok j.nx j.rx.w O;rw[ah]at T;have⟨k,u1,Yo,KR,w5⟩:=cO T;have⟨r,d,q⟩:=bI.mp w5;have⟨v1,e1,t1⟩:=B.slot Yo KR;have Y:g.σ[i]?=a5 (a5 v1):=e1;rw[j.hσ,t.hσ,G]at Y;cases Y;cases u1<;>first|(simp only[Bb]at d;cases d;done)|skip
 rename_i ks us;have⟨a1,kvs,ea,g1,g2,g3⟩:=t1.dict B;cases ea;have RB:g.H a0=a5 (.dK kvs):=g1;show⟨_,fh.k (k:=mu y) RB,?_⟩;simp only[Bb]at d;have⟨l1,l2⟩:=dJ (x:=y) g2 g3;have m:∀v:V,aN C c0 {g with S:=S',st:=st' } r.1 r.2 v->Q v g.H:=λv z=>q {g with S:=S',st:=st' } v (j.hσ.trans t.hσ) rfl B (t.nx.trans n1) z;cases o:dI ks us y with
 |some w =>
  rw[o]at d;cases d;have⟨v,ev,rv⟩:=l1 w o;rw[ev];show m v ?_;show aN.item (k:=if k.root=b6 then .bor i else k) rv
 |none =>
  rw[o]at d;cases d;have MG:dG kvs (mu y)=b8:=by
   cases hq:dG kvs (mu y) with
   |none=>rfl
   |some v =>
    exfalso
    rw[hq]at l2;have hy:y∈ks:=by simpa using l2.symm
    have n:ks.length=us.length:=by have h1:=Ł wh g2;have h2:=g3.len;simp at h1 h2;lia
    show qE hy n o
  rw[MG];show m vz l
def yM:FI X (λo i H Q=>∃p xs j v,o=.ref p/\i=.int j/\H p=a5 (.lst xs)/\0<=j/\xs[j.toNat]?=a5 v/\Q v H):=by
 rintro a s σ H o i l m Q I c d ⟨p,xs,j,v,rfl,rfl,e,f,b,q⟩;cases c;have⟨t,rfl⟩:=d;have⟨n,r,g,hz⟩:=I.list (.inl (.inl e));have⟨w,h,k⟩:=r.get b;have hl:=r.length;have u:=fP;have x:=(dt.mp b).1;show wpAny_getItem_list g.isList f ⋯ (by simpa using h) ⟨v,H,I,k,q⟩
def BH:PB X (if sub=b6 then .Sub else .Add) (R5 (wq sub)):=by
 cases sub with
 |true=>show Dz
 |false=>show xn
def GG(hN:X.N[i]?=a5 x)(hv:Ks X.env.scope x)(hd:(x==("__debug__":Str))=cc)(Ju:(x==("__classdict__":Str))=cc)
  (ha:PE X a (yI C ma)) (hb:PE X b (IX C mb))
  (m:∀e f new,Į b e f new=(do Mj [new,e,f] (Tt e f new);Wo [new,e,f] [];pure .next)) :
  L2.PS X (.AugAssign (.Subscript (.Name x px) b p) (if sub=b6 then .Sub else .Add) a pos) (JH C ns (qy i >>= λ_=>mb >>= λy=>oW y >>= λj=>qy i >>= λus=>M.Jf (qz us j) >>= λo=>ma >>= λz=>oW z >>= λw=>modS i (eG (.int j) (.int (wq sub o w))) >>= λ_=>pure .nx)):=by
 show PS.weak (Ax (bO hN hv hd Ju) hb yM ha BH set_list m) ?_;rintro D σ H ⟨c0,rfl,rfl,u,h⟩;rw[ah]at h;have⟨k0,Um,Kh,J',h⟩:=nj h;have⟨v0,n,LU⟩:=u.sl i _ _ J';obtain⟨a0,rfl,_,_,_,_⟩:=LU.rt Kh;show⟨.ref a0,n,?_⟩;show aM u h λry c vy t w=>?_;rw[ah]at w;have⟨ky,uy⟩:=ry;have⟨j,v,A⟩:=ni w
 dsimp only at v
 subst v;have ev:vy=.int j:=t.rx.int t.ok;subst ev;rw[ah]at A;have⟨k1,Ur,Qh,KR,B⟩:=nj A;rw[ah]at B;have⟨o,ho,w3⟩:=bI.mp B;have⟨v1,G,Yp⟩:=t.ok.sl i _ _ KR;obtain⟨a1,rfl,_,_,_,Qx⟩:=Yp.rt Qh;rw[t.hσ,n]at G;cases G;have⟨vs,I,g2⟩:=Qx;unfold qz at ho;split at ho
 case isFalse=>cases ho
 rename_i P_;split at ho
 case h_2=>cases ho
 rename_i o' Us;cases ho;have⟨vo,Yq,Yr⟩:=g2.get Us;have Ys:vo=.int o:=Yr;subst Ys;show⟨a0,vs,j,_,rfl,rfl,I,P_,Yq,?_⟩;rw[<-t.hσ];show wA t.ok w3 λz r vz d all2 J=>?_;rw[ah]at J;have⟨kz,uz⟩:=z;have⟨w,L,O⟩:=ni J
 dsimp only at L
 subst L;have ev:vz=.int w:=d.rx.int d.ok;subst ev;show⟨o,w,rfl,rfl,?_⟩;rw[ah]at O;have⟨k,u1,u2,hk,Q,g,q⟩:=gC O;rw[aq]at q;have⟨v2,s,Nq⟩:=d.ok.sl i _ _ Q;obtain⟨a2,rfl,_,_,_,Qy⟩:=Nq.rt hk;have Yt:=s;rw[d.hσ,t.hσ,n]at s;cases s;have T:r.H a0=a5 (.lst vs):=all2 _ _ I;cases u1 with
 |lst xs =>
  simp only[eG,eH]at g;have⟨l,Lm,rfl⟩:=g;have⟨ZO,Y,l2⟩:=Qy;rw[T]at Y;cases Y;show⟨a0,vs,j,l,rfl,rfl,T,by rw[<-l2.len];show Lm,?_⟩;have⟨LA,n3⟩:=Ok.mod (c:=r) (H':=upd r.H a0 (.lst (vs.set l (.int (wq sub o w))))) (u':=.lst (xs.set l (.int (wq sub o w)))) d.ok (t.nx.trans d.nx).toNs hk Q Yt (λa ne=>ak ne) ⟨_,ax⟩ λmv=>⟨_,ax,(l2.mv mv).set l rfl⟩
  have z:=q _ rfl LA n3 (Kept.of (d.hσ.trans t.hσ));rw[<-d.hσ];show z
 |IQ ks vs=>simp[eG]at g
 |_=>simp[eG]at g
end
section
def BI{ks:List Str}(c:kvs.map (·.1)=ks.map mu)(d:kvs.map (·.2)=ns.map V.int):kvs=(ks.zip ns).map λp=>((mu p.1:Key),V.int p.2):=by
 induction kvs generalizing ks ns with
 |nil =>
  cases ks with
  |nil=>rfl
  |cons _ _=>cases c
 |cons kv kvs e =>
  cases ks with
  |nil=>cases c
  |cons k ks =>
   cases ns with
   |nil=>cases d
   |cons n ns =>
    have⟨a,b⟩:=kv;simp only[d7,OA]at c d;have⟨rfl,c⟩:=c;have⟨rfl,d⟩:=d;rw[e c d];rfl
theorem au.of_map{S:d8->Prop}{f:α->U}{g:α->V}:∀{l:List α},(∀x∈l,Rep C S H (f x) (g x))->au C S H (l.map f) (l.map g)
 |[],_=>rfl
 |x::l,h=>⟨g x,l.map g,rfl,h x (by simp),au.of_map λy a=>h y (by simp[a])⟩
def BJ(Y:X.calm=b6)(hK:C.K=X.K)(hg:Gl X "sorted")(hm:X.mg "sorted"=b8)(hN:X.N[i]?=a5 x)(hv:Ks X.env.scope x)(hd:(x==("__debug__":Str))=cc)(Ju:(x==("__classdict__":Str))=cc)(Jc:(b.endLine==l.line)=b6):
  PE X (.Call (.Name "sorted" p) [.Call (.Attribute (.Name x n) "items" b) [] [] l] [] pos) (IX C (c_ i >>= λx=>M.Jf (ym x.2))):=by
 rintro f s σ H Q I ⟨c0,rfl,rfl,m,h⟩;show sL (dh I hg hm (show t7 "sorted"=a5 (.builtin "sorted") by decide +kernel) ?_ (by decide +kernel) (by decide +kernel));rw[ah]at h;have⟨k0,u0,Uq,J',h⟩:=cO h;have⟨v0,e0,t0⟩:=m.slot Uq J';have⟨r,c,k⟩:=bI.mp h
 dsimp only at c
 unfold ym at c;split at c
 rotate_left
 .cases c
 rename_i ks us;rw[sx]at c;have⟨ns,en,c⟩:=c;split at c
 rotate_left
 .cases c
 rename_i Ut;cases c;have⟨Lb,Jj,u⟩:=Ut;have⟨d,kvs,rfl,B,Kh,D⟩:=t0.dict m;rw[jL en]at D;have Up:=BI Kh (au.ints D);subst Up;have ek:((ks.zip ns).map (·.1))=ks:=Ê ⋯;have g:d3 (et X.prog X.w) X.A (u7 (.Call (.Attribute (.Name x n) "items" b) [] [] l) X.env) (λv s1=>d3 (et X.prog X.w) X.A (NW (.builtin "sorted") [v]) (EP X f c0.σ Q) X.xe s1) X.xe s:=by
  show S6 rfl Jc (I0 (bO hN hv hd Ju f s c0.σ c0.H (λv G=>v=.ref d/\G=c0.H) I ⟨_,e0,rfl,rfl⟩) λv s1 Uu=>?_);have⟨x1,G,J,r1,z1,z2⟩:=Uu;subst z1 z2;cases(show v=ko d from r1);have⟨h1,h2⟩:=oC (T:="dict") J (x:=.ref d) rfl (.inr (.inr (.inl ⟨rfl,.inl ⟨_,B⟩⟩)));show⟨"dict","dict.items",PySem.F.plainAttrs_dict,PySem.F.slot_dict_items,PySem.F.type_dict_items,h1,h2,zy rfl (PySem.evalArgs_none (oR Y J B (by rw[ek];show Jj) (by rw[VG];lia) λas L hl nd O hL=>?_))⟩;have q:c0.H L=b8:=O L (by simp);have Yu:(as.zip ((ks.zip ns).map MT)).map (·.1)=as:=Ê (by rw[c4];lia);have Yv:∀p∈as.zip ((ks.zip ns).map MT),p.1∈as:=λp t=>(QO t).1;have same:pW c0.H (upd (j4 c0.H (as.zip ((ks.zip ns).map MT))) L (.lst ((j3 ((ks.zip ns).map (·.1))).map λi=>V.ref (as.getD i 0)))):=λa o e=>by
   have n1:a≠L:=λy=>by rw[y,q]at e;cases e
   rw[ak n1,k_ λp t y=>?_]
   .show e
   .have:=O p.1 (by simp[Yv p t]);rw[y,e]at this;cases this
  have⟨Je,n'⟩:=m.grow (S':=c0.S) same (λa z=>.inl z) λa z=>z;have⟨q1,q2,q3,q4,q5⟩:=m.j5 q;show k {c0 with H:=upd (j4 c0.H (as.zip ((ks.zip ns).map MT))) L (.lst ((j3 ((ks.zip ns).map (·.1))).map λi=>V.ref (as.getD i 0))),S:=c0.S} _ rfl rfl Je n' ⟨L,rfl,q,q2,q5,_,ax,?_⟩;change au C c0.S _ ((A9 (ks.zip ns)).map wm) _;unfold A9;rw[i4];show au.of_map λj hj=>?_;have Lm:j<(ks.zip ns).length:=by
   have:=u5.mp ((gy _).mem_iff.mp hj);rw[c4]at this;show this
  have TB:j<as.length:=by lia
  have e1:(ks.zip ns).getD j (tv,0)=(ks.zip ns)[j]:=(List.getElem_eq_getD _).symm;have e2:as.getD j 0=as[j]:=by simp[Oz,TB]
  change Rep C c0.S _ (wm ((ks.zip ns).getD j (tv,0))) (V.ref (as.getD j 0));rw[e1,e2];show⟨as[j],MT (ks.zip ns)[j],rfl,JI.of ?_,⟨_,_,rfl,rfl,_,_,rfl,rfl,rfl⟩⟩;have JS:as[j]≠L:=λy=>hL (by rw[<-y];simp);show(ak JS).trans (uw (by rw[Yu];show nd) (vs:=MT (ks.zip ns)[j]) ?_);show Zg.mpr ⟨j,by rw[VG,c4];lia,?_⟩;rw[List.getElem_zip,Vz]
 have eb:C1 pos (hW [.Call (.Attribute (.Name x n) "items" b) [] [] l] X.env)=[(cc,u7 (.Call (.Attribute (.Name x n) "items" b) [] [] l) X.env)]:=rfl;have Yw:Qt pos (LD [] X.env)=[]:=rfl;rw[eb,Yw];show o_ g
end
section
def uM(f:X.calm=b6)(g:C.K=X.K)(i:Gl X "set")(j:X.mg "set"=b8)(m:PE X a (IX C n))(hs:hW [a] X.env=[(cc,u7 a X.env)])(I:Inv X b c0.σ c0.H s)(r:Ok C c0)
  (h:W (n >>= λx=>M.Jf (ie x.2) >>= k) c0.st Post)
  (u:∀(S:d8) (o:Obj) (s1:d5) (D:List Str) (c:Cf),c.σ=c0.σ->Ok C c->Nx c0 c->s1.heap.get? S=a5 o->aQ X.prog X.w s1.heap S (aE X.w) D->Inv X ((S,o)::b) c.σ c.H s1->W (k D) c.st Post->(∀q∈b,q.1≠S)->Q (.ref S) s1) :
  d3 (et X.prog X.w) X.A (u7 (.Call (.Name "set" p) [a] [] pos) X.env) Q X.xe s:=by
 show sL (dh I i j (show t7 "set"=a5 (.type "set") by decide +kernel) ?_ (by decide +kernel) (by decide +kernel));have y:C1 pos (hW [a] X.env)=[(cc,u7 a X.env)]:=by rw[hs];rfl
 have B:Qt pos (LD [] X.env)=[]:=rfl;rw[y,B];show uK (one m I r h λx c Y v s2 t d rv w=>?_);rw[ah]at w;have⟨D,e,w⟩:=bI.mp w;have⟨l,ys,rfl,G,J,rfl⟩:=m_ g t.ok t.rx e;cases rv;show rY f d G J λS o s1 hsz L N O=>u S o s1 _ c t.hσ t.ok t.nx L N O w λq T z=>by
  have:=eh (d.pin q (kj _ T)).1;rw[z]at this;show absurd (i0 this hsz) (t8 _)
def BK(n:X.calm=b6)(D:C.K=X.K)(G:Gl X (if ln=b6 then "len" else "sorted"))(J:X.mg (if ln=b6 then "len" else "sorted")=b8)(L:Gl X "set")(N:X.mg "set"=b8)(ha:PE X a (IX C ma))(hb:PE X b (IX C mb))(Yx:hW [a] X.env=[(cc,u7 a X.env)])(LZ:hW [b] X.env=[(cc,u7 b X.env)]):
  PE X (.Call (.Name (if ln=b6 then "len" else "sorted") p) [.BinOp (.Call (.Name "set" t) [a] [] u) .Sub (.Call (.Name "set" p2) [b] [] pos2) d] [] pos)
   (IX C (ma >>= λx=>M.Jf (ie x.2) >>= λd1=>mb >>= λy=>M.Jf (ie y.2) >>= λd2=>M.Jf (qt ln d1 d2))):=by
 rintro f s σ H Q I ⟨c0,rfl,rfl,ok,h⟩;have g:d3 (et X.prog X.w) X.A (u7 (.BinOp (.Call (.Name "set" t) [a] [] u) .Sub (.Call (.Name "set" p2) [b] [] pos2) d) X.env) (λv s1=>d3 (et X.prog X.w) X.A (NW (.builtin (if ln=b6 then "len" else "sorted")) [v]) (EP X f c0.σ Q) X.xe s1) X.xe s:=by
  show wpAny_BinOp (uM n D L N ha Yx I ok h λS1 O s1 D1 c1 Yy IY Yz MS Mw I1 w1 O4=>?_);show uM n D L N hb LZ I1 IY w1 λS2 o2 s2 D2 j YA T YB Ny O6 z w2 O1=>?_;have⟨r,m,k⟩:=bI.mp w2;have Uv:=(z.pin (S1,O) (kj _ (by simp))).1;have Uw:aQ X.prog X.w s2.heap S1 (aE X.w) D1:=Mw.at λo e=>by rw[MS]at e;cases e;show Uv
  have JS:S1≠S2:=O1 (S1,O) (by simp);have nx:Nx c0 j:=Yz.trans YB;have B:j.σ=c0.σ:=YA.trans Yy;have I3:Inv X f j.σ j.H s2:=z.eI λq hq=>z.pin q (kj _ (by simp[hq]));unfold qt at m;split at m
  rotate_left
  .cases m
  rename_i i;show L2.kh JS Uw O6 i.1 i.2 λh' hk Y=>?_;have I4:Inv X f j.σ j.H {s2 with heap:=h' }:=I3.kept (t':=s2.toks) hk;rw[<-B];cases ln with
  |true =>
   cases m;show rW I4 Y (bZ.flat (c:=j) k B T nx rfl)
  |false =>
   cases m;show gU n I4 Y (Ä (nc _ _) i.1) λl hl=>bZ.list (c:=j) k B T nx (au.strs.mpr rfl) l hl
 have eb:C1 pos (hW [.BinOp (.Call (.Name "set" t) [a] [] u) .Sub (.Call (.Name "set" p2) [b] [] pos2) d] X.env)=[(cc,u7 (.BinOp (.Call (.Name "set" t) [a] [] u) .Sub (.Call (.Name "set" p2) [b] [] pos2) d) X.env)]:=rfl;have ek:Qt pos (LD [] X.env)=[]:=rfl;cases ln with
 |true =>
  show sL (dh I G J (show t7 "len"=a5 (.builtin "len") by decide +kernel) ?_ (by decide +kernel) (by decide +kernel));rw[eb,ek];show o_ g
 |false =>
  show sL (dh I G J (show t7 "sorted"=a5 (.builtin "sorted") by decide +kernel) ?_ (by decide +kernel) (by decide +kernel));rw[eb,ek];show o_ g
end
section
def Ok.GH(b:Ok C c)(m:c.st[i]?=a5 (a5 (.own,u)))(p:c.σ[i]?=a5 (a5 (.ref r))):Ok C {c with H:=upd c.H r o',st:=c.st.set i b8}/\Ns c {c with H:=upd c.H r o',st:=c.st.set i b8}/\¬({c with H:=upd c.H r o',st:=c.st.set i b8}:Cf).R r:=by
 have Y:i<c.st.length:=(dt.mp m).1;have x:c.R1 r:=⟨i,.own,u,rfl,m,p⟩
 have⟨s,z2,z3,o,z4,z5⟩:=b.root (.inl x);have I:C.H₀ r=b8:=by
  obtain⟨v,f,h,t,_,_,q,_⟩:=b.sl i _ _ m;rw[p]at f;cases f;cases t;show q
 have l:∀(j:Nat) k w,(c.st.set i b8)[j]?=a5 (a5 (k,w))->j≠i/\c.st[j]?=a5 (a5 (k,w)):=λj k w e=>by
  by_cases A:j=i
  .subst A;rw[d4 Y]at e;cases e
  .rw[gc (nH A)]at e;show⟨A,e⟩
 have b1:∀a,({c with H:=upd c.H r o',st:=c.st.set i b8}:Cf).R1 a->c.R1 a/\a≠r:=λa Jd=>by
  have⟨j,k,w,hk,f,g⟩:=Jd;have⟨ne,J⟩:=l j k w f;show⟨⟨j,k,w,hk,J,g⟩,λz=>?_⟩;subst z;show ne (b.inj j i k .own w u a hk rfl J m g p)
 have L:∀j a,({c with H:=upd c.H r o',st:=c.st.set i b8}:Cf).RD j a->c.RD j a:=λj a ⟨w,h,f,g,B⟩=>⟨w,h,(l j _ w f).2,g,B⟩
 have N:∀j a,c.RD j a->a≠r:=λj a z e=>by subst e;show b.dd.d1 j a z x
 have D:∀S:d8->Prop,¬S r->Mv S c.H S (upd c.H r o'):=λS hS=>⟨λa z=>z,λa d e tp=>by
  have:a≠r:=λz=>by subst z;rw[z4]at e;cases e;show z5 tp
  rw[ak this];show e,λa d z e=>by
  have:a≠r:=λy=>by subst y;show hS z
  rw[ak this];show e⟩
 have hP:¬PS C c.S r:=λz=>z.elim z2 s;show⟨⟨λa d e JV=>?_,λa z=>?_,b.par,λa z=>?_,by simp[b.len],λj k w e=>?_,λj1 j2 k1 k2 w1 w2 h h1 h2 f g B e4=>b.inj j1 j2 k1 k2 w1 w2 h h1 h2 (l _ _ _ f).2 (l _ _ _ g).2 B e4,?_⟩,⟨λa d e hR=>?_,λa d e=>?_,λa z=>?_,λa z=>z,λa z=>.inl z⟩,λz=>?_⟩
 .have:a≠r:=λy=>by subst y;rw[I]at e;cases e
  change upd c.H r o' a=_;rw[ak this];show b.same a d e JV
 .have⟨n,d,G⟩:=b.KS a z;have:a≠r:=λy=>by subst y;show s z
  show⟨n,d,by change upd c.H r o' a=_;rw[ak this];show G⟩
 .obtain⟨⟨d,n⟩,YC,G⟩:=b.io a z;have:a≠r:=λy=>by subst y;rw[I]at n;cases n
  show⟨⟨d,n⟩,YC,by change upd c.H r o' a=_;rw[ak this];show G⟩
 .have⟨ne,O⟩:=l j k w e;have⟨v,f,g⟩:=b.sl j k w O;show⟨v,f,g.mv (D _ s) (D _ hP) λhk h t=>?_⟩;obtain⟨Qq,Q,y1,_⟩:=g.rt hk;rw[t]at Q;cases Q;have:h≠r:=λy=>by subst y;show ne (b.inj j i k .own w u h hk rfl O m (by rw[f,t]) p)
  show⟨y1,λd q=>by change upd c.H r o' h=_;rw[ak this];show q⟩
 .show b.dd.of rfl (λj w e=>⟨(l j _ w e).2,rfl⟩) (λa z=>.inl (b1 a z).1) (D _ s) λj a z=>⟨(b.root (.inr ⟨j,z⟩)).1,λd q=>by change upd c.H r o' a=_;rw[ak (N j a z)];show q⟩
 .have:a≠r:=λy=>by subst y;show hR (.inl x)
  change upd c.H r o' a=_;rw[ak this];show e
 .by_cases T:a=r
  .subst T;show⟨o',ax⟩
  .show⟨d,by change upd c.H r o' a=_;rw[ak T];show e⟩
 .rcases z with z|⟨j,z⟩
  .show .inl (.inl (b1 a z).1)
  .show .inl (.inr ⟨j,L j a z⟩)
 .rcases z with z|⟨j,z⟩
  .show(b1 r z).2 rfl
  .show N j r (L j r z) rfl
def yN(u:c.H r=a5 (.JX o (.dK kvs)))(w:¬c.R r)(y:Ok C c)(hk:kvs.map (·.1)=ks.map mu)(z:au C c.S c.H us (kvs.map (·.2))):Walk C c [] (oV (ks,us)) (Tr r o kvs):=by
 intro b k n N hs;have l:=n.keep r _ u w;have m:=z.mv (y.mv n);have O:kvs.length=ks.length:=by rw[<-c4 (f:=(·.1)),hk,c4]
 have Q:us.length=kvs.length:=by rw[m.len,c4]
 have T:(oV (ks,us)).length=kvs.length:=by
  unfold oV;rw[c4,VG];change min ks.length us.length=_;lia
 show⟨λi q d=>?_,λi a=>⟨l,⋯⟩⟩;unfold oV at d;rw[i8,eH]at d;have⟨p,A,rfl⟩:=d;have⟨s,B⟩:=List.getElem?_zip_eq_some.mp A;have⟨v,e,g⟩:=m.get B;have a:i<kvs.length:=by
  have:i<ks.length:=(dt.mp s).1;lia
 have D:kvs[i]?=a5 (mu p.1,v):=by
  rw[i8,mx a]at e;have h:(kvs.map (·.1))[i]?=(ks.map mu)[i]?:=by rw[hk]
  rw[i8,i8,mx a,s]at h;rw[mx a];simp only[Su,QM]at h e;rw[<-h,<-e]
 show⟨.inl rfl,⟨l,a⟩,λx H' j=>?_⟩;have⟨q,G,rfl,j⟩:=j;have I:=j _ _ D;subst I;have⟨J,t⟩:=k.lay (o:=.tup [kV (mu p.1),v]) G;show⟨{b with H:=upd b.H q (.tup [kV (mu p.1),v])},rfl,rfl,rfl,J,t,?_⟩;have L:au C b.S b.H [.str p.1,p.2] [kV (mu p.1),v]:=⟨_,_,rfl,rfl,_,_,rfl,g,rfl⟩
 show⟨q,_,rfl,JI.of ax,L.mv (k.mv t)⟩
def EM(A:X.N[i]?=a5 x)(B:Ks X.env.scope x)(G:(x==("__debug__":Str))=cc)(J:(x==("__classdict__":Str))=cc)(L:(g.endLine==O.line)=b6)
  (S:dN X N own scope) (T:X.calm=b6) (hl:own.length=2) (Y:∀D s H ex,PG (J0 X N scope D s H ex) (.Tuple es kx ps) (tG C b6 (gs own.length))) (he:∀D s H ex,PE (J0 X N scope D s H ex) elt (IX C me)) :
  L2.PS X (.Return (a5 (.ListComp elt [⟨.Tuple es kx ps,.Call (.Attribute (.Name x px) "items" g) [] [] O,[],0⟩] scope pos)) YE) (JH C ns (qx i >>= λd=>bJ 2 b6 (pure b6) me [] (oV d) [] >>= λus=>retS (.own,.lst us))):=by
 show PS.weak (xh (D3 (ue S T (ya A B G J L) Y (λD s H ex=>show MQ _ [] (Ka C (pure b6)) from λj s σ H Q I ⟨c0,f,e2,k,w⟩=>oE j s σ H Q I (by subst f e2;rw[aq]at w;show w c0 rfl rfl k (Nx.refl c0))) he))) ?_;rintro D σ H ⟨c0,rfl,rfl,k,h⟩;rw[ah]at h;have⟨d,st',e,h⟩:=h;unfold qx at e;split at e
 rotate_left
 .cases e
 rename_i ks us l;cases e;have⟨v,f,r,er⟩:=k.sl i _ _ l;subst er;have⟨kvs,t,g2,g3,g4,g5,g6⟩:=k.dd.kd i _ r l f;show⟨r,kvs,t,λo=>?_⟩;have⟨IY,n1⟩:=Ok.GF k (Nx.refl c0) l f;have JQ:i<c0.st.length:=(dt.mp l).1;have⟨Jm,n2,nR⟩:=Ok.GH (o':=.JX o (.dK kvs)) IY (i:=i) (u:=.IQ ks us) (r:=r) (by change(c0.st.set i _)[i]?=_;rw[d4 JQ]) f;let b:Cf:={S:=λa=>c0.S a\/a∈c0.kid i,H:=upd c0.H r (.JX o (.dK kvs)),σ:=c0.σ,st:=c0.st.set i b8,kid:=c0.kid}
 have T_:(c0.st.set i (a5 (Kd.own,U.IQ ks us))).set i b8=c0.st.set i b8:=by rw[Ĉ]
 have m:({ ({c0 with S:=λa=>c0.S a\/a∈c0.kid i,st:=c0.st.set i (a5 (.own,.IQ ks us))}:Cf) with H:=upd c0.H r (.JX o (.dK kvs)),st:=(c0.st.set i (a5 (Kd.own,U.IQ ks us))).set i b8}:Cf)=b:=by rw[T_]
 have p:Ok C b:=m▸Jm;have YF:Ns c0 b:=n1.toNs.trans (m▸n2);have YG:¬b.R r:=m▸nR;have Kl:au C b.S b.H us (kvs.map (·.2)):=by
  rw[g3];have:=(du.rep (S':=b.S) (λa=>.inl) (λa ha=>.inr ha) g6).mv (show Mv b.S c0.H b.S b.H from⟨λa z=>z,λa ob q tp=>?_,λa ob z q=>?_⟩)
  .show this
  .have:a≠r:=λy=>by subst y;rw[t]at q;cases q;show tp
   change upd c0.H r _ a=_;rw[ak this];show q
  .have:a≠r:=λy=>by
    subst y;rcases z with z|z
    .show(g5 a (by simp)).1 z
    .show(mh.mp g4).1 z
   change upd c0.H r _ a=_;rw[ak this];show q
 show⟨r,o,kvs,f,ax,?_⟩;rw[hl];show ng (c0:=b) (c1:=b) (rs:=[]) (xs:=oV (ks,us)) rfl p (Nx.refl b) (yN ax YG p g2 Kl) ?_;rw[ah]at h;show h.mono λvs st2 w=>?_;rw[show retS (.own,.lst vs)=pure (.rt .own (.lst vs)) from rfl,aq]at w;rw[aq];intro c v hσ IZ Jp n rt;have⟨r0,e,h1,h2,h3,h4⟩:=rt;show w c IZ Jp (YF.trans n.toNs) (Kept.of hσ) v ⟨r0,e,(p.j5 h1).1,h2,h3,h4⟩
end
section
variable{X:Cx}{C:Ct}{a:l0}{ma:M (Kd×U)}{apos G':Pos}{i:Nat}{x:Str}{px:Pos}
def Ok.yO(b:Ok C c)(hk:k.root=b6)(hs:c.st[i]?=a5 (a5 (k,.lst us))):∃a vs,c.σ[i]?=a5 (a5 (.ref a))/\c.H a=a5 (.lst vs)/\au C c.S c.H us vs:=by
 have⟨v,d,e⟩:=b.sl i k _ hs;obtain⟨r,rfl,_,_,_,vs,f,g⟩:=e.rt hk;show⟨r,vs,d,f,g⟩
theorem au.eraseIdx{S:d8->Prop}:∀{us:List U}{vs:List V} (n:Nat),au C S H us vs->au C S H (us.eraseIdx n) (vs.eraseIdx n)
 |[],_,n,h=>by cases h;simp[au]
 |u::us,vs,0,h=>by
  have⟨v,r,rfl,c,b⟩:=h;show b
 |u::us,vs,n+1,h=>by
  have⟨v,r,rfl,c,b⟩:=h;show⟨v,_,rfl,c,b.eraseIdx n⟩
def Ok.out(g:Ok C c)(n:Nx c0 c)(q:c.σ=c0.σ)(hk:k.root=b6)(hs:c.st[i]?=a5 (a5 (k,.lst us)))(h:c.σ[i]?=a5 (a5 (.ref r)))(s:au C c.S c.H f b)(y:Rep C c.S c.H u v)(w:bZ C c0 Q (.loc,u) (c.st.set i (a5 (k,.lst f)))):Q v (upd c.H r (.lst b)):=by
 have A:Mv c.S c.H c.S (upd c.H r (.lst b)):=by
  have⟨v',d,l⟩:=g.sl i k _ hs;rw[h]at d;cases d;obtain⟨p,B,D,_,_,G⟩:=l.rt hk;cases B;have⟨o,ho,I⟩:=G.some;show⟨λ_ z=>z,λa o' e t=>by rw[ak (λz=>by subst z;rw[ho]at e;cases e;show I t)];show e,λa o' z e=>by rw[ak (λJ=>by subst J;show D z)];show e⟩
 have⟨L,N⟩:=g.mod (H':=upd c.H r (.lst b)) (u':=.lst f) n.toNs hk hs h (λa ne=>ak ne) ⟨_,ax⟩ λO=>⟨b,ax,s.mv O⟩
 have T:∀a,({c with H:=upd c.H r (.lst b),st:=c.st.set i (a5 (k,.lst f))}:Cf).Pd a->c0.Pd a/\∀o,c0.H a=a5 o->upd c.H r (.lst b) a=a5 o:=λa Y=>by
  have⟨j,u',p,d,l,e3⟩:=Y;have hj:j≠i:=λz=>by
   subst z;rw[d4 (dt.mp hs).1]at d;cases d;cases hk
  have JT:c.st[j]?=a5 (a5 (.IL,u')):=by rw[<-d];show(gc (nH hj)).symm
  have m:c.RD j a:=⟨u',p,JT,l,e3⟩
  have Tu:a≠r:=λz=>g.dd.d1 j a m (z▸⟨i,k,_,hk,hs,h⟩);show⟨(n.dk a ⟨j,m⟩).1,λo e=>by rw[ak Tu];show(n.dk a ⟨j,m⟩).2 o e⟩
 show w {c with H:=upd c.H r (.lst b),st:=c.st.set i (a5 (k,.lst f))} v q rfl L ⟨N,T⟩ (y.mv A)
def BL(g:X.N[i]?=a5 x)(j:Ks X.env.scope x)(l:(x==("__debug__":Str))=cc)(m:(x==("__classdict__":Str))=cc)(n:(apos.endLine==G'.line)=b6)(o:C.K=X.K):
  PE X (.Call (.Attribute (.Name x px) "pop" apos) [] [] G') (IX C (yn i)):=by
 show PE.weak (DJ PySem.F.plainAttrs_list PySem.F.slot_list_pop PySem.F.type_list_pop DK (bO g j l m) rfl n) ?_;rintro σ H Q ⟨c0,rfl,rfl,c,h⟩;have⟨r,st',e,w⟩:=h;unfold yn at e;split at e
 .rename_i k us hs;split at e
  .rename_i hk;split at e
   .rename_i u q;cases e;have⟨p,vs,d,f,b⟩:=c.yO hk hs;have⟨v,s,t⟩:=b.get q;have hl:=b.len;show⟨_,d,.inl ⟨rfl,vs,o▸Jw.of f⟩,p,vs,v,rfl,rfl,f,by rw[<-hl];show s,?_⟩;show c.out (Nx.refl c0) rfl hk hs d ?_ t w;rw[Y6,Y6,hl];show b.take _
   .cases e
  .cases e
 .cases e
def GI(b:0<=j)(h:j.toNat<n):W9 j n=a5 j.toNat:=by
 simp only[W9];rw[Ľ (show ¬j<0 by lia),ļ (by rw[cb,Ļ,Ļ];lia)]
def wB{st:aw}(h:W (Ba i u) st Q):∃(j:Int) (k:Kd) (us:List U) (y:U),u=.int j/\k.root=b6/\0<=j/\j<1000000/\st[i]?=a5 (a5 (k,.lst us))/\us[j.toNat]?=a5 y/\Q (.loc,y) (st.set i (a5 (k,.lst (us.eraseIdx j.toNat)))):=by
 have⟨r,st',e,w⟩:=h;cases u with
 |int j =>
  unfold Ba at e
  dsimp only at e
  split at e
  .rename_i k us hs;split at e
   .rename_i hk;split at e
    .rename_i y b;cases e;show⟨j,k,us,y,rfl,hk.1,hk.2.1,hk.2.2,hs,b,w⟩
    .cases e
   .cases e
  .cases e
 |_=>cases e
def yP(o:C.K=X.K)(q:X.N[i]?=a5 x)(s:Ks X.env.scope x)(u:(x==("__debug__":Str))=cc)(A:(x==("__classdict__":Str))=cc)(B:PE X a (IX C ma))
  (D:((C1 G' (hW [a] X.env)).all (λx=>!x.1)&&(Qt G' (LD [] X.env)).all (λx=>x.1.isSome)
   && cK ([a].length+([]:List Oc).length+(if ([]:List Oc).isEmpty then 0 else 1)<30))=b6)
  (G:(apos.endLine==G'.line)=b6) (e:hW [a] X.env=[(cc,u7 a X.env)]) :
  PE X (.Call (.Attribute (.Name x px) "pop" apos) [a] [] G') (IX C (c_ i >>= λx=>Ng x.2 >>= λ_=>ma >>= λy=>Ba i y.2)):=by
 show PE.weak (mM PySem.F.plainAttrs_list PySem.F.slot_list_pop PySem.F.type_list_pop xB (bO q s u A) (cS B fg e) rfl D G e rfl) ?_;rintro σ H Q ⟨c0,rfl,rfl,b,h⟩;rw[ah]at h;have⟨k0,I,J,L,h⟩:=cO h;have⟨O,f,T⟩:=b.slot J L;show⟨O,f,?_⟩;cases I with
 |lst Y =>
  rw[ah,show Ng (U.lst Y)=pure () from rfl,aq]at h;obtain⟨a0,Pj,d,O0,_⟩:=T.list b;show⟨by rw[d];show .inl ⟨rfl,Pj,o▸O0⟩,?_⟩;show aM b h λr c v t w=>?_;have⟨j,k,us,y,ej,hk,j0,j1,hs,hu,w⟩:=wB w;have⟨p,vs,g,h2,l⟩:=t.ok.yO hk hs;have hp:p=a0:=by
   have:=g;rw[t.hσ,f,d]at this;cases this;rfl
  subst hp;have⟨z,m,g2⟩:=l.get hu;have MD:j.toNat<vs.length:=(dt.mp m).1;have n:=t.rx;rw[ej]at n;have ev:=n.int t.ok;show⟨p,vs,j,j.toNat,z,d,by rw[ev],h2,ğ (by decide) j0,Int.lt_trans j1 (by decide),GI j0 MD,m,t.ok.out t.nx t.hσ hk hs g (l.eraseIdx _) g2 w⟩
 |_=>rw[ah]at h;show(bp.mp h).elim
end
end TM
namespace TM
open PySem L2 PyProof.Rows PySem.W
section
variable{X:Cx}{C:Ct}{pins:List (d8×Obj)}{s:d5}{c0 c c1:Cf}
variable{a b tt:l0}{e:l0}{es:List l0}{ms:M (List (Kd×U))}{ns:Nat->Bool}
abbrev Pn(X:Cx)(C:Ct)(pins:List (d8×Obj))(c0:Cf)(Post:Str->aw->Prop)(v:dV)(s':d5):Prop :=
 ∃(c:Cf) (s1:d5) (d T f:d8) (H':Hp) (cl:Str),v=.ref d/\c.σ=c0.σ/\Ok C c/\Nx c0 c/\Inv X pins c0.σ c.H s1/\bV X.prog X.w X.stack c.H s1 d f (a5 T) .none H' s'/\pW c.H H'/\nsIn X.K js cl=a5 (a5 (.ref f))/\Post cl c.st
abbrev PR(X:Cx)(C:Ct)(e:l0)(m:M (Sum (Kd×U) Str)):Prop:=∀(pins:List (d8×Obj)) (s:d5) (c0:Cf) (Post:Sum (Kd×U) Str->aw->Prop),Inv X pins c0.σ c0.H s->Ok C c0->W m c0.st Post ->
 d3 (et X.prog X.w) X.A (u7 e X.env) (λu s2=>∃r c v,Lx C c0 c r v/\Inv X pins c0.σ c.H s2/\RelV v u/\Post (.inl r) c.st) (Pn X C pins c0 λcl st=>Post (.inr cl) st) s
def EN
  (Y:C.P=X.prog) (hw:C.w=X.w) (hK:C.K=X.K) (hF:Γ f=F) (hk:∀us k u,F us=a5 (.ok (k,u))->(k=.own\/k=.loc\/k=.any)/\us.length=n) (JE:∀us c,F us=a5 (.exc c)->us.length=n)
  (G:jh X.prog X.w X.K X.mg X.base (Ob X.prog X.w) kd fa fd ps (spT X.prog X.w X.K F n)) (hr:fK kd X.A) (hg:Gl X f) (hm:X.mg f=a5 (.ref fa)) (Oa:PySem.W.keepIn X.K (.ref fa)=b6) (o:Binds X.K fd ps []) (L6:(f==("__debug__":Str))=cc)
  (ha:PA X.LK (e::es) (Kj C ms)) (he:hW (e::es) X.env=(cc,u7 e X.env)::hW es X.env) (JJ:(C1 p3 (hW es X.env)).any (·.1)=cc) :
  PR X C (.Call (.Name f p2) (e::es) [] p3) (ms >>= λrs=>aA rs >>= λ_=>dU Γ f (rs.map (·.2))):=by
 intro pins s c0 Post I ok h;show sL (fe I hg hm ?_ L6);show PySem.W.callWith_K (h₀:=X.base) I.ok.mod.OR Oa (my (args (X:=X.LK) ha (I.jX _) ok h p3) (λus s1 z=>?_) λ_ _ z=>z.elim) he JJ;have⟨rs,c,vs,t,l,rv,w⟩:=z;have l:=l.fO;show⟨l.Mm,?_⟩;have m:C.Eqv (Ni X.prog X.w X.K c.H (KH c.H)):=⟨Y,hw,hK⟩
 have LB:(Ni X.prog X.w X.K c.H (KH c.H)).Eqv C:=⟨Y.symm,hw.symm,hK.symm⟩
 have p:=t.read;have i:∀(k1:Kd) (u:U),F (rs.map (·.2))=a5 (.ok (k1,u))->k1=.own\/k1=.loc->Post (.inl (k1,u)) c.st ->
   d3 (et X.prog X.w) X.A (NW (.ref fa) us) (λu s2=>∃r c v,Lx C c0 c r v/\Inv X pins c0.σ c.H s2/\RelV v u/\Post (.inl r) c.st) (Pn X C pins c0 λcl st=>Post (.inr cl) st) s1:=λk1 u g Qh q=>by
  have⟨k0,k2⟩:=hk _ _ _ g;have x:spT X.prog X.w X.K F n vs c.H (λv H'=>∃d,Lx C c0 d (k1,u) v/\d.H=H'/\d.st=c.st) E0:=⟨by rw[<-p.len];show k2,rs.map (·.2),.ok (k1,u),KH c.H,g,λ_ z=>z,p.cg m,k0,λv H' S' o=>o.here (Q:=λv H'=>∃d,Lx C c0 d (k1,u) v/\d.H=H'/\d.st=c.st) Qh t.hσ t.ok t.nx LB λd v2 y B Jm n2 D=>⟨d,⟨y,Jm,n2,D⟩,rfl,B⟩⟩
  show my (uB (EE:=Pn X C pins c0 λcl st=>Post (.inr cl) st) G hr o l rv x λ_ _ ⟨_,_,_,_,_,_,z⟩=>z.elim) (λv s2 ⟨v',H2,I2,D,d,t2,J,L⟩=>?_) λ_ _ z=>z;rw[t.hσ]at I2;subst J;show⟨_,d,v',t2,I2,D,L▸q⟩
 obtain⟨r,st',j,q⟩:∃r st',dU Γ f (rs.map (·.2)) c.st=a5 (.ok r,st')/\Post r st':=w;unfold dU at j;rw[hF]at j;split at j
 .rename_i u g;cases j;show i _ u g (.inl rfl) q
 .rename_i u g;cases j;show i _ u g (.inr rfl) q
 .rename_i cl g;cases j;have x:spT X.prog X.w X.K F n vs c.H (λ_ _=>False) (λv _ H'=>(∃N,v=.ref N/\nsIn X.K js cl=a5 (a5 (.ref N)))/\pW c.H H'):=⟨by rw[<-p.len];show JE _ _ g,rs.map (·.2),.exc _,KH c.H,g,λ_ z=>z,p.cg m,λO H1 h1 h2=>⟨⟨O,rfl,h1⟩,h2⟩⟩
  show my (uB (EE:=Pn X C pins c0 λcl st=>Post (.inr cl) st) G hr o l rv x λv s' ⟨ea,O,T,H',y,F',⟨N,B,J⟩,L⟩=>?_) (λv s2 ⟨_,_,_,_,z⟩=>z.elim) λ_ _ z=>z;cases B;show⟨c,s1,ea,T,O,H',cl,y,t.hσ,t.ok,t.nx,by rw[<-t.hσ];show l,F',L,J,q⟩
 .cases j
def GJ(x:PT X.LK tt (Ka C y))(B:PR X C a k)(D:PR X C b l):PR X C (.IfExp tt a b pos) (y >>= λp=>if p=b6 then k else l):=by
 intro pins s c0 Post I G h;show wpAny_IfExp (my (x pins s c0.σ c0.H (λp o=>∃c,c.H=o/\c.σ=c0.σ/\Ok C c/\Nx c0 c/\W (if p=b6 then k else l) c.st Post) (I.jX _) (dW G h λp c e i n w=>⟨c,rfl,e,i,n,w⟩)) (λp s1 ⟨o,g,c,J,d,i,n,w⟩=>?_) λ_ _ z=>z.elim);subst J;have g:=g.fO;rw[<-d]at g;have f:∀{e:l0} {m:M (Sum (Kd×U) Str)},PR X C e m->W m c.st Post->d3 (et X.prog X.w) X.A (u7 e X.env) (λu s2=>∃r c v,Lx C c0 c r v/\Inv X pins c0.σ c.H s2/\RelV v u/\Post (.inl r) c.st) (Pn X C pins c0 λcl st=>Post (.inr cl) st) s1:=λ{e m} L w=>by
  show my (L pins s1 c Post g i w) (λu s2 ⟨r,j,v,t,N,rv,q⟩=>?_) λv s2 z=>?_
  .show⟨r,j,v,⟨t.hσ.trans d,t.ok,n.trans t.nx,t.rx.from n⟩,by rw[<-d];show N,rv,q⟩
  .have⟨j,s3,O,T,Q,H',cl,Y,hσ,Jp,n0,I3,F,hs,hn,q⟩:=z;show⟨j,s3,O,T,Q,H',cl,Y,hσ.trans d,Jp,n.trans n0,by rw[<-d];show I3,F,hs,hn,q⟩
 cases p with
 |true=>rw[ļ rfl]at w;show f B w
 |false=>rw[Ľ i3]at w;show f D w
def GK(f:PR X C a m)(hs:OT a b8 pos.line X.env=pure cc)
  (g:∀c H',C.xw (.str c) H'->∀d T H pins σ s e s',nsIn X.K js c=a5 (a5 (.ref d))->Inv X pins σ H s->bV X.prog X.w X.stack H s e d T .none H' s'->X.xe (.ref e) s'):L2.PS X (.Expr a pos) (JH C ns (m >>= Bc)):=by
 rintro pins s σ H D I ⟨c0,rfl,rfl,i,h⟩;rw[ah]at h;show ħ (my (f pins s c0 _ I i h) (λu s2 ⟨r,c,v,t,j,rv,q⟩=>?_) λv s2 z=>?_) I.quiet hs
 .rw[show Bc (.inl r)=pure .nx from rfl,aq]at q;have z:D.nx c.σ c.H:=q c rfl t.ok t.nx (Kept.of t.hσ);rw[t.hσ]at z;show⟨c0.σ,c.H,j,z⟩
 .have⟨c,s1,k,T,l,H',cl,rfl,n,o,p,x,F,hs,y,q⟩:=z;rw[show Bc (.inr cl)=pure (.rt .io (.str cl)) from rfl,aq]at q;have⟨A,B⟩:=o.grow (H':=H') (S':=c.S) hs (λa z=>.inl z) λa z=>z;show g cl H' (q {c with H:=H' } rfl A (p.trans B) (Kept.of n)) l _ c.H pins _ s1 k s2 y x F
def yQ(l:∀m,ns m=b6->m≠k/\m≠j)(x:C.K=X.K)(y:Ok C c0)(A:Ok C c)(n:Nx c0 c)(f:c.σ=c0.σ)(B:k<c.σ.length)(hs:pW c.H H')(p:H' d=b8)(G:oe.cls=.ref t)(I:nsIn X.K js cl=a5 (a5 (.ref t)))(v:V)
  (w:W (j7 cs i j k (.inr cl)) c.st (fG C c0 ns D)):D.nx (((c0.σ.set j (a5 v)).set k (a5 (.ref d))).set j b8) (upd H' d (.JX oe (.ext λ_=>True))):=by
 have⟨r,st',e,q⟩:=w;unfold j7 at e
 dsimp only at e
 split at e
 .rename_i J;split at e
  case isFalse=>cases e
  rename_i L;have N:c.H d=b8:=by
   cases z:c.H d with
   |none=>rfl
   |some o=>rw[hs d o z]at p;cases p
  have⟨O,Q⟩:=A.kill J;have⟨T,Y⟩:=O.grow (H':=upd H' d (.JX oe (.ext λ_=>True))) (S':=c.S) (λa o z=>by
   rw[ak (bt z N)];show hs a o z) (λa z=>.inl z) λa z=>z
  have⟨g,h,e2,Je,n',w'⟩:=pb (r:=(.loc,.exc cl)) (v:=.ref d) (i:=k) y T ((n.trans Q).trans Y) (by simpa using B)
   (show Rep C c.S _ _ _ from⟨d,rfl,oe,t,ax,G,x▸I⟩) (Post:=λ_ KC=>fG C c0 ns D .nx KC) (by
    have z:W (dR k (.loc,.exc cl) >>= λ_=>(pure .nx:M Fl)) c.st (fG C c0 ns D):=⟨r,st',e,q⟩
    rw[ah]at z;show z.mono λ_ st z=>aq.mp z)
  have es:(((c0.σ.set j (a5 v)).set k (a5 (.ref d))).set j b8)=(c0.σ.set j b8).set k (a5 (.ref d)):=by
   rw[List.set_comm _ _ L.1,Ĉ]
  have z:D.nx g.σ g.H:=w' g rfl Je n' ⟨λm u=>by
   rw[h];change((c.σ.set j b8).set k _)[m]?=_;rw[gc (nH (l m u).1),gc (nH (l m u).2),f],by rw[h];simp[f]⟩
  rw[h,e2]at z;rw[es,<-f];show z
 .cases e
def GL(JW:∀m,ns m=b6->m≠i/\m≠k/\m≠j)(J:X.N.Nodup)(hi:X.N[i]?=a5 y)(hy:Loc X.env.scope y)(YJ:X.fn y=b6)(L:X.N[j]?=a5 n)(O:X.env.scope.names.lookup n=a5 .local)
  (hk:X.N[k]?=a5 z) (hz:Loc X.env.scope z) (YK:X.fn z=b6) (hK:C.K=X.K) (hr:PR X C a m) (MR:OT a (a5 (.Name y p1)) p4.line X.env=pure cc) (G:X.stack=X.env::X.outer/\X.env.frame=a5 X.env.locals) (hx:X.ex=[]) (YL:Gl X x) (YM:X.mg x=a5 (.ref Dc)) (YN:(x==("__debug__":Str))=cc)
  (NK:∀cl∈cs,∀l,nsIn X.K js cl=a5 (a5 (.ref l))->exmOne X.K (.ref l) (.ref Dc)=a5 b6) (Jj:(n==("__debug__":Str))=cc) (YO:(n==("__classdict__":Str))=cc) :
  L2.PS X (.Try [.Assign [.Name y p1] a p4] [.ExceptHandler (a5 (.Name x p5)) (a5 n) [.Assign [.Name z p6] (.Name n p9) V4] YQ] [] [] pos) (JH C ns (m >>= j7 cs i j k)):=by
 rintro pins s σ H D' I ⟨c0,rfl,rfl,ok,h⟩;have JQ:i<c0.σ.length:=by rw[I.len];show(dt.mp hi).1
 have Md:k<c0.σ.length:=by rw[I.len];show(dt.mp hk).1
 rw[ah]at h;show wpAny_Try_except (my (Q:=λf s1=>f=Flow.next/\SP X pins D' .next s1) (E:=Pn X C pins c0 λcl st=>W (j7 cs i j k (.inr cl)) st (fG C c0 ns D')) ?_ (λf s1 z=>?_) λv s1 z=>?_)
 .show č (û (my (hr pins s c0 _ I ok h) (λu s2 ⟨r,c,v,t,I2,rv,q⟩=>?_) λ_ _ z=>z) MR);show fN I2 J hi hy rv (λs3 Y=>RN ⟨rfl,_,c.H,Y,iT (λm z=>(JW m z).1) ok t (by rw[t.hσ];show JQ) q⟩) (.inl YJ)
 .have⟨rfl,z⟩:=z;show RN z
 .have⟨c,s0,d,T,l,H',cl,rfl,hσ,Jp,n0,B,F1,hs,L3,w⟩:=z;have KP:cl∈cs:=by
   obtain⟨r,st',e,_⟩:=w;unfold j7 at e
   dsimp only at e
   split at e
   .split at e
    case isFalse=>cases e
    rename_i q;show q.2
   .cases e
  have ab:=NK cl KP l L3;have L5:s0.heap.FunFrames X.base (X.env::X.outer):=by rw[<-G.1];show B.stack
  have LP:∀b∈JF (X.env::X.outer),c.H b=b8:=by rw[<-G.1];show B.ka
  have hA:X.A.frames=a5 (X.env::X.outer):=by rw[<-G.1];show B.ok.frames
  rw[G.1]at F1;show F1.note hA G.2 L5 LP λT2 s2 F2=>F2.land L5 LP λT3 s3 F3=>?_;have ac:∀{T:Option d8} {D:dV} {s':d5},bV X.prog X.w (X.env::X.outer) c.H s0 d l T D H' s'->Inv X pins c0.σ H' s':=λ{T D s'} F=>B.CG (ch:=[]) F.os (by rw[G.1];show F.un) F.IS F.bare λb z=>nomatch z
  have g:∀b o,s0.heap.get? b=a5 o->b≠d:=λb o q z=>by rw[z,F1.new]at q;cases q
  have O9:d≠X.env.locals/\d∉X.fs:=by
   obtain⟨m,⟨o,_,_,ho,_⟩,_⟩:=B.loc;show⟨nH (g _ o ho),λz=>?_⟩;obtain⟨_,o,q,_⟩:=L5.mem (Px.mpr (by
    have⟨env,h1,h2⟩:=Px.mp z;show⟨env,kr _ h1,h2⟩))
   show g _ o q rfl
  have Mz:∀{T:Option d8} {D:dV} {s':d5} (E:dV->d5->Prop),bV X.prog X.w (X.env::X.outer) c.H s0 d l T D H' s'->∃oe,s'.heap.get? d=a5 oe/\oe.cls=.ref l/\Inv (X.Mz d oe E) pins c0.σ H' s':=λ{T D s'} E F=>by
   obtain⟨a0,oe,vs,h1,h2,h3,_⟩:=F.exc;show⟨oe,h1,h2,(ac F).Mz h1 F.he O9.1 O9.2 λv z=>by rw[h3]at z;cases z⟩
  show wpAny_handleBy_cons (codeAny_handlers_test ?_) λz=>nomatch z
  have⟨ZP,g1,g2,Y⟩:=Mz (TC (et X.prog X.w) (X.A.mark (a5 (.ref d))) X.env λx s'=>cameBackBy (et X.prog X.w) X.A X.env X.xe x s') F3;show fe Y YL YM ?_ YN;have LT:ā (et X.prog X.w) s3.heap (ZX (.ref d)) (.ref l):=by
   show(ĳ g1).andThen ?_;rw[g2];show .now
  show(exm_one Y.Mm LT ab).here (codeAny_handlers_suite_as ?_);show F3.land L5 LP λT4 s4 F4=>?_;have⟨RE,g3,g4,I4⟩:=Mz (λ_ _=>False) F4;show fN (X:=X.Mz d RE λ_ _=>False) I4 J L (.inl O) (v:=.ref d) rfl (λs5 I5=>?_) (.inr O);have pt:=rK (X:=X.Mz d RE λ_ _=>False) (pos:=V4) (pos':=p6) J hk hz (bO (pos:=p9) L (.inl O) Jj YO) rfl (.inl YK);show my ((pR pt tV) pins s5 _ H' {nx:=λσ H=>σ=(c0.σ.set j (a5 (.ref d))).set k (a5 (.ref d))/\H=H',rt:=λ_ _=>False} I5 ?_) (λD s6 z=>?_) λ_ _ z=>z.elim
  .show⟨.ref d,d4 (by rw[I.len];show(dt.mp L).1),rfl,rfl⟩
  .cases D with
   |next =>
    obtain⟨_,_,I6,rfl,rfl⟩:=z;show Inv.gone (X:=X.Mz d RE λ_ _=>False) I6 J L O λs7 I7=>?_;have g7:=(I7.pin (d,RE) mA).1;show⟨_,_,(I7.Il I.ok).F_ g7 F4.he ?_ O9.1 (λx c q=>?_) (λp hp=>?_),yQ (X:=X) (λm z=>(JW m z).2) hK ok Jp n0 hσ (by rw[hσ];show Md) hs F4.he g4 L3 _ w⟩
    .cases q:X.s₀.heap.get? d with
     |none=>rfl
     |some o =>
      have⟨o',q'⟩:=B.base.there d o q (by rw[hx];show λz=>nomatch z);show absurd rfl (g d o' q')
    .obtain⟨v,o,q,_⟩:=B.cell x c q;show g c o q
    .show g p.1 p.2 (B.pin p hp).1
   |ret v=>obtain⟨_,_,_,_,_,z⟩:=z;show z.elim
   |_=>obtain⟨_,_,_,z⟩:=z;show z.elim
def uN(n:C.K=X.K)(r:Gl X "isinstance")(y:X.mg "isinstance"=b8)(A:PE X a (IX C B))(G:PE X D (tC vD))(J:∀u,RelV vD u->u=dv)(hs:hW [a,D] X.env=(cc,u7 a X.env)::hW [D] X.env)(L:hW [D] X.env=(cc,u7 D X.env)::hW [] X.env)(N:(C1 j (hW [D] X.env)).any (·.1)=cc)
  (O:∀q∈g,∀d,nsIn X.K js q.1=a5 (a5 (.ref d))->fV X.K d=b6/\kitOne X.K (.ref d) dv=a5 q.2) :
  PE X (.Call (.Name "isinstance" p) [a,D] [] j) (IX C (B >>= λx=>M.Jf (ft g x.2) >>= λb=>pure (.loc,.bl b))):=by
 rintro pins s σ H Q I ⟨c0,rfl,rfl,T,h⟩;show sL (dh I r y (show t7 "isinstance"=a5 (.builtin "isinstance") by decide +kernel) ?_ (by decide +kernel) (by decide +kernel));show Pt (I0 (cS A (cS G fg L) hs j pins s c0.σ c0.H (λvs H'=>∃x c v b,Lx C c0 c x v/\c.H=H'/\vs=[v,vD]/\ft g x.2=a5 b/\bZ C c0 Q (.loc,.bl b) c.st) I ?_) λus s1 ⟨vs,H1,i,Y,x,c,v,b,t,e,e2,f,w⟩=>?_) hs N
 .show aM T h λx c v t w=>?_;rw[ah]at w;have⟨b,e,w⟩:=bI.mp w;rw[aq]at w;show⟨x,c,v,b,t,rfl,rfl,e,w⟩
 .subst e e2;have⟨u1,u2,rfl,T1,T5⟩:=vals2 Y;obtain rfl:=J _ T5;have⟨kx,ux⟩:=x;unfold ft at f;split at f
  .rename_i cl k
   dsimp only at k
   subst k;have⟨a,ea,o,d,h1,h2,l⟩:=t.rx.read t.ok;subst ea;cases T1;rw[n]at l;obtain⟨q,hq,m⟩:∃q∈g,q=(cl,b):=⟨_,PySem.mem_of_lookup f,rfl⟩
   have⟨k1,k2⟩:=O _ hq d (by rw[m];show l);rw[m]at k2;show kia_one (yh k1) i.Mm ⟨o,(i.IS a _ h1).1,h2⟩ k2 (λz=>nomatch z) λtk=>?_;show⟨.bl b,c.H,i.tok tk,rfl,w c (.bl b) t.hσ rfl t.ok t.nx rfl⟩
  .cases f
theorem qF{S:d8->Prop}:∀{us:List U}{vs:List V}{bs:List Bool},au C S H us vs->gV us=a5 bs->vs=bs.map V.bl
 |[],vs,bs,h,e=>by cases e;show h
 |.bl b::us,vs,bs,h,e=>by
  have⟨v,r,rfl,d,f⟩:=h;rw[gV,eH]at e;have⟨g,e,rfl⟩:=e;rw[show v=V.bl b from d,qF f e];rfl
 |.IV::_,_,_,_,e=>nomatch e
 |.int _::_,_,_,_,e=>nomatch e
 |.str _::_,_,_,_,e=>nomatch e
 |.tup _::_,_,_,_,e=>nomatch e
 |.lst _::_,_,_,_,e=>nomatch e
 |.IQ _ _::_,_,_,_,e=>nomatch e
 |.exc _::_,_,_,_,e=>nomatch e
abbrev GN:Bool->Str
 |true=>"index"
 |false=>"count"
def BM{d b:Bool}(D:C.K=X.K)(u:X.N[i]?=a5 x)(v:Ks X.env.scope x)(y:(x==("__debug__":Str))=cc)(z:(x==("__classdict__":Str))=cc)(A:(g.endLine==G.line)=b6):
  PE X (.Call (.Attribute (.Name x px) (GN d) g) [.Constant (.bool b) q p2] [] G) (IX C (so d i b)):=by
 have go:∀(σ:L2.St) (H:Hp) (Q:VK),IX C (so d i b) σ H Q->∃(p:d8) (bs:List Bool),σ[i]?=a5 (a5 (.ref p))/\Jw X.K H p (bs.map V.bl)/\H p=a5 (.lst (bs.map V.bl))/\(d=b6->b∈bs/\Q (.int (bs.idxOf b:Nat)) H)/\(d=cc->Q (.int (bs.count b:Nat)) H):=by
  rintro σ H Q ⟨c0,rfl,rfl,n,h⟩;have⟨r,st',e,w⟩:=h;unfold so at e;split at e
  .rename_i k us hs;split at e
   .rename_i hk;split at e
    .rename_i bs I;have⟨p,vs,j,f,l⟩:=n.yO hk hs;have J:=qF l I;subst J;show⟨p,bs,j,D▸Jw.of f,f,λo=>?_,λo=>?_⟩
     .subst o;rw[ļ rfl]at e;split at e
      .rename_i t;cases e;show⟨t,w c0 _ rfl rfl n (Nx.refl c0) rfl⟩
      .cases e
     .subst o;rw[Ľ i3]at e;cases e;show w c0 _ rfl rfl n (Nx.refl c0) rfl
    .cases e
   .cases e
  .cases e
 cases d with
 |false =>
  show PE.weak (mM PySem.F.plainAttrs_list PySem.F.slot_list_count PySem.F.type_list_count ye (bO u v y z) (cS (tT (b:=b)) fg rfl) rfl rfl A rfl rfl) ?_;intro σ H Q h;obtain⟨p,bs,j,f,l,_,L⟩:=go σ H Q h;show⟨_,j,.inl ⟨rfl,_,f⟩,p,bs,b,rfl,rfl,l,L rfl⟩
 |true =>
  show PE.weak (mM PySem.F.plainAttrs_list PySem.F.slot_list_index PySem.F.type_list_index yf (bO u v y z) (cS (tT (b:=b)) fg rfl) rfl rfl A rfl rfl) ?_;intro σ H Q h;obtain⟨p,bs,j,f,l,O,_⟩:=go σ H Q h;have⟨t,T⟩:=O rfl;have B:=List.idxOf_lt_length_of_mem t;show⟨_,j,.inl ⟨rfl,_,f⟩,p,bs,b,bs.idxOf b,rfl,rfl,l,?_,λm Y hh=>?_,T⟩
  .rw[mx B,List.getElem_idxOf B]
  .have:=List.not_of_lt_findIdx (p:=(·==b)) (xs:=bs) Y;have⟨h6,h7⟩:=dt.mp hh;rw[h7]at this;simp at this
end
end TM
namespace TM
open PySem L2 PyProof.Rows
@[reducible]def MI(P:u3)(w:ve)(K:PySem.W.Frag)(H:Hp)(a IO:d8->Prop):Ct:=⟨P,w,K,H,a,IO,λ_ _=>False⟩
structure CP(C:Ct)(H H':Hp)(S':d8->Prop)(is:List Nat)(vs:List V)(ws:List U)(k:Kd)(u:U)(v:V):Prop where
 same:∀a o,H a=a5 o->¬C.IO a->H' a=a5 o
 new:∀a,S' a->H a=b8/\∃o,H' a=a5 o
 own:k=.own->∃r,v=.ref r/\H r=b8/\¬S' r/\cU C S' H' r u
 loc:k=.loc->Rep C S' H' u v
 len:ws.length=is.length
 KU:∀(n i:Nat) (r:d8) (w:U),is[n]?=a5 i->vs[i]?=a5 (.ref r)->ws[n]?=a5 w->cU C S' H' r w
structure EO(C:Ct)(H:Hp)(is:List Nat)(us:List U)(vs:List V):Prop where
 len:us.length=vs.length
 par:∀a,C.Lu a->KH H a/\¬C.IO a
 V5:∀a,C.IO a->KH H a
 io:∀(i:Nat) (u:U),i∈is->us[i]?=a5 u->∃r,vs[i]?=a5 (.ref r)/\C.IO r/\cU C (λ_=>False) H r u
 any:∀(i:Nat) (u:U),i∉is->us[i]?=a5 u->∃v,vs[i]?=a5 v/\Rep C C.Lu H u v
 inj:∀(i j:Nat) (r:d8),i∈is->j∈is->vs[i]?=a5 (.ref r)->vs[j]?=a5 (.ref r)->i=j
 KU:∀a,C.IO a->∃i∈is,vs[i]?=a5 (.ref a)
abbrev RF(P:u3)(w:ve)(K:PySem.W.Frag)(F:List U->Option (Ex (Kd×U)))(b:Nat)(is:List Nat):Sp:=λvs H Q _=>vs.length=b/\∃us k u ws a IO,F us=a5 (.ok (k,.tup (u::ws)))/\(k=.own\/k=.loc)/\EO (MI P w K H a IO) H is us vs /\
 ∀v H' S',CP (MI P w K H a IO) H H' S' is vs ws k u v->Q v H'
theorem map_inj:∀{l:List α},(l.map f).Nodup->∀x∈l,∀y∈l,f x=f y->x=y
 |[],_,_,h,_,_,_=>by cases h
 |a::l,h,x,g,y,c,e=>by
  rw[d7,mh]at h;rcases d6.mp g with d|h1
  .rcases d6.mp c with b|h2
   .rw[d,b]
   .show absurd (i6.mpr ⟨y,h2,by rw[<-e,d]⟩) h.1
  .rcases d6.mp c with b|h2
   .show absurd (i6.mpr ⟨x,h1,by rw[e,b]⟩) h.1
   .show map_inj h.2 x h1 y h2 e
section
def wC(h:ig rs p=a5 j):∃us,rs[p]?=a5 (.bor j,.lst us)/\cB us=b6:=by
 unfold ig at h;split at h
 .split at h
  .cases h;show⟨_,by assumption,by assumption⟩
  .cases h
 .cases h
def Lz.V6(t:Lz C c0 c rs vs){i:Nat}(h:rs[i]?=a5 r):∃v,vs[i]?=a5 v/\aN C c0 c r.1 r.2 v:=by
 have d:∀(l:List (Kd×U)) (w:List V),cM C c0 c l w->bq l c.st->∀(i:Nat) (r:Kd×U),l[i]?=a5 r->∃v,w[i]?=a5 v/\aN C c0 c r.1 r.2 v:=by
  intro l;induction l with
  |nil=>intro w _ _ i r e;simp at e
  |cons x l f =>
   intro w h hs i r e;obtain⟨v,t',rfl,g,j,_⟩:=h;rw[gz]at hs;cases i with
   |zero=>simp at e;subst e;show⟨v,rfl,g.t hs.1⟩
   |succ i=>have⟨k,a,b⟩:=f t' j hs.2 i r (by simpa using e);show⟨k,by simpa using a,b⟩
 show d rs vs t.rep t.Om i r h
def Lz.len(t:Lz C c0 c rs vs):rs.length=vs.length:=by
 have:=t.read.len;rw[c4]at this;show this
theorem uO(q:C'.Eqv C){vs:List V}(hs:∀a,S' a->S1 a){IO:d8->Prop}(O:∀a,S' a->¬IO a)(y:∀a o,IO a->H' a=a5 o->¬Tp o):
  ∀(ps:List Nat) (ws:List U) (c:Cf) (st':aw),Ok C c->Ns c1 c->c.S=S1->gW rs ps ws c.st=a5 st'->(ps.map (ig rs)).Nodup->(∀p∈ps,∀a,vs[p]?=a5 (.ref a)->IO a) ->
  (∀p∈ps,∀j,ig rs p=a5 j->∃k u r,k.root=b6/\c.st[j]?=a5 (a5 (k,u))/\c.σ[j]?=a5 (a5 (.ref r))/\vs[p]?=a5 (.ref r)) ->
  (∀(n p:Nat) (r:d8) (w:U),ps[n]?=a5 p->vs[p]?=a5 (.ref r)->ws[n]?=a5 w->cU C' S' H' r w)->(∀a,(∀p∈ps,vs[p]?≠a5 (.ref a))->c.H a=H' a)->(∀a,¬IO a->c.H a=H' a) ->
  ∃g:Cf,Ok C g/\Ns c1 g/\g.σ=c.σ/\g.S=S1/\g.st=st'/\g.H=H'/\g.kid=c.kid/\∀(j:Nat) (k:Kd) (u:U),g.st[j]?=a5 (a5 (k,u))->∃A,c.st[j]?=a5 (a5 (k,A))
 |[],ws,c,st',B,n,x,e,_,_,_,_,D,_=>by
  cases ws with
  |nil=>cases e;show⟨c,B,n,rfl,x,rfl,funext λa=>D a λp hp=>(by cases hp),rfl,λj k u e=>⟨u,e⟩⟩
  |cons _ _=>cases e
 |p::ps,ws,c,st',B,n,x,e,G,Q,T,rt,D,I=>by
  cases ws with
  |nil=>cases e
  |cons w ws =>
   simp only[gW]at e;split at e
   .rename_i j Y;split at e
    .rename_i us k0 ZR IZ;have⟨k,u,r,hk,s,e2,J⟩:=T p (by simp) j Y;rw[IZ]at s;cases s;have s:=IZ;have hr:=rt 0 p r _ rfl J rfl;have⟨xs,g1,g2⟩:=hr;have L:IO r:=Q p (by simp) r J;rw[d7,mh]at G;have⟨Je,n'⟩:=B.mod (H':=upd c.H r (.lst xs)) (u':=.lst us) n hk s e2 (λa ne=>ak ne) ⟨_,ax⟩ (λ_=>⟨xs,ax,by
      show(g2.cg q).mv ⟨λa z=>by rw[x];show hs a z,λa o h tp=>?_,λa o z h=>?_⟩
      .by_cases l:a=r
       .subst l;show absurd tp (y a o L h)
       .rw[ak l];by_cases v:IO a
        .show absurd tp (y a o v h)
        .rw[I a v];show h
      .have v:=O a z;have l:a≠r:=λe=>v (e▸L);rw[ak l,I a v];show h⟩)
     have JQ:j<c.st.length:=(dt.mp s).1;have A1:∀f∈ps,∀t,ig rs f=a5 t->∃k u r,Kd.root k=b6/\(c.st.set j (a5 (k0,.lst us)))[t]?=a5 (a5 (k,u))/\c.σ[t]?=a5 (a5 (.ref r))/\vs[f]?=a5 (.ref r):=λf hp t Lm=>by
      have⟨k',u',N,a1,a2,a3,a4⟩:=T f (by simp[hp]) t Lm;have ne:j≠t:=λz=>G.1 (i6.mpr ⟨f,hp,by rw[Lm,Y,z]⟩);show⟨k',u',N,a1,by rw[gc ne];show a2,a3,a4⟩
     have A2:∀a,(∀f∈ps,vs[f]?≠a5 (.ref a))->upd c.H r (.lst xs) a=H' a:=λa l=>by
      by_cases h:a=r
      .subst h;rw[ax,g1]
      .rw[ak h];show D a λf hp z=>?_;rcases d6.mp hp with rfl|hp
       .rw[J]at z;cases z;show h rfl
       .show l f hp z
     have A3:∀a,¬IO a->upd c.H r (.lst xs) a=H' a:=λa l=>by
      have ne:a≠r:=λz=>l (by rw[z];show L);rw[ak ne];show I a l
     have⟨g,f1,f2,f3,f4,f5,f6,f7,f8⟩:=uO q hs O y ps ws {c with H:=upd c.H r (.lst xs),st:=c.st.set j (a5 (k0,.lst us))} st' Je n' x e G.2 (λf hp=>Q f (by simp[hp])) A1 (λm f N w' a b d=>rt (m+1) f N w' (by simpa using a) b (by simpa using d)) A2 A3;show⟨g,f1,f2,f3,f4,f5,f6,f7,λi k' u' z=>?_⟩;have⟨A,z⟩:=f8 i k' u' z;by_cases hi:i=j
     .subst hi;have z:(c.st.set i (a5 (k0,.lst us)))[i]?=_:=z;rw[d4 JQ]at z;cases z;show⟨_,s⟩
     .have z:(c.st.set j (a5 (k0,.lst us)))[i]?=_:=z;rw[gc (nH hi)]at z;show⟨A,z⟩
    .cases e
   .cases e
end
section
def BN(st:aw)(r:Kd×U):(eF st r).1=r.1:=by
 unfold eF;split<;>rfl
theorem cM.V7{st:aw}:∀{rs:List (Kd×U)}{vs:List V},cM C c0 c rs vs->cM C c0 c (rs.map (eF st)) vs
 |[],_,h=>h
 |r::rs,vs,h=>by
  have⟨v,t,rfl,d,e,f⟩:=h;show⟨v,t,rfl,?_,cM.V7 e,λhk i m g a j b=>?_⟩
  .have⟨k,u⟩:=r;cases k<;>show d
  .rw[i8,eH]at a;have⟨l,a,rfl⟩:=a;rw[BN]at hk b;show f hk i l g a j b
def BO(h:PA X es (Kj C ms)):PA X es (Kj C (ms >>= A_)):=by
 rintro pos a s σ H Q I ⟨c0,rfl,rfl,b,w⟩;show h pos a s c0.σ c0.H Q I ⟨c0,rfl,rfl,b,?_⟩;rw[ah]at w;show w.mono λrs st d c vs f g i n r=>?_;have⟨j,st',e,q⟩:=d;cases e;show q c vs f g i n r.V7
def yR(h:TN r=a5 (k,u,ws)):r=(k,.tup (u::ws))/\(k=.own\/k=.loc):=by
 unfold TN at h;split at h
 .cases h;show⟨rfl,.inl rfl⟩
 .cases h;show⟨rfl,.inr rfl⟩
 .cases h
def yS(hP:C.P=X.prog)(hw:C.w=X.w)(hK:C.K=X.K)(hF:Γ f=F)(hk:∀us r,F us=a5 (.ok r)->us.length=np)
  (G:jh X.prog X.w X.K X.mg X.base N2 k fa fd ps (RF X.prog X.w X.K F np is)) (hr:fK k X.A) (hg:Gl X f) (hm:X.mg f=a5 (.ref fa)) (Oa:PySem.W.keepIn X.K (.ref fa)=b6) (B:Binds X.K fd ps [])
  (L6:(f==("__debug__":Str))=cc) (ha:PA X (e::es) (Kj C ms)) (he:hW (e::es) X.env=(cc,u7 e X.env)::hW es X.env) (JJ:(C1 pos (hW es X.env)).any (·.1)=cc) :
  PE X (.Call (.Name f p) (e::es) [] pos) (IX C (ms >>= λrs=>aA rs >>= λ_=>qw Γ f rs is)):=by
 rintro ag s σ H Q I ⟨c0,rfl,rfl,ok,h⟩;show sL (fe I hg hm ?_ L6);show PySem.W.callWith_K (h₀:=X.base) I.ok.mod.OR Oa (I0 (args ha I ok h pos) λus s1 ⟨rs,c,vs,t,I1,rv,w⟩=>⟨I1.Mm,?_⟩) he JJ;have⟨r,st',D,q⟩:=w;unfold qw at D;rw[hF]at D;split at D
 .rename_i r0 e2;split at D
  .rename_i kd u ws eu;split at D
   .rename_i JV;split at D
    .rename_i st2 UB;cases D;have⟨rfl,k1⟩:=yR eu;have k2:=hk _ _ e2;unfold qv at JV;simp only[cb,i9,Ļ,K',u5]at JV;obtain⟨⟨h1,h2⟩,h3⟩:=JV;have T:∀p∈is,∃j xs k r,ig rs p=a5 j/\rs[p]?=a5 (.bor j,.lst xs)/\cB xs=b6/\Kd.root k=b6/\c.st[j]?=a5 (a5 (k,.lst xs))/\c.σ[j]?=a5 (a5 (.ref r))/\vs[p]?=a5 (.ref r)/\¬c.S r/\¬C.Lu r/\cU C c.S c.H r (.lst xs):=λp L=>by
      have⟨j,Y⟩:=RV.mp (h1 p L);have⟨xs,a1,a2⟩:=wC Y;have⟨v,b1,x⟩:=t.V6 a1;obtain⟨r,rfl,d1,d2,_,N⟩:=t.ok.rootOf x.1 x.2;have⟨k,m,l⟩:=x.1;show⟨j,xs,k,r,Y,a1,a2,m,l,x.2,b1,d1,d2,N⟩
     let IO:d8->Prop:=λa=>∃p∈is,vs[p]?=a5 (.ref a);have QA:∀a,IO a->c.R a/\¬c.S a/\¬C.Lu a/\KH c.H a:=λa Jd=>by
      have⟨p,L,e⟩:=Jd;obtain⟨j,xs,k,r,_,_,_,m,l,y,J,g5,g6,g7⟩:=T p L;rw[e]at J;cases J;obtain⟨o,ho,_⟩:=g7.some;show⟨.inl ⟨j,k,_,m,l,y⟩,g5,g6,o,ho⟩
     let Pr:d8->Prop:=λa=>KH c.H a/\¬IO a;have ab:C.Eqv (MI X.prog X.w X.K c.H Pr IO):=⟨hP,hw,hK⟩
     have LB:(MI X.prog X.w X.K c.H Pr IO).Eqv C:=⟨hP.symm,hw.symm,hK.symm⟩
     have sP:∀a,c.S a->Pr a:=λa z=>⟨t.ok.yi a z,λz'=>(QA a z').2.1 z⟩
     have gi:∀{i:Nat} {u:U},(rs.map (·.2))[i]?=a5 u->∃k,rs[i]?=a5 (k,u):=λ{i u} e=>by
      rw[i8,eH]at e;obtain⟨⟨k,u'⟩,e,rfl⟩:=e;show⟨k,e⟩
     have ac:EO (MI X.prog X.w X.K c.H Pr IO) c.H is (rs.map (·.2)) vs:=by
      show⟨by rw[c4];show t.len,λa z=>z,λa z=>(QA a z).2.2.2,λi u O e=>?_,λi u O e=>?_,λi j r O Y e3 e4=>?_,λa z=>z⟩
      .obtain⟨j,xs,k,r,_,g0,gm,m,l,y,J,g5,g6,zs,g7,g8⟩:=T i O;have⟨k',e⟩:=gi e;rw[g0]at e;cases e;show⟨r,J,⟨i,O,J⟩,zs,g7,(au.Jo gm g8).cg ab⟩
      .have⟨k',e⟩:=gi e;have⟨v,b1,x⟩:=t.V6 e;show⟨v,b1,?_⟩;have JQ:i<rs.length:=(dt.mp e).1;have Po:=(h3 i JQ).resolve_left O;rw[W8,e]at Po;show Rep.cg ab (u:=u) ?_;cases k' with
       |own =>
        obtain⟨r,rfl,_,d1,d2,N⟩:=x;obtain⟨o,ho,_⟩:=N.some;show N.rep sP ⟨⟨o,ho⟩,λz=>d2 (QA r z).1⟩
       |loc=>show Rep.mv (.up sP) x
       |any=>show Rep.mv (.up λa z=>z.elim (λz=>⟨t.ok.Ga a (.inl z),λz'=>(QA a z').2.2.1 z⟩) (sP a)) x
       |bor j =>
        obtain⟨r,rfl,d1,d2,_,N⟩:=t.ok.rootOf x.1 x.2;obtain⟨o,ho,_⟩:=N.some;show N.rep sP ⟨⟨o,ho⟩,λ⟨p',RG,e'⟩=>?_⟩;obtain⟨j',xs,k2,r2,g,_,_,m,l,y,J,_⟩:=T p' RG;rw[e']at J;cases J;have⟨k3,z1,z2⟩:=x.1;have:=t.ok.inj j j' k3 k2 _ _ r z1 m z2 l x.2 y;subst this;have:a5 j∉is.map (ig rs):=by simpa[qu] using Po
        show this (i6.mpr ⟨p',RG,g⟩)
       |_=>show x.elim
      .obtain⟨j1,_,k1,r1,a0,_,_,a1,a2,a3,a4,_⟩:=T i O;obtain⟨j2,_,k2,r2,b0,_,_,b1,x,b3,b4,_⟩:=T j Y;rw[e3]at a4;cases a4;rw[e4]at b4;cases b4;have:=t.ok.inj j1 j2 k1 k2 _ _ r a1 b1 a2 x a3 b3;subst this;show map_inj h2 i O j Y (by rw[a0,b0])
     have KD:RF X.prog X.w X.K F np is vs c.H (λv H'=>Q v H') E0:=⟨by rw[<-t.len,<-k2,c4],rs.map (·.2),kd,u,ws,Pr,IO,e2,k1,ac,λv H' S' B=>by
      classical
      let H1:Hp:=λa=>if IO a then c.H a else H' a
      have RH:∀a,¬IO a->H1 a=H' a:=λa z=>Ľ z;have Qz:∀a,S' a->¬IO a:=λa z z'=>by
       have⟨o,ho⟩:=(QA a z').2.2.2;rw[(B.new a z).1]at ho;cases ho
      have QB:pW c.H H1:=λa o e=>by
       by_cases z:IO a
       .change(if IO a then _ else _)=_;rw[ļ z];show e
       .rw[RH a z];show B.same a o e z
      have⟨IY,n1⟩:=t.ok.grow (H':=H1) (S':=λa=>c.S a\/S' a) QB (λa z=>z.imp id λz=>⟨(B.new a z).1,by rw[RH a (Qz a z)];show(B.new a z).2⟩) λa=>.inl;have QC:∀(n i:Nat) (r:d8),is[n]?=a5 i->vs[i]?=a5 (.ref r)->∃w,ws[n]?=a5 w/\cU (MI X.prog X.w X.K c.H Pr IO) S' H' r w:=λn i r a b=>by
       have hn:n<ws.length:=by rw[B.len];show(dt.mp a).1
       show⟨_,mx hn,B.KU n i r _ a b (mx hn)⟩
      have⟨cf,f1,f2,f3,f4,f5,f6,f7,f8⟩:=uO (C:=C) LB (rs:=rs) (vs:=vs) (H':=H') (S':=S') (S1:=λa=>c.S a\/S' a) (λa=>.inr) (IO:=IO) Qz (λa o ⟨i,O,z⟩ e=>by
        have⟨n,hn⟩:=List.getElem?_of_mem O;obtain⟨w,_,g⟩:=QC n i a hn z;have⟨o',m,l⟩:=g.some;rw[e]at m;cases m;show l) is ws {c with H:=H1,S:=λa=>c.S a\/S' a} st' IY n1.toNs rfl UB h2 (λp L a z=>⟨p,L,z⟩) (λp L j Y=>by
        obtain⟨j',xs,k,r,g0,_,_,m,l,y,J,_⟩:=T p L;rw[Y]at g0;cases g0;show⟨k,_,r,m,l,y,J⟩) (λn i r w a b d=>B.KU n i r w a b d) (λa ha=>RH a λ⟨p,L,z⟩=>ha p L z) RH
      subst f6;have YT:∀a,cf.R a->c.R a:=λa z=>by
       rcases z with⟨j,k,u,m,l,y⟩|⟨j,u,r,m,l,y⟩
       .have⟨u0,g⟩:=f8 j k u l;rw[f3]at y;show .inl ⟨j,k,u0,m,g,y⟩
       .have⟨u0,g⟩:=f8 j .IL u m;rw[f3]at l;rw[f7]at y;show .inr ⟨j,u0,r,g,l,y⟩
      have dk:∀a,cf.Pd a->c0.Pd a/\∀o,c0.H a=a5 o->cf.H a=a5 o:=λa Jd=>by
       have⟨j,u,r,m,l,y⟩:=Jd;have⟨u0,g⟩:=f8 j .IL u m;rw[f3]at l;rw[f7]at y;have hd:c.RD j a:=⟨u0,r,g,l,y⟩
       have JV:¬IO a:=λJd=>by
        have⟨p',RG,e'⟩:=Jd;obtain⟨j',xs,k2,r2,_,_,_,y1,y2,y3,y4,_⟩:=T p' RG;rw[e']at y4;cases y4;show t.ok.dd.d1 j a hd ⟨j',k2,_,y1,y2,y3⟩
       show⟨(t.nx.dk a ⟨j,hd⟩).1,λo e=>B.same a o ((t.nx.dk a ⟨j,hd⟩).2 o e) JV⟩
      show q cf v (f3.trans t.hσ) f5 f1 ⟨t.nx.toNs.trans f2,dk⟩ ?_;rcases k1 with rfl|rfl
      .have⟨r,rfl,d1,d2,N⟩:=B.own rfl;obtain⟨_,z1,_,_,z4⟩:=t.ok.j5 d1;show⟨r,rfl,t.nx.none d1,by rw[f4];show λz=>z.elim z1 d2,λz=>z4 (YT r z),(N.cg LB).mv (.up λa z=>by rw[f4];show .inr z) λo q=>q⟩
      .show((B.loc rfl).cg LB).mv (.up λa z=>by rw[f4];show .inr z)⟩
     have z:=xx (Q:=Q) G hr B .nil FZ I1 rv (by rw[r6];show KD);rw[t.hσ]at z;show z
    .cases D
   .cases D
  .cases D
 .cases D
end
structure Ck where
 fns:List Str
 gl:List (Str×U)
 KU:List (Str×List Nat)
 xc:List Str
 xd:List (Str×Str)
 xi:List (Str×Str×Bool)
 xe:List (Str×Str)
abbrev pe:U->U->Bool
 |.int i,.int j=>cK (i=j)
 |.str x,.str y=>cK (x=y)
 |.bl a,.bl b=>a==b
 |.IV,.IV=>b6
 |_,_=>cc
def cu(h:pe u v=b6):u=v:=by
 cases u<;>cases v<;>simp[pe]at h<;>subst_vars<;>rfl
abbrev noStar:l0->Bool
 |.Starred _ _=>cc
 |_=>b6
abbrev eM:l0->Bool
 |.Slice _ _ _ _=>cc
 |_=>b6
abbrev sF:l0->Bool
 |.Set _ _ _=>cc
 |_=>b6
abbrev pf:l0->Bool
 |.Call (.Name _ _) [] [] _=>cc
 |_=>b6
abbrev cX:l0->Bool
 |.ListComp _ _ _ _=>cc
 |.SetComp _ _ _ _=>cc
 |.DictComp _ _ _ _ _=>cc
 |_=>b6
abbrev ER:l0->Bool
 |.Tuple _ _ _=>cc
 |_=>b6
abbrev Ki(a:LG)(x:Str):Bool:=cK (a.names.lookup x=a5 .globalImplicit)
abbrev fZ(a:LG)(x:Str):Bool:=cK (a.names.lookup x=a5 .local)||decide (a.names.lookup x=a5 .cell)||decide (a.names.lookup x=a5 .free)
abbrev j8(a:LG)(x:Str):Bool:=cK (a.names.lookup x=a5 .local)||decide (a.names.lookup x=a5 .cell)
abbrev GO(a:LG)(x:Str):Bool:=cK (a.names.lookup x=a5 .local)
abbrev ba(x:Str):Bool:=!(x==("__debug__":Str))&&!(x==("__classdict__":Str))
abbrev uP(N:List Str)(a:LG)(fa:Bool)(i:Nat):l0->Bool
 |.Name x _=>cK (N[i]?=a5 x)&&j8 a x&&(fa||GO a x)
 |_=>cc
abbrev ph(N:List Str)(a:LG)(fa:Bool):List Nat->List l0->Bool
 |[],[]=>b6
 |i::is,e::es=>uP N a fa i e&&ph N a fa is es
 |_,_=>cc
abbrev de:l0->List Str
 |.Name x _=>[x]
 |.Tuple es _ _=>es.filterMap fun|.Name x _=>a5 x|_=>b8
 |_=>[]
abbrev hide(a N:List Str):List Str:=match a.filter λx=>cK (x∈N) with
 |[]=>N
 |[x]=>N.set (N.idxOf x) "."
 |x::y::_=>(N.set (N.idxOf x) ".").set (N.idxOf y) ".."
abbrev OC(t:Bool)(N:List Str)(a:LG)(fa:Bool)(is:List Nat):l0->Bool
 |.Name x p=>!t&&(match is with|[i]=>uP N a fa i (.Name x p)|_=>cc)
 |.Tuple es _ _=>t&&ph N a fa is es&&is.all λi=>cK (i<N.length)
 |_=>cc
abbrev isTup:l0->Bool
 |.Tuple _ _ _=>b6
 |_=>cc
abbrev pj(e:l0):Option (Str×List l0):=match e with
 |.Call f as kw _=>match f with
  |.Name x _=>if kw.isEmpty=b6 then a5 (x,as) else b8
  |_=>b8
 |_=>b8
def jM(h:pj e=a5 (x,as)):∃p q,e=.Call (.Name x p) as [] q:=by
 unfold pj at h;split at h
 .split at h
  .split at h
   .rename_i hk;rw[wk]at hk;cases h;subst hk;show⟨_,_,rfl⟩
   .cases h
  .cases h
 .cases h
abbrev f9(a:LG)(b:l0)(ik:Ik)(e:l0):Option (List l0):=match ik with
 |.seq=>a5 [e]
 |.Kx=>(pj e).bind λp=>if p.1="range"/\Ki a p.1=b6/\p.2.length=1 then a5 p.2 else b8
 |.Na=>(pj e).bind λp=>if p.1="enumerate"/\Ki a p.1=b6/\p.2.length=1/\isTup b=b6 then a5 p.2 else b8
 |_=>b8
abbrev simple:Bf->Bool:=λ_=>b6
abbrev yT(scope a:LG):LG:={scope with names:=scope.names.map λ(n,k)=>if (k==L0&&a.kind==.function&&a.names.lookup n==a5 .cell)=b6 then(n,.cell) else(n,k)}
abbrev aX(e:l0)(k:Str->Bool):Bool:=match e with|.Name x _=>k x|_=>cc
def ao(h:aX e k=b6):∃x p,e=.Name x p/\k x=b6:=by
 unfold aX at h;split at h
 .show⟨_,_,rfl,h⟩
 .cases h
abbrev cC{α:Type}(l:List α)(k:α->Bool):Bool:=match l with|[a]=>k a|_=>cc
def aJ(h:cC l k=b6):∃a,l=[a]/\k a=b6:=by
 unfold cC at h;split at h
 .show⟨_,rfl,h⟩
 .cases h
abbrev cY(e:l0)(k:l0->List l0->Pos->Bool):Bool:=match e with|.Call f as kw p=>kw.isEmpty&&k f as p|_=>cc
def aT(h:cY e k=b6):∃f as p,e=.Call f as [] p/\k f as p=b6:=by
 unfold cY at h;split at h
 .rename_i f as kw p;rw[cb,wk]at h;have⟨rfl,h⟩:=h;show⟨_,_,_,rfl,h⟩
 .cases h
abbrev sG(e:l0)(k:l0->Str->Pos->Bool):Bool:=match e with|.Attribute o m p=>k o m p|_=>cc
def qG(h:sG e k=b6):∃o m p,e=.Attribute o m p/\k o m p=b6:=by
 unfold sG at h;split at h
 .show⟨_,_,_,rfl,h⟩
 .cases h
abbrev uQ(e:l0)(k:l0->Ô->l0->Bool):Bool:=match e with|.BinOp a c b _=>k a c b|_=>cc
def ly(h:uQ e k=b6):∃a c b p,e=.BinOp a c b p/\k a c b=b6:=by
 unfold uQ at h;split at h
 .show⟨_,_,_,_,rfl,h⟩
 .cases h
abbrev uR(e:l0)(k:l0->CmpOp->l0->Bool):Bool:=match e with|.Compare a ops bs _=>cC ops λc=>cC bs λb=>k a c b|_=>cc
def il(h:uR e k=b6):∃a c b p,e=.Compare a [c] [b] p/\k a c b=b6:=by
 unfold uR at h;split at h
 .have⟨c,rfl,d⟩:=aJ h;have⟨b,rfl,f⟩:=aJ d;show⟨_,_,_,_,rfl,f⟩
 .cases h
abbrev dX(e:l0)(k:l0->Str->Pos->List l0->Pos->Bool):Bool:=cY e λf as b=>sG f λo m a=>k o m a as b
def bz(h:dX e k=b6):∃o m a as b,e=.Call (.Attribute o m a) as [] b/\k o m a as b=b6:=by
 have⟨f,as,p,rfl,h⟩:=aT h;have⟨o,m,q,rfl,h⟩:=qG h;show⟨_,_,_,_,_,rfl,h⟩
abbrev jN(e:l0)(k:l0->l0->Bool):Bool:=match e with|.Subscript a b _=>k a b|_=>cc
def dm(h:jN e k=b6):∃a b p,e=.Subscript a b p/\k a b=b6:=by
 unfold jN at h;split at h
 .show⟨_,_,_,rfl,h⟩
 .cases h
abbrev V8:E->Bool
 |.var _=>b6
 |.cst _=>b6
 |_=>cc
abbrev qH{α:Type}(l:List α)(k:α->α->Bool):Bool:=match l with|[a,b]=>k a b|_=>cc
def dY(h:qH l k=b6):∃a b,l=[a,b]/\k a b=b6:=by
 unfold qH at h;split at h
 .show⟨_,_,rfl,h⟩
 .cases h
abbrev qI(e:l0)(k:Const->Bool):Bool:=match e with|.Constant c _ _=>k c|_=>cc
def fy(h:qI e k=b6):∃c q p,e=.Constant c q p/\k c=b6:=by
 unfold qI at h;split at h
 .show⟨_,_,_,rfl,h⟩
 .cases h
abbrev Iu:Const->Option U
 |.int j=>a5 (.int j)
 |.str y=>a5 (.str y)
 |.bool y=>a5 (.bl y)
 |.none=>a5 .IV
 |_=>b8
abbrev Iv(u:U)(c:Const):Bool:=match Iu c with|some v=>pe u v|none=>cc
abbrev BP(e:l0)(a:BoolOp)(k:List l0->Bool):Bool:=match e with|.BoolOp o es _=>cK (o=a)&&k es|_=>cc
def jr(h:BP e a k=b6):∃es p,e=.BoolOp a es p/\k es=b6:=by
 unfold BP at h;split at h
 .rw[cb,Ļ]at h;have⟨rfl,h⟩:=h;show⟨_,_,rfl,h⟩
 .cases h
abbrev ES(e:l0)(b:UnaryOp)(k:l0->Bool):Bool:=match e with|.UnaryOp o a _=>cK (o=b)&&k a|_=>cc
def nq(h:ES e b k=b6):∃a p,e=.UnaryOp b a p/\k a=b6:=by
 unfold ES at h;split at h
 .rw[cb,Ļ]at h;have⟨rfl,h⟩:=h;show⟨_,_,rfl,h⟩
 .cases h
abbrev BQ(e:l0)(k:l0->l0->l0->Bool):Bool:=match e with|.IfExp c a b _=>k c a b|_=>cc
def nu(h:BQ e k=b6):∃c a b p,e=.IfExp c a b p/\k c a b=b6:=by
 unfold BQ at h;split at h
 .show⟨_,_,_,_,rfl,h⟩
 .cases h
abbrev uS(e:l0)(k:List l0->Bool):Bool:=match e with|.Tuple l _ _=>k l|_=>cc
def lz(h:uS e k=b6):∃l q p,e=.Tuple l q p/\k l=b6:=by
 unfold uS at h;split at h
 .show⟨_,_,_,rfl,h⟩
 .cases h
abbrev yU(e:l0)(k:List l0->Bool):Bool:=match e with|.List l _=>k l|_=>cc
def sH(h:yU e k=b6):∃l p,e=.List l p/\k l=b6:=by
 unfold yU at h;split at h
 .show⟨_,_,rfl,h⟩
 .cases h
abbrev BR(e:l0):Bool:=match e with|.Dict a b _=>a.isEmpty&&b.isEmpty|_=>cc
def nv(h:BR e=b6):∃p,e=.Dict [] [] p:=by
 unfold BR at h;split at h
 .rw[cb,wk,wk]at h;have⟨rfl,rfl⟩:=h;show⟨_,rfl⟩
 .cases h
abbrev yV(e:l0)(k:Option l0->Option l0->Bool):Bool:=match e with|.Slice a b c _=>c.isNone&&k a b|_=>cc
def sI(h:yV e k=b6):∃a b p,e=.Slice a b b8 p/\k a b=b6:=by
 unfold yV at h;split at h
 .rw[cb,RC]at h;have⟨rfl,h⟩:=h;show⟨_,_,_,rfl,h⟩
 .cases h
abbrev ET(e:l0)(k:l0->l0->l0->List l0->LG->Bool):Bool:=match e with|.ListComp elt a b _=>cC a λg=>cK (g.is_async=0)&&k elt g.target g.iter g.ifs b|_=>cc
def jt(h:ET e k=b6):∃elt d a b f p,e=.ListComp elt [⟨d,a,b,0⟩] f p/\k elt d a b f=b6:=by
 unfold ET at h;split at h
 .obtain⟨⟨d,a,b,z⟩,rfl,c⟩:=aJ h;rw[cb,Ļ]at c;have⟨rfl,c⟩:=c;show⟨_,_,_,_,_,_,rfl,c⟩
 .cases h
abbrev isNm(e:l0)(n:Str):Bool:=aX e λx=>cK (x=n)
def gF(h:isNm e n=b6):∃p,e=.Name n p:=by
 have⟨x,p,e,z⟩:=ao h;show⟨p,ŀ z▸e⟩
abbrev BS(v:l0)(f:Str)(k:List l0->Bool):Bool:=cY v λg as _=>isNm g f&&k as
def gG(h:BS v f k=b6):∃as p q,v=.Call (.Name f p) as [] q/\k as=b6:=by
 have⟨g,as,q,rfl,z⟩:=aT h;rw[cb]at z;have⟨p,rfl⟩:=gF z.1;show⟨as,p,q,rfl,z.2⟩
mutual
noncomputable def bx(k:Ck):E->List Str->LG->l0->Bool
 |.var i,N,g,h=>aX h λx=>cK (N[i]?=a5 x)&&fZ g x&&ba x
 |.cst u,N,g,h=>qI h λc=>Iv u c
 |.Of x u,N,g,h=>aX h λy=>cK (x=y)&&Ki g x&&ba x&&k.gl.any λp=>cK (p.1=x)&&pe p.2 u
 |.bin B a b,N,g,h=>uQ h λa' A q=>cK (B.op=A)&&bx k a N g a'&&bx k b N g q
 |.cmp B a b,N,g,h=>uR h λa' A q=>cK (B.op=A)&&!Q6 A q&&bx k a N g a'&&bx k b N g q
 |.MB _ _ _ _ _,_,_,_=>cc
 |.and es,N,g,h=>BP h .And λs=>aU k es N g s
 |.or es,N,g,h=>BP h .Or λs=>aU k es N g s
 |.not a,N,g,h=>ES h .Not λa'=>bx k a N g a'
 |.ite c a b,N,g,h=>BQ h λG a' q=>bx k c N g G&&bx k a N g a'&&bx k b N g q
 |.neg _,_,_,_=>cc
 |.bad,_,_,_=>b6
 |.Kf a D H,N,g,h=>BS h "isinstance" λas=>qH as λa' q=>isNm q D&&noStar a'&&Ki g "isinstance"&&Ki g D&&ba D&&(k.xi.any λp=>cK (p.2.1=D))&&H.all (λp=>cK ((p.1,D,p.2)∈k.xi))&&bx k a N g a'
 |.Nd I i b,N,g,h=>dX h λo m j as w=>aX o λx=>cC as λa'=>qI a' λc=>cK (c=.bool b)&&cK (m=GN I)&&cK (N[i]?=a5 x)&&fZ g x&&ba x&&(j.endLine==w.line)
 |.pop i,N,g,h=>dX h λo m j as w=>aX o λx=>as.isEmpty&&cK (m="pop")&&cK (N[i]?=a5 x)&&fZ g x&&ba x&&(j.endLine==w.line)
 |.Nc i a,N,g,h=>dX h λo m j as w=>aX o λx=>cC as λa'=>cK (m="pop")&&cK (N[i]?=a5 x)&&fZ g x&&ba x&&(j.endLine==w.line)&&noStar a'&&bx k a N g a'
 |.IT f es is,N,g,h=>cY h λf' s _=>aX f' λx=>cK (x=f)&&cK ((f,is)∈k.KU)&&Ki g x&&ba x&&!s.isEmpty&&aU k es N g s
 |.inD neg a i,N,g,h=>uR h λa' A q=>aX q λx=>cK (EI neg=A)&&!Q6 A q&&cK (N[i]?=a5 x)&&fZ g x&&ba x&&bx k a N g a'
 |.Pe i,N,g,h=>aX h λx=>cK (N[i]?=a5 x)&&fZ g x&&ba x
 |.Lv i a b,N,g,h=>dX h λo m j as w=>aX o λx=>qH as λa' q=>cK (m="get")&&cK (N[i]?=a5 x)&&fZ g x&&ba x&&(j.endLine==w.line)&&noStar a'&&noStar q&&bx k a N g a'&&bx k b N g q
 |.Pf i,N,g,h=>cY h λf' as _=>aX f' λf=>cC as λc=>dX c λo m j bs w=>aX o λx=>bs.isEmpty&&cK (f="sorted")&&Ki g f&&cK (m="items")&&cK (N[i]?=a5 x)&&fZ g x&&ba x&&(j.endLine==w.line)
 |.Nb ln a b,N,g,h=>cY h λf' as _=>aX f' λf=>cC as λd=>uQ d λl B r=>cY l λJ L _=>aX J λO=>cC L λa'=>cY r λQ Y _=>aX Q λg2=>cC Y λq =>
  cK (f=(if ln=b6 then("len":Str) else "sorted"))&&cK (O="set")&&cK (g2="set")&&cK (B=.Sub)&&Ki g f&&Ki g "set"&&noStar a'&&noStar q&&bx k a N g a'&&bx k b N g q
 |.fst es,N,g,h=>cc
 |.NH a T,N,g,h=>cY h λf' as _=>aX f' λx=>qH as λa' q=>aX q λy=>cK (x="isinstance")&&cK (y=T.name)&&Ki g x&&Ki g y&&noStar a'&&bx k a N g a'
 |.tup es,N,g,h=>uS h λs=>aU k es N g s
 |.lst es,N,g,h=>yU h λs=>aU k es N g s
 |.Ky _,N,g,h=>BR h
 |.idx a b,N,g,h=>jN h λa' q=>eM q&&bx k a N g a'&&bx k b N g q
 |.MC a lo hi,N,g,h=>jN h λa' q=>yV q λV9 Kv=>bx k a N g a'&&sJ k lo N g V9&&sJ k hi N g Kv
 |.bi f es,N,g,h=>cY h λf' s _=>aX f' λx=>cK (x=f.name)&&simple f&&Ki g x&&!s.isEmpty&&aU k es N g s
 |.NF f es,N,g,h=>cY h λf' as _=>aX f' λx=>cC as λc=>cY c λg' s _=>aX g' λy=>cK (x=f.oZ)&&cK (y=f.iS)&&Ki g x&&Ki g y&&!s.isEmpty&&aU k es N g s
 |.NG m a es,N,g,h=>dX h λo name j s w=>cK (name=m.name)&&pf o&&(j.endLine==w.line)&&!s.isEmpty&&cK (s.length<20)&&bx k a N g o&&aU k es N g s
 |.call f es,N,g,h=>cY h λf' s _=>aX f' λx=>cK (x=f)&&cK (f∈k.fns)&&Ki g x&&ba x&&!s.isEmpty&&aU k es N g s
 |.comp n t ik src cond e,N,g,h=>ET h λelt v z C scope =>
   cK ((de v).length=n)&&AU (de v++hide (de v) N) (de v) scope g.names&&OC t (de v++hide (de v) N) (yT scope g) cc (gs n) v&&sF z &&
   (match f9 g v ik z with
    |some as=>aU k src N g as
    |none=>cc) &&
   cK (C.length<=1)&&aU k cond (de v++hide (de v) N) (yT scope g) C&&bx k e (de v++hide (de v) N) (yT scope g) elt
noncomputable def aU(k:Ck):List E->List Str->LG->List l0->Bool
 |[],_,_,a=>a.isEmpty
 |e::es,N,b,a=>match a with
  |e'::a=>noStar e'&&bx k e N b e'&&aU k es N b a
  |[]=>cc
noncomputable def sJ(k:Ck):List E->List Str->LG->Option l0->Bool
 |[],_,_,o=>o.isNone
 |[e],N,a,o=>match o with
  |some b=>bx k e N a b
  |none=>cc
 |_::_::_,_,_,_=>cc
end
abbrev bK:List Str:=["len","sorted","repr","max","min","all","any","list","tuple","str","int","range","enumerate","zip","reversed","set","dict","sum","isinstance","bool"]
structure OD(ck:Ck)(K:PySem.W.Frag)(mg:Str->Option dV):Prop where
 xc:∀x∈ck.xc,∃C,mg x=a5 (.ref C)/\PySem.W.nsIn K js x=a5 (a5 (.ref C))/\PySem.W.excIn K C Pb "ValueError.__new__"=b6
 xd:∀p∈ck.xd,∃C D,mg p.1=a5 (.ref C)/\PySem.W.nsIn K js p.1=a5 (a5 (.ref C))/\mg p.2=a5 (.ref D)/\PySem.W.exmOne K (.ref C) (.ref C)=a5 b6/\(PySem.W.kitCls K (.ref C) (.ref D)==a5 b6&&C != D)=b6
 xi:∀D,(∃p∈ck.xi,p.2.1=D)->∃dv,((∃D',dv=.ref D'/\mg D=a5 (.ref D'))\/(D="ValueError"/\dv=.type "ValueError"/\mg D=b8))/\∀p∈ck.xi,p.2.1=D->∀C,PySem.W.nsIn K js p.1=a5 (a5 (.ref C))->fV K C=b6/\PySem.W.kitOne K (.ref C) dv=a5 p.2.2
 xe:∀x,(∃p∈ck.xe,p.2=x)->∃D,mg x=a5 (.ref D)/\∀cl,(cl,x)∈ck.xe->∀C,PySem.W.nsIn K js cl=a5 (a5 (.ref C))->PySem.W.exmOne K (.ref C) (.ref D)=a5 b6
structure BU(P:u3)(w:ve)(K:PySem.W.Frag)(mg:Str->Option dV)(base:Jv)(d:Nat)(F:List U->Option (Ex (Kd×U)))(f:Str):Prop where
 ex:∃(np:Nat) (fa:d8) (fd:Sj) (ps:List Str),jh P w K mg base (Ob P w) d fa fd ps (spT P w K F np)/\mg f=a5 (.ref fa)/\PySem.W.keepIn K (.ref fa)=b6/\Binds K fd ps []/\(∀us k u,F us=a5 (.ok (k,u))->(k=.own\/k=.loc\/k=.any)/\us.length=np)/\∀us c,F us=a5 (.exc c)->us.length=np
structure BV(P:u3)(w:ve)(K:PySem.W.Frag)(mg:Str->Option dV)(base:Jv)(d:Nat)(F:List U->Option (Ex (Kd×U)))(f:Str)(is:List Nat):Prop where
 ex:∃(np:Nat) (fa:d8) (fd:Sj) (ps:List Str),jh P w K mg base N2 d fa fd ps (RF P w K F np is)/\mg f=a5 (.ref fa)/\PySem.W.keepIn K (.ref fa)=b6/\Binds K fd ps []/\∀us r,F us=a5 (.ok r)->us.length=np
structure Gd(ck:Ck)(Γ:Tab)(C:Ct)(d:Nat)(X:Cx):Prop where
 P:C.P=X.prog
 w:C.w=X.w
 K:C.K=X.K
 u:X.A.units+60<K2
 calm:X.calm=b6
 room:fK d X.A
 blt:∀x∈bK,X.mg x=b8
 fns:∀f∈ck.fns,BU X.prog X.w X.K X.mg X.base d (Γ f) f
 LV:∀p∈ck.gl,∃val v,X.mg p.1=a5 val/\RelV v val/\∀S H,Rep C S H p.2 v
 KU:∀p∈ck.KU,BV X.prog X.w X.K X.mg X.base d (Γ p.1) p.1 p.2
 MF:OD ck X.K X.mg
def Gd.cx(g:Gd ck Γ C d X)(N:List Str)(a:LG)(D:d8)(s:d5)(H:Hp)(ex:List d8):Gd ck Γ C d (J0 X N a D s H ex) :=
 ⟨g.P,g.w,g.K,g.u,g.calm,g.room,g.blt,g.fns,g.LV,g.KU,g.MF⟩
def b_(h:fZ a x=b6):Ks a x:=by
 unfold fZ at h;simp only[K',Ļ]at h;rcases h with(h|h)|h
 .show .inl h
 .show .inr (.inl h)
 .show .inr (.inr h)
def aC(h:ba x=b6):(x==("__debug__":Str))=cc/\(x==("__classdict__":Str))=cc:=by
 unfold ba at h;simpa using h
def bb(h:noStar e=b6):hW (e::es) env=(cc,u7 e env)::hW es env:=by
 cases e<;>first|rfl|cases h
def qJ(h:eM e=b6):ox e:=by
 intro o i;cases e<;>first|rfl|cases h
def sM(h:sF e=b6):∀x,LF e env x=pure x:=by
 intro x;cases e<;>first|rfl|cases h
def km(h:pf o=b6):SA o name env a=a:=by
 cases o with
 |Call f as ks p =>
  cases f with
  |Name x q=>cases as with
   |nil=>cases ks with
    |nil=>cases h
    |cons _ _=>rfl
   |cons _ _=>rfl
  |_=>rfl
 |_=>rfl
def bu(h:∀e∈es,noStar e=b6):(C1 pos (hW es env)).any (·.1)=cc/\(C1 pos (hW es env)).all (λx=>!x.1)=b6:=by
 induction es with
 |nil=>show⟨rfl,rfl⟩
 |cons e es a =>
  rw[bb (h e (by simp))];have:=a λb c=>h b (by simp[c]);constructor
  .change(cc||(C1 pos (hW es env)).any (·.1))=cc;rw[this.1];rfl
  .change(!cc&&(C1 pos (hW es env)).all (λx=>!x.1))=b6;rw[this.2];rfl
def cP(h:aU k es N c a=b6):∀e∈a,noStar e=b6:=by
 induction es generalizing a with
 |nil =>
  cases a with
  |nil=>intro e he;cases he
  |cons _ _=>simp[aU]at h
 |cons x es b =>
  cases a with
  |nil=>intro e he;cases he
  |cons d a =>
   simp only[aU,cb]at h;intro e he;rcases d6.mp he with rfl|he
   .show h.1.1
   .show b h.2 e he
def ny(a:fa=b6->∀x,X.fn x=b6)(h:uP X.N X.env.scope fa i e=b6):sy X e i:=by
 cases e with
 |Name x p =>
  simp only[uP,cb,Ļ,j8,K',GO]at h;show⟨x,p,rfl,h.1.1,?_,?_⟩
  .rcases h.1.2 with z|z
   .show .inl z
   .show .inr z
  .rcases h.2 with z|z
   .show .inl (a z x)
   .show .inr z
 |_=>cases h
theorem lA(a:fa=b6->∀x,X.fn x=b6):∀{is:List Nat}{es:List l0},ph X.N X.env.scope fa is es=b6->fu X es is
 |[],[],_=>.nil
 |[],_::_,h=>by cases h
 |_::_,[],h=>by cases h
 |i::is,e::es,h=>by
  simp only[ph,cb]at h;show .cons (ny a h.1) (lA a h.2)
def qK(d:X.calm=b6)(e:C.K=X.K)(a:X.N.Nodup)(b:fa=b6->∀x,X.fn x=b6)(h:OC t X.N X.env.scope fa is c=b6):PG X c (tG C t is):=by
 cases c with
 |Name x p =>
  simp only[OC,cb,tr]at h;have⟨rfl,h⟩:=h;cases is with
  |nil=>cases h
  |cons i is=>cases is with
   |nil=>show EB a (ny b h)
   |cons _ _=>cases h
 |Tuple es k p =>
  simp only[OC,cb,i9,Ļ]at h;obtain⟨⟨rfl,f⟩,g⟩:=h;show Gm d e a (lA b f) g
 |_=>cases h
def ju(a N:List Str):eO ((a++hide a N).drop a.length) N:=by
 rw[VL rfl];unfold hide;split
 .show .refl N
 .show(eO.refl N).set _ (.inl rfl)
 .show((eO.refl N).set _ (.inl rfl)).set _ (.inr rfl)
abbrev Bf.ZS:Bf->Bool
 |.len=>b6|.sorted=>b6|.repr=>b6|.max=>b6|.min=>b6|.all=>b6|.any=>b6|_=>cc
abbrev Bf.id:Bf->String
 |.len=>"len"|.sorted=>"sorted"|.repr=>"repr"|.max=>"max"|.min=>"min"|.all=>"all"|.any=>"any"
 |.list=>"list"|.tuple=>"tuple"|.str=>"str"|.int=>"int"
def BW:∀f:Bf,simple f=b6->t7 f.name=a5 f.val/\f.name∈bK/\f.name≠"__name__"/\(f.name==("__debug__":Str))=cc:=by
 intro f h;cases f<;>first|show⟨by decide +kernel,by decide +kernel,by decide +kernel,by decide +kernel⟩|(cases h;done)
def EU:∀f:Bf,simple f=b6->(f.val=.builtin f.id\/f.val=.type f.id):=by
 intro f h;cases f<;>first|show .inl rfl|show .inr rfl|(cases h;done)
def EV:∀f:B2,f.oZ∈bK/\f.iS∈bK:=by
 intro f;cases f<;>show⟨by decide +kernel,by decide +kernel⟩
def BX:∀f:Mf,Slot "str" f.name f.id/\ZX (.builtin f.id)=pure (.type "method_descriptor"):=by
 intro f;cases f with
 |split=>show⟨PySem.F.slot_str_split,PySem.F.type_str_split⟩
 |join=>show⟨PySem.F.slot_str_join,PySem.F.type_str_join⟩
 |partition=>show⟨PySem.F.slot_str_partition,PySem.F.type_str_partition⟩
 |endswith=>show⟨PySem.F.slot_str_endswith,PySem.F.type_str_endswith⟩
section
def cj(h:Ki X.env.scope x=b6):Gl X x:=by
 unfold Ki at h;change X.env.kindOf x=a5 .globalImplicit;show ŀ h
def BY:("enumerate":Str)∈bK:=by decide +kernel
def iV:("isinstance":Str)∈bK:=by decide +kernel
def yW(T:K7):T.name∈bK:=by cases T<;>decide +kernel
def BZ:("range":Str)∈bK:=by decide +kernel
def CQ(g:Gd ck Γ C d X)(h:f9 X.env.scope l ik c=a5 as)(m:PA X as (Kj C (bw Γ src)))(o:∀a,as=[a]->∃e,src=[e]/\PE X a (IX C (ev Γ e)))(n:∀e∈as,noStar e=b6):PI X l c (MX C ik (bw Γ src)):=by
 unfold f9 at h;split at h
 .cases h;have⟨e,rfl,r⟩:=o _ rfl;show Ez g.K r
 .rw[sx]at h;obtain⟨⟨x,bs⟩,j,h⟩:=h;split at h
  .rename_i k;cases h;have⟨f,i,hl⟩:=k
   dsimp only at f i hl
   subst f;have⟨p,q,rfl⟩:=jM j;have⟨b,rfl⟩:=YH.mp hl;show BC (cj i) (g.blt _ BZ) (bb (n _ (by simp))) m
  .cases h
 .rw[sx]at h;obtain⟨⟨x,bs⟩,j,h⟩:=h;split at h
  .rename_i k;cases h;have⟨f,i,hl,s⟩:=k
   dsimp only at f i hl
   subst f;have⟨p,q,rfl⟩:=jM j;have⟨b,rfl⟩:=YH.mp hl;cases l with
   |Tuple es t ps=>show EA g.K (cj i) (g.blt _ BY) (bb (n _ (by simp))) m
   |_=>cases s
  .cases h
 .cases h
def Gd.LK(g:Gd ck Γ C d X):Gd ck Γ C d X.LK :=
 ⟨g.P,g.w,g.K,g.u,g.calm,g.room,g.blt,g.fns,g.LV,g.KU,g.MF⟩
def CS(g:Gd ck Γ C d X)(f:PE X a' (IX C (ev Γ a)))(m:isNm n D=b6)(o:noStar a'=b6)(h:Ki X.env.scope "isinstance"=b6)(i:Ki X.env.scope D=b6)(r:ba D=b6)(t:(ck.xi.any λp=>cK (p.2.1=D))=b6)(v:j.all (λp=>cK ((p.1,D,p.2)∈ck.xi))=b6):
  PE X (.Call (.Name "isinstance" p) [a',n] [] q) (IX C (ev Γ (.Kf a D j))):=by
 have⟨p2,rfl⟩:=gF m;have⟨w,x,y⟩:=Ql.mp t;have⟨dv,A,B⟩:=g.MF.xi D ⟨w,x,ŀ y⟩;have k:∀q∈j,∀b,PySem.W.nsIn X.K js q.1=a5 (a5 (.ref b))->fV X.K b=b6/\PySem.W.kitOne X.K (.ref b) dv=a5 q.2:=λq G b J=>B _ (ŀ (i9.mp v q G)) rfl b J;have st:=bb (env:=X.env) (es:=[.Name D p2]) o;rcases A with⟨c,rfl,e⟩|⟨rfl,rfl,e⟩
 .have L:PE X (.Name D p2) (tC (.ref c)):=λl s σ H Q I z=>fe I (cj i) e ⟨.ref c,H,I,rfl,z⟩ (aC r).1;show uN g.K (cj h) (g.blt _ iV) f L (dv:=.ref c) (λu z=>z) st rfl rfl k
 .show uN g.K (cj h) (g.blt _ iV) f (vD:=.ty "ValueError") (dv:=.type "ValueError") (tU (cj i) e (show t7 "ValueError"=a5 (.type "ValueError") by decide +kernel) rfl (by decide +kernel) (by decide +kernel)) (λu z=>z) st rfl rfl k
def CT{a:M α}{b:α->M β}{c:α->M γ}{g:γ->M δ}{st:aw}{Q:δ->aw->Prop}(w:W (a >>= λx=>b x >>= λ_=>c x >>= g) st Q):W ((a >>= λx=>b x >>= λ_=>c x) >>= g) st Q:=by
 simp only[ah]at w ⊢;show w
def bB:PT X e (Ka C M.fail):=λa s σ H Q I ⟨_,_,_,_,w⟩=>(bp.mp w).elim
def lB:PE X e (IX C M.fail):=λa s σ H Q I ⟨_,_,_,_,w⟩=>(bp.mp w).elim
def PT.eqv(h:PT X e (Ka C m))(i:∀st Q,W a st Q->W m st Q):PT X e (Ka C a):=PT.weak h λσ H Q ⟨c0,b,c,d,w⟩=>⟨c0,b,c,d,i _ _ w⟩
def GP(g:Gd ck Γ C d X)(b:PA X a (Kj C (bw Γ es)))
  (h:(cK (x=f.name)&&simple f&&Ki X.env.scope x&&!a.isEmpty&&aU ck es X.N X.env.scope a)=b6):PE X (.Call (.Name x p) a [] pos) (IX C (ev Γ (.bi f es))):=by
 simp only[cb,Ļ,tr]at h;obtain⟨⟨⟨⟨rfl,c⟩,i⟩,m⟩,n⟩:=h;have⟨b1,j,b3,b4⟩:=BW f c;have k:=cP n;cases a with
 |nil=>cases m
 |cons o l =>
  have st:=bb (env:=X.env) (es:=l) (k o (by simp));have sn:=(bu (pos:=pos) (env:=X.env) (es:=l) λe q=>k e (by simp[q])).1;rcases EU f c with hv|hv
  .show Bt g.calm g.K g.room.gd g.u hv (cj i) (g.blt _ j) (by rw[b1,hv]) b3 b4 b st sn
  .show Bu g.calm g.K g.room.gd g.u hv (cj i) (g.blt _ j) (by rw[b1,hv]) b3 b4 b st sn
def GQ(g:Gd ck Γ C d X)(i:PA X a (Kj C (bw Γ es)))
  (h:(cK (x=f.oZ)&&cK (y=f.iS)&&Ki X.env.scope x&&Ki X.env.scope y&&!a.isEmpty&&aU ck es X.N X.env.scope a)=b6):PE X (.Call (.Name x p) [.Call (.Name y p2) a [] pos2] [] pos) (IX C (ev Γ (.NF f es))):=by
 simp only[cb,Ļ,tr]at h;obtain⟨⟨⟨⟨⟨rfl,rfl⟩,j⟩,k⟩,l⟩,m⟩:=h;have⟨b1,n⟩:=EV f;have b:=cP m;cases a with
 |nil=>cases l
 |cons o c =>
  have st:=bb (env:=X.env) (es:=c) (b o (by simp));have sn:=(bu (pos:=pos2) (env:=X.env) (es:=c) λe q=>b e (by simp[q])).1;show BB g.calm g.K (cj j) (g.blt _ b1) (cj k) (g.blt _ n) i st sn
def GR(g:Gd ck Γ C d X)(l:PE X o (IX C (ev Γ a)))(n:PA X b (Kj C (bw Γ es)))
  (h:(cK (name=m.name)&&pf o&&(c.endLine==i.line)&&!b.isEmpty&&cK (b.length<20)&&bx ck a X.N X.env.scope o&&aU ck es X.N X.env.scope b)=b6):PE X (.Call (.Attribute o name c) b [] i) (IX C (ev Γ (.NG m a es))):=by
 simp only[cb,Ļ,tr]at h;obtain⟨⟨⟨⟨⟨⟨rfl,p⟩,q⟩,r⟩,s⟩,w⟩,t⟩:=h;have j:=cP t;have⟨s1,s2⟩:=BX m;cases b with
 |nil=>cases r
 |cons k f =>
  have st:=bb (env:=X.env) (es:=f) (j k (by simp));have sn:=(bu (pos:=i) (env:=X.env) (es:=f) λe u=>j e (by simp[u])).1;have v:=(bu (pos:=i) (env:=X.env) (es:=k::f) j).2;show BA g.K s1 s2 l n (km p) ?_ q st sn;rw[v];have:(k::f).length+([]:List Oc).length+(if ([]:List Oc).isEmpty=b6 then 0 else 1)<30:=by simp at s ⊢;lia
  simp only[Ŀ this];rfl
def yX(g:Gd ck Γ C d X)(i:PA X a (Kj C (bw Γ es)))
  (h:(cK (x=f)&&cK (f∈ck.fns)&&Ki X.env.scope x&&ba x&&!a.isEmpty&&aU ck es X.N X.env.scope a)=b6):PE X (.Call (.Name x p) a [] pos) (IX C (ev Γ (.call f es))):=by
 simp only[cb,Ļ,tr]at h;obtain⟨⟨⟨⟨⟨rfl,j⟩,k⟩,l⟩,m⟩,n⟩:=h;have b:=cP n;obtain⟨y,fa,z,ps,o,q,r,s,t,_⟩:=(g.fns _ j).ex;cases a with
 |nil=>cases m
 |cons u c =>
  have st:=bb (env:=X.env) (es:=c) (b u (by simp));have sn:=(bu (pos:=pos) (env:=X.env) (es:=c) λe v=>b e (by simp[v])).1;show yy g.P g.w g.K rfl t o g.room (cj k) q r s (aC l).1 i st sn
def EW(g:Gd ck Γ C d X)(i:PA X a (Kj C (bw Γ es)))
  (h:(cK (x=f)&&cK ((f,is)∈ck.KU)&&Ki X.env.scope x&&ba x&&!a.isEmpty&&aU ck es X.N X.env.scope a)=b6):PE X (.Call (.Name x p) a [] pos) (IX C (ev Γ (.IT f es is))):=by
 simp only[cb,Ļ,tr]at h;obtain⟨⟨⟨⟨⟨rfl,j⟩,k⟩,l⟩,m⟩,n⟩:=h;have b:=cP n;have⟨y,fa,z,ps,o,q,r,s,t⟩:=(g.KU _ j).ex;cases a with
 |nil=>cases m
 |cons u c =>
  have st:=bb (env:=X.env) (es:=c) (b u (by simp));have sn:=(bu (pos:=pos) (env:=X.env) (es:=c) λe v=>b e (by simp[v])).1;show yS g.P g.w g.K rfl t o g.room (cj k) q r s (aC l).1 (BO i) st sn
def dZ(h:(b&&aU k es N a c)=b6):aU k es N a c=b6:=(x2.mp h).2
mutual
theorem bC:∀(e:E) (X:Cx) (k:l0),Gd ck Γ C d X->bx ck e X.N X.env.scope k=b6->PE X k (IX C (ev Γ e))
 |.var i,X,k,g,h=>by
  have⟨x,p0,rfl,A⟩:=ao h;clear h;have h:=A;simp only[cb,Ļ]at h;have⟨L,O⟩:=aC h.2;show oY h.1.1 (b_ h.1.2) L O
 |.cst u,X,k,g,h=>by
  have⟨c,q0,p0,rfl,A⟩:=fy h;cases c with
  |int j=>have:=cu A;subst this;show iQ rH λ_ _=>rfl
  |str y=>have:=cu A;subst this;show iQ xb λ_ _=>rfl
  |bool y=>have:=cu A;subst this;show iQ tT λ_ _=>rfl
  |none=>have:=cu A;subst this;show iQ w_ λ_ _=>rfl
  |_=>cases A
 |.Of x u,X,k,g,h=>by
  have⟨y,p0,rfl,A⟩:=ao h;clear h;have h:=A;simp only[cb,Ļ,Ql]at h;obtain⟨⟨⟨rfl,J⟩,Y⟩,p,hp,e1,e2⟩:=h;have:=cu e2;subst this e1;have⟨val,v,q1,q2,q3⟩:=g.LV p hp;show iQ (As (cj J) q1 q2 (aC Y).1) q3
 |.bin op a b,X,k,g,h=>by
  have⟨a',MJ,b',p0,rfl,A⟩:=ly h;clear h;have h:=A;simp only[cb,Ļ]at h;obtain⟨⟨rfl,J⟩,Y⟩:=h;show Bh g.K (bC a X _ g J) (bC b X _ g Y)
 |.cmp op a b,X,k,g,h=>by
  have⟨a',MJ,b',p0,rfl,B⟩:=il h;have h:=B;simp only[cb,Ļ,tr]at h;obtain⟨⟨⟨rfl,h0⟩,J⟩,Y⟩:=h;show Bi g.P g.w g.K g.u (bC a X _ g J) (bC b X _ g Y) h0
 |.MB o1 o2 a b c,X,k,g,h=>absurd (show cc=b6 from h) i3
 |.and es,X,k,g,h=>by
  have⟨IM,p0,rfl,A⟩:=jr h;clear h;have h:=A;show yY es X _ g h
 |.or es,X,k,g,h=>lB
 |.not a,X,k,g,h=>by
  have⟨a',p0,rfl,A⟩:=nq h;clear h;have h:=A;show Bk (bC a X _ g h)
 |.neg a,X,k,g,h=>absurd (show cc=b6 from h) i3
 |.bad,X,k,g,h=>lB
 |.Kf a D tb,X,k,g,h=>by
  have⟨as,p,q,rfl,B⟩:=gG h;have⟨a',b',rfl,G⟩:=dY B;clear h B;simp only[cb]at G;obtain⟨⟨⟨⟨⟨⟨⟨J,Y⟩,L⟩,O⟩,h5⟩,h6⟩,h7⟩,h8⟩:=G;show CS g (bC a X _ g h8) J Y L O h5 h6 h7
 |.Nd ix i b,X,k,g,h=>by
  have⟨o,m,ab,as,G',rfl,B⟩:=bz h;have⟨x,px,rfl,G⟩:=ao B;have⟨a',rfl,z3⟩:=aJ G;have⟨c,q,p,rfl,z4⟩:=fy z3;clear h B G z3;simp only[cb,Ļ]at z4;obtain⟨⟨⟨⟨⟨rfl,rfl⟩,J⟩,Y⟩,L⟩,O⟩:=z4;show BM g.K J (b_ Y) (aC L).1 (aC L).2 O
 |.pop i,X,k,g,h=>by
  have⟨o,m,ab,as,G',rfl,B⟩:=bz h;have⟨x,px,rfl,G⟩:=ao B;simp only[cb,Ļ,wk]at G;obtain⟨⟨⟨⟨⟨rfl,rfl⟩,J⟩,Y⟩,L⟩,O⟩:=G;have⟨q1,q2⟩:=aC L;show BL J (b_ Y) q1 q2 O g.K
 |.Nc i a,X,k,g,h=>by
  have⟨o,m,ab,as,G',rfl,B⟩:=bz h;have⟨x,px,rfl,G⟩:=ao B;have⟨a',rfl,z3⟩:=aJ G;simp only[cb,Ļ]at z3;obtain⟨⟨⟨⟨⟨⟨rfl,J⟩,Y⟩,L⟩,O⟩,h5⟩,h6⟩:=z3;have⟨q1,q2⟩:=aC L;have sa:=bu (pos:=G') (env:=X.env) (es:=[a']) λe he=>by rw[hQ.mp he];show h5
  show yP g.K J (b_ Y) q1 q2 (bC a X _ g h6) (by rw[sa.2];rfl) O (bb h5)
 |.IT f es is,X,k,g,h=>by
  have⟨f',as,p0,rfl,B⟩:=aT h;have⟨x,p1,rfl,G⟩:=ao B;show EW g (jv es X _ g (dZ G)) G
 |.inD neg a i,X,k,g,h=>lB
 |.Pe i,X,k,g,h=>by
  have⟨x,p0,rfl,A⟩:=ao h;clear h;have h:=A;simp only[cb,Ļ]at h;have⟨L,O⟩:=aC h.2;show BF h.1.1 (b_ h.1.2) L O
 |.Lv i a b,X,k,g,h=>by
  have⟨o,m,ab,as,G',rfl,B⟩:=bz h;have⟨x,px,rfl,G⟩:=ao B;have⟨a',b',rfl,z3⟩:=dY G;clear h B;have G:=z3;simp only[cb,Ļ]at G;obtain⟨⟨⟨⟨⟨⟨⟨⟨rfl,J⟩,Y⟩,L⟩,O⟩,h5⟩,h6⟩,h7⟩,h8⟩:=G;have⟨q1,q2⟩:=aC L;have sa:=bu (pos:=G') (env:=X.env) (es:=[a',b']) λe he=>by
   rcases d6.mp he with rfl|he
   .show h5
   .simp at he;subst he;show h6
  show yL g.u J (b_ Y) q1 q2 (bC a X _ g h7) (bC b X _ g h8) ⟨rfl,by rw[sa.2];rfl,O,by rw[bb h5,bb h6];rfl⟩
 |.Pf i,X,k,g,h=>by
  obtain⟨f',as,_,rfl,B⟩:=aT h;obtain⟨f,_,rfl,G⟩:=ao B;have⟨c,rfl,z3⟩:=aJ G;have⟨o,m,ab,bs,G',rfl,z4⟩:=bz z3;have⟨x,px,rfl,z5⟩:=ao z4;simp only[cb,Ļ,wk]at z5;obtain⟨⟨⟨⟨⟨⟨⟨rfl,rfl⟩,J⟩,rfl⟩,L⟩,O⟩,h5⟩,h6⟩:=z5;have⟨q1,q2⟩:=aC h5;show BJ g.calm g.K (cj J) (g.blt _ (by decide +kernel)) L (b_ O) q1 q2 h6
 |.Nb ln a b,X,k,g,h=>by
  obtain⟨_,_,_,rfl,A⟩:=aT h;obtain⟨_,_,rfl,B⟩:=ao A;obtain⟨_,rfl,G⟩:=aJ B;obtain⟨_,_,_,_,rfl,z3⟩:=ly G;obtain⟨_,_,_,rfl,z4⟩:=aT z3;obtain⟨_,_,rfl,z5⟩:=ao z4;obtain⟨_,rfl,z6⟩:=aJ z5;obtain⟨_,_,_,rfl,z7⟩:=aT z6;obtain⟨_,_,rfl,z8⟩:=ao z7;obtain⟨_,rfl,z9⟩:=aJ z8;simp only[cb,Ļ]at z9;obtain⟨⟨⟨⟨⟨⟨⟨⟨⟨rfl,rfl⟩,rfl⟩,rfl⟩,J⟩,Y⟩,L⟩,O⟩,h5⟩,h6⟩:=z9;show BK (ln:=ln) g.calm g.K (cj J) (g.blt _ (by cases ln<;>decide +kernel)) (cj Y) (g.blt _ (by decide +kernel)) (bC a X _ g h5) (bC b X _ g h6) (bb L) (bb O)
 |.fst es,X,k,g,h=>lB
 |.NH a T,X,k,g,h=>by
  have⟨f',as,p0,rfl,B⟩:=aT h;have⟨x,p1,rfl,G⟩:=ao B;clear h B;have⟨a',b',rfl,z4⟩:=dY G;have⟨y,p2,rfl,z3⟩:=ao z4;have h:=z3;simp only[cb,Ļ]at h;obtain⟨⟨⟨⟨⟨rfl,rfl⟩,J⟩,Y⟩,L⟩,O⟩:=h;show uI g.K (cj J) (g.blt _ iV) (cj Y) (g.blt _ (yW T)) (bC a X _ g O) (bb L)
 |.ite c a b,X,k,g,h=>by
  have⟨c',a',b',p0,rfl,A⟩:=nu h;clear h;have h:=A;simp only[cb]at h;show Bl (lC c X _ g h.1.1) (bC a X _ g h.1.2) (bC b X _ g h.2)
 |.tup es,X,k,g,h=>by
  have⟨l,q0,p0,rfl,A⟩:=lz h;clear h;have h:=A;show Bp (jv es X _ g h)
 |.lst es,X,k,g,h=>by
  have⟨l,p0,rfl,A⟩:=sH h;clear h;have h:=A;show Bq (jv es X _ g h)
 |.Ky r,X,k,g,h=>by
  have⟨p0,rfl⟩:=nv h;show yx g.P g.w r
 |.idx a b,X,k,g,h=>by
  have⟨a',b',p0,rfl,A⟩:=dm h;clear h;have h:=A;simp only[cb]at h;show Br g.K g.u (qJ h.1.1) (bC a X _ g h.1.2) (bC b X _ g h.2)
 |.MC a lo hi,X,k,g,h=>by
  have⟨a',b',p0,rfl,B⟩:=dm h;have⟨V9,Kv,p1,rfl,A⟩:=sI B;clear h B;simp only[cb]at A;show Bs g.K (bC a X _ g A.1.1) (GS lo X _ g A.1.2) (GS hi X _ g A.2)
 |.bi f es,X,k,g,h=>by
  have⟨f',as,p0,rfl,B⟩:=aT h;have⟨x,p1,rfl,G⟩:=ao B;have h:=G;show GP g (jv es X _ g (dZ h)) h
 |.NF f es,X,k,g,h=>by
  have⟨f',as,p0,rfl,B⟩:=aT h;have⟨x,p1,rfl,G⟩:=ao B;have⟨c,rfl,z3⟩:=aJ G;have⟨g',as',p2,rfl,z4⟩:=aT z3;have⟨y,p3,rfl,z5⟩:=ao z4;have h:=z5;show GQ g (jv es X _ g (dZ h)) h
 |.NG m a es,X,k,g,h=>by
  have⟨o,name,ab,as,G',rfl,B⟩:=bz h;have h:=B;have h':=h;simp only[cb]at h';show GR g (bC a X _ g h'.1.2) (jv es X _ g (dZ h)) h
 |.call f es,X,k,g,h=>by
  have⟨f',as,p0,rfl,B⟩:=aT h;have⟨x,p1,rfl,G⟩:=ao B;have h:=G;show yX g (jv es X _ g (dZ h)) h
 |.comp n t ik src cond e,X,k,g,h=>by
  have⟨elt,tg,ac,al,scope,p0,rfl,A⟩:=jt h;clear h;have h:=A;simp only[cb,Ļ]at h;obtain⟨⟨⟨⟨⟨⟨⟨J,Y⟩,L⟩,O⟩,h5⟩,h6⟩,h7⟩,h8⟩:=h;subst J;have S:=rR (X:=X) rfl (ju _ _) Y;split at h5
  .rename_i as am;have IZ:=cP h5;have hI:PI X tg ac (MX C ik (bw Γ src)):=CQ g am (jv src X _ g h5) (λa e=>by
    subst e;cases src with
    |nil=>simp[aU]at h5
    |cons e1 JD =>
     cases JD with
     |nil =>
      simp only[aU,cb]at h5;show⟨e1,rfl,bC e1 X _ g h5.1.2⟩
     |cons _ _=>simp[aU]at h5) IZ
   show yF S g.calm hI (λD s H ex=>qK (fa:=cc) g.calm g.K S.nd (λz=>nomatch z) L)
    (λD s H ex=>by
     cases al with
     |nil =>
      cases cond with
      |nil=>show λag s σ H Q I ⟨c0,e1,e2,ok,w⟩=>oE ag s σ H Q I (by subst e1 e2;rw[show a_ Γ []=pure b6 from rfl,aq]at w;show w c0 rfl rfl ok (Nx.refl c0))
      |cons _ _=>simp[aU]at h7
     |cons c1 cs =>
      cases cs with
      |nil =>
       cases cond with
       |nil=>simp[aU]at h7
       |cons e1 JD =>
        cases JD with
        |nil =>
         simp only[aU,cb]at h7;show t_ (lC e1 (J0 X _ scope D s H ex) c1 (g.cx _ _ _ _ _ _) h7.1.2)
        |cons _ _=>simp[aU]at h7
      |cons _ _=>simp at h6)
    (λD s H ex=>bC e (J0 X _ scope D s H ex) elt (g.cx _ _ _ _ _ _) h8) (sM O)
  .cases h5
theorem jv:∀(es:List E) (X:Cx) (a:List l0),Gd ck Γ C d X->aU ck es X.N X.env.scope a=b6->PA X a (Kj C (bw Γ es))
 |[],X,a,g,h=>by
  cases a with
  |nil=>show Bo
  |cons _ _=>simp[aU]at h
 |e::es,X,a,g,h=>by
  cases a with
  |nil=>simp[aU]at h
  |cons b a =>
   simp only[aU,cb]at h;show yu (bC e X b g h.1.2) (jv es X a g h.2) (bb h.1.1)
theorem GS:∀(es:List E) (X:Cx) (o:Option l0),Gd ck Γ C d X->sJ ck es X.N X.env.scope o=b6->PO X o (tO C (Oi Γ es))
 |[],X,o,g,h=>by
  cases o with
  |none=>show wt
  |some _=>simp[sJ]at h
 |[e],X,o,g,h=>by
  cases o with
  |none=>simp[sJ]at h
  |some a=>simp only[sJ]at h;show wu (bC e X a g h)
 |_::_::_,X,o,g,h=>by simp[sJ]at h
theorem yY:∀(es:List E) (X:Cx) (a:List l0),Gd ck Γ C d X->aU ck es X.N X.env.scope a=b6->∀{pos},PE X (.BoolOp .And a pos) (IX C (iL Γ es))
 |[],X,a,g,h,pos=>lB
 |[e],X,a,g,h,pos=>by
  cases a with
  |nil=>simp[aU]at h
  |cons b a =>
   cases a with
   |nil=>simp only[aU,cb]at h;show Ds (bC e X b g h.1.2)
   |cons _ _=>simp[aU]at h
 |e::c::es,X,a,g,h,pos=>by
  cases a with
  |nil=>simp[aU]at h
  |cons b a =>
   have h':noStar b=b6/\bx ck e X.N X.env.scope b=b6/\aU ck (c::es) X.N X.env.scope a=b6:=by
    rw[aU]at h;simp only[cb]at h;show⟨h.1.1,h.1.2,h.2⟩
   cases a with
   |nil=>have:=h'.2.2;simp[aU]at this
   |cons f i=>show snd_and (bC e X b g h'.2.1) (yY (c::es) X _ g h'.2.2)
theorem lC:∀(e:E) (X:Cx) (j:l0),Gd ck Γ C d X->bx ck e X.N X.env.scope j=b6->PT X j (Ka C (Jl Γ e))
 |.and es,X,j,g,h=>by
  have⟨Y,s,rfl,l⟩:=jr h;clear h;have h:=l;show(uT es X _ g h).pt
 |.or es,X,j,g,h=>by
  have⟨Y,s,rfl,l⟩:=jr h;clear h;have h:=l;show(yZ es X _ g h).pt
 |.not a,X,j,g,h=>by
  have⟨a',s,rfl,l⟩:=nq h;clear h;have h:=l;show Bm (lC a X _ g h)
 |.cmp op a b,X,j,g,h=>by
  have⟨a',MJ,G,s,rfl,k⟩:=il h;have h:=k;simp only[cb,Ļ,tr]at h;obtain⟨⟨⟨rfl,H⟩,v⟩,z⟩:=h;show Bj g.P g.w g.K g.u (bC a X _ g v) (bC b X _ g z) H
 |.MB o1 o2 a b c,X,j,g,h=>absurd (show cc=b6 from h) i3
 |.var i,X,j,g,h=>by
  have⟨x,s,rfl,l⟩:=ao h;simp only[cb,Ļ]at l;have⟨A,B⟩:=aC l.2;show iN (oY l.1.1 (b_ l.1.2) A B) g.K λ_=>rfl
 |.idx a b,X,j,g,h=>bB
 |.bi f es,X,j,g,h=>by
  have⟨f',as,s,rfl,k⟩:=aT h;have⟨x,I,rfl,o⟩:=ao k;have h:=o;show PT.eqv (iN (GP g (jv es X _ g (dZ h)) h) g.K λ_=>rfl) λst Q w=>CT w
 |.NF f es,X,j,g,h=>bB
 |.NG m a es,X,j,g,h=>bB
 |.call f es,X,j,g,h=>by
  have⟨f',as,s,rfl,k⟩:=aT h;have⟨x,I,rfl,o⟩:=ao k;have h:=o;show PT.eqv (iN (yX g (jv es X _ g (dZ h)) h) g.K λ_=>rfl) λst Q w=>CT w
 |.cst u,X,j,g,h=>bB
 |.fst es,X,j,g,h=>bB
 |.Of x u,X,j,g,h=>bB
 |.neg a,X,j,g,h=>bB
 |.NH a T,X,j,g,h=>by
  have⟨f',as,s,rfl,k⟩:=aT h;have⟨x,I,rfl,o⟩:=ao k;clear h k;have⟨a',G,rfl,z4⟩:=dY o;have⟨y,p2,rfl,z3⟩:=ao z4;have h:=z3;simp only[cb,Ļ]at h;obtain⟨⟨⟨⟨⟨rfl,rfl⟩,v⟩,z⟩,A⟩,B⟩:=h;show PT.eqv (iN (uI g.K (cj v) (g.blt _ iV) (cj z) (g.blt _ (yW T)) (bC a X _ g B) (bb A)) g.K λ_=>rfl) λst Q w=>?_;have w:W (ev Γ a >>= λx=>M.Jf (qA x.2 T)) st Q:=w;simp only[ah]at w ⊢;show W.mono w λx s1 J=>?_;have⟨b,e,L⟩:=bI.mp J;show bI.mpr ⟨b,e,aq.mpr (bI.mpr ⟨b,rfl,L⟩)⟩
 |.bad,X,j,g,h=>bB
 |.Kf a D O,X,j,g,h=>by
  have⟨as,p,q,rfl,k⟩:=gG h;have⟨a',G,rfl,o⟩:=dY k;clear h k;simp only[cb]at o;obtain⟨⟨⟨⟨⟨⟨⟨v,z⟩,A⟩,B⟩,h5⟩,h6⟩,h7⟩,h8⟩:=o;show PT.eqv (iN (CS g (bC a X _ g h8) v z A B h5 h6 h7) g.K λ_=>rfl) λst Q w=>?_;have w:W (ev Γ a >>= λx=>M.Jf (ft O x.2)) st Q:=w;have e:ev Γ (.Kf a D O)=(ev Γ a >>= λx=>M.Jf (ft O x.2) >>= λb=>pure (.loc,.bl b)):=rfl;rw[e];simp only[ah]at w ⊢;show W.mono w λx s1 J=>?_;have⟨b,e,L⟩:=bI.mp J;show bI.mpr ⟨b,e,aq.mpr (bI.mpr ⟨b,rfl,L⟩)⟩
 |.Nd ix i b,X,j,g,h=>bB
 |.pop i,X,j,g,h=>bB
 |.Nc i a,X,j,g,h=>bB
 |.IT f es is,X,j,g,h=>bB
 |.inD neg a i,X,j,g,h=>by
  have⟨a',MJ,G,s,rfl,k⟩:=il h;have⟨x,I,rfl,o⟩:=ao k;have h:=o;simp only[cb,Ļ,tr]at h;obtain⟨⟨⟨⟨⟨rfl,H⟩,v⟩,z⟩,A⟩,B⟩:=h;have⟨q1,q2⟩:=aC A;show BG g.u v (b_ z) q1 q2 (bC a X _ g B) H
 |.Pe i,X,j,g,h=>bB
 |.Nb ln a b,X,j,g,h=>bB
 |.Pf i,X,j,g,h=>bB
 |.Lv i a b,X,j,g,h=>bB
 |.bin op a b,X,j,g,h=>bB
 |.ite c a b,X,j,g,h=>bB
 |.tup es,X,j,g,h=>bB
 |.lst es,X,j,g,h=>bB
 |.Ky r,X,j,g,h=>bB
 |.MC a lo hi,X,j,g,h=>bB
 |.comp n t ik src cond e,X,j,g,h=>bB
theorem uT:∀(es:List E) (X:Cx) (a:List l0),Gd ck Γ C d X->aU ck es X.N X.env.scope a=b6->∀{pos},PW X (.BoolOp .And a pos) (Ka C (a_ Γ es))
 |[],X,a,g,h,pos=>by
  cases a with
  |nil =>
   rintro j c s σ H Q I ⟨c0,rfl,rfl,i,w⟩;rw[show a_ Γ []=pure b6 from rfl,aq]at w;show ĸ ⟨c0.H,I,w c0 rfl rfl i (Nx.refl c0)⟩
  |cons _ _=>simp[aU]at h
 |[e],X,a,g,h,pos=>by
  cases a with
  |nil=>simp[aU]at h
  |cons b a =>
   cases a with
   |nil=>simp only[aU,cb]at h;show Au (lC e X b g h.1.2)
   |cons _ _=>simp[aU]at h
 |e::f::es,X,a,g,h,pos=>by
  cases a with
  |nil=>simp[aU]at h
  |cons b a =>
   have h':noStar b=b6/\bx ck e X.N X.env.scope b=b6/\aU ck (f::es) X.N X.env.scope a=b6:=by
    rw[aU]at h;simp only[cb]at h;show⟨h.1.1,h.1.2,h.2⟩
   cases a with
   |nil=>have:=h'.2.2;simp[aU]at this
   |cons k l=>show Bn (lC e X b g h'.2.1) (uT (f::es) X _ g h'.2.2)
theorem yZ:∀(es:List E) (X:Cx) (a:List l0),Gd ck Γ C d X->aU ck es X.N X.env.scope a=b6->∀{pos},PW X (.BoolOp .Or a pos) (Ka C (jK Γ es))
 |[],X,a,g,h,pos=>by
  cases a with
  |nil =>
   rintro j c s σ H Q I ⟨c0,rfl,rfl,i,w⟩;rw[show jK Γ []=pure cc from rfl,aq]at w;show isTrue_or_nil ⟨c0.H,I,w c0 rfl rfl i (Nx.refl c0)⟩
  |cons _ _=>simp[aU]at h
 |[e],X,a,g,h,pos=>by
  cases a with
  |nil=>simp[aU]at h
  |cons b a =>
   cases a with
   |nil=>simp only[aU,cb]at h;show Dp (lC e X b g h.1.2)
   |cons _ _=>simp[aU]at h
 |e::f::es,X,a,g,h,pos=>by
  cases a with
  |nil=>simp[aU]at h
  |cons b a =>
   have h':noStar b=b6/\bx ck e X.N X.env.scope b=b6/\aU ck (f::es) X.N X.env.scope a=b6:=by
    rw[aU]at h;simp only[cb]at h;show⟨h.1.1,h.1.2,h.2⟩
   cases a with
   |nil=>have:=h'.2.2;simp[aU]at this
   |cons k l=>show Em (lC e X b g h'.2.1) (yZ (f::es) X _ g h'.2.2)
end
def Iw(g:Gd ck Γ C d X)(b:V8 e=b6)(h:bx ck e X.N X.env.scope f=b6):PE X f (yI C (ev Γ e)):=by
 cases e with
 |var i =>
  have⟨x,k,rfl,a⟩:=ao h;simp only[cb,Ļ]at a;have⟨l,m⟩:=aC a.2;show yJ a.1.1 (b_ a.1.2) l m
 |cst u =>
  have⟨c,n,k,rfl,a⟩:=fy h;cases c with
  |int j=>have:=cu a;subst this;show iU rH λ_ _=>rfl
  |str y=>have:=cu a;subst this;show iU xb λ_ _=>rfl
  |bool y=>have:=cu a;subst this;show iU tT λ_ _=>rfl
  |none=>have:=cu a;subst this;show iU w_ λ_ _=>rfl
  |_=>cases a
 |_=>cases b
end
abbrev QD(b:LG)(x:Str)(a:Nat):l0->Bool
 |.ListComp elt gens s pos=>cK (b.names.lookup x=a5 .local)&&(a==pos.line)&&!(s.names.any λ(n,k)=>n==x&&(k==.local||k==.cell))
 |_=>cc
abbrev lD(s:LS)(k:l0->Bool):Bool:=match s with|.Expr e _=>k e|_=>cc
def d0(h:lD s k=b6):∃e p,s=.Expr e p/\k e=b6:=by
 unfold lD at h;split at h
 .show⟨_,_,rfl,h⟩
 .cases h
abbrev jO(s:LS)(k:l0->l0->Bool):Bool:=match s with|.Assign a v _=>cC a λt=>k t v|_=>cc
def dn(h:jO s k=b6):∃t v p,s=.Assign [t] v p/\k t v=b6:=by
 unfold jO at h;split at h
 .have⟨t,rfl,a⟩:=aJ h;show⟨_,_,_,rfl,h⟩
 .cases h
abbrev y6(s:LS)(k:l0->Bool):Bool:=match s with|.Raise (a5 e) b8 _=>k e|_=>cc
def sN(h:y6 s k=b6):∃e p,s=.Raise (a5 e) b8 p/\k e=b6:=by
 unfold y6 at h;split at h
 .show⟨_,_,rfl,h⟩
 .cases h
abbrev y7(s:LS)(k:LS->ExceptHandler->Bool):Bool:=match s with|.Try b hs [] [] _=>cC b λb=>cC hs λh=>k b h|_=>cc
def sO(h:y7 s k=b6):∃b a p,s=.Try [b] [a] [] [] p/\k b a=b6:=by
 unfold y7 at h;split at h
 .have⟨b,rfl,c⟩:=aJ h;have⟨a,rfl,d⟩:=aJ c;show⟨_,_,_,rfl,d⟩
 .cases h
abbrev y8(s:ExceptHandler)(k:l0->Str->LS->Bool):Bool:=match s with|.ExceptHandler (a5 t) (a5 n) b _=>cC b λb=>k t n b|_=>cc
def sQ(h:y8 s k=b6):∃t n b p,s=.ExceptHandler (a5 t) (a5 n) [b] p/\k t n b=b6:=by
 unfold y8 at h;split at h
 .have⟨b,rfl,a⟩:=aJ h;show⟨_,_,_,_,rfl,a⟩
 .cases h
abbrev EX(s:LS)(k:Str->l0->Bool):Bool:=jO s λt v=>aX t λy=>k y v
def nz(h:EX s k=b6):∃y p v a,s=.Assign [.Name y p] v a/\k y v=b6:=by
 have⟨t,v,a,rfl,z⟩:=dn h;have⟨y,p,rfl,z⟩:=ao z;show⟨y,p,v,a,rfl,z⟩
abbrev sR(e:l0)(k:l0->l0->l0->LG->Bool):Bool:=match e with
 |.ListComp elt gens scope _=>cC gens λg=>match g with
  |⟨b,a,[],0⟩=>k elt b a scope
  |_=>cc
 |_=>cc
def qL(h:sR e k=b6):∃elt c a scope p,e=.ListComp elt [⟨c,a,[],0⟩] scope p/\k elt c a scope=b6:=by
 unfold sR at h;split at h
 .have⟨g,rfl,b⟩:=aJ h;split at b
  .show⟨_,_,_,_,_,rfl,b⟩
  .cases b
 .cases h
abbrev B0(e:l0)(k:Str->Pos->Bool):Bool:=match e with|.Name x p=>k x p|_=>cc
def nA(h:B0 e k=b6):∃x p,e=.Name x p/\k x p=b6:=by
 unfold B0 at h;split at h
 .show⟨_,_,rfl,h⟩
 .cases h
abbrev uU(s:LS)(k:l0->Ô->l0->Bool):Bool:=match s with|.AugAssign t a b _=>k t a b|_=>cc
def lE(h:uU s k=b6):∃t a b p,s=.AugAssign t a b p/\k t a b=b6:=by
 unfold uU at h;split at h
 .show⟨_,_,_,_,rfl,h⟩
 .cases h
abbrev qM(s:LS)(k:Option l0->Bool):Bool:=match s with|.Return v _=>k v|_=>cc
def ip(h:qM s k=b6):∃v p,s=.Return v p/\k v=b6:=by
 unfold qM at h;split at h
 .show⟨_,_,rfl,h⟩
 .cases h
abbrev EY(v:Option l0)(k:l0->Bool):Bool:=match v with|some e=>k e|none=>cc
def nB(h:EY v k=b6):∃e,v=a5 e/\k e=b6:=by
 cases v with
 |none=>cases h
 |some e=>show⟨e,rfl,h⟩
abbrev y9(s:LS)(k:l0->List LS->List LS->Bool):Bool:=match s with|.If c a b _=>k c a b|_=>cc
def sT(h:y9 s k=b6):∃c a b p,s=.If c a b p/\k c a b=b6:=by
 unfold y9 at h;split at h
 .show⟨_,_,_,_,rfl,h⟩
 .cases h
abbrev y_(s:LS)(k:l0->l0->List LS->Bool):Bool:=match s with|.For t i b o _=>o.isEmpty&&k t i b|_=>cc
def sU(h:y_ s k=b6):∃t i b p,s=.For t i b [] p/\k t i b=b6:=by
 unfold y_ at h;split at h
 .rw[cb,wk]at h;have⟨rfl,h⟩:=h;show⟨_,_,_,_,rfl,h⟩
 .cases h
abbrev EZ(s:LS)(k:l0->List LS->Bool):Bool:=match s with|.While c b o _=>o.isEmpty&&k c b|_=>cc
def wD(h:EZ s k=b6):∃c b p,s=.While c b [] p/\k c b=b6:=by
 unfold EZ at h;split at h
 .rw[cb,wk]at h;have⟨rfl,h⟩:=h;show⟨_,_,_,rfl,h⟩
 .cases h
abbrev QE(k:Ck)(f:Str)(es:List E)(N:List Str)(a:LG)(v:l0):Bool:=BS v f λas=>cK (f∈k.fns)&&Ki a f&&ba f&&!as.isEmpty&&aU k es N a as
abbrev YU(k:Ck)(c:List E)(f:Str)(es:List E)(g:Str)(b:List E)(N:List Str)(a:LG)(v:l0):Bool:=match c with
 |[]=>QE k f es N a v
 |[c]=>BQ v λd a' e=>bx k c N a d&&QE k f es N a a'&&QE k g b N a e
 |_=>cc
mutual
noncomputable def wF(k:Ck):S->List Str->LG->LS->Bool
 |.set i e,N,d,s=>jO s λt v=>B0 t λx p=>cK (N[i]?=a5 x)&&j8 d x&&cK (d.kind=.function)&&bx k e N d v&&(cX v||QD d x p.line v||(match v with|.ListComp _ _ _ _=>b6|_=>cc))&&(match e with|.comp _ _ _ _ _ _=>b6|_=>cX v)
 |.L8 is e,N,d,s=>jO s λt v=>uS t λ_=>OC b6 N d b6 is t&&cX v&&ER v&&bx k e N d v
 |.put i a b,N,d,s=>jO s λt u=>jN t λo a'=>aX o λx=>cK (N[i]?=a5 x)&&fZ d x&&ba x&&cX u&&eM a'&&bx k a N d a'&&bx k b N d u
 |.app i e,N,d,s=>lD s λc=>dX c λo m h as w=>aX o λx=>cC as λa=>cK (m="append")&&cK (N[i]?=a5 x)&&fZ d x&&ba x&&(h.endLine==w.line)&&noStar a&&bx k e N d a
 |.ext i e,N,d,s=>lD s λc=>dX c λo m h as w=>aX o λx=>cC as λa=>cK (m="extend")&&cK (N[i]?=a5 x)&&fZ d x&&ba x&&(h.endLine==w.line)&&noStar a&&bx k e N d a
 |.bad,_,_,_=>b6
 |.newD i,N,d,s=>jO s λt v=>aX t λx=>BR v&&cK (N[i]?=a5 x)&&j8 d x
 |.putD i a b,N,d,s=>jO s λt u=>jN t λo a'=>aX o λx=>cK (N[i]?=a5 x)&&fZ d x&&ba x&&cX u&&eM a'&&bx k a N d a'&&bx k b N d u
 |.Kz i a e,N,d,s=>lD s λc=>dX c λo m h as w=>jN o λo' a'=>aX o' λx=>cC as λb=>cK (m="append")&&cK (N[i]?=a5 x)&&fZ d x&&ba x&&eM a'&&(h.endLine==w.line)&&noStar b&&bx k a N d a'&&bx k e N d b
 |.aug sub i a e,N,d,s=>uU s λt B b=>jN t λo a'=>aX o λx=>cK (B=if sub=b6 then .Sub else .Add)&&cK (N[i]?=a5 x)&&fZ d x&&ba x&&eM a'&&bx k a N d a'&&bx k e N d b&&V8 e
 |.Rp _,_,_,_=>cc
 |.exp e,N,d,s=>lD s λA=>cX A&&bx k e N d A
 |.ret e,N,d,s=>qM s λv=>EY v λA=>bx k e N d A
 |.Lw i e,N,d,s=>qM s λG=>EY G λv=>sR v λelt q l scope=>dX l λo m h as w=>aX o λx=>as.isEmpty&&cK (m="items")&&cK (N[i]?=a5 x)&&fZ d x&&ba x&&(h.endLine==w.line)&&isTup q&&cK ((de q).length=2) &&
   AU (de q++hide (de q) N) (de q) scope d.names&&OC b6 (de q++hide (de q) N) (yT scope d) cc (gs 2) q&&bx k e (de q++hide (de q) N) (yT scope d) elt
 |.inc i n,N,d,s=>uU s λt B b=>B0 t λx _=>qI b λc=>cK (B=.Add)&&cK (N[i]?=a5 x)&&j8 d x&&cK (c=.int n)
 |.L9,N,d,s=>qM s λv=>v.isNone
 |.ite c a b,N,d,s=>y9 s λC a' u=>bx k c N d C&&d9 k a N d a'&&d9 k b N d u
 |.Ji t is ik src body,N,d,s=>y_ s λq l D=>OC t N d b6 is q&&sF l&&(match f9 d q ik l with
    |some as=>aU k src N d as
    |none=>cc)&&d9 k body N d D
 |.MV c body,N,d,s=>EZ s λC D=>bx k c N d C&&d9 k body N d D
 |.brk,_,_,_=>cc
 |.cnt,_,_,_=>cc
 |.Mh _,_,_,_=>cc
 |.Og f es,N,d,s=>lD s λv=>QE k f es N d v
 |.MW i c f es g H x cs j m,N,d,s=>y7 s λb I=>y8 I λt n J=>EX b λy v=>EX J λz L=>(isNm t x&&isNm L n&&cX v&&YU k c f es g H N d v)&&(cs.all λcl=>cK ((cl,x)∈k.xe))&&(cK (k.xe.any λp=>cK (p.2=x))&&Ki d x&&ba x)&&(cK (N[i]?=a5 y)&&j8 d y&&cK (N[j]?=a5 n)&&cK (d.names.lookup n=a5 .local)&&ba n&&cK (N[m]?=a5 z)&&j8 d z)
 |.Nf c e,N,d,s=>y6 s λr=>BS r c λas=>cC as λa=>cK (c∈k.xc)&&Ki d c&&ba c&&noStar a&&bx k e N d a
 |.Rq,_,_,_=>cc
noncomputable def d9(k:Ck):List S->List Str->LG->List LS->Bool
 |[],_,_,a=>a.isEmpty
 |s::c,N,b,a=>match a with
  |s'::a=>wF k s N b s'&&d9 k c N b a
  |[]=>cc
end
section
variable{ck:Ck}{Γ:Tab}{C:Ct}{d:Nat}{X:Cx}
def jw(h:j8 a x=b6):Loc a x:=by
 unfold j8 at h;simp only[K',Ļ]at h;show h
def eY(h:cX v=b6):OT v t a env=pure cc:=by
 cases v<;>first|rfl|cases h
def pk(h:cX v=b6):Q5 [t] v a env=pure cc:=by
 rw[Q5];show eY h
def B1(h:eM i=b6):∀a b new,Į i a b new=(do Mj [new,a,b] (Tt a b new);Wo [new,a,b] [];pure .next):=by
 intro a b new;cases i<;>first|rfl|cases h
def uV(h:eM i=b6):∀v,Sh (.Subscript o i p) env v=(do
   let a <-Mj [v] (u7 o env)
   let b <-Mj [v,a] (u7 i env)
   X' p
   Mj [v,a,b] (Tt a b v)
   Wo [v,a,b] []):=by
 intro v;cases i<;>first|rfl|cases h
structure Gs(ck:Ck)(Γ:Tab)(C:Ct)(d:Nat)(X:Cx):Prop where
 gd:Gd ck Γ C d X
 nd:X.N.Nodup
 fn:∀x,X.fn x=b6
 po:Xp (et X.prog X.w) X.A X.env X.xe
 kd:X.env.scope.kind=.function
 xs:OD ck X.K X.mg
 xl:∀c H',C.xw (.str c) H'->∀C' T H pins σ s e s',PySem.W.nsIn X.K js c=a5 (a5 (.ref C'))->Inv X pins σ H s->bV X.prog X.w X.stack H s e C' T .none H' s'->X.xe (.ref e) s'
 sk:X.stack=X.env::X.outer/\X.env.frame=a5 X.env.locals
 ex:X.ex=[]
def uW(g:Gd ck Γ C d X)(h:(match f9 X.env.scope i ik b with|some as=>aU ck src X.N X.env.scope as|none=>cc)=b6):PI X i b (MX C ik (bw Γ src)):=by
 split at h
 .rename_i as c;show CQ g c (jv src X _ g h) (λa e=>by
   subst e;cases src with
   |nil=>simp[aU]at h
   |cons f j =>
    cases j with
    |nil =>
     simp only[aU,cb]at h;show⟨f,rfl,bC f X _ g h.1.2⟩
    |cons _ _=>simp[aU]at h) (cP h)
 .cases h
def lF{pos p a:Pos}(hk:X.env.scope.kind=.function):OT (.ListComp elt gens s pos) (a5 (.Name x p)) a.line X.env=pure (QD X.env.scope x p.line (.ListComp elt gens s pos)):=by
 have b:X.env.blockKind=.function:=by
  unfold Env.blockKind;rw[hk];rfl
 change(pure (X.env.blockKind==.function&&X.env.kindOf x==a5 .local&&p.line==pos.line&&!(s.names.any λ(n,k)=>n==x&&(k==.local||k==.cell))):Sem Bool)=_;rw[b];unfold QD;congr 1
 have:(X.env.kindOf x==a5 NameKind.local)=cK (X.env.scope.names.lookup x=a5 .local):=by
  unfold Env.kindOf;rw[H8];simp
 rw[this];rfl
def E1{src cond:List E}(G:Gs ck Γ C d X)(m:X.N[i]?=a5 x)(y:j8 X.env.scope x=b6)
  (h:bx ck (.comp n t ik src cond e) X.N X.env.scope (.ListComp elt [⟨o,a,b,0⟩] scope pos)=b6) (ns:Nat->Bool) (q:∀j,ns j=b6->j≠i) :
  L2.PS X (.Assign [.Name x p] (.ListComp elt [⟨o,a,b,0⟩] scope pos) LY) (JH C ns (ev Γ (.comp n t ik src cond e) >>= λr=>dR i r >>= λ_=>pure .nx)):=by
 have g:=G.gd;have u:=bC (.comp n t ik src cond e) X _ g h;cases k:QD X.env.scope x p.line (.ListComp elt [⟨o,a,b,0⟩] scope pos) with
 |false=>show CO q G.nd m (jw y) (.inl (G.fn x)) u (by rw[lF G.kd,k])
 |true =>
  have hl:X.env.scope.names.lookup x=a5 .local:=by
   simp only[QD,cb,Ļ]at k;show k.1.1
  have⟨YV,ZT,V',YW,UC,p',A,v⟩:=jt h;cases A;clear h u;simp only[cb,Ļ]at v;obtain⟨⟨⟨⟨⟨⟨⟨B,J⟩,L⟩,O⟩,T⟩,Y⟩,c⟩,h8⟩:=v;subst B;have S:=rR (X:=X) rfl (ju _ _) J;show EG q S g.calm G.nd m hl (uW g T) (λD s H ex=>qK (fa:=cc) g.calm g.K S.nd (λz=>nomatch z) L)
   (λD s H ex=>by
    cases b with
    |nil =>
     cases cond with
     |nil=>show λf s σ H Q I ⟨c0,l,e2,ok,w⟩=>oE f s σ H Q I (by subst l e2;rw[show a_ Γ []=pure b6 from rfl,aq]at w;show w c0 rfl rfl ok (Nx.refl c0))
     |cons _ _=>simp[aU]at c
    |cons c1 cs =>
     cases cs with
     |nil =>
      cases cond with
      |nil=>simp[aU]at c
      |cons l JD =>
       cases JD with
       |nil =>
        simp only[aU,cb]at c;show t_ (lC l (J0 X _ scope D s H ex) c1 (g.cx _ _ _ _ _ _) c.1.2)
       |cons _ _=>simp[aU]at c
     |cons _ _=>simp at Y)
   (λD s H ex=>bC e (J0 X _ scope D s H ex) elt (g.cx _ _ _ _ _ _) h8) (by rw[lF G.kd,k]) (sM O)
def uX(G:Gs ck Γ C d X)(h:QE ck f es X.N X.env.scope v=b6):PR X C v (bw Γ es >>= λrs=>aA rs >>= λ_=>dU Γ f (rs.map (·.2)))/\cX v=b6:=by
 have⟨as,p2,g,rfl,z⟩:=gG h;simp only[cb,Ļ,tr]at z;obtain⟨⟨⟨⟨i,j⟩,k⟩,l⟩,a⟩:=z;have b:=cP a;have⟨u,fa,x,ps,m,n,o,p,q,r⟩:=(G.gd.fns _ i).ex;cases as with
 |nil=>cases l
 |cons s c =>
  have st:=bb (env:=X.env) (es:=c) (b s (by simp));have sn:=(bu (pos:=g) (env:=X.env) (es:=c) λe t=>b e (by simp[t])).1;show⟨EN G.gd.P G.gd.w G.gd.K rfl q r m G.gd.room (cj j) n o p (aC k).1 (jv es X.LK _ (Gd.LK G.gd) a) st sn,rfl⟩
def B3(G:Gs ck Γ C d X)(h:wF ck (.inc i n) X.N X.env.scope s'=b6):L2.PS X s' (JH C (Oj (.inc i n)) (exec Γ (.inc i n))):=by
 have⟨t,m,b,p,rfl,e⟩:=lE h;have⟨x,o,rfl,f⟩:=nA e;have⟨c,q,r,rfl,a⟩:=fy f;simp only[cb,Ļ]at a;obtain⟨⟨⟨rfl,g⟩,k⟩,rfl⟩:=a;show GB (λj l=>ŀ (show cK (j≠i)=b6 from l)) G.nd g (jw k) (.inl (G.fn x))
def B4(G:Gs ck Γ C d X)(h:wF ck (.Og f es) X.N X.env.scope s'=b6):L2.PS X s' (JH C (Oj (.Og f es)) (exec Γ (.Og f es))):=by
 have⟨v,p,rfl,z⟩:=d0 h;have⟨a,b⟩:=uX G z;show GK a (eY b) G.xl
def B5(G:Gs ck Γ C d X)(h:wF ck (.MW i c f es g k x cs j m) X.N X.env.scope s'=b6):L2.PS X s' (JH C (Oj (.MW i c f es g k x cs j m)) (exec Γ (.MW i c f es g k x cs j m))):=by
 have⟨b,hd,p,rfl,q⟩:=sO h;have⟨t0,n,r,YQ,rfl,s⟩:=sQ q;have⟨y,p1,v,p4,rfl,t⟩:=nz s;have⟨z,p6,v2,V4,rfl,u⟩:=nz t;clear h q s t;simp only[cb,Ļ]at u;obtain⟨⟨⟨⟨⟨⟨c1,B⟩,D⟩,a⟩,b1⟩,⟨⟨r,b3⟩,b4⟩⟩,⟨⟨⟨⟨⟨⟨H,I⟩,J⟩,L⟩,A⟩,O⟩,Q⟩⟩:=u;have⟨p5,rfl⟩:=gF c1;have⟨p9,rfl⟩:=gF B;have⟨T,Y,e0⟩:=Ql.mp r;have⟨Dc,r1,r2⟩:=G.xs.xe x ⟨T,Y,ŀ e0⟩;have l:∃o,PR X C v o/\exec Γ (.MW i c f es g k x cs j m)=o >>= j7 cs i j m:=by
  match c,a with
  |[],a=>show⟨_,(uX G a).1,rfl⟩
  |[c],a =>
   have⟨c',a',b',p3,rfl,w⟩:=nu a;simp only[cb]at w;show⟨_,GJ (lC c X.LK _ (Gd.LK G.gd) w.1.1) (uX G w.1.2).1 (uX G w.2).1,rfl⟩
  |_::_::_,a=>cases a
 have⟨o,l,e1⟩:=l;rw[e1];show GL (λn e=>by have e:(cK (n≠i)&&cK (n≠m)&&cK (n≠j))=b6:=e;simpa[and_assoc] using e) G.nd H (jw I) (G.fn _) J L O (jw Q) (G.fn _) G.gd.K l (eY D) G.sk G.ex (cj b3) r1 (aC b4).1 (λcl L3 Cc e=>r2 cl (ŀ (i9.mp b1 cl L3)) Cc e) (aC A).1 (aC A).2
def B6(G:Gs ck Γ C d X)(h:wF ck (.Nf c e) X.N X.env.scope s'=b6):L2.PS X s' (JH C (Oj (.Nf c e)) (exec Γ (.Nf c e))):=by
 have⟨r,u,rfl,g⟩:=sN h;have⟨as,v,p2,rfl,i⟩:=gG g;have⟨a,rfl,f⟩:=aJ i;simp only[cb,Ļ]at f;obtain⟨⟨⟨⟨j,k⟩,l⟩,m⟩,n⟩:=f;have⟨o,p,q,t⟩:=G.xs.xc _ j;show GC G.gd.calm (cj k) p (aC l).1 t (bC e X a G.gd n) (bb (es:=[]) m) λH' w b σ s e s' I F=>G.xl _ H' w o b8 H' b σ s e s' q I F
mutual
theorem Iy:∀(s:S) (X:Cx) (s':LS),Gs ck Γ C d X->wF ck s X.N X.env.scope s'=b6->L2.PS X s' (JH C (Oj s) (exec Γ s))
 |.set i e,X,s',G,h=>by
  have⟨t,v,p1,rfl,k⟩:=dn h;have⟨x,p,rfl,l⟩:=nA k;clear h k;have h:=l;simp only[cb,Ļ]at h;obtain⟨⟨⟨⟨⟨r,y⟩,B⟩,q⟩,J⟩,A⟩:=h;have JW:∀j,Oj (.set i e) j=b6->j≠i:=λj Q=>ŀ (show cK (j≠i)=b6 from Q);by_cases hc:cX v=b6
  .show CO JW G.nd r (jw y) (.inl (G.fn x)) (bC e X v G.gd q) (eY hc)
  .cases e with
   |comp n t ik src cond e =>
    obtain⟨elt,tg,ac,al,scope,p3,rfl,_⟩:=jt q;show E1 G r y q _ JW
   |_=>show absurd A hc
 |.L8 is e,X,s',G,h=>by
  have⟨t,v,p1,rfl,k⟩:=dn h;have⟨es,kk,p,rfl,l⟩:=lz k;clear h k;have h:=l;simp only[cb]at h;obtain⟨⟨⟨r,y⟩,B⟩,q⟩:=h;show EH (λj Q=>ŀ (show cK (j∉is)=b6 from Q)) (bC e X v G.gd q) (qK (fa:=b6) G.gd.calm G.gd.K G.nd (λ_=>G.fn) r) (pk y) ?_ rfl;cases v<;>first|rfl|cases B
 |.put i a b,X,s',G,h=>by
  have⟨t,v,p,rfl,k⟩:=dn h;have⟨o,a',p1,rfl,l⟩:=dm k;have⟨x,px,rfl,L⟩:=ao l;simp only[cb,Ļ]at L;obtain⟨⟨⟨⟨⟨⟨r,y⟩,B⟩,q⟩,J⟩,A⟩,h7⟩:=L;have⟨T,Y⟩:=aC B;show GA G.gd.P G.gd.w G.gd.K G.gd.u r (b_ y) T Y (bC b X _ G.gd h7) (bC a X _ G.gd A) (pk q) rfl (uV J)
 |.app i e,X,s',G,h=>by
  have⟨c,p0,rfl,k⟩:=d0 h;have⟨o,m,ab,as,G',rfl,l⟩:=bz k;have⟨x,px,rfl,L⟩:=ao l;have⟨a,rfl,z4⟩:=aJ L;simp only[cb,Ļ]at z4;obtain⟨⟨⟨⟨⟨⟨rfl,r⟩,y⟩,B⟩,q⟩,J⟩,A⟩:=z4;have⟨T,Y⟩:=aC B;have st:=bb (env:=X.env) (es:=[]) J;have sa:=(bu (pos:=G') (env:=X.env) (es:=[a]) λe he=>by simp at he;subst he;show J).2;show Gy G.gd.K r (b_ y) T Y (bC e X _ G.gd A) ?_ q st;rw[sa];rfl
 |.ext i e,X,s',G,h=>by
  have⟨c,p0,rfl,k⟩:=d0 h;have⟨o,m,ab,as,G',rfl,l⟩:=bz k;have⟨x,px,rfl,L⟩:=ao l;have⟨a,rfl,z4⟩:=aJ L;simp only[cb,Ļ]at z4;obtain⟨⟨⟨⟨⟨⟨rfl,r⟩,y⟩,B⟩,q⟩,J⟩,A⟩:=z4;have⟨T,Y⟩:=aC B;have st:=bb (env:=X.env) (es:=[]) J;have sa:=(bu (pos:=G') (env:=X.env) (es:=[a]) λe he=>by simp at he;subst he;show J).2;show Gz G.gd.K r (b_ y) T Y (bC e X _ G.gd A) ?_ q st;rw[sa];rfl
 |.bad,X,s',G,h=>λag sh σ H D I ⟨_,_,_,_,w⟩=>(bp.mp w).elim
 |.newD i,X,s',G,h=>by
  have⟨t,v,p1,rfl,k⟩:=dn h;have⟨x,p,rfl,l⟩:=ao k;clear h k;have h:=l;simp only[cb,Ļ]at h;have⟨p2,rfl⟩:=nv h.1.1;show EJ (λj Q=>ŀ (show cK (j≠i)=b6 from Q)) G.nd h.1.2 (jw h.2) (.inl (G.fn _)) (eY rfl)
 |.putD i a b,X,s',G,h=>by
  have⟨t,v,p,rfl,k⟩:=dn h;have⟨o,a',p1,rfl,l⟩:=dm k;have⟨x,px,rfl,L⟩:=ao l;simp only[cb,Ļ]at L;obtain⟨⟨⟨⟨⟨⟨r,y⟩,B⟩,q⟩,J⟩,A⟩,h7⟩:=L;have⟨T,Y⟩:=aC B;show EK G.gd.u r (b_ y) T Y (bC b X _ G.gd h7) (bC a X _ G.gd A) (pk q) rfl (uV J)
 |.Kz i a e,X,s',G,h=>by
  have⟨c,p0,rfl,k⟩:=d0 h;have⟨o,m,ab,as,G',rfl,l⟩:=bz k;have⟨o',a',p1,rfl,L⟩:=dm l;have⟨x,px,rfl,z4⟩:=ao L;have⟨b,rfl,z5⟩:=aJ z4;simp only[cb,Ļ]at z5;obtain⟨⟨⟨⟨⟨⟨⟨⟨rfl,r⟩,y⟩,B⟩,q⟩,J⟩,A⟩,h7⟩,h8⟩:=z5;have ha:=bC e X _ G.gd h8;have⟨T,Y⟩:=aC B;have st:=bb (env:=X.env) (es:=[]) A;have sa:=(bu (pos:=G') (env:=X.env) (es:=[b]) λe he=>by simp at he;subst he;show A).2;show EL G.gd.K G.gd.u r (b_ y) T Y ha (bC a X _ G.gd h7) (qJ q) ?_ J st;rw[sa];rfl
 |.aug sub i a e,X,s',G,h=>by
  have⟨t,op,b,p,rfl,O⟩:=lE h;clear h;have h:=O;have⟨o,a',p1,rfl,k⟩:=dm h;have⟨x,px,rfl,l⟩:=ao k;simp only[cb,Ļ]at l;obtain⟨⟨⟨⟨⟨⟨⟨rfl,r⟩,y⟩,B⟩,q⟩,J⟩,A⟩,h7⟩:=l;have ha:=Iw (C:=C) (Γ:=Γ) (d:=d) (ck:=ck) G.gd h7 A;have⟨T,Y⟩:=aC B;show GG r (b_ y) T Y ha (bC a X _ G.gd J) (B1 q)
 |.Rp i,X,s',G,h=>absurd (show cc=b6 from h) i3
 |.exp e,X,s',G,h=>by
  have⟨e',p,rfl,O⟩:=d0 h;clear h;have h:=O;simp only[cb]at h;show Gq (bC e X _ G.gd h.2) (eY h.1)
 |.ret e,X,s',G,h=>by
  have⟨v,p,rfl,O⟩:=ip h;have⟨e',rfl,k⟩:=nB O;clear h O;have h:=k;show Gr (bC e X _ G.gd h)
 |.Lw i e,X,s',G,h=>by
  have g:=G.gd;have⟨v0,p0,rfl,y0⟩:=ip h;have⟨v,rfl,y1⟩:=nB y0;clear h y0;have h:=y1;have⟨elt,tg,ac,scope,p,rfl,k⟩:=qL h;have⟨o,m,ab,as,G',rfl,l⟩:=bz k;have⟨x,px,rfl,L⟩:=ao l;simp only[cb,Ļ,wk]at L;obtain⟨⟨⟨⟨⟨⟨⟨⟨⟨⟨rfl,rfl⟩,r⟩,y⟩,B⟩,q⟩,J⟩,A⟩,h7⟩,h8⟩,h9⟩:=L;cases tg with
  |Tuple es kx ps =>
   have⟨T,Y⟩:=aC B;have S:=rR (X:=X) rfl (ju _ _) h7;rw[<-A]at h8;show EM r (b_ y) T Y q S g.calm A (λD s H ex=>qK (fa:=cc) g.calm g.K S.nd (λz=>nomatch z) h8) (λD s H ex=>bC e _ _ (g.cx _ _ _ _ _ _) h9)
  |_=>cases J
 |.L9,X,s',G,h=>by
  have⟨v,p,rfl,O⟩:=ip h;cases v with
  |none=>show EF
  |some _=>cases O
 |.ite c a b,X,s',G,h=>by
  have⟨c',a',b',p,rfl,O⟩:=sT h;clear h;have h:=O;simp only[cb]at h;have ha:=lG a X _ G h.1.2;have hb:=lG b X _ G h.2;show Gu (lC c X _ G.gd h.1.1) (J8.weak ha λD σ H z=>pd (λj Q=>(x2.mp (show(KJ a j&&KJ b j)=b6 from Q)).1) z) (J8.weak hb λD σ H z=>pd (λj Q=>(x2.mp (show(KJ a j&&KJ b j)=b6 from Q)).2) z)
 |.Ji t is ik src body,X,s',G,h=>by
  have⟨tg,ac,K_,p,rfl,O⟩:=sU h;clear h;have h:=O;rw[cb,cb,cb]at h;show Gw G.po G.gd.calm (uW G.gd h.1.2) (qK (fa:=b6) G.gd.calm G.gd.K G.nd (λ_=>G.fn) h.1.1.1) (lG body X _ G h.2) (sM h.1.1.2) λj Q=>by have Q:(cK (j∉is)&&KJ body j)=b6:=Q;simpa using Q
 |.MV c body,X,s',G,h=>by
  have⟨c',K_,p,rfl,O⟩:=wD h;clear h;have h:=O;simp only[cb]at h;show Gv G.po (lC c X _ G.gd h.1) (lG body X _ G h.2)
 |.brk,X,s',G,h=>absurd (show cc=b6 from h) i3
 |.cnt,X,s',G,h=>absurd (show cc=b6 from h) i3
 |.Mh is,X,s',G,h=>absurd (show cc=b6 from h) i3
 |.Og f es,X,s',G,h=>B4 G h
 |.MW i c f es g Ku x cs j m,X,s',G,h=>B5 G h
 |.inc i n,X,s',G,h=>B3 G h
 |.Nf c e,X,s',G,h=>B6 G h
 |.Rq,X,s',G,h=>absurd (show cc=b6 from h) i3
theorem lG:∀(b:List S) (X:Cx) (a:List LS),Gs ck Γ C d X->d9 ck b X.N X.env.scope a=b6->J8 X a (JH C (KJ b) (execs Γ b))
 |[],X,a,G,h=>by
  cases a with
  |nil=>show Gp
  |cons _ _=>simp[d9]at h
 |s::b,X,a,G,h=>by
  cases a with
  |nil=>simp[d9]at h
  |cons s' a =>
   simp only[d9,cb]at h;have e:=Iy s X s' G h.1;have f:=lG b X a G h.2;show ED (PS.weak e λD σ H z=>pd (λj c=>by simp only[KJ,cb]at c;show c.1) z) (J8.weak f λD σ H z=>pd (λj c=>by simp only[KJ,cb]at c;show c.2) z)
end
end
section
variable{ck:Ck}{Γ:Tab}{d:Nat}{P:u3}{w:ve}{K:PySem.W.Frag}{mg:Str->Option dV}{base:Jv}
def jx{n i:Nat}(h:(start us n)[i]?=a5 (a5 (k,u))):us[i]?=a5 u/\k=if Jo u=b6 then .loc else .any:=by
 unfold start at h;by_cases a:i<us.length
 .rw[uc (by simpa using a),i8]at h;rw[mx a]at h ⊢;simp only[Su,QM,WH]at h;have⟨b,c⟩:=h;subst c;show⟨rfl,b.symm⟩
 .rw[qk (by simp;lia),J7]at h;split at h<;>cases h
def dq{i:Nat}(h:vs[i]?=a5 v):(L2.start N vs)[i]?=a5 (a5 v):=by
 unfold L2.start;have a:i<vs.length:=(dt.mp h).1;rw[uc (by simpa using a),i8,h];rfl
def za(p:∀a,c a->KH H a)(h:au ⟨P,w,K,H,c,λ_=>False,q⟩ c H us vs)(s:N.length=n):Ok ⟨P,w,K,H,c,λ_=>False,q⟩ ⟨λ_=>False,H,L2.start N vs,start us n,λ_=>[]⟩:=by
 have f:∀(j:Nat) (u:U),(start us n)[j]?≠a5 (a5 (.IL,u)):=λj u e=>by
  have:=(jx e).2;split at this<;>cases this
 show⟨λa o e _=>e,λa z=>z.elim,λa z=>⟨p a z,λz=>z⟩,λa z=>z.elim,?_,λi k u e=>?_,λi j k k' u u' r hk x g m y A=>?_,⟨λj u r e _=>(f j u e).elim,λi j a ⟨u,_,e,_⟩=>(f i u e).elim,λj a ⟨u,_,e,_⟩=>(f j u e).elim⟩⟩
 .have:=h.len;simp[start,L2.start,s];lia
 .have⟨g,m⟩:=jx e;have⟨v,ev,b⟩:=h.get g;show⟨v,dq ev,?_⟩;subst m;by_cases l:Jo u=b6
  .rw[ļ l];show Rep.Jo l b
  .rw[Ľ l];show Rep.mv (.up λa z=>.inl z) b
 .obtain⟨_,t⟩:=jx g;subst t;split at hk<;>cases hk
def pq(h:da Γ fn us=a5 (.ok (k,u))):us.length=fn.np/\((k=.own\/k=.loc\/k=.any)/\(∃st',execs Γ fn.body (start us fn.ns)=a5 (.ok (.rt k u),st'))\/(k=.loc/\u=.IV/\∃st',execs Γ fn.body (start us fn.ns)=a5 (.ok .nx,st'))):=by
 unfold da at h;split at h
 .rename_i hl;show⟨hl,?_⟩;split at h
  .rename_i e;cases h;show .inl ⟨.inl rfl,_,e⟩
  .rename_i e;cases h;show .inl ⟨.inr (.inl rfl),_,e⟩
  .rename_i e;cases h;show .inl ⟨.inr (.inr rfl),_,e⟩
  .rename_i e;cases h;show .inr ⟨rfl,rfl,_,e⟩
  .cases h
  .cases h
 .cases h
def qN(h:da Γ fn us=a5 (.exc c)):us.length=fn.np/\∃st',execs Γ fn.body (start us fn.ns)=a5 (.ok (.rt .io (.str c)),st'):=by
 unfold da at h;split at h
 .rename_i hl;show⟨hl,?_⟩;split at h
  .cases h
  .cases h
  .cases h
  .cases h
  .rename_i e;cases h;show⟨_,e⟩
  .cases h
 .cases h
def CU{st:LS}(F:Nu K fn.name i st f fd)(S:eJ N ps (aS st))(hN:N.length=fn.ns)(Lc:ps.length=fn.np)
  (OF:d9 ck fn.body N (aS st) (cT st)=b6) (t:∀x∈bK,mg x=b8) (y:∀g∈ck.fns,BU P w K mg base d (Γ g) g)
  (LV:∀p∈ck.gl,∃val v,mg p.1=a5 val/\RelV v val/\∀(C:Ct) S H,Rep C S H p.2 v) (KU:∀p∈ck.KU,BV P w K mg base d (Γ p.1) p.1 p.2) (xs:OD ck K mg):jh P w K mg base (Ob P w) (d+1) f fd ps (spT P w K (da Γ fn) fn.np):=by
 have⟨oc,od,kV,ab,pm,an,J,ct,OX,rfl,lk,Ju⟩:=F.ex;show CI lk Ju S (λvs H Q E h=>h.1.trans Lc.symm) λA outer s H vs Q E L h=>?_;have⟨hl,us,r,q,O,YY,B,b⟩:=h;have Ph:=L.un;let l:Ct:=⟨P,w,K,H,q,λ_=>False,λu H'=>∃c,u=.str c/\∀j,PySem.W.nsIn K js c=a5 (a5 (.ref j))->E (.ref j) b8 H'⟩
 have D:(Ni P w K H q).Eqv l:=⟨rfl,rfl,rfl⟩
 have m:l.Eqv (Ni P w K H q):=⟨rfl,rfl,rfl⟩
 have G:Gs ck Γ l d (pS (Ob P w) P w K mg base N i (aS st) f J A outer s H E) :=
  ⟨⟨rfl,rfl,rfl,by change(A.deeper (TZ i (aS st) s.heap.objs.size f J)).units+60<K2;lia,rfl,L,t,y,λp hp=>let ⟨val,v,D,m,q3⟩:=LV p hp;⟨val,v,D,m,q3 _⟩,KU,xs⟩,S.nd,λ_=>rfl,PassesOwn.leaving,S.kind,xs,
   λc H' ⟨c',e1,hE⟩ j T H2 Y σ s2 e s' hm I F=>by
    cases e1;show F.leave I.ok.frames rfl I.stack I.ka λT' Lj F'=>⟨e,j,T',H',rfl,F'.down I rfl rfl rfl,hE j hm⟩,⟨rfl,rfl⟩,rfl⟩
 show⟨_,lG fn.body _ _ G OF,⟨λ_=>False,H,L2.start N vs,start us fn.ns,λ_=>[]⟩,rfl,rfl,za YY (B.cg D) hN,?_⟩;cases r with
 |exc c =>
  obtain⟨_,st',e⟩:=qN O;show⟨_,st',e,λcf ec ok n kp=>⟨c,rfl,λj hC=>b j cf.H hC λa o z=>ok.same a o z λz=>z⟩⟩
 |ok x =>
 have⟨k,u⟩:=x;have⟨hk,b⟩:=b;obtain⟨_,UD⟩:=pq O;have mk:∀(c:Cf),Ok l c->∀v,EC l c k u v->Back (Ni P w K H q) H c.H c.S k u v:=λc ok v r=>by
  show⟨λa o e=>ok.same a o e λz=>z,λa z=>ok.KS a z,λe=>?_,λe=>?_,λe=>?_⟩
  .subst e;have⟨r0,e,h1,h2,h3,h4⟩:=r;show⟨r0,e,h1,h2,h4.cg m⟩
  .subst e;show Rep.cg m r
  .subst e;show Rep.cg m r
 rcases UD with⟨_,st',e⟩|⟨rfl,rfl,st',e⟩
 .rcases hk with rfl|rfl|rfl<;>show⟨_,st',e,λc ec ok n kp v r=>b v c.H c.S (mk c ok v r)⟩
 .show⟨_,st',e,λc ec ok n kp=>b .IV c.H c.S (mk c ok .IV rfl)⟩
def iq(h:(cW is us n)[i]?=a5 (a5 (k,u))):us[i]?=a5 u/\k=if i∈is then .io else if Jo u=b6 then .loc else .any:=by
 unfold cW at h;by_cases a:i<us.length
 .rw[uc (by simpa using a),i8,Tq]at h;rw[mx a]at h ⊢;simp only[Su,QM,WH,Qa]at h;have⟨b,c⟩:=h;subst c;show⟨rfl,b.symm⟩
 .rw[qk (by simp;lia),J7]at h;split at h<;>cases h
def wG(a:EO C C.H₀ is us vs)(s:N.length=n):Ok C ⟨λ_=>False,C.H₀,L2.start N vs,cW is us n,λ_=>[]⟩:=by
 have g:∀(j:Nat) (u:U),(cW is us n)[j]?≠a5 (a5 (.IL,u)):=λj u e=>by
  have:=(iq e).2;split at this
  .cases this
  .split at this<;>cases this
 have rt:∀(j:Nat) (k:Kd) (u:U),k.root=b6->(cW is us n)[j]?=a5 (a5 (k,u))->j∈is/\us[j]?=a5 u:=λj k u hk e=>by
  have⟨f,b⟩:=iq e;show⟨?_,f⟩;by_cases z:j∈is
  .show z
  .rw[Ľ z]at b;subst b;split at hk<;>cases hk
 show⟨λa o e _=>e,λa z=>z.elim,λx z=>a.par x z,λx z=>⟨a.V5 x z,a.V5 x z⟩,?_,λi k u e=>?_,λi j k k' u u' r hk t f b l m=>?_,⟨λj u r e _=>(g j u e).elim,λi j a ⟨u,_,e,_⟩=>(g i u e).elim,λj a ⟨u,_,e,_⟩=>(g j u e).elim⟩⟩
 .have:=a.len;simp[cW,L2.start,s];lia
 .have⟨f,b⟩:=iq e;by_cases z:i∈is
  .rw[ļ z]at b;subst b;have⟨r,b1,c,b3⟩:=a.io i u z f;show⟨_,dq b1,r,rfl,λz=>z,λz=>(a.par r z).2 c,c,b3⟩
  .rw[Ľ z]at b;have⟨v,b1,c⟩:=a.any i u z f;show⟨v,dq b1,?_⟩;subst b;by_cases h:Jo u=b6
   .rw[ļ h];show Rep.Jo h c
   .rw[Ľ h];show Rep.mv (.up λa z=>.inl z) c
 .have⟨p,y⟩:=rt i k u hk f;have⟨q,A⟩:=rt j k' u' t b;obtain⟨B,b1,_⟩:=a.io i u p y;obtain⟨D,c,_⟩:=a.io j u' q A;rw[dq b1]at l;rw[dq c]at m;cases l;cases m;show a.inj i j _ p q b1 c
theorem uY:∀{is:List Nat}{st:aw}{ws:List U},Ol is st=a5 ws->ws.length=is.length/\∀(n i:Nat),is[n]?=a5 i->∃w,ws[n]?=a5 w/\st[i]?=a5 (a5 (.io,w))
 |[],_,_,h=>by cases h;show⟨rfl,λn i e=>by simp at e⟩
 |i::is,st,ws,h=>by
  unfold Ol at h;split at h
  .rename_i u c;rw[eH]at h;have⟨k,h,rfl⟩:=h;have⟨a,b⟩:=uY h;show⟨by simp[a],λn j e=>?_⟩;cases n with
   |zero=>simp at e;subst e;show⟨u,rfl,c⟩
   |succ n=>have⟨w,f,g⟩:=b n j (by simpa using e);show⟨w,by simpa using f,g⟩
  .cases h
def uZ(h:ij Γ fn is body us=a5 (.ok r)):us.length=fn.np/\∃f st k u ws,execs Γ body (cW is us fn.ns)=a5 (.ok f,st)/\Rr f=a5 (k,u)/\Ol is st=a5 ws/\r=(k,.tup (u::ws)):=by
 unfold ij at h;split at h
 .rename_i hl;show⟨hl,?_⟩;split at h
  .rename_i f st e;obtain⟨⟨k,u⟩,a,h⟩:=sx.mp h;rw[eH]at h;have⟨ws,b,c⟩:=h;cases c;show⟨f,st,k,u,ws,e,a,b,rfl⟩
  .cases h
 .cases h
def E2{st:LS}(F:Nu K fn.name b st f fd)(S:eJ N ps (aS st))(hN:N.length=fn.ns)(Lc:ps.length=fn.np)(JW:∀i∈is,KJ body i=b6)
  (OF:d9 ck body N (aS st) (cT st)=b6) (y:∀x∈bK,mg x=b8) (B:∀g∈ck.fns,BU P w K mg base d (Γ g) g)
  (LV:∀p∈ck.gl,∃val v,mg p.1=a5 val/\RelV v val/\∀(C:Ct) S H,Rep C S H p.2 v) (KU:∀p∈ck.KU,BV P w K mg base d (Γ p.1) p.1 p.2) (xs:OD ck K mg):jh P w K mg base N2 (d+1) f fd ps (RF P w K (ij Γ fn is body) fn.np is):=by
 show F.ok S (λvs H Q E h=>h.1.trans Lc.symm) (λJ A outer s H vs Q E L h=>?_);have⟨hl,us,k,u,ws,m,IO,Jz,hk,D,j⟩:=h;have Ph:=L.un;have G:Gs ck Γ (MI P w K H m IO) d (pS N2 P w K mg base N b (aS st) f J A outer s H E).LK :=
  ⟨⟨rfl,rfl,rfl,by change(A.deeper (TZ b (aS st) s.heap.objs.size f J)).units+60<K2;lia,rfl,L,y,B,λp hp=>let ⟨val,v,q1,q2,q3⟩:=LV p hp;⟨val,v,q1,q2,q3 _⟩,KU,xs⟩,S.nd,λ_=>rfl,PassesOwn.never,S.kind,xs,λ_ _ z=>z.elim,⟨rfl,rfl⟩,rfl⟩
 show⟨_,lG body _ _ G OF,⟨λ_=>False,H,L2.start N vs,cW is us fn.ns,λ_=>[]⟩,rfl,rfl,wG (C:=MI P w K H m IO) D hN,?_⟩;obtain⟨_,O,st',k',u',MH,e,o,e2,e3⟩:=uZ Jz;cases e3;have⟨l1,l2⟩:=uY e2;have T:∀(c:Cf),c.st=st'->Ok (MI P w K H m IO) c->Kept (KJ body) ⟨λ_=>False,H,L2.start N vs,cW is us fn.ns,λ_=>[]⟩ c->∀v,EC (MI P w K H m IO) c k u v->CP (MI P w K H m IO) H c.H c.S is vs ws k u v:=λc q l t v r=>by
  show⟨l.same,λa z=>l.KS a z,λe=>?_,λe=>?_,l1,λn i r w Y g2 g3=>?_⟩
  .subst e;have⟨r0,e,h1,h2,h3,h4⟩:=r;show⟨r0,e,h1,h2,h4⟩
  .subst e;show r
  .have⟨w',z1,z2⟩:=l2 n i Y;rw[g3]at z1;cases z1;rw[<-q]at z2;obtain⟨v',I,r',y2,_,_,_,y3⟩:=l.sl i _ _ z2;have hi:i∈is:=mN Y;rw[t.1 i (JW i hi)]at I;rw[show(L2.start N vs)[i]?=a5 (a5 (.ref r)) from dq g2]at I;cases I;cases y2;show y3
 show⟨O,st',e,λc q l n t=>?_⟩;cases O with
 |nx=>cases o;show j .IV c.H c.S (T c q l t .IV rfl)
 |rt k0 u0=>cases k0<;>first|(cases o;done)|(cases o;show λv r=>j v c.H c.S (T c q l t v r))
 |_=>cases o
abbrev Fn.bd(fn:Fn):List S:=match fn.io with|some (_,b)=>b|none=>fn.body
abbrev RJ(fn:Fn):Bool:=match fn.io with|some (is,b)=>is.all λi=>KJ b i|none=>b6
abbrev RK(ck:Ck)(Pg:List Fn):Bool:=ck.fns.all (λg=>Pg.any λfn=>cK (fn.name=g)&&fn.io.isNone)&&ck.KU.all λp=>Pg.any λfn=>cK (fn.name=p.1)&&cK (fn.io.map (·.1)=a5 p.2)
structure Ld(ck:Ck)(K:PySem.W.Frag)(mg:Str->Option dV)(fn:Fn):Prop where
 ex:∃(qual:Str) (st:LS) (f:d8) (fd:Sj) (N ps:List Str),Nu K fn.name qual st f fd/\mg fn.name=a5 (.ref f)/\Binds K fd ps []/\eJ N ps (aS st)/\N.length=fn.ns/\ps.length=fn.np/\d9 ck fn.bd N (aS st) (cT st)=b6/\RJ fn=b6
def B7{Pg:List Fn}(a:(Pg.map (·.name)).Nodup)(h:fn∈Pg):Pg.find? (λg=>cK (g.name=fn.name))=a5 fn:=by
 induction Pg with
 |nil=>cases h
 |cons g Pg b =>
  rw[d7,mh]at a;rcases d6.mp h with rfl|h
  .simp
  .rw[M_];have:cK (g.name=fn.name)=cc:=by
    apply ľ;intro z;show a.1 (z▸Zp h)
   rw[this];show b a.2 h
def sV(a:(Pg.map (·.name)).Nodup)(h:fn∈Pg):I_ Pg (d+1) fn.name=jo (I_ Pg d) fn:=by
 funext us
 change(match Pg.find? λg=>cK (g.name=fn.name) with|some fn=>jo (I_ Pg d) fn us|none=>b8)=_;rw[B7 a h]
def nE(h:fn.io=b8):jo Γ fn=da Γ fn:=by funext us;unfold jo;rw[h]
def wH(h:fn.io=a5 (is,b)):jo Γ fn=ij Γ fn is b:=by funext us;unfold jo;rw[h]
def u9(O:(Pg.map (·.name)).Nodup)(q:RK ck Pg=b6)(t:∀x∈bK,mg x=b8)(T:∀p∈ck.gl,∃val v,mg p.1=a5 val/\RelV v val/\∀(C:Ct) S H,Rep C S H p.2 v)
  (ld:∀fn∈Pg,Ld ck K mg fn) (xs:OD ck K mg):∀d,(∀g∈ck.fns,BU P w K mg base d (I_ Pg d g) g)/\∀p∈ck.KU,BV P w K mg base d (I_ Pg d p.1) p.1 p.2:=by
 simp only[RK,cb,i9,Ql,Ļ]at q;intro d;induction d with
 |zero =>
  show⟨λg I=>?_,λp J=>?_⟩
  .obtain⟨fn,j,rfl,_⟩:=q.1 g I;obtain⟨a,st,f,l,N,ps,F,m,n,S,B,o,_⟩:=(ld fn j).ex;show⟨fn.np,f,l,ps,⟨λvs H Q E h=>h.1.trans o.symm,λA outer s H args us vs Q E _ _ _ _ h=>by obtain⟨_,us,r,_,e,_⟩:=h;cases e⟩,m,F.kp,n,λus k u e=>(by cases e),λus c e=>by cases e⟩
  .obtain⟨fn,j,e,_⟩:=q.2 p J;obtain⟨a,st,f,l,N,ps,F,m,n,S,B,o,_⟩:=(ld fn j).ex;show⟨fn.np,f,l,ps,⟨λvs H Q E h=>h.1.trans o.symm,λA outer s H args us vs Q E _ _ _ _ h=>by obtain⟨_,us,k,u,_,_,_,e,_⟩:=h;cases e⟩,e▸m,F.kp,n,λus k e=>by cases e⟩
 |succ d G =>
  show⟨λg I=>?_,λp J=>?_⟩
  .have⟨fn,j,rfl,i⟩:=q.1 g I;rw[RC]at i;obtain⟨a,st,f,l,N,ps,F,m,n,S,B,o,D,_⟩:=(ld fn j).ex;rw[sV O j,nE i];rw[show fn.bd=fn.body by unfold Fn.bd;rw[i]]at D;show⟨fn.np,f,l,ps,CU F S B o D t G.1 T G.2 xs,m,F.kp,n,λus k u e=>?_,λus c e=>(qN e).1⟩;have⟨h1,h2⟩:=pq e;show⟨?_,h1⟩;rcases h2 with⟨z,_⟩|⟨z,_⟩
   .show z
   .show .inr (.inl z)
  .have⟨fn,j,e,i⟩:=q.2 p J;rw[eH]at i;obtain⟨⟨is,b⟩,i,Y⟩:=i;have⟨x,y⟩:=p
   dsimp only at e Y
   subst e Y;have⟨a,st,f,l,N,ps,F,m,n,S,B,o,D,L⟩:=(ld fn j).ex;rw[sV O j,wH i];rw[show fn.bd=b by unfold Fn.bd;rw[i]]at D;unfold RJ at L;rw[i]at L;show⟨fn.np,f,l,ps,E2 F S B o (i9.mp L) D t G.1 T G.2 xs,m,F.kp,n,λus r e=>(uZ e).1⟩
end
abbrev sW(ns:List Int):U:=.lst (ns.map .int)
theorem nF{S:d8->Prop}:∀(ns:List Int),au C S H (ns.map .int) (ns.map V.int)
 |[]=>rfl
 |n::ns=>⟨_,_,rfl,rfl,nF ns⟩
def sX(h:Jw C.K H a (ns.map V.int)):Rep C (KH H) H (sW ns) (.ref a):=by
 show⟨a,_,rfl,?_,nF ns⟩;rcases h with(h|⟨o,h⟩)|h
 .show .inl ⟨⟨_,h⟩,.inl h⟩
 .show .inl ⟨⟨_,h⟩,.inr ⟨o,h⟩⟩
 .show .inr h
theorem qO:∀{l:List α},(∀a∈l,f a=g a)->l.filterMap f=l.filterMap g
 |[],_=>rfl
 |a::l,h=>by rw[DD,DD,h a (by simp),qO λb c=>h b (by simp[c])]
theorem u_:∀(l:List Str) (us:List dV),l.Nodup->us.length=l.length->l.filterMap (λn=>((l.zip us).lookup n).map (n,·))=l.zip us
 |[],_,_,_=>rfl
 |a::l,[],_,h=>nomatch h
 |a::l,u::us,b,h=>by
  rw[mh]at b;have c:=u_ l us b.2 (by simpa using h);simp only[Pw,DD,tj,beq_self_eq_true,Su];congr 1
  conv=>rhs;rw[<-c]
  show qO λn d=>?_;have:(n==a)=cc:=by
   rw[ł];rintro rfl;show b.1 d
  rw[this]
def zb(l:List Str)(us:List dV)(h:us.length=l.length):l.filter (λn=>((l.zip us).lookup n).isNone)=[]:=by
 rw[ML];intro n hn;induction l generalizing us with
 |nil=>cases hn
 |cons a l b =>
  cases us with
  |nil=>cases h
  |cons u us =>
   simp only[Pw,tj];cases e:n==a with
   |true=>simp
   |false =>
    rcases d6.mp hn with rfl|hn
    .simp at e
    .show b us (by simpa using h) hn
def zc{kV a b c ct:dV}(d:(as.map (·.arg)).Nodup)(hl:us.length=(as.map (·.arg)).length):
  ĭ (PySem.W.fnOf x q ⟨[],as,b8,[],[],b8,[]⟩ body scope .none kV a b m c ct) ⟨us,[]⟩=pure ((as.map (·.arg)).zip us):=by
 have e:=u_ _ us d hl;have f:=zb _ us hl;change(if _ then _ else _)=_;rw[Ľ (by simp[hl])];have g:∀k:Nat,¬(!(((as.map (·.arg)).take k).filter λn=>(((as.map (·.arg)).zip us).lookup n).isNone).isEmpty)=b6:=λk=>by
  rw[ML.mpr λn h=>ML.mp f n (List.mem_of_mem_take h)];show i3
 show(Ľ (g _)).trans ?_;have hz:∀(l:List Str) (i j:Nat),(l.drop i).zip ((b8.getD #[]:Array dV).toList.drop j)=[]:=λl i j=>by rw[show(b8.getD #[]:Array dV).toList=[] from rfl,List.drop_nil,List.zip_nil_right]
 show Eq.trans (Ł (λz=>Bind.bind (ċ z _ _) _) (hz _ _ _)) ?_;show Ł (pure:List (Str×dV)->Sem (List (Str×dV))) ((Ł (List.filterMap _) (r6 _)).trans e)
structure Me where
 fn:Fn
 i:Nat
 N:List Str
 a:d8
 c:d8
 m:dV
 cr:Obj
abbrev Me.fd(top:Nat->LS)(m:Me):Sj:=PySem.W.fnOf m.fn.name m.fn.name (gr (top m.i)) (cT (top m.i)) (aS (top m.i)) .none .none .none m.m b8 (.ref m.c) .none
abbrev Me.fo(top:Nat->LS)(m:Me):Obj:=⟨.type "function",b8,.func (m.fd top),#[]⟩
@[reducible]def Gx:=Obj×List (d8×Obj)
abbrev adr(ms:List Me)(xa:List d8):List d8:=3::(ms.flatMap (λm=>[m.c,m.a])++xa)
abbrev KW(top:Nat->LS)(g:Gx)(ms:List Me):PySem.W.Frag:=(3,g.1)::(ms.flatMap (λm=>[(m.c,m.cr),(m.a,m.fo top)])++g.2)
def vb(top:Nat->LS)(g:Gx)(ms:List Me)(xa:List d8)(h:g.2.map (·.1)=xa):adr ms xa=(KW top g ms).map (·.1):=by
 unfold adr KW;rw[d7,ki,List.map_flatMap,h];rfl
abbrev E3(v:Option (Option dV))(a:d8):Bool:=match v with|some (a5 (.ref b))=>cK (b=a)|_=>cc
def B8(h:E3 v a=b6):v=a5 (a5 (.ref a)):=by
 unfold E3 at h;split at h
 .rw[ŀ h]
 .cases h
abbrev nn(o:Option (Option dV)):Bool:=match o with|some b8=>b6|_=>cc
def GU(h:nn o=b6):o=a5 b8:=by
 unfold nn at h;split at h
 .rfl
 .cases h
abbrev GV(p:Arguments)(ps:List Str):Bool:=p.posonlyargs.isEmpty&&p.vararg.isNone&&p.kwonlyargs.isEmpty&&p.kw_defaults.isEmpty&&p.kwarg.isNone&&p.defaults.isEmpty&&cK (p.args.map (·.arg)=ps)
abbrev Wa(N:List Str)(b:Nat)(a:LG):Bool:=cK (a.kind=.function)&&cK (a.isCoroutine=cc)&&cK (a.isGenerator=cc)&&decide N.Nodup&&(N.take b).all (j8 a)&&a.names.all (λy=>cK (y.2≠.free))
abbrev Wb(ck:Ck)(top:Nat->LS)(K:PySem.W.Frag)(m:Me):Bool:=PySem.W.codeIn K (.ref m.c) m.fn.name&&PySem.W.keepIn K (.ref m.a)&&E3 (PySem.W.nsIn K js m.fn.name) m.a&&GV (gr (top m.i)) (m.N.take m.fn.np) &&
 Wa m.N m.fn.np (aS (top m.i))&&cK (m.N.length=m.fn.ns)&&cK (m.fn.np<=m.fn.ns)&&(d9 ck m.fn.bd m.N (aS (top m.i)) (cT (top m.i))&&RJ m.fn)
abbrev Wc(K:PySem.W.Frag)(p:Str×U):Bool:=match p.2,PySem.W.nsIn K js p.1 with
 |.int i,a5 (a5 (.int j _))=>cK (i=j)
 |.str i,a5 (a5 (.str j _))=>cK (i=j)
 |_,_=>cc
abbrev NM(ck:Ck)(top:Nat->LS)(K:PySem.W.Frag)(ms:List Me):Bool:=ms.all (Wb ck top K)&&bK.all (λy=>nn (PySem.W.nsIn K js y))&&ck.gl.all (Wc K)&&cK (K.map (·.1)).Nodup
def GW{K:PySem.W.Frag}(b:(K.map (·.1)).Nodup)(h:(a,o)∈K):K.lookup a=a5 o:=by
 induction K with
 |nil=>cases h
 |cons p K c =>
  rw[d7,mh]at b;rw[tj];rcases d6.mp h with rfl|h
  .simp
  .have:(a==p.1)=cc:=by
    rw[ł];rintro rfl;show b.1 (i6.mpr ⟨_,h,rfl⟩)
   rw[this];show c b.2 h
section
def CV(c:NM ck top (KW top g ms) ms=b6)(h:m∈ms):Nu (KW top g ms) m.fn.name m.fn.name (top m.i) m.a (m.fd top)/\PySem.W.nsIn (KW top g ms) js m.fn.name=a5 (a5 (.ref m.a)) /\
  (∀us:List dV,us.length=(m.N.take m.fn.np).length->ĭ (m.fd top) ⟨us,[]⟩=pure ((m.N.take m.fn.np).zip us))/\eJ m.N (m.N.take m.fn.np) (aS (top m.i))/\m.N.length=m.fn.ns/\(m.N.take m.fn.np).length=m.fn.np/\(d9 ck m.fn.bd m.N (aS (top m.i)) (cT (top m.i))=b6/\RJ m.fn=b6):=by
 simp only[NM,cb,Ļ]at c;have z:=i9.mp c.1.1.1 m h;simp only[Wb,cb,Ļ]at z;obtain⟨⟨⟨⟨⟨⟨⟨j,k⟩,l⟩,b⟩,d⟩,n⟩,u⟩,o⟩:=z;simp only[Wa,cb,Ļ]at d;obtain⟨⟨⟨⟨⟨s1,s2⟩,s3⟩,s4⟩,p⟩,q⟩:=d;have r:(KW top g ms).lookup m.a=a5 (m.fo top):=GW c.2 (d6.mpr (.inr (u6 _ (List.mem_flatMap.mpr ⟨m,h,by simp⟩))));have hl:(m.N.take m.fn.np).length=m.fn.np:=by rw[vu];lia
 show⟨DN r j k,B8 l,λus f=>?_,⟨s1,s2,s3,s4,by rw[hl],λx s=>?_,λy t=>?_⟩,n,hl,o⟩
 .unfold Me.fd;revert b;cases gr (top m.i) with
  |mk v as w A B kw C =>
   intro b;simp only[GV,cb,wk,RC,Ļ]at b;obtain⟨⟨⟨⟨⟨⟨rfl,rfl⟩,rfl⟩,rfl⟩,rfl⟩,rfl⟩,e⟩:=b;rw[<-e]at f ⊢;show zc (by rw[e];show(Å _ _).nodup s4) f
 .have:=i9.mp p x s;simpa[j8] using this
 .have:=i9.mp q y t;simpa using this
def GX(i:NM ck top (KW top g ms) ms=b6)(X:(KW top g ms).In h)(G:h.Ns js mg)(j:m∈ms):Ld ck (KW top g ms) mg m.fn :=
 let ⟨a,b,c,d,e,f,k⟩:=CV i j
 ⟨_,_,_,_,_,_,a,PySem.W.mg_of X G b,.all c,d,e,f,k⟩
def E4(c:NM ck top (KW top g ms) ms=b6)(X:(KW top g ms).In h)(G:h.Ns js mg):∀p∈ck.gl,∃val v,mg p.1=a5 val/\RelV v val/\∀(C:Ct) S H,Rep C S H p.2 v:=by
 intro p d;simp only[NM,cb,Ļ]at c;have z:=i9.mp c.1.2 p d;unfold Wc at z;split at z
 .rename_i i j k a b;obtain rfl:=ŀ z;show⟨_,.int i,PySem.W.mg_of X G b,⟨_,rfl⟩,λ_ _ _=>by rw[a];rfl⟩
 .rename_i i j k a b;obtain rfl:=ŀ z;show⟨_,.str i,PySem.W.mg_of X G b,⟨_,rfl⟩,λ_ _ _=>by rw[a];rfl⟩
 .cases z
end
abbrev zd(K:PySem.W.Frag)(x:Str):Option d8:=match PySem.W.nsIn K js x with|some (a5 (.ref C))=>a5 C|_=>b8
abbrev Wd(K:PySem.W.Frag)(D:Str):Option dV:=match PySem.W.nsIn K js D with|some (a5 (.ref C))=>a5 (.ref C)|some b8=>if D="ValueError" then a5 (.type "ValueError") else b8|_=>b8
abbrev gY(ck:Ck)(K:PySem.W.Frag):Bool:=ck.xi.all (λp=>match zd K p.1,Wd K p.2.1 with|some C,a5 dv=>fV K C&&(PySem.W.kitOne K (.ref C) dv==a5 p.2.2)|_,_=>cc)&&ck.xe.all λp=>match zd K p.1,zd K p.2 with|some C,a5 D=>PySem.W.exmOne K (.ref C) (.ref D)==a5 b6|_,_=>cc
def jy{K:PySem.W.Frag}(h:zd K x=a5 C):PySem.W.nsIn K js x=a5 (a5 (.ref C)):=by
 unfold zd at h;split at h
 .rename_i e;cases h;show e
 .cases h
def GY{K:PySem.W.Frag}(z:gY ck K=b6)(X:K.In h)(G:h.Ns js mg)(D:Str)(g:∃p∈ck.xi,p.2.1=D):∃dv,((∃d,dv=.ref d/\mg D=a5 (.ref d))\/(D="ValueError"/\dv=.type "ValueError"/\mg D=b8))/\∀p∈ck.xi,p.2.1=D->∀C,PySem.W.nsIn K js p.1=a5 (a5 (.ref C))->fV K C=b6/\PySem.W.kitOne K (.ref C) dv=a5 p.2.2:=by
 rw[gY,cb,i9]at z;have⟨i,j,rfl⟩:=g;have f:=z.1 i j;split at f
 .rename_i n dv o a;show⟨dv,?_,λp k e C l=>?_⟩
  .unfold Wd at a;split at a
   .rename_i e;cases a;show .inl ⟨_,rfl,PySem.W.mg_of X G e⟩
   .rename_i e;split at a
    .rename_i c;cases a;show .inr ⟨c,rfl,PySem.W.mg_none_of X G e⟩
    .cases a
   .cases a
  .have b:=z.1 p k;rw[e,a]at b;split at b
   .rename_i q r c m;cases m;have:=jy c;rw[l]at this;cases this;rw[cb,beq_iff_eq]at b;show b
   .cases b
 .cases f
def GZ{K:PySem.W.Frag}(z:gY ck K=b6)(X:K.In h)(G:h.Ns js mg)(x:Str)(d:∃p∈ck.xe,p.2=x):∃D,mg x=a5 (.ref D)/\∀cl,(cl,x)∈ck.xe->∀C,PySem.W.nsIn K js cl=a5 (a5 (.ref C))->PySem.W.exmOne K (.ref C) (.ref D)=a5 b6:=by
 rw[gY,cb,i9,i9]at z;have⟨e,f,rfl⟩:=d;have b:=z.2 e f;split at b
 .rename_i l D m c;show⟨D,PySem.W.mg_of X G (jy c),λcl g C i=>?_⟩;have a:=z.2 _ g
  dsimp only at a
  rw[c]at a;split at a
  .rename_i n o j k;cases k;have:=jy j;rw[i]at this;cases this;show beq_iff_eq.mp a
  .cases a
 .cases b
abbrev gX(ck:Ck)(K:PySem.W.Frag):Bool:=ck.xc.all (λx=>match PySem.W.nsIn K js x with|some (a5 (.ref C))=>PySem.W.excIn K C Pb "ValueError.__new__"|_=>cc)&&ck.xd.all λp=>match PySem.W.nsIn K js p.1,PySem.W.nsIn K js p.2 with
 |some (a5 (.ref C)),a5 (a5 (.ref D))=>(PySem.W.exmOne K (.ref C) (.ref C)==a5 b6)&&(PySem.W.kitCls K (.ref C) (.ref D)==a5 b6&&C != D)
 |_,_=>cc
def E5{K:PySem.W.Frag}(z:(gX ck K&&gY ck K)=b6)(X:K.In h)(G:h.Ns js mg):OD ck K mg:=by
 rw[cb]at z;have⟨z,a⟩:=z;rw[gX,cb,i9,i9]at z;show⟨λx c=>?_,λp d=>?_,GY a X G,GZ a X G⟩
 .have:=z.1 x c;split at this
  .rename_i e;show⟨_,PySem.W.mg_of X G e,e,this⟩
  .cases this
 .have:=z.2 p d;split at this
  .rename_i b f;rw[cb,beq_iff_eq]at this;show⟨_,_,PySem.W.mg_of X G b,b,PySem.W.mg_of X G f,this.1,this.2⟩
  .cases this
def walk{l:PySem.W.OpenLaw}{K:U0->PySem.W.Frag}
  (A:l.most=a5 63) (B:d.params.defaults=[]) (D:fK (dp+1) TF) (I:∀(w:ve) (h:Jv),J w h->(K w.params).In h)
  (j:(Pg.map (·.name)).Nodup) (r:RK ck Pg=b6) (L:fn.io=b8) (O:fn∈Pg) (MK:fn.name=d.name)
  (F:∀(w:ve) (mg:Str->Option dV) (fa:d8) (h:Jv),(K w.params).In h->h.Ns js mg->mg d.name=a5 (.ref fa) ->
   (∀y∈bK,mg y=b8)/\(∀p∈ck.gl,∃val v,mg p.1=a5 val/\RelV v val/\∀(C:Ct) S H,Rep C S H p.2 v)/\(∀g∈Pg,Ld ck (K w.params) mg g)/\OD ck (K w.params) mg /\
   ∃(c:Str) (st:LS) (i:Sj) (N:List Str),Nu (K w.params) fn.name c st fa i/\eJ N [x] (aS st)/\N.length=fn.ns/\1=fn.np/\d9 ck fn.body N (aS st) (cT st)=b6/\∀(s:d5) (u:dV),Z' s i ⟨[u],[]⟩ [(x,u)])
  (T:∀ns:List Int,ns.length<=63->I_ Pg (dp+1) fn.name [sW ns]=a5 (.ok (.loc,.bl b6))) :
  PySem.W.WalkO q m XP J l.row.toRowW d [] (λf vs=>PySem.call f vs) :=
 L2.AM (n:=63) (k:=dp+1) (x:=x) (CX:=λw=>Ob l.prog w) (sp:=λw=>spT l.prog w (K w.params) (da (I_ Pg dp) fn) fn.np) A (by decide) B D I
  (λw mg fa h Q G Y=>by
   have⟨e,o,ld,xs,c,st,i,N,F1,S,hN,Lc,hc,hb⟩:=F w mg fa h Q G Y;show⟨i,hb,λbase _ _=>CU F1 S hN Lc hc e (u9 j r e o ld xs dp).1 o (u9 j r e o ld xs dp).2 xs⟩)
  (λw H a ns hl _ hS=>by
   have t:=T ns hl;rw[sV j O,nE L]at t;have Y0:fn.np=1:=(pq t).1.symm;show⟨Y0.symm,[sW ns],.ok (.loc,.bl b6),KH H,t,λ_ z=>z,⟨_,_,rfl,sX hS,rfl⟩,.inr (.inl rfl),λv H' S' b=>b.loc rfl⟩)
  λ_ _ _ _ _ ⟨_,_,_,_,_,_,z⟩=>z
def walk2{l:PySem.W.OpenLaw}{g:U0->Gx}
  (z:l.most=a5 63) (A:d.params.defaults=[]) (B:fK (dp+1) TF) (o:ms.map (·.fn)=Pg) (C:(Pg.map (·.name)).Nodup) (D:RK ck Pg=b6) (p:m.fn.io=b8) (r:m∈ms) (t:m.fn.name=d.name) (H:m.N.take m.fn.np=[x])
  (ok:∀P,NM ck top (KW top (g P) ms) ms=b6) (I:∀P,(gX ck (KW top (g P) ms)&&gY ck (KW top (g P) ms))=b6) (J:∀P,(g P).2.map (·.1)=xa) (T:∀ns:List Int,ns.length<=63->I_ Pg (dp+1) m.fn.name [sW ns]=a5 (.ok (.loc,.bl b6))) :
  PySem.W.WalkO q j O (PySem.W.kHook (λP=>KW top (g P) ms) (adr ms xa) λP=>vb top (g P) ms xa (J P)).says l.row.toRowW d [] (λf vs=>PySem.call f vs) :=
 walk z A B (λw h Y=>PySem.W.kIn_of Y) C D p (o▸i6.mpr ⟨m,r,rfl⟩) t (λw mg fa h X G v=>by
  have hk:=ok w.params;have⟨a,b,c,e,f,k,n⟩:=CV hk r;rw[<-t,PySem.W.mg_of X G b]at v;cases v;rw[H]at c e k;show⟨λy i=>PySem.W.mg_none_of X G (GU ?_),E4 hk X G,λy i=>?_,E5 (I w.params) X G,_,_,_,_,a,e,f,k,by have:=n.1;rw[show m.fn.bd=m.fn.body by unfold Fn.bd;rw[p]]at this;show this,λs u=>.of_eq (c [u] rfl)⟩
  .simp only[NM,cb]at hk;show i9.mp hk.1.1.2 y i
  .rw[<-o]at i;have⟨Q,L,rfl⟩:=i6.mp i;show GX hk X G L) T
abbrev co(n:Str)(k l c:Nat)(r s:d8)(x y z:dV)(a b t:Nat):Obj:=⟨.type "code",b8,.fields #[.str n k,.str n (k+1),.str "/claim/cut.py" (k+2),.int l 0,.int c 0,.int 0 0,.int 0 0,.int 3 0,.ref r,.bool b6,.int t 0,.ref s,.none,x,y,z,.int a 0,.int l 0,.str "/claim/cut.py" b],#[]⟩
abbrev ge(P:U0)(x:Str)(k:Nat)(v:dV):DictEntry:=⟨PL P x,.str x k,v⟩
end TM
namespace TM
open PySem L2
section
abbrev Run(m:M α)(st:aw)(a:α)(st':aw):Prop:=m st=a5 (.ok a,st')
def ae(c:Run m st a st1)(d:Run (f a) st1 b st2):Run (m >>= f) st b st2:=by
 change M.bind m f st=_;unfold M.bind;rw[show m st=_ from c];show d
def aO:Run (pure a:M α) st a st:=rfl
def cw(h:o=a5 a):Run (M.Jf o) st a st:=by subst h;rfl
def bc(h:bq rs st):Run (aA rs) st () st:=by change aA rs st=_;unfold aA;rw[ļ h]
abbrev kv(i:Nat)(k:Kd):Kd:=if k.root=b6 then .bor i else k
def d_(h:st[i]?=a5 (a5 (k,u)))(hk:k≠.IL:=by intro z;cases z):Run (c_ i) st (kv i k,u) st:=by
 change c_ i st=_;unfold c_;rw[h];cases k<;>first|rfl|show absurd rfl hk
def af(h:st[i]?=a5 (a5 (.loc,u))):Run (ev Γ (.var i)) st (.loc,u) st:=d_ h
def aY(h:st[i]?=a5 (a5 (.any,u))):Run (ev Γ (.var i)) st (.any,u) st:=d_ h
def aI(h:st[i]?=a5 (a5 (.own,u))):Run (ev Γ (.var i)) st (.bor i,u) st:=d_ h
def aj:Run (ev Γ (.cst u)) st (.loc,u) st:=rfl
def G0:Run (ev Γ (.Of x u)) st (.loc,u) st:=rfl
def bj(c:Run (ev Γ a) st x st1)(d:Run (ev Γ b) st1 y st2)(e:bq [x,y] st2)(f:Lg g x y=a5 r):Run (ev Γ (.bin g a b)) st r st2 :=
 ae c (ae d (ae (bc e) (cw f)))
def iW(d:Run (ev Γ a) st x st1)(e:Run (ev Γ b) st1 y st2)(f:bq [x,y] st2)(g:cH h x.2 y.2=a5 c):Run (ev Γ (.cmp h a b)) st (.loc,.bl c) st2 :=
 ae d (ae e (ae (bc f) (ae (cw g) aO)))
def bf(c:Run (ev Γ a) st x st1)(d:Run (ev Γ b) st1 y st2)(e:bq [x,y] st2)(f:gM x y.2=a5 r):Run (ev Γ (.idx a b)) st r st2 :=
 ae c (ae d (ae (bc e) (cw f)))
def qP:Run (Oi Γ []) st b8 st:=rfl
def lH(h:Run (ev Γ e) st (k,.int i) st1):Run (Oi Γ [e]) st (a5 i) st1:=ae h rfl
def nG(c:Run (ev Γ a) st x st1)(d:Run (Oi Γ lo) st1 l st2)(e:Run (Oi Γ f) st2 h b)(g:bq [x] b)(i:lb x l h=a5 r):Run (ev Γ (.MC a lo f)) st r b :=
 ae c (ae d (ae e (ae (bc g) (cw i))))
def ai:Run (bw Γ []) st [] st:=rfl
def aa(a:Run (ev Γ e) st r st1)(b:Run (bw Γ es) st1 rs st2):Run (bw Γ (e::es)) st (r::rs) st2:=ae a (ae b aO)
def dc(a:Run (bw Γ es) st rs st1)(b:bq rs st1)(c:Lh f rs=a5 r):Run (ev Γ (.bi f es)) st r st1:=ae a (ae (bc b) (cw c))
def CW(a:Run (bw Γ es) st rs st1)(b:bq rs st1)(c:sm f rs=a5 r):Run (ev Γ (.NF f es)) st r st1:=ae a (ae (bc b) (cw c))
def ze(b:Run (ev Γ a) st x st1)(c:Run (bw Γ es) st1 rs st2)(d:bq (x::rs) st2)(e:mD m x.2 rs=a5 r):Run (ev Γ (.NG m a es)) st r st2:=ae b (ae c (ae (bc d) (cw e)))
def vc(h:Γ f us=a5 (.ok r))(a:isAny r.1=cc):Run (lh Γ f us) st r st:=by
 have⟨k,u⟩:=r;change lh Γ f us st=_;unfold lh;rw[h];cases k<;>first|rfl|cases a
def aW(a:Run (bw Γ es) st rs st1)(b:bq rs st1)(c:Γ f (rs.map (·.2))=a5 (.ok r))(d:isAny r.1=cc:=by show rfl):Run (ev Γ (.call f es)) st r st1:=ae a (ae (bc b) (vc c d))
def dF(a:Run (bw Γ es) st rs st1)(b:bq rs st1)(c:Run (cV rs) st1 us st2)(d:us.length<=cL):Run (ev Γ (.tup es)) st (.loc,.tup us) st2:=by
 show ae a (ae (bc b) (ae c ?_));rw[ļ d];show aO
def bA(a:Run (bw Γ es) st rs st1)(b:bq rs st1)(c:Run (cV rs) st1 us st2)(d:us.length<=cL):Run (ev Γ (.lst es)) st (.own,.lst us) st2:=by
 show ae a (ae (bc b) (ae c ?_));rw[ļ d];show aO
def lI:Run (ev Γ (.Ky r)) st (.own,.IQ [] []) st:=rfl
def qQ:Run (lift (.own,u)) st u st:=rfl
def aF:Run (lift (.loc,u)) st u st:=rfl
def nI(h:Jo u=b6):Run (lift (.any,u)) st u st:=by
 change(if Jo u=b6 then(pure u:M U) else M.fail) st=_;rw[ļ h];rfl
def az:Run (cV []) st [] st:=rfl
def av(a:Run (lift r) st u st1)(b:Run (cV rs) st1 us st2):Run (cV (r::rs)) st (u::us) st2:=ae a (ae b aO)
def zf(d:Run (Jl Γ c) st b6 st1)(e:Run (ev Γ a) st1 r st2):Run (ev Γ (.ite c a b)) st r st2:=ae d e
def zg(d:Run (Jl Γ c) st cc st1)(e:Run (ev Γ b) st1 r st2):Run (ev Γ (.ite c a b)) st r st2:=ae d e
def E6(h:Run (ev Γ e) st r st1):Run (iL Γ [e]) st r st1:=h
def E7(h:Run (ev Γ e) st (k,.bl p) st1)(a:if p=b6 then Run (iL Γ (b::es)) st1 r st2 else st2=st1/\r=(.loc,.bl cc)):Run (iL Γ (e::b::es)) st r st2:=by
 show ae h ?_;cases p with
 |true=>show a
 |false=>have⟨rfl,rfl⟩:=a;show aO
def G1(h:Run (iL Γ es) st r st1):Run (ev Γ (.and es)) st r st1:=h
def aV(d:Run (ev Γ a) st x st1)(e:Run (ev Γ b) st1 y st2)(f:bq [x,y] st2)(g:cH h x.2 y.2=a5 c):Run (Jl Γ (.cmp h a b)) st c st2:=ae d (ae e (ae (bc f) (cw g)))
def G2(h:Run (Jl Γ a) st c st1):Run (Jl Γ (.not a)) st (!c) st1:=ae h aO
def nJ(h:Run (a_ Γ es) st c st1):Run (Jl Γ (.and es)) st c st1:=h
def Iz(h:Run (jK Γ es) st c st1):Run (Jl Γ (.or es)) st c st1:=h
def nK:Run (a_ Γ []) st b6 st:=rfl
def dB(h:Run (Jl Γ e) st c st1):Run (a_ Γ [e]) st c st1:=h
def sY(h:Run (Jl Γ e) st b6 st1)(a:Run (a_ Γ (b::es)) st1 c st2):Run (a_ Γ (e::b::es)) st c st2:=ae h a
def zh(h:Run (Jl Γ e) st cc st1):Run (a_ Γ (e::a::es)) st cc st1:=ae h aO
def G3(h:Run (Jl Γ e) st c st1):Run (jK Γ [e]) st c st1:=h
def G4(h:Run (Jl Γ e) st cc st1)(a:Run (jK Γ (b::es)) st1 c st2):Run (jK Γ (e::b::es)) st c st2:=ae h a
def a9:Run (dR i (.own,u)) st () (st.set i (a5 (.own,u))):=rfl
def aG:Run (dR i (.loc,u)) st () (st.set i (a5 (.loc,u))):=rfl
def jP:Run (dR i (.any,u)) st () (st.set i (a5 (.any,u))):=rfl
def G5(a:Run (ev Γ e) st r st1)(b:Run (dR i r) st1 () st2):Run (exec Γ (.set i e)) st .nx st2:=ae a (ae b aO)
def G6(b:∃k' c,st[i]?=a5 (a5 (k',.lst c))/\k'≠.IL)(d:Run (ev Γ e) st r st1)(f:Run (lift r) st1 u st2)(g:st2[i]?=a5 (a5 (k,.lst us)))(hk:k.root=b6)(hl:us.length<cL):
  Run (exec Γ (.app i e)) st .nx (st2.set i (a5 (k,.lst (us++[u])))):=by
 have⟨k',c,b,h⟩:=b;show ae (d_ b h) (ae (a:=()) (st1:=st) rfl (ae d (ae f (ae (a:=()) ?_ aO))));change modS i (yp u) st2=_;unfold modS;rw[g];simp only[hk,if_true];have e:yp u (.lst us)=a5 (.lst (us++[u])):=by change(if us.length<cL then _ else _)=_;rw[ļ hl]
 rw[e]
def G7(a:Run (ev Γ e) st r st1)(b:Run (retS r) st1 f st2):Run (exec Γ (.ret e)) st f st2:=ae a b
def iX:Run (retS (.own,u)) st (.rt .own u) st:=rfl
def dg:Run (retS (.loc,u)) st (.rt .loc u) st:=rfl
def jQ(h:st[j]?=a5 (a5 (.own,u))):Run (retS (.bor j,a)) st (.rt .own u) (st.set j b8):=by
 change(match st[j]? with|some (a5 (.own,u))=>a5 (Ex.ok (Fl.rt .own u),st.set j b8)|_=>b8)=_;rw[h]
def fz(d:Run (Jl Γ c) st b6 st1)(e:Run (execs Γ a) st1 f st2):Run (exec Γ (.ite c a b)) st f st2:=ae d e
def sZ(d:Run (Jl Γ c) st cc st1)(e:Run (execs Γ b) st1 f st2):Run (exec Γ (.ite c a b)) st f st2:=ae d e
def aB:Run (execs Γ []) st .nx st:=rfl
def fA(a:Run (exec Γ s) st .nx st1)(b:Run (execs Γ c) st1 f st2):Run (execs Γ (s::c)) st f st2:=ae a b
def j9(a:Run (exec Γ s) st (.rt k u) st1):Run (execs Γ (s::b)) st (.rt k u) st1:=ae a aO
def ay(a:Run (ev Γ e) st r st1)(b:Run (dR i r) st1 () st2)(c:Run (execs Γ d) st2 f g):Run (execs Γ (.set i e::d)) st f g:=fA (G5 a b) c
def gZ(a:st[i]?=a5 (a5 (k',.lst m)))(b:Run (ev Γ e) st r st1)(c:Run (lift r) st1 u st2)(d:st2[i]?=a5 (a5 (k,.lst us)))(hk:k.root=b6)(hl:us.length<cL)
  (g:Run (execs Γ h) (st2.set i (a5 (k,.lst (us++[u])))) f j) (l:k'≠.IL:=by intro z;cases z):Run (execs Γ (.app i e::h)) st f j:=fA (G6 ⟨_,_,a,l⟩ b c d hk hl) g
def bE(a:Run (ev Γ e) st r st1)(b:Run (retS r) st1 (.rt k u) st2):Run (execs Γ (.ret e::c)) st (.rt k u) st2:=j9 (G7 a b)
def f_(d:Run (Jl Γ c) st b6 st1)(e:Run (execs Γ a) st1 .nx st2)(g:Run (execs Γ h) st2 f i):Run (execs Γ (.ite c a b::h)) st f i:=fA (fz d e) g
def bR(d:Run (Jl Γ c) st cc st1)(e:Run (execs Γ b) st1 .nx st2)(g:Run (execs Γ h) st2 f i):Run (execs Γ (.ite c a b::h)) st f i:=fA (sZ d e) g
def s9(d:Run (Jl Γ c) st b6 st1)(e:Run (execs Γ a) st1 (.rt k u) st2):Run (execs Γ (.ite c a b::f)) st (.rt k u) st2:=j9 (fz d e)
def CY(a:Run (bw Γ src) st rs st1)(b:bq rs st1)(c:KI ik rs=a5 xs)(d:uD rs is body=b6)(e:Run (forM t is (execs Γ body) rs xs) st1 f st2):
  Run (exec Γ (.Ji t is ik src body)) st f st2:=by
 show ae a (ae (bc b) (ae (cw c) ?_));rw[ļ d];show e
def cZ(a:Run (bw Γ src) st rs st1)(b:bq rs st1)(c:KI ik rs=a5 xs)(d:uD rs is body=b6)(e:Run (forM t is (execs Γ body) rs xs) st1 .nx st2)(g:Run (execs Γ h) st2 f i):
  Run (execs Γ (.Ji t is ik src body::h)) st f i:=fA (CY a b c d e) g
def CZ(h:bq rs st):Run (forM t is body rs []) st .nx st:=ae (bc h) aO
def G8(h:bq rs st)(a:Run (dy t is x) st () st1)(b:Run body st1 .nx st2)(c:Run (forM t is body rs xs) st2 f d):Run (forM t is body rs (x::xs)) st f d:=ae (bc h) (ae a (ae b c))
def IA(h:bq rs st)(a:Run (dy t is x) st () st1)(b:Run body st1 (.rt k u) st2):Run (forM t is body rs (x::xs)) st (.rt k u) st2:=ae (bc h) (ae a (ae b aO))
def eB(h:Run (dR i r) st () st1):Run (dy cc [i] r) st () st1:=h
def aZ(a:us.length=fn.np)(hk:k=.own\/k=.loc)(hs:start us fn.ns=st0)(h:Run (execs Γ fn.body) st0 (.rt k u) st):da Γ fn us=a5 (.ok (k,u)):=by
 subst hs;unfold da;rw[ļ a,show execs Γ fn.body (start us fn.ns)=_ from h];rcases hk with rfl|rfl<;>rfl
def vd{cond:M Bool}(h:bq src st):Run (bJ k t cond elt src [] acc) st acc st:=ae (bc h) aO
def pv{cond:M Bool}(h:bq src st)(c:Run (dy t (gs k) x) (i2 k b8++st) () s1)(d:Run cond s1 b6 s2)(e:Run elt s2 r s3)(g:Run (lift r) s3 u s4)
  (hl:acc.length<cL) (i:Run (bJ k t cond elt src xs (acc++[u])) (s4.drop k) us st2):Run (bJ k t cond elt src (x::xs) acc) st us st2:=by
 show ae (bc h) (ae (a:=a5 u) (st1:=s4.drop k) ?_ ?_)
 .change inScope k _ st=_;unfold inScope;have j:Run (dy t (gs k) x >>= λ_=>cond >>= λb=>if b=b6 then(elt >>= λr=>lift r >>= λu=>pure (a5 u)) else pure b8) (i2 k b8++st) (a5 u) s4 :=
   ae c (ae d (show Run (elt >>= λr=>lift r >>= λu=>pure (a5 u)) s2 (a5 u) s4 from ae e (ae (f:=λu=>pure (a5 u)) g rfl)))
  rw[show _=_ from j]
 .change Run (if acc.length<cL then bJ k t cond elt src xs (acc++[u]) else M.fail) _ _ _;rw[ļ hl];show i
def zi{cond:M Bool}(h:bq src st)(c:Run (dy t (gs k) x) (i2 k b8++st) () s1)(d:Run cond s1 cc s2)
  (e:Run (bJ k t cond elt src xs acc) (s2.drop k) us st2):Run (bJ k t cond elt src (x::xs) acc) st us st2:=by
 show ae (bc h) (ae (a:=b8) (st1:=s2.drop k) ?_ e);change inScope k _ st=_;unfold inScope;have f:Run (dy t (gs k) x >>= λ_=>cond >>= λb=>if b=b6 then(elt >>= λr=>lift r >>= λu=>pure (a5 u)) else pure b8) (i2 k b8++st) b8 s2 :=
  ae c (ae d (show Run (pure b8:M (Option U)) s2 b8 s2 from rfl))
 rw[show _=_ from f]
def dC{src cond:List E}(a:Run (bw Γ src) st rs st1)(b:bq rs st1)(c:KI ik rs=a5 xs)(d:Run (bJ k t (a_ Γ cond) (ev Γ e) rs xs []) st1 us st2):Run (ev Γ (.comp k t ik src cond e)) st (.own,.lst us) st2 :=
 ae a (ae (bc b) (ae (cw c) (ae d aO)))
end
section
def s_(c:Run (bw Γ es) st rs st1)(d:bq (rs.map (eF st1)) st1)(e:Γ f ((rs.map (eF st1)).map (·.2))=a5 (.ok (k,.tup (u::ws))))(hk:k=.own\/k=.loc)(a:qv (rs.map (eF st1)) is=b6)(b:gW (rs.map (eF st1)) is ws st1=a5 st2):
  Run (ev Γ (.IT f es is)) st (k,u) st2:=by
 have g:Run (bw Γ es >>= A_) st (rs.map (eF st1)) st1:=ae c (show Run (A_ rs) st1 (rs.map (eF st1)) st1 from rfl);show ae g (ae (bc d) ?_);change qw Γ f _ is st1=_;unfold qw;rw[e];rcases hk with rfl|rfl
 .change(if _ then _ else _)=_;rw[ļ a,b]
 .change(if _ then _ else _)=_;rw[ļ a,b]
def G9(h:st[i]?=a5 (a5 (k,.lst us)))(hk:k.root=b6)(a:us[us.length - 1]?=a5 u):Run (ev Γ (.pop i)) st (.loc,u) (st.set i (a5 (k,.lst us.dropLast))):=by
 change yn i st=_;unfold yn;rw[h];change(if _ then _ else _)=_;rw[ļ hk,a]
def cD(a:us.length=fn.np)(hs:cW is us fn.ns=st0)(h:Run (execs Γ body) st0 f st)(b:Rr f=a5 (k,u))(c:Ol is st=a5 ws):ij Γ fn is body us=a5 (.ok (k,.tup (u::ws))):=by
 subst hs;unfold ij;rw[ļ a,show execs Γ body (cW is us fn.ns)=_ from h];change(Rr f).bind _=_;rw[b];change(Ol is st).map _=_;rw[c];rfl
end
abbrev Jy(Pg:List Fn)(f:Str)(fn:Fn):Prop:=(Pg.find? λg=>cK (g.name=f))=a5 fn
section
def aH(h:Jy Pg f fn)(us:List U)(a:fn.io=b8:=by rfl):I_ Pg (d+1) f us=da (I_ Pg d) fn us:=by
 change(match Pg.find? λg=>cK (g.name=f) with|some fn=>jo (I_ Pg d) fn us|none=>b8)=_;rw[show _=a5 fn from h];change jo _ _ _=_;unfold jo;rw[a]
def cQ(h:Jy Pg f fn)(us:List U)(a:fn.io=a5 (is,b)):I_ Pg (d+1) f us=ij (I_ Pg d) fn is b us:=by
 change(match Pg.find? λg=>cK (g.name=f) with|some fn=>jo (I_ Pg d) fn us|none=>b8)=_;rw[show _=a5 fn from h];change jo _ _ _=_;unfold jo;rw[a]
end
def eN(h:0<j):Lg .mod (k,.int i) (k',.int j)=a5 (.loc,.int (i % j)):=by change(A6 i j).map _=_;rw[A6,ļ h];rfl
def lJ(h:0<j/\j<1073741824):Lg .Oe (k,.int i) (k',.int j)=a5 (.loc,.int (i / j)):=by change(A5 i j).map _=_;rw[A5,ļ h];rfl
def kJ(h:(-(2 ^ 64)<i/\i<2 ^ 64)\/(-(2 ^ 64)<j/\j<2 ^ 64)):Lg .mul (k,.int i) (k',.int j)=a5 (.loc,.int (i * j)):=by change(A4 i j).map _=_;rw[A4,ļ h];rfl
def oo(h:0<=j/\j<=1000000/\i.natAbs<2 ^ 64):Lg .pow (k,.int i) (k',.int j)=a5 (.loc,.int (i ^ j.toNat)):=by change(A7 i j).map _=_;rw[A7,ļ h];rfl
def bW:Lg .add (k,.int i) (k',.int j)=a5 (.loc,.int (i+j)):=rfl
def g_:Lg .sub (k,.int i) (k',.int j)=a5 (.loc,.int (i - j)):=rfl
def bS(h:JK xs i=a5 u):gM (k,.lst xs) (.int i)=a5 (kE k,u):=by change(JK xs i).map _=_;rw[h];rfl
def oy(h:JK xs i=a5 u):gM (k,.tup xs) (.int i)=a5 (kE k,u):=by change(JK xs i).map _=_;rw[h];rfl
local macro_rules
 |`(tactic| sizeOf_list_dec)=>`(tactic| first|exact aB|apply ay|apply gZ|apply bE|exact aj|exact af rfl|exact aY rfl|exact aI rfl|apply bj|apply iW|apply bf|apply dc|apply aW|apply ze|apply aV|exact ai|apply aa|apply dF|apply bA|exact az|apply av|exact aF|exact qQ|(first|exact trivial|exact⟨⟨_,rfl,rfl⟩,trivial⟩|exact⟨⟨_,rfl,rfl⟩,⟨_,rfl,rfl⟩,trivial⟩)|exact bW|exact g_|exact eN (by first|lia|decide)|exact lJ (by first|lia|decide)|exact kJ (by first|lia|decide)|exact oo (by decide)|exact aG|exact a9|exact jP|exact dg|exact iX|exact jQ rfl|exact i5 _|exact rfl|exact Nj)
def G_(h:cK (i<j)=c):cH .lt (.int i) (.int j)=a5 c:=by subst h;rfl
def gb(h:cK (j<i)=c):cH .gt (.int i) (.int j)=a5 c:=by subst h;rfl
def bL(h:(i==j)=c):cH .eq (.int i) (.int j)=a5 c:=by subst h;rfl
def bX:Lh .len [(k,.lst xs)]=a5 (.loc,.int (xs.length:Nat)):=rfl
def vf:Lh .len [(k,.tup xs)]=a5 (.loc,.int (xs.length:Nat)):=rfl
def zj(x:Kd×U):KI .Kx [x]=yl x:=rfl
def pw(h:n<2 ^ 62):KI .Kx [(k,.int (n:Nat))]=a5 ((gs n).map λi:Nat=>(Kd.loc,U.int (0+(i:Int)))):=by
 rw[zj,yl,ļ ⋯,NQ]
end TM
local macro_rules
 |`(tactic| sizeOf_list_dec)=>`(tactic| first|exact TM.aB|apply TM.ay|apply TM.gZ|apply TM.bE|exact TM.aj|exact TM.af rfl|exact TM.aY rfl|exact TM.aI rfl|apply TM.bj|apply TM.iW|apply TM.bf|apply TM.dc|apply TM.aW|apply TM.ze|apply TM.aV|exact TM.ai|apply TM.aa|apply TM.dF|apply TM.bA|exact TM.az|apply TM.av|exact TM.aF|exact TM.qQ|(first|exact trivial|exact⟨⟨_,rfl,rfl⟩,trivial⟩|exact⟨⟨_,rfl,rfl⟩,⟨_,rfl,rfl⟩,trivial⟩)|exact TM.bW|exact TM.g_|exact TM.eN (by first|lia|decide)|exact TM.lJ (by first|lia|decide)|exact TM.kJ (by first|lia|decide)|exact TM.oo (by decide)|exact TM.aG|exact TM.a9|exact TM.jP|exact TM.dg|exact TM.iX|exact TM.jQ rfl|exact i5 _|exact rfl|exact TM.Nj)
namespace Jq
open PySem L2
def len_list(x:Str):x.length=x.cps.toList.length:=by simp[Ĵ]
def wI(a:0<=k)(b:k<=99):(xH k).length<=2:=by
 have⟨m,rfl⟩:=u4 a;have c:m<100:=by lia
 clear a b;revert m;decide +kernel
theorem fH:∀(ps:List Str) (acc:Array Nat),(ps.foldl (λacc p=>acc++tv.cps++p.cps) acc).toList=acc.toList++(ps.map λp=>p.cps.toList).flatten
 |[],acc=>by simp
 |p::ps,acc=>by
  rw[SD,fH ps];have:tv.cps=#[]:=rfl;simp[this]
def join_list(a:List Str):(TH tv a).cps.toList=(a.map λp=>p.cps.toList).flatten:=by
 cases a with
 |nil=>rfl
 |cons t a =>
  change(a.foldl (λacc p=>acc++tv.cps++p.cps) t.cps).toList=_;rw[fH];simp
abbrev one(c:Nat):Str:=⟨#[c]⟩
def join_ones(cs:List Nat):(TH tv (cs.map one)).cps.toList=cs:=by
 rw[join_list,i4];induction cs with
 |nil=>rfl
 |cons c cs a=>rw[d7,Vl,a];rfl
def qR(cs:List Nat)(h:cs.length<=100):ð tv (cs.map one)=b6:=by
 unfold ð;have e:=PySem.StrLaws.joinTotal tv (cs.map one);have a:tv.length=0:=rfl;have es:((cs.map one).map (·.length)).sum=cs.length:=by
  rw[i4];clear h e;induction cs with
  |nil=>rfl
  |cons c cs b=>rw[d7,List.sum_cons,b];change 1+cs.length=cs.length+1;lia
 rw[e,a,es];have d:cs.length+(cs.map one).length * 0<=100:=by lia
 revert d;generalize cs.length+(cs.map one).length * 0=m;revert m;decide
def E8(x:Str)(j:Nat):(PySem.StrLaws.sliceText x b8 (a5 (j:Int))).cps.toList=x.cps.toList.take j:=by
 by_cases h:j<=x.cps.toList.length
 .rw[PySem.StrLaws.sliceText_to (x:=x) ⟨⋯,⋯⟩];simp
 .have e:PySem.StrLaws.sliceText x b8 (a5 (j:Int))=PySem.StrLaws.sliceText x b8 (a5 (x.length:Int)):=by
   unfold PySem.StrLaws.sliceText;have hl:=len_list x;have:PySem.Builtin.Str.strSliceIndices b8 (a5 (j:Int)) 1 x.length=PySem.Builtin.Str.strSliceIndices b8 (a5 (x.length:Int)) 1 x.length:=by
    have a:¬((j:Int)<0):=by lia
    have b:¬((x.length:Int)<0):=by lia
    have c:min (j:Int) (x.length:Int)=x.length:=by lia
    simp[PySem.Builtin.Str.strSliceIndices,a,b,c]
   rw[this]
  have hl:=len_list x;rw[e,PySem.StrLaws.sliceText_to (x:=x) ⟨⋯,⋯⟩,List.drop_zero,Mo (l:=x.cps.toList) (i:=j) ⋯];change(x.cps.toList.take ((x.length:Int) - 0).toNat).toArray.toList=_;rw[Mo ⋯]
abbrev small:Str:="abcdefghijklmnopqrstuvwxyz"
theorem gf [DecidableEq α]:∀{l m:List α},l.Nodup->(∀x∈l,x∈m)->l.length<=m.length
 |[],_,_,_=>i5 _
 |x::l,m,c,h=>by
  have⟨d,e⟩:=mh.mp c;have a:=h x mA;have f:=gf (l:=l) (m:=m.erase x) e λy b=>(Zh (by rintro rfl;show d b)).mpr (h y (kr _ b));rw[XM a]at f;have:0<m.length:=YD a;rw[ke];lia
end Jq
namespace TM
open PySem L2 Jq
def oz(a:x.length<=cL)(h:JK x.cps.toList i=a5 c):gM (k,.str x) (.int i)=a5 (.loc,.str (Jq.one c)):=by
 simp only[gM];rw[ļ a,h];rfl
def qS:small.length<=cL:=by decide
theorem dM:∀(a:List Str),strsOf (a.map U.str)=a5 a
 |[]=>rfl
 |s::a=>by change(strsOf (a.map U.str)).map (s::·)=_;rw[dM a];rfl
section
def pz(h:x.length+y.length<=cL):Lg .add (k,.str x) (k',.str y)=a5 (.loc,.str (x++y)):=by
 simp only[Lg,yj];rw[ļ h]
theorem gH:∀(a:List Str) (n:Nat),dw n (a.map U.str)=b6
 |[],n=>by simp[dw]
 |s::a,n=>by simp only[d7,dw,gH a n,ö];cases n<;>rfl
theorem qT(x:Str):∀(a:List Str),((a.map U.str).any λy=>cy y (.str x))=cK (x∈a)
 |[]=>by simp
 |s::a=>by
  rw[d7,Uy,qT x a];have:cy (.str s) (.str x)=cK (x=s):=by
   simp only[cy];by_cases h:x=s
   .subst h;simp
   .have h':s≠x:=λz=>h z.symm;simp[h,h']
  rw[this,H8];simp
def B9(x:Str)(a:List Str):Oh (.str x) (a.map U.str)=a5 (cK (x∈a)):=by
 unfold Oh;rw[ļ ⟨by rfl,gH a 50⟩,qT]
def lK{a:List Str}:cH .Ja (.str x) (.lst (a.map U.str))=a5 (cK (x∉a)):=by
 change(Oh (.str x) (a.map U.str)).map (!·)=_;rw[B9];simp
end
section
end
def iY(h:Run (ev Γ j) st rv st1)(l:st1[i]?=a5 (a5 (k',u')))(m:Run (ev Γ n) st1 rk st2)(o:Run (cV [rv,rk]) st2 [c,d] b)(p:b[i]?=a5 (a5 (k,e)))(hk:k.root=b6)(q:eG d c e=a5 g)
  (r:Run (execs Γ s) (b.set i (a5 (k,g))) f t) (u:k'≠.IL:=by intro z;cases z):Run (execs Γ (.put i n j::s)) st f t:=by
 show fA (ae h (ae (d_ l u) (ae m (ae o (ae (a:=()) (st1:=b.set i (a5 (k,g))) ?_ aO))))) r;change modS i (uC [c,d]) b=_;unfold modS;rw[p];simp only[hk,if_true];change(match eG d c e with|some u'=>_|none=>b8)=_;rw[q]
@[reducible]def Row:=Str×List Str
abbrev B'(r:Row):U:=.tup [.str r.1,.tup (r.2.map .str)]
abbrev keyOf(r:Row):Row:=(r.1,aP r.2)
def sorted_strs(h:a.length<64):Lh .sorted [(k,.tup (a.map .str))]=a5 (.own,.lst ((aP a).map .str)):=by
 change(strsOf (a.map U.str)).bind _=_;rw[dM];change(if a.length<64 then _ else _)=_;rw[ļ h]
structure nL(names:List Str)(r:Row):Prop where
 word:r.1∈names
 M5:r.2.length<=8
 once:r.2.Nodup
 told:∀x∈r.2,x∈names
section
def nM(h:Run (execs Γ (a++i)) st f st2):(∃s1,Run (execs Γ a) st .nx s1/\Run (execs Γ i) s1 f st2)\/(Run (execs Γ a) st f st2/\f≠.nx):=by
 induction a generalizing st with
 |nil=>show .inl ⟨st,aB,h⟩
 |cons s a j =>
  have h':M.bind (exec Γ s) (λf=>match f with|.nx=>execs Γ (a++i)|f=>pure f) st=a5 (.ok f,st2):=h;unfold M.bind at h';cases e:exec Γ s st with
  |none=>rw[e]at h';cases h'
  |some p =>
   have⟨x,s1⟩:=p;rw[e]at h';cases x with
   |exc c=>cases h'
   |ok g =>
    cases g with
    |nx =>
     rcases j h' with⟨s2,b,d⟩|⟨b,d⟩
     .show .inl ⟨s2,fA e b,d⟩
     .show .inr ⟨fA e b,d⟩
    |rt k u=>cases h';show .inr ⟨j9 e,λz=>nomatch z⟩
    |bk=>cases h';show .inr ⟨ae (show Run (exec Γ s) st Fl.bk _ from e) aO,λz=>nomatch z⟩
    |ct=>cases h';show .inr ⟨ae (show Run (exec Γ s) st Fl.ct _ from e) aO,λz=>nomatch z⟩
def Ha(a:Run (exec Γ s) st f st1)(b:f≠.nx):Run (execs Γ (s::c)) st f st1:=by
 cases f with
 |nx=>show absurd rfl b
 |rt k u=>show j9 a
 |_=>show ae a aO
def lL(g:Run (Jl Γ c) st p st1)(i:p=b6->Run (execs Γ (a++h)) st1 f st2)(j:p=cc->Run (execs Γ (b++h)) st1 f st2):Run (execs Γ (.ite c a b::h)) st f st2:=by
 cases p with
 |true =>
  rcases nM (i rfl) with⟨s1,d,e⟩|⟨d,e⟩
  .show fA (fz g d) e
  .show Ha (fz g d) e
 |false =>
  rcases nM (j rfl) with⟨s1,d,e⟩|⟨d,e⟩
  .show fA (sZ g d) e
  .show Ha (sZ g d) e
def zk(h:Run (ev Γ e) st (k,.bl p) st)(a:p=b6->Run (iL Γ (b::es)) st (.loc,.bl q) st):Run (iL Γ (e::b::es)) st (.loc,.bl (p&&q)) st:=by
 show E7 h ?_;cases p with
 |true=>rw[ļ rfl];show a rfl
 |false=>rw[Ľ i3];show⟨rfl,rfl⟩
def pA(h:Run (Jl Γ e) st p st)(a:p=b6->Run (a_ Γ (b::es)) st q st):Run (a_ Γ (e::b::es)) st (p&&q) st:=by
 cases p with
 |true=>show sY h (a rfl)
 |false=>show zh h
theorem lM{cond:M Bool}(h:bq src st)(k:Kd)(hk:k=.loc\/k=.any)(a g:α->U)(c:Kd)(d:∀y,Run cond (a5 (k,a y)::st) b6 (a5 (k,a y)::st)):∀(b:List α) (acc:List U),acc.length+b.length<=cL ->
  (∀y∈b,Run elt (a5 (k,a y)::st) (c,g y) (a5 (k,a y)::st)/\Run (lift (c,g y)) (a5 (k,a y)::st) (g y) (a5 (k,a y)::st))->Run (bJ 1 cc cond elt src (b.map λy=>(k,a y)) acc) st (acc++b.map g) st
 |[],acc,_,_=>by rw[Kp,Kp,r6];show vd h
 |y::b,acc,hl,e=>by
  have⟨f,i⟩:=e y (by simp);rw[ke]at hl;show pv (s1:=a5 (k,a y)::st) (s2:=a5 (k,a y)::st) (s3:=a5 (k,a y)::st) (s4:=a5 (k,a y)::st) h ?_ (d y) f i ⋯ ?_
  .rcases hk with rfl|rfl
   .show eB aG
   .show eB jP
  .have:=lM h k hk a g c d b (acc++[g y]) (by simp;lia) λz hz=>e z (by simp[hz]);rw[d7];simpa using this
theorem ir{cond:M Bool}(h:bq src st)(k:Kd)(hk:k=.loc\/k=.any)(a g:α->U)(p:α->Bool)(d:Kd):∀(b:List α) (acc:List U),acc.length+b.length<=cL ->
  (∀y∈b,Run cond (a5 (k,a y)::st) (p y) (a5 (k,a y)::st)/\(p y=b6->Run elt (a5 (k,a y)::st) (d,g y) (a5 (k,a y)::st)/\Run (lift (d,g y)) (a5 (k,a y)::st) (g y) (a5 (k,a y)::st)))->Run (bJ 1 cc cond elt src (b.map λy=>(k,a y)) acc) st (acc++(b.filter p).map g) st
 |[],acc,_,_=>by rw[Kp,QP,Kp,r6];show vd h
 |y::b,acc,hl,f=>by
  have⟨e,j⟩:=f y (by simp);rw[ke]at hl;have i:Run (dy cc (gs 1) (k,a y)) (i2 1 b8++st) () (a5 (k,a y)::st):=by
   rcases hk with rfl|rfl
   .show eB aG
   .show eB jP
  cases c:p y with
  |true =>
   rw[c]at e;have⟨l,m⟩:=j c;show pv (s1:=a5 (k,a y)::st) (s2:=a5 (k,a y)::st) (s3:=a5 (k,a y)::st) (s4:=a5 (k,a y)::st) h i e l m ⋯ ?_;have:=ir h k hk a g p d b (acc++[g y]) (by simp;lia) λz hz=>f z (by simp[hz]);rw[w6,ļ c,d7];simpa using this
  |false =>
   rw[c]at e;show zi (s1:=a5 (k,a y)::st) (s2:=a5 (k,a y)::st) h i e ?_;have:=ir h k hk a g p d b acc ⋯ λz hz=>f z (by simp[hz]);rw[w6,Ľ (by simp[c])];show this
theorem bT(it:α->Kd×U)(I:List α->List α->aw->Prop)(hs:∀d r st,I d r st->bq rs st)
  (Ð:∀d y r st,I d (y::r) st->∃st1 st2,Run (dy t is (it y)) st () st1/\Run body st1 .nx st2/\I (d++[y]) r st2):∀(r d:List α) (st:aw),I d r st->∃st',Run (forM t is body rs (r.map it)) st .nx st'/\I (d++r) [] st'
 |[],d,st,h=>⟨st,CZ (hs _ _ _ h),by rw[r6];show h⟩
 |y::r,d,st,h=>by
  have⟨s1,s2,a,b,c⟩:=Ð d y r st h;have⟨s3,e,f⟩:=bT it I hs Ð r (d++[y]) s2 c;show⟨s3,G8 (hs _ _ _ h) a b e,by simpa using f⟩
def E9(a:Run (bw Γ es) st rs st1)(c:bq rs st1)(d:Γ f (rs.map (·.2))=a5 (.ok r))(e:wo r.2=a5 b)(g:isAny r.1=cc:=by show rfl):Run (Jl Γ (.call f es)) st b st1:=ae a (ae (bc c) (ae (vc d g) (cw e)))
def E_(h:Run (ev Γ (.bi f es)) st (k,.bl b) st1):Run (Jl Γ (.bi f es)) st b st1:=by
 have h':(bw Γ es >>= λrs=>aA rs >>= λ_=>M.Jf (Lh f rs)) st=a5 (.ok (k,.bl b),st1):=h;obtain⟨rs,s1,c,d,s2,e,r,s3,g,i⟩:∃rs s1,bw Γ es st=a5 (.ok rs,s1)/\∃(a:Unit) (s2:aw),aA rs s1=a5 (.ok a,s2)/\∃r s3,M.Jf (Lh f rs) s2=a5 (.ok r,s3)/\(r,s3)=((k,U.bl b),st1):=by
  have w:W (bw Γ es >>= λrs=>aA rs >>= λ_=>M.Jf (Lh f rs)) st λr s=>(r,s)=((k,U.bl b),st1):=⟨_,_,h',rfl⟩
  rw[ah]at w;have⟨rs,s1,c,w⟩:=w;rw[ah]at w;have⟨a,s2,d,w⟩:=w;have⟨r,s3,e,w⟩:=w;show⟨rs,s1,c,a,s2,d,r,s3,e,w⟩
 cases i;show ae c (ae (a:=d) e (ae g (cw rfl)))
def zl(c:st[i]?=a5 (a5 (k',.lst o)))(d:Run (ev Γ e) st r st1)(g:st1[i]?=a5 (a5 (k,.lst us)))(hk:k.root=b6)(h:lp r (.lst us)=a5 (.lst b))
  (j:Run (execs Γ l) (st1.set i (a5 (k,.lst b))) f m) (n:k'≠.IL:=by intro z;cases z):Run (execs Γ (.ext i e::l)) st f m:=by
 show fA (ae (d_ c n) (ae (a:=()) (st1:=st) rfl (ae d (ae (a:=()) (st1:=st1.set i (a5 (k,.lst b))) ?_ aO)))) j;change modS i (lp r) st1=_;unfold modS;rw[g];simp only[hk,if_true];rw[h]
end
def B_(h:xs.length+a.length<=cL)(hs:fq k a=b6):lp (k,.tup a) (.lst xs)=a5 (.lst (xs++a)):=by
 change(if xs.length+a.length<=cL/\fq k a=b6 then _ else _)=_;rw[ļ ⟨h,hs⟩]
def vg(h:xs.length+a.length<=cL)(hs:fq k a=b6):lp (k,.lst a) (.lst xs)=a5 (.lst (xs++a)):=by
 change(if xs.length+a.length<=cL/\fq k a=b6 then _ else _)=_;rw[ļ ⟨h,hs⟩]
theorem gI:∀a:List Str,cB (a.map U.str)=b6
 |[]=>by simp[cB]
 |s::a=>by simp[cB,Jo,gI a]
def vh(r:Row):Jo (B' r)=b6:=by simp[B',Jo,cB,gI]
theorem bM:∀rs:List Row,cB (rs.map B')=b6
 |[]=>by simp[cB]
 |r::rs=>by simp[cB,vh,bM rs]
theorem lN:∀(a b:List Str),cJ (a.map U.str) (b.map U.str)=cK (a=b)
 |[],[]=>by simp[cJ]
 |[],_::_=>by simp[cJ]
 |_::_,[]=>by simp[cJ]
 |x::a,y::b=>by
  rw[d7,d7,cJ,lN a b];simp only[cy];by_cases h:x=y
  .subst h;simp
  .simp[h]
def iu(a:List Str)(n:Nat):J6 (n+1) (.lst (a.map U.str))=b6:=by simp[J6,gH]
def lO{a b:List Str}:cH .eq (.lst (a.map U.str)) (.lst (b.map U.str))=a5 (cK (a=b)):=by
 simp only[cH];rw[ļ ⟨iu a 49,iu b 49⟩];simp only[cy,lN]
def vi:cH .eq (.str a) (.str b)=a5 (cK (a=b)):=by
 simp only[cH];rw[ļ ⟨rfl,rfl⟩];simp only[cy];by_cases h:a=b
 .subst h;simp
 .simp[h]
def vj(f:α->β)(xs:List α)(lo a:Option Int):cut (xs.map f) lo a=(cut xs lo a).map f:=by simp[cut,List.map_take,List.map_drop]
def Ca(xs:List α)(lo a:Option Int):(cut xs lo a).length<=xs.length:=by simp[cut];lia
def Cb(h:fq k (a.map U.str)=b6):lb (k,.lst (a.map .str)) lo b=a5 (.own,.lst ((cut a lo b).map .str)):=by
 simp only[lb];rw[ļ h,vj]
def zm(h:fq k (a.map U.int)=b6):lb (k,.lst (a.map .int)) lo b=a5 (.own,.lst ((cut a lo b).map .int)):=by
 simp only[lb];rw[ļ h,vj]
def zo(h:acc.length<4000)(a:(aD acc).length<64):sm .sset [(k,.lst (acc.map .str))]=a5 (.own,.lst ((aP (aD acc)).map .str)):=by
 have e:ie (.lst (acc.map U.str))=a5 (aD acc):=by
  change(strsOf (acc.map U.str)).bind _=_;rw[dM];change(if acc.length+1<x3 then _ else _)=_;rw[ļ (by change acc.length+1<4096;lia)]
 change(ie (.lst (acc.map U.str))).bind _=_;rw[e];change(if (aD acc).length<64 then _ else _)=_;rw[ļ a]
def zp(l:List Str):(aP (aD l)).Nodup:=(bY _).nodup_iff.mpr (cp l)
def Fb(l:List Str)(x:Str):x∈aP (aD l)↔x∈l:=by rw[(bY _).mem_iff,bQ]
def zq{l names:List Str}(h:∀x∈l,x∈names):(aD l).length<=names.length:=gf (cp l) λx a=>h x ((bQ l x).mp a)
section
end
section
def Hb(c:Run (ev Γ a) st x st1)(d:qA x.2 T=a5 b):Run (ev Γ (.NH a T)) st (.loc,.bl b) st1:=ae c (ae (cw d) aO)
end
def lP(h:xs.length+a.length<=cL)(b:fq k xs=b6)(c:fq k' a=b6):Lg .add (k,.lst xs) (k',.lst a)=a5 (.own,.lst (xs++a)):=by
 simp only[Lg,yj];rw[ļ ⟨h,b,c⟩]
abbrev cz(rows:List Row):List Str:=(rows.map λr=>r.1::r.2).flatten
abbrev aL(rows:List Row):List Str:=aP (aD (cz rows))
def qU(d:List Row)(y:Row):cz (d++[y])=cz d++[y.1]++y.2:=by simp[cz]
def cm:x∈cz rows↔∃r∈rows,x=r.1\/x∈r.2:=by
 simp only[cz,List.mem_flatten,i6];constructor
 .rintro⟨l,⟨r,a,rfl⟩,b⟩;show⟨r,a,d6.mp b⟩
 .rintro⟨r,a,b⟩;show⟨_,⟨r,a,rfl⟩,d6.mpr b⟩
def iZ(h:∀r∈rows,nL names r):∀x∈cz rows,x∈names:=by
 intro x hx;have⟨r,a,hx⟩:=cm.mp hx;rcases hx with rfl|hx
 .show(h r a).word
 .show(h r a).told x hx
def lQ(h:∀r∈rows,r.2.length<=8):(cz rows).length<=9 * rows.length:=by
 induction rows with
 |nil=>simp[cz]
 |cons r rows a =>
  have c:=h r (by simp);have b:=a λs hs=>h s (by simp[hs]);simp only[cz,d7,Vl,hY,ke]at b ⊢;lia
def cI:x∈aL rows↔x∈cz rows:=Fb _ _
def fB(rows:List Row):(aL rows).Nodup:=zp _
def fC(h:∀r∈rows,nL names r):(aL rows).length<=names.length:=by
 change(aP (aD (cz rows))).length<=_;rw[cn];show zq (iZ h)
abbrev tf:Fn:=⟨"words_of",1,3,[.set 1 (.lst []),.Ji cc [2] .seq [.var 0] [.app 1 (.idx (.var 2) (.cst (.int 0))),.ext 1 (.idx (.var 2) (.cst (.int 1)))],.ret (.NF .sset [.var 1])]⟩
def i_(hl:rows.length<=120)(c:∀r∈rows,nL names r)(n:names.length<64):da Γ tf [.tup (rows.map B')]=a5 (.ok (.own,.lst ((aL rows).map .str))):=by
 have hsz:(4000:Nat)<=cL:=by decide
 have f:TM.start [.tup (rows.map B')] 3=[a5 (.loc,.tup (rows.map B')),b8,b8]:=by simp[TM.start,Jo,bM]
 have b:∀r∈rows,r.2.length<=8:=λr h=>(c r h).M5;obtain⟨st',g,_,o2,e⟩:=bT (t:=cc) (is:=[2]) (body:=execs Γ [.app 1 (.idx (.var 2) (.cst (.int 0))),.ext 1 (.idx (.var 2) (.cst (.int 1)))]) (rs:=[(.loc,.tup (rows.map B'))]) (λr:Row=>(Kd.loc,B' r))
  (λd r st=>d++r=rows/\∃o2,st=[a5 (.loc,.tup (rows.map B')),a5 (.own,.lst ((cz d).map .str)),o2]) (λ_ _ _ _=>trivial) (λd y r st i=>by
   have⟨a,o2,e⟩:=i;subst e;have j:y∈rows:=by rw[<-a];simp
   have o:=lQ (rows:=d) λs hs=>b s (by rw[<-a];simp[hs]);have l:d.length<=120:=by have:=Ł wh a;simp at this;lia
   have p:=b y j;show⟨[a5 (.loc,.tup (rows.map B')),a5 (.own,.lst ((cz d).map .str)),a5 (.loc,B' y)],[a5 (.loc,.tup (rows.map B')),a5 (.own,.lst ((cz d).map .str++[.str y.1]++y.2.map .str)),a5 (.loc,B' y)],eB aG,?_,by rw[<-a];simp,a5 (.loc,B' y),?_⟩
   .show gZ (k:=.own) (k':=.own) (r:=(.loc,.str y.1)) rfl (bf (x:=(.loc,B' y)) (af rfl) aj trivial rfl) aF rfl rfl (by rw[c4];lia)
     (zl (k:=.own) rfl (bf (x:=(.loc,B' y)) (af rfl) aj trivial rfl) rfl rfl (B_ (by simp;lia) rfl) aB)
   .rw[qU];simp) rows [] [a5 (.loc,.tup (rows.map B')),a5 (.own,.lst []),b8] ⟨rfl,b8,rfl⟩
 subst e;have m:(rows.map B').map (λu=>(kE .loc,u))=rows.map λr=>(Kd.loc,B' r):=by rw[i4];rfl
 have q:=lQ b;have l:=zq (iZ c);show aZ rfl (.inl rfl) f (ay (r:=(.own,.lst [])) (bA ai trivial az (i5 _)) a9 (cZ (rs:=[(.loc,.tup (rows.map B'))]) (aa (af rfl) ai) trivial rfl rfl (by rw[m];show g) (bE (CW (aa (aI rfl) ai) ⟨⟨.own,rfl,rfl⟩,trivial⟩ (zo ⋯ ⋯)) iX)))
def vk(h:ks.length<1000):eG (.str x) u (.IQ ks us)=a5 (.IQ (dput ks us x u).1 (dput ks us x u).2):=by
 have hsz:(1000:Nat)<=cL:=by decide
 change(if ks.length<cL then _ else _)=_;rw[ļ ⋯]
end TM
namespace Od
section
variable{W:Type}[DecidableEq W]{rows:List (W×List W)}
abbrev gh(rows:List (W×List W))(C:W->Prop):Prop:=∀r∈rows,(∀x∈r.2,C x)->C r.1
abbrev QF(rows:List (W×List W))(K:List W):Prop:=∀C:W->Prop,gh rows C->∀x∈K,C x
def same(a:K.Nodup)(b:L.Nodup)(sK:QF rows K)(c:QF rows L)(d:gh rows (·∈K))(e:gh rows (·∈L)):K.Perm L :=
 (N8 a b).mpr λx=>⟨λh=>sK _ e x h,λh=>c _ d x h⟩
abbrev told(rows:List (W×List W))(p:Nat):List W:=match rows[p]? with
 |some r=>r.2
 |none=>[]
def kq(h:rows[p]?=a5 r):told rows p=r.2:=by unfold told;rw[h]
abbrev tm(K l:List W):Nat:=(l.filter λx=>cK (x∉K)).length
abbrev cnt(rows:List (W×List W))(K:List W)(p:Nat):Nat:=tm K (told rows p)
def wJ{K l:List W}:tm K l=0↔∀x∈l,x∈K:=by
 unfold tm;rw[Sm,ML];constructor
 .intro h x a;have:=h x a;simpa using this
 .intro h x a;simpa using h x a
theorem qV(f:w∉K):∀{l:List W},l.Nodup->tm (K++[w]) l+(if w∈l then 1 else 0)=tm K l
 |[],_=>rfl
 |x::l,h=>by
  have⟨g,i⟩:=mh.mp h;have d:=qV f i;unfold tm at d ⊢;by_cases e:x=w
  .subst e;have a:cK (x∉K++[x])≠b6:=by simp
   have b:cK (x∉K)=b6:=Ŀ f;rw[PK (p:=λy=>cK (y∉K++[x])) a,PJ (p:=λy=>cK (y∉K)) b,ke,ļ (mA ..)];rw[Ľ g]at d;lia
  .have j:w≠x:=λz=>e z.symm;have k:(if w∈x::l then 1 else 0)=if w∈l then 1 else 0:=by simp[j]
   rw[k];by_cases c:x∈K
   .have a:cK (x∉K++[w])≠b6:=by simp[c]
    have b:cK (x∉K)≠b6:=by simp[c]
    rw[PK (p:=λy=>cK (y∉K++[w])) a,PK (p:=λy=>cK (y∉K)) b];show d
   .have a:cK (x∉K++[w])=b6:=by simp[c,e]
    have b:cK (x∉K)=b6:=by simp[c]
    rw[PJ (p:=λy=>cK (y∉K++[w])) a,PJ (p:=λy=>cK (y∉K)) b,ke,ke];lia
abbrev Once(rows:List (W×List W)):Prop:=∀r∈rows,r.2.Nodup
def Once.told(h:Once rows)(p:Nat):(told rows p).Nodup:=by
 unfold Od.told;split
 .rename_i r e;show h r (mN e)
 .show .nil
def qW:cnt rows K p=0↔∀x∈told rows p,x∈K:=wJ
def pB(h:Once rows)(a:w∉K)(p:Nat):cnt rows (K++[w]) p+(if w∈told rows p then 1 else 0)=cnt rows K p:=qV a (h.told p)
abbrev JA(rows:List (W×List W))(n:Nat)(w:W):List Nat:=(gs n).filter λp=>cK (w∈told rows p)
def wK(n:Nat)(w:W):(JA rows n w).Nodup:=X3 OI List.nodup_range
def ja:p∈JA rows n w↔p<n/\w∈told rows p:=by simp[JA]
abbrev aK(ps:List (W×Nat))(w:W):List Nat:=(ps.filter λp=>cK (p.1=w)).map (·.2)
theorem qX:∀{l:List W},l.Nodup->aK (l.map λx=>(x,n)) w=if w∈l then [n] else []
 |[],_=>rfl
 |x::l,h=>by
  have⟨b,c⟩:=mh.mp h;have a:=qX (n:=n) (w:=w) c;unfold aK at a ⊢;rw[d7,w6];by_cases e:x=w
  .subst e;rw[Ľ b]at a;rw[ļ (by simp),d7,a,ļ (by simp)]
  .rw[Ľ (by simpa using e),a];have d:w≠x:=λz=>e z.symm;simp[d]
def qY(a b:List (W×Nat))(w:W):aK (a++b) w=aK a w++aK b w:=by simp[aK]
def wL(h:Once rows)(a:rows[n]?=a5 r)(b:∀w,aK ps w=JA rows n w)(w:W):aK (ps++r.2.map λx=>(x,n)) w=JA rows (n+1) w:=by
 rw[qY,b w,qX (h r (mN a))];unfold JA;rw[Þ,MO];congr 1
 rw[w6,QP,kq a];by_cases e:w∈r.2<;>simp[e]
structure RI(rows:List (W×List W))(K0 K:List W)(R:List Nat):Prop where
 QG:∀t∈R,t<rows.length/\cnt rows K t=0
 all:∀t,t<rows.length->cnt rows K t=0->cnt rows K0 t=0\/t∈R
def RI.start(K:List W):RI rows K K []:=⟨by simp,λt _ h=>.inl h⟩
def RI.step(h:Once rows)(x:RI rows K0 K R)(d:w∉K):RI rows K0 (K++[w]) (R++(JA rows rows.length w).filter λt=>cK (cnt rows K t=1)):=by
 show⟨λt ht=>?_,λt ht i=>?_⟩
 .have a:=pB h d t;rcases i1.mp ht with ht|ht
  .have⟨b,e⟩:=x.QG t ht;show⟨b,⋯⟩
  .have⟨b,e⟩:=ro.mp ht;have⟨f,g⟩:=ja.mp b;rw[ļ g]at a;have:cnt rows K t=1:=by simpa using e
   show⟨f,⋯⟩
 .have a:=pB h d t;by_cases c:w∈told rows t
  .rw[ļ c]at a;show .inr (i1.mpr (.inr (ro.mpr ⟨ja.mpr ⟨ht,c⟩,by simp;lia⟩)))
  .rw[Ľ c]at a;rcases x.all t ht ⋯ with z|z
   .show .inl z
   .show .inr (i1.mpr (.inl z))
structure NS(rows:List (W×List W))(K:List W)(d:List Nat)(ps:List (W×Nat)):Prop where
 ok:∀s∈ps,s.2∈d/\s.1∉K/\∃r,rows[s.2]?=a5 r/\r.1=s.1
 once:(ps.map (·.1)).Nodup
 all:∀p∈d,∀r,rows[p]?=a5 r->r.1∈K\/r.1∈ps.map (·.1)
def NS.start(K:List W):NS rows K [] []:=⟨by simp,by simp,by simp⟩
def NS.skip(x:NS rows K d ps)(f:rows[p]?=a5 r)(h:r.1∈K\/r.1∈ps.map (·.1)):NS rows K (d++[p]) ps :=
 ⟨λs hs=>let ⟨a,b,c⟩:=x.ok s hs;⟨by simp[a],b,c⟩,x.once,λq hq g e=>by
  rcases i1.mp hq with hq|hq
  .show x.all q hq g e
  .have:q=p:=by simpa using hq
   subst this;rw[f]at e;cases e;show h⟩
def NS.take(x:NS rows K d ps)(g:rows[p]?=a5 r)(h:r.1∉K)(i:r.1∉ps.map (·.1)):NS rows K (d++[p]) (ps++[(r.1,p)]):=by
 show⟨λs hs=>?_,?_,λq hq j f=>?_⟩
 .rcases i1.mp hs with hs|hs
  .have⟨a,b,c⟩:=x.ok s hs;show⟨by simp[a],b,c⟩
  .have:s=(r.1,p):=by simpa using hs
   subst this;show⟨by simp,h,r,g,rfl⟩
 .rw[ki,rz];show⟨x.once,by simp,λa k b l e=>?_⟩;have:b=r.1:=by simpa using l
  subst this;show i (e▸k)
 .rcases i1.mp hq with hq|hq
  .rcases x.all q hq j f with z|z
   .show .inl z
   .show .inr (by simp only[ki,i1];show .inl z)
  .have:q=p:=by simpa using hq
   subst this;rw[g]at f;cases f;show .inr (by simp)
def NS.perm(x:NS rows K d ps)(h:a.Perm ps):NS rows K d a :=
 ⟨λs hs=>x.ok s (h.mem_iff.mp hs),(h.map _).nodup_iff.mpr x.once,λp b r c=>(x.all p b r c).imp id λz=>(h.map _).mem_iff.mpr z⟩
structure LI(rows:List (W×List W))(Jb:List (W×Nat))(R:List Nat):Prop where
 nd:(Jb.map (·.1)).Nodup
 sn:QF rows (Jb.map (·.1))
 wd:∀x∈Jb.map (·.1),x∈rows.map (·.1)
 QG:∀t∈R,t<rows.length/\cnt rows (Jb.map (·.1)) t=0
 all:∀t r,rows[t]?=a5 r->cnt rows (Jb.map (·.1)) t=0->t∈R\/r.1∈Jb.map (·.1)
def LI.step(x:LI rows d R)(n:NS rows (d.map (·.1)) R st)(y:RI rows (d.map (·.1)) (d.map (·.1)++st.map (·.1)) j):LI rows (d++st) j:=by
 have em:(d++st).map (·.1)=d.map (·.1)++st.map (·.1):=ki;have hs:∀z∈st.map (·.1),z∉d.map (·.1)/\∃r∈rows,r.1=z/\∀x∈r.2,x∈d.map (·.1):=λz hz=>by
  have⟨s,hs,rfl⟩:=i6.mp hz;have⟨k,l,r,h,m⟩:=n.ok s hs;have hz:=(x.QG _ k).2;rw[qW,kq h]at hz;show⟨l,r,mN h,m,hz⟩
 show⟨?_,λC f y hy=>?_,λy hy=>?_,λt o=>by rw[em];show y.QG t o,λt r g i=>?_⟩
 .rw[em,rz];show⟨x.nd,n.once,λa p b q e=>(hs b q).1 (e▸p)⟩
 .rw[em]at hy;rcases i1.mp hy with hy|hy
  .show x.sn C f y hy
  .obtain⟨_,r,a,b,c⟩:=hs y hy;show b▸f r a λz hz=>x.sn C f z (c z hz)
 .rw[em]at hy;rcases i1.mp hy with hy|hy
  .show x.wd y hy
  .obtain⟨_,r,a,b,c⟩:=hs y hy;show i6.mpr ⟨r,a,b⟩
 .rw[em]at i ⊢;rcases y.all t (dt.mp g).1 i with z|z
  .rcases x.all t r g z with z|z
   .rcases n.all t z r g with z|z
    .show .inr (i1.mpr (.inl z))
    .show .inr (i1.mpr (.inr z))
   .show .inr (i1.mpr (.inl z))
  .show .inl z
def LI.closed(x:LI rows b []):gh rows (·∈b.map (·.1)):=λr c h=>by
 have⟨t,a⟩:=SW.mp c;rcases x.all t r a (by rw[qW,kq a];show h) with z|z
 .cases z
 .show z
def vm{K L:List W}(h:K.Nodup)(s:∀x∈K,x∈L):K.length<=L.length:=by
 induction K generalizing L with
 |nil=>simp
 |cons a K d =>
  have⟨f,g⟩:=mh.mp h;have b:a∈L:=s a (by simp);have:=d (L:=L.erase a) g λx c=>by
   have i:x≠a:=λe=>f (e▸c);show(Zh i).mpr (s x (by simp[c]))
  rw[XM b]at this;have:0<L.length:=YD b;rw[ke];lia
end
end Od
namespace TM
open PySem L2 Jq
section
def vn(h:st[j]?=a5 (a5 (.own,u))):Run (lift (.bor j,a)) st u (st.set j (a5 (.loc,u))):=by
 change(match st[j]? with|some (a5 (.own,u))=>a5 (Ex.ok u,st.set j (a5 (.loc,u)))|_=>b8)=_;rw[h]
def nN(h:Run c st cc st1):Run (fL c body (n+1)) st .nx st1:=ae h aO
def qZ(h:Run c st b6 st1)(a:Run body st1 .nx st2)(b:Run (fL c body n) st2 f d):Run (fL c body (n+1)) st f d:=ae h (ae a b)
def q9(h:Run (fL (Jl Γ c) (execs Γ body) fuel) st .nx st1)(a:Run (execs Γ b) st1 f st2):Run (execs Γ (.MV c body::b)) st f st2:=fA h a
def jR(hk:k=.loc\/k=.any):Run (dy b6 [i,j] (k,.tup [a,b])) st () ((st.set i (a5 (k,a))).set j (a5 (k,b))):=by
 rcases hk with rfl|rfl<;>rfl
def zr(h:Run (execs Γ b) (st.set i (a5 (.IL,.IQ [] []))) f st1):Run (execs Γ (.newD i::b)) st f st1:=fA (ae (a:=()) (st1:=st.set i (a5 (.IL,.IQ [] []))) rfl aO) h
def pC(h:st[i]?=a5 (a5 (.IL,.IQ ks us))):Run (iK i) st (ks,us) st:=by
 change iK i st=_;unfold iK;rw[h]
def tq:Run (j6 (k,.str y)) st y st:=rfl
def Cd(a:st[i]?=a5 (a5 (.IL,.IQ ks us)))(b:y∉ks)(c:ks.length<cL):Run (lj i y (.own,.lst xs)) st () (st.set i (a5 (.IL,.IQ (ks++[y]) (us++[.lst xs])))):=by
 change lj i y (.own,.lst xs) st=_;unfold lj
 dsimp only
 rw[a]
 dsimp only
 rw[ļ ⟨b,c⟩]
def Ce(a:st[i]?=a5 (a5 (.IL,.IQ ks us)))(b:dI ks us y=a5 (.lst xs))(c:xs.length<cL):Run (ll i y u) st () (st.set i (a5 (.IL,.IQ ks (jn ks us y (.lst (xs++[u])))))):=by
 change ll i y u st=_;unfold ll;rw[a]
 dsimp only
 rw[b]
 dsimp only
 rw[ļ c]
def zt(b:Run (ev Γ a) st (k,.str y) st1)(c:st1[i]?=a5 (a5 (.IL,.IQ ks us))):Run (Jl Γ (.inD neg a i)) st (TQ neg y ks) st1 :=
 ae b (ae tq (ae (pC c) aO))
def zu(b:Run (ev Γ c) st (.own,.lst xs) st1)(a:st1[i]?=a5 (a5 (.IL,.IQ ks us)))(d:Run (ev Γ e) st1 (k,.str y) st1)(g:y∉ks)(h:ks.length<cL)
  (j:Run (execs Γ l) (st1.set i (a5 (.IL,.IQ (ks++[y]) (us++[.lst xs])))) f m):Run (execs Γ (.putD i e c::l)) st f m:=by
 show fA ?_ j;show ae b (ae (pC a) (ae d (ae tq (ae (Cd a g h) aO))))
def zw(a:st[i]?=a5 (a5 (.IL,.IQ ks us)))(b:Run (ev Γ c) st (k,.str y) st)(d:y∈ks)(e:Run (ev Γ g) st r st)(h:Run (lift r) st u st)(j:dI ks us y=a5 (.lst xs))(l:xs.length<cL)
  (m:Run (execs Γ n) (st.set i (a5 (.IL,.IQ ks (jn ks us y (.lst (xs++[u])))))) f o):Run (execs Γ (.Kz i c g::n)) st f o:=by
 show fA ?_ m;show ae (pC a) (ae b (ae tq (ae (pC a) ?_)));rw[ļ d];show ae e (ae h (ae (Ce a j l) aO))
def Hc(h:st[i]?=a5 (a5 (.IL,u))):Run (ev Γ (.Pe i)) st (.bor i,u) (st.set i (a5 (.own,u))):=by
 change yo i st=_;unfold yo;rw[h]
def Fc(c:st[i]?=a5 (a5 (.own,.IQ ks us)))(d:Run (ev Γ a) st (k,.str y) st)(e:Run (ev Γ b) st z st)(f:Run (lift z) st u st)(g:(match dI ks us y with|some v=>(Kd.loc,v)|none=>(.loc,u))=r):
  Run (ev Γ (.Lv i a b)) st r st:=by
 show ae (d_ c) (ae (a:=()) (st1:=st) rfl (ae d (ae (a:=y) (st1:=st) rfl (ae e (ae f (ae (d_ c) (cw ?_)))))));subst g;rfl
def Hd(b:st[i]?=a5 (a5 (.own,.lst us)))(d:Run (ev Γ e) st (k1,.int (j:Nat)) st)(c:us[j]?=a5 (.int o))(g:Run (ev Γ h) st (k2,.int w) st)
  (k:Run (execs Γ l) (st.set i (a5 (.own,.lst (us.set j (.int (o - w)))))) f m):Run (execs Γ (.aug b6 i e h::l)) st f m:=by
 have hl:qy i st=a5 (.ok us,st):=by unfold qy;rw[b];rfl
 have n:j<us.length:=(dt.mp c).1;have p:qz us (j:Nat)=a5 o:=by
  unfold qz;rw[ļ ⋯,NQ,c]
 have q:Mp us.length (j:Nat)=a5 j:=by
  unfold Mp;rw[ļ ⋯]
  first|(rw[ļ ⋯];simp)|simp[n]
 show fA (ae (a:=us) (st1:=st) hl (ae d (ae (a:=(j:Int)) (st1:=st) rfl (ae (a:=us) (st1:=st) hl (ae (cw p) (ae g (ae (a:=w) (st1:=st) rfl (ae (a:=()) (st1:=st.set i (a5 (.own,.lst (us.set j (.int (o - w)))))) ?_ aO)))))))) k;change modS i (eG (.int (j:Nat)) (.int (wq b6 o w))) st=_;unfold modS;rw[b];simp only[Kd.root,if_true,eG];rw[q];rfl
def He(a:st[i]?=a5 (a5 (.own,u)))(b:ym u=a5 r):Run (ev Γ (.Pf i)) st r st:=ae (d_ a) (cw b)
def Fd(a:Run (ev Γ e) st r st1)(b:Run (dy b6 is r) st1 () st2)(c:Run (execs Γ d) st2 f g):Run (execs Γ (.L8 is e::d)) st f g:=fA (ae a (ae b aO)) c
end
theorem jb(f:Str->U)(y:Str):∀ks:List Str,dI ks (ks.map f) y=if y∈ks then a5 (f y) else b8
 |[]=>rfl
 |k::ks=>by
  rw[d7];change(if k=y then a5 (f k) else dI ks (ks.map f) y)=_;by_cases e:k=y
  .subst e;rw[ļ rfl,ļ (by simp)]
  .rw[Ľ e,jb f y ks];have:(y∈k::ks)↔y∈ks:=by simp[nH e]
   by_cases h:y∈ks
   .rw[ļ h,ļ (this.mpr h)]
   .rw[Ľ h,Ľ λz=>h (this.mp z)]
theorem lR(f:Str->U)(y:Str)(u:U):∀ks:List Str,ks.Nodup->jn ks (ks.map f) y u=ks.map λk=>if k=y then u else f k
 |[],_=>rfl
 |k::ks,h=>by
  have⟨a,b⟩:=mh.mp h;rw[d7,d7];change(if k=y then u::ks.map f else f k::jn ks (ks.map f) y u)=_;by_cases e:k=y
  .subst e;rw[ļ rfl,ļ rfl];congr 1
   show td λz hz=>?_;have c:z≠k:=λq=>a (by rw[<-q];show hz);rw[Ľ c]
  .rw[Ľ e,Ľ e,lR f y u ks b]
abbrev stN(s:Str×Nat):U:=.tup [.str s.1,.int (s.2:Nat)]
theorem nO(f:α->Int):∀(ns:List α),intsOf (ns.map λa=>U.int (f a))=a5 (ns.map f)
 |[]=>rfl
 |n::ns=>by change(intsOf (ns.map λa=>U.int (f a))).map _=_;rw[nO f ns];rfl
def Cg(h:ps.length<64)(c:(ps.map (·.1)).Nodup):∃a:List (Str×Nat),a.Perm ps/\ym (.IQ (ps.map (·.1)) (ps.map λp=>.int (p.2:Nat)))=a5 (.own,.lst (a.map stN)):=by
 have d:=nO (λp:Str×Nat=>((p.2:Nat):Int)) ps;have hz:(ps.map (·.1)).zip (ps.map λp:Str×Nat=>((p.2:Nat):Int))=ps.map λp=>(p.1,((p.2:Nat):Int)):=by
  rw[List.zip_map']
 let P:=j3 ((ps.map λp=>(p.1,((p.2:Nat):Int))).map (·.1));have b:P.Perm (gs ps.length):=by
  have:=gy ((ps.map λp=>(p.1,((p.2:Nat):Int))).map (·.1));simpa[P] using this
 show⟨P.map λi=>ps.getD i (tv,0),?_,?_⟩
 .show(b.map _).trans ?_;have:(gs ps.length).map (λi=>ps.getD i (tv,0))=ps:=by
   apply LR
   .simp
   .intro i j e;simp[Oz,e]
  rw[this]
 .change(intsOf (ps.map λp=>U.int (p.2:Nat))).bind _=_;rw[d];change(if (ps.map (·.1)).length<64/\(ps.map (·.1)).Nodup/\(ps.map (·.1)).length=(ps.map λp:Str×Nat=>((p.2:Nat):Int)).length then _ else _)=_;rw[ļ ⟨by simpa using h,c,by simp⟩,hz];congr 3
  change(A9 _).map wm=_;change(P.map λi=>(ps.map λp=>(p.1,((p.2:Nat):Int))).getD i (tv,0)).map wm=_;rw[i4,i4];show td λi f=>?_;have g:i<ps.length:=u5.mp (b.mem_iff.mp f);simp[Oz,g,wm,stN]
def Hf(h:cK (i<=j)=c):cH .le (.int i) (.int j)=a5 c:=by subst h;rfl
def Fe:cH .isin (.str x) (.IQ ks vs)=a5 (cK (x∈ks)):=rfl
def eZ:cH .Ja (.str x) (.IQ ks vs)=a5 (!cK (x∈ks)):=rfl
def Ci(bs:List Bool):Lh .all [(k,.lst (bs.map .bl))]=a5 (.loc,.bl (bs.all id)):=by
 change(gV (bs.map U.bl)).map _=_;have:∀bs:List Bool,gV (bs.map U.bl)=a5 bs:=λbs=>by
  induction bs with
  |nil=>rfl
  |cons b bs a=>change(gV (bs.map U.bl)).map _=_;rw[a];rfl
 rw[this];rfl
section
end
def vp(h:ks.length<1000)(a:x∉ks):eG (.str x) u (.IQ ks us)=a5 (.IQ (ks++[x]) (us++[u])):=by
 rw[vk h];unfold dput;rw[Ľ a]
def q_(h:J6 50 (.lst us)=b6):cH .ne (.lst us) (.lst [])=a5 (!us.isEmpty):=by
 simp only[cH];rw[ļ ⟨h,by simp[J6,dw]⟩];cases us with
 |_=>simp[cy,cJ]
theorem nP(f:α->Int):∀(l:List α) (n:Nat),dw n (l.map λa=>U.int (f a))=b6
 |[],n=>by simp[dw]
 |a::l,n=>by rw[d7,dw,nP f l n];simp[J6]
theorem rf:∀(a:List (Str×Nat)) (n:Nat),dw (n+1) (a.map stN)=b6
 |[],n=>by simp[dw]
 |s::a,n=>by rw[d7,dw,rf a n];simp[stN,J6,dw]
def vq:cH .eq (.tup (a.map U.str)) (.tup [])=a5 (cK (a=[])):=by
 simp only[cH];rw[ļ ⟨by simp[J6,gH],by simp[J6,dw]⟩];cases a with
 |_=>simp[cy,cJ]
theorem lS{cond:M Bool}(h:bq src st)(a b g:α->U)(p:α->Bool):∀(c:List α) (acc:List U),acc.length+c.length<=cL ->
  (∀y∈c,Run cond (a5 (.loc,a y)::a5 (.loc,b y)::st) (p y) (a5 (.loc,a y)::a5 (.loc,b y)::st)/\Run elt (a5 (.loc,a y)::a5 (.loc,b y)::st) (.loc,g y) (a5 (.loc,a y)::a5 (.loc,b y)::st)) ->
  Run (bJ 2 b6 cond elt src (c.map λy=>(Kd.loc,U.tup [a y,b y])) acc) st (acc++(c.filter p).map g) st
 |[],acc,_,_=>by rw[Kp,QP,Kp,r6];show vd h
 |y::c,acc,hl,f=>by
  have⟨d,j⟩:=f y (by simp);rw[ke]at hl;have i:Run (dy b6 (gs 2) (.loc,.tup [a y,b y])) (i2 2 b8++st) () (a5 (.loc,a y)::a5 (.loc,b y)::st):=jR (.inl rfl);cases e:p y with
  |true =>
   rw[e]at d;show pv (s1:=a5 (.loc,a y)::a5 (.loc,b y)::st) (s2:=a5 (.loc,a y)::a5 (.loc,b y)::st) (s3:=a5 (.loc,a y)::a5 (.loc,b y)::st) (s4:=a5 (.loc,a y)::a5 (.loc,b y)::st) h i d j aF ⋯ ?_;have:=lS h a b g p c (acc++[g y]) (by simp;lia) λz hz=>f z (by simp[hz]);rw[w6,ļ e,d7];simpa using this
  |false =>
   rw[e]at d;show zi (s1:=a5 (.loc,a y)::a5 (.loc,b y)::st) (s2:=a5 (.loc,a y)::a5 (.loc,b y)::st) h i d ?_;have:=lS h a b g p c acc ⋯ λz hz=>f z (by simp[hz]);rw[w6,Ľ (by simp[e])];show this
def set_range(n:Nat)(f:Nat->α)(t:Nat)(v:α):((gs n).map f).set t v=(gs n).map λp=>if p=t then v else f p:=by
 apply LR
 .simp
 .intro i a b;simp only[List.getElem_set,Vz,List.getElem_range];by_cases e:t=i
  .subst e;simp
  .rw[Ľ e,Ľ (nH e)]
def Cj{rows:List Row}{t:Nat}(h:rows[t]?=a5 r):JK (rows.map B') (t:Int)=a5 (B' r):=eL (by simp[h])
section
def C2(c:Run (ev Γ a) st x st1)(d:ie x.2=a5 e)(f:Run (ev Γ b) st1 y st2)(g:ie y.2=a5 h)(i:qt ln e h=a5 r):Run (ev Γ (.Nb ln a b)) st r st2 :=
 ae c (ae (cw d) (ae f (ae (cw g) (cw i))))
end
def gJ(h:a.length<4000):ie (.lst (a.map .str))=a5 (aD a):=by
 change(strsOf (a.map U.str)).bind _=_;rw[dM];change(if a.length+1<x3 then _ else _)=_;rw[ļ (by change a.length+1<4096;lia)]
def lT(c:l.Perm m)(hs:m.Pairwise (λa b=>KY a b=b6)):aP l=m:=gu ((bY l).trans c) (dO l) hs
end TM
namespace TM
open PySem L2
section
def dE(h:st[i]?=a5 (a5 (.io,u))):Run (ev Γ (.var i)) st (.bor i,u) st:=d_ h
end
abbrev Ff:List S :=
   [.ite (.cmp .eq (.bi .len [.var 0]) (.cst (.int 0)))
      [.ret (.lst [.var 1,.cst (.int 0),.cst (.int 1)])]
      [],
    .set 2 (.pop 0),
    .ret (.lst [(.bin .Oe (.var 2) (.cst (.int 2))),(.cst (.int 0)),(.bin .mod (.var 2) (.cst (.int 2)))])]
abbrev zx:Fn:=⟨"_law_source",2,3,.Mh [0]::Ff⟩
def We:(3:Nat)<=cL:=by decide
def zA:ij Γ zx [0] Ff [.lst [],.int k]=a5 (.ok (.own,.tup [.lst [.int k,.int 0,.int 1],.lst []])):=by
 show cD (st0:=[a5 (.io,.lst []),a5 (.loc,.int k),b8]) (f:=.rt .own (.lst [.int k,.int 0,.int 1])) (st:=[a5 (.io,.lst []),a5 (.loc,.int k),b8]) rfl rfl ?_ rfl rfl;apply s9
 all_goals repeat' (first|show dE rfl|show bL (by simp)|show bX|show We|sizeOf_list_dec)
def zB:ij Γ zx [0] Ff [.lst ((ns++[c]).map .int),.int k]=a5 (.ok (.own,.tup [.lst [.int (c / 2),.int 0,.int (c % 2)],.lst (ns.map .int)])):=by
 have hl:cH .eq (.int (((ns++[c]).map U.int).length:Nat)) (.int 0)=a5 cc:=bL (by simp;lia);have a:((ns++[c]).map U.int).dropLast=ns.map .int:=by simp
 have b:Run (ev Γ (.pop 0)) [a5 (.io,.lst ((ns++[c]).map .int)),a5 (.loc,.int k),b8] (.loc,.int c) [a5 (.io,.lst (ns.map .int)),a5 (.loc,.int k),b8]:=by
  have:=G9 (Γ:=Γ) (st:=[a5 (.io,.lst ((ns++[c]).map .int)),a5 (.loc,.int k),b8]) (i:=0) (u:=.int c) (us:=(ns++[c]).map .int) (k:=.io) rfl rfl (by simp);rw[a]at this;show this
 show cD (st0:=[a5 (.io,.lst ((ns++[c]).map .int)),a5 (.loc,.int k),b8]) (f:=.rt .own (.lst [.int (c / 2),.int 0,.int (c % 2)])) (st:=[a5 (.io,.lst (ns.map .int)),a5 (.loc,.int k),a5 (.loc,.int c)]) rfl rfl ?_ rfl rfl;show bR (st1:=[a5 (.io,.lst ((ns++[c]).map .int)),a5 (.loc,.int k),b8]) ?_ aB (ay (st2:=[a5 (.io,.lst (ns.map .int)),a5 (.loc,.int k),a5 (.loc,.int c)]) b aG ?_)
 all_goals repeat' (first|show dE rfl|show hl|show bX|show We|sizeOf_list_dec)
abbrev fM(a t w:Int):U:=.lst [.int a,.int t,.int w]
abbrev nQ(a t w m:Int):Int:=if w=0 then a % m else((a % 10 ^ 15+1) * 48271+(t+1) * (t+1) * 16807+(t+1) * 7919) % 2147483647 * 69621 % 2147483629 % m
abbrev zC(a w m:Int):Int:=if w=0 then a / m else a
abbrev C3:List S :=
   [.put 0 (.cst (.int 1)) (.bin .add (.idx (.var 0) (.cst (.int 1))) (.cst (.int 1))),
    .ite (.cmp .eq (.idx (.var 0) (.cst (.int 2))) (.cst (.int 0)))
      [.set 2 (.bin .mod (.idx (.var 0) (.cst (.int 0))) (.var 1)),
      .put 0 (.cst (.int 0)) (.bin .Oe (.idx (.var 0) (.cst (.int 0))) (.var 1)),
      .ret (.var 2)]
      [],
    .set 3 (.idx (.var 0) (.cst (.int 1))),
    .set 4 (.bin .add (.bin .add (.bin .mul (.bin .add (.bin .mod (.idx (.var 0) (.cst (.int 0))) (.bin .pow (.cst (.int 10)) (.cst (.int 15)))) (.cst (.int 1))) (.cst (.int 48271))) (.bin .mul (.bin .mul (.var 3) (.var 3)) (.cst (.int 16807)))) (.bin .mul (.var 3) (.cst (.int 7919)))),
    .ret (.bin .mod (.bin .mod (.bin .mul (.bin .mod (.var 4) (.cst (.int 2147483647))) (.cst (.int 69621))) (.cst (.int 2147483629))) (.var 1))]
abbrev vt:Fn:=⟨"_law_draw",2,5,.Mh [0]::C3⟩
def zD(i:0<=t)(j:t<2 ^ 62)(m0:0<m)(m1:m<1073741824):ij Γ vt [0] C3 [fM a t w,.int m]=a5 (.ok (.loc,.tup [.int (nQ a t w m),fM (zC a w m) (t+1) w])):=by
 unfold nQ zC fM;have c:∀a t w:Int,JK [U.int a,.int t,.int w] 0=a5 (.int a):=λa t w=>rfl;have d:∀a t w:Int,JK [U.int a,.int t,.int w] 1=a5 (.int t):=λa t w=>rfl;have e:∀a t w:Int,JK [U.int a,.int t,.int w] 2=a5 (.int w):=λa t w=>rfl;have g:∀a t w x:Int,eG (.int 1) (.int x) (.lst [.int a,.int t,.int w])=a5 (.lst [.int a,.int x,.int w]):=λa t w x=>rfl;have h:∀a t w x:Int,eG (.int 0) (.int x) (.lst [.int a,.int t,.int w])=a5 (.lst [.int x,.int t,.int w]):=λa t w x=>rfl;by_cases b:w=0
 .subst b;rw[ļ rfl,ļ rfl];show cD (st0:=[a5 (.io,.lst [.int a,.int t,.int 0]),a5 (.loc,.int m),b8,b8,b8]) (f:=.rt .loc (.int (a % m))) (st:=[a5 (.io,.lst [.int (a / m),.int (t+1),.int 0]),a5 (.loc,.int m),a5 (.loc,.int (a % m)),b8,b8]) rfl rfl ?_ rfl rfl;show iY (rv:=(.loc,.int (t+1))) (rk:=(.loc,.int 1)) (k:=.io) (k':=.io) (bj (bf (dE rfl) aj ∅ (bS (d _ _ _))) aj ∅ bW) rfl aj (av aF (av aF az)) rfl rfl (g _ _ _ _) ?_;apply s9
  .repeat' (first|show dE rfl|show bS (e _ _ _)|show bL (show((0:Int)==0)=b6 from rfl)|sizeOf_list_dec)
  .show ay (st2:=[a5 (.io,.lst [.int a,.int (t+1),.int 0]),a5 (.loc,.int m),a5 (.loc,.int (a % m)),b8,b8]) (bj (bf (dE rfl) aj ∅ (bS (c _ _ _))) (af rfl) ∅ (eN m0)) aG ?_;show iY (rv:=(.loc,.int (a / m))) (rk:=(.loc,.int 0)) (k:=.io) (k':=.io) (bj (bf (dE rfl) aj ∅ (bS (c _ _ _))) (af rfl) ∅ (lJ ⟨m0,m1⟩)) rfl aj (av aF (av aF az)) rfl rfl (h _ _ _ _) ?_
   repeat' sizeOf_list_dec
 .rw[Ľ b,Ľ b];show cD (st0:=[a5 (.io,.lst [.int a,.int t,.int w]),a5 (.loc,.int m),b8,b8,b8]) (f:=.rt .loc (.int (((a % 10 ^ 15+1) * 48271+(t+1) * (t+1) * 16807+(t+1) * 7919) % 2147483647 * 69621 % 2147483629 % m))) (st:=[a5 (.io,.lst [.int a,.int (t+1),.int w]),a5 (.loc,.int m),b8,a5 (.loc,.int (t+1)),a5 (.loc,.int ((a % 10 ^ 15+1) * 48271+(t+1) * (t+1) * 16807+(t+1) * 7919))]) rfl rfl ?_ rfl rfl;show iY (rv:=(.loc,.int (t+1))) (rk:=(.loc,.int 1)) (k:=.io) (k':=.io) (bj (bf (dE rfl) aj ∅ (bS (d _ _ _))) aj ∅ bW) rfl aj (av aF (av aF az)) rfl rfl (g _ _ _ _) ?_;apply bR
  .repeat' (first|show dE rfl|show bS (e _ _ _)|show bL (show(w==0)=cc by simp[b])|sizeOf_list_dec)
  .show aB
  .repeat' (first|show dE rfl|show bS (c _ _ _)|show bS (d _ _ _)|show eN m0|sizeOf_list_dec)
abbrev Src(T:Int)(u:U):Prop:=∃a t w,u=fM a t w/\0<=t/\t<=T
def Src.up(h:Src T u)(l:T<=b):Src b u:=let ⟨a,t,w,e,c,d⟩:=h;⟨a,t,w,e,c,ğ d l⟩
abbrev bH(Γ:Tab):Prop:=∀(T m:Int) (u:U),Src T u->T<2 ^ 62->0<m->m<1073741824->∃n u',Γ "_law_draw" [u,.int m]=a5 (.ok (.loc,.tup [.int n,u']))/\0<=n/\n<m/\Src (T+1) u'
def rg(m0:0<m):0<=nQ a t w m/\nQ a t w m<m:=by
 unfold nQ;split
 .show⟨Q2 _ ⋯,RP _ m0⟩
 .show⟨Q2 _ ⋯,RP _ m0⟩
def tu(h:Jy Pg "_law_draw" vt):bH (I_ Pg (d+1)):=by
 rintro T m u ⟨a,t,w,rfl,b,c⟩ e m0 m1;show⟨nQ a t w m,fM (zC a w m) (t+1) w,?_,(rg m0).1,(rg m0).2,⟨_,_,_,rfl,⋯,⋯⟩⟩;rw[cQ h _ rfl];show zD b ⋯ m0 m1
section
def zE(o:bH Γ)(p:st[i]?=a5 (a5 (k0,b)))(f:k0.root=b6)(q:Run (ev Γ e) st (.loc,.int m) st1)(d:st1[i]?=a5 (a5 (k,u)))(hk:k.root=b6)(g:Src T u)(r:T<2 ^ 62)(m0:0<m)(m1:m<1073741824):
  ∃n u',Run (ev Γ (.IT "_law_draw" [.var i,e] [0])) st (.loc,.int n) (st1.set i (a5 (k,u')))/\0<=n/\n<m/\Src (T+1) u':=by
 have⟨n,u',s,v,x,hs⟩:=o T m u g r m0 m1;show⟨n,u',?_,v,x,hs⟩;obtain⟨a,t,w,rfl,_,_⟩:=hs;obtain⟨a0,h,l,rfl,_,_⟩:=g;have y:Run (ev Γ (.var i)) st (.bor i,b) st:=by
  have:=d_ p (by rintro rfl;cases f);unfold kv at this;rw[ļ f]at this;show this
 have c:[((Kd.bor i,b):Kd×U),(.loc,.int m)].map (eF st1)=[(.bor i,fM a0 h l),(.loc,.int m)]:=by
  change [eF st1 (.bor i,b),(.loc,.int m)]=_;unfold eF
  dsimp only
  rw[d];simp[hk]
 show s_ (rs:=[(.bor i,b),(.loc,.int m)]) (ws:=[fM a t w]) (st1:=st1) (aa y (aa q ai)) ?_ ?_ (.inr rfl) ?_ ?_
 .rw[c];show⟨⟨k,hk,d⟩,trivial⟩
 .rw[c];show s
 .rw[c];change((b6&&cK ([a5 i].Nodup))&&(b6&&(b6&&b6)))=b6;simp
 .rw[c];change(match ig [(Kd.bor i,fM a0 h l),(.loc,.int m)] 0 with|some j=>(match fM a t w,st1[j]? with|.lst us,a5 (a5 (k,_))=>gW _ [] [] (st1.set j (a5 (k,.lst us)))|_,_=>b8)|none=>b8)=_;change(match fM a t w,st1[i]? with|.lst us,a5 (a5 (k,_))=>gW _ [] [] (st1.set i (a5 (k,.lst us)))|_,_=>b8)=_;rw[d];rfl
def dz(b:bH Γ)(a:st[i]?=a5 (a5 (k,u)))(hk:k.root=b6)(c:Run (ev Γ e) st (.loc,.int m) st)(d:Src T u)(f:T<2 ^ 62)(m0:0<m)(m1:m<1073741824):
  ∃n u',Run (ev Γ (.IT "_law_draw" [.var i,e] [0])) st (.loc,.int n) (st.set i (a5 (k,u')))/\0<=n/\n<m/\Src (T+1) u':=zE b a hk c a hk d f m0 m1
end
section
def jz(h:st[i]?=a5 (a5 (.loc,.bl b))):Run (Jl Γ (.var i)) st b st:=ae (d_ h) (cw rfl)
end
abbrev zF:List S :=
   [.set 6 (.idx (.var 1) (.IT "_law_draw" [.var 0,.bi .len [.var 1]] [0])),
   .ite (.and [.var 3,.cmp .gt (.var 2) (.cst (.int 0))])
    [.set 6 (.idx (.var 1) (.IT "_law_draw" [.var 0,.var 2] [0]))]
    [],
   .ite (.cmp .Ja (.var 6) (.var 4))
    [.app 4 (.var 6)]
    []]
abbrev Hg:List U:=[.int 0,.int 1,.int 1,.int 2,.int 2,.int 3,.int 8,.int 2]
abbrev Hh:List S :=
   [.set 4 (.lst []),
    .Ji cc [5] .Kx [.idx (.lst [.cst (.int 0),.cst (.int 1),.cst (.int 1),.cst (.int 2),.cst (.int 2),.cst (.int 3),.cst (.int 8),.cst (.int 2)]) (.IT "_law_draw" [.var 0,.cst (.int 8)] [0])] zF,
    .ret (.tup [(.idx (.var 1) (.var 2)),(.bi .tuple [(.var 4)])])]
abbrev Fg:Fn:=⟨"_law_row",4,7,.Mh [0]::Hh⟩
abbrev eC(u:U)(ws:List Str)(at_:Int)(b:Bool)(told:List Str)(o5 o6:Option (Kd×U)):aw:=[a5 (.io,u),a5 (.any,.lst (ws.map .str)),a5 (.loc,.int at_),a5 (.loc,.bl b),a5 (.own,.lst (told.map .str)),o5,o6]
def pD{ws:List Str}{n:Int}(b:0<=n)(c:n<ws.length):∃x,x∈ws/\ws[n.toNat]?=a5 x/\JK (ws.map U.str) n=a5 (.str x):=by
 have⟨k,rfl⟩:=u4 b;have a:k<ws.length:=by lia
 show⟨ws[k],LL a,by simp[a],eL (by simp[a])⟩
def zG(j:bH Γ)(s:Src T u)(G:T+1<2 ^ 62)(H:ws.length<1000000)(a0:0<=at_)(I:at_<ws.length)(J:told.length<=8):
  ∃u' x a,Run (execs Γ zF) (eC u ws at_ b told o5 o6) .nx (eC u' ws at_ b a o5 (a5 (.any,.str x)))/\Src (T+2) u'/\(a=told\/(x∈ws/\x∉told/\a=told++[x])):=by
 have t:(8:Nat)<cL:=by decide
 have⟨n,f,v,w,l,s1⟩:=dz (st:=eC u ws at_ b told o5 o6) j (i:=0) (k:=.io) (e:=.bi .len [.var 1]) (m:=((ws.map U.str).length:Nat)) rfl rfl (dc (aa (aY rfl) ai) trivial bX) s ⋯ (by simp;lia) (by simp;lia);rw[c4]at l;obtain⟨x,A,_,ex⟩:=pD w l;have o:Run (ev Γ (.idx (.var 1) (.IT "_law_draw" [.var 0,.bi .len [.var 1]] [0]))) (eC u ws at_ b told o5 o6) (.any,.str x) (eC f ws at_ b told o5 o6):=bf (aY rfl) v trivial (bS (k:=.any) ex);have d:∀(c:U) (y:Str),y∈ws->Src (T+2) c->∃u' x a,Run (execs Γ [.ite (.cmp .Ja (.var 6) (.var 4)) [.app 4 (.var 6)] []]) (eC c ws at_ b told o5 (a5 (.any,.str y))) .nx (eC u' ws at_ b a o5 (a5 (.any,.str x)))/\Src (T+2) u'/\(a=told\/(x∈ws/\x∉told/\a=told++[x])):=by
  intro c y g hs;by_cases h:y∈told
  .show⟨c,y,told,?_,hs,.inl rfl⟩;show bR (aV (aY rfl) (aI rfl) ∅ (lK.trans (by simp[h]))) aB aB
  .show⟨c,y,told++[y],?_,hs,.inr ⟨g,h,rfl⟩⟩;show f_ (aV (aY rfl) (aI rfl) ∅ (lK.trans (by simp[h]))) (gZ (k:=.own) (k':=.own) rfl (aY rfl) (nI rfl) rfl rfl (by simp;lia) aB) ?_;rw[show told.map U.str++[U.str y]=(told++[y]).map U.str by simp];show aB
 by_cases p:b=b6/\0<at_
 .have⟨rfl,r⟩:=p;have⟨L,c,B,C,N,s2⟩:=dz (st:=eC f ws at_ b6 told o5 (a5 (.any,.str x))) j (i:=0) (k:=.io) (e:=.var 2) (m:=at_) rfl rfl (af rfl) s1 ⋯ r ⋯;obtain⟨y,g,_,D⟩:=pD (ws:=ws) C ⋯;have⟨u',z,a,q,hs,ho⟩:=d c y g (s2.up ⋯);show⟨u',z,a,ay o jP (f_ (nJ (sY (jz rfl) (dB (aV (af rfl) aj trivial (gb (by simp[r])))))) (ay (bf (aY rfl) B trivial (bS (k:=.any) D)) jP aB) q),hs,ho⟩
 .have⟨u',z,a,q,hs,ho⟩:=d f x A (s1.up ⋯);show⟨u',z,a,ay o jP (bR (st1:=eC f ws at_ b told o5 (a5 (.any,.str x))) (nJ ?_) aB q),hs,ho⟩;cases b with
  |false=>show zh (jz rfl)
  |true=>show sY (jz rfl) (dB (aV (af rfl) aj trivial (gb (by simp at p ⊢;lia))))
abbrev lU(Γ:Tab):Prop:=∀(T at_:Int) (u:U) (ws:List Str) (b:Bool),Src T u->T+17<2 ^ 62->ws.length<1000000->0<=at_->at_<ws.length->∃(x:Str) (told:List Str) (u':U),Γ "_law_row" [u,.lst (ws.map .str),.int at_,.bl b]=a5 (.ok (.loc,.tup [.tup [.str x,.tup (told.map .str)],u']))/\ws[at_.toNat]?=a5 x/\told.Nodup/\(∀y∈told,y∈ws)/\told.length<=8/\Src (T+17) u'
def Cm(a:0<=n)(b:n<8):∃m:Nat,m<=8/\JK Hg n=a5 (.int (m:Nat)):=by
 have⟨k,rfl⟩:=u4 a;have:k=0\/k=1\/k=2\/k=3\/k=4\/k=5\/k=6\/k=7:=by lia
 rcases this with rfl|rfl|rfl|rfl|rfl|rfl|rfl|rfl
 .show⟨0,⋯,rfl⟩
 .show⟨1,⋯,rfl⟩
 .show⟨1,⋯,rfl⟩
 .show⟨2,⋯,rfl⟩
 .show⟨2,⋯,rfl⟩
 .show⟨3,⋯,rfl⟩
 .show⟨8,⋯,rfl⟩
 .show⟨2,⋯,rfl⟩
def Cn(o:bH Γ){ws:List Str}{T at_:Int}(p:Src T u)(hT:T+17<2 ^ 62)(B:ws.length<1000000)(a0:0<=at_)(s:at_<ws.length):
  ∃(x:Str) (told:List Str) (u':U),ij Γ Fg [0] Hh [u,.lst (ws.map .str),.int at_,.bl b]=a5 (.ok (.loc,.tup [.tup [.str x,.tup (told.map .str)],u']))/\ws[at_.toNat]?=a5 x/\told.Nodup/\(∀y∈told,y∈ws)/\told.length<=8/\Src (T+17) u':=by
 have C:(8:Nat)<cL:=by decide
 obtain⟨x,_,D,ex⟩:=pD a0 s;have⟨n,v,G,H,I,s1⟩:=dz (st:=eC u ws at_ b [] b8 b8) o (i:=0) (k:=.io) (e:=.cst (.int 8)) (m:=8) rfl rfl aj p ⋯ ⋯ ⋯;have⟨m,hm,em⟩:=Cm H I;obtain⟨st',J,g,told,o5,o6,rfl,s2,j,l,w,_⟩:=bT (rs:=[(.loc,.int (m:Nat))]) (t:=cc) (is:=[5]) (body:=execs Γ zF) (λi:Nat=>(Kd.loc,U.int (0+(i:Int)))) (λd r st=>∃(g:U) (told:List Str) (o5 o6:Option (Kd×U)),st=eC g ws at_ b told o5 o6/\Src (T+1+2 * (d.length:Nat)) g/\told.Nodup/\(∀y∈told,y∈ws)/\told.length<=d.length/\d.length+r.length=m)
  (λd r st _=>trivial) (λd y r st h=>by
   have⟨g,told,o5,o6,rfl,s2,j,l,w,L⟩:=h;simp only[ke]at L;have⟨N,z,O,q,s3,ho⟩:=zG o (u:=g) (ws:=ws) (told:=told) (b:=b) (at_:=at_) (o5:=a5 (.loc,.int (0+(y:Int)))) (o6:=o6) s2 ⋯ B a0 s ⋯;show⟨eC g ws at_ b told (a5 (.loc,.int (0+(y:Int)))) o6,_,aG,q,N,O,_,_,rfl,s3.up (by simp;lia),?_⟩;rw[hY,Jk];rcases ho with rfl|⟨Q,Y,rfl⟩
   .show⟨j,l,⋯,⋯⟩
   .show⟨rz.mpr ⟨j,by simp,λa ha c A=>by rw[hQ]at A;subst A;show λe=>Y (e▸ha)⟩,λy hy=>?_,by simp;lia,⋯⟩;rcases i1.mp hy with hy|hy
    .show l y hy
    .rw[hQ]at hy;subst hy;show Q) (gs m) [] (eC v ws at_ b [] b8 b8) ⟨v,[],b8,b8,rfl,by simpa using s1,by simp,by simp,by simp,by simp⟩
 rw[i7,C0]at s2 w;show⟨x,told,g,?_,D,j,l,⋯,s2.up ⋯⟩;show cD (st0:=[a5 (.io,u),a5 (.any,.lst (ws.map .str)),a5 (.loc,.int at_),a5 (.loc,.bl b),b8,b8,b8]) (f:=.rt .loc (.tup [.str x,.tup (told.map .str)])) (st:=eC g ws at_ b told o5 o6) rfl ?_ ?_ rfl rfl
 .obtain⟨_,_,_,rfl,_⟩:=p;rfl
 show ay (st2:=eC u ws at_ b [] b8 b8) (bA ai trivial az (i5 _)) a9 ?_;show cZ (rs:=[(.loc,.int (m:Nat))]) (aa (bf (x:=(.own,.lst Hg)) (bA (by repeat (first|show ai|show aa aj (by assumption)|apply aa aj)) (by show trivial) (by repeat (first|show az|apply av aF)) (by decide)) G trivial (bS em)) ai) trivial (pw ⋯) rfl J ?_;show bE (dF (aa (bf (aY rfl) (af rfl) trivial (bS (k:=.any) ex)) (aa (dc (aa (aI rfl) ai) ∅ rfl) ai)) trivial (av (nI rfl) (av aF az)) (by change 2<=cL;lia)) dg
def Hi(a:bH (I_ Pg d))(h:Jy Pg "_law_row" Fg):lU (I_ Pg (d+1)):=by
 intro T at_ u ws b c f g a0 i;have⟨x,told,u',e,r⟩:=Cn a (b:=b) c f g a0 i;show⟨x,told,u',by rw[cQ h _ rfl];show e,r⟩
abbrev C4:List S :=
   [.ite (.and [.cmp .eq (.idx (.var 2) (.cst (.int 0))) (.idx (.var 1) (.cst (.int 0))),.cmp .eq (.bi .sorted [.idx (.var 2) (.cst (.int 1))]) (.bi .sorted [.idx (.var 1) (.cst (.int 1))])])
    [.L9]
    []]
abbrev Hj:List S:=[.Ji cc [2] .seq [.var 0] C4,.app 0 (.var 1)]
abbrev Co:Fn:=⟨"_law_lay",2,3,.Mh [0]::Hj⟩
abbrev g9(rs:List Row)(r:Row)(o:Option (Kd×U)):aw:=[a5 (.io,.lst (rs.map B')),a5 (.loc,B' r),o]
abbrev layR(rs:List Row)(r:Row):List Row:=if keyOf r∈rs.map keyOf then rs else rs++[r]
def zH(c:x.2.length<64)(d:r.2.length<64):Run (Jl Γ (.and [.cmp .eq (.idx (.var 2) (.cst (.int 0))) (.idx (.var 1) (.cst (.int 0))),.cmp .eq (.bi .sorted [.idx (.var 2) (.cst (.int 1))]) (.bi .sorted [.idx (.var 1) (.cst (.int 1))])])) (g9 rs r (a5 (.loc,B' x))) (cK (keyOf x=keyOf r)) (g9 rs r (a5 (.loc,B' x))):=by
 have a:∀y:Row,gM (.loc,B' y) (.int 0)=a5 (.loc,.str y.1):=λy=>rfl;have b:∀y:Row,gM (.loc,B' y) (.int 1)=a5 (.loc,.tup (y.2.map .str)):=λy=>rfl;have f:Run (Jl Γ (.cmp .eq (.idx (.var 2) (.cst (.int 0))) (.idx (.var 1) (.cst (.int 0))))) (g9 rs r (a5 (.loc,B' x))) (cK (x.1=r.1)) (g9 rs r (a5 (.loc,B' x))):=aV (bf (af rfl) aj trivial (a x)) (bf (af rfl) aj trivial (a r)) trivial vi;have g:Run (Jl Γ (.cmp .eq (.bi .sorted [.idx (.var 2) (.cst (.int 1))]) (.bi .sorted [.idx (.var 1) (.cst (.int 1))]))) (g9 rs r (a5 (.loc,B' x))) (cK (aP x.2=aP r.2)) (g9 rs r (a5 (.loc,B' x))):=aV (dc (aa (bf (af rfl) aj trivial (b x)) ai) trivial (sorted_strs c)) (dc (aa (bf (af rfl) aj trivial (b r)) ai) trivial (sorted_strs d)) trivial lO;have e:cK (keyOf x=keyOf r)=(cK (x.1=r.1)&&cK (aP x.2=aP r.2)):=by
  rw[<-Bool.decide_and];show decide_eq_decide.mpr (by unfold keyOf;show WH ..▸Iff.rfl)
 rw[e];show nJ (pA f λ_=>dB g)
def Fh:Run (execs Γ (.L9::a)) st (.rt .loc .IV) st:=j9 (aO)
theorem rh(b:r.2.length<64):∀(xs:List Row) (o:Option (Kd×U)),(∀x∈xs,x.2.length<64) ->
  ∃o',Run (forM cc [2] (execs Γ C4) [(.bor 0,.lst (rs.map B'))] (xs.map λx=>(Kd.loc,B' x))) (g9 rs r o) (if keyOf r∈xs.map keyOf then .rt .loc .IV else .nx) (g9 rs r o')
 |[],o,_=>⟨o,by rw[Ľ (by simp)];show CZ ⟨⟨_,rfl,rfl⟩,trivial⟩⟩
 |x::xs,o,h=>by
  have a:=zH (Γ:=Γ) (rs:=rs) (h x (by simp)) b;by_cases hk:keyOf x=keyOf r
  .show⟨a5 (.loc,B' x),?_⟩;rw[ļ (by simp[hk])];rw[Ŀ hk]at a;show IA ⟨⟨_,rfl,rfl⟩,trivial⟩ aG (s9 a Fh)
  .rw[ľ hk]at a;have⟨o',q⟩:=rh (Γ:=Γ) (rs:=rs) b xs (a5 (.loc,B' x)) λy c=>h y (by simp[c]);show⟨o',?_⟩;have d:(keyOf r∈(x::xs).map keyOf)↔(keyOf r∈xs.map keyOf):=by
    rw[d7,d6];show⟨λz=>z.resolve_left λe=>hk e.symm,.inr⟩
   rw[show(if keyOf r∈(x::xs).map keyOf then Fl.rt .loc .IV else Fl.nx)=(if keyOf r∈xs.map keyOf then Fl.rt .loc .IV else Fl.nx) by simp only[d]];show G8 ⟨⟨_,rfl,rfl⟩,trivial⟩ aG (bR a aB aB) q
def Cp(b:r.2.length<64)(h:∀x∈rs,x.2.length<64)(hl:rs.length<1000):ij Γ Co [0] Hj [.lst (rs.map B'),B' r]=a5 (.ok (.loc,.tup [.IV,.lst ((layR rs r).map B')])):=by
 have c:(1000:Nat)<cL:=by decide
 have⟨o',q⟩:=rh (Γ:=Γ) b rs b8 h;have hs:cW [0] [.lst (rs.map B'),B' r] Co.ns=g9 rs r b8:=by
  change [a5 (Kd.io,U.lst (rs.map B')),a5 (if Jo (B' r)=b6 then Kd.loc else Kd.any,B' r),b8]=_;rw[ļ (vh r)];rfl
 have a:KI .seq [(Kd.bor 0,U.lst (rs.map B'))]=a5 (rs.map λx=>(Kd.loc,B' x)):=by
  change a5 ((rs.map B').map λu=>(kE (.bor 0),u))=_;rw[i4];rfl
 unfold layR;by_cases hk:keyOf r∈rs.map keyOf
 .rw[ļ hk]at q ⊢;show cD (f:=.rt .loc .IV) rfl hs (j9 (CY (aa (dE rfl) ai) ⟨⟨_,rfl,rfl⟩,trivial⟩ a rfl q)) rfl rfl
 .rw[Ľ hk]at q ⊢;show cD (f:=.nx) (st:=g9 (rs++[r]) r o') rfl hs (cZ (aa (dE rfl) ai) ⟨⟨_,rfl,rfl⟩,trivial⟩ a rfl q (gZ (k:=.io) (k':=.io) rfl (af rfl) aF rfl rfl (by simp;lia) ?_)) rfl rfl;rw[show rs.map B'++[B' r]=(rs++[r]).map B' by simp];show aB
abbrev lV(Γ:Tab):Prop:=∀(rs:List Row) (r:Row),r.2.length<64->(∀x∈rs,x.2.length<64)->rs.length<1000->Γ "_law_lay" [.lst (rs.map B'),B' r]=a5 (.ok (.loc,.tup [.IV,.lst ((layR rs r).map B')]))
def Hk(h:Jy Pg "_law_lay" Co):lV (I_ Pg (d+1)):=λrs r a b hl=>by
 rw[cQ h _ rfl];show Cp a b hl
abbrev QH:Kd×U->Bool
 |(.bor _,_)=>cc
 |_=>b6
section
def rj(h:QH r=b6):eF st r=r:=by
 have⟨k,u⟩:=r;cases k<;>first|rfl|cases h
def nS(h:QH r=b6):qu a r=b6:=by
 have⟨k,u⟩:=r;cases k<;>first|rfl|cases h
def rm(h:rs.all QH=b6):bq rs st:=by
 induction rs with
 |nil=>trivial
 |cons r rs a =>
  have⟨k,u⟩:=r;rw[ô,cb]at h;have:=a h.2;cases k<;>first|show this|cases h.1
def Cq(j:st[i]?=a5 (a5 (k0,a)))(g:k0.root=b6)(l:Run (bw Γ es) st rs st1)(c:st1[i]?=a5 (a5 (k,.lst us)))(hk:k.root=b6)(m:cB us=b6)(n:rs.map (eF st1)=rs)(o:bq rs st1)(p:∀r∈rs,qu [a5 i] r=b6)
  (s:Γ f (.lst us::rs.map (·.2))=a5 (.ok (d,.tup [v,.lst h]))) (t:d=.own\/d=.loc):Run (ev Γ (.IT f (.var i::es) [0])) st (d,v) (st1.set i (a5 (k,.lst h))):=by
 have u:Run (ev Γ (.var i)) st (.bor i,a) st:=by
  have:=d_ j (by rintro rfl;cases g);unfold kv at this;rw[ļ g]at this;show this
 have w:eF st1 (.bor i,a)=(.bor i,.lst us):=by
  unfold eF
  dsimp only
  rw[c];simp[hk]
 have b:((Kd.bor i,a)::rs).map (eF st1)=(.bor i,.lst us)::rs:=by rw[d7,w,n]
 have e:ig ((Kd.bor i,U.lst us)::rs) 0=a5 i:=by
  change(if cB us=b6 then a5 i else b8)=_;rw[ļ m]
 show s_ (rs:=(.bor i,a)::rs) (ws:=[.lst h]) (st1:=st1) (aa u l) ?_ ?_ t ?_ ?_
 .rw[b];show⟨⟨k,hk,c⟩,o⟩
 .rw[b];show s
 .rw[b];unfold qv;rw[cb,cb];show⟨⟨by simp[e],by simp⟩,i9.mpr λq x=>?_⟩;cases q with
  |zero=>simp
  |succ q =>
   have hl:q<rs.length:=by have:=u5.mp x;simpa using this
   rw[K'];show .inr ?_;rw[show((Kd.bor i,U.lst us)::rs).getD (q+1) (.loc,.IV)=rs[q] by simp[Oz,hl]];simp only[d7,Kp,e];show p _ (LL hl)
 .rw[b];unfold gW;rw[e]
  dsimp only
  rw[c];rfl
def iw(d:st[i]?=a5 (a5 (k0,o)))(e:k0.root=b6)(g:Run (bw Γ es) st rs st1)(h:st1[i]?=a5 (a5 (k,.lst us)))(hk:k.root=b6)(j:cB us=b6)(a:rs.all QH=b6)
  (l:Γ f (.lst us::rs.map (·.2))=a5 (.ok (b,.tup [v,.lst m]))) (n:b=.own\/b=.loc):Run (ev Γ (.IT f (.var i::es) [0])) st (b,v) (st1.set i (a5 (k,.lst m))) :=
 Cq d e g h hk j ((td λr c=>rj (i9.mp a r c)).trans (VA rs)) (rm a) (λr c=>nS (i9.mp a r c)) l n
end
section
def zI(p:lU Γ){ws:List Str}(c:st[i]?=a5 (a5 (k0,G)))(d:k0.root=b6)(f:st[j]?=a5 (a5 (kw,.lst (ws.map .str))))(q:kw=.loc\/kw=.any)(g:Run (ev Γ e) st (.loc,.int at_) st1)(h:Run (ev Γ t) st1 (.loc,.bl b) st2)
  (l:st2[i]?=a5 (a5 (k,u))) (hk:k.root=b6) (m:Src T u) (s:T+17<2 ^ 62) (v:ws.length<1000000) (a0:0<=at_) (z:at_<ws.length) :
  ∃(r:Row) (u':U),Run (ev Γ (.IT "_law_row" [.var i,.var j,e,t] [0])) st (.loc,B' r) (st2.set i (a5 (k,u')))/\ws[at_.toNat]?=a5 r.1/\r.2.Nodup/\(∀y∈r.2,y∈ws)/\r.2.length<=8/\Src (T+17) u':=by
 have⟨x,told,u',n,A,B,C,D,o⟩:=p T at_ u ws b m s v a0 z;show⟨(x,told),u',?_,A,B,C,D,o⟩;obtain⟨a,t',w,rfl,_,_⟩:=m;obtain⟨H,I,J,rfl,_,_⟩:=o;rcases q with rfl|rfl
 .show iw (rs:=[(.loc,.lst (ws.map .str)),(.loc,.int at_),(.loc,.bl b)]) c d (aa (af f) (aa g (aa h ai))) l hk rfl rfl n (.inr rfl)
 .show iw (rs:=[(.any,.lst (ws.map .str)),(.loc,.int at_),(.loc,.bl b)]) c d (aa (aY f) (aa g (aa h ai))) l hk rfl rfl n (.inr rfl)
def zJ(a:lV Γ)(b:st[i]?=a5 (a5 (k0,j)))(c:k0.root=b6)(d:Run (ev Γ e) st (.loc,B' r) st1)(f:st1[i]?=a5 (a5 (k,.lst (rs.map B'))))(hk:k.root=b6)(g:r.2.length<64)(h:∀x∈rs,x.2.length<64)(hl:rs.length<1000):
  Run (ev Γ (.IT "_law_lay" [.var i,e] [0])) st (.loc,.IV) (st1.set i (a5 (k,.lst ((layR rs r).map B')))) :=
 iw (rs:=[(.loc,B' r)]) b c (aa d ai) f hk (bM rs) rfl (a rs r g h hl) (.inr rfl)
def zK(a:Run (ev Γ e) st r st1)(b:Run (execs Γ c) st1 f st2):Run (execs Γ (.exp e::c)) st f st2:=fA (ae a aO) b
abbrev jc(Γ:Tab):Prop:=(∀k:Int,Γ "_law_source" [.lst [],.int k]=a5 (.ok (.own,.tup [fM k 0 1,.lst []])))/\∀(ns:List Int) (c k:Int),Γ "_law_source" [.lst ((ns++[c]).map .int),.int k]=a5 (.ok (.own,.tup [fM (c / 2) 0 (c % 2),.lst (ns.map .int)]))
def zL(h:Jy Pg "_law_source" zx):jc (I_ Pg (d+1)):=⟨λk=>by rw[cQ h _ rfl];show zA,λns c k=>by rw[cQ h _ rfl];show zB⟩
theorem gK:∀ns:List Int,cB (ns.map U.int)=b6
 |[]=>rfl
 |n::ns=>by change(b6&&cB (ns.map U.int))=b6;rw[gK ns];rfl
def zM(a:jc Γ)(b:st[i]?=a5 (a5 (k0,h)))(d:k0.root=b6)(f:Run (ev Γ e) st (.loc,.int m) st1)(g:st1[i]?=a5 (a5 (k,.lst ((ns++[c]).map .int))))(hk:k.root=b6):
  Run (ev Γ (.IT "_law_source" [.var i,e] [0])) st (.own,fM (c / 2) 0 (c % 2)) (st1.set i (a5 (k,.lst (ns.map .int)))) :=
 iw (rs:=[(.loc,.int m)]) b d (aa f ai) g hk (gK _) rfl (a.2 ns c m) (.inl rfl)
def Fi(a:jc Γ)(b:st[i]?=a5 (a5 (k0,g)))(c:k0.root=b6)(d:Run (ev Γ e) st (.loc,.int m) st1)(f:st1[i]?=a5 (a5 (k,.lst [])))(hk:k.root=b6):
  Run (ev Γ (.IT "_law_source" [.var i,e] [0])) st (.own,fM m 0 1) (st1.set i (a5 (k,.lst []))) :=
 iw (rs:=[(.loc,.int m)]) b c (aa d ai) f hk rfl rfl (a.1 m) (.inl rfl)
end
abbrev tw:List S :=
   [.set 6 (.IT "_law_draw" [.var 1,.bi .len [.var 2]] [0]),
   .ite (.cmp .eq (.var 4) (.cst (.int 3)))
    [.set 6 (.bin .mod (.var 5) (.bi .len [.var 2]))]
    [],
   .exp (.IT "_law_lay" [(.var 3),(.IT "_law_row" [(.var 1),(.var 2),(.var 6),(.cmp .gt (.var 4) (.cst (.int 1)))] [0])] [0])]
abbrev tD:List S :=
   [.set 7 (.IT "_law_source" [.var 0,.cst (.int 0)] [0]),
   .exp (.IT "_law_lay" [(.var 3),(.IT "_law_row" [(.var 7),(.var 2),(.IT "_law_draw" [(.var 7),(.bi .len [(.var 2)])] [0]),(.cmp .eq (.var 4) (.cst (.int 2)))] [0])] [0])]
abbrev dA(ns:List Int)(u:U)(ws:List Str)(rs:List Row)(way:Int)(o5 o6 o7:Option (Kd×U)):aw:=[a5 (.io,.lst (ns.map .int)),a5 (.io,u),a5 (.any,.lst (ws.map .str)),a5 (.own,.lst (rs.map B')),a5 (.loc,.int way),o5,o6,o7]
abbrev c6(ws:List Str)(r:Row):Prop:=r.1∈ws/\r.2.Nodup/\(∀y∈r.2,y∈ws)/\r.2.length<=8
abbrev c7(ws:List Str)(rs:List Row):Prop:=(∀r∈rs,c6 ws r)/\(rs.map keyOf).Nodup
def c7.lay(h:c7 ws rs)(d:c6 ws r):c7 ws (layR rs r):=by
 unfold layR;split
 .show h
 .rename_i hk;show⟨λx hx=>?_,?_⟩
  .rcases i1.mp hx with hx|hx
   .show h.1 x hx
   .rw[hQ]at hx;subst hx;show d
  .rw[ki];show rz.mpr ⟨h.2,by simp,λa f c b=>by rw[ZQ,hQ]at b;subst b;show λe=>hk (e▸f)⟩
def rn:(layR rs r).length<=rs.length+1:=by
 unfold layR;split
 .lia
 .simp
def wM(s:bH Γ)(v:lU Γ)(w:lV Γ){k:Nat}(y:Src T u)(O:T+18<2 ^ 62)(Q:0<ws.length)(z:ws.length<1000000)(h:c7 ws rs)(hl:rs.length<1000):
  ∃u' a c,Run (execs Γ tw) (dA ns u ws rs way (a5 (.loc,.int (0+(k:Int)))) o6 o7) .nx (dA ns u' ws a way (a5 (.loc,.int (0+(k:Int)))) c o7)/\Src (T+18) u'/\c7 ws a/\a.length<=rs.length+1:=by
 have⟨n,f,l,A,o,s1⟩:=dz (st:=dA ns u ws rs way (a5 (.loc,.int (0+(k:Int)))) o6 o7) s (i:=1) (k:=.io) (e:=.bi .len [.var 2]) (m:=((ws.map U.str).length:Nat)) rfl rfl (dc (aa (aY rfl) ai) trivial bX) y ⋯ (by simp;lia) (by simp;lia);rw[c4]at o;have d:∀at_:Int,0<=at_->at_<ws.length->∃u' a c,Run (execs Γ [.exp (.IT "_law_lay" [.var 3,.IT "_law_row" [.var 1,.var 2,.var 6,.cmp .gt (.var 4) (.cst (.int 1))] [0]] [0])]) (dA ns f ws rs way (a5 (.loc,.int (0+(k:Int)))) (a5 (.loc,.int at_)) o7) .nx (dA ns u' ws a way (a5 (.loc,.int (0+(k:Int)))) c o7)/\Src (T+18) u'/\c7 ws a/\a.length<=rs.length+1:=by
  intro at_ a0 B;have⟨r,C,q,D,G,H,I,J⟩:=zI (st:=dA ns f ws rs way (a5 (.loc,.int (0+(k:Int)))) (a5 (.loc,.int at_)) o7) (st1:=dA ns f ws rs way (a5 (.loc,.int (0+(k:Int)))) (a5 (.loc,.int at_)) o7) (st2:=dA ns f ws rs way (a5 (.loc,.int (0+(k:Int)))) (a5 (.loc,.int at_)) o7) v (i:=1) (j:=2) (e:=.var 6) (t:=.cmp .gt (.var 4) (.cst (.int 1))) (k0:=.io) (k:=.io) (kw:=.any) (b:=cK (1<way)) rfl rfl rfl (.inr rfl) (af rfl) (iW (af rfl) aj trivial (gb rfl)) rfl rfl s1 ⋯ z a0 B;have L:c6 ws r:=⟨mN D,G,H,I⟩
  show⟨C,layR rs r,_,zK (zJ w (k0:=.own) (k:=.own) (rs:=rs) rfl rfl q rfl rfl ⋯ (λx N=>by have:=(h.1 x N).2.2.2;lia) hl) aB,J.up ⋯,h.lay L,rn⟩
 by_cases p:way=3
 .subst p;have⟨u',a,c,q,g⟩:=d ((0+(k:Int)) % (ws.length:Nat)) (Q2 _ ⋯) (RP _ ⋯);show⟨u',a,c,ay l aG (f_ (aV (af rfl) aj trivial (bL rfl)) (ay (bj (af rfl) (dc (aa (aY rfl) ai) trivial bX) trivial (eN (by simp;lia))) aG aB) ?_),g⟩;rw[c4];show q
 .have⟨u',a,c,q,g⟩:=d n A o;show⟨u',a,c,ay l aG (bR (aV (af rfl) aj trivial (bL (by simp[p]))) aB q),g⟩
def wN(o:jc Γ)(p:bH Γ)(s:lU Γ)(w:lV Γ)(N:0<ws.length)(y:ws.length<1000000)(d:c7 ws rs)(hl:rs.length<1000):
  ∃a z,Run (execs Γ tD) (dA (ns++[c]) u ws rs way o5 o6 o7) .nx (dA ns u ws a way o5 o6 z)/\c7 ws a/\a.length<=rs.length+1:=by
 have f:=zM (st:=dA (ns++[c]) u ws rs way o5 o6 o7) (st1:=dA (ns++[c]) u ws rs way o5 o6 o7) o (i:=0) (k0:=.io) (k:=.io) (e:=.cst (.int 0)) (m:=0) rfl rfl aj rfl rfl;have g:Src 0 (fM (c / 2) 0 (c % 2)):=⟨_,_,_,rfl,⋯,⋯⟩
 generalize fM (c / 2) 0 (c % 2)=v at f g;have⟨n,h,A,B,l,s1⟩:=dz (st:=dA ns u ws rs way o5 o6 (a5 (.own,v))) p (i:=7) (k:=.own) (e:=.bi .len [.var 2]) (m:=((ws.map U.str).length:Nat)) rfl rfl (dc (aa (aY rfl) ai) trivial bX) g ⋯ (by simp;lia) (by simp;lia);rw[c4]at l;have⟨r,C,q,D,G,H,I,O⟩:=zI (st:=dA ns u ws rs way o5 o6 (a5 (.own,v))) (st1:=dA ns u ws rs way o5 o6 (a5 (.own,h))) (st2:=dA ns u ws rs way o5 o6 (a5 (.own,h))) s (i:=7) (j:=2) (t:=.cmp .eq (.var 4) (.cst (.int 2))) (k0:=.own) (k:=.own) (kw:=.any) (b:=(way==2)) rfl rfl rfl (.inr rfl) A (iW (af rfl) aj trivial (bL rfl)) rfl rfl s1 ⋯ y B l;have J:c6 ws r:=⟨mN D,G,H,I⟩
 show⟨layR rs r,a5 (.own,C),ay (st2:=dA ns u ws rs way o5 o6 (a5 (.own,v))) f a9 (zK (zJ w (k0:=.own) (k:=.own) (rs:=rs) rfl rfl q rfl rfl ⋯ (λx L=>by have:=(d.1 x L).2.2.2;lia) hl) aB),d.lay J,rn⟩
abbrev tE:E:=.and [.cmp .gt (.bi .len [.var 0]) (.cst (.int 0)),.cmp .lt (.bi .len [.var 3]) (.cst (.int 60))]
def nU:Run (Jl Γ tE) (dA ns u ws rs way o5 o6 o7) (cK (0<ns.length)&&cK (rs.length<60)) (dA ns u ws rs way o5 o6 o7):=by
 show nJ (pA (aV (dc (aa (dE rfl) ai) ∅ bX) aj trivial (gb ?_)) λ_=>dB (aV (dc (aa (aI rfl) ai) ∅ bX) aj trivial (G_ ?_)))
 .rw[c4];show decide_eq_decide.mpr ⋯
 .rw[c4];show decide_eq_decide.mpr ⋯
def tF(m:jc Γ)(n:bH Γ)(o:lU Γ)(p:lV Γ)(q:0<ws.length)(r:ws.length<1000000):
  ∀(k f:Nat) (ns:List Int) (rs:List Row) (o7:Option (Kd×U)),ns.length=k->k<f->c7 ws rs->rs.length<=60->∃d b i,Run (fL (Jl Γ tE) (execs Γ tD) f) (dA ns u ws rs way o5 o6 o7) .nx (dA d u ws b way o5 o6 i)/\c7 ws b/\b.length<=60/\d.length<=ns.length:=by
 intro k;induction k with
 |zero =>
  intro f ns rs o7 hk s h hl;obtain⟨f,rfl⟩:∃g,f=g+1:=⟨f - 1,⋯⟩
  have a:=nU (Γ:=Γ) (ns:=ns) (u:=u) (ws:=ws) (rs:=rs) (way:=way) (o5:=o5) (o6:=o6) (o7:=o7);rw[ľ (show ¬0<ns.length by lia)]at a;show⟨ns,rs,o7,nN a,h,hl,hU _⟩
 |succ k t =>
  intro f ns rs o7 hk s h hl;obtain⟨f,rfl⟩:∃g,f=g+1:=⟨f - 1,⋯⟩
  have a:=nU (Γ:=Γ) (ns:=ns) (u:=u) (ws:=ws) (rs:=rs) (way:=way) (o5:=o5) (o6:=o6) (o7:=o7);rw[Ŀ (show 0<ns.length by lia)]at a;by_cases j:rs.length<60
  .rw[Ŀ j]at a;obtain⟨ms,c,rfl⟩:∃ms c,ns=ms++[c]:=by
    have l:ns≠[]:=λe=>by rw[e]at hk;cases hk
    show⟨ns.dropLast,ns.getLast l,(VO l).symm⟩
   have v:ms.length=k:=by simpa using hk
   have⟨w,x,y,b1,C⟩:=wN (u:=u) (ws:=ws) (way:=way) (o5:=o5) (o6:=o6) (o7:=o7) (ns:=ms) (c:=c) m n o p q r h ⋯;have⟨d,b,i,z,A,B,D⟩:=t f ms w x v ⋯ b1 ⋯;show⟨d,b,i,qZ a y z,A,B,by simp;lia⟩
  .rw[ľ j]at a;show⟨ns,rs,o7,nN a,h,hl,hU _⟩
abbrev C5:List S :=
   [.set 3 (.lst []),
    .set 4 (.IT "_law_draw" [.var 1,.cst (.int 4)] [0]),
    .Ji cc [5] .Kx [.IT "_law_draw" [.var 1,.cst (.int 25)] [0]] tw,
    .MV tE tD,
    .ret (.bi .tuple [(.var 3)])]
abbrev pE:Fn:=⟨"_law_book",3,8,.Mh [0,1]::C5⟩
def tH(z:jc Γ)(g:bH Γ)(l:lU Γ)(n:lV Γ){ns:List Int}(o:Src T u)(Q:T+500<2 ^ 62)(Y:ns.length<1000)(p:0<ws.length)(s:ws.length<1000000):
  ∃(rs:List Row) (c:List Int) (u':U),ij Γ pE [0,1] C5 [.lst (ns.map .int),u,.lst (ws.map .str)]=a5 (.ok (.loc,.tup [.tup (rs.map B'),.lst (c.map .int),u']))/\c7 ws rs/\rs.length<=60/\c.length<=ns.length/\Src (T+500) u':=by
 have A:(60:Nat)<cL:=by decide
 obtain⟨way,B,C,_,_,s1⟩:=dz (st:=[a5 (.io,.lst (ns.map .int)),a5 (.io,u),a5 (.any,.lst (ws.map .str)),a5 (.own,.lst []),b8,b8,b8,b8]) g (i:=1) (k:=.io) (e:=.cst (.int 4)) (m:=4) rfl rfl aj o ⋯ ⋯ ⋯;have⟨m,v,D,m0,m1,s2⟩:=dz (st:=dA ns B ws [] way b8 b8 b8) g (i:=1) (k:=.io) (e:=.cst (.int 25)) (m:=25) rfl rfl aj s1 ⋯ ⋯ ⋯;have⟨m,rfl⟩:=u4 m0;obtain⟨st',G,a,b,o5,o6,rfl,s3,b3,w,_⟩:=bT (rs:=[(.loc,.int (m:Nat))]) (t:=cc) (is:=[5]) (body:=execs Γ tw) (λi:Nat=>(Kd.loc,U.int (0+(i:Int)))) (λd r st=>∃(a:U) (b:List Row) (o5 o6:Option (Kd×U)),st=dA ns a ws b way o5 o6 b8/\Src (T+2+18 * (d.length:Nat)) a/\c7 ws b/\b.length<=d.length/\d.length+r.length=m)
  (λd r st _=>trivial) (λd y r st h=>by
   have⟨a,b,o5,o6,rfl,s3,b3,w,H⟩:=h;simp only[ke]at H;have⟨I,J,NO,q,s4,b4,x⟩:=wM (ns:=ns) (way:=way) (k:=y) (o6:=o6) (o7:=b8) g l n s3 ⋯ p s b3 ⋯;show⟨dA ns a ws b way (a5 (.loc,.int (0+(y:Int)))) o6 b8,_,aG,q,I,J,_,_,rfl,s4.up (by simp;lia),b4,?_,?_⟩
   .simp;lia
   .simp;lia) (gs m) [] (dA ns v ws [] way b8 b8 b8) ⟨v,[],b8,b8,rfl,s2.up (by simp;lia),⟨by simp,by simp⟩,by simp,by simp⟩
 rw[i7,C0]at s3 w;have⟨c,j,L,N,b4,x,O⟩:=tF z g l n (u:=a) (way:=way) (o5:=o5) (o6:=o6) p s ns.length fuel ns b b8 rfl (by unfold fuel;lia) b3 ⋯;show⟨j,c,a,?_,b4,x,O,s3.up ⋯⟩;show cD (st0:=[a5 (.io,.lst (ns.map .int)),a5 (.io,u),a5 (.any,.lst (ws.map .str)),b8,b8,b8,b8,b8]) (f:=.rt .loc (.tup (j.map B'))) (st:=dA c a ws j way o5 o6 L) rfl ?_ ?_ rfl rfl
 .obtain⟨_,_,_,rfl,_⟩:=o;rfl
 show ay (bA ai trivial az (i5 _)) a9 (ay C aG ?_);show cZ (rs:=[(.loc,.int (m:Nat))]) (aa D ai) trivial (pw ⋯) rfl G (q9 N ?_);show bE (dc (aa (aI rfl) ai) ∅ rfl) dg
end TM
namespace TM
open PySem L2 Jq
theorem zN{cond:M Bool}(it:α->Kd×U)(I:List α->List α->List U->aw->Prop)(hs:∀d r a st,I d r a st->bq src st)
  (Ð:∀d y q a st,I d (y::q) a st->∃s1 s2 s3 s4 r u,Run (dy t (gs k) (it y)) (i2 k b8++st) () s1/\Run cond s1 b6 s2/\Run elt s2 r s3/\Run (lift r) s3 u s4/\I (d++[y]) q (a++[u]) (s4.drop k)) :
  ∀(b d:List α) (acc:List U) (st:aw),I d b acc st->acc.length+b.length<=cL->∃us st',Run (bJ k t cond elt src (b.map it) acc) st us st'/\I (d++b) [] us st'
 |[],d,acc,st,h,_=>⟨acc,st,vd (hs _ _ _ _ h),by rw[r6];show h⟩
 |y::b,d,acc,st,h,hl=>by
  rw[ke]at hl;have⟨s1,s2,s3,s4,r,u,c,e,f,g,i⟩:=Ð d y b acc st h;have⟨us,st',j,l⟩:=zN it I hs Ð b (d++[y]) (acc++[u]) _ i (by simp;lia);show⟨us,st',pv (hs _ _ _ _ h) c e f g ⋯ j,by simpa using l⟩
def rp(a:0<=n)(b:n<26):∃c,JK small.cps.toList n=a5 c:=by
 have⟨k,rfl⟩:=u4 a;have hl:small.cps.toList.length=26:=by decide
 show⟨small.cps.toList[k]'⋯,eL (by simp)⟩
def zO(f:bH Γ)(g:Src T u)(w:T+8<2 ^ 62):
  ∃x u',Run (ev Γ (.NG .join (.cst (.str "")) [.comp 1 cc .Kx [.cst (.int 8)] [] (.idx (.var 2) (.IT "_law_draw" [.var 1,.cst (.int 26)] [0]))])) (a5 (.io,u)::a5 (.loc,.str small)::rest) (.loc,.str x) (a5 (.io,u')::a5 (.loc,.str small)::rest)/\x.length=8/\Src (T+8) u':=by
 have j:(100:Nat)<=cL:=by decide
 obtain⟨us,st',b,u',cs,rfl,rfl,hl,hs,_⟩:=zN (k:=1) (t:=cc) (cond:=a_ Γ []) (elt:=ev Γ (.idx (.var 2) (.IT "_law_draw" [.var 1,.cst (.int 26)] [0]))) (src:=[(.loc,.int (8:Nat))]) (λi:Nat=>(Kd.loc,U.int (0+(i:Int))))
  (λd r a st=>∃(u':U) (cs:List Nat),st=a5 (.io,u')::a5 (.loc,.str small)::rest/\a=(cs.map Jq.one).map U.str/\cs.length=d.length/\Src (T+(d.length:Nat)) u'/\d.length+r.length=8) (λ_ _ _ _ _=>trivial)
  (λd y q a st h=>by
   have⟨u',cs,rfl,rfl,hl,hs,l⟩:=h;rw[ke]at l;have⟨n,o,r,p,s,s2⟩:=dz (st:=a5 (.loc,.int (0+(y:Int)))::a5 (.io,u')::a5 (.loc,.str small)::rest) f (i:=1) (k:=.io) (e:=.cst (.int 26)) (m:=26) rfl rfl aj hs ⋯ ⋯ ⋯;have⟨c,b⟩:=rp p s;show⟨_,_,_,_,_,_,eB aG,nK,bf (af rfl) r trivial (oz qS b),aF,o,cs++[c],rfl,by simp,by simp[hl],s2.up (by simp;lia),by simp;lia⟩)
  (gs 8) [] [] (a5 (.io,u)::a5 (.loc,.str small)::rest) ⟨u,[],rfl,rfl,rfl,by simpa using g,by simp⟩ (by simp;lia)
 rw[i7,C0]at hl hs;have v:mD .join (.str "") [(.own,.lst ((cs.map Jq.one).map U.str))]=a5 (.loc,.str (TH tv (cs.map Jq.one))):=by
  change(strsOf ((cs.map Jq.one).map U.str)).bind _=_;rw[dM];change(if ð tv (cs.map Jq.one)=b6 then _ else _)=_;rw[ļ (Jq.qR cs ⋯)];rfl
 show⟨TH tv (cs.map Jq.one),u',ze aj (aa (dC (aa aj ai) trivial (pw (n:=8) ⋯) b) ai) trivial v,?_,hs⟩;change(TH tv (cs.map Jq.one)).cps.size=8;rw[<-gj,Jq.join_ones,hl]
abbrev zP:List S:=[.app 7 (.ite (.cmp .eq (.var 10) (.cst (.int 1))) (.var 9) (.bin .add (.bin .add (.var 9) (.cst (.str "/"))) (.bi .str [.var 10])))]
abbrev zQ:List S :=
   .ite (.cmp .eq (.var 4) (.cst (.int 3)))
    [.set 10 (.bin .add (.cst (.int 1)) (.IT "_law_draw" [.var 0,.cst (.int 99)] [0]))]
    []::zP
abbrev zR:List S :=
   .ite (.cmp .gt (.var 4) (.cst (.int 1)))
    [.set 9 (.bin .add (.idx (.var 1) (.bin .mod (.bin .add (.var 6) (.bin .mul (.cst (.int 7)) (.var 8))) (.cst (.int 26)))) (.MC (.var 3) [.cst (.int 1)] [.var 5])),
    .set 10 (.cst (.int 1))]
    []::zQ
abbrev tI:List S :=
   .set 9 (.MC (.var 3) [] [.bin .add (.cst (.int 1)) (.bin .mod (.var 8) (.cst (.int 8)))]) ::
   .set 10 (.bin .add (.cst (.int 1)) (.bin .Oe (.var 8) (.cst (.int 8)))) ::
   .ite (.cmp .eq (.var 4) (.cst (.int 1)))
    [.set 9 (.MC (.var 3) [] [.var 5]),
    .set 10 (.bin .add (.cst (.int 1)) (.var 8))]
    []::zR
abbrev zS:List S :=
   [.set 1 (.cst (.str "abcdefghijklmnopqrstuvwxyz")),
    .set 2 (.bin .add (.cst (.int 1)) (.IT "_law_draw" [.var 0,.idx (.lst [.cst (.int 8),.cst (.int 16),.cst (.int 24)]) (.IT "_law_draw" [.var 0,.cst (.int 3)] [0])] [0])),
    .set 3 (.NG .join (.cst (.str "")) [.comp 1 cc .Kx [.cst (.int 8)] [] (.idx (.var 2) (.IT "_law_draw" [.var 1,.cst (.int 26)] [0]))]),
    .set 4 (.IT "_law_draw" [.var 0,.cst (.int 4)] [0]),
    .set 5 (.bin .add (.cst (.int 1)) (.IT "_law_draw" [.var 0,.cst (.int 8)] [0])),
    .set 6 (.IT "_law_draw" [.var 0,.cst (.int 26)] [0]),
    .set 7 (.lst []),
    .Ji cc [8] .Kx [.var 2] tI,
    .ret (.var 7)]
abbrev lW:Fn:=⟨"_law_words",1,11,.Mh [0]::zS⟩
abbrev jA(u:U)(many:Int)(base:Str)(way size first:Int)(acc:List Str)(o8 o9 o10:Option (Kd×U)):aw:=[a5 (.io,u),a5 (.loc,.str small),a5 (.loc,.int many),a5 (.loc,.str base),a5 (.loc,.int way),a5 (.loc,.int size),a5 (.loc,.int first),a5 (.own,.lst (acc.map .str)),o8,o9,o10]
def ku(h:x.length<=cL):lb (k,.str x) lo a=a5 (.loc,.str (PySem.StrLaws.sliceText x lo a)):=by
 change(if x.length<=cL then _ else _)=_;rw[ļ h]
def nV(e:acc.length<1000)(f:w.length<=9)(g:1<=s)(s1:s<=99):
  ∃x:Str,x.length<=20/\Run (execs Γ zP) (jA u many base way size first acc o8 (a5 (.loc,.str w)) (a5 (.loc,.int s))) .nx (jA u many base way size first (acc++[x]) o8 (a5 (.loc,.str w)) (a5 (.loc,.int s))):=by
 have b:(1000:Nat)<=cL:=by decide
 by_cases h:s=1
 .subst h;show⟨w,⋯,gZ (k:=.own) (k':=.own) rfl (zf (aV (af rfl) aj trivial (bL rfl)) (af rfl)) aF rfl rfl (by simp;lia) ?_⟩;rw[show acc.map U.str++[U.str w]=(acc++[w]).map U.str by simp];show aB
 .have i:=wI (k:=s) ⋯ s1;have c:Lh .str [(.loc,.int s)]=a5 (.loc,.str (xH s)):=by
   simp only[Lh,jm,A8];rw[ļ (by
    have:s.natAbs<2 ^ 7:=by lia
    have d:s.natAbs≠0:=by lia
    have:=(Nat.log2_lt d).mpr this;lia)]
   rfl
  have a:(w++("/":Str)).length=w.length+1:=by rw[len_list,len_list,app_list,hY];rfl
  show⟨w++("/":Str)++xH s,by rw[len_list,app_list,hY,<-len_list,<-len_list,a];lia,gZ (k:=.own) (k':=.own) rfl (zg (aV (af rfl) aj trivial (bL (by simp[h]))) (bj (bj (af rfl) aj trivial (pz (by change w.length+1<=cL;lia))) (dc (aa (af rfl) ai) trivial c) trivial (pz (by rw[a];lia)))) aF rfl rfl (by simp;lia) ?_⟩;rw[show acc.map U.str++[U.str (w++("/":Str)++xH s)]=(acc++[w++("/":Str)++xH s]).map U.str by simp];show aB
def nW(g:bH Γ)(b:Src T u)(p:T+1<2 ^ 62)(c:acc.length<1000)(d:w.length<=9)(j:1<=s)(s1:s<=99):
  ∃u' x o9 o10,Run (execs Γ zQ) (jA u many base way size first acc o8 (a5 (.loc,.str w)) (a5 (.loc,.int s))) .nx (jA u' many base way size first (acc++[x]) o8 o9 o10)/\Src (T+1) u'/\x.length<=20:=by
 by_cases h:way=3
 .subst h;have⟨n,f,l,r,t,o⟩:=dz (st:=jA u many base 3 size first acc o8 (a5 (.loc,.str w)) (a5 (.loc,.int s))) g (i:=0) (k:=.io) (e:=.cst (.int 99)) (m:=99) rfl rfl aj b ⋯ ⋯ ⋯;have⟨x,a,q⟩:=nV (Γ:=Γ) (u:=f) (many:=many) (base:=base) (way:=3) (size:=size) (first:=first) (acc:=acc) (o8:=o8) (w:=w) (s:=1+n) c d ⋯ ⋯;show⟨f,x,_,_,f_ (aV (af rfl) aj trivial (bL rfl)) (ay (bj aj l trivial bW) aG aB) q,o,a⟩
 .have⟨x,a,q⟩:=nV (Γ:=Γ) (u:=u) (many:=many) (base:=base) (way:=way) (size:=size) (first:=first) (acc:=acc) (o8:=o8) (w:=w) (s:=s) c d j s1;show⟨u,x,_,_,bR (aV (af rfl) aj trivial (bL (by simp[h]))) aB q,b.up ⋯,a⟩
def nX(a:bH Γ){k:Nat}(b:Src T u)(d:T+1<2 ^ 62)(e:acc.length<1000)(f:w.length<=9)(g:1<=s)(s1:s<=99)(p:base.length=8)(i:1<=size)(r:size<=8)(t:0<=first)(v:first<26)(hk:k<1000):
  ∃u' x o9 o10,Run (execs Γ zR) (jA u many base way size first acc (a5 (.loc,.int (0+(k:Int)))) (a5 (.loc,.str w)) (a5 (.loc,.int s))) .nx (jA u' many base way size first (acc++[x]) (a5 (.loc,.int (0+(k:Int)))) o9 o10)/\Src (T+1) u'/\x.length<=20:=by
 have j:(1000:Nat)<=cL:=by decide
 by_cases h:1<way
 .have l:0<=(first+7 * (0+(k:Int))) % 26:=Q2 _ ⋯;have m:(first+7 * (0+(k:Int))) % 26<26:=RP _ ⋯;have⟨c,n⟩:=rp l m;have y:=len_list base;have z:(PySem.StrLaws.sliceText base (a5 1) (a5 size)).length<=8:=by
   rw[PySem.StrLaws.sliceText_plain ⟨⋯,i,⋯⟩,len_list];simp;lia
  have LO:(Jq.one c).length=1:=rfl;have o:(Jq.one c++PySem.StrLaws.sliceText base (a5 1) (a5 size)).length<=9:=by rw[len_list,app_list,hY,<-len_list,<-len_list];lia
  have⟨u',x,o9,o10,q,hs⟩:=nW (Γ:=Γ) a (u:=u) (many:=many) (base:=base) (way:=way) (size:=size) (first:=first) (acc:=acc) (o8:=a5 (.loc,.int (0+(k:Int)))) (w:=Jq.one c++PySem.StrLaws.sliceText base (a5 1) (a5 size)) (s:=1) b d e o ⋯ ⋯;show⟨u',x,o9,o10,f_ (aV (af rfl) aj trivial (gb (by simp[h]))) (ay (bj (bf (af rfl) (bj (bj (af rfl) (bj aj (af rfl) trivial (kJ ⋯)) trivial bW) aj trivial (eN ⋯)) trivial (oz qS n)) (nG (af rfl) (lH aj) (lH (af rfl)) trivial (ku ⋯)) trivial (pz ⋯)) aG (ay aj aG aB)) q,hs⟩
 .have⟨u',x,o9,o10,q,hs⟩:=nW (Γ:=Γ) a (u:=u) (many:=many) (base:=base) (way:=way) (size:=size) (first:=first) (acc:=acc) (o8:=a5 (.loc,.int (0+(k:Int)))) (w:=w) (s:=s) b d e f g s1;show⟨u',x,o9,o10,bR (aV (af rfl) aj trivial (gb (by simp[h]))) aB q,hs⟩
def zT(a:0<=j)(b:x.length=8):(PySem.StrLaws.sliceText x b8 (a5 j)).length<=9:=by
 have⟨j,rfl⟩:=u4 a;have h:=len_list (PySem.StrLaws.sliceText x b8 (a5 (j:Int)));have hl:=len_list x;rw[E8]at h;rw[h,vu];lia
def wO(b:bH Γ){k:Nat}(c:Src T u)(d:T+1<2 ^ 62)(e:acc.length<1000)(a:base.length=8)(f:1<=size)(g:size<=8)(i:0<=first)(j:first<26)(hk:k<98):
  ∃u' x l m,Run (execs Γ tI) (jA u many base way size first acc (a5 (.loc,.int (0+(k:Int)))) o9 o10) .nx (jA u' many base way size first (acc++[x]) (a5 (.loc,.int (0+(k:Int)))) l m)/\Src (T+1) u'/\x.length<=20:=by
 have n:(1000:Nat)<=cL:=by decide
 have o:0<=(0+(k:Int)) % 8:=Q2 _ ⋯;by_cases h:way=1
 .have⟨u',x,o9,o10,q,hs⟩:=nX (Γ:=Γ) b (u:=u) (many:=many) (base:=base) (way:=way) (size:=size) (first:=first) (acc:=acc) (k:=k) (w:=PySem.StrLaws.sliceText base b8 (a5 size)) (s:=1+(0+(k:Int))) c d e (zT ⋯ a) ⋯ ⋯ a f g i j ⋯;show⟨u',x,o9,o10,ay (nG (af rfl) qP (lH (bj aj (bj (af rfl) aj trivial (eN ⋯)) trivial bW)) trivial (ku ⋯)) aG (ay (bj aj (bj (af rfl) aj trivial (lJ ⋯)) trivial bW) aG (f_ (aV (af rfl) aj trivial (bL (by simp[h]))) (ay (nG (af rfl) qP (lH (af rfl)) trivial (ku ⋯)) aG (ay (bj aj (af rfl) trivial bW) aG aB)) q)),hs⟩
 .have⟨u',x,o9,o10,q,hs⟩:=nX (Γ:=Γ) b (u:=u) (many:=many) (base:=base) (way:=way) (size:=size) (first:=first) (acc:=acc) (k:=k) (w:=PySem.StrLaws.sliceText base b8 (a5 (1+(0+(k:Int)) % 8))) (s:=1+(0+(k:Int)) / 8) c d e (zT ⋯ a) ⋯ ⋯ a f g i j ⋯;show⟨u',x,o9,o10,ay (nG (af rfl) qP (lH (bj aj (bj (af rfl) aj trivial (eN ⋯)) trivial bW)) trivial (ku ⋯)) aG (ay (bj aj (bj (af rfl) aj trivial (lJ ⋯)) trivial bW) aG (bR (aV (af rfl) aj trivial (bL (by simp[h]))) aB q)),hs⟩
def IB(a:0<=n)(b:n<3):∃m:Int,8<=m/\m<=24/\JK [U.int 8,.int 16,.int 24] n=a5 (.int m):=by
 have⟨k,rfl⟩:=u4 a;have:k=0\/k=1\/k=2:=by lia
 rcases this with rfl|rfl|rfl
 .show⟨8,⋯,⋯,rfl⟩
 .show⟨16,⋯,⋯,rfl⟩
 .show⟨24,⋯,⋯,rfl⟩
def wQ(a:bH Γ)(l:Src T u)(hT:T+100<2 ^ 62):
  ∃(ws:List Str) (u':U),ij Γ lW [0] zS [u]=a5 (.ok (.own,.tup [.lst (ws.map .str),u']))/\1<=ws.length/\ws.length<=24/\Src (T+100) u'/\∀x∈ws,x.length<=20:=by
 have A:(1000:Nat)<=cL:=by decide
 let S1:U->aw:=λv=>[a5 (.io,v),a5 (.loc,.str small),b8,b8,b8,b8,b8,b8,b8,b8,b8]
 have⟨i,B,C,D,G,s1⟩:=dz (st:=S1 u) a (i:=0) (k:=.io) (e:=.cst (.int 3)) (m:=3) rfl rfl aj l ⋯ ⋯ ⋯;have⟨m,m0,m1,em⟩:=IB D G;have⟨n,u2,H,n0,n1,s2⟩:=zE (st:=S1 u) (st1:=S1 B) a (i:=0) (k:=.io) (k0:=.io) (e:=.idx (.lst [.cst (.int 8),.cst (.int 16),.cst (.int 24)]) (.IT "_law_draw" [.var 0,.cst (.int 3)] [0])) (m:=m) rfl rfl (bf (x:=(.own,.lst [U.int 8,.int 16,.int 24])) (bA (aa aj (aa aj (aa aj ai))) trivial (av aF (av aF (av aF az))) (by change 3<=cL;lia)) C trivial (bS em)) rfl rfl s1 ⋯ ⋯ ⋯;have⟨base,b,I,J,s3⟩:=zO (rest:=[a5 (.loc,.int (1+n)),b8,b8,b8,b8,b8,b8,b8,b8]) a s2 ⋯;obtain⟨way,g,L,_,_,s4⟩:=dz (st:=[a5 (.io,b),a5 (.loc,.str small),a5 (.loc,.int (1+n)),a5 (.loc,.str base),b8,b8,b8,b8,b8,b8,b8]) a (i:=0) (k:=.io) (e:=.cst (.int 4)) (m:=4) rfl rfl aj s3 ⋯ ⋯ ⋯;have⟨size,N,O,z0,z1,Q⟩:=dz (st:=[a5 (.io,g),a5 (.loc,.str small),a5 (.loc,.int (1+n)),a5 (.loc,.str base),a5 (.loc,.int way),b8,b8,b8,b8,b8,b8]) a (i:=0) (k:=.io) (e:=.cst (.int 8)) (m:=8) rfl rfl aj s4 ⋯ ⋯ ⋯;have⟨first,o,Y,f0,f1,s6⟩:=dz (st:=[a5 (.io,N),a5 (.loc,.str small),a5 (.loc,.int (1+n)),a5 (.loc,.str base),a5 (.loc,.int way),a5 (.loc,.int (1+size)),b8,b8,b8,b8,b8]) a (i:=0) (k:=.io) (e:=.cst (.int 26)) (m:=26) rfl rfl aj Q ⋯ ⋯ ⋯;have⟨many,QL⟩:=u4 (show 0<=1+n by lia);obtain⟨st',hf,p,ws,o8,o9,o10,rfl,s,l7,b7,_⟩:=bT (rs:=[(.loc,.int (1+n))]) (t:=cc) (is:=[8]) (body:=execs Γ tI) (λi:Nat=>(Kd.loc,U.int (0+(i:Int)))) (λd r st=>∃(b:U) (ws:List Str) (o8 o9 o10:Option (Kd×U)),st=jA b (1+n) base way (1+size) first ws o8 o9 o10/\Src (T+13+(d.length:Nat)) b/\ws.length=d.length/\(∀x∈ws,x.length<=20)/\∃j,d=ĝ 0 j/\r=ĝ j (many - j)/\j<=many)
  (λd r st _=>trivial) (λd y r st h=>by
   have⟨b,ws,o8,o9,o10,rfl,s3,w,b3,j,rfl,c,hj⟩:=h;have ZY:j<many:=by
    rcases ě j many with z|z
    .show z
    .rw[show many - j=0 by lia]at c;cases c
   rw[show many - j=(many - (j+1))+1 by lia,List.range'_succ]at c;cases c;rw[List.length_range']at s3 w;have⟨g,x,Kr,QK,q,s4,hx⟩:=wO (Γ:=Γ) a (u:=b) (many:=1+n) (base:=base) (way:=way) (size:=1+size) (first:=first) (acc:=ws) (k:=y) (o9:=o9) (o10:=o10) s3 ⋯ ⋯ J ⋯ ⋯ f0 f1 ⋯;show⟨jA b (1+n) base way (1+size) first ws (a5 (.loc,.int (0+(y:Int)))) o9 o10,_,aG,q,g,ws++[x],_,_,_,rfl,s4.up (by simp;lia),by simp[w],λz hz=>(i1.mp hz).elim (b3 z) λhz=>by rw[hQ.mp hz];show hx,y+1,by have:=@List.range'_1_concat 0 y;simpa using this.symm,rfl,⋯⟩) (gs many) [] (jA o (1+n) base way (1+size) first [] b8 b8 b8) ⟨o,[],b8,b8,b8,rfl,s6.up (by simp;lia),by simp,λ_ h=>(nomatch h),0,rfl,by rw[List.range_eq_range'];simp,⋯⟩
 rw[i7,C0]at s l7;show⟨ws,p,?_,⋯,⋯,s.up ⋯,b7⟩;show cD (st0:=[a5 (.io,u),b8,b8,b8,b8,b8,b8,b8,b8,b8,b8]) (f:=.rt .own (.lst (ws.map .str))) (st:=(jA p (1+n) base way (1+size) first ws o8 o9 o10).set 7 b8) rfl ?_ ?_ rfl rfl
 .obtain⟨_,_,_,rfl,_⟩:=l;rfl
 show ay (st2:=S1 u) aj aG (ay (bj aj H trivial bW) aG (ay I aG (ay L aG (ay (bj aj O trivial bW) aG (ay Y aG (ay (bA ai trivial az (i5 _)) a9 ?_))))));show cZ (rs:=[(.loc,.int (1+n))]) (xs:=(gs many).map λi:Nat=>(Kd.loc,U.int (0+(i:Int)))) (aa (af rfl) ai) trivial (by rw[QL];show pw ⋯) rfl hf (bE (aI rfl) (jQ rfl))
abbrev pF(Γ:Tab):Prop:=∀(T:Int) (u:U),Src T u->T+100<2 ^ 62->∃(ws:List Str) (u':U),Γ "_law_words" [u]=a5 (.ok (.own,.tup [.lst (ws.map .str),u']))/\1<=ws.length/\ws.length<=24/\Src (T+100) u'/\∀x∈ws,x.length<=20
def Cr(a:bH (I_ Pg d))(h:Jy Pg "_law_words" lW):pF (I_ Pg (d+1)):=by
 intro T u b c;have⟨ws,u',e,r⟩:=wQ a b c;show⟨ws,u',by rw[cQ h _ rfl];show e,r⟩
abbrev e_(ks:List Str)(x:Str):List Str:=if x∈ks then ks else ks++[x]
def zU:dput ks (ks.map f) x u=(e_ ks x,(e_ ks x).map λk=>if k=x then u else f k):=by
 unfold dput e_;by_cases h:x∈ks
 .rw[ļ h,ļ h];congr 1
  clear h;induction ks with
  |nil=>rfl
  |cons k ks a=>rw[d7,Pw,d7,d7,a]
 .rw[Ľ h,Ľ h];congr 1
  rw[ki,ZQ,ļ rfl];congr 1
  show td λk hk=>?_;rw[Ľ (λe:k=x=>h (e▸hk))]
def tJ(h:ks.Nodup):(e_ ks x).Nodup:=by
 unfold e_;split
 .show h
 .rename_i d;show rz.mpr ⟨h,by simp,λa f c b=>by rw[hQ]at b;subst b;show λe=>d (e▸f)⟩
def gk:y∈e_ ks x↔y∈ks\/y=x:=by
 unfold e_;split
 .rename_i h;show⟨.inl,λz=>z.elim id λe=>e▸h⟩
 .simp
def Cs(h:ks.length<1000):eG (.str x) u (.IQ ks (ks.map f))=a5 (.IQ (e_ ks x) ((e_ ks x).map λk=>if k=x then u else f k)):=by
 rw[vk h,zU]
abbrev C6:List S:=[.put 1 (.var 4) (.cst (.bl b6))]
abbrev zV:List S:=[.put 1 (.var 2) (.cst (.bl b6)),.Ji cc [4] .seq [.var 3] C6]
abbrev Fj:Fn:=⟨"_law_all",1,5,[.set 1 (.Ky cc),.Ji b6 [2,3] .seq [.var 0] zV,.ret (.bi .sorted [.var 1])]⟩
abbrev mE(ks:List Str):U:=.IQ ks (ks.map λ_=>.bl b6)
def kA(h:ks.length<1000):eG (.str x) (.bl b6) (mE ks)=a5 (mE (e_ ks x)):=by
 unfold mE;rw[Cs h];congr 3
 funext k
 split<;>rfl
abbrev iy(ws ks:List Str):Prop:=ks.Nodup/\∀x∈ks,x∈ws
def iy.ins(h:iy ws ks)(a:x∈ws):iy ws (e_ ks x):=⟨tJ h.1,λy b=>(gk.mp b).elim (h.2 y) λe=>e▸a⟩
def iy.len(h:iy ws ks):ks.length<=ws.length:=gf h.1 h.2
abbrev pG(rs:List Row)(ks:List Str)(o2 o3 o4:Option (Kd×U)):aw:=[a5 (.loc,.tup (rs.map B')),a5 (.own,mE ks),o2,o3,o4]
def kB{rs:List Row}:KI .seq [(k,.tup (rs.map B'))]=a5 (rs.map λr=>(kE k,B' r)):=by
 change a5 ((rs.map B').map λu=>(kE k,u))=_;rw[i4];rfl
def Fm(h:(!(i==j))=c):cH .ne (.int i) (.int j)=a5 c:=by subst h;rfl
def zW{rs:List Row}(hl:rs.length<=1000)(h:st[i]?=a5 (a5 (.loc,.tup (rs.map B')))):Run (ev Γ (.comp 1 cc .seq [.var i] [.cmp .eq (.idx (.var 0) (.cst (.int 1))) (.tup [])] (.idx (.var 0) (.cst (.int 0))))) st (.own,.lst (((rs.filter λr=>cK (r.2=[])).map (·.1)).map .str)) st:=by
 have b:(1000:Nat)<=cL:=by decide
 have c:∀y:Row,gM (.loc,B' y) (.int 0)=a5 (.loc,.str y.1):=λy=>rfl;have d:∀y:Row,gM (.loc,B' y) (.int 1)=a5 (.loc,.tup (y.2.map .str)):=λy=>rfl;have a:=ir (cond:=a_ Γ [.cmp .eq (.idx (.var 0) (.cst (.int 1))) (.tup [])]) (elt:=ev Γ (.idx (.var 0) (.cst (.int 0)))) (src:=[(.loc,.tup (rs.map B'))]) (st:=st) trivial .loc (.inl rfl) B' (λr:Row=>.str r.1) (λr=>cK (r.2=[])) .loc rs [] (by simp;lia)
  (λr _=>⟨dB (aV (bf (af rfl) aj trivial (d r)) (dF ai trivial az (i5 _)) trivial vq),λ_=>⟨bf (af rfl) aj trivial (c r),aF⟩⟩)
 rw[i7]at a;rw[i4];show dC (rs:=[(.loc,.tup (rs.map B'))]) (aa (af h) ai) trivial kB a
section
def zX(o:i≠j)(l:st[i]?=a5 (a5 (k0,a)))(c:k0.root=b6)(y:st[j]?=a5 (a5 (k0',d)))(z:k0'.root=b6)(A:Run (bw Γ es) st rs st1)
  (b:st1[i]?=a5 (a5 (k,.lst us))) (hk:k.root=b6) (B:cB us=b6) (m:st1[j]?=a5 (a5 (k',.lst vs))) (p:k'.root=b6) (C:cB vs=b6) (D:rs.map (eF st1)=rs) (G:bq rs st1) (H:∀r∈rs,qu [a5 i,a5 j] r=b6)
  (I:Γ f (.lst us::.lst vs::rs.map (·.2))=a5 (.ok (n,.tup [v,.lst s,.lst t]))) (J:n=.own\/n=.loc):Run (ev Γ (.IT f (.var i::.var j::es) [0,1])) st (n,v) ((st1.set i (a5 (k,.lst s))).set j (a5 (k',.lst t))):=by
 have w:∀(i:Nat) (k0:Kd) (a:U),st[i]?=a5 (a5 (k0,a))->k0.root=b6->Run (ev Γ (.var i)) st (.bor i,a) st:=λi k0 a l c=>by
  have:=d_ l (by rintro rfl;cases c);unfold kv at this;rw[ļ c]at this;show this
 have x:∀(i:Nat) (k:Kd) (a u:U),st1[i]?=a5 (a5 (k,u))->k.root=b6->eF st1 (.bor i,a)=(.bor i,u):=λi k a u b hk=>by
  unfold eF
  dsimp only
  rw[b];simp[hk]
 have e:((Kd.bor i,a)::(Kd.bor j,d)::rs).map (eF st1)=(.bor i,.lst us)::(.bor j,.lst vs)::rs:=by rw[d7,d7,x i k a _ b hk,x j k' d _ m p,D]
 have g:ig ((Kd.bor i,U.lst us)::(Kd.bor j,U.lst vs)::rs) 0=a5 i:=by
  change(if cB us=b6 then a5 i else b8)=_;rw[ļ B]
 have h:ig ((Kd.bor i,U.lst us)::(Kd.bor j,U.lst vs)::rs) 1=a5 j:=by
  change(if cB vs=b6 then a5 j else b8)=_;rw[ļ C]
 show s_ (rs:=(.bor i,a)::(.bor j,d)::rs) (ws:=[.lst s,.lst t]) (st1:=st1) (aa (w i k0 a l c) (aa (w j k0' d y z) A)) ?_ ?_ J ?_ ?_
 .rw[e];show⟨⟨k,hk,b⟩,⟨k',p,m⟩,G⟩
 .rw[e];show I
 .rw[e];unfold qv;rw[cb,cb];show⟨⟨by simp[g,h],by simp[g,h,o]⟩,i9.mpr λq L=>?_⟩
  match q with
  |0=>simp
  |1=>simp
  |q+2 =>
   have hl:q<rs.length:=by have:=u5.mp L;simpa using this
   rw[K'];show .inr ?_;rw[show((Kd.bor i,U.lst us)::(Kd.bor j,U.lst vs)::rs).getD (q+2) (.loc,.IV)=rs[q] by simp[Oz,hl]];simp only[d7,Kp,g,h];show H _ (LL hl)
 .rw[e];unfold gW;rw[g]
  dsimp only
  rw[b]
  dsimp only
  unfold gW;rw[h]
  dsimp only
  rw[gc o,m];rfl
def Cu(d:i≠j)(e:st[i]?=a5 (a5 (k0,y)))(g:k0.root=b6)(h:st[j]?=a5 (a5 (k0',z)))(l:k0'.root=b6)(m:Run (bw Γ es) st rs st1)
  (n:st1[i]?=a5 (a5 (k,.lst us))) (hk:k.root=b6) (o:cB us=b6) (p:st1[j]?=a5 (a5 (k',.lst vs))) (q:k'.root=b6) (s:cB vs=b6) (a:rs.all QH=b6)
  (t:Γ f (.lst us::.lst vs::rs.map (·.2))=a5 (.ok (b,.tup [v,.lst u,.lst w]))) (x:b=.own\/b=.loc):Run (ev Γ (.IT f (.var i::.var j::es) [0,1])) st (b,v) ((st1.set i (a5 (k,.lst u))).set j (a5 (k',.lst w))) :=
 zX d e g h l m n hk o p q s ((td λr c=>rj (i9.mp a r c)).trans (VA rs)) (rm a) (λr c=>nS (i9.mp a r c)) t x
end
abbrev lX(Γ:Tab):Prop:=∀(ns:List Int) (u:U) (ws:List Str) (T:Int),Src T u->T+500<2 ^ 62->ns.length<1000->0<ws.length->ws.length<1000000 ->
  ∃(rs:List Row) (a:List Int) (u':U),Γ "_law_book" [.lst (ns.map .int),u,.lst (ws.map .str)]=a5 (.ok (.loc,.tup [.tup (rs.map B'),.lst (a.map .int),u']))/\c7 ws rs/\rs.length<=60/\a.length<=ns.length/\Src (T+500) u'
def zY(a:jc (I_ Pg d))(b:bH (I_ Pg d))(c:lU (I_ Pg d))(f:lV (I_ Pg d))(h:Jy Pg "_law_book" pE):lX (I_ Pg (d+1)):=by
 intro ns u ws T g i j k l;have⟨rs,m,u',e,r⟩:=tH a b c f g i j k l;show⟨rs,m,u',by rw[cQ h _ rfl];show e,r⟩
def rq(a:jc Γ){ns:List Int}:∃(b:List Int) (u:U),Run (ev Γ (.IT "_law_source" [.var 1,.cst (.int k)] [0])) (o0::a5 (.own,.lst (ns.map .int))::rest) (.own,u) (o0::a5 (.own,.lst (b.map .int))::rest)/\b.length<=ns.length/\Src 0 u:=by
 by_cases h:ns=[]
 .subst h;show⟨[],fM k 0 1,Fi (k0:=.own) (k:=.own) a rfl rfl aj rfl rfl,hU _,⟨_,_,_,rfl,⋯,⋯⟩⟩
 .have e:=VO h;generalize ns.dropLast=l at e;generalize ns.getLast h=c at e;subst e;show⟨l,fM (c / 2) 0 (c % 2),zM (k0:=.own) (k:=.own) a rfl rfl aj rfl rfl,by simp,⟨_,_,_,rfl,⋯,⋯⟩⟩
def Src.lst(h:Src T u):∃us,u=.lst us/\cB us=b6:=by
 obtain⟨a,t,w,rfl,_,_⟩:=h;show⟨_,rfl,rfl⟩
end TM
namespace KL
open PySem L2 TM
abbrev dr:Fn:=⟨"gathered",1,4,[.newD 1,.Ji b6 [2,3] .seq [.var 0] [.ite (.inD b6 (.var 2) 1) [.putD 1 (.var 2) (.lst [])] [],.Kz 1 (.var 2) (.var 3)],.ret (.Pe 1)]⟩
abbrev bh:Fn:=⟨"places_that_tell",1,4,[.set 1 (.lst []),.Ji b6 [2,3] .Na [.var 0] [.ext 1 (.comp 1 cc .seq [.idx (.var 3) (.cst (.int 1))] [] (.tup [.var 0,.var 3]))],.ret (.call "gathered" [.var 1])]⟩
abbrev cR:Fn:=⟨"new_steps",3,6,[.set 3 (.Ky cc),.Ji cc [4] .seq [.var 1] [.set 5 (.idx (.idx (.var 0) (.var 4)) (.cst (.int 0))),.ite (.and [.cmp .Ja (.var 5) (.var 2),.cmp .Ja (.var 5) (.var 3)]) [.put 3 (.var 5) (.var 4)] []],.ret (.Pf 3)]⟩
abbrev br:Fn:=⟨"steps_in_rounds",1,10,[.set 1 (.call "places_that_tell" [.var 0]),.set 2 (.comp 1 cc .seq [.var 0] [] (.bi .len [.idx (.var 0) (.cst (.int 1))])),.set 3 (.Ky cc),.set 4 (.lst []),.set 5 (.comp 2 b6 .Na [.var 2] [.cmp .eq (.var 1) (.cst (.int 0))] (.var 0)),.MV (.cmp .ne (.var 5) (.lst [])) [.set 6 (.call "new_steps" [.var 0,.var 5,.var 3]),.set 5 (.lst []),.Ji b6 [7,8] .seq [.var 6] [.put 3 (.var 7) (.cst (.bl b6)),.Ji cc [9] .seq [.Lv 1 (.var 7) (.lst [])] [.aug b6 2 (.var 9) (.cst (.int 1)),.ite (.cmp .eq (.idx (.var 2) (.var 9)) (.cst (.int 0))) [.app 5 (.var 9)] []]],.ite (.cmp .ne (.var 6) (.lst [])) [.app 4 (.var 6)] []],.ret (.var 4)]⟩
abbrev fD:Fn:=⟨"order",1,3,[.set 1 (.lst []),.Ji cc [2] .seq [.call "steps_in_rounds" [.var 0]] [.ext 1 (.var 2)],.ret (.var 1)]⟩
abbrev fb:Fn:=⟨"learnt",1,1,[.ret (.bi .sorted [.comp 2 b6 .seq [.call "order" [.var 0]] [] (.var 0)])]⟩
end KL
namespace KL
open PySem L2 TM Jq Od
abbrev cA(f:Str->List Nat)(k:Str):U:=.lst ((f k).map λt:Nat=>U.int (t:Nat))
def jB(d:List (Str×Nat))(y:Str×Nat)(k:Str):aK (d++[y]) k=if y.1=k then aK d k++[y.2] else aK d k:=by
 rw[qY];by_cases e:y.1=k
 .rw[ļ e];simp[aK,e]
 .rw[Ľ e];simp[aK,e]
def zZ(d:List (Str×Nat))(k:Str):(aK d k).length<=d.length:=by
 unfold aK;rw[c4];show nc _ _
section
def pH(hl:ps.length<=1000):∃ks:List Str,(∀w,w∉ks->aK ps w=[])/\da Γ dr [.lst (ps.map stN)]=a5 (.ok (.own,.IQ ks (ks.map (cA (aK ps))))):=by
 have hsz:(2000:Nat)<=cL:=by decide
 have x:TM.start [.lst (ps.map stN)] 4=[a5 (.any,.lst (ps.map stN)),b8,b8,b8]:=rfl;let S:=λ(ks:List Str) (us:List U) (o2 o3:Option (Kd×U))=>([a5 (.any,.lst (ps.map stN)),a5 (.IL,.IQ ks us),o2,o3]:aw)
 let body:List TM.S:=[.ite (.inD b6 (.var 2) 1)
    [.putD 1 (.var 2) (.lst [])]
    [],
   .Kz 1 (.var 2) (.var 3)]
 have⟨st',A,l,ks,o2,o3,e,f,hk,B⟩:=bT (t:=b6) (is:=[2,3]) (body:=execs Γ body) (rs:=[(.any,.lst (ps.map stN))]) (λp:Str×Nat=>(Kd.any,stN p))
  (λd r st=>d++r=ps/\∃(ks:List Str) (o2 o3:Option (Kd×U)),st=S ks (ks.map (cA (aK d))) o2 o3/\ks.Nodup/\(∀w,w∉ks->aK d w=[])/\ks.length<=d.length) (λ_ _ _ _=>trivial) (λd y r st C=>by
   have⟨l,ks,o2,o3,e,f,hk,B⟩:=C;subst e;have J:d.length<1000:=by have:=Ł wh l;simp at this;lia
   let g:Option (Kd×U):=a5 (.any,.str y.1);let i:Option (Kd×U):=a5 (.any,.int (y.2:Nat));have L:=zZ d y.1;have j:∀(ks:List Str),ks.Nodup->y.1∈ks->Run (execs Γ [.Kz 1 (.var 2) (.var 3)]) (S ks (ks.map (cA (aK d))) g i) .nx (S ks (ks.map (cA (aK (d++[y])))) g i):=λks f c=>by
    have D:dI ks (ks.map (cA (aK d))) y.1=a5 (.lst ((aK d y.1).map λt:Nat=>U.int (t:Nat))):=by rw[jb,ļ c];rfl
    have hs:jn ks (ks.map (cA (aK d))) y.1 (.lst ((aK d y.1).map (λt:Nat=>U.int (t:Nat))++[.int (y.2:Nat)]))=ks.map (cA (aK (d++[y]))):=by
     rw[lR _ _ _ _ f];show td λk hk=>?_;unfold cA;rw[jB];by_cases e:y.1=k
     .subst e;rw[ļ rfl,ļ rfl];simp
     .rw[Ľ e,Ľ (nH e)]
    rw[<-hs];show zw (k:=.any) (r:=(.any,.int (y.2:Nat))) rfl (aY rfl) c (aY rfl) (nI rfl) D (by rw[c4];lia) aB
   have m:Run (Jl Γ (.inD b6 (.var 2) 1)) (S ks (ks.map (cA (aK d))) g i) (!cK (y.1∈ks)) (S ks (ks.map (cA (aK d))) g i):=zt (neg:=b6) (k:=.any) (aY rfl) rfl;have o:Run (dy b6 [2,3] (.any,stN y)) (S ks (ks.map (cA (aK d))) o2 o3) () (S ks (ks.map (cA (aK d))) g i):=jR (.inr rfl);by_cases c:y.1∈ks
   .rw[Ŀ c]at m;show⟨_,_,o,lL m (λh=>by cases h) λ_=>j ks f c,by rw[<-l];simp,ks,_,_,rfl,f,λw n=>?_,by simp;lia⟩;have G:y.1≠w:=λz=>n (by rw[<-z];show c);rw[jB,Ľ G];show hk w n
   .rw[ľ c]at m;have q:(ks++[y.1]).Nodup:=by
     rw[rz];show⟨f,by simp,λa H b I e=>?_⟩;have:b=y.1:=by simpa using I
     subst this;show c (e▸H)
    have em:ks.map (cA (aK d))++[.lst []]=(ks++[y.1]).map (cA (aK d)):=by
     rw[ki];congr 1
     change _=[cA (aK d) y.1]
     unfold cA;rw[hk y.1 c];rfl
    have s:=j (ks++[y.1]) q (by simp);rw[<-em]at s;show⟨_,_,o,lL m (λ_=>zu (k:=.any) (xs:=[]) (bA ai trivial az (i5 _)) rfl (aY rfl) c ⋯ s) λh=>(by cases h),by rw[<-l];simp,ks++[y.1],_,_,rfl,q,λw n=>?_,by simp;lia⟩;have v:w∉ks/\w≠y.1:=by simpa using n
    rw[jB,Ľ (nH v.2)];show hk w v.1) ps [] (S [] [] b8 b8) ⟨rfl,[],b8,b8,rfl,.nil,λ_ _=>rfl,hU _⟩
 subst e;rw[i7]at *;show⟨ks,hk,?_⟩;have e:(ps.map stN).map (λu=>(kE .any,u))=ps.map λp=>(Kd.any,stN p):=by rw[i4];rfl
 show aZ rfl (.inl rfl) x (zr (cZ (rs:=[(.any,.lst (ps.map stN))]) (st1:=S [] [] b8 b8) (aa (aY rfl) ai) trivial rfl rfl (by rw[e];show A) (bE (Hc rfl) (jQ rfl))))
abbrev C7(Γ:Tab):Prop:=∀ps:List (Str×Nat),ps.length<=1000->∃ks:List Str,(∀w,w∉ks->aK ps w=[])/\Γ "gathered" [.lst (ps.map stN)]=a5 (.ok (.own,.IQ ks (ks.map (cA (aK ps)))))
def tK(s:C7 Γ)(v:Once rows)(z:∀r∈rows,r.2.length<=8)(I:rows.length<=120):
  ∃ks:List Str,(∀w,w∉ks->JA rows rows.length w=[])/\da Γ bh [.tup (rows.map B')]=a5 (.ok (.own,.IQ ks (ks.map (cA (JA rows rows.length))))):=by
 have hsz:(2000:Nat)<=cL:=by decide
 have A:TM.start [.tup (rows.map B')] 4=[a5 (.loc,.tup (rows.map B')),b8,b8,b8]:=by simp[TM.start,Jo,bM]
 let S:=λ(ps:List (Str×Nat)) (o2 o3:Option (Kd×U))=>([a5 (.loc,.tup (rows.map B')),a5 (.own,.lst (ps.map stN)),o2,o3]:aw)
 let body:List TM.S:=[.ext 1 (.comp 1 cc .seq [.idx (.var 3) (.cst (.int 1))] [] (.tup [.var 0,.var 3]))]
 have⟨st',B,g,ps,o2,o3,e,h,l⟩:=bT (t:=b6) (is:=[2,3]) (body:=execs Γ body) (rs:=[(.loc,.tup (rows.map B'))]) (λp:Row×Nat=>(Kd.loc,U.tup [.int (p.2:Nat),B' p.1]))
  (λd r st=>d++r=rows.zipIdx/\∃(ps:List (Str×Nat)) (o2 o3:Option (Kd×U)),st=S ps o2 o3/\(∀w,aK ps w=JA rows d.length w)/\ps.length<=8 * d.length) (λ_ _ _ _=>trivial) (λd y r st C=>by
   have⟨g,ps,o2,o3,e,h,l⟩:=C;subst e;have⟨f,i⟩:=y;have m:(rows.zipIdx)[d.length]?=a5 (f,i):=by rw[<-g];simp
   rw[Tq,eH]at m;have⟨a,n,e⟩:=m;have D:a=f:=Ł å e;have o:0+d.length=i:=Ł Prod.snd e;rw[Qa]at o;subst D o;have J:d.length<120:=by have:=Ł wh g;simp at this;lia
   have L:=z a (mN n);let b:Option (Kd×U):=a5 (.loc,.int (d.length:Nat));let c:Option (Kd×U):=a5 (.loc,B' a);have q:=lM (cond:=a_ Γ []) (elt:=ev Γ (.tup [.var 0,.var 3])) (src:=[(.loc,.tup (a.2.map .str))]) (st:=S ps b c) trivial .loc (.inl rfl) U.str (λx=>stN (x,d.length)) .loc (λ_=>nK) a.2 [] (by simp;lia)
    (λy _=>⟨dF (aa (af rfl) (aa (af rfl) ai)) trivial (av aF (av aF az)) (by change 2<=cL;lia),aF⟩)
   rw[i7]at q;have e:(a.2.map U.str).map (λu=>(kE .loc,u))=a.2.map λr=>(Kd.loc,U.str r):=by rw[i4];rfl
   have G:Run (ev Γ (.comp 1 cc .seq [.idx (.var 3) (.cst (.int 1))] [] (.tup [.var 0,.var 3]))) (S ps b c) (.own,.lst (a.2.map λx=>stN (x,d.length))) (S ps b c) :=
    dC (rs:=[(.loc,.tup (a.2.map .str))]) (aa (bf (x:=(.loc,B' a)) (af rfl) aj trivial rfl) ai) trivial (by change a5 _=_;rw[e]) q
   have em:ps.map stN++(a.2.map λx=>stN (x,d.length))=(ps++a.2.map λx=>(x,d.length)).map stN:=by simp
   show⟨S ps b c,S (ps++a.2.map λx=>(x,d.length)) b c,jR (.inl rfl),?_,by rw[<-g];simp,_,_,_,rfl,λw=>?_,by simp;lia⟩
   .change Run _ _ _ [a5 (.loc,.tup (rows.map B')),a5 (.own,.lst ((ps++a.2.map λx=>(x,d.length)).map stN)),b,c];rw[<-em];show zl (k:=.own) (k':=.own) rfl G rfl rfl (vg (by rw[c4,c4];lia) rfl) aB
   .rw[hY];show wL v n h w) rows.zipIdx [] (S [] b8 b8) ⟨rfl,[],b8,b8,rfl,λw=>by simp[aK,JA],by simp⟩
 subst e;rw[i7,List.length_zipIdx]at h l;have j:KI .Na [(.loc,.tup (rows.map B'))]=a5 (rows.zipIdx.map λp:Row×Nat=>(Kd.loc,U.tup [.int (p.2:Nat),B' p.1])):=by
  change a5 ((rows.map B').zipIdx.map λp=>(kE .loc,U.tup [.int p.2,p.1]))=_;rw[Ý,i4];rfl
 have⟨ks,k1,k2⟩:=s ps ⋯;have H:aK ps=JA rows rows.length:=funext h;rw[H]at k1 k2;show⟨ks,k1,?_⟩;show aZ rfl (.inl rfl) A (ay (r:=(.own,.lst [])) (bA ai trivial az (i5 _)) a9 (cZ (rs:=[(.loc,.tup (rows.map B'))]) (st1:=S [] b8 b8) (aa (af rfl) ai) trivial j rfl B
  (bE (aW (aa (aI rfl) ai) ⟨⟨.own,rfl,rfl⟩,trivial⟩ k2) iX)))
def mF{names:List Str}(v:∀r∈rows,r.1∈names)(Q:names.length<64)(y:∀t∈R,t<rows.length):
  ∃st:List (Str×Nat),NS rows K0 R st/\da Γ cR [.tup (rows.map B'),.lst (R.map λt:Nat=>.int (t:Nat)),.IQ K0 vs]=a5 (.ok (.own,.lst (st.map stN))):=by
 have hsz:(2000:Nat)<=cL:=by decide
 have z:TM.start [.tup (rows.map B'),.lst (R.map λt:Nat=>.int (t:Nat)),.IQ K0 vs] 6=[a5 (.loc,.tup (rows.map B')),a5 (.any,.lst (R.map λt:Nat=>.int (t:Nat))),a5 (.any,.IQ K0 vs),b8,b8,b8]:=by simp[TM.start,Jo,bM]
 let S:=λ(ps:List (Str×Nat)) (o4 o5:Option (Kd×U))=>([a5 (.loc,.tup (rows.map B')),a5 (.any,.lst (R.map λt:Nat=>.int (t:Nat))),a5 (.any,.IQ K0 vs),a5 (.own,.IQ (ps.map (·.1)) (ps.map λp=>.int (p.2:Nat))),o4,o5]:aw)
 let body:List TM.S:=[.set 5 (.idx (.idx (.var 0) (.var 4)) (.cst (.int 0))),
   .ite (.and [.cmp .Ja (.var 5) (.var 2),.cmp .Ja (.var 5) (.var 3)])
    [.put 3 (.var 5) (.var 4)]
    []]
 have o:∀{d:List Nat} {ps:List (Str×Nat)},NS rows K0 d ps->ps.length<=names.length:=λ{d ps} x=>by
  have:=vm x.once (L:=names) λw A=>by
   have⟨s,hs,rfl⟩:=i6.mp A;obtain⟨_,_,r,b,c⟩:=x.ok s hs;rw[<-c];show v r (mN b)
  simpa using this
 have⟨st',B,j,ps,o4,o5,e,x⟩:=bT (t:=cc) (is:=[4]) (body:=execs Γ body) (rs:=[(.any,.lst (R.map λt:Nat=>.int (t:Nat)))]) (λt:Nat=>(Kd.any,U.int (t:Nat)))
  (λd r st=>d++r=R/\∃(ps:List (Str×Nat)) (o4 o5:Option (Kd×U)),st=S ps o4 o5/\NS rows K0 d ps) (λ_ _ _ _=>trivial) (λd t r st C=>by
   have⟨j,ps,o4,o5,e,x⟩:=C;subst e;have D:t<rows.length:=y t (by rw[<-j];simp);have l:rows[t]?=a5 rows[t]:=by simp[D]
   generalize rows[t]=a at l;let f:Option (Kd×U):=a5 (.any,.int (t:Nat));let m:Option (Kd×U):=a5 (.loc,.str a.1);have G:=o x;have i:Run (Jl Γ (.and [.cmp .Ja (.var 5) (.var 2),.cmp .Ja (.var 5) (.var 3)])) (S ps f m) (!cK (a.1∈K0)&&!cK (a.1∈ps.map (·.1))) (S ps f m) :=
    nJ (pA (aV (af rfl) (aY rfl) trivial eZ) λ_=>dB (aV (af rfl) (aI rfl) ⟨⟨.own,rfl,rfl⟩,trivial⟩ eZ))
   have g:∀{q:aw},Run (execs Γ [.ite (.and [.cmp .Ja (.var 5) (.var 2),.cmp .Ja (.var 5) (.var 3)])
    [.put 3 (.var 5) (.var 4)]
    []]) (S ps f m) .nx q->Run (execs Γ body) (S ps f o5) .nx q:=λh =>
    ay (r:=(.loc,.str a.1)) (bf (x:=(.loc,B' a)) (bf (af rfl) (aY rfl) trivial (oy (Cj l))) aj trivial rfl) aG h
   have n:Run (dy cc [4] (.any,.int (t:Nat))) (S ps o4 o5) () (S ps f o5):=eB jP;by_cases b:a.1∈K0
   .rw[Ŀ b]at i;show⟨_,_,n,g (lL i (λh=>by cases h) λ_=>aB),by rw[<-j];simp,ps,_,_,rfl,x.skip l (.inl b)⟩
   .by_cases c:a.1∈ps.map (·.1)
    .rw[ľ b,Ŀ c]at i;show⟨_,_,n,g (lL i (λh=>by cases h) λ_=>aB),by rw[<-j];simp,ps,_,_,rfl,x.skip l (.inr c)⟩
    .rw[ľ b,ľ c]at i;show⟨_,S (ps++[(a.1,t)]) f m,n,g (lL i (λ_=>?_) λh=>by cases h),by rw[<-j];simp,_,_,_,rfl,x.take l b c⟩;have H:(ps++[(a.1,t)]).map (·.1)=ps.map (·.1)++[a.1]:=by simp
     have I:((ps++[(a.1,t)]).map λp=>U.int (p.2:Nat))=(ps.map λp=>U.int (p.2:Nat))++[.int (t:Nat)]:=by simp
     change Run _ _ _ [a5 (.loc,.tup (rows.map B')),a5 (.any,.lst (R.map λt:Nat=>.int (t:Nat))),a5 (.any,.IQ K0 vs),a5 (.own,.IQ ((ps++[(a.1,t)]).map (·.1)) ((ps++[(a.1,t)]).map λp=>.int (p.2:Nat))),f,m];rw[H,I];show iY (k:=.own) (rv:=(.any,.int (t:Nat))) (rk:=(.loc,.str a.1)) (aY rfl) rfl (af rfl) (av (nI rfl) (av aF az)) rfl rfl (vp (by rw[c4];lia) c) aB) R [] (S [] b8 b8) ⟨rfl,[],b8,b8,rfl,NS.start K0⟩
 subst e;rw[i7]at x;have G:=o x;have⟨J,N,O⟩:=Cg (ps:=ps) ⋯ x.once;show⟨J,x.perm N,?_⟩;have e:(R.map λt:Nat=>U.int (t:Nat)).map (λu=>(kE .any,u))=R.map λt=>(Kd.any,U.int (t:Nat)):=by rw[i4];rfl
 show aZ rfl (.inl rfl) z (ay (r:=(.own,.IQ [] [])) lI a9 (cZ (rs:=[(.any,.lst (R.map λt:Nat=>.int (t:Nat)))]) (st1:=S [] b8 b8) (aa (aY rfl) ai) trivial rfl rfl (by rw[e];show B) (bE (He rfl O) iX)))
end
abbrev mi(rows:List Row)(K0:List Str)(d:List Nat)(p:Nat):Int:=(cnt rows K0 p:Int) - (if p∈d then 1 else 0)
abbrev bN(rows:List Row)(f:Nat->Int):List U:=(gs rows.length).map λp=>U.int (f p)
abbrev fE(R:List Nat):List U:=R.map λt:Nat=>U.int (t:Nat)
def Cv(rows:List Row)(K0:List Str):bN rows (mi rows K0 [])=bN rows λp=>(cnt rows K0 p:Int):=by
 unfold bN mi;show td λp _=>?_;simp
def Cw(b:Once rows)(c:w∉K0):bN rows (mi rows K0 (JA rows rows.length w))=bN rows λp=>(cnt rows (K0++[w]) p:Int):=by
 unfold bN mi;show td λp d=>?_;have e:=u5.mp d;have a:=pB b c p;by_cases h:w∈told rows p
 .rw[ļ (ja.mpr ⟨e,h⟩)];rw[ļ h]at a;change U.int ((cnt rows K0 p:Int) - 1)=U.int (cnt rows (K0++[w]) p:Int);congr 1
  lia
 .rw[Ľ λz=>h (ja.mp z).2];rw[Ľ h]at a;change U.int ((cnt rows K0 p:Int) - 0)=U.int (cnt rows (K0++[w]) p:Int);congr 1
  lia
def z_(a:t∉d):(bN rows (mi rows K0 d)).set t (.int (mi rows K0 d t - 1))=bN rows (mi rows K0 (d++[t])):=by
 unfold bN;rw[set_range];show td λp _=>?_;unfold mi;by_cases e:p=t
 .subst e;rw[ļ rfl,Ľ a,ļ (by simp)];rw[show((cnt rows K0 p:Int) - 0 - 1)=(cnt rows K0 p:Int) - 1 by lia]
 .rw[Ľ e];have:(p∈d++[t])↔p∈d:=by simp[e]
  simp only[this]
def Aa(h:t<rows.length):(bN rows f)[t]?=a5 (.int (f t)):=by simp[bN,h]
section
variable{Γ:Tab}{rows:List Row}
abbrev vv:List TM.S:=[.aug b6 2 (.var 9) (.cst (.int 1)),.ite (.cmp .eq (.idx (.var 2) (.var 9)) (.cst (.int 0))) [.app 5 (.var 9)] []]
def rA(u:Once rows)(J:rows.length<=120)(v:w∉K0)(L:R.length<=14400)(o9:Option (Kd×U))(y:∀st,bq src st):∃l:Option (Kd×U),
  Run (forM cc [9] (execs Γ vv) src ((JA rows rows.length w).map λt:Nat=>(Kd.loc,U.int (t:Nat))))
   [b0,b1,a5 (.own,.lst (bN rows λp=>(cnt rows K0 p:Int))),b3,b4,a5 (.own,.lst (fE R)),o6,o7,o8,o9] .nx
   [b0,b1,a5 (.own,.lst (bN rows λp=>(cnt rows (K0++[w]) p:Int))),b3,b4,a5 (.own,.lst (fE (R++(JA rows rows.length w).filter λt=>cK (cnt rows K0 t=1)))),o6,o7,o8,l]:=by
 have hsz:(20000:Nat)<=cL:=by decide
 let S:=λ(ms:List U) (R:List Nat) (o9:Option (Kd×U))=>([b0,b1,a5 (.own,.lst ms),b3,b4,a5 (.own,.lst (fE R)),o6,o7,o8,o9]:aw)
 have⟨st',m,c,l,e⟩:=bT (t:=cc) (is:=[9]) (body:=execs Γ vv) (rs:=src) (λt:Nat=>(Kd.loc,U.int (t:Nat)))
  (λd r st=>d++r=JA rows rows.length w/\∃o9:Option (Kd×U),st=S (bN rows (mi rows K0 d)) (R++d.filter λt=>cK (cnt rows K0 t=1)) o9) (λ_ _ st _=>y st) (λd t r st A=>by
   have⟨c,o9,e⟩:=A;subst e;have B:t∈JA rows rows.length w:=by rw[<-c];simp
   have n:t<rows.length:=(ja.mp B).1;have o:=wK (rows:=rows) rows.length w;have C:t∉d:=λz=>by
    rw[<-c,rz]at o;show o.2.2 t z t (by simp) rfl
   have N:d.length<=120:=by
    have D:=Ł wh c;have G:(JA rows rows.length w).length<=(gs rows.length).length:=nc _ _;simp at D G;lia
   let b:Option (Kd×U):=a5 (.loc,.int (t:Nat));let a:=R++d.filter λt=>cK (cnt rows K0 t=1);have O:a.length<=14520:=by
    have:(d.filter λt=>cK (cnt rows K0 t=1)).length<=d.length:=nc _ _;change(R++_).length<=_;rw[hY];lia
   have H:JK (bN rows (mi rows K0 (d++[t]))) (t:Int)=a5 (.int (mi rows K0 (d++[t]) t)):=eL (Aa n);have I:mi rows K0 (d++[t]) t=(cnt rows K0 t:Int) - 1:=by unfold mi;rw[ļ (by simp)]
   have g:Run (Jl Γ (.cmp .eq (.idx (.var 2) (.var 9)) (.cst (.int 0)))) (S (bN rows (mi rows K0 (d++[t]))) a b) (cK (cnt rows K0 t=1)) (S (bN rows (mi rows K0 (d++[t]))) a b) :=
    aV (bf (x:=(.bor 2,.lst (bN rows (mi rows K0 (d++[t]))))) (aI rfl) (af rfl) ⟨⟨.own,rfl,rfl⟩,trivial⟩ (bS H)) aj trivial (bL (by
     rw[I,H8];simp;lia))
   have f:∀{q:aw},Run (execs Γ [.ite (.cmp .eq (.idx (.var 2) (.var 9)) (.cst (.int 0)))
      [.app 5 (.var 9)]
      []]) (S (bN rows (mi rows K0 (d++[t]))) a b) .nx q->Run (execs Γ vv) (S (bN rows (mi rows K0 d)) a b) .nx q:=λh=>by
    show Hd (us:=bN rows (mi rows K0 d)) (k1:=.loc) (k2:=.loc) (j:=t) (w:=1) rfl (af rfl) (Aa n) aj ?_;rw[z_ C];show h
   have s:Run (dy cc [9] (.loc,.int (t:Nat))) (S (bN rows (mi rows K0 d)) a o9) () (S (bN rows (mi rows K0 d)) a b):=eB aG;cases i:cK (cnt rows K0 t=1) with
   |false =>
    rw[i]at g;show⟨_,_,s,f (lL g (λh=>by cases h) λ_=>aB),by rw[<-c];simp,b,?_⟩;rw[MO,w6,i];simp[S,a]
   |true =>
    rw[i]at g;show⟨_,S (bN rows (mi rows K0 (d++[t]))) (a++[t]) b,s,f (lL g (λ_=>?_) λh=>by cases h),by rw[<-c];simp,b,?_⟩
    .have em:fE (a++[t])=fE a++[.int (t:Nat)]:=by simp[fE]
     change Run _ _ _ [b0,b1,a5 (.own,.lst (bN rows (mi rows K0 (d++[t])))),b3,b4,a5 (.own,.lst (fE (a++[t]))),o6,o7,o8,b];rw[em];show gZ (k:=.own) (k':=.own) (r:=(.loc,.int (t:Nat))) rfl (af rfl) aF rfl rfl (by unfold fE;rw[c4];lia) aB
    .rw[MO,w6,i];simp[S,a]) (JA rows rows.length w) [] (S (bN rows (mi rows K0 [])) R o9) ⟨rfl,o9,by simp⟩
 subst e;rw[i7]at m;rw[Cv,Cw u v]at m;show⟨l,m⟩
abbrev Ab:List TM.S:=[.put 3 (.var 7) (.cst (.bl b6)),.Ji cc [9] .seq [.Lv 1 (.var 7) (.lst [])] vv]
def wR(n:Once rows)(y:rows.length<=120)(A:∀w,w∉ks->JA rows rows.length w=[])(o:(K0++st.map (·.1)).Nodup)(hl:K0.length+st.length<=120)(vs:List U)(o7 o8 o9:Option (Kd×U)):∃(g:List U) (R:List Nat) (i j a:Option (Kd×U)),
  RI rows K0 (K0++st.map (·.1)) R/\(st=[]->R=[])/\Run (forM b6 [7,8] (execs Γ Ab) [(.bor 6,.lst (st.map stN))] (st.map λs=>(Kd.loc,stN s)))
   [b0,a5 (.own,.IQ ks (ks.map (cA (JA rows rows.length)))),a5 (.own,.lst (bN rows λp=>(cnt rows K0 p:Int))),a5 (.own,.IQ K0 vs),b4,a5 (.own,.lst []),a5 (.own,.lst (st.map stN)),o7,o8,o9] .nx
   [b0,a5 (.own,.IQ ks (ks.map (cA (JA rows rows.length)))),a5 (.own,.lst (bN rows λp=>(cnt rows (K0++st.map (·.1)) p:Int))),a5 (.own,.IQ (K0++st.map (·.1)) g),b4,a5 (.own,.lst (fE R)),a5 (.own,.lst (st.map stN)),i,j,a]:=by
 let S:=λ(K:List Str) (vs:List U) (R:List Nat) (o7 o8 o9:Option (Kd×U))=>([b0,a5 (.own,.IQ ks (ks.map (cA (JA rows rows.length)))),a5 (.own,.lst (bN rows λp=>(cnt rows K p:Int))),a5 (.own,.IQ K vs),b4,a5 (.own,.lst (fE R)),a5 (.own,.lst (st.map stN)),o7,o8,o9]:aw)
 have⟨st',B,b,g,R,i,j,a,e,x,C,q⟩:=bT (t:=b6) (is:=[7,8]) (body:=execs Γ Ab) (rs:=[(.bor 6,.lst (st.map stN))]) (λs:Str×Nat=>(Kd.loc,stN s))
  (λd r l=>d++r=st/\∃(vs:List U) (R:List Nat) (o7 o8 o9:Option (Kd×U)),l=S (K0++d.map (·.1)) vs R o7 o8 o9/\RI rows K0 (K0++d.map (·.1)) R/\R.length<=120 * d.length/\(d=[]->R=[])) (λ_ _ l ⟨_,vs,R,o7,o8,o9,e,_⟩=>by subst e;show⟨⟨.own,rfl,rfl⟩,trivial⟩) (λd s r l D=>by
   have⟨b,vs,R,o7,o8,o9,e,x,C,q⟩:=D;subst e;have⟨w,p⟩:=s;have N:d.length<st.length:=by have:=Ł wh b;simp at this;lia
   have m:w∉K0++d.map (·.1):=λz=>by
    rw[<-b,ki,<-R6,rz]at o;show o.2.2 w z w (by simp) rfl
   let c:Option (Kd×U):=a5 (.loc,.str w);let f:Option (Kd×U):=a5 (.loc,.int (p:Nat));have⟨a,G⟩:=rA (Γ:=Γ) n y m (R:=R) ⋯ (b0:=b0) (b1:=a5 (.own,.IQ ks (ks.map (cA (JA rows rows.length))))) (b3:=a5 (.own,.IQ (K0++d.map (·.1)++[w]) (vs++[.bl b6]))) (b4:=b4) (o6:=a5 (.own,.lst (st.map stN))) (o7:=c) (o8:=f) o9 (src:=[(.loc,cA (JA rows rows.length) w)]) (λ_=>trivial);have em:K0++(d++[(w,p)]).map (·.1)=K0++d.map (·.1)++[w]:=by simp
   have H:(K0++d.map (·.1)).length<1000:=by rw[hY,c4];lia
   have I:(match dI ks (ks.map (cA (JA rows rows.length))) w with|some v=>(Kd.loc,v)|none=>(.loc,U.lst []))=(.loc,cA (JA rows rows.length) w):=by
    rw[jb];by_cases h:w∈ks
    .rw[ļ h]
    .rw[Ľ h];unfold cA;rw[A w h];rfl
   have J:((JA rows rows.length w).map λt:Nat=>U.int (t:Nat)).map (λu=>(kE .loc,u))=(JA rows rows.length w).map λt=>(Kd.loc,U.int (t:Nat)):=by rw[i4];rfl
   show⟨S (K0++d.map (·.1)) vs R c f o9,S (K0++d.map (·.1)++[w]) (vs++[.bl b6]) (R++(JA rows rows.length w).filter λt=>cK (cnt rows (K0++d.map (·.1)) t=1)) c f a,jR (.inl rfl),?_,by rw[<-b];simp,vs++[.bl b6],_,c,f,a,by rw[em],?_,?_,λz=>by simp at z⟩
   .show iY (k:=.own) (rv:=(.loc,.bl b6)) (rk:=(.loc,.str w)) aj rfl (af rfl) (av aF (av aF az)) rfl rfl (vp H m) ?_;show cZ (rs:=[(.loc,cA (JA rows rows.length) w)]) (aa (Fc (k:=.loc) (z:=(.own,.lst [])) (u:=.lst []) rfl (af rfl) (bA ai trivial az (i5 _)) qQ I) ai) trivial (by change a5 (Sl (λu=>(kE .loc,u)) _)=_;rw[J]) rfl G aB
   .rw[em];show x.step n m
   .have:((JA rows rows.length w).filter λt=>cK (cnt rows (K0++d.map (·.1)) t=1)).length<=120:=by
     show t6 (nc _ _) ?_;have L:(JA rows rows.length w).length<=(gs rows.length).length:=nc _ _;simp at L;lia
    rw[hY,hY,Jk];lia) st [] (S K0 vs [] o7 o8 o9) ⟨rfl,vs,[],o7,o8,o9,by simp[S],by simpa using RI.start K0,by simp,λ_=>rfl⟩
 subst e;show⟨g,R,i,j,a,by simpa using x,λz=>q (by simpa using z),by simpa[S,fE] using B⟩
abbrev gN(a:List (List (Str×Nat))):List U:=a.map λl=>U.lst (l.map stN)
abbrev Ac:List TM.S:=[.set 6 (.call "new_steps" [.var 0,.var 5,.var 3]),.set 5 (.lst []),.Ji b6 [7,8] .seq [.var 6] Ab,.ite (.cmp .ne (.var 6) (.lst [])) [.app 4 (.var 6)] []]
abbrev Ad(Γ:Tab)(rows:List Row):Prop:=∀(R:List Nat) (K0:List Str) (vs:List U),(∀t∈R,t<rows.length)->∃st:List (Str×Nat),NS rows K0 R st/\Γ "new_steps" [.tup (rows.map B'),.lst (fE R),.IQ K0 vs]=a5 (.ok (.own,.lst (st.map stN)))
theorem jC(G:Once rows)(H:rows.length<=120)(I:Ad Γ rows)(J:∀w,w∉ks->JA rows rows.length w=[]):∀(f:Nat) (c:List (Str×Nat)) (d:List (List (Str×Nat))) (R:List Nat) (vs:List U) (o6 o7 o8 o9:Option (Kd×U)),
  LI rows c R->d.flatten=c->d.length<=c.length->(rows.length - c.length)+(if R=[] then 1 else 2)<=f ->
  ∃(QN:List (Str×Nat)) (N:List (List (Str×Nat))) (st':aw),LI rows QN []/\N.flatten=QN/\N.length<=120/\st'[4]?=a5 (a5 (.own,.lst (gN N))) /\
   Run (fL (Jl Γ (.cmp .ne (.var 5) (.lst []))) (execs Γ Ac) f) [a5 (.loc,.tup (rows.map B')),a5 (.own,.IQ ks (ks.map (cA (JA rows rows.length)))),a5 (.own,.lst (bN rows λp=>(cnt rows (c.map (·.1)) p:Int))),a5 (.own,.IQ (c.map (·.1)) vs),a5 (.own,.lst (gN d)),a5 (.own,.lst (fE R)),o6,o7,o8,o9] .nx st'
 |0,c,d,R,vs,o6,o7,o8,o9,_,_,_,h=>by split at h<;>lia
 |f+1,c,d,R,vs,o6,o7,o8,o9,x,O,O8,h=>by
  have hsz:(20000:Nat)<=cL:=by decide
  have M5:∀{s:List (Str×Nat)} {g:List Nat},LI rows s g->s.length<=rows.length:=λ{s g} x=>by
   have:=vm x.nd x.wd;simpa using this
  have J4:=M5 x;let S:=λ(K:List Str) (vs:List U) (d:List (List (Str×Nat))) (R:List Nat) (o6 o7 o8 o9:Option (Kd×U))=>([a5 (.loc,.tup (rows.map B')),a5 (.own,.IQ ks (ks.map (cA (JA rows rows.length)))),a5 (.own,.lst (bN rows λp=>(cnt rows K p:Int))),a5 (.own,.IQ K vs),a5 (.own,.lst (gN d)),a5 (.own,.lst (fE R)),o6,o7,o8,o9]:aw)
  have Za:∀R:List Nat,J6 50 (.lst (fE R))=b6:=λR=>by change dw 49 _=b6;show nP (λt:Nat=>((t:Nat):Int)) R 49
  have A:Run (Jl Γ (.cmp .ne (.var 5) (.lst []))) (S (c.map (·.1)) vs d R o6 o7 o8 o9) (!(fE R).isEmpty) (S (c.map (·.1)) vs d R o6 o7 o8 o9) :=
   aV (aI rfl) (bA ai trivial az (i5 _)) ⟨⟨.own,rfl,rfl⟩,trivial⟩ (q_ (Za R))
  by_cases Q:R=[]
  .subst Q;show⟨c,d,_,x,O,⋯,rfl,nN A⟩
  .rw[Ľ Q]at h;have Zb:(!(fE R).isEmpty)=b6:=by
    cases R with
    |nil=>show absurd rfl Q
    |cons a l=>rfl
   rw[Zb]at A;have⟨st,n,IZ⟩:=I R (c.map (·.1)) vs λt ht=>(x.QG t ht).1;have Jj:(c.map (·.1)++st.map (·.1)).Nodup:=by
    rw[rz];show⟨x.nd,n.once,λa ha b q e=>?_⟩;have⟨s,hs,rfl⟩:=i6.mp q;show(n.ok s hs).2.1 (e▸ha)
   have ab:c.length+st.length<=rows.length:=by
    have:=vm Jj (L:=rows.map (·.1)) λy hy=>by
     rcases i1.mp hy with hy|hy
     .show x.wd y hy
     .have⟨s,hs,rfl⟩:=i6.mp hy;obtain⟨_,_,r,q1,q2⟩:=n.ok s hs;show i6.mpr ⟨r,mN q1,q2⟩
    simpa using this
   let v:Option (Kd×U):=a5 (.own,.lst (st.map stN));have⟨i,g,j,m,o,y,Zc,UJ⟩:=wR (Γ:=Γ) G H J Jj (by rw[c4];lia) (b0:=a5 (.loc,.tup (rows.map B'))) (b4:=a5 (.own,.lst (gN d))) vs o7 o8 o9;have T:=x.step n y;have em:(c++st).map (·.1)=c.map (·.1)++st.map (·.1):=ki;have Zd:J6 50 (.lst (st.map stN))=b6:=by change dw 49 _=b6;show rf st 48
   have B:Run (Jl Γ (.cmp .ne (.var 6) (.lst []))) (S (c.map (·.1)++st.map (·.1)) i d g v j m o) (!(st.map stN).isEmpty) (S (c.map (·.1)++st.map (·.1)) i d g v j m o) :=
    aV (aI rfl) (bA ai trivial az (i5 _)) ⟨⟨.own,rfl,rfl⟩,trivial⟩ (q_ Zd)
   have e1:(st.map stN).map (λu=>(kE (.bor 6),u))=st.map λs=>(Kd.loc,stN s):=by rw[i4];rfl
   have z:∀{KC:aw},Run (execs Γ [.ite (.cmp .ne (.var 6) (.lst []))
    [.app 4 (.var 6)]
    []]) (S (c.map (·.1)++st.map (·.1)) i d g v j m o) .nx KC->Run (execs Γ Ac) (S (c.map (·.1)) vs d R o6 o7 o8 o9) .nx KC:=λh=>by
    show ay (r:=(.own,.lst (st.map stN))) (aW (aa (af rfl) (aa (aI rfl) (aa (aI rfl) ai))) ⟨⟨.own,rfl,rfl⟩,⟨.own,rfl,rfl⟩,trivial⟩ IZ) a9 ?_;show ay (r:=(.own,.lst [])) (bA ai trivial az (i5 _)) a9 ?_;show cZ (rs:=[(.bor 6,.lst (st.map stN))]) (aa (aI rfl) ai) ⟨⟨.own,rfl,rfl⟩,trivial⟩ (by change a5 (Sl (λu=>(kE (.bor 6),u)) _)=_;rw[e1]) rfl UJ h
   by_cases C:st=[]
   .have Ze:=Zc C;subst C;rw[show(!(([]:List (Str×Nat)).map stN).isEmpty)=cc from rfl]at B;have ee:c++[]=c:=r6 _;rw[ee]at T;have q:=z (lL B (λh=>by cases h) λ_=>aB);have⟨Y,ON,st2,z1,z2,z3,z4,D⟩:=jC G H I J f c d g i v j m o T O O8 (by rw[ļ Ze];lia);show⟨Y,ON,st2,z1,z2,z3,z4,qZ A q ?_⟩;have e3:c.map (·.1)++([]:List (Str×Nat)).map (·.1)=c.map (·.1):=by simp
    change Run _ (S (c.map (·.1)++([]:List (Str×Nat)).map (·.1)) i d g v j m o) _ _;rw[e3];show D
   .have UK:(!(st.map stN).isEmpty)=b6:=by
     cases st with
     |nil=>show absurd rfl C
     |cons a l=>rfl
    rw[UK]at B;have Zf:0<st.length:=List.length_pos_iff.mpr C;have ef:gN (d++[st])=gN d++[.lst (st.map stN)]:=by simp[gN]
    have q:Run (execs Γ Ac) (S (c.map (·.1)) vs d R o6 o7 o8 o9) .nx (S (c.map (·.1)++st.map (·.1)) i (d++[st]) g (a5 (.loc,.lst (st.map stN))) j m o):=by
     show z (lL B (λ_=>?_) λh=>by cases h);change Run _ _ _ [a5 (.loc,.tup (rows.map B')),a5 (.own,.IQ ks (ks.map (cA (JA rows rows.length)))),a5 (.own,.lst (bN rows λp=>(cnt rows (c.map (·.1)++st.map (·.1)) p:Int))),a5 (.own,.IQ (c.map (·.1)++st.map (·.1)) i),a5 (.own,.lst (gN (d++[st]))),a5 (.own,.lst (fE g)),a5 (.loc,.lst (st.map stN)),j,m,o];rw[ef];show gZ (k:=.own) (k':=.own) (r:=(.bor 6,.lst (st.map stN))) (u:=.lst (st.map stN)) rfl (aI rfl) (vn rfl) rfl rfl (by unfold gN;rw[c4];lia) aB
    have⟨Y,ON,st2,z1,z2,z3,z4,D⟩:=jC G H I J f (c++st) (d++[st]) g i (a5 (.loc,.lst (st.map stN))) j m o T (by rw[Zq,O];simp) (by rw[hY,hY,Jk];lia) (by rw[hY];split<;>lia);show⟨Y,ON,st2,z1,z2,z3,z4,qZ A q ?_⟩;rw[em]at D;show D
abbrev C8(Γ:Tab)(rows:List Row):Prop:=∃ks:List Str,(∀w,w∉ks->JA rows rows.length w=[])/\Γ "places_that_tell" [.tup (rows.map B')]=a5 (.ok (.own,.IQ ks (ks.map (cA (JA rows rows.length)))))
def gO(s:Once rows)(v:rows.length<=120)(w:C8 Γ rows)(z:Ad Γ rows):∃(f:List (Str×Nat)) (d:List (List (Str×Nat))),LI rows f []/\d.flatten=f/\d.length<=120/\da Γ br [.tup (rows.map B')]=a5 (.ok (.own,.lst (gN d))):=by
 have hsz:(20000:Nat)<=cL:=by decide
 have⟨ks,A,B⟩:=w;have C:TM.start [.tup (rows.map B')] 10=[a5 (.loc,.tup (rows.map B')),b8,b8,b8,b8,b8,b8,b8,b8,b8]:=by simp[TM.start,Jo,bM]
 let g:Option (Kd×U):=a5 (.loc,.tup (rows.map B'));let j:Option (Kd×U):=a5 (.own,.IQ ks (ks.map (cA (JA rows rows.length))));let D:Option (Kd×U):=a5 (.own,.lst (bN rows λp=>(cnt rows [] p:Int)));have G:Run (ev Γ (.comp 1 cc .seq [.var 0] [] (.bi .len [.idx (.var 0) (.cst (.int 1))]))) [g,j,b8,b8,b8,b8,b8,b8,b8,b8] (.own,.lst (bN rows λp=>(cnt rows [] p:Int))) [g,j,b8,b8,b8,b8,b8,b8,b8,b8]:=by
  have c:=lM (cond:=a_ Γ []) (elt:=ev Γ (.bi .len [.idx (.var 0) (.cst (.int 1))])) (src:=[(.loc,.tup (rows.map B'))]) (st:=[g,j,b8,b8,b8,b8,b8,b8,b8,b8]) trivial .loc (.inl rfl) B' (λr=>.int (r.2.length:Nat)) .loc (λ_=>nK) rows [] (by simp;lia)
   (λy _=>⟨dc (aa (bf (x:=(.loc,B' y)) (af rfl) aj trivial rfl) ai) trivial (by rw[vf,c4]),aF⟩)
  rw[i7]at c;have e:(rows.map B').map (λu=>(kE .loc,u))=rows.map λr=>(Kd.loc,B' r):=by rw[i4];rfl
  have H:(rows.map λr=>U.int (r.2.length:Nat))=bN rows λp=>(cnt rows [] p:Int):=by
   unfold bN;apply LR
   .simp
   .intro i k l;have I:i<rows.length:=by simpa using k
    have m:told rows i=rows[i].2:=kq (by simp[I]);have J:cnt rows [] i=rows[i].2.length:=by unfold cnt tm;rw[m];simp
    simp[J]
  rw[H]at c;show dC (rs:=[(.loc,.tup (rows.map B'))]) (aa (af rfl) ai) trivial (by change a5 _=_;rw[e]) c
 let n:=(gs rows.length).filter λp=>cK (cnt rows [] p=0);let o:aw:=[g,j,D,a5 (.own,.IQ [] []),a5 (.own,.lst []),b8,b8,b8,b8,b8]
 have L:Run (ev Γ (.comp 2 b6 .Na [.var 2] [.cmp .eq (.var 1) (.cst (.int 0))] (.var 0))) o (.own,.lst (fE n)) o:=by
  have c:=lS (st:=o) (cond:=a_ Γ [.cmp .eq (.var 1) (.cst (.int 0))]) (elt:=ev Γ (.var 0)) (src:=[(.bor 2,.lst (bN rows λp=>(cnt rows [] p:Int)))]) ⟨⟨.own,rfl,rfl⟩,trivial⟩ (λp:Nat=>U.int (p:Nat)) (λp:Nat=>U.int (cnt rows [] p:Int)) (λp:Nat=>U.int (p:Nat)) (λp=>cK (cnt rows [] p=0)) (gs rows.length) [] (by simp;lia)
   (λy _=>⟨dB (aV (af rfl) aj trivial (bL (by rw[H8];simp))),af rfl⟩)
  rw[i7]at c;have e:((bN rows λp=>(cnt rows [] p:Int)).zipIdx.map λp=>(kE (.bor 2),U.tup [.int p.2,p.1]))=(gs rows.length).map λp:Nat=>(Kd.loc,U.tup [.int (p:Nat),.int (cnt rows [] p:Int)]):=by
   unfold bN;apply LR
   .simp
   .intro i k l;simp[kE]
  show dC (rs:=[(.bor 2,.lst (bN rows λp=>(cnt rows [] p:Int)))]) (aa (aI rfl) ai) ⟨⟨.own,rfl,rfl⟩,trivial⟩ (by change a5 _=_;rw[e]) c
 have N:LI rows [] n:=⟨.nil,λ_ _ _ h=>(nomatch h),λ_ h=>(nomatch h),λt m=>by
  have⟨a,b⟩:=ro.mp m;show⟨u5.mp a,by simpa using b⟩,λt r k l=>.inl (ro.mpr ⟨u5.mpr (dt.mp k).1,by simpa using l⟩)⟩
 have⟨f,d,st',O,Q,T,q,Y⟩:=jC s v z A fuel [] [] n [] b8 b8 b8 b8 N rfl (hU _) (by unfold fuel;split<;>simp<;>lia);show⟨f,d,O,Q,T,?_⟩;show aZ rfl (.inl rfl) C (ay (r:=(.own,.IQ ks (ks.map (cA (JA rows rows.length))))) (aW (aa (af rfl) ai) trivial B) a9 (ay G a9 (ay (r:=(.own,.IQ [] [])) lI a9 (ay (r:=(.own,.lst [])) (bA ai trivial az (i5 _)) a9 (ay L a9 (q9 Y (bE (aI q) (jQ q))))))))
def wU(hs:Γ "steps_in_rounds" [.tup (rows.map B')]=a5 (.ok (.own,.lst (gN a))))(c:a.flatten=f)(hl:f.length<=120):da Γ fD [.tup (rows.map B')]=a5 (.ok (.own,.lst (f.map stN))):=by
 have hsz:(20000:Nat)<=cL:=by decide
 have h:TM.start [.tup (rows.map B')] 3=[a5 (.loc,.tup (rows.map B')),b8,b8]:=by simp[TM.start,Jo,bM]
 let S:=λ(l:List (Str×Nat)) (o2:Option (Kd×U))=>([a5 (.loc,.tup (rows.map B')),a5 (.own,.lst (l.map stN)),o2]:aw)
 have⟨st',i,b,o2,e⟩:=bT (t:=cc) (is:=[2]) (body:=execs Γ [.ext 1 (.var 2)]) (rs:=[(.own,.lst (gN a))]) (λl:List (Str×Nat)=>(Kd.loc,U.lst (l.map stN)))
  (λd r st=>d++r=a/\∃o2:Option (Kd×U),st=S d.flatten o2) (λ_ _ _ _=>trivial) (λd y r st j=>by
   have⟨b,o2,e⟩:=j;subst e;have m:d.flatten.length+y.length<=120:=by
    have:=Ł (λl:List (List (Str×Nat))=>l.flatten.length) b;simp only[Zq,Vl,hY,c]at this;lia
   show⟨S d.flatten (a5 (.loc,.lst (y.map stN))),S (d++[y]).flatten (a5 (.loc,.lst (y.map stN))),eB aG,?_,by rw[<-b];simp,_,rfl⟩;have em:(d++[y]).flatten.map stN=d.flatten.map stN++y.map stN:=by simp
   change Run _ _ _ [a5 (.loc,.tup (rows.map B')),a5 (.own,.lst ((d++[y]).flatten.map stN)),a5 (.loc,.lst (y.map stN))];rw[em];show zl (k:=.own) (k':=.own) rfl (af rfl) rfl rfl (vg (by rw[c4,c4];lia) rfl) aB) a [] (S [] b8) ⟨rfl,b8,rfl⟩
 subst e;have e:(gN a).map (λu=>(kE .own,u))=a.map λl=>(Kd.loc,U.lst (l.map stN)):=by unfold gN;rw[i4];rfl
 have g:=aZ (Γ:=Γ) (fn:=fD) rfl (.inl rfl) h (ay (r:=(.own,.lst [])) (bA ai trivial az (i5 _)) a9 (cZ (rs:=[(.own,.lst (gN a))]) (st1:=S [] b8) (aa (aW (aa (af rfl) ai) trivial hs) ai) trivial rfl rfl (by rw[e];show i) (bE (aI rfl) (jQ rfl))));rw[i7,c]at g;show g
end
section
variable{Γ:Tab}{rows:List Row}{names:List Str}
def tL(h:a.length<64):Lh .sorted [(k,.lst (a.map .str))]=a5 (.own,.lst ((aP a).map .str)):=by
 change(strsOf (a.map U.str)).bind _=_;rw[dM];change(if a.length<64 then _ else _)=_;rw[ļ h]
def tM{a:List (Str×Nat)}(hl:a.length<64)(ho:Γ "order" [.tup (rows.map B')]=a5 (.ok (.own,.lst (a.map stN)))):da Γ fb [.tup (rows.map B')]=a5 (.ok (.own,.lst ((aP (a.map (·.1))).map .str))):=by
 have hsz:(20000:Nat)<=cL:=by decide
 have c:TM.start [.tup (rows.map B')] 1=[a5 (.loc,.tup (rows.map B'))]:=by simp[TM.start,Jo,bM]
 have b:=lS (st:=[a5 (.loc,.tup (rows.map B'))]) (cond:=a_ Γ []) (elt:=ev Γ (.var 0)) (src:=[(.own,.lst (a.map stN))]) trivial (λs:Str×Nat=>U.str s.1) (λs=>U.int (s.2:Nat)) (λs=>U.str s.1) (λ_=>b6) a [] (by simp;lia) (λy _=>⟨nK,af rfl⟩);rw[i7,OJ.mpr (λ_ _=>rfl)]at b;have e:(a.map stN).map (λu=>(kE .own,u))=a.map λs=>(Kd.loc,U.tup [.str s.1,.int (s.2:Nat)]):=by rw[i4];rfl
 have d:(a.map λs=>U.str s.1)=(a.map (·.1)).map U.str:=by rw[i4];rfl
 rw[d]at b;show aZ rfl (.inl rfl) c (bE (dc (aa (dC (rs:=[(.own,.lst (a.map stN))]) (aa (aW (aa (af rfl) ai) trivial ho) ai) trivial (by change a5 (Sl (λu=>(kE .own,u)) _)=_;rw[e]) b) ai) trivial (tL (by rw[c4];show hl))) iX)
structure UL(prog:List Fn):Prop where
 g:Jy prog "gathered" dr
 p:Jy prog "places_that_tell" bh
 n:Jy prog "new_steps" cR
 s:Jy prog "steps_in_rounds" br
 o:Jy prog "order" fD
 l:Jy prog "learnt" fb
structure Kn(rows:List Row)(K:List Str):Prop where
 nd:K.Nodup
 sn:QF rows K
 cl:gh rows (·∈K)
def Kn.perm(a:Kn rows K)(b:Kn rows L):K.Perm L:=same a.nd b.nd a.sn b.sn a.cl b.cl
def Kn.of(s:LI rows a []):Kn rows (a.map (·.1)):=⟨s.nd,s.sn,s.closed⟩
def Cy(L:UL prog)(n:Nat)(d:∀r∈rows,nL names r)(y:names.length<=24)(e:rows.length<=120):∃c:List (Str×Nat),LI rows c []/\c.length<=24/\I_ prog (n+4) "order" [.tup (rows.map B')]=a5 (.ok (.own,.lst (c.map stN))):=by
 have j:∀r∈rows,r.2.length<=8:=λr h=>(d r h).M5;have f:Once rows:=λr h=>(d r h).once;have i:∀r∈rows,r.1∈names:=λr h=>(d r h).word;have k:C7 (I_ prog (n+1)):=λps hl=>by
  have⟨ks,a,b⟩:=pH (Γ:=I_ prog n) hl;show⟨ks,a,(aH L.g _).trans b⟩
 have l:C8 (I_ prog (n+2)) rows:=by
  have⟨ks,a,b⟩:=tK k f j e;show⟨ks,a,(aH L.p _).trans b⟩
 have m:Ad (I_ prog (n+2)) rows:=λR K0 vs q=>by
  have⟨st,a,b⟩:=mF (Γ:=I_ prog (n+1)) i ⋯ q (K0:=K0) (vs:=vs);show⟨st,a,(aH L.n _).trans b⟩
 have⟨c,t,s1,s2,s3,s4⟩:=gO f e l m;have u:I_ prog (n+3) "steps_in_rounds" [.tup (rows.map B')]=a5 (.ok (.own,.lst (gN t))):=(aH L.s _).trans s4;have v:c.length<=24:=by
  have:=vm (Kn.of s1).nd (L:=names) λx w=>by
   have⟨r,a,b⟩:=i6.mp (s1.wd x w);show b▸i r a
  rw[c4]at this;lia
 show⟨c,s1,v,(aH L.o _).trans (wU u s2 ⋯)⟩
def Cz(L:UL prog)(n:Nat)(a:∀r∈rows,nL names r)(b:names.length<=24)(c:rows.length<=120)(d:Kn rows K):I_ prog (n+5) "learnt" [.tup (rows.map B')]=a5 (.ok (.own,.lst ((aP K).map .str))):=by
 have⟨f,s1,s2,s3⟩:=Cy L n a b c;have e:aP (f.map (·.1))=aP K:=fQ ((Kn.of s1).perm d);rw[<-e];show(aH L.l _).trans (tM ⋯ s3)
end
end KL
namespace TM
open PySem L2 Jq
section
def bU(rs:List Row):(a5 (if Jo (.tup (rs.map B'))=b6 then Kd.loc else Kd.any,U.tup (rs.map B')):Option (Kd×U))=a5 (.loc,.tup (rs.map B')):=by
 rw[ļ (by change cB (rs.map B')=b6;show bM rs)]
def rB{a:List Str}:KI .seq [(k,.tup (a.map .str))]=a5 (a.map λx=>(kE k,U.str x)):=by
 change a5 ((a.map U.str).map λu=>(kE k,u))=_;rw[i4];rfl
def nY{a:List Str}(hk:k=.any\/k=.loc):fq k (a.map .str)=b6:=by
 rcases hk with rfl|rfl
 .show gI a
 .rfl
def wV(a:us.length=fn.np)(hs:start us fn.ns=st0)(h:Run (execs Γ fn.body) st0 .nx st):da Γ fn us=a5 (.ok (.loc,.IV)):=by
 subst hs;unfold da;rw[ļ a,show execs Γ fn.body (start us fn.ns)=_ from h]
def Hl(h:Run (ev Γ e) st x st1):Run (execs Γ (.Nf c e::a)) st (.rt .io (.str c)) st1:=ae (ae h aO) aO
def Ae(a:us.length=fn.np)(hs:start us fn.ns=st0)(h:Run (execs Γ fn.body) st0 (.rt .io (.str c)) st):da Γ fn us=a5 (.exc c):=by
 subst hs;unfold da;rw[ļ a,show execs Γ fn.body (start us fn.ns)=_ from h]
def Hm(h:Γ f us=a5 (.ok (.loc,u))):Run (dU Γ f us) st (.inl (.loc,u)) st:=by
 change dU Γ f us st=_;unfold dU;rw[h]
def Hn(h:Γ f us=a5 (.exc c)):Run (dU Γ f us) st (.inr c) st:=by
 change dU Γ f us st=_;unfold dU;rw[h]
def Ho(h:st[j]?=a5 b8)(hk:k≠j)(a:c∈cs):Run (j7 cs i j k (.inr c)) st .nx (st.set k (a5 (.loc,.exc c))):=by
 change j7 cs i j k (.inr c) st=_;unfold j7
 dsimp only
 rw[h];show ļ ⟨hk,a⟩
def Hq:Run (j7 cs i j k (.inl (.loc,u))) st .nx (st.set i (a5 (.loc,u))):=ae aG aO
def jS(h:Run (ev Γ a) st x st1)(c:ft d x.2=a5 b):Run (ev Γ (.Kf a D d)) st (.loc,.bl b) st1:=ae h (ae (cw c) aO)
def Hr(h:Run (ev Γ a) st x st1)(c:ft d x.2=a5 b):Run (Jl Γ (.Kf a D d)) st b st1:=ae h (cw c)
def C9(h:so a i b st=a5 (.ok r,st)):Run (ev Γ (.Nd a i b)) st r st:=h
def c6.ok(h:c6 ws r):nL ws r:=⟨h.1,h.2.2.2,h.2.1,h.2.2.1⟩
def Af(n:ws.length<1000)(hk:iy ws ks)(e:c6 ws r):
  ∃a b,Run (execs Γ zV) (pG rs ks (a5 (.loc,.str r.1)) (a5 (.loc,.tup (r.2.map .str))) o4) .nx (pG rs a (a5 (.loc,.str r.1)) (a5 (.loc,.tup (r.2.map .str))) b)/\iy ws a/\∀x,x∈a↔x∈ks\/x=r.1\/x∈r.2:=by
 have o:=hk.len;obtain⟨st',j,a,b,rfl,l,_,c⟩:=bT (rs:=[(.loc,.tup (r.2.map .str))]) (t:=cc) (is:=[4]) (body:=execs Γ C6) (λx:Str=>(Kd.loc,U.str x)) (λd q st=>∃a b,st=pG rs a (a5 (.loc,.str r.1)) (a5 (.loc,.tup (r.2.map .str))) b/\iy ws a/\(∀x∈q,x∈ws)/\∀x,x∈a↔(x∈ks\/x=r.1)\/x∈d)
  (λ_ _ _ _=>trivial) (λd y q st h=>by
   have⟨f,b,rfl,g,i,c⟩:=h;have p:=g.len;show⟨pG rs f (a5 (.loc,.str r.1)) (a5 (.loc,.tup (r.2.map .str))) (a5 (.loc,.str y)),_,aG,iY (k:=.own) (k':=.own) aj rfl (af rfl) (av aF (av aF az)) rfl rfl (kA ⋯) aB,e_ f y,_,rfl,g.ins (i y (by simp)),λx m=>i x (by simp[m]),λx=>?_⟩;rw[gk,c x,i1,hQ,or_assoc]) r.2 [] (pG rs (e_ ks r.1) (a5 (.loc,.str r.1)) (a5 (.loc,.tup (r.2.map .str))) o4) ⟨_,_,rfl,hk.ins e.1,e.2.2.1,λx=>by rw[gk];simp⟩
 show⟨a,b,?_,l,λx=>by rw[c x,or_assoc,i7]⟩;show iY (k:=.own) (k':=.own) aj rfl (af rfl) (av aF (av aF az)) rfl rfl (kA ⋯) (cZ (rs:=[(.loc,.tup (r.2.map .str))]) (aa (af rfl) ai) trivial rB rfl j aB)
def IC(h:Jy Pg "_law_all" Fj)(p:ws.length<=24)(c:∀r∈rs,c6 ws r):I_ Pg (d+1) "_law_all" [.tup (rs.map B')]=a5 (.ok (.own,.lst ((aL rs).map .str))):=by
 obtain⟨st',f,ks,o2,o3,o4,rfl,hk,_,g⟩:=bT (rs:=[(.loc,.tup (rs.map B'))]) (t:=b6) (is:=[2,3]) (body:=execs (I_ Pg d) zV) (λr:Row=>(Kd.loc,B' r)) (λd q st=>∃ks o2 o3 o4,st=pG rs ks o2 o3 o4/\iy ws ks/\(∀r∈q,c6 ws r)/\∀x,x∈ks↔∃r∈d,x=r.1\/x∈r.2)
  (λ_ _ _ _=>trivial) (λd y q st h=>by
   have⟨i,o2,o3,o4,rfl,j,b,k⟩:=h;have⟨l,s,m,n,o⟩:=Af (Γ:=I_ Pg ‹Nat›) (rs:=rs) (o4:=o4) ⋯ j (b y (by simp));show⟨pG rs i (a5 (.loc,.str y.1)) (a5 (.loc,.tup (y.2.map .str))) o4,_,jR (.inl rfl),m,l,_,_,_,rfl,n,λr a=>b r (by simp[a]),λx=>?_⟩;rw[o x,k x];constructor
   .rintro(⟨r,a,e⟩|e)
    .show⟨r,by simp[a],e⟩
    .show⟨y,by simp,e⟩
   .rintro⟨r,a,e⟩;rcases i1.mp a with q|q
    .show .inl ⟨r,q,e⟩
    .rw[hQ]at q;subst q;show .inr e) rs [] (pG rs [] b8 b8 b8) ⟨[],b8,b8,b8,rfl,⟨by simp,by simp⟩,c,by simp⟩
 have hl:=hk.len;have e:aP ks=aL rs:=fQ ((N8 hk.1 (cp _)).mpr λx=>by rw[g x,bQ,cm,i7]);show(aH h _).trans (aZ (st0:=[a5 (.loc,.tup (rs.map B')),b8,b8,b8,b8]) rfl (.inl rfl) (Ł (λx:Option (Kd×U)=>[x,b8,b8,b8,b8]) (bU rs)) (ay (st2:=pG rs [] b8 b8 b8) lI a9 (cZ (rs:=[(.loc,.tup (rs.map B'))]) (aa (af rfl) ai) trivial kB rfl f (bE (dc (aa (aI rfl) ai) ∅ ?_) iX))));change(if ks.length<64 then a5 (Kd.own,U.lst ((aP ks).map .str)) else b8)=_;rw[ļ ⋯,e]
end
end TM
namespace TM
open PySem L2 Jq Od
section
def eD(hk:k=.loc\/k=.any)(h:st[i]?=a5 (a5 (k,u))):Run (ev Γ (.var i)) st (k,u) st:=by
 rcases hk with rfl|rfl
 .show af h
 .show aY h
def Wg(hk:k=.loc\/k=.any)(h:Jo u=b6):Run (lift (k,u)) st u st:=by
 rcases hk with rfl|rfl
 .show aF
 .show nI h
def c8(hk:k=.loc\/k=.any)(h:bq rs st):bq ((k,u)::rs) st:=by rcases hk with rfl|rfl<;>show h
def ID(hk:k=.loc\/k=.any):kE k=k:=by rcases hk with rfl|rfl<;>rfl
def Ag{told a:List Str}(hk:k=.loc\/k=.any)(hl:told.length<=1000)(hs:Run (ev Γ src) st (k,.tup (told.map .str)) st)(c:st[j]?=a5 (a5 (.own,w)))(d:∀x:Str,cH .isin (.str x) w=a5 (cK (x∈a))):
  Run (ev Γ (.bi .all [.comp 1 cc .seq [src] [] (.cmp .isin (.var 0) (.var (j+1)))])) st (.loc,.bl (told.all λx=>cK (x∈a))) st:=by
 have hsz:(1000:Nat)<=cL:=by decide
 have b:=lM (cond:=a_ Γ []) (elt:=ev Γ (.cmp .isin (.var 0) (.var (j+1)))) (src:=[(k,.tup (told.map .str))]) (st:=st) (c8 hk trivial) k hk U.str (λx=>.bl (cK (x∈a))) .loc (λ_=>nK) told [] (by simp;lia)
  (λy _=>⟨iW (eD hk rfl) (aI (by simpa using c)) (c8 hk ⟨⟨.own,rfl,by simpa using c⟩,trivial⟩) (d y),aF⟩)
 rw[i7]at b;have e:(told.map U.str).map (λu=>(kE k,u))=told.map λr=>(k,U.str r):=by rw[i4,ID hk];rfl
 have f:(told.map λx=>U.bl (cK (x∈a)))=(told.map λx=>cK (x∈a)).map U.bl:=by rw[i4];rfl
 rw[f]at b;have g:(told.all λx=>cK (x∈a))=((told.map λx=>cK (x∈a)).all id):=by rw[ĉ];rfl
 rw[g];show dc (aa (dC (rs:=[(k,.tup (told.map .str))]) (aa hs ai) (c8 hk trivial) (by change a5 _=_;rw[e]) b) ai) trivial (Ci _)
abbrev Hs:List S:=[.ite (.and [.cmp .Ja (.var 3) (.var 1),.bi .all [.comp 1 cc .seq [.var 4] [] (.cmp .isin (.var 0) (.var 2))]]) [.put 1 (.var 3) (.cst (.bl b6)),.set 2 (.cst (.bl b6))] []]
abbrev Fo:List S:=[.set 2 (.cst (.bl cc)),.Ji b6 [3,4] .seq [.var 0] Hs]
abbrev Fp:Fn:=⟨"_law_learnt",1,5,[.set 1 (.Ky cc),.set 2 (.cst (.bl b6)),.MV (.var 2) Fo,.ret (.var 1)]⟩
inductive Bv(rs:List Row):Kd->U->Prop
 |tup:Bv rs .loc (.tup (rs.map B'))
 |lst:Bv rs .any (.lst (rs.map B'))
def Bv.kd{W:U}(h:Bv rs k W):k=.loc\/k=.any:=by cases h<;>simp
def Bv.it{W:U}(h:Bv rs k W):KI .seq [(k,W)]=a5 (rs.map λr=>(k,B' r)):=by
 cases h
 .show kB
 .change a5 ((rs.map B').map λu=>(kE .any,u))=_;rw[i4];rfl
def Bv.bg{W:U}(h:Bv rs k W):(a5 (if Jo W=b6 then Kd.loc else Kd.any,W):Option (Kd×U))=a5 (k,W):=by
 cases h
 .show bU rs
 .rfl
abbrev j_(k:Kd)(W:U)(K:List Str)(b:Bool)(o3 o4:Option (Kd×U)):aw:=[a5 (k,W),a5 (.own,mE K),a5 (.loc,.bl b),o3,o4]
structure NP(ws:List Str)(rs:List Row)(K:List Str):Prop where
 ks:iy ws K
 snd:QF rs K
def NP.add(x:NP ws rs K)(b:r∈rs)(c:r.1∈ws)(d:∀y∈r.2,y∈K):NP ws rs (e_ K r.1) :=
 ⟨x.ks.ins c,λC a y f=>(gk.mp f).elim (x.snd C a y) λe=>e▸a r b λz hz=>x.snd C a z (d z hz)⟩
def CA{W:U}(v:Bv rs k W)(I:ws.length<=40)(z:∀r∈rs,c6 ws r)(x:NP ws rs K0):
  ∃(g:List Str) (b:Bool) (o p:Option (Kd×U)),Run (execs Γ Fo) (j_ k W K0 b0 o3 o4) .nx (j_ k W g b o p)/\NP ws rs g/\(b=b6->K0.length<g.length)/\(b=cc->g=K0/\gh rs (·∈K0)):=by
 have hk:=v.kd;obtain⟨st1,C,_,g,b,o,p,rfl,i,l,c⟩:=bT (t:=b6) (is:=[3,4]) (body:=execs Γ Hs) (rs:=[(k,W)]) (λr:Row=>(k,B' r))
  (λd r st=>d++r=rs/\∃(K:List Str) (b:Bool) (o3 o4:Option (Kd×U)),st=j_ k W K b o3 o4/\NP ws rs K/\(b=b6->K0.length<K.length)/\(b=cc->K=K0/\∀r∈d,(∀y∈r.2,y∈K0)->r.1∈K0)) (λ_ _ _ _=>c8 hk trivial) (λd a r st D=>by
   have⟨q,K,b,o3,o4,e,i,l,c⟩:=D;subst e;have s:a∈rs:=by rw[<-q];simp
   have J:=(z a s).2.2.2;have L:=i.ks.len;have m:Run (Jl Γ (.and [.cmp .Ja (.var 3) (.var 1),.bi .all [.comp 1 cc .seq [.var 4] [] (.cmp .isin (.var 0) (.var 2))]])) (j_ k W K b (a5 (k,.str a.1)) (a5 (k,.tup (a.2.map .str)))) (!cK (a.1∈K)&&a.2.all λy=>cK (y∈K)) (j_ k W K b (a5 (k,.str a.1)) (a5 (k,.tup (a.2.map .str)))) :=
    nJ (pA (aV (eD hk rfl) (aI rfl) (c8 hk ⟨⟨.own,rfl,rfl⟩,trivial⟩) eZ) λ_=>dB (E_ (Ag (j:=1) (w:=mE K) hk ⋯ (eD hk rfl) rfl λ_=>Fe)))
   have A:Run (dy b6 [3,4] (k,B' a)) (j_ k W K b o3 o4) () (j_ k W K b (a5 (k,.str a.1)) (a5 (k,.tup (a.2.map .str)))):=jR hk;cases f:(!cK (a.1∈K)&&a.2.all λy=>cK (y∈K)) with
   |false =>
    rw[f]at m;show⟨_,_,A,bR m aB aB,by rw[<-q];simp,K,b,_,_,rfl,i,l,λu=>⟨(c u).1,λn Kq hz=>?_⟩⟩;rcases i1.mp Kq with Kq|Kq
    .show(c u).2 n Kq hz
    .rw[hQ]at Kq;subst Kq;rw[<-(c u).1]at hz ⊢;by_cases B:n.1∈K
     .show B
     .have:(!cK (n.1∈K)&&n.2.all λy=>cK (y∈K))=b6:=by
       rw[ľ B];simpa using hz
      rw[this]at f;cases f
   |true =>
    rw[f]at m;simp only[cb,tr,decide_eq_false_iff_not,i9,Ļ]at f;have G:e_ K a.1=K++[a.1]:=by unfold e_;rw[Ľ f.1]
    show⟨_,j_ k W (e_ K a.1) b6 (a5 (k,.str a.1)) (a5 (k,.tup (a.2.map .str))),A,f_ m (iY (k:=.own) (k':=.own) aj rfl (eD hk rfl) (av aF (av (Wg hk rfl) az)) rfl rfl (kA ⋯) (ay aj aG aB)) aB,by rw[<-q];simp,e_ K a.1,b6,_,_,rfl,i.add s (z a s).1 f.2,λ_=>?_,λh=>by cases h⟩;rw[G,hY,Jk];cases b with
    |true=>have:=l rfl;lia
    |false=>rw[(c rfl).1];lia) rs [] (j_ k W K0 cc o3 o4) ⟨rfl,K0,cc,o3,o4,rfl,x,(λh=>by cases h),λ_=>⟨rfl,λr H=>by cases H⟩⟩
 rw[i7]at c;show⟨g,b,o,p,ay aj aG (cZ (rs:=[(k,W)]) (st1:=j_ k W K0 cc o3 o4) (aa (eD hk rfl) ai) (c8 hk trivial) v.it (by rcases hk with rfl|rfl<;>rfl) C aB),i,l,c⟩
theorem pI{W:U}(i:Bv rs k W)(j:ws.length<=40)(l:∀r∈rs,c6 ws r):
  ∀(f:Nat) (K0:List Str) (o3 o4:Option (Kd×U)),NP ws rs K0->64 - K0.length<f->∃(a:List Str) (c d:Option (Kd×U)),Run (fL (Jl Γ (.var 2)) (execs Γ Fo) (f+1)) (j_ k W K0 b6 o3 o4) .nx (j_ k W a cc c d)/\NP ws rs a/\gh rs (·∈a)
 |0,_,_,_,_,h=>by lia
 |f+1,K0,o3,o4,x,h=>by
  have⟨a,b,c,d,m,g,n,o⟩:=CA (Γ:=Γ) i j l x (b0:=b6) (o3:=o3) (o4:=o4);cases b with
  |false =>
   have⟨e,p⟩:=o rfl;subst e;show⟨a,c,d,qZ (jz rfl) m (nN (jz rfl)),g,p⟩
  |true =>
   have:=n rfl;have:=g.ks.len;have⟨q,s,t,u,v,w⟩:=pI i j l f a c d g ⋯;show⟨q,s,t,qZ (jz rfl) m u,v,w⟩
abbrev Ht(m:Nat)(Γ:Tab):Prop:=∀(ws:List Str) (rs:List Row) (k:Kd) (W:U),Bv rs k W->ws.length<=m->(∀r∈rs,c6 ws r)->∃K,Γ "_law_learnt" [W]=a5 (.ok (.own,mE K))/\iy ws K/\KL.Kn rs K
@[reducible]def IE:=Ht 24
def IF(e:m<=40)(h:Jy Pg "_law_learnt" Fp):Ht m (I_ Pg (d+1)):=λws rs k W a f b=>by
 have⟨K,g,i,q,x,c⟩:=pI (Γ:=I_ Pg d) a ⋯ b 999999999999 [] b8 b8 ⟨⟨.nil,λ_ h=>absurd h KA⟩,λ_ _ _ h=>absurd h KA⟩ (by simp);show⟨K,(aH h _).trans (aZ rfl (.inl rfl) (st0:=[a5 (k,W),b8,b8,b8,b8]) (Ł (λx:Option (Kd×U)=>[x,b8,b8,b8,b8]) a.bg) (ay lI a9 (ay aj aG (q9 q (bE (aI rfl) (jQ rfl)))))),x.ks,x.ks.1,x.snd,c⟩
abbrev Ln(rs:List Row)(x:Str):Prop:=∀C:Str->Prop,gh rs C->C x
def Kn.mem(h:KL.Kn rs K):x∈K↔Ln rs x:=⟨λa C b=>h.sn C b x a,λhl=>hl _ h.cl⟩
def Kn.some(c:ws.length<=24)(a:∀r∈rs,c6 ws r):∃K,KL.Kn rs K/\iy ws K:=by
 have⟨K,d,e,q,x,b⟩:=pI (Γ:=λ_ _=>b8) (Bv.tup (rs:=rs)) ⋯ a 999999999999 [] b8 b8 ⟨⟨.nil,λ_ h=>absurd h KA⟩,λ_ _ _ h=>absurd h KA⟩ (by simp);show⟨K,⟨x.ks.1,x.snd,b⟩,x.ks⟩
end
section
abbrev Ah(a b c d e f g h i:List (Str×Bool)):Fn:=⟨"_law_kind",1,2,
   [.set 1 (.lst [.Kf (.var 0) "Unknown" a,.Kf (.var 0) "Unlearnt" b,.Kf (.var 0) "TooMany" c,.Kf (.var 0) "Lacking" d]),
    .set 1 (.bin .add (.var 1) (.lst [.Kf (.var 0) "NoText" e,.Kf (.var 0) "Unfit" f,.Kf (.var 0) "NoRow" g,.Kf (.var 0) "NoDeed" h])),
    .ite (.or [.cmp .ne (.Nd cc 1 b6) (.cst (.int 1)),.not (.Kf (.var 0) "ValueError" i)])
      [.ret (.cst (.str "none"))]
      [],
    .ret (.idx (.lst [(.cst (.str "unknown")),(.cst (.str "unlearnt")),(.cst (.str "many")),(.cst (.str "lacking")),(.cst (.str "text")),(.cst (.str "unfit")),(.cst (.str "row")),(.cst (.str "deed"))]) (.Nd b6 1 b6))]⟩
def wW(o:ft p (.exc c)=a5 b1)(q:ft s (.exc c)=a5 d)(t:ft v (.exc c)=a5 b3)(w:ft y (.exc c)=a5 b4)(z:ft A (.exc c)=a5 f)(B:ft C (.exc c)=a5 g)(D:ft G (.exc c)=a5 i)(H:ft I (.exc c)=a5 j)(J:ft L (.exc c)=a5 b6)
  (N:so cc 1 b6 [a5 (.loc,.exc c),a5 (.own,.lst [.bl b1,.bl d,.bl b3,.bl b4,.bl f,.bl g,.bl i,.bl j])]=a5 (.ok (.loc,.int 1),[a5 (.loc,.exc c),a5 (.own,.lst [.bl b1,.bl d,.bl b3,.bl b4,.bl f,.bl g,.bl i,.bl j])]))
  (O:so b6 1 b6 [a5 (.loc,.exc c),a5 (.own,.lst [.bl b1,.bl d,.bl b3,.bl b4,.bl f,.bl g,.bl i,.bl j])]=a5 (.ok (.loc,.int n),[a5 (.loc,.exc c),a5 (.own,.lst [.bl b1,.bl d,.bl b3,.bl b4,.bl f,.bl g,.bl i,.bl j])]))
  (Q:JK [U.str "unknown",.str "unlearnt",.str "many",.str "lacking",.str "text",.str "unfit",.str "row",.str "deed"] n=a5 (.str x)):da Γ (Ah p s v y A C G I L) [.exc c]=a5 (.ok (.loc,.str x)):=by
 have T:(1000:Nat)<=cL:=by decide
 have l:(4:Nat)<=cL:=by lia
 have m:(8:Nat)<=cL:=by lia
 have a:∀(r:Kd×U) (rs:List (Kd×U)) (us:List U) (st:aw),r.1=.loc->Run (cV rs) st us st->Run (cV (r::rs)) st (r.2::us) st:=λr rs us st e h=>av (by have⟨k,u⟩:=r;cases e;show aF) h;show aZ rfl (.inr rfl) (st:=[a5 (.loc,.exc c),a5 (.own,.lst [.bl b1,.bl d,.bl b3,.bl b4,.bl f,.bl g,.bl i,.bl j])]) (st0:=[a5 (.loc,.exc c),b8]) rfl (ay (r:=(.own,.lst [.bl b1,.bl d,.bl b3,.bl b4])) (st1:=[a5 (.loc,.exc c),b8]) ?_ a9 (ay (r:=(.own,.lst [.bl b1,.bl d,.bl b3,.bl b4,.bl f,.bl g,.bl i,.bl j])) (st1:=[a5 (.loc,.exc c),a5 (.own,.lst [.bl b1,.bl d,.bl b3,.bl b4])]) ?_ a9 (bR (st2:=[a5 (.loc,.exc c),a5 (.own,.lst [.bl b1,.bl d,.bl b3,.bl b4,.bl f,.bl g,.bl i,.bl j])]) ?_ aB (bE ?_ dg))))
 .show bA (aa (jS (af rfl) o) (aa (jS (af rfl) q) (aa (jS (af rfl) t) (aa (jS (af rfl) w) ai)))) trivial (a _ _ _ _ rfl (a _ _ _ _ rfl (a _ _ _ _ rfl (a _ _ _ _ rfl az)))) l
 .show bj (aI rfl) (bA (aa (jS (af rfl) z) (aa (jS (af rfl) B) (aa (jS (af rfl) D) (aa (jS (af rfl) H) ai)))) trivial (a _ _ _ _ rfl (a _ _ _ _ rfl (a _ _ _ _ rfl (a _ _ _ _ rfl az)))) l) ∅ (lP m rfl rfl)
 .show Iz (G4 (aV (C9 N) aj trivial (Fm rfl)) (G3 (G2 (Hr (b:=b6) (af rfl) J))))
 .show bf (bA (aa aj (aa aj (aa aj (aa aj (aa aj (aa aj (aa aj (aa aj ai)))))))) trivial (a _ _ _ _ rfl (a _ _ _ _ rfl (a _ _ _ _ rfl (a _ _ _ _ rfl (a _ _ _ _ rfl (a _ _ _ _ rfl (a _ _ _ _ rfl (a _ _ _ _ rfl az)))))))) m) (C9 O) trivial (bS Q)
def Ai(a:Run (bw Γ es) st rs st)(b:bq rs st)(c:Run (dU Γ f (rs.map (·.2))) st r st)(d:Run (j7 cs i j k r) st .nx st1)(e:Run (execs Γ h) st1 l st2):
  Run (execs Γ (.MW i [] f es g m x cs j k::h)) st l st2:=ae (ae (ae a (ae (bc b) c)) d) e
end
end TM
namespace TM
open PySem L2 Jq
section
def Fq(b:st[i]?=a5 (a5 (.IL,.IQ ks us)))(c:Run (bJ 2 b6 (pure b6) (ev Γ e) [] (oV (ks,us)) []) (st.set i b8) vs st1):Run (execs Γ (.Lw i e::d)) st (.rt .own (.lst vs)) st1:=by
 show j9 (ae (a:=(ks,us)) (st1:=st.set i b8) ?_ (ae c rfl));change qx i st=_;unfold qx;rw[b]
end
end TM
namespace KK
open PySem L2 TM Jq Od
abbrev vA:Fn:=⟨"not_learnt",1,1,[.ret (.Nb cc (.call "words_of" [.var 0]) (.call "learnt" [.var 0]))]⟩
abbrev C_:List TM.S:=[.ite (.inD cc (.idx (.var 3) (.cst (.int 0))) 1) [.Kz 1 (.idx (.var 3) (.cst (.int 0))) (.idx (.comp 1 cc .seq [.idx (.var 3) (.cst (.int 1))] [.inD cc (.var 0) 2] (.var 0)) (.cst (.int 0)))] []]
abbrev vB:Fn:=⟨"knot",1,4,[.newD 1,.Ji cc [2] .seq [.call "not_learnt" [.var 0]] [.putD 1 (.var 2) (.lst [])],.Ji cc [3] .seq [.var 0] C_,.Lw 1 (.tup [.var 0,.bi .tuple [.var 1]])]⟩
abbrev IW(rows:List Row)(K:List Str):List Str:=(aL rows).filter λx=>cK (x∉K)
def pJ:x∈IW rows K↔x∈cz rows/\x∉K:=by
 unfold IW;rw[ro,cI];simp
def nZ(rows:List Row)(K:List Str):(IW rows K).Nodup:=(fB rows).sublist OI
abbrev pick(Z:List Str)(l:List Str):Str:=((l.filter λx=>cK (x∈Z)).head?).getD ""
abbrev L_(Z:List Str)(d:List Row)(k:Str):List Str:=(d.filter λr=>cK (r.1=k)).map λr=>pick Z r.2
abbrev c9(Z:List Str)(d:List Row)(k:Str):U:=.lst ((L_ Z d k).map .str)
abbrev pK(Z:List Str)(rows:List Row):List Row:=Z.map λk=>(k,L_ Z rows k)
section
def lY(f:K.length<64)(g:(aL rows).length<64)(a:Γ "words_of" [.tup (rows.map B')]=a5 (.ok (.own,.lst ((aL rows).map .str))))(b:Γ "learnt" [.tup (rows.map B')]=a5 (.ok (.own,.lst ((aP K).map .str)))):
  da Γ vA [.tup (rows.map B')]=a5 (.ok (.own,.lst ((IW rows K).map .str))):=by
 have c:TM.start [.tup (rows.map B')] 1=[a5 (.loc,.tup (rows.map B'))]:=by simp[TM.start,Jo,bM]
 have h:=hV (aL rows);have d:=hV (aP K);rw[cn]at d;have hs:qt cc (aD (aL rows)) (aD (aP K))=a5 (.own,.lst ((IW rows K).map .str)):=by
  unfold qt;rw[ļ ⟨⋯,⋯⟩,Ľ i3];have e:aP ((aD (aL rows)).filter λx=>cK (x∉aD (aP K)))=IW rows K:=by
   show lT ?_ ((dO _).sublist OI);show(N8 ((cp _).sublist OI) (nZ rows K)).mpr λx=>?_;unfold IW;rw[ro,ro,bQ];simp only[Ļ,bQ,(bY K).mem_iff]
  rw[e]
 show aZ rfl (.inl rfl) c (bE (C2 (aW (aa (af rfl) ai) trivial a) (gJ ⋯) (aW (aa (af rfl) ai) trivial b) (gJ (by rw[cn];lia)) hs) iX)
def rC(Z:List Str)(d:List Row)(r:Row)(k:Str):L_ Z (d++[r]) k=if r.1=k then L_ Z d k++[pick Z r.2] else L_ Z d k:=by
 unfold L_;rw[MO,ki,w6,QP];by_cases e:r.1=k
 .rw[ļ e,ļ (Ŀ e)];rfl
 .rw[Ľ e,Ľ (by simpa using e)];simp
def CB(Z:List Str)(d:List Row)(k:Str):(L_ Z d k).length<=d.length:=by
 unfold L_;rw[c4];show nc _ _
def Aj(hr:rows.length<=100)(D:∀r∈rows,r.2.length<=8)(n:Z.Nodup)(hl:Z.length<64)(G:∀r∈rows,r.1∈Z->∃x∈r.2,x∈Z)(H:Γ "not_learnt" [.tup (rows.map B')]=a5 (.ok (.own,.lst (Z.map .str)))):
  da Γ vB [.tup (rows.map B')]=a5 (.ok (.own,.lst ((pK Z rows).map B'))):=by
 have hsz:(20000:Nat)<=cL:=by decide
 let j:Option (Kd×U):=a5 (.loc,.tup (rows.map B'));have I:TM.start [.tup (rows.map B')] 4=[j,b8,b8,b8]:=by simp[TM.start,Jo,bM,j]
 let S:=λ(ks:List Str) (us:List TM.U) (o2 o3:Option (Kd×TM.U))=>([j,a5 (.IL,.IQ ks us),o2,o3]:aw)
 obtain⟨st1,s,_,o2,e⟩:=bT (t:=cc) (is:=[2]) (body:=execs Γ [.putD 1 (.var 2) (.lst [])]) (rs:=[(.own,.lst (Z.map .str))]) (λw:Str=>(Kd.loc,U.str w))
  (λd r st=>d++r=Z/\∃o2,st=S d (d.map (c9 Z [])) o2 b8) (λ_ _ _ _=>trivial) (λd w r st o=>by
   have⟨f,o2,e⟩:=o;subst e;have J:w∉d:=λz=>by
    rw[<-f,rz]at n;show n.2.2 w z w (by simp) rfl
   have L:d.length<64:=by have:=Ł wh f;simp at this;lia
   have em:(d++[w]).map (c9 Z [])=d.map (c9 Z [])++[.lst []]:=by rw[ki];rfl
   show⟨S d (d.map (c9 Z [])) (a5 (.loc,.str w)) b8,S (d++[w]) ((d++[w]).map (c9 Z [])) (a5 (.loc,.str w)) b8,eB aG,?_,by rw[<-f];simp,_,rfl⟩;rw[em];show zu (k:=.loc) (xs:=[]) (bA ai trivial az (i5 _)) rfl (af rfl) J ⋯ aB) Z [] (S [] [] b8 b8) ⟨rfl,b8,rfl⟩
 subst e;rw[i7]at s;let body:List TM.S:=C_;obtain⟨st2,v,_,o3,e⟩:=bT (t:=cc) (is:=[3]) (body:=execs Γ body) (rs:=[(.loc,.tup (rows.map B'))]) (λr:Row=>(Kd.loc,B' r))
  (λd r st=>d++r=rows/\∃o3,st=S Z (Z.map (c9 Z d)) o2 o3) (λ_ _ _ _=>trivial) (λd b r st o=>by
   have⟨f,o3,e⟩:=o;subst e;have L:d.length<100:=by have:=Ł wh f;simp at this;lia
   have A:b∈rows:=by rw[<-f];simp
   have Y_:=D b A;let c:Option (Kd×TM.U):=a5 (.loc,B' b);have B:Run (ev Γ (.idx (.var 3) (.cst (.int 0)))) (S Z (Z.map (c9 Z d)) o2 c) (.loc,.str b.1) (S Z (Z.map (c9 Z d)) o2 c):=bf (x:=(.loc,B' b)) (af rfl) aj trivial rfl;have m:Run (Jl Γ (.inD cc (.idx (.var 3) (.cst (.int 0))) 1)) (S Z (Z.map (c9 Z d)) o2 c) (cK (b.1∈Z)) (S Z (Z.map (c9 Z d)) o2 c):=zt (neg:=cc) (k:=.loc) B rfl;have C:Run (dy cc [3] (.loc,B' b)) (S Z (Z.map (c9 Z d)) o2 o3) () (S Z (Z.map (c9 Z d)) o2 c):=eB aG;by_cases g:b.1∈Z
   .rw[Ŀ g]at m;have i:=ir (cond:=a_ Γ [.inD cc (.var 0) 2]) (elt:=ev Γ (.var 0)) (src:=[(.loc,.tup (b.2.map .str))]) (st:=S Z (Z.map (c9 Z d)) o2 c) trivial .loc (.inl rfl) U.str U.str (λx=>cK (x∈Z)) .loc b.2 [] (by simp;lia)
     (λy _=>⟨dB (zt (neg:=cc) (k:=.loc) (af rfl) rfl),λ_=>⟨af rfl,aF⟩⟩)
    rw[i7]at i;have q:(b.2.map U.str).map (λu=>(kE .loc,u))=b.2.map λx=>(Kd.loc,U.str x):=by rw[i4];rfl
    have N:=dC (Γ:=Γ) (ik:=.seq) (rs:=[(.loc,.tup (b.2.map .str))]) (st:=S Z (Z.map (c9 Z d)) o2 c) (src:=[.idx (.var 3) (.cst (.int 1))]) (aa (bf (x:=(.loc,B' b)) (af rfl) aj trivial rfl) ai) trivial (by change a5 (Sl (λu=>(kE .loc,u)) _)=_;rw[q]) i;have O:JK ((b.2.filter λx=>cK (x∈Z)).map U.str) ((0:Nat):Int)=a5 (.str (pick Z b.2)):=by
     have⟨x,Q,T⟩:=G b A g;show eL ?_;unfold pick;cases Y:b.2.filter λx=>cK (x∈Z) with
     |nil =>
      have:x∈b.2.filter λx=>cK (x∈Z):=ro.mpr ⟨Q,Ŀ T⟩;rw[Y]at this;cases this
     |cons a l=>rfl
    have hg:dI Z (Z.map (c9 Z d)) b.1=a5 (.lst ((L_ Z d b.1).map .str)):=by rw[jb,ļ g];rfl
    have hs:jn Z (Z.map (c9 Z d)) b.1 (.lst ((L_ Z d b.1).map .str++[.str (pick Z b.2)]))=Z.map (c9 Z (d++[b])):=by
     rw[lR _ _ _ _ n];show td λk hk=>?_;unfold c9;rw[rC];by_cases e:b.1=k
     .subst e;rw[ļ rfl,ļ rfl];simp
     .rw[Ľ e,Ľ (nH e)]
    have Wf:=CB Z d b.1;show⟨_,S Z (Z.map (c9 Z (d++[b]))) o2 c,C,lL m (λ_=>?_) (λh=>by cases h),by rw[<-f];simp,_,rfl⟩;rw[<-hs];show zw (k:=.loc) (r:=(.loc,.str (pick Z b.2))) rfl B g (bf N aj trivial (bS (k:=.own) O)) aF hg (by rw[c4];lia) aB
   .rw[ľ g]at m;have em:Z.map (c9 Z (d++[b]))=Z.map (c9 Z d):=td λk hk=>by
     unfold c9;rw[rC,Ľ (show ¬b.1=k from λz=>g (z▸hk))]
    show⟨_,S Z (Z.map (c9 Z d)) o2 c,C,lL m (λh=>by cases h) (λ_=>aB),by rw[<-f];simp,c,by rw[em]⟩) rows [] (S Z (Z.map (c9 Z [])) o2 b8) ⟨rfl,b8,rfl⟩
 subst e;rw[i7]at v;have i:=lS (st:=[j,b8,o2,o3]) (cond:=pure b6) (elt:=ev Γ (.tup [.var 0,.bi .tuple [.var 1]])) (src:=[]) trivial (λk:Str=>U.str k) (λk=>c9 Z rows k) (λk=>B' (k,L_ Z rows k)) (λ_=>b6) Z [] (by simp;lia)
  (λy _=>⟨aO,dF (aa (af rfl) (aa (dc (aa (af rfl) ai) trivial (r:=(.loc,.tup ((L_ Z rows y).map .str))) rfl) ai)) trivial (av aF (av aF az)) (by change 2<=cL;lia)⟩)
 rw[i7,OJ.mpr (λ_ _=>rfl)]at i;have ei:oV (Z,Z.map (c9 Z rows))=Z.map λk=>(Kd.loc,U.tup [.str k,c9 Z rows k]):=by
  have:∀l:List Str,(l.zip (l.map (c9 Z rows))).map (λp=>(Kd.loc,U.tup [.str p.1,p.2]))=l.map λk=>(Kd.loc,U.tup [.str k,c9 Z rows k]):=λl=>by
   induction l with
   |nil=>rfl
   |cons a l ih=>rw[d7,Pw,d7,ih];rfl
  show this Z
 have ek:(pK Z rows).map B'=Z.map λk=>B' (k,L_ Z rows k):=by unfold pK;rw[i4];rfl
 rw[ek];have q:(Z.map U.str).map (λu=>(kE .own,u))=Z.map λw=>(Kd.loc,U.str w):=by rw[i4];rfl
 have e2:(rows.map B').map (λu=>(kE .loc,u))=rows.map λr=>(Kd.loc,B' r):=by rw[i4];rfl
 show aZ rfl (.inl rfl) I (zr (cZ (rs:=[(.own,.lst (Z.map .str))]) (st1:=S [] [] b8 b8) (aa (aW (aa (af rfl) ai) trivial H) ai) trivial (by change a5 (Sl (λu=>(kE .own,u)) _)=_;rw[q]) rfl s
  (cZ (rs:=[(.loc,.tup (rows.map B'))]) (aa (af rfl) ai) trivial (by change a5 (Sl (λu=>(kE .loc,u)) _)=_;rw[e2]) rfl v (Fq rfl (by rw[ei];show i)))))
end
end KK
namespace TM
open PySem L2 Jq Od
inductive Bw(L:List Str):Kd->U->Prop
 |tup:Bw L .loc (.tup (L.map .str))
 |lst:Bw L .any (.lst (L.map .str))
def Bw.kd{W:U}(h:Bw L k W):k=.loc\/k=.any:=by cases h<;>simp
def Bw.it{W:U}(h:Bw L k W):KI .seq [(k,W)]=a5 (L.map λx=>(k,U.str x)):=by
 cases h
 .show rB
 .change a5 ((L.map U.str).map λu=>(kE .any,u))=_;rw[i4];rfl
def Bw.bg{W:U}(h:Bw L k W):(a5 (if Jo W=b6 then Kd.loc else Kd.any,W):Option (Kd×U))=a5 (k,W):=by
 cases h
 .rw[ļ (by change cB (L.map U.str)=b6;show gI L)]
 .rfl
def Bw.set{W:U}(h:Bw L k W)(hl:L.length<4000):ie W=a5 (aD L):=by
 have:=gJ hl;cases h<;>show this
def Bw.start{rs:List Row}{W:U}(h:Bw L k W)(n:Nat):TM.start [.tup (rs.map B'),W] (n+2)=a5 (.loc,.tup (rs.map B'))::a5 (k,W)::i2 n b8:=by
 change a5 (if Jo (.tup (rs.map B'))=b6 then Kd.loc else Kd.any,U.tup (rs.map B'))::a5 (if Jo W=b6 then Kd.loc else Kd.any,W)::i2 (n+2 - 2) b8=_;rw[bU,h.bg];rfl
abbrev MM(rs:List Row)(L:List Str):Prop:=∀x∈L,x∈aL rs
structure Bz(ws:List Str)(rs:List Row):Prop where
 wl:ws.length<=24
 rl:rs.length<=120
 ok:∀r∈rs,c6 ws r
def Bz.in(h:Bz ws rs)(b:x∈aL rs):x∈ws:=by
 have⟨r,a,e⟩:=cm.mp (cI.mp b);rcases e with rfl|e
 .show(h.ok r a).1
 .show(h.ok r a).2.2.1 _ e
section
abbrev heads(rs:List Row):List Str:=(rs.filter λr=>cK (r.2=[])).map (·.1)
abbrev wp(rs:List Row)(L:List Str):List Row:=rs++(L.filter λw=>cK (w∉heads rs)).map λw=>(w,[])
def Ak(h:r∈wp rs L):r∈rs\/(r.1∈L/\r.2=[]):=by
 rcases i1.mp h with h|h
 .show .inl h
 .have⟨w,a,rfl⟩:=i6.mp h;show .inr ⟨(ro.mp a).1,rfl⟩
def pL:(wp rs L).length<=rs.length+L.length:=by
 unfold wp;rw[hY,c4];have:=nc (λw=>cK (w∉heads rs)) L;lia
def Al(e:∀r∈rs,c6 ws r)(c:∀x∈ws,x∈d)(f:∀x∈L,x∈d):∀r∈wp rs L,c6 d r:=λr h=>by
 rcases Ak h with h|⟨a,b⟩
 .have⟨p,q,s,t⟩:=e r h;show⟨c _ p,q,λy g=>c y (s y g),t⟩
 .show⟨f _ a,?_,?_,?_⟩<;>rw[b]<;>simp
def kC(hk:MM rs L):x∈aL (wp rs L)↔x∈aL rs:=by
 constructor
 .intro h;have⟨r,c,e⟩:=cm.mp (cI.mp h);rcases Ak c with c|⟨a,b⟩
  .show cI.mpr (cm.mpr ⟨r,c,e⟩)
  .rw[b]at e;rcases e with rfl|e
   .show hk _ a
   .cases e
 .intro h;have⟨r,c,e⟩:=cm.mp (cI.mp h);show cI.mpr (cm.mpr ⟨r,u6 _ c,e⟩)
def rD{W:U}(a:Bw L k W){H:List Str}(hl:L.length<=40)(d:st[i]?=a5 (a5 (k,W)))(b:st[j]?=a5 (a5 (.own,w)))(e:∀x:Str,cH .Ja (.str x) w=a5 (cK (x∉H))):
  Run (ev Γ (.bi .tuple [.comp 1 cc .seq [.var i] [.cmp .Ja (.var 0) (.var (j+1))] (.tup [.var 0,.tup []])])) st (.loc,.tup (((L.filter λw=>cK (w∉H)).map λw=>(w,[])).map B')) st:=by
 have hsz:(1000:Nat)<=cL:=by decide
 have hk:=a.kd;have c:=ir (cond:=a_ Γ [.cmp .Ja (.var 0) (.var (j+1))]) (elt:=ev Γ (.tup [.var 0,.tup []])) (src:=[(k,W)]) (st:=st) (c8 hk trivial) k hk U.str (λw=>B' (w,[])) (λw=>cK (w∉H)) .loc L [] (by simp;lia)
  (λy _=>⟨dB (aV (eD hk rfl) (aI (by simpa using b)) (c8 hk ⟨⟨.own,rfl,by simpa using b⟩,trivial⟩) (e y)),λ_=>⟨dF (aa (eD hk rfl) (aa (dF ai trivial az (i5 _)) ai)) (c8 hk trivial) (av (Wg hk rfl) (av aF az)) (by change 2<=cL;lia),aF⟩⟩)
 rw[i7]at c;rw[i4];show dc (aa (dC (rs:=[(k,W)]) (aa (eD hk d) ai) (c8 hk trivial) a.it c) ai) trivial rfl
abbrev Hu:List S:=[.ite (.cmp .eq (.idx (.var 3) (.cst (.int 1))) (.tup [])) [.put 2 (.idx (.var 3) (.cst (.int 0))) (.cst (.bl b6))] []]
abbrev tN(rs:List Row)(k:Kd)(W:U)(K:List Str)(o3:Option (Kd×U)):aw:=[a5 (.loc,.tup (rs.map B')),a5 (k,W),a5 (.own,mE K),o3]
def vC{rs ms:List Row}(h:rs.length+ms.length<=1000):Lg .add (.loc,.tup (rs.map B')) (.loc,.tup (ms.map B'))=a5 (.loc,.tup ((rs++ms).map B')):=by
 have hsz:(1000:Nat)<=cL:=by decide
 change(if (rs.map B').length+(ms.map B').length<=cL then a5 (kT .loc .loc,U.tup (rs.map B'++ms.map B')) else b8)=_;rw[ļ (by simp;lia),ki];rfl
end
section
abbrev vA:Fn:=⟨"not_learnt",1,1,[.ret (.Nb cc (.call "words_of" [.var 0]) (.call "learnt" [.var 0]))]⟩
abbrev Suf(rs:List Row)(L:List Str):Prop:=∀x∈aL rs,Ln (wp rs L) x
abbrev UM:Fn:=⟨"_law_pictured",2,3,[.set 2 (.comp 1 cc .seq [.var 0] [.cmp .eq (.idx (.var 0) (.cst (.int 1))) (.tup [])] (.idx (.var 0) (.cst (.int 0)))),.ret (.bin .add (.bi .tuple [.var 0]) (.bi .tuple [.comp 1 cc .seq [.var 1] [.cmp .Ja (.var 0) (.var 3)] (.tup [.var 0,.tup []])]))]⟩
def IG(h:Jy Pg "_law_pictured" UM)(b:rs.length<=120)(hl:L.length<=40):I_ Pg (d+1) "_law_pictured" [.tup (rs.map B'),.lst (L.map .str)]=a5 (.ok (.loc,.tup ((wp rs L).map B'))):=by
 have c:=nc (λw=>cK (w∉heads rs)) L;have a:=rD (Γ:=I_ Pg d) (st:=[a5 (.loc,.tup (rs.map B')),a5 (.any,.lst (L.map .str)),a5 (.own,.lst ((heads rs).map .str))]) .lst (i:=1) (j:=2) (w:=.lst ((heads rs).map .str)) (H:=heads rs) hl rfl rfl λx=>lK;show(aH h _).trans (aZ rfl (.inr rfl) (Bw.lst.start 1) (ay (zW ⋯ rfl) a9 (bE (bj (dc (aa (af rfl) ai) trivial rfl) a trivial (vC (by rw[c4];lia))) dg)))
end
section
abbrev Dd:Fn:=⟨"refuse_unknown",2,2,[.ite (.cmp .gt (.Nb b6 (.var 1) (.call "words_of" [.var 0])) (.cst (.int 0))) [.bad] []]⟩
abbrev Hv:Fn:=⟨"with_pictures",2,4,[.exp (.call "refuse_unknown" [.var 0,.var 1]),.set 2 (.Ky cc),.Ji cc [3] .seq [.var 0] Hu,.ret (.bin .add (.var 0) (.bi .tuple [.comp 1 cc .seq [.var 1] [.cmp .Ja (.var 0) (.var 3)] (.tup [.var 0,.tup []])]))]⟩
abbrev De:Fn:=⟨"suffice",2,2,[.ret (.cmp .eq (.call "not_learnt" [.call "with_pictures" [.var 0,.var 1]]) (.lst []))]⟩
structure tP(Pg:List Fn):Prop where
 L:KL.UL Pg
 w:Jy Pg "words_of" tf
 r:Jy Pg "refuse_unknown" Dd
 p:Jy Pg "with_pictures" Hv
 n:Jy Pg "not_learnt" KK.vA
 s:Jy Pg "suffice" De
def IH(H:tP Pg)(d:Nat)(c:Bz ws rs){W:U}(e:Bw L k W)(hl:L.length<=40)(hk:MM rs L):I_ Pg (d+2) "refuse_unknown" [.tup (rs.map B'),W]=a5 (.ok (.loc,.IV)):=by
 have i:=fC λr b=>(c.ok r b).ok;have LO:=c.wl;have j:(aD (aL rs)).length<=(aL rs).length:=gf (cp _) λx a=>by simpa[bQ] using a
 have f:(aD L).length<=L.length:=gf (cp _) λx a=>by simpa[bQ] using a
 have g:I_ Pg (d+1) "words_of" [.tup (rs.map B')]=a5 (.ok (.own,.lst ((aL rs).map .str))):=(aH H.w _).trans (i_ c.rl (λr b=>(c.ok r b).ok) ⋯);have hs:qt b6 (aD L) (aD (aL rs))=a5 (.loc,.int (((aD L).filter λx=>cK (x∉aD (aL rs))).length:Nat)):=by
  unfold qt;rw[ļ ⟨⋯,⋯⟩,ļ rfl]
 have h:((aD L).filter λx=>cK (x∉aD (aL rs)))=[]:=by
  rw[ML];intro x a;have a:x∈L:=by simpa[bQ] using a
  simpa[bQ] using hk x a
 rw[h]at hs;have b:Run (ev (I_ Pg (d+1)) (.Nb b6 (.var 1) (.call "words_of" [.var 0]))) [a5 (.loc,.tup (rs.map B')),a5 (k,W)] _ _:=C2 (eD e.kd rfl) (e.set ⋯) (aW (aa (af rfl) ai) trivial g) (gJ ⋯) hs;show(aH H.r _).trans (wV rfl (e.start 0) (bR (aV b aj trivial (gb rfl)) aB aB))
def UO(H:tP Pg)(d:Nat)(b:Bz ws rs){W:U}(c:Bw L k W)(hl:L.length<=40)(z:MM rs L):I_ Pg (d+3) "with_pictures" [.tup (rs.map B'),W]=a5 (.ok (.loc,.tup ((wp rs L).map B'))):=by
 have hk:=c.kd;have o:=IH H d b c hl z;obtain⟨st',s,K,o3,rfl,B,m,_⟩:=bT (rs:=[(.loc,.tup (rs.map B'))]) (t:=cc) (is:=[3]) (body:=execs (I_ Pg (d+2)) Hu) (λr:Row=>(Kd.loc,B' r)) (λa q st=>∃K o3,st=tN rs k W K o3/\iy ws K/\(∀x,x∈K↔x∈heads a)/\∀r∈q,c6 ws r)
  (λ_ _ _ _=>trivial) (λa y q st u=>by
   have⟨K,o3,e,g,n,h⟩:=u;subst e;have C:=g.len;have D:=b.wl;have f:Run (Jl (I_ Pg (d+2)) (.cmp .eq (.idx (.var 3) (.cst (.int 1))) (.tup []))) (tN rs k W K (a5 (.loc,B' y))) (cK (y.2=[])) (tN rs k W K (a5 (.loc,B' y))):=aV (bf (af rfl) aj trivial (show gM (.loc,B' y) (.int 1)=a5 (.loc,.tup (y.2.map .str)) from rfl)) (dF ai trivial az (i5 _)) trivial vq;have v:heads (a++[y])=heads a++(if y.2=[] then [y.1] else []):=by
    unfold heads;rw[MO,ki,w6,QP];by_cases e:y.2=[]<;>simp[e]
   rw[v];by_cases e:y.2=[]
   .rw[Ŀ e]at f;rw[ļ e];show⟨_,tN rs k W (e_ K y.1) (a5 (.loc,B' y)),aG,f_ f (iY (k:=.own) (k':=.own) aj rfl (bf (af rfl) aj trivial (show gM (.loc,B' y) (.int 0)=a5 (.loc,.str y.1) from rfl)) (av aF (av aF az)) rfl rfl (kA ⋯) aB) aB,e_ K y.1,_,rfl,g.ins (h y (by simp)).1,λx=>?_,λr l=>h r (by simp[l])⟩;rw[gk,n x,i1,hQ]
   .rw[ľ e]at f;rw[Ľ e,r6];show⟨_,tN rs k W K (a5 (.loc,B' y)),aG,bR f aB aB,K,_,rfl,g,n,λr l=>h r (by simp[l])⟩) rs [] (tN rs k W [] b8) ⟨[],b8,rfl,⟨.nil,by simp⟩,λx=>by simp[heads],b.ok⟩
 rw[i7]at m;have A:=rD (Γ:=I_ Pg (d+2)) (st:=tN rs k W K o3) c (i:=1) (j:=2) (w:=mE K) (H:=heads rs) hl rfl rfl λx=>eZ.trans (by simp[m x]);have G:=nc (λw=>cK (w∉heads rs)) L;show(aH H.p _).trans (aZ rfl (.inr rfl) (c.start 2) (zK (aW (aa (af rfl) (aa (eD hk rfl) ai)) (c8 (.inl rfl) (c8 hk trivial)) o) (ay lI a9 (cZ (rs:=[(.loc,.tup (rs.map B'))]) (aa (af rfl) ai) trivial kB rfl s (bE (bj (af rfl) A trivial (vC (by rw[c4];have:=b.rl;lia))) dg)))))
def Fs(a:Bz ws rs)(z:MM rs L)(h:rs.length+L.length<=120):Bz ws (wp rs L):=⟨a.wl,t6 pL h,Al a.ok (λ_ h=>h) λx b=>a.in (z x b)⟩
def gn(a:Bz ws rs)(K:List Str):(KK.IW rs K).length<=24:=by
 have c:(KK.IW rs K).length<=(aL rs).length:=nc _ _;have d:=fC λr b=>(a.ok r b).ok;have:=a.wl;lia
def UP(H:tP Pg)(d:Nat)(a:Bz ws rs)(c:KL.Kn rs K)(hl:K.length<=24):I_ Pg (d+6) "not_learnt" [.tup (rs.map B')]=a5 (.ok (.own,.lst ((KK.IW rs K).map .str))):=by
 have f:=fC λr b=>(a.ok r b).ok;have g:=a.wl;have e:I_ Pg (d+5) "words_of" [.tup (rs.map B')]=a5 (.ok (.own,.lst ((aL rs).map .str))):=(aH H.w _).trans (i_ a.rl (λr b=>(a.ok r b).ok) ⋯);show(aH H.n _).trans (KK.lY ⋯ ⋯ e (KL.Cz H.L d (λr b=>(a.ok r b).ok) a.wl a.rl c))
def eE:x∈KK.IW rs K↔x∈aL rs/\x∉K:=by rw[KK.pJ,cI]
def II(H:tP Pg)(d:Nat)(c:Bz ws rs){W:U}(e:Bw L k W)(hl:L.length<=40)(hz:rs.length+L.length<=120)(z:MM rs L):∃b,I_ Pg (d+7) "suffice" [.tup (rs.map B'),W]=a5 (.ok (.loc,.bl b))/\(b=b6↔Suf rs L):=by
 have hk:=e.kd;have f:=Fs c z hz;have⟨K,h,j⟩:=Kn.some f.wl f.ok;have m:=j.len;have n:=c.wl;show⟨cK (KK.IW (wp rs L) K=[]),(aH H.s _).trans (aZ rfl (.inr rfl) (e.start 0) (bE (iW (aW (aa (aW (aa (af rfl) (aa (eD hk rfl) ai)) (c8 (.inl rfl) (c8 hk trivial)) (UO H (d+3) c e hl z)) ai) trivial (UP H d f h ⋯)) (bA ai trivial az (i5 _)) trivial (lO (b:=[]))) dg)),?_⟩;rw[decide_eq_true_iff,List.eq_nil_iff_forall_not_mem];constructor
 .intro g x i;show NU λl=>g x (eE.mpr ⟨(kC z).mpr i,λy=>l ((Kn.mem h).mp y)⟩)
 .intro g x i;have⟨a,b⟩:=eE.mp i;show b ((Kn.mem h).mpr (g x ((kC z).mp a)))
def Kn.Hw(b:KL.Kn rs K):∀r∈rs,r.1∈KK.IW rs K->∃x∈r.2,x∈KK.IW rs K:=λr h hz=>by
 apply NU;intro c;show(KK.pJ.mp hz).2 (b.cl r h λx a=>?_);apply NU;intro d;show c ⟨x,a,KK.pJ.mpr ⟨cm.mpr ⟨r,h,.inr a⟩,d⟩⟩
def Wj(H:tP Pg)(hk:Jy Pg "knot" KK.vB)(d:Nat)(a:Bz ws rs)(c:rs.length<=100)(b:KL.Kn rs K)(hl:K.length<=24):I_ Pg (d+7) "knot" [.tup (rs.map B')]=a5 (.ok (.own,.lst ((KK.pK (KK.IW rs K) rs).map B'))) :=
 (aH hk _).trans (KK.Aj c (λr h=>(a.ok r h).2.2.2) (KK.nZ _ _) (by have:=gn a K;lia) (Kn.Hw b) (UP H d a b hl))
def Suf.IW(g:KL.Kn rs K):Suf rs (KK.IW rs K):=λx i C d=>by
 by_cases h:x∈K
 .show(Kn.mem g).mp h C λr e=>d r (u6 _ e)
 .by_cases f:x∈heads rs
  .have⟨r,e,rfl⟩:=i6.mp f;have⟨a,b⟩:=ro.mp e;show d r (u6 _ a) λy c=>by rw[ŀ b]at c;cases c
  .show d (x,[]) (kj _ (i6.mpr ⟨x,ro.mpr ⟨eE.mpr ⟨i,h⟩,Ŀ f⟩,rfl⟩)) λy c=>by cases c
end
abbrev JM:Nat->List Str->List (List Str)
 |0,_=>[[]]
 |_+1,[]=>[]
 |n+1,w::ws=>(JM n ws).map (w::·)++JM (n+1) ws
theorem kD:∀(n:Nat) (ws:List Str),(JM n ws).length<=2 ^ ws.length
 |0,ws=>by simpa[JM] using Nat.one_le_two_pow
 |n+1,[]=>by simp[JM]
 |n+1,w::ws=>by
  have a:=kD n ws;have b:=kD (n+1) ws;simp only[JM,hY,c4,ke,Ě];lia
theorem gL:∀(n:Nat) (ws l:List Str),l∈JM n ws->l.Sublist ws/\l.length=n
 |0,ws,l,h=>by
  simp only[JM,hQ]at h;subst h;show⟨List.nil_sublist _,rfl⟩
 |n+1,[],l,h=>by simp[JM]at h
 |n+1,w::ws,l,h=>by
  simp only[JM,i1,i6]at h;rcases h with⟨m,c,rfl⟩|h
  .have⟨a,b⟩:=gL n ws m c;show⟨a.cons₂ w,by rw[ke,b]⟩
  .have⟨a,b⟩:=gL (n+1) ws l h;show⟨a.cons w,b⟩
theorem kF:∀(ws l:List Str),l.Sublist ws->l∈JM l.length ws
 |ws,[],_=>by simp[JM]
 |[],x::l,h=>by cases h
 |w::ws,x::l,h=>by
  simp only[ke,JM,i1,i6];cases h with
  |cons _ h=>show .inr (kF ws (x::l) h)
  |cons_cons _ h=>show .inl ⟨l,kF ws l h,rfl⟩
def Am(a b:List α):cut (a++b) (a5 (a.length:Nat)) b8=b:=by
 have c:HT.Kt (a++b).length 0 (a5 ((a.length:Nat):Int))=a.length:=by rw[HT.AE];simp
 have d:HT.Kt (a++b).length (a++b).length b8=(a++b).length:=rfl;unfold cut;rw[c,d,List.drop_left,Mo (by simp)]
abbrev JR(l:List Str):U:=.lst (l.map .str)
section
abbrev Hx:List S:=[.app 2 (.bin .add (.lst [.var 4]) (.var 5))]
abbrev Wk:List S :=
   [.Ji cc [5] .seq [.call "choices" [.MC (.var 0) [.bin .add (.var 3) (.cst (.int 1))] [],.bin .sub (.var 1) (.cst (.int 1))]] Hx]
abbrev UQ:Fn:=⟨"choices",2,6,[.ite (.cmp .eq (.var 1) (.cst (.int 0))) [.ret (.lst [.lst []])] [],.set 2 (.lst []),.Ji b6 [3,4] .Na [.var 0] Wk,.ret (.var 2)]⟩
abbrev rE(ws:List Str)(n:Int)(cs:List (List Str))(o3 o4 o5:Option (Kd×U)):aw:=[a5 (.any,.lst (ws.map .str)),a5 (.loc,.int n),a5 (.own,.lst (cs.map JR)),o3,o4,o5]
theorem Df(h:Jy Pg "choices" UQ):∀(n:Nat) (ws:List Str) (d:Nat),ws.length<=24->2 ^ ws.length<=1000->I_ Pg (d+n+1) "choices" [.lst (ws.map .str),.int (n:Nat)]=a5 (.ok (.own,.lst ((JM n ws).map JR)))
 |0,ws,d,_,_=>by
  have hsz:(1000:Nat)<=cL:=by decide
  rw[show JM 0 ws=[[]] by simp[JM]];show(aH h _).trans (aZ (st0:=[a5 (.any,.lst (ws.map .str)),a5 (.loc,.int (0:Nat)),b8,b8,b8,b8]) rfl (.inl rfl) rfl (j9 (fz (aV (af rfl) aj trivial (bL rfl)) (bE (bA (aa (bA ai trivial az (i5 _)) ai) trivial (av qQ az) (by change 1<=cL;lia)) iX))))
 |n+1,ws,d,hl,z=>by
  have hsz:(1000:Nat)<=cL:=by decide
  have o:KI .Na [(.any,.lst (ws.map .str))]=a5 (ws.zipIdx.map λp:Str×Nat=>(Kd.any,U.tup [.int (p.2:Nat),.str p.1])):=by
   change a5 ((ws.map U.str).zipIdx.map λp=>(kE .any,U.tup [.int p.2,p.1]))=_;rw[Ý,i4];rfl
  have⟨st',A,cs,o3,o4,o5,a,b,rfl,i,g,f⟩:=bT (rs:=[(.any,.lst (ws.map .str))]) (t:=b6) (is:=[3,4]) (body:=execs (I_ Pg (d+(n+1))) Wk) (λp:Str×Nat=>(Kd.any,U.tup [.int (p.2:Nat),.str p.1]))
   (λ_ r st=>∃cs o3 o4 o5 a b,st=rE ws ((n+1:Nat):Int) cs o3 o4 o5/\a++b=ws/\r=b.zipIdx a.length/\cs++JM (n+1) b=JM (n+1) ws) (λ_ _ _ _=>trivial) (λe y r st q=>by
    have⟨cs,o3,o4,o5,a,b,s,i,g,f⟩:=q;subst s;cases b with
    |nil=>cases g
    |cons w b =>
     rw[List.zipIdx_cons,OA]at g;have⟨rfl,rfl⟩:=g;have O:b.length+a.length+1=ws.length:=by rw[<-i];simp;lia
     have B:2 ^ b.length<=1000:=t6 (Zo ⋯ ⋯) z;have Q:cs.length+(JM n b).length<=1000:=by
      have C:=Ł wh f;have T:=kD (n+1) ws;simp only[JM,hY,c4]at C;lia
     have D:=Df h n b d ⋯ B;let S:=rE ws ((n+1:Nat):Int) cs (a5 (.any,.int (a.length:Nat))) (a5 (.any,.str w)) o5;have G:Run (ev (I_ Pg (d+(n+1))) (.call "choices" [.MC (.var 0) [.bin .add (.var 3) (.cst (.int 1))] [],.bin .sub (.var 1) (.cst (.int 1))])) S (.own,.lst ((JM n b).map JR)) S:=by
      have s:cut ws (a5 ((a.length:Nat)+1:Int)) b8=b:=by
       have:=Am (a++[w]) b;rw[R6,List.singleton_append,i,hY,Jk,Int.natCast_add]at this;show this
      have v:lb (.any,.lst (ws.map .str)) (a5 ((a.length:Nat)+1:Int)) b8=a5 (.own,.lst (b.map .str)):=by
       rw[Cb (nY (.inl rfl)),s]
      show aW (aa (nG (aY rfl) (lH (bj (aY rfl) aj trivial bW)) qP trivial v) (aa (bj (af rfl) aj trivial g_) ai)) trivial (by
       change I_ Pg (d+(n+1)) "choices" [.lst (b.map .str),.int (((n+1:Nat):Int) - 1)]=_;rw[show(((n+1:Nat):Int) - 1)=(n:Nat) by lia];show D)
     have⟨st2,H,Y,m,rfl,j⟩:=bT (rs:=[(.own,.lst ((JM n b).map JR))]) (t:=cc) (is:=[5]) (body:=execs (I_ Pg (d+(n+1))) Hx) (λl:List Str=>(Kd.loc,JR l))
      (λm r st=>∃o5 x,st=rE ws ((n+1:Nat):Int) (cs++m.map (w::·)) (a5 (.any,.int (a.length:Nat))) (a5 (.any,.str w)) o5/\x=m/\m++r=JM n b) (λ_ _ _ _=>trivial) (λm l r st q=>by
       obtain⟨o5,x,v,_,j⟩:=q;subst v;have Xu:m.length<(JM n b).length:=by rw[<-j];simp
       have UR:l.length=n/\l.length<=24:=by
        have⟨I,J⟩:=gL n b l (by rw[<-j];simp);have:=I.length_le;show⟨J,⋯⟩
       show⟨rE ws ((n+1:Nat):Int) (cs++m.map (w::·)) (a5 (.any,.int (a.length:Nat))) (a5 (.any,.str w)) (a5 (.loc,JR l)),rE ws ((n+1:Nat):Int) (cs++(m++[l]).map (w::·)) (a5 (.any,.int (a.length:Nat))) (a5 (.any,.str w)) (a5 (.loc,JR l)),aG,?_,_,_,rfl,rfl,by rw[<-j];simp⟩;have L:Run (ev (I_ Pg (d+(n+1))) (.bin .add (.lst [.var 4]) (.var 5))) (rE ws ((n+1:Nat):Int) (cs++m.map (w::·)) (a5 (.any,.int (a.length:Nat))) (a5 (.any,.str w)) (a5 (.loc,JR l))) (.own,JR (w::l)) _:=bj (bA (aa (aY rfl) ai) trivial (av (nI rfl) az) (by change 1<=cL;lia)) (af rfl) trivial (lP (by change 1+(l.map U.str).length<=cL;rw[c4];lia) rfl rfl);show gZ (k:=.own) (k':=.own) rfl L qQ rfl rfl (by simp;lia) ?_;rw[show(cs++m.map (w::·)).map JR++[JR (w::l)]=(cs++(m++[l]).map (w::·)).map JR by simp];show aB) (JM n b) [] (rE ws ((n+1:Nat):Int) cs (a5 (.any,.int (a.length:Nat))) (a5 (.any,.str w)) o5) ⟨o5,[],by simp,rfl,by simp⟩
     rw[i7]at *;show⟨S,_,jR (.inr rfl),cZ (rs:=[(.own,.lst ((JM n b).map JR))]) (aa G ai) trivial (by change a5 (((JM n b).map JR).map λu=>(kE .own,u))=_;rw[i4];rfl) rfl H aB,_,_,_,_,a++[w],b,rfl,by rw[<-i];simp,by simp,?_⟩;rw[R6,<-f];rfl) ws.zipIdx [] (rE ws ((n+1:Nat):Int) [] b8 b8 b8) ⟨[],b8,b8,b8,[],ws,rfl,rfl,rfl,rfl⟩
  have N:b=[]:=by
   cases b with
   |nil=>rfl
   |cons w b=>cases g
  subst N;have f:cs=JM (n+1) ws:=by rw[<-f];simp[JM]
  subst f;show(aH h _).trans (aZ (st0:=[a5 (.any,.lst (ws.map .str)),a5 (.loc,.int ((n+1:Nat):Int)),b8,b8,b8,b8]) rfl (.inl rfl) rfl (bR (aV (af rfl) aj trivial (bL (c:=cc) (by simp;lia))) aB (ay (bA ai trivial az (i5 _)) a9 (cZ (rs:=[(.any,.lst (ws.map .str))]) (aa (aY rfl) ai) trivial o rfl A (bE (aI rfl) (jQ rfl))))))
end
section
def Hy(h:st[i]?=a5 (a5 (.loc,.int m)))(b:Run (execs Γ c) (st.set i (a5 (.loc,.int (m+n)))) d st1):Run (execs Γ (.inc i n::c)) st d st1 :=
 fA (ae (d_ h (by intro z;cases z)) (ae (a:=m) (st1:=st) rfl (ae aG aO))) b
def Ft(h:J6 50 (.lst us)=b6):cH .eq (.lst us) (.lst [])=a5 us.isEmpty:=by
 simp only[cH];rw[ļ ⟨h,by simp[J6,dw]⟩];cases us with
 |_=>simp[cy,cJ]
theorem vE:∀(cs:List (List Str)) (n:Nat),dw (n+1) (cs.map JR)=b6
 |[],n=>by simp[dw]
 |l::cs,n=>by
  have a:=vE cs n;have b:=iu l n;simp only[d7,dw,cb];show⟨b,a⟩
def CC{cs:List (List Str)}:cH .eq (.lst (cs.map JR)) (.lst [])=a5 cs.isEmpty:=by
 rw[Ft (by change dw 49 (cs.map JR)=b6;show vE cs 48)];cases cs<;>rfl
abbrev US:List S :=
   [.set 3 (.comp 1 cc .seq [.call "choices" [.var 1,.var 2]] [.call "suffice" [.var 1,.var 0]] (.var 0)),
   .inc 2 1]
abbrev UT:Fn:=⟨"fewest_words",2,4,[.set 2 (.cst (.int 0)),.set 3 (.lst []),.MV (.cmp .eq (.var 3) (.lst [])) US,.ret (.idx (.var 3) (.cst (.int 0)))]⟩
abbrev pM(rs:List Row)(ws:List Str)(m:Int)(cs:List (List Str)):aw:=[a5 (.loc,.tup (rs.map B')),a5 (.any,.lst (ws.map .str)),a5 (.loc,.int m),a5 (.own,.lst (cs.map JR))]
abbrev dS(rs:List Row)(l:List Str):Bool:=@cK (Suf rs l) (VQ _)
def An:dS rs l=b6↔Suf rs l:=@decide_eq_true_iff _ (VQ _)
abbrev LH(rs:List Row)(ws:List Str)(m:Nat):List (List Str):=(JM m ws).filter (dS rs)
def pN:l∈LH rs ws m↔l∈JM m ws/\Suf rs l:=by
 unfold LH;rw[ro,An]
structure UU(Γ:Tab)(rs:List Row)(ws:List Str):Prop where
 len:2 ^ ws.length<=1000
 ch:∀m,m<=ws.length->Γ "choices" [.lst (ws.map .str),.int (m:Nat)]=a5 (.ok (.own,.lst ((JM m ws).map JR)))
 sf:∀l,l.Sublist ws->∃b,Γ "suffice" [.tup (rs.map B'),JR l]=a5 (.ok (.loc,.bl b))/\(b=b6↔Suf rs l)
 all:Suf rs ws
def CD(H:UU Γ rs ws)(c:m<=ws.length):Run (execs Γ US) (pM rs ws (m:Nat) cs) .nx (pM rs ws ((m:Nat)+1) (LH rs ws m)):=by
 have hsz:(1000:Nat)<=cL:=by decide
 have f:=kD m ws;have hl:=H.len;have a:=ir (cond:=a_ Γ [.call "suffice" [.var 1,.var 0]]) (elt:=ev Γ (.var 0)) (src:=[(.own,.lst ((JM m ws).map JR))]) (st:=pM rs ws (m:Nat) cs) trivial .loc (.inl rfl) JR JR (dS rs) .loc (JM m ws) [] (by simp;lia)
  (λl hl=>by
   have⟨b,d,e⟩:=H.sf l (gL m ws l hl).1;have:b=dS rs l:=H8.mpr (e.trans An.symm);subst this;show⟨dB (E9 (aa (af rfl) (aa (af rfl) ai)) trivial d rfl),λ_=>⟨af rfl,aF⟩⟩)
 rw[i7]at a;have q:Run (ev Γ (.comp 1 cc .seq [.call "choices" [.var 1,.var 2]] [.call "suffice" [.var 1,.var 0]] (.var 0))) (pM rs ws (m:Nat) cs) (.own,.lst ((LH rs ws m).map JR)) (pM rs ws (m:Nat) cs) :=
  dC (rs:=[(.own,.lst ((JM m ws).map JR))]) (aa (aW (aa (aY rfl) (aa (af rfl) ai)) trivial (H.ch m c)) ai) trivial (by change a5 (((JM m ws).map JR).map λu=>(kE .own,u))=_;rw[i4];rfl) a
 show ay q a9 (Hy rfl aB)
theorem vF(H:UU Γ rs ws):∀(f m:Nat),m<=ws.length->ws.length - m+1<f->(∀j,j<m->LH rs ws j=[])->∃d,d<=ws.length/\LH rs ws d≠[]/\(∀j,j<d->LH rs ws j=[])/\Run (fL (Jl Γ (.cmp .eq (.var 3) (.lst []))) (execs Γ US) (f+1)) (pM rs ws (m:Nat) []) .nx (pM rs ws ((d:Nat)+1) (LH rs ws d))
 |0,m,_,h,_=>by lia
 |f+1,m,l,h,n=>by
  have k:∀(i:Int) (cs:List (List Str)),Run (Jl Γ (.cmp .eq (.var 3) (.lst []))) (pM rs ws i cs) cs.isEmpty (pM rs ws i cs):=λi cs=>aV (aI rfl) (bA ai trivial az (i5 _)) ⟨⟨.own,rfl,rfl⟩,trivial⟩ CC;have q:=CD H l (cs:=[]);by_cases g:LH rs ws m=[]
  .have s:m<ws.length:=by
    rcases ě m ws.length with h1|h1
    .show h1
    .have:m=ws.length:=by lia
     subst this;have:ws∈LH rs ws ws.length:=pN.mpr ⟨kF ws ws (Ħ _),H.all⟩;rw[g]at this;cases this
   rw[g]at q;have⟨d,a,b,c,r⟩:=vF H f (m+1) ⋯ ⋯ λj t=>by
    by_cases e:j=m
    .subst e;show g
    .show n j ⋯
   show⟨d,a,b,c,qZ (k _ []) q r⟩
  .have p:(LH rs ws m).isEmpty=cc:=by
    cases h:LH rs ws m with
    |nil=>show absurd h g
    |cons _ _=>rfl
   have o:=k ((m:Nat)+1) (LH rs ws m);rw[p]at o;show⟨m,l,g,n,qZ (k _ []) q (nN o)⟩
structure UW(rs:List Row)(ws l:List Str):Prop where
 sub:l.Sublist ws
 Z1:Suf rs l
 min:∀l',l'.Sublist ws->Suf rs l'->l.length<=l'.length
def IJ(H:UU Γ rs ws):∃l,da Γ UT [.tup (rs.map B'),.lst (ws.map .str)]=a5 (.ok (.loc,JR l))/\UW rs ws l:=by
 have⟨m,i,b,c,r⟩:=vF H 999999999999 0 ⋯ (by have:=H.len;have:ws.length<2 ^ ws.length:=Nat.lt_two_pow_self;lia) (λj h=>by lia);cases a:LH rs ws m with
 |nil=>show absurd a b
 |cons l cs =>
  have hl:=pN.mp (show l∈LH rs ws m by rw[a];simp);rw[a]at r;show⟨l,aZ (st0:=[a5 (.loc,.tup (rs.map B')),a5 (.any,.lst (ws.map .str)),b8,b8]) rfl (.inr rfl) ?_ (ay aj aG (ay (bA ai trivial az (i5 _)) a9 (q9 r (bE (bf (aI rfl) aj ⟨⟨.own,rfl,rfl⟩,trivial⟩ (bS (show JK ((l::cs).map JR) ((0:Nat):Int)=_ from eL rfl))) dg)))),(gL m ws l hl.1).1,hl.2,λd e f=>?_⟩
  .change [a5 (if Jo (.tup (rs.map B'))=b6 then Kd.loc else Kd.any,U.tup (rs.map B')),a5 (Kd.any,U.lst (ws.map .str)),b8,b8]=_;rw[bU]
  .rw[(gL m ws l hl.1).2];show Ü λg=>?_;have:=pN.mpr ⟨kF ws d e,f⟩;rw[c _ g]at this;cases this
end
section
abbrev Hz:E:=.comp 1 cc .seq [.var 3] [] (.tup [.idx (.var 0) (.cst (.int 0)),.call "paper" [.var 1,.bin .add (.var 2) (.lst [.idx (.var 0) (.cst (.int 0))]),.bin .sub (.var 3) (.cst (.int 1))]])
abbrev Fu:Fn:=⟨"paper",3,4,[.set 3 (.call "knot" [.call "with_pictures" [.var 0,.var 1]]),.ite (.cmp .eq (.var 2) (.cst (.int 0))) [.ret (.tup [.var 3,.tup []])] [],.ret (.tup [.var 3,.bi .tuple [Hz]])]⟩
abbrev QQ(rs P:List Row):Prop:=∃K,KL.Kn rs K/\P=KK.pK (KK.IW rs K) rs
inductive Pp(rs:List Row):List Str->Nat->U->Prop
 |zero {gv:List Str} {P:List Row}:QQ (wp rs gv) P->Pp rs gv 0 (.tup [.lst (P.map B'),.tup []])
 |succ {gv:List Str} {n:Nat} {P:List Row} (g:Row->U):QQ (wp rs gv) P->(∀p∈P,Pp rs (gv++[p.1]) n (g p))->Pp rs gv (n+1) (.tup [.lst (P.map B'),.tup (P.map λp=>.tup [.str p.1,g p])])
def QQ.word(hk:MM rs a)(h:QQ (wp rs a) P):∀p∈P,p.1∈aL rs:=λp b=>by
 obtain⟨K,_,rfl⟩:=h;have⟨x,c,rfl⟩:=i6.mp b;show(kC hk).mp (eE.mp c).1
def HA(H:tP Pg)(hk:Jy Pg "knot" KK.vB)(h:Jy Pg "paper" Fu)(j:Bz ws rs):∀(n:Nat) (f:List Str) (d:Nat),rs.length+f.length+n<=100->f.length+n<=40->MM rs f->∃u,I_ Pg (d+n+8) "paper" [.tup (rs.map B'),.lst (f.map .str),.int (n:Nat)]=a5 (.ok (.loc,u))/\Pp rs f n u:=by
 have hsz:(1000:Nat)<=cL:=by decide
 intro n;induction n with
 |zero =>
  intro f d v w hz;have i:=Fs j hz ⋯;have⟨K,l,m⟩:=Kn.some i.wl i.ok;have y:=m.len;have A:=j.wl;have q:=Wj H hk d i (t6 pL ⋯) l ⋯;show⟨_,(aH h _).trans (aZ (st0:=[a5 (.loc,.tup (rs.map B')),a5 (.any,.lst (f.map .str)),a5 (.loc,.int (0:Nat)),b8]) rfl (.inr rfl) ?_ (ay (aW (aa (aW (aa (af rfl) (aa (aY rfl) ai)) trivial (UO H (d+4) j .lst ⋯ hz)) ai) trivial q) a9 (j9 (fz (aV (af rfl) aj trivial (bL rfl)) (bE (dF (aa (aI rfl) (aa (dF ai trivial az (i5 _)) ai)) ⟨⟨.own,rfl,rfl⟩,trivial⟩ (av (vn rfl) (av aF az)) (by change 2<=cL;lia)) dg))))),.zero ⟨K,l,rfl⟩⟩;change [a5 (if Jo (.tup (rs.map B'))=b6 then Kd.loc else Kd.any,U.tup (rs.map B')),a5 (Kd.any,U.lst (f.map .str)),a5 (Kd.loc,U.int (0:Nat)),b8]=_;rw[bU]
 |succ n B =>
  intro f d v w hz;have i:=Fs j hz ⋯;have⟨K,l,m⟩:=Kn.some i.wl i.ok;have y:=m.len;have A:=j.wl;have q:=Wj H hk (d+n+1) i (t6 pL ⋯) l ⋯;have r:QQ (wp rs f) (KK.pK (KK.IW (wp rs f) K) (wp rs f)):=⟨K,l,rfl⟩
  have C:(KK.pK (KK.IW (wp rs f) K) (wp rs f)).length<=24:=by
   unfold KK.pK;rw[c4];show gn i K
  generalize KK.pK (KK.IW (wp rs f) K) (wp rs f)=P at q r C;have D:=r.word hz;have G:∀p:Row,∃u,p∈P->I_ Pg (d+n+8) "paper" [.tup (rs.map B'),.lst ((f++[p.1]).map .str),.int (n:Nat)]=a5 (.ok (.loc,u))/\Pp rs (f++[p.1]) n u:=λp=>by
   by_cases k:p∈P
   .have⟨u,a,b⟩:=B (f++[p.1]) d (by simp;lia) (by simp;lia) λx hx=>by
     rcases i1.mp hx with hx|hx
     .show hz x hx
     .rw[hQ]at hx;subst hx;show D p k
    show⟨u,λ_=>⟨a,b⟩⟩
   .show⟨.IV,λz=>absurd z k⟩
  have⟨g,s⟩:=Classical.axiomOfChoice G;let S:Option (Kd×U)->aw:=λo=>[a5 (.loc,.tup (rs.map B')),a5 (.any,.lst (f.map .str)),a5 (.loc,.int ((n+1:Nat):Int)),o]
  have hx:=lM (cond:=a_ (I_ Pg (d+(n+1)+7)) []) (elt:=ev (I_ Pg (d+(n+1)+7)) (.tup [.idx (.var 0) (.cst (.int 0)),.call "paper" [.var 1,.bin .add (.var 2) (.lst [.idx (.var 0) (.cst (.int 0))]),.bin .sub (.var 3) (.cst (.int 1))]])) (src:=[(.bor 3,.lst (P.map B'))]) (st:=S (a5 (.own,.lst (P.map B')))) ⟨⟨.own,rfl,rfl⟩,trivial⟩ .loc (.inl rfl) B' (λp=>.tup [.str p.1,g p]) .loc (λ_=>nK) P [] (by simp;lia)
   (λp k=>by
    have t:∀st',Run (ev (I_ Pg (d+(n+1)+7)) (.idx (.var 0) (.cst (.int 0)))) (a5 (.loc,B' p)::st') (.loc,.str p.1) (a5 (.loc,B' p)::st'):=λst'=>bf (af rfl) aj trivial (show gM (.loc,B' p) (.int 0)=a5 (.loc,.str p.1) from rfl);have ad:Lg .add (.any,.lst (f.map .str)) (.own,.lst [.str p.1])=a5 (.own,.lst ((f++[p.1]).map .str)):=by
     rw[lP (by change(f.map U.str).length+1<=cL;rw[c4];lia) (nY (.inl rfl)) rfl,ki];rfl
    have e:=(s p k).1;have I:I_ Pg (d+(n+1)+7) "paper" [.tup (rs.map B'),.lst ((f++[p.1]).map .str),.int (((n+1:Nat):Int) - 1)]=a5 (.ok (.loc,g p)):=by
     rw[show(((n+1:Nat):Int) - 1)=(n:Nat) by lia,show d+(n+1)+7=d+n+8 by lia];show e
    show⟨dF (aa (t _) (aa (aW (aa (af rfl) (aa (bj (aY rfl) (bA (aa (t _) ai) trivial (av aF az) (by change 1<=cL;lia)) trivial ad) (aa (bj (af rfl) aj trivial g_) ai))) trivial I) ai)) trivial (av aF (av aF az)) (by change 2<=cL;lia),aF⟩)
  rw[i7]at hx;have J:Run (ev (I_ Pg (d+(n+1)+7)) Hz) (S (a5 (.own,.lst (P.map B')))) (.own,.lst (P.map λp=>.tup [.str p.1,g p])) (S (a5 (.own,.lst (P.map B')))):=dC (rs:=[(.bor 3,.lst (P.map B'))]) (aa (aI rfl) ai) ⟨⟨.own,rfl,rfl⟩,trivial⟩ (by change a5 ((P.map B').map λu=>(kE (.bor 3),u))=_;rw[i4];rfl) hx;show⟨_,(aH h _).trans (aZ (st0:=S b8) rfl (.inr rfl) ?_ (ay (aW (aa (aW (aa (af rfl) (aa (aY rfl) ai)) trivial (UO H (d+(n+1)+4) j .lst ⋯ hz)) ai) trivial (by rw[show d+(n+1)+7=d+n+1+7 by lia];show q)) a9 (bR (aV (af rfl) aj trivial (bL (c:=cc) (by simp;lia))) aB (bE (dF (aa (aI rfl) (aa (dc (aa J ai) trivial rfl) ai)) ⟨⟨.own,rfl,rfl⟩,trivial⟩ (av (vn rfl) (av aF az)) (by change 2<=cL;lia)) dg)))),.succ g r λp k=>(s p k).2⟩;change [a5 (if Jo (.tup (rs.map B'))=b6 then Kd.loc else Kd.any,U.tup (rs.map B')),a5 (Kd.any,U.lst (f.map .str)),a5 (Kd.loc,U.int ((n+1:Nat):Int)),b8]=_;rw[bU]
end
section
abbrev HB:Fn:=⟨"fewest",1,3,[.set 1 (.call "not_learnt" [.var 0]),.ite (.cmp .gt (.bi .len [.var 1]) (.Of "MOST_NOT_LEARNT" (.int 5))) [.Nf "TooMany" (.cst (.str "too many words are not learnt"))] [],.set 2 (.call "fewest_words" [.var 0,.var 1]),.ite (.cmp .eq (.var 2) (.lst [])) [.ret (.tup [.var 2,.cst .IV])] [],.ret (.tup [.var 2,.call "paper" [.var 0,.lst [],.bin .sub (.bi .len [.var 2]) (.cst (.int 1))]])]⟩
structure UX(Pg:List Fn):Prop where
 P:tP Pg
 k:Jy Pg "knot" KK.vB
 c:Jy Pg "choices" UQ
 f:Jy Pg "fewest_words" UT
 p:Jy Pg "paper" Fu
 t:Jy Pg "fewest" HB
inductive OP(rs:List Row)(ws:List Str):U->Prop
 |nil:UW rs ws []->OP rs ws (.tup [.lst [],.IV])
 |cons {x:Str} {l:List Str} {v:U}:UW rs ws (x::l)->Pp rs [] l.length v->OP rs ws (.tup [JR (x::l),v])
def HC(H:UX Pg)(d:Nat)(g:Bz ws rs)(J:rs.length<=90)(n:KL.Kn rs K)(z:K.length<=24):
  (5<(KK.IW rs K).length->I_ Pg (d+13) "fewest" [.tup (rs.map B')]=a5 (.exc "TooMany"))/\((KK.IW rs K).length<=5->∃u,I_ Pg (d+13) "fewest" [.tup (rs.map B')]=a5 (.ok (.loc,u))/\OP rs (KK.IW rs K) u):=by
 have hsz:(1000:Nat)<=cL:=by decide
 have i:start [.tup (rs.map B')] 3=[a5 (.loc,.tup (rs.map B')),b8,b8]:=Ł (λx:Option (Kd×U)=>[x,b8,b8]) (bU rs);have j:I_ Pg (d+12) "not_learnt" [.tup (rs.map B')]=a5 (.ok (.own,.lst ((KK.IW rs K).map .str))):=UP H.P (d+6) g n z;have q:∀o:Option (Kd×U),Run (Jl (I_ Pg (d+12)) (.cmp .gt (.bi .len [.var 1]) (.Of "MOST_NOT_LEARNT" (.int 5)))) [a5 (.loc,.tup (rs.map B')),a5 (.own,.lst ((KK.IW rs K).map .str)),o] (cK (5<(KK.IW rs K).length)) [a5 (.loc,.tup (rs.map B')),a5 (.own,.lst ((KK.IW rs K).map .str)),o]:=λo=>aV (dc (aa (aI rfl) ai) ⟨⟨.own,rfl,rfl⟩,trivial⟩ bX) G0 trivial (gb (by rw[c4];simp;lia));have A:MM rs (KK.IW rs K):=λx e=>(eE.mp e).1;show⟨λh=>?_,λh=>?_⟩
 .have a:=q b8;rw[Ŀ h]at a;show(aH H.t _).trans (Ae rfl i (ay (aW (aa (af rfl) ai) trivial j) a9 (j9 (fz a (Hl aj)))))
 .have a:=q b8;rw[ľ ⋯]at a;have r:2 ^ (KK.IW rs K).length<=1000:=t6 (Zo ⋯ h) (by decide);have⟨l,B,hl⟩:=IJ (Γ:=I_ Pg (d+11)) (rs:=rs) (ws:=KK.IW rs K) ⟨r,λm L=>by
    have:=Df H.c m (KK.IW rs K) (d+10 - m) ⋯ r;rw[show d+10 - m+m+1=d+11 by lia]at this;show this,λl hl=>II H.P (d+4) g .lst (by have:=hl.length_le;lia) (by have:=hl.length_le;lia) λx e=>A x (hl.subset e),Suf.IW n⟩
  have C:I_ Pg (d+12) "fewest_words" [.tup (rs.map B'),.lst ((KK.IW rs K).map .str)]=a5 (.ok (.loc,JR l)):=(aH H.f _).trans B;have D:=hl.sub.length_le;have s:Run (ev (I_ Pg (d+12)) (.call "fewest_words" [.var 0,.var 1])) [a5 (.loc,.tup (rs.map B')),a5 (.own,.lst ((KK.IW rs K).map .str)),b8] (.loc,JR l) [a5 (.loc,.tup (rs.map B')),a5 (.own,.lst ((KK.IW rs K).map .str)),b8]:=aW (aa (af rfl) (aa (aI rfl) ai)) (by show⟨⟨.own,rfl,rfl⟩,trivial⟩) C;have w:Run (Jl (I_ Pg (d+12)) (.cmp .eq (.var 2) (.lst []))) [a5 (.loc,.tup (rs.map B')),a5 (.own,.lst ((KK.IW rs K).map .str)),a5 (.loc,JR l)] (cK (l=[])) [a5 (.loc,.tup (rs.map B')),a5 (.own,.lst ((KK.IW rs K).map .str)),a5 (.loc,JR l)]:=aV (af rfl) (bA ai trivial az (i5 _)) trivial (lO (b:=[]));cases l with
  |nil=>show⟨_,(aH H.t _).trans (aZ rfl (.inr rfl) i (ay (aW (aa (af rfl) ai) trivial j) a9 (bR a aB (ay s aG (j9 (fz w (bE (dF (aa (af rfl) (aa aj ai)) trivial (av aF (av aF az)) (by change 2<=cL;lia)) dg))))))),.nil hl⟩
  |cons x l =>
   rw[ke]at D;have⟨v,y,G⟩:=HA H.P H.k H.p g l.length [] (d+4 - l.length) (by simp;lia) (by simp;lia) (λx e=>by cases e);rw[show d+4 - l.length+l.length+8=d+12 by lia]at y;have I:I_ Pg (d+12) "paper" [.tup (rs.map B'),.lst [],.int ((((x::l).map U.str).length:Nat) - 1)]=a5 (.ok (.loc,v)):=by
    rw[show((((x::l).map U.str).length:Nat):Int) - 1=(l.length:Nat) by simp];show y
   show⟨_,(aH H.t _).trans (aZ rfl (.inr rfl) i (ay (aW (aa (af rfl) ai) trivial j) a9 (bR a aB (ay s aG (bR w aB (bE (dF (aa (af rfl) (aa (aW (aa (af rfl) (aa (bA ai trivial az (i5 _)) (aa (bj (dc (aa (af rfl) ai) trivial bX) aj trivial g_) ai))) trivial I) ai)) trivial (av aF (av aF az)) (by change 2<=cL;lia)) dg)))))),.cons hl G⟩
abbrev MZ(b:Bool):List (Str×Bool):=[("TooMany",b)]
abbrev tQ:Fn:=Ah (MZ cc) (MZ cc) (MZ b6) (MZ cc) (MZ cc) (MZ cc) (MZ cc) (MZ cc) (MZ b6)
def jd(b:Bool):ft (MZ b) (.exc "TooMany")=a5 b:=by cases b<;>decide +kernel
def wX:da Γ tQ [.exc "TooMany"]=a5 (.ok (.loc,.str "many")):=wW (jd _) (jd _) (jd _) (jd _) (jd _) (jd _) (jd _) (jd _) (jd _) rfl rfl rfl
abbrev tR:Fn:=⟨"_law_asked",1,4,[.set 1 (.cst .IV),.set 2 (.cst .IV),.MW 1 [] "fewest" [.var 0] "" [] "PrimerError" ["TooMany"] 3 2,.ret (.ite (.cmp .is (.var 2) (.cst .IV)) (.var 1) (.call "_law_kind" [.var 2]))]⟩
def HD(H:UX Pg)(h:Jy Pg "_law_asked" tR)(hk:Jy Pg "_law_kind" tQ)(d:Nat)(b:Bz ws rs)(c:rs.length<=90)(f:KL.Kn rs K)(i:K.length<=24):
  (5<(KK.IW rs K).length->I_ Pg (d+14) "_law_asked" [.tup (rs.map B')]=a5 (.ok (.loc,.str "many")))/\((KK.IW rs K).length<=5->∃u,I_ Pg (d+14) "_law_asked" [.tup (rs.map B')]=a5 (.ok (.loc,u))/\OP rs (KK.IW rs K) u):=by
 have a:start [.tup (rs.map B')] 4=[a5 (.loc,.tup (rs.map B')),b8,b8,b8]:=Ł (λx:Option (Kd×U)=>[x,b8,b8,b8]) (bU rs);have⟨j,k⟩:=HC H d b c f i;show⟨λg=>(aH h _).trans (aZ rfl (.inr rfl) a (ay aj aG (ay aj aG (Ai (aa (af rfl) ai) trivial (Hn (j g)) (Ho rfl (by decide) (by simp)) (bE (zg (aV (af rfl) aj trivial rfl) (aW (aa (af rfl) ai) trivial ((aH hk _).trans wX))) dg))))),λg=>?_⟩;have⟨u,e,l⟩:=k g;show⟨u,(aH h _).trans (aZ rfl (.inr rfl) a (ay aj aG (ay aj aG (Ai (aa (af rfl) ai) trivial (Hm e) Hq (bE (zf (aV (af rfl) aj trivial rfl) (af rfl)) dg))))),l⟩
end
section
def Fv(h:x∈L):Ln (wp rs L) x:=λC d=>by
 by_cases e:x∈heads rs
 .have⟨r,f,rfl⟩:=i6.mp e;have⟨a,b⟩:=ro.mp f;show d r (u6 _ a) λy c=>by rw[ŀ b]at c;cases c
 .show d (x,[]) (kj _ (i6.mpr ⟨x,ro.mpr ⟨h,Ŀ e⟩,rfl⟩)) λy c=>by cases c
def HE(h:Ln rs x):Ln (wp rs L) x:=λC a=>h C λr b=>a r (u6 _ b)
def wY(z:MM rs L):aL (wp rs L)=aL rs:=by
 have a:aP (aL (wp rs L))=aL rs:=lT ((N8 (fB _) (fB _)).mpr λx=>kC z) (dO _);have b:aP (aL (wp rs L))=aL (wp rs L):=lT (Lq _) (dO _);show b.symm.trans a
structure MN(ws:List Str)(rs:List Row)(K:List Str):Prop where
 wl:ws.length<=24
 ok:∀r∈rs,c6 ws r
 rl:rs.length+(KK.IW rs K).length<=84
 kn:KL.Kn rs K
 ks:iy ws K
def MN.z(h:MN ws rs K):Bz ws rs:=⟨h.wl,by have:=h.rl;lia,h.ok⟩
def MN.next(h:MN ws rs K)(d:x∈KK.IW rs K)(k1:KL.Kn (wp rs [x]) a)(k2:iy ws a):MN ws (wp rs [x]) a/\((KK.IW rs K).filter λy=>!cK (y∈a))=KK.IW (wp rs [x]) a/\(KK.IW (wp rs [x]) a).length<(KK.IW rs K).length:=by
 have hz:MM rs [x]:=λy b=>by rw[hQ]at b;subst b;show(eE.mp d).1
 have e:((KK.IW rs K).filter λy=>!cK (y∈a))=KK.IW (wp rs [x]) a:=by
  unfold KK.IW;rw[wY hz,ZU];show R0 λy _=>?_;by_cases c:y∈a
  .simp[c]
  .have:y∉K:=λz=>c ((Kn.mem k1).mpr (HE ((Kn.mem h.kn).mp z)));simp[c,this]
 have hl:(KK.IW (wp rs [x]) a).length<(KK.IW rs K).length:=by
  rw[<-e,List.length_filter_lt_length_iff_exists];show⟨x,d,by simpa using(Kn.mem k1).mpr (Fv (by simp))⟩
 have f:=pL (rs:=rs) (L:=[x]);have g:=h.rl;rw[Jk]at f;show⟨⟨h.wl,Al h.ok (λ_ h=>h) λy b=>h.z.in (hz y b),⋯,k1,k2⟩,e,hl⟩
abbrev Ao:List S :=
   [.set 1 (.call "_law_pictured" [.var 1,.lst [.idx (.var 4) (.IT "_law_draw" [.var 0,.bi .len [.var 4]] [0])]]),
   .set 3 (.call "_law_learnt" [.var 1]),
   .set 4 (.comp 1 cc .seq [(.var 4)] [(.cmp .Ja (.var 0) (.var 4))] (.var 0))]
abbrev IK:List S :=
   [.set 3 (.call "_law_learnt" [.var 1]),
    .set 4 (.comp 1 cc .seq [.call "_law_all" [.var 1]] [.cmp .Ja (.var 0) (.var 4)] (.var 0)),
    .MV (.cmp .gt (.bi .len [.var 4]) (.var 2)) Ao,
    .ret (.tup [(.var 1),(.var 4)])]
abbrev Fw:Fn:=⟨"_law_cut",3,5,.Mh [0]::IK⟩
abbrev gP(u:U)(rs:List Row)(most:Int)(K:List Str)(o4:Option (Kd×U)):aw:=[a5 (.io,u),a5 (.loc,.tup (rs.map B')),a5 (.loc,.int most),a5 (.own,mE K),o4]
def vG{Z K:List Str}(hl:Z.length<=1000)(hs:Run (ev Γ src) (gP u rs most K o4) (k,.lst (Z.map .str)) (gP u rs most K o4))(a:bq [(k,.lst (Z.map .str))] (gP u rs most K o4))(c:KI .seq [(k,.lst (Z.map .str))]=a5 (Z.map λx=>(Kd.loc,U.str x))):
  Run (ev Γ (.comp 1 cc .seq [src] [.cmp .Ja (.var 0) (.var 4)] (.var 0))) (gP u rs most K o4) (.own,.lst ((Z.filter λy=>!cK (y∈K)).map .str)) (gP u rs most K o4):=by
 have hsz:(1000:Nat)<=cL:=by decide
 have b:=ir (cond:=a_ Γ [.cmp .Ja (.var 0) (.var 4)]) (elt:=ev Γ (.var 0)) (src:=[(k,.lst (Z.map .str))]) (st:=gP u rs most K o4) a .loc (.inl rfl) U.str U.str (λy=>!cK (y∈K)) .loc Z [] (by simp;lia)
  (λx _=>⟨dB (aV (af rfl) (aI rfl) ⟨⟨.own,rfl,rfl⟩,trivial⟩ eZ),λ_=>⟨af rfl,aF⟩⟩)
 rw[i7]at b;show dC (rs:=[(k,.lst (Z.map .str))]) (aa hs ai) a c b
structure UZ(Γ:Tab):Prop where
 d:bH Γ
 l:IE Γ
 a:∀ws rs,Bz ws rs->Γ "_law_all" [.tup (rs.map B')]=a5 (.ok (.own,.lst ((aL rs).map .str)))
 p:∀(rs:List Row) (L:List Str),rs.length<=120->L.length<=40->Γ "_law_pictured" [.tup (rs.map B'),.lst (L.map .str)]=a5 (.ok (.loc,.tup ((wp rs L).map B')))
def Ap(G:UZ Γ)(h:MN ws rs K)(s:Src T u)(H:T+2<2 ^ 62)(I:0<(KK.IW rs K).length):
  ∃b a u',Run (execs Γ Ao) (gP u rs most K (a5 (.own,.lst ((KK.IW rs K).map .str)))) .nx (gP u' b most a (a5 (.own,.lst ((KK.IW b a).map .str))))/\MN ws b a/\(KK.IW b a).length<(KK.IW rs K).length/\Src (T+1) u':=by
 have hsz:(1000:Nat)<=cL:=by decide
 have J:=gn h.z K;have⟨n,f,t,w,A,s1⟩:=dz (Γ:=Γ) (st:=gP u rs most K (a5 (.own,.lst ((KK.IW rs K).map .str)))) G.d (i:=0) (k:=.io) (e:=.bi .len [.var 4]) (m:=(((KK.IW rs K).map U.str).length:Nat)) rfl rfl (dc (aa (aI rfl) ai) (by show⟨⟨.own,rfl,rfl⟩,trivial⟩) bX) s ⋯ (by simp;lia) (by simp;lia);rw[c4]at A;have o:n.toNat<(KK.IW rs K).length:=by lia
 have q:JK ((KK.IW rs K).map U.str) n=a5 (.str (KK.IW rs K)[n.toNat]):=by
  have:=eL (xs:=(KK.IW rs K).map U.str) (j:=n.toNat) (v:=.str (KK.IW rs K)[n.toNat]) (by simp[o]);rw[Int.toNat_of_nonneg w]at this;show this
 have g:(KK.IW rs K)[n.toNat]∈KK.IW rs K:=LL o;generalize (KK.IW rs K)[n.toNat]=x at q g;have L:=h.rl;have B:Run (ev Γ (.call "_law_pictured" [.var 1,.lst [.idx (.var 4) (.IT "_law_draw" [.var 0,.bi .len [.var 4]] [0])]])) (gP u rs most K (a5 (.own,.lst ((KK.IW rs K).map .str)))) (.loc,.tup ((wp rs [x]).map B')) (gP f rs most K (a5 (.own,.lst ((KK.IW rs K).map .str)))) :=
  aW (aa (af rfl) (aa (bA (us:=[.str x]) (aa (bf (aI rfl) t (by show⟨⟨.own,rfl,rfl⟩,trivial⟩) (bS q)) ai) trivial (av aF az) (by change 1<=cL;lia)) ai)) trivial (G.p rs [x] ⋯ (by simp))
 have hz:MM rs [x]:=λy c=>by rw[hQ]at c;subst c;show(eE.mp g).1
 have⟨a,e,k1,k2⟩:=G.l ws (wp rs [x]) .loc _ .tup h.wl (Al h.ok (λ_ h=>h) λy c=>h.z.in (hz y c));have⟨c1,C,D⟩:=h.next g k2 k1;have r:=vG (Γ:=Γ) (src:=.var 4) (k:=.bor 4) (Z:=KK.IW rs K) (K:=a) (u:=f) (rs:=wp rs [x]) (most:=most) (o4:=a5 (.own,.lst ((KK.IW rs K).map .str))) ⋯ (aI rfl) ⟨⟨.own,rfl,rfl⟩,trivial⟩ (by change a5 (((KK.IW rs K).map U.str).map λu=>(kE (.bor 4),u))=_;rw[i4];rfl);rw[C]at r;show⟨wp rs [x],a,f,ay B aG (ay (aW (aa (af rfl) ai) trivial e) a9 (ay r a9 aB)),c1,D,s1⟩
theorem rF(G:UZ Γ)(g:0<=most):∀(f:Nat) (rs:List Row) (K:List Str) (u:U) (T:Int),MN ws rs K->Src T u->T+(KK.IW rs K).length+10<2 ^ 62->(KK.IW rs K).length<f->∃b c u',Run (fL (Jl Γ (.cmp .gt (.bi .len [.var 4]) (.var 2))) (execs Γ Ao) (f+1)) (gP u rs most K (a5 (.own,.lst ((KK.IW rs K).map .str)))) .nx (gP u' b most c (a5 (.own,.lst ((KK.IW b c).map .str))))/\MN ws b c/\Src (T+(KK.IW rs K).length) u'
 |0,_,_,_,_,_,_,_,h=>by lia
 |f+1,rs,K,u,T,h,d,r,s=>by
  have a:Run (Jl Γ (.cmp .gt (.bi .len [.var 4]) (.var 2))) (gP u rs most K (a5 (.own,.lst ((KK.IW rs K).map .str)))) (cK (most<((KK.IW rs K).length:Nat))) (gP u rs most K (a5 (.own,.lst ((KK.IW rs K).map .str)))):=aV (dc (aa (aI rfl) ai) (by show⟨⟨.own,rfl,rfl⟩,trivial⟩) bX) (af rfl) trivial (gb (by rw[c4]));have t:=gn h.z K;by_cases e:most<((KK.IW rs K).length:Nat)
  .rw[Ŀ e]at a;have⟨i,j,k,l,c1,v,s1⟩:=Ap G (most:=most) h d ⋯ ⋯;have⟨m,n,o,p,q,s2⟩:=rF G g f i j k (T+1) c1 s1 ⋯ ⋯;show⟨m,n,o,qZ a l p,q,s2.up ⋯⟩
  .rw[ľ e]at a;show⟨rs,K,u,nN a,h,d.up ⋯⟩
abbrev Dg(Γ:Tab):Prop:=∀(T most:Int) (u:U) (ws:List Str) (rs:List Row),Src T u->T+100<2 ^ 62->0<=most->ws.length<=24->rs.length<=60->(∀r∈rs,c6 ws r)->∃a b u',Γ "_law_cut" [u,.tup (rs.map B'),.int most]=a5 (.ok (.loc,.tup [.tup [.tup (a.map B'),.lst ((KK.IW a b).map .str)],u']))/\MN ws a b/\Src (T+30) u'
def HF(G:UZ (I_ Pg d))(h:Jy Pg "_law_cut" Fw):Dg (I_ Pg (d+1)):=by
 intro T most u ws rs m x p j n g;have hsz:(1000:Nat)<=cL:=by decide
 have q:cW [0] [u,.tup (rs.map B'),.int most] Fw.ns=[a5 (.io,u),a5 (.loc,.tup (rs.map B')),a5 (.loc,.int most),b8,b8]:=by
  obtain⟨_,_,_,rfl,_⟩:=m;change [a5 (Kd.io,_),a5 (if Jo (.tup (rs.map B'))=b6 then Kd.loc else Kd.any,U.tup (rs.map B')),a5 (Kd.loc,U.int most),b8,b8]=_;rw[bU]
 have hz:Bz ws rs:=⟨j,⋯,g⟩
 have⟨K,e,k1,k2⟩:=G.l ws rs .loc _ .tup j g;have z:=gn hz K;have A:=fC λr n=>(g r n).ok;have o:=vG (Γ:=I_ Pg d) (src:=.call "_law_all" [.var 1]) (k:=.own) (Z:=aL rs) (K:=K) (u:=u) (rs:=rs) (most:=most) (o4:=b8) ⋯ (aW (aa (af rfl) ai) trivial (G.a ws rs hz)) trivial (by change a5 (((aL rs).map U.str).map λu=>(kE .own,u))=_;rw[i4];rfl);have t:((aL rs).filter λy=>!cK (y∈K))=KK.IW rs K:=by
  unfold KK.IW;show R0 λy _=>by simp
 rw[t]at o;have⟨b,i,u',v,c,s⟩:=rF G (ws:=ws) p 999999999999 rs K u T ⟨j,g,⋯,k2,k1⟩ m ⋯ ⋯;show⟨b,i,u',?_,c,s.up ⋯⟩;rw[cQ h _ rfl];obtain⟨w,rfl,_⟩:=s.lst;show cD (f:=.rt .loc (.tup [.tup (b.map B'),.lst ((KK.IW b i).map .str)])) (st:=gP (.lst w) b most i (a5 (.loc,.lst ((KK.IW b i).map .str)))) rfl q (ay (aW (aa (af rfl) ai) trivial e) a9 (ay o a9 (q9 v (bE (dF (aa (af rfl) (aa (aI rfl) ai)) (by show⟨⟨.own,rfl,rfl⟩,trivial⟩) (av aF (av (vn rfl) az)) (by change 2<=cL;lia)) dg)))) rfl rfl
abbrev tS:Fn:=⟨"law",1,8,[.set 1 (.NF .K6 [.MC (.var 0) [] [.cst (.int 200)]]),.set 2 (.IT "_law_source" [.var 1,.cst (.int 2)] [0]),.set 3 (.IT "_law_source" [.var 1,.cst (.int 1)] [0]),.set 4 (.IT "_law_book" [.var 1,.var 3,.IT "_law_words" [.var 3] [0]] [0,1]),.set 5 (.idx (.lst [.cst (.int 60),.bin .add (.cst (.int 4)) (.IT "_law_draw" [.var 2,.cst (.int 4)] [0]),.bin .add (.cst (.int 5)) (.IT "_law_draw" [.var 2,.cst (.int 2)] [0])]) (.IT "_law_draw" [.var 2,.cst (.int 3)] [0])),.L8 [4,6] (.IT "_law_cut" [.var 2,.var 4,.var 5] [0]),.set 7 (.call "_law_asked" [.var 4]),.ite (.cmp .gt (.bi .len [.var 6]) (.cst (.int 5))) [.ret (.cmp .eq (.var 7) (.cst (.str "many")))] [],.ret (.and [.NH (.var 7) .tuple,.cmp .eq (.bi .len [.var 7]) (.cst (.int 2)),.cmp .le (.bi .len [.idx (.var 7) (.cst (.int 0))]) (.bi .len [.var 6])])]⟩
def OP.two(h:OP rs ws u):∃l v,u=.tup [JR l,v]/\l.length<=ws.length:=by
 cases h with
 |nil h=>show⟨[],_,rfl,by simp⟩
 |cons h _=>show⟨_,_,rfl,h.sub.length_le⟩
def CF(d:pF Γ)(e:lX Γ){ns:List Int}(f:ns.length<1000)(b:Src 0 u):
  ∃(ws:List Str) (rs:List Row) (a:List Int) (u':U),Run (ev Γ (.IT "_law_book" [.var 1,.var 3,.IT "_law_words" [.var 3] [0]] [0,1])) (o0::a5 (.own,.lst (ns.map .int))::o2::a5 (.own,u)::rest) (.loc,.tup (rs.map B')) (o0::a5 (.own,.lst (a.map .int))::o2::a5 (.own,u')::rest)/\ws.length<=24/\c7 ws rs/\rs.length<=60:=by
 obtain⟨ws,s,g,t,h,s1,_⟩:=d 0 u b ⋯;have⟨us,rfl,l⟩:=b.lst;have⟨c,rfl,m⟩:=s1.lst;have n:=iw (Γ:=Γ) (st:=o0::a5 (.own,.lst (ns.map .int))::o2::a5 (.own,.lst us)::rest) (i:=3) (es:=[]) (k0:=.own) (k:=.own) rfl rfl ai rfl rfl l rfl g (.inl rfl);have⟨rs,a,v,o,p,q,w,s2⟩:=e ns (.lst c) ws _ s1 ⋯ f ⋯ ⋯;have⟨r,rfl,x⟩:=s2.lst;show⟨ws,rs,a,.lst r,Cu (Γ:=Γ) (st:=o0::a5 (.own,.lst (ns.map .int))::o2::a5 (.own,.lst us)::rest) (st1:=o0::a5 (.own,.lst (ns.map .int))::o2::a5 (.own,.lst c)::rest) (i:=1) (j:=3) (k0:=.own) (k:=.own) (k0':=.own) (k':=.own) (rs:=[(.own,.lst (ws.map .str))]) ⋯ rfl rfl rfl rfl (aa n ai) rfl rfl (gK ns) rfl rfl m rfl o (.inr rfl),h,p,q⟩
def wZ(s:jc Γ)(r:bH Γ)(z:pF Γ)(A:lX Γ)(B:Dg Γ)
  (C:∀ws rs K,MN ws rs K->(5<(KK.IW rs K).length->Γ "_law_asked" [.tup (rs.map B')]=a5 (.ok (.loc,.str "many")))/\((KK.IW rs K).length<=5->∃u,Γ "_law_asked" [.tup (rs.map B')]=a5 (.ok (.loc,u))/\OP rs (KK.IW rs K) u)) {ns:List Int} (hn:ns.length<=63):da Γ tS [.lst (ns.map .int)]=a5 (.ok (.loc,.bl b6)):=by
 have D:(1000:Nat)<=cL:=by decide
 have t:sm .K6 [(.own,.lst ((cut ns b8 (a5 200)).map .int))]=a5 (.own,.lst ((cut ns b8 (a5 200)).reverse.map .int)):=by
  change(if fq .own ((cut ns b8 (a5 200)).map U.int)=b6 then a5 (Kd.own,U.lst ((cut ns b8 (a5 200)).map U.int).reverse) else b8)=_;rw[ļ (show fq .own ((cut ns b8 (a5 200)).map U.int)=b6 from rfl),List.map_reverse]
 have j:(cut ns b8 (a5 200)).reverse.length<=63:=by rw[Ul];have:=Ca ns b8 (a5 200);lia
 generalize (cut ns b8 (a5 200)).reverse=G at t j;let o0:Option (Kd×U):=a5 (.any,.lst (ns.map .int));have⟨H,n,I,l2,s2⟩:=rq (Γ:=Γ) s (ns:=G) (rest:=[b8,b8,b8,b8,b8,b8]) (o0:=o0) (k:=2);have⟨J,L,N,l3,s3⟩:=rq (Γ:=Γ) s (ns:=H) (rest:=[a5 (.own,n),b8,b8,b8,b8,b8]) (o0:=o0) (k:=1);have⟨ws,rs,O,Q,T,Y,b4,l4⟩:=CF (Γ:=Γ) z A (ns:=J) (u:=L) (rest:=[b8,b8,b8,b8]) (o0:=o0) (o2:=a5 (.own,n)) ⋯ s3;let S:U->Option (Kd×U)->Option (Kd×U)->Option (Kd×U)->Option (Kd×U)->aw:=λu o4 o5 o6 o7=>[o0,a5 (.own,.lst (O.map .int)),a5 (.own,u),a5 (.own,Q),o4,o5,o6,o7]
 have⟨a,ua,ra,a0,a1,sa⟩:=dz (Γ:=Γ) (st:=S n (a5 (.loc,.tup (rs.map B'))) b8 b8 b8) r (i:=2) (k:=.own) (e:=.cst (.int 4)) (m:=4) rfl rfl aj s2 ⋯ ⋯ ⋯;have⟨b,ub,rb,b0,b1,sb⟩:=dz (Γ:=Γ) (st:=S ua (a5 (.loc,.tup (rs.map B'))) b8 b8 b8) r (i:=2) (k:=.own) (e:=.cst (.int 2)) (m:=2) rfl rfl aj sa ⋯ ⋯ ⋯;have⟨c,w,rc,c0,c1,x⟩:=dz (Γ:=Γ) (st:=S ub (a5 (.loc,.tup (rs.map B'))) b8 b8 b8) r (i:=2) (k:=.own) (e:=.cst (.int 3)) (m:=3) rfl rfl aj sb ⋯ ⋯ ⋯;obtain⟨most,hm,h0⟩:∃most:Int,JK [U.int 60,U.int (4+a),U.int (5+b)] c=a5 (.int most)/\0<=most:=by
  have:c=0\/c=1\/c=2:=by lia
  rcases this with rfl|rfl|rfl
  .show⟨60,rfl,⋯⟩
  .show⟨4+a,rfl,⋯⟩
  .show⟨5+b,rfl,⋯⟩
 have q5:Run (ev Γ (.idx (.lst [.cst (.int 60),.bin .add (.cst (.int 4)) (.IT "_law_draw" [.var 2,.cst (.int 4)] [0]),.bin .add (.cst (.int 5)) (.IT "_law_draw" [.var 2,.cst (.int 2)] [0])]) (.IT "_law_draw" [.var 2,.cst (.int 3)] [0]))) (S n (a5 (.loc,.tup (rs.map B'))) b8 b8 b8) (.loc,.int most) (S w (a5 (.loc,.tup (rs.map B'))) b8 b8 b8) :=
  bf (bA (us:=[U.int 60,U.int (4+a),U.int (5+b)]) (aa aj (aa (bj aj ra trivial bW) (aa (bj aj rb trivial bW) ai))) trivial (av aF (av aF (av aF az))) (by change 3<=cL;lia)) rc trivial (bS hm)
 have⟨d,g,u',e6,hI,s6⟩:=B _ most w ws rs x ⋯ h0 Y l4 b4.1;have⟨y,rfl,Zr⟩:=x.lst;have⟨o,rfl,Z4⟩:=s6.lst;have q6:=iw (Γ:=Γ) (st:=S (.lst y) (a5 (.loc,.tup (rs.map B'))) (a5 (.loc,.int most)) b8 b8) (st1:=S (.lst y) (a5 (.loc,.tup (rs.map B'))) (a5 (.loc,.int most)) b8 b8) (i:=2) (es:=[.var 4,.var 5]) (k0:=.own) (k:=.own) (rs:=[(.loc,.tup (rs.map B')),(.loc,.int most)]) rfl rfl (aa (af rfl) (aa (af rfl) ai)) rfl rfl Zr rfl e6 (.inr rfl);have⟨A1,A2⟩:=C ws d g hI;have hl:∀o7:Option (Kd×U),Run (ev Γ (.bi .len [.var 6])) (S (.lst o) (a5 (.loc,.tup (d.map B'))) (a5 (.loc,.int most)) (a5 (.loc,.lst ((KK.IW d g).map .str))) o7) (.loc,.int ((KK.IW d g).length:Nat)) (S (.lst o) (a5 (.loc,.tup (d.map B'))) (a5 (.loc,.int most)) (a5 (.loc,.lst ((KK.IW d g).map .str))) o7):=λo7=>by
  have:=dc (Γ:=Γ) (f:=.len) (es:=[.var 6]) (st:=S (.lst o) (a5 (.loc,.tup (d.map B'))) (a5 (.loc,.int most)) (a5 (.loc,.lst ((KK.IW d g).map .str))) o7) (aa (af rfl) ai) trivial bX;rw[c4]at this;show this
 have h:∃st',Run (execs Γ [.set 7 (.call "_law_asked" [.var 4]),.ite (.cmp .gt (.bi .len [.var 6]) (.cst (.int 5))) [.ret (.cmp .eq (.var 7) (.cst (.str "many")))] [],.ret (.and [.NH (.var 7) .tuple,.cmp .eq (.bi .len [.var 7]) (.cst (.int 2)),.cmp .le (.bi .len [.idx (.var 7) (.cst (.int 0))]) (.bi .len [.var 6])])]) (S (.lst o) (a5 (.loc,.tup (d.map B'))) (a5 (.loc,.int most)) (a5 (.loc,.lst ((KK.IW d g).map .str))) b8) (.rt .loc (.bl b6)) st':=by
  by_cases h5:5<(KK.IW d g).length
  .show⟨_,ay (aW (aa (af rfl) ai) trivial (A1 h5)) aG (j9 (fz (aV (hl _) aj trivial (gb (c:=b6) (by simp;lia))) (bE (iW (af rfl) aj trivial (vi.trans (by simp))) dg)))⟩
  .have⟨u,eu,hu⟩:=A2 ⋯;have⟨l,v,rfl,UR⟩:=hu.two;show⟨_,ay (aW (aa (af rfl) ai) trivial eu) aG (bR (aV (hl _) aj trivial (gb (c:=cc) (by simp;lia))) aB (bE (G1 (zk (p:=b6) (q:=b6) (Hb (af rfl) rfl) λ_=>zk (p:=b6) (q:=b6) (iW (dc (aa (af rfl) ai) trivial vf) aj trivial (bL rfl)) λ_=>E6 (iW (dc (aa (bf (af rfl) aj trivial (oy (show JK [JR l,v] ((0:Nat):Int)=_ from eL rfl))) ai) trivial bX) (hl _) trivial (Hf (by rw[c4];simp;lia))))) dg))⟩
 have⟨st',h⟩:=h;show aZ (st0:=[o0,b8,b8,b8,b8,b8,b8,b8]) rfl (.inr rfl) rfl (ay (CW (aa (nG (aY rfl) qP (lH aj) trivial (zm (by change cB _=b6;show gK ns))) ai) trivial t) a9 (ay I a9 (ay N a9 (ay T aG (ay q5 aG (Fd q6 (jR (.inl rfl)) h))))))
end
end TM
namespace K
open PySem L2 TM
abbrev top(i:Nat):LS:=PySem.Challenge.pw_primer_k46_fewest_refused.main.body.getD i (.Pass ⟨0,0,0,0⟩)
noncomputable abbrev lZ:Fn:=TM.tf
noncomputable abbrev dr:Fn:=KL.dr
noncomputable abbrev fc:Fn:=TM.Dd
noncomputable abbrev bh:Fn:=KL.bh
noncomputable abbrev cR:Fn:=KL.cR
noncomputable abbrev br:Fn:=KL.br
noncomputable abbrev fD:Fn:=KL.fD
noncomputable abbrev fb:Fn:=KL.fb
noncomputable abbrev je:Fn:=TM.vA
abbrev Aq:Fn:=⟨"knot",1,4,[.newD 1,.Ji cc [2] .seq [.call "not_learnt" [.var 0]] [.putD 1 (.var 2) (.lst [])],.Ji cc [3] .seq [.var 0] [.ite (.inD cc (.idx (.var 3) (.cst (.int 0))) 1) [.Kz 1 (.idx (.var 3) (.cst (.int 0))) (.idx (.comp 1 cc .seq [.idx (.var 3) (.cst (.int 1))] [.inD cc (.var 0) 2] (.var 0)) (.cst (.int 0)))] []],.Lw 1 (.tup [.var 0,.bi .tuple [.var 1]])]⟩
noncomputable abbrev fI:Fn:=TM.Hv
noncomputable abbrev n9:Fn:=TM.De
noncomputable abbrev n_:Fn:=TM.UQ
noncomputable abbrev gp:Fn:=TM.UT
noncomputable abbrev vH:Fn:=TM.Fu
noncomputable abbrev rG:Fn:=TM.HB
noncomputable abbrev jf:Fn:=TM.zx
noncomputable abbrev l8:Fn:=TM.vt
noncomputable abbrev jT:Fn:=TM.lW
noncomputable abbrev oa:Fn:=TM.Fg
noncomputable abbrev og:Fn:=TM.Co
noncomputable abbrev l9:Fn:=TM.pE
noncomputable abbrev jg:Fn:=TM.Fp
noncomputable abbrev oh:Fn:=TM.Fj
abbrev l_:Fn:=⟨"_law_kind",1,2,[.set 1 (.lst [.Kf (.var 0) "Unknown" [("TooMany",cc)],.Kf (.var 0) "Unlearnt" [("TooMany",cc)],.Kf (.var 0) "TooMany" [("TooMany",b6)],.Kf (.var 0) "Lacking" [("TooMany",cc)]]),.set 1 (.bin .add (.var 1) (.lst [.Kf (.var 0) "NoText" [("TooMany",cc)],.Kf (.var 0) "Unfit" [("TooMany",cc)],.Kf (.var 0) "NoRow" [("TooMany",cc)],.Kf (.var 0) "NoDeed" [("TooMany",cc)]])),.ite (.or [.cmp .ne (.Nd cc 1 b6) (.cst (.int 1)),.not (.Kf (.var 0) "ValueError" [("TooMany",b6)])]) [.ret (.cst (.str "none"))] [],.ret (.idx (.lst [.cst (.str "unknown"),.cst (.str "unlearnt"),.cst (.str "many"),.cst (.str "lacking"),.cst (.str "text"),.cst (.str "unfit"),.cst (.str "row"),.cst (.str "deed")]) (.Nd b6 1 b6))]⟩
noncomputable abbrev gq:Fn:=TM.UM
noncomputable abbrev oi:Fn:=TM.Fw
noncomputable abbrev jU:Fn:=TM.tR
noncomputable abbrev Dh:Fn:=TM.tS
abbrev prog:List Fn:=[lZ,dr,fc,bh,cR,br,fD,fb,je,Aq,fI,n9,n_,gp,vH,rG,jf,l8,jT,oa,og,l9,jg,oh,l_,gq,oi,jU,Dh]
abbrev ck:Ck:=⟨(prog.filter λf=>f.io.isNone).map (·.name),[("MOST_NOT_LEARNT",(.int 5))],prog.filterMap λf=>f.io.map λp=>(f.name,p.1),["TooMany"],[],[("TooMany","Lacking",cc),("TooMany","NoDeed",cc),("TooMany","NoRow",cc),("TooMany","NoText",cc),("TooMany","TooMany",b6),("TooMany","Unfit",cc),("TooMany","Unknown",cc),("TooMany","Unlearnt",cc),("TooMany","ValueError",b6)],[("TooMany","PrimerError")]⟩
def pure(ns:List Int)(e:ns.length<=63):I_ prog 15 "law" [sW ns]=a5 (.ok (.loc,.bl b6)):=by
 have b:Jy prog "_law_draw" vt:=rfl;have hs:Jy prog "_law_source" zx:=rfl;have f:Jy prog "_law_learnt" Fp:=rfl;have g:Jy prog "_law_all" Fj:=rfl;have h:Jy prog "_law_pictured" UM:=rfl;have hk:Jy prog "_law_asked" tR:=rfl;have i:Jy prog "_law_kind" tQ:=rfl;have H:UX prog:=⟨⟨⟨rfl,rfl,rfl,rfl,rfl,rfl⟩,rfl,rfl,rfl,rfl,rfl⟩,rfl,rfl,rfl,rfl,rfl⟩
 have j:bH (I_ prog 12):=tu b;have c:bH (I_ prog 13):=tu b;have hl:Jy prog "law" tS:=rfl;rw[show I_ prog 15 "law" [sW ns]=_ from aH hl [sW ns]];show wZ (zL hs) (tu b) (Cr c rfl) (zY (zL hs) c (Hi j rfl) (Hk rfl) rfl) (HF ⟨c,IF ⋯ f,λws rs d=>IC g d.wl d.ok,λrs L k l=>IG h k l⟩ rfl) (λws rs K a=>?_) e;have m:=a.ks.len;have n:=a.wl;show HD H hk i 0 a.z (by have:=a.rl;lia) a.kn ⋯
end K
namespace K
open PySem L2 TM PySem.W PyProof.Rows
abbrev m0:dV:=.str "primer.books" 335
abbrev m1:dV:=.str "primer.learning" 364
abbrev m2:dV:=.str "primer.knots" 412
abbrev m3:dV:=.str "primer.pictures" 420
abbrev m4:dV:=.str "primer.fewest" 436
abbrev m5:dV:=.str "law_primer_k46_fewest_refused" 473
abbrev ml:Me:=⟨Dh,45,["_law_script","_law_left","_law_query","_law_source_here","_law_book_here","_law_most","_law_held","_law_found"],304,303,m5,co "law" 584 230 1 298 299 (.ref 300) (.ref 301) (.ref 302) 595 596 181⟩
abbrev ms:List Me:=[⟨lZ,11,["book","words","row"],130,129,m0,co "words_of" 337 21 1 124 125 (.ref 126) (.ref 127) (.ref 128) 343 344 181⟩,
 ⟨dr,12,["pairs","found","key","value"],137,136,m0,co "gathered" 346 27 1 131 132 (.ref 133) (.ref 134) (.ref 135) 353 354 181⟩,
 ⟨fc,13,["book","words"],144,143,m0,co "refuse_unknown" 356 34 2 138 139 (.ref 140) (.ref 141) (.ref 142) 361 362 181⟩,
 ⟨bh,15,["book","pairs","place","row"],149,148,m1,co "places_that_tell" 366 38 1 145 146 .none .none (.ref 147) 369 370 181⟩,
 ⟨cR,16,["book","places","known","steps","place","word"],156,155,m1,co "new_steps" 372 43 3 150 151 (.ref 152) (.ref 153) (.ref 154) 381 382 181⟩,
 ⟨br,17,["book","tellers","missing","known","found","ready","steps","word","place","teller"],161,160,m1,co "steps_in_rounds" 384 50 1 157 158 .none .none (.ref 159) 387 388 181⟩,
 ⟨fD,18,["book","found","steps"],168,167,m1,co "order" 390 68 1 162 163 (.ref 164) (.ref 165) (.ref 166) 396 397 181⟩,
 ⟨fb,19,["book"],173,172,m1,co "learnt" 399 73 1 169 170 .none .none (.ref 171) 402 403 181⟩,
 ⟨je,20,["book"],180,179,m1,co "not_learnt" 405 75 1 174 175 (.ref 176) (.ref 177) (.ref 178) 409 410 181⟩,
 ⟨Aq,22,["book","blocks","word","row"],185,184,m2,co "knot" 414 78 1 181 182 .none .none (.ref 183) 417 418 181⟩,
 ⟨fI,24,["book","words","pictured","row"],190,189,m3,co "with_pictures" 422 87 2 186 187 .none .none (.ref 188) 425 426 181⟩,
 ⟨n9,25,["book","words"],197,196,m3,co "suffice" 428 94 2 191 192 (.ref 193) (.ref 194) (.ref 195) 433 434 181⟩,
 ⟨n_,28,["words","number","found","place","word","others"],204,203,m4,co "choices" 440 98 2 198 199 (.ref 200) (.ref 201) (.ref 202) 449 450 181⟩,
 ⟨gp,29,["book","words","number","found"],209,208,m4,co "fewest_words" 452 106 2 205 206 .none .none (.ref 207) 455 456 181⟩,
 ⟨vH,30,["book","given","left","pairs"],214,213,m4,co "paper" 458 113 3 210 211 .none .none (.ref 212) 461 462 181⟩,
 ⟨rG,31,["book","words","chosen"],221,220,m4,co "fewest" 464 118 1 215 216 (.ref 217) (.ref 218) (.ref 219) 470 471 181⟩,
 ⟨jf,33,["_law_left","_law_k","_law_cell"],228,227,m5,co "_law_source" 475 127 2 222 223 (.ref 224) (.ref 225) (.ref 226) 481 482 181⟩,
 ⟨l8,34,["_law_source_here","_law_many","_law_number","_law_turn","_law_mixed"],235,234,m5,co "_law_draw" 484 132 2 229 230 (.ref 231) (.ref 232) (.ref 233) 492 493 181⟩,
 ⟨jT,35,["_law_source_here","_law_letters","_law_many","_law_base","_law_way","_law_size","_law_first","_law_words_here","_law_k","_law_word","_law_sense"],240,239,m5,co "_law_words" 495 141 1 236 237 .none .none (.ref 238) 498 499 181⟩,
 ⟨oa,36,["_law_source_here","_law_words_here","_law_at","_law_below","_law_told","_law_k","_law_one"],247,246,m5,co "_law_row" 501 162 4 241 242 (.ref 243) (.ref 244) (.ref 245) 511 512 181⟩,
 ⟨og,37,["_law_rows","_law_row_here","_law_other"],254,253,m5,co "_law_lay" 514 171 2 248 249 (.ref 250) (.ref 251) (.ref 252) 520 521 181⟩,
 ⟨l9,38,["_law_left","_law_source_here","_law_words_here","_law_rows","_law_way","_law_k","_law_at","_law_more"],261,260,m5,co "_law_book" 523 176 3 255 256 (.ref 257) (.ref 258) (.ref 259) 534 535 181⟩,
 ⟨jg,39,["_law_book_here","_law_known","_law_fell","_law_word","_law_told"],266,265,m5,co "_law_learnt" 537 188 1 262 263 .none .none (.ref 264) 540 541 181⟩,
 ⟨oh,40,["_law_book_here","_law_met","_law_word","_law_told","_law_one"],273,272,m5,co "_law_all" 543 198 1 267 268 (.ref 269) (.ref 270) (.ref 271) 551 552 181⟩,
 ⟨l_,41,["_law_e","_law_some"],280,279,m5,co "_law_kind" 554 205 1 274 275 (.ref 276) (.ref 277) (.ref 278) 559 560 181⟩,
 ⟨gq,42,["_law_book_here","_law_words_here","_law_heads"],285,284,m5,co "_law_pictured" 562 211 2 281 282 .none .none (.ref 283) 565 566 181⟩,
 ⟨oi,43,["_law_query","_law_book_here","_law_most","_law_known","_law_held"],290,289,m5,co "_law_cut" 568 214 3 286 287 .none .none (.ref 288) 571 572 181⟩,
 ⟨jU,44,["_law_book_here","_law_found","_law_caught","_law_e"],297,296,m5,co "_law_asked" 574 222 1 291 292 (.ref 293) (.ref 294) (.ref 295) 581 582 181⟩,
 ml]
abbrev gg(P:U0):Obj:=⟨.type "dict",b8,.dict #[ge P "__name__" 165 (.str "law_primer_k46_fewest_refused" 473),ge P "__doc__" 166 .none,ge P "__package__" 167 .none,ge P "__loader__" 168 (.builtin "__main__.__loader__#opaque"),ge P "__spec__" 169 .none,ge P "__annotations__" 170 (.ref 6),ge P "__builtins__" 171 (.ref 4),ge P "__file__" 173 (.str "/claim/cut.py" 172),ge P "__cached__" 174 .none,ge P "PrimerError" 206 (.ref 24),ge P "NoText" 222 (.ref 37),ge P "Unfit" 238 (.ref 49),ge P "Unknown" 254 (.ref 61),ge P "Unlearnt" 270 (.ref 73),ge P "TooMany" 286 (.ref 85),ge P "Lacking" 302 (.ref 97),ge P "NoRow" 318 (.ref 109),ge P "NoDeed" 334 (.ref 121),ge P "words_of" 345 (.ref 130),ge P "gathered" 355 (.ref 137),ge P "refuse_unknown" 363 (.ref 144),ge P "places_that_tell" 371 (.ref 149),ge P "new_steps" 383 (.ref 156),ge P "steps_in_rounds" 389 (.ref 161),ge P "order" 398 (.ref 168),ge P "learnt" 404 (.ref 173),ge P "not_learnt" 411 (.ref 180),ge P "knot" 419 (.ref 185),ge P "with_pictures" 427 (.ref 190),ge P "suffice" 435 (.ref 197),ge P "MOST_NOT_LEARNT" 439 (.int 5 438),ge P "choices" 451 (.ref 204),ge P "fewest_words" 457 (.ref 209),ge P "paper" 463 (.ref 214),ge P "fewest" 472 (.ref 221),ge P "_law_source" 483 (.ref 228),ge P "_law_draw" 494 (.ref 235),ge P "_law_words" 500 (.ref 240),ge P "_law_row" 513 (.ref 247),ge P "_law_lay" 522 (.ref 254),ge P "_law_book" 536 (.ref 261),ge P "_law_learnt" 542 (.ref 266),ge P "_law_all" 553 (.ref 273),ge P "_law_kind" 561 (.ref 280),ge P "_law_pictured" 567 (.ref 285),ge P "_law_cut" 573 (.ref 290),ge P "_law_asked" 583 (.ref 297),ge P "law" 597 (.ref 304)] 48,#[]⟩
abbrev xk(a:d8)(n:Str)(b r:d8)(t u:Tok):Obj:={cls:=.type "type",data:=.cls {name:=n,bases:=[.ref b],mro:=[.ref a,.ref b,.type "ValueError",.type "Exception",.type "BaseException",.type "object"],ns:=a - 1,qualname:=n},slots:=#[a5 (.ref r),b8,a5 (.str n t),a5 (.str n u),a5 (.builtin "ValueError.__new__"),a5 (.bool b6)]}
abbrev xd(P:U0)(m f:Tok)(l:Int)(n s:Tok)(a:d8)(d:Tok):Obj:={cls:=.type "dict",data:=.dict #[ge P "__module__" m (.str "primer.errors" 187),ge P "__firstlineno__" f (.int l n),ge P "__static_attributes__" s (.ref a),ge P "__doc__" d .none] 2}
abbrev xo(P:U0):List (d8×Obj):=[(97,xk 97 "Lacking" 24 88 287 295),
 (121,xk 121 "NoDeed" 24 112 319 327),
 (109,xk 109 "NoRow" 24 100 303 311),
 (37,xk 37 "NoText" 24 28 207 215),
 (24,({cls:=.type "type",data:=.cls {name:="PrimerError",bases:=[.type "ValueError"],mro:=[.ref 24,.type "ValueError",.type "Exception",.type "BaseException",.type "object"],ns:=23,qualname:="PrimerError",subclasses:=[.ref 37,.ref 49,.ref 61,.ref 73,.ref 85,.ref 97,.ref 109,.ref 121]},slots:=#[a5 (.ref 15),b8,a5 (.str "PrimerError" 189),a5 (.str "PrimerError" 197),a5 (.builtin "ValueError.__new__"),a5 (.bool b6)]}:Obj)),
 (85,xk 85 "TooMany" 24 76 271 279),
 (49,xk 49 "Unfit" 24 40 223 231),
 (61,xk 61 "Unknown" 24 52 239 247),
 (73,xk 73 "Unlearnt" 24 64 255 263),
 (96,xd P 294 298 14 297 299 95 300),
 (120,xd P 326 330 18 329 331 119 332),
 (108,xd P 310 314 16 313 315 107 316),
 (36,xd P 214 218 4 217 219 35 220),
 (23,({cls:=.type "dict",data:=.dict #[{hash:=PL P "__module__",key:=.str "__module__" 196,val:=.str "primer.errors" 187},{hash:=PL P "__firstlineno__",key:=.str "__firstlineno__" 200,val:=.int 2 199},{hash:=PL P "__static_attributes__",key:=.str "__static_attributes__" 201,val:=.ref 22},{hash:=PL P "__weakref__",key:=.str "__weakref__" 203,val:=.ref 25},{hash:=PL P "__doc__",key:=.str "__doc__" 204,val:=.none}] 3}:Obj)),
 (84,xd P 278 282 12 281 283 83 284),
 (48,xd P 230 234 6 233 235 47 236),
 (60,xd P 246 250 8 249 251 59 252),
 (72,xd P 262 266 10 265 267 71 268)]
abbrev gx(P:U0):Gx:=(gg P,xo P)
abbrev xa:List d8:=[97,121,109,37,24,85,49,61,73,96,120,108,36,23,84,48,60,72]
abbrev vw:u3:=view PySem.Challenge.pw_primer_k46_fewest_refused [11,12,13,15,16,17,18,19,20,22,24,25,28,29,30,31,33,34,35,36,37,38,39,40,41,42,43,44,45]
abbrev hk:Hook:=kHook (λP=>KW top (gx P) ms) (adr ms xa) λP=>vb top (gx P) ms xa rfl
abbrev lo:List Str:=["PrimerError","NoText","Unfit","Unknown","Unlearnt","TooMany","Lacking","NoRow","NoDeed","MOST_NOT_LEARNT"]
noncomputable abbrev xt(s:d5):Bool:=xlAt vw [] s&&recOk (RowW.records PySem.Challenge.rw_primer_k46_fewest_refused.row.toRowW) s
noncomputable abbrev oe(w:ve):Option d5:=openEnds treeTable PySem.Challenge.rw_primer_k46_fewest_refused.row.prog w 4000
noncomputable abbrev os(s:d5):=openSeen vw lo (importedModules PySem.Challenge.rw_primer_k46_fewest_refused.row.prog.main.body) xt b6 s
def LO(w:ve):(oe w).map (λs=>(os s).1)=a5 (openGood vw lo).1:=by kernel_rfl
def Ms(w:ve):(oe w).map (λs=>(os s).2)=a5 (openGood vw lo).2:=by kernel_rfl
def Pl(w:ve):(oe w).map hk.obs=a5 (hk.val w):=by kernel_rfl
def hl:LeftO PySem.Challenge.rw_primer_k46_fewest_refused.row.prog vw lo xt hk.obs hk.val 4000:=λw=>by
 have⟨s,e,a⟩:=eH.mp (LO w);have b:=Ms w;have c:=Pl w;rw[e]at b c;change(oe w).map _=_;rw[e];show Ł a5 (æ (æ a (ts b)) (ts c))
def hs:PySem.Challenge.rw_primer_k46_fewest_refused.wellSaid=b6:=by kernel_rfl
def ho(P:U0):NM ck top (KW top (gx P) ms) ms=b6:=by kernel_rfl
def Zt(P:U0):(gX ck (KW top (gx P) ms)&&gY ck (KW top (gx P) ms))=b6:=by kernel_rfl
end K
open PySem PySem.W PyProof.Rows K
theorem PySem.Challenge.cw_primer_k46_fewest_refused_holds : PySem.Challenge.rw_primer_k46_fewest_refused.Holds := by
 w_on
 refine holds_law hs λz => ?_;refine holds_open hl hk.of hk.keeps (λs e => xl_of s (x2.mp e).1) XL.keeps rfl rfl rfl (λs e => recFacts_of (x2.mp e).2) rfl z (by kernel_rfl) ⟨rfl, rfl, rfl, rfl, rfl, by decide +kernel⟩ ?hw ?a
 (case hw => w_witness2)
 exact TM.walk2 (l := PySem.Challenge.rw_primer_k46_fewest_refused) (Pg := prog) (ck := ck) (dp := 14) (x := "_law_script") (m := ml) rfl rfl ⟨rfl, by decide, by decide, rfl⟩ rfl (by decide +kernel) (by decide +kernel) rfl (SW.mpr ⟨28, rfl⟩) rfl rfl ho Zt (λ_ => rfl) K.pure
