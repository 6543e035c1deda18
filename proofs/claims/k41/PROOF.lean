import PyProof.Rows.All
import Wide.All
import OpenK.AllK
import Wide.FinOn
import Lean
import PyProof.EqAt
import PyProof.EqKinds
import PyProof.TupleCall
import PyProof.StrLawsChain
import PyProof.StrLawsFirst
import PyProof.Rows.StrNews2
import OpenK.AllK
import PySem.SetOps
import OpenK.AllK
import PyProof.DictItems
import PyProof.StationsW
import PyProof.ExcBaseAll.ValueError
import PyProof.RulesAs
import PyProof.NsDelKeeps
import OpenK.AllK
import PyProof.ExcArgsOwn
import PyProof.ExcAttrAll.ValueError
import PyProof.IsiBase
import PyProof.ReprBulk
import PySem.Challenge.RW_primer_k41_with_pictures
set_option Elab.async false
set_option linter.all false
set_option bootstrap.genMatcherCode false
set_option maxRecDepth 100000
set_option maxHeartbeats 4000000
set_option genInjectivity false
set_option genSizeOf false
set_option autoImplicit true
set_option relaxedAutoImplicit true
open Option renaming some->a5,none->b8,map_eq_some_iff->et,bind_eq_some_iff->r3,isNone_iff_eq_none->Rh,isSome_iff_exists->RG,map_eq_none_iff->R0,isSome_map->UE,map_some->Vo,getD_none->Zu
open Bool renaming true->bD,and_eq_true->cb,false->cc,false_ne_true->i1,not_eq_true'->nH,and_eq_true_iff->x2,eq_iff_iff->D7,false_eq_true->Li,or_eq_true->LF,and_false->Tb,or_false->X',false_and->Ê,not_true->Ø,and_true->Ù,and_self->Ú
open PySem renaming wpAny_bind->b6,sizeLine->cK,wpAny_pure->c2,Value->df,wpAny->dV,Shared->d4,Addr->d7,model->eh,starEach->gs,mainGlobals->i5,wpAny_mono->kj,wpAny_setState_of->l0,Expr->l',wpAny_Call_Name_kw->qs,wpAny_holding->ti,bootBuiltins->t4,rawInt->u6,Program->u7,eval->vl,wpAny_newObj_type->wq,backTo->x3,scanBound->zy,World->DD,wpAny_truthy_bool->IQ,isSubtype_type->Jd,Heap->Jl,wpAny_call_entry->JQ,codeAny_builtin->KQ,cLine->K4,keywordEach->Lq,foldedSetIterable->LS,Scope->LY,behindInMarks->L5,Stmt->L8,holding->Mz,Keyword->MA,wpAny_setField->M5,Around->M8,sysModules->NJ,call->NQ,Builtin->NR,wpAny_passesOwn->N1,isSubtype->Of,builtinLookup_eq_fast->Ol,wpAny_rule->OC,binaryOp->OH,SetTable->O4,NameKind->O6,wpAny_isInstance->O7,swapsWith->O8,compareOp->Pb,backToKw->PH,wpAny_pyIter_tuple->PL,tupleKind_room_in1->PN,assignEach->PU,wpAny_getItem_str_slice->PZ,wpAny_callSpecial?_slot->P0,wpAny_loadPart_at->P9,codeAny->P',wpAny_askSetting->Qo,typeLookup->Qq,call_meets->Qv,swapsWithSole->QN,sliceBounds->QW,wpAny_updateSeq->Rt,wpAny_execs_nil->Ru,typeLookup_type->Rv,wpAny_setEntries_of->RA,codeAny_mono->RO,assign->RY,FuncData->RZ,plainId_quiet->Sq,attributeBase->Su,setItem->Tc,relabel->Tf,pyNext->Tg,notedBy->Tj,callerA->Ts,wpAny_specialOf->TJ,wpAny_loadPart'->TY,post_val_or_str->TZ,letOwnedTupleGo->T1,call_isinstance->T5,wpAny_seqItems->UL,wpAny_field->UM,firstArgMember->UN,codeAny_call_builtin->UO,tupleKind->UT,swappedStores->Va,Params->Vy,wpAny_typeOf->VP,wpAny_storeSet_of->VR,wpAny_setEpoch_of->VS,wpAny_pyIter_list->VT,wpAny_pyIter_enum->VU,valueAt->VW,sub_set_self->VX,setNext->VY,setField->VZ,release->V0,getItem->V7,fits_of_scanBound->V8,concat_meets->V9,compEnvC->V_,seqIndex?->W9,pickOrder->Xa,noFill_tuple_add->Xc,checkBuiltinCall->Xd,PassesOwn->Xh,wpAny_of_eq->Xq,unsupported->Xr,subscripted->Xs,standAt->Yl,wpAny_runValue->Yr,typeIs_str->Ys,relayAll->Yt,raiseNew->Yu,pyIter->Yv,entryFor_alias->Yw,atKey->Yy,GenState->Yz,wpAny_standAt->YT,wpAny_newList->YW,wpAny_comprehension_free->YX,seq_tuple_add->Y2,wpAny_Call_method0_late->Zm,seqItems?->Zn,bindL->Zo,bindC->Zq,wpAny_Call_method_late->Zw,typeOf->Zx,setNextDrawn->Zy,newExc->Zz,collect->ZA,call_meetsIn->ZC,IsEnum->ZH,BindsTo->ZK,wpAny_isTrue_Compare1->ZU,step->Z2,seqIndex_of->Z3,entryFor->Z4,codeAny_extend_loopS->Z5,Operator->Z6,wpAny_load->Ë,wpAny_call->Ì,wpAny_Name->Í,setsByText->Î,builtinsNs->Ï,WalksS->Ð,JoinOk->Ò,wpAny_pyIter_slot->Û,wpAny_assign_Name->Ü,wpAny_Return_some->Ý,wpAny_Assign_Name->Þ,spliced->ß,slot_list_getitem->à,newList->á,ItemsOf->è,CmpOp->ë,wpAny_setScan_of->î,wpAny_execs_cons->ï,wpAny_eqBool_str->ð,wpAny_eqBool_int->ñ,updateSeq->ò,setDiscardHashed->ó,rule->ô,cellsFrom->õ,codeAny_of_tree->Ā,wpAny_Expr_any->Ć,wpAny_Compare1->ć,truthy->Ĉ,recursionLimit->ĉ,newTuple->Ċ,isSubtype_stop->ċ,fitsIndex_both->Č,field->č,bindArgs->Ď,augStore->ď,argsOk->Đ,again->đ
open Decidable renaming decide->cn
open PySem.Heap renaming get?_push_of_some->cL,lt_size->d6,get?_push_size->ez,SameBut->mA,get?_update_self->tj,get?_update_other->ML,get?_update_ne->OA,size_push->WQ,ExtBut->ù
open List renaming length_map->c4,getElem?_eq_some_iff->dt,mem_cons->d3,getElem?_set_self->d5,map_cons->d8,size_toArray->ei,range->eH,getElem?_set_ne->hQ,mem_singleton->hV,mem_append->hY,length_append->ia,length_cons->i0,replicate->i3,all_eq_true->i6,nil_append->i8,map_append->i9,mem_map->js,map_map->ke,getElem?_map->ki,mem_cons_of_mem->kr,mem_append_right->lg,nodup_cons->mh,mem_cons_self->mu,mem_of_getElem?->my,getElem?_append_right->nc,length_filter_le->oT,append_nil->rr,lookup_cons->so,nodup_append->sx,getElem?_eq_getElem->sL,mem_range->tA,getElem?_append_left->uv,length_range->ve,length_take->vu,map_congr_left->wk,filterMap_cons->C0,mem_filter->D6,eraseIdx_eq_take_drop_succ->H8,isEmpty_iff->Jm,getElem_mem->Jq,filter_cons->Jw,mem_append_left->JO,getElem?_replicate->J8,map_nil->KD,length->K1,not_mem_nil->K2,getElem?_drop->Lh,ext_getElem->L4,take_of_length_le->MS,filter_eq_nil_iff->MW,find?_cons->M',length_singleton->NI,getD->Ov,mem_filterMap->Pe,filter_append->Pk,filter_cons_of_pos->Pz,filter_cons_of_neg->PB,length_replicate->P5,of_mem_zip->Qn,getElem_of_mem->QC,filter_eq_self->QD,zip_cons_cons->Rm,perm_ext_iff_of_nodup->Rn,pairwise_cons->Rq,reverse_cons->RT,length_eq_zero_iff->R3,length_drop->R7,getElem?_cons_succ->R8,eraseIdx_cons_succ->R9,any_eq_true->R_,foldl_cons->Sx,filter_nil->SA,mem_iff_getElem?->SN,getElem?_eq_none->SQ,nodup_nil->S4,getElem?_zipIdx->S5,length_reverse->Uc,map_take->Uh,map_drop->Ui,any_cons->Ul,map_singleton->UK,findIdx?_eq_some_iff_getElem->UP,flatten_cons->U1,all_map->U5,eraseIdxIfInBounds_toArray->U',getElem_map->Vp,length_nil->VI,forIn_cons->VM,drop_left'->VN,dropLast_concat_getLast->VO,map->WT,length_eraseIdx_of_lt->WZ,getD_eq_getElem?_getD->W8,findIdx?_eq_none_iff->Xl,drop_eq_getElem_cons->Xp,mem_of_mem_eraseIdx->Xu,length_erase_of_mem->XG,getElem?_take_of_lt->XH,findIdx?->X4,length_pos_of_mem->Yp,length_eq_one_iff->Yq,dropLast_eq_take->YJ,mem_of_mem_take->YO,mem_iff_getElem->YP,mem_erase_of_ne->YQ,map_id->YR,length_eraseIdx->YS,mem_map_of_mem->Y5,length_pos_iff->Y6,flatten_append->Y_,filter_sublist->Y',take_sublist->ZQ,filter_congr->ZR,ext_getElem?->ZS,append_assoc->ZT,mem_toArray->ZX,map_fst_zip->ZY,getElem_inj->ZZ,drop_length->Z0,cons_append->Z1,range_succ->Á,length_zip->Â,length_set->Ã,forIn_nil->É,all_cons->Ö,range'->ý
open Array renaming length_toList->fx,getElem?_toList->oe,getElem?_eq_getElem->Ox,size_map->Rc,getD->Ur,forIn_toList->Uu,size_append->UQ,toList->Ye,toList_extract->YK,toArray_toList->YL,append_assoc->Zl,toList_push->Zv
open Nat renaming le_refl->gj,ne_of_lt->hH,lt_of_lt_of_le->i2,zero_le->i7,lt_irrefl->uk,le_trans->wh,ne_of_gt->KX,le_succ->MO,lt_succ_self->Oy,zero_add->PV,le_of_lt->PX,lt_succ_of_lt->RX,lt_trans->U9,mod_lt->Xi,add_sub_cancel_left->Yo,succ_pos->YB,le_of_eq->YC,lt_of_le_of_lt->ZP,not_lt_of_lt->À,add_zero->ü
open PySem.PyData renaming keyHash->hW
open PySem.Value renaming ref->ko,none->mN,type->ro,str->tr,bool->N4,builtin->RQ,isStrOf->T_,isStrOf_shape->YM,int->ZE,isInt->å
open Sum renaming inr->mx,inl->U6
open PySem.Obj renaming mapSeq->nC,data_mapFields->M7,putSet->Pq,isFreed_of_fields->S0,cls_mapFields->U7,mapFields->æ
open Ne renaming symm->ri
open PySem.Builtin.List renaming listExtendWith->r6,listTooLong->Lf,listSameRef->NU,listLengthHint->Ud,listFitsIndex->UA,listItems->Vc,listUpdate->Ă
open PySem.Str renaming empty->td,ofString->Q2,length->ĕ
open PySem.SetTable.layClean renaming free->u3
open Option.some renaming inj->va,injEq->S3
open Int renaming eq_ofNat_of_zero_le->vr,toNat_natCast->PY,emod_nonneg->QL,emod_lt_of_pos->Rw,le_trans->ÿ
open PySem.Heap.SameBut renaming update->wz,refl->Je
open PyProof.Rows renaming seqObj->w6,size_push'->Mt,callWith_type1->Mu,callWith_builtin1->Pd,StrsAre->Qi,AllBare->Sn,envOfC->TH,subscriptTail->Vd,listUpdate_at->Vn,subscriptTail_builtinR->ZL,listItems_at->ZM,IntsAre->ZO,seqEpoch_at->Z',sortedHeap->Ô,Subscript_->Õ,slot_str_getitem->û,get?_update_seq->ă,entry_list_sort->Ą,call_isinstance_yes->ą,sortedHeap_old->ė,slot_list_sort->Ę,isTrue_and_nil->ę,args_list_sort->Ě,IsTup->ě
open PySem.Builtin.Frozenset renaming isAnySet->JK,difference->Pc,sizeOf->P1,differenceUpdate->RS,unchanged->SD,copyOf->Tx,baseOf->Tz,addrOf->TB,slot1->Ua,updateFrom->Z8,slot0->Z9,newClass->Z_
open PySem.Builtin.SmallTypes renaming nextOf->J1
open PySem.Calls renaming callWith_builtin->Kg,spliced_cons->K5,evalArgs_plain->Lz,spliced_nil->NH,Name_function_global->Wo,call_function_entry->WR
open PySem.SetTable renaming sizeAbove->Kr,below->LH,grown->NB,bits->Oo,eraseAt->PJ,turns->Qk,layClean->Q5,fits->Rf,laid->SV,runEnd->UU,relaid->U0,fill->VG,orStandIn->Yn,fresh->Zr,leap->ZF,drop->ZG
open PySem.NameKind renaming free->Mx
open False renaming elim->My
open PyProof.Rows.F renaming plain_set_update_loop->M9,entry_set_update_loop->RU
open List.Perm renaming refl->Ni,swap->Ze,cons->Zk
open PySem.Around renaming under_plainId->NZ
open PySem.W renaming kas_sort->N2,looks_findIn->ZD,kas_ask->â,Looks->ä,nsIn->ø,subIn->Ē,findIn->ē
open PySem.AutoSeq1 renaming wpAny_loadPart'->Ot,sub_tuple_tuple->VH,sub_tuple_list->Wv,sub_list_tuple->Ww,sub_list_list->WS,idx_int->YN
open ForInStep renaming yield->Ow
open List.cons renaming injEq->P6
open LT renaming lt->Qj
open PySem.Shared renaming TypeIs->RF
open PySem.SeqAt renaming EqAt->R',ne_of_list_tuple->Yd,RcAt->Y4,RcNeAt->Ñ
open ToString renaming toString->SU
open PySem.Txt renaming join->Tu
open PySem.F renaming typeOf_object_class->Tv,slot_gs_get->YA,excBase_ValueError->ZI,args_list_extend_2->ZJ,entry_list_extend->ZV,slot_list_extend->Z7,attr_ValueError->Å,entry_list_pop->Ó,slot_list_pop->ê
open PySem.Code renaming quiet_builtin->Uw
open Sum.inr renaming inj->UR
open Classical renaming byContradiction->Vq
open PySem.Data renaming fields->VF,cell->ZW
open PySem.pickOrder renaming go->V6
open PySem.SetTable.below renaming go->Wb
open Prod.mk renaming injEq->WG
open True renaming intro->WH
open PySem.SeqAt.EqAt renaming bool_bool->WO
open List.Nodup renaming sublist->X5
open PyProof.Rows.IsTup renaming new->ZN
open PySem.ItemsOf renaming nil->Ä
open PyProof.Rows.LSm renaming range_all->Æ,kept_iter->Ç
open Prod renaming fst->È
open PySem.W.WShape renaming has->ã
open PySem.Moved renaming trans->ç
open PySem.Heap.IsSliceOf renaming new->é
open LE renaming le->ì
open ForIn renaming forIn->í
open PySem.Walks renaming list->ö
open PySem.Builtin.Range renaming rangeSize->ú
open List.Pairwise renaming nil->þ
open PySem.W.WData renaming int->ā
open PySem.W.Looks renaming ld->Ĕ
open PySem.Heap.DictOf renaming new->Ė
abbrev Ĝ:=@decide_eq_true_eq
abbrev ĝ:=@if_pos
abbrev Ğ:=@if_neg
abbrev ğ:=@decide_eq_false
abbrev Ġ:=@decide_eq_true
abbrev ġ:=@of_decide_eq_true
abbrev Ģ:=@congrArg
abbrev ģ:=@beq_eq_false_iff_ne
local macro_rules|`(def $a:declId $b* : $t :=$v)=>`(theorem $a:declId $b* : $t :=$v)
local macro_rules|`(abbrev $a:declId $b:optDeclSig $c:declVal)=>`(noncomputable def $a:declId $b:optDeclSig $c:declVal)
local macro_rules|`(tactic|show $t)=>`(tactic|refine $t)
local macro_rules|`(tactic|have⟨$a,*⟩:=$t)=>do let p<-a.getElems.mapM fun x=>`(Lean.Parser.Tactic.rcasesPatLo|$(⟨x⟩):ident);`(tactic|obtain⟨$p,*⟩:=$t)
local macro_rules|`(⋯)=>`(by lia)
local macro_rules|`(∅)=>`(by(first|exact trivial|exact⟨⟨_,rfl,rfl⟩,trivial⟩|exact⟨⟨_,rfl,rfl⟩,⟨_,rfl,rfl⟩,trivial⟩))
namespace L2
open PySem PySem.Spec PyProof.Rows
@[reducible]def Key:=Sum Int Str
abbrev ku:Key->df->Bool
 |.inl k,v=>å k v
 |.inr x,v=>T_ x v
abbrev Hz(w:DD):Key->Int
 |.inl k=>hashInt k
 |.inr x=>hashStr w x
theorem bB:∀{k:Key}{v:df},ku k v=bD->(∃i t,k=U6 i/\v=ZE i t)\/(∃x t,k=mx x/\v=tr x t)
 |.inl i,v,h=>by
  have⟨t,e⟩:=Value.isInt_shape (k:=i) (v:=v) h;show .inl ⟨i,t,rfl,e⟩
 |.inr x,v,h=>by
  have⟨t,e⟩:=YM (x:=x) (v:=v) h;show .inr ⟨x,t,rfl,e⟩
def uR(i:Int)(t:Tok):ku (.inl i) (.int i t)=bD:=by simp[ku,å]
def uS(x:Str)(t:Tok):ku (.inr x) (.str x t)=bD:=by simp[ku,T_]
def CQ(a b:Int):cn ((U6 a:Key)=U6 b)=(a==b):=by
 by_cases e:a=b
 .subst e;simp
 .have h:¬(U6 a:Key)=U6 b:=λq=>e (Sum.inl.inj q);rw[ğ h];show(ģ.mpr e).symm
def CS(a b:Str):cn ((mx a:Key)=mx b)=cn (a=b):=by
 by_cases e:a=b
 .subst e;simp
 .have h:¬(mx a:Key)=mx b:=λq=>e (UR q);rw[ğ h,ğ e]
def CT(a:Int)(b:Str):cn ((U6 a:Key)=mx b)=cc:=ğ (λq=>nomatch q)
def CU(a:Str)(b:Int):cn ((mx a:Key)=U6 b)=cc:=ğ (λq=>nomatch q)
abbrev bh(prog:u7)(w:DD):PySem.KeyKind prog w Key where
 is:=ku
 hash:=Hz w
 inj:=λv a b g f=>by
  rcases bB g with⟨i,t,rfl,rfl⟩|⟨x,t,rfl,rfl⟩
  .rcases bB f with⟨j,u,rfl,e⟩|⟨y,u,rfl,e⟩
   .injection e with c _;rw[c]
   .show nomatch e
  .rcases bB f with⟨j,u,rfl,e⟩|⟨y,u,rfl,e⟩
   .show nomatch e
   .injection e with c _;rw[c]
 byValue:=λk v h=>by
  rcases bB h with⟨i,t,rfl,rfl⟩|⟨x,t,rfl,rfl⟩<;>rfl
 pyHash:=λd h=>by
  rcases bB d with⟨i,t,rfl,rfl⟩|⟨x,t,rfl,rfl⟩
  .show wpAny_pyHash_int h
  .show wpAny_pyHash_str h
 eqBool:=λl d h=>by
  rcases bB l with⟨i,t,rfl,rfl⟩|⟨x,t,rfl,rfl⟩
  .rcases bB d with⟨j,u,rfl,rfl⟩|⟨y,u,rfl,rfl⟩
   .rw[CQ]at h;show ñ h
   .rw[CT]at h;show SeqAt.EqAt.int_str i t y u _ _ _ _ h
  .rcases bB d with⟨j,u,rfl,rfl⟩|⟨y,u,rfl,rfl⟩
   .rw[CU]at h;show SeqAt.EqAt.str_int x t j u _ _ _ _ h
   .rw[CS]at h;show ð h
 «strs»:=λk x t v h=>by
  rcases bB h with⟨i,u,rfl,e⟩|⟨y,u,rfl,e⟩
  .show nomatch e
  .injection e with c _
   subst c;cases v<;>rfl
def pB(prog:u7)(w:DD)(i:Int)(t:Tok):(bh prog w).is (.inl i) (.int i t)=bD:=uR i t
def pC(prog:u7)(w:DD)(x:Str)(t:Tok):(bh prog w).is (.inr x) (.str x t)=bD:=uS x t
inductive V where
 |ID|bl (b:Bool)|int (i:Int)|str (x:Str)|Qr (b:Array UInt8)|Qs (b:UInt64)|ref (a:d7)|ty (n:String)
 deriving DecidableEq
def RelV:V->df->Prop
 |.ID,u=>u=mN
 |.bl b,u=>u=N4 b
 |.int i,u=>∃t,u=ZE i t
 |.str x,u=>∃t,u=tr x t
 |.Qr b,u=>∃t,u=Value.bytes b t
 |.Qs b,u=>∃t,u=Value.float b t
 |.ref a,u=>u=ko a
 |.ty n,u=>u=ro n
@[reducible]def Vals:List V->List df->Prop:=Paired RelV
def Vals.length(r:Vals xs us):xs.length=us.length:=Paired.length r
theorem Vals.get:∀{xs:List V}{us:List df}{i:Nat}{x:V},Vals xs us->xs[i]?=a5 x->∃u,us[i]?=a5 u/\RelV x u
 |_,_,_,_,.nil,e=>by simp at e
 |_,_,0,_,.cons r _,e=>by simp at e;subst e;show⟨_,rfl,r⟩
 |_,_,i+1,x,.cons _ t,e=>by
  have⟨u,a,b⟩:=Vals.get (i:=i) (x:=x) t (by simpa using e);show⟨u,by simpa using a,b⟩
theorem Vals.set(r:RelV x u):∀{xs:List V}{us:List df} (i:Nat),Vals xs us->Vals (xs.set i x) (us.set i u)
 |_,_,_,.nil=>.nil
 |_,_,0,.cons _ t=>.cons r t
 |_,_,i+1,.cons q t=>.cons q (Vals.set r i t)
theorem Vals.append:∀{xs a:List V}{us ws:List df},Vals xs us->Vals a ws->Vals (xs++a) (us++ws)
 |_,_,_,_,.nil,s=>s
 |_,_,_,_,.cons r t,s=>.cons r (Vals.append t s)
theorem Vals.take:∀{xs:List V}{us:List df} (n:Nat),Vals xs us->Vals (xs.take n) (us.take n)
 |_,_,0,_=>.nil
 |_,_,_+1,.nil=>.nil
 |_,_,n+1,.cons r t=>.cons r (Vals.take n t)
theorem Vals.drop:∀{xs:List V}{us:List df} (n:Nat),Vals xs us->Vals (xs.drop n) (us.drop n)
 |_,_,0,r=>r
 |_,_,_+1,.nil=>.nil
 |_,_,n+1,.cons _ t=>Vals.drop n t
def jR:Option V->Option df->Prop
 |some v,a5 u=>RelV v u
 |none,b8=>True
 |_,_=>False
abbrev KV{κ:Type}:List (κ×V)->List (κ×df)->Prop:=Paired λ(p:κ×V) (q:κ×df)=>p.1=q.1/\RelV p.2 q.2
abbrev kV:Key->V
 |.inl i=>.int i
 |.inr x=>.str x
inductive HO where
 |lst (xs:List V)
 |tup (xs:List V)
 |dK (kvs:List (Key×V))|dT (kvs:List (List Key×V))
 |set (S:Int->Bool) (n:Nat)
 |ins (C dx:d7) (fs:List (Str×V))
 |own (x:d7)
 |xd (fs:List (Str×V))
 |met (f x:d7)
 |Qt (lo hi:Int)
 |Ks (o:Obj) (u:HO)
 |M6 (ps:Array df)
 |ext (φ:Jl->Prop)
@[reducible]def Hp:=d7->Option HO
abbrev upd(H:Hp)(a:d7)(o:HO):Hp:=λb=>if b=a then a5 o else H b
def ay:upd H a o a=a5 o:=by unfold upd;rw[ĝ rfl]
def au(h:b≠a):upd H a o b=H b:=by unfold upd;rw[Ğ h]
def Fq{H:Hp}(h:H a=a5 o)(h':H b=a5 u)(d:o≠u):a≠b:=by
 intro e;subst e;rw[h]at h';show d (va h')
def bz{H:Hp}(h:H a=a5 o)(h':H b=b8):a≠b:=by
 intro e;subst e;rw[h]at h';cases h'
section
variable(P:u7)(w:DD)
def bS(H:Hp)(h:Jl)(a:d7):HO->Prop
 |.lst xs=>xs.length<=cK/\∃(c:List df) (n:Nat),Vals xs c/\h.get? a=a5 {cls:=.type "list",data:=.seq c.toArray n}
 |.tup xs=>xs.length<=cK/\∃c:List df,Vals xs c/\ě h a c.toArray
 |.dK kvs=>kvs.length<=cK/\(a==NJ)=cc/\∃vs,KV kvs vs/\h.DictOf (bh P w) a vs
 |.dT kvs=>kvs.length<=cK/\(a==NJ)=cc/\∃xs:List (List Key×d7×df),
   Paired (λ(p:List Key×V) (q:List Key×d7×df)=>p.1=q.1/\H q.2.1=a5 (.tup (p.1.map kV))/\RelV p.2 q.2.2) kvs xs /\
   ∃o es ep,h.get? a=a5 o/\o.ExactDict/\o.data=.dict es ep/\es.toList=xs.map (entryOfKey (UT (bh P w)))/\(xs.map (·.1)).Nodup
 |.set S n=>h.SetOf (intKind P w) a S n
 |.ins C e d=>H e=a5 (.own a)/\d.length<=1000/\e≠a/\h.get? a=a5 (PySem.W.instObj C e) /\
   ∃b,h.Ns1 e b/\(∀f,jR (d.lookup f) (b f))/\PySem.Within b (d.map (·.1))
 |.own _=>∃o,h.get? a=a5 o
 |.xd d=>∃b,h.Ns1 a b/\∀f,jR (d.lookup f) (b f)
 |.Qt lo j=>∃t u v,h.get? a=a5 {cls:=.type "range",data:=.fields #[.int lo t,.int j u,.int 1 v]}
 |.Ks o u=>h.get? a=a5 o/\bS H h a u
 |.M6 ps=>h.get? a=a5 {cls:=.none,data:=.fields ps}
 |.met f x=>h.get? a=a5 (PySem.W.methodObj (.ref f) (.ref x))
 |.ext φ=>φ h/\(∃o,h.get? a=a5 o)/\∀g i:Jl,φ g->(∀o,g.get? a=a5 o->i.get? a=a5 o)->φ i
abbrev JI(H:Hp)(h:Jl):Prop:=∀a o,H a=a5 o->bS P w H h a o
end
section
def bS.lt(x:bS P w H h a o):a<h.objs.size:=by
 cases o with
 |lst xs=>obtain⟨_,_,_,_,e⟩:=x;show d6 e
 |tup xs=>obtain⟨_,_,_,p⟩:=x;show p.lt
 |set S n=>obtain⟨o,_,_,_,e,_⟩:=x;show d6 e
 |ins C c b=>obtain⟨_,_,_,e,_⟩:=x;show d6 e
 |own y=>obtain⟨_,e⟩:=x;show d6 e
 |xd b=>obtain⟨_,⟨_,_,_,e,_⟩,_⟩:=x;show d6 e
 |Qt lo d=>obtain⟨_,_,_,e⟩:=x;show d6 e
 |Ks g u=>obtain⟨e,_⟩:=x;show d6 e
 |M6 ps=>show d6 (show h.get? a=a5 _ from x)
 |met f y=>show d6 (show h.get? a=a5 _ from x)
 |ext φ=>obtain⟨_,⟨_,e⟩,_⟩:=x;show d6 e
 |_=>obtain⟨_,_,_,_,o,_,_,e,_⟩:=x;show d6 e
theorem Paired.CV:∀{c:List α}{d:List β},Paired F c d->(∀a b,F a b->G a b)->Paired G c d
 |_,_,.nil,_=>.nil
 |_,_,.cons r t,f=>.cons (f _ _ r) (Paired.CV t f)
def bS.fP(x:bS P w H h a o)(k:∀b u,(b=a\/H b=a5 (.own a))->h.get? b=a5 u->h'.get? b=a5 u)
  (ho:∀b,H b=a5 (.own a)->H' b=a5 (.own a)) (m:∀b xs,H b=a5 (.tup xs)->H' b=a5 (.tup xs)):bS P w H' h' a o:=by
 induction o with
 |lst xs=>have⟨z,i,n,r,e⟩:=x;show⟨z,i,n,r,k _ _ (.inl rfl) e⟩
 |tup xs=>have⟨z,i,r,g,e,c⟩:=x;show⟨z,i,r,g,k _ _ (.inl rfl) e,c⟩
 |dK kvs=>have⟨z,y,vs,r,g,es,ep,e,c⟩:=x;show⟨z,y,vs,r,g,es,ep,k _ _ (.inl rfl) e,c⟩
 |dT kvs =>
  have⟨z,y,xs,r,g,es,ep,e,c⟩:=x;show⟨z,y,xs,Paired.CV r λp q z=>⟨z.1,m _ _ z.2.1,z.2.2⟩,g,es,ep,k _ _ (.inl rfl) e,c⟩
 |set S n=>have⟨g,es,ep,t,e,c⟩:=x;show⟨g,es,ep,t,k _ _ (.inl rfl) e,c⟩
 |ins C D s =>
  obtain⟨d,z,ne,e,j,⟨l,es,ep,A,c⟩,r⟩:=x;show⟨ho _ d,z,ne,k _ _ (.inl rfl) e,j,⟨l,es,ep,k _ _ (.inr d) A,c⟩,r⟩
 |own y=>have⟨g,e⟩:=x;show⟨g,k _ _ (.inl rfl) e⟩
 |xd s=>obtain⟨j,⟨l,es,ep,e,c⟩,r⟩:=x;show⟨j,⟨l,es,ep,k _ _ (.inl rfl) e,c⟩,r⟩
 |Qt lo G=>have⟨t,u,v,e⟩:=x;show⟨t,u,v,k _ _ (.inl rfl) e⟩
 |Ks g u B=>have⟨e,q⟩:=x;show⟨k _ _ (.inl rfl) e,B q⟩
 |M6 ps =>
  have e:h.get? a=a5 {cls:=.none,data:=.fields ps}:=x;change h'.get? a=a5 {cls:=.none,data:=.fields ps};show k a _ (.inl rfl) e
 |met f y =>
  have e:h.get? a=a5 (PySem.W.methodObj (.ref f) (.ref y)):=x;change h'.get? a=a5 (PySem.W.methodObj (.ref f) (.ref y));show k a _ (.inl rfl) e
 |ext φ=>obtain⟨p,⟨o,e⟩,st⟩:=x;show⟨st _ _ p λo q=>k _ _ (.inl rfl) q,⟨o,k _ _ (.inl rfl) e⟩,st⟩
def JI.lt(x:JI P w H h)(e:H a=a5 o):a<h.objs.size:=(x a o e).lt
def JI.fresh(x:JI P w H h)(e:h.objs.size<=a):H a=b8:=by
 cases q:H a with
 |none=>rfl
 |some u=>show absurd (i2 (x.lt q) e) (uk _)
def JI.kept(x:JI P w H h)(k:∀b u,h.get? b=a5 u->h'.get? b=a5 u):JI P w H h':=λa o e =>
 (x a o e).fP (λb u _ q=>k b u q) (λ_ q=>q) λ_ _ q=>q
def JI.laid(x:JI P w H h)(k:∀b u,h.get? b=a5 u->h'.get? b=a5 u)(g:h.objs.size<=a)(new:bS P w (upd H a o) h' a o):JI P w (upd H a o) h':=λb u e=>by
 have d:=x.fresh g;by_cases f:b=a
 .subst f;rw[ay]at e;cases e;show new
 .rw[au f]at e;show(x b u e).fP (λc v _ q=>k c v q) (λc q=>by rw[au (bz q d)];show q) λc xs q=>by rw[au (bz q d)];show q
end
abbrev Rd(H:Hp)(a:d7)(u:HO):Prop:=H a=a5 u\/∃o,H a=a5 (.Ks o u)
def Rd.ok(r:Rd H a u)(x:JI P w H h):bS P w H h a u:=by
 rcases r with r|⟨o,r⟩
 .show x a u r
 .obtain⟨_,q⟩:=x a _ r;show q
def O3:Option HO->Prop
 |some (.lst _)=>True
 |some (.dK _)=>True
 |some (.dT _)=>True
 |some (.set _ _)=>True
 |some (.ins _ _ _)=>True
 |some (.ext _)=>True
 |_=>False
section
def JI.write(m:JI P w H h)(a:O3 (H x))(g:e=x\/H e=a5 (.own x))(k:∀b u,b≠e->h.get? b=a5 u->h'.get? b=a5 u)(n:∃u,h'.get? e=a5 u)
  (new:bS P w (upd H x i) h' x i):JI P w (upd H x i) h':=λb u q=>by
 have j:∀c y,H c=a5 (.own y)->c≠x:=λc y r z=>by subst z;rw[r]at a;show a
 have o:∀c xs,H c=a5 (.tup xs)->c≠x:=λc xs r z=>by subst z;rw[r]at a;show a
 by_cases d:b=x
 .subst d;rw[ay]at q;cases q;show new
 .rw[au d]at q;by_cases f:b=e
  .have l:H b=a5 (.own x):=by
    rcases g with z|z
    .show absurd (f.trans z) d
    .rw[f];show z
   rw[q]at l;cases l;have⟨v,p⟩:=n;show⟨v,by rw[f];show p⟩
  .show(m b u q).fP (λc v hc r=>k c v ?_ r) (λc r=>by rw[au (j c b r)];show r) λc xs r=>by rw[au (o c xs r)];show r
   rcases hc with rfl|hc
   .show f
   .rintro rfl;rcases g with z|z
    .show j c b hc z
    .rw[hc]at z;cases z;show d rfl
end
structure Un(fs ex:List d7)(H H':Hp)(h h':Jl):Prop where
 keep:∀b o,h.get? b=a5 o->H b=b8->b∉fs->b∉ex->h'.get? b=a5 o
 slot:∀b o,h.get? b=a5 o->H b=b8->b∈fs->b∉ex->∃sl,h'.get? b=a5 {o with slots:=sl}
 free:∀b o,h.get? b=a5 o->H b=b8->b∉ex->H' b=b8
 there:∀b o,h.get? b=a5 o->b∉ex->∃o',h'.get? b=a5 o'
 fW:∀b xs,H b=a5 (.tup xs)->H' b=a5 (.tup xs)
 JF:∀b o u,H b=a5 (.Ks o u)->H' b=a5 (.Ks o u)
 JL:∀b ps,H b=a5 (.M6 ps)->∃more,H' b=a5 (.M6 (ps++more))
section
def Un.any(u:Un e ex H i h f)(q:h.get? b=a5 a)(n:H b=b8)(c:b∉ex):∃g,f.get? b=a5 {a with slots:=g}:=by
 by_cases d:b∈e
 .show u.slot b a q n d c
 .show⟨a.slots,u.keep b a q n d c⟩
def Un.kept(k:∀b u,h.get? b=a5 u->h'.get? b=a5 u):Un c ex H H h h' :=
 ⟨λb a q _ _ _=>k b a q,λb a q _ _ _=>⟨a.slots,k b a q⟩,λ_ _ _ n _=>n,λb a q _=>⟨a,k b a q⟩,λ_ _ q=>q,λ_ _ _ q=>q,λ_ ps q=>⟨#[],by rw[q];simp⟩⟩
def Un.refl:Un a ex H H h h:=Un.kept λ_ _ q=>q
def Un.laid(k:∀b u,h.get? b=a5 u->h'.get? b=a5 u)(d:h.objs.size<=a)(c:H a=b8):Un e ex H (upd H a o) h h' where
 keep:=λb u q _ _ _=>k b u q
 slot:=λb u q _ _ _=>⟨u.slots,k b u q⟩
 free:=λb u q n _=>by rw[au (hH (i2 (d6 q) d))];show n
 there:=λb u q _=>⟨u,k b u q⟩
 fW:=λb xs q=>by rw[au (bz q c)];show q
 JF:=λb u xs q=>by rw[au (bz q c)];show q
 JL:=λb ps q=>⟨#[],by rw[au (bz q c),q];simp⟩
def Un.write(a:O3 (H x))(i:e=x\/H e=a5 (.own x))(k:∀b u,b≠e->h.get? b=a5 u->h'.get? b=a5 u)(j:∃u,h'.get? e=a5 u):Un l ex H (upd H x o) h h':=by
 have d:∀b,H b=b8->b≠x:=λb n z=>by subst z;rw[n]at a;show a
 have f:∀b,H b=b8->b≠e:=λb n z=>by
  subst z;rcases i with r|r
  .show d b n r
  .rw[n]at r;cases r
 have c:∀b u,H b=a5 u->¬O3 (a5 u)->b≠x:=λb u q nm z=>by subst z;rw[q]at a;show nm a
 show⟨λb u q n _ _=>k b u (f b n) q,λb u q n _ _=>⟨u.slots,k b u (f b n) q⟩,λb u q n _=>by rw[au (d b n)];show n,λb u q _=>?_,
  λb xs q=>by rw[au (c b _ q λz=>z)];show q,λb u xs q=>by rw[au (c b _ q λz=>z)];show q,λb ps q=>⟨#[],by rw[au (c b _ q λz=>z),q];simp⟩⟩
 by_cases g:b=e
 .subst g;show j
 .show⟨u,k b u g q⟩
end
abbrev Qu(h:Jl)(H:Hp):List d7:=(eH h.objs.size).filter λa=>(H a).isSome
abbrev nU(h:Jl)(H:Hp):Jl:=PySem.W.hideAll h (Qu h H)
def uT(h:Jl)(H:Hp):(nU h H).objs.size=h.objs.size:=PySem.W.hideAll_size _ _
def wA(e:h.get? b=a5 o)(n:H b=b8):(nU h H).get? b=a5 o :=
 PySem.W.hideAll_get _ e λa=>by
  have q:(H b).isSome=bD:=(D6.mp a).2;rw[n]at q;simp at q
def Ab(e:(nU h H).get? b=a5 o):h.get? b=a5 o/\H b=b8:=by
 have a:h.get? b=a5 o:=PySem.W.of_hideAll (Qu h H) e;show⟨a,?_⟩;cases q:H b with
 |none=>rfl
 |some x =>
  have c:b∈Qu h H:=D6.mpr ⟨tA.mpr (d6 a),by simp[q]⟩;have z:(nU h H).get? b=b8:=PySem.W.hideAll_none (Qu h H) c;rw[z]at e;cases e
structure Mod(K:PySem.W.Frag)(mg:Str->Option df)(base:Jl):Prop where
 NC:K.In base
 glob:base.Ns i5 mg
 blt:∃mb,base.Ns Ï mb/\∀x:Str,x≠"__name__"->mb x=t4 x
 nolimit:base.NoLimit
structure Cx where
 prog:u7
 w:DD
 K:PySem.W.Frag
 mg:Str->Option df
 base:Jl
 A:M8
 N:List Str
 s₀:d4
 H₀:Hp
 env:Env
 outer:List Env
 stack:List Env
 ex:List d7
 fn:Str->Bool
 calm:Bool
 pn:List (d7×Obj)
 xe:df->d4->Prop
abbrev Jr(l:List Env):List d7:=l.filterMap (·.frame)
noncomputable abbrev Cx.fs(X:Cx):List d7:=Jr X.outer
abbrev Kt(a:LY)(x:Str):Prop:=a.names.lookup x=a5 .local\/a.names.lookup x=a5 .cell\/a.names.lookup x=a5 .free
abbrev Loc(a:LY)(x:Str):Prop:=a.names.lookup x=a5 .local\/a.names.lookup x=a5 .cell
abbrev Look(env:Env)(h:Jl)(m:Str->Option df)(x:Str)(u:df):Prop :=
 (env.kindOf x=a5 .local/\m x=a5 u)\/((env.kindOf x=a5 .cell\/env.kindOf x=a5 .free)/\∃c,env.cells.lookup x=a5 c/\h.IsCell c (a5 u))
structure Cx.Ok(X:Cx):Prop where
 mod:Mod X.K X.mg X.base
 kind:X.env.scope.kind=.function
 glob:X.env.globals=i5
 blt:X.env.builtins=Ï
 above:X.s₀.heap.objs.size<=X.env.locals
 inj:∀x y c,X.env.cells.lookup x=a5 c->X.env.cells.lookup y=a5 c->x=y
 has:∀x,(X.env.kindOf x=a5 .cell\/X.env.kindOf x=a5 .free)->∃c,X.env.cells.lookup x=a5 c
 OB:∀x c,X.fn x=bD->X.env.cells.lookup x=a5 c->X.s₀.heap.objs.size<=c
 hd:X.calm=bD->X.A.handled=b8
 frames:X.A.frames=a5 X.stack
 O5:X.stack=X.outer\/(X.stack=X.env::X.outer/\X.env.frame=a5 X.env.locals)
 Ro:∀b∈X.ex,b≠X.env.locals/\∀x c,X.env.cells.lookup x=a5 c->c≠b
 bs:∀b o,X.base.get? b=a5 o->X.s₀.heap.get? b=a5 o/\X.H₀ b=b8
 MM:X.base.objs.size<=X.s₀.heap.objs.size
 LD:∀b o,X.base.get? b=a5 o->b∉X.ex
 L6:∀b∈X.ex,b∉X.fs
 jS:X.s₀.heap.FunFrames X.base X.outer
 ND:∀b∈X.fs,X.H₀ b=b8
structure Inv(X:Cx)(pins:List (d7×Obj))(σ:List (Option V))(H:Hp)(s:d4):Prop where
 ok:X.Ok
 os:s.os=X.s₀.os
 bare:Sn s.gens
 base:Un X.fs X.ex X.H₀ H X.s₀.heap s.heap
 loc:∃m,s.heap.Ns X.env.locals m/\∀(i:Nat) (x:Str) (v:V),X.N[i]?=a5 x->σ[i]?=a5 (a5 v)->Kt X.env.scope x->∃u,RelV v u/\Look X.env s.heap m x u
 cell:∀x c,X.env.cells.lookup x=a5 c->∃v,s.heap.IsCell c v
 free:H X.env.locals=b8
 Ja:∀x c,X.env.cells.lookup x=a5 c->H c=b8
 pin:∀p∈X.pn++pins,s.heap.get? p.1=a5 p.2/\H p.1=b8/\p.1≠X.env.locals/\p.1∉X.fs/\∀v,p.2.data≠.cell v
 IB:JI X.prog X.w H s.heap
 len:σ.length=X.N.length
section
variable{X:Cx}{pins:List (d7×Obj)}{σ:List (Option V)}{H H':Hp}{s:d4}{h':Jl}
def Cx.Ok.HA(a:X.Ok)(e:X.base.get? b=a5 o):b∉X.fs:=λc=>by
 have:=(a.jS.mem c).1;rw[e]at this;cases this
def Inv.bs(I:Inv X pins σ H s):∀b o,X.base.get? b=a5 o->s.heap.get? b=a5 o/\H b=b8:=λb o e =>
 ⟨I.base.keep b o (I.ok.bs b o e).1 (I.ok.bs b o e).2 (I.ok.HA e) (I.ok.LD b o e),I.base.free b o (I.ok.bs b o e).1 (I.ok.bs b o e).2 (I.ok.LD b o e)⟩
def Inv.bk(I:Inv X pins σ H s):∀b o,X.base.get? b=a5 o->s.heap.get? b=a5 o:=λb o e=>(I.bs b o e).1
def Inv.mod(I:Inv X pins σ H s):Mod X.K X.mg X.base:=I.ok.mod
def Inv.LU(I:Inv X pins σ H s):X.K.In s.heap:=I.ok.mod.NC.keeps I.bk
def Inv.lt(I:Inv X pins σ H s):X.env.locals<s.heap.objs.size:=let ⟨_,a,_⟩:=I.loc;a.lt
def Inv.sz(I:Inv X pins σ H s):X.s₀.heap.objs.size<=s.heap.objs.size:=wh I.ok.above (PX I.lt)
def Inv.CW(I:Inv X pins σ H s)(h:s.heap.objs.size<=a):a∉X.fs:=λb=>by
 obtain⟨_,o,ho,_⟩:=I.ok.jS.mem b;show absurd (i2 (d6 ho) (wh I.sz h)) (uk _)
def Inv.L7(I:Inv X pins σ H s):∀x c,X.env.cells.lookup x=a5 c->c≠X.env.locals:=λx c e z=>by
 have⟨v,o,ho,a⟩:=I.cell x c e;obtain⟨m,⟨f,es,ep,b,d,_⟩,_⟩:=I.loc;rw[z,b]at ho;cases ho;rw[d]at a;cases a
def Inv.jS(I:Inv X pins σ H s):s.heap.FunFrames X.base X.outer:=by
 have all:∀(l:List Env),(∀b∈Jr l,b∈X.fs)->X.s₀.heap.FunFrames X.base l->s.heap.FunFrames X.base l:=by
  intro l;induction l with
  |nil=>intro _ _;trivial
  |cons env r f =>
   intro hs hl;obtain⟨hk,⟨L,o,a,g,ho,h⟩,i⟩:=hl;have c:L∈X.fs:=hs L (by unfold Jr;rw[C0,a];show mu);have⟨j,e⟩:=I.base.slot L o ho (I.ok.ND L c) c λz=>I.ok.L6 L z c;show⟨hk,⟨L,_,a,g,e,h⟩,f (λb d=>hs b (by unfold Jr;rw[C0,a];show kr _ d)) i⟩
 show all X.outer (λ_ d=>d) I.ok.jS
def Inv.stack(I:Inv X pins σ H s):s.heap.FunFrames X.base X.stack:=by
 rcases I.ok.O5 with e|⟨e,a⟩
 .rw[e];show I.jS
 .rw[e];obtain⟨m,b,_⟩:=I.loc;show .cons (by rw[I.ok.kind];decide) a b ?_ I.jS;show Heap.get?_none_of_le (wh I.ok.MM I.ok.above)
def Inv.kA(I:Inv X pins σ H s):∀b∈Jr X.stack,b∈X.env.locals::X.fs:=λb a=>by
 rcases I.ok.O5 with e|⟨e,c⟩
 .rw[e]at a;show kr _ a
 .rw[e]at a;unfold Jr at a;rw[C0,c]at a;show a
def Inv.j5(I:Inv X pins σ H s):∀b∈Jr X.stack,H b=b8:=λb hb=>by
 rcases d3.mp (I.kA b hb) with e|hb
 .rw[e];show I.free
 .obtain⟨_,o,ho,_⟩:=I.ok.jS.mem hb;show I.base.free b o ho (I.ok.ND b hb) λz=>I.ok.L6 b z hb
def Inv.step{ch:List d7}(I:Inv X pins σ H s)
  (j:∀b∈ch,(b∈X.ex\/X.s₀.heap.objs.size<=b)/\b≠X.env.locals/\(∀x c,X.env.cells.lookup x=a5 c->c≠b)/\∀p∈X.pn++pins,p.1≠b)
  (keep:∀b o,b≠X.env.locals->b∉X.fs->b∉ch->s.heap.get? b=a5 o->H b=b8->h'.get? b=a5 o)
  (slot:∀b o,b≠X.env.locals->b∈X.fs->b∉ch->s.heap.get? b=a5 o->H b=b8->∃C,h'.get? b=a5 {o with slots:=C}) (free:∀b o,b∉ch->s.heap.get? b=a5 o->H b=b8->H' b=b8)
  (there:∀b o,b∉ch->s.heap.get? b=a5 o->∃t,h'.get? b=a5 t)
  (fW:∀b xs,H b=a5 (.tup xs)->H' b=a5 (.tup xs)) (JF:∀b o u,H b=a5 (.Ks o u)->H' b=a5 (.Ks o u)) (JL:∀b ps,H b=a5 (.M6 ps)->∃more,H' b=a5 (.M6 (ps++more)))
  (ns:∀m,s.heap.Ns X.env.locals m->h'.Ns X.env.locals m) (O:JI X.prog X.w H' h') (Q:Sn g') :
  Inv X pins σ H' {s with heap:=h',gens:=g',drawn:=d',toks:=t' }:=by
 have G:∀b o,X.s₀.heap.get? b=a5 o->b≠X.env.locals:=λb o e=>hH (i2 (d6 e) I.ok.above);have B:∀b o,X.s₀.heap.get? b=a5 o->b∉X.ex->b∉ch:=λb o e a h=>by
  rcases(j b h).1 with z|z
  .show a z
  .show absurd (i2 (d6 e) z) (uk _)
 have f:∀x c,X.env.cells.lookup x=a5 c->∀v,s.heap.IsCell c v->h'.IsCell c v:=λx c e v T=>by
  have⟨o,ho,D⟩:=T;have y:c∉ch:=λz=>(j c z).2.2.1 x c e rfl;by_cases J:c∈X.fs
  .have⟨C,q⟩:=slot c o (I.L7 x c e) J y ho (I.Ja x c e);show⟨_,q,D⟩
  .show⟨o,keep c o (I.L7 x c e) J y ho (I.Ja x c e),D⟩
 show⟨I.ok,I.os,Q,⟨λb o e n h a=>?_,λb o e n h a=>?_,λb o e n a=>?_,λb o e a=>?_,λb xs e=>fW b xs (I.base.fW b xs e),λb o xs e=>JF b o xs (I.base.JF b o xs e),λb ps e=>?_⟩,?_,λx c e=>?_,?_,λx c e=>?_,λp L=>?_,O,I.len⟩
 .show keep b o (G b o e) h (B b o e a) (I.base.keep b o e n h a) (I.base.free b o e n a)
 .have⟨C,g⟩:=I.base.slot b o e n h a;have⟨Y,A⟩:=slot b _ (G b o e) h (B b o e a) g (I.base.free b o e n a);show⟨Y,A⟩
 .have⟨t,g⟩:=I.base.there b o e a;show free b t (B b o e a) g (I.base.free b o e n a)
 .have⟨t,g⟩:=I.base.there b o e a;show there b t (B b o e a) g
 .have⟨m1,g⟩:=I.base.JL b ps e;have⟨m2,A⟩:=JL b _ g;show⟨m1++m2,by rw[A,Zl]⟩
 .have⟨m,hn,hl⟩:=I.loc;show⟨m,ns m hn,λi x v g A e3=>?_⟩;have⟨u,r,l⟩:=hl i x v g A e3;show⟨u,r,?_⟩;rcases l with l|⟨k,c,e,z⟩
  .show .inl l
  .show .inr ⟨k,c,e,f x c e _ z⟩
 .have⟨v,z⟩:=I.cell x c e;show⟨v,f x c e v z⟩
 .obtain⟨m,⟨o,_,_,ho,_⟩,_⟩:=I.loc;show free _ o (λz=>(j _ z).2.1 rfl) ho I.free
 .have⟨v,o,ho,D⟩:=I.cell x c e;show free c o (λz=>(j c z).2.2.1 x c e rfl) ho (I.Ja x c e)
 .have⟨e,n,ne,N,d⟩:=I.pin p L;have y:p.1∉ch:=λz=>(j p.1 z).2.2.2 p L rfl;show⟨keep p.1 p.2 ne N y e n,free p.1 p.2 y e n,ne,N,d⟩
def Inv.un(I:Inv X pins σ H s)(u:Un X.fs [] H H' s.heap h')(d:JI X.prog X.w H' h'):Inv X pins σ H' {s with heap:=h',toks:=t' }:=by
 obtain⟨m,⟨o,es,ep,ho,r⟩,_⟩:=id I.loc;have⟨k,f⟩:=u.any ho I.free (by simp);show I.step (g':=s.gens) (d':=s.drawn) (ch:=[]) (λ_ z=>nomatch z) (λb o _ a _ e n=>u.keep b o e n a (by simp)) (λb o _ a _ e n=>u.slot b o e n a (by simp)) (λb o _ e n=>u.free b o e n (by simp)) (λb o _ e=>u.there b o e (by simp)) u.fW u.JF u.JL (λl g=>by
  have⟨p,h,i,c,j⟩:=g;rw[ho]at c;cases c;show⟨_,h,i,f,j⟩) d I.bare
def Inv.call(I:Inv X pins σ H s)(u:Un (Jr X.stack) ch H H' s.heap h')(h:JI X.prog X.w H' h')(i:Sn g')
  (f:∀b∈ch,(b∈X.ex\/X.s₀.heap.objs.size<=b)/\b≠X.env.locals/\(∀x c,X.env.cells.lookup x=a5 c->c≠b)/\∀p∈X.pn++pins,p.1≠b) :
  Inv X pins σ H' {s with heap:=h',gens:=g',drawn:=d',toks:=t' }:=by
 obtain⟨m,⟨o,es,ep,ho,r⟩,_⟩:=id I.loc;have⟨v,d⟩:=u.any ho I.free λz=>(f _ z).2.1 rfl;show I.step (ch:=ch) f (λb o d j a e n=>u.keep b o e n (λz=>(d3.mp (I.kA b z)).elim d j) a) (λb o _ _ a e n=>u.any e n a) (λb o a e n=>u.free b o e n a) (λb o a e=>u.there b o e a) u.fW u.JF u.JL (λy k=>by
  have⟨A,l,q,g,t⟩:=k;rw[ho]at g;cases g;show⟨_,l,q,d,t⟩) h i
def Inv.turned(I:Inv X pins σ H s)(k:∀b o,b≠it->s.heap.get? b=a5 o->h'.get? b=a5 o)(g:H it=b8)(d:it≠X.env.locals)
  (h:it∈X.ex\/X.s₀.heap.objs.size<=it) (i:∀x c,X.env.cells.lookup x=a5 c->c≠it) (j:∀p∈X.pn++pins,p.1≠it):Inv X pins σ H {s with heap:=h',toks:=t' }:=by
 have f:∀b u,H b=a5 u->b≠it:=λb u e z=>by rw[z,g]at e;cases e
 show I.step (g':=s.gens) (d':=s.drawn) (ch:=[it]) (λb l=>?_) (λb o _ _ a e _=>k b o (λz=>a (by simp[z])) e) (λb o _ _ a e _=>⟨o.slots,k b o (λz=>a (by simp[z])) e⟩) (λ_ _ _ _ n=>n)
  (λb o a e=>⟨o,k b o (λz=>a (by simp[z])) e⟩) (λ_ _ e=>e) (λ_ _ _ e=>e) (λb ps e=>⟨#[],by rw[e];simp⟩) (λm t=>?_) (λb u e=>?_) I.bare
 .have e:b=it:=by simpa using l
  subst e;show⟨h,d,i,j⟩
 .have⟨o,es,ep,ho,r⟩:=t;show⟨o,es,ep,k _ o (ri d) ho,r⟩
 .show(I.IB b u e).fP (λc v a q=>k c v ?_ q) (λ_ q=>q) λ_ _ q=>q;rcases a with z|z
  .rw[z];show f b u e
  .show f c _ z
def Inv.tok(I:Inv X pins σ H s)(t:Nat):Inv X pins σ H {s with toks:=t}:=I.un (h':=s.heap) (t':=t) Un.refl I.IB
def Inv.kept(I:Inv X pins σ H s)(k:∀b u,s.heap.get? b=a5 u->h'.get? b=a5 u):Inv X pins σ H {s with heap:=h',toks:=t' }:=I.un (Un.kept k) (I.IB.kept k)
def Inv.laid(I:Inv X pins σ H s)(k:∀b u,s.heap.get? b=a5 u->h'.get? b=a5 u)(c:s.heap.objs.size<=a)(new:bS X.prog X.w (upd H a o) h' a o):
  Inv X pins σ (upd H a o) {s with heap:=h',toks:=t' }:=I.un (Un.laid k c (I.IB.fresh c)) (I.IB.laid k c new)
def Inv.write(I:Inv X pins σ H s)(a:O3 (H x))(c:e=x\/H e=a5 (.own x))(k:∀b u,b≠e->s.heap.get? b=a5 u->h'.get? b=a5 u)(d:∃u,h'.get? e=a5 u)
  (new:bS X.prog X.w (upd H x o) h' x o):Inv X pins σ (upd H x o) {s with heap:=h',toks:=t' }:=I.un (Un.write a c k d) (I.IB.write a c k d new)
def Inv.weak(I:Inv X pins σ H s)(hl:a.length=σ.length)(w:∀(i:Nat) v,a[i]?=a5 (a5 v)->σ[i]?=a5 (a5 v)):Inv X pins a H s :=
 ⟨I.ok,I.os,I.bare,I.base,let ⟨m,b,c⟩:=I.loc;⟨m,b,λi x v d e f=>c i x v d (w i v e) f⟩,I.cell,I.free,I.Ja,I.pin,I.IB,hl.trans I.len⟩
def Inv.eF(I:Inv X pins σ H s)(h:∀p∈a,s.heap.get? p.1=a5 p.2/\H p.1=b8/\p.1≠X.env.locals/\p.1∉X.fs/\∀v,p.2.data≠.cell v):Inv X a σ H s :=
 ⟨I.ok,I.os,I.bare,I.base,I.loc,I.cell,I.free,I.Ja,λp b=>(hY.mp b).elim (λz=>I.pin p (JO _ z)) (h p),I.IB,I.len⟩
def ij{N:List Str}(c:N.Nodup){i j:Nat}(a:N[i]?=a5 x)(b:N[j]?=a5 x):i=j:=by
 have⟨f,d⟩:=dt.mp a;have⟨g,e⟩:=dt.mp b;show(ZZ c).mp (d.trans e.symm)
def mB(I:Inv X pins σ H s)(hN:X.N.Nodup)(D:X.N[i]?=a5 x)(l:Loc X.env.scope x)(r:RelV v u)
  (h:∀s',Inv X pins (σ.set i (a5 v)) H s'->(∃a,mA a s.heap s'.heap/\(a=X.env.locals\/X.env.cells.lookup x=a5 a))->Q () s') (hf:X.fn x=bD\/X.env.scope.names.lookup x=a5 .local:=by first|show .inl rfl|show .inr rfl|assumption):dV M A (storeName X.env x u) Q E s:=by
 have⟨m,L,hl⟩:=id I.loc;have NG:(X.env.scope.kind==.class||(X.env.scope.kind==.module&&X.env.locals != X.env.globals))=cc:=by rw[I.ok.kind];rfl
 have Um:i < σ.length:=by rw[I.len];show(dt.mp D).1
 have O:=I.L7;have f:∀{a:d7} {h':Jl},(∃o,s.heap.get? a=a5 o/\H a=b8)->mA a s.heap h'->JI X.prog X.w H h':=λ{a h'} ha hs b ob e=>by
  obtain⟨_,_,Jy⟩:=ha;show(I.IB b ob e).fP (λc G hc q=>(hs.2 c ?_).trans q) (λ_ q=>q) λ_ _ q=>q;rintro rfl;rcases hc with rfl|hc
  .rw[Jy]at e;cases e
  .rw[Jy]at hc;cases hc
 rcases l with hk|hk
 .show wpAny_storeName_local hk L (λh' OD hs=>?_) NG;obtain⟨oL,_,_,MN,_⟩:=id L;show h _ ⟨I.ok,I.os,I.bare,⟨λb o e n B l=>?_,λb o e n B l=>?_,I.base.free,λb o e l=>?_,I.base.fW,I.base.JF,I.base.JL⟩,⟨_,OD,λj y T g t Y=>?_⟩,λy c e=>?_,I.free,I.Ja,λp hp=>?_,f ⟨oL,MN,I.free⟩ hs,by simpa using I.len⟩ ⟨_,hs,.inl rfl⟩
  .show(hs.2 b (hH (i2 (d6 e) I.ok.above))).trans (I.base.keep b o e n B l)
  .have⟨sl,g⟩:=I.base.slot b o e n B l;show⟨sl,(hs.2 b (hH (i2 (d6 e) I.ok.above))).trans g⟩
  .have⟨o',g⟩:=I.base.there b o e l;show⟨o',(hs.2 b (hH (i2 (d6 e) I.ok.above))).trans g⟩
  .by_cases C:j=i
   .subst C;rw[D]at g;cases g;rw[d5 Um]at t;cases t;show⟨u,r,.inl ⟨hk,by simp⟩⟩
   .rw[hQ (ri C)]at t;have⟨u',r',q⟩:=hl j y T g t Y;show⟨u',r',?_⟩;rcases q with⟨k,e⟩|⟨k,c,e,z⟩
    .show .inl ⟨k,?_⟩;have:y≠x:=λe=>C (ij hN g (e▸D));simp[this,e]
    .show .inr ⟨k,c,e,z.sameBut hs (O y c e)⟩
  .have⟨G,z⟩:=I.cell y c e;show⟨G,z.sameBut hs (O y c e)⟩
  .have⟨e,n,ne,nf,d⟩:=I.pin p hp;show⟨(hs.2 p.1 ne).trans e,n,ne,nf,d⟩
 .have K':X.fn x=bD:=by
   rcases hf with z|z
   .show z
   .rw[z]at hk;cases hk
  have⟨c,hc⟩:=I.ok.has x (.inl hk);have⟨G,z⟩:=I.cell x c hc;show wpAny_storeName_cell I.ok.kind hk hc z (λh' OE hs=>?_);have⟨oc,Uo,Rp⟩:=id z;show h {s with heap:=h' } ⟨I.ok,I.os,I.bare,⟨λb o e n B l=>?_,λb o e n B l=>?_,I.base.free,λb o e l=>?_,I.base.fW,I.base.JF,I.base.JL⟩,⟨m,L.sameBut hs (ri (O x c hc)),λj y T g t Y=>?_⟩,λy J e=>?_,I.free,I.Ja,λp hp=>?_,f ⟨oc,Uo,I.Ja x c hc⟩ hs,by simpa using I.len⟩ ⟨c,hs,.inr hc⟩
  .show(hs.2 b (hH (i2 (d6 e) (I.ok.OB x c K' hc)))).trans (I.base.keep b o e n B l)
  .have⟨sl,g⟩:=I.base.slot b o e n B l;show⟨sl,(hs.2 b (hH (i2 (d6 e) (I.ok.OB x c K' hc)))).trans g⟩
  .have⟨o',g⟩:=I.base.there b o e l;show⟨o',(hs.2 b (hH (i2 (d6 e) (I.ok.OB x c K' hc)))).trans g⟩
  .by_cases C:j=i
   .subst C;rw[D]at g;cases g;rw[d5 Um]at t;cases t;show⟨u,r,.inr ⟨.inl hk,c,hc,OE⟩⟩
   .rw[hQ (ri C)]at t;have⟨u',r',q⟩:=hl j y T g t Y;show⟨u',r',?_⟩;rcases q with q|⟨k,J,e,z'⟩
    .show .inl q
    .show .inr ⟨k,J,e,z'.sameBut hs ?_⟩;rintro rfl;show C (ij hN g (I.ok.inj _ _ _ e hc▸D))
  .by_cases Up:J=c
   .subst Up;show⟨_,OE⟩
   .have⟨w2,z2⟩:=I.cell y J e;show⟨w2,z2.sameBut hs Up⟩
  .have⟨e,n,ne,nf,d⟩:=I.pin p hp;show⟨(hs.2 p.1 ?_).trans e,n,ne,nf,d⟩;intro q;rw[q,Uo]at e;have q':oc=p.2:=va e;show d G (by rw[<-q'];show Rp)
def il(I:Inv X pins σ H s)(a:X.N.Nodup)(b:X.N[i]?=a5 x)(c:Loc X.env.scope x)(r:RelV v u)
  (h:∀s',Inv X pins (σ.set i (a5 v)) H s'->Q () s') (d:X.fn x=bD\/X.env.scope.names.lookup x=a5 .local:=by first|show .inl rfl|show .inr rfl|assumption):dV M A (storeName X.env x u) Q E s :=
 mB I a b c r (λs' e _=>h s' e) d
def Inv.Ci(I:Inv X pins σ H s)(ho:s'.os=s.os)(u:Un (Jr X.stack) ch H H' s.heap s'.heap)(a:JI X.prog X.w H' s'.heap)(d:Sn s'.gens)
  (f:∀b∈ch,(b∈X.ex\/X.s₀.heap.objs.size<=b)/\b≠X.env.locals/\(∀x c,X.env.cells.lookup x=a5 c->c≠b)/\∀p∈X.pn++pins,p.1≠b):Inv X pins σ H' s':=by
 have⟨h',g',d',t',g⟩:=s';have e:g=s.os:=ho;subst e;show I.call (g':=g') (t':=t') (d':=d') u a d f
end
@[reducible]def XK:=df->Option d7->Hp->Prop
@[reducible]def St:=List (Option V)
@[reducible]def VK:=V->Hp->Prop
@[reducible]def TE:=St->Hp->VK->Prop
@[reducible]def TT:=St->Hp->(Bool->Hp->Prop)->Prop
@[reducible]def TA:=St->Hp->(List V->Hp->Prop)->Prop
structure Ends where
 nx:St->Hp->Prop
 rt:VK
 bk:St->Hp->Prop:=λ_ _=>False
 ct:St->Hp->Prop:=λ_ _=>False
@[reducible]def TS:=Ends->St->Hp->Prop
abbrev EP(X:Cx)(pins:List (d7×Obj))(σ:St)(Q:VK)(u:df)(s':d4):Prop:=∃v H',Inv X pins σ H' s'/\RelV v u/\Q v H'
abbrev TP(X:Cx)(pins:List (d7×Obj))(σ:St)(Q:Bool->Hp->Prop)(b:Bool)(s':d4):Prop:=∃H',Inv X pins σ H' s'/\Q b H'
abbrev AP(X:Cx)(pins:List (d7×Obj))(σ:St)(Q:List V->Hp->Prop)(us:List df)(s':d4):Prop:=∃vs H',Inv X pins σ H' s'/\Vals vs us/\Q vs H'
abbrev SP(X:Cx)(pins:List (d7×Obj))(D:Ends)(f:Flow)(s':d4):Prop :=
 match f with
 |.next=>∃a H',Inv X pins a H' s'/\D.nx a H'
 |.brk=>∃a H',Inv X pins a H' s'/\D.bk a H'
 |.cont=>∃a H',Inv X pins a H' s'/\D.ct a H'
 |.ret u=>∃v a H',Inv X pins a H' s'/\RelV v u/\D.rt v H'
abbrev PE(X:Cx)(e:l')(t:TE):Prop :=
 ∀(pins:List (d7×Obj)) (s:d4) (σ:St) (H:Hp) (Q:VK),Inv X pins σ H s->t σ H Q->dV (eh X.prog X.w) X.A (vl e X.env) (EP X pins σ Q) X.xe s
abbrev PT(X:Cx)(e:l')(t:TT):Prop :=
 ∀(pins:List (d7×Obj)) (s:d4) (σ:St) (H:Hp) (Q:Bool->Hp->Prop),Inv X pins σ H s->t σ H Q->dV (eh X.prog X.w) X.A (isTrue e X.env (vl e X.env)) (TP X pins σ Q) X.xe s
abbrev PW(X:Cx)(e:l')(t:TT):Prop :=
 ∀(a:Sem df) (pins:List (d7×Obj)) (s:d4) (σ:St) (H:Hp) (Q:Bool->Hp->Prop),Inv X pins σ H s->t σ H Q->dV (eh X.prog X.w) X.A (isTrue e X.env a) (TP X pins σ Q) X.xe s
def PW.pt(h:PW X e t):PT X e t:=h _
abbrev PA(X:Cx)(es:List l')(t:TA):Prop :=
 ∀(pos:Pos) (pins:List (d7×Obj)) (s:d4) (σ:St) (H:Hp) (Q:List V->Hp->Prop),Inv X pins σ H s->t σ H Q->dV (eh X.prog X.w) X.A (ß (x3 pos (gs es X.env))) (AP X pins σ Q) X.xe s
abbrev PS(X:Cx)(st:L8)(t:TS):Prop :=
 ∀(pins:List (d7×Obj)) (s:d4) (σ:St) (H:Hp) (D:Ends),Inv X pins σ H s->t D σ H->dV (eh X.prog X.w) X.A (exec st X.env) (SP X pins D) X.xe s
abbrev JT(X:Cx)(st:List L8)(t:TS):Prop :=
 ∀(pins:List (d7×Obj)) (s:d4) (σ:St) (H:Hp) (D:Ends),Inv X pins σ H s->t D σ H->dV (eh X.prog X.w) X.A (execs st X.env) (SP X pins D) X.xe s
def IG(h:dV M A t Q E s)(b:∀a s,Q a s->Q' a s):dV M A t Q' E s:=kj h b λ_ _ x=>x
section
abbrev HB(i:Nat):TE:=λσ H Q=>∃v,σ[i]?=a5 (a5 v)/\Q v H
abbrev tC(v:V):TE:=λ_ H Q=>Q v H
def bU(g:X.N[i]?=a5 x)(j:Kt X.env.scope x)(b:(x==("__debug__":Str))=cc:=by decide)(k:(x==("__classdict__":Str))=cc:=by decide):PE X (.Name x pos) (HB i):=by
 intro pins s σ H Q I h;have⟨v,e,h⟩:=h;have⟨m,n,hl⟩:=I.loc;have⟨u,r,l⟩:=hl i x v g e j;have a:EP X pins σ Q u s:=⟨v,H,I,r,h⟩
 rcases l with⟨hk,o⟩|⟨hk,c,d,f⟩
 .show Í (wpAny_loadName_local I.ok.kind hk n o a) b
 .rcases hk with hk|hk
  .show Í (wpAny_loadName_cell I.ok.kind hk d f a) b
  .show Í (wpAny_loadName_free I.ok.kind hk d f a k) b
def wB:PE X (.Constant (.int i) j pos) (tC (.int i)):=λ_ _ _ H _ I h=>wpAny_Constant_int ⟨.int i,H,I.tok _,⟨_,rfl⟩,h⟩
def s_:PE X (.Constant (.bool b) j pos) (tC (.bl b)):=λ_ _ _ H _ I h=>Constant_bool ⟨.bl b,H,I,rfl,h⟩
def wC:PE X (.Constant .none j pos) (tC .ID):=λ_ _ _ H _ I h=>Constant_none ⟨.ID,H,I,rfl,h⟩
def wD:PE X (.Constant (.str x) j pos) (tC (.str x)):=λ_ _ _ H _ I h=>Calls.Constant_str ⟨.str x,H,I.tok _,⟨_,rfl⟩,h⟩
abbrev Gl(X:Cx)(x:Str):Prop:=X.env.kindOf x=a5 .globalImplicit
def fk(I:Inv X pins σ H s)(a:Gl X x)(b:X.mg x=a5 u)(h:Q u s)
  (c:(x==("__debug__":Str))=cc:=by decide):dV (eh X.prog X.w) X.A (vl (.Name x pos) X.env) Q E s :=
 Wo I.ok.kind a (Calls.loadGlobal_global (by rw[I.ok.glob];show I.mod.glob.keeps I.bk) b h) c
def dh(I:Inv X pins σ H s)(a:Gl X x)(b:X.mg x=b8)(c:t4 x=a5 u)(h:Q u s)
  (d:x≠"__name__":=by decide) (e:(x==("__debug__":Str))=cc:=by decide):dV (eh X.prog X.w) X.A (vl (.Name x pos) X.env) Q E s:=by
 have⟨i,f,g⟩:=I.mod.blt;show Wo I.ok.kind a (Calls.loadGlobal_builtin (by rw[I.ok.glob];show I.mod.glob.keeps I.bk) b (by rw[I.ok.blt];show f.keeps I.bk) ((g x d).trans c) h) e
def tf(a:Gl X x)(b:X.mg x=b8)(c:t4 x=a5 u)(r:RelV v u)(d:x≠"__name__":=by decide)(e:(x==("__debug__":Str))=cc:=by decide):PE X (.Name x pos) (tC v) :=
 λ_ _ _ H _ I h=>dh I a b c ⟨v,H,I,r,h⟩ d e
abbrev PC(X:Cx)(c:ë)(a b:l')(t:TE):Prop :=
 ∀(pins:List (d7×Obj)) (s:d4) (σ:St) (H:Hp) (Q:VK),Inv X pins σ H s->t σ H Q ->
  dV (eh X.prog X.w) X.A (vl a X.env) (λv d=>dV (eh X.prog X.w) X.A (vl b X.env) (λu e=>dV (eh X.prog X.w) X.A (Pb c v u) (EP X pins σ Q) X.xe e) X.xe d) X.xe s
abbrev tB(t:TE):TT:=λσ H Q=>t σ H λx a=>∃c,x=.bl c/\Q c a
def wF(h:PC X f a b t)(e:L5 f b=cc:=by first|show n _ (by decide) (by decide)|rfl):PT X (.Compare a [f] [b] pos) (tB t):=by
 intro pins s σ H Q I g;show ZU (IG (h pins s σ H _ I g) λv s1 e=>IG e λu s2 i=>IG i λc s3 ⟨x,j,k,l,m⟩=>?_) e;have⟨d,rfl,q⟩:=m;cases l;show IQ ⟨j,k,q⟩
abbrev HC(t u:TT):TT:=λσ H Q=>t σ H λc a=>if c=bD then u σ a Q else Q cc a
abbrev VQ(t u:TT):TT:=λσ H Q=>t σ H λc a=>if c=bD then Q bD a else u σ a Q
abbrev HD(t:TT):TT:=λσ H Q=>t σ H λc a=>Q (!c) a
def Ac(b:PT X a d):PW X (.BoolOp .And [a] pos) d:=by
 intro f pins s σ H Q I h;show isTrue_and (IG (b pins s σ H Q I h) λc s1 e=>?_);cases c with
 |true=>show ę e
 |false=>show e
def CY(b:PT X a d):PW X (.BoolOp .Or [a] pos) d:=by
 intro f pins s σ H Q I h;show isTrue_or (IG (b pins s σ H Q I h) λc s1 e=>?_);cases c with
 |false=>show isTrue_or_nil e
 |true=>show e
def CZ(g:PT X a i)(j:PW X (.BoolOp .And (b::rest) pos) k):PW X (.BoolOp .And (a::b::rest) pos) (HC i k):=by
 intro l pins s σ H Q I h;show isTrue_and (IG (g pins s σ H _ I h) λc s1 m=>?_);have⟨d,e,f⟩:=m;cases c with
 |true=>show j l pins s1 σ d Q e f
 |false=>show⟨d,e,f⟩
def Fs(g:PT X a i)(j:PW X (.BoolOp .Or (b::rest) pos) k):PW X (.BoolOp .Or (a::b::rest) pos) (VQ i k):=by
 intro l pins s σ H Q I h;show isTrue_or (IG (g pins s σ H _ I h) λc s1 m=>?_);have⟨d,e,f⟩:=m;cases c with
 |true=>show⟨d,e,f⟩
 |false=>show j l pins s1 σ d Q e f
def C2(b:PT X a d):PT X (.UnaryOp .Not a pos) (HD d):=by
 intro pins s σ H Q I h;show isTrue_not (b pins s σ H (λc e=>Q (!c) e) I h)
abbrev Ft(b d:TE):TE:=λσ H Q=>b σ H λx a=>∃c,x=.bl c/\if c=bD then d σ a Q else Q (.bl cc) a
abbrev Fu(a:TE):TE:=λσ H Q=>a σ H λx b=>∃c,x=.bl c/\Q (.bl (!c)) b
def C3(h:PE X a t):PE X (.BoolOp c [a] pos) t:=λpins s σ H Q I b=>BoolOp_one (h pins s σ H Q I b)
def C4(g:PE X a i)(j:PE X (.BoolOp .And (b::rest) pos) k):PE X (.BoolOp .And (a::b::rest) pos) (Ft i k):=by
 intro pins s σ H Q I h;show BoolOp_and (IG (g pins s σ H _ I h) λv s1 l=>?_);have⟨x,e,f,m,d⟩:=l;have⟨c,rfl,d⟩:=d;cases m;show IQ ?_;cases c with
 |true=>show j pins s1 σ e Q f d
 |false=>show⟨.bl cc,e,f,rfl,d⟩
def C5(d:PE X a e):PE X (.UnaryOp .Not a pos) (Fu e):=by
 intro pins s σ H Q I h;show UnaryOp_ (IG (d pins s σ H _ I h) λv s1 f=>?_);have⟨x,g,i,j,b⟩:=f;have⟨c,rfl,b⟩:=b;cases j;show not_of (IQ ⟨.bl (!c),g,i,rfl,b⟩)
abbrev VV(t:TT)(b d:TE):TE:=λσ H Q=>t σ H λc a=>if c=bD then b σ a Q else d σ a Q
def wG(i:PT X c j)(k:PE X a l)(m:PE X b n):PE X (.IfExp c a b pos) (VV j l n):=by
 intro pins s σ H Q I h;show wpAny_IfExp (IG (i pins s σ H _ I h) λd s1 o=>?_);have⟨e,f,g⟩:=o;cases d with
 |true=>show k pins s1 σ e Q f g
 |false=>show m pins s1 σ e Q f g
end
abbrev Jh(K:PySem.W.Frag)(H:Hp)(a:d7)(xs:List V):Prop :=
 Rd H a (.lst xs) \/
  ∃(o:Obj) (b:Array df) (n:Nat),K.lookup a=a5 o/\o.cls=.type "list"/\o.dict=b8/\o.data=.seq b n/\b.size<=cK/\Vals xs b.toList
abbrev Ju(K:PySem.W.Frag)(H:Hp)(a:d7)(xs:List V):Prop :=
 Rd H a (.tup xs) \/
  ∃(o:Obj) (b:Array df) (n:Nat),K.lookup a=a5 o/\o.cls=.type "tuple"/\o.data=.seq b n/\b.size<=cK/\Vals xs b.toList
abbrev HE:df->Option V
 |.none=>a5 .ID
 |.bool b=>a5 (.bl b)
 |.int i _=>a5 (.int i)
 |.str x _=>a5 (.str x)
 |.bytes b _=>a5 (.Qr b)
 |.float b _=>a5 (.Qs b)
 |.ref a=>a5 (.ref a)
 |.type n=>a5 (.ty n)
 |_=>b8
def RelV.abs(r:RelV x u):HE u=a5 x:=by
 cases x with
 |ID=>cases r;rfl
 |bl _=>cases r;rfl
 |ref _=>cases r;rfl
 |ty _=>cases r;rfl
 |_=>have⟨t,rfl⟩:=r;rfl
def RelV.inj(r:RelV x u)(q:RelV y u):x=y:=va (r.abs.symm.trans q.abs)
theorem Vals.inj:∀{xs a:List V}{us:List df},Vals xs us->Vals a us->xs=a
 |_,_,_,.nil,.nil=>rfl
 |_,_,_,.cons r t,.cons b t'=>by rw[r.inj b,Vals.inj t t']
section
def Jh.of{K:PySem.W.Frag}(h:H a=a5 (.lst xs)):Jh K H a xs:=.inl (.inl h)
def Ju.of{K:PySem.W.Frag}(h:H a=a5 (.tup xs)):Ju K H a xs:=.inl (.inl h)
def Inv.list(I:Inv X pins σ H s)(h:Jh X.K H a xs):∃b:List df,Vals xs b/\PlainL s.heap a b.toArray/\xs.length<=cK:=by
 rcases h with h|⟨o,b,n,hk,c,d,hs,hz,r⟩
 .have⟨z,b,n,r,e⟩:=h.ok I.IB;show⟨b,r,⟨_,n,e,rfl,rfl,rfl⟩,z⟩
 .show⟨b.toList,r,⟨o,n,I.LU a o hk,c,d,by simpa using hs⟩,?_⟩;have e:=r.length;simp only[fx]at e;lia
def Inv.tuple(I:Inv X pins σ H s)(h:Ju X.K H a xs):∃b:List df,Vals xs b/\ě s.heap a b.toArray/\xs.length<=cK:=by
 rcases h with h|⟨o,b,n,hk,c,hs,hz,r⟩
 .have⟨z,b,r,p⟩:=h.ok I.IB;show⟨b,r,p,z⟩
 .show⟨b.toList,r,⟨o,I.LU a o hk,c,n,by simpa using hs⟩,?_⟩;have e:=r.length;simp only[fx]at e;lia
def Inv.pD(I:Inv X pins σ H s)(h:Jh X.K H a xs)(h':Jh X.K H a c):xs=c:=by
 obtain⟨f,r,⟨o,n,e,_,_,d⟩,_⟩:=I.list h;obtain⟨its',g,⟨j,k,b,_,_,d'⟩,_⟩:=I.list h';rw[e]at b;cases b;rw[d]at d';injection d' with i _
 have:f=its':=by simpa using Ģ Ye i
 subst this;show r.inj g
def Inv.mC(I:Inv X pins σ H s)(h:Ju X.K H a xs)(h':Ju X.K H a c):xs=c:=by
 obtain⟨f,r,⟨o,e,_,n,d⟩,_⟩:=I.tuple h;obtain⟨its',g,⟨j,b,_,k,d'⟩,_⟩:=I.tuple h';rw[e]at b;cases b;rw[d]at d';injection d' with i _
 have:f=its':=by simpa using Ģ Ye i
 subst this;show r.inj g
end
@[reducible]def Cx.ip(X:Cx)(E:df->d4->Prop):Cx:={X with xe:=E}
@[reducible]def Cx.KG(X:Cx):Cx:=X.ip λ_ _=>False
def Cx.Ok.ip{X:Cx}(a:X.Ok)(E:df->d4->Prop):(X.ip E).Ok :=
 ⟨a.mod,a.kind,a.glob,a.blt,a.above,a.inj,a.has,a.OB,a.hd,a.frames,a.O5,a.Ro,a.bs,a.MM,a.LD,a.L6,a.jS,a.ND⟩
def Cx.Ok.eL{X:Cx}(a:(X.ip E).Ok):X.Ok :=
 ⟨a.mod,a.kind,a.glob,a.blt,a.above,a.inj,a.has,a.OB,a.hd,a.frames,a.O5,a.Ro,a.bs,a.MM,a.LD,a.L6,a.jS,a.ND⟩
section
def Inv.ip(I:Inv X pins σ H s)(E:df->d4->Prop):Inv (X.ip E) pins σ H s:=⟨I.ok.ip E,I.os,I.bare,I.base,I.loc,I.cell,I.free,I.Ja,I.pin,I.IB,I.len⟩
def Inv.eL(I:Inv (X.ip E) pins σ H s):Inv X pins σ H s:=⟨I.ok.eL,I.os,I.bare,I.base,I.loc,I.cell,I.free,I.Ja,I.pin,I.IB,I.len⟩
def SP.eL(h:SP (X.ip E) pins D f s'):SP X pins D f s':=by
 cases f with
 |ret u=>have⟨v,a,H',I,r,q⟩:=h;show⟨v,a,H',I.eL,r,q⟩
 |_=>have⟨a,H',I,q⟩:=h;show⟨a,H',I.eL,q⟩
def JT.KG{st:List L8}(h:JT X.KG st t):JT X st t:=λpins s σ H D I a =>
 kj (h pins s σ H D (I.ip _) a) (λ_ _ q=>q.eL) λ_ _ z=>My z
end
section
variable{X:Cx}{st:L8}{rest:List L8}{t u:TS}{e:l'}{te:TE}{pos:Pos}
abbrev Fv:TS:=λD σ H=>D.nx σ H
abbrev HF(t u:TS):TS:=λD σ H=>t {D with nx:=u D} σ H
def tm:JT X [] Fv:=λ_ _ σ H _ I h=>Ru ⟨σ,H,I,h⟩
def pE(a:PS X st t)(b:JT X rest u):JT X (st::rest) (HF t u):=by
 intro pins s σ H D I h;show ï (IG (a pins s σ H {D with nx:=u D} I h) λf s1 q=>?_);cases f with
 |next =>
  have⟨c,H',d,q⟩:=q;show b pins s1 c H' D d q
 |_=>show q
def Inv.quiet(I:Inv X pins σ H s):interactive X.env=cc:=by simp[interactive,I.ok.kind]
abbrev Fw(te:TE):TS:=λD σ H=>te σ H λ_ a=>D.nx σ a
def iq(a:PE X e te)(hs:O8 e b8 pos.line X.env=pure cc:=by rfl):PS X (.Expr e pos) (Fw te):=by
 intro pins s σ H D I h;show Ć (IG (a pins s σ H _ I h) λv s1 ⟨x,b,c,f,d⟩=>⟨σ,b,c,d⟩) I.quiet hs
abbrev HG(te:TE):TS:=λD σ H=>te σ H D.rt
def C6(a:PE X e te):PS X (.Return (a5 e) pos) (HG te):=by
 intro pins s σ H D I h;show Ý (IG (a pins s σ H _ I h) λv s1 ⟨x,b,c,d,f⟩=>⟨x,σ,b,c,d,f⟩)
abbrev Fx:TS:=λD _ H=>D.rt .ID H
def Ad:PS X (.Return b8 pos) Fx:=λ_ _ σ H _ I h=>wpAny_Return_none ⟨.ID,σ,H,I,rfl,h⟩
abbrev HH(c:TT)(t u:TS):TS:=λD σ H=>c σ H λb a=>if b=bD then t D σ a else u D σ a
def Fy(j:PT X c k)(l:JT X a t)(m:JT X b u):PS X (.If c a b pos) (HH k t u):=by
 intro pins s σ H D I h;show wpAny_If (IG (j pins s σ H _ I h) λd s1 n=>?_);have⟨f,g,i⟩:=n;cases d with
 |true=>show l pins s1 σ f D g i
 |false=>show m pins s1 σ f D g i
end
@[reducible]def TG:=V->St->Hp->(St->Hp->Prop)->Prop
@[reducible]def OF:=List V->St->Hp->(St->Hp->Prop)->Prop
abbrev PG(X:Cx)(a:l')(t:TG):Prop :=
 ∀(pins:List (d7×Obj)) (s:d4) (σ:St) (H:Hp) (v:V) (u:df) (Q:St->Hp->Prop),Inv X pins σ H s->RelV v u->t v σ H Q ->
  dV (eh X.prog X.w) X.A (RY a X.env u) (λ_ s'=>∃b H',Inv X pins b H' s'/\Q b H') X.xe s
abbrev O9(X:Cx)(ts:List l')(t:OF):Prop :=
 ∀(pins:List (d7×Obj)) (s:d4) (σ:St) (H:Hp) (vs:List V) (us:List df) (Q:St->Hp->Prop),Inv X pins σ H s->Vals vs us->t vs σ H Q ->
  dV (eh X.prog X.w) X.A (assignInOrder ((PU ts X.env).map (·.2)) us) (λ_ s'=>∃a H',Inv X pins a H' s'/\Q a H') X.xe s
@[reducible]def C7:=V->V->V->Hp->(Hp->Prop)->Prop
abbrev nV(X:Cx)(t:C7):Prop :=
 ∀(pins:List (d7×Obj)) (s:d4) (σ:St) (H:Hp) (o i v:V) (a b u:df) (Q:Hp->Prop),Inv X pins σ H s->RelV o a->RelV i b->RelV v u->t o i v H Q ->
  dV (eh X.prog X.w) X.A (Tc a b u) (λ_ s'=>∃H',Inv X pins σ H' s'/\Q H') X.xe s
@[reducible]def Rr:=V->V->Hp->VK->Prop
abbrev Qw(X:Cx)(a:Z6)(t:Rr):Prop :=
 ∀(pins:List (d7×Obj)) (s:d4) (σ:St) (H:Hp) (x y:V) (v u:df) (Q:VK),Inv X pins σ H s->RelV x v->RelV y u->t x y H Q ->
  dV (eh X.prog X.w) X.A (inplaceOp a v u) (EP X pins σ Q) X.xe s
section
abbrev tq(i:Nat):TG:=λv σ H Q=>Q (σ.set i (a5 v)) H
def tu(a:X.N.Nodup)(b:X.N[i]?=a5 x)(c:Loc X.env.scope x)(d:X.fn x=bD\/X.env.scope.names.lookup x=a5 .local:=by first|show .inl rfl|show .inr rfl|assumption):PG X (.Name x pos) (tq i):=by
 intro pins s σ H v u Q I r h;show Ü (il I a b c r (λs' e=>⟨_,H,e,h⟩) d)
abbrev Fz:OF:=λvs σ H Q=>vs=[]/\Q σ H
abbrev Cj(t:TG)(u:OF):OF:=λvs σ H Q=>∃v r,vs=v::r/\t v σ H λa H'=>u r a H' Q
def Ae:O9 X [] Fz:=by
 intro pins s σ H vs us Q I r h;have⟨e,h⟩:=h;subst e;cases r;show assignInOrder_nil ⟨σ,H,I,h⟩
def wH(a:PG X e t)(b:O9 X es u)
  (hs:(PU (e::es) X.env).map (·.2)=RY e X.env::(PU es X.env).map (·.2):=by rfl):O9 X (e::es) (Cj t u):=by
 intro pins s σ H vs us Q I r h;have⟨v,l,c,h⟩:=h;subst c;cases r with
 |cons r d =>
  rw[hs];show assignInOrder_cons (IG (a pins s σ H _ _ _ I r h) λ_ s1 f=>?_);have⟨g,i,j,k⟩:=f;show b pins s1 g i _ _ Q j d k
abbrev HI(K:PySem.W.Frag)(n:Nat)(t:OF):TG:=λv σ H Q=>∃a xs,v=.ref a/\Ju K H a xs/\xs.length=n/\t xs σ H Q
def C8(d:X.calm=bD)(h:O9 X es t)
  (f:(PU es X.env).length=n:=by rfl) (g:(PU es X.env).findIdx? (·.1)=b8:=by rfl):PG X (.Tuple es k pos) (HI X.K n t):=by
 intro pins s σ H v u Q I r c;have⟨a,xs,i,j,hl,c⟩:=c;subst i;cases r;have⟨q,rv,l,hz⟩:=I.tuple j;show assign_Tuple_tuple (I.ok.hd d) l (by simp[f,<-hl,rv.length]) g λh' m=>?_;have p:Inv X pins σ H {s with heap:=h' }:=I.kept (t':=s.toks) λb o e=>m b o (hH (d6 e)) e;show h pins _ σ H xs _ Q p (by simpa using rv) c
abbrev HJ(a b:TE)(t:C7):TG:=λv σ H Q=>a σ H λo c=>b σ c λi d=>t o i v d λe=>Q σ e
def wI(ho:PE X o c)(d:PE X i e)(hs:nV X t)
  (f:∀v,RY (.Subscript o i pos) X.env v=(do
   let a <-Mz [v] (vl o X.env)
   let b <-Mz [v,a] (vl i X.env)
   Yl pos
   Mz [v,a,b] (Tc a b v)
   V0 [v,a,b] []):=by intro _;rfl):PG X (.Subscript o i pos) (HJ c e t):=by
 intro pins s σ H v u Q I r h;rw[f];show b6 (ti (IG (ho pins s σ H _ I h) λa s1 g=>?_));have⟨x,j,k,l,m⟩:=g;show b6 (ti (IG (d pins s1 σ j _ k m) λb s2 n=>?_));have⟨y,p,q,w,z⟩:=n;show b6 (YT (b6 (ti (IG (hs pins s2 σ p x y v a b u _ q l w r z) λ_ s3 A=>?_))));have⟨B,C,D⟩:=A;show wpAny_release ⟨σ,B,C,D⟩
abbrev C9(a:TE)(g:TG):TS:=λD σ H=>a σ H λx b=>g x σ b D.nx
def qY(b:PE X e c)(d:PG X a g)(hs:QN [a] e pos.line X.env=pure cc:=by rfl)(f:Va [a] e X.env=pure b8:=by rfl)
  (i:(PU [a] X.env).map (·.2)=[RY a X.env]:=by rfl):PS X (.Assign [a] e pos) (C9 c g):=by
 intro pins s σ H D I h;show wpAny_Assign_stores (IG (b pins s σ H _ I h) λv s1 ⟨x,j,k,l,m⟩=>?_) hs f;rw[i];show IG (d pins s1 σ j x v _ k l m) λ_ s2 q=>q
def qZ(a:X.N.Nodup)(b:X.N[i]?=a5 x)(c:Loc X.env.scope x)(d:PE X e f)(hs:O8 e (a5 (.Name x pos')) pos.line X.env=pure cc:=by rfl)(g:X.fn x=bD\/X.env.scope.names.lookup x=a5 .local:=by first|show .inl rfl|show .inr rfl|assumption):
  PS X (.Assign [.Name x pos'] e pos) (C9 f (tq i)):=by
 intro pins s σ H D I h;show Þ (IG (d pins s σ H _ I h) λv s1 ⟨y,j,k,l,m⟩=>?_) hs;show il k a b c l (λs2 n=>⟨_,j,n,m⟩) g
abbrev FA(a b c:TE)(d:V->V->Hp->VK->Prop)(e:Rr)(f:C7):TS:=λD σ H=>a σ H λo g=>b σ g λi h=>d o i h λx j=>c σ j λy k=>e x y k λz l=>f o i z l λm=>D.nx σ m
abbrev FC(X:Cx)(t:V->V->Hp->VK->Prop):Prop :=
 ∀(pins:List (d7×Obj)) (s:d4) (σ:St) (H:Hp) (o i:V) (a b:df) (Q:VK),Inv X pins σ H s->RelV o a->RelV i b->t o i H Q ->
  dV (eh X.prog X.w) X.A (V7 a b) (EP X pins σ Q) X.xe s
def Af(ho:PE X o k)(l:PE X i m)(n:FC X p)(q:PE X e r)(t:Qw X u w)(hs:nV X x)
  (y:∀a b new,ď i a b new=(do Mz [new,a,b] (Tc a b new);V0 [new,a,b] [];pure .next):=by intros;rfl):PS X (.AugAssign (.Subscript o i V1) u e pos) (FA k m r p w x):=by
 intro pins s σ H D I h;show wpAny_AugAssign_SubscriptAny (IG (ho pins s σ H _ I h) λa s1 ⟨d,z,A,f,B⟩=>?_) y;show IG (l pins s1 σ z _ A B) λb s2 C=>?_;have⟨g,G,J,j,L⟩:=C;show IG (n pins s2 σ G d g a b _ J f j L) λc s3 N=>?_;have⟨O,Q,T,Y,q3⟩:=N;show IG (q pins s3 σ Q _ T q3) λv s4 Rx=>?_;have⟨x4,H4,I4,r4,q4⟩:=Rx;show IG (t pins s4 σ H4 O x4 c v _ I4 Y r4 q4) λnew s5 Ry=>?_;have⟨x5,H5,I5,r5,q5⟩:=Ry;show IG (hs pins s5 σ H5 d g x5 a b new _ I5 f j r5 q5) λ_ s6 ⟨H6,I6,q6⟩=>⟨σ,H6,I6,q6⟩
abbrev Rz(f:Int->Int->Int):Rr:=λx y H Q=>∃i j,x=.int i/\y=.int j/\Q (.int (f i j)) H
def C_:Qw X .Add (Rz λi j=>i+j):=by
 intro pins s σ H x y v u Q I a b h;have⟨i,j,c,d,q⟩:=h;subst c;subst d;have⟨t,rfl⟩:=a;have⟨t',rfl⟩:=b;show iadd_int ⟨.int _,H,I.tok _,⟨_,rfl⟩,q⟩
def Dd:Qw X .Sub (Rz λi j=>i - j):=by
 intro pins s σ H x y v u Q I a b h;have⟨i,j,c,d,q⟩:=h;subst c;subst d;have⟨t,rfl⟩:=a;have⟨t',rfl⟩:=b;show isub_int ⟨.int _,H,I.tok _,⟨_,rfl⟩,q⟩
end
section
abbrev De(c:TT)(f:TS):TS:=λD σ H=>∃W:Nat->St->Hp->Prop,(∃m,W m σ H)/\∀m σ H,W m σ H ->
 c σ H λb a=>if b=bD then ∃N:St->Hp->Prop,(∀d H',N d H'->∃e,e<m/\W e d H')/\f {D with nx:=N,ct:=N,bk:=D.nx} σ a else D.nx σ a
def wJ(q:Xh (eh X.prog X.w) X.A X.env X.xe)(y:PT X c z)(B:JT X body C):PS X (.While c body [] pos) (De z C):=by
 intro pins s σ H D I h;obtain⟨W,⟨m0,G⟩,a⟩:=h;show wpAny_While (codeAny_whileLoop (λn s'=>∃r H',Inv X pins r H' s'/\W n r H') ?_ m0 ⟨σ,H,I,G⟩);rintro n s1 ⟨g,t,J,L⟩;show N1 q (IG (y pins s1 g t _ J (a n g t L)) λb s2 O=>?_);have⟨u,v,i⟩:=O;cases b with
 |true =>
  have⟨N,x,i⟩:=i;rw[ĝ rfl];show N1 q (IG (B pins s2 g u _ v i) λf s3 j=>?_);cases f with
  |next =>
   have⟨d,e,k,l⟩:=j;have⟨m,o,p⟩:=x d e l;show⟨m,o,d,e,k,p⟩
  |cont =>
   have⟨d,e,k,l⟩:=j;have⟨m,o,p⟩:=x d e l;show⟨m,o,d,e,k,p⟩
  |_=>show j
 |false =>
  rw[Ğ i1];show Ru ⟨g,u,v,i⟩
end
structure It where
 go:Nat->Hp->Prop
 Qx:Nat->Hp->V->Hp->Prop
 stop:Nat->Hp->Prop
abbrev ir(X:Cx)(pins:List (d7×Obj))(H:Hp)(b:d7):Prop :=
 H b=b8/\b≠X.env.locals/\b∉X.fs/\(b∈X.ex\/X.s₀.heap.objs.size<=b)/\(∀x c,X.env.cells.lookup x=a5 c->c≠b)/\∀p∈X.pn++pins,p.1≠b
def Inv.Ag(I:Inv X pins σ H s)(a:s.heap.objs.size<=b)(d:H' b=b8):ir X pins H' b:=by
 show⟨d,KX (i2 I.lt a),I.CW a,.inr (wh I.sz a),λx c e z=>?_,λp f z=>?_⟩
 .have⟨v,q⟩:=I.cell x c e;show absurd (i2 q.lt (by rw[z];show a)) (uk _)
 .show absurd (i2 (d6 (I.pin p f).1) (by rw[z];show a)) (uk _)
structure Turn(P:u7)(w:DD)(K:PySem.W.Frag)(tg:l')(J:It)(fp:List d7)(it:d7)(tn:Nat->Jl->Prop):Prop where
 mem:it∈fp
 obj:∀i h,tn i h->∀b∈fp,∃o,h.get? b=a5 o/\∀v,o.data≠.cell v
 keep:∀i h h',tn i h->(∀b∈fp,∀o,h.get? b=a5 o->h'.get? b=a5 o)->tn i h'
 item:∀(X:Cx),X.prog=P->X.w=w->X.K=K->X.calm=bD->∀(i:Nat) (pins:List (d7×Obj)) (s:d4) (σ:St) (H:Hp) (E:df->d4->Prop),Inv X pins σ H s->(∀b∈fp,ir X pins H b)->tn i s.heap->J.go i H ->
  dV (eh P w) X.A (Tg (.ref it)) (λr s1=>∃u,r=a5 u /\
   dV (eh P w) X.A (T1 tg (.ref it) u) (λ_ s2=>∃x H',Inv X pins σ H' s2/\RelV x u/\J.Qx i H x H'/\tn (i+1) s2.heap/\∀b∈fp,H' b=b8) E s1) E s
 done:∀(X:Cx),X.prog=P->X.w=w->X.K=K->X.calm=bD->∀(i:Nat) (pins:List (d7×Obj)) (s:d4) (σ:St) (H:Hp) (E:df->d4->Prop),Inv X pins σ H s->(∀b∈fp,ir X pins H b)->tn i s.heap->J.stop i H ->
  dV (eh P w) X.A (Tg (.ref it)) (λr s1=>r=b8/\Inv X pins σ H s1) E s
 self:∀(A:M8) (i:Nat) (s:d4) (Q:df->d4->Prop) (E:df->d4->Prop),tn i s.heap->Q (.ref it) s->dV (eh P w) A (Yv (.ref it)) Q E s
@[reducible]def TI:=St->Hp->(It->Hp->Prop)->Prop
abbrev Uq(X:Cx)(pins:List (d7×Obj))(σ:St)(d:l')(R:It->Hp->Prop)(e:df)(s2:d4):Prop :=
 ∃(it:d7) (a:List d7) (c:Nat->Jl->Prop) (J:It) (H':Hp),e=.ref it/\Inv X pins σ H' s2/\Turn X.prog X.w X.K d J a it c/\c 0 s2.heap/\(∀b∈a,ir X pins H' b)/\R J H'
abbrev PI(X:Cx)(b a:l')(c:TI):Prop :=
 ∀(pins:List (d7×Obj)) (s:d4) (σ:St) (H:Hp) (R:It->Hp->Prop),Inv X pins σ H s->c σ H R ->
  dV (eh X.prog X.w) X.A (vl a X.env) (λv s1=>dV (eh X.prog X.w) X.A (Yv v) (Uq X pins σ b R) X.xe s1) X.xe s
def wK(ho:s.heap.get? it=a5 o)(b:o.cls=.type n)(c:o.data=.fields vs)
    (d:["enumerate","zip","dict_itemiterator","dict_reverseitemiterator","odict_iterator","itertools.zip_longest","itertools.pairwise"].contains n=cc) (a:Q () s):dV M A (T1 e (.ref it) u) Q E s:=by
  unfold T1;cases e<;>first
    | show c2 a
    | (cases u<;>first
        | show c2 a
        | (show b6 (Ë ho ?_)
           rw[b,c];change dV M A (if (["enumerate","zip","dict_itemiterator","dict_reverseitemiterator","odict_iterator","itertools.zip_longest","itertools.pairwise"].contains n&&vs[0]?==a5 (u6 _))=bD then _ else _) Q E s;rw[Ğ (by intro h;rw[d,Ê]at h;cases h)];show c2 a))
abbrev RB(K:PySem.W.Frag)(a:d7):It :=
 ⟨λi H=>∃xs x,Jh K H a xs/\xs[i]?=a5 x,λi H x H'=>H'=H/\∀xs,Jh K H a xs->xs[i]?=a5 x,λi H=>∃xs,Jh K H a xs/\xs.length<=i⟩
abbrev RC(K:PySem.W.Frag)(a:d7):It :=
 ⟨λi H=>∃xs x,Ju K H a xs/\xs[i]?=a5 x,λi H x H'=>H'=H/\∀xs,Ju K H a xs->xs[i]?=a5 x,λi H=>∃xs,Ju K H a xs/\xs.length<=i⟩
abbrev Qz(lo:Int)(n:Nat):It:=⟨λi _=>i<n,λi H x H'=>H'=H/\x=.int (lo+i),λi _=>n<=i⟩
def uU{K:PySem.W.Frag}(a it:d7):Turn P w K tg (RB K a) [it] it (λi h=>h.IsListIter it a i) where
 mem:=by simp
 obj:=λi h st b f=>by
  have e:b=it:=by simpa using f
  subst e;have⟨o,e,c,d⟩:=st;show⟨o,e,λv z=>by rw[d]at z;cases z⟩
 keep:=λi h h' st k=>st.at λo e=>k it (by simp) o e
 item:=by
  intro X l m n D i pins s σ H E I g st q;subst l m n;have⟨xs,x,j,r⟩:=q;have⟨G,rv,p,hz⟩:=I.list j;have⟨u,J,L⟩:=rv.get r;have⟨t,y,N,A,B,C⟩:=g it (by simp);show wpAny_pyNext_list_item st p.isList (x:=u) (by simpa using J) λh' st' O=>?_;have Q:Inv X pins σ H {s with heap:=h' }:=I.turned (t':=s.toks) (λb o f e=>(O.2 b f).trans e) t y A B C;have⟨o,e,c,d⟩:=id st';show⟨u,rfl,wK (s:={s with heap:=h' }) e c d (by decide) ⟨x,H,Q,L,⟨rfl,λys T=>by rw[I.pD T j];show r⟩,st',λb f=>(g b f).1⟩⟩
 done:=by
  intro X l m n D i pins s σ H E I g st q;subst l m n;have⟨xs,j,r⟩:=q;have⟨G,rv,p,hz⟩:=I.list j;have⟨t,y,N,A,B,C⟩:=g it (by simp);have hl:=rv.length;show wpAny_pyNext_list_end (I.ok.hd D) st p.isList (by simp;lia) λh' Y=>⟨rfl,I.turned (t':=s.toks) (λb o f e=>Y b o f e) t y A B C⟩
 self:=λ_ _ _ _ _ st h=>wpAny_pyIter_listiter st h
def q9{K:PySem.W.Frag}(a it:d7):Turn P w K tg (RC K a) [it] it (λi h=>h.IsTupleIter it a i) where
 mem:=by simp
 obj:=λi h st b f=>by
  have e:b=it:=by simpa using f
  subst e;have⟨o,e,c,d⟩:=st;show⟨o,e,λv z=>by rw[d]at z;cases z⟩
 keep:=λi h h' st k=>st.at λo e=>k it (by simp) o e
 item:=by
  intro X l m n G i pins s σ H E I g st q;subst l m n;have⟨xs,x,j,r⟩:=q;have⟨t,rv,p,hz⟩:=I.tuple j;have⟨u,J,L⟩:=rv.get r;have⟨y,A,N,B,C,D⟩:=g it (by simp);show wpAny_pyNext_tuple_item st (show s.heap.IsTuple a t.toArray from p) (x:=u) (by simpa using J) λh' st' O=>?_;have Q:Inv X pins σ H {s with heap:=h' }:=I.turned (t':=s.toks) (λb o f e=>(O.2 b f).trans e) y A B C D;have⟨o,e,c,d⟩:=id st';show⟨u,rfl,wK (s:={s with heap:=h' }) e c d (by decide) ⟨x,H,Q,L,⟨rfl,λys T=>by rw[I.mC T j];show r⟩,st',λb f=>(g b f).1⟩⟩
 done:=by
  intro X l m n G i pins s σ H E I g st q;subst l m n;have⟨xs,j,r⟩:=q;have⟨t,rv,p,hz⟩:=I.tuple j;have⟨y,A,N,B,C,D⟩:=g it (by simp);have hl:=rv.length;show wpAny_pyNext_tuple_end (I.ok.hd G) st (show s.heap.IsTuple a t.toArray from p) (by simp;lia) λh' Y=>⟨rfl,I.turned (t':=s.toks) (λb o f e=>Y b o f e) y A B C D⟩
 self:=λ_ _ _ _ _ st h=>wpAny_pyIter_tupleiter st h
def q_{K:PySem.W.Frag}(it:d7)(lo:Int)(n:Nat):Turn P w K J (Qz lo n) [it] it (λi h=>IsRangeIter h it (lo+(i:Nat) * 1) ((n:Int) - (i:Nat)) 1) where
 mem:=by simp
 obj:=λi h st b a=>by
  have e:b=it:=by simpa using a
  subst e;show⟨_,st,λv z=>by
   have y:VF _=ZW v:=z;cases y⟩
 keep:=λi h h' st k=>k it (by simp) _ st
 item:=by
  intro X d f g j i pins s σ H E I c st l;subst d f g;have⟨m,p,A,q,r,u⟩:=c it (by simp);have W:=Walks.range (prog:=X.prog) (w:=X.w) (I.ok.hd j) it lo 1 n;show W.item i s _ _ l st λv h' x B st' C=>?_;have⟨t,rfl⟩:=B;have D:Inv X pins σ H {s with heap:=h',toks:=x}:=I.turned (λb o a e=>C b o (by simpa using a) e) m p q r u;show⟨_,rfl,wK (s:={s with heap:=h',toks:=x}) (n:="range_iterator") st' rfl rfl (by decide) ⟨.int (lo+i),H,D,⟨t,?_⟩,⟨rfl,rfl⟩,st',λb a=>(c b a).1⟩⟩;rw[Int.mul_one]
 done:=by
  intro X d f g j i pins s σ H E I c st l;subst d f g;have⟨m,p,A,q,r,u⟩:=c it (by simp);show wpAny_pyNext_range_end (I.ok.hd j) st (by have:n<=i:=l;lia) λh' G=>⟨rfl,I.turned (t':=s.toks) (λb o a e=>G b o a e) m p q r u⟩
 self:=λ_ _ _ _ _ st h=>wpAny_pyIter_rangeiter st h
section
abbrev FD(K:PySem.W.Frag)(c:TE):TI:=λσ H R=>c σ H λx b=>∃a,x=.ref a/\(∃xs,Jh K b a xs)/\R (RB K a) b
abbrev HK(K:PySem.W.Frag)(c:TE):TI:=λσ H R=>c σ H λx b=>∃a,x=.ref a/\(∃xs,Ju K b a xs)/\R (RC K a) b
def Ah(hl:PE X l d):PI X n l (FD X.K d):=by
 intro pins s σ H R I h;show IG (hl pins s σ H _ I h) λv s1 f=>?_;have⟨x,g,c,i,j⟩:=f;obtain⟨a,e,⟨xs,k⟩,q⟩:=j;subst e;cases i;have⟨r,rv,p,hz⟩:=c.list k;show VT p.isList ?_;show⟨s1.heap.objs.size,[s1.heap.objs.size],_,_,g,rfl,c.kept (t':=s1.toks) λb o e=>cL _ e,uU a _,⟨_,ez _ rfl,rfl,rfl⟩,λb m=>?_,q⟩;have e:b=s1.heap.objs.size:=by simpa using m
 subst e;show c.Ag (gj _) (c.IB.fresh (gj _))
def Df(hl:PE X l d):PI X r l (HK X.K d):=by
 intro pins s σ H R I h;show IG (hl pins s σ H _ I h) λv s1 f=>?_;have⟨x,g,c,i,j⟩:=f;obtain⟨a,e,⟨xs,k⟩,q⟩:=j;subst e;cases i;have⟨m,rv,p,hz⟩:=c.tuple k;show PL (show s1.heap.IsTuple a m.toArray from p) ?_;show⟨s1.heap.objs.size,[s1.heap.objs.size],_,_,g,rfl,c.kept (t':=s1.toks) λb o e=>cL _ e,q9 a _,⟨_,ez _ rfl,rfl,rfl⟩,λb n=>?_,q⟩;have e:b=s1.heap.objs.size:=by simpa using n
 subst e;show c.Ag (gj _) (c.IB.fresh (gj _))
def wL{lo a:Int}(I:Inv X pins σ H s)(f:-(2 ^ 62)<=lo)(g:lo<2 ^ 62)(h:-(2 ^ 62)<=a)(i:a<2 ^ 62)
  (q:R (Qz lo (a - lo).toNat) H):dV (eh X.prog X.w) X.A (Yv (.ref s.heap.objs.size)) (Uq X pins σ m R) E {s with heap:=s.heap.push {cls:=.type "range",data:=.fields #[.int lo t,.int a u,.int 1 v]},toks:=d}:=by
 show wpAny_pyIter_range (IsRange.new ..) (small_one f g h i) ?_;have c:Inv X pins σ H {s with heap:=s.heap.push {cls:=.type "range",data:=.fields #[.int lo t,.int a u,.int 1 v]},toks:=d}:=I.kept λb o e=>cL _ e;show⟨(s.heap.push {cls:=.type "range",data:=.fields #[.int lo t,.int a u,.int 1 v]}).objs.size,[(s.heap.push {cls:=.type "range",data:=.fields #[.int lo t,.int a u,.int 1 v]}).objs.size],_,_,H,rfl,
  c.kept (t':=d) λb o e=>cL _ e,q_ _ lo (a - lo).toNat,?_,λb j=>?_,q⟩
 .have k:lo+((0:Nat):Int) * 1=lo:=by simp
  have l:(((a - lo).toNat:Nat):Int) - ((0:Nat):Int)=ú lo a 1:=by rw[rangeSize_one];split<;>lia
  change IsRangeIter _ _ (lo+((0:Nat):Int) * 1) ((((a - lo).toNat:Nat):Int) - ((0:Nat):Int)) 1;rw[k,l];show ez _ rfl
 .have e:b=(s.heap.push {cls:=.type "range",data:=.fields #[.int lo t,.int a u,.int 1 v]}).objs.size:=by simpa using j
  subst e;show c.Ag (gj _) (c.IB.fresh (gj _))
abbrev FE(a:TA):TI:=λσ H R=>a σ H λvs b=>∃j:Int,vs=[.int j]/\-(2 ^ 62)<=j/\j<2 ^ 62/\R (Qz 0 j.toNat) b
def uV(c:Gl X "range")(d:X.mg "range"=b8)(f:PA X [a] g)(hs:gs [a] X.env=[(cc,vl a X.env)]:=by rfl):PI X n (.Call (.Name "range" p) [a] [] pos) (FE g):=by
 intro pins s σ H R I h;show Call_ (dh I c d boot_range (Mu (IG (f pos pins s σ H _ I h) λus s1 ⟨vs,o,i,k,b⟩=>?_) hs rfl));have⟨j,e,b,l,q⟩:=b;subst e;cases k with
 |cons r m =>
  cases m;have⟨t,rfl⟩:=r;show call_range_1 (wL i ⋯ ⋯ b l (by simpa using q))
abbrev HL(c:TI)(g:TG)(d:TS):TS:=λD σ H=>c σ H λJ e=>∃W:Nat->Nat->St->Hp->Prop,(∃m,W 0 m σ e)/\∀i m σ H,W i m σ H ->
 (J.stop i H/\D.nx σ H)\/(J.go i H/\∃N:St->Hp->Prop,(∀a H',N a H'->∃b,b<m/\W (i+1) b a H')/\∀x H',J.Qx i H x H'->g x σ H' λf h=>d {D with nx:=N,ct:=N,bk:=D.nx} f h)
abbrev kB(a:List d7)(h:Jl):List (d7×Obj):=a.filterMap λb=>(h.get? b).map λo=>(b,o)
def fm(a:b∈c)(e:h.get? b=a5 o):(b,o)∈kB c h:=Pe.mpr ⟨b,a,by rw[e];rfl⟩
def uW(a:p∈kB c h):p.1∈c/\h.get? p.1=a5 p.2:=by
 have⟨b,d,e⟩:=Pe.mp a;cases q:h.get? b with
 |none=>rw[q]at e;cases e
 |some o =>
  rw[q]at e;have f:(b,o)=p:=va e;subst f;show⟨d,q⟩
def Inv.pinned(I:Inv X pins σ H s)(g:∀b∈a,ir X pins H b)(ho:∀b∈a,∃o,s.heap.get? b=a5 o/\∀v,o.data≠.cell v):Inv X (pins++kB a s.heap) σ H s :=
 I.eF λp h=>(hY.mp h).elim (λz=>I.pin p (lg _ z)) λz=>by
  have⟨c,e⟩:=uW z;obtain⟨i,j,k,_⟩:=g p.1 c;have⟨o,f,d⟩:=ho p.1 c;rw[e]at f;cases f;show⟨e,i,j,k,d⟩
def Inv.kC(I:Inv X (pins++b) σ H s):Inv X pins σ H s:=I.eF λp a=>I.pin p (lg _ (JO _ a))
def Dg(q:Xh (eh X.prog X.w) X.A X.env X.xe)(hc:X.calm=bD)(hi:PI X tg l wi)(hg:PG X tg g)(a:JT X body tb)
  (hs:∀x,LS l X.env x=pure x:=by intro _;rfl):PS X (.For tg l body [] pos) (HL wi g tb):=by
 intro pins s σ H D I h;show wpAny_For (IG (hi pins s σ H _ I h) λv s1 h1=>IG h1 λQy s2 h2=>?_) hs;obtain⟨it,t,tn,J,H2,e,I2,T,st2,f2,W,⟨m0,w0⟩,y⟩:=h2;subst e;have L:∀{H':Hp},(∀b∈t,H' b=b8)->∀b∈t,ir X pins H' b:=λhn b a=>⟨hn b a,(f2 b a).2⟩
 show codeAny_forLoop_any (λn s'=>∃i z H',Inv X pins z H' s'/\tn i s'.heap/\(∀b∈t,H' b=b8)/\W i n z H') ?_ m0 ⟨0,σ,H2,I2,st2,λb a=>(f2 b a).1,w0⟩;rintro n s3 ⟨i,B,G,I3,Ji,O_,w3⟩;rcases y i n B G w3 with⟨C,qn⟩|⟨go,N,hN,Z2⟩
 .show N1 q (IG (T.done X rfl rfl rfl hc i pins s3 B G X.xe I3 (L O_) Ji C) λr s4 RH=>?_);have⟨O,I4⟩:=RH;subst O;show Ru ⟨B,G,I4,qn⟩
 .show N1 q (IG (T.item X rfl rfl rfl hc i pins s3 B G X.xe I3 (L O_) Ji go) λr s4 RJ=>?_);have⟨u,O,h4⟩:=RJ;subst O;show N1 q (IG h4 λ_ s5 RK=>?_);have⟨x,H5,I5,r5,y5,Q,RL⟩:=RK;have RM:=I5.pinned (L RL) (T.obj _ _ Q);show N1 q (IG (hg _ s5 B H5 x u _ RM r5 (Z2 x H5 y5)) λ_ s6 RN=>?_);have⟨σ6,H6,I6,q6⟩:=RN;show N1 q (IG (a _ s6 σ6 H6 _ I6 q6) λf Y p=>?_);have đ:∀{c:St} {j:Hp},Inv X (pins++kB t s5.heap) c j Y->N c j->∃m,m<n/\∃i z H',Inv X pins z H' Y/\tn i Y.heap/\(∀b∈t,H' b=b8)/\W i m z H':=λ{c j} k n7=>by
   have⟨m',hm,w7⟩:=hN c j n7;show⟨m',hm,i+1,c,j,k.kC,T.keep _ _ _ Q λb a o e=>(k.pin (b,o) (lg _ (lg _ (fm a e)))).1,λb a=>?_,w7⟩;have⟨o,e,d⟩:=T.obj _ _ Q b a;show(k.pin (b,o) (lg _ (lg _ (fm a e)))).2.1
  cases f with
  |brk=>have⟨c,j,k,p⟩:=p;show⟨c,j,k.kC,p⟩
  |ret v=>have⟨x7,c,j,k,r7,p⟩:=p;show⟨x7,c,j,k.kC,r7,p⟩
  |_=>have⟨c,j,k,n7⟩:=p;show đ k n7
end
@[reducible]def R2:=V->V->Hp->VK->Prop
abbrev KH(X:Cx)(f:df->df->Sem df)(r:R2):Prop :=
 ∀(pins:List (d7×Obj)) (s:d4) (σ:St) (H:Hp) (x y:V) (v u:df) (Q:VK),Inv X pins σ H s->RelV x v->RelV y u->r x y H Q ->
  dV (eh X.prog X.w) X.A (f v u) (EP X pins σ Q) X.xe s
abbrev iu(X:Cx)(f:df)(r:List V->Hp->VK->Prop):Prop :=
 ∀(pins:List (d7×Obj)) (s:d4) (σ:St) (H:Hp) (xs:List V) (us:List df) (Q:VK),Inv X pins σ H s->Vals xs us->r xs H Q ->
  dV (eh X.prog X.w) X.A (NQ f us) (EP X pins σ Q) X.xe s
abbrev HM(X:Cx)(r:V->Hp->(Bool->Hp->Prop)->Prop):Prop :=
 ∀(pins:List (d7×Obj)) (s:d4) (σ:St) (H:Hp) (x:V) (v:df) (Q:Bool->Hp->Prop),Inv X pins σ H s->RelV x v->r x H Q ->
  dV (eh X.prog X.w) X.A (Ĉ v) (TP X pins σ Q) X.xe s
abbrev rI(C:Int->Int->Prop)(g:Int->Int->V):R2:=λx y H Q=>∃i j,x=.int i/\y=.int j/\C i j/\Q (g i j) H
abbrev NK(g:Int->Int->V):R2:=λx y H Q=>∃i j,x=.int i/\y=.int j/\Q (g i j) H
section
def QA{g:Int->Int->Int}
  (ô:∀(i j:Int) (t u:Tok) (s:d4) (Q:df->d4->Prop) (E:df->d4->Prop),C i j->Q (.int (g i j) s.toks) {s with toks:=s.toks+1}->dV (eh X.prog X.w) X.A (f (.int i t) (.int j u)) Q E s) :
  KH X f (rI C λi j=>.int (g i j)):=by
 intro pins s σ H x y v u Q I a b h;have⟨i,j,rfl,rfl,c,q⟩:=h;have⟨t,rfl⟩:=a;have⟨t',rfl⟩:=b;show ô i j t t' s _ _ c ⟨.int (g i j),H,I.tok _,⟨_,rfl⟩,q⟩
def FF{g:Int->Int->Int}
  (ô:∀(i j:Int) (t u:Tok) (s:d4) (Q:df->d4->Prop) (E:df->d4->Prop),Q (.int (g i j) s.toks) {s with toks:=s.toks+1}->dV (eh X.prog X.w) X.A (f (.int i t) (.int j u)) Q E s) :
  KH X f (NK λi j=>.int (g i j)):=by
 intro pins s σ H x y v u Q I a b h;have⟨i,j,rfl,rfl,q⟩:=h;have⟨t,rfl⟩:=a;have⟨t',rfl⟩:=b;show ô i j t t' s _ _ ⟨.int (g i j),H,I.tok _,⟨_,rfl⟩,q⟩
def Dh{g:Int->Int->Bool}
  (ô:∀(i j:Int) (t u:Tok) (s:d4) (Q:df->d4->Prop) (E:df->d4->Prop),Q (.bool (g i j)) s->dV (eh X.prog X.w) X.A (f (.int i t) (.int j u)) Q E s) :
  KH X f (NK λi j=>.bl (g i j)):=by
 intro pins s σ H x y v u Q I a b h;have⟨i,j,rfl,rfl,q⟩:=h;have⟨t,rfl⟩:=a;have⟨t',rfl⟩:=b;show ô i j t t' s _ _ ⟨.bl (g i j),H,I,rfl,q⟩
abbrev HN(i j:Int):Prop:=0<j/\j<1073741824
abbrev HP(i j:Int):Prop:=0<=j/\j<=1000000/\i.natAbs<2 ^ 64
abbrev Di(i j:Int):Prop:=(-(2 ^ 64)<i/\i<2 ^ 64)\/(-(2 ^ 64)<j/\j<2 ^ 64)
def Di.ok(h:Di i j):IntMulOk i j:=by
 rcases h with⟨a,b⟩|⟨a,b⟩
 .show .of_left (intBits_le_64 a b)
 .show .of_right (intBits_le_64 a b)
def cu:KH X (OH .Add) (NK λi j=>.int (i+j)):=FF λ_ _ _ _ _ _ _ q=>add_int q
def ra:KH X (OH .Sub) (NK λi j=>.int (i - j)):=FF λ_ _ _ _ _ _ _ q=>sub_int q
def kD:KH X (OH .Mult) (rI Di λi j=>.int (i * j)):=QA λ_ _ _ _ _ _ _ a q=>mul_int q a.ok
def Ai:KH X (OH .FloorDiv) (rI HN λi j=>.int (i / j)):=QA λi j _ _ _ _ _ a q=>by
 have b:(0:Int)<j:=a.1;have c:j<1073741824:=a.2;show floordiv_int ⋯ (by rw[Int.fdiv_eq_ediv_of_nonneg i ⋯];show q) (.inl (PyProof.noPylong_small ⋯))
def eM:KH X (OH .Mod) (rI (λ_ j=>0<j) λi j=>.int (i % j)):=QA λi j _ _ _ _ _ a q=>by
 have b:(0:Int)<j:=a;show mod_int' ⋯ (by rw[Int.fmod_eq_emod_of_nonneg i ⋯];show q)
def nW:KH X (OH .Pow) (rI HP λi j=>.int (i ^ j.toNat)):=QA λ_ _ _ _ _ _ _ a q=>pow_int_small a.1 a.2.1 a.2.2 q
end
section
def Dj(I:Inv X pins σ H s)(q:Q (.bl k) H)(e:k=k'):EP X pins σ Q (.bool k') s:=by
 subst e;show⟨.bl k,H,I,rfl,q⟩
def FG:KH X (Pb .Lt) (NK λi j=>.bl (cn (i<j))):=Dh λ_ _ _ _ _ _ _ q=>lt_int q
def FH:KH X (Pb .Gt) (NK λi j=>.bl (cn (j<i))):=Dh λ_ _ _ _ _ _ _ q=>gt_int q
def FI:KH X (Pb .GtE) (NK λi j=>.bl (cn (j<=i))):=Dh λ_ _ _ _ _ _ _ q=>ge_int q
def Dk:KH X (Pb .Is) (λx y H Q=>y=.ID/\Q (.bl (cn (x=.ID))) H):=by
 intro pins s σ H x y v u Q I a b h;have⟨rfl,q⟩:=h;cases b;show is_none_gen (Dj I q ?_);cases x<;>first
  |(cases a;rfl)
  |(have⟨t,rfl⟩:=a;rfl)
abbrev FJ(K:PySem.W.Frag)(x:V)(H:Hp)(k:Bool):Prop :=
 match x with
 |.ID=>k=cc
 |.bl b=>k=b
 |.int i=>k=(i != 0)
 |.str y=>y.length<=cK/\k=((y.length:Int) != 0)
 |.Qr y=>y.size<=cK/\k=((y.size:Int) != 0)
 |.ref p=>(∃xs,Jh K H p xs/\k=!xs.isEmpty)\/(∃xs,Ju K H p xs/\k=!xs.isEmpty)\/∃kvs,H p=a5 (.dK kvs)/\k=!kvs.isEmpty
 |_=>False
def rb(r:KV kvs vs):(!vs.isEmpty)=!kvs.isEmpty:=by
 cases r<;>rfl
def kF(r:Vals xs a):(!a.toArray.isEmpty)=!xs.isEmpty:=by
 cases r<;>simp
def fQ:(cK:Nat)<2 ^ 63:=by rw[sizeLine_eq];decide
def Dl:HM X (λx H Q=>∃k,FJ X.K x H k/\Q k H):=by
 intro pins s σ H x v Q I d h;have⟨k,e,q⟩:=h;have hl:=fQ;have hs:cK=16777216:=sizeLine_eq;cases x with
 |ID =>
  cases d;have a:k=cc:=e;subst a;show truthy_none ⟨H,I,q⟩
 |bl b =>
  cases d;have a:k=b:=e;subst a;show IQ ⟨H,I,q⟩
 |int i =>
  have⟨t,rfl⟩:=d;have a:k=(i != 0):=e;subst a;show PySem.P.truthy_int ⟨H,I,q⟩
 |str y =>
  have⟨t,rfl⟩:=d;obtain⟨j,a⟩:y.length<=cK/\k=((y.length:Int) != 0):=e;subst a;show PySem.P.truthy_str ⋯ ⟨H,I.tok _,q⟩
 |Qr y =>
  have⟨t,rfl⟩:=d;obtain⟨j,a⟩:y.size<=cK/\k=((y.size:Int) != 0):=e;subst a;show PySem.W.truthy_bytes ⋯ ⟨H,I.tok _,q⟩
 |ref p =>
  cases d;have a:(∃xs,Jh X.K H p xs/\k=!xs.isEmpty)\/(∃xs,Ju X.K H p xs/\k=!xs.isEmpty)\/∃kvs,H p=a5 (.dK kvs)/\k=!kvs.isEmpty:=e;rcases a with⟨xs,f,a⟩|⟨xs,f,a⟩|⟨kvs,f,a⟩
  .subst a;have⟨l,r,g,hz⟩:=I.list f;have c:=r.length;show wpAny_truthy_list g.isList (by simp only[ei];lia) ⟨H,I.tok _,by rw[kF r];show q⟩
  .subst a;have⟨l,r,g,hz⟩:=I.tuple f;have c:=r.length;show truthy_tuple g (by simp only[ei];lia) ⟨H,I.tok _,by rw[kF r];show q⟩
  .subst a;obtain⟨hz,n,vs,r,m⟩:kvs.length<=cK/\(p==NJ)=cc/\∃vs,KV kvs vs/\s.heap.DictOf (bh X.prog X.w) p vs:=I.IB p _ f;have c:kvs.length=vs.length:=Paired.length r;show wpAny_truthy_dict n m ⋯ ⟨H,I.tok _,by rw[rb r];show q⟩
 |_=>show(show False from e).elim
def wM(c:PE X a d)(e:∀b,isTrue a X.env b=(do let v <-b;Yl a.pos;Mz [v] (Ĉ v))):
  PT X a (λσ H Q=>d σ H λx H'=>∃k,FJ X.K x H' k/\Q k H'):=by
 intro pins s σ H Q I h;show isTrue_plain (IG (c pins s σ H _ I h) λv s1 ⟨x,f,g,i,j⟩=>Dl pins s1 σ f x v Q g i j) (e _)
def rf:KH X (OH .Add) (λx y H Q=>∃i j,x=.str i/\y=.str j/\i.length+j.length<=cK/\Q (.str (i++j)) H):=by
 intro pins s σ H x y v u Q I a b h;have⟨i,j,rfl,rfl,hz,q⟩:=h;have⟨t,rfl⟩:=a;have⟨t',rfl⟩:=b;show add_str (λt' c=>⟨.str (i++j),H,I.tok _,⟨_,rfl⟩,q⟩) hz
def vals1(r:Vals [x] us):∃u,us=[u]/\RelV x u:=by
 cases r with
 |cons a b=>cases b;show⟨_,rfl,a⟩
def vals2(r:Vals [x,y] us):∃u a,us=[u,a]/\RelV x u/\RelV y a:=by
 cases r with
 |cons b c =>
  cases c with
  |cons d e=>cases e;show⟨_,_,rfl,b,d⟩
def nX:iu X (.type "str") (λxs H Q=>∃i,xs=[.int i]/\i.natAbs.log2<1920/\Q (.str (SU i)) H):=by
 intro pins s σ H xs us Q I r h;have⟨i,rfl,hz,q⟩:=h;have⟨u,rfl,t,rfl⟩:=vals1 r;show PySem.P.str_of_int hz ⟨.str _,H,I.tok _,⟨_,rfl⟩,q⟩
end
section
end
def jR.some_of(r:jR (a5 v) o):∃u,o=a5 u/\RelV v u:=by
 cases o with
 |none=>show(show False from r).elim
 |some u=>show⟨u,rfl,r⟩
section
end
structure V2(K:PySem.W.Frag)(C:d7):Prop where
 pg:PySem.W.plainGet K C td=bD
 hd:PySem.W.hasDictIn K C=bD
 po:PySem.W.plainOver K C=bD
 sa:PySem.W.findIn K (.ref C) "__setattr__"=a5 (a5 (.builtin "object.__setattr__"))
section
end
section
end
section
inductive kG(K:PySem.W.Frag)(H:Hp):V->df->Prop where
 |ID:kG K H .ID (.type "NoneType")
 |bl (x:Bool):kG K H (.bl x) (.type "bool")
 |int (i:Int):kG K H (.int i) (.type "int")
 |str (x:Str):kG K H (.str x) (.type "str")
 |Qs (x:UInt64):kG K H (.Qs x) (.type "float")
 |lst {a:d7} {xs:List V} (e:H a=a5 (.lst xs)):kG K H (.ref a) (.type "list")
 |Ks {a:d7} {o:Obj} {xs:List V} (e:H a=a5 (.Ks o (.lst xs))):kG K H (.ref a) (.type "list")
 |tup {a:d7} {xs:List V} (e:H a=a5 (.tup xs)):kG K H (.ref a) (.type "tuple")
 |dK {a:d7} {kvs:List (Key×V)} (e:H a=a5 (.dK kvs)):kG K H (.ref a) (.type "dict")
 |dT {a:d7} {kvs:List (List Key×V)} (e:H a=a5 (.dT kvs)):kG K H (.ref a) (.type "dict")
 |ins {a C dx:d7} {fs:List (Str×V)} (e:H a=a5 (.ins C dx fs)) (cl:V2 K C) (ha:PySem.W.findIn K (.ref C) "__class__"=a5 (a5 (.builtin "object.__class__")))
   (hn:PySem.W.specialIn K (.builtin "object.__class__") "__get__"=a5 (a5 (.builtin "getset_descriptor.__get__"))) (V3:PySem.W.takesIn K (.builtin "object.__class__")=a5 bD)
   (hm:PySem.W.mroIn K C (.type "object")=a5 bD):kG K H (.ref a) (.ref C)
end
structure fq(k:Nat)(A:M8):Prop where
 hd:A.handled=b8
 dp:A.depth+3 * k+5<ĉ
 un:A.units+16 * k+200<K4
 gd:A.guards=a5 []
def fq.deeper(r:fq (k+1) A)(env:Env):fq k (A.deeper env) :=
 ⟨r.hd,by have:=r.dp;change A.depth+1+3 * k+5 < _;lia,by have:=r.un;change A.units+3+16 * k+200 < _;lia,r.gd⟩
def fq.depth(r:fq k A):A.depth<ĉ:=by have:=r.dp;lia
abbrev HQ:TA:=λ_ H Q=>Q [] H
abbrev FK(a:TE)(b:TA):TA:=λσ H Q=>a σ H λx c=>b σ c λxs d=>Q (x::xs) d
section
def eN:PA X [] HQ:=λ_ _ _ _ H Q I h=>NH ⟨[],H,I,.nil,h⟩
def cF(a:PE X e b)(c:PA X es t)(hs:gs (e::es) X.env=(cc,vl e X.env)::gs es X.env:=by rfl):PA X (e::es) (FK b t):=by
 intro pos pins s σ H Q I h;rw[hs];change dV _ _ (ß ((cc,vl e X.env)::x3 pos (gs es X.env))) _ _ s;show K5 (IG (a pins s σ H _ I h) λu s1 d=>?_);have⟨x,f,g,i,j⟩:=d;show IG (c pos pins s1 σ f _ g j) λus s2 ⟨xs,k,l,m,n⟩=>⟨x::xs,k,l,.cons i m,n⟩
end
@[reducible]def Sp:=List V->Hp->VK->XK->Prop
@[reducible]def NM:=List Env->Hp->d4->XK->df->d4->Prop
structure Aj(P:u7)(w:DD)(K:PySem.W.Frag)(mg:Str->Option df)(base:Jl)(A:M8)(outer:List Env)(s:d4)(H:Hp):Prop where
 frames:A.frames=a5 outer
 mod:Mod K mg base
 bs:∀b o,base.get? b=a5 o->s.heap.get? b=a5 o/\H b=b8
 MM:base.objs.size<=s.heap.objs.size
 jS:s.heap.FunFrames base outer
 ND:∀b∈Jr outer,H b=b8
 IB:JI P w H s.heap
 bare:Sn s.gens
abbrev CE(outer:List Env)(P:u7)(w:DD)(H:Hp)(s:d4)(Q:VK)(u:df)(s':d4):Prop :=
 ∃v H',s'.os=s.os/\Sn s'.gens/\Un (Jr outer) [] H H' s.heap s'.heap/\JI P w H' s'.heap/\RelV v u/\Q v H'
abbrev CR(CX:NM)(outer:List Env)(P:u7)(w:DD)(H:Hp)(s:d4)(Q:VK)(E:XK)(r:Result)(s':d4):Prop :=
 match r with
 |.ok (.ret u)=>CE outer P w H s Q u s'
 |.ok _=>False
 |.error e=>CX outer H s E e s'
structure iw(P:u7)(w:DD)(K:PySem.W.Frag)(mg:Str->Option df)(base:Jl)(CX:NM)(k:Nat)(f:d7)(fd:RZ)(ps:List Str)(sp:Sp):Prop where
 len:∀vs H Q E,sp vs H Q E->vs.length=ps.length
 run:∀(A:M8) (outer:List Env) (s:d4) (H:Hp) (args:Args) (us:List df) (vs:List V) (Q:VK) (E:XK),fq k A->Aj P w K mg base A outer s H->ZK s fd args (ps.zip us)->Vals vs us->sp vs H Q E ->
  P' (eh P w) A (.call (.ref f) args) (CR CX outer P w H s Q E) s
section
def Inv.FL(I:Inv X pins σ H s):Aj X.prog X.w X.K X.mg X.base X.A X.stack s H :=
 ⟨I.ok.frames,I.ok.mod,I.bs,wh I.ok.MM I.sz,I.stack,I.j5,I.IB,I.bare⟩
def Inv.after(I:Inv X pins σ H s)(h:CE X.stack X.prog X.w H s Q u s'):EP X pins σ Q u s':=by
 have⟨v,H',os,a,c,e,r,q⟩:=h;have⟨f,g,d,t,i⟩:=s';obtain rfl:i=s.os:=os;show⟨v,H',I.call (h':=f) (g':=g) (d':=d) (t':=t) (ch:=[]) c e a (λb z=>absurd z (by simp)),r,q⟩
end
abbrev Binds(K:PySem.W.Frag)(b:RZ)(ps:List Str)(a:List df):Prop :=
 ∀(s:d4) (us:List df),K.In s.heap->(us++a).length=ps.length->ZK s b ⟨us,[]⟩ (ps.zip (us++a))
def Binds.all{K:PySem.W.Frag}(h:∀us:List df,us.length=ps.length->Ď a ⟨us,[]⟩=pure (ps.zip us)):Binds K a ps []:=λs us _ hl=>by
 rw[rr]at hl ⊢;show .of_eq (h us hl)
abbrev Passes(CX:NM)(X:Cx)(E:XK):Prop:=∀(pins:List (d7×Obj)) (σ:St) (H:Hp) (s:d4) (e:df) (s':d4),Inv X pins σ H s->CX X.stack H s E e s'->X.xe e s'
section
def wN(F:iw X.prog X.w X.K X.mg X.base CX k f g ps sp)(i:fq k X.A)(j:Binds X.K g ps a)(l:Vals b a)(m:Passes CX X E)
  (I:Inv X pins σ H s) (r:Vals vs us) (h:sp (vs++b) H Q E):dV (eh X.prog X.w) X.A (NQ (.ref f) us) (EP X pins σ Q) X.xe s:=by
 have d:Vals (vs++b) (us++a):=r.append l;have hl:(us++a).length=ps.length:=by rw[<-d.length];show F.len _ _ _ _ h
 show Ì (RO (F.run X.A X.stack s H ⟨us,[]⟩ (us++a) (vs++b) Q E i I.FL (j s us I.LU hl) d h) λr s' c=>?_);cases r with
 |error e=>show m pins σ H s e s' I c
 |ok n =>
  cases n with
  |ret u=>show I.after c
  |_=>show My c
end
section
end
structure eG(N P:List Str)(sc:LY):Prop where
 kind:sc.kind=.function
 co:sc.isCoroutine=cc
 gen:sc.isGenerator=cc
 nd:N.Nodup
 pre:N.take P.length=P
 par:∀x∈P,sc.names.lookup x=a5 .local\/sc.names.lookup x=a5 .cell
 NO:∀y∈sc.names,y.2≠.free
theorem mD{kindOf:Str->Option O6}:∀{a:List (Str×df)}{m:Str->Option df},(∀v,(x,v)∉a)->Zo kindOf a m x=m x
 |[],_,_=>rfl
 |(n,v)::r,m,h=>by
  unfold Zo;rw[mD λw b=>h w (kr _ b)];split
  .have:x≠n:=by rintro rfl;show h v mu
   simp[this]
  .rfl
theorem mE{kindOf:Str->Option O6}:∀{a:List (Str×df)}{m:Str->Option df},(∀v,(x,v)∉a)->Zq kindOf a m x=m x
 |[],_,_=>rfl
 |(n,v)::r,m,h=>by
  unfold Zq;rw[mE λw b=>h w (kr _ b)];split
  .rfl
  .have:x≠n:=by rintro rfl;show h v mu
   simp[this]
theorem mF{kindOf:Str->Option O6}:∀{P:List Str}{vs:List df}{i:Nat}{m:Str->Option df},P.Nodup->P[i]?=a5 x->vs[i]?=a5 v->kindOf x=a5 .local ->
  Zo kindOf (P.zip vs) m x=a5 v
 |[],_,_,_,_,h,_,_=>by simp at h
 |_::_,[],_,_,_,_,h,_=>by simp at h
 |p::P,w::vs,0,m,c,a,b,hk=>by
  simp at a b;subst a;subst b;change Zo kindOf ((p,w)::P.zip vs) m p=_;unfold Zo;rw[mD λv d=>(mh.mp c).1 (Qn d).1,ĝ hk];simp
 |p::P,w::vs,i+1,m,c,a,b,hk=>by
  change Zo kindOf ((p,w)::P.zip vs) m x=_;unfold Zo;show mF (i:=i) (mh.mp c).2 (by simpa using a) (by simpa using b) hk
theorem mG{kindOf:Str->Option O6}:∀{P:List Str}{vs:List df}{i:Nat}{m:Str->Option df},P.Nodup->P[i]?=a5 x->vs[i]?=a5 v->kindOf x≠a5 .local ->
  Zq kindOf (P.zip vs) m x=a5 v
 |[],_,_,_,_,h,_,_=>by simp at h
 |_::_,[],_,_,_,_,h,_=>by simp at h
 |p::P,w::vs,0,m,c,a,b,hk=>by
  simp at a b;subst a;subst b;change Zq kindOf ((p,w)::P.zip vs) m p=_;unfold Zq;rw[mE λv d=>(mh.mp c).1 (Qn d).1,Ğ hk];simp
 |p::P,w::vs,i+1,m,c,a,b,hk=>by
  change Zq kindOf ((p,w)::P.zip vs) m x=_;unfold Zq;show mG (i:=i) (mh.mp c).2 (by simpa using a) (by simpa using b) hk
abbrev start(N:List Str)(vs:List V):St:=vs.map a5++i3 (N.length - vs.length) b8
abbrev pF(CX:NM)(P:u7)(w:DD)(K:PySem.W.Frag)(mg:Str->Option df)(base:Jl)(N:List Str)(a:Str)(scope:LY)(f:d7)(b:df)(A:M8)(outer:List Env)(s:d4)(H:Hp)(E:XK):Cx where
 prog:=P
 w:=w
 K:=K
 mg:=mg
 base:=base
 A:=A.deeper (TH a scope s.heap.objs.size f b)
 N:=N
 s₀:=s
 H₀:=H
 env:=TH a scope s.heap.objs.size f b
 outer:=outer
 stack:=TH a scope s.heap.objs.size f b::outer
 ex:=[]
 calm:=bD
 fn:=λ_=>bD
 pn:=[]
 xe:=λe s'=>dV (eh P w) (A.deeper (TH a scope s.heap.objs.size f b)) (leaving (TH a scope s.heap.objs.size f b) e) (λ_ c=>CX outer H s E e c) (λd c=>CX outer H s E d c) s'
def pG{a:LY}(h:a.names.lookup x=a5 .cell):∃c,(õ n a.names []).lookup x=a5 c:=by
 have q:=PySem.W.cellsFrom_some a.names n [] (.inl h);show RG.mp q
def uX{K:PySem.W.Frag}
  (S:eG N ps scope) (G:A.handled=b8) (j:Aj P w K mg base A outer s H) (hl:vs.length=ps.length) (r:Vals vs us)
  (x:InCallC s s.heap.objs.size (Zo (TH g scope s.heap.objs.size f t).kindOf (ps.zip us) λ_=>b8) (õ (s.heap.objs.size+1) scope.names []) (Zq (TH g scope s.heap.objs.size f t).kindOf (ps.zip us) λ_=>b8) s1) :
  Inv (pF CX P w K mg base N g scope f t A outer s H E) [] (start N vs) H s1:=by
 have J:ps.length<=N.length:=by have:=Ģ K1 S.pre;rw[vu]at this;lia
 have⟨m,L,rfl,hk⟩:=x.done;have B:∀b:d7,b∉(pF CX P w K mg base N g scope f t A outer s H E).ex:=λb z=>absurd (show b∈([]:List d7) from z) (by simp);show⟨⟨j.mod,S.kind,rfl,rfl,gj _,λy z c m d=>?_,λy hy=>?_,λy c _ h=>?_,λ_=>G,Around.frames_deeper j.frames,.inr ⟨rfl,rfl⟩,λb z=>absurd z (B b),j.bs,j.MM,λb _ _=>B b,λb z=>absurd z (B b),j.jS,j.ND⟩,
  rfl,j.bare,Un.kept hk,⟨_,x.toInCall.ns,λi y v m d O=>?_⟩,λy c h=>⟨_,x.cell y c h⟩,j.IB.fresh (gj _),λy c h=>?_,λp l=>absurd (show p∈([]:List (d7×Obj)) from l) (by simp),j.IB.kept hk,?_⟩
 .show name_of_addr x.apart (PySem.mem_of_lookup m) (PySem.mem_of_lookup d)
 .have hy:scope.names.lookup y=a5 .cell\/scope.names.lookup y=a5 .free:=hy;rcases hy with hy|hy
  .show pG hy
  .show absurd rfl (S.NO _ (PySem.mem_of_lookup hy))
 .show PX (x.above y c (PySem.mem_of_lookup h))
 .have o:i<vs.length:=by
   unfold start at d;by_cases o:i<vs.length
   .show o
   .rw[nc (by simpa using o)]at d;rw[J8]at d;split at d<;>cases d
  have I:vs[i]?=a5 v:=by
   unfold start at d;rw[uv (by simpa using o),ki]at d;cases e:vs[i]? with
   |none=>rw[e]at d;cases d
   |some a=>rw[e]at d;cases d;rfl
  have⟨u,C,rv⟩:=r.get I;have l:ps[i]?=a5 y:=by
   rw[<-S.pre,XH ⋯];show m
  have D:ps.Nodup:=by rw[<-S.pre];show S.nd.sublist (ZQ _ _)
  show⟨u,rv,?_⟩;rcases S.par y (my l) with k|k
  .show .inl ⟨k,mF D l C k⟩
  .have⟨c,e⟩:=pG (n:=s.heap.objs.size+1) k;show .inr ⟨.inl k,c,e,?_⟩;have q:=x.cell y c e;rw[mG D l C (by change scope.names.lookup y≠_;rw[k];decide)]at q;show q
 .show j.IB.fresh (PX (x.above y c (PySem.mem_of_lookup h)))
 .unfold start;change _=N.length;rw[ia,c4,P5];lia
def Cm{K:PySem.W.Frag}{z kV g B d ct G:df}
 (lk:K.lookup f=a5 ⟨G,od,.func (PySem.W.fnOf name a c body scope z kV g B L d ct),OG⟩) (O:PySem.W.codeIn K d a=bD) (S:eG N ps scope)
    (h:∀vs H Q E,sp vs H Q E->vs.length=ps.length)
    (T:∀(A:M8) (outer:List Env) (s:d4) (H:Hp) (vs:List V) (Q:VK) (E:XK),fq k (A.deeper (TH a scope s.heap.objs.size f d))->sp vs H Q E ->
      ∃t,JT (pF CX P w K mg base N a scope f d A outer s H E) body t/\t {nx:=λ_ H'=>Q .ID H',rt:=Q} (start N vs) H) :
    iw P w K mg base CX (k+1) f (PySem.W.fnOf name a c body scope z kV g B L d ct) ps sp:=by
  show⟨h,λA outer s H args us vs Q E m i Y r C=>?_⟩;have hl:=h _ _ _ _ C;have D:K.In s.heap:=i.mod.NC.keeps λb o e=>(i.bs b o e).1;have p:s.heap.NoLimit:=i.mod.nolimit.keeps λb o e=>(i.bs b o e).1;have Pa:∀y∈ps.zip us,scope.names.lookup y.1=a5 .local\/(scope.names.lookup y.1=a5 .cell/\((õ (s.heap.objs.size+1) scope.names []).lookup y.1).isSome=bD):=λ⟨n,v⟩ hy=>by
    rcases S.par n (Qn hy).1 with q|q
    . show .inl q
    . show .inr ⟨q,PySem.W.cellsFrom_some _ _ _ (.inl q)⟩
  show codeAny_call_function m.depth (D _ _ lk) rfl S.co S.gen rfl (PySem.W.codeRec_of D O) (Y _ _ _ _ ?_);show wpAny_newFunctionEnv_cells S.kind Pa λenv he s1 x=>?_;subst he;show⟨p.keeps x.toInCall.keep,codeAny_func ?_⟩;have⟨t,ht,hq⟩:=T A outer s H vs Q E (m.deeper _) C;have I:Inv (pF CX P w K mg base N a scope f d A outer s H E) [] (start N vs) H s1:=uX S m.hd i hl r x;show kj (ht [] s1 (start N vs) H _ I hq) (λfl s' hs=>?_) λe s' hs=>hs;have j:∀{l:St} {H':Hp} {v:V} {u:df},Inv (pF CX P w K mg base N a scope f d A outer s H E) [] l H' s'->RelV v u->Q v H'->CE outer P w H s Q u s' :=
    λ{l H' v u} J rv q=>⟨v,H',J.os,J.bare,J.base,J.IB,rv,q⟩
  cases fl with
  | ret u =>
    have⟨v,l,H',J,rv,q⟩:=hs;show j J rv q
  | next =>
    have⟨l,H',J,q⟩:=hs;show j (v:=V.ID) (u:=mN) J rfl q
  | brk =>
    obtain⟨_,_,_,q⟩:=hs;show My q
  | cont =>
    obtain⟨_,_,_,q⟩:=hs;show My q
section
end
end L2
namespace HT
open PySem PyProof.Rows
section
open PySem.SeqAt
open PySem.AutoSeq1 (wpAny_loadPart')
open PySem.MeetsSeq PySem.MeetsSeq2 PySem.MeetsSeq3
end
section
def Ak(o:ě s.heap t vs.toArray)(p:ě s.heap b ws.toArray)(f:vs≠[])
  (q:ws=[]->Q (.ref t) s) (r:ws≠[]->Q (.ref s.heap.objs.size) {s with heap:=s.heap.push {cls:=.type "tuple",data:=.seq (vs++ws).toArray}})
  (hsz:vs.length+ws.length<=cK):dV (eh prog w) A (OH .Add (.ref t) (.ref b)) Q E s:=by
 obtain⟨⟨cls,dd,data,g⟩,ho,h,n,i⟩:=id o;obtain⟨⟨u,j,data2,k⟩,c,l,m,a⟩:=id p;simp only at h i l a;subst h i l a;have e:vs.toArray++ws.toArray=(vs++ws).toArray:=by simp
 by_cases d:ws=[]
 .show V9 ⟨_,ho,rfl⟩ ⟨_,c,rfl⟩ Xc Y2 PySem.F.slot_tuple_add PySem.F.entry_tuple_add (PySem.F.args_tuple_add_2 _ _)
   (tuple_addW1 t b vs.toArray ws.toArray n m dd j g k (by simpa using f) (by simp[d])) ⟨ho,c,q d⟩
 .show V9 ⟨_,ho,rfl⟩ ⟨_,c,rfl⟩ Xc Y2 PySem.F.slot_tuple_add PySem.F.entry_tuple_add (PySem.F.args_tuple_add_2 _ _)
   (tuple_addW2 t b vs.toArray ws.toArray n m dd j g k (by simpa using f) (by simpa using d) (by rw[ei,ei];show hsz)) ⟨ho,c,?_⟩
  rw[e];show r d
abbrev KI(n d:Nat):Option Int->Nat
 |none=>d
 |some v=>if v<0 then(v+(n:Int)).toNat else min v.toNat n
end
end HT
namespace L2
open PySem PySem.Spec PyProof.Rows
@[reducible]def TO:=St->Hp->(Option Int->Hp->Prop)->Prop
abbrev PO(X:Cx)(e:Option l')(t:TO):Prop :=
 ∀(pins:List (d7×Obj)) (s:d4) (σ:St) (H:Hp) (Q:Option Int->Hp->Prop),Inv X pins σ H s->t σ H Q ->
  dV (eh X.prog X.w) X.A (evalPart e X.env) (λu s'=>∃o H',Inv X pins σ H' s'/\IsPart u o/\Q o H') X.xe s
abbrev Al:TO:=λ_ H Q=>Q b8 H
abbrev FN(t:TE):TO:=λσ H Q=>t σ H λx a=>∃i,x=.int i/\Q (a5 i) a
section
variable{X:Cx}{e:l'}{te:TE}{lo hi:Option l'}{tl th:TO}{pos p2:Pos}
def Am:PO X b8 Al:=by
 intro pins s σ H Q I h;rw[evalPart_none];show c2 ⟨b8,H,I,.none,h⟩
def An(h:PE X e te):PO X (a5 e) (FN te):=by
 intro pins s σ H Q I a;rw[evalPart_some];show IG (h pins s σ H _ I a) λu s1 b=>?_;have⟨x,c,d,f,g⟩:=b;have⟨i,rfl,q⟩:=g;have⟨t,rfl⟩:=f;show⟨a5 i,c,d,.int i t,q⟩
abbrev Na(X:Cx)(r:V->Option Int->Option Int->Hp->VK->Prop):Prop :=
 ∀(pins:List (d7×Obj)) (s:d4) (σ:St) (H:Hp) (x:V) (v a b:df) (lo hi:Option Int) (c:d7) (Q:VK),Inv X pins σ H s->RelV x v->s.heap.IsSliceOf c a b .none->IsPart a lo->IsPart b hi->r x lo hi H Q ->
  ∃T id,Qq (.type T) "__getitem__"=pure (a5 (.builtin id))/\s.TypeIs v T/\dV (eh X.prog X.w) X.A (V7 v (.ref c)) (EP X pins σ Q) X.xe s
def Na.or(h:Na X r)(h':Na X i):Na X (λx lo hi H Q=>r x lo hi H Q\/i x lo hi H Q):=by
 intro pins s σ H x v a b lo hi c Q I d hs f g q;rcases q with q|q
 .show h pins s σ H x v a b lo hi c Q I d hs f g q
 .show h' pins s σ H x v a b lo hi c Q I d hs f g q
abbrev V4(r:V->Option Int->Option Int->Hp->VK->Prop)(te:TE)(tl th:TO):TE:=λσ H Q=>te σ H λx a=>tl σ a λl b=>th σ b λu c=>r x l u c Q
def wO(f:Na X r)(g:PE X e te)(hl:PO X lo tl)(i:PO X hi th):PE X (.Subscript e (.Slice lo hi b8 p2) pos) (V4 r te tl th):=by
 intro pins s σ H Q I h;show Õ (IG (g pins s σ H _ I h) λv s1 j=>?_);have⟨x,k,m,n,o⟩:=j;show wpAny_Slice (IG (hl pins s1 σ k _ m o) λa s2 ⟨l,p,t,y,z⟩=>IG (i pins s2 σ p _ t z) λc s3 B=>?_);have⟨u,d,C,D,G⟩:=B;rw[evalPart_none];show c2 ?_;have J:Inv X pins σ d {s3 with heap:=s3.heap.push {cls:=.type "slice",data:=.fields #[a,c,.none]}}:=C.kept (t':=s3.toks) λb Y q=>cL _ q;have⟨T,id,L,N,O⟩:=f pins {s3 with heap:=s3.heap.push {cls:=.type "slice",data:=.fields #[a,c,.none]}} σ d x v a c l u s3.heap.objs.size Q J n (é ..) y D G;change dV (eh X.prog X.w) X.A (Vd e (.Slice lo hi b8 p2) v (.ref s3.heap.objs.size)) (EP X pins σ Q) X.xe {s3 with heap:=s3.heap.push {cls:=.type "slice",data:=.fields #[a,c,.none]}};show tail_any (ops:=[.ref s3.heap.objs.size,v]) N L O (by with_unfolding_all rfl)
abbrev uY(xs:List V)(lo hi:Option Int):List V:=(xs.drop (HT.KI xs.length 0 lo)).take (HT.KI xs.length xs.length hi - HT.KI xs.length 0 lo)
def pH(xs:List V)(lo hi:Option Int):(uY xs lo hi).length<=xs.length:=by
 unfold uY;rw[vu,R7];lia
abbrev FO(K:PySem.W.Frag):R2:=λx y H Q=>∃a b xs c,x=.ref a/\y=.ref b/\Ju K H a xs/\Ju K H b c/\xs≠[]/\xs.length+c.length<=cK /\
 (c=[]->Q (.ref a) H)/\(c≠[]->∀p,H p=b8->Q (.ref p) (upd H p (.tup (xs++c))))
def Vals.nY(r:Vals xs us):us=[]↔xs=[]:=by
 cases r with
 |_=>simp
def Ao:KH X (OH .Add) (FO X.K):=by
 intro pins s σ H x y v u Q I f g h;have⟨a,b,xs,i,rfl,rfl,j,k,l,hz,m,n⟩:=h;cases f;cases g;obtain⟨r,d,p,_⟩:=I.tuple j;obtain⟨t,c,p2,_⟩:=I.tuple k;show HT.Ak p p2 (λz=>l (d.nY.mp z)) (λz=>⟨.ref a,H,I,rfl,m (c.nY.mp z)⟩) (λz=>?_) (by rw[<-d.length,<-c.length];show hz);show⟨.ref s.heap.objs.size,_,I.laid (t':=s.toks) (o:=.tup (xs++i)) (λb A q=>cL _ q) (gj _) ?_,rfl,n (λw=>z (c.nY.mpr w)) _ (I.IB.fresh (gj _))⟩;show⟨by rw[ia];show hz,_,d.append c,ZN _ _⟩
end
abbrev L9(n:Nat)(i:Int):Option Nat:=if 0<=i then(if i<n then a5 i.toNat else b8) else if -(n:Int)<=i then a5 (i+n).toNat else b8
abbrev JD{α:Type}(xs:List α)(i:Int):Option α:=(L9 xs.length i).bind λj=>xs[j]?
def tv{n:Nat}(h:L9 n i=a5 j):W9 i n=a5 j/\j<n/\-(n:Int)<=i/\i<n:=by
 unfold L9 at h;by_cases b:0<=i
 .rw[ĝ b]at h;by_cases a:i<n
  .rw[ĝ a]at h;have e:i.toNat=j:=va h;show⟨by rw[Z3 b a,e],⋯,⋯,a⟩
  .rw[Ğ a]at h;cases h
 .rw[Ğ b]at h;by_cases a:-(n:Int)<=i
  .rw[ĝ a]at h;have e:(i+n).toNat=j:=va h;show⟨by rw[seqIndex_neg ⋯ a,e],⋯,a,⋯⟩
  .rw[Ğ a]at h;cases h
def nZ(h:JD xs i=a5 v):∃j,W9 i xs.length=a5 j/\xs[j]?=a5 v/\j<xs.length/\-(xs.length:Int)<=i/\i<xs.length:=by
 unfold JD at h;cases e:L9 xs.length i with
 |none=>rw[e]at h;cases h
 |some j =>
  rw[e]at h;have⟨a,b,c,d⟩:=tv e;show⟨j,a,h,b,c,d⟩
def eI{j:Nat}(h:xs[j]?=a5 v):JD xs (j:Int)=a5 v:=by
 have a:j<xs.length:=(dt.mp h).1;have e:L9 xs.length (j:Int)=a5 j:=by
  unfold L9;rw[ĝ ⋯,ĝ ⋯];simp
 unfold JD;rw[e];show h
abbrev n9(b:l'):Prop:=∀o i,Xs b cc o i=operate [o,i] (V7 o i)
abbrev RV(X:Cx)(r:R2):Prop :=
 ∀(b a:l') (pins:List (d7×Obj)) (s:d4) (σ:St) (H:Hp) (x y:V) (v u:df) (Q:VK),Inv X pins σ H s->RelV x v->RelV y u->r x y H Q ->
  Xs a cc v u=operate [v,u] (V7 v u)->dV (eh X.prog X.w) X.A (Vd b a v u) (EP X pins σ Q) X.xe s
abbrev RW(X:Cx)(id:String)(r:V->List V->Hp->VK->Prop):Prop :=
 ∀(pins:List (d7×Obj)) (s:d4) (σ:St) (H:Hp) (x:V) (xs:List V) (v:df) (us:List df) (Q:VK),Inv X pins σ H s->RelV x v->Vals xs us->r x xs H Q ->
  dV (eh X.prog X.w) X.A (NQ (.builtin id) (v::us)) (EP X pins σ Q) X.xe s
section
abbrev HR(K:PySem.W.Frag):R2:=λx y H Q=>∃p xs i v,x=.ref p/\y=.int i/\Jh K H p xs/\JD xs i=a5 v/\Q v H
abbrev HS(K:PySem.W.Frag):R2:=λx y H Q=>∃p xs i v,x=.ref p/\y=.int i/\Ju K H p xs/\JD xs i=a5 v/\Q v H
abbrev HU:R2:=λx y H Q=>∃z i c,x=.str z/\y=.int i/\z.length<=cK/\JD z.cps.toList i=a5 c/\Q (.str ⟨#[c]⟩) H
def Ap:RV X (HR X.K):=by
 intro c d pins s σ H x y v u Q I m n h hs;have⟨p,xs,i,z,rfl,rfl,A,B,q⟩:=h;cases m;have⟨t,rfl⟩:=n;have⟨C,r,f,hz⟩:=I.list A;have⟨j,b,D,N,G,J⟩:=nZ B;have⟨w,k,L⟩:=r.get D;have hl:=r.length;have O:=fQ;have a:EP X pins σ Q w s:=⟨z,H,I,L,q⟩
 by_cases l:0<=i
 .have g:i.toNat=j:=by
   rw[Z3 l J]at b;show va b
  show item_listR f.isList l ⋯ (by rw[g];simpa using k) a hs
 .have g:(i+(C.toArray.size:Int)).toNat=j:=by
   rw[seqIndex_neg ⋯ G]at b;rw[ei,<-hl];show va b
  show ZL (x:=w) f.isList.typeIs à.lookup
   (wpAny_getItem_list_neg (Q:=λr s'=>r=w/\EP X pins σ Q r s') f.isList ⋯ (by rw[ei]<;>lia) ⋯ (by rw[g];simpa using k) ⟨rfl,a⟩) hs
def n_:RV X (HS X.K):=by
 intro a b pins s σ H x y v u Q I f g h hs;have⟨p,xs,i,z,rfl,rfl,k,l,q⟩:=h;cases f;have⟨t,rfl⟩:=g;have⟨C,r,d,hz⟩:=I.tuple k;have⟨j,m,n,D,G,J⟩:=nZ l;have⟨w,A,B⟩:=r.get n;have hl:=r.length;have L:=fQ;have c:EP X pins σ Q w s:=⟨z,H,I,B,q⟩
 show ZL (x:=w) d.typeIs slot_tuple_getitem.lookup
  (getItem_tuple (j:=j) (Q:=λr s'=>r=w/\EP X pins σ Q r s') d ⋯ ⋯ (by rw[ei,<-hl];show m) (by simpa using A) ⟨rfl,c⟩) hs
def oa:RV X HU:=by
 intro a b pins s σ H x y v u Q I f g h hs;have⟨z,i,c,rfl,rfl,hz,k,q⟩:=h;have⟨t,rfl⟩:=f;have⟨t',rfl⟩:=g;have⟨j,d,l,A,m,n⟩:=nZ k;have hl:z.cps.toList.length=z.length:=by simp[ĕ]
 rw[hl]at d m n;have B:=fQ;show tail_any (Ys s z t) û.lookup (getItem_str (c:=c) (by
  have p:cn (i < -(2 ^ 63:Int))=cc:=ğ ⋯;have w:cn (i >= 2 ^ 63)=cc:=ğ ⋯;rw[p,w,X']) (by rw[d];simpa using l) ⟨.str ⟨#[c]⟩,H,I.tok _,⟨_,rfl⟩,q⟩) hs
def rg(a:List df)(n j:Nat)(u:df):nC (·.setIfInBounds j u) {cls:=.type "list",data:=.seq a.toArray n}={cls:=.type "list",data:=.seq (a.set j u).toArray n}:=by
 simp[nC]
def Inv.lst(I:Inv X pins σ H s)(h:H p=a5 (.lst xs)):
  ∃(a:List df) (n:Nat),Vals xs a/\s.heap.get? p=a5 {cls:=.type "list",data:=.seq a.toArray n}/\xs.length<=cK:=by
 have⟨z,a,n,r,e⟩:=I.IB p _ h;show⟨a,n,r,e,z⟩
def Inv.Dm{a its':List df}(I:Inv X pins σ H s)(h:H p=a5 (.lst xs))
  (ho:s.heap.get? p=a5 {cls:=.type "list",data:=.seq a.toArray n}) (c:f {cls:=.type "list",data:=.seq a.toArray n}={cls:=.type "list",data:=.seq its'.toArray d }) (r:Vals g its') (hz:g.length<=cK) (t:Nat) :
  Inv X pins σ (upd H p (.lst g)) {s with heap:=s.heap.update p f,toks:=t}:=by
 have e:(s.heap.update p f).get? p=a5 {cls:=.type "list",data:=.seq its'.toArray d }:=by
  rw[tj f ho (by rw[c]<;>rfl),c]
 show I.write (x:=p) (e:=p) (by rw[h];trivial) (.inl rfl) (λb u i q=>(ML _ _ (ri i)).trans q) ⟨_,e⟩ ?_;show⟨hz,its',d,r,e⟩
abbrev FP:V->V->V->Hp->(Hp->Prop)->Prop:=λo i v H Q=>∃p xs k j,o=.ref p/\i=.int k/\H p=a5 (.lst xs)/\L9 xs.length k=a5 j/\Q (upd H p (.lst (xs.set j v)))
def set_list:nV X FP:=by
 intro pins s σ H o i v y z u Q I m w rv h;have⟨p,xs,k,j,rfl,rfl,b,x,q⟩:=h;cases m;have⟨t,rfl⟩:=w;have⟨c,n,r,ho,hz⟩:=I.lst b;have⟨a,A,d,f⟩:=tv x;have hl:=r.length;have B:=fQ;have g:Inv X pins σ (upd H p (.lst (xs.set j v))) {s with heap:=s.heap.update p (nC (·.setIfInBounds j u))} :=
  I.Dm b ho (rg c n j u) (r.set rv j) (by rw[Ã];show hz) s.toks
 by_cases l:0<=k
 .have hk:k.toNat=j:=by
   rw[Z3 l f]at a;show va a
  show PySem.W.ki_setAt ho l ⋯ (by rw[ei,<-hl];show f) (by rw[hk];show⟨_,g,q⟩)
 .have hk:(k+(c.toArray.size:Int)).toNat=j:=by
   rw[seqIndex_neg ⋯ d]at a;rw[ei,<-hl];show va a
  show PySem.W.ki_setBack ho ⋯ (by rw[ei,<-hl];show d) ⋯ (by rw[hk];show⟨_,g,q⟩)
def og(lo a:Option Int)(n:Nat):(QW lo a b8 n).1=((HT.KI n 0 lo:Nat):Int)/\(QW lo a b8 n).2.1=((HT.KI n n a:Nat):Int)/\(QW lo a b8 n).2.2=1:=by
 show⟨?_,?_,rfl⟩
 .cases lo with
  |none=>simp[QW,HT.KI]
  |some i =>
   simp only[QW,HT.KI,Zu,show(1:Int)>0 by decide,if_true];by_cases h:i<0
   .simp only[h,if_true]<;>lia
   .simp only[h,if_false]<;>lia
 .cases a with
  |none=>simp[QW,HT.KI]
  |some i =>
   simp only[QW,HT.KI,Zu,show(1:Int)>0 by decide,if_true];by_cases h:i<0
   .simp only[h,if_true]<;>lia
   .simp only[h,if_false]<;>lia
def lZ(a:List df)(lo b:Option Int):slicePick a.toArray lo b b8=((a.drop (HT.KI a.length 0 lo)).take (HT.KI a.length a.length b - HT.KI a.length 0 lo)).toArray:=by
 have⟨c,d,f⟩:=og lo b a.toArray.size;unfold slicePick;rw[c,d,f];simp only[sliceRange_one,pick_run,ei]<;>rfl
abbrev FQ(K:PySem.W.Frag):V->Option Int->Option Int->Hp->VK->Prop:=λx lo b H Q=>∃a xs,x=.ref a/\Jh K H a xs/\∀p,H p=b8->Q (.ref p) (upd H p (.lst (uY xs lo b)))
def Aq:Na X (FQ X.K):=by
 intro pins s σ H x v l m lo d n Q I g hs i j h;have⟨a,xs,rfl,k,q⟩:=h;cases g;have⟨p,r,f,hz⟩:=I.list k;have c:=r.length;show⟨"list",_,à.lookup,f.isList.typeIs,?_⟩;show wpAny_getItem_list_slice f.isList hs i j .none (by simp) ?_ (by rw[ei]<;>lia);rw[lZ,<-c];show⟨.ref s.heap.objs.size,_,I.laid (t':=s.toks) (o:=.lst (uY xs lo d)) (λb u q=>cL _ q) (gj _) ?_,rfl,q _ (I.IB.fresh (gj _))⟩;show⟨wh (pH xs lo d) hz,_,0,(r.drop (HT.KI xs.length 0 lo)).take (HT.KI xs.length xs.length d - HT.KI xs.length 0 lo),ez _ rfl⟩
def iy:iu X (.builtin "len") (λxs H Q=>∃p b,xs=[.ref p]/\(Jh X.K H p b\/Ju X.K H p b)/\Q (.int b.length) H):=by
 intro pins s σ H xs us Q I r h;have⟨p,b,rfl,hq,q⟩:=h;have⟨u,rfl,f⟩:=vals1 r;cases f;have i:=fQ;rcases hq with hq|hq
 .have⟨g,c,d,hz⟩:=I.list hq;have a:=c.length;show Calls.call_len_list d.isList (by simp only[ei]<;>lia) ⟨.int b.length,H,I.tok _,⟨s.toks+1,by rw[ei,a]⟩,q⟩
 .have⟨g,c,d,hz⟩:=I.tuple hq;have a:=c.length;show len_tuple d (by simp only[ei]<;>lia) ⟨.int b.length,H,I.tok _,⟨s.toks+1,by rw[ei,a]⟩,q⟩
def oh:iu X (.builtin "len") (λxs H Q=>∃z,xs=[.str z]/\z.length<=cK/\Q (.int z.length) H):=by
 intro pins s σ H xs us Q I r h;have⟨z,rfl,hz,q⟩:=h;have⟨u,rfl,t,rfl⟩:=vals1 r;have a:=fQ;show len_str ⋯ ⟨.int z.length,H,I.tok _,⟨_,rfl⟩,q⟩
def iz:iu X (.type "list") (λxs H Q=>∃p c,xs=[.ref p]/\(Jh X.K H p c\/Ju X.K H p c)/\∀l,H l=b8->Q (.ref l) (upd H l (.lst c))):=by
 intro pins s σ H xs us Q I r h;have⟨p,c,rfl,hq,q⟩:=h;have⟨u,rfl,y⟩:=vals1 r;cases y;have g:∀(a:List df),Vals c a->c.length<=cK->∀(h':Jl) (d:Nat),(∀b x,s.heap.get? b=a5 x->h'.get? b=a5 x) ->
   h'.get? s.heap.objs.size=a5 {cls:=.type "list",dict:=b8,data:=.seq a.toArray d,slots:=#[]}->EP X pins σ Q (.ref s.heap.objs.size) {s with heap:=h' }:=λa f hz h' d i e =>
  ⟨.ref s.heap.objs.size,_,I.laid (t':=s.toks) i (gj _) (show bS X.prog X.w _ h' _ (.lst c) from⟨hz,a,d,f,e⟩),rfl,q _ (I.IB.fresh (gj _))⟩
 rcases hq with hq|hq
 .have⟨a,f,k,hz⟩:=I.list hq;have j:=f.length;have⟨o,ho,m,n,v⟩:=k.isList;show call_list_seq p (.inl rfl) ho m v (λh' d i e=>g a f hz h' d i e) (by simp only[ei]<;>lia)
 .have⟨a,f,k,hz⟩:=I.tuple hq;have j:=f.length;have⟨o,ho,m,n,v⟩:=k;show call_list_seq p (.inr rfl) ho m v (λh' d i e=>g a f hz h' d i e) (by simp only[ei]<;>lia)
def gJ:iu X (.type "tuple") (λxs H Q=>∃p a,xs=[.ref p]/\((Jh X.K H p a/\∀l,H l=b8->Q (.ref l) (upd H l (.tup a)))\/(Ju X.K H p a/\Q (.ref p) H))):=by
 intro pins s σ H xs us Q I r h;have⟨p,a,rfl,h⟩:=h;have⟨u,rfl,k⟩:=vals1 r;cases k;rcases h with⟨c,q⟩|⟨c,q⟩
 .have⟨d,f,g,hz⟩:=I.list c;have i:=f.length;show call_tuple_list g.isList (λh' m=>?_) (by simp only[ei]<;>lia);have j:Inv X pins σ H {s with heap:=h' }:=I.kept (t':=s.toks) m;have n:Inv X pins σ (upd H h'.objs.size (.tup a)) {s with heap:=h'.push {cls:=.type "tuple",data:=.seq d.toArray}} :=
   j.laid (t':=s.toks) (λb o e=>cL _ e) (gj _) (show bS X.prog X.w _ _ _ (.tup a) from⟨hz,d,f,ZN _ _⟩)
  show⟨.ref h'.objs.size,_,n,rfl,q _ (j.IB.fresh (gj _))⟩
 .have⟨d,f,g,hz⟩:=I.tuple c;show call_tuple_same g ⟨.ref p,H,I,rfl,q⟩
abbrev QB(K:PySem.W.Frag)(T:String)(x:V)(H:Hp):Prop:=match x with
 |.str _=>T="str"
 |.int _=>T="int"
 |.ref p=>(T="list"/\∃xs,Jh K H p xs)\/(T="tuple"/\∃o,K.lookup p=a5 o/\o.cls=.type "tuple"/\o.dict=b8) \/
   (T="dict"/\((∃kvs,H p=a5 (.dK kvs))\/∃kvs,H p=a5 (.dT kvs)))\/(T="set"/\∃S n,H p=a5 (.set S n))
 |_=>False
def oi(I:Inv X pins σ H s)(r:RelV x v)(ty:QB X.K T x H):
  s.TypeIs v T/\∀a,v=.ref a->∃f,s.heap.get? a=a5 f/\f.dict=b8:=by
 cases x with
 |str z =>
  have⟨t,rfl⟩:=r;cases(show T="str" from ty);show⟨Ys s z t,λ_ e=>nomatch e⟩
 |int i =>
  have⟨t,rfl⟩:=r;cases(show T="int" from ty);show⟨typeIs_int s i t,λ_ e=>nomatch e⟩
 |ref p =>
  cases r;rcases ty with⟨rfl,xs,h⟩|⟨rfl,o,hk,j,b⟩|⟨rfl,hk⟩|⟨rfl,S,n,hk⟩
  .obtain⟨k,_,g,_⟩:=I.list h;show⟨g.isList.typeIs,λa e=>?_⟩;cases e;obtain⟨o,n,e,c,b,_⟩:=g;show⟨o,e,b⟩
  .show⟨⟨o,I.LU p o hk,j⟩,λa e=>?_⟩;cases e;show⟨o,I.LU _ o hk,b⟩
  .have z:∃o,s.heap.get? p=a5 o/\o.ExactDict:=by
    rcases hk with⟨kvs,hk⟩|⟨kvs,hk⟩
    .obtain⟨_,_,_,_,o,_,_,e,ex,_⟩:=I.IB p _ hk;show⟨o,e,ex⟩
    .obtain⟨_,_,_,_,o,_,_,e,ex,_⟩:=I.IB p _ hk;show⟨o,e,ex⟩
   have⟨o,e,ex⟩:=z;show⟨⟨o,e,ex.1⟩,λa d=>?_⟩;cases d;show⟨o,e,ex.2.1⟩
  .obtain⟨o,_,_,_,e,ex,_⟩:=I.IB p _ hk;show⟨⟨o,e,ex.1⟩,λa d=>?_⟩;cases d;show⟨o,e,ex.2.1⟩
 |_=>show My ty
abbrev HV(K:PySem.W.Frag)(T:String)(r:V->List V->Hp->VK->Prop)(to:TE):TE:=λσ H Q=>to σ H λx a=>QB K T x a/\r x [] a Q
abbrev V5(K:PySem.W.Frag)(T:String)(r:V->List V->Hp->VK->Prop)(to:TE)(t:TA):TE:=λσ H Q=>to σ H λx a=>QB K T x a/\t σ a λxs b=>r x xs b Q
variable{o e:l'}{es:List l'}{to:TE}{t:TA}{name:Str}{apos G':Pos}{T id:String}{r:V->List V->Hp->VK->Prop}
def Dn(c:PlainAttrs T)(slot:Slot T name id)(d:Zx (.builtin id)=pure (.type "method_descriptor"))(f:RW X id r)(ho:PE X o to)
  (g:Su o name X.env (vl o X.env)=vl o X.env:=by rfl) (i:(apos.endLine==G'.line)=bD:=by rfl):PE X (.Call (.Attribute o name apos) [] [] G') (HV X.K T r to):=by
 intro pins s σ H Q I h;show Zm g i (IG (ho pins s σ H _ I h) λv s1 j=>?_);have⟨x,k,a,b,ty,l⟩:=j;have⟨m,n⟩:=oi a b ty;show⟨T,id,c,slot,d,m,n,Kg rfl (PySem.evalArgs_none (f pins s1 σ k x [] v [] Q a b .nil l))⟩
def kH(d:PlainAttrs T)(slot:Slot T name id)(f:Zx (.builtin id)=pure (.type "method_descriptor"))(g:RW X id r)(ho:PE X o to)(i:PA X (e::es) t)
  (j:Su o name X.env (vl o X.env)=vl o X.env:=by rfl)
  (k:((x3 G' (gs (e::es) X.env)).all (λx=>!x.1)&&(PH G' (Lq [] X.env)).all (λx=>x.1.isSome)
   && cn ((e::es).length+([]:List MA).length+(if ([]:List MA).isEmpty then 0 else 1)<30))=bD:=by rfl)
  (l:(apos.endLine==G'.line)=bD:=by rfl) (hs:gs (e::es) X.env=(cc,vl e X.env)::gs es X.env:=by rfl) (m:(x3 G' (gs es X.env)).any (·.1)=cc:=by rfl) :
  PE X (.Call (.Attribute o name apos) (e::es) [] G') (V5 X.K T r to t):=by
 intro pins s σ H Q I h;show Zw j k l rfl (IG (ho pins s σ H _ I h) λv s1 n=>?_);have⟨x,p,a,b,ty,q⟩:=n;have⟨u,w⟩:=oi a b ty;show⟨T,id,d,slot,f,u,w,?_⟩;have c:=i G' pins s1 σ p _ a q;rw[hs]at c ⊢;show Kg (by change(cc||(x3 G' (gs es X.env)).any (·.1))=cc;rw[m]<;>rfl) (Lz ?_);show IG c λus s2 ⟨vs,y,z,A,B⟩=>g pins s2 σ y x vs v us Q z b A B
end
abbrev NP(X:Cx)(id:String)(r:V->List V->Hp->VK->Prop):Prop :=
 ∀(pins:List (d7×Obj)) (s:d4) (σ:St) (H:Hp) (x:V) (xs:List V) (v:df) (us:List df) (Q:VK),Inv X pins σ H s->RelV x v->Vals xs us->r x xs H Q ->
  dV (eh X.prog X.w) X.A (NQ (.builtin id) (v::us)) (EP X pins σ Q) X.xe s
theorem Vals.one:∀{x:V}{us:List df},Vals [x] us->∃u,us=[u]/\RelV x u
 |_,_,.cons r .nil=>⟨_,rfl,r⟩
theorem Vals.zero:∀{us:List df},Vals [] us->us=[]
 |_,.nil=>rfl
def Vals.dropLast(h:Vals xs us):Vals xs.dropLast us.dropLast:=by
 induction h with
 |nil=>show .nil
 |cons r t a =>
  cases t with
  |nil=>show .nil
  |cons q t'=>show .cons r a
theorem Vals.eraseIdx:∀{xs:List V}{us:List df} (i:Nat),Vals xs us->Vals (xs.eraseIdx i) (us.eraseIdx i)
 |_,_,_,.nil=>.nil
 |_,_,0,.cons _ t=>t
 |_,_,i+1,.cons r t=>.cons r (Vals.eraseIdx i t)
def Vals.reverse(h:Vals xs us):Vals xs.reverse us.reverse:=by
 induction h with
 |nil=>show .nil
 |cons r t a=>rw[RT,RT];show Vals.append a (.cons r .nil)
def rh(l:List α):l.eraseIdx (l.length - 1)=l.dropLast:=by
 induction l with
 |nil=>rfl
 |cons a r c =>
  cases r with
  |nil=>rfl
  |cons b r =>
   have e:(a::b::r).length - 1=((b::r).length - 1)+1:=by
    have d:(a::b::r).length=r.length+2:=rfl;have f:(b::r).length=r.length+1:=rfl;lia
   rw[e,R9,c]
   all_goals rfl
theorem mH:∀(l:List α) (i:Nat),(l.eraseIdx i).length<=l.length
 |[],_=>gj _
 |_::_,0=>MO _
 |_::r,i+1=>Nat.succ_le_succ (mH r i)
section
def Inv.kI{a its':List df}(I:Inv X pins σ H s)(c:H l=a5 (.lst xs))
  (e:s.heap.get? l=a5 {cls:=.type "list",data:=.seq a.toArray n}) (d:f a.toArray=its'.toArray) (g:Vals b its') (hz:b.length<=cK) :
  Inv X pins σ (upd H l (.lst b)) {s with heap:=s.heap.update l (nC f),toks:=t' }:=by
 have q:=PySem.IsL.update e f;rw[d]at q;show I.write (x:=l) (e:=l) (by rw[c];show trivial) (.inl rfl) (λj u h i=>(ML s.heap (nC f) (ri h)).trans i) ⟨_,q⟩ ?_;show⟨hz,its',_,g,q⟩
def Inv.HW(I:Inv X pins σ H s)(c:Vals a b)(hz:a.length<=cK):
  Inv X pins σ (upd H s.heap.objs.size (.lst a)) {s with heap:=s.heap.push {cls:=.type "list",data:=.seq b.toArray},toks:=t' } :=
 I.laid (λ_ _ q=>cL _ q) (gj _) ⟨hz,b,0,c,ez _ rfl⟩
def Inv.fresh(I:Inv X pins σ H s):H s.heap.objs.size=b8:=I.IB.fresh (gj _)
def Inv.rj(I:Inv X pins σ H s)(b:H l=a5 (.lst xs)):xs.length<=cK/\∃(a:List df) (n:Nat),Vals xs a/\xs.length=a.length/\s.heap.get? l=a5 {cls:=.type "list",data:=.seq a.toArray n}:=by
 have⟨z,a,n,r,e⟩:=I.IB l _ b;show⟨z,a,n,r,r.length,e⟩
def wQ(h:n<=cK):Lf n=cc:=by
 unfold Lf;show ğ ⋯
end
section
abbrev Ar:V->List V->Hp->VK->Prop:=λx vs H Q=>∃l xs y,x=.ref l/\vs=[y]/\H l=a5 (.lst xs)/\xs.length<cK/\Q .ID (upd H l (.lst (xs++[y])))
def mI:NP X "list.append" Ar:=by
 intro pins s σ H x vs v us Q I c rv h;have⟨l,xs,y,rfl,rfl,a,hz,q⟩:=h;cases c;have⟨u,rfl,d⟩:=rv.one;have⟨z,b,n,r,hl,e⟩:=I.rj a;show Qv F.slot_list_append ⟨_,e,rfl⟩ F.entry_list_append (F.args_list_append_2 _ _) (PySem.list_append l b.toArray n u (by rw[ei];lia)) ⟨e,?_⟩;show⟨.ID,_,I.kI (its':=b++[u]) a e (by simp) (r.append (.cons d .nil)) ?_,rfl,q⟩;rw[ia,NI];lia
abbrev HX:V->List V->Hp->VK->Prop:=λx vs H Q=>∃l xs y,x=.ref l/\vs=[]/\H l=a5 (.lst xs)/\xs[xs.length - 1]?=a5 y/\Q y (upd H l (.lst xs.dropLast))
def Dp:NP X "list.pop" HX:=by
 intro pins s σ H x vs v us Q I c rv h;have⟨l,xs,y,rfl,rfl,b,d,q⟩:=h;cases c;have f:=rv.zero;subst f;have⟨z,a,n,r,hl,e⟩:=I.rj b;have⟨u,g,i⟩:=r.get d;have j:a.toArray[a.toArray.size - 1]?=a5 u:=by
  change a.toArray[a.length - 1]?=a5 u;rw[<-oe,<-hl];show g
 show Qv ê ⟨_,e,rfl⟩ Ó (F.args_list_pop_1 _) (MeetsSeq.list_pop_last l a.toArray n u j (by rw[ei];lia)) ⟨e,?_⟩;show⟨y,_,I.kI (its':=a.dropLast) b e ?_ r.dropLast ?_,i,q⟩
 .change a.toArray.eraseIdxIfInBounds (a.toArray.size - 1)=a.dropLast.toArray;rw[ei,U',rh]
 .rw[List.length_dropLast];lia
abbrev Dq:V->List V->Hp->VK->Prop:=λx vs H Q=>∃l xs i k y,x=.ref l/\vs=[.int i]/\H l=a5 (.lst xs)/\-(2 ^ 63)<=i/\i<2 ^ 63/\W9 i xs.length=a5 k/\xs[k]?=a5 y/\Q y (upd H l (.lst (xs.eraseIdx k)))
def wR:NP X "list.pop" Dq:=by
 intro pins s σ H x vs v us Q I c rv h;have⟨l,xs,i,k,y,rfl,rfl,b,d,f,hk,g,q⟩:=h;cases c;have⟨u,rfl,j⟩:=rv.one;have⟨t,rfl⟩:=j;have⟨z,a,n,r,hl,e⟩:=I.rj b;have⟨w,m,o⟩:=r.get g;show Qv ê ⟨_,e,rfl⟩ Ó (F.args_list_pop_2 _ _)
  (MeetsSeq.list_pop_at l a.toArray n i t k w (Č d f) (by rw[ei,<-hl];show hk) (by rw[<-oe];show m) (by rw[ei];lia)) ⟨e,?_⟩
 show⟨y,_,I.kI (its':=a.eraseIdx k) b e ?_ (r.eraseIdx k) ?_,o,q⟩
 .change a.toArray.eraseIdxIfInBounds k=(a.eraseIdx k).toArray;rw[U']
 .have:=mH xs k;lia
end
section
set_option maxRecDepth 100000 in
end
section
end
end L2
namespace Us
open PySem PySem.W PySem.Calls PyProof.Rows
def jT:∀(ns:List Int) (vs:List df),WellAll P h vs (ns.map ā)->ZO vs ns:=by
 intro ns;induction ns with
 |nil =>
  intro vs w;rw[KD]at w;cases w;show .nil
 |cons n ns c =>
  intro vs w;rw[d8]at w;cases w with
  |cons a b =>
   cases a;show .cons _ _ (c _ b)
def uZ{l:OpenLaw}(i:l.most=a5 n)
  (f:l.row.toRowW.claim.pre args=bD) (j:WellAll P h vals args) :
  ∃a vs ns,vals=[ko a]/\args=[WData.list (ns.map ā)]/\h.get? a=a5 {cls:=.type "list",data:=.seq vs.toArray}/\ZO vs ns/\ns.length<=n:=by
 have k:WShape.hasAll [] args [.list .int]=bD:=(pre_splitW f).1;have g:l.pre.holds [] {args:=args}=bD:=(pre_splitW f).2;have⟨d,r,rfl,m,o⟩:=hasAllW_cons k;obtain rfl:=hasAllW_nil o;have⟨xs,rfl,p⟩:=hasW_list m;have⟨ns,rfl⟩:=items_int p;have b:ns.length<=n:=by
  unfold OpenLaw.pre at g;have c:(WTm.not (.lt (.lit (.int (n:Int))) (.len (.arg 0)))).holds [] {args:=[.list (ns.map .int)]}=bD:=by
   have c:=(holds_andW g).1;rw[i]at c;show c
  have e:=condW_of c (w_not (w_lt w_lit (w_len_list (w_arg rfl))));rw[c4]at e;show Nat.le_of_not_lt λq=>?_;have s:(n:Int)<((ns.length:Nat):Int):=by lia
  first
   |(rw[Ġ s]at e;show absurd e (by decide))
   |(simp at e;lia)
 cases j with
 |cons t u =>
  cases u;cases t with
  |list ho v=>show⟨_,_,ns,rfl,rfl,ho,jT ns _ v,b⟩
def u9(l:OpenLaw)(args:List WData):l.row.toRowW.claim.post args (.bool bD) args=bD :=
 postW_of (r:=l.row.toRowW) (X:=(bD==bD))
  (show ã [] (.bool bD) .bool=bD by first|rfl|decide|simp[ã,WShape.arms,WShape.armsAll])
  (show(WTm.eq .res (.lit (.bool bD))).value [] {args:=args,res:=a5 (.bool bD),after:=args}=a5 (.bool (bD==bD)) from w_eq_bool (w_res rfl) w_lit) rfl
def pI{l:OpenLaw}
  (p:l.most=a5 n) (s:d.params.defaults=[])
  (NQ:∀(w:DD) (s₀ b:d4) (mg j:Str->Option df) (fa:d7) (o:Obj) (k i c:df) (a:d7) (vs:List df) (ns:List Int),
   Ground q e [] t w s₀ mg j b.heap->u w b.heap ->
   b.heap.get? fa=a5 o->o.data=.func (docDef d.name d.params d.body d.scope k i c)->b.heap.CodeRec i d.name->mg d.name=a5 (.ref fa) ->
   b.heap.get? a=a5 {cls:=.type "list",data:=.seq vs.toArray}->ZO vs ns->ns.length<=n->b.gens=#[] ->
   P' (eh l.prog w) Ts (.call (.ref fa) ⟨[.ref a],[]⟩) (λr s'=>r=.ok (.ret (.bool bD))/\OldK b.heap s'.heap/\s'.os=b.os/\Sn s'.gens) b) :
  WalkO q e t u l.row.toRowW d [] (λf vs=>PySem.call f vs):=by
 intro w s₀ b mg j G Y fa o k i c v kV ho x y m z A args vals as B O Q C T;obtain rfl:v=.none:=Dflts.none m s;obtain rfl:kV=.none:=Dflts.noKw m;have⟨a,vs,ns,rfl,rfl,D,g,h⟩:=uZ p B C;show enter_call (RO (NQ w s₀ b mg j fa o k i c a vs ns G Y ho (fd_plain x) y z D g h A) λr s' H=>?_);have⟨rfl,I,J,L⟩:=H;show⟨.inl ⟨.bool bD,.bool bD,[],rfl,λ_=>rfl,.bool bD,u9 l _,λ_=>⟨þ,λ_ N=>(nomatch N)⟩⟩,I,J,L⟩
section
end
end Us
namespace L2
open PySem PySem.Spec PyProof.Rows
theorem mJ:∀{vs:List df}{ns:List Int},ZO vs ns->Vals (ns.map V.int) vs
 |_,_,.nil=>.nil
 |_,_,.cons n t h=>.cons ⟨t,rfl⟩ (mJ h)
abbrev Dr(H:Hp):Prop:=∀b,H b=b8\/∃o xs,H b=a5 (.Ks o (.lst xs))
def wU{K:PySem.W.Frag}
  (y:K.In c.heap) (A:c.heap.Ns i5 mg) (f:c.heap.Ns Ï B) (O:∀x:Str,x≠"__name__"->B x=t4 x) (Q:c.heap.NoLimit) (T:c.gens=#[])
  (l:c.heap.get? a=a5 {cls:=.type "list",data:=.seq vs.toArray}) (C:ZO vs ns) (hl:ns.length<=cK) (Y:fq k Ts)
  (F:∀base:Jl,K.In base->base.Ns i5 mg->iw P w K mg base CX k fa fd [x] sp) (Pf:∀(s:d4) (u:df),ZK s fd ⟨[u],[]⟩ [(x,u)])
  (J9:∀H:Hp,Dr H->Jh K H a (ns.map V.int)->sp [.ref a] H (λv _=>v=.bl bD) λ_ _ _=>False)
  (R4:∀H e s',CX [] H c (λ_ _ _=>False) e s'->False) :
  P' (eh P w) Ts (.call (.ref fa) ⟨[.ref a],[]⟩) (λr s'=>r=.ok (.ret (.bool bD))/\OldK c.heap s'.heap/\s'.os=c.os/\Sn s'.gens) c:=by
 have rv:=mJ C;have R5:=C.length;have g:∀H:Hp,Dr H->Jh K H a (ns.map V.int)->JI P w H c.heap->(∀b,H b≠b8->b=a)->(H a≠b8->K.lookup a=b8) ->
   P' (eh P w) Ts (.call (.ref fa) ⟨[.ref a],[]⟩) (λr s'=>r=.ok (.ret (.bool bD))/\OldK c.heap s'.heap/\s'.os=c.os/\Sn s'.gens) c:=by
  intro H D hS G I hK;have kf:∀{b:d7} {o:Obj},c.heap.get? b=a5 o->H b=b8->(nU c.heap H).get? b=a5 o:=λe n=>wA e n;have O':∀{b:d7} {o:Obj} {es:Array DictEntry} {ep:Nat},c.heap.get? b=a5 o->o.data=.dict es ep->H b=b8:=λ{b o es ep} e d=>by
   cases q:H b with
   |none=>rfl
   |some u =>
    have t:b=a:=I b (by rw[q];simp);subst t;rw[l]at e;cases e;have d':Data.seq vs.toArray _=Data.dict es ep:=d;cases d'
  have p:∀{b:d7} {m:Str->Option df},c.heap.Ns b m->(nU c.heap H).Ns b m:=λ{b m} ⟨o,es,ep,e,d,r⟩=>⟨o,es,ep,kf e (O' e d),d,r⟩
  have J:K.In (nU c.heap H):=λb o e=>kf (y b o e) (by
   cases q:H b with
   |none=>rfl
   |some u =>
    have t:b=a:=I b (by rw[q];simp);subst t;rw[hK (by rw[q];simp)]at e;cases e)
  have hM:Mod K mg (nU c.heap H):=⟨J,p A,⟨B,p f,O⟩,let ⟨mc,h1,h2⟩:=Q;⟨mc,p h1,h2⟩⟩
  have e0:Aj P w K mg (nU c.heap H) Ts [] c H:=⟨rfl,hM,λb o e=>Ab e,YC (uT _ _),trivial,λb f=>absurd (show b∈([]:List d7) from f) (by simp),G,.of_eq T⟩
  show RO ((F _ J (p A)).run Ts [] c H ⟨[.ref a],[]⟩ [.ref a] [.ref a] _ _ Y e0 (Pf c (.ref a)) (.cons rfl .nil) (J9 H D hS)) λr s' h=>?_;cases r with
  |error e=>show(R4 H e s' h).elim
  |ok fl =>
   cases fl with
   |ret u =>
    have⟨v,H',os,i,L,R6,r',q⟩:=h;have q':v=.bl bD:=q;subst q';obtain rfl:u=N4 bD:=r';show⟨rfl,OldK.of_keep λb o e=>?_,os,i⟩;cases q:H b with
    |none=>show L.keep b o e q (by intro z;show absurd (show b∈([]:List d7) from z) (by simp)) (by simp)
    |some u =>
     rcases D b with z|⟨ob,xs,z⟩
     .rw[q]at z;cases z
     .have z2:=L.JF b ob _ z;obtain⟨N,_⟩:=G b _ z;obtain⟨e2,_⟩:=R6 b _ z2;rw[e]at N;cases N;show e2
   |_=>show My h
 cases hk:K.lookup a with
 |some o =>
  have e:=y a o hk;rw[l]at e;cases e;show g (λ_=>b8) (λ_=>.inl rfl) (.inr ⟨_,vs.toArray,_,hk,rfl,rfl,rfl,by rw[ei,R5];show hl,by simpa using rv⟩) (λb u z=>by have j:(b8:Option HO)=a5 u:=z;cases j) (λb z=>absurd rfl z) λz=>absurd rfl z
 |none =>
  show g (λb=>if b=a then a5 (.Ks {cls:=.type "list",data:=.seq vs.toArray} (.lst (ns.map V.int))) else b8) (λb=>?_) (.inl (.inr ⟨{cls:=.type "list",data:=.seq vs.toArray},ĝ rfl⟩)) (λb u z=>?_) (λb z=>?_) λ_=>hk
  .by_cases f:b=a
   .show .inr ⟨_,_,ĝ f⟩
   .show .inl (Ğ f)
  .by_cases f:b=a
   .have j:=(ĝ f).symm.trans z;cases j;subst f;show⟨l,by rw[c4];show hl,vs,_,rv,l⟩
   .have j:=(Ğ f).symm.trans z;cases j
  .by_cases f:b=a
   .show f
   .show absurd (Ğ f) z
def As{l:PySem.W.OpenLaw}{K:Vy->PySem.W.Frag}{CX:DD->NM}{sp:DD->Sp}
  (r:l.most=a5 n) (t:n<=cK) (y:d.params.defaults=[]) (z:fq k Ts)
  (A:∀(w:DD) (h:Jl),B w h->(K w.params).In h)
  (F:∀(w:DD) (mg:Str->Option df) (fa:d7) (h:Jl),(K w.params).In h->h.Ns i5 mg->mg d.name=a5 (.ref fa) ->
   ∃j:RZ,(∀(s:d4) (u:df),ZK s j ⟨[u],[]⟩ [(x,u)]) /\
    ∀base:Jl,(K w.params).In base->base.Ns i5 mg->iw l.prog w (K w.params) mg base (CX w) k fa j [x] (sp w))
  (C:∀(w:DD) (H:Hp) (a:d7) (ns:List Int),ns.length<=n->Dr H->Jh (K w.params) H a (ns.map V.int)->sp w [.ref a] H (λv _=>v=.bl bD) λ_ _ _=>False)
  (D:∀(w:DD) (H:Hp) (s:d4) (e:df) (s':d4),CX w [] H s (λ_ _ _=>False) e s'->False) :
  PySem.W.WalkO q m XP B l.row.toRowW d [] (λf vs=>PySem.call f vs):=by
 show Us.pI r y λw s₀ I mg mb fa o pm cd J a vs ns G Y ho hd Jg L N i c O=>?_;have p:=A w _ Y;have⟨j,Q,hF⟩:=F w mg fa _ p G.T.g L;show wU p G.T.g G.T.b G.T.builtins G.T.nolimit O N i (wh c t) z hF Q (λH hO hS=>C w H a ns c hO hS) λH e s'=>D w H I e s'
abbrev gn(s:L8):Arguments:=match s with
 |.FunctionDef _ a _ _ _ _ _ _ _ _=>a
 |_=>{posonlyargs:=[],args:=[],vararg:=b8,kwonlyargs:=[],kw_defaults:=[],kwarg:=b8,defaults:=[]}
abbrev c8(s:L8):List L8:=match s with
 |.FunctionDef _ _ b _ _ _ _ _ _ _=>b
 |_=>[]
abbrev aT(s:L8):LY:=match s with
 |.FunctionDef _ _ _ _ _ _ a _ _ _=>a
 |_=>{kind:=.function,names:=[],isGenerator:=cc,isCoroutine:=cc}
@[reducible]def NT:NM:=λ_ _ _ _ _ _=>False
@[reducible]def E0:XK:=λ_ _ _=>False
def FR:Passes NT X E0:=λ_ _ _ _ _ _ _ h=>h.elim
structure Nc(K:PySem.W.Frag)(x qual:Str)(st:L8)(f:d7)(fd:RZ):Prop where
 ex:∃(oc:df) (od:Option d7) (kV doc pm:df) (an:Option d7) (JU ct:df) (OG:Array (Option df)),
  fd=PySem.W.fnOf x qual (gn st) (c8 st) (aT st) .none kV doc pm an JU ct/\K.lookup f=a5 ⟨oc,od,.func fd,OG⟩/\PySem.W.codeIn K JU qual=bD
 kp:PySem.W.keepIn K (.ref f)=bD
section
variable{P:u7}{w:DD}{K:PySem.W.Frag}{mg:Str->Option df}{base:Jl}
def Nc.ok{st:L8}(F:Nc K x a st f d)(S:eG N ps (aT st))(c:∀vs H Q E,sp vs H Q E->vs.length=ps.length)
  (e:∀(b:df) (A:M8) (outer:List Env) (s:d4) (H:Hp) (vs:List V) (Q:VK) (E:XK),fq k (A.deeper (TH a (aT st) s.heap.objs.size f b))->sp vs H Q E ->
   ∃t,JT (pF NT P w K mg base N a (aT st) f b A outer s H E).KG (c8 st) t/\t {nx:=λ_ H'=>Q .ID H',rt:=Q} (start N vs) H):iw P w K mg base NT (k+1) f d ps sp:=by
 have⟨m,n,kV,g,o,p,b,ct,r,rfl,lk,i⟩:=F.ex;show Cm lk i S c λA outer s H vs Q E j l=>?_;have⟨t,h,q⟩:=e b A outer s H vs Q E j l;show⟨t,h.KG,q⟩
def Ds{st:L8}{kV b e d ct:df}(l:K.lookup f=a5 ⟨h,i,.func (PySem.W.fnOf x a (gn st) (c8 st) (aT st) .none kV b e g d ct),j⟩)
  (c:PySem.W.codeIn K d a=bD) (k:PySem.W.keepIn K (.ref f)=bD):Nc K x a st f (PySem.W.fnOf x a (gn st) (c8 st) (aT st) .none kV b e g d ct):=⟨⟨h,i,kV,b,e,g,d,ct,j,rfl,l,c⟩,k⟩
end
section
end
abbrev eO(H H':Hp):Prop:=∀b o,H b=a5 o->H' b=a5 o
section
variable{κ:Type}[DecidableEq κ]
abbrev dI(kvs:List (κ×V))(k:κ):Option V:=(kvs.find? λkv=>cn (kv.1=k)).map (·.2)
abbrev putK(kvs:List (κ×V))(k:κ)(v:V):List (κ×V) :=
 if (kvs.any λkv=>cn (kv.1=k))=bD then kvs.map (λkv=>if kv.1=k then(kv.1,v) else kv) else kvs++[(k,v)]
def eV{p:κ×V}{k:κ}(e:p.1=k):dI (p::r) k=a5 p.2:=by simp[dI,M',e]
def eW{p:κ×V}{k:κ}(e:¬p.1=k):dI (p::r) k=dI r k:=by simp[dI,M',e]
theorem iA(k:κ):∀kvs:List (κ×V),(kvs.any λkv=>cn (kv.1=k))=(dI kvs k).isSome
 |[]=>rfl
 |p::r=>by
  rw[Ul];by_cases e:p.1=k
  .simp only[eV e,Ġ e,Bool.true_or,Option.isSome_some]
  .rw[eW e,ğ e,Bool.false_or];show iA k r
def jy(kvs:List (κ×V))(k:κ)(v:V):(putK kvs k v).length<=kvs.length+1:=by
 unfold putK;split
 .rw[c4];lia
 .rw[ia,i0,VI];lia
def wV{k:κ}(v:V)(h:dI kvs k=b8):putK kvs k v=kvs++[(k,v)]:=by
 unfold putK;rw[iA,h];show Ğ (by decide)
def jR.eX(r:jR o u):o.isSome=u.isSome:=by
 cases o with
 |none=>cases u with
  |none=>rfl
  |some _=>show(show False from r).elim
 |some _=>cases u with
  |none=>show(show False from r).elim
  |some _=>rfl
def jR.getD(r:jR o u)(a:RelV d d'):RelV (o.getD d) (u.getD d'):=by
 cases o with
 |none=>cases u with
  |none=>show a
  |some _=>show(show False from r).elim
 |some _=>cases u with
  |none=>show(show False from r).elim
  |some _=>show r
def KV.val(r:KV kvs vs)(k:κ):jR (dI kvs k) (VW vs k):=by
 unfold KV at r;induction r with
 |nil=>show WH
 |@cons p q ps a h t f =>
  have⟨d,g⟩:=h;by_cases e:p.1=k
  .have c:q.1=k:=d.symm.trans e;have b:VW (q::a) k=a5 q.2:=by simp[VW,M',c]
   rw[eV e,b];show g
  .have c:¬q.1=k:=λz=>e (d.trans z);have b:VW (q::a) k=VW a k:=by simp[VW,M',c]
   rw[eW e,b];show f
def KV.any(r:KV kvs vs)(k:κ):(kvs.any λkv=>cn (kv.1=k))=vs.any λkv=>cn (kv.1=k):=by
 unfold KV at r;induction r with
 |nil=>rfl
 |cons h t a=>rw[Ul,Ul,a,h.1]
def KV.Dt(r:KV kvs vs)(k:κ)(b:RelV y u):
  KV (kvs.map λkv=>if kv.1=k then(kv.1,y) else kv) (vs.map λkv=>if kv.1=k then(kv.1,u) else kv):=by
 unfold KV at r ⊢;induction r with
 |nil=>show .nil
 |@cons p q ps f h t c =>
  rw[d8,d8];show .cons ?_ c;have⟨a,d⟩:=h;by_cases e:p.1=k
  .rw[ĝ e,ĝ (a.symm.trans e)];show⟨a,b⟩
  .rw[Ğ e,Ğ (λz=>e (a.trans z))];show⟨a,d⟩
def KV.put(r:KV kvs vs)(k:κ)(a:RelV y u):KV (putK kvs k y) (stored vs k u):=by
 unfold putK stored;rw[r.any k];by_cases e:(vs.any λkv=>cn (kv.1=k))=bD
 .rw[ĝ e,ĝ e];show r.Dt k a
 .rw[Ğ e,Ğ e];show Paired.snoc r ⟨rfl,a⟩
def KV.length(r:KV kvs vs):kvs.length=vs.length:=Paired.length r
end
def mK(r:RelV (kV k) u):(bh P w).is k u=bD:=by
 cases k with
 |inl i=>have⟨t,e⟩:=(show ∃t,u=ZE i t from r);subst e;show pB P w i t
 |inr x=>have⟨t,e⟩:=(show ∃t,u=tr x t from r);subst e;show pC P w x t
theorem mL:∀{ks:List Key}{us:List df},Vals (ks.map kV) us->ItemsAre (bh P w) ks us
 |[],_,r=>by rw[KD]at r;cases r;show .nil
 |k::ks,_,r=>by
  rw[d8]at r;cases r with
  |cons h t=>show .cons (mK h) (mL t)
@[reducible]def KT(H:Hp):List (List Key×V)->List (List Key×d7×df)->Prop:=Paired λp q=>p.1=q.1/\H q.2.1=a5 (.tup (p.1.map kV))/\RelV p.2 q.2.2
def KT.val(r:KT H kvs xs)(k:List Key):jR (dI kvs k) ((Yy xs k).map (·.2)):=by
 induction r with
 |nil=>show WH
 |@cons p q ps a h t f =>
  obtain⟨d,_,g⟩:=h;by_cases e:p.1=k
  .have c:q.1=k:=d.symm.trans e;have b:Yy (q::a) k=a5 q.2:=by simp[Yy,M',c]
   rw[eV e,b];show g
  .have c:¬q.1=k:=λz=>e (d.trans z);have b:Yy (q::a) k=Yy a k:=by simp[Yy,M',c]
   rw[eW e,b];show f
def KT.Dt(r:KT H kvs xs)(k:List Key)(c:RelV y u):
  KT H (kvs.map λkv=>if kv.1=k then(kv.1,y) else kv) (xs.map (putAt k u)):=by
 induction r with
 |nil=>show .nil
 |@cons p q ps g h t d =>
  rw[d8,d8];show .cons ?_ d;have⟨a,b,f⟩:=h;unfold putAt;by_cases e:p.1=k
  .rw[ĝ e,ĝ (a.symm.trans e)];show⟨a,b,c⟩
  .rw[Ğ e,Ğ (λz=>e (a.trans z))];show⟨a,b,f⟩
def KT.put(r:KT H kvs xs)(k:List Key)(c:H b=a5 (.tup (k.map kV)))(a:RelV y u):
  KT H (putK kvs k y) (storedH xs k b u):=by
 have e:(kvs.any λkv=>cn (kv.1=k))=(Yy xs k).isSome:=by
  rw[iA,(r.val k).eX,UE]
 unfold putK storedH;rw[e];by_cases q:(Yy xs k).isSome=bD
 .rw[ĝ q,ĝ q];show r.Dt k a
 .rw[Ğ q,Ğ q];show Paired.snoc r ⟨rfl,c,a⟩
def KT.keeps(r:KT H kvs xs)(c:∀b a,H b=a5 (.tup a)->H' b=a5 (.tup a)):KT H' kvs xs :=
 Paired.CV r λ_ _ z=>⟨z.1,c _ _ z.2.1,z.2.2⟩
section
def Cn(b:JI P w H h)(e:Rd H a u):bS P w H h a u:=e.ok b
def kJ(b:JI P w H h)(e:Rd H a (.dK kvs)):kvs.length<=cK/\(a==NJ)=cc/\∃vs,KV kvs vs/\h.DictOf (bh P w) a vs :=
 show bS P w H h a (.dK kvs) from Cn b e
def wW(b:JI P w H h)(e:H a=a5 (.dK kvs)):kvs.length<=cK/\(a==NJ)=cc/\∃vs,KV kvs vs/\h.DictOf (bh P w) a vs:=kJ b (.inl e)
def ja(b:JI P w H h)(e:H a=a5 (.tup (ks.map kV))):(UT (bh P w)).is h ks a:=by
 obtain⟨_,c,r,o,d,f,n,g⟩:=(show bS P w H h a (.tup (ks.map kV)) from b a _ e)
 show⟨o,c.toArray,n,d,f,g,by simpa using mL r⟩
def kK(b:JI P w H h)(e:Rd H a (.dT kvs)):kvs.length<=cK/\(a==NJ)=cc /\
  ∃xs,KT H kvs xs/\h.DictOfH (UT (bh P w)) a xs:=by
 have⟨z,y,xs,r,o,es,ep,d,f,g,i,j⟩:=(show bS P w H h a (.dT kvs) from Cn b e)
 show⟨z,y,xs,r,o,es,ep,d,f,g,i,λx hx=>?_,j⟩;have all:∀{l:List (List Key×V)} {m:List (List Key×d7×df)},KT H l m->∀x∈m,(UT (bh P w)).is h x.1 x.2.1:=by
  intro l m q;induction q with
  |nil=>intro x hx;show nomatch hx
  |@cons p q ps n c t k =>
   intro x hx;rcases d3.mp hx with e|hx
   .subst e;show ja b (by rw[<-c.1];show c.2.1)
   .show k x hx
 show all r x hx
def FT(b:JI P w H h)(e:H a=a5 (.dT kvs)):kvs.length<=cK/\(a==NJ)=cc /\
  ∃xs,KT H kvs xs/\h.DictOfH (UT (bh P w)) a xs:=kK b (.inl e)
end
abbrev ft(H:Hp)(a:d7)(y:V)(r:Option V):Prop :=
 (∃kvs k,Rd H a (.dK kvs)/\y=kV k/\r=dI kvs k)\/∃kvs k b,Rd H a (.dT kvs)/\y=.ref b/\H b=a5 (.tup (k.map kV))/\r=dI kvs k
abbrev u_(H:Hp)(a:d7)(y v:V)(H':Hp):Prop :=
 (∃kvs k,H a=a5 (.dK kvs)/\y=kV k/\kvs.length<cK/\H'=upd H a (.dK (putK kvs k v))) \/
 ∃kvs k b,H a=a5 (.dT kvs)/\y=.ref b/\H b=a5 (.tup (k.map kV))/\kvs.length<cK/\H'=upd H a (.dT (putK kvs k v))
def ft.k{H:Hp}{a:d7}{kvs:List (Key×V)}{k:Key}(e:H a=a5 (.dK kvs)):ft H a (kV k) (dI kvs k):=.inl ⟨kvs,k,.inl e,rfl,rfl⟩
def u_.k{H:Hp}{a:d7}{kvs:List (Key×V)}{k:Key}{v:V}(e:H a=a5 (.dK kvs))(hl:kvs.length<cK):u_ H a (kV k) v (upd H a (.dK (putK kvs k v))):=.inl ⟨kvs,k,e,rfl,hl,rfl⟩
section
def Inv.big(I:Inv X pins σ H s):NJ<s.heap.objs.size:=by
 have h:i5<s.heap.objs.size:=(I.mod.glob.keeps I.bk).lt;show U9 (by decide) h
def vb(n:A.units+1<K4)(I:Inv X pins σ H s)(g:ft H a y (a5 v))(m:RelV y u)(h:∀d s',Inv X pins σ H s'->RelV v d->Q d s'):
  dV (eh X.prog X.w) A (V7 (.ref a) u) Q E s:=by
 rcases g with⟨kvs,k,e,f,l⟩|⟨kvs,k,b,e,f,q,l⟩
 .subst f;have⟨z,r,vs,c,dd⟩:=kJ I.IB e;have⟨d,i,j⟩:=jR.some_of (v:=v) (o:=VW vs k) (by rw[l];show c.val k);show wpAny_getItem_of (mK m) dd.mapOf i (h d _ (I.tok _) j)
 .subst f;cases(show u=ko b from m);have⟨z,r,xs,c,dd⟩:=kK I.IB e;have⟨d,i,j⟩:=jR.some_of (v:=v) (o:=(Yy xs k).map (·.2)) (by rw[l];show c.val k);have⟨p,t,x⟩:=et.mp i;show wpAny_getItem_heap (PN n) (ja I.IB q) dd t ?_;rw[x];show h d _ (I.tok _) j
def FU(j:A.units+1<K4)(I:Inv X pins σ H s)(g:ft H a y o)(i:RelV y u)(h:∀s',Inv X pins σ H s'->Q (.bool o.isSome) s'):
  dV (eh X.prog X.w) A (Pb .In u (.ref a)) Q E s:=by
 rcases g with⟨kvs,k,e,d,l⟩|⟨kvs,k,b,e,d,m,l⟩
 .subst d;have⟨z,f,vs,c,dd⟩:=kJ I.IB e;show wpAny_in_of (mK i) f dd.mapOf ?_;rw[<-(c.val k).eX,<-l];show h _ (I.tok _)
 .subst d;cases(show u=ko b from i);have⟨z,f,xs,c,dd⟩:=kK I.IB e;show wpAny_in_heap (PN j) (ja I.IB m) f dd ?_;have q:=(c.val k).eX;rw[UE]at q;rw[<-q,<-l];show h _ (I.tok _)
def tw(j:A.units+1<K4)(I:Inv X pins σ H s)(g:ft H a y o)(i:RelV y u)(h:∀s',Inv X pins σ H s'->Q (.bool (!o.isSome)) s'):
  dV (eh X.prog X.w) A (Pb .NotIn u (.ref a)) Q E s:=by
 rcases g with⟨kvs,k,e,d,l⟩|⟨kvs,k,b,e,d,m,l⟩
 .subst d;have⟨z,f,vs,c,dd⟩:=kJ I.IB e;show wpAny_notIn_of (mK i) f dd.mapOf ?_;rw[<-(c.val k).eX,<-l];show h _ (I.tok _)
 .subst d;cases(show u=ko b from i);have⟨z,f,xs,c,dd⟩:=kK I.IB e;show wpAny_notIn_heap (PN j) (ja I.IB m) f dd ?_;have q:=(c.val k).eX;rw[UE]at q;rw[<-q,<-l];show h _ (I.tok _)
def tD(I:Inv X pins σ H s)(d:O3 (H a))(hs:mA a s.heap h')(f:∃q,h'.get? a=a5 q)(new:bS X.prog X.w (upd H a c) h' a c):
  Inv X pins σ (upd H a c) {s with heap:=h',toks:=t' } :=
 I.write (x:=a) (e:=a) d (.inl rfl) (λb q g z=>(hs.2 b g).trans z) f new
def Du(z:kvs.length<=cK)(c:(a==NJ)=cc)(b:KV kvs vs)(dd:h'.DictOf (bh P w) a vs):
  bS P w H' h' a (.dK kvs):=⟨z,c,vs,b,dd⟩
def vc(x:A.units+1<K4)(I:Inv X pins σ H s)(g:u_ H a y v H')(o:RelV y u)(rv:RelV v r)(h:∀s',Inv X pins σ H' s'->Q () s'):
  dV (eh X.prog X.w) A (Tc (.ref a) u r) Q E s:=by
 rcases g with⟨kvs,k,e,j,l,m⟩|⟨kvs,k,b,e,j,p,l,m⟩
 .subst j m;have⟨z,n,vs,d,dd⟩:=wW I.IB e;have hz:vs.length<=cK:=by rw[<-d.length];show z
  have hl:(putK kvs k v).length<=cK:=by have:=jy kvs k v;lia
  show wpAny_setItem_pairs (hsz:=hz) (mK o) dd λh' f hs=>h _ ?_;have B:∃q,h'.get? a=a5 q:=let ⟨q,_,_,i,_⟩:=f;⟨q,i⟩;show tD I (by rw[e];show WH) hs B (Du hl n (d.put k rv) f)
 .subst j m;cases(show u=ko b from o);have⟨z,n,xs,d,dd⟩:=FT I.IB e;have hz:xs.length<=cK:=by rw[<-Paired.length d];show z
  have hl:(putK kvs k v).length<=cK:=by have:=jy kvs k v;lia
  show wpAny_setItem_heap (hsz:=hz) (PN x) (ja I.IB p) dd λh' f hs=>h _ ?_;obtain⟨q,es,ep,i,C,D,G,_,J⟩:=f;show tD I (by rw[e];show WH) hs ⟨q,i⟩ ⟨hl,n,_,(d.put k p rv).keeps λc L t=>?_,q,es,ep,i,C,D,G,J⟩;rw[au (Fq t e (λz=>nomatch z))];show t
end
section
end
abbrev Dv(i:l'):Prop:=∀a b,Xs i cc a b=operate [a,b] (V7 a b)
def Au{T id:String}
  (hl:Qq (.type T) "__getitem__"=pure (a5 (.builtin id))) (hs:Dv a)
  (h:dV (eh prog w) A (vl b env) (λo f=>dV (eh prog w) A (vl a env) (λi d=>d.TypeIs o T/\dV (eh prog w) A (V7 o i) Q E d) E f) E s) :
  dV (eh prog w) A (vl (.Subscript b a pos) env) Q E s:=by
 show Õ (kj h (λo f k=>kj k (λi d e=>?_) λ_ _ x=>x) λ_ _ x=>x);have⟨g,e⟩:=e;unfold Vd;show b6 ?_;rw[getitemInPython_of_ne g.not_modules];show b6 (TJ g hl ?_);have c:dV (eh prog w) A (Xs a cc o i) (λr j=>dV (eh prog w) A (letTemporaryGo b o r >>= λ_=>pure r) Q E j) E d:=by
  rw[hs o i];show wpAny_operating (kj e (λr j l=>b6 (wpAny_letTemporaryGo (c2 l))) λ_ _ x=>x)
 first
  |show c2 (b6 c)
  |show b6 (c2 (b6 c))
  |show b6 c
def pJ(I:Inv X pins σ H s)(g:ft H a y o):s.TypeIs (.ref a) "dict":=by
 rcases g with⟨kvs,k,e,_,_⟩|⟨kvs,k,b,e,_,_,_⟩
 .obtain⟨_,_,vs,_,dd⟩:=kJ I.IB e;show dd.typeIs
 .obtain⟨_,_,xs,_,dd⟩:=kK I.IB e;show dd.typeIs
abbrev FV(c ty:TE):TE:=λσ H Q=>c σ H λx d=>ty σ d λy b=>∃a v,x=.ref a/\ft b a y (a5 v)/\Q v b
abbrev HY(ty c:TE):TE:=λσ H Q=>ty σ H λy d=>c σ d λx b=>∃a o,x=.ref a/\ft b a y o/\Q (.bl o.isSome) b
abbrev Av(ty c:TE):TE:=λσ H Q=>ty σ H λy d=>c σ d λx b=>∃a o,x=.ref a/\ft b a y o/\Q (.bl (!o.isSome)) b
section
def Aw(c:X.A.units+1<K4)(ho:PE X o d)(e:PE X i ty)(hs:Dv i):PE X (.Subscript o i pos) (FV d ty):=by
 intro pins s σ H Q I h;show Au PySem.F.slot_dict_getitem.lookup hs (IG (ho pins s σ H _ I h) λu s1 ⟨x,f,j,k,l⟩=>IG (e pins s1 σ f _ j l) λw s2 m=>?_);have⟨y,n,b,p,a,v,ex,g,q⟩:=m;subst ex;obtain rfl:u=ko a:=k;show⟨pJ b g,vb c b g p λz s3 r t=>⟨v,n,r,t,q⟩⟩
def Dw(b:X.A.units+1<K4)(c:PE X i ty)(ho:PE X o d):PC X .In i o (HY ty d):=by
 intro pins s σ H Q I h;show IG (c pins s σ H _ I h) λv s1 ⟨y,e,f,j,k⟩=>IG (ho pins s1 σ e _ f k) λu s2 l=>?_;have⟨x,m,n,p,a,q,ex,g,r⟩:=l;subst ex;obtain rfl:u=ko a:=p;show FU b n g j λs3 t=>⟨.bl q.isSome,m,t,rfl,r⟩
def vd(b:X.A.units+1<K4)(c:PE X i ty)(ho:PE X o d):PC X .NotIn i o (Av ty d):=by
 intro pins s σ H Q I h;show IG (c pins s σ H _ I h) λv s1 ⟨y,e,f,j,k⟩=>IG (ho pins s1 σ e _ f k) λu s2 l=>?_;have⟨x,m,n,p,a,q,ex,g,r⟩:=l;subst ex;obtain rfl:u=ko a:=p;show tw b n g j λs3 t=>⟨.bl (!q.isSome),m,t,rfl,r⟩
end
def wX(h:Jl)(a:NJ<h.objs.size):bS P w H (h.push {cls:=.type "dict",data:=.dict #[]}) h.objs.size (.dK []) :=
 ⟨i7 _,ģ.mpr (ri (hH a)),[],.nil,Ė h⟩
abbrev Dx:TE:=λ_ H Q=>∀p,H p=b8->Q (.ref p) (upd H p (.dK []))
section
def pK:PE X (.Dict [] [] pos) Dx:=λpins s σ H Q I h =>
 wpAny_Dict_empty ⟨.ref s.heap.objs.size,_,I.laid (a:=s.heap.objs.size) (o:=.dK []) (t':=s.toks) (λ_ _ q=>cL _ q) (gj _) (wX s.heap I.big),rfl,h _ (I.IB.fresh (gj _))⟩
end
structure M2(X:Cx)(o:l')(m:Str)(apos:Pos)(e f:l')(G':Pos):Prop where
 base:Su o m X.env (vl o X.env)=vl o X.env
 MP:((x3 G' (gs [e,f] X.env)).all (λx=>!x.1)&&(PH G' (Lq [] X.env)).all (λx=>x.1.isSome)
  && cn (([e,f]:List l').length+([]:List MA).length+(if ([]:List MA).isEmpty then 0 else 1)<30))=bD
 line:(apos.endLine==G'.line)=bD
 trees:x3 G' (gs [e,f] X.env)=[(cc,vl e X.env),(cc,vl f X.env)]
abbrev Uv(H:Hp)(a:d7):Prop:=(∃kvs,Rd H a (.dK kvs))\/∃kvs,Rd H a (.dT kvs)
def Dy(I:Inv X pins σ H s)(d:Uv H a):
  s.TypeIs (.ref a) "dict"/\(∀b,ko a=.ref b->∃c,s.heap.get? b=a5 c/\c.dict=b8)/\(a==NJ)=cc:=by
 rcases d with⟨kvs,e⟩|⟨kvs,e⟩
 .obtain⟨_,f,vs,_,dd⟩:=kJ I.IB e;show⟨dd.typeIs,λb q=>?_,f⟩;cases q;obtain⟨c,_,_,g,h,_⟩:=dd;show⟨c,g,h.2.1⟩
 .obtain⟨_,f,xs,_,dd⟩:=kK I.IB e;show⟨dd.typeIs,λb q=>?_,f⟩;cases q;obtain⟨c,_,_,g,h,_⟩:=dd;show⟨c,g,h.2.1⟩
section
def Dz(p:A.units+1<K4)(I:Inv X pins σ H s)(g:ft H a y o)(j:RelV y u)(m:RelV d r)(h:∀n s',Inv X pins σ H s'->RelV (o.getD d) n->Q n s'):
  dV (eh X.prog X.w) A (NQ (.builtin "dict.get") [.ref a,u,r]) Q E s:=by
 rcases g with⟨kvs,k,e,f,l⟩|⟨kvs,k,b,e,f,q,l⟩
 .subst f;have⟨z,i,vs,c,dd⟩:=kJ I.IB e;show ZC PySem.F.slot_dict_get dd.typeIs PySem.F.entry_dict_get (PySem.F.args_dict_get_3 _ _ _) (meets_dict_get_default (bh X.prog X.w) a (mK j) i r) ⟨_,dd.mapOf,h _ _ (I.tok _) ?_⟩;rw[l];show(c.val k).getD m
 .subst f;cases(show u=ko b from j);have⟨z,i,xs,c,dd⟩:=kK I.IB e;show ZC PySem.F.slot_dict_get dd.typeIs PySem.F.entry_dict_get (PySem.F.args_dict_get_3 _ _ _) (meetsH_dict_get_default (UT (bh X.prog X.w)) a b i r) ⟨PN p,k,xs,ja I.IB q,dd,h _ _ (I.tok _) ?_⟩;rw[l];show(c.val k).getD m
end
abbrev DA(d ty e:TE):TE:=λσ H Q=>d σ H λx b=>∃a,x=.ref a/\Uv b a/\ty σ b λy f=>e σ f λz c=>∃o,ft c a y o/\Q (o.getD z) c
section
def wY(i:X.A.units+1<K4)(ho:PE X o j)(k:PE X e ty)(l:PE X f n)(m:M2 X o "get" b e f p):PE X (.Call (.Attribute o "get" b) [e,f] [] p) (DA j ty n):=by
 intro pins s σ H Q I h;show wpAny_Call_method m.base m.MP m.line PySem.F.plainAttrs_dict PySem.F.slot_dict_get PySem.F.type_dict_get (IG (ho pins s σ H _ I h) λu s1 q=>?_);have⟨x,r,c,t,a,ex,d,v⟩:=q;subst ex;obtain rfl:u=ko a:=t;obtain⟨w,B,_⟩:=Dy c d;show⟨w,B,?_⟩;rw[m.trees];show Kg rfl (Lz (K5 (IG (k pins s1 σ r _ c v) λiv s2 ⟨y,C,D,G,J⟩ =>
  K5 (IG (l pins s2 σ C _ D J) λfv s3 ⟨z,L,N,O,ov,g,T⟩=>NH ?_))))
 show Dz i N g G O λw' s4 Y Lc=>⟨_,L,Y,Lc,T⟩
end
section
end
section
end
end L2
namespace Jc
open PySem PySem.Builtin.Str PySem.StrLaws
abbrev wZ(i:Int):Str:=Q2 (SU i)
def app_list(x y:Str):(x++y).cps.toList=x.cps.toList++y.cps.toList:=by
 change(x.cps++y.cps).toList=_;simp
end Jc
namespace L2
open PySem PySem.Spec PyProof.Rows
abbrev bH(env:Env):List (Str×O6)->List (Str×d7)->List (Str×d7)
 |[],b=>b
 |(n,k)::r,b=>bH env r (if k==.free then(match env.cells.lookup n with|some a=>(n,a)::b|none=>b) else b)
def eY(h:∀y∈scope.names,y.2=.free->∃a,env.cells.lookup y.1=a5 a):closureFor scope env=pure (bH env scope.names []):=by
 unfold closureFor;generalize scope.names=names at h
 suffices H:∀b,(í names b (λ(x:Str×O6) (r:List (Str×d7))=>if (x.2==Mx)=bD then do let a <-cellOf env x.1;pure (Ow ((x.1,a)::r)) else pure (Ow r)):Sem (List (Str×d7)))=pure (bH env names b) by
  have:=H [];show Ģ (λ(m:Sem (List (Str×d7)))=>m >>= pure) this
 induction names with
 |nil=>intro b;rfl
 |cons y r d =>
  intro b;have⟨n,k⟩:=y;rw[VM];have c:=d λy e=>h y (kr _ e);by_cases hk:(k==Mx)=bD
  .have⟨a,f⟩:=h (n,k) mu (by simpa using hk);have g:env.cells.lookup n=a5 a:=f;simp only[hk,if_true,cellOf,g,bH];show c _
  .simp only[hk,if_false,bH];show c _
theorem fu:∀(names:List (Str×O6)) (b:List (Str×d7)),(∀n c,b.lookup n=a5 c->env.cells.lookup n=a5 c)->∀n c,(bH env names b).lookup n=a5 c->env.cells.lookup n=a5 c
 |[],_,h=>h
 |(m,k)::r,b,h=>by
  unfold bH;show fu r _ λn c e=>?_;by_cases hk:(k==Mx)=bD
  .rw[ĝ hk]at e;cases q:env.cells.lookup m with
   |none=>rw[q]at e;show h n c e
   |some a =>
    rw[q]at e;simp only[so]at e;cases d:n==m with
    |true =>
     rw[d]at e;have f:n=m:=by simpa using d
     subst f;simp only at e;rw[q];show e
    |false=>rw[d]at e;show h n c e
  .rw[Ğ hk]at e;show h n c e
theorem jz(d:env.cells.lookup n=a5 a):∀(names:List (Str×O6)) (c:List (Str×d7)),c.lookup n=a5 a->(bH env names c).lookup n=a5 a
 |[],_,h=>h
 |(m,k)::r,c,h=>by
  unfold bH;show jz d r _ ?_;by_cases hk:(k==Mx)=bD
  .rw[ĝ hk];cases q:env.cells.lookup m with
   |none=>show h
   |some b =>
    simp only[so];cases e:n==m with
    |true =>
     have f:n=m:=by simpa using e
     subst f;rw[d]at q;cases q;rfl
    |false=>show h
  .rw[Ğ hk];show h
theorem gV(b:env.cells.lookup n=a5 a):∀(names:List (Str×O6)) (c:List (Str×d7)),(n,Mx)∈names->(bH env names c).lookup n=a5 a
 |[],_,h=>by cases h
 |(m,k)::r,c,h=>by
  unfold bH;rcases d3.mp h with e|e
  .cases e;show jz b r _ ?_;rw[ĝ (by decide),b];simp[so]
  .show gV b r _ e
theorem bV{env:Env}:∀{names:List (Str×O6)}{x:Str}{k:O6},
  (names.map λ(n,k)=>if (k==Mx&&env.scope.kind==.function&&env.kindOf n==a5 .cell) then(n,NameKind.cell) else(n,k)).lookup x=a5 k ->
  names.lookup x=a5 k\/(k=.cell/\names.lookup x=a5 .free)
 |[],_,_,h=>by simp at h
 |(n,k0)::r,x,k,h=>by
  have e:=@bV env r x k;rw[d8]at h;by_cases b:(k0==Mx&&env.scope.kind==.function&&env.kindOf n==a5 .cell)=bD
  .simp only[ĝ b,so]at h;cases a:x==n with
   |true =>
    rw[a]at h;have f:k0=.free:=by
     have:=(x2.mp (x2.mp b).1).1;simpa using this
    show .inr ⟨by simpa using h.symm,by simp[so,a,f]⟩
   |false =>
    rw[a]at h;rcases e h with z|⟨c,d⟩
    .show .inl (by simp[so,a,z])
    .show .inr ⟨c,by simp[so,a,d]⟩
  .simp only[Ğ b,so]at h;cases a:x==n with
   |true=>rw[a]at h;show .inl (by simpa[so,a] using h)
   |false =>
    rw[a]at h;rcases e h with z|⟨c,d⟩
    .show .inl (by simp[so,a,z])
    .show .inr ⟨c,by simp[so,a,d]⟩
abbrev JM(X:Cx)(N:List Str)(scope:LY)(C:d7)(s:d4)(H:Hp)(ex:List d7):Cx where
 prog:=X.prog
 w:=X.w
 K:=X.K
 mg:=X.mg
 base:=X.base
 A:=X.A
 N:=N
 s₀:=s
 H₀:=H
 env:=V_ scope (bH X.env scope.names []) C X.env
 outer:=X.stack
 stack:=X.stack
 ex:=ex
 fn:=λ_=>cc
 calm:=X.calm
 pn:=[]
 xe:=λ_ _=>False
abbrev eQ(D N:List Str):Prop:=D.length=N.length/\∀(i:Nat) (y:Str),D[i]?=a5 y->N[i]?=a5 y\/y="."\/y=".."
def eQ.refl(N:List Str):eQ N N:=⟨rfl,λ_ _ h=>.inl h⟩
def eQ.set{D N:List Str}(h:eQ D N)(j:Nat){m:Str}(b:m="."\/m=".."):eQ (D.set j m) N:=by
 show⟨by rw[Ã];show h.1,λi y e=>?_⟩;by_cases a:j=i
 .subst a;rw[List.getElem?_set,ĝ rfl]at e;split at e
  .cases e;show .inr b
  .cases e
 .rw[hQ a]at e;show h.2 i y e
structure eR(X:Cx)(N own:List Str)(scope:LY):Prop where
 kind:scope.kind=.function
 Le:∀y∈scope.names,y.2≠.cell
 names:∀y∈scope.names,y.2=.local->scope.names.lookup y.1=a5 .local
 nd:N.Nodup
 pre:N.take own.length=own
 loc:∀y∈scope.names,y.2=.local->y.1∈own\/y.1=".0"
 V':(".0":Str)∉N
 tail:eQ (N.drop own.length) X.N
 free:∀y∈scope.names,y.2=.free->X.env.scope.names.lookup y.1=a5 .cell\/X.env.scope.names.lookup y.1=a5 .free
 dot:∀y∈scope.names,y.1≠"."/\y.1≠".."
def mem_lookup{names:List (Str×O6)}(h:names.lookup x=a5 k):(x,k)∈names:=PySem.mem_of_lookup h
def eR.cells(S:eR X N c scope)(b:X.Ok):∀y∈scope.names,y.2=.free->∃a,X.env.cells.lookup y.1=a5 a:=λy d e=>by
 rcases S.free y d e with z|z
 .show b.has y.1 (.inl z)
 .show b.has y.1 (.inr z)
def w9(S:eR X N d scope)(I:Inv X pins σ H s)
  (D:s.heap.objs.size<=C) (Sa:s4.os=s.os) (hg:s4.gens=s.gens) (keep:∀b o,s.heap.get? b=a5 o->s4.heap.get? b=a5 o) (ns:∃m,s4.heap.Ns C m)
  (f:∀b∈ex,ir X pins H b/\b<s.heap.objs.size):Inv (JM X N scope C s H ex) [] (i3 d.length b8++σ) H s4:=by
 have⟨m0,QE⟩:=ns;have sub:=fu (env:=X.env) scope.names [] (λn c e=>by simp at e);have Sb:∀b∈ex,b<C:=λb g=>i2 (f b g).2 D;have tl:d.length<=N.length:=by have:=Ģ K1 S.pre;rw[vu]at this;lia
 show⟨⟨I.ok.mod,?_,I.ok.glob,I.ok.blt,D,λx y c A w=>I.ok.inj x y c (sub x c A) (sub y c w),λx hx=>?_,λx c h _=>absurd (show cc=bD from h) (by decide),I.ok.hd,I.ok.frames,.inl rfl,λb g=>⟨hH (Sb b g),λx c e=>?_⟩,λb o e=>I.bs b o e,?_,λb o e g=>?_,λb g=>?_,I.stack,I.j5⟩,
  Sa,(by rw[hg];show I.bare),Un.kept keep,⟨m0,QE,λi y v A w h3=>?_⟩,λx c e=>?_,I.IB.fresh D,λx c e=>I.Ja x c (sub x c e),λp hp=>absurd (show p∈([]:List (d7×Obj)) from hp) (by simp),I.IB.kept keep,?_⟩
 .change(Tf scope X.env).kind=.function;show S.kind
 .
  have Sd:(Tf scope X.env).names.lookup x=a5 .cell\/(Tf scope X.env).names.lookup x=a5 .free:=hx;have t:scope.names.lookup x=a5 .free:=by
   rcases Sd with z|z
   .rcases bV z with q|⟨_,q⟩
    .show absurd rfl (S.Le _ (mem_lookup q))
    .show q
   .rcases bV z with q|⟨q,_⟩
    .show q
    .cases q
  have⟨a,ha⟩:=S.cells I.ok (x,.free) (mem_lookup t) rfl;show⟨a,gV ha scope.names [] (mem_lookup t)⟩
 .show(f b g).1.2.2.2.2.1 x c (sub x c e)
 .show wh I.ok.MM I.sz
 .have⟨f0,L,O,Q,f4,f5⟩:=(f b g).1;rcases Q with z|z
  .show I.ok.LD b o e z
  .show absurd (i2 (d6 e) (wh I.ok.MM z)) (uk _)
 .intro Kc;have⟨f0,L,O,Q,f4,f5⟩:=(f b g).1;rcases d3.mp (I.kA b Kc) with z|z
  .show L z
  .show O z
 .
  have G:d.length<=i:=by
   by_cases G:i<d.length
   .rw[uv (by simpa using G),J8]at w;split at w<;>cases w
   .lia
  rw[nc (by simpa using G),P5]at w;have Wa:(N.drop d.length)[i - d.length]?=a5 y:=by
   rw[Lh];have e:d.length+(i - d.length)=i:=by lia
   rw[e];show A
  have T:(Tf scope X.env).names.lookup y=a5 .local\/(Tf scope X.env).names.lookup y=a5 .cell\/(Tf scope X.env).names.lookup y=a5 .free:=h3;have t:scope.names.lookup y=a5 .free:=by
   rcases T with z|z|z
   .rcases bV z with q|⟨q,_⟩
    .exfalso
     have Ku:y∈d:=by
      rcases S.loc (y,.local) (mem_lookup q) rfl with z|z
      .show z
      .have z':y=".0":=z;show absurd (my A) (by rw[z'];show S.V')
     have⟨j,Y,ej⟩:=QC Ku;have Ls:N[j]?=a5 y:=by
      have e1:(N.take d.length)[j]?=a5 y:=by rw[S.pre,sL Y,ej]
      rw[XH Y]at e1;show e1
     have:=ij S.nd Ls A;lia
    .cases q
   .rcases bV z with q|⟨_,q⟩
    .show absurd rfl (S.Le _ (mem_lookup q))
    .show q
   .rcases bV z with q|⟨q,_⟩
    .show q
    .cases q
  have hX:X.N[i - d.length]?=a5 y:=by
   rcases S.tail.2 _ _ Wa with e|e|e
   .show e
   .show absurd e (S.dot _ (mem_lookup t)).1
   .show absurd e (S.dot _ (mem_lookup t)).2
  have⟨m,hn,hl⟩:=I.loc;have hv:X.env.scope.names.lookup y=a5 .cell\/X.env.scope.names.lookup y=a5 .free:=S.free (y,.free) (mem_lookup t) rfl;have⟨u,r,l⟩:=hl _ y v hX w (.inr hv);show⟨u,r,?_⟩;rcases l with⟨k,_⟩|⟨k,c,e,z⟩
  .have k':X.env.scope.names.lookup y=a5 .local:=k;rcases hv with q|q<;>(rw[k']at q;cases q)
  .have hk:(Tf scope X.env).names.lookup y=a5 .cell\/(Tf scope X.env).names.lookup y=a5 .free:=by
    rcases T with q|q|q
    .rcases bV q with B|⟨B,_⟩
     .rw[t]at B;cases B
     .cases B
    .show .inl q
    .show .inr q
   have⟨o,ho,J⟩:=z;show .inr ⟨hk,c,gV e scope.names [] (mem_lookup t),o,keep c o ho,J⟩
 .have⟨v,o,ho,J⟩:=I.cell x c (sub x c e);show⟨v,o,keep c o ho,J⟩
 .rw[ia,P5,I.len];have e:N.length=d.length+(N.drop d.length).length:=by rw[R7];lia
  change _=N.length;rw[e,S.tail.1]
def pL(I:Inv X pins σ H s)
  (d:Inv (JM X N scope C s H ex) T Y j s4) (t:s.heap.objs.size<=D) (w:s.heap.objs.size<=C) (x:D≠C) (g:j D=b8) (rv:Vals l m) (y:s4.heap.PlainList D m.toArray) (hl:l.length<=cK)
  (h:mA C s4.heap h') (k:∀b∈ex,ir X pins H b):Inv X pins σ (upd j D (.lst l)) {s4 with heap:=h' }:=by
 have p:j C=b8:=d.free;have lt:∀{b:d7} {o:Obj},s.heap.get? b=a5 o->b≠C/\b≠D:=λe=>⟨hH (i2 (d6 e) w),hH (i2 (d6 e) t)⟩
 show I.Ci (s':={s4 with heap:=h' }) (ch:=ex) d.os ⟨λb o e n i f=>?_,λb o e n i f=>?_,λb o e n f=>?_,λb o e f=>?_,λb xs e=>?_,λb o u e=>?_,λb ps e=>?_⟩ (λa o e=>?_) d.bare λb i=>?_
 .show(h.2 b (lt e).1).trans (d.base.keep b o e n i f)
 .have⟨A,q⟩:=d.base.slot b o e n i f;show⟨A,(h.2 b (lt e).1).trans q⟩
 .rw[au (lt e).2];show d.base.free b o e n f
 .have⟨B,q⟩:=d.base.there b o e f;show⟨B,(h.2 b (lt e).1).trans q⟩
 .have q:=d.base.fW b xs e;rw[au (bz q g)];show q
 .have q:=d.base.JF b o u e;rw[au (bz q g)];show q
 .have⟨more,q⟩:=d.base.JL b ps e;show⟨more,by rw[au (bz q g)];show q⟩
 .by_cases r:a=D
  .subst r;rw[ay]at e;cases e;have⟨n,q⟩:=y;show⟨hl,m,n,rv,(h.2 _ x).trans q⟩
  .rw[au r]at e;show(d.IB a o e).fP (λc v G q=>(h.2 c ?_).trans q) (λc q=>?_) λc xs q=>?_
   .rintro rfl;rcases G with z|z
    .rw[<-z,p]at e;cases e
    .rw[p]at z;cases z
   .rw[au (bz q g)];show q
   .rw[au (bz q g)];show q
 .have⟨f0,J,f2,L,O,Q⟩:=k b i;show⟨L,J,O,Q⟩
section
def oj(I:Nat->d4->Prop)
  (b:∀n s,I n s->dV (eh prog w) A (Tg it) (λr d=>match r with
   |none=>R (.ok .next) d
   |some v=>dV (eh prog w) A (T1 a it v) (λ_ d=>dV (eh prog w) A (RY a env v) (λ_ j =>
     dV (eh prog w) A (í f bD λc r=>if r=bD then do let ok <-isTrue c env (vl c env);pure (Ow ok) else pure (Ow r)) (λok i =>
      if ok=bD then dV (eh prog w) A (vl elt env) (λx k =>
       dV (eh prog w) A (NQ (.builtin "list.append") [acc,x]) (λ_ l=>∃m,m<n/\I m l) (Tj (eh prog w) A env λe s'=>R (.error e) s') k) (Tj (eh prog w) A env λe s'=>R (.error e) s') i
      else ∃m,m<n/\I m i) (Tj (eh prog w) A env λe s'=>R (.error e) s') j) (Tj (eh prog w) A env λe s'=>R (.error e) s') d) (Tj (eh prog w) A env λe s'=>R (.error e) s') d) (Tj (eh prog w) A env λe s'=>R (.error e) s') s)
  (n:Nat) (h:I n s) :
  P' (eh prog w) A (.compLoop (.ListComp elt [⟨a,g,f,0⟩] scope pos) 0 it acc env) R s:=by
 show codeAny_loop rfl I (λn s q=>?_) n h;change dV _ A ((compTurn (.ListComp elt [⟨a,g,f,0⟩] scope pos) 0 it acc env).onRaise (λx=>do noteFrame x env;theTreesLotGoes x)) _ _ s;show wpAny_noted ?_;rw[compTurn_list];show b6 (YT (b6 (kj (b n s q) (λr d o=>?_) λ_ _ h'=>h')));cases r with
 |none=>show c2 o
 |some v =>
  show b6 (kj o (λ_ B t=>?_) λ_ _ h'=>h');show b6 (kj t (λ_ j u=>b6 (kj u (λok i p=>?_) λ_ _ h'=>h')) λ_ _ h'=>h');cases ok with
  |false=>show c2 ⟨rfl,p⟩
  |true =>
   show b6 (b6 (kj p (λx k y=>b6 (kj y (λ_ l z=>c2 (c2 ⟨rfl,z⟩)) λ_ _ h'=>h')) λ_ _ h'=>h'))
end
abbrev MQ(X:Cx)(a:List l')(t:TT):Prop :=
 ∀(pins:List (d7×Obj)) (s:d4) (σ:St) (H:Hp) (Q:Bool->Hp->Prop),Inv X pins σ H s->t σ H Q ->
  dV (eh X.prog X.w) X.A (í a bD λc r=>if r=bD then do let b <-isTrue c X.env (vl c X.env);pure (Ow b) else pure (Ow r)) (TP X pins σ Q) X.xe s
abbrev HZ:TT:=λ_ H Q=>Q bD H
def tE:MQ X [] HZ:=λ_ _ _ H _ I h=>wpAny_tests_nil ⟨H,I,h⟩
def tF(h:PT X c t):MQ X [c] t:=λpins s σ H Q I q=>wpAny_tests_one (h pins s σ H Q I q)
abbrev tH(k:Nat)(J:It)(g:TG)(l:TT)(n:TE)(Q:VK)(σ:St)(o:Hp):Prop :=
  ∃W:Nat->Nat->List V->Hp->Prop,(∃m,W 0 m [] o)/\∀i m a H,W i m a H->a.length<=cK /\
    ((J.stop i H/\∀p,H p=b8->Q (.ref p) (upd H p (.lst a))) \/
     (J.go i H/\∃d:List V->Hp->Prop,(∀f H',d f H'->∃h,h<m/\W (i+1) h f H')/\∀x H',J.Qx i H x H'->g x (i3 k b8++σ) H' λe q=>∃c:St,c.length=k/\e=c++σ /\
        l e q λb j=>if b=bD then n e j λy r=>d (a++[y]) r else d a j))
abbrev w_(k:Nat)(a:TI)(g:TG)(b:TT)(c:TE):TE:=λσ H Q=>a σ H λJ d=>tH k J g b c Q σ d
section
def xb
  (S:eR X N B scope) (hc:X.calm=bD) (hg:∀C s H ex,PG (JM X N scope C s H ex) tg g) (hf:∀C s H ex,MQ (JM X N scope C s H ex) al tt) (he:∀C s H ex,PE (JM X N scope C s H ex) elt te)
  (I:Inv X pins σ H s) (T:Turn X.prog X.w X.K tg J G it tn) (st:tn 0 s.heap) (f2:∀b∈G,ir X pins H b) (W:tH B.length J g tt te Q σ H)
  (hD:@Eq Nat D s.heap.objs.size) (hC:@Eq Nat C (s.heap.objs.size+1)) (Sa:s4.os=s.os) (Wc:s4.gens=s.gens) (keep:∀b o,s.heap.get? b=a5 o->s4.heap.get? b=a5 o) (ns:∃m,s4.heap.Ns C m) (pl:s4.heap.PlainList D #[])
  (am:∀s5 Y O k,Inv (JM X N scope C s H G) [] (i3 B.length b8++σ) Y s5->Y D=b8->Vals O k->s5.heap.PlainList D k.toArray->O.length<=cK->(∀p,Y p=b8->Q (.ref p) (upd Y p (.lst O)))->R (.ok .next) s5) :
  P' (eh X.prog X.w) X.A (.compStart (.ListComp elt [⟨tg,an,al,0⟩] scope pos) 0 (.ref it) (.ref D) (V_ scope (bH X.env scope.names []) C X.env)) R s4:=by
 have MR:∀b∈G,@Qj Nat _ b s.heap.objs.size:=λb h=>by
  obtain⟨o,e,_⟩:=T.obj 0 s.heap st b h;show d6 e
 have I4:Inv (JM X N scope C s H G) [] (i3 B.length b8++σ) H s4:=w9 S I ⋯ Sa Wc keep ns λb h=>⟨f2 b h,MR b h⟩
 have Nd:tn 0 s4.heap:=T.keep 0 s.heap s4.heap st λb _ o e=>keep b o e;have nD:H D=b8:=I.IB.fresh ⋯;obtain⟨W,⟨m0,w0⟩,Z2⟩:=W;generalize l:JM X N scope C s H G=f at I4 am;have eP:f.prog=X.prog:=by rw[<-l];rfl
 have ew:f.w=X.w:=by rw[<-l];rfl
 have eK:f.K=X.K:=by rw[<-l];rfl
 have ec:f.calm=bD:=by rw[<-l];show hc
 have eA:f.A=X.A:=by rw[<-l];rfl
 have ee:f.env=V_ scope (bH X.env scope.names []) C X.env:=by rw[<-l];rfl
 have Sf:f.xe=λ_ _=>False:=by rw[<-l];rfl
 have el:f.env.locals=C:=by rw[ee];rfl
 have Sg:PG f tg g:=by rw[<-l];show hg _ _ _ _
 have Ph:MQ f al tt:=by rw[<-l];show hf _ _ _ _
 have Sh:PE f elt te:=by rw[<-l];show he _ _ _ _
 have s0:f.s₀=s:=by rw[<-l];rfl
 have Pj:f.pn=[]:=by rw[<-l];rfl
 have Si:∀{H':Hp} {o:Obj},(∀b∈G,H' b=b8)->∀b∈G,ir f [(D,o)] H' b:=λ{H' o} hn b h=>by
  have ex:f.ex=G:=by rw[<-l];rfl
  show⟨hn b h,?_,?_,.inl (by rw[ex];show h),λx c e=>?_,λp L=>?_⟩
  .rw[el];have:=MR b h;show hH (by change @Qj Nat _ b C;lia)
  .have e1:f.fs=Jr X.stack:=by rw[<-l];rfl
   rw[e1];intro z;have⟨f0,f1,Wd,f3,f4,f5⟩:=f2 b h;rcases d3.mp (I.kA b z) with q|q
   .show f1 q
   .show Wd q
  .have e1:f.env.cells=bH X.env scope.names []:=by rw[ee];rfl
   rw[e1]at e;show(f2 b h).2.2.2.2.1 x c (fu scope.names [] (λn c e=>by simp at e) x c e)
  .rw[Pj,i8]at L;have:p=(D,o):=by simpa using L
   subst this;have:=MR b h;show KX (by change @Qj Nat _ b D;lia)
 have Sj:∀{σ':St} {H':Hp} {s':d4} {o:Obj},Inv f [] σ' H' s'->H' D=b8->s'.heap.get? D=a5 o->(∀v,o.data≠.cell v)->Inv f [(D,o)] σ' H' s':=λ{σ' H' s' o} I' n e d =>
  I'.eF λp L=>by
   have:p=(D,o):=by simpa using L
   subst this;show⟨e,n,?_,?_,d⟩
   .rw[el];show hH (by change @Qj Nat _ D C;lia)
   .have e1:f.fs=Jr X.stack:=by rw[<-l];rfl
    rw[e1];intro z;have zz:(D:d7)∈Jr X.stack:=z;rcases d3.mp (I.kA D zz) with q|q
    .have:=I.lt;rw[<-q]at this;show absurd this (by change ¬@Qj Nat _ D s.heap.objs.size;lia)
    .show I.CW (a:=D) ⋯ q
 have start:∀s':d4,s'=s4->P' (eh X.prog X.w) X.A (.compLoop (.ListComp elt [⟨tg,an,al,0⟩] scope pos) 0 (.ref it) (.ref D) (V_ scope (bH X.env scope.names []) C X.env)) R s':=by
  rintro s' rfl;show oj (λn s'=>∃i O k H',Inv f [] (i3 B.length b8++σ) H' s'/\tn i s'.heap/\(∀b∈G,H' b=b8)/\H' D=b8/\Vals O k/\s'.heap.PlainList D k.toArray/\W i n O H') ?_ m0
   ⟨0,[],[],H,I4,Nd,λb h=>(f2 b h).1,nD,.nil,pl,w0⟩
  rintro n s3 ⟨i,O,k,H3,I3,Ji,O_,Ux,QF,⟨nn,We⟩,w3⟩;have⟨ab,Lu⟩:=Z2 i n O H3 w3;have IP:=Sj I3 Ux We (λv z=>by have z':Data.seq _ _=ZW v:=z;cases z');rcases Lu with⟨ap,qn⟩|⟨go,NN,Uy,ar⟩
  .have d:=T.done f eP ew eK ec i _ s3 _ H3 (Tj (eh X.prog X.w) X.A (V_ scope (bH X.env scope.names []) C X.env) λe s'=>R (.error e) s') IP (Si O_) Ji ap;rw[eA]at d;show IG d λr s4 Sk=>?_;have⟨hr,I5⟩:=Sk;subst hr;have e5:=(I5.pin (D,({cls:=.type "list",data:=.seq k.toArray nn}:Obj)) (by rw[Pj];simp)).1;show am s4 H3 O k (I5.eF λp L=>by cases L) Ux QF ⟨nn,e5⟩ ab qn
  .have d:=T.item f eP ew eK ec i _ s3 _ H3 (Tj (eh X.prog X.w) X.A (V_ scope (bH X.env scope.names []) C X.env) λe s'=>R (.error e) s') IP (Si O_) Ji go;rw[eA]at d;show IG d λr s4 Sl=>?_;have⟨u,hr,h4⟩:=Sl;subst hr;show IG h4 λ_ s5 Sm=>?_;have⟨x,Y,I5,r5,y5,LV,RL⟩:=Sm;have YY:Y D=b8:=(I5.pin (D,({cls:=.type "list",data:=.seq k.toArray nn}:Obj)) (by rw[Pj];simp)).2.1;have RM:=I5.pinned (Si RL) (T.obj _ _ LV);have a6:=Sg _ s5 _ Y x u _ RM r5 (ar x Y y5);rw[eP,ew,eA,ee,Sf]at a6;show kj a6 (λ_ s6 ⟨σ6,H6,I6,q6⟩=>?_) λ_ _ z=>My z;have⟨ow,as,rfl,q6⟩:=q6;have a7:=Ph _ s6 _ H6 _ I6 q6;rw[eP,ew,eA,ee,Sf]at a7;show kj a7 (λb s7 ⟨H7,I7,q7⟩=>?_) λ_ _ z=>My z;have ac:∀{s8:d4} {t:Hp} {Kv:List V} {its':List df} {nn':Nat},Inv f [] (ow++σ) t s8->tn (i+1) s8.heap->(∀b∈G,t b=b8)->t D=b8->Vals Kv its'->s8.heap.PlainList D its'.toArray->(∃m',m'<n/\W (i+1) m' Kv t) ->
     ∃m,m<n/\∃i O k H',Inv f [] (i3 B.length b8++σ) H' s8/\tn i s8.heap/\(∀b∈G,H' b=b8)/\H' D=b8/\Vals O k/\s8.heap.PlainList D k.toArray/\W i m O H':=λ{s8 t Kv its' nn'} I8 Wf Wg n8 Wh Wi w8=>by
    have⟨m',hm,w8⟩:=w8;show⟨m',hm,i+1,Kv,its',t,I8.weak (by simp[as]) (λj v e=>?_),Wf,Wg,n8,Wh,Wi,w8⟩;by_cases hj:j<B.length
    .rw[uv (by simpa using hj),J8]at e;split at e<;>cases e
    .rw[nc (by simpa using(Nat.not_lt.mp hj)),P5]at e;rw[nc ⋯,as];show e
   have ag:∀{σ':St} {t:Hp} {s8:d4},Inv f ([(D,({cls:=.type "list",data:=.seq k.toArray nn}:Obj))]++kB G s5.heap) σ' t s8->s8.heap.get? D=a5 {cls:=.type "list",data:=.seq k.toArray nn}/\t D=b8/\tn (i+1) s8.heap/\∀b∈G,t b=b8:=λ{σ' t s8} I8=>by
    have p1:=I8.pin (D,({cls:=.type "list",data:=.seq k.toArray nn}:Obj)) (by rw[Pj];simp);show⟨p1.1,p1.2.1,T.keep _ _ _ LV λb h o e=>(I8.pin (b,o) (lg _ (lg _ (fm h e)))).1,λb h=>?_⟩;have⟨o,e,d⟩:=T.obj _ _ LV b h;show(I8.pin (b,o) (lg _ (lg _ (fm h e)))).2.1
   cases b with
   |false =>
    rw[Ğ i1]at q7 ⊢;have⟨p1,p2,p3,p4⟩:=ag I7;show ac (nn':=0) (I7.eF λp L=>by cases L) p3 p4 p2 QF ⟨nn,p1⟩ (Uy _ _ q7)
   |true =>
    rw[ĝ rfl]at q7 ⊢;have a8:=Sh _ s7 _ H7 _ I7 q7;rw[eP,ew,eA,ee,Sf]at a8;show kj a8 (λy s8 ⟨yv,t,I8,r8,q8⟩=>?_) λ_ _ z=>My z;have⟨p1,p2,p3,p4⟩:=ag I8;have hsz:k.toArray.size<=cK:=by rw[ei,<-QF.length];show ab
    show wpAny_list_append_plain (hsz:=hsz) ⟨nn,p1⟩ λh9 Wj Uz=>?_;have Wk:Inv f [] (ow++σ) t s8:=I8.eF λp L=>by cases L
    have QG:∀x c,f.env.cells.lookup x=a5 c->c≠D:=λx c e=>by
     have e1:f.env.cells=bH X.env scope.names []:=by rw[ee];rfl
     rw[e1]at e;have q:=fu scope.names [] (λn c e=>by simp at e) x c e;have⟨v,z⟩:=I.cell x c q;have:@Qj Nat _ c s.heap.objs.size:=z.lt;show hH (by change @Qj Nat _ c D;lia)
    have I9:Inv f [] (ow++σ) t {s8 with heap:=h9,toks:=s8.toks}:=Wk.turned (it:=D) (λb o h e=>(Uz.2 b h).trans e) p2 (by rw[el];show hH (by change @Qj Nat _ D C;lia)) (.inr (by rw[s0];change @ì Nat _ s.heap.objs.size D;lia)) QG (λp L=>by rw[Pj]at L;cases L);have Wl:(k++[y]).toArray=k.toArray.push y:=by simp
    show ac (nn':=0) (s8:={s8 with heap:=h9,toks:=s8.toks}) I9 (T.keep _ _ _ p3 λb h o e=>(Uz.2 b ?_).trans e) p4 p2 (QF.append (.cons r8 .nil)) (by rw[Wl];show Wj) (Uy _ _ q8);have:=MR b h;show hH (by change @Qj Nat _ b D;lia)
 show codeAny_compStart_list (start _ rfl) (T.self _ _ _ _ _ Nd (start _ rfl))
def kL{RR:df->d7->Result->d4->Prop}
    (S:eR X N d scope) (G:X.calm=bD) (L:∀C s H ex,PG (JM X N scope C s H ex) v g) (O:∀C s H ex,MQ (JM X N scope C s H ex) l Y) (he:∀C s H ex,PE (JM X N scope C s H ex) elt te)
 (I:Inv X pins σ H s) (T:Turn X.prog X.w X.K v J x it tn) (st:tn 0 s.heap) (f2:∀b∈x,ir X pins H b) (W:tH d.length J g Y te Q σ H)
    (m:∀D C f c h j,@Eq Nat D s.heap.objs.size->@Eq Nat C (s.heap.objs.size+1)->Inv (JM X N scope C s H x) [] (i3 d.length b8++σ) c f->c D=b8->Vals h j->f.heap.PlainList D j.toArray->h.length<=cK->(∀p,c p=b8->Q (.ref p) (upd c p (.lst h)))->RR (.ref D) C (.ok .next) f) :
    dV (eh X.prog X.w) X.A (á []) (λacc s₃=>dV (eh X.prog X.w) X.A (newFunctionEnv scope X.env.globals (bH X.env scope.names []) [] X.env.qual b8 .none (a5 X.env)) (λz s₄ =>
      P' (eh X.prog X.w) X.A (.compStart (.ListComp elt [⟨v,B,l,0⟩] scope pos) 0 (.ref it) acc {z with scope:=Tf scope X.env}) (RR acc z.locals) s₄) E s₃) E s:=by
  show wq (wpAny_newFunctionEnv S.Le (by intro y hy;simp at hy) (λn q k=>?_) S.kind)
  dsimp only at q k ⊢
  generalize r:s.heap.push {cls:=.type "list",dict:=b8,data:=.seq ([]:List df).toArray}=i at q k ⊢;have t:i.objs.size=s.heap.objs.size+1:=by rw[<-r,WQ]
  have Se:s.heap.objs.size≠i.objs.size:=by rw[t];show hH (Oy _)
  have a:∀b:d7,b<s.heap.objs.size->b≠i.objs.size:=λb hb=>hH (by have Kc:@Qj Nat _ b s.heap.objs.size:=hb;change @Qj Nat _ b i.objs.size;lia);have u:∀b o,s.heap.get? b=a5 o->n.get? b=a5 o:=λb o e=>k.extBut b o (a b (d6 e)) (cL _ (r▸cL _ e));have JC:n.PlainList s.heap.objs.size #[]:=⟨_,k.extBut _ _ Se (cL _ (r▸ez _ rfl))⟩
  show xb (s:=s) (s4:={s with heap:=n,toks:=s.toks+([]:List (Str×df)).length}) (C:=i.objs.size) (D:=s.heap.objs.size) S G L O he I T st f2 W rfl t rfl rfl u ⟨_,q⟩ JC
    λf c h j I5 n5 Pl Pn Po q5=>m _ _ f c h j rfl t I5 n5 Pl Pn Po q5
def Ax(S:eR X N b scope)(l:X.calm=bD)(m:PI X d a n)(o:∀C s H ex,PG (JM X N scope C s H ex) d g)(p:∀C s H ex,MQ (JM X N scope C s H ex) c q)(r:∀C s H ex,PE (JM X N scope C s H ex) elt t)
  (hs:∀x,LS a X.env x=pure x:=by intro _;rfl):PE X (.ListComp elt [⟨d,a,c,0⟩] scope pos) (w_ b.length n g q t):=by
 intro pins s σ H Q I h;rw[eval_ListComp];show YX (use:=b8) (cl:=bH X.env scope.names []) rfl hs (eY (S.cells I.ok)) S.kind S.names ?_;show IG (m pins s σ H _ I h) λv s1 u=>IG u λQy s2 y=>?_;have⟨it,fp,tn,J,H2,e,f,T,st2,i,W⟩:=y;subst e;show kL (RR:=λacc C=>compPost (eh X.prog X.w) X.A X.xe b8 (EP X pins σ Q) acc C) S l o p r f T st2 i W ?_;intro D C s5 H5 ys A' z hC j k B G L O;obtain⟨Y,So,_⟩:=j.loc;show⟨Y,So,λh' sb=>⟨.ref D,_,pL f j (YC z.symm) (by change @ì Nat _ s2.heap.objs.size C;lia) (hH (by change @Qj Nat _ D C;lia)) k B G L sb i,rfl,O D k⟩⟩
def Ay(S:eR X N q scope)(hc:X.calm=bD)(hN:X.N.Nodup)(QH:X.N[i]?=a5 y)(u:X.env.scope.names.lookup y=a5 .local)
  (hi:PI X m d wi) (hg:∀C s H ex,PG (JM X N scope C s H ex) m g) (hf:∀C s H ex,MQ (JM X N scope C s H ex) j tt) (he:∀C s H ex,PE (JM X N scope C s H ex) elt te)
  (MB:O8 (.ListComp elt [⟨m,d,j,0⟩] scope pos) (a5 (.Name y l)) LG.line X.env=pure bD:=by rfl)
  (hs:∀x,LS d X.env x=pure x:=by intro _;rfl):PS X (.Assign [.Name y l] (.ListComp elt [⟨m,d,j,0⟩] scope pos) LG) (C9 (w_ q.length wi g tt te) (tq i)):=by
 intro pins s σ H D I h;rw[exec_Assign_Name_used _ _ _ _ MB];show b6 (YT (b6 ?_));change dV _ X.A (do let _ <-comprehension (.ListComp elt [⟨m,d,j,0⟩] scope pos) scope X.env _ (á []) cc (vl d X.env) (a5 (RY (.Name y l) X.env))) _ _ s;show b6 (kj (YX (use:=a5 (RY (.Name y l) X.env)) (cl:=bH X.env scope.names []) (Q:=λ_ s'=>SP X pins D .next s') rfl hs (eY (S.cells I.ok)) S.kind S.names ?_) (λ_ s' hq=>c2 (c2 hq)) λ_ _ e=>e);show IG (hi pins s σ H _ I h) λv s1 h1=>IG h1 λQy s2 h2=>?_;have⟨it,fp,tn,J,H2,e,k,T,st2,G,W⟩:=h2;subst e;show kL (RR:=λacc C=>compPost (eh X.prog X.w) X.A X.xe (a5 (RY (.Name y l) X.env)) (λ_ s'=>SP X pins D .next s') acc C) S hc hg hf he k T st2 G W ?_;intro f C n r L A' hD hC t O Pl Pn Po q5;obtain⟨m5,So,_⟩:=t.loc;have Wm:r C=b8:=t.free;have B:Inv X pins σ (upd r f (.lst L)) {n with heap:=n.heap}:=pL k t (YC hD.symm) (by change @ì Nat _ s2.heap.objs.size C;lia) (hH (by change @Qj Nat _ f C;lia)) O Pl Pn Po (Je ..) G;change dV _ X.A (RY (.Name y l) X.env (.ref f)) _ _ n;show Ü (mB (s:=n) B hN QH (.inl u) (show RelV (.ref f) (.ref f) from rfl) (λs6 I6 ⟨a,sb,ha⟩=>?_) (.inr u));have Y:@Qj Nat _ X.env.locals C:=by have:@Qj Nat _ X.env.locals s2.heap.objs.size:=k.lt;lia
 have L_:∀x c,X.env.cells.lookup x=a5 c->c≠C:=λx c e=>by
  have⟨v,z⟩:=k.cell x c e;have:@Qj Nat _ c s2.heap.objs.size:=z.lt;show hH (by change @Qj Nat _ c C;lia)
 have Wn:C≠a:=by
  rcases ha with z|z
  .rw[z];show KX Y
  .show(L_ _ _ z).symm
 show⟨m5,So.sameBut sb Wn,λh' Pp=>?_⟩;show⟨σ.set i (a5 (.ref f)),upd r f (.lst L),I6.turned (it:=C) (t':=s6.toks) (λb o hb e=>(Pp.2 b hb).trans e) ?_ (KX Y) (.inr (by have:@ì Nat _ X.s₀.heap.objs.size s2.heap.objs.size:=k.sz;change @ì Nat _ X.s₀.heap.objs.size C;lia)) L_ (λp hp=>?_),q5 f O⟩
 .rw[au (KX (by change @Qj Nat _ f C;lia))];show Wm
 .have:@Qj Nat _ p.1 s2.heap.objs.size:=d6 (k.pin p hp).1;show hH (by change @Qj Nat _ p.1 C;lia)
end
section
end
section
abbrev FW:V->Option Int->Option Int->Hp->VK->Prop:=λx lo a H Q=>∃z,x=.str z/\z.length<=cK/\Q (.str (PySem.StrLaws.sliceText z lo a)) H
def l8(x:Str)(lo a:Option Int)(hz:x.length<=cK):(PySem.StrLaws.sliceText x lo a).length<=cK:=wh (Txt.slice_le x lo a) hz
def DB:Na X FW:=by
 intro pins s σ H x v m n lo b o Q I f hs g d h;have⟨z,rfl,hz,q⟩:=h;have⟨t,rfl⟩:=f;show⟨"str",_,û.lookup,Ys _ _ _,?_⟩;have a:(PySem.StrLaws.sliceText z lo b).length<=cK/\∀t' k,EP X pins σ Q (.str (PySem.StrLaws.sliceText z lo b) t') {s with toks:=k}:=⟨l8 z lo b hz,λt' k=>⟨.str _,H,I.tok k,⟨_,rfl⟩,q⟩⟩
 cases g with
 |none =>
  cases d with
  |none=>show PZ (l:=b8) (u:=b8) (st:=b8) hs rfl (TZ a)
  |int j c=>show PZ (l:=b8) (u:=a5 (j,c)) (st:=b8) hs rfl (TZ a)
 |int i e =>
  cases d with
  |none=>show PZ (l:=a5 (i,e)) (u:=b8) (st:=b8) hs rfl (TZ a)
  |int j c=>show PZ (l:=a5 (i,e)) (u:=a5 (j,c)) (st:=b8) hs rfl (TZ a)
theorem iB:∀{a:List Str}{b:List df},Vals (a.map V.str) b->∃l:List (Str×Tok),b=strValues l/\l.map (·.1)=a
 |[],_,.nil=>⟨[],rfl,rfl⟩
 |y::a,_,.cons r t=>by
  have⟨c,rfl⟩:=r;have⟨l,rfl,e⟩:=iB t;show⟨(y,c)::l,rfl,by rw[d8,e]⟩
def Az:RW X "str.join" (λx xs H Q=>∃a p b,x=.str a/\xs=[.ref p]/\Jh X.K H p (b.map V.str)/\Ò a b=bD/\Q (.str (Tu a b)) H):=by
 intro pins s σ H x xs v us Q I c rs h;have⟨a,p,b,rfl,rfl,d,f,q⟩:=h;have⟨t,rfl⟩:=c;have⟨u,rfl,r⟩:=vals1 rs;cases r;have⟨i,rv,g,hz⟩:=I.list d;have⟨l,rfl,e⟩:=iB rv;show SC.join g.isList e f λt' k=>⟨.str _,H,I.tok k,⟨_,rfl⟩,q⟩
theorem jA:∀{bs:List Bool}{a:List df},Vals (bs.map V.bl) a->a=bs.map N4
 |[],_,.nil=>rfl
 |b::bs,_,.cons r t=>by
  cases r;rw[jA t];rfl
def xf:X.calm=bD->iu X (.builtin "all") (λxs H Q=>∃(p:d7) (bs:List Bool),xs=[.ref p]/\Jh X.K H p (bs.map V.bl)/\Q (.bl (bs.all id)) H):=by
 intro f pins s σ H xs us Q I rs h;have⟨p,bs,rfl,g,q⟩:=h;have⟨u,rfl,r⟩:=vals1 rs;cases r;have⟨m,rv,c,hz⟩:=I.list g;have e:=jA rv;subst e;have j:p<s.heap.objs.size:=by obtain⟨_,_,e,_⟩:=c;show d6 e
 show call_all_walk (VT c.isList ?_);show⟨s.heap.objs.size,[s.heap.objs.size,p],[s.heap.objs.size],(bs.map N4).toArray.size,_,_,λi=>(bs[i]?).getD bD,rfl,ö (A:=X.A.in1) (I.ok.hd f) _ p (hH j) (bs.map N4).toArray,
  ⟨⟨_,ez _ rfl,rfl,rfl⟩,c.isList.push _⟩,λi v s' Q' n k d=>?_,λh' l hk=>?_⟩
 .have a:(bs.map N4)[i]?=a5 v:=by simpa using k
  rw[ki]at a;cases e:bs[i]? with
  |none=>rw[e]at a;cases a
  |some b =>
   rw[e]at a;cases a;simp only[e,Option.getD_some]at d;show IQ d
 .have e:((eH (bs.map N4).toArray.size).all λi=>(bs[i]?).getD bD)=bs.all id:=by
   rw[ei,c4];show Æ bs
  rw[e];show⟨.bl _,H,I.kept (t':=l) (Ç hk),rfl,q⟩
end
section
end
abbrev DC(N a:List Str)(scope:LY)(out:List (Str×O6)):Bool :=
 cn (scope.kind=.function)&&scope.names.all (λy=>cn (y.2≠.cell))&&scope.names.all (λy=>cn (y.2≠.local)||decide (scope.names.lookup y.1=a5 .local))&&decide N.Nodup&&cn (N.take a.length=a) &&
 scope.names.all (λy=>cn (y.2≠.local)||decide (y.1∈a)||decide (y.1=".0"))&&cn ((".0":Str)∉N)&&scope.names.all (λy=>cn (y.2≠.free)||decide (out.lookup y.1=a5 .cell)||decide (out.lookup y.1=a5 .free))&&scope.names.all (λy=>cn (y.1≠".")&&cn (y.1≠".."))
def xg(c:X.env.scope.names=out)(d:eQ (N.drop a.length) X.N)(h:DC N a scope out=bD):eR X N a scope:=by
 unfold DC at h;simp only[cb,i6,LF,Ĝ]at h;obtain⟨⟨⟨⟨⟨⟨⟨⟨f,g⟩,i⟩,j⟩,k⟩,l⟩,m⟩,n⟩,o⟩:=h;show⟨f,g,λy b e=>?_,j,k,λy b e=>?_,m,d,λy b e=>?_,o⟩
 .rcases i y b with z|z
  .show absurd e z
  .show z
 .rcases l y b with(z|z)|z
  .show absurd e z
  .show .inl z
  .show .inr z
 .rw[c];rcases n y b with(z|z)|z
  .show absurd e z
  .show .inl z
  .show .inr z
section
end
section
end
abbrev KJ(a b:Str):Bool:=!cn (b.cps.toList<a.cps.toList)
def j6(a b:Str):KJ a b=bD↔a.cps.toList<=b.cps.toList:=by
 simp only[KJ,nH,decide_eq_false_iff_not];show List.not_lt
def mM(a b c:Str)(d:KJ a b=bD)(e:KJ b c=bD):KJ a c=bD:=by
 rw[j6]at d e ⊢;show List.le_trans d e
def vf(a b:Str):(KJ a b||KJ b a)=bD:=by
 rw[LF,j6,j6];show List.le_total _ _
def xh{x y:Str}(h:x.cps.toList=y.cps.toList):x=y:=by
 cases x;cases y;congr
 show Array.toList_inj.mp h
def om(c:KJ a b=bD)(d:KJ b a=bD):a=b:=by
 rw[j6]at c d;show xh (List.le_antisymm c d)
abbrev aP(l:List Str):List Str:=l.mergeSort KJ
def bI(l:List Str):(aP l).Perm l:=List.mergeSort_perm l KJ
def fR(l:List Str):(aP l).Pairwise (λa b=>KJ a b=bD):=List.pairwise_mergeSort mM vf l
theorem iC:∀(l:List Str) (p:Str),risingS p l=bD->(p::l).Pairwise (λa b=>KJ a b=bD)
 |[],p,_=>by simp
 |x::r,p,h=>by
  have h':(!ltCps x.cps.toList p.cps.toList&&risingS x r)=bD:=h;have⟨c,g⟩:=x2.mp h';have d:=iC r x g;have f:KJ p x=bD:=by rw[ltCps_eq]at c;show c
  show Rq.mpr ⟨λy i=>?_,d⟩;rcases d3.mp i with e|e
  .rw[e];show f
  .show mM _ _ _ f ((Rq.mp d).1 y e)
def oo(h:sortedS l=bD):l.Pairwise (λa b=>KJ a b=bD):=by
 cases l with
 |nil=>show .nil
 |cons x r=>show iC r x h
theorem gp:∀{l m:List Str},l.Perm m->l.Pairwise (λa b=>KJ a b=bD)->m.Pairwise (λa b=>KJ a b=bD)->l=m
 |[],m,c,_,_=>(List.Perm.nil_eq c)
 |x::l,m,c,d,f=>by
  cases m with
  |nil=>show absurd c.length_eq (by simp)
  |cons y m =>
   have⟨g,h⟩:=Rq.mp d;have⟨b1,i⟩:=Rq.mp f;have j:x=y:=by
    have m1:x∈y::m:=c.mem_iff.mp mu;have m2:y∈x::l:=c.mem_iff.mpr mu;rcases d3.mp m1 with e|e
    .show e
    .rcases d3.mp m2 with e'|e'
     .show e'.symm
     .show om (g y e') (b1 x e)
   subst j;rw[gp (List.Perm.cons_inv c) h i]
def xj(a:l.Perm m)(hs:sortedS l=bD):l=aP m:=gp (a.trans (bI m).symm) (oo hs) (fR m)
def fS(a:l.Perm m):aP l=aP m:=gp ((bI l).trans (a.trans (bI m).symm)) (fR l) (fR m)
def cG(l:List Str):(aP l).length=l.length:=(bI l).length_eq
section
theorem cQ:∀{a:List Str}{b:List df},Vals (a.map V.str) b->Qi b a
 |[],_,.nil=>.nil
 |y::a,_,.cons r t=>by
  have⟨c,rfl⟩:=r;show .cons y c (cQ t)
theorem dJ:∀{a:List df}{b:List Str},Qi a b->Vals (b.map V.str) a
 |_,_,.nil=>.nil
 |_,_,.cons x t h=>.cons ⟨t,rfl⟩ (dJ h)
theorem fw(hc:dV (eh prog w) A.in1 (ZA x) (λvs s1=>∃ss,Qi vs ss/\vs.length<64 /\
      ∀(h':Jl) (Jf:List df) (e:Nat),(∀b o,s1.heap.get? b=a5 o->h'.get? b=a5 o)->h'.get? s1.heap.objs.size=a5 (w6 "list" Jf.toArray e)->Qi Jf (aP ss)->Q (.ref s1.heap.objs.size) {s1 with heap:=h' }) E s) :
    dV (eh prog w) A (NQ (.builtin "sorted") [x]) Q E s:=by
  refine WR kind_sorted plain_sorted entry_sorted (args_sorted1 _) ?_;unfold NR.«sorted»;refine b6 (m:=checkCount "sorted" 1 1 _) (c2 ?_);refine b6 (kj hc (λvs s1 h1=>?_) λ_ _ e=>e);obtain⟨ss,hS,K6,h⟩:=h1
  refine wpAny_bind (wpAny_newList ?_ (by have : (64 : Nat) ≤ sizeLine := by decide
                                          lia))
  have MN:(s1.heap.push (w6 "list" vs.toArray 0)).get? s1.heap.objs.size=a5 (w6 "list" vs.toArray 0):=ez _ rfl;show dV _ _ _ _ _ {s1 with heap:=s1.heap.push (w6 "list" vs.toArray 0)};refine b6 (ti (JQ Ę ⟨_,MN,rfl⟩ Ą (list_sort_treeK strKind_oneLt MN hS.keysOf (λv₁ v₂ rest e=>keyKind_strs (by rw[<-e];exact hS)) K6 λst' a1 a2=>⟨_,rfl,?_⟩) (Ě _)));obtain⟨Lg,b1,b2,b3⟩:=sorted_out_str hS a1 a2;obtain⟨e,he⟩:=sortedHeap_at (out:=(arrOf st').map (·.2)) MN;rw[xj b2 b3]at b1;refine c2 ⟨_,rfl,h _ ((arrOf st').map (·.2)).toList e (λb o q=>?_) (by rw[YL];exact he) b1⟩;have IZ:b<s1.heap.objs.size:=d6 q;show(Ô (s1.heap.push (w6 "list" vs.toArray 0)) s1.heap.objs.size vs ((arrOf st').map (·.2))).get? b=a5 o;rw[ė (hH IZ) (by rw[Mt];exact RX IZ)];exact cL _ q
def l9(hl:ě s.heap l vs.toArray)
  (h:Q vs {s with heap:=(s.heap.push (w6 "list" #[] 0)).update s.heap.objs.size (nC (·++vs.toArray))}) (hsz:vs.length<=cK) :
  dV (eh prog w) A (ZA (.ref l)) Q E s:=by
 have⟨o,ho,b,n,c⟩:=id hl;unfold ZA;show b6 (Yr (KQ entry_proto_collect' ?_));change dV _ _ (do đ (.builtin "list.__iadd__" ⟨[<-á [],.ref l],[]⟩)) _ _ s;show b6 (YW (c2 ⟨Uw _ (by decide +kernel),KQ entry_list_iadd' ?_⟩));change dV _ _ (r6 (.ref s.heap.objs.size) (.ref l) (.ref s.heap.objs.size)) _ _ {s with heap:=s.heap.push (w6 "list" #[] 0)};unfold r6;have a:(s.heap.push (w6 "list" #[] 0)).get? l=a5 o:=cL _ ho;show b6 (VP (T:="tuple") ⟨o,a,b⟩ ?_);have d:(ro "tuple"==ro "tuple")=bD:=by rfl
 rw[ĝ (by rw[d];simp)];show b6 (ZM a c ?_);show b6 (ZM (xs:=#[]) (n:=0) (ez _ rfl) rfl ?_);rw[Ğ (by simp)];show b6 (Vn (xs:=#[]) (n:=0) (ez _ rfl) rfl ?_ (i7 _) (by change(#[]++vs.toArray).size<=cK+1;simp only[UQ,ei,VI];lia));show c2 ?_;change dV (eh prog w) A (do
   let o <-load s.heap.objs.size
   match o.data with
   |.seq xs _=>pure xs.toList
   |_=>Xr "internal:collect") Q E {s with heap:=(s.heap.push (w6 "list" #[] 0)).update s.heap.objs.size (nC (·++vs.toArray))}
 show b6 (Ë (ă (ez _ rfl) _) ?_);change dV _ _ (pure ((#[]:Array df)++vs.toArray).toList) Q E _;rw[show((#[]:Array df)++vs.toArray).toList=vs by simp];show c2 h
end
section
def l_{h:Jl}{vs:List df}(e:h.get? b=a5 o):((h.push (w6 "list" #[] 0)).update h.objs.size (nC (·++vs.toArray))).get? b=a5 o:=by
 rw[OA _ _ _ _ (hH (d6 e))];show cL _ e
def pM(I:Inv X pins σ H s)(k1:∀b o,s.heap.get? b=a5 o->s1.heap.get? b=a5 o)(g:∃c a,s1={s with heap:=c,toks:=a})
  (hk:∀b o,s1.heap.get? b=a5 o->h'.get? b=a5 o) (h:h'.get? s1.heap.objs.size=a5 (w6 "list" d.toArray e)) (i:Qi d (aP ss)) (hsz:s.heap.objs.size<=s1.heap.objs.size) (hl:ss.length<=cK)
  (q:∀p,H p=b8->Q (.ref p) (upd H p (.lst ((aP ss).map V.str)))):EP X pins σ Q (.ref s1.heap.objs.size) {s1 with heap:=h' }:=by
 have⟨c,a,rfl⟩:=g;have f:Inv X pins σ H {s with heap:=c,toks:=a}:=I.kept (t':=a) k1;show⟨.ref c.objs.size,_,f.laid (t':=a) (o:=.lst ((aP ss).map V.str)) hk (gj _) ⟨by rw[c4,cG];show hl,d,e,dJ i,h⟩,rfl,q _ (f.IB.fresh (gj _))⟩
def jB:iu X (.builtin "sorted") (λxs H Q=>∃(p:d7) (c:List Str),xs=[.ref p]/\(Jh X.K H p (c.map V.str)\/Ju X.K H p (c.map V.str))/\c.length<64/\∀q,H q=b8->Q (.ref q) (upd H q (.lst ((aP c).map V.str)))):=by
 intro pins s σ H xs us Q I rs h;have⟨p,c,rfl,hq,k,q⟩:=h;have⟨u,rfl,r⟩:=vals1 rs;cases r;have hl:c.length<=cK:=PX (i2 k (by decide));have f:∀(a:List df),Vals (c.map V.str) a->∀(h':Jl) (d:List df) (e:Nat),(∀b o,((s.heap.push (w6 "list" #[] 0)).update s.heap.objs.size (nC (·++a.toArray))).get? b=a5 o->h'.get? b=a5 o) ->
   h'.get? ((s.heap.push (w6 "list" #[] 0)).update s.heap.objs.size (nC (·++a.toArray))).objs.size=a5 (w6 "list" d.toArray e)->Qi d (aP c) ->
   EP X pins σ Q (.ref ((s.heap.push (w6 "list" #[] 0)).update s.heap.objs.size (nC (·++a.toArray))).objs.size) {s with heap:=h' }:=λa rv h' d e hk g i =>
  pM (s1:={s with heap:=(s.heap.push (w6 "list" #[] 0)).update s.heap.objs.size (nC (·++a.toArray))}) I (λb o z=>l_ z) ⟨_,s.toks,rfl⟩ hk g i (by change s.heap.objs.size<=((s.heap.push (w6 "list" #[] 0)).update s.heap.objs.size (nC (·++a.toArray))).objs.size;rw[Heap.size_update,Mt];show MO _) hl q
 rcases hq with hq|hq
 .have⟨a,rv,j,hz⟩:=I.list hq;have l:a.length=c.length:=by rw[<-rv.length,c4]
  show fw (collect_list j.isList ⟨c,cQ rv,⋯,λh' d e hk g i=>f a rv h' d e hk g i⟩ ⋯)
 .have⟨a,rv,j,hz⟩:=I.tuple hq;have l:a.length=c.length:=by rw[<-rv.length,c4]
  show fw (l9 j ⟨c,cQ rv,⋯,λh' d e hk g i=>f a rv h' d e hk g i⟩ ⋯)
end
@[reducible]def sK(P:u7)(w:DD):=PySem.strKind P w
abbrev aR(P:u7)(w:DD)(h:Jl)(a:d7)(led:Bool)(D:List Str):Prop :=
 ∃(L:List (Str×Tok)) (es:Array (Int×df)) (ep:Nat) (t:O4),h.get? a=a5 {cls:=.type "set",dict:=b8,data:=.set es ep t}/\es.toList=L.map (λp=>((sK P w).hash p.1,tr p.1 p.2)) /\
  (L.map (·.1)).Perm D/\D.Nodup/\t.fits es.size=bD/\es.size<zy/\t.led=led/\(es.size=0\/t.plain=cc)
section
def kM{L:List (Str×Tok)}:ElemsOf (sK prog w) (L.map λp=>((sK prog w).hash p.1,tr p.1 p.2)):=by
 intro e a;obtain⟨p,_,rfl⟩:=js.mp a;show⟨⟨p.1,by simp[PySem.strKind,T_],rfl⟩,rfl⟩
def gK(x y:Str)(t:Tok):(sK prog w).is x (.str y t)=cn (x=y):=by
 rw[D7];simp[PySem.strKind,T_];show⟨λh=>h.symm,λh=>h.symm⟩
def rm(t:O4)(es:Array (Int×df))(h:Int)(x:df):(layNew t es h x).2.1.led=t.led:=by
 unfold layNew;split
 .change(Yn (t.put _).1 _).led=t.led;unfold Yn;split<;>rfl
 .rfl
def oq(t:O4)(es:Array (Int×df))(n:Nat):(Yt t es n).2.1.led=t.led:=by
 unfold Yt;split
 .rename_i t' b a;have:t'.led=t.led:=by
   unfold U0 SV at a;cases c:Q5 (Kr n - 1) (es.map (·.1)) with
   |none=>rw[c]at a;cases a
   |some o=>rw[c]at a;cases a;rfl
  dsimp only
  split
  .show this
  .rfl
 .rfl
def kN(t:O4)(es:Array (Int×df))(n:Nat)(h:t.plain=cc):(Yt t es n).2.1.plain=cc:=by
 unfold Yt;split
 .rename_i t' b a;have:t'.plain=t.plain:=by
   unfold U0 SV at a;cases c:Q5 (Kr n - 1) (es.map (·.1)) with
   |none=>rw[c]at a;cases a
   |some o=>rw[c]at a;cases a;rfl
  dsimp only
  split
  .rw[this];show h
  .rfl
 .rfl
def di(h:l.Perm (L.map λp=>((sK prog w).hash p.1,tr p.1 p.2))):∃L':List (Str×Tok),l=L'.map (λp=>((sK prog w).hash p.1,tr p.1 p.2))/\L'.Perm L:=by
 have all:∀e∈l,∃p:Str×Tok,e=((sK prog w).hash p.1,tr p.1 p.2):=λe a=>by
  obtain⟨p,_,rfl⟩:=js.mp (h.mem_iff.mp a);show⟨p,rfl⟩
 have ex:∀l:List (Int×df),(∀e∈l,∃p:Str×Tok,e=((sK prog w).hash p.1,tr p.1 p.2))->∃L':List (Str×Tok),l=L'.map (λp=>((sK prog w).hash p.1,tr p.1 p.2)):=by
  intro l;induction l with
  |nil=>intro _;show⟨[],rfl⟩
  |cons e l c =>
   intro b;have⟨p,rfl⟩:=b e mu;have⟨L',rfl⟩:=c λe a=>b e (kr _ a);show⟨p::L',rfl⟩
 have⟨L',rfl⟩:=ex l all;show⟨L',rfl,?_⟩;have g:(L'.map λp=>((sK prog w).hash p.1,tr p.1 p.2)).map (λe=>match e.2 with|.str x t=>(x,t)|_=>(td,0))=L':=by
  rw[ke];show YR _
 have d:(L.map λp=>((sK prog w).hash p.1,tr p.1 p.2)).map (λe=>match e.2 with|.str x t=>(x,t)|_=>(td,0))=L:=by
  rw[ke];show YR _
 have:=h.map (λe=>match e.2 with|.str x t=>(x,t)|_=>(td,0));rw[g,d]at this;show this
theorem kO(hS:aR prog w s.heap a led D)(Nf:D.length+1<zy)
    (h:∀h',mA a s.heap h'->aR prog w h' a led (if x∈D then D else D++[x])->Q (cn (x∉D)) {s with heap:=h' }) :
    dV (eh prog w) A (setAddHashed a (.str x tk) ((sK prog w).hash x)) Q E s:=by
  obtain⟨L,es,ep,t,ho,Jx,IC,IW,hf,hb,Jz,Jv⟩:=hS;have NV:(sK prog w).is x (.str x tk)=bD:=by rw[gK];simp
  have Pt:ElemsOf (sK prog w) es.toList:=by rw[Jx];exact kM
  have hlen:es.size=D.length:=by rw[<-fx,Jx,c4,<-c4 (f:=È) (as:=L),IC.length_eq]
  unfold setAddHashed setAddHashedIn;refine ti (b6 (l0 ho rfl hf ?_))
  dsimp only
  rw[byScan_of (knd:=sK prog w) rfl hb Pt];simp only[↓reduceIte];unfold setAddByScan;refine b6 ?_;refine b6 (OC ?_);refine b6 (î (knd:=sK prog w) NV ho rfl hf Pt ?_);have mem_iff:(∃e∈es.toList,(sK prog w).is x e.2=bD)↔x∈D:=by
    rw[Jx,<-IC.mem_iff,js];constructor
    · rintro⟨e,he,hi⟩
      obtain⟨p,hp,rfl⟩:=js.mp he;rw[gK,Ĝ]at hi;exact⟨p,hp,hi.symm⟩
    · rintro⟨p,hp,e⟩
      exact⟨_,js.mpr ⟨p,hp,rfl⟩,by rw[gK];simp[e]⟩
  cases hr:X4 (λe=>(sK prog w).is x e.2) es.toList with
  | some j =>
    dsimp only
    obtain⟨hj,QI,_⟩:=UP.mp hr;have hx:x∈D:=mem_iff.mp ⟨es.toList[j],Jq hj,QI⟩;refine c2 (c2 ?_);have e:s={s with heap:=s.heap}:=by cases s;rfl
    have:=h s.heap (Je a s.heap) (by rw[ĝ hx];exact⟨L,es,ep,t,ho,Jx,IC,IW,hf,hb,Jz,Jv⟩);rw[ğ (λz=>z hx)]at this;rw[e];exact this
  | none =>
    dsimp only
    have hx:x∉D:=λhx=>by
      obtain⟨e,he,hp⟩:=mem_iff.mpr hx;have:=Xl.mp hr e he;rw[hp]at this;exact Bool.noConfusion this
    have Wq:∀(b:Bool) {s₁:d4} {Q':Unit->d4->Prop},Q' () s₁->dV (eh prog w) A (match b with|true=>ô "set.scan.the-table-gave-way"|false=>pure ()) Q' E s₁ :=
      λb s₁ Q' hq=>by cases b<;>first|exact c2 hq|exact OC hq
    have OK:=layNew_perm t es ((sK prog w).hash x) (.str x tk);have Lw:=layNew_fits t es ((sK prog w).hash x) (.str x tk);have LX:=rm t es ((sK prog w).hash x) (.str x tk);generalize hL:layNew t es ((sK prog w).hash x) (.str x tk)=NL at OK Lw LX ⊢;obtain⟨Jn,t1,Ma,Wr⟩:=NL
    dsimp only at OK Lw LX ⊢
    rw[Zv,Jx,show [((sK prog w).hash x,tr x tk)]=[(x,tk)].map (λp=>((sK prog w).hash p.1,tr p.1 p.2)) from rfl,<-i9]at OK;obtain⟨L1,e1,Ws⟩:=di OK;have NW:Jn.size=D.length+1:=by rw[<-fx,OK.length_eq,c4,ia,<-hlen,<-fx,Jx,c4];rfl
    have UB:Jn.size<zy:=by lia
    have Ng:(L1.map (·.1)).Perm (D++[x]):=(Ws.map _).trans (by rw[i9];exact IC.append_right _);have UC:(D++[x]).Nodup:=by
      rw[sx]
      exact ⟨IW, by simp, fun y hy z hz => by have : z = x := by simpa using hz
                                              subst this;rintro rfl;exact hx hy⟩
    refine b6 (Wq _ ?_);have MT:∀h',mA a s.heap h'->aR prog w h' a led (D++[x])->Q bD {s with heap:=h' }:=λh' sb hs=>by
      have:=h h' sb (by rw[Ğ hx];exact hs);rw[Ġ hx]at this;exact this
    have tail:∀(g:Bool->Sem Unit),(∀(b:Bool) (s₁:d4) (Q':Unit->d4->Prop),Q' () s₁->dV (eh prog w) A (g b) Q' E s₁)->∀(R:Option Bool->d4->Prop),(∀h',mA a s.heap h'->aR prog w h' a led (D++[x])->R (a5 bD) {s with heap:=h' })->∀t2:O4,t2.fits Jn.size=bD->t2.led=led->t2.plain=cc->dV (eh prog w) A (do
        storeSet a Jn t2
        if (!Ma&&t2.tooFull)=true then do
            g (relayAll t2 Jn (SetTable.grown Jn.size)).2.2
            storeSet a (relayAll t2 Jn (SetTable.grown Jn.size)).1 (relayAll t2 Jn (SetTable.grown Jn.size)).2.1
            pure (some true)
          else pure (a5 bD)) R E s:=by
      intro g hg R hR t2 Wt MU MV;refine b6 (VR ho rfl ?_ (V8 UB));have MC:(s.heap.update a (Pq Jn t2)).get? a=a5 {cls:=.type "set",dict:=b8,data:=.set Jn (ep+1) t2}:=by
        have:=tj (Pq Jn t2) ho rfl;exact this
      have Pu:=wz s.heap a (Pq Jn t2);split
      · have hp:=relayAll_perm t2 Jn (NB Jn.size)
        have Lx:=relayAll_fits t2 Jn (NB Jn.size);have Sr:=oq t2 Jn (NB Jn.size);have OL:=kN t2 Jn (NB Jn.size) MV;generalize Ss:Yt t2 Jn (NB Jn.size)=Rl at hp Lx Sr OL ⊢;obtain⟨Kk,t3,UD⟩:=Rl
        dsimp only at hp Lx Sr OL ⊢
        rw[e1]at hp;obtain⟨L2,e2,Wu⟩:=di hp;have hsz:Kk.size=Jn.size:=by rw[<-fx,hp.length_eq,<-e1,fx]
        refine b6 (hg _ _ _ ?_);refine b6 (VR MC rfl ?_ (V8 ⋯));have Nh:((s.heap.update a (Pq Jn t2)).update a (Pq Kk t3)).get? a=a5 {cls:=.type "set",dict:=b8,data:=.set Kk (ep+1+1) t3}:=tj (Pq Kk t3) MC rfl;refine c2 (hR _ (Pu.trans (wz _ a _)) ⟨L2,Kk,_,t3,Nh,e2,(Wu.map _).trans Ng,UC,Lx,⋯,Sr.trans MU,.inr OL⟩)
      · exact c2 (hR _ Pu ⟨L1,Jn,_,t2,MC,e1,Ng,UC,Wt,UB,MU,.inr MV⟩)
    split
    · rename_i hp
      refine b6 ?_;rw[hashByValue_scannable 8 rfl];refine c2 ?_;have ep:(if plainKind (tr x tk)=bD then t1 else {t1 with plain:=cc})={t1 with plain:=cc}:=rfl;rw[ep];refine tail _ ?_ _ ?_ {t1 with plain:=cc} (SetTable.fits_plain_off Lw) (LX.trans Jz) rfl
      · intro b s₁ Q' hq;cases b<;>first|exact c2 hq|exact OC hq
      · intro h' J_ Kl;dsimp only;exact c2 (MT h' J_ Kl)
    · rename_i hp
      refine b6 (c2 ?_);simp only[↓reduceIte];refine tail _ ?_ _ ?_ t1 Lw (LX.trans Jz) (Bool.eq_false_iff.mpr hp)
      · intro b s₁ Q' hq;cases b<;>first|exact c2 hq|exact OC hq
      · intro h' J_ Kl;dsimp only;exact c2 (MT h' J_ Kl)
end
abbrev jU(D:List Str)(x:Str):List Str:=if x∈D then D else D++[x]
abbrev aB(l:List Str):List Str:=l.foldl jU []
theorem rn(h:D.Nodup):(jU D x).Nodup:=by
  unfold jU;split
  · exact h
  · rename_i hx
    rw[sx]
    exact ⟨h, by simp, fun y hy z hz => by have : z = x := by simpa using hz
                                           subst this;rintro rfl;exact hx hy⟩
theorem fy:∀(l D:List Str),D.Nodup->(l.foldl jU D).Nodup/\(∀x,x∈l.foldl jU D↔x∈D\/x∈l)/\(l.foldl jU D).length<=D.length+l.length
 |[],D,h=>⟨h,by simp,by simp⟩
 |y::l,D,h=>by
  have⟨a,b,f⟩:=fy l (jU D y) (rn h);have c:∀x,x∈jU D y↔x∈D\/x=y:=λx=>by
   unfold jU;split
   .rename_i d;show⟨.inl,λz=>z.elim id (λe=>e▸d)⟩
   .simp
  have hl:(jU D y).length<=D.length+1:=by
   unfold jU;split
   .lia
   .simp
  show⟨a,λx=>?_,by rw[Sx,i0];lia⟩;rw[Sx,b,c,d3,or_assoc]
def bW(l:List Str):(aB l).Nodup:=(fy l [] S4).1
def bX(l:List Str)(x:Str):x∈aB l↔x∈l:=by rw[aB,(fy l [] S4).2.1];simp
def rp(l:List Str):(aB l).length<=l.length:=by have:=(fy l [] S4).2.2;simpa[aB] using this
def pN(l:List Str)(x:Str):aB (l++[x])=jU (aB l) x:=by unfold aB;rw[List.foldl_append];rfl
section
variable{prog:u7}{w:DD}{A:M8}{R:Result->d4->Prop}{I:d7}{fp wr:List d7}{G:Array Yz->Array Yz->Prop}{n:Nat}{P:Nat->df->Prop}{St:Nat->d4->Prop}
def jb(W:Ð prog w A.in1 I fp wr G n P St)(S:d7)(l:S∉fp)(led:Bool)
  (a:List Str) (hn:a.length=n) (u:∀i v,P i v->∃x t,a[i]?=a5 x/\v=.str x t) (c:n+1<zy) :
  ∀(k i:Nat) (s:d4),n - i=k->i<=n->St i s->aR prog w s.heap S led (aB (a.take i)) ->
   (∀s',Moved (S::wr) G s s'->aR prog w s'.heap S led (aB a)->R (.ok (.ret .none)) s') ->
   P' (eh prog w) A (.builtin "set.update.loop" ⟨[.ref S,.ref I],[]⟩) R s:=by
 have m:S∉wr:=λh=>l (W.sub _ h);have p:∀b∈wr,b∈S::wr:=λb c=>kr _ c;intro k;induction k with
 |zero =>
  intro i s hk y g f j;have z:i=n:=by lia
  subst z;show KQ RU ?_;rw[NZ M9 _];change dV _ A.in1 (Tg (.ref I) >>= _) _ _ s;show b6 (W.done s _ _ g λs' d=>?_);change dV _ A.in1 (ret mN) _ _ s';rw[MS ⋯]at f;show c2 (j s' (d.mono p) (by
   have⟨L,es,ep,t,ho,rest⟩:=f;show⟨L,es,ep,t,d.heap S _ m ho,rest⟩))
 |succ k B =>
  intro i s hk y g f j;have q:i<n:=by lia
  show KQ RU ?_;rw[NZ M9 _];change dV _ A.in1 (Tg (.ref I) >>= _) _ _ s;show b6 (W.item i s _ _ q g λv s' C D d=>?_);have⟨x,t,H,rfl⟩:=u i v C;have J:aR prog w s'.heap S led (aB (a.take i)):=by
   have⟨L,es,ep,N,ho,rest⟩:=f;show⟨L,es,ep,N,d.heap S _ m ho,rest⟩
  change dV _ A.in1 (Mz [tr x t] (setAdd S (.str x t)) >>= _) _ _ s';show b6 (ti ?_);unfold setAdd;show ti ?_;show b6 ((sK prog w).pyHash (k:=x) (by rw[gK];simp) ?_);have O:(aB (a.take i)).length+1<zy:=by have:=rp (a.take i);rw[vu]at this;lia
  show kO (s:={s' with toks:=s'.toks+1}) J O λh' r Q=>?_;have T:aR prog w h' S led (aB (a.take (i+1))):=by
   rw[List.take_add_one,H];change aR prog w h' S led (aB (a.take i++[x]));rw[pN];show Q
  show c2 ⟨Sq M9 _,B (i+1) _ ⋯ q (W.frame _ s' _ _ D (MO _) λb c o e=>?_) T λY Sv Sw=>?_⟩
  .rw[r.2 b (λh:b=S=>l (by rw[<-h];show c))];show e
  .show j Y (ç W.gtrans ((d.mono p).then_heap (MO _) λb o c e=>?_) Sv) Sw;rw[r.2 b (λh:b=S=>c (by rw[h];show mu))];show e
end
section
def mf(a:df)
  (h:Q₁ (.ref s.heap.objs.size) {s with heap:=s.heap.push {cls:=.type "set",dict:=b8,data:=.set #[] 0 (.fresh 0 0 (!w.params.followText "set-order"))}}) :
  P' (eh prog w) A (.call (.builtin "set.__new__") ⟨[.type "set",a],[]⟩) (wants Q₁ E) s:=by
 show Ā ?_;change dV _ A.in1 (do Xd "set.__new__" ⟨[.type "set",a],[]⟩;đ (.builtin "set.__new__" ⟨[.type "set",a],[]⟩)) _ _ s;show b6 (Xq (PySem.F.newCall_set_1 a) (c2 ⟨Sq PySem.F.plain_set_new _,KQ PySem.F.entry_set_new ?_⟩));rw[NZ PySem.F.plain_set_new _];unfold NR.«set.__new__» Z_;have b:=VX;have⟨c,g,d,e,os⟩:=s
 dsimp only
 wp_walk
 show Qo (c2 ?_)
 dsimp only
 simp only[newObj];show b6 (wpAny_alloc (c2 ?_));show c2 h
def gW(b:h.get? a=a5 {cls:=.type "set",dict:=b8,data:=.set #[] 0 (.fresh 0 0 led)}):aR prog w h a led [] :=
 ⟨[],#[],0,_,b,rfl,.nil,S4,rfl,by unfold zy;decide,rfl,.inl rfl⟩
end
def sub_tuple_set:Of (.type "tuple") (.type "set")=pure cc:=by rw[Jd];kernel_rfl
def sub_tuple_frozenset:Of (.type "tuple") (.type "frozenset")=pure cc:=by rw[Jd];kernel_rfl
section
@[reducible]def aF(w:DD):Bool:=!w.params.followText "set-order"
@[reducible]def rq(led:Bool):Obj:={cls:=.type "set",dict:=b8,data:=.set #[] 0 (.fresh 0 0 led)}
def iD
  (L:s.TypeIs (.ref l) T) (Wx:Of (.type T) (.type "set")=pure cc) (Wy:Of (.type T) (.type "frozenset")=pure cc) (JH:(ro T==ro "dict")=cc)
  (N:a.length+1<zy)
  (k:∀(s1:d4) (B:M8) (Q':df->d4->Prop),B.handled=A.handled->(∀b o,s.heap.get? b=a5 o->s1.heap.get? b=a5 o)->s.heap.objs.size<s1.heap.objs.size ->
   (∀I m n G P St d,Ð prog w B.in1 I m n G a.length P St->(∀g g',G g g'->g'=g)->s.heap.objs.size∉m->(∀b∈n,s.heap.objs.size<b)->(∀i v,P i v->∃x t,a[i]?=a5 x/\v=.str x t)->St 0 {s1 with heap:=d}->(∀b o,s1.heap.get? b=a5 o->d.get? b=a5 o)->Q' (.ref I) {s1 with heap:=d})->dV (eh prog w) B (Yv (.ref l)) Q' E s1)
  (h:∀(h':Jl) (f:Nat),aR prog w h' s.heap.objs.size (aF w) (aB a)->(∀b o,b<s.heap.objs.size->s.heap.get? b=a5 o->h'.get? b=a5 o)->Q (.ref s.heap.objs.size) {s with heap:=h',toks:=f}) :
  dV (eh prog w) A (NQ (.type "set") [.ref l]) Q E s:=by
 have⟨c,tl,Wz⟩:=PySem.F.called_set.mro;have UG:=PySem.F.called_set.made;have Mb:=PySem.F.called_set.sub;show Ì (Ā ?_);change dV _ _ (callAny (.type "set") _) _ _ _;show c2 ⟨Uw _ (by decide +kernel),KQ PySem.F.entry_type_call ?_⟩;rw[Around.under_plain (weight_type_call_type "set" [.ref l] []) rfl];have d:=PySem.F.called_set.notType;have h2:=PySem.F.called_set.canCreate;have YZ:=PySem.F.typeCall_set_1 (.ref l)
 repeat (any_goals (first|assumption|wp_step))
 show RO (mf (.ref l) (E:=E) (Q₁:=λobj C=>obj=.ref s.heap.objs.size/\C={s with heap:=s.heap.push (rq (aF w))}) ⟨rfl,rfl⟩) λr C p=>?_;cases r with
 |error e=>show p
 |ok O =>
  cases O with
  |ret obj =>
   have⟨rfl,rfl⟩:=p;have D:(s.heap.push (rq (aF w))).get? s.heap.objs.size=a5 (rq (aF w)):=ez _ rfl;have Y:RF {s with heap:=s.heap.push (rq (aF w))} (.ref s.heap.objs.size) "set":=⟨_,D,rfl⟩
   have UH:=PySem.F.called_set.init.lookup;have Y0:=PySem.F.called_set.init.bind (.ref s.heap.objs.size)
   repeat (any_goals (first|assumption|wp_step))
   show RO (UO (R:=wants (λr H=>r=.none/\∃h' f,H={s with heap:=h',toks:=f} /\
     aR prog w h' s.heap.objs.size (aF w) (aB a) /\
     (∀b o,b<s.heap.objs.size->s.heap.get? b=a5 o->h'.get? b=a5 o)) E) PySem.F.called_set.init.plain PySem.F.entry_set_init (check_set_init_1 Y ?_)) λr₂ H q=>?_
   .have⟨ol,Pw,J⟩:=L;have⟨WA,Px,Py,NY⟩:=ol;simp only at J;subst J;have Sy:(s.heap.push (rq (aF w))).get? l=a5 {cls:=.type T,dict:=Px,data:=Py,slots:=NY}:=cL _ Pw;have UI:RF {s with heap:=s.heap.push (rq (aF w))} (.ref l) T:=⟨_,Sy,rfl⟩
    unfold NR.«set.__init__» noKeywords Z8;generalize WB:Yv=PI
    wp_walk
    subst WB;show k {s with heap:=s.heap.push (rq (aF w))} _ _ rfl (λb o e=>cL _ e) (by rw[Mt];show Oy _) λI m n G P St d W hG hf WC NX II hk=>?_;show b6 (Yr ?_);show jb W s.heap.objs.size hf (aF w) a rfl NX N (a.length - 0) 0 _ ⋯ (i7 _) II (gW (hk _ _ D)) ?_;intro s' j u;have⟨h',g',d',WD,RP⟩:=s';have eg:g'=s.gens:=hG _ _ j.gens;have ed:d'=s.drawn:=j.drawn;have eo:RP=s.os:=j.os;subst eg;subst ed;subst eo;change dV _ _ _ _ _ _;show c2 ?_;change dV _ _ (ret mN) _ _ _;show c2 ⟨rfl,h',WD,rfl,u,λb o y e=>?_⟩;show j.heap b o (λz=>by
     rcases d3.mp z with z|z
     .rw[z]at y;show uk _ y
     .show absurd (WC b z) (À y)) (hk _ _ (cL _ e))
   .cases r₂ with
    |error e=>show q
    |ok WE =>
     cases WE with
     |ret r =>
      have⟨rfl,h',f,rfl,u,Jo⟩:=q
      repeat (any_goals (first|assumption|wp_step))
      show h _ _ u Jo
     |_=>show q.elim
  |_=>show p.elim
end
section
theorem ot:∀{vs:List df}{ss:List Str},Qi vs ss->∀(i:Nat) (v:df),vs[i]?=a5 v->∃x t,ss[i]?=a5 x/\v=.str x t
 |_,_,.nil,i,v,h=>by simp at h
 |_,_,.cons x t h,0,v,e=>by simp at e;show⟨x,t,rfl,e.symm⟩
 |_,_,.cons x t h,i+1,v,e=>by rw[R8]at e;rw[R8];show ot h i v e
theorem iE:∀{vs:List df}{ss:List Str},Qi vs ss->vs.length=ss.length
 |_,_,.nil=>rfl
 |_,_,.cons x t h=>by simp[iE h]
def tI(a:n≠S)(b:n≠l):n∉[S,l]:=by simp[a,b]
def fT(k:A.handled=b8)(hl:s.heap.IsList l vs.toArray)(f:Qi vs a)(c:a.length+1<zy)
  (h:∀(h':Jl) (m:Nat),aR prog w h' s.heap.objs.size (aF w) (aB a)->(∀b o,b<s.heap.objs.size->s.heap.get? b=a5 o->h'.get? b=a5 o)->Q (.ref s.heap.objs.size) {s with heap:=h',toks:=m}) :
  dV (eh prog w) A (NQ (.type "set") [.ref l]) Q E s:=by
 have g:l<s.heap.objs.size:=let ⟨o,ho,_⟩:=hl;d6 ho;show iD hl.typeIs PySem.F.sub_list_set PySem.F.sub_list_frozenset (by decide) c (λs1 B Q' n hk d p=>?_) h;have j:s1.heap.IsList l vs.toArray:=let ⟨o,ho,r⟩:=hl;⟨o,hk _ _ ho,r⟩;show VT j ?_;have q:l≠s1.heap.objs.size:=hH (U9 g d);have W:=(ö (prog:=prog) (w:=w) (A:=B.in1) (by simp[n,k]) s1.heap.objs.size l q vs.toArray).toS;have t:vs.toArray.size=a.length:=by simp[iE f]
 rw[t]at W;show p _ _ _ _ _ _ _ W (λ_ _ e=>e) (tI (hH d) (KX g)) (λb c=>by rw[hV.mp c];show d) (λi v u=>ot f i v (by simpa using u)) ⟨⟨_,ez _ rfl,rfl,rfl⟩,j.push _⟩ λb o e=>cL _ e
def gL(k:A.handled=b8)(hl:s.heap.IsTuple l vs.toArray)(f:Qi vs a)(c:a.length+1<zy)
  (h:∀(h':Jl) (m:Nat),aR prog w h' s.heap.objs.size (aF w) (aB a)->(∀b o,b<s.heap.objs.size->s.heap.get? b=a5 o->h'.get? b=a5 o)->Q (.ref s.heap.objs.size) {s with heap:=h',toks:=m}) :
  dV (eh prog w) A (NQ (.type "set") [.ref l]) Q E s:=by
 have g:l<s.heap.objs.size:=let ⟨o,ho,_⟩:=hl;d6 ho;show iD hl.typeIs sub_tuple_set sub_tuple_frozenset (by decide) c (λs1 B Q' n hk d p=>?_) h;have j:s1.heap.IsTuple l vs.toArray:=let ⟨o,ho,r⟩:=hl;⟨o,hk _ _ ho,r⟩;show PL j ?_;have q:l≠s1.heap.objs.size:=hH (U9 g d);have W:=(Walks.tuple (prog:=prog) (w:=w) (A:=B.in1) (by simp[n,k]) s1.heap.objs.size l q vs.toArray).toS;have t:vs.toArray.size=a.length:=by simp[iE f]
 rw[t]at W;show p _ _ _ _ _ _ _ W (λ_ _ e=>e) (tI (hH d) (KX g)) (λb c=>by rw[hV.mp c];show d) (λi v u=>ot f i v (by simpa using u)) ⟨⟨_,ez _ rfl,rfl,rfl⟩,let ⟨o,ho,r⟩:=j;⟨o,cL _ ho,r⟩⟩ λb o e=>cL _ e
def ou(a:n≠0)(h:∀i<n,Q i {s with drawn:=s.drawn.bump src}):dV M A (choose src n) Q E s:=λΓ p b=>by
 change Sem.wp M Γ (.choose src n .pure) _ _ p s;rw[Sem.wp_choose];show⟨a,h _ (Xi _ (Nat.pos_of_ne_zero a))⟩
theorem gZ:∀{xs:List α}{i:Nat}{x:α},xs[i]?=a5 x->(x::xs.eraseIdx i).Perm xs
 |[],i,x,h=>by simp at h
 |y::a,0,x,h=>by simp at h;subst h;show .refl _
 |y::a,i+1,x,h=>by
  rw[R8]at h;rw[R9];show(Ze y x _).trans ((gZ h).cons y)
theorem gM:∀(n:Nat) (xs:List α) (s:d4) (Q:List α->d4->Prop),xs.length=n->(∀a d,a.Perm xs->Q a {s with drawn:=d})->dV M A (drawOrder n xs) Q E s
 |0,xs,s,Q,b,h=>by
  have:xs=[]:=R3.mp b;subst this;show c2 (h [] s.drawn (.refl _))
 |n+1,[],s,Q,b,h=>by simp at b
 |n+1,y::a,s,Q,b,h=>by
  change dV M A (choose .order (y::a).length >>= _) Q E s;show b6 (ou (by simp) λi c=>?_);have e:(y::a)[i]?=a5 ((y::a)[i]'c):=sL c;have f:=gZ e;generalize (y::a)[i]'c=x at e f;simp only[e];show b6 (gM n _ _ _ (by have:=f.length_eq;simp at this b ⊢;lia) λg d hz=>?_);show c2 (h (x::g) d ((hz.cons x).trans f))
theorem jC(next:Nat->Nat):∀(fuel k:Nat) (left:List α) (out:Array α),left.length=fuel->(V6 next fuel k left out).toList.Perm (out.toList++left)
 |0,k,left,out,hl=>by
  have:left=[]:=R3.mp hl;subst this;simp[V6]
 |fuel+1,k,left,out,hl=>by
  unfold V6;have a:next k % left.length<left.length:=Xi _ ⋯;have e:left[next k % left.length]?=a5 (left[next k % left.length]'a):=sL a;have b:=gZ e;generalize left[next k % left.length]'a=x at e b;simp only[e];show(jC next fuel _ _ _ (by have:=b.length_eq;simp at this;lia)).trans ?_;rw[Zv,ZT];show(b.append_left _)
def dS(next:Nat->Nat)(xs:Array α):(Xa next xs).toList.Perm xs.toList:=by
 have:=jC next xs.size 0 xs.toList #[] (by simp);simpa[Xa] using this
end
namespace SI
def pO:Manifest.owners.lookup (String.ofList ['r','o','t','a','r','e','t','i','_','t','e','s'].reverse)=a5 Manifest.sig_set_iterator:=by kernel_rfl
def slot_next:Slot "set_iterator" "__next__" "set_iterator.__next__" :=
 .of (owner:="set_iterator") (n:="__next__") (by rw[Rv,Ol];kernel_rfl) (by decide +kernel) (by decide +kernel) (by decide +kernel)
  (by first|show .inl (by decide +kernel)|show .inr (by decide +kernel)) (by rw[Jd];kernel_rfl)
def entry_next:Z4 table "set_iterator.__next__"=a5 NR.«set_iterator.__next__»:=entryFor_of_tree (by kernel_rfl)
def args_next(a:df):Đ "set_iterator.__next__" ⟨[a],[]⟩:=by
 unfold Đ;rw[signature?_of (id:="set_iterator.__next__") (n:=['_','_','t','x','e','n','_','_']) (o:=['r','o','t','a','r','e','t','i','_','t','e','s']) (by kernel_rfl) pO];kernel_rfl
def mO:Slot "set_iterator" "__iter__" "set_iterator.__iter__" :=
 .of (owner:="set_iterator") (n:="__iter__") (by rw[Rv,Ol];kernel_rfl) (by decide +kernel) (by decide +kernel) (by decide +kernel)
  (by first|show .inl (by decide +kernel)|show .inr (by decide +kernel)) (by rw[Jd];kernel_rfl)
def vg(a:df):Đ "set_iterator.__iter__" ⟨[a],[]⟩:=by
 unfold Đ;rw[signature?_of (id:="set_iterator.__iter__") (n:=['_','_','r','e','t','i','_','_']) (o:=['r','o','t','a','r','e','t','i','_','t','e','s']) (by kernel_rfl) pO];kernel_rfl
def rA:Z4 table "set_iterator.__iter__"=a5 NR.«dict_keyiterator.__iter__» :=
 Yw (id':="dict_keyiterator.__iter__") (by kernel_rfl) (by first|rfl|decide +kernel|(unfold String.splitOn;simp +decide [String.splitOnAux])) (by decide +kernel) (by kernel_rfl)
def kP:Z4 table "set.__iter__"=a5 NR.«frozenset.__iter__» :=
 Yw (id':="frozenset.__iter__") (by kernel_rfl) rfl (by decide +kernel) (by kernel_rfl)
end SI
section
variable{prog:u7}{w:DD}{A:M8}{E:df->d4->Prop}{s:d4}
abbrev g9(h:Jl)(I:d7)(first:df)(i:Nat)(S:d7)(n ep:Nat):Prop:=∃o,h.get? I=a5 o/\o.cls=.type "set_iterator"/\o.data=.fields #[first,u6 i,.ref S,u6 n,u6 ep]
def g9.typeIs(x:g9 s.heap I f i S n ep):s.TypeIs (.ref I) "set_iterator":=let ⟨o,ho,a,_⟩:=x;⟨o,ho,a⟩
def AA(a:g9 s.heap I f i S n ep)(h:Q (.ref I) s):dV (eh prog w) A (Yv (.ref I)) Q E s:=by
 show Û a.typeIs SI.mO (JQ SI.mO a.typeIs SI.rA ?_ (SI.vg _));change dV _ _ (ret (.ref I)) _ _ s;show c2 ⟨_,rfl,"set_iterator",_,a.typeIs,SI.slot_next.lookup,h⟩
def cR(h:Q (M.w.params.followText "set-order") s):dV M A Î Q E s:=by
 unfold Î;show b6 (Qo (c2 h))
end
end L2
namespace L2
open PySem PySem.Spec PyProof.Rows
section
variable{prog:u7}{w:DD}{A:M8}{E:df->d4->Prop}{s:d4}
@[reducible]def ox(es:Array (Int×df))(ep:Nat)(t:O4):Obj:={cls:=.type "set",dict:=b8,data:=.set es ep t}
def pP{I:d7}{B:M8}{Q:Option df->d4->Prop}{c:Jl}{k:df->Sem (Option df)}(d:B.handled=b8)
  (f:∀h',(∀b o,c.get? b=a5 o->h'.get? b=a5 o)->∀e,RF {s with heap:=h' } e "StopIteration"->E e {s with heap:=h' }) {Q':Fin->d4->Prop} :
  dV (eh prog w) B (Zz (.type "StopIteration") [] >>= λe=>(Yu e:Sem Fin)) Q' E {s with heap:=c}:=by
 show b6 ?_;simp only[Zz,Ċ];show b6 (wq ?_ (by size_fits));show b6 (m:=UN _ _) (Xq (a:=mN) (by first|rfl|(simp only[UN];rfl)) ?_);show wq ?_ (by size_fits);simp only[Yu];show b6 (wpAny_handled ?_);rw[d];show b6 (c2 (wpAny_throw ?_));show f _ (λb o e=>cL _ (cL _ e)) _ ⟨_,ez _ rfl,rfl⟩
def tJ{I S:d7}{first:df}{i ep:Nat}{es:Array (Int×df)}{t:O4}(d:g9 s.heap I first i S es.size ep)(ho:s.heap.get? S=a5 (ox es ep t))(j:t.fits es.size=bD)
  (k:∀(Q':Fin->d4->Prop) (h:df->d4->Prop) ,(∀v s',Q (a5 v) s'->Q' (.done (.ret v)) s')->(∀e s',s'.TypeIs e "StopIteration"->Q b8 s'->h e s') ->
   dV (eh prog w) A.in1 (if let .int slot _:=first then(do
     match <-VY S slot.toNat i ep with
     |some (x,next) =>
      VZ (.ref I) 0 (u6 next)
      VZ (.ref I) 1 (u6 ((i:Int)+1))
      ret x
     |none=>VZ (.ref I) 2 .none;Yu (<-Zz (.type "StopIteration") []))
    else(do
     let a5 c <-Zn first|unsupported "internal:set_iterator"
     match c[i]? with
     |some (.int f _) =>
      let x <-Zy S f.toNat ep
      VZ (.ref I) 1 (u6 ((i:Int)+1))
      ret x
     |some _=>Xr "internal:set_iterator"
     |none=>VZ (.ref I) 0 (u6 0);VZ (.ref I) 2 .none;Yu (<-Zz (.type "StopIteration") []))) Q' h s):dV (eh prog w) A (Tg (.ref I)) Q E s:=by
 have⟨o,l,n,m⟩:=id d;unfold Tg;show b6 (wpAny_attempt (P0 (name:=Q2 "__next__") d.typeIs SI.slot_next
  (JQ SI.slot_next d.typeIs SI.entry_next ?_ (SI.args_next _))))
 unfold NR.«set_iterator.__next__»;show b6 (Xq (a:=(ko I,[])) rfl ?_)
 try dsimp only
 show b6 (wpAny_fieldsOf l m ?_)
 try dsimp only
 show b6 (RA ho rfl j ?_);rw[Ğ (by simp)];show kj (k (λg s'=>∃r,g=.done (.ret r)/\Q (a5 r) s') (λe s'=>s'.TypeIs e "StopIteration"/\Q b8 s') (λv s' q=>⟨v,rfl,q⟩) λe s' z q=>⟨z,q⟩) ?_ ?_
 .rintro g s' ⟨r,rfl,q⟩;show⟨r,rfl,c2 q⟩
 .rintro e s' ⟨z,q⟩;show b6 (O7 (T:="StopIteration") (b:=bD) z ċ ?_);show c2 q
end
section
def tK{I S:d7}{f f':df}{i n ep:Nat}{h:Jl}{o:Obj}(b:h.get? I=a5 o)(c:o.cls=.type "set_iterator")(a:o.data=.fields #[f,u6 i,.ref S,u6 n,u6 ep]):
  g9 (h.update I (æ (·.setIfInBounds 1 (u6 ((i:Int)+1))))) I f (i+1) S n ep :=
 ⟨_,tj _ b (S0 (M7 a _)),(U7 ..).trans c,by rw[M7 a];simp⟩
def pQ{h:Jl}(c:h.get? I=a5 o)(d:o.cls=.type "set_iterator")(b:o.data=.fields #[f,u6 i,.ref S,u6 n,u6 ep]):
  ∃a,(h.update I (æ (·.setIfInBounds 0 f'))).get? I=a5 a/\a.cls=.type "set_iterator"/\a.data=.fields #[f',u6 i,.ref S,u6 n,u6 ep] :=
 ⟨_,tj _ c (S0 (M7 b _)),(U7 ..).trans d,by rw[M7 b];simp⟩
def xk{I S:d7}{slot i ep:Nat}{es:Array (Int×df)}{t:O4}{Q:Option df->d4->Prop}(a:g9 s.heap I (u6 slot) i S es.size ep)(ho:s.heap.get? S=a5 (ox es ep t))(j:t.fits es.size=bD)(l:A.handled=b8)
  {r:Option (df×Nat)} (m:∀(B:M8) (f:df->d4->Prop) (Q':Option (df×Nat)->d4->Prop),Q' r s->dV (eh prog w) B (VY S slot i ep) Q' f s)
  (n:∀x nx,r=a5 (x,nx)->∀h',g9 h' I (u6 nx) (i+1) S es.size ep->mA I s.heap h'->Q (a5 x) {s with heap:=h' })
  (q:r=b8->∀h',(∀b o,b≠I->s.heap.get? b=a5 o->h'.get? b=a5 o)->Q b8 {s with heap:=h' }):dV (eh prog w) A (Tg (.ref I)) Q E s:=by
 show tJ a ho j λQ' f u v=>?_;have⟨o,c,y,d⟩:=id a;change dV _ _ (VY S slot i ep >>= _) _ _ s;show b6 (m _ _ _ ?_);cases r with
 |some p =>
  have⟨x,nx⟩:=p
  dsimp only
  show b6 (M5 c d (by simp) ?_);have⟨J,g,z,h⟩:=pQ (f':=u6 nx) c y d;show b6 (M5 (s:={s with heap:=_}) g h (by simp) ?_);show c2 (u _ _ (n x nx rfl _ (tK (f':=u6 nx) g z h) ((wz ..).trans (wz ..))))
 |none =>
  dsimp only
  show b6 (M5 c d (by simp) ?_);show pP (I:=I) (k:=λ_=>pure b8) (Q:=λ_ _=>True) (s:=s) (by simpa using l) λh' hk e C=>v e _ C (q rfl h' λb D G H=>hk b D ?_);rw[OA _ _ _ _ G];show H
def DE{I S T:d7}{i ep:Nat}{es:Array (Int×df)}{t:O4}{a:List Nat}{Q:Option df->d4->Prop}(c:g9 s.heap I (.ref T) i S es.size ep)(ho:s.heap.get? S=a5 (ox es ep t))(m:t.fits es.size=bD)(r:A.handled=b8)
  (u:s.heap.IsTuple T ((a.map λ(j:Nat)=>u6 j).toArray))
  (v:∀(j:Nat) (e:Int×df),a[i]?=a5 j->es[j]?=a5 e->∀h',g9 h' I (.ref T) (i+1) S es.size ep->mA I s.heap h'->Q (a5 e.2) {s with heap:=h' })
  (x:∀j∈a,j<es.size)
  (y:a[i]?=b8->∀h',(∀b o,b≠I->s.heap.get? b=a5 o->h'.get? b=a5 o)->Q b8 {s with heap:=h' }):dV (eh prog w) A (Tg (.ref I)) Q E s:=by
 show tJ c ho m λQ' O z B=>?_;have⟨o,d,n,f⟩:=id c;have⟨Y,C,Y1,nT,D⟩:=u;change dV _ _ (Zn (.ref T) >>= _) _ _ s;show b6 (UL C D ?_);cases e:a[i]? with
 |some j =>
  have g:(a.map λ(j:Nat)=>u6 j).toArray[i]?=a5 (u6 j):=by simp[e]
  simp only[g];have h:j<es.size:=x j (my e);have l:es[j]?=a5 (es[j]'h):=by simp[h]
  change dV _ _ (Zy S (j:Int).toNat ep >>= _) _ _ s;unfold Zy;rw[PY];show b6 (b6 (l0 ho rfl m ?_))
  dsimp only
  rw[Ğ (by simp)];generalize es[j]'h=p at l;simp only[l];show c2 ?_;show b6 (M5 d f (by simp) ?_);show c2 (z _ _ (v j p e l _ (tK (f':=.ref T) d n f) (wz ..)))
 |none =>
  have g:(a.map λ(j:Nat)=>u6 j).toArray[i]?=b8:=by simp at e ⊢;show e
  simp only[g];show b6 (M5 d f (by simp) ?_);have⟨o',G,e2,H⟩:=pQ (f':=u6 0) d n f;show b6 (M5 (s:={s with heap:=_}) G H (by simp) ?_);show pP (I:=I) (k:=λ_=>pure b8) (Q:=λ_ _=>True) (s:=s) (by simpa using r) λh' hk ex J=>B ex _ J (y e h' λb L q N=>hk b L ?_);rw[OA _ _ _ _ q,OA _ _ _ _ q];show N
end
section
def g9.at(x:g9 h I f i S n ep)(e:∀o,h.get? I=a5 o->h'.get? I=a5 o):g9 h' I f i S n ep:=let ⟨o,ho,r⟩:=x;⟨o,e _ ho,r⟩
def kQ(r:A.handled=b8)(n:S≠I)(u:t.fits es.size=bD)(T:d7)(p:T≠I)(c:List df)(k:c.length=es.size)
  (first:Nat->df) (a:Jl->Prop) (l:∀h h',a h->(∀o,h.get? T=a5 o->h'.get? T=a5 o)->a h')
  (m:∀(s:d4) (i:Nat) (E:df->d4->Prop) (Q:Option df->d4->Prop),i<=es.size->a s.heap->g9 s.heap I (first i) i S es.size ep->s.heap.get? S=a5 (ox es ep t) ->
   (∀x,c[i]?=a5 x->∀h',g9 h' I (first (i+1)) (i+1) S es.size ep->mA I s.heap h'->Q (a5 x) {s with heap:=h' }) ->
   (c[i]?=b8->∀h',(∀b o,b≠I->s.heap.get? b=a5 o->h'.get? b=a5 o)->Q b8 {s with heap:=h' })->dV (eh prog w) A (Tg (.ref I)) Q E s) :
  Walks prog w A I [I,S,T] [I] es.size (λi v=>c[i]?=a5 v) (λi h=>i<=es.size/\g9 h I (first i) i S es.size ep/\h.get? S=a5 (ox es ep t)/\a h) where
 sub:=λb d=>by rw[hV.mp d];simp
 frame:=λi h h' x hk=>⟨x.1,x.2.1.at λo e=>hk I (by simp) o e,hk S (by simp) _ x.2.2.1,l h h' x.2.2.2 λo e=>hk T (by simp) o e⟩
 item:=λi s Q E q x f=>by
  show m s i E Q x.1 x.2.2.2 x.2.1 x.2.2.1 (λv g h' j hs=>?_) λz=>absurd z (by simp;lia);show f v h' s.toks g ⟨q,j,?_,l _ h' x.2.2.2 λo e=>?_⟩ λb o d e=>?_
  .rw[hs.2 S n];show x.2.2.1
  .rw[hs.2 T p];show e
  .rw[hs.2 b λz=>d (by simp[z])];show e
 done:=λs Q E x f=>by
  show m s es.size E Q x.1 x.2.2.2 x.2.1 x.2.2.1 (λv g=>absurd g (by rw[SQ ⋯];simp)) λ_ h' hk=>f h' s.toks λb o d e=>hk b o (λz=>d (by simp[z])) e
 self:=λi s Q E x f=>AA x.2.1 f
def oy(ho:s.heap.get? S=a5 (ox es ep t))(a:t.fits es.size=bD)(h:Q (!w.params.followText "set-order"&&(!t.plain&&cn (es.size>1))) s):dV (eh prog w) A (setDrawn S) Q E s:=by
 unfold setDrawn;show b6 (l0 ho rfl a ?_)
 dsimp only
 show b6 (cR (c2 h))
def oz(a:w.params.followText "set-order"=bD)(ho:s.heap.get? S=a5 (ox es ep t))(b:t.fits es.size=bD)
  (h:Q ((Xa (w.params.setOrder S ep) es)[i]?.map λe=>(e.2,0)) s):dV (eh prog w) A (VY S 0 i ep) Q E s:=by
 unfold VY;show b6 (l0 ho rfl b ?_)
 dsimp only
 show b6 (cR ?_);change dV _ _ (if (w.params.followText "set-order")=bD then _ else _) _ _ s;rw[ĝ a];rw[Ğ (by simp)];unfold setWalk;show b6 (b6 (l0 ho rfl b ?_))
 dsimp only
 show b6 (cR ?_);change dV _ _ (if (w.params.followText "set-order")=bD then _ else _) _ _ s;rw[ĝ a];show b6 (Qo (c2 ?_));show c2 h
theorem pR(hw:w.params.followText "set-order"=cc)(ho:s.heap.get? S=a5 (ox es ep t))(hf:t.fits es.size=bD)(hl:t.led=bD)(h1:es.size<=1)
    (h:Q (match es[LH t.place slot]?,t.place[LH t.place slot]? with|some (_,x),a5 j=>a5 (x,j+1)|_,_=>b8) s):dV (eh prog w) A (VY S slot i ep) Q E s:=by
  unfold VY;refine b6 (l0 ho rfl hf ?_)
  dsimp only
  refine b6 (cR ?_);show dV _ _ (if (w.params.followText "set-order")=bD then _ else _) _ _ s;rw[Ğ (by rw[hw];simp)];show dV _ _ (if (!t.plain&&cn (es.size>1))=bD then _ else _) _ _ s
  rw [if_neg (by have : decide (es.size > 1) = false := decide_eq_false (by lia)
                 rw[this];simp)]
  show dV _ _ ((if (!t.led&&!es.isEmpty)=bD then _ else _) >>= _) _ _ s;rw[Ğ (by rw[hl];simp)];exact b6 (c2 (c2 h))
def pS(es:Array (Int×df))(a:Array Nat)(i:Nat)(c:es.size<=1)(d:a.size=es.size)(b:i<=es.size):
  (match es[LH a (if i=0 then 0 else(a[0]?).getD 0+1)]?,a[LH a (if i=0 then 0 else(a[0]?).getD 0+1)]? with|some (_,x),a5 j=>a5 (x,j+1)|_,_=>b8)=es[i]?.map λe=>(e.2,(a[0]?).getD 0+1):=by
 have⟨es⟩:=es;have⟨a⟩:=a
 match es,a,c,d,b with
 |[],[],_,_,b=>simp
 |[e],[p],_,_,b =>
  match i,b with
  |0,_ =>
   have:LH #[p] 0=0:=by simp[LH,Wb]
   simp[this]
  |1,_ =>
   have:LH #[p] (p+1)=1:=by simp[LH,Wb]
   simp[this]
  |n+2,h=>simp at h
 |[],_::_,_,h,_=>simp at h
 |[_],[],_,h,_=>simp at h
 |[_],_::_::_,_,h,_=>simp at h
 |_::_::_,_,h,_,_=>simp at h
def xm(G:B.handled=b8)(hS:aR prog w s.heap S (aF w) D)
  (h:∀(I:d7) (fp:List d7) (n:Nat) (P:Nat->df->Prop) (St:Nat->Jl->Prop) (c:List Str) (h':Jl) (d':Drawn),Walks prog w B I fp [I] n P St->c.Perm D->n=c.length->(∀i v,P i v->∃x Y,c[i]?=a5 x/\v=.str x Y)->s.heap.objs.size<=I->(∀b∈fp,b=S\/s.heap.objs.size<=b)->St 0 h' ->
   (∀b o,s.heap.get? b=a5 o->h'.get? b=a5 o)->Q (.ref I) {s with heap:=h',drawn:=d' }):dV (eh prog w) A (Yv (.ref S)) Q E s:=by
 have⟨L,es,ep,t,ho,Jx,IC,IW,a,d,Jz,Jv⟩:=hS;have UJ:s.TypeIs (.ref S) "set":=⟨_,ho,rfl⟩
 have Md:S<s.heap.objs.size:=d6 ho;show Û UJ PySem.F.slot_set_iter (JQ PySem.F.slot_set_iter UJ SI.kP ?_ (PySem.F.args_set_iter_1 _));unfold NR.«frozenset.__iter__» Z9 slotArgs;simp only[List.isEmpty_nil,Ø,Li,↓reduceIte,bind_assoc,VI,bne_self_eq_false];unfold TB P1;show b6 (c2 ?_)
 try dsimp only
 show b6 (c2 ?_);show b6 (b6 (RA ho rfl a (c2 ?_)));have WI:D.length=es.size:=by rw[<-IC.length_eq,c4,<-fx,Jx,c4]
 have f:∀(l:List (Int×df)),l.Perm es.toList->∃c:List Str,c.Perm D/\c.length=es.size/\∀(i:Nat) (v:df),(l.map (·.2))[i]?=a5 v->∃(x:Str) (Y:Tok),c[i]?=a5 x/\v=tr x Y:=by
  intro l hl;rw[Jx]at hl;have⟨L',e',p'⟩:=di hl;show⟨L'.map (·.1),(p'.map _).trans IC,by rw[((p'.map _).trans IC).length_eq,WI],λi v H=>?_⟩;subst e';rw[ke,ki]at H;rw[ki];cases q:L'[i]? with
  |none=>rw[q]at H;simp at H
  |some p=>rw[q]at H;simp at H;show⟨p.1,p.2,rfl,H.symm⟩
 show b6 (oy ho a ?_);cases hw:w.params.followText "set-order" with
 |true =>
  simp only[Ø,Ê,Li,↓reduceIte];show b6 (c2 ?_);show b6 (b6 (l0 ho rfl a (c2 ?_)));show b6 (wq ?_);have u:S≠s.heap.objs.size:=hH Md;have⟨c,J,N,O⟩:=f (Xa (w.params.setOrder S ep) es).toList (dS _ _);have W:=kQ (prog:=prog) (w:=w) (A:=B) (I:=s.heap.objs.size) (S:=S) (es:=es) (ep:=ep) (t:=t) G u a S u ((Xa (w.params.setOrder S ep) es).toList.map (·.2)) (by rw[c4,(dS _ _).length_eq,fx]) (λ_=>u6 0) (λ_=>True) (λ_ _ _ _=>trivial)
   (λs i E Q _ _ g y k1 k2=>xk (slot:=0) g y a G (λB E' Q' q=>oz hw y a q) (λx nx e h' T hs=>by
    rw[et]at e;have⟨p,C,e2⟩:=e;cases e2;show k1 _ (by rw[ki,oe,C];rfl) h' T hs) (λe=>k2 (by rw[ki,oe,R0];rwa [R0]at e)))
  show c2 ⟨_,rfl,"set_iterator",_,⟨_,ez _ rfl,rfl⟩,SI.slot_next.lookup,?_⟩;show h _ _ _ _ _ c _ s.drawn W J N.symm O (gj _) (λb d=>by
   simp only[d3,K2,or_false]at d;rcases d with rfl|rfl|rfl
   .show .inr (gj _)
   .show .inl rfl
   .show .inl rfl) ⟨i7 _,⟨_,ez _ rfl,rfl,rfl⟩,cL _ ho,trivial⟩ λb o e=>cL _ e
 |false =>
  by_cases hsz:es.size>1
  .have JG:t.plain=cc:=by
    rcases Jv with z|z
    .lia
    .show z
   have C:(!cc&&(!t.plain&&cn (es.size>1)))=bD:=by rw[JG,Ġ hsz];rfl
   rw[C];simp only[↓reduceIte];show b6 (gM _ _ _ _ ve λm d' hp=>?_);simp only[Ċ];have MV:∀j∈m,j<es.size:=λj hj=>by have:=hp.mem_iff.mp hj;simpa using this
   have PD:m.length=es.size:=by rw[hp.length_eq];simp
   show b6 (wq ?_ (by
    change(m.map λ(j:Nat)=>u6 j).toArray.size<=_;have:es.size<4096:=d;simp only[ei,c4,PD];have:(4096:Nat)<=cK:=by decide
    lia))
   have LJ:(s.heap.push {cls:=.type "tuple",data:=.seq (m.map λ(j:Nat)=>u6 j).toArray}).get? S=a5 (ox es ep t):=cL _ ho;show b6 (b6 (l0 (s:={s with heap:=_,drawn:=d' }) LJ rfl a (c2 ?_)));show b6 (wq ?_);have WJ:s.heap.objs.size≠(s.heap.push {cls:=.type "tuple",data:=.seq (m.map λ(j:Nat)=>u6 j).toArray}).objs.size:=by rw[Mt];show hH (Oy _)
   have u:S≠(s.heap.push {cls:=.type "tuple",data:=.seq (m.map λ(j:Nat)=>u6 j).toArray}).objs.size:=by rw[Mt];show hH (RX Md)
   have N0:(m.map λj=>(es[j]?).getD (0,mN)).Perm es.toList:=by
    show(hp.map _).trans ?_;have:(eH es.size).map (λj=>(es[j]?).getD (0,mN))=es.toList:=by
     apply L4
     .simp
     .intro i h1 h2;simp at h1 ⊢;simp[h1]
    rw[this]
   have⟨c,J,N,O⟩:=f _ N0;have W:=kQ (prog:=prog) (w:=w) (A:=B) (I:=(s.heap.push {cls:=.type "tuple",data:=.seq (m.map λ(j:Nat)=>u6 j).toArray}).objs.size) (S:=S) (es:=es) (ep:=ep) (t:=t) G u a s.heap.objs.size WJ ((m.map λj=>(es[j]?).getD (0,mN)).map (·.2)) (by simp[PD]) (λ_=>.ref s.heap.objs.size) (λh=>h.IsTuple s.heap.objs.size (m.map λ(j:Nat)=>u6 j).toArray) (λh h' ⟨o,ho,r⟩ k=>⟨o,k _ ho,r⟩)
    (λs' i E Q _ Ly g y k1 k2=>DE g y a G Ly (λj e ej ee h' T hs=>k1 _ (by rw[ki,ki,ej];simp[ee]) h' T hs) MV (λe=>k2 (by rw[ki,ki,e];rfl)))
   show c2 ⟨_,rfl,"set_iterator",_,⟨_,ez _ rfl,rfl⟩,SI.slot_next.lookup,?_⟩;show h _ _ _ _ _ c _ d' W J N.symm O (by rw[Mt];show MO _) (λb d=>?_) ⟨i7 _,⟨_,ez _ rfl,rfl,rfl⟩,cL _ LJ,⟨_,cL _ (ez _ rfl),rfl,_,rfl⟩⟩ λb o e=>cL _ (cL _ e);rw[Mt]at d;simp only[d3,K2,or_false]at d;rcases d with rfl|rfl|rfl
   .show .inr (MO _)
   .show .inl rfl
   .show .inr (gj _)
  .have C:(!cc&&(!t.plain&&cn (es.size>1)))=cc:=by rw[ğ hsz];simp
   rw[C];simp only[Li,↓reduceIte];show b6 (c2 ?_);show b6 (b6 (l0 ho rfl a (c2 ?_)));show b6 (wq ?_);have u:S≠s.heap.objs.size:=hH Md;have WK:t.led=bD:=by rw[Jz];change(!w.params.followText "set-order")=bD;rw[hw];rfl
   have⟨c,J,N,O⟩:=f es.toList (.refl _);have K7:t.place.size=es.size:=by
    unfold Rf at a;simp only[cb,beq_iff_eq]at a;show a.1
   have W:=kQ (prog:=prog) (w:=w) (A:=B) (I:=s.heap.objs.size) (S:=S) (es:=es) (ep:=ep) (t:=t) G u a S u (es.toList.map (·.2)) (by simp) (λi=>u6 ((if i=0 then 0 else(t.place[0]?).getD 0+1:Nat):Nat)) (λ_=>True) (λ_ _ _ _=>trivial)
    (λs' i E Q hi _ g y k1 k2=>xk (slot:=if i=0 then 0 else(t.place[0]?).getD 0+1) g y a G (λB E' Q' q=>pR hw y a WK ⋯ q) (λx nx e h' T hs=>by
     rw[pS es t.place i ⋯ K7 hi,et]at e;have⟨p,C,e2⟩:=e;cases e2;show k1 _ (by rw[ki,oe,C];rfl) h' ?_ hs;rw[Ğ (Nat.succ_ne_zero i)];show T) (λe=>by
     rw[pS es t.place i ⋯ K7 hi,R0]at e;show k2 (by rw[ki,oe,e];rfl)))
   show c2 ⟨_,rfl,"set_iterator",_,⟨_,ez _ rfl,rfl⟩,SI.slot_next.lookup,?_⟩;show h _ _ _ _ _ c _ s.drawn W J N.symm O (gj _) (λb d=>by
    simp only[d3,K2,or_false]at d;rcases d with rfl|rfl|rfl
    .show .inr (gj _)
    .show .inl rfl
    .show .inl rfl) ⟨i7 _,⟨_,ez _ rfl,rfl,rfl⟩,cL _ ho,trivial⟩ λb o e=>cL _ e
end
def pT:Qq (.type "set") "__len__"=pure (a5 (.builtin "set.__len__")):=by rw[Rv,Ol];kernel_rfl
section
theorem kR:∀{vs:List df}{a:List Str},vs.length=a.length->(∀(i:Nat) (v:df),vs[i]?=a5 v->∃x t,a[i]?=a5 x/\v=.str x t)->Qi vs a
 |[],[],_,_=>.nil
 |[],_::_,h,_=>by simp at h
 |_::_,[],h,_=>by simp at h
 |v::vs,y::a,h,k=>by
  have⟨x,t,b,c⟩:=k 0 v rfl;cases b;subst c;show .cons y t (kR (by simpa using h) λi w d=>k (i+1) w d)
def pU(J:A.handled=b8)(N:aR prog w s.heap S (aF w) D)(O:D.length<=cK)
  (T:∀(vs:List df) (c:List Str) (h':Jl) (d':Drawn) (h:Nat),c.Perm D->Qi vs c->s.heap.objs.size<=h'.objs.size->s.toks<=h->(∀b o,s.heap.get? b=a5 o->h'.get? b=a5 o)->Q vs {s with heap:=h',drawn:=d',toks:=h}) :
  dV (eh prog w) A (ZA (.ref S)) Q E s:=by
 have⟨L,es,ep,t,ho,rest⟩:=id N;have Y:S<s.heap.objs.size:=d6 ho;unfold ZA;show b6 (Yr (KQ PySem.F.entry_proto_collect ?_));rw[NZ PySem.F.plain_proto_collect _];change dV _ A.in1 (á [] >>= λl=>đ (.builtin "list.__iadd__" ⟨[l,.ref S],[]⟩)) _ _ s;show b6 (wq ?_);show c2 ⟨Sq PySem.F.plain_list_iadd _,KQ PySem.F.entry_list_iadd ?_⟩;rw[NZ PySem.F.plain_list_iadd _];have f:(s.heap.push {cls:=.type "list",data:=.seq ([]:List df).toArray}).get? S=a5 {cls:=.type "set",dict:=b8,data:=.set es ep t}:=cL _ ho;have hT:RF {s with heap:=s.heap.push {cls:=.type "list",data:=.seq ([]:List df).toArray}} (.ref S) "set":=⟨_,f,rfl⟩
 change dV _ A.in1 (r6 (.ref s.heap.objs.size) (.ref S) (.ref s.heap.objs.size)) _ _ _;unfold r6;show b6 (VP hT ?_);have j:s.heap.objs.size≠S:=KX Y;have h1:NU (.ref s.heap.objs.size) (.ref S)=cc:=by simp[NU,j]
 have h2:(ro "set"==ro "list")=cc:=by decide
 have h3:(ro "set"==ro "tuple")=cc:=by decide
 simp only[h1,h2,h3,X',Li,if_false];show b6 (xm (B:=A.in1) (by simpa using J) ⟨L,es,ep,t,f,rest⟩ ?_);intro I fp n P St c h' d' W k m hP p Sz II hk;have g:RF {s with heap:=h',drawn:=d' } (.ref S) "set":=⟨_,hk _ _ f,rfl⟩
 show b6 (ti ?_);unfold Ud;show b6 (TJ g pT ?_);have J9:splitId "set.__len__"=a5 ("set","__len__"):=by decide +kernel
 dsimp only
 rw[J9]
 dsimp only
 show b6 (O7 g VX ?_);rw[Ğ (by decide)];rw[ĝ (by decide +kernel)];show b6 (VP g ?_);show c2 ?_;rw[ĝ (by decide +kernel)];have q:s.heap.objs.size∉fp:=λa=>by
  rcases Sz _ a with z|z
  .show j z
  .rw[Mt]at z;show absurd z (Nat.not_succ_le_self _)
 have r:h'.get? s.heap.objs.size=a5 {cls:=.type "list",data:=.seq ([]:List df).toArray}:=hk _ _ (ez _ rfl);show b6 (OC ?_);show b6 ?_;change dV _ A.in1 (ò s.heap.objs.size (·.push .none) >>= λ_=>ò s.heap.objs.size (·.pop)) _ _ _;show b6 (Rt r rfl ?_);have u:=tj (nC (·.push mN)) r rfl;show Rt u rfl ?_;have WL:=tj (nC (·.pop)) u rfl;have x:∀b o,b≠s.heap.objs.size->h'.get? b=a5 o->((h'.update s.heap.objs.size (nC (·.push mN))).update s.heap.objs.size (nC (·.pop))).get? b=a5 o :=
  λb o d e=>(ML _ _ (ri d)).trans ((ML _ _ (ri d)).trans e)
 show c2 ⟨Sq PySem.F.plain_extend_loop _,Z5 W.toS (by rw[m,k.length_eq];show O) _ q _ n 0 _ _ _ rfl (i7 _) (W.frame 0 h' _ II λb d o e=>x b o (λz=>q (z▸d)) e) WL (Ä P) λs' JA c' a y C=>?_⟩;change dV _ A (load s.heap.objs.size >>= _) _ _ s';show b6 (Ë y ?_);have⟨QK,g2,G,WM,WN⟩:=s';have eg:g2=s.gens:=a.gens;have ed:G=d':=a.drawn;have eo:WN=s.os:=a.os;subst eg;subst ed;subst eo;show c2 (T _ c QK G WM k (kR (by rw[fx,C.1,m]) λi v hv=>hP i v (C.2 i v (by rwa [oe]at hv))) (PX (d6 y)) a.toks λb o e=>?_);have H:b≠s.heap.objs.size:=λz=>by rw[z]at e;show absurd (d6 e) (uk _)
 show a.heap b o (λz=>?_) (x b o H (hk _ _ (cL _ e)));rcases d3.mp z with z|z
 .show H z
 .rw[hV.mp z]at e;have:=d6 e;rw[Mt]at p;show absurd (i2 this (wh (MO _) p)) (uk _)
end
section
def Inv.drawn(I:Inv X pins σ H s)(d:Drawn):Inv X pins σ H {s with drawn:=d}:=⟨I.ok,I.os,I.bare,I.base,I.loc,I.cell,I.free,I.Ja,I.pin,I.IB,I.len⟩
def oA(j:X.calm=bD)(I:Inv X pins σ H s)(hq:Jh X.K H p (c.map V.str)\/Ju X.K H p (c.map V.str))(g:c.length+1<zy)
  (h:∀(S:d7) (h':Jl) (a:Nat),aR X.prog X.w h' S (aF X.w) (aB c)->Inv X pins σ H {s with heap:=h',toks:=a}->Q (.ref S) {s with heap:=h',toks:=a}) :
  dV (eh X.prog X.w) X.A (NQ (.type "set") [.ref p]) Q X.xe s:=by
 have i:X.A.handled=b8:=I.ok.hd j;rcases hq with hq|hq
 .have⟨l,rv,d,hz⟩:=I.list hq;show fT i d.isList (cQ rv) g λh' a f k=>h _ h' a f (I.kept λb o e=>k b o (d6 e) e)
 .have⟨l,rv,d,hz⟩:=I.tuple hq;show gL i d (cQ rv) g λh' a f k=>h _ h' a f (I.kept λb o e=>k b o (d6 e) e)
def gN(h:X.calm=bD)(I:Inv X pins σ H s)(i:aR X.prog X.w s.heap S (aF X.w) D)(c:D.length<64)
  (q:∀p,H p=b8->Q (.ref p) (upd H p (.lst ((aP D).map V.str)))):dV (eh X.prog X.w) X.A (NQ (.builtin "sorted") [.ref S]) (EP X pins σ Q) X.xe s:=by
 have j:X.A.handled=b8:=I.ok.hd h;have hl:D.length<=cK:=PX (i2 c (by decide));show fw (pU (A:=X.A.in1) (by simpa using j) i hl λvs k h' d' a d f hsz n hk=>⟨k,f,by rw[iE f,d.length_eq];show c,λr l e k2 b s2=>?_⟩);rw[fS d]at s2;have m:Inv X pins σ H {s with heap:=h',toks:=a}:=I.kept (t':=a) hk;have g:Inv X pins σ H {s with heap:=h',drawn:=d',toks:=a}:=m.drawn d';show⟨.ref h'.objs.size,_,g.laid (t':=a) (o:=.lst ((aP D).map V.str)) k2 (gj _) ⟨by rw[c4,cG];show hl,l,e,dJ s2,b⟩,rfl,q _ (g.IB.fresh (gj _))⟩
def rB(I:Inv X pins σ H s)(b:aR X.prog X.w s.heap S (aF X.w) D)
  (q:Q (.int D.length) H):dV (eh X.prog X.w) X.A (NQ (.builtin "len") [.ref S]) (EP X pins σ Q) X.xe s:=by
 have⟨L,es,ep,t,ho,c,d,i,g,h,j,k⟩:=b;have a:es.size=D.length:=by rw[<-fx,c,c4,<-c4 (f:=È) (as:=L),d.length_eq]
 have l:es.size<4096:=h;show call_len_set ho ⟨rfl,rfl,rfl⟩ rfl g ⋯ ?_;show⟨.int es.size,_,I.kept (t':=s.toks+1+1) (λ_ _ e=>e),⟨_,rfl⟩,by rw[a];show q⟩
end
end L2
namespace L2
open PySem
abbrev dU(mask:Nat):Nat->Nat×Nat->Nat×Nat
 |0,q=>q
 |t+1,q=>dU mask t (ZF mask q.1 q.2)
theorem mP(mask:Nat):∀(a b:Nat) (q:Nat×Nat),dU mask (a+b) q=dU mask b (dU mask a q)
 |0,b,q=>by rw[PV];rfl
 |a+1,b,q=>by rw[show a+1+b=(a+b)+1 by lia];show mP mask a b _
theorem mQ(mask:Nat):∀(t:Nat) (q:Nat×Nat),(dU mask t q).2=q.2 / 32 ^ t
 |0,q=>by simp[dU]
 |t+1,q=>by
  change(dU mask t (ZF mask q.1 q.2)).2=_;rw[mQ mask t];change q.2 / 32 / 32 ^ t=_;rw[Nat.div_div_eq_div_mul,Nat.pow_succ,Nat.mul_comm]
theorem pV(mask:Nat):∀(t:Nat) (q:Nat×Nat),q.1<mask+1->(dU mask t q).1<mask+1
 |0,q,h=>h
 |t+1,q,h=>pV mask t _ (Xi _ (YB _))
abbrev Mh(m:Nat):Nat->Nat->Nat
 |0,i=>i
 |t+1,i=>Mh m t ((i * 5+1) % m)
theorem mR(mask:Nat):∀(t i:Nat),dU mask t (i,0)=(Mh (mask+1) t i,0)
 |0,i=>rfl
 |t+1,i=>by
  change dU mask t ((i * 5+1+0 / 32) % (mask+1),0 / 32)=(Mh (mask+1) t ((i * 5+1) % (mask+1)),0)
  rw[Nat.zero_div,ü];show mR mask t _
theorem j7(m:Nat):∀(a b i:Nat),Mh m (a+b) i=Mh m b (Mh m a i)
 |0,b,i=>by rw[PV];rfl
 |a+1,b,i=>by rw[show a+1+b=(a+b)+1 by lia];show j7 m a b _
abbrev vh(m:Nat):Nat->Nat->List Nat
 |0,_=>[]
 |t+1,i=>i::vh m t ((i * 5+1) % m)
theorem tL(m:Nat):∀(n i t:Nat),t<n->(vh m n i)[t]?=a5 (Mh m t i)
 |0,_,_,h=>by lia
 |n+1,i,0,_=>rfl
 |n+1,i,t+1,h=>by
  change(vh m n ((i * 5+1) % m))[t]?=_;show tL m n _ t ⋯
theorem pW(m:Nat):∀(n i:Nat),(vh m n i).length=n
 |0,_=>rfl
 |n+1,i=>by change(vh m n _).length+1=_;rw[pW m n]
abbrev Full(m:Nat):Bool:=(eH m).all (λj=>(vh m m 0).contains j)&&(Mh m m 0==0)
def Co:Full 8=bD:=by decide +kernel
def xn:Full 16=bD:=by decide +kernel
def xp:Full 32=bD:=by decide +kernel
def xq:Full 64=bD:=by decide +kernel
def tM:Full 128=bD:=by decide +kernel
def vi(h:Full m=bD)(l:i<m)(n:j<m):∃t,t<m/\Mh m t i=j:=by
 unfold Full at h;rw[cb,i6]at h;have⟨o,d⟩:=h;have d:Mh m m 0=0:=by simpa using d
 have get:∀k,k<m->∃a,a<m/\Mh m a 0=k:=λk hk=>by
  have:=o k (tA.mpr hk);rw[List.contains_iff_mem]at this;have⟨a,c⟩:=SN.mp this;have e:a<m:=by have:=(dt.mp c).1;rw[pW]at this;show this
  rw[tL m m 0 a e]at c;show⟨a,e,by simpa using c⟩
 have⟨a,c,f⟩:=get i l;have⟨b,p,g⟩:=get j n;by_cases q:a<=b
 .show⟨b - a,⋯,by rw[<-f,<-j7,show a+(b - a)=b by lia,g]⟩
 .show⟨m - a+b,⋯,?_⟩;rw[<-f,<-j7,show a+(m - a+b)=m+b by lia,j7,d,g]
theorem mS:∀(f i p:Nat),u3 mask owner f i p=b8->∀t,t<f->(owner.getD (dU mask t (i,p)).1 (a5 0)).isNone=cc
 |0,_,_,_,t,h=>by lia
 |f+1,i,p,h,t,b=>by
  unfold u3 at h;cases a:(eH (UU mask i+1 - i)).find? (λk=>(owner.getD (i+k) (a5 0)).isNone) with
  |some k=>rw[a]at h;cases h
  |none =>
   rw[a]at h;cases t with
   |zero =>
    have:=List.find?_eq_none.mp a 0 (tA.mpr (by unfold UU;split<;>lia));rw[ü]at this;change(owner.getD i (a5 0)).isNone=cc;cases e:(owner.getD i (a5 0)).isNone with
    |false=>rfl
    |true=>show absurd e this
   |succ t=>show mS f _ _ h t ⋯
theorem mT:∀(f i p j:Nat),u3 mask owner f i p=a5 j->owner[j]?=a5 b8
 |0,_,_,_,h=>by cases h
 |f+1,i,p,j,h=>by
  unfold u3 at h;cases b:(eH (UU mask i+1 - i)).find? (λk=>(owner.getD (i+k) (a5 0)).isNone) with
  |some k =>
   rw[b]at h;cases h;have a:=List.find?_some b;have c:i+k<owner.size:=by
    show Vq λz=>?_;have:owner.getD (i+k) (a5 0)=a5 0:=by simp[Ur,z]
    rw[this]at a;cases a
   have d:owner.getD (i+k) (a5 0)=owner[i+k]:=by simp[Ur,c]
   rw[d]at a;rw[Ox c];cases e:owner[i+k] with
   |none=>rfl
   |some _=>rw[e]at a;cases a
  |none =>
   rw[b]at h;show mT f _ _ j h
def AB(c:Full (mask+1)=bD){j0:Nat}(a:owner[j0]?=a5 b8)(hsz:owner.size=mask+1)(d:i<mask+1)(f:p<2 ^ 64):∃j,u3 mask owner (Qk mask) i p=a5 j/\owner[j]?=a5 b8:=by
 cases e:u3 mask owner (Qk mask) i p with
 |some j=>show⟨j,rfl,mT _ _ _ _ e⟩
 |none =>
  have g:j0<mask+1:=by rw[<-hsz];show(Array.getElem?_eq_some_iff.mp a).1
  have h:(dU mask 13 (i,p)).2=0:=by
   rw[mQ];show Nat.div_eq_of_lt (U9 f (by decide))
  have⟨t,n,k⟩:=vi c (pV mask 13 (i,p) d) g;have l:dU mask (13+t) (i,p)=(j0,0):=by
   rw[mP,show dU mask 13 (i,p)=((dU mask 13 (i,p)).1,0) from Prod.ext rfl h,mR,k]
  have:=mS _ _ _ e (13+t) (by unfold Qk;lia);rw[l]at this;have m:owner.getD j0 (a5 0)=b8:=by
   have b:j0<owner.size:=by lia
   rw[Ox b]at a;simp[Ur,b];show va a
  rw[m]at this;cases this
abbrev vals(L:List (Option Nat)):List Nat:=L.filterMap id
theorem pX:∀{L:List (Option Nat)}{j:Nat},L[j]?=a5 b8->(vals (L.set j (a5 k))).Perm (k::vals L)
 |[],j,h=>by simp at h
 |x::L,0,h=>by
  have:x=b8:=by simpa using h
  subst this;show Ni _
 |x::L,j+1,h=>by
  have a:=pX (k:=k) (L:=L) (j:=j) (by simpa using h);cases x with
  |none=>show a
  |some y =>
   change(y::vals (L.set j (a5 k))).Perm (k::y::vals L);show(Zk y a).trans (Ze k y _)
theorem mU:∀{L:List (Option Nat)},(vals L).length<L.length->∃j:Nat,L[j]?=a5 b8
 |[],h=>by simp at h
 |none::L,_=>⟨0,rfl⟩
 |some y::L,h=>by
  have⟨j,a⟩:=mU (L:=L) (by
   have:(vals L).length+1<L.length+1:=h;lia)
  show⟨j+1,by simpa using a⟩
theorem xr(d:Full (mask+1)=bD):∀(hs:List Int) (owner:Array (Option Nat)) (k:Nat),owner.size=mask+1->(vals owner.toList).Perm (eH k)->k+hs.length<=mask ->
  ∃c,hs.foldl (λacc h=>do
   let (owner,k) <-acc
   let j <-u3 mask owner (Qk mask) (Oo h % (mask+1)) (Oo h)
   pure (owner.setIfInBounds j (a5 k),k+1)) (a5 (owner,k))=a5 (c,k+hs.length)/\c.size=mask+1/\(vals c.toList).Perm (eH (k+hs.length))
 |[],owner,k,a,b,_=>⟨owner,rfl,a,b⟩
 |h::hs,owner,k,a,b,f=>by
  rw[i0]at f;have⟨j0,g⟩:=mU (L:=owner.toList) (by rw[b.length_eq,ve,fx];lia);have⟨j,e,l⟩:=AB d (owner:=owner) (j0:=j0) (by rw[<-oe];show g) a (i:=Oo h % (mask+1)) (p:=Oo h) (Xi _ (YB _)) (by unfold Oo;lia);have m:owner.toList[j]?=a5 b8:=by rw[oe];show l
  have n:(vals (owner.setIfInBounds j (a5 k)).toList).Perm (eH (k+1)):=by
   rw[Array.toList_setIfInBounds,Á];show(pX m).trans ((Zk k b).trans (List.perm_append_singleton k _).symm)
  have⟨o,q,r,s⟩:=xr d hs (owner.setIfInBounds j (a5 k)) (k+1) (by rw[Array.size_setIfInBounds];show a) n ⋯;show⟨o,?_,r,by rw[show k+(h::hs).length=k+1+hs.length by simp;lia];show s⟩;rw[Sx,show k+(h::hs).length=k+1+hs.length by simp;lia,<-q];congr 1
  change(u3 mask owner (Qk mask) (Oo h % (mask+1)) (Oo h)).bind _=_;rw[e];rfl
def rC(L:List (Option Nat)):(eH L.length).filterMap (λj=>L.getD j b8)=vals L:=by
 have h:(eH L.length).map (λj=>L.getD j b8)=L:=by
  apply L4
  .simp
  .intro i b a;simp[Ov,a]
 have a:vals ((eH L.length).map (λj=>L.getD j b8))=vals L:=Ģ vals h;unfold vals at a;rw[List.filterMap_map]at a;show a
def tN{led plain:Bool}(e:Full (mask+1)=bD)(f:hs.size<=mask):∃t a,SV mask finger moves led plain hs=a5 (t,a)/\t.fits hs.size=bD/\t.led=led/\t.plain=plain/\t.mask=mask/\t.dummies=#[]/\a.toList.Perm (eH hs.size):=by
 have⟨owner,c,g,b⟩:=xr e hs.toList (Array.replicate (mask+1) b8) 0 (by simp) (by
  have:∀n:Nat,vals (i3 n b8)=[]:=λn=>by
   induction n with
   |zero=>rfl
   |succ n h=>rw[List.replicate_succ];show h
  rw[Array.toList_replicate,this];show Ni _) (by rw[fx];lia)
 rw[PV,fx]at c b;have i:Q5 mask hs=a5 owner:=by
  unfold Q5;rw[<-Array.foldl_toList];rw[c];rfl
 have k:((eH (mask+1)).filterMap λj=>owner.getD j b8)=vals owner.toList:=by
  rw[<-rC,fx,g];congr 1
  funext j
  simp only[Array.getD_eq_getD_getElem?,W8,oe]
 have d:(((eH (mask+1)).filterMap λj=>(owner.getD j b8).map (j,·)).map (·.2))=vals owner.toList:=by
  rw[<-k,List.map_filterMap];congr 1
  funext j
  cases owner.getD j b8<;>rfl
 have hl:((eH (mask+1)).filterMap λj=>(owner.getD j b8).map (j,·)).length=hs.size:=by
  have:=Ģ K1 d;rw[c4,b.length_eq,ve]at this;show this
 show⟨_,_,by unfold SV;rw[i];rfl,?_,rfl,rfl,rfl,rfl,?_⟩
 .unfold Rf VG;simp only[ei,c4,hl];simp;show f
 .change(((eH (mask+1)).filterMap λj=>(owner.getD j b8).map (j,·)).map (·.2)).Perm _;rw[d];show b
end L2
namespace L2
open PySem PySem.Spec PyProof.Rows
abbrev DF(P:u7)(w:DD)(p:Str×Tok):Int×df:=((sK P w).hash p.1,tr p.1 p.2)
section
def aR.perm(b:aR prog w h a led D)(p:D.Perm c):aR prog w h a led c :=
 let ⟨L,es,ep,t,d,e,f,g,i⟩:=b;⟨L,es,ep,t,d,e,f.trans p,p.nodup_iff.mp g,i⟩
def aR.at(b:aR prog w h a led D)(k:∀o,h.get? a=a5 o->h'.get? a=a5 o):aR prog w h' a led D :=
 let ⟨L,es,ep,t,c,d⟩:=b;⟨L,es,ep,t,k _ c,d⟩
def aR.sz{h:Jl}{a:d7}{led:Bool}{D:List Str}{L:List (Str×Tok)}{es:Array (Int×df)}(b:es.toList=L.map (λp=>((sK prog w).hash p.1,tr p.1 p.2)))(c:(L.map (·.1)).Perm D):es.size=D.length:=by
 rw[<-fx,b,c4,<-c.length_eq,c4]
def aR.of(g:aR prog w h a led D):h.SetOf (sK prog w) a (λx=>cn (x∈D)) D.length:=by
 have⟨L,es,ep,t,ho,b,d,l,i,j,m,n⟩:=g;show⟨_,es,ep,t,ho,⟨rfl,rfl,rfl⟩,rfl,by rw[b];show kM,λx=>?_,j,i,aR.sz (h:=h) (a:=a) (led:=led) b d⟩;rw[Ĝ,b,<-d.mem_iff,js];constructor
 .rintro⟨p,c,e⟩;show⟨_,js.mpr ⟨p,c,rfl⟩,by rw[gK];simp[e]⟩
 .rintro⟨e,k,f⟩;have⟨p,c,rfl⟩:=js.mp k;rw[gK,Ĝ]at f;show⟨p,c,f.symm⟩
def pY(b:aR prog w s.heap a led D)(h:∀r:Option Nat,r.isSome=cn (x∈D)->Q r s):
  dV (eh prog w) A (setFind a (.str x c) ((sK prog w).hash x)) Q E s :=
 wpAny_setFind_of (knd:=sK prog w) (by rw[gK];simp) rfl b.of h
def eZ{L':List (Str×Tok)}(ho:s.heap.get? a=a5 {cls:=.type "set",dict:=b8,data:=.set es ep t})(f:b.toList=L'.map (λp=>((sK prog w).hash p.1,tr p.1 p.2)))(g:(L'.map (·.1)).Perm c)(i:c.Nodup)
  (j:t'.fits b.size=bD) (d:b.size<zy) (hl:t'.led=led) (k:b.size=0\/t'.plain=cc) (h:∀h',mA a s.heap h'->h'.get? a=a5 {cls:=.type "set",dict:=b8,data:=.set b (ep+1) t' }->aR prog w h' a led c->Q () {s with heap:=h' }) :
  dV (eh prog w) A (storeSet a b t') Q E s:=by
 show VR ho rfl ?_ (V8 d);have e:(s.heap.update a (Pq b t')).get? a=a5 {cls:=.type "set",dict:=b8,data:=.set b (ep+1) t' }:=tj (Pq b t') ho rfl;show h _ (wz s.heap a (Pq b t')) e ⟨L',b,ep+1,t',e,f,g,i,j,d,hl,k⟩
def fz(xs:Array α)(i:Nat):(PJ xs i).toList=xs.toList.eraseIdx i:=by
 unfold PJ;rw[Array.toList_append,YK,YK,H8];simp[List.extract];rw[MS (by simp)]
def vj{t:O4}(h:t.fits n=bD)(e:i<n):(t.drop i).fits (n - 1)=bD:=by
 simp only[Rf,cb,beq_iff_eq,Ĝ]at h;have⟨f,b⟩:=h;have a:i<t.place.size:=by lia
 have c:(PJ t.place i).size=t.place.size - 1:=by
  rw[<-fx,fz,YS,ĝ (by simpa using a),fx]
 have d:∀p x,(SetTable.insertAt t.dummies p x).size=t.dummies.size+1:=λp x=>by
  have:=(SetTable.insertAt_perm t.dummies p x).length_eq;rw[fx,fx,Array.size_push]at this;show this
 unfold ZG;rw[Ox a];simp only[Rf,VG,cb,beq_iff_eq,Ĝ,c,d]at b ⊢;constructor<;>lia
def xt(t:O4)(i:Nat):(t.drop i).led=t.led/\(t.drop i).plain=t.plain:=by
 unfold ZG;split<;>show⟨rfl,rfl⟩
theorem erase_filter:∀{l:List Str}{j:Nat}{x:Str},l.Nodup->l[j]?=a5 x->l.eraseIdx j=l.filter λy=>cn (y≠x)
 |[],j,x,_,h=>by simp at h
 |y::l,0,x,a,h=>by
  have⟨b,c⟩:=mh.mp a;have:y=x:=by simpa using h
  subst this;rw[List.eraseIdx_cons_zero,PB (by simp)];show(QD.mpr λz hz=>by
   have:z≠y:=λe=>b (e▸hz);simpa using this).symm
 |y::l,j+1,x,a,h=>by
  have⟨b,c⟩:=mh.mp a;have d:l[j]?=a5 x:=by simpa using h
  have:y≠x:=λe=>b (e▸my d);rw[R9,erase_filter c d,Pz (by simpa using this)]
theorem fU(f:α->β):∀(l:List α) (j:Nat),(l.map f).eraseIdx j=(l.eraseIdx j).map f
 |[],_=>rfl
 |x::l,0=>rfl
 |x::l,j+1=>by
  change f x::(l.map f).eraseIdx j=f x::(l.eraseIdx j).map f;rw[fU f l j]
def pZ{a:d7}{led:Bool}{D:List Str}{x:Str}{k:Tok}{Q:Bool->d4->Prop}(l:aR prog w s.heap a led D)(h:∀b h',mA a s.heap h'->aR prog w h' a led (D.filter λy=>cn (y≠x))->Q b {s with heap:=h' }):
  dV (eh prog w) A (ó a (.str x k) ((sK prog w).hash x)) Q E s:=by
 have u:=l;have⟨L,es,ep,t,ho,c,d,m,f,v,B,C⟩:=l;have G:(sK prog w).is x (.str x k)=bD:=by rw[gK];simp
 have n:ElemsOf (sK prog w) es.toList:=by rw[c];show kM
 have hsz:=aR.sz (h:=s.heap) (a:=a) (led:=led) c d;unfold ó setFind setFindIn;show b6 (b6 (l0 ho rfl f ?_))
 dsimp only
 rw[byScan_of (knd:=sK prog w) rfl v n];simp only[↓reduceIte];show b6 (OC ?_);show b6 (î (knd:=sK prog w) G ho rfl f n ?_);cases o:X4 (λe=>(sK prog w).is x e.2) es.toList with
 |none =>
  dsimp only
  show c2 (c2 ?_);have g:x∉D:=λg=>by
   rw[<-d.mem_iff,js]at g;have⟨p,H,e⟩:=g;have I:((sK prog w).hash p.1,tr p.1 p.2)∈es.toList:=by rw[c];show js.mpr ⟨p,H,rfl⟩
   have:=Xl.mp o _ I;rw[gK,decide_eq_false_iff_not]at this;show this e.symm
  have e:D.filter (λy=>cn (y≠x))=D:=QD.mpr λz hz=>by
   have:z≠x:=λe=>g (e▸hz);simpa using this
  have J:s={s with heap:=s.heap}:=by cases s;rfl
  rw[J];show h cc s.heap (Je a s.heap) (by rw[e];show u)
 |some j =>
  dsimp only
  obtain⟨i,q,_⟩:=UP.mp o;rw[PV];show c2 ?_
  dsimp only
  show b6 (l0 ho rfl f ?_)
  dsimp only
  have N:j<L.length:=by rw[c,c4]at i;show i
  have O:j<es.size:=by simpa using i
  have T:L[j].1=x:=by
   have e:es.toList[j]=((sK prog w).hash L[j].1,tr L[j].1 L[j].2):=by simp[c]
   rw[e,gK,Ĝ]at q;show q.symm
  have Y:(L.map (·.1)).Nodup:=d.nodup_iff.mpr m;have WU:(L.eraseIdx j).map (·.1)=(L.map (·.1)).filter λy=>cn (y≠x):=by
   rw[<-erase_filter Y (j:=j) (by simp[N,T]),fU]
  have SE:(PJ es j).toList=(L.eraseIdx j).map (λp=>((sK prog w).hash p.1,tr p.1 p.2)):=by
   rw[fz,c,fU]
  have r:(PJ es j).size=es.size - 1:=by rw[<-fx,fz,YS,ĝ i,fx]
  have⟨d1,d2⟩:=xt t j;show b6 (eZ (t':=t.drop j) (led:=led) ho SE (by rw[WU];show d.filter _) (X5 Y' m) (by rw[r];show vj f O) (by rw[r];lia) (d1.trans B) (.inr (d2.trans (C.resolve_left ⋯))) λh' sb hg Ka=>?_);show b6 (wpAny_point ?_);show c2 (h bD h' sb Ka)
end
def AD:Full 256=bD:=by decide +kernel
section
def iF{es:Array (Int×df)}{a:Array Nat}(h:a.toList.Perm (eH es.size)):(a.filterMap (es[·]?)).toList.Perm es.toList:=by
 rw[Array.toList_filterMap];show(h.filterMap _).trans (by rw[filterMap_getElem?_range])
def mV{L:List (Str×Tok)}(ho:s.heap.get? a=a5 {cls:=.type "set",dict:=b8,data:=.set es ep t})(n:es.toList=L.map (λp=>((sK prog w).hash p.1,tr p.1 p.2)))(o:(L.map (·.1)).Perm D)(q:D.Nodup)
  (r:t.fits es.size=bD) (u:es.size<zy) (i:t.led=led) (v:es.size=0\/t.plain=cc) (j:Kr c=m+1) (x:Full (m+1)=bD) (y:es.size<=m) (Y:m<1000)
  (h:∀h' (d:Array (Int×df)) (t':O4) (z:Nat),mA a s.heap h'->h'.get? a=a5 {cls:=.type "set",dict:=b8,data:=.set d z t' }->aR prog w h' a led D->t'.fits d.size=bD->t'.mask=m->t'.dummies=#[]->t'.led=led->d.size=es.size->Q () {s with heap:=h' }) :
  dV (eh prog w) A (setRelay a c) Q E s:=by
 have B:(2000:Nat)<=cK:=by decide
 have⟨t',b,C,f,k,G,H,I,l⟩:=tN (mask:=m) (finger:=t.finger) (moves:=t.movedTo m) (led:=t.led) (plain:=t.plain) (hs:=es.map (·.1)) x (by rw[Rc];show y);rw[Rc]at f l;have e:t.relaid (es.map (·.1)) c=a5 (t',b):=by
  unfold U0;rw[j,Nat.add_sub_cancel];show C
 unfold setRelay;show b6 (l0 ho rfl r ?_)
 dsimp only
 rw[Ğ (by rw[j];lia)];show b6 ?_;rw[e];change dV (eh prog w) A (if ((b.filterMap (es[·]?)).size != es.size)=bD then((Xr "internal:set-table-lost-an-element":Sem Unit) >>= λ_=>pure (b.filterMap (es[·]?),t')) else pure (b.filterMap (es[·]?),t')) _ E s;have g:=iF l;have hsz:(b.filterMap (es[·]?)).size=es.size:=by rw[<-fx,g.length_eq,fx]
 rw[Ğ (by rw[hsz];simp)];show c2 ?_;rw[n]at g;have⟨L',J,N⟩:=di g;show eZ (led:=led) ho J ((N.map _).trans o) q (by rw[hsz];show f) (by rw[hsz];show u) (k.trans i) (by rw[hsz,G];show v) λh' O T hs=>h h' _ t' _ O T hs (by rw[hsz];show f) H I (k.trans i) hsz
def xu(b:5<=n)(a:n<64):∃m,Kr (2 * n)=m+1/\Full (m+1)=bD/\n<=m/\m<1000:=by
 have:∀n:_root_.Fin 64,Kr (2 * n.val)=(if n.val<4 then 8 else if n.val<8 then 16 else if n.val<16 then 32 else if n.val<32 then 64 else 128):=by decide +kernel
 have e:=this ⟨n,a⟩
 dsimp only at e
 rw[e,Ğ ⋯];split
 .show⟨15,rfl,xn,⋯,⋯⟩
 .split
  .show⟨31,rfl,xp,⋯,⋯⟩
  .split
   .show⟨63,rfl,xq,⋯,⋯⟩
   .show⟨127,rfl,tM,⋯,⋯⟩
def vk(a:n<64):∃m,Kr (NB n)=m+1/\Full (m+1)=bD/\n<=m/\m<1000:=by
 have:∀n:_root_.Fin 64,Kr (NB n.val)=(if n.val<2 then 8 else if n.val<4 then 16 else if n.val<8 then 32 else if n.val<16 then 64 else if n.val<32 then 128 else 256):=by decide +kernel
 have e:=this ⟨n,a⟩
 dsimp only at e
 rw[e];split
 .show⟨7,rfl,Co,⋯,⋯⟩
 .split
  .show⟨15,rfl,xn,⋯,⋯⟩
  .split
   .show⟨31,rfl,xp,⋯,⋯⟩
   .split
    .show⟨63,rfl,xq,⋯,⋯⟩
    .split
     .show⟨127,rfl,tM,⋯,⋯⟩
     .show⟨255,rfl,AD,⋯,⋯⟩
def xv{a:d7}{led:Bool}{D:List Str}{Q:Unit->d4->Prop}(b:aR prog w s.heap a led D)(q:D.length<64)(h:∀h',mA a s.heap h'->aR prog w h' a led D->Q () {s with heap:=h' }):
  dV (eh prog w) A (setTidy a) Q E s:=by
 have f:=b;have⟨L,es,ep,t,ho,c,d,g,e,i,j,k⟩:=b;have hsz:=aR.sz (h:=s.heap) (a:=a) (led:=led) c d;unfold setTidy;show b6 (l0 ho rfl e ?_)
 dsimp only
 split
 .have⟨m,m1,m2,m3,l⟩:=vk (n:=es.size) ⋯;show mV ho c d g e i j k m1 m2 m3 l λh' _ _ _ o _ hs _ _ _ _ _=>h h' o hs
 .have p:s={s with heap:=s.heap}:=by cases s;rfl
  show c2 ?_;rw[p];show h s.heap (Je a s.heap) f
def vm{a b:d7}{es:Array (Int×df)}{D:List Str}{Q:Unit->d4->Prop}(v:a≠b)(ho:s.heap.get? a=a5 {cls:=.type "set",dict:=b8,data:=.set #[] 0 (.fresh 0 0 (aF w))})(x:aR prog w s.heap b (aF w) D)(K6:D.length<64)
  (h:∀h',mA a s.heap h'->aR prog w h' a (aF w) D->Q () {s with heap:=h' }):dV (eh prog w) A (setMerge a b) Q E s:=by
 have ON:=x;have⟨L,d,WV,f,y,l,n,B,C,G,PK,SF⟩:=x;have hsz:=aR.sz (h:=s.heap) (a:=b) (led:=aF w) l n;have o:(Zr 0 0 (aF w)).fits (#[]:Array (Int×df)).size=bD:=rfl;unfold setMerge;rw[Ğ (by simpa using v)];show b6 (l0 y rfl C ?_)
 dsimp only
 split
 .rename_i SG;have hD:D=[]:=by
   have:d.size=0:=by simpa using SG
   show List.eq_nil_of_length_eq_zero ⋯
  subst hD;have p:s={s with heap:=s.heap}:=by cases s;rfl
  show c2 ?_;rw[p];show h s.heap (Je a s.heap) (gW ho)
 .rename_i JH;have SH:d.size≠0:=λz=>JH (by simpa using z);show b6 ?_;unfold setRoomFor;show b6 (l0 ho rfl o ?_)
  dsimp only
  show kj (Q:=λ_ s1=>∃(g:Jl) (ts:O4) (H:Nat) (k:Array (Int×df)),s1={s with heap:=g}/\k.size=0/\mA a s.heap g/\g.get? a=a5 {cls:=.type "set",dict:=b8,data:=.set k H ts}/\ts.fits k.size=bD/\Full (ts.mask+1)=bD/\d.size<=ts.mask/\ts.dummies=#[]/\ts.led=aF w) ?_ (λ_ s1 ⟨g,ts,H,k,e,z,i,j,I,hF,q,SJ,hl⟩=>?_) λ_ _ e=>e
  .unfold SetTable.roomFor;by_cases h5:5<=d.size
   .rw[ĝ (by change(0+d.size) * 5 >= 7 * 3;lia)]
    dsimp only
    have⟨m,m1,m2,m3,m4⟩:=xu h5 ⋯;have ew:((Zr 0 0 (aF w)).place.size+d.size) * 2=2 * d.size:=by change(0+d.size) * 2=_;lia
    rw[ew];show mV (L:=[]) (D:=[]) (led:=aF w) ho rfl (Ni _) .nil o (by decide) rfl (.inl rfl) m1 m2 (by change 0<=m;lia) m4 λh' Iz t' NF i j _ Ph J hd hl hz=>⟨h',t',NF,Iz,rfl,hz,i,j,Ph,by rw[J];show m2,by rw[J];show m3,hd,hl⟩
   .rw[Ğ (by change ¬(0+d.size) * 5 >= 7 * 3;lia)]
    dsimp only
    have p:s={s with heap:=s.heap}:=by cases s;rfl
    show c2 ⟨s.heap,_,0,#[],p,rfl,Je a s.heap,ho,o,Co,by change d.size<=7;lia,rfl,rfl⟩
  .subst e;show b6 (l0 j rfl I ?_)
   dsimp only
   have SM:ts.place.size=0:=by
    simp only[Rf,cb,beq_iff_eq]at I;lia
   have PM:ts.road f=if ts.mask==f.mask&&f.dummies.isEmpty then .slotForSlot else .clean:=by
    unfold SetTable.road VG;rw[SM,SJ];rfl
   have WW:g.get? b=a5 {cls:=.type "set",dict:=b8,data:=.set d WV f}:=(i.2 b (ri v)).trans y;have N:(ts.plain&&f.plain)=cc:=by rw[SF.resolve_left SH,Tb]
   have O:(ts.led&&f.led)=aF w:=by rw[hl,PK,Ú]
   rw[PM];by_cases T:(ts.mask==f.mask&&f.dummies.isEmpty)=bD
   .rw[ĝ T]
    dsimp only
    show eZ (s:={s with heap:=g}) (led:=aF w) (L':=L) (t':={f with finger:=ts.finger,led:=ts.led&&f.led,moves:=ts.moves,plain:=ts.plain&&f.plain}) j l n B C G O (.inr N) λh' r _ hs=>h h' (i.trans r) hs
   .rw[Ğ T]
    dsimp only
    have⟨t',c,q1,Y,q3,q4,q5,q6,q7⟩:=tN (mask:=ts.mask) (finger:=ts.finger) (moves:=ts.moves) (led:=ts.led&&f.led) (plain:=ts.plain&&f.plain) (hs:=d.map (·.1)) hF (by rw[Rc];show q);rw[Rc]at Y q7;show b6 ?_;rw[q1];change dV (eh prog w) A (if ((c.filterMap (d[·]?)).size != d.size)=bD then((Xr "internal:set-table-lost-an-element":Sem Unit) >>= λ_=>pure (c.filterMap (d[·]?),t')) else pure (c.filterMap (d[·]?),t')) _ E _;have t:=iF q7;have u:(c.filterMap (d[·]?)).size=d.size:=by rw[<-fx,t.length_eq,fx]
    rw[Ğ (by rw[u];simp)];show c2 ?_;rw[l]at t;have⟨L',e',p'⟩:=di t;show eZ (s:={s with heap:=g}) (led:=aF w) j e' ((p'.map _).trans n) B (by rw[u];show Y) (by rw[u];show G) (q3.trans O) (.inr (q4.trans N)) λh' r _ hs=>h h' (i.trans r) hs
end
section
theorem g_:∀{l:List α},(∀x∈l,∀Q':ForInStep β->d4->Prop,Q' (.yield b) s->dV M A (body x b) Q' E s)->Q b s->dV M A (í l b body) Q E s
 |[],_,h=>by rw[É];show c2 h
 |x::l,a,h=>by
  rw[VM];show b6 (a x (by simp) _ (g_ (λy c=>a y (by simp[c])) h))
def vn(hs:∀b∈sets,∃led D,aR prog w s.heap b led D)(h:Q bD s):dV (eh prog w) A (setsQuiet sets) Q E s:=by
 unfold setsQuiet;show b6 (g_ (λb c Q' d=>?_) (c2 h));have⟨led,D,L,es,ep,t,f,g,k,l,i,m,n,o⟩:=hs b c;show b6 (RA f rfl i ?_);rw[<-Uu];show b6 (g_ (λe a q j=>?_) (c2 d));rw[g]at a;obtain⟨p,_,rfl⟩:=js.mp a;show c2 j
def p7(l:aR prog w s.heap a (aF w) D)(ho:∀b∈others,∃led B,aR prog w s.heap b led B)(m:∀r,f=a5 r->aR prog w s.heap r (aF w) [])
  (h:∀(es:Array (Int×df)) (L:List (Str×Tok)) (h':Jl),es.toList=L.map (DF prog w)->(L.map (·.1)).Perm D->(f=b8->h'=s.heap)->(∀r,f=a5 r->mA r s.heap h'/\aR prog w h' r (aF w) [])->Q es {s with heap:=h' }) :
  dV (eh prog w) A (setWalkUnseen a others f) Q E s:=by
 have C:=l;have⟨L,es,ep,t,j,n,o,IW,k,hb,G,H⟩:=l;have I:s={s with heap:=s.heap}:=by cases s;rfl
 have c:∀(d:Array (Int×df)),d.toList.Perm es.toList->Q d s:=λd p=>by
  rw[n]at p;have⟨L',J,N⟩:=di p;rw[I];show h d L' s.heap J ((N.map _).trans o) (λ_=>rfl) λr e=>⟨Je r s.heap,m r e⟩
 unfold setWalkUnseen;show b6 (l0 j rfl k ?_)
 dsimp only
 show b6 (cR ?_);cases g:w.params.followText "set-order" with
 |true =>
  rw[ĝ (by change(w.params.followText "set-order"||t.led&&t.plain||decide (es.size<=1))=bD;rw[g];rfl)];unfold setWalk;show b6 (l0 j rfl k ?_)
  dsimp only
  show b6 (cR ?_);rw[ĝ (by show g)];show b6 (Qo ?_);show c2 (c _ (dS _ _))
 |false =>
  by_cases q:es.size<=1
  .rw[ĝ (by rw[Ġ q];simp)];unfold setWalk;show b6 (l0 j rfl k ?_)
   dsimp only
   show b6 (cR ?_);rw[Ğ (by change ¬w.params.followText "set-order"=bD;rw[g];simp)];change dV _ _ (if (!t.plain&&cn (es.size>1))=bD then _ else _) _ _ s;rw[Ğ (by rw[ğ (show ¬es.size>1 by lia)];simp)];change dV _ _ ((if (!t.led&&cn (es.size>1))=bD then _ else _) >>= _) _ _ s;rw[Ğ (by rw[ğ (show ¬es.size>1 by lia)];simp)];show b6 (c2 (c2 (c es (Ni _))))
  .have O:t.plain=cc:=H.resolve_left ⋯;rw[Ğ (by change ¬(w.params.followText "set-order"||t.led&&t.plain||decide (es.size<=1))=bD;rw[g,O,ğ q];simp)];show b6 (vn (λb Kc=>by
    rcases d3.mp Kc with rfl|Kc
    .show⟨_,_,C⟩
    .show ho b Kc) ?_)
   rw[Ğ (by simp)];show b6 (OC ?_);cases f with
   |none=>show c2 (c es (Ni _))
   |some r =>
    dsimp only
    have⟨Lr,T,Y3,i,u,v,x,Y,y,WX,PQ,WY⟩:=m r rfl;show b6 (l0 u rfl y ?_)
    dsimp only
    have QM:T.size=0:=by
     have:=aR.sz (h:=s.heap) (a:=r) (led:=aF w) v x;simpa using this
    split
    .show b6 (eZ (t':={i with led:=i.led&&t.led,plain:=i.plain&&t.plain}) (led:=aF w) u v x Y y WX (by change(i.led&&t.led)=_;rw[PQ,G,Ú]) (.inl QM) λh' sb _ hs=>?_);show c2 (h es L h' n o (λz=>nomatch z) λr' e=>by cases e;show⟨sb,hs⟩)
    .show c2 (c es (Ni _))
end
section
variable{prog:u7}{w:DD}{A:M8}{E:df->d4->Prop}{s:d4}
theorem jc(J:List (Str×Tok)->d4->Prop)(a:∀d p r s,d++p::r=L->J d s->∀Q':ForInStep PUnit->d4->Prop,(∀s',J (d++[p]) s'->Q' (.yield ⟨⟩) s')->dV M A (body (DF prog w p) ⟨⟩) Q' E s)(b:∀s',J L s'->Q ⟨⟩ s'):
  ∀(r d:List (Str×Tok)) (s:d4),d++r=L->J d s->dV M A (í (r.map (DF prog w)) ⟨⟩ body) Q E s
 |[],d,s,e,h=>by
  rw[rr]at e;subst e;rw[KD,É];show c2 (b s h)
 |p::r,d,s,e,h=>by
  rw[d8,VM];show b6 (a d p r s e h _ λs' h'=>jc J a b r (d++[p]) s' (by rw[<-e];simp) h')
def aR.ty(h:aR prog w s.heap a led D):s.TypeIs (.ref a) "set":=let ⟨_,_,_,_,ho,_⟩:=h;⟨_,ho,rfl⟩
def gq(b:aR prog w s.heap a led D)(h:Q bD s):dV (eh prog w) A (JK (.ref a)) Q E s:=by
 unfold JK;show b6 (O7 b.ty VX ?_);show c2 h
def iG{a:d7}{led:Bool}{D:List Str}{Q:Nat->d4->Prop}(b:aR prog w s.heap a led D)(h:Q D.length s):dV (eh prog w) A (P1 a) Q E s:=by
 obtain⟨L,es,ep,t,ho,c,d,f,e,_⟩:=b;unfold P1;show b6 (RA ho rfl e (c2 ?_));rw[aR.sz (h:=s.heap) (a:=a) (led:=led) c d];show h
def p8(b:aR prog w s.heap a led D)(h:Q (.type "set") s):dV (eh prog w) A (Tz a) Q E s:=by
 unfold Tz;show b6 (O7 b.ty VX ?_);show c2 h
def tP(h:Q (.ref s.heap.objs.size) {s with heap:=s.heap.push {cls:=.type "set",dict:=b8,data:=.set #[] 0 (.fresh 0 0 (aF w))}}):dV (eh prog w) A (newSet (.type "set")) Q E s:=by
 unfold newSet Î;show b6 (b6 (Qo (c2 ?_)))
 dsimp only
 simp only[newObj];show b6 (wpAny_alloc (c2 h))
def xx{a:d7}{D:List Str}{Q:df->d4->Prop}(b:aR prog w s.heap a (aF w) D)(c:D.length<64)(h:∀h',mA s.heap.objs.size (s.heap.push {cls:=.type "set",dict:=b8,data:=.set #[] 0 (.fresh 0 0 (aF w))}) h'->aR prog w h' s.heap.objs.size (aF w) D->Q (.ref s.heap.objs.size) {s with heap:=h' }):
  dV (eh prog w) A (Tx a) Q E s:=by
 unfold Tx;show b6 (p8 b (b6 (tP ?_)));show b6 (c2 ?_);have d:s.heap.objs.size≠a:=λe=>by obtain⟨_,_,_,_,ho,_⟩:=b;show uk _ (e▸d6 ho)
 show b6 (vm (es:=#[]) (s:={s with heap:=s.heap.push {cls:=.type "set",dict:=b8,data:=.set #[] 0 (.fresh 0 0 (aF w))}}) d (ez _ rfl) (b.at λo e=>cL _ e) c λh' f hs=>?_);show c2 (h h' f hs)
def kS{id:String}(ho:s.heap.get? a=a5 {cls:=.type "set",dict:=b8,data:=.set es ep t})(b:t.fits es.size=bD)(h:Q () s):dV (eh prog w) A (SD id a ep) Q E s:=by
 unfold SD;show b6 (VS ho rfl b ?_);rw[Ğ (by simp)];show c2 h
def xy{id:String}(v:a≠b)(o:aR prog w s.heap a (aF w) g)(j:aR prog w s.heap b (aF w) q)(B:g.length<64)(i:q.length<=g.length)
  (h:∀h',mA a s.heap h'->aR prog w h' a (aF w) (g.filter λx=>cn (x∉q))->Q () {s with heap:=h' }):dV (eh prog w) A (RS id a (.ref b)) Q E s:=by
 unfold RS;rw[Ğ (by simpa using ri v)];show b6 (gq j ?_);rw[ĝ rfl];show b6 (c2 ?_);show b6 (iG j (b6 (iG o ?_)));rw[Ğ ⋯];have⟨L2,I,J,N,y,O,T,Y,z,Ut,US,W0⟩:=_root_.id j;show b6 (VS y rfl z ?_);show b6 (ti ?_);show b6 (p7 j (others:=[a]) (f:=b8) (λc C=>by rw[hV.mp C];show⟨_,_,o⟩) (λr e=>nomatch e) λes L h0 D G t _=>?_);have t:=t rfl;subst t;rw[<-Uu,D];show b6 (jc (prog:=prog) (w:=w) (L:=L) (λd s'=>∃h',s'={s with heap:=h' }/\mA a s.heap h'/\aR prog w h' a (aF w) (g.filter λx=>cn (x∉d.map (·.1)))) (λd p r s' ed ⟨h',u,k,l⟩ Q' H=>?_) (λs' ⟨h',u,k,l⟩=>?_) L [] _ rfl ⟨s.heap,by cases s;rfl,Je a s.heap,by rw[QD.mpr λx _=>by simp];show o⟩)
 .subst u;show b6 (ti (pZ (s:={s with heap:=h' }) l λb' i m n=>?_));show b6 (kS (s:={s with heap:=i}) (((k.trans m).2 b (ri v)).trans y) z ?_);show c2 (H _ ⟨i,rfl,k.trans m,?_⟩);rw[List.filter_filter]at n;have e:(g.filter λx=>cn (x≠p.1)&&cn (x∉d.map (·.1)))=g.filter λx=>cn (x∉(d++[p]).map (·.1)):=by
   show ZR λx _=>?_;rw[D7];simp[not_or,and_comm]
  rw[<-e];show n
 .subst u;show c2 ?_;have e:(g.filter λx=>cn (x∉L.map (·.1)))=g.filter λx=>cn (x∉q):=by
   show ZR λx _=>?_;rw[D7];simp only[Ĝ];rw[G.mem_iff]
  rw[e]at l;show xv (s:={s with heap:=h' }) l (ZP (oT _ _) B) λi m n=>h i (k.trans m) n
def xA{id:String}(Mi:a≠b)(l:aR prog w s.heap a (aF w) m)(j:aR prog w s.heap b (aF w) g)(D:m.length<64)(k:g.length<64)
  (h:∀h',(∀c o,s.heap.get? c=a5 o->h'.get? c=a5 o)->aR prog w h' s.heap.objs.size (aF w) (m.filter λx=>cn (x∉g))->Q (.ref s.heap.objs.size) {s with heap:=h' }):dV (eh prog w) A (Pc id a (.ref b)) Q E s:=by
 have keep:∀h',mA s.heap.objs.size (s.heap.push {cls:=.type "set",dict:=b8,data:=.set #[] 0 (.fresh 0 0 (aF w))}) h'->∀c o,s.heap.get? c=a5 o->h'.get? c=a5 o:=λh' i c o e =>
  (i.2 c (hH (d6 e))).trans (cL _ e)
 have G:a<s.heap.objs.size:=by obtain⟨_,_,_,_,ho,_⟩:=l;show d6 ho
 have v:b<s.heap.objs.size:=by obtain⟨_,_,_,_,ho,_⟩:=j;show d6 ho
 unfold Pc
 dsimp only
 show b6 (gq j ?_);rw[Ğ (by simp)];show b6 (c2 ?_);rw[Ğ (by simp),ĝ rfl];show b6 (iG j (b6 (iG l ?_)));by_cases H:m.length / 4>g.length
 .rw[ĝ H];show b6 (OC ?_);show b6 (xx l D λh' i hs=>?_);show b6 (c2 ?_);show b6 (ti (xy (s:={s with heap:=h' }) (KX v) hs (j.at λo e=>keep h' i b o e) D ⋯ λk n t=>?_));show c2 (h k (keep k (i.trans n)) t)
 .rw[Ğ H];show b6 (p8 l (b6 (tP ?_)));show b6 (c2 ?_);have I:=l.at (h':=s.heap.push {cls:=.type "set",dict:=b8,data:=.set #[] 0 (.fresh 0 0 (aF w))}) λo e=>cL _ e;have UI:=j.at (h':=s.heap.push {cls:=.type "set",dict:=b8,data:=.set #[] 0 (.fresh 0 0 (aF w))}) λo e=>cL _ e;have J:aR prog w (s.heap.push {cls:=.type "set",dict:=b8,data:=.set #[] 0 (.fresh 0 0 (aF w))}) s.heap.objs.size (aF w) []:=gW (ez _ rfl);have⟨La,ea,W2,ta,N,OP,Y7,SO,y,Y8,UW,W3⟩:=_root_.id I;show b6 (VS N rfl y ?_);show b6 (ti ?_);rw[ĝ rfl];show b6 (p7 (s:={s with heap:=s.heap.push {cls:=.type "set",dict:=b8,data:=.set #[] 0 (.fresh 0 0 (aF w))}}) I (others:=[b,s.heap.objs.size]) (f:=a5 s.heap.objs.size) (λc hc=>by
   rcases d3.mp hc with rfl|hc
   .show⟨_,_,UI⟩
   .rw[hV.mp hc];show⟨_,_,J⟩) (λr e=>by cases e;show J) λes L h0 he B _ e0=>?_)
  have⟨W4,QO⟩:=e0 _ rfl;rw[<-Uu,he];have W5:L.length=m.length:=by rw[<-B.length_eq,c4]
  show b6 (jc (prog:=prog) (w:=w) (L:=L) (λd s'=>∃h',s'={s with heap:=h' }/\mA s.heap.objs.size (s.heap.push {cls:=.type "set",dict:=b8,data:=.set #[] 0 (.fresh 0 0 (aF w))}) h'/\aR prog w h' s.heap.objs.size (aF w) ((d.map (·.1)).filter λx=>cn (x∉g))) (λd p r s' O ⟨h',C,i,u⟩ Q' T=>?_) (λs' ⟨h',C,i,u⟩=>?_) L [] _ rfl ⟨h0,rfl,W4,QO⟩)
  .subst C;have Y:(L.map (·.1)).Nodup:=B.nodup_iff.mpr SO;have W6:p.1∉d.map (·.1):=λz=>by
    rw[<-O,i9,sx]at Y;show Y.2.2 p.1 z p.1 (by simp) rfl
   have W7:aR prog w h' b (aF w) g:=j.at λo e=>keep h' i b o e;have UX:h'.get? a=a5 {cls:=.type "set",dict:=b8,data:=.set ea W2 ta}:=(i.2 a (hH G)).trans N;have MD:d.length<64:=by have:=Ģ K1 O;simp at this;lia
   show b6 (ti ?_);rw[ĝ rfl];show b6 (pY (s:={s with heap:=h' }) W7 λr hr=>?_);show b6 (c2 ?_);have em:((d++[p]).map (·.1)).filter (λx=>cn (x∉g))=(d.map (·.1)).filter (λx=>cn (x∉g))++if p.1∈g then [] else [p.1]:=by
    rw[i9,Pk];congr 1
    by_cases z:p.1∈g<;>simp[z]
   by_cases z:p.1∈g
   .rw[Ğ (by rw[hr,Ġ z];simp)];show c2 ?_;show b6 (kS (s:={s with heap:=h' }) UX y ?_);show c2 (T _ ⟨h',rfl,i,?_⟩);rw[em,ĝ z,rr];show u
   .rw[ĝ (by rw[hr,ğ z];rfl)];show b6 (kO (s:={s with heap:=h' }) u (by
     have:((d.map (·.1)).filter λx=>cn (x∉g)).length<=d.length:=wh (oT _ _) (by simp);have J_:zy=4096:=rfl;lia) λk n t=>?_)
    show c2 ?_;show b6 (kS (s:={s with heap:=k}) ((n.2 a (hH G)).trans UX) y ?_);show c2 (T _ ⟨k,rfl,i.trans n,?_⟩);rw[em,Ğ z];rw[Ğ (λq=>W6 (D6.mp q).1)]at t;show t
  .subst C;show c2 ?_;show c2 (h h' (keep h' i) (u.perm ?_));show B.filter _
end
def mj:Z4 table "set.__sub__"=a5 NR.«frozenset.__sub__» :=
 Yw (id':="frozenset.__sub__") (by kernel_rfl) rfl (by decide +kernel) (by kernel_rfl)
section
def j8(n:a≠b)(g:aR prog w s.heap a (aF w) j)(i:aR prog w s.heap b (aF w) k)(p:j.length<64)(q:k.length<64)
  (h:∀h',(∀c o,s.heap.get? c=a5 o->h'.get? c=a5 o)->aR prog w h' s.heap.objs.size (aF w) (j.filter λx=>cn (x∉k))->Q (.ref s.heap.objs.size) {s with heap:=h' }):dV (eh prog w) A (OH .Sub (.ref a) (.ref b)) Q E s:=by
 show wpAny_binaryOp_same (T:="set") g.ty i.ty PySem.F.fills_set_sub PySem.F.slot_set_sub (JQ PySem.F.slot_set_sub g.ty mj ?_ (PySem.F.args_set_sub_2 _ _));unfold NR.«frozenset.__sub__»;change dV (eh prog w) _ (do
  let x <-Ua "__sub__" ⟨[.ref a,.ref b],[]⟩
  match x with
  |(self,f) =>
   match if cc=bD then(f,self) else(self,f) with
   |(l,r)=>do
    let c <-JK l <&&> JK r
    if (!c)=bD then do
      ô (SU "frozenset."++SU "__sub__"++SU ".declined")
      ret Value.notImplemented
     else do
      let d <-TB l
      let e <-Pc (SU "frozenset."++SU "__sub__") d r
      ret e) _ _ _
 show b6 (m:=Ua "__sub__" ⟨[.ref a,.ref b],[]⟩) (c2 (a:=(ko a,ko b)) ?_)
 dsimp only
 show b6 (b6 (gq g ?_));change dV _ _ (JK (.ref b)) _ _ _;show gq i ?_;rw[Ğ (by simp)];show b6 (c2 ?_);show b6 (xA n g i p q λh' hk hs=>?_);show c2 ⟨_,rfl,(λz=>by cases z),h h' hk hs⟩
end
section
def rD(m:X.calm=bD)(I:Inv X pins σ H s)(hq:Jh X.K H p (f.map V.str)\/Ju X.K H p (f.map V.str))(i:f.length+1<zy)
  (h:∀(S:d7) (o:Obj) (s1:d4),s.heap.objs.size<=S->s1.heap.get? S=a5 o->aR X.prog X.w s1.heap S (aF X.w) (aB f)->Inv X ((S,o)::pins) σ H s1->Q (.ref S) s1) :
  dV (eh X.prog X.w) X.A (NQ (.type "set") [.ref p]) Q X.xe s:=by
 have j:X.A.handled=b8:=I.ok.hd m;have d:∀(h':Jl) (a:Nat),aR X.prog X.w h' s.heap.objs.size (aF X.w) (aB f)->(∀b o,b<s.heap.objs.size->s.heap.get? b=a5 o->h'.get? b=a5 o)->Q (.ref s.heap.objs.size) {s with heap:=h',toks:=a}:=λh' a c k=>by
  have⟨L,es,ep,t,ho,r⟩:=_root_.id c;have l:Inv X pins σ H {s with heap:=h',toks:=a}:=I.kept λb o e=>k b o (d6 e) e;show h _ _ _ (gj _) ho c (l.eF λq hq=>?_);rcases d3.mp hq with rfl|hq
  .show⟨ho,I.IB.fresh (gj _),KX I.lt,I.CW (gj _),λv z=>nomatch z⟩
  .show l.pin q (lg _ hq)
 rcases hq with hq|hq
 .have⟨n,rv,g,hz⟩:=I.list hq;show fT j g.isList (cQ rv) i λh' a c k=>d h' a c k
 .have⟨n,rv,g,hz⟩:=I.tuple hq;show gL j g (cQ rv) i λh' a c k=>d h' a c k
end
def rE:Qq (.type "list_reverseiterator") "__len__"=pure b8:=by rw[Rv,Ol];kernel_rfl
def xB:Qq (.type "list_reverseiterator") "__length_hint__"=pure (a5 (.builtin "list_reverseiterator.__length_hint__")):=by rw[Rv,Ol];kernel_rfl
def oB:Of (.type "list_reverseiterator") (.type "list_reverseiterator")=pure bD:=by rw[Jd];kernel_rfl
section
variable{I:d7}{fp wr:List d7}{G:Array Yz->Array Yz->Prop}{n:Nat}{P:Nat->df->Prop}{St:Nat->d4->Prop}
def rF(W:Ð prog w A.in1 I fp wr G n P St)(c:∀i s,St i s->s.TypeIs (.ref I) "list_reverseiterator")(S:d7)(res:df)(j:Nat)(a:St 0 s)(h:S∉fp)(k:I∈fp)
  (l:s.heap.get? S=a5 {cls:=.type "list",data:=.seq #[] j})
  (m:∀s' d b,Moved (S::wr) G s s'->s'.heap.get? S=a5 {cls:=.type "list",dict:=b8,data:=.seq d b,slots:=#[]}->è P d n->R (.ok (.ret res)) s') (o:n<=cK) :
  dV (eh prog w) A.in1 (r6 (.ref S) (.ref I) res)
   (λg s'=>match g with|.done f=>R (.ok f) s'|.again b=>b.quiet=bD/\P' (eh prog w) A b R s') (λe s'=>R (.error e) s') s:=by
 have p:S≠I:=λe=>h (e▸k);unfold r6;show b6 (VP (c 0 _ a) ?_);have q:NU (.ref S) (.ref I)=cc:=by simp[NU,p]
 have r:(ro "list_reverseiterator"==ro "list")=cc:=by decide
 have t:(ro "list_reverseiterator"==ro "tuple")=cc:=by decide
 simp only[q,r,t,X',Li,if_false];show b6 (W.self 0 _ _ _ a ?_);show b6 (ti ?_);unfold Ud;show b6 (TJ (c 0 _ a) rE ?_);change dV _ A.in1 (specialOf (ko I) (Q2 "__length_hint__") >>= _) _ _ _;show b6 (TJ (c 0 _ a) xB ?_);have u:splitId "list_reverseiterator.__length_hint__"=a5 ("list_reverseiterator","__length_hint__"):=by decide +kernel
 dsimp only
 rw[u]
 dsimp only
 show b6 (O7 (c 0 _ a) oB ?_);rw[Ğ (by decide)];rw[ĝ (by decide +kernel)];rw[Ğ (by decide +kernel)];show c2 ?_;rw[Ğ (by decide +kernel)];show c2 ⟨Sq PySem.F.plain_extend_loop _,Z5 W o _ h _ n 0 _ _ _ rfl (i7 _) a l (Ä P) λs' d b v x y=>?_⟩;show m s' d b v x y
def mn(W:Ð prog w A.in1 I fp wr G n P St)(p:∀i s,St i s->s.TypeIs (.ref I) "list_reverseiterator")(S:d7)(q:St 0 s)(l:S∉fp)(r:I∈fp)
  (g:s.heap.get? S=a5 {cls:=.type "list",data:=.seq #[]})
  (t:∀s' d a,Moved (S::wr) G s s'->s'.heap.get? S=a5 {cls:=.type "list",dict:=b8,data:=.seq d a,slots:=#[]}->è P d n->R (.ok (.ret .none)) s') (u:n<=cK) :
  dV (eh prog w) A.in1 (NR.«list.__init__» ⟨[.ref S,.ref I],[]⟩)
   (λj s'=>match j with|.done f=>R (.ok f) s'|.again a=>a.quiet=bD/\P' (eh prog w) A a R s') (λe s'=>R (.error e) s') s:=by
 change dV _ A.in1 (do let k <-Vc (.ref S);Ă (.ref S) (λ_=>#[]);letGo k.toList.reverse;r6 (.ref S) (.ref I) .none) _ _ s;show b6 ?_;unfold Vc;show b6 (UL g rfl (c2 ?_));change dV _ A.in1 (ò S (λ_=>#[]) >>= λ_=>letGo (#[]:Array df).toList.reverse >>= λ_=>r6 (.ref S) (.ref I) .none) _ _ s;show b6 (Rt g rfl ?_);have v:=tj (nC (λ_=>(#[]:Array df))) g rfl;have m:∀b o,b≠S->s.heap.get? b=a5 o->(s.heap.update S (nC (λ_=>(#[]:Array df)))).get? b=a5 o :=
  λb o c e=>(ML _ _ (ri c)).trans e
 show b6 (wpAny_letGo ?_);show rF W p S .none _ (W.frame 0 s _ s.toks q (gj _) λb c o e=>m b o (λh=>l (h▸c)) e) l r v (λs' d a x y z=>?_) u;show t s' d a (ç W.gtrans ((Moved.refl W.grefl).then_heap (gj _) λb o c e=>m b o (λh=>c (h▸mu)) e) x) y z
def p_(W:Ð prog w A.in1.in1 I fp wr G n P St)(h:∀i s,St i s->s.TypeIs (.ref I) "list_reverseiterator")(j:St 0 s)(k:∀b∈fp,b<s.heap.objs.size)(l:I∈fp)
  (m:∀s' a c,Moved (s.heap.objs.size::wr) G {s with heap:=s.heap.push {cls:=.type "list",data:=.seq #[]}} s' ->
   s'.heap.get? s.heap.objs.size=a5 {cls:=.type "list",dict:=b8,data:=.seq a c,slots:=#[]}->è P a n->Q (.ref s.heap.objs.size) s') (p:n<=cK) :
  dV (eh prog w) A (NQ (.type "list") [.ref I]) Q E s:=by
 have q:s.heap.objs.size∉fp:=λd=>uk _ (k _ d);show callType_codes (Q₁:=λobj f=>obj=.ref s.heap.objs.size/\f={s with heap:=s.heap.push {cls:=.type "list",data:=.seq #[]}}) PySem.F.called_list (PySem.F.typeCall_list_1 _) PySem.F.entry_list_init
  (code_list_new _ ⟨rfl,rfl⟩) λobj f r=>?_
 have⟨rfl,rfl⟩:=r;have g:(s.heap.push {cls:=.type "list",data:=.seq #[]}).get? s.heap.objs.size=a5 {cls:=.type "list",data:=.seq #[]}:=ez _ rfl;show⟨⟨_,g,rfl⟩,PySem.F.args_list_init_2 _ _,mn W h _ (W.frame 0 s _ s.toks j (gj _) λb _ o e=>cL _ e) q l g (λs' a c d t u=>?_) p⟩;show⟨rfl,m s' a c d t u⟩
open AutoSeq1 (wpAny_loadPart') in
end
section
def iH(a:s.heap.IsTupleIter it l i)
  (hl:s.heap.IsTuple l b) (d:b[i]?=a5 x)
  (e:∀h',h'.IsTupleIter it l (i+1)->mA it s.heap h'->Q x {s with heap:=h' }) :
  dV (eh prog w) A (J1 (.ref it)) Q E s:=by
 have⟨o,ho,f,c⟩:=id a;obtain⟨j,g,_,k,h⟩:=hl;unfold J1;show b6 (P0 (name:=Q2 "__next__") a.typeIs PySem.F.slot_tuple_iterator_next
  (JQ PySem.F.slot_tuple_iterator_next a.typeIs PySem.F.entry_tuple_iterator_next ?_ (PySem.F.args_tuple_iterator_next_1 _)))
 change dV _ _ (č (.ref it) 0 >>= _) _ _ s;show b6 (UM ho c (x:=.ref l) rfl ?_);change dV _ _ (if (ko l==mN)=bD then _ else _) _ _ s;rw[Ğ (show ¬((ko l==mN)=bD) from i1)];change dV _ _ (č (.ref it) 1 >>= _) _ _ s;show b6 (UM ho c (x:=.int i 0) rfl ?_);change dV _ _ (Zn (.ref l) >>= _) _ _ s;show b6 (UL g h ?_);simp only[PY,d];show b6 (M5 ho c (by simp) (c2 ⟨x,rfl,c2 (e _ ?_ (wz ..))⟩));show⟨_,tj _ ho (S0 (M7 c _)),(U7 ..).trans f,by
  rw[M7 c];simp[u6]⟩
def e_(f:A.handled=b8)
  (b:s.heap.IsTupleIter it l i) (hl:s.heap.IsTuple l c) (g:c[i]?=b8)
  (h:∀h' e,ù it s.heap h'->(∃o,h'.get? e=a5 o/\o.cls=.type "StopIteration")->E (.ref e) {s with heap:=h' }) :
  dV (eh prog w) A (J1 (.ref it)) Q E s:=by
 have⟨o,ho,n,d⟩:=id b;obtain⟨p,j,_,q,k⟩:=hl;unfold J1;show b6 (P0 (name:=Q2 "__next__") b.typeIs PySem.F.slot_tuple_iterator_next
  (JQ PySem.F.slot_tuple_iterator_next b.typeIs PySem.F.entry_tuple_iterator_next ?_ (PySem.F.args_tuple_iterator_next_1 _)))
 change dV _ _ (č (.ref it) 0 >>= _) _ _ s;show b6 (UM ho d (x:=.ref l) rfl ?_);change dV _ _ (if (ko l==mN)=bD then _ else _) _ _ s;rw[Ğ (show ¬((ko l==mN)=bD) from i1)];change dV _ _ (č (.ref it) 1 >>= _) _ _ s;show b6 (UM ho d (x:=.int i 0) rfl ?_);change dV _ _ (Zn (.ref l) >>= _) _ _ s;show b6 (UL j k ?_);simp only[PY,g];show b6 (OC (b6 (M5 ho d (by simp) ?_)));change dV _ _ (Zz (.type "StopIteration") [] >>= _) _ _ _;show b6 ?_;simp only[Zz,Ċ];show b6 (wq ?_ (by size_fits));show b6 (m:=UN _ _) (Xq (a:=mN) (by first|rfl|(simp only[UN];rfl)) ?_);show wq ?_ (by size_fits);simp only[Yu];show b6 (wpAny_handled ?_)
 first|rw[show A.in1.handled=b8 from f]|rw[f]
 show b6 (c2 (wpAny_throw ?_));show h _ _ (((wz ..).extBut.push _).push _) ⟨_,ez _ rfl,rfl⟩
end
def qa(d:A.handled=b8)(it l:d7)(f:l≠it)(a:Array df):
  Draws prog w A it [it,l] a.size (λi v=>a[i]?=a5 v) (λi h=>h.IsTupleIter it l i/\h.IsTuple l a) where
 live:=λ_ _ st=>let ⟨o,ho,_⟩:=st.1;⟨o,ho⟩
 frame:=λ_ _ _ st hk=>⟨st.1.at λo e=>hk it (by simp) o e,let ⟨o,ho,r⟩:=st.2;⟨o,hk l (by simp) o ho,r⟩⟩
 item:=λi s Q E b st g=>by
  show iH st.1 st.2 (x:=a[i]) (by simp[b]) λh' j c=>?_;show g _ h' s.toks (by simp[b]) ⟨j,let ⟨o,ho,r⟩:=st.2;⟨o,(c.2 l f).trans ho,r⟩⟩ c
 done:=λs Q E st k=>e_ d st.1 st.2 (by simp) k
open AutoSeq1 (wpAny_loadPart') in
def kU(l:d7)(a:Array df)(n:Nat)(e:Option d7)(f:Array (Option df)):
  Meets (NR.«enumerate.__new__» ⟨[.type "enumerate",.ref l],[]⟩) (λ_ R s=>s.heap.get? l=a5 {cls:=.type "tuple",dict:=e,data:=.seq a n,slots:=f} /\
   R (.ok (.ret (.ref (s.heap.push {cls:=.type "tuple_iterator",data:=.fields #[.ref l,.int 0 0]}).objs.size)))
    {s with heap:=(s.heap.push {cls:=.type "tuple_iterator",data:=.fields #[.ref l,.int 0 0]}).push {cls:=.type "enumerate",data:=.fields #[.none,.bool cc,.ref s.heap.objs.size,u6 0,.none,.none]}}) :=
 .of_wp λprog w A R s h=>by
  have⟨i,g,d,j,os⟩:=s;have⟨hl,h⟩:=h;have k:=sub_enumerate;have b:Heap.IsTuple (Shared.heap ⟨i,g,d,j,os⟩) l a:=⟨_,hl,rfl,n,rfl⟩
  wp_walk using TY hl
  show wpAny_stack_any λst=>c2 ?_;split
  .rename_i c _ _ _ _ _;cases(c==ro "enumerate")
   .wp_walk using TY hl,PL b
    show⟨_,rfl,h⟩
   .wp_walk using TY hl,PL b
    show⟨_,rfl,h⟩
  .wp_walk using TY hl,PL b
   show⟨_,rfl,h⟩
section
def fV(g:s.heap.IsTuple l a)
  (h:∀h',ZH h' (s.heap.objs.size+1) s.heap.objs.size 0 .none->h'.IsTupleIter s.heap.objs.size l 0->h'.objs.size=s.heap.objs.size+2 ->
   (∀b o,s.heap.get? b=a5 o->h'.get? b=a5 o)->Q (.ref (s.heap.objs.size+1)) {s with heap:=h' }) :
  dV (eh prog w) A (NQ (.type "enumerate") [.ref l]) Q E s:=by
 obtain⟨⟨c,i,j,k⟩,hl,d,n,e⟩:=g
 replace d:c=.type "tuple":=d
 replace e:j=.seq a n:=e
 subst d e;show callType_new PySem.F.called_enumerate (by decide) (PySem.F.typeCall_enumerate_1 _) (PySem.F.newCall_enumerate_1 _) (λobj=>PySem.F.args_object_init_2 obj _) PySem.F.entry_enumerate_new
  (kU l a n i k) ⟨hl,?_⟩
 have hz:(s.heap.push {cls:=.type "tuple_iterator",data:=.fields #[.ref l,.int 0 0]}).objs.size=s.heap.objs.size+1:=WQ ..;change _/\_;rw[hz];have f:ZH ((s.heap.push {cls:=.type "tuple_iterator",data:=.fields #[.ref l,.int 0 0]}).push
   {cls:=.type "enumerate",data:=.fields #[.none,.bool cc,.ref s.heap.objs.size,u6 0,.none,.none]}) (s.heap.objs.size+1) s.heap.objs.size 0 .none:=by
  have:=ez (s.heap.push {cls:=.type "tuple_iterator",data:=.fields #[.ref l,.int 0 0]})
   (o:={cls:=.type "enumerate",data:=.fields #[.none,.bool cc,.ref s.heap.objs.size,u6 0,.none,.none]}) rfl
  rw[hz]at this;show this
 show⟨⟨_,f,rfl⟩,h _ f ⟨_,cL _ (ez _ rfl),rfl,rfl⟩ (by rw[WQ,hz]) λb o x=>cL _ (cL _ x)⟩
end
end L2
namespace L2
open PySem PySem.Spec PyProof.Rows
section
def Inv.tQ{ch:List d7}(I:Inv X pins σ H s)(d:∀b∈ch,ir X pins H b)(k:∀b o,b∉ch->s.heap.get? b=a5 o->h'.get? b=a5 o):Inv X pins σ H {s with heap:=h',toks:=t' }:=by
 have f:∀b u,H b=a5 u->b∉ch:=λb u e z=>by rw[(d b z).1]at e;cases e
 show I.step (g':=s.gens) (d':=s.drawn) (ch:=ch) (λb g=>?_) (λb o _ _ a e _=>k b o a e) (λb o _ _ a e _=>⟨o.slots,k b o a e⟩) (λ_ _ _ _ n=>n)
  (λb o a e=>⟨o,k b o a e⟩) (λ_ _ e=>e) (λ_ _ _ e=>e) (λb ps e=>⟨#[],by rw[e];simp⟩) (λm h=>?_) (λb u e=>?_) I.bare
 .have⟨t,i,w,j,l,p⟩:=d b g;show⟨j,i,l,p⟩
 .have⟨o,es,ep,ho,r⟩:=h;show⟨o,es,ep,k _ o (λz=>(d _ z).2.1 rfl) ho,r⟩
 .show(I.IB b u e).fP (λc v a q=>k c v ?_ q) (λ_ q=>q) λ_ _ q=>q;rcases a with z|z
  .rw[z];show f b u e
  .show f c _ z
def Inv.rG{ch:List d7}(I:Inv X pins σ H s)(g:∀b∈ch,ir X pins H b)(k:∀b o,b∉ch->s.heap.get? b=a5 o->h'.get? b=a5 o)(h:s.heap.objs.size<=T)(new:bS X.prog X.w (upd H T o) h' T o):
  Inv X pins σ (upd H T o) {s with heap:=h',toks:=t' }:=by
 have i:Inv X pins σ H {s with heap:=h',toks:=t' }:=I.tQ g k;have j:H T=b8:=I.IB.fresh h;have l:∀b o,s.heap.get? b=a5 o->b≠T:=λb o e z=>by rw[z]at e;show absurd (i2 (d6 e) h) (uk _)
 have a:∀b u,H b=a5 u->b≠T:=λb u e z=>by rw[z,j]at e;cases e
 show I.step (g':=s.gens) (d':=s.drawn) (ch:=ch) (λb f=>?_) (λb o _ _ d e _=>k b o d e) (λb o _ _ d e _=>⟨o.slots,k b o d e⟩) (λb o _ e n=>by rw[au (l b o e)];show n)
  (λb o d e=>⟨o,k b o d e⟩) (λb _ e=>by rw[au (a b _ e)];show e) (λb _ _ e=>by rw[au (a b _ e)];show e) (λb ps e=>⟨#[],by rw[au (a b _ e),e];simp⟩) (λm p=>?_) (λb u e=>?_) I.bare
 .have⟨B,t,C,x,y,A⟩:=g b f;show⟨x,t,y,A⟩
 .have⟨o,es,ep,ho,r⟩:=p;show⟨o,es,ep,k _ o (λz=>(g _ z).2.1 rfl) ho,r⟩
 .by_cases f:b=T
  .subst f;rw[ay]at e;cases e;show new
  .rw[au f]at e;show(i.IB b u e).fP (λc v _ q=>q) (λc q=>by rw[au (a c _ q)];show q) λc xs q=>by rw[au (a c _ q)];show q
end
abbrev OQ(a:Hp->List V->Prop):It :=
 ⟨λi H=>∃xs x,a H xs/\xs[i]?=a5 x,λi H x H'=>∃p,H p=b8/\x=.ref p/\∀xs v,a H xs->xs[i]?=a5 v->H'=upd H p (.tup [.int i,v]),λi H=>∃xs,a H xs/\xs.length<=i⟩
def mW{K:PySem.W.Frag}(n:Hp->List V->Prop)(a e it:d7)(N:e≠it)(At:Nat->Jl->Prop)(r:Jl->Array df->Prop)
  (Lv:∀i h h',At i h->(∀o,h.get? it=a5 o->h'.get? it=a5 o)->At i h') (UY:∀i h,At i h->∃o,h.get? it=a5 o/\∀v,o.data≠.cell v)
  (QP:∀(X:Cx) (pins:List (d7×Obj)) (s:d4) (σ:St) (H:Hp) (xs:List V),X.K=K->Inv X pins σ H s->n H xs->∃j:List df,Vals xs j/\r s.heap j.toArray)
  (SR:∀(X:Cx) (pins:List (d7×Obj)) (s:d4) (σ:St) (H:Hp) (xs t:List V),X.K=K->Inv X pins σ H s->n H xs->n H t->xs=t)
  (OP:∀h c i d,r h c->ZH h e it i d->e≠a)
  (hD:∀(A:M8) (c:Array df),A.handled=b8->Draws P w A it [it,a] c.size (λi v=>c[i]?=a5 v) (λi h=>At i h/\r h c))
  (MT:∀(A:M8) (s:d4) (i:Nat) (c:Array df) (Q:df->d4->Prop) (E:df->d4->Prop),A.handled=b8->At i s.heap->r s.heap c->c[i]?=b8 ->
   (∀h' x,ù it s.heap h'->(∃o,h'.get? x=a5 o/\o.cls=.type "StopIteration")->E (.ref x) {s with heap:=h' })->dV (eh P w) A (J1 (.ref it)) Q E s) :
  Turn P w K (.Tuple es kx ps) (OQ n) [e,it] e (λi h=>(∃d,ZH h e it i d)/\At i h) where
 mem:=by simp
 obj:=λi h st b f=>by
  obtain⟨⟨d,g⟩,hl⟩:=st;rcases d3.mp f with z|z
  .rw[z];show⟨_,g,λv z=>by
    have z':VF _=ZW v:=z;cases z'⟩
  .rw[hV.mp z];show UY i h hl
 keep:=λi h h' ⟨⟨d,g⟩,hl⟩ k=>⟨⟨d,k e (by simp) _ g⟩,Lv i h h' hl λo q=>k it (by simp) o q⟩
 item:=by
  intro X O Y B hc i pins s σ H E I C ⟨⟨d,g⟩,hl⟩ hg;subst O Y;have⟨xs,x,G,hx⟩:=hg;have⟨j,rv,p⟩:=QP X pins s σ H xs B I G;have⟨u,hu,ru⟩:=rv.get hx;have IZ:i<j.toArray.size:=by simpa using(dt.mp hu).1
  have D:=hD X.A.in1 j.toArray (by simpa using I.ok.hd hc);have SS:=OP _ _ _ _ p g;show wpAny_pyNext_enum_itemD D g ⟨hl,p⟩ IZ N (by simp[N,SS]) λy h1 l J ho st1 L hsz hk=>?_;have ey:y=u:=by
   have:j.toArray[i]?=a5 u:=by simpa using hu
   rw[this]at J;cases J;rfl
  subst ey;show⟨_,rfl,wpAny_letOwnedTupleGo_enum (s:={s with heap:=h1,toks:=l+1}) ho λm W_ JV=>?_⟩;have UZ:e<s.heap.objs.size:=d6 g;have W':m.get? s.heap.objs.size=a5 {cls:=.type "tuple",data:=.seq #[.int i l,y]}:=(JV.2 _ (KX UZ)).trans L;have k2:∀b o,b∉[e,it]->s.heap.get? b=a5 o->m.get? b=a5 o:=λb o f q=>by
   simp only[d3,K2,or_false,not_or]at f;show(JV.2 b f.1).trans (hk b o f.1 f.2 q)
  have I2:Inv X pins σ (upd H s.heap.objs.size (.tup [.int i,x])) {s with heap:=m,toks:=l+1}:=I.rG C k2 (gj _)
   (show bS X.prog X.w _ m _ (.tup [.int i,x]) from⟨by change 2<=cK;decide,[.int i l,y],.cons ⟨l,rfl⟩ (.cons ru .nil),⟨_,W',rfl,_,rfl⟩⟩)
  show⟨.ref s.heap.objs.size,_,I2,rfl,⟨_,I.IB.fresh (gj _),rfl,λt v J hv=>?_⟩,⟨⟨_,W_⟩,Lv (i+1) h1 m st1.1 λo q=>(JV.2 it (ri N)).trans q⟩,λb f=>?_⟩
  .have:=SR X pins s σ H t xs B I J G;subst this;rw[hx]at hv;cases hv;rfl
  .have Kc:b≠s.heap.objs.size:=by
    rcases d3.mp f with z|z
    .rw[z];show hH UZ
    .rw[hV.mp z];obtain⟨o,q,_⟩:=UY i _ hl;show hH (d6 q)
   rw[au Kc];show(C b f).1
 done:=by
  intro X O Y B hc i pins s σ H E I C ⟨⟨d,g⟩,hl⟩ hg;subst O Y;have⟨xs,G,hx⟩:=hg;have⟨j,rv,p⟩:=QP X pins s σ H xs B I G;have ab:=rv.length;have L:s.TypeIs (.ref e) "enumerate":=⟨_,g,rfl⟩
  unfold Tg;show b6 (wpAny_attempt (P0 (name:=Q2 "__next__") L PySem.F.slot_enumerate_next
   (JQ PySem.F.slot_enumerate_next L PySem.F.entry_enumerate_next ?_ (PySem.F.args_enumerate_next_1 _))))
  change dV _ _ (č (.ref e) 2 >>= _) _ _ _;show b6 (UM g rfl (x:=.ref it) rfl ?_);show b6 (MT _ _ i j.toArray _ _ (by simpa using I.ok.hd hc) hl p (by simp;lia) λh' x Sh Sd=>?_);have⟨o,ho,Mc⟩:=Sd;show b6 (O7 (T:="StopIteration") (b:=bD) ⟨o,ho,Mc⟩ ċ ?_);show c2 ⟨rfl,I.tQ (t':=s.toks) (ch:=[it]) (λb f=>C b (kr _ f)) λb o f q=>Sh b o (λz=>f (by simp[z])) q⟩
 self:=λA i s Q E ⟨⟨d,g⟩,hl⟩ h=>VU g h
section
variable{X:Cx}{es:List l'}{kx:Nat}{ps p pos:Pos}
def vp:t4 "enumerate"=a5 (.type "enumerate"):=by decide +kernel
abbrev H0(K:PySem.W.Frag)(c:TA):TI:=λσ H R=>c σ H λvs b=>∃a,vs=[.ref a]/\((∃xs,Jh K b a xs)/\R (OQ λH xs=>Jh K H a xs) b\/(∃xs,Ju K b a xs)/\R (OQ λH xs=>Ju K H a xs) b)
def DG(a e it:d7)(n:e≠it)(q:a≠it):Turn X.prog X.w X.K (.Tuple es kx ps) (OQ λH xs=>Jh X.K H a xs) [e,it] e (λi h=>(∃c,ZH h e it i c)/\h.IsListIter it a i):=by
 show mW _ a e it n (λi h=>h.IsListIter it a i) (λh b=>h.IsList a b) (λi h h' x k=>x.at k) (λi h ⟨o,ho,j,r⟩=>⟨o,ho,λv z=>by rw[r]at z;cases z⟩)
  (λY pins s σ H xs f I l=>?_) (λY pins s σ H xs D f I d m=>?_) (λh b i c ⟨o,ho,j,_⟩ t z=>?_) (λA b g=>Draws.list g it a q b) (λA s i b Q E g hl u d y=>wpAny_nextOf_list_end g hl u d y)
 .rw[<-f]at l;have⟨B,rv,p,hz⟩:=I.list l;show⟨B,rv,p.isList⟩
 .rw[<-f]at d m;show I.pD d m
 .rw[<-z,t]at ho;cases ho;have C:ro "enumerate"=ro "list":=j;show absurd C (by decide)
def DH(a e it:d7)(n:e≠it)(q:a≠it):Turn X.prog X.w X.K (.Tuple es kx ps) (OQ λH xs=>Ju X.K H a xs) [e,it] e (λi h=>(∃c,ZH h e it i c)/\h.IsTupleIter it a i):=by
 show mW _ a e it n (λi h=>h.IsTupleIter it a i) (λh b=>h.IsTuple a b) (λi h h' x k=>x.at k) (λi h ⟨o,ho,j,r⟩=>⟨o,ho,λv z=>by rw[r]at z;cases z⟩)
  (λY pins s σ H xs f I l=>?_) (λY pins s σ H xs D f I d m=>?_) (λh b i c ⟨o,ho,j,_⟩ t z=>?_) (λA b g=>qa g it a q b) (λA s i b Q E g hl u d y=>e_ g hl u d y)
 .rw[<-f]at l;have⟨B,rv,p,hz⟩:=I.tuple l;show⟨B,rv,p⟩
 .rw[<-f]at d m;show I.mC d m
 .rw[<-z,t]at ho;cases ho;have C:ro "enumerate"=ro "tuple":=j;show absurd C (by decide)
def AE(m:Gl X "enumerate")(n:X.mg "enumerate"=b8)(t:PA X [a] v)(hs:gs [a] X.env=[(cc,vl a X.env)]):PI X (.Tuple es kx ps) (.Call (.Name "enumerate" p) [a] [] pos) (H0 X.K v):=by
 intro pins s σ H R I h;show Call_ (dh I m n vp (Mu (IG (t pos pins s σ H _ I h) λus s1 ⟨vs,i,c,w,x⟩=>?_) hs rfl));have⟨a',e,q⟩:=x;subst e;have⟨u,rfl,r⟩:=vals1 w;cases r;have d:s1.heap.objs.size+1≠s1.heap.objs.size:=Nat.succ_ne_self _;have f:∀(h':Jl),(∀b∈[s1.heap.objs.size+1,s1.heap.objs.size],ir X pins i b):=λh' b y=>by
  have l:s1.heap.objs.size<=b:=by
   rcases d3.mp y with z|z
   .rw[z];show MO _
   .rw[hV.mp z];show gj _
  show c.Ag l (c.IB.fresh l)
 rcases q with⟨⟨xs,j⟩,q⟩|⟨⟨xs,j⟩,q⟩
 .have⟨A,rv,p,hz⟩:=c.list j;have k:a'<s1.heap.objs.size:=let ⟨o,ho,_⟩:=p.isList;d6 ho;show call_enumerate_list p.isList λh' g hl hsz hk=>?_;show VU g ⟨_,[s1.heap.objs.size+1,s1.heap.objs.size],_,_,i,rfl,c.kept (t':=s1.toks) hk,DG a' _ _ d (hH k),⟨⟨_,g⟩,hl⟩,f h',q⟩
 .have⟨A,rv,p,hz⟩:=c.tuple j;have k:a'<s1.heap.objs.size:=let ⟨o,ho,_⟩:=p;d6 ho;show fV p λh' g hl hsz hk=>?_;show VU g ⟨_,[s1.heap.objs.size+1,s1.heap.objs.size],_,_,i,rfl,c.kept (t':=s1.toks) hk,DH a' _ _ d (hH k),⟨⟨_,g⟩,hl⟩,f h',q⟩
end
def AF{a:List df}(h:è (λi v=>a.toArray[a.toArray.size - 1 - i]?=a5 v) acc a.toArray.size):acc.toList=a.reverse:=by
 apply ZS;intro i;have hs:acc.size=a.length:=by have:=h.1;simpa using this
 by_cases c:i<a.length
 .have b:i<acc.size:=by lia
  have:=h.2 i (acc[i]'b) (by simp[b]);rw[oe,Ox b,List.getElem?_reverse c];simpa using this.symm
 .rw[SQ (by rw[fx];lia),SQ (by rw[Uc];lia)]
section
def xC(g:X.calm=bD)(I:Inv X pins σ H s)(j:Jh X.K H a xs)
  (h:∀c,Vals xs c->xs.length<=cK->∀(R:d7) (d:Jl),R=s.heap.objs.size->d.objs.size=s.heap.objs.size+1->(∀b o,s.heap.get? b=a5 o->d.get? b=a5 o)->(∀B:M8,B.handled=X.A.handled ->
   Walks X.prog X.w B R [R,a] [R] c.toArray.size (λi v=>c.toArray[c.toArray.size - 1 - i]?=a5 v) (λi h=>i<=c.toArray.size/\h.IsRevIter R a ((c.toArray.size:Int) - 1 - (i:Int))/\h.IsList a c.toArray)) ->
   d.IsRevIter R a ((c.toArray.size:Int) - 1 - ((0:Nat):Int))->d.IsList a c.toArray->a<s.heap.objs.size->Q (.ref R) {s with heap:=d}):dV (eh X.prog X.w) X.A (NQ (.type "reversed") [.ref a]) Q X.xe s:=by
 have⟨c,rv,p,hz⟩:=I.list j;have f:a<s.heap.objs.size:=let ⟨o,ho,_⟩:=p.isList;d6 ho;show call_reversed_list p.isList (h c rv hz _ _ rfl (by rw[Mt]) (λb o e=>cL _ e) (λB k=>Walks.listRev (by rw[k];show I.ok.hd g) _ a (hH f) c.toArray) ?_ (p.isList.push _) f);show⟨_,ez _ rfl,rfl,?_⟩;change VF _=VF _;congr 3
 simp
def xD(n:X.calm=bD)(I:Inv X pins σ H s)(p:Jh X.K H a xs)(q:∀l,H l=b8->Q (.ref l) (upd H l (.lst xs.reverse))):
  dV (eh X.prog X.w) X.A (NQ (.type "reversed") [.ref a]) (λv s1=>dV (eh X.prog X.w) X.A (NQ (.type "list") [v]) (EP X pins σ Q) X.xe s1) X.xe s:=by
 show xC n I p λg rv hz R c h hsz hk r t hl u=>?_;have T:g.length=xs.length:=rv.length.symm;show p_ (s:={s with heap:=c}) (r X.A.in1.in1 rfl).toS (λi s st=>st.2.1.typeIs) ⟨i7 _,t,hl⟩ (λb d=>?_) (by simp) (λs' acc j f x y=>?_) (by simp;lia)
 .change b<c.objs.size;rw[hsz];rcases d3.mp d with z|z
  .rw[z,h];show Oy _
  .rw[hV.mp z];show RX u
 .have⟨k,B,C,D,o2⟩:=s';have G:B=s.gens:=f.gens;have J:C=s.drawn:=f.drawn;have L:o2=s.os:=f.os;subst G J L;have k2:∀b o,s.heap.get? b=a5 o->k.get? b=a5 o:=λb o e=>f.heap b o (λz=>by
   have d:=d6 e;rcases d3.mp z with z|z
   .rw[z]at d;have m:c.objs.size<s.heap.objs.size:=d;rw[hsz]at m;show absurd m (À (Oy _))
   .rw[hV.mp z,h]at e;show absurd (d6 e) (uk _)) (cL _ (hk b o e))
  have N:=AF y;show⟨.ref c.objs.size,_,I.laid (t':=D) (o:=.lst xs.reverse) k2 (by rw[hsz];show MO _) ⟨by rw[Uc];show hz,g.reverse,j,rv.reverse,?_⟩,rfl,q _ (I.IB.fresh (by rw[hsz];show MO _))⟩;have O:k.get? c.objs.size=a5 {cls:=.type "list",dict:=b8,data:=.seq acc j,slots:=#[]}:=x;rw[O,<-N,YL]
end
def vq(l:d7)(a:Array df)(n:Nat)(b:d7)(c:Array df)(e:Nat)(dd:Option d7)(f:Array (Option df))(o:¬(!a.isEmpty&&Lf (a.size+c.size))=bD)(i:a.size<=cK)(j:a.size+c.size<=cK+1):
  Meets (NR.«list.extend» ⟨[.ref l,.ref b],[]⟩) (λ_ R s=>s.heap.get? l=a5 {cls:=.type "list",dict:=b8,data:=.seq a n,slots:=#[]}/\s.heap.get? b=a5 {cls:=.type "list",dict:=dd,data:=.seq c e,slots:=f}/\R (.ok (.ret mN)) {s with heap:=s.heap.update l (nC λx=>x++c),toks:=s.toks}) :=
 .of_wp λprog w A R s h=>by
  have⟨p,g,d,q,os⟩:=s;have⟨hl,k,h⟩:=h;have r:=YN;have t:=VH;have u:=WS;have v:=Wv;have y:=Ww;
  have m:(a++c).size<=cK+1:=by rw[UQ];show j
  wp_walk using(Rt hl rfl (hz:=i) (_hz':=m)),Ot hl,Ot k;show⟨_,rfl,h⟩
def vt(l:d7)(a:Array df)(n:Nat)(b:d7)(c:Array df)(e:Nat)(dd:Option d7)(f:Array (Option df))(o:¬(!a.isEmpty&&Lf (a.size+c.size))=bD)(i:a.size<=cK)(j:a.size+c.size<=cK+1):
  Meets (NR.«list.extend» ⟨[.ref l,.ref b],[]⟩) (λ_ R s=>s.heap.get? l=a5 {cls:=.type "list",dict:=b8,data:=.seq a n,slots:=#[]}/\s.heap.get? b=a5 {cls:=.type "tuple",dict:=dd,data:=.seq c e,slots:=f}/\R (.ok (.ret mN)) {s with heap:=s.heap.update l (nC λx=>x++c),toks:=s.toks}) :=
 .of_wp λprog w A R s h=>by
  have⟨p,g,d,q,os⟩:=s;have⟨hl,k,h⟩:=h;have r:=YN;have t:=VH;have u:=WS;have v:=Wv;have y:=Ww;
  have m:(a++c).size<=cK+1:=by rw[UQ];show j
  wp_walk using(Rt hl rfl (hz:=i) (_hz':=m)),Ot hl,Ot k;show⟨_,rfl,h⟩
section
def rH:NP X "list.extend" (λx vs H Q=>∃l b xs c,x=.ref l/\vs=[.ref b]/\H l=a5 (.lst xs)/\(Jh X.K H b c\/Ju X.K H b c)/\xs.length+c.length<=cK/\Q .ID (upd H l (.lst (xs++c)))):=by
 intro pins s σ H x vs v us Q I A rv h;have⟨l,b,xs,c,rfl,rfl,w,hB,hz,q⟩:=h;cases A;have⟨u,rfl,B⟩:=rv.one;cases B;have⟨z,f,n,r,hl,e⟩:=I.rj w;have g:∀a:List df,Vals c a->EP X pins σ Q mN {s with heap:=s.heap.update l (nC λx=>x++a.toArray),toks:=s.toks}:=λa d=>by
  show⟨.ID,_,I.kI (its':=f++a) w e (by simp) (r.append d) ?_,rfl,q⟩;rw[ia];lia
 have m:∀a:List df,c.length=a.length->f.toArray.size+a.toArray.size<=cK:=λa h=>by rw[ei,ei];lia
 have y:∀a:List df,c.length=a.length->¬(!f.toArray.isEmpty&&Lf (f.toArray.size+a.toArray.size))=bD:=λa h=>by
  rw[wQ (m a h),Tb];show i1
 rcases hB with hB|hB
 .obtain⟨a,d,o,_⟩:=I.list hB;obtain⟨⟨cls,dd,data,p⟩,ho,i,t,j⟩:=o.isList;simp only at i j;subst i j;have k:=d.length;have C:=m a k;show Qv Z7 ⟨_,e,rfl⟩ ZV (ZJ _ _) (vq l f.toArray n b a.toArray t dd p (y a k) ⋯ ⋯) ⟨e,ho,g a d⟩
 .obtain⟨a,d,o,_⟩:=I.tuple hB;obtain⟨⟨cls,dd,data,p⟩,ho,i,t,j⟩:=o;simp only at i j;subst i j;have k:=d.length;have C:=m a k;show Qv Z7 ⟨_,e,rfl⟩ ZV (ZJ _ _) (vt l f.toArray n b a.toArray t dd p (y a k) ⋯ ⋯) ⟨e,ho,g a d⟩
end
end L2
namespace L2
open PySem PySem.W PyProof.Rows
section
def vv{vs:List (Key×df)}(hk:vs.map (·.1)=ks.map mx)(hl:acc.length=vs.length)(h:∀(j:Nat) (v:df),acc[j]?=a5 v->∃k x,vs[j]?=a5 (k,x)/\(bh P w).is k v=bD):Qi acc ks:=by
 induction acc generalizing ks vs with
 |nil =>
  cases vs with
  |nil=>cases ks with
   |nil=>show .nil
   |cons _ _=>cases hk
  |cons _ _=>cases hl
 |cons v acc b =>
  cases vs with
  |nil=>cases hl
  |cons p vs =>
   cases ks with
   |nil=>cases hk
   |cons k ks =>
    simp only[d8,P6]at hk;have⟨k',x,a,c⟩:=h 0 v rfl;simp only[List.getElem?_cons_zero,S3]at a;subst a;have d:k'=mx k:=hk.1;subst d;rcases bB (show ku (mx k) v=bD from c) with⟨i,t,e,rfl⟩|⟨y,t,e,rfl⟩
    .cases e
    .cases e;show .cons _ _ (b hk.2 (by simpa using hl) λj u f=>h (j+1) u (by simpa using f))
def jd:X.calm=bD->iu X (.builtin "sorted") (λxs H Q=>∃(d:d7) (kvs:List (Key×V)) (ks:List Str),xs=[.ref d]/\H d=a5 (.dK kvs)/\kvs.map (·.1)=ks.map mx/\ks.length<64/\∀q,H q=b8->Q (.ref q) (upd H q (.lst ((aP ks).map V.str)))):=by
 intro k pins s σ H xs us Q I rs h;have⟨d,kvs,ks,rfl,e,hk,C,q⟩:=h;have⟨u,rfl,r⟩:=vals1 rs;cases r;have⟨hz,lo,vs,kv,dd⟩:=wW I.IB e;have a:vs.length=kvs.length:=(Paired.length kv).symm;have l:kvs.length=ks.length:=by rw[<-c4 (f:=(·.1)),hk,c4]
 have m:vs.map (·.1)=ks.map mx:=by
  rw[<-hk];clear dd a hk l e q hz;induction kv with
  |nil=>rfl
  |cons r _ n=>rw[d8,d8,n,r.1]
 have⟨o,es,ep,p⟩:=id dd;have t:(64:Nat)<=cK:=by decide
 show fw (kdu_collect (A:=X.A.in1) (kdl_dict (knd:=bh X.prog X.w) (kvs:=vs) (ep:=ep) lo) (I.ok.hd k) ⟨o,es,p⟩ ⋯ λh' b acc x c=>⟨ks,vv m (by rw[fx];show c.1) (λj v y=>c.2 j v (by rw[<-oe];show y)),by rw[fx,c.1];lia,λD z B k2 g s2=>?_⟩);have i:Inv X pins σ H {s with heap:=h',toks:=b}:=I.kept (t':=b) x;show⟨.ref h'.objs.size,_,i.laid (t':=b) (o:=.lst ((aP ks).map V.str)) k2 (gj _) ⟨by rw[c4,cG];lia,z,B,dJ s2,g⟩,rfl,q _ (i.IB.fresh (gj _))⟩
end
abbrev hJ{α:Type}(lt:Nat->Nat->Bool):KasT α->α
 |.ret x=>x
 |.ask i j k=>hJ lt (k (lt i j))
def J0{α:Type}(n:Nat)(P:α->Prop):KasT α->Prop
 |.ret x=>P x
 |.ask i j k=>i<n/\j<n/\∀b,J0 n P (k b)
theorem J0.OR{P:α->Prop}{Q:β->Prop}{f:α->KasT β}(a:∀x,P x->J0 n Q (f x)):∀{t:KasT α},J0 n P t->J0 n Q (t.bind f)
 |.ret x,h=>a x h
 |.ask i j k,h=>⟨h.1,h.2.1,λb=>J0.OR a (h.2.2 b)⟩
theorem J0.got:∀{t:KasT α},J0 n P t->P (hJ lt t)
 |.ret _,h=>h
 |.ask i j k,h=>J0.got (t:=k (lt i j)) (h.2.2 _)
theorem J0.wp(b:∀i j,i<n->j<n->∀C:Bool->d4->Prop,C (lt i j) s->a i j C s):
  ∀{t:KasT α},J0 n P t->Q (hJ lt t) s->t.kasWp a Q s
 |.ret _,_,q=>q
 |.ask i j k,h,q=>b i j h.1 h.2.1 _ (J0.wp b (t:=k (lt i j)) (h.2.2 _) q)
abbrev Pm(n:Nat)(p:Array Nat):Prop:=p.toList.Perm (eH n)
section
variable{n:Nat}(hn:0<n)
include hn
def Pm.at(h:Pm n p)(i:Nat):p.getD i 0<n:=by
 by_cases a:i<p.size
 .have:p.getD i 0=p[i]:=by simp[Ur,a]
  rw[this];have b:p[i]∈p.toList:=by simp
  show tA.mp (h.mem_iff.mp b)
 .have:p.getD i 0=0:=by simp[Ur,a]
  rw[this];show hn
omit hn in
def Pm.rev(h:Pm n p)(i j:Nat):Pm n (kas_rev p i j):=(mirror_perm p i j _).toList.trans h
omit hn in
def Pm.Xb(h:Pm n p)(i j:Nat):Pm n (bubble p i j):=(bubble_perm p i j).toList.trans h
theorem rJ(h:Pm n p):∀(f m:Nat),J0 n (λ_=>True) (kas_asc p f m)
 |0,m=>trivial
 |f+1,m=>⟨h.at hn _,h.at hn _,λb=>by
  cases b
  .show rJ h f (m+1)
  .show trivial⟩
theorem j9:∀(f:Nat) (p:Array Nat) (m q:Nat),Pm n p->J0 n (λr=>Pm n r.1) (kas_desc f p m q)
 |0,p,m,q,h=>h
 |f+1,p,m,q,h=>⟨h.at hn _,h.at hn _,λb=>by
  cases b
  .show⟨h.at hn _,h.at hn _,λb=>by
    cases b
    .show j9 f p (m+1) (q+1) h
    .show h⟩
  .change J0 n _ (if q>0 then _ else _);split
   .show j9 f _ _ _ (h.rev _ _)
   .show j9 f _ _ _ h⟩
def tR(h:Pm n p)(m r:Nat):J0 n (λx=>Pm n x.2) (kas_tail3 m r p):=by
 unfold kas_tail3;show J0.OR (λx _=>?_) (rJ hn (h.rev _ _) _ _);show h.rev _ _
def tS(h:Pm n p)(m r:Nat):J0 n (λx=>Pm n x.2) (kas_descPart m r p):=by
 unfold kas_descPart;show J0.OR (λx a=>?_) (j9 hn _ _ _ _ h);split
 .show tR hn (a.rev _ _) _ _
 .show tR hn a _ _
def xE(h:Pm n p)(r:Nat):J0 n (λx=>Pm n x.2) (kas_count r p):=by
 unfold kas_count;show J0.OR (λm _=>?_) (rJ hn h _ _);split
 .show h
 .split
  .show⟨h.at hn _,h.at hn _,λb=>by
    cases b
    .show tS hn (h.rev _ _) _ _
    .show h⟩
  .show tS hn h _ _
theorem kW(h:Pm n p)(k:Nat):∀(f l r:Nat),J0 n (λ_=>True) (kas_place p k f l r)
 |0,l,r=>trivial
 |f+1,l,r=>by
  unfold kas_place;split
  .show trivial
  .show⟨h.at hn _,h.at hn _,λb=>by
    cases b
    .show kW h k f _ _
    .show kW h k f _ _⟩
theorem xF:∀(f:Nat) (p:Array Nat) (k:Nat),Pm n p->J0 n (Pm n) (kas_bin f p k)
 |0,p,k,h=>h
 |f+1,p,k,h=>J0.OR (λl _=>xF f _ _ (h.Xb _ _)) (kW hn h _ _ _ _)
def tT:J0 n (Pm n) (N2 n):=by
 unfold N2;show J0.OR (λx a=>?_) (xE hn (p:=List.toArray (eH n)) (by unfold Pm;simp) n);split
 .show xF hn _ _ _ a
 .show a
end
def kX(lt:Nat->Nat->Bool)(n:Nat):(hJ lt (N2 n)).toList.Perm (eH n):=by
 cases n with
 |zero=>show Ni _
 |succ n=>show(tT (YB n)).got
section
def vA(ho:s.heap.get? a=a5 (w6 "list" vs.toArray n))(l:vs.length<64)
  (m:2<=vs.length->∀s1:d4,(∀b o,b≠a->s.heap.get? b=a5 o->s1.heap.get? b=a5 o)->dV (eh prog w) A (keyKind' vs.toArray) (λκ s'=>s'=s1/\∀i j,i<vs.length->j<vs.length->∀C:Bool->d4->Prop,C (lt i j) s1->â prog w A κ vs i j C s1) (λ_ _=>False) s1)
  (h:P (.done (.ret .none)) {s with heap:=Ô s.heap a vs (((hJ lt (N2 vs.length)).toList.map λi=>vs.getD i mN).toArray)}) :
  dV (eh prog w) A (NR.«list.sort» ⟨[.ref a],[]⟩) P E s:=by
 have N:a<s.heap.objs.size:=d6 ho;have u:(64:Nat)<=cK:=by decide
 rw[list_sort_plain];show b6 (ZM ho rfl (b6 (Vn ho rfl ?_ (by rw[ei];lia) (i7 _))));obtain⟨k,q⟩:∃k,(s.heap.update a (nC λ_=>(#[]:Array df))).get? a=a5 (w6 "list" #[] k):=⟨_,ă ho λ_=>#[]⟩
 show b6 (Z' q rfl (b6 (wpAny_newTuple (b6 (YW (ti ?_) (i7 _))) (by change vs.length<=_;lia))));have d:(((s.heap.update a (nC λ_=>(#[]:Array df))).push (w6 "tuple" vs.toArray 0)).push (w6 "list" #[] 0)).get? a=a5 (w6 "list" #[] k):=cL _ (cL _ q);have f:∀b o,b≠a->s.heap.get? b=a5 o->(((s.heap.update a (nC λ_=>(#[]:Array df))).push (w6 "tuple" vs.toArray 0)).push (w6 "list" #[] 0)).get? b=a5 o:=λb o y e =>
  cL _ (cL _ (by rw[OA _ _ _ _ y];show e))
 change dV (eh prog w) A _ P E {s with heap:=((s.heap.update a (nC λ_=>(#[]:Array df))).push (w6 "tuple" vs.toArray 0)).push (w6 "list" #[] 0)}
 dsimp only
 have r:((hJ lt (N2 vs.length)).toList.map λi=>vs.getD i mN).length=vs.length:=by rw[c4,(kX lt _).length_eq,ve]
 by_cases c:vs.toArray.size<2
 .rw[ĝ c,ĝ c];show b6 (c2 ?_);rw[StateT.run_pure];show b6 (c2 ?_);have z:((hJ lt (N2 vs.length)).toList.map λi=>vs.getD i mN).toArray=(vs.toArray.zip vs.toArray).map (·.2):=by
   have g:=kX lt vs.length;clear h m r f d ho l
   match vs,c,g with
   |[],_,g=>rw[show(hJ lt (N2 ([]:List df).length)).toList=[] from List.perm_nil.mp g];simp
   |[v],_,g=>rw[show(hJ lt (N2 [v].length)).toList=[0] from List.perm_singleton.mp g];simp
   |_::_::_,c,_=>simp at c;lia
  rw[z]at h
  dsimp only
  show b6 (Z' d rfl (b6 (Vn d rfl ?_ (i7 _) (by rw[Rc];change(pairsOf vs).size<=_;rw[pairsOf_size];lia))));simp only[bne_self_eq_false,Li,if_false];show c2 h
 .rw[Ğ c,Ğ c];have t:2<=vs.length:=by rw[ei]at c;lia
  show b6 (kj (m t _ f) (λκ O hk=>?_) λ_ _ x=>x.elim);have⟨rfl,hk⟩:=hk;show b6 (kj (kat_run (κ:=κ) (ks:=vs) (vs:=vs) (G:=λp s'=>p=hJ lt (N2 vs.length)/\s'={s with heap:=((s.heap.update a (nC λ_=>(#[]:Array df))).push (w6 "tuple" vs.toArray 0)).push (w6 "list" #[] 0)})
   (Q:=λst' s'=>∃p:Array Nat,arrOf st'=p.map (kas_item (vs.toArray.zip vs.toArray))/\failedOf st'=b8/\p=hJ lt (N2 vs.length)/\s'={s with heap:=((s.heap.update a (nC λ_=>(#[]:Array df))).push (w6 "tuple" vs.toArray 0)).push (w6 "list" #[] 0)})
   rfl t l (λp st' s' T B D H=>⟨p,B,D,H⟩) (J0.wp hk (tT ⋯) ⟨rfl,rfl⟩)) ?_ λ_ _ e=>e)
  rintro⟨⟨⟩,st'⟩ s' ⟨p,I,J,rfl,rfl⟩
  dsimp only
  have L:=kat_snds rfl I;rw[L,J];show b6 (Z' d rfl (b6 (Vn d rfl ?_ (i7 _) (by rw[ei,r];lia))));simp only[bne_self_eq_false,Li,if_false];show c2 h
end
@[reducible]def AG:=Str×Int
abbrev Nj(ks:List Str)(i j:Nat):Bool:=cn ((ks.getD i td).cps.toList<(ks.getD j td).cps.toList)
abbrev jV(ks:List Str):List Nat:=(hJ (Nj ks) (N2 ks.length)).toList
def gr(ks:List Str):(jV ks).Perm (eH ks.length):=kX _ _
abbrev FX(x:Str)(n:Int)(t u:Tok):Obj:={cls:=.type "tuple",data:=.seq #[.str x t,.int n u]}
abbrev fI(h:Jl)(as:List d7)(ps:List AG):Prop:=as.length=ps.length/\∀(j:Nat) (a:d7),as[j]?=a5 a->∃p t u,ps[j]?=a5 p/\h.get? a=a5 (FX p.1 p.2 t u)
def fI.keeps(x:fI h as ps)(k:∀b o,b∈as->h.get? b=a5 o->h'.get? b=a5 o):fI h' as ps :=
 ⟨x.1,λj a e=>let ⟨p,t,u,c,d⟩:=x.2 j a e;⟨p,t,u,c,k a _ (my e) d⟩⟩
def fI.tail(x:fI h (a::as) (p::ps)):fI h as ps :=
 ⟨by have:=x.1;simpa using this,λj b e=>by
  have⟨q,t,u,c,d⟩:=x.2 (j+1) b (by simpa using e);show⟨q,t,u,by simpa using c,d⟩⟩
theorem fI.fW:∀{as:List d7}{ps:List AG},fI h as ps->∃b:List df,KatTups h (as.map ko) b/\b.length=as.length/\∀v∈b,∃x t,v=tr x t
 |[],_,_=>⟨[],KatTups.nil,rfl,by simp⟩
 |a::as,[],x=>by have:=x.1;simp at this
 |a::as,p::ps,x=>by
  have⟨b,c,d,e⟩:=fI.fW x.tail;have⟨q,t,u,g,f⟩:=x.2 0 a rfl;show⟨.str q.1 t::b,KatTups.cons f rfl rfl rfl c,by simp[d],λv hv=>?_⟩;rcases d3.mp hv with rfl|hv
  .show⟨_,_,rfl⟩
  .show e v hv
theorem mX:∀{l:List α}{m:List β}{i:Nat}{x:α},Paired F l m->l[i]?=a5 x->∃y,m[i]?=a5 y/\F x y
 |_,_,_,_,.nil,e=>by simp at e
 |_,_,0,_,.cons r _,e=>by simp at e;subst e;show⟨_,rfl,r⟩
 |_,_,i+1,x,.cons _ t,e=>by
  have⟨u,a,b⟩:=mX (i:=i) (x:=x) t (by simpa using e);show⟨u,by simpa using a,b⟩
section
def DI(x:fI s.heap as ps)(g:(ps.map (·.1)).Nodup)(e:i<as.length)(f:j<as.length)(q:C (Nj (ps.map (·.1)) i j) s):
  â prog w A (tuples' bD) (as.map ko) i j C s:=by
 have⟨p,t,u,d,k⟩:=x.2 i as[i] (by simp[e]);have⟨a,t',u',c,l⟩:=x.2 j as[j] (by simp[f]);have hl:=x.1;have m:i<ps.length:=by lia
 have n:j<ps.length:=by lia
 have o:(as.map ko).getD i mN=.ref as[i]:=by simp[Ov,e]
 have r:(as.map ko).getD j mN=.ref as[j]:=by simp[Ov,f]
 have v:(ps.map (·.1)).getD i td=p.1:=by simp[Ov,d]
 have y:(ps.map (·.1)).getD j td=a.1:=by simp[Ov,c]
 unfold â;rw[o,r];show kat_lt (b:=bD) k rfl l rfl ?_;unfold Nj at q;rw[v,y]at q;change KatLex prog w A bD (cn (2<2)) C [(.str p.1 t,.str a.1 t'),(.int p.2 u,.int a.2 u')] 0 s;show kat_cons (ð ?_);by_cases h:p.1=a.1
 .have z:i=j:=by
   have B:(ps.map (·.1))[i]'(by simpa using m)=(ps.map (·.1))[j]'(by simpa using n):=by
    obtain⟨_,D⟩:=dt.mp d;obtain⟨_,G⟩:=dt.mp c;simp[D,G,h]
   show(ZZ g).mp B
  subst z;rw[d]at c;cases c;rw[Ġ rfl];show kat_yes (kat_cons (ñ ?_));rw[show(p.2==p.2)=bD by simp];show kat_yes (kat_nil ?_);have:cn (p.1.cps.toList<p.1.cps.toList)=cc:=ğ (List.lt_irrefl _);rw[this]at q;show q
 .rw[ğ h];show kat_no (oneLt_str q)
def DJ(x:fI s.heap as ps)(c:(ps.map (·.1)).Nodup)(g:2<=as.length):
  dV (eh prog w) A (keyKind' (as.map ko).toArray) (λκ s'=>s'=s/\∀i j,i<(as.map ko).length->j<(as.map ko).length->∀C:Bool->d4->Prop,C (Nj (ps.map (·.1)) i j) s->â prog w A κ (as.map ko) i j C s) (λ_ _=>False) s:=by
 have⟨h,d,k,e⟩:=x.fW;show kat_kind (T:=.type "str") d ⋯ (λv f=>?_) rfl ⟨rfl,λi j a b C q=>?_⟩
 .have⟨y,t,rfl⟩:=e v f;show Looks.of_pure rfl
 .rw[c4]at a b;show DI x c a b q
end
abbrev jW(H:Hp):List (d7×List V)->Hp
 |[]=>H
 |(a,vs)::r=>upd (jW H r) a (.tup vs)
theorem kY:∀{l:List (d7×List V)}{b:d7}{o:HO},jW H l b=a5 o->(∃vs,(b,vs)∈l/\o=.tup vs)\/H b=a5 o
 |[],b,o,h=>.inr h
 |(a,vs)::r,b,o,h=>by
  by_cases c:b=a
  .subst c;rw[jW,ay]at h;cases h;show .inl ⟨vs,by simp,rfl⟩
  .rw[jW,au c]at h;rcases kY h with⟨ws,d,e⟩|q
   .show .inl ⟨ws,by simp[d],e⟩
   .show .inr q
theorem kZ:∀{l:List (d7×List V)}{b:d7},(∀p∈l,p.1≠b)->jW H l b=H b
 |[],b,_=>rfl
 |(a,vs)::r,b,h=>by
  rw[jW,au (ri (h _ mu))];show kZ λp c=>h p (by simp[c])
theorem tU:∀{l:List (d7×List V)}{b:d7}{vs:List V},(l.map (·.1)).Nodup->(b,vs)∈l->jW H l b=a5 (.tup vs)
 |(a,ws)::r,b,vs,d,h=>by
  have c:a∉r.map (·.1)/\(r.map (·.1)).Nodup:=by simpa using d
  rcases d3.mp h with h|h
  .cases h;show ay
  .have:b≠a:=λz=>c.1 (by rw[<-z];show js.mpr ⟨_,h,rfl⟩);rw[jW,au this];show tU c.2 h
section
def Inv.many(I:Inv X pins σ H s)(k:∀b u,s.heap.get? b=a5 u->h'.get? b=a5 u)(a:∀b o,H b=a5 o->H' b=a5 o)
  (d:∀b o,H' b=a5 o->H b=a5 o\/(s.heap.objs.size<=b/\bS X.prog X.w H' h' b o)):Inv X pins σ H' {s with heap:=h',toks:=t' }:=by
 show I.un ⟨λb u q _ _ _=>k b u q,λb u q _ _ _=>⟨u.slots,k b u q⟩,λb u q n _=>?_,λb u q _=>⟨u,k b u q⟩,λb xs q=>a b _ q,λb u xs q=>a b _ q,λb ps q=>⟨#[],by rw[a b _ q];simp⟩⟩ λb o e=>?_
 .cases e:H' b with
  |none=>rfl
  |some o =>
   rcases d b o e with z|⟨z,_⟩
   .rw[n]at z;cases z
   .show absurd (i2 (d6 q) z) (uk _)
 .rcases d b o e with z|⟨_,z⟩
  .show(I.IB b o z).fP (λc v _ q=>k c v q) (λc q=>a c _ q) λc xs q=>a c _ q
  .show z
abbrev MF(p:AG):List V:=[.str p.1,.int p.2]
def oC{ps:List AG}(hc:X.calm=bD)(I:Inv X pins σ H s)(e:H d=a5 (.dK (ps.map λp=>((mx p.1:Key),V.int p.2))))(IW:(ps.map (·.1)).Nodup)(K6:ps.length<64)
  (q:∀(as:List d7) (L:d7),as.length=ps.length->as.Nodup->(∀a∈L::as,H a=b8)->L∉as->Q (.ref L) (upd (jW H (as.zip (ps.map MF))) L (.lst ((jV (ps.map (·.1))).map λi=>V.ref (as.getD i 0))))) :
  dV (eh X.prog X.w) X.A (NQ (.builtin "dict.items") [.ref d]) (λv s1=>dV (eh X.prog X.w) X.A (NQ (.builtin "sorted") [v]) (EP X pins σ Q) X.xe s1) X.xe s:=by
 have ab:(64:Nat)<=cK:=by decide
 have⟨hz,lo,vs,kv,dd⟩:=wW I.IB e;have B:vs.length=ps.length:=by
  have:=Paired.length kv;simpa using this.symm
 have⟨o,es,ep,n⟩:=id dd;show ZC PySem.F.slot_dict_items (show s.TypeIs (.ref d) "dict" from⟨o,n.1,n.2.1.1⟩) PySem.F.entry_dict_items (PySem.F.args_dict_items_1 _) (meets_dict_items (bh X.prog X.w) d lo) ⟨⟨vs,dd⟩,?_⟩;change dV (eh X.prog X.w) X.A (NQ (.builtin "sorted") [.ref s.heap.objs.size]) (EP X pins σ Q) X.xe {s with heap:=s.heap.push {cls:=.type "dict_items",data:=.fields #[.ref d]}};have k1:∀b u,s.heap.get? b=a5 u->(s.heap.push {cls:=.type "dict_items",data:=.fields #[.ref d]}).get? b=a5 u:=λb u z=>cL _ z;have Y9:(s.heap.push {cls:=.type "dict_items",data:=.fields #[.ref d]}).DictOf (bh X.prog X.w) d vs:=⟨o,es,ep,k1 _ _ n.1,n.2⟩
 have Lv:(s.heap.push {cls:=.type "dict_items",data:=.fields #[.ref d]}).DictAt (bh X.prog X.w) d vs ep:=⟨o,es,k1 _ _ n.1,n.2⟩
 show WR kind_sorted plain_sorted entry_sorted (args_sorted1 _) ?_;unfold NR.«sorted»;show b6 (m:=checkCount "sorted" 1 1 _) (c2 ?_);show b6 (kdx_collect (A:=X.A.in1) (knd:=bh X.prog X.w) (kvs:=vs) (ep:=ep) (I.ok.hd hc) ⟨_,ez _ rfl,rfl,rfl⟩ Lv ⋯ λc tk as hk hl C=>?_);have D:as.length=ps.length:=hl.trans B;have f:∀a∈as,s.heap.objs.size<=a:=λa ha=>by
  have:=C.above a ha;have z:(s.heap.push {cls:=.type "dict_items",data:=.fields #[.ref d]}).objs.size=s.heap.objs.size+1:=Mt ..;have U2:(s.heap.push {cls:=.type "dict_items",data:=.fields #[.ref d]}).objs.size<a:=this;lia
 have pa:fI c as ps:=⟨D,λj a ea=>by
  have⟨key,k,x,J,N,e3⟩:=C.pairs j a ea;have r:j<ps.length:=by rw[<-D];show(dt.mp ea).1
  have⟨y,ey,r1,r2⟩:=mX kv (i:=j) (x:=((mx ps[j].1:Key),V.int ps[j].2)) (by simp[r]);rw[J]at ey;cases ey;obtain⟨tx,rfl⟩:∃t,x=.int ps[j].2 t:=r2;have Xe:k=mx ps[j].1:=r1.symm;subst Xe;have⟨t,rfl⟩:=YM (x:=ps[j].1) (v:=key) N;show⟨ps[j],t,tx,by simp[r],e3⟩⟩
 have nd:as.Nodup:=C.rise.imp λh=>hH h;show b6 (YW ?_ (by rw[c4];lia));have O:(c.push (w6 "list" (as.map ko).toArray 0)).get? c.objs.size=a5 (w6 "list" (as.map ko).toArray 0):=ez _ rfl;change dV _ _ _ _ _ {s with heap:=c.push (w6 "list" (as.map ko).toArray 0),toks:=tk};have U3:∀a∈as,a<c.objs.size:=λa ha=>C.there ha;show b6 (ti (JQ Ę ⟨_,O,rfl⟩ Ą (vA (lt:=Nj (ps.map (·.1))) O (by rw[c4];lia) (λh2 s1 ks=>?_) ⟨_,rfl,?_⟩) (Ě _)))
 .show DJ (pa.keeps λb o G z=>ks b o (hH (U3 b G)) (cL _ z)) IW (by rw[c4]at h2;show h2)
 .have⟨ee,he⟩:=sortedHeap_at (out:=((hJ (Nj (ps.map (·.1))) (N2 (as.map ko).length)).toList.map λi=>(as.map ko).getD i mN).toArray) O;have g:∀b o,c.get? b=a5 o->(Ô (c.push (w6 "list" (as.map ko).toArray 0)) c.objs.size (as.map ko) ((hJ (Nj (ps.map (·.1))) (N2 (as.map ko).length)).toList.map λi=>(as.map ko).getD i mN).toArray).get? b=a5 o:=λb o z=>by
   have IZ:b<c.objs.size:=d6 z;rw[ė (hH IZ) (by rw[Mt];show RX IZ)];show cL _ z
  have NW:s.heap.objs.size<=c.objs.size:=PX (d6 (hk _ _ (ez _ rfl)));have eP:((hJ (Nj (ps.map (·.1))) (N2 (as.map ko).length)).toList)=jV (ps.map (·.1)):=by
   unfold jV;rw[c4,c4,D]
  have OS:H c.objs.size=b8:=I.IB.fresh NW;have Xf:c.objs.size∉as:=λz=>uk _ (U3 _ z);have U4:∀a∈as,H a=b8:=λa ha=>I.IB.fresh (f a ha);have SX:∀{b:d7} {ws:List V},(b,ws)∈as.zip (ps.map MF)->b∈as:=λz=>(Qn z).1;show c2 ⟨_,rfl,.ref c.objs.size,upd (jW H (as.zip (ps.map MF))) c.objs.size (.lst ((jV (ps.map (·.1))).map λi=>V.ref (as.getD i 0))),?_,rfl,q as _ D nd (λa ha=>?_) Xf⟩
  .show I.many (λb u z=>g b u (hk b u (k1 b u z))) (λb o z=>?_) λb o z=>?_
   .have n1:b≠c.objs.size:=λy=>by rw[y,OS]at z;cases z
    rw[au n1,kZ λp hp y=>?_]
    .show z
    .have:=U4 p.1 (SX (b:=p.1) (ws:=p.2) hp);rw[y,z]at this;cases this
   .by_cases G:b=c.objs.size
    .subst G;rw[ay]at z;cases z;show .inr ⟨NW,by rw[c4,(gr _).length_eq,ve,c4];lia,(jV (ps.map (·.1))).map λi=>(as.map ko).getD i mN,ee,?_,?_⟩
     .have T:∀i∈jV (ps.map (·.1)),i<as.length:=λi Y=>by
       have:=tA.mp ((gr _).mem_iff.mp Y);rw[c4]at this;lia
      generalize jV (ps.map (·.1))=l at T;induction l with
      |nil=>show .nil
      |cons i l ih =>
       show .cons ?_ (ih λj r=>T j (by simp[r]));have Y:=T i (by simp);change RelV (.ref (as.getD i 0)) ((as.map ko).getD i mN);have:(as.map ko).getD i mN=.ref (as.getD i 0):=by simp[Ov,Y]
       rw[this];rfl
     .rw[<-eP];show he
    .rw[au G]at z;rcases kY z with⟨ws,z1,rfl⟩|z1
     .have⟨j,r,ej⟩:=YP.mp z1;have SY:j<as.length:=by simp at r;lia
      have SW:j<ps.length:=by lia
      have Xg:as[j]=b/\MF ps[j]=ws:=by simpa using ej
      have⟨rfl,rfl⟩:=Xg;have⟨p,t,u,J,N⟩:=pa.2 j as[j] (by simp[SY]);have:p=ps[j]:=by simpa[SW] using J.symm
      subst this;show .inr ⟨f _ (by simp),by change 2<=cK;lia,[.str ps[j].1 t,.int ps[j].2 u],.cons ⟨t,rfl⟩ (.cons ⟨u,rfl⟩ .nil),_,g _ _ N,rfl,0,rfl⟩
     .show .inl z1
  .rcases d3.mp ha with rfl|ha
   .show OS
   .show U4 a ha
end
end L2
namespace L2
open PySem PySem.Spec PyProof.Rows
theorem oD:∀{bs:List Bool}{us:List df},Vals (bs.map V.bl) us->us=bs.map N4
 |[],_,.nil=>rfl
 |_::_,_,.cons r t=>by rw[show _=N4 _ from r,oD t];rfl
abbrev xG(b:Bool):df->Bool
 |.bool c=>c==b
 |_=>cc
section
abbrev DK:V->List V->Hp->VK->Prop:=λx vs H Q=>∃(l:d7) (bs:List Bool) (b:Bool),x=.ref l/\vs=[.bl b]/\H l=a5 (.lst (bs.map V.bl))/\Q (.int (bs.count b:Nat)) H
def xH:NP X "list.count" DK:=by
 intro pins s σ H x vs v us Q I a rv h;have⟨l,bs,b,rfl,rfl,d,q⟩:=h;cases a;have⟨u,rfl,f⟩:=rv.one;cases f;have⟨z,i,n,r,hl,e⟩:=I.rj d;obtain rfl:=oD r;show Qv F.slot_list_count ⟨_,e,rfl⟩ F.entry_list_count (F.args_list_count_2 _ _) (SeqAt.list_countAt l _ n b8 #[] (.bool b) (xG b)) ⟨e,λy g=>?_,?_⟩
 .obtain⟨c,_,rfl⟩:=js.mp (ZX.mp g);show WO c b
 .have:(bs.map N4).countP (xG b)=bs.count b:=by rw[List.countP_map];rfl
  show⟨.int (bs.count b:Nat),H,I.tok _,⟨s.toks,by rw[<-this]⟩,q⟩
abbrev DL:V->List V->Hp->VK->Prop:=λx vs H Q=>∃(l:d7) (bs:List Bool) (b:Bool) (j:Nat),x=.ref l/\vs=[.bl b]/\H l=a5 (.lst (bs.map V.bl))/\bs[j]?=a5 b/\(∀m,m<j->bs[m]?≠a5 b)/\Q (.int j) H
def xI:NP X "list.index" DL:=by
 intro pins s σ H x vs v us Q I a rv h;have⟨l,bs,b,j,rfl,rfl,d,f,g,q⟩:=h;cases a;have⟨u,rfl,i⟩:=rv.one;cases i;have⟨z,B,n,r,hl,e⟩:=I.rj d;obtain rfl:=oD r;have⟨k,o⟩:=dt.mp f;have hz:cK<2 ^ 62:=by decide
 rw[c4]at z;show Qv F.slot_list_index ⟨_,e,rfl⟩ F.entry_list_index (F.args_list_index_2 _ _) (SeqAt.list_indexAt l _ n b8 #[] (.bool b) (xG b) j (by simpa using k) ⋯ (by simp[xG,o]) (λm p t=>?_)) ⟨e,λy w=>?_,?_⟩
 .have A:m<bs.length:=by simpa using p
  have:=g m t;rw[sL A]at this;simp only[List.getElem_toArray,Vp,xG];rw[ģ];show λz=>this (by rw[z])
 .obtain⟨c,_,rfl⟩:=js.mp (ZX.mp w);show WO c b
 .show⟨.int j,H,I.tok _,⟨_,rfl⟩,q⟩
end
section
abbrev AH:V->List V->Hp->VK->Prop:=λx vs H Q=>∃(l:d7) (xs:List V) (i:Nat) (y:V),x=.ref l/\vs=[.int (i:Nat),y]/\H l=a5 (.lst xs)/\i<=xs.length/\xs.length<cK/\Q .ID (upd H l (.lst (xs.take i++y::xs.drop i)))
def vB:NP X "list.insert" AH:=by
 intro pins s σ H x vs v us Q I c rv h;have⟨l,xs,i,y,rfl,rfl,b,w,hz,q⟩:=h;cases c;cases rv with
 |cons d f =>
  have⟨u,rfl,g⟩:=Vals.one f;have⟨t,rfl⟩:=d;have⟨z,a,n,r,hl,e⟩:=I.rj b;have hsz:cK<2 ^ 62:=by decide
  have j:UA ((i:Nat):Int)=bD:=Č ⋯ ⋯;have k:¬(!UA ((i:Nat):Int))=bD:=by rw[j];show i1
  have m:a.toArray.size<=cK:=by rw[ei];lia
  show Qv (T:="list") (name:="insert") F.slot_list_insert ⟨_,e,rfl⟩ F.entry_list_insert (F.args_list_insert_3 _ _ _) (@AutoListH.list_insert_list_int_val_1 l a.toArray n ((i:Nat):Int) t u k m) ?_;show⟨e,?_⟩;show⟨.ID,_,I.kI (its':=a.take i++u::a.drop i) b e ?_ ?_ ?_,rfl,q⟩
  .have o:min i a.length=i:=by lia
   have p:¬((i:Nat):Int)<0:=by lia
   simp[p,o];show MS (by rw[R7];lia)
  .show(r.take i).append (.cons g (r.drop i))
  .rw[ia,i0,vu,R7];lia
end
end L2
namespace L2
open PySem PyProof.Rows PySem.W
abbrev H9(h:Jl)(e C:d7)(a0:df)(T:Option d7)(c:df):Prop:=∃a vs,h.get? e=a5 a/\a.cls=.ref C/\a.data=.fields vs/\vs[0]?=a5 a0/\match T with
 |none=>vs[1]?=a5 .none
 |some T=>T≠e/\vs[1]?=a5 (.ref T)/\∃b ts,h.get? T=a5 b/\b.data=.fields ts/\ts[3]?=a5 c
structure bT(P:u7)(w:DD)(stack:List Env)(H:Hp)(s:d4)(e C:d7)(T:Option d7)(fl:df)(H':Hp)(s':d4):Prop where
 os:s'.os=s.os
 bare:Sn s'.gens
 un:Un (Jr stack) [] H H' s.heap s'.heap
 IB:JI P w H' s'.heap
 new:s.heap.get? e=b8
 he:H' e=b8
 exc:∃a0,H9 s'.heap e C a0 T fl
 hT:∀a,T=a5 a->s.heap.get? a=b8/\H' a=b8
abbrev Nk(P:u7)(w:DD):NM:=λouter H s E v s'=>∃e C T H',v=.ref e/\bT P w outer H s e C (a5 T) .none H' s'/\E (.ref C) b8 H'
def bS.there(x:bS P w H h a o):∃u,h.get? a=a5 u:=by
 cases o with
 |lst xs=>obtain⟨_,_,_,_,e⟩:=x;show⟨_,e⟩
 |tup xs=>obtain⟨_,_,_,_,e,_⟩:=x;show⟨_,e⟩
 |set S n=>obtain⟨o,_,_,_,e,_⟩:=x;show⟨_,e⟩
 |ins C c b=>obtain⟨_,_,_,e,_⟩:=x;show⟨_,e⟩
 |own y=>show x
 |xd b=>obtain⟨_,⟨_,_,_,e,_⟩,_⟩:=x;show⟨_,e⟩
 |Qt lo d=>obtain⟨_,_,_,e⟩:=x;show⟨_,e⟩
 |Ks g u=>show⟨_,x.1⟩
 |M6 ps=>show⟨_,x⟩
 |met f y=>show⟨_,x⟩
 |ext φ=>show x.2.1
 |_=>obtain⟨_,_,_,_,o,_,_,e,_⟩:=x;show⟨_,e⟩
section
variable{P:u7}{w:DD}{stack outer:List Env}{H H':Hp}{s s':d4}{e C L:d7}{T:Option d7}{fl:df}{base:Jl}{env:Env}{M:Model}{A:M8}{E:df->d4->Prop}{Q:Unit->d4->Prop}
theorem tV(u:Un (Jr stack) [] H H' s.heap s'.heap)(a:∀b∈Jr stack,H b=b8):∀l:List Env,(∀b∈Jr l,b∈Jr stack)->s.heap.FunFrames base l->s'.heap.FunFrames base l
 |[],_,_=>trivial
 |env::l,hs,⟨hk,⟨L,o,c,d,ho,f⟩,g⟩=>by
  have h:Jr (env::l)=L::Jr l:=by unfold Jr;rw[C0,c]
  rw[h]at hs;have⟨j,q⟩:=u.any ho (a L (hs L mu)) λz=>nomatch z
  show⟨hk,⟨L,_,c,d,q,f⟩,tV u a l (λb i=>hs b (kr _ i)) g⟩
def bT.next(F:bT P w stack H s e C T fl H' s')(l:s.heap.FunFrames base stack)(m:∀b∈Jr stack,H b=b8)(I:B=hideAll s'.heap (e::(T.toList++Jr stack))):
  B.StaysIn s'.heap/\s'.heap.FunFrames B stack/\B.get? e=b8/\(∀a,T=a5 a->B.get? a=b8) /\
   ∀h' i,B.StaysIn h'->h'.FunFrames B stack->h'.TracedAtW B e (.ref C) a0 i->s'.heap.UpToSlots h'->∃c,bT P w stack H s e C (a5 c) i H' {s' with heap:=h' }:=by
 have p:=tV F.un m _ (λ_ z=>z) l;subst I;show⟨λb o q=>of_hideAll _ q,funFrames_hide p λJ N a O=>kr _ (lg _ (Pe.mpr ⟨J,N,O⟩)),hideAll_none _ mu,λa z=>hideAll_none _ (kr _ (JO _ (by simp[z]))),λh' i k1 k2 ⟨Y,Jf,c,Xj,Km,b1,⟨b2,b0⟩,b3,b4,b5,r,t,v,b9⟩ k4=>?_⟩;have Xk:∀a,a∈e::(T.toList++Jr stack)->H' a=b8:=λa ha=>by
  rcases d3.mp ha with rfl|ha
  .show F.he
  rcases hY.mp ha with ha|ha
  .show(F.hT a (by simpa using ha)).2
  .obtain⟨_,o,ho,_⟩:=l.mem ha;show F.un.free a o ho (m a ha) λz=>nomatch z
 have keep:∀b o,b∉e::(T.toList++Jr stack)->s'.heap.get? b=a5 o->h'.get? b=a5 o:=λb o hb q=>k1 b o (hideAll_get _ q hb);have slot:∀b o,b∈Jr stack->s'.heap.get? b=a5 o->∃x,h'.get? b=a5 {o with slots:=x}:=λb o hb q=>by
  obtain⟨_,j,d,k⟩:=p.mem hb;rw[q]at d;cases d;show k4 b o q k
 have y:∀b o,s.heap.get? b=a5 o->b∉Jr stack->b∉e::(T.toList++Jr stack):=λb o q hb z=>by
  rcases d3.mp z with z|z
  .rw[z,F.new]at q;cases q
  rcases hY.mp z with z|z
  .rw[(F.hT b (by simpa using z)).1]at q;cases q
  .show hb z
 have tn:s.heap.get? c=b8/\H' c=b8:=by
  by_cases z:c∈e::(T.toList++Jr stack)
  .rcases d3.mp z with z|z
   .show absurd z r
   rcases hY.mp z with z|z
   .show F.hT c (by simpa using z)
   .obtain⟨_,j,d,k⟩:=k2.mem z;rw[t]at d;cases d;show absurd v (k _)
  .have q:s'.heap.get? c=b8:=by
    cases q:s'.heap.get? c with
    |none=>rfl
    |some o=>have:=hideAll_get _ q z;rw[b5]at this;cases this
   show⟨?_,?_⟩
   .cases f:s.heap.get? c with
    |none=>rfl
    |some o=>have⟨j,D⟩:=F.un.there _ o f λz=>nomatch z;rw[q]at D;cases D
   .cases f:H' c with
    |none=>rfl
    |some u =>
     have⟨o,z⟩:=(F.IB c u f).there;rw[q]at z;cases z
 show⟨c,F.os,F.bare,⟨λb o q n hb g=>keep b o (y b o q hb) (F.un.keep b o q n hb g),λb o q n hb g=>?_,F.un.free,λb o q g=>?_,F.un.fW,F.un.JF,F.un.JL⟩,λa u q=>(F.IB a u q).fP (λb o hb d=>?_) (λ_ z=>z) λ_ _ z=>z,F.new,F.he,⟨_,Y,Jf,b1,b2,b3,b0,r,b4,Xj,Km,t,v,b9⟩,λa z=>by cases z;show tn⟩
 .have⟨x,h⟩:=F.un.slot b o q n hb g;have⟨G,f⟩:=slot b _ hb h;show⟨G,f⟩
 .have⟨j,h⟩:=F.un.there b o q g;by_cases hb:b∈Jr stack
  .have⟨G,f⟩:=slot b _ hb h;show⟨_,f⟩
  .show⟨_,keep b _ (y b o q hb) h⟩
 .show keep b o (λz=>?_) d;have:=Xk b z;rcases hb with rfl|hb
  .rw[q]at this;cases this
  .rw[hb]at this;cases this
def bT.leave(F:bT P w (env::outer) H s e C T .none H' s')(c:A.frames=a5 (env::outer))(d:env.frame=a5 L)(q:s.heap.FunFrames base (env::outer))(r:∀b∈Jr (env::outer),H b=b8)
  (h:∀f g,bT P w (env::outer) H s e C (a5 f) .none H' g->Q () g):dV M A (leaving env (.ref e)) Q E s':=by
 have⟨a0,t,vs,i,j,k,l,m⟩:=F.exc;obtain⟨B,u⟩:∃B,B=hideAll s'.heap (e::(T.toList++Jr (env::outer))):=⟨_,rfl⟩
 have⟨n,o,p,v,x⟩:=F.next (a0:=a0) q r u;have a:∀h',Heap.LeftW B (env::outer) e (.ref C) a0 s'.heap h'->Q () {s' with heap:=h' }:=λh' y=>by
  have⟨k1,k2,k3,D⟩:=y;have⟨f,z⟩:=x h' .none k1 k2 k3 D;show h _ _ z
 cases T with
 |none=>show wpAny_leaving_firstW c o d i n p k m l λh' z=>a h' (j▸z)
 |some T =>
  have⟨G,I,J,ts,N,O,Y⟩:=m;show wpAny_leaving_nextW c o d ⟨t,vs,T,J,ts,i,⟨j,l⟩,k,I,v T rfl,G,N,O,Y⟩ n p a
def bT.note{T:d7}(F:bT P w (env::outer) H s e C (a5 T) .none H' s')(d:A.frames=a5 (env::outer))(f:env.frame=a5 L)(g:s.heap.FunFrames base (env::outer))(i:∀b∈Jr (env::outer),H b=b8)
  (h:∀a c,bT P w (env::outer) H s e C (a5 a) (u6 L) H' c->Q () c):dV M A (noteFrame (.ref e) env) Q E s':=by
 have⟨a0,j,vs,k,l,m,n,o,p,q,ts,r,t,u⟩:=F.exc;have⟨v,x,y,B,D⟩:=F.next (a0:=a0) g i rfl;show wpAny_noteFrame_onW d x f ⟨j,vs,T,q,ts,k,⟨l,n⟩,m,p,B T rfl,o,r,t,u⟩ v y λh' G=>?_;have⟨k1,k2,k3,I⟩:=G;have⟨a,z⟩:=D h' _ k1 k2 k3 I;show h _ _ z
def bT.land{T:d7}(F:bT P w stack H s e C (a5 T) fl H' s')(d:s.heap.FunFrames base stack)(f:∀b∈Jr stack,H b=b8)
  (h:∀a c,bT P w stack H s e C (a5 a) .none H' c->Q () c):dV M A (setFlight (.ref e) b8) Q E s':=by
 have⟨a0,g,vs,i,j,k,l,m,p,r,ts,t,u,v⟩:=F.exc;have⟨x,y,I,B,D⟩:=F.next (a0:=a0) d f rfl;show wpAny_setFlight_noneW x y ⟨g,vs,T,r,ts,i,⟨j,l⟩,k,p,B T rfl,m,t,u,v⟩ λh' k1 k2 k3 G=>?_;have⟨a,z⟩:=D h' _ k1 k2 k3 λb o q n=>⟨o.slots,G b o q n⟩
 show h _ _ z
end
section
def bT.down(I:Inv X pins σ H s)(k:X.ex=[])(hs:X.stack=X.env::X.outer)(l:X.env.frame=a5 X.env.locals)(F:bT X.prog X.w X.stack H s e C T m H' s'):bT X.prog X.w X.outer X.H₀ X.s₀ e C T m H' s':=by
 have nx:∀b:d7,b∉X.ex:=λb z=>by rw[k]at z;cases z
 have j:Jr X.stack=X.env.locals::Jr X.outer:=by rw[hs];unfold Jr;rw[C0,l]
 have c:∀b,s.heap.get? b=b8->X.s₀.heap.get? b=b8:=λb q=>by
  cases z:X.s₀.heap.get? b with
  |none=>rfl
  |some o=>have⟨g,z⟩:=I.base.there b o z (nx b);rw[q]at z;cases z
 have hl:∀b o,X.s₀.heap.get? b=a5 o->b≠X.env.locals:=λb o q=>hH (i2 (d6 q) I.ok.above);have h:∀b:d7,b∉([]:List d7):=λb z=>nomatch z
 show⟨F.os.trans I.os,F.bare,⟨λb o q n f _=>?_,λb o q n f _=>?_,λb o q n _=>?_,λb o q _=>?_,λb xs q=>F.un.fW b xs (I.base.fW b xs q),λb o u q=>F.un.JF b o u (I.base.JF b o u q),λb ps q=>?_⟩,F.IB,c _ F.new,F.he,F.exc,λa z=>⟨c _ (F.hT a z).1,(F.hT a z).2⟩⟩
 .show F.un.keep b o (I.base.keep b o q n f (nx b)) (I.base.free b o q n (nx b)) (λz=>by rw[j]at z;show(d3.mp z).elim (hl b o q) f) (h b)
 .have⟨r,d⟩:=I.base.slot b o q n f (nx b);have⟨p,i⟩:=F.un.slot b _ d (I.base.free b o q n (nx b)) (by rw[j];show kr _ f) (h b);show⟨p,i⟩
 .have⟨g,d⟩:=I.base.there b o q (nx b);show F.un.free b g d (I.base.free b o q n (nx b)) (h b)
 .have⟨g,d⟩:=I.base.there b o q (nx b);show F.un.there b g d (h b)
 .have⟨m1,d⟩:=I.base.JL b ps q;have⟨m2,i⟩:=F.un.JL b _ d;show⟨m1++m2,by rw[i,Zl]⟩
def bT.made(I:Inv X pins σ H s)(b:Heap.MadeExcOf s.heap h' e (.ref C) vs):bT X.prog X.w X.stack H s e C b8 .none H {s with heap:=h' }:=by
 obtain⟨t,c,_⟩:=b.there;show⟨rfl,I.bare,Un.kept b.keeps,I.IB.kept b.keeps,b.new,?_,⟨_,_,_,c,rfl,rfl,rfl,rfl⟩,λa z=>nomatch z⟩;cases z:H e with
 |none=>rfl
 |some u=>have⟨o,q⟩:=(I.IB e u z).there;rw[b.new]at q;cases q
abbrev OT:List df:=[.type "ValueError",.type "Exception",.type "BaseException",.type "object"]
def DM{K:Frag}(b:K.In h)(q:excIn K C OT a=bD):∃c N nm d bs hdct sn sub ab col dd k0 k1 k2 k3 k5 f,h.get? C=a5 (excClassObj nm d C N bs c hdct sn sub ab col dd k0 k1 k2 k3 k5 a)/\h.Ns N f/\f "__init__"=b8/\OwnTail h OT c:=by
 unfold excIn at q;split at q
 .rename_i dd k m ho;split at q
  .rename_i s c k0 k1 k2 k3 n k5 g hs;simp only[cb,beq_iff_eq,nH]at q;obtain⟨⟨⟨⟨⟨rfl,rfl⟩,i⟩,o⟩,e⟩,j⟩:=q;have⟨nm,bs,mro,ns,d,p,sn,sub,ab,col,r⟩:=k
   dsimp only at g i e j
   subst g i;have⟨l⟩:=m;obtain rfl:l=_:=hs;show⟨c,ns,nm,d,bs,p,sn,sub,ab,col,dd,k0,k1,k2,k3,k5,_,b _ _ ho,.of_isNs (isNs_of_in b e),nsMap_none_of_in b e j,tail_of_in b o⟩
  .cases q
 .cases q
def xJ(g:X.calm=bD)(i:Gl X x)(d:X.mg x=a5 (.ref C))(j:(x==("__debug__":Str))=cc)(k:excIn X.K C OT "ValueError.__new__"=bD)(l:PE X a m)
  (f:gs [a] X.env=[(cc,vl a X.env)]) :
  PS X (.Raise (a5 (.Call (.Name x p) [a] [] z)) b8 pos) (λD σ H=>m σ H λv c=>∀pins s e s',Inv X pins σ c s->bT X.prog X.w X.stack c s e C b8 .none c s'->X.xe (.ref e) s'):=by
 intro pins s σ H D I h;have⟨A,N,nm,n,bs,hdct,sn,sub,ab,col,dd,k0,k1,k2,k3,k5,B,o,r,t,T⟩:=DM I.mod.NC k;show wpAny_Raise_call_subT (nm:=nm) (q:=n) (N:=N) (bs:=bs) (hdct:=hdct) (sn:=sn) (sub:=sub) (ab:=ab) (col:=col) (dd:=dd) (k0:=k0) (k1:=k1) (k2:=k2) (k3:=k3) (k5:=k5) ZI (T.hasType ZI.hasBase) (I.ok.hd g) (by rw[f];rfl) t (fk I i d ⟨rfl,?_⟩ j);rw[f];show Lz (K5 (IG (l pins s σ H _ I h) λu s1 ⟨v,c,b,G,y⟩=>NH ⟨rfl,?_,b.bk _ _ o,r.keeps b.bk,T.keeps b.bk,λh' e d=>y pins s1 e _ b (.made b d)⟩));show(by decide:1<=cK)
def FY:Passes (Nk X.prog X.w) X E0:=λ_ _ _ _ _ _ _ ⟨_,_,_,_,_,_,h⟩=>h.elim
def j_(F:iw X.prog X.w X.K X.mg X.base CX k f c ps sp)(d:fq k X.A)(g:Binds X.K c ps [])(I:Inv X pins σ H s)(r:Vals vs us)(h:sp vs H Q E)
  (i:∀e s',CX X.stack H s E e s'->EE e s'):dV (eh X.prog X.w) X.A (NQ (.ref f) us) (EP X pins σ Q) EE s:=by
 have hl:us.length=ps.length:=by rw[<-r.length];show F.len _ _ _ _ h
 have b:=g s us I.LU (by rw[rr];show hl);rw[rr]at b;show Ì (RO (F.run X.A X.stack s H ⟨us,[]⟩ us vs Q E d I.FL b r h) λr s' a=>?_);cases r with
 |error e=>show i e s' a
 |ok j =>
  cases j with
  |ret u=>show I.after a
  |_=>show My a
end
@[reducible]def Cx.Mk(X:Cx)(e:d7)(a:Obj)(E:df->d4->Prop):Cx:={X with A:=X.A.mark (a5 (.ref e)),calm:=cc,pn:=(e,a)::X.pn,xe:=E}
section
def Inv.Mk(I:Inv X pins σ H s)(b:s.heap.get? e=a5 a)(c:H e=b8)(d:e≠X.env.locals)(f:e∉X.fs)(g:∀v,a.data≠.cell v):Inv (X.Mk e a E) pins σ H s :=
 ⟨⟨I.ok.mod,I.ok.kind,I.ok.glob,I.ok.blt,I.ok.above,I.ok.inj,I.ok.has,I.ok.OB,λz=>(nomatch z),I.ok.frames,I.ok.O5,I.ok.Ro,I.ok.bs,I.ok.MM,I.ok.LD,I.ok.L6,I.ok.jS,I.ok.ND⟩,I.os,I.bare,I.base,I.loc,I.cell,I.free,I.Ja,
  λp h=>(d3.mp (show p∈(e,a)::(X.pn++pins) from h)).elim (λz=>by subst z;show⟨b,c,d,f,g⟩) λz=>I.pin p z,I.IB,I.len⟩
def Inv.H_(a:X.Ok)(I:Inv (X.Mk e c E) pins σ H s):Inv X pins σ H s :=
 ⟨a,I.os,I.bare,I.base,I.loc,I.cell,I.free,I.Ja,λp b=>I.pin p (kr _ b),I.IB,I.len⟩
def Inv.gone(I:Inv X pins σ H s)(C:X.N.Nodup)(t:X.N[j]?=a5 n)(hl:X.env.scope.names.lookup n=a5 .local)
  (h:∀s',Inv X pins (σ.set j b8) H s'->Q () s'):dV M A (do bindName X.env n .none;unbindBehindTheSuite X.env n pos) Q E s:=by
 have⟨m,D,G⟩:=id I.loc;have J:(X.env.scope.kind==.class||(X.env.scope.kind==.module&&X.env.locals != X.env.globals))=cc:=by rw[I.ok.kind];rfl
 show wpAny_nameGoes_keeps hl D J λh' v L hs=>h _ ?_;have w:=I.L7;have O:j < σ.length:=by rw[I.len];show(dt.mp t).1
 have ne:∀b o,X.s₀.heap.get? b=a5 o->b≠X.env.locals:=λb o q=>hH (i2 (d6 q) I.ok.above);show⟨I.ok,I.os,I.bare,⟨λb o e n k f=>(hs.2 b (ne b o e)).trans (I.base.keep b o e n k f),λb o e n k f=>?_,I.base.free,λb o e f=>?_,I.base.fW,I.base.JF,I.base.JL⟩,⟨_,L,λi y u x g T=>?_⟩,λy c e=>?_,I.free,I.Ja,λp Y=>?_,λb ob e=>(I.IB b ob e).fP (λc w' hc q=>(hs.2 c ?_).trans q) (λ_ q=>q) λ_ _ q=>q,by simpa using I.len⟩
 .have⟨sl,q⟩:=I.base.slot b o e n k f;show⟨sl,(hs.2 b (ne b o e)).trans q⟩
 .have⟨o',q⟩:=I.base.there b o e f;show⟨o',(hs.2 b (ne b o e)).trans q⟩
 .have B:i≠j:=λz=>by subst z;rw[d5 O]at g;cases g
  rw[hQ (ri B)]at g;have⟨u',r,l⟩:=G i y u x g T;show⟨u',r,l.imp (λ⟨a,b⟩=>⟨a,?_⟩) λ⟨a,c,b,d⟩=>⟨a,c,b,d.sameBut hs (w y c b)⟩⟩;change(if y=n then v else m y)=a5 u';rw[Ğ λ(z:y=n)=>B (ij C x (by rw[z];show t))];show b
 .have⟨u,z⟩:=I.cell y c e;show⟨u,z.sameBut hs (w y c e)⟩
 .have⟨a,b,c,d⟩:=I.pin p Y;show⟨(hs.2 p.1 c).trans a,b,c,d⟩
 .rintro rfl;rcases hc with hc|hc
  .rw[<-hc,I.free]at e;cases e
  .rw[I.free]at hc;cases hc
end
section
variable{prog:u7}{w:DD}{A:M8}{E:df->d4->Prop}{h:Jl}{g:Array Yz}{d:Drawn}{t:Nat}{os:OsState}{a C:d7}{o:Obj}{K:Frag}
def qb(e:K.In h)(hs:Ē K (.ref C) (.type "object")=a5 bD)(b:h.get? a=a5 o)(c:o.cls=.ref C)(j:R (.ok (.ret (.ref C))) ⟨h,g,d,t,os⟩):
  P' (eh prog w) A (.call (.builtin "getset_descriptor.__get__") ⟨[.builtin "object.__class__",.ref a,.ref C],[]⟩) R ⟨h,g,d,t,os⟩:=by
 have f:(⟨h,g,d,t,os⟩:d4).TypeIs (.builtin "object.__class__") "getset_descriptor":=Tv;have i:ä (eh prog w) h (Of (.ref C) (.type (".".intercalate ("object.__class__".cutAt '.').dropLast))) bD:=by rw[F.owner_object_class];show looks_subIn e hs
 show UO YA.plain F.entry_gs_get (YA.check _ _ _ _ _ _ _ _ f (F.args_gs_get _ _ _) ?_)
 repeat (any_goals (first|assumption|(with_reducible show P9 b ?_;rw[c])|with_reducible show i.at ?_|wp_step))
 show⟨Uw _ (by decide +kernel),KQ F.entry_object_class ?_⟩
 repeat (any_goals (first|assumption|(with_reducible show P9 b ?_;rw[c])|wp_step))
def mq(b:K.In h)(hs:Ē K (.ref C) (.type "object")=a5 bD)(f:ē K (.ref C) "__class__"=a5 (a5 (.builtin "object.__class__")))(c:h.get? a=a5 o)(e:o.cls=.ref C)(j:Q (.done (.ret (.ref C))) ⟨h,g,d,t,os⟩):
  dV (eh prog w) A (NR.«object.__getattribute__» ⟨[.ref a,.str "__class__" k],[]⟩) Q E ⟨h,g,d,t,os⟩:=by
 have l:(⟨h,g,d,t,os⟩:d4).TypeIs (.builtin "object.__class__") "getset_descriptor":=Tv;have i:ä (eh prog w) h (Qq (.ref C) "__class__") (a5 (.builtin "object.__class__")):=ZD b f;have m:=Tv;have n:=YA.lookup;have p:=F.slot_gs_set.lookup
 repeat (any_goals (first|assumption|(with_reducible show P9 c ?_;rw[e])|with_reducible show i.at ?_|wp_step))
 show qb b hs c e ?_
 repeat (any_goals (first|assumption|wp_step))
def rK(b:K.In h)(hs:Ē K (.ref C) (.type "BaseException")=a5 bD)(c:h.get? a=a5 o)(e:o.cls=.ref C)(f:Q () ⟨h,g,d,t,os⟩):dV M A (Xd "BaseException.__getattribute__" ⟨[.ref a,i],[]⟩) Q E ⟨h,g,d,t,os⟩:=by
 have hk:builtinKind "BaseException.__getattribute__"=a5 .slot:=by decide +kernel
 have j:splitId "BaseException.__getattribute__"=a5 ("BaseException","__getattribute__"):=by decide +kernel
 have k:ä M h (Of (.ref C) (.type "BaseException")) bD:=looks_subIn b hs;have l:=F.args_bexc_ga (.ref a) i;simp only[Xd,hk,j];show b6 ?_
 .unfold isInstance
  repeat (first|(with_reducible show P9 c ?_;rw[e])|with_reducible show k.at ?_|wp_step)
  show f
abbrev fX(K:Frag)(C:d7):Bool:=Ē K (.ref C) (.type "object")==a5 bD&&Ē K (.ref C) (.type "BaseException")==a5 bD&&ē K (.ref C) "__class__"==a5 (a5 (.builtin "object.__class__"))&&ē K (.ref C) "__getattribute__"==a5 (a5 (.builtin "BaseException.__getattribute__"))&&ē K (.ref C) "__getattr__"==a5 b8&&(clsIn K C).isSome
def rL(b:K.In h)(f:fX K C=bD)(c:h.get? a=a5 o)(e:o.cls=.ref C)(k:Q (.ref C) ⟨h,g,d,t,os⟩):dV (eh prog w) A (getAttrBy (.ref a) (.str "__class__" l) cc) Q E ⟨h,g,d,t,os⟩:=by
 simp only[fX,cb,beq_iff_eq]at f;obtain⟨⟨⟨⟨⟨o1,o2⟩,o3⟩,o4⟩,o5⟩,_⟩:=f;have m:=Å.ga.bind (.ref a);have n:(cc&&onTheHeap (RQ "BaseException.__getattribute__"))=cc:=rfl;have i:(RQ "BaseException.__getattribute__"==RQ "object.__getattribute__")=cc:=by decide +kernel
 have p:(onTheHeap (ko C)&&RQ "BaseException.__getattribute__"==RQ "object.__getattribute__")=cc:=by rw[i];rfl
 have j:ä (eh prog w) h (Qq (.ref C) "__getattribute__") (a5 (.builtin "BaseException.__getattribute__")):=ZD b o4;have L2:ä (eh prog w) h (Qq (.ref C) "__getattr__") b8:=ZD b o5
 repeat (any_goals (first|assumption|(with_reducible show P9 c ?_;rw[e])|with_reducible show j.at ?_|with_reducible show L2.at ?_|wp_step))
 show UO Å.ga.plain F.entry_bexc_ga (rK b o2 c e (mq b o1 o3 c e ?_))
 repeat (any_goals (first|assumption|wp_step))
def oE(b:K.In h)(c:fX K C=bD)(e:h.get? a=a5 o)(f:o.cls=.ref C)(i:Q (a5 (.ref C)) ⟨h,g,d,t+1,os⟩):dV (eh prog w) A (getAttr? (.ref a) "__class__") Q E ⟨h,g,d,t,os⟩:=by
 unfold getAttr? getAttrBy?
 repeat (any_goals (first|assumption|with_reducible apply rL b c e f|wp_step))
end
def xK{K:Frag}(b:fX K C=bD):KitX K (.ref a) (.ref C) (λh=>∃o,h.get? a=a5 o/\o.cls=.ref C) where
 ty:=λM h _ j=>by
  have⟨o,f,i⟩:=j;show(Ĕ f).andThen ?_;rw[i];show .now
 it:=λM h c _ A Q E s k q=>by
  simp only[fX,cb]at b;have z:=b.2;unfold clsIn at z;split at z
  .rename_i ho;unfold isType loadHead;show b6 (wpAny_loadPart (k _ _ (c _ _ ho)) (c2 q))
  .cases z
 ne:=λh l dd m n p c e=>by
  simp only[fX,cb]at b;have z:=b.2;unfold clsIn at z;split at z
  .rename_i ho;rw[ģ];intro q;cases q;have:=c _ _ ho;rw[e]at this;cases this
  .cases z
 ca:=λ{_ _ _ _ _ s} c ⟨o,f,i⟩ q=>by
  have⟨h,g,d,t,os⟩:=s;show oE c b f i q
def Inv.FZ(I:Inv X pins σ H s)(d:s.heap.get? e=a5 f)(h:H e=b8)(i:X.s₀.heap.get? e=b8)(j:e≠X.env.locals)(k:∀x c,X.env.cells.lookup x=a5 c->c≠e)(l:∀p∈X.pn++pins,p.1≠e):
  Inv X pins σ (upd H e (.Ks f (.ext λ_=>True))) s:=by
 have ne:∀b o,H b=a5 o->b≠e:=λb o q=>bz q h;show⟨I.ok,I.os,I.bare,⟨I.base.keep,I.base.slot,λb o q n r=>?_,I.base.there,λb xs q=>?_,λb o u q=>?_,λb ps q=>?_⟩,I.loc,I.cell,?_,λx c q=>?_,λp g=>?_,λb u q=>?_,I.len⟩
 .rw[au (λz=>by rw[z,i]at q;cases q)];show I.base.free b o q n r
 .have:=I.base.fW b xs q;rw[au (ne b _ this)];show this
 .have:=I.base.JF b o u q;rw[au (ne b _ this)];show this
 .have⟨m,q⟩:=I.base.JL b ps q;show⟨m,by rw[au (ne b _ q)];show q⟩
 .rw[au (ri j)];show I.free
 .rw[au (k x c q)];show I.Ja x c q
 .have⟨a,b,c⟩:=I.pin p g;show⟨a,by rw[au (l p g)];show b,c⟩
 .by_cases z:b=e
  .subst z;rw[ay]at q;cases q;show⟨d,trivial,⟨f,d⟩,λ_ _ _ _=>trivial⟩
  .rw[au z]at q;show(I.IB b u q).fP (λ_ _ _ q=>q) (λc q=>by rw[au (ne c _ q)];show q) λc xs q=>by rw[au (ne c _ q)];show q
end L2
namespace TM
open PySem L2
inductive U where
 |ID|bl (b:Bool)|int (i:Int)|str (x:Str)
 |tup (xs:List U)|lst (xs:List U)
 |IA (ks:List Str) (vs:List U)
 |exc (c:Str)
mutual
noncomputable def I0:U->Bool
 |.tup xs=>cH xs
 |.lst _=>cc
 |.IA _ _=>cc
 |.exc _=>bD
 |.ID=>bD|.bl _=>bD|.int _=>bD|.str _=>bD
noncomputable def cH:List U->Bool
 |[]=>bD
 |u::us=>I0 u&&cH us
end
inductive Kd where|own|io|loc|any|bor (j:Nat)|Iw
deriving DecidableEq
abbrev Kd.root:Kd->Bool
 |.own=>bD
 |.io=>bD
 |_=>cc
@[reducible]def aw:=List (Option (Kd×U))
structure Ct where
 P:u7
 w:DD
 K:PySem.W.Frag
 H₀:Hp
 Lk:d7->Prop
 IO:d7->Prop
 xw:U->Hp->Prop
abbrev KL(K:PySem.W.Frag)(a:d7)(xs:List V):Prop :=
 ∃(o:Obj) (b:Array df) (n:Nat),K.lookup a=a5 o/\o.cls=.type "list"/\o.dict=b8/\o.data=.seq b n/\b.size<=cK/\Vals xs b.toList
abbrev P2(K:PySem.W.Frag)(S:d7->Prop)(H:Hp)(a:d7)(vs:List V):Prop:=(S a/\Rd H a (.lst vs))\/KL K a vs
def P2.sq(h:P2 K S H a vs):Jh K H a vs:=h.elim (λz=>.inl z.2) .inr
abbrev Nl(H:Hp)(R:List V->Prop)(a:d7)(ks:List Str):Prop:=∃kvs:List (Key×V),H a=a5 (.dK kvs)/\kvs.map (·.1)=ks.map mx/\R (kvs.map (·.2))
abbrev Ia(K:PySem.W.Frag)(H:Hp)(a:d7)(c:Str):Prop:=∃o C,H a=a5 (.Ks o (.ext λ_=>True))/\o.cls=.ref C/\PySem.W.nsIn K i5 c=a5 (a5 (.ref C))
section
variable(C:Ct)(S:d7->Prop)(H:Hp)
mutual
def Rep:U->V->Prop
 |.ID,v=>v=.ID
 |.bl b,v=>v=.bl b
 |.int i,v=>v=.int i
 |.str x,v=>v=.str x
 |.tup us,v=>∃a vs,v=.ref a/\Ju C.K H a vs/\aq us vs
 |.lst us,v=>∃a vs,v=.ref a/\P2 C.K S H a vs/\aq us vs
 |.IA ks us,v=>∃a,v=.ref a/\S a/\Nl H (aq us) a ks
 |.exc c,v=>∃a,v=.ref a/\Ia C.K H a c
def aq:List U->List V->Prop
 |[],vs=>vs=[]
 |u::us,vs=>∃v r,vs=v::r/\Rep u v/\aq us r
end
end
def Tp:HO->Prop
 |.tup _=>True
 |.Ks _ (.tup _)=>True
 |.Ks _ (.ext _)=>True
 |_=>False
structure Mv(S:d7->Prop)(H:Hp)(S':d7->Prop)(H':Hp):Prop where
 sub:∀a,S a->S' a
 OU:∀a o,H a=a5 o->Tp o->H' a=a5 o
 S6:∀a o,S a->H a=a5 o->H' a=a5 o
def Mv.Xm(m:Mv S H S' H')(h:Ju K H a vs):Ju K H' a vs:=by
 rcases h with(h|⟨o,h⟩)|h
 .show .inl (.inl (m.OU a _ h trivial))
 .show .inl (.inr ⟨o,m.OU a _ h trivial⟩)
 .show .inr h
def Mv.Xn(m:Mv S H S' H')(h:P2 K S H a vs):P2 K S' H' a vs:=by
 rcases h with⟨s,h|⟨o,h⟩⟩|h
 .show .inl ⟨m.sub a s,.inl (m.S6 a _ s h)⟩
 .show .inl ⟨m.sub a s,.inr ⟨o,m.S6 a _ s h⟩⟩
 .show .inr h
def Nl.mv(b:∀o,H a=a5 o->H' a=a5 o)(c:∀vs,R vs->d vs)(h:Nl H R a ks):Nl H' d a ks :=
 let ⟨kvs,e,f,g⟩:=h;⟨kvs,b _ e,f,c _ g⟩
section
mutual
theorem Rep.Nm(m:Mv S H S' H'):∀(u:U) (v:V),Rep C S H u v->Rep C S' H' u v
 |.ID,_,h=>h
 |.bl _,_,h=>h
 |.int _,_,h=>h
 |.str _,_,h=>h
 |.tup us,v,h=>by
  have⟨a,vs,e,b,d⟩:=h;show⟨a,vs,e,m.Xm b,aq.Nm m us vs d⟩
 |.lst us,v,h=>by
  have⟨a,vs,e,b,d⟩:=h;show⟨a,vs,e,m.Xn b,aq.Nm m us vs d⟩
 |.IA ks us,v,h=>by
  have⟨a,e,b,d⟩:=h;show⟨a,e,m.sub a b,d.mv (λo q=>m.S6 a o b q) λvs q=>aq.Nm m us vs q⟩
 |.exc c,v,h=>let ⟨a,e,o,f,b,d⟩:=h;⟨a,e,o,f,m.OU a _ b trivial,d⟩
theorem aq.Nm(m:Mv S H S' H'):∀(us:List U) (vs:List V),aq C S H us vs->aq C S' H' us vs
 |[],_,h=>h
 |u::us,vs,h=>by
  have⟨v,r,e,a,b⟩:=h;show⟨v,r,e,Rep.Nm m u v a,aq.Nm m us r b⟩
end
mutual
theorem Rep.vC:∀(u:U) (v:V),I0 u=bD->Rep C S H u v->Rep C S' H u v
 |.ID,_,_,h=>h
 |.bl _,_,_,h=>h
 |.int _,_,_,h=>h
 |.str _,_,_,h=>h
 |.tup us,v,i,h=>by
  have⟨a,vs,e,b,c⟩:=h;show⟨a,vs,e,b,aq.vC us vs (by simpa[TM.I0] using i) c⟩
 |.lst us,v,i,h=>by simp[TM.I0]at i
 |.IA ks us,v,i,h=>by simp[TM.I0]at i
 |.exc _,_,_,h=>h
theorem aq.vC:∀(us:List U) (vs:List V),cH us=bD->aq C S H us vs->aq C S' H us vs
 |[],_,_,h=>h
 |u::us,vs,i,h=>by
  have⟨v,r,e,b,c⟩:=h;have a:TM.I0 u=bD/\cH us=bD:=by simpa[cH] using i
  show⟨v,r,e,Rep.vC u v a.1 b,aq.vC us r a.2 c⟩
end
def Rep.mv(m:Mv S H S' H')(h:Rep C S H u v):Rep C S' H' u v:=Rep.Nm m u v h
def aq.mv(m:Mv S H S' H')(h:aq C S H us vs):aq C S' H' us vs:=aq.Nm m us vs h
def Rep.I0(i:TM.I0 u=bD)(h:Rep C S H u v):Rep C S' H u v:=Rep.vC u v i h
def aq.I0(i:cH us=bD)(h:aq C S H us vs):aq C S' H us vs:=aq.vC us vs i h
def Mv.up(sub:∀a,S a->S' a):Mv S H S' H:=⟨sub,λ_ _ h _=>h,λ_ _ _ h=>h⟩
theorem aq.len:∀{us:List U}{vs:List V},aq C S H us vs->us.length=vs.length
 |[],_,h=>by cases h;rfl
 |u::us,vs,h=>by
  obtain⟨v,r,rfl,_,a⟩:=h;rw[i0,i0,aq.len a]
theorem aq.get:∀{us:List U}{vs:List V}{i:Nat}{u:U},aq C S H us vs->us[i]?=a5 u->∃v,vs[i]?=a5 v/\Rep C S H u v
 |[],_,_,_,_,e=>by simp at e
 |u::us,vs,0,w,h,e=>by
  obtain⟨v,r,rfl,a,_⟩:=h;simp at e;subst e;show⟨v,rfl,a⟩
 |u::us,vs,i+1,w,h,e=>by
  obtain⟨v,r,rfl,_,b⟩:=h;have⟨c,d,h'⟩:=aq.get (i:=i) (u:=w) b (by simpa using e);show⟨c,by simpa using d,h'⟩
theorem aq.append:∀{us ws:List U}{vs a:List V},aq C S H us vs->aq C S H ws a->aq C S H (us++ws) (vs++a)
 |[],_,_,_,h,h'=>by cases h;show h'
 |u::us,ws,vs,a,h,h'=>by
  have⟨v,r,rfl,b,c⟩:=h;show⟨v,r++a,rfl,b,c.append h'⟩
theorem aq.take:∀{us:List U}{vs:List V} (n:Nat),aq C S H us vs->aq C S H (us.take n) (vs.take n)
 |_,_,0,_=>by simp[aq]
 |[],_,n+1,h=>by cases h;simp[aq]
 |u::us,vs,n+1,h=>by
  have⟨v,r,rfl,a,b⟩:=h;show⟨v,r.take n,rfl,a,b.take n⟩
theorem aq.drop:∀{us:List U}{vs:List V} (n:Nat),aq C S H us vs->aq C S H (us.drop n) (vs.drop n)
 |_,_,0,h=>h
 |[],_,n+1,h=>by cases h;simp[aq]
 |u::us,vs,n+1,h=>by
  have⟨v,r,rfl,b,a⟩:=h;show a.drop n
theorem aq.set:∀{us:List U}{vs:List V} (n:Nat) {u:U}{v:V},aq C S H us vs->Rep C S H u v->aq C S H (us.set n u) (vs.set n v)
 |[],_,n,_,_,h,_=>by cases h;simp[aq]
 |u::us,vs,0,_,_,h,h'=>by
  have⟨v,r,rfl,b,a⟩:=h;show⟨_,r,rfl,h',a⟩
 |u::us,vs,n+1,_,_,h,h'=>by
  have⟨v,r,rfl,b,a⟩:=h;show⟨v,_,rfl,b,a.set n h'⟩
def aq.snoc(h:aq C S H us vs)(h':Rep C S H u v):aq C S H (us++[u]) (vs++[v]):=h.append ⟨v,[],rfl,h',rfl⟩
theorem aq.strs:∀{xs:List Str}{vs:List V},aq C S H (xs.map .str) vs↔vs=xs.map V.str
 |[],vs=>by simp[aq]
 |x::xs,vs=>by
  constructor
  .rintro⟨v,r,rfl,a,b⟩;rw[aq.strs.mp b];have:v=.str x:=a;rw[this];rfl
  .rintro rfl;show⟨_,_,rfl,rfl,aq.strs.mpr rfl⟩
end
structure Ct.Eqv(C C':Ct):Prop where
 P:C.P=C'.P
 w:C.w=C'.w
 K:C.K=C'.K
section
mutual
theorem Rep.Nn(q:C.Eqv f):∀(u:U) (v:V),Rep C S H u v->Rep f S H u v
 |.ID,_,h=>h
 |.bl _,_,h=>h
 |.int _,_,h=>h
 |.str _,_,h=>h
 |.tup us,v,h=>by
  have⟨a,vs,e,b,d⟩:=h;show⟨a,vs,e,q.K▸b,aq.Nn q us vs d⟩
 |.lst us,v,h=>by
  have⟨a,vs,e,b,d⟩:=h;show⟨a,vs,e,q.K▸b,aq.Nn q us vs d⟩
 |.IA ks us,v,h=>by
  have⟨a,e,b,d⟩:=h;show⟨a,e,b,d.mv (λ_ q=>q) λvs z=>aq.Nn q us vs z⟩
 |.exc c,v,h=>by
  have⟨a,e,h⟩:=h;show⟨a,e,q.K▸h⟩
theorem aq.Nn(q:C.Eqv a):∀(us:List U) (vs:List V),aq C S H us vs->aq a S H us vs
 |[],_,h=>h
 |u::us,vs,h=>by
  have⟨v,r,e,b,c⟩:=h;show⟨v,r,e,Rep.Nn q u v b,aq.Nn q us r c⟩
end
def Rep.cg(q:C.Eqv a)(h:Rep C S H u v):Rep a S H u v:=Rep.Nn q u v h
def aq.cg(q:C.Eqv a)(h:aq C S H us vs):aq a S H us vs:=aq.Nn q us vs h
end
def c9(C:Ct)(S:d7->Prop)(H:Hp)(r:d7):U->Prop
 |.lst us=>∃vs,H r=a5 (.lst vs)/\aq C S H us vs
 |.IA ks us=>Nl H (aq C S H us) r ks
 |_=>False
def c9.mv(m:Mv S H S' H')(a:∀o,H r=a5 o->H' r=a5 o)(h:c9 C S H r u):c9 C S' H' r u:=by
 cases u with
 |lst us=>have⟨vs,b,c⟩:=h;show⟨vs,a _ b,c.mv m⟩
 |IA ks us=>show Nl.mv a (λvs q=>q.mv m) h
 |_=>show h
def c9.rep(hs:∀a,S a->S' a)(b:S' r)(h:c9 C S H r u):Rep C S' H u (.ref r):=by
 cases u with
 |lst us=>have⟨vs,c,d⟩:=h;show⟨r,vs,rfl,.inl ⟨b,.inl c⟩,d.mv (.up hs)⟩
 |IA ks us=>show⟨r,rfl,b,Nl.mv (λ_ q=>q) (λvs q=>q.mv (.up hs)) h⟩
 |_=>show h.elim
def c9.cg(q:C.Eqv a)(h:c9 C S H r u):c9 a S H r u:=by
 cases u with
 |lst us=>have⟨vs,b,c⟩:=h;show⟨vs,b,c.cg q⟩
 |IA ks us=>show Nl.mv (λ_ q=>q) (λvs z=>z.cg q) h
 |_=>show h
def c9.some(h:c9 C S H r u):∃o,H r=a5 o/\¬Tp o:=by
 cases u with
 |lst us=>obtain⟨vs,a,_⟩:=h;show⟨_,a,λz=>z⟩
 |IA ks us=>obtain⟨kvs,a,_⟩:=h;show⟨_,a,λz=>z⟩
 |_=>show h.elim
structure Cf where
 S:d7->Prop
 H:Hp
 σ:St
 st:aw
 kid:Nat->List d7
abbrev Cf.R1(c:Cf)(a:d7):Prop:=∃(j:Nat) (k:Kd) (u:U),k.root=bD/\c.st[j]?=a5 (a5 (k,u))/\c.σ[j]?=a5 (a5 (.ref a))
abbrev Cf.RD(c:Cf)(j:Nat)(a:d7):Prop:=∃(u:U) (r:d7),c.st[j]?=a5 (a5 (.Iw,u))/\c.σ[j]?=a5 (a5 (.ref r))/\(a=r\/a∈c.kid j)
abbrev Cf.R(c:Cf)(a:d7):Prop:=c.R1 a\/∃j,c.RD j a
abbrev PS(C:Ct)(S:d7->Prop):d7->Prop:=λa=>C.Lk a\/S a
def fY(C:Ct)(S:d7->Prop)(H:Hp):Kd->U->V->Prop
 |.own,u,v=>∃r,v=.ref r/\¬S r/\¬C.Lk r/\C.H₀ r=b8/\c9 C S H r u
 |.io,u,v=>∃r,v=.ref r/\¬S r/\¬C.Lk r/\C.IO r/\c9 C S H r u
 |.loc,u,v=>Rep C S H u v
 |.any,u,v=>Rep C (PS C S) H u v
 |.bor _,_,_=>False
 |.Iw,_,v=>∃r,v=.ref r
def dB(C:Ct)(S:d7->Prop)(H:Hp):List U->List d7->Prop
 |[],as=>as=[]
 |u::us,as=>∃a as' b vs,as=a::as'/\u=.lst b/\H a=a5 (.lst vs)/\aq C S H b vs/\dB C S H us as'
def cJ(C:Ct)(S:d7->Prop)(H:Hp)(r:d7)(as:List d7):U->Prop
 |.IA ks us=>∃kvs:List (Key×V),H r=a5 (.dK kvs)/\kvs.map (·.1)=ks.map mx/\kvs.map (·.2)=as.map V.ref/\(r::as).Nodup/\(∀a∈r::as,¬S a/\¬C.Lk a/\C.H₀ a=b8)/\dB C S H us as
 |_=>False
structure LL(C:Ct)(c:Cf):Prop where
 kd:∀(j:Nat) (u:U) (r:d7),c.st[j]?=a5 (a5 (.Iw,u))->c.σ[j]?=a5 (a5 (.ref r))->cJ C c.S c.H r (c.kid j) u
 dj:∀(i j:Nat) (a:d7),c.RD i a->c.RD j a->i=j
 d1:∀(j:Nat) (a:d7),c.RD j a->¬c.R1 a
structure Ok(C:Ct)(c:Cf):Prop where
 same:∀a o,C.H₀ a=a5 o->¬C.IO a->c.H a=a5 o
 KO:∀a,c.S a->C.H₀ a=b8/\∃o,c.H a=a5 o
 par:∀a,C.Lk a->(∃o,C.H₀ a=a5 o)/\¬C.IO a
 io:∀a,C.IO a->(∃o,C.H₀ a=a5 o)/\∃o,c.H a=a5 o
 len:c.st.length=c.σ.length
 sl:∀(i:Nat) (k:Kd) (u:U),c.st[i]?=a5 (a5 (k,u))->∃v,c.σ[i]?=a5 (a5 v)/\fY C c.S c.H k u v
 inj:∀(i j:Nat) (k k':Kd) (u u':U) (r:d7),k.root=bD->k'.root=bD->c.st[i]?=a5 (a5 (k,u))->c.st[j]?=a5 (a5 (k',u'))->c.σ[i]?=a5 (a5 (.ref r))->c.σ[j]?=a5 (a5 (.ref r))->i=j
 dd:LL C c
structure Ns(c c':Cf):Prop where
 keep:∀a o,c.H a=a5 o->¬c.R a->c'.H a=a5 o
 there:∀a o,c.H a=a5 o->∃o',c'.H a=a5 o'
 roots:∀a,c'.R a->c.R a\/c.H a=b8
 sub:∀a,c.S a->c'.S a
 new:∀a,c'.S a->c.S a\/c.R a\/c.H a=b8
section
def Ns.refl(c:Cf):Ns c c:=⟨λ_ _ h _=>h,λ_ o h=>⟨o,h⟩,λ_ h=>.inl h,λ_ h=>h,λ_ h=>.inl h⟩
def Ns.none(n:Ns c b)(h:b.H a=.none):c.H a=.none:=by
 cases e:c.H a with
 |none=>rfl
 |some o=>have⟨d,q⟩:=n.there a o e;rw[h]at q;cases q
def Ns.trans(m:Ns c d)(n:Ns d e):Ns c e where
 keep:=λa o h b=>by
  show n.keep a o (m.keep a o h b) λz=>?_;rcases m.roots a z with z|z
  .show b z
  .rw[h]at z;cases z
 there:=λa o h=>let ⟨f,h'⟩:=m.there a o h;n.there a f h'
 roots:=λa h=>by
  rcases n.roots a h with z|z
  .show m.roots a z
  .show .inr (m.none z)
 sub:=λa h=>n.sub a (m.sub a h)
 new:=λa h=>by
  rcases n.new a h with z|z|z
  .show m.new a z
  .rcases m.roots a z with z|z
   .show .inr (.inl z)
   .show .inr (.inr z)
  .show .inr (.inr (m.none z))
def fY.rt(hk:k.root=bD)(h:fY C S H k u v):∃r,v=.ref r/\¬S r/\¬C.Lk r/\(C.H₀ r=b8\/C.IO r)/\c9 C S H r u:=by
 cases k with
 |own=>have⟨r,a,b,c,d,e⟩:=h;show⟨r,a,b,c,.inl d,e⟩
 |io=>have⟨r,a,b,c,d,e⟩:=h;show⟨r,a,b,c,.inr d,e⟩
 |_=>cases hk
theorem dB.mem:∀{us:List U}{as:List d7}{a:d7},dB C S H us as->a∈as->∃vs,H a=a5 (.lst vs)
 |[],as,a,h,ha=>by cases h;cases ha
 |u::us,as,a,h,ha=>by
  obtain⟨a',as',d,vs,rfl,_,b,_,c⟩:=h;rcases d3.mp ha with rfl|ha
  .show⟨vs,b⟩
  .show dB.mem c ha
theorem dB.mv(m:Mv S H S' H'):∀{us:List U}{as:List d7},(∀a∈as,∀o,H a=a5 o->H' a=a5 o)->dB C S H us as->dB C S' H' us as
 |[],as,_,h=>h
 |u::us,as,b,h=>by
  have⟨a,as',c,vs,rfl,e,d,f,g⟩:=h;show⟨a,as',c,vs,rfl,e,b a (by simp) _ d,f.mv m,dB.mv m (λa i=>b a (by simp[i])) g⟩
def cJ.fr(h:cJ C S H r as u):∀a∈r::as,¬S a/\¬C.Lk a/\C.H₀ a=b8:=by
 cases u<;>first|show h.elim|(obtain⟨kvs,_,_,_,_,b,_⟩:=h;show b)
def cJ.there(h:cJ C S H r as u):∀a∈r::as,∃o,H a=a5 o/\¬Tp o:=by
 cases u<;>first|show h.elim|skip
 obtain⟨kvs,b,_,_,_,_,c⟩:=h;intro a ha;rcases d3.mp ha with rfl|ha
 .show⟨_,b,λz=>z⟩
 .have⟨vs,e⟩:=c.mem ha;show⟨_,e,λz=>z⟩
def cJ.mv(m:Mv S H S' H')(c:∀a∈r::as,¬S' a/\∀o,H a=a5 o->H' a=a5 o)(h:cJ C S H r as u):cJ C S' H' r as u:=by
 cases u<;>first|show h.elim|skip
 have⟨kvs,d,e,f,g,i,j⟩:=h;show⟨kvs,(c r (by simp)).2 _ d,e,f,g,λa b=>⟨(c a b).1,(i a b).2⟩,j.mv m λa b=>(c a (by simp[b])).2⟩
def LL.of(d:LL C c)(hk:e.kid=c.kid)(p:∀(j:Nat) (u:U),e.st[j]?=a5 (a5 (.Iw,u))->c.st[j]?=a5 (a5 (.Iw,u))/\e.σ[j]?=c.σ[j]?)(s:∀a,e.R1 a->c.R1 a\/∀j,¬c.RD j a)
  (m:Mv c.S c.H e.S e.H) (t:∀j a,c.RD j a->¬e.S a/\∀o,c.H a=a5 o->e.H a=a5 o):LL C e:=by
 have b:∀j a,e.RD j a->c.RD j a:=λj a v=>by
  have⟨u,r,k,f,q⟩:=v;have⟨g,l⟩:=p j u k;rw[l]at f;rw[hk]at q;show⟨u,r,g,f,q⟩
 show⟨λj u r k f=>?_,λi j a h n=>d.dj i j a (b i a h) (b j a n),λj a h n=>?_⟩
 .have⟨g,l⟩:=p j u k;rw[l]at f;rw[hk];show cJ.mv m (λa w=>t j a ⟨u,r,g,f,d3.mp w⟩) (d.kd j u r g f)
 .rcases s a n with z|z
  .show d.d1 j a (b j a h) z
  .show z j (b j a h)
def LL.hs(d:LL C c)(m:Mv c.S c.H S' H')(b:∀j a,c.RD j a->¬S' a/\∀o,c.H a=a5 o->H' a=a5 o):LL C {c with H:=H',S:=S' } :=
 d.of rfl (λ_ _ e=>⟨e,rfl⟩) (λ_ z=>.inl z) m b
def Ok.root(f:Ok C c)(h:c.R r):¬c.S r/\¬C.Lk r/\(C.H₀ r=b8\/C.IO r)/\∃o,c.H r=a5 o/\¬Tp o:=by
 rcases h with⟨j,k,u,hk,b,d⟩|⟨j,u,g,b,d,a⟩
 .have⟨v,e,hs⟩:=f.sl j _ _ b;have⟨g,ev,a,l,m,n⟩:=hs.rt hk;rw[d]at e;cases e;cases ev;show⟨a,l,m,n.some⟩
 .have i:=f.dd.kd j u g b d;have⟨p,q,s⟩:=cJ.fr i r (d3.mpr a);show⟨p,q,.inl s,cJ.there i r (d3.mpr a)⟩
def Ok.mv(b:Ok C c)(n:Ns c d):Mv c.S c.H d.S d.H:=⟨n.sub,λa o h t=>n.keep a o h λz=>by
  obtain⟨_,_,_,f,h',e⟩:=b.root z;rw[h]at h';cases h';show e t,λa o s h=>n.keep a o h λz=>(b.root z).1 s⟩
def Ok.MX(b:Ok C c)(n:Ns c d):Mv (PS C c.S) c.H (PS C d.S) d.H:=⟨λa h=>h.imp id (n.sub a),(b.mv n).OU,λa o s h=>n.keep a o h λz=>by
  rcases s with s|s
  .show(b.root z).2.1 s
  .show(b.root z).1 s⟩
def Ok.k7(a:Ok C c)(h:c.H p=b8):C.H₀ p=b8/\¬c.S p/\¬C.Lk p/\¬C.IO p/\¬c.R p:=by
 have b:¬C.IO p:=λz=>by obtain⟨_,o,q⟩:=a.io p z;rw[h]at q;cases q
 have d:C.H₀ p=b8:=by
  cases e:C.H₀ p with
  |none=>rfl
  |some o=>have:=a.same p o e b;rw[h]at this;cases this
 show⟨d,λz=>?_,λz=>?_,b,λz=>?_⟩
 .obtain⟨_,o,q⟩:=a.KO p z;rw[h]at q;cases q
 .obtain⟨⟨o,q⟩,_⟩:=a.par p z;rw[d]at q;cases q
 .obtain⟨_,_,_,o,q,_⟩:=a.root z;rw[h]at q;cases q
def fY.mv(m:Mv S H S' H')(i:Mv (PS C S) H (PS C S') H')(g:k.root=bD->∀r,v=.ref r->¬S' r/\∀o,H r=a5 o->H' r=a5 o)(h:fY C S H k u v):fY C S' H' k u v:=by
 cases k with
 |own =>
  have⟨r,e,l,a,b,c⟩:=h;have⟨d,f⟩:=g rfl r e;show⟨r,e,d,a,b,c.mv m f⟩
 |io =>
  have⟨r,e,l,a,b,c⟩:=h;have⟨d,f⟩:=g rfl r e;show⟨r,e,d,a,b,c.mv m f⟩
 |loc=>show Rep.mv m h
 |any=>show Rep.mv i h
 |bor j=>show h.elim
 |Iw=>show h
structure Nx(c c':Cf):Prop extends Ns c c' where
instance {c a:Cf}:Coe (Nx c a) (Ns c a):=⟨Nx.toNs⟩
def Nx.refl(c:Cf):Nx c c:=⟨.refl c⟩
def Nx.trans(m:Nx c a)(n:Nx a b):Nx c b:=⟨m.toNs.trans n.toNs⟩
def Nx.none(n:Nx c b)(h:b.H a=.none):c.H a=.none:=n.toNs.none h
def Ok.lay(d:Ok C c)(h:c.H p=b8):Ok C {c with H:=upd c.H p o}/\Nx c {c with H:=upd c.H p o}:=by
 have ne:∀{a:d7} {b:HO},c.H a=a5 b->a≠p:=λe z=>by subst z;rw[h]at e;cases e
 have f:∀a b,c.H a=a5 b->(upd c.H p o) a=a5 b:=λa b e=>by rw[au (ne e)];show e
 have nx:Nx c {c with H:=upd c.H p o}:=⟨⟨λa b e _=>f a b e,λa b e=>⟨b,f a b e⟩,λa z=>.inl z,λ_ z=>z,λ_ z=>.inl z⟩⟩
 show⟨⟨λa b e z=>f a b (d.same a b e z),λa z=>⟨(d.KO a z).1,let ⟨b,q⟩:=(d.KO a z).2;⟨b,f a b q⟩⟩,d.par,λa z=>⟨(d.io a z).1,let ⟨b,q⟩:=(d.io a z).2;⟨b,f a b q⟩⟩,d.len,λi k u e=>?_,d.inj,d.dd.hs (d.mv nx.toNs) λj a z=>⟨(d.root (.inr ⟨j,z⟩)).1,λb e=>f a b e⟩⟩,nx⟩;have⟨v,m,g⟩:=d.sl i k u e;show⟨v,m,g.mv (d.mv nx.toNs) (d.MX nx.toNs) λhk r n=>?_⟩;obtain⟨t,l,s,_⟩:=g.rt hk;rw[n]at l;cases l;show⟨s,λb e=>f r b e⟩
def Ok.grow(d:Ok C c)(hs:eO c.H H')(h:∀a,S' a->c.S a\/(c.H a=b8/\∃o,H' a=a5 o))(s:∀a,c.S a->S' a):Ok C {c with H:=H',S:=S' }/\Nx c {c with H:=H',S:=S' }:=by
 have nx:Nx c {c with H:=H',S:=S' }:=⟨⟨λa b e _=>hs a b e,λa b e=>⟨b,hs a b e⟩,λa z=>.inl z,s,λa z=>(h a z).imp id λq=>.inr q.1⟩⟩
 show⟨⟨λa b e z=>hs a b (d.same a b e z),λa z=>?_,d.par,λa z=>⟨(d.io a z).1,let ⟨b,q⟩:=(d.io a z).2;⟨b,hs a b q⟩⟩,d.len,λi k u e=>?_,d.inj,d.dd.hs (d.mv nx.toNs) λj a z=>⟨λf=>?_,λb e=>hs a b e⟩⟩,nx⟩
 rotate_left 2
 .obtain⟨g,_,_,o,l,_⟩:=d.root (.inr ⟨j,z⟩);rcases h a f with f|⟨f,_⟩
  .show g f
  .rw[l]at f;cases f
 .rcases h a z with q|⟨g,m⟩
  .show⟨(d.KO a q).1,let ⟨b,q⟩:=(d.KO a q).2;⟨b,hs a b q⟩⟩
  .show⟨(d.k7 g).1,m⟩
 .have⟨v,t,n⟩:=d.sl i k u e;show⟨v,t,n.mv (d.mv nx.toNs) (d.MX nx.toNs) λhk r w=>?_⟩;have⟨x,p,g,m,y,l⟩:=n.rt hk;rw[w]at p;cases p;obtain⟨o,ho,_⟩:=l.some;show⟨λz=>?_,λb e=>hs r b e⟩;rcases h r z with z|⟨z,_⟩
  .show g z
  .rw[z]at ho;cases ho
def aQ(C:Ct)(a c:Cf):Kd->U->V->Prop
 |.own,u,v=>∃r,v=.ref r/\a.H r=b8/\¬c.S r/\¬c.R r/\c9 C c.S c.H r u
 |.loc,u,v=>Rep C c.S c.H u v
 |.any,u,v=>Rep C (PS C c.S) c.H u v
 |.bor j,u,v=>(∃k:Kd,k.root=bD/\c.st[j]?=a5 (a5 (k,u)))/\c.σ[j]?=a5 (a5 v)
 |.io,_,_=>False
 |.Iw,_,_=>False
def fZ(C:Ct)(a c:Cf):Kd->U->V->Prop
 |.own,u,v=>∃r,v=.ref r/\a.H r=b8/\¬c.S r/\¬c.R r/\c9 C c.S c.H r u
 |.loc,u,v=>Rep C c.S c.H u v
 |.any,u,v=>Rep C (PS C c.S) c.H u v
 |.bor j,u,v=>c.σ[j]?=a5 (a5 v)
 |.io,_,_=>False
 |.Iw,_,_=>False
def aQ.w(h:aQ C a c k u v):fZ C a c k u v:=by
 cases k with
 |bor j=>show h.2
 |_=>show h
def fZ.U8(a:Ok C c)(n:Ns c b)(g:∀j,k=.bor j->b.σ[j]?=c.σ[j]?)(h:fZ C i c k u v):fZ C i b k u v:=by
 cases k with
 |own =>
  have⟨r,e,l,m,d,f⟩:=h;obtain⟨o,ho,_⟩:=f.some;show⟨r,e,l,λz=>?_,λz=>?_,f.mv (a.mv n) λo q=>n.keep r o q d⟩
  .rcases n.new r z with z|z|z
   .show m z
   .show d z
   .rw[z]at ho;cases ho
  .rcases n.roots r z with z|z
   .show d z
   .rw[z]at ho;cases ho
 |loc=>show Rep.mv (a.mv n) h
 |any=>show Rep.mv (a.MX n) h
 |bor j=>change b.σ[j]?=_;rw[g j rfl];show h
 |_=>show h
def fZ.on(b:Ok C c)(n:Ns c a)(d:a.σ=c.σ)(h:fZ C e c k u v):fZ C e a k u v:=h.U8 b n λj _=>by rw[d]
def fZ.from(n:Ns a b)(h:fZ C b c k u v):fZ C a c k u v:=by
 cases k with
 |own=>have⟨r,e,d,f⟩:=h;show⟨r,e,n.none d,f⟩
 |_=>show h
def aQ.from(n:Ns a b)(h:aQ C b c k u v):aQ C a c k u v:=by
 cases k with
 |own=>have⟨r,e,d,f⟩:=h;show⟨r,e,n.none d,f⟩
 |_=>show h
def SK(C:Ct)(c:Cf):Kd->d7->Prop
 |.any=>PS C c.S
 |_=>c.S
abbrev kE:Kd->Kd
 |.any=>.any
 |_=>.loc
def Ok.rootOf(b:Ok C c){j:Nat}(h:∃k:Kd,k.root=bD/\c.st[j]?=a5 (a5 (k,u)))(e:c.σ[j]?=a5 (a5 v)):∃r,v=.ref r/\¬c.S r/\¬C.Lk r/\(C.H₀ r=b8\/C.IO r)/\c9 C c.S c.H r u:=by
 have⟨k,hk,h⟩:=h;have⟨f,a,d⟩:=b.sl j _ _ h;rw[e]at a;cases a;show d.rt hk
def aQ.list(f:Ok C c)(h:aQ C g c k (.lst us) v):∃a vs,v=.ref a/\Jh C.K c.H a vs/\aq C (SK C c k) c.H us vs:=by
 cases k with
 |own=>obtain⟨r,e,_,_,_,vs,b,d⟩:=h;show⟨r,vs,e,Jh.of b,d⟩
 |bor j=>obtain⟨r,e,_,_,_,vs,b,d⟩:=f.rootOf h.1 h.2;show⟨r,vs,e,Jh.of b,d⟩
 |io=>show h.elim
 |Iw=>show h.elim
 |_=>have⟨a,vs,e,b,d⟩:=h;show⟨a,vs,e,b.sq,d⟩
def aQ.tuple(b:Ok C c)(h:aQ C g c k (.tup us) v):∃a vs,v=.ref a/\Ju C.K c.H a vs/\aq C (SK C c k) c.H us vs:=by
 cases k with
 |own=>obtain⟨r,e,_,_,_,h⟩:=h;show h.elim
 |bor j=>obtain⟨r,e,_,_,_,h⟩:=b.rootOf h.1 h.2;show h.elim
 |io=>show h.elim
 |Iw=>show h.elim
 |_=>have⟨a,vs,e,d,f⟩:=h;show⟨a,vs,e,d,f⟩
def aQ.flat(b:Ok C c)(a:I0 u=bD)(h:aQ C d c k u v):Rep C c.S c.H u v:=by
 cases k with
 |own=>obtain⟨r,e,_,_,_,h⟩:=h;cases u<;>simp[I0]at a<;>show h.elim
 |loc=>show h
 |any=>show Rep.I0 a h
 |bor j=>obtain⟨r,e,_,_,_,h⟩:=b.rootOf h.1 h.2;cases u<;>simp[I0]at a<;>show h.elim
 |_=>show h.elim
def aQ.int(a:Ok C c)(h:aQ C b c k (.int i) v):v=.int i:=h.flat a rfl
def aQ.str(a:Ok C c)(h:aQ C b c k (.str x) v):v=.str x:=h.flat a rfl
def aQ.bl(a:Ok C c)(h:aQ C d c k (.bl b) v):v=.bl b:=h.flat a rfl
def aQ.ID(a:Ok C c)(h:aQ C b c k .ID v):v=.ID:=h.flat a rfl
def aQ.item(h:Rep C (SK C c k) c.H u v):aQ C a c (kE k) u v:=by
 cases k<;>show h
abbrev J'(H:Hp):d7->Prop:=λa=>∃o,H a=a5 o
def Ok.xM(b:Ok C c):∀a,c.S a->J' c.H a:=λa h=>(b.KO a h).2
def Ok.F0(b:Ok C c):∀a,PS C c.S a->J' c.H a:=λa h=>by
 rcases h with h|h
 .obtain⟨⟨o,e⟩,n⟩:=b.par a h;show⟨o,b.same a o e n⟩
 .show b.xM a h
def aQ.read(a:Ok C c)(h:aQ C d c k u v):Rep C (J' c.H) c.H u v:=by
 cases k with
 |own =>
  obtain⟨r,e,_,_,_,b⟩:=h;rw[e];obtain⟨o,ho,_⟩:=b.some;show b.rep a.xM ⟨o,ho⟩
 |loc=>show Rep.mv (.up a.xM) h
 |any=>show Rep.mv (.up a.F0) h
 |bor j =>
  obtain⟨r,e,_,_,_,b⟩:=a.rootOf h.1 h.2;rw[e];obtain⟨o,ho,_⟩:=b.some;show b.rep a.xM ⟨o,ho⟩
 |_=>show h.elim
def Ok.newList(a:Ok C c)(n:Nx b c)(h:c.H p=b8)(e:aq C c.S c.H us vs):
  Ok C {c with H:=upd c.H p (.lst vs)}/\Nx b {c with H:=upd c.H p (.lst vs)}/\aQ C b {c with H:=upd c.H p (.lst vs)} .own (.lst us) (.ref p):=by
 have⟨f,d⟩:=a.lay (o:=.lst vs) h;have⟨j,g,k,l,i⟩:=a.k7 h;show⟨f,n.trans d,p,rfl,n.none h,g,i,vs,ay,e.mv (a.mv d.toNs)⟩
def Ok.DN(a:Ok C c)(n:Nx b c)(h:c.H p=b8)(e:aq C c.S c.H us vs):
  Ok C {c with H:=upd c.H p (.tup vs)}/\Nx b {c with H:=upd c.H p (.tup vs)}/\aQ C b {c with H:=upd c.H p (.tup vs)} .loc (.tup us) (.ref p):=by
 have⟨f,d⟩:=a.lay (o:=.tup vs) h;show⟨f,n.trans d,p,vs,rfl,Ju.of ay,e.mv (a.mv d.toNs)⟩
end
inductive Ex(α:Type) where|ok (a:α)|exc (c:Str)
abbrev M(α:Type):=aw->Option (Ex α×aw)
namespace M
abbrev pure(a:α):M α:=λst=>a5 (.ok a,st)
abbrev fail:M α:=λ_=>b8
abbrev bind(m:M α)(f:α->M β):M β:=λst=>match m st with
 |none=>b8
 |some (.ok a,st')=>f a st'
 |some (.exc c,st')=>a5 (.exc c,st')
abbrev IM(o:Option α):M α:=λst=>match o with
 |none=>b8
 |some a=>a5 (.ok a,st)
end M
noncomputable instance:Monad M:={pure:=M.pure,bind:=M.bind}
abbrev W{α:Type}(m:M α)(st:aw)(Q:α->aw->Prop):Prop:=∃a st',m st=a5 (.ok a,st')/\Q a st'
section
def ak:W (pure a) st Q↔Q a st:=by
 constructor
 .rintro⟨b,st',e,h⟩;cases e;show h
 .intro h;show⟨a,st,rfl,h⟩
def ah:W (m >>= f) st Q↔W m st λa st'=>W (f a) st' Q:=by
 constructor
 .rintro⟨b,st',e,h⟩;have d:M.bind m f st=a5 (.ok b,st'):=e;unfold M.bind at d;cases q:m st with
  |none=>rw[q]at d;cases d
  |some r =>
   have⟨r,s1⟩:=r;rw[q]at d;cases r with
   |ok a=>show⟨a,s1,q,b,st',d,h⟩
   |exc c=>cases d
 .rintro⟨a,s1,q,b,st',e,h⟩;show⟨b,st',?_,h⟩;change M.bind m f st=_;unfold M.bind;rw[q];show e
def bG:W (M.IM o) st Q↔∃a,o=a5 a/\Q a st:=by
 cases o with
 |none=>show⟨λ⟨_,_,e,_⟩=>(by cases e),λ⟨_,e,_⟩=>(by cases e)⟩
 |some a=>show⟨λ⟨_,_,e,h⟩=>(by cases e;show⟨a,rfl,h⟩),λ⟨_,e,h⟩=>(by cases e;show⟨a,st,rfl,h⟩)⟩
def bt:W (M.fail:M α) st Q↔False:=⟨λ⟨_,_,e,_⟩=>(by cases e),My⟩
def W.mono(h:W m st Q)(i:∀a s,Q a s->Q' a s):W m st Q':=let ⟨a,s,e,q⟩:=h;⟨a,s,e,i a s q⟩
end
inductive QQ where|add|sub|mul|N5|mod|pow
deriving DecidableEq
inductive N6 where|eq|ne|lt|le|gt|ge|isin|IH|is|S7
deriving DecidableEq
inductive Bf where|len|sorted|list|tuple|str|int|repr|max|min|all|any
deriving DecidableEq
inductive B2 where|Ml|Kw|sset|kI
deriving DecidableEq
inductive Mf where|split|join|partition|endswith
deriving DecidableEq
inductive KR where|str|list|tuple|int|bool
deriving DecidableEq
inductive Ik where|seq|Js|Xo|N7|zip|rev
deriving DecidableEq
inductive E where
 |var (i:Nat)
 |cst (u:U)
 |QR (x:Str) (u:U)
 |bin (op:QQ) (a b:E)
 |cmp (op:N6) (a b:E)
 |Mm (o1 o2:N6) (a b c:E)
 |and (es:List E)|or (es:List E)|not (a:E)
 |ite (c a b:E)
 |tup (es:List E)|lst (es:List E)|Kh (r:Bool)
 |idx (a b:E)
 |MH (a:E) (lo hi:List E)
 |bi (f:Bf) (es:List E)
 |MY (f:B2) (es:List E)
 |Np (m:Mf) (a:E) (es:List E)
 |call (f:Str) (es:List E)
 |comp (k:Nat) (t:Bool) (ik:Ik) (src:List E) (cond:List E) (e:E)
 |neg (a:E)|bad|KS (a:E) (T:KR)|fst (es:List E)|inD (neg:Bool) (a:E) (i:Nat)|OV (i:Nat)|Ll (i:Nat) (k d:E)|OW (i:Nat)|Nq (ln:Bool) (a b:E)
 |Iy (f:Str) (es:List E) (is:List Nat)
 |pop (i:Nat)|Kx (i:Nat) (e:E)
 |J2 (a:E) (D:Str) (tb:List (Str×Bool))|MZ (ix:Bool) (i:Nat) (b:Bool)
inductive RE where
 |call (f:Str) (es:List E)
 |arg (f:Str) (r:RE)
 |cmp (op:N6) (r:RE) (e:E)
inductive S where
 |set (i:Nat) (e:E)
 |M0 (is:List Nat) (e:E)
 |put (i:Nat) (k v:E)
 |app (i:Nat) (e:E)|ext (i:Nat) (e:E)|bad|newD (i:Nat)|putD (i:Nat) (k v:E)|KU (i:Nat) (k v:E)|aug (sub:Bool) (i:Nat) (k v:E)|QS (i:Nat)
 |exp (e:E)
 |ret (e:E)|LM
 |ite (c:E) (a b:List S)
 |IU (t:Bool) (is:List Nat) (ik:Ik) (src:List E) (body:List S)
 |Nr (c:E) (body:List S)
 |brk|cnt|QT
 |LN (is:List Nat)
 |M1 (c:Str) (e:E)
 |MI (f:Str) (es:List E)|MJ (i:Nat) (c:List E) (f:Str) (es:List E) (g:Str) (Kk:List E) (x:Str) (cs:List Str) (j k:Nat)
 |Ki (r:RE)
 |ins (i:Nat) (k v:E)
abbrev isAny:Kd->Bool
 |.any=>bD
 |_=>cc
abbrev dM(k:Kd)(xs:List U):Bool:=!isAny k||cH xs
abbrev kT(k k':Kd):Kd:=if isAny k||isAny k' then .any else .loc
abbrev cut{α:Type}(xs:List α)(lo a:Option Int):List α:=(xs.drop (HT.KI xs.length 0 lo)).take (HT.KI xs.length xs.length a - HT.KI xs.length 0 lo)
abbrev xN:Kd×U->Kd×U->Option (Kd×U)
 |(_,.int i),(_,.int j)=>a5 (.loc,.int (i+j))
 |(_,.str x),(_,.str y)=>if x.length+y.length<=cK then a5 (.loc,.str (x++y)) else b8
 |(k,.lst xs),(k',.lst a)=>if xs.length+a.length<=cK/\dM k xs=bD/\dM k' a=bD then a5 (.own,.lst (xs++a)) else b8
 |(k,.tup xs),(k',.tup a)=>if xs.length+a.length<=cK then a5 (kT k k',.tup (xs++a)) else b8
 |_,_=>b8
abbrev rM(f:Int->Int->Option Int):U->U->Option (Kd×U)
 |.int i,.int j=>(f i j).map λn=>(.loc,.int n)
 |_,_=>b8
abbrev AI(i j:Int):Option Int:=if ((-(2 ^ 64)<i/\i<2 ^ 64)\/(-(2 ^ 64)<j/\j<2 ^ 64)) then a5 (i * j) else b8
abbrev AJ(i j:Int):Option Int:=if 0<j/\j<1073741824 then a5 (i / j) else b8
abbrev AK(i j:Int):Option Int:=if 0<j then a5 (i % j) else b8
abbrev AL(i j:Int):Option Int:=if 0<=j/\j<=1000000/\i.natAbs<2 ^ 64 then a5 (i ^ j.toNat) else b8
abbrev LA(a:QQ)(x y:Kd×U):Option (Kd×U):=match a with
 |.add=>xN x y
 |.sub=>rM (λi j=>a5 (i - j)) x.2 y.2
 |.mul=>rM AI x.2 y.2
 |.N5=>rM AJ x.2 y.2
 |.mod=>rM AK x.2 y.2
 |.pow=>rM AL x.2 y.2
mutual
noncomputable def J3:Nat->U->Bool
 |_,.IA _ _=>cc
 |_,.exc _=>cc
 |0,.tup _=>cc
 |0,.lst _=>cc
 |n+1,.tup xs=>eS n xs
 |n+1,.lst xs=>eS n xs
 |_,.ID=>bD|_,.bl _=>bD|_,.int _=>bD|_,.str _=>bD
noncomputable def eS:Nat->List U->Bool
 |_,[]=>bD
 |n,u::us=>J3 n u&&eS n us
end
mutual
noncomputable def cO:U->U->Bool
 |.ID,.ID=>bD
 |.bl a,.bl b=>a==b
 |.bl a,.int b=>(if a then 1 else 0)==b
 |.int a,.bl b=>a==(if b then 1 else 0)
 |.int a,.int b=>a==b
 |.str a,.str b=>a==b
 |.tup xs,.tup c=>c_ xs c
 |.lst xs,.lst c=>c_ xs c
 |_,_=>cc
noncomputable def c_:List U->List U->Bool
 |[],[]=>bD
 |u::us,w::ws=>cO u w&&c_ us ws
 |_,_=>cc
end
abbrev N8(x:U)(a:List U):Option Bool:=if J3 50 x=bD/\eS 50 a=bD then a5 (a.any λy=>cO y x) else b8
abbrev strsOf:List U->Option (List Str)
 |[]=>a5 []
 |.str x::us=>(strsOf us).map (x::·)
 |_::_=>b8
abbrev xO:U->U->Option Bool
 |x,.lst a=>N8 x a
 |x,.tup a=>N8 x a
 |.str x,.IA ks _=>a5 (cn (x∈ks))
 |_,_=>b8
abbrev dW:List Str->List U->Str->Option U
 |y::ks,u::us,x=>if y=x then a5 u else dW ks us x
 |_,_,_=>b8
abbrev dput(ks:List Str)(us:List U)(x:Str)(u:U):List Str×List U :=
 if x∈ks then(ks,(ks.zip us).map λp=>if p.1=x then u else p.2) else(ks++[x],us++[u])
abbrev k8:U->Bool
 |.ID=>bD
 |_=>cc
abbrev xP(f:Int->Int->Bool):U->U->Option Bool
 |.int i,.int j=>a5 (f i j)
 |_,_=>b8
abbrev bK:N6->U->U->Option Bool
 |.eq,a,b=>if J3 50 a=bD/\J3 50 b=bD then a5 (cO a b) else b8
 |.ne,a,b=>if J3 50 a=bD/\J3 50 b=bD then a5 (!cO a b) else b8
 |.lt,a,b=>xP (λi j=>cn (i<j)) a b
 |.gt,a,b=>xP (λi j=>cn (j<i)) a b
 |.ge,a,b=>xP (λi j=>cn (j<=i)) a b
 |.isin,a,b=>xO a b
 |.IH,a,b=>(xO a b).map (!·)
 |.is,a,b=>if k8 b=bD then a5 (k8 a) else b8
 |_,_,_=>b8
abbrev gO:List U->Option (List Bool)
 |[]=>a5 []
 |.bl x::us=>(gO us).map (x::·)
 |_::_=>b8
abbrev gE:Kd×U->U->Option (Kd×U)
 |(k,.lst xs),.int i=>(JD xs i).map λu=>(kE k,u)
 |(k,.tup xs),.int i=>(JD xs i).map λu=>(kE k,u)
 |(_,.str x),.int i=>if x.length<=cK then(JD x.cps.toList i).map λc=>(.loc,.str ⟨#[c]⟩) else b8
 |_,_=>b8
abbrev qc:Kd×U->Option Int->Option Int->Option (Kd×U)
 |(k,.lst xs),lo,a=>if dM k xs=bD then a5 (.own,.lst (cut xs lo a)) else b8
 |(_,.str x),lo,a=>if x.length<=cK then a5 (.loc,.str (PySem.StrLaws.sliceText x lo a)) else b8
 |_,_,_=>b8
abbrev DO:U->Option Nat
 |.lst xs=>a5 xs.length
 |.tup xs=>a5 xs.length
 |.str x=>if x.length<=cK then a5 x.length else b8
 |_=>b8
abbrev iI{β:Type}(f:Kd×U->Option β):List (Kd×U)->Option β
 |[x]=>f x
 |_=>b8
abbrev intsOf:List U->Option (List Int)
 |[]=>a5 []
 |.int x::us=>(intsOf us).map (x::·)
 |_::_=>b8
abbrev DP:Kd×U->Option (Kd×U)
 |(_,.lst xs)=>(strsOf xs).bind λss=>if ss.length<64 then a5 (.own,.lst ((aP ss).map .str)) else b8
 |(_,.IA ks _)=>if ks.length<64 then a5 (.own,.lst ((aP ks).map .str)) else b8
 |(_,.tup xs)=>(strsOf xs).bind λss=>if ss.length<64 then a5 (.own,.lst ((aP ss).map .str)) else b8
 |_=>b8
abbrev DQ:Kd×U->Option (Kd×U)
 |(k,.lst xs)=>if dM k xs=bD then a5 (.own,.lst xs) else b8
 |(k,.tup xs)=>if dM k xs=bD then a5 (.own,.lst xs) else b8
 |_=>b8
abbrev DR:Kd×U->Option (Kd×U)
 |(k,.lst xs)=>a5 (kE k,.tup xs)
 |(k,.tup xs)=>a5 (kE k,.tup xs)
 |_=>b8
abbrev AM:Kd×U->Option (Kd×U)
 |(_,.int i)=>if i.natAbs.log2<1920 then a5 (.loc,.str (SU i)) else b8
 |_=>b8
abbrev DS:Kd×U->Option (Kd×U)
 |(_,.lst xs)=>(gO xs).map λbs=>(.loc,.bl (bs.all id))
 |_=>b8
abbrev Kp(f:Bf)(rs:List (Kd×U)):Option (Kd×U):=match f with
 |.len=>iI (λx=>(DO x.2).map λ(n:Nat)=>(Kd.loc,U.int (n:Int))) rs
 |.sorted=>iI DP rs
 |.list=>iI DQ rs
 |.tuple=>iI DR rs
 |.str=>iI AM rs
 |.all=>iI DS rs
 |_=>b8
abbrev hU:U->Option (List Str)
 |.lst xs=>(strsOf xs).bind λss=>if ss.length+1<zy then a5 (aB ss) else b8
 |.tup xs=>(strsOf xs).bind λss=>if ss.length+1<zy then a5 (aB ss) else b8
 |_=>b8
abbrev DT:Kd×U->Option (Kd×U)
 |(k,.lst xs)=>if dM k xs=bD then a5 (.own,.lst xs.reverse) else b8
 |_=>b8
abbrev rN(f:B2)(rs:List (Kd×U)):Option (Kd×U):=match f with
 |.Ml=>b8
 |.Kw=>iI DT rs
 |.sset=>iI (λx=>(hU x.2).bind λss=>if ss.length<64 then a5 (.own,.lst ((aP ss).map .str)) else b8) rs
 |.kI=>b8
abbrev mr:Mf->U->List (Kd×U)->Option (Kd×U)
 |.join,.str a,[(_,.lst xs)]=>(strsOf xs).bind λss=>if Ò a ss=bD then a5 (.loc,.str (Tu a ss)) else b8
 |_,_,_=>b8
abbrev Ib:Kd×U->Option (List (Kd×U))
 |(k,.lst xs)=>a5 (xs.map λu=>(kE k,u))
 |(k,.tup xs)=>a5 (xs.map λu=>(kE k,u))
 |_=>b8
abbrev xQ:Kd×U->Option (List (Kd×U))
 |(_,.int n)=>if n<2 ^ 62/\-(2 ^ 62)<n then a5 ((eH n.toNat).map λi:Nat=>(Kd.loc,U.int (0+(i:Int)))) else b8
 |_=>b8
abbrev DU:Kd×U->Option (List (Kd×U))
 |(k,.lst xs)=>a5 (xs.zipIdx.map λp=>(kE k,.tup [.int p.2,p.1]))
 |(k,.tup xs)=>a5 (xs.zipIdx.map λp=>(kE k,.tup [.int p.2,p.1]))
 |_=>b8
abbrev Ky(a:Ik)(rs:List (Kd×U)):Option (List (Kd×U)):=match a with
 |.seq=>iI Ib rs
 |.Js=>iI xQ rs
 |.N7=>iI DU rs
 |_=>b8
abbrev AN(ps:List (Str×Int)):List (Str×Int):=(jV (ps.map (·.1))).map λi=>ps.getD i (td,0)
abbrev vE(p:Str×Int):U:=.tup [.str p.1,.int p.2]
abbrev xR:U->Option (Kd×U)
 |.IA ks us=>(intsOf us).bind λns=>if ks.length<64/\ks.Nodup/\ks.length=ns.length then a5 (.own,.lst ((AN (ks.zip ns)).map vE)) else b8
 |_=>b8
abbrev qd(ln:Bool)(a b:List Str):Option (Kd×U):=if a.length<64/\b.length<64 then a5 (if ln=bD then(.loc,.int ((a.filter λx=>cn (x∉b)).length:Nat)) else(.own,.lst ((aP (a.filter λx=>cn (x∉b))).map .str))) else b8
abbrev vF:U->Option Bool
 |.bl b=>a5 b
 |.lst xs=>a5 !xs.isEmpty
 |.tup xs=>a5 !xs.isEmpty
 |.str x=>if x.length<=cK then a5 ((x.length:Int) != 0) else b8
 |_=>b8
abbrev lift:Kd×U->M U
 |(.own,u)=>pure u
 |(.loc,u)=>pure u
 |(.any,u)=>if I0 u=bD then pure u else M.fail
 |(.bor j,_)=>λst=>match st[j]? with
  |some (a5 (.own,u))=>a5 (.ok u,st.set j (a5 (.loc,u)))
  |_=>b8
 |(.io,_)=>M.fail
 |(.Iw,_)=>M.fail
abbrev da:List (Kd×U)->M (List U)
 |[]=>pure []
 |r::rs=>do let u <-lift r;let us <-da rs;pure (u::us)
abbrev eT(i:Nat):Kd×U->M Unit
 |(.bor j,_)=>λst=>match st[j]? with
  |some (a5 (.own,u))=>a5 (.ok (),(st.set j (a5 (.loc,u))).set i (a5 (.loc,u)))
  |_=>b8
 |(.io,_)=>M.fail
 |(.Iw,_)=>M.fail
 |(k,u)=>λst=>a5 (.ok (),st.set i (a5 (k,u)))
def aW:List (Kd×U)->aw->Prop
 |[],_=>True
 |(.bor j,u)::rs,st=>(∃k:Kd,k.root=bD/\st[j]?=a5 (a5 (k,u)))/\aW rs st
 |_::rs,st=>aW rs st
open Classical in
abbrev az(rs:List (Kd×U)):M Unit:=λst=>if aW rs st then a5 (.ok (),st) else b8
@[reducible]def Tab:=Str->List U->Option (Ex (Kd×U))
abbrev k9(Γ:Tab)(f:Str)(us:List U):M (Kd×U):=λst=>match Γ f us with
 |some (.ok (.any,_))=>b8
 |none=>b8
 |some r=>a5 (r,st)
abbrev hZ(rs:List (Kd×U))(p:Nat):Option Nat:=match rs[p]? with
 |some (.bor j,.lst us)=>if cH us=bD then a5 j else b8
 |_=>b8
abbrev qe(a:List (Option Nat)):Kd×U->Bool
 |(.bor j,_)=>cn (a5 j∉a)
 |_=>bD
abbrev qf(rs:List (Kd×U))(is:List Nat):Bool:=is.all (λp=>(hZ rs p).isSome)&&cn ((is.map (hZ rs)).Nodup)&&(eH rs.length).all λq=>cn (q∈is)||qe (is.map (hZ rs)) (rs.getD q (.loc,.ID))
abbrev gP(rs:List (Kd×U)):List Nat->List U->aw->Option aw
 |[],[],st=>a5 st
 |p::is,w::ws,st=>match hZ rs p with
  |some j=>match w,st[j]? with
   |.lst us,a5 (a5 (k,_))=>gP rs is ws (st.set j (a5 (k,.lst us)))
   |_,_=>b8
  |none=>b8
 |_,_,_=>b8
abbrev S8:Kd×U->Option (Kd×U×List U)
 |(.own,.tup (u::ws))=>a5 (.own,u,ws)
 |(.loc,.tup (u::ws))=>a5 (.loc,u,ws)
 |_=>b8
abbrev eD(st:aw):Kd×U->Kd×U
 |(.bor j,u)=>(.bor j,match st[j]? with|some (a5 (k,u'))=>if k.root=bD then u' else u|_=>u)
 |r=>r
abbrev AO(rs:List (Kd×U)):M (List (Kd×U)):=λst=>a5 (.ok (rs.map (eD st)),st)
abbrev qg(Γ:Tab)(f:Str)(rs:List (Kd×U))(is:List Nat):M (Kd×U):=λst=>match Γ f (rs.map (·.2)) with
 |some (.ok r)=>match S8 r with
  |some (k,u,ws)=>if qf rs is=bD then(match gP rs is ws st with|some st'=>a5 (.ok (k,u),st')|none=>b8) else b8
  |none=>b8
 |_=>b8
abbrev xS(i:Nat):M (Kd×U):=λst=>match st[i]? with
 |some (a5 (k,.lst us))=>if k.root=bD then(match us[us.length - 1]? with|some u=>a5 (.ok (.loc,u),st.set i (a5 (k,.lst us.dropLast)))|none=>b8) else b8
 |_=>b8
abbrev vG(i:Nat):U->M (Kd×U)
 |.int j=>λst=>match st[i]? with
  |some (a5 (k,.lst us))=>if k.root=bD/\0<=j/\j<1000000 then(match us[j.toNat]? with|some u=>a5 (.ok (.loc,u),st.set i (a5 (k,.lst (us.eraseIdx j.toNat))))|none=>b8) else b8
  |_=>b8
 |_=>M.fail
abbrev dg(i:Nat):M (Kd×U):=λst=>match st[i]? with
 |some (a5 (.Iw,_))=>b8
 |some (a5 (k,u))=>a5 (.ok (if k.root=bD then .bor i else k,u),st)
 |_=>b8
abbrev iJ(i:Nat):M (List Str×List U):=λst=>match st[i]? with
 |some (a5 (.Iw,.IA ks us))=>a5 (.ok (ks,us),st)
 |_=>b8
abbrev jX(x:Kd×U):M Str:=match x.2 with
 |.str y=>pure y
 |_=>M.fail
abbrev S9(neg:Bool)(y:Str)(ks:List Str):Bool:=if neg=bD then !cn (y∈ks) else cn (y∈ks)
abbrev xT(i:Nat):M (Kd×U):=λst=>match st[i]? with
 |some (a5 (.Iw,u))=>a5 (.ok (.bor i,u),st.set i (a5 (.own,u)))
 |_=>dg i st
abbrev Cp(i:Nat):M Unit:=λst=>a5 (.ok (),st.set i (a5 (.Iw,.IA [] [])))
abbrev k_(i:Nat)(y:Str):Kd×U->M Unit
 |(.own,.lst us)=>λst=>match st[i]? with
  |some (a5 (.Iw,.IA ks vs))=>if y∉ks/\ks.length<cK then a5 (.ok (),st.set i (a5 (.Iw,.IA (ks++[y]) (vs++[.lst us])))) else b8
  |_=>b8
 |_=>M.fail
abbrev jY:List Str->List U->Str->U->List U
 |k::ks,v::vs,y,u=>if k=y then u::vs else v::jY ks vs y u
 |_,vs,_,_=>vs
abbrev la(i:Nat)(y:Str)(u:U):M Unit:=λst=>match st[i]? with
 |some (a5 (.Iw,.IA ks vs))=>match dW ks vs y with
  |some (.lst xs)=>if xs.length<cK then a5 (.ok (),st.set i (a5 (.Iw,.IA ks (jY ks vs y (.lst (xs++[u])))))) else b8
  |_=>b8
 |_=>b8
abbrev S_:U->M Unit
 |.IA _ _=>pure ()
 |_=>M.fail
abbrev AQ(x:Kd×U)(y:Str)(u:U):Option (Kd×U):=match x with
 |(k,.IA ks us)=>a5 (match dW ks us y with|some v=>(kE k,v)|none=>(.loc,u))
 |_=>b8
abbrev qh(i:Nat):M (List U):=λst=>match st[i]? with
 |some (a5 (k,.lst us))=>if k.root=bD then a5 (.ok us,st) else b8
 |_=>b8
abbrev vH(x:Kd×U):M Int:=match x.2 with
 |.int j=>pure j
 |_=>M.fail
abbrev qi(us:List U)(j:Int):Option Int:=if 0<=j then(match us[j.toNat]? with|some (.int o)=>a5 o|_=>b8) else b8
abbrev vI(sub:Bool)(o w:Int):Int:=if sub=bD then o - w else o+w
abbrev Ic:U->Option U
 |.lst us=>a5 (.lst us.reverse)
 |_=>b8
abbrev sets:List Nat->List (Kd×U)->M Unit
 |[],[]=>pure ()
 |i::is,r::rs=>do eT i r;sets is rs
 |_,_=>M.fail
abbrev dN(t:Bool)(is:List Nat)(r:Kd×U):M Unit:=match t,is,r with
 |false,[i],r=>eT i r
 |true,is,(k,.tup xs)=>sets is (xs.map λu=>(kE k,u))
 |_,_,_=>M.fail
abbrev inScope{α:Type}(k:Nat)(m:M α):M α:=λst=>match m (i3 k b8++st) with
 |none=>b8
 |some (r,st')=>a5 (r,st'.drop k)
abbrev cj(k:Nat)(t:Bool)(cond:M Bool)(elt:M (Kd×U))(src:List (Kd×U)):List (Kd×U)->List U->M (List U)
 |[],acc=>do az src;pure acc
 |x::xs,acc=>do
  az src
  let r <-inScope k (dN t (eH k) x >>= λ_=>cond >>= λb=>if b=bD then(elt >>= λr=>lift r >>= λu=>pure (a5 u)) else pure b8)
  match r with
  |some u=>if acc.length<cK then cj k t cond elt src xs (acc++[u]) else M.fail
  |none=>cj k t cond elt src xs acc
abbrev oF:U->KR->Option Bool
 |.str _,T=>a5 (cn (T=.str))
 |.int _,T=>a5 (cn (T=.int))
 |.bl _,.bool=>a5 bD
 |.bl _,.int=>a5 bD
 |.lst _,T=>a5 (cn (T=.list))
 |.tup _,T=>a5 (cn (T=.tuple))
 |_,_=>b8
abbrev Ie:Kd×U->Option (Kd×U)
 |(_,.int i)=>a5 (.loc,.int (-i))
 |_=>b8
abbrev DV(x:Kd×U):M (Option Int):=match x.2 with
 |.int i=>pure (a5 i)
 |_=>M.fail
abbrev LZ:U->M Unit
 |.lst _=>pure ()
 |_=>M.fail
section
variable(Γ:Tab)
abbrev xU(a:Bool)(i:Nat)(b:Bool):M (Kd×U):=λst=>match st[i]? with
 |some (a5 (k,.lst us))=>if k.root=bD then(match gO us with
  |some bs=>if a=bD then(if b∈bs then a5 (.ok (.loc,.int (bs.idxOf b:Nat)),st) else b8) else a5 (.ok (.loc,.int (bs.count b:Nat)),st)
  |none=>b8) else b8
 |_=>b8
abbrev lb(a:List (Str×Bool)):U->Option Bool
 |.exc c=>a.lookup c
 |_=>b8
mutual
noncomputable def ev:E->M (Kd×U)
 |.var i=>dg i
 |.cst u=>pure (.loc,u)
 |.QR _ u=>pure (.loc,u)
 |.bin g a b=>do
  let x <-ev a
  let y <-ev b
  az [x,y]
  M.IM (LA g x y)
 |.cmp g a b=>do
  let x <-ev a
  let y <-ev b
  az [x,y]
  let c <-M.IM (bK g x.2 y.2)
  pure (.loc,.bl c)
 |.Mm _ _ _ _ _=>M.fail
 |.and es=>iK es
 |.or _=>M.fail
 |.not a=>do
  let x <-ev a
  match x.2 with
  |.bl c=>pure (.loc,.bl !c)
  |_=>M.fail
 |.ite c a b=>do
  let p <-IX c
  if p=bD then ev a else ev b
 |.tup es=>do
  let rs <-bb es
  az rs
  let us <-da rs
  if us.length<=cK then pure (.loc,.tup us) else M.fail
 |.lst es=>do
  let rs <-bb es
  az rs
  let us <-da rs
  if us.length<=cK then pure (.own,.lst us) else M.fail
 |.Kh r=>pure (.own,.IA [] [])
 |.idx a b=>do
  let x <-ev a
  let y <-ev b
  az [x,y]
  M.IM (gE x y.2)
 |.MH a lo j=>do
  let x <-ev a
  let l <-N9 lo
  let h <-N9 j
  az [x]
  M.IM (qc x l h)
 |.bi f es=>do
  let rs <-bb es
  az rs
  M.IM (Kp f rs)
 |.MY f es=>do
  let rs <-bb es
  az rs
  M.IM (rN f rs)
 |.Np m a es=>do
  let x <-ev a
  let rs <-bb es
  az (x::rs)
  M.IM (mr m x.2 rs)
 |.call f es=>do
  let rs <-bb es
  az rs
  k9 Γ f (rs.map (·.2))
 |.comp k t n src cond e=>do
  let rs <-bb src
  az rs
  let xs <-M.IM (Ky n rs)
  let us <-cj k t (bc cond) (ev e) rs xs []
  pure (.own,.lst us)
 |.neg a=>do
  let x <-ev a
  M.IM (Ie x)
 |.bad=>M.fail
 |.inD _ _ _=>M.fail
 |.OV i=>xT i
 |.Ll i k d=>do
  let x <-dg i
  S_ x.2
  let y <-ev k
  let y <-jX y
  let z <-ev d
  let u <-lift z
  let x <-dg i
  M.IM (AQ x y u)
 |.OW i=>do
  let x <-dg i
  M.IM (xR x.2)
 |.Iy f es is=>do
  let rs <-(bb es >>= AO)
  az rs
  qg Γ f rs is
 |.J2 a _ o=>do
  let x <-ev a
  let b <-M.IM (lb o x.2)
  pure (.loc,.bl b)
 |.MZ q i b=>xU q i b
 |.pop i=>xS i
 |.Kx i e=>do
  let x <-dg i
  LZ x.2
  let y <-ev e
  vG i y.2
 |.Nq ln a b=>do
  let x <-ev a
  let s <-M.IM (hU x.2)
  let y <-ev b
  let v <-M.IM (hU y.2)
  M.IM (qd ln s v)
 |.fst es=>M.fail
 |.KS a T=>do
  let x <-ev a
  let b <-M.IM (oF x.2 T)
  pure (.loc,.bl b)
noncomputable def bb:List E->M (List (Kd×U))
 |[]=>pure []
 |e::es=>do let r <-ev e;let rs <-bb es;pure (r::rs)
noncomputable def N9:List E->M (Option Int)
 |[]=>pure b8
 |[e]=>do let x <-ev e;DV x
 |_=>M.fail
noncomputable def iK:List E->M (Kd×U)
 |[]=>M.fail
 |[e]=>ev e
 |e::es=>do
  let x <-ev e
  match x.2 with
  |.bl bD=>iK es
  |.bl cc=>pure (.loc,.bl cc)
  |_=>M.fail
noncomputable def IX:E->M Bool
 |.and es=>bc es
 |.or es=>jD es
 |.not a=>do let b <-IX a;pure !b
 |.cmp e a b=>do
  let x <-ev a
  let y <-ev b
  az [x,y]
  M.IM (bK e x.2 y.2)
 |.var i=>do let x <-dg i;M.IM (vF x.2)
 |.bi f es=>do
  let rs <-bb es
  az rs
  let r <-M.IM (Kp f rs)
  M.IM (vF r.2)
 |.call f es=>do
  let rs <-bb es
  az rs
  let r <-k9 Γ f (rs.map (·.2))
  M.IM (vF r.2)
 |.Mm o1 o2 a b c=>do
  let x <-ev a
  let y <-ev b
  az [x,y]
  let p <-M.IM (bK o1 x.2 y.2)
  if p=bD then do
   let z <-ev c
   az [y,z]
   M.IM (bK o2 y.2 z.2)
  else pure cc
 |.inD neg a i=>do
  let x <-ev a
  let y <-jX x
  let d <-iJ i
  pure (S9 neg y d.1)
 |.KS a T=>do
  let x <-ev a
  M.IM (oF x.2 T)
 |.J2 a _ g=>do
  let x <-ev a
  M.IM (lb g x.2)
 |_=>M.fail
noncomputable def bc:List E->M Bool
 |[]=>pure bD
 |[e]=>IX e
 |e::es=>do let b <-IX e;if b=bD then bc es else pure cc
noncomputable def jD:List E->M Bool
 |[]=>pure cc
 |[e]=>IX e
 |e::es=>do let b <-IX e;if b=bD then pure bD else jD es
end
inductive Fl where|nx|rt (k:Kd) (u:U)|bk|ct
abbrev retS:Kd×U->M Fl
 |(.own,u)=>pure (.rt .own u)
 |(.loc,u)=>pure (.rt .loc u)
 |(.any,u)=>if I0 u=bD then pure (.rt .loc u) else pure (.rt .any u)
 |(.bor j,_)=>λst=>match st[j]? with
  |some (a5 (.own,u))=>a5 (.ok (.rt .own u),st.set j b8)
  |_=>b8
 |(.io,_)=>M.fail
 |(.Iw,_)=>M.fail
abbrev forM(t:Bool)(is:List Nat)(body:M Fl)(src:List (Kd×U)):List (Kd×U)->M Fl
 |[]=>do az src;pure .nx
 |x::xs=>do
  az src
  dN t is x
  let f <-body
  match f with
  |.nx=>forM t is body src xs
  |.ct=>forM t is body src xs
  |.bk=>pure .nx
  |.rt k u=>pure (.rt k u)
abbrev gF(c:M Bool)(body:M Fl):Nat->M Fl
 |0=>M.fail
 |n+1=>do
  let b <-c
  if b=bD then do
   let f <-body
   match f with
   |.nx=>gF c body n
   |.ct=>gF c body n
   |.bk=>pure .nx
   |.rt k u=>pure (.rt k u)
  else pure .nx
abbrev bM(Γ:Tab)(f:Str)(us:List U):M (Sum (Kd×U) Str):=λst=>match Γ f us with
 |some (.ok (.own,u))=>a5 (.ok (.inl (.own,u)),st)
 |some (.ok (.loc,u))=>a5 (.ok (.inl (.loc,u)),st)
 |some (.exc c)=>a5 (.ok (.inr c),st)
 |_=>b8
abbrev AR:Sum (Kd×U) Str->M Fl
 |.inl _=>pure .nx
 |.inr c=>pure (.rt .io (.str c))
abbrev jZ(a:List Str)(i j k:Nat):Sum (Kd×U) Str->M Fl
 |.inl r=>do eT i r;pure .nx
 |.inr c=>λst=>match st[j]? with
  |some b8=>if k≠j/\c∈a then(eT k (.loc,.exc c) >>= λ_=>pure .nx) st else b8
  |_=>b8
abbrev F5(Γ:Tab)(f:Str):Sum (Kd×U) Str->M (Sum (Kd×U) Str)
 |.inl x=>do az [x];bM Γ f [x.2]
 |.inr c=>pure (.inr c)
abbrev F6(a:N6)(m:M (Kd×U)):Sum (Kd×U) Str->M (Sum (Kd×U) Str)
 |.inl x=>do
  let y <-m
  az [x,y]
  let b <-M.IM (bK a x.2 y.2)
  pure (.inl (.loc,.bl b))
 |.inr c=>pure (.inr c)
abbrev Lm(Γ:Tab):RE->M (Sum (Kd×U) Str)
 |.call f es=>bb Γ es >>= λrs=>az rs >>= λ_=>bM Γ f (rs.map (·.2))
 |.arg f r=>Lm Γ r >>= F5 Γ f
 |.cmp a r e=>Lm Γ r >>= F6 a (ev Γ e)
abbrev DW:Sum (Kd×U) Str->M Fl
 |.inl x=>retS x
 |.inr c=>pure (.rt .io (.str c))
abbrev AS(k u:U):U->Option U
 |.lst xs=>match k with
  |.int i=>if 0<=i/\i.toNat<=xs.length/\xs.length<cK then a5 (.lst (xs.take i.toNat++u::xs.drop i.toNat)) else b8
  |_=>b8
 |_=>b8
abbrev modS(i:Nat)(f:U->Option U):M Unit:=λst=>match st[i]? with
 |some (a5 (k,u))=>if k.root=bD then match f u with
   |some u'=>a5 (.ok (),st.set i (a5 (k,u')))
   |none=>b8
  else b8
 |_=>b8
abbrev xV(u:U):U->Option U
 |.lst xs=>if xs.length<cK then a5 (.lst (xs++[u])) else b8
 |_=>b8
abbrev lh:Kd×U->U->Option U
 |(k,.lst a),.lst xs=>if xs.length+a.length<=cK/\dM k a=bD then a5 (.lst (xs++a)) else b8
 |(k,.tup a),.lst xs=>if xs.length+a.length<=cK/\dM k a=bD then a5 (.lst (xs++a)) else b8
 |_,_=>b8
abbrev eE(x u:U):U->Option U
 |.IA ks vs=>match x with
  |.str y=>if ks.length<cK then a5 (.IA (dput ks vs y u).1 (dput ks vs y u).2) else b8
  |_=>b8
 |.lst xs=>match x with
  |.int i=>(L9 xs.length i).map λj=>.lst (xs.set j u)
  |_=>b8
 |_=>b8
abbrev tW:List U->U->Option U
 |[u,x]=>eE x u
 |_=>λ_=>b8
abbrev fuel:Nat:=1000000000000
mutual
noncomputable def Nt:S->Nat->Bool
 |.set i _,j=>cn (j≠i)
 |.M0 is _,j=>cn (j∉is)
 |.ite _ a b,j=>Kq a j&&Kq b j
 |.IU _ is _ _ body,j=>cn (j∉is)&&Kq body j
 |.Nr _ body,j=>Kq body j
 |.put _ _ _,_=>bD
 |.app _ _,_=>bD
 |.ext _ _,_=>bD
 |.bad,_=>bD
 |.newD i,j=>cn (j≠i)
 |.putD _ _ _,_=>bD
 |.KU _ _ _,_=>bD
 |.aug _ _ _ _,_=>bD
 |.QS _,_=>bD
 |.exp _,_=>bD
 |.ret _,_=>bD
 |.LM,_=>bD
 |.brk,_=>bD
 |.cnt,_=>bD
 |.QT,_=>bD
 |.LN _,_=>bD
 |.M1 _ _,_=>bD
 |.MI _ _,_=>bD
 |.MJ i _ _ _ _ _ _ _ j k,n=>cn (n≠i)&&cn (n≠k)&&cn (n≠j)
 |.Ki _,_=>bD
 |.ins _ _ _,_=>bD
noncomputable def Kq:List S->Nat->Bool
 |[],_=>bD
 |s::ss,j=>Nt s j&&Kq ss j
end
abbrev tX(rs:List (Kd×U))(is:List Nat)(body:List S):Bool:=rs.all λr=>match r.1 with
 |.bor j=>cn (j∉is)&&Kq body j
 |_=>bD
mutual
noncomputable def exec:S->M Fl
 |.set i e=>do let r <-ev Γ e;eT i r;pure .nx
 |.M0 is e=>do let r <-ev Γ e;dN bD is r;pure .nx
 |.put i k v=>do
  let r <-ev Γ v
  let _ <-dg i
  let x <-ev Γ k
  let us <-da [r,x]
  modS i (tW us)
  pure .nx
 |.app i e=>do
  let x <-dg i
  LZ x.2
  let r <-ev Γ e
  let u <-lift r
  modS i (xV u)
  pure .nx
 |.ext i e=>do
  let x <-dg i
  LZ x.2
  let r <-ev Γ e
  modS i (lh r)
  pure .nx
 |.bad=>M.fail
 |.newD i=>do Cp i;pure .nx
 |.putD i k v=>do
  let r <-ev Γ v
  let d <-iJ i
  let x <-ev Γ k
  let y <-jX x
  k_ i y r
  pure .nx
 |.KU i k v=>do
  let _ <-iJ i
  let x <-ev Γ k
  let y <-jX x
  let d <-iJ i
  if y∈d.1 then do
   let r <-ev Γ v
   let u <-lift r
   la i y u
   pure .nx
  else M.fail
 |.aug sub i k v=>do
  let _ <-qh i
  let y <-ev Γ k
  let j <-vH y
  let us <-qh i
  let o <-M.IM (qi us j)
  let z <-ev Γ v
  let w <-vH z
  modS i (eE (.int j) (.int (vI sub o w)))
  pure .nx
 |.QS i=>do
  modS i Ic
  pure .nx
 |.exp e=>do let _ <-ev Γ e;pure .nx
 |.ret e=>do let r <-ev Γ e;retS r
 |.LM=>pure (.rt .loc .ID)
 |.ite c a b=>do let p <-IX Γ c;if p=bD then execs a else execs b
 |.IU t is h src body=>do
  let rs <-bb Γ src
  az rs
  let xs <-M.IM (Ky h rs)
  if tX rs is body=bD then forM t is (execs body) rs xs else M.fail
 |.Nr c body=>gF (IX Γ c) (execs body) fuel
 |.brk=>pure .bk
 |.cnt=>pure .ct
 |.QT=>pure .nx
 |.LN _=>M.fail
 |.M1 c e=>do let _ <-ev Γ e;pure (.rt .io (.str c))
 |.MI f es=>do
  let r <-(bb Γ es >>= λrs=>az rs >>= λ_=>bM Γ f (rs.map (·.2)))
  AR r
 |.MJ i c f es g l _ m j k=>do
  let r <-(match c with
   |[c]=>IX Γ c >>= λp=>if p=bD then(bb Γ es >>= λrs=>az rs >>= λ_=>bM Γ f (rs.map (·.2))) else(bb Γ l >>= λrs=>az rs >>= λ_=>bM Γ g (rs.map (·.2)))
   |_=>bb Γ es >>= λrs=>az rs >>= λ_=>bM Γ f (rs.map (·.2)))
  jZ m i j k r
 |.Ki r=>Lm Γ r >>= DW
 |.ins i k e=>do
  let x <-dg i
  LZ x.2
  let y <-ev Γ k
  let r <-ev Γ e
  az [y]
  let u <-lift r
  modS i (AS y.2 u)
  pure .nx
noncomputable def execs:List S->M Fl
 |[]=>pure .nx
 |s::ss=>do
  let f <-exec s
  match f with
  |.nx=>execs ss
  |f=>pure f
end
end
structure Fn where
 name:Str
 np:Nat
 ns:Nat
 body:List S
abbrev start(us:List U)(n:Nat):aw:=us.map (λu=>a5 (if I0 u=bD then Kd.loc else Kd.any,u))++i3 (n - us.length) b8
abbrev dk(Γ:Tab)(fn:Fn)(us:List U):Option (Ex (Kd×U)):=if us.length=fn.np then match execs Γ fn.body (start us fn.ns) with
  |some (.ok (.rt .own u),_)=>a5 (.ok (.own,u))
  |some (.ok (.rt .loc u),_)=>a5 (.ok (.loc,u))
  |some (.ok (.rt .any u),_)=>a5 (.ok (.any,u))
  |some (.ok .nx,_)=>a5 (.ok (.loc,.ID))
  |some (.ok (.rt .io (.str c)),_)=>a5 (.exc c)
  |_=>b8
 else b8
abbrev cS(is:List Nat)(us:List U)(n:Nat):aw:=(us.zipIdx.map λp=>a5 (if p.2∈is then Kd.io else if I0 p.1=bD then Kd.loc else Kd.any,p.1))++i3 (n - us.length) b8
abbrev N_:List Nat->aw->Option (List U)
 |[],_=>a5 []
 |i::is,st=>match st[i]? with
  |some (a5 (.io,u))=>(N_ is st).map (u::·)
  |_=>b8
abbrev QU:Fl->Option (Kd×U)
 |.rt .own u=>a5 (.own,u)
 |.rt .loc u=>a5 (.loc,u)
 |.nx=>a5 (.loc,.ID)
 |_=>b8
abbrev gG(Γ:Tab)(fn:Fn)(is:List Nat)(body:List S)(us:List U):Option (Ex (Kd×U)):=if us.length=fn.np then match execs Γ body (cS is us fn.ns) with
  |some (.ok f,st)=>(QU f).bind λr=>(N_ is st).map λws=>.ok (r.1,.tup (r.2::ws))
  |_=>b8
 else b8
abbrev Fn.io(fn:Fn):Option (List Nat×List S):=match fn.body with
 |.LN is::body=>a5 (is,body)
 |_=>b8
abbrev je(Γ:Tab)(fn:Fn)(us:List U):Option (Ex (Kd×U)):=match fn.io with
 |some (is,body)=>gG Γ fn is body us
 |none=>dk Γ fn us
abbrev IJ(P:List Fn):Nat->Tab
 |0=>λ_ _=>b8
 |d+1=>λf us=>match P.find? λfn=>cn (fn.name=f) with
  |some fn=>je (IJ P d) fn us
  |none=>b8
end TM
namespace TM
open PySem L2
section
variable{X:Cx}{pins:List (d7×Obj)}{σ:St}{H:Hp}{s:d4}{C:Ct}{S:d7->Prop}
def tY(I:Inv X pins σ H s)(h:Jh X.K H a vs):∃b:List df,Vals vs b/\s.heap.IsList a b.toArray/\vs.length<=cK:=by
 have⟨b,r,p,z⟩:=I.list h;show⟨b,r,p.isList,z⟩
inductive Jt(s:d4):Nat->U->df->Prop where
 |ID {n:Nat}:Jt s n .ID .none
 |bl {n:Nat} {b:Bool}:Jt s n (.bl b) (.bool b)
 |int {n:Nat} {i:Int} {t:Tok}:Jt s n (.int i) (.int i t)
 |str {n:Nat} {y:Str} {t:Tok}:Jt s n (.str y) (.str y t)
 |tup {n:Nat} {us:List U} {A':List df} {a:d7}:us.length=A'.length->(∀j (hj:j<A'.length),Jt s n (us.getD j .ID) A'[j])->c_ us us=bD->s.heap.IsTuple a A'.toArray->Jt s (n+1) (.tup us) (.ref a)
 |lst {n:Nat} {us:List U} {A':List df} {a:d7}:us.length=A'.length->(∀j (hj:j<A'.length),Jt s n (us.getD j .ID) A'[j])->c_ us us=bD->s.heap.IsList a A'.toArray->Jt s (n+1) (.lst us) (.ref a)
def Jt.self(h:Jt s n u x):cO u u=bD:=by
 cases h<;>first|assumption|simp[cO]
theorem Jt.vJ(f:∀u v x,J3 n u=bD->Rep C S H u v->RelV v x->Jt s n u x):∀{us:List U}{vs:List V}{a:List df},eS n us=bD->aq C S H us vs->Vals vs a->us.length=a.length/\(∀j (b:j<a.length),Jt s n (us.getD j .ID) a[j])/\c_ us us=bD
 |[],_,_,_,h,r=>by cases h;cases r;show⟨rfl,λj b=>(nomatch b),rfl⟩
 |u::us,_,_,e,h,r=>by
  have⟨v,vs,rfl,c,g⟩:=h;simp only[eS,cb]at e;cases r with
  |cons d i =>
   have⟨l,k,y⟩:=Jt.vJ f e.2 g i;show⟨by simp[l],λj b=>?_,by rw[c_,(f _ _ _ e.1 c d).self,y];rfl⟩;cases j with
   |zero=>show f _ _ _ e.1 c d
   |succ j=>show k j (by simpa using b)
def Jt.of(I:Inv X pins σ H s)(d:C.K=X.K):∀(n:Nat) (u:U) (v:V) (x:df),J3 n u=bD->Rep C S H u v->RelV v x->Jt s n u x:=by
 intro n;induction n with
 |zero=>intro u v x e h r;cases u<;>first|(simp[J3]at e;done)|(simp only[Rep]at h;subst h;first|(cases r;constructor)|(have⟨t,rfl⟩:=r;constructor))
 |succ n f =>
  intro u v x e h r;cases u with
  |tup us =>
   have⟨a,vs,rfl,b,c⟩:=h;cases r;obtain⟨g,rv,p,_⟩:=I.tuple (d▸b);have⟨l,k,y⟩:=Jt.vJ f (by simpa[J3] using e) c rv;show .tup l k y p
  |lst us =>
   have⟨a,vs,rfl,b,c⟩:=h;cases r;obtain⟨g,rv,p,_⟩:=tY I (d▸b.sq);have⟨l,k,y⟩:=Jt.vJ f (by simpa[J3] using e) c rv;show .lst l k y p
  |_=>first|(simp[J3]at e;done)|(simp only[Rep]at h;subst h;first|(cases r;constructor)|(have⟨t,rfl⟩:=r;constructor))
def Jt.inj:∀{n:Nat}{u w:U}{x:df},Jt s n u x->Jt s n w x->u=w:=by
 intro n;induction n with
 |zero=>intro u w x h h';cases h<;>cases h'<;>rfl
 |succ n t =>
  have go:∀{us ws:List U} {c its':List df} {a:d7} {o i:Obj} {m q:Nat},us.length=c.length->(∀j (v:j<c.length),Jt s n (us.getD j .ID) c[j])->ws.length=its'.length->(∀j (v:j<its'.length),Jt s n (ws.getD j .ID) its'[j])->s.heap.get? a=a5 o->o.data=.seq c.toArray m->s.heap.get? a=a5 i->i.data=.seq its'.toArray q->us=ws:=by
   intro us ws c its' a o i m q l k f k' e d g d';rw[e]at g;cases g;rw[d]at d';injection d' with z _
   have:c=its':=by simpa using Ģ Ye z
   subst this;show L4 ⋯ λj A B=>?_;have:=t (k j ⋯) (k' j ⋯);simpa[A,B] using this
  intro u w x h h';cases h with
  |tup l k y p =>
   cases h' with
   |tup f k' r b=>obtain⟨o,e,_,m,d⟩:=p;obtain⟨i,g,_,q,d'⟩:=b;rw[go l k f k' e d g d']
   |lst f k' r b=>show absurd rfl (Yd b p)
  |lst l k y p =>
   cases h' with
   |lst f k' r b=>obtain⟨o,e,_,m,d⟩:=p;obtain⟨i,g,_,q,d'⟩:=b;rw[go l k f k' e d g d']
   |tup f k' r b=>show absurd rfl (Yd p b)
  |_=>cases h';rfl
theorem jf:∀{us ws:List U},us.length≠ws.length->c_ us ws=cc
 |[],[],h=>absurd rfl h
 |[],_::_,_=>rfl
 |_::_,[],_=>rfl
 |u::us,w::ws,h=>by
  rw[c_,jf (us:=us) (ws:=ws) (λe=>h (by simp[e])),Tb]
theorem f9:∀{us ws:List U},us.length=ws.length->c_ us ws=(eH us.length).all λj=>cO (us.getD j .ID) (ws.getD j .ID)
 |[],[],_=>rfl
 |[],_::_,h=>by simp at h
 |_::_,[],h=>by simp at h
 |u::us,w::ws,h=>by
  have h':us.length=ws.length:=by simpa using h
  rw[c_,f9 h',i0,List.range_succ_eq_map,Ö,U5];rfl
def F7{a its':List df}(c:us.length=a.length)(d:ws.length=its'.length):c_ us ws=((eH (min a.toArray.size its'.toArray.size)).all (λj=>cO (us.getD j .ID) (ws.getD j .ID))&&a.toArray.size==its'.toArray.size):=by
 simp only[ei];by_cases b:us.length=ws.length
 .rw[f9 b,show min a.length its'.length=us.length by lia,show(a.length==its'.length)=bD by simp;lia,Ù]
 .rw[jf b,show(a.length==its'.length)=cc by simp;lia,Tb]
def tZ(b:Jt s n u y)(h:Y4 A s y x k)(hs:y=x->k=bD):R' A s y x k:=λprog w E Q a=>by
 unfold eqBool;show ti ?_;show wpAny_ite_split (λc=>?_) (λ_=>?_)
 .rw[hs (eq_of_beq c)]at a;show b6 (OC (c2 a))
 .cases b<;>show b6 (h prog w E _ (IQ a))
def Ta(r:∀m,m+1=n->∀{u w:U}{x f:df}{A:M8},Jt s m u x->Jt s m w f->A.units+m<K4->R' A s x f (cO u w))(h:Jt s n u x)(h':Jt s n w f)(v:A.units+n<K4):Y4 A s x f (cO u w)/\Ñ A s x f (!cO u w):=by
 have a:A.units<K4:=by lia
 have go:∀{m:Nat} {us ws:List U} {g its':List df},m+1=n->(∀j (t:j<g.length),Jt s m (us.getD j .ID) g[j])->(∀j (t:j<its'.length),Jt s m (ws.getD j .ID) its'[j])->∀j (i:j<g.toArray.size) (o:j<its'.toArray.size),R' A.in1 s g.toArray[j] its'.toArray[j] (cO (us.getD j .ID) (ws.getD j .ID)):=λ{m us ws g its'} e k k' j i o=>r m e (k j i) (k' j o) (by change A.units+1+m < _;lia);cases h with
 |ID =>
  cases h' with
  |ID=>show⟨.none_none,.none_none⟩
  |bl=>show⟨.none_bool _,.none_bool _⟩
  |int=>show⟨.none_int _ _,.none_int _ _⟩
  |str=>show⟨.none_str _ _,.none_str _ _⟩
  |tup c k' d b=>show⟨.none_tuple b a,.none_tuple b a⟩
  |lst c k' d b=>show⟨.none_list b a,.none_list b a⟩
 |bl =>
  cases h' with
  |ID=>show⟨.bool_none _,.bool_none _⟩
  |bl=>show⟨.bool_bool _ _,.bool_bool _ _⟩
  |int=>show⟨.bool_int _ _ _,.bool_int _ _ _⟩
  |str=>show⟨.bool_str _ _ _,.bool_str _ _ _⟩
  |tup c k' d b=>show⟨.bool_tuple _ b a,.bool_tuple _ b a⟩
  |lst c k' d b=>show⟨.bool_list _ b a,.bool_list _ b a⟩
 |int =>
  cases h' with
  |ID=>show⟨.int_none _ _,.int_none _ _⟩
  |bl=>show⟨.int_bool _ _ _,.int_bool _ _ _⟩
  |int=>show⟨.int_int _ _ _ _,.int_int _ _ _ _⟩
  |str=>show⟨.int_str _ _ _ _,.int_str _ _ _ _⟩
  |tup c k' d b=>show⟨.int_tuple _ _ b a,.int_tuple _ _ b a⟩
  |lst c k' d b=>show⟨.int_list _ _ b a,.int_list _ _ b a⟩
 |str =>
  cases h' with
  |ID=>show⟨.str_none _ _,.str_none _ _⟩
  |bl=>show⟨.str_bool _ _ _,.str_bool _ _ _⟩
  |int=>show⟨.str_int _ _ _ _,.str_int _ _ _ _⟩
  |str=>show⟨.str_str _ _ _ _,.str_str _ _ _ _⟩
  |tup c k' d b=>show⟨.str_tuple _ _ b a,.str_tuple _ _ b a⟩
  |lst c k' d b=>show⟨.str_list _ _ b a,.str_list _ _ b a⟩
 |tup l k y p =>
  cases h' with
  |ID=>show⟨.tuple_none p a,.tuple_none p a⟩
  |bl=>show⟨.tuple_bool _ p a,.tuple_bool _ p a⟩
  |int=>show⟨.tuple_int _ _ p a,.tuple_int _ _ p a⟩
  |str=>show⟨.tuple_str _ _ p a,.tuple_str _ _ p a⟩
  |tup c k' d b=>rw[show cO (.tup _) (.tup _)=_ from F7 l c];show⟨.tuples p b a (go rfl k k'),.tuples p b a (go rfl k k')⟩
  |lst c k' d b=>show⟨.tuple_list p b a,.tuple_list p b a⟩
 |lst l k y p =>
  cases h' with
  |ID=>show⟨.list_none p a,.list_none p a⟩
  |bl=>show⟨.list_bool _ p a,.list_bool _ p a⟩
  |int=>show⟨.list_int _ _ p a,.list_int _ _ p a⟩
  |str=>show⟨.list_str _ _ p a,.list_str _ _ p a⟩
  |tup c k' d b=>show⟨.list_tuple p b a,.list_tuple p b a⟩
  |lst c k' d b =>
   rename_i us _ _ ws _ _;by_cases q:us.length=ws.length
   .rw[show cO (.lst us) (.lst ws)=_ from f9 q,l,<-ei];show⟨.lists p b (by simp;lia) a (go rfl k k'),.lists p b (by simp;lia) a (go rfl k k')⟩
   .rw[show cO (.lst us) (.lst ws)=cc from jf q];show⟨.lists_lengths p b (by simp;lia) a,.lists_lengths p b (by simp;lia) a⟩
def F8:∀{n:Nat}{u w:U}{x a:df}{A:M8},Jt s n u x->Jt s n w a->A.units+n<K4->R' A s x a (cO u w):=by
 intro n;induction n with
 |zero=>intro u w x a A h h' b;show tZ h (Ta (λm e=>by cases e) h h' b).1 λe=>by subst e;rw[h.inj h'];show h'.self
 |succ n c=>intro u w x a A h h' b;show tZ h (Ta (λm e=>by cases e;show c) h h' b).1 λe=>by subst e;rw[h.inj h'];show h'.self
def F9(h:Jt s n u x)(h':Jt s n w a)(b:A.units+n<K4):Y4 A s x a (cO u w)/\Ñ A s x a (!cO u w):=Ta (λm e=>by cases e;show F8) h h' b
end
end TM
namespace TM
open PySem L2 PyProof.Rows
abbrev IE(C:Ct)(m:M (Kd×U)):TE:=λσ H Q=>∃a:Cf,a.σ=σ/\a.H=H/\Ok C a/\W m a.st λr st'=>∀c v,c.σ=σ->c.st=st'->Ok C c->Nx a c->aQ C a c r.1 r.2 v->Q v c.H
abbrev JX(C:Ct)(m:M Bool):TT:=λσ H Q=>∃a:Cf,a.σ=σ/\a.H=H/\Ok C a/\W m a.st λb st'=>∀c,c.σ=σ->c.st=st'->Ok C c->Nx a c->Q b c.H
def cV(C:Ct)(a c:Cf):List (Kd×U)->List V->Prop
 |[],vs=>vs=[]
 |r::rs,vs=>∃v t,vs=v::t/\fZ C a c r.1 r.2 v/\cV C a c rs t/\(r.1=.own->∀(i:Nat) b d,rs[i]?=a5 b->t[i]?=a5 d->b.1=.own->d≠v)
abbrev J5(C:Ct)(m:M (List (Kd×U))):TA:=λσ H Q=>∃a:Cf,a.σ=σ/\a.H=H/\Ok C a/\W m a.st λrs st'=>∀c vs,c.σ=σ->c.st=st'->Ok C c->Nx a c->cV C a c rs vs->Q vs c.H
section
def PE.weak(h:PE X e t)(i:∀σ H Q,t' σ H Q->t σ H Q):PE X e t':=λpins s σ H Q I q=>h pins s σ H Q I (i σ H Q q)
def PT.weak(h:PT X e t)(i:∀σ H Q,t' σ H Q->t σ H Q):PT X e t':=λpins s σ H Q I q=>h pins s σ H Q I (i σ H Q q)
def bL{st:aw}:W (az rs) st Q↔aW rs st/\Q () st:=by
 constructor
 .rintro⟨a,st',e,h⟩;unfold az at e;split at e
  .cases e;show⟨by assumption,h⟩
  .cases e
 .rintro⟨b,c⟩;show⟨(),st,by unfold az;rw[ĝ b],c⟩
def dO{st:aw}:aW (r::rs) st↔aW [r] st/\aW rs st:=by
 have⟨k,u⟩:=r;cases k<;>simp[aW]
def fZ.t(h:fZ C a c k u v)(s:aW [(k,u)] c.st):aQ C a c k u v:=by
 cases k with
 |bor j=>show⟨s.1,h⟩
 |_=>show h
structure N'(C:Ct)(c0 c:Cf)(x y:Kd×U)(vx vy:V):Prop where
 hσ:c.σ=c0.σ
 ok:Ok C c
 nx:Nx c0 c
 rx:aQ C c0 c x.1 x.2 vx
 ry:aQ C c0 c y.1 y.2 vy
 ne:x.1=.own->y.1=.own->vy≠vx
def jg(h:fZ C j b k u v)(h':fZ C b c k' u' d):k=.own->k'=.own->d≠v:=by
 rintro rfl rfl e;obtain⟨r,f,_,_,_,g⟩:=h;obtain⟨l,i,a,_⟩:=h';obtain⟨o,ho,_⟩:=g.some;subst f;rw[i]at e;cases e;rw[ho]at a;cases a
def two{k:Kd×U->Kd×U->M β}{Post:β->aw->Prop}{f:df->df->Sem α}{Q':df->df->α->d4->Prop}(N:PE X a (IE C O))(Q:PE X b (IE C z))(I:Inv X pins d.σ d.H s)(T:Ok C d)
  (h:W (O >>= λx=>z >>= λy=>az [x,y] >>= λ_=>k x y) d.st Post)
  (Y:∀x y c g j v u s2,N' C d c x y g j->Inv X pins c.σ c.H s2->RelV g v->RelV j u->W (k x y) c.st Post->dV (eh X.prog X.w) X.A (f v u) (Q' v u) X.xe s2) :
  dV (eh X.prog X.w) X.A (vl a X.env) (λv s₁=>dV (eh X.prog X.w) X.A (vl b X.env) (λu s₂=>dV (eh X.prog X.w) X.A (f v u) (Q' v u) X.xe s₂) X.xe s₁) X.xe s:=by
 rw[ah]at h;show IG (N pins s d.σ d.H (λg B=>∃x e,e.H=B/\e.σ=d.σ/\Ok C e/\Nx d e/\aQ C d e x.1 x.2 g/\W (z >>= λy=>az [x,y] >>= λ_=>k x y) e.st Post) I ⟨d,rfl,rfl,T,h.mono λx st1 n e g o e2 p q r=>⟨x,e,rfl,o,p,q,r,by rw[e2];show n⟩⟩) ?_;rintro v s1 ⟨g,B,I1,rv,x,e,rfl,o,p,q,r,n⟩;rw[ah]at n;show IG (Q pins s1 d.σ e.H (λj D=>∃y i,i.H=D/\N' C d i x y g j/\W (k x y) i.st Post) I1 ⟨e,o,rfl,p,n.mono λy st2 l i j G e4 IS J L=>?_⟩) ?_
 .rw[ah,bL]at l;subst e4;rw[dO]at l;show⟨y,i,rfl,⟨G,IS,q.trans J,(r.w.on p J (G.trans o.symm)).t l.1.1,(L.from q),jg r.w L.w⟩,l.2⟩
 .rintro u s2 ⟨j,D,I2,ru,y,i,rfl,m,l⟩;have hs:i.σ=d.σ:=m.hσ;show Y x y i g j v u s2 m (by rw[hs];show I2) rv ru l
structure KP(C:Ct)(c0 c:Cf)(x:Kd×U)(vx:V):Prop where
 hσ:c.σ=c0.σ
 ok:Ok C c
 nx:Nx c0 c
 rx:aQ C c0 c x.1 x.2 vx
def one{k:Kd×U->M β}{Post:β->aw->Prop}{f:df->Sem α}{Q':α->d4->Prop}(l:PE X a (IE C m))(I:Inv X pins b.σ b.H s)(n:Ok C b)
  (h:W (m >>= λx=>k x) b.st Post)
  (o:∀x c d v s2,KP C b c x d->Inv X pins c.σ c.H s2->RelV d v->W (k x) c.st Post->dV (eh X.prog X.w) X.A (f v) Q' X.xe s2) :
  dV (eh X.prog X.w) X.A (vl a X.env) (λv p=>dV (eh X.prog X.w) X.A (f v) Q' X.xe p) X.xe s:=by
 rw[ah]at h;show IG (l pins s b.σ b.H (λd i=>∃x e,e.H=i/\KP C b e x d/\W (k x) e.st Post) I ⟨b,rfl,rfl,n,h.mono λx st1 g e d q r t u y=>⟨x,e,rfl,⟨q,t,u,y⟩,by rw[r];show g⟩⟩) ?_;rintro v s1 ⟨d,i,z,rv,x,e,rfl,j,g⟩;show o x e d v s1 j (by rw[j.hσ];show z) rv g
abbrev cB(C:Ct)(a:Cf)(Q:VK)(r:Kd×U)(st':aw):Prop:=∀c v,c.σ=a.σ->c.st=st'->Ok C c->Nx a c->aQ C a c r.1 r.2 v->Q v c.H
section
def cB.flat(h:cB C a Q (.loc,u) c.st)(b:c.σ=a.σ)(d:Ok C c)(n:Nx a c)(r:Rep C c.S c.H u v):Q v c.H:=h c v b rfl d n r
def cB.list(h:cB C a Q (.own,.lst us) c.st)(b:c.σ=a.σ)(d:Ok C c)(n:Nx a c)(r:aq C c.S c.H us vs)(p:d7)(e:c.H p=b8):Q (.ref p) (upd c.H p (.lst vs)):=by
 have⟨f,g,i⟩:=d.newList n e r;show h {c with H:=upd c.H p (.lst vs)} _ b rfl f g i
def cB.tup(h:cB C a Q (.loc,.tup us) c.st)(b:c.σ=a.σ)(d:Ok C c)(n:Nx a c)(r:aq C c.S c.H us vs)(p:d7)(e:c.H p=b8):Q (.ref p) (upd c.H p (.tup vs)):=by
 have⟨f,g,i⟩:=d.DN n e r;show h {c with H:=upd c.H p (.tup vs)} _ b rfl f g i
def cB.tupK(h:cB C d Q (kE k,.tup us) c.st)(e:c.σ=d.σ)(a:Ok C c)(n:Nx d c)(r:aq C (SK C c k) c.H us vs)(p:d7)(f:c.H p=b8):Q (.ref p) (upd c.H p (.tup vs)):=by
 have⟨g,b⟩:=a.lay (o:=.tup vs) f;show h {c with H:=upd c.H p (.tup vs)} _ e rfl g (n.trans b) (aQ.item ?_);cases k<;>show⟨p,vs,rfl,Ju.of ay,by first|show r.mv (a.MX b)|show r.mv (a.mv b)⟩
def dz(h:dM k us=bD)(r:aq C (SK C c k) c.H us vs):aq C c.S c.H us vs:=by
 cases k with
 |any=>show r.I0 (by simpa[dM,isAny] using h)
 |_=>show r
end
def DX(k k':Kd):∀a,SK C c k a->SK C c (kT k k') a:=by
 intro a h;cases k<;>cases k'<;>first|show h|show .inr h
def AU(k k':Kd):∀a,SK C c k' a->SK C c (kT k k') a:=by
 intro a h;cases k<;>cases k'<;>first|show h|show .inr h
def F_(k k':Kd):kE (kT k k')=kT k k':=by cases k<;>cases k'<;>rfl
def AV:KH X (OH .Add) (λx y H Q=>∃l b xs c,x=.ref l/\y=.ref b/\Jh X.K H l xs/\Jh X.K H b c/\xs.length+c.length<=cK/\∀p,H p=b8->Q (.ref p) (upd H p (.lst (xs++c)))):=by
 intro pins s σ H x y v u Q I m o h;have⟨l,b,xs,c,rfl,rfl,t,w,hz,q⟩:=h;cases m;cases o;have⟨d,r,A,z⟩:=I.list t;have⟨e,f,B,N⟩:=I.list w;have hl:=r.length;have O:=f.length;obtain⟨⟨cls,dd,data,C⟩,ho,g,n,i⟩:=A.isList;obtain⟨⟨T,D,data2,G⟩,j,k,J,a⟩:=B.isList;simp only at g i k a;subst g i k a;show V9 ⟨_,ho,rfl⟩ ⟨_,j,rfl⟩ noFill_list_add seq_list_add PySem.F.slot_list_add PySem.F.entry_list_add (PySem.F.args_list_add_2 _ _)
   (list_addW l b d.toArray e.toArray n J dd D C G (by rw[ei,ei];lia)) ⟨ho,j,?_⟩
 have L:d.toArray++e.toArray=(d++e).toArray:=by simp
 rw[L];show⟨.ref _,_,I.HW (t':=s.toks) (r.append f) (by rw[ia];lia),rfl,q _ I.fresh⟩
end
section
variable{X:Cx}{C:Ct}{pins:List (d7×Obj)}{s:d4}{c0 c:Cf}{Q:VK}
def xW:KH X (OH .Add) (λx y H Q=>∃a b e,x=.ref a/\y=.ref b/\Ju X.K H a []/\Ju X.K H b e/\Q (.ref b) H):=by
 intro pins s σ H x y v u Q I k l h;have⟨a,b,e,rfl,rfl,m,o,q⟩:=h;cases k;cases l;obtain⟨D,p,r,_⟩:=I.tuple m;obtain⟨t,G,p2,_⟩:=I.tuple o;cases p;obtain⟨⟨cls,dd,data,w⟩,ho,f,n,g⟩:=id r;obtain⟨⟨J,z,data2,A⟩,i,j,B,d⟩:=id p2;simp only at f g j d;subst f g j d;show V9 ⟨_,ho,rfl⟩ ⟨_,i,rfl⟩ Xc Y2 PySem.F.slot_tuple_add PySem.F.entry_tuple_add (PySem.F.args_tuple_add_2 _ _)
   (tuple_addW0 a b _ t.toArray n B dd z w A (by rfl)) ⟨ho,i,.ref b,H,I,rfl,q⟩
abbrev QQ.op:QQ->Z6
 |.add=>.Add|.sub=>.Sub|.mul=>.Mult|.N5=>.FloorDiv|.mod=>.Mod|.pow=>.Pow
def fb(h:rM f a b=a5 r):∃i j o,a=.int i/\b=.int j/\f i j=a5 o/\r=(.loc,.int o):=by
 unfold rM at h;split at h
 .rw[et]at h;have⟨o,e,rfl⟩:=h;show⟨_,_,o,rfl,rfl,e,rfl⟩
 .cases h
def DY(T:C.K=X.K)(t:N' C c0 c x y g l)(I:Inv X pins c.σ c.H s)(z:RelV g v)(B:RelV l u)(h:LA op x y=a5 r)(q:cB C c0 Q r c.st):
  dV (eh X.prog X.w) X.A (OH op.op v u) (EP X pins c.σ Q) X.xe s:=by
 obtain⟨m,d,n,D,ty,_⟩:=t;cases op with
 |add =>
  have h:xN x y=a5 r:=h;unfold xN at h;split at h
  .have ex:=D.int d;have e:=ty.int d;cases h;show cu pins s c.σ c.H g l v u Q I z B ⟨_,_,ex,e,q.flat m d n rfl⟩
  .have ex:=D.str d;have e:=ty.str d;split at h
   .cases h;show rf pins s c.σ c.H g l v u Q I z B ⟨_,_,ex,e,by assumption,q.flat m d n rfl⟩
   .cases h
  .have⟨a,vs,ex,N,G⟩:=D.list d;have⟨b,ws,e,O,J⟩:=ty.list d;split at h
   .rename_i L;cases h;show AV pins s c.σ c.H g l v u Q I z B ⟨a,b,vs,ws,ex,e,T▸N,T▸O,by rw[<-G.len,<-J.len];show L.1,λp Y=>q.list m d n ((dz L.2.1 G).append (dz L.2.2 J)) p Y⟩
   .cases h
  .rename_i k xs k' ys _ _;have⟨a,vs,ex,N,G⟩:=D.tuple d;have⟨b,ws,e,O,J⟩:=ty.tuple d;have LO:=N;have OJ:=O;rw[T]at LO OJ;split at h
   .rename_i L;cases h;have m1:aq C (SK C c (kT k k')) c.H xs vs:=G.mv (.up (DX k k'));have m2:aq C (SK C c (kT k k')) c.H ys ws:=J.mv (.up (AU k k'));have q':cB C c0 Q (kE (kT k k'),.tup (xs++ys)) c.st:=by rw[F_];show q
    by_cases e1:vs=[]
    .subst e1;show xW pins s c.σ c.H g l v u Q I z B ⟨a,b,ws,ex,e,LO,OJ,?_⟩;show q' c (.ref b) m rfl d n (aQ.item ⟨b,ws,rfl,O,?_⟩);have:xs=[]:=by have:=m1.len;simpa using this
     rw[this];show m2
    .show Ao pins s c.σ c.H g l v u Q I z B ⟨a,b,vs,ws,ex,e,LO,OJ,e1,by rw[<-G.len,<-J.len];show L,λe2=>?_,λ_ p Y=>q'.tupK m d n (m1.append m2) p Y⟩;subst e2;show q' c (.ref a) m rfl d n (aQ.item ⟨a,vs,rfl,N,?_⟩);have:ys=[]:=by have:=m2.len;simpa using this
     rw[this,rr];show m1
   .cases h
  .cases h
 |sub =>
  have⟨i,j,o,ex,e,f,rfl⟩:=fb h;have ex:=(ex▸D).int d;have e:=(e▸ty).int d;cases f;show ra pins s c.σ c.H g l v u Q I z B ⟨_,_,ex,e,q.flat m d n rfl⟩
 |mul =>
  have⟨i,j,o,ex,e,f,rfl⟩:=fb h;have ex:=(ex▸D).int d;have e:=(e▸ty).int d;unfold AI at f;split at f
  .cases f;show kD pins s c.σ c.H g l v u Q I z B ⟨_,_,ex,e,by assumption,q.flat m d n rfl⟩
  .cases f
 |N5 =>
  have⟨i,j,o,ex,e,f,rfl⟩:=fb h;have ex:=(ex▸D).int d;have e:=(e▸ty).int d;unfold AJ at f;split at f
  .cases f;show Ai pins s c.σ c.H g l v u Q I z B ⟨_,_,ex,e,by assumption,q.flat m d n rfl⟩
  .cases f
 |mod =>
  have⟨i,j,o,ex,e,f,rfl⟩:=fb h;have ex:=(ex▸D).int d;have e:=(e▸ty).int d;unfold AK at f;split at f
  .cases f;show eM pins s c.σ c.H g l v u Q I z B ⟨_,_,ex,e,by assumption,q.flat m d n rfl⟩
  .cases f
 |pow =>
  have⟨i,j,o,ex,e,f,rfl⟩:=fb h;have ex:=(ex▸D).int d;have e:=(e▸ty).int d;unfold AL at f;split at f
  .cases f;show nW pins s c.σ c.H g l v u Q I z B ⟨_,_,ex,e,by assumption,q.flat m d n rfl⟩
  .cases f
def AW(d:C.K=X.K)(f:PE X a (IE C g))(i:PE X b (IE C j)):PE X (.BinOp a k.op b pos) (IE C (g >>= λx=>j >>= λy=>az [x,y] >>= λ_=>M.IM (LA k x y))):=by
 rintro pins s σ H Q I ⟨c0,rfl,rfl,l,h⟩;show wpAny_BinOp (two f i I l h λx y c p A v u s2 t m n o w=>?_);have⟨r,e,q⟩:=bG.mp w;show IG (DY d t m n o e q) λ_ _ z=>by rw[t.hσ]at z;show z
abbrev N6.op:N6->ë
 |.eq=>.Eq|.ne=>.NotEq|.lt=>.Lt|.le=>.LtE|.gt=>.Gt|.ge=>.GtE|.isin=>.In|.IH=>.NotIn|.is=>.Is|.S7=>.IsNot
def Ga{neg:Bool}(I:Inv X pins c.σ c.H s)(m:C.K=X.K)(N:X.A.units+60<K4){S:d7->Prop}(o:Rep C S c.H x n)(r:RelV n v)(t:aq C S c.H i vs)
  (ha:Jh C.K c.H a vs\/Ju C.K c.H a vs) (u:J3 50 x=bD) (z:eS 50 i=bD) {Q:df->d4->Prop} (q:Q (.bool (if neg then !(i.any λy=>cO y x) else i.any λy=>cO y x)) s) :
  dV (eh X.prog X.w) X.A (Pb (if neg then .NotIn else .In) v (.ref a)) Q X.xe s:=by
 have B:=Jt.of I m 50 x n v u o r;have go:∀d:List df,Vals vs d->∃e:df->Bool,(∀y,y∈d.toArray->R' X.A.in1 s y v (e y))/\d.toArray.any e=i.any λy=>cO y x:=by
  intro d rv;obtain⟨l,k,_⟩:=Jt.vJ (Jt.of I m 50) z t rv
  classical
  have q:∀j (b:j<d.length),cn (∃w,Jt s 50 w d[j]/\cO w x=bD)=cO (i.getD j .ID) x:=λj b=>by
   rw[D7,decide_eq_true_iff];show⟨λ⟨w,f,g⟩=>by rw[<-f.inj (k j b)];show g,λh=>⟨_,k j b,h⟩⟩
  show⟨λy=>cn (∃w,Jt s 50 w y/\cO w x=bD),λy D=>?_,?_⟩
  .have⟨j,b,e⟩:=QC (show y∈d by simpa using D);subst e;change R' _ _ _ _ (decide _);rw[q j b];show F8 (k j b) B (by change X.A.units+1+50 < _;lia)
  .rw[D7];simp only[List.any_toArray,R_];constructor
   .rintro⟨y,G,h⟩;have⟨j,b,rfl⟩:=QC G;rw[q j b]at h;show⟨_,Jq (l▸b),by simpa[l▸b] using h⟩
   .rintro⟨w,J,L⟩;have⟨j,b,rfl⟩:=QC J;show⟨_,Jq (l▸b),by rw[q j (l▸b)];simpa[b] using L⟩
 rcases ha with ha|ha
 .obtain⟨d,rv,p,_⟩:=tY I (m▸ha);have⟨e,f,g⟩:=go d rv;cases neg with
  |false=>show SeqAt.in_listAt e p f (by rw[g];show q)
  |true=>show SeqAt.notIn_listAt e p f (by rw[g];show q)
 .rw[m]at ha;obtain⟨d,rv,p,_⟩:=I.tuple ha;have⟨e,f,g⟩:=go d rv;cases neg with
  |false=>show SeqAt.in_tupleAt e p f (by rw[g];show q)
  |true=>show SeqAt.notIn_tupleAt e p f (by rw[g];show q)
end
section
theorem cW:∀{us:List U}{ss:List Str},strsOf us=a5 ss->us=ss.map .str
 |[],ss,h=>by cases h;rfl
 |.str x::us,ss,h=>by
  simp only[strsOf,et]at h;have⟨t,a,rfl⟩:=h;rw[cW a];rfl
 |.ID::_,_,h=>by cases h
 |.bl _::_,_,h=>by cases h
 |.int _::_,_,h=>by cases h
 |.tup _::_,_,h=>by cases h
 |.lst _::_,_,h=>by cases h
 |.IA _ _::_,_,h=>by cases h
theorem jE:∀{us:List U}{ns:List Int},intsOf us=a5 ns->us=ns.map .int
 |[],ns,h=>by cases h;rfl
 |u::us,ns,h=>by
  cases u<;>first|(cases h;done)|skip
  rename_i x;have h':(intsOf us).map (x::·)=a5 ns:=h;rw[et]at h';have⟨ms,e,rfl⟩:=h';rw[jE e];rfl
theorem aq.ints{S:d7->Prop}:∀{ns:List Int}{vs:List V},aq C S H (ns.map .int) vs->vs=ns.map V.int
 |[],vs,h=>h
 |n::ns,vs,h=>by
  have⟨v,r,rfl,a,b⟩:=h;rw[aq.ints b];have:v=.int n:=a;rw[this];rfl
theorem lj:∀{us:List U}{ss:List Bool},gO us=a5 ss->us=ss.map .bl
 |[],ss,h=>by cases h;rfl
 |.bl x::us,ss,h=>by
  simp only[gO,et]at h;have⟨t,a,rfl⟩:=h;rw[lj a];rfl
 |.ID::_,_,h=>by cases h
 |.str _::_,_,h=>by cases h
 |.int _::_,_,h=>by cases h
 |.tup _::_,_,h=>by cases h
 |.lst _::_,_,h=>by cases h
 |.IA _ _::_,_,h=>by cases h
theorem aq.U_{S:d7->Prop}:∀{xs:List Bool}{vs:List V},aq C S H (xs.map .bl) vs->vs=xs.map V.bl
 |[],vs,h=>h
 |x::xs,vs,h=>by
  have⟨v,r,rfl,a,b⟩:=h;rw[aq.U_ b];have:v=.bl x:=a;rw[this];rfl
abbrev DZ(X:Cx)(pins:List (d7×Obj))(c:Cf)(b:Bool)(v:df)(s':d4):Prop:=v=.bool b/\Inv X pins c.σ c.H s'
def ka(o:KH X f r)(I:Inv X pins c.σ c.H s)(e:RelV a v)(g:RelV d u)(h:r a d c.H λx H'=>x=.bl b/\H'=c.H):
  dV (eh X.prog X.w) X.A (f v u) (DZ X pins c b) X.xe s :=
 IG (o pins s c.σ c.H a d v u _ I e g h) λw s' i=>by
  have⟨z,H',j,r,k,l⟩:=i;subst k l;show⟨r,j⟩
def aQ.dict(g:Ok C c)(h:aQ C i c k (.IA ks us) v):∃a kvs,v=.ref a/\c.H a=a5 (.dK kvs)/\kvs.map (·.1)=ks.map mx/\aq C (SK C c k) c.H us (kvs.map (·.2)):=by
 cases k with
 |own=>obtain⟨r,e,_,_,_,kvs,b,d,f⟩:=h;show⟨r,kvs,e,b,d,f⟩
 |bor j=>obtain⟨r,e,_,_,_,kvs,b,d,f⟩:=g.rootOf h.1 h.2;show⟨r,kvs,e,b,d,f⟩
 |io=>show h.elim
 |Iw=>show h.elim
 |_=>obtain⟨a,e,_,kvs,b,d,f⟩:=h;show⟨a,kvs,e,b,d,f⟩
theorem dP{S:d7->Prop}:∀{ks:List Str}{us:List U}{kvs:List (Key×V)},kvs.map (·.1)=ks.map mx->aq C S H us (kvs.map (·.2)) ->
  (∀u,dW ks us x=a5 u->∃v,dI kvs (mx x)=a5 v/\Rep C S H u v)/\(dI kvs (mx x)).isSome=cn (x∈ks)
 |[],us,kvs,a,b=>by
  have:kvs=[]:=by simpa using a
  subst this;show⟨λu h=>by cases us<;>simp[dW]at h,by simp[dI]⟩
 |k::ks,us,[],a,b=>by simp at a
 |k::ks,[],p::kvs,a,b=>by simp[aq]at b
 |k::ks,j::us,p::kvs,a,b=>by
  have⟨v,r,e,d,f⟩:=b;rw[d8]at e;cases e;rw[d8,d8,P6]at a;have⟨g,i⟩:=dP (x:=x) a.2 f;by_cases hk:k=x
  .subst hk;show⟨λu h=>?_,?_⟩
   .simp[dW]at h;subst h;show⟨p.2,eV a.1,d⟩
   .rw[eV a.1];simp
  .have c:¬p.1=mx x:=by rw[a.1];intro z;show hk (UR z)
   show⟨λu h=>?_,?_⟩
   .simp[dW,hk]at h;have⟨v,e,q⟩:=g u h;show⟨v,by rw[eW c];show e,q⟩
   .rw[eW c,i];simp[ri hk]
def Rep.k8{S:d7->Prop}(h:Rep C S H u v):cn (v=.ID)=k8 u:=by
 cases u with
 |ID=>have:v=.ID:=h;subst this;rfl
 |bl b=>have:v=.bl b:=h;subst this;rfl
 |int b=>have:v=.int b:=h;subst this;rfl
 |str b=>have:v=.str b:=h;subst this;rfl
 |IA ks us=>obtain⟨a,rfl,_⟩:=h;rfl
 |exc c=>obtain⟨a,rfl,_⟩:=h;rfl
 |_=>obtain⟨a,vs,rfl,_⟩:=h;rfl
def jh{c:Bool}(h:xP f a b=a5 c):∃i j,a=.int i/\b=.int j/\f i j=c:=by
 unfold xP at h;split at h
 .cases h;show⟨_,_,rfl,rfl,rfl⟩
 .cases h
def ll(hP:C.P=X.prog)(hw:C.w=X.w)(o:C.K=X.K)(N:X.A.units+60<K4)(t:N' C c0 c x y O vy)(I:Inv X pins c.σ c.H s)(f:RelV O v)(g:RelV vy u)(h:bK Q x.2 y.2=a5 b):
  dV (eh X.prog X.w) X.A (Pb Q.op v u) (DZ X pins c b) X.xe s:=by
 obtain⟨hσ,d,n,l,ty,_⟩:=t;have⟨kx,B⟩:=x;have⟨ky,p⟩:=y
 dsimp only at h l ty
 have D:∀neg:Bool,∀q,xO B p=a5 q->dV (eh X.prog X.w) X.A (Pb (if neg then .NotIn else .In) v u) (DZ X pins c (if neg then !q else q)) X.xe s:=by
  intro neg q h;have J:=l.read d;have T:=ty.read d;unfold xO at h;split at h
  .have⟨a,vs,rfl,m,G⟩:=T;cases g;unfold N8 at h;split at h
   .rename_i e;cases h;show Ga I o N J f G (.inl m.sq) e.1 e.2 ⟨by cases neg<;>rfl,I⟩
   .cases h
  .have⟨a,vs,rfl,m,G⟩:=T;cases g;unfold N8 at h;split at h
   .rename_i e;cases h;show Ga I o N J f G (.inr m) e.1 e.2 ⟨by cases neg<;>rfl,I⟩
   .cases h
  .cases h;have ex:O=_:=J;have⟨a,kvs,rfl,m,G,h3⟩:=ty.dict d;cases g;subst ex;have hs:=λz:Str=>(dP (x:=z) G h3).2;cases neg with
   |false=>show FU ⋯ I (ft.k (k:=mx _) m) f λs' L=>⟨by rw[hs];rfl,L⟩
   |true=>show tw ⋯ I (ft.k (k:=mx _) m) f λs' L=>⟨by rw[hs];rfl,L⟩
  .cases h
 have Y:∀{r:Bool},(if J3 50 B=bD/\J3 50 p=bD then a5 r else b8)=a5 b->(J3 50 B=bD/\J3 50 p=bD)/\r=b:=λh=>by
  split at h
  .rename_i e;cases h;show⟨e,rfl⟩
  .cases h
 cases Q with
 |eq =>
  have⟨e,rfl⟩:=Y h;show(F9 (n:=50) (.of I o _ _ _ _ e.1 (l.read d) f) (.of I o _ _ _ _ e.2 (ty.read d) g) ⋯).1 _ _ _ _ ⟨rfl,I⟩
 |ne =>
  have⟨e,rfl⟩:=Y h;show(F9 (n:=50) (.of I o _ _ _ _ e.1 (l.read d) f) (.of I o _ _ _ _ e.2 (ty.read d) g) ⋯).2 _ _ _ _ ⟨rfl,I⟩
 |lt=>have⟨i,j,rfl,rfl,rfl⟩:=jh h;show ka FG I f g ⟨_,_,l.int d,ty.int d,rfl,rfl⟩
 |gt=>have⟨i,j,rfl,rfl,rfl⟩:=jh h;show ka FH I f g ⟨_,_,l.int d,ty.int d,rfl,rfl⟩
 |ge=>have⟨i,j,rfl,rfl,rfl⟩:=jh h;show ka FI I f g ⟨_,_,l.int d,ty.int d,rfl,rfl⟩
 |isin=>show D cc b h
 |IH =>
  have⟨q,m,rfl⟩:=et.mp (show(xO B p).map (!·)=a5 b from h);show D bD q m
 |is =>
  have h:(if k8 p=bD then a5 (k8 B) else b8)=a5 b:=h;split at h
  .rename_i hn;cases h;cases p with
   |ID=>show ka Dk I f g ⟨ty.ID d,by rw[(l.read d).k8],rfl⟩
   |_=>cases hn
  .cases h
 |_=>cases h
def AX(f:C.P=X.prog)(g:C.w=X.w)(i:C.K=X.K)(j:X.A.units+60<K4)(k:PE X a (IE C l))(m:PE X b (IE C n))(o:L5 d.op b=cc):
  PE X (.Compare a [d.op] [b] pos) (IE C (l >>= λx=>n >>= λy=>az [x,y] >>= λ_=>M.IM (bK d x.2 y.2) >>= λc=>pure (.loc,.bl c))):=by
 rintro pins s σ H Q I ⟨N,rfl,rfl,p,h⟩;show ć (two k m I p h λx y c O T v u s2 t B D G w=>?_) o;rw[ah]at w;have⟨r,e,q⟩:=bG.mp w;rw[ak]at q;show IG (ll f g i j t B D G e) λz s' J=>?_;have⟨e,L⟩:=J;subst e;show⟨.bl r,c.H,by rw[<-t.hσ];show L,rfl,q c (.bl r) t.hσ rfl t.ok t.nx rfl⟩
def AY(g:C.P=X.prog)(i:C.w=X.w)(j:C.K=X.K)(k:X.A.units+60<K4)(l:PE X a (IE C m))(n:PE X b (IE C o))(p:L5 d.op b=cc):
  PT X (.Compare a [d.op] [b] pos) (JX C (m >>= λx=>o >>= λy=>az [x,y] >>= λ_=>M.IM (bK d x.2 y.2))):=by
 rintro pins s σ H Q I ⟨B,rfl,rfl,D,h⟩;show ZU (two (f:=λv u=>Pb d.op v u) (Q':=λ_ _ c s=>dV (eh X.prog X.w) X.A (Ĉ c) (TP X pins B.σ Q) X.xe s) l n I D h λx y c T Y v u s2 t G J L w=>?_) p;have⟨r,e,q⟩:=bG.mp w;show IG (ll g i j k t G J L e) λz s' N=>?_;have⟨e,O⟩:=N;subst e;show IQ ⟨c.H,by rw[<-t.hσ];show O,q c t.hσ rfl t.ok t.nx⟩
end
section
abbrev Cq(C:Ct)(a:Cf)(Q:Bool->Hp->Prop)(b:Bool)(st':aw):Prop:=∀c,c.σ=a.σ->c.st=st'->Ok C c->Nx a c->Q b c.H
def rO(c:a.σ=b.σ)(d:Ok C a)(n:Nx b a)(h:W m a.st (cB C b Q)):IE C m b.σ a.H Q :=
 ⟨a,c,rfl,d,h.mono λr st e f v g i j k l=>e f v g i j (n.trans k) (l.from n)⟩
def xX(c:a.σ=b.σ)(d:Ok C a)(n:Nx b a)(h:W m a.st (Cq C b Q)):JX C m b.σ a.H Q :=
 ⟨a,c,rfl,d,h.mono λr st e f g i j k=>e f g i j (n.trans k)⟩
def aM(b:Ok C a)(h:W (d >>= k) a.st Post)
  (hz:∀x c v,KP C a c x v->W (k x) c.st Post->Z v c.H):IE C d a.σ a.H Z:=by
 rw[ah]at h;show⟨a,rfl,rfl,b,h.mono λx st1 e f g i j l m n=>hz x f g ⟨i,l,m,n⟩ (by rw[j];show e)⟩
def dX(d:Ok C a)(h:W (e >>= k) a.st Post)
  (hz:∀b c,c.σ=a.σ->Ok C c->Nx a c->W (k b) c.st Post->Z b c.H):JX C e a.σ a.H Z:=by
 rw[ah]at h;show⟨a,rfl,rfl,d,h.mono λx st1 f g i j l m=>hz x g i l m (by rw[j];show f)⟩
abbrev Gb(m:M (Kd×U))(x:Kd×U):M (Kd×U):=match x.2 with
 |.bl bD=>m
 |.bl cc=>pure (.loc,.bl cc)
 |_=>M.fail
abbrev Ge(x:Kd×U):M (Kd×U):=match x.2 with
 |.bl c=>pure (.loc,.bl !c)
 |_=>M.fail
def snd_and(g:PE X a (IE C i))(j:PE X (.BoolOp .And (b::rest) pos) (IE C l)):PE X (.BoolOp .And (a::b::rest) pos) (IE C (i >>= Gb l)):=by
 show PE.weak (C4 g j) ?_;rintro σ H Q ⟨o,rfl,rfl,m,h⟩;show aM m h λx c v t w=>?_;have⟨k,u⟩:=x;have⟨f,d,n,r⟩:=t;unfold Gb at w;split at w
 .rename_i e
  dsimp only at e r
  subst e;show⟨bD,r.bl d,by rw[ĝ rfl];show rO f d n w⟩
 .rename_i e
  dsimp only at e r
  subst e;rw[ak]at w;show⟨cc,r.bl d,by rw[Ğ i1];show w c (.bl cc) f rfl d n rfl⟩
 .show(bt.mp w).elim
def AZ(d:PE X a (IE C f)):PE X (.UnaryOp .Not a pos) (IE C (f >>= Ge)):=by
 show PE.weak (C5 d) ?_;rintro σ H Q ⟨j,rfl,rfl,g,h⟩;show aM g h λx c v t w=>?_;have⟨k,u⟩:=x;have⟨i,b,n,r⟩:=t;unfold Ge at w;split at w
 .rename_i e
  dsimp only at e r
  subst e;rw[ak]at w;show⟨_,r.bl b,w c (.bl _) i rfl b n rfl⟩
 .show(bt.mp w).elim
def A0(g:PT X d (JX C i))(j:PE X a (IE C k))(l:PE X b (IE C m)):PE X (.IfExp d a b pos) (IE C (i >>= λp=>if p=bD then k else m)):=by
 show PE.weak (wG g j l) ?_;rintro σ H Q ⟨q,rfl,rfl,o,h⟩;show dX o h λp c e f n w=>?_;cases p with
 |true=>rw[ĝ rfl]at w ⊢;show rO e f n w
 |false=>rw[Ğ i1]at w ⊢;show rO e f n w
def A4(d:PT X a (JX C e)):PT X (.UnaryOp .Not a pos) (JX C (e >>= λb=>pure !b)):=by
 show PT.weak (C2 d) ?_;rintro σ H Q ⟨j,rfl,rfl,f,h⟩;show dX f h λp c g i n w=>?_;rw[ak]at w;show w c g rfl i n
def A5(g:PT X a (JX C i))(j:PW X (.BoolOp .And (b::rest) pos) (JX C k)):PW X (.BoolOp .And (a::b::rest) pos) (JX C (i >>= λp=>if p=bD then k else pure cc)):=by
 have l:=CZ g j;rintro m pins s σ H Q I ⟨d,rfl,rfl,o,h⟩;show l m pins s d.σ d.H Q I (dX o h λp c e f n w=>?_);cases p with
 |true=>rw[ĝ rfl]at w ⊢;show xX e f n w
 |false=>rw[Ğ i1]at w ⊢;rw[ak]at w;show w c e rfl f n
def D0(g:PT X a (JX C i))(j:PW X (.BoolOp .Or (b::rest) pos) (JX C k)):PW X (.BoolOp .Or (a::b::rest) pos) (JX C (i >>= λp=>if p=bD then pure bD else k)):=by
 have l:=Fs g j;rintro m pins s σ H Q I ⟨d,rfl,rfl,o,h⟩;show l m pins s d.σ d.H Q I (dX o h λp c e f n w=>?_);cases p with
 |true=>rw[ĝ rfl]at w ⊢;rw[ak]at w;show w c e rfl f n
 |false=>rw[Ğ i1]at w ⊢;show xX e f n w
def t5{us:List α}{vs:List β}(h:us.length=vs.length):(!us.isEmpty)=!vs.isEmpty:=by
 cases us<;>cases vs<;>simp_all
def iL(j:PE X a (IE C l))(i:C.K=X.K)(m:∀b,isTrue a X.env b=(do let v <-b;Yl a.pos;Mz [v] (Ĉ v))):PT X a (JX C (l >>= λx=>M.IM (vF x.2))):=by
 show PT.weak (wM j m) ?_;rintro σ H Q ⟨y,rfl,rfl,o,h⟩;show aM o h λx c v t w=>?_;have⟨k,u⟩:=x;have⟨s,d,n,r⟩:=t;have⟨p,e,q⟩:=bG.mp w
 dsimp only at e r
 show⟨p,?_,q c s rfl d n⟩;unfold vF at e;split at e
 .cases e;rw[r.bl d];rfl
 .cases e;have⟨a,vs,rfl,f,g⟩:=r.list d;show .inl ⟨vs,i▸f,t5 g.len⟩
 .cases e;have⟨a,vs,rfl,f,g⟩:=r.tuple d;rw[i]at f;show .inr (.inl ⟨vs,f,t5 g.len⟩)
 .split at e
  .cases e;rw[r.str d];show⟨by assumption,rfl⟩
  .cases e
 .cases e
def xY(l:C.P=X.prog)(m:C.w=X.w)(n:C.K=X.K)(o:X.A.units+60<K4)(O:PE X a (IE C T))(Y:PE X b (IE C mb))(hd:PE X d (IE C md))(hm:lastMarks [o1.op,o2.op] [b,d]=cc):
  PT X (.Compare a [o1.op,o2.op] [b,d] pos) (JX C (T >>= λx=>mb >>= λy=>az [x,y] >>= λ_=>M.IM (bK o1 x.2 y.2) >>= λp=>if p=bD then(md >>= λz=>az [y,z] >>= λ_=>M.IM (bK o2 y.2 z.2)) else pure cc)):=by
 rintro pins s σ H Q I ⟨r,rfl,rfl,ok,h⟩;show isTrue_chain (IG (two O Y I ok h λx y c vx vy v u s2 t I2 rx B w=>?_) λv s1 h1=>test_link (IG h1 λu s2 f=>f)) hm;rw[ah]at w;have⟨p,e,q⟩:=bG.mp w;show IG (ll l m n o t I2 rx B e) λz s' Td=>?_;have⟨e,D⟩:=Td;subst e;show IQ ?_;cases p with
 |false =>
  rw[Ğ i1,ak]at q;show ite_ff ⟨c.H,by rw[<-t.hσ];show D,q c t.hσ rfl t.ok t.nx⟩
 |true =>
  rw[ĝ rfl,ah]at q;show ite_tt (test_last (IG (hd pins s' c.σ c.H (λj G=>∃z g,g.H=G/\N' C r g y z vy j/\W (M.IM (bK o2 y.2 z.2)) g.st (Cq C r Q)) D ⟨c,rfl,rfl,t.ok,q.mono λz st2 f g j J k IS L N=>?_⟩) ?_))
  .rw[ah,bL]at f;subst k;rw[dO]at f;show⟨z,g,rfl,⟨J.trans t.hσ,IS,t.nx.trans L,(t.ry.w.on t.ok L J).t f.1.1,N.from t.nx,jg t.ry.w N.w⟩,f.2⟩
  .rintro zv s3 ⟨j,G,I3,rz,z,g,rfl,i,f⟩;have⟨q',e',w'⟩:=bG.mp f;show IG (ll (pins:=pins) l m n o i (by rw[i.hσ,<-t.hσ];show I3) B rz e') λz' s4 Te=>?_;have⟨k,I4⟩:=Te;subst k;show IQ ⟨g.H,by rw[<-i.hσ];show I4,w' g i.hσ rfl i.ok i.nx⟩
end
section
def cV.from(n:Nx a b):cV C b c rs vs->cV C a c rs vs:=by
 intro h;induction rs generalizing vs with
 |nil=>show h
 |cons r rs d=>have⟨v,t,e,f,g,i⟩:=h;show⟨v,t,e,f.from n,d g,i⟩
def cV.get{i:Nat}(h:cV C b c rs vs)(e:rs[i]?=a5 r)(a:vs[i]?=a5 v):fZ C b c r.1 r.2 v:=by
 induction rs generalizing vs i with
 |nil=>simp at e
 |cons j rs d =>
  have⟨k,t,rfl,f,g,l⟩:=h;cases i with
  |zero=>simp at e a;subst e a;show f
  |succ i=>show d g (by simpa using e) (by simpa using a)
def A6:PA X [] (J5 C (pure [])):=by
 rintro pos pins s σ H Q I ⟨a,rfl,rfl,b,h⟩;rw[ak]at h;show eN pos pins s a.σ a.H Q I (h a [] rfl rfl b (Nx.refl a) rfl)
def xZ(g:PE X e (IE C m))(j:PA X es (J5 C ms))(hs:gs (e::es) X.env=(cc,vl e X.env)::gs es X.env):PA X (e::es) (J5 C (m >>= λr=>ms >>= λrs=>pure (r::rs))):=by
 rintro pos pins s σ H Q I ⟨a,rfl,rfl,k,h⟩;show cF g j hs pos pins s a.σ a.H Q I (aM k h λr l v t w=>?_);rw[ah]at w;show⟨l,t.hσ,rfl,t.ok,w.mono λrs st2 b n vs c o p d f=>?_⟩;rw[ak]at b;show b n (v::vs) c o p (t.nx.trans d) ⟨v,vs,rfl,t.rx.w.on t.ok d (c.trans t.hσ.symm),f.from t.nx,λhk i y z q u x=>?_⟩;show jg t.rx.w (f.get q u) hk x
structure K9(C:Ct)(c0 c:Cf)(rs:List (Kd×U))(vs:List V):Prop where
 hσ:c.σ=c0.σ
 ok:Ok C c
 nx:Nx c0 c
 rep:cV C c0 c rs vs
 Oa:aW rs c.st
def args{k:List (Kd×U)->M β}{Post:β->aw->Prop}(f:PA X es (J5 C ms))(I:Inv X pins a.σ a.H s)(g:Ok C a)(h:W (ms >>= λrs=>az rs >>= λ_=>k rs) a.st Post)(pos:Pos):
  dV (eh X.prog X.w) X.A (ß (x3 pos (gs es X.env))) (λus s1=>∃rs c vs,K9 C a c rs vs/\Inv X pins c.σ c.H s1/\Vals vs us/\W (k rs) c.st Post) X.xe s:=by
 rw[ah]at h;show IG (f pos pins s a.σ a.H (λvs e=>∃rs c,c.H=e/\K9 C a c rs vs/\W (k rs) c.st Post) I ⟨a,rfl,rfl,g,h.mono λrs st1 b d vs i j l m n=>?_⟩) ?_
 .rw[ah,bL]at b;subst j;show⟨rs,d,rfl,⟨i,l,m,n,b.1⟩,b.2⟩
 .rintro us s1 ⟨vs,e,o,rv,rs,d,rfl,t,w⟩;show⟨rs,d,vs,t,by rw[t.hσ];show o,rv,w⟩
def K9.one(t:K9 C a c [r] vs):∃v,vs=[v]/\aQ C a c r.1 r.2 v:=by
 obtain⟨v,t',rfl,b,d,_⟩:=t.rep;cases d;show⟨v,rfl,b.t t.Oa⟩
def Ok.share(b:Ok C c)(g:C.H₀ r=b8)(h:∃o,c.H r=a5 o)(hl:st'.length=c.st.length)
  (d:∀(i:Nat) k u,st'[i]?=a5 (a5 (k,u))->(∃v,c.σ[i]?=a5 (a5 v)/\fY C (λa=>c.S a\/a=r) c.H k u v)/\(k.root=bD->c.st[i]?=a5 (a5 (k,u)))) (l:LL C {c with S:=λa=>c.S a\/a=r,st:=st' }) :
  Ok C {c with S:=λa=>c.S a\/a=r,st:=st' }:=by
 show⟨b.same,λa z=>?_,b.par,b.io,by rw[show({c with S:=λa=>c.S a\/a=r,st:=st' }:Cf).st.length=st'.length from rfl,hl];show b.len,λi k u e=>(d i k u e).1,λi j k k' u u' m hk f n p q s=>?_,l⟩
 .rcases z with z|rfl
  .show b.KO a z
  .show⟨g,h⟩
 .show b.inj i j k k' u u' m hk f ((d i k u n).2 hk) ((d j k' u' p).2 f) q s
def Ok.D3(s:Ok C d)(b:Ok C c)(n:Nx d c)(f:d.H r=b8)(g:¬c.R r)(t:c9 C c.S c.H r u):
  Ok C {c with S:=λa=>c.S a\/a=r}/\Nx d {c with S:=λa=>c.S a\/a=r}:=by
 obtain⟨o,ho,_⟩:=t.some;show⟨b.share (st':=c.st) (s.k7 f).1 ⟨o,ho⟩ rfl (λi k u e=>⟨?_,λ_=>e⟩) (b.dd.hs (.up λa=>.inl) λj a z=>⟨λq=>q.elim (b.root (.inr ⟨j,z⟩)).1 λe=>g (.inr ⟨j,e▸z⟩),λo q=>q⟩),⟨⟨n.keep,n.there,n.roots,λa z=>.inl (n.sub a z),λa z=>?_⟩⟩⟩
 .have⟨v,h,l⟩:=b.sl i k u e;have w:Mv c.S c.H (λa=>c.S a\/a=r) c.H:=.up λa=>.inl;show⟨v,h,l.mv w (.up λa z=>z.imp id .inl) λhk y m=>⟨?_,λo q=>q⟩⟩;obtain⟨A,p,x,_⟩:=l.rt hk;rw[m]at p;cases p;rintro(z|rfl)
  .show x z
  .show g (.inl ⟨i,k,u,hk,e,by rw[h,m]⟩)
 .rcases z with z|rfl
  .show n.new a z
  .show .inr (.inr f)
def Ok.x6(d:Ok C c)(n:Nx D c)(g:c.st[j]?=a5 (a5 (.own,u)))(h:c.σ[j]?=a5 (a5 (.ref r))):
  Ok C {c with S:=λa=>c.S a\/a=r,st:=c.st.set j (a5 (.loc,u))}/\Nx D {c with S:=λa=>c.S a\/a=r,st:=c.st.set j (a5 (.loc,u))}/\Rep C (λa=>c.S a\/a=r) c.H u (.ref r):=by
 have⟨T,f,l,m,Y,q2,G,x⟩:=d.sl j _ _ g;rw[h]at f;cases f;cases m;have y:Rep C (λa=>c.S a\/a=r) c.H u (.ref r):=x.rep (λa=>.inl) (.inr rfl);obtain⟨o,ho,_⟩:=x.some;have s:j<c.st.length:=(dt.mp g).1;have t:∀(i:Nat) k u',(c.st.set j (a5 (.loc,u)))[i]?=a5 (a5 (k,u'))->i≠j->c.st[i]?=a5 (a5 (k,u')):=λi k u' e ne=>by rw[hQ (ri ne)]at e;show e
 have I:c.R1 r:=⟨j,.own,u,rfl,g,h⟩
 have A:∀(i:Nat) (u':U),(c.st.set j (a5 (.loc,u)))[i]?=a5 (a5 (.Iw,u'))->c.st[i]?=a5 (a5 (.Iw,u')):=λi u' e=>by
  by_cases b:i=j
  .subst b;rw[d5 s]at e;cases e
  .show t i .Iw u' e b
 have b1:∀a,({c with S:=λa=>c.S a\/a=r,st:=c.st.set j (a5 (.loc,u))}:Cf).R1 a->c.R1 a:=λa J=>by
  have⟨i,k,u',hk,e,L⟩:=J;by_cases b:i=j
  .subst b;rw[d5 s]at e;cases e;cases hk
  .show⟨i,k,u',hk,t i k u' e b,L⟩
 have N:LL C {c with S:=λa=>c.S a\/a=r,st:=c.st.set j (a5 (.loc,u))}:=d.dd.of rfl (λi u' e=>⟨A i u' e,rfl⟩) (λa z=>.inl (b1 a z)) (.up λa=>.inl) λi a z=>⟨λq=>q.elim (d.root (.inr ⟨i,z⟩)).1 λe=>d.dd.d1 i a z (e▸I),λo q=>q⟩
 show⟨d.share (st':=c.st.set j (a5 (.loc,u))) G ⟨o,ho⟩ (by simp) (λi k u' e=>?_) N,⟨⟨n.keep,n.there,λa z=>?_,λa z=>.inl (n.sub a z),λa z=>?_⟩⟩,y⟩
 .by_cases b:i=j
  .subst b;rw[d5 s]at e;cases e;show⟨⟨.ref r,h,y⟩,λz=>nomatch z⟩
  .have w:=t i k u' e b;have⟨v,f,p⟩:=d.sl i k u' w;show⟨⟨v,f,p.mv (.up λa=>.inl) (.up λa z=>z.imp id .inl) λhk l m=>⟨?_,λo q=>q⟩⟩,λ_=>w⟩;obtain⟨QV,B,O,_⟩:=p.rt hk;rw[m]at B;cases B;rintro(z|rfl)
   .show O z
   .show b (d.inj i j k .own u' u l hk rfl w g (by rw[f,m]) h)
 .rcases z with z|⟨i,u',l,f,p,Q⟩
  .show n.roots a (.inl (b1 a z))
  .show n.roots a (.inr ⟨i,u',l,A i u' f,p,Q⟩)
 .rcases z with z|rfl
  .show n.new a z
  .rcases n.roots a (.inl ⟨j,.own,u,rfl,g,h⟩) with z|z
   .show .inr (.inl z)
   .show .inr (.inr z)
def gu(B:Ok C l)(b:Ok C c)(n:Nx l c)(d:fZ C l c r.1 r.2 v)(h:W (lift r) c.st Post):
  ∃(S':d7->Prop) (st':aw) (u:U),(∀a,c.S a->S' a)/\Ok C {c with S:=S',st:=st' }/\Nx l {c with S:=S',st:=st' }/\Rep C S' c.H u v/\Post u st' /\
   (∀a,S' a->c.S a\/v=.ref a/\(r.1=.own\/c.R a))/\∀a,({c with S:=S',st:=st' }:Cf).R a->c.R a:=by
 have⟨k,u⟩:=r;cases k with
 |own =>
  rw[show lift (.own,u)=pure u from rfl,ak]at h;have⟨r,e,D,O,G,y⟩:=d;have⟨m,o⟩:=Ok.D3 B b n D G y;show⟨_,c.st,u,λa=>.inl,m,o,by rw[e];show y.rep (λa=>.inl) (.inr rfl),h,λa z=>?_,λa z=>z⟩;rcases z with z|rfl
  .show .inl z
  .show .inr ⟨e,.inl rfl⟩
 |loc =>
  rw[show lift (.loc,u)=pure u from rfl,ak]at h;show⟨c.S,c.st,u,λa=>id,b,n,d,h,λa z=>.inl z,λa z=>z⟩
 |any =>
  rw[show lift (.any,u)=if I0 u=bD then pure u else M.fail from rfl]at h;split at h
  .rw[ak]at h;show⟨c.S,c.st,u,λa=>id,b,n,Rep.I0 (by assumption) d,h,λa z=>.inl z,λa z=>z⟩
  .show(bt.mp h).elim
 |bor j =>
  have⟨x,st',e,I⟩:=h;rw[show lift (.bor j,u) c.st=match c.st[j]? with|some (a5 (.own,u))=>a5 (Ex.ok u,c.st.set j (a5 (.loc,u)))|_=>b8 from rfl]at e;split at e
  .rename_i w f;cases e;obtain⟨Q,A,r,J,_⟩:=b.sl j _ _ f;have p:c.σ[j]?=a5 (a5 v):=d;rw[p]at A;cases A;subst J;have⟨m,o,q⟩:=b.x6 n f p;show⟨_,_,_,λa=>.inl,m,o,q,I,λa z=>?_,λa z=>?_⟩
   .rcases z with z|rfl
    .show .inl z
    .show .inr ⟨rfl,.inr (.inl ⟨j,.own,_,rfl,f,p⟩)⟩
   .rcases z with⟨i,k,u',hk,e,s⟩|⟨i,u',L,e,s,N⟩
    rotate_left 1
    .by_cases g:i=j
     .subst g;have t:i<c.st.length:=(dt.mp f).1;rw[d5 t]at e;cases e
     .rw[hQ (ri g)]at e;show .inr ⟨i,u',L,e,s,N⟩
    by_cases g:i=j
    .subst g;have t:i<c.st.length:=(dt.mp f).1;rw[d5 t]at e;cases e;cases hk
    .rw[hQ (ri g)]at e;show .inl ⟨i,k,u',hk,e,s⟩
  .cases e
 |_=>show d.elim
theorem iM:∀{rs:List (Kd×U)}{vs:List V}{c:Cf}{Post:List U->aw->Prop},Ok C b->Ok C c->Nx b c->cV C b c rs vs->W (da rs) c.st Post ->
  ∃(S':d7->Prop) (st':aw) (us:List U),(∀a,c.S a->S' a)/\Ok C {c with S:=S',st:=st' }/\Nx b {c with S:=S',st:=st' }/\aq C S' c.H us vs/\Post us st'
 |[],vs,c,Post,m,p,n,s,h=>by
  rw[show da []=pure [] from rfl,ak]at h;show⟨c.S,c.st,[],λa=>id,p,n,s,h⟩
 |r::rs,vs,c,Post,m,p,n,s,h=>by
  have⟨v,t,rfl,J,L,N⟩:=s;rw[show da (r::rs)=lift r >>= λu=>da rs >>= λus=>pure (u::us) from rfl,ah]at h;have⟨S1,st1,u,s1,O,Q,d,x,T,Y⟩:=gu m p n J h;rw[ah]at x;have P4:cV C b {c with S:=S1,st:=st1} rs t:=by
   clear h x;have y:∀(l:List (Kd×U)) (w:List V),cV C b c l w->(r.1=.own->∀(i:Nat) g j,l[i]?=a5 g->w[i]?=a5 j->g.1=.own->j≠v)->cV C b {c with S:=S1,st:=st1} l w:=by
    intro l;induction l with
    |nil=>intro w q _;show q
    |cons r2 l ih =>
     intro w q A;have⟨B,D,rfl,k,q2,q3⟩:=q;show⟨B,D,rfl,?_,ih D q2 (λhk i g j e1 e2 Jo=>A hk (i+1) g j (by simpa using e1) (by simpa using e2) Jo),q3⟩;have⟨k2,u2⟩:=r2;cases k2 with
     |own =>
      have⟨a,e,p1,p2,G,p4⟩:=k;show⟨a,e,p1,λz=>?_,λz=>G (Y a z),p4.mv (.up s1) λo q=>q⟩;rcases T a z with z|⟨z,z'|z'⟩
      .show p2 z
      .show A z' 0 _ B rfl rfl rfl (e.trans z.symm)
      .show G z'
     |loc=>show Rep.mv (.up s1) k
     |any=>show Rep.mv (.up λa z=>z.imp id (s1 a)) k
     |_=>show k
   show y rs t L N
  have⟨S2,st2,us,s2,IS,n2,f,I⟩:=iM (c:={c with S:=S1,st:=st1}) m O Q P4 x;rw[ak]at I;show⟨S2,st2,u::us,λa z=>s2 a (s1 a z),IS,n2,⟨v,t,rfl,d.mv (.up s2),f⟩,I⟩
def A7(i:PA X es (J5 C ms)):PE X (.Tuple es p pos) (IE C (ms >>= λrs=>az rs >>= λ_=>da rs >>= λus=>if us.length<=cK then pure (.loc,.tup us) else M.fail)):=by
 rintro pins s σ H Q I ⟨j,rfl,rfl,f,h⟩;show wpAny_Tuple_spliced (IG (args i I f h pos) λus s1 k=>?_);have⟨rs,c,vs,t,g,rv,w⟩:=k;rw[ah]at w;have⟨S',st',ws,q,l,m,a,d⟩:=iM f t.ok t.nx t.rep w;split at d
 .rename_i hz;rw[ak]at d;have hl:vs.length<=cK:=by rw[<-a.len];show hz
  show⟨by rw[<-rv.length];show hl,?_⟩;have n:c.H s1.heap.objs.size=b8:=g.IB.fresh (gj _);have o:Inv X pins j.σ c.H s1:=by rw[<-t.hσ];show g
  show⟨.ref s1.heap.objs.size,upd c.H s1.heap.objs.size (.tup vs),o.laid (t':=s1.toks) (λb u e=>cL _ e) (gj _) ⟨hl,us,rv,ZN _ _⟩,rfl,?_⟩;show cB.tup (c:={c with S:=S',st:=st' }) d t.hσ l m a _ n
 .show(bt.mp d).elim
def A8(i:PA X es (J5 C ms)):PE X (.List es pos) (IE C (ms >>= λrs=>az rs >>= λ_=>da rs >>= λus=>if us.length<=cK then pure (.own,.lst us) else M.fail)):=by
 rintro pins s σ H Q I ⟨j,rfl,rfl,f,h⟩;show wpAny_List_spliced (IG (args i I f h pos) λus s1 k=>?_);have⟨rs,c,vs,t,g,rv,w⟩:=k;rw[ah]at w;have⟨S',st',ws,p,l,m,a,d⟩:=iM f t.ok t.nx t.rep w;split at d
 .rename_i hz;rw[ak]at d;have hl:vs.length<=cK:=by rw[<-a.len];show hz
  show⟨by rw[<-rv.length];show hl,?_⟩;have n:c.H s1.heap.objs.size=b8:=g.IB.fresh (gj _);have o:Inv X pins j.σ c.H s1:=by rw[<-t.hσ];show g
  show⟨.ref s1.heap.objs.size,upd c.H s1.heap.objs.size (.lst vs),o.laid (t':=s1.toks) (λb u e=>cL _ e) (gj _) ⟨hl,us,0,rv,ez _ rfl⟩,rfl,?_⟩;show cB.list (c:={c with S:=S',st:=st' }) d t.hσ l m a _ n
 .show(bt.mp d).elim
end
section
def oG(f:X.N[i]?=a5 x)(g:Kt X.env.scope x)(l:(x==("__debug__":Str))=cc)(m:(x==("__classdict__":Str))=cc):PE X (.Name x pos) (IE C (dg i)):=by
 show PE.weak (bU f g l m) ?_;rintro σ H Q ⟨b,rfl,rfl,c,r,st',e,h⟩;unfold dg at e;split at e
 .cases e
 .rename_i k u n hs;cases e;have⟨v,d,a⟩:=c.sl i k u hs;show⟨v,d,h b v rfl rfl c (Nx.refl b) ?_⟩;by_cases hk:k.root=bD
  .rw[ĝ hk];show⟨⟨k,hk,hs⟩,d⟩
  .rw[Ğ hk];cases k with
   |loc=>show a
   |any=>show a
   |bor j=>show a.elim
   |Iw=>show(n rfl).elim
   |_=>show absurd rfl hk
 .cases e
def kb(h:PE X e (tC v))(r:∀S H,Rep C S H u v):PE X e (IE C (pure (.loc,u))):=by
 show PE.weak h ?_;rintro σ H Q ⟨a,rfl,rfl,b,h⟩;rw[ak]at h;show h a v rfl rfl b (Nx.refl a) (r _ _)
def cB.root(h:cB C b Q (.own,u) c.st)(e:c.σ=b.σ)(d:Ok C c)(n:Nx b c)(p:d7)(a:c.H p=b8)(r:c9 C c.S (upd c.H p o) p u):Q (.ref p) (upd c.H p o):=by
 have⟨f,g⟩:=d.lay (o:=o) a;have⟨k,i,l,m,j⟩:=d.k7 a;show h {c with H:=upd c.H p o} _ e rfl f (n.trans g) ⟨p,rfl,n.none a,i,j,r⟩
def x8(d:C.P=X.prog)(e:C.w=X.w)(r:Bool):PE X (.Dict [] [] pos) (IE C (pure (.own,.IA [] []))):=by
 show PE.weak pK ?_;rintro σ H Q ⟨a,rfl,rfl,b,h⟩ p c;rw[ak]at h;show cB.root h rfl b (Nx.refl a) p c ⟨[],ay,rfl,rfl⟩
def aq.JD{S:d7->Prop}(h:aq C S H us vs)(e:JD us i=a5 u):∃v,L2.JD vs i=a5 v/\Rep C S H u v:=by
 unfold L2.JD at e ⊢;rw[h.len]at e;cases q:L9 vs.length i with
 |none=>rw[q]at e;cases e
 |some j =>
  rw[q]at e;show h.get e
def D4(G:C.K=X.K)(L:X.A.units+60<K4)(hs:n9 b)(t:N' C J c x y f g)(I:Inv X pins c.σ c.H s)(l:RelV f v)(m:RelV g u)(h:gE x y.2=a5 r)(q:cB C J Q r c.st):
  dV (eh X.prog X.w) X.A (Vd a b v u) (EP X pins c.σ Q) X.xe s:=by
 obtain⟨o,d,n,p,ty,-⟩:=t;have⟨N,O⟩:=y
 dsimp only at h ty
 unfold gE at h;split at h
 .rename_i k xs i;rw[et]at h;have⟨w,e,rfl⟩:=h;have⟨a',vs,ex,j,z⟩:=p.list d;have⟨vw,B,D⟩:=z.JD e;show Ap a b pins s c.σ c.H f g v u Q I l m ⟨a',vs,i,vw,ex,ty.int d,G▸j,B,q c vw o rfl d n (aQ.item D)⟩ (hs _ _)
 .rename_i k xs i;rw[et]at h;have⟨w,e,rfl⟩:=h;have⟨a',vs,ex,j,z⟩:=p.tuple d;have⟨vw,B,D⟩:=z.JD e;rw[G]at j;show n_ a b pins s c.σ c.H f g v u Q I l m ⟨a',vs,i,vw,ex,ty.int d,j,B,q c vw o rfl d n (aQ.item D)⟩ (hs _ _)
 .split at h
  .rw[et]at h;have⟨w,e,rfl⟩:=h;show oa a b pins s c.σ c.H f g v u Q I l m ⟨_,_,w,p.str d,ty.int d,by assumption,e,q c _ o rfl d n rfl⟩ (hs _ _)
  .cases h
 .cases h
def A9(d:C.K=X.K)(f:X.A.units+60<K4)(hs:n9 b)(g:PE X a (IE C i))(j:PE X b (IE C k)):PE X (.Subscript a b pos) (IE C (i >>= λx=>k >>= λy=>az [x,y] >>= λ_=>M.IM (gE x y.2))):=by
 rintro pins s σ H Q I ⟨p,rfl,rfl,l,h⟩;show Õ (two g j I l h λx y c B D v u s2 t m n o w=>?_);have⟨r,e,q⟩:=bG.mp w;show IG (D4 d f hs t m n o e q) λ_ _ z=>by rw[t.hσ]at z;show z
def aq.cut{S:d7->Prop}(h:aq C S H us vs)(lo a:Option Int):aq C S H (TM.cut us lo a) (uY vs lo a):=by
 unfold TM.cut uY;rw[h.len];show(h.drop _).take _
end
section
end
section
variable{X:Cx}{C:Ct}{pins:List (d7×Obj)}{s:d4}{c0 c c1:Cf}
variable{a b d e:l'}{es:List l'}{m ma mb md:M (Kd×U)}{ms:M (List (Kd×U))}{ta tb:M Bool}{pos p p2:Pos}
abbrev tO(C:Ct)(m:M (Option Int)):TO:=λσ H Q=>∃c0:Cf,c0.σ=σ/\c0.H=H/\Ok C c0/\W m c0.st λi st'=>∀c,c.σ=σ->c.st=st'->Ok C c->Nx c0 c->Q i c.H
def vK:PO X b8 (tO C (pure b8)):=by
 rintro pins s σ H Q I ⟨c0,rfl,rfl,f,h⟩;rw[ak]at h;show Am pins s c0.σ c0.H Q I (h c0 rfl rfl f (Nx.refl c0))
def vL(f:PE X a (IE C ma)):PO X (a5 a) (tO C (ma >>= DV)):=by
 rintro pins s σ H Q I ⟨c0,rfl,rfl,g,h⟩;show An f pins s c0.σ c0.H Q I (aM g h λx c v t w=>?_);have⟨k,u⟩:=x;unfold DV at w;split at w
 .rename_i i e
  dsimp only at e
  subst e;rw[ak]at w;show⟨i,t.rx.int t.ok,w c t.hσ rfl t.ok t.nx⟩
 .show(bt.mp w).elim
def D5{lo f:Option Int}(l:C.K=X.K)(i:c.σ=c0.σ)(g:Ok C c)(n:Nx c0 c)(j:aQ C c0 c x.1 x.2 k)(h:qc x lo f=a5 r)(q:cB C c0 Q r c.st):
  FQ X.K k lo f c.H Q\/FW k lo f c.H Q:=by
 unfold qc at h;split at h
 .split at h
  .rename_i o;cases h;have⟨a',vs,ex,t,u⟩:=j.list g;show .inl ⟨a',vs,ex,l▸t,λp v=>q.list i g n ((dz o u).cut lo f) p v⟩
  .cases h
 .split at h
  .cases h;show .inr ⟨_,j.str g,by assumption,q.flat i g n rfl⟩
  .cases h
 .cases h
def A_{lo g:Option l'}(n:C.K=X.K)(o:PE X a (IE C ma))(hl:PO X lo (tO C ml))(u:PO X g (tO C y)):
  PE X (.Subscript a (.Slice lo g b8 p2) pos) (IE C (ma >>= λx=>ml >>= λl=>y >>= λh=>az [x] >>= λ_=>M.IM (qc x l h))):=by
 show PE.weak (wO (Na.or Aq DB) o hl u) ?_;rintro σ H Q ⟨c0,rfl,rfl,z,h⟩;show aM z h λx c v t w=>?_;rw[ah]at w;show⟨c,t.hσ,rfl,t.ok,w.mono λl st2 i A B D G I=>?_⟩;subst D;rw[ah]at i;show⟨A,B,rfl,G,i.mono λT Y f J j L N O=>?_⟩;subst L;rw[ah,bL]at f;have⟨r,e,q⟩:=bG.mp f.2;have k:Nx c J:=I.trans O;show D5 n j N (t.nx.trans k) ((t.rx.w.on t.ok k (j.trans t.hσ.symm)).t f.1) e q
end
section
variable{X:Cx}{C:Ct}{pins:List (d7×Obj)}{s:d4}{c0 c c1:Cf}
variable{a b d e:l'}{es:List l'}{m ma mb md:M (Kd×U)}{ms:M (List (Kd×U))}{ta tb:M Bool}{pos p p2:Pos}
abbrev Bf.val:Bf->df
 |.len=>.builtin "len"|.sorted=>.builtin "sorted"|.repr=>.builtin "repr"|.max=>.builtin "max"|.min=>.builtin "min"|.all=>.builtin "all"|.any=>.builtin "any"
 |.list=>.type "list"|.tuple=>.type "tuple"|.str=>.type "str"|.int=>.type "int"
abbrev Bf.name:Bf->Str
 |.len=>"len"|.sorted=>"sorted"|.repr=>"repr"|.max=>"max"|.min=>"min"|.all=>"all"|.any=>"any"
 |.list=>"list"|.tuple=>"tuple"|.str=>"str"|.int=>"int"
def call_of(g:iu X f r)(I:Inv X pins c.σ c.H s)(rv:Vals vs us)(h:r vs c.H Q):dV (eh X.prog X.w) X.A (NQ f us) (EP X pins c.σ Q) X.xe s:=g pins s c.σ c.H vs us Q I rv h
def cq(h:iI f rs=a5 r):∃x,rs=[x]/\f x=a5 r:=by
 unfold iI at h;split at h
 .show⟨_,rfl,h⟩
 .cases h
def Cr(G:X.calm=bD)(z:C.K=X.K)(L:X.A.guards=a5 [])(N:X.A.units+60<K4)(t:K9 C c0 c rs vs)(I:Inv X pins c.σ c.H s)(rv:Vals vs us)(h:Kp f rs=a5 r)(q:cB C c0 Q r c.st):
  dV (eh X.prog X.w) X.A (NQ f.val us) (EP X pins c.σ Q) X.xe s:=by
 have o:=t.hσ;have g:=t.ok;have n:=t.nx;cases f with
 |len =>
  have⟨x,rfl,hz⟩:=cq (f:=λx=>(DO x.2).map λ(n:Nat)=>(Kd.loc,U.int (n:Int))) h;clear h;have h:=hz;clear hz;rw[et]at h;have⟨k,e,rfl⟩:=h;have⟨v,rfl,l⟩:=t.one;have⟨O,D⟩:=x;unfold DO at e;split at e
  .rename_i xs u;have u:D=.lst xs:=u;subst u;cases e;have⟨a',ws,ex,i,j⟩:=l.list g;rw[j.len]at q;show call_of iy I rv ⟨a',ws,by rw[ex],.inl (z▸i),q.flat o g n rfl⟩
  .rename_i xs u;have u:D=.tup xs:=u;subst u;cases e;have⟨a',ws,ex,i,j⟩:=l.tuple g;rw[z]at i;rw[j.len]at q;show call_of iy I rv ⟨a',ws,by rw[ex],.inr i,q.flat o g n rfl⟩
  .rename_i xs u;have u:D=.str xs:=u;subst u;split at e
   .cases e;show call_of oh I rv ⟨_,by rw[l.str g],by assumption,q.flat o g n rfl⟩
   .cases e
  .cases e
 |sorted =>
  have⟨x,rfl,hz⟩:=cq (f:=DP) h;clear h;have h:=hz;clear hz;have⟨v,rfl,l⟩:=t.one;unfold DP at h;split at h
  .rw[r3]at h;have⟨ss,e,h⟩:=h;have B:=cW e;subst B;have⟨a',ws,ex,i,j⟩:=l.list g;rw[aq.strs]at j;subst j;split at h
   .cases h;show call_of jB I rv ⟨a',ss,by rw[ex],.inl (z▸i),by assumption,λp y=>q.list o g n (aq.strs.mpr rfl) p y⟩
   .cases h
  .obtain⟨a',kvs,ex,i,j,_⟩:=l.dict g;split at h
   .cases h;show call_of (jd G) I rv ⟨a',kvs,_,by rw[ex],i,j,by assumption,λp y=>q.list o g n (aq.strs.mpr rfl) p y⟩
   .cases h
  .rw[r3]at h;have⟨ss,e,h⟩:=h;have B:=cW e;subst B;have⟨a',ws,ex,i,j⟩:=l.tuple g;rw[z]at i;rw[aq.strs]at j;subst j;split at h
   .cases h;show call_of jB I rv ⟨a',ss,by rw[ex],.inr i,by assumption,λp y=>q.list o g n (aq.strs.mpr rfl) p y⟩
   .cases h
  .cases h
 |list =>
  have⟨x,rfl,hz⟩:=cq (f:=DQ) h;clear h;have h:=hz;clear hz;have⟨v,rfl,l⟩:=t.one;unfold DQ at h;split at h
  .have⟨a',ws,ex,i,j⟩:=l.list g;split at h
   .cases h;show call_of iz I rv ⟨a',ws,by rw[ex],.inl (z▸i),λp y=>q.list o g n (dz (by assumption) j) p y⟩
   .cases h
  .have⟨a',ws,ex,i,j⟩:=l.tuple g;rw[z]at i;split at h
   .cases h;show call_of iz I rv ⟨a',ws,by rw[ex],.inr i,λp y=>q.list o g n (dz (by assumption) j) p y⟩
   .cases h
  .cases h
 |tuple =>
  have⟨x,rfl,hz⟩:=cq (f:=DR) h;clear h;have h:=hz;clear hz;have⟨v,rfl,l⟩:=t.one;unfold DR at h;split at h
  .have⟨a',ws,ex,i,j⟩:=l.list g;cases h;show call_of gJ I rv ⟨a',ws,by rw[ex],.inl ⟨z▸i,λp y=>q.tupK o g n j p y⟩⟩
  .have⟨a',ws,ex,i,j⟩:=l.tuple g;have J:=i;rw[z]at J;cases h;show call_of gJ I rv ⟨a',ws,by rw[ex],.inr ⟨J,q c (.ref a') o rfl g n (aQ.item ⟨a',ws,rfl,i,j⟩)⟩⟩
  .cases h
 |str =>
  have⟨x,rfl,hz⟩:=cq (f:=AM) h;clear h;have h:=hz;clear hz;have⟨v,rfl,l⟩:=t.one;unfold AM at h;split at h
  .split at h
   .cases h;show call_of nX I rv ⟨_,by rw[l.int g],by assumption,q.flat o g n rfl⟩
   .cases h
  .cases h
 |all =>
  have⟨x,rfl,hz⟩:=cq (f:=DS) h;clear h;have h:=hz;clear hz;have⟨v,rfl,l⟩:=t.one;unfold DS at h;split at h
  .rw[et]at h;have⟨bs,e,rfl⟩:=h;have B:=lj e;subst B;have⟨a',ws,ex,i,j⟩:=l.list g;have:=j.U_;subst this;show call_of (xf G) I rv ⟨a',bs,by rw[ex],z▸i,q.flat o g n rfl⟩
  .cases h
 |_=>cases h
def Ba{id:String}(g:X.calm=bD)(i:C.K=X.K)(j:X.A.guards=a5 [])(k:X.A.units+60<K4)(l:f.val=.builtin id)(n:Gl X x)(o:X.mg x=b8)(u:t4 x=a5 (.builtin id))(v:x≠"__name__")(y:(x==("__debug__":Str))=cc)
  (B:PA X (e::es) (J5 C ms)) (D:gs (e::es) X.env=(cc,vl e X.env)::gs es X.env) (G:(x3 pos (gs es X.env)).any (·.1)=cc) :
  PE X (.Call (.Name x p) (e::es) [] pos) (IE C (ms >>= λrs=>az rs >>= λ_=>M.IM (Kp f rs))):=by
 rintro pins s σ H Q I ⟨c0,rfl,rfl,J,h⟩;show qs (dh I n o u ?_ v y);show Pd (IG (args B I J h pos) λus s1 ⟨rs,c,vs,t,L,rv,w⟩=>?_) D G;have⟨r,e,q⟩:=bG.mp w;have z:=Cr g i j k t L rv e q;rw[l,t.hσ]at z;show z
def Bb(g:X.calm=bD)(i:C.K=X.K)(j:X.A.guards=a5 [])(k:X.A.units+60<K4)(l:f.val=.type T)(n:Gl X x)(o:X.mg x=b8)(u:t4 x=a5 (.type T))(v:x≠"__name__")(y:(x==("__debug__":Str))=cc)
  (B:PA X (e::es) (J5 C ms)) (D:gs (e::es) X.env=(cc,vl e X.env)::gs es X.env) (G:(x3 pos (gs es X.env)).any (·.1)=cc) :
  PE X (.Call (.Name x p) (e::es) [] pos) (IE C (ms >>= λrs=>az rs >>= λ_=>M.IM (Kp f rs))):=by
 rintro pins s σ H Q I ⟨c0,rfl,rfl,J,h⟩;show qs (dh I n o u ?_ v y);show Mu (IG (args B I J h pos) λus s1 ⟨rs,c,vs,t,L,rv,w⟩=>?_) D G;have⟨r,e,q⟩:=bG.mp w;have z:=Cr g i j k t L rv e q;rw[l,t.hσ]at z;show z
abbrev KR.name:KR->Str
 |.str=>"str"|.list=>"list"|.tuple=>"tuple"|.int=>"int"|.bool=>"bool"
abbrev KR.nm:KR->String
 |.str=>"str"|.list=>"list"|.tuple=>"tuple"|.int=>"int"|.bool=>"bool"
def Bc(T:KR):t4 T.name=a5 (.type T.nm)/\T.name≠"__name__"/\(T.name==("__debug__":Str))=cc:=by
 cases T<;>show⟨by decide +kernel,by decide +kernel,by decide +kernel⟩
def iN(T:KR):Zx (.type T.nm)=pure (.type "type"):=by cases T<;>kernel_rfl
def j8(T:KR):Of (.type "str") (.type T.nm)=pure (cn (T=.str)):=by cases T<;>(rw[Jd];kernel_rfl)
def sub_int(T:KR):Of (.type "int") (.type T.nm)=pure (cn (T=.int)):=by cases T<;>(rw[Jd];kernel_rfl)
def ne_str{T:KR}(h:¬T=.str):(ro "str"==ro T.nm)=cc:=by cases T<;>first|show absurd rfl h|decide
def ne_int{T:KR}(h:¬T=.int):(ro "int"==ro T.nm)=cc:=by cases T<;>first|show absurd rfl h|decide
def qj(T:KR):Of (.type "list") (.type T.nm)=pure (cn (T=.list)):=by cases T<;>(rw[Jd];kernel_rfl)
def t6(T:KR):Of (.type "tuple") (.type T.nm)=pure (cn (T=.tuple)):=by cases T<;>(rw[Jd];kernel_rfl)
def Bd{T:KR}(h:¬T=.list):(ro "list"==ro T.nm)=cc:=by cases T<;>first|show absurd rfl h|decide
def D8{T:KR}(h:¬T=.tuple):(ro "tuple"==ro T.nm)=cc:=by cases T<;>first|show absurd rfl h|decide
def D9{b:Bool}(z:C.K=X.K)(t:KP C c0 c x v)(I:Inv X pins c.σ c.H s)(rv:RelV v val)(h:oF x.2 T=a5 b)(q:∀j,Q (.bool b) {s with toks:=j}):
  dV (eh X.prog X.w) X.A (NQ (.builtin "isinstance") [val,.type T.nm]) Q X.xe s:=by
 have⟨k,u⟩:=x;have⟨O,i,n,r⟩:=t;have D:Q (.bool b) s:=q s.toks
 dsimp only at h r
 have g:∀{B:String},b=bD->s.TypeIs val B->Of (.type B) (.type T.nm)=pure bD->dV (eh X.prog X.w) X.A (NQ (.builtin "isinstance") [val,.type T.nm]) Q X.xe s:=λe G hs=>by
  subst e;show ą G (iN T) hs D
 unfold oF at h;split at h
 .cases h;have e:v=_:=r.str i;subst e;have⟨j,rfl⟩:=rv;by_cases f:T=.str
  .subst f;show g (by simp) (Ys s _ j) (j8 .str)
  .rw[ğ f]at q;show T5 (isinstance_false_str (ne_str f) (iN T) (by rw[j8,ğ f])) (q _)
 .cases h;have e:v=_:=r.int i;subst e;have⟨j,rfl⟩:=rv;by_cases f:T=.int
  .subst f;show g (by simp) (typeIs_int s _ j) (sub_int .int)
  .rw[ğ f]at q;show T5 (isinstance_false_int (ne_int f) (iN T) (by rw[sub_int,ğ f])) (q _)
 .cases h;have e:v=_:=r.bl i;subst e;cases rv;show g rfl (PySem.typeIs_bool s _) (by rw[Jd];kernel_rfl)
 .cases h;have e:v=_:=r.bl i;subst e;cases rv;show g rfl (PySem.typeIs_bool s _) (by rw[Jd];kernel_rfl)
 .cases h;have⟨a',ws,rfl,l,J⟩:=r.list i;cases rv;rw[z]at l;obtain⟨L,_,N,_⟩:=I.list l;obtain⟨o,ho,y,_⟩:=N.isList;by_cases f:T=.list
  .subst f;show g (by simp) ⟨o,ho,y⟩ (qj .list)
  .rw[ğ f]at q;show T5 (isinstance_false_list (Bd f) (iN T) (by rw[qj,ğ f])) ⟨⟨o,ho,y⟩,q _⟩
 .cases h;have⟨a',ws,rfl,l,J⟩:=r.tuple i;cases rv;rw[z]at l;obtain⟨L,_,⟨o,ho,y,_⟩,_⟩:=I.tuple l;by_cases f:T=.tuple
  .subst f;show g (by simp) ⟨o,ho,y⟩ (t6 .tuple)
  .rw[ğ f]at q;show T5 (isinstance_false_tuple (D8 f) (iN T) (by rw[t6,ğ f])) ⟨⟨o,ho,y⟩,q _⟩
 .cases h
def t7(g:C.K=X.K)(i:Gl X "isinstance")(j:X.mg "isinstance"=b8)(k:Gl X T.name)(l:X.mg T.name=b8)(n:PE X a (IE C ma))(hs:gs [a,.Name T.name p2] X.env=(cc,vl a X.env)::gs [.Name T.name p2] X.env):
  PE X (.Call (.Name "isinstance" p) [a,.Name T.name p2] [] pos) (IE C (ma >>= λx=>M.IM (oF x.2 T) >>= λb=>pure (.loc,.bl b))):=by
 rintro pins s σ H Q I ⟨c0,rfl,rfl,o,h⟩;have⟨q,r,u⟩:=Bc T;show qs (dh I i j (show t4 "isinstance"=a5 (.builtin "isinstance") by decide +kernel) ?_ (by decide +kernel) (by decide +kernel));show Pd (IG (cF n (cF (tf (v:=.ty T.nm) k l q rfl r u) eN) hs pos pins s c0.σ c0.H (λvs H'=>∃x c v b,KP C c0 c x v/\c.H=H'/\vs=[v,.ty T.nm]/\oF x.2 T=a5 b/\cB C c0 Q (.loc,.bl b) c.st) I ?_) λus s1 ⟨vs,N,f,y,x,c,v,b,t,e,A,B,w⟩=>?_) hs (by rfl)
 .show aM o h λx c v t w=>?_;rw[ah]at w;have⟨b,e,w⟩:=bG.mp w;rw[ak]at w;show⟨x,c,v,b,t,rfl,rfl,e,w⟩
 .subst e A;have⟨O,u2,rfl,D,G⟩:=vals2 y;cases G;have J:Inv X pins c.σ c.H s1:=by rw[t.hσ];show f
  have z:=D9 (Q:=EP X pins c0.σ Q) g t J D B λL=>⟨.bl b,c.H,f.tok L,rfl,w c (.bl b) t.hσ rfl t.ok t.nx rfl⟩
  show z
@[reducible]def Mo(P:u7)(w:DD)(K:PySem.W.Frag)(H:Hp)(f:d7->Prop):Ct:=⟨P,w,K,H,f,λ_=>False,λ_ _=>False⟩
structure Back(C:Ct)(H H':Hp)(S':d7->Prop)(k:Kd)(u:U)(v:V):Prop where
 same:eO H H'
 new:∀a,S' a->H a=b8/\∃o,H' a=a5 o
 own:k=.own->∃r,v=.ref r/\H r=b8/\¬S' r/\c9 C S' H' r u
 loc:k=.loc->Rep C S' H' u v
 any:k=.any->Rep C (PS C S') H' u v
abbrev spT(P:u7)(w:DD)(K:PySem.W.Frag)(F:List U->Option (Ex (Kd×U)))(g:Nat):Sp:=λvs H Q E=>vs.length=g/\∃us r f,F us=a5 r/\(∀a,f a->J' H a)/\aq (Mo P w K H f) f H us vs/\match r with
 |.ok (k,u)=>(k=.own\/k=.loc\/k=.any)/\∀v H' S',Back (Mo P w K H f) H H' S' k u v->Q v H'
 |.exc c=>∀C H',PySem.W.nsIn K i5 c=a5 (a5 (.ref C))->eO H H'->E (.ref C) b8 H'
def K9.read(t:K9 C c0 c rs vs):aq C (J' c.H) c.H (rs.map (·.2)) vs:=by
 have f:∀(l:List (Kd×U)) (w:List V),cV C c0 c l w->aW l c.st->aq C (J' c.H) c.H (l.map (·.2)) w:=by
  intro l;induction l with
  |nil=>intro w h _;show h
  |cons r l g =>
   intro w h hs;obtain⟨v,t',rfl,i,j,_⟩:=h;rw[dO]at hs;show⟨v,t',rfl,(i.t hs.1).read t.ok,g t' j hs.2⟩
 show f rs vs t.rep t.Oa
def Back.here(hk:k=.own\/k=.loc)(i:c.σ=c0.σ)(f:Ok C c)(n:Nx c0 c)(q:j.Eqv C)(h:Back j c.H H' S' k u v)(w:cB C c0 Q (k,u) c.st):Q v H':=by
 have⟨l,t⟩:=f.grow (S':=λa=>c.S a\/S' a) h.same (λa z=>z.imp id λz=>h.new a z) λa=>.inl;have x:=n.trans t;show w {c with H:=H',S:=λa=>c.S a\/S' a} v i rfl l x ?_;rcases hk with rfl|rfl
 .have⟨r,e,g,y,A⟩:=h.own rfl;have⟨G,B,I,J,D⟩:=f.k7 g;show⟨r,e,n.none g,λz=>z.elim B y,D,(A.cg q).mv (.up λa=>.inr) λo q=>q⟩
 .show((h.loc rfl).cg q).mv (.up λa=>.inr)
def x9(o:C.P=X.prog)(x:C.w=X.w)(y:C.K=X.K)(L:Γ f=F)(hk:∀us k u,F us=a5 (.ok (k,u))->(k=.own\/k=.loc\/k=.any)/\us.length=B)
  (G:iw X.prog X.w X.K X.mg X.base (Nk X.prog X.w) k fa N ps (spT X.prog X.w X.K F B)) (O:fq k X.A) (T:Gl X f) (Y:X.mg f=a5 (.ref fa)) (Ob:PySem.W.keepIn X.K (.ref fa)=bD) (j:Binds X.K N ps [])
  (Lj:(f==("__debug__":Str))=cc) (ha:PA X (e::es) (J5 C ms)) (he:gs (e::es) X.env=(cc,vl e X.env)::gs es X.env) (Jv:(x3 pos (gs es X.env)).any (·.1)=cc) :
  PE X (.Call (.Name f p) (e::es) [] pos) (IE C (ms >>= λrs=>az rs >>= λ_=>k9 Γ f (rs.map (·.2)))):=by
 rintro pins s σ H Q I ⟨c0,rfl,rfl,ok,h⟩;show qs (fk I T Y ?_ Lj);show PySem.W.callWith_K (h₀:=X.base) I.ok.mod.NC Ob (IG (args ha I ok h pos) λus s1 ⟨rs,c,vs,t,D,rv,w⟩=>⟨D.LU,?_⟩) he Jv;have⟨r,st',g,q⟩:=w;unfold k9 at g;rw[L]at g;cases i:F (rs.map (·.2)) with
 |none=>rw[i]at g;cases g
 |some r' =>
  rw[i]at g;split at g
  .cases g
  .rename_i z;cases z
  rename_i Xt e3;cases e3;cases g;have⟨l,u⟩:=r;have⟨k0,k2⟩:=hk _ _ _ i;have k1:l=.own\/l=.loc:=by
   rcases k0 with z|z|z
   .show .inl z
   .show .inr z
   .subst z;show(Xt u rfl).elim
  have n:C.Eqv (Mo X.prog X.w X.K c.H (J' c.H)):=⟨o,x,y⟩
  have Kz:(Mo X.prog X.w X.K c.H (J' c.H)).Eqv C:=⟨o.symm,x.symm,y.symm⟩
  have J:=t.read;have J9:spT X.prog X.w X.K F B vs c.H (λv H'=>Q v H') E0:=⟨by rw[<-J.len];show k2,rs.map (·.2),.ok (l,u),J' c.H,i,λ_ z=>z,J.cg n,k0,λv H' S' j=>j.here k1 t.hσ t.ok t.nx Kz q⟩
  have z:=wN (Q:=Q) G O j .nil FY D rv (by rw[rr];show J9);rw[t.hσ]at z;show z
end
section
abbrev Mf.id:Mf->String
 |.split=>"str.split"|.join=>"str.join"|.partition=>"str.partition"|.endswith=>"str.endswith"
abbrev Mf.name:Mf->Str
 |.split=>"split"|.join=>"join"|.partition=>"partition"|.endswith=>"endswith"
def x_(h:mr f u rs=a5 r):∃x,u=.str x:=by
 unfold mr at h;split at h
 .show⟨_,rfl⟩
 .cases h
def D_(k:C.K=X.K)(t:K9 C a c (x::rs) (b::vs))(I:Inv X pins c.σ c.H s)(l:RelV b v)(rv:Vals vs us)(h:mr f x.2 rs=a5 r)(q:cB C a Q r c.st):
  dV (eh X.prog X.w) X.A (NQ (.builtin f.id) (v::us)) (EP X pins c.σ Q) X.xe s:=by
 have m:=t.hσ;have d:=t.ok;have n:=t.nx;have⟨o,p⟩:=x;have hs:=dO.mp t.Oa;obtain⟨D,G,u,g,i,-⟩:=t.rep;cases u;have y:aQ C a c o p b:=g.t hs.1;have one:∀{r:Kd×U},cV C a c [r] vs->aW [r] c.st->∃v,vs=[v]/\aQ C a c r.1 r.2 v:=λ{r} h s=>by
  obtain⟨v,t',rfl,g,i,_⟩:=h;cases i;show⟨v,rfl,g.t s⟩
 dsimp only at h
 unfold mr at h;split at h
 .rw[r3]at h;have⟨ss,e,h⟩:=h;have z:=cW e;subst z;have⟨w,rfl,ty⟩:=one i hs.2;have⟨a',ws,ex,B,j⟩:=ty.list d;rw[aq.strs]at j;subst j;split at h
  .cases h;show Az pins s c.σ c.H b [w] v us Q I l rv ⟨_,a',ss,y.str d,by rw[ex],k▸B,by assumption,q.flat m d n rfl⟩
  .cases h
 .cases h
def Be(N:C.K=X.K)(slot:Slot "str" name f.id)(O:Zx (.builtin f.id)=pure (.type "method_descriptor"))(ho:PE X o (IE C m))(T:PA X (e::es) (J5 C ms))
  (Y:Su o name X.env (vl o X.env)=vl o X.env)
  (JB:((x3 d (gs (e::es) X.env)).all (λx=>!x.1)&&(PH d (Lq [] X.env)).all (λx=>x.1.isSome)
   && cn ((e::es).length+([]:List MA).length+(if ([]:List MA).isEmpty then 0 else 1)<30))=bD)
  (IL:(j.endLine==d.line)=bD) (hs:gs (e::es) X.env=(cc,vl e X.env)::gs es X.env) (JG:(x3 d (gs es X.env)).any (·.1)=cc) :
  PE X (.Call (.Attribute o name j) (e::es) [] d) (IE C (m >>= λx=>ms >>= λrs=>az (x::rs) >>= λ_=>M.IM (mr f x.2 rs))):=by
 rintro pins s σ H Q I ⟨a,rfl,rfl,ok,h⟩;show Zw Y JB IL rfl (IG (ho pins s a.σ a.H (λk u=>∃x b,b.H=u/\KP C a b x k/\W (ms >>= λrs=>az (x::rs) >>= λ_=>M.IM (mr f x.2 rs)) b.st (cB C a Q)) I (aM ok h λx c v t w=>⟨x,c,rfl,t,w⟩)) ?_);rintro v s1 ⟨k,u,y,A,x,b,rfl,t,w⟩;have Oc:∃z,x.2=.str z:=by
  rw[ah]at w;obtain⟨rs,st2,_,w⟩:=w;rw[ah]at w;obtain⟨_,Ji,_,w⟩:=w;obtain⟨r,e,_⟩:=bG.mp w;show x_ e
 have⟨z,hz⟩:=Oc;have B:=t.rx;rw[hz]at B;have ev:=B.str t.ok;have ty:QB X.K "str" k b.H:=by rw[ev];rfl
 have⟨h1,h2⟩:=oi y A ty;show⟨"str",f.id,PySem.F.plainAttrs_str,slot,O,h1,h2,?_⟩;rw[ah]at w;have D:=T d pins s1 a.σ b.H (λvs G=>∃rs g,g.H=G/\K9 C a g (x::rs) (k::vs)/\W (M.IM (mr f x.2 rs)) g.st (cB C a Q)) y ⟨b,t.hσ,rfl,t.ok,w.mono λrs st2 n g vs J e4 IS L l=>by
  rw[ah,bL]at n;subst e4;show⟨rs,g,rfl,⟨J,IS,t.nx.trans L,⟨k,vs,rfl,t.rx.w.on t.ok L (J.trans t.hσ.symm),l.from t.nx,λhk i r' v' e5 e6 Jo=>jg t.rx.w (l.get e5 e6) hk Jo⟩,n.1⟩,n.2⟩⟩
 rw[hs]at D ⊢;show Kg (by change(cc||(x3 d (gs es X.env)).any (·.1))=cc;rw[JG]<;>rfl) (Lz ?_);show IG D ?_;rintro us s2 ⟨vs,G,I2,l,rs,g,rfl,p,w2⟩;have⟨r,e,q⟩:=bG.mp w2;have z:=D_ N p (by rw[p.hσ];show I2) A l e q;rw[p.hσ]at z;show z
end
section
variable{X:Cx}{C:Ct}{pins:List (d7×Obj)}{s:d4}{c0 c c1:Cf}
variable{e:l'}{es:List l'}{ms:M (List (Kd×U))}{pos p p2 pos2:Pos}
abbrev B2.out:B2->df
 |.Ml=>.type "tuple"|.Kw=>.type "list"|.sset=>.builtin "sorted"|.kI=>.builtin "len"
abbrev B2.QX:B2->df
 |.Ml=>.type "reversed"|.Kw=>.type "reversed"|.sset=>.type "set"|.kI=>.type "set"
abbrev B2.oH:B2->Str
 |.Ml=>"tuple"|.Kw=>"list"|.sset=>"sorted"|.kI=>"len"
abbrev B2.iO:B2->Str
 |.Ml=>"reversed"|.Kw=>"reversed"|.sset=>"set"|.kI=>"set"
theorem aq.rev{S:d7->Prop}:∀{us:List U}{vs:List V},aq C S H us vs->aq C S H us.reverse vs.reverse
 |[],vs,h=>by cases h;show rfl
 |u::us,vs,h=>by
  have⟨v,r,rfl,a,b⟩:=h;rw[RT,RT];show(aq.rev b).append ⟨v,[],rfl,a,rfl⟩
def mY(i:C.K=X.K)(j:Ok C c)(l:aQ C c0 c k u v)(h:hU u=a5 ss):∃a b,v=.ref a/\(Jh X.K c.H a (b.map V.str)\/Ju X.K c.H a (b.map V.str))/\b.length+1<zy/\ss=aB b:=by
 unfold hU at h;split at h
 .rw[r3]at h;have⟨b,e,h⟩:=h;have g:=cW e;subst g;have⟨a',ws,ex,f,d⟩:=l.list j;rw[aq.strs]at d;subst d;split at h
  .cases h;show⟨a',b,ex,.inl (i▸f),by assumption,rfl⟩
  .cases h
 .rw[r3]at h;have⟨b,e,h⟩:=h;have g:=cW e;subst g;have⟨a',ws,ex,f,d⟩:=l.tuple j;rw[aq.strs]at d;subst d;rw[i]at f;split at h
  .cases h;show⟨a',b,ex,.inr f,by assumption,rfl⟩
  .cases h
 .cases h
def Ea(d:X.calm=bD)(k:C.K=X.K)(t:K9 C c0 c rs vs)(I:Inv X pins c.σ c.H s)(rv:Vals vs us)(h:rN f rs=a5 r)(q:cB C c0 Q r c.st):
  dV (eh X.prog X.w) X.A (NQ f.QX us) (λv s1=>dV (eh X.prog X.w) X.A (NQ f.out [v]) (EP X pins c.σ Q) X.xe s1) X.xe s:=by
 have m:=t.hσ;have a:=t.ok;have n:=t.nx;cases f with
 |Kw =>
  have⟨x,rfl,hz⟩:=cq (f:=DT) h;clear h;have h:=hz;clear hz;have⟨v,rfl,g⟩:=t.one;unfold DT at h;split at h
  .have⟨a',ws,ex,b,i⟩:=g.list a;rw[k]at b;subst ex;have⟨u,rfl,j⟩:=vals1 rv;cases j;split at h
   .cases h;show xD d I b λl hl=>q.list m a n (dz (by assumption) i).rev l hl
   .cases h
  .cases h
 |sset =>
  have⟨x,rfl,hz⟩:=cq (f:=λx=>(hU x.2).bind λss=>if ss.length<64 then a5 (Kd.own,U.lst ((aP ss).map .str)) else b8) h;clear h;have h:=hz;clear hz;have⟨ss,e,h⟩:=r3.mp h;have⟨v,rfl,g⟩:=t.one;have⟨a',z,rfl,b,i,rfl⟩:=mY k a g e;have⟨u,rfl,j⟩:=vals1 rv;cases j;split at h
  .cases h;show oA d I b i λS h' B o y=>gN d y o (by assumption) λl hl=>q.list m a n (aq.strs.mpr rfl) l hl
  .cases h
 |_=>cases h
def t8:∀f:B2,t4 f.oH=a5 f.out/\t4 f.iO=a5 f.QX/\f.oH≠"__name__"/\f.iO≠"__name__"/\(f.oH==("__debug__":Str))=cc/\(f.iO==("__debug__":Str))=cc:=by
 intro f;cases f<;>show⟨by decide +kernel,by decide +kernel,by decide +kernel,by decide +kernel,by decide +kernel,by decide +kernel⟩
def Eb(f:B2):∃T,f.QX=.type T:=by cases f<;>show⟨_,rfl⟩
def Ec(f:B2):(∃T,f.out=.type T)\/∃T,f.out=.builtin T:=by cases f<;>first|show .inl ⟨_,rfl⟩|show .inr ⟨_,rfl⟩
def t9{M:Model}{E:df->d4->Prop}(h:dV M A t (λv a=>dV M A (NQ (.type T) [v]) Q E a) E s):dV M A (callWith pos (.type T) [] [(cc,t)] []) Q E s :=
 PySem.callWith_type rfl (Lz (K5 (kj h (λ_ _ b=>NH b) λ_ _ e=>e)))
def oI{M:Model}{E:df->d4->Prop}(h:dV M A t (λv a=>dV M A (NQ (.builtin T) [v]) Q E a) E s):dV M A (callWith pos (.builtin T) [] [(cc,t)] []) Q E s :=
 Kg rfl (Lz (K5 (kj h (λ_ _ b=>NH b) λ_ _ e=>e)))
def ya(b:X.calm=bD)(d:C.K=X.K)(g:Gl X f.iO)(i:X.mg f.iO=b8)
  (j:PA X (e::es) (J5 C ms)) (k:gs (e::es) X.env=(cc,vl e X.env)::gs es X.env) (l:(x3 pos2 (gs es X.env)).any (·.1)=cc)
  (I:Inv X pins c0.σ c0.H s) (m:Ok C c0) (h:W (ms >>= λrs=>az rs >>= λ_=>M.IM (rN f rs)) c0.st (cB C c0 Q)) :
  dV (eh X.prog X.w) X.A (vl (.Call (.Name f.iO p2) (e::es) [] pos2) X.env) (λv s1=>dV (eh X.prog X.w) X.A (NQ f.out [v]) (EP X pins c0.σ Q) X.xe s1) X.xe s:=by
 have⟨b1,n,b3,b4,B,o⟩:=t8 f;show qs (dh I g i n ?_ b4 o);have a:dV (eh X.prog X.w) X.A (ß (x3 pos2 (gs (e::es) X.env))) (λus s1=>dV (eh X.prog X.w) X.A (NQ f.QX us) (λv s1=>dV (eh X.prog X.w) X.A (NQ f.out [v]) (EP X pins c0.σ Q) X.xe s1) X.xe s1) X.xe s :=
  IG (args j I m h pos2) λus s1 u=>by
   have⟨rs,c,vs,t,x,rv,w⟩:=u;have⟨r,e,q⟩:=bG.mp w;have z:=Ea b d t x rv e q;rw[t.hσ]at z;show z
 have⟨T,y⟩:=Eb f;rw[y]at a ⊢;show Mu a k l
def Bg(d:X.calm=bD)(g:C.K=X.K)(i:Gl X f.oH)(j:X.mg f.oH=b8)(k:Gl X f.iO)(l:X.mg f.iO=b8)
  (m:PA X (e::es) (J5 C ms)) (n:gs (e::es) X.env=(cc,vl e X.env)::gs es X.env) (o:(x3 pos2 (gs es X.env)).any (·.1)=cc) :
  PE X (.Call (.Name f.oH p) [.Call (.Name f.iO p2) (e::es) [] pos2] [] pos) (IE C (ms >>= λrs=>az rs >>= λ_=>M.IM (rN f rs))):=by
 rintro pins s σ H Q I ⟨c0,rfl,rfl,q,h⟩;have⟨b1,v,b3,b4,r,w⟩:=t8 f;show qs (dh I i j b1 ?_ b3 r);have a:=ya (p2:=p2) (pos2:=pos2) d g k l m n o I q h;have t:x3 pos (gs [.Call (.Name f.iO p2) (e::es) [] pos2] X.env)=[(cc,vl (.Call (.Name f.iO p2) (e::es) [] pos2) X.env)]:=rfl;have u:PH pos (Lq [] X.env)=[]:=rfl;rw[t,u];rcases Ec f with⟨T,b⟩|⟨T,b⟩
 .rw[b]at a ⊢;show t9 a
 .rw[b]at a ⊢;show oI a
end
section
variable{X:Cx}{C:Ct}{pins:List (d7×Obj)}{s:d4}{c0 c c1:Cf}
variable{a b d e o tg:l'}{es:List l'}{m ma mb md:M (Kd×U)}{ms:M (List (Kd×U))}{ta tb:M Bool}{pos p p2 apos G':Pos}
abbrev lp(rs:List (Kd×U))(c f:Cf):Prop:=∀j u,(Kd.bor j,u)∈rs->f.σ[j]?=c.σ[j]?
abbrev Walk(C:Ct)(c:Cf)(rs:List (Kd×U))(xs:List (Kd×U))(J:It):Prop:=∀f,Ok C f->Ns c f->lp rs c f->aW rs f.st ->
 (∀(i:Nat) r,xs[i]?=a5 r->(r.1=.loc\/r.1=.any)/\J.go i f.H/\∀x H',J.Qx i f.H x H'->∃g:Cf,g.H=H'/\g.σ=f.σ/\g.st=f.st/\Ok C g/\Nx f g/\aQ C f g r.1 r.2 x) /\
 ∀i:Nat,xs.length<=i->J.stop i f.H
abbrev MK(C:Ct)(f:Ik)(ms:M (List (Kd×U))):TI:=λσ H R=>∃c0:Cf,c0.σ=σ/\c0.H=H/\Ok C c0/\W (ms >>= λrs=>az rs >>= λ_=>M.IM (Ky f rs) >>= λxs=>pure (rs,xs)) c0.st λq st' =>
 ∀c J,c.σ=σ->c.st=st'->Ok C c->Nx c0 c->aW q.1 c.st->Walk C c q.1 q.2 J->R J c.H
def aQ.walk(g:Ok C c)(n:Ns c f)(i:lp [r] c f)(hs:aW [r] f.st)(h:aQ C c0 c r.1 r.2 v):aQ C c0 f r.1 r.2 v :=
 (h.w.U8 g n λj e=>i j r.2 (by rw[<-e];simp)).t hs
def yb(k:Kd):kE k=.loc\/kE k=.any:=by cases k<;>simp[kE]
def vM(z:C.K=X.K)(A:Ok C c)(h:aQ C c0 c k (.lst us) (.ref a')):Walk C c [(k,.lst us)] (us.map λu=>(kE k,u)) (RB X.K a'):=by
 intro l q n B hs;have h':=aQ.walk (r:=(k,.lst us)) A n B hs h;have⟨H,vs,e,f,t⟩:=h'.list q;cases e;rw[z]at f;show⟨λi r w=>?_,λi D=>⟨vs,f,by rw[<-t.len];simpa using D⟩⟩;rw[ki,et]at w;have⟨u,G,rfl⟩:=w;have⟨v,y,g⟩:=t.get G;show⟨yb k,⟨vs,v,f,y⟩,λx H' j=>?_⟩;have⟨e,j⟩:=j;subst e;have:=j vs f;rw[y]at this;cases this;show⟨l,rfl,rfl,rfl,q,Nx.refl l,aQ.item g⟩
def rP(z:C.K=X.K)(A:Ok C c)(h:aQ C c0 c k (.tup us) (.ref a')):Walk C c [(k,.tup us)] (us.map λu=>(kE k,u)) (RC X.K a'):=by
 intro l q n B hs;have h':=aQ.walk (r:=(k,.tup us)) A n B hs h;have⟨H,vs,e,f,t⟩:=h'.tuple q;cases e;rw[z]at f;show⟨λi r w=>?_,λi D=>⟨vs,f,by rw[<-t.len];simpa using D⟩⟩;rw[ki,et]at w;have⟨u,G,rfl⟩:=w;have⟨v,y,g⟩:=t.get G;show⟨yb k,⟨vs,v,f,y⟩,λx H' j=>?_⟩;have⟨e,j⟩:=j;subst e;have:=j vs f;rw[y]at this;cases this;show⟨l,rfl,rfl,rfl,q,Nx.refl l,aQ.item g⟩
def rQ{lo:Int}:Walk C c rs ((eH n).map λi:Nat=>(Kd.loc,U.int (lo+(i:Int)))) (Qz lo n):=by
 intro h l nx t hs;show⟨λi r k=>?_,λi f=>by change n<=i;simpa using f⟩;rw[ki,et]at k;have⟨j,g,rfl⟩:=k;have f:i<n:=by simpa using(dt.mp g).1
 rw[List.getElem?_range f]at g;cases g;show⟨.inl rfl,f,λy H' q=>?_⟩;have⟨e,rfl⟩:=q;subst e;show⟨h,rfl,rfl,rfl,l,Nx.refl h,rfl⟩
def Ed(i:C.K=X.K)(t:PE X a (IE C ma)):PI X tg a (MK C .seq (ma >>= λr=>pure [] >>= λrs=>pure (r::rs))):=by
 rintro pins s σ H R I ⟨c0,rfl,rfl,w,h⟩;rw[ah,ah]at h;have⟨r,st1,x,h⟩:=h;rw[ah,ak,ak,ah,bL,ah]at h;have⟨y,h⟩:=h;have⟨xs,j,h⟩:=bG.mp h;rw[ak]at h;have⟨k,u⟩:=r;cases u with
 |lst us =>
  cases j;show Ah t pins s c0.σ c0.H R I ⟨c0,rfl,rfl,w,_,st1,x,λc v l hs g n f=>?_⟩;have⟨a',vs,rfl,q,A⟩:=f.list g;subst hs;show⟨a',rfl,⟨vs,i▸q⟩,h c _ l rfl g n y (vM i g f)⟩
 |tup us =>
  cases j;show Df t pins s c0.σ c0.H R I ⟨c0,rfl,rfl,w,_,st1,x,λc v l hs g n f=>?_⟩;have⟨a',vs,rfl,q,A⟩:=f.tuple g;subst hs;have z:=q;rw[i]at z;show⟨a',rfl,⟨vs,z⟩,h c _ l rfl g n y (rP i g f)⟩
 |_=>cases j
def yc{k:List (Kd×U)->M β}{Post:β->aw->Prop}(g:Ok C c0)(h:W (ms >>= λrs=>az rs >>= λ_=>k rs) c0.st Post)
  (hz:∀rs c vs,K9 C c0 c rs vs->W (k rs) c.st Post->Z vs c.H):J5 C ms c0.σ c0.H Z:=by
 rw[ah]at h;show⟨c0,rfl,rfl,g,h.mono λrs st1 f c1 vs i j l n q=>?_⟩;rw[ah,bL]at f;subst j;show hz rs c1 vs ⟨i,l,n,q,f.1⟩ f.2
def Bh(i:Gl X "range")(j:X.mg "range"=b8)(hs:gs [a] X.env=[(cc,vl a X.env)])(k:PA X [a] (J5 C ms)):PI X tg (.Call (.Name "range" p) [a] [] pos) (MK C .Js ms):=by
 rintro pins s σ H R I ⟨c0,rfl,rfl,l,h⟩;show uV i j k hs pins s c0.σ c0.H R I (yc l h λrs c vs t w=>?_);rw[ah]at w;have⟨xs,g,w⟩:=bG.mp w;rw[ak]at w;have⟨x,rfl,hz⟩:=cq (f:=xQ) g;clear g;have g:=hz;clear hz;have⟨v,rfl,n⟩:=t.one;unfold xQ at g;split at g
 .split at g
  .rename_i q;cases g;show⟨_,by rw[n.int t.ok],⋯,⋯,w c _ t.hσ rfl t.ok t.nx t.Oa rQ⟩
  .cases g
 .cases g
def qk{k:Kd}{us:List U}{h:U}{a':d7}{w:Hp->List V->Prop}(G:∀f,Ok C f->Ns c f->lp [(k,h)] c f->aW [(k,h)] f.st->∃vs,w f.H vs/\aq C (SK C f k) f.H us vs):Walk C c [(k,h)] (us.zipIdx.map λp=>(kE k,.tup [.int p.2,p.1])) (OQ w):=by
 intro f g n I hs;have⟨vs,j,y⟩:=G f g n I hs;show⟨λi r z=>?_,λi J=>⟨vs,j,by rw[<-y.len];simpa using J⟩⟩;rw[ki,et]at z;have⟨p,A,rfl⟩:=z;rw[S5,et]at A;have⟨u,L,rfl⟩:=A;have⟨v,B,l⟩:=y.get L;show⟨yb k,⟨vs,v,j,B⟩,λx H' q=>?_⟩;have⟨p,N,rfl,q⟩:=q;have O:=q vs v j B;subst O;have⟨Q,t⟩:=g.lay (o:=.tup [.int i,v]) N;show⟨{f with H:=upd f.H p (.tup [.int i,v])},rfl,rfl,rfl,Q,t,aQ.item ?_⟩;have D:aq C (SK C f k) f.H [.int ((0+i:Nat):Int),u] [.int (i:Int),v]:=by
  rw[PV];show⟨_,_,rfl,rfl,_,_,rfl,l,rfl⟩
 cases k<;>show⟨p,_,rfl,Ju.of ay,by first|show D.mv (g.MX t)|show D.mv (g.mv t)⟩
def Ee{es:List l'}{z:Nat}{ps:Pos}(k:C.K=X.K)(A:Gl X "enumerate")(B:X.mg "enumerate"=b8)(hs:gs [a] X.env=[(cc,vl a X.env)])(D:PA X [a] (J5 C ms)):PI X (.Tuple es z ps) (.Call (.Name "enumerate" p) [a] [] pos) (MK C .N7 ms):=by
 rintro pins s σ H R I ⟨c0,rfl,rfl,G,h⟩;show AE A B D hs pins s c0.σ c0.H R I (yc G h λrs c vs t w=>?_);rw[ah]at w;have⟨xs,i,w⟩:=bG.mp w;rw[ak]at w;have⟨x,rfl,hz⟩:=cq (f:=DU) i;clear i;have i:=hz;clear hz;have⟨v,rfl,l⟩:=t.one;unfold DU at i;split at i
 .cases i;have⟨a',ws,q,g,j⟩:=l.list t.ok;subst q;show⟨a',rfl,.inl ⟨⟨ws,k▸g⟩,w c _ t.hσ rfl t.ok t.nx t.Oa ?_⟩⟩;show qk (a':=a') λJ r n u y=>?_;have⟨L,vs,e,g,j⟩:=(aQ.walk t.ok n u y l).list r;cases e;show⟨vs,k▸g,j⟩
 .cases i;have⟨a',ws,q,g,j⟩:=l.tuple t.ok;subst q;rw[k]at g;show⟨a',rfl,.inr ⟨⟨ws,g⟩,w c _ t.hσ rfl t.ok t.nx t.Oa ?_⟩⟩;show qk (a':=a') λJ r n u y=>?_;have⟨L,vs,e,g,j⟩:=(aQ.walk t.ok n u y l).tuple r;cases e;rw[k]at g;show⟨vs,g,j⟩
 .cases i
def Ok.put(t:Ok C c)(n:Nx c0 c)(Q:i<c.σ.length)(hk:k=.own\/k=.loc\/k=.any)(J6:Ok C c0)(h:aQ C c0 c k u v):
  Ok C {c with σ:=c.σ.set i (a5 v),st:=c.st.set i (a5 (k,u))}/\Nx c0 {c with σ:=c.σ.set i (a5 v),st:=c.st.set i (a5 (k,u))}:=by
 have T:i<c.st.length:=by rw[t.len];show Q
 have Y:∀(j:Nat) k' u',(c.st.set i (a5 (k,u)))[j]?=a5 (a5 (k',u'))->j≠i->c.st[j]?=a5 (a5 (k',u')):=λj k' u' e ne=>by rw[hQ (ri ne)]at e;show e
 have KW:∀(j:Nat) B,(c.σ.set i (a5 v))[j]?=a5 (a5 B)->j≠i->c.σ[j]?=a5 (a5 B):=λj B e ne=>by rw[hQ (ri ne)]at e;show e
 have sl:fY C c.S c.H k u v:=by
  rcases hk with rfl|rfl|rfl
  .have⟨r,e,D,J,y,L⟩:=h;have⟨z0,z1,N,z3,z4⟩:=J6.k7 D;show⟨r,e,J,N,z0,L⟩
  .show h
  .show h
 have Oe:∀(j:Nat) k' u' r,k'.root=bD->(c.st.set i (a5 (k,u)))[j]?=a5 (a5 (k',u'))->(c.σ.set i (a5 v))[j]?=a5 (a5 (.ref r))->j=i/\k=.own/\v=.ref r\/j≠i/\c.st[j]?=a5 (a5 (k',u'))/\c.σ[j]?=a5 (a5 (.ref r)):=λj k' u' r G g l=>by
  by_cases f:j=i
  .subst f;rw[d5 T]at g;rw[d5 Q]at l;cases g;cases l;rcases hk with rfl|rfl|rfl
   .show .inl ⟨rfl,rfl,rfl⟩
   .cases G
   .cases G
  .show .inr ⟨f,Y j k' u' g f,KW j _ l f⟩
 have dD:∀(j:Nat) (u':U),(c.st.set i (a5 (k,u)))[j]?=a5 (a5 (.Iw,u'))->c.st[j]?=a5 (a5 (.Iw,u'))/\(c.σ.set i (a5 v))[j]?=c.σ[j]?:=λj u' e=>by
  by_cases f:j=i
  .subst f;rw[d5 T]at e;cases e;rcases hk with hk|hk|hk<;>cases hk
  .show⟨Y j .Iw u' e f,hQ (ri f)⟩
 have b1:∀a,({c with σ:=c.σ.set i (a5 v),st:=c.st.set i (a5 (k,u))}:Cf).R1 a->c.R1 a\/k=.own/\v=.ref a:=λa Jb=>by
  have⟨j,k',u',G,g,l⟩:=Jb;rcases Oe j k' u' a G g l with⟨O,w,x⟩|⟨O,w,x⟩
  .show .inr ⟨w,x⟩
  .show .inl ⟨j,k',u',G,w,x⟩
 have M3:LL C {c with σ:=c.σ.set i (a5 v),st:=c.st.set i (a5 (k,u))}:=t.dd.of rfl dD (λa z=>(b1 a z).imp id λ⟨q1,q2⟩ j z'=>by
  subst q1;obtain⟨I,e,_,_,y,_⟩:=h;rw[q2]at e;cases e;show y (.inr ⟨j,z'⟩)) (.up λ_ z=>z) λj a z=>⟨(t.root (.inr ⟨j,z⟩)).1,λo q=>q⟩
 show⟨⟨t.same,t.KO,t.par,t.io,by simp[t.len],λj k' u' e=>?_,λj1 j2 k1 k2 u1 u2 r Tn P4 g l e3 e4=>?_,M3⟩,⟨⟨n.keep,n.there,λa z=>?_,n.sub,n.new⟩⟩⟩
 .by_cases f:j=i
  .subst f;rw[d5 T]at e;cases e;show⟨v,by rw[d5 Q],sl⟩
  .have⟨B,g,l⟩:=t.sl j k' u' (Y j k' u' e f);show⟨B,by rw[hQ (ri f)];show g,l⟩
 .have z1:=Oe j1 k1 u1 r Tn g e3;have N:=Oe j2 k2 u2 r P4 l e4;rcases z1 with⟨O,w,x⟩|⟨O,w,x⟩
  .rcases N with⟨b1,A,b3⟩|⟨b1,A,b3⟩
   .show O.trans b1.symm
   .subst w;have⟨I,e,D,J,y,L⟩:=h;rw[x]at e;cases e;show(y (.inl ⟨j2,k2,u2,P4,A,b3⟩)).elim
  .rcases N with⟨b1,A,b3⟩|⟨b1,A,b3⟩
   .subst A;have⟨I,e,D,J,y,L⟩:=h;rw[b3]at e;cases e;show(y (.inl ⟨j1,k1,u1,Tn,w,x⟩)).elim
   .show t.inj j1 j2 k1 k2 u1 u2 r Tn P4 w A x b3
 .rcases z with z|⟨j,u',I,g,l,e3⟩
  .rcases b1 a z with z|⟨w,x⟩
   .show n.roots a (.inl z)
   .subst w;have⟨I,e,D,J,y,L⟩:=h;rw[x]at e;cases e;show .inr D
  .have⟨q1,q2⟩:=dD j u' g;show n.roots a (.inr ⟨j,u',I,q1,q2▸l,e3⟩)
def oJ(z:Ok C c0)(q:Ok C c)(n:Nx c0 c)(A:i<c.σ.length)(t:aQ C c0 c r.1 r.2 v)(h:W (eT i r) c.st Post):
  ∃y,y.σ=c.σ.set i (a5 v)/\y.H=c.H/\Ok C y/\Nx c0 y/\Post () y.st:=by
 have⟨k,u⟩:=r;cases k with
 |own =>
  have⟨x,st',e,f⟩:=h;cases e;have⟨g,l⟩:=q.put n A (.inl rfl) z t;show⟨{c with σ:=c.σ.set i (a5 v),st:=c.st.set i (a5 (.own,u))},rfl,rfl,g,l,f⟩
 |loc =>
  have⟨x,st',e,f⟩:=h;cases e;have⟨g,l⟩:=q.put n A (.inr (.inl rfl)) z t;show⟨{c with σ:=c.σ.set i (a5 v),st:=c.st.set i (a5 (.loc,u))},rfl,rfl,g,l,f⟩
 |any =>
  have⟨x,st',e,f⟩:=h;cases e;have⟨g,l⟩:=q.put n A (.inr (.inr rfl)) z t;show⟨{c with σ:=c.σ.set i (a5 v),st:=c.st.set i (a5 (.any,u))},rfl,rfl,g,l,f⟩
 |bor j =>
  have⟨x,st',e,f⟩:=h;rw[show eT i (.bor j,u) c.st=match c.st[j]? with|some (a5 (.own,u))=>a5 (Ex.ok (),(c.st.set j (a5 (.loc,u))).set i (a5 (.loc,u)))|_=>b8 from rfl]at e;split at e
  .rename_i w D;cases e;obtain⟨O,G,r,J,_⟩:=q.sl j _ _ D;have I:c.σ[j]?=a5 (a5 v):=t.2;rw[I]at G;cases G;subst J;have⟨L,N,B⟩:=q.x6 n D I;have⟨g,l⟩:=Ok.put (c:={c with S:=λa=>c.S a\/a=r,st:=c.st.set j (a5 (.loc,w))}) L N (k:=.loc) (u:=w) (v:=.ref r) A (.inr (.inl rfl)) z B;show⟨{S:=λa=>c.S a\/a=r,H:=c.H,σ:=c.σ.set i (a5 (.ref r)),st:=(c.st.set j (a5 (.loc,w))).set i (a5 (.loc,w)),kid:=c.kid},rfl,rfl,g,l,f⟩
  .cases e
 |_=>show t.elim
end
section
abbrev tG(C:Ct)(t:Bool)(is:List Nat):TG:=λv σ H Q=>∃b c r,c.σ=σ/\c.H=H/\Ok C b/\Ok C c/\Nx b c/\aQ C b c r.1 r.2 v/\W (dN t is r) c.st λ_ st' =>
 ∀a,a.st=st'->Ok C a->Nx b a->(∀j,j∉is->a.σ[j]?=c.σ[j]?)->a.σ.length=c.σ.length->Q a.σ a.H
structure rR(X:Cx)(e:l')(i:Nat):Prop where
 is:∃x pos,e=.Name x pos/\X.N[i]?=a5 x/\Loc X.env.scope x/\(X.fn x=bD\/X.env.scope.names.lookup x=a5 .local)
def Ef(f:X.N.Nodup)(h:rR X e i):PG X e (tG C cc [i]):=by
 have⟨x,pos,rfl,d,g,k⟩:=h.is;rintro pins s σ H v u Q I rv ⟨D,c,r,rfl,rfl,l,m,n,a,w⟩;have o:i<c.σ.length:=by rw[I.len];show(dt.mp d).1
 have⟨p,b,t,y,A,q⟩:=oJ (r:=r) l m n o a w;show tu f d g k pins s c.σ c.H v u Q I rv ?_;have z:=q p rfl y A (λj B=>by rw[b,hQ (by intro z;show B (by simp[z]))]) (by rw[b];simp);rw[b,t]at z;show z
abbrev To:List Nat->OF
 |[]=>Fz
 |i::is=>Cj (tq i) (To is)
inductive fA(X:Cx):List l'->List Nat->Prop where
 |nil:fA X [] []
 |cons {e:l'} {es:List l'} {i:Nat} {is:List Nat} (h:rR X e i) (t:fA X es is):fA X (e::es) (i::is)
def vN(a:X.N.Nodup)(h:fA X es is):O9 X es (To is):=by
 induction h with
 |nil=>show Ae
 |cons h t b =>
  have⟨x,pos,rfl,c,d,e⟩:=h.is;show wH (tu a c d e) b rfl
def rS(h:fA X es is):(PU es X.env).length=is.length/\(PU es X.env).findIdx? (·.1)=b8:=by
 induction h with
 |nil=>show⟨rfl,rfl⟩
 |cons h t a =>
  have⟨x,pos,rfl,b,c,d⟩:=h.is;show⟨?_,?_⟩
  .change(_::_).length=_;simp[a.1]
  .change X4 _ (_::_)=b8;rw[List.findIdx?_cons,Ğ (by simp),a.2];rfl
theorem t_(hk:kE k=k)(h:Ok C g):∀{is:List Nat}{us:List U}{vs:List V}{c:Cf}{Post:Unit->aw->Prop}{Q:L2.St->Hp->Prop},Ok C c->Nx g c->(∀i∈is,i<c.σ.length)->aq C (SK C c k) c.H us vs->W (sets is (us.map λu=>(k,u))) c.st Post ->
  (∀b,Post () b.st->Ok C b->Nx g b->(∀j,j∉is->b.σ[j]?=c.σ[j]?)->b.σ.length=c.σ.length->Q b.σ b.H)->To is vs c.σ c.H Q
 |[],[],vs,c,Post,Q,ok,n,d,a,w,q=>by
  rw[show sets [] (WT (λu=>(k,u)) [])=pure () from rfl,ak]at w;show⟨a,q c w ok n (λ_ _=>rfl) rfl⟩
 |[],u::us,vs,c,Post,Q,ok,n,d,a,w,q=>(bt.mp w).elim
 |i::is,[],vs,c,Post,Q,ok,n,d,a,w,q=>(bt.mp w).elim
 |i::is,u::us,vs,c,Post,Q,ok,n,d,a,w,q=>by
  rw[show sets (i::is) (WT (λu=>(k,u)) (u::us))=eT i (k,u) >>= λ_=>sets is (us.map λu=>(k,u)) from rfl,ah]at w;have⟨v,r,rfl,l,m⟩:=a;have o:k=.own\/k=.loc\/k=.any:=by cases k<;>simp[kE]at hk<;>simp
  have D:k≠.own:=by cases k<;>simp[kE]at hk<;>simp
  have rt:aQ C g c k u v:=by rw[<-hk];show aQ.item l
  have⟨s,t⟩:=ok.put n (d i (by simp)) o h rt;have es:eT i (k,u)=λst=>a5 (.ok (),st.set i (a5 (k,u))):=by cases k<;>simp[kE]at hk<;>rfl
  obtain⟨_,st',e,x⟩:=w;rw[es]at e;cases e;show⟨v,r,rfl,t_ (c:={c with σ:=c.σ.set i (a5 v),st:=c.st.set i (a5 (k,u))}) hk h s t (λj f=>by simpa using d j (by simp[f])) (by cases k<;>show m) x λb p y A B hl=>?_⟩;show q b p y A (λj f=>?_) (by rw[hl];simp);rw[B j (λz=>f (by simp[z])),hQ (λz=>f (by simp[z]))]
def Gf(j:X.calm=bD)(m:C.K=X.K)(o:X.N.Nodup)(h:fA X es is)(hl:∀i∈is,i<X.N.length):PG X (.Tuple es T pos) (tG C bD is):=by
 rintro pins s σ H v u Q I rv ⟨Y,c,r,rfl,rfl,q,e,n,b,w⟩;have⟨t,y⟩:=rS h;show C8 j (vN o h) t y pins s c.σ c.H v u Q I rv ?_;have⟨k,z⟩:=r;cases z with
 |tup us =>
  rw[show dN bD is (k,.tup us)=sets is (us.map λu=>(kE k,u)) from by cases is<;>rfl]at w;have⟨a',vs,rfl,f,g⟩:=b.tuple e;rw[m]at f;have a:us.length=is.length:=by
   have d:∀(is:List Nat) (l:List (Kd×U)) (st:aw) (P:Unit->aw->Prop),W (sets is l) st P->l.length=is.length:=by
    intro is;induction is with
    |nil=>intro l st P w;cases l with
     |nil=>rfl
     |cons _ _=>show(bt.mp w).elim
    |cons i is A=>intro l st P w;cases l with
     |nil=>show(bt.mp w).elim
     |cons x l =>
      rw[show sets (i::is) (x::l)=eT i x >>= λ_=>sets is l from rfl,ah]at w;obtain⟨_,_,_,w⟩:=w;rw[i0,i0,A l _ _ w]
   simpa using d _ _ _ _ w
  show⟨a',vs,rfl,f,by rw[<-g.len,a],?_⟩;show t_ (k:=kE k) (by cases k<;>rfl) q e n (λi B=>by rw[I.len];show hl i B) (by cases k<;>show g) w λD p G J L O=>p D rfl G J L O
 |_=>cases is<;>show(bt.mp w).elim
end
section
variable{X:Cx}{C:Ct}{pins:List (d7×Obj)}{s:d4}{c0 c c1:Cf}
variable{a b d e o tg iter elt:l'}{es ifs:List l'}{m ma mb md me:M (Kd×U)}{ms:M (List (Kd×U))}{ta tb tc:M Bool}{pos p p2 apos G':Pos}
def vO{m:M α}{st:aw}{Q:α->aw->Prop}:W (inScope k m) st Q↔W m (i3 k b8++st) λa st'=>Q a (st'.drop k):=by
 constructor
 .rintro⟨a,st',e,h⟩;unfold inScope at e;cases q:m (i3 k b8++st) with
  |none=>rw[q]at e;cases e
  |some r=>have⟨g,f⟩:=r;rw[q]at e;cases e;show⟨a,f,q,h⟩
 .rintro⟨a,st',e,h⟩;show⟨a,st'.drop k,by unfold inScope;rw[e],h⟩
abbrev Cf.ext(k:Nat)(c:Cf):Cf:={c with σ:=i3 k b8++c.σ,st:=i3 k b8++c.st,kid:=λj=>c.kid (j - k)}
abbrev Cf.cut(k:Nat)(c:Cf):Cf:={c with σ:=c.σ.drop k,st:=c.st.drop k,kid:=λj=>c.kid (k+j)}
def gv(h:(i3 k b8++l)[j]?=a5 (a5 x)):∃i,j=k+i/\l[i]?=a5 (a5 x):=by
 by_cases f:j<k
 .rw[uv (by simpa using f)]at h;rw[J8]at h;rw[ĝ f]at h;cases h
 .show⟨j - k,⋯,?_⟩;rw[nc (by simp;lia)]at h;simpa using h
def fB:(i3 k b8++l)[k+i]?=l[i]?:=by
 rw[nc (by simp)];simp
def yd:(c.ext k).R1 r↔c.R1 r:=by
 constructor
 .rintro⟨j,g,u,h,l,f⟩;have⟨i,rfl,e⟩:=gv l;rw[Cf.ext,fB]at f;show⟨i,g,u,h,e,f⟩
 .rintro⟨i,g,u,h,l,f⟩;show⟨k+i,g,u,h,by rw[Cf.ext,fB];show l,by rw[Cf.ext,fB];show f⟩
def oK{a:d7}(h:(c.ext k).RD j a):∃i,j=k+i/\c.RD i a:=by
 have⟨u,r,l,f,g⟩:=h;have⟨i,rfl,e⟩:=gv l;rw[Cf.ext,fB]at f;show⟨i,rfl,u,r,e,f,?_⟩;have:(c.ext k).kid (k+i)=c.kid i:=by change c.kid (k+i - k)=_;rw[Yo]
 rw[this]at g;show g
def Gg(h:(c.ext k).R r):c.R r:=by
 rcases h with h|⟨j,h⟩
 .show .inl (yd.mp h)
 .obtain⟨i,_,h⟩:=oK h;show .inr ⟨i,h⟩
def Ok.ext(k:Nat)(f:Ok C c):Ok C (c.ext k)/\Nx c (c.ext k):=by
 show⟨⟨f.same,f.KO,f.par,f.io,by simp[Cf.ext,f.len],λj A u e=>?_,λi j k1 k2 u u' r B D l g y z=>?_,⟨λj u r l g=>?_,λi j a n q=>?_,λj a n q=>?_⟩⟩,⟨⟨λ_ _ h _=>h,λ_ o h=>⟨o,h⟩,λa h=>.inl (Gg h),λ_ h=>h,λ_ h=>.inl h⟩⟩⟩
 .have⟨i,rfl,G⟩:=gv e;have⟨v,l,g⟩:=f.sl i A u G;show⟨v,by rw[Cf.ext,fB];show l,g⟩
 .have⟨t,rfl,H⟩:=gv l;have⟨w,rfl,I⟩:=gv g;rw[Cf.ext,fB]at y z;rw[f.inj t w k1 k2 u u' r B D H I y z]
 .have⟨i,rfl,e⟩:=gv l;rw[Cf.ext,fB]at g;have:(c.ext k).kid (k+i)=c.kid i:=by change c.kid (k+i - k)=_;rw[Yo]
  rw[this];show f.dd.kd i u r e g
 .have⟨t,rfl,x⟩:=oK n;have⟨w,rfl,J⟩:=oK q;rw[f.dd.dj t w a x J]
 .have⟨i,rfl,x⟩:=oK n;show f.dd.d1 i a x (yd.mp q)
def ye{a:d7}(h:(c.cut k).R1 a):c.R1 a:=by
 have⟨j,i,u,l,f,g⟩:=h;rw[Cf.cut,Lh]at f g;show⟨k+j,i,u,l,f,g⟩
def oM{a:d7}(h:(c.cut k).RD j a):c.RD (k+j) a:=by
 have⟨u,r,f,g,i⟩:=h;rw[Cf.cut,Lh]at f g;show⟨u,r,f,g,i⟩
def Ok.cut(k:Nat)(f:Ok C c):Ok C (c.cut k)/\Nx c (c.cut k):=by
 show⟨⟨f.same,f.KO,f.par,f.io,by simp[Cf.cut,f.len],λj x u e=>?_,λi j k1 k2 u u' r y A g l t w=>?_,⟨λj u r g l=>?_,λi j a n q=>?_,λj a n q=>f.dd.d1 _ a (oM n) (ye q)⟩⟩,⟨⟨λ_ _ h _=>h,λ_ o h=>⟨o,h⟩,λa h=>.inl (h.elim (λz=>.inl (ye z)) λ⟨j,z⟩=>.inr ⟨k+j,oM z⟩),λ_ h=>h,λ_ h=>.inl h⟩⟩⟩
 .rw[Cf.cut,Lh]at e;have⟨v,g,l⟩:=f.sl _ x u e;show⟨v,by rw[Cf.cut,Lh];show g,l⟩
 .rw[Cf.cut,Lh]at g l t w;have:=f.inj _ _ k1 k2 u u' r y A g l t w;lia
 .rw[Cf.cut,Lh]at g l;show f.dd.kd _ u r g l
 .have:=f.dd.dj _ _ a (oM n) (oM q);lia
def Bi(h:∀j,j∉eH k->g[j]?=(i3 k b8++σ)[j]?)(hl:g.length=(i3 k (b8:Option V)++σ).length):∃f:L2.St,f.length=k/\g=f++σ:=by
 show⟨g.take k,by rw[vu,hl];simp,?_⟩;apply ZS;intro j;by_cases i:j<k
 .rw[uv (by rw[vu,hl];simp;lia),List.getElem?_take,ĝ i]
 .rw[h j (by simpa using i),nc (by simp;lia),nc (by rw[vu,hl];simp;lia)];congr 1
  rw[vu,hl];simp
def vP(e1:c1.σ=c0.σ)(IF:Ok C c1)(n1:Nx c0 c1)(hw:Walk C c1 rs xs J)(h3:W (cj k t tc me rs xs []) c1.st λus st'=>W (pure (Kd.own,U.lst us)) st' (cB C c0 Q)):
  tH k J (tG C t (eH k)) (JX C tc) (IE C me) Q c0.σ c1.H:=by
 show⟨λi m ys H=>∃c acc,c.H=H/\c.σ=c0.σ/\Ok C c/\Nx c1 c/\m=xs.length - i/\i<=xs.length/\aq C c.S c.H acc ys/\acc.length<=cK/\W (cj k t tc me rs (xs.drop i) acc) c.st λus st'=>W (pure (Kd.own,U.lst us)) st' (cB C c0 Q),⟨xs.length,c1,[],rfl,e1,IF,Nx.refl c1,by simp,i7 _,rfl,i7 _,by simpa using h3⟩,?_⟩;rintro i m ys H ⟨c,acc,rfl,D,q,y,rfl,hi,g,h,w⟩;show⟨by rw[<-g.len];show h,?_⟩;have f:lp rs c1 c:=λj u _=>by rw[D,e1]
 by_cases G:i<xs.length
 .right
  rw[Xp G]at w;rw[show cj k t tc me rs (xs[i]::xs.drop (i+1)) acc=az rs >>= λ_=>inScope k (dN t (eH k) xs[i] >>= λ_=>tc >>= λb=>if b=bD then(me >>= λr=>lift r >>= λu=>pure (a5 u)) else pure b8) >>= λr=>match r with|some u=>if acc.length<cK then cj k t tc me rs (xs.drop (i+1)) (acc++[u]) else M.fail|none=>cj k t tc me rs (xs.drop (i+1)) acc from rfl,ah,bL]at w;have⟨Mp,w⟩:=w;obtain⟨I,_⟩:=hw c q y f Mp;have⟨Tq,OY,Tr⟩:=I i xs[i] (by simp[G]);show⟨OY,λKv H'=>∃c acc,c.H=H'/\c.σ=c0.σ/\Ok C c/\Nx c1 c/\aq C c.S c.H acc Kv/\acc.length<=cK/\W (cj k t tc me rs (xs.drop (i+1)) acc) c.st λus st'=>W (pure (Kd.own,U.lst us)) st' (cB C c0 Q),λKv H' ⟨c',JA,z1,z2,z3,z4,z5,z6,z7⟩=>⟨xs.length - (i+1),⋯,c',JA,z1,z2,z3,z4,rfl,G,z5,z6,z7⟩,λx H' hy=>?_⟩;have⟨l,rfl,e4,e5,IS,n2,rt⟩:=Tr x H' hy;rw[ah,vO,ah]at w;have⟨QY,nx⟩:=IS.ext k;have Xv:aQ C (l.ext k) (l.ext k) xs[i].1 xs[i].2 x:=by
   rcases Tq with z|z
   .rw[z]at rt ⊢;show rt
   .rw[z]at rt ⊢;show rt
  have eσ:(l.ext k).σ=i3 k b8++c0.σ:=by rw[Cf.ext];change i3 k b8++l.σ=_;rw[e4,D]
  show⟨l.ext k,l.ext k,xs[i],eσ,rfl,QY,QY,Nx.refl _,Xv,?_⟩;have Xw:(l.ext k).st=i3 k b8++c.st:=by rw[Cf.ext];change i3 k b8++l.st=_;rw[e5]
  rw[Xw];show w.mono λ_ Ji w3 c3 e6 Lo n3 P7 QZ=>?_;subst e6;rw[eσ]at P7 QZ;have⟨L,N,O⟩:=Bi P7 QZ;show⟨L,N,O,?_⟩;have Vb:Nx c c3:=(n2.trans nx).trans n3;rw[ah]at w3;show⟨c3,rfl,rfl,Lo,w3.mono λb Nd n B e7 e8 T n4=>?_⟩;subst e8;cases b with
  |false =>
   rw[Ğ i1]at n ⊢;rw[ak]at n;have⟨Y,nk⟩:=T.cut k;have nn:Nx c (B.cut k):=(Vb.trans n4).trans nk;show⟨B.cut k,acc,rfl,?_,Y,y.trans nn,g.mv (q.mv nn),h,n⟩;change B.σ.drop k=_;rw[e7,O,VN N]
  |true =>
   rw[ĝ rfl]at n ⊢;rw[ah]at n;show⟨B,e7,rfl,T,n.mono λr LV w5 c5 v e9 Xx Xy n5 Xz=>?_⟩;subst Xx;rw[ah]at w5;obtain⟨S',st',u,sS,XA,n6,Tt,A,_,_⟩:=gu T Xy n5 Xz.w w5;rw[ak]at A
   dsimp only at A
   split at A
   .rename_i hz;have⟨Y,nk⟩:=XA.cut k;have nn:Nx c (Cf.cut k {c5 with S:=S',st:=st' }):=((Vb.trans n4).trans n6).trans nk;show⟨Cf.cut k {c5 with S:=S',st:=st' },acc++[u],rfl,?_,Y,y.trans nn,(g.mv (q.mv nn)).snoc Tt,by rw[ia];show hz,A⟩;change c5.σ.drop k=_;rw[e9,O,VN N]
   .show(bt.mp A).elim
 .left
  have Kf:i=xs.length:=by lia
  subst Kf;rw[Z0,show cj k t tc me rs [] acc=az rs >>= λ_=>pure acc from rfl,ah,bL,ak,ak]at w;obtain⟨_,I⟩:=hw c q y f w.1;show⟨I _ (gj _),λp hp=>cB.list w.2 D q (n1.trans y) g p hp⟩
def mZ(l:Ok C c0)
  (h:W (ms >>= λrs=>az rs >>= λ_=>M.IM (Ky n rs) >>= λxs=>cj k t tc me rs xs [] >>= λus=>pure (Kd.own,U.lst us)) c0.st (cB C c0 Q)) :
  w_ k (MK C n ms) (tG C t (eH k)) (JX C tc) (IE C me) c0.σ c0.H Q:=by
 rw[ah]at h;show⟨c0,rfl,rfl,l,?_⟩;rw[ah];show h.mono λrs st1 f=>?_;rw[ah,bL]at f ⊢;show⟨f.1,?_⟩;have g:=f.2;rw[ah]at g ⊢;show g.mono λxs st2 i=>?_;rw[ak];intro c1 J q r u v w j;rw[ah]at i;subst r
 dsimp only at w j
 show vP q u v j i
def yf(S:eR X N own scope)(f:X.calm=bD)(g:PI X tg iter (MK C i ms))
  (j:∀D s H ex,PG (JM X N scope D s H ex) tg (tG C t (eH own.length))) (k:∀D s H ex,MQ (JM X N scope D s H ex) ifs (JX C tc)) (l:∀D s H ex,PE (JM X N scope D s H ex) elt (IE C me))
  (hs:∀x,LS iter X.env x=pure x) :
  PE X (.ListComp elt [⟨tg,iter,ifs,0⟩] scope pos) (IE C (ms >>= λrs=>az rs >>= λ_=>M.IM (Ky i rs) >>= λxs=>cj own.length t tc me rs xs [] >>= λus=>pure (.own,.lst us))):=by
 show PE.weak (Ax S f g j k l hs) ?_;rintro σ H Q ⟨c0,rfl,rfl,n,h⟩;show mZ n h
end
section
variable{a b d e o tg iter elt:l'}{es ifs:List l'}{m ma mb md me:M (Kd×U)}{ms:M (List (Kd×U))}{ta tb tc:M Bool}{pos p p2 apos G':Pos}{st:L8}{rest body:List L8}{f g mm:M Fl}{ns JY:Nat->Bool}
def Eg(C:Ct)(c:Cf):Kd->U->V->Prop
 |.own,u,v=>∃r,v=.ref r/\C.H₀ r=b8/\¬c.S r/\¬c.R r/\c9 C c.S c.H r u
 |.loc,u,v=>Rep C c.S c.H u v
 |.any,u,v=>Rep C (PS C c.S) c.H u v
 |_,_,_=>False
def Ig(C:Ct)(Q:VK)(c:Cf):Kd->U->Prop
 |.io,u=>C.xw u c.H
 |k,u=>∀v,Eg C c k u v->Q v c.H
abbrev Fin(C:Ct)(D:Ends)(f:Fl)(c:Cf):Prop:=match f with
 |.nx=>D.nx c.σ c.H
 |.bk=>D.bk c.σ c.H
 |.ct=>D.ct c.σ c.H
 |.rt k u=>Ig C D.rt c k u
abbrev Kept(ns:Nat->Bool)(c h:Cf):Prop:=(∀j,ns j=bD->h.σ[j]?=c.σ[j]?)/\h.σ.length=c.σ.length
def Kept.refl:Kept ns c c:=⟨λ_ _=>rfl,rfl⟩
def Kept.trans(h:Kept ns c i)(h':Kept ns i k):Kept ns c k:=⟨λj z=>(h'.1 j z).trans (h.1 j z),h'.2.trans h.2⟩
def Kept.le(i:∀j,JY j=bD->ns j=bD)(h:Kept ns c k):Kept JY c k:=⟨λj z=>h.1 j (i j z),h.2⟩
def Kept.of(h:i.σ=c.σ):Kept ns c i:=⟨λj z=>by rw[h],by rw[h]⟩
abbrev fJ(C:Ct)(h:Cf)(ns:Nat->Bool)(D:Ends)(f:Fl)(st':aw):Prop:=∀c,c.st=st'->Ok C c->Ns h c->Kept ns h c->Fin C D f c
abbrev Jp(C:Ct)(ns:Nat->Bool)(m:M Fl):TS:=λD σ H=>∃c:Cf,c.σ=σ/\c.H=H/\Ok C c/\W m c.st (fJ C c ns D)
def rT(j:Ok C c)(n:Ns i c)(k:Kept ns i c)(h:W mm c.st (fJ C i ns D)):Jp C ns mm D c.σ c.H :=
 ⟨c,rfl,rfl,j,h.mono λf st l q e r s k2=>l q e r (n.trans s) (k.trans k2)⟩
def PS.weak(h:L2.PS X st t)(i:∀D σ H,t' D σ H->t D σ H):L2.PS X st t':=λpins s σ H D I q=>h pins s σ H D I (i D σ H q)
def JT.weak(h:JT X rest t)(i:∀D σ H,t' D σ H->t D σ H):JT X rest t':=λpins s σ H D I q=>h pins s σ H D I (i D σ H q)
def oN(i:∀j,JY j=bD->ns j=bD)(h:Jp C JY mm D σ H):Jp C ns mm D σ H :=
 let ⟨c,k,l,n,w⟩:=h;⟨c,k,l,n,w.mono λf st q r e s t k2=>q r e s t (k2.le i)⟩
def Gh:JT X [] (Jp C ns (pure .nx)):=by
 show JT.weak tm ?_;rintro D σ H ⟨c,rfl,rfl,i,h⟩;rw[ak]at h;show h c rfl i (Ns.refl c) Kept.refl
abbrev Bj(m:M Fl)(f:Fl):M Fl:=match f with
 |.nx=>m
 |f=>pure f
def Eh(l:L2.PS X st (Jp C ns f))(n:JT X rest (Jp C ns g)):JT X (st::rest) (Jp C ns (f >>= Bj g)):=by
 show JT.weak (pE l n) ?_;rintro D σ H ⟨q,rfl,rfl,r,h⟩;rw[ah]at h;show⟨q,rfl,rfl,r,h.mono λs st1 w j e c i k1=>?_⟩;subst e;cases s with
 |nx=>show rT c i k1 w
 |bk=>rw[show Bj g .bk=pure .bk from rfl,ak]at w;show w j rfl c i k1
 |ct=>rw[show Bj g .ct=pure .ct from rfl,ak]at w;show w j rfl c i k1
 |rt k u=>rw[show Bj g (.rt k u)=pure (.rt k u) from rfl,ak]at w;show w j rfl c i k1
def Gi(i:PE X a (IE C ma))(hs:O8 a b8 pos.line X.env=pure cc):L2.PS X (.Expr a pos) (Jp C ns (ma >>= λ_=>pure .nx)):=by
 show PS.weak (iq i hs) ?_;rintro D σ H ⟨k,rfl,rfl,j,h⟩;show aM j h λx c v t w=>?_;rw[ak]at w;have:=w c rfl t.ok t.nx (Kept.of t.hσ);rw[<-t.hσ];show this
def Ei:L2.PS X (.Return b8 pos) (Jp C ns (pure (.rt .loc .ID))):=by
 show PS.weak Ad ?_;rintro D σ H ⟨c,rfl,rfl,i,h⟩;rw[ak]at h;show h c rfl i (Ns.refl c) Kept.refl .ID rfl
def ql(ok:Ok C J)(t:KP C J c x v)(w:W (retS x) c.st (fJ C J ns D)):D.rt v c.H:=by
 have⟨k,u⟩:=x;have⟨B,h,n,r⟩:=t;cases k with
 |own =>
  rw[show retS (.own,u)=pure (.rt .own u) from rfl,ak]at w;have⟨A,e,h1,h2,h3,h4⟩:=r;show w c rfl h n (Kept.of B) v ⟨A,e,(ok.k7 h1).1,h2,h3,h4⟩
 |loc =>
  rw[show retS (.loc,u)=pure (.rt .loc u) from rfl,ak]at w;show w c rfl h n (Kept.of B) v r
 |any =>
  rw[show retS (.any,u)=if I0 u=bD then pure (.rt .loc u) else pure (.rt .any u) from rfl]at w;split at w
  .rw[ak]at w;show w c rfl h n (Kept.of B) v (Rep.I0 (by assumption) r)
  .rw[ak]at w;show w c rfl h n (Kept.of B) v r
 |bor j =>
  have⟨fl,st',e,w⟩:=w;rw[show retS (.bor j,u) c.st=match c.st[j]? with|some (a5 (.own,u))=>a5 (Ex.ok (Fl.rt .own u),c.st.set j b8)|_=>b8 from rfl]at e;split at e
  .rename_i u' I;cases e;have Mn:j<c.st.length:=(dt.mp I).1;have y:∀(i:Nat) k u',(c.st.set j b8)[i]?=a5 (a5 (k,u'))->i≠j/\c.st[i]?=a5 (a5 (k,u')):=λi k u' e=>by
    by_cases L:i=j
    .subst L;rw[d5 Mn]at e;cases e
    .rw[hQ (ri L)]at e;show⟨L,e⟩
   have⟨v',l,A,er,q1,q2,q3,q4⟩:=h.sl j _ _ I;have N:c.σ[j]?=a5 (a5 v):=r.2;rw[N]at l;cases l;subst er;have Q:∀a,({c with st:=c.st.set j b8}:Cf).R1 a->c.R1 a:=λa ⟨i,k,u2,hk,l,s⟩=>⟨i,k,u2,hk,(y i k u2 l).2,s⟩
   have hR:∀a,({c with st:=c.st.set j b8}:Cf).R a->c.R a:=λa z=>z.elim (λz=>.inl (Q a z)) λ⟨i,u2,O,l,s,G⟩=>.inr ⟨i,u2,O,(y i .Iw u2 l).2,s,G⟩;have M3:LL C {c with st:=c.st.set j b8}:=h.dd.of rfl (λi u2 e=>⟨(y i .Iw u2 e).2,rfl⟩) (λa z=>.inl (Q a z)) (.up λ_ z=>z) λi a z=>⟨(h.root (.inr ⟨i,z⟩)).1,λo q=>q⟩
   have XB:Ok C {c with st:=c.st.set j b8}:=⟨h.same,h.KO,h.par,h.io,by simp[h.len],λi k u2 e=>h.sl i k u2 (y i k u2 e).2,λi T k k' Y u2 r hk Jo l s G e4=>h.inj i T k k' Y u2 r hk Jo (y i k Y l).2 (y T k' u2 s).2 G e4,M3⟩
   have nn:Ns J {c with st:=c.st.set j b8}:=⟨n.keep,n.there,λa z=>n.roots a (hR a z),n.sub,n.new⟩
   show w {c with st:=c.st.set j b8} rfl XB nn (Kept.of B) (.ref A) ⟨A,rfl,q3,q1,λz=>?_,q4⟩
   .rcases z with⟨i,k,u2,hk,l,s⟩|⟨i,u2,O,l,s,G⟩
    .have⟨ne,JE⟩:=y i k u2 l;show ne (h.inj i j k .own u2 _ A hk rfl JE I s N)
    .show h.dd.d1 i A ⟨u2,O,(y i .Iw u2 l).2,s,G⟩ ⟨j,.own,_,rfl,I,N⟩
  .cases e
 |_=>show r.elim
def Gj(j:PE X a (IE C ma)):L2.PS X (.Return (a5 a) pos) (Jp C ns (ma >>= retS)):=by
 show PS.weak (C6 j) ?_;rintro D σ H ⟨k,rfl,rfl,i,h⟩;show aM i h λx c v t w=>ql i t w
end
section
def lq(f:∀j,ns j=bD->j≠i)(g:Ok C a)(t:KP C a c r v)(h:i<c.σ.length)(w:W (eT i r >>= λ_=>(pure .nx:M Fl)) c.st (fJ C a ns D)):D.nx (a.σ.set i (a5 v)) c.H:=by
 rw[ah]at w;have⟨b,d,k,l,m,q⟩:=oJ (r:=r) g t.ok t.nx h t.rx w;rw[ak]at q;have z:=q b rfl l m ⟨λj n=>by rw[d,t.hσ,hQ (ri (f j n))],by rw[d,t.hσ];simp⟩;have e:D.nx b.σ b.H:=z;rw[d,k,t.hσ]at e;show e
def Cs(f:∀j,ns j=bD->j≠i)(g:X.N.Nodup)(d:X.N[i]?=a5 x)(k:Loc X.env.scope x)(l:X.fn x=bD\/X.env.scope.names.lookup x=a5 .local)(m:PE X a (IE C n))
  (hs:O8 a (a5 (.Name x pos')) pos.line X.env=pure cc):L2.PS X (.Assign [.Name x pos'] a pos) (Jp C ns (n >>= λr=>eT i r >>= λ_=>pure .nx)):=by
 rintro pins s σ H D I ⟨b,rfl,rfl,e,h⟩;have o:i<b.σ.length:=by rw[I.len];show(dt.mp d).1
 show qZ g d k m hs l pins s b.σ b.H D I (aM e h λr c v t w=>lq f e t (by rw[t.hσ];show o) w)
def Ej(l:∀j,ns j=bD->j≠i)(S:eR X N own scope)(m:X.calm=bD)(o:X.N.Nodup)(f:X.N[i]?=a5 y)(p:X.env.scope.names.lookup y=a5 .local)
  (q:PI X d a (MK C u ms)) (z:∀D s H ex,PG (JM X N scope D s H ex) d (tG C t (eH own.length))) (A:∀D s H ex,MQ (JM X N scope D s H ex) b (JX C B)) (G:∀D s H ex,PE (JM X N scope D s H ex) elt (IE C J))
  (L:O8 (.ListComp elt [⟨d,a,b,0⟩] scope pos) (a5 (.Name y O)) Q.line X.env=pure bD) (hs:∀x,LS a X.env x=pure x) :
  L2.PS X (.Assign [.Name y O] (.ListComp elt [⟨d,a,b,0⟩] scope pos) Q)
   (Jp C ns ((ms >>= λrs=>az rs >>= λ_=>M.IM (Ky u rs) >>= λxs=>cj own.length t B J rs xs [] >>= λus=>pure (.own,.lst us)) >>= λr=>eT i r >>= λ_=>pure .nx)):=by
 rintro pins s σ H D I ⟨e,rfl,rfl,g,h⟩;have T:i<e.σ.length:=by rw[I.len];show(dt.mp f).1
 show Ay S m o f p q z A G L hs pins s e.σ e.H D I ?_;rw[ah]at h;show mZ g (h.mono λr st1 w c v k Y I_ n rt=>?_);subst Y;show lq l g ⟨k,I_,n,rt⟩ (by rw[k];show T) w
def Ek(g:∀j,ns j=bD->j∉is)(i:PE X a (IE C k))(l:PG X b (tG C bD is))(hs:QN [b] a pos.line X.env=pure cc)(m:Va [b] a X.env=pure b8)(n:(PU [b] X.env).map (·.2)=[RY b X.env]):
  L2.PS X (.Assign [b] a pos) (Jp C ns (k >>= λr=>dN bD is r >>= λ_=>pure .nx)):=by
 show PS.weak (qY i l hs m n) ?_;rintro D σ H ⟨o,rfl,rfl,d,h⟩;show aM d h λr c v t w=>?_;rw[ah]at w;show⟨o,c,r,t.hσ,rfl,d,t.ok,t.nx,t.rx,w.mono λ_ st1 f p e q s u hl=>?_⟩;subst e;rw[ak]at f;show f p rfl q s ⟨λj x=>by rw[u j (g j x),t.hσ],by rw[hl,t.hσ]⟩
def Gk(i:PT X a (JX C j))(k:JT X ca (Jp C ns f))(l:JT X m (Jp C ns g)):L2.PS X (.If a ca m pos) (Jp C ns (j >>= λp=>if p=bD then f else g)):=by
 show PS.weak (Fy i k l) ?_;rintro D σ H ⟨o,rfl,rfl,q,h⟩;show dX q h λp c b d n w=>?_;have e:o.σ=c.σ:=b.symm;rw[e];cases p with
 |true=>rw[ĝ rfl]at w ⊢;show rT d n (Kept.of b) w
 |false=>rw[Ğ i1]at w ⊢;show rT d n (Kept.of b) w
def Gm(L:Xh (eh X.prog X.w) X.A X.env X.xe)(N:PT X a (JX C g))(O:JT X body (Jp C ns f)):L2.PS X (.While a body [] pos) (Jp C ns (gF g f n)):=by
 show PS.weak (wJ L N O) ?_;rintro D σ H ⟨d,rfl,rfl,Q,h⟩;show⟨λm t H'=>∃c,c.H=H'/\c.σ=t/\Ok C c/\Ns d c/\Kept ns d c/\W (gF g f m) c.st (fJ C d ns D),⟨n,d,rfl,rfl,Q,Ns.refl d,Kept.refl,h⟩,?_⟩;rintro m t H' ⟨c,rfl,rfl,T,v,x,w⟩;cases m with
 |zero=>show(bt.mp w).elim
 |succ m =>
  rw[show gF g f (m+1)=g >>= λb=>if b=bD then(f >>= λf'=>match f' with|.nx=>gF g f m|.ct=>gF g f m|.bk=>pure .nx|.rt k u=>pure (.rt k u)) else pure .nx from rfl]at w;show dX T w λp l y B G i=>?_;have k2:Kept ns c l:=Kept.of y;rw[<-y];cases p with
  |false =>
   rw[Ğ i1]at i ⊢;rw[ak]at i;show i l rfl B (v.trans G) (x.trans k2)
  |true =>
   rw[ĝ rfl]at i ⊢;show⟨λI J=>∃c,c.H=J/\c.σ=I/\Ok C c/\Ns d c/\Kept ns d c/\W (gF g f m) c.st (fJ C d ns D),λI J z=>⟨m,Oy m,z⟩,?_⟩;rw[ah]at i;show⟨l,rfl,rfl,B,i.mono λY Ji j o e q n3 k3=>?_⟩;subst e;have r:=(v.trans G).trans n3;have s:=(x.trans k2).trans k3;cases Y with
   |nx=>show⟨o,rfl,rfl,q,r,s,j⟩
   |ct=>show⟨o,rfl,rfl,q,r,s,j⟩
   |_=>rw[ak]at j;show j o rfl q r s
def Gn(hp:Xh (eh X.prog X.w) X.A X.env X.xe)(hc:X.calm=bD)(hi:PI X tg a (MK C ik ms))(hg:PG X tg (tG C t is))(hb:JT X body (Jp C (Kq s) f))(hs:∀x,LS a X.env x=pure x)
  (JJ:∀j,ns j=bD->j∉is/\Kq s j=bD) :
  L2.PS X (.For tg a body [] pos) (Jp C ns (ms >>= λrs=>az rs >>= λ_=>M.IM (Ky ik rs) >>= λxs=>if tX rs is s=bD then forM t is f rs xs else M.fail)):=by
 show PS.weak (Dg hp hc hi hg hb hs) ?_;rintro D σ H ⟨d,rfl,rfl,ok,h⟩;rw[ah]at h;show⟨d,rfl,rfl,ok,?_⟩;rw[ah];show h.mono λrs st1 v=>?_;rw[ah,bL]at v ⊢;show⟨v.1,?_⟩;have h2:=v.2;rw[ah]at h2 ⊢;show h2.mono λxs st2 y=>?_;rw[ak];intro b J e1 e2 IF n1 II B;subst e2
 dsimp only at II B
 split at y
 .rename_i Og;have Tw:∀j u,(Kd.bor j,u)∈rs->j∉is/\Kq s j=bD:=λj u o=>by
   have:=i6.mp Og _ o;simpa using this
  show⟨λi m l H'=>∃c,c.H=H'/\c.σ=l/\Ok C c/\Ns b c/\Kept ns d c/\lp rs b c/\m=xs.length - i/\i<=xs.length/\W (forM t is f rs (xs.drop i)) c.st (fJ C d ns D),
   ⟨xs.length,b,rfl,e1,IF,Ns.refl b,Kept.of e1,λ_ _ _=>rfl,by simp,i7 _,by simpa using y⟩,?_⟩
  rintro i m l H' ⟨c,rfl,rfl,G,p,kc,I,rfl,Kf,w⟩;by_cases L:i<xs.length
  .right
   rw[Xp L,show forM t is f rs (xs[i]::xs.drop (i+1))=az rs >>= λ_=>dN t is xs[i] >>= λ_=>f >>= λf'=>match f' with|.nx=>forM t is f rs (xs.drop (i+1))|.ct=>forM t is f rs (xs.drop (i+1))|.bk=>pure .nx|.rt k u=>pure (.rt k u) from rfl,ah,bL]at w;have⟨Mp,w⟩:=w;obtain⟨N,_⟩:=B c G p I Mp;have⟨Tq,OY,Tr⟩:=N i xs[i] (by simp[L]);show⟨OY,λl H'=>∃c,c.H=H'/\c.σ=l/\Ok C c/\Ns b c/\Kept ns d c/\lp rs b c/\W (forM t is f rs (xs.drop (i+1))) c.st (fJ C d ns D),λl H' ⟨c',z1,z2,z3,z4,z5,z6,z7⟩=>⟨xs.length - (i+1),⋯,c',z1,z2,z3,z4,z5,z6,rfl,L,z7⟩,λx H' hy=>?_⟩;have⟨n,rfl,q,e5,IS,n2,rt⟩:=Tr x H' hy;rw[ah]at w;have XC:aQ C n n xs[i].1 xs[i].2 x:=by
    rcases Tq with z|z
    .rw[z]at rt ⊢;show rt
    .rw[z]at rt ⊢;show rt
   show⟨n,n,xs[i],q,rfl,IS,IS,Nx.refl n,XC,?_⟩;rw[e5];show w.mono λ_ Ji w3 c3 e6 Lo n3 Ve QZ=>?_;subst e6;rw[ah]at w3;show⟨c3,rfl,rfl,Lo,w3.mono λfl Nd r g e O n4 Q=>?_⟩;subst e;have T:Ns b g:=((p.trans n2.toNs).trans n3.toNs).trans n4;have Y:Kept ns d g:=by
    show kc.trans ⟨λj hj=>?_,by rw[Q.2,QZ,q]⟩;have⟨j1,j2⟩:=JJ j hj;rw[Q.1 j j2,Ve j j1,q]
   have Vf:lp rs b g:=λj u o=>by
    have⟨j1,j2⟩:=Tw j u o;rw[Q.1 j j2,Ve j j1,q];show I j u o
   cases fl with
   |nx=>show⟨g,rfl,rfl,O,T,Y,Vf,r⟩
   |ct=>show⟨g,rfl,rfl,O,T,Y,Vf,r⟩
   |_=>rw[ak]at r;show r g rfl O (n1.toNs.trans T) Y
  .left
   have TC:i=xs.length:=by lia
   subst TC;rw[Z0,show forM t is f rs []=az rs >>= λ_=>pure .nx from rfl,ah,bL,ak]at w;obtain⟨_,N⟩:=B c G p I w.1;show⟨N _ (gj _),w.2 c rfl G (n1.toNs.trans p) kc⟩
 .show(bt.mp y).elim
end
section
def Ok.mod(d:Ok C c)(n:Ns c0 c)(hk:k.root=bD)(A:c.st[i]?=a5 (a5 (k,u)))(G:c.σ[i]?=a5 (a5 (.ref r)))(JH:∀a,a≠r->H' a=c.H a)(hr:∃o,H' r=a5 o)
  (new:Mv c.S c.H c.S H'->c9 C c.S H' r u'):Ok C {c with H:=H',st:=c.st.set i (a5 (k,u'))}/\Ns c0 {c with H:=H',st:=c.st.set i (a5 (k,u'))}:=by
 have K8:c.R1 r:=⟨i,k,u,hk,A,G⟩
 have hR:c.R r:=.inl K8;have⟨J,q2,q3,o,ho,Oh⟩:=d.root hR;have L:i<c.st.length:=(dt.mp A).1;have p:∀{a:d7} {b:HO},a≠r->c.H a=a5 b->H' a=a5 b:=λne e=>by rw[JH _ ne];show e
 have I:Mv c.S c.H c.S H':=⟨λ_ z=>z,λa b e t=>p (λz=>by subst z;rw[ho]at e;cases e;show Oh t) e,λa b z e=>p (λf=>J (f▸z)) e⟩
 have MX:Mv (PS C c.S) c.H (PS C c.S) H':=⟨λ_ z=>z,I.OU,λa b z e=>p (λf=>by subst f;show z.elim q2 J) e⟩
 have N:∀(j:Nat) k' w,(c.st.set i (a5 (k,u')))[j]?=a5 (a5 (k',w))->j≠i->c.st[j]?=a5 (a5 (k',w)):=λj k' w e ne=>by rw[hQ (ri ne)]at e;show e
 have g:∀(j:Nat) k' w,k'.root=bD->(c.st.set i (a5 (k,u')))[j]?=a5 (a5 (k',w))->∃O,c.st[j]?=a5 (a5 (k',O)):=λj k' w _ e=>by
  by_cases q:j=i
  .subst q;rw[d5 L]at e;cases e;show⟨u,A⟩
  .show⟨w,N j k' w e q⟩
 have b1:∀a,({c with H:=H',st:=c.st.set i (a5 (k,u'))}:Cf).R1 a->c.R1 a:=λa Jb=>by
  have⟨j,k',w,h,l,m⟩:=Jb;have⟨O,Q⟩:=g j k' w h l;show⟨j,k',O,h,Q,m⟩
 have dD:∀(j:Nat) (w:U),(c.st.set i (a5 (k,u')))[j]?=a5 (a5 (.Iw,w))->c.st[j]?=a5 (a5 (.Iw,w)):=λj w e=>by
  by_cases q:j=i
  .subst q;rw[d5 L]at e;cases e;cases hk
  .show N j .Iw w e q
 have M3:LL C {c with H:=H',st:=c.st.set i (a5 (k,u'))}:=d.dd.of rfl (λj w e=>⟨dD j w e,rfl⟩) (λa z=>.inl (b1 a z)) I λj a z=>⟨(d.root (.inr ⟨j,z⟩)).1,λb e=>p (λf=>d.dd.d1 j a z (f▸K8)) e⟩
 show⟨⟨λa b e z=>?_,λa z=>?_,d.par,λa z=>?_,by simp[d.len],λj k' w e=>?_,λj1 j2 k1 k2 w1 w2 s h x l m T e4=>?_,M3⟩,n.trans ⟨λa b e z=>p (λf=>z (f▸hR)) e,λa b e=>?_,λa z=>?_,λ_ z=>z,λ_ z=>.inl z⟩⟩
 .have h:=d.same a b e z;show p (λf=>?_) h;subst f;rcases q3 with q3|q3
  .rw[e]at q3;cases q3
  .show z q3
 .have⟨h,b,x⟩:=d.KO a z;show⟨h,b,p (λf=>J (f▸z)) x⟩
 .have⟨h,b,x⟩:=d.io a z;show⟨h,?_⟩;by_cases B:a=r
  .subst B;show hr
  .show⟨b,p B x⟩
 .by_cases q:j=i
  .subst q;rw[d5 L]at e;cases e;have⟨v,l,m⟩:=d.sl j _ _ A;rw[G]at l;cases l;show⟨.ref r,G,?_⟩;have nr:=new I;cases k with
   |own=>obtain⟨s,y,D,Y,z3,_⟩:=m;cases y;show⟨r,rfl,D,Y,z3,nr⟩
   |io=>obtain⟨s,y,D,Y,z3,_⟩:=m;cases y;show⟨r,rfl,D,Y,z3,nr⟩
   |_=>cases hk
  .have e0:=N j k' w e q;have⟨v,l,m⟩:=d.sl j k' w e0;show⟨v,l,m.mv I MX λJo s y=>?_⟩;obtain⟨QV,Ko,D,_⟩:=m.rt Jo;rw[y]at Ko;cases Ko;show⟨D,λb e=>p (λz=>?_) e⟩;subst z;show q (d.inj j i k' k w u s Jo hk e0 A (by rw[l,y]) G)
 .have⟨Q0,Q⟩:=g j1 k1 w1 h l;have⟨Vg,a2⟩:=g j2 k2 w2 x m;show d.inj j1 j2 k1 k2 Q0 Vg s h x Q a2 T e4
 .by_cases B:a=r
  .subst B;show hr
  .show⟨b,p B e⟩
 .rcases z with z|⟨j,w,s,l,m,T⟩
  .show .inl (.inl (b1 a z))
  .show .inl (.inr ⟨j,w,s,dD j w l,m,T⟩)
def fc{f:U->Option U}{st:aw}(h:W (modS i f) st Q):∃k u u',k.root=bD/\st[i]?=a5 (a5 (k,u))/\f u=a5 u'/\Q () (st.set i (a5 (k,u'))):=by
 obtain⟨_,st',e,q⟩:=h;unfold modS at e;split at e
 .rename_i k u hs;split at e
  .rename_i hk;cases a:f u with
   |none=>rw[a]at e;cases e
   |some u'=>rw[a]at e;cases e;show⟨k,u,u',hk,hs,a,q⟩
  .cases e
 .cases e
def cX{st:aw}(h:W (dg i) st Q):∃k u,k≠.Iw/\st[i]?=a5 (a5 (k,u))/\Q (if k.root=bD then .bor i else k,u) st:=by
 have⟨r,st',e,q⟩:=h;unfold dg at e;split at e
 .cases e
 .rename_i k u a hs;cases e;show⟨k,u,λz=>a z,hs,q⟩
 .cases e
def Gp(Y:C.K=X.K)(hN:X.N[i]?=a5 x)(hv:Kt X.env.scope x)(hd:(x==("__debug__":Str))=cc)(Jg:(x==("__classdict__":Str))=cc)(ha:PE X a (IE C ma))
  (JB:((x3 g (gs [a] X.env)).all (λx=>!x.1)&&(PH g (Lq [] X.env)).all (λx=>x.1.isSome)
   && cn ([a].length+([]:List MA).length+(if ([]:List MA).isEmpty then 0 else 1)<30))=bD)
  (IL:(b.endLine==g.line)=bD) (o:gs [a] X.env=[(cc,vl a X.env)]) :
  L2.PS X (.Expr (.Call (.Attribute (.Name x px) "append" b) [a] [] g) pos) (Jp C ns (dg i >>= λx=>LZ x.2 >>= λ_=>ma >>= λr=>lift r >>= λu=>modS i (xV u) >>= λ_=>pure .nx)):=by
 show PS.weak (iq (kH PySem.F.plainAttrs_list PySem.F.slot_list_append PySem.F.type_list_append mI (bU hN hv hd Jg) (cF ha eN o) rfl JB IL o rfl)) ?_;rintro D σ H ⟨p,rfl,rfl,f,h⟩;rw[ah]at h;have⟨k0,s,KY,y,h⟩:=cX h;have⟨A,l,m⟩:=f.sl i k0 s y;show⟨A,l,?_⟩;cases s with
 |lst B =>
  rw[ah,show LZ (U.lst B)=pure () from rfl,ak]at h;have P8:aQ C p p (if k0.root=bD then .bor i else k0) (.lst B) A:=by
   by_cases hk:k0.root=bD
   .rw[ĝ hk];show⟨⟨k0,hk,y⟩,l⟩
   .rw[Ğ hk];cases k0 with
    |loc=>show m
    |any=>show m
    |bor j=>show m.elim
    |Iw=>show(KY rfl).elim
    |_=>show absurd rfl hk
  obtain⟨a0,Nu,n,Nb,_⟩:=P8.list f;show⟨by rw[n];show .inl ⟨rfl,Nu,Y▸Nb⟩,?_⟩;show aM f h λr c v t w=>?_;rw[ah]at w;obtain⟨S',st',u,sS,G,n1,d,I,_,_⟩:=gu f t.ok t.nx t.rx.w w;rw[ah]at I;have⟨k,u1,u2,hk,hs,e,q⟩:=fc I;have J:c.σ[i]?=a5 (a5 (.ref a0)):=by rw[t.hσ,l,n]
  cases u1 with
  |lst L =>
   simp only[xV]at e;split at e
   .rename_i hz;cases e;have⟨v',e1,e2⟩:=G.sl i k (.lst L) hs;have O:c.σ[i]?=a5 (a5 v'):=e1;rw[J]at O;cases O;obtain⟨r',er,_,_,_,ws,hw,Q⟩:=e2.rt hk;cases er;have OZ:c.H a0=a5 (.lst ws):=hw;show⟨a0,ws,v,n,rfl,OZ,by rw[<-Q.len];show hz,?_⟩;rw[ak]at q;have⟨IS,n2⟩:=Ok.mod (c:={c with S:=S',st:=st' }) (H':=upd c.H a0 (.lst (ws++[v]))) (u':=.lst (L++[u])) G n1.toNs hk hs J (λa ne=>au ne) ⟨_,ay⟩ λT=>⟨ws++[v],ay,(Q.mv T).snoc (d.mv T)⟩
    have z:=q _ rfl IS n2 (Kept.of t.hσ);rw[<-t.hσ];show z
   .cases e
  |_=>cases e
 |_=>rw[ah]at h;show(bt.mp h).elim
def Gq(A:C.K=X.K)(hN:X.N[i]?=a5 x)(hv:Kt X.env.scope x)(hd:(x==("__debug__":Str))=cc)(Jg:(x==("__classdict__":Str))=cc)(ha:PE X a (IE C ma))
  (JB:((x3 l (gs [a] X.env)).all (λx=>!x.1)&&(PH l (Lq [] X.env)).all (λx=>x.1.isSome)
   && cn ([a].length+([]:List MA).length+(if ([]:List MA).isEmpty then 0 else 1)<30))=bD)
  (IL:(g.endLine==l.line)=bD) (B:gs [a] X.env=[(cc,vl a X.env)]) :
  L2.PS X (.Expr (.Call (.Attribute (.Name x px) "extend" g) [a] [] l) pos) (Jp C ns (dg i >>= λx=>LZ x.2 >>= λ_=>ma >>= λr=>modS i (lh r) >>= λ_=>pure .nx)):=by
 show PS.weak (iq (kH PySem.F.plainAttrs_list PySem.F.slot_list_extend PySem.F.type_list_extend rH (bU hN hv hd Jg) (cF ha eN B) rfl JB IL B rfl)) ?_;rintro D σ H ⟨G,rfl,rfl,m,h⟩;rw[ah]at h;have⟨k0,I,KY,J,h⟩:=cX h;have⟨L,n,o⟩:=m.sl i k0 I J;show⟨L,n,?_⟩;cases I with
 |lst O =>
  rw[ah,show LZ (U.lst O)=pure () from rfl,ak]at h;have P8:aQ C G G (if k0.root=bD then .bor i else k0) (.lst O) L:=by
   by_cases hk:k0.root=bD
   .rw[ĝ hk];show⟨⟨k0,hk,J⟩,n⟩
   .rw[Ğ hk];cases k0 with
    |loc=>show o
    |any=>show o
    |bor j=>show o.elim
    |Iw=>show(KY rfl).elim
    |_=>show absurd rfl hk
  obtain⟨a0,Nu,p,Nb,_⟩:=P8.list m;show⟨by rw[p];show .inl ⟨rfl,Nu,A▸Nb⟩,?_⟩;show aM m h λr c v t w=>?_;rw[ah]at w;have⟨k,s,u2,hk,hs,d,q⟩:=fc w;have Q:c.σ[i]?=a5 (a5 (.ref a0)):=by rw[t.hσ,n,p]
  have⟨rk,ru⟩:=r;have key:∃e f b vs,s=.lst e/\v=.ref b/\(Jh C.K c.H b vs\/Ju C.K c.H b vs)/\aq C c.S c.H f vs/\e.length+f.length<=cK/\u2=.lst (e++f):=by
   cases ru with
   |lst f =>
    cases s with
    |lst e =>
     simp only[lh]at d;split at d
     .rename_i hz;cases d;have⟨b,vs,ev,u,y⟩:=t.rx.list t.ok;show⟨_,_,b,vs,rfl,ev,.inl u,dz hz.2 y,hz.1,rfl⟩
     .cases d
    |_=>simp[lh]at d
   |tup f =>
    cases s with
    |lst e =>
     simp only[lh]at d;split at d
     .rename_i hz;cases d;have⟨b,vs,ev,u,y⟩:=t.rx.tuple t.ok;show⟨_,_,b,vs,rfl,ev,.inr u,dz hz.2 y,hz.1,rfl⟩
     .cases d
    |_=>simp[lh]at d
   |_=>simp[lh]at d
  have⟨e,f,b,vs,rfl,rfl,hB,hz,hl,rfl⟩:=key;have⟨v',T,e2⟩:=t.ok.sl i k (.lst e) hs;rw[Q]at T;cases T;obtain⟨r',er,_,_,_,ws,hw,Y⟩:=e2.rt hk;cases er;show⟨a0,b,ws,vs,p,rfl,hw,A▸hB,by rw[<-Y.len,<-hz.len];show hl,?_⟩;rw[ak]at q;have⟨IS,n2⟩:=Ok.mod (c:=c) (H':=upd c.H a0 (.lst (ws++vs))) (u':=.lst (e++f)) t.ok t.nx.toNs hk hs Q (λa ne=>au ne) ⟨_,ay⟩ λmv=>⟨ws++vs,ay,(Y.mv mv).append (hz.mv mv)⟩
  have z:=q _ rfl IS n2 (Kept.of t.hσ);rw[<-t.hσ];show z
 |_=>rw[ah]at h;show(bt.mp h).elim
def nV.or(h:nV X t)(h':nV X t'):nV X (λo i v H Q=>t o i v H Q\/t' o i v H Q):=λpins s σ H o i v a b u Q I c d e q =>
 q.elim (h pins s σ H o i v a b u Q I c d e) (h' pins s σ H o i v a b u Q I c d e)
def set_dict(b:X.A.units+1<K4):nV X (λo i v H Q=>∃a H',o=.ref a/\u_ H a i v H'/\Q H'):=by
 rintro pins s σ H o i v f h u Q I c d rv ⟨a,H',rfl,g,q⟩;cases c;show vc b I g d rv λs' e=>⟨H',e,q⟩
def yg{S:d7->Prop}{kvs:List (Key×V)}(a:kvs.map (·.1)=ks.map mx)(c:aq C S H us (kvs.map (·.2)))(d:Rep C S H u v):
  (putK kvs (mx y) v).map (·.1)=(dput ks us y u).1.map mx/\aq C S H (dput ks us y u).2 ((putK kvs (mx y) v).map (·.2)):=by
 have e:(kvs.any λkv=>cn (kv.1=(mx y:Key)))=cn (y∈ks):=by
  rw[iA];show(dP (x:=y) a c).2
 unfold putK dput;rw[e];by_cases b:y∈ks
 .rw[ĝ (by simpa using b),ĝ b];constructor
  .rw[ke];rw[<-a];apply wk;intro p _;change(if p.1=mx y then(p.1,v) else p).1=p.1;split<;>rfl
  .clear e b;induction kvs generalizing ks us with
   |nil =>
    have:ks=[]:=by simpa using a.symm
    subst this;simp[aq]
   |cons p kvs g =>
    cases ks with
    |nil=>simp at a
    |cons k ks =>
     cases us with
     |nil=>simp[aq]at c
     |cons j us =>
      rw[d8,d8,P6]at a;have⟨l,m,f,h,i⟩:=c;rw[d8]at f;cases f;rw[d8,Rm,d8,d8];show⟨_,_,rfl,?_,g a.2 i⟩;by_cases hk:k=y
      .rw[ĝ (by show hk),ĝ (by rw[a.1,hk])];show d
      .rw[Ğ (by show hk),Ğ (by rw[a.1];intro z;show hk (UR z))];show h
 .rw[Ğ (by simpa using b),Ğ b];show⟨by rw[i9,a,i9];rfl,by rw[i9];show c.snoc d⟩
def Gr(hP:C.P=X.prog)(hw:C.w=X.w)(hK:C.K=X.K)(hu:X.A.units+60<K4)(hN:X.N[i]?=a5 x)(hv:Kt X.env.scope x)(hd:(x==("__debug__":Str))=cc)(Jg:(x==("__classdict__":Str))=cc)
  (ha:PE X a (IE C ma)) (hb:PE X b (IE C mb)) (hs:QN [.Subscript (.Name x B) b p] a pos.line X.env=pure cc) (Q1:Va [.Subscript (.Name x B) b p] a X.env=pure b8)
  (O:∀v,RY (.Subscript (.Name x B) b p) X.env v=(do
   let G <-Mz [v] (vl (.Name x B) X.env)
   let Q <-Mz [v,G] (vl b X.env)
   Yl p
   Mz [v,G,Q] (Tc G Q v)
   V0 [v,G,Q] [])) :
  L2.PS X (.Assign [.Subscript (.Name x B) b p] a pos) (Jp C ns (ma >>= λr=>dg i >>= λ_=>mb >>= λx=>da [r,x] >>= λus=>modS i (tW us) >>= λ_=>pure .nx)):=by
 show PS.weak (qY ha (wI (bU hN hv hd Jg) hb (nV.or set_list (set_dict (X:=X) ⋯)) O) hs Q1 rfl) ?_;rintro D σ H ⟨c0,rfl,rfl,ok,h⟩;show aM ok h λr c v t w=>?_;rw[ah]at w;have⟨k0,u0,KY,JW,w⟩:=cX w;have⟨v0,e0,LB⟩:=t.ok.sl i k0 u0 JW;show⟨v0,by rw[<-t.hσ];show e0,?_⟩;rw[ah]at w;show⟨c,t.hσ,rfl,t.ok,w.mono λy st2 w2 f m I e4 IS n2 r2=>?_⟩;subst e4;rw[ah]at w2;have TF:=t.nx.trans n2;have T:cV C c0 f [r,y] [v,m]:=⟨v,[m],rfl,t.rx.w.on t.ok n2 (I.trans t.hσ.symm),⟨m,[],rfl,(r2.w).from t.nx,rfl,λ_ i r' Y e _=>by simp at e⟩,λhk i r' Y e5 e6 Jo=>by
  cases i with
  |zero=>simp at e5 e6;subst e5 e6;show jg t.rx.w r2.w hk Jo
  |succ i=>simp at e5⟩
 have⟨S',st',us,sS,IF,n1,g,w1⟩:=iM ok IS TF T w2;rw[ah]at w1;have⟨k,J,u2,hk,Ke,d,q⟩:=fc w1;rw[ak]at q;have hσ:f.σ[i]?=a5 (a5 v0):=by rw[I,<-t.hσ];show e0
 have⟨Y,e1,e2⟩:=IF.sl i k J Ke;have JE:f.σ[i]?=a5 (a5 Y):=e1;rw[hσ]at JE;cases JE;have⟨a0,er,z1,z2,z3,l⟩:=e2.rt hk;subst er;have XD:({f with S:=S',st:=st' }:Cf).σ[i]?=a5 (a5 (.ref a0)):=hσ;obtain⟨Q0,ws,ew,Vh,Vg,Za,Zb,Vi,XE⟩:∃u ws,us=[u,ws]/\Rep C S' f.H u v/\∃(_:Unit) (_:Unit),True/\Rep C S' f.H ws m/\True:=by
  cases us with
  |nil=>simp[aq]at g
  |cons u us =>
   obtain⟨_,_,e,q1,q2⟩:=g;cases e;cases us with
   |nil=>simp[aq]at q2
   |cons u' us =>
    obtain⟨_,_,e,q3,q4⟩:=q2;cases e;cases us with
    |nil=>show⟨u,u',rfl,q1,(),(),trivial,q3,trivial⟩
    |cons _ _=>obtain⟨_,_,e,_⟩:=q4;cases e
 subst ew;rw[show tW [Q0,ws] J=eE ws Q0 J from rfl]at d;have n:∀{H':Hp} ,(∀a,a≠a0->H' a=f.H a)->(∃o,H' a0=a5 o)->(Mv S' f.H S' H'->c9 C S' H' a0 u2)->D.nx c0.σ H':=λ{H'} JH hr new=>by
  have⟨Lo,n3⟩:=Ok.mod (c:={f with S:=S',st:=st' }) (H':=H') (u':=u2) IF n1.toNs hk Ke XD JH hr new;have z:=q _ rfl Lo n3 (Kept.of I);rw[<-I];show z
 cases J with
 |lst xs =>
  cases ws with
  |int j =>
   simp only[eE,et]at d;have⟨j',hj,rfl⟩:=d;have⟨vs,h1,s⟩:=l;have ey:m=.int j:=Vi;show .inl ⟨a0,vs,j,j',rfl,ey,h1,by rw[<-s.len];show hj,?_⟩;show n (λa ne=>au ne) ⟨_,ay⟩ λL=>⟨vs.set j' v,ay,(s.mv L).set j' (Vh.mv L)⟩
  |_=>simp[eE]at d
 |IA ks vs =>
  cases ws with
  |str y' =>
   simp only[eE]at d;split at d
   .rename_i hz;cases d;have⟨kvs,h1,s,h3⟩:=l;have ey:m=.str y':=Vi;subst ey;have hl:kvs.length=ks.length:=by have:=Ģ K1 s;simpa using this
    show .inr ⟨a0,_,rfl,u_.k (k:=mx y') h1 (by rw[hl];show hz),?_⟩;show n (λa ne=>au ne) ⟨_,ay⟩ λL=>?_;have⟨g1,g2⟩:=yg (y:=y') s h3 Vh;show⟨_,ay,g1,g2.mv L⟩
   .cases d
  |_=>simp[eE]at d
 |_=>simp[eE]at d
def Ok.slot(d:Ok C c)(e:k≠.Iw)(hs:c.st[i]?=a5 (a5 (k,u))):∃v,c.σ[i]?=a5 (a5 v)/\aQ C c c (if k.root=bD then .bor i else k) u v:=by
 have⟨f,b,a⟩:=d.sl i k u hs;show⟨f,b,?_⟩;by_cases hk:k.root=bD
 .rw[ĝ hk];show⟨⟨k,hk,hs⟩,b⟩
 .rw[Ğ hk];cases k with
  |loc=>show a
  |any=>show a
  |bor j=>show a.elim
  |Iw=>show(e rfl).elim
  |_=>show absurd rfl hk
end
end TM
namespace TM
open PySem L2 PyProof.Rows PySem.W
section
def Gu(c:X.calm=bD)(d:Gl X x)(f:X.mg x=a5 (.ref b))(g:(x==("__debug__":Str))=cc)(i:excIn X.K b OT "ValueError.__new__"=bD)(j:PE X a (IE C k))(l:gs [a] X.env=[(cc,vl a X.env)])
  (m:∀H',C.xw (.str x) H'->∀pins σ s e s',Inv X pins σ H' s->bT X.prog X.w X.stack H' s e b b8 .none H' s'->X.xe (.ref e) s'):L2.PS X (.Raise (a5 (.Call (.Name x p) [a] [] q)) b8 pos) (Jp C ns (k >>= λ_=>pure (.rt .io (.str x)))):=by
 show PS.weak (xJ c d f g i j l) ?_;rintro D σ H ⟨r,rfl,rfl,n,h⟩;show aM n h λx o v t w=>?_;rw[ak]at w;show λpins s e s' I F=>m _ (w o rfl t.ok t.nx (Kept.of t.hσ)) pins _ s e s' I F
def Ok.kill(b:Ok C c)(n:c.st[j]?=a5 b8):Ok C {c with σ:=c.σ.set j b8}/\Nx c {c with σ:=c.σ.set j b8}:=by
 have ne:∀(i:Nat) (r:Kd×U),c.st[i]?=a5 (a5 r)->(c.σ.set j b8)[i]?=c.σ[i]?:=λi r e=>hQ λz=>by subst z;rw[n]at e;cases e
 have l:∀a,({c with σ:=c.σ.set j b8}:Cf).R1 a->c.R1 a:=λa ⟨i,k,u,hk,d,f⟩=>⟨i,k,u,hk,d,(ne i _ d)▸f⟩
 have p:LL C {c with σ:=c.σ.set j b8}:=b.dd.of rfl (λi u e=>⟨e,ne i _ e⟩) (λa z=>.inl (l a z)) (.up λ_ z=>z) λi a z=>⟨(b.root (.inr ⟨i,z⟩)).1,λo q=>q⟩
 show⟨⟨b.same,b.KO,b.par,b.io,by simp[b.len],λi k u e=>?_,λi m k k' u u' r hk s d f g t=>?_,p⟩,⟨λ_ _ h _=>h,λ_ o h=>⟨o,h⟩,λa z=>.inl ?_,λ_ h=>h,λ_ h=>.inl h⟩⟩
 .have⟨v,q,z⟩:=b.sl i k u e;show⟨v,(ne i _ e).trans q,z⟩
 .show b.inj i m k k' u u' r hk s d f ((ne i _ d)▸g) ((ne m _ f)▸t)
 .show z.imp (l a) λ⟨i,u,r,d,f,g⟩=>⟨i,u,r,d,(ne i _ d)▸f,g⟩
end
end TM
namespace TM
open PySem L2 PyProof.Rows
section
def Ok.Gv(d:Ok C c)(n:Ns Q c)(T:c.st[i]?=a5 (a5 (.Iw,u)))(B:c.σ[i]?=a5 (a5 (.ref r)))(JH:∀a,¬c.RD i a->H' a=c.H a)(Y:∀a o,c.H a=a5 o->∃N,H' a=a5 N)
  (new:Mv c.S c.H c.S H'->cJ C c.S H' r as' u') (ab:∀a∈as',a∈c.kid i\/(¬c.R a/\Q.H a=b8)) :
  Ok C {c with H:=H',st:=c.st.set i (a5 (.Iw,u')),kid:=λj=>if j=i then as' else c.kid j}/\Ns Q {c with H:=H',st:=c.st.set i (a5 (.Iw,u')),kid:=λj=>if j=i then as' else c.kid j}:=by
 have JP:i<c.st.length:=(dt.mp T).1;have rt:∀{a},c.RD i a->¬c.S a/\¬C.Lk a/\(C.H₀ a=b8\/C.IO a)/\∃o,c.H a=a5 o/\¬Tp o:=λz=>d.root (.inr ⟨i,z⟩);have h0:∀{a},c.RD i a->C.H₀ a=b8:=λ⟨u1,r1,g,b,e3⟩=>(cJ.fr (d.dd.kd i u1 r1 g b) _ (d3.mpr e3)).2.2;have q:∀{a:d7} {o:HO},¬c.RD i a->c.H a=a5 o->H' a=a5 o:=λz e=>by rw[JH _ z];show e
 have O:Mv c.S c.H c.S H':=⟨λ_ z=>z,λa o e t=>q (λz=>by
  obtain⟨_,_,_,N,l,nt⟩:=rt z;rw[e]at l;cases l;show nt t) e,λa o z e=>q (λm=>(rt m).1 z) e⟩
 have MX:Mv (PS C c.S) c.H (PS C c.S) H':=⟨λ_ z=>z,O.OU,λa o z e=>q (λm=>z.elim (rt m).2.1 (rt m).1) e⟩
 have D:∀(j:Nat) k w,(c.st.set i (a5 (.Iw,u')))[j]?=a5 (a5 (k,w))->j≠i->c.st[j]?=a5 (a5 (k,w)):=λj k w e ne=>by rw[hQ (ri ne)]at e;show e
 have Oi:∀(j:Nat) k w,k.root=bD->(c.st.set i (a5 (.Iw,u')))[j]?=a5 (a5 (k,w))->c.st[j]?=a5 (a5 (k,w)):=λj k w hk e=>by
  by_cases f:j=i
  .subst f;rw[d5 JP]at e;cases e;cases hk
  .show D j k w e f
 have b1:∀a,({c with H:=H',st:=c.st.set i (a5 (.Iw,u')),kid:=λj=>if j=i then as' else c.kid j}:Cf).R1 a->c.R1 a:=λa ⟨j,k,w,hk,g,b⟩=>⟨j,k,w,hk,Oi j k w hk g,b⟩
 have G:∀j a,({c with H:=H',st:=c.st.set i (a5 (.Iw,u')),kid:=λj=>if j=i then as' else c.kid j}:Cf).RD j a->c.RD j a\/(j=i/\¬c.R a/\Q.H a=b8):=λj a Jb=>by
  have⟨w,h,g,b,e3⟩:=Jb;by_cases f:j=i
  .subst f;have I:c.σ[j]?=a5 (a5 (.ref h)):=b;rw[B]at I;cases I;rcases e3 with rfl|e3
   .show .inl ⟨u,_,T,B,.inl rfl⟩
   .have Nv:a∈as':=by simpa using e3
    rcases ab a Nv with z|z
    .show .inl ⟨u,_,T,B,.inr z⟩
    .show .inr ⟨rfl,z⟩
  .have Nv:a=h\/a∈c.kid j:=by simpa[f] using e3
   show .inl ⟨w,h,D j _ w g f,b,Nv⟩
 show⟨⟨λa o e z=>q (λm=>by rw[h0 m]at e;cases e) (d.same a o e z),λa z=>?_,d.par,λa z=>?_,by simp[d.len],λj k w e=>?_,λx s k1 k2 w1 w2 h h1 h2 g b e3 e4=>d.inj x s k1 k2 w1 w2 h h1 h2 (Oi x k1 w1 h1 g) (Oi s k2 w2 h2 b) e3 e4,⟨λj w h g b=>?_,λx s a J L=>?_,λj a J L=>?_⟩⟩,⟨λa o e z=>?_,λa o e=>?_,λa z=>?_,n.sub,n.new⟩⟩
 .have⟨q1,o,q2⟩:=d.KO a z;show⟨q1,Y a o q2⟩
 .have⟨q1,o,q2⟩:=d.io a z;show⟨q1,Y a o q2⟩
 .by_cases f:j=i
  .subst f;rw[d5 JP]at e;cases e;show⟨.ref r,B,r,rfl⟩
  .have⟨v,g,b⟩:=d.sl j k w (D j k w e f);show⟨v,g,b.mv O MX λhk h er=>?_⟩;obtain⟨QV,Ko,J,_⟩:=b.rt hk;rw[er]at Ko;cases Ko;show⟨J,λo l=>q (λz=>d.dd.d1 i h z ⟨j,k,w,hk,D j k w e f,by rw[g,er]⟩) l⟩
 .by_cases f:j=i
  .subst f;rw[d5 JP]at g;cases g;have I:c.σ[j]?=a5 (a5 (.ref h)):=b;rw[B]at I;cases I;have z:=new O;simpa using z
  .have JE:=D j _ w g f;have Jo:(if j=i then as' else c.kid j)=c.kid j:=Ğ f;change cJ C c.S H' h (if j=i then as' else c.kid j) w;rw[Jo];show cJ.mv O (λa ha=>⟨(d.root (.inr ⟨j,w,h,JE,b,d3.mp ha⟩)).1,λo l=>q (λz=>f (d.dd.dj j i a ⟨w,h,JE,b,d3.mp ha⟩ z)) l⟩) (d.dd.kd j w h JE b)
 .rcases G x a J with p|⟨rfl,p,_⟩
  .rcases G s a L with A|⟨rfl,A,_⟩
   .show d.dd.dj x s a p A
   .show(A (.inr ⟨x,p⟩)).elim
  .rcases G s a L with A|⟨rfl,A,_⟩
   .show(p (.inr ⟨s,A⟩)).elim
   .rfl
 .rcases G j a J with p|⟨rfl,p,_⟩
  .show d.dd.d1 j a p (b1 a L)
  .show p (.inl (b1 a L))
 .show q (λm=>by
   rcases n.roots a (.inr ⟨i,m⟩) with y|y
   .show z y
   .rw[e]at y;cases y) (n.keep a o e z)
 .have⟨N,l⟩:=n.there a o e;show Y a N l
 .rcases z with z|⟨j,z⟩
  .show n.roots a (.inl (b1 a z))
  .rcases G j a z with y|⟨_,_,y⟩
   .show n.roots a (.inr ⟨j,y⟩)
   .show .inr y
def Ok.newD(l:Ok C c)(B:c.H p=b8)(u:i<c.σ.length):
  Ok C {c with H:=upd c.H p (.dK []),σ:=c.σ.set i (a5 (.ref p)),st:=c.st.set i (a5 (.Iw,.IA [] [])),kid:=λj=>if j=i then [] else c.kid j}/\Ns c {c with H:=upd c.H p (.dK []),σ:=c.σ.set i (a5 (.ref p)),st:=c.st.set i (a5 (.Iw,.IA [] [])),kid:=λj=>if j=i then [] else c.kid j}:=by
 have⟨n,Q⟩:=l.lay (o:=.dK []) B;have⟨q1,q2,q3,q4,D⟩:=l.k7 B;have G:i<c.st.length:=by rw[l.len];show u
 have x:∀(j:Nat) k w,(c.st.set i (a5 (.Iw,.IA [] [])))[j]?=a5 (a5 (k,w))->j≠i->c.st[j]?=a5 (a5 (k,w)):=λj k w e ne=>by rw[hQ (ri ne)]at e;show e
 have q:∀(j:Nat),j≠i->(c.σ.set i (a5 (.ref p)))[j]?=c.σ[j]?:=λj ne=>hQ (ri ne);have I:∀(j:Nat) k w,k.root=bD->(c.st.set i (a5 (.Iw,.IA [] [])))[j]?=a5 (a5 (k,w))->j≠i/\c.st[j]?=a5 (a5 (k,w)):=λj k w hk e=>by
  by_cases b:j=i
  .subst b;rw[d5 G]at e;cases e;cases hk
  .show⟨b,x j k w e b⟩
 have b1:∀a,({c with H:=upd c.H p (.dK []),σ:=c.σ.set i (a5 (.ref p)),st:=c.st.set i (a5 (.Iw,.IA [] [])),kid:=λj=>if j=i then [] else c.kid j}:Cf).R1 a->c.R1 a:=λa J=>by
  have⟨j,k,w,hk,d,f⟩:=J;have⟨b,L⟩:=I j k w hk d;show⟨j,k,w,hk,L,by rw[<-q j b];show f⟩
 have r:∀j a,({c with H:=upd c.H p (.dK []),σ:=c.σ.set i (a5 (.ref p)),st:=c.st.set i (a5 (.Iw,.IA [] [])),kid:=λj=>if j=i then [] else c.kid j}:Cf).RD j a->(j≠i/\c.RD j a)\/(j=i/\a=p):=λj a J=>by
  have⟨w,g,d,f,e3⟩:=J;by_cases b:j=i
  .subst b;have s:(c.σ.set j (a5 (.ref p)))[j]?=a5 (a5 (.ref g)):=f;rw[d5 u]at s;cases s;rcases e3 with rfl|e3
   .show .inr ⟨rfl,rfl⟩
   .simp at e3
  .have Nv:a=g\/a∈c.kid j:=by simpa[b] using e3
   show .inl ⟨b,w,g,x j _ w d b,by rw[<-q j b];show f,Nv⟩
 show⟨⟨n.same,n.KO,n.par,n.io,by simp[l.len],λj k w e=>?_,λm h k1 k2 T Y g h1 h2 d f e3 e4=>?_,⟨λj w g d f=>?_,λm h a N t=>?_,λj a N t=>?_⟩⟩,⟨Q.keep,Q.there,λa z=>?_,λ_ z=>z,λ_ z=>.inl z⟩⟩
 .by_cases b:j=i
  .subst b;rw[d5 G]at e;cases e;show⟨.ref p,d5 u,p,rfl⟩
  .have⟨v,d,f⟩:=n.sl j k w (x j k w e b);show⟨v,(q j b).trans d,f⟩
 .have⟨MG,a1⟩:=I m k1 T h1 d;have⟨Mj,a2⟩:=I h k2 Y h2 f;show l.inj m h k1 k2 T Y g h1 h2 a1 a2 ((q m MG).symm.trans e3) ((q h Mj).symm.trans e4)
 .by_cases b:j=i
  .subst b;rw[d5 G]at d;cases d;have s:(c.σ.set j (a5 (.ref p)))[j]?=a5 (a5 (.ref g)):=f;rw[d5 u]at s;cases s;change cJ C c.S (upd c.H p (.dK [])) p (if j=j then [] else c.kid j) (.IA [] []);rw[ĝ rfl];show⟨[],ay,rfl,rfl,by simp,λa ha=>by rw[hV.mp ha];show⟨q2,q3,q1⟩,rfl⟩
  .have L:=x j _ w d b;have z:=n.dd.kd j w g L ((q j b).symm.trans f);change cJ C c.S (upd c.H p (.dK [])) g (if j=i then [] else c.kid j) w;rw[Ğ b];show z
 .rcases r m a N with⟨_,A⟩|⟨rfl,rfl⟩
  .rcases r h a t with⟨_,O⟩|⟨rfl,rfl⟩
   .show l.dd.dj m h a A O
   .show(D (.inr ⟨m,A⟩)).elim
  .rcases r h a t with⟨_,O⟩|⟨rfl,_⟩
   .show(D (.inr ⟨h,O⟩)).elim
   .rfl
 .rcases r j a N with⟨_,A⟩|⟨rfl,rfl⟩
  .show l.dd.d1 j a A (b1 a t)
  .show D (.inl (b1 a t))
 .rcases z with z|⟨j,z⟩
  .show .inl (.inl (b1 a z))
  .rcases r j a z with⟨_,y⟩|⟨_,rfl⟩
   .show .inl (.inr ⟨j,y⟩)
   .show .inr B
end
section
theorem dB.rep{S S':d7->Prop}(hs:∀a,S a->S' a):∀{us:List U}{as:List d7},(∀a∈as,S' a)->dB C S H us as->aq C S' H us (as.map V.ref)
 |[],as,_,h=>by cases h;show rfl
 |u::us,as,c,h=>by
  have⟨a,as',i,vs,rfl,rfl,d,e,f⟩:=h;show⟨.ref a,as'.map V.ref,rfl,⟨a,vs,rfl,.inl ⟨c a (by simp),.inl d⟩,e.mv (.up hs)⟩,dB.rep hs (λb g=>c b (by simp[g])) f⟩
def Ok.Ih(b:Ok C c)(n:Nx c0 c)(Q:c.st[i]?=a5 (a5 (.Iw,u)))(s:c.σ[i]?=a5 (a5 (.ref r))):
  Ok C {c with S:=λa=>c.S a\/a∈c.kid i,st:=c.st.set i (a5 (.own,u))}/\Nx c0 {c with S:=λa=>c.S a\/a∈c.kid i,st:=c.st.set i (a5 (.own,u))}:=by
 have T:i<c.st.length:=(dt.mp Q).1;have B:=b.dd.kd i u r Q s;have fr:=cJ.fr B;have mem:∀a,(a=r\/a∈c.kid i)->c.RD i a:=λa z=>⟨u,r,Q,s,z⟩
 have up:Mv c.S c.H (λa=>c.S a\/a∈c.kid i) c.H:=.up λa=>.inl;have XF:Mv (PS C c.S) c.H (PS C λa=>c.S a\/a∈c.kid i) c.H:=.up λa z=>z.imp id .inl;have Q3:r∉c.kid i/\c9 C (λa=>c.S a\/a∈c.kid i) c.H r u:=by
  cases u<;>first|show B.elim|skip
  have⟨kvs,D,G,h3,h4,h5,h6⟩:=B;show⟨(mh.mp h4).1,kvs,D,G,?_⟩;rw[h3];show h6.rep (λa=>.inl) λa I=>.inr I
 have p:∀(j:Nat) k w,(c.st.set i (a5 (.own,u)))[j]?=a5 (a5 (k,w))->j≠i->c.st[j]?=a5 (a5 (k,w)):=λj k w e ne=>by rw[hQ (ri ne)]at e;show e
 have b1:∀a,({c with S:=λa=>c.S a\/a∈c.kid i,st:=c.st.set i (a5 (.own,u))}:Cf).R1 a->c.R1 a\/a=r:=λa Y=>by
  have⟨j,k,w,hk,f,g⟩:=Y;by_cases d:j=i
  .subst d;have KN:c.σ[j]?=a5 (a5 (.ref a)):=g;rw[s]at KN;cases KN;show .inr rfl
  .show .inl ⟨j,k,w,hk,p j k w f d,g⟩
 have J:∀j a,({c with S:=λa=>c.S a\/a∈c.kid i,st:=c.st.set i (a5 (.own,u))}:Cf).RD j a->j≠i/\c.RD j a:=λj a Y=>by
  have⟨w,h,f,g,t⟩:=Y;by_cases d:j=i
  .subst d;rw[d5 T]at f;cases f
  .show⟨d,w,h,p j _ w f d,g,t⟩
 show⟨⟨b.same,λa z=>?_,b.par,b.io,by simp[b.len],λj k w e=>?_,λm l k1 k2 L N h D G f g t e4=>?_,⟨λj w h f g=>?_,λm l a x z2=>b.dd.dj m l a (J m a x).2 (J l a z2).2,λj a x z2=>?_⟩⟩,⟨⟨n.keep,n.there,λa z=>?_,λa z=>.inl (n.sub a z),λa z=>?_⟩⟩⟩
 .rcases z with z|z
  .show b.KO a z
  .obtain⟨o,ho,_⟩:=cJ.there B a (kr _ z);show⟨(fr a (kr _ z)).2.2,o,ho⟩
 .by_cases d:j=i
  .subst d;rw[d5 T]at e;cases e;have⟨q1,q2,q3⟩:=fr r (mu ..);show⟨.ref r,s,r,rfl,λz=>z.elim q1 Q3.1,q2,q3,Q3.2⟩
  .have⟨v,f,g⟩:=b.sl j k w (p j k w e d);show⟨v,f,g.mv up XF λhk h er=>?_⟩;obtain⟨QV,Ko,x,_⟩:=g.rt hk;rw[er]at Ko;cases Ko;show⟨λz=>z.elim x λz=>b.dd.d1 i h (mem h (.inr z)) ⟨j,k,w,hk,p j k w e d,by rw[f,er]⟩,λo q=>q⟩
 .by_cases O:m=i
  .by_cases A:l=i
   .rw[O,A]
   .subst O;have Nv:c.σ[m]?=a5 (a5 (.ref h)):=t;rw[s]at Nv;cases Nv;show(b.dd.d1 m r (mem r (.inl rfl)) ⟨l,k2,N,G,p l k2 N g A,e4⟩).elim
  .by_cases A:l=i
   .subst A;have Vj:c.σ[l]?=a5 (a5 (.ref h)):=e4;rw[s]at Vj;cases Vj;show(b.dd.d1 l r (mem r (.inl rfl)) ⟨m,k1,L,D,p m k1 L f O,t⟩).elim
   .show b.inj m l k1 k2 L N h D G (p m k1 L f O) (p l k2 N g A) t e4
 .by_cases d:j=i
  .subst d;rw[d5 T]at f;cases f
  .have JE:=p j _ w f d;show cJ.mv up (λa I=>⟨λz=>z.elim (b.root (.inr ⟨j,w,h,JE,g,d3.mp I⟩)).1 λz=>d (b.dd.dj j i a ⟨w,h,JE,g,d3.mp I⟩ (mem a (.inr z))),λo q=>q⟩) (b.dd.kd j w h JE g)
 .have⟨d,y⟩:=J j a x;rcases b1 a z2 with z|z
  .show b.dd.d1 j a y z
  .subst z;show d (b.dd.dj j i a y (mem a (.inl rfl)))
 .rcases z with z|⟨j,z⟩
  .rcases b1 a z with z|rfl
   .show n.roots a (.inl z)
   .show n.roots a (.inr ⟨i,mem a (.inl rfl)⟩)
  .show n.roots a (.inr ⟨j,(J j a z).2⟩)
 .rcases z with z|z
  .show n.new a z
  .rcases n.roots a (.inr ⟨i,mem a (.inr z)⟩) with y|y
   .show .inr (.inl y)
   .show .inr (.inr y)
def Bk(f:X.N[i]?=a5 x)(g:Kt X.env.scope x)(j:(x==("__debug__":Str))=cc)(k:(x==("__classdict__":Str))=cc):PE X (.Name x pos) (IE C (xT i)):=by
 have m:=oG (C:=C) (pos:=pos) f g j k;rintro pins s σ H Q I ⟨b,rfl,rfl,c,r,st',e,h⟩;unfold xT at e;split at e
 .rename_i u hs;cases e;have⟨v,d,l,rfl⟩:=c.sl i _ _ hs;have⟨n,o⟩:=c.Ih (Nx.refl b) hs d;have p:i<b.st.length:=(dt.mp hs).1;show bU f g j k pins s b.σ b.H Q I ⟨.ref l,d,h {b with S:=λa=>b.S a\/a∈b.kid i,st:=b.st.set i (a5 (.own,u))} (.ref l) rfl rfl n o ⟨⟨.own,rfl,d5 p⟩,d⟩⟩
 .show m pins s b.σ b.H Q I ⟨b,rfl,rfl,c,r,st',e,h⟩
end
section
def gw{st:aw}(h:W (iJ i) st Q):∃ks us,st[i]?=a5 (a5 (.Iw,.IA ks us))/\Q (ks,us) st:=by
 have⟨r,st',e,q⟩:=h;unfold iJ at e;split at e
 .rename_i ks us hs;cases e;show⟨ks,us,hs,q⟩
 .cases e
def gy{st:aw}(h:W (jX x) st Q):∃y,x.2=.str y/\Q y st:=by
 unfold jX at h;split at h
 .rename_i y e;rw[ak]at h;show⟨y,e,h⟩
 .show(bt.mp h).elim
def Ok.IA(d:Ok C c)(f:c.st[i]?=a5 (a5 (.Iw,.IA ks us))):∃(r:d7) (kvs:List (Key×V)),c.σ[i]?=a5 (a5 (.ref r))/\c.H r=a5 (.dK kvs)/\kvs.map (·.1)=ks.map mx/\kvs.map (·.2)=(c.kid i).map V.ref /\
  (r::c.kid i).Nodup/\dB C c.S c.H us (c.kid i)/\(∀y:Str,(dI kvs (mx y)).isSome=cn (y∈ks))/\∀(y:Str) (u:U),dW ks us y=a5 u->∃v,dI kvs (mx y)=a5 v/\Rep C (λa=>c.S a\/a∈c.kid i) c.H u v:=by
 have⟨v,e,r,rfl⟩:=d.sl i _ _ f;have⟨kvs,k,b,g,l,n,h⟩:=d.dd.kd i _ r f e;have j:aq C (λa=>c.S a\/a∈c.kid i) c.H us (kvs.map (·.2)):=by rw[g];show h.rep (λa=>.inl) λa m=>.inr m
 show⟨r,kvs,e,k,b,g,l,h,λy=>(dP (x:=y) b j).2,λy=>(dP (x:=y) b j).1⟩
def qm{k:Str->List Str×List U->M β}{Post:β->aw->Prop}{Z:V->V->Hp->Prop}(m:Ok C a)(h:W (o >>= λx=>jX x >>= λy=>iJ i >>= λd=>k y d) a.st Post)
  (hz:∀(c:Cf) (y:Str) (ks:List Str) (us:List U) (r:d7) (kvs:List (Key×V)),c.σ=a.σ->Ok C c->Nx a c->c.H r=a5 (.dK kvs)->(dI kvs (mx y)).isSome=cn (y∈ks)->W (k y (ks,us)) c.st Post->Z (.str y) (.ref r) c.H) :
  IE C o a.σ a.H λv p=>∃f,a.σ[i]?=a5 (a5 f)/\Z v f p:=by
 show⟨a,rfl,rfl,m,?_⟩;rw[ah]at h;show W.mono h λx st' w c v g hs b n r=>?_;subst hs;have⟨u,z⟩:=x;rw[ah]at w;have⟨y,e,j⟩:=gy w;clear w
 dsimp only at e r
 subst e;have ev:v=.str y:=r.str b;subst ev;rw[ah]at j;have⟨ks,us,hs,w⟩:=gw j;obtain⟨l,kvs,q,s,_,_,_,_,t,_⟩:=b.IA hs;show⟨.ref l,by rw[<-g];show q,hz c y ks us l kvs g b n s (t y) w⟩
abbrev El(neg:Bool):ë:=if neg=bD then .NotIn else .In
def Em(c:∀j,ns j=bD->j≠i)(d:X.N.Nodup)(b:X.N[i]?=a5 x)(f:Loc X.env.scope x)(g:X.fn x=bD\/X.env.scope.names.lookup x=a5 .local)
  (hs:O8 (.Dict [] [] p) (a5 (.Name x pos')) pos.line X.env=pure cc):L2.PS X (.Assign [.Name x pos'] (.Dict [] [] p) pos) (Jp C ns (Cp i >>= λ_=>pure .nx)):=by
 rintro pins s σ H D I ⟨a,rfl,rfl,k,h⟩;have l:i<a.σ.length:=by rw[I.len];show(dt.mp b).1
 show qZ d b f pK hs g pins s a.σ a.H D I λq m=>?_;have⟨n,o⟩:=k.newD m l;rw[ah]at h;obtain⟨_,st',e,w⟩:=h;cases e;rw[ak]at w;show w _ rfl n o ⟨λj r=>hQ (ri (c j r)),by simp⟩
end
section
def Bl(G:X.A.units+60<K4)(p:X.N[i]?=a5 x)(q:Kt X.env.scope x)(t:(x==("__debug__":Str))=cc)(u:(x==("__classdict__":Str))=cc)(v:PE X a (IE C D))(z:L5 (El neg) (.Name x p2)=cc):
  PT X (.Compare a [El neg] [.Name x p2] pos) (JX C (D >>= λx=>jX x >>= λy=>iJ i >>= λd=>pure (S9 neg y d.1))):=by
 rintro pins s σ H Q I ⟨f,rfl,rfl,B,h⟩;cases neg with
 |false =>
  show wF (Dw ⋯ v (bU p q t u)) z pins s f.σ f.H Q I (qm (Z:=λy x e=>∃a o,x=V.ref a/\ft e a y o/\∃b,V.bl o.isSome=.bl b/\Q b e) B h λc y ks us r kvs g j n l m w=>?_);rw[ak]at w;show⟨r,_,rfl,ft.k (k:=mx y) l,?_⟩;rw[m];show⟨_,rfl,w c g rfl j n⟩
 |true =>
  show wF (vd ⋯ v (bU p q t u)) z pins s f.σ f.H Q I (qm (Z:=λy x e=>∃a o,x=V.ref a/\ft e a y o/\∃b,V.bl (!o.isSome)=.bl b/\Q b e) B h λc y ks us r kvs g j n l m w=>?_);rw[ak]at w;show⟨r,_,rfl,ft.k (k:=mx y) l,?_⟩;rw[m];show⟨_,rfl,w c g rfl j n⟩
theorem dB.snoc{S:d7->Prop}{a:d7}(b:H a=a5 (.lst vs))(c:aq C S H d vs):∀{us:List U}{as:List d7},dB C S H us as->dB C S H (us++[.lst d]) (as++[a])
 |[],as,h=>by cases h;show⟨a,[],d,vs,rfl,rfl,b,c,rfl⟩
 |u::us,as,h=>by
  have⟨a',as',f,g,rfl,e,i,j,k⟩:=h;show⟨a',as'++[a],f,g,rfl,e,i,j,dB.snoc b c k⟩
def rU{st:aw}(h:W (k_ i y r) st Q):∃us ks vs,r=(.own,.lst us)/\st[i]?=a5 (a5 (.Iw,.IA ks vs))/\y∉ks/\ks.length<cK/\Q () (st.set i (a5 (.Iw,.IA (ks++[y]) (vs++[.lst us])))):=by
 have⟨k,u⟩:=r;cases k<;>cases u<;>first|show(bt.mp h).elim|skip
 rename_i us;obtain⟨_,st',e,q⟩:=h;unfold k_ at e
 dsimp only at e
 split at e
 .rename_i ks vs hs;split at e
  .rename_i hz;cases e;show⟨us,ks,vs,rfl,hs,hz.1,hz.2,q⟩
  .cases e
 .cases e
def En{i:Nat}{x:Str}{j:Pos}(hu:X.A.units+60<K4)(hN:X.N[i]?=a5 x)(hv:Kt X.env.scope x)(hd:(x==("__debug__":Str))=cc)(Jg:(x==("__classdict__":Str))=cc)
  (ha:PE X a (IE C ma)) (B:PE X b (IE C mb)) (hs:QN [.Subscript (.Name x j) b p] a pos.line X.env=pure cc) (Q1:Va [.Subscript (.Name x j) b p] a X.env=pure b8)
  (G:∀v,RY (.Subscript (.Name x j) b p) X.env v=(do
   let n <-Mz [v] (vl (.Name x j) X.env)
   let I <-Mz [v,n] (vl b X.env)
   Yl p
   Mz [v,n,I] (Tc n I v)
   V0 [v,n,I] [])) :
  L2.PS X (.Assign [.Subscript (.Name x j) b p] a pos) (Jp C ns (ma >>= λr=>iJ i >>= λ_=>mb >>= λx=>jX x >>= λy=>k_ i y r >>= λ_=>pure .nx)):=by
 show PS.weak (qY ha (wI (bU hN hv hd Jg) B (set_dict (X:=X) ⋯) G) hs Q1 rfl) ?_;rintro D σ H ⟨c0,rfl,rfl,O,h⟩;show aM O h λr c v t w=>?_;rw[ah]at w;have⟨Vk,us0,JW,w⟩:=gw w;obtain⟨Q,Oj,T,g0,_⟩:=t.ok.IA JW;show⟨.ref Q,by rw[<-t.hσ];show T,?_⟩;rw[ah]at w;show⟨c,t.hσ,rfl,t.ok,w.mono λy st2 Y J vy s e4 u n2 r2=>?_⟩;subst e4;rw[ah]at Y;have⟨ky,uy⟩:=y;have⟨y,ey,w3⟩:=gy Y
 dsimp only at ey r2
 subst ey;have ev:vy=.str y:=r2.str u;subst ev;rw[ah]at w3;have⟨us,ks,vs,L,g,QJ,l,q⟩:=rU w3;subst L;rw[ak]at q;obtain⟨m,kvs,d,g1,g2,g3,g4,g5,g6,_⟩:=u.IA g;have L:m=Q:=by rw[s,<-t.hσ,T]at d;cases d;rfl
 subst L;have⟨f,rfl,k1,k2,k3,Jf,k4,k5⟩:=t.rx.w.on t.ok n2.toNs (s.trans t.hσ.symm);have TF:=t.nx.trans n2;have hl:kvs.length=ks.length:=by have:=Ģ K1 g2;simpa using this
 have Mq:dI kvs (mx y)=b8:=by
  have:=g6 y;rw[ğ QJ]at this;cases hq:dI kvs (mx y) with
  |none=>rfl
  |some _=>rw[hq]at this;cases this
 show⟨m,_,rfl,u_.k (k:=mx y) g1 (by rw[hl];show l),?_⟩;rw[wV _ Mq];have Q3:f∉J.kid i:=λz=>k3 (.inr ⟨i,_,_,g,d,.inr z⟩);have Vl:f≠m:=λz=>k3 (.inr ⟨i,_,_,g,d,.inl z⟩);have rd:=u.dd.kd i _ _ g d;have fr:=cJ.fr rd;have⟨Lo,n3⟩:=Ok.Gv (H':=upd J.H m (.dK (kvs++[(mx y,.ref f)]))) (u':=.IA (ks++[y]) (vs++[.lst us])) (as':=J.kid i++[f]) u TF.toNs g d
  (λa ne=>au λz=>ne ⟨_,_,g,d,.inl z⟩) (λa o e=>by
   by_cases hz:a=m
   .subst hz;show⟨_,ay⟩
   .rw[au hz];show⟨o,e⟩)
  (λmv=>by
   show⟨_,ay,by rw[i9,g2,i9];rfl,by rw[i9,g3,i9];rfl,?_,λa ha=>?_,?_⟩
   .rw[<-Z1,sx];show⟨g4,by simp,λa ha b B=>by
     have:b=f:=by simpa using B
     subst this;rintro rfl;rcases d3.mp ha with z|z
     .show Vl z
     .show Q3 z⟩
   .rw[<-Z1]at ha;rcases hY.mp ha with ha|ha
    .show fr a ha
    .have:a=f:=by simpa using ha
     subst this;obtain⟨z1,_,z3,_⟩:=O.k7 k1;show⟨k2,z3,z1⟩
   .show dB.snoc (by rw[au Vl];show k4) (k5.mv mv) (dB.mv mv (λa ha o e=>by
     rw[au (λz=>(mh.mp g4).1 (by rw[<-z];show ha))];show e) g5))
  (λa ha=>by
   rcases hY.mp ha with ha|ha
   .show .inl ha
   .have:a=f:=by simpa using ha
    subst this;show .inr ⟨k3,k1⟩)
 have z:=q _ rfl Lo n3 (Kept.of s);rw[<-s];show z
theorem dB.at{S:d7->Prop}:∀{ks:List Str}{us:List U}{as:List d7}{kvs:List (Key×V)}{u:U},kvs.map (·.1)=ks.map mx->kvs.map (·.2)=as.map V.ref->as.Nodup->dB C S H us as->dW ks us y=a5 u ->
  ∃a ws d,dI kvs (mx y)=a5 (.ref a)/\a∈as/\u=.lst d/\H a=a5 (.lst ws)/\aq C S H d ws/\∀(H':Hp) (c:List U) (ws':List V),Mv S H S H'->H' a=a5 (.lst ws')->aq C S H' c ws'->(∀b∈as,b≠a->H' b=H b)->dB C S H' (jY ks us y (.lst c)) as
 |[],us,as,kvs,u,_,_,_,_,h=>by cases us<;>cases h
 |k::ks,[],as,kvs,u,_,_,_,_,h=>by cases h
 |k::ks,O::us,as,kvs,u,f,n,g,hk,h=>by
  have⟨a,as',d,ws,rfl,rfl,s,t,v⟩:=hk;cases kvs with
  |nil=>simp at f
  |cons p kvs =>
   rw[d8,d8,P6]at f n;rw[mh]at g;by_cases i:k=y
   .subst i;simp only[dW,if_true]at h;cases h;show⟨a,ws,d,by rw[eV f.1,n.1],by simp,rfl,s,t,λH' c ws' j q r l=>?_⟩;simp only[jY,if_true];show⟨a,as',c,ws',rfl,rfl,q,r,dB.mv j (λb m o e=>by rw[l b (by simp[m]) (λz=>g.1 (z▸m))];show e) v⟩
   .simp only[dW,Ğ i]at h;have⟨w,A,B,D,x,G,I,J,L⟩:=dB.at f.2 n.2 g.2 v h;show⟨w,A,B,?_,by simp[x],G,I,J,λH' c ws' j q r l=>?_⟩
    .rw[eW (by rw[f.1];intro z;show i (UR z))];show D
    .simp only[jY,Ğ i];have N:a≠w:=λz=>g.1 (z▸x);show⟨a,as',d,ws,rfl,rfl,by rw[l a (by simp) N];show s,t.mv j,L H' c ws' j q r λb m=>l b (by simp[m])⟩
def rV{st:aw}(h:W (la i y u) st Q):∃ks vs xs,st[i]?=a5 (a5 (.Iw,.IA ks vs))/\dW ks vs y=a5 (.lst xs)/\xs.length<cK/\Q () (st.set i (a5 (.Iw,.IA ks (jY ks vs y (.lst (xs++[u])))))):=by
 obtain⟨_,st',e,q⟩:=h;unfold la at e;split at e
 .rename_i ks vs hs;split at e
  .rename_i xs a;split at e
   .rename_i hz;cases e;show⟨ks,vs,xs,hs,a,hz,q⟩
   .cases e
  .cases e
 .cases e
abbrev vQ(C:Ct)(m:M (Kd×U)):TE:=λσ H Q=>∃b:Cf,b.σ=σ/\b.H=H/\Ok C b/\W m b.st λr st'=>∀c v,c.σ=σ->c.st=st'->Ok C c->Nx b c->(∀a o,b.H a=a5 o->c.H a=a5 o)->aQ C b c r.1 r.2 v->Q v c.H
def m6(d:Ok C b)(h:W (e >>= k) b.st Post)
  (hz:∀x c v,KP C b c x v->(∀a o,b.H a=a5 o->c.H a=a5 o)->W (k x) c.st Post->Z v c.H):vQ C e b.σ b.H Z:=by
 rw[ah]at h;show⟨b,rfl,rfl,d,h.mono λx st1 f g i j l m n p q=>hz x g i ⟨j,m,n,q⟩ p (by rw[l];show f)⟩
def yh(f:X.N[i]?=a5 x)(g:Kt X.env.scope x)(l:(x==("__debug__":Str))=cc)(m:(x==("__classdict__":Str))=cc):PE X (.Name x pos) (vQ C (dg i)):=by
 show PE.weak (bU f g l m) ?_;rintro σ H Q ⟨b,rfl,rfl,c,r,st',e,h⟩;unfold dg at e;split at e
 .cases e
 .rename_i k u n hs;cases e;have⟨v,d,a⟩:=c.sl i k u hs;show⟨v,d,h b v rfl rfl c (Nx.refl b) (λ_ _ z=>z) ?_⟩;by_cases hk:k.root=bD
  .rw[ĝ hk];show⟨⟨k,hk,hs⟩,d⟩
  .rw[Ğ hk];cases k with
   |loc=>show a
   |any=>show a
   |bor j=>show a.elim
   |Iw=>show(n rfl).elim
   |_=>show absurd rfl hk
 .cases e
def iP(h:PE X e (tC v))(r:∀S H,Rep C S H u v):PE X e (vQ C (pure (.loc,u))):=by
 show PE.weak h ?_;rintro σ H Q ⟨a,rfl,rfl,b,h⟩;rw[ak]at h;show h a v rfl rfl b (Nx.refl a) (λ_ _ z=>z) (r _ _)
def Eo(hK:C.K=X.K)(hu:X.A.units+60<K4)(hN:X.N[i]?=a5 x)(hv:Kt X.env.scope x)(hd:(x==("__debug__":Str))=cc)(Jg:(x==("__classdict__":Str))=cc)(G:PE X a (vQ C ma))(hb:PE X b (IE C mb))(Q4:Dv b)
  (JB:((x3 I (gs [a] X.env)).all (λx=>!x.1)&&(PH I (Lq [] X.env)).all (λx=>x.1.isSome)
   && cn ([a].length+([]:List MA).length+(if ([]:List MA).isEmpty then 0 else 1)<30))=bD)
  (IL:(j.endLine==I.line)=bD) (II:gs [a] X.env=[(cc,vl a X.env)]) :
  L2.PS X (.Expr (.Call (.Attribute (.Subscript (.Name x px) b p) "append" j) [a] [] I) pos) (Jp C ns (iJ i >>= λ_=>mb >>= λx=>jX x >>= λy=>iJ i >>= λd=>if y∈d.1 then(ma >>= λr=>lift r >>= λu=>la i y u >>= λ_=>pure .nx) else M.fail)):=by
 show PS.weak (iq (kH PySem.F.plainAttrs_list PySem.F.slot_list_append PySem.F.type_list_append mI (Aw ⋯ (bU hN hv hd Jg) hb Q4) (cF G eN II) rfl JB IL II rfl)) ?_;rintro D σ H ⟨c0,rfl,rfl,ok,h⟩;rw[ah]at h;have⟨Vk,us0,JW,h⟩:=gw h;obtain⟨r0,Oj,J,g0,_⟩:=ok.IA JW;show⟨.ref r0,J,?_⟩;show aM ok h λry c vy t w=>?_;rw[ah]at w;have⟨ky,uy⟩:=ry;have⟨y,ey,w1⟩:=gy w
 dsimp only at ey
 subst ey;have ev:vy=.str y:=t.rx.str t.ok;subst ev;rw[ah]at w1;have⟨ks,us,hs,l⟩:=gw w1
 dsimp only at l
 by_cases L:y∈ks
 case neg=>rw[Ğ L]at l;show(bt.mp l).elim
 rw[ĝ L]at l;obtain⟨O,kvs,f1,g1,g2,g3,g4,g5,g6,_⟩:=t.ok.IA hs;have Q:O=r0:=by rw[t.hσ,J]at f1;cases f1;rfl
 subst Q;have Nw:=g6 y;rw[Ġ L]at Nw;have⟨v0,n⟩:=RG.mp Nw;have Ku:v0∈(c.kid i).map V.ref:=by
  rw[<-g3];unfold dI at n;have⟨q,hq,rfl⟩:=et.mp n;show Y5 (List.mem_of_find?_eq_some hq)
 have⟨f,XI,rfl⟩:=js.mp Ku;have⟨XJ,TK⟩:=g5.mem XI;show⟨O,.ref f,rfl,by rw[<-n];show ft.k (k:=mx y) g1,Or.inl ⟨rfl,XJ,.inl (.inl TK)⟩,?_⟩;rw[<-t.hσ];show m6 t.ok l λr g v t' vJ w3=>?_;rw[ah]at w3;obtain⟨S',st',u,sS,T,n1,m,w4,_,_⟩:=gu t.ok t'.ok t'.nx t'.rx.w w3;rw[ah]at w4;have⟨L0,Jf,xs,s,hx,hz,q⟩:=rV w4;rw[ak]at q;obtain⟨B,Y,k1,k2,k3,k4,k5,k6,_,_⟩:=T.IA s;have Vm:g.σ[i]?=a5 (a5 (.ref B)):=k1;have Q:B=O:=by rw[t'.hσ,t.hσ,J]at Vm;cases Vm;rfl
 subst Q;have XM:g.H B=a5 (.dK Y):=k2;have TL:Y=kvs:=by have:=vJ _ _ g1;rw[XM]at this;cases this;rfl
 subst TL;have nd:=(mh.mp k5).2;have⟨a2,ws,ys,l1,l2,l3,l4,l5,l6⟩:=dB.at k3 k4 nd k6 hx;cases l3;rw[n]at l1;cases l1;have XN:g.H f=a5 (.lst ws):=l4;show⟨f,ws,v,rfl,rfl,XN,by rw[<-l5.len];show hz,?_⟩;have JH:f≠B:=λz=>(mh.mp k5).1 (z▸l2);have⟨IS,n2⟩:=Ok.Gv (c:={g with S:=S',st:=st' }) (H':=upd g.H f (.lst (ws++[v]))) (u':=.IA L0 (jY L0 Jf y (.lst (xs++[u])))) (as':=g.kid i) T (t.nx.trans n1).toNs s k1
  (λa ne=>au λz=>ne ⟨_,_,s,k1,.inr (z▸l2)⟩) (λa o e=>by
   by_cases hz:a=f
   .subst hz;show⟨_,ay⟩
   .rw[au hz];show⟨o,e⟩)
  (λmv=>⟨Y,by rw[au (ri JH)];show k2,k3,k4,k5,cJ.fr (T.dd.kd i _ _ s k1),l6 _ _ _ mv ay ((l5.mv mv).snoc (m.mv mv)) λb _ ne=>au ne⟩)
  (λa G=>.inl G)
 have z:=q _ rfl IS n2 (Kept.of (t'.hσ.trans t.hσ));rw[<-t'.hσ];show z
end
section
def yi{st:aw}(h:W (S_ u) st Q):∃ks us,u=.IA ks us/\Q () st:=by
 cases u<;>first|show(bt.mp h).elim|skip
 show⟨_,_,rfl,ak.mp h⟩
def m7{st:aw}(h:W (vH x) st Q):∃j,x.2=.int j/\Q j st:=by
 unfold vH at h;split at h
 .rename_i y e;rw[ak]at h;show⟨y,e,h⟩
 .show(bt.mp h).elim
def m8{st:aw}(h:W (qh i) st Q):∃k us,k.root=bD/\st[i]?=a5 (a5 (k,.lst us))/\Q us st:=by
 have⟨r,st',e,q⟩:=h;unfold qh at e;split at e
 .rename_i k us hs;split at e
  .rename_i hk;cases e;show⟨k,_,hk,hs,q⟩
  .cases e
 .cases e
theorem qo:∀{ks:List Str}{us:List U},y∈ks->ks.length=us.length->dW ks us y=b8->False
 |[],us,h,_,_=>by cases h
 |k::ks,[],_,h,_=>by simp at h
 |k::ks,u::us,h,hl,e=>by
  by_cases hk:k=y
  .simp[dW,hk]at e
  .simp only[dW,Ğ hk]at e;rcases d3.mp h with h|h
   .show hk h.symm
   .show qo h (by simpa using hl) e
def yj{i:Nat}{x:Str}{D:Pos}(hu:X.A.units+60<K4)(hN:X.N[i]?=a5 x)(hv:Kt X.env.scope x)(hd:(x==("__debug__":Str))=cc)(Jg:(x==("__classdict__":Str))=cc)
  (ha:PE X a (IE C ma)) (hb:PE X b (IE C mb)) (hm:M2 X (.Name x D) "get" e a b G') :
  PE X (.Call (.Attribute (.Name x D) "get" e) [a,b] [] G') (IE C (dg i >>= λx=>S_ x.2 >>= λ_=>ma >>= λy=>jX y >>= λy=>mb >>= λz=>lift z >>= λu=>dg i >>= λx=>M.IM (AQ x y u))):=by
 rintro pins s σ H Q I ⟨o,rfl,rfl,p,h⟩;show wY ⋯ (bU hN hv hd Jg) ha hb hm pins s o.σ o.H Q I ?_;rw[ah]at h;have⟨k0,u0,TN,JW,h⟩:=cX h;have⟨v0,G,t0⟩:=p.slot TN JW;rw[ah]at h;have⟨Vk,us0,J,h'⟩:=yi h
 dsimp only at J
 subst J;obtain⟨a0,Oj,rfl,g0,_⟩:=t0.dict p;show⟨.ref a0,G,a0,rfl,.inl ⟨Oj,.inl g0⟩,?_⟩;show aM p h' λry c vy t w=>?_;rw[ah]at w;have⟨ky,uy⟩:=ry;have⟨y,L,w1⟩:=gy w
 dsimp only at L
 subst L;have ev:vy=.str y:=t.rx.str t.ok;subst ev;rw[<-t.hσ];show aM t.ok w1 λz f vz g O=>?_;rw[ah]at O;obtain⟨S',st',u,sS,B,n1,j,T,_,_⟩:=gu t.ok g.ok g.nx g.rx.w O;rw[ah]at T;have⟨k,u1,XO,Ke,w5⟩:=cX T;have⟨r,d,q⟩:=bG.mp w5;have⟨v1,e1,t1⟩:=B.slot XO Ke;have Y:f.σ[i]?=a5 (a5 v1):=e1;rw[g.hσ,t.hσ,G]at Y;cases Y;cases u1<;>first|(simp only[AQ]at d;cases d;done)|skip
 rename_i ks us;have⟨a1,kvs,ea,g1,g2,g3⟩:=t1.dict B;cases ea;have Q6:f.H a0=a5 (.dK kvs):=g1;show⟨_,ft.k (k:=mx y) Q6,?_⟩;simp only[AQ]at d;have⟨l1,l2⟩:=dP (x:=y) g2 g3;have l:∀v:V,aQ C o {f with S:=S',st:=st' } r.1 r.2 v->Q v f.H:=λv z=>q {f with S:=S',st:=st' } v (g.hσ.trans t.hσ) rfl B (t.nx.trans n1) z;cases n:dW ks us y with
 |some w =>
  rw[n]at d;cases d;have⟨v,ev,rv⟩:=l1 w n;rw[ev];show l v ?_;show aQ.item (k:=if k.root=bD then .bor i else k) rv
 |none =>
  rw[n]at d;cases d;have Mq:dI kvs (mx y)=b8:=by
   cases hq:dI kvs (mx y) with
   |none=>rfl
   |some v =>
    exfalso
    rw[hq]at l2;have hy:y∈ks:=by simpa using l2.symm
    have m:ks.length=us.length:=by have h1:=Ģ K1 g2;have h2:=g3.len;simp at h1 h2;lia
    show qo hy m n
  rw[Mq];show l vz j
def yk:FC X (λo i H Q=>∃p xs j v,o=.ref p/\i=.int j/\H p=a5 (.lst xs)/\0<=j/\xs[j.toNat]?=a5 v/\Q v H):=by
 rintro pins s σ H o i k l Q I b c ⟨p,xs,j,v,rfl,rfl,d,e,a,q⟩;cases b;have⟨t,rfl⟩:=c;have⟨m,r,f,hz⟩:=I.list (.inl (.inl d));have⟨w,g,h⟩:=r.get a;have hl:=r.length;have n:=fQ;have u:=(dt.mp a).1;show wpAny_getItem_list f.isList e ⋯ (by simpa using g) ⟨v,H,I,h,q⟩
def Bm:Qw X (if sub=bD then .Sub else .Add) (Rz (vI sub)):=by
 cases sub with
 |true=>show Dd
 |false=>show C_
def Gw(hN:X.N[i]?=a5 x)(hv:Kt X.env.scope x)(hd:(x==("__debug__":Str))=cc)(Jg:(x==("__classdict__":Str))=cc)
  (ha:PE X a (vQ C ma)) (hb:PE X b (IE C mb))
  (m:∀e f new,ď b e f new=(do Mz [new,e,f] (Tc e f new);V0 [new,e,f] [];pure .next)) :
  L2.PS X (.AugAssign (.Subscript (.Name x px) b p) (if sub=bD then .Sub else .Add) a pos) (Jp C ns (qh i >>= λ_=>mb >>= λy=>vH y >>= λj=>qh i >>= λus=>M.IM (qi us j) >>= λo=>ma >>= λz=>vH z >>= λw=>modS i (eE (.int j) (.int (vI sub o w))) >>= λ_=>pure .nx)):=by
 show PS.weak (Af (bU hN hv hd Jg) hb yk ha Bm set_list m) ?_;rintro D σ H ⟨c0,rfl,rfl,u,h⟩;rw[ah]at h;have⟨k0,us0,J4,JW,h⟩:=m8 h;have⟨v0,n,LB⟩:=u.sl i _ _ JW;obtain⟨a0,rfl,_,_,_,_⟩:=LB.rt J4;show⟨.ref a0,n,?_⟩;show aM u h λry c vy t w=>?_;rw[ah]at w;have⟨ky,uy⟩:=ry;have⟨j,v,A⟩:=m7 w
 dsimp only at v
 subst v;have ev:vy=.int j:=t.rx.int t.ok;subst ev;rw[ah]at A;have⟨k1,Om,N3,Ke,B⟩:=m8 A;rw[ah]at B;have⟨o,ho,w3⟩:=bG.mp B;have⟨v1,G,XQ⟩:=t.ok.sl i _ _ Ke;obtain⟨a1,rfl,_,_,_,P_⟩:=XQ.rt N3;rw[t.hσ,n]at G;cases G;have⟨vs,I,g2⟩:=P_;unfold qi at ho;split at ho
 case isFalse=>cases ho
 rename_i PF;split at ho
 case h_2=>cases ho
 rename_i o' TQ;cases ho;have⟨vo,XR,XS⟩:=g2.get TQ;have XT:vo=.int o:=XS;subst XT;show⟨a0,vs,j,_,rfl,rfl,I,PF,XR,?_⟩;rw[<-t.hσ];show m6 t.ok w3 λz r vz d all2 J=>?_;rw[ah]at J;have⟨kz,uz⟩:=z;have⟨w,L,O⟩:=m7 J
 dsimp only at L
 subst L;have ev:vz=.int w:=d.rx.int d.ok;subst ev;show⟨o,w,rfl,rfl,?_⟩;rw[ah]at O;have⟨k,u1,u2,hk,Q,g,q⟩:=fc O;rw[ak]at q;have⟨v2,s,M_⟩:=d.ok.sl i _ _ Q;obtain⟨a2,rfl,_,_,_,Qa⟩:=M_.rt hk;have XU:=s;rw[d.hσ,t.hσ,n]at s;cases s;have T:r.H a0=a5 (.lst vs):=all2 _ _ I;cases u1 with
 |lst xs =>
  simp only[eE,et]at g;have⟨l,Ls,rfl⟩:=g;have⟨Zc,Y,l2⟩:=Qa;rw[T]at Y;cases Y;show⟨a0,vs,j,l,rfl,rfl,T,by rw[<-l2.len];show Ls,?_⟩;have⟨Lo,n3⟩:=Ok.mod (c:=r) (H':=upd r.H a0 (.lst (vs.set l (.int (vI sub o w))))) (u':=.lst (xs.set l (.int (vI sub o w)))) d.ok (t.nx.trans d.nx).toNs hk Q XU (λa ne=>au ne) ⟨_,ay⟩ λmv=>⟨_,ay,(l2.mv mv).set l rfl⟩
  have z:=q _ rfl Lo n3 (Kept.of (d.hσ.trans t.hσ));rw[<-d.hσ];show z
 |IA ks vs=>simp[eE]at g
 |_=>simp[eE]at g
end
section
def Bn{ks:List Str}(c:kvs.map (·.1)=ks.map mx)(d:kvs.map (·.2)=ns.map V.int):kvs=(ks.zip ns).map λp=>((mx p.1:Key),V.int p.2):=by
 induction kvs generalizing ks ns with
 |nil =>
  cases ks with
  |nil=>rfl
  |cons _ _=>cases c
 |cons kv kvs e =>
  cases ks with
  |nil=>cases c
  |cons k ks =>
   cases ns with
   |nil=>cases d
   |cons n ns =>
    have⟨a,b⟩:=kv;simp only[d8,P6]at c d;have⟨rfl,c⟩:=c;have⟨rfl,d⟩:=d;rw[e c d];rfl
theorem aq.of_map{S:d7->Prop}{f:α->U}{g:α->V}:∀{l:List α},(∀x∈l,Rep C S H (f x) (g x))->aq C S H (l.map f) (l.map g)
 |[],_=>rfl
 |x::l,h=>⟨g x,l.map g,rfl,h x (by simp),aq.of_map λy a=>h y (by simp[a])⟩
def Bo(Y:X.calm=bD)(hK:C.K=X.K)(hg:Gl X "sorted")(hm:X.mg "sorted"=b8)(hN:X.N[i]?=a5 x)(hv:Kt X.env.scope x)(hd:(x==("__debug__":Str))=cc)(Jg:(x==("__classdict__":Str))=cc)(IL:(b.endLine==l.line)=bD):
  PE X (.Call (.Name "sorted" p) [.Call (.Attribute (.Name x n) "items" b) [] [] l] [] pos) (IE C (dg i >>= λx=>M.IM (xR x.2))):=by
 rintro pins s σ H Q I ⟨c,rfl,rfl,m,h⟩;show qs (dh I hg hm (show t4 "sorted"=a5 (.builtin "sorted") by decide +kernel) ?_ (by decide +kernel) (by decide +kernel));rw[ah]at h;have⟨k0,u0,TN,JW,h⟩:=cX h;have⟨v0,e0,t0⟩:=m.slot TN JW;have⟨r,f,k⟩:=bG.mp h
 dsimp only at f
 unfold xR at f;split at f
 rotate_left
 .cases f
 rename_i ks us;rw[r3]at f;have⟨ns,en,f⟩:=f;split at f
 rotate_left
 .cases f
 rename_i TR;cases f;have⟨K6,IW,u⟩:=TR;have⟨d,kvs,rfl,B,J4,D⟩:=t0.dict m;rw[jE en]at D;have TL:=Bn J4 (aq.ints D);subst TL;have ek:((ks.zip ns).map (·.1))=ks:=ZY ⋯;have g:dV (eh X.prog X.w) X.A (vl (.Call (.Attribute (.Name x n) "items" b) [] [] l) X.env) (λv s1=>dV (eh X.prog X.w) X.A (NQ (.builtin "sorted") [v]) (EP X pins c.σ Q) X.xe s1) X.xe s:=by
  show Zm rfl IL (IG (bU hN hv hd Jg pins s c.σ c.H (λv G=>v=.ref d/\G=c.H) I ⟨_,e0,rfl,rfl⟩) λv s1 TU=>?_);have⟨x1,G,J,r1,z1,z2⟩:=TU;subst z1 z2;cases(show v=ko d from r1);have⟨h1,h2⟩:=oi (T:="dict") J (x:=.ref d) rfl (.inr (.inr (.inl ⟨rfl,.inl ⟨_,B⟩⟩)));show⟨"dict","dict.items",PySem.F.plainAttrs_dict,PySem.F.slot_dict_items,PySem.F.type_dict_items,h1,h2,Kg rfl (PySem.evalArgs_none (oC Y J B (by rw[ek];show IW) (by rw[Â];lia) λas L hl nd O hL=>?_))⟩;have q:c.H L=b8:=O L (by simp);have XW:(as.zip ((ks.zip ns).map MF)).map (·.1)=as:=ZY (by rw[c4];lia);have XX:∀p∈as.zip ((ks.zip ns).map MF),p.1∈as:=λp t=>(Qn t).1;have same:eO c.H (upd (jW c.H (as.zip ((ks.zip ns).map MF))) L (.lst ((jV ((ks.zip ns).map (·.1))).map λi=>V.ref (as.getD i 0)))):=λa o e=>by
   have n1:a≠L:=λy=>by rw[y,q]at e;cases e
   rw[au n1,kZ λp t y=>?_]
   .show e
   .have:=O p.1 (by simp[XX p t]);rw[y,e]at this;cases this
  have⟨IT,n'⟩:=m.grow (S':=c.S) same (λa z=>.inl z) λa z=>z;have⟨q1,q2,q3,q4,q5⟩:=m.k7 q;show k {c with H:=upd (jW c.H (as.zip ((ks.zip ns).map MF))) L (.lst ((jV ((ks.zip ns).map (·.1))).map λi=>V.ref (as.getD i 0))),S:=c.S} _ rfl rfl IT n' ⟨L,rfl,q,q2,q5,_,ay,?_⟩;change aq C c.S _ ((AN (ks.zip ns)).map vE) _;unfold AN;rw[ke];show aq.of_map λj hj=>?_;have Ls:j<(ks.zip ns).length:=by
   have:=tA.mp ((gr _).mem_iff.mp hj);rw[c4]at this;show this
  have SY:j<as.length:=by lia
  have e1:(ks.zip ns).getD j (td,0)=(ks.zip ns)[j]:=(List.getElem_eq_getD _).symm;have e2:as.getD j 0=as[j]:=by simp[Ov,SY]
  change Rep C c.S _ (vE ((ks.zip ns).getD j (td,0))) (V.ref (as.getD j 0));rw[e1,e2];show⟨as[j],MF (ks.zip ns)[j],rfl,Ju.of ?_,⟨_,_,rfl,rfl,_,_,rfl,rfl,rfl⟩⟩;have JH:as[j]≠L:=λy=>hL (by rw[<-y];simp);show(au JH).trans (tU (by rw[XW];show nd) (vs:=MF (ks.zip ns)[j]) ?_);show YP.mpr ⟨j,by rw[Â,c4];lia,?_⟩;rw[List.getElem_zip,Vp]
 have eb:x3 pos (gs [.Call (.Attribute (.Name x n) "items" b) [] [] l] X.env)=[(cc,vl (.Call (.Attribute (.Name x n) "items" b) [] [] l) X.env)]:=rfl;have XY:PH pos (Lq [] X.env)=[]:=rfl;rw[eb,XY];show oI g
end
section
def ua(f:X.calm=bD)(g:C.K=X.K)(i:Gl X "set")(j:X.mg "set"=b8)(m:PE X a (IE C n))(hs:gs [a] X.env=[(cc,vl a X.env)])(I:Inv X pins b.σ b.H s)(r:Ok C b)
  (h:W (n >>= λx=>M.IM (hU x.2) >>= k) b.st Post)
  (u:∀(S:d7) (o:Obj) (s1:d4) (D:List Str) (c:Cf),c.σ=b.σ->Ok C c->Nx b c->s1.heap.get? S=a5 o->aR X.prog X.w s1.heap S (aF X.w) D->Inv X ((S,o)::pins) c.σ c.H s1->W (k D) c.st Post->(∀q∈pins,q.1≠S)->Q (.ref S) s1) :
  dV (eh X.prog X.w) X.A (vl (.Call (.Name "set" p) [a] [] pos) X.env) Q X.xe s:=by
 show qs (dh I i j (show t4 "set"=a5 (.type "set") by decide +kernel) ?_ (by decide +kernel) (by decide +kernel));have y:x3 pos (gs [a] X.env)=[(cc,vl a X.env)]:=by rw[hs];rfl
 have B:PH pos (Lq [] X.env)=[]:=rfl;rw[y,B];show t9 (one m I r h λx c Y v s2 t d rv w=>?_);rw[ah]at w;have⟨D,e,w⟩:=bG.mp w;have⟨l,ys,rfl,G,J,rfl⟩:=mY g t.ok t.rx e;cases rv;show rD f d G J λS o s1 hsz L N O=>u S o s1 _ c t.hσ t.ok t.nx L N O w λq T z=>by
  have:=d6 (d.pin q (lg _ T)).1;rw[z]at this;show absurd (i2 this hsz) (uk _)
def Bp(m:X.calm=bD)(D:C.K=X.K)(G:Gl X (if ln=bD then "len" else "sorted"))(J:X.mg (if ln=bD then "len" else "sorted")=b8)(L:Gl X "set")(N:X.mg "set"=b8)(ha:PE X a (IE C ma))(hb:PE X b (IE C mb))(XZ:gs [a] X.env=[(cc,vl a X.env)])(J_:gs [b] X.env=[(cc,vl b X.env)]):
  PE X (.Call (.Name (if ln=bD then "len" else "sorted") p) [.BinOp (.Call (.Name "set" n) [a] [] t) .Sub (.Call (.Name "set" p2) [b] [] pos2) d] [] pos)
   (IE C (ma >>= λx=>M.IM (hU x.2) >>= λd1=>mb >>= λy=>M.IM (hU y.2) >>= λd2=>M.IM (qd ln d1 d2))):=by
 rintro pins s σ H Q I ⟨u,rfl,rfl,ok,h⟩;have f:dV (eh X.prog X.w) X.A (vl (.BinOp (.Call (.Name "set" n) [a] [] t) .Sub (.Call (.Name "set" p2) [b] [] pos2) d) X.env) (λv s1=>dV (eh X.prog X.w) X.A (NQ (.builtin (if ln=bD then "len" else "sorted")) [v]) (EP X pins u.σ Q) X.xe s1) X.xe s:=by
  show wpAny_BinOp (ua m D L N ha XZ I ok h λS1 o1 s1 D1 c1 X0 IF X1 MC Mg I1 w1 OK=>?_);show ua m D L N hb J_ I1 IF w1 λS2 o2 s2 D2 i X2 O X3 Nh OM z w2 OI=>?_;have⟨r,k,j⟩:=bG.mp w2;have TV:=(z.pin (S1,o1) (lg _ (by simp))).1;have TX:aR X.prog X.w s2.heap S1 (aF X.w) D1:=Mg.at λo e=>by rw[MC]at e;cases e;show TV
  have JH:S1≠S2:=OI (S1,o1) (by simp);have nx:Nx u i:=X1.trans X3;have B:i.σ=u.σ:=X2.trans X0;have I3:Inv X pins i.σ i.H s2:=z.eF λq hq=>z.pin q (lg _ (by simp[hq]));unfold qd at k;split at k
  rotate_left
  .cases k
  rename_i g;show L2.j8 JH TX OM g.1 g.2 λh' hk T=>?_;have Y:Inv X pins i.σ i.H {s2 with heap:=h' }:=I3.kept (t':=s2.toks) hk;rw[<-B];cases ln with
  |true =>
   cases k;show rB Y T (cB.flat (c:=i) j B O nx rfl)
  |false =>
   cases k;show gN m Y T (ZP (oT _ _) g.1) λl hl=>cB.list (c:=i) j B O nx (aq.strs.mpr rfl) l hl
 have eb:x3 pos (gs [.BinOp (.Call (.Name "set" n) [a] [] t) .Sub (.Call (.Name "set" p2) [b] [] pos2) d] X.env)=[(cc,vl (.BinOp (.Call (.Name "set" n) [a] [] t) .Sub (.Call (.Name "set" p2) [b] [] pos2) d) X.env)]:=rfl;have ek:PH pos (Lq [] X.env)=[]:=rfl;cases ln with
 |true =>
  show qs (dh I G J (show t4 "len"=a5 (.builtin "len") by decide +kernel) ?_ (by decide +kernel) (by decide +kernel));rw[eb,ek];show oI f
 |false =>
  show qs (dh I G J (show t4 "sorted"=a5 (.builtin "sorted") by decide +kernel) ?_ (by decide +kernel) (by decide +kernel));rw[eb,ek];show oI f
end
section
variable{X:Cx}{C:Ct}{a:l'}{ma:M (Kd×U)}{apos G':Pos}{i:Nat}{x:Str}{px:Pos}
def Ok.yl(b:Ok C c)(hk:k.root=bD)(hs:c.st[i]?=a5 (a5 (k,.lst us))):∃a vs,c.σ[i]?=a5 (a5 (.ref a))/\c.H a=a5 (.lst vs)/\aq C c.S c.H us vs:=by
 have⟨v,d,e⟩:=b.sl i k _ hs;obtain⟨r,rfl,_,_,_,vs,f,g⟩:=e.rt hk;show⟨r,vs,d,f,g⟩
theorem aq.eraseIdx{S:d7->Prop}:∀{us:List U}{vs:List V} (n:Nat),aq C S H us vs->aq C S H (us.eraseIdx n) (vs.eraseIdx n)
 |[],_,n,h=>by cases h;simp[aq]
 |u::us,vs,0,h=>by
  have⟨v,r,rfl,c,b⟩:=h;show b
 |u::us,vs,n+1,h=>by
  have⟨v,r,rfl,c,b⟩:=h;show⟨v,_,rfl,c,b.eraseIdx n⟩
def Ok.out(d:Ok C c)(n:Nx f c)(j:c.σ=f.σ)(hk:k.root=bD)(hs:c.st[i]?=a5 (a5 (k,.lst us)))(g:c.σ[i]?=a5 (a5 (.ref r)))(l:aq C c.S c.H us' b)(m:Rep C c.S c.H u v)(w:cB C f Q (.loc,u) (c.st.set i (a5 (k,.lst us')))):Q v (upd c.H r (.lst b)):=by
 have p:Mv c.S c.H c.S (upd c.H r (.lst b)):=by
  have⟨N,h,q⟩:=d.sl i k _ hs;rw[g]at h;cases h;obtain⟨O,s,y,_,_,A⟩:=q.rt hk;cases s;have⟨o,ho,B⟩:=A.some;show⟨λ_ z=>z,λa D e t=>by rw[au (λz=>by subst z;rw[ho]at e;cases e;show B t)];show e,λa D z e=>by rw[au (λG=>by subst G;show y z)];show e⟩
 have⟨I,J⟩:=d.mod (H':=upd c.H r (.lst b)) (u':=.lst us') n.toNs hk hs g (λa ne=>au ne) ⟨_,ay⟩ λL=>⟨b,ay,l.mv L⟩
 show w {c with H:=upd c.H r (.lst b),st:=c.st.set i (a5 (k,.lst us'))} v j rfl I ⟨J⟩ (m.mv p)
def Br(g:X.N[i]?=a5 x)(j:Kt X.env.scope x)(l:(x==("__debug__":Str))=cc)(m:(x==("__classdict__":Str))=cc)(n:(apos.endLine==G'.line)=bD)(o:C.K=X.K):
  PE X (.Call (.Attribute (.Name x px) "pop" apos) [] [] G') (IE C (xS i)):=by
 show PE.weak (Dn PySem.F.plainAttrs_list PySem.F.slot_list_pop PySem.F.type_list_pop Dp (bU g j l m) rfl n) ?_;rintro σ H Q ⟨q,rfl,rfl,c,h⟩;have⟨r,st',e,w⟩:=h;unfold xS at e;split at e
 .rename_i k us hs;split at e
  .rename_i hk;split at e
   .rename_i u s;cases e;have⟨p,vs,d,f,b⟩:=c.yl hk hs;have⟨v,t,y⟩:=b.get s;have hl:=b.len;show⟨_,d,.inl ⟨rfl,vs,o▸Jh.of f⟩,p,vs,v,rfl,rfl,f,by rw[<-hl];show t,?_⟩;show c.out (Nx.refl q) rfl hk hs d ?_ y w;rw[YJ,YJ,hl];show b.take _
   .cases e
  .cases e
 .cases e
def Gy(b:0<=j)(h:j.toNat<n):W9 j n=a5 j.toNat:=by
 simp only[W9];rw[Ğ (show ¬j<0 by lia),ĝ (by rw[cb,Ĝ,Ĝ];lia)]
def vR{st:aw}(h:W (vG i u) st Q):∃(j:Int) (k:Kd) (us:List U) (y:U),u=.int j/\k.root=bD/\0<=j/\j<1000000/\st[i]?=a5 (a5 (k,.lst us))/\us[j.toNat]?=a5 y/\Q (.loc,y) (st.set i (a5 (k,.lst (us.eraseIdx j.toNat)))):=by
 have⟨r,st',e,w⟩:=h;cases u with
 |int j =>
  unfold vG at e
  dsimp only at e
  split at e
  .rename_i k us hs;split at e
   .rename_i hk;split at e
    .rename_i y b;cases e;show⟨j,k,us,y,rfl,hk.1,hk.2.1,hk.2.2,hs,b,w⟩
    .cases e
   .cases e
  .cases e
 |_=>cases e
def ym(o:C.K=X.K)(q:X.N[i]?=a5 x)(s:Kt X.env.scope x)(u:(x==("__debug__":Str))=cc)(A:(x==("__classdict__":Str))=cc)(B:PE X a (IE C ma))
  (D:((x3 G' (gs [a] X.env)).all (λx=>!x.1)&&(PH G' (Lq [] X.env)).all (λx=>x.1.isSome)
   && cn ([a].length+([]:List MA).length+(if ([]:List MA).isEmpty then 0 else 1)<30))=bD)
  (G:(apos.endLine==G'.line)=bD) (e:gs [a] X.env=[(cc,vl a X.env)]) :
  PE X (.Call (.Attribute (.Name x px) "pop" apos) [a] [] G') (IE C (dg i >>= λx=>LZ x.2 >>= λ_=>ma >>= λy=>vG i y.2)):=by
 show PE.weak (kH PySem.F.plainAttrs_list PySem.F.slot_list_pop PySem.F.type_list_pop wR (bU q s u A) (cF B eN e) rfl D G e rfl) ?_;rintro σ H Q ⟨c0,rfl,rfl,b,h⟩;rw[ah]at h;have⟨k0,I,J,L,h⟩:=cX h;have⟨O,f,T⟩:=b.slot J L;show⟨O,f,?_⟩;cases I with
 |lst Y =>
  rw[ah,show LZ (U.lst Y)=pure () from rfl,ak]at h;obtain⟨a0,Nu,d,Nb,_⟩:=T.list b;show⟨by rw[d];show .inl ⟨rfl,Nu,o▸Nb⟩,?_⟩;show aM b h λr c v t w=>?_;have⟨j,k,us,y,ej,hk,j0,j1,hs,hu,w⟩:=vR w;have⟨p,vs,g,h2,l⟩:=t.ok.yl hk hs;have hp:p=a0:=by
   have:=g;rw[t.hσ,f,d]at this;cases this;rfl
  subst hp;have⟨z,m,g2⟩:=l.get hu;have Mn:j.toNat<vs.length:=(dt.mp m).1;have n:=t.rx;rw[ej]at n;have ev:=n.int t.ok;show⟨p,vs,j,j.toNat,z,d,by rw[ev],h2,ÿ (by decide) j0,Int.lt_trans j1 (by decide),Gy j0 Mn,m,t.ok.out t.nx t.hσ hk hs g (l.eraseIdx _) g2 w⟩
 |_=>rw[ah]at h;show(bt.mp h).elim
end
end TM
namespace TM
open PySem L2 PyProof.Rows PySem.W
section
variable{X:Cx}{C:Ct}{pins:List (d7×Obj)}{s:d4}{c0 c c1:Cf}
variable{a b tt:l'}{e:l'}{es:List l'}{ms:M (List (Kd×U))}{ns:Nat->Bool}
abbrev L3(X:Cx)(C:Ct)(pins:List (d7×Obj))(c0:Cf)(Post:Str->aw->Prop)(v:df)(s':d4):Prop :=
 ∃(c:Cf) (s1:d4) (d T f:d7) (H':Hp) (cl:Str),v=.ref d/\c.σ=c0.σ/\Ok C c/\Nx c0 c/\Inv X pins c0.σ c.H s1/\bT X.prog X.w X.stack c.H s1 d f (a5 T) .none H' s'/\eO c.H H'/\ø X.K i5 cl=a5 (a5 (.ref f))/\Post cl c.st
abbrev PR(X:Cx)(C:Ct)(e:l')(m:M (Sum (Kd×U) Str)):Prop:=∀(pins:List (d7×Obj)) (s:d4) (c0:Cf) (Post:Sum (Kd×U) Str->aw->Prop),Inv X pins c0.σ c0.H s->Ok C c0->W m c0.st Post ->
 dV (eh X.prog X.w) X.A (vl e X.env) (λu s2=>∃r c v,KP C c0 c r v/\Inv X pins c0.σ c.H s2/\RelV v u/\Post (.inl r) c.st) (L3 X C pins c0 λcl st=>Post (.inr cl) st) s
def Ep
  (Y:C.P=X.prog) (hw:C.w=X.w) (hK:C.K=X.K) (hF:Γ f=F) (hk:∀us k u,F us=a5 (.ok (k,u))->(k=.own\/k=.loc\/k=.any)/\us.length=n) (Jo:∀us c,F us=a5 (.exc c)->us.length=n)
  (G:iw X.prog X.w X.K X.mg X.base (Nk X.prog X.w) kd fa fd ps (spT X.prog X.w X.K F n)) (hr:fq kd X.A) (hg:Gl X f) (hm:X.mg f=a5 (.ref fa)) (Ob:PySem.W.keepIn X.K (.ref fa)=bD) (o:Binds X.K fd ps []) (Lj:(f==("__debug__":Str))=cc)
  (ha:PA X.KG (e::es) (J5 C ms)) (he:gs (e::es) X.env=(cc,vl e X.env)::gs es X.env) (Jv:(x3 p3 (gs es X.env)).any (·.1)=cc) :
  PR X C (.Call (.Name f p2) (e::es) [] p3) (ms >>= λrs=>az rs >>= λ_=>bM Γ f (rs.map (·.2))):=by
 intro pins s c0 Post I ok h;show qs (fk I hg hm ?_ Lj);show PySem.W.callWith_K (h₀:=X.base) I.ok.mod.NC Ob (kj (args (X:=X.KG) ha (I.ip _) ok h p3) (λus s1 z=>?_) λ_ _ z=>z.elim) he Jv;have⟨rs,c,vs,t,l,rv,w⟩:=z;have l:=l.eL;show⟨l.LU,?_⟩;have m:C.Eqv (Mo X.prog X.w X.K c.H (J' c.H)):=⟨Y,hw,hK⟩
 have Kz:(Mo X.prog X.w X.K c.H (J' c.H)).Eqv C:=⟨Y.symm,hw.symm,hK.symm⟩
 have p:=t.read;have i:∀(k1:Kd) (u:U),F (rs.map (·.2))=a5 (.ok (k1,u))->k1=.own\/k1=.loc->Post (.inl (k1,u)) c.st ->
   dV (eh X.prog X.w) X.A (NQ (.ref fa) us) (λu s2=>∃r c v,KP C c0 c r v/\Inv X pins c0.σ c.H s2/\RelV v u/\Post (.inl r) c.st) (L3 X C pins c0 λcl st=>Post (.inr cl) st) s1:=λk1 u g N3 q=>by
  have⟨k0,k2⟩:=hk _ _ _ g;have x:spT X.prog X.w X.K F n vs c.H (λv H'=>∃d,KP C c0 d (k1,u) v/\d.H=H'/\d.st=c.st) E0:=⟨by rw[<-p.len];show k2,rs.map (·.2),.ok (k1,u),J' c.H,g,λ_ z=>z,p.cg m,k0,λv H' S' o=>o.here (Q:=λv H'=>∃d,KP C c0 d (k1,u) v/\d.H=H'/\d.st=c.st) N3 t.hσ t.ok t.nx Kz λd v2 y B IS n2 D=>⟨d,⟨y,IS,n2,D⟩,rfl,B⟩⟩
  show kj (j_ (EE:=L3 X C pins c0 λcl st=>Post (.inr cl) st) G hr o l rv x λ_ _ ⟨_,_,_,_,_,_,z⟩=>z.elim) (λv s2 ⟨v',H2,I2,D,d,t2,J,L⟩=>?_) λ_ _ z=>z;rw[t.hσ]at I2;subst J;show⟨_,d,v',t2,I2,D,L▸q⟩
 obtain⟨r,st',j,q⟩:∃r st',bM Γ f (rs.map (·.2)) c.st=a5 (.ok r,st')/\Post r st':=w;unfold bM at j;rw[hF]at j;split at j
 .rename_i u g;cases j;show i _ u g (.inl rfl) q
 .rename_i u g;cases j;show i _ u g (.inr rfl) q
 .rename_i cl g;cases j;have x:spT X.prog X.w X.K F n vs c.H (λ_ _=>False) (λv _ H'=>(∃N,v=.ref N/\ø X.K i5 cl=a5 (a5 (.ref N)))/\eO c.H H'):=⟨by rw[<-p.len];show Jo _ _ g,rs.map (·.2),.exc _,J' c.H,g,λ_ z=>z,p.cg m,λO H1 h1 h2=>⟨⟨O,rfl,h1⟩,h2⟩⟩
  show kj (j_ (EE:=L3 X C pins c0 λcl st=>Post (.inr cl) st) G hr o l rv x λv s' ⟨ea,O,T,H',y,F',⟨N,B,J⟩,L⟩=>?_) (λv s2 ⟨_,_,_,_,z⟩=>z.elim) λ_ _ z=>z;cases B;show⟨c,s1,ea,T,O,H',cl,y,t.hσ,t.ok,t.nx,by rw[<-t.hσ];show l,F',L,J,q⟩
 .cases j
def Gz(x:PT X.KG tt (JX C y))(B:PR X C a k)(D:PR X C b l):PR X C (.IfExp tt a b pos) (y >>= λp=>if p=bD then k else l):=by
 intro pins s c0 Post I G h;show wpAny_IfExp (kj (x pins s c0.σ c0.H (λp o=>∃c,c.H=o/\c.σ=c0.σ/\Ok C c/\Nx c0 c/\W (if p=bD then k else l) c.st Post) (I.ip _) (dX G h λp c e i n w=>⟨c,rfl,e,i,n,w⟩)) (λp s1 ⟨o,g,c,J,d,i,n,w⟩=>?_) λ_ _ z=>z.elim);subst J;have g:=g.eL;rw[<-d]at g;have f:∀{e:l'} {m:M (Sum (Kd×U) Str)},PR X C e m->W m c.st Post->dV (eh X.prog X.w) X.A (vl e X.env) (λu s2=>∃r c v,KP C c0 c r v/\Inv X pins c0.σ c.H s2/\RelV v u/\Post (.inl r) c.st) (L3 X C pins c0 λcl st=>Post (.inr cl) st) s1:=λ{e m} L w=>by
  show kj (L pins s1 c Post g i w) (λu s2 ⟨r,j,v,t,N,rv,q⟩=>?_) λv s2 z=>?_
  .show⟨r,j,v,⟨t.hσ.trans d,t.ok,n.trans t.nx,t.rx.from n⟩,by rw[<-d];show N,rv,q⟩
  .have⟨j,s3,O,T,Q,H',cl,Y,hσ,I_,n0,I3,F,hs,hn,q⟩:=z;show⟨j,s3,O,T,Q,H',cl,Y,hσ.trans d,I_,n.trans n0,by rw[<-d];show I3,F,hs,hn,q⟩
 cases p with
 |true=>rw[ĝ rfl]at w;show f B w
 |false=>rw[Ğ i1]at w;show f D w
def GA(f:PR X C a m)(hs:O8 a b8 pos.line X.env=pure cc)
  (g:∀c H',C.xw (.str c) H'->∀d T H pins σ s e s',ø X.K i5 c=a5 (a5 (.ref d))->Inv X pins σ H s->bT X.prog X.w X.stack H s e d T .none H' s'->X.xe (.ref e) s'):L2.PS X (.Expr a pos) (Jp C ns (m >>= AR)):=by
 rintro pins s σ H D I ⟨c0,rfl,rfl,i,h⟩;rw[ah]at h;show Ć (kj (f pins s c0 _ I i h) (λu s2 ⟨r,c,v,t,j,rv,q⟩=>?_) λv s2 z=>?_) I.quiet hs
 .rw[show AR (.inl r)=pure .nx from rfl,ak]at q;have z:D.nx c.σ c.H:=q c rfl t.ok t.nx (Kept.of t.hσ);rw[t.hσ]at z;show⟨c0.σ,c.H,j,z⟩
 .have⟨c,s1,k,T,l,H',cl,rfl,n,o,p,x,F,hs,y,q⟩:=z;rw[show AR (.inr cl)=pure (.rt .io (.str cl)) from rfl,ak]at q;have⟨A,B⟩:=o.grow (H':=H') (S':=c.S) hs (λa z=>.inl z) λa z=>z;show g cl H' (q {c with H:=H' } rfl A (p.trans B) (Kept.of n)) l _ c.H pins _ s1 k s2 y x F
def yn(p:∀m,ns m=bD->m≠k/\m≠j)(y:C.K=X.K)(A:Ok C c0)(B:Ok C c)(n:Nx c0 c)(f:c.σ=c0.σ)(G:k<c.σ.length)(hs:eO c.H H')(t:H' d=b8)(I:g.cls=.ref u)(J:ø X.K i5 cl=a5 (a5 (.ref u)))(v:V)
  (w:W (jZ cs i j k (.inr cl)) c.st (fJ C c0 ns D)):D.nx (((c0.σ.set j (a5 v)).set k (a5 (.ref d))).set j b8) (upd H' d (.Ks g (.ext λ_=>True))):=by
 have⟨r,st',e,q⟩:=w;unfold jZ at e
 dsimp only at e
 split at e
 .rename_i L;split at e
  case isFalse=>cases e
  rename_i N;have O:c.H d=b8:=by
   cases z:c.H d with
   |none=>rfl
   |some o=>rw[hs d o z]at t;cases t
  have⟨Q,T⟩:=B.kill L;have⟨Y,n2⟩:=Q.grow (H':=upd H' d (.Ks g (.ext λ_=>True))) (S':=c.S) (λa o z=>by
   rw[au (bz z O)];show hs a o z) (λa z=>.inl z) λa z=>z
  have⟨h,l,e2,IT,n',w'⟩:=oJ (r:=(.loc,.exc cl)) (v:=.ref d) (i:=k) A Y ((n.trans T).trans n2) (by simpa using G)
   (show Rep C c.S _ _ _ from⟨d,rfl,g,u,ay,I,y▸J⟩) (Post:=λ_ Kj=>fJ C c0 ns D .nx Kj) (by
    have z:W (eT k (.loc,.exc cl) >>= λ_=>(pure .nx:M Fl)) c.st (fJ C c0 ns D):=⟨r,st',e,q⟩
    rw[ah]at z;show z.mono λ_ st z=>ak.mp z)
  have es:(((c0.σ.set j (a5 v)).set k (a5 (.ref d))).set j b8)=(c0.σ.set j b8).set k (a5 (.ref d)):=by
   rw[List.set_comm _ _ N.1,List.set_set]
  have z:D.nx h.σ h.H:=w' h rfl IT n' ⟨λm x=>by
   rw[l];change((c.σ.set j b8).set k _)[m]?=_;rw[hQ (ri (p m x).1),hQ (ri (p m x).2),f],by rw[l];simp[f]⟩
  rw[l,e2]at z;rw[es,<-f];show z
 .cases e
def GB(JJ:∀m,ns m=bD->m≠i/\m≠k/\m≠j)(L:X.N.Nodup)(hi:X.N[i]?=a5 y)(hy:Loc X.env.scope y)(X6:X.fn y=bD)(O:X.N[j]?=a5 n)(Y:X.env.scope.names.lookup n=a5 .local)
  (hk:X.N[k]?=a5 z) (hz:Loc X.env.scope z) (X7:X.fn z=bD) (hK:C.K=X.K) (hr:PR X C a m) (MB:O8 a (a5 (.Name y p1)) p4.line X.env=pure cc) (G:X.stack=X.env::X.outer/\X.env.frame=a5 X.env.locals) (hx:X.ex=[]) (X8:Gl X x) (X9:X.mg x=a5 (.ref Dc)) (X_:(x==("__debug__":Str))=cc)
  (Ya:∀cl∈cs,∀l,ø X.K i5 cl=a5 (a5 (.ref l))->exmOne X.K (.ref l) (.ref Dc)=a5 bD) (IW:(n==("__debug__":Str))=cc) (Yb:(n==("__classdict__":Str))=cc) :
  L2.PS X (.Try [.Assign [.Name y p1] a p4] [.ExceptHandler (a5 (.Name x p5)) (a5 n) [.Assign [.Name z p6] (.Name n p9) Vr] Yc] [] [] pos) (Jp C ns (m >>= jZ cs i j k)):=by
 rintro pins s σ H D' I ⟨c0,rfl,rfl,ok,h⟩;have JP:i<c0.σ.length:=by rw[I.len];show(dt.mp hi).1
 have ME:k<c0.σ.length:=by rw[I.len];show(dt.mp hk).1
 rw[ah]at h;show wpAny_Try_except (kj (Q:=λf s1=>f=Flow.next/\SP X pins D' .next s1) (E:=L3 X C pins c0 λcl st=>W (jZ cs i j k (.inr cl)) st (fJ C c0 ns D')) ?_ (λf s1 z=>?_) λv s1 z=>?_)
 .show ï (Þ (kj (hr pins s c0 _ I ok h) (λu s2 ⟨r,c,v,t,I2,rv,q⟩=>?_) λ_ _ z=>z) MB);show il I2 L hi hy rv (λs3 I3=>Ru ⟨rfl,_,c.H,I3,lq (λm z=>(JJ m z).1) ok t (by rw[t.hσ];show JP) q⟩) (.inl X6)
 .have⟨rfl,z⟩:=z;show Ru z
 .have⟨c,s0,d,T,l,H',cl,rfl,hσ,I_,n0,B,F1,hs,Mc,w⟩:=z;have Ku:cl∈cs:=by
   obtain⟨r,st',e,_⟩:=w;unfold jZ at e
   dsimp only at e
   split at e
   .split at e
    case isFalse=>cases e
    rename_i q;show q.2
   .cases e
  have ab:=Ya cl Ku l Mc;have LK:s0.heap.FunFrames X.base (X.env::X.outer):=by rw[<-G.1];show B.stack
  have Lx:∀b∈Jr (X.env::X.outer),c.H b=b8:=by rw[<-G.1];show B.j5
  have hA:X.A.frames=a5 (X.env::X.outer):=by rw[<-G.1];show B.ok.frames
  rw[G.1]at F1;show F1.note hA G.2 LK Lx λT2 s2 F2=>F2.land LK Lx λT3 s3 F3=>?_;have ac:∀{T:Option d7} {D:df} {s':d4},bT X.prog X.w (X.env::X.outer) c.H s0 d l T D H' s'->Inv X pins c0.σ H' s':=λ{T D s'} F=>B.Ci (ch:=[]) F.os (by rw[G.1];show F.un) F.IB F.bare λb z=>nomatch z
  have g:∀b o,s0.heap.get? b=a5 o->b≠d:=λb o q z=>by rw[z,F1.new]at q;cases q
  have OP:d≠X.env.locals/\d∉X.fs:=by
   obtain⟨m,⟨o,_,_,ho,_⟩,_⟩:=B.loc;show⟨ri (g _ o ho),λz=>?_⟩;obtain⟨_,o,q,_⟩:=LK.mem (Pe.mpr (by
    have⟨env,h1,h2⟩:=Pe.mp z;show⟨env,kr _ h1,h2⟩))
   show g _ o q rfl
  have Mk:∀{T:Option d7} {D:df} {s':d4} (E:df->d4->Prop),bT X.prog X.w (X.env::X.outer) c.H s0 d l T D H' s'->∃J,s'.heap.get? d=a5 J/\J.cls=.ref l/\Inv (X.Mk d J E) pins c0.σ H' s':=λ{T D s'} E F=>by
   obtain⟨a0,J,vs,h1,h2,h3,_⟩:=F.exc;show⟨J,h1,h2,(ac F).Mk h1 F.he OP.1 OP.2 λv z=>by rw[h3]at z;cases z⟩
  show wpAny_handleBy_cons (codeAny_handlers_test ?_) λz=>nomatch z
  have⟨Zd,g1,g2,I3⟩:=Mk (Tj (eh X.prog X.w) (X.A.mark (a5 (.ref d))) X.env λx s'=>cameBackBy (eh X.prog X.w) X.A X.env X.xe x s') F3;show fk I3 X8 X9 ?_ X_;have LT:ä (eh X.prog X.w) s3.heap (Zx (.ref d)) (.ref l):=by
   show(Ĕ g1).andThen ?_;rw[g2];show .now
  show(exm_one I3.LU LT ab).here (codeAny_handlers_suite_as ?_);show F3.land LK Lx λT4 s4 F4=>?_;have⟨Q7,g3,g4,I4⟩:=Mk (λ_ _=>False) F4;show il (X:=X.Mk d Q7 λ_ _=>False) I4 L O (.inl Y) (v:=.ref d) rfl (λs5 I5=>?_) (.inr Y);have pt:=qZ (X:=X.Mk d Q7 λ_ _=>False) (pos:=Vr) (pos':=p6) L hk hz (bU (pos:=p9) O (.inl Y) IW Yb) rfl (.inl X7);show kj ((pE pt tm) pins s5 _ H' {nx:=λσ H=>σ=(c0.σ.set j (a5 (.ref d))).set k (a5 (.ref d))/\H=H',rt:=λ_ _=>False} I5 ?_) (λD s6 z=>?_) λ_ _ z=>z.elim
  .show⟨.ref d,d5 (by rw[I.len];show(dt.mp O).1),rfl,rfl⟩
  .cases D with
   |next =>
    obtain⟨_,_,I6,rfl,rfl⟩:=z;show Inv.gone (X:=X.Mk d Q7 λ_ _=>False) I6 L O Y λs7 I7=>?_;have g7:=(I7.pin (d,Q7) mu).1;show⟨_,_,(I7.H_ I.ok).FZ g7 F4.he ?_ OP.1 (λx c q=>?_) (λp hp=>?_),yn (X:=X) (λm z=>(JJ m z).2) hK ok I_ n0 hσ (by rw[hσ];show ME) hs F4.he g4 Mc _ w⟩
    .cases q:X.s₀.heap.get? d with
     |none=>rfl
     |some o =>
      have⟨o',q'⟩:=B.base.there d o q (by rw[hx];show λz=>nomatch z);show absurd rfl (g d o' q')
    .obtain⟨v,o,q,_⟩:=B.cell x c q;show g c o q
    .show g p.1 p.2 (B.pin p hp).1
   |ret v=>obtain⟨_,_,_,_,_,z⟩:=z;show z.elim
   |_=>obtain⟨_,_,_,z⟩:=z;show z.elim
def ub(n:C.K=X.K)(r:Gl X "isinstance")(y:X.mg "isinstance"=b8)(A:PE X a (IE C B))(G:PE X D (tC vD))(J:∀u,RelV vD u->u=dv)(hs:gs [a,D] X.env=(cc,vl a X.env)::gs [D] X.env)(L:gs [D] X.env=(cc,vl D X.env)::gs [] X.env)(N:(x3 j (gs [D] X.env)).any (·.1)=cc)
  (O:∀q∈g,∀d,ø X.K i5 q.1=a5 (a5 (.ref d))->fX X.K d=bD/\kitOne X.K (.ref d) dv=a5 q.2) :
  PE X (.Call (.Name "isinstance" p) [a,D] [] j) (IE C (B >>= λx=>M.IM (lb g x.2) >>= λb=>pure (.loc,.bl b))):=by
 rintro pins s σ H Q I ⟨c0,rfl,rfl,T,h⟩;show qs (dh I r y (show t4 "isinstance"=a5 (.builtin "isinstance") by decide +kernel) ?_ (by decide +kernel) (by decide +kernel));show Pd (IG (cF A (cF G eN L) hs j pins s c0.σ c0.H (λvs H'=>∃x c v b,KP C c0 c x v/\c.H=H'/\vs=[v,vD]/\lb g x.2=a5 b/\cB C c0 Q (.loc,.bl b) c.st) I ?_) λus s1 ⟨vs,H1,i,Y,x,c,v,b,t,e,e2,f,w⟩=>?_) hs N
 .show aM T h λx c v t w=>?_;rw[ah]at w;have⟨b,e,w⟩:=bG.mp w;rw[ak]at w;show⟨x,c,v,b,t,rfl,rfl,e,w⟩
 .subst e e2;have⟨u1,u2,rfl,Th,Ti⟩:=vals2 Y;obtain rfl:=J _ Ti;have⟨kx,ux⟩:=x;unfold lb at f;split at f
  .rename_i cl k
   dsimp only at k
   subst k;have⟨a,ea,o,d,h1,h2,l⟩:=t.rx.read t.ok;subst ea;cases Th;rw[n]at l;obtain⟨q,hq,m⟩:∃q∈g,q=(cl,b):=⟨_,PySem.mem_of_lookup f,rfl⟩
   have⟨k1,k2⟩:=O _ hq d (by rw[m];show l);rw[m]at k2;show kia_one (xK k1) i.LU ⟨o,(i.IB a _ h1).1,h2⟩ k2 (λz=>nomatch z) λtk=>?_;show⟨.bl b,c.H,i.tok tk,rfl,w c (.bl b) t.hσ rfl t.ok t.nx rfl⟩
  .cases f
theorem qp{S:d7->Prop}:∀{us:List U}{vs:List V}{bs:List Bool},aq C S H us vs->gO us=a5 bs->vs=bs.map V.bl
 |[],vs,bs,h,e=>by cases e;show h
 |.bl b::us,vs,bs,h,e=>by
  have⟨v,r,rfl,d,f⟩:=h;rw[gO,et]at e;have⟨g,e,rfl⟩:=e;rw[show v=V.bl b from d,qp f e];rfl
 |.ID::_,_,_,_,e=>nomatch e
 |.int _::_,_,_,_,e=>nomatch e
 |.str _::_,_,_,_,e=>nomatch e
 |.tup _::_,_,_,_,e=>nomatch e
 |.lst _::_,_,_,_,e=>nomatch e
 |.IA _ _::_,_,_,_,e=>nomatch e
 |.exc _::_,_,_,_,e=>nomatch e
abbrev GC:Bool->Str
 |true=>"index"
 |false=>"count"
def Bs{d b:Bool}(D:C.K=X.K)(u:X.N[i]?=a5 x)(v:Kt X.env.scope x)(y:(x==("__debug__":Str))=cc)(z:(x==("__classdict__":Str))=cc)(A:(g.endLine==G.line)=bD):
  PE X (.Call (.Attribute (.Name x px) (GC d) g) [.Constant (.bool b) q p2] [] G) (IE C (xU d i b)):=by
 have go:∀(σ:L2.St) (H:Hp) (Q:VK),IE C (xU d i b) σ H Q->∃(p:d7) (bs:List Bool),σ[i]?=a5 (a5 (.ref p))/\Jh X.K H p (bs.map V.bl)/\H p=a5 (.lst (bs.map V.bl))/\(d=bD->b∈bs/\Q (.int (bs.idxOf b:Nat)) H)/\(d=cc->Q (.int (bs.count b:Nat)) H):=by
  rintro σ H Q ⟨c0,rfl,rfl,n,h⟩;have⟨r,st',e,w⟩:=h;unfold xU at e;split at e
  .rename_i k us hs;split at e
   .rename_i hk;split at e
    .rename_i bs I;have⟨p,vs,j,f,l⟩:=n.yl hk hs;have J:=qp l I;subst J;show⟨p,bs,j,D▸Jh.of f,f,λo=>?_,λo=>?_⟩
     .subst o;rw[ĝ rfl]at e;split at e
      .rename_i t;cases e;show⟨t,w c0 _ rfl rfl n (Nx.refl c0) rfl⟩
      .cases e
     .subst o;rw[Ğ i1]at e;cases e;show w c0 _ rfl rfl n (Nx.refl c0) rfl
    .cases e
   .cases e
  .cases e
 cases d with
 |false =>
  show PE.weak (kH PySem.F.plainAttrs_list PySem.F.slot_list_count PySem.F.type_list_count xH (bU u v y z) (cF (s_ (b:=b)) eN rfl) rfl rfl A rfl rfl) ?_;intro σ H Q h;obtain⟨p,bs,j,f,l,_,L⟩:=go σ H Q h;show⟨_,j,.inl ⟨rfl,_,f⟩,p,bs,b,rfl,rfl,l,L rfl⟩
 |true =>
  show PE.weak (kH PySem.F.plainAttrs_list PySem.F.slot_list_index PySem.F.type_list_index xI (bU u v y z) (cF (s_ (b:=b)) eN rfl) rfl rfl A rfl rfl) ?_;intro σ H Q h;obtain⟨p,bs,j,f,l,O,_⟩:=go σ H Q h;have⟨t,T⟩:=O rfl;have B:=List.idxOf_lt_length_of_mem t;show⟨_,j,.inl ⟨rfl,_,f⟩,p,bs,b,bs.idxOf b,rfl,rfl,l,?_,λm Y hh=>?_,T⟩
  .rw[sL B,List.getElem_idxOf B]
  .have:=List.not_of_lt_findIdx (p:=(·==b)) (xs:=bs) Y;have⟨h6,h7⟩:=dt.mp hh;rw[h7]at this;simp at this
end
section
def L3.mono(h:∀cl st,P cl st->a cl st)(z:L3 X C pins b P v s'):L3 X C pins b a v s':=by
 have⟨c,s1,d,T,f,H',cl,e,g,i,n,I,F,hs,j,q⟩:=z;show⟨c,s1,d,T,f,H',cl,e,g,i,n,I,F,hs,j,h _ _ q⟩
def GD
  (hP:C.P=X.prog) (hw:C.w=X.w) (hK:C.K=X.K) (hF:Γ f=F) (hk:∀us k u,F us=a5 (.ok (k,u))->(k=.own\/k=.loc\/k=.any)/\us.length=x) (Jo:∀us c,F us=a5 (.exc c)->us.length=x)
  (G:iw X.prog X.w X.K X.mg X.base (Nk X.prog X.w) kd fa fd ps (spT X.prog X.w X.K F x)) (hr:fq kd X.A) (hg:Gl X f) (hm:X.mg f=a5 (.ref fa)) (Ob:PySem.W.keepIn X.K (.ref fa)=bD) (y:Binds X.K fd ps []) (Lj:(f==("__debug__":Str))=cc)
  (ha:PR X C a m) (he:gs [a] X.env=[(cc,vl a X.env)]) :
  PR X C (.Call (.Name f p2) [a] [] p3) (m >>= F5 Γ f):=by
 intro pins s g Post I ok h;rw[ah]at h;show qs (fk I hg hm ?_ Lj);show PySem.W.callWith_K (h₀:=X.base) (rest:=[]) I.ok.mod.NC Ob ?_ he rfl;rw[he];show K5 (kj (ha pins s g _ I ok h) (λu s1 ⟨r,c,v,t,o,rv,w⟩=>NH ?_) λv s1 z=>z.mono λcl st q=>ak.mp q);have w:W (az [r] >>= λ_=>bM Γ f [r.2]) c.st Post:=w;rw[ah,bL]at w;have⟨II,w⟩:=w;show⟨o.LU,?_⟩;have ta:K9 C g c [r] [v]:=⟨t.hσ,t.ok,t.nx,⟨v,[],rfl,t.rx.w,rfl,λ_ i r' v' e _ _=>by simp at e⟩,II⟩
 have p:C.Eqv (Mo X.prog X.w X.K c.H (J' c.H)):=⟨hP,hw,hK⟩
 have Kz:(Mo X.prog X.w X.K c.H (J' c.H)).Eqv C:=⟨hP.symm,hw.symm,hK.symm⟩
 have rd:=ta.read;have Vs:Vals [v] [u]:=.cons rv .nil;rw[<-t.hσ]at o;have l:∀(k1:Kd) (d:U),F [r.2]=a5 (.ok (k1,d))->k1=.own\/k1=.loc->Post (.inl (k1,d)) c.st ->
   dV (eh X.prog X.w) X.A (NQ (.ref fa) [u]) (λu s2=>∃r c v,KP C g c r v/\Inv X pins g.σ c.H s2/\RelV v u/\Post (.inl r) c.st) (L3 X C pins g λcl st=>Post (.inr cl) st) s1:=λk1 d j N3 q=>by
  have⟨k0,k2⟩:=hk _ _ _ j;have B:spT X.prog X.w X.K F x [v] c.H (λv H'=>∃b,KP C g b (k1,d) v/\b.H=H'/\b.st=c.st) E0:=⟨k2,[r.2],.ok (k1,d),J' c.H,j,λ_ z=>z,rd.cg p,k0,λv H' S' y=>y.here (Q:=λv H'=>∃b,KP C g b (k1,d) v/\b.H=H'/\b.st=c.st) N3 t.hσ t.ok t.nx Kz λb v2 D J IS n2 L=>⟨b,⟨D,IS,n2,L⟩,rfl,J⟩⟩
  show kj (j_ (EE:=L3 X C pins g λcl st=>Post (.inr cl) st) G hr y o Vs B λ_ _ ⟨_,_,_,_,_,_,z⟩=>z.elim) (λv s2 ⟨v',H2,I2,L,b,t2,N,O⟩=>?_) λ_ _ z=>z;rw[t.hσ]at I2;subst N;show⟨_,b,v',t2,I2,L,O▸q⟩
 obtain⟨Y,st',n,q⟩:∃Y st',bM Γ f [r.2] c.st=a5 (.ok Y,st')/\Post Y st':=w;unfold bM at n;rw[hF]at n;split at n
 .rename_i d j;cases n;show l _ d j (.inl rfl) q
 .rename_i d j;cases n;show l _ d j (.inr rfl) q
 .rename_i cl j;cases n;have B:spT X.prog X.w X.K F x [v] c.H (λ_ _=>False) (λv _ H'=>(∃Cc,v=.ref Cc/\ø X.K i5 cl=a5 (a5 (.ref Cc)))/\eO c.H H'):=⟨Jo _ _ j,[r.2],.exc _,J' c.H,j,λ_ z=>z,rd.cg p,λC1 H1 h1 h2=>⟨⟨C1,rfl,h1⟩,h2⟩⟩
  show kj (j_ (EE:=L3 X C pins g λcl st=>Post (.inr cl) st) G hr y o Vs B λv s' ⟨ea,C1,T,H',D,F',⟨Cc,J,N⟩,O⟩=>?_) (λv s2 ⟨_,_,_,_,z⟩=>z.elim) λ_ _ z=>z;cases J;show⟨c,s1,ea,T,C1,H',cl,D,t.hσ,t.ok,t.nx,by rw[<-t.hσ];show o,F',O,N,q⟩
 .cases n
def GF(L:C.P=X.prog)(N:C.w=X.w)(O:C.K=X.K)(Q:X.A.units+60<K4)(T:PR X C a m)(Y:PE X.KG b (IE C l))(hm:L5 g.op b=cc):
  PR X C (.Compare a [g.op] [b] pos) (m >>= F6 g l):=by
 intro pins s n Post I ok h;rw[ah]at h;show ć (kj (T pins s n _ I ok h) (λv1 s1 ⟨x,c,vx,t,o,rv,w⟩=>?_) λv s1 z=>z.mono λcl st q=>ak.mp q) hm;have w:W (l >>= λy=>az [x,y] >>= λ_=>M.IM (bK g x.2 y.2) >>= λr=>pure (.inl (.loc,.bl r))) c.st Post:=w;rw[ah]at w;rw[<-t.hσ]at o;show kj (Y pins s1 c.σ c.H (λj p=>∃y f,f.H=p/\N' C n f x y vx j/\W (M.IM (bK g x.2 y.2) >>= λr=>(pure (.inl (.loc,.bl r)):M (Sum (Kd×U) Str))) f.st Post) (o.ip _) ⟨c,rfl,rfl,t.ok,w.mono λy st2 i f j B e4 IS D G=>?_⟩) (λu s2 ⟨j,p,k,ru,y,f,e5,d,J⟩=>?_) λ_ _ z=>z.elim
 .rw[ah,bL]at i;subst e4;rw[dO]at i;show⟨y,f,rfl,⟨B.trans t.hσ,IS,t.nx.trans D,(t.rx.w.on t.ok D B).t i.1.1,G.from t.nx,jg t.rx.w G.w⟩,i.2⟩
 .subst e5;have k:=k.eL;rw[ah]at J;have⟨r,e,q⟩:=bG.mp J;rw[ak]at q;show kj (ll (X:=X.KG) (pins:=pins) L N O Q d (by rw[d.hσ,<-t.hσ];show k.ip _) rv ru e) (λz s' ⟨e,I'⟩=>?_) λ_ _ z=>z.elim;subst e;show⟨(.loc,.bl r),f,.bl r,⟨d.hσ,d.ok,d.nx,rfl⟩,by rw[<-d.hσ];show I'.eL,rfl,q⟩
def Er(g:PR X C a m)
  (i:∀c H',C.xw (.str c) H'->∀b T H pins σ s e s',ø X.K i5 c=a5 (a5 (.ref b))->Inv X pins σ H s->bT X.prog X.w X.stack H s e b T .none H' s'->X.xe (.ref e) s'):L2.PS X (.Return (a5 a) pos) (Jp C ns (m >>= DW)):=by
 rintro pins s σ H D I ⟨d,rfl,rfl,f,h⟩;rw[ah]at h;show Ý (kj (g pins s d _ I f h) (λu s2 ⟨r,c,v,t,j,rv,q⟩=>?_) λv s2 z=>?_)
 .show⟨v,d.σ,c.H,j,rv,ql f t q⟩
 .have⟨c,s1,k,T,l,H',cl,rfl,n,o,p,x,F,hs,y,q⟩:=z;rw[show DW (.inr cl)=pure (.rt .io (.str cl)) from rfl,ak]at q;have⟨A,B⟩:=o.grow (H':=H') (S':=c.S) hs (λa z=>.inl z) λa z=>z;show i cl H' (q {c with H:=H' } rfl A (p.trans B) (Kept.of n)) l _ c.H pins _ s1 k s2 y x F
def GG(hK:C.K=X.K)(hN:X.N[i]?=a5 x)(hv:Kt X.env.scope x)(hd:(x==("__debug__":Str))=cc)(Jg:(x==("__classdict__":Str))=cc)(ha:PE X a (IE C ma))(hb:PE X b (IE C mb))
  (JB:((x3 o (gs [a,b] X.env)).all (λx=>!x.1)&&(PH o (Lq [] X.env)).all (λx=>x.1.isSome)
   && cn ([a,b].length+([]:List MA).length+(if ([]:List MA).isEmpty then 0 else 1)<30))=bD)
  (IL:(l.endLine==o.line)=bD) (I:gs [a,b] X.env=(cc,vl a X.env)::gs [b] X.env) (J:gs [b] X.env=[(cc,vl b X.env)]) :
  L2.PS X (.Expr (.Call (.Attribute (.Name x px) "insert" l) [a,b] [] o) pos) (Jp C ns (dg i >>= λx=>LZ x.2 >>= λ_=>ma >>= λy=>mb >>= λr=>az [y] >>= λ_=>lift r >>= λu=>modS i (AS y.2 u) >>= λ_=>pure .nx)):=by
 show PS.weak (iq (kH PySem.F.plainAttrs_list PySem.F.slot_list_insert PySem.F.type_list_insert vB (bU hN hv hd Jg) (cF ha (cF hb eN J) I) rfl JB IL I (by rw[J];rfl))) ?_;rintro D σ H ⟨c0,rfl,rfl,p,h⟩;rw[ah]at h;have⟨k0,u0,KY,JW,h⟩:=cX h;have⟨v0,L,t0⟩:=p.slot KY JW;show⟨v0,L,?_⟩;cases u0 with
 |lst LP =>
  rw[ah,show LZ (U.lst LP)=pure () from rfl,ak]at h;obtain⟨a0,Nu,s,Nb,_⟩:=t0.list p;show⟨by rw[s];show .inl ⟨rfl,Nu,hK▸Nb⟩,?_⟩;show aM p h λy c v t w=>?_;rw[<-t.hσ];show aM t.ok w λr f A g m=>?_;rw[ah,bL]at m;have⟨II,m⟩:=m;rw[ah]at m;obtain⟨S',st',u,sS,O,n1,n,Q,_,_⟩:=gu t.ok g.ok g.nx g.rx.w m;rw[ah]at Q;have⟨k,u1,u2,hk,hs,d,q⟩:=fc Q;have T:f.σ[i]?=a5 (a5 (.ref a0)):=by rw[g.hσ,t.hσ,L,s]
  have⟨ky,uy⟩:=y;cases u1 with
  |lst e =>
   cases uy with
   |int j =>
    have d:(if 0<=j/\j.toNat<=e.length/\e.length<cK then a5 (U.lst (e.take j.toNat++u::e.drop j.toNat)) else b8)=a5 u2:=d;split at d
    .rename_i hz;cases d;have ev:v=.int j:=t.rx.int t.ok;subst ev;have⟨v',e1,e2⟩:=O.sl i k (.lst e) hs;have Y:f.σ[i]?=a5 (a5 v'):=e1;rw[T]at Y;cases Y;obtain⟨r',er,_,_,_,ws,hw,B⟩:=e2.rt hk;cases er;have OZ:f.H a0=a5 (.lst ws):=hw;have hl:=B.len;show⟨a0,ws,j.toNat,A,s,by rw[Int.toNat_of_nonneg hz.1],OZ,⋯,⋯,?_⟩;rw[ak]at q;have⟨IS,n2⟩:=Ok.mod (c:={f with S:=S',st:=st' }) (H':=upd f.H a0 (.lst (ws.take j.toNat++A::ws.drop j.toNat))) (u':=.lst (e.take j.toNat++u::e.drop j.toNat)) O (t.nx.trans n1).toNs hk hs T (λa ne=>au ne) ⟨_,ay⟩ λG=>⟨_,ay,((B.mv G).take _).append ⟨A,_,rfl,n.mv G,(B.mv G).drop _⟩⟩
     have z:=q _ rfl IS n2 (Kept.of (g.hσ.trans t.hσ));rw[show f.σ=c.σ from g.hσ]at z;show z
    .cases d
   |_=>cases d
  |_=>cases d
 |_=>rw[ah]at h;show(bt.mp h).elim
end
end TM
namespace TM
open PySem L2 PyProof.Rows
@[reducible]def Mr(P:u7)(w:DD)(K:PySem.W.Frag)(H:Hp)(a IO:d7->Prop):Ct:=⟨P,w,K,H,a,IO,λ_ _=>False⟩
structure Cu(C:Ct)(H H':Hp)(S':d7->Prop)(is:List Nat)(vs:List V)(ws:List U)(k:Kd)(u:U)(v:V):Prop where
 same:∀a o,H a=a5 o->¬C.IO a->H' a=a5 o
 new:∀a,S' a->H a=b8/\∃o,H' a=a5 o
 own:k=.own->∃r,v=.ref r/\H r=b8/\¬S' r/\c9 C S' H' r u
 loc:k=.loc->Rep C S' H' u v
 len:ws.length=is.length
 KA:∀(n i:Nat) (r:d7) (w:U),is[n]?=a5 i->vs[i]?=a5 (.ref r)->ws[n]?=a5 w->c9 C S' H' r w
structure Es(C:Ct)(H:Hp)(is:List Nat)(us:List U)(vs:List V):Prop where
 len:us.length=vs.length
 par:∀a,C.Lk a->J' H a/\¬C.IO a
 Vt:∀a,C.IO a->J' H a
 io:∀(i:Nat) (u:U),i∈is->us[i]?=a5 u->∃r,vs[i]?=a5 (.ref r)/\C.IO r/\c9 C (λ_=>False) H r u
 any:∀(i:Nat) (u:U),i∉is->us[i]?=a5 u->∃v,vs[i]?=a5 v/\Rep C C.Lk H u v
 inj:∀(i j:Nat) (r:d7),i∈is->j∈is->vs[i]?=a5 (.ref r)->vs[j]?=a5 (.ref r)->i=j
 KA:∀a,C.IO a->∃i∈is,vs[i]?=a5 (.ref a)
abbrev Q8(P:u7)(w:DD)(K:PySem.W.Frag)(F:List U->Option (Ex (Kd×U)))(b:Nat)(is:List Nat):Sp:=λvs H Q _=>vs.length=b/\∃us k u ws a IO,F us=a5 (.ok (k,.tup (u::ws)))/\(k=.own\/k=.loc)/\Es (Mr P w K H a IO) H is us vs /\
 ∀v H' S',Cu (Mr P w K H a IO) H H' S' is vs ws k u v->Q v H'
theorem map_inj:∀{l:List α},(l.map f).Nodup->∀x∈l,∀y∈l,f x=f y->x=y
 |[],_,_,h,_,_,_=>by cases h
 |a::l,h,x,g,y,c,e=>by
  rw[d8,mh]at h;rcases d3.mp g with d|h1
  .rcases d3.mp c with b|h2
   .rw[d,b]
   .show absurd (js.mpr ⟨y,h2,by rw[<-e,d]⟩) h.1
  .rcases d3.mp c with b|h2
   .show absurd (js.mpr ⟨x,h1,by rw[e,b]⟩) h.1
   .show map_inj h.2 x h1 y h2 e
section
def vS(h:hZ rs p=a5 j):∃us,rs[p]?=a5 (.bor j,.lst us)/\cH us=bD:=by
 unfold hZ at h;split at h
 .split at h
  .cases h;show⟨_,by assumption,by assumption⟩
  .cases h
 .cases h
def K9.Vu(t:K9 C d c rs vs){i:Nat}(h:rs[i]?=a5 r):∃v,vs[i]?=a5 v/\aQ C d c r.1 r.2 v:=by
 have f:∀(l:List (Kd×U)) (w:List V),cV C d c l w->aW l c.st->∀(i:Nat) (r:Kd×U),l[i]?=a5 r->∃v,w[i]?=a5 v/\aQ C d c r.1 r.2 v:=by
  intro l;induction l with
  |nil=>intro w _ _ i r e;simp at e
  |cons x l g =>
   intro w h hs i r e;obtain⟨v,t',rfl,j,k,_⟩:=h;rw[dO]at hs;cases i with
   |zero=>simp at e;subst e;show⟨v,rfl,j.t hs.1⟩
   |succ i=>have⟨m,a,b⟩:=g t' k hs.2 i r (by simpa using e);show⟨m,by simpa using a,b⟩
 show f rs vs t.rep t.Oa i r h
def K9.len(t:K9 C a c rs vs):rs.length=vs.length:=by
 have:=t.read.len;rw[c4]at this;show this
theorem uc(q:C'.Eqv C){vs:List V}(hs:∀a,S' a->S1 a){IO:d7->Prop}(O:∀a,S' a->¬IO a)(y:∀a o,IO a->H' a=a5 o->¬Tp o):
  ∀(ps:List Nat) (ws:List U) (c:Cf) (st':aw),Ok C c->Ns c1 c->c.S=S1->gP rs ps ws c.st=a5 st'->(ps.map (hZ rs)).Nodup->(∀p∈ps,∀a,vs[p]?=a5 (.ref a)->IO a) ->
  (∀p∈ps,∀j,hZ rs p=a5 j->∃k u r,k.root=bD/\c.st[j]?=a5 (a5 (k,u))/\c.σ[j]?=a5 (a5 (.ref r))/\vs[p]?=a5 (.ref r)) ->
  (∀(n p:Nat) (r:d7) (w:U),ps[n]?=a5 p->vs[p]?=a5 (.ref r)->ws[n]?=a5 w->c9 C' S' H' r w)->(∀a,(∀p∈ps,vs[p]?≠a5 (.ref a))->c.H a=H' a)->(∀a,¬IO a->c.H a=H' a) ->
  ∃g:Cf,Ok C g/\Ns c1 g/\g.σ=c.σ/\g.S=S1/\g.st=st'/\g.H=H'/\g.kid=c.kid/\∀(j:Nat) (k:Kd) (u:U),g.st[j]?=a5 (a5 (k,u))->∃A,c.st[j]?=a5 (a5 (k,A))
 |[],ws,c,st',B,n,x,e,_,_,_,_,D,_=>by
  cases ws with
  |nil=>cases e;show⟨c,B,n,rfl,x,rfl,funext λa=>D a λp hp=>(by cases hp),rfl,λj k u e=>⟨u,e⟩⟩
  |cons _ _=>cases e
 |p::ps,ws,c,st',B,n,x,e,G,Q,T,rt,D,I=>by
  cases ws with
  |nil=>cases e
  |cons w ws =>
   simp only[gP]at e;split at e
   .rename_i j Y;split at e
    .rename_i us k0 Zf II;have⟨k,u,r,hk,s,e2,J⟩:=T p (by simp) j Y;rw[II]at s;cases s;have s:=II;have hr:=rt 0 p r _ rfl J rfl;have⟨xs,g1,g2⟩:=hr;have L:IO r:=Q p (by simp) r J;rw[d8,mh]at G;have⟨IT,n'⟩:=B.mod (H':=upd c.H r (.lst xs)) (u':=.lst us) n hk s e2 (λa ne=>au ne) ⟨_,ay⟩ (λ_=>⟨xs,ay,by
      show(g2.cg q).mv ⟨λa z=>by rw[x];show hs a z,λa o h tp=>?_,λa o z h=>?_⟩
      .by_cases l:a=r
       .subst l;show absurd tp (y a o L h)
       .rw[au l];by_cases v:IO a
        .show absurd tp (y a o v h)
        .rw[I a v];show h
      .have v:=O a z;have l:a≠r:=λe=>v (e▸L);rw[au l,I a v];show h⟩)
     have JP:j<c.st.length:=(dt.mp s).1;have A1:∀f∈ps,∀t,hZ rs f=a5 t->∃k u r,Kd.root k=bD/\(c.st.set j (a5 (k0,.lst us)))[t]?=a5 (a5 (k,u))/\c.σ[t]?=a5 (a5 (.ref r))/\vs[f]?=a5 (.ref r):=λf hp t Ls=>by
      have⟨k',u',N,a1,a2,a3,a4⟩:=T f (by simp[hp]) t Ls;have ne:j≠t:=λz=>G.1 (js.mpr ⟨f,hp,by rw[Ls,Y,z]⟩);show⟨k',u',N,a1,by rw[hQ ne];show a2,a3,a4⟩
     have A2:∀a,(∀f∈ps,vs[f]?≠a5 (.ref a))->upd c.H r (.lst xs) a=H' a:=λa l=>by
      by_cases h:a=r
      .subst h;rw[ay,g1]
      .rw[au h];show D a λf hp z=>?_;rcases d3.mp hp with rfl|hp
       .rw[J]at z;cases z;show h rfl
       .show l f hp z
     have A3:∀a,¬IO a->upd c.H r (.lst xs) a=H' a:=λa l=>by
      have ne:a≠r:=λz=>l (by rw[z];show L);rw[au ne];show I a l
     have⟨g,f1,f2,f3,f4,f5,f6,f7,f8⟩:=uc q hs O y ps ws {c with H:=upd c.H r (.lst xs),st:=c.st.set j (a5 (k0,.lst us))} st' IT n' x e G.2 (λf hp=>Q f (by simp[hp])) A1 (λm f N w' a b d=>rt (m+1) f N w' (by simpa using a) b (by simpa using d)) A2 A3;show⟨g,f1,f2,f3,f4,f5,f6,f7,λi k' u' z=>?_⟩;have⟨A,z⟩:=f8 i k' u' z;by_cases hi:i=j
     .subst hi;have z:(c.st.set i (a5 (k0,.lst us)))[i]?=_:=z;rw[d5 JP]at z;cases z;show⟨_,s⟩
     .have z:(c.st.set j (a5 (k0,.lst us)))[i]?=_:=z;rw[hQ (ri hi)]at z;show⟨A,z⟩
    .cases e
   .cases e
end
section
def Bt(st:aw)(r:Kd×U):(eD st r).1=r.1:=by
 unfold eD;split<;>rfl
theorem cV.Vv{st:aw}:∀{rs:List (Kd×U)}{vs:List V},cV C d c rs vs->cV C d c (rs.map (eD st)) vs
 |[],_,h=>h
 |r::rs,vs,h=>by
  have⟨v,t,rfl,e,f,g⟩:=h;show⟨v,t,rfl,?_,cV.Vv f,λhk i n j a l b=>?_⟩
  .have⟨k,u⟩:=r;cases k<;>show e
  .rw[ki,et]at a;have⟨m,a,rfl⟩:=a;rw[Bt]at hk b;show g hk i m j a l b
def Bu(h:PA X es (J5 C ms)):PA X es (J5 C (ms >>= AO)):=by
 rintro pos pins s σ H Q I ⟨a,rfl,rfl,b,w⟩;show h pos pins s a.σ a.H Q I ⟨a,rfl,rfl,b,?_⟩;rw[ah]at w;show w.mono λrs st d c vs f g i n r=>?_;have⟨j,st',e,q⟩:=d;cases e;show q c vs f g i n r.Vv
def yo(h:S8 r=a5 (k,u,ws)):r=(k,.tup (u::ws))/\(k=.own\/k=.loc):=by
 unfold S8 at h;split at h
 .cases h;show⟨rfl,.inl rfl⟩
 .cases h;show⟨rfl,.inr rfl⟩
 .cases h
def yp(hP:C.P=X.prog)(hw:C.w=X.w)(hK:C.K=X.K)(hF:Γ f=F)(hk:∀us r,F us=a5 (.ok r)->us.length=np)
  (G:iw X.prog X.w X.K X.mg X.base NT k fa fd ps (Q8 X.prog X.w X.K F np is)) (hr:fq k X.A) (hg:Gl X f) (hm:X.mg f=a5 (.ref fa)) (Ob:PySem.W.keepIn X.K (.ref fa)=bD) (B:Binds X.K fd ps [])
  (Lj:(f==("__debug__":Str))=cc) (ha:PA X (e::es) (J5 C ms)) (he:gs (e::es) X.env=(cc,vl e X.env)::gs es X.env) (Jv:(x3 pos (gs es X.env)).any (·.1)=cc) :
  PE X (.Call (.Name f p) (e::es) [] pos) (IE C (ms >>= λrs=>az rs >>= λ_=>qg Γ f rs is)):=by
 rintro pins s σ H Q I ⟨c0,rfl,rfl,ok,h⟩;show qs (fk I hg hm ?_ Lj);show PySem.W.callWith_K (h₀:=X.base) I.ok.mod.NC Ob (IG (args ha I ok h pos) λus s1 ⟨rs,c,vs,t,I1,rv,w⟩=>⟨I1.LU,?_⟩) he Jv;have⟨r,st',D,q⟩:=w;unfold qg at D;rw[hF]at D;split at D
 .rename_i r0 e2;split at D
  .rename_i kd u ws eu;split at D
   .rename_i JN;split at D
    .rename_i st2 T6;cases D;have⟨rfl,k1⟩:=yo eu;have k2:=hk _ _ e2;unfold qf at JN;simp only[cb,i6,Ĝ,LF,tA]at JN;obtain⟨⟨h1,h2⟩,h3⟩:=JN;have Y:∀p∈is,∃j xs k r,hZ rs p=a5 j/\rs[p]?=a5 (.bor j,.lst xs)/\cH xs=bD/\Kd.root k=bD/\c.st[j]?=a5 (a5 (k,.lst xs))/\c.σ[j]?=a5 (a5 (.ref r))/\vs[p]?=a5 (.ref r)/\¬c.S r/\¬C.Lk r/\c9 C c.S c.H r (.lst xs):=λp L=>by
      have⟨j,T⟩:=RG.mp (h1 p L);have⟨xs,a1,a2⟩:=vS T;have⟨v,b1,l⟩:=t.Vu a1;obtain⟨r,rfl,d1,d2,_,N⟩:=t.ok.rootOf l.1 l.2;have⟨k,m,x⟩:=l.1;show⟨j,xs,k,r,T,a1,a2,m,x,l.2,b1,d1,d2,N⟩
     let IO:d7->Prop:=λa=>∃p∈is,vs[p]?=a5 (.ref a);have Qc:∀a,IO a->c.R a/\¬c.S a/\¬C.Lk a/\J' c.H a:=λa Jb=>by
      have⟨p,L,e⟩:=Jb;obtain⟨j,xs,k,r,_,_,_,m,x,y,J,g5,g6,g7⟩:=Y p L;rw[e]at J;cases J;obtain⟨o,ho,_⟩:=g7.some;show⟨.inl ⟨j,k,_,m,x,y⟩,g5,g6,o,ho⟩
     let Pr:d7->Prop:=λa=>J' c.H a/\¬IO a;have ab:C.Eqv (Mr X.prog X.w X.K c.H Pr IO):=⟨hP,hw,hK⟩
     have Kz:(Mr X.prog X.w X.K c.H Pr IO).Eqv C:=⟨hP.symm,hw.symm,hK.symm⟩
     have sP:∀a,c.S a->Pr a:=λa z=>⟨t.ok.xM a z,λz'=>(Qc a z').2.1 z⟩
     have gi:∀{i:Nat} {u:U},(rs.map (·.2))[i]?=a5 u->∃k,rs[i]?=a5 (k,u):=λ{i u} e=>by
      rw[ki,et]at e;obtain⟨⟨k,u'⟩,e,rfl⟩:=e;show⟨k,e⟩
     have ac:Es (Mr X.prog X.w X.K c.H Pr IO) c.H is (rs.map (·.2)) vs:=by
      show⟨by rw[c4];show t.len,λa z=>z,λa z=>(Qc a z).2.2.2,λi u O e=>?_,λi u O e=>?_,λi j r O T e3 e4=>?_,λa z=>z⟩
      .obtain⟨j,xs,k,r,_,g0,gm,m,x,y,J,g5,g6,zs,g7,g8⟩:=Y i O;have⟨k',e⟩:=gi e;rw[g0]at e;cases e;show⟨r,J,⟨i,O,J⟩,zs,g7,(aq.I0 gm g8).cg ab⟩
      .have⟨k',e⟩:=gi e;have⟨v,b1,l⟩:=t.Vu e;show⟨v,b1,?_⟩;have JP:i<rs.length:=(dt.mp e).1;have O0:=(h3 i JP).resolve_left O;rw[W8,e]at O0;show Rep.cg ab (u:=u) ?_;cases k' with
       |own =>
        obtain⟨r,rfl,_,d1,d2,N⟩:=l;obtain⟨o,ho,_⟩:=N.some;show N.rep sP ⟨⟨o,ho⟩,λz=>d2 (Qc r z).1⟩
       |loc=>show Rep.mv (.up sP) l
       |any=>show Rep.mv (.up λa z=>z.elim (λz=>⟨t.ok.F0 a (.inl z),λz'=>(Qc a z').2.2.1 z⟩) (sP a)) l
       |bor j =>
        obtain⟨r,rfl,d1,d2,_,N⟩:=t.ok.rootOf l.1 l.2;obtain⟨o,ho,_⟩:=N.some;show N.rep sP ⟨⟨o,ho⟩,λ⟨p',Vw,e'⟩=>?_⟩;obtain⟨j',xs,k2,r2,g,_,_,m,x,y,J,_⟩:=Y p' Vw;rw[e']at J;cases J;have⟨k3,z1,z2⟩:=l.1;have:=t.ok.inj j j' k3 k2 _ _ r z1 m z2 x l.2 y;subst this;have:a5 j∉is.map (hZ rs):=by simpa[qe] using O0
        show this (js.mpr ⟨p',Vw,g⟩)
       |_=>show l.elim
      .obtain⟨j1,_,k1,r1,a0,_,_,a1,a2,a3,a4,_⟩:=Y i O;obtain⟨j2,_,k2,r2,b0,_,_,b1,l,b3,b4,_⟩:=Y j T;rw[e3]at a4;cases a4;rw[e4]at b4;cases b4;have:=t.ok.inj j1 j2 k1 k2 _ _ r a1 b1 a2 l a3 b3;subst this;show map_inj h2 i O j T (by rw[a0,b0])
     have J9:Q8 X.prog X.w X.K F np is vs c.H (λv H'=>Q v H') E0:=⟨by rw[<-t.len,<-k2,c4],rs.map (·.2),kd,u,ws,Pr,IO,e2,k1,ac,λv H' S' B=>by
      classical
      let H1:Hp:=λa=>if IO a then c.H a else H' a
      have Q9:∀a,¬IO a->H1 a=H' a:=λa z=>Ğ z;have Qb:∀a,S' a->¬IO a:=λa z z'=>by
       have⟨o,ho⟩:=(Qc a z').2.2.2;rw[(B.new a z).1]at ho;cases ho
      have Qd:eO c.H H1:=λa o e=>by
       by_cases z:IO a
       .change(if IO a then _ else _)=_;rw[ĝ z];show e
       .rw[Q9 a z];show B.same a o e z
      have⟨IF,n1⟩:=t.ok.grow (H':=H1) (S':=λa=>c.S a\/S' a) Qd (λa z=>z.imp id λz=>⟨(B.new a z).1,by rw[Q9 a (Qb a z)];show(B.new a z).2⟩) λa=>.inl;have Qe:∀(n i:Nat) (r:d7),is[n]?=a5 i->vs[i]?=a5 (.ref r)->∃w,ws[n]?=a5 w/\c9 (Mr X.prog X.w X.K c.H Pr IO) S' H' r w:=λn i r a b=>by
       have hn:n<ws.length:=by rw[B.len];show(dt.mp a).1
       show⟨_,sL hn,B.KA n i r _ a b (sL hn)⟩
      have⟨cf,f1,f2,f3,f4,f5,f6,f7,f8⟩:=uc (C:=C) Kz (rs:=rs) (vs:=vs) (H':=H') (S':=S') (S1:=λa=>c.S a\/S' a) (λa=>.inr) (IO:=IO) Qb (λa o ⟨i,O,z⟩ e=>by
        have⟨n,hn⟩:=List.getElem?_of_mem O;obtain⟨w,_,g⟩:=Qe n i a hn z;have⟨o',m,x⟩:=g.some;rw[e]at m;cases m;show x) is ws {c with H:=H1,S:=λa=>c.S a\/S' a} st' IF n1.toNs rfl T6 h2 (λp L a z=>⟨p,L,z⟩) (λp L j T=>by
        obtain⟨j',xs,k,r,g0,_,_,m,x,y,J,_⟩:=Y p L;rw[T]at g0;cases g0;show⟨k,_,r,m,x,y,J⟩) (λn i r w a b d=>B.KA n i r w a b d) (λa ha=>Q9 a λ⟨p,L,z⟩=>ha p L z) Q9
      subst f6;have Yf:∀a,cf.R a->c.R a:=λa z=>by
       rcases z with⟨j,k,u,m,x,y⟩|⟨j,u,r,m,x,y⟩
       .have⟨u0,g⟩:=f8 j k u x;rw[f3]at y;show .inl ⟨j,k,u0,m,g,y⟩
       .have⟨u0,g⟩:=f8 j .Iw u m;rw[f3]at x;rw[f7]at y;show .inr ⟨j,u0,r,g,x,y⟩
      show q cf v (f3.trans t.hσ) f5 f1 ⟨t.nx.toNs.trans f2⟩ ?_;rcases k1 with rfl|rfl
      .have⟨r,rfl,d1,d2,N⟩:=B.own rfl;obtain⟨_,z1,_,_,z4⟩:=t.ok.k7 d1;show⟨r,rfl,t.nx.none d1,by rw[f4];show λz=>z.elim z1 d2,λz=>z4 (Yf r z),(N.cg Kz).mv (.up λa z=>by rw[f4];show .inr z) λo q=>q⟩
      .show((B.loc rfl).cg Kz).mv (.up λa z=>by rw[f4];show .inr z)⟩
     have z:=wN (Q:=Q) G hr B .nil FR I1 rv (by rw[rr];show J9);rw[t.hσ]at z;show z
    .cases D
   .cases D
  .cases D
 .cases D
end
structure Ck where
 fns:List Str
 gl:List (Str×U)
 KA:List (Str×List Nat)
 xc:List Str
 xd:List (Str×Str)
 xi:List (Str×Str×Bool)
 xe:List (Str×Str)
abbrev rW:U->U->Bool
 |.int i,.int j=>cn (i=j)
 |.str x,.str y=>cn (x=y)
 |.bl a,.bl b=>a==b
 |.ID,.ID=>bD
 |_,_=>cc
def cY(h:rW u v=bD):u=v:=by
 cases u<;>cases v<;>simp[rW]at h<;>subst_vars<;>rfl
abbrev noStar:l'->Bool
 |.Starred _ _=>cc
 |_=>bD
abbrev eJ:l'->Bool
 |.Slice _ _ _ _=>cc
 |_=>bD
abbrev rX:l'->Bool
 |.Set _ _ _=>cc
 |_=>bD
abbrev oO:l'->Bool
 |.Call (.Name _ _) [] [] _=>cc
 |_=>bD
abbrev dc:l'->Bool
 |.ListComp _ _ _ _=>cc
 |.SetComp _ _ _ _=>cc
 |.DictComp _ _ _ _ _=>cc
 |_=>bD
abbrev Et:l'->Bool
 |.Tuple _ _ _=>cc
 |_=>bD
abbrev JZ(a:LY)(x:Str):Bool:=cn (a.names.lookup x=a5 .globalImplicit)
abbrev f_(a:LY)(x:Str):Bool:=cn (a.names.lookup x=a5 .local)||decide (a.names.lookup x=a5 .cell)||decide (a.names.lookup x=a5 .free)
abbrev lr(a:LY)(x:Str):Bool:=cn (a.names.lookup x=a5 .local)||decide (a.names.lookup x=a5 .cell)
abbrev GH(a:LY)(x:Str):Bool:=cn (a.names.lookup x=a5 .local)
abbrev a_(x:Str):Bool:=!(x==("__debug__":Str))&&!(x==("__classdict__":Str))
abbrev ud(N:List Str)(a:LY)(fa:Bool)(i:Nat):l'->Bool
 |.Name x _=>cn (N[i]?=a5 x)&&lr a x&&(fa||GH a x)
 |_=>cc
abbrev oP(N:List Str)(a:LY)(fa:Bool):List Nat->List l'->Bool
 |[],[]=>bD
 |i::is,e::es=>ud N a fa i e&&oP N a fa is es
 |_,_=>cc
abbrev gQ:l'->List Str
 |.Name x _=>[x]
 |.Tuple es _ _=>es.filterMap fun|.Name x _=>a5 x|_=>b8
 |_=>[]
abbrev hide(a N:List Str):List Str:=match a.filter λx=>cn (x∈N) with
 |[]=>N
 |[x]=>N.set (N.idxOf x) "."
 |x::y::_=>(N.set (N.idxOf x) ".").set (N.idxOf y) ".."
abbrev O1(t:Bool)(N:List Str)(a:LY)(fa:Bool)(is:List Nat):l'->Bool
 |.Name x p=>!t&&(match is with|[i]=>ud N a fa i (.Name x p)|_=>cc)
 |.Tuple es _ _=>t&&oP N a fa is es&&is.all λi=>cn (i<N.length)
 |_=>cc
abbrev isTup:l'->Bool
 |.Tuple _ _ _=>bD
 |_=>cc
abbrev oQ(e:l'):Option (Str×List l'):=match e with
 |.Call f as kw _=>match f with
  |.Name x _=>if kw.isEmpty=bD then a5 (x,as) else b8
  |_=>b8
 |_=>b8
def jF(h:oQ e=a5 (x,as)):∃p q,e=.Call (.Name x p) as [] q:=by
 unfold oQ at h;split at h
 .split at h
  .split at h
   .rename_i hk;rw[Jm]at hk;cases h;subst hk;show⟨_,_,rfl⟩
   .cases h
  .cases h
 .cases h
abbrev gb(a:LY)(b:l')(c:Ik)(e:l'):Option (List l'):=match c with
 |.seq=>a5 [e]
 |.Js=>(oQ e).bind λp=>if p.1="range"/\JZ a p.1=bD/\p.2.length=1 then a5 p.2 else b8
 |.N7=>(oQ e).bind λp=>if p.1="enumerate"/\JZ a p.1=bD/\p.2.length=1/\isTup b=bD then a5 p.2 else b8
 |_=>b8
abbrev simple:Bf->Bool:=λ_=>bD
abbrev Eu(scope a:LY):LY:={scope with names:=scope.names.map λ(n,k)=>if (k==Mx&&a.kind==.function&&a.names.lookup n==a5 .cell)=bD then(n,.cell) else(n,k)}
abbrev aY(e:l')(k:Str->Bool):Bool:=match e with|.Name x _=>k x|_=>cc
def ao(h:aY e k=bD):∃x p,e=.Name x p/\k x=bD:=by
 unfold aY at h;split at h
 .show⟨_,_,rfl,h⟩
 .cases h
abbrev cP{α:Type}(l:List α)(k:α->Bool):Bool:=match l with|[a]=>k a|_=>cc
def aL(h:cP l k=bD):∃a,l=[a]/\k a=bD:=by
 unfold cP at h;split at h
 .show⟨_,rfl,h⟩
 .cases h
abbrev de(e:l')(k:l'->List l'->Pos->Bool):Bool:=match e with|.Call f as kw p=>kw.isEmpty&&k f as p|_=>cc
def aU(h:de e k=bD):∃f as p,e=.Call f as [] p/\k f as p=bD:=by
 unfold de at h;split at h
 .rename_i f as kw p;rw[cb,Jm]at h;have⟨rfl,h⟩:=h;show⟨_,_,_,rfl,h⟩
 .cases h
abbrev rY(e:l')(k:l'->Str->Pos->Bool):Bool:=match e with|.Attribute o m p=>k o m p|_=>cc
def qq(h:rY e k=bD):∃o m p,e=.Attribute o m p/\k o m p=bD:=by
 unfold rY at h;split at h
 .show⟨_,_,_,rfl,h⟩
 .cases h
abbrev ue(e:l')(k:l'->Z6->l'->Bool):Bool:=match e with|.BinOp a c b _=>k a c b|_=>cc
def lu(h:ue e k=bD):∃a c b p,e=.BinOp a c b p/\k a c b=bD:=by
 unfold ue at h;split at h
 .show⟨_,_,_,_,rfl,h⟩
 .cases h
abbrev qr(e:l')(k:l'->ë->l'->Bool):Bool:=match e with|.Compare a ops bs _=>cP ops λc=>cP bs λb=>k a c b|_=>cc
def fC(h:qr e k=bD):∃a c b p,e=.Compare a [c] [b] p/\k a c b=bD:=by
 unfold qr at h;split at h
 .have⟨c,rfl,d⟩:=aL h;have⟨b,rfl,f⟩:=aL d;show⟨_,_,_,_,rfl,f⟩
 .cases h
abbrev dY(e:l')(k:l'->Str->Pos->List l'->Pos->Bool):Bool:=de e λf as b=>rY f λo m a=>k o m a as b
def bC(h:dY e k=bD):∃o m a as b,e=.Call (.Attribute o m a) as [] b/\k o m a as b=bD:=by
 have⟨f,as,p,rfl,h⟩:=aU h;have⟨o,m,q,rfl,h⟩:=qq h;show⟨_,_,_,_,_,rfl,h⟩
abbrev jG(e:l')(k:l'->l'->Bool):Bool:=match e with|.Subscript a b _=>k a b|_=>cc
def dm(h:jG e k=bD):∃a b p,e=.Subscript a b p/\k a b=bD:=by
 unfold jG at h;split at h
 .show⟨_,_,_,rfl,h⟩
 .cases h
abbrev T7:E->Bool
 |.var _=>bD
 |.cst _=>bD
 |_=>cc
abbrev jH{α:Type}(l:List α)(k:α->α->Bool):Bool:=match l with|[a,b]=>k a b|_=>cc
def cC(h:jH l k=bD):∃a b,l=[a,b]/\k a b=bD:=by
 unfold jH at h;split at h
 .show⟨_,_,rfl,h⟩
 .cases h
abbrev uf(e:l')(k:Const->Bool):Bool:=match e with|.Constant c _ _=>k c|_=>cc
def h_(h:uf e k=bD):∃c q p,e=.Constant c q p/\k c=bD:=by
 unfold uf at h;split at h
 .show⟨_,_,_,rfl,h⟩
 .cases h
abbrev Ii:Const->Option U
 |.int j=>a5 (.int j)
 |.str y=>a5 (.str y)
 |.bool y=>a5 (.bl y)
 |.none=>a5 .ID
 |_=>b8
abbrev Ij(u:U)(c:Const):Bool:=match Ii c with|some v=>rW u v|none=>cc
abbrev Bx(e:l')(a:BoolOp)(k:List l'->Bool):Bool:=match e with|.BoolOp o es _=>cn (o=a)&&k es|_=>cc
def ji(h:Bx e a k=bD):∃es p,e=.BoolOp a es p/\k es=bD:=by
 unfold Bx at h;split at h
 .rw[cb,Ĝ]at h;have⟨rfl,h⟩:=h;show⟨_,_,rfl,h⟩
 .cases h
abbrev Ew(e:l')(b:UnaryOp)(k:l'->Bool):Bool:=match e with|.UnaryOp o a _=>cn (o=b)&&k a|_=>cc
def m9(h:Ew e b k=bD):∃a p,e=.UnaryOp b a p/\k a=bD:=by
 unfold Ew at h;split at h
 .rw[cb,Ĝ]at h;have⟨rfl,h⟩:=h;show⟨_,_,rfl,h⟩
 .cases h
abbrev By(e:l')(k:l'->l'->l'->Bool):Bool:=match e with|.IfExp c a b _=>k c a b|_=>cc
def m_(h:By e k=bD):∃c a b p,e=.IfExp c a b p/\k c a b=bD:=by
 unfold By at h;split at h
 .show⟨_,_,_,_,rfl,h⟩
 .cases h
abbrev ug(e:l')(k:List l'->Bool):Bool:=match e with|.Tuple l _ _=>k l|_=>cc
def lx(h:ug e k=bD):∃l q p,e=.Tuple l q p/\k l=bD:=by
 unfold ug at h;split at h
 .show⟨_,_,_,rfl,h⟩
 .cases h
abbrev yq(e:l')(k:List l'->Bool):Bool:=match e with|.List l _=>k l|_=>cc
def rZ(h:yq e k=bD):∃l p,e=.List l p/\k l=bD:=by
 unfold yq at h;split at h
 .show⟨_,_,rfl,h⟩
 .cases h
abbrev BA(e:l'):Bool:=match e with|.Dict a b _=>a.isEmpty&&b.isEmpty|_=>cc
def ng(h:BA e=bD):∃p,e=.Dict [] [] p:=by
 unfold BA at h;split at h
 .rw[cb,Jm,Jm]at h;have⟨rfl,rfl⟩:=h;show⟨_,rfl⟩
 .cases h
abbrev yr(e:l')(k:Option l'->Option l'->Bool):Bool:=match e with|.Slice a b c _=>c.isNone&&k a b|_=>cc
def r9(h:yr e k=bD):∃a b p,e=.Slice a b b8 p/\k a b=bD:=by
 unfold yr at h;split at h
 .rw[cb,Rh]at h;have⟨rfl,h⟩:=h;show⟨_,_,_,rfl,h⟩
 .cases h
abbrev Ey(e:l')(k:l'->l'->l'->List l'->LY->Bool):Bool:=match e with|.ListComp elt a b _=>cP a λg=>cn (g.is_async=0)&&k elt g.target g.iter g.ifs b|_=>cc
def jj(h:Ey e k=bD):∃elt d a b f p,e=.ListComp elt [⟨d,a,b,0⟩] f p/\k elt d a b f=bD:=by
 unfold Ey at h;split at h
 .obtain⟨⟨d,a,b,z⟩,rfl,c⟩:=aL h;rw[cb,Ĝ]at c;have⟨rfl,c⟩:=c;show⟨_,_,_,_,_,_,rfl,c⟩
 .cases h
abbrev yt(e:l')(k:l'->ë->ë->l'->l'->Bool):Bool:=match e with|.Compare a ops d _=>jH ops λp q=>jH d λb c=>k a p q b c|_=>cc
def r_(h:yt e k=bD):∃a p q b c r,e=.Compare a [p,q] [b,c] r/\k a p q b c=bD:=by
 unfold yt at h;split at h
 .have⟨p,q,rfl,d⟩:=cC h;have⟨b,c,rfl,f⟩:=cC d;show⟨_,_,_,_,_,_,rfl,f⟩
 .cases h
abbrev isNm(e:l')(n:Str):Bool:=aY e λx=>cn (x=n)
def gz(h:isNm e n=bD):∃p,e=.Name n p:=by
 have⟨x,p,e,z⟩:=ao h;show⟨p,ġ z▸e⟩
abbrev yu(v:l')(f:Str)(k:List l'->Bool):Bool:=de v λg as _=>isNm g f&&k as
def fe(h:yu v f k=bD):∃as p q,v=.Call (.Name f p) as [] q/\k as=bD:=by
 have⟨g,as,q,rfl,z⟩:=aU h;rw[cb]at z;have⟨p,rfl⟩:=gz z.1;show⟨as,p,q,rfl,z.2⟩
mutual
noncomputable def bj(k:Ck):E->List Str->LY->l'->Bool
 |.var i,N,g,h=>aY h λx=>cn (N[i]?=a5 x)&&f_ g x&&a_ x
 |.cst u,N,g,h=>uf h λc=>Ij u c
 |.QR _ _,_,_,_=>cc
 |.bin C a b,N,g,h=>ue h λa' B s=>cn (C.op=B)&&bj k a N g a'&&bj k b N g s
 |.cmp C a b,N,g,h=>qr h λa' B s=>cn (C.op=B)&&!L5 B s&&bj k a N g a'&&bj k b N g s
 |.Mm o1 o2 a b c,N,g,h=>yt h λa' p q s H=>cn (o1.op=p)&&cn (o2.op=q)&&!lastMarks [p,q] [s,H]&&bj k a N g a'&&bj k b N g s&&bj k c N g H
 |.and es,N,g,h=>Bx h .And λv=>aV k es N g v
 |.or es,N,g,h=>Bx h .Or λv=>aV k es N g v
 |.not a,N,g,h=>Ew h .Not λa'=>bj k a N g a'
 |.ite c a b,N,g,h=>By h λH a' s=>bj k c N g H&&bj k a N g a'&&bj k b N g s
 |.neg _,_,_,_=>cc
 |.bad,_,_,_=>bD
 |.J2 a D I,N,g,h=>yu h "isinstance" λas=>jH as λa' s=>isNm s D&&noStar a'&&JZ g "isinstance"&&JZ g D&&a_ D&&(k.xi.any λp=>cn (p.2.1=D))&&I.all (λp=>cn ((p.1,D,p.2)∈k.xi))&&bj k a N g a'
 |.MZ J i b,N,g,h=>dY h λo m j as z=>aY o λx=>cP as λa'=>uf a' λc=>cn (c=.bool b)&&cn (m=GC J)&&cn (N[i]?=a5 x)&&f_ g x&&a_ x&&(j.endLine==z.line)
 |.pop i,N,g,h=>dY h λo m j as z=>aY o λx=>as.isEmpty&&cn (m="pop")&&cn (N[i]?=a5 x)&&f_ g x&&a_ x&&(j.endLine==z.line)
 |.Kx i a,N,g,h=>dY h λo m j as z=>aY o λx=>cP as λa'=>cn (m="pop")&&cn (N[i]?=a5 x)&&f_ g x&&a_ x&&(j.endLine==z.line)&&noStar a'&&bj k a N g a'
 |.Iy f es is,N,g,h=>de h λf' v _=>aY f' λx=>cn (x=f)&&cn ((f,is)∈k.KA)&&JZ g x&&a_ x&&!v.isEmpty&&aV k es N g v
 |.inD neg a i,N,g,h=>qr h λa' B s=>aY s λx=>cn (El neg=B)&&!L5 B s&&cn (N[i]?=a5 x)&&f_ g x&&a_ x&&bj k a N g a'
 |.OV i,N,g,h=>aY h λx=>cn (N[i]?=a5 x)&&f_ g x&&a_ x
 |.Ll i a b,N,g,h=>dY h λo m j as z=>aY o λx=>jH as λa' s=>cn (m="get")&&cn (N[i]?=a5 x)&&f_ g x&&a_ x&&(j.endLine==z.line)&&noStar a'&&noStar s&&bj k a N g a'&&bj k b N g s
 |.OW i,N,g,h=>de h λf' as _=>aY f' λf=>cP as λc=>dY c λo m j bs z=>aY o λx=>bs.isEmpty&&cn (f="sorted")&&JZ g f&&cn (m="items")&&cn (N[i]?=a5 x)&&f_ g x&&a_ x&&(j.endLine==z.line)
 |.Nq ln a b,N,g,h=>de h λf' as _=>aY f' λf=>cP as λd=>ue d λl C r=>de l λL O _=>aY L λQ=>cP O λa'=>de r λY ar _=>aY Y λg2=>cP ar λs =>
  cn (f=(if ln=bD then("len":Str) else "sorted"))&&cn (Q="set")&&cn (g2="set")&&cn (C=.Sub)&&JZ g f&&JZ g "set"&&noStar a'&&noStar s&&bj k a N g a'&&bj k b N g s
 |.fst es,N,g,h=>cc
 |.KS a T,N,g,h=>de h λf' as _=>aY f' λx=>jH as λa' s=>aY s λy=>cn (x="isinstance")&&cn (y=T.name)&&JZ g x&&JZ g y&&noStar a'&&bj k a N g a'
 |.tup es,N,g,h=>ug h λv=>aV k es N g v
 |.lst es,N,g,h=>yq h λv=>aV k es N g v
 |.Kh _,N,g,h=>BA h
 |.idx a b,N,g,h=>jG h λa' s=>eJ s&&bj k a N g a'&&bj k b N g s
 |.MH a lo hi,N,g,h=>jG h λa' s=>yr s λVx Kf=>bj k a N g a'&&sd k lo N g Vx&&sd k hi N g Kf
 |.bi f es,N,g,h=>de h λf' v _=>aY f' λx=>cn (x=f.name)&&simple f&&JZ g x&&!v.isEmpty&&aV k es N g v
 |.MY f es,N,g,h=>de h λf' as _=>aY f' λx=>cP as λc=>de c λg' v _=>aY g' λy=>cn (x=f.oH)&&cn (y=f.iO)&&JZ g x&&JZ g y&&!v.isEmpty&&aV k es N g v
 |.Np m a es,N,g,h=>dY h λo name j v z=>cn (name=m.name)&&oO o&&(j.endLine==z.line)&&!v.isEmpty&&cn (v.length<20)&&bj k a N g o&&aV k es N g v
 |.call f es,N,g,h=>de h λf' v _=>aY f' λx=>cn (x=f)&&cn (f∈k.fns)&&JZ g x&&a_ x&&!v.isEmpty&&aV k es N g v
 |.comp n t ik src cond e,N,g,h=>Ey h λelt w A G scope =>
   cn ((gQ w).length=n)&&DC (gQ w++hide (gQ w) N) (gQ w) scope g.names&&O1 t (gQ w++hide (gQ w) N) (Eu scope g) cc (eH n) w&&rX A &&
   (match gb g w ik A with
    |some as=>aV k src N g as
    |none=>cc) &&
   cn (G.length<=1)&&aV k cond (gQ w++hide (gQ w) N) (Eu scope g) G&&bj k e (gQ w++hide (gQ w) N) (Eu scope g) elt
noncomputable def aV(k:Ck):List E->List Str->LY->List l'->Bool
 |[],_,_,a=>a.isEmpty
 |e::es,N,b,a=>match a with
  |e'::a=>noStar e'&&bj k e N b e'&&aV k es N b a
  |[]=>cc
noncomputable def sd(k:Ck):List E->List Str->LY->Option l'->Bool
 |[],_,_,o=>o.isNone
 |[e],N,a,o=>match o with
  |some b=>bj k e N a b
  |none=>cc
 |_::_::_,_,_,_=>cc
end
abbrev bN:List Str:=["len","sorted","repr","max","min","all","any","list","tuple","str","int","range","enumerate","zip","reversed","set","dict","sum","isinstance","bool"]
structure Oq(ck:Ck)(K:PySem.W.Frag)(mg:Str->Option df):Prop where
 xc:∀x∈ck.xc,∃C,mg x=a5 (.ref C)/\PySem.W.nsIn K i5 x=a5 (a5 (.ref C))/\PySem.W.excIn K C OT "ValueError.__new__"=bD
 xd:∀p∈ck.xd,∃C D,mg p.1=a5 (.ref C)/\PySem.W.nsIn K i5 p.1=a5 (a5 (.ref C))/\mg p.2=a5 (.ref D)/\PySem.W.exmOne K (.ref C) (.ref C)=a5 bD/\(PySem.W.kitCls K (.ref C) (.ref D)==a5 bD&&C != D)=bD
 xi:∀D,(∃p∈ck.xi,p.2.1=D)->∃dv,((∃D',dv=.ref D'/\mg D=a5 (.ref D'))\/(D="ValueError"/\dv=.type "ValueError"/\mg D=b8))/\∀p∈ck.xi,p.2.1=D->∀C,PySem.W.nsIn K i5 p.1=a5 (a5 (.ref C))->fX K C=bD/\PySem.W.kitOne K (.ref C) dv=a5 p.2.2
 xe:∀x,(∃p∈ck.xe,p.2=x)->∃D,mg x=a5 (.ref D)/\∀cl,(cl,x)∈ck.xe->∀C,PySem.W.nsIn K i5 cl=a5 (a5 (.ref C))->PySem.W.exmOne K (.ref C) (.ref D)=a5 bD
structure BB(P:u7)(w:DD)(K:PySem.W.Frag)(mg:Str->Option df)(base:Jl)(d:Nat)(F:List U->Option (Ex (Kd×U)))(f:Str):Prop where
 ex:∃(np:Nat) (fa:d7) (fd:RZ) (ps:List Str),iw P w K mg base (Nk P w) d fa fd ps (spT P w K F np)/\mg f=a5 (.ref fa)/\PySem.W.keepIn K (.ref fa)=bD/\Binds K fd ps []/\(∀us k u,F us=a5 (.ok (k,u))->(k=.own\/k=.loc\/k=.any)/\us.length=np)/\∀us c,F us=a5 (.exc c)->us.length=np
structure BC(P:u7)(w:DD)(K:PySem.W.Frag)(mg:Str->Option df)(base:Jl)(d:Nat)(F:List U->Option (Ex (Kd×U)))(f:Str)(is:List Nat):Prop where
 ex:∃(np:Nat) (fa:d7) (fd:RZ) (ps:List Str),iw P w K mg base NT d fa fd ps (Q8 P w K F np is)/\mg f=a5 (.ref fa)/\PySem.W.keepIn K (.ref fa)=bD/\Binds K fd ps []/\∀us r,F us=a5 (.ok r)->us.length=np
structure Gd(ck:Ck)(Γ:Tab)(C:Ct)(d:Nat)(X:Cx):Prop where
 P:C.P=X.prog
 w:C.w=X.w
 K:C.K=X.K
 u:X.A.units+60<K4
 calm:X.calm=bD
 room:fq d X.A
 blt:∀x∈bN,X.mg x=b8
 fns:∀f∈ck.fns,BB X.prog X.w X.K X.mg X.base d (Γ f) f
 LQ:∀p∈ck.gl,∃val v,X.mg p.1=a5 val/\RelV v val/\∀S H,Rep C S H p.2 v
 KA:∀p∈ck.KA,BC X.prog X.w X.K X.mg X.base d (Γ p.1) p.1 p.2
 LP:Oq ck X.K X.mg
def Gd.cx(g:Gd ck Γ C d X)(N:List Str)(a:LY)(D:d7)(s:d4)(H:Hp)(ex:List d7):Gd ck Γ C d (JM X N a D s H ex) :=
 ⟨g.P,g.w,g.K,g.u,g.calm,g.room,g.blt,g.fns,g.LQ,g.KA,g.LP⟩
def cD(h:f_ a x=bD):Kt a x:=by
 unfold f_ at h;simp only[LF,Ĝ]at h;rcases h with(h|h)|h
 .show .inl h
 .show .inr (.inl h)
 .show .inr (.inr h)
def aE(h:a_ x=bD):(x==("__debug__":Str))=cc/\(x==("__classdict__":Str))=cc:=by
 unfold a_ at h;simpa using h
def aX(h:noStar e=bD):gs (e::es) env=(cc,vl e env)::gs es env:=by
 cases e<;>first|rfl|cases h
def qt(h:eJ e=bD):n9 e:=by
 intro o i;cases e<;>first|rfl|cases h
def se(h:rX e=bD):∀x,LS e env x=pure x:=by
 intro x;cases e<;>first|rfl|cases h
def kf(h:oO o=bD):Su o name env a=a:=by
 cases o with
 |Call f as ks p =>
  cases f with
  |Name x q=>cases as with
   |nil=>cases ks with
    |nil=>cases h
    |cons _ _=>rfl
   |cons _ _=>rfl
  |_=>rfl
 |_=>rfl
def bo(h:∀e∈es,noStar e=bD):(x3 pos (gs es env)).any (·.1)=cc/\(x3 pos (gs es env)).all (λx=>!x.1)=bD:=by
 induction es with
 |nil=>show⟨rfl,rfl⟩
 |cons e es a =>
  rw[aX (h e (by simp))];have:=a λb c=>h b (by simp[c]);constructor
  .change(cc||(x3 pos (gs es env)).any (·.1))=cc;rw[this.1];rfl
  .change(!cc&&(x3 pos (gs es env)).all (λx=>!x.1))=bD;rw[this.2];rfl
def cZ(h:aV k es N c a=bD):∀e∈a,noStar e=bD:=by
 induction es generalizing a with
 |nil =>
  cases a with
  |nil=>intro e he;cases he
  |cons _ _=>simp[aV]at h
 |cons x es b =>
  cases a with
  |nil=>intro e he;cases he
  |cons d a =>
   simp only[aV,cb]at h;intro e he;rcases d3.mp he with rfl|he
   .show h.1.1
   .show b h.2 e he
def nh(a:fa=bD->∀x,X.fn x=bD)(h:ud X.N X.env.scope fa i e=bD):rR X e i:=by
 cases e with
 |Name x p =>
  simp only[ud,cb,Ĝ,lr,LF,GH]at h;show⟨x,p,rfl,h.1.1,?_,?_⟩
  .rcases h.1.2 with z|z
   .show .inl z
   .show .inr z
  .rcases h.2 with z|z
   .show .inl (a z x)
   .show .inr z
 |_=>cases h
theorem ly(a:fa=bD->∀x,X.fn x=bD):∀{is:List Nat}{es:List l'},oP X.N X.env.scope fa is es=bD->fA X es is
 |[],[],_=>.nil
 |[],_::_,h=>by cases h
 |_::_,[],h=>by cases h
 |i::is,e::es,h=>by
  simp only[oP,cb]at h;show .cons (nh a h.1) (ly a h.2)
def uh(d:X.calm=bD)(e:C.K=X.K)(a:X.N.Nodup)(b:fa=bD->∀x,X.fn x=bD)(h:O1 t X.N X.env.scope fa is c=bD):PG X c (tG C t is):=by
 cases c with
 |Name x p =>
  simp only[O1,cb,nH]at h;have⟨rfl,h⟩:=h;cases is with
  |nil=>cases h
  |cons i is=>cases is with
   |nil=>show Ef a (nh b h)
   |cons _ _=>cases h
 |Tuple es k p =>
  simp only[O1,cb,i6,Ĝ]at h;obtain⟨⟨rfl,f⟩,g⟩:=h;show Gf d e a (ly b f) g
 |_=>cases h
def ni(a N:List Str):eQ ((a++hide a N).drop a.length) N:=by
 rw[VN rfl];unfold hide;split
 .show .refl N
 .show(eQ.refl N).set _ (.inl rfl)
 .show((eQ.refl N).set _ (.inl rfl)).set _ (.inr rfl)
abbrev Bf.Zg:Bf->Bool
 |.len=>bD|.sorted=>bD|.repr=>bD|.max=>bD|.min=>bD|.all=>bD|.any=>bD|_=>cc
abbrev Bf.id:Bf->String
 |.len=>"len"|.sorted=>"sorted"|.repr=>"repr"|.max=>"max"|.min=>"min"|.all=>"all"|.any=>"any"
 |.list=>"list"|.tuple=>"tuple"|.str=>"str"|.int=>"int"
def BD:∀f:Bf,simple f=bD->t4 f.name=a5 f.val/\f.name∈bN/\f.name≠"__name__"/\(f.name==("__debug__":Str))=cc:=by
 intro f h;cases f<;>first|show⟨by decide +kernel,by decide +kernel,by decide +kernel,by decide +kernel⟩|(cases h;done)
def Ez:∀f:Bf,simple f=bD->(f.val=.builtin f.id\/f.val=.type f.id):=by
 intro f h;cases f<;>first|show .inl rfl|show .inr rfl|(cases h;done)
def EA:∀f:B2,f.oH∈bN/\f.iO∈bN:=by
 intro f;cases f<;>show⟨by decide +kernel,by decide +kernel⟩
def BE:∀f:Mf,Slot "str" f.name f.id/\Zx (.builtin f.id)=pure (.type "method_descriptor"):=by
 intro f;cases f with
 |split=>show⟨PySem.F.slot_str_split,PySem.F.type_str_split⟩
 |join=>show⟨PySem.F.slot_str_join,PySem.F.type_str_join⟩
 |partition=>show⟨PySem.F.slot_str_partition,PySem.F.type_str_partition⟩
 |endswith=>show⟨PySem.F.slot_str_endswith,PySem.F.type_str_endswith⟩
section
def cE(h:JZ X.env.scope x=bD):Gl X x:=by
 unfold JZ at h;change X.env.kindOf x=a5 .globalImplicit;show ġ h
def BF:("enumerate":Str)∈bN:=by decide +kernel
def iQ:("isinstance":Str)∈bN:=by decide +kernel
def yw(T:KR):T.name∈bN:=by cases T<;>decide +kernel
def BG:("range":Str)∈bN:=by decide +kernel
def Cv(g:Gd ck Γ C d X)(h:gb X.env.scope l o c=a5 as)(m:PA X as (J5 C (bb Γ src)))(r:∀a,as=[a]->∃e,src=[e]/\PE X a (IE C (ev Γ e)))(n:∀e∈as,noStar e=bD):PI X l c (MK C o (bb Γ src)):=by
 unfold gb at h;split at h
 .cases h;have⟨e,rfl,s⟩:=r _ rfl;show Ed g.K s
 .rw[r3]at h;obtain⟨⟨x,bs⟩,j,h⟩:=h;split at h
  .rename_i k;cases h;have⟨f,i,hl⟩:=k
   dsimp only at f i hl
   subst f;have⟨p,q,rfl⟩:=jF j;have⟨b,rfl⟩:=Yq.mp hl;show Bh (cE i) (g.blt _ BG) (aX (n _ (by simp))) m
  .cases h
 .rw[r3]at h;obtain⟨⟨x,bs⟩,j,h⟩:=h;split at h
  .rename_i k;cases h;have⟨f,i,hl,t⟩:=k
   dsimp only at f i hl
   subst f;have⟨p,q,rfl⟩:=jF j;have⟨b,rfl⟩:=Yq.mp hl;cases l with
   |Tuple es u ps=>show Ee g.K (cE i) (g.blt _ BF) (aX (n _ (by simp))) m
   |_=>cases t
  .cases h
 .cases h
def Gd.KG(g:Gd ck Γ C d X):Gd ck Γ C d X.KG :=
 ⟨g.P,g.w,g.K,g.u,g.calm,g.room,g.blt,g.fns,g.LQ,g.KA,g.LP⟩
def Cw(g:Gd ck Γ C d X)(f:PE X a' (IE C (ev Γ a)))(l:isNm m D=bD)(n:noStar a'=bD)(h:JZ X.env.scope "isinstance"=bD)(i:JZ X.env.scope D=bD)(o:a_ D=bD)(r:(ck.xi.any λp=>cn (p.2.1=D))=bD)(t:j.all (λp=>cn ((p.1,D,p.2)∈ck.xi))=bD):
  PE X (.Call (.Name "isinstance" p) [a',m] [] q) (IE C (ev Γ (.J2 a D j))):=by
 have⟨p2,rfl⟩:=gz l;have⟨v,w,x⟩:=R_.mp r;have⟨dv,y,A⟩:=g.LP.xi D ⟨v,w,ġ x⟩;have k:∀q∈j,∀b,PySem.W.nsIn X.K i5 q.1=a5 (a5 (.ref b))->fX X.K b=bD/\PySem.W.kitOne X.K (.ref b) dv=a5 q.2:=λq B b G=>A _ (ġ (i6.mp t q B)) rfl b G;have st:=aX (env:=X.env) (es:=[.Name D p2]) n;rcases y with⟨c,rfl,e⟩|⟨rfl,rfl,e⟩
 .have J:PE X (.Name D p2) (tC (.ref c)):=λpins s σ H Q I z=>fk I (cE i) e ⟨.ref c,H,I,rfl,z⟩ (aE o).1;show ub g.K (cE h) (g.blt _ iQ) f J (dv:=.ref c) (λu z=>z) st rfl rfl k
 .show ub g.K (cE h) (g.blt _ iQ) f (vD:=.ty "ValueError") (dv:=.type "ValueError") (tf (cE i) e (show t4 "ValueError"=a5 (.type "ValueError") by decide +kernel) rfl (by decide +kernel) (by decide +kernel)) (λu z=>z) st rfl rfl k
def Cy{a:M α}{b:α->M β}{c:α->M γ}{g:γ->M δ}{st:aw}{Q:δ->aw->Prop}(w:W (a >>= λx=>b x >>= λ_=>c x >>= g) st Q):W ((a >>= λx=>b x >>= λ_=>c x) >>= g) st Q:=by
 simp only[ah]at w ⊢;show w
def bF:PT X e (JX C M.fail):=λpins s σ H Q I ⟨_,_,_,_,w⟩=>(bt.mp w).elim
def jk:PE X e (IE C M.fail):=λpins s σ H Q I ⟨_,_,_,_,w⟩=>(bt.mp w).elim
def PT.eqv(h:PT X e (JX C m))(i:∀st Q,W a st Q->W m st Q):PT X e (JX C a):=PT.weak h λσ H Q ⟨b,c,d,f,w⟩=>⟨b,c,d,f,i _ _ w⟩
def GI(g:Gd ck Γ C d X)(b:PA X a (J5 C (bb Γ es)))
  (h:(cn (x=f.name)&&simple f&&JZ X.env.scope x&&!a.isEmpty&&aV ck es X.N X.env.scope a)=bD):PE X (.Call (.Name x p) a [] pos) (IE C (ev Γ (.bi f es))):=by
 simp only[cb,Ĝ,nH]at h;obtain⟨⟨⟨⟨rfl,c⟩,i⟩,m⟩,n⟩:=h;have⟨b1,j,b3,b4⟩:=BD f c;have k:=cZ n;cases a with
 |nil=>cases m
 |cons o l =>
  have st:=aX (env:=X.env) (es:=l) (k o (by simp));have sn:=(bo (pos:=pos) (env:=X.env) (es:=l) λe q=>k e (by simp[q])).1;rcases Ez f c with hv|hv
  .show Ba g.calm g.K g.room.gd g.u hv (cE i) (g.blt _ j) (by rw[b1,hv]) b3 b4 b st sn
  .show Bb g.calm g.K g.room.gd g.u hv (cE i) (g.blt _ j) (by rw[b1,hv]) b3 b4 b st sn
def GJ(g:Gd ck Γ C d X)(i:PA X a (J5 C (bb Γ es)))
  (h:(cn (x=f.oH)&&cn (y=f.iO)&&JZ X.env.scope x&&JZ X.env.scope y&&!a.isEmpty&&aV ck es X.N X.env.scope a)=bD):PE X (.Call (.Name x p) [.Call (.Name y p2) a [] pos2] [] pos) (IE C (ev Γ (.MY f es))):=by
 simp only[cb,Ĝ,nH]at h;obtain⟨⟨⟨⟨⟨rfl,rfl⟩,j⟩,k⟩,l⟩,m⟩:=h;have⟨b1,n⟩:=EA f;have b:=cZ m;cases a with
 |nil=>cases l
 |cons o c =>
  have st:=aX (env:=X.env) (es:=c) (b o (by simp));have sn:=(bo (pos:=pos2) (env:=X.env) (es:=c) λe q=>b e (by simp[q])).1;show Bg g.calm g.K (cE j) (g.blt _ b1) (cE k) (g.blt _ n) i st sn
def GK(g:Gd ck Γ C d X)(l:PE X o (IE C (ev Γ a)))(n:PA X b (J5 C (bb Γ es)))
  (h:(cn (name=m.name)&&oO o&&(c.endLine==i.line)&&!b.isEmpty&&cn (b.length<20)&&bj ck a X.N X.env.scope o&&aV ck es X.N X.env.scope b)=bD):PE X (.Call (.Attribute o name c) b [] i) (IE C (ev Γ (.Np m a es))):=by
 simp only[cb,Ĝ,nH]at h;obtain⟨⟨⟨⟨⟨⟨rfl,p⟩,q⟩,r⟩,s⟩,w⟩,t⟩:=h;have j:=cZ t;have⟨s1,s2⟩:=BE m;cases b with
 |nil=>cases r
 |cons k f =>
  have st:=aX (env:=X.env) (es:=f) (j k (by simp));have sn:=(bo (pos:=i) (env:=X.env) (es:=f) λe u=>j e (by simp[u])).1;have v:=(bo (pos:=i) (env:=X.env) (es:=k::f) j).2;show Be g.K s1 s2 l n (kf p) ?_ q st sn;rw[v];have:(k::f).length+([]:List MA).length+(if ([]:List MA).isEmpty=bD then 0 else 1)<30:=by simp at s ⊢;lia
  simp only[Ġ this];rfl
def yx(g:Gd ck Γ C d X)(i:PA X a (J5 C (bb Γ es)))
  (h:(cn (x=f)&&cn (f∈ck.fns)&&JZ X.env.scope x&&a_ x&&!a.isEmpty&&aV ck es X.N X.env.scope a)=bD):PE X (.Call (.Name x p) a [] pos) (IE C (ev Γ (.call f es))):=by
 simp only[cb,Ĝ,nH]at h;obtain⟨⟨⟨⟨⟨rfl,j⟩,k⟩,l⟩,m⟩,n⟩:=h;have b:=cZ n;obtain⟨y,fa,z,ps,o,q,r,s,t,_⟩:=(g.fns _ j).ex;cases a with
 |nil=>cases m
 |cons u c =>
  have st:=aX (env:=X.env) (es:=c) (b u (by simp));have sn:=(bo (pos:=pos) (env:=X.env) (es:=c) λe v=>b e (by simp[v])).1;show x9 g.P g.w g.K rfl t o g.room (cE k) q r s (aE l).1 i st sn
def EB(g:Gd ck Γ C d X)(i:PA X a (J5 C (bb Γ es)))
  (h:(cn (x=f)&&cn ((f,is)∈ck.KA)&&JZ X.env.scope x&&a_ x&&!a.isEmpty&&aV ck es X.N X.env.scope a)=bD):PE X (.Call (.Name x p) a [] pos) (IE C (ev Γ (.Iy f es is))):=by
 simp only[cb,Ĝ,nH]at h;obtain⟨⟨⟨⟨⟨rfl,j⟩,k⟩,l⟩,m⟩,n⟩:=h;have b:=cZ n;have⟨y,fa,z,ps,o,q,r,s,t⟩:=(g.KA _ j).ex;cases a with
 |nil=>cases m
 |cons u c =>
  have st:=aX (env:=X.env) (es:=c) (b u (by simp));have sn:=(bo (pos:=pos) (env:=X.env) (es:=c) λe v=>b e (by simp[v])).1;show yp g.P g.w g.K rfl t o g.room (cE k) q r s (aE l).1 (Bu i) st sn
def dZ(h:(b&&aV k es N a c)=bD):aV k es N a c=bD:=(x2.mp h).2
mutual
theorem bA:∀(e:E) (X:Cx) (k:l'),Gd ck Γ C d X->bj ck e X.N X.env.scope k=bD->PE X k (IE C (ev Γ e))
 |.var i,X,k,g,h=>by
  have⟨x,p0,rfl,A⟩:=ao h;clear h;have h:=A;simp only[cb,Ĝ]at h;have⟨G,J⟩:=aE h.2;show oG h.1.1 (cD h.1.2) G J
 |.cst u,X,k,g,h=>by
  have⟨c,q0,p0,rfl,A⟩:=h_ h;cases c with
  |int j=>have:=cY A;subst this;show kb wB λ_ _=>rfl
  |str y=>have:=cY A;subst this;show kb wD λ_ _=>rfl
  |bool y=>have:=cY A;subst this;show kb s_ λ_ _=>rfl
  |none=>have:=cY A;subst this;show kb wC λ_ _=>rfl
  |_=>cases A
 |.QR x u,X,k,g,h=>absurd (show cc=bD from h) i1
 |.bin op a b,X,k,g,h=>by
  have⟨a',KZ,b',p0,rfl,A⟩:=lu h;clear h;have h:=A;simp only[cb,Ĝ]at h;obtain⟨⟨rfl,L⟩,Y⟩:=h;show AW g.K (bA a X _ g L) (bA b X _ g Y)
 |.cmp op a b,X,k,g,h=>by
  have⟨a',KZ,b',p0,rfl,v⟩:=fC h;have h:=v;simp only[cb,Ĝ,nH]at h;obtain⟨⟨⟨rfl,h0⟩,L⟩,Y⟩:=h;show AX g.P g.w g.K g.u (bA a X _ g L) (bA b X _ g Y) h0
 |.Mm o1 o2 a b c,X,k,g,h=>jk
 |.and es,X,k,g,h=>by
  have⟨Iz,p0,rfl,A⟩:=ji h;clear h;have h:=A;show yy es X _ g h
 |.or es,X,k,g,h=>jk
 |.not a,X,k,g,h=>by
  have⟨a',p0,rfl,A⟩:=m9 h;clear h;have h:=A;show AZ (bA a X _ g h)
 |.neg a,X,k,g,h=>absurd (show cc=bD from h) i1
 |.bad,X,k,g,h=>jk
 |.J2 a D tb,X,k,g,h=>by
  have⟨as,p,q,rfl,v⟩:=fe h;have⟨a',b',rfl,B⟩:=cC v;clear h v;simp only[cb]at B;obtain⟨⟨⟨⟨⟨⟨⟨L,Y⟩,G⟩,J⟩,O⟩,h6⟩,h7⟩,h8⟩:=B;show Cw g (bA a X _ g h8) L Y G J O h6 h7
 |.MZ ix i b,X,k,g,h=>by
  have⟨o,m,ab,as,G',rfl,v⟩:=bC h;have⟨x,px,rfl,B⟩:=ao v;have⟨a',rfl,z3⟩:=aL B;have⟨c,q,p,rfl,z4⟩:=h_ z3;clear h v B z3;simp only[cb,Ĝ]at z4;obtain⟨⟨⟨⟨⟨rfl,rfl⟩,L⟩,Y⟩,G⟩,J⟩:=z4;show Bs g.K L (cD Y) (aE G).1 (aE G).2 J
 |.pop i,X,k,g,h=>by
  have⟨o,m,ab,as,G',rfl,v⟩:=bC h;have⟨x,px,rfl,B⟩:=ao v;simp only[cb,Ĝ,Jm]at B;obtain⟨⟨⟨⟨⟨rfl,rfl⟩,L⟩,Y⟩,G⟩,J⟩:=B;have⟨q1,q2⟩:=aE G;show Br L (cD Y) q1 q2 J g.K
 |.Kx i a,X,k,g,h=>by
  have⟨o,m,ab,as,G',rfl,v⟩:=bC h;have⟨x,px,rfl,B⟩:=ao v;have⟨a',rfl,z3⟩:=aL B;simp only[cb,Ĝ]at z3;obtain⟨⟨⟨⟨⟨⟨rfl,L⟩,Y⟩,G⟩,J⟩,O⟩,h6⟩:=z3;have⟨q1,q2⟩:=aE G;have sa:=bo (pos:=G') (env:=X.env) (es:=[a']) λe he=>by rw[hV.mp he];show O
  show ym g.K L (cD Y) q1 q2 (bA a X _ g h6) (by rw[sa.2];rfl) J (aX O)
 |.Iy f es is,X,k,g,h=>by
  have⟨f',as,p0,rfl,v⟩:=aU h;have⟨x,p1,rfl,B⟩:=ao v;show EB g (jl es X _ g (dZ B)) B
 |.inD neg a i,X,k,g,h=>jk
 |.OV i,X,k,g,h=>by
  have⟨x,p0,rfl,A⟩:=ao h;clear h;have h:=A;simp only[cb,Ĝ]at h;have⟨G,J⟩:=aE h.2;show Bk h.1.1 (cD h.1.2) G J
 |.Ll i a b,X,k,g,h=>by
  have⟨o,m,ab,as,G',rfl,v⟩:=bC h;have⟨x,px,rfl,B⟩:=ao v;have⟨a',b',rfl,z3⟩:=cC B;clear h v;have B:=z3;simp only[cb,Ĝ]at B;obtain⟨⟨⟨⟨⟨⟨⟨⟨rfl,L⟩,Y⟩,G⟩,J⟩,O⟩,h6⟩,h7⟩,h8⟩:=B;have⟨q1,q2⟩:=aE G;have sa:=bo (pos:=G') (env:=X.env) (es:=[a',b']) λe he=>by
   rcases d3.mp he with rfl|he
   .show O
   .simp at he;subst he;show h6
  show yj g.u L (cD Y) q1 q2 (bA a X _ g h7) (bA b X _ g h8) ⟨rfl,by rw[sa.2];rfl,J,by rw[aX O,aX h6];rfl⟩
 |.OW i,X,k,g,h=>by
  obtain⟨f',as,_,rfl,v⟩:=aU h;obtain⟨f,_,rfl,B⟩:=ao v;have⟨c,rfl,z3⟩:=aL B;have⟨o,m,ab,bs,G',rfl,z4⟩:=bC z3;have⟨x,px,rfl,z5⟩:=ao z4;simp only[cb,Ĝ,Jm]at z5;obtain⟨⟨⟨⟨⟨⟨⟨rfl,rfl⟩,L⟩,rfl⟩,G⟩,J⟩,O⟩,h6⟩:=z5;have⟨q1,q2⟩:=aE O;show Bo g.calm g.K (cE L) (g.blt _ (by decide +kernel)) G (cD J) q1 q2 h6
 |.Nq ln a b,X,k,g,h=>by
  obtain⟨_,_,_,rfl,A⟩:=aU h;obtain⟨_,_,rfl,v⟩:=ao A;obtain⟨_,rfl,B⟩:=aL v;obtain⟨_,_,_,_,rfl,z3⟩:=lu B;obtain⟨_,_,_,rfl,z4⟩:=aU z3;obtain⟨_,_,rfl,z5⟩:=ao z4;obtain⟨_,rfl,z6⟩:=aL z5;obtain⟨_,_,_,rfl,z7⟩:=aU z6;obtain⟨_,_,rfl,z8⟩:=ao z7;obtain⟨_,rfl,z9⟩:=aL z8;simp only[cb,Ĝ]at z9;obtain⟨⟨⟨⟨⟨⟨⟨⟨⟨rfl,rfl⟩,rfl⟩,rfl⟩,L⟩,Y⟩,G⟩,J⟩,O⟩,h6⟩:=z9;show Bp (ln:=ln) g.calm g.K (cE L) (g.blt _ (by cases ln<;>decide +kernel)) (cE Y) (g.blt _ (by decide +kernel)) (bA a X _ g O) (bA b X _ g h6) (aX G) (aX J)
 |.fst es,X,k,g,h=>jk
 |.KS a T,X,k,g,h=>by
  have⟨f',as,p0,rfl,v⟩:=aU h;have⟨x,p1,rfl,B⟩:=ao v;clear h v;have⟨a',b',rfl,z4⟩:=cC B;have⟨y,p2,rfl,z3⟩:=ao z4;have h:=z3;simp only[cb,Ĝ]at h;obtain⟨⟨⟨⟨⟨rfl,rfl⟩,L⟩,Y⟩,G⟩,J⟩:=h;show t7 g.K (cE L) (g.blt _ iQ) (cE Y) (g.blt _ (yw T)) (bA a X _ g J) (aX G)
 |.ite c a b,X,k,g,h=>by
  have⟨c',a',b',p0,rfl,A⟩:=m_ h;clear h;have h:=A;simp only[cb]at h;show A0 (lz c X _ g h.1.1) (bA a X _ g h.1.2) (bA b X _ g h.2)
 |.tup es,X,k,g,h=>by
  have⟨l,q0,p0,rfl,A⟩:=lx h;clear h;have h:=A;show A7 (jl es X _ g h)
 |.lst es,X,k,g,h=>by
  have⟨l,p0,rfl,A⟩:=rZ h;clear h;have h:=A;show A8 (jl es X _ g h)
 |.Kh r,X,k,g,h=>by
  have⟨p0,rfl⟩:=ng h;show x8 g.P g.w r
 |.idx a b,X,k,g,h=>by
  have⟨a',b',p0,rfl,A⟩:=dm h;clear h;have h:=A;simp only[cb]at h;show A9 g.K g.u (qt h.1.1) (bA a X _ g h.1.2) (bA b X _ g h.2)
 |.MH a lo hi,X,k,g,h=>by
  have⟨a',b',p0,rfl,v⟩:=dm h;have⟨Vx,Kf,p1,rfl,A⟩:=r9 v;clear h v;simp only[cb]at A;show A_ g.K (bA a X _ g A.1.1) (GL lo X _ g A.1.2) (GL hi X _ g A.2)
 |.bi f es,X,k,g,h=>by
  have⟨f',as,p0,rfl,v⟩:=aU h;have⟨x,p1,rfl,B⟩:=ao v;have h:=B;show GI g (jl es X _ g (dZ h)) h
 |.MY f es,X,k,g,h=>by
  have⟨f',as,p0,rfl,v⟩:=aU h;have⟨x,p1,rfl,B⟩:=ao v;have⟨c,rfl,z3⟩:=aL B;have⟨g',as',p2,rfl,z4⟩:=aU z3;have⟨y,p3,rfl,z5⟩:=ao z4;have h:=z5;show GJ g (jl es X _ g (dZ h)) h
 |.Np m a es,X,k,g,h=>by
  have⟨o,name,ab,as,G',rfl,v⟩:=bC h;have h:=v;have h':=h;simp only[cb]at h';show GK g (bA a X _ g h'.1.2) (jl es X _ g (dZ h)) h
 |.call f es,X,k,g,h=>by
  have⟨f',as,p0,rfl,v⟩:=aU h;have⟨x,p1,rfl,B⟩:=ao v;have h:=B;show yx g (jl es X _ g (dZ h)) h
 |.comp n t ik src cond e,X,k,g,h=>by
  have⟨elt,tg,ac,ag,scope,p0,rfl,A⟩:=jj h;clear h;have h:=A;simp only[cb,Ĝ]at h;obtain⟨⟨⟨⟨⟨⟨⟨L,Y⟩,G⟩,J⟩,O⟩,h6⟩,h7⟩,h8⟩:=h;subst L;have S:=xg (X:=X) rfl (ni _ _) Y;split at O
  .rename_i as al;have II:=cZ O;have hI:PI X tg ac (MK C ik (bb Γ src)):=Cv g al (jl src X _ g O) (λa e=>by
    subst e;cases src with
    |nil=>simp[aV]at O
    |cons e1 Jn =>
     cases Jn with
     |nil =>
      simp only[aV,cb]at O;show⟨e1,rfl,bA e1 X _ g O.1.2⟩
     |cons _ _=>simp[aV]at O) II
   show yf S g.calm hI (λD s H ex=>uh (fa:=cc) g.calm g.K S.nd (λz=>nomatch z) G)
    (λD s H ex=>by
     cases ag with
     |nil =>
      cases cond with
      |nil=>show λpins s σ H Q I ⟨c0,e1,e2,ok,w⟩=>tE pins s σ H Q I (by subst e1 e2;rw[show bc Γ []=pure bD from rfl,ak]at w;show w c0 rfl rfl ok (Nx.refl c0))
      |cons _ _=>simp[aV]at h7
     |cons c1 cs =>
      cases cs with
      |nil =>
       cases cond with
       |nil=>simp[aV]at h7
       |cons e1 Jn =>
        cases Jn with
        |nil =>
         simp only[aV,cb]at h7;show tF (lz e1 (JM X _ scope D s H ex) c1 (g.cx _ _ _ _ _ _) h7.1.2)
        |cons _ _=>simp[aV]at h7
      |cons _ _=>simp at h6)
    (λD s H ex=>bA e (JM X _ scope D s H ex) elt (g.cx _ _ _ _ _ _) h8) (se J)
  .cases O
theorem jl:∀(es:List E) (X:Cx) (a:List l'),Gd ck Γ C d X->aV ck es X.N X.env.scope a=bD->PA X a (J5 C (bb Γ es))
 |[],X,a,g,h=>by
  cases a with
  |nil=>show A6
  |cons _ _=>simp[aV]at h
 |e::es,X,a,g,h=>by
  cases a with
  |nil=>simp[aV]at h
  |cons b a =>
   simp only[aV,cb]at h;show xZ (bA e X b g h.1.2) (jl es X a g h.2) (aX h.1.1)
theorem GL:∀(es:List E) (X:Cx) (o:Option l'),Gd ck Γ C d X->sd ck es X.N X.env.scope o=bD->PO X o (tO C (N9 Γ es))
 |[],X,o,g,h=>by
  cases o with
  |none=>show vK
  |some _=>simp[sd]at h
 |[e],X,o,g,h=>by
  cases o with
  |none=>simp[sd]at h
  |some a=>simp only[sd]at h;show vL (bA e X a g h)
 |_::_::_,X,o,g,h=>by simp[sd]at h
theorem yy:∀(es:List E) (X:Cx) (a:List l'),Gd ck Γ C d X->aV ck es X.N X.env.scope a=bD->∀{pos},PE X (.BoolOp .And a pos) (IE C (iK Γ es))
 |[],X,a,g,h,pos=>jk
 |[e],X,a,g,h,pos=>by
  cases a with
  |nil=>simp[aV]at h
  |cons b a =>
   cases a with
   |nil=>simp only[aV,cb]at h;show C3 (bA e X b g h.1.2)
   |cons _ _=>simp[aV]at h
 |e::c::es,X,a,g,h,pos=>by
  cases a with
  |nil=>simp[aV]at h
  |cons b a =>
   have h':noStar b=bD/\bj ck e X.N X.env.scope b=bD/\aV ck (c::es) X.N X.env.scope a=bD:=by
    rw[aV]at h;simp only[cb]at h;show⟨h.1.1,h.1.2,h.2⟩
   cases a with
   |nil=>have:=h'.2.2;simp[aV]at this
   |cons f i=>show snd_and (bA e X b g h'.2.1) (yy (c::es) X _ g h'.2.2)
theorem lz:∀(e:E) (X:Cx) (j:l'),Gd ck Γ C d X->bj ck e X.N X.env.scope j=bD->PT X j (JX C (IX Γ e))
 |.and es,X,j,g,h=>by
  have⟨Y,s,rfl,l⟩:=ji h;clear h;have h:=l;show(ui es X _ g h).pt
 |.or es,X,j,g,h=>by
  have⟨Y,s,rfl,l⟩:=ji h;clear h;have h:=l;show(yz es X _ g h).pt
 |.not a,X,j,g,h=>by
  have⟨a',s,rfl,l⟩:=m9 h;clear h;have h:=l;show A4 (lz a X _ g h)
 |.cmp op a b,X,j,g,h=>by
  have⟨a',KZ,H,s,rfl,k⟩:=fC h;have h:=k;simp only[cb,Ĝ,nH]at h;obtain⟨⟨⟨rfl,G⟩,v⟩,z⟩:=h;show AY g.P g.w g.K g.u (bA a X _ g v) (bA b X _ g z) G
 |.Mm o1 o2 a b c,X,j,g,h=>by
  have⟨a',Zh,Zi,H,c',s,rfl,l⟩:=r_ h;clear h;have h:=l;simp only[cb,Ĝ,nH]at h;obtain⟨⟨⟨⟨⟨rfl,rfl⟩,G⟩,v⟩,z⟩,A⟩:=h;show xY g.P g.w g.K g.u (bA a X _ g v) (bA b X _ g z) (bA c X _ g A) G
 |.var i,X,j,g,h=>by
  have⟨x,s,rfl,l⟩:=ao h;simp only[cb,Ĝ]at l;have⟨A,B⟩:=aE l.2;show iL (oG l.1.1 (cD l.1.2) A B) g.K λ_=>rfl
 |.idx a b,X,j,g,h=>bF
 |.bi f es,X,j,g,h=>by
  have⟨f',as,s,rfl,k⟩:=aU h;have⟨x,I,rfl,o⟩:=ao k;have h:=o;show PT.eqv (iL (GI g (jl es X _ g (dZ h)) h) g.K λ_=>rfl) λst Q w=>Cy w
 |.MY f es,X,j,g,h=>bF
 |.Np m a es,X,j,g,h=>bF
 |.call f es,X,j,g,h=>by
  have⟨f',as,s,rfl,k⟩:=aU h;have⟨x,I,rfl,o⟩:=ao k;have h:=o;show PT.eqv (iL (yx g (jl es X _ g (dZ h)) h) g.K λ_=>rfl) λst Q w=>Cy w
 |.cst u,X,j,g,h=>bF
 |.fst es,X,j,g,h=>bF
 |.QR x u,X,j,g,h=>bF
 |.neg a,X,j,g,h=>bF
 |.KS a T,X,j,g,h=>by
  have⟨f',as,s,rfl,k⟩:=aU h;have⟨x,I,rfl,o⟩:=ao k;clear h k;have⟨a',H,rfl,z4⟩:=cC o;have⟨y,p2,rfl,z3⟩:=ao z4;have h:=z3;simp only[cb,Ĝ]at h;obtain⟨⟨⟨⟨⟨rfl,rfl⟩,v⟩,z⟩,A⟩,B⟩:=h;show PT.eqv (iL (t7 g.K (cE v) (g.blt _ iQ) (cE z) (g.blt _ (yw T)) (bA a X _ g B) (aX A)) g.K λ_=>rfl) λst Q w=>?_;have w:W (ev Γ a >>= λx=>M.IM (oF x.2 T)) st Q:=w;simp only[ah]at w ⊢;show W.mono w λx s1 J=>?_;have⟨b,e,L⟩:=bG.mp J;show bG.mpr ⟨b,e,ak.mpr (bG.mpr ⟨b,rfl,L⟩)⟩
 |.bad,X,j,g,h=>bF
 |.J2 a D O,X,j,g,h=>by
  have⟨as,p,q,rfl,k⟩:=fe h;have⟨a',H,rfl,o⟩:=cC k;clear h k;simp only[cb]at o;obtain⟨⟨⟨⟨⟨⟨⟨v,z⟩,A⟩,B⟩,h5⟩,h6⟩,h7⟩,h8⟩:=o;show PT.eqv (iL (Cw g (bA a X _ g h8) v z A B h5 h6 h7) g.K λ_=>rfl) λst Q w=>?_;have w:W (ev Γ a >>= λx=>M.IM (lb O x.2)) st Q:=w;have e:ev Γ (.J2 a D O)=(ev Γ a >>= λx=>M.IM (lb O x.2) >>= λb=>pure (.loc,.bl b)):=rfl;rw[e];simp only[ah]at w ⊢;show W.mono w λx s1 J=>?_;have⟨b,e,L⟩:=bG.mp J;show bG.mpr ⟨b,e,ak.mpr (bG.mpr ⟨b,rfl,L⟩)⟩
 |.MZ ix i b,X,j,g,h=>bF
 |.pop i,X,j,g,h=>bF
 |.Kx i a,X,j,g,h=>bF
 |.Iy f es is,X,j,g,h=>bF
 |.inD neg a i,X,j,g,h=>by
  have⟨a',KZ,H,s,rfl,k⟩:=fC h;have⟨x,I,rfl,o⟩:=ao k;have h:=o;simp only[cb,Ĝ,nH]at h;obtain⟨⟨⟨⟨⟨rfl,G⟩,v⟩,z⟩,A⟩,B⟩:=h;have⟨q1,q2⟩:=aE A;show Bl g.u v (cD z) q1 q2 (bA a X _ g B) G
 |.OV i,X,j,g,h=>bF
 |.Nq ln a b,X,j,g,h=>bF
 |.OW i,X,j,g,h=>bF
 |.Ll i a b,X,j,g,h=>bF
 |.bin op a b,X,j,g,h=>bF
 |.ite c a b,X,j,g,h=>bF
 |.tup es,X,j,g,h=>bF
 |.lst es,X,j,g,h=>bF
 |.Kh r,X,j,g,h=>bF
 |.MH a lo hi,X,j,g,h=>bF
 |.comp n t ik src cond e,X,j,g,h=>bF
theorem ui:∀(es:List E) (X:Cx) (a:List l'),Gd ck Γ C d X->aV ck es X.N X.env.scope a=bD->∀{pos},PW X (.BoolOp .And a pos) (JX C (bc Γ es))
 |[],X,a,g,h,pos=>by
  cases a with
  |nil =>
   rintro j pins s σ H Q I ⟨c,rfl,rfl,i,w⟩;rw[show bc Γ []=pure bD from rfl,ak]at w;show ę ⟨c.H,I,w c rfl rfl i (Nx.refl c)⟩
  |cons _ _=>simp[aV]at h
 |[e],X,a,g,h,pos=>by
  cases a with
  |nil=>simp[aV]at h
  |cons b a =>
   cases a with
   |nil=>simp only[aV,cb]at h;show Ac (lz e X b g h.1.2)
   |cons _ _=>simp[aV]at h
 |e::f::es,X,a,g,h,pos=>by
  cases a with
  |nil=>simp[aV]at h
  |cons b a =>
   have h':noStar b=bD/\bj ck e X.N X.env.scope b=bD/\aV ck (f::es) X.N X.env.scope a=bD:=by
    rw[aV]at h;simp only[cb]at h;show⟨h.1.1,h.1.2,h.2⟩
   cases a with
   |nil=>have:=h'.2.2;simp[aV]at this
   |cons k l=>show A5 (lz e X b g h'.2.1) (ui (f::es) X _ g h'.2.2)
theorem yz:∀(es:List E) (X:Cx) (a:List l'),Gd ck Γ C d X->aV ck es X.N X.env.scope a=bD->∀{pos},PW X (.BoolOp .Or a pos) (JX C (jD Γ es))
 |[],X,a,g,h,pos=>by
  cases a with
  |nil =>
   rintro j pins s σ H Q I ⟨c,rfl,rfl,i,w⟩;rw[show jD Γ []=pure cc from rfl,ak]at w;show isTrue_or_nil ⟨c.H,I,w c rfl rfl i (Nx.refl c)⟩
  |cons _ _=>simp[aV]at h
 |[e],X,a,g,h,pos=>by
  cases a with
  |nil=>simp[aV]at h
  |cons b a =>
   cases a with
   |nil=>simp only[aV,cb]at h;show CY (lz e X b g h.1.2)
   |cons _ _=>simp[aV]at h
 |e::f::es,X,a,g,h,pos=>by
  cases a with
  |nil=>simp[aV]at h
  |cons b a =>
   have h':noStar b=bD/\bj ck e X.N X.env.scope b=bD/\aV ck (f::es) X.N X.env.scope a=bD:=by
    rw[aV]at h;simp only[cb]at h;show⟨h.1.1,h.1.2,h.2⟩
   cases a with
   |nil=>have:=h'.2.2;simp[aV]at this
   |cons k l=>show D0 (lz e X b g h'.2.1) (yz (f::es) X _ g h'.2.2)
end
def GN(g:Gd ck Γ C d X)(b:T7 e=bD)(h:bj ck e X.N X.env.scope f=bD):PE X f (vQ C (ev Γ e)):=by
 cases e with
 |var i =>
  have⟨x,k,rfl,a⟩:=ao h;simp only[cb,Ĝ]at a;have⟨l,m⟩:=aE a.2;show yh a.1.1 (cD a.1.2) l m
 |cst u =>
  have⟨c,n,k,rfl,a⟩:=h_ h;cases c with
  |int j=>have:=cY a;subst this;show iP wB λ_ _=>rfl
  |str y=>have:=cY a;subst this;show iP wD λ_ _=>rfl
  |bool y=>have:=cY a;subst this;show iP s_ λ_ _=>rfl
  |none=>have:=cY a;subst this;show iP wC λ_ _=>rfl
  |_=>cases a
 |_=>cases b
end
abbrev Qf(b:LY)(x:Str)(a:Nat):l'->Bool
 |.ListComp elt gens s pos=>cn (b.names.lookup x=a5 .local)&&(a==pos.line)&&!(s.names.any λ(n,k)=>n==x&&(k==.local||k==.cell))
 |_=>cc
abbrev jI(s:L8)(k:l'->Bool):Bool:=match s with|.Expr e _=>k e|_=>cc
def dn(h:jI s k=bD):∃e p,s=.Expr e p/\k e=bD:=by
 unfold jI at h;split at h
 .show⟨_,_,rfl,h⟩
 .cases h
abbrev jJ(s:L8)(k:l'->l'->Bool):Bool:=match s with|.Assign ts v _=>cP ts λt=>k t v|_=>cc
def dq(h:jJ s k=bD):∃t v p,s=.Assign [t] v p/\k t v=bD:=by
 unfold jJ at h;split at h
 .have⟨t,rfl,a⟩:=aL h;show⟨_,_,_,rfl,h⟩
 .cases h
abbrev yA(s:L8)(k:l'->Bool):Bool:=match s with|.Raise (a5 e) b8 _=>k e|_=>cc
def si(h:yA s k=bD):∃e p,s=.Raise (a5 e) b8 p/\k e=bD:=by
 unfold yA at h;split at h
 .show⟨_,_,rfl,h⟩
 .cases h
abbrev yB(s:L8)(k:L8->ExceptHandler->Bool):Bool:=match s with|.Try b hs [] [] _=>cP b λb=>cP hs λh=>k b h|_=>cc
def sj(h:yB s k=bD):∃b a p,s=.Try [b] [a] [] [] p/\k b a=bD:=by
 unfold yB at h;split at h
 .have⟨b,rfl,c⟩:=aL h;have⟨a,rfl,d⟩:=aL c;show⟨_,_,_,rfl,d⟩
 .cases h
abbrev yC(s:ExceptHandler)(k:l'->Str->L8->Bool):Bool:=match s with|.ExceptHandler (a5 t) (a5 n) b _=>cP b λb=>k t n b|_=>cc
def sm(h:yC s k=bD):∃t n b p,s=.ExceptHandler (a5 t) (a5 n) [b] p/\k t n b=bD:=by
 unfold yC at h;split at h
 .have⟨b,rfl,a⟩:=aL h;show⟨_,_,_,_,rfl,a⟩
 .cases h
abbrev EC(s:L8)(k:Str->l'->Bool):Bool:=jJ s λt v=>aY t λy=>k y v
def nj(h:EC s k=bD):∃y p v a,s=.Assign [.Name y p] v a/\k y v=bD:=by
 have⟨t,v,a,rfl,z⟩:=dq h;have⟨y,p,rfl,z⟩:=ao z;show⟨y,p,v,a,rfl,z⟩
abbrev ED(e:l')(k:Str->Pos->Bool):Bool:=match e with|.Name x p=>k x p|_=>cc
def vT(h:ED e k=bD):∃x p,e=.Name x p/\k x p=bD:=by
 unfold ED at h;split at h
 .show⟨_,_,rfl,h⟩
 .cases h
abbrev yD(s:L8)(k:l'->Z6->l'->Bool):Bool:=match s with|.AugAssign t a b _=>k t a b|_=>cc
def sr(h:yD s k=bD):∃t a b p,s=.AugAssign t a b p/\k t a b=bD:=by
 unfold yD at h;split at h
 .show⟨_,_,_,_,rfl,h⟩
 .cases h
abbrev qu(s:L8)(k:Option l'->Bool):Bool:=match s with|.Return v _=>k v|_=>cc
def ib(h:qu s k=bD):∃v p,s=.Return v p/\k v=bD:=by
 unfold qu at h;split at h
 .show⟨_,_,rfl,h⟩
 .cases h
abbrev EF(v:Option l')(k:l'->Bool):Bool:=match v with|some e=>k e|none=>cc
def nq(h:EF v k=bD):∃e,v=a5 e/\k e=bD:=by
 cases v with
 |none=>cases h
 |some e=>show⟨e,rfl,h⟩
abbrev yE(s:L8)(k:l'->List L8->List L8->Bool):Bool:=match s with|.If c a b _=>k c a b|_=>cc
def su(h:yE s k=bD):∃c a b p,s=.If c a b p/\k c a b=bD:=by
 unfold yE at h;split at h
 .show⟨_,_,_,_,rfl,h⟩
 .cases h
abbrev yF(s:L8)(k:l'->l'->List L8->Bool):Bool:=match s with|.For t i b o _=>o.isEmpty&&k t i b|_=>cc
def sv(h:yF s k=bD):∃t i b p,s=.For t i b [] p/\k t i b=bD:=by
 unfold yF at h;split at h
 .rw[cb,Jm]at h;have⟨rfl,h⟩:=h;show⟨_,_,_,_,rfl,h⟩
 .cases h
abbrev EG(s:L8)(k:l'->List L8->Bool):Bool:=match s with|.While c b o _=>o.isEmpty&&k c b|_=>cc
def vU(h:EG s k=bD):∃c b p,s=.While c b [] p/\k c b=bD:=by
 unfold EG at h;split at h
 .rw[cb,Jm]at h;have⟨rfl,h⟩:=h;show⟨_,_,_,rfl,h⟩
 .cases h
abbrev O2(k:Ck)(f:Str)(es:List E)(N:List Str)(a:LY)(v:l'):Bool:=yu v f λas=>cn (f∈k.fns)&&JZ a f&&a_ f&&!as.isEmpty&&aV k es N a as
abbrev Yg(k:Ck)(c:List E)(f:Str)(es:List E)(g:Str)(b:List E)(N:List Str)(a:LY)(v:l'):Bool:=match c with
 |[]=>O2 k f es N a v
 |[c]=>By v λd a' e=>bj k c N a d&&O2 k f es N a a'&&O2 k g b N a e
 |_=>cc
abbrev vV(k:Ck):RE->List Str->LY->l'->Bool
 |.call f es,N,a,v=>O2 k f es N a v
 |.arg f r,N,a,v=>yu v f λas=>cP as λa'=>cn (f∈k.fns)&&JZ a f&&a_ f&&noStar a'&&vV k r N a a'
 |.cmp d r e,N,a,v=>qr v λa' b c=>cn (d.op=b)&&!L5 b c&&vV k r N a a'&&bj k e N a c
mutual
noncomputable def sy(k:Ck):S->List Str->LY->L8->Bool
 |.set i e,N,d,s=>jJ s λt v=>ED t λx p=>cn (N[i]?=a5 x)&&lr d x&&cn (d.kind=.function)&&bj k e N d v&&(dc v||Qf d x p.line v||(match v with|.ListComp _ _ _ _=>bD|_=>cc))&&(match e with|.comp _ _ _ _ _ _=>bD|_=>dc v)
 |.M0 is e,N,d,s=>jJ s λt v=>ug t λ_=>O1 bD N d bD is t&&dc v&&Et v&&bj k e N d v
 |.put i a b,N,d,s=>jJ s λt q=>jG t λo a'=>aY o λx=>cn (N[i]?=a5 x)&&f_ d x&&a_ x&&dc q&&eJ a'&&bj k a N d a'&&bj k b N d q
 |.app i e,N,d,s=>jI s λc=>dY c λo m h as u=>aY o λx=>cP as λa=>cn (m="append")&&cn (N[i]?=a5 x)&&f_ d x&&a_ x&&(h.endLine==u.line)&&noStar a&&bj k e N d a
 |.ext i e,N,d,s=>jI s λc=>dY c λo m h as u=>aY o λx=>cP as λa=>cn (m="extend")&&cn (N[i]?=a5 x)&&f_ d x&&a_ x&&(h.endLine==u.line)&&noStar a&&bj k e N d a
 |.bad,_,_,_=>bD
 |.newD i,N,d,s=>jJ s λt v=>aY t λx=>BA v&&cn (N[i]?=a5 x)&&lr d x
 |.putD i a b,N,d,s=>jJ s λt q=>jG t λo a'=>aY o λx=>cn (N[i]?=a5 x)&&f_ d x&&a_ x&&dc q&&eJ a'&&bj k a N d a'&&bj k b N d q
 |.KU i a e,N,d,s=>jI s λc=>dY c λo m h as u=>jG o λD a'=>aY D λx=>cP as λb=>cn (m="append")&&cn (N[i]?=a5 x)&&f_ d x&&a_ x&&eJ a'&&(h.endLine==u.line)&&noStar b&&bj k a N d a'&&bj k e N d b&&T7 e
 |.aug sub i a e,N,d,s=>yD s λt G b=>jG t λo a'=>aY o λx=>cn (G=if sub=bD then .Sub else .Add)&&cn (N[i]?=a5 x)&&f_ d x&&a_ x&&eJ a'&&bj k a N d a'&&bj k e N d b&&T7 e
 |.QS _,_,_,_=>cc
 |.exp e,N,d,s=>jI s λw=>dc w&&bj k e N d w
 |.ret e,N,d,s=>qu s λv=>EF v λw=>bj k e N d w
 |.Ki r,N,d,s=>qu s λv=>EF v λw=>vV k r N d w
 |.ins i H I,N,d,s=>jI s λc=>dY c λo m h as u=>aY o λx=>jH as λa b=>cn (m="insert")&&cn (N[i]?=a5 x)&&f_ d x&&a_ x&&(h.endLine==u.line)&&noStar a&&noStar b&&bj k H N d a&&bj k I N d b
 |.LM,N,d,s=>qu s λv=>v.isNone
 |.ite c a b,N,d,s=>yE s λA a' q=>bj k c N d A&&d0 k a N d a'&&d0 k b N d q
 |.IU t is J src body,N,d,s=>yF s λC l B=>O1 t N d bD is C&&rX l&&(match gb d C J l with
    |some as=>aV k src N d as
    |none=>cc)&&d0 k body N d B
 |.Nr c body,N,d,s=>EG s λA B=>bj k c N d A&&d0 k body N d B
 |.brk,_,_,_=>cc
 |.cnt,_,_,_=>cc
 |.LN _,_,_,_=>cc
 |.MI f es,N,d,s=>jI s λv=>O2 k f es N d v
 |.MJ i c f es g L x O j m,N,d,s=>yB s λb Q=>yC Q λt n T=>EC b λy v=>EC T λz Y=>(isNm t x&&isNm Y n&&dc v&&Yg k c f es g L N d v)&&(O.all λcl=>cn ((cl,x)∈k.xe))&&(cn (k.xe.any λp=>cn (p.2=x))&&JZ d x&&a_ x)&&(cn (N[i]?=a5 y)&&lr d y&&cn (N[j]?=a5 n)&&cn (d.names.lookup n=a5 .local)&&a_ n&&cn (N[m]?=a5 z)&&lr d z)
 |.M1 c e,N,d,s=>yA s λr=>yu r c λas=>cP as λa=>cn (c∈k.xc)&&JZ d c&&a_ c&&noStar a&&bj k e N d a
 |.QT,_,_,_=>cc
noncomputable def d0(k:Ck):List S->List Str->LY->List L8->Bool
 |[],_,_,a=>a.isEmpty
 |s::ss,N,b,a=>match a with
  |s'::a=>sy k s N b s'&&d0 k ss N b a
  |[]=>cc
end
section
variable{ck:Ck}{Γ:Tab}{C:Ct}{d:Nat}{X:Cx}
def lA(h:lr a x=bD):Loc a x:=by
 unfold lr at h;simp only[LF,Ĝ]at h;show h
def ff(h:dc v=bD):O8 v t a env=pure cc:=by
 cases v<;>first|rfl|cases h
def oR(h:dc v=bD):QN [t] v a env=pure cc:=by
 rw[QN];show ff h
def BH(h:eJ i=bD):∀a b new,ď i a b new=(do Mz [new,a,b] (Tc a b new);V0 [new,a,b] [];pure .next):=by
 intro a b new;cases i<;>first|rfl|cases h
def uj(h:eJ i=bD):∀v,RY (.Subscript o i p) env v=(do
   let a <-Mz [v] (vl o env)
   let b <-Mz [v,a] (vl i env)
   Yl p
   Mz [v,a,b] (Tc a b v)
   V0 [v,a,b] []):=by
 intro v;cases i<;>first|rfl|cases h
structure Gs(ck:Ck)(Γ:Tab)(C:Ct)(d:Nat)(X:Cx):Prop where
 gd:Gd ck Γ C d X
 nd:X.N.Nodup
 fn:∀x,X.fn x=bD
 po:Xh (eh X.prog X.w) X.A X.env X.xe
 kd:X.env.scope.kind=.function
 xs:Oq ck X.K X.mg
 xl:∀c H',C.xw (.str c) H'->∀C' T H pins σ s e s',PySem.W.nsIn X.K i5 c=a5 (a5 (.ref C'))->Inv X pins σ H s->bT X.prog X.w X.stack H s e C' T .none H' s'->X.xe (.ref e) s'
 sk:X.stack=X.env::X.outer/\X.env.frame=a5 X.env.locals
 ex:X.ex=[]
def um(g:Gd ck Γ C d X)(h:(match gb X.env.scope i j b with|some as=>aV ck src X.N X.env.scope as|none=>cc)=bD):PI X i b (MK C j (bb Γ src)):=by
 split at h
 .rename_i as c;show Cv g c (jl src X _ g h) (λa e=>by
   subst e;cases src with
   |nil=>simp[aV]at h
   |cons f k =>
    cases k with
    |nil =>
     simp only[aV,cb]at h;show⟨f,rfl,bA f X _ g h.1.2⟩
    |cons _ _=>simp[aV]at h) (cZ h)
 .cases h
def lB{pos p a:Pos}(hk:X.env.scope.kind=.function):O8 (.ListComp elt gens s pos) (a5 (.Name x p)) a.line X.env=pure (Qf X.env.scope x p.line (.ListComp elt gens s pos)):=by
 have b:X.env.blockKind=.function:=by
  unfold Env.blockKind;rw[hk];rfl
 change(pure (X.env.blockKind==.function&&X.env.kindOf x==a5 .local&&p.line==pos.line&&!(s.names.any λ(n,k)=>n==x&&(k==.local||k==.cell))):Sem Bool)=_;rw[b];unfold Qf;congr 1
 have:(X.env.kindOf x==a5 NameKind.local)=cn (X.env.scope.names.lookup x=a5 .local):=by
  unfold Env.kindOf;rw[D7];simp
 rw[this];rfl
def EH{src cond:List E}(G:Gs ck Γ C d X)(l:X.N[i]?=a5 x)(A:lr X.env.scope x=bD)
  (h:bj ck (.comp n t m src cond e) X.N X.env.scope (.ListComp elt [⟨o,a,b,0⟩] scope pos)=bD) (ns:Nat->Bool) (q:∀j,ns j=bD->j≠i) :
  L2.PS X (.Assign [.Name x p] (.ListComp elt [⟨o,a,b,0⟩] scope pos) LG) (Jp C ns (ev Γ (.comp n t m src cond e) >>= λr=>eT i r >>= λ_=>pure .nx)):=by
 have g:=G.gd;have u:=bA (.comp n t m src cond e) X _ g h;cases f:Qf X.env.scope x p.line (.ListComp elt [⟨o,a,b,0⟩] scope pos) with
 |false=>show Cs q G.nd l (lA A) (.inl (G.fn x)) u (by rw[lB G.kd,f])
 |true =>
  have hl:X.env.scope.names.lookup x=a5 .local:=by
   simp only[Qf,cb,Ĝ]at f;show f.1.1
  have⟨Yh,Zj,Vz,Yi,T8,p',B,v⟩:=jj h;cases B;clear h u;simp only[cb,Ĝ]at v;obtain⟨⟨⟨⟨⟨⟨⟨J,L⟩,O⟩,T⟩,Y⟩,h6⟩,c⟩,h8⟩:=v;subst J;have S:=xg (X:=X) rfl (ni _ _) L;show Ej q S g.calm G.nd l hl (um g Y) (λD s H ex=>uh (fa:=cc) g.calm g.K S.nd (λz=>nomatch z) O)
   (λD s H ex=>by
    cases b with
    |nil =>
     cases cond with
     |nil=>show λpins s σ H Q I ⟨y,k,e2,ok,w⟩=>tE pins s σ H Q I (by subst k e2;rw[show bc Γ []=pure bD from rfl,ak]at w;show w y rfl rfl ok (Nx.refl y))
     |cons _ _=>simp[aV]at c
    |cons c1 cs =>
     cases cs with
     |nil =>
      cases cond with
      |nil=>simp[aV]at c
      |cons k Jn =>
       cases Jn with
       |nil =>
        simp only[aV,cb]at c;show tF (lz k (JM X _ scope D s H ex) c1 (g.cx _ _ _ _ _ _) c.1.2)
       |cons _ _=>simp[aV]at c
     |cons _ _=>simp at h6)
   (λD s H ex=>bA e (JM X _ scope D s H ex) elt (g.cx _ _ _ _ _ _) h8) (by rw[lB G.kd,f]) (se T)
def qv(G:Gs ck Γ C d X)(h:O2 ck f es X.N X.env.scope v=bD):PR X C v (bb Γ es >>= λrs=>az rs >>= λ_=>bM Γ f (rs.map (·.2)))/\dc v=bD:=by
 have⟨as,p2,g,rfl,z⟩:=fe h;simp only[cb,Ĝ,nH]at z;obtain⟨⟨⟨⟨i,j⟩,k⟩,l⟩,a⟩:=z;have b:=cZ a;have⟨u,fa,x,ps,m,n,o,p,q,r⟩:=(G.gd.fns _ i).ex;cases as with
 |nil=>cases l
 |cons s c =>
  have st:=aX (env:=X.env) (es:=c) (b s (by simp));have sn:=(bo (pos:=g) (env:=X.env) (es:=c) λe t=>b e (by simp[t])).1;show⟨Ep G.gd.P G.gd.w G.gd.K rfl q r m G.gd.room (cE j) n o p (aE k).1 (jl es X.KG _ (Gd.KG G.gd) a) st sn,rfl⟩
theorem EI(G:Gs ck Γ C d X):∀(r:RE) (v:l'),vV ck r X.N X.env.scope v=bD->PR X C v (Lm Γ r)
 |.call f es,v,h=>(qv G h).1
 |.arg f r,v,h=>by
  have⟨as,p2,x,rfl,z⟩:=fe h;have⟨a',rfl,z⟩:=aL z;have z:(cn (f∈ck.fns)&&JZ X.env.scope f&&a_ f&&noStar a'&&vV ck r X.N X.env.scope a')=bD:=z;simp only[cb,Ĝ]at z;obtain⟨⟨⟨⟨j,a⟩,b⟩,c⟩,k⟩:=z;have⟨y,fa,A,ps,l,m,n,o,q,s⟩:=(G.gd.fns _ j).ex;show GD G.gd.P G.gd.w G.gd.K rfl q s l G.gd.room (cE a) m n o (aE b).1 (EI G r _ k) (aX (es:=[]) c)
 |.cmp t r e,v,h=>by
  have⟨a',g,i,p,rfl,z⟩:=fC h;have z:(cn (t.op=g)&&!L5 g i&&vV ck r X.N X.env.scope a'&&bj ck e X.N X.env.scope i)=bD:=z;simp only[cb,Ĝ,nH]at z;obtain⟨⟨⟨rfl,a⟩,b⟩,c⟩:=z;show GF G.gd.P G.gd.w G.gd.K G.gd.u (EI G r _ b) (bA e X.KG _ (Gd.KG G.gd) c) a
def yG(G:Gs ck Γ C d X)(h:sy ck (.Ki r) X.N X.env.scope s'=bD):L2.PS X s' (Jp C (Nt (.Ki r)) (exec Γ (.Ki r))):=by
 have⟨v,p,rfl,a⟩:=ib h;have⟨c,rfl,b⟩:=nq a;show Er (EI G r _ b) G.xl
def BI(G:Gs ck Γ C d X)(h:sy ck (.ins i f g) X.N X.env.scope s'=bD):L2.PS X s' (Jp C (Nt (.ins i f g)) (exec Γ (.ins i f g))):=by
 have⟨c,H,rfl,p⟩:=dn h;have⟨o,m,j,as,q,rfl,r⟩:=bC p;have⟨x,I,rfl,s⟩:=ao r;have⟨a,b,rfl,k⟩:=cC s;simp only[cb,Ĝ]at k;obtain⟨⟨⟨⟨⟨⟨⟨⟨rfl,t⟩,u⟩,v⟩,w⟩,l⟩,n⟩,y⟩,z⟩:=k;have⟨A,B⟩:=aE v;have D:=bo (pos:=q) (env:=X.env) (es:=[a,b]) λe he=>by
  rcases d3.mp he with rfl|he
  .show l
  .simp at he;subst he;show n
 show GG G.gd.K t (cD u) A B (bA f X _ G.gd y) (bA g X _ G.gd z) (by rw[D.2];rfl) w (aX l) (aX (es:=[]) n)
def BJ(G:Gs ck Γ C d X)(h:sy ck (.MI f es) X.N X.env.scope s'=bD):L2.PS X s' (Jp C (Nt (.MI f es)) (exec Γ (.MI f es))):=by
 have⟨v,p,rfl,z⟩:=dn h;have⟨a,b⟩:=qv G z;show GA a (ff b) G.xl
def BK(G:Gs ck Γ C d X)(h:sy ck (.MJ i c f es g l x k j m) X.N X.env.scope s'=bD):L2.PS X s' (Jp C (Nt (.MJ i c f es g l x k j m)) (exec Γ (.MJ i c f es g l x k j m))):=by
 have⟨b,hd,p,rfl,r⟩:=sj h;have⟨t0,n,s,Yc,rfl,t⟩:=sm r;have⟨y,p1,v,p4,rfl,u⟩:=nj t;have⟨z,p6,v2,Vr,rfl,A⟩:=nj u;clear h r t u;simp only[cb,Ĝ]at A;obtain⟨⟨⟨⟨⟨⟨D,H⟩,I⟩,a⟩,b1⟩,⟨⟨s,b3⟩,b4⟩⟩,⟨⟨⟨⟨⟨⟨J,L⟩,O⟩,Q⟩,B⟩,T⟩,Y⟩⟩:=A;have⟨p5,rfl⟩:=gz D;have⟨p9,rfl⟩:=gz H;have⟨q0,Yj,e0⟩:=R_.mp s;have⟨Dc,r1,r2⟩:=G.xs.xe x ⟨q0,Yj,ġ e0⟩;have o:∃q,PR X C v q/\exec Γ (.MJ i c f es g l x k j m)=q >>= jZ k i j m:=by
  match c,a with
  |[],a=>show⟨_,(qv G a).1,rfl⟩
  |[c],a =>
   have⟨c',a',b',p3,rfl,w⟩:=m_ a;simp only[cb]at w;show⟨_,Gz (lz c X.KG _ (Gd.KG G.gd) w.1.1) (qv G w.1.2).1 (qv G w.2).1,rfl⟩
  |_::_::_,a=>cases a
 have⟨q,o,e1⟩:=o;rw[e1];show GB (λn e=>by have e:(cn (n≠i)&&cn (n≠m)&&cn (n≠j))=bD:=e;simpa[and_assoc] using e) G.nd J (lA L) (G.fn _) O Q T (lA Y) (G.fn _) G.gd.K o (ff I) G.sk G.ex (cE b3) r1 (aE b4).1 (λcl Mc Cc e=>r2 cl (ġ (i6.mp b1 cl Mc)) Cc e) (aE B).1 (aE B).2
def BL(G:Gs ck Γ C d X)(h:sy ck (.M1 c e) X.N X.env.scope s'=bD):L2.PS X s' (Jp C (Nt (.M1 c e)) (exec Γ (.M1 c e))):=by
 have⟨r,t,rfl,f⟩:=si h;have⟨as,u,p2,rfl,g⟩:=fe f;have⟨a,rfl,b⟩:=aL g;simp only[cb,Ĝ]at b;obtain⟨⟨⟨⟨i,j⟩,k⟩,l⟩,m⟩:=b;have⟨n,o,p,q⟩:=G.xs.xc _ i;show Gu G.gd.calm (cE j) o (aE k).1 q (bA e X a G.gd m) (aX (es:=[]) l) λH' w pins σ s e s' I F=>G.xl _ H' w n b8 H' pins σ s e s' p I F
mutual
theorem Il:∀(s:S) (X:Cx) (s':L8),Gs ck Γ C d X->sy ck s X.N X.env.scope s'=bD->L2.PS X s' (Jp C (Nt s) (exec Γ s))
 |.set i e,X,s',G,h=>by
  have⟨t,v,p1,rfl,k⟩:=dq h;have⟨x,p,rfl,l⟩:=vT k;clear h k;have h:=l;simp only[cb,Ĝ]at h;obtain⟨⟨⟨⟨⟨y,A⟩,B⟩,q⟩,J⟩,L⟩:=h;have JJ:∀j,Nt (.set i e) j=bD->j≠i:=λj Q=>ġ (show cn (j≠i)=bD from Q);by_cases hc:dc v=bD
  .show Cs JJ G.nd y (lA A) (.inl (G.fn x)) (bA e X v G.gd q) (ff hc)
  .cases e with
   |comp n t ik src cond e =>
    obtain⟨elt,tg,ac,ag,scope,p3,rfl,_⟩:=jj q;show EH G y A q _ JJ
   |_=>show absurd L hc
 |.M0 is e,X,s',G,h=>by
  have⟨t,v,p1,rfl,k⟩:=dq h;have⟨es,kk,p,rfl,l⟩:=lx k;clear h k;have h:=l;simp only[cb]at h;obtain⟨⟨⟨y,A⟩,B⟩,q⟩:=h;show Ek (λj Q=>ġ (show cn (j∉is)=bD from Q)) (bA e X v G.gd q) (uh (fa:=bD) G.gd.calm G.gd.K G.nd (λ_=>G.fn) y) (oR A) ?_ rfl;cases v<;>first|rfl|cases B
 |.put i a b,X,s',G,h=>by
  have⟨t,v,p,rfl,k⟩:=dq h;have⟨o,a',p1,rfl,l⟩:=dm k;have⟨x,px,rfl,T⟩:=ao l;simp only[cb,Ĝ]at T;obtain⟨⟨⟨⟨⟨⟨y,A⟩,B⟩,q⟩,J⟩,L⟩,h7⟩:=T;have⟨Y,q2⟩:=aE B;show Gr G.gd.P G.gd.w G.gd.K G.gd.u y (cD A) Y q2 (bA b X _ G.gd h7) (bA a X _ G.gd L) (oR q) rfl (uj J)
 |.app i e,X,s',G,h=>by
  have⟨c,p0,rfl,k⟩:=dn h;have⟨o,m,ab,as,G',rfl,l⟩:=bC k;have⟨x,px,rfl,T⟩:=ao l;have⟨a,rfl,z4⟩:=aL T;simp only[cb,Ĝ]at z4;obtain⟨⟨⟨⟨⟨⟨rfl,y⟩,A⟩,B⟩,q⟩,J⟩,L⟩:=z4;have⟨Y,q2⟩:=aE B;have st:=aX (env:=X.env) (es:=[]) J;have sa:=(bo (pos:=G') (env:=X.env) (es:=[a]) λe he=>by simp at he;subst he;show J).2;show Gp G.gd.K y (cD A) Y q2 (bA e X _ G.gd L) ?_ q st;rw[sa];rfl
 |.ext i e,X,s',G,h=>by
  have⟨c,p0,rfl,k⟩:=dn h;have⟨o,m,ab,as,G',rfl,l⟩:=bC k;have⟨x,px,rfl,T⟩:=ao l;have⟨a,rfl,z4⟩:=aL T;simp only[cb,Ĝ]at z4;obtain⟨⟨⟨⟨⟨⟨rfl,y⟩,A⟩,B⟩,q⟩,J⟩,L⟩:=z4;have⟨Y,q2⟩:=aE B;have st:=aX (env:=X.env) (es:=[]) J;have sa:=(bo (pos:=G') (env:=X.env) (es:=[a]) λe he=>by simp at he;subst he;show J).2;show Gq G.gd.K y (cD A) Y q2 (bA e X _ G.gd L) ?_ q st;rw[sa];rfl
 |.bad,X,s',G,h=>λpins sh σ H D I ⟨_,_,_,_,w⟩=>(bt.mp w).elim
 |.newD i,X,s',G,h=>by
  have⟨t,v,p1,rfl,k⟩:=dq h;have⟨x,p,rfl,l⟩:=ao k;clear h k;have h:=l;simp only[cb,Ĝ]at h;have⟨p2,rfl⟩:=ng h.1.1;show Em (λj Q=>ġ (show cn (j≠i)=bD from Q)) G.nd h.1.2 (lA h.2) (.inl (G.fn _)) (ff rfl)
 |.putD i a b,X,s',G,h=>by
  have⟨t,v,p,rfl,k⟩:=dq h;have⟨o,a',p1,rfl,l⟩:=dm k;have⟨x,px,rfl,T⟩:=ao l;simp only[cb,Ĝ]at T;obtain⟨⟨⟨⟨⟨⟨y,A⟩,B⟩,q⟩,J⟩,L⟩,h7⟩:=T;have⟨Y,q2⟩:=aE B;show En G.gd.u y (cD A) Y q2 (bA b X _ G.gd h7) (bA a X _ G.gd L) (oR q) rfl (uj J)
 |.KU i a e,X,s',G,h=>by
  have⟨c,p0,rfl,k⟩:=dn h;have⟨o,m,ab,as,G',rfl,l⟩:=bC k;have⟨o',a',p1,rfl,T⟩:=dm l;have⟨x,px,rfl,z4⟩:=ao T;have⟨b,rfl,z5⟩:=aL z4;simp only[cb,Ĝ]at z5;obtain⟨⟨⟨⟨⟨⟨⟨⟨⟨rfl,y⟩,A⟩,B⟩,q⟩,J⟩,L⟩,h7⟩,h8⟩,h9⟩:=z5;have ha:=GN (C:=C) (Γ:=Γ) (d:=d) (ck:=ck) G.gd h9 h8;have⟨Y,q2⟩:=aE B;have st:=aX (env:=X.env) (es:=[]) L;have sa:=(bo (pos:=G') (env:=X.env) (es:=[b]) λe he=>by simp at he;subst he;show L).2;show Eo G.gd.K G.gd.u y (cD A) Y q2 ha (bA a X _ G.gd h7) (qt q) ?_ J st;rw[sa];rfl
 |.aug sub i a e,X,s',G,h=>by
  have⟨t,op,b,p,rfl,O⟩:=sr h;clear h;have h:=O;have⟨o,a',p1,rfl,k⟩:=dm h;have⟨x,px,rfl,l⟩:=ao k;simp only[cb,Ĝ]at l;obtain⟨⟨⟨⟨⟨⟨⟨rfl,y⟩,A⟩,B⟩,q⟩,J⟩,L⟩,h7⟩:=l;have ha:=GN (C:=C) (Γ:=Γ) (d:=d) (ck:=ck) G.gd h7 L;have⟨Y,q2⟩:=aE B;show Gw y (cD A) Y q2 ha (bA a X _ G.gd J) (BH q)
 |.QS i,X,s',G,h=>absurd (show cc=bD from h) i1
 |.exp e,X,s',G,h=>by
  have⟨e',p,rfl,O⟩:=dn h;clear h;have h:=O;simp only[cb]at h;show Gi (bA e X _ G.gd h.2) (ff h.1)
 |.ret e,X,s',G,h=>by
  have⟨v,p,rfl,O⟩:=ib h;have⟨e',rfl,k⟩:=nq O;clear h O;have h:=k;show Gj (bA e X _ G.gd h)
 |.LM,X,s',G,h=>by
  have⟨v,p,rfl,O⟩:=ib h;cases v with
  |none=>show Ei
  |some _=>cases O
 |.ite c a b,X,s',G,h=>by
  have⟨c',a',b',p,rfl,O⟩:=su h;clear h;have h:=O;simp only[cb]at h;have ha:=lC a X _ G h.1.2;have hb:=lC b X _ G h.2;show Gk (lz c X _ G.gd h.1.1) (JT.weak ha λD σ H z=>oN (λj Q=>(x2.mp (show(Kq a j&&Kq b j)=bD from Q)).1) z) (JT.weak hb λD σ H z=>oN (λj Q=>(x2.mp (show(Kq a j&&Kq b j)=bD from Q)).2) z)
 |.IU t is ik src body,X,s',G,h=>by
  have⟨tg,ac,K3,p,rfl,O⟩:=sv h;clear h;have h:=O;rw[cb,cb,cb]at h;show Gn G.po G.gd.calm (um G.gd h.1.2) (uh (fa:=bD) G.gd.calm G.gd.K G.nd (λ_=>G.fn) h.1.1.1) (lC body X _ G h.2) (se h.1.1.2) λj Q=>by have Q:(cn (j∉is)&&Kq body j)=bD:=Q;simpa using Q
 |.Nr c body,X,s',G,h=>by
  have⟨c',K3,p,rfl,O⟩:=vU h;clear h;have h:=O;simp only[cb]at h;show Gm G.po (lz c X _ G.gd h.1) (lC body X _ G h.2)
 |.brk,X,s',G,h=>absurd (show cc=bD from h) i1
 |.cnt,X,s',G,h=>absurd (show cc=bD from h) i1
 |.LN is,X,s',G,h=>absurd (show cc=bD from h) i1
 |.MI f es,X,s',G,h=>BJ G h
 |.MJ i c f es g Kk x cs j m,X,s',G,h=>BK G h
 |.Ki r,X,s',G,h=>yG G h
 |.ins i e1 e2,X,s',G,h=>BI G h
 |.M1 c e,X,s',G,h=>BL G h
 |.QT,X,s',G,h=>absurd (show cc=bD from h) i1
theorem lC:∀(ss:List S) (X:Cx) (a:List L8),Gs ck Γ C d X->d0 ck ss X.N X.env.scope a=bD->JT X a (Jp C (Kq ss) (execs Γ ss))
 |[],X,a,G,h=>by
  cases a with
  |nil=>show Gh
  |cons _ _=>simp[d0]at h
 |s::ss,X,a,G,h=>by
  cases a with
  |nil=>simp[d0]at h
  |cons s' a =>
   simp only[d0,cb]at h;have c:=Il s X s' G h.1;have e:=lC ss X a G h.2;show Eh (PS.weak c λD σ H z=>oN (λj b=>by simp only[Kq,cb]at b;show b.1) z) (JT.weak e λD σ H z=>oN (λj b=>by simp only[Kq,cb]at b;show b.2) z)
end
end
section
variable{ck:Ck}{Γ:Tab}{d:Nat}{P:u7}{w:DD}{K:PySem.W.Frag}{mg:Str->Option df}{base:Jl}
def jm{n i:Nat}(h:(start us n)[i]?=a5 (a5 (k,u))):us[i]?=a5 u/\k=if I0 u=bD then .loc else .any:=by
 unfold start at h;by_cases a:i<us.length
 .rw[uv (by simpa using a),ki]at h;rw[sL a]at h ⊢;simp only[Vo,S3,WG]at h;have⟨b,c⟩:=h;subst c;show⟨rfl,b.symm⟩
 .rw[nc (by simp;lia),J8]at h;split at h<;>cases h
def dr{i:Nat}(h:vs[i]?=a5 v):(L2.start N vs)[i]?=a5 (a5 v):=by
 unfold L2.start;have a:i<vs.length:=(dt.mp h).1;rw[uv (by simpa using a),ki,h];rfl
def yH(p:∀a,c a->J' H a)(h:aq ⟨P,w,K,H,c,λ_=>False,q⟩ c H us vs)(s:N.length=n):Ok ⟨P,w,K,H,c,λ_=>False,q⟩ ⟨λ_=>False,H,L2.start N vs,start us n,λ_=>[]⟩:=by
 have f:∀(j:Nat) (u:U),(start us n)[j]?≠a5 (a5 (.Iw,u)):=λj u e=>by
  have:=(jm e).2;split at this<;>cases this
 show⟨λa o e _=>e,λa z=>z.elim,λa z=>⟨p a z,λz=>z⟩,λa z=>z.elim,?_,λi k u e=>?_,λi j k k' u u' r hk x g m y A=>?_,⟨λj u r e _=>(f j u e).elim,λi j a ⟨u,_,e,_⟩=>(f i u e).elim,λj a ⟨u,_,e,_⟩=>(f j u e).elim⟩⟩
 .have:=h.len;simp[start,L2.start,s];lia
 .have⟨g,m⟩:=jm e;have⟨v,ev,b⟩:=h.get g;show⟨v,dr ev,?_⟩;subst m;by_cases l:I0 u=bD
  .rw[ĝ l];show Rep.I0 l b
  .rw[Ğ l];show Rep.mv (.up λa z=>.inl z) b
 .obtain⟨_,t⟩:=jm g;subst t;split at hk<;>cases hk
def oS(h:dk Γ fn us=a5 (.ok (k,u))):us.length=fn.np/\((k=.own\/k=.loc\/k=.any)/\(∃st',execs Γ fn.body (start us fn.ns)=a5 (.ok (.rt k u),st'))\/(k=.loc/\u=.ID/\∃st',execs Γ fn.body (start us fn.ns)=a5 (.ok .nx,st'))):=by
 unfold dk at h;split at h
 .rename_i hl;show⟨hl,?_⟩;split at h
  .rename_i e;cases h;show .inl ⟨.inl rfl,_,e⟩
  .rename_i e;cases h;show .inl ⟨.inr (.inl rfl),_,e⟩
  .rename_i e;cases h;show .inl ⟨.inr (.inr rfl),_,e⟩
  .rename_i e;cases h;show .inr ⟨rfl,rfl,_,e⟩
  .cases h
  .cases h
 .cases h
def qw(h:dk Γ fn us=a5 (.exc c)):us.length=fn.np/\∃st',execs Γ fn.body (start us fn.ns)=a5 (.ok (.rt .io (.str c)),st'):=by
 unfold dk at h;split at h
 .rename_i hl;show⟨hl,?_⟩;split at h
  .cases h
  .cases h
  .cases h
  .cases h
  .rename_i e;cases h;show⟨_,e⟩
  .cases h
 .cases h
def Cz{st:L8}(F:Nc K fn.name i st f fd)(S:eG N ps (aT st))(hN:N.length=fn.ns)(K7:ps.length=fn.np)
  (Ou:d0 ck fn.body N (aT st) (c8 st)=bD) (t:∀x∈bN,mg x=b8) (y:∀g∈ck.fns,BB P w K mg base d (Γ g) g)
  (LQ:∀p∈ck.gl,∃val v,mg p.1=a5 val/\RelV v val/\∀(C:Ct) S H,Rep C S H p.2 v) (KA:∀p∈ck.KA,BC P w K mg base d (Γ p.1) p.1 p.2) (xs:Oq ck K mg):iw P w K mg base (Nk P w) (d+1) f fd ps (spT P w K (dk Γ fn) fn.np):=by
 have⟨oc,od,kV,ab,pm,an,J,ct,OG,rfl,lk,Jg⟩:=F.ex;show Cm lk Jg S (λvs H Q E h=>h.1.trans K7.symm) λA outer s H vs Q E L h=>?_;have⟨hl,us,r,q,O,Yk,B,b⟩:=h;have OX:=L.un;let l:Ct:=⟨P,w,K,H,q,λ_=>False,λu H'=>∃c,u=.str c/\∀j,PySem.W.nsIn K i5 c=a5 (a5 (.ref j))->E (.ref j) b8 H'⟩
 have D:(Mo P w K H q).Eqv l:=⟨rfl,rfl,rfl⟩
 have m:l.Eqv (Mo P w K H q):=⟨rfl,rfl,rfl⟩
 have G:Gs ck Γ l d (pF (Nk P w) P w K mg base N i (aT st) f J A outer s H E) :=
  ⟨⟨rfl,rfl,rfl,by change(A.deeper (TH i (aT st) s.heap.objs.size f J)).units+60<K4;lia,rfl,L,t,y,λp hp=>let ⟨val,v,D,m,q3⟩:=LQ p hp;⟨val,v,D,m,q3 _⟩,KA,xs⟩,S.nd,λ_=>rfl,PassesOwn.leaving,S.kind,xs,
   λc H' ⟨c',e1,hE⟩ j T H2 pins σ s2 e s' hm I F=>by
    cases e1;show F.leave I.ok.frames rfl I.stack I.j5 λT' Lb F'=>⟨e,j,T',H',rfl,F'.down I rfl rfl rfl,hE j hm⟩,⟨rfl,rfl⟩,rfl⟩
 show⟨_,lC fn.body _ _ G Ou,⟨λ_=>False,H,L2.start N vs,start us fn.ns,λ_=>[]⟩,rfl,rfl,yH Yk (B.cg D) hN,?_⟩;cases r with
 |exc c =>
  obtain⟨_,st',e⟩:=qw O;show⟨_,st',e,λcf Y ok n kp=>⟨c,rfl,λj hC=>b j cf.H hC λa o z=>ok.same a o z λz=>z⟩⟩
 |ok x =>
 have⟨k,u⟩:=x;have⟨hk,b⟩:=b;obtain⟨_,T9⟩:=oS O;have mk:∀(c:Cf),Ok l c->∀v,Eg l c k u v->Back (Mo P w K H q) H c.H c.S k u v:=λc ok v r=>by
  show⟨λa o e=>ok.same a o e λz=>z,λa z=>ok.KO a z,λe=>?_,λe=>?_,λe=>?_⟩
  .subst e;have⟨r0,e,h1,h2,h3,h4⟩:=r;show⟨r0,e,h1,h2,h4.cg m⟩
  .subst e;show Rep.cg m r
  .subst e;show Rep.cg m r
 rcases T9 with⟨_,st',e⟩|⟨rfl,rfl,st',e⟩
 .rcases hk with rfl|rfl|rfl<;>show⟨_,st',e,λc Y ok n kp v r=>b v c.H c.S (mk c ok v r)⟩
 .show⟨_,st',e,λc Y ok n kp=>b .ID c.H c.S (mk c ok .ID rfl)⟩
def ic(h:(cS is us n)[i]?=a5 (a5 (k,u))):us[i]?=a5 u/\k=if i∈is then .io else if I0 u=bD then .loc else .any:=by
 unfold cS at h;by_cases a:i<us.length
 .rw[uv (by simpa using a),ki,S5]at h;rw[sL a]at h ⊢;simp only[Vo,S3,WG,PV]at h;have⟨b,c⟩:=h;subst c;show⟨rfl,b.symm⟩
 .rw[nc (by simp;lia),J8]at h;split at h<;>cases h
def vW(a:Es C C.H₀ is us vs)(s:N.length=n):Ok C ⟨λ_=>False,C.H₀,L2.start N vs,cS is us n,λ_=>[]⟩:=by
 have g:∀(j:Nat) (u:U),(cS is us n)[j]?≠a5 (a5 (.Iw,u)):=λj u e=>by
  have:=(ic e).2;split at this
  .cases this
  .split at this<;>cases this
 have rt:∀(j:Nat) (k:Kd) (u:U),k.root=bD->(cS is us n)[j]?=a5 (a5 (k,u))->j∈is/\us[j]?=a5 u:=λj k u hk e=>by
  have⟨f,b⟩:=ic e;show⟨?_,f⟩;by_cases z:j∈is
  .show z
  .rw[Ğ z]at b;subst b;split at hk<;>cases hk
 show⟨λa o e _=>e,λa z=>z.elim,λx z=>a.par x z,λx z=>⟨a.Vt x z,a.Vt x z⟩,?_,λi k u e=>?_,λi j k k' u u' r hk t f b l m=>?_,⟨λj u r e _=>(g j u e).elim,λi j a ⟨u,_,e,_⟩=>(g i u e).elim,λj a ⟨u,_,e,_⟩=>(g j u e).elim⟩⟩
 .have:=a.len;simp[cS,L2.start,s];lia
 .have⟨f,b⟩:=ic e;by_cases z:i∈is
  .rw[ĝ z]at b;subst b;have⟨r,b1,c,b3⟩:=a.io i u z f;show⟨_,dr b1,r,rfl,λz=>z,λz=>(a.par r z).2 c,c,b3⟩
  .rw[Ğ z]at b;have⟨v,b1,c⟩:=a.any i u z f;show⟨v,dr b1,?_⟩;subst b;by_cases h:I0 u=bD
   .rw[ĝ h];show Rep.I0 h c
   .rw[Ğ h];show Rep.mv (.up λa z=>.inl z) c
 .have⟨p,y⟩:=rt i k u hk f;have⟨q,A⟩:=rt j k' u' t b;obtain⟨B,b1,_⟩:=a.io i u p y;obtain⟨D,c,_⟩:=a.io j u' q A;rw[dr b1]at l;rw[dr c]at m;cases l;cases m;show a.inj i j _ p q b1 c
theorem uo:∀{is:List Nat}{st:aw}{ws:List U},N_ is st=a5 ws->ws.length=is.length/\∀(n i:Nat),is[n]?=a5 i->∃w,ws[n]?=a5 w/\st[i]?=a5 (a5 (.io,w))
 |[],_,_,h=>by cases h;show⟨rfl,λn i e=>by simp at e⟩
 |i::is,st,ws,h=>by
  unfold N_ at h;split at h
  .rename_i u c;rw[et]at h;have⟨ws',h,rfl⟩:=h;have⟨a,b⟩:=uo h;show⟨by simp[a],λn j e=>?_⟩;cases n with
   |zero=>simp at e;subst e;show⟨u,rfl,c⟩
   |succ n=>have⟨w,f,g⟩:=b n j (by simpa using e);show⟨w,by simpa using f,g⟩
  .cases h
def uq(h:gG Γ fn is body us=a5 (.ok r)):us.length=fn.np/\∃f st k u ws,execs Γ body (cS is us fn.ns)=a5 (.ok f,st)/\QU f=a5 (k,u)/\N_ is st=a5 ws/\r=(k,.tup (u::ws)):=by
 unfold gG at h;split at h
 .rename_i hl;show⟨hl,?_⟩;split at h
  .rename_i f st e;obtain⟨⟨k,u⟩,a,h⟩:=r3.mp h;rw[et]at h;have⟨ws,b,c⟩:=h;cases c;show⟨f,st,k,u,ws,e,a,b,rfl⟩
  .cases h
 .cases h
def EJ{st:L8}(F:Nc K fn.name b st f fd)(S:eG N ps (aT st))(hN:N.length=fn.ns)(K7:ps.length=fn.np)(JJ:∀i∈is,Kq body i=bD)
  (Ou:d0 ck body N (aT st) (c8 st)=bD) (y:∀x∈bN,mg x=b8) (B:∀g∈ck.fns,BB P w K mg base d (Γ g) g)
  (LQ:∀p∈ck.gl,∃val v,mg p.1=a5 val/\RelV v val/\∀(C:Ct) S H,Rep C S H p.2 v) (KA:∀p∈ck.KA,BC P w K mg base d (Γ p.1) p.1 p.2) (xs:Oq ck K mg):iw P w K mg base NT (d+1) f fd ps (Q8 P w K (gG Γ fn is body) fn.np is):=by
 show F.ok S (λvs H Q E h=>h.1.trans K7.symm) (λJ A outer s H vs Q E L h=>?_);have⟨hl,us,k,u,ws,m,IO,Jj,hk,D,j⟩:=h;have OX:=L.un;have G:Gs ck Γ (Mr P w K H m IO) d (pF NT P w K mg base N b (aT st) f J A outer s H E).KG :=
  ⟨⟨rfl,rfl,rfl,by change(A.deeper (TH b (aT st) s.heap.objs.size f J)).units+60<K4;lia,rfl,L,y,B,λp hp=>let ⟨val,v,q1,q2,q3⟩:=LQ p hp;⟨val,v,q1,q2,q3 _⟩,KA,xs⟩,S.nd,λ_=>rfl,PassesOwn.never,S.kind,xs,λ_ _ z=>z.elim,⟨rfl,rfl⟩,rfl⟩
 show⟨_,lC body _ _ G Ou,⟨λ_=>False,H,L2.start N vs,cS is us fn.ns,λ_=>[]⟩,rfl,rfl,vW (C:=Mr P w K H m IO) D hN,?_⟩;obtain⟨_,O,st',k',u',ws',e,o,e2,e3⟩:=uq Jj;cases e3;have⟨l1,l2⟩:=uo e2;have T:∀(c:Cf),c.st=st'->Ok (Mr P w K H m IO) c->Kept (Kq body) ⟨λ_=>False,H,L2.start N vs,cS is us fn.ns,λ_=>[]⟩ c->∀v,Eg (Mr P w K H m IO) c k u v->Cu (Mr P w K H m IO) H c.H c.S is vs ws k u v:=λc q l t v r=>by
  show⟨l.same,λa z=>l.KO a z,λe=>?_,λe=>?_,l1,λn i r w Y g2 g3=>?_⟩
  .subst e;have⟨r0,e,h1,h2,h3,h4⟩:=r;show⟨r0,e,h1,h2,h4⟩
  .subst e;show r
  .have⟨w',z1,z2⟩:=l2 n i Y;rw[g3]at z1;cases z1;rw[<-q]at z2;obtain⟨v',I,r',y2,_,_,_,y3⟩:=l.sl i _ _ z2;have hi:i∈is:=my Y;rw[t.1 i (JJ i hi)]at I;rw[show(L2.start N vs)[i]?=a5 (a5 (.ref r)) from dr g2]at I;cases I;cases y2;show y3
 show⟨O,st',e,λc q l n t=>?_⟩;cases O with
 |nx=>cases o;show j .ID c.H c.S (T c q l t .ID rfl)
 |rt k0 u0=>cases k0<;>first|(cases o;done)|(cases o;show λv r=>j v c.H c.S (T c q l t v r))
 |_=>cases o
abbrev Fn.bd(fn:Fn):List S:=match fn.io with|some (_,b)=>b|none=>fn.body
abbrev Q_(fn:Fn):Bool:=match fn.io with|some (is,b)=>is.all λi=>Kq b i|none=>bD
abbrev Ra(ck:Ck)(Pg:List Fn):Bool:=ck.fns.all (λg=>Pg.any λfn=>cn (fn.name=g)&&fn.io.isNone)&&ck.KA.all λp=>Pg.any λfn=>cn (fn.name=p.1)&&cn (fn.io.map (·.1)=a5 p.2)
structure Ld(ck:Ck)(K:PySem.W.Frag)(mg:Str->Option df)(fn:Fn):Prop where
 ex:∃(qual:Str) (st:L8) (f:d7) (fd:RZ) (N ps:List Str),Nc K fn.name qual st f fd/\mg fn.name=a5 (.ref f)/\Binds K fd ps []/\eG N ps (aT st)/\N.length=fn.ns/\ps.length=fn.np/\d0 ck fn.bd N (aT st) (c8 st)=bD/\Q_ fn=bD
def BM{Pg:List Fn}(a:(Pg.map (·.name)).Nodup)(h:fn∈Pg):Pg.find? (λg=>cn (g.name=fn.name))=a5 fn:=by
 induction Pg with
 |nil=>cases h
 |cons g Pg b =>
  rw[d8,mh]at a;rcases d3.mp h with rfl|h
  .simp
  .rw[M'];have:cn (g.name=fn.name)=cc:=by
    apply ğ;intro z;show a.1 (z▸Y5 h)
   rw[this];show b a.2 h
def sA(a:(Pg.map (·.name)).Nodup)(h:fn∈Pg):IJ Pg (d+1) fn.name=je (IJ Pg d) fn:=by
 funext us
 change(match Pg.find? λg=>cn (g.name=fn.name) with|some fn=>je (IJ Pg d) fn us|none=>b8)=_;rw[BM a h]
def nu(h:fn.io=b8):je Γ fn=dk Γ fn:=by funext us;unfold je;rw[h]
def vX(h:fn.io=a5 (is,b)):je Γ fn=gG Γ fn is b:=by funext us;unfold je;rw[h]
def ur(O:(Pg.map (·.name)).Nodup)(q:Ra ck Pg=bD)(t:∀x∈bN,mg x=b8)(T:∀p∈ck.gl,∃val v,mg p.1=a5 val/\RelV v val/\∀(C:Ct) S H,Rep C S H p.2 v)
  (ld:∀fn∈Pg,Ld ck K mg fn) (xs:Oq ck K mg):∀d,(∀g∈ck.fns,BB P w K mg base d (IJ Pg d g) g)/\∀p∈ck.KA,BC P w K mg base d (IJ Pg d p.1) p.1 p.2:=by
 simp only[Ra,cb,i6,R_,Ĝ]at q;intro d;induction d with
 |zero =>
  show⟨λg I=>?_,λp J=>?_⟩
  .obtain⟨fn,j,rfl,_⟩:=q.1 g I;obtain⟨a,st,f,l,N,ps,F,m,n,S,B,o,_⟩:=(ld fn j).ex;show⟨fn.np,f,l,ps,⟨λvs H Q E h=>h.1.trans o.symm,λA outer s H args us vs Q E _ _ _ _ h=>by obtain⟨_,us,r,_,e,_⟩:=h;cases e⟩,m,F.kp,n,λus k u e=>(by cases e),λus c e=>by cases e⟩
  .obtain⟨fn,j,e,_⟩:=q.2 p J;obtain⟨a,st,f,l,N,ps,F,m,n,S,B,o,_⟩:=(ld fn j).ex;show⟨fn.np,f,l,ps,⟨λvs H Q E h=>h.1.trans o.symm,λA outer s H args us vs Q E _ _ _ _ h=>by obtain⟨_,us,k,u,_,_,_,e,_⟩:=h;cases e⟩,e▸m,F.kp,n,λus k e=>by cases e⟩
 |succ d G =>
  show⟨λg I=>?_,λp J=>?_⟩
  .have⟨fn,j,rfl,i⟩:=q.1 g I;rw[Rh]at i;obtain⟨a,st,f,l,N,ps,F,m,n,S,B,o,D,_⟩:=(ld fn j).ex;rw[sA O j,nu i];rw[show fn.bd=fn.body by unfold Fn.bd;rw[i]]at D;show⟨fn.np,f,l,ps,Cz F S B o D t G.1 T G.2 xs,m,F.kp,n,λus k u e=>?_,λus c e=>(qw e).1⟩;have⟨h1,h2⟩:=oS e;show⟨?_,h1⟩;rcases h2 with⟨z,_⟩|⟨z,_⟩
   .show z
   .show .inr (.inl z)
  .have⟨fn,j,e,i⟩:=q.2 p J;rw[et]at i;obtain⟨⟨is,b⟩,i,Y⟩:=i;have⟨x,y⟩:=p
   dsimp only at e Y
   subst e Y;have⟨a,st,f,l,N,ps,F,m,n,S,B,o,D,L⟩:=(ld fn j).ex;rw[sA O j,vX i];rw[show fn.bd=b by unfold Fn.bd;rw[i]]at D;unfold Q_ at L;rw[i]at L;show⟨fn.np,f,l,ps,EJ F S B o (i6.mp L) D t G.1 T G.2 xs,m,F.kp,n,λus r e=>(uq e).1⟩
end
abbrev sC(ns:List Int):U:=.lst (ns.map .int)
theorem nv{S:d7->Prop}:∀(ns:List Int),aq C S H (ns.map .int) (ns.map V.int)
 |[]=>rfl
 |n::ns=>⟨_,_,rfl,rfl,nv ns⟩
def sD(h:Jh C.K H a (ns.map V.int)):Rep C (J' H) H (sC ns) (.ref a):=by
 show⟨a,_,rfl,?_,nv ns⟩;rcases h with(h|⟨o,h⟩)|h
 .show .inl ⟨⟨_,h⟩,.inl h⟩
 .show .inl ⟨⟨_,h⟩,.inr ⟨o,h⟩⟩
 .show .inr h
theorem qx:∀{l:List α},(∀a∈l,f a=g a)->l.filterMap f=l.filterMap g
 |[],_=>rfl
 |a::l,h=>by rw[C0,C0,h a (by simp),qx λb c=>h b (by simp[c])]
theorem uu:∀(l:List Str) (us:List df),l.Nodup->us.length=l.length->l.filterMap (λn=>((l.zip us).lookup n).map (n,·))=l.zip us
 |[],_,_,_=>rfl
 |a::l,[],_,h=>nomatch h
 |a::l,u::us,b,h=>by
  rw[mh]at b;have c:=uu l us b.2 (by simpa using h);simp only[Rm,C0,so,beq_self_eq_true,Vo];congr 1
  conv=>rhs;rw[<-c]
  show qx λn d=>?_;have:(n==a)=cc:=by
   rw[ģ];rintro rfl;show b.1 d
  rw[this]
def yI(l:List Str)(us:List df)(h:us.length=l.length):l.filter (λn=>((l.zip us).lookup n).isNone)=[]:=by
 rw[MW];intro n hn;induction l generalizing us with
 |nil=>cases hn
 |cons a l b =>
  cases us with
  |nil=>cases h
  |cons u us =>
   simp only[Rm,so];cases e:n==a with
   |true=>simp
   |false =>
    rcases d3.mp hn with rfl|hn
    .simp at e
    .show b us (by simpa using h) hn
def yJ{kV a b c ct:df}(d:(as.map (·.arg)).Nodup)(hl:us.length=(as.map (·.arg)).length):
  Ď (PySem.W.fnOf x q ⟨[],as,b8,[],[],b8,[]⟩ body scope .none kV a b m c ct) ⟨us,[]⟩=pure ((as.map (·.arg)).zip us):=by
 have e:=uu _ us d hl;have f:=yI _ us hl;change(if _ then _ else _)=_;rw[Ğ (by simp[hl])];have g:∀k:Nat,¬(!(((as.map (·.arg)).take k).filter λn=>(((as.map (·.arg)).zip us).lookup n).isNone).isEmpty)=bD:=λk=>by
  rw[MW.mpr λn h=>MW.mp f n (YO h)];show i1
 show(Ğ (g _)).trans ?_;have hz:∀(l:List Str) (i j:Nat),(l.drop i).zip ((b8.getD #[]:Array df).toList.drop j)=[]:=λl i j=>by rw[show(b8.getD #[]:Array df).toList=[] from rfl,List.drop_nil,List.zip_nil_right]
 show Eq.trans (Ģ (λz=>Bind.bind (í z _ _) _) (hz _ _ _)) ?_;show Ģ (pure:List (Str×df)->Sem (List (Str×df))) ((Ģ (List.filterMap _) (rr _)).trans e)
structure Me where
 fn:Fn
 i:Nat
 N:List Str
 a:d7
 c:d7
 m:df
 cr:Obj
abbrev Me.fd(top:Nat->L8)(m:Me):RZ:=PySem.W.fnOf m.fn.name m.fn.name (gn (top m.i)) (c8 (top m.i)) (aT (top m.i)) .none .none .none m.m b8 (.ref m.c) .none
abbrev Me.fo(top:Nat->L8)(m:Me):Obj:=⟨.type "function",b8,.func (m.fd top),#[]⟩
@[reducible]def Gx:=Obj×List (d7×Obj)
abbrev adr(ms:List Me)(xa:List d7):List d7:=3::(ms.flatMap (λm=>[m.c,m.a])++xa)
abbrev KC(top:Nat->L8)(g:Gx)(ms:List Me):PySem.W.Frag:=(3,g.1)::(ms.flatMap (λm=>[(m.c,m.cr),(m.a,m.fo top)])++g.2)
def uw(top:Nat->L8)(g:Gx)(ms:List Me)(xa:List d7)(h:g.2.map (·.1)=xa):adr ms xa=(KC top g ms).map (·.1):=by
 unfold adr KC;rw[d8,i9,List.map_flatMap,h];rfl
abbrev EK(v:Option (Option df))(a:d7):Bool:=match v with|some (a5 (.ref b))=>cn (b=a)|_=>cc
def BN(h:EK v a=bD):v=a5 (a5 (.ref a)):=by
 unfold EK at h;split at h
 .rw[ġ h]
 .cases h
abbrev nn(o:Option (Option df)):Bool:=match o with|some b8=>bD|_=>cc
def GO(h:nn o=bD):o=a5 b8:=by
 unfold nn at h;split at h
 .rfl
 .cases h
abbrev GP(p:Arguments)(ps:List Str):Bool:=p.posonlyargs.isEmpty&&p.vararg.isNone&&p.kwonlyargs.isEmpty&&p.kw_defaults.isEmpty&&p.kwarg.isNone&&p.defaults.isEmpty&&cn (p.args.map (·.arg)=ps)
abbrev VA(N:List Str)(b:Nat)(a:LY):Bool:=cn (a.kind=.function)&&cn (a.isCoroutine=cc)&&cn (a.isGenerator=cc)&&decide N.Nodup&&(N.take b).all (lr a)&&a.names.all (λy=>cn (y.2≠.free))
abbrev VB(ck:Ck)(top:Nat->L8)(K:PySem.W.Frag)(m:Me):Bool:=PySem.W.codeIn K (.ref m.c) m.fn.name&&PySem.W.keepIn K (.ref m.a)&&EK (PySem.W.nsIn K i5 m.fn.name) m.a&&GP (gn (top m.i)) (m.N.take m.fn.np) &&
 VA m.N m.fn.np (aT (top m.i))&&cn (m.N.length=m.fn.ns)&&cn (m.fn.np<=m.fn.ns)&&(d0 ck m.fn.bd m.N (aT (top m.i)) (c8 (top m.i))&&Q_ m.fn)
abbrev VC(K:PySem.W.Frag)(p:Str×U):Bool:=match p.2,PySem.W.nsIn K i5 p.1 with
 |.int i,a5 (a5 (.int j _))=>cn (i=j)
 |.str i,a5 (a5 (.str j _))=>cn (i=j)
 |_,_=>cc
abbrev Ny(ck:Ck)(top:Nat->L8)(K:PySem.W.Frag)(ms:List Me):Bool:=ms.all (VB ck top K)&&bN.all (λy=>nn (PySem.W.nsIn K i5 y))&&ck.gl.all (VC K)&&cn (K.map (·.1)).Nodup
def GQ{K:PySem.W.Frag}(b:(K.map (·.1)).Nodup)(h:(a,o)∈K):K.lookup a=a5 o:=by
 induction K with
 |nil=>cases h
 |cons p K c =>
  rw[d8,mh]at b;rw[so];rcases d3.mp h with rfl|h
  .simp
  .have:(a==p.1)=cc:=by
    rw[ģ];rintro rfl;show b.1 (js.mpr ⟨_,h,rfl⟩)
   rw[this];show c b.2 h
section
def CA(c:Ny ck top (KC top g ms) ms=bD)(h:m∈ms):Nc (KC top g ms) m.fn.name m.fn.name (top m.i) m.a (m.fd top)/\PySem.W.nsIn (KC top g ms) i5 m.fn.name=a5 (a5 (.ref m.a)) /\
  (∀us:List df,us.length=(m.N.take m.fn.np).length->Ď (m.fd top) ⟨us,[]⟩=pure ((m.N.take m.fn.np).zip us))/\eG m.N (m.N.take m.fn.np) (aT (top m.i))/\m.N.length=m.fn.ns/\(m.N.take m.fn.np).length=m.fn.np/\(d0 ck m.fn.bd m.N (aT (top m.i)) (c8 (top m.i))=bD/\Q_ m.fn=bD):=by
 simp only[Ny,cb,Ĝ]at c;have z:=i6.mp c.1.1.1 m h;simp only[VB,cb,Ĝ]at z;obtain⟨⟨⟨⟨⟨⟨⟨j,k⟩,l⟩,b⟩,d⟩,n⟩,u⟩,o⟩:=z;simp only[VA,cb,Ĝ]at d;obtain⟨⟨⟨⟨⟨s1,s2⟩,s3⟩,s4⟩,p⟩,q⟩:=d;have r:(KC top g ms).lookup m.a=a5 (m.fo top):=GQ c.2 (d3.mpr (.inr (JO _ (List.mem_flatMap.mpr ⟨m,h,by simp⟩))));have hl:(m.N.take m.fn.np).length=m.fn.np:=by rw[vu];lia
 show⟨Ds r j k,BN l,λus f=>?_,⟨s1,s2,s3,s4,by rw[hl],λx s=>?_,λy t=>?_⟩,n,hl,o⟩
 .unfold Me.fd;revert b;cases gn (top m.i) with
  |mk v as w A B kw C =>
   intro b;simp only[GP,cb,Jm,Rh,Ĝ]at b;obtain⟨⟨⟨⟨⟨⟨rfl,rfl⟩,rfl⟩,rfl⟩,rfl⟩,rfl⟩,e⟩:=b;rw[<-e]at f ⊢;show yJ (by rw[e];show(ZQ _ _).nodup s4) f
 .have:=i6.mp p x s;simpa[lr] using this
 .have:=i6.mp q y t;simpa using this
def GR(i:Ny ck top (KC top g ms) ms=bD)(X:(KC top g ms).In h)(G:h.Ns i5 mg)(j:m∈ms):Ld ck (KC top g ms) mg m.fn :=
 let ⟨a,b,c,d,e,f,k⟩:=CA i j
 ⟨_,_,_,_,_,_,a,PySem.W.mg_of X G b,.all c,d,e,f,k⟩
def EL(c:Ny ck top (KC top g ms) ms=bD)(X:(KC top g ms).In h)(G:h.Ns i5 mg):∀p∈ck.gl,∃val v,mg p.1=a5 val/\RelV v val/\∀(C:Ct) S H,Rep C S H p.2 v:=by
 intro p d;simp only[Ny,cb,Ĝ]at c;have z:=i6.mp c.1.2 p d;unfold VC at z;split at z
 .rename_i i j k a b;obtain rfl:=ġ z;show⟨_,.int i,PySem.W.mg_of X G b,⟨_,rfl⟩,λ_ _ _=>by rw[a];rfl⟩
 .rename_i i j k a b;obtain rfl:=ġ z;show⟨_,.str i,PySem.W.mg_of X G b,⟨_,rfl⟩,λ_ _ _=>by rw[a];rfl⟩
 .cases z
end
abbrev yK(K:PySem.W.Frag)(x:Str):Option d7:=match PySem.W.nsIn K i5 x with|some (a5 (.ref C))=>a5 C|_=>b8
abbrev VD(K:PySem.W.Frag)(D:Str):Option df:=match PySem.W.nsIn K i5 D with|some (a5 (.ref C))=>a5 (.ref C)|some b8=>if D="ValueError" then a5 (.type "ValueError") else b8|_=>b8
abbrev gY(ck:Ck)(K:PySem.W.Frag):Bool:=ck.xi.all (λp=>match yK K p.1,VD K p.2.1 with|some C,a5 dv=>fX K C&&(PySem.W.kitOne K (.ref C) dv==a5 p.2.2)|_,_=>cc)&&ck.xe.all λp=>match yK K p.1,yK K p.2 with|some C,a5 D=>PySem.W.exmOne K (.ref C) (.ref D)==a5 bD|_,_=>cc
def jn{K:PySem.W.Frag}(h:yK K x=a5 C):PySem.W.nsIn K i5 x=a5 (a5 (.ref C)):=by
 unfold yK at h;split at h
 .rename_i e;cases h;show e
 .cases h
def GS{K:PySem.W.Frag}(z:gY ck K=bD)(X:K.In h)(G:h.Ns i5 mg)(D:Str)(g:∃p∈ck.xi,p.2.1=D):∃dv,((∃d,dv=.ref d/\mg D=a5 (.ref d))\/(D="ValueError"/\dv=.type "ValueError"/\mg D=b8))/\∀p∈ck.xi,p.2.1=D->∀C,PySem.W.nsIn K i5 p.1=a5 (a5 (.ref C))->fX K C=bD/\PySem.W.kitOne K (.ref C) dv=a5 p.2.2:=by
 rw[gY,cb,i6]at z;have⟨i,j,rfl⟩:=g;have f:=z.1 i j;split at f
 .rename_i n dv o a;show⟨dv,?_,λp k e C l=>?_⟩
  .unfold VD at a;split at a
   .rename_i e;cases a;show .inl ⟨_,rfl,PySem.W.mg_of X G e⟩
   .rename_i e;split at a
    .rename_i c;cases a;show .inr ⟨c,rfl,PySem.W.mg_none_of X G e⟩
    .cases a
   .cases a
  .have b:=z.1 p k;rw[e,a]at b;split at b
   .rename_i q r c m;cases m;have:=jn c;rw[l]at this;cases this;rw[cb,beq_iff_eq]at b;show b
   .cases b
 .cases f
def GU{K:PySem.W.Frag}(z:gY ck K=bD)(X:K.In h)(G:h.Ns i5 mg)(x:Str)(d:∃p∈ck.xe,p.2=x):∃D,mg x=a5 (.ref D)/\∀cl,(cl,x)∈ck.xe->∀C,PySem.W.nsIn K i5 cl=a5 (a5 (.ref C))->PySem.W.exmOne K (.ref C) (.ref D)=a5 bD:=by
 rw[gY,cb,i6,i6]at z;have⟨e,f,rfl⟩:=d;have b:=z.2 e f;split at b
 .rename_i l D m c;show⟨D,PySem.W.mg_of X G (jn c),λcl g C i=>?_⟩;have a:=z.2 _ g
  dsimp only at a
  rw[c]at a;split at a
  .rename_i n o j k;cases k;have:=jn j;rw[i]at this;cases this;show beq_iff_eq.mp a
  .cases a
 .cases b
abbrev gX(ck:Ck)(K:PySem.W.Frag):Bool:=ck.xc.all (λx=>match PySem.W.nsIn K i5 x with|some (a5 (.ref C))=>PySem.W.excIn K C OT "ValueError.__new__"|_=>cc)&&ck.xd.all λp=>match PySem.W.nsIn K i5 p.1,PySem.W.nsIn K i5 p.2 with
 |some (a5 (.ref C)),a5 (a5 (.ref D))=>(PySem.W.exmOne K (.ref C) (.ref C)==a5 bD)&&(PySem.W.kitCls K (.ref C) (.ref D)==a5 bD&&C != D)
 |_,_=>cc
def EM{K:PySem.W.Frag}(z:(gX ck K&&gY ck K)=bD)(X:K.In h)(G:h.Ns i5 mg):Oq ck K mg:=by
 rw[cb]at z;have⟨z,a⟩:=z;rw[gX,cb,i6,i6]at z;show⟨λx c=>?_,λp d=>?_,GS a X G,GU a X G⟩
 .have:=z.1 x c;split at this
  .rename_i e;show⟨_,PySem.W.mg_of X G e,e,this⟩
  .cases this
 .have:=z.2 p d;split at this
  .rename_i b f;rw[cb,beq_iff_eq]at this;show⟨_,_,PySem.W.mg_of X G b,b,PySem.W.mg_of X G f,this.1,this.2⟩
  .cases this
def walk{l:PySem.W.OpenLaw}{K:Vy->PySem.W.Frag}
  (A:l.most=a5 63) (B:d.params.defaults=[]) (D:fq (dp+1) Ts) (I:∀(w:DD) (h:Jl),J w h->(K w.params).In h)
  (j:(Pg.map (·.name)).Nodup) (r:Ra ck Pg=bD) (L:fn.io=b8) (O:fn∈Pg) (Ms:fn.name=d.name)
  (F:∀(w:DD) (mg:Str->Option df) (fa:d7) (h:Jl),(K w.params).In h->h.Ns i5 mg->mg d.name=a5 (.ref fa) ->
   (∀y∈bN,mg y=b8)/\(∀p∈ck.gl,∃val v,mg p.1=a5 val/\RelV v val/\∀(C:Ct) S H,Rep C S H p.2 v)/\(∀g∈Pg,Ld ck (K w.params) mg g)/\Oq ck (K w.params) mg /\
   ∃(c:Str) (st:L8) (i:RZ) (N:List Str),Nc (K w.params) fn.name c st fa i/\eG N [x] (aT st)/\N.length=fn.ns/\1=fn.np/\d0 ck fn.body N (aT st) (c8 st)=bD/\∀(s:d4) (u:df),ZK s i ⟨[u],[]⟩ [(x,u)])
  (T:∀ns:List Int,ns.length<=63->IJ Pg (dp+1) fn.name [sC ns]=a5 (.ok (.loc,.bl bD))) :
  PySem.W.WalkO q m XP J l.row.toRowW d [] (λf vs=>PySem.call f vs) :=
 L2.As (n:=63) (k:=dp+1) (x:=x) (CX:=λw=>Nk l.prog w) (sp:=λw=>spT l.prog w (K w.params) (dk (IJ Pg dp) fn) fn.np) A (by decide) B D I
  (λw mg fa h Q G Y=>by
   have⟨e,o,ld,xs,c,st,i,N,F1,S,hN,K7,hc,hb⟩:=F w mg fa h Q G Y;show⟨i,hb,λbase _ _=>Cz F1 S hN K7 hc e (ur j r e o ld xs dp).1 o (ur j r e o ld xs dp).2 xs⟩)
  (λw H a ns hl _ hS=>by
   have t:=T ns hl;rw[sA j O,nu L]at t;have Ym:fn.np=1:=(oS t).1.symm;show⟨Ym.symm,[sC ns],.ok (.loc,.bl bD),J' H,t,λ_ z=>z,⟨_,_,rfl,sD hS,rfl⟩,.inr (.inl rfl),λv H' S' b=>b.loc rfl⟩)
  λ_ _ _ _ _ ⟨_,_,_,_,_,_,z⟩=>z
def walk2{l:PySem.W.OpenLaw}{g:Vy->Gx}
  (z:l.most=a5 63) (A:d.params.defaults=[]) (B:fq (dp+1) Ts) (o:ms.map (·.fn)=Pg) (C:(Pg.map (·.name)).Nodup) (D:Ra ck Pg=bD) (p:m.fn.io=b8) (r:m∈ms) (t:m.fn.name=d.name) (H:m.N.take m.fn.np=[x])
  (ok:∀P,Ny ck top (KC top (g P) ms) ms=bD) (I:∀P,(gX ck (KC top (g P) ms)&&gY ck (KC top (g P) ms))=bD) (J:∀P,(g P).2.map (·.1)=xa) (T:∀ns:List Int,ns.length<=63->IJ Pg (dp+1) m.fn.name [sC ns]=a5 (.ok (.loc,.bl bD))) :
  PySem.W.WalkO q j O (PySem.W.kHook (λP=>KC top (g P) ms) (adr ms xa) λP=>uw top (g P) ms xa (J P)).says l.row.toRowW d [] (λf vs=>PySem.call f vs) :=
 walk z A B (λw h Y=>PySem.W.kIn_of Y) C D p (o▸js.mpr ⟨m,r,rfl⟩) t (λw mg fa h X G v=>by
  have hk:=ok w.params;have⟨a,b,c,e,f,k,n⟩:=CA hk r;rw[<-t,PySem.W.mg_of X G b]at v;cases v;rw[H]at c e k;show⟨λy i=>PySem.W.mg_none_of X G (GO ?_),EL hk X G,λy i=>?_,EM (I w.params) X G,_,_,_,_,a,e,f,k,by have:=n.1;rw[show m.fn.bd=m.fn.body by unfold Fn.bd;rw[p]]at this;show this,λs u=>.of_eq (c [u] rfl)⟩
  .simp only[Ny,cb]at hk;show i6.mp hk.1.1.2 y i
  .rw[<-o]at i;have⟨Q,L,rfl⟩:=js.mp i;show GR hk X G L) T
abbrev co(n:Str)(k l c:Nat)(r s:d7)(x y z:df)(a b t:Nat):Obj:=⟨.type "code",b8,.fields #[.str n k,.str n (k+1),.str "/claim/cut.py" (k+2),.int l 0,.int c 0,.int 0 0,.int 0 0,.int 3 0,.ref r,.bool bD,.int t 0,.ref s,.none,x,y,z,.int a 0,.int l 0,.str "/claim/cut.py" b],#[]⟩
abbrev ge(P:Vy)(x:Str)(k:Nat)(v:df):DictEntry:=⟨hW P x,.str x k,v⟩
end TM
namespace TM
open PySem L2
section
abbrev Run(m:M α)(st:aw)(a:α)(st':aw):Prop:=m st=a5 (.ok a,st')
def aa(c:Run m st a st1)(d:Run (f a) st1 b st2):Run (m >>= f) st b st2:=by
 change M.bind m f st=_;unfold M.bind;rw[show m st=_ from c];show d
def aK:Run (pure a:M α) st a st:=rfl
def cz(h:o=a5 a):Run (M.IM o) st a st:=by subst h;rfl
def aS(h:aW rs st):Run (az rs) st () st:=by change az rs st=_;unfold az;rw[ĝ h]
abbrev kv(i:Nat)(k:Kd):Kd:=if k.root=bD then .bor i else k
def dG(h:st[i]?=a5 (a5 (k,u)))(hk:k≠.Iw:=by intro z;cases z):Run (dg i) st (kv i k,u) st:=by
 change dg i st=_;unfold dg;rw[h];cases k<;>first|rfl|show absurd rfl hk
def af(h:st[i]?=a5 (a5 (.loc,u))):Run (ev Γ (.var i)) st (.loc,u) st:=dG h
def ba(h:st[i]?=a5 (a5 (.any,u))):Run (ev Γ (.var i)) st (.any,u) st:=dG h
def aC(h:st[i]?=a5 (a5 (.own,u))):Run (ev Γ (.var i)) st (.bor i,u) st:=dG h
def ai:Run (ev Γ (.cst u)) st (.loc,u) st:=rfl
def bE(c:Run (ev Γ a) st x st1)(d:Run (ev Γ b) st1 y st2)(e:aW [x,y] st2)(f:LA g x y=a5 r):Run (ev Γ (.bin g a b)) st r st2 :=
 aa c (aa d (aa (aS e) (cz f)))
def jK(d:Run (ev Γ a) st x st1)(e:Run (ev Γ b) st1 y st2)(f:aW [x,y] st2)(g:bK h x.2 y.2=a5 c):Run (ev Γ (.cmp h a b)) st (.loc,.bl c) st2 :=
 aa d (aa e (aa (aS f) (aa (cz g) aK)))
def br(c:Run (ev Γ a) st x st1)(d:Run (ev Γ b) st1 y st2)(e:aW [x,y] st2)(f:gE x y.2=a5 r):Run (ev Γ (.idx a b)) st r st2 :=
 aa c (aa d (aa (aS e) (cz f)))
def uA:Run (N9 Γ []) st b8 st:=rfl
def ny(h:Run (ev Γ e) st (k,.int i) st1):Run (N9 Γ [e]) st (a5 i) st1:=aa h rfl
def qy(c:Run (ev Γ a) st x st1)(d:Run (N9 Γ lo) st1 l st2)(e:Run (N9 Γ f) st2 h b)(g:aW [x] b)(i:qc x l h=a5 r):Run (ev Γ (.MH a lo f)) st r b :=
 aa c (aa d (aa e (aa (aS g) (cz i))))
def aj:Run (bb Γ []) st [] st:=rfl
def ae(a:Run (ev Γ e) st r st1)(b:Run (bb Γ es) st1 rs st2):Run (bb Γ (e::es)) st (r::rs) st2:=aa a (aa b aK)
def cv(a:Run (bb Γ es) st rs st1)(b:aW rs st1)(c:Kp f rs=a5 r):Run (ev Γ (.bi f es)) st r st1:=aa a (aa (aS b) (cz c))
def CB(a:Run (bb Γ es) st rs st1)(b:aW rs st1)(c:rN f rs=a5 r):Run (ev Γ (.MY f es)) st r st1:=aa a (aa (aS b) (cz c))
def yL(b:Run (ev Γ a) st x st1)(c:Run (bb Γ es) st1 rs st2)(d:aW (x::rs) st2)(e:mr m x.2 rs=a5 r):Run (ev Γ (.Np m a es)) st r st2:=aa b (aa c (aa (aS d) (cz e)))
def uB(h:Γ f us=a5 (.ok r))(a:isAny r.1=cc):Run (k9 Γ f us) st r st:=by
 have⟨k,u⟩:=r;change k9 Γ f us st=_;unfold k9;rw[h];cases k<;>first|rfl|cases a
def bJ(a:Run (bb Γ es) st rs st1)(b:aW rs st1)(c:Γ f (rs.map (·.2))=a5 (.ok r))(d:isAny r.1=cc:=by show rfl):Run (ev Γ (.call f es)) st r st1:=aa a (aa (aS b) (uB c d))
def gR(a:Run (bb Γ es) st rs st1)(b:aW rs st1)(c:Run (da rs) st1 us st2)(d:us.length<=cK):Run (ev Γ (.tup es)) st (.loc,.tup us) st2:=by
 show aa a (aa (aS b) (aa c ?_));rw[ĝ d];show aK
def cm(a:Run (bb Γ es) st rs st1)(b:aW rs st1)(c:Run (da rs) st1 us st2)(d:us.length<=cK):Run (ev Γ (.lst es)) st (.own,.lst us) st2:=by
 show aa a (aa (aS b) (aa c ?_));rw[ĝ d];show aK
def lD:Run (ev Γ (.Kh r)) st (.own,.IA [] []) st:=rfl
def yM:Run (lift (.own,u)) st u st:=rfl
def aJ:Run (lift (.loc,u)) st u st:=rfl
def qz(h:I0 u=bD):Run (lift (.any,u)) st u st:=by
 change(if I0 u=bD then(pure u:M U) else M.fail) st=_;rw[ĝ h];rfl
def aI:Run (da []) st [] st:=rfl
def aD(a:Run (lift r) st u st1)(b:Run (da rs) st1 us st2):Run (da (r::rs)) st (u::us) st2:=aa a (aa b aK)
def sE(d:Run (IX Γ c) st bD st1)(e:Run (ev Γ a) st1 r st2):Run (ev Γ (.ite c a b)) st r st2:=aa d e
def sF(d:Run (IX Γ c) st cc st1)(e:Run (ev Γ b) st1 r st2):Run (ev Γ (.ite c a b)) st r st2:=aa d e
def EN(h:Run (ev Γ e) st r st1):Run (iK Γ [e]) st r st1:=h
def EO(h:Run (ev Γ e) st (k,.bl p) st1)(a:if p=bD then Run (iK Γ (b::es)) st1 r st2 else st2=st1/\r=(.loc,.bl cc)):Run (iK Γ (e::b::es)) st r st2:=by
 show aa h ?_;cases p with
 |true=>show a
 |false=>have⟨rfl,rfl⟩:=a;show aK
def GV(h:Run (iK Γ es) st r st1):Run (ev Γ (.and es)) st r st1:=h
def aG(d:Run (ev Γ a) st x st1)(e:Run (ev Γ b) st1 y st2)(f:aW [x,y] st2)(g:bK h x.2 y.2=a5 c):Run (IX Γ (.cmp h a b)) st c st2:=aa d (aa e (aa (aS f) (cz g)))
def nz(h:Run (IX Γ a) st c st1):Run (IX Γ (.not a)) st (!c) st1:=aa h aK
def d9(h:Run (bc Γ es) st c st1):Run (IX Γ (.and es)) st c st1:=h
def ER(h:Run (jD Γ es) st c st1):Run (IX Γ (.or es)) st c st1:=h
def lE:Run (bc Γ []) st bD st:=rfl
def cw(h:Run (IX Γ e) st c st1):Run (bc Γ [e]) st c st1:=h
def fD(h:Run (IX Γ e) st bD st1)(a:Run (bc Γ (b::es)) st1 c st2):Run (bc Γ (e::b::es)) st c st2:=aa h a
def lF(h:Run (IX Γ e) st cc st1):Run (bc Γ (e::a::es)) st cc st1:=aa h aK
def yN(h:Run (IX Γ e) st c st1):Run (jD Γ [e]) st c st1:=h
def yO(h:Run (IX Γ e) st cc st1)(a:Run (jD Γ (b::es)) st1 c st2):Run (jD Γ (e::b::es)) st c st2:=aa h a
def a9:Run (eT i (.own,u)) st () (st.set i (a5 (.own,u))):=rfl
def aH:Run (eT i (.loc,u)) st () (st.set i (a5 (.loc,u))):=rfl
def jL:Run (eT i (.any,u)) st () (st.set i (a5 (.any,u))):=rfl
def GW(a:Run (ev Γ e) st r st1)(b:Run (eT i r) st1 () st2):Run (exec Γ (.set i e)) st .nx st2:=aa a (aa b aK)
def GX(b:∃k' us',st[i]?=a5 (a5 (k',.lst us'))/\k'≠.Iw)(c:Run (ev Γ e) st r st1)(d:Run (lift r) st1 u st2)(f:st2[i]?=a5 (a5 (k,.lst us)))(hk:k.root=bD)(hl:us.length<cK):
  Run (exec Γ (.app i e)) st .nx (st2.set i (a5 (k,.lst (us++[u])))):=by
 have⟨k',us',b,g⟩:=b;show aa (dG b g) (aa (a:=()) (st1:=st) rfl (aa c (aa d (aa (a:=()) ?_ aK))));change modS i (xV u) st2=_;unfold modS;rw[f];simp only[hk,if_true];have e:xV u (.lst us)=a5 (.lst (us++[u])):=by change(if us.length<cK then _ else _)=_;rw[ĝ hl]
 rw[e]
def GY(a:Run (ev Γ e) st r st1)(b:Run (retS r) st1 f st2):Run (exec Γ (.ret e)) st f st2:=aa a b
def jM:Run (retS (.own,u)) st (.rt .own u) st:=rfl
def dH:Run (retS (.loc,u)) st (.rt .loc u) st:=rfl
def jN(h:st[j]?=a5 (a5 (.own,u))):Run (retS (.bor j,a)) st (.rt .own u) (st.set j b8):=by
 change(match st[j]? with|some (a5 (.own,u))=>a5 (Ex.ok (Fl.rt .own u),st.set j b8)|_=>b8)=_;rw[h]
def jo(d:Run (IX Γ c) st bD st1)(e:Run (execs Γ a) st1 f st2):Run (exec Γ (.ite c a b)) st f st2:=aa d e
def lG(d:Run (IX Γ c) st cc st1)(e:Run (execs Γ b) st1 f st2):Run (exec Γ (.ite c a b)) st f st2:=aa d e
def av:Run (execs Γ []) st .nx st:=rfl
def fE(a:Run (exec Γ s) st .nx st1)(b:Run (execs Γ ss) st1 f st2):Run (execs Γ (s::ss)) st f st2:=aa a b
def oU(a:Run (exec Γ s) st (.rt k u) st1):Run (execs Γ (s::ss)) st (.rt k u) st1:=aa a aK
def ax(a:Run (ev Γ e) st r st1)(b:Run (eT i r) st1 () st2)(c:Run (execs Γ ss) st2 f d):Run (execs Γ (.set i e::ss)) st f d:=fE (GW a b) c
def gc(a:st[i]?=a5 (a5 (k',.lst us')))(b:Run (ev Γ e) st r st1)(c:Run (lift r) st1 u st2)(d:st2[i]?=a5 (a5 (k,.lst us)))(hk:k.root=bD)(hl:us.length<cK)
  (g:Run (execs Γ ss) (st2.set i (a5 (k,.lst (us++[u])))) f h) (j:k'≠.Iw:=by intro z;cases z):Run (execs Γ (.app i e::ss)) st f h:=fE (GX ⟨_,_,a,j⟩ b c d hk hl) g
def bO(a:Run (ev Γ e) st r st1)(b:Run (retS r) st1 (.rt k u) st2):Run (execs Γ (.ret e::ss)) st (.rt k u) st2:=oU (GY a b)
def du(d:Run (IX Γ c) st bD st1)(e:Run (execs Γ a) st1 .nx st2)(g:Run (execs Γ ss) st2 f h):Run (execs Γ (.ite c a b::ss)) st f h:=fE (jo d e) g
def bf(d:Run (IX Γ c) st cc st1)(e:Run (execs Γ b) st1 .nx st2)(g:Run (execs Γ ss) st2 f h):Run (execs Γ (.ite c a b::ss)) st f h:=fE (lG d e) g
def jq(d:Run (IX Γ c) st bD st1)(e:Run (execs Γ a) st1 (.rt k u) st2):Run (execs Γ (.ite c a b::ss)) st (.rt k u) st2:=oU (jo d e)
def CC(a:Run (bb Γ src) st rs st1)(b:aW rs st1)(c:Ky d rs=a5 xs)(e:tX rs is body=bD)(g:Run (forM t is (execs Γ body) rs xs) st1 f st2):
  Run (exec Γ (.IU t is d src body)) st f st2:=by
 show aa a (aa (aS b) (aa (cz c) ?_));rw[ĝ e];show g
def c6(a:Run (bb Γ src) st rs st1)(b:aW rs st1)(c:Ky d rs=a5 xs)(e:tX rs is body=bD)(g:Run (forM t is (execs Γ body) rs xs) st1 .nx st2)(h:Run (execs Γ ss) st2 f i):
  Run (execs Γ (.IU t is d src body::ss)) st f i:=fE (CC a b c e g) h
def CD(h:aW rs st):Run (forM t is body rs []) st .nx st:=aa (aS h) aK
def GZ(h:aW rs st)(a:Run (dN t is x) st () st1)(b:Run body st1 .nx st2)(c:Run (forM t is body rs xs) st2 f d):Run (forM t is body rs (x::xs)) st f d:=aa (aS h) (aa a (aa b c))
def Im(h:aW rs st)(a:Run (dN t is x) st () st1)(b:Run body st1 (.rt k u) st2):Run (forM t is body rs (x::xs)) st (.rt k u) st2:=aa (aS h) (aa a (aa b aK))
def fF(h:Run (eT i r) st () st1):Run (dN cc [i] r) st () st1:=h
def bu(a:us.length=fn.np)(hk:k=.own\/k=.loc)(hs:start us fn.ns=st0)(h:Run (execs Γ fn.body) st0 (.rt k u) st):dk Γ fn us=a5 (.ok (k,u)):=by
 subst hs;unfold dk;rw[ĝ a,show execs Γ fn.body (start us fn.ns)=_ from h];rcases hk with rfl|rfl<;>rfl
def qA{cond:M Bool}(h:aW src st):Run (cj k t cond elt src [] acc) st acc st:=aa (aS h) aK
def lH{cond:M Bool}(h:aW src st)(c:Run (dN t (eH k) x) (i3 k b8++st) () s1)(d:Run cond s1 bD s2)(e:Run elt s2 r s3)(g:Run (lift r) s3 u s4)
  (hl:acc.length<cK) (i:Run (cj k t cond elt src xs (acc++[u])) (s4.drop k) us st2):Run (cj k t cond elt src (x::xs) acc) st us st2:=by
 show aa (aS h) (aa (a:=a5 u) (st1:=s4.drop k) ?_ ?_)
 .change inScope k _ st=_;unfold inScope;have j:Run (dN t (eH k) x >>= λ_=>cond >>= λb=>if b=bD then(elt >>= λr=>lift r >>= λu=>pure (a5 u)) else pure b8) (i3 k b8++st) (a5 u) s4 :=
   aa c (aa d (show Run (elt >>= λr=>lift r >>= λu=>pure (a5 u)) s2 (a5 u) s4 from aa e (aa (f:=λu=>pure (a5 u)) g rfl)))
  rw[show _=_ from j]
 .change Run (if acc.length<cK then cj k t cond elt src xs (acc++[u]) else M.fail) _ _ _;rw[ĝ hl];show i
def sG{cond:M Bool}(h:aW src st)(c:Run (dN t (eH k) x) (i3 k b8++st) () s1)(d:Run cond s1 cc s2)
  (e:Run (cj k t cond elt src xs acc) (s2.drop k) us st2):Run (cj k t cond elt src (x::xs) acc) st us st2:=by
 show aa (aS h) (aa (a:=b8) (st1:=s2.drop k) ?_ e);change inScope k _ st=_;unfold inScope;have f:Run (dN t (eH k) x >>= λ_=>cond >>= λb=>if b=bD then(elt >>= λr=>lift r >>= λu=>pure (a5 u)) else pure b8) (i3 k b8++st) b8 s2 :=
  aa c (aa d (show Run (pure b8:M (Option U)) s2 b8 s2 from rfl))
 rw[show _=_ from f]
def dC{src cond:List E}(a:Run (bb Γ src) st rs st1)(b:aW rs st1)(c:Ky d rs=a5 xs)(f:Run (cj k t (bc Γ cond) (ev Γ e) rs xs []) st1 us st2):Run (ev Γ (.comp k t d src cond e)) st (.own,.lst us) st2 :=
 aa a (aa (aS b) (aa (cz c) (aa f aK)))
end
section
def sH(c:Run (bb Γ es) st rs st1)(d:aW (rs.map (eD st1)) st1)(e:Γ f ((rs.map (eD st1)).map (·.2))=a5 (.ok (k,.tup (u::ws))))(hk:k=.own\/k=.loc)(a:qf (rs.map (eD st1)) is=bD)(b:gP (rs.map (eD st1)) is ws st1=a5 st2):
  Run (ev Γ (.Iy f es is)) st (k,u) st2:=by
 have g:Run (bb Γ es >>= AO) st (rs.map (eD st1)) st1:=aa c (show Run (AO rs) st1 (rs.map (eD st1)) st1 from rfl);show aa g (aa (aS d) ?_);change qg Γ f _ is st1=_;unfold qg;rw[e];rcases hk with rfl|rfl
 .change(if _ then _ else _)=_;rw[ĝ a,b]
 .change(if _ then _ else _)=_;rw[ĝ a,b]
def G0(h:st[i]?=a5 (a5 (k,.lst us)))(hk:k.root=bD)(a:us[us.length - 1]?=a5 u):Run (ev Γ (.pop i)) st (.loc,u) (st.set i (a5 (k,.lst us.dropLast))):=by
 change xS i st=_;unfold xS;rw[h];change(if _ then _ else _)=_;rw[ĝ hk,a]
def yP(b:st[i]?=a5 (a5 (k0,.lst us0)))(c:k0≠.Iw)(d:Run (ev Γ e) st (l,.int j) st1)(h:st1[i]?=a5 (a5 (k,.lst us)))(hk:k.root=bD)(j0:0<=j)(f:j<1000000)(g:us[j.toNat]?=a5 u):Run (ev Γ (.Kx i e)) st (.loc,u) (st1.set i (a5 (k,.lst (us.eraseIdx j.toNat)))):=by
 show aa (dG b c) (aa (a:=()) (st1:=st) rfl (aa d ?_));change vG i (.int j) st1=_;unfold vG
 dsimp only
 rw[h];change(if _ then _ else _)=_;rw[ĝ ⟨hk,j0,f⟩,g]
def cp(a:us.length=fn.np)(hs:cS is us fn.ns=st0)(h:Run (execs Γ body) st0 f st)(b:QU f=a5 (k,u))(c:N_ is st=a5 ws):gG Γ fn is body us=a5 (.ok (k,.tup (u::ws))):=by
 subst hs;unfold gG;rw[ĝ a,show execs Γ body (cS is us fn.ns)=_ from h];change(QU f).bind _=_;rw[b];change(N_ is st).map _=_;rw[c];rfl
end
abbrev IY(Pg:List Fn)(f:Str)(fn:Fn):Prop:=(Pg.find? λg=>cn (g.name=f))=a5 fn
section
def aN(h:IY Pg f fn)(us:List U)(a:fn.io=b8:=by rfl):IJ Pg (d+1) f us=dk (IJ Pg d) fn us:=by
 change(match Pg.find? λg=>cn (g.name=f) with|some fn=>je (IJ Pg d) fn us|none=>b8)=_;rw[show _=a5 fn from h];change je _ _ _=_;unfold je;rw[a]
def cI(h:IY Pg f fn)(us:List U)(a:fn.io=a5 (is,b)):IJ Pg (d+1) f us=gG (IJ Pg d) fn is b us:=by
 change(match Pg.find? λg=>cn (g.name=f) with|some fn=>je (IJ Pg d) fn us|none=>b8)=_;rw[show _=a5 fn from h];change je _ _ _=_;unfold je;rw[a]
end
def eM(h:0<j):LA .mod (k,.int i) (k',.int j)=a5 (.loc,.int (i % j)):=by change(AK i j).map _=_;rw[AK,ĝ h];rfl
def lI(h:0<j/\j<1073741824):LA .N5 (k,.int i) (k',.int j)=a5 (.loc,.int (i / j)):=by change(AJ i j).map _=_;rw[AJ,ĝ h];rfl
def kD(h:(-(2 ^ 64)<i/\i<2 ^ 64)\/(-(2 ^ 64)<j/\j<2 ^ 64)):LA .mul (k,.int i) (k',.int j)=a5 (.loc,.int (i * j)):=by change(AI i j).map _=_;rw[AI,ĝ h];rfl
def nW(h:0<=j/\j<=1000000/\i.natAbs<2 ^ 64):LA .pow (k,.int i) (k',.int j)=a5 (.loc,.int (i ^ j.toNat)):=by change(AL i j).map _=_;rw[AL,ĝ h];rfl
def cu:LA .add (k,.int i) (k',.int j)=a5 (.loc,.int (i+j)):=rfl
def cy(h:JD xs i=a5 u):gE (k,.lst xs) (.int i)=a5 (kE k,u):=by change(JD xs i).map _=_;rw[h];rfl
def n_(h:JD xs i=a5 u):gE (k,.tup xs) (.int i)=a5 (kE k,u):=by change(JD xs i).map _=_;rw[h];rfl
local macro_rules
 |`(tactic| sizeOf_list_dec)=>`(tactic| first|exact av|apply ax|apply gc|apply bO|exact ai|exact af rfl|exact ba rfl|exact aC rfl|apply bE|apply jK|apply br|apply cv|apply bJ|apply yL|apply aG|exact aj|apply ae|apply gR|apply cm|exact aI|apply aD|exact aJ|exact yM|(first|exact trivial|exact⟨⟨_,rfl,rfl⟩,trivial⟩|exact⟨⟨_,rfl,rfl⟩,⟨_,rfl,rfl⟩,trivial⟩)|exact cu|exact ra|exact eM (by first|lia|decide)|exact lI (by first|lia|decide)|exact kD (by first|lia|decide)|exact nW (by decide)|exact aH|exact a9|exact jL|exact dH|exact jM|exact jN rfl|exact i7 _|exact rfl|exact M4)
def G1(h:cn (i<j)=c):bK .lt (.int i) (.int j)=a5 c:=by subst h;rfl
def fK(h:cn (j<i)=c):bK .gt (.int i) (.int j)=a5 c:=by subst h;rfl
def bp(h:(i==j)=c):bK .eq (.int i) (.int j)=a5 c:=by subst h;rfl
def bY:Kp .len [(k,.lst xs)]=a5 (.loc,.int (xs.length:Nat)):=rfl
def kg:Kp .len [(k,.tup xs)]=a5 (.loc,.int (xs.length:Nat)):=rfl
def yQ(x:Kd×U):Ky .Js [x]=xQ x:=rfl
def eU(h:n<2 ^ 62):Ky .Js [(k,.int (n:Nat))]=a5 ((eH n).map λi:Nat=>(Kd.loc,U.int (0+(i:Int)))):=by
 rw[yQ,xQ,ĝ ⋯,PY]
end TM
local macro_rules
 |`(tactic| sizeOf_list_dec)=>`(tactic| first|exact TM.av|apply TM.ax|apply TM.gc|apply TM.bO|exact TM.ai|exact TM.af rfl|exact TM.ba rfl|exact TM.aC rfl|apply TM.bE|apply TM.jK|apply TM.br|apply TM.cv|apply TM.bJ|apply TM.yL|apply TM.aG|exact TM.aj|apply TM.ae|apply TM.gR|apply TM.cm|exact TM.aI|apply TM.aD|exact TM.aJ|exact TM.yM|(first|exact trivial|exact⟨⟨_,rfl,rfl⟩,trivial⟩|exact⟨⟨_,rfl,rfl⟩,⟨_,rfl,rfl⟩,trivial⟩)|exact TM.cu|exact TM.ra|exact TM.eM (by first|lia|decide)|exact TM.lI (by first|lia|decide)|exact TM.kD (by first|lia|decide)|exact TM.nW (by decide)|exact TM.aH|exact TM.a9|exact TM.jL|exact TM.dH|exact TM.jM|exact TM.jN rfl|exact i7 _|exact rfl|exact TM.M4)
namespace Jc
open PySem L2
def len_list(x:Str):x.length=x.cps.toList.length:=by simp[ĕ]
def vY(a:0<=k)(b:k<=99):(wZ k).length<=2:=by
 have⟨m,rfl⟩:=vr a;have c:m<100:=by lia
 clear a b;revert m;decide +kernel
theorem fL:∀(ps:List Str) (acc:Array Nat),(ps.foldl (λacc p=>acc++td.cps++p.cps) acc).toList=acc.toList++(ps.map λp=>p.cps.toList).flatten
 |[],acc=>by simp
 |p::ps,acc=>by
  rw[Sx,fL ps];have:td.cps=#[]:=rfl;simp[this]
def join_list(ts:List Str):(Tu td ts).cps.toList=(ts.map λp=>p.cps.toList).flatten:=by
 cases ts with
 |nil=>rfl
 |cons t ts =>
  change(ts.foldl (λacc p=>acc++td.cps++p.cps) t.cps).toList=_;rw[fL];simp
abbrev one(c:Nat):Str:=⟨#[c]⟩
def join_ones(a:List Nat):(Tu td (a.map one)).cps.toList=a:=by
 rw[join_list,ke];induction a with
 |nil=>rfl
 |cons c a b=>rw[d8,U1,b];rfl
def qB(a:List Nat)(h:a.length<=100):Ò td (a.map one)=bD:=by
 unfold Ò;have e:=PySem.StrLaws.joinTotal td (a.map one);have b:td.length=0:=rfl;have es:((a.map one).map (·.length)).sum=a.length:=by
  rw[ke];clear h e;induction a with
  |nil=>rfl
  |cons c a d=>rw[d8,List.sum_cons,d];change 1+a.length=a.length+1;lia
 rw[e,b,es];have f:a.length+(a.map one).length * 0<=100:=by lia
 revert f;generalize a.length+(a.map one).length * 0=m;revert m;decide
def ES(x:Str)(j:Nat):(PySem.StrLaws.sliceText x b8 (a5 (j:Int))).cps.toList=x.cps.toList.take j:=by
 by_cases h:j<=x.cps.toList.length
 .rw[PySem.StrLaws.sliceText_to (x:=x) ⟨⋯,⋯⟩];simp
 .have e:PySem.StrLaws.sliceText x b8 (a5 (j:Int))=PySem.StrLaws.sliceText x b8 (a5 (x.length:Int)):=by
   unfold PySem.StrLaws.sliceText;have hl:=len_list x;have:PySem.Builtin.Str.strSliceIndices b8 (a5 (j:Int)) 1 x.length=PySem.Builtin.Str.strSliceIndices b8 (a5 (x.length:Int)) 1 x.length:=by
    have a:¬((j:Int)<0):=by lia
    have b:¬((x.length:Int)<0):=by lia
    have c:min (j:Int) (x.length:Int)=x.length:=by lia
    simp[PySem.Builtin.Str.strSliceIndices,a,b,c]
   rw[this]
  have hl:=len_list x;rw[e,PySem.StrLaws.sliceText_to (x:=x) ⟨⋯,⋯⟩,List.drop_zero,MS (l:=x.cps.toList) (i:=j) ⋯];change(x.cps.toList.take ((x.length:Int) - 0).toNat).toArray.toList=_;rw[MS ⋯]
abbrev small:Str:="abcdefghijklmnopqrstuvwxyz"
theorem d_ [DecidableEq α]:∀{l m:List α},l.Nodup->(∀x∈l,x∈m)->l.length<=m.length
 |[],_,_,_=>i7 _
 |x::l,m,c,h=>by
  have⟨d,e⟩:=mh.mp c;have a:=h x mu;have f:=d_ (l:=l) (m:=m.erase x) e λy b=>(YQ (by rintro rfl;show d b)).mpr (h y (kr _ b));rw[XG a]at f;have:0<m.length:=Yp a;rw[i0];lia
end Jc
namespace TM
open PySem L2 Jc
def oa(a:x.length<=cK)(h:JD x.cps.toList i=a5 c):gE (k,.str x) (.int i)=a5 (.loc,.str (Jc.one c)):=by
 simp only[gE];rw[ĝ a,h];rfl
def qC:small.length<=cK:=by decide
theorem dQ:∀(ss:List Str),strsOf (ss.map U.str)=a5 ss
 |[]=>rfl
 |s::ss=>by change(strsOf (ss.map U.str)).map (s::·)=_;rw[dQ ss];rfl
section
def oV(h:x.length+y.length<=cK):LA .add (k,.str x) (k',.str y)=a5 (.loc,.str (x++y)):=by
 simp only[LA,xN];rw[ĝ h]
theorem gA:∀(ss:List Str) (n:Nat),eS n (ss.map U.str)=bD
 |[],n=>by simp[eS]
 |s::ss,n=>by simp only[d8,eS,gA ss n,Ù];cases n<;>rfl
theorem qD(x:Str):∀(ss:List Str),((ss.map U.str).any λy=>cO y (.str x))=cn (x∈ss)
 |[]=>by simp
 |s::ss=>by
  rw[d8,Ul,qD x ss];have:cO (.str s) (.str x)=cn (x=s):=by
   simp only[cO];by_cases h:x=s
   .subst h;simp
   .have h':s≠x:=λz=>h z.symm;simp[h,h']
  rw[this,D7];simp
def BO(x:Str)(ss:List Str):N8 (.str x) (ss.map U.str)=a5 (cn (x∈ss)):=by
 unfold N8;rw[ĝ ⟨by rfl,gA ss 50⟩,qD]
def fg{x:Str}{ss:List Str}:bK .IH (.str x) (.lst (ss.map U.str))=a5 (cn (x∉ss)):=by
 change(N8 (.str x) (ss.map U.str)).map (!·)=_;rw[BO];simp
end
section
end
def iR(h:Run (ev Γ j) st rv st1)(l:st1[i]?=a5 (a5 (k',u')))(m:Run (ev Γ n) st1 rk st2)(o:Run (da [rv,rk]) st2 [c,d] b)(p:b[i]?=a5 (a5 (k,e)))(hk:k.root=bD)(q:eE d c e=a5 g)
  (r:Run (execs Γ ss) (b.set i (a5 (k,g))) f s) (t:k'≠.Iw:=by intro z;cases z):Run (execs Γ (.put i n j::ss)) st f s:=by
 show fE (aa h (aa (dG l t) (aa m (aa o (aa (a:=()) (st1:=b.set i (a5 (k,g))) ?_ aK))))) r;change modS i (tW [c,d]) b=_;unfold modS;rw[p];simp only[hk,if_true];change(match eE d c e with|some u'=>_|none=>b8)=_;rw[q]
@[reducible]def Row:=Str×List Str
abbrev B'(r:Row):U:=.tup [.str r.1,.tup (r.2.map .str)]
abbrev keyOf(r:Row):Row:=(r.1,aP r.2)
def sorted_strs(h:ss.length<64):Kp .sorted [(k,.tup (ss.map .str))]=a5 (.own,.lst ((aP ss).map .str)):=by
 change(strsOf (ss.map U.str)).bind _=_;rw[dQ];change(if ss.length<64 then _ else _)=_;rw[ĝ h]
structure nA(names:List Str)(r:Row):Prop where
 word:r.1∈names
 MP:r.2.length<=8
 once:r.2.Nodup
 told:∀x∈r.2,x∈names
section
def nB(h:Run (execs Γ (a++ss)) st f st2):(∃s1,Run (execs Γ a) st .nx s1/\Run (execs Γ ss) s1 f st2)\/(Run (execs Γ a) st f st2/\f≠.nx):=by
 induction a generalizing st with
 |nil=>show .inl ⟨st,av,h⟩
 |cons s a i =>
  have h':M.bind (exec Γ s) (λf=>match f with|.nx=>execs Γ (a++ss)|f=>pure f) st=a5 (.ok f,st2):=h;unfold M.bind at h';cases e:exec Γ s st with
  |none=>rw[e]at h';cases h'
  |some p =>
   have⟨x,s1⟩:=p;rw[e]at h';cases x with
   |exc c=>cases h'
   |ok g =>
    cases g with
    |nx =>
     rcases i h' with⟨s2,b,d⟩|⟨b,d⟩
     .show .inl ⟨s2,fE e b,d⟩
     .show .inr ⟨fE e b,d⟩
    |rt k u=>cases h';show .inr ⟨oU e,λz=>nomatch z⟩
    |bk=>cases h';show .inr ⟨aa (show Run (exec Γ s) st Fl.bk _ from e) aK,λz=>nomatch z⟩
    |ct=>cases h';show .inr ⟨aa (show Run (exec Γ s) st Fl.ct _ from e) aK,λz=>nomatch z⟩
def G2(a:Run (exec Γ s) st f st1)(b:f≠.nx):Run (execs Γ (s::ss)) st f st1:=by
 cases f with
 |nx=>show absurd rfl b
 |rt k u=>show oU a
 |_=>show aa a aK
def oW(g:Run (IX Γ c) st p st1)(h:p=bD->Run (execs Γ (a++ss)) st1 f st2)(i:p=cc->Run (execs Γ (b++ss)) st1 f st2):Run (execs Γ (.ite c a b::ss)) st f st2:=by
 cases p with
 |true =>
  rcases nB (h rfl) with⟨s1,d,e⟩|⟨d,e⟩
  .show fE (jo g d) e
  .show G2 (jo g d) e
 |false =>
  rcases nB (i rfl) with⟨s1,d,e⟩|⟨d,e⟩
  .show fE (lG g d) e
  .show G2 (lG g d) e
def ET(h:Run (ev Γ e) st (k,.bl p) st)(a:p=bD->Run (iK Γ (b::es)) st (.loc,.bl q) st):Run (iK Γ (e::b::es)) st (.loc,.bl (p&&q)) st:=by
 show EO h ?_;cases p with
 |true=>rw[ĝ rfl];show a rfl
 |false=>rw[Ğ i1];show⟨rfl,rfl⟩
def oX(h:Run (IX Γ e) st p st)(a:p=bD->Run (bc Γ (b::es)) st q st):Run (bc Γ (e::b::es)) st (p&&q) st:=by
 cases p with
 |true=>show fD h (a rfl)
 |false=>show lF h
theorem jr{cond:M Bool}(h:aW src st)(k:Kd)(hk:k=.loc\/k=.any)(a g:α->U)(c:Kd)(d:∀y,Run cond (a5 (k,a y)::st) bD (a5 (k,a y)::st)):∀(b:List α) (acc:List U),acc.length+b.length<=cK ->
  (∀y∈b,Run elt (a5 (k,a y)::st) (c,g y) (a5 (k,a y)::st)/\Run (lift (c,g y)) (a5 (k,a y)::st) (g y) (a5 (k,a y)::st))->Run (cj 1 cc cond elt src (b.map λy=>(k,a y)) acc) st (acc++b.map g) st
 |[],acc,_,_=>by rw[KD,KD,rr];show qA h
 |y::b,acc,hl,e=>by
  have⟨f,i⟩:=e y (by simp);rw[i0]at hl;show lH (s1:=a5 (k,a y)::st) (s2:=a5 (k,a y)::st) (s3:=a5 (k,a y)::st) (s4:=a5 (k,a y)::st) h ?_ (d y) f i ⋯ ?_
  .rcases hk with rfl|rfl
   .show fF aH
   .show fF jL
  .have:=jr h k hk a g c d b (acc++[g y]) (by simp;lia) λz hz=>e z (by simp[hz]);rw[d8];simpa using this
theorem lJ{cond:M Bool}(h:aW src st)(k:Kd)(hk:k=.loc\/k=.any)(a g:α->U)(p:α->Bool)(d:Kd):∀(b:List α) (acc:List U),acc.length+b.length<=cK ->
  (∀y∈b,Run cond (a5 (k,a y)::st) (p y) (a5 (k,a y)::st)/\(p y=bD->Run elt (a5 (k,a y)::st) (d,g y) (a5 (k,a y)::st)/\Run (lift (d,g y)) (a5 (k,a y)::st) (g y) (a5 (k,a y)::st)))->Run (cj 1 cc cond elt src (b.map λy=>(k,a y)) acc) st (acc++(b.filter p).map g) st
 |[],acc,_,_=>by rw[KD,SA,KD,rr];show qA h
 |y::b,acc,hl,f=>by
  have⟨e,j⟩:=f y (by simp);rw[i0]at hl;have i:Run (dN cc (eH 1) (k,a y)) (i3 1 b8++st) () (a5 (k,a y)::st):=by
   rcases hk with rfl|rfl
   .show fF aH
   .show fF jL
  cases c:p y with
  |true =>
   rw[c]at e;have⟨l,m⟩:=j c;show lH (s1:=a5 (k,a y)::st) (s2:=a5 (k,a y)::st) (s3:=a5 (k,a y)::st) (s4:=a5 (k,a y)::st) h i e l m ⋯ ?_;have:=lJ h k hk a g p d b (acc++[g y]) (by simp;lia) λz hz=>f z (by simp[hz]);rw[Jw,ĝ c,d8];simpa using this
  |false =>
   rw[c]at e;show sG (s1:=a5 (k,a y)::st) (s2:=a5 (k,a y)::st) h i e ?_;have:=lJ h k hk a g p d b acc ⋯ λz hz=>f z (by simp[hz]);rw[Jw,Ğ (by simp[c])];show this
theorem bZ(it:α->Kd×U)(I:List α->List α->aw->Prop)(hs:∀d r st,I d r st->aW rs st)
  (Z2:∀d y r st,I d (y::r) st->∃st1 st2,Run (dN t is (it y)) st () st1/\Run body st1 .nx st2/\I (d++[y]) r st2):∀(r d:List α) (st:aw),I d r st->∃st',Run (forM t is body rs (r.map it)) st .nx st'/\I (d++r) [] st'
 |[],d,st,h=>⟨st,CD (hs _ _ _ h),by rw[rr];show h⟩
 |y::r,d,st,h=>by
  have⟨s1,s2,a,b,c⟩:=Z2 d y r st h;have⟨s3,e,f⟩:=bZ it I hs Z2 r (d++[y]) s2 c;show⟨s3,GZ (hs _ _ _ h) a b e,by simpa using f⟩
def EU(a:Run (bb Γ es) st rs st1)(c:aW rs st1)(d:Γ f (rs.map (·.2))=a5 (.ok r))(e:vF r.2=a5 b)(g:isAny r.1=cc:=by show rfl):Run (IX Γ (.call f es)) st b st1:=aa a (aa (aS c) (aa (uB d g) (cz e)))
def yR(h:Run (ev Γ (.bi f es)) st (k,.bl b) st1):Run (IX Γ (.bi f es)) st b st1:=by
 have h':(bb Γ es >>= λrs=>az rs >>= λ_=>M.IM (Kp f rs)) st=a5 (.ok (k,.bl b),st1):=h;obtain⟨rs,s1,c,d,s2,e,r,s3,g,i⟩:∃rs s1,bb Γ es st=a5 (.ok rs,s1)/\∃(a:Unit) (s2:aw),az rs s1=a5 (.ok a,s2)/\∃r s3,M.IM (Kp f rs) s2=a5 (.ok r,s3)/\(r,s3)=((k,U.bl b),st1):=by
  have w:W (bb Γ es >>= λrs=>az rs >>= λ_=>M.IM (Kp f rs)) st λr s=>(r,s)=((k,U.bl b),st1):=⟨_,_,h',rfl⟩
  rw[ah]at w;have⟨rs,s1,c,w⟩:=w;rw[ah]at w;have⟨a,s2,d,w⟩:=w;have⟨r,s3,e,w⟩:=w;show⟨rs,s1,c,a,s2,d,r,s3,e,w⟩
 cases i;show aa c (aa (a:=d) e (aa g (cz rfl)))
def yS(c:st[i]?=a5 (a5 (k',.lst us')))(d:Run (ev Γ e) st r st1)(g:st1[i]?=a5 (a5 (k,.lst us)))(hk:k.root=bD)(h:lh r (.lst us)=a5 (.lst b))
  (j:Run (execs Γ ss) (st1.set i (a5 (k,.lst b))) f l) (m:k'≠.Iw:=by intro z;cases z):Run (execs Γ (.ext i e::ss)) st f l:=by
 show fE (aa (dG c m) (aa (a:=()) (st1:=st) rfl (aa d (aa (a:=()) (st1:=st1.set i (a5 (k,.lst b))) ?_ aK)))) j;change modS i (lh r) st1=_;unfold modS;rw[g];simp only[hk,if_true];rw[h]
end
def BP(h:xs.length+a.length<=cK)(hs:dM k a=bD):lh (k,.tup a) (.lst xs)=a5 (.lst (xs++a)):=by
 change(if xs.length+a.length<=cK/\dM k a=bD then _ else _)=_;rw[ĝ ⟨h,hs⟩]
def uC(h:xs.length+a.length<=cK)(hs:dM k a=bD):lh (k,.lst a) (.lst xs)=a5 (.lst (xs++a)):=by
 change(if xs.length+a.length<=cK/\dM k a=bD then _ else _)=_;rw[ĝ ⟨h,hs⟩]
theorem dR:∀ss:List Str,cH (ss.map U.str)=bD
 |[]=>by simp[cH]
 |s::ss=>by simp[cH,I0,dR ss]
def uD(r:Row):I0 (B' r)=bD:=by simp[B',I0,cH,dR]
theorem bP:∀rs:List Row,cH (rs.map B')=bD
 |[]=>by simp[cH]
 |r::rs=>by simp[cH,uD,bP rs]
theorem lK:∀(a b:List Str),c_ (a.map U.str) (b.map U.str)=cn (a=b)
 |[],[]=>by simp[c_]
 |[],_::_=>by simp[c_]
 |_::_,[]=>by simp[c_]
 |x::a,y::b=>by
  rw[d8,d8,c_,lK a b];simp only[cO];by_cases h:x=y
  .subst h;simp
  .simp[h]
def lL(ss:List Str)(n:Nat):J3 (n+1) (.lst (ss.map U.str))=bD:=by simp[J3,gA]
def iS{a b:List Str}:bK .eq (.lst (a.map U.str)) (.lst (b.map U.str))=a5 (cn (a=b)):=by
 simp only[bK];rw[ĝ ⟨lL a 49,lL b 49⟩];simp only[cO,lK]
def uE:bK .eq (.str a) (.str b)=a5 (cn (a=b)):=by
 simp only[bK];rw[ĝ ⟨rfl,rfl⟩];simp only[cO];by_cases h:a=b
 .subst h;simp
 .simp[h]
def BQ(f:α->β)(xs:List α)(lo a:Option Int):cut (xs.map f) lo a=(cut xs lo a).map f:=by simp[cut,Uh,Ui]
def BR(xs:List α)(lo a:Option Int):(cut xs lo a).length<=xs.length:=by simp[cut];lia
def yT(h:dM k (a.map U.int)=bD):qc (k,.lst (a.map .int)) lo b=a5 (.own,.lst ((cut a lo b).map .int)):=by
 simp only[qc];rw[ĝ h,BQ]
def yU(h:acc.length<4000)(a:(aB acc).length<64):rN .sset [(k,.lst (acc.map .str))]=a5 (.own,.lst ((aP (aB acc)).map .str)):=by
 have e:hU (.lst (acc.map U.str))=a5 (aB acc):=by
  change(strsOf (acc.map U.str)).bind _=_;rw[dQ];change(if acc.length+1<zy then _ else _)=_;rw[ĝ (by change acc.length+1<4096;lia)]
 change(hU (.lst (acc.map U.str))).bind _=_;rw[e];change(if (aB acc).length<64 then _ else _)=_;rw[ĝ a]
def qE(l:List Str):(aP (aB l)).Nodup:=(bI _).nodup_iff.mpr (bW l)
def EV(l:List Str)(x:Str):x∈aP (aB l)↔x∈l:=by rw[(bI _).mem_iff,bX]
def yV{l names:List Str}(h:∀x∈l,x∈names):(aB l).length<=names.length:=d_ (bW l) λx a=>h x ((bX l x).mp a)
section
end
section
def G3(c:Run (ev Γ a) st x st1)(d:oF x.2 T=a5 b):Run (ev Γ (.KS a T)) st (.loc,.bl b) st1:=aa c (aa (cz d) aK)
def nE(c:Run (ev Γ a) st x st1)(d:oF x.2 T=a5 b):Run (IX Γ (.KS a T)) st b st1:=aa c (cz d)
end
def yW(h:xs.length+a.length<=cK)(b:dM k xs=bD)(c:dM k' a=bD):LA .add (k,.lst xs) (k',.lst a)=a5 (.own,.lst (xs++a)):=by
 simp only[LA,xN];rw[ĝ ⟨h,b,c⟩]
abbrev cT(rows:List Row):List Str:=(rows.map λr=>r.1::r.2).flatten
abbrev aA(rows:List Row):List Str:=aP (aB (cT rows))
def qF(d:List Row)(y:Row):cT (d++[y])=cT d++[y.1]++y.2:=by simp[cT]
def b_:x∈cT rows↔∃r∈rows,x=r.1\/x∈r.2:=by
 simp only[cT,List.mem_flatten,js];constructor
 .rintro⟨l,⟨r,a,rfl⟩,b⟩;show⟨r,a,d3.mp b⟩
 .rintro⟨r,a,b⟩;show⟨_,⟨r,a,rfl⟩,d3.mpr b⟩
def iT(h:∀r∈rows,nA names r):∀x∈cT rows,x∈names:=by
 intro x hx;have⟨r,a,hx⟩:=b_.mp hx;rcases hx with rfl|hx
 .show(h r a).word
 .show(h r a).told x hx
def lM(h:∀r∈rows,r.2.length<=8):(cT rows).length<=9 * rows.length:=by
 induction rows with
 |nil=>simp[cT]
 |cons r rows a =>
  have c:=h r (by simp);have b:=a λs hs=>h s (by simp[hs]);simp only[cT,d8,U1,ia,i0]at b ⊢;lia
def cU:x∈aA rows↔x∈cT rows:=EV _ _
def oY(rows:List Row):(aA rows).Nodup:=qE _
def ie(h:∀r∈rows,nA names r):(aA rows).length<=names.length:=by
 change(aP (aB (cT rows))).length<=_;rw[cG];show yV (iT h)
abbrev jt:Fn:=⟨"words_of",1,3,[.set 1 (.lst []),.IU cc [2] .seq [.var 0] [.app 1 (.idx (.var 2) (.cst (.int 0))),.ext 1 (.idx (.var 2) (.cst (.int 1)))],.ret (.MY .sset [.var 1])]⟩
def iU(hl:rows.length<=120)(c:∀r∈rows,nA names r)(n:names.length<64):dk Γ jt [.tup (rows.map B')]=a5 (.ok (.own,.lst ((aA rows).map .str))):=by
 have hsz:(4000:Nat)<=cK:=by decide
 have f:TM.start [.tup (rows.map B')] 3=[a5 (.loc,.tup (rows.map B')),b8,b8]:=by simp[TM.start,I0,bP]
 have b:∀r∈rows,r.2.length<=8:=λr h=>(c r h).MP;obtain⟨st',g,_,o2,e⟩:=bZ (t:=cc) (is:=[2]) (body:=execs Γ [.app 1 (.idx (.var 2) (.cst (.int 0))),.ext 1 (.idx (.var 2) (.cst (.int 1)))]) (rs:=[(.loc,.tup (rows.map B'))]) (λr:Row=>(Kd.loc,B' r))
  (λd r st=>d++r=rows/\∃o2,st=[a5 (.loc,.tup (rows.map B')),a5 (.own,.lst ((cT d).map .str)),o2]) (λ_ _ _ _=>trivial) (λd y r st i=>by
   have⟨a,o2,e⟩:=i;subst e;have j:y∈rows:=by rw[<-a];simp
   have o:=lM (rows:=d) λs hs=>b s (by rw[<-a];simp[hs]);have l:d.length<=120:=by have:=Ģ K1 a;simp at this;lia
   have p:=b y j;show⟨[a5 (.loc,.tup (rows.map B')),a5 (.own,.lst ((cT d).map .str)),a5 (.loc,B' y)],[a5 (.loc,.tup (rows.map B')),a5 (.own,.lst ((cT d).map .str++[.str y.1]++y.2.map .str)),a5 (.loc,B' y)],fF aH,?_,by rw[<-a];simp,a5 (.loc,B' y),?_⟩
   .show gc (k:=.own) (k':=.own) (r:=(.loc,.str y.1)) rfl (br (x:=(.loc,B' y)) (af rfl) ai trivial rfl) aJ rfl rfl (by rw[c4];lia)
     (yS (k:=.own) rfl (br (x:=(.loc,B' y)) (af rfl) ai trivial rfl) rfl rfl (BP (by simp;lia) rfl) av)
   .rw[qF];simp) rows [] [a5 (.loc,.tup (rows.map B')),a5 (.own,.lst []),b8] ⟨rfl,b8,rfl⟩
 subst e;have m:(rows.map B').map (λu=>(kE .loc,u))=rows.map λr=>(Kd.loc,B' r):=by rw[ke];rfl
 have q:=lM b;have l:=yV (iT c);show bu rfl (.inl rfl) f (ax (r:=(.own,.lst [])) (cm aj trivial aI (i7 _)) a9 (c6 (rs:=[(.loc,.tup (rows.map B'))]) (ae (af rfl) aj) trivial rfl rfl (by rw[m];show g) (bO (CB (ae (aC rfl) aj) ⟨⟨.own,rfl,rfl⟩,trivial⟩ (yU ⋯ ⋯)) jM)))
def uF(h:ks.length<1000):eE (.str x) u (.IA ks us)=a5 (.IA (dput ks us x u).1 (dput ks us x u).2):=by
 have hsz:(1000:Nat)<=cK:=by decide
 change(if ks.length<cK then _ else _)=_;rw[ĝ ⋯]
end TM
namespace Od
section
variable{W:Type}[DecidableEq W]{rows:List (W×List W)}
abbrev gf(rows:List (W×List W))(C:W->Prop):Prop:=∀r∈rows,(∀x∈r.2,C x)->C r.1
abbrev Qg(rows:List (W×List W))(K:List W):Prop:=∀C:W->Prop,gf rows C->∀x∈K,C x
def same(a:K.Nodup)(b:L.Nodup)(sK:Qg rows K)(c:Qg rows L)(d:gf rows (·∈K))(e:gf rows (·∈L)):K.Perm L :=
 (Rn a b).mpr λx=>⟨λh=>sK _ e x h,λh=>c _ d x h⟩
abbrev told(rows:List (W×List W))(p:Nat):List W:=match rows[p]? with
 |some r=>r.2
 |none=>[]
def kh(h:rows[p]?=a5 r):told rows p=r.2:=by unfold told;rw[h]
abbrev sI(K l:List W):Nat:=(l.filter λx=>cn (x∉K)).length
abbrev cnt(rows:List (W×List W))(K:List W)(p:Nat):Nat:=sI K (told rows p)
def vZ{K l:List W}:sI K l=0↔∀x∈l,x∈K:=by
 unfold sI;rw[R3,MW];constructor
 .intro h x a;have:=h x a;simpa using this
 .intro h x a;simpa using h x a
theorem qG(f:w∉K):∀{l:List W},l.Nodup->sI (K++[w]) l+(if w∈l then 1 else 0)=sI K l
 |[],_=>rfl
 |x::l,h=>by
  have⟨g,i⟩:=mh.mp h;have d:=qG f i;unfold sI at d ⊢;by_cases e:x=w
  .subst e;have a:cn (x∉K++[x])≠bD:=by simp
   have b:cn (x∉K)=bD:=Ġ f;rw[PB (p:=λy=>cn (y∉K++[x])) a,Pz (p:=λy=>cn (y∉K)) b,i0,ĝ (mu ..)];rw[Ğ g]at d;lia
  .have j:w≠x:=λz=>e z.symm;have k:(if w∈x::l then 1 else 0)=if w∈l then 1 else 0:=by simp[j]
   rw[k];by_cases c:x∈K
   .have a:cn (x∉K++[w])≠bD:=by simp[c]
    have b:cn (x∉K)≠bD:=by simp[c]
    rw[PB (p:=λy=>cn (y∉K++[w])) a,PB (p:=λy=>cn (y∉K)) b];show d
   .have a:cn (x∉K++[w])=bD:=by simp[c,e]
    have b:cn (x∉K)=bD:=by simp[c]
    rw[Pz (p:=λy=>cn (y∉K++[w])) a,Pz (p:=λy=>cn (y∉K)) b,i0,i0];lia
abbrev Once(rows:List (W×List W)):Prop:=∀r∈rows,r.2.Nodup
def Once.told(h:Once rows)(p:Nat):(told rows p).Nodup:=by
 unfold Od.told;split
 .rename_i r e;show h r (my e)
 .show .nil
def qH:cnt rows K p=0↔∀x∈told rows p,x∈K:=vZ
def oZ(h:Once rows)(a:w∉K)(p:Nat):cnt rows (K++[w]) p+(if w∈told rows p then 1 else 0)=cnt rows K p:=qG a (h.told p)
abbrev Jk(rows:List (W×List W))(n:Nat)(w:W):List Nat:=(eH n).filter λp=>cn (w∈told rows p)
def v3(n:Nat)(w:W):(Jk rows n w).Nodup:=X5 Y' List.nodup_range
def iV:p∈Jk rows n w↔p<n/\w∈told rows p:=by simp[Jk]
abbrev aO(ps:List (W×Nat))(w:W):List Nat:=(ps.filter λp=>cn (p.1=w)).map (·.2)
theorem qI:∀{l:List W},l.Nodup->aO (l.map λx=>(x,n)) w=if w∈l then [n] else []
 |[],_=>rfl
 |x::l,h=>by
  have⟨b,c⟩:=mh.mp h;have a:=qI (n:=n) (w:=w) c;unfold aO at a ⊢;rw[d8,Jw];by_cases e:x=w
  .subst e;rw[Ğ b]at a;rw[ĝ (by simp),d8,a,ĝ (by simp)]
  .rw[Ğ (by simpa using e),a];have d:w≠x:=λz=>e z.symm;simp[d]
def qJ(a b:List (W×Nat))(w:W):aO (a++b) w=aO a w++aO b w:=by simp[aO]
def v5(h:Once rows)(a:rows[n]?=a5 r)(b:∀w,aO ps w=Jk rows n w)(w:W):aO (ps++r.2.map λx=>(x,n)) w=Jk rows (n+1) w:=by
 rw[qJ,b w,qI (h r (my a))];unfold Jk;rw[Á,Pk];congr 1
 rw[Jw,SA,kh a];by_cases e:w∈r.2<;>simp[e]
structure RI(rows:List (W×List W))(K0 K:List W)(R:List Nat):Prop where
 Qh:∀t∈R,t<rows.length/\cnt rows K t=0
 all:∀t,t<rows.length->cnt rows K t=0->cnt rows K0 t=0\/t∈R
def RI.start(K:List W):RI rows K K []:=⟨by simp,λt _ h=>.inl h⟩
def RI.step(h:Once rows)(x:RI rows K0 K R)(d:w∉K):RI rows K0 (K++[w]) (R++(Jk rows rows.length w).filter λt=>cn (cnt rows K t=1)):=by
 show⟨λt ht=>?_,λt ht i=>?_⟩
 .have a:=oZ h d t;rcases hY.mp ht with ht|ht
  .have⟨b,e⟩:=x.Qh t ht;show⟨b,⋯⟩
  .have⟨b,e⟩:=D6.mp ht;have⟨f,g⟩:=iV.mp b;rw[ĝ g]at a;have:cnt rows K t=1:=by simpa using e
   show⟨f,⋯⟩
 .have a:=oZ h d t;by_cases c:w∈told rows t
  .rw[ĝ c]at a;show .inr (hY.mpr (.inr (D6.mpr ⟨iV.mpr ⟨ht,c⟩,by simp;lia⟩)))
  .rw[Ğ c]at a;rcases x.all t ht ⋯ with z|z
   .show .inl z
   .show .inr (hY.mpr (.inl z))
structure NS(rows:List (W×List W))(K:List W)(d:List Nat)(ps:List (W×Nat)):Prop where
 ok:∀s∈ps,s.2∈d/\s.1∉K/\∃r,rows[s.2]?=a5 r/\r.1=s.1
 once:(ps.map (·.1)).Nodup
 all:∀p∈d,∀r,rows[p]?=a5 r->r.1∈K\/r.1∈ps.map (·.1)
def NS.start(K:List W):NS rows K [] []:=⟨by simp,by simp,by simp⟩
def NS.skip(x:NS rows K d ps)(f:rows[p]?=a5 r)(h:r.1∈K\/r.1∈ps.map (·.1)):NS rows K (d++[p]) ps :=
 ⟨λs hs=>let ⟨a,b,c⟩:=x.ok s hs;⟨by simp[a],b,c⟩,x.once,λq hq g e=>by
  rcases hY.mp hq with hq|hq
  .show x.all q hq g e
  .have:q=p:=by simpa using hq
   subst this;rw[f]at e;cases e;show h⟩
def NS.take(x:NS rows K d ps)(g:rows[p]?=a5 r)(h:r.1∉K)(i:r.1∉ps.map (·.1)):NS rows K (d++[p]) (ps++[(r.1,p)]):=by
 show⟨λs hs=>?_,?_,λq hq j f=>?_⟩
 .rcases hY.mp hs with hs|hs
  .have⟨a,b,c⟩:=x.ok s hs;show⟨by simp[a],b,c⟩
  .have:s=(r.1,p):=by simpa using hs
   subst this;show⟨by simp,h,r,g,rfl⟩
 .rw[i9,sx];show⟨x.once,by simp,λa k b l e=>?_⟩;have:b=r.1:=by simpa using l
  subst this;show i (e▸k)
 .rcases hY.mp hq with hq|hq
  .rcases x.all q hq j f with z|z
   .show .inl z
   .show .inr (by simp only[i9,hY];show .inl z)
  .have:q=p:=by simpa using hq
   subst this;rw[g]at f;cases f;show .inr (by simp)
def NS.perm(x:NS rows K d ps)(h:a.Perm ps):NS rows K d a :=
 ⟨λs hs=>x.ok s (h.mem_iff.mp hs),(h.map _).nodup_iff.mpr x.once,λp b r c=>(x.all p b r c).imp id λz=>(h.map _).mem_iff.mpr z⟩
structure LI(rows:List (W×List W))(IK:List (W×Nat))(R:List Nat):Prop where
 nd:(IK.map (·.1)).Nodup
 sn:Qg rows (IK.map (·.1))
 wd:∀x∈IK.map (·.1),x∈rows.map (·.1)
 Qh:∀t∈R,t<rows.length/\cnt rows (IK.map (·.1)) t=0
 all:∀t r,rows[t]?=a5 r->cnt rows (IK.map (·.1)) t=0->t∈R\/r.1∈IK.map (·.1)
def LI.step(x:LI rows d R)(n:NS rows (d.map (·.1)) R st)(y:RI rows (d.map (·.1)) (d.map (·.1)++st.map (·.1)) j):LI rows (d++st) j:=by
 have em:(d++st).map (·.1)=d.map (·.1)++st.map (·.1):=i9;have hs:∀z∈st.map (·.1),z∉d.map (·.1)/\∃r∈rows,r.1=z/\∀x∈r.2,x∈d.map (·.1):=λz hz=>by
  have⟨s,hs,rfl⟩:=js.mp hz;have⟨k,l,r,h,m⟩:=n.ok s hs;have hz:=(x.Qh _ k).2;rw[qH,kh h]at hz;show⟨l,r,my h,m,hz⟩
 show⟨?_,λC f y hy=>?_,λy hy=>?_,λt o=>by rw[em];show y.Qh t o,λt r g i=>?_⟩
 .rw[em,sx];show⟨x.nd,n.once,λa p b q e=>(hs b q).1 (e▸p)⟩
 .rw[em]at hy;rcases hY.mp hy with hy|hy
  .show x.sn C f y hy
  .obtain⟨_,r,a,b,c⟩:=hs y hy;show b▸f r a λz hz=>x.sn C f z (c z hz)
 .rw[em]at hy;rcases hY.mp hy with hy|hy
  .show x.wd y hy
  .obtain⟨_,r,a,b,c⟩:=hs y hy;show js.mpr ⟨r,a,b⟩
 .rw[em]at i ⊢;rcases y.all t (dt.mp g).1 i with z|z
  .rcases x.all t r g z with z|z
   .rcases n.all t z r g with z|z
    .show .inr (hY.mpr (.inl z))
    .show .inr (hY.mpr (.inr z))
   .show .inr (hY.mpr (.inl z))
  .show .inl z
def LI.closed(x:LI rows b []):gf rows (·∈b.map (·.1)):=λr c h=>by
 have⟨t,a⟩:=SN.mp c;rcases x.all t r a (by rw[qH,kh a];show h) with z|z
 .cases z
 .show z
def uG{K L:List W}(h:K.Nodup)(s:∀x∈K,x∈L):K.length<=L.length:=by
 induction K generalizing L with
 |nil=>simp
 |cons a K d =>
  have⟨f,g⟩:=mh.mp h;have b:a∈L:=s a (by simp);have:=d (L:=L.erase a) g λx c=>by
   have i:x≠a:=λe=>f (e▸c);show(YQ i).mpr (s x (by simp[c]))
  rw[XG b]at this;have:0<L.length:=Yp b;rw[i0];lia
end
end Od
namespace TM
open PySem L2 Jc
section
def G4(h:st[j]?=a5 (a5 (.own,u))):Run (lift (.bor j,a)) st u (st.set j (a5 (.loc,u))):=by
 change(match st[j]? with|some (a5 (.own,u))=>a5 (Ex.ok u,st.set j (a5 (.loc,u)))|_=>b8)=_;rw[h]
def uH(h:Run c st cc st1):Run (gF c body (n+1)) st .nx st1:=aa h aK
def yX(h:Run c st bD st1)(a:Run body st1 .nx st2)(b:Run (gF c body n) st2 f d):Run (gF c body (n+1)) st f d:=aa h (aa a b)
def yY(h:Run (gF (IX Γ c) (execs Γ body) fuel) st .nx st1)(a:Run (execs Γ ss) st1 f st2):Run (execs Γ (.Nr c body::ss)) st f st2:=fE h a
def nF(hk:k=.loc\/k=.any):Run (dN bD [i,j] (k,.tup [a,b])) st () ((st.set i (a5 (k,a))).set j (a5 (k,b))):=by
 rcases hk with rfl|rfl<;>rfl
def EW(h:Run (execs Γ ss) (st.set i (a5 (.Iw,.IA [] []))) f st1):Run (execs Γ (.newD i::ss)) st f st1:=fE (aa (a:=()) (st1:=st.set i (a5 (.Iw,.IA [] []))) rfl aK) h
def o_(h:st[i]?=a5 (a5 (.Iw,.IA ks us))):Run (iJ i) st (ks,us) st:=by
 change iJ i st=_;unfold iJ;rw[h]
def sJ:Run (jX (k,.str y)) st y st:=rfl
def BS(a:st[i]?=a5 (a5 (.Iw,.IA ks us)))(b:y∉ks)(c:ks.length<cK):Run (k_ i y (.own,.lst xs)) st () (st.set i (a5 (.Iw,.IA (ks++[y]) (us++[.lst xs])))):=by
 change k_ i y (.own,.lst xs) st=_;unfold k_
 dsimp only
 rw[a]
 dsimp only
 rw[ĝ ⟨b,c⟩]
def BU(a:st[i]?=a5 (a5 (.Iw,.IA ks us)))(b:dW ks us y=a5 (.lst xs))(c:xs.length<cK):Run (la i y u) st () (st.set i (a5 (.Iw,.IA ks (jY ks us y (.lst (xs++[u])))))):=by
 change la i y u st=_;unfold la;rw[a]
 dsimp only
 rw[b]
 dsimp only
 rw[ĝ c]
def G5(b:Run (ev Γ a) st (k,.str y) st1)(c:st1[i]?=a5 (a5 (.Iw,.IA ks us))):Run (IX Γ (.inD neg a i)) st (S9 neg y ks) st1 :=
 aa b (aa sJ (aa (o_ c) aK))
def EX(b:Run (ev Γ c) st (.own,.lst xs) st1)(a:st1[i]?=a5 (a5 (.Iw,.IA ks us)))(d:Run (ev Γ e) st1 (k,.str y) st1)(g:y∉ks)(h:ks.length<cK)
  (j:Run (execs Γ ss) (st1.set i (a5 (.Iw,.IA (ks++[y]) (us++[.lst xs])))) f l):Run (execs Γ (.putD i e c::ss)) st f l:=by
 show fE ?_ j;show aa b (aa (o_ a) (aa d (aa sJ (aa (BS a g h) aK))))
def EY(a:st[i]?=a5 (a5 (.Iw,.IA ks us)))(b:Run (ev Γ c) st (k,.str y) st)(d:y∈ks)(e:Run (ev Γ g) st r st)(h:Run (lift r) st u st)(j:dW ks us y=a5 (.lst xs))(l:xs.length<cK)
  (m:Run (execs Γ ss) (st.set i (a5 (.Iw,.IA ks (jY ks us y (.lst (xs++[u])))))) f n):Run (execs Γ (.KU i c g::ss)) st f n:=by
 show fE ?_ m;show aa (o_ a) (aa b (aa sJ (aa (o_ a) ?_)));rw[ĝ d];show aa e (aa h (aa (BU a j l) aK))
def G6(h:st[i]?=a5 (a5 (.Iw,u))):Run (ev Γ (.OV i)) st (.bor i,u) (st.set i (a5 (.own,u))):=by
 change xT i st=_;unfold xT;rw[h]
def EZ(c:st[i]?=a5 (a5 (.own,.IA ks us)))(d:Run (ev Γ a) st (k,.str y) st)(e:Run (ev Γ b) st z st)(f:Run (lift z) st u st)(g:(match dW ks us y with|some v=>(Kd.loc,v)|none=>(.loc,u))=r):
  Run (ev Γ (.Ll i a b)) st r st:=by
 show aa (dG c) (aa (a:=()) (st1:=st) rfl (aa d (aa (a:=y) (st1:=st) rfl (aa e (aa f (aa (dG c) (cz ?_)))))));subst g;rfl
def G7(b:st[i]?=a5 (a5 (.own,.lst us)))(d:Run (ev Γ e) st (k1,.int (j:Nat)) st)(c:us[j]?=a5 (.int o))(g:Run (ev Γ h) st (k2,.int w) st)
  (k:Run (execs Γ ss) (st.set i (a5 (.own,.lst (us.set j (.int (o - w)))))) f l):Run (execs Γ (.aug bD i e h::ss)) st f l:=by
 have hl:qh i st=a5 (.ok us,st):=by unfold qh;rw[b];rfl
 have m:j<us.length:=(dt.mp c).1;have n:qi us (j:Nat)=a5 o:=by
  unfold qi;rw[ĝ ⋯,PY,c]
 have p:L9 us.length (j:Nat)=a5 j:=by
  unfold L9;rw[ĝ ⋯]
  first|(rw[ĝ ⋯];simp)|simp[m]
 show fE (aa (a:=us) (st1:=st) hl (aa d (aa (a:=(j:Int)) (st1:=st) rfl (aa (a:=us) (st1:=st) hl (aa (cz n) (aa g (aa (a:=w) (st1:=st) rfl (aa (a:=()) (st1:=st.set i (a5 (.own,.lst (us.set j (.int (o - w)))))) ?_ aK)))))))) k;change modS i (eE (.int (j:Nat)) (.int (vI bD o w))) st=_;unfold modS;rw[b];simp only[Kd.root,if_true,eE];rw[p];rfl
def G8(a:st[i]?=a5 (a5 (.own,u)))(b:xR u=a5 r):Run (ev Γ (.OW i)) st r st:=aa (dG a) (cz b)
end
theorem lN(f:Str->U)(y:Str):∀ks:List Str,dW ks (ks.map f) y=if y∈ks then a5 (f y) else b8
 |[]=>rfl
 |k::ks=>by
  rw[d8];change(if k=y then a5 (f k) else dW ks (ks.map f) y)=_;by_cases e:k=y
  .subst e;rw[ĝ rfl,ĝ (by simp)]
  .rw[Ğ e,lN f y ks];have:(y∈k::ks)↔y∈ks:=by simp[ri e]
   by_cases h:y∈ks
   .rw[ĝ h,ĝ (this.mpr h)]
   .rw[Ğ h,Ğ λz=>h (this.mp z)]
theorem qK(f:Str->U)(y:Str)(u:U):∀ks:List Str,ks.Nodup->jY ks (ks.map f) y u=ks.map λk=>if k=y then u else f k
 |[],_=>rfl
 |k::ks,h=>by
  have⟨a,b⟩:=mh.mp h;rw[d8,d8];change(if k=y then u::ks.map f else f k::jY ks (ks.map f) y u)=_;by_cases e:k=y
  .subst e;rw[ĝ rfl,ĝ rfl];congr 1
   show wk λz hz=>?_;have c:z≠k:=λq=>a (by rw[<-q];show hz);rw[Ğ c]
  .rw[Ğ e,Ğ e,qK f y u ks b]
abbrev stN(s:Str×Nat):U:=.tup [.str s.1,.int (s.2:Nat)]
theorem nG(f:α->Int):∀(ns:List α),intsOf (ns.map λa=>U.int (f a))=a5 (ns.map f)
 |[]=>rfl
 |n::ns=>by change(intsOf (ns.map λa=>U.int (f a))).map _=_;rw[nG f ns];rfl
def BV(h:ps.length<64)(c:(ps.map (·.1)).Nodup):∃a:List (Str×Nat),a.Perm ps/\xR (.IA (ps.map (·.1)) (ps.map λp=>.int (p.2:Nat)))=a5 (.own,.lst (a.map stN)):=by
 have d:=nG (λp:Str×Nat=>((p.2:Nat):Int)) ps;have hz:(ps.map (·.1)).zip (ps.map λp:Str×Nat=>((p.2:Nat):Int))=ps.map λp=>(p.1,((p.2:Nat):Int)):=by
  rw[List.zip_map']
 let P:=jV ((ps.map λp=>(p.1,((p.2:Nat):Int))).map (·.1));have b:P.Perm (eH ps.length):=by
  have:=gr ((ps.map λp=>(p.1,((p.2:Nat):Int))).map (·.1));simpa[P] using this
 show⟨P.map λi=>ps.getD i (td,0),?_,?_⟩
 .show(b.map _).trans ?_;have:(eH ps.length).map (λi=>ps.getD i (td,0))=ps:=by
   apply L4
   .simp
   .intro i j e;simp[Ov,e]
  rw[this]
 .change(intsOf (ps.map λp=>U.int (p.2:Nat))).bind _=_;rw[d];change(if (ps.map (·.1)).length<64/\(ps.map (·.1)).Nodup/\(ps.map (·.1)).length=(ps.map λp:Str×Nat=>((p.2:Nat):Int)).length then _ else _)=_;rw[ĝ ⟨by simpa using h,c,by simp⟩,hz];congr 3
  change(AN _).map vE=_;change(P.map λi=>(ps.map λp=>(p.1,((p.2:Nat):Int))).getD i (td,0)).map vE=_;rw[ke,ke];show wk λi f=>?_;have g:i<ps.length:=tA.mp (b.mem_iff.mp f);simp[Ov,g,vE,stN]
def E1:bK .isin (.str x) (.IA ks vs)=a5 (cn (x∈ks)):=rfl
def gB:bK .IH (.str x) (.IA ks vs)=a5 (!cn (x∈ks)):=rfl
def G9{ss:List Str}:bK .isin (.str x) (.lst (ss.map U.str))=a5 (cn (x∈ss)):=by
 have h:=@fg x ss;have e:bK .IH (.str x) (.lst (ss.map U.str))=(bK .isin (.str x) (.lst (ss.map U.str))).map (!·):=rfl;rw[e,et]at h;have⟨b,a,c⟩:=h;rw[a];congr 1
 cases b<;>simp_all
def pb(bs:List Bool):Kp .all [(k,.lst (bs.map .bl))]=a5 (.loc,.bl (bs.all id)):=by
 change(gO (bs.map U.bl)).map _=_;have:∀bs:List Bool,gO (bs.map U.bl)=a5 bs:=λbs=>by
  induction bs with
  |nil=>rfl
  |cons b bs a=>change(gO (bs.map U.bl)).map _=_;rw[a];rfl
 rw[this];rfl
section
end
def uI(h:ks.length<1000)(a:x∉ks):eE (.str x) u (.IA ks us)=a5 (.IA (ks++[x]) (us++[u])):=by
 rw[uF h];unfold dput;rw[Ğ a]
def qL(h:J3 50 (.lst us)=bD):bK .ne (.lst us) (.lst [])=a5 (!us.isEmpty):=by
 simp only[bK];rw[ĝ ⟨h,by simp[J3,eS]⟩];cases us with
 |_=>simp[cO,c_]
theorem nI(f:α->Int):∀(l:List α) (n:Nat),eS n (l.map λa=>U.int (f a))=bD
 |[],n=>by simp[eS]
 |a::l,n=>by rw[d8,eS,nI f l n];simp[J3]
theorem qM:∀(ss:List (Str×Nat)) (n:Nat),eS (n+1) (ss.map stN)=bD
 |[],n=>by simp[eS]
 |s::ss,n=>by rw[d8,eS,qM ss n];simp[stN,J3,eS]
def uJ:bK .eq (.tup (ss.map U.str)) (.tup [])=a5 (cn (ss=[])):=by
 simp only[bK];rw[ĝ ⟨by simp[J3,gA],by simp[J3,eS]⟩];cases ss with
 |_=>simp[cO,c_]
theorem pe{cond:M Bool}(h:aW src st)(a b g:α->U)(p:α->Bool):∀(c:List α) (acc:List U),acc.length+c.length<=cK ->
  (∀y∈c,Run cond (a5 (.loc,a y)::a5 (.loc,b y)::st) (p y) (a5 (.loc,a y)::a5 (.loc,b y)::st)/\Run elt (a5 (.loc,a y)::a5 (.loc,b y)::st) (.loc,g y) (a5 (.loc,a y)::a5 (.loc,b y)::st)) ->
  Run (cj 2 bD cond elt src (c.map λy=>(Kd.loc,U.tup [a y,b y])) acc) st (acc++(c.filter p).map g) st
 |[],acc,_,_=>by rw[KD,SA,KD,rr];show qA h
 |y::c,acc,hl,f=>by
  have⟨d,j⟩:=f y (by simp);rw[i0]at hl;have i:Run (dN bD (eH 2) (.loc,.tup [a y,b y])) (i3 2 b8++st) () (a5 (.loc,a y)::a5 (.loc,b y)::st):=nF (.inl rfl);cases e:p y with
  |true =>
   rw[e]at d;show lH (s1:=a5 (.loc,a y)::a5 (.loc,b y)::st) (s2:=a5 (.loc,a y)::a5 (.loc,b y)::st) (s3:=a5 (.loc,a y)::a5 (.loc,b y)::st) (s4:=a5 (.loc,a y)::a5 (.loc,b y)::st) h i d j aJ ⋯ ?_;have:=pe h a b g p c (acc++[g y]) (by simp;lia) λz hz=>f z (by simp[hz]);rw[Jw,ĝ e,d8];simpa using this
  |false =>
   rw[e]at d;show sG (s1:=a5 (.loc,a y)::a5 (.loc,b y)::st) (s2:=a5 (.loc,a y)::a5 (.loc,b y)::st) h i d ?_;have:=pe h a b g p c acc ⋯ λz hz=>f z (by simp[hz]);rw[Jw,Ğ (by simp[e])];show this
def set_range(n:Nat)(f:Nat->α)(t:Nat)(v:α):((eH n).map f).set t v=(eH n).map λp=>if p=t then v else f p:=by
 apply L4
 .simp
 .intro i a b;simp only[List.getElem_set,Vp,List.getElem_range];by_cases e:t=i
  .subst e;simp
  .rw[Ğ e,Ğ (ri e)]
def BW{rows:List Row}{t:Nat}(h:rows[t]?=a5 r):JD (rows.map B') (t:Int)=a5 (B' r):=eI (by simp[h])
section
def CF(c:Run (ev Γ a) st x st1)(d:hU x.2=a5 e)(f:Run (ev Γ b) st1 y st2)(g:hU y.2=a5 h)(i:qd ln e h=a5 r):Run (ev Γ (.Nq ln a b)) st r st2 :=
 aa c (aa (cz d) (aa f (aa (cz g) (cz i))))
end
def gC(h:ss.length<4000):hU (.lst (ss.map .str))=a5 (aB ss):=by
 change(strsOf (ss.map U.str)).bind _=_;rw[dQ];change(if ss.length+1<zy then _ else _)=_;rw[ĝ (by change ss.length+1<4096;lia)]
def yZ(c:l.Perm m)(hs:m.Pairwise (λa b=>KJ a b=bD)):aP l=m:=gp ((bI l).trans c) (fR l) hs
end TM
namespace TM
open PySem L2
section
def dE(h:st[i]?=a5 (a5 (.io,u))):Run (ev Γ (.var i)) st (.bor i,u) st:=dG h
end
abbrev E2:List S :=
   [.ite (.cmp .eq (.bi .len [.var 0]) (.cst (.int 0)))
      [.ret (.lst [.var 1,.cst (.int 0),.cst (.int 1)])]
      [],
    .set 2 (.pop 0),
    .ret (.lst [(.bin .N5 (.var 2) (.cst (.int 2))),(.cst (.int 0)),(.bin .mod (.var 2) (.cst (.int 2)))])]
abbrev y0:Fn:=⟨"_law_source",2,3,.LN [0]::E2⟩
def VE:(3:Nat)<=cK:=by decide
def y4:gG Γ y0 [0] E2 [.lst [],.int k]=a5 (.ok (.own,.tup [.lst [.int k,.int 0,.int 1],.lst []])):=by
 show cp (st0:=[a5 (.io,.lst []),a5 (.loc,.int k),b8]) (f:=.rt .own (.lst [.int k,.int 0,.int 1])) (st:=[a5 (.io,.lst []),a5 (.loc,.int k),b8]) rfl rfl ?_ rfl rfl;apply jq
 all_goals repeat' (first|show dE rfl|show bp (by simp)|show bY|show VE|sizeOf_list_dec)
def y6:gG Γ y0 [0] E2 [.lst ((ns++[c]).map .int),.int k]=a5 (.ok (.own,.tup [.lst [.int (c / 2),.int 0,.int (c % 2)],.lst (ns.map .int)])):=by
 have hl:bK .eq (.int (((ns++[c]).map U.int).length:Nat)) (.int 0)=a5 cc:=bp (by simp;lia);have a:((ns++[c]).map U.int).dropLast=ns.map .int:=by simp
 have b:Run (ev Γ (.pop 0)) [a5 (.io,.lst ((ns++[c]).map .int)),a5 (.loc,.int k),b8] (.loc,.int c) [a5 (.io,.lst (ns.map .int)),a5 (.loc,.int k),b8]:=by
  have:=G0 (Γ:=Γ) (st:=[a5 (.io,.lst ((ns++[c]).map .int)),a5 (.loc,.int k),b8]) (i:=0) (u:=.int c) (us:=(ns++[c]).map .int) (k:=.io) rfl rfl (by simp);rw[a]at this;show this
 show cp (st0:=[a5 (.io,.lst ((ns++[c]).map .int)),a5 (.loc,.int k),b8]) (f:=.rt .own (.lst [.int (c / 2),.int 0,.int (c % 2)])) (st:=[a5 (.io,.lst (ns.map .int)),a5 (.loc,.int k),a5 (.loc,.int c)]) rfl rfl ?_ rfl rfl;show bf (st1:=[a5 (.io,.lst ((ns++[c]).map .int)),a5 (.loc,.int k),b8]) ?_ av (ax (st2:=[a5 (.io,.lst (ns.map .int)),a5 (.loc,.int k),a5 (.loc,.int c)]) b aH ?_)
 all_goals repeat' (first|show dE rfl|show hl|show bY|show VE|sizeOf_list_dec)
abbrev fO(a t w:Int):U:=.lst [.int a,.int t,.int w]
abbrev nJ(a t w m:Int):Int:=if w=0 then a % m else((a % 10 ^ 15+1) * 48271+(t+1) * (t+1) * 16807+(t+1) * 7919) % 2147483647 * 69621 % 2147483629 % m
abbrev y7(a w m:Int):Int:=if w=0 then a / m else a
abbrev CG:List S :=
   [.put 0 (.cst (.int 1)) (.bin .add (.idx (.var 0) (.cst (.int 1))) (.cst (.int 1))),
    .ite (.cmp .eq (.idx (.var 0) (.cst (.int 2))) (.cst (.int 0)))
      [.set 2 (.bin .mod (.idx (.var 0) (.cst (.int 0))) (.var 1)),
      .put 0 (.cst (.int 0)) (.bin .N5 (.idx (.var 0) (.cst (.int 0))) (.var 1)),
      .ret (.var 2)]
      [],
    .set 3 (.idx (.var 0) (.cst (.int 1))),
    .set 4 (.bin .add (.bin .add (.bin .mul (.bin .add (.bin .mod (.idx (.var 0) (.cst (.int 0))) (.bin .pow (.cst (.int 10)) (.cst (.int 15)))) (.cst (.int 1))) (.cst (.int 48271))) (.bin .mul (.bin .mul (.var 3) (.var 3)) (.cst (.int 16807)))) (.bin .mul (.var 3) (.cst (.int 7919)))),
    .ret (.bin .mod (.bin .mod (.bin .mul (.bin .mod (.var 4) (.cst (.int 2147483647))) (.cst (.int 69621))) (.cst (.int 2147483629))) (.var 1))]
abbrev uK:Fn:=⟨"_law_draw",2,5,.LN [0]::CG⟩
def y8(i:0<=t)(j:t<2 ^ 62)(m0:0<m)(m1:m<1073741824):gG Γ uK [0] CG [fO a t w,.int m]=a5 (.ok (.loc,.tup [.int (nJ a t w m),fO (y7 a w m) (t+1) w])):=by
 unfold nJ y7 fO;have c:∀a t w:Int,JD [U.int a,.int t,.int w] 0=a5 (.int a):=λa t w=>rfl;have d:∀a t w:Int,JD [U.int a,.int t,.int w] 1=a5 (.int t):=λa t w=>rfl;have e:∀a t w:Int,JD [U.int a,.int t,.int w] 2=a5 (.int w):=λa t w=>rfl;have g:∀a t w x:Int,eE (.int 1) (.int x) (.lst [.int a,.int t,.int w])=a5 (.lst [.int a,.int x,.int w]):=λa t w x=>rfl;have h:∀a t w x:Int,eE (.int 0) (.int x) (.lst [.int a,.int t,.int w])=a5 (.lst [.int x,.int t,.int w]):=λa t w x=>rfl;by_cases b:w=0
 .subst b;rw[ĝ rfl,ĝ rfl];show cp (st0:=[a5 (.io,.lst [.int a,.int t,.int 0]),a5 (.loc,.int m),b8,b8,b8]) (f:=.rt .loc (.int (a % m))) (st:=[a5 (.io,.lst [.int (a / m),.int (t+1),.int 0]),a5 (.loc,.int m),a5 (.loc,.int (a % m)),b8,b8]) rfl rfl ?_ rfl rfl;show iR (rv:=(.loc,.int (t+1))) (rk:=(.loc,.int 1)) (k:=.io) (k':=.io) (bE (br (dE rfl) ai ∅ (cy (d _ _ _))) ai ∅ cu) rfl ai (aD aJ (aD aJ aI)) rfl rfl (g _ _ _ _) ?_;apply jq
  .repeat' (first|show dE rfl|show cy (e _ _ _)|show bp (show((0:Int)==0)=bD from rfl)|sizeOf_list_dec)
  .show ax (st2:=[a5 (.io,.lst [.int a,.int (t+1),.int 0]),a5 (.loc,.int m),a5 (.loc,.int (a % m)),b8,b8]) (bE (br (dE rfl) ai ∅ (cy (c _ _ _))) (af rfl) ∅ (eM m0)) aH ?_;show iR (rv:=(.loc,.int (a / m))) (rk:=(.loc,.int 0)) (k:=.io) (k':=.io) (bE (br (dE rfl) ai ∅ (cy (c _ _ _))) (af rfl) ∅ (lI ⟨m0,m1⟩)) rfl ai (aD aJ (aD aJ aI)) rfl rfl (h _ _ _ _) ?_
   repeat' sizeOf_list_dec
 .rw[Ğ b,Ğ b];show cp (st0:=[a5 (.io,.lst [.int a,.int t,.int w]),a5 (.loc,.int m),b8,b8,b8]) (f:=.rt .loc (.int (((a % 10 ^ 15+1) * 48271+(t+1) * (t+1) * 16807+(t+1) * 7919) % 2147483647 * 69621 % 2147483629 % m))) (st:=[a5 (.io,.lst [.int a,.int (t+1),.int w]),a5 (.loc,.int m),b8,a5 (.loc,.int (t+1)),a5 (.loc,.int ((a % 10 ^ 15+1) * 48271+(t+1) * (t+1) * 16807+(t+1) * 7919))]) rfl rfl ?_ rfl rfl;show iR (rv:=(.loc,.int (t+1))) (rk:=(.loc,.int 1)) (k:=.io) (k':=.io) (bE (br (dE rfl) ai ∅ (cy (d _ _ _))) ai ∅ cu) rfl ai (aD aJ (aD aJ aI)) rfl rfl (g _ _ _ _) ?_;apply bf
  .repeat' (first|show dE rfl|show cy (e _ _ _)|show bp (show(w==0)=cc by simp[b])|sizeOf_list_dec)
  .show av
  .repeat' (first|show dE rfl|show cy (c _ _ _)|show cy (d _ _ _)|show eM m0|sizeOf_list_dec)
abbrev Src(T:Int)(u:U):Prop:=∃a t w,u=fO a t w/\0<=t/\t<=T
def Src.up(h:Src T u)(l:T<=b):Src b u:=let ⟨a,t,w,e,c,d⟩:=h;⟨a,t,w,e,c,ÿ d l⟩
abbrev aZ(Γ:Tab):Prop:=∀(T m:Int) (u:U),Src T u->T<2 ^ 62->0<m->m<1073741824->∃n u',Γ "_law_draw" [u,.int m]=a5 (.ok (.loc,.tup [.int n,u']))/\0<=n/\n<m/\Src (T+1) u'
def qN(m0:0<m):0<=nJ a t w m/\nJ a t w m<m:=by
 unfold nJ;split
 .show⟨QL _ ⋯,Rw _ m0⟩
 .show⟨QL _ ⋯,Rw _ m0⟩
def sM(h:IY Pg "_law_draw" uK):aZ (IJ Pg (d+1)):=by
 rintro T m u ⟨a,t,w,rfl,b,c⟩ e m0 m1;show⟨nJ a t w m,fO (y7 a w m) (t+1) w,?_,(qN m0).1,(qN m0).2,⟨_,_,_,rfl,⋯,⋯⟩⟩;rw[cI h _ rfl];show y8 b ⋯ m0 m1
section
def y9(o:aZ Γ)(p:st[i]?=a5 (a5 (k0,b)))(f:k0.root=bD)(q:Run (ev Γ e) st (.loc,.int m) st1)(d:st1[i]?=a5 (a5 (k,u)))(hk:k.root=bD)(g:Src T u)(r:T<2 ^ 62)(m0:0<m)(m1:m<1073741824):
  ∃n u',Run (ev Γ (.Iy "_law_draw" [.var i,e] [0])) st (.loc,.int n) (st1.set i (a5 (k,u')))/\0<=n/\n<m/\Src (T+1) u':=by
 have⟨n,u',s,v,x,hs⟩:=o T m u g r m0 m1;show⟨n,u',?_,v,x,hs⟩;obtain⟨a,t,w,rfl,_,_⟩:=hs;obtain⟨a0,h,l,rfl,_,_⟩:=g;have y:Run (ev Γ (.var i)) st (.bor i,b) st:=by
  have:=dG p (by rintro rfl;cases f);unfold kv at this;rw[ĝ f]at this;show this
 have c:[((Kd.bor i,b):Kd×U),(.loc,.int m)].map (eD st1)=[(.bor i,fO a0 h l),(.loc,.int m)]:=by
  change [eD st1 (.bor i,b),(.loc,.int m)]=_;unfold eD
  dsimp only
  rw[d];simp[hk]
 show sH (rs:=[(.bor i,b),(.loc,.int m)]) (ws:=[fO a t w]) (st1:=st1) (ae y (ae q aj)) ?_ ?_ (.inr rfl) ?_ ?_
 .rw[c];show⟨⟨k,hk,d⟩,trivial⟩
 .rw[c];show s
 .rw[c];change((bD&&cn ([a5 i].Nodup))&&(bD&&(bD&&bD)))=bD;simp
 .rw[c];change(match hZ [(Kd.bor i,fO a0 h l),(.loc,.int m)] 0 with|some j=>(match fO a t w,st1[j]? with|.lst us,a5 (a5 (k,_))=>gP _ [] [] (st1.set j (a5 (k,.lst us)))|_,_=>b8)|none=>b8)=_;change(match fO a t w,st1[i]? with|.lst us,a5 (a5 (k,_))=>gP _ [] [] (st1.set i (a5 (k,.lst us)))|_,_=>b8)=_;rw[d];rfl
def cA(b:aZ Γ)(a:st[i]?=a5 (a5 (k,u)))(hk:k.root=bD)(c:Run (ev Γ e) st (.loc,.int m) st)(d:Src T u)(f:T<2 ^ 62)(m0:0<m)(m1:m<1073741824):
  ∃n u',Run (ev Γ (.Iy "_law_draw" [.var i,e] [0])) st (.loc,.int n) (st.set i (a5 (k,u')))/\0<=n/\n<m/\Src (T+1) u':=y9 b a hk c a hk d f m0 m1
end
section
def ju(h:st[i]?=a5 (a5 (.loc,.bl b))):Run (IX Γ (.var i)) st b st:=aa (dG h) (cz rfl)
end
abbrev y_:List S :=
   [.set 6 (.idx (.var 1) (.Iy "_law_draw" [.var 0,.bi .len [.var 1]] [0])),
   .ite (.and [.var 3,.cmp .gt (.var 2) (.cst (.int 0))])
    [.set 6 (.idx (.var 1) (.Iy "_law_draw" [.var 0,.var 2] [0]))]
    [],
   .ite (.cmp .IH (.var 6) (.var 4))
    [.app 4 (.var 6)]
    []]
abbrev G_:List U:=[.int 0,.int 1,.int 1,.int 2,.int 2,.int 3,.int 8,.int 2]
abbrev Ha:List S :=
   [.set 4 (.lst []),
    .IU cc [5] .Js [.idx (.lst [.cst (.int 0),.cst (.int 1),.cst (.int 1),.cst (.int 2),.cst (.int 2),.cst (.int 3),.cst (.int 8),.cst (.int 2)]) (.Iy "_law_draw" [.var 0,.cst (.int 8)] [0])] y_,
    .ret (.tup [(.idx (.var 1) (.var 2)),(.bi .tuple [(.var 4)])])]
abbrev E3:Fn:=⟨"_law_row",4,7,.LN [0]::Ha⟩
abbrev eB(u:U)(ws:List Str)(at_:Int)(b:Bool)(told:List Str)(o5 o6:Option (Kd×U)):aw:=[a5 (.io,u),a5 (.any,.lst (ws.map .str)),a5 (.loc,.int at_),a5 (.loc,.bl b),a5 (.own,.lst (told.map .str)),o5,o6]
def pf{ws:List Str}{n:Int}(b:0<=n)(c:n<ws.length):∃x,x∈ws/\ws[n.toNat]?=a5 x/\JD (ws.map U.str) n=a5 (.str x):=by
 have⟨k,rfl⟩:=vr b;have a:k<ws.length:=by lia
 show⟨ws[k],Jq a,by simp[a],eI (by simp[a])⟩
def za(h:aZ Γ)(r:Src T u)(D:T+1<2 ^ 62)(G:ws.length<1000000)(a0:0<=at_)(H:at_<ws.length)(I:told.length<=8):
  ∃u' x a,Run (execs Γ y_) (eB u ws at_ b told o5 o6) .nx (eB u' ws at_ b a o5 (a5 (.any,.str x)))/\Src (T+2) u'/\(a=told\/(x∈ws/\x∉told/\a=told++[x])):=by
 have s:(8:Nat)<cK:=by decide
 have⟨n,d,t,v,j,s1⟩:=cA (st:=eB u ws at_ b told o5 o6) h (i:=0) (k:=.io) (e:=.bi .len [.var 1]) (m:=((ws.map U.str).length:Nat)) rfl rfl (cv (ae (ba rfl) aj) trivial bY) r ⋯ (by simp;lia) (by simp;lia);rw[c4]at j;obtain⟨x,w,_,ex⟩:=pf v j;have l:Run (ev Γ (.idx (.var 1) (.Iy "_law_draw" [.var 0,.bi .len [.var 1]] [0]))) (eB u ws at_ b told o5 o6) (.any,.str x) (eB d ws at_ b told o5 o6):=br (ba rfl) t trivial (cy (k:=.any) ex);have c:∀(u2:U) (y:Str),y∈ws->Src (T+2) u2->∃u' x a,Run (execs Γ [.ite (.cmp .IH (.var 6) (.var 4)) [.app 4 (.var 6)] []]) (eB u2 ws at_ b told o5 (a5 (.any,.str y))) .nx (eB u' ws at_ b a o5 (a5 (.any,.str x)))/\Src (T+2) u'/\(a=told\/(x∈ws/\x∉told/\a=told++[x])):=by
  intro u2 y f hs;by_cases g:y∈told
  .show⟨u2,y,told,?_,hs,.inl rfl⟩;show bf (aG (ba rfl) (aC rfl) ∅ (fg.trans (by simp[g]))) av av
  .show⟨u2,y,told++[y],?_,hs,.inr ⟨f,g,rfl⟩⟩;show du (aG (ba rfl) (aC rfl) ∅ (fg.trans (by simp[g]))) (gc (k:=.own) (k':=.own) rfl (ba rfl) (qz rfl) rfl rfl (by simp;lia) av) ?_;rw[show told.map U.str++[U.str y]=(told++[y]).map U.str by simp];show av
 by_cases o:b=bD/\0<at_
 .have⟨rfl,p⟩:=o;have⟨J,u2,A,B,L,s2⟩:=cA (st:=eB d ws at_ bD told o5 (a5 (.any,.str x))) h (i:=0) (k:=.io) (e:=.var 2) (m:=at_) rfl rfl (af rfl) s1 ⋯ p ⋯;obtain⟨y,f,_,C⟩:=pf (ws:=ws) B ⋯;have⟨u',z,a,q,hs,ho⟩:=c u2 y f (s2.up ⋯);show⟨u',z,a,ax l jL (du (d9 (fD (ju rfl) (cw (aG (af rfl) ai trivial (fK (by simp[p])))))) (ax (br (ba rfl) A trivial (cy (k:=.any) C)) jL av) q),hs,ho⟩
 .have⟨u',z,a,q,hs,ho⟩:=c d x w (s1.up ⋯);show⟨u',z,a,ax l jL (bf (st1:=eB d ws at_ b told o5 (a5 (.any,.str x))) (d9 ?_) av q),hs,ho⟩;cases b with
  |false=>show lF (ju rfl)
  |true=>show fD (ju rfl) (cw (aG (af rfl) ai trivial (fK (by simp at o ⊢;lia))))
abbrev lO(Γ:Tab):Prop:=∀(T at_:Int) (u:U) (ws:List Str) (b:Bool),Src T u->T+17<2 ^ 62->ws.length<1000000->0<=at_->at_<ws.length->∃(x:Str) (told:List Str) (u':U),Γ "_law_row" [u,.lst (ws.map .str),.int at_,.bl b]=a5 (.ok (.loc,.tup [.tup [.str x,.tup (told.map .str)],u']))/\ws[at_.toNat]?=a5 x/\told.Nodup/\(∀y∈told,y∈ws)/\told.length<=8/\Src (T+17) u'
def BX(a:0<=n)(b:n<8):∃m:Nat,m<=8/\JD G_ n=a5 (.int (m:Nat)):=by
 have⟨k,rfl⟩:=vr a;have:k=0\/k=1\/k=2\/k=3\/k=4\/k=5\/k=6\/k=7:=by lia
 rcases this with rfl|rfl|rfl|rfl|rfl|rfl|rfl|rfl
 .show⟨0,⋯,rfl⟩
 .show⟨1,⋯,rfl⟩
 .show⟨1,⋯,rfl⟩
 .show⟨2,⋯,rfl⟩
 .show⟨2,⋯,rfl⟩
 .show⟨3,⋯,rfl⟩
 .show⟨8,⋯,rfl⟩
 .show⟨2,⋯,rfl⟩
def BY(l:aZ Γ){ws:List Str}{T at_:Int}(o:Src T u)(hT:T+17<2 ^ 62)(A:ws.length<1000000)(a0:0<=at_)(p:at_<ws.length):
  ∃(x:Str) (told:List Str) (u':U),gG Γ E3 [0] Ha [u,.lst (ws.map .str),.int at_,.bl b]=a5 (.ok (.loc,.tup [.tup [.str x,.tup (told.map .str)],u']))/\ws[at_.toNat]?=a5 x/\told.Nodup/\(∀y∈told,y∈ws)/\told.length<=8/\Src (T+17) u':=by
 have B:(8:Nat)<cK:=by decide
 obtain⟨x,_,C,ex⟩:=pf a0 p;have⟨n,s,D,G,H,s1⟩:=cA (st:=eB u ws at_ b [] b8 b8) l (i:=0) (k:=.io) (e:=.cst (.int 8)) (m:=8) rfl rfl ai o ⋯ ⋯ ⋯;have⟨m,hm,em⟩:=BX G H;obtain⟨st',I,u2,told,o5,o6,rfl,s2,g,j,v,_⟩:=bZ (rs:=[(.loc,.int (m:Nat))]) (t:=cc) (is:=[5]) (body:=execs Γ y_) (λi:Nat=>(Kd.loc,U.int (0+(i:Int)))) (λd r st=>∃(u2:U) (told:List Str) (o5 o6:Option (Kd×U)),st=eB u2 ws at_ b told o5 o6/\Src (T+1+2 * (d.length:Nat)) u2/\told.Nodup/\(∀y∈told,y∈ws)/\told.length<=d.length/\d.length+r.length=m)
  (λd r st _=>trivial) (λd y r st h=>by
   have⟨u2,told,o5,o6,rfl,s2,g,j,v,J⟩:=h;simp only[i0]at J;have⟨L,z,N,q,s3,ho⟩:=za l (u:=u2) (ws:=ws) (told:=told) (b:=b) (at_:=at_) (o5:=a5 (.loc,.int (0+(y:Int)))) (o6:=o6) s2 ⋯ A a0 p ⋯;show⟨eB u2 ws at_ b told (a5 (.loc,.int (0+(y:Int)))) o6,_,aH,q,L,N,_,_,rfl,s3.up (by simp;lia),?_⟩;rw[ia,NI];rcases ho with rfl|⟨O,Q,rfl⟩
   .show⟨g,j,⋯,⋯⟩
   .show⟨sx.mpr ⟨g,by simp,λa Y c w=>by rw[hV]at w;subst w;show λe=>Q (e▸Y)⟩,λy hy=>?_,by simp;lia,⋯⟩;rcases hY.mp hy with hy|hy
    .show j y hy
    .rw[hV]at hy;subst hy;show O) (eH m) [] (eB s ws at_ b [] b8 b8) ⟨s,[],b8,b8,rfl,by simpa using s1,by simp,by simp,by simp,by simp⟩
 rw[i8,ve]at s2 v;show⟨x,told,u2,?_,C,g,j,⋯,s2.up ⋯⟩;show cp (st0:=[a5 (.io,u),a5 (.any,.lst (ws.map .str)),a5 (.loc,.int at_),a5 (.loc,.bl b),b8,b8,b8]) (f:=.rt .loc (.tup [.str x,.tup (told.map .str)])) (st:=eB u2 ws at_ b told o5 o6) rfl ?_ ?_ rfl rfl
 .obtain⟨_,_,_,rfl,_⟩:=o;rfl
 show ax (st2:=eB u ws at_ b [] b8 b8) (cm aj trivial aI (i7 _)) a9 ?_;show c6 (rs:=[(.loc,.int (m:Nat))]) (ae (br (x:=(.own,.lst G_)) (cm (by repeat (first|show aj|show ae ai (by assumption)|apply ae ai)) (by show trivial) (by repeat (first|show aI|apply aD aJ)) (by decide)) D trivial (cy em)) aj) trivial (eU ⋯) rfl I ?_;show bO (gR (ae (br (ba rfl) (af rfl) trivial (cy (k:=.any) ex)) (ae (cv (ae (aC rfl) aj) ∅ rfl) aj)) trivial (aD (qz rfl) (aD aJ aI)) (by change 2<=cK;lia)) dH
def Hb(a:aZ (IJ Pg d))(h:IY Pg "_law_row" E3):lO (IJ Pg (d+1)):=by
 intro T at_ u ws b c f g a0 i;have⟨x,told,u',e,r⟩:=BY a (b:=b) c f g a0 i;show⟨x,told,u',by rw[cI h _ rfl];show e,r⟩
abbrev CH:List S :=
   [.ite (.and [.cmp .eq (.idx (.var 2) (.cst (.int 0))) (.idx (.var 1) (.cst (.int 0))),.cmp .eq (.bi .sorted [.idx (.var 2) (.cst (.int 1))]) (.bi .sorted [.idx (.var 1) (.cst (.int 1))])])
    [.LM]
    []]
abbrev Hc:List S:=[.IU cc [2] .seq [.var 0] CH,.app 0 (.var 1)]
abbrev BZ:Fn:=⟨"_law_lay",2,3,.LN [0]::Hc⟩
abbrev gS(rs:List Row)(r:Row)(o:Option (Kd×U)):aw:=[a5 (.io,.lst (rs.map B')),a5 (.loc,B' r),o]
abbrev layR(rs:List Row)(r:Row):List Row:=if keyOf r∈rs.map keyOf then rs else rs++[r]
def zb(c:x.2.length<64)(d:r.2.length<64):Run (IX Γ (.and [.cmp .eq (.idx (.var 2) (.cst (.int 0))) (.idx (.var 1) (.cst (.int 0))),.cmp .eq (.bi .sorted [.idx (.var 2) (.cst (.int 1))]) (.bi .sorted [.idx (.var 1) (.cst (.int 1))])])) (gS rs r (a5 (.loc,B' x))) (cn (keyOf x=keyOf r)) (gS rs r (a5 (.loc,B' x))):=by
 have a:∀y:Row,gE (.loc,B' y) (.int 0)=a5 (.loc,.str y.1):=λy=>rfl;have b:∀y:Row,gE (.loc,B' y) (.int 1)=a5 (.loc,.tup (y.2.map .str)):=λy=>rfl;have f:Run (IX Γ (.cmp .eq (.idx (.var 2) (.cst (.int 0))) (.idx (.var 1) (.cst (.int 0))))) (gS rs r (a5 (.loc,B' x))) (cn (x.1=r.1)) (gS rs r (a5 (.loc,B' x))):=aG (br (af rfl) ai trivial (a x)) (br (af rfl) ai trivial (a r)) trivial uE;have g:Run (IX Γ (.cmp .eq (.bi .sorted [.idx (.var 2) (.cst (.int 1))]) (.bi .sorted [.idx (.var 1) (.cst (.int 1))]))) (gS rs r (a5 (.loc,B' x))) (cn (aP x.2=aP r.2)) (gS rs r (a5 (.loc,B' x))):=aG (cv (ae (br (af rfl) ai trivial (b x)) aj) trivial (sorted_strs c)) (cv (ae (br (af rfl) ai trivial (b r)) aj) trivial (sorted_strs d)) trivial iS;have e:cn (keyOf x=keyOf r)=(cn (x.1=r.1)&&cn (aP x.2=aP r.2)):=by
  rw[<-Bool.decide_and];show decide_eq_decide.mpr (by unfold keyOf;show WG ..▸Iff.rfl)
 rw[e];show d9 (oX f λ_=>cw g)
def E4:Run (execs Γ (.LM::ss)) st (.rt .loc .ID) st:=oU (aK)
theorem qO(c:r.2.length<64):∀(xs:List Row) (o:Option (Kd×U)),(∀x∈xs,x.2.length<64) ->
  ∃b,Run (forM cc [2] (execs Γ CH) [(.bor 0,.lst (rs.map B'))] (xs.map λx=>(Kd.loc,B' x))) (gS rs r o) (if keyOf r∈xs.map keyOf then .rt .loc .ID else .nx) (gS rs r b)
 |[],o,_=>⟨o,by rw[Ğ (by simp)];show CD ⟨⟨_,rfl,rfl⟩,trivial⟩⟩
 |x::xs,o,h=>by
  have a:=zb (Γ:=Γ) (rs:=rs) (h x (by simp)) c;by_cases hk:keyOf x=keyOf r
  .show⟨a5 (.loc,B' x),?_⟩;rw[ĝ (by simp[hk])];rw[Ġ hk]at a;show Im ⟨⟨_,rfl,rfl⟩,trivial⟩ aH (jq a E4)
  .rw[ğ hk]at a;have⟨b,q⟩:=qO (Γ:=Γ) (rs:=rs) c xs (a5 (.loc,B' x)) λy d=>h y (by simp[d]);show⟨b,?_⟩;have f:(keyOf r∈(x::xs).map keyOf)↔(keyOf r∈xs.map keyOf):=by
    rw[d8,d3];show⟨λz=>z.resolve_left λe=>hk e.symm,.inr⟩
   rw[show(if keyOf r∈(x::xs).map keyOf then Fl.rt .loc .ID else Fl.nx)=(if keyOf r∈xs.map keyOf then Fl.rt .loc .ID else Fl.nx) by simp only[f]];show GZ ⟨⟨_,rfl,rfl⟩,trivial⟩ aH (bf a av av) q
def B0(b:r.2.length<64)(h:∀x∈rs,x.2.length<64)(hl:rs.length<1000):gG Γ BZ [0] Hc [.lst (rs.map B'),B' r]=a5 (.ok (.loc,.tup [.ID,.lst ((layR rs r).map B')])):=by
 have c:(1000:Nat)<cK:=by decide
 have⟨d,q⟩:=qO (Γ:=Γ) b rs b8 h;have hs:cS [0] [.lst (rs.map B'),B' r] BZ.ns=gS rs r b8:=by
  change [a5 (Kd.io,U.lst (rs.map B')),a5 (if I0 (B' r)=bD then Kd.loc else Kd.any,B' r),b8]=_;rw[ĝ (uD r)];rfl
 have a:Ky .seq [(Kd.bor 0,U.lst (rs.map B'))]=a5 (rs.map λx=>(Kd.loc,B' x)):=by
  change a5 ((rs.map B').map λu=>(kE (.bor 0),u))=_;rw[ke];rfl
 unfold layR;by_cases hk:keyOf r∈rs.map keyOf
 .rw[ĝ hk]at q ⊢;show cp (f:=.rt .loc .ID) rfl hs (oU (CC (ae (dE rfl) aj) ⟨⟨_,rfl,rfl⟩,trivial⟩ a rfl q)) rfl rfl
 .rw[Ğ hk]at q ⊢;show cp (f:=.nx) (st:=gS (rs++[r]) r d) rfl hs (c6 (ae (dE rfl) aj) ⟨⟨_,rfl,rfl⟩,trivial⟩ a rfl q (gc (k:=.io) (k':=.io) rfl (af rfl) aJ rfl rfl (by simp;lia) ?_)) rfl rfl;rw[show rs.map B'++[B' r]=(rs++[r]).map B' by simp];show av
abbrev lP(Γ:Tab):Prop:=∀(rs:List Row) (r:Row),r.2.length<64->(∀x∈rs,x.2.length<64)->rs.length<1000->Γ "_law_lay" [.lst (rs.map B'),B' r]=a5 (.ok (.loc,.tup [.ID,.lst ((layR rs r).map B')]))
def He(h:IY Pg "_law_lay" BZ):lP (IJ Pg (d+1)):=λrs r a b hl=>by
 rw[cI h _ rfl];show B0 a b hl
abbrev Rb:Kd×U->Bool
 |(.bor _,_)=>cc
 |_=>bD
section
def zc(h:Rb r=bD):eD st r=r:=by
 have⟨k,u⟩:=r;cases k<;>first|rfl|cases h
def v7(h:Rb r=bD):qe a r=bD:=by
 have⟨k,u⟩:=r;cases k<;>first|rfl|cases h
def zd(h:rs.all Rb=bD):aW rs st:=by
 induction rs with
 |nil=>trivial
 |cons r rs a =>
  have⟨k,u⟩:=r;rw[Ö,cb]at h;have:=a h.2;cases k<;>first|show this|cases h.1
def uL(h:st[i]?=a5 (a5 (k0,a)))(g:k0.root=bD)(j:Run (bb Γ es) st rs st1)(c:st1[i]?=a5 (a5 (k,.lst us)))(hk:k.root=bD)(l:cH us=bD)(m:rs.map (eD st1)=rs)(n:aW rs st1)(o:∀r∈rs,qe [a5 i] r=bD)
  (p:Γ f (.lst us::rs.map (·.2))=a5 (.ok (d,.tup [v,.lst us']))) (s:d=.own\/d=.loc):Run (ev Γ (.Iy f (.var i::es) [0])) st (d,v) (st1.set i (a5 (k,.lst us'))):=by
 have t:Run (ev Γ (.var i)) st (.bor i,a) st:=by
  have:=dG h (by rintro rfl;cases g);unfold kv at this;rw[ĝ g]at this;show this
 have u:eD st1 (.bor i,a)=(.bor i,.lst us):=by
  unfold eD
  dsimp only
  rw[c];simp[hk]
 have b:((Kd.bor i,a)::rs).map (eD st1)=(.bor i,.lst us)::rs:=by rw[d8,u,m]
 have e:hZ ((Kd.bor i,U.lst us)::rs) 0=a5 i:=by
  change(if cH us=bD then a5 i else b8)=_;rw[ĝ l]
 show sH (rs:=(.bor i,a)::rs) (ws:=[.lst us']) (st1:=st1) (ae t j) ?_ ?_ s ?_ ?_
 .rw[b];show⟨⟨k,hk,c⟩,n⟩
 .rw[b];show p
 .rw[b];unfold qf;rw[cb,cb];show⟨⟨by simp[e],by simp⟩,i6.mpr λq w=>?_⟩;cases q with
  |zero=>simp
  |succ q =>
   have hl:q<rs.length:=by have:=tA.mp w;simpa using this
   rw[LF];show .inr ?_;rw[show((Kd.bor i,U.lst us)::rs).getD (q+1) (.loc,.ID)=rs[q] by simp[Ov,hl]];simp only[d8,KD,e];show o _ (Jq hl)
 .rw[b];unfold gP;rw[e]
  dsimp only
  rw[c];rfl
def ig(d:st[i]?=a5 (a5 (k0,n)))(e:k0.root=bD)(g:Run (bb Γ es) st rs st1)(h:st1[i]?=a5 (a5 (k,.lst us)))(hk:k.root=bD)(j:cH us=bD)(a:rs.all Rb=bD)
  (l:Γ f (.lst us::rs.map (·.2))=a5 (.ok (b,.tup [v,.lst us']))) (m:b=.own\/b=.loc):Run (ev Γ (.Iy f (.var i::es) [0])) st (b,v) (st1.set i (a5 (k,.lst us'))) :=
 uL d e g h hk j ((wk λr c=>zc (i6.mp a r c)).trans (YR rs)) (zd a) (λr c=>v7 (i6.mp a r c)) l m
end
section
def ze(p:lO Γ){ws:List Str}(c:st[i]?=a5 (a5 (k0,G)))(d:k0.root=bD)(f:st[j]?=a5 (a5 (kw,.lst (ws.map .str))))(q:kw=.loc\/kw=.any)(g:Run (ev Γ e) st (.loc,.int at_) st1)(h:Run (ev Γ t) st1 (.loc,.bl b) st2)
  (l:st2[i]?=a5 (a5 (k,u))) (hk:k.root=bD) (m:Src T u) (s:T+17<2 ^ 62) (v:ws.length<1000000) (a0:0<=at_) (z:at_<ws.length) :
  ∃(r:Row) (u':U),Run (ev Γ (.Iy "_law_row" [.var i,.var j,e,t] [0])) st (.loc,B' r) (st2.set i (a5 (k,u')))/\ws[at_.toNat]?=a5 r.1/\r.2.Nodup/\(∀y∈r.2,y∈ws)/\r.2.length<=8/\Src (T+17) u':=by
 have⟨x,told,u',n,A,B,C,D,o⟩:=p T at_ u ws b m s v a0 z;show⟨(x,told),u',?_,A,B,C,D,o⟩;obtain⟨a,t',w,rfl,_,_⟩:=m;obtain⟨H,I,J,rfl,_,_⟩:=o;rcases q with rfl|rfl
 .show ig (rs:=[(.loc,.lst (ws.map .str)),(.loc,.int at_),(.loc,.bl b)]) c d (ae (af f) (ae g (ae h aj))) l hk rfl rfl n (.inr rfl)
 .show ig (rs:=[(.any,.lst (ws.map .str)),(.loc,.int at_),(.loc,.bl b)]) c d (ae (ba f) (ae g (ae h aj))) l hk rfl rfl n (.inr rfl)
def zf(a:lP Γ)(b:st[i]?=a5 (a5 (k0,j)))(c:k0.root=bD)(d:Run (ev Γ e) st (.loc,B' r) st1)(f:st1[i]?=a5 (a5 (k,.lst (rs.map B'))))(hk:k.root=bD)(g:r.2.length<64)(h:∀x∈rs,x.2.length<64)(hl:rs.length<1000):
  Run (ev Γ (.Iy "_law_lay" [.var i,e] [0])) st (.loc,.ID) (st1.set i (a5 (k,.lst ((layR rs r).map B')))) :=
 ig (rs:=[(.loc,B' r)]) b c (ae d aj) f hk (bP rs) rfl (a rs r g h hl) (.inr rfl)
def CI(a:Run (ev Γ e) st r st1)(b:Run (execs Γ ss) st1 f st2):Run (execs Γ (.exp e::ss)) st f st2:=fE (aa a aK) b
abbrev iW(Γ:Tab):Prop:=(∀k:Int,Γ "_law_source" [.lst [],.int k]=a5 (.ok (.own,.tup [fO k 0 1,.lst []])))/\∀(ns:List Int) (c k:Int),Γ "_law_source" [.lst ((ns++[c]).map .int),.int k]=a5 (.ok (.own,.tup [fO (c / 2) 0 (c % 2),.lst (ns.map .int)]))
def zg(h:IY Pg "_law_source" y0):iW (IJ Pg (d+1)):=⟨λk=>by rw[cI h _ rfl];show y4,λns c k=>by rw[cI h _ rfl];show y6⟩
theorem gD:∀ns:List Int,cH (ns.map U.int)=bD
 |[]=>rfl
 |n::ns=>by change(bD&&cH (ns.map U.int))=bD;rw[gD ns];rfl
def zh(a:iW Γ)(b:st[i]?=a5 (a5 (k0,h)))(d:k0.root=bD)(f:Run (ev Γ e) st (.loc,.int m) st1)(g:st1[i]?=a5 (a5 (k,.lst ((ns++[c]).map .int))))(hk:k.root=bD):
  Run (ev Γ (.Iy "_law_source" [.var i,e] [0])) st (.own,fO (c / 2) 0 (c % 2)) (st1.set i (a5 (k,.lst (ns.map .int)))) :=
 ig (rs:=[(.loc,.int m)]) b d (ae f aj) g hk (gD _) rfl (a.2 ns c m) (.inl rfl)
def E5(a:iW Γ)(b:st[i]?=a5 (a5 (k0,g)))(c:k0.root=bD)(d:Run (ev Γ e) st (.loc,.int m) st1)(f:st1[i]?=a5 (a5 (k,.lst [])))(hk:k.root=bD):
  Run (ev Γ (.Iy "_law_source" [.var i,e] [0])) st (.own,fO m 0 1) (st1.set i (a5 (k,.lst []))) :=
 ig (rs:=[(.loc,.int m)]) b c (ae d aj) f hk rfl rfl (a.1 m) (.inl rfl)
end
abbrev sN:List S :=
   [.set 6 (.Iy "_law_draw" [.var 1,.bi .len [.var 2]] [0]),
   .ite (.cmp .eq (.var 4) (.cst (.int 3)))
    [.set 6 (.bin .mod (.var 5) (.bi .len [.var 2]))]
    [],
   .exp (.Iy "_law_lay" [(.var 3),(.Iy "_law_row" [(.var 1),(.var 2),(.var 6),(.cmp .gt (.var 4) (.cst (.int 1)))] [0])] [0])]
abbrev sO:List S :=
   [.set 7 (.Iy "_law_source" [.var 0,.cst (.int 0)] [0]),
   .exp (.Iy "_law_lay" [(.var 3),(.Iy "_law_row" [(.var 7),(.var 2),(.Iy "_law_draw" [(.var 7),(.bi .len [(.var 2)])] [0]),(.cmp .eq (.var 4) (.cst (.int 2)))] [0])] [0])]
abbrev dA(ns:List Int)(u:U)(ws:List Str)(rs:List Row)(way:Int)(o5 o6 o7:Option (Kd×U)):aw:=[a5 (.io,.lst (ns.map .int)),a5 (.io,u),a5 (.any,.lst (ws.map .str)),a5 (.own,.lst (rs.map B')),a5 (.loc,.int way),o5,o6,o7]
abbrev bQ(ws:List Str)(r:Row):Prop:=r.1∈ws/\r.2.Nodup/\(∀y∈r.2,y∈ws)/\r.2.length<=8
abbrev dw(ws:List Str)(rs:List Row):Prop:=(∀r∈rs,bQ ws r)/\(rs.map keyOf).Nodup
def dw.lay(h:dw ws rs)(d:bQ ws r):dw ws (layR rs r):=by
 unfold layR;split
 .show h
 .rename_i hk;show⟨λx hx=>?_,?_⟩
  .rcases hY.mp hx with hx|hx
   .show h.1 x hx
   .rw[hV]at hx;subst hx;show d
  .rw[i9];show sx.mpr ⟨h.2,by simp,λa f c b=>by rw[UK,hV]at b;subst b;show λe=>hk (e▸f)⟩
def qP:(layR rs r).length<=rs.length+1:=by
 unfold layR;split
 .lia
 .simp
def v8(s:aZ Γ)(v:lO Γ)(w:lP Γ){k:Nat}(y:Src T u)(N:T+18<2 ^ 62)(O:0<ws.length)(z:ws.length<1000000)(h:dw ws rs)(hl:rs.length<1000):
  ∃u' a c,Run (execs Γ sN) (dA ns u ws rs way (a5 (.loc,.int (0+(k:Int)))) o6 o7) .nx (dA ns u' ws a way (a5 (.loc,.int (0+(k:Int)))) c o7)/\Src (T+18) u'/\dw ws a/\a.length<=rs.length+1:=by
 have⟨n,f,l,A,o,s1⟩:=cA (st:=dA ns u ws rs way (a5 (.loc,.int (0+(k:Int)))) o6 o7) s (i:=1) (k:=.io) (e:=.bi .len [.var 2]) (m:=((ws.map U.str).length:Nat)) rfl rfl (cv (ae (ba rfl) aj) trivial bY) y ⋯ (by simp;lia) (by simp;lia);rw[c4]at o;have d:∀at_:Int,0<=at_->at_<ws.length->∃u' a c,Run (execs Γ [.exp (.Iy "_law_lay" [.var 3,.Iy "_law_row" [.var 1,.var 2,.var 6,.cmp .gt (.var 4) (.cst (.int 1))] [0]] [0])]) (dA ns f ws rs way (a5 (.loc,.int (0+(k:Int)))) (a5 (.loc,.int at_)) o7) .nx (dA ns u' ws a way (a5 (.loc,.int (0+(k:Int)))) c o7)/\Src (T+18) u'/\dw ws a/\a.length<=rs.length+1:=by
  intro at_ a0 B;have⟨r,u2,q,C,D,G,H,I⟩:=ze (st:=dA ns f ws rs way (a5 (.loc,.int (0+(k:Int)))) (a5 (.loc,.int at_)) o7) (st1:=dA ns f ws rs way (a5 (.loc,.int (0+(k:Int)))) (a5 (.loc,.int at_)) o7) (st2:=dA ns f ws rs way (a5 (.loc,.int (0+(k:Int)))) (a5 (.loc,.int at_)) o7) v (i:=1) (j:=2) (e:=.var 6) (t:=.cmp .gt (.var 4) (.cst (.int 1))) (k0:=.io) (k:=.io) (kw:=.any) (b:=cn (1<way)) rfl rfl rfl (.inr rfl) (af rfl) (jK (af rfl) ai trivial (fK rfl)) rfl rfl s1 ⋯ z a0 B;have J:bQ ws r:=⟨my C,D,G,H⟩
  show⟨u2,layR rs r,_,CI (zf w (k0:=.own) (k:=.own) (rs:=rs) rfl rfl q rfl rfl ⋯ (λx L=>by have:=(h.1 x L).2.2.2;lia) hl) av,I.up ⋯,h.lay J,qP⟩
 by_cases p:way=3
 .subst p;have⟨u',a,c,q,g⟩:=d ((0+(k:Int)) % (ws.length:Nat)) (QL _ ⋯) (Rw _ ⋯);show⟨u',a,c,ax l aH (du (aG (af rfl) ai trivial (bp rfl)) (ax (bE (af rfl) (cv (ae (ba rfl) aj) trivial bY) trivial (eM (by simp;lia))) aH av) ?_),g⟩;rw[c4];show q
 .have⟨u',a,c,q,g⟩:=d n A o;show⟨u',a,c,ax l aH (bf (aG (af rfl) ai trivial (bp (by simp[p]))) av q),g⟩
def v9(o:iW Γ)(p:aZ Γ)(s:lO Γ)(w:lP Γ)(L:0<ws.length)(y:ws.length<1000000)(d:dw ws rs)(hl:rs.length<1000):
  ∃a z,Run (execs Γ sO) (dA (ns++[c]) u ws rs way o5 o6 o7) .nx (dA ns u ws a way o5 o6 z)/\dw ws a/\a.length<=rs.length+1:=by
 have f:=zh (st:=dA (ns++[c]) u ws rs way o5 o6 o7) (st1:=dA (ns++[c]) u ws rs way o5 o6 o7) o (i:=0) (k0:=.io) (k:=.io) (e:=.cst (.int 0)) (m:=0) rfl rfl ai rfl rfl;have g:Src 0 (fO (c / 2) 0 (c % 2)):=⟨_,_,_,rfl,⋯,⋯⟩
 generalize fO (c / 2) 0 (c % 2)=v at f g;have⟨n,h,A,B,l,s1⟩:=cA (st:=dA ns u ws rs way o5 o6 (a5 (.own,v))) p (i:=7) (k:=.own) (e:=.bi .len [.var 2]) (m:=((ws.map U.str).length:Nat)) rfl rfl (cv (ae (ba rfl) aj) trivial bY) g ⋯ (by simp;lia) (by simp;lia);rw[c4]at l;have⟨r,u2,q,C,D,G,H,N⟩:=ze (st:=dA ns u ws rs way o5 o6 (a5 (.own,v))) (st1:=dA ns u ws rs way o5 o6 (a5 (.own,h))) (st2:=dA ns u ws rs way o5 o6 (a5 (.own,h))) s (i:=7) (j:=2) (t:=.cmp .eq (.var 4) (.cst (.int 2))) (k0:=.own) (k:=.own) (kw:=.any) (b:=(way==2)) rfl rfl rfl (.inr rfl) A (jK (af rfl) ai trivial (bp rfl)) rfl rfl s1 ⋯ y B l;have I:bQ ws r:=⟨my C,D,G,H⟩
 show⟨layR rs r,a5 (.own,u2),ax (st2:=dA ns u ws rs way o5 o6 (a5 (.own,v))) f a9 (CI (zf w (k0:=.own) (k:=.own) (rs:=rs) rfl rfl q rfl rfl ⋯ (λx J=>by have:=(d.1 x J).2.2.2;lia) hl) av),d.lay I,qP⟩
abbrev sQ:E:=.and [.cmp .gt (.bi .len [.var 0]) (.cst (.int 0)),.cmp .lt (.bi .len [.var 3]) (.cst (.int 60))]
def nK:Run (IX Γ sQ) (dA ns u ws rs way o5 o6 o7) (cn (0<ns.length)&&cn (rs.length<60)) (dA ns u ws rs way o5 o6 o7):=by
 show d9 (oX (aG (cv (ae (dE rfl) aj) ∅ bY) ai trivial (fK ?_)) λ_=>cw (aG (cv (ae (aC rfl) aj) ∅ bY) ai trivial (G1 ?_)))
 .rw[c4];show decide_eq_decide.mpr ⋯
 .rw[c4];show decide_eq_decide.mpr ⋯
def sR(m:iW Γ)(n:aZ Γ)(o:lO Γ)(p:lP Γ)(q:0<ws.length)(r:ws.length<1000000):
  ∀(k f:Nat) (ns:List Int) (rs:List Row) (o7:Option (Kd×U)),ns.length=k->k<f->dw ws rs->rs.length<=60->∃d b i,Run (gF (IX Γ sQ) (execs Γ sO) f) (dA ns u ws rs way o5 o6 o7) .nx (dA d u ws b way o5 o6 i)/\dw ws b/\b.length<=60/\d.length<=ns.length:=by
 intro k;induction k with
 |zero =>
  intro f ns rs o7 hk s h hl;obtain⟨f,rfl⟩:∃g,f=g+1:=⟨f - 1,⋯⟩
  have a:=nK (Γ:=Γ) (ns:=ns) (u:=u) (ws:=ws) (rs:=rs) (way:=way) (o5:=o5) (o6:=o6) (o7:=o7);rw[ğ (show ¬0<ns.length by lia)]at a;show⟨ns,rs,o7,uH a,h,hl,gj _⟩
 |succ k t =>
  intro f ns rs o7 hk s h hl;obtain⟨f,rfl⟩:∃g,f=g+1:=⟨f - 1,⋯⟩
  have a:=nK (Γ:=Γ) (ns:=ns) (u:=u) (ws:=ws) (rs:=rs) (way:=way) (o5:=o5) (o6:=o6) (o7:=o7);rw[Ġ (show 0<ns.length by lia)]at a;by_cases j:rs.length<60
  .rw[Ġ j]at a;obtain⟨ms,c,rfl⟩:∃ms c,ns=ms++[c]:=by
    have l:ns≠[]:=λe=>by rw[e]at hk;cases hk
    show⟨ns.dropLast,ns.getLast l,(VO l).symm⟩
   have v:ms.length=k:=by simpa using hk
   have⟨w,x,y,b1,C⟩:=v9 (u:=u) (ws:=ws) (way:=way) (o5:=o5) (o6:=o6) (o7:=o7) (ns:=ms) (c:=c) m n o p q r h ⋯;have⟨d,b,i,z,A,B,D⟩:=t f ms w x v ⋯ b1 ⋯;show⟨d,b,i,yX a y z,A,B,by simp;lia⟩
  .rw[ğ j]at a;show⟨ns,rs,o7,uH a,h,hl,gj _⟩
abbrev CJ:List S :=
   [.set 3 (.lst []),
    .set 4 (.Iy "_law_draw" [.var 1,.cst (.int 4)] [0]),
    .IU cc [5] .Js [.Iy "_law_draw" [.var 1,.cst (.int 25)] [0]] sN,
    .Nr sQ sO,
    .ret (.bi .tuple [(.var 3)])]
abbrev ph:Fn:=⟨"_law_book",3,8,.LN [0,1]::CJ⟩
def sT(x:iW Γ)(g:aZ Γ)(l:lO Γ)(n:lP Γ){ns:List Int}(o:Src T u)(O:T+500<2 ^ 62)(Q:ns.length<1000)(p:0<ws.length)(s:ws.length<1000000):
  ∃(rs:List Row) (c:List Int) (u':U),gG Γ ph [0,1] CJ [.lst (ns.map .int),u,.lst (ws.map .str)]=a5 (.ok (.loc,.tup [.tup (rs.map B'),.lst (c.map .int),u']))/\dw ws rs/\rs.length<=60/\c.length<=ns.length/\Src (T+500) u':=by
 have z:(60:Nat)<cK:=by decide
 obtain⟨way,A,B,_,_,s1⟩:=cA (st:=[a5 (.io,.lst (ns.map .int)),a5 (.io,u),a5 (.any,.lst (ws.map .str)),a5 (.own,.lst []),b8,b8,b8,b8]) g (i:=1) (k:=.io) (e:=.cst (.int 4)) (m:=4) rfl rfl ai o ⋯ ⋯ ⋯;have⟨m,u2,C,m0,m1,s2⟩:=cA (st:=dA ns A ws [] way b8 b8 b8) g (i:=1) (k:=.io) (e:=.cst (.int 25)) (m:=25) rfl rfl ai s1 ⋯ ⋯ ⋯;have⟨m,rfl⟩:=vr m0;obtain⟨st',D,a,b,o5,o6,rfl,s3,b3,v,_⟩:=bZ (rs:=[(.loc,.int (m:Nat))]) (t:=cc) (is:=[5]) (body:=execs Γ sN) (λi:Nat=>(Kd.loc,U.int (0+(i:Int)))) (λd r st=>∃(a:U) (b:List Row) (o5 o6:Option (Kd×U)),st=dA ns a ws b way o5 o6 b8/\Src (T+2+18 * (d.length:Nat)) a/\dw ws b/\b.length<=d.length/\d.length+r.length=m)
  (λd r st _=>trivial) (λd y r st h=>by
   have⟨a,b,o5,o6,rfl,s3,b3,v,G⟩:=h;simp only[i0]at G;have⟨H,I,Y,q,s4,b4,w⟩:=v8 (ns:=ns) (way:=way) (k:=y) (o6:=o6) (o7:=b8) g l n s3 ⋯ p s b3 ⋯;show⟨dA ns a ws b way (a5 (.loc,.int (0+(y:Int)))) o6 b8,_,aH,q,H,I,_,_,rfl,s4.up (by simp;lia),b4,?_,?_⟩
   .simp;lia
   .simp;lia) (eH m) [] (dA ns u2 ws [] way b8 b8 b8) ⟨u2,[],b8,b8,rfl,s2.up (by simp;lia),⟨by simp,by simp⟩,by simp,by simp⟩
 rw[i8,ve]at s3 v;have⟨c,j,J,L,b4,w,N⟩:=sR x g l n (u:=a) (way:=way) (o5:=o5) (o6:=o6) p s ns.length fuel ns b b8 rfl (by unfold fuel;lia) b3 ⋯;show⟨j,c,a,?_,b4,w,N,s3.up ⋯⟩;show cp (st0:=[a5 (.io,.lst (ns.map .int)),a5 (.io,u),a5 (.any,.lst (ws.map .str)),b8,b8,b8,b8,b8]) (f:=.rt .loc (.tup (j.map B'))) (st:=dA c a ws j way o5 o6 J) rfl ?_ ?_ rfl rfl
 .obtain⟨_,_,_,rfl,_⟩:=o;rfl
 show ax (cm aj trivial aI (i7 _)) a9 (ax B aH ?_);show c6 (rs:=[(.loc,.int (m:Nat))]) (ae C aj) trivial (eU ⋯) rfl D (yY L ?_);show bO (cv (ae (aC rfl) aj) ∅ rfl) dH
end TM
namespace TM
open PySem L2 Jc
theorem zi{cond:M Bool}(it:α->Kd×U)(I:List α->List α->List U->aw->Prop)(hs:∀d r a st,I d r a st->aW src st)
  (Z2:∀d y q a st,I d (y::q) a st->∃s1 s2 s3 s4 r u,Run (dN t (eH k) (it y)) (i3 k b8++st) () s1/\Run cond s1 bD s2/\Run elt s2 r s3/\Run (lift r) s3 u s4/\I (d++[y]) q (a++[u]) (s4.drop k)) :
  ∀(b d:List α) (acc:List U) (st:aw),I d b acc st->acc.length+b.length<=cK->∃us st',Run (cj k t cond elt src (b.map it) acc) st us st'/\I (d++b) [] us st'
 |[],d,acc,st,h,_=>⟨acc,st,qA (hs _ _ _ _ h),by rw[rr];show h⟩
 |y::b,d,acc,st,h,hl=>by
  rw[i0]at hl;have⟨s1,s2,s3,s4,r,u,c,e,f,g,i⟩:=Z2 d y b acc st h;have⟨us,st',j,l⟩:=zi it I hs Z2 b (d++[y]) (acc++[u]) _ i (by simp;lia);show⟨us,st',lH (hs _ _ _ _ h) c e f g ⋯ j,by simpa using l⟩
def qQ(a:0<=n)(b:n<26):∃c,JD small.cps.toList n=a5 c:=by
 have⟨k,rfl⟩:=vr a;have hl:small.cps.toList.length=26:=by decide
 show⟨small.cps.toList[k]'⋯,eI (by simp)⟩
def zj(g:aZ Γ)(j:Src T u)(w:T+8<2 ^ 62):
  ∃x u',Run (ev Γ (.Np .join (.cst (.str "")) [.comp 1 cc .Js [.cst (.int 8)] [] (.idx (.var 2) (.Iy "_law_draw" [.var 1,.cst (.int 26)] [0]))])) (a5 (.io,u)::a5 (.loc,.str small)::rest) (.loc,.str x) (a5 (.io,u')::a5 (.loc,.str small)::rest)/\x.length=8/\Src (T+8) u':=by
 have l:(100:Nat)<=cK:=by decide
 obtain⟨us,st',f,u',b,rfl,rfl,hl,hs,_⟩:=zi (k:=1) (t:=cc) (cond:=bc Γ []) (elt:=ev Γ (.idx (.var 2) (.Iy "_law_draw" [.var 1,.cst (.int 26)] [0]))) (src:=[(.loc,.int (8:Nat))]) (λi:Nat=>(Kd.loc,U.int (0+(i:Int))))
  (λd r a st=>∃(u':U) (b:List Nat),st=a5 (.io,u')::a5 (.loc,.str small)::rest/\a=(b.map Jc.one).map U.str/\b.length=d.length/\Src (T+(d.length:Nat)) u'/\d.length+r.length=8) (λ_ _ _ _ _=>trivial)
  (λd y q a st h=>by
   have⟨u',b,rfl,rfl,hl,hs,o⟩:=h;rw[i0]at o;have⟨n,u2,r,p,s,s2⟩:=cA (st:=a5 (.loc,.int (0+(y:Int)))::a5 (.io,u')::a5 (.loc,.str small)::rest) g (i:=1) (k:=.io) (e:=.cst (.int 26)) (m:=26) rfl rfl ai hs ⋯ ⋯ ⋯;have⟨c,f⟩:=qQ p s;show⟨_,_,_,_,_,_,fF aH,lE,br (af rfl) r trivial (oa qC f),aJ,u2,b++[c],rfl,by simp,by simp[hl],s2.up (by simp;lia),by simp;lia⟩)
  (eH 8) [] [] (a5 (.io,u)::a5 (.loc,.str small)::rest) ⟨u,[],rfl,rfl,rfl,by simpa using j,by simp⟩ (by simp;lia)
 rw[i8,ve]at hl hs;have v:mr .join (.str "") [(.own,.lst ((b.map Jc.one).map U.str))]=a5 (.loc,.str (Tu td (b.map Jc.one))):=by
  change(strsOf ((b.map Jc.one).map U.str)).bind _=_;rw[dQ];change(if Ò td (b.map Jc.one)=bD then _ else _)=_;rw[ĝ (Jc.qB b ⋯)];rfl
 show⟨Tu td (b.map Jc.one),u',yL ai (ae (dC (ae ai aj) trivial (eU (n:=8) ⋯) f) aj) trivial v,?_,hs⟩;change(Tu td (b.map Jc.one)).cps.size=8;rw[<-fx,Jc.join_ones,hl]
abbrev zk:List S:=[.app 7 (.ite (.cmp .eq (.var 10) (.cst (.int 1))) (.var 9) (.bin .add (.bin .add (.var 9) (.cst (.str "/"))) (.bi .str [.var 10])))]
abbrev zl:List S :=
   .ite (.cmp .eq (.var 4) (.cst (.int 3)))
    [.set 10 (.bin .add (.cst (.int 1)) (.Iy "_law_draw" [.var 0,.cst (.int 99)] [0]))]
    []::zk
abbrev zm:List S :=
   .ite (.cmp .gt (.var 4) (.cst (.int 1)))
    [.set 9 (.bin .add (.idx (.var 1) (.bin .mod (.bin .add (.var 6) (.bin .mul (.cst (.int 7)) (.var 8))) (.cst (.int 26)))) (.MH (.var 3) [.cst (.int 1)] [.var 5])),
    .set 10 (.cst (.int 1))]
    []::zl
abbrev sU:List S :=
   .set 9 (.MH (.var 3) [] [.bin .add (.cst (.int 1)) (.bin .mod (.var 8) (.cst (.int 8)))]) ::
   .set 10 (.bin .add (.cst (.int 1)) (.bin .N5 (.var 8) (.cst (.int 8)))) ::
   .ite (.cmp .eq (.var 4) (.cst (.int 1)))
    [.set 9 (.MH (.var 3) [] [.var 5]),
    .set 10 (.bin .add (.cst (.int 1)) (.var 8))]
    []::zm
abbrev zo:List S :=
   [.set 1 (.cst (.str "abcdefghijklmnopqrstuvwxyz")),
    .set 2 (.bin .add (.cst (.int 1)) (.Iy "_law_draw" [.var 0,.idx (.lst [.cst (.int 8),.cst (.int 16),.cst (.int 24)]) (.Iy "_law_draw" [.var 0,.cst (.int 3)] [0])] [0])),
    .set 3 (.Np .join (.cst (.str "")) [.comp 1 cc .Js [.cst (.int 8)] [] (.idx (.var 2) (.Iy "_law_draw" [.var 1,.cst (.int 26)] [0]))]),
    .set 4 (.Iy "_law_draw" [.var 0,.cst (.int 4)] [0]),
    .set 5 (.bin .add (.cst (.int 1)) (.Iy "_law_draw" [.var 0,.cst (.int 8)] [0])),
    .set 6 (.Iy "_law_draw" [.var 0,.cst (.int 26)] [0]),
    .set 7 (.lst []),
    .IU cc [8] .Js [.var 2] sU,
    .ret (.var 7)]
abbrev lQ:Fn:=⟨"_law_words",1,11,.LN [0]::zo⟩
abbrev jv(u:U)(many:Int)(base:Str)(way size first:Int)(acc:List Str)(o8 o9 o10:Option (Kd×U)):aw:=[a5 (.io,u),a5 (.loc,.str small),a5 (.loc,.int many),a5 (.loc,.str base),a5 (.loc,.int way),a5 (.loc,.int size),a5 (.loc,.int first),a5 (.own,.lst (acc.map .str)),o8,o9,o10]
def kl(h:x.length<=cK):qc (k,.str x) lo a=a5 (.loc,.str (PySem.StrLaws.sliceText x lo a)):=by
 change(if x.length<=cK then _ else _)=_;rw[ĝ h]
def nL(e:acc.length<1000)(f:w.length<=9)(g:1<=s)(s1:s<=99):
  ∃x:Str,x.length<=20/\Run (execs Γ zk) (jv u many base way size first acc o8 (a5 (.loc,.str w)) (a5 (.loc,.int s))) .nx (jv u many base way size first (acc++[x]) o8 (a5 (.loc,.str w)) (a5 (.loc,.int s))):=by
 have b:(1000:Nat)<=cK:=by decide
 by_cases h:s=1
 .subst h;show⟨w,⋯,gc (k:=.own) (k':=.own) rfl (sE (aG (af rfl) ai trivial (bp rfl)) (af rfl)) aJ rfl rfl (by simp;lia) ?_⟩;rw[show acc.map U.str++[U.str w]=(acc++[w]).map U.str by simp];show av
 .have i:=vY (k:=s) ⋯ s1;have c:Kp .str [(.loc,.int s)]=a5 (.loc,.str (wZ s)):=by
   simp only[Kp,iI,AM];rw[ĝ (by
    have:s.natAbs<2 ^ 7:=by lia
    have d:s.natAbs≠0:=by lia
    have:=(Nat.log2_lt d).mpr this;lia)]
   rfl
  have a:(w++("/":Str)).length=w.length+1:=by rw[len_list,len_list,app_list,ia];rfl
  show⟨w++("/":Str)++wZ s,by rw[len_list,app_list,ia,<-len_list,<-len_list,a];lia,gc (k:=.own) (k':=.own) rfl (sF (aG (af rfl) ai trivial (bp (by simp[h]))) (bE (bE (af rfl) ai trivial (oV (by change w.length+1<=cK;lia))) (cv (ae (af rfl) aj) trivial c) trivial (oV (by rw[a];lia)))) aJ rfl rfl (by simp;lia) ?_⟩;rw[show acc.map U.str++[U.str (w++("/":Str)++wZ s)]=(acc++[w++("/":Str)++wZ s]).map U.str by simp];show av
def nM(g:aZ Γ)(b:Src T u)(p:T+1<2 ^ 62)(c:acc.length<1000)(d:w.length<=9)(j:1<=s)(s1:s<=99):
  ∃u' x o9 o10,Run (execs Γ zl) (jv u many base way size first acc o8 (a5 (.loc,.str w)) (a5 (.loc,.int s))) .nx (jv u' many base way size first (acc++[x]) o8 o9 o10)/\Src (T+1) u'/\x.length<=20:=by
 by_cases h:way=3
 .subst h;have⟨n,f,l,r,t,o⟩:=cA (st:=jv u many base 3 size first acc o8 (a5 (.loc,.str w)) (a5 (.loc,.int s))) g (i:=0) (k:=.io) (e:=.cst (.int 99)) (m:=99) rfl rfl ai b ⋯ ⋯ ⋯;have⟨x,a,q⟩:=nL (Γ:=Γ) (u:=f) (many:=many) (base:=base) (way:=3) (size:=size) (first:=first) (acc:=acc) (o8:=o8) (w:=w) (s:=1+n) c d ⋯ ⋯;show⟨f,x,_,_,du (aG (af rfl) ai trivial (bp rfl)) (ax (bE ai l trivial cu) aH av) q,o,a⟩
 .have⟨x,a,q⟩:=nL (Γ:=Γ) (u:=u) (many:=many) (base:=base) (way:=way) (size:=size) (first:=first) (acc:=acc) (o8:=o8) (w:=w) (s:=s) c d j s1;show⟨u,x,_,_,bf (aG (af rfl) ai trivial (bp (by simp[h]))) av q,b.up ⋯,a⟩
def nN(a:aZ Γ){k:Nat}(b:Src T u)(d:T+1<2 ^ 62)(e:acc.length<1000)(f:w.length<=9)(g:1<=s)(s1:s<=99)(p:base.length=8)(i:1<=size)(r:size<=8)(t:0<=first)(v:first<26)(hk:k<1000):
  ∃u' x o9 o10,Run (execs Γ zm) (jv u many base way size first acc (a5 (.loc,.int (0+(k:Int)))) (a5 (.loc,.str w)) (a5 (.loc,.int s))) .nx (jv u' many base way size first (acc++[x]) (a5 (.loc,.int (0+(k:Int)))) o9 o10)/\Src (T+1) u'/\x.length<=20:=by
 have j:(1000:Nat)<=cK:=by decide
 by_cases h:1<way
 .have l:0<=(first+7 * (0+(k:Int))) % 26:=QL _ ⋯;have m:(first+7 * (0+(k:Int))) % 26<26:=Rw _ ⋯;have⟨c,n⟩:=qQ l m;have y:=len_list base;have z:(PySem.StrLaws.sliceText base (a5 1) (a5 size)).length<=8:=by
   rw[PySem.StrLaws.sliceText_plain ⟨⋯,i,⋯⟩,len_list];simp;lia
  have A:(Jc.one c).length=1:=rfl;have o:(Jc.one c++PySem.StrLaws.sliceText base (a5 1) (a5 size)).length<=9:=by rw[len_list,app_list,ia,<-len_list,<-len_list];lia
  have⟨u',x,o9,o10,q,hs⟩:=nM (Γ:=Γ) a (u:=u) (many:=many) (base:=base) (way:=way) (size:=size) (first:=first) (acc:=acc) (o8:=a5 (.loc,.int (0+(k:Int)))) (w:=Jc.one c++PySem.StrLaws.sliceText base (a5 1) (a5 size)) (s:=1) b d e o ⋯ ⋯;show⟨u',x,o9,o10,du (aG (af rfl) ai trivial (fK (by simp[h]))) (ax (bE (br (af rfl) (bE (bE (af rfl) (bE ai (af rfl) trivial (kD ⋯)) trivial cu) ai trivial (eM ⋯)) trivial (oa qC n)) (qy (af rfl) (ny ai) (ny (af rfl)) trivial (kl ⋯)) trivial (oV ⋯)) aH (ax ai aH av)) q,hs⟩
 .have⟨u',x,o9,o10,q,hs⟩:=nM (Γ:=Γ) a (u:=u) (many:=many) (base:=base) (way:=way) (size:=size) (first:=first) (acc:=acc) (o8:=a5 (.loc,.int (0+(k:Int)))) (w:=w) (s:=s) b d e f g s1;show⟨u',x,o9,o10,bf (aG (af rfl) ai trivial (fK (by simp[h]))) av q,hs⟩
def zp(a:0<=j)(b:x.length=8):(PySem.StrLaws.sliceText x b8 (a5 j)).length<=9:=by
 have⟨j,rfl⟩:=vr a;have h:=len_list (PySem.StrLaws.sliceText x b8 (a5 (j:Int)));have hl:=len_list x;rw[ES]at h;rw[h,vu];lia
def v_(b:aZ Γ){k:Nat}(c:Src T u)(d:T+1<2 ^ 62)(e:acc.length<1000)(a:base.length=8)(f:1<=size)(g:size<=8)(i:0<=first)(j:first<26)(hk:k<98):
  ∃u' x l m,Run (execs Γ sU) (jv u many base way size first acc (a5 (.loc,.int (0+(k:Int)))) o9 o10) .nx (jv u' many base way size first (acc++[x]) (a5 (.loc,.int (0+(k:Int)))) l m)/\Src (T+1) u'/\x.length<=20:=by
 have n:(1000:Nat)<=cK:=by decide
 have o:0<=(0+(k:Int)) % 8:=QL _ ⋯;by_cases h:way=1
 .have⟨u',x,o9,o10,q,hs⟩:=nN (Γ:=Γ) b (u:=u) (many:=many) (base:=base) (way:=way) (size:=size) (first:=first) (acc:=acc) (k:=k) (w:=PySem.StrLaws.sliceText base b8 (a5 size)) (s:=1+(0+(k:Int))) c d e (zp ⋯ a) ⋯ ⋯ a f g i j ⋯;show⟨u',x,o9,o10,ax (qy (af rfl) uA (ny (bE ai (bE (af rfl) ai trivial (eM ⋯)) trivial cu)) trivial (kl ⋯)) aH (ax (bE ai (bE (af rfl) ai trivial (lI ⋯)) trivial cu) aH (du (aG (af rfl) ai trivial (bp (by simp[h]))) (ax (qy (af rfl) uA (ny (af rfl)) trivial (kl ⋯)) aH (ax (bE ai (af rfl) trivial cu) aH av)) q)),hs⟩
 .have⟨u',x,o9,o10,q,hs⟩:=nN (Γ:=Γ) b (u:=u) (many:=many) (base:=base) (way:=way) (size:=size) (first:=first) (acc:=acc) (k:=k) (w:=PySem.StrLaws.sliceText base b8 (a5 (1+(0+(k:Int)) % 8))) (s:=1+(0+(k:Int)) / 8) c d e (zp ⋯ a) ⋯ ⋯ a f g i j ⋯;show⟨u',x,o9,o10,ax (qy (af rfl) uA (ny (bE ai (bE (af rfl) ai trivial (eM ⋯)) trivial cu)) trivial (kl ⋯)) aH (ax (bE ai (bE (af rfl) ai trivial (lI ⋯)) trivial cu) aH (bf (aG (af rfl) ai trivial (bp (by simp[h]))) av q)),hs⟩
def Io(a:0<=n)(b:n<3):∃m:Int,8<=m/\m<=24/\JD [U.int 8,.int 16,.int 24] n=a5 (.int m):=by
 have⟨k,rfl⟩:=vr a;have:k=0\/k=1\/k=2:=by lia
 rcases this with rfl|rfl|rfl
 .show⟨8,⋯,⋯,rfl⟩
 .show⟨16,⋯,⋯,rfl⟩
 .show⟨24,⋯,⋯,rfl⟩
def wa(a:aZ Γ)(l:Src T u)(hT:T+100<2 ^ 62):
  ∃(ws:List Str) (u':U),gG Γ lQ [0] zo [u]=a5 (.ok (.own,.tup [.lst (ws.map .str),u']))/\1<=ws.length/\ws.length<=24/\Src (T+100) u'/\∀x∈ws,x.length<=20:=by
 have A:(1000:Nat)<=cK:=by decide
 let S1:U->aw:=λv=>[a5 (.io,v),a5 (.loc,.str small),b8,b8,b8,b8,b8,b8,b8,b8,b8]
 have⟨i,B,C,D,G,s1⟩:=cA (st:=S1 u) a (i:=0) (k:=.io) (e:=.cst (.int 3)) (m:=3) rfl rfl ai l ⋯ ⋯ ⋯;have⟨m,m0,m1,em⟩:=Io D G;have⟨n,u2,H,n0,n1,s2⟩:=y9 (st:=S1 u) (st1:=S1 B) a (i:=0) (k:=.io) (k0:=.io) (e:=.idx (.lst [.cst (.int 8),.cst (.int 16),.cst (.int 24)]) (.Iy "_law_draw" [.var 0,.cst (.int 3)] [0])) (m:=m) rfl rfl (br (x:=(.own,.lst [U.int 8,.int 16,.int 24])) (cm (ae ai (ae ai (ae ai aj))) trivial (aD aJ (aD aJ (aD aJ aI))) (by change 3<=cK;lia)) C trivial (cy em)) rfl rfl s1 ⋯ ⋯ ⋯;have⟨base,b,I,J,s3⟩:=zj (rest:=[a5 (.loc,.int (1+n)),b8,b8,b8,b8,b8,b8,b8,b8]) a s2 ⋯;obtain⟨way,g,L,_,_,s4⟩:=cA (st:=[a5 (.io,b),a5 (.loc,.str small),a5 (.loc,.int (1+n)),a5 (.loc,.str base),b8,b8,b8,b8,b8,b8,b8]) a (i:=0) (k:=.io) (e:=.cst (.int 4)) (m:=4) rfl rfl ai s3 ⋯ ⋯ ⋯;have⟨size,N,O,z0,z1,Q⟩:=cA (st:=[a5 (.io,g),a5 (.loc,.str small),a5 (.loc,.int (1+n)),a5 (.loc,.str base),a5 (.loc,.int way),b8,b8,b8,b8,b8,b8]) a (i:=0) (k:=.io) (e:=.cst (.int 8)) (m:=8) rfl rfl ai s4 ⋯ ⋯ ⋯;have⟨first,o,Y,f0,f1,s6⟩:=cA (st:=[a5 (.io,N),a5 (.loc,.str small),a5 (.loc,.int (1+n)),a5 (.loc,.str base),a5 (.loc,.int way),a5 (.loc,.int (1+size)),b8,b8,b8,b8,b8]) a (i:=0) (k:=.io) (e:=.cst (.int 26)) (m:=26) rfl rfl ai Q ⋯ ⋯ ⋯;have⟨many,Ql⟩:=vr (show 0<=1+n by lia);obtain⟨st',hf,p,ws,o8,o9,o10,rfl,s,l7,b7,_⟩:=bZ (rs:=[(.loc,.int (1+n))]) (t:=cc) (is:=[8]) (body:=execs Γ sU) (λi:Nat=>(Kd.loc,U.int (0+(i:Int)))) (λd r st=>∃(b:U) (ws:List Str) (o8 o9 o10:Option (Kd×U)),st=jv b (1+n) base way (1+size) first ws o8 o9 o10/\Src (T+13+(d.length:Nat)) b/\ws.length=d.length/\(∀x∈ws,x.length<=20)/\∃j,d=ý 0 j/\r=ý j (many - j)/\j<=many)
  (λd r st _=>trivial) (λd y r st h=>by
   have⟨b,ws,o8,o9,o10,rfl,s3,w,b3,j,rfl,c,hj⟩:=h;have Zp:j<many:=by
    rcases Nat.lt_or_ge j many with z|z
    .show z
    .rw[show many - j=0 by lia]at c;cases c
   rw[show many - j=(many - (j+1))+1 by lia,List.range'_succ]at c;cases c;rw[List.length_range']at s3 w;have⟨g,x,J7,Mw,q,s4,hx⟩:=v_ (Γ:=Γ) a (u:=b) (many:=1+n) (base:=base) (way:=way) (size:=1+size) (first:=first) (acc:=ws) (k:=y) (o9:=o9) (o10:=o10) s3 ⋯ ⋯ J ⋯ ⋯ f0 f1 ⋯;show⟨jv b (1+n) base way (1+size) first ws (a5 (.loc,.int (0+(y:Int)))) o9 o10,_,aH,q,g,ws++[x],_,_,_,rfl,s4.up (by simp;lia),by simp[w],λz hz=>(hY.mp hz).elim (b3 z) λhz=>by rw[hV.mp hz];show hx,y+1,by have:=@List.range'_1_concat 0 y;simpa using this.symm,rfl,⋯⟩) (eH many) [] (jv o (1+n) base way (1+size) first [] b8 b8 b8) ⟨o,[],b8,b8,b8,rfl,s6.up (by simp;lia),by simp,λ_ h=>(nomatch h),0,rfl,by rw[List.range_eq_range'];simp,⋯⟩
 rw[i8,ve]at s l7;show⟨ws,p,?_,⋯,⋯,s.up ⋯,b7⟩;show cp (st0:=[a5 (.io,u),b8,b8,b8,b8,b8,b8,b8,b8,b8,b8]) (f:=.rt .own (.lst (ws.map .str))) (st:=(jv p (1+n) base way (1+size) first ws o8 o9 o10).set 7 b8) rfl ?_ ?_ rfl rfl
 .obtain⟨_,_,_,rfl,_⟩:=l;rfl
 show ax (st2:=S1 u) ai aH (ax (bE ai H trivial cu) aH (ax I aH (ax L aH (ax (bE ai O trivial cu) aH (ax Y aH (ax (cm aj trivial aI (i7 _)) a9 ?_))))));show c6 (rs:=[(.loc,.int (1+n))]) (xs:=(eH many).map λi:Nat=>(Kd.loc,U.int (0+(i:Int)))) (ae (af rfl) aj) trivial (by rw[Ql];show eU ⋯) rfl hf (bO (aC rfl) (jN rfl))
abbrev uM(Γ:Tab):Prop:=∀(T:Int) (u:U),Src T u->T+100<2 ^ 62->∃(ws:List Str) (u':U),Γ "_law_words" [u]=a5 (.ok (.own,.tup [.lst (ws.map .str),u']))/\1<=ws.length/\ws.length<=24/\Src (T+100) u'/\∀x∈ws,x.length<=20
def B1(a:aZ (IJ Pg d))(h:IY Pg "_law_words" lQ):uM (IJ Pg (d+1)):=by
 intro T u b c;have⟨ws,u',e,r⟩:=wa a b c;show⟨ws,u',by rw[cI h _ rfl];show e,r⟩
abbrev fh(ks:List Str)(x:Str):List Str:=if x∈ks then ks else ks++[x]
def zq:dput ks (ks.map f) x u=(fh ks x,(fh ks x).map λk=>if k=x then u else f k):=by
 unfold dput fh;by_cases h:x∈ks
 .rw[ĝ h,ĝ h];congr 1
  clear h;induction ks with
  |nil=>rfl
  |cons k ks a=>rw[d8,Rm,d8,d8,a]
 .rw[Ğ h,Ğ h];congr 1
  rw[i9,UK,ĝ rfl];congr 1
  show wk λk hk=>?_;rw[Ğ (λe:k=x=>h (e▸hk))]
def sV(h:ks.Nodup):(fh ks x).Nodup:=by
 unfold fh;split
 .show h
 .rename_i d;show sx.mpr ⟨h,by simp,λa f c b=>by rw[hV]at b;subst b;show λe=>d (e▸f)⟩
def gh:y∈fh ks x↔y∈ks\/y=x:=by
 unfold fh;split
 .rename_i h;show⟨.inl,λz=>z.elim id λe=>e▸h⟩
 .simp
def B3(h:ks.length<1000):eE (.str x) u (.IA ks (ks.map f))=a5 (.IA (fh ks x) ((fh ks x).map λk=>if k=x then u else f k)):=by
 rw[uF h,zq]
abbrev CK:List S:=[.put 1 (.var 4) (.cst (.bl bD))]
abbrev zr:List S:=[.put 1 (.var 2) (.cst (.bl bD)),.IU cc [4] .seq [.var 3] CK]
abbrev wb:Fn:=⟨"_law_all",1,5,[.set 1 (.Kh cc),.IU bD [2,3] .seq [.var 0] zr,.ret (.bi .sorted [.var 1])]⟩
abbrev pj(ks:List Str):U:=.IA ks (ks.map λ_=>.bl bD)
def km(h:ks.length<1000):eE (.str x) (.bl bD) (pj ks)=a5 (pj (fh ks x)):=by
 unfold pj;rw[B3 h];congr 3
 funext k
 split<;>rfl
abbrev iX(ws ks:List Str):Prop:=ks.Nodup/\∀x∈ks,x∈ws
def iX.ins(h:iX ws ks)(a:x∈ws):iX ws (fh ks x):=⟨sV h.1,λy b=>(gh.mp b).elim (h.2 y) λe=>e▸a⟩
def iX.len(h:iX ws ks):ks.length<=ws.length:=d_ h.1 h.2
abbrev pk(rs:List Row)(ks:List Str)(o2 o3 o4:Option (Kd×U)):aw:=[a5 (.loc,.tup (rs.map B')),a5 (.own,pj ks),o2,o3,o4]
def kq{rs:List Row}:Ky .seq [(k,.tup (rs.map B'))]=a5 (rs.map λr=>(kE k,B' r)):=by
 change a5 ((rs.map B').map λu=>(kE k,u))=_;rw[ke];rfl
abbrev zt(Γ:Tab):Prop:=∀(ws:List Str) (rs:List Row),ws.length<=24->(∀r∈rs,bQ ws r)->∃ts,Γ "_law_all" [.tup (rs.map B')]=a5 (.ok (.own,.lst (ts.map .str)))/\iX ws ts
abbrev zu:List S :=
   [.set 7 (.Kx 4 (.Iy "_law_draw" [.var 0,.bi .len [.var 4]] [0])),
   .ite (.and [.cmp .IH (.var 7) (.var 3),.cmp .eq (.Iy "_law_draw" [.var 0,.var 2] [0]) (.cst (.int 0))])
    [.app 5 (.tup [.var 7,.tup []])]
    []]
abbrev Hf:List S :=
   [.ite (.cmp .ne (.Iy "_law_draw" [.var 0,.cst (.int 8)] [0]) (.cst (.int 1)))
      [.ret (.var 1)]
      [],
    .set 2 (.bin .add (.cst (.int 1)) (.Iy "_law_draw" [.var 0,.cst (.int 2)] [0])),
    .set 3 (.comp 1 cc .seq [.var 1] [.cmp .eq (.idx (.var 0) (.cst (.int 1))) (.tup [])] (.idx (.var 0) (.cst (.int 0)))),
    .set 4 (.call "_law_all" [.var 1]),
    .set 5 (.lst []),
    .IU cc [6] .Js [.bi .len [.var 4]] zu,
    .ret (.bin .add (.var 1) (.bi .tuple [(.var 5)]))]
abbrev B4:Fn:=⟨"_law_widened",2,8,.LN [0]::Hf⟩
def pq(h:(!(i==j))=c):bK .ne (.int i) (.int j)=a5 c:=by subst h;rfl
abbrev j3(u:U)(rs:List Row)(share:Int)(hs ts:List Str)(more:List Row)(o6 o7:Option (Kd×U)):aw:=[a5 (.io,u),a5 (.loc,.tup (rs.map B')),a5 (.loc,.int share),a5 (.own,.lst (hs.map .str)),a5 (.own,.lst (ts.map .str)),a5 (.own,.lst (more.map B')),o6,o7]
def zw(o:aZ Γ)(w:Src T u)(L:T+2<2 ^ 62)(A:0<share)(N:share<=2)(O:0<ts.length)(Q:ts.length<=24)(p:∀x∈ts,x∈ws)(h:∀r∈more,bQ ws r)(Y:more.length<1000):
  ∃u' a j B,Run (execs Γ zu) (j3 u rs share hs ts more o6 o7) .nx (j3 u' rs share hs a j o6 B)/\Src (T+2) u'/\a.length+1=ts.length/\(∀x∈a,x∈ws)/\(∀r∈j,bQ ws r)/\j.length<=more.length+1:=by
 have C:(1000:Nat)<=cK:=by decide
 have⟨n,b,D,G,H,s1⟩:=cA (st:=j3 u rs share hs ts more o6 o7) o (i:=0) (k:=.io) (e:=.bi .len [.var 4]) (m:=((ts.map U.str).length:Nat)) rfl rfl (cv (ae (aC rfl) aj) ∅ bY) w ⋯ (by simp;lia) (by simp;lia);rw[c4]at H;have l:n.toNat<ts.length:=by lia
 have q:(ts.map U.str)[n.toNat]?=a5 (.str ts[n.toNat]):=by simp[l]
 have s:ts[n.toNat]∈ws:=p _ (Jq l);generalize ts[n.toNat]=x at q s;have I:(ts.map U.str).eraseIdx n.toNat=(ts.eraseIdx n.toNat).map U.str:=by
  rw[H8,H8,i9,Uh,Ui]
 have hl:(ts.eraseIdx n.toNat).length+1=ts.length:=by rw[WZ l];lia
 have f:∀y∈ts.eraseIdx n.toNat,y∈ws:=λy J=>p y (Xu J);have g:Run (ev Γ (.Kx 4 (.Iy "_law_draw" [.var 0,.bi .len [.var 4]] [0]))) (j3 u rs share hs ts more o6 o7) (.loc,.str x) (j3 b rs share hs (ts.eraseIdx n.toNat) more o6 o7):=by
  have:=yP (i:=4) (k0:=.own) (k:=.own) (us0:=ts.map U.str) (us:=ts.map U.str) rfl (by intro z;cases z) D rfl rfl G ⋯ q;rw[I]at this;show this
 generalize ts.eraseIdx n.toNat=a at g hl f;have d:Run (IX Γ (.cmp .IH (.var 7) (.var 3))) (j3 b rs share hs a more o6 (a5 (.loc,.str x))) (cn (x∉hs)) (j3 b rs share hs a more o6 (a5 (.loc,.str x))):=aG (af rfl) (aC rfl) ∅ fg;by_cases t:x∈hs
 .rw[ğ (by simp[t])]at d;show⟨b,a,more,_,ax g aH (bf (d9 (lF d)) av av),s1.up ⋯,hl,f,h,⋯⟩
 .rw[Ġ t]at d;have⟨m,u2,v,m0,m1,s2⟩:=cA (st:=j3 b rs share hs a more o6 (a5 (.loc,.str x))) o (i:=0) (k:=.io) (e:=.var 2) (m:=share) rfl rfl (af rfl) s1 ⋯ A ⋯;by_cases hz:m=0
  .show⟨u2,a,more++[(x,[])],a5 (.loc,.str x),ax g aH (du (d9 (fD d (cw (aG v ai trivial (bp (c:=bD) (by simp[hz])))))) (gc (k:=.own) (k':=.own) rfl (gR (ae (af rfl) (ae (gR aj trivial aI (i7 _)) aj)) trivial (aD aJ (aD aJ aI)) (by change 2<=cK;lia)) aJ rfl rfl (by simp;lia) av) ?_),s2.up ⋯,hl,f,?_,by simp⟩
   .rw[show more.map B'++[U.tup [.str x,.tup []]]=(more++[(x,[])]).map B' by simp[B']];show av
   .intro r hr;rcases hY.mp hr with hr|hr
    .show h r hr
    .rw[hV]at hr;subst hr;show⟨s,by simp,by simp,by simp⟩
  .show⟨u2,a,more,_,ax g aH (bf (d9 (fD d (cw (aG v ai trivial (bp (c:=cc) (by simp[hz])))))) av av),s2.up ⋯,hl,f,h,⋯⟩
def qR{rs:List Row}(hl:rs.length<=1000)(h:st[i]?=a5 (a5 (.loc,.tup (rs.map B')))):Run (ev Γ (.comp 1 cc .seq [.var i] [.cmp .eq (.idx (.var 0) (.cst (.int 1))) (.tup [])] (.idx (.var 0) (.cst (.int 0))))) st (.own,.lst (((rs.filter λr=>cn (r.2=[])).map (·.1)).map .str)) st:=by
 have b:(1000:Nat)<=cK:=by decide
 have c:∀y:Row,gE (.loc,B' y) (.int 0)=a5 (.loc,.str y.1):=λy=>rfl;have d:∀y:Row,gE (.loc,B' y) (.int 1)=a5 (.loc,.tup (y.2.map .str)):=λy=>rfl;have a:=lJ (cond:=bc Γ [.cmp .eq (.idx (.var 0) (.cst (.int 1))) (.tup [])]) (elt:=ev Γ (.idx (.var 0) (.cst (.int 0)))) (src:=[(.loc,.tup (rs.map B'))]) (st:=st) trivial .loc (.inl rfl) B' (λr:Row=>.str r.1) (λr=>cn (r.2=[])) .loc rs [] (by simp;lia)
  (λr _=>⟨cw (aG (br (af rfl) ai trivial (d r)) (gR aj trivial aI (i7 _)) trivial uJ),λ_=>⟨br (af rfl) ai trivial (c r),aJ⟩⟩)
 rw[i8]at a;rw[ke];show dC (rs:=[(.loc,.tup (rs.map B'))]) (ae (af h) aj) trivial kq a
abbrev zx(Γ:Tab):Prop:=∀(T:Int) (u:U) (ws:List Str) (rs:List Row),Src T u->T+60<2 ^ 62->ws.length<=24->(∀r∈rs,bQ ws r)->rs.length<=60->∃(a:List Row) (u':U),Γ "_law_widened" [u,.tup (rs.map B')]=a5 (.ok (.loc,.tup [.tup (a.map B'),u']))/\(∀r∈a,bQ ws r)/\a.length<=84/\Src (T+60) u'
def B5(g:aZ Γ)(I:zt Γ){rs:List Row}(w:Src T u)(hT:T+60<2 ^ 62)(J:ws.length<=24)(j:∀r∈rs,bQ ws r)(hl:rs.length<=60):
  ∃(l:List Row) (u':U),gG Γ B4 [0] Hf [u,.tup (rs.map B')]=a5 (.ok (.loc,.tup [.tup (l.map B'),u']))/\(∀r∈l,bQ ws r)/\l.length<=84/\Src (T+60) u':=by
 have L:(1000:Nat)<=cK:=by decide
 let c:U->aw:=λv=>[a5 (.io,v),a5 (.loc,.tup (rs.map B')),b8,b8,b8,b8,b8,b8]
 have z:cS [0] [u,.tup (rs.map B')] B4.ns=c u:=by
  obtain⟨_,_,_,rfl,_⟩:=w;change [a5 (Kd.io,_),a5 (if I0 (.tup (rs.map B'))=bD then Kd.loc else Kd.any,U.tup (rs.map B')),b8,b8,b8,b8,b8,b8]=_;rw[ĝ (by change cH (rs.map B')=bD;show bP rs)]
 have⟨n,o,A,n0,n1,s1⟩:=cA (st:=c u) g (i:=0) (k:=.io) (e:=.cst (.int 8)) (m:=8) rfl rfl ai w ⋯ ⋯ ⋯;by_cases B:n=1
 .have⟨p,u2,N,p0,p1,s2⟩:=cA (st:=c o) g (i:=0) (k:=.io) (e:=.cst (.int 2)) (m:=2) rfl rfl ai s1 ⋯ ⋯ ⋯;have⟨ts,O,C⟩:=I ws rs J j;have Yx:=C.len;generalize Q:((rs.filter λr=>cn (r.2=[])).map (·.1))=hs;have D:=qR (Γ:=Γ) (st:=[a5 (.io,u2),a5 (.loc,.tup (rs.map B')),a5 (.loc,.int (1+p)),b8,b8,b8,b8,b8]) (rs:=rs) (i:=1) ⋯ rfl;rw[Q]at D;obtain⟨st',Y,a,b,more,o6,o7,rfl,s3,G,m3,H,s,_⟩:=bZ (rs:=[(.loc,.int (ts.length:Nat))]) (t:=cc) (is:=[6]) (body:=execs Γ zu) (λi:Nat=>(Kd.loc,U.int (0+(i:Int)))) (λd r st=>∃(a:U) (b:List Str) (more:List Row) (o6 o7:Option (Kd×U)),st=j3 a rs (1+p) hs b more o6 o7/\Src (T+2+2 * (d.length:Nat)) a/\b.length=r.length/\more.length<=d.length/\(∀x∈b,x∈ws)/\(∀r∈more,bQ ws r)/\d.length+r.length=ts.length)
   (λd r st _=>trivial) (λd y r st h=>by
    have⟨a,b,more,o6,o7,rfl,s3,G,m3,H,s,t3⟩:=h;simp only[i0]at G t3;have⟨u4,Ub,Qm,Kb,q,s4,l4,i4,g4,m4⟩:=zw (Γ:=Γ) g (u:=a) (share:=1+p) (rs:=rs) (more:=more) (ws:=ws) (hs:=hs) (ts:=b) (o6:=a5 (.loc,.int (0+(y:Int)))) (o7:=o7) s3 ⋯ ⋯ ⋯ ⋯ ⋯ H s ⋯;show⟨j3 a rs (1+p) hs b more (a5 (.loc,.int (0+(y:Int)))) o7,_,aH,q,u4,Ub,Qm,_,_,rfl,s4.up (by simp;lia),⋯,by simp;lia,i4,g4,by simp;lia⟩) (eH ts.length) [] (j3 u2 rs (1+p) hs ts [] b8 b8) ⟨u2,ts,[],b8,b8,rfl,s2.up (by simp;lia),by simp,by simp,C.2,by simp,by simp⟩
  rw[i8,ve]at m3 s3;show⟨rs++more,a,?_,?_,by simp;lia,s3.up ⋯⟩
  .show cp (f:=.rt .loc (.tup ((rs++more).map B'))) (st:=j3 a rs (1+p) hs b more o6 o7) rfl z ?_ rfl rfl;show bf (aG A ai trivial (pq (by simp[B]))) av (ax (bE ai N trivial cu) aH (ax D a9 (ax (bJ (ae (af rfl) aj) trivial O) a9 (ax (cm aj trivial aI (i7 _)) a9 ?_))));show c6 (rs:=[(.loc,.int (ts.length:Nat))]) (ae (cv (ae (aC rfl) aj) ∅ (by rw[bY,c4])) aj) trivial (eU ⋯) rfl Y (bO (bE (af rfl) (cv (ae (aC rfl) aj) ∅ rfl) trivial ?_) dH);change(if (rs.map B').length+(more.map B').length<=cK then a5 (kT .loc .loc,U.tup (rs.map B'++more.map B')) else b8)=_;rw[ĝ (by simp;lia),i9];rfl
  .intro r hm;rcases hY.mp hm with hm|hm
   .show j r hm
   .show s r hm
 .show⟨rs,o,cp (f:=.rt .loc (.tup (rs.map B'))) (st:=c o) rfl z (jq (aG A ai trivial (pq (by simp[B]))) (bO (af rfl) dH)) rfl rfl,j,⋯,s1.up ⋯⟩
def Hg(a:aZ (IJ Pg d))(b:zt (IJ Pg d))(h:IY Pg "_law_widened" B4):zx (IJ Pg (d+1)):=by
 intro T u ws rs c f g i hl;have⟨j,u',e,r⟩:=B5 a b c f g i hl;show⟨j,u',by rw[cI h _ rfl];show e,r⟩
abbrev nO:Fn:=⟨"_law_same",2,2,[.ite (.KS (.var 1) .tuple) [.ite (.or [.not (.KS (.var 0) .tuple),.cmp .ne (.bi .len [.var 0]) (.bi .len [.var 1])]) [.ret (.cst (.bl cc))] [],.ret (.bi .all [.comp 1 cc .Js [.bi .len [.var 1]] [] (.call "_law_same" [.idx (.var 1) (.var 0),.idx (.var 2) (.var 0)])])] [],.ite (.KS (.var 1) .list) [.ite (.or [.not (.KS (.var 0) .list),.cmp .ne (.bi .len [.var 0]) (.bi .len [.var 1])]) [.ret (.cst (.bl cc))] [],.ret (.bi .all [.comp 1 cc .Js [.bi .len [.var 1]] [] (.call "_law_same" [.idx (.var 1) (.var 0),.idx (.var 2) (.var 0)])])] [],.ite (.cmp .is (.var 1) (.cst .ID)) [.ret (.cmp .is (.var 0) (.cst .ID))] [],.ite (.KS (.var 1) .str) [.ret (.and [.KS (.var 0) .str,.cmp .eq (.var 0) (.var 1)])] [],.ret (.and [.KS (.var 0) .int,.not (.KS (.var 0) .bool),.cmp .eq (.var 0) (.var 1)])]⟩
abbrev eO(Γ:Tab)(u:U):Prop:=Γ "_law_same" [u,u]=a5 (.ok (.loc,.bl bD))
def wc:dk Γ nO [.str x,.str x]=a5 (.ok (.loc,.bl bD)):=by
 show bu (st0:=[a5 (.loc,.str x),a5 (.loc,.str x)]) rfl (.inr rfl) rfl (bf (nE (af rfl) rfl) av (bf (nE (af rfl) rfl) av (bf (aG (af rfl) ai trivial rfl) av (jq (nE (af rfl) rfl) (bO (GV (ET (p:=bD) (q:=bD) (G3 (af rfl) rfl) λ_=>EN (jK (af rfl) (af rfl) trivial (by rw[uE];simp)))) dH)))))
def we{xs:List U}(hk:k=.loc\/k=.any)(d:∀i u,xs[i]?=a5 u->gE (k,w) (.int (i:Nat))=a5 (k,u))(f:Kp .len [(k,w)]=a5 (.loc,.int (xs.length:Nat)))(hl:xs.length<=1000)(g:∀u∈xs,eO Γ u):
  Run (ev Γ (.bi .all [.comp 1 cc .Js [.bi .len [.var 1]] [] (.call "_law_same" [.idx (.var 1) (.var 0),.idx (.var 2) (.var 0)])])) [a5 (k,w),a5 (k,w)] (.loc,.bl bD) [a5 (k,w),a5 (k,w)]:=by
 have j:(1000:Nat)<=cK:=by decide
 have l:∀(i:Nat) (st:aw),st[i]?=a5 (a5 (k,w))->Run (ev Γ (.var i)) st (k,w) st:=λi st h=>by
  rcases hk with rfl|rfl
  .show af h
  .show ba h
 have a:=jr (cond:=bc Γ []) (elt:=ev Γ (.call "_law_same" [.idx (.var 1) (.var 0),.idx (.var 2) (.var 0)])) (src:=[(.loc,.int (xs.length:Nat))]) (st:=[a5 (k,w),a5 (k,w)]) trivial .loc (.inl rfl) (λi:Nat=>U.int (0+(i:Int))) (λ_=>.bl bD) .loc (λ_=>lE) (eH xs.length) [] (by simp;lia)
  (λi m=>by
   have b:=tA.mp m;have e:=d i xs[i] (by simp[b]);have c:=g xs[i] (Jq b);rw[show(0:Int)+(i:Int)=(i:Nat) by lia];show⟨?_,aJ⟩;rcases hk with rfl|rfl
   .show bJ (ae (br (af rfl) (af rfl) trivial e) (ae (br (af rfl) (af rfl) trivial e) aj)) trivial c
   .show bJ (ae (br (ba rfl) (af rfl) trivial e) (ae (br (ba rfl) (af rfl) trivial e) aj)) trivial c)
 rw[i8]at a;have n:Kp .all [(.own,.lst ((eH xs.length).map λ_=>U.bl bD))]=a5 (.loc,.bl bD):=by
  have:=pb (k:=.own) ((eH xs.length).map λ_=>bD);rw[ke]at this;show Eq.trans this ?_;congr 3
  rw[U5];show i6.mpr λ_ _=>rfl
 show cv (ae (dC (rs:=[(.loc,.int (xs.length:Nat))]) (ae (cv (ae (l 1 _ rfl) aj) ?_ f) aj) trivial (eU ⋯) a) aj) trivial n;rcases hk with rfl|rfl<;>show trivial
def wg(hl:xs.length<=1000)(a:cH xs=bD)(d:∀u∈xs,eO Γ u):dk Γ nO [.tup xs,.tup xs]=a5 (.ok (.loc,.bl bD)):=by
 have q:=we (Γ:=Γ) (k:=.loc) (w:=.tup xs) (xs:=xs) (.inl rfl) (λi u h=>n_ (eI h)) kg hl d;show bu (st0:=[a5 (.loc,.tup xs),a5 (.loc,.tup xs)]) rfl (.inr rfl) ?_ (jq (nE (af rfl) rfl) (bf (ER (yO (nz (nE (b:=bD) (af rfl) rfl)) (yN (aG (cv (ae (af rfl) aj) trivial kg) (cv (ae (af rfl) aj) trivial kg) trivial (pq (c:=cc) (by simp)))))) av (bO q dH)));change [a5 (if I0 (.tup xs)=bD then Kd.loc else Kd.any,U.tup xs),a5 (if I0 (.tup xs)=bD then Kd.loc else Kd.any,U.tup xs)]=_;rw[ĝ (show I0 (.tup xs)=bD from a)]
def zA(h:IY Pg "_law_same" nO)(x:Str):eO (IJ Pg (d+1)) (.str x):=by unfold eO;rw[aN h];show wc
def zB(h:IY Pg "_law_same" nO)(hl:xs.length<=1000)(a:cH xs=bD)(b:∀u∈xs,eO (IJ Pg d) u):eO (IJ Pg (d+1)) (.tup xs):=by unfold eO;rw[aN h];show wg hl a b
section
def zC(o:i≠j)(l:st[i]?=a5 (a5 (k0,a)))(c:k0.root=bD)(x:st[j]?=a5 (a5 (k0',d)))(y:k0'.root=bD)(z:Run (bb Γ es) st rs st1)
  (b:st1[i]?=a5 (a5 (k,.lst us))) (hk:k.root=bD) (A:cH us=bD) (m:st1[j]?=a5 (a5 (k',.lst vs))) (p:k'.root=bD) (B:cH vs=bD) (C:rs.map (eD st1)=rs) (D:aW rs st1) (G:∀r∈rs,qe [a5 i,a5 j] r=bD)
  (H:Γ f (.lst us::.lst vs::rs.map (·.2))=a5 (.ok (n,.tup [v,.lst us',.lst s]))) (I:n=.own\/n=.loc):Run (ev Γ (.Iy f (.var i::.var j::es) [0,1])) st (n,v) ((st1.set i (a5 (k,.lst us'))).set j (a5 (k',.lst s))):=by
 have t:∀(i:Nat) (k0:Kd) (a:U),st[i]?=a5 (a5 (k0,a))->k0.root=bD->Run (ev Γ (.var i)) st (.bor i,a) st:=λi k0 a l c=>by
  have:=dG l (by rintro rfl;cases c);unfold kv at this;rw[ĝ c]at this;show this
 have w:∀(i:Nat) (k:Kd) (a u:U),st1[i]?=a5 (a5 (k,u))->k.root=bD->eD st1 (.bor i,a)=(.bor i,u):=λi k a u b hk=>by
  unfold eD
  dsimp only
  rw[b];simp[hk]
 have e:((Kd.bor i,a)::(Kd.bor j,d)::rs).map (eD st1)=(.bor i,.lst us)::(.bor j,.lst vs)::rs:=by rw[d8,d8,w i k a _ b hk,w j k' d _ m p,C]
 have g:hZ ((Kd.bor i,U.lst us)::(Kd.bor j,U.lst vs)::rs) 0=a5 i:=by
  change(if cH us=bD then a5 i else b8)=_;rw[ĝ A]
 have h:hZ ((Kd.bor i,U.lst us)::(Kd.bor j,U.lst vs)::rs) 1=a5 j:=by
  change(if cH vs=bD then a5 j else b8)=_;rw[ĝ B]
 show sH (rs:=(.bor i,a)::(.bor j,d)::rs) (ws:=[.lst us',.lst s]) (st1:=st1) (ae (t i k0 a l c) (ae (t j k0' d x y) z)) ?_ ?_ I ?_ ?_
 .rw[e];show⟨⟨k,hk,b⟩,⟨k',p,m⟩,D⟩
 .rw[e];show H
 .rw[e];unfold qf;rw[cb,cb];show⟨⟨by simp[g,h],by simp[g,h,o]⟩,i6.mpr λq J=>?_⟩
  match q with
  |0=>simp
  |1=>simp
  |q+2 =>
   have hl:q<rs.length:=by have:=tA.mp J;simpa using this
   rw[LF];show .inr ?_;rw[show((Kd.bor i,U.lst us)::(Kd.bor j,U.lst vs)::rs).getD (q+2) (.loc,.ID)=rs[q] by simp[Ov,hl]];simp only[d8,KD,g,h];show G _ (Jq hl)
 .rw[e];unfold gP;rw[g]
  dsimp only
  rw[b]
  dsimp only
  unfold gP;rw[h]
  dsimp only
  rw[hQ o,m];rfl
end
abbrev lR(Γ:Tab):Prop:=∀(ns:List Int) (u:U) (ws:List Str) (T:Int),Src T u->T+500<2 ^ 62->ns.length<1000->0<ws.length->ws.length<1000000 ->
  ∃(rs:List Row) (a:List Int) (u':U),Γ "_law_book" [.lst (ns.map .int),u,.lst (ws.map .str)]=a5 (.ok (.loc,.tup [.tup (rs.map B'),.lst (a.map .int),u']))/\dw ws rs/\rs.length<=60/\a.length<=ns.length/\Src (T+500) u'
def zD(a:iW (IJ Pg d))(b:aZ (IJ Pg d))(c:lO (IJ Pg d))(f:lP (IJ Pg d))(h:IY Pg "_law_book" ph):lR (IJ Pg (d+1)):=by
 intro ns u ws T g i j k l;have⟨rs,m,u',e,r⟩:=sT a b c f g i j k l;show⟨rs,m,u',by rw[cI h _ rfl];show e,r⟩
def qS(a:iW Γ){ns:List Int}:∃(b:List Int) (u:U),Run (ev Γ (.Iy "_law_source" [.var 1,.cst (.int k)] [0])) (o0::a5 (.own,.lst (ns.map .int))::rest) (.own,u) (o0::a5 (.own,.lst (b.map .int))::rest)/\b.length<=ns.length/\Src 0 u:=by
 by_cases h:ns=[]
 .subst h;show⟨[],fO k 0 1,E5 (k0:=.own) (k:=.own) a rfl rfl ai rfl rfl,gj _,⟨_,_,_,rfl,⋯,⋯⟩⟩
 .have e:=VO h;generalize ns.dropLast=l at e;generalize ns.getLast h=c at e;subst e;show⟨l,fO (c / 2) 0 (c % 2),zh (k0:=.own) (k:=.own) a rfl rfl ai rfl rfl,by simp,⟨_,_,_,rfl,⋯,⋯⟩⟩
def Src.lst(h:Src T u):∃us,u=.lst us/\cH us=bD:=by
 obtain⟨a,t,w,rfl,_,_⟩:=h;show⟨_,rfl,rfl⟩
end TM
namespace KL
open PySem L2 TM
abbrev dy:Fn:=⟨"gathered",1,4,[.newD 1,.IU bD [2,3] .seq [.var 0] [.ite (.inD bD (.var 2) 1) [.putD 1 (.var 2) (.lst [])] [],.KU 1 (.var 2) (.var 3)],.ret (.OV 1)]⟩
abbrev bq:Fn:=⟨"places_that_tell",1,4,[.set 1 (.lst []),.IU bD [2,3] .N7 [.var 0] [.ext 1 (.comp 1 cc .seq [.idx (.var 3) (.cst (.int 1))] [] (.tup [.var 0,.var 3]))],.ret (.call "gathered" [.var 1])]⟩
abbrev c7:Fn:=⟨"new_steps",3,6,[.set 3 (.Kh cc),.IU cc [4] .seq [.var 1] [.set 5 (.idx (.idx (.var 0) (.var 4)) (.cst (.int 0))),.ite (.and [.cmp .IH (.var 5) (.var 2),.cmp .IH (.var 5) (.var 3)]) [.put 3 (.var 5) (.var 4)] []],.ret (.OW 3)]⟩
abbrev bx:Fn:=⟨"steps_in_rounds",1,10,[.set 1 (.call "places_that_tell" [.var 0]),.set 2 (.comp 1 cc .seq [.var 0] [] (.bi .len [.idx (.var 0) (.cst (.int 1))])),.set 3 (.Kh cc),.set 4 (.lst []),.set 5 (.comp 2 bD .N7 [.var 2] [.cmp .eq (.var 1) (.cst (.int 0))] (.var 0)),.Nr (.cmp .ne (.var 5) (.lst [])) [.set 6 (.call "new_steps" [.var 0,.var 5,.var 3]),.set 5 (.lst []),.IU bD [7,8] .seq [.var 6] [.put 3 (.var 7) (.cst (.bl bD)),.IU cc [9] .seq [.Ll 1 (.var 7) (.lst [])] [.aug bD 2 (.var 9) (.cst (.int 1)),.ite (.cmp .eq (.idx (.var 2) (.var 9)) (.cst (.int 0))) [.app 5 (.var 9)] []]],.ite (.cmp .ne (.var 6) (.lst [])) [.app 4 (.var 6)] []],.ret (.var 4)]⟩
abbrev fG:Fn:=⟨"order",1,3,[.set 1 (.lst []),.IU cc [2] .seq [.call "steps_in_rounds" [.var 0]] [.ext 1 (.var 2)],.ret (.var 1)]⟩
abbrev fi:Fn:=⟨"learnt",1,1,[.ret (.bi .sorted [.comp 2 bD .seq [.call "order" [.var 0]] [] (.var 0)])]⟩
end KL
namespace KL
open PySem L2 TM Jc Od
abbrev cM(f:Str->List Nat)(k:Str):U:=.lst ((f k).map λt:Nat=>U.int (t:Nat))
def jw(d:List (Str×Nat))(y:Str×Nat)(k:Str):aO (d++[y]) k=if y.1=k then aO d k++[y.2] else aO d k:=by
 rw[qJ];by_cases e:y.1=k
 .rw[ĝ e];simp[aO,e]
 .rw[Ğ e];simp[aO,e]
def zE(d:List (Str×Nat))(k:Str):(aO d k).length<=d.length:=by
 unfold aO;rw[c4];show oT _ _
section
def pv(hl:ps.length<=1000):∃ks:List Str,(∀w,w∉ks->aO ps w=[])/\dk Γ dy [.lst (ps.map stN)]=a5 (.ok (.own,.IA ks (ks.map (cM (aO ps))))):=by
 have hsz:(2000:Nat)<=cK:=by decide
 have x:TM.start [.lst (ps.map stN)] 4=[a5 (.any,.lst (ps.map stN)),b8,b8,b8]:=rfl;let S:=λ(ks:List Str) (us:List U) (o2 o3:Option (Kd×U))=>([a5 (.any,.lst (ps.map stN)),a5 (.Iw,.IA ks us),o2,o3]:aw)
 let body:List TM.S:=[.ite (.inD bD (.var 2) 1)
    [.putD 1 (.var 2) (.lst [])]
    [],
   .KU 1 (.var 2) (.var 3)]
 have⟨st',A,l,ks,o2,o3,e,f,hk,B⟩:=bZ (t:=bD) (is:=[2,3]) (body:=execs Γ body) (rs:=[(.any,.lst (ps.map stN))]) (λp:Str×Nat=>(Kd.any,stN p))
  (λd r st=>d++r=ps/\∃(ks:List Str) (o2 o3:Option (Kd×U)),st=S ks (ks.map (cM (aO d))) o2 o3/\ks.Nodup/\(∀w,w∉ks->aO d w=[])/\ks.length<=d.length) (λ_ _ _ _=>trivial) (λd y r st C=>by
   have⟨l,ks,o2,o3,e,f,hk,B⟩:=C;subst e;have J:d.length<1000:=by have:=Ģ K1 l;simp at this;lia
   let g:Option (Kd×U):=a5 (.any,.str y.1);let i:Option (Kd×U):=a5 (.any,.int (y.2:Nat));have L:=zE d y.1;have j:∀(ks:List Str),ks.Nodup->y.1∈ks->Run (execs Γ [.KU 1 (.var 2) (.var 3)]) (S ks (ks.map (cM (aO d))) g i) .nx (S ks (ks.map (cM (aO (d++[y])))) g i):=λks f c=>by
    have D:dW ks (ks.map (cM (aO d))) y.1=a5 (.lst ((aO d y.1).map λt:Nat=>U.int (t:Nat))):=by rw[lN,ĝ c];rfl
    have hs:jY ks (ks.map (cM (aO d))) y.1 (.lst ((aO d y.1).map (λt:Nat=>U.int (t:Nat))++[.int (y.2:Nat)]))=ks.map (cM (aO (d++[y]))):=by
     rw[qK _ _ _ _ f];show wk λk hk=>?_;unfold cM;rw[jw];by_cases e:y.1=k
     .subst e;rw[ĝ rfl,ĝ rfl];simp
     .rw[Ğ e,Ğ (ri e)]
    rw[<-hs];show EY (k:=.any) (r:=(.any,.int (y.2:Nat))) rfl (ba rfl) c (ba rfl) (qz rfl) D (by rw[c4];lia) av
   have m:Run (IX Γ (.inD bD (.var 2) 1)) (S ks (ks.map (cM (aO d))) g i) (!cn (y.1∈ks)) (S ks (ks.map (cM (aO d))) g i):=G5 (neg:=bD) (k:=.any) (ba rfl) rfl;have o:Run (dN bD [2,3] (.any,stN y)) (S ks (ks.map (cM (aO d))) o2 o3) () (S ks (ks.map (cM (aO d))) g i):=nF (.inr rfl);by_cases c:y.1∈ks
   .rw[Ġ c]at m;show⟨_,_,o,oW m (λh=>by cases h) λ_=>j ks f c,by rw[<-l];simp,ks,_,_,rfl,f,λw n=>?_,by simp;lia⟩;have G:y.1≠w:=λz=>n (by rw[<-z];show c);rw[jw,Ğ G];show hk w n
   .rw[ğ c]at m;have q:(ks++[y.1]).Nodup:=by
     rw[sx];show⟨f,by simp,λa H b I e=>?_⟩;have:b=y.1:=by simpa using I
     subst this;show c (e▸H)
    have em:ks.map (cM (aO d))++[.lst []]=(ks++[y.1]).map (cM (aO d)):=by
     rw[i9];congr 1
     change _=[cM (aO d) y.1]
     unfold cM;rw[hk y.1 c];rfl
    have s:=j (ks++[y.1]) q (by simp);rw[<-em]at s;show⟨_,_,o,oW m (λ_=>EX (k:=.any) (xs:=[]) (cm aj trivial aI (i7 _)) rfl (ba rfl) c ⋯ s) λh=>(by cases h),by rw[<-l];simp,ks++[y.1],_,_,rfl,q,λw n=>?_,by simp;lia⟩;have v:w∉ks/\w≠y.1:=by simpa using n
    rw[jw,Ğ (ri v.2)];show hk w v.1) ps [] (S [] [] b8 b8) ⟨rfl,[],b8,b8,rfl,.nil,λ_ _=>rfl,gj _⟩
 subst e;rw[i8]at *;show⟨ks,hk,?_⟩;have e:(ps.map stN).map (λu=>(kE .any,u))=ps.map λp=>(Kd.any,stN p):=by rw[ke];rfl
 show bu rfl (.inl rfl) x (EW (c6 (rs:=[(.any,.lst (ps.map stN))]) (st1:=S [] [] b8 b8) (ae (ba rfl) aj) trivial rfl rfl (by rw[e];show A) (bO (G6 rfl) (jN rfl))))
abbrev CL(Γ:Tab):Prop:=∀ps:List (Str×Nat),ps.length<=1000->∃ks:List Str,(∀w,w∉ks->aO ps w=[])/\Γ "gathered" [.lst (ps.map stN)]=a5 (.ok (.own,.IA ks (ks.map (cM (aO ps)))))
def sW(s:CL Γ)(v:Once rows)(z:∀r∈rows,r.2.length<=8)(I:rows.length<=120):
  ∃ks:List Str,(∀w,w∉ks->Jk rows rows.length w=[])/\dk Γ bq [.tup (rows.map B')]=a5 (.ok (.own,.IA ks (ks.map (cM (Jk rows rows.length))))):=by
 have hsz:(2000:Nat)<=cK:=by decide
 have A:TM.start [.tup (rows.map B')] 4=[a5 (.loc,.tup (rows.map B')),b8,b8,b8]:=by simp[TM.start,I0,bP]
 let S:=λ(ps:List (Str×Nat)) (o2 o3:Option (Kd×U))=>([a5 (.loc,.tup (rows.map B')),a5 (.own,.lst (ps.map stN)),o2,o3]:aw)
 let body:List TM.S:=[.ext 1 (.comp 1 cc .seq [.idx (.var 3) (.cst (.int 1))] [] (.tup [.var 0,.var 3]))]
 have⟨st',B,g,ps,o2,o3,e,h,l⟩:=bZ (t:=bD) (is:=[2,3]) (body:=execs Γ body) (rs:=[(.loc,.tup (rows.map B'))]) (λp:Row×Nat=>(Kd.loc,U.tup [.int (p.2:Nat),B' p.1]))
  (λd r st=>d++r=rows.zipIdx/\∃(ps:List (Str×Nat)) (o2 o3:Option (Kd×U)),st=S ps o2 o3/\(∀w,aO ps w=Jk rows d.length w)/\ps.length<=8 * d.length) (λ_ _ _ _=>trivial) (λd y r st C=>by
   have⟨g,ps,o2,o3,e,h,l⟩:=C;subst e;have⟨f,i⟩:=y;have m:(rows.zipIdx)[d.length]?=a5 (f,i):=by rw[<-g];simp
   rw[S5,et]at m;have⟨a,n,e⟩:=m;have D:a=f:=Ģ È e;have o:0+d.length=i:=Ģ Prod.snd e;rw[PV]at o;subst D o;have J:d.length<120:=by have:=Ģ K1 g;simp at this;lia
   have L:=z a (my n);let b:Option (Kd×U):=a5 (.loc,.int (d.length:Nat));let c:Option (Kd×U):=a5 (.loc,B' a);have q:=jr (cond:=bc Γ []) (elt:=ev Γ (.tup [.var 0,.var 3])) (src:=[(.loc,.tup (a.2.map .str))]) (st:=S ps b c) trivial .loc (.inl rfl) U.str (λx=>stN (x,d.length)) .loc (λ_=>lE) a.2 [] (by simp;lia)
    (λy _=>⟨gR (ae (af rfl) (ae (af rfl) aj)) trivial (aD aJ (aD aJ aI)) (by change 2<=cK;lia),aJ⟩)
   rw[i8]at q;have e:(a.2.map U.str).map (λu=>(kE .loc,u))=a.2.map λr=>(Kd.loc,U.str r):=by rw[ke];rfl
   have G:Run (ev Γ (.comp 1 cc .seq [.idx (.var 3) (.cst (.int 1))] [] (.tup [.var 0,.var 3]))) (S ps b c) (.own,.lst (a.2.map λx=>stN (x,d.length))) (S ps b c) :=
    dC (rs:=[(.loc,.tup (a.2.map .str))]) (ae (br (x:=(.loc,B' a)) (af rfl) ai trivial rfl) aj) trivial (by change a5 _=_;rw[e]) q
   have em:ps.map stN++(a.2.map λx=>stN (x,d.length))=(ps++a.2.map λx=>(x,d.length)).map stN:=by simp
   show⟨S ps b c,S (ps++a.2.map λx=>(x,d.length)) b c,nF (.inl rfl),?_,by rw[<-g];simp,_,_,_,rfl,λw=>?_,by simp;lia⟩
   .change Run _ _ _ [a5 (.loc,.tup (rows.map B')),a5 (.own,.lst ((ps++a.2.map λx=>(x,d.length)).map stN)),b,c];rw[<-em];show yS (k:=.own) (k':=.own) rfl G rfl rfl (uC (by rw[c4,c4];lia) rfl) av
   .rw[ia];show v5 v n h w) rows.zipIdx [] (S [] b8 b8) ⟨rfl,[],b8,b8,rfl,λw=>by simp[aO,Jk],by simp⟩
 subst e;rw[i8,List.length_zipIdx]at h l;have j:Ky .N7 [(.loc,.tup (rows.map B'))]=a5 (rows.zipIdx.map λp:Row×Nat=>(Kd.loc,U.tup [.int (p.2:Nat),B' p.1])):=by
  change a5 ((rows.map B').zipIdx.map λp=>(kE .loc,U.tup [.int p.2,p.1]))=_;rw[List.zipIdx_map,ke];rfl
 have⟨ks,k1,k2⟩:=s ps ⋯;have H:aO ps=Jk rows rows.length:=funext h;rw[H]at k1 k2;show⟨ks,k1,?_⟩;show bu rfl (.inl rfl) A (ax (r:=(.own,.lst [])) (cm aj trivial aI (i7 _)) a9 (c6 (rs:=[(.loc,.tup (rows.map B'))]) (st1:=S [] b8 b8) (ae (af rfl) aj) trivial j rfl B
  (bO (bJ (ae (aC rfl) aj) ⟨⟨.own,rfl,rfl⟩,trivial⟩ k2) jM)))
def mw{names:List Str}(v:∀r∈rows,r.1∈names)(Q:names.length<64)(y:∀t∈R,t<rows.length):
  ∃st:List (Str×Nat),NS rows K0 R st/\dk Γ c7 [.tup (rows.map B'),.lst (R.map λt:Nat=>.int (t:Nat)),.IA K0 vs]=a5 (.ok (.own,.lst (st.map stN))):=by
 have hsz:(2000:Nat)<=cK:=by decide
 have z:TM.start [.tup (rows.map B'),.lst (R.map λt:Nat=>.int (t:Nat)),.IA K0 vs] 6=[a5 (.loc,.tup (rows.map B')),a5 (.any,.lst (R.map λt:Nat=>.int (t:Nat))),a5 (.any,.IA K0 vs),b8,b8,b8]:=by simp[TM.start,I0,bP]
 let S:=λ(ps:List (Str×Nat)) (o4 o5:Option (Kd×U))=>([a5 (.loc,.tup (rows.map B')),a5 (.any,.lst (R.map λt:Nat=>.int (t:Nat))),a5 (.any,.IA K0 vs),a5 (.own,.IA (ps.map (·.1)) (ps.map λp=>.int (p.2:Nat))),o4,o5]:aw)
 let body:List TM.S:=[.set 5 (.idx (.idx (.var 0) (.var 4)) (.cst (.int 0))),
   .ite (.and [.cmp .IH (.var 5) (.var 2),.cmp .IH (.var 5) (.var 3)])
    [.put 3 (.var 5) (.var 4)]
    []]
 have o:∀{d:List Nat} {ps:List (Str×Nat)},NS rows K0 d ps->ps.length<=names.length:=λ{d ps} x=>by
  have:=uG x.once (L:=names) λw A=>by
   have⟨s,hs,rfl⟩:=js.mp A;obtain⟨_,_,r,b,c⟩:=x.ok s hs;rw[<-c];show v r (my b)
  simpa using this
 have⟨st',B,j,ps,o4,o5,e,x⟩:=bZ (t:=cc) (is:=[4]) (body:=execs Γ body) (rs:=[(.any,.lst (R.map λt:Nat=>.int (t:Nat)))]) (λt:Nat=>(Kd.any,U.int (t:Nat)))
  (λd r st=>d++r=R/\∃(ps:List (Str×Nat)) (o4 o5:Option (Kd×U)),st=S ps o4 o5/\NS rows K0 d ps) (λ_ _ _ _=>trivial) (λd t r st C=>by
   have⟨j,ps,o4,o5,e,x⟩:=C;subst e;have D:t<rows.length:=y t (by rw[<-j];simp);have l:rows[t]?=a5 rows[t]:=by simp[D]
   generalize rows[t]=a at l;let f:Option (Kd×U):=a5 (.any,.int (t:Nat));let m:Option (Kd×U):=a5 (.loc,.str a.1);have G:=o x;have i:Run (IX Γ (.and [.cmp .IH (.var 5) (.var 2),.cmp .IH (.var 5) (.var 3)])) (S ps f m) (!cn (a.1∈K0)&&!cn (a.1∈ps.map (·.1))) (S ps f m) :=
    d9 (oX (aG (af rfl) (ba rfl) trivial gB) λ_=>cw (aG (af rfl) (aC rfl) ⟨⟨.own,rfl,rfl⟩,trivial⟩ gB))
   have g:∀{q:aw},Run (execs Γ [.ite (.and [.cmp .IH (.var 5) (.var 2),.cmp .IH (.var 5) (.var 3)])
    [.put 3 (.var 5) (.var 4)]
    []]) (S ps f m) .nx q->Run (execs Γ body) (S ps f o5) .nx q:=λh =>
    ax (r:=(.loc,.str a.1)) (br (x:=(.loc,B' a)) (br (af rfl) (ba rfl) trivial (n_ (BW l))) ai trivial rfl) aH h
   have n:Run (dN cc [4] (.any,.int (t:Nat))) (S ps o4 o5) () (S ps f o5):=fF jL;by_cases b:a.1∈K0
   .rw[Ġ b]at i;show⟨_,_,n,g (oW i (λh=>by cases h) λ_=>av),by rw[<-j];simp,ps,_,_,rfl,x.skip l (.inl b)⟩
   .by_cases c:a.1∈ps.map (·.1)
    .rw[ğ b,Ġ c]at i;show⟨_,_,n,g (oW i (λh=>by cases h) λ_=>av),by rw[<-j];simp,ps,_,_,rfl,x.skip l (.inr c)⟩
    .rw[ğ b,ğ c]at i;show⟨_,S (ps++[(a.1,t)]) f m,n,g (oW i (λ_=>?_) λh=>by cases h),by rw[<-j];simp,_,_,_,rfl,x.take l b c⟩;have H:(ps++[(a.1,t)]).map (·.1)=ps.map (·.1)++[a.1]:=by simp
     have I:((ps++[(a.1,t)]).map λp=>U.int (p.2:Nat))=(ps.map λp=>U.int (p.2:Nat))++[.int (t:Nat)]:=by simp
     change Run _ _ _ [a5 (.loc,.tup (rows.map B')),a5 (.any,.lst (R.map λt:Nat=>.int (t:Nat))),a5 (.any,.IA K0 vs),a5 (.own,.IA ((ps++[(a.1,t)]).map (·.1)) ((ps++[(a.1,t)]).map λp=>.int (p.2:Nat))),f,m];rw[H,I];show iR (k:=.own) (rv:=(.any,.int (t:Nat))) (rk:=(.loc,.str a.1)) (ba rfl) rfl (af rfl) (aD (qz rfl) (aD aJ aI)) rfl rfl (uI (by rw[c4];lia) c) av) R [] (S [] b8 b8) ⟨rfl,[],b8,b8,rfl,NS.start K0⟩
 subst e;rw[i8]at x;have G:=o x;have⟨J,N,O⟩:=BV (ps:=ps) ⋯ x.once;show⟨J,x.perm N,?_⟩;have e:(R.map λt:Nat=>U.int (t:Nat)).map (λu=>(kE .any,u))=R.map λt=>(Kd.any,U.int (t:Nat)):=by rw[ke];rfl
 show bu rfl (.inl rfl) z (ax (r:=(.own,.IA [] [])) lD a9 (c6 (rs:=[(.any,.lst (R.map λt:Nat=>.int (t:Nat)))]) (st1:=S [] b8 b8) (ae (ba rfl) aj) trivial rfl rfl (by rw[e];show B) (bO (G8 rfl O) jM)))
end
abbrev mi(rows:List Row)(K0:List Str)(d:List Nat)(p:Nat):Int:=(cnt rows K0 p:Int) - (if p∈d then 1 else 0)
abbrev bR(rows:List Row)(f:Nat->Int):List U:=(eH rows.length).map λp=>U.int (f p)
abbrev fH(R:List Nat):List U:=R.map λt:Nat=>U.int (t:Nat)
def B6(rows:List Row)(K0:List Str):bR rows (mi rows K0 [])=bR rows λp=>(cnt rows K0 p:Int):=by
 unfold bR mi;show wk λp _=>?_;simp
def B7(b:Once rows)(c:w∉K0):bR rows (mi rows K0 (Jk rows rows.length w))=bR rows λp=>(cnt rows (K0++[w]) p:Int):=by
 unfold bR mi;show wk λp d=>?_;have e:=tA.mp d;have a:=oZ b c p;by_cases h:w∈told rows p
 .rw[ĝ (iV.mpr ⟨e,h⟩)];rw[ĝ h]at a;change U.int ((cnt rows K0 p:Int) - 1)=U.int (cnt rows (K0++[w]) p:Int);congr 1
  lia
 .rw[Ğ λz=>h (iV.mp z).2];rw[Ğ h]at a;change U.int ((cnt rows K0 p:Int) - 0)=U.int (cnt rows (K0++[w]) p:Int);congr 1
  lia
def zF(a:t∉d):(bR rows (mi rows K0 d)).set t (.int (mi rows K0 d t - 1))=bR rows (mi rows K0 (d++[t])):=by
 unfold bR;rw[set_range];show wk λp _=>?_;unfold mi;by_cases e:p=t
 .subst e;rw[ĝ rfl,Ğ a,ĝ (by simp)];rw[show((cnt rows K0 p:Int) - 0 - 1)=(cnt rows K0 p:Int) - 1 by lia]
 .rw[Ğ e];have:(p∈d++[t])↔p∈d:=by simp[e]
  simp only[this]
def zG(h:t<rows.length):(bR rows f)[t]?=a5 (.int (f t)):=by simp[bR,h]
section
variable{Γ:Tab}{rows:List Row}
abbrev uN:List TM.S:=[.aug bD 2 (.var 9) (.cst (.int 1)),.ite (.cmp .eq (.idx (.var 2) (.var 9)) (.cst (.int 0))) [.app 5 (.var 9)] []]
def qT(u:Once rows)(J:rows.length<=120)(v:w∉K0)(L:R.length<=14400)(o9:Option (Kd×U))(y:∀st,aW src st):∃l:Option (Kd×U),
  Run (forM cc [9] (execs Γ uN) src ((Jk rows rows.length w).map λt:Nat=>(Kd.loc,U.int (t:Nat))))
   [b0,b1,a5 (.own,.lst (bR rows λp=>(cnt rows K0 p:Int))),b3,b4,a5 (.own,.lst (fH R)),o6,o7,o8,o9] .nx
   [b0,b1,a5 (.own,.lst (bR rows λp=>(cnt rows (K0++[w]) p:Int))),b3,b4,a5 (.own,.lst (fH (R++(Jk rows rows.length w).filter λt=>cn (cnt rows K0 t=1)))),o6,o7,o8,l]:=by
 have hsz:(20000:Nat)<=cK:=by decide
 let S:=λ(ms:List U) (R:List Nat) (o9:Option (Kd×U))=>([b0,b1,a5 (.own,.lst ms),b3,b4,a5 (.own,.lst (fH R)),o6,o7,o8,o9]:aw)
 have⟨st',m,c,l,e⟩:=bZ (t:=cc) (is:=[9]) (body:=execs Γ uN) (rs:=src) (λt:Nat=>(Kd.loc,U.int (t:Nat)))
  (λd r st=>d++r=Jk rows rows.length w/\∃o9:Option (Kd×U),st=S (bR rows (mi rows K0 d)) (R++d.filter λt=>cn (cnt rows K0 t=1)) o9) (λ_ _ st _=>y st) (λd t r st A=>by
   have⟨c,o9,e⟩:=A;subst e;have B:t∈Jk rows rows.length w:=by rw[<-c];simp
   have n:t<rows.length:=(iV.mp B).1;have o:=v3 (rows:=rows) rows.length w;have C:t∉d:=λz=>by
    rw[<-c,sx]at o;show o.2.2 t z t (by simp) rfl
   have N:d.length<=120:=by
    have D:=Ģ K1 c;have G:(Jk rows rows.length w).length<=(eH rows.length).length:=oT _ _;simp at D G;lia
   let b:Option (Kd×U):=a5 (.loc,.int (t:Nat));let a:=R++d.filter λt=>cn (cnt rows K0 t=1);have O:a.length<=14520:=by
    have:(d.filter λt=>cn (cnt rows K0 t=1)).length<=d.length:=oT _ _;change(R++_).length<=_;rw[ia];lia
   have H:JD (bR rows (mi rows K0 (d++[t]))) (t:Int)=a5 (.int (mi rows K0 (d++[t]) t)):=eI (zG n);have I:mi rows K0 (d++[t]) t=(cnt rows K0 t:Int) - 1:=by unfold mi;rw[ĝ (by simp)]
   have g:Run (IX Γ (.cmp .eq (.idx (.var 2) (.var 9)) (.cst (.int 0)))) (S (bR rows (mi rows K0 (d++[t]))) a b) (cn (cnt rows K0 t=1)) (S (bR rows (mi rows K0 (d++[t]))) a b) :=
    aG (br (x:=(.bor 2,.lst (bR rows (mi rows K0 (d++[t]))))) (aC rfl) (af rfl) ⟨⟨.own,rfl,rfl⟩,trivial⟩ (cy H)) ai trivial (bp (by
     rw[I,D7];simp;lia))
   have f:∀{q:aw},Run (execs Γ [.ite (.cmp .eq (.idx (.var 2) (.var 9)) (.cst (.int 0)))
      [.app 5 (.var 9)]
      []]) (S (bR rows (mi rows K0 (d++[t]))) a b) .nx q->Run (execs Γ uN) (S (bR rows (mi rows K0 d)) a b) .nx q:=λh=>by
    show G7 (us:=bR rows (mi rows K0 d)) (k1:=.loc) (k2:=.loc) (j:=t) (w:=1) rfl (af rfl) (zG n) ai ?_;rw[zF C];show h
   have s:Run (dN cc [9] (.loc,.int (t:Nat))) (S (bR rows (mi rows K0 d)) a o9) () (S (bR rows (mi rows K0 d)) a b):=fF aH;cases i:cn (cnt rows K0 t=1) with
   |false =>
    rw[i]at g;show⟨_,_,s,f (oW g (λh=>by cases h) λ_=>av),by rw[<-c];simp,b,?_⟩;rw[Pk,Jw,i];simp[S,a]
   |true =>
    rw[i]at g;show⟨_,S (bR rows (mi rows K0 (d++[t]))) (a++[t]) b,s,f (oW g (λ_=>?_) λh=>by cases h),by rw[<-c];simp,b,?_⟩
    .have em:fH (a++[t])=fH a++[.int (t:Nat)]:=by simp[fH]
     change Run _ _ _ [b0,b1,a5 (.own,.lst (bR rows (mi rows K0 (d++[t])))),b3,b4,a5 (.own,.lst (fH (a++[t]))),o6,o7,o8,b];rw[em];show gc (k:=.own) (k':=.own) (r:=(.loc,.int (t:Nat))) rfl (af rfl) aJ rfl rfl (by unfold fH;rw[c4];lia) av
    .rw[Pk,Jw,i];simp[S,a]) (Jk rows rows.length w) [] (S (bR rows (mi rows K0 [])) R o9) ⟨rfl,o9,by simp⟩
 subst e;rw[i8]at m;rw[B6,B7 u v]at m;show⟨l,m⟩
abbrev zH:List TM.S:=[.put 3 (.var 7) (.cst (.bl bD)),.IU cc [9] .seq [.Ll 1 (.var 7) (.lst [])] uN]
def wj(n:Once rows)(y:rows.length<=120)(A:∀w,w∉ks->Jk rows rows.length w=[])(o:(K0++st.map (·.1)).Nodup)(hl:K0.length+st.length<=120)(vs:List U)(o7 o8 o9:Option (Kd×U)):∃(g:List U) (R:List Nat) (i j a:Option (Kd×U)),
  RI rows K0 (K0++st.map (·.1)) R/\(st=[]->R=[])/\Run (forM bD [7,8] (execs Γ zH) [(.bor 6,.lst (st.map stN))] (st.map λs=>(Kd.loc,stN s)))
   [b0,a5 (.own,.IA ks (ks.map (cM (Jk rows rows.length)))),a5 (.own,.lst (bR rows λp=>(cnt rows K0 p:Int))),a5 (.own,.IA K0 vs),b4,a5 (.own,.lst []),a5 (.own,.lst (st.map stN)),o7,o8,o9] .nx
   [b0,a5 (.own,.IA ks (ks.map (cM (Jk rows rows.length)))),a5 (.own,.lst (bR rows λp=>(cnt rows (K0++st.map (·.1)) p:Int))),a5 (.own,.IA (K0++st.map (·.1)) g),b4,a5 (.own,.lst (fH R)),a5 (.own,.lst (st.map stN)),i,j,a]:=by
 let S:=λ(K:List Str) (vs:List U) (R:List Nat) (o7 o8 o9:Option (Kd×U))=>([b0,a5 (.own,.IA ks (ks.map (cM (Jk rows rows.length)))),a5 (.own,.lst (bR rows λp=>(cnt rows K p:Int))),a5 (.own,.IA K vs),b4,a5 (.own,.lst (fH R)),a5 (.own,.lst (st.map stN)),o7,o8,o9]:aw)
 have⟨st',B,b,g,R,i,j,a,e,x,C,q⟩:=bZ (t:=bD) (is:=[7,8]) (body:=execs Γ zH) (rs:=[(.bor 6,.lst (st.map stN))]) (λs:Str×Nat=>(Kd.loc,stN s))
  (λd r l=>d++r=st/\∃(vs:List U) (R:List Nat) (o7 o8 o9:Option (Kd×U)),l=S (K0++d.map (·.1)) vs R o7 o8 o9/\RI rows K0 (K0++d.map (·.1)) R/\R.length<=120 * d.length/\(d=[]->R=[])) (λ_ _ l ⟨_,vs,R,o7,o8,o9,e,_⟩=>by subst e;show⟨⟨.own,rfl,rfl⟩,trivial⟩) (λd s r l D=>by
   have⟨b,vs,R,o7,o8,o9,e,x,C,q⟩:=D;subst e;have⟨w,p⟩:=s;have N:d.length<st.length:=by have:=Ģ K1 b;simp at this;lia
   have m:w∉K0++d.map (·.1):=λz=>by
    rw[<-b,i9,<-ZT,sx]at o;show o.2.2 w z w (by simp) rfl
   let c:Option (Kd×U):=a5 (.loc,.str w);let f:Option (Kd×U):=a5 (.loc,.int (p:Nat));have⟨a,G⟩:=qT (Γ:=Γ) n y m (R:=R) ⋯ (b0:=b0) (b1:=a5 (.own,.IA ks (ks.map (cM (Jk rows rows.length))))) (b3:=a5 (.own,.IA (K0++d.map (·.1)++[w]) (vs++[.bl bD]))) (b4:=b4) (o6:=a5 (.own,.lst (st.map stN))) (o7:=c) (o8:=f) o9 (src:=[(.loc,cM (Jk rows rows.length) w)]) (λ_=>trivial);have em:K0++(d++[(w,p)]).map (·.1)=K0++d.map (·.1)++[w]:=by simp
   have H:(K0++d.map (·.1)).length<1000:=by rw[ia,c4];lia
   have I:(match dW ks (ks.map (cM (Jk rows rows.length))) w with|some v=>(Kd.loc,v)|none=>(.loc,U.lst []))=(.loc,cM (Jk rows rows.length) w):=by
    rw[lN];by_cases h:w∈ks
    .rw[ĝ h]
    .rw[Ğ h];unfold cM;rw[A w h];rfl
   have J:((Jk rows rows.length w).map λt:Nat=>U.int (t:Nat)).map (λu=>(kE .loc,u))=(Jk rows rows.length w).map λt=>(Kd.loc,U.int (t:Nat)):=by rw[ke];rfl
   show⟨S (K0++d.map (·.1)) vs R c f o9,S (K0++d.map (·.1)++[w]) (vs++[.bl bD]) (R++(Jk rows rows.length w).filter λt=>cn (cnt rows (K0++d.map (·.1)) t=1)) c f a,nF (.inl rfl),?_,by rw[<-b];simp,vs++[.bl bD],_,c,f,a,by rw[em],?_,?_,λz=>by simp at z⟩
   .show iR (k:=.own) (rv:=(.loc,.bl bD)) (rk:=(.loc,.str w)) ai rfl (af rfl) (aD aJ (aD aJ aI)) rfl rfl (uI H m) ?_;show c6 (rs:=[(.loc,cM (Jk rows rows.length) w)]) (ae (EZ (k:=.loc) (z:=(.own,.lst [])) (u:=.lst []) rfl (af rfl) (cm aj trivial aI (i7 _)) yM I) aj) trivial (by change a5 (WT (λu=>(kE .loc,u)) _)=_;rw[J]) rfl G av
   .rw[em];show x.step n m
   .have:((Jk rows rows.length w).filter λt=>cn (cnt rows (K0++d.map (·.1)) t=1)).length<=120:=by
     show wh (oT _ _) ?_;have L:(Jk rows rows.length w).length<=(eH rows.length).length:=oT _ _;simp at L;lia
    rw[ia,ia,NI];lia) st [] (S K0 vs [] o7 o8 o9) ⟨rfl,vs,[],o7,o8,o9,by simp[S],by simpa using RI.start K0,by simp,λ_=>rfl⟩
 subst e;show⟨g,R,i,j,a,by simpa using x,λz=>q (by simpa using z),by simpa[S,fH] using B⟩
abbrev gH(a:List (List (Str×Nat))):List U:=a.map λl=>U.lst (l.map stN)
abbrev zI:List TM.S:=[.set 6 (.call "new_steps" [.var 0,.var 5,.var 3]),.set 5 (.lst []),.IU bD [7,8] .seq [.var 6] zH,.ite (.cmp .ne (.var 6) (.lst [])) [.app 4 (.var 6)] []]
abbrev zJ(Γ:Tab)(rows:List Row):Prop:=∀(R:List Nat) (K0:List Str) (vs:List U),(∀t∈R,t<rows.length)->∃st:List (Str×Nat),NS rows K0 R st/\Γ "new_steps" [.tup (rows.map B'),.lst (fH R),.IA K0 vs]=a5 (.ok (.own,.lst (st.map stN)))
theorem jx(G:Once rows)(H:rows.length<=120)(I:zJ Γ rows)(J:∀w,w∉ks->Jk rows rows.length w=[]):∀(f:Nat) (c:List (Str×Nat)) (d:List (List (Str×Nat))) (R:List Nat) (vs:List U) (o6 o7 o8 o9:Option (Kd×U)),
  LI rows c R->d.flatten=c->d.length<=c.length->(rows.length - c.length)+(if R=[] then 1 else 2)<=f ->
  ∃(Qp:List (Str×Nat)) (N:List (List (Str×Nat))) (st':aw),LI rows Qp []/\N.flatten=Qp/\N.length<=120/\st'[4]?=a5 (a5 (.own,.lst (gH N))) /\
   Run (gF (IX Γ (.cmp .ne (.var 5) (.lst []))) (execs Γ zI) f) [a5 (.loc,.tup (rows.map B')),a5 (.own,.IA ks (ks.map (cM (Jk rows rows.length)))),a5 (.own,.lst (bR rows λp=>(cnt rows (c.map (·.1)) p:Int))),a5 (.own,.IA (c.map (·.1)) vs),a5 (.own,.lst (gH d)),a5 (.own,.lst (fH R)),o6,o7,o8,o9] .nx st'
 |0,c,d,R,vs,o6,o7,o8,o9,_,_,_,h=>by split at h<;>lia
 |f+1,c,d,R,vs,o6,o7,o8,o9,x,O,OO,h=>by
  have hsz:(20000:Nat)<=cK:=by decide
  have MP:∀{s:List (Str×Nat)} {g:List Nat},LI rows s g->s.length<=rows.length:=λ{s g} x=>by
   have:=uG x.nd x.wd;simpa using this
  have JB:=MP x;let S:=λ(K:List Str) (vs:List U) (d:List (List (Str×Nat))) (R:List Nat) (o6 o7 o8 o9:Option (Kd×U))=>([a5 (.loc,.tup (rows.map B')),a5 (.own,.IA ks (ks.map (cM (Jk rows rows.length)))),a5 (.own,.lst (bR rows λp=>(cnt rows K p:Int))),a5 (.own,.IA K vs),a5 (.own,.lst (gH d)),a5 (.own,.lst (fH R)),o6,o7,o8,o9]:aw)
  have YD:∀R:List Nat,J3 50 (.lst (fH R))=bD:=λR=>by change eS 49 _=bD;show nI (λt:Nat=>((t:Nat):Int)) R 49
  have A:Run (IX Γ (.cmp .ne (.var 5) (.lst []))) (S (c.map (·.1)) vs d R o6 o7 o8 o9) (!(fH R).isEmpty) (S (c.map (·.1)) vs d R o6 o7 o8 o9) :=
   aG (aC rfl) (cm aj trivial aI (i7 _)) ⟨⟨.own,rfl,rfl⟩,trivial⟩ (qL (YD R))
  by_cases Q:R=[]
  .subst Q;show⟨c,d,_,x,O,⋯,rfl,uH A⟩
  .rw[Ğ Q]at h;have YE:(!(fH R).isEmpty)=bD:=by
    cases R with
    |nil=>show absurd rfl Q
    |cons a l=>rfl
   rw[YE]at A;have⟨st,n,II⟩:=I R (c.map (·.1)) vs λt ht=>(x.Qh t ht).1;have IW:(c.map (·.1)++st.map (·.1)).Nodup:=by
    rw[sx];show⟨x.nd,n.once,λa ha b q e=>?_⟩;have⟨s,hs,rfl⟩:=js.mp q;show(n.ok s hs).2.1 (e▸ha)
   have ab:c.length+st.length<=rows.length:=by
    have:=uG IW (L:=rows.map (·.1)) λy hy=>by
     rcases hY.mp hy with hy|hy
     .show x.wd y hy
     .have⟨s,hs,rfl⟩:=js.mp hy;obtain⟨_,_,r,q1,q2⟩:=n.ok s hs;show js.mpr ⟨r,my q1,q2⟩
    simpa using this
   let v:Option (Kd×U):=a5 (.own,.lst (st.map stN));have⟨i,g,j,m,o,y,YF,Ue⟩:=wj (Γ:=Γ) G H J IW (by rw[c4];lia) (b0:=a5 (.loc,.tup (rows.map B'))) (b4:=a5 (.own,.lst (gH d))) vs o7 o8 o9;have T:=x.step n y;have em:(c++st).map (·.1)=c.map (·.1)++st.map (·.1):=i9;have YG:J3 50 (.lst (st.map stN))=bD:=by change eS 49 _=bD;show qM st 48
   have B:Run (IX Γ (.cmp .ne (.var 6) (.lst []))) (S (c.map (·.1)++st.map (·.1)) i d g v j m o) (!(st.map stN).isEmpty) (S (c.map (·.1)++st.map (·.1)) i d g v j m o) :=
    aG (aC rfl) (cm aj trivial aI (i7 _)) ⟨⟨.own,rfl,rfl⟩,trivial⟩ (qL YG)
   have e1:(st.map stN).map (λu=>(kE (.bor 6),u))=st.map λs=>(Kd.loc,stN s):=by rw[ke];rfl
   have z:∀{Kj:aw},Run (execs Γ [.ite (.cmp .ne (.var 6) (.lst []))
    [.app 4 (.var 6)]
    []]) (S (c.map (·.1)++st.map (·.1)) i d g v j m o) .nx Kj->Run (execs Γ zI) (S (c.map (·.1)) vs d R o6 o7 o8 o9) .nx Kj:=λh=>by
    show ax (r:=(.own,.lst (st.map stN))) (bJ (ae (af rfl) (ae (aC rfl) (ae (aC rfl) aj))) ⟨⟨.own,rfl,rfl⟩,⟨.own,rfl,rfl⟩,trivial⟩ II) a9 ?_;show ax (r:=(.own,.lst [])) (cm aj trivial aI (i7 _)) a9 ?_;show c6 (rs:=[(.bor 6,.lst (st.map stN))]) (ae (aC rfl) aj) ⟨⟨.own,rfl,rfl⟩,trivial⟩ (by change a5 (WT (λu=>(kE (.bor 6),u)) _)=_;rw[e1]) rfl Ue h
   by_cases C:st=[]
   .have YH:=YF C;subst C;rw[show(!(([]:List (Str×Nat)).map stN).isEmpty)=cc from rfl]at B;have ee:c++[]=c:=rr _;rw[ee]at T;have q:=z (oW B (λh=>by cases h) λ_=>av);have⟨Y,Oz,st2,z1,z2,z3,z4,D⟩:=jx G H I J f c d g i v j m o T O OO (by rw[ĝ YH];lia);show⟨Y,Oz,st2,z1,z2,z3,z4,yX A q ?_⟩;have e3:c.map (·.1)++([]:List (Str×Nat)).map (·.1)=c.map (·.1):=by simp
    change Run _ (S (c.map (·.1)++([]:List (Str×Nat)).map (·.1)) i d g v j m o) _ _;rw[e3];show D
   .have Ug:(!(st.map stN).isEmpty)=bD:=by
     cases st with
     |nil=>show absurd rfl C
     |cons a l=>rfl
    rw[Ug]at B;have YI:0<st.length:=Y6.mpr C;have ef:gH (d++[st])=gH d++[.lst (st.map stN)]:=by simp[gH]
    have q:Run (execs Γ zI) (S (c.map (·.1)) vs d R o6 o7 o8 o9) .nx (S (c.map (·.1)++st.map (·.1)) i (d++[st]) g (a5 (.loc,.lst (st.map stN))) j m o):=by
     show z (oW B (λ_=>?_) λh=>by cases h);change Run _ _ _ [a5 (.loc,.tup (rows.map B')),a5 (.own,.IA ks (ks.map (cM (Jk rows rows.length)))),a5 (.own,.lst (bR rows λp=>(cnt rows (c.map (·.1)++st.map (·.1)) p:Int))),a5 (.own,.IA (c.map (·.1)++st.map (·.1)) i),a5 (.own,.lst (gH (d++[st]))),a5 (.own,.lst (fH g)),a5 (.loc,.lst (st.map stN)),j,m,o];rw[ef];show gc (k:=.own) (k':=.own) (r:=(.bor 6,.lst (st.map stN))) (u:=.lst (st.map stN)) rfl (aC rfl) (G4 rfl) rfl rfl (by unfold gH;rw[c4];lia) av
    have⟨Y,Oz,st2,z1,z2,z3,z4,D⟩:=jx G H I J f (c++st) (d++[st]) g i (a5 (.loc,.lst (st.map stN))) j m o T (by rw[Y_,O];simp) (by rw[ia,ia,NI];lia) (by rw[ia];split<;>lia);show⟨Y,Oz,st2,z1,z2,z3,z4,yX A q ?_⟩;rw[em]at D;show D
abbrev CM(Γ:Tab)(rows:List Row):Prop:=∃ks:List Str,(∀w,w∉ks->Jk rows rows.length w=[])/\Γ "places_that_tell" [.tup (rows.map B')]=a5 (.ok (.own,.IA ks (ks.map (cM (Jk rows rows.length)))))
def gI(s:Once rows)(v:rows.length<=120)(w:CM Γ rows)(z:zJ Γ rows):∃(f:List (Str×Nat)) (d:List (List (Str×Nat))),LI rows f []/\d.flatten=f/\d.length<=120/\dk Γ bx [.tup (rows.map B')]=a5 (.ok (.own,.lst (gH d))):=by
 have hsz:(20000:Nat)<=cK:=by decide
 have⟨ks,A,B⟩:=w;have C:TM.start [.tup (rows.map B')] 10=[a5 (.loc,.tup (rows.map B')),b8,b8,b8,b8,b8,b8,b8,b8,b8]:=by simp[TM.start,I0,bP]
 let g:Option (Kd×U):=a5 (.loc,.tup (rows.map B'));let j:Option (Kd×U):=a5 (.own,.IA ks (ks.map (cM (Jk rows rows.length))));let D:Option (Kd×U):=a5 (.own,.lst (bR rows λp=>(cnt rows [] p:Int)));have G:Run (ev Γ (.comp 1 cc .seq [.var 0] [] (.bi .len [.idx (.var 0) (.cst (.int 1))]))) [g,j,b8,b8,b8,b8,b8,b8,b8,b8] (.own,.lst (bR rows λp=>(cnt rows [] p:Int))) [g,j,b8,b8,b8,b8,b8,b8,b8,b8]:=by
  have c:=jr (cond:=bc Γ []) (elt:=ev Γ (.bi .len [.idx (.var 0) (.cst (.int 1))])) (src:=[(.loc,.tup (rows.map B'))]) (st:=[g,j,b8,b8,b8,b8,b8,b8,b8,b8]) trivial .loc (.inl rfl) B' (λr=>.int (r.2.length:Nat)) .loc (λ_=>lE) rows [] (by simp;lia)
   (λy _=>⟨cv (ae (br (x:=(.loc,B' y)) (af rfl) ai trivial rfl) aj) trivial (by rw[kg,c4]),aJ⟩)
  rw[i8]at c;have e:(rows.map B').map (λu=>(kE .loc,u))=rows.map λr=>(Kd.loc,B' r):=by rw[ke];rfl
  have H:(rows.map λr=>U.int (r.2.length:Nat))=bR rows λp=>(cnt rows [] p:Int):=by
   unfold bR;apply L4
   .simp
   .intro i k l;have I:i<rows.length:=by simpa using k
    have m:told rows i=rows[i].2:=kh (by simp[I]);have J:cnt rows [] i=rows[i].2.length:=by unfold cnt sI;rw[m];simp
    simp[J]
  rw[H]at c;show dC (rs:=[(.loc,.tup (rows.map B'))]) (ae (af rfl) aj) trivial (by change a5 _=_;rw[e]) c
 let n:=(eH rows.length).filter λp=>cn (cnt rows [] p=0);let o:aw:=[g,j,D,a5 (.own,.IA [] []),a5 (.own,.lst []),b8,b8,b8,b8,b8]
 have L:Run (ev Γ (.comp 2 bD .N7 [.var 2] [.cmp .eq (.var 1) (.cst (.int 0))] (.var 0))) o (.own,.lst (fH n)) o:=by
  have c:=pe (st:=o) (cond:=bc Γ [.cmp .eq (.var 1) (.cst (.int 0))]) (elt:=ev Γ (.var 0)) (src:=[(.bor 2,.lst (bR rows λp=>(cnt rows [] p:Int)))]) ⟨⟨.own,rfl,rfl⟩,trivial⟩ (λp:Nat=>U.int (p:Nat)) (λp:Nat=>U.int (cnt rows [] p:Int)) (λp:Nat=>U.int (p:Nat)) (λp=>cn (cnt rows [] p=0)) (eH rows.length) [] (by simp;lia)
   (λy _=>⟨cw (aG (af rfl) ai trivial (bp (by rw[D7];simp))),af rfl⟩)
  rw[i8]at c;have e:((bR rows λp=>(cnt rows [] p:Int)).zipIdx.map λp=>(kE (.bor 2),U.tup [.int p.2,p.1]))=(eH rows.length).map λp:Nat=>(Kd.loc,U.tup [.int (p:Nat),.int (cnt rows [] p:Int)]):=by
   unfold bR;apply L4
   .simp
   .intro i k l;simp[kE]
  show dC (rs:=[(.bor 2,.lst (bR rows λp=>(cnt rows [] p:Int)))]) (ae (aC rfl) aj) ⟨⟨.own,rfl,rfl⟩,trivial⟩ (by change a5 _=_;rw[e]) c
 have N:LI rows [] n:=⟨.nil,λ_ _ _ h=>(nomatch h),λ_ h=>(nomatch h),λt m=>by
  have⟨a,b⟩:=D6.mp m;show⟨tA.mp a,by simpa using b⟩,λt r k l=>.inl (D6.mpr ⟨tA.mpr (dt.mp k).1,by simpa using l⟩)⟩
 have⟨f,d,st',O,Q,T,q,Y⟩:=jx s v z A fuel [] [] n [] b8 b8 b8 b8 N rfl (gj _) (by unfold fuel;split<;>simp<;>lia);show⟨f,d,O,Q,T,?_⟩;show bu rfl (.inl rfl) C (ax (r:=(.own,.IA ks (ks.map (cM (Jk rows rows.length))))) (bJ (ae (af rfl) aj) trivial B) a9 (ax G a9 (ax (r:=(.own,.IA [] [])) lD a9 (ax (r:=(.own,.lst [])) (cm aj trivial aI (i7 _)) a9 (ax L a9 (yY Y (bO (aC q) (jN q))))))))
def wm(hs:Γ "steps_in_rounds" [.tup (rows.map B')]=a5 (.ok (.own,.lst (gH a))))(c:a.flatten=f)(hl:f.length<=120):dk Γ fG [.tup (rows.map B')]=a5 (.ok (.own,.lst (f.map stN))):=by
 have hsz:(20000:Nat)<=cK:=by decide
 have h:TM.start [.tup (rows.map B')] 3=[a5 (.loc,.tup (rows.map B')),b8,b8]:=by simp[TM.start,I0,bP]
 let S:=λ(l:List (Str×Nat)) (o2:Option (Kd×U))=>([a5 (.loc,.tup (rows.map B')),a5 (.own,.lst (l.map stN)),o2]:aw)
 have⟨st',i,b,o2,e⟩:=bZ (t:=cc) (is:=[2]) (body:=execs Γ [.ext 1 (.var 2)]) (rs:=[(.own,.lst (gH a))]) (λl:List (Str×Nat)=>(Kd.loc,U.lst (l.map stN)))
  (λd r st=>d++r=a/\∃o2:Option (Kd×U),st=S d.flatten o2) (λ_ _ _ _=>trivial) (λd y r st j=>by
   have⟨b,o2,e⟩:=j;subst e;have m:d.flatten.length+y.length<=120:=by
    have:=Ģ (λl:List (List (Str×Nat))=>l.flatten.length) b;simp only[Y_,U1,ia,c]at this;lia
   show⟨S d.flatten (a5 (.loc,.lst (y.map stN))),S (d++[y]).flatten (a5 (.loc,.lst (y.map stN))),fF aH,?_,by rw[<-b];simp,_,rfl⟩;have em:(d++[y]).flatten.map stN=d.flatten.map stN++y.map stN:=by simp
   change Run _ _ _ [a5 (.loc,.tup (rows.map B')),a5 (.own,.lst ((d++[y]).flatten.map stN)),a5 (.loc,.lst (y.map stN))];rw[em];show yS (k:=.own) (k':=.own) rfl (af rfl) rfl rfl (uC (by rw[c4,c4];lia) rfl) av) a [] (S [] b8) ⟨rfl,b8,rfl⟩
 subst e;have e:(gH a).map (λu=>(kE .own,u))=a.map λl=>(Kd.loc,U.lst (l.map stN)):=by unfold gH;rw[ke];rfl
 have g:=bu (Γ:=Γ) (fn:=fG) rfl (.inl rfl) h (ax (r:=(.own,.lst [])) (cm aj trivial aI (i7 _)) a9 (c6 (rs:=[(.own,.lst (gH a))]) (st1:=S [] b8) (ae (bJ (ae (af rfl) aj) trivial hs) aj) trivial rfl rfl (by rw[e];show i) (bO (aC rfl) (jN rfl))));rw[i8,c]at g;show g
end
section
variable{Γ:Tab}{rows:List Row}{names:List Str}
def sX(h:ss.length<64):Kp .sorted [(k,.lst (ss.map .str))]=a5 (.own,.lst ((aP ss).map .str)):=by
 change(strsOf (ss.map U.str)).bind _=_;rw[dQ];change(if ss.length<64 then _ else _)=_;rw[ĝ h]
def sY{a:List (Str×Nat)}(hl:a.length<64)(ho:Γ "order" [.tup (rows.map B')]=a5 (.ok (.own,.lst (a.map stN)))):dk Γ fi [.tup (rows.map B')]=a5 (.ok (.own,.lst ((aP (a.map (·.1))).map .str))):=by
 have hsz:(20000:Nat)<=cK:=by decide
 have c:TM.start [.tup (rows.map B')] 1=[a5 (.loc,.tup (rows.map B'))]:=by simp[TM.start,I0,bP]
 have b:=pe (st:=[a5 (.loc,.tup (rows.map B'))]) (cond:=bc Γ []) (elt:=ev Γ (.var 0)) (src:=[(.own,.lst (a.map stN))]) trivial (λs:Str×Nat=>U.str s.1) (λs=>U.int (s.2:Nat)) (λs=>U.str s.1) (λ_=>bD) a [] (by simp;lia) (λy _=>⟨lE,af rfl⟩);rw[i8,QD.mpr (λ_ _=>rfl)]at b;have e:(a.map stN).map (λu=>(kE .own,u))=a.map λs=>(Kd.loc,U.tup [.str s.1,.int (s.2:Nat)]):=by rw[ke];rfl
 have d:(a.map λs=>U.str s.1)=(a.map (·.1)).map U.str:=by rw[ke];rfl
 rw[d]at b;show bu rfl (.inl rfl) c (bO (cv (ae (dC (rs:=[(.own,.lst (a.map stN))]) (ae (bJ (ae (af rfl) aj) trivial ho) aj) trivial (by change a5 (WT (λu=>(kE .own,u)) _)=_;rw[e]) b) aj) trivial (sX (by rw[c4];show hl))) jM)
structure Rg(prog:List Fn):Prop where
 g:IY prog "gathered" dy
 p:IY prog "places_that_tell" bq
 n:IY prog "new_steps" c7
 s:IY prog "steps_in_rounds" bx
 o:IY prog "order" fG
 l:IY prog "learnt" fi
structure Kn(rows:List Row)(K:List Str):Prop where
 nd:K.Nodup
 sn:Qg rows K
 cl:gf rows (·∈K)
def Kn.perm(a:Kn rows K)(b:Kn rows L):K.Perm L:=same a.nd b.nd a.sn b.sn a.cl b.cl
def Kn.of(s:LI rows a []):Kn rows (a.map (·.1)):=⟨s.nd,s.sn,s.closed⟩
def B8(L:Rg prog)(n:Nat)(d:∀r∈rows,nA names r)(y:names.length<=24)(e:rows.length<=120):∃c:List (Str×Nat),LI rows c []/\c.length<=24/\IJ prog (n+4) "order" [.tup (rows.map B')]=a5 (.ok (.own,.lst (c.map stN))):=by
 have j:∀r∈rows,r.2.length<=8:=λr h=>(d r h).MP;have f:Once rows:=λr h=>(d r h).once;have i:∀r∈rows,r.1∈names:=λr h=>(d r h).word;have k:CL (IJ prog (n+1)):=λps hl=>by
  have⟨ks,a,b⟩:=pv (Γ:=IJ prog n) hl;show⟨ks,a,(aN L.g _).trans b⟩
 have l:CM (IJ prog (n+2)) rows:=by
  have⟨ks,a,b⟩:=sW k f j e;show⟨ks,a,(aN L.p _).trans b⟩
 have m:zJ (IJ prog (n+2)) rows:=λR K0 vs q=>by
  have⟨st,a,b⟩:=mw (Γ:=IJ prog (n+1)) i ⋯ q (K0:=K0) (vs:=vs);show⟨st,a,(aN L.n _).trans b⟩
 have⟨c,t,s1,s2,s3,s4⟩:=gI f e l m;have u:IJ prog (n+3) "steps_in_rounds" [.tup (rows.map B')]=a5 (.ok (.own,.lst (gH t))):=(aN L.s _).trans s4;have v:c.length<=24:=by
  have:=uG (Kn.of s1).nd (L:=names) λx w=>by
   have⟨r,a,b⟩:=js.mp (s1.wd x w);show b▸i r a
  rw[c4]at this;lia
 show⟨c,s1,v,(aN L.o _).trans (wm u s2 ⋯)⟩
def B9(L:Rg prog)(n:Nat)(a:∀r∈rows,nA names r)(b:names.length<=24)(c:rows.length<=120)(d:Kn rows K):IJ prog (n+5) "learnt" [.tup (rows.map B')]=a5 (.ok (.own,.lst ((aP K).map .str))):=by
 have⟨f,s1,s2,s3⟩:=B8 L n a b c;have e:aP (f.map (·.1))=aP K:=fS ((Kn.of s1).perm d);rw[<-e];show(aN L.l _).trans (sY ⋯ s3)
end
end KL
namespace TM
open PySem L2 Jc
section
def B_{a b:List Str}:bK .ne (.lst (a.map U.str)) (.lst (b.map U.str))=a5 (!cn (a=b)):=by
 have h:=@iS a b;simp only[bK]at h ⊢;split at h
 .rename_i c;rw[ĝ c,va h]
 .cases h
def eC(rs:List Row):(a5 (if I0 (.tup (rs.map B'))=bD then Kd.loc else Kd.any,U.tup (rs.map B')):Option (Kd×U))=a5 (.loc,.tup (rs.map B')):=by
 rw[ĝ (by change cH (rs.map B')=bD;show bP rs)]
def qU{ss:List Str}:Ky .seq [(k,.tup (ss.map .str))]=a5 (ss.map λx=>(kE k,U.str x)):=by
 change a5 ((ss.map U.str).map λu=>(kE k,u))=_;rw[ke];rfl
def wo{ss:List Str}(hk:k=.any\/k=.loc):dM k (ss.map .str)=bD:=by
 rcases hk with rfl|rfl
 .show dR ss
 .rfl
def wt(a:us.length=fn.np)(hs:start us fn.ns=st0)(h:Run (execs Γ fn.body) st0 .nx st):dk Γ fn us=a5 (.ok (.loc,.ID)):=by
 subst hs;unfold dk;rw[ĝ a,show execs Γ fn.body (start us fn.ns)=_ from h]
def Hh(h:Run (ev Γ e) st x st1):Run (execs Γ (.M1 c e::ss)) st (.rt .io (.str c)) st1:=aa (aa h aK) aK
def lS(a:us.length=fn.np)(hs:start us fn.ns=st0)(h:Run (execs Γ fn.body) st0 (.rt .io (.str c)) st):dk Γ fn us=a5 (.exc c):=by
 subst hs;unfold dk;rw[ĝ a,show execs Γ fn.body (start us fn.ns)=_ from h]
def Hi(h:Γ f us=a5 (.ok (.own,u))):Run (bM Γ f us) st (.inl (.own,u)) st:=by
 change bM Γ f us st=_;unfold bM;rw[h]
def zK(h:Γ f us=a5 (.ok (.loc,u))):Run (bM Γ f us) st (.inl (.loc,u)) st:=by
 change bM Γ f us st=_;unfold bM;rw[h]
def zL(h:Γ f us=a5 (.exc c)):Run (bM Γ f us) st (.inr c) st:=by
 change bM Γ f us st=_;unfold bM;rw[h]
def Hj(a:Run (bb Γ es) st rs st)(b:aW rs st)(c:Run (bM Γ f (rs.map (·.2))) st (.inl r) st)(d:Run (execs Γ ss) st e st1):Run (execs Γ (.MI f es::ss)) st e st1 :=
 aa (aa (aa a (aa (aS b) c)) aK) d
def E6(a:Run (bb Γ es) st rs st)(b:aW rs st)(d:Run (bM Γ f (rs.map (·.2))) st (.inr c) st):Run (execs Γ (.MI f es::ss)) st (.rt .io (.str c)) st :=
 aa (aa (aa a (aa (aS b) d)) aK) aK
def Hk(h:st[j]?=a5 b8)(hk:k≠j)(b:c∈a):Run (jZ a i j k (.inr c)) st .nx (st.set k (a5 (.loc,.exc c))):=by
 change jZ a i j k (.inr c) st=_;unfold jZ
 dsimp only
 rw[h];show ĝ ⟨hk,b⟩
def Hl:Run (jZ a i j k (.inl (.loc,u))) st .nx (st.set i (a5 (.loc,u))):=aa aH aK
def zM(a:Run (IX Γ c) st p st)(b:Run (bb Γ es) st rs st)(d:aW rs st)(e:Run (bM Γ (if p=bD then f else g) (rs.map (·.2))) st r st)(h:Run (jZ l i j k r) st .nx st1)(m:Run (execs Γ ss) st1 n st2):
  Run (execs Γ (.MJ i [c] f es g es x l j k::ss)) st n st2:=by
 show aa (aa (aa a ?_) h) m;cases p with
 |_=>show aa b (aa (aS d) e)
def jO(h:Run (ev Γ a) st x st1)(c:lb d x.2=a5 b):Run (ev Γ (.J2 a D d)) st (.loc,.bl b) st1:=aa h (aa (cz c) aK)
def Hm(h:Run (ev Γ a) st x st1)(c:lb d x.2=a5 b):Run (IX Γ (.J2 a D d)) st b st1:=aa h (cz c)
def CN(h:xU a i b st=a5 (.ok r,st)):Run (ev Γ (.MZ a i b)) st r st:=h
abbrev qV:Fn:=⟨"refuse_unknown",2,2,[.ite (.cmp .gt (.Nq bD (.var 1) (.call "words_of" [.var 0])) (.cst (.int 0))) [.M1 "Unknown" (.cst (.str "the book has no such word"))] []]⟩
def bQ.ok(h:bQ ws r):nA ws r:=⟨h.1,h.2.2.2,h.2.1,h.2.2.1⟩
structure Bq(ws:List Str)(rs:List Row):Prop where
 wl:ws.length<=24
 rl:rs.length<=84
 ok:∀r∈rs,bQ ws r
def zN(n:ws.length<1000)(hk:iX ws ks)(e:bQ ws r):
  ∃a b,Run (execs Γ zr) (pk rs ks (a5 (.loc,.str r.1)) (a5 (.loc,.tup (r.2.map .str))) o4) .nx (pk rs a (a5 (.loc,.str r.1)) (a5 (.loc,.tup (r.2.map .str))) b)/\iX ws a/\∀x,x∈a↔x∈ks\/x=r.1\/x∈r.2:=by
 have o:=hk.len;obtain⟨st',j,a,b,rfl,l,_,c⟩:=bZ (rs:=[(.loc,.tup (r.2.map .str))]) (t:=cc) (is:=[4]) (body:=execs Γ CK) (λx:Str=>(Kd.loc,U.str x)) (λd q st=>∃a b,st=pk rs a (a5 (.loc,.str r.1)) (a5 (.loc,.tup (r.2.map .str))) b/\iX ws a/\(∀x∈q,x∈ws)/\∀x,x∈a↔(x∈ks\/x=r.1)\/x∈d)
  (λ_ _ _ _=>trivial) (λd y q st h=>by
   have⟨f,b,rfl,g,i,c⟩:=h;have p:=g.len;show⟨pk rs f (a5 (.loc,.str r.1)) (a5 (.loc,.tup (r.2.map .str))) (a5 (.loc,.str y)),_,aH,iR (k:=.own) (k':=.own) ai rfl (af rfl) (aD aJ (aD aJ aI)) rfl rfl (km ⋯) av,fh f y,_,rfl,g.ins (i y (by simp)),λx m=>i x (by simp[m]),λx=>?_⟩;rw[gh,c x,hY,hV,or_assoc]) r.2 [] (pk rs (fh ks r.1) (a5 (.loc,.str r.1)) (a5 (.loc,.tup (r.2.map .str))) o4) ⟨_,_,rfl,hk.ins e.1,e.2.2.1,λx=>by rw[gh];simp⟩
 show⟨a,b,?_,l,λx=>by rw[c x,or_assoc,i8]⟩;show iR (k:=.own) (k':=.own) ai rfl (af rfl) (aD aJ (aD aJ aI)) rfl rfl (km ⋯) (c6 (rs:=[(.loc,.tup (r.2.map .str))]) (ae (af rfl) aj) trivial qU rfl j av)
def E7(h:IY Pg "_law_all" wb)(p:ws.length<=24)(c:∀r∈rs,bQ ws r):IJ Pg (d+1) "_law_all" [.tup (rs.map B')]=a5 (.ok (.own,.lst ((aA rs).map .str))):=by
 obtain⟨st',f,ks,o2,o3,o4,rfl,hk,_,g⟩:=bZ (rs:=[(.loc,.tup (rs.map B'))]) (t:=bD) (is:=[2,3]) (body:=execs (IJ Pg d) zr) (λr:Row=>(Kd.loc,B' r)) (λd q st=>∃ks o2 o3 o4,st=pk rs ks o2 o3 o4/\iX ws ks/\(∀r∈q,bQ ws r)/\∀x,x∈ks↔∃r∈d,x=r.1\/x∈r.2)
  (λ_ _ _ _=>trivial) (λd y q st h=>by
   have⟨i,o2,o3,o4,rfl,j,b,k⟩:=h;have⟨l,s,m,n,o⟩:=zN (Γ:=IJ Pg ‹Nat›) (rs:=rs) (o4:=o4) ⋯ j (b y (by simp));show⟨pk rs i (a5 (.loc,.str y.1)) (a5 (.loc,.tup (y.2.map .str))) o4,_,nF (.inl rfl),m,l,_,_,_,rfl,n,λr a=>b r (by simp[a]),λx=>?_⟩;rw[o x,k x];constructor
   .rintro(⟨r,a,e⟩|e)
    .show⟨r,by simp[a],e⟩
    .show⟨y,by simp,e⟩
   .rintro⟨r,a,e⟩;rcases hY.mp a with q|q
    .show .inl ⟨r,q,e⟩
    .rw[hV]at q;subst q;show .inr e) rs [] (pk rs [] b8 b8 b8) ⟨[],b8,b8,b8,rfl,⟨by simp,by simp⟩,c,by simp⟩
 have hl:=hk.len;have e:aP ks=aA rs:=fS ((Rn hk.1 (bW _)).mpr λx=>by rw[g x,bX,b_,i8]);show(aN h _).trans (bu (st0:=[a5 (.loc,.tup (rs.map B')),b8,b8,b8,b8]) rfl (.inl rfl) (Ģ (λx:Option (Kd×U)=>[x,b8,b8,b8,b8]) (eC rs)) (ax (st2:=pk rs [] b8 b8 b8) lD a9 (c6 (rs:=[(.loc,.tup (rs.map B'))]) (ae (af rfl) aj) trivial kq rfl f (bO (cv (ae (aC rfl) aj) ∅ ?_) jM))));change(if ks.length<64 then a5 (Kd.own,U.lst ((aP ks).map .str)) else b8)=_;rw[ĝ ⋯,e]
def all2(h:IY Pg "_law_all" wb)(a:Bq ws rs):IJ Pg (d+1) "_law_all" [.tup (rs.map B')]=a5 (.ok (.own,.lst ((aA rs).map .str))):=E7 h a.wl a.ok
def E8(h:IY Pg "_law_all" wb):zt (IJ Pg (d+1)):=λws rs c a=>⟨_,E7 h c a,qE _,λx f=>by
 have⟨r,b,e⟩:=b_.mp (cU.mp f);rcases e with rfl|e
 .show(a r b).1
 .show(a r b).2.2.1 _ e⟩
def wu(g:lR Γ)(h:zx Γ){ns:List Int}(l:ns.length<1000)(c:Src T u)(y:T+1000<2 ^ 62)(z:1<=ws.length)(d:ws.length<=24):
  ∃(rs:List Row) (a:List Int) (u':U),Run (ev Γ (.Iy "_law_widened" [.var 3,.Iy "_law_book" [.var 1,.var 3,.var 4] [0,1]] [0])) (o0::a5 (.own,.lst (ns.map .int))::o2::a5 (.own,u)::a5 (.own,.lst (ws.map .str))::rest) (.loc,.tup (rs.map B')) (o0::a5 (.own,.lst (a.map .int))::o2::a5 (.own,u')::a5 (.own,.lst (ws.map .str))::rest)/\Bq ws rs:=by
 have⟨b,rfl,m⟩:=c.lst;have⟨rs,a,u2,n,o,p,A,s2⟩:=g ns (.lst b) ws _ c ⋯ l ⋯ ⋯;have⟨e,rfl,q⟩:=s2.lst;have s:=zC (Γ:=Γ) (st:=o0::a5 (.own,.lst (ns.map .int))::o2::a5 (.own,.lst b)::a5 (.own,.lst (ws.map .str))::rest) (st1:=o0::a5 (.own,.lst (ns.map .int))::o2::a5 (.own,.lst b)::a5 (.own,.lst (ws.map .str))::rest) (i:=1) (j:=3) (k0:=.own) (k:=.own) (k0':=.own) (k':=.own) (rs:=[(.bor 4,.lst (ws.map .str))]) ⋯ rfl rfl rfl rfl (ae (aC rfl) aj) rfl rfl (gD ns) rfl rfl m rfl ⟨⟨.own,rfl,rfl⟩,trivial⟩ (λr f=>by rw[hV]at f;subst f;rfl) n (.inr rfl);have⟨t,B,v,b3,w,s3⟩:=h _ (.lst e) ws rs s2 ⋯ d o.1 p;have⟨x,rfl,C⟩:=s3.lst;show⟨t,a,.lst x,ig (Γ:=Γ) (st:=o0::a5 (.own,.lst (ns.map .int))::o2::a5 (.own,.lst b)::a5 (.own,.lst (ws.map .str))::rest) (st1:=o0::a5 (.own,.lst (a.map .int))::o2::a5 (.own,.lst e)::a5 (.own,.lst (ws.map .str))::rest) (i:=3) (k0:=.own) (k:=.own) (rs:=[(.loc,.tup (rs.map B'))]) rfl rfl (ae s aj) rfl rfl q rfl v (.inr rfl),d,w,b3⟩
end
end TM
namespace TM
open PySem L2 Jc Od
section
def dF(hk:k=.loc\/k=.any)(h:st[i]?=a5 (a5 (k,u))):Run (ev Γ (.var i)) st (k,u) st:=by
 rcases hk with rfl|rfl
 .show af h
 .show ba h
def VJ(hk:k=.loc\/k=.any)(h:I0 u=bD):Run (lift (k,u)) st u st:=by
 rcases hk with rfl|rfl
 .show aJ
 .show qz h
def cN(hk:k=.loc\/k=.any)(h:aW rs st):aW ((k,u)::rs) st:=by rcases hk with rfl|rfl<;>show h
def Ip(hk:k=.loc\/k=.any):kE k=k:=by rcases hk with rfl|rfl<;>rfl
def zO{told a:List Str}(hk:k=.loc\/k=.any)(hl:told.length<=1000)(hs:Run (ev Γ src) st (k,.tup (told.map .str)) st)(c:st[j]?=a5 (a5 (.own,w)))(d:∀x:Str,bK .isin (.str x) w=a5 (cn (x∈a))):
  Run (ev Γ (.bi .all [.comp 1 cc .seq [src] [] (.cmp .isin (.var 0) (.var (j+1)))])) st (.loc,.bl (told.all λx=>cn (x∈a))) st:=by
 have hsz:(1000:Nat)<=cK:=by decide
 have b:=jr (cond:=bc Γ []) (elt:=ev Γ (.cmp .isin (.var 0) (.var (j+1)))) (src:=[(k,.tup (told.map .str))]) (st:=st) (cN hk trivial) k hk U.str (λx=>.bl (cn (x∈a))) .loc (λ_=>lE) told [] (by simp;lia)
  (λy _=>⟨jK (dF hk rfl) (aC (by simpa using c)) (cN hk ⟨⟨.own,rfl,by simpa using c⟩,trivial⟩) (d y),aJ⟩)
 rw[i8]at b;have e:(told.map U.str).map (λu=>(kE k,u))=told.map λr=>(k,U.str r):=by rw[ke,Ip hk];rfl
 have f:(told.map λx=>U.bl (cn (x∈a)))=(told.map λx=>cn (x∈a)).map U.bl:=by rw[ke];rfl
 rw[f]at b;have g:(told.all λx=>cn (x∈a))=((told.map λx=>cn (x∈a)).all id):=by rw[U5];rfl
 rw[g];show cv (ae (dC (rs:=[(k,.tup (told.map .str))]) (ae hs aj) (cN hk trivial) (by change a5 _=_;rw[e]) b) aj) trivial (pb _)
abbrev Hn:List S:=[.ite (.and [.cmp .IH (.var 3) (.var 1),.bi .all [.comp 1 cc .seq [.var 4] [] (.cmp .isin (.var 0) (.var 2))]]) [.put 1 (.var 3) (.cst (.bl bD)),.set 2 (.cst (.bl bD))] []]
abbrev E9:List S:=[.set 2 (.cst (.bl cc)),.IU bD [3,4] .seq [.var 0] Hn]
abbrev Ca:Fn:=⟨"_law_learnt",1,5,[.set 1 (.Kh cc),.set 2 (.cst (.bl bD)),.Nr (.var 2) E9,.ret (.var 1)]⟩
inductive Bv(rs:List Row):Kd->U->Prop
 |tup:Bv rs .loc (.tup (rs.map B'))
 |lst:Bv rs .any (.lst (rs.map B'))
def Bv.kd{W:U}(h:Bv rs k W):k=.loc\/k=.any:=by cases h<;>simp
def Bv.it{W:U}(h:Bv rs k W):Ky .seq [(k,W)]=a5 (rs.map λr=>(k,B' r)):=by
 cases h
 .show kq
 .change a5 ((rs.map B').map λu=>(kE .any,u))=_;rw[ke];rfl
def Bv.bg{W:U}(h:Bv rs k W):(a5 (if I0 W=bD then Kd.loc else Kd.any,W):Option (Kd×U))=a5 (k,W):=by
 cases h
 .show eC rs
 .rfl
abbrev j4(k:Kd)(W:U)(K:List Str)(b:Bool)(o3 o4:Option (Kd×U)):aw:=[a5 (k,W),a5 (.own,pj K),a5 (.loc,.bl b),o3,o4]
structure Nz(ws:List Str)(rs:List Row)(K:List Str):Prop where
 ks:iX ws K
 snd:Qg rs K
def Nz.add(x:Nz ws rs K)(b:r∈rs)(c:r.1∈ws)(d:∀y∈r.2,y∈K):Nz ws rs (fh K r.1) :=
 ⟨x.ks.ins c,λC a y f=>(gh.mp f).elim (x.snd C a y) λe=>e▸a r b λz hz=>x.snd C a z (d z hz)⟩
def Cb{W:U}(v:Bv rs k W)(I:ws.length<=40)(z:∀r∈rs,bQ ws r)(x:Nz ws rs K0):
  ∃(g:List Str) (b:Bool) (o p:Option (Kd×U)),Run (execs Γ E9) (j4 k W K0 b0 o3 o4) .nx (j4 k W g b o p)/\Nz ws rs g/\(b=bD->K0.length<g.length)/\(b=cc->g=K0/\gf rs (·∈K0)):=by
 have hk:=v.kd;obtain⟨st1,C,_,g,b,o,p,rfl,i,l,c⟩:=bZ (t:=bD) (is:=[3,4]) (body:=execs Γ Hn) (rs:=[(k,W)]) (λr:Row=>(k,B' r))
  (λd r st=>d++r=rs/\∃(K:List Str) (b:Bool) (o3 o4:Option (Kd×U)),st=j4 k W K b o3 o4/\Nz ws rs K/\(b=bD->K0.length<K.length)/\(b=cc->K=K0/\∀r∈d,(∀y∈r.2,y∈K0)->r.1∈K0)) (λ_ _ _ _=>cN hk trivial) (λd a r st D=>by
   have⟨q,K,b,o3,o4,e,i,l,c⟩:=D;subst e;have s:a∈rs:=by rw[<-q];simp
   have J:=(z a s).2.2.2;have L:=i.ks.len;have m:Run (IX Γ (.and [.cmp .IH (.var 3) (.var 1),.bi .all [.comp 1 cc .seq [.var 4] [] (.cmp .isin (.var 0) (.var 2))]])) (j4 k W K b (a5 (k,.str a.1)) (a5 (k,.tup (a.2.map .str)))) (!cn (a.1∈K)&&a.2.all λy=>cn (y∈K)) (j4 k W K b (a5 (k,.str a.1)) (a5 (k,.tup (a.2.map .str)))) :=
    d9 (oX (aG (dF hk rfl) (aC rfl) (cN hk ⟨⟨.own,rfl,rfl⟩,trivial⟩) gB) λ_=>cw (yR (zO (j:=1) (w:=pj K) hk ⋯ (dF hk rfl) rfl λ_=>E1)))
   have A:Run (dN bD [3,4] (k,B' a)) (j4 k W K b o3 o4) () (j4 k W K b (a5 (k,.str a.1)) (a5 (k,.tup (a.2.map .str)))):=nF hk;cases f:(!cn (a.1∈K)&&a.2.all λy=>cn (y∈K)) with
   |false =>
    rw[f]at m;show⟨_,_,A,bf m av av,by rw[<-q];simp,K,b,_,_,rfl,i,l,λu=>⟨(c u).1,λn LC hz=>?_⟩⟩;rcases hY.mp LC with LC|LC
    .show(c u).2 n LC hz
    .rw[hV]at LC;subst LC;rw[<-(c u).1]at hz ⊢;by_cases B:n.1∈K
     .show B
     .have:(!cn (n.1∈K)&&n.2.all λy=>cn (y∈K))=bD:=by
       rw[ğ B];simpa using hz
      rw[this]at f;cases f
   |true =>
    rw[f]at m;simp only[cb,nH,decide_eq_false_iff_not,i6,Ĝ]at f;have G:fh K a.1=K++[a.1]:=by unfold fh;rw[Ğ f.1]
    show⟨_,j4 k W (fh K a.1) bD (a5 (k,.str a.1)) (a5 (k,.tup (a.2.map .str))),A,du m (iR (k:=.own) (k':=.own) ai rfl (dF hk rfl) (aD aJ (aD (VJ hk rfl) aI)) rfl rfl (km ⋯) (ax ai aH av)) av,by rw[<-q];simp,fh K a.1,bD,_,_,rfl,i.add s (z a s).1 f.2,λ_=>?_,λh=>by cases h⟩;rw[G,ia,NI];cases b with
    |true=>have:=l rfl;lia
    |false=>rw[(c rfl).1];lia) rs [] (j4 k W K0 cc o3 o4) ⟨rfl,K0,cc,o3,o4,rfl,x,(λh=>by cases h),λ_=>⟨rfl,λr H=>by cases H⟩⟩
 rw[i8]at c;show⟨g,b,o,p,ax ai aH (c6 (rs:=[(k,W)]) (st1:=j4 k W K0 cc o3 o4) (ae (dF hk rfl) aj) (cN hk trivial) v.it (by rcases hk with rfl|rfl<;>rfl) C av),i,l,c⟩
theorem pw{W:U}(i:Bv rs k W)(j:ws.length<=40)(l:∀r∈rs,bQ ws r):
  ∀(f:Nat) (K0:List Str) (o3 o4:Option (Kd×U)),Nz ws rs K0->64 - K0.length<f->∃(a:List Str) (c d:Option (Kd×U)),Run (gF (IX Γ (.var 2)) (execs Γ E9) (f+1)) (j4 k W K0 bD o3 o4) .nx (j4 k W a cc c d)/\Nz ws rs a/\gf rs (·∈a)
 |0,_,_,_,_,h=>by lia
 |f+1,K0,o3,o4,x,h=>by
  have⟨a,b,c,d,m,g,n,o⟩:=Cb (Γ:=Γ) i j l x (b0:=bD) (o3:=o3) (o4:=o4);cases b with
  |false =>
   have⟨e,p⟩:=o rfl;subst e;show⟨a,c,d,yX (ju rfl) m (uH (ju rfl)),g,p⟩
  |true =>
   have:=n rfl;have:=g.ks.len;have⟨q,s,t,u,v,w⟩:=pw i j l f a c d g ⋯;show⟨q,s,t,yX (ju rfl) m u,v,w⟩
abbrev Iq(m:Nat)(Γ:Tab):Prop:=∀(ws:List Str) (rs:List Row) (k:Kd) (W:U),Bv rs k W->ws.length<=m->(∀r∈rs,bQ ws r)->∃K,Γ "_law_learnt" [W]=a5 (.ok (.own,pj K))/\iX ws K/\KL.Kn rs K
def Ir(e:m<=40)(h:IY Pg "_law_learnt" Ca):Iq m (IJ Pg (d+1)):=λws rs k W a f b=>by
 have⟨K,g,i,q,x,c⟩:=pw (Γ:=IJ Pg d) a ⋯ b 999999999999 [] b8 b8 ⟨⟨.nil,λ_ h=>absurd h K2⟩,λ_ _ _ h=>absurd h K2⟩ (by simp);show⟨K,(aN h _).trans (bu rfl (.inl rfl) (st0:=[a5 (k,W),b8,b8,b8,b8]) (Ģ (λx:Option (Kd×U)=>[x,b8,b8,b8,b8]) a.bg) (ax lD a9 (ax ai aH (yY q (bO (aC rfl) (jN rfl)))))),x.ks,x.ks.1,x.snd,c⟩
abbrev Ln(rs:List Row)(x:Str):Prop:=∀C:Str->Prop,gf rs C->C x
def Kn.mem(h:KL.Kn rs K):x∈K↔Ln rs x:=⟨λa C b=>h.sn C b x a,λhl=>hl _ h.cl⟩
def Kn.some(c:ws.length<=24)(a:∀r∈rs,bQ ws r):∃K,KL.Kn rs K/\iX ws K:=by
 have⟨K,d,e,q,x,b⟩:=pw (Γ:=λ_ _=>b8) (Bv.tup (rs:=rs)) ⋯ a 999999999999 [] b8 b8 ⟨⟨.nil,λ_ h=>absurd h K2⟩,λ_ _ _ h=>absurd h K2⟩ (by simp);show⟨K,⟨x.ks.1,x.snd,b⟩,x.ks⟩
end
inductive Bw(L:List Str):Kd->U->Prop
 |tup:Bw L .loc (.tup (L.map .str))
 |lst:Bw L .any (.lst (L.map .str))
def Bw.kd{W:U}(h:Bw L k W):k=.loc\/k=.any:=by cases h<;>simp
def Bw.it{W:U}(h:Bw L k W):Ky .seq [(k,W)]=a5 (L.map λx=>(k,U.str x)):=by
 cases h
 .show qU
 .change a5 ((L.map U.str).map λu=>(kE .any,u))=_;rw[ke];rfl
def Bw.bg{W:U}(h:Bw L k W):(a5 (if I0 W=bD then Kd.loc else Kd.any,W):Option (Kd×U))=a5 (k,W):=by
 cases h
 .rw[ĝ (by change cH (L.map U.str)=bD;show dR L)]
 .rfl
def Bw.set{W:U}(h:Bw L k W)(hl:L.length<4000):hU W=a5 (aB L):=by
 have:=gC hl;cases h<;>show this
def Bw.start{rs:List Row}{W:U}(h:Bw L k W)(n:Nat):TM.start [.tup (rs.map B'),W] (n+2)=a5 (.loc,.tup (rs.map B'))::a5 (k,W)::i3 n b8:=by
 change a5 (if I0 (.tup (rs.map B'))=bD then Kd.loc else Kd.any,U.tup (rs.map B'))::a5 (if I0 W=bD then Kd.loc else Kd.any,W)::i3 (n+2 - 2) b8=_;rw[eC,h.bg];rfl
abbrev K_(rs:List Row)(L:List Str):Prop:=∀x∈L,x∈aA rs
structure Bz(ws:List Str)(rs:List Row):Prop where
 wl:ws.length<=24
 rl:rs.length<=120
 ok:∀r∈rs,bQ ws r
def Bq.z(h:Bq ws rs):Bz ws rs:=⟨h.wl,by have:=h.rl;lia,h.ok⟩
def Bz.in(h:Bz ws rs)(b:x∈aA rs):x∈ws:=by
 have⟨r,a,e⟩:=b_.mp (cU.mp b);rcases e with rfl|e
 .show(h.ok r a).1
 .show(h.ok r a).2.2.1 _ e
section
def Ho(g:IY Pg "words_of" jt)(h:IY Pg "refuse_unknown" qV)(b:Bz ws rs){W:U}(c:Bw L k W)(hl:L.length<=40):
  (K_ rs L->IJ Pg (d+2) "refuse_unknown" [.tup (rs.map B'),W]=a5 (.ok (.loc,.ID)))/\(¬K_ rs L->IJ Pg (d+2) "refuse_unknown" [.tup (rs.map B'),W]=a5 (.exc "Unknown")):=by
 have l:=ie λr a=>(b.ok r a).ok;have m:=b.wl;have n:(aB (aA rs)).length<=(aA rs).length:=d_ (bW _) λx e=>by simpa[bX] using e
 have i:(aB L).length<=L.length:=d_ (bW _) λx e=>by simpa[bX] using e
 have j:IJ Pg (d+1) "words_of" [.tup (rs.map B')]=a5 (.ok (.own,.lst ((aA rs).map .str))):=(aN g _).trans (iU b.rl (λr a=>(b.ok r a).ok) ⋯);have hs:qd bD (aB L) (aB (aA rs))=a5 (.loc,.int (((aB L).filter λx=>cn (x∉aB (aA rs))).length:Nat)):=by
  unfold qd;rw[ĝ ⟨⋯,⋯⟩,ĝ rfl]
 have f:((aB L).filter λx=>cn (x∉aB (aA rs)))=[]↔K_ rs L:=by
  rw[MW];simp[bX,K_]
 generalize ((aB L).filter λx=>cn (x∉aB (aA rs)))=M at hs f;have a:Run (ev (IJ Pg (d+1)) (.Nq bD (.var 1) (.call "words_of" [.var 0]))) [a5 (.loc,.tup (rs.map B')),a5 (k,W)] _ _:=CF (dF c.kd rfl) (c.set ⋯) (bJ (ae (af rfl) aj) trivial j) (gC ⋯) hs;show⟨λhk=>?_,λhk=>?_⟩
 .rw[f.mpr hk]at a;show(aN h _).trans (wt rfl (c.start 0) (bf (aG a ai trivial (fK rfl)) av av))
 .have:0<M.length:=Y6.mpr λz=>hk (f.mp z);show(aN h _).trans (lS rfl (c.start 0) (oU (jo (aG a ai trivial (fK (by simp;lia))) (Hh ai))))
abbrev heads(rs:List Row):List Str:=(rs.filter λr=>cn (r.2=[])).map (·.1)
abbrev wp(rs:List Row)(L:List Str):List Row:=rs++(L.filter λw=>cn (w∉heads rs)).map λw=>(w,[])
def zP(h:r∈wp rs L):r∈rs\/(r.1∈L/\r.2=[]):=by
 rcases hY.mp h with h|h
 .show .inl h
 .have⟨w,a,rfl⟩:=js.mp h;show .inr ⟨(D6.mp a).1,rfl⟩
def zQ:(wp rs L).length<=rs.length+L.length:=by
 unfold wp;rw[ia,c4];have:=oT (λw=>cn (w∉heads rs)) L;lia
def zR(d:∀r∈rs,bQ ws r)(c:∀x∈ws,x∈ws')(e:∀x∈L,x∈ws'):∀r∈wp rs L,bQ ws' r:=λr h=>by
 rcases zP h with h|⟨a,b⟩
 .have⟨p,q,s,t⟩:=d r h;show⟨c _ p,q,λy f=>c y (s y f),t⟩
 .show⟨e _ a,?_,?_,?_⟩<;>rw[b]<;>simp
def pz(hk:K_ rs L):x∈aA (wp rs L)↔x∈aA rs:=by
 constructor
 .intro h;have⟨r,c,e⟩:=b_.mp (cU.mp h);rcases zP c with c|⟨a,b⟩
  .show cU.mpr (b_.mpr ⟨r,c,e⟩)
  .rw[b]at e;rcases e with rfl|e
   .show hk _ a
   .cases e
 .intro h;have⟨r,c,e⟩:=b_.mp (cU.mp h);show cU.mpr (b_.mpr ⟨r,JO _ c,e⟩)
def qW{W:U}(a:Bw L k W){H:List Str}(hl:L.length<=40)(d:st[i]?=a5 (a5 (k,W)))(b:st[j]?=a5 (a5 (.own,w)))(e:∀x:Str,bK .IH (.str x) w=a5 (cn (x∉H))):
  Run (ev Γ (.bi .tuple [.comp 1 cc .seq [.var i] [.cmp .IH (.var 0) (.var (j+1))] (.tup [.var 0,.tup []])])) st (.loc,.tup (((L.filter λw=>cn (w∉H)).map λw=>(w,[])).map B')) st:=by
 have hsz:(1000:Nat)<=cK:=by decide
 have hk:=a.kd;have c:=lJ (cond:=bc Γ [.cmp .IH (.var 0) (.var (j+1))]) (elt:=ev Γ (.tup [.var 0,.tup []])) (src:=[(k,W)]) (st:=st) (cN hk trivial) k hk U.str (λw=>B' (w,[])) (λw=>cn (w∉H)) .loc L [] (by simp;lia)
  (λy _=>⟨cw (aG (dF hk rfl) (aC (by simpa using b)) (cN hk ⟨⟨.own,rfl,by simpa using b⟩,trivial⟩) (e y)),λ_=>⟨gR (ae (dF hk rfl) (ae (gR aj trivial aI (i7 _)) aj)) (cN hk trivial) (aD (VJ hk rfl) (aD aJ aI)) (by change 2<=cK;lia),aJ⟩⟩)
 rw[i8]at c;rw[ke];show cv (ae (dC (rs:=[(k,W)]) (ae (dF hk d) aj) (cN hk trivial) a.it c) aj) trivial rfl
abbrev Hq:List S:=[.ite (.cmp .eq (.idx (.var 3) (.cst (.int 1))) (.tup [])) [.put 2 (.idx (.var 3) (.cst (.int 0))) (.cst (.bl bD))] []]
abbrev Ri:Fn:=⟨"with_pictures",2,4,[.MI "refuse_unknown" [.var 0,.var 1],.set 2 (.Kh cc),.IU cc [3] .seq [.var 0] Hq,.ret (.bin .add (.var 0) (.bi .tuple [.comp 1 cc .seq [.var 1] [.cmp .IH (.var 0) (.var 3)] (.tup [.var 0,.tup []])]))]⟩
abbrev sZ(rs:List Row)(k:Kd)(W:U)(K:List Str)(o3:Option (Kd×U)):aw:=[a5 (.loc,.tup (rs.map B')),a5 (k,W),a5 (.own,pj K),o3]
def uO{rs ms:List Row}(h:rs.length+ms.length<=1000):LA .add (.loc,.tup (rs.map B')) (.loc,.tup (ms.map B'))=a5 (.loc,.tup ((rs++ms).map B')):=by
 have hsz:(1000:Nat)<=cK:=by decide
 change(if (rs.map B').length+(ms.map B').length<=cK then a5 (kT .loc .loc,U.tup (rs.map B'++ms.map B')) else b8)=_;rw[ĝ (by simp;lia),i9];rfl
def Hr(u:IY Pg "words_of" jt)(b:IY Pg "refuse_unknown" qV)(h:IY Pg "with_pictures" Ri)(f:Bz ws rs){W:U}(c:Bw L k W)(hl:L.length<=40):
  (K_ rs L->IJ Pg (d+3) "with_pictures" [.tup (rs.map B'),W]=a5 (.ok (.loc,.tup ((wp rs L).map B'))))/\(¬K_ rs L->IJ Pg (d+3) "with_pictures" [.tup (rs.map B'),W]=a5 (.exc "Unknown")):=by
 have hk:=c.kd;have n:=Ho (d:=d) u b f c hl;have as:∀r,Run (bb (IJ Pg (d+2)) [.var 0,.var 1]) (a5 (.loc,.tup (rs.map B'))::a5 (k,W)::r) [(.loc,.tup (rs.map B')),(k,W)] (a5 (.loc,.tup (rs.map B'))::a5 (k,W)::r):=λr=>ae (af rfl) (ae (dF hk rfl) aj);have o:∀st,aW [(Kd.loc,U.tup (rs.map B')),(k,W)] st:=λst=>cN (.inl rfl) (cN hk trivial);show⟨λz=>?_,λz=>(aN h _).trans (lS rfl (c.start 2) (E6 (as _) (o _) (zL (n.2 z))))⟩;obtain⟨st',v,K,o3,rfl,D,p,_⟩:=bZ (rs:=[(.loc,.tup (rs.map B'))]) (t:=cc) (is:=[3]) (body:=execs (IJ Pg (d+2)) Hq) (λr:Row=>(Kd.loc,B' r)) (λa q st=>∃K o3,st=sZ rs k W K o3/\iX ws K/\(∀x,x∈K↔x∈heads a)/\∀r∈q,bQ ws r)
  (λ_ _ _ _=>trivial) (λa y q st A=>by
   have⟨K,o3,e,l,s,m⟩:=A;subst e;have G:=l.len;have I:=f.wl;have g:Run (IX (IJ Pg (d+2)) (.cmp .eq (.idx (.var 3) (.cst (.int 1))) (.tup []))) (sZ rs k W K (a5 (.loc,B' y))) (cn (y.2=[])) (sZ rs k W K (a5 (.loc,B' y))):=aG (br (af rfl) ai trivial (show gE (.loc,B' y) (.int 1)=a5 (.loc,.tup (y.2.map .str)) from rfl)) (gR aj trivial aI (i7 _)) trivial uJ;have B:heads (a++[y])=heads a++(if y.2=[] then [y.1] else []):=by
    unfold heads;rw[Pk,i9,Jw,SA];by_cases e:y.2=[]<;>simp[e]
   rw[B];by_cases e:y.2=[]
   .rw[Ġ e]at g;rw[ĝ e];show⟨_,sZ rs k W (fh K y.1) (a5 (.loc,B' y)),aH,du g (iR (k:=.own) (k':=.own) ai rfl (br (af rfl) ai trivial (show gE (.loc,B' y) (.int 0)=a5 (.loc,.str y.1) from rfl)) (aD aJ (aD aJ aI)) rfl rfl (km ⋯) av) av,fh K y.1,_,rfl,l.ins (m y (by simp)).1,λx=>?_,λr b=>m r (by simp[b])⟩;rw[gh,s x,hY,hV]
   .rw[ğ e]at g;rw[Ğ e,rr];show⟨_,sZ rs k W K (a5 (.loc,B' y)),aH,bf g av av,K,_,rfl,l,s,λr b=>m r (by simp[b])⟩) rs [] (sZ rs k W [] b8) ⟨[],b8,rfl,⟨.nil,by simp⟩,λx=>by simp[heads],f.ok⟩
 rw[i8]at p;have C:=qW (Γ:=IJ Pg (d+2)) (st:=sZ rs k W K o3) c (i:=1) (j:=2) (w:=pj K) (H:=heads rs) hl rfl rfl λx=>gB.trans (by simp[p x]);have J:=oT (λw=>cn (w∉heads rs)) L;show(aN h _).trans (bu rfl (.inr rfl) (c.start 2) (Hj (as _) (o _) (zK (n.1 z)) (ax lD a9 (c6 (rs:=[(.loc,.tup (rs.map B'))]) (ae (af rfl) aj) trivial kq rfl v (bO (bE (af rfl) C trivial (uO (by rw[c4];have:=f.rl;lia))) dH)))))
end
section
def zS(a:Run (bb Γ es) st rs st1)(b:aW rs st1)(c:Run (bM Γ f (rs.map (·.2))) st1 r st2):Run (Lm Γ (.call f es)) st r st2:=aa a (aa (aS b) c)
def Hs(a:Run (Lm Γ r) st (.inl x) st1)(b:aW [x] st1)(c:Run (bM Γ f [x.2]) st1 y st2):Run (Lm Γ (.arg f r)) st y st2:=aa a (aa (aS b) c)
def E_(a:Run (Lm Γ r) st (.inr c) st1):Run (Lm Γ (.arg f r)) st (.inr c) st1:=aa a aK
def Ht(a:Run (Lm Γ r) st (.inl x) st1)(c:Run (ev Γ e) st1 y st2)(d:aW [x,y] st2)(f:bK g x.2 y.2=a5 b):Run (Lm Γ (.cmp g r e)) st (.inl (.loc,.bl b)) st2:=aa a (aa c (aa (aS d) (aa (cz f) aK)))
def Fb(a:Run (Lm Γ r) st (.inr c) st1):Run (Lm Γ (.cmp b r e)) st (.inr c) st1:=aa a aK
def Fc(a:Run (Lm Γ r) st (.inl x) st1)(b:Run (retS x) st1 (.rt k u) st2):Run (execs Γ (.Ki r::ss)) st (.rt k u) st2:=oU (aa a b)
def Fd(a:Run (Lm Γ r) st (.inr c) st1):Run (execs Γ (.Ki r::ss)) st (.rt .io (.str c)) st1:=oU (aa a aK)
abbrev uP:Fn:=⟨"not_learnt",1,1,[.ret (.Nq cc (.call "words_of" [.var 0]) (.call "learnt" [.var 0]))]⟩
def zT(e:K.length<64)(f:(aA rs).length<64)(b:Γ "words_of" [.tup (rs.map B')]=a5 (.ok (.own,.lst ((aA rs).map .str))))(c:Γ "learnt" [.tup (rs.map B')]=a5 (.ok (.own,.lst ((aP K).map .str)))):
  ∃Z:List Str,dk Γ uP [.tup (rs.map B')]=a5 (.ok (.own,.lst (Z.map .str)))/\∀x,x∈Z↔x∈aA rs/\x∉K:=by
 have g:(aB (aA rs)).length<=(aA rs).length:=d_ (bW _) λx a=>by simpa[bX] using a
 have d:(aB (aP K)).length<=(aP K).length:=d_ (bW _) λx a=>by simpa[bX] using a
 rw[cG]at d;have hs:qd cc (aB (aA rs)) (aB (aP K))=a5 (.own,.lst ((aP ((aB (aA rs)).filter λx=>cn (x∉aB (aP K)))).map .str)):=by
  unfold qd;rw[ĝ ⟨⋯,⋯⟩,Ğ i1]
 show⟨_,bu rfl (.inl rfl) (st0:=[a5 (.loc,.tup (rs.map B'))]) (Ģ (λx:Option (Kd×U)=>[x]) (eC rs)) (bO (CF (bJ (ae (af rfl) aj) trivial b) (gC ⋯) (bJ (ae (af rfl) aj) trivial c) (gC (by rw[cG];lia)) hs) jM),λx=>?_⟩;rw[(bI _).mem_iff,D6];simp[bX,(bI K).mem_iff]
abbrev Fe:Fn:=⟨"suffice",2,2,[.Ki (.cmp .eq (.arg "not_learnt" (.call "with_pictures" [.var 0,.var 1])) (.lst []))]⟩
abbrev Suf(rs:List Row)(L:List Str):Prop:=∀x∈aA rs,Ln (wp rs L) x
def Hu(s:KL.Rg Pg)(o:IY Pg "words_of" jt)(f:IY Pg "refuse_unknown" qV)(t:IY Pg "with_pictures" Ri)(m:IY Pg "not_learnt" uP)(h:IY Pg "suffice" Fe)(i:Bz ws rs){W:U}(j:Bw L k W)(hl:L.length<=40)(hz:K_ rs L->rs.length+L.length<=120):
  (K_ rs L->∃b,IJ Pg (d+7) "suffice" [.tup (rs.map B'),W]=a5 (.ok (.loc,.bl b))/\(b=bD↔Suf rs L))/\(¬K_ rs L->IJ Pg (d+7) "suffice" [.tup (rs.map B'),W]=a5 (.exc "Unknown")):=by
 have hk:=j.kd;have c:=Hr (d:=d+3) o f t i j hl;have as:∀r,Run (bb (IJ Pg (d+6)) [.var 0,.var 1]) (a5 (.loc,.tup (rs.map B'))::a5 (k,W)::r) [(.loc,.tup (rs.map B')),(k,W)] (a5 (.loc,.tup (rs.map B'))::a5 (k,W)::r):=λr=>ae (af rfl) (ae (dF hk rfl) aj);have p:∀st,aW [(Kd.loc,U.tup (rs.map B')),(k,W)] st:=λst=>cN (.inl rfl) (cN hk trivial);show⟨λz=>?_,λz=>(aN h _).trans (lS rfl (j.start 0) (Fd (Fb (E_ (zS (as _) (p _) (zL (c.2 z)))))))⟩;have A:=i.wl;have l:=zR (L:=L) i.ok (ws':=ws) (λ_ h=>h) λx c=>i.in (z x c);have e:(wp rs L).length<=120:=wh zQ (hz z);have⟨K,n,u⟩:=Kn.some i.wl l;have B:=u.len;have C:=ie λr f=>(l r f).ok;have v:IJ Pg (d+5) "words_of" [.tup ((wp rs L).map B')]=a5 (.ok (.own,.lst ((aA (wp rs L)).map .str))):=(aN o _).trans (iU e (λr f=>(l r f).ok) ⋯);have⟨Z,w,q⟩:=zT ⋯ ⋯ v (KL.B9 s d (λr f=>(l r f).ok) i.wl e n);show⟨cn (Z=[]),(aN h _).trans (bu rfl (.inr rfl) (j.start 0) (Fc (Ht (Hs (zS (as _) (p _) (zK (c.1 z))) trivial (Hi ((aN m _).trans w))) (cm aj trivial aI (i7 _)) trivial (iS (b:=[]))) dH)),?_⟩;rw[decide_eq_true_iff,List.eq_nil_iff_forall_not_mem];constructor
 .intro g x c;show Vq λm=>g x ((q x).mpr ⟨(pz z).mpr c,λy=>m ((Kn.mem n).mp y)⟩)
 .intro g x c;have⟨a,b⟩:=(q x).mp c;show b ((Kn.mem n).mpr (g x ((pz z).mp a)))
abbrev Rj:Fn:=⟨"_law_pictured",2,3,[.set 2 (.comp 1 cc .seq [.var 0] [.cmp .eq (.idx (.var 0) (.cst (.int 1))) (.tup [])] (.idx (.var 0) (.cst (.int 0)))),.ret (.bin .add (.bi .tuple [.var 0]) (.bi .tuple [.comp 1 cc .seq [.var 1] [.cmp .IH (.var 0) (.var 3)] (.tup [.var 0,.tup []])]))]⟩
def Hv(h:IY Pg "_law_pictured" Rj)(b:rs.length<=120)(hl:L.length<=40):IJ Pg (d+1) "_law_pictured" [.tup (rs.map B'),.lst (L.map .str)]=a5 (.ok (.loc,.tup ((wp rs L).map B'))):=by
 have c:=oT (λw=>cn (w∉heads rs)) L;have a:=qW (Γ:=IJ Pg d) (st:=[a5 (.loc,.tup (rs.map B')),a5 (.any,.lst (L.map .str)),a5 (.own,.lst ((heads rs).map .str))]) .lst (i:=1) (j:=2) (w:=.lst ((heads rs).map .str)) (H:=heads rs) hl rfl rfl λx=>fg;show(aN h _).trans (bu rfl (.inr rfl) (Bw.lst.start 1) (ax (qR ⋯ rfl) a9 (bO (bE (cv (ae (af rfl) aj) trivial rfl) a trivial (uO (by rw[c4];lia))) dH)))
abbrev Uj:Fn:=⟨"_law_suffice",2,2,[.ret (.cmp .eq (.bi .sorted [.call "_law_learnt" [.call "_law_pictured" [.var 0,.var 1]]]) (.call "_law_all" [.var 0]))]⟩
def Iu(f:IY Pg "_law_pictured" Rj)(i:IY Pg "_law_learnt" Ca)(j:IY Pg "_law_all" wb)(h:IY Pg "_law_suffice" Uj){ws ws':List Str}(c:Bz ws rs)(hl:L.length<=40)(k:ws'.length<=40)(l:∀x∈ws,x∈ws')(m:∀x∈L,x∈ws'):
  ∃b,IJ Pg (d+2) "_law_suffice" [.tup (rs.map B'),.lst (L.map .str)]=a5 (.ok (.loc,.bl b))/\(K_ rs L->(b=bD↔Suf rs L)):=by
 have⟨K,e,k1,k2⟩:=Ir (d:=d) (gj 40) i ws' (wp rs L) .loc _ .tup k (zR c.ok l m);have o:=k1.len;show⟨cn (aP K=aA rs),(aN h _).trans (bu rfl (.inr rfl) (Bw.lst.start 0) (bO (jK (x:=(.own,.lst ((aP K).map .str))) (cv (ae (bJ (ae (bJ (ae (af rfl) (ae (ba rfl) aj)) trivial (Hv f c.rl hl)) aj) trivial e) aj) trivial ?_) (bJ (ae (af rfl) aj) trivial (E7 j c.wl c.ok)) trivial iS) dH)),λz=>?_⟩
 .change(if K.length<64 then a5 (Kd.own,U.lst ((aP K).map .str)) else b8)=_;rw[ĝ ⋯]
 .rw[decide_eq_true_iff];constructor
  .intro g x a;show(Kn.mem k2).mp ((bI K).mem_iff.mp (g▸a))
  .intro g;show yZ ((Rn k1.1 (oY rs)).mpr λx=>⟨λa=>?_,λa=>(Kn.mem k2).mpr (g x a)⟩) (fR _);have:=(Kn.mem k2).mp a (·∈aA (wp rs L)) λr n _=>cU.mpr (b_.mpr ⟨r,n,.inl rfl⟩);show(pz z).mp this
end
section
abbrev NA:List (Str×Bool):=[("Unknown",cc)]
abbrev zU:Fn:=⟨"_law_kind",1,2,[.set 1 (.lst [.J2 (.var 0) "Unknown" [("Unknown",bD)],.J2 (.var 0) "Unlearnt" NA,.J2 (.var 0) "TooMany" NA,.J2 (.var 0) "Lacking" NA]),.set 1 (.bin .add (.var 1) (.lst [.J2 (.var 0) "NoText" NA,.J2 (.var 0) "Unfit" NA,.J2 (.var 0) "NoRow" NA,.J2 (.var 0) "NoDeed" NA])),.ite (.or [.cmp .ne (.MZ cc 1 bD) (.cst (.int 1)),.not (.J2 (.var 0) "ValueError" [("Unknown",bD)])]) [.ret (.cst (.str "none"))] [],.ret (.idx (.lst [.cst (.str "unknown"),.cst (.str "unlearnt"),.cst (.str "many"),.cst (.str "lacking"),.cst (.str "text"),.cst (.str "unfit"),.cst (.str "row"),.cst (.str "deed")]) (.MZ bD 1 bD))]⟩
def zV:dk Γ zU [.exc "Unknown"]=a5 (.ok (.loc,.str "unknown")):=by
 have d:(1000:Nat)<=cK:=by decide
 have b4:(4:Nat)<=cK:=by lia
 have c:(8:Nat)<=cK:=by lia
 have lk:lb NA (.exc "Unknown")=a5 cc:=by decide +kernel
 have lt:lb [("Unknown",bD)] (.exc "Unknown")=a5 bD:=by decide +kernel
 have a:∀(r:Kd×U) (rs:List (Kd×U)) (us:List U) (st:aw),r.1=.loc->Run (da rs) st us st->Run (da (r::rs)) st (r.2::us) st:=λr rs us st e h=>aD (by have⟨k,u⟩:=r;cases e;show aJ) h;show bu rfl (.inr rfl) (st:=[a5 (.loc,.exc "Unknown"),a5 (.own,.lst [.bl bD,.bl cc,.bl cc,.bl cc,.bl cc,.bl cc,.bl cc,.bl cc])]) (st0:=[a5 (.loc,.exc "Unknown"),b8]) rfl (ax (r:=(.own,.lst [.bl bD,.bl cc,.bl cc,.bl cc])) (st1:=[a5 (.loc,.exc "Unknown"),b8]) ?_ a9 (ax (r:=(.own,.lst [.bl bD,.bl cc,.bl cc,.bl cc,.bl cc,.bl cc,.bl cc,.bl cc])) (st1:=[a5 (.loc,.exc "Unknown"),a5 (.own,.lst [.bl bD,.bl cc,.bl cc,.bl cc])]) ?_ a9 (bf (st2:=[a5 (.loc,.exc "Unknown"),a5 (.own,.lst [.bl bD,.bl cc,.bl cc,.bl cc,.bl cc,.bl cc,.bl cc,.bl cc])]) ?_ av (bO ?_ dH))))
 .show cm (ae (jO (af rfl) lt) (ae (jO (af rfl) lk) (ae (jO (af rfl) lk) (ae (jO (af rfl) lk) aj)))) trivial (a _ _ _ _ rfl (a _ _ _ _ rfl (a _ _ _ _ rfl (a _ _ _ _ rfl aI)))) b4
 .show bE (aC rfl) (cm (ae (jO (af rfl) lk) (ae (jO (af rfl) lk) (ae (jO (af rfl) lk) (ae (jO (af rfl) lk) aj)))) trivial (a _ _ _ _ rfl (a _ _ _ _ rfl (a _ _ _ _ rfl (a _ _ _ _ rfl aI)))) b4) ∅ (yW c rfl rfl)
 .show ER (yO (aG (CN rfl) ai trivial (pq rfl)) (yN (nz (Hm (b:=bD) (af rfl) lt))))
 .show br (cm (ae ai (ae ai (ae ai (ae ai (ae ai (ae ai (ae ai (ae ai aj)))))))) trivial (a _ _ _ _ rfl (a _ _ _ _ rfl (a _ _ _ _ rfl (a _ _ _ _ rfl (a _ _ _ _ rfl (a _ _ _ _ rfl (a _ _ _ _ rfl (a _ _ _ _ rfl aI)))))))) c) (CN rfl) trivial (cy rfl)
abbrev s9:Fn:=⟨"_law_asked",3,6,[.set 3 (.cst .ID),.set 4 (.cst .ID),.MJ 3 [.cmp .eq (.var 2) (.cst (.int 0))] "with_pictures" [.var 0,.var 1] "suffice" [.var 0,.var 1] "PrimerError" ["Unknown"] 5 4,.ret (.ite (.cmp .is (.var 4) (.cst .ID)) (.var 3) (.call "_law_kind" [.var 4]))]⟩
def zW(h:IY Pg "_law_asked" s9)(hk:IY Pg "_law_kind" zU){rs:List Row}{W u:U}(a:Bw L k W):
  (IJ Pg (d+1) (if (i==0)=bD then "with_pictures" else "suffice") [.tup (rs.map B'),W]=a5 (.ok (.loc,u))->IJ Pg (d+2) "_law_asked" [.tup (rs.map B'),W,.int i]=a5 (.ok (.loc,u))) /\
  (IJ Pg (d+1) (if (i==0)=bD then "with_pictures" else "suffice") [.tup (rs.map B'),W]=a5 (.exc "Unknown")->IJ Pg (d+2) "_law_asked" [.tup (rs.map B'),W,.int i]=a5 (.ok (.loc,.str "unknown"))):=by
 have b:start [.tup (rs.map B'),W,.int i] 6=[a5 (.loc,.tup (rs.map B')),a5 (k,W),a5 (.loc,.int i),b8,b8,b8]:=by
  change [a5 (if I0 (.tup (rs.map B'))=bD then Kd.loc else Kd.any,U.tup (rs.map B')),a5 (if I0 W=bD then Kd.loc else Kd.any,W),a5 (Kd.loc,U.int i),b8,b8,b8]=_;rw[eC,a.bg]
 have c:∀st,aW [(Kd.loc,U.tup (rs.map B')),(k,W)] st:=λst=>cN (.inl rfl) (cN a.kd trivial);have as:∀r,Run (bb (IJ Pg (d+1)) [.var 0,.var 1]) (a5 (.loc,.tup (rs.map B'))::a5 (k,W)::r) [(.loc,.tup (rs.map B')),(k,W)] (a5 (.loc,.tup (rs.map B'))::a5 (k,W)::r):=λr=>ae (af rfl) (ae (dF a.kd rfl) aj);have f:Run (IX (IJ Pg (d+1)) (.cmp .eq (.var 2) (.cst (.int 0)))) [a5 (.loc,.tup (rs.map B')),a5 (k,W),a5 (.loc,.int i),a5 (.loc,.ID),a5 (.loc,.ID),b8] (i==0) [a5 (.loc,.tup (rs.map B')),a5 (k,W),a5 (.loc,.int i),a5 (.loc,.ID),a5 (.loc,.ID),b8]:=aG (af rfl) ai trivial (bp rfl);show⟨λe=>(aN h _).trans (bu rfl (.inr rfl) b (ax ai aH (ax ai aH (zM f (as _) (c _) (zK e) Hl (bO (sE (aG (af rfl) ai trivial rfl) (af rfl)) dH))))),
  λe=>(aN h _).trans (bu rfl (.inr rfl) b (ax ai aH (ax ai aH (zM f (as _) (c _) (zL e) (Hk rfl (by decide) (by simp)) (bO (sF (aG (af rfl) ai trivial rfl) (bJ (ae (af rfl) aj) trivial ((aN hk _).trans zV))) dH)))))⟩
abbrev zX:List S :=
   [.set 6 (.Kx 3 (.Iy "_law_draw" [.var 0,.bi .len [.var 3]] [0])),
   .ite (.cmp .eq (.Iy "_law_draw" [.var 0,.var 2] [0]) (.cst (.int 0)))
    [.app 4 (.var 6)]
    []]
abbrev Iv:List S :=
   [.set 3 (.bi .list [.var 1]),
    .set 4 (.lst []),
    .IU cc [5] .Js [.bi .len [.var 3]] zX,
    .ret (.var 4)]
abbrev Ff:Fn:=⟨"_law_some",3,7,.LN [0]::Iv⟩
abbrev mz(u:U)(kn:List Str)(share:Int)(ts L:List Str)(o5 o6:Option (Kd×U)):aw:=[a5 (.io,u),a5 (.any,.lst (kn.map .str)),a5 (.loc,.int share),a5 (.own,.lst (ts.map .str)),a5 (.own,.lst (L.map .str)),o5,o6]
def zY(g:aZ Γ)(s:Src T u)(H:T+2<2 ^ 62)(t:0<share)(I:share<=24)(J:0<ts.length)(N:ts.length<=24)(h:∀x∈ts,x∈kn)(j:∀x∈L,x∈kn)(O:L.length<1000):
  ∃u' a L' v,Run (execs Γ zX) (mz u kn share ts L o5 o6) .nx (mz u' kn share a L' o5 v)/\Src (T+2) u'/\a.length+1=ts.length/\(∀x∈a,x∈kn)/\(∀x∈L',x∈kn)/\L'.length<=L.length+1:=by
 have w:(1000:Nat)<=cK:=by decide
 have⟨n,l,A,B,C,s1⟩:=cA (st:=mz u kn share ts L o5 o6) g (i:=0) (k:=.io) (e:=.bi .len [.var 3]) (m:=((ts.map U.str).length:Nat)) rfl rfl (cv (ae (aC rfl) aj) ∅ bY) s ⋯ (by simp;lia) (by simp;lia);rw[c4]at C;have b:n.toNat<ts.length:=by lia
 have o:(ts.map U.str)[n.toNat]?=a5 (.str ts[n.toNat]):=by simp[b]
 have p:ts[n.toNat]∈kn:=h _ (Jq b);generalize ts[n.toNat]=x at o p;have D:(ts.map U.str).eraseIdx n.toNat=(ts.eraseIdx n.toNat).map U.str:=by
  rw[H8,H8,i9,Uh,Ui]
 have hl:(ts.eraseIdx n.toNat).length+1=ts.length:=by rw[WZ b];lia
 have d:∀y∈ts.eraseIdx n.toNat,y∈kn:=λy G=>h y (Xu G);have f:Run (ev Γ (.Kx 3 (.Iy "_law_draw" [.var 0,.bi .len [.var 3]] [0]))) (mz u kn share ts L o5 o6) (.loc,.str x) (mz l kn share (ts.eraseIdx n.toNat) L o5 o6):=by
  have:=yP (i:=3) (k0:=.own) (k:=.own) (us0:=ts.map U.str) (us:=ts.map U.str) rfl (by intro z;cases z) A rfl rfl B ⋯ o;rw[D]at this;show this
 generalize ts.eraseIdx n.toNat=a at f hl d;have⟨m,u2,q,m0,m1,s2⟩:=cA (st:=mz l kn share a L o5 (a5 (.loc,.str x))) g (i:=0) (k:=.io) (e:=.var 2) (m:=share) rfl rfl (af rfl) s1 ⋯ t ⋯;by_cases hz:m=0
 .show⟨u2,a,L++[x],a5 (.loc,.str x),ax f aH (du (aG q ai trivial (bp (c:=bD) (by simp[hz]))) (gc (k:=.own) (k':=.own) rfl (af rfl) aJ rfl rfl (by simp;lia) av) ?_),s2.up ⋯,hl,d,?_,by simp⟩
  .rw[show L.map U.str++[U.str x]=(L++[x]).map U.str by simp];show av
  .intro r hr;rcases hY.mp hr with hr|hr
   .show j r hr
   .rw[hV]at hr;subst hr;show p
 .show⟨u2,a,L,_,ax f aH (bf (aG q ai trivial (bp (c:=cc) (by simp[hz]))) av av),s2.up ⋯,hl,d,j,⋯⟩
abbrev uQ(Γ:Tab):Prop:=∀(T:Int) (u:U) (kn:List Str) (share:Int),Src T u->T+60<2 ^ 62->kn.length<=24->0<share->share<=24->∃(L:List Str) (u':U),Γ "_law_some" [u,.lst (kn.map .str),.int share]=a5 (.ok (.own,.tup [.lst (L.map .str),u']))/\(∀x∈L,x∈kn)/\L.length<=24/\Src (T+60) u'
def qX{ss:List Str}(hk:dM k (ss.map .str)=bD):Kp .list [(k,.lst (ss.map .str))]=a5 (.own,.lst (ss.map .str)):=by
 change(if dM k (ss.map U.str)=bD then a5 (Kd.own,U.lst (ss.map U.str)) else b8)=_;rw[ĝ hk]
def Hw(l:aZ (IJ Pg d))(h:IY Pg "_law_some" Ff):uQ (IJ Pg (d+1)):=by
 intro T u kn share g G H m n;have o:(1000:Nat)<=cK:=by decide
 have p:cS [0] [u,.lst (kn.map .str),.int share] Ff.ns=[a5 (.io,u),a5 (.any,.lst (kn.map .str)),a5 (.loc,.int share),b8,b8,b8,b8]:=by
  obtain⟨_,_,_,rfl,_⟩:=g;rfl
 obtain⟨st',s,b,c,L,o5,o6,rfl,s3,j,m3,k,e,_⟩:=bZ (rs:=[(.loc,.int (kn.length:Nat))]) (t:=cc) (is:=[5]) (body:=execs (IJ Pg d) zX) (λi:Nat=>(Kd.loc,U.int (0+(i:Int)))) (λa r st=>∃(b:U) (c L:List Str) (o5 o6:Option (Kd×U)),st=mz b kn share c L o5 o6/\Src (T+2 * (a.length:Nat)) b/\c.length=r.length/\L.length<=a.length/\(∀x∈c,x∈kn)/\(∀x∈L,x∈kn)/\a.length+r.length=kn.length)
  (λ_ r st _=>trivial) (λa y r st h=>by
   have⟨b,c,L,o5,o6,rfl,s3,j,m3,k,e,v⟩:=h;simp only[i0]at j v;have⟨w,z,A,I,q,s4,J,B,C,N⟩:=zY (Γ:=IJ Pg d) l (u:=b) (share:=share) (kn:=kn) (ts:=c) (L:=L) (o5:=a5 (.loc,.int (0+(y:Int)))) (o6:=o6) s3 ⋯ m n ⋯ ⋯ k e ⋯;show⟨mz b kn share c L (a5 (.loc,.int (0+(y:Int)))) o6,_,aH,q,w,z,A,_,_,rfl,s4.up (by simp;lia),⋯,by simp;lia,B,C,by simp;lia⟩) (eH kn.length) [] (mz u kn share kn [] b8 b8) ⟨u,kn,[],b8,b8,rfl,g.up (by simp),by simp,by simp,λx D=>D,by simp,by simp⟩
 rw[i8,ve]at m3 s3;show⟨L,b,?_,e,⋯,s3.up ⋯⟩;rw[cI h _ rfl];show cp (f:=.rt .own (.lst (L.map .str))) (st:=(mz b kn share c L o5 o6).set 4 b8) rfl p ?_ rfl rfl;show ax (cv (ae (ba rfl) aj) trivial (qX (wo (.inl rfl)))) a9 (ax (cm aj trivial aI (i7 _)) a9 (c6 (rs:=[(.loc,.int (kn.length:Nat))]) (ae (cv (ae (aC rfl) aj) ∅ (by rw[bY,c4])) aj) trivial (eU ⋯) rfl s (bO (aC rfl) (jN rfl))))
end
section
def Hx(c:st[i]?=a5 (a5 (k',.lst us')))(d:k'≠.Iw)(g:Run (ev Γ a) st (h,.int j) st1)(l:Run (ev Γ e) st1 r st2)(m:aW [(h,U.int j)] st2)(n:Run (lift r) st2 u b)(o:b[i]?=a5 (a5 (k,.lst us)))(hk:k.root=bD)(j0:0<=j)(p:j.toNat<=us.length)(hl:us.length<cK)
  (q:Run (execs Γ ss) (b.set i (a5 (k,.lst (us.take j.toNat++u::us.drop j.toNat)))) f s):Run (execs Γ (.ins i a e::ss)) st f s:=by
 show fE (aa (dG c d) (aa (a:=()) (st1:=st) rfl (aa g (aa l (aa (aS m) (aa n (aa (a:=()) ?_ aK))))))) q;change modS i (AS (.int j) u) b=_;unfold modS;rw[o];simp only[hk,if_true];have e:AS (.int j) u (.lst us)=a5 (.lst (us.take j.toNat++u::us.drop j.toNat)):=by change(if 0<=j/\j.toNat<=us.length/\us.length<cK then _ else _)=_;rw[ĝ ⟨j0,p,hl⟩]
 rw[e]
abbrev fM:List Str:=["zzzzzzzz","a/99","q"]
abbrev IV(o0 o1:Option (Kd×U))(u2:U)(o3 o4:Option (Kd×U))(rs:List Row)(o7 o8 o9 o10 o11 o12 o13:Option (Kd×U)):aw :=
 [o0,o1,a5 (.own,u2),o3,o4,a5 (.loc,.tup (rs.map B')),a5 (.own,.lst ((aA rs).map .str)),o7,o8,o9,o10,o11,o12,o13]
def Fg(b:aZ Γ)(c:uQ Γ)(hl:(aA rs).length<=24)(d:Src T u2)(p:T+100<2 ^ 62):∃(L:List Str) (u':U),Run (ev Γ (.Iy "_law_some" [.var 2,.var 6,.bin .add (.cst (.int 1)) (.Iy "_law_draw" [.var 2,.cst (.int 3)] [0])] [0])) (IV o0 o1 u2 o3 o4 rs o7 o8 o9 o10 o11 o12 o13) (.own,.lst (L.map .str)) (IV o0 o1 u' o3 o4 rs o7 o8 o9 o10 o11 o12 o13)/\(∀x∈L,x∈aA rs)/\L.length<=24/\Src (T+70) u':=by
 have⟨n,f,g,q,s,s1⟩:=cA (Γ:=Γ) (st:=IV o0 o1 u2 o3 o4 rs o7 o8 o9 o10 o11 o12 o13) b (i:=2) (k:=.own) (e:=.cst (.int 3)) (m:=3) rfl rfl ai d ⋯ ⋯ ⋯;have⟨L,u',e,h,j,a⟩:=c _ f (aA rs) (1+n) s1 ⋯ hl ⋯ ⋯;have⟨l,rfl,o⟩:=s1.lst;have⟨us',rfl,t⟩:=a.lst;show⟨L,.lst us',?_,h,j,a.up ⋯⟩;show uL (Γ:=Γ) (st:=IV o0 o1 u2 o3 o4 rs o7 o8 o9 o10 o11 o12 o13) (st1:=IV o0 o1 (.lst l) o3 o4 rs o7 o8 o9 o10 o11 o12 o13) (i:=2) (k0:=.own) (k:=.own) (rs:=[(.bor 6,.lst ((aA rs).map .str)),(.loc,.int (1+n))]) rfl rfl (ae (aC rfl) (ae (bE ai g trivial cu) aj)) rfl rfl o rfl ⟨⟨.own,rfl,rfl⟩,trivial⟩ (λr hr=>by rcases d3.mp hr with rfl|hr;rfl;rw[hV]at hr;subst hr;rfl) e (.inl rfl)
theorem pA(b:aZ Γ){L:List Str}:∀(M acc:List Str) (T:Int) (u2:U),Src T u2->T+(M.length:Nat)+10<2 ^ 62->acc.length+M.length<=100->∃(L':List Str) (u':U),Run (cj 1 cc (bc Γ [.cmp .gt (.Iy "_law_draw" [.var 3,.cst (.int 8)] [0]) (.cst (.int 0))]) (ev Γ (.var 0)) [(.bor 8,.lst (L.map .str))] (M.map λx=>(Kd.loc,U.str x)) (acc.map .str)) (IV o0 o1 u2 o3 o4 rs o7 (a5 (.own,.lst (L.map .str))) o9 o10 o11 o12 o13) (L'.map .str) (IV o0 o1 u' o3 o4 rs o7 (a5 (.own,.lst (L.map .str))) o9 o10 o11 o12 o13)/\(∀x∈L',x∈acc\/x∈M)/\L'.length<=acc.length+M.length/\Src (T+(M.length:Nat)) u'
 |[],acc,T,u2,c,_,_=>⟨acc,u2,qA ⟨⟨.own,rfl,rfl⟩,trivial⟩,λx o=>.inl o,gj _,c.up (by simp)⟩
 |x::M,acc,T,u2,c,p,hl=>by
  have r:(1000:Nat)<=cK:=by decide
  rw[i0]at p hl;have⟨n,a,j,s,t,s1⟩:=cA (Γ:=Γ) (st:=a5 (.loc,.str x)::IV o0 o1 u2 o3 o4 rs o7 (a5 (.own,.lst (L.map .str))) o9 o10 o11 o12 o13) b (i:=3) (k:=.own) (e:=.cst (.int 8)) (m:=8) rfl rfl ai c ⋯ ⋯ ⋯;by_cases h:0<n
  .have⟨L',u',q,d,l,f⟩:=pA b (L:=L) M (acc++[x]) (T+1) a s1 ⋯ (by simp;lia);rw[i9,UK]at q;show⟨L',u',lH (s1:=a5 (.loc,.str x)::IV o0 o1 u2 o3 o4 rs o7 (a5 (.own,.lst (L.map .str))) o9 o10 o11 o12 o13) (s2:=a5 (.loc,.str x)::IV o0 o1 a o3 o4 rs o7 (a5 (.own,.lst (L.map .str))) o9 o10 o11 o12 o13) ⟨⟨.own,rfl,rfl⟩,trivial⟩ aH (cw (aG j ai trivial (fK (Ġ h)))) (af rfl) aJ (by rw[c4];lia) q,λy g=>?_,by simp at l;rw[i0];lia,f.up (by rw[i0];lia)⟩;rcases d y g with i|i
   .rcases hY.mp i with i|i
    .show .inl i
    .rw[hV]at i;subst i;show .inr (by simp)
   .show .inr (by simp[i])
  .have⟨L',u',q,d,l,f⟩:=pA b (L:=L) M acc (T+1) a s1 ⋯ ⋯;show⟨L',u',sG (s1:=a5 (.loc,.str x)::IV o0 o1 u2 o3 o4 rs o7 (a5 (.own,.lst (L.map .str))) o9 o10 o11 o12 o13) (s2:=a5 (.loc,.str x)::IV o0 o1 a o3 o4 rs o7 (a5 (.own,.lst (L.map .str))) o9 o10 o11 o12 o13) ⟨⟨.own,rfl,rfl⟩,trivial⟩ aH (cw (aG j ai trivial (fK (ğ h)))) q,λy g=>?_,by rw[i0];lia,f.up (by rw[i0];lia)⟩;rcases d y g with i|i
   .show .inl i
   .show .inr (by simp[i])
def zZ{L:List Str}:Ky .seq [(.bor i,.lst (L.map .str))]=a5 (L.map λx=>(Kd.loc,U.str x)):=by
 change a5 ((L.map U.str).map λu=>(kE (.bor i),u))=_;rw[ke];rfl
def Fh(a:aZ Γ){L:List Str}(hl:L.length<=24)(b:Src T u2)(g:T+100<2 ^ 62):∃(L':List Str) (u':U),Run (ev Γ (.comp 1 cc .seq [.var 8] [.cmp .gt (.Iy "_law_draw" [.var 3,.cst (.int 8)] [0]) (.cst (.int 0))] (.var 0))) (IV o0 o1 u2 o3 o4 rs o7 (a5 (.own,.lst (L.map .str))) o9 o10 o11 o12 o13) (.own,.lst (L'.map .str)) (IV o0 o1 u' o3 o4 rs o7 (a5 (.own,.lst (L.map .str))) o9 o10 o11 o12 o13)/\(∀x∈L',x∈L)/\L'.length<=24/\Src (T+24) u':=by
 have⟨L',u',q,c,d,e⟩:=pA (Γ:=Γ) (o0:=o0) (o1:=o1) (o3:=o3) (o4:=o4) (o7:=o7) (o9:=o9) (o10:=o10) (o11:=o11) (o12:=o12) (o13:=o13) (rs:=rs) a (L:=L) L [] T u2 b ⋯ (by simp;lia);show⟨L',u',dC (rs:=[(.bor 8,.lst (L.map .str))]) (ae (aC rfl) aj) ⟨⟨.own,rfl,rfl⟩,trivial⟩ zZ q,λx f=>(c x f).elim (λz=>by cases z) id,by simp at d;lia,e.up ⋯⟩
def Fi:Run (ev Γ (.comp 1 cc .seq [.lst [.cst (.str "zzzzzzzz"),.cst (.str "a/99"),.cst (.str "q")]] [.cmp .IH (.var 0) (.var 7)] (.var 0))) (IV o0 o1 u2 o3 o4 rs o7 o8 o9 o10 o11 o12 o13) (.own,.lst ((fM.filter λx=>cn (x∉aA rs)).map .str)) (IV o0 o1 u2 o3 o4 rs o7 o8 o9 o10 o11 o12 o13):=by
 have b:(1000:Nat)<=cK:=by decide
 have a:=lJ (cond:=bc Γ [.cmp .IH (.var 0) (.var 7)]) (elt:=ev Γ (.var 0)) (src:=[(.own,.lst (fM.map .str))]) (st:=IV o0 o1 u2 o3 o4 rs o7 o8 o9 o10 o11 o12 o13) trivial .loc (.inl rfl) U.str U.str (λx=>cn (x∉aA rs)) .loc fM [] (by change 0+3<=cK;lia)
  (λy _=>⟨cw (aG (af rfl) (aC rfl) ⟨⟨.own,rfl,rfl⟩,trivial⟩ fg),λ_=>⟨af rfl,aJ⟩⟩)
 rw[i8]at a;show dC (rs:=[(.own,.lst (fM.map .str))]) (ae (cm (us:=fM.map .str) (ae ai (ae ai (ae ai aj))) trivial (aD aJ (aD aJ (aD aJ aI))) (by change 3<=cK;lia)) aj) trivial rfl a
noncomputable def VL : S := .ite (.and [(.cmp .eq (.Iy "_law_draw" [(.var 2), (.cst (.int 4))] [0]) (.cst (.int 0))), (.cmp .gt (.bi .len [(.var 9)]) (.cst (.int 0)))])
        [.ins 8 (.Iy "_law_draw" [.var 2,.bin .add (.bi .len [.var 8]) (.cst (.int 1))] [0]) (.idx (.var 9) (.cst (.int 0)))]
        []
def Fj(d:aZ Γ){L sg:List Str}(hl:L.length<=24)(hs:sg.length<=3)(j:Src T u2)(p:T+100<2 ^ 62):∃(L':List Str) (u':U),Run (exec Γ VL) (IV o0 o1 u2 o3 o4 rs o7 (a5 (.own,.lst (L.map .str))) (a5 (.own,.lst (sg.map .str))) o10 o11 o12 o13) .nx (IV o0 o1 u' o3 o4 rs o7 (a5 (.own,.lst (L'.map .str))) (a5 (.own,.lst (sg.map .str))) o10 o11 o12 o13)/\(∀x∈L',x∈L\/x∈sg)/\L'.length<=25/\Src (T+2) u':=by
 have l:(1000:Nat)<=cK:=by decide
 have⟨n,b,f,t,v,s1⟩:=cA (Γ:=Γ) (st:=IV o0 o1 u2 o3 o4 rs o7 (a5 (.own,.lst (L.map .str))) (a5 (.own,.lst (sg.map .str))) o10 o11 o12 o13) d (i:=2) (k:=.own) (e:=.cst (.int 4)) (m:=4) rfl rfl ai j ⋯ ⋯ ⋯;by_cases h:n=0
 .have g:=aG f (ai (Γ:=Γ) (u:=.int 0)) trivial (bp (c:=bD) (by simp[h]));cases sg with
  |nil=>show⟨L,b,lG (d9 (fD g (cw (aG (cv (ae (aC rfl) aj) (by show⟨⟨.own,rfl,rfl⟩,trivial⟩) bY) ai trivial (fK rfl))))) av,λx hx=>.inl hx,⋯,s1.up ⋯⟩
  |cons s sg =>
   have⟨m,u',o,m0,m1,s2⟩:=cA (Γ:=Γ) (st:=IV o0 o1 b o3 o4 rs o7 (a5 (.own,.lst (L.map .str))) (a5 (.own,.lst ((s::sg).map .str))) o10 o11 o12 o13) d (i:=2) (k:=.own) (e:=.bin .add (.bi .len [.var 8]) (.cst (.int 1))) (m:=((L.map U.str).length:Nat)+1) rfl rfl (bE (cv (ae (aC rfl) aj) (by show⟨⟨.own,rfl,rfl⟩,trivial⟩) bY) ai trivial cu) s1 ⋯ ⋯ (by simp;lia);rw[c4]at m1;have q:=Hx (Γ:=Γ) (i:=8) (a:=.Iy "_law_draw" [.var 2,.bin .add (.bi .len [.var 8]) (.cst (.int 1))] [0]) (e:=.idx (.var 9) (.cst (.int 0))) (ss:=[]) (k:=.own) (k':=.own) (us:=L.map .str) (us':=L.map .str) (r:=(.loc,.str s)) (u:=.str s) rfl (by intro z;cases z) o (br (aC rfl) ai (by show⟨⟨.own,rfl,rfl⟩,trivial⟩) (cy (show JD ((s::sg).map U.str) ((0:Nat):Int)=_ from eI rfl))) trivial aJ rfl rfl m0 (by rw[c4];lia) (by rw[c4];lia) av;show⟨L.take m.toNat++s::L.drop m.toNat,u',?_,λx hx=>?_,by simp;lia,s2.up ⋯⟩
   .rw[show(L.take m.toNat++s::L.drop m.toNat).map U.str=(L.map U.str).take m.toNat++U.str s::(L.map U.str).drop m.toNat by simp[Uh,Ui]];show jo (d9 (fD g (cw (aG (cv (ae (aC rfl) aj) (by show⟨⟨.own,rfl,rfl⟩,trivial⟩) bY) ai trivial (fK (c:=bD) (by simp)))))) q
   .rcases hY.mp hx with hx|hx
    .show .inl (YO hx)
    .rcases d3.mp hx with rfl|hx
     .show .inr (by simp)
     .show .inl (List.mem_of_mem_drop hx)
 .show⟨L,b,lG (d9 (lF (aG f ai trivial (bp (c:=cc) (by simp[h]))))) av,λx hx=>.inl hx,⋯,s1.up ⋯⟩
end
section
inductive Hd(L:List Str):Kd->U->Prop
 |tup:Hd L .loc (.tup (L.map .str))
 |lst:Hd L .own (.lst (L.map .str))
def Hd.bw{W:U}(h:Hd L k W):∃k',Bw L k' W:=by
 cases h
 .show⟨_,.tup⟩
 .show⟨_,.lst⟩
def Fm(d:aZ Γ)(g:Src T u2)(j:T<2 ^ 62):∃(k:Kd) (W:U) (u':U),(∀ss f st',Run (execs Γ ss) (IV o0 o1 u' o3 o4 rs o7 (a5 (.own,.lst (L.map .str))) o9 (a5 (k,W)) o11 o12 o13) f st'->Run (execs Γ (.set 10 (.ite (.cmp .eq (.Iy "_law_draw" [.var 2,.cst (.int 2)] [0]) (.cst (.int 1))) (.bi .tuple [.var 8]) (.bi .list [.var 8]))::ss)) (IV o0 o1 u2 o3 o4 rs o7 (a5 (.own,.lst (L.map .str))) o9 o10 o11 o12 o13) f st')/\Hd L k W/\Src (T+1) u':=by
 have⟨n,a,b,l,o,s1⟩:=cA (Γ:=Γ) (st:=IV o0 o1 u2 o3 o4 rs o7 (a5 (.own,.lst (L.map .str))) o9 o10 o11 o12 o13) d (i:=2) (k:=.own) (e:=.cst (.int 2)) (m:=2) rfl rfl ai g ⋯ ⋯ ⋯;by_cases h:n=1
 .show⟨.loc,.tup (L.map .str),a,λss f st' q=>ax (r:=(.loc,.tup (L.map .str))) (sE (aG b ai trivial (bp (c:=bD) (by simp[h]))) (cv (ae (aC rfl) aj) (by show⟨⟨.own,rfl,rfl⟩,trivial⟩) rfl)) aH q,.tup,s1⟩
 .show⟨.own,.lst (L.map .str),a,λss f st' q=>ax (r:=(.own,.lst (L.map .str))) (sF (aG b ai trivial (bp (c:=cc) (by simp[h]))) (cv (ae (aC rfl) aj) (by show⟨⟨.own,rfl,rfl⟩,trivial⟩) (qX rfl))) a9 q,.lst,s1⟩
structure Uk(Γ:Tab)(rs:List Row)(L:List Str)(W:U):Prop where
 pd:Γ "_law_pictured" [.tup (rs.map B'),.lst (L.map .str)]=a5 (.ok (.loc,.tup ((wp rs L).map B')))
 sf:∃b,Γ "_law_suffice" [.tup (rs.map B'),.lst (L.map .str)]=a5 (.ok (.loc,.bl b))/\(K_ rs L->Γ "_law_asked" [.tup (rs.map B'),W,.int 1]=a5 (.ok (.loc,.bl b)))
 yes:K_ rs L->Γ "_law_asked" [.tup (rs.map B'),W,.int 0]=a5 (.ok (.loc,.tup ((wp rs L).map B')))/\eO Γ (.tup ((wp rs L).map B'))
 no:¬K_ rs L->∀i:Int,Γ "_law_asked" [.tup (rs.map B'),W,.int i]=a5 (.ok (.loc,.str "unknown"))
 un:eO Γ (.str "unknown")
noncomputable def Cd : List S :=
        [.set 13 (.call "_law_asked" [.var 5,.var 10,.var 12]),
        .ite (.and [.cmp .eq (.var 12) (.cst (.int 1)),.cmp .ne (.idx (.var 11) (.cst (.int 1))) (.cst (.str "unknown"))])
          [.ite (.or [.not (.KS (.var 13) .bool),.cmp .ne (.var 13) (.idx (.var 11) (.cst (.int 1)))])
            [.ret (.cst (.bl false))]
            []]
          [.ite (.not (.call "_law_same" [.var 13,.idx (.var 11) (.var 12)]))
            [.ret (.cst (.bl false))]
            []]]
def Hy{W:U}(h:Hd L k W)(e:st[i]?=a5 (a5 (k,W))):∃k',Run (ev Γ (.var i)) st (k',W) st/\(∀rs,aW rs st->aW ((k',W)::rs) st)/\dM k' (L.map .str)=bD:=by
 cases h
 .show⟨_,af e,λ_ z=>z,rfl⟩
 .show⟨_,aC e,λ_ z=>⟨⟨.own,rfl,e⟩,z⟩,rfl⟩
def Ce{W a b u:U}{i:Nat}(l:Hd L k W)(m:st=IV o0 o1 u2 o3 o4 rs o7 o8 o9 (a5 (k,W)) (a5 (.own,.lst [a,b])) (a5 (.loc,.int (0+(i:Int)))) o13)(f:i=0\/i=1)(n:Γ "_law_asked" [.tup (rs.map B'),W,.int (0+(i:Int))]=a5 (.ok (.loc,u)))
  (p:(i=1/\∃c,u=.bl c/\b=.bl c)\/((i=0\/b=.str "unknown")/\u=(if i=0 then a else b)/\eO Γ u)):Run (execs Γ Cd) st .nx (IV o0 o1 u2 o3 o4 rs o7 o8 o9 (a5 (k,W)) (a5 (.own,.lst [a,b])) (a5 (.loc,.int (0+(i:Int)))) (a5 (.loc,u))):=by
 subst m;obtain⟨k',q,s,_⟩:=Hy (Γ:=Γ) (st:=IV o0 o1 u2 o3 o4 rs o7 o8 o9 (a5 (k,W)) (a5 (.own,.lst [a,b])) (a5 (.loc,.int (0+(i:Int)))) o13) l (i:=10) rfl;show ax (r:=(.loc,u)) (st1:=IV o0 o1 u2 o3 o4 rs o7 o8 o9 (a5 (k,W)) (a5 (.own,.lst [a,b])) (a5 (.loc,.int (0+(i:Int)))) o13) (bJ (rs:=[(.loc,.tup (rs.map B')),(k',W),(.loc,.int (0+(i:Int)))]) (ae (af rfl) (ae q (ae (af rfl) aj))) (s _ trivial) n) aH ?_;have d:Run (IX Γ (.cmp .eq (.var 12) (.cst (.int 1)))) (IV o0 o1 u2 o3 o4 rs o7 o8 o9 (a5 (k,W)) (a5 (.own,.lst [a,b])) (a5 (.loc,.int (0+(i:Int)))) (a5 (.loc,u))) ((0+(i:Int))==1) (IV o0 o1 u2 o3 o4 rs o7 o8 o9 (a5 (k,W)) (a5 (.own,.lst [a,b])) (a5 (.loc,.int (0+(i:Int)))) (a5 (.loc,u))):=aG (af rfl) ai trivial (bp rfl);have e:∀o,Run (ev Γ (.idx (.var 11) (.cst (.int 1)))) (IV o0 o1 u2 o3 o4 rs o7 o8 o9 (a5 (k,W)) (a5 (.own,.lst [a,b])) (a5 (.loc,.int (0+(i:Int)))) o) (.loc,b) (IV o0 o1 u2 o3 o4 rs o7 o8 o9 (a5 (k,W)) (a5 (.own,.lst [a,b])) (a5 (.loc,.int (0+(i:Int)))) o):=λo=>br (aC rfl) ai (by show⟨⟨.own,rfl,rfl⟩,trivial⟩) (cy (show JD [a,b] ((1:Nat):Int)=_ from eI rfl));rcases p with⟨rfl,c,rfl,rfl⟩|⟨t,g,hs⟩
 .have v:bK .ne (.bl c) (.str "unknown")=a5 bD:=by cases c<;>decide +kernel
  have w:bK .ne (.bl c) (.bl c)=a5 cc:=by cases c<;>decide +kernel
  show du (d9 (fD d (cw (aG (e _) ai trivial v)))) (bf (ER (yO (nz (c:=bD) (nE (af rfl) rfl)) (yN (aG (af rfl) (e _) trivial w)))) av av) av
 .have x:Run (ev Γ (.idx (.var 11) (.var 12))) (IV o0 o1 u2 o3 o4 rs o7 o8 o9 (a5 (k,W)) (a5 (.own,.lst [a,b])) (a5 (.loc,.int (0+(i:Int)))) (a5 (.loc,u))) (.loc,u) (IV o0 o1 u2 o3 o4 rs o7 o8 o9 (a5 (k,W)) (a5 (.own,.lst [a,b])) (a5 (.loc,.int (0+(i:Int)))) (a5 (.loc,u))):=by
   show br (aC rfl) (af rfl) (by show⟨⟨.own,rfl,rfl⟩,trivial⟩) (cy ?_);rw[show(0:Int)+(i:Int)=(i:Nat) by lia];show eI ?_;rcases f with rfl|rfl
   .rw[g];rfl
   .rw[g];rfl
  have j:Run (execs Γ [.ite (.not (.call "_law_same" [.var 13,.idx (.var 11) (.var 12)])) [.ret (.cst (.bl cc))] []]) (IV o0 o1 u2 o3 o4 rs o7 o8 o9 (a5 (k,W)) (a5 (.own,.lst [a,b])) (a5 (.loc,.int (0+(i:Int)))) (a5 (.loc,u))) .nx (IV o0 o1 u2 o3 o4 rs o7 o8 o9 (a5 (k,W)) (a5 (.own,.lst [a,b])) (a5 (.loc,.int (0+(i:Int)))) (a5 (.loc,u))):=bf (nz (c:=bD) (EU (ae (af rfl) (ae x aj)) trivial hs rfl)) av av;rcases f with rfl|rfl
  .show bf (d9 (lF d)) j av
  .rcases t with h|rfl
   .cases h
   .show bf (d9 (fD d (cw (aG (e _) ai trivial (show bK .ne (.str "unknown") (.str "unknown")=a5 cc by decide +kernel))))) j av
end
section
abbrev CO:List S :=
   [.set 11 (.lst [.call "_law_pictured" [.var 5,.var 8],.call "_law_suffice" [.var 5,.var 8]]),
   .ite (.not (.bi .all [.comp 1 cc .seq [.var 8] [] (.cmp .isin (.var 0) (.var 7))]))
    [.set 11 (.lst [.cst (.str "unknown"),.cst (.str "unknown")])]
    [],
   .IU cc [12] .Js [.cst (.int 2)] Cd,
   .ite (.cmp .ne (.bi .list [.var 10]) (.var 8))
    [.ret (.cst (.bl cc))]
    []]
def z_{L:List Str}(hl:L.length<=1000)(b:st[8]?=a5 (a5 (.own,.lst (L.map .str))))(c:st[6]?=a5 (a5 (.own,.lst ((aA rs).map .str)))):
  Run (ev Γ (.bi .all [.comp 1 cc .seq [.var 8] [] (.cmp .isin (.var 0) (.var 7))])) st (.loc,.bl (L.all λx=>cn (x∈aA rs))) st:=by
 have hsz:(1000:Nat)<=cK:=by decide
 have d:aW [(Kd.bor 8,U.lst (L.map .str))] st:=⟨⟨.own,rfl,b⟩,trivial⟩
 have a:=jr (cond:=bc Γ []) (elt:=ev Γ (.cmp .isin (.var 0) (.var 7))) (src:=[(.bor 8,.lst (L.map .str))]) (st:=st) d .loc (.inl rfl) U.str (λx=>.bl (cn (x∈aA rs))) .loc (λ_=>lE) L [] (by simp;lia)
  (λy _=>⟨jK (af rfl) (aC (by simpa using c)) ⟨⟨.own,rfl,by simpa using c⟩,trivial⟩ G9,aJ⟩)
 rw[i8]at a;have e:(L.map λx=>U.bl (cn (x∈aA rs)))=(L.map λx=>cn (x∈aA rs)).map U.bl:=by rw[ke];rfl
 rw[e]at a;have f:(L.all λx=>cn (x∈aA rs))=((L.map λx=>cn (x∈aA rs)).all id):=by rw[U5];rfl
 rw[f];show cv (ae (dC (rs:=[(.bor 8,.lst (L.map .str))]) (ae (aC b) aj) d zZ a) aj) trivial (pb _)
def Fo{W:U}(hl:L.length<=25)(q:Hd L k W)(l:Uk Γ rs L W):∃B f g,Run (execs Γ CO) (IV o0 o1 u2 o3 o4 rs o7 (a5 (.own,.lst (L.map .str))) o9 (a5 (k,W)) o11 o12 o13) .nx (IV o0 o1 u2 o3 o4 rs o7 (a5 (.own,.lst (L.map .str))) o9 (a5 (k,W)) B f g):=by
 have C:(1000:Nat)<=cK:=by decide
 have⟨b,D,G⟩:=l.sf;have as:Run (bb Γ [.var 5,.var 8]) (IV o0 o1 u2 o3 o4 rs o7 (a5 (.own,.lst (L.map .str))) o9 (a5 (k,W)) o11 o12 o13) [(.loc,.tup (rs.map B')),(.bor 8,.lst (L.map .str))] (IV o0 o1 u2 o3 o4 rs o7 (a5 (.own,.lst (L.map .str))) o9 (a5 (k,W)) o11 o12 o13):=ae (af rfl) (ae (aC rfl) aj);have w:Run (ev Γ (.lst [.call "_law_pictured" [.var 5,.var 8],.call "_law_suffice" [.var 5,.var 8]])) (IV o0 o1 u2 o3 o4 rs o7 (a5 (.own,.lst (L.map .str))) o9 (a5 (k,W)) o11 o12 o13) (.own,.lst [.tup ((wp rs L).map B'),.bl b]) (IV o0 o1 u2 o3 o4 rs o7 (a5 (.own,.lst (L.map .str))) o9 (a5 (k,W)) o11 o12 o13) :=
  cm (ae (bJ as (by show⟨⟨.own,rfl,rfl⟩,trivial⟩) l.pd) (ae (bJ as (by show⟨⟨.own,rfl,rfl⟩,trivial⟩) D) aj)) trivial (aD aJ (aD aJ aI)) (by change 2<=cK;lia)
 have p:∀o11,Run (IX Γ (.bi .all [.comp 1 cc .seq [.var 8] [] (.cmp .isin (.var 0) (.var 7))])) (IV o0 o1 u2 o3 o4 rs o7 (a5 (.own,.lst (L.map .str))) o9 (a5 (k,W)) o11 o12 o13) (L.all λx=>cn (x∈aA rs)) (IV o0 o1 u2 o3 o4 rs o7 (a5 (.own,.lst (L.map .str))) o9 (a5 (k,W)) o11 o12 o13):=λo11=>yR (z_ ⋯ rfl rfl);have y:∀o11 o12 o13,Run (execs Γ [.ite (.cmp .ne (.bi .list [.var 10]) (.var 8)) [.ret (.cst (.bl cc))] []]) (IV o0 o1 u2 o3 o4 rs o7 (a5 (.own,.lst (L.map .str))) o9 (a5 (k,W)) o11 o12 o13) .nx (IV o0 o1 u2 o3 o4 rs o7 (a5 (.own,.lst (L.map .str))) o9 (a5 (k,W)) o11 o12 o13):=λo11 o12 o13=>by
  have⟨k',I,J,N⟩:=Hy (Γ:=Γ) (st:=IV o0 o1 u2 o3 o4 rs o7 (a5 (.own,.lst (L.map .str))) o9 (a5 (k,W)) o11 o12 o13) q (i:=10) rfl;have O:Kp .list [(k',W)]=a5 (.own,.lst (L.map .str)):=by
   cases q<;>(change(if dM k' (L.map U.str)=bD then a5 (Kd.own,U.lst (L.map U.str)) else b8)=_;rw[ĝ N])
  show bf (aG (cv (ae I aj) (J _ trivial) O) (aC rfl) (by show⟨⟨.own,rfl,rfl⟩,trivial⟩) (B_.trans (by simp))) av av
 have m:∀a c:U,(∀i:Nat,i<2->∃u,Γ "_law_asked" [.tup (rs.map B'),W,.int (0+(i:Int))]=a5 (.ok (.loc,u))/\((i=1/\∃z,u=.bl z/\c=.bl z)\/((i=0\/c=.str "unknown")/\u=(if i=0 then a else c)/\eO Γ u)))->∃f g,Run (forM cc [12] (execs Γ Cd) [(.loc,.int (2:Nat))] ((eH 2).map λi:Nat=>(Kd.loc,U.int (0+(i:Int))))) (IV o0 o1 u2 o3 o4 rs o7 (a5 (.own,.lst (L.map .str))) o9 (a5 (k,W)) (a5 (.own,.lst [a,c])) o12 o13) .nx (IV o0 o1 u2 o3 o4 rs o7 (a5 (.own,.lst (L.map .str))) o9 (a5 (k,W)) (a5 (.own,.lst [a,c])) f g):=λa c H=>by
  obtain⟨st',n,f,g,rfl,_⟩:=bZ (rs:=[(.loc,.int (2:Nat))]) (t:=cc) (is:=[12]) (body:=execs Γ Cd) (λi:Nat=>(Kd.loc,U.int (0+(i:Int)))) (λd r st=>∃o12 o13,st=IV o0 o1 u2 o3 o4 rs o7 (a5 (.own,.lst (L.map .str))) o9 (a5 (k,W)) (a5 (.own,.lst [a,c])) o12 o13/\∀i∈r,i<2)
   (λ_ _ _ _=>trivial) (λd i r st Q=>by
    have⟨o12,o13,e,A⟩:=Q;subst e;have o:=A i (by simp);have⟨u,T,Y⟩:=H i o;show⟨IV o0 o1 u2 o3 o4 rs o7 (a5 (.own,.lst (L.map .str))) o9 (a5 (k,W)) (a5 (.own,.lst [a,c])) (a5 (.loc,.int (0+(i:Int)))) o13,_,aH,Ce q rfl ⋯ T Y,_,_,rfl,λj hj=>A j (by simp[hj])⟩) (eH 2) [] (IV o0 o1 u2 o3 o4 rs o7 (a5 (.own,.lst (L.map .str))) o9 (a5 (k,W)) (a5 (.own,.lst [a,c])) o12 o13) ⟨_,_,rfl,λi o=>tA.mp o⟩
  show⟨f,g,n⟩
 by_cases hk:K_ rs L
 .have s:(L.all λx=>cn (x∈aA rs))=bD:=i6.mpr λx v=>Ġ (hk x v);rw[s]at p;have⟨y1,y2⟩:=l.yes hk;have⟨f,g,n⟩:=m (.tup ((wp rs L).map B')) (.bl b) λi o=>by
   have:i=0\/i=1:=by lia
   rcases this with rfl|rfl
   .show⟨_,y1,.inr ⟨.inl rfl,rfl,y2⟩⟩
   .show⟨_,G hk,.inl ⟨rfl,b,rfl,rfl⟩⟩
  show⟨_,f,g,ax w a9 (bf (nz (c:=bD) (p _)) av (c6 (rs:=[(.loc,.int (2:Nat))]) (ae ai aj) trivial (eU ⋯) rfl n (y _ _ _)))⟩
 .have s:(L.all λx=>cn (x∈aA rs))=cc:=by
   cases h:(L.all λx=>cn (x∈aA rs)) with
   |false=>rfl
   |true=>show absurd (λx v=>ġ (i6.mp h x v)) hk
  rw[s]at p;have⟨f,g,n⟩:=m (.str "unknown") (.str "unknown") λi o=>⟨_,l.no hk _,.inr ⟨.inr rfl,by split<;>rfl,l.un⟩⟩
  show⟨_,f,g,ax w a9 (du (nz (c:=cc) (p _)) (ax (cm (us:=[.str "unknown",.str "unknown"]) (ae ai (ae ai aj)) trivial (aD aJ (aD aJ aI)) (by change 2<=cK;lia)) a9 av) (c6 (rs:=[(.loc,.int (2:Nat))]) (ae ai aj) trivial (eU ⋯) rfl n (y _ _ _)))⟩
abbrev Fp:List S :=
   [.set 8 (.Iy "_law_some" [.var 2,.var 6,.bin .add (.cst (.int 1)) (.Iy "_law_draw" [.var 2,.cst (.int 3)] [0])] [0]),
   .ite (.cmp .eq (.var 7) (.cst (.int 1)))
    [.set 8 (.comp 1 cc .seq [.var 8] [.cmp .gt (.Iy "_law_draw" [.var 3,.cst (.int 8)] [0]) (.cst (.int 0))] (.var 0))]
    [],
   .set 9 (.comp 1 cc .seq [.lst [.cst (.str "zzzzzzzz"),.cst (.str "a/99"),.cst (.str "q")]] [.cmp .IH (.var 0) (.var 7)] (.var 0)),
   VL,
   .set 10 (.ite (.cmp .eq (.Iy "_law_draw" [(.var 2),(.cst (.int 2))] [0]) (.cst (.int 1))) (.bi .tuple [(.var 8)]) (.bi .list [(.var 8)]))]++CO
def Cg(b:aZ Γ)(v:uQ Γ)(hl:(aA rs).length<=24)(w:∀L k W,Hd L k W->L.length<=25->(∀x∈L,x∈aA rs\/x∈fM)->Uk Γ rs L W){i:Nat}(y:Src T u2)(hT:T+200<2 ^ 62):
  ∃o A B C d e g,Run (execs Γ Fp) (IV o0 o1 u2 o3 o4 rs (a5 (.loc,.int (0+(i:Int)))) o8 o9 o10 o11 o12 o13) .nx (IV o0 o1 o o3 o4 rs (a5 (.loc,.int (0+(i:Int)))) A B C d e g)/\Src (T+100) o:=by
 have⟨j,p,D,G,r,s3⟩:=Fg (Γ:=Γ) (o0:=o0) (o1:=o1) (o3:=o3) (o4:=o4) (o7:=a5 (.loc,.int (0+(i:Int)))) (o8:=o8) (o9:=o9) (o10:=o10) (o11:=o11) (o12:=o12) (o13:=o13) b v hl y ⋯;have st2:∃(L2:List Str) (a:U),(∀ss f st',Run (execs Γ ss) (IV o0 o1 a o3 o4 rs (a5 (.loc,.int (0+(i:Int)))) (a5 (.own,.lst (L2.map .str))) o9 o10 o11 o12 o13) f st'->Run (execs Γ (.ite (.cmp .eq (.var 7) (.cst (.int 1))) [.set 8 (.comp 1 cc .seq [.var 8] [.cmp .gt (.Iy "_law_draw" [.var 3,.cst (.int 8)] [0]) (.cst (.int 0))] (.var 0))] []::ss)) (IV o0 o1 p o3 o4 rs (a5 (.loc,.int (0+(i:Int)))) (a5 (.own,.lst (j.map .str))) o9 o10 o11 o12 o13) f st')/\(∀x∈L2,x∈j)/\L2.length<=24/\Src (T+94) a:=by
  by_cases h:(0+(i:Int))=1
  .have⟨L2,a,l,b1,m,s4⟩:=Fh (Γ:=Γ) (o0:=o0) (o1:=o1) (o3:=o3) (o4:=o4) (o7:=a5 (.loc,.int (0+(i:Int)))) (o9:=o9) (o10:=o10) (o11:=o11) (o12:=o12) (o13:=o13) (rs:=rs) b r s3 ⋯;show⟨L2,a,λss f st' q=>du (aG (af rfl) ai trivial (bp (c:=bD) (beq_iff_eq.mpr h))) (ax l a9 av) q,b1,m,s4.up ⋯⟩
  .show⟨j,p,λss f st' q=>bf (aG (af rfl) ai trivial (bp (c:=cc) (ģ.mpr h))) av q,λx n=>n,r,s3.up ⋯⟩
 have⟨L2,a,l,b1,m,s4⟩:=st2;have H:(fM.filter λx=>cn (x∉aA rs)).length<=3:=oT _ _;have⟨L,u5,I,J,s,N⟩:=Fj (Γ:=Γ) (o0:=o0) (o1:=o1) (o3:=o3) (o4:=o4) (o7:=a5 (.loc,.int (0+(i:Int)))) (o10:=o10) (o11:=o11) (o12:=o12) (o13:=o13) (rs:=rs) b (sg:=fM.filter λx=>cn (x∉aA rs)) m H s4 ⋯;have⟨k,W,t,O,u,Q⟩:=Fm (Γ:=Γ) (o0:=o0) (o1:=o1) (o3:=o3) (o4:=o4) (o7:=a5 (.loc,.int (0+(i:Int)))) (o9:=a5 (.own,.lst ((fM.filter λx=>cn (x∉aA rs)).map .str))) (o10:=o10) (o11:=o11) (o12:=o12) (o13:=o13) (rs:=rs) b (L:=L) N ⋯;have⟨d,e,g,Y⟩:=Fo (Γ:=Γ) (o0:=o0) (o1:=o1) (u2:=t) (o3:=o3) (o4:=o4) (o7:=a5 (.loc,.int (0+(i:Int)))) (o9:=a5 (.own,.lst ((fM.filter λx=>cn (x∉aA rs)).map .str))) (o11:=o11) (o12:=o12) (o13:=o13) s u (w L k W u s λx n=>(J x n).elim (λz=>.inl (G x (b1 x z))) λz=>.inr (D6.mp z).1);show⟨t,_,_,_,d,e,g,ax D a9 (l _ _ _ (ax Fi a9 (fE I (O _ _ _ Y)))),Q.up ⋯⟩
end
abbrev Aa:Fn:=⟨"law",1,14,[.set 1 (.MY .Kw [.MH (.var 0) [] [.cst (.int 200)]]),.set 2 (.Iy "_law_source" [.var 1,.cst (.int 2)] [0]),.set 3 (.Iy "_law_source" [.var 1,.cst (.int 1)] [0]),.set 4 (.Iy "_law_words" [.var 3] [0]),.set 5 (.Iy "_law_widened" [.var 3,.Iy "_law_book" [.var 1,.var 3,.var 4] [0,1]] [0]),.set 6 (.call "_law_all" [.var 5]),.IU cc [7] .Js [.cst (.int 2)] Fp,.ret (.cst (.bl bD))]⟩
def wy(f:iW Γ)(l:aZ Γ)(m:uM Γ)(n:lR Γ)(o:zx Γ)(p:uQ Γ)(v:∀ws rs,Bq ws rs->Γ "_law_all" [.tup (rs.map B')]=a5 (.ok (.own,.lst ((aA rs).map .str))))
  (w:∀ws rs,Bq ws rs->∀L k W,Hd L k W->L.length<=25->(∀x∈L,x∈aA rs\/x∈fM)->Uk Γ rs L W) {ns:List Int} (hn:ns.length<=63):dk Γ Aa [.lst (ns.map .int)]=a5 (.ok (.loc,.bl bD)):=by
 have z:(1000:Nat)<=cK:=by decide
 have g:rN .Kw [(.own,.lst ((cut ns b8 (a5 200)).map .int))]=a5 (.own,.lst ((cut ns b8 (a5 200)).reverse.map .int)):=by
  change(if dM .own ((cut ns b8 (a5 200)).map U.int)=bD then a5 (Kd.own,U.lst ((cut ns b8 (a5 200)).map U.int).reverse) else b8)=_;rw[ĝ (show dM .own ((cut ns b8 (a5 200)).map U.int)=bD from rfl),List.map_reverse]
 have a:(cut ns b8 (a5 200)).reverse.length<=63:=by rw[Uc];have:=BR ns b8 (a5 200);lia
 generalize (cut ns b8 (a5 200)).reverse=A at g a;let o0:Option (Kd×U):=a5 (.any,.lst (ns.map .int));have⟨B,u2,C,l2,s2⟩:=qS (Γ:=Γ) f (ns:=A) (rest:=[b8,b8,b8,b8,b8,b8,b8,b8,b8,b8,b8,b8]) (o0:=o0) (k:=2);have⟨j,D,G,l3,s3⟩:=qS (Γ:=Γ) f (ns:=B) (rest:=[a5 (.own,u2),b8,b8,b8,b8,b8,b8,b8,b8,b8,b8,b8]) (o0:=o0) (k:=1);have⟨ws,u4,H,I,J,s4,wx⟩:=m 0 D s3 ⋯;have⟨N,rfl,O⟩:=s3.lst;have⟨Q,rfl,Zs⟩:=s4.lst;have Y:=ig (Γ:=Γ) (st:=[o0,a5 (.own,.lst (j.map .int)),a5 (.own,u2),a5 (.own,.lst N),b8,b8,b8,b8,b8,b8,b8,b8,b8,b8]) (i:=3) (es:=[]) (k0:=.own) (k:=.own) rfl rfl aj rfl rfl O rfl H (.inl rfl);have⟨rs,b,c,q5,e⟩:=wu (Γ:=Γ) n o (ns:=j) (u:=.lst Q) (ws:=ws) (rest:=[b8,b8,b8,b8,b8,b8,b8,b8,b8]) (o0:=o0) (o2:=a5 (.own,u2)) ⋯ s4 ⋯ I J;have LW:=ie λr hr=>(e.ok r hr).ok;obtain⟨st',hf,Rk,o7,o8,o9,o10,o11,o12,o13,T,rfl,_⟩:=bZ (rs:=[(.loc,.int (2:Nat))]) (t:=cc) (is:=[7]) (body:=execs Γ Fp) (λi:Nat=>(Kd.loc,U.int (0+(i:Int)))) (λd r st=>∃u2 o7 o8 o9 o10 o11 o12 o13 T,st=IV o0 (a5 (.own,.lst (b.map .int))) u2 (a5 (.own,c)) (a5 (.own,.lst (ws.map .str))) rs o7 o8 o9 o10 o11 o12 o13/\Src T u2/\T+100 * (r.length:Nat)<1000)
  (λ_ _ _ _=>trivial) (λd y r st h=>by
   have⟨u2,o7,o8,o9,o10,o11,o12,o13,T,rfl,s,t⟩:=h;rw[i0]at t;have⟨Rk,Lp,J7,Mw,LR,JR,JS,q,s'⟩:=Cg (Γ:=Γ) (o0:=o0) (o1:=a5 (.own,.lst (b.map .int))) (u2:=u2) (o3:=a5 (.own,c)) (o4:=a5 (.own,.lst (ws.map .str))) (o8:=o8) (o9:=o9) (o10:=o10) (o11:=o11) (o12:=o12) (o13:=o13) l p (wh LW e.wl) (w ws rs e) (i:=y) s ⋯;show⟨IV o0 (a5 (.own,.lst (b.map .int))) u2 (a5 (.own,c)) (a5 (.own,.lst (ws.map .str))) rs (a5 (.loc,.int (0+(y:Int)))) o8 o9 o10 o11 o12 o13,_,aH,q,_,_,_,_,_,_,_,_,_,rfl,s',⋯⟩) (eH 2) [] (IV o0 (a5 (.own,.lst (b.map .int))) u2 (a5 (.own,c)) (a5 (.own,.lst (ws.map .str))) rs b8 b8 b8 b8 b8 b8 b8) ⟨_,_,_,_,_,_,_,_,0,rfl,s2,by simp⟩
 show bu (st0:=[o0,b8,b8,b8,b8,b8,b8,b8,b8,b8,b8,b8,b8,b8]) rfl (.inr rfl) rfl (ax (CB (ae (qy (ba rfl) uA (ny ai) trivial (yT (by change cH _=bD;show gD ns))) aj) trivial g) a9 (ax C a9 (ax G a9 (ax Y a9 (ax q5 aH (ax (bJ (ae (af rfl) aj) trivial (v ws rs e)) a9 (c6 (rs:=[(.loc,.int (2:Nat))]) (ae ai aj) trivial (eU ⋯) rfl hf (bO ai dH))))))))
end TM
namespace K
open PySem L2 TM
abbrev top(i:Nat):L8:=PySem.Challenge.pw_primer_k41_with_pictures.main.body.getD i (.Pass ⟨0,0,0,0⟩)
noncomputable abbrev lT:Fn:=TM.jt
noncomputable abbrev dy:Fn:=KL.dy
noncomputable abbrev fj:Fn:=TM.qV
noncomputable abbrev bq:Fn:=KL.bq
noncomputable abbrev c7:Fn:=KL.c7
noncomputable abbrev bx:Fn:=KL.bx
noncomputable abbrev fG:Fn:=KL.fG
noncomputable abbrev fi:Fn:=KL.fi
noncomputable abbrev iY:Fn:=TM.uP
noncomputable abbrev fN:Fn:=TM.Ri
noncomputable abbrev nP:Fn:=TM.Fe
noncomputable abbrev iZ:Fn:=TM.y0
noncomputable abbrev lU:Fn:=TM.uK
noncomputable abbrev jP:Fn:=TM.lQ
noncomputable abbrev nQ:Fn:=TM.E3
noncomputable abbrev nR:Fn:=TM.BZ
noncomputable abbrev lV:Fn:=TM.ph
noncomputable abbrev i_:Fn:=TM.Ca
noncomputable abbrev nS:Fn:=TM.wb
noncomputable abbrev lW:Fn:=TM.nO
abbrev lX:Fn:=⟨"_law_kind",1,2,[.set 1 (.lst [.J2 (.var 0) "Unknown" [("Unknown",bD)],.J2 (.var 0) "Unlearnt" [("Unknown",cc)],.J2 (.var 0) "TooMany" [("Unknown",cc)],.J2 (.var 0) "Lacking" [("Unknown",cc)]]),.set 1 (.bin .add (.var 1) (.lst [.J2 (.var 0) "NoText" [("Unknown",cc)],.J2 (.var 0) "Unfit" [("Unknown",cc)],.J2 (.var 0) "NoRow" [("Unknown",cc)],.J2 (.var 0) "NoDeed" [("Unknown",cc)]])),.ite (.or [.cmp .ne (.MZ cc 1 bD) (.cst (.int 1)),.not (.J2 (.var 0) "ValueError" [("Unknown",bD)])]) [.ret (.cst (.str "none"))] [],.ret (.idx (.lst [.cst (.str "unknown"),.cst (.str "unlearnt"),.cst (.str "many"),.cst (.str "lacking"),.cst (.str "text"),.cst (.str "unfit"),.cst (.str "row"),.cst (.str "deed")]) (.MZ bD 1 bD))]⟩
noncomputable abbrev lY:Fn:=TM.Ff
noncomputable abbrev gk:Fn:=TM.Rj
noncomputable abbrev gT:Fn:=TM.Uj
noncomputable abbrev jQ:Fn:=TM.s9
noncomputable abbrev gU:Fn:=TM.B4
abbrev CP:Fn:=⟨"law",1,14,[.set 1 (.MY .Kw [.MH (.var 0) [] [.cst (.int 200)]]),.set 2 (.Iy "_law_source" [.var 1,.cst (.int 2)] [0]),.set 3 (.Iy "_law_source" [.var 1,.cst (.int 1)] [0]),.set 4 (.Iy "_law_words" [.var 3] [0]),.set 5 (.Iy "_law_widened" [.var 3,.Iy "_law_book" [.var 1,.var 3,.var 4] [0,1]] [0]),.set 6 (.call "_law_all" [.var 5]),.IU cc [7] .Js [.cst (.int 2)] [.set 8 (.Iy "_law_some" [.var 2,.var 6,.bin .add (.cst (.int 1)) (.Iy "_law_draw" [.var 2,.cst (.int 3)] [0])] [0]),.ite (.cmp .eq (.var 7) (.cst (.int 1))) [.set 8 (.comp 1 cc .seq [.var 8] [.cmp .gt (.Iy "_law_draw" [.var 3,.cst (.int 8)] [0]) (.cst (.int 0))] (.var 0))] [],.set 9 (.comp 1 cc .seq [.lst [.cst (.str "zzzzzzzz"),.cst (.str "a/99"),.cst (.str "q")]] [.cmp .IH (.var 0) (.var 7)] (.var 0)),.ite (.and [.cmp .eq (.Iy "_law_draw" [.var 2,.cst (.int 4)] [0]) (.cst (.int 0)),.cmp .gt (.bi .len [.var 9]) (.cst (.int 0))]) [.ins 8 (.Iy "_law_draw" [.var 2,.bin .add (.bi .len [.var 8]) (.cst (.int 1))] [0]) (.idx (.var 9) (.cst (.int 0)))] [],.set 10 (.ite (.cmp .eq (.Iy "_law_draw" [.var 2,.cst (.int 2)] [0]) (.cst (.int 1))) (.bi .tuple [.var 8]) (.bi .list [.var 8])),.set 11 (.lst [.call "_law_pictured" [.var 5,.var 8],.call "_law_suffice" [.var 5,.var 8]]),.ite (.not (.bi .all [.comp 1 cc .seq [.var 8] [] (.cmp .isin (.var 0) (.var 7))])) [.set 11 (.lst [.cst (.str "unknown"),.cst (.str "unknown")])] [],.IU cc [12] .Js [.cst (.int 2)] [.set 13 (.call "_law_asked" [.var 5,.var 10,.var 12]),.ite (.and [.cmp .eq (.var 12) (.cst (.int 1)),.cmp .ne (.idx (.var 11) (.cst (.int 1))) (.cst (.str "unknown"))]) [.ite (.or [.not (.KS (.var 13) .bool),.cmp .ne (.var 13) (.idx (.var 11) (.cst (.int 1)))]) [.ret (.cst (.bl cc))] []] [.ite (.not (.call "_law_same" [.var 13,.idx (.var 11) (.var 12)])) [.ret (.cst (.bl cc))] []]],.ite (.cmp .ne (.bi .list [.var 10]) (.var 8)) [.ret (.cst (.bl cc))] []],.ret (.cst (.bl bD))]⟩
abbrev prog:List Fn:=[lT,dy,fj,bq,c7,bx,fG,fi,iY,fN,nP,iZ,lU,jP,nQ,nR,lV,i_,nS,lW,lX,lY,gk,gT,jQ,gU,CP]
abbrev ck:Ck:=⟨(prog.filter λf=>f.io.isNone).map (·.name),[],prog.filterMap λf=>f.io.map λp=>(f.name,p.1),["Unknown"],[],[("Unknown","Lacking",cc),("Unknown","NoDeed",cc),("Unknown","NoRow",cc),("Unknown","NoText",cc),("Unknown","TooMany",cc),("Unknown","Unfit",cc),("Unknown","Unknown",bD),("Unknown","Unlearnt",cc),("Unknown","ValueError",bD)],[("Unknown","PrimerError")]⟩
def pure(ns:List Int)(B:ns.length<=63):IJ prog 9 "law" [sC ns]=a5 (.ok (.loc,.bl bD)):=by
 have j:IY prog "_law_draw" uK:=rfl;have hs:IY prog "_law_source" y0:=rfl;have e:IY prog "_law_same" nO:=rfl;have l:IY prog "_law_learnt" Ca:=rfl;have n:IY prog "_law_all" wb:=rfl;have o:IY prog "_law_pictured" Rj:=rfl;have C:IY prog "_law_suffice" Uj:=rfl;have hk:IY prog "_law_asked" s9:=rfl;have m:IY prog "_law_kind" zU:=rfl;have p:IY prog "words_of" jt:=rfl;have q:IY prog "refuse_unknown" qV:=rfl;have s:IY prog "with_pictures" Ri:=rfl;have D:IY prog "not_learnt" uP:=rfl;have G:IY prog "suffice" Fe:=rfl;have H:KL.Rg prog:=⟨rfl,rfl,rfl,rfl,rfl,rfl⟩
 have I:aZ (IJ prog 6):=sM j;have g:aZ (IJ prog 7):=sM j;have hl:IY prog "law" Aa:=rfl;rw[show IJ prog 9 "law" [sC ns]=_ from aN hl [sC ns]];show wy (zg hs) (sM j) (B1 g rfl) (zD (zg hs) g (Hb I rfl) (He rfl) rfl) (Hg g (E8 rfl) rfl) (Hw g rfl) (λws rs a=>all2 n a) (λws rs a L k W J hl N=>?_) B;have Zt:=a.rl;have LW:=a.wl;have⟨k',f⟩:=J.bw;have t:=Hr (d:=4) p q s a.z f ⋯;have w:=Hu (d:=0) H p q s D G a.z f ⋯ λ_=>by lia
 have⟨b,O,Q⟩:=Iu (d:=6) o l n C a.z (L:=L) (ws':=ws++fM) ⋯ (by rw[ia];change ws.length+3<=40;lia) (λx c=>JO _ c) λx c=>(N x c).elim (λz=>JO _ (a.z.in z)) λz=>lg _ z;have T:K_ rs L->∀r∈wp rs L,bQ ws r:=λz=>zR a.ok (λ_ h=>h) λx c=>a.z.in (z x c);show⟨Hv o ⋯ ⋯,⟨b,O,λz=>?_⟩,λz=>⟨(zW (d:=6) (i:=0) hk m f).1 (t.1 z),?_⟩,λz i=>(zW (d:=6) hk m (u:=.ID) f).2 ?_,zA e _⟩
 .have⟨Y,g1,g2⟩:=w.1 z;have:Y=b:=D7.mpr (g2.trans (Q z).symm);subst this;show(zW (d:=6) (i:=1) hk m f).1 g1
 .have YU:=zQ (rs:=rs) (L:=L);show zB e (by rw[c4];lia) (bP _) λu hu=>?_;have⟨r,l,rfl⟩:=js.mp hu;have h8:=(T z r l).2.2.2;show zB e (by simp) (by change(bD&&(cH (r.2.map U.str)&&bD))=bD;rw[dR];rfl) λv hv=>?_;rcases d3.mp hv with rfl|hv
  .show zA e _
  .rw[hV]at hv;subst hv;show zB e (by rw[c4];lia) (dR _) λx c=>?_;obtain⟨y,_,rfl⟩:=js.mp c;show zA e _
 .by_cases A:(i==0)=bD
  .rw[ĝ A];show t.2 z
  .rw[Ğ A];show w.2 z
end K
namespace K
open PySem L2 TM PySem.W PyProof.Rows
abbrev m0:df:=.str "primer.books" 335
abbrev m1:df:=.str "primer.learning" 364
abbrev m2:df:=.str "primer.pictures" 412
abbrev m3:df:=.str "law_primer_k41_with_pictures" 428
abbrev ml:Me:=⟨CP,40,["_law_script","_law_left","_law_query","_law_source_here","_law_words_here","_law_book_here","_law_known","_law_turn","_law_some_here","_law_strange","_law_handed","_law_dues","_law_way","_law_found"],292,291,m3,co "law" 568 219 1 288 289 .none .none (.ref 290) 571 572 181⟩
abbrev ms:List Me:=[⟨lT,11,["book","words","row"],130,129,m0,co "words_of" 337 21 1 124 125 (.ref 126) (.ref 127) (.ref 128) 343 344 181⟩,
 ⟨dy,12,["pairs","found","key","value"],137,136,m0,co "gathered" 346 27 1 131 132 (.ref 133) (.ref 134) (.ref 135) 353 354 181⟩,
 ⟨fj,13,["book","words"],144,143,m0,co "refuse_unknown" 356 34 2 138 139 (.ref 140) (.ref 141) (.ref 142) 361 362 181⟩,
 ⟨bq,15,["book","pairs","place","row"],149,148,m1,co "places_that_tell" 366 38 1 145 146 .none .none (.ref 147) 369 370 181⟩,
 ⟨c7,16,["book","places","known","steps","place","word"],156,155,m1,co "new_steps" 372 43 3 150 151 (.ref 152) (.ref 153) (.ref 154) 381 382 181⟩,
 ⟨bx,17,["book","tellers","missing","known","found","ready","steps","word","place","teller"],161,160,m1,co "steps_in_rounds" 384 50 1 157 158 .none .none (.ref 159) 387 388 181⟩,
 ⟨fG,18,["book","found","steps"],168,167,m1,co "order" 390 68 1 162 163 (.ref 164) (.ref 165) (.ref 166) 396 397 181⟩,
 ⟨fi,19,["book"],173,172,m1,co "learnt" 399 73 1 169 170 .none .none (.ref 171) 402 403 181⟩,
 ⟨iY,20,["book"],180,179,m1,co "not_learnt" 405 75 1 174 175 (.ref 176) (.ref 177) (.ref 178) 409 410 181⟩,
 ⟨fN,22,["book","words","pictured","row"],185,184,m2,co "with_pictures" 414 78 2 181 182 .none .none (.ref 183) 417 418 181⟩,
 ⟨nP,23,["book","words"],192,191,m2,co "suffice" 420 85 2 186 187 (.ref 188) (.ref 189) (.ref 190) 425 426 181⟩,
 ⟨iZ,25,["_law_left","_law_k","_law_cell"],199,198,m3,co "_law_source" 430 88 2 193 194 (.ref 195) (.ref 196) (.ref 197) 436 437 181⟩,
 ⟨lU,26,["_law_source_here","_law_many","_law_number","_law_turn","_law_mixed"],206,205,m3,co "_law_draw" 439 93 2 200 201 (.ref 202) (.ref 203) (.ref 204) 447 448 181⟩,
 ⟨jP,27,["_law_source_here","_law_letters","_law_many","_law_base","_law_way","_law_size","_law_first","_law_words_here","_law_k","_law_word","_law_sense"],211,210,m3,co "_law_words" 450 102 1 207 208 .none .none (.ref 209) 453 454 181⟩,
 ⟨nQ,28,["_law_source_here","_law_words_here","_law_at","_law_below","_law_told","_law_k","_law_one"],218,217,m3,co "_law_row" 456 123 4 212 213 (.ref 214) (.ref 215) (.ref 216) 466 467 181⟩,
 ⟨nR,29,["_law_rows","_law_row_here","_law_other"],225,224,m3,co "_law_lay" 469 132 2 219 220 (.ref 221) (.ref 222) (.ref 223) 475 476 181⟩,
 ⟨lV,30,["_law_left","_law_source_here","_law_words_here","_law_rows","_law_way","_law_k","_law_at","_law_more"],232,231,m3,co "_law_book" 478 137 3 226 227 (.ref 228) (.ref 229) (.ref 230) 489 490 181⟩,
 ⟨i_,31,["_law_book_here","_law_known","_law_fell","_law_word","_law_told"],237,236,m3,co "_law_learnt" 492 149 1 233 234 .none .none (.ref 235) 495 496 181⟩,
 ⟨nS,32,["_law_book_here","_law_met","_law_word","_law_told","_law_one"],244,243,m3,co "_law_all" 498 159 1 238 239 (.ref 240) (.ref 241) (.ref 242) 506 507 181⟩,
 ⟨lW,33,["_law_found","_law_due"],249,248,m3,co "_law_same" 509 166 2 245 246 .none .none (.ref 247) 512 513 181⟩,
 ⟨lX,34,["_law_e","_law_some_here"],256,255,m3,co "_law_kind" 515 180 1 250 251 (.ref 252) (.ref 253) (.ref 254) 520 521 181⟩,
 ⟨lY,35,["_law_query","_law_known","_law_share","_law_pool","_law_some_here","_law_k","_law_word"],263,262,m3,co "_law_some" 523 186 3 257 258 (.ref 259) (.ref 260) (.ref 261) 533 534 181⟩,
 ⟨gk,36,["_law_book_here","_law_words_here","_law_heads"],268,267,m3,co "_law_pictured" 536 194 2 264 265 .none .none (.ref 266) 539 540 181⟩,
 ⟨gT,37,["_law_book_here","_law_words_here"],275,274,m3,co "_law_suffice" 542 197 2 269 270 (.ref 271) (.ref 272) (.ref 273) 547 548 181⟩,
 ⟨jQ,38,["_law_book_here","_law_words_here","_law_way","_law_found","_law_caught","_law_e"],282,281,m3,co "_law_asked" 550 199 3 276 277 (.ref 278) (.ref 279) (.ref 280) 559 560 181⟩,
 ⟨gU,39,["_law_source_here","_law_book_here","_law_share","_law_heads","_law_pool","_law_more","_law_k","_law_word"],287,286,m3,co "_law_widened" 562 207 2 283 284 .none .none (.ref 285) 565 566 181⟩,
 ml]
abbrev gg(P:Vy):Obj:=⟨.type "dict",b8,.dict #[ge P "__name__" 165 (.str "law_primer_k41_with_pictures" 428),ge P "__doc__" 166 .none,ge P "__package__" 167 .none,ge P "__loader__" 168 (.builtin "__main__.__loader__#opaque"),ge P "__spec__" 169 .none,ge P "__annotations__" 170 (.ref 6),ge P "__builtins__" 171 (.ref 4),ge P "__file__" 173 (.str "/claim/cut.py" 172),ge P "__cached__" 174 .none,ge P "PrimerError" 206 (.ref 24),ge P "NoText" 222 (.ref 37),ge P "Unfit" 238 (.ref 49),ge P "Unknown" 254 (.ref 61),ge P "Unlearnt" 270 (.ref 73),ge P "TooMany" 286 (.ref 85),ge P "Lacking" 302 (.ref 97),ge P "NoRow" 318 (.ref 109),ge P "NoDeed" 334 (.ref 121),ge P "words_of" 345 (.ref 130),ge P "gathered" 355 (.ref 137),ge P "refuse_unknown" 363 (.ref 144),ge P "places_that_tell" 371 (.ref 149),ge P "new_steps" 383 (.ref 156),ge P "steps_in_rounds" 389 (.ref 161),ge P "order" 398 (.ref 168),ge P "learnt" 404 (.ref 173),ge P "not_learnt" 411 (.ref 180),ge P "with_pictures" 419 (.ref 185),ge P "suffice" 427 (.ref 192),ge P "_law_source" 438 (.ref 199),ge P "_law_draw" 449 (.ref 206),ge P "_law_words" 455 (.ref 211),ge P "_law_row" 468 (.ref 218),ge P "_law_lay" 477 (.ref 225),ge P "_law_book" 491 (.ref 232),ge P "_law_learnt" 497 (.ref 237),ge P "_law_all" 508 (.ref 244),ge P "_law_same" 514 (.ref 249),ge P "_law_kind" 522 (.ref 256),ge P "_law_some" 535 (.ref 263),ge P "_law_pictured" 541 (.ref 268),ge P "_law_suffice" 549 (.ref 275),ge P "_law_asked" 561 (.ref 282),ge P "_law_widened" 567 (.ref 287),ge P "law" 573 (.ref 292)] 45,#[]⟩
abbrev xo(P:Vy):List (d7×Obj):=[(97,({cls:=.type "type",data:=.cls {name:="Lacking",bases:=[.ref 24],mro:=[.ref 97,.ref 24,.type "ValueError",.type "Exception",.type "BaseException",.type "object"],ns:=96,qualname:="Lacking" },slots:=#[a5 (.ref 88),b8,a5 (.str "Lacking" 287),a5 (.str "Lacking" 295),a5 (.builtin "ValueError.__new__"),a5 (.bool bD)]}:Obj)),
 (121,({cls:=.type "type",data:=.cls {name:="NoDeed",bases:=[.ref 24],mro:=[.ref 121,.ref 24,.type "ValueError",.type "Exception",.type "BaseException",.type "object"],ns:=120,qualname:="NoDeed" },slots:=#[a5 (.ref 112),b8,a5 (.str "NoDeed" 319),a5 (.str "NoDeed" 327),a5 (.builtin "ValueError.__new__"),a5 (.bool bD)]}:Obj)),
 (109,({cls:=.type "type",data:=.cls {name:="NoRow",bases:=[.ref 24],mro:=[.ref 109,.ref 24,.type "ValueError",.type "Exception",.type "BaseException",.type "object"],ns:=108,qualname:="NoRow" },slots:=#[a5 (.ref 100),b8,a5 (.str "NoRow" 303),a5 (.str "NoRow" 311),a5 (.builtin "ValueError.__new__"),a5 (.bool bD)]}:Obj)),
 (37,({cls:=.type "type",data:=.cls {name:="NoText",bases:=[.ref 24],mro:=[.ref 37,.ref 24,.type "ValueError",.type "Exception",.type "BaseException",.type "object"],ns:=36,qualname:="NoText" },slots:=#[a5 (.ref 28),b8,a5 (.str "NoText" 207),a5 (.str "NoText" 215),a5 (.builtin "ValueError.__new__"),a5 (.bool bD)]}:Obj)),
 (24,({cls:=.type "type",data:=.cls {name:="PrimerError",bases:=[.type "ValueError"],mro:=[.ref 24,.type "ValueError",.type "Exception",.type "BaseException",.type "object"],ns:=23,qualname:="PrimerError",subclasses:=[.ref 37,.ref 49,.ref 61,.ref 73,.ref 85,.ref 97,.ref 109,.ref 121]},slots:=#[a5 (.ref 15),b8,a5 (.str "PrimerError" 189),a5 (.str "PrimerError" 197),a5 (.builtin "ValueError.__new__"),a5 (.bool bD)]}:Obj)),
 (85,({cls:=.type "type",data:=.cls {name:="TooMany",bases:=[.ref 24],mro:=[.ref 85,.ref 24,.type "ValueError",.type "Exception",.type "BaseException",.type "object"],ns:=84,qualname:="TooMany" },slots:=#[a5 (.ref 76),b8,a5 (.str "TooMany" 271),a5 (.str "TooMany" 279),a5 (.builtin "ValueError.__new__"),a5 (.bool bD)]}:Obj)),
 (49,({cls:=.type "type",data:=.cls {name:="Unfit",bases:=[.ref 24],mro:=[.ref 49,.ref 24,.type "ValueError",.type "Exception",.type "BaseException",.type "object"],ns:=48,qualname:="Unfit" },slots:=#[a5 (.ref 40),b8,a5 (.str "Unfit" 223),a5 (.str "Unfit" 231),a5 (.builtin "ValueError.__new__"),a5 (.bool bD)]}:Obj)),
 (61,({cls:=.type "type",data:=.cls {name:="Unknown",bases:=[.ref 24],mro:=[.ref 61,.ref 24,.type "ValueError",.type "Exception",.type "BaseException",.type "object"],ns:=60,qualname:="Unknown" },slots:=#[a5 (.ref 52),b8,a5 (.str "Unknown" 239),a5 (.str "Unknown" 247),a5 (.builtin "ValueError.__new__"),a5 (.bool bD)]}:Obj)),
 (73,({cls:=.type "type",data:=.cls {name:="Unlearnt",bases:=[.ref 24],mro:=[.ref 73,.ref 24,.type "ValueError",.type "Exception",.type "BaseException",.type "object"],ns:=72,qualname:="Unlearnt" },slots:=#[a5 (.ref 64),b8,a5 (.str "Unlearnt" 255),a5 (.str "Unlearnt" 263),a5 (.builtin "ValueError.__new__"),a5 (.bool bD)]}:Obj)),
 (96,({cls:=.type "dict",data:=.dict #[{hash:=hW P "__module__",key:=.str "__module__" 294,val:=.str "primer.errors" 187},{hash:=hW P "__firstlineno__",key:=.str "__firstlineno__" 298,val:=.int 14 297},{hash:=hW P "__static_attributes__",key:=.str "__static_attributes__" 299,val:=.ref 95},{hash:=hW P "__doc__",key:=.str "__doc__" 300,val:=.none}] 2}:Obj)),
 (120,({cls:=.type "dict",data:=.dict #[{hash:=hW P "__module__",key:=.str "__module__" 326,val:=.str "primer.errors" 187},{hash:=hW P "__firstlineno__",key:=.str "__firstlineno__" 330,val:=.int 18 329},{hash:=hW P "__static_attributes__",key:=.str "__static_attributes__" 331,val:=.ref 119},{hash:=hW P "__doc__",key:=.str "__doc__" 332,val:=.none}] 2}:Obj)),
 (108,({cls:=.type "dict",data:=.dict #[{hash:=hW P "__module__",key:=.str "__module__" 310,val:=.str "primer.errors" 187},{hash:=hW P "__firstlineno__",key:=.str "__firstlineno__" 314,val:=.int 16 313},{hash:=hW P "__static_attributes__",key:=.str "__static_attributes__" 315,val:=.ref 107},{hash:=hW P "__doc__",key:=.str "__doc__" 316,val:=.none}] 2}:Obj)),
 (36,({cls:=.type "dict",data:=.dict #[{hash:=hW P "__module__",key:=.str "__module__" 214,val:=.str "primer.errors" 187},{hash:=hW P "__firstlineno__",key:=.str "__firstlineno__" 218,val:=.int 4 217},{hash:=hW P "__static_attributes__",key:=.str "__static_attributes__" 219,val:=.ref 35},{hash:=hW P "__doc__",key:=.str "__doc__" 220,val:=.none}] 2}:Obj)),
 (23,({cls:=.type "dict",data:=.dict #[{hash:=hW P "__module__",key:=.str "__module__" 196,val:=.str "primer.errors" 187},{hash:=hW P "__firstlineno__",key:=.str "__firstlineno__" 200,val:=.int 2 199},{hash:=hW P "__static_attributes__",key:=.str "__static_attributes__" 201,val:=.ref 22},{hash:=hW P "__weakref__",key:=.str "__weakref__" 203,val:=.ref 25},{hash:=hW P "__doc__",key:=.str "__doc__" 204,val:=.none}] 3}:Obj)),
 (84,({cls:=.type "dict",data:=.dict #[{hash:=hW P "__module__",key:=.str "__module__" 278,val:=.str "primer.errors" 187},{hash:=hW P "__firstlineno__",key:=.str "__firstlineno__" 282,val:=.int 12 281},{hash:=hW P "__static_attributes__",key:=.str "__static_attributes__" 283,val:=.ref 83},{hash:=hW P "__doc__",key:=.str "__doc__" 284,val:=.none}] 2}:Obj)),
 (48,({cls:=.type "dict",data:=.dict #[{hash:=hW P "__module__",key:=.str "__module__" 230,val:=.str "primer.errors" 187},{hash:=hW P "__firstlineno__",key:=.str "__firstlineno__" 234,val:=.int 6 233},{hash:=hW P "__static_attributes__",key:=.str "__static_attributes__" 235,val:=.ref 47},{hash:=hW P "__doc__",key:=.str "__doc__" 236,val:=.none}] 2}:Obj)),
 (60,({cls:=.type "dict",data:=.dict #[{hash:=hW P "__module__",key:=.str "__module__" 246,val:=.str "primer.errors" 187},{hash:=hW P "__firstlineno__",key:=.str "__firstlineno__" 250,val:=.int 8 249},{hash:=hW P "__static_attributes__",key:=.str "__static_attributes__" 251,val:=.ref 59},{hash:=hW P "__doc__",key:=.str "__doc__" 252,val:=.none}] 2}:Obj)),
 (72,({cls:=.type "dict",data:=.dict #[{hash:=hW P "__module__",key:=.str "__module__" 262,val:=.str "primer.errors" 187},{hash:=hW P "__firstlineno__",key:=.str "__firstlineno__" 266,val:=.int 10 265},{hash:=hW P "__static_attributes__",key:=.str "__static_attributes__" 267,val:=.ref 71},{hash:=hW P "__doc__",key:=.str "__doc__" 268,val:=.none}] 2}:Obj))]
abbrev gx(P:Vy):Gx:=(gg P,xo P)
abbrev xa:List d7:=[97,121,109,37,24,85,49,61,73,96,120,108,36,23,84,48,60,72]
abbrev vw:u7:=view PySem.Challenge.pw_primer_k41_with_pictures [11,12,13,15,16,17,18,19,20,22,23,25,26,27,28,29,30,31,32,33,34,35,36,37,38,39,40]
abbrev hk:Hook:=kHook (λP=>KC top (gx P) ms) (adr ms xa) λP=>uw top (gx P) ms xa rfl
def hl:LeftO PySem.Challenge.rw_primer_k41_with_pictures.row.prog vw ["PrimerError","NoText","Unfit","Unknown","Unlearnt","TooMany","Lacking","NoRow","NoDeed"] (λs=>xlAt vw [] s&&recOk (RowW.records PySem.Challenge.rw_primer_k41_with_pictures.row.toRowW) s) hk.obs hk.val 4000:=λw=>by kernel_rfl
def hs:PySem.Challenge.rw_primer_k41_with_pictures.wellSaid=bD:=by kernel_rfl
def ho(P:Vy):Ny ck top (KC top (gx P) ms) ms=bD:=by kernel_rfl
def YV(P:Vy):(gX ck (KC top (gx P) ms)&&gY ck (KC top (gx P) ms))=bD:=by kernel_rfl
end K
open PySem PySem.W PyProof.Rows K
theorem PySem.Challenge.cw_primer_k41_with_pictures_holds : PySem.Challenge.rw_primer_k41_with_pictures.Holds := by
 w_on
 refine holds_law hs λz => ?_;refine holds_open hl hk.of hk.keeps (λs e => xl_of s (x2.mp e).1) XL.keeps rfl rfl rfl (λs e => recFacts_of (x2.mp e).2) rfl z (by kernel_rfl) ⟨rfl, rfl, rfl, rfl, rfl, by decide +kernel⟩ ?hw ?a
 (case hw => w_witness2)
 exact TM.walk2 (l := PySem.Challenge.rw_primer_k41_with_pictures) (Pg := prog) (ck := ck) (dp := 8) (x := "_law_script") (m := ml) rfl rfl ⟨rfl, by decide, by decide, rfl⟩ rfl (by decide +kernel) (by decide +kernel) rfl (SN.mpr ⟨26, rfl⟩) rfl rfl ho YV (λ_ => rfl) K.pure
