import PyProof.Rows.All
import Wide.All
import OpenK.AllK
import Wide.FinOn
import Lean
import PyProof.EqAt
import PyProof.EqKinds
import PyProof.TupleCall
import PyProof.StrLawsChain
import PyProof.StrLawsFirst
import PyProof.Rows.StrNews2
import OpenK.AllK
import PySem.SetOps
import PyProof.ZipIter
import PyProof.DictItems
import OpenK.AllK
import PyProof.ReprBulk
import PySem.Challenge.RW_primer_k44_whole_paper_gone_along
set_option Elab.async false
set_option linter.all false
set_option bootstrap.genMatcherCode false
set_option maxRecDepth 100000
set_option maxHeartbeats 4000000
set_option genInjectivity false
set_option genSizeOf false
set_option autoImplicit true
set_option relaxedAutoImplicit true
open Option renaming some->bD,none->cb,map_eq_some_iff->hA,bind_eq_some_iff->r6,isNone_iff_eq_none->QL,isSome_iff_exists->Q5,map_eq_none_iff->Rk,map_some->RH,isSome_map->T1,getD_none->YW
open PySem renaming wpAny_bind->b5,sizeLine->dV,wpAny_pure->d3,Value->et,wpAny->ez,Shared->hH,Addr->hU,model->hW,starEach->i9,wpAny_setState_of->my,Expr->nz,wpAny_mono->uv,wpAny_holding->ux,rawInt->vr,wpAny_Call_Name_kw->wh,bootBuiltins->wk,Program->Hr,wpAny_call_entry->Hz,eval->HD,wpAny_newObj_type->HK,World->IT,scanBound->Ja,backTo->Jx,isSubtype_type->JF,Heap->J3,mainGlobals->Ka,wpAny_seqItems->Ks,wpAny_field->KA,wpAny_callSpecial?_slot->KJ,wpAny_isInstance->Lj,cLine->Lk,compareOp->LJ,codeAny_builtin->LS,wpAny_truthy_bool->LV,keywordEach->LW,foldedSetIterable->LY,wpAny_rule->L_,holding->Mr,wpAny_setField->Mz,Scope->ME,Around->MH,wpAny_setField_rec->MW,wpAny_pyIter_tuple->MZ,sysModules->M4,Builtin->M5,wpAny_passesOwn->M',Stmt->Nb,builtinLookup_eq_fast->Nf,Keyword->Ni,call->N0,binaryOp->N',SetTable->Oh,NameKind->Oo,tupleKind_room_in1->OM,assignEach->ON,IsPair->OQ,wpAny_getItem_str_slice->Pc,isSubtype->Pd,backToKw->Po,wpAny_askSetting->Qb,swapsWith->Qi,pyNext->Qk,swapsWithSole->Qx,codeAny->Qy,behindInMarks->Qz,sliceBounds->QA,wpAny_updateSeq->QO,typeLookup_type->QP,wpAny_setEntries_of->QW,assign->Rf,FuncData->Rg,wpAny_pyIter_list->RM,plainId_quiet->RS,attributeBase->RZ,wpAny_Call_method0_late->R',setItem->SH,relabel->SM,codeAny_mono->SN,callerA->SQ,wpAny_specialOf->Tf,wpAny_loadPart'->Tg,post_val_or_str->Th,letOwnedTupleGo->Ti,call_isinstance->Tr,wpAny_updateSeq_pair->T3,isSubtype_stop->T7,firstArgMember->T',IsZip->Ua,tupleKind->Ui,notedBy->Uj,wpAny_onRaise->Uy,wpAny_attempt->Uz,swappedStores->UC,typeLookup->UQ,call_meets->U1,wpAny_typeOf->Vr,wpAny_storeSet_of->Vt,wpAny_setEpoch_of->Vu,wpAny_pyIter_enum->Vv,valueAt->Vw,sub_set_self->Vx,setNext->Vy,setField->VE,release->VF,getItem->VH,fits_of_scanBound->VI,concat_meets->VM,compEnvC->VZ,call_meetsIn->V5,seqIndex?->WE,pickOrder->WG,noFill_tuple_add->WJ,PassesOwn->WK,wpAny_of_eq->WY,wpAny_letGo->WZ,unsupported->W0,subscripted->W2,wpAny_execs_nil->XI,standAt->XO,wpAny_runValue->X2,typeIs_str->X3,relayAll->X4,raiseNew->X6,pyIter->X7,field->X8,entryFor_alias->X9,atKey->X_,wpAny_standAt->Yn,wpAny_newList->Ys,wpAny_comprehension_free->Yu,seq_tuple_add->Yv,seqItems?->YQ,bindL->YR,bindC->YS,wpAny_Call_method_late->Y1,setNextDrawn->Y2,newExc->Y3,collect->Y4,Params->Y8,IsEnum->Y9,BindsTo->Y',wpAny_nextOf_list_end->Zh,wpAny_isTrue_Compare1->Zi,wpAny_loadName_local->Zq,step->Zr,seqIndex_of->Zs,entryFor->Zt,codeAny_extend_loopS->Zu,Operator->Zv,GenState->Zw,wpAny_loadName_cell->ZJ,wpAny_load->ZQ,wpAny_Name->ZR,typeOf->ZS,setsByText->ZT,builtinsNs->ZU,WalksS->ZV,JoinOk->ZX,wpAny_pyIter_slot->Z6,wpAny_assign_Name->Z7,spliced->Z8,slot_list_getitem->Z9,newList->Z_,ItemsOf->Ä,Draws->È,wpAny_setScan_of->Ë,wpAny_pyIter_zip->Ì,wpAny_eqBool_str->Í,wpAny_eqBool_int->Î,updateSeq->Ï,storeName->Ð,setDiscardHashed->Ñ,rule->Ò,meets_dict_items->Ó,cellsFrom->Ô,codeAny_of_tree->ß,wpAny_newTuple->æ,truthy->ç,recursionLimit->è,newTuple->é,bindArgs->ê,augStore->ë,argsOk->ì,again->í
open Bool renaming true->b6,false->cK,and_eq_true->cL,false_ne_true->k8,not_eq_true'->x2,and_eq_true_iff->IH,eq_iff_iff->JB,false_eq_true->Lh,or_eq_true->Lp,and_false->SA,or_false->XG,false_and->ZP,not_true->Z3,and_true->Z4,and_self->Z5
open PySem.Heap renaming get?_push_of_some->cc,lt_size->eH,get?_push_size->gj,SameBut->qs,get?_update_self->u3,get?_update_other->Ms,get?_update_ne->N6,size_push->Sq,ExtBut->Yg,IsTuple->Å
open Decidable renaming decide->df
open List renaming length_map->dt,getElem?_eq_some_iff->eh,getElem?_set_self->fx,mem_cons->gc,map_cons->gs,size_toArray->hZ,range->ix,mem_singleton->i0,map_map->i4,nil_append->i6,length_append->i7,getElem?_set_ne->i8,mem_map->ke,replicate->ki,mem_append->kj,getElem?_map->ko,length_cons->k7,mem_filter->lg,map_append->l0,mem_append_right->mh,all_eq_true->mx,nodup_cons->mA,length_filter_le->nC,mem_cons_self->nH,mem_of_getElem?->oT,getElem?_eq_getElem->ri,getElem?_append_right->rr,mem_cons_of_mem->td,nodup_append->ti,map_congr_left->ts,lookup_cons->t4,append_nil->u7,not_mem_nil->va,getElem?_append_left->vl,mem_range->vu,perm_ext_iff_of_nodup->DD,mem_append_left->D',filter_sublist->Hs,length_take->HY,length->H8,isEmpty_iff->IA,filter_cons->ID,length_range->Js,length_singleton->JY,getElem?_replicate->Km,map_nil->KS,getElem_mem->KX,getElem?_drop->K',filterMap_cons->L8,ext_getElem->L9,take_of_length_le->Mt,filter_eq_nil_iff->Mx,filter_append->My,find?_cons->MJ,getD->NF,filter_eq_self->N_,zip_cons_cons->OC,filter_cons_of_pos->OF,filter_cons_of_neg->OH,length_replicate->Pk,getElem?_eq_none->Pn,map->PM,of_mem_zip->P8,forIn_cons->P9,filter_nil->P_,getElem_of_mem->Qo,pairwise_cons->QN,reverse_cons->Q8,filter_congr->Q9,append_assoc->Q_,length_eq_zero_iff->Rm,getElem?_cons_succ->Rn,eraseIdx_cons_succ->Ro,all_map->RP,length_zip->R0,foldl_cons->R4,mem_iff_getElem?->R8,nodup_nil->Sx,getElem?_zipIdx->Sy,forIn_nil->Sz,length_reverse->TH,any_cons->TK,findIdx?_eq_some_iff_getElem->Ue,flatten_cons->Uo,eraseIdxIfInBounds_toArray->Ux,zipIdx_cons->UM,any_eq_true->UP,map_id->U2,length_nil->Vl,drop_left'->Vo,dropLast_concat_getLast->Vp,getD_eq_getElem?_getD->Ww,getElem?_zip_eq_some->WO,findIdx?_eq_none_iff->WW,drop_eq_getElem_cons->WX,length_erase_of_mem->Xd,getElem?_take_of_lt->Xe,findIdx?->Xx,length_pos_of_mem->X0,length_eq_one_iff->X1,dropLast_eq_take->Yb,mem_iff_getElem->Yi,mem_erase_of_ne->Yl,length_eraseIdx->Ym,mem_map_of_mem->YL,flatten_append->YM,mem_filterMap->YX,map_singleton->YY,filter_filter->YZ,take_sublist->Zf,ext_getElem?->Zg,map_fst_zip->Zk,length_drop->Zl,getElem_map->Zm,getElem_inj->Zn,drop_length->Zo,cons_append->Zp,zipIdx_nil->ZF,zipIdx_map->ZG,range_succ->ZH,length_set->ZI,zip_map'->Z1,all_cons->Z2,range'->Ü
open Nat renaming ne_of_lt->hY,le_refl->i5,zero_le->js,lt_of_lt_of_le->kr,ne_of_gt->u5,le_trans->u6,lt_irrefl->ve,le_succ->Lw,lt_succ_self->N2,zero_add->OR,lt_succ_of_lt->OY,le_of_lt->O3,lt_trans->Uw,mod_lt->WM,add_sub_cancel_left->XT,succ_pos->X',le_of_eq->Ya,pow_le_pow_right->YD,lt_of_le_of_lt->Ze,not_lt_of_lt->ZD,le_of_not_lt->ZE,pow_succ->Ù,lt_or_ge->Ú,add_zero->Û
open Array renaming length_toList->i3,getElem?_toList->sx,getElem?_eq_getElem->NY,size_map->QG,getD->TN,forIn_toList->TX,size_append->Ug,toList->XN,toList_extract->Yc,toArray_toList->Yd,toList_push->Y0
open PySem.Value renaming ref->mu,none->ro,type->sL,str->u4,bool->QD,isStrOf->Tx,isStrOf_shape->Ye,int->Y5,isInt->Á
open Sum renaming inr->nc,inl->Up
open PySem.Builtin.SmallTypes renaming nextOf->qk,ownedTupleIsFree->J',ownedTupleHandOut->QK
open PySem.Obj renaming mapSeq->rz,data_mapFields->MG,putSet->OD,isFreed_of_fields->Sj,cls_mapFields->Uv,mapFields->Â
open Ne renaming symm->tj
open Option.some renaming inj->tr,injEq->P4
open PySem.Builtin.List renaming listExtendWith->tA,listTooLong->K2,listSameRef->M6,listLengthHint->TJ,listItems->UD,listUpdate->á
open PySem.Str renaming empty->uk,ofString->N1,length->î
open PySem.SetTable.layClean renaming free->w6
open Int renaming eq_ofNat_of_zero_le->x3,toNat_natCast->M_,emod_nonneg->Qq,emod_lt_of_pos->QT,le_trans->Þ
open PySem.Heap.SameBut renaming update->HN,refl->J1
open PyProof.Rows renaming seqObj->HX,callWith_type1->Kj,size_push'->KW,StrsAre->Pp,callWith_builtin1->Sw,envOfC->Ta,AllBare->Tb,subscriptTail->UE,listUpdate_at->UK,subscriptTail_builtinR->Za,listItems_at->Zb,IntsAre->Zd,seqEpoch_at->ZC,sortedHeap->ZZ,Subscript_->Z0,slot_str_getitem->Ø,get?_update_seq->â,entry_list_sort->ã,call_isinstance_yes->ä,sortedHeap_old->ð,slot_list_sort->ñ,isTrue_and_nil->ò,args_list_sort->ó,IsTup->ô
open PySem.Calls renaming callWith_builtin->Jl,evalArgs_plain->Nc,spliced_cons->Ox,spliced_nil->Q2,Name_function_global->Wd,call_function_entry->Wn
open PySem.Builtin.Frozenset renaming isAnySet->Kb,difference->Oy,sizeOf->Ph,differenceUpdate->Q7,unchanged->R7,copyOf->SV,baseOf->SW,addrOf->S_,slot1->TB,updateFrom->Zy,slot0->Zz,newClass->ZA
open PySem.SetTable renaming sizeAbove->KQ,below->LG,grown->MK,bits->Nh,eraseAt->OJ,turns->PN,layClean->QE,fits->QJ,laid->Sg,runEnd->Uk,relaid->Ul,fill->U3,orStandIn->XR,fresh->YU,leap->Y6,drop->Y7
open Classical renaming byContradiction->K1,propDecidable->Vq
open List.Perm renaming refl->LC,swap->YN,cons->YP
open PySem.NameKind renaming free->Mo
open PyProof.Rows.F renaming plain_set_update_loop->MI,entry_set_update_loop->Rc
open PySem.Around renaming under_plainId->M8
open PySem.W renaming kas_sort->Na,kas_ask->Z'
open False renaming elim->Nd
open PySem.AutoSeq1 renaming wpAny_loadPart'->Np,sub_tuple_tuple->Vk,sub_tuple_list->We,sub_list_tuple->Wk,sub_list_list->Wo,idx_int->Yh
open List.cons renaming injEq->NO
open ForInStep renaming yield->NV
open LT renaming lt->Py
open PySem.Shared renaming TypeIs->QX,heap->XQ
open PySem.SeqAt renaming EqAt->RC,ne_of_list_tuple->XJ,RcAt->Yw,RcNeAt->ZW
open ToString renaming toString->R_
open PySem.Data renaming fields->Sv,cell->XM
open PySem.Txt renaming join->SR
open Sum.inr renaming inj->Uh
open PySem.pickOrder renaming go->VG
open PySem.SetTable.below renaming go->V6
open Prod.mk renaming injEq->Wl
open True renaming intro->Wm
open List.Nodup renaming sublist->XB
open PySem.PassesOwn renaming never->Yf
open PySem.Draws renaming list->YC
open PySem.Code renaming quiet_builtin->YV
open PySem.F renaming args_list_extend_2->Y_,entry_list_extend->Zj,slot_list_extend->Zx,entry_list_pop->ZY,slot_list_pop->Ç
open PyProof.Rows.IsTup renaming new->Zc
open PySem.ItemsOf renaming nil->ZK
open PyProof.Rows.LSm renaming range_all->ZL,kept_iter->ZM
open Prod renaming fst->ZN,ext->ZO
open PySem.W.WShape renaming has->À
open PySem.Moved renaming trans->Ã
open PySem.Heap.IsSliceOf renaming new->Æ
open LE renaming le->É
open ForIn renaming forIn->Ê
open PySem.Walks renaming list->Õ
open PySem.Builtin.Range renaming rangeSize->Ö
open List.Pairwise renaming nil->Ý
open PySem.W.WData renaming int->à
open List.Sublist renaming refl->å
open PySem.Heap.DictOf renaming new->ï
abbrev õ:=@decide_eq_true_eq
abbrev ö:=@if_pos
abbrev ø:=@if_neg
abbrev ù:=@decide_eq_false
abbrev ú:=@decide_eq_true
abbrev û:=@of_decide_eq_true
abbrev ü:=@congrArg
local macro_rules|`(def $a:declId $b* : $t :=$v)=>`(theorem $a:declId $b* : $t :=$v)
local macro_rules|`(abbrev $a:declId $b:optDeclSig $c:declVal)=>`(noncomputable def $a:declId $b:optDeclSig $c:declVal)
local macro_rules|`(tactic|show $t)=>`(tactic|refine $t)
local macro_rules|`(tactic|have⟨$a,*⟩:=$t)=>do let p<-a.getElems.mapM fun x=>`(Lean.Parser.Tactic.rcasesPatLo|$(⟨x⟩):ident);`(tactic|obtain⟨$p,*⟩:=$t)
local macro_rules|`(⋯)=>`(by lia)
local macro_rules|`(∅)=>`(by(first|exact trivial|exact⟨⟨_,rfl,rfl⟩,trivial⟩|exact⟨⟨_,rfl,rfl⟩,⟨_,rfl,rfl⟩,trivial⟩))
namespace L2
open PySem PySem.Spec PyProof.Rows
@[reducible]def Key:=Sum Int Str
abbrev jz:Key->et->Bool
 |.inl k,v=>Á k v
 |.inr x,v=>Tx x v
abbrev Gn(w:IT):Key->Int
 |.inl k=>hashInt k
 |.inr x=>hashStr w x
theorem br:∀{k:Key}{v:et},jz k v=b6->(∃i t,k=Up i/\v=Y5 i t)\/(∃x t,k=nc x/\v=u4 x t)
 |.inl i,v,h=>by
  have⟨t,e⟩:=Value.isInt_shape (k:=i) (v:=v) h;show .inl ⟨i,t,rfl,e⟩
 |.inr x,v,h=>by
  have⟨t,e⟩:=Ye (x:=x) (v:=v) h;show .inr ⟨x,t,rfl,e⟩
def uU(i:Int)(t:Tok):jz (.inl i) (.int i t)=b6:=by simp[jz,Á]
def uV(x:Str)(t:Tok):jz (.inr x) (.str x t)=b6:=by simp[jz,Tx]
def Cw(a b:Int):df ((Up a:Key)=Up b)=(a==b):=by
 by_cases e:a=b
 .subst e;simp
 .have h:¬(Up a:Key)=Up b:=λq=>e (Sum.inl.inj q);rw[ù h];show(beq_eq_false_iff_ne.mpr e).symm
def Cy(a b:Str):df ((nc a:Key)=nc b)=df (a=b):=by
 by_cases e:a=b
 .subst e;simp
 .have h:¬(nc a:Key)=nc b:=λq=>e (Uh q);rw[ù h,ù e]
def Cz(a:Int)(b:Str):df ((Up a:Key)=nc b)=cK:=ù (λq=>nomatch q)
def CA(a:Str)(b:Int):df ((nc a:Key)=Up b)=cK:=ù (λq=>nomatch q)
abbrev aS(prog:Hr)(w:IT):PySem.KeyKind prog w Key where
 is:=jz
 hash:=Gn w
 inj:=λv a b g f=>by
  rcases br g with⟨i,t,rfl,rfl⟩|⟨x,t,rfl,rfl⟩
  .rcases br f with⟨j,u,rfl,e⟩|⟨y,u,rfl,e⟩
   .injection e with c _;rw[c]
   .show nomatch e
  .rcases br f with⟨j,u,rfl,e⟩|⟨y,u,rfl,e⟩
   .show nomatch e
   .injection e with c _;rw[c]
 byValue:=λk v h=>by
  rcases br h with⟨i,t,rfl,rfl⟩|⟨x,t,rfl,rfl⟩<;>rfl
 pyHash:=λd h=>by
  rcases br d with⟨i,t,rfl,rfl⟩|⟨x,t,rfl,rfl⟩
  .show wpAny_pyHash_int h
  .show wpAny_pyHash_str h
 eqBool:=λl d h=>by
  rcases br l with⟨i,t,rfl,rfl⟩|⟨x,t,rfl,rfl⟩
  .rcases br d with⟨j,u,rfl,rfl⟩|⟨y,u,rfl,rfl⟩
   .rw[Cw]at h;show Î h
   .rw[Cz]at h;show SeqAt.EqAt.int_str i t y u _ _ _ _ h
  .rcases br d with⟨j,u,rfl,rfl⟩|⟨y,u,rfl,rfl⟩
   .rw[CA]at h;show SeqAt.EqAt.str_int x t j u _ _ _ _ h
   .rw[Cy]at h;show Í h
 «strs»:=λk x t v h=>by
  rcases br h with⟨i,u,rfl,e⟩|⟨y,u,rfl,e⟩
  .show nomatch e
  .injection e with c _
   subst c;cases v<;>rfl
def pJ(prog:Hr)(w:IT)(i:Int)(t:Tok):(aS prog w).is (.inl i) (.int i t)=b6:=uU i t
def pK(prog:Hr)(w:IT)(x:Str)(t:Tok):(aS prog w).is (.inr x) (.str x t)=b6:=uV x t
inductive V where
 |Hj|bl (b:Bool)|int (i:Int)|str (x:Str)|Pq (b:Array UInt8)|Pt (b:UInt64)|ref (a:hU)|ty (n:String)
 deriving DecidableEq
def RelV:V->et->Prop
 |.Hj,u=>u=ro
 |.bl b,u=>u=QD b
 |.int i,u=>∃t,u=Y5 i t
 |.str x,u=>∃t,u=u4 x t
 |.Pq b,u=>∃t,u=Value.bytes b t
 |.Pt b,u=>∃t,u=Value.float b t
 |.ref a,u=>u=mu a
 |.ty n,u=>u=sL n
@[reducible]def Vals:List V->List et->Prop:=Paired RelV
def Vals.length(r:Vals xs us):xs.length=us.length:=Paired.length r
theorem Vals.get:∀{xs:List V}{us:List et}{i:Nat}{x:V},Vals xs us->xs[i]?=bD x->∃u,us[i]?=bD u/\RelV x u
 |_,_,_,_,.nil,e=>by simp at e
 |_,_,0,_,.cons r _,e=>by simp at e;subst e;show⟨_,rfl,r⟩
 |_,_,i+1,x,.cons _ t,e=>by
  have⟨u,a,b⟩:=Vals.get (i:=i) (x:=x) t (by simpa using e);show⟨u,by simpa using a,b⟩
theorem Vals.set(r:RelV x u):∀{xs:List V}{us:List et} (i:Nat),Vals xs us->Vals (xs.set i x) (us.set i u)
 |_,_,_,.nil=>.nil
 |_,_,0,.cons _ t=>.cons r t
 |_,_,i+1,.cons q t=>.cons q (Vals.set r i t)
theorem Vals.append:∀{xs a:List V}{us ws:List et},Vals xs us->Vals a ws->Vals (xs++a) (us++ws)
 |_,_,_,_,.nil,s=>s
 |_,_,_,_,.cons r t,s=>.cons r (Vals.append t s)
theorem Vals.take:∀{xs:List V}{us:List et} (n:Nat),Vals xs us->Vals (xs.take n) (us.take n)
 |_,_,0,_=>.nil
 |_,_,_+1,.nil=>.nil
 |_,_,n+1,.cons r t=>.cons r (Vals.take n t)
theorem Vals.drop:∀{xs:List V}{us:List et} (n:Nat),Vals xs us->Vals (xs.drop n) (us.drop n)
 |_,_,0,r=>r
 |_,_,_+1,.nil=>.nil
 |_,_,n+1,.cons _ t=>Vals.drop n t
def jQ:Option V->Option et->Prop
 |some v,bD u=>RelV v u
 |none,cb=>True
 |_,_=>False
abbrev KV{κ:Type}:List (κ×V)->List (κ×et)->Prop:=Paired λ(p:κ×V) (q:κ×et)=>p.1=q.1/\RelV p.2 q.2
abbrev kV:Key->V
 |.inl i=>.int i
 |.inr x=>.str x
inductive HO where
 |lst (xs:List V)
 |tup (xs:List V)
 |dK (kvs:List (Key×V))|dT (kvs:List (List Key×V))
 |set (S:Int->Bool) (n:Nat)
 |ins (C dx:hU) (fs:List (Str×V))
 |own (x:hU)
 |xd (fs:List (Str×V))
 |met (f x:hU)
 |QF (lo hi:Int)
 |IV (o:Obj) (u:HO)
 |Mn (ps:Array et)
 |ext (φ:J3->Prop)
@[reducible]def Hp:=hU->Option HO
abbrev upd(H:Hp)(a:hU)(o:HO):Hp:=λb=>if b=a then bD o else H b
def aA:upd H a o a=bD o:=by unfold upd;rw[ö rfl]
def ao(h:b≠a):upd H a o b=H b:=by unfold upd;rw[ø h]
def EB{H:Hp}(h:H a=bD o)(h':H b=bD u)(d:o≠u):a≠b:=by
 intro e;subst e;rw[h]at h';show d (tr h')
def bM{H:Hp}(h:H a=bD o)(h':H b=cb):a≠b:=by
 intro e;subst e;rw[h]at h';cases h'
section
variable(P:Hr)(w:IT)
def bI(H:Hp)(h:J3)(a:hU):HO->Prop
 |.lst xs=>xs.length<=dV/\∃(c:List et) (n:Nat),Vals xs c/\h.get? a=bD {cls:=.type "list",data:=.seq c.toArray n}
 |.tup xs=>xs.length<=dV/\∃c:List et,Vals xs c/\ô h a c.toArray
 |.dK kvs=>kvs.length<=dV/\(a==M4)=cK/\∃vs,KV kvs vs/\h.DictOf (aS P w) a vs
 |.dT kvs=>kvs.length<=dV/\(a==M4)=cK/\∃xs:List (List Key×hU×et),
   Paired (λ(p:List Key×V) (q:List Key×hU×et)=>p.1=q.1/\H q.2.1=bD (.tup (p.1.map kV))/\RelV p.2 q.2.2) kvs xs /\
   ∃o es ep,h.get? a=bD o/\o.ExactDict/\o.data=.dict es ep/\es.toList=xs.map (entryOfKey (Ui (aS P w)))/\(xs.map (·.1)).Nodup
 |.set S n=>h.SetOf (intKind P w) a S n
 |.ins C e d=>H e=bD (.own a)/\d.length<=1000/\e≠a/\h.get? a=bD (PySem.W.instObj C e) /\
   ∃b,h.Ns1 e b/\(∀f,jQ (d.lookup f) (b f))/\PySem.Within b (d.map (·.1))
 |.own _=>∃o,h.get? a=bD o
 |.xd d=>∃b,h.Ns1 a b/\∀f,jQ (d.lookup f) (b f)
 |.QF lo j=>∃t u v,h.get? a=bD {cls:=.type "range",data:=.fields #[.int lo t,.int j u,.int 1 v]}
 |.IV o u=>h.get? a=bD o/\bI H h a u
 |.Mn ps=>h.get? a=bD {cls:=.none,data:=.fields ps}
 |.met f x=>h.get? a=bD (PySem.W.methodObj (.ref f) (.ref x))
 |.ext φ=>φ h/\(∃o,h.get? a=bD o)/\∀g i:J3,φ g->(∀o,g.get? a=bD o->i.get? a=bD o)->φ i
abbrev IB(H:Hp)(h:J3):Prop:=∀a o,H a=bD o->bI P w H h a o
end
section
def bI.lt(x:bI P w H h a o):a<h.objs.size:=by
 cases o with
 |lst xs=>obtain⟨_,_,_,_,e⟩:=x;show eH e
 |tup xs=>obtain⟨_,_,_,p⟩:=x;show p.lt
 |set S n=>obtain⟨o,_,_,_,e,_⟩:=x;show eH e
 |ins C c b=>obtain⟨_,_,_,e,_⟩:=x;show eH e
 |own y=>obtain⟨_,e⟩:=x;show eH e
 |xd b=>obtain⟨_,⟨_,_,_,e,_⟩,_⟩:=x;show eH e
 |QF lo d=>obtain⟨_,_,_,e⟩:=x;show eH e
 |IV g u=>obtain⟨e,_⟩:=x;show eH e
 |Mn ps=>show eH (show h.get? a=bD _ from x)
 |met f y=>show eH (show h.get? a=bD _ from x)
 |ext φ=>obtain⟨_,⟨_,e⟩,_⟩:=x;show eH e
 |_=>obtain⟨_,_,_,_,o,_,_,e,_⟩:=x;show eH e
theorem Paired.CB:∀{c:List α}{d:List β},Paired F c d->(∀a b,F a b->G a b)->Paired G c d
 |_,_,.nil,_=>.nil
 |_,_,.cons r t,f=>.cons (f _ _ r) (Paired.CB t f)
def bI.gW(x:bI P w H h a o)(k:∀b u,(b=a\/H b=bD (.own a))->h.get? b=bD u->h'.get? b=bD u)
  (ho:∀b,H b=bD (.own a)->H' b=bD (.own a)) (m:∀b xs,H b=bD (.tup xs)->H' b=bD (.tup xs)):bI P w H' h' a o:=by
 induction o with
 |lst xs=>have⟨z,i,n,r,e⟩:=x;show⟨z,i,n,r,k _ _ (.inl rfl) e⟩
 |tup xs=>have⟨z,i,r,g,e,c⟩:=x;show⟨z,i,r,g,k _ _ (.inl rfl) e,c⟩
 |dK kvs=>have⟨z,y,vs,r,g,es,ep,e,c⟩:=x;show⟨z,y,vs,r,g,es,ep,k _ _ (.inl rfl) e,c⟩
 |dT kvs =>
  have⟨z,y,xs,r,g,es,ep,e,c⟩:=x;show⟨z,y,xs,Paired.CB r λp q z=>⟨z.1,m _ _ z.2.1,z.2.2⟩,g,es,ep,k _ _ (.inl rfl) e,c⟩
 |set S n=>have⟨g,es,ep,t,e,c⟩:=x;show⟨g,es,ep,t,k _ _ (.inl rfl) e,c⟩
 |ins C G s =>
  obtain⟨d,z,A,e,j,⟨l,es,ep,B,c⟩,r⟩:=x;show⟨ho _ d,z,A,k _ _ (.inl rfl) e,j,⟨l,es,ep,k _ _ (.inr d) B,c⟩,r⟩
 |own y=>have⟨g,e⟩:=x;show⟨g,k _ _ (.inl rfl) e⟩
 |xd s=>obtain⟨j,⟨l,es,ep,e,c⟩,r⟩:=x;show⟨j,⟨l,es,ep,k _ _ (.inl rfl) e,c⟩,r⟩
 |QF lo I=>have⟨t,u,v,e⟩:=x;show⟨t,u,v,k _ _ (.inl rfl) e⟩
 |IV g u D=>have⟨e,q⟩:=x;show⟨k _ _ (.inl rfl) e,D q⟩
 |Mn ps =>
  have e:h.get? a=bD {cls:=.none,data:=.fields ps}:=x;change h'.get? a=bD {cls:=.none,data:=.fields ps};show k a _ (.inl rfl) e
 |met f y =>
  have e:h.get? a=bD (PySem.W.methodObj (.ref f) (.ref y)):=x;change h'.get? a=bD (PySem.W.methodObj (.ref f) (.ref y));show k a _ (.inl rfl) e
 |ext φ=>obtain⟨p,⟨o,e⟩,st⟩:=x;show⟨st _ _ p λo q=>k _ _ (.inl rfl) q,⟨o,k _ _ (.inl rfl) e⟩,st⟩
def IB.lt(x:IB P w H h)(e:H a=bD o):a<h.objs.size:=(x a o e).lt
def IB.fresh(x:IB P w H h)(e:h.objs.size<=a):H a=cb:=by
 cases q:H a with
 |none=>rfl
 |some u=>show absurd (kr (x.lt q) e) (ve _)
def IB.kept(x:IB P w H h)(k:∀b u,h.get? b=bD u->h'.get? b=bD u):IB P w H h':=λa o e =>
 (x a o e).gW (λb u _ q=>k b u q) (λ_ q=>q) λ_ _ q=>q
def IB.laid(x:IB P w H h)(k:∀b u,h.get? b=bD u->h'.get? b=bD u)(g:h.objs.size<=a)(new:bI P w (upd H a o) h' a o):IB P w (upd H a o) h':=λb u e=>by
 have d:=x.fresh g;by_cases f:b=a
 .subst f;rw[aA]at e;cases e;show new
 .rw[ao f]at e;show(x b u e).gW (λc v _ q=>k c v q) (λc q=>by rw[ao (bM q d)];show q) λc xs q=>by rw[ao (bM q d)];show q
end
abbrev Rd(H:Hp)(a:hU)(u:HO):Prop:=H a=bD u\/∃o,H a=bD (.IV o u)
def Rd.ok(r:Rd H a u)(x:IB P w H h):bI P w H h a u:=by
 rcases r with r|⟨o,r⟩
 .show x a u r
 .obtain⟨_,q⟩:=x a _ r;show q
def NX:Option HO->Prop
 |some (.lst _)=>True
 |some (.dK _)=>True
 |some (.dT _)=>True
 |some (.set _ _)=>True
 |some (.ins _ _ _)=>True
 |some (.ext _)=>True
 |_=>False
section
def IB.write(l:IB P w H h)(a:NX (H x))(g:e=x\/H e=bD (.own x))(k:∀b u,b≠e->h.get? b=bD u->h'.get? b=bD u)(m:∃u,h'.get? e=bD u)
  (new:bI P w (upd H x o') h' x o'):IB P w (upd H x o') h':=λb u q=>by
 have i:∀c y,H c=bD (.own y)->c≠x:=λc y r z=>by subst z;rw[r]at a;show a
 have n:∀c xs,H c=bD (.tup xs)->c≠x:=λc xs r z=>by subst z;rw[r]at a;show a
 by_cases d:b=x
 .subst d;rw[aA]at q;cases q;show new
 .rw[ao d]at q;by_cases f:b=e
  .have j:H b=bD (.own x):=by
    rcases g with z|z
    .show absurd (f.trans z) d
    .rw[f];show z
   rw[q]at j;cases j;have⟨v,o⟩:=m;show⟨v,by rw[f];show o⟩
  .show(l b u q).gW (λc v hc r=>k c v ?_ r) (λc r=>by rw[ao (i c b r)];show r) λc xs r=>by rw[ao (n c xs r)];show r
   rcases hc with rfl|hc
   .show f
   .rintro rfl;rcases g with z|z
    .show i c b hc z
    .rw[hc]at z;cases z;show d rfl
end
structure Un(fs ex:List hU)(H H':Hp)(h h':J3):Prop where
 keep:∀b o,h.get? b=bD o->H b=cb->b∉fs->b∉ex->h'.get? b=bD o
 slot:∀b o,h.get? b=bD o->H b=cb->b∈fs->b∉ex->∃sl,h'.get? b=bD {o with slots:=sl}
 free:∀b o,h.get? b=bD o->H b=cb->b∉ex->H' b=cb
 there:∀b o,h.get? b=bD o->b∉ex->∃o',h'.get? b=bD o'
 jU:∀b xs,H b=bD (.tup xs)->H' b=bD (.tup xs)
 Je:∀b o u,H b=bD (.IV o u)->H' b=bD (.IV o u)
 Jt:∀b ps,H b=bD (.Mn ps)->∃more,H' b=bD (.Mn (ps++more))
section
def Un.any(u:Un e ex H i h f)(q:h.get? b=bD a)(n:H b=cb)(c:b∉ex):∃g,f.get? b=bD {a with slots:=g}:=by
 by_cases d:b∈e
 .show u.slot b a q n d c
 .show⟨a.slots,u.keep b a q n d c⟩
def Un.kept(k:∀b u,h.get? b=bD u->h'.get? b=bD u):Un c ex H H h h' :=
 ⟨λb a q _ _ _=>k b a q,λb a q _ _ _=>⟨a.slots,k b a q⟩,λ_ _ _ n _=>n,λb a q _=>⟨a,k b a q⟩,λ_ _ q=>q,λ_ _ _ q=>q,λ_ ps q=>⟨#[],by rw[q];simp⟩⟩
def Un.refl:Un a ex H H h h:=Un.kept λ_ _ q=>q
def Un.laid(k:∀b u,h.get? b=bD u->h'.get? b=bD u)(d:h.objs.size<=a)(c:H a=cb):Un e ex H (upd H a o) h h' where
 keep:=λb u q _ _ _=>k b u q
 slot:=λb u q _ _ _=>⟨u.slots,k b u q⟩
 free:=λb u q n _=>by rw[ao (hY (kr (eH q) d))];show n
 there:=λb u q _=>⟨u,k b u q⟩
 jU:=λb xs q=>by rw[ao (bM q c)];show q
 Je:=λb u xs q=>by rw[ao (bM q c)];show q
 Jt:=λb ps q=>⟨#[],by rw[ao (bM q c),q];simp⟩
def Un.write(a:NX (H x))(i:e=x\/H e=bD (.own x))(k:∀b u,b≠e->h.get? b=bD u->h'.get? b=bD u)(j:∃u,h'.get? e=bD u):Un m ex H (upd H x o) h h':=by
 have d:∀b,H b=cb->b≠x:=λb n z=>by subst z;rw[n]at a;show a
 have f:∀b,H b=cb->b≠e:=λb n z=>by
  subst z;rcases i with r|r
  .show d b n r
  .rw[n]at r;cases r
 have c:∀b u,H b=bD u->¬NX (bD u)->b≠x:=λb u q l z=>by subst z;rw[q]at a;show l a
 show⟨λb u q n _ _=>k b u (f b n) q,λb u q n _ _=>⟨u.slots,k b u (f b n) q⟩,λb u q n _=>by rw[ao (d b n)];show n,λb u q _=>?_,
  λb xs q=>by rw[ao (c b _ q λz=>z)];show q,λb u xs q=>by rw[ao (c b _ q λz=>z)];show q,λb ps q=>⟨#[],by rw[ao (c b _ q λz=>z),q];simp⟩⟩
 by_cases g:b=e
 .subst g;show j
 .show⟨u,k b u g q⟩
end
abbrev Pu(h:J3)(H:Hp):List hU:=(ix h.objs.size).filter λa=>(H a).isSome
abbrev oa(h:J3)(H:Hp):J3:=PySem.W.hideAll h (Pu h H)
def uW(h:J3)(H:Hp):(oa h H).objs.size=h.objs.size:=PySem.W.hideAll_size _ _
def wc(e:h.get? b=bD o)(n:H b=cb):(oa h H).get? b=bD o :=
 PySem.W.hideAll_get _ e λa=>by
  have q:(H b).isSome=b6:=(lg.mp a).2;rw[n]at q;simp at q
def zy(e:(oa h H).get? b=bD o):h.get? b=bD o/\H b=cb:=by
 have a:h.get? b=bD o:=PySem.W.of_hideAll (Pu h H) e;show⟨a,?_⟩;cases q:H b with
 |none=>rfl
 |some x =>
  have c:b∈Pu h H:=lg.mpr ⟨vu.mpr (eH a),by simp[q]⟩;have z:(oa h H).get? b=cb:=PySem.W.hideAll_none (Pu h H) c;rw[z]at e;cases e
structure Mod(K:PySem.W.Frag)(mg:Str->Option et)(base:J3):Prop where
 Pw:K.In base
 glob:base.Ns Ka mg
 blt:∃mb,base.Ns ZU mb/\∀x:Str,x≠"__name__"->mb x=wk x
 nolimit:base.NoLimit
structure Cx where
 prog:Hr
 w:IT
 K:PySem.W.Frag
 mg:Str->Option et
 base:J3
 A:MH
 N:List Str
 s₀:hH
 H₀:Hp
 env:Env
 outer:List Env
 stack:List Env
 ex:List hU
 fn:Str->Bool
 calm:Bool
 pn:List (hU×Obj)
 xe:et->hH->Prop
abbrev Ke(l:List Env):List hU:=l.filterMap (·.frame)
noncomputable abbrev Cx.fs(X:Cx):List hU:=Ke X.outer
abbrev Jo(a:ME)(x:Str):Prop:=a.names.lookup x=bD .local\/a.names.lookup x=bD .cell\/a.names.lookup x=bD .free
abbrev Loc(a:ME)(x:Str):Prop:=a.names.lookup x=bD .local\/a.names.lookup x=bD .cell
abbrev Look(env:Env)(h:J3)(m:Str->Option et)(x:Str)(u:et):Prop :=
 (env.kindOf x=bD .local/\m x=bD u)\/((env.kindOf x=bD .cell\/env.kindOf x=bD .free)/\∃c,env.cells.lookup x=bD c/\h.IsCell c (bD u))
structure Cx.Ok(X:Cx):Prop where
 mod:Mod X.K X.mg X.base
 kind:X.env.scope.kind=.function
 glob:X.env.globals=Ka
 blt:X.env.builtins=ZU
 above:X.s₀.heap.objs.size<=X.env.locals
 inj:∀x y c,X.env.cells.lookup x=bD c->X.env.cells.lookup y=bD c->x=y
 has:∀x,(X.env.kindOf x=bD .cell\/X.env.kindOf x=bD .free)->∃c,X.env.cells.lookup x=bD c
 NZ:∀x c,X.fn x=b6->X.env.cells.lookup x=bD c->X.s₀.heap.objs.size<=c
 hd:X.calm=b6->X.A.handled=cb
 frames:X.A.frames=bD X.stack
 Px:X.stack=X.outer\/(X.stack=X.env::X.outer/\X.env.frame=bD X.env.locals)
 TL:∀b∈X.ex,b≠X.env.locals/\∀x c,X.env.cells.lookup x=bD c->c≠b
 bs:∀b o,X.base.get? b=bD o->X.s₀.heap.get? b=bD o/\X.H₀ b=cb
 LU:X.base.objs.size<=X.s₀.heap.objs.size
 KR:∀b o,X.base.get? b=bD o->b∉X.ex
 Ly:∀b∈X.ex,b∉X.fs
 kq:X.s₀.heap.FunFrames X.base X.outer
 Nj:∀b∈X.fs,X.H₀ b=cb
structure Inv(X:Cx)(pins:List (hU×Obj))(σ:List (Option V))(H:Hp)(s:hH):Prop where
 ok:X.Ok
 os:s.os=X.s₀.os
 bare:Tb s.gens
 base:Un X.fs X.ex X.H₀ H X.s₀.heap s.heap
 loc:∃m,s.heap.Ns X.env.locals m/\∀(i:Nat) (x:Str) (v:V),X.N[i]?=bD x->σ[i]?=bD (bD v)->Jo X.env.scope x->∃u,RelV v u/\Look X.env s.heap m x u
 cell:∀x c,X.env.cells.lookup x=bD c->∃v,s.heap.IsCell c v
 free:H X.env.locals=cb
 H_:∀x c,X.env.cells.lookup x=bD c->H c=cb
 pin:∀p∈X.pn++pins,s.heap.get? p.1=bD p.2/\H p.1=cb/\p.1≠X.env.locals/\p.1∉X.fs/\∀v,p.2.data≠.cell v
 Hi:IB X.prog X.w H s.heap
 len:σ.length=X.N.length
section
variable{X:Cx}{pins:List (hU×Obj)}{σ:List (Option V)}{H H':Hp}{s:hH}{h':J3}
def Cx.Ok.Gp(a:X.Ok)(e:X.base.get? b=bD o):b∉X.fs:=λc=>by
 have:=(a.kq.mem c).1;rw[e]at this;cases this
def Inv.bs(I:Inv X pins σ H s):∀b o,X.base.get? b=bD o->s.heap.get? b=bD o/\H b=cb:=λb o e =>
 ⟨I.base.keep b o (I.ok.bs b o e).1 (I.ok.bs b o e).2 (I.ok.Gp e) (I.ok.KR b o e),I.base.free b o (I.ok.bs b o e).1 (I.ok.bs b o e).2 (I.ok.KR b o e)⟩
def Inv.bk(I:Inv X pins σ H s):∀b o,X.base.get? b=bD o->s.heap.get? b=bD o:=λb o e=>(I.bs b o e).1
def Inv.mod(I:Inv X pins σ H s):Mod X.K X.mg X.base:=I.ok.mod
def Inv.Mp(I:Inv X pins σ H s):X.K.In s.heap:=I.ok.mod.Pw.keeps I.bk
def Inv.lt(I:Inv X pins σ H s):X.env.locals<s.heap.objs.size:=let ⟨_,a,_⟩:=I.loc;a.lt
def Inv.sz(I:Inv X pins σ H s):X.s₀.heap.objs.size<=s.heap.objs.size:=u6 I.ok.above (O3 I.lt)
def Inv.CC(I:Inv X pins σ H s)(h:s.heap.objs.size<=a):a∉X.fs:=λb=>by
 obtain⟨_,o,ho,_⟩:=I.ok.kq.mem b;show absurd (kr (eH ho) (u6 I.sz h)) (ve _)
def Inv.Mq(I:Inv X pins σ H s):∀x c,X.env.cells.lookup x=bD c->c≠X.env.locals:=λx c e z=>by
 have⟨v,o,ho,a⟩:=I.cell x c e;obtain⟨m,⟨o',es,ep,b,d,_⟩,_⟩:=I.loc;rw[z,b]at ho;cases ho;rw[d]at a;cases a
def Inv.kq(I:Inv X pins σ H s):s.heap.FunFrames X.base X.outer:=by
 have all:∀(l:List Env),(∀b∈Ke l,b∈X.fs)->X.s₀.heap.FunFrames X.base l->s.heap.FunFrames X.base l:=by
  intro l;induction l with
  |nil=>intro _ _;trivial
  |cons env r f =>
   intro hs hl;obtain⟨hk,⟨L,o,a,g,ho,h⟩,i⟩:=hl;have c:L∈X.fs:=hs L (by unfold Ke;rw[L8,a];show nH);have⟨j,e⟩:=I.base.slot L o ho (I.ok.Nj L c) c λz=>I.ok.Ly L z c;show⟨hk,⟨L,_,a,g,e,h⟩,f (λb d=>hs b (by unfold Ke;rw[L8,a];show td _ d)) i⟩
 show all X.outer (λ_ d=>d) I.ok.kq
def Inv.stack(I:Inv X pins σ H s):s.heap.FunFrames X.base X.stack:=by
 rcases I.ok.Px with e|⟨e,a⟩
 .rw[e];show I.kq
 .rw[e];obtain⟨m,b,_⟩:=I.loc;show .cons (by rw[I.ok.kind];decide) a b ?_ I.kq;show Heap.get?_none_of_le (u6 I.ok.LU I.ok.above)
def Inv.ku(I:Inv X pins σ H s):∀b∈Ke X.stack,b∈X.env.locals::X.fs:=λb a=>by
 rcases I.ok.Px with e|⟨e,c⟩
 .rw[e]at a;show td _ a
 .rw[e]at a;unfold Ke at a;rw[L8,c]at a;show a
def Inv.sZ(I:Inv X pins σ H s):∀b∈Ke X.stack,H b=cb:=λb hb=>by
 rcases gc.mp (I.ku b hb) with e|hb
 .rw[e];show I.free
 .obtain⟨_,o,ho,_⟩:=I.ok.kq.mem hb;show I.base.free b o ho (I.ok.Nj b hb) λz=>I.ok.Ly b z hb
def Inv.step{ch:List hU}(I:Inv X pins σ H s)
  (j:∀b∈ch,(b∈X.ex\/X.s₀.heap.objs.size<=b)/\b≠X.env.locals/\(∀x c,X.env.cells.lookup x=bD c->c≠b)/\∀p∈X.pn++pins,p.1≠b)
  (keep:∀b o,b≠X.env.locals->b∉X.fs->b∉ch->s.heap.get? b=bD o->H b=cb->h'.get? b=bD o)
  (slot:∀b o,b≠X.env.locals->b∈X.fs->b∉ch->s.heap.get? b=bD o->H b=cb->∃C,h'.get? b=bD {o with slots:=C}) (free:∀b o,b∉ch->s.heap.get? b=bD o->H b=cb->H' b=cb)
  (there:∀b o,b∉ch->s.heap.get? b=bD o->∃o',h'.get? b=bD o')
  (jU:∀b xs,H b=bD (.tup xs)->H' b=bD (.tup xs)) (Je:∀b o u,H b=bD (.IV o u)->H' b=bD (.IV o u)) (Jt:∀b ps,H b=bD (.Mn ps)->∃t,H' b=bD (.Mn (ps++t)))
  (ns:∀m,s.heap.Ns X.env.locals m->h'.Ns X.env.locals m) (Q:IB X.prog X.w H' h') (T:Tb g') :
  Inv X pins σ H' {s with heap:=h',gens:=g',drawn:=d',toks:=t' }:=by
 have G:∀b o,X.s₀.heap.get? b=bD o->b≠X.env.locals:=λb o e=>hY (kr (eH e) I.ok.above);have B:∀b o,X.s₀.heap.get? b=bD o->b∉X.ex->b∉ch:=λb o e a h=>by
  rcases(j b h).1 with z|z
  .show a z
  .show absurd (kr (eH e) z) (ve _)
 have f:∀x c,X.env.cells.lookup x=bD c->∀v,s.heap.IsCell c v->h'.IsCell c v:=λx c e v Y=>by
  have⟨o,ho,D⟩:=Y;have y:c∉ch:=λz=>(j c z).2.2.1 x c e rfl;by_cases J:c∈X.fs
  .have⟨C,q⟩:=slot c o (I.Mq x c e) J y ho (I.H_ x c e);show⟨_,q,D⟩
  .show⟨o,keep c o (I.Mq x c e) J y ho (I.H_ x c e),D⟩
 show⟨I.ok,I.os,T,⟨λb o e n h a=>?_,λb o e n h a=>?_,λb o e n a=>?_,λb o e a=>?_,λb xs e=>jU b xs (I.base.jU b xs e),λb o xs e=>Je b o xs (I.base.Je b o xs e),λb ps e=>?_⟩,?_,λx c e=>?_,?_,λx c e=>?_,λp L=>?_,Q,I.len⟩
 .show keep b o (G b o e) h (B b o e a) (I.base.keep b o e n h a) (I.base.free b o e n a)
 .have⟨C,g⟩:=I.base.slot b o e n h a;have⟨Vm,A⟩:=slot b _ (G b o e) h (B b o e a) g (I.base.free b o e n a);show⟨Vm,A⟩
 .have⟨o',g⟩:=I.base.there b o e a;show free b o' (B b o e a) g (I.base.free b o e n a)
 .have⟨o',g⟩:=I.base.there b o e a;show there b o' (B b o e a) g
 .have⟨m1,g⟩:=I.base.Jt b ps e;have⟨m2,A⟩:=Jt b _ g;show⟨m1++m2,by rw[A,Array.append_assoc]⟩
 .have⟨m,hn,hl⟩:=I.loc;show⟨m,ns m hn,λi x v g A e3=>?_⟩;have⟨u,r,l⟩:=hl i x v g A e3;show⟨u,r,?_⟩;rcases l with l|⟨k,c,e,z⟩
  .show .inl l
  .show .inr ⟨k,c,e,f x c e _ z⟩
 .have⟨v,z⟩:=I.cell x c e;show⟨v,f x c e v z⟩
 .obtain⟨m,⟨o,_,_,ho,_⟩,_⟩:=I.loc;show free _ o (λz=>(j _ z).2.1 rfl) ho I.free
 .have⟨v,o,ho,D⟩:=I.cell x c e;show free c o (λz=>(j c z).2.2.1 x c e rfl) ho (I.H_ x c e)
 .have⟨e,n,N,O,d⟩:=I.pin p L;have y:p.1∉ch:=λz=>(j p.1 z).2.2.2 p L rfl;show⟨keep p.1 p.2 N O y e n,free p.1 p.2 y e n,N,O,d⟩
def Inv.un(I:Inv X pins σ H s)(u:Un X.fs [] H H' s.heap h')(d:IB X.prog X.w H' h'):Inv X pins σ H' {s with heap:=h',toks:=t' }:=by
 obtain⟨m,⟨o,es,ep,ho,r⟩,_⟩:=id I.loc;have⟨k,f⟩:=u.any ho I.free (by simp);show I.step (g':=s.gens) (d':=s.drawn) (ch:=[]) (λ_ z=>nomatch z) (λb o _ a _ e n=>u.keep b o e n a (by simp)) (λb o _ a _ e n=>u.slot b o e n a (by simp)) (λb o _ e n=>u.free b o e n (by simp)) (λb o _ e=>u.there b o e (by simp)) u.jU u.Je u.Jt (λl g=>by
  have⟨o',h,i,c,j⟩:=g;rw[ho]at c;cases c;show⟨_,h,i,f,j⟩) d I.bare
def Inv.call(I:Inv X pins σ H s)(u:Un (Ke X.stack) ch H H' s.heap h')(h:IB X.prog X.w H' h')(i:Tb g')
  (f:∀b∈ch,(b∈X.ex\/X.s₀.heap.objs.size<=b)/\b≠X.env.locals/\(∀x c,X.env.cells.lookup x=bD c->c≠b)/\∀p∈X.pn++pins,p.1≠b) :
  Inv X pins σ H' {s with heap:=h',gens:=g',drawn:=d',toks:=t' }:=by
 obtain⟨m,⟨o,es,ep,ho,r⟩,_⟩:=id I.loc;have⟨v,d⟩:=u.any ho I.free λz=>(f _ z).2.1 rfl;show I.step (ch:=ch) f (λb o d j a e n=>u.keep b o e n (λz=>(gc.mp (I.ku b z)).elim d j) a) (λb o _ _ a e n=>u.any e n a) (λb o a e n=>u.free b o e n a) (λb o a e=>u.there b o e a) u.jU u.Je u.Jt (λy k=>by
  have⟨o',l,q,g,t⟩:=k;rw[ho]at g;cases g;show⟨_,l,q,d,t⟩) h i
def Inv.turned(I:Inv X pins σ H s)(k:∀b o,b≠it->s.heap.get? b=bD o->h'.get? b=bD o)(g:H it=cb)(d:it≠X.env.locals)
  (h:it∈X.ex\/X.s₀.heap.objs.size<=it) (i:∀x c,X.env.cells.lookup x=bD c->c≠it) (j:∀p∈X.pn++pins,p.1≠it):Inv X pins σ H {s with heap:=h',toks:=t' }:=by
 have f:∀b u,H b=bD u->b≠it:=λb u e z=>by rw[z,g]at e;cases e
 show I.step (g':=s.gens) (d':=s.drawn) (ch:=[it]) (λb l=>?_) (λb o _ _ a e _=>k b o (λz=>a (by simp[z])) e) (λb o _ _ a e _=>⟨o.slots,k b o (λz=>a (by simp[z])) e⟩) (λ_ _ _ _ n=>n)
  (λb o a e=>⟨o,k b o (λz=>a (by simp[z])) e⟩) (λ_ _ e=>e) (λ_ _ _ e=>e) (λb ps e=>⟨#[],by rw[e];simp⟩) (λm t=>?_) (λb u e=>?_) I.bare
 .have e:b=it:=by simpa using l
  subst e;show⟨h,d,i,j⟩
 .have⟨o,es,ep,ho,r⟩:=t;show⟨o,es,ep,k _ o (tj d) ho,r⟩
 .show(I.Hi b u e).gW (λc v a q=>k c v ?_ q) (λ_ q=>q) λ_ _ q=>q;rcases a with z|z
  .rw[z];show f b u e
  .show f c _ z
def Inv.tok(I:Inv X pins σ H s)(t:Nat):Inv X pins σ H {s with toks:=t}:=I.un (h':=s.heap) (t':=t) Un.refl I.Hi
def Inv.kept(I:Inv X pins σ H s)(k:∀b u,s.heap.get? b=bD u->h'.get? b=bD u):Inv X pins σ H {s with heap:=h',toks:=t' }:=I.un (Un.kept k) (I.Hi.kept k)
def Inv.laid(I:Inv X pins σ H s)(k:∀b u,s.heap.get? b=bD u->h'.get? b=bD u)(c:s.heap.objs.size<=a)(new:bI X.prog X.w (upd H a o) h' a o):
  Inv X pins σ (upd H a o) {s with heap:=h',toks:=t' }:=I.un (Un.laid k c (I.Hi.fresh c)) (I.Hi.laid k c new)
def Inv.write(I:Inv X pins σ H s)(a:NX (H x))(c:e=x\/H e=bD (.own x))(k:∀b u,b≠e->s.heap.get? b=bD u->h'.get? b=bD u)(d:∃u,h'.get? e=bD u)
  (new:bI X.prog X.w (upd H x o) h' x o):Inv X pins σ (upd H x o) {s with heap:=h',toks:=t' }:=I.un (Un.write a c k d) (I.Hi.write a c k d new)
def Inv.weak(I:Inv X pins σ H s)(hl:a.length=σ.length)(w:∀(i:Nat) v,a[i]?=bD (bD v)->σ[i]?=bD (bD v)):Inv X pins a H s :=
 ⟨I.ok,I.os,I.bare,I.base,let ⟨m,b,c⟩:=I.loc;⟨m,b,λi x v d e f=>c i x v d (w i v e) f⟩,I.cell,I.free,I.H_,I.pin,I.Hi,hl.trans I.len⟩
def Inv.d9(I:Inv X pins σ H s)(h:∀p∈a,s.heap.get? p.1=bD p.2/\H p.1=cb/\p.1≠X.env.locals/\p.1∉X.fs/\∀v,p.2.data≠.cell v):Inv X a σ H s :=
 ⟨I.ok,I.os,I.bare,I.base,I.loc,I.cell,I.free,I.H_,λp b=>(kj.mp b).elim (λz=>I.pin p (D' _ z)) (h p),I.Hi,I.len⟩
def kA{N:List Str}(c:N.Nodup){i j:Nat}(a:N[i]?=bD x)(b:N[j]?=bD x):i=j:=by
 have⟨f,d⟩:=eh.mp a;have⟨g,e⟩:=eh.mp b;show(Zn c).mp (d.trans e.symm)
def mH(I:Inv X pins σ H s)(hN:X.N.Nodup)(D:X.N[i]?=bD x)(l:Loc X.env.scope x)(r:RelV v u)
  (h:∀s',Inv X pins (σ.set i (bD v)) H s'->(∃a,qs a s.heap s'.heap/\(a=X.env.locals\/X.env.cells.lookup x=bD a))->Q () s') (hf:X.fn x=b6\/X.env.scope.names.lookup x=bD .local:=by first|show .inl rfl|show .inr rfl|assumption):ez M A (Ð X.env x u) Q E s:=by
 have⟨m,O,hl⟩:=id I.loc;have QH:(X.env.scope.kind==.class||(X.env.scope.kind==.module&&X.env.locals != X.env.globals))=cK:=by rw[I.ok.kind];rfl
 have TQ:i < σ.length:=by rw[I.len];show(eh.mp D).1
 have T:=I.Mq;have f:∀{a:hU} {h':J3},(∃o,s.heap.get? a=bD o/\H a=cb)->qs a s.heap h'->IB X.prog X.w H h':=λ{a h'} ha hs b ob e=>by
  obtain⟨_,_,Ii⟩:=ha;show(I.Hi b ob e).gW (λc G hc q=>(hs.2 c ?_).trans q) (λ_ q=>q) λ_ _ q=>q;rintro rfl;rcases hc with rfl|hc
  .rw[Ii]at e;cases e
  .rw[Ii]at hc;cases hc
 rcases l with hk|hk
 .show wpAny_storeName_local hk O (λh' Pz hs=>?_) QH;obtain⟨oL,_,_,LA,_⟩:=id O;show h _ ⟨I.ok,I.os,I.bare,⟨λb o e n B l=>?_,λb o e n B l=>?_,I.base.free,λb o e l=>?_,I.base.jU,I.base.Je,I.base.Jt⟩,⟨_,Pz,λj y Y g t e3=>?_⟩,λy c e=>?_,I.free,I.H_,λp hp=>?_,f ⟨oL,LA,I.free⟩ hs,by simpa using I.len⟩ ⟨_,hs,.inl rfl⟩
  .show(hs.2 b (hY (kr (eH e) I.ok.above))).trans (I.base.keep b o e n B l)
  .have⟨sl,g⟩:=I.base.slot b o e n B l;show⟨sl,(hs.2 b (hY (kr (eH e) I.ok.above))).trans g⟩
  .have⟨o',g⟩:=I.base.there b o e l;show⟨o',(hs.2 b (hY (kr (eH e) I.ok.above))).trans g⟩
  .by_cases C:j=i
   .subst C;rw[D]at g;cases g;rw[fx TQ]at t;cases t;show⟨u,r,.inl ⟨hk,by simp⟩⟩
   .rw[i8 (tj C)]at t;have⟨u',r',q⟩:=hl j y Y g t e3;show⟨u',r',?_⟩;rcases q with⟨k,e⟩|⟨k,c,e,z⟩
    .show .inl ⟨k,?_⟩;have:y≠x:=λe=>C (kA hN g (e▸D));simp[this,e]
    .show .inr ⟨k,c,e,z.sameBut hs (T y c e)⟩
  .have⟨G,z⟩:=I.cell y c e;show⟨G,z.sameBut hs (T y c e)⟩
  .have⟨e,n,J,nf,d⟩:=I.pin p hp;show⟨(hs.2 p.1 J).trans e,n,J,nf,d⟩
 .have JV:X.fn x=b6:=by
   rcases hf with z|z
   .show z
   .rw[z]at hk;cases hk
  have⟨c,hc⟩:=I.ok.has x (.inl hk);have⟨G,z⟩:=I.cell x c hc;show wpAny_storeName_cell I.ok.kind hk hc z (λh' Nk hs=>?_);have⟨oc,TR,QI⟩:=id z;show h {s with heap:=h' } ⟨I.ok,I.os,I.bare,⟨λb o e n B l=>?_,λb o e n B l=>?_,I.base.free,λb o e l=>?_,I.base.jU,I.base.Je,I.base.Jt⟩,⟨m,O.sameBut hs (tj (T x c hc)),λj y Y g t e3=>?_⟩,λy L e=>?_,I.free,I.H_,λp hp=>?_,f ⟨oc,TR,I.H_ x c hc⟩ hs,by simpa using I.len⟩ ⟨c,hs,.inr hc⟩
  .show(hs.2 b (hY (kr (eH e) (I.ok.NZ x c JV hc)))).trans (I.base.keep b o e n B l)
  .have⟨sl,g⟩:=I.base.slot b o e n B l;show⟨sl,(hs.2 b (hY (kr (eH e) (I.ok.NZ x c JV hc)))).trans g⟩
  .have⟨o',g⟩:=I.base.there b o e l;show⟨o',(hs.2 b (hY (kr (eH e) (I.ok.NZ x c JV hc)))).trans g⟩
  .by_cases C:j=i
   .subst C;rw[D]at g;cases g;rw[fx TQ]at t;cases t;show⟨u,r,.inr ⟨.inl hk,c,hc,Nk⟩⟩
   .rw[i8 (tj C)]at t;have⟨u',r',q⟩:=hl j y Y g t e3;show⟨u',r',?_⟩;rcases q with q|⟨k,L,e,z'⟩
    .show .inl q
    .show .inr ⟨k,L,e,z'.sameBut hs ?_⟩;rintro rfl;show C (kA hN g (I.ok.inj _ _ _ e hc▸D))
  .by_cases TU:L=c
   .subst TU;show⟨_,Nk⟩
   .have⟨w2,z2⟩:=I.cell y L e;show⟨w2,z2.sameBut hs TU⟩
  .have⟨e,n,J,nf,d⟩:=I.pin p hp;show⟨(hs.2 p.1 ?_).trans e,n,J,nf,d⟩;intro q;rw[q,TR]at e;have q':oc=p.2:=tr e;show d G (by rw[<-q'];show QI)
def kB(I:Inv X pins σ H s)(a:X.N.Nodup)(b:X.N[i]?=bD x)(c:Loc X.env.scope x)(r:RelV v u)
  (h:∀s',Inv X pins (σ.set i (bD v)) H s'->Q () s') (d:X.fn x=b6\/X.env.scope.names.lookup x=bD .local:=by first|show .inl rfl|show .inr rfl|assumption):ez M A (Ð X.env x u) Q E s :=
 mH I a b c r (λs' e _=>h s' e) d
def Inv.EC(I:Inv X pins σ H s)(ho:s'.os=s.os)(u:Un (Ke X.stack) ch H H' s.heap s'.heap)(a:IB X.prog X.w H' s'.heap)(d:Tb s'.gens)
  (f:∀b∈ch,(b∈X.ex\/X.s₀.heap.objs.size<=b)/\b≠X.env.locals/\(∀x c,X.env.cells.lookup x=bD c->c≠b)/\∀p∈X.pn++pins,p.1≠b):Inv X pins σ H' s':=by
 have⟨h',g',d',t',o'⟩:=s';have e:o'=s.os:=ho;subst e;show I.call (g':=g') (t':=t') (d':=d') u a d f
end
@[reducible]def XK:=et->Option hU->Hp->Prop
@[reducible]def St:=List (Option V)
@[reducible]def VK:=V->Hp->Prop
@[reducible]def TE:=St->Hp->VK->Prop
@[reducible]def TT:=St->Hp->(Bool->Hp->Prop)->Prop
@[reducible]def TA:=St->Hp->(List V->Hp->Prop)->Prop
structure Ends where
 nx:St->Hp->Prop
 rt:VK
 bk:St->Hp->Prop:=λ_ _=>False
 ct:St->Hp->Prop:=λ_ _=>False
@[reducible]def TS:=Ends->St->Hp->Prop
abbrev EP(X:Cx)(a:List (hU×Obj))(σ:St)(Q:VK)(u:et)(s':hH):Prop:=∃v H',Inv X a σ H' s'/\RelV v u/\Q v H'
abbrev TP(X:Cx)(a:List (hU×Obj))(σ:St)(Q:Bool->Hp->Prop)(b:Bool)(s':hH):Prop:=∃H',Inv X a σ H' s'/\Q b H'
abbrev AP(X:Cx)(a:List (hU×Obj))(σ:St)(Q:List V->Hp->Prop)(us:List et)(s':hH):Prop:=∃vs H',Inv X a σ H' s'/\Vals vs us/\Q vs H'
abbrev SP(X:Cx)(a:List (hU×Obj))(D:Ends)(f:Flow)(s':hH):Prop :=
 match f with
 |.next=>∃b H',Inv X a b H' s'/\D.nx b H'
 |.brk=>∃b H',Inv X a b H' s'/\D.bk b H'
 |.cont=>∃b H',Inv X a b H' s'/\D.ct b H'
 |.ret u=>∃v b H',Inv X a b H' s'/\RelV v u/\D.rt v H'
abbrev PE(X:Cx)(e:nz)(t:TE):Prop :=
 ∀(a:List (hU×Obj)) (s:hH) (σ:St) (H:Hp) (Q:VK),Inv X a σ H s->t σ H Q->ez (hW X.prog X.w) X.A (HD e X.env) (EP X a σ Q) X.xe s
abbrev PT(X:Cx)(e:nz)(t:TT):Prop :=
 ∀(a:List (hU×Obj)) (s:hH) (σ:St) (H:Hp) (Q:Bool->Hp->Prop),Inv X a σ H s->t σ H Q->ez (hW X.prog X.w) X.A (isTrue e X.env (HD e X.env)) (TP X a σ Q) X.xe s
abbrev PW(X:Cx)(e:nz)(t:TT):Prop :=
 ∀(b:Sem et) (a:List (hU×Obj)) (s:hH) (σ:St) (H:Hp) (Q:Bool->Hp->Prop),Inv X a σ H s->t σ H Q->ez (hW X.prog X.w) X.A (isTrue e X.env b) (TP X a σ Q) X.xe s
def PW.pt(h:PW X e t):PT X e t:=h _
abbrev PA(X:Cx)(es:List nz)(t:TA):Prop :=
 ∀(pos:Pos) (a:List (hU×Obj)) (s:hH) (σ:St) (H:Hp) (Q:List V->Hp->Prop),Inv X a σ H s->t σ H Q->ez (hW X.prog X.w) X.A (Z8 (Jx pos (i9 es X.env))) (AP X a σ Q) X.xe s
abbrev PS(X:Cx)(st:Nb)(t:TS):Prop :=
 ∀(a:List (hU×Obj)) (s:hH) (σ:St) (H:Hp) (D:Ends),Inv X a σ H s->t D σ H->ez (hW X.prog X.w) X.A (exec st X.env) (SP X a D) X.xe s
abbrev IE(X:Cx)(st:List Nb)(t:TS):Prop :=
 ∀(a:List (hU×Obj)) (s:hH) (σ:St) (H:Hp) (D:Ends),Inv X a σ H s->t D σ H->ez (hW X.prog X.w) X.A (execs st X.env) (SP X a D) X.xe s
def Hl(h:ez M A t Q E s)(b:∀a s,Q a s->Q' a s):ez M A t Q' E s:=uv h b λ_ _ x=>x
section
abbrev Gq(i:Nat):TE:=λσ H Q=>∃v,σ[i]?=bD (bD v)/\Q v H
abbrev tC(v:V):TE:=λ_ H Q=>Q v H
def cA(j:X.N[i]?=bD x)(k:Jo X.env.scope x)(d:(x==("__debug__":Str))=cK:=by decide)(n:(x==("__classdict__":Str))=cK:=by decide):PE X (.Name x pos) (Gq i):=by
 intro b s σ H Q I h;have⟨v,e,h⟩:=h;have⟨m,o,hl⟩:=I.loc;have⟨u,r,l⟩:=hl i x v j e k;have a:EP X b σ Q u s:=⟨v,H,I,r,h⟩
 rcases l with⟨hk,p⟩|⟨hk,c,f,g⟩
 .show ZR (Zq I.ok.kind hk o p a) d
 .rcases hk with hk|hk
  .show ZR (ZJ I.ok.kind hk f g a) d
  .show ZR (wpAny_loadName_free I.ok.kind hk f g a n) d
def rb:PE X (.Constant (.int i) j pos) (tC (.int i)):=λ_ _ _ H _ I h=>wpAny_Constant_int ⟨.int i,H,I.tok _,⟨_,rfl⟩,h⟩
def BS:PE X (.Constant (.bool b) j pos) (tC (.bl b)):=λ_ _ _ H _ I h=>Constant_bool ⟨.bl b,H,I,rfl,h⟩
def we:PE X (.Constant .none j pos) (tC .Hj):=λ_ _ _ H _ I h=>Constant_none ⟨.Hj,H,I,rfl,h⟩
def wg:PE X (.Constant (.str x) j pos) (tC (.str x)):=λ_ _ _ H _ I h=>Calls.Constant_str ⟨.str x,H,I.tok _,⟨_,rfl⟩,h⟩
abbrev Gl(X:Cx)(x:Str):Prop:=X.env.kindOf x=bD .globalImplicit
def og(I:Inv X a σ H s)(b:Gl X x)(c:X.mg x=bD u)(h:Q u s)
  (d:(x==("__debug__":Str))=cK:=by decide):ez (hW X.prog X.w) X.A (HD (.Name x pos) X.env) Q E s :=
 Wd I.ok.kind b (Calls.loadGlobal_global (by rw[I.ok.glob];show I.mod.glob.keeps I.bk) c h) d
def da(I:Inv X a σ H s)(b:Gl X x)(c:X.mg x=cb)(d:wk x=bD u)(h:Q u s)
  (e:x≠"__name__":=by decide) (f:(x==("__debug__":Str))=cK:=by decide):ez (hW X.prog X.w) X.A (HD (.Name x pos) X.env) Q E s:=by
 have⟨j,g,i⟩:=I.mod.blt;show Wd I.ok.kind b (Calls.loadGlobal_builtin (by rw[I.ok.glob];show I.mod.glob.keeps I.bk) c (by rw[I.ok.blt];show g.keeps I.bk) ((i x e).trans d) h) f
def zA(a:Gl X x)(b:X.mg x=bD u)(r:RelV v u)(c:(x==("__debug__":Str))=cK:=by decide):PE X (.Name x pos) (tC v) :=
 λ_ _ _ H _ I h=>og I a b ⟨v,H,I,r,h⟩ c
def zB(a:Gl X x)(b:X.mg x=cb)(c:wk x=bD u)(r:RelV v u)(d:x≠"__name__":=by decide)(e:(x==("__debug__":Str))=cK:=by decide):PE X (.Name x pos) (tC v) :=
 λ_ _ _ H _ I h=>da I a b c ⟨v,H,I,r,h⟩ d e
abbrev PC(X:Cx)(d:CmpOp)(a b:nz)(t:TE):Prop :=
 ∀(c:List (hU×Obj)) (s:hH) (σ:St) (H:Hp) (Q:VK),Inv X c σ H s->t σ H Q ->
  ez (hW X.prog X.w) X.A (HD a X.env) (λv e=>ez (hW X.prog X.w) X.A (HD b X.env) (λu f=>ez (hW X.prog X.w) X.A (LJ d v u) (EP X c σ Q) X.xe f) X.xe e) X.xe s
abbrev tB(t:TE):TT:=λσ H Q=>t σ H λx a=>∃c,x=.bl c/\Q c a
def wj(h:PC X g a b t)(f:Qz g b=cK:=by first|show o _ (by decide) (by decide)|rfl):PT X (.Compare a [g] [b] pos) (tB t):=by
 intro e s σ H Q I i;show Zi (Hl (h e s σ H _ I i) λv s1 f=>Hl f λu s2 j=>Hl j λc s3 ⟨x,k,l,m,n⟩=>?_) f;have⟨d,rfl,q⟩:=n;cases m;show LV ⟨k,l,q⟩
abbrev Gr(t u:TT):TT:=λσ H Q=>t σ H λc a=>if c=b6 then u σ a Q else Q cK a
abbrev Vn(t u:TT):TT:=λσ H Q=>t σ H λc a=>if c=b6 then Q b6 a else u σ a Q
abbrev Gu(t:TT):TT:=λσ H Q=>t σ H λc a=>Q (!c) a
def zC(d:PT X a f):PW X (.BoolOp .And [a] pos) f:=by
 intro g b s σ H Q I h;show isTrue_and (Hl (d b s σ H Q I h) λc s1 e=>?_);cases c with
 |true=>show ò e
 |false=>show e
def CD(d:PT X a f):PW X (.BoolOp .Or [a] pos) f:=by
 intro g b s σ H Q I h;show isTrue_or (Hl (d b s σ H Q I h) λc s1 e=>?_);cases c with
 |false=>show isTrue_or_nil e
 |true=>show e
def CF(i:PT X a j)(k:PW X (.BoolOp .And (b::rest) pos) l):PW X (.BoolOp .And (a::b::rest) pos) (Gr j l):=by
 intro m d s σ H Q I h;show isTrue_and (Hl (i d s σ H _ I h) λc s1 n=>?_);have⟨e,f,g⟩:=n;cases c with
 |true=>show k m d s1 σ e Q f g
 |false=>show⟨e,f,g⟩
def ED(i:PT X a j)(k:PW X (.BoolOp .Or (b::rest) pos) l):PW X (.BoolOp .Or (a::b::rest) pos) (Vn j l):=by
 intro m d s σ H Q I h;show isTrue_or (Hl (i d s σ H _ I h) λc s1 n=>?_);have⟨e,f,g⟩:=n;cases c with
 |true=>show⟨e,f,g⟩
 |false=>show k m d s1 σ e Q f g
def CG(d:PT X a e):PT X (.UnaryOp .Not a pos) (Gu e):=by
 intro b s σ H Q I h;show isTrue_not (d b s σ H (λc f=>Q (!c) f) I h)
abbrev EE(b d:TE):TE:=λσ H Q=>b σ H λx a=>∃c,x=.bl c/\if c=b6 then d σ a Q else Q (.bl cK) a
abbrev EF(a:TE):TE:=λσ H Q=>a σ H λx b=>∃c,x=.bl c/\Q (.bl (!c)) b
def CH(h:PE X a t):PE X (.BoolOp d [a] pos) t:=λb s σ H Q I c=>BoolOp_one (h b s σ H Q I c)
def CI(i:PE X a j)(k:PE X (.BoolOp .And (b::rest) pos) l):PE X (.BoolOp .And (a::b::rest) pos) (EE j l):=by
 intro d s σ H Q I h;show BoolOp_and (Hl (i d s σ H _ I h) λv s1 m=>?_);have⟨x,f,g,n,e⟩:=m;have⟨c,rfl,e⟩:=e;cases n;show LV ?_;cases c with
 |true=>show k d s1 σ f Q g e
 |false=>show⟨.bl cK,f,g,rfl,e⟩
def CJ(e:PE X a f):PE X (.UnaryOp .Not a pos) (EF f):=by
 intro b s σ H Q I h;show UnaryOp_ (Hl (e b s σ H _ I h) λv s1 g=>?_);have⟨x,i,j,k,d⟩:=g;have⟨c,rfl,d⟩:=d;cases k;show not_of (LV ⟨.bl (!c),i,j,rfl,d⟩)
abbrev Vs(t:TT)(b d:TE):TE:=λσ H Q=>t σ H λc a=>if c=b6 then b σ a Q else d σ a Q
def wm(j:PT X c k)(l:PE X a m)(n:PE X b o):PE X (.IfExp c a b pos) (Vs k m o):=by
 intro e s σ H Q I h;show wpAny_IfExp (Hl (j e s σ H _ I h) λd s1 p=>?_);have⟨f,g,i⟩:=p;cases d with
 |true=>show l e s1 σ f Q g i
 |false=>show n e s1 σ f Q g i
end
abbrev HM(K:PySem.W.Frag)(H:Hp)(a:hU)(xs:List V):Prop :=
 Rd H a (.lst xs) \/
  ∃(o:Obj) (b:Array et) (n:Nat),K.lookup a=bD o/\o.cls=.type "list"/\o.dict=cb/\o.data=.seq b n/\b.size<=dV/\Vals xs b.toList
abbrev HR(K:PySem.W.Frag)(H:Hp)(a:hU)(xs:List V):Prop :=
 Rd H a (.tup xs) \/
  ∃(o:Obj) (b:Array et) (n:Nat),K.lookup a=bD o/\o.cls=.type "tuple"/\o.data=.seq b n/\b.size<=dV/\Vals xs b.toList
abbrev Gv:et->Option V
 |.none=>bD .Hj
 |.bool b=>bD (.bl b)
 |.int i _=>bD (.int i)
 |.str x _=>bD (.str x)
 |.bytes b _=>bD (.Pq b)
 |.float b _=>bD (.Pt b)
 |.ref a=>bD (.ref a)
 |.type n=>bD (.ty n)
 |_=>cb
def RelV.abs(r:RelV x u):Gv u=bD x:=by
 cases x with
 |Hj=>cases r;rfl
 |bl _=>cases r;rfl
 |ref _=>cases r;rfl
 |ty _=>cases r;rfl
 |_=>have⟨t,rfl⟩:=r;rfl
def RelV.inj(r:RelV x u)(q:RelV y u):x=y:=tr (r.abs.symm.trans q.abs)
theorem Vals.inj:∀{xs a:List V}{us:List et},Vals xs us->Vals a us->xs=a
 |_,_,_,.nil,.nil=>rfl
 |_,_,_,.cons r t,.cons b t'=>by rw[r.inj b,Vals.inj t t']
section
def HM.of{K:PySem.W.Frag}(h:H a=bD (.lst xs)):HM K H a xs:=.inl (.inl h)
def HR.of{K:PySem.W.Frag}(h:H a=bD (.tup xs)):HR K H a xs:=.inl (.inl h)
def Inv.list(I:Inv X c σ H s)(h:HM X.K H a xs):∃b:List et,Vals xs b/\PlainL s.heap a b.toArray/\xs.length<=dV:=by
 rcases h with h|⟨o,b,n,hk,d,f,hs,hz,r⟩
 .have⟨z,b,n,r,e⟩:=h.ok I.Hi;show⟨b,r,⟨_,n,e,rfl,rfl,rfl⟩,z⟩
 .show⟨b.toList,r,⟨o,n,I.Mp a o hk,d,f,by simpa using hs⟩,?_⟩;have e:=r.length;simp only[i3]at e;lia
def Inv.tuple(I:Inv X c σ H s)(h:HR X.K H a xs):∃b:List et,Vals xs b/\ô s.heap a b.toArray/\xs.length<=dV:=by
 rcases h with h|⟨o,b,n,hk,d,hs,hz,r⟩
 .have⟨z,b,r,p⟩:=h.ok I.Hi;show⟨b,r,p,z⟩
 .show⟨b.toList,r,⟨o,I.Mp a o hk,d,n,by simpa using hs⟩,?_⟩;have e:=r.length;simp only[i3]at e;lia
def Inv.kC(I:Inv X b σ H s)(h:HM X.K H a xs)(h':HM X.K H a f):xs=f:=by
 obtain⟨g,r,⟨o,n,e,_,_,d⟩,_⟩:=I.list h;obtain⟨its',i,⟨o',k,c,_,_,d'⟩,_⟩:=I.list h';rw[e]at c;cases c;rw[d]at d';injection d' with j _
 have:g=its':=by simpa using ü XN j
 subst this;show r.inj i
def Inv.jb(I:Inv X b σ H s)(h:HR X.K H a xs)(h':HR X.K H a f):xs=f:=by
 obtain⟨g,r,⟨o,e,_,n,d⟩,_⟩:=I.tuple h;obtain⟨its',i,⟨o',c,_,k,d'⟩,_⟩:=I.tuple h';rw[e]at c;cases c;rw[d]at d';injection d' with j _
 have:g=its':=by simpa using ü XN j
 subst this;show r.inj i
end
@[reducible]def Cx.l_(X:Cx)(E:et->hH->Prop):Cx:={X with xe:=E}
@[reducible]def Cx.Nl(X:Cx):Cx:=X.l_ λ_ _=>False
def Cx.Ok.l_{X:Cx}(a:X.Ok)(E:et->hH->Prop):(X.l_ E).Ok :=
 ⟨a.mod,a.kind,a.glob,a.blt,a.above,a.inj,a.has,a.NZ,a.hd,a.frames,a.Px,a.TL,a.bs,a.LU,a.KR,a.Ly,a.kq,a.Nj⟩
def Cx.Ok.jc{X:Cx}(a:(X.l_ E).Ok):X.Ok :=
 ⟨a.mod,a.kind,a.glob,a.blt,a.above,a.inj,a.has,a.NZ,a.hd,a.frames,a.Px,a.TL,a.bs,a.LU,a.KR,a.Ly,a.kq,a.Nj⟩
section
def Inv.l_(I:Inv X a σ H s)(E:et->hH->Prop):Inv (X.l_ E) a σ H s:=⟨I.ok.l_ E,I.os,I.bare,I.base,I.loc,I.cell,I.free,I.H_,I.pin,I.Hi,I.len⟩
def Inv.jc(I:Inv (X.l_ E) a σ H s):Inv X a σ H s:=⟨I.ok.jc,I.os,I.bare,I.base,I.loc,I.cell,I.free,I.H_,I.pin,I.Hi,I.len⟩
def SP.jc(h:SP (X.l_ E) a D f s'):SP X a D f s':=by
 cases f with
 |ret u=>have⟨v,b,H',I,r,q⟩:=h;show⟨v,b,H',I.jc,r,q⟩
 |_=>have⟨b,H',I,q⟩:=h;show⟨b,H',I.jc,q⟩
def IE.Nl{st:List Nb}(h:IE X.Nl st t):IE X st t:=λa s σ H D I b =>
 uv (h a s σ H D (I.l_ _) b) (λ_ _ q=>q.jc) λ_ _ z=>Nd z
end
section
variable{X:Cx}{st:Nb}{rest:List Nb}{t u:TS}{e:nz}{te:TE}{pos:Pos}
abbrev EG:TS:=λD σ H=>D.nx σ H
abbrev Gw(t u:TS):TS:=λD σ H=>t {D with nx:=u D} σ H
def zD:IE X [] EG:=λ_ _ σ H _ I h=>XI ⟨σ,H,I,h⟩
def wo(b:PS X st t)(c:IE X rest u):IE X (st::rest) (Gw t u):=by
 intro a s σ H D I h;show wpAny_execs_cons (Hl (b a s σ H {D with nx:=u D} I h) λf s1 q=>?_);cases f with
 |next =>
  have⟨d,H',g,q⟩:=q;show c a s1 d H' D g q
 |_=>show q
def Inv.quiet(I:Inv X a σ H s):interactive X.env=cK:=by simp[interactive,I.ok.kind]
abbrev EH(te:TE):TS:=λD σ H=>te σ H λ_ a=>D.nx σ a
def j4(b:PE X e te)(hs:Qi e cb pos.line X.env=pure cK:=by rfl):PS X (.Expr e pos) (EH te):=by
 intro a s σ H D I h;show wpAny_Expr_any (Hl (b a s σ H _ I h) λv s1 ⟨x,c,d,g,f⟩=>⟨σ,c,d,f⟩) I.quiet hs
abbrev Gy(te:TE):TS:=λD σ H=>te σ H D.rt
def wq(b:PE X e te):PS X (.Return (bD e) pos) (Gy te):=by
 intro a s σ H D I h;show wpAny_Return_some (Hl (b a s σ H _ I h) λv s1 ⟨x,c,d,f,g⟩=>⟨x,σ,c,d,f,g⟩)
abbrev EI:TS:=λD _ H=>D.rt .Hj H
def zE:PS X (.Return cb pos) EI:=λ_ _ σ H _ I h=>wpAny_Return_none ⟨.Hj,σ,H,I,rfl,h⟩
abbrev Gz(c:TT)(t u:TS):TS:=λD σ H=>c σ H λb a=>if b=b6 then t D σ a else u D σ a
def EJ(k:PT X c l)(m:IE X a t)(n:IE X b u):PS X (.If c a b pos) (Gz l t u):=by
 intro f s σ H D I h;show wpAny_If (Hl (k f s σ H _ I h) λd s1 o=>?_);have⟨g,i,j⟩:=o;cases d with
 |true=>show m f s1 σ g D i j
 |false=>show n f s1 σ g D i j
end
@[reducible]def TG:=V->St->Hp->(St->Hp->Prop)->Prop
@[reducible]def Nm:=List V->St->Hp->(St->Hp->Prop)->Prop
abbrev PG(X:Cx)(a:nz)(t:TG):Prop :=
 ∀(b:List (hU×Obj)) (s:hH) (σ:St) (H:Hp) (v:V) (u:et) (Q:St->Hp->Prop),Inv X b σ H s->RelV v u->t v σ H Q ->
  ez (hW X.prog X.w) X.A (Rf a X.env u) (λ_ s'=>∃c H',Inv X b c H' s'/\Q c H') X.xe s
abbrev N3(X:Cx)(c:List nz)(t:Nm):Prop :=
 ∀(a:List (hU×Obj)) (s:hH) (σ:St) (H:Hp) (vs:List V) (us:List et) (Q:St->Hp->Prop),Inv X a σ H s->Vals vs us->t vs σ H Q ->
  ez (hW X.prog X.w) X.A (assignInOrder ((ON c X.env).map (·.2)) us) (λ_ s'=>∃b H',Inv X a b H' s'/\Q b H') X.xe s
@[reducible]def CK:=V->V->V->Hp->(Hp->Prop)->Prop
abbrev oh(X:Cx)(t:CK):Prop :=
 ∀(a:List (hU×Obj)) (s:hH) (σ:St) (H:Hp) (o i v:V) (b c u:et) (Q:Hp->Prop),Inv X a σ H s->RelV o b->RelV i c->RelV v u->t o i v H Q ->
  ez (hW X.prog X.w) X.A (SH b c u) (λ_ s'=>∃H',Inv X a σ H' s'/\Q H') X.xe s
@[reducible]def PB:=V->V->Hp->VK->Prop
abbrev N4(X:Cx)(b:Zv)(t:PB):Prop :=
 ∀(a:List (hU×Obj)) (s:hH) (σ:St) (H:Hp) (x y:V) (v u:et) (Q:VK),Inv X a σ H s->RelV x v->RelV y u->t x y H Q ->
  ez (hW X.prog X.w) X.A (inplaceOp b v u) (EP X a σ Q) X.xe s
section
abbrev s9(i:Nat):TG:=λv σ H Q=>Q (σ.set i (bD v)) H
def s_(b:X.N.Nodup)(c:X.N[i]?=bD x)(d:Loc X.env.scope x)(e:X.fn x=b6\/X.env.scope.names.lookup x=bD .local:=by first|show .inl rfl|show .inr rfl|assumption):PG X (.Name x pos) (s9 i):=by
 intro a s σ H v u Q I r h;show Z7 (kB I b c d r (λs' f=>⟨_,H,f,h⟩) e)
abbrev EK:Nm:=λvs σ H Q=>vs=[]/\Q σ H
abbrev BU(t:TG)(u:Nm):Nm:=λvs σ H Q=>∃v r,vs=v::r/\t v σ H λa H'=>u r a H' Q
def zF:N3 X [] EK:=by
 intro a s σ H vs us Q I r h;have⟨e,h⟩:=h;subst e;cases r;show assignInOrder_nil ⟨σ,H,I,h⟩
def wt(b:PG X e t)(c:N3 X es u)
  (hs:(ON (e::es) X.env).map (·.2)=Rf e X.env::(ON es X.env).map (·.2):=by rfl):N3 X (e::es) (BU t u):=by
 intro a s σ H vs us Q I r h;have⟨v,m,d,h⟩:=h;subst d;cases r with
 |cons r f =>
  rw[hs];show assignInOrder_cons (Hl (b a s σ H _ _ _ I r h) λ_ s1 g=>?_);have⟨i,j,k,l⟩:=g;show c a s1 i j _ _ Q k f l
abbrev GA(K:PySem.W.Frag)(n:Nat)(t:Nm):TG:=λv σ H Q=>∃a xs,v=.ref a/\HR K H a xs/\xs.length=n/\t xs σ H Q
def CL(f:X.calm=b6)(h:N3 X es t)
  (g:(ON es X.env).length=n:=by rfl) (i:(ON es X.env).findIdx? (·.1)=cb:=by rfl):PG X (.Tuple es k pos) (GA X.K n t):=by
 intro c s σ H v u Q I r d;have⟨a,xs,j,l,hl,d⟩:=d;subst j;cases r;have⟨w,rv,m,hz⟩:=I.tuple l;show assign_Tuple_tuple (I.ok.hd f) m (by simp[g,<-hl,rv.length]) i λh' p=>?_;have q:Inv X c σ H {s with heap:=h' }:=I.kept (t':=s.toks) λb o e=>p b o (hY (eH e)) e;show h c _ σ H xs _ Q q (by simpa using rv) d
abbrev GB(a b:TE)(t:CK):TG:=λv σ H Q=>a σ H λo c=>b σ c λi d=>t o i v d λe=>Q σ e
def wu(ho:PE X o d)(e:PE X i f)(hs:oh X t)
  (g:∀v,Rf (.Subscript o i pos) X.env v=(do
   let b <-Mr [v] (HD o X.env)
   let c <-Mr [v,b] (HD i X.env)
   XO pos
   Mr [v,b,c] (SH b c v)
   VF [v,b,c] []):=by intro _;rfl):PG X (.Subscript o i pos) (GB d f t):=by
 intro a s σ H v u Q I r h;rw[g];show b5 (ux (Hl (ho a s σ H _ I h) λb s1 j=>?_));have⟨x,k,l,m,n⟩:=j;show b5 (ux (Hl (e a s1 σ k _ l n) λc s2 p=>?_));have⟨y,q,w,z,A⟩:=p;show b5 (Yn (b5 (ux (Hl (hs a s2 σ q x y v b c u _ w m z r A) λ_ s3 B=>?_))));have⟨C,D,G⟩:=B;show wpAny_release ⟨σ,C,D,G⟩
abbrev CM(a:TE)(g:TG):TS:=λD σ H=>a σ H λx b=>g x σ b D.nx
def rf(c:PE X e d)(f:PG X b g)(hs:Qx [b] e pos.line X.env=pure cK:=by rfl)(i:UC [b] e X.env=pure cb:=by rfl)
  (j:(ON [b] X.env).map (·.2)=[Rf b X.env]:=by rfl):PS X (.Assign [b] e pos) (CM d g):=by
 intro a s σ H D I h;show wpAny_Assign_stores (Hl (c a s σ H _ I h) λv s1 ⟨x,k,l,m,n⟩=>?_) hs i;rw[j];show Hl (f a s1 σ k x v _ l m n) λ_ s2 q=>q
def wx(c:X.N.Nodup)(d:X.N[i]?=bD x)(f:Loc X.env.scope x)(g:PE X e j)(hs:Qi e (bD (.Name x a)) pos.line X.env=pure cK:=by rfl)(k:X.fn x=b6\/X.env.scope.names.lookup x=bD .local:=by first|show .inl rfl|show .inr rfl|assumption):
  PS X (.Assign [.Name x a] e pos) (CM j (s9 i)):=by
 intro b s σ H D I h;show wpAny_Assign_Name (Hl (g b s σ H _ I h) λv s1 ⟨y,l,m,n,o⟩=>?_) hs;show kB m c d f n (λs2 p=>⟨_,l,p,o⟩) k
abbrev GC(i:Nat)(a:TE)(b:PB):TS:=λD σ H=>∃x,σ[i]?=bD (bD x)/\a σ H λy c=>b x y c λz d=>D.nx (σ.set i (bD z)) d
def CN(j:X.N.Nodup)(d:X.N[i]?=bD x)(b:Loc X.env.scope x)(n:PE X e o)(ho:N4 X f p)(q:X.fn x=b6\/X.env.scope.names.lookup x=bD .local:=by first|show .inl rfl|show .inr rfl|assumption):
  PS X (.AugAssign (.Name x g) f e pos) (GC i o p):=by
 intro a s σ H D I h;have⟨v,t,h⟩:=h;have⟨m,B,hl⟩:=I.loc;have C:Jo X.env.scope x:=by rcases b with k|k;show .inl k;show .inr (.inl k)
 have⟨u,r,l⟩:=hl i x v d t C;show wpAny_AugAssign_Name ?_;have go:ez (hW X.prog X.w) X.A (HD e X.env) (λw G=>ez (hW X.prog X.w) X.A (inplaceOp f u w) (λr J=>ez (hW X.prog X.w) X.A (Ð X.env x r) (λ_=>SP X a D .next) X.xe J) X.xe G) X.xe s:=by
  show Hl (n a s σ H _ I h) λw s1 L=>?_;have⟨y,O,Q,T,Y⟩:=L;show Hl (ho a s1 σ O v y u w _ Q r T Y) λz s2 QM=>?_;have⟨zv,H2,I2,r2,q2⟩:=QM;show kB I2 j d b r2 (λs3 I3=>⟨_,H2,I3,q2⟩) q
 rcases l with⟨hk,hm⟩|⟨hk,c,hc,Kf⟩
 .show Zq I.ok.kind hk B hm go
 .rcases hk with hk|hk
  .show ZJ I.ok.kind hk hc Kf go
  .rcases b with k|k
   .have:X.env.scope.names.lookup x=bD .free:=hk;rw[k]at this;cases this
   .have:X.env.scope.names.lookup x=bD .free:=hk;rw[k]at this;cases this
abbrev EL(a b c:TE)(d:V->V->Hp->VK->Prop)(e:PB)(f:CK):TS:=λD σ H=>a σ H λo g=>b σ g λi h=>d o i h λx j=>c σ j λy k=>e x y k λz l=>f o i z l λm=>D.nx σ m
abbrev EM(X:Cx)(t:V->V->Hp->VK->Prop):Prop :=
 ∀(a:List (hU×Obj)) (s:hH) (σ:St) (H:Hp) (o i:V) (b c:et) (Q:VK),Inv X a σ H s->RelV o b->RelV i c->t o i H Q ->
  ez (hW X.prog X.w) X.A (VH b c) (EP X a σ Q) X.xe s
def zG(ho:PE X o l)(m:PE X i n)(p:EM X q)(r:PE X e t)(u:N4 X w x)(hs:oh X y)
  (z:∀b c new,ë i b c new=(do Mr [new,b,c] (SH b c new);VF [new,b,c] [];pure .next):=by intros;rfl):PS X (.AugAssign (.Subscript o i Vz) w e pos) (EL l n t q x y):=by
 intro a s σ H D I h;show wpAny_AugAssign_SubscriptAny (Hl (ho a s σ H _ I h) λb s1 ⟨f,A,B,g,C⟩=>?_) z;show Hl (m a s1 σ A _ B C) λc s2 G=>?_;have⟨j,J,L,k,N⟩:=G;show Hl (p a s2 σ J f j b c _ L g k N) λd s3 O=>?_;have⟨Q,T,Y,r3,q3⟩:=O;show Hl (r a s3 σ T _ Y q3) λv s4 QQ=>?_;have⟨x4,H4,I4,r4,q4⟩:=QQ;show Hl (u a s4 σ H4 Q x4 d v _ I4 r3 r4 q4) λnew s5 QR=>?_;have⟨x5,H5,I5,r5,q5⟩:=QR;show Hl (hs a s5 σ H5 f j x5 b c new _ I5 g k r5 q5) λ_ s6 ⟨H6,I6,q6⟩=>⟨σ,H6,I6,q6⟩
abbrev QS(f:Int->Int->Int):PB:=λx y H Q=>∃i j,x=.int i/\y=.int j/\Q (.int (f i j)) H
def wy:N4 X .Add (QS λi j=>i+j):=by
 intro a s σ H x y v u Q I b c h;have⟨i,j,d,e,q⟩:=h;subst d;subst e;have⟨t,rfl⟩:=b;have⟨t',rfl⟩:=c;show iadd_int ⟨.int _,H,I.tok _,⟨_,rfl⟩,q⟩
def CO:N4 X .Sub (QS λi j=>i - j):=by
 intro a s σ H x y v u Q I b c h;have⟨i,j,d,e,q⟩:=h;subst d;subst e;have⟨t,rfl⟩:=b;have⟨t',rfl⟩:=c;show isub_int ⟨.int _,H,I.tok _,⟨_,rfl⟩,q⟩
end
section
abbrev CP(c:TT)(f:TS):TS:=λD σ H=>∃W:Nat->St->Hp->Prop,(∃m,W m σ H)/\∀m σ H,W m σ H ->
 c σ H λb a=>if b=b6 then ∃N:St->Hp->Prop,(∀d H',N d H'->∃e,e<m/\W e d H')/\f {D with nx:=N,ct:=N,bk:=D.nx} σ a else D.nx σ a
def wz(r:WK (hW X.prog X.w) X.A X.env X.xe)(z:PT X c B)(C:IE X body G):PS X (.While c body [] pos) (CP B G):=by
 intro a s σ H D I h;obtain⟨W,⟨m0,J⟩,d⟩:=h;show wpAny_While (codeAny_whileLoop (λn s'=>∃t H',Inv X a t H' s'/\W n t H') ?_ m0 ⟨σ,H,I,J⟩);rintro n s1 ⟨i,u,L,O⟩;show M' r (Hl (z a s1 i u _ L (d n i u O)) λb s2 Q=>?_);have⟨v,x,j⟩:=Q;cases b with
 |true =>
  have⟨N,y,j⟩:=j;rw[ö rfl];show M' r (Hl (C a s2 i v _ x j) λf s3 k=>?_);cases f with
  |next =>
   have⟨e,g,l,m⟩:=k;have⟨o,p,q⟩:=y e g m;show⟨o,p,e,g,l,q⟩
  |cont =>
   have⟨e,g,l,m⟩:=k;have⟨o,p,q⟩:=y e g m;show⟨o,p,e,g,l,q⟩
  |_=>show k
 |false =>
  rw[ø k8];show XI ⟨i,v,x,j⟩
end
structure It where
 go:Nat->Hp->Prop
 PD:Nat->Hp->V->Hp->Prop
 stop:Nat->Hp->Prop
abbrev iw(X:Cx)(a:List (hU×Obj))(H:Hp)(b:hU):Prop :=
 H b=cb/\b≠X.env.locals/\b∉X.fs/\(b∈X.ex\/X.s₀.heap.objs.size<=b)/\(∀x c,X.env.cells.lookup x=bD c->c≠b)/\∀p∈X.pn++a,p.1≠b
def Inv.uX(I:Inv X a σ H s)(d:s.heap.objs.size<=b)(f:H' b=cb):iw X a H' b:=by
 show⟨f,u5 (kr I.lt d),I.CC d,.inr (u6 I.sz d),λx c e z=>?_,λp g z=>?_⟩
 .have⟨v,q⟩:=I.cell x c e;show absurd (kr q.lt (by rw[z];show d)) (ve _)
 .show absurd (kr (eH (I.pin p g).1) (by rw[z];show d)) (ve _)
structure Turn(P:Hr)(w:IT)(K:PySem.W.Frag)(tg:nz)(J:It)(fp:List hU)(it:hU)(tn:Nat->J3->Prop):Prop where
 mem:it∈fp
 obj:∀i h,tn i h->∀b∈fp,∃o,h.get? b=bD o/\∀v,o.data≠.cell v
 keep:∀i h h',tn i h->(∀b∈fp,∀o,h.get? b=bD o->h'.get? b=bD o)->tn i h'
 item:∀(X:Cx),X.prog=P->X.w=w->X.K=K->X.calm=b6->∀(i:Nat) (pins:List (hU×Obj)) (s:hH) (σ:St) (H:Hp) (E:et->hH->Prop),Inv X pins σ H s->(∀b∈fp,iw X pins H b)->tn i s.heap->J.go i H ->
  ez (hW P w) X.A (Qk (.ref it)) (λr s1=>∃u,r=bD u /\
   ez (hW P w) X.A (Ti tg (.ref it) u) (λ_ s2=>∃x H',Inv X pins σ H' s2/\RelV x u/\J.PD i H x H'/\tn (i+1) s2.heap/\∀b∈fp,H' b=cb) E s1) E s
 done:∀(X:Cx),X.prog=P->X.w=w->X.K=K->X.calm=b6->∀(i:Nat) (pins:List (hU×Obj)) (s:hH) (σ:St) (H:Hp) (E:et->hH->Prop),Inv X pins σ H s->(∀b∈fp,iw X pins H b)->tn i s.heap->J.stop i H ->
  ez (hW P w) X.A (Qk (.ref it)) (λr s1=>r=cb/\Inv X pins σ H s1) E s
 self:∀(A:MH) (i:Nat) (s:hH) (Q:et->hH->Prop) (E:et->hH->Prop),tn i s.heap->Q (.ref it) s->ez (hW P w) A (X7 (.ref it)) Q E s
@[reducible]def TI:=St->Hp->(It->Hp->Prop)->Prop
abbrev TV(X:Cx)(a:List (hU×Obj))(σ:St)(e:nz)(R:It->Hp->Prop)(f:et)(s2:hH):Prop :=
 ∃(it:hU) (c:List hU) (d:Nat->J3->Prop) (J:It) (H':Hp),f=.ref it/\Inv X a σ H' s2/\Turn X.prog X.w X.K e J c it d/\d 0 s2.heap/\(∀b∈c,iw X a H' b)/\R J H'
abbrev PI(X:Cx)(c b:nz)(d:TI):Prop :=
 ∀(a:List (hU×Obj)) (s:hH) (σ:St) (H:Hp) (R:It->Hp->Prop),Inv X a σ H s->d σ H R ->
  ez (hW X.prog X.w) X.A (HD b X.env) (λv s1=>ez (hW X.prog X.w) X.A (X7 v) (TV X a σ c R) X.xe s1) X.xe s
def wA(ho:s.heap.get? it=bD o)(b:o.cls=.type n)(c:o.data=.fields vs)
    (d:["enumerate","zip","dict_itemiterator","dict_reverseitemiterator","odict_iterator","itertools.zip_longest","itertools.pairwise"].contains n=cK) (a:Q () s):ez M A (Ti e (.ref it) u) Q E s:=by
  unfold Ti;cases e<;>first
    | show d3 a
    | (cases u<;>first
        | show d3 a
        | (show b5 (ZQ ho ?_)
           rw[b,c];change ez M A (if (["enumerate","zip","dict_itemiterator","dict_reverseitemiterator","odict_iterator","itertools.zip_longest","itertools.pairwise"].contains n&&vs[0]?==bD (vr _))=b6 then _ else _) Q E s;rw[ø (by intro h;rw[d,ZP]at h;cases h)];show d3 a))
abbrev QU(K:PySem.W.Frag)(a:hU):It :=
 ⟨λi H=>∃xs x,HM K H a xs/\xs[i]?=bD x,λi H x H'=>H'=H/\∀xs,HM K H a xs->xs[i]?=bD x,λi H=>∃xs,HM K H a xs/\xs.length<=i⟩
abbrev QV(K:PySem.W.Frag)(a:hU):It :=
 ⟨λi H=>∃xs x,HR K H a xs/\xs[i]?=bD x,λi H x H'=>H'=H/\∀xs,HR K H a xs->xs[i]?=bD x,λi H=>∃xs,HR K H a xs/\xs.length<=i⟩
abbrev PH(lo:Int)(n:Nat):It:=⟨λi _=>i<n,λi H x H'=>H'=H/\x=.int (lo+i),λi _=>n<=i⟩
def uY{K:PySem.W.Frag}(a it:hU):Turn P w K tg (QU K a) [it] it (λi h=>h.IsListIter it a i) where
 mem:=by simp
 obj:=λi h st b g=>by
  have e:b=it:=by simpa using g
  subst e;have⟨o,e,c,d⟩:=st;show⟨o,e,λv z=>by rw[d]at z;cases z⟩
 keep:=λi h h' st k=>st.at λo e=>k it (by simp) o e
 item:=by
  intro X m n q G i f s σ H E I j st r;subst m n q;have⟨xs,x,l,t⟩:=r;have⟨J,rv,p,hz⟩:=I.list l;have⟨u,L,N⟩:=rv.get t;have⟨y,A,O,B,C,D⟩:=j it (by simp);show wpAny_pyNext_list_item st p.isList (x:=u) (by simpa using L) λh' st' Q=>?_;have T:Inv X f σ H {s with heap:=h' }:=I.turned (t':=s.toks) (λb o g e=>(Q.2 b g).trans e) y A B C D;have⟨o,e,c,d⟩:=id st';show⟨u,rfl,wA (s:={s with heap:=h' }) e c d (by decide) ⟨x,H,T,N,⟨rfl,λys Y=>by rw[I.kC Y l];show t⟩,st',λb g=>(j b g).1⟩⟩
 done:=by
  intro X m n q G i f s σ H E I j st r;subst m n q;have⟨xs,l,t⟩:=r;have⟨J,rv,p,hz⟩:=I.list l;have⟨y,A,O,B,C,D⟩:=j it (by simp);have hl:=rv.length;show wpAny_pyNext_list_end (I.ok.hd G) st p.isList (by simp;lia) λh' eb=>⟨rfl,I.turned (t':=s.toks) (λb o g e=>eb b o g e) y A B C D⟩
 self:=λ_ _ _ _ _ st h=>wpAny_pyIter_listiter st h
def rg{K:PySem.W.Frag}(a it:hU):Turn P w K tg (QV K a) [it] it (λi h=>h.IsTupleIter it a i) where
 mem:=by simp
 obj:=λi h st b g=>by
  have e:b=it:=by simpa using g
  subst e;have⟨o,e,c,d⟩:=st;show⟨o,e,λv z=>by rw[d]at z;cases z⟩
 keep:=λi h h' st k=>st.at λo e=>k it (by simp) o e
 item:=by
  intro X m n q J i f s σ H E I j st r;subst m n q;have⟨xs,x,l,t⟩:=r;have⟨y,rv,p,hz⟩:=I.tuple l;have⟨u,L,N⟩:=rv.get t;have⟨A,B,O,C,D,G⟩:=j it (by simp);show wpAny_pyNext_tuple_item st (show s.heap.IsTuple a y.toArray from p) (x:=u) (by simpa using L) λh' st' Q=>?_;have T:Inv X f σ H {s with heap:=h' }:=I.turned (t':=s.toks) (λb o g e=>(Q.2 b g).trans e) A B C D G;have⟨o,e,c,d⟩:=id st';show⟨u,rfl,wA (s:={s with heap:=h' }) e c d (by decide) ⟨x,H,T,N,⟨rfl,λys Y=>by rw[I.jb Y l];show t⟩,st',λb g=>(j b g).1⟩⟩
 done:=by
  intro X m n q J i f s σ H E I j st r;subst m n q;have⟨xs,l,t⟩:=r;have⟨y,rv,p,hz⟩:=I.tuple l;have⟨A,B,O,C,D,G⟩:=j it (by simp);have hl:=rv.length;show wpAny_pyNext_tuple_end (I.ok.hd J) st (show s.heap.IsTuple a y.toArray from p) (by simp;lia) λh' eb=>⟨rfl,I.turned (t':=s.toks) (λb o g e=>eb b o g e) A B C D G⟩
 self:=λ_ _ _ _ _ st h=>wpAny_pyIter_tupleiter st h
def rh{K:PySem.W.Frag}(it:hU)(lo:Int)(n:Nat):Turn P w K L (PH lo n) [it] it (λi h=>IsRangeIter h it (lo+(i:Nat) * 1) ((n:Int) - (i:Nat)) 1) where
 mem:=by simp
 obj:=λi h st b c=>by
  have e:b=it:=by simpa using c
  subst e;show⟨_,st,λv z=>by
   have A:Sv _=XM v:=z;cases A⟩
 keep:=λi h h' st k=>k it (by simp) _ st
 item:=by
  intro X f g j l i a s σ H E I d st m;subst f g j;have⟨p,q,B,r,u,x⟩:=d it (by simp);have W:=Walks.range (prog:=X.prog) (w:=X.w) (I.ok.hd l) it lo 1 n;show W.item i s _ _ m st λv h' y C st' D=>?_;have⟨t,rfl⟩:=C;have G:Inv X a σ H {s with heap:=h',toks:=y}:=I.turned (λb o c e=>D b o (by simpa using c) e) p q r u x;show⟨_,rfl,wA (s:={s with heap:=h',toks:=y}) (n:="range_iterator") st' rfl rfl (by decide) ⟨.int (lo+i),H,G,⟨t,?_⟩,⟨rfl,rfl⟩,st',λb c=>(d b c).1⟩⟩;rw[Int.mul_one]
 done:=by
  intro X f g j l i a s σ H E I d st m;subst f g j;have⟨p,q,B,r,u,x⟩:=d it (by simp);show wpAny_pyNext_range_end (I.ok.hd l) st (by have:n<=i:=m;lia) λh' J=>⟨rfl,I.turned (t':=s.toks) (λb o c e=>J b o c e) p q r u x⟩
 self:=λ_ _ _ _ _ st h=>wpAny_pyIter_rangeiter st h
section
abbrev EN(K:PySem.W.Frag)(c:TE):TI:=λσ H R=>c σ H λx b=>∃a,x=.ref a/\(∃xs,HM K b a xs)/\R (QU K a) b
abbrev GD(K:PySem.W.Frag)(c:TE):TI:=λσ H R=>c σ H λx b=>∃a,x=.ref a/\(∃xs,HR K b a xs)/\R (QV K a) b
def zH(hl:PE X l f):PI X r l (EN X.K f):=by
 intro c s σ H R I h;show Hl (hl c s σ H _ I h) λv s1 g=>?_;have⟨x,i,d,j,k⟩:=g;obtain⟨a,e,⟨xs,m⟩,q⟩:=k;subst e;cases j;have⟨t,rv,p,hz⟩:=d.list m;show RM p.isList ?_;show⟨s1.heap.objs.size,[s1.heap.objs.size],_,_,i,rfl,d.kept (t':=s1.toks) λb o e=>cc _ e,uY a _,⟨_,gj _ rfl,rfl,rfl⟩,λb n=>?_,q⟩;have e:b=s1.heap.objs.size:=by simpa using n
 subst e;show d.uX (i5 _) (d.Hi.fresh (i5 _))
def CQ(hl:PE X l f):PI X t l (GD X.K f):=by
 intro c s σ H R I h;show Hl (hl c s σ H _ I h) λv s1 g=>?_;have⟨x,i,d,j,k⟩:=g;obtain⟨a,e,⟨xs,m⟩,q⟩:=k;subst e;cases j;have⟨n,rv,p,hz⟩:=d.tuple m;show MZ (show s1.heap.IsTuple a n.toArray from p) ?_;show⟨s1.heap.objs.size,[s1.heap.objs.size],_,_,i,rfl,d.kept (t':=s1.toks) λb o e=>cc _ e,rg a _,⟨_,gj _ rfl,rfl,rfl⟩,λb r=>?_,q⟩;have e:b=s1.heap.objs.size:=by simpa using r
 subst e;show d.uX (i5 _) (d.Hi.fresh (i5 _))
def wB{lo a:Int}(I:Inv X c σ H s)(g:-(2 ^ 62)<=lo)(h:lo<2 ^ 62)(i:-(2 ^ 62)<=a)(j:a<2 ^ 62)
  (q:R (PH lo (a - lo).toNat) H):ez (hW X.prog X.w) X.A (X7 (.ref s.heap.objs.size)) (TV X c σ n R) E {s with heap:=s.heap.push {cls:=.type "range",data:=.fields #[.int lo t,.int a u,.int 1 v]},toks:=f}:=by
 show wpAny_pyIter_range (IsRange.new ..) (small_one g h i j) ?_;have d:Inv X c σ H {s with heap:=s.heap.push {cls:=.type "range",data:=.fields #[.int lo t,.int a u,.int 1 v]},toks:=f}:=I.kept λb o e=>cc _ e;show⟨(s.heap.push {cls:=.type "range",data:=.fields #[.int lo t,.int a u,.int 1 v]}).objs.size,[(s.heap.push {cls:=.type "range",data:=.fields #[.int lo t,.int a u,.int 1 v]}).objs.size],_,_,H,rfl,
  d.kept (t':=f) λb o e=>cc _ e,rh _ lo (a - lo).toNat,?_,λb k=>?_,q⟩
 .have l:lo+((0:Nat):Int) * 1=lo:=by simp
  have m:(((a - lo).toNat:Nat):Int) - ((0:Nat):Int)=Ö lo a 1:=by rw[rangeSize_one];split<;>lia
  change IsRangeIter _ _ (lo+((0:Nat):Int) * 1) ((((a - lo).toNat:Nat):Int) - ((0:Nat):Int)) 1;rw[l,m];show gj _ rfl
 .have e:b=(s.heap.push {cls:=.type "range",data:=.fields #[.int lo t,.int a u,.int 1 v]}).objs.size:=by simpa using k
  subst e;show d.uX (i5 _) (d.Hi.fresh (i5 _))
abbrev EO(a:TA):TI:=λσ H R=>a σ H λvs b=>∃j:Int,vs=[.int j]/\-(2 ^ 62)<=j/\j<2 ^ 62/\R (PH 0 j.toNat) b
def uZ(d:Gl X "range")(f:X.mg "range"=cb)(g:PA X [a] i)(hs:i9 [a] X.env=[(cK,HD a X.env)]:=by rfl):PI X o (.Call (.Name "range" p) [a] [] pos) (EO i):=by
 intro b s σ H R I h;show Call_ (da I d f boot_range (Kj (Hl (g pos b s σ H _ I h) λus s1 ⟨vs,u,k,l,c⟩=>?_) hs rfl));have⟨j,e,c,m,q⟩:=c;subst e;cases l with
 |cons r n =>
  cases n;have⟨t,rfl⟩:=r;show call_range_1 (wB k ⋯ ⋯ c m (by simpa using q))
abbrev GF(c:TI)(g:TG)(d:TS):TS:=λD σ H=>c σ H λJ e=>∃W:Nat->Nat->St->Hp->Prop,(∃m,W 0 m σ e)/\∀i m σ H,W i m σ H ->
 (J.stop i H/\D.nx σ H)\/(J.go i H/\∃N:St->Hp->Prop,(∀a H',N a H'->∃b,b<m/\W (i+1) b a H')/\∀x H',J.PD i H x H'->g x σ H' λf h=>d {D with nx:=N,ct:=N,bk:=D.nx} f h)
abbrev kD(a:List hU)(h:J3):List (hU×Obj):=a.filterMap λb=>(h.get? b).map λo=>(b,o)
def e_(a:b∈c)(e:h.get? b=bD o):(b,o)∈kD c h:=YX.mpr ⟨b,a,by rw[e];rfl⟩
def u9(a:p∈kD c h):p.1∈c/\h.get? p.1=bD p.2:=by
 have⟨b,d,e⟩:=YX.mp a;cases q:h.get? b with
 |none=>rw[q]at e;cases e
 |some o =>
  rw[q]at e;have f:(b,o)=p:=tr e;subst f;show⟨d,q⟩
def Inv.pinned(I:Inv X a σ H s)(h:∀b∈c,iw X a H b)(ho:∀b∈c,∃o,s.heap.get? b=bD o/\∀v,o.data≠.cell v):Inv X (a++kD c s.heap) σ H s :=
 I.d9 λp i=>(kj.mp i).elim (λz=>I.pin p (mh _ z)) λz=>by
  have⟨f,e⟩:=u9 z;obtain⟨j,k,l,_⟩:=h p.1 f;have⟨o,g,d⟩:=ho p.1 f;rw[e]at g;cases g;show⟨e,j,k,l,d⟩
def Inv.kF(I:Inv X (a++c) σ H s):Inv X a σ H s:=I.d9 λp b=>I.pin p (mh _ (D' _ b))
def CS(t:WK (hW X.prog X.w) X.A X.env X.xe)(hc:X.calm=b6)(hi:PI X tg p wi)(hg:PG X tg g)(c:IE X body tb)
  (hs:∀x,LY p X.env x=pure x:=by intro _;rfl):PS X (.For tg p body [] pos) (GF wi g tb):=by
 intro a s σ H D I h;show wpAny_For (Hl (hi a s σ H _ I h) λv s1 h1=>Hl h1 λPF s2 h2=>?_) hs;obtain⟨it,y,tn,J,H2,e,I2,T,st2,f2,W,⟨m0,w0⟩,z⟩:=h2;subst e;have O:∀{H':Hp},(∀b∈y,H' b=cb)->∀b∈y,iw X a H' b:=λhn b c=>⟨hn b c,(f2 b c).2⟩
 show codeAny_forLoop_any (λn s'=>∃i B H',Inv X a B H' s'/\tn i s'.heap/\(∀b∈y,H' b=cb)/\W i n B H') ?_ m0 ⟨0,σ,H2,I2,st2,λb c=>(f2 b c).1,w0⟩;rintro n s3 ⟨i,C,L,I3,HU,N5,w3⟩;rcases z i n C L w3 with⟨G,qn⟩|⟨go,N,hN,Zr⟩
 .show M' t (Hl (T.done X rfl rfl rfl hc i a s3 C L X.xe I3 (O N5) HU G) λr s4 QY=>?_);have⟨Q,I4⟩:=QY;subst Q;show XI ⟨C,L,I4,qn⟩
 .show M' t (Hl (T.item X rfl rfl rfl hc i a s3 C L X.xe I3 (O N5) HU go) λr s4 QZ=>?_);have⟨u,Q,h4⟩:=QZ;subst Q;show M' t (Hl h4 λ_ s5 Q0=>?_);have⟨x,H5,I5,r5,y5,Y,Q1⟩:=Q0;have Q3:=I5.pinned (O Q1) (T.obj _ _ Y);show M' t (Hl (hg _ s5 C H5 x u _ Q3 r5 (Zr x H5 y5)) λ_ s6 Q4=>?_);have⟨σ6,H6,I6,q6⟩:=Q4;show M' t (Hl (c _ s6 σ6 H6 _ I6 q6) λf s7 q=>?_);have í:∀{j:St} {k:Hp},Inv X (a++kD y s5.heap) j k s7->N j k->∃m,m<n/\∃i B H',Inv X a B H' s7/\tn i s7.heap/\(∀b∈y,H' b=cb)/\W i m B H':=λ{j k} l n7=>by
   have⟨m',hm,w7⟩:=hN j k n7;show⟨m',hm,i+1,j,k,l.kF,T.keep _ _ _ Y λb c o e=>(l.pin (b,o) (mh _ (mh _ (e_ c e)))).1,λb c=>?_,w7⟩;have⟨o,e,d⟩:=T.obj _ _ Y b c;show(l.pin (b,o) (mh _ (mh _ (e_ c e)))).2.1
  cases f with
  |brk=>have⟨j,k,l,q⟩:=q;show⟨j,k,l.kF,q⟩
  |ret v=>have⟨x7,j,k,l,r7,q⟩:=q;show⟨x7,j,k,l.kF,r7,q⟩
  |_=>have⟨j,k,l,n7⟩:=q;show í l n7
end
@[reducible]def R2:=V->V->Hp->VK->Prop
abbrev Jf(X:Cx)(f:et->et->Sem et)(r:R2):Prop :=
 ∀(a:List (hU×Obj)) (s:hH) (σ:St) (H:Hp) (x y:V) (v u:et) (Q:VK),Inv X a σ H s->RelV x v->RelV y u->r x y H Q ->
  ez (hW X.prog X.w) X.A (f v u) (EP X a σ Q) X.xe s
abbrev jA(X:Cx)(f:et)(r:List V->Hp->VK->Prop):Prop :=
 ∀(a:List (hU×Obj)) (s:hH) (σ:St) (H:Hp) (xs:List V) (us:List et) (Q:VK),Inv X a σ H s->Vals xs us->r xs H Q ->
  ez (hW X.prog X.w) X.A (N0 f us) (EP X a σ Q) X.xe s
abbrev GG(X:Cx)(r:V->Hp->(Bool->Hp->Prop)->Prop):Prop :=
 ∀(a:List (hU×Obj)) (s:hH) (σ:St) (H:Hp) (x:V) (v:et) (Q:Bool->Hp->Prop),Inv X a σ H s->RelV x v->r x H Q ->
  ez (hW X.prog X.w) X.A (ç v) (TP X a σ Q) X.xe s
abbrev rI(C:Int->Int->Prop)(g:Int->Int->V):R2:=λx y H Q=>∃i j,x=.int i/\y=.int j/\C i j/\Q (g i j) H
abbrev Mu(g:Int->Int->V):R2:=λx y H Q=>∃i j,x=.int i/\y=.int j/\Q (g i j) H
section
def PJ{g:Int->Int->Int}
  (Ò:∀(i j:Int) (t u:Tok) (s:hH) (Q:et->hH->Prop) (E:et->hH->Prop),C i j->Q (.int (g i j) s.toks) {s with toks:=s.toks+1}->ez (hW X.prog X.w) X.A (f (.int i t) (.int j u)) Q E s) :
  Jf X f (rI C λi j=>.int (g i j)):=by
 intro a s σ H x y v u Q I b c h;have⟨i,j,rfl,rfl,d,q⟩:=h;have⟨t,rfl⟩:=b;have⟨t',rfl⟩:=c;show Ò i j t t' s _ _ d ⟨.int (g i j),H,I.tok _,⟨_,rfl⟩,q⟩
def ER{g:Int->Int->Int}
  (Ò:∀(i j:Int) (t u:Tok) (s:hH) (Q:et->hH->Prop) (E:et->hH->Prop),Q (.int (g i j) s.toks) {s with toks:=s.toks+1}->ez (hW X.prog X.w) X.A (f (.int i t) (.int j u)) Q E s) :
  Jf X f (Mu λi j=>.int (g i j)):=by
 intro a s σ H x y v u Q I b c h;have⟨i,j,rfl,rfl,q⟩:=h;have⟨t,rfl⟩:=b;have⟨t',rfl⟩:=c;show Ò i j t t' s _ _ ⟨.int (g i j),H,I.tok _,⟨_,rfl⟩,q⟩
def CT{g:Int->Int->Bool}
  (Ò:∀(i j:Int) (t u:Tok) (s:hH) (Q:et->hH->Prop) (E:et->hH->Prop),Q (.bool (g i j)) s->ez (hW X.prog X.w) X.A (f (.int i t) (.int j u)) Q E s) :
  Jf X f (Mu λi j=>.bl (g i j)):=by
 intro a s σ H x y v u Q I b c h;have⟨i,j,rfl,rfl,q⟩:=h;have⟨t,rfl⟩:=b;have⟨t',rfl⟩:=c;show Ò i j t t' s _ _ ⟨.bl (g i j),H,I,rfl,q⟩
abbrev GH(i j:Int):Prop:=0<j/\j<1073741824
abbrev GI(i j:Int):Prop:=0<=j/\j<=1000000/\i.natAbs<2 ^ 64
abbrev CU(i j:Int):Prop:=(-(2 ^ 64)<i/\i<2 ^ 64)\/(-(2 ^ 64)<j/\j<2 ^ 64)
def CU.ok(h:CU i j):IntMulOk i j:=by
 rcases h with⟨a,b⟩|⟨a,b⟩
 .show .of_left (intBits_le_64 a b)
 .show .of_right (intBits_le_64 a b)
def cB:Jf X (N' .Add) (Mu λi j=>.int (i+j)):=ER λ_ _ _ _ _ _ _ q=>add_int q
def fb:Jf X (N' .Sub) (Mu λi j=>.int (i - j)):=ER λ_ _ _ _ _ _ _ q=>sub_int q
def kG:Jf X (N' .Mult) (rI CU λi j=>.int (i * j)):=PJ λ_ _ _ _ _ _ _ a q=>mul_int q a.ok
def zI:Jf X (N' .FloorDiv) (rI GH λi j=>.int (i / j)):=PJ λi j _ _ _ _ _ a q=>by
 have b:(0:Int)<j:=a.1;have c:j<1073741824:=a.2;show floordiv_int ⋯ (by rw[Int.fdiv_eq_ediv_of_nonneg i ⋯];show q) (.inl (PyProof.noPylong_small ⋯))
def eD:Jf X (N' .Mod) (rI (λ_ j=>0<j) λi j=>.int (i % j)):=PJ λi j _ _ _ _ _ a q=>by
 have b:(0:Int)<j:=a;show mod_int' ⋯ (by rw[Int.fmod_eq_emod_of_nonneg i ⋯];show q)
def oi:Jf X (N' .Pow) (rI GI λi j=>.int (i ^ j.toNat)):=PJ λ_ _ _ _ _ _ _ a q=>pow_int_small a.1 a.2.1 a.2.2 q
end
section
def oj(I:Inv X a σ H s)(q:Q (.bl k) H)(e:k=k'):EP X a σ Q (.bool k') s:=by
 subst e;show⟨.bl k,H,I,rfl,q⟩
def ES:Jf X (LJ .Lt) (Mu λi j=>.bl (df (i<j))):=CT λ_ _ _ _ _ _ _ q=>lt_int q
def ET:Jf X (LJ .Gt) (Mu λi j=>.bl (df (j<i))):=CT λ_ _ _ _ _ _ _ q=>gt_int q
def EU:Jf X (LJ .GtE) (Mu λi j=>.bl (df (j<=i))):=CT λ_ _ _ _ _ _ _ q=>ge_int q
def CV:Jf X (LJ .Is) (λx y H Q=>y=.Hj/\Q (.bl (df (x=.Hj))) H):=by
 intro a s σ H x y v u Q I b c h;have⟨rfl,q⟩:=h;cases c;show is_none_gen (oj I q ?_);cases x<;>first
  |(cases b;rfl)
  |(have⟨t,rfl⟩:=b;rfl)
def zJ:Jf X (LJ .IsNot) (λx y H Q=>y=.Hj/\Q (.bl (!df (x=.Hj))) H):=by
 intro a s σ H x y v u Q I b c h;have⟨rfl,q⟩:=h;cases c;show isnot_none_gen (oj I q ?_);cases x<;>first
  |(cases b;rfl)
  |(have⟨t,rfl⟩:=b;rfl)
abbrev EV(K:PySem.W.Frag)(x:V)(H:Hp)(k:Bool):Prop :=
 match x with
 |.Hj=>k=cK
 |.bl b=>k=b
 |.int i=>k=(i != 0)
 |.str y=>y.length<=dV/\k=((y.length:Int) != 0)
 |.Pq y=>y.size<=dV/\k=((y.size:Int) != 0)
 |.ref p=>(∃xs,HM K H p xs/\k=!xs.isEmpty)\/(∃xs,HR K H p xs/\k=!xs.isEmpty)\/∃kvs,H p=bD (.dK kvs)/\k=!kvs.isEmpty
 |_=>False
def rj(r:KV kvs vs):(!vs.isEmpty)=!kvs.isEmpty:=by
 cases r<;>rfl
def kH(r:Vals xs a):(!a.toArray.isEmpty)=!xs.isEmpty:=by
 cases r<;>simp
def fL:(dV:Nat)<2 ^ 63:=by rw[sizeLine_eq];decide
def CW:GG X (λx H Q=>∃k,EV X.K x H k/\Q k H):=by
 intro j s σ H x v Q I d h;have⟨k,e,q⟩:=h;have hl:=fL;have hs:dV=16777216:=sizeLine_eq;cases x with
 |Hj =>
  cases d;have a:k=cK:=e;subst a;show truthy_none ⟨H,I,q⟩
 |bl b =>
  cases d;have a:k=b:=e;subst a;show LV ⟨H,I,q⟩
 |int i =>
  have⟨t,rfl⟩:=d;have a:k=(i != 0):=e;subst a;show PySem.P.truthy_int ⟨H,I,q⟩
 |str y =>
  have⟨t,rfl⟩:=d;obtain⟨l,a⟩:y.length<=dV/\k=((y.length:Int) != 0):=e;subst a;show PySem.P.truthy_str ⋯ ⟨H,I.tok _,q⟩
 |Pq y =>
  have⟨t,rfl⟩:=d;obtain⟨l,a⟩:y.size<=dV/\k=((y.size:Int) != 0):=e;subst a;show PySem.W.truthy_bytes ⋯ ⟨H,I.tok _,q⟩
 |ref p =>
  cases d;have a:(∃xs,HM X.K H p xs/\k=!xs.isEmpty)\/(∃xs,HR X.K H p xs/\k=!xs.isEmpty)\/∃kvs,H p=bD (.dK kvs)/\k=!kvs.isEmpty:=e;rcases a with⟨xs,f,a⟩|⟨xs,f,a⟩|⟨kvs,f,a⟩
  .subst a;have⟨n,r,g,hz⟩:=I.list f;have c:=r.length;show wpAny_truthy_list g.isList (by simp only[hZ];lia) ⟨H,I.tok _,by rw[kH r];show q⟩
  .subst a;have⟨n,r,g,hz⟩:=I.tuple f;have c:=r.length;show truthy_tuple g (by simp only[hZ];lia) ⟨H,I.tok _,by rw[kH r];show q⟩
  .subst a;obtain⟨hz,o,vs,r,m⟩:kvs.length<=dV/\(p==M4)=cK/\∃vs,KV kvs vs/\s.heap.DictOf (aS X.prog X.w) p vs:=I.Hi p _ f;have c:kvs.length=vs.length:=Paired.length r;show wpAny_truthy_dict o m ⋯ ⟨H,I.tok _,by rw[rj r];show q⟩
 |_=>show(show False from e).elim
def wC(d:PE X a e)(f:∀b,isTrue a X.env b=(do let v <-b;XO a.pos;Mr [v] (ç v))):
  PT X a (λσ H Q=>e σ H λx H'=>∃k,EV X.K x H' k/\Q k H'):=by
 intro c s σ H Q I h;show isTrue_plain (Hl (d c s σ H _ I h) λv s1 ⟨x,g,i,j,l⟩=>CW c s1 σ g x v Q i j l) (f _)
def rm:Jf X (N' .Add) (λx y H Q=>∃i j,x=.str i/\y=.str j/\i.length+j.length<=dV/\Q (.str (i++j)) H):=by
 intro a s σ H x y v u Q I b c h;have⟨i,j,rfl,rfl,hz,q⟩:=h;have⟨t,rfl⟩:=b;have⟨t',rfl⟩:=c;show add_str (λt' d=>⟨.str (i++j),H,I.tok _,⟨_,rfl⟩,q⟩) hz
def vals1(r:Vals [x] us):∃u,us=[u]/\RelV x u:=by
 cases r with
 |cons a b=>cases b;show⟨_,rfl,a⟩
def vals2(r:Vals [x,y] us):∃u a,us=[u,a]/\RelV x u/\RelV y a:=by
 cases r with
 |cons b c =>
  cases c with
  |cons d e=>cases e;show⟨_,_,rfl,b,d⟩
def om:jA X (.type "str") (λxs H Q=>∃i,xs=[.int i]/\i.natAbs.log2<1920/\Q (.str (R_ i)) H):=by
 intro a s σ H xs us Q I r h;have⟨i,rfl,hz,q⟩:=h;have⟨u,rfl,t,rfl⟩:=vals1 r;show PySem.P.str_of_int hz ⟨.str _,H,I.tok _,⟨_,rfl⟩,q⟩
end
section
end
def jQ.some_of(r:jQ (bD v) o):∃u,o=bD u/\RelV v u:=by
 cases o with
 |none=>show(show False from r).elim
 |some u=>show⟨u,rfl,r⟩
section
end
structure VA(K:PySem.W.Frag)(C:hU):Prop where
 pg:PySem.W.plainGet K C uk=b6
 hd:PySem.W.hasDictIn K C=b6
 po:PySem.W.plainOver K C=b6
 sa:PySem.W.findIn K (.ref C) "__setattr__"=bD (bD (.builtin "object.__setattr__"))
section
end
section
end
section
inductive kI(K:PySem.W.Frag)(H:Hp):V->et->Prop where
 |Hj:kI K H .Hj (.type "NoneType")
 |bl (x:Bool):kI K H (.bl x) (.type "bool")
 |int (i:Int):kI K H (.int i) (.type "int")
 |str (x:Str):kI K H (.str x) (.type "str")
 |Pt (x:UInt64):kI K H (.Pt x) (.type "float")
 |lst {a:hU} {xs:List V} (e:H a=bD (.lst xs)):kI K H (.ref a) (.type "list")
 |IV {a:hU} {o:Obj} {xs:List V} (e:H a=bD (.IV o (.lst xs))):kI K H (.ref a) (.type "list")
 |tup {a:hU} {xs:List V} (e:H a=bD (.tup xs)):kI K H (.ref a) (.type "tuple")
 |dK {a:hU} {kvs:List (Key×V)} (e:H a=bD (.dK kvs)):kI K H (.ref a) (.type "dict")
 |dT {a:hU} {kvs:List (List Key×V)} (e:H a=bD (.dT kvs)):kI K H (.ref a) (.type "dict")
 |ins {a C dx:hU} {fs:List (Str×V)} (e:H a=bD (.ins C dx fs)) (cl:VA K C) (ha:PySem.W.findIn K (.ref C) "__class__"=bD (bD (.builtin "object.__class__")))
   (hn:PySem.W.specialIn K (.builtin "object.__class__") "__get__"=bD (bD (.builtin "getset_descriptor.__get__"))) (VB:PySem.W.takesIn K (.builtin "object.__class__")=bD b6)
   (hm:PySem.W.mroIn K C (.type "object")=bD b6):kI K H (.ref a) (.ref C)
end
structure gE(k:Nat)(A:MH):Prop where
 hd:A.handled=cb
 dp:A.depth+3 * k+5<è
 un:A.units+16 * k+200<Lk
 gd:A.guards=bD []
def gE.deeper(r:gE (k+1) A)(env:Env):gE k (A.deeper env) :=
 ⟨r.hd,by have:=r.dp;change A.depth+1+3 * k+5 < _;lia,by have:=r.un;change A.units+3+16 * k+200 < _;lia,r.gd⟩
def gE.depth(r:gE k A):A.depth<è:=by have:=r.dp;lia
abbrev GJ:TA:=λ_ H Q=>Q [] H
abbrev EW(a:TE)(b:TA):TA:=λσ H Q=>a σ H λx c=>b σ c λxs d=>Q (x::xs) d
section
def jd:PA X [] GJ:=λ_ _ _ _ H Q I h=>Q2 ⟨[],H,I,.nil,h⟩
def fc(b:PE X e c)(d:PA X es t)(hs:i9 (e::es) X.env=(cK,HD e X.env)::i9 es X.env:=by rfl):PA X (e::es) (EW c t):=by
 intro pos a s σ H Q I h;rw[hs];change ez _ _ (Z8 ((cK,HD e X.env)::Jx pos (i9 es X.env))) _ _ s;show Ox (Hl (b a s σ H _ I h) λu s1 f=>?_);have⟨x,g,i,j,k⟩:=f;show Hl (d pos a s1 σ g _ i k) λus s2 ⟨xs,l,m,n,o⟩=>⟨x::xs,l,m,.cons j n,o⟩
end
@[reducible]def Sp:=List V->Hp->VK->XK->Prop
@[reducible]def Nn:=List Env->Hp->hH->XK->et->hH->Prop
structure zK(P:Hr)(w:IT)(K:PySem.W.Frag)(mg:Str->Option et)(base:J3)(A:MH)(outer:List Env)(s:hH)(H:Hp):Prop where
 frames:A.frames=bD outer
 mod:Mod K mg base
 bs:∀b o,base.get? b=bD o->s.heap.get? b=bD o/\H b=cb
 LU:base.objs.size<=s.heap.objs.size
 kq:s.heap.FunFrames base outer
 Nj:∀b∈Ke outer,H b=cb
 Hi:IB P w H s.heap
 bare:Tb s.gens
abbrev CE(outer:List Env)(P:Hr)(w:IT)(H:Hp)(s:hH)(Q:VK)(u:et)(s':hH):Prop :=
 ∃v H',s'.os=s.os/\Tb s'.gens/\Un (Ke outer) [] H H' s.heap s'.heap/\IB P w H' s'.heap/\RelV v u/\Q v H'
abbrev CR(CX:Nn)(outer:List Env)(P:Hr)(w:IT)(H:Hp)(s:hH)(Q:VK)(E:XK)(r:Result)(s':hH):Prop :=
 match r with
 |.ok (.ret u)=>CE outer P w H s Q u s'
 |.ok _=>False
 |.error e=>CX outer H s E e s'
structure kJ(P:Hr)(w:IT)(K:PySem.W.Frag)(mg:Str->Option et)(base:J3)(CX:Nn)(k:Nat)(f:hU)(fd:Rg)(ps:List Str)(sp:Sp):Prop where
 len:∀vs H Q E,sp vs H Q E->vs.length=ps.length
 run:∀(A:MH) (outer:List Env) (s:hH) (H:Hp) (args:Args) (us:List et) (vs:List V) (Q:VK) (E:XK),gE k A->zK P w K mg base A outer s H->Y' s fd args (ps.zip us)->Vals vs us->sp vs H Q E ->
  Qy (hW P w) A (.call (.ref f) args) (CR CX outer P w H s Q E) s
section
def Inv.GK(I:Inv X a σ H s):zK X.prog X.w X.K X.mg X.base X.A X.stack s H :=
 ⟨I.ok.frames,I.ok.mod,I.bs,u6 I.ok.LU I.sz,I.stack,I.sZ,I.Hi,I.bare⟩
def Inv.after(I:Inv X a σ H s)(h:CE X.stack X.prog X.w H s Q u s'):EP X a σ Q u s':=by
 have⟨v,H',os,c,e,f,r,q⟩:=h;have⟨i,g,d,t,j⟩:=s';obtain rfl:j=s.os:=os;show⟨v,H',I.call (h':=i) (g':=g) (d':=d) (t':=t) (ch:=[]) e f c (λb z=>absurd z (by simp)),r,q⟩
end
abbrev Binds(K:PySem.W.Frag)(b:Rg)(ps:List Str)(a:List et):Prop :=
 ∀(s:hH) (us:List et),K.In s.heap->(us++a).length=ps.length->Y' s b ⟨us,[]⟩ (ps.zip (us++a))
def Binds.all{K:PySem.W.Frag}(h:∀us:List et,us.length=ps.length->ê a ⟨us,[]⟩=pure (ps.zip us)):Binds K a ps []:=λs us _ hl=>by
 rw[u7]at hl ⊢;show .of_eq (h us hl)
abbrev Passes(CX:Nn)(X:Cx)(E:XK):Prop:=∀(a:List (hU×Obj)) (σ:St) (H:Hp) (s:hH) (e:et) (s':hH),Inv X a σ H s->CX X.stack H s E e s'->X.xe e s'
section
def wD(F:kJ X.prog X.w X.K X.mg X.base CX k f i ps sp)(j:gE k X.A)(l:Binds X.K i ps b)(m:Vals c b)(n:Passes CX X E)
  (I:Inv X a σ H s) (r:Vals vs us) (h:sp (vs++c) H Q E):ez (hW X.prog X.w) X.A (N0 (.ref f) us) (EP X a σ Q) X.xe s:=by
 have g:Vals (vs++c) (us++b):=r.append m;have hl:(us++b).length=ps.length:=by rw[<-g.length];show F.len _ _ _ _ h
 show wpAny_call (SN (F.run X.A X.stack s H ⟨us,[]⟩ (us++b) (vs++c) Q E j I.GK (l s us I.Mp hl) g h) λr s' d=>?_);cases r with
 |error e=>show n a σ H s e s' I d
 |ok o =>
  cases o with
  |ret u=>show I.after d
  |_=>show Nd d
end
section
end
structure d_(N P:List Str)(sc:ME):Prop where
 kind:sc.kind=.function
 co:sc.isCoroutine=cK
 gen:sc.isGenerator=cK
 nd:N.Nodup
 pre:N.take P.length=P
 par:∀x∈P,sc.names.lookup x=bD .local\/sc.names.lookup x=bD .cell
 Mw:∀y∈sc.names,y.2≠.free
theorem mI{kindOf:Str->Option Oo}:∀{a:List (Str×et)}{m:Str->Option et},(∀v,(x,v)∉a)->YR kindOf a m x=m x
 |[],_,_=>rfl
 |(n,v)::r,m,h=>by
  unfold YR;rw[mI λw b=>h w (td _ b)];split
  .have:x≠n:=by rintro rfl;show h v nH
   simp[this]
  .rfl
theorem mJ{kindOf:Str->Option Oo}:∀{a:List (Str×et)}{m:Str->Option et},(∀v,(x,v)∉a)->YS kindOf a m x=m x
 |[],_,_=>rfl
 |(n,v)::r,m,h=>by
  unfold YS;rw[mJ λw b=>h w (td _ b)];split
  .rfl
  .have:x≠n:=by rintro rfl;show h v nH
   simp[this]
theorem mK{kindOf:Str->Option Oo}:∀{P:List Str}{vs:List et}{i:Nat}{m:Str->Option et},P.Nodup->P[i]?=bD x->vs[i]?=bD v->kindOf x=bD .local ->
  YR kindOf (P.zip vs) m x=bD v
 |[],_,_,_,_,h,_,_=>by simp at h
 |_::_,[],_,_,_,_,h,_=>by simp at h
 |p::P,w::vs,0,m,c,a,b,hk=>by
  simp at a b;subst a;subst b;change YR kindOf ((p,w)::P.zip vs) m p=_;unfold YR;rw[mI λv d=>(mA.mp c).1 (P8 d).1,ö hk];simp
 |p::P,w::vs,i+1,m,c,a,b,hk=>by
  change YR kindOf ((p,w)::P.zip vs) m x=_;unfold YR;show mK (i:=i) (mA.mp c).2 (by simpa using a) (by simpa using b) hk
theorem mL{kindOf:Str->Option Oo}:∀{P:List Str}{vs:List et}{i:Nat}{m:Str->Option et},P.Nodup->P[i]?=bD x->vs[i]?=bD v->kindOf x≠bD .local ->
  YS kindOf (P.zip vs) m x=bD v
 |[],_,_,_,_,h,_,_=>by simp at h
 |_::_,[],_,_,_,_,h,_=>by simp at h
 |p::P,w::vs,0,m,c,a,b,hk=>by
  simp at a b;subst a;subst b;change YS kindOf ((p,w)::P.zip vs) m p=_;unfold YS;rw[mJ λv d=>(mA.mp c).1 (P8 d).1,ø hk];simp
 |p::P,w::vs,i+1,m,c,a,b,hk=>by
  change YS kindOf ((p,w)::P.zip vs) m x=_;unfold YS;show mL (i:=i) (mA.mp c).2 (by simpa using a) (by simpa using b) hk
abbrev start(N:List Str)(vs:List V):St:=vs.map bD++ki (N.length - vs.length) cb
abbrev pL(CX:Nn)(P:Hr)(w:IT)(K:PySem.W.Frag)(mg:Str->Option et)(base:J3)(N:List Str)(a:Str)(scope:ME)(f:hU)(b:et)(A:MH)(outer:List Env)(s:hH)(H:Hp)(E:XK):Cx where
 prog:=P
 w:=w
 K:=K
 mg:=mg
 base:=base
 A:=A.deeper (Ta a scope s.heap.objs.size f b)
 N:=N
 s₀:=s
 H₀:=H
 env:=Ta a scope s.heap.objs.size f b
 outer:=outer
 stack:=Ta a scope s.heap.objs.size f b::outer
 ex:=[]
 calm:=b6
 fn:=λ_=>b6
 pn:=[]
 xe:=λe s'=>ez (hW P w) (A.deeper (Ta a scope s.heap.objs.size f b)) (leaving (Ta a scope s.heap.objs.size f b) e) (λ_ c=>CX outer H s E e c) (λd c=>CX outer H s E d c) s'
def pM{a:ME}(h:a.names.lookup x=bD .cell):∃c,(Ô n a.names []).lookup x=bD c:=by
 have q:=PySem.W.cellsFrom_some a.names n [] (.inl h);show Q5.mp q
def u_{K:PySem.W.Frag}
  (S:d_ N ps scope) (G:A.handled=cb) (j:zK P w K mg base A outer s H) (hl:vs.length=ps.length) (r:Vals vs us)
  (x:InCallC s s.heap.objs.size (YR (Ta g scope s.heap.objs.size f t).kindOf (ps.zip us) λ_=>cb) (Ô (s.heap.objs.size+1) scope.names []) (YS (Ta g scope s.heap.objs.size f t).kindOf (ps.zip us) λ_=>cb) s1) :
  Inv (pL CX P w K mg base N g scope f t A outer s H E) [] (start N vs) H s1:=by
 have J:ps.length<=N.length:=by have:=ü H8 S.pre;rw[HY]at this;lia
 have⟨m,L,rfl,hk⟩:=x.done;have B:∀b:hU,b∉(pL CX P w K mg base N g scope f t A outer s H E).ex:=λb z=>absurd (show b∈([]:List hU) from z) (by simp);show⟨⟨j.mod,S.kind,rfl,rfl,i5 _,λy z c m d=>?_,λy hy=>?_,λy c _ h=>?_,λ_=>G,Around.frames_deeper j.frames,.inr ⟨rfl,rfl⟩,λb z=>absurd z (B b),j.bs,j.LU,λb _ _=>B b,λb z=>absurd z (B b),j.kq,j.Nj⟩,
  rfl,j.bare,Un.kept hk,⟨_,x.toInCall.ns,λi y v m d O=>?_⟩,λy c h=>⟨_,x.cell y c h⟩,j.Hi.fresh (i5 _),λy c h=>?_,λp l=>absurd (show p∈([]:List (hU×Obj)) from l) (by simp),j.Hi.kept hk,?_⟩
 .show name_of_addr x.apart (PySem.mem_of_lookup m) (PySem.mem_of_lookup d)
 .have hy:scope.names.lookup y=bD .cell\/scope.names.lookup y=bD .free:=hy;rcases hy with hy|hy
  .show pM hy
  .show absurd rfl (S.Mw _ (PySem.mem_of_lookup hy))
 .show O3 (x.above y c (PySem.mem_of_lookup h))
 .have o:i<vs.length:=by
   unfold start at d;by_cases o:i<vs.length
   .show o
   .rw[rr (by simpa using o)]at d;rw[Km]at d;split at d<;>cases d
  have I:vs[i]?=bD v:=by
   unfold start at d;rw[vl (by simpa using o),ko]at d;cases e:vs[i]? with
   |none=>rw[e]at d;cases d
   |some a=>rw[e]at d;cases d;rfl
  have⟨u,C,rv⟩:=r.get I;have l:ps[i]?=bD y:=by
   rw[<-S.pre,Xe ⋯];show m
  have D:ps.Nodup:=by rw[<-S.pre];show S.nd.sublist (Zf _ _)
  show⟨u,rv,?_⟩;rcases S.par y (oT l) with k|k
  .show .inl ⟨k,mK D l C k⟩
  .have⟨c,e⟩:=pM (n:=s.heap.objs.size+1) k;show .inr ⟨.inl k,c,e,?_⟩;have q:=x.cell y c e;rw[mL D l C (by change scope.names.lookup y≠_;rw[k];decide)]at q;show q
 .show j.Hi.fresh (O3 (x.above y c (PySem.mem_of_lookup h)))
 .unfold start;change _=N.length;rw[i7,dt,Pk];lia
def EX{K:PySem.W.Frag}{z kV g B d ct G:et}
 (lk:K.lookup f=bD ⟨G,od,.func (PySem.W.fnOf name a c body scope z kV g B L d ct),N8⟩) (O:PySem.W.codeIn K d a=b6) (S:d_ N ps scope)
    (h:∀vs H Q E,sp vs H Q E->vs.length=ps.length)
    (T:∀(A:MH) (outer:List Env) (s:hH) (H:Hp) (vs:List V) (Q:VK) (E:XK),gE k (A.deeper (Ta a scope s.heap.objs.size f d))->sp vs H Q E ->
      ∃t,IE (pL CX P w K mg base N a scope f d A outer s H E) body t/\t {nx:=λ_ H'=>Q .Hj H',rt:=Q} (start N vs) H) :
    kJ P w K mg base CX (k+1) f (PySem.W.fnOf name a c body scope z kV g B L d ct) ps sp:=by
  show⟨h,λA outer s H args us vs Q E m i Y r C=>?_⟩;have hl:=h _ _ _ _ C;have D:K.In s.heap:=i.mod.Pw.keeps λb o e=>(i.bs b o e).1;have p:s.heap.NoLimit:=i.mod.nolimit.keeps λb o e=>(i.bs b o e).1;have N9:∀y∈ps.zip us,scope.names.lookup y.1=bD .local\/(scope.names.lookup y.1=bD .cell/\((Ô (s.heap.objs.size+1) scope.names []).lookup y.1).isSome=b6):=λ⟨n,v⟩ hy=>by
    rcases S.par n (P8 hy).1 with q|q
    . show .inl q
    . show .inr ⟨q,PySem.W.cellsFrom_some _ _ _ (.inl q)⟩
  show codeAny_call_function m.depth (D _ _ lk) rfl S.co S.gen rfl (PySem.W.codeRec_of D O) (Y _ _ _ _ ?_);show wpAny_newFunctionEnv_cells S.kind N9 λenv he s1 x=>?_;subst he;show⟨p.keeps x.toInCall.keep,codeAny_func ?_⟩;have⟨t,ht,hq⟩:=T A outer s H vs Q E (m.deeper _) C;have I:Inv (pL CX P w K mg base N a scope f d A outer s H E) [] (start N vs) H s1:=u_ S m.hd i hl r x;show uv (ht [] s1 (start N vs) H _ I hq) (λfl s' hs=>?_) λe s' hs=>hs;have j:∀{l:St} {H':Hp} {v:V} {u:et},Inv (pL CX P w K mg base N a scope f d A outer s H E) [] l H' s'->RelV v u->Q v H'->CE outer P w H s Q u s' :=
    λ{l H' v u} J rv q=>⟨v,H',J.os,J.bare,J.base,J.Hi,rv,q⟩
  cases fl with
  | ret u =>
    have⟨v,l,H',J,rv,q⟩:=hs;show j J rv q
  | next =>
    have⟨l,H',J,q⟩:=hs;show j (v:=V.Hj) (u:=ro) J rfl q
  | brk =>
    obtain⟨_,_,_,q⟩:=hs;show Nd q
  | cont =>
    obtain⟨_,_,_,q⟩:=hs;show Nd q
section
end
end L2
namespace HT
open PySem PyProof.Rows
section
open PySem.SeqAt
open PySem.AutoSeq1 (wpAny_loadPart')
open PySem.MeetsSeq PySem.MeetsSeq2 PySem.MeetsSeq3
end
section
def zL(p:ô s.heap t vs.toArray)(q:ô s.heap b ws.toArray)(f:vs≠[])
  (r:ws=[]->Q (.ref t) s) (u:ws≠[]->Q (.ref s.heap.objs.size) {s with heap:=s.heap.push {cls:=.type "tuple",data:=.seq (vs++ws).toArray}})
  (hsz:vs.length+ws.length<=dV):ez (hW prog w) A (N' .Add (.ref t) (.ref b)) Q E s:=by
 obtain⟨⟨cls,g,data,h⟩,ho,i,n,j⟩:=id p;obtain⟨⟨v,k,data2,l⟩,c,m,o,a⟩:=id q;simp only at i j m a;subst i j m a;have e:vs.toArray++ws.toArray=(vs++ws).toArray:=by simp
 by_cases d:ws=[]
 .show VM ⟨_,ho,rfl⟩ ⟨_,c,rfl⟩ WJ Yv PySem.F.slot_tuple_add PySem.F.entry_tuple_add (PySem.F.args_tuple_add_2 _ _)
   (tuple_addW1 t b vs.toArray ws.toArray n o g k h l (by simpa using f) (by simp[d])) ⟨ho,c,r d⟩
 .show VM ⟨_,ho,rfl⟩ ⟨_,c,rfl⟩ WJ Yv PySem.F.slot_tuple_add PySem.F.entry_tuple_add (PySem.F.args_tuple_add_2 _ _)
   (tuple_addW2 t b vs.toArray ws.toArray n o g k h l (by simpa using f) (by simpa using d) (by rw[hZ,hZ];show hsz)) ⟨ho,c,?_⟩
  rw[e];show u d
abbrev Jg(n d:Nat):Option Int->Nat
 |none=>d
 |some v=>if v<0 then(v+(n:Int)).toNat else min v.toNat n
def zM(n d k:Nat):Jg n d (bD (k:Int))=min k n:=by
 change(if (k:Int)<0 then((k:Int)+(n:Int)).toNat else min (k:Int).toNat n)=min k n;rw[ø ⋯,M_]
end
end HT
namespace L2
open PySem PySem.Spec PyProof.Rows
@[reducible]def TO:=St->Hp->(Option Int->Hp->Prop)->Prop
abbrev PO(X:Cx)(e:Option nz)(t:TO):Prop :=
 ∀(a:List (hU×Obj)) (s:hH) (σ:St) (H:Hp) (Q:Option Int->Hp->Prop),Inv X a σ H s->t σ H Q ->
  ez (hW X.prog X.w) X.A (evalPart e X.env) (λu s'=>∃o H',Inv X a σ H' s'/\IsPart u o/\Q o H') X.xe s
abbrev zN:TO:=λ_ H Q=>Q cb H
abbrev EY(t:TE):TO:=λσ H Q=>t σ H λx a=>∃i,x=.int i/\Q (bD i) a
section
variable{X:Cx}{e:nz}{te:TE}{lo hi:Option nz}{tl th:TO}{pos p2:Pos}
def zO:PO X cb zN:=by
 intro a s σ H Q I h;rw[evalPart_none];show d3 ⟨cb,H,I,.none,h⟩
def zP(h:PE X e te):PO X (bD e) (EY te):=by
 intro a s σ H Q I b;rw[evalPart_some];show Hl (h a s σ H _ I b) λu s1 c=>?_;have⟨x,d,f,g,j⟩:=c;have⟨i,rfl,q⟩:=j;have⟨t,rfl⟩:=g;show⟨bD i,d,f,.int i t,q⟩
abbrev LZ(X:Cx)(r:V->Option Int->Option Int->Hp->VK->Prop):Prop :=
 ∀(a:List (hU×Obj)) (s:hH) (σ:St) (H:Hp) (x:V) (v b c:et) (lo hi:Option Int) (d:hU) (Q:VK),Inv X a σ H s->RelV x v->s.heap.IsSliceOf d b c .none->IsPart b lo->IsPart c hi->r x lo hi H Q ->
  ∃T id,UQ (.type T) "__getitem__"=pure (bD (.builtin id))/\s.TypeIs v T/\ez (hW X.prog X.w) X.A (VH v (.ref d)) (EP X a σ Q) X.xe s
def LZ.or(h:LZ X r)(h':LZ X j):LZ X (λx lo hi H Q=>r x lo hi H Q\/j x lo hi H Q):=by
 intro a s σ H x v b c lo hi d Q I f hs g i q;rcases q with q|q
 .show h a s σ H x v b c lo hi d Q I f hs g i q
 .show h' a s σ H x v b c lo hi d Q I f hs g i q
abbrev VC(r:V->Option Int->Option Int->Hp->VK->Prop)(te:TE)(tl th:TO):TE:=λσ H Q=>te σ H λx a=>tl σ a λl b=>th σ b λu c=>r x l u c Q
def wF(g:LZ X r)(i:PE X e te)(hl:PO X lo tl)(j:PO X hi th):PE X (.Subscript e (.Slice lo hi cb p2) pos) (VC r te tl th):=by
 intro a s σ H Q I h;show Z0 (Hl (i a s σ H _ I h) λv s1 k=>?_);have⟨x,m,n,o,p⟩:=k;show wpAny_Slice (Hl (hl a s1 σ m _ n p) λc s2 ⟨l,t,y,z,B⟩=>Hl (j a s2 σ t _ y B) λd s3 C=>?_);have⟨u,f,D,G,J⟩:=C;rw[evalPart_none];show d3 ?_;have L:Inv X a σ f {s3 with heap:=s3.heap.push {cls:=.type "slice",data:=.fields #[c,d,.none]}}:=D.kept (t':=s3.toks) λb ob q=>cc _ q;have⟨T,id,N,O,Y⟩:=g a {s3 with heap:=s3.heap.push {cls:=.type "slice",data:=.fields #[c,d,.none]}} σ f x v c d l u s3.heap.objs.size Q L o (Æ ..) z G J;change ez (hW X.prog X.w) X.A (UE e (.Slice lo hi cb p2) v (.ref s3.heap.objs.size)) (EP X a σ Q) X.xe {s3 with heap:=s3.heap.push {cls:=.type "slice",data:=.fields #[c,d,.none]}};show tail_any (ops:=[.ref s3.heap.objs.size,v]) O N Y (by with_unfolding_all rfl)
abbrev vb(xs:List V)(lo hi:Option Int):List V:=(xs.drop (HT.Jg xs.length 0 lo)).take (HT.Jg xs.length xs.length hi - HT.Jg xs.length 0 lo)
def pN(xs:List V)(lo hi:Option Int):(vb xs lo hi).length<=xs.length:=by
 unfold vb;rw[HY,Zl];lia
abbrev EZ(K:PySem.W.Frag):R2:=λx y H Q=>∃a b xs c,x=.ref a/\y=.ref b/\HR K H a xs/\HR K H b c/\xs≠[]/\xs.length+c.length<=dV /\
 (c=[]->Q (.ref a) H)/\(c≠[]->∀p,H p=cb->Q (.ref p) (upd H p (.tup (xs++c))))
def Vals.oo(r:Vals xs us):us=[]↔xs=[]:=by
 cases r with
 |_=>simp
def zQ:Jf X (N' .Add) (EZ X.K):=by
 intro f s σ H x y v u Q I g i h;have⟨a,b,xs,j,rfl,rfl,k,l,m,hz,n,p⟩:=h;cases g;cases i;obtain⟨t,d,r,_⟩:=I.tuple k;obtain⟨A,c,p2,_⟩:=I.tuple l;show HT.zL r p2 (λz=>m (d.oo.mp z)) (λz=>⟨.ref a,H,I,rfl,n (c.oo.mp z)⟩) (λz=>?_) (by rw[<-d.length,<-c.length];show hz);show⟨.ref s.heap.objs.size,_,I.laid (t':=s.toks) (o:=.tup (xs++j)) (λb B q=>cc _ q) (i5 _) ?_,rfl,p (λw=>z (c.oo.mpr w)) _ (I.Hi.fresh (i5 _))⟩;show⟨by rw[i7];show hz,_,d.append c,Zc _ _⟩
end
abbrev KU(n:Nat)(i:Int):Option Nat:=if 0<=i then(if i<n then bD i.toNat else cb) else if -(n:Int)<=i then bD (i+n).toNat else cb
abbrev Ij{α:Type}(xs:List α)(i:Int):Option α:=(KU xs.length i).bind λj=>xs[j]?
def tf{n:Nat}(h:KU n i=bD j):WE i n=bD j/\j<n/\-(n:Int)<=i/\i<n:=by
 unfold KU at h;by_cases b:0<=i
 .rw[ö b]at h;by_cases a:i<n
  .rw[ö a]at h;have e:i.toNat=j:=tr h;show⟨by rw[Zs b a,e],⋯,⋯,a⟩
  .rw[ø a]at h;cases h
 .rw[ø b]at h;by_cases a:-(n:Int)<=i
  .rw[ö a]at h;have e:(i+n).toNat=j:=tr h;show⟨by rw[seqIndex_neg ⋯ a,e],⋯,a,⋯⟩
  .rw[ø a]at h;cases h
def oq(h:Ij xs i=bD v):∃j,WE i xs.length=bD j/\xs[j]?=bD v/\j<xs.length/\-(xs.length:Int)<=i/\i<xs.length:=by
 unfold Ij at h;cases e:KU xs.length i with
 |none=>rw[e]at h;cases h
 |some j =>
  rw[e]at h;have⟨a,b,c,d⟩:=tf e;show⟨j,a,h,b,c,d⟩
def dF{j:Nat}(h:xs[j]?=bD v):Ij xs (j:Int)=bD v:=by
 have a:j<xs.length:=(eh.mp h).1;have e:KU xs.length (j:Int)=bD j:=by
  unfold KU;rw[ö ⋯,ö ⋯];simp
 unfold Ij;rw[e];show h
abbrev ot(b:nz):Prop:=∀o i,W2 b cK o i=operate [o,i] (VH o i)
abbrev Ra(X:Cx)(r:R2):Prop :=
 ∀(c a:nz) (b:List (hU×Obj)) (s:hH) (σ:St) (H:Hp) (x y:V) (v u:et) (Q:VK),Inv X b σ H s->RelV x v->RelV y u->r x y H Q ->
  W2 a cK v u=operate [v,u] (VH v u)->ez (hW X.prog X.w) X.A (UE c a v u) (EP X b σ Q) X.xe s
abbrev Rb(X:Cx)(id:String)(r:V->List V->Hp->VK->Prop):Prop :=
 ∀(a:List (hU×Obj)) (s:hH) (σ:St) (H:Hp) (x:V) (xs:List V) (v:et) (us:List et) (Q:VK),Inv X a σ H s->RelV x v->Vals xs us->r x xs H Q ->
  ez (hW X.prog X.w) X.A (N0 (.builtin id) (v::us)) (EP X a σ Q) X.xe s
section
abbrev GL(K:PySem.W.Frag):R2:=λx y H Q=>∃p xs i v,x=.ref p/\y=.int i/\HM K H p xs/\Ij xs i=bD v/\Q v H
abbrev GN(K:PySem.W.Frag):R2:=λx y H Q=>∃p xs i v,x=.ref p/\y=.int i/\HR K H p xs/\Ij xs i=bD v/\Q v H
abbrev GO:R2:=λx y H Q=>∃z i c,x=.str z/\y=.int i/\z.length<=dV/\Ij z.cps.toList i=bD c/\Q (.str ⟨#[c]⟩) H
def zR:Ra X (GL X.K):=by
 intro d f a s σ H x y v u Q I n A h hs;have⟨p,xs,i,z,rfl,rfl,B,C,q⟩:=h;cases n;have⟨t,rfl⟩:=A;have⟨D,r,g,hz⟩:=I.list B;have⟨j,c,G,O,J,L⟩:=oq C;have⟨w,l,N⟩:=r.get G;have hl:=r.length;have Y:=fL;have b:EP X a σ Q w s:=⟨z,H,I,N,q⟩
 by_cases m:0<=i
 .have k:i.toNat=j:=by
   rw[Zs m L]at c;show tr c
  show item_listR g.isList m ⋯ (by rw[k];simpa using l) b hs
 .have k:(i+(D.toArray.size:Int)).toNat=j:=by
   rw[seqIndex_neg ⋯ J]at c;rw[hZ,<-hl];show tr c
  show Za (x:=w) g.isList.typeIs Z9.lookup
   (wpAny_getItem_list_neg (Q:=λr s'=>r=w/\EP X a σ Q r s') g.isList ⋯ (by rw[hZ]<;>lia) ⋯ (by rw[k];simpa using l) ⟨rfl,b⟩) hs
def cm:Ra X (GN X.K):=by
 intro b c a s σ H x y v u Q I g k h hs;have⟨p,xs,i,z,rfl,rfl,l,m,q⟩:=h;cases g;have⟨t,rfl⟩:=k;have⟨D,r,f,hz⟩:=I.tuple l;have⟨j,n,A,G,J,L⟩:=oq m;have⟨w,B,C⟩:=r.get A;have hl:=r.length;have N:=fL;have d:EP X a σ Q w s:=⟨z,H,I,C,q⟩
 show Za (x:=w) f.typeIs slot_tuple_getitem.lookup
  (getItem_tuple (j:=j) (Q:=λr s'=>r=w/\EP X a σ Q r s') f ⋯ ⋯ (by rw[hZ,<-hl];show n) (by simpa using B) ⟨rfl,d⟩) hs
def ou:Ra X GO:=by
 intro a b d s σ H x y v u Q I g k h hs;have⟨z,i,c,rfl,rfl,hz,l,q⟩:=h;have⟨t,rfl⟩:=g;have⟨t',rfl⟩:=k;have⟨j,f,m,B,n,p⟩:=oq l;have hl:z.cps.toList.length=z.length:=by simp[î]
 rw[hl]at f n p;have C:=fL;show tail_any (X3 s z t) Ø.lookup (getItem_str (c:=c) (by
  have w:df (i < -(2 ^ 63:Int))=cK:=ù ⋯;have A:df (i >= 2 ^ 63)=cK:=ù ⋯;rw[w,A,XG]) (by rw[f];simpa using m) ⟨.str ⟨#[c]⟩,H,I.tok _,⟨_,rfl⟩,q⟩) hs
def rn(a:List et)(n j:Nat)(u:et):rz (·.setIfInBounds j u) {cls:=.type "list",data:=.seq a.toArray n}={cls:=.type "list",data:=.seq (a.set j u).toArray n}:=by
 simp[rz]
def Inv.lst(I:Inv X b σ H s)(h:H p=bD (.lst xs)):
  ∃(a:List et) (n:Nat),Vals xs a/\s.heap.get? p=bD {cls:=.type "list",data:=.seq a.toArray n}/\xs.length<=dV:=by
 have⟨z,a,n,r,e⟩:=I.Hi p _ h;show⟨a,n,r,e,z⟩
def Inv.CY{c its':List et}(I:Inv X a σ H s)(h:H p=bD (.lst xs))
  (ho:s.heap.get? p=bD {cls:=.type "list",data:=.seq c.toArray n}) (d:f {cls:=.type "list",data:=.seq c.toArray n}={cls:=.type "list",data:=.seq its'.toArray g }) (r:Vals i its') (hz:i.length<=dV) (t:Nat) :
  Inv X a σ (upd H p (.lst i)) {s with heap:=s.heap.update p f,toks:=t}:=by
 have e:(s.heap.update p f).get? p=bD {cls:=.type "list",data:=.seq its'.toArray g }:=by
  rw[u3 f ho (by rw[d]<;>rfl),d]
 show I.write (x:=p) (e:=p) (by rw[h];trivial) (.inl rfl) (λb u j q=>(Ms _ _ (tj j)).trans q) ⟨_,e⟩ ?_;show⟨hz,its',g,r,e⟩
abbrev E1:V->V->V->Hp->(Hp->Prop)->Prop:=λo i v H Q=>∃p xs k j,o=.ref p/\i=.int k/\H p=bD (.lst xs)/\KU xs.length k=bD j/\Q (upd H p (.lst (xs.set j v)))
def set_list:oh X E1:=by
 intro a s σ H o i v z A u Q I w x rv h;have⟨p,xs,k,j,rfl,rfl,c,y,q⟩:=h;cases w;have⟨t,rfl⟩:=x;have⟨d,n,r,ho,hz⟩:=I.lst c;have⟨b,B,f,g⟩:=tf y;have hl:=r.length;have C:=fL;have l:Inv X a σ (upd H p (.lst (xs.set j v))) {s with heap:=s.heap.update p (rz (·.setIfInBounds j u))} :=
  I.CY c ho (rn d n j u) (r.set rv j) (by rw[ZI];show hz) s.toks
 by_cases m:0<=k
 .have hk:k.toNat=j:=by
   rw[Zs m g]at b;show tr b
  show PySem.W.ki_setAt ho m ⋯ (by rw[hZ,<-hl];show g) (by rw[hk];show⟨_,l,q⟩)
 .have hk:(k+(d.toArray.size:Int)).toNat=j:=by
   rw[seqIndex_neg ⋯ f]at b;rw[hZ,<-hl];show tr b
  show PySem.W.ki_setBack ho ⋯ (by rw[hZ,<-hl];show f) ⋯ (by rw[hk];show⟨_,l,q⟩)
def ox(lo a:Option Int)(n:Nat):(QA lo a cb n).1=((HT.Jg n 0 lo:Nat):Int)/\(QA lo a cb n).2.1=((HT.Jg n n a:Nat):Int)/\(QA lo a cb n).2.2=1:=by
 show⟨?_,?_,rfl⟩
 .cases lo with
  |none=>simp[QA,HT.Jg]
  |some i =>
   simp only[QA,HT.Jg,YW,show(1:Int)>0 by decide,if_true];by_cases h:i<0
   .simp only[h,if_true]<;>lia
   .simp only[h,if_false]<;>lia
 .cases a with
  |none=>simp[QA,HT.Jg]
  |some i =>
   simp only[QA,HT.Jg,YW,show(1:Int)>0 by decide,if_true];by_cases h:i<0
   .simp only[h,if_true]<;>lia
   .simp only[h,if_false]<;>lia
def mf(a:List et)(lo b:Option Int):slicePick a.toArray lo b cb=((a.drop (HT.Jg a.length 0 lo)).take (HT.Jg a.length a.length b - HT.Jg a.length 0 lo)).toArray:=by
 have⟨c,d,f⟩:=ox lo b a.toArray.size;unfold slicePick;rw[c,d,f];simp only[sliceRange_one,pick_run,hZ]<;>rfl
abbrev E2(K:PySem.W.Frag):V->Option Int->Option Int->Hp->VK->Prop:=λx lo b H Q=>∃a xs,x=.ref a/\HM K H a xs/\∀p,H p=cb->Q (.ref p) (upd H p (.lst (vb xs lo b)))
def zS:LZ X (E2 X.K):=by
 intro f s σ H x v m n lo d p Q I i hs j k h;have⟨a,xs,rfl,l,q⟩:=h;cases i;have⟨u,r,g,hz⟩:=I.list l;have c:=r.length;show⟨"list",_,Z9.lookup,g.isList.typeIs,?_⟩;show wpAny_getItem_list_slice g.isList hs j k .none (by simp) ?_ (by rw[hZ]<;>lia);rw[mf,<-c];show⟨.ref s.heap.objs.size,_,I.laid (t':=s.toks) (o:=.lst (vb xs lo d)) (λb w q=>cc _ q) (i5 _) ?_,rfl,q _ (I.Hi.fresh (i5 _))⟩;show⟨u6 (pN xs lo d) hz,_,0,(r.drop (HT.Jg xs.length 0 lo)).take (HT.Jg xs.length xs.length d - HT.Jg xs.length 0 lo),gj _ rfl⟩
def iy:jA X (.builtin "len") (λxs H Q=>∃p b,xs=[.ref p]/\(HM X.K H p b\/HR X.K H p b)/\Q (.int b.length) H):=by
 intro f s σ H xs us Q I r h;have⟨p,b,rfl,hq,q⟩:=h;have⟨u,rfl,g⟩:=vals1 r;cases g;have j:=fL;rcases hq with hq|hq
 .have⟨i,c,d,hz⟩:=I.list hq;have a:=c.length;show Calls.call_len_list d.isList (by simp only[hZ]<;>lia) ⟨.int b.length,H,I.tok _,⟨s.toks+1,by rw[hZ,a]⟩,q⟩
 .have⟨i,c,d,hz⟩:=I.tuple hq;have a:=c.length;show len_tuple d (by simp only[hZ]<;>lia) ⟨.int b.length,H,I.tok _,⟨s.toks+1,by rw[hZ,a]⟩,q⟩
def oy:jA X (.builtin "len") (λxs H Q=>∃z,xs=[.str z]/\z.length<=dV/\Q (.int z.length) H):=by
 intro a s σ H xs us Q I r h;have⟨z,rfl,hz,q⟩:=h;have⟨u,rfl,t,rfl⟩:=vals1 r;have b:=fL;show len_str ⋯ ⟨.int z.length,H,I.tok _,⟨_,rfl⟩,q⟩
def gK:jA X (.type "tuple") (λxs H Q=>∃p c,xs=[.ref p]/\((HM X.K H p c/\∀l,H l=cb->Q (.ref l) (upd H l (.tup c)))\/(HR X.K H p c/\Q (.ref p) H))):=by
 intro a s σ H xs us Q I r h;have⟨p,c,rfl,h⟩:=h;have⟨u,rfl,m⟩:=vals1 r;cases m;rcases h with⟨d,q⟩|⟨d,q⟩
 .have⟨f,g,i,hz⟩:=I.list d;have j:=g.length;show call_tuple_list i.isList (λh' n=>?_) (by simp only[hZ]<;>lia);have k:Inv X a σ H {s with heap:=h' }:=I.kept (t':=s.toks) n;have v:Inv X a σ (upd H h'.objs.size (.tup c)) {s with heap:=h'.push {cls:=.type "tuple",data:=.seq f.toArray}} :=
   k.laid (t':=s.toks) (λb o e=>cc _ e) (i5 _) (show bI X.prog X.w _ _ _ (.tup c) from⟨hz,f,g,Zc _ _⟩)
  show⟨.ref h'.objs.size,_,v,rfl,q _ (k.Hi.fresh (i5 _))⟩
 .have⟨f,g,i,hz⟩:=I.tuple d;show call_tuple_same i ⟨.ref p,H,I,rfl,q⟩
abbrev PK(K:PySem.W.Frag)(T:String)(x:V)(H:Hp):Prop:=match x with
 |.str _=>T="str"
 |.int _=>T="int"
 |.ref p=>(T="list"/\∃xs,HM K H p xs)\/(T="tuple"/\∃o,K.lookup p=bD o/\o.cls=.type "tuple"/\o.dict=cb) \/
   (T="dict"/\((∃kvs,H p=bD (.dK kvs))\/∃kvs,H p=bD (.dT kvs)))\/(T="set"/\∃S n,H p=bD (.set S n))
 |_=>False
def oz(I:Inv X g σ H s)(r:RelV x v)(b:PK X.K T x H):
  s.TypeIs v T/\∀a,v=.ref a->∃h,s.heap.get? a=bD h/\h.dict=cb:=by
 cases x with
 |str z =>
  have⟨t,rfl⟩:=r;cases(show T="str" from b);show⟨X3 s z t,λ_ e=>nomatch e⟩
 |int i =>
  have⟨t,rfl⟩:=r;cases(show T="int" from b);show⟨typeIs_int s i t,λ_ e=>nomatch e⟩
 |ref p =>
  cases r;rcases b with⟨rfl,xs,k⟩|⟨rfl,o,hk,l,d⟩|⟨rfl,hk⟩|⟨rfl,S,n,hk⟩
  .obtain⟨m,_,j,_⟩:=I.list k;show⟨j.isList.typeIs,λa e=>?_⟩;cases e;obtain⟨o,n,e,c,d,_⟩:=j;show⟨o,e,d⟩
  .show⟨⟨o,I.Mp p o hk,l⟩,λa e=>?_⟩;cases e;show⟨o,I.Mp _ o hk,d⟩
  .have z:∃o,s.heap.get? p=bD o/\o.ExactDict:=by
    rcases hk with⟨kvs,hk⟩|⟨kvs,hk⟩
    .obtain⟨_,_,_,_,o,_,_,e,ex,_⟩:=I.Hi p _ hk;show⟨o,e,ex⟩
    .obtain⟨_,_,_,_,o,_,_,e,ex,_⟩:=I.Hi p _ hk;show⟨o,e,ex⟩
   have⟨o,e,ex⟩:=z;show⟨⟨o,e,ex.1⟩,λa f=>?_⟩;cases f;show⟨o,e,ex.2.1⟩
  .obtain⟨o,_,_,_,e,ex,_⟩:=I.Hi p _ hk;show⟨⟨o,e,ex.1⟩,λa f=>?_⟩;cases f;show⟨o,e,ex.2.1⟩
 |_=>show Nd b
abbrev GP(K:PySem.W.Frag)(T:String)(r:V->List V->Hp->VK->Prop)(to:TE):TE:=λσ H Q=>to σ H λx a=>PK K T x a/\r x [] a Q
abbrev VD(K:PySem.W.Frag)(T:String)(r:V->List V->Hp->VK->Prop)(to:TE)(t:TA):TE:=λσ H Q=>to σ H λx a=>PK K T x a/\t σ a λxs b=>r x xs b Q
variable{o e:nz}{es:List nz}{to:TE}{t:TA}{name:Str}{apos F':Pos}{T id:String}{r:V->List V->Hp->VK->Prop}
def CZ(d:PlainAttrs T)(slot:Slot T name id)(f:ZS (.builtin id)=pure (.type "method_descriptor"))(g:Rb X id r)(ho:PE X o to)
  (i:RZ o name X.env (HD o X.env)=HD o X.env:=by rfl) (j:(apos.endLine==F'.line)=b6:=by rfl):PE X (.Call (.Attribute o name apos) [] [] F') (GP X.K T r to):=by
 intro a s σ H Q I h;show R' i j (Hl (ho a s σ H _ I h) λv s1 k=>?_);have⟨x,l,b,c,m,n⟩:=k;have⟨p,q⟩:=oz b c m;show⟨T,id,d,slot,f,p,q,Jl rfl (PySem.evalArgs_none (g a s1 σ l x [] v [] Q b c .nil n))⟩
def tm(f:PlainAttrs T)(slot:Slot T name id)(g:ZS (.builtin id)=pure (.type "method_descriptor"))(i:Rb X id r)(ho:PE X o to)(j:PA X (e::es) t)
  (k:RZ o name X.env (HD o X.env)=HD o X.env:=by rfl)
  (l:((Jx F' (i9 (e::es) X.env)).all (λx=>!x.1)&&(Po F' (LW [] X.env)).all (λx=>x.1.isSome)
   && df ((e::es).length+([]:List Ni).length+(if ([]:List Ni).isEmpty then 0 else 1)<30))=b6:=by rfl)
  (m:(apos.endLine==F'.line)=b6:=by rfl) (hs:i9 (e::es) X.env=(cK,HD e X.env)::i9 es X.env:=by rfl) (n:(Jx F' (i9 es X.env)).any (·.1)=cK:=by rfl) :
  PE X (.Call (.Attribute o name apos) (e::es) [] F') (VD X.K T r to t):=by
 intro a s σ H Q I h;show Y1 k l m rfl (Hl (ho a s σ H _ I h) λv s1 p=>?_);have⟨x,q,b,c,u,w⟩:=p;have⟨y,z⟩:=oz b c u;show⟨T,id,f,slot,g,y,z,?_⟩;have d:=j F' a s1 σ q _ b w;rw[hs]at d ⊢;show Jl (by change(cK||(Jx F' (i9 es X.env)).any (·.1))=cK;rw[n]<;>rfl) (Nc ?_);show Hl d λus s2 ⟨vs,A,B,C,D⟩=>i a s2 σ A x vs v us Q B c C D
end
abbrev PL(X:Cx)(id:String)(r:V->List V->Hp->VK->Prop):Prop :=
 ∀(a:List (hU×Obj)) (s:hH) (σ:St) (H:Hp) (x:V) (xs:List V) (v:et) (us:List et) (Q:VK),Inv X a σ H s->RelV x v->Vals xs us->r x xs H Q ->
  ez (hW X.prog X.w) X.A (N0 (.builtin id) (v::us)) (EP X a σ Q) X.xe s
theorem Vals.one:∀{x:V}{us:List et},Vals [x] us->∃u,us=[u]/\RelV x u
 |_,_,.cons r .nil=>⟨_,rfl,r⟩
theorem Vals.zero:∀{us:List et},Vals [] us->us=[]
 |_,.nil=>rfl
def Vals.dropLast(h:Vals xs us):Vals xs.dropLast us.dropLast:=by
 induction h with
 |nil=>show .nil
 |cons r t a =>
  cases t with
  |nil=>show .nil
  |cons q t'=>show .cons r a
theorem Vals.eraseIdx:∀{xs:List V}{us:List et} (i:Nat),Vals xs us->Vals (xs.eraseIdx i) (us.eraseIdx i)
 |_,_,_,.nil=>.nil
 |_,_,0,.cons _ t=>t
 |_,_,i+1,.cons r t=>.cons r (Vals.eraseIdx i t)
def Vals.reverse(h:Vals xs us):Vals xs.reverse us.reverse:=by
 induction h with
 |nil=>show .nil
 |cons r t a=>rw[Q8,Q8];show Vals.append a (.cons r .nil)
def rp(l:List α):l.eraseIdx (l.length - 1)=l.dropLast:=by
 induction l with
 |nil=>rfl
 |cons a r c =>
  cases r with
  |nil=>rfl
  |cons b r =>
   have e:(a::b::r).length - 1=((b::r).length - 1)+1:=by
    have d:(a::b::r).length=r.length+2:=rfl;have f:(b::r).length=r.length+1:=rfl;lia
   rw[e,Ro,c]
   all_goals rfl
theorem mM:∀(l:List α) (i:Nat),(l.eraseIdx i).length<=l.length
 |[],_=>i5 _
 |_::_,0=>Lw _
 |_::r,i+1=>Nat.succ_le_succ (mM r i)
section
def Inv.mj{b its':List et}(I:Inv X a σ H s)(d:H l=bD (.lst xs))
  (e:s.heap.get? l=bD {cls:=.type "list",data:=.seq b.toArray n}) (g:f b.toArray=its'.toArray) (h:Vals c its') (hz:c.length<=dV) :
  Inv X a σ (upd H l (.lst c)) {s with heap:=s.heap.update l (rz f),toks:=t' }:=by
 have q:=PySem.IsL.update e f;rw[g]at q;show I.write (x:=l) (e:=l) (by rw[d];show trivial) (.inl rfl) (λk u i j=>(Ms s.heap (rz f) (tj i)).trans j) ⟨_,q⟩ ?_;show⟨hz,its',_,h,q⟩
def Inv.GQ(I:Inv X a σ H s)(d:Vals b c)(hz:b.length<=dV):
  Inv X a σ (upd H s.heap.objs.size (.lst b)) {s with heap:=s.heap.push {cls:=.type "list",data:=.seq c.toArray},toks:=t' } :=
 I.laid (λ_ _ q=>cc _ q) (i5 _) ⟨hz,c,0,d,gj _ rfl⟩
def Inv.fresh(I:Inv X a σ H s):H s.heap.objs.size=cb:=I.Hi.fresh (i5 _)
def Inv.zT(I:Inv X b σ H s)(c:H l=bD (.lst xs)):xs.length<=dV/\∃(a:List et) (n:Nat),Vals xs a/\xs.length=a.length/\s.heap.get? l=bD {cls:=.type "list",data:=.seq a.toArray n}:=by
 have⟨z,a,n,r,e⟩:=I.Hi l _ c;show⟨z,a,n,r,r.length,e⟩
def wG(h:n<=dV):K2 n=cK:=by
 unfold K2;show ù ⋯
end
section
abbrev zU:V->List V->Hp->VK->Prop:=λx vs H Q=>∃l xs y,x=.ref l/\vs=[y]/\H l=bD (.lst xs)/\xs.length<dV/\Q .Hj (upd H l (.lst (xs++[y])))
def mN:PL X "list.append" zU:=by
 intro a s σ H x vs v us Q I d rv h;have⟨l,xs,y,rfl,rfl,b,hz,q⟩:=h;cases d;have⟨u,rfl,f⟩:=rv.one;have⟨z,c,n,r,hl,e⟩:=I.zT b;show U1 F.slot_list_append ⟨_,e,rfl⟩ F.entry_list_append (F.args_list_append_2 _ _) (PySem.list_append l c.toArray n u (by rw[hZ];lia)) ⟨e,?_⟩;show⟨.Hj,_,I.mj (its':=c++[u]) b e (by simp) (r.append (.cons f .nil)) ?_,rfl,q⟩;rw[i7,JY];lia
abbrev GR:V->List V->Hp->VK->Prop:=λx vs H Q=>∃l xs y,x=.ref l/\vs=[]/\H l=bD (.lst xs)/\xs[xs.length - 1]?=bD y/\Q y (upd H l (.lst xs.dropLast))
def C0:PL X "list.pop" GR:=by
 intro b s σ H x vs v us Q I d rv h;have⟨l,xs,y,rfl,rfl,c,f,q⟩:=h;cases d;have g:=rv.zero;subst g;have⟨z,a,n,r,hl,e⟩:=I.zT c;have⟨u,i,j⟩:=r.get f;have k:a.toArray[a.toArray.size - 1]?=bD u:=by
  change a.toArray[a.length - 1]?=bD u;rw[<-sx,<-hl];show i
 show U1 Ç ⟨_,e,rfl⟩ ZY (F.args_list_pop_1 _) (MeetsSeq.list_pop_last l a.toArray n u k (by rw[hZ];lia)) ⟨e,?_⟩;show⟨y,_,I.mj (its':=a.dropLast) c e ?_ r.dropLast ?_,j,q⟩
 .change a.toArray.eraseIdxIfInBounds (a.toArray.size - 1)=a.dropLast.toArray;rw[hZ,Ux,rp]
 .rw[List.length_dropLast];lia
abbrev C1:V->List V->Hp->VK->Prop:=λx vs H Q=>∃l xs i k y,x=.ref l/\vs=[.int i]/\H l=bD (.lst xs)/\-(2 ^ 63)<=i/\i<2 ^ 63/\WE i xs.length=bD k/\xs[k]?=bD y/\Q y (upd H l (.lst (xs.eraseIdx k)))
def wH:PL X "list.pop" C1:=by
 intro b s σ H x vs v us Q I d rv h;have⟨l,xs,i,k,y,rfl,rfl,c,f,g,hk,j,q⟩:=h;cases d;have⟨u,rfl,m⟩:=rv.one;have⟨t,rfl⟩:=m;have⟨z,a,n,r,hl,e⟩:=I.zT c;have⟨w,o,p⟩:=r.get j;show U1 Ç ⟨_,e,rfl⟩ ZY (F.args_list_pop_2 _ _)
  (MeetsSeq.list_pop_at l a.toArray n i t k w (fitsIndex_both f g) (by rw[hZ,<-hl];show hk) (by rw[<-sx];show o) (by rw[hZ];lia)) ⟨e,?_⟩
 show⟨y,_,I.mj (its':=a.eraseIdx k) c e ?_ (r.eraseIdx k) ?_,p,q⟩
 .change a.toArray.eraseIdxIfInBounds k=(a.eraseIdx k).toArray;rw[Ux]
 .have:=mM xs k;lia
end
section
set_option maxRecDepth 100000 in
end
section
end
end L2
namespace TY
open PySem PySem.W PySem.Calls PyProof.Rows
def jR:∀(ns:List Int) (vs:List et),WellAll P h vs (ns.map à)->Zd vs ns:=by
 intro ns;induction ns with
 |nil =>
  intro vs w;rw[KS]at w;cases w;show .nil
 |cons n ns c =>
  intro vs w;rw[gs]at w;cases w with
  |cons a b =>
   cases a;show .cons _ _ (c _ b)
def vc{l:OpenLaw}(i:l.most=bD n)
  (f:l.row.toRowW.claim.pre args=b6) (j:WellAll P h vals args) :
  ∃a vs ns,vals=[mu a]/\args=[WData.list (ns.map à)]/\h.get? a=bD {cls:=.type "list",data:=.seq vs.toArray}/\Zd vs ns/\ns.length<=n:=by
 have k:WShape.hasAll [] args [.list .int]=b6:=(pre_splitW f).1;have g:l.pre.holds [] {args:=args}=b6:=(pre_splitW f).2;have⟨d,r,rfl,m,o⟩:=hasAllW_cons k;obtain rfl:=hasAllW_nil o;have⟨xs,rfl,p⟩:=hasW_list m;have⟨ns,rfl⟩:=items_int p;have b:ns.length<=n:=by
  unfold OpenLaw.pre at g;have c:(WTm.not (.lt (.lit (.int (n:Int))) (.len (.arg 0)))).holds [] {args:=[.list (ns.map .int)]}=b6:=by
   have c:=(holds_andW g).1;rw[i]at c;show c
  have e:=condW_of c (w_not (w_lt w_lit (w_len_list (w_arg rfl))));rw[dt]at e;show ZE λq=>?_;have s:(n:Int)<((ns.length:Nat):Int):=by lia
  first
   |(rw[ú s]at e;show absurd e (by decide))
   |(simp at e;lia)
 cases j with
 |cons t u =>
  cases u;cases t with
  |list ho v=>show⟨_,_,ns,rfl,rfl,ho,jR ns _ v,b⟩
def vd(l:OpenLaw)(args:List WData):l.row.toRowW.claim.post args (.bool b6) args=b6 :=
 postW_of (r:=l.row.toRowW) (X:=(b6==b6))
  (show À [] (.bool b6) .bool=b6 by first|rfl|decide|simp[À,WShape.arms,WShape.armsAll])
  (show(WTm.eq .res (.lit (.bool b6))).value [] {args:=args,res:=bD (.bool b6),after:=args}=bD (.bool (b6==b6)) from w_eq_bool (w_res rfl) w_lit) rfl
def pO{l:OpenLaw}
  (p:l.most=bD n) (s:d.params.defaults=[])
  (N0:∀(w:IT) (s₀ b:hH) (mg j:Str->Option et) (fa:hU) (o:Obj) (k i c:et) (a:hU) (vs:List et) (ns:List Int),
   Ground q e [] t w s₀ mg j b.heap->u w b.heap ->
   b.heap.get? fa=bD o->o.data=.func (docDef d.name d.params d.body d.scope k i c)->b.heap.CodeRec i d.name->mg d.name=bD (.ref fa) ->
   b.heap.get? a=bD {cls:=.type "list",data:=.seq vs.toArray}->Zd vs ns->ns.length<=n->b.gens=#[] ->
   Qy (hW l.prog w) SQ (.call (.ref fa) ⟨[.ref a],[]⟩) (λr s'=>r=.ok (.ret (.bool b6))/\OldK b.heap s'.heap/\s'.os=b.os/\Tb s'.gens) b) :
  WalkO q e t u l.row.toRowW d [] (λf vs=>PySem.call f vs):=by
 intro w s₀ b mg j G Y fa o k i c v kV ho x y m z A args vals as B O Q C T;obtain rfl:v=.none:=Dflts.none m s;obtain rfl:kV=.none:=Dflts.noKw m;have⟨a,vs,ns,rfl,rfl,D,g,h⟩:=vc p B C;show enter_call (SN (N0 w s₀ b mg j fa o k i c a vs ns G Y ho (fd_plain x) y z D g h A) λr s' H=>?_);have⟨rfl,I,J,L⟩:=H;show⟨.inl ⟨.bool b6,.bool b6,[],rfl,λ_=>rfl,.bool b6,vd l _,λ_=>⟨Ý,λ_ N=>(nomatch N)⟩⟩,I,J,L⟩
section
end
end TY
namespace L2
open PySem PySem.Spec PyProof.Rows
theorem mO:∀{vs:List et}{ns:List Int},Zd vs ns->Vals (ns.map V.int) vs
 |_,_,.nil=>.nil
 |_,_,.cons n t h=>.cons ⟨t,rfl⟩ (mO h)
abbrev C2(H:Hp):Prop:=∀b,H b=cb\/∃o xs,H b=bD (.IV o (.lst xs))
def wI{K:PySem.W.Frag}
  (y:K.In c.heap) (A:c.heap.Ns Ka mg) (f:c.heap.Ns ZU B) (O:∀x:Str,x≠"__name__"->B x=wk x) (Q:c.heap.NoLimit) (T:c.gens=#[])
  (l:c.heap.get? a=bD {cls:=.type "list",data:=.seq vs.toArray}) (C:Zd vs ns) (hl:ns.length<=dV) (Y:gE k SQ)
  (F:∀base:J3,K.In base->base.Ns Ka mg->kJ P w K mg base CX k fa fd [x] sp) (Oe:∀(s:hH) (u:et),Y' s fd ⟨[u],[]⟩ [(x,u)])
  (JO:∀H:Hp,C2 H->HM K H a (ns.map V.int)->sp [.ref a] H (λv _=>v=.bl b6) λ_ _ _=>False)
  (Rh:∀H e s',CX [] H c (λ_ _ _=>False) e s'->False) :
  Qy (hW P w) SQ (.call (.ref fa) ⟨[.ref a],[]⟩) (λr s'=>r=.ok (.ret (.bool b6))/\OldK c.heap s'.heap/\s'.os=c.os/\Tb s'.gens) c:=by
 have rv:=mO C;have Ri:=C.length;have g:∀H:Hp,C2 H->HM K H a (ns.map V.int)->IB P w H c.heap->(∀b,H b≠cb->b=a)->(H a≠cb->K.lookup a=cb) ->
   Qy (hW P w) SQ (.call (.ref fa) ⟨[.ref a],[]⟩) (λr s'=>r=.ok (.ret (.bool b6))/\OldK c.heap s'.heap/\s'.os=c.os/\Tb s'.gens) c:=by
  intro H D hS G I hK;have ka:∀{b:hU} {o:Obj},c.heap.get? b=bD o->H b=cb->(oa c.heap H).get? b=bD o:=λe n=>wc e n;have N7:∀{b:hU} {o:Obj} {es:Array DictEntry} {ep:Nat},c.heap.get? b=bD o->o.data=.dict es ep->H b=cb:=λ{b o es ep} e d=>by
   cases q:H b with
   |none=>rfl
   |some u =>
    have t:b=a:=I b (by rw[q];simp);subst t;rw[l]at e;cases e;have d':Data.seq vs.toArray _=Data.dict es ep:=d;cases d'
  have p:∀{b:hU} {m:Str->Option et},c.heap.Ns b m->(oa c.heap H).Ns b m:=λ{b m} ⟨o,es,ep,e,d,r⟩=>⟨o,es,ep,ka e (N7 e d),d,r⟩
  have J:K.In (oa c.heap H):=λb o e=>ka (y b o e) (by
   cases q:H b with
   |none=>rfl
   |some u =>
    have t:b=a:=I b (by rw[q];simp);subst t;rw[hK (by rw[q];simp)]at e;cases e)
  have hM:Mod K mg (oa c.heap H):=⟨J,p A,⟨B,p f,O⟩,let ⟨mc,h1,h2⟩:=Q;⟨mc,p h1,h2⟩⟩
  have e0:zK P w K mg (oa c.heap H) SQ [] c H:=⟨rfl,hM,λb o e=>zy e,Ya (uW _ _),trivial,λb f=>absurd (show b∈([]:List hU) from f) (by simp),G,.of_eq T⟩
  show SN ((F _ J (p A)).run SQ [] c H ⟨[.ref a],[]⟩ [.ref a] [.ref a] _ _ Y e0 (Oe c (.ref a)) (.cons rfl .nil) (JO H D hS)) λr s' h=>?_;cases r with
  |error e=>show(Rh H e s' h).elim
  |ok fl =>
   cases fl with
   |ret u =>
    have⟨v,H',os,i,L,Rj,r',q⟩:=h;have q':v=.bl b6:=q;subst q';obtain rfl:u=QD b6:=r';show⟨rfl,OldK.of_keep λb o e=>?_,os,i⟩;cases q:H b with
    |none=>show L.keep b o e q (by intro z;show absurd (show b∈([]:List hU) from z) (by simp)) (by simp)
    |some u =>
     rcases D b with z|⟨ob,xs,z⟩
     .rw[q]at z;cases z
     .have z2:=L.Je b ob _ z;obtain⟨N,_⟩:=G b _ z;obtain⟨e2,_⟩:=Rj b _ z2;rw[e]at N;cases N;show e2
   |_=>show Nd h
 cases hk:K.lookup a with
 |some o =>
  have e:=y a o hk;rw[l]at e;cases e;show g (λ_=>cb) (λ_=>.inl rfl) (.inr ⟨_,vs.toArray,_,hk,rfl,rfl,rfl,by rw[hZ,Ri];show hl,by simpa using rv⟩) (λb u z=>by have j:(cb:Option HO)=bD u:=z;cases j) (λb z=>absurd rfl z) λz=>absurd rfl z
 |none =>
  show g (λb=>if b=a then bD (.IV {cls:=.type "list",data:=.seq vs.toArray} (.lst (ns.map V.int))) else cb) (λb=>?_) (.inl (.inr ⟨{cls:=.type "list",data:=.seq vs.toArray},ö rfl⟩)) (λb u z=>?_) (λb z=>?_) λ_=>hk
  .by_cases f:b=a
   .show .inr ⟨_,_,ö f⟩
   .show .inl (ø f)
  .by_cases f:b=a
   .have j:=(ö f).symm.trans z;cases j;subst f;show⟨l,by rw[dt];show hl,vs,_,rv,l⟩
   .have j:=(ø f).symm.trans z;cases j
  .by_cases f:b=a
   .show f
   .show absurd (ø f) z
def zV{l:PySem.W.OpenLaw}{K:Y8->PySem.W.Frag}{CX:IT->Nn}{sp:IT->Sp}
  (r:l.most=bD n) (t:n<=dV) (y:d.params.defaults=[]) (z:gE k SQ)
  (A:∀(w:IT) (h:J3),B w h->(K w.params).In h)
  (F:∀(w:IT) (mg:Str->Option et) (fa:hU) (h:J3),(K w.params).In h->h.Ns Ka mg->mg d.name=bD (.ref fa) ->
   ∃j:Rg,(∀(s:hH) (u:et),Y' s j ⟨[u],[]⟩ [(x,u)]) /\
    ∀base:J3,(K w.params).In base->base.Ns Ka mg->kJ l.prog w (K w.params) mg base (CX w) k fa j [x] (sp w))
  (C:∀(w:IT) (H:Hp) (a:hU) (ns:List Int),ns.length<=n->C2 H->HM (K w.params) H a (ns.map V.int)->sp w [.ref a] H (λv _=>v=.bl b6) λ_ _ _=>False)
  (D:∀(w:IT) (H:Hp) (s:hH) (e:et) (s':hH),CX w [] H s (λ_ _ _=>False) e s'->False) :
  PySem.W.WalkO q m XP B l.row.toRowW d [] (λf vs=>PySem.call f vs):=by
 show TY.pO r y λw s₀ I mg mb fa o pm cd J a vs ns G Y ho hd HS L N i c O=>?_;have p:=A w _ Y;have⟨j,Q,hF⟩:=F w mg fa _ p G.T.g L;show wI p G.T.g G.T.b G.T.builtins G.T.nolimit O N i (u6 c t) z hF Q (λH hO hS=>C w H a ns c hO hS) λH e s'=>D w H I e s'
abbrev gn(s:Nb):Arguments:=match s with
 |.FunctionDef _ a _ _ _ _ _ _ _ _=>a
 |_=>{posonlyargs:=[],args:=[],vararg:=cb,kwonlyargs:=[],kw_defaults:=[],kwarg:=cb,defaults:=[]}
abbrev cV(s:Nb):List Nb:=match s with
 |.FunctionDef _ _ b _ _ _ _ _ _ _=>b
 |_=>[]
abbrev aT(s:Nb):ME:=match s with
 |.FunctionDef _ _ _ _ _ _ a _ _ _=>a
 |_=>{kind:=.function,names:=[],isGenerator:=cK,isCoroutine:=cK}
@[reducible]def KD:Nn:=λ_ _ _ _ _ _=>False
@[reducible]def E0:XK:=λ_ _ _=>False
def BV:Passes KD X E0:=λ_ _ _ _ _ _ _ h=>h.elim
structure L0(K:PySem.W.Frag)(x qual:Str)(st:Nb)(f:hU)(fd:Rg):Prop where
 ex:∃(oc:et) (od:Option hU) (kV doc pm:et) (an:Option hU) (IF ct:et) (N8:Array (Option et)),
  fd=PySem.W.fnOf x qual (gn st) (cV st) (aT st) .none kV doc pm an IF ct/\K.lookup f=bD ⟨oc,od,.func fd,N8⟩/\PySem.W.codeIn K IF qual=b6
 kp:PySem.W.keepIn K (.ref f)=b6
section
variable{P:Hr}{w:IT}{K:PySem.W.Frag}{mg:Str->Option et}{base:J3}
def L0.ok{st:Nb}(F:L0 K x a st f d)(S:d_ N ps (aT st))(c:∀vs H Q E,sp vs H Q E->vs.length=ps.length)
  (e:∀(b:et) (A:MH) (outer:List Env) (s:hH) (H:Hp) (vs:List V) (Q:VK) (E:XK),gE k (A.deeper (Ta a (aT st) s.heap.objs.size f b))->sp vs H Q E ->
   ∃t,IE (pL KD P w K mg base N a (aT st) f b A outer s H E).Nl (cV st) t/\t {nx:=λ_ H'=>Q .Hj H',rt:=Q} (start N vs) H):kJ P w K mg base KD (k+1) f d ps sp:=by
 have⟨m,n,kV,g,o,p,b,ct,r,rfl,lk,i⟩:=F.ex;show EX lk i S c λA outer s H vs Q E j l=>?_;have⟨t,h,q⟩:=e b A outer s H vs Q E j l;show⟨t,h.Nl,q⟩
def C3{st:Nb}{kV b e d ct:et}(l:K.lookup f=bD ⟨h,i,.func (PySem.W.fnOf x a (gn st) (cV st) (aT st) .none kV b e g d ct),j⟩)
  (c:PySem.W.codeIn K d a=b6) (k:PySem.W.keepIn K (.ref f)=b6):L0 K x a st f (PySem.W.fnOf x a (gn st) (cV st) (aT st) .none kV b e g d ct):=⟨⟨h,i,kV,b,e,g,d,ct,j,rfl,l,c⟩,k⟩
end
section
end
abbrev zW(H H':Hp):Prop:=∀b o,H b=bD o->H' b=bD o
section
variable{κ:Type}[DecidableEq κ]
abbrev dG(kvs:List (κ×V))(k:κ):Option V:=(kvs.find? λkv=>df (kv.1=k)).map (·.2)
abbrev putK(kvs:List (κ×V))(k:κ)(v:V):List (κ×V) :=
 if (kvs.any λkv=>df (kv.1=k))=b6 then kvs.map (λkv=>if kv.1=k then(kv.1,v) else kv) else kvs++[(k,v)]
def eI{p:κ×V}{k:κ}(e:p.1=k):dG (p::r) k=bD p.2:=by simp[dG,MJ,e]
def eJ{p:κ×V}{k:κ}(e:¬p.1=k):dG (p::r) k=dG r k:=by simp[dG,MJ,e]
theorem iz(k:κ):∀kvs:List (κ×V),(kvs.any λkv=>df (kv.1=k))=(dG kvs k).isSome
 |[]=>rfl
 |p::r=>by
  rw[TK];by_cases e:p.1=k
  .simp only[eI e,ú e,Bool.true_or,Option.isSome_some]
  .rw[eJ e,ù e,Bool.false_or];show iz k r
def jB(kvs:List (κ×V))(k:κ)(v:V):(putK kvs k v).length<=kvs.length+1:=by
 unfold putK;split
 .rw[dt];lia
 .rw[i7,k7,Vl];lia
def wJ{k:κ}(v:V)(h:dG kvs k=cb):putK kvs k v=kvs++[(k,v)]:=by
 unfold putK;rw[iz,h];show ø (by decide)
def jQ.eL(r:jQ o u):o.isSome=u.isSome:=by
 cases o with
 |none=>cases u with
  |none=>rfl
  |some _=>show(show False from r).elim
 |some _=>cases u with
  |none=>show(show False from r).elim
  |some _=>rfl
def jQ.getD(r:jQ o u)(a:RelV d d'):RelV (o.getD d) (u.getD d'):=by
 cases o with
 |none=>cases u with
  |none=>show a
  |some _=>show(show False from r).elim
 |some _=>cases u with
  |none=>show(show False from r).elim
  |some _=>show r
def KV.val(r:KV kvs vs)(k:κ):jQ (dG kvs k) (Vw vs k):=by
 unfold KV at r;induction r with
 |nil=>show Wm
 |@cons p q ps a h t f =>
  have⟨d,g⟩:=h;by_cases e:p.1=k
  .have c:q.1=k:=d.symm.trans e;have b:Vw (q::a) k=bD q.2:=by simp[Vw,MJ,c]
   rw[eI e,b];show g
  .have c:¬q.1=k:=λz=>e (d.trans z);have b:Vw (q::a) k=Vw a k:=by simp[Vw,MJ,c]
   rw[eJ e,b];show f
def KV.any(r:KV kvs vs)(k:κ):(kvs.any λkv=>df (kv.1=k))=vs.any λkv=>df (kv.1=k):=by
 unfold KV at r;induction r with
 |nil=>rfl
 |cons h t a=>rw[TK,TK,a,h.1]
def KV.C4(r:KV kvs vs)(k:κ)(b:RelV y u):
  KV (kvs.map λkv=>if kv.1=k then(kv.1,y) else kv) (vs.map λkv=>if kv.1=k then(kv.1,u) else kv):=by
 unfold KV at r ⊢;induction r with
 |nil=>show .nil
 |@cons p q ps f h t c =>
  rw[gs,gs];show .cons ?_ c;have⟨a,d⟩:=h;by_cases e:p.1=k
  .rw[ö e,ö (a.symm.trans e)];show⟨a,b⟩
  .rw[ø e,ø (λz=>e (a.trans z))];show⟨a,d⟩
def KV.put(r:KV kvs vs)(k:κ)(a:RelV y u):KV (putK kvs k y) (stored vs k u):=by
 unfold putK stored;rw[r.any k];by_cases e:(vs.any λkv=>df (kv.1=k))=b6
 .rw[ö e,ö e];show r.C4 k a
 .rw[ø e,ø e];show Paired.snoc r ⟨rfl,a⟩
def KV.length(r:KV kvs vs):kvs.length=vs.length:=Paired.length r
end
def mP(r:RelV (kV k) u):(aS P w).is k u=b6:=by
 cases k with
 |inl i=>have⟨t,e⟩:=(show ∃t,u=Y5 i t from r);subst e;show pJ P w i t
 |inr x=>have⟨t,e⟩:=(show ∃t,u=u4 x t from r);subst e;show pK P w x t
theorem mQ:∀{ks:List Key}{us:List et},Vals (ks.map kV) us->ItemsAre (aS P w) ks us
 |[],_,r=>by rw[KS]at r;cases r;show .nil
 |k::ks,_,r=>by
  rw[gs]at r;cases r with
  |cons h t=>show .cons (mP h) (mQ t)
@[reducible]def KT(H:Hp):List (List Key×V)->List (List Key×hU×et)->Prop:=Paired λp q=>p.1=q.1/\H q.2.1=bD (.tup (p.1.map kV))/\RelV p.2 q.2.2
def KT.val(r:KT H kvs xs)(k:List Key):jQ (dG kvs k) ((X_ xs k).map (·.2)):=by
 induction r with
 |nil=>show Wm
 |@cons p q ps a h t f =>
  obtain⟨d,_,g⟩:=h;by_cases e:p.1=k
  .have c:q.1=k:=d.symm.trans e;have b:X_ (q::a) k=bD q.2:=by simp[X_,MJ,c]
   rw[eI e,b];show g
  .have c:¬q.1=k:=λz=>e (d.trans z);have b:X_ (q::a) k=X_ a k:=by simp[X_,MJ,c]
   rw[eJ e,b];show f
def KT.C4(r:KT H kvs xs)(k:List Key)(c:RelV y u):
  KT H (kvs.map λkv=>if kv.1=k then(kv.1,y) else kv) (xs.map (putAt k u)):=by
 induction r with
 |nil=>show .nil
 |@cons p q ps g h t d =>
  rw[gs,gs];show .cons ?_ d;have⟨a,b,f⟩:=h;unfold putAt;by_cases e:p.1=k
  .rw[ö e,ö (a.symm.trans e)];show⟨a,b,c⟩
  .rw[ø e,ø (λz=>e (a.trans z))];show⟨a,b,f⟩
def KT.put(r:KT H kvs xs)(k:List Key)(c:H b=bD (.tup (k.map kV)))(a:RelV y u):
  KT H (putK kvs k y) (storedH xs k b u):=by
 have e:(kvs.any λkv=>df (kv.1=k))=(X_ xs k).isSome:=by
  rw[iz,(r.val k).eL,T1]
 unfold putK storedH;rw[e];by_cases q:(X_ xs k).isSome=b6
 .rw[ö q,ö q];show r.C4 k a
 .rw[ø q,ø q];show Paired.snoc r ⟨rfl,c,a⟩
def KT.keeps(r:KT H kvs xs)(c:∀b a,H b=bD (.tup a)->H' b=bD (.tup a)):KT H' kvs xs :=
 Paired.CB r λ_ _ z=>⟨z.1,c _ _ z.2.1,z.2.2⟩
section
def BW(b:IB P w H h)(e:Rd H a u):bI P w H h a u:=e.ok b
def kK(b:IB P w H h)(e:Rd H a (.dK kvs)):kvs.length<=dV/\(a==M4)=cK/\∃vs,KV kvs vs/\h.DictOf (aS P w) a vs :=
 show bI P w H h a (.dK kvs) from BW b e
def wK(b:IB P w H h)(e:H a=bD (.dK kvs)):kvs.length<=dV/\(a==M4)=cK/\∃vs,KV kvs vs/\h.DictOf (aS P w) a vs:=kK b (.inl e)
def je(b:IB P w H h)(e:H a=bD (.tup (ks.map kV))):(Ui (aS P w)).is h ks a:=by
 obtain⟨_,c,r,o,d,f,n,g⟩:=(show bI P w H h a (.tup (ks.map kV)) from b a _ e)
 show⟨o,c.toArray,n,d,f,g,by simpa using mQ r⟩
def kL(b:IB P w H h)(e:Rd H a (.dT kvs)):kvs.length<=dV/\(a==M4)=cK /\
  ∃xs,KT H kvs xs/\h.DictOfH (Ui (aS P w)) a xs:=by
 have⟨z,y,xs,r,o,es,ep,d,f,g,i,j⟩:=(show bI P w H h a (.dT kvs) from BW b e)
 show⟨z,y,xs,r,o,es,ep,d,f,g,i,λx hx=>?_,j⟩;have all:∀{l:List (List Key×V)} {m:List (List Key×hU×et)},KT H l m->∀x∈m,(Ui (aS P w)).is h x.1 x.2.1:=by
  intro l m q;induction q with
  |nil=>intro x hx;show nomatch hx
  |@cons p q ps n c t k =>
   intro x hx;rcases gc.mp hx with e|hx
   .subst e;show je b (by rw[<-c.1];show c.2.1)
   .show k x hx
 show all r x hx
def E3(b:IB P w H h)(e:H a=bD (.dT kvs)):kvs.length<=dV/\(a==M4)=cK /\
  ∃xs,KT H kvs xs/\h.DictOfH (Ui (aS P w)) a xs:=kL b (.inl e)
end
abbrev ff(H:Hp)(a:hU)(y:V)(r:Option V):Prop :=
 (∃kvs k,Rd H a (.dK kvs)/\y=kV k/\r=dG kvs k)\/∃kvs k b,Rd H a (.dT kvs)/\y=.ref b/\H b=bD (.tup (k.map kV))/\r=dG kvs k
abbrev vf(H:Hp)(a:hU)(y v:V)(H':Hp):Prop :=
 (∃kvs k,H a=bD (.dK kvs)/\y=kV k/\kvs.length<dV/\H'=upd H a (.dK (putK kvs k v))) \/
 ∃kvs k b,H a=bD (.dT kvs)/\y=.ref b/\H b=bD (.tup (k.map kV))/\kvs.length<dV/\H'=upd H a (.dT (putK kvs k v))
def ff.k{H:Hp}{a:hU}{kvs:List (Key×V)}{k:Key}(e:H a=bD (.dK kvs)):ff H a (kV k) (dG kvs k):=.inl ⟨kvs,k,.inl e,rfl,rfl⟩
def vf.k{H:Hp}{a:hU}{kvs:List (Key×V)}{k:Key}{v:V}(e:H a=bD (.dK kvs))(hl:kvs.length<dV):vf H a (kV k) v (upd H a (.dK (putK kvs k v))):=.inl ⟨kvs,k,e,rfl,hl,rfl⟩
section
def Inv.big(I:Inv X a σ H s):M4<s.heap.objs.size:=by
 have h:Ka<s.heap.objs.size:=(I.mod.glob.keeps I.bk).lt;show Uw (by decide) h
def vg(r:A.units+1<Lk)(I:Inv X f σ H s)(g:ff H a y (bD v))(q:RelV y u)(h:∀d s',Inv X f σ H s'->RelV v d->Q d s'):
  ez (hW X.prog X.w) A (VH (.ref a) u) Q E s:=by
 rcases g with⟨kvs,k,e,i,l⟩|⟨kvs,k,b,e,i,t,l⟩
 .subst i;have⟨z,x,vs,c,j⟩:=kK I.Hi e;have⟨d,m,n⟩:=jQ.some_of (v:=v) (o:=Vw vs k) (by rw[l];show c.val k);show wpAny_getItem_of (mP q) j.mapOf m (h d _ (I.tok _) n)
 .subst i;cases(show u=mu b from q);have⟨z,x,xs,c,j⟩:=kL I.Hi e;have⟨d,m,n⟩:=jQ.some_of (v:=v) (o:=(X_ xs k).map (·.2)) (by rw[l];show c.val k);have⟨p,B,C⟩:=hA.mp m;show wpAny_getItem_heap (OM r) (je I.Hi t) j B ?_;rw[C];show h d _ (I.tok _) n
def E4(n:A.units+1<Lk)(I:Inv X d σ H s)(g:ff H a y o)(m:RelV y u)(h:∀s',Inv X d σ H s'->Q (.bool o.isSome) s'):
  ez (hW X.prog X.w) A (LJ .In u (.ref a)) Q E s:=by
 rcases g with⟨kvs,k,e,f,l⟩|⟨kvs,k,b,e,f,p,l⟩
 .subst f;have⟨z,i,vs,c,j⟩:=kK I.Hi e;show wpAny_in_of (mP m) i j.mapOf ?_;rw[<-(c.val k).eL,<-l];show h _ (I.tok _)
 .subst f;cases(show u=mu b from m);have⟨z,i,xs,c,j⟩:=kL I.Hi e;show wpAny_in_heap (OM n) (je I.Hi p) i j ?_;have q:=(c.val k).eL;rw[T1]at q;rw[<-q,<-l];show h _ (I.tok _)
def tq(n:A.units+1<Lk)(I:Inv X d σ H s)(g:ff H a y o)(m:RelV y u)(h:∀s',Inv X d σ H s'->Q (.bool (!o.isSome)) s'):
  ez (hW X.prog X.w) A (LJ .NotIn u (.ref a)) Q E s:=by
 rcases g with⟨kvs,k,e,f,l⟩|⟨kvs,k,b,e,f,p,l⟩
 .subst f;have⟨z,i,vs,c,j⟩:=kK I.Hi e;show wpAny_notIn_of (mP m) i j.mapOf ?_;rw[<-(c.val k).eL,<-l];show h _ (I.tok _)
 .subst f;cases(show u=mu b from m);have⟨z,i,xs,c,j⟩:=kL I.Hi e;show wpAny_notIn_heap (OM n) (je I.Hi p) i j ?_;have q:=(c.val k).eL;rw[T1]at q;rw[<-q,<-l];show h _ (I.tok _)
def tu(I:Inv X c σ H s)(f:NX (H a))(hs:qs a s.heap h')(g:∃q,h'.get? a=bD q)(new:bI X.prog X.w (upd H a d) h' a d):
  Inv X c σ (upd H a d) {s with heap:=h',toks:=t' } :=
 I.write (x:=a) (e:=a) f (.inl rfl) (λb q h z=>(hs.2 b h).trans z) g new
def C5(z:kvs.length<=dV)(c:(a==M4)=cK)(b:KV kvs vs)(d:h'.DictOf (aS P w) a vs):
  bI P w H' h' a (.dK kvs):=⟨z,c,vs,b,d⟩
def vh(C:A.units+1<Lk)(I:Inv X f σ H s)(g:vf H a y v H')(t:RelV y u)(rv:RelV v r)(h:∀s',Inv X f σ H' s'->Q () s'):
  ez (hW X.prog X.w) A (SH (.ref a) u r) Q E s:=by
 rcases g with⟨kvs,k,e,m,l,n⟩|⟨kvs,k,b,e,m,x,l,n⟩
 .subst m n;have⟨z,o,vs,d,p⟩:=wK I.Hi e;have hz:vs.length<=dV:=by rw[<-d.length];show z
  have hl:(putK kvs k v).length<=dV:=by have:=jB kvs k v;lia
  show wpAny_setItem_pairs (hsz:=hz) (mP t) p λh' i hs=>h _ ?_;have D:∃q,h'.get? a=bD q:=let ⟨q,_,_,j,_⟩:=i;⟨q,j⟩;show tu I (by rw[e];show Wm) hs D (C5 hl o (d.put k rv) i)
 .subst m n;cases(show u=mu b from t);have⟨z,o,xs,d,p⟩:=E3 I.Hi e;have hz:xs.length<=dV:=by rw[<-Paired.length d];show z
  have hl:(putK kvs k v).length<=dV:=by have:=jB kvs k v;lia
  show wpAny_setItem_heap (hsz:=hz) (OM C) (je I.Hi x) p λh' i hs=>h _ ?_;obtain⟨q,es,ep,j,G,J,L,_,N⟩:=i;show tu I (by rw[e];show Wm) hs ⟨q,j⟩ ⟨hl,o,_,(d.put k x rv).keeps λc O B=>?_,q,es,ep,j,G,J,L,N⟩;rw[ao (EB B e (λz=>nomatch z))];show B
end
section
end
abbrev C6(i:nz):Prop:=∀a b,W2 i cK a b=operate [a,b] (VH a b)
def zX{T id:String}
  (hl:UQ (.type T) "__getitem__"=pure (bD (.builtin id))) (hs:C6 a)
  (h:ez (hW prog w) A (HD b env) (λo f=>ez (hW prog w) A (HD a env) (λi d=>d.TypeIs o T/\ez (hW prog w) A (VH o i) Q E d) E f) E s) :
  ez (hW prog w) A (HD (.Subscript b a pos) env) Q E s:=by
 show Z0 (uv h (λo f k=>uv k (λi d e=>?_) λ_ _ x=>x) λ_ _ x=>x);have⟨g,e⟩:=e;unfold UE;show b5 ?_;rw[getitemInPython_of_ne g.not_modules];show b5 (Tf g hl ?_);have c:ez (hW prog w) A (W2 a cK o i) (λr j=>ez (hW prog w) A (letTemporaryGo b o r >>= λ_=>pure r) Q E j) E d:=by
  rw[hs o i];show wpAny_operating (uv e (λr j l=>b5 (wpAny_letTemporaryGo (d3 l))) λ_ _ x=>x)
 first
  |show d3 (b5 c)
  |show b5 (d3 (b5 c))
  |show b5 c
def pP(I:Inv X d σ H s)(g:ff H a y o):s.TypeIs (.ref a) "dict":=by
 rcases g with⟨kvs,k,e,_,_⟩|⟨kvs,k,b,e,_,_,_⟩
 .obtain⟨_,_,vs,_,c⟩:=kK I.Hi e;show c.typeIs
 .obtain⟨_,_,xs,_,c⟩:=kL I.Hi e;show c.typeIs
abbrev E5(c d:TE):TE:=λσ H Q=>c σ H λx e=>d σ e λy b=>∃a v,x=.ref a/\ff b a y (bD v)/\Q v b
abbrev GS(c d:TE):TE:=λσ H Q=>c σ H λy e=>d σ e λx b=>∃a o,x=.ref a/\ff b a y o/\Q (.bl o.isSome) b
abbrev zY(c d:TE):TE:=λσ H Q=>c σ H λy e=>d σ e λx b=>∃a o,x=.ref a/\ff b a y o/\Q (.bl (!o.isSome)) b
section
def zZ(d:X.A.units+1<Lk)(ho:PE X o e)(f:PE X i j)(hs:C6 i):PE X (.Subscript o i pos) (E5 e j):=by
 intro b s σ H Q I h;show zX PySem.F.slot_dict_getitem.lookup hs (Hl (ho b s σ H _ I h) λu s1 ⟨x,k,l,m,n⟩=>Hl (f b s1 σ k _ l n) λB s2 p=>?_);have⟨y,q,c,r,a,v,ex,g,t⟩:=p;subst ex;obtain rfl:u=mu a:=m;show⟨pP c g,vg d c g r λC s3 w z=>⟨v,q,w,z,t⟩⟩
def C7(c:X.A.units+1<Lk)(d:PE X i e)(ho:PE X o f):PC X .In i o (GS e f):=by
 intro b s σ H Q I h;show Hl (d b s σ H _ I h) λz s1 ⟨y,j,k,l,m⟩=>Hl (ho b s1 σ j _ k m) λu s2 n=>?_;have⟨x,p,q,r,a,t,ex,g,v⟩:=n;subst ex;obtain rfl:u=mu a:=r;show E4 c q g l λs3 w=>⟨.bl t.isSome,p,w,rfl,v⟩
def vi(c:X.A.units+1<Lk)(d:PE X i e)(ho:PE X o f):PC X .NotIn i o (zY e f):=by
 intro b s σ H Q I h;show Hl (d b s σ H _ I h) λz s1 ⟨y,j,k,l,m⟩=>Hl (ho b s1 σ j _ k m) λu s2 n=>?_;have⟨x,p,q,r,a,t,ex,g,v⟩:=n;subst ex;obtain rfl:u=mu a:=r;show tq c q g l λs3 w=>⟨.bl (!t.isSome),p,w,rfl,v⟩
end
def wL(h:J3)(a:M4<h.objs.size):bI P w H (h.push {cls:=.type "dict",data:=.dict #[]}) h.objs.size (.dK []) :=
 ⟨js _,beq_eq_false_iff_ne.mpr (tj (hY a)),[],.nil,ï h⟩
abbrev C8:TE:=λ_ H Q=>∀p,H p=cb->Q (.ref p) (upd H p (.dK []))
section
def pQ:PE X (.Dict [] [] pos) C8:=λb s σ H Q I h =>
 wpAny_Dict_empty ⟨.ref s.heap.objs.size,_,I.laid (a:=s.heap.objs.size) (o:=.dK []) (t':=s.toks) (λ_ _ q=>cc _ q) (i5 _) (wL s.heap I.big),rfl,h _ (I.Hi.fresh (i5 _))⟩
end
structure M2(X:Cx)(o:nz)(m:Str)(apos:Pos)(e f:nz)(F':Pos):Prop where
 base:RZ o m X.env (HD o X.env)=HD o X.env
 LD:((Jx F' (i9 [e,f] X.env)).all (λx=>!x.1)&&(Po F' (LW [] X.env)).all (λx=>x.1.isSome)
  && df (([e,f]:List nz).length+([]:List Ni).length+(if ([]:List Ni).isEmpty then 0 else 1)<30))=b6
 line:(apos.endLine==F'.line)=b6
 trees:Jx F' (i9 [e,f] X.env)=[(cK,HD e X.env),(cK,HD f X.env)]
abbrev T2(H:Hp)(a:hU):Prop:=(∃kvs,Rd H a (.dK kvs))\/∃kvs,Rd H a (.dT kvs)
def C9(I:Inv X j σ H s)(d:T2 H a):
  s.TypeIs (.ref a) "dict"/\(∀b,mu a=.ref b->∃c,s.heap.get? b=bD c/\c.dict=cb)/\(a==M4)=cK:=by
 rcases d with⟨kvs,e⟩|⟨kvs,e⟩
 .obtain⟨_,g,vs,_,f⟩:=kK I.Hi e;show⟨f.typeIs,λb q=>?_,g⟩;cases q;obtain⟨c,_,_,h,i,_⟩:=f;show⟨c,h,i.2.1⟩
 .obtain⟨_,g,xs,_,f⟩:=kL I.Hi e;show⟨f.typeIs,λb q=>?_,g⟩;cases q;obtain⟨c,_,_,h,i,_⟩:=f;show⟨c,h,i.2.1⟩
section
def C_(t:A.units+1<Lk)(I:Inv X f σ H s)(g:ff H a y o)(n:RelV y u)(p:RelV d r)(h:∀q s',Inv X f σ H s'->RelV (o.getD d) q->Q q s'):
  ez (hW X.prog X.w) A (N0 (.builtin "dict.get") [.ref a,u,r]) Q E s:=by
 rcases g with⟨kvs,k,e,j,l⟩|⟨kvs,k,b,e,j,v,l⟩
 .subst j;have⟨z,m,vs,c,i⟩:=kK I.Hi e;show V5 PySem.F.slot_dict_get i.typeIs PySem.F.entry_dict_get (PySem.F.args_dict_get_3 _ _ _) (meets_dict_get_default (aS X.prog X.w) a (mP n) m r) ⟨_,i.mapOf,h _ _ (I.tok _) ?_⟩;rw[l];show(c.val k).getD p
 .subst j;cases(show u=mu b from n);have⟨z,m,xs,c,i⟩:=kL I.Hi e;show V5 PySem.F.slot_dict_get i.typeIs PySem.F.entry_dict_get (PySem.F.args_dict_get_3 _ _ _) (meetsH_dict_get_default (Ui (aS X.prog X.w)) a b m r) ⟨OM t,k,xs,je I.Hi v,i,h _ _ (I.tok _) ?_⟩;rw[l];show(c.val k).getD p
end
abbrev Dc(d e f:TE):TE:=λσ H Q=>d σ H λx b=>∃a,x=.ref a/\T2 b a/\e σ b λy g=>f σ g λz c=>∃o,ff c a y o/\Q (o.getD z) c
section
def wM(j:X.A.units+1<Lk)(ho:PE X o k)(l:PE X e n)(p:PE X f q)(m:M2 X o "get" c e f r):PE X (.Call (.Attribute o "get" c) [e,f] [] r) (Dc k n q):=by
 intro b s σ H Q I h;show wpAny_Call_method m.base m.LD m.line PySem.F.plainAttrs_dict PySem.F.slot_dict_get PySem.F.type_dict_get (Hl (ho b s σ H _ I h) λu s1 t=>?_);have⟨x,v,i,w,a,ex,d,B⟩:=t;subst ex;obtain rfl:u=mu a:=w;obtain⟨C,D,_⟩:=C9 i d;show⟨C,D,?_⟩;rw[m.trees];show Jl rfl (Nc (Ox (Hl (l b s1 σ v _ i B) λiv s2 ⟨y,G,J,L,N⟩ =>
  Ox (Hl (p b s2 σ G _ J N) λfv s3 ⟨z,O,T,Y,ov,g,q3⟩=>Q2 ?_))))
 show C_ j T g L Y λw' s4 I4 JW=>⟨_,O,I4,JW,q3⟩
end
section
end
section
end
end L2
namespace HH
open PySem PySem.Builtin.Str PySem.StrLaws
abbrev wN(i:Int):Str:=N1 (R_ i)
def app_list(x y:Str):(x++y).cps.toList=x.cps.toList++y.cps.toList:=by
 change(x.cps++y.cps).toList=_;simp
end HH
namespace L2
open PySem PySem.Spec PyProof.Rows
abbrev bF(env:Env):List (Str×Oo)->List (Str×hU)->List (Str×hU)
 |[],cs=>cs
 |(n,k)::r,cs=>bF env r (if k==.free then(match env.cells.lookup n with|some a=>(n,a)::cs|none=>cs) else cs)
def eM(h:∀y∈scope.names,y.2=.free->∃a,env.cells.lookup y.1=bD a):closureFor scope env=pure (bF env scope.names []):=by
 unfold closureFor;generalize scope.names=names at h
 suffices H:∀cs,(Ê names cs (λ(x:Str×Oo) (r:List (Str×hU))=>if (x.2==Mo)=b6 then do let a <-cellOf env x.1;pure (NV ((x.1,a)::r)) else pure (NV r)):Sem (List (Str×hU)))=pure (bF env names cs) by
  have:=H [];show ü (λ(m:Sem (List (Str×hU)))=>m >>= pure) this
 induction names with
 |nil=>intro cs;rfl
 |cons y r c =>
  intro cs;have⟨n,k⟩:=y;rw[P9];have b:=c λy d=>h y (td _ d);by_cases hk:(k==Mo)=b6
  .have⟨a,e⟩:=h (n,k) nH (by simpa using hk);have f:env.cells.lookup n=bD a:=e;simp only[hk,if_true,cellOf,f,bF];show b _
  .simp only[hk,if_false,bF];show b _
theorem fg:∀(names:List (Str×Oo)) (cs:List (Str×hU)),(∀n c,cs.lookup n=bD c->env.cells.lookup n=bD c)->∀n c,(bF env names cs).lookup n=bD c->env.cells.lookup n=bD c
 |[],_,h=>h
 |(m,k)::r,cs,h=>by
  unfold bF;show fg r _ λn c e=>?_;by_cases hk:(k==Mo)=b6
  .rw[ö hk]at e;cases q:env.cells.lookup m with
   |none=>rw[q]at e;show h n c e
   |some a =>
    rw[q]at e;simp only[t4]at e;cases b:n==m with
    |true =>
     rw[b]at e;have d:n=m:=by simpa using b
     subst d;simp only at e;rw[q];show e
    |false=>rw[b]at e;show h n c e
  .rw[ø hk]at e;show h n c e
theorem jC(c:env.cells.lookup n=bD a):∀(names:List (Str×Oo)) (cs:List (Str×hU)),cs.lookup n=bD a->(bF env names cs).lookup n=bD a
 |[],_,h=>h
 |(m,k)::r,cs,h=>by
  unfold bF;show jC c r _ ?_;by_cases hk:(k==Mo)=b6
  .rw[ö hk];cases q:env.cells.lookup m with
   |none=>show h
   |some b =>
    simp only[t4];cases d:n==m with
    |true =>
     have e:n=m:=by simpa using d
     subst e;rw[c]at q;cases q;rfl
    |false=>show h
  .rw[ø hk];show h
theorem gX(b:env.cells.lookup n=bD a):∀(names:List (Str×Oo)) (cs:List (Str×hU)),(n,Mo)∈names->(bF env names cs).lookup n=bD a
 |[],_,h=>by cases h
 |(m,k)::r,cs,h=>by
  unfold bF;rcases gc.mp h with e|e
  .cases e;show jC b r _ ?_;rw[ö (by decide),b];simp[t4]
  .show gX b r _ e
theorem bY{env:Env}:∀{names:List (Str×Oo)}{x:Str}{k:Oo},
  (names.map λ(n,k)=>if (k==Mo&&env.scope.kind==.function&&env.kindOf n==bD .cell) then(n,NameKind.cell) else(n,k)).lookup x=bD k ->
  names.lookup x=bD k\/(k=.cell/\names.lookup x=bD .free)
 |[],_,_,h=>by simp at h
 |(n,k0)::r,x,k,h=>by
  have e:=@bY env r x k;rw[gs]at h;by_cases b:(k0==Mo&&env.scope.kind==.function&&env.kindOf n==bD .cell)=b6
  .simp only[ö b,t4]at h;cases a:x==n with
   |true =>
    rw[a]at h;have f:k0=.free:=by
     have:=(IH.mp (IH.mp b).1).1;simpa using this
    show .inr ⟨by simpa using h.symm,by simp[t4,a,f]⟩
   |false =>
    rw[a]at h;rcases e h with z|⟨c,d⟩
    .show .inl (by simp[t4,a,z])
    .show .inr ⟨c,by simp[t4,a,d]⟩
  .simp only[ø b,t4]at h;cases a:x==n with
   |true=>rw[a]at h;show .inl (by simpa[t4,a] using h)
   |false =>
    rw[a]at h;rcases e h with z|⟨c,d⟩
    .show .inl (by simp[t4,a,z])
    .show .inr ⟨c,by simp[t4,a,d]⟩
abbrev Iy(X:Cx)(N:List Str)(scope:ME)(C:hU)(s:hH)(H:Hp)(ex:List hU):Cx where
 prog:=X.prog
 w:=X.w
 K:=X.K
 mg:=X.mg
 base:=X.base
 A:=X.A
 N:=N
 s₀:=s
 H₀:=H
 env:=VZ scope (bF X.env scope.names []) C X.env
 outer:=X.stack
 stack:=X.stack
 ex:=ex
 fn:=λ_=>cK
 calm:=X.calm
 pn:=[]
 xe:=λ_ _=>False
abbrev eE(D N:List Str):Prop:=D.length=N.length/\∀(i:Nat) (y:Str),D[i]?=bD y->N[i]?=bD y\/y="."\/y=".."
def eE.refl(N:List Str):eE N N:=⟨rfl,λ_ _ h=>.inl h⟩
def eE.set{D N:List Str}(h:eE D N)(j:Nat){m:Str}(b:m="."\/m=".."):eE (D.set j m) N:=by
 show⟨by rw[ZI];show h.1,λi y e=>?_⟩;by_cases a:j=i
 .subst a;rw[List.getElem?_set,ö rfl]at e;split at e
  .cases e;show .inr b
  .cases e
 .rw[i8 a]at e;show h.2 i y e
structure dP(X:Cx)(N own:List Str)(scope:ME):Prop where
 kind:scope.kind=.function
 JX:∀y∈scope.names,y.2≠.cell
 names:∀y∈scope.names,y.2=.local->scope.names.lookup y.1=bD .local
 nd:N.Nodup
 pre:N.take own.length=own
 loc:∀y∈scope.names,y.2=.local->y.1∈own\/y.1=".0"
 VJ:(".0":Str)∉N
 tail:eE (N.drop own.length) X.N
 free:∀y∈scope.names,y.2=.free->X.env.scope.names.lookup y.1=bD .cell\/X.env.scope.names.lookup y.1=bD .free
 dot:∀y∈scope.names,y.1≠"."/\y.1≠".."
def mem_lookup{names:List (Str×Oo)}(h:names.lookup x=bD k):(x,k)∈names:=PySem.mem_of_lookup h
def dP.cells(S:dP X N c scope)(b:X.Ok):∀y∈scope.names,y.2=.free->∃a,X.env.cells.lookup y.1=bD a:=λy d e=>by
 rcases S.free y d e with z|z
 .show b.has y.1 (.inl z)
 .show b.has y.1 (.inr z)
def wO(S:dP X N d scope)(I:Inv X A σ H s)
  (G:s.heap.objs.size<=C) (Rp:s4.os=s.os) (hg:s4.gens=s.gens) (keep:∀b o,s.heap.get? b=bD o->s4.heap.get? b=bD o) (ns:∃m,s4.heap.Ns C m)
  (f:∀b∈ex,iw X A H b/\b<s.heap.objs.size):Inv (Iy X N scope C s H ex) [] (ki d.length cb++σ) H s4:=by
 have⟨m0,PQ⟩:=ns;have sub:=fg (env:=X.env) scope.names [] (λn c e=>by simp at e);have Rq:∀b∈ex,b<C:=λb g=>kr (f b g).2 G;have tl:d.length<=N.length:=by have:=ü H8 S.pre;rw[HY]at this;lia
 show⟨⟨I.ok.mod,?_,I.ok.glob,I.ok.blt,G,λx y c B w=>I.ok.inj x y c (sub x c B) (sub y c w),λx hx=>?_,λx c h _=>absurd (show cK=b6 from h) (by decide),I.ok.hd,I.ok.frames,.inl rfl,λb g=>⟨hY (Rq b g),λx c e=>?_⟩,λb o e=>I.bs b o e,?_,λb o e g=>?_,λb g=>?_,I.stack,I.sZ⟩,
  Rp,(by rw[hg];show I.bare),Un.kept keep,⟨m0,PQ,λi y v B w h3=>?_⟩,λx c e=>?_,I.Hi.fresh G,λx c e=>I.H_ x c (sub x c e),λp hp=>absurd (show p∈([]:List (hU×Obj)) from hp) (by simp),I.Hi.kept keep,?_⟩
 .change(SM scope X.env).kind=.function;show S.kind
 .
  have Of:(SM scope X.env).names.lookup x=bD .cell\/(SM scope X.env).names.lookup x=bD .free:=hx;have t:scope.names.lookup x=bD .free:=by
   rcases Of with z|z
   .rcases bY z with q|⟨_,q⟩
    .show absurd rfl (S.JX _ (mem_lookup q))
    .show q
   .rcases bY z with q|⟨q,_⟩
    .show q
    .cases q
  have⟨a,ha⟩:=S.cells I.ok (x,.free) (mem_lookup t) rfl;show⟨a,gX ha scope.names [] (mem_lookup t)⟩
 .show(f b g).1.2.2.2.2.1 x c (sub x c e)
 .show u6 I.ok.LU I.sz
 .have⟨f0,O,Q,T,f4,f5⟩:=(f b g).1;rcases T with z|z
  .show I.ok.KR b o e z
  .show absurd (kr (eH e) (u6 I.ok.LU z)) (ve _)
 .intro II;have⟨f0,O,Q,T,f4,f5⟩:=(f b g).1;rcases gc.mp (I.ku b II) with z|z
  .show O z
  .show Q z
 .
  have J:d.length<=i:=by
   by_cases J:i<d.length
   .rw[vl (by simpa using J),Km]at w;split at w<;>cases w
   .lia
  rw[rr (by simpa using J),Pk]at w;have VL:(N.drop d.length)[i - d.length]?=bD y:=by
   rw[K'];have e:d.length+(i - d.length)=i:=by lia
   rw[e];show B
  have Y:(SM scope X.env).names.lookup y=bD .local\/(SM scope X.env).names.lookup y=bD .cell\/(SM scope X.env).names.lookup y=bD .free:=h3;have t:scope.names.lookup y=bD .free:=by
   rcases Y with z|z|z
   .rcases bY z with q|⟨q,_⟩
    .exfalso
     have Jh:y∈d:=by
      rcases S.loc (y,.local) (mem_lookup q) rfl with z|z
      .show z
      .have z':y=".0":=z;show absurd (oT B) (by rw[z'];show S.VJ)
     have⟨j,hj,ej⟩:=Qo Jh;have Ko:N[j]?=bD y:=by
      have e1:(N.take d.length)[j]?=bD y:=by rw[S.pre,ri hj,ej]
      rw[Xe hj]at e1;show e1
     have:=kA S.nd Ko B;lia
    .cases q
   .rcases bY z with q|⟨_,q⟩
    .show absurd rfl (S.JX _ (mem_lookup q))
    .show q
   .rcases bY z with q|⟨q,_⟩
    .show q
    .cases q
  have hX:X.N[i - d.length]?=bD y:=by
   rcases S.tail.2 _ _ VL with e|e|e
   .show e
   .show absurd e (S.dot _ (mem_lookup t)).1
   .show absurd e (S.dot _ (mem_lookup t)).2
  have⟨m,hn,hl⟩:=I.loc;have hv:X.env.scope.names.lookup y=bD .cell\/X.env.scope.names.lookup y=bD .free:=S.free (y,.free) (mem_lookup t) rfl;have⟨u,r,l⟩:=hl _ y v hX w (.inr hv);show⟨u,r,?_⟩;rcases l with⟨k,_⟩|⟨k,c,e,z⟩
  .have k':X.env.scope.names.lookup y=bD .local:=k;rcases hv with q|q<;>(rw[k']at q;cases q)
  .have hk:(SM scope X.env).names.lookup y=bD .cell\/(SM scope X.env).names.lookup y=bD .free:=by
    rcases Y with q|q|q
    .rcases bY q with D|⟨D,_⟩
     .rw[t]at D;cases D
     .cases D
    .show .inl q
    .show .inr q
   have⟨o,ho,L⟩:=z;show .inr ⟨hk,c,gX e scope.names [] (mem_lookup t),o,keep c o ho,L⟩
 .have⟨v,o,ho,L⟩:=I.cell x c (sub x c e);show⟨v,o,keep c o ho,L⟩
 .rw[i7,Pk,I.len];have e:N.length=d.length+(N.drop d.length).length:=by rw[Zl];lia
  change _=N.length;rw[e,S.tail.1]
def pR(I:Inv X f σ H s)
  (d:Inv (Iy X N scope C s H ex) Y σ' l s4) (x:s.heap.objs.size<=D) (y:s.heap.objs.size<=C) (A:D≠C) (h:l D=cb) (rv:Vals p r) (B:s4.heap.PlainList D r.toArray) (hl:p.length<=dV)
  (i:qs C s4.heap h') (m:∀b∈ex,iw X f H b):Inv X f σ (upd l D (.lst p)) {s4 with heap:=h' }:=by
 have t:l C=cb:=d.free;have lt:∀{b:hU} {o:Obj},s.heap.get? b=bD o->b≠C/\b≠D:=λe=>⟨hY (kr (eH e) y),hY (kr (eH e) x)⟩
 show I.EC (s':={s4 with heap:=h' }) (ch:=ex) d.os ⟨λb o e n j g=>?_,λb o e n j g=>?_,λb o e n g=>?_,λb o e g=>?_,λb xs e=>?_,λb o u e=>?_,λb ps e=>?_⟩ (λa o e=>?_) d.bare λb j=>?_
 .show(i.2 b (lt e).1).trans (d.base.keep b o e n j g)
 .have⟨G,q⟩:=d.base.slot b o e n j g;show⟨G,(i.2 b (lt e).1).trans q⟩
 .rw[ao (lt e).2];show d.base.free b o e n g
 .have⟨o',q⟩:=d.base.there b o e g;show⟨o',(i.2 b (lt e).1).trans q⟩
 .have q:=d.base.jU b xs e;rw[ao (bM q h)];show q
 .have q:=d.base.Je b o u e;rw[ao (bM q h)];show q
 .have⟨k,q⟩:=d.base.Jt b ps e;show⟨k,by rw[ao (bM q h)];show q⟩
 .by_cases w:a=D
  .subst w;rw[aA]at e;cases e;have⟨n,q⟩:=B;show⟨hl,r,n,rv,(i.2 _ A).trans q⟩
  .rw[ao w]at e;show(d.Hi a o e).gW (λc v J q=>(i.2 c ?_).trans q) (λc q=>?_) λc xs q=>?_
   .rintro rfl;rcases J with z|z
    .rw[<-z,t]at e;cases e
    .rw[t]at z;cases z
   .rw[ao (bM q h)];show q
   .rw[ao (bM q h)];show q
 .have⟨f0,L,f2,O,Q,T⟩:=m b j;show⟨O,L,Q,T⟩
section
def oA(I:Nat->hH->Prop)
  (b:∀n s,I n s->ez (hW prog w) A (Qk it) (λr d=>match r with
   |none=>R (.ok .next) d
   |some v=>ez (hW prog w) A (Ti a it v) (λ_ d=>ez (hW prog w) A (Rf a env v) (λ_ j =>
     ez (hW prog w) A (Ê f b6 λc r=>if r=b6 then do let ok <-isTrue c env (HD c env);pure (NV ok) else pure (NV r)) (λok i =>
      if ok=b6 then ez (hW prog w) A (HD elt env) (λx k =>
       ez (hW prog w) A (N0 (.builtin "list.append") [acc,x]) (λ_ l=>∃m,m<n/\I m l) (Uj (hW prog w) A env λe s'=>R (.error e) s') k) (Uj (hW prog w) A env λe s'=>R (.error e) s') i
      else ∃m,m<n/\I m i) (Uj (hW prog w) A env λe s'=>R (.error e) s') j) (Uj (hW prog w) A env λe s'=>R (.error e) s') d) (Uj (hW prog w) A env λe s'=>R (.error e) s') d) (Uj (hW prog w) A env λe s'=>R (.error e) s') s)
  (n:Nat) (h:I n s) :
  Qy (hW prog w) A (.compLoop (.ListComp elt [⟨a,g,f,0⟩] scope pos) 0 it acc env) R s:=by
 show codeAny_loop rfl I (λn s q=>?_) n h;change ez _ A ((compTurn (.ListComp elt [⟨a,g,f,0⟩] scope pos) 0 it acc env).onRaise (λx=>do noteFrame x env;theTreesLotGoes x)) _ _ s;show wpAny_noted ?_;rw[compTurn_list];show b5 (Yn (b5 (uv (b n s q) (λr d o=>?_) λ_ _ h'=>h')));cases r with
 |none=>show d3 o
 |some v =>
  show b5 (uv o (λ_ B t=>?_) λ_ _ h'=>h');show b5 (uv t (λ_ j u=>b5 (uv u (λok i p=>?_) λ_ _ h'=>h')) λ_ _ h'=>h');cases ok with
  |false=>show d3 ⟨rfl,p⟩
  |true =>
   show b5 (b5 (uv p (λx k y=>b5 (uv y (λ_ l z=>d3 (d3 ⟨rfl,z⟩)) λ_ _ h'=>h')) λ_ _ h'=>h'))
end
abbrev Ll(X:Cx)(b:List nz)(t:TT):Prop :=
 ∀(a:List (hU×Obj)) (s:hH) (σ:St) (H:Hp) (Q:Bool->Hp->Prop),Inv X a σ H s->t σ H Q ->
  ez (hW X.prog X.w) X.A (Ê b b6 λc r=>if r=b6 then do let d <-isTrue c X.env (HD c X.env);pure (NV d) else pure (NV r)) (TP X a σ Q) X.xe s
abbrev GU:TT:=λ_ H Q=>Q b6 H
def oB:Ll X [] GU:=λ_ _ _ H _ I h=>wpAny_tests_nil ⟨H,I,h⟩
def tv(h:PT X c t):Ll X [c] t:=λa s σ H Q I q=>wpAny_tests_one (h a s σ H Q I q)
abbrev tw(k:Nat)(J:It)(g:TG)(l:TT)(n:TE)(Q:VK)(σ:St)(o:Hp):Prop :=
  ∃W:Nat->Nat->List V->Hp->Prop,(∃m,W 0 m [] o)/\∀i m a H,W i m a H->a.length<=dV /\
    ((J.stop i H/\∀p,H p=cb->Q (.ref p) (upd H p (.lst a))) \/
     (J.go i H/\∃d:List V->Hp->Prop,(∀f H',d f H'->∃h,h<m/\W (i+1) h f H')/\∀x H',J.PD i H x H'->g x (ki k cb++σ) H' λe q=>∃c:St,c.length=k/\e=c++σ /\
        l e q λb j=>if b=b6 then n e j λy r=>d (a++[y]) r else d a j))
abbrev wQ(k:Nat)(a:TI)(g:TG)(b:TT)(c:TE):TE:=λσ H Q=>a σ H λJ d=>tw k J g b c Q σ d
section
def wR
  (S:dP X N B scope) (hc:X.calm=b6) (hg:∀C s H ex,PG (Iy X N scope C s H ex) tg g) (hf:∀C s H ex,Ll (Iy X N scope C s H ex) al tt) (he:∀C s H ex,PE (Iy X N scope C s H ex) elt te)
  (I:Inv X am σ H s) (T:Turn X.prog X.w X.K tg J G it tn) (st:tn 0 s.heap) (f2:∀b∈G,iw X am H b) (W:tw B.length J g tt te Q σ H)
  (hD:@Eq Nat D s.heap.objs.size) (hC:@Eq Nat C (s.heap.objs.size+1)) (Rp:s4.os=s.os) (VN:s4.gens=s.gens) (keep:∀b o,s.heap.get? b=bD o->s4.heap.get? b=bD o) (ns:∃m,s4.heap.Ns C m) (pl:s4.heap.PlainList D #[])
  (an:∀s5 Y O k,Inv (Iy X N scope C s H G) [] (ki B.length cb++σ) Y s5->Y D=cb->Vals O k->s5.heap.PlainList D k.toArray->O.length<=dV->(∀p,Y p=cb->Q (.ref p) (upd Y p (.lst O)))->R (.ok .next) s5) :
  Qy (hW X.prog X.w) X.A (.compStart (.ListComp elt [⟨tg,ap,al,0⟩] scope pos) 0 (.ref it) (.ref D) (VZ scope (bF X.env scope.names []) C X.env)) R s4:=by
 have LF:∀b∈G,@Py Nat _ b s.heap.objs.size:=λb h=>by
  obtain⟨o,e,_⟩:=T.obj 0 s.heap st b h;show eH e
 have I4:Inv (Iy X N scope C s H G) [] (ki B.length cb++σ) H s4:=wO S I ⋯ Rp VN keep ns λb h=>⟨f2 b h,LF b h⟩
 have Nu:tn 0 s4.heap:=T.keep 0 s.heap s4.heap st λb _ o e=>keep b o e;have nD:H D=cb:=I.Hi.fresh ⋯;obtain⟨W,⟨m0,w0⟩,Zr⟩:=W;generalize l:Iy X N scope C s H G=f at I4 an;have eP:f.prog=X.prog:=by rw[<-l];rfl
 have ew:f.w=X.w:=by rw[<-l];rfl
 have eK:f.K=X.K:=by rw[<-l];rfl
 have ec:f.calm=b6:=by rw[<-l];show hc
 have eA:f.A=X.A:=by rw[<-l];rfl
 have ee:f.env=VZ scope (bF X.env scope.names []) C X.env:=by rw[<-l];rfl
 have Rt:f.xe=λ_ _=>False:=by rw[<-l];rfl
 have el:f.env.locals=C:=by rw[ee];rfl
 have Ru:PG f tg g:=by rw[<-l];show hg _ _ _ _
 have Rv:Ll f al tt:=by rw[<-l];show hf _ _ _ _
 have Rw:PE f elt te:=by rw[<-l];show he _ _ _ _
 have s0:f.s₀=s:=by rw[<-l];rfl
 have Og:f.pn=[]:=by rw[<-l];rfl
 have Rx:∀{H':Hp} {o:Obj},(∀b∈G,H' b=cb)->∀b∈G,iw f [(D,o)] H' b:=λ{H' o} hn b h=>by
  have ex:f.ex=G:=by rw[<-l];rfl
  show⟨hn b h,?_,?_,.inl (by rw[ex];show h),λx c e=>?_,λp L=>?_⟩
  .rw[el];have:=LF b h;show hY (by change @Py Nat _ b C;lia)
  .have e1:f.fs=Ke X.stack:=by rw[<-l];rfl
   rw[e1];intro z;have⟨f0,f1,VO,f3,f4,f5⟩:=f2 b h;rcases gc.mp (I.ku b z) with q|q
   .show f1 q
   .show VO q
  .have e1:f.env.cells=bF X.env scope.names []:=by rw[ee];rfl
   rw[e1]at e;show(f2 b h).2.2.2.2.1 x c (fg scope.names [] (λn c e=>by simp at e) x c e)
  .rw[Og,i6]at L;have:p=(D,o):=by simpa using L
   subst this;have:=LF b h;show u5 (by change @Py Nat _ b D;lia)
 have Ry:∀{σ':St} {H':Hp} {s':hH} {o:Obj},Inv f [] σ' H' s'->H' D=cb->s'.heap.get? D=bD o->(∀v,o.data≠.cell v)->Inv f [(D,o)] σ' H' s':=λ{σ' H' s' o} I' n e d =>
  I'.d9 λp L=>by
   have:p=(D,o):=by simpa using L
   subst this;show⟨e,n,?_,?_,d⟩
   .rw[el];show hY (by change @Py Nat _ D C;lia)
   .have e1:f.fs=Ke X.stack:=by rw[<-l];rfl
    rw[e1];intro z;have zz:(D:hU)∈Ke X.stack:=z;rcases gc.mp (I.ku D zz) with q|q
    .have:=I.lt;rw[<-q]at this;show absurd this (by change ¬@Py Nat _ D s.heap.objs.size;lia)
    .show I.CC (a:=D) ⋯ q
 have start:∀s':hH,s'=s4->Qy (hW X.prog X.w) X.A (.compLoop (.ListComp elt [⟨tg,ap,al,0⟩] scope pos) 0 (.ref it) (.ref D) (VZ scope (bF X.env scope.names []) C X.env)) R s':=by
  rintro s' rfl;show oA (λn s'=>∃i O k H',Inv f [] (ki B.length cb++σ) H' s'/\tn i s'.heap/\(∀b∈G,H' b=cb)/\H' D=cb/\Vals O k/\s'.heap.PlainList D k.toArray/\W i n O H') ?_ m0
   ⟨0,[],[],H,I4,Nu,λb h=>(f2 b h).1,nD,.nil,pl,w0⟩
  rintro n s3 ⟨i,O,k,H3,I3,HU,N5,T4,PR,⟨nn,VP⟩,w3⟩;have⟨ab,Kg⟩:=Zr i n O H3 w3;have IP:=Ry I3 T4 VP (λv z=>by have z':Data.seq _ _=XM v:=z;cases z');rcases Kg with⟨ar,qn⟩|⟨go,NN,T5,as⟩
  .have d:=T.done f eP ew eK ec i _ s3 _ H3 (Uj (hW X.prog X.w) X.A (VZ scope (bF X.env scope.names []) C X.env) λe s'=>R (.error e) s') IP (Rx N5) HU ar;rw[eA]at d;show Hl d λr s4 Rz=>?_;have⟨hr,I5⟩:=Rz;subst hr;have e5:=(I5.pin (D,({cls:=.type "list",data:=.seq k.toArray nn}:Obj)) (by rw[Og];simp)).1;show an s4 H3 O k (I5.d9 λp L=>by cases L) T4 PR ⟨nn,e5⟩ ab qn
  .have d:=T.item f eP ew eK ec i _ s3 _ H3 (Uj (hW X.prog X.w) X.A (VZ scope (bF X.env scope.names []) C X.env) λe s'=>R (.error e) s') IP (Rx N5) HU go;rw[eA]at d;show Hl d λr s4 RA=>?_;have⟨u,hr,h4⟩:=RA;subst hr;show Hl h4 λ_ s5 RB=>?_;have⟨x,Y,I5,r5,y5,KC,Q1⟩:=RB;have Yo:Y D=cb:=(I5.pin (D,({cls:=.type "list",data:=.seq k.toArray nn}:Obj)) (by rw[Og];simp)).2.1;have Q3:=I5.pinned (Rx Q1) (T.obj _ _ KC);have a6:=Ru _ s5 _ Y x u _ Q3 r5 (as x Y y5);rw[eP,ew,eA,ee,Rt]at a6;show uv a6 (λ_ s6 ⟨σ6,H6,I6,q6⟩=>?_) λ_ _ z=>Nd z;have⟨ow,az,rfl,q6⟩:=q6;have a7:=Rv _ s6 _ H6 _ I6 q6;rw[eP,ew,eA,ee,Rt]at a7;show uv a7 (λb s7 ⟨H7,I7,q7⟩=>?_) λ_ _ z=>Nd z;have ac:∀{s8:hH} {t:Hp} {Jp:List V} {its':List et} {nn':Nat},Inv f [] (ow++σ) t s8->tn (i+1) s8.heap->(∀b∈G,t b=cb)->t D=cb->Vals Jp its'->s8.heap.PlainList D its'.toArray->(∃m',m'<n/\W (i+1) m' Jp t) ->
     ∃m,m<n/\∃i O k H',Inv f [] (ki B.length cb++σ) H' s8/\tn i s8.heap/\(∀b∈G,H' b=cb)/\H' D=cb/\Vals O k/\s8.heap.PlainList D k.toArray/\W i m O H':=λ{s8 t Jp its' nn'} I8 VQ VR n8 VS VT w8=>by
    have⟨m',hm,w8⟩:=w8;show⟨m',hm,i+1,Jp,its',t,I8.weak (by simp[az]) (λj v e=>?_),VQ,VR,n8,VS,VT,w8⟩;by_cases hj:j<B.length
    .rw[vl (by simpa using hj),Km]at e;split at e<;>cases e
    .rw[rr (by simpa using(Nat.not_lt.mp hj)),Pk]at e;rw[rr ⋯,az];show e
   have ag:∀{σ':St} {t:Hp} {s8:hH},Inv f ([(D,({cls:=.type "list",data:=.seq k.toArray nn}:Obj))]++kD G s5.heap) σ' t s8->s8.heap.get? D=bD {cls:=.type "list",data:=.seq k.toArray nn}/\t D=cb/\tn (i+1) s8.heap/\∀b∈G,t b=cb:=λ{σ' t s8} I8=>by
    have p1:=I8.pin (D,({cls:=.type "list",data:=.seq k.toArray nn}:Obj)) (by rw[Og];simp);show⟨p1.1,p1.2.1,T.keep _ _ _ KC λb h o e=>(I8.pin (b,o) (mh _ (mh _ (e_ h e)))).1,λb h=>?_⟩;have⟨o,e,d⟩:=T.obj _ _ KC b h;show(I8.pin (b,o) (mh _ (mh _ (e_ h e)))).2.1
   cases b with
   |false =>
    rw[ø k8]at q7 ⊢;have⟨p1,p2,p3,p4⟩:=ag I7;show ac (nn':=0) (I7.d9 λp L=>by cases L) p3 p4 p2 PR ⟨nn,p1⟩ (T5 _ _ q7)
   |true =>
    rw[ö rfl]at q7 ⊢;have a8:=Rw _ s7 _ H7 _ I7 q7;rw[eP,ew,eA,ee,Rt]at a8;show uv a8 (λy s8 ⟨yv,t,I8,r8,q8⟩=>?_) λ_ _ z=>Nd z;have⟨p1,p2,p3,p4⟩:=ag I8;have hsz:k.toArray.size<=dV:=by rw[hZ,<-PR.length];show ab
    show wpAny_list_append_plain (hsz:=hsz) ⟨nn,p1⟩ λh9 VU T6=>?_;have VV:Inv f [] (ow++σ) t s8:=I8.d9 λp L=>by cases L
    have PU:∀x c,f.env.cells.lookup x=bD c->c≠D:=λx c e=>by
     have e1:f.env.cells=bF X.env scope.names []:=by rw[ee];rfl
     rw[e1]at e;have q:=fg scope.names [] (λn c e=>by simp at e) x c e;have⟨v,z⟩:=I.cell x c q;have:@Py Nat _ c s.heap.objs.size:=z.lt;show hY (by change @Py Nat _ c D;lia)
    have I9:Inv f [] (ow++σ) t {s8 with heap:=h9,toks:=s8.toks}:=VV.turned (it:=D) (λb o h e=>(T6.2 b h).trans e) p2 (by rw[el];show hY (by change @Py Nat _ D C;lia)) (.inr (by rw[s0];change @É Nat _ s.heap.objs.size D;lia)) PU (λp L=>by rw[Og]at L;cases L);have VW:(k++[y]).toArray=k.toArray.push y:=by simp
    show ac (nn':=0) (s8:={s8 with heap:=h9,toks:=s8.toks}) I9 (T.keep _ _ _ p3 λb h o e=>(T6.2 b ?_).trans e) p4 p2 (PR.append (.cons r8 .nil)) (by rw[VW];show VU) (T5 _ _ q8);have:=LF b h;show hY (by change @Py Nat _ b D;lia)
 show codeAny_compStart_list (start _ rfl) (T.self _ _ _ _ _ Nu (start _ rfl))
def kM{RR:et->hU->Result->hH->Prop}
    (S:dP X N d scope) (L:X.calm=b6) (O:∀C s H ex,PG (Iy X N scope C s H ex) x g) (Y:∀C s H ex,Ll (Iy X N scope C s H ex) m tt) (he:∀C s H ex,PE (Iy X N scope C s H ex) elt te)
 (I:Inv X f σ H s) (T:Turn X.prog X.w X.K x J z it tn) (st:tn 0 s.heap) (f2:∀b∈z,iw X f H b) (W:tw d.length J g tt te Q σ H)
    (n:∀D C h c i k,@Eq Nat D s.heap.objs.size->@Eq Nat C (s.heap.objs.size+1)->Inv (Iy X N scope C s H z) [] (ki d.length cb++σ) c h->c D=cb->Vals i k->h.heap.PlainList D k.toArray->i.length<=dV->(∀p,c p=cb->Q (.ref p) (upd c p (.lst i)))->RR (.ref D) C (.ok .next) h) :
    ez (hW X.prog X.w) X.A (Z_ []) (λacc s₃=>ez (hW X.prog X.w) X.A (newFunctionEnv scope X.env.globals (bF X.env scope.names []) [] X.env.qual cb .none (bD X.env)) (λB s₄ =>
      Qy (hW X.prog X.w) X.A (.compStart (.ListComp elt [⟨x,G,m,0⟩] scope pos) 0 (.ref it) acc {B with scope:=SM scope X.env}) (RR acc B.locals) s₄) E s₃) E s:=by
  show HK (wpAny_newFunctionEnv S.JX (by intro y hy;simp at hy) (λq r l=>?_) S.kind)
  dsimp only at r l ⊢
  generalize t:s.heap.push {cls:=.type "list",dict:=cb,data:=.seq ([]:List et).toArray}=j at r l ⊢;have u:j.objs.size=s.heap.objs.size+1:=by rw[<-t,Sq]
  have Rr:s.heap.objs.size≠j.objs.size:=by rw[u];show hY (N2 _)
  have a:∀b:hU,b<s.heap.objs.size->b≠j.objs.size:=λb hb=>hY (by have II:@Py Nat _ b s.heap.objs.size:=hb;change @Py Nat _ b j.objs.size;lia);have v:∀b o,s.heap.get? b=bD o->q.get? b=bD o:=λb o e=>l.extBut b o (a b (eH e)) (cc _ (t▸cc _ e));have Ip:q.PlainList s.heap.objs.size #[]:=⟨_,l.extBut _ _ Rr (cc _ (t▸gj _ rfl))⟩
  show wR (s:=s) (s4:={s with heap:=q,toks:=s.toks+([]:List (Str×et)).length}) (C:=j.objs.size) (D:=s.heap.objs.size) S L O Y he I T st f2 W rfl u rfl rfl v ⟨_,r⟩ Ip
    λh c i k I5 n5 Oi Oj Ol q5=>n _ _ h c i k rfl u I5 n5 Oi Oj Ol q5
def tD(S:dP X N c scope)(m:X.calm=b6)(n:PI X f a o)(p:∀C s H ex,PG (Iy X N scope C s H ex) f g)(q:∀C s H ex,Ll (Iy X N scope C s H ex) d r)(t:∀C s H ex,PE (Iy X N scope C s H ex) elt u)
  (hs:∀x,LY a X.env x=pure x:=by intro _;rfl):PE X (.ListComp elt [⟨f,a,d,0⟩] scope pos) (wQ c.length o g r u):=by
 intro b s σ H Q I h;rw[eval_ListComp];show Yu (use:=cb) (cl:=bF X.env scope.names []) rfl hs (eM (S.cells I.ok)) S.kind S.names ?_;show Hl (n b s σ H _ I h) λv s1 y=>Hl y λPF s2 z=>?_;have⟨it,fp,tn,J,H2,e,i,T,st2,j,W⟩:=z;subst e;show kM (RR:=λacc C=>compPost (hW X.prog X.w) X.A X.xe cb (EP X b σ Q) acc C) S m p q t i T st2 j W ?_;intro D C s5 H5 ys B' B hC k l G L O Y;obtain⟨m5,RE,_⟩:=k.loc;show⟨m5,RE,λh' sb=>⟨.ref D,_,pR i k (Ya B.symm) (by change @É Nat _ s2.heap.objs.size C;lia) (hY (by change @Py Nat _ D C;lia)) l G L O sb j,rfl,Y D l⟩⟩
def z_(S:dP X N r scope)(hc:X.calm=b6)(hN:X.N.Nodup)(PV:X.N[i]?=bD y)(G:X.env.scope.names.lookup y=bD .local)
  (hi:PI X n d wi) (hg:∀C s H ex,PG (Iy X N scope C s H ex) n g) (hf:∀C s H ex,Ll (Iy X N scope C s H ex) k tt) (he:∀C s H ex,PE (Iy X N scope C s H ex) elt te)
  (L3:Qi (.ListComp elt [⟨n,d,k,0⟩] scope pos) (bD (.Name y m)) Kp.line X.env=pure b6:=by rfl)
  (hs:∀x,LY d X.env x=pure x:=by intro _;rfl):PS X (.Assign [.Name y m] (.ListComp elt [⟨n,d,k,0⟩] scope pos) Kp) (CM (wQ r.length wi g tt te) (s9 i)):=by
 intro f s σ H D I h;rw[exec_Assign_Name_used _ _ _ _ L3];show b5 (Yn (b5 ?_));change ez _ X.A (do let _ <-comprehension (.ListComp elt [⟨n,d,k,0⟩] scope pos) scope X.env _ (Z_ []) cK (HD d X.env) (bD (Rf (.Name y m) X.env))) _ _ s;show b5 (uv (Yu (use:=bD (Rf (.Name y m) X.env)) (cl:=bF X.env scope.names []) (Q:=λ_ s'=>SP X f D .next s') rfl hs (eM (S.cells I.ok)) S.kind S.names ?_) (λ_ s' hq=>d3 (d3 hq)) λ_ _ e=>e);show Hl (hi f s σ H _ I h) λv s1 h1=>Hl h1 λPF s2 h2=>?_;have⟨it,fp,tn,J,H2,e,l,T,st2,L,W⟩:=h2;subst e;show kM (RR:=λacc C=>compPost (hW X.prog X.w) X.A X.xe (bD (Rf (.Name y m) X.env)) (λ_ s'=>SP X f D .next s') acc C) S hc hg hf he l T st2 L W ?_;intro j C q t O B' hD hC u Y Oi Oj Ol q5;obtain⟨m5,RE,_⟩:=u.loc;have VX:t C=cb:=u.free;have B:Inv X f σ (upd t j (.lst O)) {q with heap:=q.heap}:=pR l u (Ya hD.symm) (by change @É Nat _ s2.heap.objs.size C;lia) (hY (by change @Py Nat _ j C;lia)) Y Oi Oj Ol (J1 ..) L;change ez _ X.A (Rf (.Name y m) X.env (.ref j)) _ _ q;show Z7 (mH (s:=q) B hN PV (.inl G) (show RelV (.ref j) (.ref j) from rfl) (λs6 I6 ⟨a,sb,ha⟩=>?_) (.inr G));have PU:@Py Nat _ X.env.locals C:=by have:@Py Nat _ X.env.locals s2.heap.objs.size:=l.lt;lia
 have KY:∀x c,X.env.cells.lookup x=bD c->c≠C:=λx c e=>by
  have⟨v,z⟩:=l.cell x c e;have:@Py Nat _ c s2.heap.objs.size:=z.lt;show hY (by change @Py Nat _ c C;lia)
 have VY:C≠a:=by
  rcases ha with z|z
  .rw[z];show u5 PU
  .show(KY _ _ z).symm
 show⟨m5,RE.sameBut sb VY,λh' Om=>?_⟩;show⟨σ.set i (bD (.ref j)),upd t j (.lst O),I6.turned (it:=C) (t':=s6.toks) (λb o hb e=>(Om.2 b hb).trans e) ?_ (u5 PU) (.inr (by have:@É Nat _ X.s₀.heap.objs.size s2.heap.objs.size:=l.sz;change @É Nat _ X.s₀.heap.objs.size C;lia)) KY (λp hp=>?_),q5 j Y⟩
 .rw[ao (u5 (by change @Py Nat _ j C;lia))];show VX
 .have:@Py Nat _ p.1 s2.heap.objs.size:=eH (l.pin p hp).1;show hY (by change @Py Nat _ p.1 C;lia)
end
section
end
section
abbrev E6:V->Option Int->Option Int->Hp->VK->Prop:=λx lo a H Q=>∃z,x=.str z/\z.length<=dV/\Q (.str (PySem.StrLaws.sliceText z lo a)) H
def mn(x:Str)(lo a:Option Int)(hz:x.length<=dV):(PySem.StrLaws.sliceText x lo a).length<=dV:=u6 (Txt.slice_le x lo a) hz
def Dd:LZ X E6:=by
 intro b s σ H x v n o lo c p Q I g hs m e h;have⟨z,rfl,hz,q⟩:=h;have⟨t,rfl⟩:=g;show⟨"str",_,Ø.lookup,X3 _ _ _,?_⟩;have a:(PySem.StrLaws.sliceText z lo c).length<=dV/\∀t' k,EP X b σ Q (.str (PySem.StrLaws.sliceText z lo c) t') {s with toks:=k}:=⟨mn z lo c hz,λt' k=>⟨.str _,H,I.tok k,⟨_,rfl⟩,q⟩⟩
 cases m with
 |none =>
  cases e with
  |none=>show Pc (l:=cb) (u:=cb) (st:=cb) hs rfl (Th a)
  |int j d=>show Pc (l:=cb) (u:=bD (j,d)) (st:=cb) hs rfl (Th a)
 |int i f =>
  cases e with
  |none=>show Pc (l:=bD (i,f)) (u:=cb) (st:=cb) hs rfl (Th a)
  |int j d=>show Pc (l:=bD (i,f)) (u:=bD (j,d)) (st:=cb) hs rfl (Th a)
theorem iA:∀{a:List Str}{b:List et},Vals (a.map V.str) b->∃l:List (Str×Tok),b=strValues l/\l.map (·.1)=a
 |[],_,.nil=>⟨[],rfl,rfl⟩
 |y::a,_,.cons r t=>by
  have⟨c,rfl⟩:=r;have⟨l,rfl,e⟩:=iA t;show⟨(y,c)::l,rfl,by rw[gs,e]⟩
def Aa:Rb X "str.join" (λx xs H Q=>∃a p b,x=.str a/\xs=[.ref p]/\HM X.K H p (b.map V.str)/\ZX a b=b6/\Q (.str (SR a b)) H):=by
 intro c s σ H x xs v us Q I d rs h;have⟨a,p,b,rfl,rfl,f,g,q⟩:=h;have⟨t,rfl⟩:=d;have⟨u,rfl,r⟩:=vals1 rs;cases r;have⟨j,rv,i,hz⟩:=I.list f;have⟨l,rfl,e⟩:=iA rv;show SC.join i.isList e g λt' k=>⟨.str _,H,I.tok k,⟨_,rfl⟩,q⟩
theorem jD:∀{a:List Bool}{c:List et},Vals (a.map V.bl) c->c=a.map QD
 |[],_,.nil=>rfl
 |b::a,_,.cons r t=>by
  cases r;rw[jD t];rfl
def wU:X.calm=b6->jA X (.builtin "all") (λxs H Q=>∃(p:hU) (a:List Bool),xs=[.ref p]/\HM X.K H p (a.map V.bl)/\Q (.bl (a.all id)) H):=by
 intro j f s σ H xs us Q I rs h;have⟨p,a,rfl,k,q⟩:=h;have⟨u,rfl,r⟩:=vals1 rs;cases r;have⟨o,rv,d,hz⟩:=I.list k;have e:=jD rv;subst e;have l:p<s.heap.objs.size:=by obtain⟨_,_,e,_⟩:=d;show eH e
 show call_all_walk (RM d.isList ?_);show⟨s.heap.objs.size,[s.heap.objs.size,p],[s.heap.objs.size],(a.map QD).toArray.size,_,_,λi=>(a[i]?).getD b6,rfl,Õ (A:=X.A.in1) (I.ok.hd j) _ p (hY l) (a.map QD).toArray,
  ⟨⟨_,gj _ rfl,rfl,rfl⟩,d.isList.push _⟩,λi v s' Q' t m g=>?_,λh' n hk=>?_⟩
 .have c:(a.map QD)[i]?=bD v:=by simpa using m
  rw[ko]at c;cases e:a[i]? with
  |none=>rw[e]at c;cases c
  |some b =>
   rw[e]at c;cases c;simp only[e,Option.getD_some]at g;show LV g
 .have e:((ix (a.map QD).toArray.size).all λi=>(a[i]?).getD b6)=a.all id:=by
   rw[hZ,dt];show ZL a
  rw[e];show⟨.bl _,H,I.kept (t':=n) (ZM hk),rfl,q⟩
end
section
end
abbrev Ab(N a:List Str)(scope:ME)(out:List (Str×Oo)):Bool :=
 df (scope.kind=.function)&&scope.names.all (λy=>df (y.2≠.cell))&&scope.names.all (λy=>df (y.2≠.local)||decide (scope.names.lookup y.1=bD .local))&&decide N.Nodup&&df (N.take a.length=a) &&
 scope.names.all (λy=>df (y.2≠.local)||decide (y.1∈a)||decide (y.1=".0"))&&df ((".0":Str)∉N)&&scope.names.all (λy=>df (y.2≠.free)||decide (out.lookup y.1=bD .cell)||decide (out.lookup y.1=bD .free))&&scope.names.all (λy=>df (y.1≠".")&&df (y.1≠".."))
def rq(c:X.env.scope.names=out)(d:eE (N.drop a.length) X.N)(h:Ab N a scope out=b6):dP X N a scope:=by
 unfold Ab at h;simp only[cL,mx,Lp,õ]at h;obtain⟨⟨⟨⟨⟨⟨⟨⟨f,g⟩,i⟩,j⟩,k⟩,l⟩,m⟩,n⟩,o⟩:=h;show⟨f,g,λy b e=>?_,j,k,λy b e=>?_,m,d,λy b e=>?_,o⟩
 .rcases i y b with z|z
  .show absurd e z
  .show z
 .rcases l y b with(z|z)|z
  .show absurd e z
  .show .inl z
  .show .inr z
 .rw[c];rcases n y b with(z|z)|z
  .show absurd e z
  .show .inl z
  .show .inr z
section
end
section
end
abbrev Jy(a b:Str):Bool:=!df (b.cps.toList<a.cps.toList)
def j5(a b:Str):Jy a b=b6↔a.cps.toList<=b.cps.toList:=by
 simp only[Jy,x2,decide_eq_false_iff_not];show List.not_lt
def mR(a b c:Str)(d:Jy a b=b6)(e:Jy b c=b6):Jy a c=b6:=by
 rw[j5]at d e ⊢;show List.le_trans d e
def vj(a b:Str):(Jy a b||Jy b a)=b6:=by
 rw[Lp,j5,j5];show List.le_total _ _
def wV{x y:Str}(h:x.cps.toList=y.cps.toList):x=y:=by
 cases x;cases y;congr
 show Array.toList_inj.mp h
def oC(c:Jy a b=b6)(d:Jy b a=b6):a=b:=by
 rw[j5]at c d;show wV (List.le_antisymm c d)
abbrev aL(l:List Str):List Str:=l.mergeSort Jy
def bN(l:List Str):(aL l).Perm l:=List.mergeSort_perm l Jy
def cn(l:List Str):(aL l).Pairwise (λa b=>Jy a b=b6):=List.pairwise_mergeSort mR vj l
theorem iB:∀(l:List Str) (p:Str),risingS p l=b6->(p::l).Pairwise (λa b=>Jy a b=b6)
 |[],p,_=>by simp
 |x::r,p,h=>by
  have h':(!ltCps x.cps.toList p.cps.toList&&risingS x r)=b6:=h;have⟨c,g⟩:=IH.mp h';have d:=iB r x g;have f:Jy p x=b6:=by rw[ltCps_eq]at c;show c
  show QN.mpr ⟨λy i=>?_,d⟩;rcases gc.mp i with e|e
  .rw[e];show f
  .show mR _ _ _ f ((QN.mp d).1 y e)
def oD(h:sortedS l=b6):l.Pairwise (λa b=>Jy a b=b6):=by
 cases l with
 |nil=>show .nil
 |cons x r=>show iB r x h
theorem eN:∀{l m:List Str},l.Perm m->l.Pairwise (λa b=>Jy a b=b6)->m.Pairwise (λa b=>Jy a b=b6)->l=m
 |[],m,c,_,_=>(List.Perm.nil_eq c)
 |x::l,m,c,d,f=>by
  cases m with
  |nil=>show absurd c.length_eq (by simp)
  |cons y m =>
   have⟨g,h⟩:=QN.mp d;have⟨b1,i⟩:=QN.mp f;have j:x=y:=by
    have m1:x∈y::m:=c.mem_iff.mp nH;have m2:y∈x::l:=c.mem_iff.mpr nH;rcases gc.mp m1 with e|e
    .show e
    .rcases gc.mp m2 with e'|e'
     .show e'.symm
     .show oC (g y e') (b1 x e)
   subst j;rw[eN (List.Perm.cons_inv c) h i]
def wW(a:l.Perm m)(hs:sortedS l=b6):l=aL m:=eN (a.trans (bN m).symm) (oD hs) (cn m)
def fM(a:l.Perm m):aL l=aL m:=eN ((bN l).trans (a.trans (bN m).symm)) (cn l) (cn m)
def cu(l:List Str):(aL l).length=l.length:=(bN l).length_eq
section
theorem cM:∀{a:List Str}{b:List et},Vals (a.map V.str) b->Pp b a
 |[],_,.nil=>.nil
 |y::a,_,.cons r t=>by
  have⟨c,rfl⟩:=r;show .cons y c (cM t)
theorem dH:∀{a:List et}{b:List Str},Pp a b->Vals (b.map V.str) a
 |_,_,.nil=>.nil
 |_,_,.cons x t h=>.cons ⟨t,rfl⟩ (dH h)
theorem fh(hc:ez (hW prog w) A.in1 (Y4 x) (λvs s1=>∃ss,Pp vs ss/\vs.length<64 /\
      ∀(h':J3) (HJ:List et) (e:Nat),(∀b o,s1.heap.get? b=bD o->h'.get? b=bD o)->h'.get? s1.heap.objs.size=bD (HX "list" HJ.toArray e)->Pp HJ (aL ss)->Q (.ref s1.heap.objs.size) {s1 with heap:=h' }) E s) :
    ez (hW prog w) A (N0 (.builtin "sorted") [x]) Q E s:=by
  refine Wn kind_sorted plain_sorted entry_sorted (args_sorted1 _) ?_;unfold M5.«sorted»;refine b5 (m:=checkCount "sorted" 1 1 _) (d3 ?_);refine b5 (uv hc (λvs s1 h1=>?_) λ_ _ e=>e);obtain⟨ss,hS,JQ,h⟩:=h1
  refine wpAny_bind (wpAny_newList ?_ (by have : (64 : Nat) ≤ sizeLine := by decide
                                          lia))
  have LA:(s1.heap.push (HX "list" vs.toArray 0)).get? s1.heap.objs.size=bD (HX "list" vs.toArray 0):=gj _ rfl;show ez _ _ _ _ _ {s1 with heap:=s1.heap.push (HX "list" vs.toArray 0)};refine b5 (ux (Hz ñ ⟨_,LA,rfl⟩ ã (list_sort_treeK strKind_oneLt LA hS.keysOf (λv₁ v₂ rest e=>keyKind_strs (by rw[<-e];exact hS)) JQ λst' a1 a2=>⟨_,rfl,?_⟩) (ó _)));obtain⟨JZ,b1,b2,b3⟩:=sorted_out_str hS a1 a2;obtain⟨e,he⟩:=sortedHeap_at (out:=(arrOf st').map (·.2)) LA;rw[wW b2 b3]at b1;refine d3 ⟨_,rfl,h _ ((arrOf st').map (·.2)).toList e (λb o q=>?_) (by rw[Yd];exact he) b1⟩;have HC:b<s1.heap.objs.size:=eH q;show(ZZ (s1.heap.push (HX "list" vs.toArray 0)) s1.heap.objs.size vs ((arrOf st').map (·.2))).get? b=bD o;rw[ð (hY HC) (by rw[KW];exact OY HC)];exact cc _ q
def mq(hl:ô s.heap l vs.toArray)
  (h:Q vs {s with heap:=(s.heap.push (HX "list" #[] 0)).update s.heap.objs.size (rz (·++vs.toArray))}) (hsz:vs.length<=dV) :
  ez (hW prog w) A (Y4 (.ref l)) Q E s:=by
 have⟨o,ho,b,n,c⟩:=id hl;unfold Y4;show b5 (X2 (LS entry_proto_collect' ?_));change ez _ _ (do í (.builtin "list.__iadd__" ⟨[<-Z_ [],.ref l],[]⟩)) _ _ s;show b5 (Ys (d3 ⟨YV _ (by decide +kernel),LS entry_list_iadd' ?_⟩));change ez _ _ (tA (.ref s.heap.objs.size) (.ref l) (.ref s.heap.objs.size)) _ _ {s with heap:=s.heap.push (HX "list" #[] 0)};unfold tA;have a:(s.heap.push (HX "list" #[] 0)).get? l=bD o:=cc _ ho;show b5 (Vr (T:="tuple") ⟨o,a,b⟩ ?_);have d:(sL "tuple"==sL "tuple")=b6:=by rfl
 rw[ö (by rw[d];simp)];show b5 (Zb a c ?_);show b5 (Zb (xs:=#[]) (n:=0) (gj _ rfl) rfl ?_);rw[ø (by simp)];show b5 (UK (xs:=#[]) (n:=0) (gj _ rfl) rfl ?_ (js _) (by change(#[]++vs.toArray).size<=dV+1;simp only[Ug,hZ,Vl];lia));show d3 ?_;change ez (hW prog w) A (do
   let o <-load s.heap.objs.size
   match o.data with
   |.seq xs _=>pure xs.toList
   |_=>W0 "internal:collect") Q E {s with heap:=(s.heap.push (HX "list" #[] 0)).update s.heap.objs.size (rz (·++vs.toArray))}
 show b5 (ZQ (â (gj _ rfl) _) ?_);change ez _ _ (pure ((#[]:Array et)++vs.toArray).toList) Q E _;rw[show((#[]:Array et)++vs.toArray).toList=vs by simp];show d3 h
end
section
def mr{h:J3}{vs:List et}(e:h.get? b=bD o):((h.push (HX "list" #[] 0)).update h.objs.size (rz (·++vs.toArray))).get? b=bD o:=by
 rw[N6 _ _ _ _ (hY (eH e))];show cc _ e
def pS(I:Inv X a σ H s)(k1:∀b o,s.heap.get? b=bD o->s1.heap.get? b=bD o)(h:∃d c,s1={s with heap:=d,toks:=c})
  (hk:∀b o,s1.heap.get? b=bD o->h'.get? b=bD o) (i:h'.get? s1.heap.objs.size=bD (HX "list" f.toArray e)) (j:Pp f (aL ss)) (hsz:s.heap.objs.size<=s1.heap.objs.size) (hl:ss.length<=dV)
  (q:∀p,H p=cb->Q (.ref p) (upd H p (.lst ((aL ss).map V.str)))):EP X a σ Q (.ref s1.heap.objs.size) {s1 with heap:=h' }:=by
 have⟨d,c,rfl⟩:=h;have g:Inv X a σ H {s with heap:=d,toks:=c}:=I.kept (t':=c) k1;show⟨.ref d.objs.size,_,g.laid (t':=c) (o:=.lst ((aL ss).map V.str)) hk (i5 _) ⟨by rw[dt,cu];show hl,f,e,dH j,i⟩,rfl,q _ (g.Hi.fresh (i5 _))⟩
def jE:jA X (.builtin "sorted") (λxs H Q=>∃(p:hU) (c:List Str),xs=[.ref p]/\(HM X.K H p (c.map V.str)\/HR X.K H p (c.map V.str))/\c.length<64/\∀q,H q=cb->Q (.ref q) (upd H q (.lst ((aL c).map V.str)))):=by
 intro f s σ H xs us Q I rs h;have⟨p,c,rfl,hq,l,q⟩:=h;have⟨u,rfl,r⟩:=vals1 rs;cases r;have hl:c.length<=dV:=O3 (kr l (by decide));have g:∀(a:List et),Vals (c.map V.str) a->∀(h':J3) (d:List et) (e:Nat),(∀b o,((s.heap.push (HX "list" #[] 0)).update s.heap.objs.size (rz (·++a.toArray))).get? b=bD o->h'.get? b=bD o) ->
   h'.get? ((s.heap.push (HX "list" #[] 0)).update s.heap.objs.size (rz (·++a.toArray))).objs.size=bD (HX "list" d.toArray e)->Pp d (aL c) ->
   EP X f σ Q (.ref ((s.heap.push (HX "list" #[] 0)).update s.heap.objs.size (rz (·++a.toArray))).objs.size) {s with heap:=h' }:=λa rv h' d e hk i j =>
  pS (s1:={s with heap:=(s.heap.push (HX "list" #[] 0)).update s.heap.objs.size (rz (·++a.toArray))}) I (λb o z=>mr z) ⟨_,s.toks,rfl⟩ hk i j (by change s.heap.objs.size<=((s.heap.push (HX "list" #[] 0)).update s.heap.objs.size (rz (·++a.toArray))).objs.size;rw[Heap.size_update,KW];show Lw _) hl q
 rcases hq with hq|hq
 .have⟨a,rv,k,hz⟩:=I.list hq;have m:a.length=c.length:=by rw[<-rv.length,dt]
  show fh (collect_list k.isList ⟨c,cM rv,⋯,λh' d e hk i j=>g a rv h' d e hk i j⟩ ⋯)
 .have⟨a,rv,k,hz⟩:=I.tuple hq;have m:a.length=c.length:=by rw[<-rv.length,dt]
  show fh (mq k ⟨c,cM rv,⋯,λh' d e hk i j=>g a rv h' d e hk i j⟩ ⋯)
end
@[reducible]def sK(P:Hr)(w:IT):=PySem.strKind P w
abbrev aR(P:Hr)(w:IT)(h:J3)(a:hU)(led:Bool)(D:List Str):Prop :=
 ∃(L:List (Str×Tok)) (es:Array (Int×et)) (ep:Nat) (t:Oh),h.get? a=bD {cls:=.type "set",dict:=cb,data:=.set es ep t}/\es.toList=L.map (λp=>((sK P w).hash p.1,u4 p.1 p.2)) /\
  (L.map (·.1)).Perm D/\D.Nodup/\t.fits es.size=b6/\es.size<Ja/\t.led=led/\(es.size=0\/t.plain=cK)
section
def kN{L:List (Str×Tok)}:ElemsOf (sK prog w) (L.map λp=>((sK prog w).hash p.1,u4 p.1 p.2)):=by
 intro e a;obtain⟨p,_,rfl⟩:=ke.mp a;show⟨⟨p.1,by simp[PySem.strKind,Tx],rfl⟩,rfl⟩
def gL(x y:Str)(t:Tok):(sK prog w).is x (.str y t)=df (x=y):=by
 rw[JB];simp[PySem.strKind,Tx];show⟨λh=>h.symm,λh=>h.symm⟩
def rA(t:Oh)(es:Array (Int×et))(h:Int)(x:et):(layNew t es h x).2.1.led=t.led:=by
 unfold layNew;split
 .change(XR (t.put _).1 _).led=t.led;unfold XR;split<;>rfl
 .rfl
def oE(t:Oh)(es:Array (Int×et))(n:Nat):(X4 t es n).2.1.led=t.led:=by
 unfold X4;split
 .rename_i t' b a;have:t'.led=t.led:=by
   unfold Ul Sg at a;cases c:QE (KQ n - 1) (es.map (·.1)) with
   |none=>rw[c]at a;cases a
   |some o=>rw[c]at a;cases a;rfl
  dsimp only
  split
  .show this
  .rfl
 .rfl
def kO(t:Oh)(es:Array (Int×et))(n:Nat)(h:t.plain=cK):(X4 t es n).2.1.plain=cK:=by
 unfold X4;split
 .rename_i t' b a;have:t'.plain=t.plain:=by
   unfold Ul Sg at a;cases c:QE (KQ n - 1) (es.map (·.1)) with
   |none=>rw[c]at a;cases a
   |some o=>rw[c]at a;cases a;rfl
  dsimp only
  split
  .rw[this];show h
  .rfl
 .rfl
def dc(h:l.Perm (L.map λp=>((sK prog w).hash p.1,u4 p.1 p.2))):∃L':List (Str×Tok),l=L'.map (λp=>((sK prog w).hash p.1,u4 p.1 p.2))/\L'.Perm L:=by
 have all:∀e∈l,∃p:Str×Tok,e=((sK prog w).hash p.1,u4 p.1 p.2):=λe a=>by
  obtain⟨p,_,rfl⟩:=ke.mp (h.mem_iff.mp a);show⟨p,rfl⟩
 have ex:∀l:List (Int×et),(∀e∈l,∃p:Str×Tok,e=((sK prog w).hash p.1,u4 p.1 p.2))->∃L':List (Str×Tok),l=L'.map (λp=>((sK prog w).hash p.1,u4 p.1 p.2)):=by
  intro l;induction l with
  |nil=>intro _;show⟨[],rfl⟩
  |cons e l c =>
   intro b;have⟨p,rfl⟩:=b e nH;have⟨L',rfl⟩:=c λe a=>b e (td _ a);show⟨p::L',rfl⟩
 have⟨L',rfl⟩:=ex l all;show⟨L',rfl,?_⟩;have g:(L'.map λp=>((sK prog w).hash p.1,u4 p.1 p.2)).map (λe=>match e.2 with|.str x t=>(x,t)|_=>(uk,0))=L':=by
  rw[i4];show U2 _
 have d:(L.map λp=>((sK prog w).hash p.1,u4 p.1 p.2)).map (λe=>match e.2 with|.str x t=>(x,t)|_=>(uk,0))=L:=by
  rw[i4];show U2 _
 have:=h.map (λe=>match e.2 with|.str x t=>(x,t)|_=>(uk,0));rw[g,d]at this;show this
theorem kP(hS:aR prog w s.heap a led D)(L4:D.length+1<Ja)
    (h:∀h',qs a s.heap h'->aR prog w h' a led (if x∈D then D else D++[x])->Q (df (x∉D)) {s with heap:=h' }) :
    ez (hW prog w) A (setAddHashed a (.str x tk) ((sK prog w).hash x)) Q E s:=by
  obtain⟨L,es,ep,t,ho,Ie,Hh,HE,hf,hb,Il,Ic⟩:=hS;have MA:(sK prog w).is x (.str x tk)=b6:=by rw[gL];simp
  have Oq:ElemsOf (sK prog w) es.toList:=by rw[Ie];exact kN
  have hlen:es.size=D.length:=by rw[<-i3,Ie,dt,<-dt (f:=ZN) (as:=L),Hh.length_eq]
  unfold setAddHashed setAddHashedIn;refine ux (b5 (my ho rfl hf ?_))
  dsimp only
  rw[byScan_of (knd:=sK prog w) rfl hb Oq];simp only[↓reduceIte];unfold setAddByScan;refine b5 ?_;refine b5 (L_ ?_);refine b5 (Ë (knd:=sK prog w) MA ho rfl hf Oq ?_);have mem_iff:(∃e∈es.toList,(sK prog w).is x e.2=b6)↔x∈D:=by
    rw[Ie,<-Hh.mem_iff,ke];constructor
    · rintro⟨e,he,hi⟩
      obtain⟨p,hp,rfl⟩:=ke.mp he;rw[gL,õ]at hi;exact⟨p,hp,hi.symm⟩
    · rintro⟨p,hp,e⟩
      exact⟨_,ke.mpr ⟨p,hp,rfl⟩,by rw[gL];simp[e]⟩
  cases hr:Xx (λe=>(sK prog w).is x e.2) es.toList with
  | some j =>
    dsimp only
    obtain⟨hj,PX,_⟩:=Ue.mp hr;have hx:x∈D:=mem_iff.mp ⟨es.toList[j],KX hj,PX⟩;refine d3 (d3 ?_);have e:s={s with heap:=s.heap}:=by cases s;rfl
    have:=h s.heap (J1 a s.heap) (by rw[ö hx];exact⟨L,es,ep,t,ho,Ie,Hh,HE,hf,hb,Il,Ic⟩);rw[ù (λz=>z hx)]at this;rw[e];exact this
  | none =>
    dsimp only
    have hx:x∉D:=λhx=>by
      obtain⟨e,he,hp⟩:=mem_iff.mpr hx;have:=WW.mp hr e he;rw[hp]at this;exact Bool.noConfusion this
    have V0:∀(b:Bool) {s₁:hH} {Q':Unit->hH->Prop},Q' () s₁->ez (hW prog w) A (match b with|true=>Ò "set.scan.the-table-gave-way"|false=>pure ()) Q' E s₁ :=
      λb s₁ Q' hq=>by cases b<;>first|exact d3 hq|exact L_ hq
    have Nv:=layNew_perm t es ((sK prog w).hash x) (.str x tk);have Kh:=layNew_fits t es ((sK prog w).hash x) (.str x tk);have JA:=rA t es ((sK prog w).hash x) (.str x tk);generalize hL:layNew t es ((sK prog w).hash x) (.str x tk)=NL at Nv Kh JA ⊢;obtain⟨HZ,t1,KZ,V1⟩:=NL
    dsimp only at Nv Kh JA ⊢
    rw[Y0,Ie,show [((sK prog w).hash x,u4 x tk)]=[(x,tk)].map (λp=>((sK prog w).hash p.1,u4 p.1 p.2)) from rfl,<-l0]at Nv;obtain⟨L1,e1,V2⟩:=dc Nv;have MB:HZ.size=D.length+1:=by rw[<-i3,Nv.length_eq,dt,i7,<-hlen,<-i3,Ie,dt];rfl
    have T8:HZ.size<Ja:=by lia
    have L5:(L1.map (·.1)).Perm (D++[x]):=(V2.map _).trans (by rw[l0];exact Hh.append_right _);have T9:(D++[x]).Nodup:=by
      rw[ti]
      exact ⟨HE, by simp, fun y hy z hz => by have : z = x := by simpa using hz
                                              subst this;rintro rfl;exact hx hy⟩
    refine b5 (V0 _ ?_);have Kq:∀h',qs a s.heap h'->aR prog w h' a led (D++[x])->Q b6 {s with heap:=h' }:=λh' sb hs=>by
      have:=h h' sb (by rw[ø hx];exact hs);rw[ú hx]at this;exact this
    have tail:∀(g:Bool->Sem Unit),(∀(b:Bool) (s₁:hH) (Q':Unit->hH->Prop),Q' () s₁->ez (hW prog w) A (g b) Q' E s₁)->∀(R:Option Bool->hH->Prop),(∀h',qs a s.heap h'->aR prog w h' a led (D++[x])->R (bD b6) {s with heap:=h' })->∀t2:Oh,t2.fits HZ.size=b6->t2.led=led->t2.plain=cK->ez (hW prog w) A (do
        storeSet a HZ t2
        if (!KZ&&t2.tooFull)=true then do
            g (relayAll t2 HZ (SetTable.grown HZ.size)).2.2
            storeSet a (relayAll t2 HZ (SetTable.grown HZ.size)).1 (relayAll t2 HZ (SetTable.grown HZ.size)).2.1
            pure (some true)
          else pure (bD b6)) R E s:=by
      intro g hg R hR t2 V3 J0 LH;refine b5 (Vt ho rfl ?_ (VI T8));have Lm:(s.heap.update a (OD HZ t2)).get? a=bD {cls:=.type "set",dict:=cb,data:=.set HZ (ep+1) t2}:=by
        have:=u3 (OD HZ t2) ho rfl;exact this
      have Ot:=HN s.heap a (OD HZ t2);split
      · have hp:=relayAll_perm t2 HZ (MK HZ.size)
        have Lo:=relayAll_fits t2 HZ (MK HZ.size);have RF:=oE t2 HZ (MK HZ.size);have Nw:=kO t2 HZ (MK HZ.size) LH;generalize RG:X4 t2 HZ (MK HZ.size)=Rl at hp Lo RF Nw ⊢;obtain⟨L6,t3,T_⟩:=Rl
        dsimp only at hp Lo RF Nw ⊢
        rw[e1]at hp;obtain⟨L2,e2,V4⟩:=dc hp;have hsz:L6.size=HZ.size:=by rw[<-i3,hp.length_eq,<-e1,i3]
        refine b5 (hg _ _ _ ?_);refine b5 (Vt Lm rfl ?_ (VI ⋯));have L7:((s.heap.update a (OD HZ t2)).update a (OD L6 t3)).get? a=bD {cls:=.type "set",dict:=cb,data:=.set L6 (ep+1+1) t3}:=u3 (OD L6 t3) Lm rfl;refine d3 (hR _ (Ot.trans (HN _ a _)) ⟨L2,L6,_,t3,L7,e2,(V4.map _).trans L5,T9,Lo,⋯,RF.trans J0,.inr Nw⟩)
      · exact d3 (hR _ Ot ⟨L1,HZ,_,t2,Lm,e1,L5,T9,V3,T8,J0,.inr LH⟩)
    split
    · rename_i hp
      refine b5 ?_;rw[hashByValue_scannable 8 rfl];refine d3 ?_;have ep:(if plainKind (u4 x tk)=b6 then t1 else {t1 with plain:=cK})={t1 with plain:=cK}:=rfl;rw[ep];refine tail _ ?_ _ ?_ {t1 with plain:=cK} (SetTable.fits_plain_off Kh) (JA.trans Il) rfl
      · intro b s₁ Q' hq;cases b<;>first|exact d3 hq|exact L_ hq
      · intro h' Kr Jq;dsimp only;exact d3 (Kq h' Kr Jq)
    · rename_i hp
      refine b5 (d3 ?_);simp only[↓reduceIte];refine tail _ ?_ _ ?_ t1 Kh (JA.trans Il) (Bool.eq_false_iff.mpr hp)
      · intro b s₁ Q' hq;cases b<;>first|exact d3 hq|exact L_ hq
      · intro h' Kr Jq;dsimp only;exact d3 (Kq h' Kr Jq)
end
abbrev jS(D:List Str)(x:Str):List Str:=if x∈D then D else D++[x]
abbrev aD(l:List Str):List Str:=l.foldl jS []
theorem rB(h:D.Nodup):(jS D x).Nodup:=by
  unfold jS;split
  · exact h
  · rename_i hx
    rw[ti]
    exact ⟨h, by simp, fun y hy z hz => by have : z = x := by simpa using hz
                                           subst this;rintro rfl;exact hx hy⟩
theorem fi:∀(l D:List Str),D.Nodup->(l.foldl jS D).Nodup/\(∀x,x∈l.foldl jS D↔x∈D\/x∈l)/\(l.foldl jS D).length<=D.length+l.length
 |[],D,h=>⟨h,by simp,by simp⟩
 |y::l,D,h=>by
  have⟨a,b,f⟩:=fi l (jS D y) (rB h);have c:∀x,x∈jS D y↔x∈D\/x=y:=λx=>by
   unfold jS;split
   .rename_i d;show⟨.inl,λz=>z.elim id (λe=>e▸d)⟩
   .simp
  have hl:(jS D y).length<=D.length+1:=by
   unfold jS;split
   .lia
   .simp
  show⟨a,λx=>?_,by rw[R4,k7];lia⟩;rw[R4,b,c,gc,or_assoc]
def bp(l:List Str):(aD l).Nodup:=(fi l [] Sx).1
def bh(l:List Str)(x:Str):x∈aD l↔x∈l:=by rw[aD,(fi l [] Sx).2.1];simp
def gY(l:List Str):(aD l).length<=l.length:=by have:=(fi l [] Sx).2.2;simpa[aD] using this
def pT(l:List Str)(x:Str):aD (l++[x])=jS (aD l) x:=by unfold aD;rw[List.foldl_append];rfl
section
variable{prog:Hr}{w:IT}{A:MH}{R:Result->hH->Prop}{I:hU}{fp wr:List hU}{G:Array Zw->Array Zw->Prop}{n:Nat}{P:Nat->et->Prop}{St:Nat->hH->Prop}
def jf(W:ZV prog w A.in1 I fp wr G n P St)(S:hU)(l:S∉fp)(led:Bool)
  (a:List Str) (hn:a.length=n) (u:∀i v,P i v->∃x t,a[i]?=bD x/\v=.str x t) (c:n+1<Ja) :
  ∀(k i:Nat) (s:hH),n - i=k->i<=n->St i s->aR prog w s.heap S led (aD (a.take i)) ->
   (∀s',Moved (S::wr) G s s'->aR prog w s'.heap S led (aD a)->R (.ok (.ret .none)) s') ->
   Qy (hW prog w) A (.builtin "set.update.loop" ⟨[.ref S,.ref I],[]⟩) R s:=by
 have m:S∉wr:=λh=>l (W.sub _ h);have p:∀b∈wr,b∈S::wr:=λb c=>td _ c;intro k;induction k with
 |zero =>
  intro i s hk y g f j;have z:i=n:=by lia
  subst z;show LS Rc ?_;rw[M8 MI _];change ez _ A.in1 (Qk (.ref I) >>= _) _ _ s;show b5 (W.done s _ _ g λs' d=>?_);change ez _ A.in1 (ret ro) _ _ s';rw[Mt ⋯]at f;show d3 (j s' (d.mono p) (by
   have⟨L,es,ep,t,ho,rest⟩:=f;show⟨L,es,ep,t,d.heap S _ m ho,rest⟩))
 |succ k B =>
  intro i s hk y g f j;have q:i<n:=by lia
  show LS Rc ?_;rw[M8 MI _];change ez _ A.in1 (Qk (.ref I) >>= _) _ _ s;show b5 (W.item i s _ _ q g λv s' C D d=>?_);have⟨x,t,H,rfl⟩:=u i v C;have J:aR prog w s'.heap S led (aD (a.take i)):=by
   have⟨L,es,ep,N,ho,rest⟩:=f;show⟨L,es,ep,N,d.heap S _ m ho,rest⟩
  change ez _ A.in1 (Mr [u4 x t] (setAdd S (.str x t)) >>= _) _ _ s';show b5 (ux ?_);unfold setAdd;show ux ?_;show b5 ((sK prog w).pyHash (k:=x) (by rw[gL];simp) ?_);have O:(aD (a.take i)).length+1<Ja:=by have:=gY (a.take i);rw[HY]at this;lia
  show kP (s:={s' with toks:=s'.toks+1}) J O λh' r Q=>?_;have T:aR prog w h' S led (aD (a.take (i+1))):=by
   rw[List.take_add_one,H];change aR prog w h' S led (aD (a.take i++[x]));rw[pT];show Q
  show d3 ⟨RS MI _,B (i+1) _ ⋯ q (W.frame _ s' _ _ D (Lw _) λb c o e=>?_) T λY RJ RK=>?_⟩
  .rw[r.2 b (λh:b=S=>l (by rw[<-h];show c))];show e
  .show j Y (Ã W.gtrans ((d.mono p).then_heap (Lw _) λb o c e=>?_) RJ) RK;rw[r.2 b (λh:b=S=>c (by rw[h];show nH))];show e
end
section
def mw(a:et)
  (h:Q₁ (.ref s.heap.objs.size) {s with heap:=s.heap.push {cls:=.type "set",dict:=cb,data:=.set #[] 0 (.fresh 0 0 (!w.params.followText "set-order"))}}) :
  Qy (hW prog w) A (.call (.builtin "set.__new__") ⟨[.type "set",a],[]⟩) (wants Q₁ E) s:=by
 show ß ?_;change ez _ A.in1 (do checkBuiltinCall "set.__new__" ⟨[.type "set",a],[]⟩;í (.builtin "set.__new__" ⟨[.type "set",a],[]⟩)) _ _ s;show b5 (WY (PySem.F.newCall_set_1 a) (d3 ⟨RS PySem.F.plain_set_new _,LS PySem.F.entry_set_new ?_⟩));rw[M8 PySem.F.plain_set_new _];unfold M5.«set.__new__» ZA;have b:=Vx;have⟨c,g,d,e,os⟩:=s
 dsimp only
 wp_walk
 show Qb (d3 ?_)
 dsimp only
 simp only[newObj];show b5 (wpAny_alloc (d3 ?_));show d3 h
def gZ(b:h.get? a=bD {cls:=.type "set",dict:=cb,data:=.set #[] 0 (.fresh 0 0 led)}):aR prog w h a led [] :=
 ⟨[],#[],0,_,b,rfl,.nil,Sx,rfl,by unfold Ja;decide,rfl,.inl rfl⟩
end
def sub_tuple_set:Pd (.type "tuple") (.type "set")=pure cK:=by rw[JF];kernel_rfl
def sub_tuple_frozenset:Pd (.type "tuple") (.type "frozenset")=pure cK:=by rw[JF];kernel_rfl
section
@[reducible]def aF(w:IT):Bool:=!w.params.followText "set-order"
@[reducible]def rC(led:Bool):Obj:={cls:=.type "set",dict:=cb,data:=.set #[] 0 (.fresh 0 0 led)}
def iC
  (L:s.TypeIs (.ref l) T) (V7:Pd (.type T) (.type "set")=pure cK) (V8:Pd (.type T) (.type "frozenset")=pure cK) (HV:(sL T==sL "dict")=cK)
  (N:a.length+1<Ja)
  (k:∀(s1:hH) (B:MH) (Q':et->hH->Prop),B.handled=A.handled->(∀b o,s.heap.get? b=bD o->s1.heap.get? b=bD o)->s.heap.objs.size<s1.heap.objs.size ->
   (∀I m n G P St d,ZV prog w B.in1 I m n G a.length P St->(∀g g',G g g'->g'=g)->s.heap.objs.size∉m->(∀b∈n,s.heap.objs.size<b)->(∀i v,P i v->∃x t,a[i]?=bD x/\v=.str x t)->St 0 {s1 with heap:=d}->(∀b o,s1.heap.get? b=bD o->d.get? b=bD o)->Q' (.ref I) {s1 with heap:=d})->ez (hW prog w) B (X7 (.ref l)) Q' E s1)
  (h:∀(h':J3) (f:Nat),aR prog w h' s.heap.objs.size (aF w) (aD a)->(∀b o,b<s.heap.objs.size->s.heap.get? b=bD o->h'.get? b=bD o)->Q (.ref s.heap.objs.size) {s with heap:=h',toks:=f}) :
  ez (hW prog w) A (N0 (.type "set") [.ref l]) Q E s:=by
 have⟨c,tl,V9⟩:=PySem.F.called_set.mro;have Ub:=PySem.F.called_set.made;have Kt:=PySem.F.called_set.sub;show wpAny_call (ß ?_);change ez _ _ (callAny (.type "set") _) _ _ _;show d3 ⟨YV _ (by decide +kernel),LS PySem.F.entry_type_call ?_⟩;rw[Around.under_plain (weight_type_call_type "set" [.ref l] []) rfl];have d:=PySem.F.called_set.notType;have h2:=PySem.F.called_set.canCreate;have Yp:=PySem.F.typeCall_set_1 (.ref l)
 repeat (any_goals (first|assumption|wp_step))
 show SN (mw (.ref l) (E:=E) (Q₁:=λobj C=>obj=.ref s.heap.objs.size/\C={s with heap:=s.heap.push (rC (aF w))}) ⟨rfl,rfl⟩) λr C p=>?_;cases r with
 |error e=>show p
 |ok O =>
  cases O with
  |ret obj =>
   have⟨rfl,rfl⟩:=p;have D:(s.heap.push (rC (aF w))).get? s.heap.objs.size=bD (rC (aF w)):=gj _ rfl;have Y:QX {s with heap:=s.heap.push (rC (aF w))} (.ref s.heap.objs.size) "set":=⟨_,D,rfl⟩
   have Yq:=PySem.F.called_set.init.lookup;have RL:=PySem.F.called_set.init.bind (.ref s.heap.objs.size)
   repeat (any_goals (first|assumption|wp_step))
   show SN (codeAny_call_builtin (R:=wants (λr H=>r=.none/\∃h' f,H={s with heap:=h',toks:=f} /\
     aR prog w h' s.heap.objs.size (aF w) (aD a) /\
     (∀b o,b<s.heap.objs.size->s.heap.get? b=bD o->h'.get? b=bD o)) E) PySem.F.called_set.init.plain PySem.F.entry_set_init (check_set_init_1 Y ?_)) λr₂ H q=>?_
   .have⟨ol,Ou,J⟩:=L;have⟨V_,Ov,Ow,MD⟩:=ol;simp only at J;subst J;have RN:(s.heap.push (rC (aF w))).get? l=bD {cls:=.type T,dict:=Ov,data:=Ow,slots:=MD}:=cc _ Ou;have Uc:QX {s with heap:=s.heap.push (rC (aF w))} (.ref l) T:=⟨_,RN,rfl⟩
    unfold M5.«set.__init__» noKeywords Zy;generalize V':X7=PI
    wp_walk
    subst V';show k {s with heap:=s.heap.push (rC (aF w))} _ _ rfl (λb o e=>cc _ e) (by rw[KW];show N2 _) λI m n G P St d W hG hf Wa MC Hq hk=>?_;show b5 (X2 ?_);show jf W s.heap.objs.size hf (aF w) a rfl MC N (a.length - 0) 0 _ ⋯ (js _) Hq (gZ (hk _ _ D)) ?_;intro s' j u;have⟨h',g',d',Wb,Q6⟩:=s';have eg:g'=s.gens:=hG _ _ j.gens;have ed:d'=s.drawn:=j.drawn;have eo:Q6=s.os:=j.os;subst eg;subst ed;subst eo;change ez _ _ _ _ _ _;show d3 ?_;change ez _ _ (ret ro) _ _ _;show d3 ⟨rfl,h',Wb,rfl,u,λb o y e=>?_⟩;show j.heap b o (λz=>by
     rcases gc.mp z with z|z
     .rw[z]at y;show ve _ y
     .show absurd (Wa b z) (ZD y)) (hk _ _ (cc _ e))
   .cases r₂ with
    |error e=>show q
    |ok Wc =>
     cases Wc with
     |ret r =>
      have⟨rfl,h',f,rfl,u,Ig⟩:=q
      repeat (any_goals (first|assumption|wp_step))
      show h _ _ u Ig
     |_=>show q.elim
  |_=>show p.elim
end
section
theorem oF:∀{vs:List et}{ss:List Str},Pp vs ss->∀(i:Nat) (v:et),vs[i]?=bD v->∃x t,ss[i]?=bD x/\v=.str x t
 |_,_,.nil,i,v,h=>by simp at h
 |_,_,.cons x t h,0,v,e=>by simp at e;show⟨x,t,rfl,e.symm⟩
 |_,_,.cons x t h,i+1,v,e=>by rw[Rn]at e;rw[Rn];show oF h i v e
theorem iD:∀{vs:List et}{ss:List Str},Pp vs ss->vs.length=ss.length
 |_,_,.nil=>rfl
 |_,_,.cons x t h=>by simp[iD h]
def tE(a:n≠S)(b:n≠l):n∉[S,l]:=by simp[a,b]
def fN(j:A.handled=cb)(hl:s.heap.IsList l vs.toArray)(f:Pp vs a)(c:a.length+1<Ja)
  (h:∀(h':J3) (k:Nat),aR prog w h' s.heap.objs.size (aF w) (aD a)->(∀b o,b<s.heap.objs.size->s.heap.get? b=bD o->h'.get? b=bD o)->Q (.ref s.heap.objs.size) {s with heap:=h',toks:=k}) :
  ez (hW prog w) A (N0 (.type "set") [.ref l]) Q E s:=by
 have g:l<s.heap.objs.size:=let ⟨o,ho,_⟩:=hl;eH ho;show iC hl.typeIs PySem.F.sub_list_set PySem.F.sub_list_frozenset (by decide) c (λs1 B Q' m hk d n=>?_) h;have JA:s1.heap.IsList l vs.toArray:=let ⟨o,ho,r⟩:=hl;⟨o,hk _ _ ho,r⟩;show RM JA ?_;have p:l≠s1.heap.objs.size:=hY (Uw g d);have W:=(Õ (prog:=prog) (w:=w) (A:=B.in1) (by simp[m,j]) s1.heap.objs.size l p vs.toArray).toS;have q:vs.toArray.size=a.length:=by simp[iD f]
 rw[q]at W;show n _ _ _ _ _ _ _ W (λ_ _ e=>e) (tE (hY d) (u5 g)) (λb c=>by rw[i0.mp c];show d) (λi v t=>oF f i v (by simpa using t)) ⟨⟨_,gj _ rfl,rfl,rfl⟩,JA.push _⟩ λb o e=>cc _ e
def gM(j:A.handled=cb)(hl:s.heap.IsTuple l vs.toArray)(f:Pp vs a)(c:a.length+1<Ja)
  (h:∀(h':J3) (k:Nat),aR prog w h' s.heap.objs.size (aF w) (aD a)->(∀b o,b<s.heap.objs.size->s.heap.get? b=bD o->h'.get? b=bD o)->Q (.ref s.heap.objs.size) {s with heap:=h',toks:=k}) :
  ez (hW prog w) A (N0 (.type "set") [.ref l]) Q E s:=by
 have g:l<s.heap.objs.size:=let ⟨o,ho,_⟩:=hl;eH ho;show iC hl.typeIs sub_tuple_set sub_tuple_frozenset (by decide) c (λs1 B Q' m hk d n=>?_) h;have JA:s1.heap.IsTuple l vs.toArray:=let ⟨o,ho,r⟩:=hl;⟨o,hk _ _ ho,r⟩;show MZ JA ?_;have p:l≠s1.heap.objs.size:=hY (Uw g d);have W:=(Walks.tuple (prog:=prog) (w:=w) (A:=B.in1) (by simp[m,j]) s1.heap.objs.size l p vs.toArray).toS;have q:vs.toArray.size=a.length:=by simp[iD f]
 rw[q]at W;show n _ _ _ _ _ _ _ W (λ_ _ e=>e) (tE (hY d) (u5 g)) (λb c=>by rw[i0.mp c];show d) (λi v t=>oF f i v (by simpa using t)) ⟨⟨_,gj _ rfl,rfl,rfl⟩,let ⟨o,ho,r⟩:=JA;⟨o,cc _ ho,r⟩⟩ λb o e=>cc _ e
def oG(a:n≠0)(h:∀i<n,Q i {s with drawn:=s.drawn.bump src}):ez M A (choose src n) Q E s:=λΓ p b=>by
 change Sem.wp M Γ (.choose src n .pure) _ _ p s;rw[Sem.wp_choose];show⟨a,h _ (WM _ (Nat.pos_of_ne_zero a))⟩
theorem g9:∀{xs:List α}{i:Nat}{x:α},xs[i]?=bD x->(x::xs.eraseIdx i).Perm xs
 |[],i,x,h=>by simp at h
 |y::a,0,x,h=>by simp at h;subst h;show .refl _
 |y::a,i+1,x,h=>by
  rw[Rn]at h;rw[Ro];show(YN y x _).trans ((g9 h).cons y)
theorem gN:∀(n:Nat) (xs:List α) (s:hH) (Q:List α->hH->Prop),xs.length=n->(∀a d,a.Perm xs->Q a {s with drawn:=d})->ez M A (drawOrder n xs) Q E s
 |0,xs,s,Q,b,h=>by
  have:xs=[]:=Rm.mp b;subst this;show d3 (h [] s.drawn (.refl _))
 |n+1,[],s,Q,b,h=>by simp at b
 |n+1,y::a,s,Q,b,h=>by
  change ez M A (choose .order (y::a).length >>= _) Q E s;show b5 (oG (by simp) λi c=>?_);have e:(y::a)[i]?=bD ((y::a)[i]'c):=ri c;have f:=g9 e;generalize (y::a)[i]'c=x at e f;simp only[e];show b5 (gN n _ _ _ (by have:=f.length_eq;simp at this b ⊢;lia) λg d hz=>?_);show d3 (h (x::g) d ((hz.cons x).trans f))
theorem jF(next:Nat->Nat):∀(fuel k:Nat) (left:List α) (out:Array α),left.length=fuel->(VG next fuel k left out).toList.Perm (out.toList++left)
 |0,k,left,out,hl=>by
  have:left=[]:=Rm.mp hl;subst this;simp[VG]
 |fuel+1,k,left,out,hl=>by
  unfold VG;have a:next k % left.length<left.length:=WM _ ⋯;have e:left[next k % left.length]?=bD (left[next k % left.length]'a):=ri a;have b:=g9 e;generalize left[next k % left.length]'a=x at e b;simp only[e];show(jF next fuel _ _ _ (by have:=b.length_eq;simp at this;lia)).trans ?_;rw[Y0,Q_];show(b.append_left _)
def dQ(next:Nat->Nat)(xs:Array α):(WG next xs).toList.Perm xs.toList:=by
 have:=jF next xs.size 0 xs.toList #[] (by simp);simpa[WG] using this
end
namespace SI
def pU:Manifest.owners.lookup (String.ofList ['r','o','t','a','r','e','t','i','_','t','e','s'].reverse)=bD Manifest.sig_set_iterator:=by kernel_rfl
def slot_next:Slot "set_iterator" "__next__" "set_iterator.__next__" :=
 .of (owner:="set_iterator") (n:="__next__") (by rw[QP,Nf];kernel_rfl) (by decide +kernel) (by decide +kernel) (by decide +kernel)
  (by first|show .inl (by decide +kernel)|show .inr (by decide +kernel)) (by rw[JF];kernel_rfl)
def entry_next:Zt table "set_iterator.__next__"=bD M5.«set_iterator.__next__»:=entryFor_of_tree (by kernel_rfl)
def args_next(a:et):ì "set_iterator.__next__" ⟨[a],[]⟩:=by
 unfold ì;rw[signature?_of (id:="set_iterator.__next__") (n:=['_','_','t','x','e','n','_','_']) (o:=['r','o','t','a','r','e','t','i','_','t','e','s']) (by kernel_rfl) pU];kernel_rfl
def mS:Slot "set_iterator" "__iter__" "set_iterator.__iter__" :=
 .of (owner:="set_iterator") (n:="__iter__") (by rw[QP,Nf];kernel_rfl) (by decide +kernel) (by decide +kernel) (by decide +kernel)
  (by first|show .inl (by decide +kernel)|show .inr (by decide +kernel)) (by rw[JF];kernel_rfl)
def vk(a:et):ì "set_iterator.__iter__" ⟨[a],[]⟩:=by
 unfold ì;rw[signature?_of (id:="set_iterator.__iter__") (n:=['_','_','r','e','t','i','_','_']) (o:=['r','o','t','a','r','e','t','i','_','t','e','s']) (by kernel_rfl) pU];kernel_rfl
def rD:Zt table "set_iterator.__iter__"=bD M5.«dict_keyiterator.__iter__» :=
 X9 (id':="dict_keyiterator.__iter__") (by kernel_rfl) (by first|rfl|decide +kernel|(unfold String.splitOn;simp +decide [String.splitOnAux])) (by decide +kernel) (by kernel_rfl)
def kQ:Zt table "set.__iter__"=bD M5.«frozenset.__iter__» :=
 X9 (id':="frozenset.__iter__") (by kernel_rfl) rfl (by decide +kernel) (by kernel_rfl)
end SI
section
variable{prog:Hr}{w:IT}{A:MH}{E:et->hH->Prop}{s:hH}
abbrev g_(h:J3)(I:hU)(first:et)(i:Nat)(S:hU)(n ep:Nat):Prop:=∃o,h.get? I=bD o/\o.cls=.type "set_iterator"/\o.data=.fields #[first,vr i,.ref S,vr n,vr ep]
def g_.typeIs(x:g_ s.heap I f i S n ep):s.TypeIs (.ref I) "set_iterator":=let ⟨o,ho,a,_⟩:=x;⟨o,ho,a⟩
def Ac(a:g_ s.heap I f i S n ep)(h:Q (.ref I) s):ez (hW prog w) A (X7 (.ref I)) Q E s:=by
 show Z6 a.typeIs SI.mS (Hz SI.mS a.typeIs SI.rD ?_ (SI.vk _));change ez _ _ (ret (.ref I)) _ _ s;show d3 ⟨_,rfl,"set_iterator",_,a.typeIs,SI.slot_next.lookup,h⟩
def cN(h:Q (M.w.params.followText "set-order") s):ez M A ZT Q E s:=by
 unfold ZT;show b5 (Qb (d3 h))
end
end L2
namespace L2
open PySem PySem.Spec PyProof.Rows
section
variable{prog:Hr}{w:IT}{A:MH}{E:et->hH->Prop}{s:hH}
@[reducible]def oH(es:Array (Int×et))(ep:Nat)(t:Oh):Obj:={cls:=.type "set",dict:=cb,data:=.set es ep t}
def pV{I:hU}{B:MH}{Q:Option et->hH->Prop}{c:J3}{k:et->Sem (Option et)}(d:B.handled=cb)
  (f:∀h',(∀b o,c.get? b=bD o->h'.get? b=bD o)->∀e,QX {s with heap:=h' } e "StopIteration"->E e {s with heap:=h' }) {Q':Fin->hH->Prop} :
  ez (hW prog w) B (Y3 (.type "StopIteration") [] >>= λe=>(X6 e:Sem Fin)) Q' E {s with heap:=c}:=by
 show b5 ?_;simp only[Y3,é];show b5 (HK ?_ (by size_fits));show b5 (m:=T' _ _) (WY (a:=ro) (by first|rfl|(simp only[T'];rfl)) ?_);show HK ?_ (by size_fits);simp only[X6];show b5 (wpAny_handled ?_);rw[d];show b5 (d3 (wpAny_throw ?_));show f _ (λb o e=>cc _ (cc _ e)) _ ⟨_,gj _ rfl,rfl⟩
def tF{I S:hU}{first:et}{i ep:Nat}{es:Array (Int×et)}{t:Oh}(d:g_ s.heap I first i S es.size ep)(ho:s.heap.get? S=bD (oH es ep t))(j:t.fits es.size=b6)
  (k:∀(Q':Fin->hH->Prop) (h:et->hH->Prop) ,(∀v s',Q (bD v) s'->Q' (.done (.ret v)) s')->(∀e s',s'.TypeIs e "StopIteration"->Q cb s'->h e s') ->
   ez (hW prog w) A.in1 (if let .int slot _:=first then(do
     match <-Vy S slot.toNat i ep with
     |some (x,next) =>
      VE (.ref I) 0 (vr next)
      VE (.ref I) 1 (vr ((i:Int)+1))
      ret x
     |none=>VE (.ref I) 2 .none;X6 (<-Y3 (.type "StopIteration") []))
    else(do
     let bD c <-YQ first|unsupported "internal:set_iterator"
     match c[i]? with
     |some (.int f _) =>
      let x <-Y2 S f.toNat ep
      VE (.ref I) 1 (vr ((i:Int)+1))
      ret x
     |some _=>W0 "internal:set_iterator"
     |none=>VE (.ref I) 0 (vr 0);VE (.ref I) 2 .none;X6 (<-Y3 (.type "StopIteration") []))) Q' h s):ez (hW prog w) A (Qk (.ref I)) Q E s:=by
 have⟨o,l,n,m⟩:=id d;unfold Qk;show b5 (Uz (KJ (name:=N1 "__next__") d.typeIs SI.slot_next
  (Hz SI.slot_next d.typeIs SI.entry_next ?_ (SI.args_next _))))
 unfold M5.«set_iterator.__next__»;show b5 (WY (a:=(mu I,[])) rfl ?_)
 try dsimp only
 show b5 (wpAny_fieldsOf l m ?_)
 try dsimp only
 show b5 (QW ho rfl j ?_);rw[ø (by simp)];show uv (k (λg s'=>∃r,g=.done (.ret r)/\Q (bD r) s') (λe s'=>s'.TypeIs e "StopIteration"/\Q cb s') (λv s' q=>⟨v,rfl,q⟩) λe s' z q=>⟨z,q⟩) ?_ ?_
 .rintro g s' ⟨r,rfl,q⟩;show⟨r,rfl,d3 q⟩
 .rintro e s' ⟨z,q⟩;show b5 (Lj (T:="StopIteration") (b:=b6) z T7 ?_);show d3 q
end
section
def tH{I S:hU}{f f':et}{i n ep:Nat}{h:J3}{o:Obj}(b:h.get? I=bD o)(c:o.cls=.type "set_iterator")(a:o.data=.fields #[f,vr i,.ref S,vr n,vr ep]):
  g_ (h.update I (Â (·.setIfInBounds 1 (vr ((i:Int)+1))))) I f (i+1) S n ep :=
 ⟨_,u3 _ b (Sj (MG a _)),(Uv ..).trans c,by rw[MG a];simp⟩
def pW{h:J3}(b:h.get? I=bD o)(c:o.cls=.type "set_iterator")(a:o.data=.fields #[f,vr i,.ref S,vr n,vr ep]):
  ∃o',(h.update I (Â (·.setIfInBounds 0 f'))).get? I=bD o'/\o'.cls=.type "set_iterator"/\o'.data=.fields #[f',vr i,.ref S,vr n,vr ep] :=
 ⟨_,u3 _ b (Sj (MG a _)),(Uv ..).trans c,by rw[MG a];simp⟩
def wX{I S:hU}{slot i ep:Nat}{es:Array (Int×et)}{t:Oh}{Q:Option et->hH->Prop}(a:g_ s.heap I (vr slot) i S es.size ep)(ho:s.heap.get? S=bD (oH es ep t))(j:t.fits es.size=b6)(l:A.handled=cb)
  {r:Option (et×Nat)} (m:∀(B:MH) (f:et->hH->Prop) (Q':Option (et×Nat)->hH->Prop),Q' r s->ez (hW prog w) B (Vy S slot i ep) Q' f s)
  (n:∀x nx,r=bD (x,nx)->∀h',g_ h' I (vr nx) (i+1) S es.size ep->qs I s.heap h'->Q (bD x) {s with heap:=h' })
  (q:r=cb->∀h',(∀b o,b≠I->s.heap.get? b=bD o->h'.get? b=bD o)->Q cb {s with heap:=h' }):ez (hW prog w) A (Qk (.ref I)) Q E s:=by
 show tF a ho j λQ' f u v=>?_;have⟨o,c,y,d⟩:=id a;change ez _ _ (Vy S slot i ep >>= _) _ _ s;show b5 (m _ _ _ ?_);cases r with
 |some p =>
  have⟨x,nx⟩:=p
  dsimp only
  show b5 (Mz c d (by simp) ?_);have⟨o',g,z,h⟩:=pW (f':=vr nx) c y d;show b5 (Mz (s:={s with heap:=_}) g h (by simp) ?_);show d3 (u _ _ (n x nx rfl _ (tH (f':=vr nx) g z h) ((HN ..).trans (HN ..))))
 |none =>
  dsimp only
  show b5 (Mz c d (by simp) ?_);show pV (I:=I) (k:=λ_=>pure cb) (Q:=λ_ _=>True) (s:=s) (by simpa using l) λh' hk e C=>v e _ C (q rfl h' λb D G H=>hk b D ?_);rw[N6 _ _ _ _ G];show H
def De{I S T:hU}{i ep:Nat}{es:Array (Int×et)}{t:Oh}{a:List Nat}{Q:Option et->hH->Prop}(c:g_ s.heap I (.ref T) i S es.size ep)(ho:s.heap.get? S=bD (oH es ep t))(m:t.fits es.size=b6)(r:A.handled=cb)
  (u:s.heap.IsTuple T ((a.map λ(j:Nat)=>vr j).toArray))
  (v:∀(j:Nat) (e:Int×et),a[i]?=bD j->es[j]?=bD e->∀h',g_ h' I (.ref T) (i+1) S es.size ep->qs I s.heap h'->Q (bD e.2) {s with heap:=h' })
  (x:∀j∈a,j<es.size)
  (y:a[i]?=cb->∀h',(∀b o,b≠I->s.heap.get? b=bD o->h'.get? b=bD o)->Q cb {s with heap:=h' }):ez (hW prog w) A (Qk (.ref I)) Q E s:=by
 show tF c ho m λQ' O z B=>?_;have⟨o,d,n,f⟩:=id c;have⟨Y,C,Yr,nT,D⟩:=u;change ez _ _ (YQ (.ref T) >>= _) _ _ s;show b5 (Ks C D ?_);cases e:a[i]? with
 |some j =>
  have g:(a.map λ(j:Nat)=>vr j).toArray[i]?=bD (vr j):=by simp[e]
  simp only[g];have h:j<es.size:=x j (oT e);have l:es[j]?=bD (es[j]'h):=by simp[h]
  change ez _ _ (Y2 S (j:Int).toNat ep >>= _) _ _ s;unfold Y2;rw[M_];show b5 (b5 (my ho rfl m ?_))
  dsimp only
  rw[ø (by simp)];generalize es[j]'h=p at l;simp only[l];show d3 ?_;show b5 (Mz d f (by simp) ?_);show d3 (z _ _ (v j p e l _ (tH (f':=.ref T) d n f) (HN ..)))
 |none =>
  have g:(a.map λ(j:Nat)=>vr j).toArray[i]?=cb:=by simp at e ⊢;show e
  simp only[g];show b5 (Mz d f (by simp) ?_);have⟨o',G,e2,H⟩:=pW (f':=vr 0) d n f;show b5 (Mz (s:={s with heap:=_}) G H (by simp) ?_);show pV (I:=I) (k:=λ_=>pure cb) (Q:=λ_ _=>True) (s:=s) (by simpa using r) λh' hk ex J=>B ex _ J (y e h' λb L q N=>hk b L ?_);rw[N6 _ _ _ _ q,N6 _ _ _ _ q];show N
end
section
def g_.at(x:g_ h I f i S n ep)(e:∀o,h.get? I=bD o->h'.get? I=bD o):g_ h' I f i S n ep:=let ⟨o,ho,r⟩:=x;⟨o,e _ ho,r⟩
def kR(r:A.handled=cb)(n:S≠I)(u:t.fits es.size=b6)(T:hU)(p:T≠I)(c:List et)(k:c.length=es.size)
  (first:Nat->et) (a:J3->Prop) (l:∀h h',a h->(∀o,h.get? T=bD o->h'.get? T=bD o)->a h')
  (m:∀(s:hH) (i:Nat) (E:et->hH->Prop) (Q:Option et->hH->Prop),i<=es.size->a s.heap->g_ s.heap I (first i) i S es.size ep->s.heap.get? S=bD (oH es ep t) ->
   (∀x,c[i]?=bD x->∀h',g_ h' I (first (i+1)) (i+1) S es.size ep->qs I s.heap h'->Q (bD x) {s with heap:=h' }) ->
   (c[i]?=cb->∀h',(∀b o,b≠I->s.heap.get? b=bD o->h'.get? b=bD o)->Q cb {s with heap:=h' })->ez (hW prog w) A (Qk (.ref I)) Q E s) :
  Walks prog w A I [I,S,T] [I] es.size (λi v=>c[i]?=bD v) (λi h=>i<=es.size/\g_ h I (first i) i S es.size ep/\h.get? S=bD (oH es ep t)/\a h) where
 sub:=λb d=>by rw[i0.mp d];simp
 frame:=λi h h' x hk=>⟨x.1,x.2.1.at λo e=>hk I (by simp) o e,hk S (by simp) _ x.2.2.1,l h h' x.2.2.2 λo e=>hk T (by simp) o e⟩
 item:=λi s Q E q x f=>by
  show m s i E Q x.1 x.2.2.2 x.2.1 x.2.2.1 (λv g h' j hs=>?_) λz=>absurd z (by simp;lia);show f v h' s.toks g ⟨q,j,?_,l _ h' x.2.2.2 λo e=>?_⟩ λb o d e=>?_
  .rw[hs.2 S n];show x.2.2.1
  .rw[hs.2 T p];show e
  .rw[hs.2 b λz=>d (by simp[z])];show e
 done:=λs Q E x f=>by
  show m s es.size E Q x.1 x.2.2.2 x.2.1 x.2.2.1 (λv g=>absurd g (by rw[Pn ⋯];simp)) λ_ h' hk=>f h' s.toks λb o d e=>hk b o (λz=>d (by simp[z])) e
 self:=λi s Q E x f=>Ac x.2.1 f
def oI(ho:s.heap.get? S=bD (oH es ep t))(a:t.fits es.size=b6)(h:Q (!w.params.followText "set-order"&&(!t.plain&&df (es.size>1))) s):ez (hW prog w) A (setDrawn S) Q E s:=by
 unfold setDrawn;show b5 (my ho rfl a ?_)
 dsimp only
 show b5 (cN (d3 h))
def oJ(a:w.params.followText "set-order"=b6)(ho:s.heap.get? S=bD (oH es ep t))(b:t.fits es.size=b6)
  (h:Q ((WG (w.params.setOrder S ep) es)[i]?.map λe=>(e.2,0)) s):ez (hW prog w) A (Vy S 0 i ep) Q E s:=by
 unfold Vy;show b5 (my ho rfl b ?_)
 dsimp only
 show b5 (cN ?_);change ez _ _ (if (w.params.followText "set-order")=b6 then _ else _) _ _ s;rw[ö a];rw[ø (by simp)];unfold setWalk;show b5 (b5 (my ho rfl b ?_))
 dsimp only
 show b5 (cN ?_);change ez _ _ (if (w.params.followText "set-order")=b6 then _ else _) _ _ s;rw[ö a];show b5 (Qb (d3 ?_));show d3 h
theorem pX(hw:w.params.followText "set-order"=cK)(ho:s.heap.get? S=bD (oH es ep t))(hf:t.fits es.size=b6)(hl:t.led=b6)(h1:es.size<=1)
    (h:Q (match es[LG t.place slot]?,t.place[LG t.place slot]? with|some (_,x),bD j=>bD (x,j+1)|_,_=>cb) s):ez (hW prog w) A (Vy S slot i ep) Q E s:=by
  unfold Vy;refine b5 (my ho rfl hf ?_)
  dsimp only
  refine b5 (cN ?_);show ez _ _ (if (w.params.followText "set-order")=b6 then _ else _) _ _ s;rw[ø (by rw[hw];simp)];show ez _ _ (if (!t.plain&&df (es.size>1))=b6 then _ else _) _ _ s
  rw [if_neg (by have : decide (es.size > 1) = false := decide_eq_false (by lia)
                 rw[this];simp)]
  show ez _ _ ((if (!t.led&&!es.isEmpty)=b6 then _ else _) >>= _) _ _ s;rw[ø (by rw[hl];simp)];exact b5 (d3 (d3 h))
def pY(es:Array (Int×et))(a:Array Nat)(i:Nat)(c:es.size<=1)(d:a.size=es.size)(b:i<=es.size):
  (match es[LG a (if i=0 then 0 else(a[0]?).getD 0+1)]?,a[LG a (if i=0 then 0 else(a[0]?).getD 0+1)]? with|some (_,x),bD j=>bD (x,j+1)|_,_=>cb)=es[i]?.map λe=>(e.2,(a[0]?).getD 0+1):=by
 have⟨es⟩:=es;have⟨a⟩:=a
 match es,a,c,d,b with
 |[],[],_,_,b=>simp
 |[e],[p],_,_,b =>
  match i,b with
  |0,_ =>
   have:LG #[p] 0=0:=by simp[LG,V6]
   simp[this]
  |1,_ =>
   have:LG #[p] (p+1)=1:=by simp[LG,V6]
   simp[this]
  |n+2,h=>simp at h
 |[],_::_,_,h,_=>simp at h
 |[_],[],_,h,_=>simp at h
 |[_],_::_::_,_,h,_=>simp at h
 |_::_::_,_,h,_,_=>simp at h
def wY(G:B.handled=cb)(hS:aR prog w s.heap S (aF w) D)
  (h:∀(I:hU) (fp:List hU) (n:Nat) (P:Nat->et->Prop) (St:Nat->J3->Prop) (c:List Str) (h':J3) (d':Drawn),Walks prog w B I fp [I] n P St->c.Perm D->n=c.length->(∀i v,P i v->∃x Y,c[i]?=bD x/\v=.str x Y)->s.heap.objs.size<=I->(∀b∈fp,b=S\/s.heap.objs.size<=b)->St 0 h' ->
   (∀b o,s.heap.get? b=bD o->h'.get? b=bD o)->Q (.ref I) {s with heap:=h',drawn:=d' }):ez (hW prog w) A (X7 (.ref S)) Q E s:=by
 have⟨L,es,ep,t,ho,Ie,Hh,HE,a,d,Il,Ic⟩:=hS;have Ud:s.TypeIs (.ref S) "set":=⟨_,ho,rfl⟩
 have K3:S<s.heap.objs.size:=eH ho;show Z6 Ud PySem.F.slot_set_iter (Hz PySem.F.slot_set_iter Ud SI.kQ ?_ (PySem.F.args_set_iter_1 _));unfold M5.«frozenset.__iter__» Zz slotArgs;simp only[List.isEmpty_nil,Z3,Lh,↓reduceIte,bind_assoc,Vl,bne_self_eq_false];unfold S_ Ph;show b5 (d3 ?_)
 try dsimp only
 show b5 (d3 ?_);show b5 (b5 (QW ho rfl a (d3 ?_)));have Wf:D.length=es.size:=by rw[<-Hh.length_eq,dt,<-i3,Ie,dt]
 have f:∀(l:List (Int×et)),l.Perm es.toList->∃c:List Str,c.Perm D/\c.length=es.size/\∀(i:Nat) (v:et),(l.map (·.2))[i]?=bD v->∃(x:Str) (Y:Tok),c[i]?=bD x/\v=u4 x Y:=by
  intro l hl;rw[Ie]at hl;have⟨L',e',p'⟩:=dc hl;show⟨L'.map (·.1),(p'.map _).trans Hh,by rw[((p'.map _).trans Hh).length_eq,Wf],λi v H=>?_⟩;subst e';rw[i4,ko]at H;rw[ko];cases q:L'[i]? with
  |none=>rw[q]at H;simp at H
  |some p=>rw[q]at H;simp at H;show⟨p.1,p.2,rfl,H.symm⟩
 show b5 (oI ho a ?_);cases hw:w.params.followText "set-order" with
 |true =>
  simp only[Z3,ZP,Lh,↓reduceIte];show b5 (d3 ?_);show b5 (b5 (my ho rfl a (d3 ?_)));show b5 (HK ?_);have u:S≠s.heap.objs.size:=hY K3;have⟨c,J,N,O⟩:=f (WG (w.params.setOrder S ep) es).toList (dQ _ _);have W:=kR (prog:=prog) (w:=w) (A:=B) (I:=s.heap.objs.size) (S:=S) (es:=es) (ep:=ep) (t:=t) G u a S u ((WG (w.params.setOrder S ep) es).toList.map (·.2)) (by rw[dt,(dQ _ _).length_eq,i3]) (λ_=>vr 0) (λ_=>True) (λ_ _ _ _=>trivial)
   (λs i E Q _ _ g y k1 k2=>wX (slot:=0) g y a G (λB E' Q' q=>oJ hw y a q) (λx nx e h' T hs=>by
    rw[hA]at e;have⟨p,C,e2⟩:=e;cases e2;show k1 _ (by rw[ko,sx,C];rfl) h' T hs) (λe=>k2 (by rw[ko,sx,Rk];rwa [Rk]at e)))
  show d3 ⟨_,rfl,"set_iterator",_,⟨_,gj _ rfl,rfl⟩,SI.slot_next.lookup,?_⟩;show h _ _ _ _ _ c _ s.drawn W J N.symm O (i5 _) (λb d=>by
   simp only[gc,va,or_false]at d;rcases d with rfl|rfl|rfl
   .show .inr (i5 _)
   .show .inl rfl
   .show .inl rfl) ⟨js _,⟨_,gj _ rfl,rfl,rfl⟩,cc _ ho,trivial⟩ λb o e=>cc _ e
 |false =>
  by_cases hsz:es.size>1
  .have Iw:t.plain=cK:=by
    rcases Ic with z|z
    .lia
    .show z
   have C:(!cK&&(!t.plain&&df (es.size>1)))=b6:=by rw[Iw,ú hsz];rfl
   rw[C];simp only[↓reduceIte];show b5 (gN _ _ _ _ Js λm d' hp=>?_);simp only[é];have LH:∀j∈m,j<es.size:=λj hj=>by have:=hp.mem_iff.mp hj;simpa using this
   have OA:m.length=es.size:=by rw[hp.length_eq];simp
   show b5 (HK ?_ (by
    change(m.map λ(j:Nat)=>vr j).toArray.size<=_;have:es.size<4096:=d;simp only[hZ,dt,OA];have:(4096:Nat)<=dV:=by decide
    lia))
   have J2:(s.heap.push {cls:=.type "tuple",data:=.seq (m.map λ(j:Nat)=>vr j).toArray}).get? S=bD (oH es ep t):=cc _ ho;show b5 (b5 (my (s:={s with heap:=_,drawn:=d' }) J2 rfl a (d3 ?_)));show b5 (HK ?_);have Wg:s.heap.objs.size≠(s.heap.push {cls:=.type "tuple",data:=.seq (m.map λ(j:Nat)=>vr j).toArray}).objs.size:=by rw[KW];show hY (N2 _)
   have u:S≠(s.heap.push {cls:=.type "tuple",data:=.seq (m.map λ(j:Nat)=>vr j).toArray}).objs.size:=by rw[KW];show hY (OY K3)
   have MF:(m.map λj=>(es[j]?).getD (0,ro)).Perm es.toList:=by
    show(hp.map _).trans ?_;have:(ix es.size).map (λj=>(es[j]?).getD (0,ro))=es.toList:=by
     apply L9
     .simp
     .intro i h1 h2;simp at h1 ⊢;simp[h1]
    rw[this]
   have⟨c,J,N,O⟩:=f _ MF;have W:=kR (prog:=prog) (w:=w) (A:=B) (I:=(s.heap.push {cls:=.type "tuple",data:=.seq (m.map λ(j:Nat)=>vr j).toArray}).objs.size) (S:=S) (es:=es) (ep:=ep) (t:=t) G u a s.heap.objs.size Wg ((m.map λj=>(es[j]?).getD (0,ro)).map (·.2)) (by simp[OA]) (λ_=>.ref s.heap.objs.size) (λh=>h.IsTuple s.heap.objs.size (m.map λ(j:Nat)=>vr j).toArray) (λh h' ⟨o,ho,r⟩ k=>⟨o,k _ ho,r⟩)
    (λs' i E Q _ Ki g y k1 k2=>De g y a G Ki (λj e ej ee h' T hs=>k1 _ (by rw[ko,ko,ej];simp[ee]) h' T hs) LH (λe=>k2 (by rw[ko,ko,e];rfl)))
   show d3 ⟨_,rfl,"set_iterator",_,⟨_,gj _ rfl,rfl⟩,SI.slot_next.lookup,?_⟩;show h _ _ _ _ _ c _ d' W J N.symm O (by rw[KW];show Lw _) (λb d=>?_) ⟨js _,⟨_,gj _ rfl,rfl,rfl⟩,cc _ J2,⟨_,cc _ (gj _ rfl),rfl,_,rfl⟩⟩ λb o e=>cc _ (cc _ e);rw[KW]at d;simp only[gc,va,or_false]at d;rcases d with rfl|rfl|rfl
   .show .inr (Lw _)
   .show .inl rfl
   .show .inr (i5 _)
  .have C:(!cK&&(!t.plain&&df (es.size>1)))=cK:=by rw[ù hsz];simp
   rw[C];simp only[Lh,↓reduceIte];show b5 (d3 ?_);show b5 (b5 (my ho rfl a (d3 ?_)));show b5 (HK ?_);have u:S≠s.heap.objs.size:=hY K3;have Wh:t.led=b6:=by rw[Il];change(!w.params.followText "set-order")=b6;rw[hw];rfl
   have⟨c,J,N,O⟩:=f es.toList (.refl _);have JR:t.place.size=es.size:=by
    unfold QJ at a;simp only[cL,beq_iff_eq]at a;show a.1
   have W:=kR (prog:=prog) (w:=w) (A:=B) (I:=s.heap.objs.size) (S:=S) (es:=es) (ep:=ep) (t:=t) G u a S u (es.toList.map (·.2)) (by simp) (λi=>vr ((if i=0 then 0 else(t.place[0]?).getD 0+1:Nat):Nat)) (λ_=>True) (λ_ _ _ _=>trivial)
    (λs' i E Q hi _ g y k1 k2=>wX (slot:=if i=0 then 0 else(t.place[0]?).getD 0+1) g y a G (λB E' Q' q=>pX hw y a Wh ⋯ q) (λx nx e h' T hs=>by
     rw[pY es t.place i ⋯ JR hi,hA]at e;have⟨p,C,e2⟩:=e;cases e2;show k1 _ (by rw[ko,sx,C];rfl) h' ?_ hs;rw[ø (Nat.succ_ne_zero i)];show T) (λe=>by
     rw[pY es t.place i ⋯ JR hi,Rk]at e;show k2 (by rw[ko,sx,e];rfl)))
   show d3 ⟨_,rfl,"set_iterator",_,⟨_,gj _ rfl,rfl⟩,SI.slot_next.lookup,?_⟩;show h _ _ _ _ _ c _ s.drawn W J N.symm O (i5 _) (λb d=>by
    simp only[gc,va,or_false]at d;rcases d with rfl|rfl|rfl
    .show .inr (i5 _)
    .show .inl rfl
    .show .inl rfl) ⟨js _,⟨_,gj _ rfl,rfl,rfl⟩,cc _ ho,trivial⟩ λb o e=>cc _ e
end
def pZ:UQ (.type "set") "__len__"=pure (bD (.builtin "set.__len__")):=by rw[QP,Nf];kernel_rfl
section
theorem kS:∀{vs:List et}{a:List Str},vs.length=a.length->(∀(i:Nat) (v:et),vs[i]?=bD v->∃x t,a[i]?=bD x/\v=.str x t)->Pp vs a
 |[],[],_,_=>.nil
 |[],_::_,h,_=>by simp at h
 |_::_,[],h,_=>by simp at h
 |v::vs,y::a,h,k=>by
  have⟨x,t,b,c⟩:=k 0 v rfl;cases b;subst c;show .cons y t (kS (by simpa using h) λi w d=>k (i+1) w d)
def p5(J:A.handled=cb)(N:aR prog w s.heap S (aF w) D)(O:D.length<=dV)
  (T:∀(vs:List et) (c:List Str) (h':J3) (d':Drawn) (h:Nat),c.Perm D->Pp vs c->s.heap.objs.size<=h'.objs.size->s.toks<=h->(∀b o,s.heap.get? b=bD o->h'.get? b=bD o)->Q vs {s with heap:=h',drawn:=d',toks:=h}) :
  ez (hW prog w) A (Y4 (.ref S)) Q E s:=by
 have⟨L,es,ep,t,ho,rest⟩:=id N;have Y:S<s.heap.objs.size:=eH ho;unfold Y4;show b5 (X2 (LS PySem.F.entry_proto_collect ?_));rw[M8 PySem.F.plain_proto_collect _];change ez _ A.in1 (Z_ [] >>= λl=>í (.builtin "list.__iadd__" ⟨[l,.ref S],[]⟩)) _ _ s;show b5 (HK ?_);show d3 ⟨RS PySem.F.plain_list_iadd _,LS PySem.F.entry_list_iadd ?_⟩;rw[M8 PySem.F.plain_list_iadd _];have f:(s.heap.push {cls:=.type "list",data:=.seq ([]:List et).toArray}).get? S=bD {cls:=.type "set",dict:=cb,data:=.set es ep t}:=cc _ ho;have hT:QX {s with heap:=s.heap.push {cls:=.type "list",data:=.seq ([]:List et).toArray}} (.ref S) "set":=⟨_,f,rfl⟩
 change ez _ A.in1 (tA (.ref s.heap.objs.size) (.ref S) (.ref s.heap.objs.size)) _ _ _;unfold tA;show b5 (Vr hT ?_);have j:s.heap.objs.size≠S:=u5 Y;have h1:M6 (.ref s.heap.objs.size) (.ref S)=cK:=by simp[M6,j]
 have h2:(sL "set"==sL "list")=cK:=by decide
 have h3:(sL "set"==sL "tuple")=cK:=by decide
 simp only[h1,h2,h3,XG,Lh,if_false];show b5 (wY (B:=A.in1) (by simpa using J) ⟨L,es,ep,t,f,rest⟩ ?_);intro I fp n P St c h' d' W k m hP p RO Hq hk;have g:QX {s with heap:=h',drawn:=d' } (.ref S) "set":=⟨_,hk _ _ f,rfl⟩
 show b5 (ux ?_);unfold TJ;show b5 (Tf g pZ ?_);have JO:splitId "set.__len__"=bD ("set","__len__"):=by decide +kernel
 dsimp only
 rw[JO]
 dsimp only
 show b5 (Lj g Vx ?_);rw[ø (by decide)];rw[ö (by decide +kernel)];show b5 (Vr g ?_);show d3 ?_;rw[ö (by decide +kernel)];have q:s.heap.objs.size∉fp:=λa=>by
  rcases RO _ a with z|z
  .show j z
  .rw[KW]at z;show absurd z (Nat.not_succ_le_self _)
 have r:h'.get? s.heap.objs.size=bD {cls:=.type "list",data:=.seq ([]:List et).toArray}:=hk _ _ (gj _ rfl);show b5 (L_ ?_);show b5 ?_;change ez _ A.in1 (Ï s.heap.objs.size (·.push .none) >>= λ_=>Ï s.heap.objs.size (·.pop)) _ _ _;show b5 (QO r rfl ?_);have u:=u3 (rz (·.push ro)) r rfl;show QO u rfl ?_;have Wi:=u3 (rz (·.pop)) u rfl;have x:∀b o,b≠s.heap.objs.size->h'.get? b=bD o->((h'.update s.heap.objs.size (rz (·.push ro))).update s.heap.objs.size (rz (·.pop))).get? b=bD o :=
  λb o d e=>(Ms _ _ (tj d)).trans ((Ms _ _ (tj d)).trans e)
 show d3 ⟨RS PySem.F.plain_extend_loop _,Zu W.toS (by rw[m,k.length_eq];show O) _ q _ n 0 _ _ _ rfl (js _) (W.frame 0 h' _ Hq λb d o e=>x b o (λz=>q (z▸d)) e) Wi (ZK P) λs' Im c' a y C=>?_⟩;change ez _ A (load s.heap.objs.size >>= _) _ _ s';show b5 (ZQ y ?_);have⟨PZ,g2,G,RQ,Wj⟩:=s';have eg:g2=s.gens:=a.gens;have ed:G=d':=a.drawn;have eo:Wj=s.os:=a.os;subst eg;subst ed;subst eo;show d3 (T _ c PZ G RQ k (kS (by rw[i3,C.1,m]) λi v hv=>hP i v (C.2 i v (by rwa [sx]at hv))) (O3 (eH y)) a.toks λb o e=>?_);have H:b≠s.heap.objs.size:=λz=>by rw[z]at e;show absurd (eH e) (ve _)
 show a.heap b o (λz=>?_) (x b o H (hk _ _ (cc _ e)));rcases gc.mp z with z|z
 .show H z
 .rw[i0.mp z]at e;have:=eH e;rw[KW]at p;show absurd (kr this (u6 (Lw _) p)) (ve _)
end
section
def Inv.drawn(I:Inv X a σ H s)(d:Drawn):Inv X a σ H {s with drawn:=d}:=⟨I.ok,I.os,I.bare,I.base,I.loc,I.cell,I.free,I.H_,I.pin,I.Hi,I.len⟩
def oK(l:X.calm=b6)(I:Inv X c σ H s)(hq:HM X.K H p (d.map V.str)\/HR X.K H p (d.map V.str))(i:d.length+1<Ja)
  (h:∀(S:hU) (h':J3) (a:Nat),aR X.prog X.w h' S (aF X.w) (aD d)->Inv X c σ H {s with heap:=h',toks:=a}->Q (.ref S) {s with heap:=h',toks:=a}) :
  ez (hW X.prog X.w) X.A (N0 (.type "set") [.ref p]) Q X.xe s:=by
 have j:X.A.handled=cb:=I.ok.hd l;rcases hq with hq|hq
 .have⟨m,rv,f,hz⟩:=I.list hq;show fN j f.isList (cM rv) i λh' a g k=>h _ h' a g (I.kept λb o e=>k b o (eH e) e)
 .have⟨m,rv,f,hz⟩:=I.tuple hq;show gM j f (cM rv) i λh' a g k=>h _ h' a g (I.kept λb o e=>k b o (eH e) e)
def gO(i:X.calm=b6)(I:Inv X a σ H s)(j:aR X.prog X.w s.heap S (aF X.w) D)(d:D.length<64)
  (q:∀p,H p=cb->Q (.ref p) (upd H p (.lst ((aL D).map V.str)))):ez (hW X.prog X.w) X.A (N0 (.builtin "sorted") [.ref S]) (EP X a σ Q) X.xe s:=by
 have k:X.A.handled=cb:=I.ok.hd i;have hl:D.length<=dV:=O3 (kr d (by decide));show fh (p5 (A:=X.A.in1) (by simpa using k) j hl λvs l h' d' b f g hsz r hk=>⟨l,g,by rw[iD g,f.length_eq];show d,λt m e k2 c s2=>?_⟩);rw[fM f]at s2;have n:Inv X a σ H {s with heap:=h',toks:=b}:=I.kept (t':=b) hk;have h:Inv X a σ H {s with heap:=h',drawn:=d',toks:=b}:=n.drawn d';show⟨.ref h'.objs.size,_,h.laid (t':=b) (o:=.lst ((aL D).map V.str)) k2 (i5 _) ⟨by rw[dt,cu];show hl,m,e,dH s2,c⟩,rfl,q _ (h.Hi.fresh (i5 _))⟩
def rE(I:Inv X a σ H s)(c:aR X.prog X.w s.heap S (aF X.w) D)
  (q:Q (.int D.length) H):ez (hW X.prog X.w) X.A (N0 (.builtin "len") [.ref S]) (EP X a σ Q) X.xe s:=by
 have⟨L,es,ep,t,ho,d,g,j,h,i,k,l⟩:=c;have b:es.size=D.length:=by rw[<-i3,d,dt,<-dt (f:=ZN) (as:=L),g.length_eq]
 have m:es.size<4096:=i;show call_len_set ho ⟨rfl,rfl,rfl⟩ rfl h ⋯ ?_;show⟨.int es.size,_,I.kept (t':=s.toks+1+1) (λ_ _ e=>e),⟨_,rfl⟩,by rw[b];show q⟩
end
end L2
namespace L2
open PySem
abbrev dR(mask:Nat):Nat->Nat×Nat->Nat×Nat
 |0,q=>q
 |t+1,q=>dR mask t (Y6 mask q.1 q.2)
theorem mT(mask:Nat):∀(a b:Nat) (q:Nat×Nat),dR mask (a+b) q=dR mask b (dR mask a q)
 |0,b,q=>by rw[OR];rfl
 |a+1,b,q=>by rw[show a+1+b=(a+b)+1 by lia];show mT mask a b _
theorem mU(mask:Nat):∀(t:Nat) (q:Nat×Nat),(dR mask t q).2=q.2 / 32 ^ t
 |0,q=>by simp[dR]
 |t+1,q=>by
  change(dR mask t (Y6 mask q.1 q.2)).2=_;rw[mU mask t];change q.2 / 32 / 32 ^ t=_;rw[Nat.div_div_eq_div_mul,Ù,Nat.mul_comm]
theorem p6(mask:Nat):∀(t:Nat) (q:Nat×Nat),q.1<mask+1->(dR mask t q).1<mask+1
 |0,q,h=>h
 |t+1,q,h=>p6 mask t _ (WM _ (X' _))
abbrev K5(m:Nat):Nat->Nat->Nat
 |0,i=>i
 |t+1,i=>K5 m t ((i * 5+1) % m)
theorem mV(mask:Nat):∀(t i:Nat),dR mask t (i,0)=(K5 (mask+1) t i,0)
 |0,i=>rfl
 |t+1,i=>by
  change dR mask t ((i * 5+1+0 / 32) % (mask+1),0 / 32)=(K5 (mask+1) t ((i * 5+1) % (mask+1)),0)
  rw[Nat.zero_div,Û];show mV mask t _
theorem j6(m:Nat):∀(a b i:Nat),K5 m (a+b) i=K5 m b (K5 m a i)
 |0,b,i=>by rw[OR];rfl
 |a+1,b,i=>by rw[show a+1+b=(a+b)+1 by lia];show j6 m a b _
abbrev vm(m:Nat):Nat->Nat->List Nat
 |0,_=>[]
 |t+1,i=>i::vm m t ((i * 5+1) % m)
theorem tI(m:Nat):∀(n i t:Nat),t<n->(vm m n i)[t]?=bD (K5 m t i)
 |0,_,_,h=>by lia
 |n+1,i,0,_=>rfl
 |n+1,i,t+1,h=>by
  change(vm m n ((i * 5+1) % m))[t]?=_;show tI m n _ t ⋯
theorem p7(m:Nat):∀(n i:Nat),(vm m n i).length=n
 |0,_=>rfl
 |n+1,i=>by change(vm m n _).length+1=_;rw[p7 m n]
abbrev Full(m:Nat):Bool:=(ix m).all (λj=>(vm m m 0).contains j)&&(K5 m m 0==0)
def BX:Full 8=b6:=by decide +kernel
def wZ:Full 16=b6:=by decide +kernel
def w9:Full 32=b6:=by decide +kernel
def w_:Full 64=b6:=by decide +kernel
def tJ:Full 128=b6:=by decide +kernel
def vn(h:Full m=b6)(l:i<m)(n:j<m):∃t,t<m/\K5 m t i=j:=by
 unfold Full at h;rw[cL,mx]at h;have⟨o,d⟩:=h;have d:K5 m m 0=0:=by simpa using d
 have get:∀k,k<m->∃a,a<m/\K5 m a 0=k:=λk hk=>by
  have:=o k (vu.mpr hk);rw[List.contains_iff_mem]at this;have⟨a,c⟩:=R8.mp this;have e:a<m:=by have:=(eh.mp c).1;rw[p7]at this;show this
  rw[tI m m 0 a e]at c;show⟨a,e,by simpa using c⟩
 have⟨a,c,f⟩:=get i l;have⟨b,p,g⟩:=get j n;by_cases q:a<=b
 .show⟨b - a,⋯,by rw[<-f,<-j6,show a+(b - a)=b by lia,g]⟩
 .show⟨m - a+b,⋯,?_⟩;rw[<-f,<-j6,show a+(m - a+b)=m+b by lia,j6,d,g]
theorem mW:∀(f i p:Nat),w6 mask owner f i p=cb->∀t,t<f->(owner.getD (dR mask t (i,p)).1 (bD 0)).isNone=cK
 |0,_,_,_,t,h=>by lia
 |f+1,i,p,h,t,b=>by
  unfold w6 at h;cases a:(ix (Uk mask i+1 - i)).find? (λk=>(owner.getD (i+k) (bD 0)).isNone) with
  |some k=>rw[a]at h;cases h
  |none =>
   rw[a]at h;cases t with
   |zero =>
    have:=List.find?_eq_none.mp a 0 (vu.mpr (by unfold Uk;split<;>lia));rw[Û]at this;change(owner.getD i (bD 0)).isNone=cK;cases e:(owner.getD i (bD 0)).isNone with
    |false=>rfl
    |true=>show absurd e this
   |succ t=>show mW f _ _ h t ⋯
theorem mX:∀(f i p j:Nat),w6 mask owner f i p=bD j->owner[j]?=bD cb
 |0,_,_,_,h=>by cases h
 |f+1,i,p,j,h=>by
  unfold w6 at h;cases b:(ix (Uk mask i+1 - i)).find? (λk=>(owner.getD (i+k) (bD 0)).isNone) with
  |some k =>
   rw[b]at h;cases h;have a:=List.find?_some b;have c:i+k<owner.size:=by
    show K1 λz=>?_;have:owner.getD (i+k) (bD 0)=bD 0:=by simp[TN,z]
    rw[this]at a;cases a
   have d:owner.getD (i+k) (bD 0)=owner[i+k]:=by simp[TN,c]
   rw[d]at a;rw[NY c];cases e:owner[i+k] with
   |none=>rfl
   |some _=>rw[e]at a;cases a
  |none =>
   rw[b]at h;show mX f _ _ j h
def Ad(c:Full (mask+1)=b6){j0:Nat}(a:owner[j0]?=bD cb)(hsz:owner.size=mask+1)(d:i<mask+1)(f:p<2 ^ 64):∃j,w6 mask owner (PN mask) i p=bD j/\owner[j]?=bD cb:=by
 cases e:w6 mask owner (PN mask) i p with
 |some j=>show⟨j,rfl,mX _ _ _ _ e⟩
 |none =>
  have g:j0<mask+1:=by rw[<-hsz];show(Array.getElem?_eq_some_iff.mp a).1
  have h:(dR mask 13 (i,p)).2=0:=by
   rw[mU];show Nat.div_eq_of_lt (Uw f (by decide))
  have⟨t,n,k⟩:=vn c (p6 mask 13 (i,p) d) g;have l:dR mask (13+t) (i,p)=(j0,0):=by
   rw[mT,show dR mask 13 (i,p)=((dR mask 13 (i,p)).1,0) from ZO rfl h,mV,k]
  have:=mW _ _ _ e (13+t) (by unfold PN;lia);rw[l]at this;have m:owner.getD j0 (bD 0)=cb:=by
   have b:j0<owner.size:=by lia
   rw[NY b]at a;simp[TN,b];show tr a
  rw[m]at this;cases this
abbrev vals(L:List (Option Nat)):List Nat:=L.filterMap id
theorem p8:∀{L:List (Option Nat)}{j:Nat},L[j]?=bD cb->(vals (L.set j (bD k))).Perm (k::vals L)
 |[],j,h=>by simp at h
 |x::L,0,h=>by
  have:x=cb:=by simpa using h
  subst this;show LC _
 |x::L,j+1,h=>by
  have a:=p8 (k:=k) (L:=L) (j:=j) (by simpa using h);cases x with
  |none=>show a
  |some y =>
   change(y::vals (L.set j (bD k))).Perm (k::y::vals L);show(YP y a).trans (YN k y _)
theorem mY:∀{L:List (Option Nat)},(vals L).length<L.length->∃j:Nat,L[j]?=bD cb
 |[],h=>by simp at h
 |none::L,_=>⟨0,rfl⟩
 |some y::L,h=>by
  have⟨j,a⟩:=mY (L:=L) (by
   have:(vals L).length+1<L.length+1:=h;lia)
  show⟨j+1,by simpa using a⟩
theorem xa(d:Full (mask+1)=b6):∀(hs:List Int) (owner:Array (Option Nat)) (k:Nat),owner.size=mask+1->(vals owner.toList).Perm (ix k)->k+hs.length<=mask ->
  ∃c,hs.foldl (λacc h=>do
   let (owner,k) <-acc
   let j <-w6 mask owner (PN mask) (Nh h % (mask+1)) (Nh h)
   pure (owner.setIfInBounds j (bD k),k+1)) (bD (owner,k))=bD (c,k+hs.length)/\c.size=mask+1/\(vals c.toList).Perm (ix (k+hs.length))
 |[],owner,k,a,b,_=>⟨owner,rfl,a,b⟩
 |h::hs,owner,k,a,b,f=>by
  rw[k7]at f;have⟨j0,g⟩:=mY (L:=owner.toList) (by rw[b.length_eq,Js,i3];lia);have⟨j,e,l⟩:=Ad d (owner:=owner) (j0:=j0) (by rw[<-sx];show g) a (i:=Nh h % (mask+1)) (p:=Nh h) (WM _ (X' _)) (by unfold Nh;lia);have m:owner.toList[j]?=bD cb:=by rw[sx];show l
  have n:(vals (owner.setIfInBounds j (bD k)).toList).Perm (ix (k+1)):=by
   rw[Array.toList_setIfInBounds,ZH];show(p8 m).trans ((YP k b).trans (List.perm_append_singleton k _).symm)
  have⟨o',o,q,r⟩:=xa d hs (owner.setIfInBounds j (bD k)) (k+1) (by rw[Array.size_setIfInBounds];show a) n ⋯;show⟨o',?_,q,by rw[show k+(h::hs).length=k+1+hs.length by simp;lia];show r⟩;rw[R4,show k+(h::hs).length=k+1+hs.length by simp;lia,<-o];congr 1
  change(w6 mask owner (PN mask) (Nh h % (mask+1)) (Nh h)).bind _=_;rw[e];rfl
def rF(L:List (Option Nat)):(ix L.length).filterMap (λj=>L.getD j cb)=vals L:=by
 have h:(ix L.length).map (λj=>L.getD j cb)=L:=by
  apply L9
  .simp
  .intro i b a;simp[NF,a]
 have a:vals ((ix L.length).map (λj=>L.getD j cb))=vals L:=ü vals h;unfold vals at a;rw[List.filterMap_map]at a;show a
def tK{led plain:Bool}(e:Full (mask+1)=b6)(f:hs.size<=mask):∃t a,Sg mask finger moves led plain hs=bD (t,a)/\t.fits hs.size=b6/\t.led=led/\t.plain=plain/\t.mask=mask/\t.dummies=#[]/\a.toList.Perm (ix hs.size):=by
 have⟨owner,c,g,b⟩:=xa e hs.toList (Array.replicate (mask+1) cb) 0 (by simp) (by
  have:∀n:Nat,vals (ki n cb)=[]:=λn=>by
   induction n with
   |zero=>rfl
   |succ n h=>rw[List.replicate_succ];show h
  rw[Array.toList_replicate,this];show LC _) (by rw[i3];lia)
 rw[OR,i3]at c b;have i:QE mask hs=bD owner:=by
  unfold QE;rw[<-Array.foldl_toList];rw[c];rfl
 have k:((ix (mask+1)).filterMap λj=>owner.getD j cb)=vals owner.toList:=by
  rw[<-rF,i3,g];congr 1
  funext j
  simp only[Array.getD_eq_getD_getElem?,Ww,sx]
 have d:(((ix (mask+1)).filterMap λj=>(owner.getD j cb).map (j,·)).map (·.2))=vals owner.toList:=by
  rw[<-k,List.map_filterMap];congr 1
  funext j
  cases owner.getD j cb<;>rfl
 have hl:((ix (mask+1)).filterMap λj=>(owner.getD j cb).map (j,·)).length=hs.size:=by
  have:=ü H8 d;rw[dt,b.length_eq,Js]at this;show this
 show⟨_,_,by unfold Sg;rw[i];rfl,?_,rfl,rfl,rfl,rfl,?_⟩
 .unfold QJ U3;simp only[hZ,dt,hl];simp;show f
 .change(((ix (mask+1)).filterMap λj=>(owner.getD j cb).map (j,·)).map (·.2)).Perm _;rw[d];show b
end L2
namespace L2
open PySem PySem.Spec PyProof.Rows
abbrev Df(P:Hr)(w:IT)(p:Str×Tok):Int×et:=((sK P w).hash p.1,u4 p.1 p.2)
section
def aR.perm(b:aR prog w h a led D)(p:D.Perm c):aR prog w h a led c :=
 let ⟨L,es,ep,t,d,e,f,g,i⟩:=b;⟨L,es,ep,t,d,e,f.trans p,p.nodup_iff.mp g,i⟩
def aR.at(b:aR prog w h a led D)(k:∀o,h.get? a=bD o->h'.get? a=bD o):aR prog w h' a led D :=
 let ⟨L,es,ep,t,c,d⟩:=b;⟨L,es,ep,t,k _ c,d⟩
def aR.sz{h:J3}{a:hU}{led:Bool}{D:List Str}{L:List (Str×Tok)}{es:Array (Int×et)}(b:es.toList=L.map (λp=>((sK prog w).hash p.1,u4 p.1 p.2)))(c:(L.map (·.1)).Perm D):es.size=D.length:=by
 rw[<-i3,b,dt,<-c.length_eq,dt]
def aR.of(g:aR prog w h a led D):h.SetOf (sK prog w) a (λx=>df (x∈D)) D.length:=by
 have⟨L,es,ep,t,ho,b,d,l,i,j,m,n⟩:=g;show⟨_,es,ep,t,ho,⟨rfl,rfl,rfl⟩,rfl,by rw[b];show kN,λx=>?_,j,i,aR.sz (h:=h) (a:=a) (led:=led) b d⟩;rw[õ,b,<-d.mem_iff,ke];constructor
 .rintro⟨p,c,e⟩;show⟨_,ke.mpr ⟨p,c,rfl⟩,by rw[gL];simp[e]⟩
 .rintro⟨e,k,f⟩;have⟨p,c,rfl⟩:=ke.mp k;rw[gL,õ]at f;show⟨p,c,f.symm⟩
def p9(b:aR prog w s.heap a led D)(h:∀r:Option Nat,r.isSome=df (x∈D)->Q r s):
  ez (hW prog w) A (setFind a (.str x c) ((sK prog w).hash x)) Q E s :=
 wpAny_setFind_of (knd:=sK prog w) (by rw[gL];simp) rfl b.of h
def eO{L':List (Str×Tok)}(ho:s.heap.get? a=bD {cls:=.type "set",dict:=cb,data:=.set es ep t})(f:b.toList=L'.map (λp=>((sK prog w).hash p.1,u4 p.1 p.2)))(g:(L'.map (·.1)).Perm c)(i:c.Nodup)
  (j:t'.fits b.size=b6) (d:b.size<Ja) (hl:t'.led=led) (k:b.size=0\/t'.plain=cK) (h:∀h',qs a s.heap h'->h'.get? a=bD {cls:=.type "set",dict:=cb,data:=.set b (ep+1) t' }->aR prog w h' a led c->Q () {s with heap:=h' }) :
  ez (hW prog w) A (storeSet a b t') Q E s:=by
 show Vt ho rfl ?_ (VI d);have e:(s.heap.update a (OD b t')).get? a=bD {cls:=.type "set",dict:=cb,data:=.set b (ep+1) t' }:=u3 (OD b t') ho rfl;show h _ (HN s.heap a (OD b t')) e ⟨L',b,ep+1,t',e,f,g,i,j,d,hl,k⟩
def fj(xs:Array α)(i:Nat):(OJ xs i).toList=xs.toList.eraseIdx i:=by
 unfold OJ;rw[Array.toList_append,Yc,Yc,List.eraseIdx_eq_take_drop_succ];simp[List.extract];rw[Mt (by simp)]
def vp{t:Oh}(h:t.fits n=b6)(e:i<n):(t.drop i).fits (n - 1)=b6:=by
 simp only[QJ,cL,beq_iff_eq,õ]at h;have⟨f,b⟩:=h;have a:i<t.place.size:=by lia
 have c:(OJ t.place i).size=t.place.size - 1:=by
  rw[<-i3,fj,Ym,ö (by simpa using a),i3]
 have d:∀p x,(SetTable.insertAt t.dummies p x).size=t.dummies.size+1:=λp x=>by
  have:=(SetTable.insertAt_perm t.dummies p x).length_eq;rw[i3,i3,Array.size_push]at this;show this
 unfold Y7;rw[NY a];simp only[QJ,U3,cL,beq_iff_eq,õ,c,d]at b ⊢;constructor<;>lia
def xb(t:Oh)(i:Nat):(t.drop i).led=t.led/\(t.drop i).plain=t.plain:=by
 unfold Y7;split<;>show⟨rfl,rfl⟩
theorem erase_filter:∀{l:List Str}{j:Nat}{x:Str},l.Nodup->l[j]?=bD x->l.eraseIdx j=l.filter λy=>df (y≠x)
 |[],j,x,_,h=>by simp at h
 |y::l,0,x,a,h=>by
  have⟨b,c⟩:=mA.mp a;have:y=x:=by simpa using h
  subst this;rw[List.eraseIdx_cons_zero,OH (by simp)];show(N_.mpr λz hz=>by
   have:z≠y:=λe=>b (e▸hz);simpa using this).symm
 |y::l,j+1,x,a,h=>by
  have⟨b,c⟩:=mA.mp a;have d:l[j]?=bD x:=by simpa using h
  have:y≠x:=λe=>b (e▸oT d);rw[Ro,erase_filter c d,OF (by simpa using this)]
theorem fO(f:α->β):∀(l:List α) (j:Nat),(l.map f).eraseIdx j=(l.eraseIdx j).map f
 |[],_=>rfl
 |x::l,0=>rfl
 |x::l,j+1=>by
  change f x::(l.map f).eraseIdx j=f x::(l.eraseIdx j).map f;rw[fO f l j]
def p_{a:hU}{led:Bool}{D:List Str}{x:Str}{k:Tok}{Q:Bool->hH->Prop}(l:aR prog w s.heap a led D)(h:∀b h',qs a s.heap h'->aR prog w h' a led (D.filter λy=>df (y≠x))->Q b {s with heap:=h' }):
  ez (hW prog w) A (Ñ a (.str x k) ((sK prog w).hash x)) Q E s:=by
 have u:=l;have⟨L,es,ep,t,ho,c,d,m,f,v,B,C⟩:=l;have G:(sK prog w).is x (.str x k)=b6:=by rw[gL];simp
 have n:ElemsOf (sK prog w) es.toList:=by rw[c];show kN
 have hsz:=aR.sz (h:=s.heap) (a:=a) (led:=led) c d;unfold Ñ setFind setFindIn;show b5 (b5 (my ho rfl f ?_))
 dsimp only
 rw[byScan_of (knd:=sK prog w) rfl v n];simp only[↓reduceIte];show b5 (L_ ?_);show b5 (Ë (knd:=sK prog w) G ho rfl f n ?_);cases o:Xx (λe=>(sK prog w).is x e.2) es.toList with
 |none =>
  dsimp only
  show d3 (d3 ?_);have g:x∉D:=λg=>by
   rw[<-d.mem_iff,ke]at g;have⟨p,H,e⟩:=g;have I:((sK prog w).hash p.1,u4 p.1 p.2)∈es.toList:=by rw[c];show ke.mpr ⟨p,H,rfl⟩
   have:=WW.mp o _ I;rw[gL,decide_eq_false_iff_not]at this;show this e.symm
  have e:D.filter (λy=>df (y≠x))=D:=N_.mpr λz hz=>by
   have:z≠x:=λe=>g (e▸hz);simpa using this
  have J:s={s with heap:=s.heap}:=by cases s;rfl
  rw[J];show h cK s.heap (J1 a s.heap) (by rw[e];show u)
 |some j =>
  dsimp only
  obtain⟨i,q,_⟩:=Ue.mp o;rw[OR];show d3 ?_
  dsimp only
  show b5 (my ho rfl f ?_)
  dsimp only
  have N:j<L.length:=by rw[c,dt]at i;show i
  have O:j<es.size:=by simpa using i
  have T:L[j].1=x:=by
   have e:es.toList[j]=((sK prog w).hash L[j].1,u4 L[j].1 L[j].2):=by simp[c]
   rw[e,gL,õ]at q;show q.symm
  have Y:(L.map (·.1)).Nodup:=d.nodup_iff.mpr m;have Wq:(L.eraseIdx j).map (·.1)=(L.map (·.1)).filter λy=>df (y≠x):=by
   rw[<-erase_filter Y (j:=j) (by simp[N,T]),fO]
  have RT:(OJ es j).toList=(L.eraseIdx j).map (λp=>((sK prog w).hash p.1,u4 p.1 p.2)):=by
   rw[fj,c,fO]
  have r:(OJ es j).size=es.size - 1:=by rw[<-i3,fj,Ym,ö i,i3]
  have⟨d1,d2⟩:=xb t j;show b5 (eO (t':=t.drop j) (led:=led) ho RT (by rw[Wq];show d.filter _) (XB Hs m) (by rw[r];show vp f O) (by rw[r];lia) (d1.trans B) (.inr (d2.trans (C.resolve_left ⋯))) λh' sb hg IJ=>?_);show b5 (wpAny_point ?_);show d3 (h b6 h' sb IJ)
end
def Ae:Full 256=b6:=by decide +kernel
section
def iE{es:Array (Int×et)}{a:Array Nat}(h:a.toList.Perm (ix es.size)):(a.filterMap (es[·]?)).toList.Perm es.toList:=by
 rw[Array.toList_filterMap];show(h.filterMap _).trans (by rw[filterMap_getElem?_range])
def mZ{L:List (Str×Tok)}(ho:s.heap.get? a=bD {cls:=.type "set",dict:=cb,data:=.set es ep t})(n:es.toList=L.map (λp=>((sK prog w).hash p.1,u4 p.1 p.2)))(o:(L.map (·.1)).Perm D)(q:D.Nodup)
  (r:t.fits es.size=b6) (u:es.size<Ja) (i:t.led=led) (v:es.size=0\/t.plain=cK) (j:KQ c=m+1) (x:Full (m+1)=b6) (y:es.size<=m) (Y:m<1000)
  (h:∀h' (d:Array (Int×et)) (t':Oh) (z:Nat),qs a s.heap h'->h'.get? a=bD {cls:=.type "set",dict:=cb,data:=.set d z t' }->aR prog w h' a led D->t'.fits d.size=b6->t'.mask=m->t'.dummies=#[]->t'.led=led->d.size=es.size->Q () {s with heap:=h' }) :
  ez (hW prog w) A (setRelay a c) Q E s:=by
 have B:(2000:Nat)<=dV:=by decide
 have⟨t',b,C,f,k,G,H,I,l⟩:=tK (mask:=m) (finger:=t.finger) (moves:=t.movedTo m) (led:=t.led) (plain:=t.plain) (hs:=es.map (·.1)) x (by rw[QG];show y);rw[QG]at f l;have e:t.relaid (es.map (·.1)) c=bD (t',b):=by
  unfold Ul;rw[j,Nat.add_sub_cancel];show C
 unfold setRelay;show b5 (my ho rfl r ?_)
 dsimp only
 rw[ø (by rw[j];lia)];show b5 ?_;rw[e];change ez (hW prog w) A (if ((b.filterMap (es[·]?)).size != es.size)=b6 then((W0 "internal:set-table-lost-an-element":Sem Unit) >>= λ_=>pure (b.filterMap (es[·]?),t')) else pure (b.filterMap (es[·]?),t')) _ E s;have g:=iE l;have hsz:(b.filterMap (es[·]?)).size=es.size:=by rw[<-i3,g.length_eq,i3]
 rw[ø (by rw[hsz];simp)];show d3 ?_;rw[n]at g;have⟨L',J,N⟩:=dc g;show eO (led:=led) ho J ((N.map _).trans o) q (by rw[hsz];show f) (by rw[hsz];show u) (k.trans i) (by rw[hsz,G];show v) λh' O T hs=>h h' _ t' _ O T hs (by rw[hsz];show f) H I (k.trans i) hsz
def xc(b:5<=n)(a:n<64):∃m,KQ (2 * n)=m+1/\Full (m+1)=b6/\n<=m/\m<1000:=by
 have:∀n:_root_.Fin 64,KQ (2 * n.val)=(if n.val<4 then 8 else if n.val<8 then 16 else if n.val<16 then 32 else if n.val<32 then 64 else 128):=by decide +kernel
 have e:=this ⟨n,a⟩
 dsimp only at e
 rw[e,ø ⋯];split
 .show⟨15,rfl,wZ,⋯,⋯⟩
 .split
  .show⟨31,rfl,w9,⋯,⋯⟩
  .split
   .show⟨63,rfl,w_,⋯,⋯⟩
   .show⟨127,rfl,tJ,⋯,⋯⟩
def vq(a:n<64):∃m,KQ (MK n)=m+1/\Full (m+1)=b6/\n<=m/\m<1000:=by
 have:∀n:_root_.Fin 64,KQ (MK n.val)=(if n.val<2 then 8 else if n.val<4 then 16 else if n.val<8 then 32 else if n.val<16 then 64 else if n.val<32 then 128 else 256):=by decide +kernel
 have e:=this ⟨n,a⟩
 dsimp only at e
 rw[e];split
 .show⟨7,rfl,BX,⋯,⋯⟩
 .split
  .show⟨15,rfl,wZ,⋯,⋯⟩
  .split
   .show⟨31,rfl,w9,⋯,⋯⟩
   .split
    .show⟨63,rfl,w_,⋯,⋯⟩
    .split
     .show⟨127,rfl,tJ,⋯,⋯⟩
     .show⟨255,rfl,Ae,⋯,⋯⟩
def xf{a:hU}{led:Bool}{D:List Str}{Q:Unit->hH->Prop}(b:aR prog w s.heap a led D)(p:D.length<64)(h:∀h',qs a s.heap h'->aR prog w h' a led D->Q () {s with heap:=h' }):
  ez (hW prog w) A (setTidy a) Q E s:=by
 have f:=b;have⟨L,es,ep,t,ho,c,d,g,e,i,j,k⟩:=b;have hsz:=aR.sz (h:=s.heap) (a:=a) (led:=led) c d;unfold setTidy;show b5 (my ho rfl e ?_)
 dsimp only
 split
 .have⟨m,m1,m2,m3,m4⟩:=vq (n:=es.size) ⋯;show mZ ho c d g e i j k m1 m2 m3 m4 λh' _ _ _ l _ hs _ _ _ _ _=>h h' l hs
 .have o:s={s with heap:=s.heap}:=by cases s;rfl
  show d3 ?_;rw[o];show h s.heap (J1 a s.heap) f
def vt{a b:hU}{es:Array (Int×et)}{D:List Str}{Q:Unit->hH->Prop}(x:a≠b)(ho:s.heap.get? a=bD {cls:=.type "set",dict:=cb,data:=.set #[] 0 (.fresh 0 0 (aF w))})(y:aR prog w s.heap b (aF w) D)(JQ:D.length<64)
  (h:∀h',qs a s.heap h'->aR prog w h' a (aF w) D->Q () {s with heap:=h' }):ez (hW prog w) A (setMerge a b) Q E s:=by
 have NA:=y;have⟨L,f,Ws,g,B,n,o,C,G,H,OE,RU⟩:=y;have hsz:=aR.sz (h:=s.heap) (a:=b) (led:=aF w) n o;have p:(YU 0 0 (aF w)).fits (#[]:Array (Int×et)).size=b6:=rfl;unfold setMerge;rw[ø (by simpa using x)];show b5 (my B rfl G ?_)
 dsimp only
 split
 .rename_i RV;have hD:D=[]:=by
   have:f.size=0:=by simpa using RV
   show List.eq_nil_of_length_eq_zero ⋯
  subst hD;have q:s={s with heap:=s.heap}:=by cases s;rfl
  show d3 ?_;rw[q];show h s.heap (J1 a s.heap) (gZ ho)
 .rename_i HV;have RW:f.size≠0:=λz=>HV (by simpa using z);show b5 ?_;unfold setRoomFor;show b5 (my ho rfl p ?_)
  dsimp only
  show uv (Q:=λ_ s1=>∃(i:J3) (c:Oh) (I:Nat) (l:Array (Int×et)),s1={s with heap:=i}/\l.size=0/\qs a s.heap i/\i.get? a=bD {cls:=.type "set",dict:=cb,data:=.set l I c}/\c.fits l.size=b6/\Full (c.mask+1)=b6/\f.size<=c.mask/\c.dummies=#[]/\c.led=aF w) ?_ (λ_ s1 ⟨i,c,I,l,e,z,j,k,J,hF,r,RX,hl⟩=>?_) λ_ _ e=>e
  .unfold SetTable.roomFor;by_cases h5:5<=f.size
   .rw[ö (by change(0+f.size) * 5 >= 7 * 3;lia)]
    dsimp only
    have⟨m,m1,m2,m3,m4⟩:=xc h5 ⋯;have ew:((YU 0 0 (aF w)).place.size+f.size) * 2=2 * f.size:=by change(0+f.size) * 2=_;lia
    rw[ew];show mZ (L:=[]) (D:=[]) (led:=aF w) ho rfl (LC _) .nil p (by decide) rfl (.inl rfl) m1 m2 (by change 0<=m;lia) m4 λh' He t' Lz j k _ Rv N hd hl hz=>⟨h',t',Lz,He,rfl,hz,j,k,Rv,by rw[N];show m2,by rw[N];show m3,hd,hl⟩
   .rw[ø (by change ¬(0+f.size) * 5 >= 7 * 3;lia)]
    dsimp only
    have q:s={s with heap:=s.heap}:=by cases s;rfl
    show d3 ⟨s.heap,_,0,#[],q,rfl,J1 a s.heap,ho,p,BX,by change f.size<=7;lia,rfl,rfl⟩
  .subst e;show b5 (my k rfl J ?_)
   dsimp only
   have RY:c.place.size=0:=by
    simp only[QJ,cL,beq_iff_eq]at J;lia
   have OG:c.road g=if c.mask==g.mask&&g.dummies.isEmpty then .slotForSlot else .clean:=by
    unfold SetTable.road U3;rw[RY,RX];rfl
   have Wt:i.get? b=bD {cls:=.type "set",dict:=cb,data:=.set f Ws g}:=(j.2 b (tj x)).trans B;have O:(c.plain&&g.plain)=cK:=by rw[RU.resolve_left RW,SA]
   have T:(c.led&&g.led)=aF w:=by rw[hl,OE,Z5]
   rw[OG];by_cases Y:(c.mask==g.mask&&g.dummies.isEmpty)=b6
   .rw[ö Y]
    dsimp only
    show eO (s:={s with heap:=i}) (led:=aF w) (L':=L) (t':={g with finger:=c.finger,led:=c.led&&g.led,moves:=c.moves,plain:=c.plain&&g.plain}) k n o C G H T (.inr O) λh' t _ hs=>h h' (j.trans t) hs
   .rw[ø Y]
    dsimp only
    have⟨t',d,q1,q2,q3,q4,q5,q6,q7⟩:=tK (mask:=c.mask) (finger:=c.finger) (moves:=c.moves) (led:=c.led&&g.led) (plain:=c.plain&&g.plain) (hs:=f.map (·.1)) hF (by rw[QG];show r);rw[QG]at q2 q7;show b5 ?_;rw[q1];change ez (hW prog w) A (if ((d.filterMap (f[·]?)).size != f.size)=b6 then((W0 "internal:set-table-lost-an-element":Sem Unit) >>= λ_=>pure (d.filterMap (f[·]?),t')) else pure (d.filterMap (f[·]?),t')) _ E _;have u:=iE q7;have v:(d.filterMap (f[·]?)).size=f.size:=by rw[<-i3,u.length_eq,i3]
    rw[ø (by rw[v];simp)];show d3 ?_;rw[n]at u;have⟨L',e',p'⟩:=dc u;show eO (s:={s with heap:=i}) (led:=aF w) k e' ((p'.map _).trans o) C (by rw[v];show q2) (by rw[v];show H) (q3.trans T) (.inr (q4.trans O)) λh' t _ hs=>h h' (j.trans t) hs
end
section
theorem hJ:∀{l:List α},(∀x∈l,∀Q':ForInStep β->hH->Prop,Q' (.yield b) s->ez M A (body x b) Q' E s)->Q b s->ez M A (Ê l b body) Q E s
 |[],_,h=>by rw[Sz];show d3 h
 |x::l,a,h=>by
  rw[P9];show b5 (a x (by simp) _ (hJ (λy c=>a y (by simp[c])) h))
def vv(hs:∀b∈sets,∃led D,aR prog w s.heap b led D)(h:Q b6 s):ez (hW prog w) A (setsQuiet sets) Q E s:=by
 unfold setsQuiet;show b5 (hJ (λb c Q' d=>?_) (d3 h));have⟨led,D,L,es,ep,t,f,g,k,l,i,m,n,o⟩:=hs b c;show b5 (QW f rfl i ?_);rw[<-TX];show b5 (hJ (λe a q j=>?_) (d3 d));rw[g]at a;obtain⟨p,_,rfl⟩:=ke.mp a;show d3 j
def qa(l:aR prog w s.heap a (aF w) D)(ho:∀b∈others,∃led B,aR prog w s.heap b led B)(m:∀r,f=bD r->aR prog w s.heap r (aF w) [])
  (h:∀(es:Array (Int×et)) (L:List (Str×Tok)) (h':J3),es.toList=L.map (Df prog w)->(L.map (·.1)).Perm D->(f=cb->h'=s.heap)->(∀r,f=bD r->qs r s.heap h'/\aR prog w h' r (aF w) [])->Q es {s with heap:=h' }) :
  ez (hW prog w) A (setWalkUnseen a others f) Q E s:=by
 have C:=l;have⟨L,es,ep,t,j,n,o,HE,k,hb,G,H⟩:=l;have I:s={s with heap:=s.heap}:=by cases s;rfl
 have c:∀(d:Array (Int×et)),d.toList.Perm es.toList->Q d s:=λd p=>by
  rw[n]at p;have⟨L',J,N⟩:=dc p;rw[I];show h d L' s.heap J ((N.map _).trans o) (λ_=>rfl) λr e=>⟨J1 r s.heap,m r e⟩
 unfold setWalkUnseen;show b5 (my j rfl k ?_)
 dsimp only
 show b5 (cN ?_);cases g:w.params.followText "set-order" with
 |true =>
  rw[ö (by change(w.params.followText "set-order"||t.led&&t.plain||decide (es.size<=1))=b6;rw[g];rfl)];unfold setWalk;show b5 (my j rfl k ?_)
  dsimp only
  show b5 (cN ?_);rw[ö (by show g)];show b5 (Qb ?_);show d3 (c _ (dQ _ _))
 |false =>
  by_cases q:es.size<=1
  .rw[ö (by rw[ú q];simp)];unfold setWalk;show b5 (my j rfl k ?_)
   dsimp only
   show b5 (cN ?_);rw[ø (by change ¬w.params.followText "set-order"=b6;rw[g];simp)];change ez _ _ (if (!t.plain&&df (es.size>1))=b6 then _ else _) _ _ s;rw[ø (by rw[ù (show ¬es.size>1 by lia)];simp)];change ez _ _ ((if (!t.led&&df (es.size>1))=b6 then _ else _) >>= _) _ _ s;rw[ø (by rw[ù (show ¬es.size>1 by lia)];simp)];show b5 (d3 (d3 (c es (LC _))))
  .have O:t.plain=cK:=H.resolve_left ⋯;rw[ø (by change ¬(w.params.followText "set-order"||t.led&&t.plain||decide (es.size<=1))=b6;rw[g,O,ù q];simp)];show b5 (vv (λb II=>by
    rcases gc.mp II with rfl|II
    .show⟨_,_,C⟩
    .show ho b II) ?_)
   rw[ø (by simp)];show b5 (L_ ?_);cases f with
   |none=>show d3 (c es (LC _))
   |some r =>
    dsimp only
    have⟨Lr,T,Yt,i,u,v,x,Y,y,Wu,OI,Wv⟩:=m r rfl;show b5 (my u rfl y ?_)
    dsimp only
    have P0:T.size=0:=by
     have:=aR.sz (h:=s.heap) (a:=r) (led:=aF w) v x;simpa using this
    split
    .show b5 (eO (t':={i with led:=i.led&&t.led,plain:=i.plain&&t.plain}) (led:=aF w) u v x Y y Wu (by change(i.led&&t.led)=_;rw[OI,G,Z5]) (.inl P0) λh' sb _ hs=>?_);show d3 (h es L h' n o (λz=>nomatch z) λr' e=>by cases e;show⟨sb,hs⟩)
    .show d3 (c es (LC _))
end
section
variable{prog:Hr}{w:IT}{A:MH}{E:et->hH->Prop}{s:hH}
theorem jg(J:List (Str×Tok)->hH->Prop)(a:∀d p r s,d++p::r=L->J d s->∀Q':ForInStep PUnit->hH->Prop,(∀s',J (d++[p]) s'->Q' (.yield ⟨⟩) s')->ez M A (body (Df prog w p) ⟨⟩) Q' E s)(b:∀s',J L s'->Q ⟨⟩ s'):
  ∀(r d:List (Str×Tok)) (s:hH),d++r=L->J d s->ez M A (Ê (r.map (Df prog w)) ⟨⟩ body) Q E s
 |[],d,s,e,h=>by
  rw[u7]at e;subst e;rw[KS,Sz];show d3 (b s h)
 |p::r,d,s,e,h=>by
  rw[gs,P9];show b5 (a d p r s e h _ λs' h'=>jg J a b r (d++[p]) s' (by rw[<-e];simp) h')
def aR.ty(h:aR prog w s.heap a led D):s.TypeIs (.ref a) "set":=let ⟨_,_,_,_,ho,_⟩:=h;⟨_,ho,rfl⟩
def gp(b:aR prog w s.heap a led D)(h:Q b6 s):ez (hW prog w) A (Kb (.ref a)) Q E s:=by
 unfold Kb;show b5 (Lj b.ty Vx ?_);show d3 h
def iF{a:hU}{led:Bool}{D:List Str}{Q:Nat->hH->Prop}(b:aR prog w s.heap a led D)(h:Q D.length s):ez (hW prog w) A (Ph a) Q E s:=by
 obtain⟨L,es,ep,t,ho,c,d,f,e,_⟩:=b;unfold Ph;show b5 (QW ho rfl e (d3 ?_));rw[aR.sz (h:=s.heap) (a:=a) (led:=led) c d];show h
def qb(b:aR prog w s.heap a led D)(h:Q (.type "set") s):ez (hW prog w) A (SW a) Q E s:=by
 unfold SW;show b5 (Lj b.ty Vx ?_);show d3 h
def tL(h:Q (.ref s.heap.objs.size) {s with heap:=s.heap.push {cls:=.type "set",dict:=cb,data:=.set #[] 0 (.fresh 0 0 (aF w))}}):ez (hW prog w) A (newSet (.type "set")) Q E s:=by
 unfold newSet ZT;show b5 (b5 (Qb (d3 ?_)))
 dsimp only
 simp only[newObj];show b5 (wpAny_alloc (d3 h))
def xg{a:hU}{D:List Str}{Q:et->hH->Prop}(b:aR prog w s.heap a (aF w) D)(c:D.length<64)(h:∀h',qs s.heap.objs.size (s.heap.push {cls:=.type "set",dict:=cb,data:=.set #[] 0 (.fresh 0 0 (aF w))}) h'->aR prog w h' s.heap.objs.size (aF w) D->Q (.ref s.heap.objs.size) {s with heap:=h' }):
  ez (hW prog w) A (SV a) Q E s:=by
 unfold SV;show b5 (qb b (b5 (tL ?_)));show b5 (d3 ?_);have d:s.heap.objs.size≠a:=λe=>by obtain⟨_,_,_,_,ho,_⟩:=b;show ve _ (e▸eH ho)
 show b5 (vt (es:=#[]) (s:={s with heap:=s.heap.push {cls:=.type "set",dict:=cb,data:=.set #[] 0 (.fresh 0 0 (aF w))}}) d (gj _ rfl) (b.at λo e=>cc _ e) c λh' f hs=>?_);show d3 (h h' f hs)
def kU{id:String}(ho:s.heap.get? a=bD {cls:=.type "set",dict:=cb,data:=.set es ep t})(b:t.fits es.size=b6)(h:Q () s):ez (hW prog w) A (R7 id a ep) Q E s:=by
 unfold R7;show b5 (Vu ho rfl b ?_);rw[ø (by simp)];show d3 h
def xh{id:String}(v:a≠b)(o:aR prog w s.heap a (aF w) g)(j:aR prog w s.heap b (aF w) q)(B:g.length<64)(i:q.length<=g.length)
  (h:∀h',qs a s.heap h'->aR prog w h' a (aF w) (g.filter λx=>df (x∉q))->Q () {s with heap:=h' }):ez (hW prog w) A (Q7 id a (.ref b)) Q E s:=by
 unfold Q7;rw[ø (by simpa using tj v)];show b5 (gp j ?_);rw[ö rfl];show b5 (d3 ?_);show b5 (iF j (b5 (iF o ?_)));rw[ø ⋯];have⟨L2,I,J,N,y,O,T,Y,z,TZ,Um,Wx⟩:=_root_.id j;show b5 (Vu y rfl z ?_);show b5 (ux ?_);show b5 (qa j (others:=[a]) (f:=cb) (λc C=>by rw[i0.mp C];show⟨_,_,o⟩) (λr e=>nomatch e) λes L h0 D G t _=>?_);have t:=t rfl;subst t;rw[<-TX,D];show b5 (jg (prog:=prog) (w:=w) (L:=L) (λd s'=>∃h',s'={s with heap:=h' }/\qs a s.heap h'/\aR prog w h' a (aF w) (g.filter λx=>df (x∉d.map (·.1)))) (λd p r s' ed ⟨h',u,k,l⟩ Q' H=>?_) (λs' ⟨h',u,k,l⟩=>?_) L [] _ rfl ⟨s.heap,by cases s;rfl,J1 a s.heap,by rw[N_.mpr λx _=>by simp];show o⟩)
 .subst u;show b5 (ux (p_ (s:={s with heap:=h' }) l λb' i m n=>?_));show b5 (kU (s:={s with heap:=i}) (((k.trans m).2 b (tj v)).trans y) z ?_);show d3 (H _ ⟨i,rfl,k.trans m,?_⟩);rw[YZ]at n;have e:(g.filter λx=>df (x≠p.1)&&df (x∉d.map (·.1)))=g.filter λx=>df (x∉(d++[p]).map (·.1)):=by
   show Q9 λx _=>?_;rw[JB];simp[not_or,and_comm]
  rw[<-e];show n
 .subst u;show d3 ?_;have e:(g.filter λx=>df (x∉L.map (·.1)))=g.filter λx=>df (x∉q):=by
   show Q9 λx _=>?_;rw[JB];simp only[õ];rw[G.mem_iff]
  rw[e]at l;show xf (s:={s with heap:=h' }) l (Ze (nC _ _) B) λi m n=>h i (k.trans m) n
def xi{id:String}(JS:a≠b)(l:aR prog w s.heap a (aF w) m)(j:aR prog w s.heap b (aF w) g)(D:m.length<64)(k:g.length<64)
  (h:∀h',(∀c o,s.heap.get? c=bD o->h'.get? c=bD o)->aR prog w h' s.heap.objs.size (aF w) (m.filter λx=>df (x∉g))->Q (.ref s.heap.objs.size) {s with heap:=h' }):ez (hW prog w) A (Oy id a (.ref b)) Q E s:=by
 have keep:∀h',qs s.heap.objs.size (s.heap.push {cls:=.type "set",dict:=cb,data:=.set #[] 0 (.fresh 0 0 (aF w))}) h'->∀c o,s.heap.get? c=bD o->h'.get? c=bD o:=λh' i c o e =>
  (i.2 c (hY (eH e))).trans (cc _ e)
 have G:a<s.heap.objs.size:=by obtain⟨_,_,_,_,ho,_⟩:=l;show eH ho
 have v:b<s.heap.objs.size:=by obtain⟨_,_,_,_,ho,_⟩:=j;show eH ho
 unfold Oy
 dsimp only
 show b5 (gp j ?_);rw[ø (by simp)];show b5 (d3 ?_);rw[ø (by simp),ö rfl];show b5 (iF j (b5 (iF l ?_)));by_cases H:m.length / 4>g.length
 .rw[ö H];show b5 (L_ ?_);show b5 (xg l D λh' i hs=>?_);show b5 (d3 ?_);show b5 (ux (xh (s:={s with heap:=h' }) (u5 v) hs (j.at λo e=>keep h' i b o e) D ⋯ λk n t=>?_));show d3 (h k (keep k (i.trans n)) t)
 .rw[ø H];show b5 (qb l (b5 (tL ?_)));show b5 (d3 ?_);have I:=l.at (h':=s.heap.push {cls:=.type "set",dict:=cb,data:=.set #[] 0 (.fresh 0 0 (aF w))}) λo e=>cc _ e;have Uc:=j.at (h':=s.heap.push {cls:=.type "set",dict:=cb,data:=.set #[] 0 (.fresh 0 0 (aF w))}) λo e=>cc _ e;have J:aR prog w (s.heap.push {cls:=.type "set",dict:=cb,data:=.set #[] 0 (.fresh 0 0 (aF w))}) s.heap.objs.size (aF w) []:=gZ (gj _ rfl);have⟨La,ea,Wy,ta,N,Uq,Yx,R3,y,Yy,Ur,Wz⟩:=_root_.id I;show b5 (Vu N rfl y ?_);show b5 (ux ?_);rw[ö rfl];show b5 (qa (s:={s with heap:=s.heap.push {cls:=.type "set",dict:=cb,data:=.set #[] 0 (.fresh 0 0 (aF w))}}) I (others:=[b,s.heap.objs.size]) (f:=bD s.heap.objs.size) (λc hc=>by
   rcases gc.mp hc with rfl|hc
   .show⟨_,_,Uc⟩
   .rw[i0.mp hc];show⟨_,_,J⟩) (λr e=>by cases e;show J) λes L h0 he B _ e0=>?_)
  have⟨WA,P5⟩:=e0 _ rfl;rw[<-TX,he];have WB:L.length=m.length:=by rw[<-B.length_eq,dt]
  show b5 (jg (prog:=prog) (w:=w) (L:=L) (λd s'=>∃h',s'={s with heap:=h' }/\qs s.heap.objs.size (s.heap.push {cls:=.type "set",dict:=cb,data:=.set #[] 0 (.fresh 0 0 (aF w))}) h'/\aR prog w h' s.heap.objs.size (aF w) ((d.map (·.1)).filter λx=>df (x∉g))) (λd p r s' O ⟨h',C,i,u⟩ Q' T=>?_) (λs' ⟨h',C,i,u⟩=>?_) L [] _ rfl ⟨h0,rfl,WA,P5⟩)
  .subst C;have Y:(L.map (·.1)).Nodup:=B.nodup_iff.mpr R3;have WC:p.1∉d.map (·.1):=λz=>by
    rw[<-O,l0,ti]at Y;show Y.2.2 p.1 z p.1 (by simp) rfl
   have WD:aR prog w h' b (aF w) g:=j.at λo e=>keep h' i b o e;have Us:h'.get? a=bD {cls:=.type "set",dict:=cb,data:=.set ea Wy ta}:=(i.2 a (hY G)).trans N;have Kk:d.length<64:=by have:=ü H8 O;simp at this;lia
   show b5 (ux ?_);rw[ö rfl];show b5 (p9 (s:={s with heap:=h' }) WD λr hr=>?_);show b5 (d3 ?_);have em:((d++[p]).map (·.1)).filter (λx=>df (x∉g))=(d.map (·.1)).filter (λx=>df (x∉g))++if p.1∈g then [] else [p.1]:=by
    rw[l0,My];congr 1
    by_cases z:p.1∈g<;>simp[z]
   by_cases z:p.1∈g
   .rw[ø (by rw[hr,ú z];simp)];show d3 ?_;show b5 (kU (s:={s with heap:=h' }) Us y ?_);show d3 (T _ ⟨h',rfl,i,?_⟩);rw[em,ö z,u7];show u
   .rw[ö (by rw[hr,ù z];rfl)];show b5 (kP (s:={s with heap:=h' }) u (by
     have:((d.map (·.1)).filter λx=>df (x∉g)).length<=d.length:=u6 (nC _ _) (by simp);have Kr:Ja=4096:=rfl;lia) λk n t=>?_)
    show d3 ?_;show b5 (kU (s:={s with heap:=k}) ((n.2 a (hY G)).trans Us) y ?_);show d3 (T _ ⟨k,rfl,i.trans n,?_⟩);rw[em,ø z];rw[ø (λq=>WC (lg.mp q).1)]at t;show t
  .subst C;show d3 ?_;show d3 (h h' (keep h' i) (u.perm ?_));show B.filter _
end
def mz:Zt table "set.__sub__"=bD M5.«frozenset.__sub__» :=
 X9 (id':="frozenset.__sub__") (by kernel_rfl) rfl (by decide +kernel) (by kernel_rfl)
section
def j7(n:a≠b)(g:aR prog w s.heap a (aF w) j)(i:aR prog w s.heap b (aF w) k)(p:j.length<64)(q:k.length<64)
  (h:∀h',(∀c o,s.heap.get? c=bD o->h'.get? c=bD o)->aR prog w h' s.heap.objs.size (aF w) (j.filter λx=>df (x∉k))->Q (.ref s.heap.objs.size) {s with heap:=h' }):ez (hW prog w) A (N' .Sub (.ref a) (.ref b)) Q E s:=by
 show wpAny_binaryOp_same (T:="set") g.ty i.ty PySem.F.fills_set_sub PySem.F.slot_set_sub (Hz PySem.F.slot_set_sub g.ty mz ?_ (PySem.F.args_set_sub_2 _ _));unfold M5.«frozenset.__sub__»;change ez (hW prog w) _ (do
  let x <-TB "__sub__" ⟨[.ref a,.ref b],[]⟩
  match x with
  |(self,f) =>
   match if cK=b6 then(f,self) else(self,f) with
   |(l,r)=>do
    let c <-Kb l <&&> Kb r
    if (!c)=b6 then do
      Ò (R_ "frozenset."++R_ "__sub__"++R_ ".declined")
      ret Value.notImplemented
     else do
      let d <-S_ l
      let e <-Oy (R_ "frozenset."++R_ "__sub__") d r
      ret e) _ _ _
 show b5 (m:=TB "__sub__" ⟨[.ref a,.ref b],[]⟩) (d3 (a:=(mu a,mu b)) ?_)
 dsimp only
 show b5 (b5 (gp g ?_));change ez _ _ (Kb (.ref b)) _ _ _;show gp i ?_;rw[ø (by simp)];show b5 (d3 ?_);show b5 (xi n g i p q λh' hk hs=>?_);show d3 ⟨_,rfl,(λz=>by cases z),h h' hk hs⟩
end
section
def rG(n:X.calm=b6)(I:Inv X a σ H s)(hq:HM X.K H p (g.map V.str)\/HR X.K H p (g.map V.str))(j:g.length+1<Ja)
  (h:∀(S:hU) (o:Obj) (s1:hH),s.heap.objs.size<=S->s1.heap.get? S=bD o->aR X.prog X.w s1.heap S (aF X.w) (aD g)->Inv X ((S,o)::a) σ H s1->Q (.ref S) s1) :
  ez (hW X.prog X.w) X.A (N0 (.type "set") [.ref p]) Q X.xe s:=by
 have l:X.A.handled=cb:=I.ok.hd n;have f:∀(h':J3) (c:Nat),aR X.prog X.w h' s.heap.objs.size (aF X.w) (aD g)->(∀b o,b<s.heap.objs.size->s.heap.get? b=bD o->h'.get? b=bD o)->Q (.ref s.heap.objs.size) {s with heap:=h',toks:=c}:=λh' c d k=>by
  have⟨L,es,ep,t,ho,r⟩:=_root_.id d;have m:Inv X a σ H {s with heap:=h',toks:=c}:=I.kept λb o e=>k b o (eH e) e;show h _ _ _ (i5 _) ho d (m.d9 λq hq=>?_);rcases gc.mp hq with rfl|hq
  .show⟨ho,I.Hi.fresh (i5 _),u5 I.lt,I.CC (i5 _),λv z=>nomatch z⟩
  .show m.pin q (mh _ hq)
 rcases hq with hq|hq
 .have⟨u,rv,i,hz⟩:=I.list hq;show fN l i.isList (cM rv) j λh' c d k=>f h' c d k
 .have⟨u,rv,i,hz⟩:=I.tuple hq;show gM l i (cM rv) j λh' c d k=>f h' c d k
end
def rH:UQ (.type "list_reverseiterator") "__len__"=pure cb:=by rw[QP,Nf];kernel_rfl
def xj:UQ (.type "list_reverseiterator") "__length_hint__"=pure (bD (.builtin "list_reverseiterator.__length_hint__")):=by rw[QP,Nf];kernel_rfl
def oM:Pd (.type "list_reverseiterator") (.type "list_reverseiterator")=pure b6:=by rw[JF];kernel_rfl
section
variable{I:hU}{fp wr:List hU}{G:Array Zw->Array Zw->Prop}{n:Nat}{P:Nat->et->Prop}{St:Nat->hH->Prop}
def rJ(W:ZV prog w A.in1 I fp wr G n P St)(c:∀i s,St i s->s.TypeIs (.ref I) "list_reverseiterator")(S:hU)(res:et)(j:Nat)(a:St 0 s)(h:S∉fp)(k:I∈fp)
  (l:s.heap.get? S=bD {cls:=.type "list",data:=.seq #[] j})
  (m:∀s' d b,Moved (S::wr) G s s'->s'.heap.get? S=bD {cls:=.type "list",dict:=cb,data:=.seq d b,slots:=#[]}->Ä P d n->R (.ok (.ret res)) s') (o:n<=dV) :
  ez (hW prog w) A.in1 (tA (.ref S) (.ref I) res)
   (λg s'=>match g with|.done f=>R (.ok f) s'|.again b=>b.quiet=b6/\Qy (hW prog w) A b R s') (λe s'=>R (.error e) s') s:=by
 have p:S≠I:=λe=>h (e▸k);unfold tA;show b5 (Vr (c 0 _ a) ?_);have q:M6 (.ref S) (.ref I)=cK:=by simp[M6,p]
 have r:(sL "list_reverseiterator"==sL "list")=cK:=by decide
 have t:(sL "list_reverseiterator"==sL "tuple")=cK:=by decide
 simp only[q,r,t,XG,Lh,if_false];show b5 (W.self 0 _ _ _ a ?_);show b5 (ux ?_);unfold TJ;show b5 (Tf (c 0 _ a) rH ?_);change ez _ A.in1 (specialOf (mu I) (N1 "__length_hint__") >>= _) _ _ _;show b5 (Tf (c 0 _ a) xj ?_);have u:splitId "list_reverseiterator.__length_hint__"=bD ("list_reverseiterator","__length_hint__"):=by decide +kernel
 dsimp only
 rw[u]
 dsimp only
 show b5 (Lj (c 0 _ a) oM ?_);rw[ø (by decide)];rw[ö (by decide +kernel)];rw[ø (by decide +kernel)];show d3 ?_;rw[ø (by decide +kernel)];show d3 ⟨RS PySem.F.plain_extend_loop _,Zu W o _ h _ n 0 _ _ _ rfl (js _) a l (ZK P) λs' d b v x y=>?_⟩;show m s' d b v x y
def mB(W:ZV prog w A.in1 I fp wr G n P St)(p:∀i s,St i s->s.TypeIs (.ref I) "list_reverseiterator")(S:hU)(q:St 0 s)(l:S∉fp)(r:I∈fp)
  (g:s.heap.get? S=bD {cls:=.type "list",data:=.seq #[]})
  (t:∀s' d a,Moved (S::wr) G s s'->s'.heap.get? S=bD {cls:=.type "list",dict:=cb,data:=.seq d a,slots:=#[]}->Ä P d n->R (.ok (.ret .none)) s') (u:n<=dV) :
  ez (hW prog w) A.in1 (M5.«list.__init__» ⟨[.ref S,.ref I],[]⟩)
   (λj s'=>match j with|.done f=>R (.ok f) s'|.again a=>a.quiet=b6/\Qy (hW prog w) A a R s') (λe s'=>R (.error e) s') s:=by
 change ez _ A.in1 (do let k <-UD (.ref S);á (.ref S) (λ_=>#[]);letGo k.toList.reverse;tA (.ref S) (.ref I) .none) _ _ s;show b5 ?_;unfold UD;show b5 (Ks g rfl (d3 ?_));change ez _ A.in1 (Ï S (λ_=>#[]) >>= λ_=>letGo (#[]:Array et).toList.reverse >>= λ_=>tA (.ref S) (.ref I) .none) _ _ s;show b5 (QO g rfl ?_);have v:=u3 (rz (λ_=>(#[]:Array et))) g rfl;have m:∀b o,b≠S->s.heap.get? b=bD o->(s.heap.update S (rz (λ_=>(#[]:Array et)))).get? b=bD o :=
  λb o c e=>(Ms _ _ (tj c)).trans e
 show b5 (WZ ?_);show rJ W p S .none _ (W.frame 0 s _ s.toks q (i5 _) λb c o e=>m b o (λh=>l (h▸c)) e) l r v (λs' d a x y z=>?_) u;show t s' d a (Ã W.gtrans ((Moved.refl W.grefl).then_heap (i5 _) λb o c e=>m b o (λh=>c (h▸nH)) e) x) y z
def qc(W:ZV prog w A.in1.in1 I fp wr G n P St)(h:∀i s,St i s->s.TypeIs (.ref I) "list_reverseiterator")(j:St 0 s)(k:∀b∈fp,b<s.heap.objs.size)(l:I∈fp)
  (m:∀s' a c,Moved (s.heap.objs.size::wr) G {s with heap:=s.heap.push {cls:=.type "list",data:=.seq #[]}} s' ->
   s'.heap.get? s.heap.objs.size=bD {cls:=.type "list",dict:=cb,data:=.seq a c,slots:=#[]}->Ä P a n->Q (.ref s.heap.objs.size) s') (p:n<=dV) :
  ez (hW prog w) A (N0 (.type "list") [.ref I]) Q E s:=by
 have q:s.heap.objs.size∉fp:=λd=>ve _ (k _ d);show callType_codes (Q₁:=λobj f=>obj=.ref s.heap.objs.size/\f={s with heap:=s.heap.push {cls:=.type "list",data:=.seq #[]}}) PySem.F.called_list (PySem.F.typeCall_list_1 _) PySem.F.entry_list_init
  (code_list_new _ ⟨rfl,rfl⟩) λobj f r=>?_
 have⟨rfl,rfl⟩:=r;have g:(s.heap.push {cls:=.type "list",data:=.seq #[]}).get? s.heap.objs.size=bD {cls:=.type "list",data:=.seq #[]}:=gj _ rfl;show⟨⟨_,g,rfl⟩,PySem.F.args_list_init_2 _ _,mB W h _ (W.frame 0 s _ s.toks j (i5 _) λb _ o e=>cc _ e) q l g (λs' a c d t u=>?_) p⟩;show⟨rfl,m s' a c d t u⟩
open AutoSeq1 (wpAny_loadPart') in
end
section
def iG(a:s.heap.IsTupleIter it l i)
  (hl:s.heap.IsTuple l b) (d:b[i]?=bD x)
  (e:∀h',h'.IsTupleIter it l (i+1)->qs it s.heap h'->Q x {s with heap:=h' }) :
  ez (hW prog w) A (qk (.ref it)) Q E s:=by
 have⟨o,ho,f,c⟩:=id a;obtain⟨j,g,_,k,h⟩:=hl;unfold qk;show b5 (KJ (name:=N1 "__next__") a.typeIs PySem.F.slot_tuple_iterator_next
  (Hz PySem.F.slot_tuple_iterator_next a.typeIs PySem.F.entry_tuple_iterator_next ?_ (PySem.F.args_tuple_iterator_next_1 _)))
 change ez _ _ (X8 (.ref it) 0 >>= _) _ _ s;show b5 (KA ho c (x:=.ref l) rfl ?_);change ez _ _ (if (mu l==ro)=b6 then _ else _) _ _ s;rw[ø (show ¬((mu l==ro)=b6) from k8)];change ez _ _ (X8 (.ref it) 1 >>= _) _ _ s;show b5 (KA ho c (x:=.int i 0) rfl ?_);change ez _ _ (YQ (.ref l) >>= _) _ _ s;show b5 (Ks g h ?_);simp only[M_,d];show b5 (Mz ho c (by simp) (d3 ⟨x,rfl,d3 (e _ ?_ (HN ..))⟩));show⟨_,u3 _ ho (Sj (MG c _)),(Uv ..).trans f,by
  rw[MG c];simp[vr]⟩
def de(f:A.handled=cb)
  (b:s.heap.IsTupleIter it l i) (hl:s.heap.IsTuple l c) (g:c[i]?=cb)
  (h:∀h' e,Yg it s.heap h'->(∃o,h'.get? e=bD o/\o.cls=.type "StopIteration")->E (.ref e) {s with heap:=h' }) :
  ez (hW prog w) A (qk (.ref it)) Q E s:=by
 have⟨o,ho,n,d⟩:=id b;obtain⟨p,j,_,q,k⟩:=hl;unfold qk;show b5 (KJ (name:=N1 "__next__") b.typeIs PySem.F.slot_tuple_iterator_next
  (Hz PySem.F.slot_tuple_iterator_next b.typeIs PySem.F.entry_tuple_iterator_next ?_ (PySem.F.args_tuple_iterator_next_1 _)))
 change ez _ _ (X8 (.ref it) 0 >>= _) _ _ s;show b5 (KA ho d (x:=.ref l) rfl ?_);change ez _ _ (if (mu l==ro)=b6 then _ else _) _ _ s;rw[ø (show ¬((mu l==ro)=b6) from k8)];change ez _ _ (X8 (.ref it) 1 >>= _) _ _ s;show b5 (KA ho d (x:=.int i 0) rfl ?_);change ez _ _ (YQ (.ref l) >>= _) _ _ s;show b5 (Ks j k ?_);simp only[M_,g];show b5 (L_ (b5 (Mz ho d (by simp) ?_)));change ez _ _ (Y3 (.type "StopIteration") [] >>= _) _ _ _;show b5 ?_;simp only[Y3,é];show b5 (HK ?_ (by size_fits));show b5 (m:=T' _ _) (WY (a:=ro) (by first|rfl|(simp only[T'];rfl)) ?_);show HK ?_ (by size_fits);simp only[X6];show b5 (wpAny_handled ?_)
 first|rw[show A.in1.handled=cb from f]|rw[f]
 show b5 (d3 (wpAny_throw ?_));show h _ _ (((HN ..).extBut.push _).push _) ⟨_,gj _ rfl,rfl⟩
end
def fP(d:A.handled=cb)(it l:hU)(f:l≠it)(a:Array et):
  È prog w A it [it,l] a.size (λi v=>a[i]?=bD v) (λi h=>h.IsTupleIter it l i/\h.IsTuple l a) where
 live:=λ_ _ st=>let ⟨o,ho,_⟩:=st.1;⟨o,ho⟩
 frame:=λ_ _ _ st hk=>⟨st.1.at λo e=>hk it (by simp) o e,let ⟨o,ho,r⟩:=st.2;⟨o,hk l (by simp) o ho,r⟩⟩
 item:=λi s Q E b st g=>by
  show iG st.1 st.2 (x:=a[i]) (by simp[b]) λh' j c=>?_;show g _ h' s.toks (by simp[b]) ⟨j,let ⟨o,ho,r⟩:=st.2;⟨o,(c.2 l f).trans ho,r⟩⟩ c
 done:=λs Q E st k=>de d st.1 st.2 (by simp) k
open AutoSeq1 (wpAny_loadPart') in
def kW(l:hU)(a:Array et)(n:Nat)(e:Option hU)(f:Array (Option et)):
  Meets (M5.«enumerate.__new__» ⟨[.type "enumerate",.ref l],[]⟩) (λ_ R s=>s.heap.get? l=bD {cls:=.type "tuple",dict:=e,data:=.seq a n,slots:=f} /\
   R (.ok (.ret (.ref (s.heap.push {cls:=.type "tuple_iterator",data:=.fields #[.ref l,.int 0 0]}).objs.size)))
    {s with heap:=(s.heap.push {cls:=.type "tuple_iterator",data:=.fields #[.ref l,.int 0 0]}).push {cls:=.type "enumerate",data:=.fields #[.none,.bool cK,.ref s.heap.objs.size,vr 0,.none,.none]}}) :=
 .of_wp λprog w A R s h=>by
  have⟨i,g,d,j,os⟩:=s;have⟨hl,h⟩:=h;have k:=sub_enumerate;have b:Å (XQ ⟨i,g,d,j,os⟩) l a:=⟨_,hl,rfl,n,rfl⟩
  wp_walk using Tg hl
  show wpAny_stack_any λst=>d3 ?_;split
  .rename_i c _ _ _ _ _;cases(c==sL "enumerate")
   .wp_walk using Tg hl,MZ b
    show⟨_,rfl,h⟩
   .wp_walk using Tg hl,MZ b
    show⟨_,rfl,h⟩
  .wp_walk using Tg hl,MZ b
   show⟨_,rfl,h⟩
section
def fQ(g:s.heap.IsTuple l a)
  (h:∀h',Y9 h' (s.heap.objs.size+1) s.heap.objs.size 0 .none->h'.IsTupleIter s.heap.objs.size l 0->h'.objs.size=s.heap.objs.size+2 ->
   (∀b o,s.heap.get? b=bD o->h'.get? b=bD o)->Q (.ref (s.heap.objs.size+1)) {s with heap:=h' }) :
  ez (hW prog w) A (N0 (.type "enumerate") [.ref l]) Q E s:=by
 obtain⟨⟨c,i,j,k⟩,hl,d,n,e⟩:=g
 replace d:c=.type "tuple":=d
 replace e:j=.seq a n:=e
 subst d e;show callType_new PySem.F.called_enumerate (by decide) (PySem.F.typeCall_enumerate_1 _) (PySem.F.newCall_enumerate_1 _) (λobj=>PySem.F.args_object_init_2 obj _) PySem.F.entry_enumerate_new
  (kW l a n i k) ⟨hl,?_⟩
 have hz:(s.heap.push {cls:=.type "tuple_iterator",data:=.fields #[.ref l,.int 0 0]}).objs.size=s.heap.objs.size+1:=Sq ..;change _/\_;rw[hz];have f:Y9 ((s.heap.push {cls:=.type "tuple_iterator",data:=.fields #[.ref l,.int 0 0]}).push
   {cls:=.type "enumerate",data:=.fields #[.none,.bool cK,.ref s.heap.objs.size,vr 0,.none,.none]}) (s.heap.objs.size+1) s.heap.objs.size 0 .none:=by
  have:=gj (s.heap.push {cls:=.type "tuple_iterator",data:=.fields #[.ref l,.int 0 0]})
   (o:={cls:=.type "enumerate",data:=.fields #[.none,.bool cK,.ref s.heap.objs.size,vr 0,.none,.none]}) rfl
  rw[hz]at this;show this
 show⟨⟨_,f,rfl⟩,h _ f ⟨_,cc _ (gj _ rfl),rfl,rfl⟩ (by rw[Sq,hz]) λb o x=>cc _ (cc _ x)⟩
end
end L2
namespace L2
open PySem PySem.Spec PyProof.Rows
section
def Inv.j8{ch:List hU}(I:Inv X a σ H s)(f:∀b∈ch,iw X a H b)(k:∀b o,b∉ch->s.heap.get? b=bD o->h'.get? b=bD o):Inv X a σ H {s with heap:=h',toks:=t' }:=by
 have g:∀b u,H b=bD u->b∉ch:=λb u e z=>by rw[(f b z).1]at e;cases e
 show I.step (g':=s.gens) (d':=s.drawn) (ch:=ch) (λb h=>?_) (λb o _ _ d e _=>k b o d e) (λb o _ _ d e _=>⟨o.slots,k b o d e⟩) (λ_ _ _ _ n=>n)
  (λb o d e=>⟨o,k b o d e⟩) (λ_ _ e=>e) (λ_ _ _ e=>e) (λb ps e=>⟨#[],by rw[e];simp⟩) (λm i=>?_) (λb u e=>?_) I.bare
 .have⟨w,j,x,l,p,t⟩:=f b h;show⟨l,j,p,t⟩
 .have⟨o,es,ep,ho,r⟩:=i;show⟨o,es,ep,k _ o (λz=>(f _ z).2.1 rfl) ho,r⟩
 .show(I.Hi b u e).gW (λc v d q=>k c v ?_ q) (λ_ q=>q) λ_ _ q=>q;rcases d with z|z
  .rw[z];show g b u e
  .show g c _ z
def Inv.hV{ch:List hU}(I:Inv X a σ H s)(h:∀b∈ch,iw X a H b)(k:∀b o,b∉ch->s.heap.get? b=bD o->h'.get? b=bD o)(i:s.heap.objs.size<=T)(new:bI X.prog X.w (upd H T o) h' T o):
  Inv X a σ (upd H T o) {s with heap:=h',toks:=t' }:=by
 have j:Inv X a σ H {s with heap:=h',toks:=t' }:=I.j8 h k;have l:H T=cb:=I.Hi.fresh i;have p:∀b o,s.heap.get? b=bD o->b≠T:=λb o e z=>by rw[z]at e;show absurd (kr (eH e) i) (ve _)
 have d:∀b u,H b=bD u->b≠T:=λb u e z=>by rw[z,l]at e;cases e
 show I.step (g':=s.gens) (d':=s.drawn) (ch:=ch) (λb g=>?_) (λb o _ _ f e _=>k b o f e) (λb o _ _ f e _=>⟨o.slots,k b o f e⟩) (λb o _ e n=>by rw[ao (p b o e)];show n)
  (λb o f e=>⟨o,k b o f e⟩) (λb _ e=>by rw[ao (d b _ e)];show e) (λb _ _ e=>by rw[ao (d b _ e)];show e) (λb ps e=>⟨#[],by rw[ao (d b _ e),e];simp⟩) (λm t=>?_) (λb u e=>?_) I.bare
 .have⟨C,x,D,y,A,B⟩:=h b g;show⟨y,x,A,B⟩
 .have⟨o,es,ep,ho,r⟩:=t;show⟨o,es,ep,k _ o (λz=>(h _ z).2.1 rfl) ho,r⟩
 .by_cases g:b=T
  .subst g;rw[aA]at e;cases e;show new
  .rw[ao g]at e;show(j.Hi b u e).gW (λc v _ q=>q) (λc q=>by rw[ao (d c _ q)];show q) λc xs q=>by rw[ao (d c _ q)];show q
end
abbrev NC(a:Hp->List V->Prop):It :=
 ⟨λi H=>∃xs x,a H xs/\xs[i]?=bD x,λi H x H'=>∃p,H p=cb/\x=.ref p/\∀xs v,a H xs->xs[i]?=bD v->H'=upd H p (.tup [.int i,v]),λi H=>∃xs,a H xs/\xs.length<=i⟩
def m6{K:PySem.W.Frag}(r:Hp->List V->Prop)(a e it:hU)(O:e≠it)(At:Nat->J3->Prop)(t:J3->Array et->Prop)
  (Jz:∀i h h',At i h->(∀o,h.get? it=bD o->h'.get? it=bD o)->At i h') (Ut:∀i h,At i h->∃o,h.get? it=bD o/\∀v,o.data≠.cell v)
  (ND:∀(X:Cx) (d:List (hU×Obj)) (s:hH) (σ:St) (H:Hp) (xs:List V),X.K=K->Inv X d σ H s->r H xs->∃l:List et,Vals xs l/\t s.heap l.toArray)
  (R5:∀(X:Cx) (d:List (hU×Obj)) (s:hH) (σ:St) (H:Hp) (xs B:List V),X.K=K->Inv X d σ H s->r H xs->r H B->xs=B)
  (Uq:∀h c i f,t h c->Y9 h e it i f->e≠a)
  (hD:∀(A:MH) (c:Array et),A.handled=cb->È P w A it [it,a] c.size (λi v=>c[i]?=bD v) (λi h=>At i h/\t h c))
  (Kq:∀(A:MH) (s:hH) (i:Nat) (c:Array et) (Q:et->hH->Prop) (E:et->hH->Prop),A.handled=cb->At i s.heap->t s.heap c->c[i]?=cb ->
   (∀h' x,Yg it s.heap h'->(∃o,h'.get? x=bD o/\o.cls=.type "StopIteration")->E (.ref x) {s with heap:=h' })->ez (hW P w) A (qk (.ref it)) Q E s) :
  Turn P w K (.Tuple es kx ps) (NC r) [e,it] e (λi h=>(∃f,Y9 h e it i f)/\At i h) where
 mem:=by simp
 obj:=λi h st b g=>by
  obtain⟨⟨f,j⟩,hl⟩:=st;rcases gc.mp g with z|z
  .rw[z];show⟨_,j,λv z=>by
    have z':Sv _=XM v:=z;cases z'⟩
  .rw[i0.mp z];show Ut i h hl
 keep:=λi h h' ⟨⟨f,j⟩,hl⟩ k=>⟨⟨f,k e (by simp) _ j⟩,Jz i h h' hl λo q=>k it (by simp) o q⟩
 item:=by
  intro X Y hw C hc i d s σ H E I G ⟨⟨f,j⟩,hl⟩ hg;subst Y hw;have⟨xs,x,J,hx⟩:=hg;have⟨l,rv,p⟩:=ND X d s σ H xs C I J;have⟨u,hu,ru⟩:=rv.get hx;have HC:i<l.toArray.size:=by simpa using(eh.mp hu).1
  have D:=hD X.A.in1 l.toArray (by simpa using I.ok.hd hc);have R6:=Uq _ _ _ _ p j;show wpAny_pyNext_enum_itemD D j ⟨hl,p⟩ HC O (by simp[O,R6]) λy h1 m L ho st1 N hsz hk=>?_;have ey:y=u:=by
   have:l.toArray[i]?=bD u:=by simpa using hu
   rw[this]at L;cases L;rfl
  subst ey;show⟨_,rfl,wpAny_letOwnedTupleGo_enum (s:={s with heap:=h1,toks:=m+1}) ho λn P6 Iq=>?_⟩;have Uu:e<s.heap.objs.size:=eH j;have OK:n.get? s.heap.objs.size=bD {cls:=.type "tuple",data:=.seq #[.int i m,y]}:=(Iq.2 _ (u5 Uu)).trans N;have k2:∀b o,b∉[e,it]->s.heap.get? b=bD o->n.get? b=bD o:=λb o g q=>by
   simp only[gc,va,or_false,not_or]at g;show(Iq.2 b g.1).trans (hk b o g.1 g.2 q)
  have I2:Inv X d σ (upd H s.heap.objs.size (.tup [.int i,x])) {s with heap:=n,toks:=m+1}:=I.hV G k2 (i5 _)
   (show bI X.prog X.w _ n _ (.tup [.int i,x]) from⟨by change 2<=dV;decide,[.int i m,y],.cons ⟨m,rfl⟩ (.cons ru .nil),⟨_,OK,rfl,_,rfl⟩⟩)
  show⟨.ref s.heap.objs.size,_,I2,rfl,⟨_,I.Hi.fresh (i5 _),rfl,λB v L hv=>?_⟩,⟨⟨_,P6⟩,Jz (i+1) h1 n st1.1 λo q=>(Iq.2 it (tj O)).trans q⟩,λb g=>?_⟩
  .have:=R5 X d s σ H B xs C I L J;subst this;rw[hx]at hv;cases hv;rfl
  .have II:b≠s.heap.objs.size:=by
    rcases gc.mp g with z|z
    .rw[z];show hY Uu
    .rw[i0.mp z];obtain⟨o,q,_⟩:=Ut i _ hl;show hY (eH q)
   rw[ao II];show(G b g).1
 done:=by
  intro X Y hw C hc i d s σ H E I G ⟨⟨f,j⟩,hl⟩ hg;subst Y hw;have⟨xs,J,hx⟩:=hg;have⟨l,rv,p⟩:=ND X d s σ H xs C I J;have ab:=rv.length;have N:s.TypeIs (.ref e) "enumerate":=⟨_,j,rfl⟩
  unfold Qk;show b5 (Uz (KJ (name:=N1 "__next__") N PySem.F.slot_enumerate_next
   (Hz PySem.F.slot_enumerate_next N PySem.F.entry_enumerate_next ?_ (PySem.F.args_enumerate_next_1 _))))
  change ez _ _ (X8 (.ref e) 2 >>= _) _ _ _;show b5 (KA j rfl (x:=.ref it) rfl ?_);show b5 (Kq _ _ i l.toArray _ _ (by simpa using I.ok.hd hc) hl p (by simp;lia) λh' x Rw Of=>?_);have⟨o,ho,Nz⟩:=Of;show b5 (Lj (T:="StopIteration") (b:=b6) ⟨o,ho,Nz⟩ T7 ?_);show d3 ⟨rfl,I.j8 (t':=s.toks) (ch:=[it]) (λb g=>G b (td _ g)) λb o g q=>Rw b o (λz=>g (by simp[z])) q⟩
 self:=λA i s Q E ⟨⟨f,j⟩,hl⟩ h=>Vv j h
section
variable{X:Cx}{es:List nz}{kx:Nat}{ps p pos:Pos}
def vA:wk "enumerate"=bD (.type "enumerate"):=by decide +kernel
abbrev GV(K:PySem.W.Frag)(c:TA):TI:=λσ H R=>c σ H λvs b=>∃a,vs=[.ref a]/\((∃xs,HM K b a xs)/\R (NC λH xs=>HM K H a xs) b\/(∃xs,HR K b a xs)/\R (NC λH xs=>HR K H a xs) b)
def Dg(a e it:hU)(q:e≠it)(r:a≠it):Turn X.prog X.w X.K (.Tuple es kx ps) (NC λH xs=>HM X.K H a xs) [e,it] e (λi h=>(∃c,Y9 h e it i c)/\h.IsListIter it a i):=by
 show m6 _ a e it q (λi h=>h.IsListIter it a i) (λh b=>h.IsList a b) (λi h h' x k=>x.at k) (λi h ⟨o,ho,l,t⟩=>⟨o,ho,λv z=>by rw[t]at z;cases z⟩)
  (λY d s σ H xs g I m=>?_) (λY d s σ H xs G g I f n=>?_) (λh b i c ⟨o,ho,l,_⟩ u z=>?_) (λA b j=>YC j it a r b) (λA s i b Q E j hl y f B=>Zh j hl y f B)
 .rw[<-g]at m;have⟨C,rv,p,hz⟩:=I.list m;show⟨C,rv,p.isList⟩
 .rw[<-g]at f n;show I.kC f n
 .rw[<-z,u]at ho;cases ho;have D:sL "enumerate"=sL "list":=l;show absurd D (by decide)
def Dh(a e it:hU)(q:e≠it)(r:a≠it):Turn X.prog X.w X.K (.Tuple es kx ps) (NC λH xs=>HR X.K H a xs) [e,it] e (λi h=>(∃c,Y9 h e it i c)/\h.IsTupleIter it a i):=by
 show m6 _ a e it q (λi h=>h.IsTupleIter it a i) (λh b=>h.IsTuple a b) (λi h h' x k=>x.at k) (λi h ⟨o,ho,l,t⟩=>⟨o,ho,λv z=>by rw[t]at z;cases z⟩)
  (λY d s σ H xs g I m=>?_) (λY d s σ H xs G g I f n=>?_) (λh b i c ⟨o,ho,l,_⟩ u z=>?_) (λA b j=>fP j it a r b) (λA s i b Q E j hl y f B=>de j hl y f B)
 .rw[<-g]at m;have⟨C,rv,p,hz⟩:=I.tuple m;show⟨C,rv,p⟩
 .rw[<-g]at f n;show I.jb f n
 .rw[<-z,u]at ho;cases ho;have D:sL "enumerate"=sL "tuple":=l;show absurd D (by decide)
def Af(n:Gl X "enumerate")(t:X.mg "enumerate"=cb)(v:PA X [a] w)(hs:i9 [a] X.env=[(cK,HD a X.env)]):PI X (.Tuple es kx ps) (.Call (.Name "enumerate" p) [a] [] pos) (GV X.K w):=by
 intro c s σ H R I h;show Call_ (da I n t vA (Kj (Hl (v pos c s σ H _ I h) λus s1 ⟨vs,j,d,x,y⟩=>?_) hs rfl));have⟨a',e,q⟩:=y;subst e;have⟨u,rfl,r⟩:=vals1 x;cases r;have f:s1.heap.objs.size+1≠s1.heap.objs.size:=Nat.succ_ne_self _;have g:∀(h':J3),(∀b∈[s1.heap.objs.size+1,s1.heap.objs.size],iw X c j b):=λh' b A=>by
  have m:s1.heap.objs.size<=b:=by
   rcases gc.mp A with z|z
   .rw[z];show Lw _
   .rw[i0.mp z];show i5 _
  show d.uX m (d.Hi.fresh m)
 rcases q with⟨⟨xs,k⟩,q⟩|⟨⟨xs,k⟩,q⟩
 .have⟨B,rv,p,hz⟩:=d.list k;have l:a'<s1.heap.objs.size:=let ⟨o,ho,_⟩:=p.isList;eH ho;show call_enumerate_list p.isList λh' i hl hsz hk=>?_;show Vv i ⟨_,[s1.heap.objs.size+1,s1.heap.objs.size],_,_,j,rfl,d.kept (t':=s1.toks) hk,Dg a' _ _ f (hY l),⟨⟨_,i⟩,hl⟩,g h',q⟩
 .have⟨B,rv,p,hz⟩:=d.tuple k;have l:a'<s1.heap.objs.size:=let ⟨o,ho,_⟩:=p;eH ho;show fQ p λh' i hl hsz hk=>?_;show Vv i ⟨_,[s1.heap.objs.size+1,s1.heap.objs.size],_,_,j,rfl,d.kept (t':=s1.toks) hk,Dh a' _ _ f (hY l),⟨⟨_,i⟩,hl⟩,g h',q⟩
end
structure OL(z TI TO i1 i2:hU)(f1 f2:List hU):Prop where
 Iz:TI≠z
 Oz:TO≠z
 az:i1≠z
 bz:i2≠z
 IO:TI≠TO
 Ia:TI≠i1
 Ib:TI≠i2
 Oa:TO≠i1
 Ob:TO≠i2
 ab:i1≠i2
 z1:z∉f1
 z2:z∉f2
 O1:TO∉f1
 O2:TO∉f2
 b1:i2∉f1
 a2:i1∉f2
abbrev BY(prog:Hr)(w:IT)(A:MH)(it:hU)(St:J3->Prop):Prop:=∀(s:hH) (Q:et->hH->Prop) (E:et->hH->Prop),St s.heap->(∀h' e,Yg it s.heap h'->(∃o,h'.get? e=bD o/\o.cls=.type "StopIteration")->E (.ref e) {s with heap:=h' })->ez (hW prog w) A (qk (.ref it)) Q E s
section
variable{prog:Hr}{w:IT}{A:MH}{E:et->hH->Prop}{s:hH}{z TI TO i1 i2:hU}{f1 f2:List hU}{n1 n2 i:Nat}{P1 P2:Nat->et->Prop}{S1 S2:Nat->J3->Prop}
def xk(m:È prog w A.in1 i1 f1 n1 P1 S1)(n:È prog w A.in1 i2 f2 n2 P2 S2)(Z:OL z TI TO i1 i2 f1 f2)(hz:Ua s.heap z TI TO .none)(Kv:OQ s.heap TI (.ref i1) (.ref i2))(KG:OQ s.heap TO a b)
  (t1:S1 i s.heap) (t2:S2 i s.heap) (l1:i<n1) (l2:i<n2)
  (hQ:∀x y h' tk,P1 i x->P2 i y->Ua h' z TI TO (vr s.heap.objs.size)->OQ h' TO x y->S1 (i+1) h'->S2 (i+1) h'->OQ h' s.heap.objs.size x y ->
   (∀c o,c≠z->c≠TO->c≠i1->c≠i2->s.heap.get? c=bD o->h'.get? c=bD o)->Q (bD (.ref s.heap.objs.size)) {s with heap:=h',toks:=tk}):ez (hW prog w) A (Qk (.ref z)) Q E s:=by
 have H:s.TypeIs (.ref z) "zip":=⟨_,hz,rfl⟩
 have h:∀{f:List hU} {c:hU},c∉f->∀b∈f,b≠c:=λhc b d e=>hc (e▸d);unfold Qk;show b5 (Uz (KJ (name:=N1 "__next__") H PySem.F.slot_zip_next (Hz PySem.F.slot_zip_next H PySem.F.entry_zip_next ?_ (PySem.F.args_zip_next_1 _))));change ez _ _ (X8 (.ref z) 2 >>= _) _ _ _;show b5 (KA hz rfl (x:=.bool cK) rfl ?_);change ez _ _ (X8 (.ref z) 3 >>= _) _ _ _;show b5 (KA hz rfl (x:=.ref TI) rfl (b5 (Ks Kv rfl ?_)));change ez _ _ (J' (.ref z) >>= _) _ _ _;show b5 ?_;unfold J';show b5 (KA hz rfl (x:=.none) rfl (d3 ?_));simp only[if_true];show b5 (L_ (b5 (KA hz rfl (x:=.ref TO) rfl (b5 (MW hz (by simp) λg1 v k1=>b5 ?_)))))
 replace v:Ua g1 z TI TO .ellipsis:=v
 simp only[UM,ZF,P9,Sz];show b5 (b5 (Uy ?_));change ez _ _ (qk (.ref i1) >>= _) _ _ _;show b5 (m.item i _ _ _ l1 (m.frame i _ _ t1 λb d o e=>k1.extBut b o (h Z.z1 b d) e) λx g2 RQ px u1 k2=>d3 ?_);have I:OQ g2 TO a b:=k2.extBut _ _ Z.Oa (k1.extBut _ _ Z.Oz KG);show b5 (Ks I rfl (b5 (T3 I λg3 B j=>b5 (WZ (d3 ?_)))))
 replace B:OQ g3 TO x b:=B
 show b5 (b5 (Uy ?_));change ez _ _ (qk (.ref i2) >>= _) _ _ _;show b5 (n.item i _ _ _ l2 (n.frame i _ _ t2 λb d o e=>j.extBut b o (h Z.O2 b d) (k2.extBut b o (h Z.a2 b d) (k1.extBut b o (h Z.z2 b d) e))) λy g4 Yz py u2 k=>d3 ?_);have J:OQ g4 TO x b:=k.extBut _ _ Z.Ob B;show b5 (Ks J rfl (b5 (T3 J λg p l=>b5 (WZ (d3 (d3 ?_))))))
 replace p:OQ g TO x y:=p
 show b5 (Ks p rfl (b5 (æ ?_)));have hsz:g.objs.size=s.heap.objs.size:=by rw[l.1,k.1,j.1,k2.1,k1.1]
 have L:Ua g z TI TO .ellipsis:=l.extBut _ _ Z.Oz.symm (k.extBut _ _ Z.bz.symm (j.extBut _ _ Z.Oz.symm (k2.extBut _ _ Z.az.symm v)));have kk:∀c o,c≠z->c≠TO->c≠i1->c≠i2->s.heap.get? c=bD o->g.get? c=bD o:=λc o c1 q C D e =>
  l.extBut _ _ q (k.extBut _ _ D (j.extBut _ _ q (k2.extBut _ _ C (k1.extBut _ _ c1 e))))
 have v1:S1 (i+1) g:=m.frame _ _ _ u1 λb d o e=>l.extBut b o (h Z.O1 b d) (k.extBut b o (h Z.b1 b d) (j.extBut b o (h Z.O1 b d) e));have v2:S2 (i+1) g:=n.frame _ _ _ u2 λb d o e=>l.extBut b o (h Z.O2 b d) e;have N:z<g.objs.size:=eH L;change ez _ _ (QK (.ref z) (.ref g.objs.size) >>= _) _ _ _;show b5 ?_;unfold QK;have WH:Ua (g.push {cls:=.type "tuple",data:=.seq #[x,y]}) z TI TO .ellipsis:=cc _ L;show b5 (MW WH (by simp) λg7 G O=>?_)
 replace G:Ua g7 z TI TO (vr g.objs.size):=G
 show MW G (by simp) λr t T=>?_
 replace t:Ua r z TI TO (vr g.objs.size):=t
 have u:∀c o,c≠z->g.get? c=bD o->r.get? c=bD o:=λc o c1 e=>T.extBut _ _ c1 (O.extBut _ _ c1 (cc _ e));have Y:OQ r g.objs.size x y:=T.extBut _ _ (u5 N) (O.extBut _ _ (u5 N) (gj _ rfl));rw[hsz]at t Y;show d3 ⟨_,rfl,?_⟩;change ez _ _ (pure (bD (mu g.objs.size))) _ _ _;rw[hsz];show d3 (hQ x y r _ px py t (u _ _ Z.Oz p) (m.frame _ _ _ v1 λb d o e=>u b o (h Z.z1 b d) e) (n.frame _ _ _ v2 λb d o e=>u b o (h Z.z2 b d) e) Y λc o c1 q C D e=>u c o c1 (kk c o c1 q C D e))
def xl(hh:A.handled=cb)(q:È prog w A.in1 i1 f1 n1 P1 S1)(G:È prog w A.in1 i2 f2 n2 P2 S2)(Z:OL z TI TO i1 i2 f1 f2)(hz:Ua s.heap z TI TO .none)(H:OQ s.heap TI (.ref i1) (.ref i2))(I:OQ s.heap TO a b)
  (J:S1 i s.heap) (L:S2 i s.heap) (N:BY prog w A.in1 i1 (S1 i)\/i<n1/\BY prog w A.in1 i2 (S2 i))
  (r:∀h' O,(∀c o,c≠z->c≠TO->c≠i1->c≠i2->s.heap.get? c=bD o->h'.get? c=bD o)->Q cb {s with heap:=h',toks:=O}):ez (hW prog w) A (Qk (.ref z)) Q E s:=by
 have t:s.TypeIs (.ref z) "zip":=⟨_,hz,rfl⟩
 have k:∀{f:List hU} {c:hU},c∉f->∀b∈f,b≠c:=λY b d e=>Y (e▸d);unfold Qk;show b5 (Uz (KJ (name:=N1 "__next__") t PySem.F.slot_zip_next (Hz PySem.F.slot_zip_next t PySem.F.entry_zip_next ?_ (PySem.F.args_zip_next_1 _))));change ez _ _ (X8 (.ref z) 2 >>= _) _ _ _;show b5 (KA hz rfl (x:=.bool cK) rfl ?_);change ez _ _ (X8 (.ref z) 3 >>= _) _ _ _;show b5 (KA hz rfl (x:=.ref TI) rfl (b5 (Ks H rfl ?_)));change ez _ _ (J' (.ref z) >>= _) _ _ _;show b5 ?_;unfold J';show b5 (KA hz rfl (x:=.none) rfl (d3 ?_));simp only[if_true];show b5 (L_ (b5 (KA hz rfl (x:=.ref TO) rfl (b5 (MW hz (by simp) λg1 l k1=>b5 ?_)))))
 replace l:Ua g1 z TI TO .ellipsis:=l
 simp only[UM,ZF,P9,Sz];show b5 (b5 (Uy ?_));change ez _ _ (qk (.ref i1) >>= _) _ _ _;have u:=q.frame i _ _ J λb d o e=>k1.extBut b o (k Z.z1 b d) e;rcases N with e1|⟨l1,e2⟩
 .show b5 (e1 _ _ _ u λm e k2 R9=>?_);have⟨oe,g,j⟩:=R9;have v:Ua m z TI TO .ellipsis:=k2 _ _ Z.az.symm l;have n:e≠z:=λx=>by subst x;rw[v]at g;cases g;simp at j
  show MW v (by simp) λg3 _ h=>?_;show b5 (Lj (T:="StopIteration") (b:=b6) ⟨oe,h.extBut _ _ n g,j⟩ T7 ?_);show d3 (r _ _ λc o c1 _ p _ x=>h.extBut _ _ c1 (k2 _ _ p (k1.extBut _ _ c1 x)))
 .show b5 (q.item i _ _ _ l1 u λx m RQ px u1 k2=>d3 ?_);have y:OQ m TO a b:=k2.extBut _ _ Z.Oa (k1.extBut _ _ Z.Oz I);show b5 (Ks y rfl (b5 (T3 y λg3 P7 h=>b5 (WZ (d3 ?_)))));show b5 (b5 (Uy ?_));change ez _ _ (qk (.ref i2) >>= _) _ _ _;show b5 (e2 _ _ _ (G.frame i _ _ L λb d o e=>h.extBut b o (k Z.O2 b d) (k2.extBut b o (k Z.a2 b d) (k1.extBut b o (k Z.z2 b d) e))) λg4 e B Sa=>?_);have⟨oe,g,j⟩:=Sa;have C:Ua g4 z TI TO .ellipsis:=B _ _ Z.bz.symm (h.extBut _ _ Z.Oz.symm (k2.extBut _ _ Z.az.symm l));have n:e≠z:=λx=>by subst x;rw[C]at g;cases g;simp at j
  show MW C (by simp) λg5 _ D=>?_;show b5 (Lj (T:="StopIteration") (b:=b6) ⟨oe,D.extBut _ _ n g,j⟩ T7 ?_);show d3 (r _ _ λc o c1 c2 p c4 x=>D.extBut _ _ c1 (B _ _ c4 (h.extBut _ _ c2 (k2.extBut _ _ p (k1.extBut _ _ c1 x)))))
end
abbrev Sb(b SB:Hp->List V->Prop):It :=
 ⟨λi H=>∃xs a x y,b H xs/\SB H a/\xs[i]?=bD x/\a[i]?=bD y,λi H v H'=>∃p,H p=cb/\v=.ref p/\∀xs a x y,b H xs->SB H a->xs[i]?=bD x->a[i]?=bD y->H'=upd H p (.tup [x,y]),λi H=>∃xs a,b H xs/\SB H a/\(xs.length<=i\/i<xs.length/\a.length<=i)⟩
section
def xm{K:PySem.W.Frag}{a b z TI TO f j:hU}(Z:OL z TI TO f j [f,a] [j,b])(UA:a≠f)(RL:b≠j):Turn P w K (.Tuple es kx ps) (Sb (λH xs=>HM K H a xs) λH T=>HR K H b T) [z,TI,TO,f,j] z
  (λi h=>Ua h z TI TO .none/\OQ h TI (.ref f) (.ref j)/\(∃u v,OQ h TO u v)/\h.IsListIter f a i/\h.IsTupleIter j b i) where
 mem:=by simp
 obj:=λi h ⟨hz,l,⟨u,v,m⟩,⟨o1,J2,_,WI⟩,⟨o2,JP,_,ab⟩⟩ c d=>by
  simp only[gc,va,or_false]at d;rcases d with rfl|rfl|rfl|rfl|rfl
  .show⟨_,hz,λv e=>by cases e⟩
  .show⟨_,l,λv e=>by cases e⟩
  .show⟨_,m,λv e=>by cases e⟩
  .show⟨_,J2,λv e=>by rw[WI]at e;cases e⟩
  .show⟨_,JP,λv e=>by rw[ab]at e;cases e⟩
 keep:=λi h h' ⟨hz,l,⟨u,v,m⟩,q,r⟩ k=>⟨k z (by simp) _ hz,k TI (by simp) _ l,⟨u,v,k TO (by simp) _ m⟩,q.at λo e=>k f (by simp) o e,r.at λo e=>k j (by simp) o e⟩
 item:=by
  intro Y hP hw J d i n s σ H E I L ⟨hz,l,⟨u,v,m⟩,q,r⟩ ⟨xs,T,x,y,t,B,hx,hy⟩;rw[<-J]at t B;obtain⟨D,r1,p1,_⟩:=I.list t;obtain⟨G,r2,p2,_⟩:=I.tuple B;have⟨x0,UB,rx⟩:=r1.get hx;have⟨y0,Qa,ry⟩:=r2.get hy;have l1:i<D.toArray.size:=by simpa using(eh.mp UB).1
  have l2:i<G.toArray.size:=by simpa using(eh.mp Qa).1
  have p:Y.A.handled=cb:=I.ok.hd d;subst hP hw;show xk (YC (A:=Y.A.in1) p f a UA D.toArray) (fP (A:=Y.A.in1) p j b RL G.toArray) Z hz l m ⟨q,p1.isList⟩ ⟨r,p2⟩ l1 l2 λx1 y1 g N px py OO Sd t1 t2 hT k=>?_;have ex:x1=x0:=by
   have:D.toArray[i]?=bD x0:=by simpa using UB
   rw[this]at px;cases px;rfl
  have ey:y1=y0:=by
   have:G.toArray[i]?=bD y0:=by simpa using Qa
   rw[this]at py;cases py;rfl
  subst ex ey;show⟨_,rfl,wpAny_letOwnedTupleGo_zip (s:={s with heap:=g,toks:=N}) OO λO P' C=>?_⟩;have lt:∀{c:hU} {o:Obj},s.heap.get? c=bD o->c≠s.heap.objs.size:=λe=>hY (eH e);have Se:OQ g TI (.ref f) (.ref j):=k _ _ Z.Iz Z.IO Z.Ia Z.Ib l;have OK:O.get? s.heap.objs.size=bD {cls:=.type "tuple",data:=.seq #[x1,y1]}:=(C.2 _ (lt hz).symm).trans hT;have k2:∀c o,c∉[z,TI,TO,f,j]->s.heap.get? c=bD o->O.get? c=bD o:=λc o d e=>by
   simp only[gc,va,or_false,not_or]at d;show(C.2 c d.1).trans (k c o d.1 d.2.2.1 d.2.2.2.1 d.2.2.2.2 e)
  have I2:Inv Y n σ (upd H s.heap.objs.size (.tup [x,y])) {s with heap:=O,toks:=N}:=I.hV L k2 (i5 _)
   (show bI Y.prog Y.w _ O _ (.tup [x,y]) from⟨by change 2<=dV;decide,[x1,y1],.cons rx (.cons ry .nil),⟨_,OK,rfl,_,rfl⟩⟩)
  show⟨.ref s.heap.objs.size,_,I2,rfl,⟨_,I.Hi.fresh (i5 _),rfl,λYA Jp x' y' a1 a2 a3 a4=>?_⟩,⟨P',(C.2 _ Z.Iz).trans Se,⟨_,_,(C.2 _ Z.Oz).trans Sd⟩,t1.1.at λo e=>(C.2 _ Z.az).trans e,t2.1.at λo e=>(C.2 _ Z.bz).trans e⟩,λc d=>?_⟩
  .rw[<-J]at a1 a2;have:=I.kC a1 t;subst this;have:=I.jb a2 B;subst this;rw[hx]at a3;rw[hy]at a4;cases a3;cases a4;rfl
  .have HV:c≠s.heap.objs.size:=by
    simp only[gc,va,or_false]at d;rcases d with rfl|rfl|rfl|rfl|rfl
    .show lt hz
    .show lt l
    .show lt m
    .obtain⟨o,e,_⟩:=q;show lt e
    .obtain⟨o,e,_⟩:=r;show lt e
   rw[ao HV];show(L c d).1
 done:=by
  intro Y hP hw J d i n s σ H E I L ⟨hz,l,⟨u,v,m⟩,q,r⟩ ⟨xs,T,t,B,Kq⟩;rw[<-J]at t B;obtain⟨D,r1,p1,_⟩:=I.list t;obtain⟨G,r2,p2,_⟩:=I.tuple B;have e1:=r1.length;have e2:=r2.length;have p:Y.A.handled=cb:=I.ok.hd d;subst hP hw;show xl p (YC (A:=Y.A.in1) p f a UA D.toArray) (fP (A:=Y.A.in1) p j b RL G.toArray) Z hz l m ⟨q,p1.isList⟩ ⟨r,p2⟩ ?_ λg N k=>?_
  .rcases Kq with h|⟨h,h'⟩
   .show .inl λs Q E st hE=>Zh p st.1 st.2 (by simp;lia) hE
   .show .inr ⟨by simp;lia,λs Q E st hE=>de p st.1 st.2 (by simp;lia) hE⟩
  .show⟨rfl,I.j8 (t':=N) (ch:=[z,TI,TO,f,j]) L λc o d e=>by
    simp only[gc,va,or_false,not_or]at d;show k c o d.1 d.2.2.1 d.2.2.2.1 d.2.2.2.2 e⟩
 self:=λA i s Q E ⟨hz,_⟩ h=>Ì hz h
def boot_zip:wk "zip"=bD (.type "zip"):=by decide +kernel
abbrev GW(K:PySem.W.Frag)(e:TA):TI:=λσ H R=>e σ H λvs c=>∃a b,vs=[.ref a,.ref b]/\(∃xs,HM K c a xs)/\(∃d,HR K c b d)/\R (Sb (λH xs=>HM K H a xs) λH d=>HR K H b d) c
def Ag(a b:hU)(xs c:Array et):
  Meets (M5.«zip.__new__» ⟨[.type "zip",.ref a,.ref b],[]⟩) (λ_ R s=>s.heap.IsList a xs/\s.heap.IsTuple b c /\
   R (.ok (.ret (.ref (s.heap.objs.size+4)))) {s with heap:=((((s.heap.push {cls:=.type "list_iterator",data:=.fields #[.ref a,.int 0 0]}).push {cls:=.type "tuple_iterator",data:=.fields #[.ref b,.int 0 0]}).push {cls:=.type "tuple",data:=.seq #[.ref s.heap.objs.size,.ref (s.heap.objs.size+1)]}).push {cls:=.type "tuple",data:=.seq #[.none,.none]}).push {cls:=.type "zip",data:=.fields #[.none,.bool cK,.bool cK,.ref (s.heap.objs.size+2),.ref (s.heap.objs.size+3)]}}) :=
 .of_wp λprog w A R s h=>by
  have⟨e,g,d,f,os⟩:=s;have⟨JA,J0,h⟩:=h;have k:=sub_zip;have i:Heap.IsList (XQ ⟨e,g,d,f,os⟩) a xs:=JA;have j:Å (XQ ⟨e.push {cls:=.type "list_iterator",data:=.fields #[.ref a,.int 0 0]},g,d,f,os⟩) b c:=let ⟨o,ho,r⟩:=J0;⟨o,cc _ ho,r⟩
  wp_walk using RM i,MZ j
  simp only[Sq];show⟨_,rfl,h⟩
def gq{c x y:Nat}(a:x<c\/c<x)(b:y<c):c∉[x,y]:=λh=>by
 rcases gc.mp h with e|h
 .lia
 .have:=i0.mp h;lia
def Ah{n a b:Nat}(c:a<n)(d:b<n):OL (n+4) (n+2) (n+3) n (n+1) [n,a] [n+1,b] :=
 ⟨hY ⋯,hY ⋯,hY ⋯,hY ⋯,hY ⋯,u5 ⋯,u5 ⋯,u5 ⋯,u5 ⋯,hY ⋯,
  gq ⋯ ⋯,gq ⋯ ⋯,gq ⋯ ⋯,gq ⋯ ⋯,gq ⋯ ⋯,gq ⋯ ⋯⟩
def Ai(h:b∈[n+4,n+2,n+3,n,n+1]):n<=b:=by
 simp only[gc,va,or_false]at h;lia
def Di(x:Gl X "zip")(y:X.mg "zip"=cb)(z:PA X [a,b] A)(B:i9 (a::[b]) X.env=(cK,HD a X.env)::i9 [b] X.env)(C:(Jx pos (i9 [b] X.env)).any (·.1)=cK):PI X (.Tuple es kx ps) (.Call (.Name "zip" p) [a,b] [] pos) (GW X.K A):=by
 intro i s σ H R I h;show Call_ (da I x y boot_zip (Kj (Hl (z pos i s σ H _ I h) λus s1 ⟨vs,D,j,G,J⟩=>?_) B C));obtain⟨k,l,rfl,⟨xs,L⟩,⟨ys,N⟩,q⟩:=J;have⟨u1,u2,rfl,O,Q⟩:=vals2 G;cases O;cases Q;obtain⟨T,v1,t,_⟩:=j.list L;obtain⟨Y,v2,p2,_⟩:=j.tuple N;have u:k<s1.heap.objs.size:=let ⟨o,ho,_⟩:=t.isList;eH ho;have v:l<s1.heap.objs.size:=let ⟨o,ho,_⟩:=p2;eH ho;show callType_new PySem.F.called_zip (by decide) (PySem.F.typeCall_zip_2 _ _) (PySem.F.newCall_zip_2 _ _) (λobj=>PySem.F.args_object_init_3 obj _ _) PySem.F.entry_zip_new (Ag k l T.toArray Y.toArray) ⟨t.isList,p2,?_⟩;generalize d:((((s1.heap.push {cls:=.type "list_iterator",data:=.fields #[.ref k,.int 0 0]}).push {cls:=.type "tuple_iterator",data:=.fields #[.ref l,.int 0 0]}).push {cls:=.type "tuple",data:=.seq #[.ref s1.heap.objs.size,.ref (s1.heap.objs.size+1)]}).push {cls:=.type "tuple",data:=.seq #[.none,.none]}).push {cls:=.type "zip",data:=.fields #[.none,.bool cK,.bool cK,.ref (s1.heap.objs.size+2),.ref (s1.heap.objs.size+3)]}=g;have m:∀(h:J3) (o:Obj),(h.push o).objs.size=h.objs.size+1:=λh o=>KW ..;have at_:∀(h:J3) (o:Obj) (n:Nat),h.objs.size=n->o.isFreed=cK->(h.push o).get? n=bD o:=λh o n e f=>by subst e;show gj _ f
 have r:Ua g (s1.heap.objs.size+4) (s1.heap.objs.size+2) (s1.heap.objs.size+3) .none:=by subst d;show at_ _ _ _ (by simp[m]) rfl
 have g4:OQ g (s1.heap.objs.size+3) .none .none:=by subst d;show cc _ (at_ _ _ _ (by simp[m]) rfl)
 have g3:OQ g (s1.heap.objs.size+2) (.ref s1.heap.objs.size) (.ref (s1.heap.objs.size+1)):=by subst d;show cc _ (cc _ (at_ _ _ _ (by simp[m]) rfl))
 have g2:g.IsTupleIter (s1.heap.objs.size+1) l 0:=by subst d;show⟨_,cc _ (cc _ (cc _ (at_ _ _ _ (by simp[m]) rfl))),rfl,rfl⟩
 have g1:g.IsListIter s1.heap.objs.size k 0:=by subst d;show⟨_,cc _ (cc _ (cc _ (cc _ (at_ _ _ _ rfl rfl)))),rfl,rfl⟩
 have kk:∀c o,s1.heap.get? c=bD o->g.get? c=bD o:=λc o e=>by subst d;show cc _ (cc _ (cc _ (cc _ (cc _ e))))
 have Z:OL (s1.heap.objs.size+4) (s1.heap.objs.size+2) (s1.heap.objs.size+3) s1.heap.objs.size (s1.heap.objs.size+1) [s1.heap.objs.size,k] [s1.heap.objs.size+1,l]:=Ah u v;show⟨⟨_,r,rfl⟩,Ì r ⟨_,[s1.heap.objs.size+4,s1.heap.objs.size+2,s1.heap.objs.size+3,s1.heap.objs.size,s1.heap.objs.size+1],_,_,D,rfl,j.kept (t':=s1.toks) kk,xm Z (hY u) (hY (OY v)),⟨r,g3,⟨_,_,g4⟩,g1,g2⟩,λb hb=>?_,q⟩⟩;have w:s1.heap.objs.size<=b:=Ai hb;show j.uX w (j.Hi.fresh w)
end
def Aj{a:List et}(h:Ä (λi v=>a.toArray[a.toArray.size - 1 - i]?=bD v) acc a.toArray.size):acc.toList=a.reverse:=by
 apply Zg;intro i;have hs:acc.size=a.length:=by have:=h.1;simpa using this
 by_cases c:i<a.length
 .have b:i<acc.size:=by lia
  have:=h.2 i (acc[i]'b) (by simp[b]);rw[sx,NY b,List.getElem?_reverse c];simpa using this.symm
 .rw[Pn (by rw[i3];lia),Pn (by rw[TH];lia)]
section
def xn(j:X.calm=b6)(I:Inv X f σ H s)(k:HM X.K H a xs)
  (h:∀c,Vals xs c->xs.length<=dV->∀(R:hU) (d:J3),R=s.heap.objs.size->d.objs.size=s.heap.objs.size+1->(∀b o,s.heap.get? b=bD o->d.get? b=bD o)->(∀B:MH,B.handled=X.A.handled ->
   Walks X.prog X.w B R [R,a] [R] c.toArray.size (λi v=>c.toArray[c.toArray.size - 1 - i]?=bD v) (λi h=>i<=c.toArray.size/\h.IsRevIter R a ((c.toArray.size:Int) - 1 - (i:Int))/\h.IsList a c.toArray)) ->
   d.IsRevIter R a ((c.toArray.size:Int) - 1 - ((0:Nat):Int))->d.IsList a c.toArray->a<s.heap.objs.size->Q (.ref R) {s with heap:=d}):ez (hW X.prog X.w) X.A (N0 (.type "reversed") [.ref a]) Q X.xe s:=by
 have⟨c,rv,p,hz⟩:=I.list k;have g:a<s.heap.objs.size:=let ⟨o,ho,_⟩:=p.isList;eH ho;show call_reversed_list p.isList (h c rv hz _ _ rfl (by rw[KW]) (λb o e=>cc _ e) (λB l=>Walks.listRev (by rw[l];show I.ok.hd j) _ a (hY g) c.toArray) ?_ (p.isList.push _) g);show⟨_,gj _ rfl,rfl,?_⟩;change Sv _=Sv _;congr 3
 simp
def xo(p:X.calm=b6)(I:Inv X c σ H s)(r:HM X.K H a xs)(q:∀l,H l=cb->Q (.ref l) (upd H l (.lst xs.reverse))):
  ez (hW X.prog X.w) X.A (N0 (.type "reversed") [.ref a]) (λv s1=>ez (hW X.prog X.w) X.A (N0 (.type "list") [v]) (EP X c σ Q) X.xe s1) X.xe s:=by
 show xn p I r λh rv hz R d j hsz hk t u hl x=>?_;have Y:h.length=xs.length:=rv.length.symm;show qc (s:={s with heap:=d}) (t X.A.in1.in1 rfl).toS (λi s st=>st.2.1.typeIs) ⟨js _,u,hl⟩ (λb f=>?_) (by simp) (λs' acc k g y B=>?_) (by simp;lia)
 .change b<d.objs.size;rw[hsz];rcases gc.mp f with z|z
  .rw[z,j];show N2 _
  .rw[i0.mp z];show OY x
 .have⟨m,C,D,G,o2⟩:=s';have J:C=s.gens:=g.gens;have L:D=s.drawn:=g.drawn;have N:o2=s.os:=g.os;subst J L N;have k2:∀b o,s.heap.get? b=bD o->m.get? b=bD o:=λb o e=>g.heap b o (λz=>by
   have f:=eH e;rcases gc.mp z with z|z
   .rw[z]at f;have n:d.objs.size<s.heap.objs.size:=f;rw[hsz]at n;show absurd n (ZD (N2 _))
   .rw[i0.mp z,j]at e;show absurd (eH e) (ve _)) (cc _ (hk b o e))
  have O:=Aj B;show⟨.ref d.objs.size,_,I.laid (t':=G) (o:=.lst xs.reverse) k2 (by rw[hsz];show Lw _) ⟨by rw[TH];show hz,h.reverse,k,rv.reverse,?_⟩,rfl,q _ (I.Hi.fresh (by rw[hsz];show Lw _))⟩;have T:m.get? d.objs.size=bD {cls:=.type "list",dict:=cb,data:=.seq acc k,slots:=#[]}:=y;rw[T,<-O,Yd]
end
end L2
namespace L2
open PySem PySem.W PyProof.Rows
section
def Inv.freeze(I:Inv X a σ H s)(c:H r=bD (.dK kvs))(ho:s.heap.get? r=bD o):Inv X a σ (upd H r (.IV o (.dK kvs))) s:=by
 have d:∀b u,H b=bD u->u≠.dK kvs->b≠r:=λb u e n z=>by subst z;rw[c]at e;cases e;show n rfl
 show I.write (t':=s.toks) (x:=r) (e:=r) (by rw[c];trivial) (.inl rfl) (λb u _ q=>q) ⟨o,ho⟩ ⟨ho,(I.Hi r _ c).gW (λ_ _ _ q=>q) (λb q=>by rw[ao (d b _ q (λz=>by cases z))];show q) λb xs q=>by rw[ao (d b _ q (λz=>by cases z))];show q⟩
def Dj(h:PE X e c):PE X e (λσ H Q=>∃r kvs,H r=bD (.dK kvs)/\∀o,c σ (upd H r (.IV o (.dK kvs))) Q):=by
 intro a s σ H Q I ⟨r,kvs,b,d⟩;obtain⟨_,_,vs,_,o,es,ep,ho,_⟩:=(show bI X.prog X.w H s.heap r (.dK kvs) from I.Hi r _ b)
 show h a s σ _ Q (I.freeze b ho) (d o)
end
abbrev Sf(r:hU)(o:Obj)(kvs:List (Key×V)):It :=
 ⟨λi H=>H r=bD (.IV o (.dK kvs))/\i<kvs.length,λi H x H'=>∃p,H p=cb/\x=.ref p/\∀k v,kvs[i]?=bD (k,v)->H'=upd H p (.tup [kV k,v]),λi H=>H r=bD (.IV o (.dK kvs))/\kvs.length<=i⟩
def Dk(h:(aS P w).is k u=b6):RelV (kV k) u:=by
 rcases br (show jz k u=b6 from h) with⟨i,t,rfl,rfl⟩|⟨y,t,rfl,rfl⟩
 .show⟨t,rfl⟩
 .show⟨t,rfl⟩
theorem BZ:∀{kvs:List (Key×V)}{vs:List (Key×et)},KV kvs vs->∀(i:Nat) (h:i<kvs.length) (h':i<vs.length),kvs[i].1=vs[i].1/\RelV kvs[i].2 vs[i].2
 |_,_,.cons a _,0,_,_=>a
 |_,_,.cons _ b,i+1,h,h'=>BZ b i (by simpa using h) (by simpa using h')
def rK{K:PySem.W.Frag}(l:o.data=.dict L ep):
  Turn P w K (.Tuple es kx ps) (Sf r o kvs) [it] it (λi h=>∃d e,IsItemIter h it r i kvs.length ep d e) where
 mem:=by simp
 obj:=λi h ⟨d,e,st⟩ b a=>by
  rw[i0.mp a];show⟨_,st,λv z=>by
    have z':Sv _=XM v:=z;cases z'⟩
 keep:=λi h h' ⟨d,e,st⟩ k=>⟨d,e,k it (by simp) _ st⟩
 item:=by
  intro X t u hK N i c s σ H E I m ⟨d,e,st⟩ x;subst t u;have⟨y,B⟩:=x;have⟨ho,z1,z2,vs,kv,o',WL,Lz,f,C,g,D⟩:=(show bI X.prog X.w H s.heap r (.IV o (.dK kvs)) from I.Hi r _ y)
  rw[ho]at f;cases f;rw[l]at g;cases g;have hl:vs.length=kvs.length:=(Paired.length kv).symm;have G:s.heap.DictAt (aS X.prog X.w) r vs ep:=⟨o,L,ho,C,l,D⟩
  obtain⟨q,hq,e1,e2⟩:∃q,vs[i]?=bD q/\kvs[i].1=q.1/\RelV kvs[i].2 q.2:=by
   have O:i<vs.length:=by lia
   show⟨vs[i],by simp[O],?_⟩;show BZ kv i B O
  rw[<-hl]at st;show wpAny_pyNext_items_item st G (k:=q.1) (v:=q.2) hq λj h1 hk J hT hsz OP=>⟨_,rfl,wpAny_letOwnedTupleGo_items (s:={s with heap:=h1}) J λn T Y=>?_⟩
  have HC:it<s.heap.objs.size:=eH st;have OK:n.get? s.heap.objs.size=bD {cls:=.type "tuple",data:=.seq #[j,q.2]}:=(Y.2 _ (u5 HC)).trans hT;have k2:∀b o,b∉[it]->s.heap.get? b=bD o->n.get? b=bD o:=λb o a q=>by
   have p:b≠it:=λz=>a (by simp[z]);show(Y.2 b p).trans (OP b o p q)
  have I2:Inv X c σ (upd H s.heap.objs.size (.tup [kV kvs[i].1,kvs[i].2])) {s with heap:=n,toks:=s.toks}:=I.hV m k2 (i5 _)
   (show bI X.prog X.w _ n _ (.tup [kV kvs[i].1,kvs[i].2]) from⟨by change 2<=dV;decide,[j,q.2],.cons (by rw[e1];show Dk hk) (.cons e2 .nil),⟨_,OK,rfl,_,rfl⟩⟩)
  show⟨.ref s.heap.objs.size,_,I2,rfl,⟨_,I.Hi.fresh (i5 _),rfl,λk v Qc=>?_⟩,⟨_,_,by rw[hl]at T;show T⟩,λb a=>?_⟩
  .rw[ri B]at Qc;rw[tr Qc]
  .have p:b≠s.heap.objs.size:=by rw[i0.mp a];show hY HC
   rw[ao p];show(m b a).1
 done:=by
  intro X t u hK N i c s σ H E I m ⟨d,e,st⟩ x;subst t u;have⟨y,B⟩:=x;have⟨ho,z1,z2,vs,kv,o',WL,Lz,f,C,g,D⟩:=(show bI X.prog X.w H s.heap r (.IV o (.dK kvs)) from I.Hi r _ y)
  rw[ho]at f;cases f;rw[l]at g;cases g;have hl:vs.length=kvs.length:=(Paired.length kv).symm;have G:s.heap.DictAt (aS X.prog X.w) r vs ep:=⟨o,L,ho,C,l,D⟩
  rw[<-hl]at st;show wpAny_pyNext_items_end (by simpa using I.ok.hd N) st G (Pn ⋯) λh' Of=>⟨rfl,I.j8 (t':=s.toks) m λb o a q=>Of b o (λz=>a (by simp[z])) q⟩
 self:=λA i s Q E ⟨d,e,st⟩ h=>kcp_self st h
section
abbrev GX(i:Nat):TI:=λσ H R=>∃r o kvs,σ[i]?=bD (bD (.ref r))/\H r=bD (.IV o (.dK kvs))/\R (Sf r o kvs) H
def xp(t:X.N[i]?=bD x)(y:Jo X.env.scope x)(A:(x==("__debug__":Str))=cK)(B:(x==("__classdict__":Str))=cK)(C:(c.endLine==D.line)=b6):
  PI X (.Tuple es kx ps) (.Call (.Attribute (.Name x px) "items" c) [] [] D) (GX i):=by
 intro d s σ H R I ⟨r,o,kvs,hs,G,J⟩;show R' rfl C (Hl (cA t y A B d s σ H (λv g=>v=.ref r/\g=H) I ⟨_,hs,rfl,rfl⟩) λv s1 L=>?_);have⟨x1,g,h,O,m,Q⟩:=L;subst m Q;cases(show v=mu r from O);have⟨ho,m,lo,vs,kv,o',k,ep,n,f,j,l⟩:=(show bI X.prog X.w g s1.heap r (.IV o (.dK kvs)) from h.Hi r _ G)
 rw[ho]at n;cases n;have hl:vs.length=kvs.length:=(Paired.length kv).symm;have hm:s1.heap.DictAt (aS X.prog X.w) r vs ep:=⟨o,k,ho,f,j,l⟩
 have p:s1.TypeIs (.ref r) "dict":=⟨o,ho,f.1⟩
 show⟨"dict","dict.items",PySem.F.plainAttrs_dict,PySem.F.slot_dict_items,PySem.F.type_dict_items,p,λa e=>⟨o,by cases e;show ho,f.2.1⟩,Jl rfl (PySem.evalArgs_none (V5 PySem.F.slot_dict_items p PySem.F.entry_dict_items (PySem.F.args_dict_items_1 _) (Ó (aS X.prog X.w) r lo) ⟨⟨vs,o,k,ep,ho,f,j,l⟩,?_⟩))⟩;have k1:∀b u,s1.heap.get? b=bD u->(s1.heap.push {cls:=.type "dict_items",data:=.fields #[.ref r]}).get? b=bD u:=λb u z=>cc _ z;have T:(s1.heap.push {cls:=.type "dict_items",data:=.fields #[.ref r]}).DictAt (aS X.prog X.w) r vs ep:=⟨o,k,k1 _ _ ho,f,j,l⟩
 show wpAny_pyIter_items (s:={s1 with heap:=s1.heap.push {cls:=.type "dict_items",data:=.fields #[.ref r]}}) ⟨_,gj _ rfl,rfl,rfl⟩ T ?_;have hsz:(s1.heap.push {cls:=.type "dict_items",data:=.fields #[.ref r]}).objs.size=s1.heap.objs.size+1:=KW ..;have Y:=h.kept (t':=s1.toks) (h':=(s1.heap.push {cls:=.type "dict_items",data:=.fields #[.ref r]}).push {cls:=.type "dict_itemiterator",data:=.fields #[.none,.bool cK,.ref r,.int 0 0,.int vs.length 0,.int ep 0,.none,.none]}) λb u z=>cc _ (k1 b u z);show⟨_,[_],_,_,g,rfl,Y,rK (kvs:=kvs) j,⟨.none,.none,by rw[<-hl];show gj _ rfl⟩,λb hb=>?_,J⟩;rw[i0.mp hb];have q:s1.heap.objs.size<=(s1.heap.push {cls:=.type "dict_items",data:=.fields #[.ref r]}).objs.size:=by rw[hsz];show Lw _
 show h.uX q (h.Hi.fresh q)
end
end L2
namespace L2
open PySem PySem.Spec PyProof.Rows
def vB(l:hU)(a:Array et)(n:Nat)(b:hU)(c:Array et)(e:Nat)(f:Option hU)(i:Array (Option et))(p:¬(!a.isEmpty&&K2 (a.size+c.size))=b6)(j:a.size<=dV)(k:a.size+c.size<=dV+1):
  Meets (M5.«list.extend» ⟨[.ref l,.ref b],[]⟩) (λ_ R s=>s.heap.get? l=bD {cls:=.type "list",dict:=cb,data:=.seq a n,slots:=#[]}/\s.heap.get? b=bD {cls:=.type "list",dict:=f,data:=.seq c e,slots:=i}/\R (.ok (.ret ro)) {s with heap:=s.heap.update l (rz λx=>x++c),toks:=s.toks}) :=
 .of_wp λprog w A R s h=>by
  have⟨q,g,d,r,os⟩:=s;have⟨hl,m,h⟩:=h;have t:=Yh;have u:=Vk;have v:=Wo;have y:=We;have z:=Wk;
  have o:(a++c).size<=dV+1:=by rw[Ug];show k
  wp_walk using(QO hl rfl (hz:=j) (_hz':=o)),Np hl,Np m;show⟨_,rfl,h⟩
def vC(l:hU)(a:Array et)(n:Nat)(b:hU)(c:Array et)(e:Nat)(f:Option hU)(i:Array (Option et))(p:¬(!a.isEmpty&&K2 (a.size+c.size))=b6)(j:a.size<=dV)(k:a.size+c.size<=dV+1):
  Meets (M5.«list.extend» ⟨[.ref l,.ref b],[]⟩) (λ_ R s=>s.heap.get? l=bD {cls:=.type "list",dict:=cb,data:=.seq a n,slots:=#[]}/\s.heap.get? b=bD {cls:=.type "tuple",dict:=f,data:=.seq c e,slots:=i}/\R (.ok (.ret ro)) {s with heap:=s.heap.update l (rz λx=>x++c),toks:=s.toks}) :=
 .of_wp λprog w A R s h=>by
  have⟨q,g,d,r,os⟩:=s;have⟨hl,m,h⟩:=h;have t:=Yh;have u:=Vk;have v:=Wo;have y:=We;have z:=Wk;
  have o:(a++c).size<=dV+1:=by rw[Ug];show k
  wp_walk using(QO hl rfl (hz:=j) (_hz':=o)),Np hl,Np m;show⟨_,rfl,h⟩
section
def rL:PL X "list.extend" (λx vs H Q=>∃l b xs c,x=.ref l/\vs=[.ref b]/\H l=bD (.lst xs)/\(HM X.K H b c\/HR X.K H b c)/\xs.length+c.length<=dV/\Q .Hj (upd H l (.lst (xs++c)))):=by
 intro g s σ H x vs v us Q I B rv h;have⟨l,b,xs,c,rfl,rfl,y,hB,hz,q⟩:=h;cases B;have⟨u,rfl,C⟩:=rv.one;cases C;have⟨z,f,n,r,hl,e⟩:=I.zT y;have i:∀a:List et,Vals c a->EP X g σ Q ro {s with heap:=s.heap.update l (rz λx=>x++a.toArray),toks:=s.toks}:=λa d=>by
  show⟨.Hj,_,I.mj (its':=f++a) y e (by simp) (r.append d) ?_,rfl,q⟩;rw[i7];lia
 have m:∀a:List et,c.length=a.length->f.toArray.size+a.toArray.size<=dV:=λa h=>by rw[hZ,hZ];lia
 have A:∀a:List et,c.length=a.length->¬(!f.toArray.isEmpty&&K2 (f.toArray.size+a.toArray.size))=b6:=λa h=>by
  rw[wG (m a h),SA];show k8
 rcases hB with hB|hB
 .obtain⟨a,d,o,_⟩:=I.list hB;obtain⟨⟨cls,p,data,t⟩,ho,j,w,k⟩:=o.isList;simp only at j k;subst j k;have J0:=d.length;have D:=m a J0;show U1 Zx ⟨_,e,rfl⟩ Zj (Y_ _ _) (vB l f.toArray n b a.toArray w p t (A a J0) ⋯ ⋯) ⟨e,ho,i a d⟩
 .obtain⟨a,d,o,_⟩:=I.tuple hB;obtain⟨⟨cls,p,data,t⟩,ho,j,w,k⟩:=o;simp only at j k;subst j k;have J0:=d.length;have D:=m a J0;show U1 Zx ⟨_,e,rfl⟩ Zj (Y_ _ _) (vC l f.toArray n b a.toArray w p t (A a J0) ⋯ ⋯) ⟨e,ho,i a d⟩
end
end L2
namespace L2
open PySem PySem.W PyProof.Rows
section
def vD{vs:List (Key×et)}(hk:vs.map (·.1)=ks.map nc)(hl:acc.length=vs.length)(h:∀(j:Nat) (v:et),acc[j]?=bD v->∃k x,vs[j]?=bD (k,x)/\(aS P w).is k v=b6):Pp acc ks:=by
 induction acc generalizing ks vs with
 |nil =>
  cases vs with
  |nil=>cases ks with
   |nil=>show .nil
   |cons _ _=>cases hk
  |cons _ _=>cases hl
 |cons v acc b =>
  cases vs with
  |nil=>cases hl
  |cons p vs =>
   cases ks with
   |nil=>cases hk
   |cons k ks =>
    simp only[gs,NO]at hk;have⟨k',x,a,c⟩:=h 0 v rfl;simp only[List.getElem?_cons_zero,P4]at a;subst a;have d:k'=nc k:=hk.1;subst d;rcases br (show jz (nc k) v=b6 from c) with⟨i,t,e,rfl⟩|⟨y,t,e,rfl⟩
    .cases e
    .cases e;show .cons _ _ (b hk.2 (by simpa using hl) λj u f=>h (j+1) u (by simpa using f))
def jh:X.calm=b6->jA X (.builtin "sorted") (λxs H Q=>∃(d:hU) (kvs:List (Key×V)) (ks:List Str),xs=[.ref d]/\H d=bD (.dK kvs)/\kvs.map (·.1)=ks.map nc/\ks.length<64/\∀q,H q=cb->Q (.ref q) (upd H q (.lst ((aL ks).map V.str)))):=by
 intro m a s σ H xs us Q I rs h;have⟨d,kvs,ks,rfl,e,hk,G,q⟩:=h;have⟨u,rfl,r⟩:=vals1 rs;cases r;have⟨hz,lo,vs,kv,k⟩:=wK I.Hi e;have b:vs.length=kvs.length:=(Paired.length kv).symm;have n:kvs.length=ks.length:=by rw[<-dt (f:=(·.1)),hk,dt]
 have p:vs.map (·.1)=ks.map nc:=by
  rw[<-hk];clear k b hk n e q hz;induction kv with
  |nil=>rfl
  |cons r _ t=>rw[gs,gs,t,r.1]
 have⟨o,es,ep,x⟩:=id k;have y:(64:Nat)<=dV:=by decide
 show fh (kdu_collect (A:=X.A.in1) (kdl_dict (knd:=aS X.prog X.w) (kvs:=vs) (ep:=ep) lo) (I.ok.hd m) ⟨o,es,x⟩ ⋯ λh' c acc z g=>⟨ks,vD p (by rw[i3];show g.1) (λj v B=>g.2 j v (by rw[<-sx];show B)),by rw[i3,g.1];lia,λJ C D k2 i s2=>?_⟩);have l:Inv X a σ H {s with heap:=h',toks:=c}:=I.kept (t':=c) z;show⟨.ref h'.objs.size,_,l.laid (t':=c) (o:=.lst ((aL ks).map V.str)) k2 (i5 _) ⟨by rw[dt,cu];lia,C,D,dH s2,i⟩,rfl,q _ (l.Hi.fresh (i5 _))⟩
end
abbrev h_{α:Type}(lt:Nat->Nat->Bool):KasT α->α
 |.ret x=>x
 |.ask i j k=>h_ lt (k (lt i j))
def IK{α:Type}(n:Nat)(P:α->Prop):KasT α->Prop
 |.ret x=>P x
 |.ask i j k=>i<n/\j<n/\∀b,IK n P (k b)
theorem IK.NG{P:α->Prop}{Q:β->Prop}{f:α->KasT β}(a:∀x,P x->IK n Q (f x)):∀{t:KasT α},IK n P t->IK n Q (t.bind f)
 |.ret x,h=>a x h
 |.ask i j k,h=>⟨h.1,h.2.1,λb=>IK.NG a (h.2.2 b)⟩
theorem IK.got:∀{t:KasT α},IK n P t->P (h_ lt t)
 |.ret _,h=>h
 |.ask i j k,h=>IK.got (t:=k (lt i j)) (h.2.2 _)
theorem IK.wp(b:∀i j,i<n->j<n->∀C:Bool->hH->Prop,C (lt i j) s->a i j C s):
  ∀{t:KasT α},IK n P t->Q (h_ lt t) s->t.kasWp a Q s
 |.ret _,_,q=>q
 |.ask i j k,h,q=>b i j h.1 h.2.1 _ (IK.wp b (t:=k (lt i j)) (h.2.2 _) q)
abbrev Pm(n:Nat)(p:Array Nat):Prop:=p.toList.Perm (ix n)
section
variable{n:Nat}(hn:0<n)
include hn
def Pm.at(h:Pm n p)(i:Nat):p.getD i 0<n:=by
 by_cases a:i<p.size
 .have:p.getD i 0=p[i]:=by simp[TN,a]
  rw[this];have b:p[i]∈p.toList:=by simp
  show vu.mp (h.mem_iff.mp b)
 .have:p.getD i 0=0:=by simp[TN,a]
  rw[this];show hn
omit hn in
def Pm.rev(h:Pm n p)(i j:Nat):Pm n (kas_rev p i j):=(mirror_perm p i j _).toList.trans h
omit hn in
def Pm.WN(h:Pm n p)(i j:Nat):Pm n (bubble p i j):=(bubble_perm p i j).toList.trans h
theorem rM(h:Pm n p):∀(f m:Nat),IK n (λ_=>True) (kas_asc p f m)
 |0,m=>trivial
 |f+1,m=>⟨h.at hn _,h.at hn _,λb=>by
  cases b
  .show rM h f (m+1)
  .show trivial⟩
theorem j9:∀(f:Nat) (p:Array Nat) (m q:Nat),Pm n p->IK n (λr=>Pm n r.1) (kas_desc f p m q)
 |0,p,m,q,h=>h
 |f+1,p,m,q,h=>⟨h.at hn _,h.at hn _,λb=>by
  cases b
  .show⟨h.at hn _,h.at hn _,λb=>by
    cases b
    .show j9 f p (m+1) (q+1) h
    .show h⟩
  .change IK n _ (if q>0 then _ else _);split
   .show j9 f _ _ _ (h.rev _ _)
   .show j9 f _ _ _ h⟩
def tM(h:Pm n p)(m r:Nat):IK n (λx=>Pm n x.2) (kas_tail3 m r p):=by
 unfold kas_tail3;show IK.NG (λx _=>?_) (rM hn (h.rev _ _) _ _);show h.rev _ _
def tN(h:Pm n p)(m r:Nat):IK n (λx=>Pm n x.2) (kas_descPart m r p):=by
 unfold kas_descPart;show IK.NG (λx a=>?_) (j9 hn _ _ _ _ h);split
 .show tM hn (a.rev _ _) _ _
 .show tM hn a _ _
def xq(h:Pm n p)(r:Nat):IK n (λx=>Pm n x.2) (kas_count r p):=by
 unfold kas_count;show IK.NG (λm _=>?_) (rM hn h _ _);split
 .show h
 .split
  .show⟨h.at hn _,h.at hn _,λb=>by
    cases b
    .show tN hn (h.rev _ _) _ _
    .show h⟩
  .show tN hn h _ _
theorem kX(h:Pm n p)(k:Nat):∀(f l r:Nat),IK n (λ_=>True) (kas_place p k f l r)
 |0,l,r=>trivial
 |f+1,l,r=>by
  unfold kas_place;split
  .show trivial
  .show⟨h.at hn _,h.at hn _,λb=>by
    cases b
    .show kX h k f _ _
    .show kX h k f _ _⟩
theorem xr:∀(f:Nat) (p:Array Nat) (k:Nat),Pm n p->IK n (Pm n) (kas_bin f p k)
 |0,p,k,h=>h
 |f+1,p,k,h=>IK.NG (λl _=>xr f _ _ (h.WN _ _)) (kX hn h _ _ _ _)
def tP:IK n (Pm n) (Na n):=by
 unfold Na;show IK.NG (λx a=>?_) (xq hn (p:=List.toArray (ix n)) (by unfold Pm;simp) n);split
 .show xr hn _ _ _ a
 .show a
end
def kY(lt:Nat->Nat->Bool)(n:Nat):(h_ lt (Na n)).toList.Perm (ix n):=by
 cases n with
 |zero=>show LC _
 |succ n=>show(tP (X' n)).got
section
def vE(ho:s.heap.get? a=bD (HX "list" vs.toArray n))(l:vs.length<64)
  (m:2<=vs.length->∀s1:hH,(∀b o,b≠a->s.heap.get? b=bD o->s1.heap.get? b=bD o)->ez (hW prog w) A (keyKind' vs.toArray) (λκ s'=>s'=s1/\∀i j,i<vs.length->j<vs.length->∀C:Bool->hH->Prop,C (lt i j) s1->Z' prog w A κ vs i j C s1) (λ_ _=>False) s1)
  (h:P (.done (.ret .none)) {s with heap:=ZZ s.heap a vs (((h_ lt (Na vs.length)).toList.map λi=>vs.getD i ro).toArray)}) :
  ez (hW prog w) A (M5.«list.sort» ⟨[.ref a],[]⟩) P E s:=by
 have N:a<s.heap.objs.size:=eH ho;have u:(64:Nat)<=dV:=by decide
 rw[list_sort_plain];show b5 (Zb ho rfl (b5 (UK ho rfl ?_ (by rw[hZ];lia) (js _))));obtain⟨k,q⟩:∃k,(s.heap.update a (rz λ_=>(#[]:Array et))).get? a=bD (HX "list" #[] k):=⟨_,â ho λ_=>#[]⟩
 show b5 (ZC q rfl (b5 (æ (b5 (Ys (ux ?_) (js _))) (by change vs.length<=_;lia))));have d:(((s.heap.update a (rz λ_=>(#[]:Array et))).push (HX "tuple" vs.toArray 0)).push (HX "list" #[] 0)).get? a=bD (HX "list" #[] k):=cc _ (cc _ q);have f:∀b o,b≠a->s.heap.get? b=bD o->(((s.heap.update a (rz λ_=>(#[]:Array et))).push (HX "tuple" vs.toArray 0)).push (HX "list" #[] 0)).get? b=bD o:=λb o y e =>
  cc _ (cc _ (by rw[N6 _ _ _ _ y];show e))
 change ez (hW prog w) A _ P E {s with heap:=((s.heap.update a (rz λ_=>(#[]:Array et))).push (HX "tuple" vs.toArray 0)).push (HX "list" #[] 0)}
 dsimp only
 have r:((h_ lt (Na vs.length)).toList.map λi=>vs.getD i ro).length=vs.length:=by rw[dt,(kY lt _).length_eq,Js]
 by_cases c:vs.toArray.size<2
 .rw[ö c,ö c];show b5 (d3 ?_);rw[StateT.run_pure];show b5 (d3 ?_);have z:((h_ lt (Na vs.length)).toList.map λi=>vs.getD i ro).toArray=(vs.toArray.zip vs.toArray).map (·.2):=by
   have g:=kY lt vs.length;clear h m r f d ho l
   match vs,c,g with
   |[],_,g=>rw[show(h_ lt (Na ([]:List et).length)).toList=[] from List.perm_nil.mp g];simp
   |[v],_,g=>rw[show(h_ lt (Na [v].length)).toList=[0] from List.perm_singleton.mp g];simp
   |_::_::_,c,_=>simp at c;lia
  rw[z]at h
  dsimp only
  show b5 (ZC d rfl (b5 (UK d rfl ?_ (js _) (by rw[QG];change(pairsOf vs).size<=_;rw[pairsOf_size];lia))));simp only[bne_self_eq_false,Lh,if_false];show d3 h
 .rw[ø c,ø c];have t:2<=vs.length:=by rw[hZ]at c;lia
  show b5 (uv (m t _ f) (λκ O hk=>?_) λ_ _ x=>x.elim);have⟨rfl,hk⟩:=hk;show b5 (uv (kat_run (κ:=κ) (ks:=vs) (vs:=vs) (G:=λp s'=>p=h_ lt (Na vs.length)/\s'={s with heap:=((s.heap.update a (rz λ_=>(#[]:Array et))).push (HX "tuple" vs.toArray 0)).push (HX "list" #[] 0)})
   (Q:=λst' s'=>∃p:Array Nat,arrOf st'=p.map (kas_item (vs.toArray.zip vs.toArray))/\failedOf st'=cb/\p=h_ lt (Na vs.length)/\s'={s with heap:=((s.heap.update a (rz λ_=>(#[]:Array et))).push (HX "tuple" vs.toArray 0)).push (HX "list" #[] 0)})
   rfl t l (λp st' s' T B D H=>⟨p,B,D,H⟩) (IK.wp hk (tP ⋯) ⟨rfl,rfl⟩)) ?_ λ_ _ e=>e)
  rintro⟨⟨⟩,st'⟩ s' ⟨p,I,J,rfl,rfl⟩
  dsimp only
  have L:=kat_snds rfl I;rw[L,J];show b5 (ZC d rfl (b5 (UK d rfl ?_ (js _) (by rw[hZ,r];lia))));simp only[bne_self_eq_false,Lh,if_false];show d3 h
end
@[reducible]def Ak:=Str×Int
abbrev Ma(ks:List Str)(i j:Nat):Bool:=df ((ks.getD i uk).cps.toList<(ks.getD j uk).cps.toList)
abbrev jT(ks:List Str):List Nat:=(h_ (Ma ks) (Na ks.length)).toList
def gr(ks:List Str):(jT ks).Perm (ix ks.length):=kY _ _
abbrev E7(x:Str)(n:Int)(t u:Tok):Obj:={cls:=.type "tuple",data:=.seq #[.str x t,.int n u]}
abbrev fE(h:J3)(as:List hU)(ps:List Ak):Prop:=as.length=ps.length/\∀(j:Nat) (a:hU),as[j]?=bD a->∃p t u,ps[j]?=bD p/\h.get? a=bD (E7 p.1 p.2 t u)
def fE.keeps(x:fE h as ps)(k:∀b o,b∈as->h.get? b=bD o->h'.get? b=bD o):fE h' as ps :=
 ⟨x.1,λj a e=>let ⟨p,t,u,c,d⟩:=x.2 j a e;⟨p,t,u,c,k a _ (oT e) d⟩⟩
def fE.tail(x:fE h (a::as) (p::ps)):fE h as ps :=
 ⟨by have:=x.1;simpa using this,λj b e=>by
  have⟨q,t,u,c,d⟩:=x.2 (j+1) b (by simpa using e);show⟨q,t,u,by simpa using c,d⟩⟩
theorem fE.jU:∀{as:List hU}{ps:List Ak},fE h as ps->∃b:List et,KatTups h (as.map mu) b/\b.length=as.length/\∀v∈b,∃x t,v=u4 x t
 |[],_,_=>⟨[],KatTups.nil,rfl,by simp⟩
 |a::as,[],x=>by have:=x.1;simp at this
 |a::as,p::ps,x=>by
  have⟨b,c,d,e⟩:=fE.jU x.tail;have⟨q,t,u,g,f⟩:=x.2 0 a rfl;show⟨.str q.1 t::b,KatTups.cons f rfl rfl rfl c,by simp[d],λv hv=>?_⟩;rcases gc.mp hv with rfl|hv
  .show⟨_,_,rfl⟩
  .show e v hv
theorem m7:∀{l:List α}{m:List β}{i:Nat}{x:α},Paired F l m->l[i]?=bD x->∃y,m[i]?=bD y/\F x y
 |_,_,_,_,.nil,e=>by simp at e
 |_,_,0,_,.cons r _,e=>by simp at e;subst e;show⟨_,rfl,r⟩
 |_,_,i+1,x,.cons _ t,e=>by
  have⟨u,a,b⟩:=m7 (i:=i) (x:=x) t (by simpa using e);show⟨u,by simpa using a,b⟩
section
def Dl(x:fE s.heap as ps)(g:(ps.map (·.1)).Nodup)(e:i<as.length)(f:j<as.length)(q:C (Ma (ps.map (·.1)) i j) s):
  Z' prog w A (tuples' b6) (as.map mu) i j C s:=by
 have⟨p,t,u,d,k⟩:=x.2 i as[i] (by simp[e]);have⟨a,t',u',c,l⟩:=x.2 j as[j] (by simp[f]);have hl:=x.1;have m:i<ps.length:=by lia
 have n:j<ps.length:=by lia
 have o:(as.map mu).getD i ro=.ref as[i]:=by simp[NF,e]
 have r:(as.map mu).getD j ro=.ref as[j]:=by simp[NF,f]
 have v:(ps.map (·.1)).getD i uk=p.1:=by simp[NF,d]
 have y:(ps.map (·.1)).getD j uk=a.1:=by simp[NF,c]
 unfold Z';rw[o,r];show kat_lt (b:=b6) k rfl l rfl ?_;unfold Ma at q;rw[v,y]at q;change KatLex prog w A b6 (df (2<2)) C [(.str p.1 t,.str a.1 t'),(.int p.2 u,.int a.2 u')] 0 s;show kat_cons (Í ?_);by_cases h:p.1=a.1
 .have z:i=j:=by
   have B:(ps.map (·.1))[i]'(by simpa using m)=(ps.map (·.1))[j]'(by simpa using n):=by
    obtain⟨_,D⟩:=eh.mp d;obtain⟨_,G⟩:=eh.mp c;simp[D,G,h]
   show(Zn g).mp B
  subst z;rw[d]at c;cases c;rw[ú rfl];show kat_yes (kat_cons (Î ?_));rw[show(p.2==p.2)=b6 by simp];show kat_yes (kat_nil ?_);have:df (p.1.cps.toList<p.1.cps.toList)=cK:=ù (List.lt_irrefl _);rw[this]at q;show q
 .rw[ù h];show kat_no (oneLt_str q)
def Dm(x:fE s.heap as ps)(c:(ps.map (·.1)).Nodup)(g:2<=as.length):
  ez (hW prog w) A (keyKind' (as.map mu).toArray) (λκ s'=>s'=s/\∀i j,i<(as.map mu).length->j<(as.map mu).length->∀C:Bool->hH->Prop,C (Ma (ps.map (·.1)) i j) s->Z' prog w A κ (as.map mu) i j C s) (λ_ _=>False) s:=by
 have⟨h,d,k,e⟩:=x.jU;show kat_kind (T:=.type "str") d ⋯ (λv f=>?_) rfl ⟨rfl,λi j a b C q=>?_⟩
 .have⟨y,t,rfl⟩:=e v f;show Looks.of_pure rfl
 .rw[dt]at a b;show Dl x c a b q
end
abbrev jV(H:Hp):List (hU×List V)->Hp
 |[]=>H
 |(a,vs)::r=>upd (jV H r) a (.tup vs)
theorem kZ:∀{l:List (hU×List V)}{b:hU}{o:HO},jV H l b=bD o->(∃vs,(b,vs)∈l/\o=.tup vs)\/H b=bD o
 |[],b,o,h=>.inr h
 |(a,vs)::r,b,o,h=>by
  by_cases c:b=a
  .subst c;rw[jV,aA]at h;cases h;show .inl ⟨vs,by simp,rfl⟩
  .rw[jV,ao c]at h;rcases kZ h with⟨ws,d,e⟩|q
   .show .inl ⟨ws,by simp[d],e⟩
   .show .inr q
theorem k9:∀{l:List (hU×List V)}{b:hU},(∀p∈l,p.1≠b)->jV H l b=H b
 |[],b,_=>rfl
 |(a,vs)::r,b,h=>by
  rw[jV,ao (tj (h _ nH))];show k9 λp c=>h p (by simp[c])
theorem tQ:∀{l:List (hU×List V)}{b:hU}{vs:List V},(l.map (·.1)).Nodup->(b,vs)∈l->jV H l b=bD (.tup vs)
 |(a,ws)::r,b,vs,d,h=>by
  have c:a∉r.map (·.1)/\(r.map (·.1)).Nodup:=by simpa using d
  rcases gc.mp h with h|h
  .cases h;show aA
  .have:b≠a:=λz=>c.1 (by rw[<-z];show ke.mpr ⟨_,h,rfl⟩);rw[jV,ao this];show tQ c.2 h
section
def Inv.many(I:Inv X a σ H s)(k:∀b u,s.heap.get? b=bD u->h'.get? b=bD u)(d:∀b o,H b=bD o->H' b=bD o)
  (f:∀b o,H' b=bD o->H b=bD o\/(s.heap.objs.size<=b/\bI X.prog X.w H' h' b o)):Inv X a σ H' {s with heap:=h',toks:=t' }:=by
 show I.un ⟨λb u q _ _ _=>k b u q,λb u q _ _ _=>⟨u.slots,k b u q⟩,λb u q n _=>?_,λb u q _=>⟨u,k b u q⟩,λb xs q=>d b _ q,λb u xs q=>d b _ q,λb ps q=>⟨#[],by rw[d b _ q];simp⟩⟩ λb o e=>?_
 .cases e:H' b with
  |none=>rfl
  |some o =>
   rcases f b o e with z|⟨z,_⟩
   .rw[n]at z;cases z
   .show absurd (kr (eH q) z) (ve _)
 .rcases f b o e with z|⟨_,z⟩
  .show(I.Hi b o z).gW (λc v _ q=>k c v q) (λc q=>d c _ q) λc xs q=>d c _ q
  .show z
abbrev Lq(p:Ak):List V:=[.str p.1,.int p.2]
def oN{ps:List Ak}(hc:X.calm=b6)(I:Inv X g σ H s)(e:H d=bD (.dK (ps.map λp=>((nc p.1:Key),V.int p.2))))(HE:(ps.map (·.1)).Nodup)(JQ:ps.length<64)
  (q:∀(as:List hU) (L:hU),as.length=ps.length->as.Nodup->(∀a∈L::as,H a=cb)->L∉as->Q (.ref L) (upd (jV H (as.zip (ps.map Lq))) L (.lst ((jT (ps.map (·.1))).map λi=>V.ref (as.getD i 0))))) :
  ez (hW X.prog X.w) X.A (N0 (.builtin "dict.items") [.ref d]) (λv s1=>ez (hW X.prog X.w) X.A (N0 (.builtin "sorted") [v]) (EP X g σ Q) X.xe s1) X.xe s:=by
 have ab:(64:Nat)<=dV:=by decide
 have⟨hz,lo,vs,kv,dd⟩:=wK I.Hi e;have C:vs.length=ps.length:=by
  have:=Paired.length kv;simpa using this.symm
 have⟨o,es,ep,r⟩:=id dd;show V5 PySem.F.slot_dict_items (show s.TypeIs (.ref d) "dict" from⟨o,r.1,r.2.1.1⟩) PySem.F.entry_dict_items (PySem.F.args_dict_items_1 _) (Ó (aS X.prog X.w) d lo) ⟨⟨vs,dd⟩,?_⟩;change ez (hW X.prog X.w) X.A (N0 (.builtin "sorted") [.ref s.heap.objs.size]) (EP X g σ Q) X.xe {s with heap:=s.heap.push {cls:=.type "dict_items",data:=.fields #[.ref d]}};have k1:∀b u,s.heap.get? b=bD u->(s.heap.push {cls:=.type "dict_items",data:=.fields #[.ref d]}).get? b=bD u:=λb u z=>cc _ z;have YB:(s.heap.push {cls:=.type "dict_items",data:=.fields #[.ref d]}).DictOf (aS X.prog X.w) d vs:=⟨o,es,ep,k1 _ _ r.1,r.2⟩
 have Jz:(s.heap.push {cls:=.type "dict_items",data:=.fields #[.ref d]}).DictAt (aS X.prog X.w) d vs ep:=⟨o,es,k1 _ _ r.1,r.2⟩
 show Wn kind_sorted plain_sorted entry_sorted (args_sorted1 _) ?_;unfold M5.«sorted»;show b5 (m:=checkCount "sorted" 1 1 _) (d3 ?_);show b5 (kdx_collect (A:=X.A.in1) (knd:=aS X.prog X.w) (kvs:=vs) (ep:=ep) (I.ok.hd hc) ⟨_,gj _ rfl,rfl,rfl⟩ Jz ⋯ λc tk as hk hl D=>?_);have G:as.length=ps.length:=hl.trans C;have f:∀a∈as,s.heap.objs.size<=a:=λa ha=>by
  have:=D.above a ha;have z:(s.heap.push {cls:=.type "dict_items",data:=.fields #[.ref d]}).objs.size=s.heap.objs.size+1:=KW ..;have UG:(s.heap.push {cls:=.type "dict_items",data:=.fields #[.ref d]}).objs.size<a:=this;lia
 have pa:fE c as ps:=⟨G,λj a ea=>by
  have⟨N,k,x,O,T,e3⟩:=D.pairs j a ea;have B:j<ps.length:=by rw[<-G];show(eh.mp ea).1
  have⟨y,ey,r1,r2⟩:=m7 kv (i:=j) (x:=((nc ps[j].1:Key),V.int ps[j].2)) (by simp[B]);rw[O]at ey;cases ey;obtain⟨tx,rfl⟩:∃t,x=.int ps[j].2 t:=r2;have WQ:k=nc ps[j].1:=r1.symm;subst WQ;have⟨t,rfl⟩:=Ye (x:=ps[j].1) (v:=N) T;show⟨ps[j],t,tx,by simp[B],e3⟩⟩
 have nd:as.Nodup:=D.rise.imp λh=>hY h;show b5 (Ys ?_ (by rw[dt];lia));have Y:(c.push (HX "list" (as.map mu).toArray 0)).get? c.objs.size=bD (HX "list" (as.map mu).toArray 0):=gj _ rfl;change ez _ _ _ _ _ {s with heap:=c.push (HX "list" (as.map mu).toArray 0),toks:=tk};have UH:∀a∈as,a<c.objs.size:=λa ha=>D.there ha;show b5 (ux (Hz ñ ⟨_,Y,rfl⟩ ã (vE (lt:=Ma (ps.map (·.1))) Y (by rw[dt];lia) (λh2 s1 ks=>?_) ⟨_,rfl,?_⟩) (ó _)))
 .show Dm (pa.keeps λb o J z=>ks b o (hY (UH b J)) (cc _ z)) HE (by rw[dt]at h2;show h2)
 .have⟨ee,he⟩:=sortedHeap_at (out:=((h_ (Ma (ps.map (·.1))) (Na (as.map mu).length)).toList.map λi=>(as.map mu).getD i ro).toArray) Y;have n:∀b o,c.get? b=bD o->(ZZ (c.push (HX "list" (as.map mu).toArray 0)) c.objs.size (as.map mu) ((h_ (Ma (ps.map (·.1))) (Na (as.map mu).length)).toList.map λi=>(as.map mu).getD i ro).toArray).get? b=bD o:=λb o z=>by
   have HC:b<c.objs.size:=eH z;rw[ð (hY HC) (by rw[KW];show OY HC)];show cc _ z
  have MB:s.heap.objs.size<=c.objs.size:=O3 (eH (hk _ _ (gj _ rfl)));have eP:((h_ (Ma (ps.map (·.1))) (Na (as.map mu).length)).toList)=jT (ps.map (·.1)):=by
   unfold jT;rw[dt,dt,G]
  have NH:H c.objs.size=cb:=I.Hi.fresh MB;have WR:c.objs.size∉as:=λz=>ve _ (UH _ z);have UI:∀a∈as,H a=cb:=λa ha=>I.Hi.fresh (f a ha);have Sl:∀{b:hU} {ws:List V},(b,ws)∈as.zip (ps.map Lq)->b∈as:=λz=>(P8 z).1;show d3 ⟨_,rfl,.ref c.objs.size,upd (jV H (as.zip (ps.map Lq))) c.objs.size (.lst ((jT (ps.map (·.1))).map λi=>V.ref (as.getD i 0))),?_,rfl,q as _ G nd (λa ha=>?_) WR⟩
  .show I.many (λb u z=>n b u (hk b u (k1 b u z))) (λb o z=>?_) λb o z=>?_
   .have n1:b≠c.objs.size:=λy=>by rw[y,NH]at z;cases z
    rw[ao n1,k9 λp hp y=>?_]
    .show z
    .have:=UI p.1 (Sl (b:=p.1) (ws:=p.2) hp);rw[y,z]at this;cases this
   .by_cases J:b=c.objs.size
    .subst J;rw[aA]at z;cases z;show .inr ⟨MB,by rw[dt,(gr _).length_eq,Js,dt];lia,(jT (ps.map (·.1))).map λi=>(as.map mu).getD i ro,ee,?_,?_⟩
     .have JG:∀i∈jT (ps.map (·.1)),i<as.length:=λi hi=>by
       have:=vu.mp ((gr _).mem_iff.mp hi);rw[dt]at this;lia
      generalize jT (ps.map (·.1))=l at JG;induction l with
      |nil=>show .nil
      |cons i l ih =>
       show .cons ?_ (ih λj B=>JG j (by simp[B]));have hi:=JG i (by simp);change RelV (.ref (as.getD i 0)) ((as.map mu).getD i ro);have:(as.map mu).getD i ro=.ref (as.getD i 0):=by simp[NF,hi]
       rw[this];rfl
     .rw[<-eP];show he
    .rw[ao J]at z;rcases kZ z with⟨ws,z1,rfl⟩|z1
     .have⟨j,B,ej⟩:=Yi.mp z1;have Sm:j<as.length:=by simp at B;lia
      have Sk:j<ps.length:=by lia
      have WS:as[j]=b/\Lq ps[j]=ws:=by simpa using ej
      have⟨rfl,rfl⟩:=WS;have⟨p,t,u,O,T⟩:=pa.2 j as[j] (by simp[Sm]);have:p=ps[j]:=by simpa[Sk] using O.symm
      subst this;show .inr ⟨f _ (by simp),by change 2<=dV;lia,[.str ps[j].1 t,.int ps[j].2 u],.cons ⟨t,rfl⟩ (.cons ⟨u,rfl⟩ .nil),_,n _ _ T,rfl,0,rfl⟩
     .show .inl z1
  .rcases gc.mp ha with rfl|ha
   .show NH
   .show UI a ha
end
end L2
namespace TM
open PySem L2
inductive U where
 |Hj|bl (b:Bool)|int (i:Int)|str (x:Str)
 |tup (xs:List U)|lst (xs:List U)
 |Hf (ks:List Str) (vs:List U)
mutual
noncomputable def HG:U->Bool
 |.tup xs=>cG xs
 |.lst _=>cK
 |.Hf _ _=>cK
 |.Hj=>b6|.bl _=>b6|.int _=>b6|.str _=>b6
noncomputable def cG:List U->Bool
 |[]=>b6
 |u::us=>HG u&&cG us
end
inductive Kd where|own|io|loc|any|bor (j:Nat)|G'
deriving DecidableEq
abbrev Kd.root:Kd->Bool
 |.own=>b6
 |.io=>b6
 |_=>cK
@[reducible]def aw:=List (Option (Kd×U))
structure Ct where
 P:Hr
 w:IT
 K:PySem.W.Frag
 H₀:Hp
 J4:hU->Prop
 IO:hU->Prop
abbrev KL(K:PySem.W.Frag)(a:hU)(xs:List V):Prop :=
 ∃(o:Obj) (b:Array et) (n:Nat),K.lookup a=bD o/\o.cls=.type "list"/\o.dict=cb/\o.data=.seq b n/\b.size<=dV/\Vals xs b.toList
abbrev OS(K:PySem.W.Frag)(S:hU->Prop)(H:Hp)(a:hU)(vs:List V):Prop:=(S a/\Rd H a (.lst vs))\/KL K a vs
def OS.sq(h:OS K S H a vs):HM K H a vs:=h.elim (λz=>.inl z.2) .inr
abbrev Mb(H:Hp)(R:List V->Prop)(a:hU)(ks:List Str):Prop:=∃kvs:List (Key×V),H a=bD (.dK kvs)/\kvs.map (·.1)=ks.map nc/\R (kvs.map (·.2))
section
variable(C:Ct)(S:hU->Prop)(H:Hp)
mutual
def Rep:U->V->Prop
 |.Hj,v=>v=.Hj
 |.bl b,v=>v=.bl b
 |.int i,v=>v=.int i
 |.str x,v=>v=.str x
 |.tup us,v=>∃a vs,v=.ref a/\HR C.K H a vs/\ak us vs
 |.lst us,v=>∃a vs,v=.ref a/\OS C.K S H a vs/\ak us vs
 |.Hf ks us,v=>∃a,v=.ref a/\S a/\Mb H (ak us) a ks
def ak:List U->List V->Prop
 |[],vs=>vs=[]
 |u::us,vs=>∃v r,vs=v::r/\Rep u v/\ak us r
end
end
def Tp:HO->Prop
 |.tup _=>True
 |.IV _ (.tup _)=>True
 |_=>False
structure Mv(S:hU->Prop)(H:Hp)(S':hU->Prop)(H':Hp):Prop where
 sub:∀a,S a->S' a
 OT:∀a o,H a=bD o->Tp o->H' a=bD o
 Sn:∀a o,S a->H a=bD o->H' a=bD o
def Mv.WT(m:Mv S H S' H')(h:HR K H a vs):HR K H' a vs:=by
 rcases h with(h|⟨o,h⟩)|h
 .show .inl (.inl (m.OT a _ h trivial))
 .show .inl (.inr ⟨o,m.OT a _ h trivial⟩)
 .show .inr h
def Mv.WU(m:Mv S H S' H')(h:OS K S H a vs):OS K S' H' a vs:=by
 rcases h with⟨s,h|⟨o,h⟩⟩|h
 .show .inl ⟨m.sub a s,.inl (m.Sn a _ s h)⟩
 .show .inl ⟨m.sub a s,.inr ⟨o,m.Sn a _ s h⟩⟩
 .show .inr h
def Mb.mv(b:∀o,H a=bD o->H' a=bD o)(c:∀vs,R vs->d vs)(h:Mb H R a ks):Mb H' d a ks :=
 let ⟨kvs,e,f,g⟩:=h;⟨kvs,b _ e,f,c _ g⟩
section
mutual
theorem Rep.Mc(m:Mv S H S' H'):∀(u:U) (v:V),Rep C S H u v->Rep C S' H' u v
 |.Hj,_,h=>h
 |.bl _,_,h=>h
 |.int _,_,h=>h
 |.str _,_,h=>h
 |.tup us,v,h=>by
  have⟨a,vs,e,b,c⟩:=h;show⟨a,vs,e,m.WT b,ak.Mc m us vs c⟩
 |.lst us,v,h=>by
  have⟨a,vs,e,b,c⟩:=h;show⟨a,vs,e,m.WU b,ak.Mc m us vs c⟩
 |.Hf ks us,v,h=>by
  have⟨a,e,b,c⟩:=h;show⟨a,e,m.sub a b,c.mv (λo q=>m.Sn a o b q) λvs q=>ak.Mc m us vs q⟩
theorem ak.Mc(m:Mv S H S' H'):∀(us:List U) (vs:List V),ak C S H us vs->ak C S' H' us vs
 |[],_,h=>h
 |u::us,vs,h=>by
  have⟨v,r,e,a,b⟩:=h;show⟨v,r,e,Rep.Mc m u v a,ak.Mc m us r b⟩
end
mutual
theorem Rep.vF:∀(u:U) (v:V),HG u=b6->Rep C S H u v->Rep C S' H u v
 |.Hj,_,_,h=>h
 |.bl _,_,_,h=>h
 |.int _,_,_,h=>h
 |.str _,_,_,h=>h
 |.tup us,v,i,h=>by
  have⟨a,vs,e,b,c⟩:=h;show⟨a,vs,e,b,ak.vF us vs (by simpa[TM.HG] using i) c⟩
 |.lst us,v,i,h=>by simp[TM.HG]at i
 |.Hf ks us,v,i,h=>by simp[TM.HG]at i
theorem ak.vF:∀(us:List U) (vs:List V),cG us=b6->ak C S H us vs->ak C S' H us vs
 |[],_,_,h=>h
 |u::us,vs,i,h=>by
  have⟨v,r,e,b,c⟩:=h;have a:TM.HG u=b6/\cG us=b6:=by simpa[cG] using i
  show⟨v,r,e,Rep.vF u v a.1 b,ak.vF us r a.2 c⟩
end
def Rep.mv(m:Mv S H S' H')(h:Rep C S H u v):Rep C S' H' u v:=Rep.Mc m u v h
def ak.mv(m:Mv S H S' H')(h:ak C S H us vs):ak C S' H' us vs:=ak.Mc m us vs h
def Rep.HG(i:TM.HG u=b6)(h:Rep C S H u v):Rep C S' H u v:=Rep.vF u v i h
def ak.HG(i:cG us=b6)(h:ak C S H us vs):ak C S' H us vs:=ak.vF us vs i h
def Mv.up(sub:∀a,S a->S' a):Mv S H S' H:=⟨sub,λ_ _ h _=>h,λ_ _ _ h=>h⟩
theorem ak.len:∀{us:List U}{vs:List V},ak C S H us vs->us.length=vs.length
 |[],_,h=>by cases h;rfl
 |u::us,vs,h=>by
  obtain⟨v,r,rfl,_,a⟩:=h;rw[k7,k7,ak.len a]
theorem ak.get:∀{us:List U}{vs:List V}{i:Nat}{u:U},ak C S H us vs->us[i]?=bD u->∃v,vs[i]?=bD v/\Rep C S H u v
 |[],_,_,_,_,e=>by simp at e
 |u::us,vs,0,w,h,e=>by
  obtain⟨v,r,rfl,a,_⟩:=h;simp at e;subst e;show⟨v,rfl,a⟩
 |u::us,vs,i+1,w,h,e=>by
  obtain⟨v,r,rfl,_,b⟩:=h;have⟨c,d,h'⟩:=ak.get (i:=i) (u:=w) b (by simpa using e);show⟨c,by simpa using d,h'⟩
theorem ak.append:∀{us ws:List U}{vs a:List V},ak C S H us vs->ak C S H ws a->ak C S H (us++ws) (vs++a)
 |[],_,_,_,h,h'=>by cases h;show h'
 |u::us,ws,vs,a,h,h'=>by
  have⟨v,r,rfl,b,c⟩:=h;show⟨v,r++a,rfl,b,c.append h'⟩
theorem ak.take:∀{us:List U}{vs:List V} (n:Nat),ak C S H us vs->ak C S H (us.take n) (vs.take n)
 |_,_,0,_=>by simp[ak]
 |[],_,n+1,h=>by cases h;simp[ak]
 |u::us,vs,n+1,h=>by
  have⟨v,r,rfl,a,b⟩:=h;show⟨v,r.take n,rfl,a,b.take n⟩
theorem ak.drop:∀{us:List U}{vs:List V} (n:Nat),ak C S H us vs->ak C S H (us.drop n) (vs.drop n)
 |_,_,0,h=>h
 |[],_,n+1,h=>by cases h;simp[ak]
 |u::us,vs,n+1,h=>by
  have⟨v,r,rfl,b,a⟩:=h;show a.drop n
theorem ak.set:∀{us:List U}{vs:List V} (n:Nat) {u:U}{v:V},ak C S H us vs->Rep C S H u v->ak C S H (us.set n u) (vs.set n v)
 |[],_,n,_,_,h,_=>by cases h;simp[ak]
 |u::us,vs,0,_,_,h,h'=>by
  have⟨v,r,rfl,b,a⟩:=h;show⟨_,r,rfl,h',a⟩
 |u::us,vs,n+1,_,_,h,h'=>by
  have⟨v,r,rfl,b,a⟩:=h;show⟨v,_,rfl,b,a.set n h'⟩
def ak.snoc(h:ak C S H us vs)(h':Rep C S H u v):ak C S H (us++[u]) (vs++[v]):=h.append ⟨v,[],rfl,h',rfl⟩
theorem ak.strs:∀{xs:List Str}{vs:List V},ak C S H (xs.map .str) vs↔vs=xs.map V.str
 |[],vs=>by simp[ak]
 |x::xs,vs=>by
  constructor
  .rintro⟨v,r,rfl,a,b⟩;rw[ak.strs.mp b];have:v=.str x:=a;rw[this];rfl
  .rintro rfl;show⟨_,_,rfl,rfl,ak.strs.mpr rfl⟩
end
structure Ct.Eqv(C C':Ct):Prop where
 P:C.P=C'.P
 w:C.w=C'.w
 K:C.K=C'.K
section
mutual
theorem Rep.Md(q:C.Eqv d):∀(u:U) (v:V),Rep C S H u v->Rep d S H u v
 |.Hj,_,h=>h
 |.bl _,_,h=>h
 |.int _,_,h=>h
 |.str _,_,h=>h
 |.tup us,v,h=>by
  have⟨a,vs,e,b,c⟩:=h;show⟨a,vs,e,q.K▸b,ak.Md q us vs c⟩
 |.lst us,v,h=>by
  have⟨a,vs,e,b,c⟩:=h;show⟨a,vs,e,q.K▸b,ak.Md q us vs c⟩
 |.Hf ks us,v,h=>by
  have⟨a,e,b,c⟩:=h;show⟨a,e,b,c.mv (λ_ q=>q) λvs z=>ak.Md q us vs z⟩
theorem ak.Md(q:C.Eqv a):∀(us:List U) (vs:List V),ak C S H us vs->ak a S H us vs
 |[],_,h=>h
 |u::us,vs,h=>by
  have⟨v,r,e,b,c⟩:=h;show⟨v,r,e,Rep.Md q u v b,ak.Md q us r c⟩
end
def Rep.cg(q:C.Eqv a)(h:Rep C S H u v):Rep a S H u v:=Rep.Md q u v h
def ak.cg(q:C.Eqv a)(h:ak C S H us vs):ak a S H us vs:=ak.Md q us vs h
end
def cW(C:Ct)(S:hU->Prop)(H:Hp)(r:hU):U->Prop
 |.lst us=>∃vs,H r=bD (.lst vs)/\ak C S H us vs
 |.Hf ks us=>Mb H (ak C S H us) r ks
 |_=>False
def cW.mv(m:Mv S H S' H')(a:∀o,H r=bD o->H' r=bD o)(h:cW C S H r u):cW C S' H' r u:=by
 cases u with
 |lst us=>have⟨vs,b,c⟩:=h;show⟨vs,a _ b,c.mv m⟩
 |Hf ks us=>show Mb.mv a (λvs q=>q.mv m) h
 |_=>show h
def cW.rep(hs:∀a,S a->S' a)(b:S' r)(h:cW C S H r u):Rep C S' H u (.ref r):=by
 cases u with
 |lst us=>have⟨vs,c,d⟩:=h;show⟨r,vs,rfl,.inl ⟨b,.inl c⟩,d.mv (.up hs)⟩
 |Hf ks us=>show⟨r,rfl,b,Mb.mv (λ_ q=>q) (λvs q=>q.mv (.up hs)) h⟩
 |_=>show h.elim
def cW.cg(q:C.Eqv a)(h:cW C S H r u):cW a S H r u:=by
 cases u with
 |lst us=>have⟨vs,b,c⟩:=h;show⟨vs,b,c.cg q⟩
 |Hf ks us=>show Mb.mv (λ_ q=>q) (λvs z=>z.cg q) h
 |_=>show h
def cW.some(h:cW C S H r u):∃o,H r=bD o/\¬Tp o:=by
 cases u with
 |lst us=>obtain⟨vs,a,_⟩:=h;show⟨_,a,λz=>z⟩
 |Hf ks us=>obtain⟨kvs,a,_⟩:=h;show⟨_,a,λz=>z⟩
 |_=>show h.elim
structure Cf where
 S:hU->Prop
 H:Hp
 σ:St
 st:aw
 kid:Nat->List hU
abbrev Cf.R1(c:Cf)(a:hU):Prop:=∃(j:Nat) (k:Kd) (u:U),k.root=b6/\c.st[j]?=bD (bD (k,u))/\c.σ[j]?=bD (bD (.ref a))
abbrev Cf.RD(c:Cf)(j:Nat)(a:hU):Prop:=∃(u:U) (r:hU),c.st[j]?=bD (bD (.G',u))/\c.σ[j]?=bD (bD (.ref r))/\(a=r\/a∈c.kid j)
abbrev Cf.R(c:Cf)(a:hU):Prop:=c.R1 a\/∃j,c.RD j a
abbrev Cf.NI(c:Cf)(a:hU):Prop:=∃j,c.RD j a
abbrev PS(C:Ct)(S:hU->Prop):hU->Prop:=λa=>C.J4 a\/S a
def fR(C:Ct)(S:hU->Prop)(H:Hp):Kd->U->V->Prop
 |.own,u,v=>∃r,v=.ref r/\¬S r/\¬C.J4 r/\C.H₀ r=cb/\cW C S H r u
 |.io,u,v=>∃r,v=.ref r/\¬S r/\¬C.J4 r/\C.IO r/\cW C S H r u
 |.loc,u,v=>Rep C S H u v
 |.any,u,v=>Rep C (PS C S) H u v
 |.bor _,_,_=>False
 |.G',_,v=>∃r,v=.ref r
def dr(C:Ct)(S:hU->Prop)(H:Hp):List U->List hU->Prop
 |[],as=>as=[]
 |u::us,as=>∃a as' b vs,as=a::as'/\u=.lst b/\H a=bD (.lst vs)/\ak C S H b vs/\dr C S H us as'
def cz(C:Ct)(S:hU->Prop)(H:Hp)(r:hU)(as:List hU):U->Prop
 |.Hf ks us=>∃kvs:List (Key×V),H r=bD (.dK kvs)/\kvs.map (·.1)=ks.map nc/\kvs.map (·.2)=as.map V.ref/\(r::as).Nodup/\(∀a∈r::as,¬S a/\¬C.J4 a/\C.H₀ a=cb)/\dr C S H us as
 |_=>False
structure KI(C:Ct)(c:Cf):Prop where
 kd:∀(j:Nat) (u:U) (r:hU),c.st[j]?=bD (bD (.G',u))->c.σ[j]?=bD (bD (.ref r))->cz C c.S c.H r (c.kid j) u
 dj:∀(i j:Nat) (a:hU),c.RD i a->c.RD j a->i=j
 d1:∀(j:Nat) (a:hU),c.RD j a->¬c.R1 a
structure Ok(C:Ct)(c:Cf):Prop where
 same:∀a o,C.H₀ a=bD o->¬C.IO a->c.H a=bD o
 JD:∀a,c.S a->C.H₀ a=cb/\∃o,c.H a=bD o
 par:∀a,C.J4 a->(∃o,C.H₀ a=bD o)/\¬C.IO a
 io:∀a,C.IO a->(∃o,C.H₀ a=bD o)/\∃o,c.H a=bD o
 len:c.st.length=c.σ.length
 sl:∀(i:Nat) (k:Kd) (u:U),c.st[i]?=bD (bD (k,u))->∃v,c.σ[i]?=bD (bD v)/\fR C c.S c.H k u v
 inj:∀(i j:Nat) (k k':Kd) (u u':U) (r:hU),k.root=b6->k'.root=b6->c.st[i]?=bD (bD (k,u))->c.st[j]?=bD (bD (k',u'))->c.σ[i]?=bD (bD (.ref r))->c.σ[j]?=bD (bD (.ref r))->i=j
 dd:KI C c
structure Ns(c c':Cf):Prop where
 keep:∀a o,c.H a=bD o->¬c.R a->c'.H a=bD o
 there:∀a o,c.H a=bD o->∃o',c'.H a=bD o'
 roots:∀a,c'.R a->c.R a\/c.H a=cb
 sub:∀a,c.S a->c'.S a
 new:∀a,c'.S a->c.S a\/c.R a\/c.H a=cb
section
def Ns.refl(c:Cf):Ns c c:=⟨λ_ _ h _=>h,λ_ o h=>⟨o,h⟩,λ_ h=>.inl h,λ_ h=>h,λ_ h=>.inl h⟩
def Ns.none(n:Ns c b)(h:b.H a=.none):c.H a=.none:=by
 cases e:c.H a with
 |none=>rfl
 |some o=>have⟨o',q⟩:=n.there a o e;rw[h]at q;cases q
def Ns.trans(m:Ns c d)(n:Ns d e):Ns c e where
 keep:=λa o h b=>by
  show n.keep a o (m.keep a o h b) λz=>?_;rcases m.roots a z with z|z
  .show b z
  .rw[h]at z;cases z
 there:=λa o h=>let ⟨o',h'⟩:=m.there a o h;n.there a o' h'
 roots:=λa h=>by
  rcases n.roots a h with z|z
  .show m.roots a z
  .show .inr (m.none z)
 sub:=λa h=>n.sub a (m.sub a h)
 new:=λa h=>by
  rcases n.new a h with z|z|z
  .show m.new a z
  .rcases m.roots a z with z|z
   .show .inr (.inl z)
   .show .inr (.inr z)
  .show .inr (.inr (m.none z))
def fR.rt(hk:k.root=b6)(h:fR C S H k u v):∃r,v=.ref r/\¬S r/\¬C.J4 r/\(C.H₀ r=cb\/C.IO r)/\cW C S H r u:=by
 cases k with
 |own=>have⟨r,a,b,c,d,e⟩:=h;show⟨r,a,b,c,.inl d,e⟩
 |io=>have⟨r,a,b,c,d,e⟩:=h;show⟨r,a,b,c,.inr d,e⟩
 |_=>cases hk
theorem dr.mem:∀{us:List U}{as:List hU}{a:hU},dr C S H us as->a∈as->∃vs,H a=bD (.lst vs)
 |[],as,a,h,ha=>by cases h;cases ha
 |u::us,as,a,h,ha=>by
  obtain⟨a',as',d,vs,rfl,_,b,_,c⟩:=h;rcases gc.mp ha with rfl|ha
  .show⟨vs,b⟩
  .show dr.mem c ha
theorem dr.mv(m:Mv S H S' H'):∀{us:List U}{as:List hU},(∀a∈as,∀o,H a=bD o->H' a=bD o)->dr C S H us as->dr C S' H' us as
 |[],as,_,h=>h
 |u::us,as,b,h=>by
  have⟨a,as',c,vs,rfl,e,d,f,g⟩:=h;show⟨a,as',c,vs,rfl,e,b a (by simp) _ d,f.mv m,dr.mv m (λa i=>b a (by simp[i])) g⟩
def cz.fr(h:cz C S H r as u):∀a∈r::as,¬S a/\¬C.J4 a/\C.H₀ a=cb:=by
 cases u<;>first|show h.elim|(obtain⟨kvs,_,_,_,_,b,_⟩:=h;show b)
def cz.there(h:cz C S H r as u):∀a∈r::as,∃o,H a=bD o/\¬Tp o:=by
 cases u<;>first|show h.elim|skip
 obtain⟨kvs,b,_,_,_,_,c⟩:=h;intro a ha;rcases gc.mp ha with rfl|ha
 .show⟨_,b,λz=>z⟩
 .have⟨vs,e⟩:=c.mem ha;show⟨_,e,λz=>z⟩
def cz.mv(m:Mv S H S' H')(c:∀a∈r::as,¬S' a/\∀o,H a=bD o->H' a=bD o)(h:cz C S H r as u):cz C S' H' r as u:=by
 cases u<;>first|show h.elim|skip
 have⟨kvs,d,e,f,g,i,j⟩:=h;show⟨kvs,(c r (by simp)).2 _ d,e,f,g,λa b=>⟨(c a b).1,(i a b).2⟩,j.mv m λa b=>(c a (by simp[b])).2⟩
def KI.of(d:KI C c)(hk:e.kid=c.kid)(p:∀(j:Nat) (u:U),e.st[j]?=bD (bD (.G',u))->c.st[j]?=bD (bD (.G',u))/\e.σ[j]?=c.σ[j]?)(s:∀a,e.R1 a->c.R1 a\/∀j,¬c.RD j a)
  (m:Mv c.S c.H e.S e.H) (t:∀j a,c.RD j a->¬e.S a/\∀o,c.H a=bD o->e.H a=bD o):KI C e:=by
 have b:∀j a,e.RD j a->c.RD j a:=λj a v=>by
  have⟨u,r,k,f,q⟩:=v;have⟨g,l⟩:=p j u k;rw[l]at f;rw[hk]at q;show⟨u,r,g,f,q⟩
 show⟨λj u r k f=>?_,λi j a h n=>d.dj i j a (b i a h) (b j a n),λj a h n=>?_⟩
 .have⟨g,l⟩:=p j u k;rw[l]at f;rw[hk];show cz.mv m (λa w=>t j a ⟨u,r,g,f,gc.mp w⟩) (d.kd j u r g f)
 .rcases s a n with z|z
  .show d.d1 j a (b j a h) z
  .show z j (b j a h)
def KI.hs(d:KI C c)(m:Mv c.S c.H S' H')(b:∀j a,c.RD j a->¬S' a/\∀o,c.H a=bD o->H' a=bD o):KI C {c with H:=H',S:=S' } :=
 d.of rfl (λ_ _ e=>⟨e,rfl⟩) (λ_ z=>.inl z) m b
def Ok.root(f:Ok C c)(h:c.R r):¬c.S r/\¬C.J4 r/\(C.H₀ r=cb\/C.IO r)/\∃o,c.H r=bD o/\¬Tp o:=by
 rcases h with⟨j,k,u,hk,b,d⟩|⟨j,u,g,b,d,a⟩
 .have⟨v,e,hs⟩:=f.sl j _ _ b;have⟨g,ev,a,l,m,n⟩:=hs.rt hk;rw[d]at e;cases e;cases ev;show⟨a,l,m,n.some⟩
 .have i:=f.dd.kd j u g b d;have⟨p,q,s⟩:=cz.fr i r (gc.mpr a);show⟨p,q,.inl s,cz.there i r (gc.mpr a)⟩
def Ok.mv(b:Ok C c)(n:Ns c d):Mv c.S c.H d.S d.H:=⟨n.sub,λa o h t=>n.keep a o h λz=>by
  obtain⟨_,_,_,o',h',e⟩:=b.root z;rw[h]at h';cases h';show e t,λa o s h=>n.keep a o h λz=>(b.root z).1 s⟩
def Ok.Ls(b:Ok C c)(n:Ns c d):Mv (PS C c.S) c.H (PS C d.S) d.H:=⟨λa h=>h.imp id (n.sub a),(b.mv n).OT,λa o s h=>n.keep a o h λz=>by
  rcases s with s|s
  .show(b.root z).2.1 s
  .show(b.root z).1 s⟩
def Ok.jW(a:Ok C c)(h:c.H p=cb):C.H₀ p=cb/\¬c.S p/\¬C.J4 p/\¬C.IO p/\¬c.R p:=by
 have b:¬C.IO p:=λz=>by obtain⟨_,o,q⟩:=a.io p z;rw[h]at q;cases q
 have d:C.H₀ p=cb:=by
  cases e:C.H₀ p with
  |none=>rfl
  |some o=>have:=a.same p o e b;rw[h]at this;cases this
 show⟨d,λz=>?_,λz=>?_,b,λz=>?_⟩
 .obtain⟨_,o,q⟩:=a.JD p z;rw[h]at q;cases q
 .obtain⟨⟨o,q⟩,_⟩:=a.par p z;rw[d]at q;cases q
 .obtain⟨_,_,_,o,q,_⟩:=a.root z;rw[h]at q;cases q
def fR.mv(m:Mv S H S' H')(i:Mv (PS C S) H (PS C S') H')(g:k.root=b6->∀r,v=.ref r->¬S' r/\∀o,H r=bD o->H' r=bD o)(h:fR C S H k u v):fR C S' H' k u v:=by
 cases k with
 |own =>
  have⟨r,e,l,a,b,c⟩:=h;have⟨d,f⟩:=g rfl r e;show⟨r,e,d,a,b,c.mv m f⟩
 |io =>
  have⟨r,e,l,a,b,c⟩:=h;have⟨d,f⟩:=g rfl r e;show⟨r,e,d,a,b,c.mv m f⟩
 |loc=>show Rep.mv m h
 |any=>show Rep.mv i h
 |bor j=>show h.elim
 |G'=>show h
structure Nx(c c':Cf):Prop extends Ns c c' where
 dk:∀a,c'.NI a->c.NI a/\∀o,c.H a=bD o->c'.H a=bD o
instance {c a:Cf}:Coe (Nx c a) (Ns c a):=⟨Nx.toNs⟩
def Nx.refl(c:Cf):Nx c c:=⟨.refl c,λ_ h=>⟨h,λ_ e=>e⟩⟩
def Nx.trans(m:Nx c b)(n:Nx b d):Nx c d:=⟨m.toNs.trans n.toNs,λa h=>⟨(m.dk a (n.dk a h).1).1,λo e=>(n.dk a h).2 o ((m.dk a (n.dk a h).1).2 o e)⟩⟩
def Nx.none(n:Nx c b)(h:b.H a=.none):c.H a=.none:=n.toNs.none h
def Ok.lay(b:Ok C c)(h:c.H p=cb):Ok C {c with H:=upd c.H p o}/\Nx c {c with H:=upd c.H p o}:=by
 have l:∀{a:hU} {o':HO},c.H a=bD o'->a≠p:=λe z=>by subst z;rw[h]at e;cases e
 have d:∀a o',c.H a=bD o'->(upd c.H p o) a=bD o':=λa o' e=>by rw[ao (l e)];show e
 have nx:Nx c {c with H:=upd c.H p o}:=⟨⟨λa o' e _=>d a o' e,λa o' e=>⟨o',d a o' e⟩,λa z=>.inl z,λ_ z=>z,λ_ z=>.inl z⟩,λa h=>⟨h,d a⟩⟩
 show⟨⟨λa o' e z=>d a o' (b.same a o' e z),λa z=>⟨(b.JD a z).1,let ⟨o',q⟩:=(b.JD a z).2;⟨o',d a o' q⟩⟩,b.par,λa z=>⟨(b.io a z).1,let ⟨o',q⟩:=(b.io a z).2;⟨o',d a o' q⟩⟩,b.len,λi k u e=>?_,b.inj,b.dd.hs (b.mv nx.toNs) λj a z=>⟨(b.root (.inr ⟨j,z⟩)).1,λo' e=>d a o' e⟩⟩,nx⟩;have⟨v,m,f⟩:=b.sl i k u e;show⟨v,m,f.mv (b.mv nx.toNs) (b.Ls nx.toNs) λhk r n=>?_⟩;obtain⟨t,g,s,_⟩:=f.rt hk;rw[n]at g;cases g;show⟨s,λo' e=>d r o' e⟩
def Ok.grow(b:Ok C c)(hs:zW c.H H')(g:∀a,S' a->c.S a\/(c.H a=cb/\∃o,H' a=bD o))(s:∀a,c.S a->S' a):Ok C {c with H:=H',S:=S' }/\Nx c {c with H:=H',S:=S' }:=by
 have nx:Nx c {c with H:=H',S:=S' }:=⟨⟨λa o' e _=>hs a o' e,λa o' e=>⟨o',hs a o' e⟩,λa z=>.inl z,s,λa z=>(g a z).imp id λq=>.inr q.1⟩,λa h=>⟨h,hs a⟩⟩
 show⟨⟨λa o' e z=>hs a o' (b.same a o' e z),λa z=>?_,b.par,λa z=>⟨(b.io a z).1,let ⟨o',q⟩:=(b.io a z).2;⟨o',hs a o' q⟩⟩,b.len,λi k u e=>?_,b.inj,b.dd.hs (b.mv nx.toNs) λj a z=>⟨λd=>?_,λo' e=>hs a o' e⟩⟩,nx⟩
 rotate_left 2
 .obtain⟨f,_,_,o,l,_⟩:=b.root (.inr ⟨j,z⟩);rcases g a d with d|⟨d,_⟩
  .show f d
  .rw[l]at d;cases d
 .rcases g a z with q|⟨f,m⟩
  .show⟨(b.JD a q).1,let ⟨o',q⟩:=(b.JD a q).2;⟨o',hs a o' q⟩⟩
  .show⟨(b.jW f).1,m⟩
 .have⟨v,t,n⟩:=b.sl i k u e;show⟨v,t,n.mv (b.mv nx.toNs) (b.Ls nx.toNs) λhk r w=>?_⟩;have⟨x,p,f,m,y,l⟩:=n.rt hk;rw[w]at p;cases p;obtain⟨o,ho,_⟩:=l.some;show⟨λz=>?_,λo' e=>hs r o' e⟩;rcases g r z with z|⟨z,_⟩
  .show f z
  .rw[z]at ho;cases ho
def aM(C:Ct)(c0 c:Cf):Kd->U->V->Prop
 |.own,u,v=>∃r,v=.ref r/\c0.H r=cb/\¬c.S r/\¬c.R r/\cW C c.S c.H r u
 |.loc,u,v=>Rep C c.S c.H u v
 |.any,u,v=>Rep C (PS C c.S) c.H u v
 |.bor j,u,v=>(∃k:Kd,k.root=b6/\c.st[j]?=bD (bD (k,u)))/\c.σ[j]?=bD (bD v)
 |.io,_,_=>False
 |.G',_,_=>False
def fS(C:Ct)(c0 c:Cf):Kd->U->V->Prop
 |.own,u,v=>∃r,v=.ref r/\c0.H r=cb/\¬c.S r/\¬c.R r/\cW C c.S c.H r u
 |.loc,u,v=>Rep C c.S c.H u v
 |.any,u,v=>Rep C (PS C c.S) c.H u v
 |.bor j,u,v=>c.σ[j]?=bD (bD v)
 |.io,_,_=>False
 |.G',_,_=>False
def aM.w(h:aM C c0 c k u v):fS C c0 c k u v:=by
 cases k with
 |bor j=>show h.2
 |_=>show h
def fS.UJ(a:Ok C c)(n:Ns c b)(g:∀j,k=.bor j->b.σ[j]?=c.σ[j]?)(h:fS C c0 c k u v):fS C c0 b k u v:=by
 cases k with
 |own =>
  have⟨r,e,i,l,d,f⟩:=h;obtain⟨o,ho,_⟩:=f.some;show⟨r,e,i,λz=>?_,λz=>?_,f.mv (a.mv n) λo q=>n.keep r o q d⟩
  .rcases n.new r z with z|z|z
   .show l z
   .show d z
   .rw[z]at ho;cases ho
  .rcases n.roots r z with z|z
   .show d z
   .rw[z]at ho;cases ho
 |loc=>show Rep.mv (a.mv n) h
 |any=>show Rep.mv (a.Ls n) h
 |bor j=>change b.σ[j]?=_;rw[g j rfl];show h
 |_=>show h
def fS.on(b:Ok C c)(n:Ns c a)(d:a.σ=c.σ)(h:fS C c0 c k u v):fS C c0 a k u v:=h.UJ b n λj _=>by rw[d]
def fS.from(n:Ns c0 c1)(h:fS C c1 c k u v):fS C c0 c k u v:=by
 cases k with
 |own=>have⟨r,e,a,b⟩:=h;show⟨r,e,n.none a,b⟩
 |_=>show h
def aM.from(n:Ns c0 c1)(h:aM C c1 c k u v):aM C c0 c k u v:=by
 cases k with
 |own=>have⟨r,e,a,b⟩:=h;show⟨r,e,n.none a,b⟩
 |_=>show h
def SK(C:Ct)(c:Cf):Kd->hU->Prop
 |.any=>PS C c.S
 |_=>c.S
abbrev kE:Kd->Kd
 |.any=>.any
 |_=>.loc
def Ok.rootOf(b:Ok C c){j:Nat}(h:∃k:Kd,k.root=b6/\c.st[j]?=bD (bD (k,u)))(e:c.σ[j]?=bD (bD v)):∃r,v=.ref r/\¬c.S r/\¬C.J4 r/\(C.H₀ r=cb\/C.IO r)/\cW C c.S c.H r u:=by
 have⟨k,hk,h⟩:=h;have⟨f,a,d⟩:=b.sl j _ _ h;rw[e]at a;cases a;show d.rt hk
def aM.list(f:Ok C c)(h:aM C c0 c k (.lst us) v):∃a vs,v=.ref a/\HM C.K c.H a vs/\ak C (SK C c k) c.H us vs:=by
 cases k with
 |own=>obtain⟨r,e,_,_,_,vs,b,d⟩:=h;show⟨r,vs,e,HM.of b,d⟩
 |bor j=>obtain⟨r,e,_,_,_,vs,b,d⟩:=f.rootOf h.1 h.2;show⟨r,vs,e,HM.of b,d⟩
 |io=>show h.elim
 |G'=>show h.elim
 |_=>have⟨a,vs,e,b,d⟩:=h;show⟨a,vs,e,b.sq,d⟩
def aM.tuple(b:Ok C c)(h:aM C c0 c k (.tup us) v):∃a vs,v=.ref a/\HR C.K c.H a vs/\ak C (SK C c k) c.H us vs:=by
 cases k with
 |own=>obtain⟨r,e,_,_,_,h⟩:=h;show h.elim
 |bor j=>obtain⟨r,e,_,_,_,h⟩:=b.rootOf h.1 h.2;show h.elim
 |io=>show h.elim
 |G'=>show h.elim
 |_=>have⟨a,vs,e,d,f⟩:=h;show⟨a,vs,e,d,f⟩
def aM.flat(b:Ok C c)(a:HG u=b6)(h:aM C c0 c k u v):Rep C c.S c.H u v:=by
 cases k with
 |own=>obtain⟨r,e,_,_,_,h⟩:=h;cases u<;>simp[HG]at a<;>show h.elim
 |loc=>show h
 |any=>show Rep.HG a h
 |bor j=>obtain⟨r,e,_,_,_,h⟩:=b.rootOf h.1 h.2;cases u<;>simp[HG]at a<;>show h.elim
 |_=>show h.elim
def aM.int(a:Ok C c)(h:aM C c0 c k (.int i) v):v=.int i:=h.flat a rfl
def aM.str(a:Ok C c)(h:aM C c0 c k (.str x) v):v=.str x:=h.flat a rfl
def aM.bl(a:Ok C c)(h:aM C c0 c k (.bl b) v):v=.bl b:=h.flat a rfl
def aM.Hj(a:Ok C c)(h:aM C c0 c k .Hj v):v=.Hj:=h.flat a rfl
def aM.item(h:Rep C (SK C c k) c.H u v):aM C c0 c (kE k) u v:=by
 cases k<;>show h
abbrev JT(H:Hp):hU->Prop:=λa=>∃o,H a=bD o
def Ok.xu(b:Ok C c):∀a,c.S a->JT c.H a:=λa h=>(b.JD a h).2
def Ok.E8(b:Ok C c):∀a,PS C c.S a->JT c.H a:=λa h=>by
 rcases h with h|h
 .obtain⟨⟨o,e⟩,n⟩:=b.par a h;show⟨o,b.same a o e n⟩
 .show b.xu a h
def aM.read(a:Ok C c)(h:aM C c0 c k u v):Rep C (JT c.H) c.H u v:=by
 cases k with
 |own =>
  obtain⟨r,e,_,_,_,b⟩:=h;rw[e];obtain⟨o,ho,_⟩:=b.some;show b.rep a.xu ⟨o,ho⟩
 |loc=>show Rep.mv (.up a.xu) h
 |any=>show Rep.mv (.up a.E8) h
 |bor j =>
  obtain⟨r,e,_,_,_,b⟩:=a.rootOf h.1 h.2;rw[e];obtain⟨o,ho,_⟩:=b.some;show b.rep a.xu ⟨o,ho⟩
 |_=>show h.elim
def Ok.newList(a:Ok C c)(n:Nx c0 c)(h:c.H p=cb)(d:ak C c.S c.H us vs):
  Ok C {c with H:=upd c.H p (.lst vs)}/\Nx c0 {c with H:=upd c.H p (.lst vs)}/\aM C c0 {c with H:=upd c.H p (.lst vs)} .own (.lst us) (.ref p):=by
 have⟨e,b⟩:=a.lay (o:=.lst vs) h;have⟨i,f,j,k,g⟩:=a.jW h;show⟨e,n.trans b,p,rfl,n.none h,f,g,vs,aA,d.mv (a.mv b.toNs)⟩
def Ok.Dn(a:Ok C c)(n:Nx c0 c)(h:c.H p=cb)(d:ak C c.S c.H us vs):
  Ok C {c with H:=upd c.H p (.tup vs)}/\Nx c0 {c with H:=upd c.H p (.tup vs)}/\aM C c0 {c with H:=upd c.H p (.tup vs)} .loc (.tup us) (.ref p):=by
 have⟨e,b⟩:=a.lay (o:=.tup vs) h;show⟨e,n.trans b,p,vs,rfl,HR.of aA,d.mv (a.mv b.toNs)⟩
end
inductive Ex(α:Type) where|ok (a:α)|exc (c:Str)
abbrev M(α:Type):=aw->Option (Ex α×aw)
namespace M
abbrev pure(a:α):M α:=λst=>bD (.ok a,st)
abbrev fail:M α:=λ_=>cb
abbrev bind(m:M α)(f:α->M β):M β:=λst=>match m st with
 |none=>cb
 |some (.ok a,st')=>f a st'
 |some (.exc c,st')=>bD (.exc c,st')
abbrev HA(o:Option α):M α:=λst=>match o with
 |none=>cb
 |some a=>bD (.ok a,st)
end M
noncomputable instance:Monad M:={pure:=M.pure,bind:=M.bind}
abbrev W{α:Type}(m:M α)(st:aw)(Q:α->aw->Prop):Prop:=∃a st',m st=bD (.ok a,st')/\Q a st'
section
def au:W (pure a) st Q↔Q a st:=by
 constructor
 .rintro⟨b,st',e,h⟩;cases e;show h
 .intro h;show⟨a,st,rfl,h⟩
def ai:W (m >>= f) st Q↔W m st λa st'=>W (f a) st' Q:=by
 constructor
 .rintro⟨b,st',e,h⟩;have d:M.bind m f st=bD (.ok b,st'):=e;unfold M.bind at d;cases q:m st with
  |none=>rw[q]at d;cases d
  |some r =>
   have⟨r,s1⟩:=r;rw[q]at d;cases r with
   |ok a=>show⟨a,s1,q,b,st',d,h⟩
   |exc c=>cases d
 .rintro⟨a,s1,q,b,st',e,h⟩;show⟨b,st',?_,h⟩;change M.bind m f st=_;unfold M.bind;rw[q];show e
def b_:W (M.HA o) st Q↔∃a,o=bD a/\Q a st:=by
 cases o with
 |none=>show⟨λ⟨_,_,e,_⟩=>(by cases e),λ⟨_,e,_⟩=>(by cases e)⟩
 |some a=>show⟨λ⟨_,_,e,h⟩=>(by cases e;show⟨a,rfl,h⟩),λ⟨_,e,h⟩=>(by cases e;show⟨a,st,rfl,h⟩)⟩
def bt:W (M.fail:M α) st Q↔False:=⟨λ⟨_,_,e,_⟩=>(by cases e),Nd⟩
def W.mono(h:W m st Q)(i:∀a s,Q a s->Q' a s):W m st Q':=let ⟨a,s,e,q⟩:=h;⟨a,s,e,i a s q⟩
end
inductive Qd where|add|sub|mul|ML|mod|pow
deriving DecidableEq
inductive OU where|eq|ne|lt|le|gt|ge|isin|Ht|is|MM
deriving DecidableEq
inductive Bf where|len|sorted|list|tuple|str|int|repr|max|min|all|any
deriving DecidableEq
inductive B2 where|K6|Jv|sset|mj
deriving DecidableEq
inductive Mf where|split|join|partition|endswith
deriving DecidableEq
inductive JH where|str|list|tuple|int|bool
deriving DecidableEq
inductive Ik where|seq|IX|WV|LK|zip|rev
deriving DecidableEq
inductive E where
 |var (i:Nat)
 |cst (u:U)
 |MN (x:Str) (u:U)
 |bin (op:Qd) (a b:E)
 |cmp (op:OU) (a b:E)
 |K7 (o1 o2:OU) (a b c:E)
 |and (es:List E)|or (es:List E)|not (a:E)
 |ite (c a b:E)
 |tup (es:List E)|lst (es:List E)|Ji (r:Bool)
 |idx (a b:E)
 |KN (a:E) (lo hi:List E)
 |bi (f:Bf) (es:List E)
 |Kw (f:B2) (es:List E)
 |Mg (m:Mf) (a:E) (es:List E)
 |call (f:Str) (es:List E)
 |comp (k:Nat) (t:Bool) (ik:Ik) (src:List E) (cond:List E) (e:E)
 |neg (a:E)|bad|Jc (a:E) (T:JH)|fst (es:List E)|inD (neg:Bool) (a:E) (i:Nat)|NJ (i:Nat)|J5 (i:Nat) (k d:E)|NK (i:Nat)|LL (ln:Bool) (a b:E)
 |Hg (f:Str) (es:List E) (is:List Nat)
 |pop (i:Nat)|LM (i:Nat) (e:E)
inductive S where
 |set (i:Nat) (e:E)
 |J6 (is:List Nat) (e:E)
 |put (i:Nat) (k v:E)
 |app (i:Nat) (e:E)|ext (i:Nat) (e:E)|bad|newD (i:Nat)|putD (i:Nat) (k v:E)|Jj (i:Nat) (k v:E)|aug (sub:Bool) (i:Nat) (k v:E)|Qe (i:Nat)
 |exp (e:E)
 |ret (e:E)|Kx
 |J7 (i:Nat) (e:E)
 |ite (c:E) (a b:List S)
 |Hy (t:Bool) (is:List Nat) (ik:Ik) (src:List E) (body:List S)
 |Lu (c:E) (body:List S)
 |brk|cnt|Qf
 |KO (is:List Nat)
 |inc (i:Nat) (n:Int)
abbrev isAny:Kd->Bool
 |.any=>b6
 |_=>cK
abbrev fk(k:Kd)(xs:List U):Bool:=!isAny k||cG xs
abbrev kT(k k':Kd):Kd:=if isAny k||isAny k' then .any else .loc
abbrev cut{α:Type}(xs:List α)(lo a:Option Int):List α:=(xs.drop (HT.Jg xs.length 0 lo)).take (HT.Jg xs.length xs.length a - HT.Jg xs.length 0 lo)
abbrev xv:Kd×U->Kd×U->Option (Kd×U)
 |(_,.int i),(_,.int j)=>bD (.loc,.int (i+j))
 |(_,.str x),(_,.str y)=>if x.length+y.length<=dV then bD (.loc,.str (x++y)) else cb
 |(k,.lst xs),(k',.lst a)=>if xs.length+a.length<=dV/\fk k xs=b6/\fk k' a=b6 then bD (.own,.lst (xs++a)) else cb
 |(k,.tup xs),(k',.tup a)=>if xs.length+a.length<=dV then bD (kT k k',.tup (xs++a)) else cb
 |_,_=>cb
abbrev rN(f:Int->Int->Option Int):U->U->Option (Kd×U)
 |.int i,.int j=>(f i j).map λn=>(.loc,.int n)
 |_,_=>cb
abbrev Al(i j:Int):Option Int:=if ((-(2 ^ 64)<i/\i<2 ^ 64)\/(-(2 ^ 64)<j/\j<2 ^ 64)) then bD (i * j) else cb
abbrev Am(i j:Int):Option Int:=if 0<j/\j<1073741824 then bD (i / j) else cb
abbrev An(i j:Int):Option Int:=if 0<j then bD (i % j) else cb
abbrev Ao(i j:Int):Option Int:=if 0<=j/\j<=1000000/\i.natAbs<2 ^ 64 then bD (i ^ j.toNat) else cb
abbrev JI(a:Qd)(x y:Kd×U):Option (Kd×U):=match a with
 |.add=>xv x y
 |.sub=>rN (λi j=>bD (i - j)) x.2 y.2
 |.mul=>rN Al x.2 y.2
 |.ML=>rN Am x.2 y.2
 |.mod=>rN An x.2 y.2
 |.pow=>rN Ao x.2 y.2
mutual
noncomputable def IY:Nat->U->Bool
 |_,.Hf _ _=>cK
 |0,.tup _=>cK
 |0,.lst _=>cK
 |n+1,.tup xs=>du n xs
 |n+1,.lst xs=>du n xs
 |_,.Hj=>b6|_,.bl _=>b6|_,.int _=>b6|_,.str _=>b6
noncomputable def du:Nat->List U->Bool
 |_,[]=>b6
 |n,u::us=>IY n u&&du n us
end
mutual
noncomputable def cC:U->U->Bool
 |.Hj,.Hj=>b6
 |.bl a,.bl b=>a==b
 |.bl a,.int b=>(if a then 1 else 0)==b
 |.int a,.bl b=>a==(if b then 1 else 0)
 |.int a,.int b=>a==b
 |.str a,.str b=>a==b
 |.tup xs,.tup c=>cO xs c
 |.lst xs,.lst c=>cO xs c
 |_,_=>cK
noncomputable def cO:List U->List U->Bool
 |[],[]=>b6
 |u::us,w::ws=>cC u w&&cO us ws
 |_,_=>cK
end
abbrev MO(x:U)(a:List U):Option Bool:=if IY 50 x=b6/\du 50 a=b6 then bD (a.any λy=>cC y x) else cb
abbrev strsOf:List U->Option (List Str)
 |[]=>bD []
 |.str x::us=>(strsOf us).map (x::·)
 |_::_=>cb
abbrev Ap:U->U->Option Bool
 |x,.lst a=>MO x a
 |x,.tup a=>MO x a
 |.str x,.Hf ks _=>bD (df (x∈ks))
 |_,_=>cb
abbrev dI:List Str->List U->Str->Option U
 |y::ks,u::us,x=>if y=x then bD u else dI ks us x
 |_,_,_=>cb
abbrev dput(ks:List Str)(us:List U)(x:Str)(u:U):List Str×List U :=
 if x∈ks then(ks,(ks.zip us).map λp=>if p.1=x then u else p.2) else(ks++[x],us++[u])
abbrev m8:U->Bool
 |.Hj=>b6
 |_=>cK
abbrev bO:OU->U->U->Option Bool
 |.eq,a,b=>if IY 50 a=b6/\IY 50 b=b6 then bD (cC a b) else cb
 |.ne,a,b=>if IY 50 a=b6/\IY 50 b=b6 then bD (!cC a b) else cb
 |.lt,.int i,.int j=>bD (df (i<j))
 |.gt,.int i,.int j=>bD (df (j<i))
 |.ge,.int i,.int j=>bD (df (j<=i))
 |.isin,x,y=>Ap x y
 |.Ht,x,y=>(Ap x y).map (!·)
 |.is,x,.Hj=>bD (m8 x)
 |.MM,x,.Hj=>bD (!m8 x)
 |.is,.bl x,.bl y=>bD (x==y)
 |.MM,.bl x,.bl y=>bD (!(x==y))
 |_,_,_=>cb
abbrev k_:List U->Option (List Bool)
 |[]=>bD []
 |.bl x::us=>(k_ us).map (x::·)
 |_::_=>cb
abbrev gF:Kd×U->U->Option (Kd×U)
 |(k,.lst xs),.int i=>(Ij xs i).map λu=>(kE k,u)
 |(k,.tup xs),.int i=>(Ij xs i).map λu=>(kE k,u)
 |(_,.str x),.int i=>if x.length<=dV then(Ij x.cps.toList i).map λc=>(.loc,.str ⟨#[c]⟩) else cb
 |_,_=>cb
abbrev la:Kd×U->Option Int->Option Int->Option (Kd×U)
 |(k,.lst xs),lo,a=>if fk k xs=b6 then bD (.own,.lst (cut xs lo a)) else cb
 |(_,.str x),lo,a=>if x.length<=dV then bD (.loc,.str (PySem.StrLaws.sliceText x lo a)) else cb
 |_,_,_=>cb
abbrev Dp:U->Option Nat
 |.lst xs=>bD xs.length
 |.tup xs=>bD xs.length
 |.str x=>if x.length<=dV then bD x.length else cb
 |_=>cb
abbrev ji{β:Type}(f:Kd×U->Option β):List (Kd×U)->Option β
 |[x]=>f x
 |_=>cb
abbrev intsOf:List U->Option (List Int)
 |[]=>bD []
 |.int x::us=>(intsOf us).map (x::·)
 |_::_=>cb
abbrev Dq:Kd×U->Option (Kd×U)
 |(_,.lst xs)=>(strsOf xs).bind λss=>if ss.length<64 then bD (.own,.lst ((aL ss).map .str)) else cb
 |(_,.Hf ks _)=>if ks.length<64 then bD (.own,.lst ((aL ks).map .str)) else cb
 |(_,.tup xs)=>(strsOf xs).bind λss=>if ss.length<64 then bD (.own,.lst ((aL ss).map .str)) else cb
 |_=>cb
abbrev Dr:Kd×U->Option (Kd×U)
 |(k,.lst xs)=>bD (kE k,.tup xs)
 |(k,.tup xs)=>bD (kE k,.tup xs)
 |_=>cb
abbrev Aq:Kd×U->Option (Kd×U)
 |(_,.int i)=>if i.natAbs.log2<1920 then bD (.loc,.str (R_ i)) else cb
 |_=>cb
abbrev Ds:Kd×U->Option (Kd×U)
 |(_,.lst xs)=>(k_ xs).map λa=>(.loc,.bl (a.all id))
 |_=>cb
abbrev Jw(f:Bf)(rs:List (Kd×U)):Option (Kd×U):=match f with
 |.len=>ji (λx=>(Dp x.2).map λ(n:Nat)=>(Kd.loc,U.int (n:Int))) rs
 |.sorted=>ji Dq rs
 |.tuple=>ji Dr rs
 |.str=>ji Aq rs
 |.all=>ji Ds rs
 |_=>cb
abbrev ia:U->Option (List Str)
 |.lst xs=>(strsOf xs).bind λss=>if ss.length+1<Ja then bD (aD ss) else cb
 |.tup xs=>(strsOf xs).bind λss=>if ss.length+1<Ja then bD (aD ss) else cb
 |_=>cb
abbrev Dt:Kd×U->Option (Kd×U)
 |(k,.lst xs)=>if fk k xs=b6 then bD (.own,.lst xs.reverse) else cb
 |_=>cb
abbrev rO(f:B2)(rs:List (Kd×U)):Option (Kd×U):=match f with
 |.K6=>cb
 |.Jv=>ji Dt rs
 |.sset=>ji (λx=>(ia x.2).bind λss=>if ss.length<64 then bD (.own,.lst ((aL ss).map .str)) else cb) rs
 |.mj=>cb
abbrev mC:Mf->U->List (Kd×U)->Option (Kd×U)
 |.join,.str a,[(_,.lst xs)]=>(strsOf xs).bind λss=>if ZX a ss=b6 then bD (.loc,.str (SR a ss)) else cb
 |_,_,_=>cb
abbrev GY:Kd×U->Option (List (Kd×U))
 |(k,.lst xs)=>bD (xs.map λu=>(kE k,u))
 |(k,.tup xs)=>bD (xs.map λu=>(kE k,u))
 |_=>cb
abbrev xw:Kd×U->Option (List (Kd×U))
 |(_,.int n)=>if n<2 ^ 62/\-(2 ^ 62)<n then bD ((ix n.toNat).map λi:Nat=>(Kd.loc,U.int (0+(i:Int)))) else cb
 |_=>cb
abbrev Du:Kd×U->Option (List (Kd×U))
 |(k,.lst xs)=>bD (xs.zipIdx.map λp=>(kE k,.tup [.int p.2,p.1]))
 |(k,.tup xs)=>bD (xs.zipIdx.map λp=>(kE k,.tup [.int p.2,p.1]))
 |_=>cb
abbrev Dv:List (Kd×U)->Option (List (Kd×U))
 |[(k,.lst xs),(k',.tup a)]=>bD ((xs.zip a).map λp=>(kT k k',.tup [p.1,p.2]))
 |_=>cb
abbrev oO(d:List Str×List U):List (Kd×U):=(d.1.zip d.2).map λp=>(Kd.loc,U.tup [.str p.1,p.2])
abbrev Jk(ik:Ik)(rs:List (Kd×U)):Option (List (Kd×U)):=match ik with
 |.seq=>ji GY rs
 |.IX=>ji xw rs
 |.LK=>ji Du rs
 |.zip=>Dv rs
 |_=>cb
abbrev Ar(ps:List (Str×Int)):List (Str×Int):=(jT (ps.map (·.1))).map λi=>ps.getD i (uk,0)
abbrev vG(p:Str×Int):U:=.tup [.str p.1,.int p.2]
abbrev xx:U->Option (Kd×U)
 |.Hf ks us=>(intsOf us).bind λns=>if ks.length<64/\ks.Nodup/\ks.length=ns.length then bD (.own,.lst ((Ar (ks.zip ns)).map vG)) else cb
 |_=>cb
abbrev qd(ln:Bool)(a b:List Str):Option (Kd×U):=if a.length<64/\b.length<64 then bD (if ln=b6 then(.loc,.int ((a.filter λx=>df (x∉b)).length:Nat)) else(.own,.lst ((aL (a.filter λx=>df (x∉b))).map .str))) else cb
abbrev rP:U->Option Bool
 |.bl b=>bD b
 |.lst xs=>bD !xs.isEmpty
 |.tup xs=>bD !xs.isEmpty
 |.str x=>if x.length<=dV then bD ((x.length:Int) != 0) else cb
 |_=>cb
abbrev lift:Kd×U->M U
 |(.own,u)=>pure u
 |(.loc,u)=>pure u
 |(.any,u)=>if HG u=b6 then pure u else M.fail
 |(.bor j,_)=>λst=>match st[j]? with
  |some (bD (.own,u))=>bD (.ok u,st.set j (bD (.loc,u)))
  |_=>cb
 |(.io,_)=>M.fail
 |(.G',_)=>M.fail
abbrev dv:List (Kd×U)->M (List U)
 |[]=>pure []
 |r::rs=>do let u <-lift r;let us <-dv rs;pure (u::us)
abbrev eQ(i:Nat):Kd×U->M Unit
 |(.bor j,_)=>λst=>match st[j]? with
  |some (bD (.own,u))=>bD (.ok (),(st.set j (bD (.loc,u))).set i (bD (.loc,u)))
  |_=>cb
 |(.io,_)=>M.fail
 |(.G',_)=>M.fail
 |(k,u)=>λst=>bD (.ok (),st.set i (bD (k,u)))
def bc:List (Kd×U)->aw->Prop
 |[],_=>True
 |(.bor j,u)::rs,st=>(∃k:Kd,k.root=b6/\st[j]?=bD (bD (k,u)))/\bc rs st
 |_::rs,st=>bc rs st
open Classical in
abbrev aJ(rs:List (Kd×U)):M Unit:=λst=>if bc rs st then bD (.ok (),st) else cb
@[reducible]def Tab:=Str->List U->Option (Ex (Kd×U))
abbrev lb(Γ:Tab)(f:Str)(us:List U):M (Kd×U):=λst=>match Γ f us with
 |some (.ok (.any,_))=>cb
 |none=>cb
 |some r=>bD (r,st)
abbrev ib(rs:List (Kd×U))(p:Nat):Option Nat:=match rs[p]? with
 |some (.bor j,.lst us)=>if cG us=b6 then bD j else cb
 |_=>cb
abbrev qe(a:List (Option Nat)):Kd×U->Bool
 |(.bor j,_)=>df (bD j∉a)
 |_=>b6
abbrev qf(rs:List (Kd×U))(is:List Nat):Bool:=is.all (λp=>(ib rs p).isSome)&&df ((is.map (ib rs)).Nodup)&&(ix rs.length).all λq=>df (q∈is)||qe (is.map (ib rs)) (rs.getD q (.loc,.Hj))
abbrev gP(rs:List (Kd×U)):List Nat->List U->aw->Option aw
 |[],[],st=>bD st
 |p::is,w::ws,st=>match ib rs p with
  |some j=>match w,st[j]? with
   |.lst us,bD (bD (k,_))=>gP rs is ws (st.set j (bD (k,.lst us)))
   |_,_=>cb
  |none=>cb
 |_,_,_=>cb
abbrev So:Kd×U->Option (Kd×U×List U)
 |(.own,.tup (u::ws))=>bD (.own,u,ws)
 |(.loc,.tup (u::ws))=>bD (.loc,u,ws)
 |_=>cb
abbrev d7(st:aw):Kd×U->Kd×U
 |(.bor j,u)=>(.bor j,match st[j]? with|some (bD (k,u'))=>if k.root=b6 then u' else u|_=>u)
 |r=>r
abbrev As(rs:List (Kd×U)):M (List (Kd×U)):=λst=>bD (.ok (rs.map (d7 st)),st)
abbrev qg(Γ:Tab)(f:Str)(rs:List (Kd×U))(is:List Nat):M (Kd×U):=λst=>match Γ f (rs.map (·.2)) with
 |some (.ok r)=>match So r with
  |some (k,u,ws)=>if qf rs is=b6 then(match gP rs is ws st with|some st'=>bD (.ok (k,u),st')|none=>cb) else cb
  |none=>cb
 |_=>cb
abbrev xy(i:Nat):M (Kd×U):=λst=>match st[i]? with
 |some (bD (k,.lst us))=>if k.root=b6 then(match us[us.length - 1]? with|some u=>bD (.ok (.loc,u),st.set i (bD (k,.lst us.dropLast)))|none=>cb) else cb
 |_=>cb
abbrev Au(i:Nat):U->M (Kd×U)
 |.int j=>λst=>match st[i]? with
  |some (bD (k,.lst us))=>if k.root=b6/\0<=j/\j<1000000 then(match us[j.toNat]? with|some u=>bD (.ok (.loc,u),st.set i (bD (k,.lst (us.eraseIdx j.toNat))))|none=>cb) else cb
  |_=>cb
 |_=>M.fail
abbrev c9(i:Nat):M (Kd×U):=λst=>match st[i]? with
 |some (bD (.G',_))=>cb
 |some (bD (k,u))=>bD (.ok (if k.root=b6 then .bor i else k,u),st)
 |_=>cb
abbrev iH(i:Nat):M (List Str×List U):=λst=>match st[i]? with
 |some (bD (.G',.Hf ks us))=>bD (.ok (ks,us),st)
 |_=>cb
abbrev jX(x:Kd×U):M Str:=match x.2 with
 |.str y=>pure y
 |_=>M.fail
abbrev Sr(neg:Bool)(y:Str)(ks:List Str):Bool:=if neg=b6 then !df (y∈ks) else df (y∈ks)
abbrev xA(i:Nat):M (Kd×U):=λst=>match st[i]? with
 |some (bD (.G',u))=>bD (.ok (.bor i,u),st.set i (bD (.own,u)))
 |_=>c9 i st
abbrev qh(i:Nat):M (List Str×List U):=λst=>match st[i]? with
 |some (bD (.G',.Hf ks us))=>bD (.ok (ks,us),st.set i cb)
 |_=>cb
abbrev B0(i:Nat):M Unit:=λst=>bD (.ok (),st.set i (bD (.G',.Hf [] [])))
abbrev lh(i:Nat)(y:Str):Kd×U->M Unit
 |(.own,.lst us)=>λst=>match st[i]? with
  |some (bD (.G',.Hf ks vs))=>if y∉ks/\ks.length<dV then bD (.ok (),st.set i (bD (.G',.Hf (ks++[y]) (vs++[.lst us])))) else cb
  |_=>cb
 |_=>M.fail
abbrev jj:List Str->List U->Str->U->List U
 |k::ks,v::vs,y,u=>if k=y then u::vs else v::jj ks vs y u
 |_,vs,_,_=>vs
abbrev lj(i:Nat)(y:Str)(u:U):M Unit:=λst=>match st[i]? with
 |some (bD (.G',.Hf ks vs))=>match dI ks vs y with
  |some (.lst xs)=>if xs.length<dV then bD (.ok (),st.set i (bD (.G',.Hf ks (jj ks vs y (.lst (xs++[u])))))) else cb
  |_=>cb
 |_=>cb
abbrev Ss:U->M Unit
 |.Hf _ _=>pure ()
 |_=>M.fail
abbrev Av(x:Kd×U)(y:Str)(u:U):Option (Kd×U):=match x with
 |(k,.Hf ks us)=>bD (match dI ks us y with|some v=>(kE k,v)|none=>(.loc,u))
 |_=>cb
abbrev qi(i:Nat):M (List U):=λst=>match st[i]? with
 |some (bD (k,.lst us))=>if k.root=b6 then bD (.ok us,st) else cb
 |_=>cb
abbrev oP(x:Kd×U):M Int:=match x.2 with
 |.int j=>pure j
 |_=>M.fail
abbrev qj(us:List U)(j:Int):Option Int:=if 0<=j then(match us[j.toNat]? with|some (.int o)=>bD o|_=>cb) else cb
abbrev vH(sub:Bool)(o w:Int):Int:=if sub=b6 then o - w else o+w
abbrev GZ:U->Option U
 |.lst us=>bD (.lst us.reverse)
 |_=>cb
abbrev sets:List Nat->List (Kd×U)->M Unit
 |[],[]=>pure ()
 |i::is,r::rs=>do eQ i r;sets is rs
 |_,_=>M.fail
abbrev dw(t:Bool)(is:List Nat)(r:Kd×U):M Unit:=match t,is,r with
 |false,[i],r=>eQ i r
 |true,is,(k,.tup xs)=>sets is (xs.map λu=>(kE k,u))
 |_,_,_=>M.fail
abbrev inScope{α:Type}(k:Nat)(m:M α):M α:=λst=>match m (ki k cb++st) with
 |none=>cb
 |some (r,st')=>bD (r,st'.drop k)
abbrev bS(k:Nat)(t:Bool)(cond:M Bool)(elt:M (Kd×U))(src:List (Kd×U)):List (Kd×U)->List U->M (List U)
 |[],acc=>do aJ src;pure acc
 |x::xs,acc=>do
  aJ src
  let r <-inScope k (dw t (ix k) x >>= λ_=>cond >>= λb=>if b=b6 then(elt >>= λr=>lift r >>= λu=>pure (bD u)) else pure cb)
  match r with
  |some u=>if acc.length<dV then bS k t cond elt src xs (acc++[u]) else M.fail
  |none=>bS k t cond elt src xs acc
abbrev oQ:U->JH->Option Bool
 |.str _,T=>bD (df (T=.str))
 |.int _,T=>bD (df (T=.int))
 |.bl _,.bool=>bD b6
 |.bl _,.int=>bD b6
 |.lst _,T=>bD (df (T=.list))
 |.tup _,T=>bD (df (T=.tuple))
 |_,_=>cb
abbrev G0:Kd×U->Option (Kd×U)
 |(_,.int i)=>bD (.loc,.int (-i))
 |_=>cb
abbrev Dw(x:Kd×U):M (Option Int):=match x.2 with
 |.int i=>pure (bD i)
 |_=>M.fail
abbrev LN:U->M Unit
 |.lst _=>pure ()
 |_=>M.fail
section
variable(Γ:Tab)
mutual
noncomputable def ev:E->M (Kd×U)
 |.var i=>c9 i
 |.cst u=>pure (.loc,u)
 |.MN _ u=>pure (.loc,u)
 |.bin g a b=>do
  let x <-ev a
  let y <-ev b
  aJ [x,y]
  M.HA (JI g x y)
 |.cmp g a b=>do
  let x <-ev a
  let y <-ev b
  aJ [x,y]
  let c <-M.HA (bO g x.2 y.2)
  pure (.loc,.bl c)
 |.K7 _ _ _ _ _=>M.fail
 |.and es=>iI es
 |.or _=>M.fail
 |.not a=>do
  let x <-ev a
  match x.2 with
  |.bl c=>pure (.loc,.bl !c)
  |_=>M.fail
 |.ite c a b=>do
  let p <-HB c
  if p=b6 then ev a else ev b
 |.tup es=>do
  let rs <-bG es
  aJ rs
  let us <-dv rs
  if us.length<=dV then pure (.loc,.tup us) else M.fail
 |.lst es=>do
  let rs <-bG es
  aJ rs
  let us <-dv rs
  if us.length<=dV then pure (.own,.lst us) else M.fail
 |.Ji r=>pure (.own,.Hf [] [])
 |.idx a b=>do
  let x <-ev a
  let y <-ev b
  aJ [x,y]
  M.HA (gF x y.2)
 |.KN a lo j=>do
  let x <-ev a
  let l <-MP lo
  let h <-MP j
  aJ [x]
  M.HA (la x l h)
 |.bi f es=>do
  let rs <-bG es
  aJ rs
  M.HA (Jw f rs)
 |.Kw f es=>do
  let rs <-bG es
  aJ rs
  M.HA (rO f rs)
 |.Mg m a es=>do
  let x <-ev a
  let rs <-bG es
  aJ (x::rs)
  M.HA (mC m x.2 rs)
 |.call f es=>do
  let rs <-bG es
  aJ rs
  lb Γ f (rs.map (·.2))
 |.comp k t ik src cond e=>do
  let rs <-bG src
  aJ rs
  let xs <-M.HA (Jk ik rs)
  let us <-bS k t (aU cond) (ev e) rs xs []
  pure (.own,.lst us)
 |.neg a=>do
  let x <-ev a
  M.HA (G0 x)
 |.bad=>M.fail
 |.inD _ _ _=>M.fail
 |.NJ i=>xA i
 |.J5 i k d=>do
  let x <-c9 i
  Ss x.2
  let y <-ev k
  let y <-jX y
  let z <-ev d
  let u <-lift z
  let x <-c9 i
  M.HA (Av x y u)
 |.NK i=>do
  let x <-c9 i
  M.HA (xx x.2)
 |.Hg f es is=>do
  let rs <-(bG es >>= As)
  aJ rs
  qg Γ f rs is
 |.pop i=>xy i
 |.LM i e=>do
  let x <-c9 i
  LN x.2
  let y <-ev e
  Au i y.2
 |.LL ln a b=>do
  let x <-ev a
  let n <-M.HA (ia x.2)
  let y <-ev b
  let o <-M.HA (ia y.2)
  M.HA (qd ln n o)
 |.fst es=>M.fail
 |.Jc a T=>do
  let x <-ev a
  let b <-M.HA (oQ x.2 T)
  pure (.loc,.bl b)
noncomputable def bG:List E->M (List (Kd×U))
 |[]=>pure []
 |e::es=>do let r <-ev e;let rs <-bG es;pure (r::rs)
noncomputable def MP:List E->M (Option Int)
 |[]=>pure cb
 |[e]=>do let x <-ev e;Dw x
 |_=>M.fail
noncomputable def iI:List E->M (Kd×U)
 |[]=>M.fail
 |[e]=>ev e
 |e::es=>do
  let x <-ev e
  match x.2 with
  |.bl b6=>iI es
  |.bl cK=>pure (.loc,.bl cK)
  |_=>M.fail
noncomputable def HB:E->M Bool
 |.and es=>aU es
 |.or es=>jG es
 |.not a=>do let b <-HB a;pure !b
 |.cmp e a b=>do
  let x <-ev a
  let y <-ev b
  aJ [x,y]
  M.HA (bO e x.2 y.2)
 |.var i=>do let x <-c9 i;M.HA (rP x.2)
 |.bi f es=>do
  let rs <-bG es
  aJ rs
  let r <-M.HA (Jw f rs)
  M.HA (rP r.2)
 |.call f es=>do
  let rs <-bG es
  aJ rs
  let r <-lb Γ f (rs.map (·.2))
  M.HA (rP r.2)
 |.K7 g o2 a b c=>do
  let x <-ev a
  let y <-ev b
  aJ [x,y]
  let p <-M.HA (bO g x.2 y.2)
  if p=b6 then do
   let z <-ev c
   aJ [y,z]
   M.HA (bO o2 y.2 z.2)
  else pure cK
 |.inD neg a i=>do
  let x <-ev a
  let y <-jX x
  let d <-iH i
  pure (Sr neg y d.1)
 |.Jc a T=>do
  let x <-ev a
  M.HA (oQ x.2 T)
 |_=>M.fail
noncomputable def aU:List E->M Bool
 |[]=>pure b6
 |[e]=>HB e
 |e::es=>do let b <-HB e;if b=b6 then aU es else pure cK
noncomputable def jG:List E->M Bool
 |[]=>pure cK
 |[e]=>HB e
 |e::es=>do let b <-HB e;if b=b6 then pure b6 else jG es
end
inductive Fl where|nx|rt (k:Kd) (u:U)|bk|ct
abbrev retS:Kd×U->M Fl
 |(.own,u)=>pure (.rt .own u)
 |(.loc,u)=>pure (.rt .loc u)
 |(.any,u)=>if HG u=b6 then pure (.rt .loc u) else pure (.rt .any u)
 |(.bor j,_)=>λst=>match st[j]? with
  |some (bD (.own,u))=>bD (.ok (.rt .own u),st.set j cb)
  |_=>cb
 |(.io,_)=>M.fail
 |(.G',_)=>M.fail
abbrev forM(t:Bool)(is:List Nat)(body:M Fl)(src:List (Kd×U)):List (Kd×U)->M Fl
 |[]=>do aJ src;pure .nx
 |x::xs=>do
  aJ src
  dw t is x
  let f <-body
  match f with
  |.nx=>forM t is body src xs
  |.ct=>forM t is body src xs
  |.bk=>pure .nx
  |.rt k u=>pure (.rt k u)
abbrev fJ(c:M Bool)(body:M Fl):Nat->M Fl
 |0=>M.fail
 |n+1=>do
  let b <-c
  if b=b6 then do
   let f <-body
   match f with
   |.nx=>fJ c body n
   |.ct=>fJ c body n
   |.bk=>pure .nx
   |.rt k u=>pure (.rt k u)
  else pure .nx
abbrev modS(i:Nat)(f:U->Option U):M Unit:=λst=>match st[i]? with
 |some (bD (k,u))=>if k.root=b6 then match f u with
   |some u'=>bD (.ok (),st.set i (bD (k,u')))
   |none=>cb
  else cb
 |_=>cb
abbrev xB(u:U):U->Option U
 |.lst xs=>if xs.length<dV then bD (.lst (xs++[u])) else cb
 |_=>cb
abbrev ll:Kd×U->U->Option U
 |(k,.lst a),.lst xs=>if xs.length+a.length<=dV/\fk k a=b6 then bD (.lst (xs++a)) else cb
 |(k,.tup a),.lst xs=>if xs.length+a.length<=dV/\fk k a=b6 then bD (.lst (xs++a)) else cb
 |_,_=>cb
abbrev d8(x u:U):U->Option U
 |.Hf ks vs=>match x with
  |.str y=>if ks.length<dV then bD (.Hf (dput ks vs y u).1 (dput ks vs y u).2) else cb
  |_=>cb
 |.lst xs=>match x with
  |.int i=>(KU xs.length i).map λj=>.lst (xs.set j u)
  |_=>cb
 |_=>cb
abbrev tR:List U->U->Option U
 |[u,x]=>d8 x u
 |_=>λ_=>cb
abbrev fuel:Nat:=1000000000000
mutual
noncomputable def Qg:S->Nat->Bool
 |.set i _,j=>df (j≠i)
 |.J6 is _,j=>df (j∉is)
 |.ite _ a b,j=>Jr a j&&Jr b j
 |.Hy _ is _ _ body,j=>df (j∉is)&&Jr body j
 |.Lu _ body,j=>Jr body j
 |.put _ _ _,_=>b6
 |.app _ _,_=>b6
 |.ext _ _,_=>b6
 |.bad,_=>b6
 |.newD i,j=>df (j≠i)
 |.putD _ _ _,_=>b6
 |.Jj _ _ _,_=>b6
 |.aug _ _ _ _,_=>b6
 |.Qe _,_=>b6
 |.exp _,_=>b6
 |.ret _,_=>b6
 |.J7 _ _,_=>b6
 |.Kx,_=>b6
 |.brk,_=>b6
 |.cnt,_=>b6
 |.Qf,_=>b6
 |.KO _,_=>b6
 |.inc i _,j=>df (j≠i)
noncomputable def Jr:List S->Nat->Bool
 |[],_=>b6
 |s::ss,j=>Qg s j&&Jr ss j
end
abbrev tS(rs:List (Kd×U))(is:List Nat)(body:List S):Bool:=rs.all λr=>match r.1 with
 |.bor j=>df (j∉is)&&Jr body j
 |_=>b6
mutual
noncomputable def exec:S->M Fl
 |.set i e=>do let r <-ev Γ e;eQ i r;pure .nx
 |.J6 is e=>do let r <-ev Γ e;dw b6 is r;pure .nx
 |.put i k v=>do
  let r <-ev Γ v
  let _ <-c9 i
  let x <-ev Γ k
  let us <-dv [r,x]
  modS i (tR us)
  pure .nx
 |.app i e=>do
  let x <-c9 i
  LN x.2
  let r <-ev Γ e
  let u <-lift r
  modS i (xB u)
  pure .nx
 |.ext i e=>do
  let x <-c9 i
  LN x.2
  let r <-ev Γ e
  modS i (ll r)
  pure .nx
 |.bad=>M.fail
 |.newD i=>do B0 i;pure .nx
 |.putD i k v=>do
  let r <-ev Γ v
  let d <-iH i
  let x <-ev Γ k
  let y <-jX x
  lh i y r
  pure .nx
 |.Jj i k v=>do
  let _ <-iH i
  let x <-ev Γ k
  let y <-jX x
  let d <-iH i
  if y∈d.1 then do
   let r <-ev Γ v
   let u <-lift r
   lj i y u
   pure .nx
  else M.fail
 |.aug sub i k v=>do
  let _ <-qi i
  let y <-ev Γ k
  let j <-oP y
  let us <-qi i
  let o <-M.HA (qj us j)
  let z <-ev Γ v
  let w <-oP z
  modS i (d8 (.int j) (.int (vH sub o w)))
  pure .nx
 |.Qe i=>do
  modS i GZ
  pure .nx
 |.exp e=>do let _ <-ev Γ e;pure .nx
 |.ret e=>do let r <-ev Γ e;retS r
 |.J7 i e=>do
  let d <-qh i
  let us <-bS 2 b6 (pure b6) (ev Γ e) [] (oO d) []
  retS (.own,.lst us)
 |.Kx=>pure (.rt .loc .Hj)
 |.ite c a b=>do let p <-HB Γ c;if p=b6 then execs a else execs b
 |.Hy t is ik src body=>do
  let rs <-bG Γ src
  aJ rs
  let xs <-M.HA (Jk ik rs)
  if tS rs is body=b6 then forM t is (execs body) rs xs else M.fail
 |.Lu c body=>fJ (HB Γ c) (execs body) fuel
 |.brk=>pure .bk
 |.cnt=>pure .ct
 |.Qf=>pure .nx
 |.KO _=>M.fail
 |.inc i n=>c9 i >>= λr=>oP r >>= λm=>eQ i (.loc,.int (m+n)) >>= λ_=>pure .nx
noncomputable def execs:List S->M Fl
 |[]=>pure .nx
 |s::ss=>do
  let f <-exec s
  match f with
  |.nx=>execs ss
  |f=>pure f
end
end
structure Fn where
 name:Str
 np:Nat
 ns:Nat
 body:List S
abbrev start(us:List U)(n:Nat):aw:=us.map (λu=>bD (if HG u=b6 then Kd.loc else Kd.any,u))++ki (n - us.length) cb
abbrev dJ(Γ:Tab)(fn:Fn)(us:List U):Option (Ex (Kd×U)):=if us.length=fn.np then match execs Γ fn.body (start us fn.ns) with
  |some (.ok (.rt .own u),_)=>bD (.ok (.own,u))
  |some (.ok (.rt .loc u),_)=>bD (.ok (.loc,u))
  |some (.ok (.rt .any u),_)=>bD (.ok (.any,u))
  |some (.ok .nx,_)=>bD (.ok (.loc,.Hj))
  |some (.exc c,_)=>bD (.exc c)
  |_=>cb
 else cb
abbrev cX(is:List Nat)(us:List U)(n:Nat):aw:=(us.zipIdx.map λp=>bD (if p.2∈is then Kd.io else if HG p.1=b6 then Kd.loc else Kd.any,p.1))++ki (n - us.length) cb
abbrev MQ:List Nat->aw->Option (List U)
 |[],_=>bD []
 |i::is,st=>match st[i]? with
  |some (bD (.io,u))=>(MQ is st).map (u::·)
  |_=>cb
abbrev Qh:Fl->Option (Kd×U)
 |.rt .own u=>bD (.own,u)
 |.rt .loc u=>bD (.loc,u)
 |.nx=>bD (.loc,.Hj)
 |_=>cb
abbrev ic(Γ:Tab)(fn:Fn)(is:List Nat)(body:List S)(us:List U):Option (Ex (Kd×U)):=if us.length=fn.np then match execs Γ body (cX is us fn.ns) with
  |some (.ok f,st)=>(Qh f).bind λr=>(MQ is st).map λws=>.ok (r.1,.tup (r.2::ws))
  |_=>cb
 else cb
abbrev Fn.io(fn:Fn):Option (List Nat×List S):=match fn.body with
 |.KO is::body=>bD (is,body)
 |_=>cb
abbrev jk(Γ:Tab)(fn:Fn)(us:List U):Option (Ex (Kd×U)):=match fn.io with
 |some (is,body)=>ic Γ fn is body us
 |none=>dJ Γ fn us
abbrev Hm(P:List Fn):Nat->Tab
 |0=>λ_ _=>cb
 |d+1=>λf us=>match P.find? λfn=>df (fn.name=f) with
  |some fn=>jk (Hm P d) fn us
  |none=>cb
end TM
namespace TM
open PySem L2
section
variable{X:Cx}{pins:List (hU×Obj)}{σ:St}{H:Hp}{s:hH}{C:Ct}{S:hU->Prop}
def tT(I:Inv X pins σ H s)(h:HM X.K H a vs):∃b:List et,Vals vs b/\s.heap.IsList a b.toArray/\vs.length<=dV:=by
 have⟨b,r,p,z⟩:=I.list h;show⟨b,r,p.isList,z⟩
inductive H0(s:hH):Nat->U->et->Prop where
 |Hj {n:Nat}:H0 s n .Hj .none
 |bl {n:Nat} {b:Bool}:H0 s n (.bl b) (.bool b)
 |int {n:Nat} {i:Int} {t:Tok}:H0 s n (.int i) (.int i t)
 |str {n:Nat} {y:Str} {t:Tok}:H0 s n (.str y) (.str y t)
 |tup {n:Nat} {us:List U} {B':List et} {a:hU}:us.length=B'.length->(∀j (hj:j<B'.length),H0 s n (us.getD j .Hj) B'[j])->cO us us=b6->s.heap.IsTuple a B'.toArray->H0 s (n+1) (.tup us) (.ref a)
 |lst {n:Nat} {us:List U} {B':List et} {a:hU}:us.length=B'.length->(∀j (hj:j<B'.length),H0 s n (us.getD j .Hj) B'[j])->cO us us=b6->s.heap.IsList a B'.toArray->H0 s (n+1) (.lst us) (.ref a)
def H0.self(h:H0 s n u x):cC u u=b6:=by
 cases h<;>first|assumption|simp[cC]
theorem H0.Aw(f:∀u v x,IY n u=b6->Rep C S H u v->RelV v x->H0 s n u x):∀{us:List U}{vs:List V}{a:List et},du n us=b6->ak C S H us vs->Vals vs a->us.length=a.length/\(∀j (b:j<a.length),H0 s n (us.getD j .Hj) a[j])/\cO us us=b6
 |[],_,_,_,h,r=>by cases h;cases r;show⟨rfl,λj b=>(nomatch b),rfl⟩
 |u::us,_,_,e,h,r=>by
  have⟨v,vs,rfl,c,g⟩:=h;simp only[du,cL]at e;cases r with
  |cons d i =>
   have⟨l,k,y⟩:=H0.Aw f e.2 g i;show⟨by simp[l],λj b=>?_,by rw[cO,(f _ _ _ e.1 c d).self,y];rfl⟩;cases j with
   |zero=>show f _ _ _ e.1 c d
   |succ j=>show k j (by simpa using b)
def H0.of(I:Inv X pins σ H s)(d:C.K=X.K):∀(n:Nat) (u:U) (v:V) (x:et),IY n u=b6->Rep C S H u v->RelV v x->H0 s n u x:=by
 intro n;induction n with
 |zero=>intro u v x e h r;cases u<;>first|(simp[IY]at e;done)|(simp only[Rep]at h;subst h;first|(cases r;constructor)|(have⟨t,rfl⟩:=r;constructor))
 |succ n f =>
  intro u v x e h r;cases u with
  |tup us =>
   have⟨a,vs,rfl,b,c⟩:=h;cases r;obtain⟨g,rv,p,_⟩:=I.tuple (d▸b);have⟨l,k,y⟩:=H0.Aw f (by simpa[IY] using e) c rv;show .tup l k y p
  |lst us =>
   have⟨a,vs,rfl,b,c⟩:=h;cases r;obtain⟨g,rv,p,_⟩:=tT I (d▸b.sq);have⟨l,k,y⟩:=H0.Aw f (by simpa[IY] using e) c rv;show .lst l k y p
  |_=>first|(simp[IY]at e;done)|(simp only[Rep]at h;subst h;first|(cases r;constructor)|(have⟨t,rfl⟩:=r;constructor))
def H0.inj:∀{n:Nat}{u w:U}{x:et},H0 s n u x->H0 s n w x->u=w:=by
 intro n;induction n with
 |zero=>intro u w x h h';cases h<;>cases h'<;>rfl
 |succ n r =>
  have go:∀{us ws:List U} {c its':List et} {a:hU} {o o':Obj} {m i:Nat},us.length=c.length->(∀j (t:j<c.length),H0 s n (us.getD j .Hj) c[j])->ws.length=its'.length->(∀j (t:j<its'.length),H0 s n (ws.getD j .Hj) its'[j])->s.heap.get? a=bD o->o.data=.seq c.toArray m->s.heap.get? a=bD o'->o'.data=.seq its'.toArray i->us=ws:=by
   intro us ws c its' a o o' m i l k f k' e d g d';rw[e]at g;cases g;rw[d]at d';injection d' with v _
   have:c=its':=by simpa using ü XN v
   subst this;show L9 ⋯ λj z A=>?_;have:=r (k j ⋯) (k' j ⋯);simpa[z,A] using this
  intro u w x h h';cases h with
  |tup l k y p =>
   cases h' with
   |tup f k' q b=>obtain⟨o,e,_,m,d⟩:=p;obtain⟨o',g,_,i,d'⟩:=b;rw[go l k f k' e d g d']
   |lst f k' q b=>show absurd rfl (XJ b p)
  |lst l k y p =>
   cases h' with
   |lst f k' q b=>obtain⟨o,e,_,m,d⟩:=p;obtain⟨o',g,_,i,d'⟩:=b;rw[go l k f k' e d g d']
   |tup f k' q b=>show absurd rfl (XJ p b)
  |_=>cases h';rfl
theorem jl:∀{us ws:List U},us.length≠ws.length->cO us ws=cK
 |[],[],h=>absurd rfl h
 |[],_::_,_=>rfl
 |_::_,[],_=>rfl
 |u::us,w::ws,h=>by
  rw[cO,jl (us:=us) (ws:=ws) (λe=>h (by simp[e])),SA]
theorem fT:∀{us ws:List U},us.length=ws.length->cO us ws=(ix us.length).all λj=>cC (us.getD j .Hj) (ws.getD j .Hj)
 |[],[],_=>rfl
 |[],_::_,h=>by simp at h
 |_::_,[],h=>by simp at h
 |u::us,w::ws,h=>by
  have h':us.length=ws.length:=by simpa using h
  rw[cO,fT h',k7,List.range_succ_eq_map,Z2,RP];rfl
def E9{a its':List et}(c:us.length=a.length)(d:ws.length=its'.length):cO us ws=((ix (min a.toArray.size its'.toArray.size)).all (λj=>cC (us.getD j .Hj) (ws.getD j .Hj))&&a.toArray.size==its'.toArray.size):=by
 simp only[hZ];by_cases b:us.length=ws.length
 .rw[fT b,show min a.length its'.length=us.length by lia,show(a.length==its'.length)=b6 by simp;lia,Z4]
 .rw[jl b,show(a.length==its'.length)=cK by simp;lia,SA]
def tU(b:H0 s n u y)(h:Yw A s y x k)(hs:y=x->k=b6):RC A s y x k:=λprog w E Q a=>by
 unfold eqBool;show ux ?_;show wpAny_ite_split (λc=>?_) (λ_=>?_)
 .rw[hs (eq_of_beq c)]at a;show b5 (L_ (d3 a))
 .cases b<;>show b5 (h prog w E _ (LV a))
def Su(r:∀m,m+1=n->∀{u w:U}{x f:et}{A:MH},H0 s m u x->H0 s m w f->A.units+m<Lk->RC A s x f (cC u w))(h:H0 s n u x)(h':H0 s n w f)(v:A.units+n<Lk):Yw A s x f (cC u w)/\ZW A s x f (!cC u w):=by
 have a:A.units<Lk:=by lia
 have go:∀{m:Nat} {us ws:List U} {g its':List et},m+1=n->(∀j (t:j<g.length),H0 s m (us.getD j .Hj) g[j])->(∀j (t:j<its'.length),H0 s m (ws.getD j .Hj) its'[j])->∀j (i:j<g.toArray.size) (o:j<its'.toArray.size),RC A.in1 s g.toArray[j] its'.toArray[j] (cC (us.getD j .Hj) (ws.getD j .Hj)):=λ{m us ws g its'} e k k' j i o=>r m e (k j i) (k' j o) (by change A.units+1+m < _;lia);cases h with
 |Hj =>
  cases h' with
  |Hj=>show⟨.none_none,.none_none⟩
  |bl=>show⟨.none_bool _,.none_bool _⟩
  |int=>show⟨.none_int _ _,.none_int _ _⟩
  |str=>show⟨.none_str _ _,.none_str _ _⟩
  |tup c k' d b=>show⟨.none_tuple b a,.none_tuple b a⟩
  |lst c k' d b=>show⟨.none_list b a,.none_list b a⟩
 |bl =>
  cases h' with
  |Hj=>show⟨.bool_none _,.bool_none _⟩
  |bl=>show⟨.bool_bool _ _,.bool_bool _ _⟩
  |int=>show⟨.bool_int _ _ _,.bool_int _ _ _⟩
  |str=>show⟨.bool_str _ _ _,.bool_str _ _ _⟩
  |tup c k' d b=>show⟨.bool_tuple _ b a,.bool_tuple _ b a⟩
  |lst c k' d b=>show⟨.bool_list _ b a,.bool_list _ b a⟩
 |int =>
  cases h' with
  |Hj=>show⟨.int_none _ _,.int_none _ _⟩
  |bl=>show⟨.int_bool _ _ _,.int_bool _ _ _⟩
  |int=>show⟨.int_int _ _ _ _,.int_int _ _ _ _⟩
  |str=>show⟨.int_str _ _ _ _,.int_str _ _ _ _⟩
  |tup c k' d b=>show⟨.int_tuple _ _ b a,.int_tuple _ _ b a⟩
  |lst c k' d b=>show⟨.int_list _ _ b a,.int_list _ _ b a⟩
 |str =>
  cases h' with
  |Hj=>show⟨.str_none _ _,.str_none _ _⟩
  |bl=>show⟨.str_bool _ _ _,.str_bool _ _ _⟩
  |int=>show⟨.str_int _ _ _ _,.str_int _ _ _ _⟩
  |str=>show⟨.str_str _ _ _ _,.str_str _ _ _ _⟩
  |tup c k' d b=>show⟨.str_tuple _ _ b a,.str_tuple _ _ b a⟩
  |lst c k' d b=>show⟨.str_list _ _ b a,.str_list _ _ b a⟩
 |tup l k y p =>
  cases h' with
  |Hj=>show⟨.tuple_none p a,.tuple_none p a⟩
  |bl=>show⟨.tuple_bool _ p a,.tuple_bool _ p a⟩
  |int=>show⟨.tuple_int _ _ p a,.tuple_int _ _ p a⟩
  |str=>show⟨.tuple_str _ _ p a,.tuple_str _ _ p a⟩
  |tup c k' d b=>rw[show cC (.tup _) (.tup _)=_ from E9 l c];show⟨.tuples p b a (go rfl k k'),.tuples p b a (go rfl k k')⟩
  |lst c k' d b=>show⟨.tuple_list p b a,.tuple_list p b a⟩
 |lst l k y p =>
  cases h' with
  |Hj=>show⟨.list_none p a,.list_none p a⟩
  |bl=>show⟨.list_bool _ p a,.list_bool _ p a⟩
  |int=>show⟨.list_int _ _ p a,.list_int _ _ p a⟩
  |str=>show⟨.list_str _ _ p a,.list_str _ _ p a⟩
  |tup c k' d b=>show⟨.list_tuple p b a,.list_tuple p b a⟩
  |lst c k' d b =>
   rename_i us _ _ ws _ _;by_cases q:us.length=ws.length
   .rw[show cC (.lst us) (.lst ws)=_ from fT q,l,<-hZ];show⟨.lists p b (by simp;lia) a (go rfl k k'),.lists p b (by simp;lia) a (go rfl k k')⟩
   .rw[show cC (.lst us) (.lst ws)=cK from jl q];show⟨.lists_lengths p b (by simp;lia) a,.lists_lengths p b (by simp;lia) a⟩
def E_:∀{n:Nat}{u w:U}{x a:et}{A:MH},H0 s n u x->H0 s n w a->A.units+n<Lk->RC A s x a (cC u w):=by
 intro n;induction n with
 |zero=>intro u w x a A h h' b;show tU h (Su (λm e=>by cases e) h h' b).1 λe=>by subst e;rw[h.inj h'];show h'.self
 |succ n c=>intro u w x a A h h' b;show tU h (Su (λm e=>by cases e;show c) h h' b).1 λe=>by subst e;rw[h.inj h'];show h'.self
def Fb(h:H0 s n u x)(h':H0 s n w a)(b:A.units+n<Lk):Yw A s x a (cC u w)/\ZW A s x a (!cC u w):=Su (λm e=>by cases e;show E_) h h' b
end
end TM
namespace TM
open PySem L2 PyProof.Rows
abbrev Hn(C:Ct)(m:M (Kd×U)):TE:=λσ H Q=>∃c0:Cf,c0.σ=σ/\c0.H=H/\Ok C c0/\W m c0.st λr st'=>∀c v,c.σ=σ->c.st=st'->Ok C c->Nx c0 c->aM C c0 c r.1 r.2 v->Q v c.H
abbrev IL(C:Ct)(m:M Bool):TT:=λσ H Q=>∃c0:Cf,c0.σ=σ/\c0.H=H/\Ok C c0/\W m c0.st λb st'=>∀c,c.σ=σ->c.st=st'->Ok C c->Nx c0 c->Q b c.H
def cP(C:Ct)(c0 c:Cf):List (Kd×U)->List V->Prop
 |[],vs=>vs=[]
 |r::rs,vs=>∃v t,vs=v::t/\fS C c0 c r.1 r.2 v/\cP C c0 c rs t/\(r.1=.own->∀(i:Nat) a b,rs[i]?=bD a->t[i]?=bD b->a.1=.own->b≠v)
abbrev IU(C:Ct)(m:M (List (Kd×U))):TA:=λσ H Q=>∃c0:Cf,c0.σ=σ/\c0.H=H/\Ok C c0/\W m c0.st λrs st'=>∀c vs,c.σ=σ->c.st=st'->Ok C c->Nx c0 c->cP C c0 c rs vs->Q vs c.H
section
def PE.weak(h:PE X e t)(i:∀σ H Q,t' σ H Q->t σ H Q):PE X e t':=λa s σ H Q I q=>h a s σ H Q I (i σ H Q q)
def PT.weak(h:PT X e t)(i:∀σ H Q,t' σ H Q->t σ H Q):PT X e t':=λa s σ H Q I q=>h a s σ H Q I (i σ H Q q)
def cJ{st:aw}:W (aJ rs) st Q↔bc rs st/\Q () st:=by
 constructor
 .rintro⟨a,st',e,h⟩;unfold aJ at e;split at e
  .cases e;show⟨by assumption,h⟩
  .cases e
 .rintro⟨b,c⟩;show⟨(),st,by unfold aJ;rw[ö b],c⟩
def eR{st:aw}:bc (r::rs) st↔bc [r] st/\bc rs st:=by
 have⟨k,u⟩:=r;cases k<;>simp[bc]
def fS.t(h:fS C c0 c k u v)(s:bc [(k,u)] c.st):aM C c0 c k u v:=by
 cases k with
 |bor j=>show⟨s.1,h⟩
 |_=>show h
structure OV(C:Ct)(c0 c:Cf)(x y:Kd×U)(vx vy:V):Prop where
 hσ:c.σ=c0.σ
 ok:Ok C c
 nx:Nx c0 c
 rx:aM C c0 c x.1 x.2 vx
 ry:aM C c0 c y.1 y.2 vy
 ne:x.1=.own->y.1=.own->vy≠vx
def oR(h:fS C c0 c1 k u v)(h':fS C c1 c k' u' b):k=.own->k'=.own->b≠v:=by
 rintro rfl rfl e;obtain⟨r,d,_,_,_,f⟩:=h;obtain⟨i,g,a,_⟩:=h';obtain⟨o,ho,_⟩:=f.some;subst d;rw[g]at e;cases e;rw[ho]at a;cases a
def two{k:Kd×U->Kd×U->M β}{m:β->aw->Prop}{f:et->et->Sem α}{Q':et->et->α->hH->Prop}(N:PE X a (Hn C O))(Q:PE X b (Hn C z))(I:Inv X d c0.σ c0.H s)(T:Ok C c0)
  (h:W (O >>= λx=>z >>= λy=>aJ [x,y] >>= λ_=>k x y) c0.st m)
  (Y:∀x y c e i v u s2,OV C c0 c x y e i->Inv X d c.σ c.H s2->RelV e v->RelV i u->W (k x y) c.st m->ez (hW X.prog X.w) X.A (f v u) (Q' v u) X.xe s2) :
  ez (hW X.prog X.w) X.A (HD a X.env) (λv s₁=>ez (hW X.prog X.w) X.A (HD b X.env) (λu s₂=>ez (hW X.prog X.w) X.A (f v u) (Q' v u) X.xe s₂) X.xe s₁) X.xe s:=by
 rw[ai]at h;show Hl (N d s c0.σ c0.H (λe B=>∃x c1,c1.H=B/\c1.σ=c0.σ/\Ok C c1/\Nx c0 c1/\aM C c0 c1 x.1 x.2 e/\W (z >>= λy=>aJ [x,y] >>= λ_=>k x y) c1.st m) I ⟨c0,rfl,rfl,T,h.mono λx st1 n c1 e o e2 p q r=>⟨x,c1,rfl,o,p,q,r,by rw[e2];show n⟩⟩) ?_;rintro v s1 ⟨e,B,I1,rv,x,c1,rfl,o,p,q,r,n⟩;rw[ai]at n;show Hl (Q d s1 c0.σ c1.H (λi D=>∃y g,g.H=D/\OV C c0 g x y e i/\W (k x y) g.st m) I1 ⟨c1,o,rfl,p,n.mono λy st2 j g i G e4 HI J L=>?_⟩) ?_
 .rw[ai,cJ]at j;subst e4;rw[eR]at j;show⟨y,g,rfl,⟨G,HI,q.trans J,(r.w.on p J (G.trans o.symm)).t j.1.1,(L.from q),oR r.w L.w⟩,j.2⟩
 .rintro u s2 ⟨i,D,I2,ru,y,g,rfl,l,j⟩;have hs:g.σ=c0.σ:=l.hσ;show Y x y g e i v u s2 l (by rw[hs];show I2) rv ru j
structure LO(C:Ct)(c0 c:Cf)(x:Kd×U)(vx:V):Prop where
 hσ:c.σ=c0.σ
 ok:Ok C c
 nx:Nx c0 c
 rx:aM C c0 c x.1 x.2 vx
def one{k:Kd×U->M β}{e:β->aw->Prop}{f:et->Sem α}{Q':α->hH->Prop}(l:PE X a (Hn C m))(I:Inv X b c0.σ c0.H s)(n:Ok C c0)
  (h:W (m >>= λx=>k x) c0.st e)
  (o:∀x c d v s2,LO C c0 c x d->Inv X b c.σ c.H s2->RelV d v->W (k x) c.st e->ez (hW X.prog X.w) X.A (f v) Q' X.xe s2) :
  ez (hW X.prog X.w) X.A (HD a X.env) (λv p=>ez (hW X.prog X.w) X.A (f v) Q' X.xe p) X.xe s:=by
 rw[ai]at h;show Hl (l b s c0.σ c0.H (λd i=>∃x c1,c1.H=i/\LO C c0 c1 x d/\W (k x) c1.st e) I ⟨c0,rfl,rfl,n,h.mono λx st1 g c1 d q r t u y=>⟨x,c1,rfl,⟨q,t,u,y⟩,by rw[r];show g⟩⟩) ?_;rintro v s1 ⟨d,i,z,rv,x,c1,rfl,j,g⟩;show o x c1 d v s1 j (by rw[j.hσ];show z) rv g
abbrev cv(C:Ct)(c0:Cf)(Q:VK)(r:Kd×U)(st':aw):Prop:=∀c v,c.σ=c0.σ->c.st=st'->Ok C c->Nx c0 c->aM C c0 c r.1 r.2 v->Q v c.H
section
def cv.flat(h:cv C c0 Q (.loc,u) c.st)(a:c.σ=c0.σ)(b:Ok C c)(n:Nx c0 c)(r:Rep C c.S c.H u v):Q v c.H:=h c v a rfl b n r
def cv.list(h:cv C c0 Q (.own,.lst us) c.st)(a:c.σ=c0.σ)(b:Ok C c)(n:Nx c0 c)(r:ak C c.S c.H us vs)(p:hU)(d:c.H p=cb):Q (.ref p) (upd c.H p (.lst vs)):=by
 have⟨e,f,g⟩:=b.newList n d r;show h {c with H:=upd c.H p (.lst vs)} _ a rfl e f g
def cv.tup(h:cv C c0 Q (.loc,.tup us) c.st)(a:c.σ=c0.σ)(b:Ok C c)(n:Nx c0 c)(r:ak C c.S c.H us vs)(p:hU)(d:c.H p=cb):Q (.ref p) (upd c.H p (.tup vs)):=by
 have⟨e,f,g⟩:=b.Dn n d r;show h {c with H:=upd c.H p (.tup vs)} _ a rfl e f g
def cv.tupK(h:cv C c0 Q (kE k,.tup us) c.st)(d:c.σ=c0.σ)(a:Ok C c)(n:Nx c0 c)(r:ak C (SK C c k) c.H us vs)(p:hU)(e:c.H p=cb):Q (.ref p) (upd c.H p (.tup vs)):=by
 have⟨f,b⟩:=a.lay (o:=.tup vs) e;show h {c with H:=upd c.H p (.tup vs)} _ d rfl f (n.trans b) (aM.item ?_);cases k<;>show⟨p,vs,rfl,HR.of aA,by first|show r.mv (a.Ls b)|show r.mv (a.mv b)⟩
def eS(h:fk k us=b6)(r:ak C (SK C c k) c.H us vs):ak C c.S c.H us vs:=by
 cases k with
 |any=>show r.HG (by simpa[fk,isAny] using h)
 |_=>show r
end
def xC(k k':Kd):∀a,SK C c k a->SK C c (kT k k') a:=by
 intro a h;cases k<;>cases k'<;>first|show h|show .inr h
def tV(k k':Kd):∀a,SK C c k' a->SK C c (kT k k') a:=by
 intro a h;cases k<;>cases k'<;>first|show h|show .inr h
def B1(k k':Kd):kE (kT k k')=kT k k':=by cases k<;>cases k'<;>rfl
def Ax:Jf X (N' .Add) (λx y H Q=>∃l b xs c,x=.ref l/\y=.ref b/\HM X.K H l xs/\HM X.K H b c/\xs.length+c.length<=dV/\∀p,H p=cb->Q (.ref p) (upd H p (.lst (xs++c)))):=by
 intro f s σ H x y v u Q I o t h;have⟨l,b,xs,c,rfl,rfl,w,A,hz,q⟩:=h;cases o;cases t;have⟨d,r,B,z⟩:=I.list w;have⟨e,g,C,T⟩:=I.list A;have hl:=r.length;have J0:=g.length;obtain⟨⟨cls,D,data,G⟩,ho,i,n,j⟩:=B.isList;obtain⟨⟨Y,J,data2,L⟩,k,m,N,a⟩:=C.isList;simp only at i j m a;subst i j m a;show VM ⟨_,ho,rfl⟩ ⟨_,k,rfl⟩ noFill_list_add seq_list_add PySem.F.slot_list_add PySem.F.entry_list_add (PySem.F.args_list_add_2 _ _)
   (list_addW l b d.toArray e.toArray n N D J G L (by rw[hZ,hZ];lia)) ⟨ho,k,?_⟩
 have O:d.toArray++e.toArray=(d++e).toArray:=by simp
 rw[O];show⟨.ref _,_,I.GQ (t':=s.toks) (r.append g) (by rw[i7];lia),rfl,q _ I.fresh⟩
end
section
variable{X:Cx}{C:Ct}{pins:List (hU×Obj)}{s:hH}{c0 c:Cf}{Q:VK}
def xD:Jf X (N' .Add) (λx y H Q=>∃a b e,x=.ref a/\y=.ref b/\HR X.K H a []/\HR X.K H b e/\Q (.ref b) H):=by
 intro pins s σ H x y v u Q I k l h;have⟨a,b,e,rfl,rfl,m,o,q⟩:=h;cases k;cases l;obtain⟨G,p,r,_⟩:=I.tuple m;obtain⟨t,J,p2,_⟩:=I.tuple o;cases p;obtain⟨⟨cls,w,data,z⟩,ho,f,n,g⟩:=id r;obtain⟨⟨L,A,data2,B⟩,i,j,D,d⟩:=id p2;simp only at f g j d;subst f g j d;show VM ⟨_,ho,rfl⟩ ⟨_,i,rfl⟩ WJ Yv PySem.F.slot_tuple_add PySem.F.entry_tuple_add (PySem.F.args_tuple_add_2 _ _)
   (tuple_addW0 a b _ t.toArray n D w A z B (by rfl)) ⟨ho,i,.ref b,H,I,rfl,q⟩
abbrev Qd.op:Qd->Zv
 |.add=>.Add|.sub=>.Sub|.mul=>.Mult|.ML=>.FloorDiv|.mod=>.Mod|.pow=>.Pow
def eT(h:rN f a b=bD r):∃i j o,a=.int i/\b=.int j/\f i j=bD o/\r=(.loc,.int o):=by
 unfold rN at h;split at h
 .rw[hA]at h;have⟨o,e,rfl⟩:=h;show⟨_,_,o,rfl,rfl,e,rfl⟩
 .cases h
def Dx(Y:C.K=X.K)(t:OV C c0 c x y g l)(I:Inv X pins c.σ c.H s)(z:RelV g v)(B:RelV l u)(h:JI op x y=bD r)(q:cv C c0 Q r c.st):
  ez (hW X.prog X.w) X.A (N' op.op v u) (EP X pins c.σ Q) X.xe s:=by
 obtain⟨m,d,n,D,G,_⟩:=t;cases op with
 |add =>
  have h:xv x y=bD r:=h;unfold xv at h;split at h
  .have ex:=D.int d;have e:=G.int d;cases h;show cB pins s c.σ c.H g l v u Q I z B ⟨_,_,ex,e,q.flat m d n rfl⟩
  .have ex:=D.str d;have e:=G.str d;split at h
   .cases h;show rm pins s c.σ c.H g l v u Q I z B ⟨_,_,ex,e,by assumption,q.flat m d n rfl⟩
   .cases h
  .have⟨a,vs,ex,O,J⟩:=D.list d;have⟨b,ws,e,T,L⟩:=G.list d;split at h
   .rename_i N;cases h;show Ax pins s c.σ c.H g l v u Q I z B ⟨a,b,vs,ws,ex,e,Y▸O,Y▸T,by rw[<-J.len,<-L.len];show N.1,λp hp=>q.list m d n ((eS N.2.1 J).append (eS N.2.2 L)) p hp⟩
   .cases h
  .rename_i k xs k' ys _ _;have⟨a,vs,ex,O,J⟩:=D.tuple d;have⟨b,ws,e,T,L⟩:=G.tuple d;have J8:=O;have Nt:=T;rw[Y]at J8 Nt;split at h
   .rename_i N;cases h;have m1:ak C (SK C c (kT k k')) c.H xs vs:=J.mv (.up (xC k k'));have m2:ak C (SK C c (kT k k')) c.H ys ws:=L.mv (.up (tV k k'));have q':cv C c0 Q (kE (kT k k'),.tup (xs++ys)) c.st:=by rw[B1];show q
    by_cases e1:vs=[]
    .subst e1;show xD pins s c.σ c.H g l v u Q I z B ⟨a,b,ws,ex,e,J8,Nt,?_⟩;show q' c (.ref b) m rfl d n (aM.item ⟨b,ws,rfl,T,?_⟩);have:xs=[]:=by have:=m1.len;simpa using this
     rw[this];show m2
    .show zQ pins s c.σ c.H g l v u Q I z B ⟨a,b,vs,ws,ex,e,J8,Nt,e1,by rw[<-J.len,<-L.len];show N,λe2=>?_,λ_ p hp=>q'.tupK m d n (m1.append m2) p hp⟩;subst e2;show q' c (.ref a) m rfl d n (aM.item ⟨a,vs,rfl,O,?_⟩);have:ys=[]:=by have:=m2.len;simpa using this
     rw[this,u7];show m1
   .cases h
  .cases h
 |sub =>
  have⟨i,j,o,ex,e,f,rfl⟩:=eT h;have ex:=(ex▸D).int d;have e:=(e▸G).int d;cases f;show fb pins s c.σ c.H g l v u Q I z B ⟨_,_,ex,e,q.flat m d n rfl⟩
 |mul =>
  have⟨i,j,o,ex,e,f,rfl⟩:=eT h;have ex:=(ex▸D).int d;have e:=(e▸G).int d;unfold Al at f;split at f
  .cases f;show kG pins s c.σ c.H g l v u Q I z B ⟨_,_,ex,e,by assumption,q.flat m d n rfl⟩
  .cases f
 |ML =>
  have⟨i,j,o,ex,e,f,rfl⟩:=eT h;have ex:=(ex▸D).int d;have e:=(e▸G).int d;unfold Am at f;split at f
  .cases f;show zI pins s c.σ c.H g l v u Q I z B ⟨_,_,ex,e,by assumption,q.flat m d n rfl⟩
  .cases f
 |mod =>
  have⟨i,j,o,ex,e,f,rfl⟩:=eT h;have ex:=(ex▸D).int d;have e:=(e▸G).int d;unfold An at f;split at f
  .cases f;show eD pins s c.σ c.H g l v u Q I z B ⟨_,_,ex,e,by assumption,q.flat m d n rfl⟩
  .cases f
 |pow =>
  have⟨i,j,o,ex,e,f,rfl⟩:=eT h;have ex:=(ex▸D).int d;have e:=(e▸G).int d;unfold Ao at f;split at f
  .cases f;show oi pins s c.σ c.H g l v u Q I z B ⟨_,_,ex,e,by assumption,q.flat m d n rfl⟩
  .cases f
def Ay(d:C.K=X.K)(f:PE X a (Hn C g))(i:PE X b (Hn C j)):PE X (.BinOp a k.op b pos) (Hn C (g >>= λx=>j >>= λy=>aJ [x,y] >>= λ_=>M.HA (JI k x y))):=by
 rintro pins s σ H Q I ⟨c0,rfl,rfl,l,h⟩;show wpAny_BinOp (two f i I l h λx y c p A v u s2 t m n o w=>?_);have⟨r,e,q⟩:=b_.mp w;show Hl (Dx d t m n o e q) λ_ _ z=>by rw[t.hσ]at z;show z
abbrev OU.op:OU->CmpOp
 |.eq=>.Eq|.ne=>.NotEq|.lt=>.Lt|.le=>.LtE|.gt=>.Gt|.ge=>.GtE|.isin=>.In|.Ht=>.NotIn|.is=>.Is|.MM=>.IsNot
def Fc{neg:Bool}(I:Inv X pins c.σ c.H s)(m:C.K=X.K)(N:X.A.units+60<Lk){S:hU->Prop}(o:Rep C S c.H x n)(r:RelV n v)(t:ak C S c.H i vs)
  (ha:HM C.K c.H a vs\/HR C.K c.H a vs) (u:IY 50 x=b6) (z:du 50 i=b6) {Q:et->hH->Prop} (q:Q (.bool (if neg then !(i.any λy=>cC y x) else i.any λy=>cC y x)) s) :
  ez (hW X.prog X.w) X.A (LJ (if neg then .NotIn else .In) v (.ref a)) Q X.xe s:=by
 have B:=H0.of I m 50 x n v u o r;have go:∀d:List et,Vals vs d->∃e:et->Bool,(∀y,y∈d.toArray->RC X.A.in1 s y v (e y))/\d.toArray.any e=i.any λy=>cC y x:=by
  intro d rv;obtain⟨l,k,_⟩:=H0.Aw (H0.of I m 50) z t rv
  classical
  have q:∀j (b:j<d.length),df (∃w,H0 s 50 w d[j]/\cC w x=b6)=cC (i.getD j .Hj) x:=λj b=>by
   rw[JB,decide_eq_true_iff];show⟨λ⟨w,f,g⟩=>by rw[<-f.inj (k j b)];show g,λh=>⟨_,k j b,h⟩⟩
  show⟨λy=>df (∃w,H0 s 50 w y/\cC w x=b6),λy D=>?_,?_⟩
  .have⟨j,b,e⟩:=Qo (show y∈d by simpa using D);subst e;change RC _ _ _ _ (decide _);rw[q j b];show E_ (k j b) B (by change X.A.units+1+50 < _;lia)
  .rw[JB];simp only[List.any_toArray,UP];constructor
   .rintro⟨y,G,h⟩;have⟨j,b,rfl⟩:=Qo G;rw[q j b]at h;show⟨_,KX (l▸b),by simpa[l▸b] using h⟩
   .rintro⟨w,J,L⟩;have⟨j,b,rfl⟩:=Qo J;show⟨_,KX (l▸b),by rw[q j (l▸b)];simpa[b] using L⟩
 rcases ha with ha|ha
 .obtain⟨d,rv,p,_⟩:=tT I (m▸ha);have⟨e,f,g⟩:=go d rv;cases neg with
  |false=>show SeqAt.in_listAt e p f (by rw[g];show q)
  |true=>show SeqAt.notIn_listAt e p f (by rw[g];show q)
 .rw[m]at ha;obtain⟨d,rv,p,_⟩:=I.tuple ha;have⟨e,f,g⟩:=go d rv;cases neg with
  |false=>show SeqAt.in_tupleAt e p f (by rw[g];show q)
  |true=>show SeqAt.notIn_tupleAt e p f (by rw[g];show q)
end
section
theorem cQ:∀{us:List U}{ss:List Str},strsOf us=bD ss->us=ss.map .str
 |[],ss,h=>by cases h;rfl
 |.str x::us,ss,h=>by
  simp only[strsOf,hA]at h;have⟨t,a,rfl⟩:=h;rw[cQ a];rfl
 |.Hj::_,_,h=>by cases h
 |.bl _::_,_,h=>by cases h
 |.int _::_,_,h=>by cases h
 |.tup _::_,_,h=>by cases h
 |.lst _::_,_,h=>by cases h
 |.Hf _ _::_,_,h=>by cases h
theorem jH:∀{us:List U}{ns:List Int},intsOf us=bD ns->us=ns.map .int
 |[],ns,h=>by cases h;rfl
 |u::us,ns,h=>by
  cases u<;>first|(cases h;done)|skip
  rename_i x;have h':(intsOf us).map (x::·)=bD ns:=h;rw[hA]at h';have⟨ms,e,rfl⟩:=h';rw[jH e];rfl
theorem ak.ints{S:hU->Prop}:∀{ns:List Int}{vs:List V},ak C S H (ns.map .int) vs->vs=ns.map V.int
 |[],vs,h=>h
 |n::ns,vs,h=>by
  have⟨v,r,rfl,a,b⟩:=h;rw[ak.ints b];have:v=.int n:=a;rw[this];rfl
theorem lp:∀{us:List U}{ss:List Bool},k_ us=bD ss->us=ss.map .bl
 |[],ss,h=>by cases h;rfl
 |.bl x::us,ss,h=>by
  simp only[k_,hA]at h;have⟨t,a,rfl⟩:=h;rw[lp a];rfl
 |.Hj::_,_,h=>by cases h
 |.str _::_,_,h=>by cases h
 |.int _::_,_,h=>by cases h
 |.tup _::_,_,h=>by cases h
 |.lst _::_,_,h=>by cases h
 |.Hf _ _::_,_,h=>by cases h
theorem ak.UL{S:hU->Prop}:∀{xs:List Bool}{vs:List V},ak C S H (xs.map .bl) vs->vs=xs.map V.bl
 |[],vs,h=>h
 |x::xs,vs,h=>by
  have⟨v,r,rfl,a,b⟩:=h;rw[ak.UL b];have:v=.bl x:=a;rw[this];rfl
abbrev Dy(X:Cx)(a:List (hU×Obj))(c:Cf)(b:Bool)(v:et)(s':hH):Prop:=v=.bool b/\Inv X a c.σ c.H s'
def fm(o:Jf X f r)(I:Inv X a c.σ c.H s)(g:RelV d v)(i:RelV e u)(h:r d e c.H λx H'=>x=.bl b/\H'=c.H):
  ez (hW X.prog X.w) X.A (f v u) (Dy X a c b) X.xe s :=
 Hl (o a s c.σ c.H d e v u _ I g i h) λw s' j=>by
  have⟨z,H',k,r,l,m⟩:=j;subst l m;show⟨r,k⟩
def aM.dict(g:Ok C c)(h:aM C c0 c k (.Hf ks us) v):∃a kvs,v=.ref a/\c.H a=bD (.dK kvs)/\kvs.map (·.1)=ks.map nc/\ak C (SK C c k) c.H us (kvs.map (·.2)):=by
 cases k with
 |own=>obtain⟨r,e,_,_,_,kvs,b,d,f⟩:=h;show⟨r,kvs,e,b,d,f⟩
 |bor j=>obtain⟨r,e,_,_,_,kvs,b,d,f⟩:=g.rootOf h.1 h.2;show⟨r,kvs,e,b,d,f⟩
 |io=>show h.elim
 |G'=>show h.elim
 |_=>obtain⟨a,e,_,kvs,b,d,f⟩:=h;show⟨a,kvs,e,b,d,f⟩
theorem dN{S:hU->Prop}:∀{ks:List Str}{us:List U}{kvs:List (Key×V)},kvs.map (·.1)=ks.map nc->ak C S H us (kvs.map (·.2)) ->
  (∀u,dI ks us x=bD u->∃v,dG kvs (nc x)=bD v/\Rep C S H u v)/\(dG kvs (nc x)).isSome=df (x∈ks)
 |[],us,kvs,a,b=>by
  have:kvs=[]:=by simpa using a
  subst this;show⟨λu h=>by cases us<;>simp[dI]at h,by simp[dG]⟩
 |k::ks,us,[],a,b=>by simp at a
 |k::ks,[],p::kvs,a,b=>by simp[ak]at b
 |k::ks,j::us,p::kvs,a,b=>by
  have⟨v,r,e,d,f⟩:=b;rw[gs]at e;cases e;rw[gs,gs,NO]at a;have⟨g,i⟩:=dN (x:=x) a.2 f;by_cases hk:k=x
  .subst hk;show⟨λu h=>?_,?_⟩
   .simp[dI]at h;subst h;show⟨p.2,eI a.1,d⟩
   .rw[eI a.1];simp
  .have c:¬p.1=nc x:=by rw[a.1];intro z;show hk (Uh z)
   show⟨λu h=>?_,?_⟩
   .simp[dI,hk]at h;have⟨v,e,q⟩:=g u h;show⟨v,by rw[eJ c];show e,q⟩
   .rw[eJ c,i];simp[tj hk]
def Rep.m8{S:hU->Prop}(h:Rep C S H u v):df (v=.Hj)=m8 u:=by
 cases u with
 |Hj=>have:v=.Hj:=h;subst this;rfl
 |bl b=>have:v=.bl b:=h;subst this;rfl
 |int b=>have:v=.int b:=h;subst this;rfl
 |str b=>have:v=.str b:=h;subst this;rfl
 |Hf ks us=>obtain⟨a,rfl,_⟩:=h;rfl
 |_=>obtain⟨a,vs,rfl,_⟩:=h;rfl
def xE:Jf X (LJ .Is) (λx y H Q=>∃i j,x=.bl i/\y=.bl j/\Q (.bl (i==j)) H):=by
 intro a s σ H x y v u Q I b c h;have⟨i,j,rfl,rfl,q⟩:=h;cases b;cases c;cases i<;>cases j<;>show d3 (oj I q rfl)
def rQ:Jf X (LJ .IsNot) (λx y H Q=>∃i j,x=.bl i/\y=.bl j/\Q (.bl (!(i==j))) H):=by
 intro a s σ H x y v u Q I b c h;have⟨i,j,rfl,rfl,q⟩:=h;cases b;cases c;cases i<;>cases j<;>show d3 (oj I q rfl)
def xF(hP:C.P=X.prog)(hw:C.w=X.w)(p:C.K=X.K)(J:X.A.units+60<Lk)(t:OV C c0 c x y L O)(I:Inv X m c.σ c.H s)(f:RelV L v)(g:RelV O u)(h:bO Q x.2 y.2=bD b):
  ez (hW X.prog X.w) X.A (LJ Q.op v u) (Dy X m c b) X.xe s:=by
 obtain⟨hσ,d,n,j,i,_⟩:=t;have⟨kx,T⟩:=x;have⟨ky,Y⟩:=y
 dsimp only at h j i
 have r:∀neg:Bool,∀q,Ap T Y=bD q->ez (hW X.prog X.w) X.A (LJ (if neg then .NotIn else .In) v u) (Dy X m c (if neg then !q else q)) X.xe s:=by
  intro neg q h;have D:=j.read d;have N:=i.read d;unfold Ap at h;split at h
  .have⟨a,vs,rfl,o,B⟩:=N;cases g;unfold MO at h;split at h
   .rename_i l;cases h;show Fc I p J D f B (.inl o.sq) l.1 l.2 ⟨by cases neg<;>rfl,I⟩
   .cases h
  .have⟨a,vs,rfl,o,B⟩:=N;cases g;unfold MO at h;split at h
   .rename_i l;cases h;show Fc I p J D f B (.inr o) l.1 l.2 ⟨by cases neg<;>rfl,I⟩
   .cases h
  .cases h;have ex:L=_:=D;have⟨a,kvs,rfl,o,B,h3⟩:=i.dict d;cases g;subst ex;have hs:=λz:Str=>(dN (x:=z) B h3).2;cases neg with
   |false=>show E4 ⋯ I (ff.k (k:=nc _) o) f λs' G=>⟨by rw[hs];rfl,G⟩
   |true=>show tq ⋯ I (ff.k (k:=nc _) o) f λs' G=>⟨by rw[hs];rfl,G⟩
  .cases h
 unfold bO at h;split at h
 .split at h
  .rename_i l;cases h;show(Fb (n:=50) (.of I p _ _ _ _ l.1 (j.read d) f) (.of I p _ _ _ _ l.2 (i.read d) g) ⋯).1 _ _ _ _ ⟨rfl,I⟩
  .cases h
 .split at h
  .rename_i l;cases h;show(Fb (n:=50) (.of I p _ _ _ _ l.1 (j.read d) f) (.of I p _ _ _ _ l.2 (i.read d) g) ⋯).2 _ _ _ _ ⟨rfl,I⟩
  .cases h
 .cases h;show fm ES I f g ⟨_,_,j.int d,i.int d,rfl,rfl⟩
 .cases h;show fm ET I f g ⟨_,_,j.int d,i.int d,rfl,rfl⟩
 .cases h;show fm EU I f g ⟨_,_,j.int d,i.int d,rfl,rfl⟩
 .show r cK b h
 .rw[hA]at h;have⟨q,o,rfl⟩:=h;show r b6 q o
 .cases h;have e:=i.Hj d;show fm CV I f g ⟨e,by rw[(j.read d).m8],rfl⟩
 .cases h;have e:=i.Hj d;show fm zJ I f g ⟨e,by rw[(j.read d).m8],rfl⟩
 .cases h;show fm xE I f g ⟨_,_,j.bl d,i.bl d,rfl,rfl⟩
 .cases h;show fm rQ I f g ⟨_,_,j.bl d,i.bl d,rfl,rfl⟩
 .cases h
def Az(g:C.P=X.prog)(i:C.w=X.w)(j:C.K=X.K)(k:X.A.units+60<Lk)(l:PE X a (Hn C m))(n:PE X b (Hn C o))(p:Qz d.op b=cK):
  PE X (.Compare a [d.op] [b] pos) (Hn C (m >>= λx=>o >>= λy=>aJ [x,y] >>= λ_=>M.HA (bO d x.2 y.2) >>= λc=>pure (.loc,.bl c))):=by
 rintro f s σ H Q I ⟨c0,rfl,rfl,B,h⟩;show wpAny_Compare1 (two l n I B h λx y c O T v u s2 t D G J w=>?_) p;rw[ai]at w;have⟨r,e,q⟩:=b_.mp w;rw[au]at q;show Hl (xF g i j k t D G J e) λz s' L=>?_;have⟨e,N⟩:=L;subst e;show⟨.bl r,c.H,by rw[<-t.hσ];show N,rfl,q c (.bl r) t.hσ rfl t.ok t.nx rfl⟩
def AA(i:C.P=X.prog)(j:C.w=X.w)(k:C.K=X.K)(l:X.A.units+60<Lk)(m:PE X a (Hn C n))(o:PE X b (Hn C p))(B:Qz g.op b=cK):
  PT X (.Compare a [g.op] [b] pos) (IL C (n >>= λx=>p >>= λy=>aJ [x,y] >>= λ_=>M.HA (bO g x.2 y.2))):=by
 rintro d s σ H Q I ⟨c0,rfl,rfl,D,h⟩;show Zi (two (f:=λv u=>LJ g.op v u) (Q':=λ_ _ c s=>ez (hW X.prog X.w) X.A (ç c) (TP X d c0.σ Q) X.xe s) m o I D h λx y c T Y v u s2 t G J L w=>?_) B;have⟨r,e,q⟩:=b_.mp w;show Hl (xF i j k l t G J L e) λz s' N=>?_;have⟨e,O⟩:=N;subst e;show LV ⟨c.H,by rw[<-t.hσ];show O,q c t.hσ rfl t.ok t.nx⟩
end
section
abbrev Fd(C:Ct)(c0:Cf)(Q:Bool->Hp->Prop)(b:Bool)(st':aw):Prop:=∀c,c.σ=c0.σ->c.st=st'->Ok C c->Nx c0 c->Q b c.H
def rR(a:c1.σ=c0.σ)(b:Ok C c1)(n:Nx c0 c1)(h:W m c1.st (cv C c0 Q)):Hn C m c0.σ c1.H Q :=
 ⟨c1,a,rfl,b,h.mono λr st c d v e f g i j=>c d v e f g (n.trans i) (j.from n)⟩
def xG(a:c1.σ=c0.σ)(b:Ok C c1)(n:Nx c0 c1)(h:W m c1.st (Fd C c0 Q)):IL C m c0.σ c1.H Q :=
 ⟨c1,a,rfl,b,h.mono λr st c d e f g i=>c d e f g (n.trans i)⟩
def aX(a:Ok C c0)(h:W (b >>= k) c0.st d)
  (hz:∀x c v,LO C c0 c x v->W (k x) c.st d->Z v c.H):Hn C b c0.σ c0.H Z:=by
 rw[ai]at h;show⟨c0,rfl,rfl,a,h.mono λx st1 e c1 f g i j l m=>hz x c1 f ⟨g,j,l,m⟩ (by rw[i];show e)⟩
def eU(a:Ok C c0)(h:W (d >>= k) c0.st e)
  (hz:∀b c,c.σ=c0.σ->Ok C c->Nx c0 c->W (k b) c.st e->Z b c.H):IL C d c0.σ c0.H Z:=by
 rw[ai]at h;show⟨c0,rfl,rfl,a,h.mono λx st1 f c1 g i j l=>hz x c1 g j l (by rw[i];show f)⟩
abbrev Fe(m:M (Kd×U))(x:Kd×U):M (Kd×U):=match x.2 with
 |.bl b6=>m
 |.bl cK=>pure (.loc,.bl cK)
 |_=>M.fail
abbrev Ff(x:Kd×U):M (Kd×U):=match x.2 with
 |.bl c=>pure (.loc,.bl !c)
 |_=>M.fail
def snd_and(g:PE X a (Hn C i))(j:PE X (.BoolOp .And (b::rest) pos) (Hn C l)):PE X (.BoolOp .And (a::b::rest) pos) (Hn C (i >>= Fe l)):=by
 show PE.weak (CI g j) ?_;rintro σ H Q ⟨c0,rfl,rfl,m,h⟩;show aX m h λx c v t w=>?_;have⟨k,u⟩:=x;have⟨f,d,n,r⟩:=t;unfold Fe at w;split at w
 .rename_i e
  dsimp only at e r
  subst e;show⟨b6,r.bl d,by rw[ö rfl];show rR f d n w⟩
 .rename_i e
  dsimp only at e r
  subst e;rw[au]at w;show⟨cK,r.bl d,by rw[ø k8];show w c (.bl cK) f rfl d n rfl⟩
 .show(bt.mp w).elim
def AB(d:PE X a (Hn C f)):PE X (.UnaryOp .Not a pos) (Hn C (f >>= Ff)):=by
 show PE.weak (CJ d) ?_;rintro σ H Q ⟨c0,rfl,rfl,g,h⟩;show aX g h λx c v t w=>?_;have⟨k,u⟩:=x;have⟨i,b,n,r⟩:=t;unfold Ff at w;split at w
 .rename_i e
  dsimp only at e r
  subst e;rw[au]at w;show⟨_,r.bl b,w c (.bl _) i rfl b n rfl⟩
 .show(bt.mp w).elim
def AD(g:PT X d (IL C i))(j:PE X a (Hn C k))(l:PE X b (Hn C m)):PE X (.IfExp d a b pos) (Hn C (i >>= λp=>if p=b6 then k else m)):=by
 show PE.weak (wm g j l) ?_;rintro σ H Q ⟨c0,rfl,rfl,o,h⟩;show eU o h λp c e f n w=>?_;cases p with
 |true=>rw[ö rfl]at w ⊢;show rR e f n w
 |false=>rw[ø k8]at w ⊢;show rR e f n w
def AE(d:PT X a (IL C e)):PT X (.UnaryOp .Not a pos) (IL C (e >>= λb=>pure !b)):=by
 show PT.weak (CG d) ?_;rintro σ H Q ⟨c0,rfl,rfl,f,h⟩;show eU f h λp c g i n w=>?_;rw[au]at w;show w c g rfl i n
def AF(g:PT X a (IL C i))(j:PW X (.BoolOp .And (b::rest) pos) (IL C k)):PW X (.BoolOp .And (a::b::rest) pos) (IL C (i >>= λp=>if p=b6 then k else pure cK)):=by
 have l:=CF g j;rintro m d s σ H Q I ⟨c0,rfl,rfl,o,h⟩;show l m d s c0.σ c0.H Q I (eU o h λp c e f n w=>?_);cases p with
 |true=>rw[ö rfl]at w ⊢;show xG e f n w
 |false=>rw[ø k8]at w ⊢;rw[au]at w;show w c e rfl f n
def Dz(g:PT X a (IL C i))(j:PW X (.BoolOp .Or (b::rest) pos) (IL C k)):PW X (.BoolOp .Or (a::b::rest) pos) (IL C (i >>= λp=>if p=b6 then pure b6 else k)):=by
 have l:=ED g j;rintro m d s σ H Q I ⟨c0,rfl,rfl,o,h⟩;show l m d s c0.σ c0.H Q I (eU o h λp c e f n w=>?_);cases p with
 |true=>rw[ö rfl]at w ⊢;rw[au]at w;show w c e rfl f n
 |false=>rw[ø k8]at w ⊢;show xG e f n w
def tW{us:List α}{vs:List β}(h:us.length=vs.length):(!us.isEmpty)=!vs.isEmpty:=by
 cases us<;>cases vs<;>simp_all
def j_(j:PE X a (Hn C l))(i:C.K=X.K)(m:∀b,isTrue a X.env b=(do let v <-b;XO a.pos;Mr [v] (ç v))):PT X a (IL C (l >>= λx=>M.HA (rP x.2))):=by
 show PT.weak (wC j m) ?_;rintro σ H Q ⟨c0,rfl,rfl,o,h⟩;show aX o h λx c v t w=>?_;have⟨k,u⟩:=x;have⟨s,d,n,r⟩:=t;have⟨p,e,q⟩:=b_.mp w
 dsimp only at e r
 show⟨p,?_,q c s rfl d n⟩;unfold rP at e;split at e
 .cases e;rw[r.bl d];rfl
 .cases e;have⟨a,vs,rfl,f,g⟩:=r.list d;show .inl ⟨vs,i▸f,tW g.len⟩
 .cases e;have⟨a,vs,rfl,f,g⟩:=r.tuple d;rw[i]at f;show .inr (.inl ⟨vs,f,tW g.len⟩)
 .split at e
  .cases e;rw[r.str d];show⟨by assumption,rfl⟩
  .cases e
 .cases e
end
section
def cP.from(n:Nx c0 c1):cP C c1 c rs vs->cP C c0 c rs vs:=by
 intro h;induction rs generalizing vs with
 |nil=>show h
 |cons r rs a=>have⟨v,t,e,b,d,f⟩:=h;show⟨v,t,e,b.from n,a d,f⟩
def cP.get{i:Nat}(h:cP C c0 c rs vs)(e:rs[i]?=bD r)(a:vs[i]?=bD v):fS C c0 c r.1 r.2 v:=by
 induction rs generalizing vs i with
 |nil=>simp at e
 |cons g rs b =>
  have⟨j,t,rfl,d,f,k⟩:=h;cases i with
  |zero=>simp at e a;subst e a;show d
  |succ i=>show b f (by simpa using e) (by simpa using a)
def AG:PA X [] (IU C (pure [])):=by
 rintro pos a s σ H Q I ⟨c0,rfl,rfl,b,h⟩;rw[au]at h;show jd pos a s c0.σ c0.H Q I (h c0 [] rfl rfl b (Nx.refl c0) rfl)
def xH(g:PE X e (Hn C m))(j:PA X es (IU C ms))(hs:i9 (e::es) X.env=(cK,HD e X.env)::i9 es X.env):PA X (e::es) (IU C (m >>= λr=>ms >>= λrs=>pure (r::rs))):=by
 rintro pos a s σ H Q I ⟨c0,rfl,rfl,k,h⟩;show fc g j hs pos a s c0.σ c0.H Q I (aX k h λr c1 v t w=>?_);rw[ai]at w;show⟨c1,t.hσ,rfl,t.ok,w.mono λrs st2 b l vs c n o d f=>?_⟩;rw[au]at b;show b l (v::vs) c n o (t.nx.trans d) ⟨v,vs,rfl,t.rx.w.on t.ok d (c.trans t.hσ.symm),f.from t.nx,λhk i x y p q u=>?_⟩;show oR t.rx.w (f.get p q) hk u
structure JJ(C:Ct)(c0 c:Cf)(rs:List (Kd×U))(vs:List V):Prop where
 hσ:c.σ=c0.σ
 ok:Ok C c
 nx:Nx c0 c
 rep:cP C c0 c rs vs
 LP:bc rs c.st
def args{k:List (Kd×U)->M β}{b:β->aw->Prop}(f:PA X es (IU C ms))(I:Inv X a c0.σ c0.H s)(g:Ok C c0)(h:W (ms >>= λrs=>aJ rs >>= λ_=>k rs) c0.st b)(pos:Pos):
  ez (hW X.prog X.w) X.A (Z8 (Jx pos (i9 es X.env))) (λus s1=>∃rs c vs,JJ C c0 c rs vs/\Inv X a c.σ c.H s1/\Vals vs us/\W (k rs) c.st b) X.xe s:=by
 rw[ai]at h;show Hl (f pos a s c0.σ c0.H (λvs e=>∃rs c,c.H=e/\JJ C c0 c rs vs/\W (k rs) c.st b) I ⟨c0,rfl,rfl,g,h.mono λrs st1 d c1 vs i j l m n=>?_⟩) ?_
 .rw[ai,cJ]at d;subst j;show⟨rs,c1,rfl,⟨i,l,m,n,d.1⟩,d.2⟩
 .rintro us s1 ⟨vs,e,o,rv,rs,c1,rfl,t,w⟩;show⟨rs,c1,vs,t,by rw[t.hσ];show o,rv,w⟩
def JJ.one(t:JJ C c0 c [r] vs):∃v,vs=[v]/\aM C c0 c r.1 r.2 v:=by
 obtain⟨v,t',rfl,a,b,_⟩:=t.rep;cases b;show⟨v,rfl,a.t t.LP⟩
def JJ.two(t:JJ C c0 c [r,b] vs):∃v a,vs=[v,a]/\aM C c0 c r.1 r.2 v/\aM C c0 c b.1 b.2 a:=by
 obtain⟨v,t',rfl,d,⟨a,g,rfl,e,f,_⟩,_⟩:=t.rep;cases f;have hs:=eR.mp t.LP;show⟨v,a,rfl,d.t hs.1,e.t hs.2⟩
def Ok.share(b:Ok C c)(g:C.H₀ r=cb)(h:∃o,c.H r=bD o)(hl:st'.length=c.st.length)
  (d:∀(i:Nat) k u,st'[i]?=bD (bD (k,u))->(∃v,c.σ[i]?=bD (bD v)/\fR C (λa=>c.S a\/a=r) c.H k u v)/\(k.root=b6->c.st[i]?=bD (bD (k,u)))) (l:KI C {c with S:=λa=>c.S a\/a=r,st:=st' }) :
  Ok C {c with S:=λa=>c.S a\/a=r,st:=st' }:=by
 show⟨b.same,λa z=>?_,b.par,b.io,by rw[show({c with S:=λa=>c.S a\/a=r,st:=st' }:Cf).st.length=st'.length from rfl,hl];show b.len,λi k u e=>(d i k u e).1,λi j k k' u u' m hk f n p q s=>?_,l⟩
 .rcases z with z|rfl
  .show b.JD a z
  .show⟨g,h⟩
 .show b.inj i j k k' u u' m hk f ((d i k u n).2 hk) ((d j k' u' p).2 f) q s
def Ok.DA(p:Ok C c0)(b:Ok C c)(n:Nx c0 c)(d:c0.H r=cb)(f:¬c.R r)(s:cW C c.S c.H r u):
  Ok C {c with S:=λa=>c.S a\/a=r}/\Nx c0 {c with S:=λa=>c.S a\/a=r}:=by
 obtain⟨o,ho,_⟩:=s.some;show⟨b.share (st':=c.st) (p.jW d).1 ⟨o,ho⟩ rfl (λi k u e=>⟨?_,λ_=>e⟩) (b.dd.hs (.up λa=>.inl) λj a z=>⟨λq=>q.elim (b.root (.inr ⟨j,z⟩)).1 λe=>f (.inr ⟨j,e▸z⟩),λo q=>q⟩),⟨⟨n.keep,n.there,n.roots,λa z=>.inl (n.sub a z),λa z=>?_⟩,n.dk⟩⟩
 .have⟨v,g,h⟩:=b.sl i k u e;have t:Mv c.S c.H (λa=>c.S a\/a=r) c.H:=.up λa=>.inl;show⟨v,g,h.mv t (.up λa z=>z.imp id .inl) λhk x l=>⟨?_,λo q=>q⟩⟩;obtain⟨y,m,w,_⟩:=h.rt hk;rw[l]at m;cases m;rintro(z|rfl)
  .show w z
  .show f (.inl ⟨i,k,u,hk,e,by rw[g,l]⟩)
 .rcases z with z|rfl
  .show n.new a z
  .show .inr (.inr d)
def Ok.xI(f:Ok C c)(n:Nx c0 c)(l:c.st[j]?=bD (bD (.own,u)))(m:c.σ[j]?=bD (bD (.ref r))):
  Ok C {c with S:=λa=>c.S a\/a=r,st:=c.st.set j (bD (.loc,u))}/\Nx c0 {c with S:=λa=>c.S a\/a=r,st:=c.st.set j (bD (.loc,u))}/\Rep C (λa=>c.S a\/a=r) c.H u (.ref r):=by
 have⟨T,b,g,p,Y,q2,G,A⟩:=f.sl j _ _ l;rw[m]at b;cases b;cases p;have B:Rep C (λa=>c.S a\/a=r) c.H u (.ref r):=A.rep (λa=>.inl) (.inr rfl);obtain⟨o,ho,_⟩:=A.some;have s:j<c.st.length:=(eh.mp l).1;have t:∀(i:Nat) k u',(c.st.set j (bD (.loc,u)))[i]?=bD (bD (k,u'))->i≠j->c.st[i]?=bD (bD (k,u')):=λi k u' e I=>by rw[i8 (tj I)]at e;show e
 have J:c.R1 r:=⟨j,.own,u,rfl,l,m⟩
 have w:∀(i:Nat) (u':U),(c.st.set j (bD (.loc,u)))[i]?=bD (bD (.G',u'))->c.st[i]?=bD (bD (.G',u')):=λi u' e=>by
  by_cases d:i=j
  .subst d;rw[fx s]at e;cases e
  .show t i .G' u' e d
 have b1:∀a,({c with S:=λa=>c.S a\/a=r,st:=c.st.set j (bD (.loc,u))}:Cf).R1 a->c.R1 a:=λa L=>by
  have⟨i,k,u',hk,e,N⟩:=L;by_cases d:i=j
  .subst d;rw[fx s]at e;cases e;cases hk
  .show⟨i,k,u',hk,t i k u' e d,N⟩
 have O:KI C {c with S:=λa=>c.S a\/a=r,st:=c.st.set j (bD (.loc,u))}:=f.dd.of rfl (λi u' e=>⟨w i u' e,rfl⟩) (λa z=>.inl (b1 a z)) (.up λa=>.inl) λi a z=>⟨λq=>q.elim (f.root (.inr ⟨i,z⟩)).1 λe=>f.dd.d1 i a z (e▸J),λo q=>q⟩
 show⟨f.share (st':=c.st.set j (bD (.loc,u))) G ⟨o,ho⟩ (by simp) (λi k u' e=>?_) O,⟨⟨n.keep,n.there,λa z=>?_,λa z=>.inl (n.sub a z),λa z=>?_⟩,λa ⟨i,u',g,b,h,x⟩=>n.dk a ⟨i,u',g,w i u' b,h,x⟩⟩,B⟩
 .by_cases d:i=j
  .subst d;rw[fx s]at e;cases e;show⟨⟨.ref r,m,B⟩,λz=>nomatch z⟩
  .have y:=t i k u' e d;have⟨v,b,h⟩:=f.sl i k u' y;show⟨⟨v,b,h.mv (.up λa=>.inl) (.up λa z=>z.imp id .inl) λhk g p=>⟨?_,λo q=>q⟩⟩,λ_=>y⟩;obtain⟨OW,D,Q,_⟩:=h.rt hk;rw[p]at D;cases D;rintro(z|rfl)
   .show Q z
   .show d (f.inj i j k .own u' u g hk rfl y l (by rw[b,p]) m)
 .rcases z with z|⟨i,u',g,b,h,x⟩
  .show n.roots a (.inl (b1 a z))
  .show n.roots a (.inr ⟨i,u',g,w i u' b,h,x⟩)
 .rcases z with z|rfl
  .show n.new a z
  .rcases n.roots a (.inl ⟨j,.own,u,rfl,l,m⟩) with z|z
   .show .inr (.inl z)
   .show .inr (.inr z)
def iJ(A:Ok C c0)(b:Ok C c)(n:Nx c0 c)(d:fS C c0 c r.1 r.2 v)(h:W (lift r) c.st B):
  ∃(S':hU->Prop) (st':aw) (u:U),(∀a,c.S a->S' a)/\Ok C {c with S:=S',st:=st' }/\Nx c0 {c with S:=S',st:=st' }/\Rep C S' c.H u v/\B u st' /\
   (∀a,S' a->c.S a\/v=.ref a/\(r.1=.own\/c.R a))/\∀a,({c with S:=S',st:=st' }:Cf).R a->c.R a:=by
 have⟨k,u⟩:=r;cases k with
 |own =>
  rw[show lift (.own,u)=pure u from rfl,au]at h;have⟨r,e,D,O,G,t⟩:=d;have⟨l,m⟩:=Ok.DA A b n D G t;show⟨_,c.st,u,λa=>.inl,l,m,by rw[e];show t.rep (λa=>.inl) (.inr rfl),h,λa z=>?_,λa z=>z⟩;rcases z with z|rfl
  .show .inl z
  .show .inr ⟨e,.inl rfl⟩
 |loc =>
  rw[show lift (.loc,u)=pure u from rfl,au]at h;show⟨c.S,c.st,u,λa=>id,b,n,d,h,λa z=>.inl z,λa z=>z⟩
 |any =>
  rw[show lift (.any,u)=if HG u=b6 then pure u else M.fail from rfl]at h;split at h
  .rw[au]at h;show⟨c.S,c.st,u,λa=>id,b,n,Rep.HG (by assumption) d,h,λa z=>.inl z,λa z=>z⟩
  .show(bt.mp h).elim
 |bor j =>
  have⟨x,st',e,I⟩:=h;rw[show lift (.bor j,u) c.st=match c.st[j]? with|some (bD (.own,u))=>bD (Ex.ok u,c.st.set j (bD (.loc,u)))|_=>cb from rfl]at e;split at e
  .rename_i w f;cases e;obtain⟨Q,y,r,J,_⟩:=b.sl j _ _ f;have o:c.σ[j]?=bD (bD v):=d;rw[o]at y;cases y;subst J;have⟨l,m,p⟩:=b.xI n f o;show⟨_,_,_,λa=>.inl,l,m,p,I,λa z=>?_,λa z=>?_⟩
   .rcases z with z|rfl
    .show .inl z
    .show .inr ⟨rfl,.inr (.inl ⟨j,.own,_,rfl,f,o⟩)⟩
   .rcases z with⟨i,k,u',hk,e,q⟩|⟨i,u',L,e,q,N⟩
    rotate_left 1
    .by_cases g:i=j
     .subst g;have s:i<c.st.length:=(eh.mp f).1;rw[fx s]at e;cases e
     .rw[i8 (tj g)]at e;show .inr ⟨i,u',L,e,q,N⟩
    by_cases g:i=j
    .subst g;have s:i<c.st.length:=(eh.mp f).1;rw[fx s]at e;cases e;cases hk
    .rw[i8 (tj g)]at e;show .inl ⟨i,k,u',hk,e,q⟩
  .cases e
 |_=>show d.elim
theorem iK:∀{rs:List (Kd×U)}{vs:List V}{c:Cf}{f:List U->aw->Prop},Ok C c0->Ok C c->Nx c0 c->cP C c0 c rs vs->W (dv rs) c.st f ->
  ∃(S':hU->Prop) (st':aw) (us:List U),(∀a,c.S a->S' a)/\Ok C {c with S:=S',st:=st' }/\Nx c0 {c with S:=S',st:=st' }/\ak C S' c.H us vs/\f us st'
 |[],vs,c,f,m,p,n,s,h=>by
  rw[show dv []=pure [] from rfl,au]at h;show⟨c.S,c.st,[],λa=>id,p,n,s,h⟩
 |r::rs,vs,c,f,m,p,n,s,h=>by
  have⟨v,t,rfl,J,L,N⟩:=s;rw[show dv (r::rs)=lift r >>= λu=>dv rs >>= λus=>pure (u::us) from rfl,ai]at h;have⟨S1,st1,u,s1,O,Q,b,x,T,Y⟩:=iJ m p n J h;rw[ai]at x;have OX:cP C c0 {c with S:=S1,st:=st1} rs t:=by
   clear h x;have y:∀(l:List (Kd×U)) (w:List V),cP C c0 c l w->(r.1=.own->∀(i:Nat) g j,l[i]?=bD g->w[i]?=bD j->g.1=.own->j≠v)->cP C c0 {c with S:=S1,st:=st1} l w:=by
    intro l;induction l with
    |nil=>intro w q _;show q
    |cons r2 l ih =>
     intro w q A;have⟨B,D,rfl,k,q2,q3⟩:=q;show⟨B,D,rfl,?_,ih D q2 (λhk i g j e1 e2 Ig=>A hk (i+1) g j (by simpa using e1) (by simpa using e2) Ig),q3⟩;have⟨k2,u2⟩:=r2;cases k2 with
     |own =>
      have⟨a,e,p1,p2,G,p4⟩:=k;show⟨a,e,p1,λz=>?_,λz=>G (Y a z),p4.mv (.up s1) λo q=>q⟩;rcases T a z with z|⟨z,z'|z'⟩
      .show p2 z
      .show A z' 0 _ B rfl rfl rfl (e.trans z.symm)
      .show G z'
     |loc=>show Rep.mv (.up s1) k
     |any=>show Rep.mv (.up λa z=>z.imp id (s1 a)) k
     |_=>show k
   show y rs t L N
  have⟨S2,st2,us,s2,HI,n2,d,I⟩:=iK (c:={c with S:=S1,st:=st1}) m O Q OX x;rw[au]at I;show⟨S2,st2,u::us,λa z=>s2 a (s1 a z),HI,n2,⟨v,t,rfl,b.mv (.up s2),d⟩,I⟩
def AH(j:PA X es (IU C ms)):PE X (.Tuple es p pos) (Hn C (ms >>= λrs=>aJ rs >>= λ_=>dv rs >>= λus=>if us.length<=dV then pure (.loc,.tup us) else M.fail)):=by
 rintro a s σ H Q I ⟨c0,rfl,rfl,g,h⟩;show wpAny_Tuple_spliced (Hl (args j I g h pos) λus s1 k=>?_);have⟨rs,c,vs,t,i,rv,w⟩:=k;rw[ai]at w;have⟨S',st',ws,q,l,m,d,f⟩:=iK g t.ok t.nx t.rep w;split at f
 .rename_i hz;rw[au]at f;have hl:vs.length<=dV:=by rw[<-d.len];show hz
  show⟨by rw[<-rv.length];show hl,?_⟩;have n:c.H s1.heap.objs.size=cb:=i.Hi.fresh (i5 _);have o:Inv X a c0.σ c.H s1:=by rw[<-t.hσ];show i
  show⟨.ref s1.heap.objs.size,upd c.H s1.heap.objs.size (.tup vs),o.laid (t':=s1.toks) (λb u e=>cc _ e) (i5 _) ⟨hl,us,rv,Zc _ _⟩,rfl,?_⟩;show cv.tup (c:={c with S:=S',st:=st' }) f t.hσ l m d _ n
 .show(bt.mp f).elim
def AI(j:PA X es (IU C ms)):PE X (.List es pos) (Hn C (ms >>= λrs=>aJ rs >>= λ_=>dv rs >>= λus=>if us.length<=dV then pure (.own,.lst us) else M.fail)):=by
 rintro a s σ H Q I ⟨c0,rfl,rfl,g,h⟩;show wpAny_List_spliced (Hl (args j I g h pos) λus s1 k=>?_);have⟨rs,c,vs,t,i,rv,w⟩:=k;rw[ai]at w;have⟨S',st',ws,p,l,m,d,f⟩:=iK g t.ok t.nx t.rep w;split at f
 .rename_i hz;rw[au]at f;have hl:vs.length<=dV:=by rw[<-d.len];show hz
  show⟨by rw[<-rv.length];show hl,?_⟩;have n:c.H s1.heap.objs.size=cb:=i.Hi.fresh (i5 _);have o:Inv X a c0.σ c.H s1:=by rw[<-t.hσ];show i
  show⟨.ref s1.heap.objs.size,upd c.H s1.heap.objs.size (.lst vs),o.laid (t':=s1.toks) (λb u e=>cc _ e) (i5 _) ⟨hl,us,0,rv,gj _ rfl⟩,rfl,?_⟩;show cv.list (c:={c with S:=S',st:=st' }) f t.hσ l m d _ n
 .show(bt.mp f).elim
end
section
def oS(d:X.N[i]?=bD x)(f:Jo X.env.scope x)(g:(x==("__debug__":Str))=cK)(l:(x==("__classdict__":Str))=cK):PE X (.Name x pos) (Hn C (c9 i)):=by
 show PE.weak (cA d f g l) ?_;rintro σ H Q ⟨c0,rfl,rfl,b,r,st',e,h⟩;unfold c9 at e;split at e
 .cases e
 .rename_i k u m hs;cases e;have⟨v,c,a⟩:=b.sl i k u hs;show⟨v,c,h c0 v rfl rfl b (Nx.refl c0) ?_⟩;by_cases hk:k.root=b6
  .rw[ö hk];show⟨⟨k,hk,hs⟩,c⟩
  .rw[ø hk];cases k with
   |loc=>show a
   |any=>show a
   |bor j=>show a.elim
   |G'=>show(m rfl).elim
   |_=>show absurd rfl hk
 .cases e
def iL(h:PE X e (tC v))(r:∀S H,Rep C S H u v):PE X e (Hn C (pure (.loc,u))):=by
 show PE.weak h ?_;rintro σ H Q ⟨c0,rfl,rfl,a,h⟩;rw[au]at h;show h c0 v rfl rfl a (Nx.refl c0) (r _ _)
def cv.root(h:cv C c0 Q (.own,u) c.st)(d:c.σ=c0.σ)(b:Ok C c)(n:Nx c0 c)(p:hU)(a:c.H p=cb)(r:cW C c.S (upd c.H p o) p u):Q (.ref p) (upd c.H p o):=by
 have⟨e,f⟩:=b.lay (o:=o) a;have⟨j,g,k,l,i⟩:=b.jW a;show h {c with H:=upd c.H p o} _ d rfl e (n.trans f) ⟨p,rfl,n.none a,g,i,r⟩
def xJ(c:C.P=X.prog)(d:C.w=X.w)(r:Bool):PE X (.Dict [] [] pos) (Hn C (pure (.own,.Hf [] []))):=by
 show PE.weak pQ ?_;rintro σ H Q ⟨c0,rfl,rfl,a,h⟩ p b;rw[au]at h;show cv.root h rfl a (Nx.refl c0) p b ⟨[],aA,rfl,rfl⟩
def ak.Ij{S:hU->Prop}(h:ak C S H us vs)(e:Ij us i=bD u):∃v,L2.Ij vs i=bD v/\Rep C S H u v:=by
 unfold L2.Ij at e ⊢;rw[h.len]at e;cases q:KU vs.length i with
 |none=>rw[q]at e;cases e
 |some j =>
  rw[q]at e;show h.get e
def DB(L:C.K=X.K)(N:X.A.units+60<Lk)(hs:ot b)(t:OV C c0 c x y g j)(I:Inv X d c.σ c.H s)(o:RelV g v)(p:RelV j u)(h:gF x y.2=bD r)(q:cv C c0 Q r c.st):
  ez (hW X.prog X.w) X.A (UE a b v u) (EP X d c.σ Q) X.xe s:=by
 obtain⟨z,f,n,B,l,-⟩:=t;have⟨O,T⟩:=y
 dsimp only at h l
 unfold gF at h;split at h
 .rename_i k xs i;rw[hA]at h;have⟨w,e,rfl⟩:=h;have⟨a',vs,ex,m,D⟩:=B.list f;have⟨vw,G,J⟩:=D.Ij e;show zR a b d s c.σ c.H g j v u Q I o p ⟨a',vs,i,vw,ex,l.int f,L▸m,G,q c vw z rfl f n (aM.item J)⟩ (hs _ _)
 .rename_i k xs i;rw[hA]at h;have⟨w,e,rfl⟩:=h;have⟨a',vs,ex,m,D⟩:=B.tuple f;have⟨vw,G,J⟩:=D.Ij e;rw[L]at m;show cm a b d s c.σ c.H g j v u Q I o p ⟨a',vs,i,vw,ex,l.int f,m,G,q c vw z rfl f n (aM.item J)⟩ (hs _ _)
 .split at h
  .rw[hA]at h;have⟨w,e,rfl⟩:=h;show ou a b d s c.σ c.H g j v u Q I o p ⟨_,_,w,B.str f,l.int f,by assumption,e,q c _ z rfl f n rfl⟩ (hs _ _)
  .cases h
 .cases h
def AJ(f:C.K=X.K)(g:X.A.units+60<Lk)(hs:ot b)(i:PE X a (Hn C j))(k:PE X b (Hn C l)):PE X (.Subscript a b pos) (Hn C (j >>= λx=>l >>= λy=>aJ [x,y] >>= λ_=>M.HA (gF x y.2))):=by
 rintro d s σ H Q I ⟨c0,rfl,rfl,m,h⟩;show Z0 (two i k I m h λx y c B D v u s2 t n o p w=>?_);have⟨r,e,q⟩:=b_.mp w;show Hl (DB f g hs t n o p e q) λ_ _ z=>by rw[t.hσ]at z;show z
def ak.cut{S:hU->Prop}(h:ak C S H us vs)(lo a:Option Int):ak C S H (TM.cut us lo a) (vb vs lo a):=by
 unfold TM.cut vb;rw[h.len];show(h.drop _).take _
end
section
end
section
variable{X:Cx}{C:Ct}{pins:List (hU×Obj)}{s:hH}{c0 c c1:Cf}
variable{a b d e:nz}{es:List nz}{m ma mb md:M (Kd×U)}{ms:M (List (Kd×U))}{ta tb:M Bool}{pos p p2:Pos}
abbrev tO(C:Ct)(m:M (Option Int)):TO:=λσ H Q=>∃c0:Cf,c0.σ=σ/\c0.H=H/\Ok C c0/\W m c0.st λi st'=>∀c,c.σ=σ->c.st=st'->Ok C c->Nx c0 c->Q i c.H
def vI:PO X cb (tO C (pure cb)):=by
 rintro pins s σ H Q I ⟨c0,rfl,rfl,f,h⟩;rw[au]at h;show zO pins s c0.σ c0.H Q I (h c0 rfl rfl f (Nx.refl c0))
def vJ(f:PE X a (Hn C ma)):PO X (bD a) (tO C (ma >>= Dw)):=by
 rintro pins s σ H Q I ⟨c0,rfl,rfl,g,h⟩;show zP f pins s c0.σ c0.H Q I (aX g h λx c v t w=>?_);have⟨k,u⟩:=x;unfold Dw at w;split at w
 .rename_i i e
  dsimp only at e
  subst e;rw[au]at w;show⟨i,t.rx.int t.ok,w c t.hσ rfl t.ok t.nx⟩
 .show(bt.mp w).elim
def DC{lo f:Option Int}(l:C.K=X.K)(i:c.σ=c0.σ)(g:Ok C c)(n:Nx c0 c)(j:aM C c0 c x.1 x.2 k)(h:la x lo f=bD r)(q:cv C c0 Q r c.st):
  E2 X.K k lo f c.H Q\/E6 k lo f c.H Q:=by
 unfold la at h;split at h
 .split at h
  .rename_i o;cases h;have⟨a',vs,ex,t,u⟩:=j.list g;show .inl ⟨a',vs,ex,l▸t,λp v=>q.list i g n ((eS o u).cut lo f) p v⟩
  .cases h
 .split at h
  .cases h;show .inr ⟨_,j.str g,by assumption,q.flat i g n rfl⟩
  .cases h
 .cases h
def AK{lo g:Option nz}(n:C.K=X.K)(o:PE X a (Hn C ma))(hl:PO X lo (tO C ml))(u:PO X g (tO C y)):
  PE X (.Subscript a (.Slice lo g cb p2) pos) (Hn C (ma >>= λx=>ml >>= λl=>y >>= λh=>aJ [x] >>= λ_=>M.HA (la x l h))):=by
 show PE.weak (wF (LZ.or zS Dd) o hl u) ?_;rintro σ H Q ⟨c0,rfl,rfl,z,h⟩;show aX z h λx c v t w=>?_;rw[ai]at w;show⟨c,t.hσ,rfl,t.ok,w.mono λl st2 i A B D G I=>?_⟩;subst D;rw[ai]at i;show⟨A,B,rfl,G,i.mono λT Y f J j L N O=>?_⟩;subst L;rw[ai,cJ]at f;have⟨r,e,q⟩:=b_.mp f.2;have k:Nx c J:=I.trans O;show DC n j N (t.nx.trans k) ((t.rx.w.on t.ok k (j.trans t.hσ.symm)).t f.1) e q
end
section
variable{X:Cx}{C:Ct}{pins:List (hU×Obj)}{s:hH}{c0 c c1:Cf}
variable{a b d e:nz}{es:List nz}{m ma mb md:M (Kd×U)}{ms:M (List (Kd×U))}{ta tb:M Bool}{pos p p2:Pos}
abbrev Bf.val:Bf->et
 |.len=>.builtin "len"|.sorted=>.builtin "sorted"|.repr=>.builtin "repr"|.max=>.builtin "max"|.min=>.builtin "min"|.all=>.builtin "all"|.any=>.builtin "any"
 |.list=>.type "list"|.tuple=>.type "tuple"|.str=>.type "str"|.int=>.type "int"
abbrev Bf.name:Bf->Str
 |.len=>"len"|.sorted=>"sorted"|.repr=>"repr"|.max=>"max"|.min=>"min"|.all=>"all"|.any=>"any"
 |.list=>"list"|.tuple=>"tuple"|.str=>"str"|.int=>"int"
def call_of(g:jA X f r)(I:Inv X pins c.σ c.H s)(rv:Vals vs us)(h:r vs c.H Q):ez (hW X.prog X.w) X.A (N0 f us) (EP X pins c.σ Q) X.xe s:=g pins s c.σ c.H vs us Q I rv h
def cw(h:ji f rs=bD r):∃x,rs=[x]/\f x=bD r:=by
 unfold ji at h;split at h
 .show⟨_,rfl,h⟩
 .cases h
def B3(G:X.calm=b6)(y:C.K=X.K)(N:X.A.guards=bD [])(O:X.A.units+60<Lk)(t:JJ C c0 c rs vs)(I:Inv X pins c.σ c.H s)(rv:Vals vs us)(h:Jw f rs=bD r)(q:cv C c0 Q r c.st):
  ez (hW X.prog X.w) X.A (N0 f.val us) (EP X pins c.σ Q) X.xe s:=by
 have u:=t.hσ;have g:=t.ok;have n:=t.nx;cases f with
 |len =>
  have⟨x,rfl,hz⟩:=cw (f:=λx=>(Dp x.2).map λ(n:Nat)=>(Kd.loc,U.int (n:Int))) h;clear h;have h:=hz;clear hz;rw[hA]at h;have⟨k,e,rfl⟩:=h;have⟨v,rfl,l⟩:=t.one;have⟨T,D⟩:=x;unfold Dp at e;split at e
  .rename_i xs o;have o:D=.lst xs:=o;subst o;cases e;have⟨a',ws,ex,i,j⟩:=l.list g;rw[j.len]at q;show call_of iy I rv ⟨a',ws,by rw[ex],.inl (y▸i),q.flat u g n rfl⟩
  .rename_i xs o;have o:D=.tup xs:=o;subst o;cases e;have⟨a',ws,ex,i,j⟩:=l.tuple g;rw[y]at i;rw[j.len]at q;show call_of iy I rv ⟨a',ws,by rw[ex],.inr i,q.flat u g n rfl⟩
  .rename_i xs o;have o:D=.str xs:=o;subst o;split at e
   .cases e;show call_of oy I rv ⟨_,by rw[l.str g],by assumption,q.flat u g n rfl⟩
   .cases e
  .cases e
 |sorted =>
  have⟨x,rfl,hz⟩:=cw (f:=Dq) h;clear h;have h:=hz;clear hz;have⟨v,rfl,l⟩:=t.one;unfold Dq at h;split at h
  .rw[r6]at h;have⟨ss,e,h⟩:=h;have B:=cQ e;subst B;have⟨a',ws,ex,i,j⟩:=l.list g;rw[ak.strs]at j;subst j;split at h
   .cases h;show call_of jE I rv ⟨a',ss,by rw[ex],.inl (y▸i),by assumption,λp z=>q.list u g n (ak.strs.mpr rfl) p z⟩
   .cases h
  .obtain⟨a',kvs,ex,i,j,_⟩:=l.dict g;split at h
   .cases h;show call_of (jh G) I rv ⟨a',kvs,_,by rw[ex],i,j,by assumption,λp z=>q.list u g n (ak.strs.mpr rfl) p z⟩
   .cases h
  .rw[r6]at h;have⟨ss,e,h⟩:=h;have B:=cQ e;subst B;have⟨a',ws,ex,i,j⟩:=l.tuple g;rw[y]at i;rw[ak.strs]at j;subst j;split at h
   .cases h;show call_of jE I rv ⟨a',ss,by rw[ex],.inr i,by assumption,λp z=>q.list u g n (ak.strs.mpr rfl) p z⟩
   .cases h
  .cases h
 |tuple =>
  have⟨x,rfl,hz⟩:=cw (f:=Dr) h;clear h;have h:=hz;clear hz;have⟨v,rfl,l⟩:=t.one;unfold Dr at h;split at h
  .have⟨a',ws,ex,i,j⟩:=l.list g;cases h;show call_of gK I rv ⟨a',ws,by rw[ex],.inl ⟨y▸i,λp z=>q.tupK u g n j p z⟩⟩
  .have⟨a',ws,ex,i,j⟩:=l.tuple g;have J:=i;rw[y]at J;cases h;show call_of gK I rv ⟨a',ws,by rw[ex],.inr ⟨J,q c (.ref a') u rfl g n (aM.item ⟨a',ws,rfl,i,j⟩)⟩⟩
  .cases h
 |str =>
  have⟨x,rfl,hz⟩:=cw (f:=Aq) h;clear h;have h:=hz;clear hz;have⟨v,rfl,l⟩:=t.one;unfold Aq at h;split at h
  .split at h
   .cases h;show call_of om I rv ⟨_,by rw[l.int g],by assumption,q.flat u g n rfl⟩
   .cases h
  .cases h
 |all =>
  have⟨x,rfl,hz⟩:=cw (f:=Ds) h;clear h;have h:=hz;clear hz;have⟨v,rfl,l⟩:=t.one;unfold Ds at h;split at h
  .rw[hA]at h;have⟨L,e,rfl⟩:=h;have B:=lp e;subst B;have⟨a',ws,ex,i,j⟩:=l.list g;have:=j.UL;subst this;show call_of (wU G) I rv ⟨a',L,by rw[ex],y▸i,q.flat u g n rfl⟩
  .cases h
 |_=>cases h
def AL{id:String}(g:X.calm=b6)(i:C.K=X.K)(j:X.A.guards=bD [])(k:X.A.units+60<Lk)(l:f.val=.builtin id)(n:Gl X x)(o:X.mg x=cb)(u:wk x=bD (.builtin id))(v:x≠"__name__")(y:(x==("__debug__":Str))=cK)
  (B:PA X (e::es) (IU C ms)) (D:i9 (e::es) X.env=(cK,HD e X.env)::i9 es X.env) (G:(Jx pos (i9 es X.env)).any (·.1)=cK) :
  PE X (.Call (.Name x p) (e::es) [] pos) (Hn C (ms >>= λrs=>aJ rs >>= λ_=>M.HA (Jw f rs))):=by
 rintro pins s σ H Q I ⟨c0,rfl,rfl,J,h⟩;show wh (da I n o u ?_ v y);show Sw (Hl (args B I J h pos) λus s1 ⟨rs,c,vs,t,L,rv,w⟩=>?_) D G;have⟨r,e,q⟩:=b_.mp w;have z:=B3 g i j k t L rv e q;rw[l,t.hσ]at z;show z
def AM(g:X.calm=b6)(i:C.K=X.K)(j:X.A.guards=bD [])(k:X.A.units+60<Lk)(l:f.val=.type T)(n:Gl X x)(o:X.mg x=cb)(u:wk x=bD (.type T))(v:x≠"__name__")(y:(x==("__debug__":Str))=cK)
  (B:PA X (e::es) (IU C ms)) (D:i9 (e::es) X.env=(cK,HD e X.env)::i9 es X.env) (G:(Jx pos (i9 es X.env)).any (·.1)=cK) :
  PE X (.Call (.Name x p) (e::es) [] pos) (Hn C (ms >>= λrs=>aJ rs >>= λ_=>M.HA (Jw f rs))):=by
 rintro pins s σ H Q I ⟨c0,rfl,rfl,J,h⟩;show wh (da I n o u ?_ v y);show Kj (Hl (args B I J h pos) λus s1 ⟨rs,c,vs,t,L,rv,w⟩=>?_) D G;have⟨r,e,q⟩:=b_.mp w;have z:=B3 g i j k t L rv e q;rw[l,t.hσ]at z;show z
abbrev JH.name:JH->Str
 |.str=>"str"|.list=>"list"|.tuple=>"tuple"|.int=>"int"|.bool=>"bool"
abbrev JH.nm:JH->String
 |.str=>"str"|.list=>"list"|.tuple=>"tuple"|.int=>"int"|.bool=>"bool"
def AN(T:JH):wk T.name=bD (.type T.nm)/\T.name≠"__name__"/\(T.name==("__debug__":Str))=cK:=by
 cases T<;>show⟨by decide +kernel,by decide +kernel,by decide +kernel⟩
def iM(T:JH):ZS (.type T.nm)=pure (.type "type"):=by cases T<;>kernel_rfl
def j7(T:JH):Pd (.type "str") (.type T.nm)=pure (df (T=.str)):=by cases T<;>(rw[JF];kernel_rfl)
def sub_int(T:JH):Pd (.type "int") (.type T.nm)=pure (df (T=.int)):=by cases T<;>(rw[JF];kernel_rfl)
def ne_str{T:JH}(h:¬T=.str):(sL "str"==sL T.nm)=cK:=by cases T<;>first|show absurd rfl h|decide
def ne_int{T:JH}(h:¬T=.int):(sL "int"==sL T.nm)=cK:=by cases T<;>first|show absurd rfl h|decide
def ql(T:JH):Pd (.type "list") (.type T.nm)=pure (df (T=.list)):=by cases T<;>(rw[JF];kernel_rfl)
def tX(T:JH):Pd (.type "tuple") (.type T.nm)=pure (df (T=.tuple)):=by cases T<;>(rw[JF];kernel_rfl)
def AO{T:JH}(h:¬T=.list):(sL "list"==sL T.nm)=cK:=by cases T<;>first|show absurd rfl h|decide
def DE{T:JH}(h:¬T=.tuple):(sL "tuple"==sL T.nm)=cK:=by cases T<;>first|show absurd rfl h|decide
def DF{b:Bool}(B:C.K=X.K)(t:LO C c0 c x v)(I:Inv X pins c.σ c.H s)(rv:RelV v i)(h:oQ x.2 T=bD b)(q:∀l,Q (.bool b) {s with toks:=l}):
  ez (hW X.prog X.w) X.A (N0 (.builtin "isinstance") [i,.type T.nm]) Q X.xe s:=by
 have⟨k,u⟩:=x;have⟨Y,j,n,r⟩:=t;have G:Q (.bool b) s:=q s.toks
 dsimp only at h r
 have g:∀{D:String},b=b6->s.TypeIs i D->Pd (.type D) (.type T.nm)=pure b6->ez (hW X.prog X.w) X.A (N0 (.builtin "isinstance") [i,.type T.nm]) Q X.xe s:=λe J hs=>by
  subst e;show ä J (iM T) hs G
 unfold oQ at h;split at h
 .cases h;have e:v=_:=r.str j;subst e;have⟨l,rfl⟩:=rv;by_cases f:T=.str
  .subst f;show g (by simp) (X3 s _ l) (j7 .str)
  .rw[ù f]at q;show Tr (isinstance_false_str (ne_str f) (iM T) (by rw[j7,ù f])) (q _)
 .cases h;have e:v=_:=r.int j;subst e;have⟨l,rfl⟩:=rv;by_cases f:T=.int
  .subst f;show g (by simp) (typeIs_int s _ l) (sub_int .int)
  .rw[ù f]at q;show Tr (isinstance_false_int (ne_int f) (iM T) (by rw[sub_int,ù f])) (q _)
 .cases h;have e:v=_:=r.bl j;subst e;cases rv;show g rfl (PySem.typeIs_bool s _) (by rw[JF];kernel_rfl)
 .cases h;have e:v=_:=r.bl j;subst e;cases rv;show g rfl (PySem.typeIs_bool s _) (by rw[JF];kernel_rfl)
 .cases h;have⟨a',ws,rfl,y,L⟩:=r.list j;cases rv;rw[B]at y;obtain⟨N,_,O,_⟩:=I.list y;obtain⟨o,ho,z,_⟩:=O.isList;by_cases f:T=.list
  .subst f;show g (by simp) ⟨o,ho,z⟩ (ql .list)
  .rw[ù f]at q;show Tr (isinstance_false_list (AO f) (iM T) (by rw[ql,ù f])) ⟨⟨o,ho,z⟩,q _⟩
 .cases h;have⟨a',ws,rfl,y,L⟩:=r.tuple j;cases rv;rw[B]at y;obtain⟨N,_,⟨o,ho,z,_⟩,_⟩:=I.tuple y;by_cases f:T=.tuple
  .subst f;show g (by simp) ⟨o,ho,z⟩ (tX .tuple)
  .rw[ù f]at q;show Tr (isinstance_false_tuple (DE f) (iM T) (by rw[tX,ù f])) ⟨⟨o,ho,z⟩,q _⟩
 .cases h
def tY(g:C.K=X.K)(i:Gl X "isinstance")(j:X.mg "isinstance"=cb)(k:Gl X T.name)(l:X.mg T.name=cb)(n:PE X a (Hn C ma))(hs:i9 [a,.Name T.name p2] X.env=(cK,HD a X.env)::i9 [.Name T.name p2] X.env):
  PE X (.Call (.Name "isinstance" p) [a,.Name T.name p2] [] pos) (Hn C (ma >>= λx=>M.HA (oQ x.2 T) >>= λb=>pure (.loc,.bl b))):=by
 rintro pins s σ H Q I ⟨c0,rfl,rfl,o,h⟩;have⟨q,r,u⟩:=AN T;show wh (da I i j (show wk "isinstance"=bD (.builtin "isinstance") by decide +kernel) ?_ (by decide +kernel) (by decide +kernel));show Sw (Hl (fc n (fc (zB (v:=.ty T.nm) k l q rfl r u) jd) hs pos pins s c0.σ c0.H (λvs H'=>∃x c v b,LO C c0 c x v/\c.H=H'/\vs=[v,.ty T.nm]/\oQ x.2 T=bD b/\cv C c0 Q (.loc,.bl b) c.st) I ?_) λus s1 ⟨vs,N,f,y,x,c,v,b,t,e,A,B,w⟩=>?_) hs (by rfl)
 .show aX o h λx c v t w=>?_;rw[ai]at w;have⟨b,e,w⟩:=b_.mp w;rw[au]at w;show⟨x,c,v,b,t,rfl,rfl,e,w⟩
 .subst e A;have⟨O,Y,rfl,D,G⟩:=vals2 y;cases G;have J:Inv X pins c.σ c.H s1:=by rw[t.hσ];show f
  have z:=DF (Q:=EP X pins c0.σ Q) g t J D B λL=>⟨.bl b,c.H,f.tok L,rfl,w c (.bl b) t.hσ rfl t.ok t.nx rfl⟩
  show z
@[reducible]def Lv(P:Hr)(w:IT)(K:PySem.W.Frag)(H:Hp)(f:hU->Prop):Ct:=⟨P,w,K,H,f,λ_=>False⟩
structure Back(C:Ct)(H H':Hp)(S':hU->Prop)(k:Kd)(u:U)(v:V):Prop where
 same:zW H H'
 new:∀a,S' a->H a=cb/\∃o,H' a=bD o
 own:k=.own->∃r,v=.ref r/\H r=cb/\¬S' r/\cW C S' H' r u
 loc:k=.loc->Rep C S' H' u v
 any:k=.any->Rep C (PS C S') H' u v
abbrev spT(P:Hr)(w:IT)(K:PySem.W.Frag)(F:List U->Option (Ex (Kd×U)))(g:Nat):Sp:=λvs H Q _=>vs.length=g/\∃us k u f,F us=bD (.ok (k,u))/\(k=.own\/k=.loc\/k=.any)/\(∀a,f a->JT H a) /\
 ak (Lv P w K H f) f H us vs/\∀v H' S',Back (Lv P w K H f) H H' S' k u v->Q v H'
def JJ.read(t:JJ C c0 c rs vs):ak C (JT c.H) c.H (rs.map (·.2)) vs:=by
 have f:∀(l:List (Kd×U)) (w:List V),cP C c0 c l w->bc l c.st->ak C (JT c.H) c.H (l.map (·.2)) w:=by
  intro l;induction l with
  |nil=>intro w h _;show h
  |cons r l g =>
   intro w h hs;obtain⟨v,t',rfl,i,j,_⟩:=h;rw[eR]at hs;show⟨v,t',rfl,(i.t hs.1).read t.ok,g t' j hs.2⟩
 show f rs vs t.rep t.LP
def Back.here(hk:k=.own\/k=.loc)(i:c.σ=c0.σ)(f:Ok C c)(n:Nx c0 c)(q:j.Eqv C)(h:Back j c.H H' S' k u v)(w:cv C c0 Q (k,u) c.st):Q v H':=by
 have⟨l,t⟩:=f.grow (S':=λa=>c.S a\/S' a) h.same (λa z=>z.imp id λz=>h.new a z) λa=>.inl;have x:=n.trans t;show w {c with H:=H',S:=λa=>c.S a\/S' a} v i rfl l x ?_;rcases hk with rfl|rfl
 .have⟨r,e,g,y,A⟩:=h.own rfl;have⟨G,B,I,J,D⟩:=f.jW g;show⟨r,e,n.none g,λz=>z.elim B y,D,(A.cg q).mv (.up λa=>.inr) λo q=>q⟩
 .show((h.loc rfl).cg q).mv (.up λa=>.inr)
def xK(o:C.P=X.prog)(x:C.w=X.w)(y:C.K=X.K)(L:Γ f=F)(hk:∀us k u,F us=bD (.ok (k,u))->(k=.own\/k=.loc\/k=.any)/\us.length=B)
  (G:kJ X.prog X.w X.K X.mg X.base KD k fa N ps (spT X.prog X.w X.K F B)) (O:gE k X.A) (T:Gl X f) (Y:X.mg f=bD (.ref fa)) (OP:PySem.W.keepIn X.K (.ref fa)=b6) (j:Binds X.K N ps [])
  (MR:(f==("__debug__":Str))=cK) (ha:PA X (e::es) (IU C ms)) (he:i9 (e::es) X.env=(cK,HD e X.env)::i9 es X.env) (Ic:(Jx pos (i9 es X.env)).any (·.1)=cK) :
  PE X (.Call (.Name f p) (e::es) [] pos) (Hn C (ms >>= λrs=>aJ rs >>= λ_=>lb Γ f (rs.map (·.2)))):=by
 rintro pins s σ H Q I ⟨c0,rfl,rfl,ok,h⟩;show wh (og I T Y ?_ MR);show PySem.W.callWith_K (h₀:=X.base) I.ok.mod.Pw OP (Hl (args ha I ok h pos) λus s1 ⟨rs,c,vs,t,D,rv,w⟩=>⟨D.Mp,?_⟩) he Ic;have⟨r,st',g,q⟩:=w;unfold lb at g;rw[L]at g;cases i:F (rs.map (·.2)) with
 |none=>rw[i]at g;cases g
 |some r' =>
  rw[i]at g;split at g
  .cases g
  .rename_i z;cases z
  rename_i W3 e3;cases e3;cases g;have⟨l,u⟩:=r;have⟨k0,k2⟩:=hk _ _ _ i;have k1:l=.own\/l=.loc:=by
   rcases k0 with z|z|z
   .show .inl z
   .show .inr z
   .subst z;show(W3 u rfl).elim
  have n:C.Eqv (Lv X.prog X.w X.K c.H (JT c.H)):=⟨o,x,y⟩
  have K9:(Lv X.prog X.w X.K c.H (JT c.H)).Eqv C:=⟨o.symm,x.symm,y.symm⟩
  have J:=t.read;have JO:spT X.prog X.w X.K F B vs c.H (λv H'=>Q v H') E0:=⟨by rw[<-J.len];show k2,rs.map (·.2),l,u,JT c.H,i,k0,λ_ z=>z,J.cg n,λv H' S' j=>j.here k1 t.hσ t.ok t.nx K9 q⟩
  have z:=wD (Q:=Q) G O j .nil BV D rv (by rw[u7];show JO);rw[t.hσ]at z;show z
end
section
abbrev Mf.id:Mf->String
 |.split=>"str.split"|.join=>"str.join"|.partition=>"str.partition"|.endswith=>"str.endswith"
abbrev Mf.name:Mf->Str
 |.split=>"split"|.join=>"join"|.partition=>"partition"|.endswith=>"endswith"
def xM(h:mC f u rs=bD r):∃x,u=.str x:=by
 unfold mC at h;split at h
 .show⟨_,rfl⟩
 .cases h
def DG(k:C.K=X.K)(t:JJ C c0 c (x::rs) (b::vs))(I:Inv X a c.σ c.H s)(l:RelV b v)(rv:Vals vs us)(h:mC f x.2 rs=bD r)(q:cv C c0 Q r c.st):
  ez (hW X.prog X.w) X.A (N0 (.builtin f.id) (v::us)) (EP X a c.σ Q) X.xe s:=by
 have m:=t.hσ;have d:=t.ok;have n:=t.nx;have⟨o,p⟩:=x;have hs:=eR.mp t.LP;obtain⟨G,J,u,g,i,-⟩:=t.rep;cases u;have y:aM C c0 c o p b:=g.t hs.1;have one:∀{r:Kd×U},cP C c0 c [r] vs->bc [r] c.st->∃v,vs=[v]/\aM C c0 c r.1 r.2 v:=λ{r} h s=>by
  obtain⟨v,t',rfl,g,i,_⟩:=h;cases i;show⟨v,rfl,g.t s⟩
 dsimp only at h
 unfold mC at h;split at h
 .rw[r6]at h;have⟨ss,e,h⟩:=h;have z:=cQ e;subst z;have⟨w,rfl,B⟩:=one i hs.2;have⟨a',ws,ex,D,j⟩:=B.list d;rw[ak.strs]at j;subst j;split at h
  .cases h;show Aa a s c.σ c.H b [w] v us Q I l rv ⟨_,a',ss,y.str d,by rw[ex],k▸D,by assumption,q.flat m d n rfl⟩
  .cases h
 .cases h
def AQ(L:C.K=X.K)(slot:Slot "str" name f.id)(N:ZS (.builtin f.id)=pure (.type "method_descriptor"))(ho:PE X o (Hn C m))(O:PA X (e::es) (IU C ms))
  (T:RZ o name X.env (HD o X.env)=HD o X.env)
  (Y:((Jx b (i9 (e::es) X.env)).all (λx=>!x.1)&&(Po b (LW [] X.env)).all (λx=>x.1.isSome)
   && df ((e::es).length+([]:List Ni).length+(if ([]:List Ni).isEmpty then 0 else 1)<30))=b6)
  (Hw:(g.endLine==b.line)=b6) (hs:i9 (e::es) X.env=(cK,HD e X.env)::i9 es X.env) (Iw:(Jx b (i9 es X.env)).any (·.1)=cK) :
  PE X (.Call (.Attribute o name g) (e::es) [] b) (Hn C (m >>= λx=>ms >>= λrs=>aJ (x::rs) >>= λ_=>M.HA (mC f x.2 rs))):=by
 rintro a s σ H Q I ⟨c0,rfl,rfl,ok,h⟩;show Y1 T Y Hw rfl (Hl (ho a s c0.σ c0.H (λj p=>∃x c1,c1.H=p/\LO C c0 c1 x j/\W (ms >>= λrs=>aJ (x::rs) >>= λ_=>M.HA (mC f x.2 rs)) c1.st (cv C c0 Q)) I (aX ok h λx c v t w=>⟨x,c,rfl,t,w⟩)) ?_);rintro v s1 ⟨j,p,u,y,x,c1,rfl,t,w⟩;have MS:∃z,x.2=.str z:=by
  rw[ai]at w;obtain⟨rs,st2,_,w⟩:=w;rw[ai]at w;obtain⟨_,HU,_,w⟩:=w;obtain⟨r,e,_⟩:=b_.mp w;show xM e
 have⟨z,hz⟩:=MS;have A:=t.rx;rw[hz]at A;have ev:=A.str t.ok;have ty:PK X.K "str" j c1.H:=by rw[ev];rfl
 have⟨h1,h2⟩:=oz u y ty;show⟨"str",f.id,PySem.F.plainAttrs_str,slot,N,h1,h2,?_⟩;rw[ai]at w;have B:=O b a s1 c0.σ c1.H (λvs D=>∃rs d,d.H=D/\JJ C c0 d (x::rs) (j::vs)/\W (M.HA (mC f x.2 rs)) d.st (cv C c0 Q)) u ⟨c1,t.hσ,rfl,t.ok,w.mono λrs st2 l d vs G e4 HI J k=>by
  rw[ai,cJ]at l;subst e4;show⟨rs,d,rfl,⟨G,HI,t.nx.trans J,⟨j,vs,rfl,t.rx.w.on t.ok J (G.trans t.hσ.symm),k.from t.nx,λhk i r' v' e5 e6 Ig=>oR t.rx.w (k.get e5 e6) hk Ig⟩,l.1⟩,l.2⟩⟩
 rw[hs]at B ⊢;show Jl (by change(cK||(Jx b (i9 es X.env)).any (·.1))=cK;rw[Iw]<;>rfl) (Nc ?_);show Hl B ?_;rintro us s2 ⟨vs,D,I2,k,rs,d,rfl,n,w2⟩;have⟨r,e,q⟩:=b_.mp w2;have z:=DG L n (by rw[n.hσ];show I2) y k e q;rw[n.hσ]at z;show z
end
section
variable{X:Cx}{C:Ct}{pins:List (hU×Obj)}{s:hH}{c0 c c1:Cf}
variable{e:nz}{es:List nz}{ms:M (List (Kd×U))}{pos p p2 pos2:Pos}
abbrev B2.out:B2->et
 |.K6=>.type "tuple"|.Jv=>.type "list"|.sset=>.builtin "sorted"|.mj=>.builtin "len"
abbrev B2.Qj:B2->et
 |.K6=>.type "reversed"|.Jv=>.type "reversed"|.sset=>.type "set"|.mj=>.type "set"
abbrev B2.oU:B2->Str
 |.K6=>"tuple"|.Jv=>"list"|.sset=>"sorted"|.mj=>"len"
abbrev B2.iN:B2->Str
 |.K6=>"reversed"|.Jv=>"reversed"|.sset=>"set"|.mj=>"set"
theorem ak.rev{S:hU->Prop}:∀{us:List U}{vs:List V},ak C S H us vs->ak C S H us.reverse vs.reverse
 |[],vs,h=>by cases h;show rfl
 |u::us,vs,h=>by
  have⟨v,r,rfl,a,b⟩:=h;rw[Q8,Q8];show(ak.rev b).append ⟨v,[],rfl,a,rfl⟩
def m9(i:C.K=X.K)(j:Ok C c)(l:aM C c0 c k u v)(h:ia u=bD ss):∃a b,v=.ref a/\(HM X.K c.H a (b.map V.str)\/HR X.K c.H a (b.map V.str))/\b.length+1<Ja/\ss=aD b:=by
 unfold ia at h;split at h
 .rw[r6]at h;have⟨b,e,h⟩:=h;have g:=cQ e;subst g;have⟨a',ws,ex,f,d⟩:=l.list j;rw[ak.strs]at d;subst d;split at h
  .cases h;show⟨a',b,ex,.inl (i▸f),by assumption,rfl⟩
  .cases h
 .rw[r6]at h;have⟨b,e,h⟩:=h;have g:=cQ e;subst g;have⟨a',ws,ex,f,d⟩:=l.tuple j;rw[ak.strs]at d;subst d;rw[i]at f;split at h
  .cases h;show⟨a',b,ex,.inr f,by assumption,rfl⟩
  .cases h
 .cases h
def DH(d:X.calm=b6)(k:C.K=X.K)(t:JJ C c0 c rs vs)(I:Inv X pins c.σ c.H s)(rv:Vals vs us)(h:rO f rs=bD r)(q:cv C c0 Q r c.st):
  ez (hW X.prog X.w) X.A (N0 f.Qj us) (λv s1=>ez (hW X.prog X.w) X.A (N0 f.out [v]) (EP X pins c.σ Q) X.xe s1) X.xe s:=by
 have m:=t.hσ;have a:=t.ok;have n:=t.nx;cases f with
 |Jv =>
  have⟨x,rfl,hz⟩:=cw (f:=Dt) h;clear h;have h:=hz;clear hz;have⟨v,rfl,g⟩:=t.one;unfold Dt at h;split at h
  .have⟨a',ws,ex,b,i⟩:=g.list a;rw[k]at b;subst ex;have⟨u,rfl,j⟩:=vals1 rv;cases j;split at h
   .cases h;show xo d I b λl hl=>q.list m a n (eS (by assumption) i).rev l hl
   .cases h
  .cases h
 |sset =>
  have⟨x,rfl,hz⟩:=cw (f:=λx=>(ia x.2).bind λss=>if ss.length<64 then bD (Kd.own,U.lst ((aL ss).map .str)) else cb) h;clear h;have h:=hz;clear hz;have⟨ss,e,h⟩:=r6.mp h;have⟨v,rfl,g⟩:=t.one;have⟨a',z,rfl,b,i,rfl⟩:=m9 k a g e;have⟨u,rfl,j⟩:=vals1 rv;cases j;split at h
  .cases h;show oK d I b i λS h' B o y=>gO d y o (by assumption) λl hl=>q.list m a n (ak.strs.mpr rfl) l hl
  .cases h
 |_=>cases h
def tZ:∀f:B2,wk f.oU=bD f.out/\wk f.iN=bD f.Qj/\f.oU≠"__name__"/\f.iN≠"__name__"/\(f.oU==("__debug__":Str))=cK/\(f.iN==("__debug__":Str))=cK:=by
 intro f;cases f<;>show⟨by decide +kernel,by decide +kernel,by decide +kernel,by decide +kernel,by decide +kernel,by decide +kernel⟩
def DI(f:B2):∃T,f.Qj=.type T:=by cases f<;>show⟨_,rfl⟩
def DJ(f:B2):(∃T,f.out=.type T)\/∃T,f.out=.builtin T:=by cases f<;>first|show .inl ⟨_,rfl⟩|show .inr ⟨_,rfl⟩
def t5{M:Model}{E:et->hH->Prop}(h:ez M A t (λv a=>ez M A (N0 (.type T) [v]) Q E a) E s):ez M A (callWith pos (.type T) [] [(cK,t)] []) Q E s :=
 PySem.callWith_type rfl (Nc (Ox (uv h (λ_ _ b=>Q2 b) λ_ _ e=>e)))
def oV{M:Model}{E:et->hH->Prop}(h:ez M A t (λv a=>ez M A (N0 (.builtin T) [v]) Q E a) E s):ez M A (callWith pos (.builtin T) [] [(cK,t)] []) Q E s :=
 Jl rfl (Nc (Ox (uv h (λ_ _ b=>Q2 b) λ_ _ e=>e)))
def xN(b:X.calm=b6)(d:C.K=X.K)(g:Gl X f.iN)(i:X.mg f.iN=cb)
  (j:PA X (e::es) (IU C ms)) (k:i9 (e::es) X.env=(cK,HD e X.env)::i9 es X.env) (l:(Jx pos2 (i9 es X.env)).any (·.1)=cK)
  (I:Inv X pins c0.σ c0.H s) (m:Ok C c0) (h:W (ms >>= λrs=>aJ rs >>= λ_=>M.HA (rO f rs)) c0.st (cv C c0 Q)) :
  ez (hW X.prog X.w) X.A (HD (.Call (.Name f.iN p2) (e::es) [] pos2) X.env) (λv s1=>ez (hW X.prog X.w) X.A (N0 f.out [v]) (EP X pins c0.σ Q) X.xe s1) X.xe s:=by
 have⟨b1,n,b3,b4,B,o⟩:=tZ f;show wh (da I g i n ?_ b4 o);have a:ez (hW X.prog X.w) X.A (Z8 (Jx pos2 (i9 (e::es) X.env))) (λus s1=>ez (hW X.prog X.w) X.A (N0 f.Qj us) (λv s1=>ez (hW X.prog X.w) X.A (N0 f.out [v]) (EP X pins c0.σ Q) X.xe s1) X.xe s1) X.xe s :=
  Hl (args j I m h pos2) λus s1 u=>by
   have⟨rs,c,vs,t,x,rv,w⟩:=u;have⟨r,e,q⟩:=b_.mp w;have z:=DH b d t x rv e q;rw[t.hσ]at z;show z
 have⟨T,y⟩:=DI f;rw[y]at a ⊢;show Kj a k l
def AR(d:X.calm=b6)(g:C.K=X.K)(i:Gl X f.oU)(j:X.mg f.oU=cb)(k:Gl X f.iN)(l:X.mg f.iN=cb)
  (m:PA X (e::es) (IU C ms)) (n:i9 (e::es) X.env=(cK,HD e X.env)::i9 es X.env) (o:(Jx pos2 (i9 es X.env)).any (·.1)=cK) :
  PE X (.Call (.Name f.oU p) [.Call (.Name f.iN p2) (e::es) [] pos2] [] pos) (Hn C (ms >>= λrs=>aJ rs >>= λ_=>M.HA (rO f rs))):=by
 rintro pins s σ H Q I ⟨c0,rfl,rfl,q,h⟩;have⟨b1,v,b3,b4,r,w⟩:=tZ f;show wh (da I i j b1 ?_ b3 r);have a:=xN (p2:=p2) (pos2:=pos2) d g k l m n o I q h;have t:Jx pos (i9 [.Call (.Name f.iN p2) (e::es) [] pos2] X.env)=[(cK,HD (.Call (.Name f.iN p2) (e::es) [] pos2) X.env)]:=rfl;have u:Po pos (LW [] X.env)=[]:=rfl;rw[t,u];rcases DJ f with⟨T,b⟩|⟨T,b⟩
 .rw[b]at a ⊢;show t5 a
 .rw[b]at a ⊢;show oV a
end
section
variable{X:Cx}{C:Ct}{pins:List (hU×Obj)}{s:hH}{c0 c c1:Cf}
variable{a b d e o tg:nz}{es:List nz}{m ma mb md:M (Kd×U)}{ms:M (List (Kd×U))}{ta tb:M Bool}{pos p p2 apos F':Pos}
abbrev jI(rs:List (Kd×U))(c f:Cf):Prop:=∀j u,(Kd.bor j,u)∈rs->f.σ[j]?=c.σ[j]?
abbrev Walk(C:Ct)(c:Cf)(rs:List (Kd×U))(xs:List (Kd×U))(J:It):Prop:=∀f,Ok C f->Ns c f->jI rs c f->bc rs f.st ->
 (∀(i:Nat) r,xs[i]?=bD r->(r.1=.loc\/r.1=.any)/\J.go i f.H/\∀x H',J.PD i f.H x H'->∃g:Cf,g.H=H'/\g.σ=f.σ/\g.st=f.st/\Ok C g/\Nx f g/\aM C f g r.1 r.2 x) /\
 ∀i:Nat,xs.length<=i->J.stop i f.H
abbrev K_(C:Ct)(ik:Ik)(ms:M (List (Kd×U))):TI:=λσ H R=>∃c0:Cf,c0.σ=σ/\c0.H=H/\Ok C c0/\W (ms >>= λrs=>aJ rs >>= λ_=>M.HA (Jk ik rs) >>= λxs=>pure (rs,xs)) c0.st λq st' =>
 ∀c J,c.σ=σ->c.st=st'->Ok C c->Nx c0 c->bc q.1 c.st->Walk C c q.1 q.2 J->R J c.H
def aM.walk(g:Ok C c)(n:Ns c f)(i:jI [r] c f)(hs:bc [r] f.st)(h:aM C c0 c r.1 r.2 v):aM C c0 f r.1 r.2 v :=
 (h.w.UJ g n λj e=>i j r.2 (by rw[<-e];simp)).t hs
def xO(k:Kd):kE k=.loc\/kE k=.any:=by cases k<;>simp[kE]
def vK(z:C.K=X.K)(A:Ok C c)(h:aM C c0 c k (.lst us) (.ref a')):Walk C c [(k,.lst us)] (us.map λu=>(kE k,u)) (QU X.K a'):=by
 intro l q n B hs;have h':=aM.walk (r:=(k,.lst us)) A n B hs h;have⟨H,vs,e,f,t⟩:=h'.list q;cases e;rw[z]at f;show⟨λi r w=>?_,λi D=>⟨vs,f,by rw[<-t.len];simpa using D⟩⟩;rw[ko,hA]at w;have⟨u,G,rfl⟩:=w;have⟨v,y,g⟩:=t.get G;show⟨xO k,⟨vs,v,f,y⟩,λx H' j=>?_⟩;have⟨e,j⟩:=j;subst e;have:=j vs f;rw[y]at this;cases this;show⟨l,rfl,rfl,rfl,q,Nx.refl l,aM.item g⟩
def rS(z:C.K=X.K)(A:Ok C c)(h:aM C c0 c k (.tup us) (.ref a')):Walk C c [(k,.tup us)] (us.map λu=>(kE k,u)) (QV X.K a'):=by
 intro l q n B hs;have h':=aM.walk (r:=(k,.tup us)) A n B hs h;have⟨H,vs,e,f,t⟩:=h'.tuple q;cases e;rw[z]at f;show⟨λi r w=>?_,λi D=>⟨vs,f,by rw[<-t.len];simpa using D⟩⟩;rw[ko,hA]at w;have⟨u,G,rfl⟩:=w;have⟨v,y,g⟩:=t.get G;show⟨xO k,⟨vs,v,f,y⟩,λx H' j=>?_⟩;have⟨e,j⟩:=j;subst e;have:=j vs f;rw[y]at this;cases this;show⟨l,rfl,rfl,rfl,q,Nx.refl l,aM.item g⟩
def rT{lo:Int}:Walk C c rs ((ix n).map λi:Nat=>(Kd.loc,U.int (lo+(i:Int)))) (PH lo n):=by
 intro h l nx t hs;show⟨λi r k=>?_,λi f=>by change n<=i;simpa using f⟩;rw[ko,hA]at k;have⟨j,g,rfl⟩:=k;have f:i<n:=by simpa using(eh.mp g).1
 rw[List.getElem?_range f]at g;cases g;show⟨.inl rfl,f,λy H' q=>?_⟩;have⟨e,rfl⟩:=q;subst e;show⟨h,rfl,rfl,rfl,l,Nx.refl h,rfl⟩
def DK(i:C.K=X.K)(t:PE X a (Hn C ma)):PI X tg a (K_ C .seq (ma >>= λr=>pure [] >>= λrs=>pure (r::rs))):=by
 rintro pins s σ H R I ⟨c0,rfl,rfl,w,h⟩;rw[ai,ai]at h;have⟨r,st1,x,h⟩:=h;rw[ai,au,au,ai,cJ,ai]at h;have⟨y,h⟩:=h;have⟨xs,j,h⟩:=b_.mp h;rw[au]at h;have⟨k,u⟩:=r;cases u with
 |lst us =>
  cases j;show zH t pins s c0.σ c0.H R I ⟨c0,rfl,rfl,w,_,st1,x,λc v l hs g n f=>?_⟩;have⟨a',vs,rfl,q,A⟩:=f.list g;subst hs;show⟨a',rfl,⟨vs,i▸q⟩,h c _ l rfl g n y (vK i g f)⟩
 |tup us =>
  cases j;show CQ t pins s c0.σ c0.H R I ⟨c0,rfl,rfl,w,_,st1,x,λc v l hs g n f=>?_⟩;have⟨a',vs,rfl,q,A⟩:=f.tuple g;subst hs;have z:=q;rw[i]at z;show⟨a',rfl,⟨vs,z⟩,h c _ l rfl g n y (rS i g f)⟩
 |_=>cases j
def rU{k:List (Kd×U)->M β}{g:β->aw->Prop}(i:Ok C c0)(h:W (ms >>= λrs=>aJ rs >>= λ_=>k rs) c0.st g)
  (hz:∀rs c vs,JJ C c0 c rs vs->W (k rs) c.st g->Z vs c.H):IU C ms c0.σ c0.H Z:=by
 rw[ai]at h;show⟨c0,rfl,rfl,i,h.mono λrs st1 f c1 vs j l n q r=>?_⟩;rw[ai,cJ]at f;subst l;show hz rs c1 vs ⟨j,n,q,r,f.1⟩ f.2
def AS(i:Gl X "range")(j:X.mg "range"=cb)(hs:i9 [a] X.env=[(cK,HD a X.env)])(k:PA X [a] (IU C ms)):PI X tg (.Call (.Name "range" p) [a] [] pos) (K_ C .IX ms):=by
 rintro pins s σ H R I ⟨c0,rfl,rfl,l,h⟩;show uZ i j k hs pins s c0.σ c0.H R I (rU l h λrs c vs t w=>?_);rw[ai]at w;have⟨xs,g,w⟩:=b_.mp w;rw[au]at w;have⟨x,rfl,hz⟩:=cw (f:=xw) g;clear g;have g:=hz;clear hz;have⟨v,rfl,n⟩:=t.one;unfold xw at g;split at g
 .split at g
  .rename_i q;cases g;show⟨_,by rw[n.int t.ok],⋯,⋯,w c _ t.hσ rfl t.ok t.nx t.LP rT⟩
  .cases g
 .cases g
def qm{k:Kd}{us:List U}{h:U}{a':hU}{w:Hp->List V->Prop}(G:∀f,Ok C f->Ns c f->jI [(k,h)] c f->bc [(k,h)] f.st->∃vs,w f.H vs/\ak C (SK C f k) f.H us vs):Walk C c [(k,h)] (us.zipIdx.map λp=>(kE k,.tup [.int p.2,p.1])) (NC w):=by
 intro f g n I hs;have⟨vs,j,y⟩:=G f g n I hs;show⟨λi r z=>?_,λi J=>⟨vs,j,by rw[<-y.len];simpa using J⟩⟩;rw[ko,hA]at z;have⟨p,A,rfl⟩:=z;rw[Sy,hA]at A;have⟨u,L,rfl⟩:=A;have⟨v,B,l⟩:=y.get L;show⟨xO k,⟨vs,v,j,B⟩,λx H' q=>?_⟩;have⟨p,N,rfl,q⟩:=q;have O:=q vs v j B;subst O;have⟨Q,t⟩:=g.lay (o:=.tup [.int i,v]) N;show⟨{f with H:=upd f.H p (.tup [.int i,v])},rfl,rfl,rfl,Q,t,aM.item ?_⟩;have D:ak C (SK C f k) f.H [.int ((0+i:Nat):Int),u] [.int (i:Int),v]:=by
  rw[OR];show⟨_,_,rfl,rfl,_,_,rfl,l,rfl⟩
 cases k<;>show⟨p,_,rfl,HR.of aA,by first|show D.mv (g.Ls t)|show D.mv (g.mv t)⟩
def DL{es:List nz}{z:Nat}{ps:Pos}(k:C.K=X.K)(A:Gl X "enumerate")(B:X.mg "enumerate"=cb)(hs:i9 [a] X.env=[(cK,HD a X.env)])(D:PA X [a] (IU C ms)):PI X (.Tuple es z ps) (.Call (.Name "enumerate" p) [a] [] pos) (K_ C .LK ms):=by
 rintro pins s σ H R I ⟨c0,rfl,rfl,G,h⟩;show Af A B D hs pins s c0.σ c0.H R I (rU G h λrs c vs t w=>?_);rw[ai]at w;have⟨xs,i,w⟩:=b_.mp w;rw[au]at w;have⟨x,rfl,hz⟩:=cw (f:=Du) i;clear i;have i:=hz;clear hz;have⟨v,rfl,l⟩:=t.one;unfold Du at i;split at i
 .cases i;have⟨a',ws,q,g,j⟩:=l.list t.ok;subst q;show⟨a',rfl,.inl ⟨⟨ws,k▸g⟩,w c _ t.hσ rfl t.ok t.nx t.LP ?_⟩⟩;show qm (a':=a') λJ r n u y=>?_;have⟨L,vs,e,g,j⟩:=(aM.walk t.ok n u y l).list r;cases e;show⟨vs,k▸g,j⟩
 .cases i;have⟨a',ws,q,g,j⟩:=l.tuple t.ok;subst q;rw[k]at g;show⟨a',rfl,.inr ⟨⟨ws,g⟩,w c _ t.hσ rfl t.ok t.nx t.LP ?_⟩⟩;show qm (a':=a') λJ r n u y=>?_;have⟨L,vs,e,g,j⟩:=(aM.walk t.ok n u y l).tuple r;cases e;rw[k]at g;show⟨vs,g,j⟩
 .cases i
def xP(G:∀f,Ok C f->Ns c f->jI [(k,.lst us),(k',.tup ws)] c f->bc [(k,.lst us),(k',.tup ws)] f.st->∃vs xs,HM X.K f.H a' vs/\HR X.K f.H I xs/\ak C (SK C f k) f.H us vs/\ak C (SK C f k') f.H ws xs):
  Walk C c [(k,.lst us),(k',.tup ws)] ((us.zip ws).map λp=>(kT k k',.tup [p.1,p.2])) (Sb (λH xs=>HM X.K H a' xs) λH J=>HR X.K H I J):=by
 intro f j n L hs;have⟨vs,xs,s1,s2,u,y⟩:=G f j n L hs;show⟨λi r A=>?_,λi N=>⟨vs,xs,s1,s2,?_⟩⟩
 .rw[ko,hA]at A;have⟨p,O,rfl⟩:=A;have⟨Q,T⟩:=WO.mp O;have⟨v,B,g⟩:=u.get Q;have⟨w,D,h⟩:=y.get T;show⟨by cases k<;>cases k'<;>simp[kT,isAny],⟨vs,xs,v,w,s1,s2,B,D⟩,λx H' l=>?_⟩;have⟨q,Y,rfl,l⟩:=l;have LB:=l vs xs v w s1 s2 B D;subst LB;have⟨HI,t⟩:=j.lay (o:=.tup [v,w]) Y;show⟨{f with H:=upd f.H q (.tup [v,w])},rfl,rfl,rfl,HI,t,?_⟩;have a1:ak C (SK C f k) f.H [p.1] [v]:=⟨_,_,rfl,g,rfl⟩
  have a2:ak C (SK C f k') f.H [p.2] [w]:=⟨_,_,rfl,h,rfl⟩
  have m:ak C (SK C f (kT k k')) f.H [p.1,p.2] [v,w]:=(a1.mv (.up (xC k k'))).append (a2.mv (.up (tV k k')));have z:aM C f {f with H:=upd f.H q (.tup [v,w])} (kE (kT k k')) (.tup [p.1,p.2]) (.ref q):=aM.item (by
   generalize kT k k'=k0 at m;cases k0<;>show⟨q,_,rfl,HR.of aA,by first|show m.mv (j.Ls t)|show m.mv (j.mv t)⟩)
  rw[B1]at z;show z
 .have e1:=u.len;have e2:=y.len;rw[dt,R0]at N;lia
def qo{st:aw}(h:bc [x,y] st):bc [x] st/\bc [y] st:=by
 have⟨k,u⟩:=x;have⟨k',u'⟩:=y;cases k<;>cases k'<;>first|show⟨h.1,h.2⟩|show⟨⟨h.1,trivial⟩,h.2⟩|show⟨trivial,h⟩|show⟨⟨h.1,trivial⟩,trivial⟩
def DM(i:C.K=X.K)(A:Gl X "zip")(B:X.mg "zip"=cb)(D:i9 (a::[b]) X.env=(cK,HD a X.env)::i9 [b] X.env)(G:(Jx pos (i9 [b] X.env)).any (·.1)=cK)(J:PA X [a,b] (IU C ms)):PI X (.Tuple es kx ps) (.Call (.Name "zip" p) [a,b] [] pos) (K_ C .zip ms):=by
 rintro pins s σ H R I ⟨c0,rfl,rfl,L,h⟩;show Di A B J D G pins s c0.σ c0.H R I (rU L h λrs c vs t w=>?_);rw[ai]at w;have⟨xs,f,w⟩:=b_.mp w;rw[au]at w;have f:Dv rs=bD xs:=f;unfold Dv at f;split at f
 .cases f;have⟨v,v',rfl,k,l⟩:=t.two;have⟨a',N,O,Q,h2⟩:=k.list t.ok;have⟨T,Y,e3,q,h4⟩:=l.tuple t.ok;subst O e3;rw[i]at q;show⟨a',T,rfl,⟨N,i▸Q⟩,⟨Y,q⟩,w c _ t.hσ rfl t.ok t.nx t.LP ?_⟩;show xP λc' r n x y=>?_;have⟨a2,vs,e,g1,g2⟩:=(aM.walk t.ok n (λj u g=>x j u (by simp at g ⊢;show .inl g)) (qo y).1 k).list r;cases e;have⟨a3,HJ,e,z,g4⟩:=(aM.walk t.ok n (λj u g=>x j u (by simp at g ⊢;show .inr g)) (qo y).2 l).tuple r;cases e;rw[i]at z;show⟨vs,HJ,i▸g1,z,g2,g4⟩
 .cases f
def Ok.put(t:Ok C c)(n:Nx c0 c)(hi:i<c.σ.length)(hk:k=.own\/k=.loc\/k=.any)(I_:Ok C c0)(h:aM C c0 c k u v):
  Ok C {c with σ:=c.σ.set i (bD v),st:=c.st.set i (bD (k,u))}/\Nx c0 {c with σ:=c.σ.set i (bD v),st:=c.st.set i (bD (k,u))}:=by
 have IW:i<c.st.length:=by rw[t.len];show hi
 have HF:∀(j:Nat) k' u',(c.st.set i (bD (k,u)))[j]?=bD (bD (k',u'))->j≠i->c.st[j]?=bD (bD (k',u')):=λj k' u' e ne=>by rw[i8 (tj ne)]at e;show e
 have JK:∀(j:Nat) D,(c.σ.set i (bD v))[j]?=bD (bD D)->j≠i->c.σ[j]?=bD (bD D):=λj D e ne=>by rw[i8 (tj ne)]at e;show e
 have sl:fR C c.S c.H k u v:=by
  rcases hk with rfl|rfl|rfl
  .have⟨r,e,G,O,y,Q⟩:=h;have⟨z0,z1,T,z3,z4⟩:=I_.jW G;show⟨r,e,O,T,z0,Q⟩
  .show h
  .show h
 have MU:∀(j:Nat) k' u' r,k'.root=b6->(c.st.set i (bD (k,u)))[j]?=bD (bD (k',u'))->(c.σ.set i (bD v))[j]?=bD (bD (.ref r))->j=i/\k=.own/\v=.ref r\/j≠i/\c.st[j]?=bD (bD (k',u'))/\c.σ[j]?=bD (bD (.ref r)):=λj k' u' r I f g=>by
  by_cases l:j=i
  .subst l;rw[fx IW]at f;rw[fx hi]at g;cases f;cases g;rcases hk with rfl|rfl|rfl
   .show .inl ⟨rfl,rfl,rfl⟩
   .cases I
   .cases I
  .show .inr ⟨l,HF j k' u' f l,JK j _ g l⟩
 have dD:∀(j:Nat) (u':U),(c.st.set i (bD (k,u)))[j]?=bD (bD (.G',u'))->c.st[j]?=bD (bD (.G',u'))/\(c.σ.set i (bD v))[j]?=c.σ[j]?:=λj u' e=>by
  by_cases l:j=i
  .subst l;rw[fx IW]at e;cases e;rcases hk with hk|hk|hk<;>cases hk
  .show⟨HF j .G' u' e l,i8 (tj l)⟩
 have b1:∀a,({c with σ:=c.σ.set i (bD v),st:=c.st.set i (bD (k,u))}:Cf).R1 a->c.R1 a\/k=.own/\v=.ref a:=λa Hx=>by
  have⟨j,k',u',I,f,g⟩:=Hx;rcases MU j k' u' a I f g with⟨Y,w,x⟩|⟨Y,w,x⟩
  .show .inr ⟨w,x⟩
  .show .inl ⟨j,k',u',I,w,x⟩
 have LQ:KI C {c with σ:=c.σ.set i (bD v),st:=c.st.set i (bD (k,u))}:=t.dd.of rfl dD (λa z=>(b1 a z).imp id λ⟨J,L⟩ j z'=>by
  subst J;obtain⟨A,e,_,_,y,_⟩:=h;rw[L]at e;cases e;show y (.inr ⟨j,z'⟩)) (.up λ_ z=>z) λj a z=>⟨(t.root (.inr ⟨j,z⟩)).1,λo q=>q⟩
 show⟨⟨t.same,t.JD,t.par,t.io,by simp[t.len],λj k' u' e=>?_,λj1 j2 k1 k2 u1 u2 r MV OX f g N e4=>?_,LQ⟩,⟨⟨n.keep,n.there,λa z=>?_,n.sub,n.new⟩,λa ⟨j,u',A,f,g,N⟩=>let ⟨J,L⟩:=dD j u' f;n.dk a ⟨j,u',A,J,L▸g,N⟩⟩⟩
 .by_cases l:j=i
  .subst l;rw[fx IW]at e;cases e;show⟨v,by rw[fx hi],sl⟩
  .have⟨D,f,g⟩:=t.sl j k' u' (HF j k' u' e l);show⟨D,by rw[i8 (tj l)];show f,g⟩
 .have z1:=MU j1 k1 u1 r MV f N;have T:=MU j2 k2 u2 r OX g e4;rcases z1 with⟨Y,w,x⟩|⟨Y,w,x⟩
  .rcases T with⟨b1,B,b3⟩|⟨b1,B,b3⟩
   .show Y.trans b1.symm
   .subst w;have⟨A,e,G,O,y,Q⟩:=h;rw[x]at e;cases e;show(y (.inl ⟨j2,k2,u2,OX,B,b3⟩)).elim
  .rcases T with⟨b1,B,b3⟩|⟨b1,B,b3⟩
   .subst B;have⟨A,e,G,O,y,Q⟩:=h;rw[b3]at e;cases e;show(y (.inl ⟨j1,k1,u1,MV,w,x⟩)).elim
   .show t.inj j1 j2 k1 k2 u1 u2 r MV OX w B x b3
 .rcases z with z|⟨j,u',A,f,g,N⟩
  .rcases b1 a z with z|⟨w,x⟩
   .show n.roots a (.inl z)
   .subst w;have⟨A,e,G,O,y,Q⟩:=h;rw[x]at e;cases e;show .inr G
  .have⟨J,L⟩:=dD j u' f;show n.roots a (.inr ⟨j,u',A,J,L▸g,N⟩)
def t6(z:Ok C c0)(q:Ok C c)(n:Nx c0 c)(A:i<c.σ.length)(t:aM C c0 c r.1 r.2 v)(h:W (eQ i r) c.st J):
  ∃y,y.σ=c.σ.set i (bD v)/\y.H=c.H/\Ok C y/\Nx c0 y/\J () y.st:=by
 have⟨k,u⟩:=r;cases k with
 |own =>
  have⟨x,st',e,f⟩:=h;cases e;have⟨g,l⟩:=q.put n A (.inl rfl) z t;show⟨{c with σ:=c.σ.set i (bD v),st:=c.st.set i (bD (.own,u))},rfl,rfl,g,l,f⟩
 |loc =>
  have⟨x,st',e,f⟩:=h;cases e;have⟨g,l⟩:=q.put n A (.inr (.inl rfl)) z t;show⟨{c with σ:=c.σ.set i (bD v),st:=c.st.set i (bD (.loc,u))},rfl,rfl,g,l,f⟩
 |any =>
  have⟨x,st',e,f⟩:=h;cases e;have⟨g,l⟩:=q.put n A (.inr (.inr rfl)) z t;show⟨{c with σ:=c.σ.set i (bD v),st:=c.st.set i (bD (.any,u))},rfl,rfl,g,l,f⟩
 |bor j =>
  have⟨x,st',e,f⟩:=h;rw[show eQ i (.bor j,u) c.st=match c.st[j]? with|some (bD (.own,u))=>bD (Ex.ok (),(c.st.set j (bD (.loc,u))).set i (bD (.loc,u)))|_=>cb from rfl]at e;split at e
  .rename_i w D;cases e;obtain⟨Q,G,r,L,_⟩:=q.sl j _ _ D;have I:c.σ[j]?=bD (bD v):=t.2;rw[I]at G;cases G;subst L;have⟨N,O,B⟩:=q.xI n D I;have⟨g,l⟩:=Ok.put (c:={c with S:=λa=>c.S a\/a=r,st:=c.st.set j (bD (.loc,w))}) N O (k:=.loc) (u:=w) (v:=.ref r) A (.inr (.inl rfl)) z B;show⟨{S:=λa=>c.S a\/a=r,H:=c.H,σ:=c.σ.set i (bD (.ref r)),st:=(c.st.set j (bD (.loc,w))).set i (bD (.loc,w)),kid:=c.kid},rfl,rfl,g,l,f⟩
  .cases e
 |_=>show t.elim
end
section
abbrev tG(C:Ct)(t:Bool)(is:List Nat):TG:=λv σ H Q=>∃c0 c r,c.σ=σ/\c.H=H/\Ok C c0/\Ok C c/\Nx c0 c/\aM C c0 c r.1 r.2 v/\W (dw t is r) c.st λ_ st' =>
 ∀a,a.st=st'->Ok C a->Nx c0 a->(∀j,j∉is->a.σ[j]?=c.σ[j]?)->a.σ.length=c.σ.length->Q a.σ a.H
structure rV(X:Cx)(e:nz)(i:Nat):Prop where
 is:∃x pos,e=.Name x pos/\X.N[i]?=bD x/\Loc X.env.scope x/\(X.fn x=b6\/X.env.scope.names.lookup x=bD .local)
def DN(g:X.N.Nodup)(h:rV X e i):PG X e (tG C cK [i]):=by
 have⟨x,pos,rfl,f,k,l⟩:=h.is;rintro a s σ H v u Q I rv ⟨c0,c,r,rfl,rfl,m,o,n,b,w⟩;have p:i<c.σ.length:=by rw[I.len];show(eh.mp f).1
 have⟨t,d,y,A,B,q⟩:=t6 (r:=r) m o n p b w;show s_ g f k l a s c.σ c.H v u Q I rv ?_;have z:=q t rfl A B (λj D=>by rw[d,i8 (by intro z;show D (by simp[z]))]) (by rw[d];simp);rw[d,y]at z;show z
abbrev SD:List Nat->Nm
 |[]=>EK
 |i::is=>BU (s9 i) (SD is)
inductive fq(X:Cx):List nz->List Nat->Prop where
 |nil:fq X [] []
 |cons {e:nz} {es:List nz} {i:Nat} {is:List Nat} (h:rV X e i) (t:fq X es is):fq X (e::es) (i::is)
def vL(a:X.N.Nodup)(h:fq X es is):N3 X es (SD is):=by
 induction h with
 |nil=>show zF
 |cons h t b =>
  have⟨x,pos,rfl,c,d,e⟩:=h.is;show wt (s_ a c d e) b rfl
def rW(h:fq X es is):(ON es X.env).length=is.length/\(ON es X.env).findIdx? (·.1)=cb:=by
 induction h with
 |nil=>show⟨rfl,rfl⟩
 |cons h t a =>
  have⟨x,pos,rfl,b,c,d⟩:=h.is;show⟨?_,?_⟩
  .change(_::_).length=_;simp[a.1]
  .change Xx _ (_::_)=cb;rw[List.findIdx?_cons,ø (by simp),a.2];rfl
theorem t7(hk:kE k=k)(h:Ok C c0):∀{is:List Nat}{us:List U}{vs:List V}{c:Cf}{d:Unit->aw->Prop}{Q:L2.St->Hp->Prop},Ok C c->Nx c0 c->(∀i∈is,i<c.σ.length)->ak C (SK C c k) c.H us vs->W (sets is (us.map λu=>(k,u))) c.st d ->
  (∀b,d () b.st->Ok C b->Nx c0 b->(∀j,j∉is->b.σ[j]?=c.σ[j]?)->b.σ.length=c.σ.length->Q b.σ b.H)->SD is vs c.σ c.H Q
 |[],[],vs,c,d,Q,ok,n,f,a,w,q=>by
  rw[show sets [] (PM (λu=>(k,u)) [])=pure () from rfl,au]at w;show⟨a,q c w ok n (λ_ _=>rfl) rfl⟩
 |[],u::us,vs,c,d,Q,ok,n,f,a,w,q=>(bt.mp w).elim
 |i::is,[],vs,c,d,Q,ok,n,f,a,w,q=>(bt.mp w).elim
 |i::is,u::us,vs,c,d,Q,ok,n,f,a,w,q=>by
  rw[show sets (i::is) (PM (λu=>(k,u)) (u::us))=eQ i (k,u) >>= λ_=>sets is (us.map λu=>(k,u)) from rfl,ai]at w;have⟨v,r,rfl,l,m⟩:=a;have o:k=.own\/k=.loc\/k=.any:=by cases k<;>simp[kE]at hk<;>simp
  have D:k≠.own:=by cases k<;>simp[kE]at hk<;>simp
  have rt:aM C c0 c k u v:=by rw[<-hk];show aM.item l
  have⟨s,t⟩:=ok.put n (f i (by simp)) o h rt;have es:eQ i (k,u)=λst=>bD (.ok (),st.set i (bD (k,u))):=by cases k<;>simp[kE]at hk<;>rfl
  obtain⟨_,st',e,x⟩:=w;rw[es]at e;cases e;show⟨v,r,rfl,t7 (c:={c with σ:=c.σ.set i (bD v),st:=c.st.set i (bD (k,u))}) hk h s t (λj g=>by simpa using f j (by simp[g])) (by cases k<;>show m) x λb p y A B hl=>?_⟩;show q b p y A (λj g=>?_) (by rw[hl];simp);rw[B j (λz=>g (by simp[z])),i8 (λz=>g (by simp[z]))]
def Fg(m:X.calm=b6)(o:C.K=X.K)(q:X.N.Nodup)(h:fq X es is)(hl:∀i∈is,i<X.N.length):PG X (.Tuple es Y pos) (tG C b6 is):=by
 rintro a s σ H v u Q I rv ⟨c0,c,r,rfl,rfl,t,f,n,d,w⟩;have⟨y,z⟩:=rW h;show CL m (vL q h) y z a s c.σ c.H v u Q I rv ?_;have⟨k,A⟩:=r;cases A with
 |tup us =>
  rw[show dw b6 is (k,.tup us)=sets is (us.map λu=>(kE k,u)) from by cases is<;>rfl]at w;have⟨a',vs,rfl,g,j⟩:=d.tuple f;rw[o]at g;have b:us.length=is.length:=by
   have e:∀(is:List Nat) (l:List (Kd×U)) (st:aw) (P:Unit->aw->Prop),W (sets is l) st P->l.length=is.length:=by
    intro is;induction is with
    |nil=>intro l st P w;cases l with
     |nil=>rfl
     |cons _ _=>show(bt.mp w).elim
    |cons i is B=>intro l st P w;cases l with
     |nil=>show(bt.mp w).elim
     |cons x l =>
      rw[show sets (i::is) (x::l)=eQ i x >>= λ_=>sets is l from rfl,ai]at w;obtain⟨_,_,_,w⟩:=w;rw[k7,k7,B l _ _ w]
   simpa using e _ _ _ _ w
  show⟨a',vs,rfl,g,by rw[<-j.len,b],?_⟩;show t7 (k:=kE k) (by cases k<;>rfl) t f n (λi D=>by rw[I.len];show hl i D) (by cases k<;>show j) w λG p J L O T=>p G rfl J L O T
 |_=>cases is<;>show(bt.mp w).elim
end
section
variable{X:Cx}{C:Ct}{pins:List (hU×Obj)}{s:hH}{c0 c c1:Cf}
variable{a b d e o tg iter elt:nz}{es ifs:List nz}{m ma mb md me:M (Kd×U)}{ms:M (List (Kd×U))}{ta tb tc:M Bool}{pos p p2 apos F':Pos}
def vM{m:M α}{st:aw}{Q:α->aw->Prop}:W (inScope k m) st Q↔W m (ki k cb++st) λa st'=>Q a (st'.drop k):=by
 constructor
 .rintro⟨a,st',e,h⟩;unfold inScope at e;cases q:m (ki k cb++st) with
  |none=>rw[q]at e;cases e
  |some r=>have⟨g,f⟩:=r;rw[q]at e;cases e;show⟨a,f,q,h⟩
 .rintro⟨a,st',e,h⟩;show⟨a,st'.drop k,by unfold inScope;rw[e],h⟩
abbrev Cf.ext(k:Nat)(c:Cf):Cf:={c with σ:=ki k cb++c.σ,st:=ki k cb++c.st,kid:=λj=>c.kid (j - k)}
abbrev Cf.cut(k:Nat)(c:Cf):Cf:={c with σ:=c.σ.drop k,st:=c.st.drop k,kid:=λj=>c.kid (k+j)}
def gu(h:(ki k cb++l)[j]?=bD (bD x)):∃i,j=k+i/\l[i]?=bD (bD x):=by
 by_cases f:j<k
 .rw[vl (by simpa using f)]at h;rw[Km]at h;rw[ö f]at h;cases h
 .show⟨j - k,⋯,?_⟩;rw[rr (by simp;lia)]at h;simpa using h
def fu:(ki k cb++l)[k+i]?=l[i]?:=by
 rw[rr (by simp)];simp
def xQ:(c.ext k).R1 r↔c.R1 r:=by
 constructor
 .rintro⟨j,g,u,h,l,f⟩;have⟨i,rfl,e⟩:=gu l;rw[Cf.ext,fu]at f;show⟨i,g,u,h,e,f⟩
 .rintro⟨i,g,u,h,l,f⟩;show⟨k+i,g,u,h,by rw[Cf.ext,fu];show l,by rw[Cf.ext,fu];show f⟩
def lq{a:hU}(h:(c.ext k).RD j a):∃i,j=k+i/\c.RD i a:=by
 have⟨u,r,l,f,g⟩:=h;have⟨i,rfl,e⟩:=gu l;rw[Cf.ext,fu]at f;show⟨i,rfl,u,r,e,f,?_⟩;have:(c.ext k).kid (k+i)=c.kid i:=by change c.kid (k+i - k)=_;rw[XT]
 rw[this]at g;show g
def Fh(h:(c.ext k).R r):c.R r:=by
 rcases h with h|⟨j,h⟩
 .show .inl (xQ.mp h)
 .obtain⟨i,_,h⟩:=lq h;show .inr ⟨i,h⟩
def Ok.ext(k:Nat)(f:Ok C c):Ok C (c.ext k)/\Nx c (c.ext k):=by
 show⟨⟨f.same,f.JD,f.par,f.io,by simp[Cf.ext,f.len],λj D u e=>?_,λi j k1 k2 u u' r G H l g A B=>?_,⟨λj u r l g=>?_,λi j a n q=>?_,λj a n q=>?_⟩⟩,⟨⟨λ_ _ h _=>h,λ_ o h=>⟨o,h⟩,λa h=>.inl (Fh h),λ_ h=>h,λ_ h=>.inl h⟩,λa ⟨j,z⟩=>let ⟨i,_,y⟩:=lq z;⟨⟨i,y⟩,λ_ e=>e⟩⟩⟩
 .have⟨i,rfl,I⟩:=gu e;have⟨v,l,g⟩:=f.sl i D u I;show⟨v,by rw[Cf.ext,fu];show l,g⟩
 .have⟨t,rfl,J⟩:=gu l;have⟨w,rfl,L⟩:=gu g;rw[Cf.ext,fu]at A B;rw[f.inj t w k1 k2 u u' r G H J L A B]
 .have⟨i,rfl,e⟩:=gu l;rw[Cf.ext,fu]at g;have:(c.ext k).kid (k+i)=c.kid i:=by change c.kid (k+i - k)=_;rw[XT]
  rw[this];show f.dd.kd i u r e g
 .have⟨t,rfl,x⟩:=lq n;have⟨w,rfl,N⟩:=lq q;rw[f.dd.dj t w a x N]
 .have⟨i,rfl,x⟩:=lq n;show f.dd.d1 i a x (xQ.mp q)
def xR{a:hU}(h:(c.cut k).R1 a):c.R1 a:=by
 have⟨j,i,u,l,f,g⟩:=h;rw[Cf.cut,K']at f g;show⟨k+j,i,u,l,f,g⟩
def lr{a:hU}(h:(c.cut k).RD j a):c.RD (k+j) a:=by
 have⟨u,r,f,g,i⟩:=h;rw[Cf.cut,K']at f g;show⟨u,r,f,g,i⟩
def Ok.cut(k:Nat)(f:Ok C c):Ok C (c.cut k)/\Nx c (c.cut k):=by
 show⟨⟨f.same,f.JD,f.par,f.io,by simp[Cf.cut,f.len],λj x u e=>?_,λi j k1 k2 u u' r y A g l t w=>?_,⟨λj u r g l=>?_,λi j a n q=>?_,λj a n q=>f.dd.d1 _ a (lr n) (xR q)⟩⟩,⟨⟨λ_ _ h _=>h,λ_ o h=>⟨o,h⟩,λa h=>.inl (h.elim (λz=>.inl (xR z)) λ⟨j,z⟩=>.inr ⟨k+j,lr z⟩),λ_ h=>h,λ_ h=>.inl h⟩,λa ⟨j,z⟩=>⟨⟨_,lr z⟩,λ_ e=>e⟩⟩⟩
 .rw[Cf.cut,K']at e;have⟨v,g,l⟩:=f.sl _ x u e;show⟨v,by rw[Cf.cut,K'];show g,l⟩
 .rw[Cf.cut,K']at g l t w;have:=f.inj _ _ k1 k2 u u' r y A g l t w;lia
 .rw[Cf.cut,K']at g l;show f.dd.kd _ u r g l
 .have:=f.dd.dj _ _ a (lr n) (lr q);lia
def AU(h:∀j,j∉ix k->g[j]?=(ki k cb++σ)[j]?)(hl:g.length=(ki k (cb:Option V)++σ).length):∃f:L2.St,f.length=k/\g=f++σ:=by
 show⟨g.take k,by rw[HY,hl];simp,?_⟩;apply Zg;intro j;by_cases i:j<k
 .rw[vl (by rw[HY,hl];simp;lia),List.getElem?_take,ö i]
 .rw[h j (by simpa using i),rr (by simp;lia),rr (by rw[HY,hl];simp;lia)];congr 1
  rw[HY,hl];simp
def m_(e1:c1.σ=c0.σ)(Ho:Ok C c1)(n1:Nx c0 c1)(hw:Walk C c1 rs xs J)(h3:W (bS k t tc me rs xs []) c1.st λus st'=>W (pure (Kd.own,U.lst us)) st' (cv C c0 Q)):
  tw k J (tG C t (ix k)) (IL C tc) (Hn C me) Q c0.σ c1.H:=by
 show⟨λi m ys H=>∃c acc,c.H=H/\c.σ=c0.σ/\Ok C c/\Nx c1 c/\m=xs.length - i/\i<=xs.length/\ak C c.S c.H acc ys/\acc.length<=dV/\W (bS k t tc me rs (xs.drop i) acc) c.st λus st'=>W (pure (Kd.own,U.lst us)) st' (cv C c0 Q),⟨xs.length,c1,[],rfl,e1,Ho,Nx.refl c1,by simp,js _,rfl,js _,by simpa using h3⟩,?_⟩;rintro i m ys H ⟨c,acc,rfl,D,q,y,rfl,hi,g,h,w⟩;show⟨by rw[<-g.len];show h,?_⟩;have f:jI rs c1 c:=λj u _=>by rw[D,e1]
 by_cases G:i<xs.length
 .right
  rw[WX G]at w;rw[show bS k t tc me rs (xs[i]::xs.drop (i+1)) acc=aJ rs >>= λ_=>inScope k (dw t (ix k) xs[i] >>= λ_=>tc >>= λb=>if b=b6 then(me >>= λr=>lift r >>= λu=>pure (bD u)) else pure cb) >>= λr=>match r with|some u=>if acc.length<dV then bS k t tc me rs (xs.drop (i+1)) (acc++[u]) else M.fail|none=>bS k t tc me rs (xs.drop (i+1)) acc from rfl,ai,cJ]at w;have⟨Lb,w⟩:=w;obtain⟨I,_⟩:=hw c q y f Lb;have⟨SE,NQ,SF⟩:=I i xs[i] (by simp[G]);show⟨NQ,λJp H'=>∃c acc,c.H=H'/\c.σ=c0.σ/\Ok C c/\Nx c1 c/\ak C c.S c.H acc Jp/\acc.length<=dV/\W (bS k t tc me rs (xs.drop (i+1)) acc) c.st λus st'=>W (pure (Kd.own,U.lst us)) st' (cv C c0 Q),λJp H' ⟨c',Im,z1,z2,z3,z4,z5,z6,z7⟩=>⟨xs.length - (i+1),⋯,c',Im,z1,z2,z3,z4,rfl,G,z5,z6,z7⟩,λx H' hy=>?_⟩;have⟨l,rfl,e4,e5,HI,n2,rt⟩:=SF x H' hy;rw[ai,vM,ai]at w;have⟨UN,nx⟩:=HI.ext k;have W4:aM C (l.ext k) (l.ext k) xs[i].1 xs[i].2 x:=by
   rcases SE with z|z
   .rw[z]at rt ⊢;show rt
   .rw[z]at rt ⊢;show rt
  have eσ:(l.ext k).σ=ki k cb++c0.σ:=by rw[Cf.ext];change ki k cb++l.σ=_;rw[e4,D]
  show⟨l.ext k,l.ext k,xs[i],eσ,rfl,UN,UN,Nx.refl _,W4,?_⟩;have SG:(l.ext k).st=ki k cb++c.st:=by rw[Cf.ext];change ki k cb++l.st=_;rw[e5]
  rw[SG];show w.mono λ_ HU w3 c3 e6 J9 n3 OZ NR=>?_;subst e6;rw[eσ]at OZ NR;have⟨L,N,O⟩:=AU OZ NR;show⟨L,N,O,?_⟩;have UO:Nx c c3:=(n2.trans nx).trans n3;rw[ai]at w3;show⟨c3,rfl,rfl,J9,w3.mono λb Nu n B e7 e8 T n4=>?_⟩;subst e8;cases b with
  |false =>
   rw[ø k8]at n ⊢;rw[au]at n;have⟨Y,nk⟩:=T.cut k;have nn:Nx c (B.cut k):=(UO.trans n4).trans nk;show⟨B.cut k,acc,rfl,?_,Y,y.trans nn,g.mv (q.mv nn),h,n⟩;change B.σ.drop k=_;rw[e7,O,Vo N]
  |true =>
   rw[ö rfl]at n ⊢;rw[ai]at n;show⟨B,e7,rfl,T,n.mono λr KC w5 c5 v e9 W5 W6 n5 W7=>?_⟩;subst W5;rw[ai]at w5;obtain⟨S',st',u,sS,W8,n6,SJ,A,_,_⟩:=iJ T W6 n5 W7.w w5;rw[au]at A
   dsimp only at A
   split at A
   .rename_i hz;have⟨Y,nk⟩:=W8.cut k;have nn:Nx c (Cf.cut k {c5 with S:=S',st:=st' }):=((UO.trans n4).trans n6).trans nk;show⟨Cf.cut k {c5 with S:=S',st:=st' },acc++[u],rfl,?_,Y,y.trans nn,(g.mv (q.mv nn)).snoc SJ,by rw[i7];show hz,A⟩;change c5.σ.drop k=_;rw[e9,O,Vo N]
   .show(bt.mp A).elim
 .left
  have IW:i=xs.length:=by lia
  subst IW;rw[Zo,show bS k t tc me rs [] acc=aJ rs >>= λ_=>pure acc from rfl,ai,cJ,au,au]at w;obtain⟨_,I⟩:=hw c q y f w.1;show⟨I _ (i5 _),λp hp=>cv.list w.2 D q (n1.trans y) g p hp⟩
def ng(l:Ok C c0)
  (h:W (ms >>= λrs=>aJ rs >>= λ_=>M.HA (Jk ik rs) >>= λxs=>bS k t tc me rs xs [] >>= λus=>pure (Kd.own,U.lst us)) c0.st (cv C c0 Q)) :
  wQ k (K_ C ik ms) (tG C t (ix k)) (IL C tc) (Hn C me) c0.σ c0.H Q:=by
 rw[ai]at h;show⟨c0,rfl,rfl,l,?_⟩;rw[ai];show h.mono λrs st1 f=>?_;rw[ai,cJ]at f ⊢;show⟨f.1,?_⟩;have g:=f.2;rw[ai]at g ⊢;show g.mono λxs st2 i=>?_;rw[au];intro c1 J n q r u v j;rw[ai]at i;subst q
 dsimp only at v j
 show m_ n r u j i
def xS(S:dP X N own scope)(f:X.calm=b6)(g:PI X tg iter (K_ C ik ms))
  (i:∀D s H ex,PG (Iy X N scope D s H ex) tg (tG C t (ix own.length))) (j:∀D s H ex,Ll (Iy X N scope D s H ex) ifs (IL C tc)) (k:∀D s H ex,PE (Iy X N scope D s H ex) elt (Hn C me))
  (hs:∀x,LY iter X.env x=pure x) :
  PE X (.ListComp elt [⟨tg,iter,ifs,0⟩] scope pos) (Hn C (ms >>= λrs=>aJ rs >>= λ_=>M.HA (Jk ik rs) >>= λxs=>bS own.length t tc me rs xs [] >>= λus=>pure (.own,.lst us))):=by
 show PE.weak (tD S f g i j k hs) ?_;rintro σ H Q ⟨c0,rfl,rfl,l,h⟩;show ng l h
end
section
variable{a b d e o tg iter elt:nz}{es ifs:List nz}{m ma mb md me:M (Kd×U)}{ms:M (List (Kd×U))}{ta tb tc:M Bool}{pos p p2 apos F':Pos}{st:Nb}{rest body:List Nb}{f g mm:M Fl}{ns IM:Nat->Bool}
def DO(C:Ct)(c:Cf):Kd->U->V->Prop
 |.own,u,v=>∃r,v=.ref r/\C.H₀ r=cb/\¬c.S r/\¬c.R r/\cW C c.S c.H r u
 |.loc,u,v=>Rep C c.S c.H u v
 |.any,u,v=>Rep C (PS C c.S) c.H u v
 |_,_,_=>False
abbrev Fin(C:Ct)(D:Ends)(f:Fl)(c:Cf):Prop:=match f with
 |.nx=>D.nx c.σ c.H
 |.bk=>D.bk c.σ c.H
 |.ct=>D.ct c.σ c.H
 |.rt k u=>∀v,DO C c k u v->D.rt v c.H
abbrev Kept(ns:Nat->Bool)(c h:Cf):Prop:=(∀j,ns j=b6->h.σ[j]?=c.σ[j]?)/\h.σ.length=c.σ.length
def Kept.refl:Kept ns c c:=⟨λ_ _=>rfl,rfl⟩
def Kept.trans(h:Kept ns c i)(h':Kept ns i k):Kept ns c k:=⟨λj z=>(h'.1 j z).trans (h.1 j z),h'.2.trans h.2⟩
def Kept.le(i:∀j,IM j=b6->ns j=b6)(h:Kept ns c k):Kept IM c k:=⟨λj z=>h.1 j (i j z),h.2⟩
def Kept.of(h:i.σ=c.σ):Kept ns c i:=⟨λj z=>by rw[h],by rw[h]⟩
abbrev jJ(C:Ct)(c0:Cf)(ns:Nat->Bool)(D:Ends)(f:Fl)(st':aw):Prop:=∀c,c.st=st'->Ok C c->Ns c0 c->Kept ns c0 c->Fin C D f c
abbrev Iu(C:Ct)(ns:Nat->Bool)(m:M Fl):TS:=λD σ H=>∃c0:Cf,c0.σ=σ/\c0.H=H/\Ok C c0/\W m c0.st (jJ C c0 ns D)
def rX(c:Ok C c1)(n:Ns c0 c1)(k:Kept ns c0 c1)(h:W mm c1.st (jJ C c0 ns D)):Iu C ns mm D c1.σ c1.H :=
 ⟨c1,rfl,rfl,c,h.mono λf st i j e l q k2=>i j e l (n.trans q) (k.trans k2)⟩
def PS.weak(h:L2.PS X st t)(i:∀D σ H,t' D σ H->t D σ H):L2.PS X st t':=λc s σ H D I q=>h c s σ H D I (i D σ H q)
def IE.weak(h:IE X rest t)(i:∀D σ H,t' D σ H->t D σ H):IE X rest t':=λc s σ H D I q=>h c s σ H D I (i D σ H q)
def oW(i:∀j,IM j=b6->ns j=b6)(h:Iu C IM mm D σ H):Iu C ns mm D σ H :=
 let ⟨c0,c,k,l,w⟩:=h;⟨c0,c,k,l,w.mono λf st n q e r s k2=>n q e r s (k2.le i)⟩
def Fi:IE X [] (Iu C ns (pure .nx)):=by
 show IE.weak zD ?_;rintro D σ H ⟨c0,rfl,rfl,c,h⟩;rw[au]at h;show h c0 rfl c (Ns.refl c0) Kept.refl
abbrev AV(m:M Fl)(f:Fl):M Fl:=match f with
 |.nx=>m
 |f=>pure f
def DP(j:L2.PS X st (Iu C ns f))(l:IE X rest (Iu C ns g)):IE X (st::rest) (Iu C ns (f >>= AV g)):=by
 show IE.weak (wo j l) ?_;rintro D σ H ⟨c0,rfl,rfl,n,h⟩;rw[ai]at h;show⟨c0,rfl,rfl,n,h.mono λq st1 w c1 e c i k1=>?_⟩;subst e;cases q with
 |nx=>show rX c i k1 w
 |bk=>rw[show AV g .bk=pure .bk from rfl,au]at w;show w c1 rfl c i k1
 |ct=>rw[show AV g .ct=pure .ct from rfl,au]at w;show w c1 rfl c i k1
 |rt k u=>rw[show AV g (.rt k u)=pure (.rt k u) from rfl,au]at w;show w c1 rfl c i k1
def Fj(i:PE X a (Hn C ma))(hs:Qi a cb pos.line X.env=pure cK):L2.PS X (.Expr a pos) (Iu C ns (ma >>= λ_=>pure .nx)):=by
 show PS.weak (j4 i hs) ?_;rintro D σ H ⟨c0,rfl,rfl,j,h⟩;show aX j h λx c v t w=>?_;rw[au]at w;have:=w c rfl t.ok t.nx (Kept.of t.hσ);rw[<-t.hσ];show this
def DQ:L2.PS X (.Return cb pos) (Iu C ns (pure (.rt .loc .Hj))):=by
 show PS.weak zE ?_;rintro D σ H ⟨c0,rfl,rfl,c,h⟩;rw[au]at h;show h c0 rfl c (Ns.refl c0) Kept.refl .Hj rfl
def xT(ok:Ok C c0)(t:LO C c0 c x v)(w:W (retS x) c.st (jJ C c0 ns D)):D.rt v c.H:=by
 have⟨k,u⟩:=x;have⟨G,l,n,r⟩:=t;cases k with
 |own =>
  rw[show retS (.own,u)=pure (.rt .own u) from rfl,au]at w;have⟨B,e,h1,h2,h3,h4⟩:=r;show w c rfl l n (Kept.of G) v ⟨B,e,(ok.jW h1).1,h2,h3,h4⟩
 |loc =>
  rw[show retS (.loc,u)=pure (.rt .loc u) from rfl,au]at w;show w c rfl l n (Kept.of G) v r
 |any =>
  rw[show retS (.any,u)=if HG u=b6 then pure (.rt .loc u) else pure (.rt .any u) from rfl]at w;split at w
  .rw[au]at w;show w c rfl l n (Kept.of G) v (Rep.HG (by assumption) r)
  .rw[au]at w;show w c rfl l n (Kept.of G) v r
 |bor j =>
  have⟨fl,st',e,w⟩:=w;rw[show retS (.bor j,u) c.st=match c.st[j]? with|some (bD (.own,u))=>bD (Ex.ok (Fl.rt .own u),c.st.set j cb)|_=>cb from rfl]at e;split at e
  .rename_i u' J;cases e;have K8:j<c.st.length:=(eh.mp J).1;have A:∀(i:Nat) k u',(c.st.set j cb)[i]?=bD (bD (k,u'))->i≠j/\c.st[i]?=bD (bD (k,u')):=λi k u' e=>by
    by_cases L:i=j
    .subst L;rw[fx K8]at e;cases e
    .rw[i8 (tj L)]at e;show⟨L,e⟩
   have⟨v',s,B,er,q1,q2,q3,q4⟩:=l.sl j _ _ J;have N:c.σ[j]?=bD (bD v):=r.2;rw[N]at s;cases s;subst er;have Q:∀a,({c with st:=c.st.set j cb}:Cf).R1 a->c.R1 a:=λa ⟨i,k,h,hk,s,y⟩=>⟨i,k,h,hk,(A i k h s).2,y⟩
   have hR:∀a,({c with st:=c.st.set j cb}:Cf).R a->c.R a:=λa z=>z.elim (λz=>.inl (Q a z)) λ⟨i,h,O,s,y,I⟩=>.inr ⟨i,h,O,(A i .G' h s).2,y,I⟩;have LQ:KI C {c with st:=c.st.set j cb}:=l.dd.of rfl (λi h e=>⟨(A i .G' h e).2,rfl⟩) (λa z=>.inl (Q a z)) (.up λ_ z=>z) λi a z=>⟨(l.root (.inr ⟨i,z⟩)).1,λo q=>q⟩
   have W9:Ok C {c with st:=c.st.set j cb}:=⟨l.same,l.JD,l.par,l.io,by simp[l.len],λi k h e=>l.sl i k h (A i k h e).2,λi T k k' Y h r hk Ig s y I e4=>l.inj i T k k' Y h r hk Ig (A i k Y s).2 (A T k' h y).2 I e4,LQ⟩
   have nn:Ns c0 {c with st:=c.st.set j cb}:=⟨n.keep,n.there,λa z=>n.roots a (hR a z),n.sub,n.new⟩
   show w {c with st:=c.st.set j cb} rfl W9 nn (Kept.of G) (.ref B) ⟨B,rfl,q3,q1,λz=>?_,q4⟩
   .rcases z with⟨i,k,h,hk,s,y⟩|⟨i,h,O,s,y,I⟩
    .have⟨ne,Io⟩:=A i k h s;show ne (l.inj i j k .own h _ B hk rfl Io J y N)
    .show l.dd.d1 i B ⟨h,O,(A i .G' h s).2,y,I⟩ ⟨j,.own,_,rfl,J,N⟩
  .cases e
 |_=>show r.elim
def Fm(j:PE X a (Hn C ma)):L2.PS X (.Return (bD a) pos) (Iu C ns (ma >>= retS)):=by
 show PS.weak (wq j) ?_;rintro D σ H ⟨c0,rfl,rfl,i,h⟩;show aX i h λx c v t w=>xT i t w
end
section
def lu(e:∀j,ns j=b6->j≠i)(f:Ok C c0)(t:LO C c0 c r v)(g:i<c.σ.length)(w:W (eQ i r >>= λ_=>(pure .nx:M Fl)) c.st (jJ C c0 ns D)):D.nx (c0.σ.set i (bD v)) c.H:=by
 rw[ai]at w;have⟨a,b,h,k,l,q⟩:=t6 (r:=r) f t.ok t.nx g t.rx w;rw[au]at q;have z:=q a rfl k l ⟨λj m=>by rw[b,t.hσ,i8 (tj (e j m))],by rw[b,t.hσ];simp⟩;have d:D.nx a.σ a.H:=z;rw[b,h,t.hσ]at d;show d
def B4(g:∀j,ns j=b6->j≠i)(k:X.N.Nodup)(e:X.N[i]?=bD x)(l:Loc X.env.scope x)(m:X.fn x=b6\/X.env.scope.names.lookup x=bD .local)(n:PE X a (Hn C o))
  (hs:Qi a (bD (.Name x b)) pos.line X.env=pure cK):L2.PS X (.Assign [.Name x b] a pos) (Iu C ns (o >>= λr=>eQ i r >>= λ_=>pure .nx)):=by
 rintro d s σ H D I ⟨c0,rfl,rfl,f,h⟩;have p:i<c0.σ.length:=by rw[I.len];show(eh.mp e).1
 show wx k e l n hs m d s c0.σ c0.H D I (aX f h λr c v t w=>lu g f t (by rw[t.hσ];show p) w)
def DR(l:∀j,ns j=b6->j≠i)(S:dP X N own scope)(m:X.calm=b6)(o:X.N.Nodup)(f:X.N[i]?=bD y)(p:X.env.scope.names.lookup y=bD .local)
  (q:PI X e a (K_ C ik ms)) (u:∀D s H ex,PG (Iy X N scope D s H ex) e (tG C t (ix own.length))) (z:∀D s H ex,Ll (Iy X N scope D s H ex) b (IL C A)) (B:∀D s H ex,PE (Iy X N scope D s H ex) elt (Hn C G))
  (J:Qi (.ListComp elt [⟨e,a,b,0⟩] scope pos) (bD (.Name y L)) O.line X.env=pure b6) (hs:∀x,LY a X.env x=pure x) :
  L2.PS X (.Assign [.Name y L] (.ListComp elt [⟨e,a,b,0⟩] scope pos) O)
   (Iu C ns ((ms >>= λrs=>aJ rs >>= λ_=>M.HA (Jk ik rs) >>= λxs=>bS own.length t A G rs xs [] >>= λus=>pure (.own,.lst us)) >>= λr=>eQ i r >>= λ_=>pure .nx)):=by
 rintro d s σ H D I ⟨c0,rfl,rfl,g,h⟩;have Q:i<c0.σ.length:=by rw[I.len];show(eh.mp f).1
 show z_ S m o f p q u z B J hs d s c0.σ c0.H D I ?_;rw[ai]at h;show ng g (h.mono λr st1 w c v k T Y n rt=>?_);subst T;show lu l g ⟨k,Y,n,rt⟩ (by rw[k];show Q) w
def DS(g:∀j,ns j=b6->j∉is)(i:PE X a (Hn C k))(l:PG X b (tG C b6 is))(hs:Qx [b] a pos.line X.env=pure cK)(m:UC [b] a X.env=pure cb)(n:(ON [b] X.env).map (·.2)=[Rf b X.env]):
  L2.PS X (.Assign [b] a pos) (Iu C ns (k >>= λr=>dw b6 is r >>= λ_=>pure .nx)):=by
 show PS.weak (rf i l hs m n) ?_;rintro D σ H ⟨c0,rfl,rfl,d,h⟩;show aX d h λr c v t w=>?_;rw[ai]at w;show⟨c0,c,r,t.hσ,rfl,d,t.ok,t.nx,t.rx,w.mono λ_ st1 f o e p q s hl=>?_⟩;subst e;rw[au]at f;show f o rfl p q ⟨λj u=>by rw[s j (g j u),t.hσ],by rw[hl,t.hσ]⟩
def Fo(i:PT X a (IL C j))(k:IE X l (Iu C ns f))(m:IE X o (Iu C ns g)):L2.PS X (.If a l o pos) (Iu C ns (j >>= λp=>if p=b6 then f else g)):=by
 show PS.weak (EJ i k m) ?_;rintro D σ H ⟨c0,rfl,rfl,q,h⟩;show eU q h λp c b d n w=>?_;have e:c0.σ=c.σ:=b.symm;rw[e];cases p with
 |true=>rw[ö rfl]at w ⊢;show rX d n (Kept.of b) w
 |false=>rw[ø k8]at w ⊢;show rX d n (Kept.of b) w
def Fp(J:WK (hW X.prog X.w) X.A X.env X.xe)(L:PT X a (IL C d))(N:IE X body (Iu C ns f)):L2.PS X (.While a body [] pos) (Iu C ns (fJ d f n)):=by
 show PS.weak (wz J L N) ?_;rintro D σ H ⟨c0,rfl,rfl,O,h⟩;show⟨λm s H'=>∃c,c.H=H'/\c.σ=s/\Ok C c/\Ns c0 c/\Kept ns c0 c/\W (fJ d f m) c.st (jJ C c0 ns D),⟨n,c0,rfl,rfl,O,Ns.refl c0,Kept.refl,h⟩,?_⟩;rintro m s H' ⟨c,rfl,rfl,Q,t,v,w⟩;cases m with
 |zero=>show(bt.mp w).elim
 |succ m =>
  rw[show fJ d f (m+1)=d >>= λb=>if b=b6 then(f >>= λf'=>match f' with|.nx=>fJ d f m|.ct=>fJ d f m|.bk=>pure .nx|.rt k u=>pure (.rt k u)) else pure .nx from rfl]at w;show eU Q w λp j x y B g=>?_;have k2:Kept ns c j:=Kept.of x;rw[<-x];cases p with
  |false =>
   rw[ø k8]at g ⊢;rw[au]at g;show g j rfl y (t.trans B) (v.trans k2)
  |true =>
   rw[ö rfl]at g ⊢;show⟨λG I=>∃c,c.H=I/\c.σ=G/\Ok C c/\Ns c0 c/\Kept ns c0 c/\W (fJ d f m) c.st (jJ C c0 ns D),λG I z=>⟨m,N2 m,z⟩,?_⟩;rw[ai]at g;show⟨j,rfl,rfl,y,g.mono λT HU i l e o Y k3=>?_⟩;subst e;have q:=(t.trans B).trans Y;have r:=(v.trans k2).trans k3;cases T with
   |nx=>show⟨l,rfl,rfl,o,q,r,i⟩
   |ct=>show⟨l,rfl,rfl,o,q,r,i⟩
   |_=>rw[au]at i;show i l rfl o q r
def Fq(hp:WK (hW X.prog X.w) X.A X.env X.xe)(hc:X.calm=b6)(hi:PI X tg a (K_ C ik ms))(hg:PG X tg (tG C t is))(hb:IE X body (Iu C (Jr q) f))(hs:∀x,LY a X.env x=pure x)
  (IS:∀j,ns j=b6->j∉is/\Jr q j=b6) :
  L2.PS X (.For tg a body [] pos) (Iu C ns (ms >>= λrs=>aJ rs >>= λ_=>M.HA (Jk ik rs) >>= λxs=>if tS rs is q=b6 then forM t is f rs xs else M.fail)):=by
 show PS.weak (CS hp hc hi hg hb hs) ?_;rintro D σ H ⟨c0,rfl,rfl,ok,h⟩;rw[ai]at h;show⟨c0,rfl,rfl,ok,?_⟩;rw[ai];show h.mono λrs st1 r=>?_;rw[ai,cJ]at r ⊢;show⟨r.1,?_⟩;have h2:=r.2;rw[ai]at h2 ⊢;show h2.mono λxs st2 s=>?_;rw[au];intro c1 J e1 e2 Ho n1 Hq v;subst e2
 dsimp only at Hq v
 split at s
 .rename_i MX;have SO:∀j u,(Kd.bor j,u)∈rs->j∉is/\Jr q j=b6:=λj u l=>by
   have:=mx.mp MX _ l;simpa using this
  show⟨λi m d H'=>∃c,c.H=H'/\c.σ=d/\Ok C c/\Ns c1 c/\Kept ns c0 c/\jI rs c1 c/\m=xs.length - i/\i<=xs.length/\W (forM t is f rs (xs.drop i)) c.st (jJ C c0 ns D),
   ⟨xs.length,c1,rfl,e1,Ho,Ns.refl c1,Kept.of e1,λ_ _ _=>rfl,by simp,js _,by simpa using s⟩,?_⟩
  rintro i m d H' ⟨c,rfl,rfl,y,n,kc,B,rfl,IW,w⟩;by_cases G:i<xs.length
  .right
   rw[WX G,show forM t is f rs (xs[i]::xs.drop (i+1))=aJ rs >>= λ_=>dw t is xs[i] >>= λ_=>f >>= λf'=>match f' with|.nx=>forM t is f rs (xs.drop (i+1))|.ct=>forM t is f rs (xs.drop (i+1))|.bk=>pure .nx|.rt k u=>pure (.rt k u) from rfl,ai,cJ]at w;have⟨Lb,w⟩:=w;obtain⟨I,_⟩:=v c y n B Lb;have⟨SE,NQ,SF⟩:=I i xs[i] (by simp[G]);show⟨NQ,λd H'=>∃c,c.H=H'/\c.σ=d/\Ok C c/\Ns c1 c/\Kept ns c0 c/\jI rs c1 c/\W (forM t is f rs (xs.drop (i+1))) c.st (jJ C c0 ns D),λd H' ⟨c',z1,z2,z3,z4,z5,z6,z7⟩=>⟨xs.length - (i+1),⋯,c',z1,z2,z3,z4,z5,z6,rfl,G,z7⟩,λx H' hy=>?_⟩;have⟨g,rfl,o,e5,HI,n2,rt⟩:=SF x H' hy;rw[ai]at w;have W_:aM C g g xs[i].1 xs[i].2 x:=by
    rcases SE with z|z
    .rw[z]at rt ⊢;show rt
    .rw[z]at rt ⊢;show rt
   show⟨g,g,xs[i],o,rfl,HI,HI,Nx.refl g,W_,?_⟩;rw[e5];show w.mono λ_ HU w3 c3 e6 J9 n3 UR NR=>?_;subst e6;rw[ai]at w3;show⟨c3,rfl,rfl,J9,w3.mono λfl Nu p b e L n4 N=>?_⟩;subst e;have O:Ns c1 b:=((n.trans n2.toNs).trans n3.toNs).trans n4;have Q:Kept ns c0 b:=by
    show kc.trans ⟨λj hj=>?_,by rw[N.2,NR,o]⟩;have⟨T,Y⟩:=IS j hj;rw[N.1 j Y,UR j T,o]
   have US:jI rs c1 b:=λj u l=>by
    have⟨T,Y⟩:=SO j u l;rw[N.1 j Y,UR j T,o];show B j u l
   cases fl with
   |nx=>show⟨b,rfl,rfl,L,O,Q,US,p⟩
   |ct=>show⟨b,rfl,rfl,L,O,Q,US,p⟩
   |_=>rw[au]at p;show p b rfl L (n1.toNs.trans O) Q
  .left
   have W':i=xs.length:=by lia
   subst W';rw[Zo,show forM t is f rs []=aJ rs >>= λ_=>pure .nx from rfl,ai,cJ,au]at w;obtain⟨_,I⟩:=v c y n B w.1;show⟨I _ (i5 _),w.2 c rfl y (n1.toNs.trans n) kc⟩
 .show(bt.mp s).elim
end
section
def Ok.mod(b:Ok C c)(n:Ns c0 c)(hk:k.root=b6)(y:c.st[i]?=bD (bD (k,u)))(D:c.σ[i]?=bD (bD (.ref r)))(HV:∀a,a≠r->H' a=c.H a)(hr:∃o,H' r=bD o)
  (new:Mv c.S c.H c.S H'->cW C c.S H' r u'):Ok C {c with H:=H',st:=c.st.set i (bD (k,u'))}/\Ns c0 {c with H:=H',st:=c.st.set i (bD (k,u'))}:=by
 have Ku:c.R1 r:=⟨i,k,u,hk,y,D⟩
 have hR:c.R r:=.inl Ku;have⟨I,q2,q3,o,ho,MY⟩:=b.root hR;have J:i<c.st.length:=(eh.mp y).1;have m:∀{a:hU} {o':HO},a≠r->c.H a=bD o'->H' a=bD o':=λL e=>by rw[HV _ L];show e
 have G:Mv c.S c.H c.S H':=⟨λ_ z=>z,λa o' e t=>m (λz=>by subst z;rw[ho]at e;cases e;show MY t) e,λa o' z e=>m (λd=>I (d▸z)) e⟩
 have Ls:Mv (PS C c.S) c.H (PS C c.S) H':=⟨λ_ z=>z,G.OT,λa o' z e=>m (λd=>by subst d;show z.elim q2 I) e⟩
 have N:∀(j:Nat) k' w,(c.st.set i (bD (k,u')))[j]?=bD (bD (k',w))->j≠i->c.st[j]?=bD (bD (k',w)):=λj k' w e L=>by rw[i8 (tj L)]at e;show e
 have f:∀(j:Nat) k' w,k'.root=b6->(c.st.set i (bD (k,u')))[j]?=bD (bD (k',w))->∃O,c.st[j]?=bD (bD (k',O)):=λj k' w _ e=>by
  by_cases p:j=i
  .subst p;rw[fx J]at e;cases e;show⟨u,y⟩
  .show⟨w,N j k' w e p⟩
 have b1:∀a,({c with H:=H',st:=c.st.set i (bD (k,u'))}:Cf).R1 a->c.R1 a:=λa Hx=>by
  have⟨j,k',w,g,h,l⟩:=Hx;have⟨O,Q⟩:=f j k' w g h;show⟨j,k',O,g,Q,l⟩
 have dD:∀(j:Nat) (w:U),(c.st.set i (bD (k,u')))[j]?=bD (bD (.G',w))->c.st[j]?=bD (bD (.G',w)):=λj w e=>by
  by_cases p:j=i
  .subst p;rw[fx J]at e;cases e;cases hk
  .show N j .G' w e p
 have LQ:KI C {c with H:=H',st:=c.st.set i (bD (k,u'))}:=b.dd.of rfl (λj w e=>⟨dD j w e,rfl⟩) (λa z=>.inl (b1 a z)) G λj a z=>⟨(b.root (.inr ⟨j,z⟩)).1,λo' e=>m (λd=>b.dd.d1 j a z (d▸Ku)) e⟩
 show⟨⟨λa o' e z=>?_,λa z=>?_,b.par,λa z=>?_,by simp[b.len],λj k' w e=>?_,λj1 j2 k1 k2 w1 w2 q g s h l T e4=>?_,LQ⟩,n.trans ⟨λa o' e z=>m (λd=>z (d▸hR)) e,λa o' e=>?_,λa z=>?_,λ_ z=>z,λ_ z=>.inl z⟩⟩
 .have g:=b.same a o' e z;show m (λd=>?_) g;subst d;rcases q3 with q3|q3
  .rw[e]at q3;cases q3
  .show z q3
 .have⟨g,o',s⟩:=b.JD a z;show⟨g,o',m (λd=>I (d▸z)) s⟩
 .have⟨g,o',s⟩:=b.io a z;show⟨g,?_⟩;by_cases A:a=r
  .subst A;show hr
  .show⟨o',m A s⟩
 .by_cases p:j=i
  .subst p;rw[fx J]at e;cases e;have⟨v,h,l⟩:=b.sl j _ _ y;rw[D]at h;cases h;show⟨.ref r,D,?_⟩;have nr:=new G;cases k with
   |own=>obtain⟨q,x,B,Y,z3,_⟩:=l;cases x;show⟨r,rfl,B,Y,z3,nr⟩
   |io=>obtain⟨q,x,B,Y,z3,_⟩:=l;cases x;show⟨r,rfl,B,Y,z3,nr⟩
   |_=>cases hk
  .have e0:=N j k' w e p;have⟨v,h,l⟩:=b.sl j k' w e0;show⟨v,h,l.mv G Ls λIg q x=>?_⟩;obtain⟨OW,I0,B,_⟩:=l.rt Ig;rw[x]at I0;cases I0;show⟨B,λo' e=>m (λz=>?_) e⟩;subst z;show p (b.inj j i k' k w u q Ig hk e0 y (by rw[h,x]) D)
 .have⟨Ql,Q⟩:=f j1 k1 w1 g h;have⟨UT,a2⟩:=f j2 k2 w2 s l;show b.inj j1 j2 k1 k2 Ql UT q g s Q a2 T e4
 .by_cases A:a=r
  .subst A;show hr
  .show⟨o',m A e⟩
 .rcases z with z|⟨j,w,q,h,l,T⟩
  .show .inl (.inl (b1 a z))
  .show .inl (.inr ⟨j,w,q,dD j w h,l,T⟩)
def gw{f:U->Option U}{st:aw}(h:W (modS i f) st Q):∃k u u',k.root=b6/\st[i]?=bD (bD (k,u))/\f u=bD u'/\Q () (st.set i (bD (k,u'))):=by
 obtain⟨_,st',e,q⟩:=h;unfold modS at e;split at e
 .rename_i k u hs;split at e
  .rename_i hk;cases a:f u with
   |none=>rw[a]at e;cases e
   |some u'=>rw[a]at e;cases e;show⟨k,u,u',hk,hs,a,q⟩
  .cases e
 .cases e
def cR{st:aw}(h:W (c9 i) st Q):∃k u,k≠.G'/\st[i]?=bD (bD (k,u))/\Q (if k.root=b6 then .bor i else k,u) st:=by
 have⟨r,st',e,q⟩:=h;unfold c9 at e;split at e
 .cases e
 .rename_i k u a hs;cases e;show⟨k,u,λz=>a z,hs,q⟩
 .cases e
def Fs(Y:C.K=X.K)(hN:X.N[i]?=bD x)(hv:Jo X.env.scope x)(hd:(x==("__debug__":Str))=cK)(HS:(x==("__classdict__":Str))=cK)(ha:PE X a (Hn C ma))
  (IC:((Jx l (i9 [a] X.env)).all (λx=>!x.1)&&(Po l (LW [] X.env)).all (λx=>x.1.isSome)
   && df ([a].length+([]:List Ni).length+(if ([]:List Ni).isEmpty then 0 else 1)<30))=b6)
  (Hw:(b.endLine==l.line)=b6) (p:i9 [a] X.env=[(cK,HD a X.env)]) :
  L2.PS X (.Expr (.Call (.Attribute (.Name x px) "append" b) [a] [] l) pos) (Iu C ns (c9 i >>= λx=>LN x.2 >>= λ_=>ma >>= λr=>lift r >>= λu=>modS i (xB u) >>= λ_=>pure .nx)):=by
 show PS.weak (j4 (tm PySem.F.plainAttrs_list PySem.F.slot_list_append PySem.F.type_list_append mN (cA hN hv hd HS) (fc ha jd p) rfl IC Hw p rfl)) ?_;rintro D σ H ⟨c0,rfl,rfl,f,h⟩;rw[ai]at h;have⟨k0,s,JL,y,h⟩:=cR h;have⟨A,m,n⟩:=f.sl i k0 s y;show⟨A,m,?_⟩;cases s with
 |lst B =>
  rw[ai,show LN (U.lst B)=pure () from rfl,au]at h;have O0:aM C c0 c0 (if k0.root=b6 then .bor i else k0) (.lst B) A:=by
   by_cases hk:k0.root=b6
   .rw[ö hk];show⟨⟨k0,hk,y⟩,m⟩
   .rw[ø hk];cases k0 with
    |loc=>show n
    |any=>show n
    |bor j=>show n.elim
    |G'=>show(JL rfl).elim
    |_=>show absurd rfl hk
  obtain⟨g,NP,o,Nq,_⟩:=O0.list f;show⟨by rw[o];show .inl ⟨rfl,NP,Y▸Nq⟩,?_⟩;show aX f h λr c v t w=>?_;rw[ai]at w;obtain⟨S',st',u,sS,G,n1,d,I,_,_⟩:=iJ f t.ok t.nx t.rx.w w;rw[ai]at I;have⟨k,u1,u2,hk,hs,e,q⟩:=gw I;have J:c.σ[i]?=bD (bD (.ref g)):=by rw[t.hσ,m,o]
  cases u1 with
  |lst L =>
   simp only[xB]at e;split at e
   .rename_i hz;cases e;have⟨v',e1,e2⟩:=G.sl i k (.lst L) hs;have O:c.σ[i]?=bD (bD v'):=e1;rw[J]at O;cases O;obtain⟨r',er,_,_,_,ws,hw,Q⟩:=e2.rt hk;cases er;have MT:c.H g=bD (.lst ws):=hw;show⟨g,ws,v,o,rfl,MT,by rw[<-Q.len];show hz,?_⟩;rw[au]at q;have⟨HI,n2⟩:=Ok.mod (c:={c with S:=S',st:=st' }) (H':=upd c.H g (.lst (ws++[v]))) (u':=.lst (L++[u])) G n1.toNs hk hs J (λa ne=>ao ne) ⟨_,aA⟩ λT=>⟨ws++[v],aA,(Q.mv T).snoc (d.mv T)⟩
    have z:=q _ rfl HI n2 (Kept.of t.hσ);rw[<-t.hσ];show z
   .cases e
  |_=>cases e
 |_=>rw[ai]at h;show(bt.mp h).elim
def Ft(G:C.K=X.K)(hN:X.N[i]?=bD x)(hv:Jo X.env.scope x)(hd:(x==("__debug__":Str))=cK)(HS:(x==("__classdict__":Str))=cK)(ha:PE X a (Hn C ma))
  (IC:((Jx l (i9 [a] X.env)).all (λx=>!x.1)&&(Po l (LW [] X.env)).all (λx=>x.1.isSome)
   && df ([a].length+([]:List Ni).length+(if ([]:List Ni).isEmpty then 0 else 1)<30))=b6)
  (Hw:(g.endLine==l.line)=b6) (I:i9 [a] X.env=[(cK,HD a X.env)]) :
  L2.PS X (.Expr (.Call (.Attribute (.Name x px) "extend" g) [a] [] l) pos) (Iu C ns (c9 i >>= λx=>LN x.2 >>= λ_=>ma >>= λr=>modS i (ll r) >>= λ_=>pure .nx)):=by
 show PS.weak (j4 (tm PySem.F.plainAttrs_list PySem.F.slot_list_extend PySem.F.type_list_extend rL (cA hN hv hd HS) (fc ha jd I) rfl IC Hw I rfl)) ?_;rintro D σ H ⟨c0,rfl,rfl,m,h⟩;rw[ai]at h;have⟨k0,J,JL,L,h⟩:=cR h;have⟨O,n,o⟩:=m.sl i k0 J L;show⟨O,n,?_⟩;cases J with
 |lst Q =>
  rw[ai,show LN (U.lst Q)=pure () from rfl,au]at h;have O0:aM C c0 c0 (if k0.root=b6 then .bor i else k0) (.lst Q) O:=by
   by_cases hk:k0.root=b6
   .rw[ö hk];show⟨⟨k0,hk,L⟩,n⟩
   .rw[ø hk];cases k0 with
    |loc=>show o
    |any=>show o
    |bor j=>show o.elim
    |G'=>show(JL rfl).elim
    |_=>show absurd rfl hk
  obtain⟨p,NP,s,Nq,_⟩:=O0.list m;show⟨by rw[s];show .inl ⟨rfl,NP,G▸Nq⟩,?_⟩;show aX m h λr c v t w=>?_;rw[ai]at w;have⟨k,u,u2,hk,hs,d,q⟩:=gw w;have T:c.σ[i]?=bD (bD (.ref p)):=by rw[t.hσ,n,s]
  have⟨rk,ru⟩:=r;have y:∃e f b vs,u=.lst e/\v=.ref b/\(HM C.K c.H b vs\/HR C.K c.H b vs)/\ak C c.S c.H f vs/\e.length+f.length<=dV/\u2=.lst (e++f):=by
   cases ru with
   |lst f =>
    cases u with
    |lst e =>
     simp only[ll]at d;split at d
     .rename_i hz;cases d;have⟨b,vs,ev,A,B⟩:=t.rx.list t.ok;show⟨_,_,b,vs,rfl,ev,.inl A,eS hz.2 B,hz.1,rfl⟩
     .cases d
    |_=>simp[ll]at d
   |tup f =>
    cases u with
    |lst e =>
     simp only[ll]at d;split at d
     .rename_i hz;cases d;have⟨b,vs,ev,A,B⟩:=t.rx.tuple t.ok;show⟨_,_,b,vs,rfl,ev,.inr A,eS hz.2 B,hz.1,rfl⟩
     .cases d
    |_=>simp[ll]at d
   |_=>simp[ll]at d
  have⟨e,f,b,vs,rfl,rfl,hB,hz,hl,rfl⟩:=y;have⟨v',Y,e2⟩:=t.ok.sl i k (.lst e) hs;rw[T]at Y;cases Y;obtain⟨r',er,_,_,_,ws,hw,IZ⟩:=e2.rt hk;cases er;show⟨p,b,ws,vs,s,rfl,hw,G▸hB,by rw[<-IZ.len,<-hz.len];show hl,?_⟩;rw[au]at q;have⟨HI,n2⟩:=Ok.mod (c:=c) (H':=upd c.H p (.lst (ws++vs))) (u':=.lst (e++f)) t.ok t.nx.toNs hk hs T (λa ne=>ao ne) ⟨_,aA⟩ λmv=>⟨ws++vs,aA,(IZ.mv mv).append (hz.mv mv)⟩
  have z:=q _ rfl HI n2 (Kept.of t.hσ);rw[<-t.hσ];show z
 |_=>rw[ai]at h;show(bt.mp h).elim
def oh.or(h:oh X t)(h':oh X t'):oh X (λo i v H Q=>t o i v H Q\/t' o i v H Q):=λa s σ H o i v b c u Q I d e f q =>
 q.elim (h a s σ H o i v b c u Q I d e f) (h' a s σ H o i v b c u Q I d e f)
def set_dict(c:X.A.units+1<Lk):oh X (λo i v H Q=>∃a H',o=.ref a/\vf H a i v H'/\Q H'):=by
 rintro b s σ H o i v h j u Q I d e rv ⟨a,H',rfl,g,q⟩;cases d;show vh c I g e rv λs' f=>⟨H',f,q⟩
def xU{S:hU->Prop}{kvs:List (Key×V)}(a:kvs.map (·.1)=ks.map nc)(c:ak C S H us (kvs.map (·.2)))(d:Rep C S H u v):
  (putK kvs (nc y) v).map (·.1)=(dput ks us y u).1.map nc/\ak C S H (dput ks us y u).2 ((putK kvs (nc y) v).map (·.2)):=by
 have e:(kvs.any λkv=>df (kv.1=(nc y:Key)))=df (y∈ks):=by
  rw[iz];show(dN (x:=y) a c).2
 unfold putK dput;rw[e];by_cases b:y∈ks
 .rw[ö (by simpa using b),ö b];constructor
  .rw[i4];rw[<-a];apply ts;intro p _;change(if p.1=nc y then(p.1,v) else p).1=p.1;split<;>rfl
  .clear e b;induction kvs generalizing ks us with
   |nil =>
    have:ks=[]:=by simpa using a.symm
    subst this;simp[ak]
   |cons p kvs g =>
    cases ks with
    |nil=>simp at a
    |cons k ks =>
     cases us with
     |nil=>simp[ak]at c
     |cons j us =>
      rw[gs,gs,NO]at a;have⟨l,m,f,h,i⟩:=c;rw[gs]at f;cases f;rw[gs,OC,gs,gs];show⟨_,_,rfl,?_,g a.2 i⟩;by_cases hk:k=y
      .rw[ö (by show hk),ö (by rw[a.1,hk])];show d
      .rw[ø (by show hk),ø (by rw[a.1];intro z;show hk (Uh z))];show h
 .rw[ø (by simpa using b),ø b];show⟨by rw[l0,a,l0];rfl,by rw[l0];show c.snoc d⟩
def Fu(hP:C.P=X.prog)(hw:C.w=X.w)(hK:C.K=X.K)(hu:X.A.units+60<Lk)(hN:X.N[i]?=bD x)(hv:Jo X.env.scope x)(hd:(x==("__debug__":Str))=cK)(HS:(x==("__classdict__":Str))=cK)
  (ha:PE X a (Hn C ma)) (hb:PE X b (Hn C mb)) (hs:Qx [.Subscript (.Name x G) b p] a pos.line X.env=pure cK) (SS:UC [.Subscript (.Name x G) b p] a X.env=pure cb)
  (Q:∀v,Rf (.Subscript (.Name x G) b p) X.env v=(do
   let I <-Mr [v] (HD (.Name x G) X.env)
   let T <-Mr [v,I] (HD b X.env)
   XO p
   Mr [v,I,T] (SH I T v)
   VF [v,I,T] [])) :
  L2.PS X (.Assign [.Subscript (.Name x G) b p] a pos) (Iu C ns (ma >>= λr=>c9 i >>= λ_=>mb >>= λx=>dv [r,x] >>= λus=>modS i (tR us) >>= λ_=>pure .nx)):=by
 show PS.weak (rf ha (wu (cA hN hv hd HS) hb (oh.or set_list (set_dict (X:=X) ⋯)) Q) hs SS rfl) ?_;rintro D σ H ⟨c0,rfl,rfl,ok,h⟩;show aX ok h λr c v t w=>?_;rw[ai]at w;have⟨k0,u0,JL,IG,w⟩:=cR w;have⟨v0,e0,Kl⟩:=t.ok.sl i k0 u0 IG;show⟨v0,by rw[<-t.hσ];show e0,?_⟩;rw[ai]at w;show⟨c,t.hσ,rfl,t.ok,w.mono λy st2 w2 f m J e4 HI n2 r2=>?_⟩;subst e4;rw[ai]at w2;have SU:=t.nx.trans n2;have Y:cP C c0 f [r,y] [v,m]:=⟨v,[m],rfl,t.rx.w.on t.ok n2 (J.trans t.hσ.symm),⟨m,[],rfl,(r2.w).from t.nx,rfl,λ_ i r' v' e _=>by simp at e⟩,λhk i r' v' e5 e6 Ig=>by
  cases i with
  |zero=>simp at e5 e6;subst e5 e6;show oR t.rx.w r2.w hk Ig
  |succ i=>simp at e5⟩
 have⟨S',st',us,sS,Ho,n1,g,w1⟩:=iK ok HI SU Y w2;rw[ai]at w1;have⟨k,L,u2,hk,Ju,d,q⟩:=gw w1;rw[au]at q;have hσ:f.σ[i]?=bD (bD v0):=by rw[J,<-t.hσ];show e0
 have⟨v',e1,e2⟩:=Ho.sl i k L Ju;have Io:f.σ[i]?=bD (bD v'):=e1;rw[hσ]at Io;cases Io;have⟨n,er,z1,z2,z3,l⟩:=e2.rt hk;subst er;have Xa:({f with S:=S',st:=st' }:Cf).σ[i]?=bD (bD (.ref n)):=hσ;obtain⟨Ql,ws,ew,UU,UT,YE,YF,UW,Xb⟩:∃u ws,us=[u,ws]/\Rep C S' f.H u v/\∃(_:Unit) (_:Unit),True/\Rep C S' f.H ws m/\True:=by
  cases us with
  |nil=>simp[ak]at g
  |cons u us =>
   obtain⟨_,_,e,q1,q2⟩:=g;cases e;cases us with
   |nil=>simp[ak]at q2
   |cons u' us =>
    obtain⟨_,_,e,q3,q4⟩:=q2;cases e;cases us with
    |nil=>show⟨u,u',rfl,q1,(),(),trivial,q3,trivial⟩
    |cons _ _=>obtain⟨_,_,e,_⟩:=q4;cases e
 subst ew;rw[show tR [Ql,ws] L=d8 ws Ql L from rfl]at d;have s:∀{H':Hp} ,(∀a,a≠n->H' a=f.H a)->(∃o,H' n=bD o)->(Mv S' f.H S' H'->cW C S' H' n u2)->D.nx c0.σ H':=λ{H'} HV hr new=>by
  have⟨J9,n3⟩:=Ok.mod (c:={f with S:=S',st:=st' }) (H':=H') (u':=u2) Ho n1.toNs hk Ju Xa HV hr new;have z:=q _ rfl J9 n3 (Kept.of J);rw[<-J];show z
 cases L with
 |lst xs =>
  cases ws with
  |int j =>
   simp only[d8,hA]at d;have⟨j',hj,rfl⟩:=d;have⟨vs,h1,B⟩:=l;have ey:m=.int j:=UW;show .inl ⟨n,vs,j,j',rfl,ey,h1,by rw[<-B.len];show hj,?_⟩;show s (λa ne=>ao ne) ⟨_,aA⟩ λO=>⟨vs.set j' v,aA,(B.mv O).set j' (UU.mv O)⟩
  |_=>simp[d8]at d
 |Hf ks vs =>
  cases ws with
  |str y' =>
   simp only[d8]at d;split at d
   .rename_i hz;cases d;have⟨kvs,h1,B,h3⟩:=l;have ey:m=.str y':=UW;subst ey;have hl:kvs.length=ks.length:=by have:=ü H8 B;simpa using this
    show .inr ⟨n,_,rfl,vf.k (k:=nc y') h1 (by rw[hl];show hz),?_⟩;show s (λa ne=>ao ne) ⟨_,aA⟩ λO=>?_;have⟨g1,g2⟩:=xU (y:=y') B h3 UU;show⟨_,aA,g1,g2.mv O⟩
   .cases d
  |_=>simp[d8]at d
 |_=>simp[d8]at d
def Ok.slot(d:Ok C c)(e:k≠.G')(hs:c.st[i]?=bD (bD (k,u))):∃v,c.σ[i]?=bD (bD v)/\aM C c c (if k.root=b6 then .bor i else k) u v:=by
 have⟨f,b,a⟩:=d.sl i k u hs;show⟨f,b,?_⟩;by_cases hk:k.root=b6
 .rw[ö hk];show⟨⟨k,hk,hs⟩,b⟩
 .rw[ø hk];cases k with
  |loc=>show a
  |any=>show a
  |bor j=>show a.elim
  |G'=>show(e rfl).elim
  |_=>show absurd rfl hk
def Fv(e:∀j,ns j=b6->j≠i)(f:X.N.Nodup)(c:X.N[i]?=bD x)(g:Loc X.env.scope x)(l:X.fn x=b6\/X.env.scope.names.lookup x=bD .local):
  L2.PS X (.AugAssign (.Name x d) .Add (.Constant (.int n) j q) pos) (Iu C ns (c9 i >>= λr=>oP r >>= λm=>eQ i (.loc,.int (m+n)) >>= λ_=>pure .nx)):=by
 rintro a s σ H D I ⟨c0,rfl,rfl,b,h⟩;have o:i<c0.σ.length:=by rw[I.len];show(eh.mp c).1
 rw[ai]at h;have⟨k0,p,t,u,h⟩:=cR h;have⟨w,y,z⟩:=b.slot t u;cases p with
 |int m =>
  rw[ai,show ∀k:Kd,oP (k,U.int m)=pure m from λ_=>rfl,au]at h;have ev:w=.int m:=z.int b;subst ev;show CN f c g rb wy l a s c0.σ c0.H D I ⟨.int m,y,m,n,rfl,rfl,lu (r:=(.loc,.int (m+n))) (v:=.int (m+n)) e b ⟨rfl,b,Nx.refl c0,rfl⟩ o h⟩
 |_=>rw[ai]at h;show(bt.mp h).elim
end
section
def Ok.Fw(d:Ok C c)(n:Ns c0 c)(O:c.st[i]?=bD (bD (.G',u)))(B:c.σ[i]?=bD (bD (.ref r)))(HV:∀a,¬c.RD i a->H' a=c.H a)(Q:∀a o,c.H a=bD o->∃o',H' a=bD o')
  (new:Mv c.S c.H c.S H'->cz C c.S H' r as' u') (T:∀a∈as',a∈c.kid i\/(¬c.R a/\c0.H a=cb)) :
  Ok C {c with H:=H',st:=c.st.set i (bD (.G',u')),kid:=λj=>if j=i then as' else c.kid j}/\Ns c0 {c with H:=H',st:=c.st.set i (bD (.G',u')),kid:=λj=>if j=i then as' else c.kid j}:=by
 have Y:i<c.st.length:=(eh.mp O).1;have rt:∀{a},c.RD i a->¬c.S a/\¬C.J4 a/\(C.H₀ a=cb\/C.IO a)/\∃o,c.H a=bD o/\¬Tp o:=λz=>d.root (.inr ⟨i,z⟩);have h0:∀{a},c.RD i a->C.H₀ a=cb:=λ⟨u1,r1,g,b,e3⟩=>(cz.fr (d.dd.kd i u1 r1 g b) _ (gc.mpr e3)).2.2;have q:∀{a:hU} {o:HO},¬c.RD i a->c.H a=bD o->H' a=bD o:=λz e=>by rw[HV _ z];show e
 have N:Mv c.S c.H c.S H':=⟨λ_ z=>z,λa o e t=>q (λz=>by
  obtain⟨_,_,_,o',l,nt⟩:=rt z;rw[e]at l;cases l;show nt t) e,λa o z e=>q (λm=>(rt m).1 z) e⟩
 have Ls:Mv (PS C c.S) c.H (PS C c.S) H':=⟨λ_ z=>z,N.OT,λa o z e=>q (λm=>z.elim (rt m).2.1 (rt m).1) e⟩
 have D:∀(j:Nat) k w,(c.st.set i (bD (.G',u')))[j]?=bD (bD (k,w))->j≠i->c.st[j]?=bD (bD (k,w)):=λj k w e ne=>by rw[i8 (tj ne)]at e;show e
 have M0:∀(j:Nat) k w,k.root=b6->(c.st.set i (bD (.G',u')))[j]?=bD (bD (k,w))->c.st[j]?=bD (bD (k,w)):=λj k w hk e=>by
  by_cases f:j=i
  .subst f;rw[fx Y]at e;cases e;cases hk
  .show D j k w e f
 have b1:∀a,({c with H:=H',st:=c.st.set i (bD (.G',u')),kid:=λj=>if j=i then as' else c.kid j}:Cf).R1 a->c.R1 a:=λa ⟨j,k,w,hk,g,b⟩=>⟨j,k,w,hk,M0 j k w hk g,b⟩
 have G:∀j a,({c with H:=H',st:=c.st.set i (bD (.G',u')),kid:=λj=>if j=i then as' else c.kid j}:Cf).RD j a->c.RD j a\/(j=i/\¬c.R a/\c0.H a=cb):=λj a Hx=>by
  have⟨w,h,g,b,e3⟩:=Hx;by_cases f:j=i
  .subst f;have I:c.σ[j]?=bD (bD (.ref h)):=b;rw[B]at I;cases I;rcases e3 with rfl|e3
   .show .inl ⟨u,_,O,B,.inl rfl⟩
   .have Mh:a∈as':=by simpa using e3
    rcases T a Mh with z|z
    .show .inl ⟨u,_,O,B,.inr z⟩
    .show .inr ⟨rfl,z⟩
  .have Mh:a=h\/a∈c.kid j:=by simpa[f] using e3
   show .inl ⟨w,h,D j _ w g f,b,Mh⟩
 show⟨⟨λa o e z=>q (λm=>by rw[h0 m]at e;cases e) (d.same a o e z),λa z=>?_,d.par,λa z=>?_,by simp[d.len],λj k w e=>?_,λx s k1 k2 w1 w2 h h1 h2 g b e3 e4=>d.inj x s k1 k2 w1 w2 h h1 h2 (M0 x k1 w1 h1 g) (M0 s k2 w2 h2 b) e3 e4,⟨λj w h g b=>?_,λx s a J L=>?_,λj a J L=>?_⟩⟩,⟨λa o e z=>?_,λa o e=>?_,λa z=>?_,n.sub,n.new⟩⟩
 .have⟨q1,o,q2⟩:=d.JD a z;show⟨q1,Q a o q2⟩
 .have⟨q1,o,q2⟩:=d.io a z;show⟨q1,Q a o q2⟩
 .by_cases f:j=i
  .subst f;rw[fx Y]at e;cases e;show⟨.ref r,B,r,rfl⟩
  .have⟨v,g,b⟩:=d.sl j k w (D j k w e f);show⟨v,g,b.mv N Ls λhk h er=>?_⟩;obtain⟨OW,I0,J,_⟩:=b.rt hk;rw[er]at I0;cases I0;show⟨J,λo l=>q (λz=>d.dd.d1 i h z ⟨j,k,w,hk,D j k w e f,by rw[g,er]⟩) l⟩
 .by_cases f:j=i
  .subst f;rw[fx Y]at g;cases g;have I:c.σ[j]?=bD (bD (.ref h)):=b;rw[B]at I;cases I;have z:=new N;simpa using z
  .have Io:=D j _ w g f;have Ig:(if j=i then as' else c.kid j)=c.kid j:=ø f;change cz C c.S H' h (if j=i then as' else c.kid j) w;rw[Ig];show cz.mv N (λa ha=>⟨(d.root (.inr ⟨j,w,h,Io,b,gc.mp ha⟩)).1,λo l=>q (λz=>f (d.dd.dj j i a ⟨w,h,Io,b,gc.mp ha⟩ z)) l⟩) (d.dd.kd j w h Io b)
 .rcases G x a J with p|⟨rfl,p,_⟩
  .rcases G s a L with A|⟨rfl,A,_⟩
   .show d.dd.dj x s a p A
   .show(A (.inr ⟨x,p⟩)).elim
  .rcases G s a L with A|⟨rfl,A,_⟩
   .show(p (.inr ⟨s,A⟩)).elim
   .rfl
 .rcases G j a J with p|⟨rfl,p,_⟩
  .show d.dd.d1 j a p (b1 a L)
  .show p (.inl (b1 a L))
 .show q (λm=>by
   rcases n.roots a (.inr ⟨i,m⟩) with y|y
   .show z y
   .rw[e]at y;cases y) (n.keep a o e z)
 .have⟨o',l⟩:=n.there a o e;show Q a o' l
 .rcases z with z|⟨j,z⟩
  .show n.roots a (.inl (b1 a z))
  .rcases G j a z with y|⟨_,_,y⟩
   .show n.roots a (.inr ⟨j,y⟩)
   .show .inr y
def Ok.newD(l:Ok C c)(B:c.H p=cb)(u:i<c.σ.length):
  Ok C {c with H:=upd c.H p (.dK []),σ:=c.σ.set i (bD (.ref p)),st:=c.st.set i (bD (.G',.Hf [] [])),kid:=λj=>if j=i then [] else c.kid j}/\Ns c {c with H:=upd c.H p (.dK []),σ:=c.σ.set i (bD (.ref p)),st:=c.st.set i (bD (.G',.Hf [] [])),kid:=λj=>if j=i then [] else c.kid j}:=by
 have⟨n,T⟩:=l.lay (o:=.dK []) B;have⟨q1,q2,q3,q4,D⟩:=l.jW B;have G:i<c.st.length:=by rw[l.len];show u
 have x:∀(j:Nat) k w,(c.st.set i (bD (.G',.Hf [] [])))[j]?=bD (bD (k,w))->j≠i->c.st[j]?=bD (bD (k,w)):=λj k w e I=>by rw[i8 (tj I)]at e;show e
 have q:∀(j:Nat),j≠i->(c.σ.set i (bD (.ref p)))[j]?=c.σ[j]?:=λj I=>i8 (tj I);have J:∀(j:Nat) k w,k.root=b6->(c.st.set i (bD (.G',.Hf [] [])))[j]?=bD (bD (k,w))->j≠i/\c.st[j]?=bD (bD (k,w)):=λj k w hk e=>by
  by_cases b:j=i
  .subst b;rw[fx G]at e;cases e;cases hk
  .show⟨b,x j k w e b⟩
 have b1:∀a,({c with H:=upd c.H p (.dK []),σ:=c.σ.set i (bD (.ref p)),st:=c.st.set i (bD (.G',.Hf [] [])),kid:=λj=>if j=i then [] else c.kid j}:Cf).R1 a->c.R1 a:=λa L=>by
  have⟨j,k,w,hk,d,f⟩:=L;have⟨b,N⟩:=J j k w hk d;show⟨j,k,w,hk,N,by rw[<-q j b];show f⟩
 have r:∀j a,({c with H:=upd c.H p (.dK []),σ:=c.σ.set i (bD (.ref p)),st:=c.st.set i (bD (.G',.Hf [] [])),kid:=λj=>if j=i then [] else c.kid j}:Cf).RD j a->(j≠i/\c.RD j a)\/(j=i/\a=p):=λj a L=>by
  have⟨w,g,d,f,e3⟩:=L;by_cases b:j=i
  .subst b;have s:(c.σ.set j (bD (.ref p)))[j]?=bD (bD (.ref g)):=f;rw[fx u]at s;cases s;rcases e3 with rfl|e3
   .show .inr ⟨rfl,rfl⟩
   .simp at e3
  .have Mh:a=g\/a∈c.kid j:=by simpa[b] using e3
   show .inl ⟨b,w,g,x j _ w d b,by rw[<-q j b];show f,Mh⟩
 show⟨⟨n.same,n.JD,n.par,n.io,by simp[l.len],λj k w e=>?_,λm h k1 k2 Y w2 g h1 h2 d f e3 e4=>?_,⟨λj w g d f=>?_,λm h a O t=>?_,λj a O t=>?_⟩⟩,⟨T.keep,T.there,λa z=>?_,λ_ z=>z,λ_ z=>.inl z⟩⟩
 .by_cases b:j=i
  .subst b;rw[fx G]at e;cases e;show⟨.ref p,fx u,p,rfl⟩
  .have⟨v,d,f⟩:=n.sl j k w (x j k w e b);show⟨v,(q j b).trans d,f⟩
 .have⟨NT,a1⟩:=J m k1 Y h1 d;have⟨M1,a2⟩:=J h k2 w2 h2 f;show l.inj m h k1 k2 Y w2 g h1 h2 a1 a2 ((q m NT).symm.trans e3) ((q h M1).symm.trans e4)
 .by_cases b:j=i
  .subst b;rw[fx G]at d;cases d;have s:(c.σ.set j (bD (.ref p)))[j]?=bD (bD (.ref g)):=f;rw[fx u]at s;cases s;change cz C c.S (upd c.H p (.dK [])) p (if j=j then [] else c.kid j) (.Hf [] []);rw[ö rfl];show⟨[],aA,rfl,rfl,by simp,λa ha=>by rw[i0.mp ha];show⟨q2,q3,q1⟩,rfl⟩
  .have N:=x j _ w d b;have z:=n.dd.kd j w g N ((q j b).symm.trans f);change cz C c.S (upd c.H p (.dK [])) g (if j=i then [] else c.kid j) w;rw[ø b];show z
 .rcases r m a O with⟨_,A⟩|⟨rfl,rfl⟩
  .rcases r h a t with⟨_,Q⟩|⟨rfl,rfl⟩
   .show l.dd.dj m h a A Q
   .show(D (.inr ⟨m,A⟩)).elim
  .rcases r h a t with⟨_,Q⟩|⟨rfl,_⟩
   .show(D (.inr ⟨h,Q⟩)).elim
   .rfl
 .rcases r j a O with⟨_,A⟩|⟨rfl,rfl⟩
  .show l.dd.d1 j a A (b1 a t)
  .show D (.inl (b1 a t))
 .rcases z with z|⟨j,z⟩
  .show .inl (.inl (b1 a z))
  .rcases r j a z with⟨_,y⟩|⟨_,rfl⟩
   .show .inl (.inr ⟨j,y⟩)
   .show .inr B
end
section
theorem dr.rep{S S':hU->Prop}(hs:∀a,S a->S' a):∀{us:List U}{as:List hU},(∀a∈as,S' a)->dr C S H us as->ak C S' H us (as.map V.ref)
 |[],as,_,h=>by cases h;show rfl
 |u::us,as,c,h=>by
  have⟨a,as',i,vs,rfl,rfl,d,e,f⟩:=h;show⟨.ref a,as'.map V.ref,rfl,⟨a,vs,rfl,.inl ⟨c a (by simp),.inl d⟩,e.mv (.up hs)⟩,dr.rep hs (λb g=>c b (by simp[g])) f⟩
def Ok.Fx(b:Ok C c)(n:Nx c0 c)(Q:c.st[i]?=bD (bD (.G',u)))(s:c.σ[i]?=bD (bD (.ref r))):
  Ok C {c with S:=λa=>c.S a\/a∈c.kid i,st:=c.st.set i (bD (.own,u))}/\Nx c0 {c with S:=λa=>c.S a\/a∈c.kid i,st:=c.st.set i (bD (.own,u))}:=by
 have T:i<c.st.length:=(eh.mp Q).1;have D:=b.dd.kd i u r Q s;have fr:=cz.fr D;have mem:∀a,(a=r\/a∈c.kid i)->c.RD i a:=λa z=>⟨u,r,Q,s,z⟩
 have up:Mv c.S c.H (λa=>c.S a\/a∈c.kid i) c.H:=.up λa=>.inl;have Xc:Mv (PS C c.S) c.H (PS C λa=>c.S a\/a∈c.kid i) c.H:=.up λa z=>z.imp id .inl;have Qm:r∉c.kid i/\cW C (λa=>c.S a\/a∈c.kid i) c.H r u:=by
  cases u<;>first|show D.elim|skip
  have⟨kvs,G,I,h3,h4,h5,h6⟩:=D;show⟨(mA.mp h4).1,kvs,G,I,?_⟩;rw[h3];show h6.rep (λa=>.inl) λa J=>.inr J
 have p:∀(j:Nat) k w,(c.st.set i (bD (.own,u)))[j]?=bD (bD (k,w))->j≠i->c.st[j]?=bD (bD (k,w)):=λj k w e ne=>by rw[i8 (tj ne)]at e;show e
 have b1:∀a,({c with S:=λa=>c.S a\/a∈c.kid i,st:=c.st.set i (bD (.own,u))}:Cf).R1 a->c.R1 a\/a=r:=λa Y=>by
  have⟨j,k,w,hk,f,g⟩:=Y;by_cases d:j=i
  .subst d;have JC:c.σ[j]?=bD (bD (.ref a)):=g;rw[s]at JC;cases JC;show .inr rfl
  .show .inl ⟨j,k,w,hk,p j k w f d,g⟩
 have t:∀j a,({c with S:=λa=>c.S a\/a∈c.kid i,st:=c.st.set i (bD (.own,u))}:Cf).RD j a->j≠i/\c.RD j a:=λj a Y=>by
  have⟨w,h,f,g,x⟩:=Y;by_cases d:j=i
  .subst d;rw[fx T]at f;cases f
  .show⟨d,w,h,p j _ w f d,g,x⟩
 show⟨⟨b.same,λa z=>?_,b.par,b.io,by simp[b.len],λj k w e=>?_,λm l k1 k2 L N h G I f g x e4=>?_,⟨λj w h f g=>?_,λm l a A z2=>b.dd.dj m l a (t m a A).2 (t l a z2).2,λj a A z2=>?_⟩⟩,⟨⟨n.keep,n.there,λa z=>?_,λa z=>.inl (n.sub a z),λa z=>?_⟩,λa ⟨j,z⟩=>n.dk a ⟨j,(t j a z).2⟩⟩⟩
 .rcases z with z|z
  .show b.JD a z
  .obtain⟨o,ho,_⟩:=cz.there D a (td _ z);show⟨(fr a (td _ z)).2.2,o,ho⟩
 .by_cases d:j=i
  .subst d;rw[fx T]at e;cases e;have⟨q1,q2,q3⟩:=fr r (nH ..);show⟨.ref r,s,r,rfl,λz=>z.elim q1 Qm.1,q2,q3,Qm.2⟩
  .have⟨v,f,g⟩:=b.sl j k w (p j k w e d);show⟨v,f,g.mv up Xc λhk h er=>?_⟩;obtain⟨OW,I0,A,_⟩:=g.rt hk;rw[er]at I0;cases I0;show⟨λz=>z.elim A λz=>b.dd.d1 i h (mem h (.inr z)) ⟨j,k,w,hk,p j k w e d,by rw[f,er]⟩,λo q=>q⟩
 .by_cases O:m=i
  .by_cases B:l=i
   .rw[O,B]
   .subst O;have Mh:c.σ[m]?=bD (bD (.ref h)):=x;rw[s]at Mh;cases Mh;show(b.dd.d1 m r (mem r (.inl rfl)) ⟨l,k2,N,I,p l k2 N g B,e4⟩).elim
  .by_cases B:l=i
   .subst B;have UX:c.σ[l]?=bD (bD (.ref h)):=e4;rw[s]at UX;cases UX;show(b.dd.d1 l r (mem r (.inl rfl)) ⟨m,k1,L,G,p m k1 L f O,x⟩).elim
   .show b.inj m l k1 k2 L N h G I (p m k1 L f O) (p l k2 N g B) x e4
 .by_cases d:j=i
  .subst d;rw[fx T]at f;cases f
  .have Io:=p j _ w f d;show cz.mv up (λa J=>⟨λz=>z.elim (b.root (.inr ⟨j,w,h,Io,g,gc.mp J⟩)).1 λz=>d (b.dd.dj j i a ⟨w,h,Io,g,gc.mp J⟩ (mem a (.inr z))),λo q=>q⟩) (b.dd.kd j w h Io g)
 .have⟨d,y⟩:=t j a A;rcases b1 a z2 with z|z
  .show b.dd.d1 j a y z
  .subst z;show d (b.dd.dj j i a y (mem a (.inl rfl)))
 .rcases z with z|⟨j,z⟩
  .rcases b1 a z with z|rfl
   .show n.roots a (.inl z)
   .show n.roots a (.inr ⟨i,mem a (.inl rfl)⟩)
  .show n.roots a (.inr ⟨j,(t j a z).2⟩)
 .rcases z with z|z
  .show n.new a z
  .rcases n.roots a (.inr ⟨i,mem a (.inr z)⟩) with y|y
   .show .inr (.inl y)
   .show .inr (.inr y)
def AW(f:X.N[i]?=bD x)(g:Jo X.env.scope x)(j:(x==("__debug__":Str))=cK)(k:(x==("__classdict__":Str))=cK):PE X (.Name x pos) (Hn C (xA i)):=by
 have m:=oS (C:=C) (pos:=pos) f g j k;rintro b s σ H Q I ⟨c0,rfl,rfl,c,r,st',e,h⟩;unfold xA at e;split at e
 .rename_i u hs;cases e;have⟨v,d,l,rfl⟩:=c.sl i _ _ hs;have⟨n,o⟩:=c.Fx (Nx.refl c0) hs d;have p:i<c0.st.length:=(eh.mp hs).1;show cA f g j k b s c0.σ c0.H Q I ⟨.ref l,d,h {c0 with S:=λa=>c0.S a\/a∈c0.kid i,st:=c0.st.set i (bD (.own,u))} (.ref l) rfl rfl n o ⟨⟨.own,rfl,fx p⟩,d⟩⟩
 .show m b s c0.σ c0.H Q I ⟨c0,rfl,rfl,c,r,st',e,h⟩
end
section
def gx{st:aw}(h:W (iH i) st Q):∃ks us,st[i]?=bD (bD (.G',.Hf ks us))/\Q (ks,us) st:=by
 have⟨r,st',e,q⟩:=h;unfold iH at e;split at e
 .rename_i ks us hs;cases e;show⟨ks,us,hs,q⟩
 .cases e
def gy{st:aw}(h:W (jX x) st Q):∃y,x.2=.str y/\Q y st:=by
 unfold jX at h;split at h
 .rename_i y e;rw[au]at h;show⟨y,e,h⟩
 .show(bt.mp h).elim
def Ok.Hf(d:Ok C c)(f:c.st[i]?=bD (bD (.G',.Hf ks us))):∃(r:hU) (kvs:List (Key×V)),c.σ[i]?=bD (bD (.ref r))/\c.H r=bD (.dK kvs)/\kvs.map (·.1)=ks.map nc/\kvs.map (·.2)=(c.kid i).map V.ref /\
  (r::c.kid i).Nodup/\dr C c.S c.H us (c.kid i)/\(∀y:Str,(dG kvs (nc y)).isSome=df (y∈ks))/\∀(y:Str) (u:U),dI ks us y=bD u->∃v,dG kvs (nc y)=bD v/\Rep C (λa=>c.S a\/a∈c.kid i) c.H u v:=by
 have⟨v,e,r,rfl⟩:=d.sl i _ _ f;have⟨kvs,k,b,g,l,n,h⟩:=d.dd.kd i _ r f e;have j:ak C (λa=>c.S a\/a∈c.kid i) c.H us (kvs.map (·.2)):=by rw[g];show h.rep (λa=>.inl) λa m=>.inr m
 show⟨r,kvs,e,k,b,g,l,h,λy=>(dN (x:=y) b j).2,λy=>(dN (x:=y) b j).1⟩
def qp{k:Str->List Str×List U->M β}{b:β->aw->Prop}{Z:V->V->Hp->Prop}(m:Ok C c0)(h:W (o >>= λx=>jX x >>= λy=>iH i >>= λd=>k y d) c0.st b)
  (hz:∀(c:Cf) (y:Str) (ks:List Str) (us:List U) (r:hU) (kvs:List (Key×V)),c.σ=c0.σ->Ok C c->Nx c0 c->c.H r=bD (.dK kvs)->(dG kvs (nc y)).isSome=df (y∈ks)->W (k y (ks,us)) c.st b->Z (.str y) (.ref r) c.H) :
  Hn C o c0.σ c0.H λv p=>∃f,c0.σ[i]?=bD (bD f)/\Z v f p:=by
 show⟨c0,rfl,rfl,m,?_⟩;rw[ai]at h;show W.mono h λx st' w c v g hs a n r=>?_;subst hs;have⟨u,z⟩:=x;rw[ai]at w;have⟨y,e,j⟩:=gy w;clear w
 dsimp only at e r
 subst e;have ev:v=.str y:=r.str a;subst ev;rw[ai]at j;have⟨ks,us,hs,w⟩:=gx j;obtain⟨l,kvs,q,s,_,_,_,_,t,_⟩:=a.Hf hs;show⟨.ref l,by rw[<-g];show q,hz c y ks us l kvs g a n s (t y) w⟩
abbrev DT(neg:Bool):CmpOp:=if neg=b6 then .NotIn else .In
def DU(d:∀j,ns j=b6->j≠i)(f:X.N.Nodup)(c:X.N[i]?=bD x)(g:Loc X.env.scope x)(k:X.fn x=b6\/X.env.scope.names.lookup x=bD .local)
  (hs:Qi (.Dict [] [] p) (bD (.Name x a)) pos.line X.env=pure cK):L2.PS X (.Assign [.Name x a] (.Dict [] [] p) pos) (Iu C ns (B0 i >>= λ_=>pure .nx)):=by
 rintro b s σ H D I ⟨c0,rfl,rfl,l,h⟩;have m:i<c0.σ.length:=by rw[I.len];show(eh.mp c).1
 show wx f c g pQ hs k b s c0.σ c0.H D I λq n=>?_;have⟨o,r⟩:=l.newD n m;rw[ai]at h;obtain⟨_,st',e,w⟩:=h;cases e;rw[au]at w;show w _ rfl o r ⟨λj t=>i8 (tj (d j t)),by simp⟩
end
section
def AX(G:X.A.units+60<Lk)(p:X.N[i]?=bD x)(q:Jo X.env.scope x)(t:(x==("__debug__":Str))=cK)(u:(x==("__classdict__":Str))=cK)(v:PE X a (Hn C D))(z:Qz (DT neg) (.Name x p2)=cK):
  PT X (.Compare a [DT neg] [.Name x p2] pos) (IL C (D >>= λx=>jX x >>= λy=>iH i >>= λd=>pure (Sr neg y d.1))):=by
 rintro e s σ H Q I ⟨c0,rfl,rfl,B,h⟩;cases neg with
 |false =>
  show wj (C7 ⋯ v (cA p q t u)) z e s c0.σ c0.H Q I (qp (Z:=λy x f=>∃a o,x=V.ref a/\ff f a y o/\∃b,V.bl o.isSome=.bl b/\Q b f) B h λc y ks us r kvs g j n l m w=>?_);rw[au]at w;show⟨r,_,rfl,ff.k (k:=nc y) l,?_⟩;rw[m];show⟨_,rfl,w c g rfl j n⟩
 |true =>
  show wj (vi ⋯ v (cA p q t u)) z e s c0.σ c0.H Q I (qp (Z:=λy x f=>∃a o,x=V.ref a/\ff f a y o/\∃b,V.bl (!o.isSome)=.bl b/\Q b f) B h λc y ks us r kvs g j n l m w=>?_);rw[au]at w;show⟨r,_,rfl,ff.k (k:=nc y) l,?_⟩;rw[m];show⟨_,rfl,w c g rfl j n⟩
theorem dr.snoc{S:hU->Prop}{a:hU}(b:H a=bD (.lst vs))(c:ak C S H d vs):∀{us:List U}{as:List hU},dr C S H us as->dr C S H (us++[.lst d]) (as++[a])
 |[],as,h=>by cases h;show⟨a,[],d,vs,rfl,rfl,b,c,rfl⟩
 |u::us,as,h=>by
  have⟨a',as',f,g,rfl,e,i,j,k⟩:=h;show⟨a',as'++[a],f,g,rfl,e,i,j,dr.snoc b c k⟩
def rY{st:aw}(h:W (lh i y r) st Q):∃us ks vs,r=(.own,.lst us)/\st[i]?=bD (bD (.G',.Hf ks vs))/\y∉ks/\ks.length<dV/\Q () (st.set i (bD (.G',.Hf (ks++[y]) (vs++[.lst us])))):=by
 have⟨k,u⟩:=r;cases k<;>cases u<;>first|show(bt.mp h).elim|skip
 rename_i us;obtain⟨_,st',e,q⟩:=h;unfold lh at e
 dsimp only at e
 split at e
 .rename_i ks vs hs;split at e
  .rename_i hz;cases e;show⟨us,ks,vs,rfl,hs,hz.1,hz.2,q⟩
  .cases e
 .cases e
def DV{i:Nat}{x:Str}{j:Pos}(hu:X.A.units+60<Lk)(hN:X.N[i]?=bD x)(hv:Jo X.env.scope x)(hd:(x==("__debug__":Str))=cK)(HS:(x==("__classdict__":Str))=cK)
  (ha:PE X a (Hn C ma)) (B:PE X b (Hn C mb)) (hs:Qx [.Subscript (.Name x j) b p] a pos.line X.env=pure cK) (SS:UC [.Subscript (.Name x j) b p] a X.env=pure cb)
  (G:∀v,Rf (.Subscript (.Name x j) b p) X.env v=(do
   let n <-Mr [v] (HD (.Name x j) X.env)
   let I <-Mr [v,n] (HD b X.env)
   XO p
   Mr [v,n,I] (SH n I v)
   VF [v,n,I] [])) :
  L2.PS X (.Assign [.Subscript (.Name x j) b p] a pos) (Iu C ns (ma >>= λr=>iH i >>= λ_=>mb >>= λx=>jX x >>= λy=>lh i y r >>= λ_=>pure .nx)):=by
 show PS.weak (rf ha (wu (cA hN hv hd HS) B (set_dict (X:=X) ⋯) G) hs SS rfl) ?_;rintro D σ H ⟨c0,rfl,rfl,Q,h⟩;show aX Q h λr c v t w=>?_;rw[ai]at w;have⟨UY,SX,IG,w⟩:=gx w;obtain⟨T,M3,Y,g0,_⟩:=t.ok.Hf IG;show⟨.ref T,by rw[<-t.hσ];show Y,?_⟩;rw[ai]at w;show⟨c,t.hσ,rfl,t.ok,w.mono λy st2 w2 J vy s e4 u n2 r2=>?_⟩;subst e4;rw[ai]at w2;have⟨ky,uy⟩:=y;have⟨y,ey,w3⟩:=gy w2
 dsimp only at ey r2
 subst ey;have ev:vy=.str y:=r2.str u;subst ev;rw[ai]at w3;have⟨us,ks,vs,L,g,PY,l,q⟩:=rY w3;subst L;rw[au]at q;obtain⟨m,kvs,d,g1,g2,g3,g4,g5,g6,_⟩:=u.Hf g;have L:m=T:=by rw[s,<-t.hσ,Y]at d;cases d;rfl
 subst L;have⟨f,rfl,k1,k2,O,HJ,k4,k5⟩:=t.rx.w.on t.ok n2.toNs (s.trans t.hσ.symm);have SU:=t.nx.trans n2;have hl:kvs.length=ks.length:=by have:=ü H8 g2;simpa using this
 have Lc:dG kvs (nc y)=cb:=by
  have:=g6 y;rw[ù PY]at this;cases hq:dG kvs (nc y) with
  |none=>rfl
  |some _=>rw[hq]at this;cases this
 show⟨m,_,rfl,vf.k (k:=nc y) g1 (by rw[hl];show l),?_⟩;rw[wJ _ Lc];have Qm:f∉J.kid i:=λz=>O (.inr ⟨i,_,_,g,d,.inr z⟩);have UZ:f≠m:=λz=>O (.inr ⟨i,_,_,g,d,.inl z⟩);have rd:=u.dd.kd i _ _ g d;have fr:=cz.fr rd;have⟨J9,n3⟩:=Ok.Fw (H':=upd J.H m (.dK (kvs++[(nc y,.ref f)]))) (u':=.Hf (ks++[y]) (vs++[.lst us])) (as':=J.kid i++[f]) u SU.toNs g d
  (λa ne=>ao λz=>ne ⟨_,_,g,d,.inl z⟩) (λa o e=>by
   by_cases hz:a=m
   .subst hz;show⟨_,aA⟩
   .rw[ao hz];show⟨o,e⟩)
  (λmv=>by
   show⟨_,aA,by rw[l0,g2,l0];rfl,by rw[l0,g3,l0];rfl,?_,λa ha=>?_,?_⟩
   .rw[<-Zp,ti];show⟨g4,by simp,λa ha b B=>by
     have:b=f:=by simpa using B
     subst this;rintro rfl;rcases gc.mp ha with z|z
     .show UZ z
     .show Qm z⟩
   .rw[<-Zp]at ha;rcases kj.mp ha with ha|ha
    .show fr a ha
    .have:a=f:=by simpa using ha
     subst this;obtain⟨z1,_,z3,_⟩:=Q.jW k1;show⟨k2,z3,z1⟩
   .show dr.snoc (by rw[ao UZ];show k4) (k5.mv mv) (dr.mv mv (λa ha o e=>by
     rw[ao (λz=>(mA.mp g4).1 (by rw[<-z];show ha))];show e) g5))
  (λa ha=>by
   rcases kj.mp ha with ha|ha
   .show .inl ha
   .have:a=f:=by simpa using ha
    subst this;show .inr ⟨O,k1⟩)
 have z:=q _ rfl J9 n3 (Kept.of s);rw[<-s];show z
theorem dr.at{S:hU->Prop}:∀{ks:List Str}{us:List U}{as:List hU}{kvs:List (Key×V)}{u:U},kvs.map (·.1)=ks.map nc->kvs.map (·.2)=as.map V.ref->as.Nodup->dr C S H us as->dI ks us y=bD u ->
  ∃a ws d,dG kvs (nc y)=bD (.ref a)/\a∈as/\u=.lst d/\H a=bD (.lst ws)/\ak C S H d ws/\∀(H':Hp) (c:List U) (ws':List V),Mv S H S H'->H' a=bD (.lst ws')->ak C S H' c ws'->(∀b∈as,b≠a->H' b=H b)->dr C S H' (jj ks us y (.lst c)) as
 |[],us,as,kvs,u,_,_,_,_,h=>by cases us<;>cases h
 |k::ks,[],as,kvs,u,_,_,_,_,h=>by cases h
 |k::ks,O::us,as,kvs,u,f,n,g,hk,h=>by
  have⟨a,as',d,ws,rfl,rfl,s,t,v⟩:=hk;cases kvs with
  |nil=>simp at f
  |cons p kvs =>
   rw[gs,gs,NO]at f n;rw[mA]at g;by_cases i:k=y
   .subst i;simp only[dI,if_true]at h;cases h;show⟨a,ws,d,by rw[eI f.1,n.1],by simp,rfl,s,t,λH' c ws' j q r l=>?_⟩;simp only[jj,if_true];show⟨a,as',c,ws',rfl,rfl,q,r,dr.mv j (λb m o e=>by rw[l b (by simp[m]) (λz=>g.1 (z▸m))];show e) v⟩
   .simp only[dI,ø i]at h;have⟨w,A,B,D,x,G,I,J,L⟩:=dr.at f.2 n.2 g.2 v h;show⟨w,A,B,?_,by simp[x],G,I,J,λH' c ws' j q r l=>?_⟩
    .rw[eJ (by rw[f.1];intro z;show i (Uh z))];show D
    .simp only[jj,ø i];have N:a≠w:=λz=>g.1 (z▸x);show⟨a,as',d,ws,rfl,rfl,by rw[l a (by simp) N];show s,t.mv j,L H' c ws' j q r λb m=>l b (by simp[m])⟩
def rZ{st:aw}(h:W (lj i y u) st Q):∃ks vs xs,st[i]?=bD (bD (.G',.Hf ks vs))/\dI ks vs y=bD (.lst xs)/\xs.length<dV/\Q () (st.set i (bD (.G',.Hf ks (jj ks vs y (.lst (xs++[u])))))):=by
 obtain⟨_,st',e,q⟩:=h;unfold lj at e;split at e
 .rename_i ks vs hs;split at e
  .rename_i xs a;split at e
   .rename_i hz;cases e;show⟨ks,vs,xs,hs,a,hz,q⟩
   .cases e
  .cases e
 .cases e
abbrev xV(C:Ct)(m:M (Kd×U)):TE:=λσ H Q=>∃c0:Cf,c0.σ=σ/\c0.H=H/\Ok C c0/\W m c0.st λr st'=>∀c v,c.σ=σ->c.st=st'->Ok C c->Nx c0 c->(∀a o,c0.H a=bD o->c.H a=bD o)->aM C c0 c r.1 r.2 v->Q v c.H
def vN(b:Ok C c0)(h:W (d >>= k) c0.st e)
  (hz:∀x c v,LO C c0 c x v->(∀a o,c0.H a=bD o->c.H a=bD o)->W (k x) c.st e->Z v c.H):xV C d c0.σ c0.H Z:=by
 rw[ai]at h;show⟨c0,rfl,rfl,b,h.mono λx st1 f c1 g i j l m n p=>hz x c1 g ⟨i,l,m,p⟩ n (by rw[j];show f)⟩
def xW(d:X.N[i]?=bD x)(f:Jo X.env.scope x)(g:(x==("__debug__":Str))=cK)(l:(x==("__classdict__":Str))=cK):PE X (.Name x pos) (xV C (c9 i)):=by
 show PE.weak (cA d f g l) ?_;rintro σ H Q ⟨c0,rfl,rfl,b,r,st',e,h⟩;unfold c9 at e;split at e
 .cases e
 .rename_i k u m hs;cases e;have⟨v,c,a⟩:=b.sl i k u hs;show⟨v,c,h c0 v rfl rfl b (Nx.refl c0) (λ_ _ z=>z) ?_⟩;by_cases hk:k.root=b6
  .rw[ö hk];show⟨⟨k,hk,hs⟩,c⟩
  .rw[ø hk];cases k with
   |loc=>show a
   |any=>show a
   |bor j=>show a.elim
   |G'=>show(m rfl).elim
   |_=>show absurd rfl hk
 .cases e
def iO(h:PE X e (tC v))(r:∀S H,Rep C S H u v):PE X e (xV C (pure (.loc,u))):=by
 show PE.weak h ?_;rintro σ H Q ⟨c0,rfl,rfl,a,h⟩;rw[au]at h;show h c0 v rfl rfl a (Nx.refl c0) (λ_ _ z=>z) (r _ _)
def DW(hK:C.K=X.K)(hu:X.A.units+60<Lk)(hN:X.N[i]?=bD x)(hv:Jo X.env.scope x)(hd:(x==("__debug__":Str))=cK)(HS:(x==("__classdict__":Str))=cK)(G:PE X a (Hn C ma))(hb:PE X b (Hn C mb))(Qn:C6 b)
  (IC:((Jx I (i9 [a] X.env)).all (λx=>!x.1)&&(Po I (LW [] X.env)).all (λx=>x.1.isSome)
   && df ([a].length+([]:List Ni).length+(if ([]:List Ni).isEmpty then 0 else 1)<30))=b6)
  (Hw:(j.endLine==I.line)=b6) (Hq:i9 [a] X.env=[(cK,HD a X.env)]) :
  L2.PS X (.Expr (.Call (.Attribute (.Subscript (.Name x px) b p) "append" j) [a] [] I) pos) (Iu C ns (iH i >>= λ_=>mb >>= λx=>jX x >>= λy=>iH i >>= λd=>if y∈d.1 then(ma >>= λr=>lift r >>= λu=>lj i y u >>= λ_=>pure .nx) else M.fail)):=by
 show PS.weak (j4 (tm PySem.F.plainAttrs_list PySem.F.slot_list_append PySem.F.type_list_append mN (zZ ⋯ (cA hN hv hd HS) hb Qn) (fc G jd Hq) rfl IC Hw Hq rfl)) ?_;rintro D σ H ⟨c0,rfl,rfl,ok,h⟩;rw[ai]at h;have⟨UY,SX,IG,h⟩:=gx h;obtain⟨r0,M3,J,g0,_⟩:=ok.Hf IG;show⟨.ref r0,J,?_⟩;show aX ok h λry c vy t w=>?_;rw[ai]at w;have⟨ky,uy⟩:=ry;have⟨y,ey,w1⟩:=gy w
 dsimp only at ey
 subst ey;have ev:vy=.str y:=t.rx.str t.ok;subst ev;rw[ai]at w1;have⟨ks,us,hs,l⟩:=gx w1
 dsimp only at l
 by_cases L:y∈ks
 case neg=>rw[ø L]at l;show(bt.mp l).elim
 rw[ö L]at l;obtain⟨O,kvs,f1,g1,g2,g3,g4,g5,g6,_⟩:=t.ok.Hf hs;have Q:O=r0:=by rw[t.hσ,J]at f1;cases f1;rfl
 subst Q;have Mi:=g6 y;rw[ú L]at Mi;have⟨v0,s⟩:=Q5.mp Mi;have Jh:v0∈(c.kid i).map V.ref:=by
  rw[<-g3];unfold dG at s;have⟨q,hq,rfl⟩:=hA.mp s;show YL (List.mem_of_find?_eq_some hq)
 have⟨f,Xf,rfl⟩:=ke.mp Jh;have⟨Xg,SY⟩:=g5.mem Xf;show⟨O,.ref f,rfl,by rw[<-s];show ff.k (k:=nc y) g1,Or.inl ⟨rfl,Xg,.inl (.inl SY)⟩,?_⟩;rw[<-t.hσ];show aX t.ok l λr g v t' w3=>?_;rw[ai]at w3;obtain⟨S',st',u,sS,T,n1,m,w4,_,_⟩:=iJ t.ok t'.ok t'.nx t'.rx.w w3;rw[ai]at w4;have⟨KP,HJ,xs,n,hx,hz,q⟩:=rZ w4;rw[au]at q;obtain⟨B,Y,k1,k2,k3,k4,k5,k6,_,_⟩:=T.Hf n;have U0:g.σ[i]?=bD (bD (.ref B)):=k1;have Q:B=O:=by rw[t'.hσ,t.hσ,J]at U0;cases U0;rfl
 subst Q;have YG:g.H B=bD (.dK Y):=k2;have S0:Y=kvs:=by have:=(n1.dk _ ⟨i,_,_,n,k1,.inl rfl⟩).2 _ g1;rw[show _=_ from k2]at this;cases this;rfl
 subst S0;have nd:=(mA.mp k5).2;have⟨a2,ws,ys,l1,l2,l3,l4,l5,l6⟩:=dr.at k3 k4 nd k6 hx;cases l3;rw[s]at l1;cases l1;have Xh:g.H f=bD (.lst ws):=l4;show⟨f,ws,v,rfl,rfl,Xh,by rw[<-l5.len];show hz,?_⟩;have HV:f≠B:=λz=>(mA.mp k5).1 (z▸l2);have⟨HI,n2⟩:=Ok.Fw (c:={g with S:=S',st:=st' }) (H':=upd g.H f (.lst (ws++[v]))) (u':=.Hf KP (jj KP HJ y (.lst (xs++[u])))) (as':=g.kid i) T (t.nx.trans n1).toNs n k1
  (λa ne=>ao λz=>ne ⟨_,_,n,k1,.inr (z▸l2)⟩) (λa o e=>by
   by_cases hz:a=f
   .subst hz;show⟨_,aA⟩
   .rw[ao hz];show⟨o,e⟩)
  (λmv=>⟨Y,by rw[ao (tj HV)];show k2,k3,k4,k5,cz.fr (T.dd.kd i _ _ n k1),l6 _ _ _ mv aA ((l5.mv mv).snoc (m.mv mv)) λb _ ne=>ao ne⟩)
  (λa G=>.inl G)
 have z:=q _ rfl HI n2 (Kept.of (t'.hσ.trans t.hσ));rw[<-t'.hσ];show z
end
section
def xX{st:aw}(h:W (Ss u) st Q):∃ks us,u=.Hf ks us/\Q () st:=by
 cases u<;>first|show(bt.mp h).elim|skip
 show⟨_,_,rfl,au.mp h⟩
def nh{st:aw}(h:W (oP x) st Q):∃j,x.2=.int j/\Q j st:=by
 unfold oP at h;split at h
 .rename_i y e;rw[au]at h;show⟨y,e,h⟩
 .show(bt.mp h).elim
def ni{st:aw}(h:W (qi i) st Q):∃k us,k.root=b6/\st[i]?=bD (bD (k,.lst us))/\Q us st:=by
 have⟨r,st',e,q⟩:=h;unfold qi at e;split at e
 .rename_i k us hs;split at e
  .rename_i hk;cases e;show⟨k,_,hk,hs,q⟩
  .cases e
 .cases e
theorem qq:∀{ks:List Str}{us:List U},y∈ks->ks.length=us.length->dI ks us y=cb->False
 |[],us,h,_,_=>by cases h
 |k::ks,[],_,h,_=>by simp at h
 |k::ks,u::us,h,hl,e=>by
  by_cases hk:k=y
  .simp[dI,hk]at e
  .simp only[dI,ø hk]at e;rcases gc.mp h with h|h
   .show hk h.symm
   .show qq h (by simpa using hl) e
def xY{i:Nat}{x:Str}{G:Pos}(hu:X.A.units+60<Lk)(hN:X.N[i]?=bD x)(hv:Jo X.env.scope x)(hd:(x==("__debug__":Str))=cK)(HS:(x==("__classdict__":Str))=cK)
  (ha:PE X a (Hn C ma)) (hb:PE X b (Hn C mb)) (hm:M2 X (.Name x G) "get" e a b F') :
  PE X (.Call (.Attribute (.Name x G) "get" e) [a,b] [] F') (Hn C (c9 i >>= λx=>Ss x.2 >>= λ_=>ma >>= λy=>jX y >>= λy=>mb >>= λz=>lift z >>= λu=>c9 i >>= λx=>M.HA (Av x y u))):=by
 rintro f s σ H Q I ⟨c0,rfl,rfl,p,h⟩;show wM ⋯ (cA hN hv hd HS) ha hb hm f s c0.σ c0.H Q I ?_;rw[ai]at h;have⟨k0,u0,S3,IG,h⟩:=cR h;have⟨v0,J,t0⟩:=p.slot S3 IG;rw[ai]at h;have⟨UY,SX,L,h'⟩:=xX h
 dsimp only at L
 subst L;obtain⟨B,M3,rfl,g0,_⟩:=t0.dict p;show⟨.ref B,J,B,rfl,.inl ⟨M3,.inl g0⟩,?_⟩;show aX p h' λry c vy t w=>?_;rw[ai]at w;have⟨ky,uy⟩:=ry;have⟨y,O,w1⟩:=gy w
 dsimp only at O
 subst O;have ev:vy=.str y:=t.rx.str t.ok;subst ev;rw[<-t.hσ];show aX t.ok w1 λz g vz j T=>?_;rw[ai]at T;obtain⟨S',st',u,sS,D,n1,l,Y,_,_⟩:=iJ t.ok j.ok j.nx j.rx.w T;rw[ai]at Y;have⟨k,u1,Xi,Ju,w5⟩:=cR Y;have⟨r,d,q⟩:=b_.mp w5;have⟨v1,e1,t1⟩:=D.slot Xi Ju;have Io:g.σ[i]?=bD (bD v1):=e1;rw[j.hσ,t.hσ,J]at Io;cases Io;cases u1<;>first|(simp only[Av]at d;cases d;done)|skip
 rename_i ks us;have⟨a1,kvs,ea,g1,g2,g3⟩:=t1.dict D;cases ea;have Qp:g.H B=bD (.dK kvs):=g1;show⟨_,ff.k (k:=nc y) Qp,?_⟩;simp only[Av]at d;have⟨l1,l2⟩:=dN (x:=y) g2 g3;have m:∀v:V,aM C c0 {g with S:=S',st:=st' } r.1 r.2 v->Q v g.H:=λv z=>q {g with S:=S',st:=st' } v (j.hσ.trans t.hσ) rfl D (t.nx.trans n1) z;cases o:dI ks us y with
 |some w =>
  rw[o]at d;cases d;have⟨v,ev,rv⟩:=l1 w o;rw[ev];show m v ?_;show aM.item (k:=if k.root=b6 then .bor i else k) rv
 |none =>
  rw[o]at d;cases d;have Lc:dG kvs (nc y)=cb:=by
   cases hq:dG kvs (nc y) with
   |none=>rfl
   |some v =>
    exfalso
    rw[hq]at l2;have hy:y∈ks:=by simpa using l2.symm
    have n:ks.length=us.length:=by have h1:=ü H8 g2;have h2:=g3.len;simp at h1 h2;lia
    show qq hy n o
  rw[Lc];show m vz l
def xZ:EM X (λo i H Q=>∃p xs j v,o=.ref p/\i=.int j/\H p=bD (.lst xs)/\0<=j/\xs[j.toNat]?=bD v/\Q v H):=by
 rintro a s σ H o i l m Q I c d ⟨p,xs,j,v,rfl,rfl,e,f,b,q⟩;cases c;have⟨t,rfl⟩:=d;have⟨n,r,g,hz⟩:=I.list (.inl (.inl e));have⟨w,h,k⟩:=r.get b;have hl:=r.length;have u:=fL;have x:=(eh.mp b).1;show wpAny_getItem_list g.isList f ⋯ (by simpa using h) ⟨v,H,I,k,q⟩
def AY:N4 X (if sub=b6 then .Sub else .Add) (QS (vH sub)):=by
 cases sub with
 |true=>show CO
 |false=>show wy
def Fy(hN:X.N[i]?=bD x)(hv:Jo X.env.scope x)(hd:(x==("__debug__":Str))=cK)(HS:(x==("__classdict__":Str))=cK)
  (ha:PE X a (xV C ma)) (hb:PE X b (Hn C mb))
  (n:∀f g new,ë b f g new=(do Mr [new,f,g] (SH f g new);VF [new,f,g] [];pure .next)) :
  L2.PS X (.AugAssign (.Subscript (.Name x px) b p) (if sub=b6 then .Sub else .Add) a pos) (Iu C ns (qi i >>= λ_=>mb >>= λy=>oP y >>= λj=>qi i >>= λus=>M.HA (qj us j) >>= λo=>ma >>= λz=>oP z >>= λw=>modS i (d8 (.int j) (.int (vH sub o w))) >>= λ_=>pure .nx)):=by
 show PS.weak (zG (cA hN hv hd HS) hb xZ ha AY set_list n) ?_;rintro D σ H ⟨c0,rfl,rfl,v,h⟩;rw[ai]at h;have⟨k0,SX,IQ,IG,h⟩:=ni h;have⟨v0,r,Kl⟩:=v.sl i _ _ IG;obtain⟨e,rfl,_,_,_,_⟩:=Kl.rt IQ;show⟨.ref e,r,?_⟩;show aX v h λry c vy t w=>?_;rw[ai]at w;have⟨ky,uy⟩:=ry;have⟨j,A,B⟩:=nh w
 dsimp only at A
 subst A;have ev:vy=.int j:=t.rx.int t.ok;subst ev;rw[ai]at B;have⟨k1,S4,Sh,Ju,G⟩:=ni B;rw[ai]at G;have⟨o,ho,w3⟩:=b_.mp G;have⟨v1,I,Xj⟩:=t.ok.sl i _ _ Ju;obtain⟨a1,rfl,_,_,_,O4⟩:=Xj.rt Sh;rw[t.hσ,r]at I;cases I;have⟨vs,J,g2⟩:=O4;unfold qj at ho;split at ho
 case isFalse=>cases ho
 rename_i OB;split at ho
 case h_2=>cases ho
 rename_i o' S5;cases ho;have⟨vo,Xk,Xl⟩:=g2.get S5;have Xm:vo=.int o:=Xl;subst Xm;show⟨e,vs,j,_,rfl,rfl,J,OB,Xk,?_⟩;rw[<-t.hσ];show vN t.ok w3 λz s vz d all2 L=>?_;rw[ai]at L;have⟨kz,uz⟩:=z;have⟨w,O,Q⟩:=nh L
 dsimp only at O
 subst O;have ev:vz=.int w:=d.rx.int d.ok;subst ev;show⟨o,w,rfl,rfl,?_⟩;rw[ai]at Q;have⟨k,u1,u2,hk,T,l,q⟩:=gw Q;rw[au]at q;have⟨v2,u,LX⟩:=d.ok.sl i _ _ T;obtain⟨a2,rfl,_,_,_,O5⟩:=LX.rt hk;have Xn:=u;rw[d.hσ,t.hσ,r]at u;cases u;have Y:s.H e=bD (.lst vs):=all2 _ _ J;cases u1 with
 |lst xs =>
  simp only[d8,hA]at l;have⟨m,Ko,rfl⟩:=l;have⟨YH,l1,l2⟩:=O5;rw[Y]at l1;cases l1;show⟨e,vs,j,m,rfl,rfl,Y,by rw[<-l2.len];show Ko,?_⟩;have⟨J9,n3⟩:=Ok.mod (c:=s) (H':=upd s.H e (.lst (vs.set m (.int (vH sub o w))))) (u':=.lst (xs.set m (.int (vH sub o w)))) d.ok (t.nx.trans d.nx).toNs hk T Xn (λa ne=>ao ne) ⟨_,aA⟩ λmv=>⟨_,aA,(l2.mv mv).set m rfl⟩
  have z:=q _ rfl J9 n3 (Kept.of (d.hσ.trans t.hσ));rw[<-d.hσ];show z
 |Hf ks vs=>simp[d8]at l
 |_=>simp[d8]at l
end
section
def AZ{ks:List Str}(c:kvs.map (·.1)=ks.map nc)(d:kvs.map (·.2)=ns.map V.int):kvs=(ks.zip ns).map λp=>((nc p.1:Key),V.int p.2):=by
 induction kvs generalizing ks ns with
 |nil =>
  cases ks with
  |nil=>rfl
  |cons _ _=>cases c
 |cons kv kvs e =>
  cases ks with
  |nil=>cases c
  |cons k ks =>
   cases ns with
   |nil=>cases d
   |cons n ns =>
    have⟨a,b⟩:=kv;simp only[gs,NO]at c d;have⟨rfl,c⟩:=c;have⟨rfl,d⟩:=d;rw[e c d];rfl
theorem ak.of_map{S:hU->Prop}{f:α->U}{g:α->V}:∀{l:List α},(∀x∈l,Rep C S H (f x) (g x))->ak C S H (l.map f) (l.map g)
 |[],_=>rfl
 |x::l,h=>⟨g x,l.map g,rfl,h x (by simp),ak.of_map λy a=>h y (by simp[a])⟩
def A0(Y:X.calm=b6)(hK:C.K=X.K)(hg:Gl X "sorted")(hm:X.mg "sorted"=cb)(hN:X.N[i]?=bD x)(hv:Jo X.env.scope x)(hd:(x==("__debug__":Str))=cK)(HS:(x==("__classdict__":Str))=cK)(Hw:(b.endLine==l.line)=b6):
  PE X (.Call (.Name "sorted" p) [.Call (.Attribute (.Name x n) "items" b) [] [] l] [] pos) (Hn C (c9 i >>= λx=>M.HA (xx x.2))):=by
 rintro f s σ H Q I ⟨c0,rfl,rfl,m,h⟩;show wh (da I hg hm (show wk "sorted"=bD (.builtin "sorted") by decide +kernel) ?_ (by decide +kernel) (by decide +kernel));rw[ai]at h;have⟨k0,u0,S3,IG,h⟩:=cR h;have⟨v0,e0,t0⟩:=m.slot S3 IG;have⟨r,c,k⟩:=b_.mp h
 dsimp only at c
 unfold xx at c;split at c
 rotate_left
 .cases c
 rename_i ks us;rw[r6]at c;have⟨ns,en,c⟩:=c;split at c
 rotate_left
 .cases c
 rename_i S6;cases c;have⟨JQ,HE,u⟩:=S6;have⟨d,kvs,rfl,B,IQ,D⟩:=t0.dict m;rw[jH en]at D;have S0:=AZ IQ (ak.ints D);subst S0;have ek:((ks.zip ns).map (·.1))=ks:=Zk ⋯;have g:ez (hW X.prog X.w) X.A (HD (.Call (.Attribute (.Name x n) "items" b) [] [] l) X.env) (λv s1=>ez (hW X.prog X.w) X.A (N0 (.builtin "sorted") [v]) (EP X f c0.σ Q) X.xe s1) X.xe s:=by
  show R' rfl Hw (Hl (cA hN hv hd HS f s c0.σ c0.H (λv G=>v=.ref d/\G=c0.H) I ⟨_,e0,rfl,rfl⟩) λv s1 S7=>?_);have⟨x1,G,J,r1,z1,z2⟩:=S7;subst z1 z2;cases(show v=mu d from r1);have⟨h1,h2⟩:=oz (T:="dict") J (x:=.ref d) rfl (.inr (.inr (.inl ⟨rfl,.inl ⟨_,B⟩⟩)));show⟨"dict","dict.items",PySem.F.plainAttrs_dict,PySem.F.slot_dict_items,PySem.F.type_dict_items,h1,h2,Jl rfl (PySem.evalArgs_none (oN Y J B (by rw[ek];show HE) (by rw[R0];lia) λas L hl nd O hL=>?_))⟩;have q:c0.H L=cb:=O L (by simp);have Xo:(as.zip ((ks.zip ns).map Lq)).map (·.1)=as:=Zk (by rw[dt];lia);have Xp:∀p∈as.zip ((ks.zip ns).map Lq),p.1∈as:=λp t=>(P8 t).1;have same:zW c0.H (upd (jV c0.H (as.zip ((ks.zip ns).map Lq))) L (.lst ((jT ((ks.zip ns).map (·.1))).map λi=>V.ref (as.getD i 0)))):=λa o e=>by
   have n1:a≠L:=λy=>by rw[y,q]at e;cases e
   rw[ao n1,k9 λp t y=>?_]
   .show e
   .have:=O p.1 (by simp[Xp p t]);rw[y,e]at this;cases this
  have⟨Hv,n'⟩:=m.grow (S':=c0.S) same (λa z=>.inl z) λa z=>z;have⟨q1,q2,q3,q4,q5⟩:=m.jW q;show k {c0 with H:=upd (jV c0.H (as.zip ((ks.zip ns).map Lq))) L (.lst ((jT ((ks.zip ns).map (·.1))).map λi=>V.ref (as.getD i 0))),S:=c0.S} _ rfl rfl Hv n' ⟨L,rfl,q,q2,q5,_,aA,?_⟩;change ak C c0.S _ ((Ar (ks.zip ns)).map vG) _;unfold Ar;rw[i4];show ak.of_map λj hj=>?_;have Ko:j<(ks.zip ns).length:=by
   have:=vu.mp ((gr _).mem_iff.mp hj);rw[dt]at this;show this
  have Sm:j<as.length:=by lia
  have e1:(ks.zip ns).getD j (uk,0)=(ks.zip ns)[j]:=(List.getElem_eq_getD _).symm;have e2:as.getD j 0=as[j]:=by simp[NF,Sm]
  change Rep C c0.S _ (vG ((ks.zip ns).getD j (uk,0))) (V.ref (as.getD j 0));rw[e1,e2];show⟨as[j],Lq (ks.zip ns)[j],rfl,HR.of ?_,⟨_,_,rfl,rfl,_,_,rfl,rfl,rfl⟩⟩;have HV:as[j]≠L:=λy=>hL (by rw[<-y];simp);show(ao HV).trans (tQ (by rw[Xo];show nd) (vs:=Lq (ks.zip ns)[j]) ?_);show Yi.mpr ⟨j,by rw[R0,dt];lia,?_⟩;rw[List.getElem_zip,Zm]
 have eb:Jx pos (i9 [.Call (.Attribute (.Name x n) "items" b) [] [] l] X.env)=[(cK,HD (.Call (.Attribute (.Name x n) "items" b) [] [] l) X.env)]:=rfl;have Xq:Po pos (LW [] X.env)=[]:=rfl;rw[eb,Xq];show oV g
end
section
def t8(f:X.calm=b6)(g:C.K=X.K)(i:Gl X "set")(j:X.mg "set"=cb)(m:PE X a (Hn C n))(hs:i9 [a] X.env=[(cK,HD a X.env)])(I:Inv X b c0.σ c0.H s)(r:Ok C c0)
  (h:W (n >>= λx=>M.HA (ia x.2) >>= k) c0.st u)
  (y:∀(S:hU) (o:Obj) (s1:hH) (D:List Str) (c:Cf),c.σ=c0.σ->Ok C c->Nx c0 c->s1.heap.get? S=bD o->aR X.prog X.w s1.heap S (aF X.w) D->Inv X ((S,o)::b) c.σ c.H s1->W (k D) c.st u->(∀q∈b,q.1≠S)->Q (.ref S) s1) :
  ez (hW X.prog X.w) X.A (HD (.Call (.Name "set" p) [a] [] pos) X.env) Q X.xe s:=by
 show wh (da I i j (show wk "set"=bD (.type "set") by decide +kernel) ?_ (by decide +kernel) (by decide +kernel));have B:Jx pos (i9 [a] X.env)=[(cK,HD a X.env)]:=by rw[hs];rfl
 have G:Po pos (LW [] X.env)=[]:=rfl;rw[B,G];show t5 (one m I r h λx c vx v s2 t d rv w=>?_);rw[ai]at w;have⟨D,e,w⟩:=b_.mp w;have⟨l,ys,rfl,J,L,rfl⟩:=m9 g t.ok t.rx e;cases rv;show rG f d J L λS o s1 hsz N O T=>y S o s1 _ c t.hσ t.ok t.nx N O T w λq Y z=>by
  have:=eH (d.pin q (mh _ Y)).1;rw[z]at this;show absurd (kr this hsz) (ve _)
def A4(n:X.calm=b6)(D:C.K=X.K)(G:Gl X (if ln=b6 then "len" else "sorted"))(J:X.mg (if ln=b6 then "len" else "sorted")=cb)(L:Gl X "set")(N:X.mg "set"=cb)(ha:PE X a (Hn C ma))(hb:PE X b (Hn C mb))(Xr:i9 [a] X.env=[(cK,HD a X.env)])(Kr:i9 [b] X.env=[(cK,HD b X.env)]):
  PE X (.Call (.Name (if ln=b6 then "len" else "sorted") p) [.BinOp (.Call (.Name "set" t) [a] [] u) .Sub (.Call (.Name "set" p2) [b] [] pos2) d] [] pos)
   (Hn C (ma >>= λx=>M.HA (ia x.2) >>= λd1=>mb >>= λy=>M.HA (ia y.2) >>= λd2=>M.HA (qd ln d1 d2))):=by
 rintro f s σ H Q I ⟨c0,rfl,rfl,ok,h⟩;have g:ez (hW X.prog X.w) X.A (HD (.BinOp (.Call (.Name "set" t) [a] [] u) .Sub (.Call (.Name "set" p2) [b] [] pos2) d) X.env) (λv s1=>ez (hW X.prog X.w) X.A (N0 (.builtin (if ln=b6 then "len" else "sorted")) [v]) (EP X f c0.σ Q) X.xe s1) X.xe s:=by
  show wpAny_BinOp (t8 n D L N ha Xr I ok h λS1 O s1 D1 c1 Xs Ho Xt Lm K4 I1 w1 Nv=>?_);show t8 n D L N hb Kr I1 Ho w1 λS2 o2 s2 D2 j Xu T Xv L7 Ny z w2 Nr=>?_;have⟨r,m,k⟩:=b_.mp w2;have S8:=(z.pin (S1,O) (mh _ (by simp))).1;have S9:aR X.prog X.w s2.heap S1 (aF X.w) D1:=K4.at λo e=>by rw[Lm]at e;cases e;show S8
  have HV:S1≠S2:=Nr (S1,O) (by simp);have nx:Nx c0 j:=Xt.trans Xv;have B:j.σ=c0.σ:=Xu.trans Xs;have I3:Inv X f j.σ j.H s2:=z.d9 λq hq=>z.pin q (mh _ (by simp[hq]));unfold qd at m;split at m
  rotate_left
  .cases m
  rename_i i;show L2.j7 HV S9 Ny i.1 i.2 λh' hk Y=>?_;have I4:Inv X f j.σ j.H {s2 with heap:=h' }:=I3.kept (t':=s2.toks) hk;rw[<-B];cases ln with
  |true =>
   cases m;show rE I4 Y (cv.flat (c:=j) k B T nx rfl)
  |false =>
   cases m;show gO n I4 Y (Ze (nC _ _) i.1) λl hl=>cv.list (c:=j) k B T nx (ak.strs.mpr rfl) l hl
 have eb:Jx pos (i9 [.BinOp (.Call (.Name "set" t) [a] [] u) .Sub (.Call (.Name "set" p2) [b] [] pos2) d] X.env)=[(cK,HD (.BinOp (.Call (.Name "set" t) [a] [] u) .Sub (.Call (.Name "set" p2) [b] [] pos2) d) X.env)]:=rfl;have ek:Po pos (LW [] X.env)=[]:=rfl;cases ln with
 |true =>
  show wh (da I G J (show wk "len"=bD (.builtin "len") by decide +kernel) ?_ (by decide +kernel) (by decide +kernel));rw[eb,ek];show oV g
 |false =>
  show wh (da I G J (show wk "sorted"=bD (.builtin "sorted") by decide +kernel) ?_ (by decide +kernel) (by decide +kernel));rw[eb,ek];show oV g
end
section
def Ok.Fz(b:Ok C c)(m:c.st[i]?=bD (bD (.own,u)))(p:c.σ[i]?=bD (bD (.ref r))):Ok C {c with H:=upd c.H r o',st:=c.st.set i cb}/\Ns c {c with H:=upd c.H r o',st:=c.st.set i cb}/\¬({c with H:=upd c.H r o',st:=c.st.set i cb}:Cf).R r:=by
 have Iv:i<c.st.length:=(eh.mp m).1;have x:c.R1 r:=⟨i,.own,u,rfl,m,p⟩
 have⟨s,z2,z3,o,z4,z5⟩:=b.root (.inl x);have J:C.H₀ r=cb:=by
  obtain⟨v,f,h,t,_,_,q,_⟩:=b.sl i _ _ m;rw[p]at f;cases f;cases t;show q
 have l:∀(j:Nat) k w,(c.st.set i cb)[j]?=bD (bD (k,w))->j≠i/\c.st[j]?=bD (bD (k,w)):=λj k w e=>by
  by_cases A:j=i
  .subst A;rw[fx Iv]at e;cases e
  .rw[i8 (tj A)]at e;show⟨A,e⟩
 have b1:∀a,({c with H:=upd c.H r o',st:=c.st.set i cb}:Cf).R1 a->c.R1 a/\a≠r:=λa Hx=>by
  have⟨j,k,w,hk,f,g⟩:=Hx;have⟨B,L⟩:=l j k w f;show⟨⟨j,k,w,hk,L,g⟩,λz=>?_⟩;subst z;show B (b.inj j i k .own w u a hk rfl L m g p)
 have N:∀j a,({c with H:=upd c.H r o',st:=c.st.set i cb}:Cf).RD j a->c.RD j a:=λj a ⟨w,h,f,g,D⟩=>⟨w,h,(l j _ w f).2,g,D⟩
 have O:∀j a,c.RD j a->a≠r:=λj a z e=>by subst e;show b.dd.d1 j a z x
 have G:∀S:hU->Prop,¬S r->Mv S c.H S (upd c.H r o'):=λS hS=>⟨λa z=>z,λa d e tp=>by
  have:a≠r:=λz=>by subst z;rw[z4]at e;cases e;show z5 tp
  rw[ao this];show e,λa d z e=>by
  have:a≠r:=λy=>by subst y;show hS z
  rw[ao this];show e⟩
 have hP:¬PS C c.S r:=λz=>z.elim z2 s;show⟨⟨λa d e Ir=>?_,λa z=>?_,b.par,λa z=>?_,by simp[b.len],λj k w e=>?_,λj1 j2 k1 k2 w1 w2 h h1 h2 f g D e4=>b.inj j1 j2 k1 k2 w1 w2 h h1 h2 (l _ _ _ f).2 (l _ _ _ g).2 D e4,?_⟩,⟨λa d e hR=>?_,λa d e=>?_,λa z=>?_,λa z=>z,λa z=>.inl z⟩,λz=>?_⟩
 .have:a≠r:=λy=>by subst y;rw[J]at e;cases e
  change upd c.H r o' a=_;rw[ao this];show b.same a d e Ir
 .have⟨n,d,I⟩:=b.JD a z;have:a≠r:=λy=>by subst y;show s z
  show⟨n,d,by change upd c.H r o' a=_;rw[ao this];show I⟩
 .obtain⟨⟨d,n⟩,Xw,I⟩:=b.io a z;have:a≠r:=λy=>by subst y;rw[J]at n;cases n
  show⟨⟨d,n⟩,Xw,by change upd c.H r o' a=_;rw[ao this];show I⟩
 .have⟨B,Q⟩:=l j k w e;have⟨v,f,g⟩:=b.sl j k w Q;show⟨v,f,g.mv (G _ s) (G _ hP) λhk h t=>?_⟩;obtain⟨OW,T,y1,_⟩:=g.rt hk;rw[t]at T;cases T;have:h≠r:=λy=>by subst y;show B (b.inj j i k .own w u h hk rfl Q m (by rw[f,t]) p)
  show⟨y1,λd q=>by change upd c.H r o' h=_;rw[ao this];show q⟩
 .show b.dd.of rfl (λj w e=>⟨(l j _ w e).2,rfl⟩) (λa z=>.inl (b1 a z).1) (G _ s) λj a z=>⟨(b.root (.inr ⟨j,z⟩)).1,λd q=>by change upd c.H r o' a=_;rw[ao (O j a z)];show q⟩
 .have:a≠r:=λy=>by subst y;show hR (.inl x)
  change upd c.H r o' a=_;rw[ao this];show e
 .by_cases Y:a=r
  .subst Y;show⟨o',aA⟩
  .show⟨d,by change upd c.H r o' a=_;rw[ao Y];show e⟩
 .rcases z with z|⟨j,z⟩
  .show .inl (.inl (b1 a z).1)
  .show .inl (.inr ⟨j,N j a z⟩)
 .rcases z with z|⟨j,z⟩
  .show(b1 r z).2 rfl
  .show O j r (N j r z) rfl
def x6(u:c.H r=bD (.IV o (.dK kvs)))(w:¬c.R r)(y:Ok C c)(hk:kvs.map (·.1)=ks.map nc)(z:ak C c.S c.H us (kvs.map (·.2))):Walk C c [] (oO (ks,us)) (Sf r o kvs):=by
 intro b k n N hs;have l:=n.keep r _ u w;have m:=z.mv (y.mv n);have O:kvs.length=ks.length:=by rw[<-dt (f:=(·.1)),hk,dt]
 have Q:us.length=kvs.length:=by rw[m.len,dt]
 have T:(oO (ks,us)).length=kvs.length:=by
  unfold oO;rw[dt,R0];change min ks.length us.length=_;lia
 show⟨λi q d=>?_,λi a=>⟨l,⋯⟩⟩;unfold oO at d;rw[ko,hA]at d;have⟨p,A,rfl⟩:=d;have⟨s,B⟩:=WO.mp A;have⟨v,e,g⟩:=m.get B;have a:i<kvs.length:=by
  have:i<ks.length:=(eh.mp s).1;lia
 have D:kvs[i]?=bD (nc p.1,v):=by
  rw[ko,ri a]at e;have h:(kvs.map (·.1))[i]?=(ks.map nc)[i]?:=by rw[hk]
  rw[ko,ko,ri a,s]at h;rw[ri a];simp only[RH,P4]at h e;rw[<-h,<-e]
 show⟨.inl rfl,⟨l,a⟩,λx H' j=>?_⟩;have⟨q,G,rfl,j⟩:=j;have I:=j _ _ D;subst I;have⟨J,t⟩:=k.lay (o:=.tup [kV (nc p.1),v]) G;show⟨{b with H:=upd b.H q (.tup [kV (nc p.1),v])},rfl,rfl,rfl,J,t,?_⟩;have L:ak C b.S b.H [.str p.1,p.2] [kV (nc p.1),v]:=⟨_,_,rfl,rfl,_,_,rfl,g,rfl⟩
 show⟨q,_,rfl,HR.of aA,L.mv (k.mv t)⟩
def DX(A:X.N[i]?=bD x)(B:Jo X.env.scope x)(G:(x==("__debug__":Str))=cK)(J:(x==("__classdict__":Str))=cK)(L:(g.endLine==O.line)=b6)
  (S:dP X N own scope) (T:X.calm=b6) (hl:own.length=2) (Y:∀D s H ex,PG (Iy X N scope D s H ex) (.Tuple es kx ps) (tG C b6 (ix own.length))) (he:∀D s H ex,PE (Iy X N scope D s H ex) elt (Hn C me)) :
  L2.PS X (.Return (bD (.ListComp elt [⟨.Tuple es kx ps,.Call (.Attribute (.Name x px) "items" g) [] [] O,[],0⟩] scope pos)) Xy) (Iu C ns (qh i >>= λd=>bS 2 b6 (pure b6) me [] (oO d) [] >>= λus=>retS (.own,.lst us))):=by
 show PS.weak (wq (Dj (tD S T (xp A B G J L) Y (λD s H ex=>show Ll _ [] (IL C (pure b6)) from λj s σ H Q I ⟨c0,f,e2,k,w⟩=>oB j s σ H Q I (by subst f e2;rw[au]at w;show w c0 rfl rfl k (Nx.refl c0))) he))) ?_;rintro D σ H ⟨c0,rfl,rfl,k,h⟩;rw[ai]at h;have⟨d,st',e,h⟩:=h;unfold qh at e;split at e
 rotate_left
 .cases e
 rename_i ks us l;cases e;have⟨v,f,r,er⟩:=k.sl i _ _ l;subst er;have⟨kvs,t,g2,g3,g4,g5,g6⟩:=k.dd.kd i _ r l f;show⟨r,kvs,t,λo=>?_⟩;have⟨Ho,n1⟩:=Ok.Fx k (Nx.refl c0) l f;have Iv:i<c0.st.length:=(eh.mp l).1;have⟨HI,n2,nR⟩:=Ok.Fz (o':=.IV o (.dK kvs)) Ho (i:=i) (u:=.Hf ks us) (r:=r) (by change(c0.st.set i _)[i]?=_;rw[fx Iv]) f;let b:Cf:={S:=λa=>c0.S a\/a∈c0.kid i,H:=upd c0.H r (.IV o (.dK kvs)),σ:=c0.σ,st:=c0.st.set i cb,kid:=c0.kid}
 have SG:(c0.st.set i (bD (Kd.own,U.Hf ks us))).set i cb=c0.st.set i cb:=by rw[List.set_set]
 have m:({ ({c0 with S:=λa=>c0.S a\/a∈c0.kid i,st:=c0.st.set i (bD (.own,.Hf ks us))}:Cf) with H:=upd c0.H r (.IV o (.dK kvs)),st:=(c0.st.set i (bD (Kd.own,U.Hf ks us))).set i cb}:Cf)=b:=by rw[SG]
 have p:Ok C b:=m▸HI;have Xz:Ns c0 b:=n1.toNs.trans (m▸n2);have XA:¬b.R r:=m▸nR;have IZ:ak C b.S b.H us (kvs.map (·.2)):=by
  rw[g3];have:=(dr.rep (S':=b.S) (λa=>.inl) (λa ha=>.inr ha) g6).mv (show Mv b.S c0.H b.S b.H from⟨λa z=>z,λa ob q tp=>?_,λa ob z q=>?_⟩)
  .show this
  .have:a≠r:=λy=>by subst y;rw[t]at q;cases q;show tp
   change upd c0.H r _ a=_;rw[ao this];show q
  .have:a≠r:=λy=>by
    subst y;rcases z with z|z
    .show(g5 a (by simp)).1 z
    .show(mA.mp g4).1 z
   change upd c0.H r _ a=_;rw[ao this];show q
 show⟨r,o,kvs,f,aA,?_⟩;rw[hl];show m_ (c0:=b) (c1:=b) (rs:=[]) (xs:=oO (ks,us)) rfl p (Nx.refl b) (x6 aA XA p g2 IZ) ?_;rw[ai]at h;show h.mono λvs st2 w=>?_;rw[show retS (.own,.lst vs)=pure (.rt .own (.lst vs)) from rfl,au]at w;rw[au];intro c v hσ Hq HP n rt;have⟨r0,e,h1,h2,h3,h4⟩:=rt;show w c Hq HP (Xz.trans n.toNs) (Kept.of hσ) v ⟨r0,e,(p.jW h1).1,h2,h3,h4⟩
end
section
variable{X:Cx}{C:Ct}{a:nz}{ma:M (Kd×U)}{apos F':Pos}{i:Nat}{x:Str}{px:Pos}
def Ok.B5(b:Ok C c)(hk:k.root=b6)(hs:c.st[i]?=bD (bD (k,.lst us))):∃a vs,c.σ[i]?=bD (bD (.ref a))/\c.H a=bD (.lst vs)/\ak C c.S c.H us vs:=by
 have⟨v,d,e⟩:=b.sl i k _ hs;obtain⟨r,rfl,_,_,_,vs,f,g⟩:=e.rt hk;show⟨r,vs,d,f,g⟩
theorem ak.eraseIdx{S:hU->Prop}:∀{us:List U}{vs:List V} (n:Nat),ak C S H us vs->ak C S H (us.eraseIdx n) (vs.eraseIdx n)
 |[],_,n,h=>by cases h;simp[ak]
 |u::us,vs,0,h=>by
  have⟨v,r,rfl,c,b⟩:=h;show b
 |u::us,vs,n+1,h=>by
  have⟨v,r,rfl,c,b⟩:=h;show⟨v,_,rfl,c,b.eraseIdx n⟩
def Ok.out(g:Ok C c)(n:Nx c0 c)(q:c.σ=c0.σ)(hk:k.root=b6)(hs:c.st[i]?=bD (bD (k,.lst us)))(h:c.σ[i]?=bD (bD (.ref r)))(s:ak C c.S c.H f b)(y:Rep C c.S c.H u v)(w:cv C c0 Q (.loc,u) (c.st.set i (bD (k,.lst f)))):Q v (upd c.H r (.lst b)):=by
 have A:Mv c.S c.H c.S (upd c.H r (.lst b)):=by
  have⟨v',d,l⟩:=g.sl i k _ hs;rw[h]at d;cases d;obtain⟨p,B,D,_,_,G⟩:=l.rt hk;cases B;have⟨o,ho,I⟩:=G.some;show⟨λ_ z=>z,λa o' e t=>by rw[ao (λz=>by subst z;rw[ho]at e;cases e;show I t)];show e,λa o' z e=>by rw[ao (λJ=>by subst J;show D z)];show e⟩
 have⟨L,N⟩:=g.mod (H':=upd c.H r (.lst b)) (u':=.lst f) n.toNs hk hs h (λa O=>ao O) ⟨_,aA⟩ λT=>⟨b,aA,s.mv T⟩
 have Y:∀a,({c with H:=upd c.H r (.lst b),st:=c.st.set i (bD (k,.lst f))}:Cf).NI a->c0.NI a/\∀o,c0.H a=bD o->upd c.H r (.lst b) a=bD o:=λa Hx=>by
  have⟨j,u',p,d,l,e3⟩:=Hx;have hj:j≠i:=λz=>by
   subst z;rw[fx (eh.mp hs).1]at d;cases d;cases hk
  have Io:c.st[j]?=bD (bD (.G',u')):=by rw[<-d];show(i8 (tj hj)).symm
  have m:c.RD j a:=⟨u',p,Io,l,e3⟩
  have Si:a≠r:=λz=>g.dd.d1 j a m (z▸⟨i,k,_,hk,hs,h⟩);show⟨(n.dk a ⟨j,m⟩).1,λo e=>by rw[ao Si];show(n.dk a ⟨j,m⟩).2 o e⟩
 show w {c with H:=upd c.H r (.lst b),st:=c.st.set i (bD (k,.lst f))} v q rfl L ⟨N,Y⟩ (y.mv A)
def A5(g:X.N[i]?=bD x)(j:Jo X.env.scope x)(l:(x==("__debug__":Str))=cK)(m:(x==("__classdict__":Str))=cK)(n:(apos.endLine==F'.line)=b6)(o:C.K=X.K):
  PE X (.Call (.Attribute (.Name x px) "pop" apos) [] [] F') (Hn C (xy i)):=by
 show PE.weak (CZ PySem.F.plainAttrs_list PySem.F.slot_list_pop PySem.F.type_list_pop C0 (cA g j l m) rfl n) ?_;rintro σ H Q ⟨c0,rfl,rfl,c,h⟩;have⟨r,st',e,w⟩:=h;unfold xy at e;split at e
 .rename_i k us hs;split at e
  .rename_i hk;split at e
   .rename_i u q;cases e;have⟨p,vs,d,f,b⟩:=c.B5 hk hs;have⟨v,s,t⟩:=b.get q;have hl:=b.len;show⟨_,d,.inl ⟨rfl,vs,o▸HM.of f⟩,p,vs,v,rfl,rfl,f,by rw[<-hl];show s,?_⟩;show c.out (Nx.refl c0) rfl hk hs d ?_ t w;rw[Yb,Yb,hl];show b.take _
   .cases e
  .cases e
 .cases e
def FA(b:0<=j)(h:j.toNat<n):WE j n=bD j.toNat:=by
 simp only[WE];rw[ø (show ¬j<0 by lia),ö (by rw[cL,õ,õ];lia)]
def vO{st:aw}(h:W (Au i u) st Q):∃(j:Int) (k:Kd) (us:List U) (y:U),u=.int j/\k.root=b6/\0<=j/\j<1000000/\st[i]?=bD (bD (k,.lst us))/\us[j.toNat]?=bD y/\Q (.loc,y) (st.set i (bD (k,.lst (us.eraseIdx j.toNat)))):=by
 have⟨r,st',e,w⟩:=h;cases u with
 |int j =>
  unfold Au at e
  dsimp only at e
  split at e
  .rename_i k us hs;split at e
   .rename_i hk;split at e
    .rename_i y b;cases e;show⟨j,k,us,y,rfl,hk.1,hk.2.1,hk.2.2,hs,b,w⟩
    .cases e
   .cases e
  .cases e
 |_=>cases e
def x8(o:C.K=X.K)(q:X.N[i]?=bD x)(s:Jo X.env.scope x)(u:(x==("__debug__":Str))=cK)(A:(x==("__classdict__":Str))=cK)(B:PE X a (Hn C ma))
  (D:((Jx F' (i9 [a] X.env)).all (λx=>!x.1)&&(Po F' (LW [] X.env)).all (λx=>x.1.isSome)
   && df ([a].length+([]:List Ni).length+(if ([]:List Ni).isEmpty then 0 else 1)<30))=b6)
  (G:(apos.endLine==F'.line)=b6) (e:i9 [a] X.env=[(cK,HD a X.env)]) :
  PE X (.Call (.Attribute (.Name x px) "pop" apos) [a] [] F') (Hn C (c9 i >>= λx=>LN x.2 >>= λ_=>ma >>= λy=>Au i y.2)):=by
 show PE.weak (tm PySem.F.plainAttrs_list PySem.F.slot_list_pop PySem.F.type_list_pop wH (cA q s u A) (fc B jd e) rfl D G e rfl) ?_;rintro σ H Q ⟨c0,rfl,rfl,b,h⟩;rw[ai]at h;have⟨k0,I,J,L,h⟩:=cR h;have⟨O,f,T⟩:=b.slot J L;show⟨O,f,?_⟩;cases I with
 |lst Y =>
  rw[ai,show LN (U.lst Y)=pure () from rfl,au]at h;obtain⟨a0,NP,d,Nq,_⟩:=T.list b;show⟨by rw[d];show .inl ⟨rfl,NP,o▸Nq⟩,?_⟩;show aX b h λr c v t w=>?_;have⟨j,k,us,y,ej,hk,j0,j1,hs,hu,w⟩:=vO w;have⟨p,vs,g,h2,l⟩:=t.ok.B5 hk hs;have hp:p=a0:=by
   have:=g;rw[t.hσ,f,d]at this;cases this;rfl
  subst hp;have⟨z,m,g2⟩:=l.get hu;have K8:j.toNat<vs.length:=(eh.mp m).1;have n:=t.rx;rw[ej]at n;have ev:=n.int t.ok;show⟨p,vs,j,j.toNat,z,d,by rw[ev],h2,Þ (by decide) j0,Int.lt_trans j1 (by decide),FA j0 K8,m,t.ok.out t.nx t.hσ hk hs g (l.eraseIdx _) g2 w⟩
 |_=>rw[ai]at h;show(bt.mp h).elim
end
@[reducible]def Le(P:Hr)(w:IT)(K:PySem.W.Frag)(H:Hp)(a IO:hU->Prop):Ct:=⟨P,w,K,H,a,IO⟩
structure B6(C:Ct)(H H':Hp)(S':hU->Prop)(is:List Nat)(vs:List V)(ws:List U)(k:Kd)(u:U)(v:V):Prop where
 same:∀a o,H a=bD o->¬C.IO a->H' a=bD o
 new:∀a,S' a->H a=cb/\∃o,H' a=bD o
 own:k=.own->∃r,v=.ref r/\H r=cb/\¬S' r/\cW C S' H' r u
 loc:k=.loc->Rep C S' H' u v
 len:ws.length=is.length
 JE:∀(n i:Nat) (r:hU) (w:U),is[n]?=bD i->vs[i]?=bD (.ref r)->ws[n]?=bD w->cW C S' H' r w
structure DY(C:Ct)(H:Hp)(is:List Nat)(us:List U)(vs:List V):Prop where
 len:us.length=vs.length
 par:∀a,C.J4 a->JT H a/\¬C.IO a
 U4:∀a,C.IO a->JT H a
 io:∀(i:Nat) (u:U),i∈is->us[i]?=bD u->∃r,vs[i]?=bD (.ref r)/\C.IO r/\cW C (λ_=>False) H r u
 any:∀(i:Nat) (u:U),i∉is->us[i]?=bD u->∃v,vs[i]?=bD v/\Rep C C.J4 H u v
 inj:∀(i j:Nat) (r:hU),i∈is->j∈is->vs[i]?=bD (.ref r)->vs[j]?=bD (.ref r)->i=j
 JE:∀a,C.IO a->∃i∈is,vs[i]?=bD (.ref a)
abbrev Qr(P:Hr)(w:IT)(K:PySem.W.Frag)(F:List U->Option (Ex (Kd×U)))(b:Nat)(is:List Nat):Sp:=λvs H Q _=>vs.length=b/\∃us k u ws a IO,F us=bD (.ok (k,.tup (u::ws)))/\(k=.own\/k=.loc)/\DY (Le P w K H a IO) H is us vs /\
 ∀v H' S',B6 (Le P w K H a IO) H H' S' is vs ws k u v->Q v H'
theorem map_inj:∀{l:List α},(l.map f).Nodup->∀x∈l,∀y∈l,f x=f y->x=y
 |[],_,_,h,_,_,_=>by cases h
 |a::l,h,x,g,y,c,e=>by
  rw[gs,mA]at h;rcases gc.mp g with d|h1
  .rcases gc.mp c with b|h2
   .rw[d,b]
   .show absurd (ke.mpr ⟨y,h2,by rw[<-e,d]⟩) h.1
  .rcases gc.mp c with b|h2
   .show absurd (ke.mpr ⟨x,h1,by rw[e,b]⟩) h.1
   .show map_inj h.2 x h1 y h2 e
section
def vP(h:ib rs p=bD j):∃us,rs[p]?=bD (.bor j,.lst us)/\cG us=b6:=by
 unfold ib at h;split at h
 .split at h
  .cases h;show⟨_,by assumption,by assumption⟩
  .cases h
 .cases h
def JJ.U5(t:JJ C c0 c rs vs){i:Nat}(h:rs[i]?=bD r):∃v,vs[i]?=bD v/\aM C c0 c r.1 r.2 v:=by
 have d:∀(l:List (Kd×U)) (w:List V),cP C c0 c l w->bc l c.st->∀(i:Nat) (r:Kd×U),l[i]?=bD r->∃v,w[i]?=bD v/\aM C c0 c r.1 r.2 v:=by
  intro l;induction l with
  |nil=>intro w _ _ i r e;simp at e
  |cons x l f =>
   intro w h hs i r e;obtain⟨v,t',rfl,g,j,_⟩:=h;rw[eR]at hs;cases i with
   |zero=>simp at e;subst e;show⟨v,rfl,g.t hs.1⟩
   |succ i=>have⟨k,a,b⟩:=f t' j hs.2 i r (by simpa using e);show⟨k,by simpa using a,b⟩
 show d rs vs t.rep t.LP i r h
def JJ.len(t:JJ C c0 c rs vs):rs.length=vs.length:=by
 have:=t.read.len;rw[dt]at this;show this
theorem t9(q:C'.Eqv C){vs:List V}(hs:∀a,S' a->S1 a){IO:hU->Prop}(Q:∀a,S' a->¬IO a)(A:∀a o,IO a->H' a=bD o->¬Tp o):
  ∀(ps:List Nat) (ws:List U) (c:Cf) (st':aw),Ok C c->Ns c1 c->c.S=S1->gP rs ps ws c.st=bD st'->(ps.map (ib rs)).Nodup->(∀p∈ps,∀a,vs[p]?=bD (.ref a)->IO a) ->
  (∀p∈ps,∀j,ib rs p=bD j->∃k u r,k.root=b6/\c.st[j]?=bD (bD (k,u))/\c.σ[j]?=bD (bD (.ref r))/\vs[p]?=bD (.ref r)) ->
  (∀(n p:Nat) (r:hU) (w:U),ps[n]?=bD p->vs[p]?=bD (.ref r)->ws[n]?=bD w->cW C' S' H' r w)->(∀a,(∀p∈ps,vs[p]?≠bD (.ref a))->c.H a=H' a)->(∀a,¬IO a->c.H a=H' a) ->
  ∃g:Cf,Ok C g/\Ns c1 g/\g.σ=c.σ/\g.S=S1/\g.st=st'/\g.H=H'/\g.kid=c.kid/\∀(j:Nat) (k:Kd) (u:U),g.st[j]?=bD (bD (k,u))->∃B,c.st[j]?=bD (bD (k,B))
 |[],ws,c,st',D,n,y,e,_,_,_,_,G,_=>by
  cases ws with
  |nil=>cases e;show⟨c,D,n,rfl,y,rfl,funext λa=>G a λp hp=>(by cases hp),rfl,λj k u e=>⟨u,e⟩⟩
  |cons _ _=>cases e
 |p::ps,ws,c,st',D,n,y,e,I,T,Y,rt,G,J=>by
  cases ws with
  |nil=>cases e
  |cons w ws =>
   simp only[gP]at e;split at e
   .rename_i j hj;split at e
    .rename_i us k0 YI Hq;have⟨k,u,r,hk,s,e2,L⟩:=Y p (by simp) j hj;rw[Hq]at s;cases s;have s:=Hq;have hr:=rt 0 p r _ rfl L rfl;have⟨xs,g1,g2⟩:=hr;have N:IO r:=T p (by simp) r L;rw[gs,mA]at I;have⟨Hv,n'⟩:=D.mod (H':=upd c.H r (.lst xs)) (u':=.lst us) n hk s e2 (λa v=>ao v) ⟨_,aA⟩ (λ_=>⟨xs,aA,by
      show(g2.cg q).mv ⟨λa z=>by rw[y];show hs a z,λa o h tp=>?_,λa o z h=>?_⟩
      .by_cases l:a=r
       .subst l;show absurd tp (A a o N h)
       .rw[ao l];by_cases x:IO a
        .show absurd tp (A a o x h)
        .rw[J a x];show h
      .have x:=Q a z;have l:a≠r:=λe=>x (e▸N);rw[ao l,J a x];show h⟩)
     have Iv:j<c.st.length:=(eh.mp s).1;have A1:∀f∈ps,∀t,ib rs f=bD t->∃k u r,Kd.root k=b6/\(c.st.set j (bD (k0,.lst us)))[t]?=bD (bD (k,u))/\c.σ[t]?=bD (bD (.ref r))/\vs[f]?=bD (.ref r):=λf hp t Ko=>by
      have⟨k',u',O,a1,a2,a3,a4⟩:=Y f (by simp[hp]) t Ko;have v:j≠t:=λz=>I.1 (ke.mpr ⟨f,hp,by rw[Ko,hj,z]⟩);show⟨k',u',O,a1,by rw[i8 v];show a2,a3,a4⟩
     have A2:∀a,(∀f∈ps,vs[f]?≠bD (.ref a))->upd c.H r (.lst xs) a=H' a:=λa l=>by
      by_cases h:a=r
      .subst h;rw[aA,g1]
      .rw[ao h];show G a λf hp z=>?_;rcases gc.mp hp with rfl|hp
       .rw[L]at z;cases z;show h rfl
       .show l f hp z
     have A3:∀a,¬IO a->upd c.H r (.lst xs) a=H' a:=λa l=>by
      have v:a≠r:=λz=>l (by rw[z];show N);rw[ao v];show J a l
     have⟨g,f1,f2,f3,f4,f5,f6,f7,f8⟩:=t9 q hs Q A ps ws {c with H:=upd c.H r (.lst xs),st:=c.st.set j (bD (k0,.lst us))} st' Hv n' y e I.2 (λf hp=>T f (by simp[hp])) A1 (λm f O w' a b d=>rt (m+1) f O w' (by simpa using a) b (by simpa using d)) A2 A3;show⟨g,f1,f2,f3,f4,f5,f6,f7,λi k' u' z=>?_⟩;have⟨B,z⟩:=f8 i k' u' z;by_cases hi:i=j
     .subst hi;have z:(c.st.set i (bD (k0,.lst us)))[i]?=_:=z;rw[fx Iv]at z;cases z;show⟨_,s⟩
     .have z:(c.st.set j (bD (k0,.lst us)))[i]?=_:=z;rw[i8 (tj hi)]at z;show⟨B,z⟩
    .cases e
   .cases e
end
section
def A6(st:aw)(r:Kd×U):(d7 st r).1=r.1:=by
 unfold d7;split<;>rfl
theorem cP.U6{st:aw}:∀{rs:List (Kd×U)}{vs:List V},cP C c0 c rs vs->cP C c0 c (rs.map (d7 st)) vs
 |[],_,h=>h
 |r::rs,vs,h=>by
  have⟨v,t,rfl,d,e,f⟩:=h;show⟨v,t,rfl,?_,cP.U6 e,λhk i m g a j b=>?_⟩
  .have⟨k,u⟩:=r;cases k<;>show d
  .rw[ko,hA]at a;have⟨l,a,rfl⟩:=a;rw[A6]at hk b;show f hk i l g a j b
def A7(h:PA X es (IU C ms)):PA X es (IU C (ms >>= As)):=by
 rintro pos a s σ H Q I ⟨c0,rfl,rfl,b,w⟩;show h pos a s c0.σ c0.H Q I ⟨c0,rfl,rfl,b,?_⟩;rw[ai]at w;show w.mono λrs st d c vs f g i n r=>?_;have⟨j,st',e,q⟩:=d;cases e;show q c vs f g i n r.U6
def x9(h:So r=bD (k,u,ws)):r=(k,.tup (u::ws))/\(k=.own\/k=.loc):=by
 unfold So at h;split at h
 .cases h;show⟨rfl,.inl rfl⟩
 .cases h;show⟨rfl,.inr rfl⟩
 .cases h
def x_(hP:C.P=X.prog)(hw:C.w=X.w)(hK:C.K=X.K)(hF:Γ f=F)(hk:∀us r,F us=bD (.ok r)->us.length=np)
  (G:kJ X.prog X.w X.K X.mg X.base KD k fa fd ps (Qr X.prog X.w X.K F np is)) (hr:gE k X.A) (hg:Gl X f) (hm:X.mg f=bD (.ref fa)) (OP:PySem.W.keepIn X.K (.ref fa)=b6) (B:Binds X.K fd ps [])
  (MR:(f==("__debug__":Str))=cK) (ha:PA X (e::es) (IU C ms)) (he:i9 (e::es) X.env=(cK,HD e X.env)::i9 es X.env) (Ic:(Jx pos (i9 es X.env)).any (·.1)=cK) :
  PE X (.Call (.Name f p) (e::es) [] pos) (Hn C (ms >>= λrs=>aJ rs >>= λ_=>qg Γ f rs is)):=by
 rintro ag s σ H Q I ⟨c0,rfl,rfl,ok,h⟩;show wh (og I hg hm ?_ MR);show PySem.W.callWith_K (h₀:=X.base) I.ok.mod.Pw OP (Hl (args ha I ok h pos) λus s1 ⟨rs,c,vs,t,I1,rv,w⟩=>⟨I1.Mp,?_⟩) he Ic;have⟨r,st',D,q⟩:=w;unfold qg at D;rw[hF]at D;split at D
 .rename_i r0 e2;split at D
  .rename_i kd u ws eu;split at D
   .rename_i Ir;split at D
    .rename_i st2 Tc;cases D;have⟨rfl,k1⟩:=x9 eu;have k2:=hk _ _ e2;unfold qf at Ir;simp only[cL,mx,õ,Lp,vu]at Ir;obtain⟨⟨h1,h2⟩,h3⟩:=Ir;have T:∀p∈is,∃j xs k r,ib rs p=bD j/\rs[p]?=bD (.bor j,.lst xs)/\cG xs=b6/\Kd.root k=b6/\c.st[j]?=bD (bD (k,.lst xs))/\c.σ[j]?=bD (bD (.ref r))/\vs[p]?=bD (.ref r)/\¬c.S r/\¬C.J4 r/\cW C c.S c.H r (.lst xs):=λp L=>by
      have⟨j,Y⟩:=Q5.mp (h1 p L);have⟨xs,a1,a2⟩:=vP Y;have⟨v,b1,x⟩:=t.U5 a1;obtain⟨r,rfl,d1,d2,_,N⟩:=t.ok.rootOf x.1 x.2;have⟨k,m,l⟩:=x.1;show⟨j,xs,k,r,Y,a1,a2,m,l,x.2,b1,d1,d2,N⟩
     let IO:hU->Prop:=λa=>∃p∈is,vs[p]?=bD (.ref a);have O7:∀a,IO a->c.R a/\¬c.S a/\¬C.J4 a/\JT c.H a:=λa Hx=>by
      have⟨p,L,e⟩:=Hx;obtain⟨j,xs,k,r,_,_,_,m,l,y,J,g5,g6,g7⟩:=T p L;rw[e]at J;cases J;obtain⟨o,ho,_⟩:=g7.some;show⟨.inl ⟨j,k,_,m,l,y⟩,g5,g6,o,ho⟩
     let Pr:hU->Prop:=λa=>JT c.H a/\¬IO a;have ab:C.Eqv (Le X.prog X.w X.K c.H Pr IO):=⟨hP,hw,hK⟩
     have K9:(Le X.prog X.w X.K c.H Pr IO).Eqv C:=⟨hP.symm,hw.symm,hK.symm⟩
     have sP:∀a,c.S a->Pr a:=λa z=>⟨t.ok.xu a z,λz'=>(O7 a z').2.1 z⟩
     have gi:∀{i:Nat} {u:U},(rs.map (·.2))[i]?=bD u->∃k,rs[i]?=bD (k,u):=λ{i u} e=>by
      rw[ko,hA]at e;obtain⟨⟨k,u'⟩,e,rfl⟩:=e;show⟨k,e⟩
     have ac:DY (Le X.prog X.w X.K c.H Pr IO) c.H is (rs.map (·.2)) vs:=by
      show⟨by rw[dt];show t.len,λa z=>z,λa z=>(O7 a z).2.2.2,λi u O e=>?_,λi u O e=>?_,λi j r O Y e3 e4=>?_,λa z=>z⟩
      .obtain⟨j,xs,k,r,_,g0,gm,m,l,y,J,g5,g6,zs,g7,g8⟩:=T i O;have⟨k',e⟩:=gi e;rw[g0]at e;cases e;show⟨r,J,⟨i,O,J⟩,zs,g7,(ak.HG gm g8).cg ab⟩
      .have⟨k',e⟩:=gi e;have⟨v,b1,x⟩:=t.U5 e;show⟨v,b1,?_⟩;have Iv:i<rs.length:=(eh.mp e).1;have NU:=(h3 i Iv).resolve_left O;rw[Ww,e]at NU;show Rep.cg ab (u:=u) ?_;cases k' with
       |own =>
        obtain⟨r,rfl,_,d1,d2,N⟩:=x;obtain⟨o,ho,_⟩:=N.some;show N.rep sP ⟨⟨o,ho⟩,λz=>d2 (O7 r z).1⟩
       |loc=>show Rep.mv (.up sP) x
       |any=>show Rep.mv (.up λa z=>z.elim (λz=>⟨t.ok.E8 a (.inl z),λz'=>(O7 a z').2.2.1 z⟩) (sP a)) x
       |bor j =>
        obtain⟨r,rfl,d1,d2,_,N⟩:=t.ok.rootOf x.1 x.2;obtain⟨o,ho,_⟩:=N.some;show N.rep sP ⟨⟨o,ho⟩,λ⟨p',Qs,e'⟩=>?_⟩;obtain⟨j',xs,k2,r2,g,_,_,m,l,y,J,_⟩:=T p' Qs;rw[e']at J;cases J;have⟨k3,z1,z2⟩:=x.1;have:=t.ok.inj j j' k3 k2 _ _ r z1 m z2 l x.2 y;subst this;have:bD j∉is.map (ib rs):=by simpa[qe] using NU
        show this (ke.mpr ⟨p',Qs,g⟩)
       |_=>show x.elim
      .obtain⟨j1,_,k1,r1,a0,_,_,a1,a2,a3,a4,_⟩:=T i O;obtain⟨j2,_,k2,r2,b0,_,_,b1,x,b3,b4,_⟩:=T j Y;rw[e3]at a4;cases a4;rw[e4]at b4;cases b4;have:=t.ok.inj j1 j2 k1 k2 _ _ r a1 b1 a2 x a3 b3;subst this;show map_inj h2 i O j Y (by rw[a0,b0])
     have JO:Qr X.prog X.w X.K F np is vs c.H (λv H'=>Q v H') E0:=⟨by rw[<-t.len,<-k2,dt],rs.map (·.2),kd,u,ws,Pr,IO,e2,k1,ac,λv H' S' B=>by
      classical
      let H1:Hp:=λa=>if IO a then c.H a else H' a
      have Qt:∀a,¬IO a->H1 a=H' a:=λa z=>ø z;have O6:∀a,S' a->¬IO a:=λa z z'=>by
       have⟨o,ho⟩:=(O7 a z').2.2.2;rw[(B.new a z).1]at ho;cases ho
      have O8:zW c.H H1:=λa o e=>by
       by_cases z:IO a
       .change(if IO a then _ else _)=_;rw[ö z];show e
       .rw[Qt a z];show B.same a o e z
      have⟨Ho,n1⟩:=t.ok.grow (H':=H1) (S':=λa=>c.S a\/S' a) O8 (λa z=>z.imp id λz=>⟨(B.new a z).1,by rw[Qt a (O6 a z)];show(B.new a z).2⟩) λa=>.inl;have O9:∀(n i:Nat) (r:hU),is[n]?=bD i->vs[i]?=bD (.ref r)->∃w,ws[n]?=bD w/\cW (Le X.prog X.w X.K c.H Pr IO) S' H' r w:=λn i r a b=>by
       have hn:n<ws.length:=by rw[B.len];show(eh.mp a).1
       show⟨_,ri hn,B.JE n i r _ a b (ri hn)⟩
      have⟨cf,f1,f2,f3,f4,f5,f6,f7,f8⟩:=t9 (C:=C) K9 (rs:=rs) (vs:=vs) (H':=H') (S':=S') (S1:=λa=>c.S a\/S' a) (λa=>.inr) (IO:=IO) O6 (λa o ⟨i,O,z⟩ e=>by
        have⟨n,hn⟩:=List.getElem?_of_mem O;obtain⟨w,_,g⟩:=O9 n i a hn z;have⟨o',m,l⟩:=g.some;rw[e]at m;cases m;show l) is ws {c with H:=H1,S:=λa=>c.S a\/S' a} st' Ho n1.toNs rfl Tc h2 (λp L a z=>⟨p,L,z⟩) (λp L j Y=>by
        obtain⟨j',xs,k,r,g0,_,_,m,l,y,J,_⟩:=T p L;rw[Y]at g0;cases g0;show⟨k,_,r,m,l,y,J⟩) (λn i r w a b d=>B.JE n i r w a b d) (λa ha=>Qt a λ⟨p,L,z⟩=>ha p L z) Qt
      subst f6;have XC:∀a,cf.R a->c.R a:=λa z=>by
       rcases z with⟨j,k,u,m,l,y⟩|⟨j,u,r,m,l,y⟩
       .have⟨u0,g⟩:=f8 j k u l;rw[f3]at y;show .inl ⟨j,k,u0,m,g,y⟩
       .have⟨u0,g⟩:=f8 j .G' u m;rw[f3]at l;rw[f7]at y;show .inr ⟨j,u0,r,g,l,y⟩
      have dk:∀a,cf.NI a->c0.NI a/\∀o,c0.H a=bD o->cf.H a=bD o:=λa Hx=>by
       have⟨j,u,r,m,l,y⟩:=Hx;have⟨u0,g⟩:=f8 j .G' u m;rw[f3]at l;rw[f7]at y;have hd:c.RD j a:=⟨u0,r,g,l,y⟩
       have Ir:¬IO a:=λHx=>by
        have⟨p',Qs,e'⟩:=Hx;obtain⟨j',xs,k2,r2,_,_,_,y1,y2,y3,y4,_⟩:=T p' Qs;rw[e']at y4;cases y4;show t.ok.dd.d1 j a hd ⟨j',k2,_,y1,y2,y3⟩
       show⟨(t.nx.dk a ⟨j,hd⟩).1,λo e=>B.same a o ((t.nx.dk a ⟨j,hd⟩).2 o e) Ir⟩
      show q cf v (f3.trans t.hσ) f5 f1 ⟨t.nx.toNs.trans f2,dk⟩ ?_;rcases k1 with rfl|rfl
      .have⟨r,rfl,d1,d2,N⟩:=B.own rfl;obtain⟨_,z1,_,_,z4⟩:=t.ok.jW d1;show⟨r,rfl,t.nx.none d1,by rw[f4];show λz=>z.elim z1 d2,λz=>z4 (XC r z),(N.cg K9).mv (.up λa z=>by rw[f4];show .inr z) λo q=>q⟩
      .show((B.loc rfl).cg K9).mv (.up λa z=>by rw[f4];show .inr z)⟩
     have z:=wD (Q:=Q) G hr B .nil BV I1 rv (by rw[u7];show JO);rw[t.hσ]at z;show z
    .cases D
   .cases D
  .cases D
 .cases D
end
structure Ck where
 fns:List Str
 gl:List (Str×U)
 JE:List (Str×List Nat)
abbrev oX:U->U->Bool
 |.int i,.int j=>df (i=j)
 |.str x,.str y=>df (x=y)
 |.bl a,.bl b=>a==b
 |.Hj,.Hj=>b6
 |_,_=>cK
def cy(h:oX u v=b6):u=v:=by
 cases u<;>cases v<;>simp[oX]at h<;>subst_vars<;>rfl
abbrev noStar:nz->Bool
 |.Starred _ _=>cK
 |_=>b6
abbrev eB:nz->Bool
 |.Slice _ _ _ _=>cK
 |_=>b6
abbrev r9:nz->Bool
 |.Set _ _ _=>cK
 |_=>b6
abbrev oY:nz->Bool
 |.Call (.Name _ _) [] [] _=>cK
 |_=>b6
abbrev dM:nz->Bool
 |.ListComp _ _ _ _=>cK
 |.SetComp _ _ _ _=>cK
 |.DictComp _ _ _ _ _=>cK
 |_=>b6
abbrev DZ:nz->Bool
 |.Tuple _ _ _=>cK
 |_=>b6
abbrev Jm(a:ME)(x:Str):Bool:=df (a.names.lookup x=bD .globalImplicit)
abbrev gG(a:ME)(x:Str):Bool:=df (a.names.lookup x=bD .local)||decide (a.names.lookup x=bD .cell)||decide (a.names.lookup x=bD .free)
abbrev mD(a:ME)(x:Str):Bool:=df (a.names.lookup x=bD .local)||decide (a.names.lookup x=bD .cell)
abbrev FC(a:ME)(x:Str):Bool:=df (a.names.lookup x=bD .local)
abbrev bP(x:Str):Bool:=!(x==("__debug__":Str))&&!(x==("__classdict__":Str))
abbrev t_(N:List Str)(a:ME)(fa:Bool)(i:Nat):nz->Bool
 |.Name x _=>df (N[i]?=bD x)&&mD a x&&(fa||FC a x)
 |_=>cK
abbrev oZ(N:List Str)(a:ME)(fa:Bool):List Nat->List nz->Bool
 |[],[]=>b6
 |i::is,e::es=>t_ N a fa i e&&oZ N a fa is es
 |_,_=>cK
abbrev c_:nz->List Str
 |.Name x _=>[x]
 |.Tuple es _ _=>es.filterMap fun|.Name x _=>bD x|_=>cb
 |_=>[]
abbrev hide(a N:List Str):List Str:=match a.filter λx=>df (x∈N) with
 |[]=>N
 |[x]=>N.set (N.idxOf x) "."
 |x::y::_=>(N.set (N.idxOf x) ".").set (N.idxOf y) ".."
abbrev M7(t:Bool)(N:List Str)(a:ME)(fa:Bool)(is:List Nat):nz->Bool
 |.Name x p=>!t&&(match is with|[i]=>t_ N a fa i (.Name x p)|_=>cK)
 |.Tuple es _ _=>t&&oZ N a fa is es&&is.all λi=>df (i<N.length)
 |_=>cK
abbrev isTup:nz->Bool
 |.Tuple _ _ _=>b6
 |_=>cK
abbrev lx(e:nz):Option (Str×List nz):=match e with
 |.Call f as kw _=>match f with
  |.Name x _=>if kw.isEmpty=b6 then bD (x,as) else cb
  |_=>cb
 |_=>cb
def fU(h:lx e=bD (x,as)):∃p q,e=.Call (.Name x p) as [] q:=by
 unfold lx at h;split at h
 .split at h
  .split at h
   .rename_i hk;rw[IA]at hk;cases h;subst hk;show⟨_,_,rfl⟩
   .cases h
  .cases h
 .cases h
abbrev fV(a:ME)(b:nz)(ik:Ik)(e:nz):Option (List nz):=match ik with
 |.seq=>bD [e]
 |.IX=>(lx e).bind λp=>if p.1="range"/\Jm a p.1=b6/\p.2.length=1 then bD p.2 else cb
 |.LK=>(lx e).bind λp=>if p.1="enumerate"/\Jm a p.1=b6/\p.2.length=1/\isTup b=b6 then bD p.2 else cb
 |.zip=>(lx e).bind λp=>if p.1="zip"/\Jm a p.1=b6/\p.2.length=2/\isTup b=b6 then bD p.2 else cb
 |_=>cb
abbrev simple:Bf->Bool:=λ_=>b6
abbrev ya(scope a:ME):ME:={scope with names:=scope.names.map λ(n,k)=>if (k==Mo&&a.kind==.function&&a.names.lookup n==bD .cell)=b6 then(n,.cell) else(n,k)}
abbrev a_(e:nz)(k:Str->Bool):Bool:=match e with|.Name x _=>k x|_=>cK
def aq(h:a_ e k=b6):∃x p,e=.Name x p/\k x=b6:=by
 unfold a_ at h;split at h
 .show⟨_,_,rfl,h⟩
 .cases h
abbrev dE{α:Type}(l:List α)(k:α->Bool):Bool:=match l with|[a]=>k a|_=>cK
def ba(h:dE l k=b6):∃a,l=[a]/\k a=b6:=by
 unfold dE at h;split at h
 .show⟨_,rfl,h⟩
 .cases h
abbrev dg(e:nz)(k:nz->List nz->Pos->Bool):Bool:=match e with|.Call f as kw p=>kw.isEmpty&&k f as p|_=>cK
def aZ(h:dg e k=b6):∃f as p,e=.Call f as [] p/\k f as p=b6:=by
 unfold dg at h;split at h
 .rename_i f as kw p;rw[cL,IA]at h;have⟨rfl,h⟩:=h;show⟨_,_,_,rfl,h⟩
 .cases h
abbrev r_(e:nz)(k:nz->Str->Pos->Bool):Bool:=match e with|.Attribute o m p=>k o m p|_=>cK
def qr(h:r_ e k=b6):∃o m p,e=.Attribute o m p/\k o m p=b6:=by
 unfold r_ at h;split at h
 .show⟨_,_,_,rfl,h⟩
 .cases h
abbrev ua(e:nz)(k:nz->Zv->nz->Bool):Bool:=match e with|.BinOp a c b _=>k a c b|_=>cK
def ly(h:ua e k=b6):∃a c b p,e=.BinOp a c b p/\k a c b=b6:=by
 unfold ua at h;split at h
 .show⟨_,_,_,_,rfl,h⟩
 .cases h
abbrev ub(e:nz)(k:nz->CmpOp->nz->Bool):Bool:=match e with|.Compare a ops c _=>dE ops λd=>dE c λb=>k a d b|_=>cK
def ie(h:ub e k=b6):∃a c b p,e=.Compare a [c] [b] p/\k a c b=b6:=by
 unfold ub at h;split at h
 .have⟨c,rfl,d⟩:=ba h;have⟨b,rfl,f⟩:=ba d;show⟨_,_,_,_,rfl,f⟩
 .cases h
abbrev eF(e:nz)(k:nz->Str->Pos->List nz->Pos->Bool):Bool:=dg e λf as b=>r_ f λo m a=>k o m a as b
def bJ(h:eF e k=b6):∃o m a as b,e=.Call (.Attribute o m a) as [] b/\k o m a as b=b6:=by
 have⟨f,as,p,rfl,h⟩:=aZ h;have⟨o,m,q,rfl,h⟩:=qr h;show⟨_,_,_,_,_,rfl,h⟩
abbrev jK(e:nz)(k:nz->nz->Bool):Bool:=match e with|.Subscript a b _=>k a b|_=>cK
def dh(h:jK e k=b6):∃a b p,e=.Subscript a b p/\k a b=b6:=by
 unfold jK at h;split at h
 .show⟨_,_,_,rfl,h⟩
 .cases h
abbrev U7:E->Bool
 |.var _=>b6
 |.cst _=>b6
 |_=>cK
abbrev uc{α:Type}(l:List α)(k:α->α->Bool):Bool:=match l with|[a,b]=>k a b|_=>cK
def ig(h:uc l k=b6):∃a b,l=[a,b]/\k a b=b6:=by
 unfold uc at h;split at h
 .show⟨_,_,rfl,h⟩
 .cases h
abbrev ud(e:nz)(k:Const->Bool):Bool:=match e with|.Constant c _ _=>k c|_=>cK
def ij(h:ud e k=b6):∃c q p,e=.Constant c q p/\k c=b6:=by
 unfold ud at h;split at h
 .show⟨_,_,_,rfl,h⟩
 .cases h
abbrev G1:Const->Option U
 |.int j=>bD (.int j)
 |.str y=>bD (.str y)
 |.bool y=>bD (.bl y)
 |.none=>bD .Hj
 |_=>cb
abbrev G2(u:U)(c:Const):Bool:=match G1 c with|some v=>oX u v|none=>cK
abbrev A8(e:nz)(a:BoolOp)(k:List nz->Bool):Bool:=match e with|.BoolOp o es _=>df (o=a)&&k es|_=>cK
def jm(h:A8 e a k=b6):∃es p,e=.BoolOp a es p/\k es=b6:=by
 unfold A8 at h;split at h
 .rw[cL,õ]at h;have⟨rfl,h⟩:=h;show⟨_,_,rfl,h⟩
 .cases h
abbrev D0(e:nz)(b:UnaryOp)(k:nz->Bool):Bool:=match e with|.UnaryOp o a _=>df (o=b)&&k a|_=>cK
def nj(h:D0 e b k=b6):∃a p,e=.UnaryOp b a p/\k a=b6:=by
 unfold D0 at h;split at h
 .rw[cL,õ]at h;have⟨rfl,h⟩:=h;show⟨_,_,rfl,h⟩
 .cases h
abbrev D3(e:nz)(k:nz->nz->nz->Bool):Bool:=match e with|.IfExp c a b _=>k c a b|_=>cK
def vQ(h:D3 e k=b6):∃c a b p,e=.IfExp c a b p/\k c a b=b6:=by
 unfold D3 at h;split at h
 .show⟨_,_,_,_,rfl,h⟩
 .cases h
abbrev ue(e:nz)(k:List nz->Bool):Bool:=match e with|.Tuple l _ _=>k l|_=>cK
def lz(h:ue e k=b6):∃l q p,e=.Tuple l q p/\k l=b6:=by
 unfold ue at h;split at h
 .show⟨_,_,_,rfl,h⟩
 .cases h
abbrev yb(e:nz)(k:List nz->Bool):Bool:=match e with|.List l _=>k l|_=>cK
def sd(h:yb e k=b6):∃l p,e=.List l p/\k l=b6:=by
 unfold yb at h;split at h
 .show⟨_,_,rfl,h⟩
 .cases h
abbrev A9(e:nz):Bool:=match e with|.Dict a b _=>a.isEmpty&&b.isEmpty|_=>cK
def nq(h:A9 e=b6):∃p,e=.Dict [] [] p:=by
 unfold A9 at h;split at h
 .rw[cL,IA,IA]at h;have⟨rfl,rfl⟩:=h;show⟨_,rfl⟩
 .cases h
abbrev yc(e:nz)(k:Option nz->Option nz->Bool):Bool:=match e with|.Slice a b c _=>c.isNone&&k a b|_=>cK
def se(h:yc e k=b6):∃a b p,e=.Slice a b cb p/\k a b=b6:=by
 unfold yc at h;split at h
 .rw[cL,QL]at h;have⟨rfl,h⟩:=h;show⟨_,_,_,rfl,h⟩
 .cases h
abbrev D4(e:nz)(k:nz->nz->nz->List nz->ME->Bool):Bool:=match e with|.ListComp elt a b _=>dE a λg=>df (g.is_async=0)&&k elt g.target g.iter g.ifs b|_=>cK
def jn(h:D4 e k=b6):∃elt d a b f p,e=.ListComp elt [⟨d,a,b,0⟩] f p/\k elt d a b f=b6:=by
 unfold D4 at h;split at h
 .obtain⟨⟨d,a,b,z⟩,rfl,c⟩:=ba h;rw[cL,õ]at c;have⟨rfl,c⟩:=c;show⟨_,_,_,_,_,_,rfl,c⟩
 .cases h
mutual
noncomputable def bA(k:Ck):E->List Str->ME->nz->Bool
 |.var i,N,g,h=>a_ h λx=>df (N[i]?=bD x)&&gG g x&&bP x
 |.cst u,N,g,h=>ud h λc=>G2 u c
 |.MN x u,N,g,h=>a_ h λy=>df (x=y)&&Jm g x&&bP x&&k.gl.any λp=>df (p.1=x)&&oX p.2 u
 |.bin B a b,N,g,h=>ua h λa' A s=>df (B.op=A)&&bA k a N g a'&&bA k b N g s
 |.cmp B a b,N,g,h=>ub h λa' A s=>df (B.op=A)&&!Qz A s&&bA k a N g a'&&bA k b N g s
 |.K7 _ _ _ _ _,_,_,_=>cK
 |.and es,N,g,h=>A8 h .And λq=>aY k es N g q
 |.or es,N,g,h=>A8 h .Or λq=>aY k es N g q
 |.not a,N,g,h=>D0 h .Not λa'=>bA k a N g a'
 |.ite c a b,N,g,h=>D3 h λD a' s=>bA k c N g D&&bA k a N g a'&&bA k b N g s
 |.neg _,_,_,_=>cK
 |.bad,_,_,_=>b6
 |.pop i,N,g,h=>eF h λo m j as w=>a_ o λx=>as.isEmpty&&df (m="pop")&&df (N[i]?=bD x)&&gG g x&&bP x&&(j.endLine==w.line)
 |.LM i a,N,g,h=>eF h λo m j as w=>a_ o λx=>dE as λa'=>df (m="pop")&&df (N[i]?=bD x)&&gG g x&&bP x&&(j.endLine==w.line)&&noStar a'&&bA k a N g a'
 |.Hg f es is,N,g,h=>dg h λf' q _=>a_ f' λx=>df (x=f)&&df ((f,is)∈k.JE)&&Jm g x&&bP x&&!q.isEmpty&&aY k es N g q
 |.inD neg a i,N,g,h=>ub h λa' A s=>a_ s λx=>df (DT neg=A)&&!Qz A s&&df (N[i]?=bD x)&&gG g x&&bP x&&bA k a N g a'
 |.NJ i,N,g,h=>a_ h λx=>df (N[i]?=bD x)&&gG g x&&bP x
 |.J5 i a b,N,g,h=>eF h λo m j as w=>a_ o λx=>uc as λa' s=>df (m="get")&&df (N[i]?=bD x)&&gG g x&&bP x&&(j.endLine==w.line)&&noStar a'&&noStar s&&bA k a N g a'&&bA k b N g s
 |.NK i,N,g,h=>dg h λf' as _=>a_ f' λf=>dE as λc=>eF c λo m j G w=>a_ o λx=>G.isEmpty&&df (f="sorted")&&Jm g f&&df (m="items")&&df (N[i]?=bD x)&&gG g x&&bP x&&(j.endLine==w.line)
 |.LL ln a b,N,g,h=>dg h λf' as _=>a_ f' λf=>dE as λd=>ua d λl B r=>dg l λH I _=>a_ H λJ=>dE I λa'=>dg r λL O _=>a_ L λQ=>dE O λs =>
  df (f=(if ln=b6 then("len":Str) else "sorted"))&&df (J="set")&&df (Q="set")&&df (B=.Sub)&&Jm g f&&Jm g "set"&&noStar a'&&noStar s&&bA k a N g a'&&bA k b N g s
 |.fst es,N,g,h=>cK
 |.Jc a T,N,g,h=>dg h λf' as _=>a_ f' λx=>uc as λa' s=>a_ s λy=>df (x="isinstance")&&df (y=T.name)&&Jm g x&&Jm g y&&noStar a'&&bA k a N g a'
 |.tup es,N,g,h=>ue h λq=>aY k es N g q
 |.lst es,N,g,h=>yb h λq=>aY k es N g q
 |.Ji _,N,g,h=>A9 h
 |.idx a b,N,g,h=>jK h λa' s=>eB s&&bA k a N g a'&&bA k b N g s
 |.KN a lo Y,N,g,h=>jK h λa' s=>yc s λU8 IW=>bA k a N g a'&&sg k lo N g U8&&sg k Y N g IW
 |.bi f es,N,g,h=>dg h λf' q _=>a_ f' λx=>df (x=f.name)&&simple f&&Jm g x&&!q.isEmpty&&aY k es N g q
 |.Kw f es,N,g,h=>dg h λf' as _=>a_ f' λx=>dE as λc=>dg c λg' q _=>a_ g' λy=>df (x=f.oU)&&df (y=f.iN)&&Jm g x&&Jm g y&&!q.isEmpty&&aY k es N g q
 |.Mg m a es,N,g,h=>eF h λo name j q w=>df (name=m.name)&&oY o&&(j.endLine==w.line)&&!q.isEmpty&&df (q.length<20)&&bA k a N g o&&aY k es N g q
 |.call f es,N,g,h=>dg h λf' q _=>a_ f' λx=>df (x=f)&&df (f∈k.fns)&&Jm g x&&bP x&&!q.isEmpty&&aY k es N g q
 |.comp n t ik src cond e,N,g,h=>D4 h λelt v z C scope =>
   df ((c_ v).length=n)&&Ab (c_ v++hide (c_ v) N) (c_ v) scope g.names&&M7 t (c_ v++hide (c_ v) N) (ya scope g) cK (ix n) v&&r9 z &&
   (match fV g v ik z with
    |some as=>aY k src N g as
    |none=>cK) &&
   df (C.length<=1)&&aY k cond (c_ v++hide (c_ v) N) (ya scope g) C&&bA k e (c_ v++hide (c_ v) N) (ya scope g) elt
noncomputable def aY(k:Ck):List E->List Str->ME->List nz->Bool
 |[],_,_,a=>a.isEmpty
 |e::es,N,b,a=>match a with
  |e'::a=>noStar e'&&bA k e N b e'&&aY k es N b a
  |[]=>cK
noncomputable def sg(k:Ck):List E->List Str->ME->Option nz->Bool
 |[],_,_,o=>o.isNone
 |[e],N,a,o=>match o with
  |some b=>bA k e N a b
  |none=>cK
 |_::_::_,_,_,_=>cK
end
abbrev bT:List Str:=["len","sorted","repr","max","min","all","any","list","tuple","str","int","range","enumerate","zip","reversed","set","dict","sum","isinstance","bool"]
structure A_(P:Hr)(w:IT)(K:PySem.W.Frag)(mg:Str->Option et)(base:J3)(d:Nat)(F:List U->Option (Ex (Kd×U)))(f:Str):Prop where
 ex:∃(np:Nat) (fa:hU) (fd:Rg) (ps:List Str),kJ P w K mg base KD d fa fd ps (spT P w K F np)/\mg f=bD (.ref fa)/\PySem.W.keepIn K (.ref fa)=b6/\Binds K fd ps []/\∀us k u,F us=bD (.ok (k,u))->(k=.own\/k=.loc\/k=.any)/\us.length=np
structure Ba(P:Hr)(w:IT)(K:PySem.W.Frag)(mg:Str->Option et)(base:J3)(d:Nat)(F:List U->Option (Ex (Kd×U)))(f:Str)(is:List Nat):Prop where
 ex:∃(np:Nat) (fa:hU) (fd:Rg) (ps:List Str),kJ P w K mg base KD d fa fd ps (Qr P w K F np is)/\mg f=bD (.ref fa)/\PySem.W.keepIn K (.ref fa)=b6/\Binds K fd ps []/\∀us r,F us=bD (.ok r)->us.length=np
structure Gd(ck:Ck)(Γ:Tab)(C:Ct)(d:Nat)(X:Cx):Prop where
 P:C.P=X.prog
 w:C.w=X.w
 K:C.K=X.K
 u:X.A.units+60<Lk
 calm:X.calm=b6
 room:gE d X.A
 blt:∀x∈bT,X.mg x=cb
 fns:∀f∈ck.fns,A_ X.prog X.w X.K X.mg X.base d (Γ f) f
 Ky:∀p∈ck.gl,∃val v,X.mg p.1=bD val/\RelV v val/\∀S H,Rep C S H p.2 v
 JE:∀p∈ck.JE,Ba X.prog X.w X.K X.mg X.base d (Γ p.1) p.1 p.2
def Gd.cx(g:Gd ck Γ C d X)(N:List Str)(a:ME)(D:hU)(s:hH)(H:Hp)(ex:List hU):Gd ck Γ C d (Iy X N a D s H ex) :=
 ⟨g.P,g.w,g.K,g.u,g.calm,g.room,g.blt,g.fns,g.Ky,g.JE⟩
def cD(h:gG a x=b6):Jo a x:=by
 unfold gG at h;simp only[Lp,õ]at h;rcases h with(h|h)|h
 .show .inl h
 .show .inr (.inl h)
 .show .inr (.inr h)
def aV(h:bP x=b6):(x==("__debug__":Str))=cK/\(x==("__classdict__":Str))=cK:=by
 unfold bP at h;simpa using h
def bq(h:noStar e=b6):i9 (e::es) env=(cK,HD e env)::i9 es env:=by
 cases e<;>first|rfl|cases h
def qt(h:eB e=b6):ot e:=by
 intro o i;cases e<;>first|rfl|cases h
def si(h:r9 e=b6):∀x,LY e env x=pure x:=by
 intro x;cases e<;>first|rfl|cases h
def ka(h:oY o=b6):RZ o name env a=a:=by
 cases o with
 |Call f as ks p =>
  cases f with
  |Name x q=>cases as with
   |nil=>cases ks with
    |nil=>cases h
    |cons _ _=>rfl
   |cons _ _=>rfl
  |_=>rfl
 |_=>rfl
def bB(h:∀e∈es,noStar e=b6):(Jx pos (i9 es env)).any (·.1)=cK/\(Jx pos (i9 es env)).all (λx=>!x.1)=b6:=by
 induction es with
 |nil=>show⟨rfl,rfl⟩
 |cons e es a =>
  rw[bq (h e (by simp))];have:=a λb c=>h b (by simp[c]);constructor
  .change(cK||(Jx pos (i9 es env)).any (·.1))=cK;rw[this.1];rfl
  .change(!cK&&(Jx pos (i9 es env)).all (λx=>!x.1))=b6;rw[this.2];rfl
def di(h:aY k es N c a=b6):∀e∈a,noStar e=b6:=by
 induction es generalizing a with
 |nil =>
  cases a with
  |nil=>intro e he;cases he
  |cons _ _=>simp[aY]at h
 |cons x es b =>
  cases a with
  |nil=>intro e he;cases he
  |cons d a =>
   simp only[aY,cL]at h;intro e he;rcases gc.mp he with rfl|he
   .show h.1.1
   .show b h.2 e he
def nu(a:fa=b6->∀x,X.fn x=b6)(h:t_ X.N X.env.scope fa i e=b6):rV X e i:=by
 cases e with
 |Name x p =>
  simp only[t_,cL,õ,mD,Lp,FC]at h;show⟨x,p,rfl,h.1.1,?_,?_⟩
  .rcases h.1.2 with z|z
   .show .inl z
   .show .inr z
  .rcases h.2 with z|z
   .show .inl (a z x)
   .show .inr z
 |_=>cases h
theorem lA(a:fa=b6->∀x,X.fn x=b6):∀{is:List Nat}{es:List nz},oZ X.N X.env.scope fa is es=b6->fq X es is
 |[],[],_=>.nil
 |[],_::_,h=>by cases h
 |_::_,[],h=>by cases h
 |i::is,e::es,h=>by
  simp only[oZ,cL]at h;show .cons (nu a h.1) (lA a h.2)
def qu(d:X.calm=b6)(e:C.K=X.K)(a:X.N.Nodup)(b:fa=b6->∀x,X.fn x=b6)(h:M7 t X.N X.env.scope fa is c=b6):PG X c (tG C t is):=by
 cases c with
 |Name x p =>
  simp only[M7,cL,x2]at h;have⟨rfl,h⟩:=h;cases is with
  |nil=>cases h
  |cons i is=>cases is with
   |nil=>show DN a (nu b h)
   |cons _ _=>cases h
 |Tuple es k p =>
  simp only[M7,cL,mx,õ]at h;obtain⟨⟨rfl,f⟩,g⟩:=h;show Fg d e a (lA b f) g
 |_=>cases h
def jo(a N:List Str):eE ((a++hide a N).drop a.length) N:=by
 rw[Vo rfl];unfold hide;split
 .show .refl N
 .show(eE.refl N).set _ (.inl rfl)
 .show((eE.refl N).set _ (.inl rfl)).set _ (.inr rfl)
abbrev Bf.YJ:Bf->Bool
 |.len=>b6|.sorted=>b6|.repr=>b6|.max=>b6|.min=>b6|.all=>b6|.any=>b6|_=>cK
abbrev Bf.id:Bf->String
 |.len=>"len"|.sorted=>"sorted"|.repr=>"repr"|.max=>"max"|.min=>"min"|.all=>"all"|.any=>"any"
 |.list=>"list"|.tuple=>"tuple"|.str=>"str"|.int=>"int"
def Bb:∀f:Bf,simple f=b6->wk f.name=bD f.val/\f.name∈bT/\f.name≠"__name__"/\(f.name==("__debug__":Str))=cK:=by
 intro f h;cases f<;>first|show⟨by decide +kernel,by decide +kernel,by decide +kernel,by decide +kernel⟩|(cases h;done)
def D5:∀f:Bf,simple f=b6->(f.val=.builtin f.id\/f.val=.type f.id):=by
 intro f h;cases f<;>first|show .inl rfl|show .inr rfl|(cases h;done)
def D6:∀f:B2,f.oU∈bT/\f.iN∈bT:=by
 intro f;cases f<;>show⟨by decide +kernel,by decide +kernel⟩
def Bc:∀f:Mf,Slot "str" f.name f.id/\ZS (.builtin f.id)=pure (.type "method_descriptor"):=by
 intro f;cases f with
 |split=>show⟨PySem.F.slot_str_split,PySem.F.type_str_split⟩
 |join=>show⟨PySem.F.slot_str_join,PySem.F.type_str_join⟩
 |partition=>show⟨PySem.F.slot_str_partition,PySem.F.type_str_partition⟩
 |endswith=>show⟨PySem.F.slot_str_endswith,PySem.F.type_str_endswith⟩
section
def dy(h:Jm X.env.scope x=b6):Gl X x:=by
 unfold Jm at h;change X.env.kindOf x=bD .globalImplicit;show û h
def Bd:("enumerate":Str)∈bT:=by decide +kernel
def qv:("isinstance":Str)∈bT:=by decide +kernel
def yd(T:JH):T.name∈bT:=by cases T<;>decide +kernel
def Be:("range":Str)∈bT:=by decide +kernel
def B7(g:Gd ck Γ C d X)(h:fV X.env.scope o ik i=bD as)(r:PA X as (IU C (bG Γ src)))(t:∀a,as=[a]->∃e,src=[e]/\PE X a (Hn C (ev Γ e)))(l:∀e∈as,noStar e=b6):PI X o i (K_ C ik (bG Γ src)):=by
 unfold fV at h;split at h
 .cases h;have⟨e,rfl,u⟩:=t _ rfl;show DK g.K u
 .rw[r6]at h;obtain⟨⟨x,m⟩,j,h⟩:=h;split at h
  .rename_i k;cases h;have⟨c,f,hl⟩:=k
   dsimp only at c f hl
   subst c;have⟨p,q,rfl⟩:=fU j;have⟨b,rfl⟩:=X1.mp hl;show AS (dy f) (g.blt _ Be) (bq (l _ (by simp))) r
  .cases h
 .rw[r6]at h;obtain⟨⟨x,m⟩,j,h⟩:=h;split at h
  .rename_i k;cases h;have⟨c,f,hl,s⟩:=k
   dsimp only at c f hl
   subst c;have⟨p,q,rfl⟩:=fU j;have⟨b,rfl⟩:=X1.mp hl;cases o with
   |Tuple es v ps=>show DL g.K (dy f) (g.blt _ Bd) (bq (l _ (by simp))) r
   |_=>cases s
  .cases h
 .rw[r6]at h;obtain⟨⟨x,m⟩,j,h⟩:=h;split at h
  .rename_i k;cases h;have⟨c,f,hl,s⟩:=k
   dsimp only at c f hl
   subst c;have⟨p,q,rfl⟩:=fU j;obtain⟨b,n,rfl⟩:∃b n,m=[b,n]:=by match m,hl with|[b,n],_=>show⟨b,n,rfl⟩
   have s1:=bq (env:=X.env) (es:=[]) (l _ (show _∈[_,_] from td _ nH));cases o with
   |Tuple es v ps=>show DM g.K (dy f) (g.blt _ (by decide +kernel)) (bq (l _ nH)) (by rw[s1];rfl) r
   |_=>cases s
  .cases h
 .cases h
def B8{a:M α}{b:α->M β}{c:α->M γ}{g:γ->M δ}{st:aw}{Q:δ->aw->Prop}(w:W (a >>= λx=>b x >>= λ_=>c x >>= g) st Q):W ((a >>= λx=>b x >>= λ_=>c x) >>= g) st Q:=by
 simp only[ai]at w ⊢;show w
def bH:PT X e (IL C M.fail):=λa s σ H Q I ⟨_,_,_,_,w⟩=>(bt.mp w).elim
def lB:PE X e (Hn C M.fail):=λa s σ H Q I ⟨_,_,_,_,w⟩=>(bt.mp w).elim
def PT.eqv(h:PT X e (IL C m))(i:∀st Q,W a st Q->W m st Q):PT X e (IL C a):=PT.weak h λσ H Q ⟨c0,b,c,d,w⟩=>⟨c0,b,c,d,i _ _ w⟩
def FD(g:Gd ck Γ C d X)(b:PA X a (IU C (bG Γ es)))
  (h:(df (x=f.name)&&simple f&&Jm X.env.scope x&&!a.isEmpty&&aY ck es X.N X.env.scope a)=b6):PE X (.Call (.Name x p) a [] pos) (Hn C (ev Γ (.bi f es))):=by
 simp only[cL,õ,x2]at h;obtain⟨⟨⟨⟨rfl,c⟩,i⟩,n⟩,o⟩:=h;have⟨b1,j,b3,b4⟩:=Bb f c;have k:=di o;cases a with
 |nil=>cases n
 |cons q l =>
  have st:=bq (env:=X.env) (es:=l) (k q (by simp));have m:=(bB (pos:=pos) (env:=X.env) (es:=l) λe r=>k e (by simp[r])).1;rcases D5 f c with hv|hv
  .show AL g.calm g.K g.room.gd g.u hv (dy i) (g.blt _ j) (by rw[b1,hv]) b3 b4 b st m
  .show AM g.calm g.K g.room.gd g.u hv (dy i) (g.blt _ j) (by rw[b1,hv]) b3 b4 b st m
def FE(g:Gd ck Γ C d X)(i:PA X a (IU C (bG Γ es)))
  (h:(df (x=f.oU)&&df (y=f.iN)&&Jm X.env.scope x&&Jm X.env.scope y&&!a.isEmpty&&aY ck es X.N X.env.scope a)=b6):PE X (.Call (.Name x p) [.Call (.Name y p2) a [] pos2] [] pos) (Hn C (ev Γ (.Kw f es))):=by
 simp only[cL,õ,x2]at h;obtain⟨⟨⟨⟨⟨rfl,rfl⟩,j⟩,k⟩,l⟩,m⟩:=h;have⟨b1,n⟩:=D6 f;have b:=di m;cases a with
 |nil=>cases l
 |cons o c =>
  have st:=bq (env:=X.env) (es:=c) (b o (by simp));have q:=(bB (pos:=pos2) (env:=X.env) (es:=c) λe r=>b e (by simp[r])).1;show AR g.calm g.K (dy j) (g.blt _ b1) (dy k) (g.blt _ n) i st q
def FF(g:Gd ck Γ C d X)(l:PE X o (Hn C (ev Γ a)))(n:PA X b (IU C (bG Γ es)))
  (h:(df (name=m.name)&&oY o&&(c.endLine==i.line)&&!b.isEmpty&&df (b.length<20)&&bA ck a X.N X.env.scope o&&aY ck es X.N X.env.scope b)=b6):PE X (.Call (.Attribute o name c) b [] i) (Hn C (ev Γ (.Mg m a es))):=by
 simp only[cL,õ,x2]at h;obtain⟨⟨⟨⟨⟨⟨rfl,p⟩,q⟩,r⟩,s⟩,x⟩,t⟩:=h;have j:=di t;have⟨s1,s2⟩:=Bc m;cases b with
 |nil=>cases r
 |cons k f =>
  have st:=bq (env:=X.env) (es:=f) (j k (by simp));have u:=(bB (pos:=i) (env:=X.env) (es:=f) λe v=>j e (by simp[v])).1;have w:=(bB (pos:=i) (env:=X.env) (es:=k::f) j).2;show AQ g.K s1 s2 l n (ka p) ?_ q st u;rw[w];have:(k::f).length+([]:List Ni).length+(if ([]:List Ni).isEmpty=b6 then 0 else 1)<30:=by simp at s ⊢;lia
  simp only[ú this];rfl
def ye(g:Gd ck Γ C d X)(i:PA X a (IU C (bG Γ es)))
  (h:(df (x=f)&&df (f∈ck.fns)&&Jm X.env.scope x&&bP x&&!a.isEmpty&&aY ck es X.N X.env.scope a)=b6):PE X (.Call (.Name x p) a [] pos) (Hn C (ev Γ (.call f es))):=by
 simp only[cL,õ,x2]at h;obtain⟨⟨⟨⟨⟨rfl,j⟩,k⟩,l⟩,m⟩,n⟩:=h;have b:=di n;have⟨z,fa,A,ps,o,q,r,s,t⟩:=(g.fns _ j).ex;cases a with
 |nil=>cases m
 |cons u c =>
  have st:=bq (env:=X.env) (es:=c) (b u (by simp));have v:=(bB (pos:=pos) (env:=X.env) (es:=c) λe y=>b e (by simp[y])).1;show xK g.P g.w g.K rfl t o g.room (dy k) q r s (aV l).1 i st v
def D7(g:Gd ck Γ C d X)(i:PA X a (IU C (bG Γ es)))
  (h:(df (x=f)&&df ((f,is)∈ck.JE)&&Jm X.env.scope x&&bP x&&!a.isEmpty&&aY ck es X.N X.env.scope a)=b6):PE X (.Call (.Name x p) a [] pos) (Hn C (ev Γ (.Hg f es is))):=by
 simp only[cL,õ,x2]at h;obtain⟨⟨⟨⟨⟨rfl,j⟩,k⟩,l⟩,m⟩,n⟩:=h;have b:=di n;have⟨z,fa,A,ps,o,q,r,s,t⟩:=(g.JE _ j).ex;cases a with
 |nil=>cases m
 |cons u c =>
  have st:=bq (env:=X.env) (es:=c) (b u (by simp));have v:=(bB (pos:=pos) (env:=X.env) (es:=c) λe y=>b e (by simp[y])).1;show x_ g.P g.w g.K rfl t o g.room (dy k) q r s (aV l).1 (A7 i) st v
def dU(h:(b&&aY k es N a c)=b6):aY k es N a c=b6:=(IH.mp h).2
mutual
theorem bK:∀(e:E) (X:Cx) (k:nz),Gd ck Γ C d X->bA ck e X.N X.env.scope k=b6->PE X k (Hn C (ev Γ e))
 |.var i,X,k,g,h=>by
  have⟨x,G,rfl,q⟩:=aq h;clear h;have h:=q;simp only[cL,õ]at h;have⟨O,Y⟩:=aV h.2;show oS h.1.1 (cD h.1.2) O Y
 |.cst u,X,k,g,h=>by
  have⟨c,q0,G,rfl,q⟩:=ij h;cases c with
  |int j=>have:=cy q;subst this;show iL rb λ_ _=>rfl
  |str y=>have:=cy q;subst this;show iL wg λ_ _=>rfl
  |bool y=>have:=cy q;subst this;show iL BS λ_ _=>rfl
  |none=>have:=cy q;subst this;show iL we λ_ _=>rfl
  |_=>cases q
 |.MN x u,X,k,g,h=>by
  have⟨y,G,rfl,q⟩:=aq h;clear h;have h:=q;simp only[cL,õ,UP]at h;obtain⟨⟨⟨rfl,J⟩,h2⟩,p,hp,e1,e2⟩:=h;have:=cy e2;subst this e1;have⟨an,v,q1,q2,q3⟩:=g.Ky p hp;show iL (zA (dy J) q1 q2 (aV h2).1) q3
 |.bin op a b,X,k,g,h=>by
  have⟨a',Lf,b',G,rfl,q⟩:=ly h;clear h;have h:=q;simp only[cL,õ]at h;obtain⟨⟨rfl,J⟩,h2⟩:=h;show Ay g.K (bK a X _ g J) (bK b X _ g h2)
 |.cmp op a b,X,k,g,h=>by
  have⟨a',Lf,b',G,rfl,A⟩:=ie h;have h:=A;simp only[cL,õ,x2]at h;obtain⟨⟨⟨rfl,h0⟩,J⟩,h2⟩:=h;show Az g.P g.w g.K g.u (bK a X _ g J) (bK b X _ g h2) h0
 |.K7 o1 o2 a b c,X,k,g,h=>absurd (show cK=b6 from h) k8
 |.and es,X,k,g,h=>by
  have⟨He,G,rfl,q⟩:=jm h;clear h;have h:=q;show yf es X _ g h
 |.or es,X,k,g,h=>lB
 |.not a,X,k,g,h=>by
  have⟨a',G,rfl,q⟩:=nj h;clear h;have h:=q;show AB (bK a X _ g h)
 |.neg a,X,k,g,h=>absurd (show cK=b6 from h) k8
 |.bad,X,k,g,h=>lB
 |.pop i,X,k,g,h=>by
  have⟨o,m,ab,as,F',rfl,A⟩:=bJ h;have⟨x,px,rfl,B⟩:=aq A;simp only[cL,õ,IA]at B;obtain⟨⟨⟨⟨⟨rfl,rfl⟩,J⟩,h2⟩,O⟩,Y⟩:=B;have⟨q1,q2⟩:=aV O;show A5 J (cD h2) q1 q2 Y g.K
 |.LM i a,X,k,g,h=>by
  have⟨o,m,ab,as,F',rfl,A⟩:=bJ h;have⟨x,px,rfl,B⟩:=aq A;have⟨a',rfl,z3⟩:=ba B;simp only[cL,õ]at z3;obtain⟨⟨⟨⟨⟨⟨rfl,J⟩,h2⟩,O⟩,Y⟩,L⟩,h6⟩:=z3;have⟨q1,q2⟩:=aV O;have sa:=bB (pos:=F') (env:=X.env) (es:=[a']) λe he=>by rw[i0.mp he];show L
  show x8 g.K J (cD h2) q1 q2 (bK a X _ g h6) (by rw[sa.2];rfl) Y (bq L)
 |.Hg f es is,X,k,g,h=>by
  have⟨f',as,G,rfl,A⟩:=aZ h;have⟨x,p1,rfl,B⟩:=aq A;show D7 g (jY es X _ g (dU B)) B
 |.inD neg a i,X,k,g,h=>lB
 |.NJ i,X,k,g,h=>by
  have⟨x,G,rfl,q⟩:=aq h;clear h;have h:=q;simp only[cL,õ]at h;have⟨O,Y⟩:=aV h.2;show AW h.1.1 (cD h.1.2) O Y
 |.J5 i a b,X,k,g,h=>by
  have⟨o,m,ab,as,F',rfl,A⟩:=bJ h;have⟨x,px,rfl,B⟩:=aq A;have⟨a',b',rfl,z3⟩:=ig B;clear h A;have B:=z3;simp only[cL,õ]at B;obtain⟨⟨⟨⟨⟨⟨⟨⟨rfl,J⟩,h2⟩,O⟩,Y⟩,L⟩,h6⟩,h7⟩,h8⟩:=B;have⟨q1,q2⟩:=aV O;have sa:=bB (pos:=F') (env:=X.env) (es:=[a',b']) λe he=>by
   rcases gc.mp he with rfl|he
   .show L
   .simp at he;subst he;show h6
  show xY g.u J (cD h2) q1 q2 (bK a X _ g h7) (bK b X _ g h8) ⟨rfl,by rw[sa.2];rfl,Y,by rw[bq L,bq h6];rfl⟩
 |.NK i,X,k,g,h=>by
  obtain⟨f',as,_,rfl,A⟩:=aZ h;obtain⟨f,_,rfl,B⟩:=aq A;have⟨c,rfl,z3⟩:=ba B;have⟨o,m,ab,bs,F',rfl,z4⟩:=bJ z3;have⟨x,px,rfl,z5⟩:=aq z4;simp only[cL,õ,IA]at z5;obtain⟨⟨⟨⟨⟨⟨⟨rfl,rfl⟩,J⟩,rfl⟩,O⟩,Y⟩,L⟩,h6⟩:=z5;have⟨q1,q2⟩:=aV L;show A0 g.calm g.K (dy J) (g.blt _ (by decide +kernel)) O (cD Y) q1 q2 h6
 |.LL ln a b,X,k,g,h=>by
  obtain⟨_,_,_,rfl,q⟩:=aZ h;obtain⟨_,_,rfl,A⟩:=aq q;obtain⟨_,rfl,B⟩:=ba A;obtain⟨_,_,_,_,rfl,z3⟩:=ly B;obtain⟨_,_,_,rfl,z4⟩:=aZ z3;obtain⟨_,_,rfl,z5⟩:=aq z4;obtain⟨_,rfl,z6⟩:=ba z5;obtain⟨_,_,_,rfl,z7⟩:=aZ z6;obtain⟨_,_,rfl,z8⟩:=aq z7;obtain⟨_,rfl,z9⟩:=ba z8;simp only[cL,õ]at z9;obtain⟨⟨⟨⟨⟨⟨⟨⟨⟨rfl,rfl⟩,rfl⟩,rfl⟩,J⟩,h2⟩,O⟩,Y⟩,L⟩,h6⟩:=z9;show A4 (ln:=ln) g.calm g.K (dy J) (g.blt _ (by cases ln<;>decide +kernel)) (dy h2) (g.blt _ (by decide +kernel)) (bK a X _ g L) (bK b X _ g h6) (bq O) (bq Y)
 |.fst es,X,k,g,h=>lB
 |.Jc a T,X,k,g,h=>by
  have⟨f',as,G,rfl,A⟩:=aZ h;have⟨x,p1,rfl,B⟩:=aq A;clear h A;have⟨a',b',rfl,z4⟩:=ig B;have⟨y,p2,rfl,z3⟩:=aq z4;have h:=z3;simp only[cL,õ]at h;obtain⟨⟨⟨⟨⟨rfl,rfl⟩,J⟩,h2⟩,O⟩,Y⟩:=h;show tY g.K (dy J) (g.blt _ qv) (dy h2) (g.blt _ (yd T)) (bK a X _ g Y) (bq O)
 |.ite c a b,X,k,g,h=>by
  have⟨c',a',b',G,rfl,q⟩:=vQ h;clear h;have h:=q;simp only[cL]at h;show AD (mE c X _ g h.1.1) (bK a X _ g h.1.2) (bK b X _ g h.2)
 |.tup es,X,k,g,h=>by
  have⟨l,q0,G,rfl,q⟩:=lz h;clear h;have h:=q;show AH (jY es X _ g h)
 |.lst es,X,k,g,h=>by
  have⟨l,G,rfl,q⟩:=sd h;clear h;have h:=q;show AI (jY es X _ g h)
 |.Ji r,X,k,g,h=>by
  have⟨G,rfl⟩:=nq h;show xJ g.P g.w r
 |.idx a b,X,k,g,h=>by
  have⟨a',b',G,rfl,q⟩:=dh h;clear h;have h:=q;simp only[cL]at h;show AJ g.K g.u (qt h.1.1) (bK a X _ g h.1.2) (bK b X _ g h.2)
 |.KN a lo hi,X,k,g,h=>by
  have⟨a',b',G,rfl,A⟩:=dh h;have⟨U8,IW,p1,rfl,q⟩:=se A;clear h A;simp only[cL]at q;show AK g.K (bK a X _ g q.1.1) (FG lo X _ g q.1.2) (FG hi X _ g q.2)
 |.bi f es,X,k,g,h=>by
  have⟨f',as,G,rfl,A⟩:=aZ h;have⟨x,p1,rfl,B⟩:=aq A;have h:=B;show FD g (jY es X _ g (dU h)) h
 |.Kw f es,X,k,g,h=>by
  have⟨f',as,G,rfl,A⟩:=aZ h;have⟨x,p1,rfl,B⟩:=aq A;have⟨c,rfl,z3⟩:=ba B;have⟨g',as',p2,rfl,z4⟩:=aZ z3;have⟨y,p3,rfl,z5⟩:=aq z4;have h:=z5;show FE g (jY es X _ g (dU h)) h
 |.Mg m a es,X,k,g,h=>by
  have⟨o,name,ab,as,F',rfl,A⟩:=bJ h;have h:=A;have h':=h;simp only[cL]at h';show FF g (bK a X _ g h'.1.2) (jY es X _ g (dU h)) h
 |.call f es,X,k,g,h=>by
  have⟨f',as,G,rfl,A⟩:=aZ h;have⟨x,p1,rfl,B⟩:=aq A;have h:=B;show ye g (jY es X _ g (dU h)) h
 |.comp n t ik src cond e,X,k,g,h=>by
  have⟨elt,tg,ac,al,scope,G,rfl,q⟩:=jn h;clear h;have h:=q;simp only[cL,õ]at h;obtain⟨⟨⟨⟨⟨⟨⟨J,h2⟩,O⟩,Y⟩,L⟩,h6⟩,h7⟩,h8⟩:=h;subst J;have S:=rq (X:=X) rfl (jo _ _) h2;split at L
  .rename_i as am;have Hq:=di L;have hI:PI X tg ac (K_ C ik (bG Γ src)):=B7 g am (jY src X _ g L) (λa e=>by
    subst e;cases src with
    |nil=>simp[aY]at L
    |cons e1 HZ =>
     cases HZ with
     |nil =>
      simp only[aY,cL]at L;show⟨e1,rfl,bK e1 X _ g L.1.2⟩
     |cons _ _=>simp[aY]at L) Hq
   show xS S g.calm hI (λD s H ex=>qu (fa:=cK) g.calm g.K S.nd (λz=>nomatch z) O)
    (λD s H ex=>by
     cases al with
     |nil =>
      cases cond with
      |nil=>show λag s σ H Q I ⟨c0,e1,e2,ok,w⟩=>oB ag s σ H Q I (by subst e1 e2;rw[show aU Γ []=pure b6 from rfl,au]at w;show w c0 rfl rfl ok (Nx.refl c0))
      |cons _ _=>simp[aY]at h7
     |cons c1 cs =>
      cases cs with
      |nil =>
       cases cond with
       |nil=>simp[aY]at h7
       |cons e1 HZ =>
        cases HZ with
        |nil =>
         simp only[aY,cL]at h7;show tv (mE e1 (Iy X _ scope D s H ex) c1 (g.cx _ _ _ _ _ _) h7.1.2)
        |cons _ _=>simp[aY]at h7
      |cons _ _=>simp at h6)
    (λD s H ex=>bK e (Iy X _ scope D s H ex) elt (g.cx _ _ _ _ _ _) h8) (si Y)
  .cases L
theorem jY:∀(es:List E) (X:Cx) (a:List nz),Gd ck Γ C d X->aY ck es X.N X.env.scope a=b6->PA X a (IU C (bG Γ es))
 |[],X,a,g,h=>by
  cases a with
  |nil=>show AG
  |cons _ _=>simp[aY]at h
 |e::es,X,a,g,h=>by
  cases a with
  |nil=>simp[aY]at h
  |cons b a =>
   simp only[aY,cL]at h;show xH (bK e X b g h.1.2) (jY es X a g h.2) (bq h.1.1)
theorem FG:∀(es:List E) (X:Cx) (o:Option nz),Gd ck Γ C d X->sg ck es X.N X.env.scope o=b6->PO X o (tO C (MP Γ es))
 |[],X,o,g,h=>by
  cases o with
  |none=>show vI
  |some _=>simp[sg]at h
 |[e],X,o,g,h=>by
  cases o with
  |none=>simp[sg]at h
  |some a=>simp only[sg]at h;show vJ (bK e X a g h)
 |_::_::_,X,o,g,h=>by simp[sg]at h
theorem yf:∀(es:List E) (X:Cx) (a:List nz),Gd ck Γ C d X->aY ck es X.N X.env.scope a=b6->∀{pos},PE X (.BoolOp .And a pos) (Hn C (iI Γ es))
 |[],X,a,g,h,pos=>lB
 |[e],X,a,g,h,pos=>by
  cases a with
  |nil=>simp[aY]at h
  |cons b a =>
   cases a with
   |nil=>simp only[aY,cL]at h;show CH (bK e X b g h.1.2)
   |cons _ _=>simp[aY]at h
 |e::c::es,X,a,g,h,pos=>by
  cases a with
  |nil=>simp[aY]at h
  |cons b a =>
   have h':noStar b=b6/\bA ck e X.N X.env.scope b=b6/\aY ck (c::es) X.N X.env.scope a=b6:=by
    rw[aY]at h;simp only[cL]at h;show⟨h.1.1,h.1.2,h.2⟩
   cases a with
   |nil=>have:=h'.2.2;simp[aY]at this
   |cons f i=>show snd_and (bK e X b g h'.2.1) (yf (c::es) X _ g h'.2.2)
theorem mE:∀(e:E) (X:Cx) (j:nz),Gd ck Γ C d X->bA ck e X.N X.env.scope j=b6->PT X j (IL C (HB Γ e))
 |.and es,X,j,g,h=>by
  have⟨G,o,rfl,k⟩:=jm h;clear h;have h:=k;show(uf es X _ g h).pt
 |.or es,X,j,g,h=>by
  have⟨G,o,rfl,k⟩:=jm h;clear h;have h:=k;show(yg es X _ g h).pt
 |.not a,X,j,g,h=>by
  have⟨a',o,rfl,k⟩:=nj h;clear h;have h:=k;show AE (mE a X _ g h)
 |.cmp H a b,X,j,g,h=>by
  have⟨a',I,D,o,rfl,l⟩:=ie h;have h:=l;simp only[cL,õ,x2]at h;obtain⟨⟨⟨rfl,A⟩,q⟩,s⟩:=h;show AA g.P g.w g.K g.u (bK a X _ g q) (bK b X _ g s) A
 |.K7 o1 o2 a b c,X,j,g,h=>absurd (show cK=b6 from h) k8
 |.var i,X,j,g,h=>by
  have⟨x,o,rfl,k⟩:=aq h;simp only[cL,õ]at k;have⟨v,z⟩:=aV k.2;show j_ (oS k.1.1 (cD k.1.2) v z) g.K λ_=>rfl
 |.idx a b,X,j,g,h=>bH
 |.bi f es,X,j,g,h=>by
  have⟨f',as,o,rfl,l⟩:=aZ h;have⟨x,B,rfl,p⟩:=aq l;have h:=p;show PT.eqv (j_ (FD g (jY es X _ g (dU h)) h) g.K λ_=>rfl) λst Q w=>B8 w
 |.Kw f es,X,j,g,h=>bH
 |.Mg m a es,X,j,g,h=>bH
 |.call f es,X,j,g,h=>by
  have⟨f',as,o,rfl,l⟩:=aZ h;have⟨x,B,rfl,p⟩:=aq l;have h:=p;show PT.eqv (j_ (ye g (jY es X _ g (dU h)) h) g.K λ_=>rfl) λst Q w=>B8 w
 |.cst u,X,j,g,h=>bH
 |.fst es,X,j,g,h=>bH
 |.MN x u,X,j,g,h=>bH
 |.neg a,X,j,g,h=>bH
 |.Jc a T,X,j,g,h=>by
  have⟨f',as,o,rfl,l⟩:=aZ h;have⟨x,B,rfl,p⟩:=aq l;clear h l;have⟨a',D,rfl,J⟩:=ig p;have⟨y,p2,rfl,L⟩:=aq J;have h:=L;simp only[cL,õ]at h;obtain⟨⟨⟨⟨⟨rfl,rfl⟩,q⟩,s⟩,v⟩,z⟩:=h;show PT.eqv (j_ (tY g.K (dy q) (g.blt _ qv) (dy s) (g.blt _ (yd T)) (bK a X _ g z) (bq v)) g.K λ_=>rfl) λst Q w=>?_;have w:W (ev Γ a >>= λx=>M.HA (oQ x.2 T)) st Q:=w;simp only[ai]at w ⊢;show W.mono w λx s1 O=>?_;have⟨b,e,Y⟩:=b_.mp O;show b_.mpr ⟨b,e,au.mpr (b_.mpr ⟨b,rfl,Y⟩)⟩
 |.bad,X,j,g,h=>bH
 |.pop i,X,j,g,h=>bH
 |.LM i a,X,j,g,h=>bH
 |.Hg f es is,X,j,g,h=>bH
 |.inD neg a i,X,j,g,h=>by
  have⟨a',I,D,o,rfl,l⟩:=ie h;have⟨x,B,rfl,p⟩:=aq l;have h:=p;simp only[cL,õ,x2]at h;obtain⟨⟨⟨⟨⟨rfl,A⟩,q⟩,s⟩,v⟩,z⟩:=h;have⟨q1,q2⟩:=aV v;show AX g.u q (cD s) q1 q2 (bK a X _ g z) A
 |.NJ i,X,j,g,h=>bH
 |.LL ln a b,X,j,g,h=>bH
 |.NK i,X,j,g,h=>bH
 |.J5 i a b,X,j,g,h=>bH
 |.bin H a b,X,j,g,h=>bH
 |.ite c a b,X,j,g,h=>bH
 |.tup es,X,j,g,h=>bH
 |.lst es,X,j,g,h=>bH
 |.Ji r,X,j,g,h=>bH
 |.KN a lo hi,X,j,g,h=>bH
 |.comp n t ik src cond e,X,j,g,h=>bH
theorem uf:∀(es:List E) (X:Cx) (a:List nz),Gd ck Γ C d X->aY ck es X.N X.env.scope a=b6->∀{pos},PW X (.BoolOp .And a pos) (IL C (aU Γ es))
 |[],X,a,g,h,pos=>by
  cases a with
  |nil =>
   rintro j c s σ H Q I ⟨c0,rfl,rfl,i,w⟩;rw[show aU Γ []=pure b6 from rfl,au]at w;show ò ⟨c0.H,I,w c0 rfl rfl i (Nx.refl c0)⟩
  |cons _ _=>simp[aY]at h
 |[e],X,a,g,h,pos=>by
  cases a with
  |nil=>simp[aY]at h
  |cons b a =>
   cases a with
   |nil=>simp only[aY,cL]at h;show zC (mE e X b g h.1.2)
   |cons _ _=>simp[aY]at h
 |e::f::es,X,a,g,h,pos=>by
  cases a with
  |nil=>simp[aY]at h
  |cons b a =>
   have h':noStar b=b6/\bA ck e X.N X.env.scope b=b6/\aY ck (f::es) X.N X.env.scope a=b6:=by
    rw[aY]at h;simp only[cL]at h;show⟨h.1.1,h.1.2,h.2⟩
   cases a with
   |nil=>have:=h'.2.2;simp[aY]at this
   |cons k l=>show AF (mE e X b g h'.2.1) (uf (f::es) X _ g h'.2.2)
theorem yg:∀(es:List E) (X:Cx) (a:List nz),Gd ck Γ C d X->aY ck es X.N X.env.scope a=b6->∀{pos},PW X (.BoolOp .Or a pos) (IL C (jG Γ es))
 |[],X,a,g,h,pos=>by
  cases a with
  |nil =>
   rintro j c s σ H Q I ⟨c0,rfl,rfl,i,w⟩;rw[show jG Γ []=pure cK from rfl,au]at w;show isTrue_or_nil ⟨c0.H,I,w c0 rfl rfl i (Nx.refl c0)⟩
  |cons _ _=>simp[aY]at h
 |[e],X,a,g,h,pos=>by
  cases a with
  |nil=>simp[aY]at h
  |cons b a =>
   cases a with
   |nil=>simp only[aY,cL]at h;show CD (mE e X b g h.1.2)
   |cons _ _=>simp[aY]at h
 |e::f::es,X,a,g,h,pos=>by
  cases a with
  |nil=>simp[aY]at h
  |cons b a =>
   have h':noStar b=b6/\bA ck e X.N X.env.scope b=b6/\aY ck (f::es) X.N X.env.scope a=b6:=by
    rw[aY]at h;simp only[cL]at h;show⟨h.1.1,h.1.2,h.2⟩
   cases a with
   |nil=>have:=h'.2.2;simp[aY]at this
   |cons k l=>show Dz (mE e X b g h'.2.1) (yg (f::es) X _ g h'.2.2)
end
def G3(g:Gd ck Γ C d X)(b:U7 e=b6)(h:bA ck e X.N X.env.scope f=b6):PE X f (xV C (ev Γ e)):=by
 cases e with
 |var i =>
  have⟨x,k,rfl,a⟩:=aq h;simp only[cL,õ]at a;have⟨l,m⟩:=aV a.2;show xW a.1.1 (cD a.1.2) l m
 |cst u =>
  have⟨c,n,k,rfl,a⟩:=ij h;cases c with
  |int j=>have:=cy a;subst this;show iO rb λ_ _=>rfl
  |str y=>have:=cy a;subst this;show iO wg λ_ _=>rfl
  |bool y=>have:=cy a;subst this;show iO BS λ_ _=>rfl
  |none=>have:=cy a;subst this;show iO we λ_ _=>rfl
  |_=>cases a
 |_=>cases b
end
abbrev O_(b:ME)(x:Str)(a:Nat):nz->Bool
 |.ListComp elt gens s pos=>df (b.names.lookup x=bD .local)&&(a==pos.line)&&!(s.names.any λ(n,k)=>n==x&&(k==.local||k==.cell))
 |_=>cK
abbrev nv(s:Nb)(k:nz->Bool):Bool:=match s with|.Expr e _=>k e|_=>cK
def fw(h:nv s k=b6):∃e p,s=.Expr e p/\k e=b6:=by
 unfold nv at h;split at h
 .show⟨_,_,rfl,h⟩
 .cases h
abbrev lC(s:Nb)(k:nz->nz->Bool):Bool:=match s with|.Assign a v _=>dE a λt=>k t v|_=>cK
def dW(h:lC s k=b6):∃t v p,s=.Assign [t] v p/\k t v=b6:=by
 unfold lC at h;split at h
 .have⟨t,rfl,a⟩:=ba h;show⟨_,_,_,rfl,h⟩
 .cases h
abbrev sj(e:nz)(k:nz->nz->nz->ME->Bool):Bool:=match e with
 |.ListComp elt gens scope _=>dE gens λg=>match g with
  |⟨b,a,[],0⟩=>k elt b a scope
  |_=>cK
 |_=>cK
def qw(h:sj e k=b6):∃elt c a scope p,e=.ListComp elt [⟨c,a,[],0⟩] scope p/\k elt c a scope=b6:=by
 unfold sj at h;split at h
 .have⟨g,rfl,b⟩:=ba h;split at b
  .show⟨_,_,_,_,_,rfl,b⟩
  .cases b
 .cases h
abbrev Bg(e:nz)(k:Str->Pos->Bool):Bool:=match e with|.Name x p=>k x p|_=>cK
def ny(h:Bg e k=b6):∃x p,e=.Name x p/\k x p=b6:=by
 unfold Bg at h;split at h
 .show⟨_,_,rfl,h⟩
 .cases h
abbrev ug(s:Nb)(k:nz->Zv->nz->Bool):Bool:=match s with|.AugAssign t a b _=>k t a b|_=>cK
def lD(h:ug s k=b6):∃t a b p,s=.AugAssign t a b p/\k t a b=b6:=by
 unfold ug at h;split at h
 .show⟨_,_,_,_,rfl,h⟩
 .cases h
abbrev qx(s:Nb)(k:Option nz->Bool):Bool:=match s with|.Return v _=>k v|_=>cK
def il(h:qx s k=b6):∃v p,s=.Return v p/\k v=b6:=by
 unfold qx at h;split at h
 .show⟨_,_,rfl,h⟩
 .cases h
abbrev D8(v:Option nz)(k:nz->Bool):Bool:=match v with|some e=>k e|none=>cK
def nA(h:D8 v k=b6):∃e,v=bD e/\k e=b6:=by
 cases v with
 |none=>cases h
 |some e=>show⟨e,rfl,h⟩
abbrev yh(s:Nb)(k:nz->List Nb->List Nb->Bool):Bool:=match s with|.If c a b _=>k c a b|_=>cK
def sk(h:yh s k=b6):∃c a b p,s=.If c a b p/\k c a b=b6:=by
 unfold yh at h;split at h
 .show⟨_,_,_,_,rfl,h⟩
 .cases h
abbrev yi(s:Nb)(k:nz->nz->List Nb->Bool):Bool:=match s with|.For t i b o _=>o.isEmpty&&k t i b|_=>cK
def sm(h:yi s k=b6):∃t i b p,s=.For t i b [] p/\k t i b=b6:=by
 unfold yi at h;split at h
 .rw[cL,IA]at h;have⟨rfl,h⟩:=h;show⟨_,_,_,_,rfl,h⟩
 .cases h
abbrev D9(s:Nb)(k:nz->List Nb->Bool):Bool:=match s with|.While c b o _=>o.isEmpty&&k c b|_=>cK
def vR(h:D9 s k=b6):∃c b p,s=.While c b [] p/\k c b=b6:=by
 unfold D9 at h;split at h
 .rw[cL,IA]at h;have⟨rfl,h⟩:=h;show⟨_,_,_,rfl,h⟩
 .cases h
mutual
noncomputable def D_(k:Ck):S->List Str->ME->Nb->Bool
 |.set i e,N,d,s=>lC s λt v=>Bg t λx p=>df (N[i]?=bD x)&&mD d x&&df (d.kind=.function)&&bA k e N d v&&(dM v||O_ d x p.line v||(match v with|.ListComp _ _ _ _=>b6|_=>cK))&&(match e with|.comp _ _ _ _ _ _=>b6|_=>dM v)
 |.J6 is e,N,d,s=>lC s λt v=>ue t λ_=>M7 b6 N d b6 is t&&dM v&&DZ v&&bA k e N d v
 |.put i a b,N,d,s=>lC s λt j=>jK t λo a'=>a_ o λx=>df (N[i]?=bD x)&&gG d x&&bP x&&dM j&&eB a'&&bA k a N d a'&&bA k b N d j
 |.app i e,N,d,s=>nv s λc=>eF c λo m f as l=>a_ o λx=>dE as λa=>df (m="append")&&df (N[i]?=bD x)&&gG d x&&bP x&&(f.endLine==l.line)&&noStar a&&bA k e N d a
 |.ext i e,N,d,s=>nv s λc=>eF c λo m f as l=>a_ o λx=>dE as λa=>df (m="extend")&&df (N[i]?=bD x)&&gG d x&&bP x&&(f.endLine==l.line)&&noStar a&&bA k e N d a
 |.bad,_,_,_=>b6
 |.newD i,N,d,s=>lC s λt v=>a_ t λx=>A9 v&&df (N[i]?=bD x)&&mD d x
 |.putD i a b,N,d,s=>lC s λt j=>jK t λo a'=>a_ o λx=>df (N[i]?=bD x)&&gG d x&&bP x&&dM j&&eB a'&&bA k a N d a'&&bA k b N d j
 |.Jj i a e,N,d,s=>nv s λc=>eF c λo m f as l=>jK o λo' a'=>a_ o' λx=>dE as λb=>df (m="append")&&df (N[i]?=bD x)&&gG d x&&bP x&&eB a'&&(f.endLine==l.line)&&noStar b&&bA k a N d a'&&bA k e N d b
 |.aug sub i a e,N,d,s=>ug s λt r b=>jK t λo a'=>a_ o λx=>df (r=if sub=b6 then .Sub else .Add)&&df (N[i]?=bD x)&&gG d x&&bP x&&eB a'&&bA k a N d a'&&bA k e N d b&&U7 e
 |.Qe _,_,_,_=>cK
 |.exp e,N,d,s=>nv s λq=>dM q&&bA k e N d q
 |.ret e,N,d,s=>qx s λv=>D8 v λq=>bA k e N d q
 |.J7 i e,N,d,s=>qx s λy=>D8 y λv=>sj v λelt h g scope=>eF g λo m f as l=>a_ o λx=>as.isEmpty&&df (m="items")&&df (N[i]?=bD x)&&gG d x&&bP x&&(f.endLine==l.line)&&isTup h&&df ((c_ h).length=2) &&
   Ab (c_ h++hide (c_ h) N) (c_ h) scope d.names&&M7 b6 (c_ h++hide (c_ h) N) (ya scope d) cK (ix 2) h&&bA k e (c_ h++hide (c_ h) N) (ya scope d) elt
 |.inc i n,N,d,s=>ug s λt r b=>Bg t λx _=>ud b λc=>df (r=.Add)&&df (N[i]?=bD x)&&mD d x&&df (c=.int n)
 |.Kx,N,d,s=>qx s λv=>v.isNone
 |.ite c a b,N,d,s=>yh s λu a' j=>bA k c N d u&&dX k a N d a'&&dX k b N d j
 |.Hy t is ik src body,N,d,s=>yi s λh g w=>M7 t N d b6 is h&&r9 g&&(match fV d h ik g with
    |some as=>aY k src N d as
    |none=>cK)&&dX k body N d w
 |.Lu c body,N,d,s=>D9 s λu w=>bA k c N d u&&dX k body N d w
 |.brk,_,_,_=>cK
 |.cnt,_,_,_=>cK
 |.KO _,_,_,_=>cK
 |.Qf,_,_,_=>cK
noncomputable def dX(k:Ck):List S->List Str->ME->List Nb->Bool
 |[],_,_,a=>a.isEmpty
 |s::ss,N,b,a=>match a with
  |s'::a=>D_ k s N b s'&&dX k ss N b a
  |[]=>cK
end
section
variable{ck:Ck}{Γ:Tab}{C:Ct}{d:Nat}{X:Cx}
def o_(h:mD a x=b6):Loc a x:=by
 unfold mD at h;simp only[Lp,õ]at h;show h
def iP(h:dM v=b6):Qi v t a env=pure cK:=by
 cases v<;>first|rfl|cases h
def pb(h:dM v=b6):Qx [t] v a env=pure cK:=by
 rw[Qx];show iP h
def Bh(h:eB i=b6):∀a b new,ë i a b new=(do Mr [new,a,b] (SH a b new);VF [new,a,b] [];pure .next):=by
 intro a b new;cases i<;>first|rfl|cases h
def uh(h:eB i=b6):∀v,Rf (.Subscript o i p) env v=(do
   let a <-Mr [v] (HD o env)
   let b <-Mr [v,a] (HD i env)
   XO p
   Mr [v,a,b] (SH a b v)
   VF [v,a,b] []):=by
 intro v;cases i<;>first|rfl|cases h
structure Gs(ck:Ck)(Γ:Tab)(C:Ct)(d:Nat)(X:Cx):Prop where
 gd:Gd ck Γ C d X
 nd:X.N.Nodup
 fn:∀x,X.fn x=b6
 po:WK (hW X.prog X.w) X.A X.env X.xe
 kd:X.env.scope.kind=.function
def ui(g:Gd ck Γ C d X)(h:(match fV X.env.scope i ik b with|some as=>aY ck src X.N X.env.scope as|none=>cK)=b6):PI X i b (K_ C ik (bG Γ src)):=by
 split at h
 .rename_i as c;show B7 g c (jY src X _ g h) (λa e=>by
   subst e;cases src with
   |nil=>simp[aY]at h
   |cons f j =>
    cases j with
    |nil =>
     simp only[aY,cL]at h;show⟨f,rfl,bK f X _ g h.1.2⟩
    |cons _ _=>simp[aY]at h) (di h)
 .cases h
def lE{pos p a:Pos}(hk:X.env.scope.kind=.function):Qi (.ListComp elt gens s pos) (bD (.Name x p)) a.line X.env=pure (O_ X.env.scope x p.line (.ListComp elt gens s pos)):=by
 have b:X.env.blockKind=.function:=by
  unfold Env.blockKind;rw[hk];rfl
 change(pure (X.env.blockKind==.function&&X.env.kindOf x==bD .local&&p.line==pos.line&&!(s.names.any λ(n,k)=>n==x&&(k==.local||k==.cell))):Sem Bool)=_;rw[b];unfold O_;congr 1
 have:(X.env.kindOf x==bD NameKind.local)=df (X.env.scope.names.lookup x=bD .local):=by
  unfold Env.kindOf;rw[JB];simp
 rw[this];rfl
def Ea{src cond:List E}(G:Gs ck Γ C d X)(m:X.N[i]?=bD x)(y:mD X.env.scope x=b6)
  (h:bA ck (.comp n t ik src cond e) X.N X.env.scope (.ListComp elt [⟨o,a,b,0⟩] scope pos)=b6) (ns:Nat->Bool) (q:∀j,ns j=b6->j≠i) :
  L2.PS X (.Assign [.Name x p] (.ListComp elt [⟨o,a,b,0⟩] scope pos) Kp) (Iu C ns (ev Γ (.comp n t ik src cond e) >>= λr=>eQ i r >>= λ_=>pure .nx)):=by
 have g:=G.gd;have u:=bK (.comp n t ik src cond e) X _ g h;cases k:O_ X.env.scope x p.line (.ListComp elt [⟨o,a,b,0⟩] scope pos) with
 |false=>show B4 q G.nd m (o_ y) (.inl (G.fn x)) u (by rw[lE G.kd,k])
 |true =>
  have hl:X.env.scope.names.lookup x=bD .local:=by
   simp only[O_,cL,õ]at k;show k.1.1
  have⟨XD,YK,U9,XE,Td,p',A,v⟩:=jn h;cases A;clear h u;simp only[cL,õ]at v;obtain⟨⟨⟨⟨⟨⟨⟨B,J⟩,L⟩,O⟩,T⟩,Y⟩,c⟩,h8⟩:=v;subst B;have S:=rq (X:=X) rfl (jo _ _) J;show DR q S g.calm G.nd m hl (ui g T) (λD s H ex=>qu (fa:=cK) g.calm g.K S.nd (λz=>nomatch z) L)
   (λD s H ex=>by
    cases b with
    |nil =>
     cases cond with
     |nil=>show λf s σ H Q I ⟨c0,l,e2,ok,w⟩=>oB f s σ H Q I (by subst l e2;rw[show aU Γ []=pure b6 from rfl,au]at w;show w c0 rfl rfl ok (Nx.refl c0))
     |cons _ _=>simp[aY]at c
    |cons c1 cs =>
     cases cs with
     |nil =>
      cases cond with
      |nil=>simp[aY]at c
      |cons l HZ =>
       cases HZ with
       |nil =>
        simp only[aY,cL]at c;show tv (mE l (Iy X _ scope D s H ex) c1 (g.cx _ _ _ _ _ _) c.1.2)
       |cons _ _=>simp[aY]at c
     |cons _ _=>simp at Y)
   (λD s H ex=>bK e (Iy X _ scope D s H ex) elt (g.cx _ _ _ _ _ _) h8) (by rw[lE G.kd,k]) (si O)
def Bi(G:Gs ck Γ C d X)(h:D_ ck (.inc i n) X.N X.env.scope s'=b6):L2.PS X s' (Iu C (Qg (.inc i n)) (exec Γ (.inc i n))):=by
 have⟨t,m,b,p,rfl,e⟩:=lD h;have⟨x,o,rfl,f⟩:=ny e;have⟨c,q,r,rfl,a⟩:=ij f;simp only[cL,õ]at a;obtain⟨⟨⟨rfl,g⟩,k⟩,rfl⟩:=a;show Fv (λj l=>û (show df (j≠i)=b6 from l)) G.nd g (o_ k) (.inl (G.fn x))
mutual
theorem G4:∀(s:S) (X:Cx) (s':Nb),Gs ck Γ C d X->D_ ck s X.N X.env.scope s'=b6->L2.PS X s' (Iu C (Qg s) (exec Γ s))
 |.set i e,X,s',G,h=>by
  have⟨t,v,p1,rfl,f⟩:=dW h;have⟨x,p,rfl,k⟩:=ny f;clear h f;have h:=k;simp only[cL,õ]at h;obtain⟨⟨⟨⟨⟨q,r⟩,A⟩,l⟩,B⟩,y⟩:=h;have IS:∀j,Qg (.set i e) j=b6->j≠i:=λj O=>û (show df (j≠i)=b6 from O);by_cases hc:dM v=b6
  .show B4 IS G.nd q (o_ r) (.inl (G.fn x)) (bK e X v G.gd l) (iP hc)
  .cases e with
   |comp n t ik src cond e =>
    obtain⟨elt,tg,ab,ag,scope,p3,rfl,_⟩:=jn l;show Ea G q r l _ IS
   |_=>show absurd y hc
 |.J6 is e,X,s',G,h=>by
  have⟨t,v,p1,rfl,f⟩:=dW h;have⟨es,kk,p,rfl,k⟩:=lz f;clear h f;have h:=k;simp only[cL]at h;obtain⟨⟨⟨q,r⟩,A⟩,l⟩:=h;show DS (λj O=>û (show df (j∉is)=b6 from O)) (bK e X v G.gd l) (qu (fa:=b6) G.gd.calm G.gd.K G.nd (λ_=>G.fn) q) (pb r) ?_ rfl;cases v<;>first|rfl|cases A
 |.put i a b,X,s',G,h=>by
  have⟨t,v,p,rfl,f⟩:=dW h;have⟨o,a',p1,rfl,k⟩:=dh f;have⟨x,px,rfl,J⟩:=aq k;simp only[cL,õ]at J;obtain⟨⟨⟨⟨⟨⟨q,r⟩,A⟩,l⟩,B⟩,y⟩,h7⟩:=J;have⟨Q,T⟩:=aV A;show Fu G.gd.P G.gd.w G.gd.K G.gd.u q (cD r) Q T (bK b X _ G.gd h7) (bK a X _ G.gd y) (pb l) rfl (uh B)
 |.app i e,X,s',G,h=>by
  have⟨c,p0,rfl,f⟩:=fw h;have⟨o,m,Y,as,F',rfl,k⟩:=bJ f;have⟨x,px,rfl,J⟩:=aq k;have⟨a,rfl,z4⟩:=ba J;simp only[cL,õ]at z4;obtain⟨⟨⟨⟨⟨⟨rfl,q⟩,r⟩,A⟩,l⟩,B⟩,y⟩:=z4;have⟨Q,T⟩:=aV A;have st:=bq (env:=X.env) (es:=[]) B;have sa:=(bB (pos:=F') (env:=X.env) (es:=[a]) λe he=>by simp at he;subst he;show B).2;show Fs G.gd.K q (cD r) Q T (bK e X _ G.gd y) ?_ l st;rw[sa];rfl
 |.ext i e,X,s',G,h=>by
  have⟨c,p0,rfl,f⟩:=fw h;have⟨o,m,Y,as,F',rfl,k⟩:=bJ f;have⟨x,px,rfl,J⟩:=aq k;have⟨a,rfl,z4⟩:=ba J;simp only[cL,õ]at z4;obtain⟨⟨⟨⟨⟨⟨rfl,q⟩,r⟩,A⟩,l⟩,B⟩,y⟩:=z4;have⟨Q,T⟩:=aV A;have st:=bq (env:=X.env) (es:=[]) B;have sa:=(bB (pos:=F') (env:=X.env) (es:=[a]) λe he=>by simp at he;subst he;show B).2;show Ft G.gd.K q (cD r) Q T (bK e X _ G.gd y) ?_ l st;rw[sa];rfl
 |.bad,X,s',G,h=>λac sh σ H D I ⟨_,_,_,_,w⟩=>(bt.mp w).elim
 |.newD i,X,s',G,h=>by
  have⟨t,v,p1,rfl,f⟩:=dW h;have⟨x,p,rfl,k⟩:=aq f;clear h f;have h:=k;simp only[cL,õ]at h;have⟨p2,rfl⟩:=nq h.1.1;show DU (λj O=>û (show df (j≠i)=b6 from O)) G.nd h.1.2 (o_ h.2) (.inl (G.fn _)) (iP rfl)
 |.putD i a b,X,s',G,h=>by
  have⟨t,v,p,rfl,f⟩:=dW h;have⟨o,a',p1,rfl,k⟩:=dh f;have⟨x,px,rfl,J⟩:=aq k;simp only[cL,õ]at J;obtain⟨⟨⟨⟨⟨⟨q,r⟩,A⟩,l⟩,B⟩,y⟩,h7⟩:=J;have⟨Q,T⟩:=aV A;show DV G.gd.u q (cD r) Q T (bK b X _ G.gd h7) (bK a X _ G.gd y) (pb l) rfl (uh B)
 |.Jj i a e,X,s',G,h=>by
  have⟨c,p0,rfl,f⟩:=fw h;have⟨o,m,Y,as,F',rfl,k⟩:=bJ f;have⟨o',a',p1,rfl,J⟩:=dh k;have⟨x,px,rfl,z4⟩:=aq J;have⟨b,rfl,z5⟩:=ba z4;simp only[cL,õ]at z5;obtain⟨⟨⟨⟨⟨⟨⟨⟨rfl,q⟩,r⟩,A⟩,l⟩,B⟩,y⟩,h7⟩,h8⟩:=z5;have ha:=bK e X _ G.gd h8;have⟨Q,T⟩:=aV A;have st:=bq (env:=X.env) (es:=[]) y;have sa:=(bB (pos:=F') (env:=X.env) (es:=[b]) λe he=>by simp at he;subst he;show y).2;show DW G.gd.K G.gd.u q (cD r) Q T ha (bK a X _ G.gd h7) (qt l) ?_ B st;rw[sa];rfl
 |.aug sub i a e,X,s',G,h=>by
  have⟨t,op,b,p,rfl,L⟩:=lD h;clear h;have h:=L;have⟨o,a',p1,rfl,f⟩:=dh h;have⟨x,px,rfl,k⟩:=aq f;simp only[cL,õ]at k;obtain⟨⟨⟨⟨⟨⟨⟨rfl,q⟩,r⟩,A⟩,l⟩,B⟩,y⟩,h7⟩:=k;have ha:=G3 (C:=C) (Γ:=Γ) (d:=d) (ck:=ck) G.gd h7 y;have⟨Q,T⟩:=aV A;show Fy q (cD r) Q T ha (bK a X _ G.gd B) (Bh l)
 |.Qe i,X,s',G,h=>absurd (show cK=b6 from h) k8
 |.exp e,X,s',G,h=>by
  have⟨e',p,rfl,L⟩:=fw h;clear h;have h:=L;simp only[cL]at h;show Fj (bK e X _ G.gd h.2) (iP h.1)
 |.ret e,X,s',G,h=>by
  have⟨v,p,rfl,L⟩:=il h;have⟨e',rfl,f⟩:=nA L;clear h L;have h:=f;show Fm (bK e X _ G.gd h)
 |.J7 i e,X,s',G,h=>by
  have g:=G.gd;have⟨v0,p0,rfl,y0⟩:=il h;have⟨v,rfl,y1⟩:=nA y0;clear h y0;have h:=y1;have⟨elt,tg,ab,scope,p,rfl,f⟩:=qw h;have⟨o,m,Y,as,F',rfl,k⟩:=bJ f;have⟨x,px,rfl,J⟩:=aq k;simp only[cL,õ,IA]at J;obtain⟨⟨⟨⟨⟨⟨⟨⟨⟨⟨rfl,rfl⟩,q⟩,r⟩,A⟩,l⟩,B⟩,y⟩,h7⟩,h8⟩,h9⟩:=J;cases tg with
  |Tuple es kx ps =>
   have⟨Q,T⟩:=aV A;have S:=rq (X:=X) rfl (jo _ _) h7;rw[<-y]at h8;show DX q (cD r) Q T l S g.calm y (λD s H ex=>qu (fa:=cK) g.calm g.K S.nd (λz=>nomatch z) h8) (λD s H ex=>bK e _ _ (g.cx _ _ _ _ _ _) h9)
  |_=>cases B
 |.Kx,X,s',G,h=>by
  have⟨v,p,rfl,L⟩:=il h;cases v with
  |none=>show DQ
  |some _=>cases L
 |.ite c a b,X,s',G,h=>by
  have⟨c',a',b',p,rfl,L⟩:=sk h;clear h;have h:=L;simp only[cL]at h;have ha:=lF a X _ G h.1.2;have hb:=lF b X _ G h.2;show Fo (mE c X _ G.gd h.1.1) (IE.weak ha λD σ H z=>oW (λj O=>(IH.mp (show(Jr a j&&Jr b j)=b6 from O)).1) z) (IE.weak hb λD σ H z=>oW (λj O=>(IH.mp (show(Jr a j&&Jr b j)=b6 from O)).2) z)
 |.Hy t is ik src body,X,s',G,h=>by
  have⟨tg,ab,JM,p,rfl,L⟩:=sm h;clear h;have h:=L;rw[cL,cL,cL]at h;show Fq G.po G.gd.calm (ui G.gd h.1.2) (qu (fa:=b6) G.gd.calm G.gd.K G.nd (λ_=>G.fn) h.1.1.1) (lF body X _ G h.2) (si h.1.1.2) λj O=>by have O:(df (j∉is)&&Jr body j)=b6:=O;simpa using O
 |.Lu c body,X,s',G,h=>by
  have⟨c',JM,p,rfl,L⟩:=vR h;clear h;have h:=L;simp only[cL]at h;show Fp G.po (mE c X _ G.gd h.1) (lF body X _ G h.2)
 |.brk,X,s',G,h=>absurd (show cK=b6 from h) k8
 |.cnt,X,s',G,h=>absurd (show cK=b6 from h) k8
 |.KO is,X,s',G,h=>absurd (show cK=b6 from h) k8
 |.inc i n,X,s',G,h=>Bi G h
 |.Qf,X,s',G,h=>absurd (show cK=b6 from h) k8
theorem lF:∀(ss:List S) (X:Cx) (a:List Nb),Gs ck Γ C d X->dX ck ss X.N X.env.scope a=b6->IE X a (Iu C (Jr ss) (execs Γ ss))
 |[],X,a,G,h=>by
  cases a with
  |nil=>show Fi
  |cons _ _=>simp[dX]at h
 |s::ss,X,a,G,h=>by
  cases a with
  |nil=>simp[dX]at h
  |cons s' a =>
   simp only[dX,cL]at h;have c:=G4 s X s' G h.1;have e:=lF ss X a G h.2;show DP (PS.weak c λD σ H z=>oW (λj b=>by simp only[Jr,cL]at b;show b.1) z) (IE.weak e λD σ H z=>oW (λj b=>by simp only[Jr,cL]at b;show b.2) z)
end
end
section
variable{ck:Ck}{Γ:Tab}{d:Nat}{P:Hr}{w:IT}{K:PySem.W.Frag}{mg:Str->Option et}{base:J3}
def jq{n i:Nat}(h:(start us n)[i]?=bD (bD (k,u))):us[i]?=bD u/\k=if HG u=b6 then .loc else .any:=by
 unfold start at h;by_cases a:i<us.length
 .rw[vl (by simpa using a),ko]at h;rw[ri a]at h ⊢;simp only[RH,P4,Wl]at h;have⟨b,c⟩:=h;subst c;show⟨rfl,b.symm⟩
 .rw[rr (by simp;lia),Km]at h;split at h<;>cases h
def dm{i:Nat}(h:vs[i]?=bD v):(L2.start N vs)[i]?=bD (bD v):=by
 unfold L2.start;have a:i<vs.length:=(eh.mp h).1;rw[vl (by simpa using a),ko,h];rfl
def yj(p:∀a,c a->JT H a)(h:ak (Lv P w K H c) c H us vs)(q:N.length=n):Ok (Lv P w K H c) ⟨λ_=>False,H,L2.start N vs,start us n,λ_=>[]⟩:=by
 have f:∀(j:Nat) (u:U),(start us n)[j]?≠bD (bD (.G',u)):=λj u e=>by
  have:=(jq e).2;split at this<;>cases this
 show⟨λa o e _=>e,λa z=>z.elim,λa z=>⟨p a z,λz=>z⟩,λa z=>z.elim,?_,λi k u e=>?_,λi j k k' u u' r hk t g m x y=>?_,⟨λj u r e _=>(f j u e).elim,λi j a ⟨u,_,e,_⟩=>(f i u e).elim,λj a ⟨u,_,e,_⟩=>(f j u e).elim⟩⟩
 .have:=h.len;simp[start,L2.start,q];lia
 .have⟨g,m⟩:=jq e;have⟨v,ev,b⟩:=h.get g;show⟨v,dm ev,?_⟩;subst m;by_cases l:HG u=b6
  .rw[ö l];show Rep.HG l b
  .rw[ø l];show Rep.mv (.up λa z=>.inl z) b
 .obtain⟨_,s⟩:=jq g;subst s;split at hk<;>cases hk
def pd(h:dJ Γ fn us=bD (.ok (k,u))):us.length=fn.np/\((k=.own\/k=.loc\/k=.any)/\(∃st',execs Γ fn.body (start us fn.ns)=bD (.ok (.rt k u),st'))\/(k=.loc/\u=.Hj/\∃st',execs Γ fn.body (start us fn.ns)=bD (.ok .nx,st'))):=by
 unfold dJ at h;split at h
 .rename_i hl;show⟨hl,?_⟩;split at h
  .rename_i e;cases h;show .inl ⟨.inl rfl,_,e⟩
  .rename_i e;cases h;show .inl ⟨.inr (.inl rfl),_,e⟩
  .rename_i e;cases h;show .inl ⟨.inr (.inr rfl),_,e⟩
  .rename_i e;cases h;show .inr ⟨rfl,rfl,_,e⟩
  .cases h
  .cases h
 .cases h
def B9{st:Nb}(F:L0 K fn.name i st f J)(S:d_ N ps (aT st))(L:N.length=fn.ns)(O:ps.length=fn.np)
  (T:dX ck fn.body N (aT st) (cV st)=b6) (q:∀x∈bT,mg x=cb) (t:∀g∈ck.fns,A_ P w K mg base d (Γ g) g)
  (Y:∀p∈ck.gl,∃b v,mg p.1=bD b/\RelV v b/\∀(C:Ct) S H,Rep C S H p.2 v) (JE:∀p∈ck.JE,Ba P w K mg base d (Γ p.1) p.1 p.2):kJ P w K mg base KD (d+1) f J ps (spT P w K (dJ Γ fn) fn.np):=by
 show F.ok S (λvs H Q E h=>h.1.trans O.symm) (λB A outer s H vs Q E D h=>?_);have⟨hl,us,k,u,m,H9,hk,XF,y,j⟩:=h;have NM:=D.un;have G:Gs ck Γ (Lv P w K H m) d (pL KD P w K mg base N i (aT st) f B A outer s H E).Nl :=
  ⟨⟨rfl,rfl,rfl,by change(A.deeper (Ta i (aT st) s.heap.objs.size f B)).units+60<Lk;lia,rfl,D,q,t,λp hp=>let ⟨b,v,q1,q2,q3⟩:=Y p hp;⟨b,v,q1,q2,q3 _⟩,JE⟩,S.nd,λ_=>rfl,Yf,S.kind⟩
 show⟨_,lF fn.body _ _ G T,⟨λ_=>False,H,L2.start N vs,start us fn.ns,λ_=>[]⟩,rfl,rfl,yj XF y L,?_⟩;obtain⟨_,Te⟩:=pd H9;have I:∀(c:Cf),Ok (Lv P w K H m) c->∀v,DO (Lv P w K H m) c k u v->Back (Lv P w K H m) H c.H c.S k u v:=λc l v r=>by
  show⟨λa o e=>l.same a o e λz=>z,λa z=>l.JD a z,λe=>?_,λe=>?_,λe=>?_⟩
  .subst e;have⟨r0,e,h1,h2,h3,h4⟩:=r;show⟨r0,e,h1,h2,h4⟩
  .subst e;show r
  .subst e;show r
 rcases Te with⟨_,st',e⟩|⟨rfl,rfl,st',e⟩
 .show⟨_,st',e,λc ec l n kp v r=>j v c.H c.S (I c l v r)⟩
 .show⟨_,st',e,λc ec l n kp=>j .Hj c.H c.S (I c l .Hj rfl)⟩
def ip(h:(cX is us n)[i]?=bD (bD (k,u))):us[i]?=bD u/\k=if i∈is then .io else if HG u=b6 then .loc else .any:=by
 unfold cX at h;by_cases a:i<us.length
 .rw[vl (by simpa using a),ko,Sy]at h;rw[ri a]at h ⊢;simp only[RH,P4,Wl,OR]at h;have⟨b,c⟩:=h;subst c;show⟨rfl,b.symm⟩
 .rw[rr (by simp;lia),Km]at h;split at h<;>cases h
def vS(a:DY C C.H₀ is us vs)(s:N.length=n):Ok C ⟨λ_=>False,C.H₀,L2.start N vs,cX is us n,λ_=>[]⟩:=by
 have g:∀(j:Nat) (u:U),(cX is us n)[j]?≠bD (bD (.G',u)):=λj u e=>by
  have:=(ip e).2;split at this
  .cases this
  .split at this<;>cases this
 have rt:∀(j:Nat) (k:Kd) (u:U),k.root=b6->(cX is us n)[j]?=bD (bD (k,u))->j∈is/\us[j]?=bD u:=λj k u hk e=>by
  have⟨f,b⟩:=ip e;show⟨?_,f⟩;by_cases z:j∈is
  .show z
  .rw[ø z]at b;subst b;split at hk<;>cases hk
 show⟨λa o e _=>e,λa z=>z.elim,λx z=>a.par x z,λx z=>⟨a.U4 x z,a.U4 x z⟩,?_,λi k u e=>?_,λi j k k' u u' r hk t f b l m=>?_,⟨λj u r e _=>(g j u e).elim,λi j a ⟨u,_,e,_⟩=>(g i u e).elim,λj a ⟨u,_,e,_⟩=>(g j u e).elim⟩⟩
 .have:=a.len;simp[cX,L2.start,s];lia
 .have⟨f,b⟩:=ip e;by_cases z:i∈is
  .rw[ö z]at b;subst b;have⟨r,b1,c,b3⟩:=a.io i u z f;show⟨_,dm b1,r,rfl,λz=>z,λz=>(a.par r z).2 c,c,b3⟩
  .rw[ø z]at b;have⟨v,b1,c⟩:=a.any i u z f;show⟨v,dm b1,?_⟩;subst b;by_cases h:HG u=b6
   .rw[ö h];show Rep.HG h c
   .rw[ø h];show Rep.mv (.up λa z=>.inl z) c
 .have⟨p,y⟩:=rt i k u hk f;have⟨q,A⟩:=rt j k' u' t b;obtain⟨B,b1,_⟩:=a.io i u p y;obtain⟨D,c,_⟩:=a.io j u' q A;rw[dm b1]at l;rw[dm c]at m;cases l;cases m;show a.inj i j _ p q b1 c
theorem uj:∀{is:List Nat}{st:aw}{ws:List U},MQ is st=bD ws->ws.length=is.length/\∀(n i:Nat),is[n]?=bD i->∃w,ws[n]?=bD w/\st[i]?=bD (bD (.io,w))
 |[],_,_,h=>by cases h;show⟨rfl,λn i e=>by simp at e⟩
 |i::is,st,ws,h=>by
  unfold MQ at h;split at h
  .rename_i u c;rw[hA]at h;have⟨ws',h,rfl⟩:=h;have⟨a,b⟩:=uj h;show⟨by simp[a],λn j e=>?_⟩;cases n with
   |zero=>simp at e;subst e;show⟨u,rfl,c⟩
   |succ n=>have⟨w,f,g⟩:=b n j (by simpa using e);show⟨w,by simpa using f,g⟩
  .cases h
def um(h:ic Γ fn is body us=bD (.ok r)):us.length=fn.np/\∃f st k u ws,execs Γ body (cX is us fn.ns)=bD (.ok f,st)/\Qh f=bD (k,u)/\MQ is st=bD ws/\r=(k,.tup (u::ws)):=by
 unfold ic at h;split at h
 .rename_i hl;show⟨hl,?_⟩;split at h
  .rename_i f st e;obtain⟨⟨k,u⟩,a,h⟩:=r6.mp h;rw[hA]at h;have⟨ws,b,c⟩:=h;cases c;show⟨f,st,k,u,ws,e,a,b,rfl⟩
  .cases h
 .cases h
def Eb{st:Nb}(F:L0 K fn.name j st f fd)(S:d_ N ps (aT st))(hN:N.length=fn.ns)(JR:ps.length=fn.np)(IS:∀i∈is,Jr body i=b6)
  (M9:dX ck body N (aT st) (cV st)=b6) (B:∀x∈bT,mg x=cb) (D:∀g∈ck.fns,A_ P w K mg base d (Γ g) g)
  (Ky:∀p∈ck.gl,∃b v,mg p.1=bD b/\RelV v b/\∀(C:Ct) S H,Rep C S H p.2 v) (JE:∀p∈ck.JE,Ba P w K mg base d (Γ p.1) p.1 p.2):kJ P w K mg base KD (d+1) f fd ps (Qr P w K (ic Γ fn is body) fn.np is):=by
 show F.ok S (λvs H Q E h=>h.1.trans JR.symm) (λL A outer s H vs Q E O h=>?_);have⟨hl,us,k,u,ws,o,IO,H9,hk,I,l⟩:=h;have NM:=O.un;have G:Gs ck Γ (Le P w K H o IO) d (pL KD P w K mg base N j (aT st) f L A outer s H E).Nl :=
  ⟨⟨rfl,rfl,rfl,by change(A.deeper (Ta j (aT st) s.heap.objs.size f L)).units+60<Lk;lia,rfl,O,B,D,λp hp=>let ⟨b,v,q1,q2,q3⟩:=Ky p hp;⟨b,v,q1,q2,q3 _⟩,JE⟩,S.nd,λ_=>rfl,Yf,S.kind⟩
 show⟨_,lF body _ _ G M9,⟨λ_=>False,H,L2.start N vs,cX is us fn.ns,λ_=>[]⟩,rfl,rfl,vS (C:=Le P w K H o IO) I hN,?_⟩;obtain⟨_,T,st',k',u',ws',e,q,e2,e3⟩:=um H9;cases e3;have⟨l1,l2⟩:=uj e2;have Y:∀(c:Cf),c.st=st'->Ok (Le P w K H o IO) c->Kept (Jr body) ⟨λ_=>False,H,L2.start N vs,cX is us fn.ns,λ_=>[]⟩ c->∀v,DO (Le P w K H o IO) c k u v->B6 (Le P w K H o IO) H c.H c.S is vs ws k u v:=λc t m y v r=>by
  show⟨m.same,λa z=>m.JD a z,λe=>?_,λe=>?_,l1,λn i r w g1 g2 g3=>?_⟩
  .subst e;have⟨r0,e,h1,h2,h3,h4⟩:=r;show⟨r0,e,h1,h2,h4⟩
  .subst e;show r
  .have⟨w',z1,z2⟩:=l2 n i g1;rw[g3]at z1;cases z1;rw[<-t]at z2;obtain⟨v',J,r',y2,_,_,_,y3⟩:=m.sl i _ _ z2;have hi:i∈is:=oT g1;rw[y.1 i (IS i hi)]at J;rw[show(L2.start N vs)[i]?=bD (bD (.ref r)) from dm g2]at J;cases J;cases y2;show y3
 show⟨T,st',e,λc t m n y=>?_⟩;cases T with
 |nx=>cases q;show l .Hj c.H c.S (Y c t m y .Hj rfl)
 |rt k0 u0=>cases k0<;>first|(cases q;done)|(cases q;show λv r=>l v c.H c.S (Y c t m y v r))
 |_=>cases q
abbrev Fn.bd(fn:Fn):List S:=match fn.io with|some (_,b)=>b|none=>fn.body
abbrev Qu(fn:Fn):Bool:=match fn.io with|some (is,b)=>is.all λi=>Jr b i|none=>b6
abbrev Qv(ck:Ck)(Pg:List Fn):Bool:=ck.fns.all (λg=>Pg.any λfn=>df (fn.name=g)&&fn.io.isNone)&&ck.JE.all λp=>Pg.any λfn=>df (fn.name=p.1)&&df (fn.io.map (·.1)=bD p.2)
structure Ld(ck:Ck)(K:PySem.W.Frag)(mg:Str->Option et)(fn:Fn):Prop where
 ex:∃(qual:Str) (st:Nb) (f:hU) (fd:Rg) (N ps:List Str),L0 K fn.name qual st f fd/\mg fn.name=bD (.ref f)/\Binds K fd ps []/\d_ N ps (aT st)/\N.length=fn.ns/\ps.length=fn.np/\dX ck fn.bd N (aT st) (cV st)=b6/\Qu fn=b6
def Bj{Pg:List Fn}(a:(Pg.map (·.name)).Nodup)(h:fn∈Pg):Pg.find? (λg=>df (g.name=fn.name))=bD fn:=by
 induction Pg with
 |nil=>cases h
 |cons g Pg b =>
  rw[gs,mA]at a;rcases gc.mp h with rfl|h
  .simp
  .rw[MJ];have:df (g.name=fn.name)=cK:=by
    apply ù;intro z;show a.1 (z▸YL h)
   rw[this];show b a.2 h
def so(a:(Pg.map (·.name)).Nodup)(h:fn∈Pg):Hm Pg (d+1) fn.name=jk (Hm Pg d) fn:=by
 funext us
 change(match Pg.find? λg=>df (g.name=fn.name) with|some fn=>jk (Hm Pg d) fn us|none=>cb)=_;rw[Bj a h]
def nB(h:fn.io=cb):jk Γ fn=dJ Γ fn:=by funext us;unfold jk;rw[h]
def vT(h:fn.io=bD (is,b)):jk Γ fn=ic Γ fn is b:=by funext us;unfold jk;rw[h]
def uo(O:(Pg.map (·.name)).Nodup)(o:Qv ck Pg=b6)(q:∀x∈bT,mg x=cb)(T:∀p∈ck.gl,∃t v,mg p.1=bD t/\RelV v t/\∀(C:Ct) S H,Rep C S H p.2 v)
  (ld:∀fn∈Pg,Ld ck K mg fn):∀d,(∀g∈ck.fns,A_ P w K mg base d (Hm Pg d g) g)/\∀p∈ck.JE,Ba P w K mg base d (Hm Pg d p.1) p.1 p.2:=by
 simp only[Qv,cL,mx,UP,õ]at o;intro d;induction d with
 |zero =>
  show⟨λg I=>?_,λp J=>?_⟩
  .obtain⟨fn,i,rfl,_⟩:=o.1 g I;obtain⟨a,st,f,j,N,ps,F,l,m,S,B,n,_⟩:=(ld fn i).ex;show⟨fn.np,f,j,ps,⟨λvs H Q E h=>h.1.trans n.symm,λA outer s H args us vs Q E _ _ _ _ h=>by obtain⟨_,us,k,u,_,e,_⟩:=h;cases e⟩,l,F.kp,m,λus k u e=>by cases e⟩
  .obtain⟨fn,i,e,_⟩:=o.2 p J;obtain⟨a,st,f,j,N,ps,F,l,m,S,B,n,_⟩:=(ld fn i).ex;show⟨fn.np,f,j,ps,⟨λvs H Q E h=>h.1.trans n.symm,λA outer s H args us vs Q E _ _ _ _ h=>by obtain⟨_,us,k,u,_,_,_,e,_⟩:=h;cases e⟩,e▸l,F.kp,m,λus k e=>by cases e⟩
 |succ d G =>
  show⟨λg I=>?_,λp J=>?_⟩
  .have⟨fn,i,rfl,c⟩:=o.1 g I;rw[QL]at c;obtain⟨a,st,f,j,N,ps,F,l,m,S,B,n,D,_⟩:=(ld fn i).ex;rw[so O i,nB c];rw[show fn.bd=fn.body by unfold Fn.bd;rw[c]]at D;show⟨fn.np,f,j,ps,B9 F S B n D q G.1 T G.2,l,F.kp,m,λus k u e=>?_⟩;have⟨h1,h2⟩:=pd e;show⟨?_,h1⟩;rcases h2 with⟨z,_⟩|⟨z,_⟩
   .show z
   .show .inr (.inl z)
  .have⟨fn,i,e,c⟩:=o.2 p J;rw[hA]at c;obtain⟨⟨is,b⟩,c,Y⟩:=c;have⟨x,y⟩:=p
   dsimp only at e Y
   subst e Y;have⟨a,st,f,j,N,ps,F,l,m,S,B,n,D,L⟩:=(ld fn i).ex;rw[so O i,vT c];rw[show fn.bd=b by unfold Fn.bd;rw[c]]at D;unfold Qu at L;rw[c]at L;show⟨fn.np,f,j,ps,Eb F S B n (mx.mp L) D q G.1 T G.2,l,F.kp,m,λus r e=>(um e).1⟩
end
abbrev sr(ns:List Int):U:=.lst (ns.map .int)
theorem nE{S:hU->Prop}:∀(ns:List Int),ak C S H (ns.map .int) (ns.map V.int)
 |[]=>rfl
 |n::ns=>⟨_,_,rfl,rfl,nE ns⟩
def su(h:HM C.K H a (ns.map V.int)):Rep C (JT H) H (sr ns) (.ref a):=by
 show⟨a,_,rfl,?_,nE ns⟩;rcases h with(h|⟨o,h⟩)|h
 .show .inl ⟨⟨_,h⟩,.inl h⟩
 .show .inl ⟨⟨_,h⟩,.inr ⟨o,h⟩⟩
 .show .inr h
theorem qy:∀{l:List α},(∀a∈l,f a=g a)->l.filterMap f=l.filterMap g
 |[],_=>rfl
 |a::l,h=>by rw[L8,L8,h a (by simp),qy λb c=>h b (by simp[c])]
theorem uq:∀(l:List Str) (us:List et),l.Nodup->us.length=l.length->l.filterMap (λn=>((l.zip us).lookup n).map (n,·))=l.zip us
 |[],_,_,_=>rfl
 |a::l,[],_,h=>nomatch h
 |a::l,u::us,b,h=>by
  rw[mA]at b;have c:=uq l us b.2 (by simpa using h);simp only[OC,L8,t4,beq_self_eq_true,RH];congr 1
  conv=>rhs;rw[<-c]
  show qy λn d=>?_;have:(n==a)=cK:=by
   rw[beq_eq_false_iff_ne];rintro rfl;show b.1 d
  rw[this]
def yk(l:List Str)(us:List et)(h:us.length=l.length):l.filter (λn=>((l.zip us).lookup n).isNone)=[]:=by
 rw[Mx];intro n hn;induction l generalizing us with
 |nil=>cases hn
 |cons a l b =>
  cases us with
  |nil=>cases h
  |cons u us =>
   simp only[OC,t4];cases e:n==a with
   |true=>simp
   |false =>
    rcases gc.mp hn with rfl|hn
    .simp at e
    .show b us (by simpa using h) hn
def yl{kV a b c ct:et}(d:(as.map (·.arg)).Nodup)(hl:us.length=(as.map (·.arg)).length):
  ê (PySem.W.fnOf x q ⟨[],as,cb,[],[],cb,[]⟩ body scope .none kV a b m c ct) ⟨us,[]⟩=pure ((as.map (·.arg)).zip us):=by
 have e:=uq _ us d hl;have f:=yk _ us hl;change(if _ then _ else _)=_;rw[ø (by simp[hl])];have g:∀k:Nat,¬(!(((as.map (·.arg)).take k).filter λn=>(((as.map (·.arg)).zip us).lookup n).isNone).isEmpty)=b6:=λk=>by
  rw[Mx.mpr λn h=>Mx.mp f n (List.mem_of_mem_take h)];show k8
 show(ø (g _)).trans ?_;have hz:∀(l:List Str) (i j:Nat),(l.drop i).zip ((cb.getD #[]:Array et).toList.drop j)=[]:=λl i j=>by rw[show(cb.getD #[]:Array et).toList=[] from rfl,List.drop_nil,List.zip_nil_right]
 show Eq.trans (ü (λz=>Bind.bind (Ê z _ _) _) (hz _ _ _)) ?_;show ü (pure:List (Str×et)->Sem (List (Str×et))) ((ü (List.filterMap _) (u7 _)).trans e)
structure Me where
 fn:Fn
 i:Nat
 N:List Str
 a:hU
 c:hU
 m:et
 cr:Obj
abbrev Me.fd(top:Nat->Nb)(m:Me):Rg:=PySem.W.fnOf m.fn.name m.fn.name (gn (top m.i)) (cV (top m.i)) (aT (top m.i)) .none .none .none m.m cb (.ref m.c) .none
abbrev Me.fo(top:Nat->Nb)(m:Me):Obj:=⟨.type "function",cb,.func (m.fd top),#[]⟩
@[reducible]def Gx:=Obj
abbrev adr(ms:List Me):List hU:=3::ms.flatMap λm=>[m.c,m.a]
abbrev J_(top:Nat->Nb)(g:Gx)(ms:List Me):PySem.W.Frag:=(3,g)::ms.flatMap λm=>[(m.c,m.cr),(m.a,m.fo top)]
def ur(top:Nat->Nb)(g:Gx)(ms:List Me):adr ms=(J_ top g ms).map (·.1):=by
 unfold adr J_;rw[gs,List.map_flatMap];rfl
abbrev Ec(v:Option (Option et))(a:hU):Bool:=match v with|some (bD (.ref b))=>df (b=a)|_=>cK
def Bk(h:Ec v a=b6):v=bD (bD (.ref a)):=by
 unfold Ec at h;split at h
 .rw[û h]
 .cases h
abbrev nn(o:Option (Option et)):Bool:=match o with|some cb=>b6|_=>cK
def FH(h:nn o=b6):o=bD cb:=by
 unfold nn at h;split at h
 .rfl
 .cases h
abbrev FI(p:Arguments)(ps:List Str):Bool:=p.posonlyargs.isEmpty&&p.vararg.isNone&&p.kwonlyargs.isEmpty&&p.kw_defaults.isEmpty&&p.kwarg.isNone&&p.defaults.isEmpty&&df (p.args.map (·.arg)=ps)
abbrev U_(N:List Str)(b:Nat)(a:ME):Bool:=df (a.kind=.function)&&df (a.isCoroutine=cK)&&df (a.isGenerator=cK)&&decide N.Nodup&&(N.take b).all (mD a)&&a.names.all (λy=>df (y.2≠.free))
abbrev U'(ck:Ck)(top:Nat->Nb)(K:PySem.W.Frag)(m:Me):Bool:=PySem.W.codeIn K (.ref m.c) m.fn.name&&PySem.W.keepIn K (.ref m.a)&&Ec (PySem.W.nsIn K Ka m.fn.name) m.a&&FI (gn (top m.i)) (m.N.take m.fn.np) &&
 U_ m.N m.fn.np (aT (top m.i))&&df (m.N.length=m.fn.ns)&&df (m.fn.np<=m.fn.ns)&&(dX ck m.fn.bd m.N (aT (top m.i)) (cV (top m.i))&&Qu m.fn)
abbrev Va(K:PySem.W.Frag)(p:Str×U):Bool:=match p.2,PySem.W.nsIn K Ka p.1 with
 |.int i,bD (bD (.int j _))=>df (i=j)
 |.str i,bD (bD (.str j _))=>df (i=j)
 |_,_=>cK
abbrev Mj(ck:Ck)(top:Nat->Nb)(K:PySem.W.Frag)(ms:List Me):Bool:=ms.all (U' ck top K)&&bT.all (λy=>nn (PySem.W.nsIn K Ka y))&&ck.gl.all (Va K)&&df (K.map (·.1)).Nodup
def FJ{K:PySem.W.Frag}(b:(K.map (·.1)).Nodup)(h:(a,o)∈K):K.lookup a=bD o:=by
 induction K with
 |nil=>cases h
 |cons p K c =>
  rw[gs,mA]at b;rw[t4];rcases gc.mp h with rfl|h
  .simp
  .have:(a==p.1)=cK:=by
    rw[beq_eq_false_iff_ne];rintro rfl;show b.1 (ke.mpr ⟨_,h,rfl⟩)
   rw[this];show c b.2 h
section
def B_(c:Mj ck top (J_ top g ms) ms=b6)(h:m∈ms):L0 (J_ top g ms) m.fn.name m.fn.name (top m.i) m.a (m.fd top)/\PySem.W.nsIn (J_ top g ms) Ka m.fn.name=bD (bD (.ref m.a)) /\
  (∀us:List et,us.length=(m.N.take m.fn.np).length->ê (m.fd top) ⟨us,[]⟩=pure ((m.N.take m.fn.np).zip us))/\d_ m.N (m.N.take m.fn.np) (aT (top m.i))/\m.N.length=m.fn.ns/\(m.N.take m.fn.np).length=m.fn.np/\(dX ck m.fn.bd m.N (aT (top m.i)) (cV (top m.i))=b6/\Qu m.fn=b6):=by
 simp only[Mj,cL,õ]at c;have z:=mx.mp c.1.1.1 m h;simp only[U',cL,õ]at z;obtain⟨⟨⟨⟨⟨⟨⟨j,k⟩,l⟩,b⟩,d⟩,n⟩,u⟩,o⟩:=z;simp only[U_,cL,õ]at d;obtain⟨⟨⟨⟨⟨s1,s2⟩,s3⟩,s4⟩,p⟩,q⟩:=d;have r:(J_ top g ms).lookup m.a=bD (m.fo top):=FJ c.2 (gc.mpr (.inr (List.mem_flatMap.mpr ⟨m,h,by simp⟩)));have hl:(m.N.take m.fn.np).length=m.fn.np:=by rw[HY];lia
 show⟨C3 r j k,Bk l,λus f=>?_,⟨s1,s2,s3,s4,by rw[hl],λx s=>?_,λy t=>?_⟩,n,hl,o⟩
 .unfold Me.fd;revert b;cases gn (top m.i) with
  |mk v as w A B kw C =>
   intro b;simp only[FI,cL,IA,QL,õ]at b;obtain⟨⟨⟨⟨⟨⟨rfl,rfl⟩,rfl⟩,rfl⟩,rfl⟩,rfl⟩,e⟩:=b;rw[<-e]at f ⊢;show yl (by rw[e];show(Zf _ _).nodup s4) f
 .have:=mx.mp p x s;simpa[mD] using this
 .have:=mx.mp q y t;simpa using this
def FK(i:Mj ck top (J_ top g ms) ms=b6)(X:(J_ top g ms).In h)(G:h.Ns Ka mg)(j:m∈ms):Ld ck (J_ top g ms) mg m.fn :=
 let ⟨a,b,c,d,e,f,k⟩:=B_ i j
 ⟨_,_,_,_,_,_,a,PySem.W.mg_of X G b,.all c,d,e,f,k⟩
def Ed(d:Mj ck top (J_ top g ms) ms=b6)(X:(J_ top g ms).In h)(G:h.Ns Ka mg):∀p∈ck.gl,∃a v,mg p.1=bD a/\RelV v a/\∀(C:Ct) S H,Rep C S H p.2 v:=by
 intro p e;simp only[Mj,cL,õ]at d;have z:=mx.mp d.1.2 p e;unfold Va at z;split at z
 .rename_i i j k b c;obtain rfl:=û z;show⟨_,.int i,PySem.W.mg_of X G c,⟨_,rfl⟩,λ_ _ _=>by rw[b];rfl⟩
 .rename_i i j k b c;obtain rfl:=û z;show⟨_,.str i,PySem.W.mg_of X G c,⟨_,rfl⟩,λ_ _ _=>by rw[b];rfl⟩
 .cases z
end
def walk{l:PySem.W.OpenLaw}{K:Y8->PySem.W.Frag}
  (B:l.most=bD 63) (D:d.params.defaults=[]) (I:gE (dp+1) SQ) (J:∀(w:IT) (h:J3),L w h->(K w.params).In h)
  (m:(Pg.map (·.name)).Nodup) (A:Qv ck Pg=b6) (O:fn.io=cb) (Q:fn∈Pg) (Lg:fn.name=d.name)
  (F:∀(w:IT) (mg:Str->Option et) (fa:hU) (h:J3),(K w.params).In h->h.Ns Ka mg->mg d.name=bD (.ref fa) ->
   (∀y∈bT,mg y=cb)/\(∀p∈ck.gl,∃i v,mg p.1=bD i/\RelV v i/\∀(C:Ct) S H,Rep C S H p.2 v)/\(∀g∈Pg,Ld ck (K w.params) mg g) /\
   ∃(c:Str) (st:Nb) (j:Rg) (N:List Str),L0 (K w.params) fn.name c st fa j/\d_ N [x] (aT st)/\N.length=fn.ns/\1=fn.np/\dX ck fn.body N (aT st) (cV st)=b6/\∀(s:hH) (u:et),Y' s j ⟨[u],[]⟩ [(x,u)])
  (T:∀ns:List Int,ns.length<=63->Hm Pg (dp+1) fn.name [sr ns]=bD (.ok (.loc,.bl b6))) :
  PySem.W.WalkO q o XP L l.row.toRowW d [] (λf vs=>PySem.call f vs) :=
 L2.zV (n:=63) (k:=dp+1) (x:=x) (CX:=λ_=>KD) (sp:=λw=>spT l.prog w (K w.params) (dJ (Hm Pg dp) fn) fn.np) B (by decide) D I J
  (λw mg fa h Y G Oc=>by
   have⟨e,r,ld,c,st,j,N,F1,S,hN,JR,hc,hb⟩:=F w mg fa h Y G Oc;show⟨j,hb,λbase _ _=>B9 F1 S hN JR hc e (uo m A e r ld dp).1 r (uo m A e r ld dp).2⟩)
  (λw H a ns hl _ hS=>by
   have t:=T ns hl;rw[so m Q,nB O]at t;have XH:fn.np=1:=(pd t).1.symm;show⟨XH.symm,[sr ns],.loc,.bl b6,JT H,t,.inr (.inl rfl),λ_ z=>z,⟨_,_,rfl,su hS,rfl⟩,λv H' S' b=>b.loc rfl⟩)
  λ_ _ _ _ _ z=>z
def walk2{l:PySem.W.OpenLaw}{g:Y8->Obj}
  (z:l.most=bD 63) (A:d.params.defaults=[]) (B:gE (dp+1) SQ) (o:ms.map (·.fn)=Pg) (C:(Pg.map (·.name)).Nodup) (D:Qv ck Pg=b6) (p:m.fn.io=cb) (r:m∈ms) (t:m.fn.name=d.name) (H:m.N.take m.fn.np=[x])
  (ok:∀P,Mj ck top (J_ top (g P) ms) ms=b6) (T:∀ns:List Int,ns.length<=63->Hm Pg (dp+1) m.fn.name [sr ns]=bD (.ok (.loc,.bl b6))) :
  PySem.W.WalkO q j J (PySem.W.kHook (λP=>J_ top (g P) ms) (adr ms) λP=>ur top (g P) ms).says l.row.toRowW d [] (λf vs=>PySem.call f vs) :=
 walk z A B (λw h Y=>PySem.W.kIn_of Y) C D p (o▸ke.mpr ⟨m,r,rfl⟩) t (λw mg fa h X G v=>by
  have hk:=ok w.params;have⟨a,b,c,e,f,k,n⟩:=B_ hk r;rw[<-t,PySem.W.mg_of X G b]at v;cases v;rw[H]at c e k;show⟨λy i=>PySem.W.mg_none_of X G (FH ?_),Ed hk X G,λy i=>?_,_,_,_,_,a,e,f,k,by have:=n.1;rw[show m.fn.bd=m.fn.body by unfold Fn.bd;rw[p]]at this;show this,λs u=>.of_eq (c [u] rfl)⟩
  .simp only[Mj,cL]at hk;show mx.mp hk.1.1.2 y i
  .rw[<-o]at i;have⟨L,I,rfl⟩:=ke.mp i;show FK hk X G I) T
abbrev co(n:Str)(k l c:Nat)(r s:hU)(x y z:et)(a b t:Nat):Obj:=⟨.type "code",cb,.fields #[.str n k,.str n (k+1),.str "/claim/cut.py" (k+2),.int l 0,.int c 0,.int 0 0,.int 0 0,.int 3 0,.ref r,.bool b6,.int t 0,.ref s,.none,x,y,z,.int a 0,.int l 0,.str "/claim/cut.py" b],#[]⟩
abbrev ge(P:Y8)(x:Str)(k:Nat)(v:et):DictEntry:=⟨PyData.keyHash P x,.str x k,v⟩
end TM
namespace TM
open PySem L2
section
abbrev Run(m:M α)(st:aw)(a:α)(st':aw):Prop:=m st=bD (.ok a,st')
def af(c:Run m st a st1)(d:Run (f a) st1 b st2):Run (m >>= f) st b st2:=by
 change M.bind m f st=_;unfold M.bind;rw[show m st=_ from c];show d
def a5:Run (pure a:M α) st a st:=rfl
def cp(h:o=bD a):Run (M.HA o) st a st:=by subst h;rfl
def bf(h:bc rs st):Run (aJ rs) st () st:=by change aJ rs st=_;unfold aJ;rw[ö h]
abbrev kv(i:Nat)(k:Kd):Kd:=if k.root=b6 then .bor i else k
def dY(h:st[i]?=bD (bD (k,u)))(hk:k≠.G':=by intro z;cases z):Run (c9 i) st (kv i k,u) st:=by
 change c9 i st=_;unfold c9;rw[h];cases k<;>first|rfl|show absurd rfl hk
def ae(h:st[i]?=bD (bD (.loc,u))):Run (ev Γ (.var i)) st (.loc,u) st:=dY h
def ax(h:st[i]?=bD (bD (.any,u))):Run (ev Γ (.var i)) st (.any,u) st:=dY h
def aE(h:st[i]?=bD (bD (.own,u))):Run (ev Γ (.var i)) st (.bor i,u) st:=dY h
def aj:Run (ev Γ (.cst u)) st (.loc,u) st:=rfl
def FL:Run (ev Γ (.MN x u)) st (.loc,u) st:=rfl
def bo(c:Run (ev Γ a) st x st1)(d:Run (ev Γ b) st1 y st2)(e:bc [x,y] st2)(f:JI g x y=bD r):Run (ev Γ (.bin g a b)) st r st2 :=
 af c (af d (af (bf e) (cp f)))
def eV(d:Run (ev Γ a) st x st1)(e:Run (ev Γ b) st1 y st2)(f:bc [x,y] st2)(g:bO h x.2 y.2=bD c):Run (ev Γ (.cmp h a b)) st (.loc,.bl c) st2 :=
 af d (af e (af (bf f) (af (cp g) a5)))
def aQ(c:Run (ev Γ a) st x st1)(d:Run (ev Γ b) st1 y st2)(e:bc [x,y] st2)(f:gF x y.2=bD r):Run (ev Γ (.idx a b)) st r st2 :=
 af c (af d (af (bf e) (cp f)))
def qz:Run (MP Γ []) st cb st:=rfl
def lG(h:Run (ev Γ e) st (k,.int i) st1):Run (MP Γ [e]) st (bD i) st1:=af h rfl
def nF(c:Run (ev Γ a) st x st1)(d:Run (MP Γ lo) st1 l st2)(e:Run (MP Γ f) st2 h b)(g:bc [x] b)(i:la x l h=bD r):Run (ev Γ (.KN a lo f)) st r b :=
 af c (af d (af e (af (bf g) (cp i))))
def ah:Run (bG Γ []) st [] st:=rfl
def aa(a:Run (ev Γ e) st r st1)(b:Run (bG Γ es) st1 rs st2):Run (bG Γ (e::es)) st (r::rs) st2:=af a (af b a5)
def bW(a:Run (bG Γ es) st rs st1)(b:bc rs st1)(c:Jw f rs=bD r):Run (ev Γ (.bi f es)) st r st1:=af a (af (bf b) (cp c))
def uu(a:Run (bG Γ es) st rs st1)(b:bc rs st1)(c:rO f rs=bD r):Run (ev Γ (.Kw f es)) st r st1:=af a (af (bf b) (cp c))
def ym(b:Run (ev Γ a) st x st1)(c:Run (bG Γ es) st1 rs st2)(d:bc (x::rs) st2)(e:mC m x.2 rs=bD r):Run (ev Γ (.Mg m a es)) st r st2:=af b (af c (af (bf d) (cp e)))
def uw(h:Γ f us=bD (.ok r))(a:isAny r.1=cK):Run (lb Γ f us) st r st:=by
 have⟨k,u⟩:=r;change lb Γ f us st=_;unfold lb;rw[h];cases k<;>first|rfl|cases a
def aP(a:Run (bG Γ es) st rs st1)(b:bc rs st1)(c:Γ f (rs.map (·.2))=bD (.ok r))(d:isAny r.1=cK:=by show rfl):Run (ev Γ (.call f es)) st r st1:=af a (af (bf b) (uw c d))
def dz(a:Run (bG Γ es) st rs st1)(b:bc rs st1)(c:Run (dv rs) st1 us st2)(d:us.length<=dV):Run (ev Γ (.tup es)) st (.loc,.tup us) st2:=by
 show af a (af (bf b) (af c ?_));rw[ö d];show a5
def bE(a:Run (bG Γ es) st rs st1)(b:bc rs st1)(c:Run (dv rs) st1 us st2)(d:us.length<=dV):Run (ev Γ (.lst es)) st (.own,.lst us) st2:=by
 show af a (af (bf b) (af c ?_));rw[ö d];show a5
def lH:Run (ev Γ (.Ji r)) st (.own,.Hf [] []) st:=rfl
def qA:Run (lift (.own,u)) st u st:=rfl
def aG:Run (lift (.loc,u)) st u st:=rfl
def iQ(h:HG u=b6):Run (lift (.any,u)) st u st:=by
 change(if HG u=b6 then(pure u:M U) else M.fail) st=_;rw[ö h];rfl
def aC:Run (dv []) st [] st:=rfl
def av(a:Run (lift r) st u st1)(b:Run (dv rs) st1 us st2):Run (dv (r::rs)) st (u::us) st2:=af a (af b a5)
def Ee(d:Run (HB Γ c) st b6 st1)(e:Run (ev Γ a) st1 r st2):Run (ev Γ (.ite c a b)) st r st2:=af d e
def Ef(d:Run (HB Γ c) st cK st1)(e:Run (ev Γ b) st1 r st2):Run (ev Γ (.ite c a b)) st r st2:=af d e
def sv(h:Run (ev Γ e) st r st1):Run (iI Γ [e]) st r st1:=h
def Eg(h:Run (ev Γ e) st (k,.bl p) st1)(a:if p=b6 then Run (iI Γ (b::es)) st1 r st2 else st2=st1/\r=(.loc,.bl cK)):Run (iI Γ (e::b::es)) st r st2:=by
 show af h ?_;cases p with
 |true=>show a
 |false=>have⟨rfl,rfl⟩:=a;show a5
def yn(h:Run (iI Γ es) st r st1):Run (ev Γ (.and es)) st r st1:=h
def aK(d:Run (ev Γ a) st x st1)(e:Run (ev Γ b) st1 y st2)(f:bc [x,y] st2)(g:bO h x.2 y.2=bD c):Run (HB Γ (.cmp h a b)) st c st2:=af d (af e (af (bf f) (cp g)))
def fF(h:Run (HB Γ a) st c st1):Run (HB Γ (.not a)) st (!c) st1:=af h a5
def nG(h:Run (aU Γ es) st c st1):Run (HB Γ (.and es)) st c st1:=h
def sy(h:Run (jG Γ es) st c st1):Run (HB Γ (.or es)) st c st1:=h
def fW:Run (aU Γ []) st b6 st:=rfl
def dn(h:Run (HB Γ e) st c st1):Run (aU Γ [e]) st c st1:=h
def sA(h:Run (HB Γ e) st b6 st1)(a:Run (aU Γ (b::es)) st1 c st2):Run (aU Γ (e::b::es)) st c st2:=af h a
def yo(h:Run (HB Γ e) st cK st1):Run (aU Γ (e::a::es)) st cK st1:=af h a5
def lI(h:Run (HB Γ e) st c st1):Run (jG Γ [e]) st c st1:=h
def fG(h:Run (HB Γ e) st cK st1)(a:Run (jG Γ (b::es)) st1 c st2):Run (jG Γ (e::b::es)) st c st2:=af h a
def bb:Run (eQ i (.own,u)) st () (st.set i (bD (.own,u))):=rfl
def aN:Run (eQ i (.loc,u)) st () (st.set i (bD (.loc,u))):=rfl
def jL:Run (eQ i (.any,u)) st () (st.set i (bD (.any,u))):=rfl
def FN(a:Run (ev Γ e) st r st1)(b:Run (eQ i r) st1 () st2):Run (exec Γ (.set i e)) st .nx st2:=af a (af b a5)
def FO(b:∃k' c,st[i]?=bD (bD (k',.lst c))/\k'≠.G')(d:Run (ev Γ e) st r st1)(f:Run (lift r) st1 u st2)(g:st2[i]?=bD (bD (k,.lst us)))(hk:k.root=b6)(hl:us.length<dV):
  Run (exec Γ (.app i e)) st .nx (st2.set i (bD (k,.lst (us++[u])))):=by
 have⟨k',c,b,h⟩:=b;show af (dY b h) (af (a:=()) (st1:=st) rfl (af d (af f (af (a:=()) ?_ a5))));change modS i (xB u) st2=_;unfold modS;rw[g];simp only[hk,if_true];have e:xB u (.lst us)=bD (.lst (us++[u])):=by change(if us.length<dV then _ else _)=_;rw[ö hl]
 rw[e]
def FP(a:Run (ev Γ e) st r st1)(b:Run (retS r) st1 f st2):Run (exec Γ (.ret e)) st f st2:=af a b
def iR:Run (retS (.own,u)) st (.rt .own u) st:=rfl
def cS:Run (retS (.loc,u)) st (.rt .loc u) st:=rfl
def jM(h:st[j]?=bD (bD (.own,u))):Run (retS (.bor j,a)) st (.rt .own u) (st.set j cb):=by
 change(match st[j]? with|some (bD (.own,u))=>bD (Ex.ok (Fl.rt .own u),st.set j cb)|_=>cb)=_;rw[h]
def fy(d:Run (HB Γ c) st b6 st1)(e:Run (execs Γ a) st1 f st2):Run (exec Γ (.ite c a b)) st f st2:=af d e
def sC(d:Run (HB Γ c) st cK st1)(e:Run (execs Γ b) st1 f st2):Run (exec Γ (.ite c a b)) st f st2:=af d e
def ay:Run (execs Γ []) st .nx st:=rfl
def fz(a:Run (exec Γ s) st .nx st1)(b:Run (execs Γ ss) st1 f st2):Run (execs Γ (s::ss)) st f st2:=af a b
def jZ(a:Run (exec Γ s) st (.rt k u) st1):Run (execs Γ (s::ss)) st (.rt k u) st1:=af a a5
def aB(a:Run (ev Γ e) st r st1)(b:Run (eQ i r) st1 () st2)(c:Run (execs Γ ss) st2 f d):Run (execs Γ (.set i e::ss)) st f d:=fz (FN a b) c
def gQ(a:st[i]?=bD (bD (k',.lst l)))(b:Run (ev Γ e) st r st1)(c:Run (lift r) st1 u st2)(d:st2[i]?=bD (bD (k,.lst us)))(hk:k.root=b6)(hl:us.length<dV)
  (g:Run (execs Γ ss) (st2.set i (bD (k,.lst (us++[u])))) f h) (j:k'≠.G':=by intro z;cases z):Run (execs Γ (.app i e::ss)) st f h:=fz (FO ⟨_,_,a,j⟩ b c d hk hl) g
def bx(a:Run (ev Γ e) st r st1)(b:Run (retS r) st1 (.rt k u) st2):Run (execs Γ (.ret e::ss)) st (.rt k u) st2:=jZ (FP a b)
def fX(d:Run (HB Γ c) st b6 st1)(e:Run (execs Γ a) st1 .nx st2)(g:Run (execs Γ ss) st2 f h):Run (execs Γ (.ite c a b::ss)) st f h:=fz (fy d e) g
def a9(d:Run (HB Γ c) st cK st1)(e:Run (execs Γ b) st1 .nx st2)(g:Run (execs Γ ss) st2 f h):Run (execs Γ (.ite c a b::ss)) st f h:=fz (sC d e) g
def sD(d:Run (HB Γ c) st b6 st1)(e:Run (execs Γ a) st1 (.rt k u) st2):Run (execs Γ (.ite c a b::ss)) st (.rt k u) st2:=jZ (fy d e)
def Ca(a:Run (bG Γ src) st rs st1)(b:bc rs st1)(c:Jk ik rs=bD xs)(d:tS rs is body=b6)(e:Run (forM t is (execs Γ body) rs xs) st1 f st2):
  Run (exec Γ (.Hy t is ik src body)) st f st2:=by
 show af a (af (bf b) (af (cp c) ?_));rw[ö d];show e
def cH(a:Run (bG Γ src) st rs st1)(b:bc rs st1)(c:Jk ik rs=bD xs)(d:tS rs is body=b6)(e:Run (forM t is (execs Γ body) rs xs) st1 .nx st2)(g:Run (execs Γ ss) st2 f h):
  Run (execs Γ (.Hy t is ik src body::ss)) st f h:=fz (Ca a b c d e) g
def Cb(h:bc rs st):Run (forM t is body rs []) st .nx st:=af (bf h) a5
def FQ(h:bc rs st)(a:Run (dw t is x) st () st1)(b:Run body st1 .nx st2)(c:Run (forM t is body rs xs) st2 f d):Run (forM t is body rs (x::xs)) st f d:=af (bf h) (af a (af b c))
def G5(h:bc rs st)(a:Run (dw t is x) st () st1)(b:Run body st1 (.rt k u) st2):Run (forM t is body rs (x::xs)) st (.rt k u) st2:=af (bf h) (af a (af b a5))
def dZ(h:Run (eQ i r) st () st1):Run (dw cK [i] r) st () st1:=h
def aW(a:us.length=fn.np)(hk:k=.own\/k=.loc)(hs:start us fn.ns=st0)(h:Run (execs Γ fn.body) st0 (.rt k u) st):dJ Γ fn us=bD (.ok (k,u)):=by
 subst hs;unfold dJ;rw[ö a,show execs Γ fn.body (start us fn.ns)=_ from h];rcases hk with rfl|rfl<;>rfl
def uA{cond:M Bool}(h:bc src st):Run (bS k t cond elt src [] acc) st acc st:=af (bf h) a5
def pe{cond:M Bool}(h:bc src st)(c:Run (dw t (ix k) x) (ki k cb++st) () s1)(d:Run cond s1 b6 s2)(e:Run elt s2 r s3)(g:Run (lift r) s3 u s4)
  (hl:acc.length<dV) (i:Run (bS k t cond elt src xs (acc++[u])) (s4.drop k) us st2):Run (bS k t cond elt src (x::xs) acc) st us st2:=by
 show af (bf h) (af (a:=bD u) (st1:=s4.drop k) ?_ ?_)
 .change inScope k _ st=_;unfold inScope;have j:Run (dw t (ix k) x >>= λ_=>cond >>= λb=>if b=b6 then(elt >>= λr=>lift r >>= λu=>pure (bD u)) else pure cb) (ki k cb++st) (bD u) s4 :=
   af c (af d (show Run (elt >>= λr=>lift r >>= λu=>pure (bD u)) s2 (bD u) s4 from af e (af (f:=λu=>pure (bD u)) g rfl)))
  rw[show _=_ from j]
 .change Run (if acc.length<dV then bS k t cond elt src xs (acc++[u]) else M.fail) _ _ _;rw[ö hl];show i
def yp{cond:M Bool}(h:bc src st)(c:Run (dw t (ix k) x) (ki k cb++st) () s1)(d:Run cond s1 cK s2)
  (e:Run (bS k t cond elt src xs acc) (s2.drop k) us st2):Run (bS k t cond elt src (x::xs) acc) st us st2:=by
 show af (bf h) (af (a:=cb) (st1:=s2.drop k) ?_ e);change inScope k _ st=_;unfold inScope;have f:Run (dw t (ix k) x >>= λ_=>cond >>= λb=>if b=b6 then(elt >>= λr=>lift r >>= λu=>pure (bD u)) else pure cb) (ki k cb++st) cb s2 :=
  af c (af d (show Run (pure cb:M (Option U)) s2 cb s2 from rfl))
 rw[show _=_ from f]
def b8{src cond:List E}(a:Run (bG Γ src) st rs st1)(b:bc rs st1)(c:Jk ik rs=bD xs)(d:Run (bS k t (aU Γ cond) (ev Γ e) rs xs []) st1 us st2):Run (ev Γ (.comp k t ik src cond e)) st (.own,.lst us) st2 :=
 af a (af (bf b) (af (cp c) (af d a5)))
end
section
def sE(c:Run (bG Γ es) st rs st1)(d:bc (rs.map (d7 st1)) st1)(e:Γ f ((rs.map (d7 st1)).map (·.2))=bD (.ok (k,.tup (u::ws))))(hk:k=.own\/k=.loc)(a:qf (rs.map (d7 st1)) is=b6)(b:gP (rs.map (d7 st1)) is ws st1=bD st2):
  Run (ev Γ (.Hg f es is)) st (k,u) st2:=by
 have g:Run (bG Γ es >>= As) st (rs.map (d7 st1)) st1:=af c (show Run (As rs) st1 (rs.map (d7 st1)) st1 from rfl);show af g (af (bf d) ?_);change qg Γ f _ is st1=_;unfold qg;rw[e];rcases hk with rfl|rfl
 .change(if _ then _ else _)=_;rw[ö a,b]
 .change(if _ then _ else _)=_;rw[ö a,b]
def FR(h:st[i]?=bD (bD (k,.lst us)))(hk:k.root=b6)(a:us[us.length - 1]?=bD u):Run (ev Γ (.pop i)) st (.loc,u) (st.set i (bD (k,.lst us.dropLast))):=by
 change xy i st=_;unfold xy;rw[h];change(if _ then _ else _)=_;rw[ö hk,a]
def cI(a:us.length=fn.np)(hs:cX is us fn.ns=st0)(h:Run (execs Γ body) st0 f st)(b:Qh f=bD (k,u))(c:MQ is st=bD ws):ic Γ fn is body us=bD (.ok (k,.tup (u::ws))):=by
 subst hs;unfold ic;rw[ö a,show execs Γ body (cX is us fn.ns)=_ from h];change(Qh f).bind _=_;rw[b];change(MQ is st).map _=_;rw[c];rfl
end
abbrev HL(Pg:List Fn)(f:Str)(fn:Fn):Prop:=(Pg.find? λg=>df (g.name=f))=bD fn
section
def aH(h:HL Pg f fn)(us:List U)(a:fn.io=cb:=by rfl):Hm Pg (d+1) f us=dJ (Hm Pg d) fn us:=by
 change(match Pg.find? λg=>df (g.name=f) with|some fn=>jk (Hm Pg d) fn us|none=>cb)=_;rw[show _=bD fn from h];change jk _ _ _=_;unfold jk;rw[a]
def cT(h:HL Pg f fn)(us:List U)(a:fn.io=bD (is,b)):Hm Pg (d+1) f us=ic (Hm Pg d) fn is b us:=by
 change(match Pg.find? λg=>df (g.name=f) with|some fn=>jk (Hm Pg d) fn us|none=>cb)=_;rw[show _=bD fn from h];change jk _ _ _=_;unfold jk;rw[a]
end
def eD(h:0<j):JI .mod (k,.int i) (k',.int j)=bD (.loc,.int (i % j)):=by change(An i j).map _=_;rw[An,ö h];rfl
def lJ(h:0<j/\j<1073741824):JI .ML (k,.int i) (k',.int j)=bD (.loc,.int (i / j)):=by change(Am i j).map _=_;rw[Am,ö h];rfl
def kG(h:(-(2 ^ 64)<i/\i<2 ^ 64)\/(-(2 ^ 64)<j/\j<2 ^ 64)):JI .mul (k,.int i) (k',.int j)=bD (.loc,.int (i * j)):=by change(Al i j).map _=_;rw[Al,ö h];rfl
def oi(h:0<=j/\j<=1000000/\i.natAbs<2 ^ 64):JI .pow (k,.int i) (k',.int j)=bD (.loc,.int (i ^ j.toNat)):=by change(Ao i j).map _=_;rw[Ao,ö h];rfl
def cB:JI .add (k,.int i) (k',.int j)=bD (.loc,.int (i+j)):=rfl
def fb:JI .sub (k,.int i) (k',.int j)=bD (.loc,.int (i - j)):=rfl
def b9(h:Ij xs i=bD u):gF (k,.lst xs) (.int i)=bD (kE k,u):=by change(Ij xs i).map _=_;rw[h];rfl
def cm(h:Ij xs i=bD u):gF (k,.tup xs) (.int i)=bD (kE k,u):=by change(Ij xs i).map _=_;rw[h];rfl
local macro_rules
 |`(tactic| sizeOf_list_dec)=>`(tactic| first|exact ay|apply aB|apply gQ|apply bx|exact aj|exact ae rfl|exact ax rfl|exact aE rfl|apply bo|apply eV|apply aQ|apply bW|apply aP|apply ym|apply aK|exact ah|apply aa|apply dz|apply bE|exact aC|apply av|exact aG|exact qA|(first|exact trivial|exact⟨⟨_,rfl,rfl⟩,trivial⟩|exact⟨⟨_,rfl,rfl⟩,⟨_,rfl,rfl⟩,trivial⟩)|exact cB|exact fb|exact eD (by first|lia|decide)|exact lJ (by first|lia|decide)|exact kG (by first|lia|decide)|exact oi (by decide)|exact aN|exact bb|exact jL|exact cS|exact iR|exact jM rfl|exact js _|exact rfl|exact LR)
def FT(h:df (i<j)=c):bO .lt (.int i) (.int j)=bD c:=by subst h;rfl
def gR(h:df (j<i)=c):bO .gt (.int i) (.int j)=bD c:=by subst h;rfl
def bw(h:(i==j)=c):bO .eq (.int i) (.int j)=bD c:=by subst h;rfl
def bC:Jw .len [(k,.lst xs)]=bD (.loc,.int (xs.length:Nat)):=rfl
def fA:Jw .len [(k,.tup xs)]=bD (.loc,.int (xs.length:Nat)):=rfl
def yq(x:Kd×U):Jk .IX [x]=xw x:=rfl
def lK(h:n<2 ^ 62):Jk .IX [(k,.int (n:Nat))]=bD ((ix n).map λi:Nat=>(Kd.loc,U.int (0+(i:Int)))):=by
 rw[yq,xw,ö ⋯,M_]
end TM
local macro_rules
 |`(tactic| sizeOf_list_dec)=>`(tactic| first|exact TM.ay|apply TM.aB|apply TM.gQ|apply TM.bx|exact TM.aj|exact TM.ae rfl|exact TM.ax rfl|exact TM.aE rfl|apply TM.bo|apply TM.eV|apply TM.aQ|apply TM.bW|apply TM.aP|apply TM.ym|apply TM.aK|exact TM.ah|apply TM.aa|apply TM.dz|apply TM.bE|exact TM.aC|apply TM.av|exact TM.aG|exact TM.qA|(first|exact trivial|exact⟨⟨_,rfl,rfl⟩,trivial⟩|exact⟨⟨_,rfl,rfl⟩,⟨_,rfl,rfl⟩,trivial⟩)|exact TM.cB|exact TM.fb|exact TM.eD (by first|lia|decide)|exact TM.lJ (by first|lia|decide)|exact TM.kG (by first|lia|decide)|exact TM.oi (by decide)|exact TM.aN|exact TM.bb|exact TM.jL|exact TM.cS|exact TM.iR|exact TM.jM rfl|exact js _|exact rfl|exact TM.LR)
namespace HH
open PySem L2
def len_list(x:Str):x.length=x.cps.toList.length:=by simp[î]
def vU(a:0<=k)(b:k<=99):(wN k).length<=2:=by
 have⟨m,rfl⟩:=x3 a;have c:m<100:=by lia
 clear a b;revert m;decide +kernel
theorem fH:∀(ps:List Str) (acc:Array Nat),(ps.foldl (λacc p=>acc++uk.cps++p.cps) acc).toList=acc.toList++(ps.map λp=>p.cps.toList).flatten
 |[],acc=>by simp
 |p::ps,acc=>by
  rw[R4,fH ps];have:uk.cps=#[]:=rfl;simp[this]
def join_list(a:List Str):(SR uk a).cps.toList=(a.map λp=>p.cps.toList).flatten:=by
 cases a with
 |nil=>rfl
 |cons t a =>
  change(a.foldl (λacc p=>acc++uk.cps++p.cps) t.cps).toList=_;rw[fH];simp
abbrev one(c:Nat):Str:=⟨#[c]⟩
def join_ones(cs:List Nat):(SR uk (cs.map one)).cps.toList=cs:=by
 rw[join_list,i4];induction cs with
 |nil=>rfl
 |cons c cs a=>rw[gs,Uo,a];rfl
def qB(cs:List Nat)(h:cs.length<=100):ZX uk (cs.map one)=b6:=by
 unfold ZX;have e:=PySem.StrLaws.joinTotal uk (cs.map one);have a:uk.length=0:=rfl;have es:((cs.map one).map (·.length)).sum=cs.length:=by
  rw[i4];clear h e;induction cs with
  |nil=>rfl
  |cons c cs b=>rw[gs,List.sum_cons,b];change 1+cs.length=cs.length+1;lia
 rw[e,a,es];have d:cs.length+(cs.map one).length * 0<=100:=by lia
 revert d;generalize cs.length+(cs.map one).length * 0=m;revert m;decide
def Eh(x:Str)(j:Nat):(PySem.StrLaws.sliceText x cb (bD (j:Int))).cps.toList=x.cps.toList.take j:=by
 by_cases h:j<=x.cps.toList.length
 .rw[PySem.StrLaws.sliceText_to (x:=x) ⟨⋯,⋯⟩];simp
 .have e:PySem.StrLaws.sliceText x cb (bD (j:Int))=PySem.StrLaws.sliceText x cb (bD (x.length:Int)):=by
   unfold PySem.StrLaws.sliceText;have hl:=len_list x;have:PySem.Builtin.Str.strSliceIndices cb (bD (j:Int)) 1 x.length=PySem.Builtin.Str.strSliceIndices cb (bD (x.length:Int)) 1 x.length:=by
    have a:¬((j:Int)<0):=by lia
    have b:¬((x.length:Int)<0):=by lia
    have c:min (j:Int) (x.length:Int)=x.length:=by lia
    simp[PySem.Builtin.Str.strSliceIndices,a,b,c]
   rw[this]
  have hl:=len_list x;rw[e,PySem.StrLaws.sliceText_to (x:=x) ⟨⋯,⋯⟩,List.drop_zero,Mt (l:=x.cps.toList) (i:=j) ⋯];change(x.cps.toList.take ((x.length:Int) - 0).toNat).toArray.toList=_;rw[Mt ⋯]
abbrev small:Str:="abcdefghijklmnopqrstuvwxyz"
theorem dA [DecidableEq α]:∀{l m:List α},l.Nodup->(∀x∈l,x∈m)->l.length<=m.length
 |[],_,_,_=>js _
 |x::l,m,c,h=>by
  have⟨d,e⟩:=mA.mp c;have a:=h x nH;have f:=dA (l:=l) (m:=m.erase x) e λy b=>(Yl (by rintro rfl;show d b)).mpr (h y (td _ b));rw[Xd a]at f;have:0<m.length:=X0 a;rw[k7];lia
end HH
namespace TM
open PySem L2 HH
def ou(a:x.length<=dV)(h:Ij x.cps.toList i=bD c):gF (k,.str x) (.int i)=bD (.loc,.str (HH.one c)):=by
 simp only[gF];rw[ö a,h];rfl
def qC:small.length<=dV:=by decide
theorem dO:∀(ss:List Str),strsOf (ss.map U.str)=bD ss
 |[]=>rfl
 |s::ss=>by change(strsOf (ss.map U.str)).map (s::·)=_;rw[dO ss];rfl
section
def pf(h:x.length+y.length<=dV):JI .add (k,.str x) (k',.str y)=bD (.loc,.str (x++y)):=by
 simp only[JI,xv];rw[ö h]
theorem gz:∀(ss:List Str) (n:Nat),du n (ss.map U.str)=b6
 |[],n=>by simp[du]
 |s::ss,n=>by simp only[gs,du,gz ss n,Z4];cases n<;>rfl
theorem qD(x:Str):∀(ss:List Str),((ss.map U.str).any λy=>cC y (.str x))=df (x∈ss)
 |[]=>by simp
 |s::ss=>by
  rw[gs,TK,qD x ss];have:cC (.str s) (.str x)=df (x=s):=by
   simp only[cC];by_cases h:x=s
   .subst h;simp
   .have h':s≠x:=λz=>h z.symm;simp[h,h']
  rw[this,JB];simp
def Bl(x:Str)(ss:List Str):MO (.str x) (ss.map U.str)=bD (df (x∈ss)):=by
 unfold MO;rw[ö ⟨by rfl,gz ss 50⟩,qD]
def fY{x:Str}{ss:List Str}:bO .Ht (.str x) (.lst (ss.map U.str))=bD (df (x∉ss)):=by
 change(MO (.str x) (ss.map U.str)).map (!·)=_;rw[Bl];simp
end
section
end
def iS(h:Run (ev Γ j) st rv st1)(l:st1[i]?=bD (bD (k',u')))(m:Run (ev Γ n) st1 rk st2)(o:Run (dv [rv,rk]) st2 [c,d] b)(p:b[i]?=bD (bD (k,e)))(hk:k.root=b6)(q:d8 d c e=bD g)
  (r:Run (execs Γ ss) (b.set i (bD (k,g))) f s) (t:k'≠.G':=by intro z;cases z):Run (execs Γ (.put i n j::ss)) st f s:=by
 show fz (af h (af (dY l t) (af m (af o (af (a:=()) (st1:=b.set i (bD (k,g))) ?_ a5))))) r;change modS i (tR [c,d]) b=_;unfold modS;rw[p];simp only[hk,if_true];change(match d8 d c e with|some u'=>_|none=>cb)=_;rw[q]
@[reducible]def Row:=Str×List Str
abbrev A'(r:Row):U:=.tup [.str r.1,.tup (r.2.map .str)]
abbrev keyOf(r:Row):Row:=(r.1,aL r.2)
def sorted_strs(h:ss.length<64):Jw .sorted [(k,.tup (ss.map .str))]=bD (.own,.lst ((aL ss).map .str)):=by
 change(strsOf (ss.map U.str)).bind _=_;rw[dO];change(if ss.length<64 then _ else _)=_;rw[ö h]
structure nI(names:List Str)(r:Row):Prop where
 word:r.1∈names
 LD:r.2.length<=8
 once:r.2.Nodup
 told:∀x∈r.2,x∈names
section
def nJ(h:Run (execs Γ (a++ss)) st f st2):(∃s1,Run (execs Γ a) st .nx s1/\Run (execs Γ ss) s1 f st2)\/(Run (execs Γ a) st f st2/\f≠.nx):=by
 induction a generalizing st with
 |nil=>show .inl ⟨st,ay,h⟩
 |cons s a i =>
  have h':M.bind (exec Γ s) (λf=>match f with|.nx=>execs Γ (a++ss)|f=>pure f) st=bD (.ok f,st2):=h;unfold M.bind at h';cases e:exec Γ s st with
  |none=>rw[e]at h';cases h'
  |some p =>
   have⟨x,s1⟩:=p;rw[e]at h';cases x with
   |exc c=>cases h'
   |ok g =>
    cases g with
    |nx =>
     rcases i h' with⟨s2,b,d⟩|⟨b,d⟩
     .show .inl ⟨s2,fz e b,d⟩
     .show .inr ⟨fz e b,d⟩
    |rt k u=>cases h';show .inr ⟨jZ e,λz=>nomatch z⟩
    |bk=>cases h';show .inr ⟨af (show Run (exec Γ s) st Fl.bk _ from e) a5,λz=>nomatch z⟩
    |ct=>cases h';show .inr ⟨af (show Run (exec Γ s) st Fl.ct _ from e) a5,λz=>nomatch z⟩
def FU(a:Run (exec Γ s) st f st1)(b:f≠.nx):Run (execs Γ (s::ss)) st f st1:=by
 cases f with
 |nx=>show absurd rfl b
 |rt k u=>show jZ a
 |_=>show af a a5
def lL(g:Run (HB Γ c) st p st1)(h:p=b6->Run (execs Γ (a++ss)) st1 f st2)(i:p=cK->Run (execs Γ (b++ss)) st1 f st2):Run (execs Γ (.ite c a b::ss)) st f st2:=by
 cases p with
 |true =>
  rcases nJ (h rfl) with⟨s1,d,e⟩|⟨d,e⟩
  .show fz (fy g d) e
  .show FU (fy g d) e
 |false =>
  rcases nJ (i rfl) with⟨s1,d,e⟩|⟨d,e⟩
  .show fz (sC g d) e
  .show FU (sC g d) e
def sF(h:Run (ev Γ e) st (k,.bl p) st)(a:p=b6->Run (iI Γ (b::es)) st (.loc,.bl q) st):Run (iI Γ (e::b::es)) st (.loc,.bl (p&&q)) st:=by
 show Eg h ?_;cases p with
 |true=>rw[ö rfl];show a rfl
 |false=>rw[ø k8];show⟨rfl,rfl⟩
def ph(h:Run (HB Γ e) st p st)(a:p=b6->Run (aU Γ (b::es)) st q st):Run (aU Γ (e::b::es)) st (p&&q) st:=by
 cases p with
 |true=>show sA h (a rfl)
 |false=>show yo h
theorem eG{cond:M Bool}(h:bc src st)(k:Kd)(hk:k=.loc\/k=.any)(a g:α->U)(c:Kd)(d:∀y,Run cond (bD (k,a y)::st) b6 (bD (k,a y)::st)):∀(b:List α) (acc:List U),acc.length+b.length<=dV ->
  (∀y∈b,Run elt (bD (k,a y)::st) (c,g y) (bD (k,a y)::st)/\Run (lift (c,g y)) (bD (k,a y)::st) (g y) (bD (k,a y)::st))->Run (bS 1 cK cond elt src (b.map λy=>(k,a y)) acc) st (acc++b.map g) st
 |[],acc,_,_=>by rw[KS,KS,u7];show uA h
 |y::b,acc,hl,e=>by
  have⟨f,i⟩:=e y (by simp);rw[k7]at hl;show pe (s1:=bD (k,a y)::st) (s2:=bD (k,a y)::st) (s3:=bD (k,a y)::st) (s4:=bD (k,a y)::st) h ?_ (d y) f i ⋯ ?_
  .rcases hk with rfl|rfl
   .show dZ aN
   .show dZ jL
  .have:=eG h k hk a g c d b (acc++[g y]) (by simp;lia) λz hz=>e z (by simp[hz]);rw[gs];simpa using this
theorem fZ{cond:M Bool}(h:bc src st)(k:Kd)(hk:k=.loc\/k=.any)(a g:α->U)(p:α->Bool)(d:Kd):∀(b:List α) (acc:List U),acc.length+b.length<=dV ->
  (∀y∈b,Run cond (bD (k,a y)::st) (p y) (bD (k,a y)::st)/\(p y=b6->Run elt (bD (k,a y)::st) (d,g y) (bD (k,a y)::st)/\Run (lift (d,g y)) (bD (k,a y)::st) (g y) (bD (k,a y)::st)))->Run (bS 1 cK cond elt src (b.map λy=>(k,a y)) acc) st (acc++(b.filter p).map g) st
 |[],acc,_,_=>by rw[KS,P_,KS,u7];show uA h
 |y::b,acc,hl,f=>by
  have⟨e,j⟩:=f y (by simp);rw[k7]at hl;have i:Run (dw cK (ix 1) (k,a y)) (ki 1 cb++st) () (bD (k,a y)::st):=by
   rcases hk with rfl|rfl
   .show dZ aN
   .show dZ jL
  cases c:p y with
  |true =>
   rw[c]at e;have⟨l,m⟩:=j c;show pe (s1:=bD (k,a y)::st) (s2:=bD (k,a y)::st) (s3:=bD (k,a y)::st) (s4:=bD (k,a y)::st) h i e l m ⋯ ?_;have:=fZ h k hk a g p d b (acc++[g y]) (by simp;lia) λz hz=>f z (by simp[hz]);rw[ID,ö c,gs];simpa using this
  |false =>
   rw[c]at e;show yp (s1:=bD (k,a y)::st) (s2:=bD (k,a y)::st) h i e ?_;have:=fZ h k hk a g p d b acc ⋯ λz hz=>f z (by simp[hz]);rw[ID,ø (by simp[c])];show this
theorem bQ(it:α->Kd×U)(I:List α->List α->aw->Prop)(hs:∀d r st,I d r st->bc rs st)
  (Zr:∀d y r st,I d (y::r) st->∃st1 st2,Run (dw t is (it y)) st () st1/\Run body st1 .nx st2/\I (d++[y]) r st2):∀(r d:List α) (st:aw),I d r st->∃st',Run (forM t is body rs (r.map it)) st .nx st'/\I (d++r) [] st'
 |[],d,st,h=>⟨st,Cb (hs _ _ _ h),by rw[u7];show h⟩
 |y::r,d,st,h=>by
  have⟨s1,s2,a,b,c⟩:=Zr d y r st h;have⟨s3,e,f⟩:=bQ it I hs Zr r (d++[y]) s2 c;show⟨s3,FQ (hs _ _ _ h) a b e,by simpa using f⟩
def lM(a:Run (bG Γ es) st rs st1)(c:bc rs st1)(d:Γ f (rs.map (·.2))=bD (.ok r))(e:rP r.2=bD b)(g:isAny r.1=cK:=by show rfl):Run (HB Γ (.call f es)) st b st1:=af a (af (bf c) (af (uw d g) (cp e)))
def G6(a:Run (bG Γ es) st rs st1)(c:bc rs st1)(d:Jw f rs=bD r)(e:rP r.2=bD b):Run (HB Γ (.bi f es)) st b st1:=af a (af (bf c) (af (cp d) (cp e)))
def yr(h:Run (ev Γ (.bi f es)) st (k,.bl b) st1):Run (HB Γ (.bi f es)) st b st1:=by
 have h':(bG Γ es >>= λrs=>aJ rs >>= λ_=>M.HA (Jw f rs)) st=bD (.ok (k,.bl b),st1):=h;obtain⟨rs,s1,c,d,s2,e,r,s3,g,i⟩:∃rs s1,bG Γ es st=bD (.ok rs,s1)/\∃(a:Unit) (s2:aw),aJ rs s1=bD (.ok a,s2)/\∃r s3,M.HA (Jw f rs) s2=bD (.ok r,s3)/\(r,s3)=((k,U.bl b),st1):=by
  have w:W (bG Γ es >>= λrs=>aJ rs >>= λ_=>M.HA (Jw f rs)) st λr s=>(r,s)=((k,U.bl b),st1):=⟨_,_,h',rfl⟩
  rw[ai]at w;have⟨rs,s1,c,w⟩:=w;rw[ai]at w;have⟨a,s2,d,w⟩:=w;have⟨r,s3,e,w⟩:=w;show⟨rs,s1,c,a,s2,d,r,s3,e,w⟩
 cases i;show af c (af (a:=d) e (af g (cp rfl)))
def yt(c:st[i]?=bD (bD (k',.lst n)))(d:Run (ev Γ e) st r st1)(g:st1[i]?=bD (bD (k,.lst us)))(hk:k.root=b6)(h:ll r (.lst us)=bD (.lst b))
  (j:Run (execs Γ ss) (st1.set i (bD (k,.lst b))) f l) (m:k'≠.G':=by intro z;cases z):Run (execs Γ (.ext i e::ss)) st f l:=by
 show fz (af (dY c m) (af (a:=()) (st1:=st) rfl (af d (af (a:=()) (st1:=st1.set i (bD (k,.lst b))) ?_ a5)))) j;change modS i (ll r) st1=_;unfold modS;rw[g];simp only[hk,if_true];rw[h]
end
def Bm(h:xs.length+a.length<=dV)(hs:fk k a=b6):ll (k,.tup a) (.lst xs)=bD (.lst (xs++a)):=by
 change(if xs.length+a.length<=dV/\fk k a=b6 then _ else _)=_;rw[ö ⟨h,hs⟩]
def uB(h:xs.length+a.length<=dV)(hs:fk k a=b6):ll (k,.lst a) (.lst xs)=bD (.lst (xs++a)):=by
 change(if xs.length+a.length<=dV/\fk k a=b6 then _ else _)=_;rw[ö ⟨h,hs⟩]
theorem gA:∀ss:List Str,cG (ss.map U.str)=b6
 |[]=>by simp[cG]
 |s::ss=>by simp[cG,HG,gA ss]
def uC(r:Row):HG (A' r)=b6:=by simp[A',HG,cG,gA]
theorem bU:∀rs:List Row,cG (rs.map A')=b6
 |[]=>by simp[cG]
 |r::rs=>by simp[cG,uC,bU rs]
theorem lN:∀(a b:List Str),cO (a.map U.str) (b.map U.str)=df (a=b)
 |[],[]=>by simp[cO]
 |[],_::_=>by simp[cO]
 |_::_,[]=>by simp[cO]
 |x::a,y::b=>by
  rw[gs,gs,cO,lN a b];simp only[cC];by_cases h:x=y
  .subst h;simp
  .simp[h]
def iq(ss:List Str)(n:Nat):IY (n+1) (.lst (ss.map U.str))=b6:=by simp[IY,gz]
def f9{a b:List Str}:bO .eq (.lst (a.map U.str)) (.lst (b.map U.str))=bD (df (a=b)):=by
 simp only[bO];rw[ö ⟨iq a 49,iq b 49⟩];simp only[cC,lN]
def pj:bO .eq (.str a) (.str b)=bD (df (a=b)):=by
 simp only[bO];rw[ö ⟨rfl,rfl⟩];simp only[cC];by_cases h:a=b
 .subst h;simp
 .simp[h]
def uD(f:α->β)(xs:List α)(lo a:Option Int):cut (xs.map f) lo a=(cut xs lo a).map f:=by simp[cut,List.map_take,List.map_drop]
def Bn(xs:List α)(lo a:Option Int):(cut xs lo a).length<=xs.length:=by simp[cut];lia
def Bo(h:fk k (ss.map U.str)=b6):la (k,.lst (ss.map .str)) lo a=bD (.own,.lst ((cut ss lo a).map .str)):=by
 simp only[la];rw[ö h,uD]
def yu(h:fk k (a.map U.int)=b6):la (k,.lst (a.map .int)) lo b=bD (.own,.lst ((cut a lo b).map .int)):=by
 simp only[la];rw[ö h,uD]
def lO(h:acc.length<4000)(a:(aD acc).length<64):rO .sset [(k,.lst (acc.map .str))]=bD (.own,.lst ((aL (aD acc)).map .str)):=by
 have e:ia (.lst (acc.map U.str))=bD (aD acc):=by
  change(strsOf (acc.map U.str)).bind _=_;rw[dO];change(if acc.length+1<Ja then _ else _)=_;rw[ö (by change acc.length+1<4096;lia)]
 change(ia (.lst (acc.map U.str))).bind _=_;rw[e];change(if (aD acc).length<64 then _ else _)=_;rw[ö a]
def qE(l:List Str):(aL (aD l)).Nodup:=(bN _).nodup_iff.mpr (bp l)
def Ei(l:List Str)(x:Str):x∈aL (aD l)↔x∈l:=by rw[(bN _).mem_iff,bh]
def yw{l names:List Str}(h:∀x∈l,x∈names):(aD l).length<=names.length:=dA (bp l) λx a=>h x ((bh l x).mp a)
section
end
section
def Cc(c:Run (ev Γ a) st x st1)(d:oQ x.2 T=bD b):Run (ev Γ (.Jc a T)) st (.loc,.bl b) st1:=af c (af (cp d) a5)
def nK(c:Run (ev Γ a) st x st1)(d:oQ x.2 T=bD b):Run (HB Γ (.Jc a T)) st b st1:=af c (cp d)
end
def lP(h:xs.length+a.length<=dV)(b:fk k xs=b6)(c:fk k' a=b6):JI .add (k,.lst xs) (k',.lst a)=bD (.own,.lst (xs++a)):=by
 simp only[JI,xv];rw[ö ⟨h,b,c⟩]
abbrev cE(rows:List Row):List Str:=(rows.map λr=>r.1::r.2).flatten
abbrev aI(rows:List Row):List Str:=aL (aD (cE rows))
def qF(d:List Row)(y:Row):cE (d++[y])=cE d++[y.1]++y.2:=by simp[cE]
def bZ:x∈cE rows↔∃r∈rows,x=r.1\/x∈r.2:=by
 simp only[cE,List.mem_flatten,ke];constructor
 .rintro⟨l,⟨r,a,rfl⟩,b⟩;show⟨r,a,gc.mp b⟩
 .rintro⟨r,a,b⟩;show⟨_,⟨r,a,rfl⟩,gc.mpr b⟩
def iT(h:∀r∈rows,nI names r):∀x∈cE rows,x∈names:=by
 intro x hx;have⟨r,a,hx⟩:=bZ.mp hx;rcases hx with rfl|hx
 .show(h r a).word
 .show(h r a).told x hx
def lQ(h:∀r∈rows,r.2.length<=8):(cE rows).length<=9 * rows.length:=by
 induction rows with
 |nil=>simp[cE]
 |cons r rows a =>
  have c:=h r (by simp);have b:=a λs hs=>h s (by simp[hs]);simp only[cE,gs,Uo,i7,k7]at b ⊢;lia
def cq:x∈aI rows↔x∈cE rows:=Ei _ _
def cY(rows:List Row):(aI rows).Nodup:=qE _
def d0(h:∀r∈rows,nI names r):(aI rows).length<=names.length:=by
 change(aL (aD (cE rows))).length<=_;rw[cu];show yw (iT h)
abbrev sG:Fn:=⟨"words_of",1,3,[.set 1 (.lst []),.Hy cK [2] .seq [.var 0] [.app 1 (.idx (.var 2) (.cst (.int 0))),.ext 1 (.idx (.var 2) (.cst (.int 1)))],.ret (.Kw .sset [.var 1])]⟩
def iU(hl:rows.length<=120)(c:∀r∈rows,nI names r)(n:names.length<64):dJ Γ sG [.tup (rows.map A')]=bD (.ok (.own,.lst ((aI rows).map .str))):=by
 have hsz:(4000:Nat)<=dV:=by decide
 have f:TM.start [.tup (rows.map A')] 3=[bD (.loc,.tup (rows.map A')),cb,cb]:=by simp[TM.start,HG,bU]
 have b:∀r∈rows,r.2.length<=8:=λr h=>(c r h).LD;obtain⟨st',g,_,o2,e⟩:=bQ (t:=cK) (is:=[2]) (body:=execs Γ [.app 1 (.idx (.var 2) (.cst (.int 0))),.ext 1 (.idx (.var 2) (.cst (.int 1)))]) (rs:=[(.loc,.tup (rows.map A'))]) (λr:Row=>(Kd.loc,A' r))
  (λd r st=>d++r=rows/\∃o2,st=[bD (.loc,.tup (rows.map A')),bD (.own,.lst ((cE d).map .str)),o2]) (λ_ _ _ _=>trivial) (λd y r st i=>by
   have⟨a,o2,e⟩:=i;subst e;have j:y∈rows:=by rw[<-a];simp
   have o:=lQ (rows:=d) λs hs=>b s (by rw[<-a];simp[hs]);have l:d.length<=120:=by have:=ü H8 a;simp at this;lia
   have p:=b y j;show⟨[bD (.loc,.tup (rows.map A')),bD (.own,.lst ((cE d).map .str)),bD (.loc,A' y)],[bD (.loc,.tup (rows.map A')),bD (.own,.lst ((cE d).map .str++[.str y.1]++y.2.map .str)),bD (.loc,A' y)],dZ aN,?_,by rw[<-a];simp,bD (.loc,A' y),?_⟩
   .show gQ (k:=.own) (k':=.own) (r:=(.loc,.str y.1)) rfl (aQ (x:=(.loc,A' y)) (ae rfl) aj trivial rfl) aG rfl rfl (by rw[dt];lia)
     (yt (k:=.own) rfl (aQ (x:=(.loc,A' y)) (ae rfl) aj trivial rfl) rfl rfl (Bm (by simp;lia) rfl) ay)
   .rw[qF];simp) rows [] [bD (.loc,.tup (rows.map A')),bD (.own,.lst []),cb] ⟨rfl,cb,rfl⟩
 subst e;have m:(rows.map A').map (λu=>(kE .loc,u))=rows.map λr=>(Kd.loc,A' r):=by rw[i4];rfl
 have q:=lQ b;have l:=yw (iT c);show aW rfl (.inl rfl) f (aB (r:=(.own,.lst [])) (bE ah trivial aC (js _)) bb (cH (rs:=[(.loc,.tup (rows.map A'))]) (aa (ae rfl) ah) trivial rfl rfl (by rw[m];show g) (bx (uu (aa (aE rfl) ah) ⟨⟨.own,rfl,rfl⟩,trivial⟩ (lO ⋯ ⋯)) iR)))
def uE(h:ks.length<1000):d8 (.str x) u (.Hf ks us)=bD (.Hf (dput ks us x u).1 (dput ks us x u).2):=by
 have hsz:(1000:Nat)<=dV:=by decide
 change(if ks.length<dV then _ else _)=_;rw[ö ⋯]
end TM
namespace Od
section
variable{W:Type}[DecidableEq W]{rows:List (W×List W)}
abbrev f_(rows:List (W×List W))(C:W->Prop):Prop:=∀r∈rows,(∀x∈r.2,C x)->C r.1
abbrev O'(rows:List (W×List W))(K:List W):Prop:=∀C:W->Prop,f_ rows C->∀x∈K,C x
def same(a:K.Nodup)(b:L.Nodup)(sK:O' rows K)(c:O' rows L)(d:f_ rows (·∈K))(e:f_ rows (·∈L)):K.Perm L :=
 (DD a b).mpr λx=>⟨λh=>sK _ e x h,λh=>c _ d x h⟩
abbrev told(rows:List (W×List W))(p:Nat):List W:=match rows[p]? with
 |some r=>r.2
 |none=>[]
def kb(h:rows[p]?=bD r):told rows p=r.2:=by unfold told;rw[h]
abbrev sH(K l:List W):Nat:=(l.filter λx=>df (x∉K)).length
abbrev cnt(rows:List (W×List W))(K:List W)(p:Nat):Nat:=sH K (told rows p)
def vV{K l:List W}:sH K l=0↔∀x∈l,x∈K:=by
 unfold sH;rw[Rm,Mx];constructor
 .intro h x a;have:=h x a;simpa using this
 .intro h x a;simpa using h x a
theorem qG(f:w∉K):∀{l:List W},l.Nodup->sH (K++[w]) l+(if w∈l then 1 else 0)=sH K l
 |[],_=>rfl
 |x::l,h=>by
  have⟨g,i⟩:=mA.mp h;have d:=qG f i;unfold sH at d ⊢;by_cases e:x=w
  .subst e;have a:df (x∉K++[x])≠b6:=by simp
   have b:df (x∉K)=b6:=ú f;rw[OH (p:=λy=>df (y∉K++[x])) a,OF (p:=λy=>df (y∉K)) b,k7,ö (nH ..)];rw[ø g]at d;lia
  .have j:w≠x:=λz=>e z.symm;have k:(if w∈x::l then 1 else 0)=if w∈l then 1 else 0:=by simp[j]
   rw[k];by_cases c:x∈K
   .have a:df (x∉K++[w])≠b6:=by simp[c]
    have b:df (x∉K)≠b6:=by simp[c]
    rw[OH (p:=λy=>df (y∉K++[w])) a,OH (p:=λy=>df (y∉K)) b];show d
   .have a:df (x∉K++[w])=b6:=by simp[c,e]
    have b:df (x∉K)=b6:=by simp[c]
    rw[OF (p:=λy=>df (y∉K++[w])) a,OF (p:=λy=>df (y∉K)) b,k7,k7];lia
abbrev Once(rows:List (W×List W)):Prop:=∀r∈rows,r.2.Nodup
def Once.told(h:Once rows)(p:Nat):(told rows p).Nodup:=by
 unfold Od.told;split
 .rename_i r e;show h r (oT e)
 .show .nil
def qH:cnt rows K p=0↔∀x∈told rows p,x∈K:=vV
def pk(h:Once rows)(a:w∉K)(p:Nat):cnt rows (K++[w]) p+(if w∈told rows p then 1 else 0)=cnt rows K p:=qG a (h.told p)
abbrev HW(rows:List (W×List W))(n:Nat)(w:W):List Nat:=(ix n).filter λp=>df (w∈told rows p)
def vW(n:Nat)(w:W):(HW rows n w).Nodup:=XB Hs List.nodup_range
def iV:p∈HW rows n w↔p<n/\w∈told rows p:=by simp[HW]
abbrev aO(ps:List (W×Nat))(w:W):List Nat:=(ps.filter λp=>df (p.1=w)).map (·.2)
theorem qI:∀{l:List W},l.Nodup->aO (l.map λx=>(x,n)) w=if w∈l then [n] else []
 |[],_=>rfl
 |x::l,h=>by
  have⟨b,c⟩:=mA.mp h;have a:=qI (n:=n) (w:=w) c;unfold aO at a ⊢;rw[gs,ID];by_cases e:x=w
  .subst e;rw[ø b]at a;rw[ö (by simp),gs,a,ö (by simp)]
  .rw[ø (by simpa using e),a];have d:w≠x:=λz=>e z.symm;simp[d]
def qJ(a b:List (W×Nat))(w:W):aO (a++b) w=aO a w++aO b w:=by simp[aO]
def vX(h:Once rows)(a:rows[n]?=bD r)(b:∀w,aO ps w=HW rows n w)(w:W):aO (ps++r.2.map λx=>(x,n)) w=HW rows (n+1) w:=by
 rw[qJ,b w,qI (h r (oT a))];unfold HW;rw[ZH,My];congr 1
 rw[ID,P_,kb a];by_cases e:w∈r.2<;>simp[e]
structure RI(rows:List (W×List W))(K0 K:List W)(R:List Nat):Prop where
 Pa:∀t∈R,t<rows.length/\cnt rows K t=0
 all:∀t,t<rows.length->cnt rows K t=0->cnt rows K0 t=0\/t∈R
def RI.start(K:List W):RI rows K K []:=⟨by simp,λt _ h=>.inl h⟩
def RI.step(h:Once rows)(x:RI rows K0 K R)(d:w∉K):RI rows K0 (K++[w]) (R++(HW rows rows.length w).filter λt=>df (cnt rows K t=1)):=by
 show⟨λt ht=>?_,λt ht i=>?_⟩
 .have a:=pk h d t;rcases kj.mp ht with ht|ht
  .have⟨b,e⟩:=x.Pa t ht;show⟨b,⋯⟩
  .have⟨b,e⟩:=lg.mp ht;have⟨f,g⟩:=iV.mp b;rw[ö g]at a;have:cnt rows K t=1:=by simpa using e
   show⟨f,⋯⟩
 .have a:=pk h d t;by_cases c:w∈told rows t
  .rw[ö c]at a;show .inr (kj.mpr (.inr (lg.mpr ⟨iV.mpr ⟨ht,c⟩,by simp;lia⟩)))
  .rw[ø c]at a;rcases x.all t ht ⋯ with z|z
   .show .inl z
   .show .inr (kj.mpr (.inl z))
structure NS(rows:List (W×List W))(K:List W)(d:List Nat)(ps:List (W×Nat)):Prop where
 ok:∀s∈ps,s.2∈d/\s.1∉K/\∃r,rows[s.2]?=bD r/\r.1=s.1
 once:(ps.map (·.1)).Nodup
 all:∀p∈d,∀r,rows[p]?=bD r->r.1∈K\/r.1∈ps.map (·.1)
def NS.start(K:List W):NS rows K [] []:=⟨by simp,by simp,by simp⟩
def NS.skip(x:NS rows K d ps)(f:rows[p]?=bD r)(h:r.1∈K\/r.1∈ps.map (·.1)):NS rows K (d++[p]) ps :=
 ⟨λs hs=>let ⟨a,b,c⟩:=x.ok s hs;⟨by simp[a],b,c⟩,x.once,λq hq g e=>by
  rcases kj.mp hq with hq|hq
  .show x.all q hq g e
  .have:q=p:=by simpa using hq
   subst this;rw[f]at e;cases e;show h⟩
def NS.take(x:NS rows K d ps)(g:rows[p]?=bD r)(h:r.1∉K)(i:r.1∉ps.map (·.1)):NS rows K (d++[p]) (ps++[(r.1,p)]):=by
 show⟨λs hs=>?_,?_,λq hq j f=>?_⟩
 .rcases kj.mp hs with hs|hs
  .have⟨a,b,c⟩:=x.ok s hs;show⟨by simp[a],b,c⟩
  .have:s=(r.1,p):=by simpa using hs
   subst this;show⟨by simp,h,r,g,rfl⟩
 .rw[l0,ti];show⟨x.once,by simp,λa k b l e=>?_⟩;have:b=r.1:=by simpa using l
  subst this;show i (e▸k)
 .rcases kj.mp hq with hq|hq
  .rcases x.all q hq j f with z|z
   .show .inl z
   .show .inr (by simp only[l0,kj];show .inl z)
  .have:q=p:=by simpa using hq
   subst this;rw[g]at f;cases f;show .inr (by simp)
def NS.perm(x:NS rows K d ps)(h:a.Perm ps):NS rows K d a :=
 ⟨λs hs=>x.ok s (h.mem_iff.mp hs),(h.map _).nodup_iff.mpr x.once,λp b r c=>(x.all p b r c).imp id λz=>(h.map _).mem_iff.mpr z⟩
structure LI(rows:List (W×List W))(Hu:List (W×Nat))(R:List Nat):Prop where
 nd:(Hu.map (·.1)).Nodup
 sn:O' rows (Hu.map (·.1))
 wd:∀x∈Hu.map (·.1),x∈rows.map (·.1)
 Pa:∀t∈R,t<rows.length/\cnt rows (Hu.map (·.1)) t=0
 all:∀t r,rows[t]?=bD r->cnt rows (Hu.map (·.1)) t=0->t∈R\/r.1∈Hu.map (·.1)
def LI.step(x:LI rows d R)(n:NS rows (d.map (·.1)) R st)(y:RI rows (d.map (·.1)) (d.map (·.1)++st.map (·.1)) j):LI rows (d++st) j:=by
 have em:(d++st).map (·.1)=d.map (·.1)++st.map (·.1):=l0;have hs:∀z∈st.map (·.1),z∉d.map (·.1)/\∃r∈rows,r.1=z/\∀x∈r.2,x∈d.map (·.1):=λz hz=>by
  have⟨s,hs,rfl⟩:=ke.mp hz;have⟨k,l,r,h,m⟩:=n.ok s hs;have hz:=(x.Pa _ k).2;rw[qH,kb h]at hz;show⟨l,r,oT h,m,hz⟩
 show⟨?_,λC f y hy=>?_,λy hy=>?_,λt o=>by rw[em];show y.Pa t o,λt r g i=>?_⟩
 .rw[em,ti];show⟨x.nd,n.once,λa p b q e=>(hs b q).1 (e▸p)⟩
 .rw[em]at hy;rcases kj.mp hy with hy|hy
  .show x.sn C f y hy
  .obtain⟨_,r,a,b,c⟩:=hs y hy;show b▸f r a λz hz=>x.sn C f z (c z hz)
 .rw[em]at hy;rcases kj.mp hy with hy|hy
  .show x.wd y hy
  .obtain⟨_,r,a,b,c⟩:=hs y hy;show ke.mpr ⟨r,a,b⟩
 .rw[em]at i ⊢;rcases y.all t (eh.mp g).1 i with z|z
  .rcases x.all t r g z with z|z
   .rcases n.all t z r g with z|z
    .show .inr (kj.mpr (.inl z))
    .show .inr (kj.mpr (.inr z))
   .show .inr (kj.mpr (.inl z))
  .show .inl z
def LI.closed(x:LI rows b []):f_ rows (·∈b.map (·.1)):=λr c h=>by
 have⟨t,a⟩:=R8.mp c;rcases x.all t r a (by rw[qH,kb a];show h) with z|z
 .cases z
 .show z
def uF{K L:List W}(h:K.Nodup)(s:∀x∈K,x∈L):K.length<=L.length:=by
 induction K generalizing L with
 |nil=>simp
 |cons a K d =>
  have⟨f,g⟩:=mA.mp h;have b:a∈L:=s a (by simp);have:=d (L:=L.erase a) g λx c=>by
   have i:x≠a:=λe=>f (e▸c);show(Yl i).mpr (s x (by simp[c]))
  rw[Xd b]at this;have:0<L.length:=X0 b;rw[k7];lia
end
end Od
namespace TM
open PySem L2 HH
section
def uG(h:st[j]?=bD (bD (.own,u))):Run (lift (.bor j,a)) st u (st.set j (bD (.loc,u))):=by
 change(match st[j]? with|some (bD (.own,u))=>bD (Ex.ok u,st.set j (bD (.loc,u)))|_=>cb)=_;rw[h]
def nL(h:Run c st cK st1):Run (fJ c body (n+1)) st .nx st1:=af h a5
def qK(h:Run c st b6 st1)(a:Run body st1 .nx st2)(b:Run (fJ c body n) st2 f d):Run (fJ c body (n+1)) st f d:=af h (af a b)
def qL(h:Run (fJ (HB Γ c) (execs Γ body) fuel) st .nx st1)(a:Run (execs Γ ss) st1 f st2):Run (execs Γ (.Lu c body::ss)) st f st2:=fz h a
def gS(hk:k=.loc\/k=.any):Run (dw b6 [i,j] (k,.tup [a,b])) st () ((st.set i (bD (k,a))).set j (bD (k,b))):=by
 rcases hk with rfl|rfl<;>rfl
def yx(h:Run (execs Γ ss) (st.set i (bD (.G',.Hf [] []))) f st1):Run (execs Γ (.newD i::ss)) st f st1:=fz (af (a:=()) (st1:=st.set i (bD (.G',.Hf [] []))) rfl a5) h
def pq(h:st[i]?=bD (bD (.G',.Hf ks us))):Run (iH i) st (ks,us) st:=by
 change iH i st=_;unfold iH;rw[h]
def sI:Run (jX (k,.str y)) st y st:=rfl
def Bp(a:st[i]?=bD (bD (.G',.Hf ks us)))(b:y∉ks)(c:ks.length<dV):Run (lh i y (.own,.lst xs)) st () (st.set i (bD (.G',.Hf (ks++[y]) (us++[.lst xs])))):=by
 change lh i y (.own,.lst xs) st=_;unfold lh
 dsimp only
 rw[a]
 dsimp only
 rw[ö ⟨b,c⟩]
def Bq(a:st[i]?=bD (bD (.G',.Hf ks us)))(b:dI ks us y=bD (.lst xs))(c:xs.length<dV):Run (lj i y u) st () (st.set i (bD (.G',.Hf ks (jj ks us y (.lst (xs++[u])))))):=by
 change lj i y u st=_;unfold lj;rw[a]
 dsimp only
 rw[b]
 dsimp only
 rw[ö c]
def yy(b:Run (ev Γ a) st (k,.str y) st1)(c:st1[i]?=bD (bD (.G',.Hf ks us))):Run (HB Γ (.inD neg a i)) st (Sr neg y ks) st1 :=
 af b (af sI (af (pq c) a5))
def yz(b:Run (ev Γ c) st (.own,.lst xs) st1)(a:st1[i]?=bD (bD (.G',.Hf ks us)))(d:Run (ev Γ e) st1 (k,.str y) st1)(g:y∉ks)(h:ks.length<dV)
  (j:Run (execs Γ ss) (st1.set i (bD (.G',.Hf (ks++[y]) (us++[.lst xs])))) f l):Run (execs Γ (.putD i e c::ss)) st f l:=by
 show fz ?_ j;show af b (af (pq a) (af d (af sI (af (Bp a g h) a5))))
def yA(a:st[i]?=bD (bD (.G',.Hf ks us)))(b:Run (ev Γ c) st (k,.str y) st)(d:y∈ks)(e:Run (ev Γ g) st r st)(h:Run (lift r) st u st)(j:dI ks us y=bD (.lst xs))(l:xs.length<dV)
  (m:Run (execs Γ ss) (st.set i (bD (.G',.Hf ks (jj ks us y (.lst (xs++[u])))))) f n):Run (execs Γ (.Jj i c g::ss)) st f n:=by
 show fz ?_ m;show af (pq a) (af b (af sI (af (pq a) ?_)));rw[ö d];show af e (af h (af (Bq a j l) a5))
def FV(h:st[i]?=bD (bD (.G',u))):Run (ev Γ (.NJ i)) st (.bor i,u) (st.set i (bD (.own,u))):=by
 change xA i st=_;unfold xA;rw[h]
def Ej(c:st[i]?=bD (bD (.own,.Hf ks us)))(d:Run (ev Γ a) st (k,.str y) st)(e:Run (ev Γ b) st z st)(f:Run (lift z) st u st)(g:(match dI ks us y with|some v=>(Kd.loc,v)|none=>(.loc,u))=r):
  Run (ev Γ (.J5 i a b)) st r st:=by
 show af (dY c) (af (a:=()) (st1:=st) rfl (af d (af (a:=y) (st1:=st) rfl (af e (af f (af (dY c) (cp ?_)))))));subst g;rfl
def FW(b:st[i]?=bD (bD (.own,.lst us)))(d:Run (ev Γ e) st (k1,.int (j:Nat)) st)(c:us[j]?=bD (.int o))(g:Run (ev Γ h) st (k2,.int w) st)
  (k:Run (execs Γ ss) (st.set i (bD (.own,.lst (us.set j (.int (o - w)))))) f l):Run (execs Γ (.aug b6 i e h::ss)) st f l:=by
 have hl:qi i st=bD (.ok us,st):=by unfold qi;rw[b];rfl
 have m:j<us.length:=(eh.mp c).1;have n:qj us (j:Nat)=bD o:=by
  unfold qj;rw[ö ⋯,M_,c]
 have p:KU us.length (j:Nat)=bD j:=by
  unfold KU;rw[ö ⋯]
  first|(rw[ö ⋯];simp)|simp[m]
 show fz (af (a:=us) (st1:=st) hl (af d (af (a:=(j:Int)) (st1:=st) rfl (af (a:=us) (st1:=st) hl (af (cp n) (af g (af (a:=w) (st1:=st) rfl (af (a:=()) (st1:=st.set i (bD (.own,.lst (us.set j (.int (o - w)))))) ?_ a5)))))))) k;change modS i (d8 (.int (j:Nat)) (.int (vH b6 o w))) st=_;unfold modS;rw[b];simp only[Kd.root,if_true,d8];rw[p];rfl
def FX(a:st[i]?=bD (bD (.own,u)))(b:xx u=bD r):Run (ev Γ (.NK i)) st r st:=af (dY a) (cp b)
def Ek(a:Run (ev Γ e) st r st1)(b:Run (dw b6 is r) st1 () st2)(c:Run (execs Γ ss) st2 f d):Run (execs Γ (.J6 is e::ss)) st f d:=fz (af a (af b a5)) c
end
theorem iW(f:Str->U)(y:Str):∀ks:List Str,dI ks (ks.map f) y=if y∈ks then bD (f y) else cb
 |[]=>rfl
 |k::ks=>by
  rw[gs];change(if k=y then bD (f k) else dI ks (ks.map f) y)=_;by_cases e:k=y
  .subst e;rw[ö rfl,ö (by simp)]
  .rw[ø e,iW f y ks];have:(y∈k::ks)↔y∈ks:=by simp[tj e]
   by_cases h:y∈ks
   .rw[ö h,ö (this.mpr h)]
   .rw[ø h,ø λz=>h (this.mp z)]
theorem lR(f:Str->U)(y:Str)(u:U):∀ks:List Str,ks.Nodup->jj ks (ks.map f) y u=ks.map λk=>if k=y then u else f k
 |[],_=>rfl
 |k::ks,h=>by
  have⟨a,b⟩:=mA.mp h;rw[gs,gs];change(if k=y then u::ks.map f else f k::jj ks (ks.map f) y u)=_;by_cases e:k=y
  .subst e;rw[ö rfl,ö rfl];congr 1
   show ts λz hz=>?_;have c:z≠k:=λq=>a (by rw[<-q];show hz);rw[ø c]
  .rw[ø e,ø e,lR f y u ks b]
abbrev stN(s:Str×Nat):U:=.tup [.str s.1,.int (s.2:Nat)]
theorem nM(f:α->Int):∀(ns:List α),intsOf (ns.map λa=>U.int (f a))=bD (ns.map f)
 |[]=>rfl
 |n::ns=>by change(intsOf (ns.map λa=>U.int (f a))).map _=_;rw[nM f ns];rfl
def Br(h:ps.length<64)(c:(ps.map (·.1)).Nodup):∃a:List (Str×Nat),a.Perm ps/\xx (.Hf (ps.map (·.1)) (ps.map λp=>.int (p.2:Nat)))=bD (.own,.lst (a.map stN)):=by
 have d:=nM (λp:Str×Nat=>((p.2:Nat):Int)) ps;have hz:(ps.map (·.1)).zip (ps.map λp:Str×Nat=>((p.2:Nat):Int))=ps.map λp=>(p.1,((p.2:Nat):Int)):=by
  rw[Z1]
 let P:=jT ((ps.map λp=>(p.1,((p.2:Nat):Int))).map (·.1));have b:P.Perm (ix ps.length):=by
  have:=gr ((ps.map λp=>(p.1,((p.2:Nat):Int))).map (·.1));simpa[P] using this
 show⟨P.map λi=>ps.getD i (uk,0),?_,?_⟩
 .show(b.map _).trans ?_;have:(ix ps.length).map (λi=>ps.getD i (uk,0))=ps:=by
   apply L9
   .simp
   .intro i j e;simp[NF,e]
  rw[this]
 .change(intsOf (ps.map λp=>U.int (p.2:Nat))).bind _=_;rw[d];change(if (ps.map (·.1)).length<64/\(ps.map (·.1)).Nodup/\(ps.map (·.1)).length=(ps.map λp:Str×Nat=>((p.2:Nat):Int)).length then _ else _)=_;rw[ö ⟨by simpa using h,c,by simp⟩,hz];congr 3
  change(Ar _).map vG=_;change(P.map λi=>(ps.map λp=>(p.1,((p.2:Nat):Int))).getD i (uk,0)).map vG=_;rw[i4,i4];show ts λi f=>?_;have g:i<ps.length:=vu.mp (b.mem_iff.mp f);simp[NF,g,vG,stN]
def El:bO .isin (.str x) (.Hf ks vs)=bD (df (x∈ks)):=rfl
def eW:bO .Ht (.str x) (.Hf ks vs)=bD (!df (x∈ks)):=rfl
def yB{x:Str}{ss:List Str}:bO .isin (.str x) (.lst (ss.map U.str))=bD (df (x∈ss)):=by
 have h:=@fY x ss;have e:bO .Ht (.str x) (.lst (ss.map U.str))=(bO .isin (.str x) (.lst (ss.map U.str))).map (!·):=rfl;rw[e,hA]at h;have⟨b,a,c⟩:=h;rw[a];congr 1
 cases b<;>simp_all
def Em:bO .ne (.str a) (.str b)=bD (!df (a=b)):=by
 have:bO .ne (.str a) (.str b)=(bO .eq (.str a) (.str b)).map (!·):=by
  simp only[bO];rw[ö ⟨rfl,rfl⟩,ö ⟨rfl,rfl⟩];rfl
 rw[this,pj];rfl
def kf(a:List Bool):Jw .all [(k,.lst (a.map .bl))]=bD (.loc,.bl (a.all id)):=by
 change(k_ (a.map U.bl)).map _=_;have:∀a:List Bool,k_ (a.map U.bl)=bD a:=λa=>by
  induction a with
  |nil=>rfl
  |cons b a c=>change(k_ (a.map U.bl)).map _=_;rw[c];rfl
 rw[this];rfl
section
end
def uH(h:ks.length<1000)(a:x∉ks):d8 (.str x) u (.Hf ks us)=bD (.Hf (ks++[x]) (us++[u])):=by
 rw[uE h];unfold dput;rw[ø a]
def qM(h:IY 50 (.lst us)=b6):bO .ne (.lst us) (.lst [])=bD (!us.isEmpty):=by
 simp only[bO];rw[ö ⟨h,by simp[IY,du]⟩];cases us with
 |_=>simp[cC,cO]
theorem nN(f:α->Int):∀(l:List α) (n:Nat),du n (l.map λa=>U.int (f a))=b6
 |[],n=>by simp[du]
 |a::l,n=>by rw[gs,du,nN f l n];simp[IY]
theorem qN:∀(ss:List (Str×Nat)) (n:Nat),du (n+1) (ss.map stN)=b6
 |[],n=>by simp[du]
 |s::ss,n=>by rw[gs,du,qN ss n];simp[stN,IY,du]
def pv:bO .eq (.tup (ss.map U.str)) (.tup [])=bD (df (ss=[])):=by
 simp only[bO];rw[ö ⟨by simp[IY,gz],by simp[IY,du]⟩];cases ss with
 |_=>simp[cC,cO]
theorem lS{cond:M Bool}(h:bc src st)(a b g:α->U)(p:α->Bool):∀(c:List α) (acc:List U),acc.length+c.length<=dV ->
  (∀y∈c,Run cond (bD (.loc,a y)::bD (.loc,b y)::st) (p y) (bD (.loc,a y)::bD (.loc,b y)::st)/\Run elt (bD (.loc,a y)::bD (.loc,b y)::st) (.loc,g y) (bD (.loc,a y)::bD (.loc,b y)::st)) ->
  Run (bS 2 b6 cond elt src (c.map λy=>(Kd.loc,U.tup [a y,b y])) acc) st (acc++(c.filter p).map g) st
 |[],acc,_,_=>by rw[KS,P_,KS,u7];show uA h
 |y::c,acc,hl,f=>by
  have⟨d,j⟩:=f y (by simp);rw[k7]at hl;have i:Run (dw b6 (ix 2) (.loc,.tup [a y,b y])) (ki 2 cb++st) () (bD (.loc,a y)::bD (.loc,b y)::st):=gS (.inl rfl);cases e:p y with
  |true =>
   rw[e]at d;show pe (s1:=bD (.loc,a y)::bD (.loc,b y)::st) (s2:=bD (.loc,a y)::bD (.loc,b y)::st) (s3:=bD (.loc,a y)::bD (.loc,b y)::st) (s4:=bD (.loc,a y)::bD (.loc,b y)::st) h i d j aG ⋯ ?_;have:=lS h a b g p c (acc++[g y]) (by simp;lia) λz hz=>f z (by simp[hz]);rw[ID,ö e,gs];simpa using this
  |false =>
   rw[e]at d;show yp (s1:=bD (.loc,a y)::bD (.loc,b y)::st) (s2:=bD (.loc,a y)::bD (.loc,b y)::st) h i d ?_;have:=lS h a b g p c acc ⋯ λz hz=>f z (by simp[hz]);rw[ID,ø (by simp[e])];show this
def set_range(n:Nat)(f:Nat->α)(t:Nat)(v:α):((ix n).map f).set t v=(ix n).map λp=>if p=t then v else f p:=by
 apply L9
 .simp
 .intro i a b;simp only[List.getElem_set,Zm,List.getElem_range];by_cases e:t=i
  .subst e;simp
  .rw[ø e,ø (tj e)]
def Bs{rows:List Row}{t:Nat}(h:rows[t]?=bD r):Ij (rows.map A') (t:Int)=bD (A' r):=dF (by simp[h])
section
def Cd(c:Run (ev Γ a) st x st1)(d:ia x.2=bD e)(f:Run (ev Γ b) st1 y st2)(g:ia y.2=bD h)(i:qd ln e h=bD r):Run (ev Γ (.LL ln a b)) st r st2 :=
 af c (af (cp d) (af f (af (cp g) (cp i))))
end
def gB(h:ss.length<4000):ia (.lst (ss.map .str))=bD (aD ss):=by
 change(strsOf (ss.map U.str)).bind _=_;rw[dO];change(if ss.length+1<Ja then _ else _)=_;rw[ö (by change ss.length+1<4096;lia)]
def gb(c:l.Perm m)(hs:m.Pairwise (λa b=>Jy a b=b6)):aL l=m:=eN ((bN l).trans c) (cn l) hs
end TM
namespace TM
open PySem L2
section
def dC(h:st[i]?=bD (bD (.io,u))):Run (ev Γ (.var i)) st (.bor i,u) st:=dY h
end
abbrev En:List S :=
   [.ite (.cmp .eq (.bi .len [.var 0]) (.cst (.int 0)))
      [.ret (.lst [.var 1,.cst (.int 0),.cst (.int 1)])]
      [],
    .set 2 (.pop 0),
    .ret (.lst [(.bin .ML (.var 2) (.cst (.int 2))),(.cst (.int 0)),(.bin .mod (.var 2) (.cst (.int 2)))])]
abbrev yC:Fn:=⟨"_law_source",2,3,.KO [0]::En⟩
def Vb:(3:Nat)<=dV:=by decide
def yD:ic Γ yC [0] En [.lst [],.int k]=bD (.ok (.own,.tup [.lst [.int k,.int 0,.int 1],.lst []])):=by
 show cI (st0:=[bD (.io,.lst []),bD (.loc,.int k),cb]) (f:=.rt .own (.lst [.int k,.int 0,.int 1])) (st:=[bD (.io,.lst []),bD (.loc,.int k),cb]) rfl rfl ?_ rfl rfl;apply sD
 all_goals repeat' (first|show dC rfl|show bw (by simp)|show bC|show Vb|sizeOf_list_dec)
def yE:ic Γ yC [0] En [.lst ((ns++[c]).map .int),.int k]=bD (.ok (.own,.tup [.lst [.int (c / 2),.int 0,.int (c % 2)],.lst (ns.map .int)])):=by
 have hl:bO .eq (.int (((ns++[c]).map U.int).length:Nat)) (.int 0)=bD cK:=bw (by simp;lia);have a:((ns++[c]).map U.int).dropLast=ns.map .int:=by simp
 have b:Run (ev Γ (.pop 0)) [bD (.io,.lst ((ns++[c]).map .int)),bD (.loc,.int k),cb] (.loc,.int c) [bD (.io,.lst (ns.map .int)),bD (.loc,.int k),cb]:=by
  have:=FR (Γ:=Γ) (st:=[bD (.io,.lst ((ns++[c]).map .int)),bD (.loc,.int k),cb]) (i:=0) (u:=.int c) (us:=(ns++[c]).map .int) (k:=.io) rfl rfl (by simp);rw[a]at this;show this
 show cI (st0:=[bD (.io,.lst ((ns++[c]).map .int)),bD (.loc,.int k),cb]) (f:=.rt .own (.lst [.int (c / 2),.int 0,.int (c % 2)])) (st:=[bD (.io,.lst (ns.map .int)),bD (.loc,.int k),bD (.loc,.int c)]) rfl rfl ?_ rfl rfl;show a9 (st1:=[bD (.io,.lst ((ns++[c]).map .int)),bD (.loc,.int k),cb]) ?_ ay (aB (st2:=[bD (.io,.lst (ns.map .int)),bD (.loc,.int k),bD (.loc,.int c)]) b aN ?_)
 all_goals repeat' (first|show dC rfl|show hl|show bC|show Vb|sizeOf_list_dec)
abbrev fK(a t w:Int):U:=.lst [.int a,.int t,.int w]
abbrev nO(a t w m:Int):Int:=if w=0 then a % m else((a % 10 ^ 15+1) * 48271+(t+1) * (t+1) * 16807+(t+1) * 7919) % 2147483647 * 69621 % 2147483629 % m
abbrev yF(a w m:Int):Int:=if w=0 then a / m else a
abbrev Ce:List S :=
   [.put 0 (.cst (.int 1)) (.bin .add (.idx (.var 0) (.cst (.int 1))) (.cst (.int 1))),
    .ite (.cmp .eq (.idx (.var 0) (.cst (.int 2))) (.cst (.int 0)))
      [.set 2 (.bin .mod (.idx (.var 0) (.cst (.int 0))) (.var 1)),
      .put 0 (.cst (.int 0)) (.bin .ML (.idx (.var 0) (.cst (.int 0))) (.var 1)),
      .ret (.var 2)]
      [],
    .set 3 (.idx (.var 0) (.cst (.int 1))),
    .set 4 (.bin .add (.bin .add (.bin .mul (.bin .add (.bin .mod (.idx (.var 0) (.cst (.int 0))) (.bin .pow (.cst (.int 10)) (.cst (.int 15)))) (.cst (.int 1))) (.cst (.int 48271))) (.bin .mul (.bin .mul (.var 3) (.var 3)) (.cst (.int 16807)))) (.bin .mul (.var 3) (.cst (.int 7919)))),
    .ret (.bin .mod (.bin .mod (.bin .mul (.bin .mod (.var 4) (.cst (.int 2147483647))) (.cst (.int 69621))) (.cst (.int 2147483629))) (.var 1))]
abbrev uI:Fn:=⟨"_law_draw",2,5,.KO [0]::Ce⟩
def yG(i:0<=t)(j:t<2 ^ 62)(m0:0<m)(m1:m<1073741824):ic Γ uI [0] Ce [fK a t w,.int m]=bD (.ok (.loc,.tup [.int (nO a t w m),fK (yF a w m) (t+1) w])):=by
 unfold nO yF fK;have c:∀a t w:Int,Ij [U.int a,.int t,.int w] 0=bD (.int a):=λa t w=>rfl;have d:∀a t w:Int,Ij [U.int a,.int t,.int w] 1=bD (.int t):=λa t w=>rfl;have e:∀a t w:Int,Ij [U.int a,.int t,.int w] 2=bD (.int w):=λa t w=>rfl;have g:∀a t w x:Int,d8 (.int 1) (.int x) (.lst [.int a,.int t,.int w])=bD (.lst [.int a,.int x,.int w]):=λa t w x=>rfl;have h:∀a t w x:Int,d8 (.int 0) (.int x) (.lst [.int a,.int t,.int w])=bD (.lst [.int x,.int t,.int w]):=λa t w x=>rfl;by_cases b:w=0
 .subst b;rw[ö rfl,ö rfl];show cI (st0:=[bD (.io,.lst [.int a,.int t,.int 0]),bD (.loc,.int m),cb,cb,cb]) (f:=.rt .loc (.int (a % m))) (st:=[bD (.io,.lst [.int (a / m),.int (t+1),.int 0]),bD (.loc,.int m),bD (.loc,.int (a % m)),cb,cb]) rfl rfl ?_ rfl rfl;show iS (rv:=(.loc,.int (t+1))) (rk:=(.loc,.int 1)) (k:=.io) (k':=.io) (bo (aQ (dC rfl) aj ∅ (b9 (d _ _ _))) aj ∅ cB) rfl aj (av aG (av aG aC)) rfl rfl (g _ _ _ _) ?_;apply sD
  .repeat' (first|show dC rfl|show b9 (e _ _ _)|show bw (show((0:Int)==0)=b6 from rfl)|sizeOf_list_dec)
  .show aB (st2:=[bD (.io,.lst [.int a,.int (t+1),.int 0]),bD (.loc,.int m),bD (.loc,.int (a % m)),cb,cb]) (bo (aQ (dC rfl) aj ∅ (b9 (c _ _ _))) (ae rfl) ∅ (eD m0)) aN ?_;show iS (rv:=(.loc,.int (a / m))) (rk:=(.loc,.int 0)) (k:=.io) (k':=.io) (bo (aQ (dC rfl) aj ∅ (b9 (c _ _ _))) (ae rfl) ∅ (lJ ⟨m0,m1⟩)) rfl aj (av aG (av aG aC)) rfl rfl (h _ _ _ _) ?_
   repeat' sizeOf_list_dec
 .rw[ø b,ø b];show cI (st0:=[bD (.io,.lst [.int a,.int t,.int w]),bD (.loc,.int m),cb,cb,cb]) (f:=.rt .loc (.int (((a % 10 ^ 15+1) * 48271+(t+1) * (t+1) * 16807+(t+1) * 7919) % 2147483647 * 69621 % 2147483629 % m))) (st:=[bD (.io,.lst [.int a,.int (t+1),.int w]),bD (.loc,.int m),cb,bD (.loc,.int (t+1)),bD (.loc,.int ((a % 10 ^ 15+1) * 48271+(t+1) * (t+1) * 16807+(t+1) * 7919))]) rfl rfl ?_ rfl rfl;show iS (rv:=(.loc,.int (t+1))) (rk:=(.loc,.int 1)) (k:=.io) (k':=.io) (bo (aQ (dC rfl) aj ∅ (b9 (d _ _ _))) aj ∅ cB) rfl aj (av aG (av aG aC)) rfl rfl (g _ _ _ _) ?_;apply a9
  .repeat' (first|show dC rfl|show b9 (e _ _ _)|show bw (show(w==0)=cK by simp[b])|sizeOf_list_dec)
  .show ay
  .repeat' (first|show dC rfl|show b9 (c _ _ _)|show b9 (d _ _ _)|show eD m0|sizeOf_list_dec)
abbrev Src(T:Int)(u:U):Prop:=∃a t w,u=fK a t w/\0<=t/\t<=T
def Src.up(h:Src T u)(l:T<=b):Src b u:=let ⟨a,t,w,e,c,d⟩:=h;⟨a,t,w,e,c,Þ d l⟩
abbrev bV(Γ:Tab):Prop:=∀(T m:Int) (u:U),Src T u->T<2 ^ 62->0<m->m<1073741824->∃n u',Γ "_law_draw" [u,.int m]=bD (.ok (.loc,.tup [.int n,u']))/\0<=n/\n<m/\Src (T+1) u'
def qO(m0:0<m):0<=nO a t w m/\nO a t w m<m:=by
 unfold nO;split
 .show⟨Qq _ ⋯,QT _ m0⟩
 .show⟨Qq _ ⋯,QT _ m0⟩
def yH(h:HL Pg "_law_draw" uI):bV (Hm Pg (d+1)):=by
 rintro T m u ⟨a,t,w,rfl,b,c⟩ e m0 m1;show⟨nO a t w m,fK (yF a w m) (t+1) w,?_,(qO m0).1,(qO m0).2,⟨_,_,_,rfl,⋯,⋯⟩⟩;rw[cT h _ rfl];show yG b ⋯ m0 m1
section
def yI(p:bV Γ)(q:st[i]?=bD (bD (k0,b)))(f:k0.root=b6)(r:Run (ev Γ e) st (.loc,.int m) st1)(d:st1[i]?=bD (bD (k,u)))(hk:k.root=b6)(g:Src T u)(s:T<2 ^ 62)(m0:0<m)(m1:m<1073741824):
  ∃n u',Run (ev Γ (.Hg "_law_draw" [.var i,e] [0])) st (.loc,.int n) (st1.set i (bD (k,u')))/\0<=n/\n<m/\Src (T+1) u':=by
 have⟨n,u',v,x,y,hs⟩:=p T m u g s m0 m1;show⟨n,u',?_,x,y,hs⟩;obtain⟨a,t,w,rfl,_,_⟩:=hs;obtain⟨h,l,o,rfl,_,_⟩:=g;have z:Run (ev Γ (.var i)) st (.bor i,b) st:=by
  have:=dY q (by rintro rfl;cases f);unfold kv at this;rw[ö f]at this;show this
 have c:[((Kd.bor i,b):Kd×U),(.loc,.int m)].map (d7 st1)=[(.bor i,fK h l o),(.loc,.int m)]:=by
  change [d7 st1 (.bor i,b),(.loc,.int m)]=_;unfold d7
  dsimp only
  rw[d];simp[hk]
 show sE (rs:=[(.bor i,b),(.loc,.int m)]) (ws:=[fK a t w]) (st1:=st1) (aa z (aa r ah)) ?_ ?_ (.inr rfl) ?_ ?_
 .rw[c];show⟨⟨k,hk,d⟩,trivial⟩
 .rw[c];show v
 .rw[c];change((b6&&df ([bD i].Nodup))&&(b6&&(b6&&b6)))=b6;simp
 .rw[c];change(match ib [(Kd.bor i,fK h l o),(.loc,.int m)] 0 with|some j=>(match fK a t w,st1[j]? with|.lst us,bD (bD (k,_))=>gP _ [] [] (st1.set j (bD (k,.lst us)))|_,_=>cb)|none=>cb)=_;change(match fK a t w,st1[i]? with|.lst us,bD (bD (k,_))=>gP _ [] [] (st1.set i (bD (k,.lst us)))|_,_=>cb)=_;rw[d];rfl
def eC(b:bV Γ)(a:st[i]?=bD (bD (k,u)))(hk:k.root=b6)(c:Run (ev Γ e) st (.loc,.int m) st)(d:Src T u)(f:T<2 ^ 62)(m0:0<m)(m1:m<1073741824):
  ∃n u',Run (ev Γ (.Hg "_law_draw" [.var i,e] [0])) st (.loc,.int n) (st.set i (bD (k,u')))/\0<=n/\n<m/\Src (T+1) u':=yI b a hk c a hk d f m0 m1
end
section
def jr(h:st[i]?=bD (bD (.loc,.bl b))):Run (HB Γ (.var i)) st b st:=af (dY h) (cp rfl)
end
abbrev yJ:List S :=
   [.set 6 (.idx (.var 1) (.Hg "_law_draw" [.var 0,.bi .len [.var 1]] [0])),
   .ite (.and [.var 3,.cmp .gt (.var 2) (.cst (.int 0))])
    [.set 6 (.idx (.var 1) (.Hg "_law_draw" [.var 0,.var 2] [0]))]
    [],
   .ite (.cmp .Ht (.var 6) (.var 4))
    [.app 4 (.var 6)]
    []]
abbrev FY:List U:=[.int 0,.int 1,.int 1,.int 2,.int 2,.int 3,.int 8,.int 2]
abbrev FZ:List S :=
   [.set 4 (.lst []),
    .Hy cK [5] .IX [.idx (.lst [.cst (.int 0),.cst (.int 1),.cst (.int 1),.cst (.int 2),.cst (.int 2),.cst (.int 3),.cst (.int 8),.cst (.int 2)]) (.Hg "_law_draw" [.var 0,.cst (.int 8)] [0])] yJ,
    .ret (.tup [(.idx (.var 1) (.var 2)),(.bi .tuple [(.var 4)])])]
abbrev Eo:Fn:=⟨"_law_row",4,7,.KO [0]::FZ⟩
abbrev d4(u:U)(ws:List Str)(at_:Int)(b:Bool)(told:List Str)(o5 o6:Option (Kd×U)):aw:=[bD (.io,u),bD (.any,.lst (ws.map .str)),bD (.loc,.int at_),bD (.loc,.bl b),bD (.own,.lst (told.map .str)),o5,o6]
def pw{ws:List Str}{n:Int}(b:0<=n)(c:n<ws.length):∃x,x∈ws/\ws[n.toNat]?=bD x/\Ij (ws.map U.str) n=bD (.str x):=by
 have⟨k,rfl⟩:=x3 b;have a:k<ws.length:=by lia
 show⟨ws[k],KX a,by simp[a],dF (by simp[a])⟩
def yK(j:bV Γ)(s:Src T u)(G:T+1<2 ^ 62)(H:ws.length<1000000)(I:0<=at_)(J:at_<ws.length)(L:told.length<=8):
  ∃u' x a,Run (execs Γ yJ) (d4 u ws at_ b told o5 o6) .nx (d4 u' ws at_ b a o5 (bD (.any,.str x)))/\Src (T+2) u'/\(a=told\/(x∈ws/\x∉told/\a=told++[x])):=by
 have t:(8:Nat)<dV:=by decide
 have⟨n,f,v,w,l,s1⟩:=eC (st:=d4 u ws at_ b told o5 o6) j (i:=0) (k:=.io) (e:=.bi .len [.var 1]) (m:=((ws.map U.str).length:Nat)) rfl rfl (bW (aa (ax rfl) ah) trivial bC) s ⋯ (by simp;lia) (by simp;lia);rw[dt]at l;obtain⟨x,A,_,ex⟩:=pw w l;have o:Run (ev Γ (.idx (.var 1) (.Hg "_law_draw" [.var 0,.bi .len [.var 1]] [0]))) (d4 u ws at_ b told o5 o6) (.any,.str x) (d4 f ws at_ b told o5 o6):=aQ (ax rfl) v trivial (b9 (k:=.any) ex);have d:∀(c:U) (y:Str),y∈ws->Src (T+2) c->∃u' x a,Run (execs Γ [.ite (.cmp .Ht (.var 6) (.var 4)) [.app 4 (.var 6)] []]) (d4 c ws at_ b told o5 (bD (.any,.str y))) .nx (d4 u' ws at_ b a o5 (bD (.any,.str x)))/\Src (T+2) u'/\(a=told\/(x∈ws/\x∉told/\a=told++[x])):=by
  intro c y g hs;by_cases h:y∈told
  .show⟨c,y,told,?_,hs,.inl rfl⟩;show a9 (aK (ax rfl) (aE rfl) ∅ (fY.trans (by simp[h]))) ay ay
  .show⟨c,y,told++[y],?_,hs,.inr ⟨g,h,rfl⟩⟩;show fX (aK (ax rfl) (aE rfl) ∅ (fY.trans (by simp[h]))) (gQ (k:=.own) (k':=.own) rfl (ax rfl) (iQ rfl) rfl rfl (by simp;lia) ay) ?_;rw[show told.map U.str++[U.str y]=(told++[y]).map U.str by simp];show ay
 by_cases p:b=b6/\0<at_
 .have⟨rfl,r⟩:=p;have⟨N,c,B,C,O,s2⟩:=eC (st:=d4 f ws at_ b6 told o5 (bD (.any,.str x))) j (i:=0) (k:=.io) (e:=.var 2) (m:=at_) rfl rfl (ae rfl) s1 ⋯ r ⋯;obtain⟨y,g,_,D⟩:=pw (ws:=ws) C ⋯;have⟨u',z,a,q,hs,ho⟩:=d c y g (s2.up ⋯);show⟨u',z,a,aB o jL (fX (nG (sA (jr rfl) (dn (aK (ae rfl) aj trivial (gR (by simp[r])))))) (aB (aQ (ax rfl) B trivial (b9 (k:=.any) D)) jL ay) q),hs,ho⟩
 .have⟨u',z,a,q,hs,ho⟩:=d f x A (s1.up ⋯);show⟨u',z,a,aB o jL (a9 (st1:=d4 f ws at_ b told o5 (bD (.any,.str x))) (nG ?_) ay q),hs,ho⟩;cases b with
  |false=>show yo (jr rfl)
  |true=>show sA (jr rfl) (dn (aK (ae rfl) aj trivial (gR (by simp at p ⊢;lia))))
abbrev lT(Γ:Tab):Prop:=∀(T at_:Int) (u:U) (ws:List Str) (b:Bool),Src T u->T+17<2 ^ 62->ws.length<1000000->0<=at_->at_<ws.length->∃(x:Str) (told:List Str) (u':U),Γ "_law_row" [u,.lst (ws.map .str),.int at_,.bl b]=bD (.ok (.loc,.tup [.tup [.str x,.tup (told.map .str)],u']))/\ws[at_.toNat]?=bD x/\told.Nodup/\(∀y∈told,y∈ws)/\told.length<=8/\Src (T+17) u'
def Bt(a:0<=n)(b:n<8):∃m:Nat,m<=8/\Ij FY n=bD (.int (m:Nat)):=by
 have⟨k,rfl⟩:=x3 a;have:k=0\/k=1\/k=2\/k=3\/k=4\/k=5\/k=6\/k=7:=by lia
 rcases this with rfl|rfl|rfl|rfl|rfl|rfl|rfl|rfl
 .show⟨0,⋯,rfl⟩
 .show⟨1,⋯,rfl⟩
 .show⟨1,⋯,rfl⟩
 .show⟨2,⋯,rfl⟩
 .show⟨2,⋯,rfl⟩
 .show⟨3,⋯,rfl⟩
 .show⟨8,⋯,rfl⟩
 .show⟨2,⋯,rfl⟩
def Bu(o:bV Γ){ws:List Str}{T at_:Int}(p:Src T u)(hT:T+17<2 ^ 62)(C:ws.length<1000000)(s:0<=at_)(v:at_<ws.length):
  ∃(x:Str) (told:List Str) (u':U),ic Γ Eo [0] FZ [u,.lst (ws.map .str),.int at_,.bl b]=bD (.ok (.loc,.tup [.tup [.str x,.tup (told.map .str)],u']))/\ws[at_.toNat]?=bD x/\told.Nodup/\(∀y∈told,y∈ws)/\told.length<=8/\Src (T+17) u':=by
 have D:(8:Nat)<dV:=by decide
 obtain⟨x,_,G,ex⟩:=pw s v;have⟨n,w,H,I,J,s1⟩:=eC (st:=d4 u ws at_ b [] cb cb) o (i:=0) (k:=.io) (e:=.cst (.int 8)) (m:=8) rfl rfl aj p ⋯ ⋯ ⋯;have⟨m,hm,em⟩:=Bt I J;obtain⟨st',L,g,told,o5,o6,rfl,s2,j,l,A,_⟩:=bQ (rs:=[(.loc,.int (m:Nat))]) (t:=cK) (is:=[5]) (body:=execs Γ yJ) (λi:Nat=>(Kd.loc,U.int (0+(i:Int)))) (λd r st=>∃(g:U) (told:List Str) (o5 o6:Option (Kd×U)),st=d4 g ws at_ b told o5 o6/\Src (T+1+2 * (d.length:Nat)) g/\told.Nodup/\(∀y∈told,y∈ws)/\told.length<=d.length/\d.length+r.length=m)
  (λd r st _=>trivial) (λd y r st h=>by
   have⟨g,told,o5,o6,rfl,s2,j,l,A,N⟩:=h;simp only[k7]at N;have⟨O,z,Q,q,s3,ho⟩:=yK o (u:=g) (ws:=ws) (told:=told) (b:=b) (at_:=at_) (o5:=bD (.loc,.int (0+(y:Int)))) (o6:=o6) s2 ⋯ C s v ⋯;show⟨d4 g ws at_ b told (bD (.loc,.int (0+(y:Int)))) o6,_,aN,q,O,Q,_,_,rfl,s3.up (by simp;lia),?_⟩;rw[i7,JY];rcases ho with rfl|⟨Y,h2,rfl⟩
   .show⟨j,l,⋯,⋯⟩
   .show⟨ti.mpr ⟨j,by simp,λa ha c B=>by rw[i0]at B;subst B;show λe=>h2 (e▸ha)⟩,λy hy=>?_,by simp;lia,⋯⟩;rcases kj.mp hy with hy|hy
    .show l y hy
    .rw[i0]at hy;subst hy;show Y) (ix m) [] (d4 w ws at_ b [] cb cb) ⟨w,[],cb,cb,rfl,by simpa using s1,by simp,by simp,by simp,by simp⟩
 rw[i6,Js]at s2 A;show⟨x,told,g,?_,G,j,l,⋯,s2.up ⋯⟩;show cI (st0:=[bD (.io,u),bD (.any,.lst (ws.map .str)),bD (.loc,.int at_),bD (.loc,.bl b),cb,cb,cb]) (f:=.rt .loc (.tup [.str x,.tup (told.map .str)])) (st:=d4 g ws at_ b told o5 o6) rfl ?_ ?_ rfl rfl
 .obtain⟨_,_,_,rfl,_⟩:=p;rfl
 show aB (st2:=d4 u ws at_ b [] cb cb) (bE ah trivial aC (js _)) bb ?_;show cH (rs:=[(.loc,.int (m:Nat))]) (aa (aQ (x:=(.own,.lst FY)) (bE (by repeat (first|show ah|show aa aj (by assumption)|apply aa aj)) (by show trivial) (by repeat (first|show aC|apply av aG)) (by decide)) H trivial (b9 em)) ah) trivial (lK ⋯) rfl L ?_;show bx (dz (aa (aQ (ax rfl) (ae rfl) trivial (b9 (k:=.any) ex)) (aa (bW (aa (aE rfl) ah) ∅ rfl) ah)) trivial (av (iQ rfl) (av aG aC)) (by change 2<=dV;lia)) cS
def F0(a:bV (Hm Pg d))(h:HL Pg "_law_row" Eo):lT (Hm Pg (d+1)):=by
 intro T at_ u ws b c f g i j;have⟨x,told,u',e,r⟩:=Bu a (b:=b) c f g i j;show⟨x,told,u',by rw[cT h _ rfl];show e,r⟩
abbrev Cg:List S :=
   [.ite (.and [.cmp .eq (.idx (.var 2) (.cst (.int 0))) (.idx (.var 1) (.cst (.int 0))),.cmp .eq (.bi .sorted [.idx (.var 2) (.cst (.int 1))]) (.bi .sorted [.idx (.var 1) (.cst (.int 1))])])
    [.Kx]
    []]
abbrev F2:List S:=[.Hy cK [2] .seq [.var 0] Cg,.app 0 (.var 1)]
abbrev Bx:Fn:=⟨"_law_lay",2,3,.KO [0]::F2⟩
abbrev gT(rs:List Row)(r:Row)(o:Option (Kd×U)):aw:=[bD (.io,.lst (rs.map A')),bD (.loc,A' r),o]
abbrev layR(rs:List Row)(r:Row):List Row:=if keyOf r∈rs.map keyOf then rs else rs++[r]
def yL(c:x.2.length<64)(d:r.2.length<64):Run (HB Γ (.and [.cmp .eq (.idx (.var 2) (.cst (.int 0))) (.idx (.var 1) (.cst (.int 0))),.cmp .eq (.bi .sorted [.idx (.var 2) (.cst (.int 1))]) (.bi .sorted [.idx (.var 1) (.cst (.int 1))])])) (gT rs r (bD (.loc,A' x))) (df (keyOf x=keyOf r)) (gT rs r (bD (.loc,A' x))):=by
 have a:∀y:Row,gF (.loc,A' y) (.int 0)=bD (.loc,.str y.1):=λy=>rfl;have b:∀y:Row,gF (.loc,A' y) (.int 1)=bD (.loc,.tup (y.2.map .str)):=λy=>rfl;have f:Run (HB Γ (.cmp .eq (.idx (.var 2) (.cst (.int 0))) (.idx (.var 1) (.cst (.int 0))))) (gT rs r (bD (.loc,A' x))) (df (x.1=r.1)) (gT rs r (bD (.loc,A' x))):=aK (aQ (ae rfl) aj trivial (a x)) (aQ (ae rfl) aj trivial (a r)) trivial pj;have g:Run (HB Γ (.cmp .eq (.bi .sorted [.idx (.var 2) (.cst (.int 1))]) (.bi .sorted [.idx (.var 1) (.cst (.int 1))]))) (gT rs r (bD (.loc,A' x))) (df (aL x.2=aL r.2)) (gT rs r (bD (.loc,A' x))):=aK (bW (aa (aQ (ae rfl) aj trivial (b x)) ah) trivial (sorted_strs c)) (bW (aa (aQ (ae rfl) aj trivial (b r)) ah) trivial (sorted_strs d)) trivial f9;have e:df (keyOf x=keyOf r)=(df (x.1=r.1)&&df (aL x.2=aL r.2)):=by
  rw[<-Bool.decide_and];show decide_eq_decide.mpr (by unfold keyOf;show Wl ..▸Iff.rfl)
 rw[e];show nG (ph f λ_=>dn g)
def Ep:Run (execs Γ (.Kx::ss)) st (.rt .loc .Hj) st:=jZ (a5)
theorem qP(b:r.2.length<64):∀(xs:List Row) (o:Option (Kd×U)),(∀x∈xs,x.2.length<64) ->
  ∃o',Run (forM cK [2] (execs Γ Cg) [(.bor 0,.lst (rs.map A'))] (xs.map λx=>(Kd.loc,A' x))) (gT rs r o) (if keyOf r∈xs.map keyOf then .rt .loc .Hj else .nx) (gT rs r o')
 |[],o,_=>⟨o,by rw[ø (by simp)];show Cb ⟨⟨_,rfl,rfl⟩,trivial⟩⟩
 |x::xs,o,h=>by
  have a:=yL (Γ:=Γ) (rs:=rs) (h x (by simp)) b;by_cases hk:keyOf x=keyOf r
  .show⟨bD (.loc,A' x),?_⟩;rw[ö (by simp[hk])];rw[ú hk]at a;show G5 ⟨⟨_,rfl,rfl⟩,trivial⟩ aN (sD a Ep)
  .rw[ù hk]at a;have⟨o',q⟩:=qP (Γ:=Γ) (rs:=rs) b xs (bD (.loc,A' x)) λy c=>h y (by simp[c]);show⟨o',?_⟩;have d:(keyOf r∈(x::xs).map keyOf)↔(keyOf r∈xs.map keyOf):=by
    rw[gs,gc];show⟨λz=>z.resolve_left λe=>hk e.symm,.inr⟩
   rw[show(if keyOf r∈(x::xs).map keyOf then Fl.rt .loc .Hj else Fl.nx)=(if keyOf r∈xs.map keyOf then Fl.rt .loc .Hj else Fl.nx) by simp only[d]];show FQ ⟨⟨_,rfl,rfl⟩,trivial⟩ aN (a9 a ay ay) q
def By(b:r.2.length<64)(h:∀x∈rs,x.2.length<64)(hl:rs.length<1000):ic Γ Bx [0] F2 [.lst (rs.map A'),A' r]=bD (.ok (.loc,.tup [.Hj,.lst ((layR rs r).map A')])):=by
 have c:(1000:Nat)<dV:=by decide
 have⟨o',q⟩:=qP (Γ:=Γ) b rs cb h;have hs:cX [0] [.lst (rs.map A'),A' r] Bx.ns=gT rs r cb:=by
  change [bD (Kd.io,U.lst (rs.map A')),bD (if HG (A' r)=b6 then Kd.loc else Kd.any,A' r),cb]=_;rw[ö (uC r)];rfl
 have a:Jk .seq [(Kd.bor 0,U.lst (rs.map A'))]=bD (rs.map λx=>(Kd.loc,A' x)):=by
  change bD ((rs.map A').map λu=>(kE (.bor 0),u))=_;rw[i4];rfl
 unfold layR;by_cases hk:keyOf r∈rs.map keyOf
 .rw[ö hk]at q ⊢;show cI (f:=.rt .loc .Hj) rfl hs (jZ (Ca (aa (dC rfl) ah) ⟨⟨_,rfl,rfl⟩,trivial⟩ a rfl q)) rfl rfl
 .rw[ø hk]at q ⊢;show cI (f:=.nx) (st:=gT (rs++[r]) r o') rfl hs (cH (aa (dC rfl) ah) ⟨⟨_,rfl,rfl⟩,trivial⟩ a rfl q (gQ (k:=.io) (k':=.io) rfl (ae rfl) aG rfl rfl (by simp;lia) ?_)) rfl rfl;rw[show rs.map A'++[A' r]=(rs++[r]).map A' by simp];show ay
abbrev lU(Γ:Tab):Prop:=∀(rs:List Row) (r:Row),r.2.length<64->(∀x∈rs,x.2.length<64)->rs.length<1000->Γ "_law_lay" [.lst (rs.map A'),A' r]=bD (.ok (.loc,.tup [.Hj,.lst ((layR rs r).map A')]))
def F3(h:HL Pg "_law_lay" Bx):lU (Hm Pg (d+1)):=λrs r a b hl=>by
 rw[cT h _ rfl];show By a b hl
abbrev Pb:Kd×U->Bool
 |(.bor _,_)=>cK
 |_=>b6
section
def qQ(h:Pb r=b6):d7 st r=r:=by
 have⟨k,u⟩:=r;cases k<;>first|rfl|cases h
def nP(h:Pb r=b6):qe a r=b6:=by
 have⟨k,u⟩:=r;cases k<;>first|rfl|cases h
def qR(h:rs.all Pb=b6):bc rs st:=by
 induction rs with
 |nil=>trivial
 |cons r rs a =>
  have⟨k,u⟩:=r;rw[Z2,cL]at h;have:=a h.2;cases k<;>first|show this|cases h.1
def BA(j:st[i]?=bD (bD (k0,a)))(g:k0.root=b6)(l:Run (bG Γ es) st rs st1)(c:st1[i]?=bD (bD (k,.lst us)))(hk:k.root=b6)(m:cG us=b6)(n:rs.map (d7 st1)=rs)(o:bc rs st1)(p:∀r∈rs,qe [bD i] r=b6)
  (s:Γ f (.lst us::rs.map (·.2))=bD (.ok (d,.tup [v,.lst h]))) (t:d=.own\/d=.loc):Run (ev Γ (.Hg f (.var i::es) [0])) st (d,v) (st1.set i (bD (k,.lst h))):=by
 have u:Run (ev Γ (.var i)) st (.bor i,a) st:=by
  have:=dY j (by rintro rfl;cases g);unfold kv at this;rw[ö g]at this;show this
 have w:d7 st1 (.bor i,a)=(.bor i,.lst us):=by
  unfold d7
  dsimp only
  rw[c];simp[hk]
 have b:((Kd.bor i,a)::rs).map (d7 st1)=(.bor i,.lst us)::rs:=by rw[gs,w,n]
 have e:ib ((Kd.bor i,U.lst us)::rs) 0=bD i:=by
  change(if cG us=b6 then bD i else cb)=_;rw[ö m]
 show sE (rs:=(.bor i,a)::rs) (ws:=[.lst h]) (st1:=st1) (aa u l) ?_ ?_ t ?_ ?_
 .rw[b];show⟨⟨k,hk,c⟩,o⟩
 .rw[b];show s
 .rw[b];unfold qf;rw[cL,cL];show⟨⟨by simp[e],by simp⟩,mx.mpr λq x=>?_⟩;cases q with
  |zero=>simp
  |succ q =>
   have hl:q<rs.length:=by have:=vu.mp x;simpa using this
   rw[Lp];show .inr ?_;rw[show((Kd.bor i,U.lst us)::rs).getD (q+1) (.loc,.Hj)=rs[q] by simp[NF,hl]];simp only[gs,KS,e];show p _ (KX hl)
 .rw[b];unfold gP;rw[e]
  dsimp only
  rw[c];rfl
def ir(d:st[i]?=bD (bD (k0,o)))(e:k0.root=b6)(g:Run (bG Γ es) st rs st1)(h:st1[i]?=bD (bD (k,.lst us)))(hk:k.root=b6)(j:cG us=b6)(a:rs.all Pb=b6)
  (l:Γ f (.lst us::rs.map (·.2))=bD (.ok (b,.tup [v,.lst m]))) (n:b=.own\/b=.loc):Run (ev Γ (.Hg f (.var i::es) [0])) st (b,v) (st1.set i (bD (k,.lst m))) :=
 BA d e g h hk j ((ts λr c=>qQ (mx.mp a r c)).trans (U2 rs)) (qR a) (λr c=>nP (mx.mp a r c)) l n
end
section
def yM(p:lT Γ){ws:List Str}(c:st[i]?=bD (bD (k0,H)))(d:k0.root=b6)(f:st[j]?=bD (bD (kw,.lst (ws.map .str))))(q:kw=.loc\/kw=.any)(g:Run (ev Γ e) st (.loc,.int at_) st1)(h:Run (ev Γ t) st1 (.loc,.bl b) st2)
  (l:st2[i]?=bD (bD (k,u))) (hk:k.root=b6) (m:Src T u) (s:T+17<2 ^ 62) (v:ws.length<1000000) (z:0<=at_) (A:at_<ws.length) :
  ∃(r:Row) (u':U),Run (ev Γ (.Hg "_law_row" [.var i,.var j,e,t] [0])) st (.loc,A' r) (st2.set i (bD (k,u')))/\ws[at_.toNat]?=bD r.1/\r.2.Nodup/\(∀y∈r.2,y∈ws)/\r.2.length<=8/\Src (T+17) u':=by
 have⟨x,told,u',n,B,C,D,G,o⟩:=p T at_ u ws b m s v z A;show⟨(x,told),u',?_,B,C,D,G,o⟩;obtain⟨a,t',w,rfl,_,_⟩:=m;obtain⟨I,J,L,rfl,_,_⟩:=o;rcases q with rfl|rfl
 .show ir (rs:=[(.loc,.lst (ws.map .str)),(.loc,.int at_),(.loc,.bl b)]) c d (aa (ae f) (aa g (aa h ah))) l hk rfl rfl n (.inr rfl)
 .show ir (rs:=[(.any,.lst (ws.map .str)),(.loc,.int at_),(.loc,.bl b)]) c d (aa (ax f) (aa g (aa h ah))) l hk rfl rfl n (.inr rfl)
def yN(a:lU Γ)(b:st[i]?=bD (bD (k0,j)))(c:k0.root=b6)(d:Run (ev Γ e) st (.loc,A' r) st1)(f:st1[i]?=bD (bD (k,.lst (rs.map A'))))(hk:k.root=b6)(g:r.2.length<64)(h:∀x∈rs,x.2.length<64)(hl:rs.length<1000):
  Run (ev Γ (.Hg "_law_lay" [.var i,e] [0])) st (.loc,.Hj) (st1.set i (bD (k,.lst ((layR rs r).map A')))) :=
 ir (rs:=[(.loc,A' r)]) b c (aa d ah) f hk (bU rs) rfl (a rs r g h hl) (.inr rfl)
def yO(a:Run (ev Γ e) st r st1)(b:Run (execs Γ ss) st1 f st2):Run (execs Γ (.exp e::ss)) st f st2:=fz (af a a5) b
abbrev iX(Γ:Tab):Prop:=(∀k:Int,Γ "_law_source" [.lst [],.int k]=bD (.ok (.own,.tup [fK k 0 1,.lst []])))/\∀(ns:List Int) (c k:Int),Γ "_law_source" [.lst ((ns++[c]).map .int),.int k]=bD (.ok (.own,.tup [fK (c / 2) 0 (c % 2),.lst (ns.map .int)]))
def yP(h:HL Pg "_law_source" yC):iX (Hm Pg (d+1)):=⟨λk=>by rw[cT h _ rfl];show yD,λns c k=>by rw[cT h _ rfl];show yE⟩
theorem gC:∀ns:List Int,cG (ns.map U.int)=b6
 |[]=>rfl
 |n::ns=>by change(b6&&cG (ns.map U.int))=b6;rw[gC ns];rfl
def yQ(a:iX Γ)(b:st[i]?=bD (bD (k0,h)))(d:k0.root=b6)(f:Run (ev Γ e) st (.loc,.int m) st1)(g:st1[i]?=bD (bD (k,.lst ((ns++[c]).map .int))))(hk:k.root=b6):
  Run (ev Γ (.Hg "_law_source" [.var i,e] [0])) st (.own,fK (c / 2) 0 (c % 2)) (st1.set i (bD (k,.lst (ns.map .int)))) :=
 ir (rs:=[(.loc,.int m)]) b d (aa f ah) g hk (gC _) rfl (a.2 ns c m) (.inl rfl)
def Er(a:iX Γ)(b:st[i]?=bD (bD (k0,g)))(c:k0.root=b6)(d:Run (ev Γ e) st (.loc,.int m) st1)(f:st1[i]?=bD (bD (k,.lst [])))(hk:k.root=b6):
  Run (ev Γ (.Hg "_law_source" [.var i,e] [0])) st (.own,fK m 0 1) (st1.set i (bD (k,.lst []))) :=
 ir (rs:=[(.loc,.int m)]) b c (aa d ah) f hk rfl rfl (a.1 m) (.inl rfl)
end
abbrev sJ:List S :=
   [.set 6 (.Hg "_law_draw" [.var 1,.bi .len [.var 2]] [0]),
   .ite (.cmp .eq (.var 4) (.cst (.int 3)))
    [.set 6 (.bin .mod (.var 5) (.bi .len [.var 2]))]
    [],
   .exp (.Hg "_law_lay" [(.var 3),(.Hg "_law_row" [(.var 1),(.var 2),(.var 6),(.cmp .gt (.var 4) (.cst (.int 1)))] [0])] [0])]
abbrev sM:List S :=
   [.set 7 (.Hg "_law_source" [.var 0,.cst (.int 0)] [0]),
   .exp (.Hg "_law_lay" [(.var 3),(.Hg "_law_row" [(.var 7),(.var 2),(.Hg "_law_draw" [(.var 7),(.bi .len [(.var 2)])] [0]),(.cmp .eq (.var 4) (.cst (.int 2)))] [0])] [0])]
abbrev dB(ns:List Int)(u:U)(ws:List Str)(rs:List Row)(way:Int)(o5 o6 o7:Option (Kd×U)):aw:=[bD (.io,.lst (ns.map .int)),bD (.io,u),bD (.any,.lst (ws.map .str)),bD (.own,.lst (rs.map A')),bD (.loc,.int way),o5,o6,o7]
abbrev cZ(ws:List Str)(r:Row):Prop:=r.1∈ws/\r.2.Nodup/\(∀y∈r.2,y∈ws)/\r.2.length<=8
abbrev c6(ws:List Str)(rs:List Row):Prop:=(∀r∈rs,cZ ws r)/\(rs.map keyOf).Nodup
def c6.lay(h:c6 ws rs)(d:cZ ws r):c6 ws (layR rs r):=by
 unfold layR;split
 .show h
 .rename_i hk;show⟨λx hx=>?_,?_⟩
  .rcases kj.mp hx with hx|hx
   .show h.1 x hx
   .rw[i0]at hx;subst hx;show d
  .rw[l0];show ti.mpr ⟨h.2,by simp,λa f c b=>by rw[YY,i0]at b;subst b;show λe=>hk (e▸f)⟩
def qS:(layR rs r).length<=rs.length+1:=by
 unfold layR;split
 .lia
 .simp
def vY(s:bV Γ)(v:lT Γ)(w:lU Γ){k:Nat}(y:Src T u)(Q:T+18<2 ^ 62)(Y:0<ws.length)(z:ws.length<1000000)(h:c6 ws rs)(hl:rs.length<1000):
  ∃u' a c,Run (execs Γ sJ) (dB ns u ws rs way (bD (.loc,.int (0+(k:Int)))) o6 o7) .nx (dB ns u' ws a way (bD (.loc,.int (0+(k:Int)))) c o7)/\Src (T+18) u'/\c6 ws a/\a.length<=rs.length+1:=by
 have⟨n,f,l,A,o,s1⟩:=eC (st:=dB ns u ws rs way (bD (.loc,.int (0+(k:Int)))) o6 o7) s (i:=1) (k:=.io) (e:=.bi .len [.var 2]) (m:=((ws.map U.str).length:Nat)) rfl rfl (bW (aa (ax rfl) ah) trivial bC) y ⋯ (by simp;lia) (by simp;lia);rw[dt]at o;have d:∀at_:Int,0<=at_->at_<ws.length->∃u' a c,Run (execs Γ [.exp (.Hg "_law_lay" [.var 3,.Hg "_law_row" [.var 1,.var 2,.var 6,.cmp .gt (.var 4) (.cst (.int 1))] [0]] [0])]) (dB ns f ws rs way (bD (.loc,.int (0+(k:Int)))) (bD (.loc,.int at_)) o7) .nx (dB ns u' ws a way (bD (.loc,.int (0+(k:Int)))) c o7)/\Src (T+18) u'/\c6 ws a/\a.length<=rs.length+1:=by
  intro at_ B C;have⟨r,D,q,G,H,I,J,L⟩:=yM (st:=dB ns f ws rs way (bD (.loc,.int (0+(k:Int)))) (bD (.loc,.int at_)) o7) (st1:=dB ns f ws rs way (bD (.loc,.int (0+(k:Int)))) (bD (.loc,.int at_)) o7) (st2:=dB ns f ws rs way (bD (.loc,.int (0+(k:Int)))) (bD (.loc,.int at_)) o7) v (i:=1) (j:=2) (e:=.var 6) (t:=.cmp .gt (.var 4) (.cst (.int 1))) (k0:=.io) (k:=.io) (kw:=.any) (b:=df (1<way)) rfl rfl rfl (.inr rfl) (ae rfl) (eV (ae rfl) aj trivial (gR rfl)) rfl rfl s1 ⋯ z B C;have N:cZ ws r:=⟨oT G,H,I,J⟩
  show⟨D,layR rs r,_,yO (yN w (k0:=.own) (k:=.own) (rs:=rs) rfl rfl q rfl rfl ⋯ (λx O=>by have:=(h.1 x O).2.2.2;lia) hl) ay,L.up ⋯,h.lay N,qS⟩
 by_cases p:way=3
 .subst p;have⟨u',a,c,q,g⟩:=d ((0+(k:Int)) % (ws.length:Nat)) (Qq _ ⋯) (QT _ ⋯);show⟨u',a,c,aB l aN (fX (aK (ae rfl) aj trivial (bw rfl)) (aB (bo (ae rfl) (bW (aa (ax rfl) ah) trivial bC) trivial (eD (by simp;lia))) aN ay) ?_),g⟩;rw[dt];show q
 .have⟨u',a,c,q,g⟩:=d n A o;show⟨u',a,c,aB l aN (a9 (aK (ae rfl) aj trivial (bw (by simp[p]))) ay q),g⟩
def vZ(o:iX Γ)(p:bV Γ)(s:lT Γ)(w:lU Γ)(N:0<ws.length)(y:ws.length<1000000)(d:c6 ws rs)(hl:rs.length<1000):
  ∃a z,Run (execs Γ sM) (dB (ns++[c]) u ws rs way o5 o6 o7) .nx (dB ns u ws a way o5 o6 z)/\c6 ws a/\a.length<=rs.length+1:=by
 have f:=yQ (st:=dB (ns++[c]) u ws rs way o5 o6 o7) (st1:=dB (ns++[c]) u ws rs way o5 o6 o7) o (i:=0) (k0:=.io) (k:=.io) (e:=.cst (.int 0)) (m:=0) rfl rfl aj rfl rfl;have g:Src 0 (fK (c / 2) 0 (c % 2)):=⟨_,_,_,rfl,⋯,⋯⟩
 generalize fK (c / 2) 0 (c % 2)=v at f g;have⟨n,h,A,B,l,s1⟩:=eC (st:=dB ns u ws rs way o5 o6 (bD (.own,v))) p (i:=7) (k:=.own) (e:=.bi .len [.var 2]) (m:=((ws.map U.str).length:Nat)) rfl rfl (bW (aa (ax rfl) ah) trivial bC) g ⋯ (by simp;lia) (by simp;lia);rw[dt]at l;have⟨r,C,q,D,G,H,I,O⟩:=yM (st:=dB ns u ws rs way o5 o6 (bD (.own,v))) (st1:=dB ns u ws rs way o5 o6 (bD (.own,h))) (st2:=dB ns u ws rs way o5 o6 (bD (.own,h))) s (i:=7) (j:=2) (t:=.cmp .eq (.var 4) (.cst (.int 2))) (k0:=.own) (k:=.own) (kw:=.any) (b:=(way==2)) rfl rfl rfl (.inr rfl) A (eV (ae rfl) aj trivial (bw rfl)) rfl rfl s1 ⋯ y B l;have J:cZ ws r:=⟨oT D,G,H,I⟩
 show⟨layR rs r,bD (.own,C),aB (st2:=dB ns u ws rs way o5 o6 (bD (.own,v))) f bb (yO (yN w (k0:=.own) (k:=.own) (rs:=rs) rfl rfl q rfl rfl ⋯ (λx L=>by have:=(d.1 x L).2.2.2;lia) hl) ay),d.lay J,qS⟩
abbrev sN:E:=.and [.cmp .gt (.bi .len [.var 0]) (.cst (.int 0)),.cmp .lt (.bi .len [.var 3]) (.cst (.int 60))]
def nQ:Run (HB Γ sN) (dB ns u ws rs way o5 o6 o7) (df (0<ns.length)&&df (rs.length<60)) (dB ns u ws rs way o5 o6 o7):=by
 show nG (ph (aK (bW (aa (dC rfl) ah) ∅ bC) aj trivial (gR ?_)) λ_=>dn (aK (bW (aa (aE rfl) ah) ∅ bC) aj trivial (FT ?_)))
 .rw[dt];show decide_eq_decide.mpr ⋯
 .rw[dt];show decide_eq_decide.mpr ⋯
def sO(m:iX Γ)(n:bV Γ)(o:lT Γ)(p:lU Γ)(q:0<ws.length)(r:ws.length<1000000):
  ∀(k f:Nat) (ns:List Int) (rs:List Row) (o7:Option (Kd×U)),ns.length=k->k<f->c6 ws rs->rs.length<=60->∃d b i,Run (fJ (HB Γ sN) (execs Γ sM) f) (dB ns u ws rs way o5 o6 o7) .nx (dB d u ws b way o5 o6 i)/\c6 ws b/\b.length<=60/\d.length<=ns.length:=by
 intro k;induction k with
 |zero =>
  intro f ns rs o7 hk s h hl;obtain⟨f,rfl⟩:∃g,f=g+1:=⟨f - 1,⋯⟩
  have a:=nQ (Γ:=Γ) (ns:=ns) (u:=u) (ws:=ws) (rs:=rs) (way:=way) (o5:=o5) (o6:=o6) (o7:=o7);rw[ù (show ¬0<ns.length by lia)]at a;show⟨ns,rs,o7,nL a,h,hl,i5 _⟩
 |succ k t =>
  intro f ns rs o7 hk s h hl;obtain⟨f,rfl⟩:∃g,f=g+1:=⟨f - 1,⋯⟩
  have a:=nQ (Γ:=Γ) (ns:=ns) (u:=u) (ws:=ws) (rs:=rs) (way:=way) (o5:=o5) (o6:=o6) (o7:=o7);rw[ú (show 0<ns.length by lia)]at a;by_cases j:rs.length<60
  .rw[ú j]at a;obtain⟨ms,c,rfl⟩:∃ms c,ns=ms++[c]:=by
    have l:ns≠[]:=λe=>by rw[e]at hk;cases hk
    show⟨ns.dropLast,ns.getLast l,(Vp l).symm⟩
   have v:ms.length=k:=by simpa using hk
   have⟨w,x,y,b1,C⟩:=vZ (u:=u) (ws:=ws) (way:=way) (o5:=o5) (o6:=o6) (o7:=o7) (ns:=ms) (c:=c) m n o p q r h ⋯;have⟨d,b,i,z,A,B,D⟩:=t f ms w x v ⋯ b1 ⋯;show⟨d,b,i,qK a y z,A,B,by simp;lia⟩
  .rw[ù j]at a;show⟨ns,rs,o7,nL a,h,hl,i5 _⟩
abbrev Ci:List S :=
   [.set 3 (.lst []),
    .set 4 (.Hg "_law_draw" [.var 1,.cst (.int 4)] [0]),
    .Hy cK [5] .IX [.Hg "_law_draw" [.var 1,.cst (.int 25)] [0]] sJ,
    .Lu sN sM,
    .ret (.bi .tuple [(.var 3)])]
abbrev pz:Fn:=⟨"_law_book",3,8,.KO [0,1]::Ci⟩
def sQ(z:iX Γ)(g:bV Γ)(l:lT Γ)(n:lU Γ){ns:List Int}(o:Src T u)(Q:T+500<2 ^ 62)(Y:ns.length<1000)(p:0<ws.length)(s:ws.length<1000000):
  ∃(rs:List Row) (c:List Int) (u':U),ic Γ pz [0,1] Ci [.lst (ns.map .int),u,.lst (ws.map .str)]=bD (.ok (.loc,.tup [.tup (rs.map A'),.lst (c.map .int),u']))/\c6 ws rs/\rs.length<=60/\c.length<=ns.length/\Src (T+500) u':=by
 have A:(60:Nat)<dV:=by decide
 obtain⟨way,B,C,_,_,s1⟩:=eC (st:=[bD (.io,.lst (ns.map .int)),bD (.io,u),bD (.any,.lst (ws.map .str)),bD (.own,.lst []),cb,cb,cb,cb]) g (i:=1) (k:=.io) (e:=.cst (.int 4)) (m:=4) rfl rfl aj o ⋯ ⋯ ⋯;have⟨m,v,D,m0,m1,s2⟩:=eC (st:=dB ns B ws [] way cb cb cb) g (i:=1) (k:=.io) (e:=.cst (.int 25)) (m:=25) rfl rfl aj s1 ⋯ ⋯ ⋯;have⟨m,rfl⟩:=x3 m0;obtain⟨st',G,a,b,o5,o6,rfl,s3,b3,w,_⟩:=bQ (rs:=[(.loc,.int (m:Nat))]) (t:=cK) (is:=[5]) (body:=execs Γ sJ) (λi:Nat=>(Kd.loc,U.int (0+(i:Int)))) (λd r st=>∃(a:U) (b:List Row) (o5 o6:Option (Kd×U)),st=dB ns a ws b way o5 o6 cb/\Src (T+2+18 * (d.length:Nat)) a/\c6 ws b/\b.length<=d.length/\d.length+r.length=m)
  (λd r st _=>trivial) (λd y r st h=>by
   have⟨a,b,o5,o6,rfl,s3,b3,w,H⟩:=h;simp only[k7]at H;have⟨I,J,Mk,q,s4,b4,x⟩:=vY (ns:=ns) (way:=way) (k:=y) (o6:=o6) (o7:=cb) g l n s3 ⋯ p s b3 ⋯;show⟨dB ns a ws b way (bD (.loc,.int (0+(y:Int)))) o6 cb,_,aN,q,I,J,_,_,rfl,s4.up (by simp;lia),b4,?_,?_⟩
   .simp;lia
   .simp;lia) (ix m) [] (dB ns v ws [] way cb cb cb) ⟨v,[],cb,cb,rfl,s2.up (by simp;lia),⟨by simp,by simp⟩,by simp,by simp⟩
 rw[i6,Js]at s3 w;have⟨c,j,L,N,b4,x,O⟩:=sO z g l n (u:=a) (way:=way) (o5:=o5) (o6:=o6) p s ns.length fuel ns b cb rfl (by unfold fuel;lia) b3 ⋯;show⟨j,c,a,?_,b4,x,O,s3.up ⋯⟩;show cI (st0:=[bD (.io,.lst (ns.map .int)),bD (.io,u),bD (.any,.lst (ws.map .str)),cb,cb,cb,cb,cb]) (f:=.rt .loc (.tup (j.map A'))) (st:=dB c a ws j way o5 o6 L) rfl ?_ ?_ rfl rfl
 .obtain⟨_,_,_,rfl,_⟩:=o;rfl
 show aB (bE ah trivial aC (js _)) bb (aB C aN ?_);show cH (rs:=[(.loc,.int (m:Nat))]) (aa D ah) trivial (lK ⋯) rfl G (qL N ?_);show bx (bW (aa (aE rfl) ah) ∅ rfl) cS
end TM
namespace TM
open PySem L2 HH
theorem yR{cond:M Bool}(it:α->Kd×U)(I:List α->List α->List U->aw->Prop)(hs:∀d r a st,I d r a st->bc src st)
  (Zr:∀d y q a st,I d (y::q) a st->∃s1 s2 s3 s4 r u,Run (dw t (ix k) (it y)) (ki k cb++st) () s1/\Run cond s1 b6 s2/\Run elt s2 r s3/\Run (lift r) s3 u s4/\I (d++[y]) q (a++[u]) (s4.drop k)) :
  ∀(b d:List α) (acc:List U) (st:aw),I d b acc st->acc.length+b.length<=dV->∃us st',Run (bS k t cond elt src (b.map it) acc) st us st'/\I (d++b) [] us st'
 |[],d,acc,st,h,_=>⟨acc,st,uA (hs _ _ _ _ h),by rw[u7];show h⟩
 |y::b,d,acc,st,h,hl=>by
  rw[k7]at hl;have⟨s1,s2,s3,s4,r,u,c,e,f,g,i⟩:=Zr d y b acc st h;have⟨us,st',j,l⟩:=yR it I hs Zr b (d++[y]) (acc++[u]) _ i (by simp;lia);show⟨us,st',pe (hs _ _ _ _ h) c e f g ⋯ j,by simpa using l⟩
def qT(a:0<=n)(b:n<26):∃c,Ij small.cps.toList n=bD c:=by
 have⟨k,rfl⟩:=x3 a;have hl:small.cps.toList.length=26:=by decide
 show⟨small.cps.toList[k]'⋯,dF (by simp)⟩
def yS(f:bV Γ)(g:Src T u)(w:T+8<2 ^ 62):
  ∃x u',Run (ev Γ (.Mg .join (.cst (.str "")) [.comp 1 cK .IX [.cst (.int 8)] [] (.idx (.var 2) (.Hg "_law_draw" [.var 1,.cst (.int 26)] [0]))])) (bD (.io,u)::bD (.loc,.str small)::rest) (.loc,.str x) (bD (.io,u')::bD (.loc,.str small)::rest)/\x.length=8/\Src (T+8) u':=by
 have j:(100:Nat)<=dV:=by decide
 obtain⟨us,st',b,u',cs,rfl,rfl,hl,hs,_⟩:=yR (k:=1) (t:=cK) (cond:=aU Γ []) (elt:=ev Γ (.idx (.var 2) (.Hg "_law_draw" [.var 1,.cst (.int 26)] [0]))) (src:=[(.loc,.int (8:Nat))]) (λi:Nat=>(Kd.loc,U.int (0+(i:Int))))
  (λd r a st=>∃(u':U) (cs:List Nat),st=bD (.io,u')::bD (.loc,.str small)::rest/\a=(cs.map HH.one).map U.str/\cs.length=d.length/\Src (T+(d.length:Nat)) u'/\d.length+r.length=8) (λ_ _ _ _ _=>trivial)
  (λd y q a st h=>by
   have⟨u',cs,rfl,rfl,hl,hs,l⟩:=h;rw[k7]at l;have⟨n,o,r,p,s,s2⟩:=eC (st:=bD (.loc,.int (0+(y:Int)))::bD (.io,u')::bD (.loc,.str small)::rest) f (i:=1) (k:=.io) (e:=.cst (.int 26)) (m:=26) rfl rfl aj hs ⋯ ⋯ ⋯;have⟨c,b⟩:=qT p s;show⟨_,_,_,_,_,_,dZ aN,fW,aQ (ae rfl) r trivial (ou qC b),aG,o,cs++[c],rfl,by simp,by simp[hl],s2.up (by simp;lia),by simp;lia⟩)
  (ix 8) [] [] (bD (.io,u)::bD (.loc,.str small)::rest) ⟨u,[],rfl,rfl,rfl,by simpa using g,by simp⟩ (by simp;lia)
 rw[i6,Js]at hl hs;have v:mC .join (.str "") [(.own,.lst ((cs.map HH.one).map U.str))]=bD (.loc,.str (SR uk (cs.map HH.one))):=by
  change(strsOf ((cs.map HH.one).map U.str)).bind _=_;rw[dO];change(if ZX uk (cs.map HH.one)=b6 then _ else _)=_;rw[ö (HH.qB cs ⋯)];rfl
 show⟨SR uk (cs.map HH.one),u',ym aj (aa (b8 (aa aj ah) trivial (lK (n:=8) ⋯) b) ah) trivial v,?_,hs⟩;change(SR uk (cs.map HH.one)).cps.size=8;rw[<-i3,HH.join_ones,hl]
abbrev yT:List S:=[.app 7 (.ite (.cmp .eq (.var 10) (.cst (.int 1))) (.var 9) (.bin .add (.bin .add (.var 9) (.cst (.str "/"))) (.bi .str [.var 10])))]
abbrev yU:List S :=
   .ite (.cmp .eq (.var 4) (.cst (.int 3)))
    [.set 10 (.bin .add (.cst (.int 1)) (.Hg "_law_draw" [.var 0,.cst (.int 99)] [0]))]
    []::yT
abbrev yV:List S :=
   .ite (.cmp .gt (.var 4) (.cst (.int 1)))
    [.set 9 (.bin .add (.idx (.var 1) (.bin .mod (.bin .add (.var 6) (.bin .mul (.cst (.int 7)) (.var 8))) (.cst (.int 26)))) (.KN (.var 3) [.cst (.int 1)] [.var 5])),
    .set 10 (.cst (.int 1))]
    []::yU
abbrev sR:List S :=
   .set 9 (.KN (.var 3) [] [.bin .add (.cst (.int 1)) (.bin .mod (.var 8) (.cst (.int 8)))]) ::
   .set 10 (.bin .add (.cst (.int 1)) (.bin .ML (.var 8) (.cst (.int 8)))) ::
   .ite (.cmp .eq (.var 4) (.cst (.int 1)))
    [.set 9 (.KN (.var 3) [] [.var 5]),
    .set 10 (.bin .add (.cst (.int 1)) (.var 8))]
    []::yV
abbrev yW:List S :=
   [.set 1 (.cst (.str "abcdefghijklmnopqrstuvwxyz")),
    .set 2 (.bin .add (.cst (.int 1)) (.Hg "_law_draw" [.var 0,.idx (.lst [.cst (.int 8),.cst (.int 16),.cst (.int 24)]) (.Hg "_law_draw" [.var 0,.cst (.int 3)] [0])] [0])),
    .set 3 (.Mg .join (.cst (.str "")) [.comp 1 cK .IX [.cst (.int 8)] [] (.idx (.var 2) (.Hg "_law_draw" [.var 1,.cst (.int 26)] [0]))]),
    .set 4 (.Hg "_law_draw" [.var 0,.cst (.int 4)] [0]),
    .set 5 (.bin .add (.cst (.int 1)) (.Hg "_law_draw" [.var 0,.cst (.int 8)] [0])),
    .set 6 (.Hg "_law_draw" [.var 0,.cst (.int 26)] [0]),
    .set 7 (.lst []),
    .Hy cK [8] .IX [.var 2] sR,
    .ret (.var 7)]
abbrev lV:Fn:=⟨"_law_words",1,11,.KO [0]::yW⟩
abbrev jt(u:U)(many:Int)(base:Str)(way size first:Int)(acc:List Str)(o8 o9 o10:Option (Kd×U)):aw:=[bD (.io,u),bD (.loc,.str small),bD (.loc,.int many),bD (.loc,.str base),bD (.loc,.int way),bD (.loc,.int size),bD (.loc,.int first),bD (.own,.lst (acc.map .str)),o8,o9,o10]
def kg(h:x.length<=dV):la (k,.str x) lo a=bD (.loc,.str (PySem.StrLaws.sliceText x lo a)):=by
 change(if x.length<=dV then _ else _)=_;rw[ö h]
def nS(e:acc.length<1000)(f:w.length<=9)(g:1<=s)(s1:s<=99):
  ∃x:Str,x.length<=20/\Run (execs Γ yT) (jt u many base way size first acc o8 (bD (.loc,.str w)) (bD (.loc,.int s))) .nx (jt u many base way size first (acc++[x]) o8 (bD (.loc,.str w)) (bD (.loc,.int s))):=by
 have b:(1000:Nat)<=dV:=by decide
 by_cases h:s=1
 .subst h;show⟨w,⋯,gQ (k:=.own) (k':=.own) rfl (Ee (aK (ae rfl) aj trivial (bw rfl)) (ae rfl)) aG rfl rfl (by simp;lia) ?_⟩;rw[show acc.map U.str++[U.str w]=(acc++[w]).map U.str by simp];show ay
 .have i:=vU (k:=s) ⋯ s1;have c:Jw .str [(.loc,.int s)]=bD (.loc,.str (wN s)):=by
   simp only[Jw,ji,Aq];rw[ö (by
    have:s.natAbs<2 ^ 7:=by lia
    have d:s.natAbs≠0:=by lia
    have:=(Nat.log2_lt d).mpr this;lia)]
   rfl
  have a:(w++("/":Str)).length=w.length+1:=by rw[len_list,len_list,app_list,i7];rfl
  show⟨w++("/":Str)++wN s,by rw[len_list,app_list,i7,<-len_list,<-len_list,a];lia,gQ (k:=.own) (k':=.own) rfl (Ef (aK (ae rfl) aj trivial (bw (by simp[h]))) (bo (bo (ae rfl) aj trivial (pf (by change w.length+1<=dV;lia))) (bW (aa (ae rfl) ah) trivial c) trivial (pf (by rw[a];lia)))) aG rfl rfl (by simp;lia) ?_⟩;rw[show acc.map U.str++[U.str (w++("/":Str)++wN s)]=(acc++[w++("/":Str)++wN s]).map U.str by simp];show ay
def nU(g:bV Γ)(b:Src T u)(p:T+1<2 ^ 62)(c:acc.length<1000)(d:w.length<=9)(j:1<=s)(s1:s<=99):
  ∃u' x o9 o10,Run (execs Γ yU) (jt u many base way size first acc o8 (bD (.loc,.str w)) (bD (.loc,.int s))) .nx (jt u' many base way size first (acc++[x]) o8 o9 o10)/\Src (T+1) u'/\x.length<=20:=by
 by_cases h:way=3
 .subst h;have⟨n,f,l,r,t,o⟩:=eC (st:=jt u many base 3 size first acc o8 (bD (.loc,.str w)) (bD (.loc,.int s))) g (i:=0) (k:=.io) (e:=.cst (.int 99)) (m:=99) rfl rfl aj b ⋯ ⋯ ⋯;have⟨x,a,q⟩:=nS (Γ:=Γ) (u:=f) (many:=many) (base:=base) (way:=3) (size:=size) (first:=first) (acc:=acc) (o8:=o8) (w:=w) (s:=1+n) c d ⋯ ⋯;show⟨f,x,_,_,fX (aK (ae rfl) aj trivial (bw rfl)) (aB (bo aj l trivial cB) aN ay) q,o,a⟩
 .have⟨x,a,q⟩:=nS (Γ:=Γ) (u:=u) (many:=many) (base:=base) (way:=way) (size:=size) (first:=first) (acc:=acc) (o8:=o8) (w:=w) (s:=s) c d j s1;show⟨u,x,_,_,a9 (aK (ae rfl) aj trivial (bw (by simp[h]))) ay q,b.up ⋯,a⟩
def nV(a:bV Γ){k:Nat}(b:Src T u)(d:T+1<2 ^ 62)(e:acc.length<1000)(f:w.length<=9)(g:1<=s)(s1:s<=99)(p:base.length=8)(i:1<=size)(r:size<=8)(t:0<=first)(v:first<26)(hk:k<1000):
  ∃u' x o9 o10,Run (execs Γ yV) (jt u many base way size first acc (bD (.loc,.int (0+(k:Int)))) (bD (.loc,.str w)) (bD (.loc,.int s))) .nx (jt u' many base way size first (acc++[x]) (bD (.loc,.int (0+(k:Int)))) o9 o10)/\Src (T+1) u'/\x.length<=20:=by
 have j:(1000:Nat)<=dV:=by decide
 by_cases h:1<way
 .have l:0<=(first+7 * (0+(k:Int))) % 26:=Qq _ ⋯;have m:(first+7 * (0+(k:Int))) % 26<26:=QT _ ⋯;have⟨c,n⟩:=qT l m;have y:=len_list base;have z:(PySem.StrLaws.sliceText base (bD 1) (bD size)).length<=8:=by
   rw[PySem.StrLaws.sliceText_plain ⟨⋯,i,⋯⟩,len_list];simp;lia
  have JA:(HH.one c).length=1:=rfl;have o:(HH.one c++PySem.StrLaws.sliceText base (bD 1) (bD size)).length<=9:=by rw[len_list,app_list,i7,<-len_list,<-len_list];lia
  have⟨u',x,o9,o10,q,hs⟩:=nU (Γ:=Γ) a (u:=u) (many:=many) (base:=base) (way:=way) (size:=size) (first:=first) (acc:=acc) (o8:=bD (.loc,.int (0+(k:Int)))) (w:=HH.one c++PySem.StrLaws.sliceText base (bD 1) (bD size)) (s:=1) b d e o ⋯ ⋯;show⟨u',x,o9,o10,fX (aK (ae rfl) aj trivial (gR (by simp[h]))) (aB (bo (aQ (ae rfl) (bo (bo (ae rfl) (bo aj (ae rfl) trivial (kG ⋯)) trivial cB) aj trivial (eD ⋯)) trivial (ou qC n)) (nF (ae rfl) (lG aj) (lG (ae rfl)) trivial (kg ⋯)) trivial (pf ⋯)) aN (aB aj aN ay)) q,hs⟩
 .have⟨u',x,o9,o10,q,hs⟩:=nU (Γ:=Γ) a (u:=u) (many:=many) (base:=base) (way:=way) (size:=size) (first:=first) (acc:=acc) (o8:=bD (.loc,.int (0+(k:Int)))) (w:=w) (s:=s) b d e f g s1;show⟨u',x,o9,o10,a9 (aK (ae rfl) aj trivial (gR (by simp[h]))) ay q,hs⟩
def yX(a:0<=j)(b:x.length=8):(PySem.StrLaws.sliceText x cb (bD j)).length<=9:=by
 have⟨j,rfl⟩:=x3 a;have h:=len_list (PySem.StrLaws.sliceText x cb (bD (j:Int)));have hl:=len_list x;rw[Eh]at h;rw[h,HY];lia
def v3(b:bV Γ){k:Nat}(c:Src T u)(d:T+1<2 ^ 62)(e:acc.length<1000)(a:base.length=8)(f:1<=size)(g:size<=8)(i:0<=first)(j:first<26)(hk:k<98):
  ∃u' x l m,Run (execs Γ sR) (jt u many base way size first acc (bD (.loc,.int (0+(k:Int)))) o9 o10) .nx (jt u' many base way size first (acc++[x]) (bD (.loc,.int (0+(k:Int)))) l m)/\Src (T+1) u'/\x.length<=20:=by
 have n:(1000:Nat)<=dV:=by decide
 have o:0<=(0+(k:Int)) % 8:=Qq _ ⋯;by_cases h:way=1
 .have⟨u',x,o9,o10,q,hs⟩:=nV (Γ:=Γ) b (u:=u) (many:=many) (base:=base) (way:=way) (size:=size) (first:=first) (acc:=acc) (k:=k) (w:=PySem.StrLaws.sliceText base cb (bD size)) (s:=1+(0+(k:Int))) c d e (yX ⋯ a) ⋯ ⋯ a f g i j ⋯;show⟨u',x,o9,o10,aB (nF (ae rfl) qz (lG (bo aj (bo (ae rfl) aj trivial (eD ⋯)) trivial cB)) trivial (kg ⋯)) aN (aB (bo aj (bo (ae rfl) aj trivial (lJ ⋯)) trivial cB) aN (fX (aK (ae rfl) aj trivial (bw (by simp[h]))) (aB (nF (ae rfl) qz (lG (ae rfl)) trivial (kg ⋯)) aN (aB (bo aj (ae rfl) trivial cB) aN ay)) q)),hs⟩
 .have⟨u',x,o9,o10,q,hs⟩:=nV (Γ:=Γ) b (u:=u) (many:=many) (base:=base) (way:=way) (size:=size) (first:=first) (acc:=acc) (k:=k) (w:=PySem.StrLaws.sliceText base cb (bD (1+(0+(k:Int)) % 8))) (s:=1+(0+(k:Int)) / 8) c d e (yX ⋯ a) ⋯ ⋯ a f g i j ⋯;show⟨u',x,o9,o10,aB (nF (ae rfl) qz (lG (bo aj (bo (ae rfl) aj trivial (eD ⋯)) trivial cB)) trivial (kg ⋯)) aN (aB (bo aj (bo (ae rfl) aj trivial (lJ ⋯)) trivial cB) aN (a9 (aK (ae rfl) aj trivial (bw (by simp[h]))) ay q)),hs⟩
def G7(a:0<=n)(b:n<3):∃m:Int,8<=m/\m<=24/\Ij [U.int 8,.int 16,.int 24] n=bD (.int m):=by
 have⟨k,rfl⟩:=x3 a;have:k=0\/k=1\/k=2:=by lia
 rcases this with rfl|rfl|rfl
 .show⟨8,⋯,⋯,rfl⟩
 .show⟨16,⋯,⋯,rfl⟩
 .show⟨24,⋯,⋯,rfl⟩
def v5(a:bV Γ)(l:Src T u)(hT:T+100<2 ^ 62):
  ∃(ws:List Str) (u':U),ic Γ lV [0] yW [u]=bD (.ok (.own,.tup [.lst (ws.map .str),u']))/\1<=ws.length/\ws.length<=24/\Src (T+100) u'/\∀x∈ws,x.length<=20:=by
 have A:(1000:Nat)<=dV:=by decide
 let S1:U->aw:=λv=>[bD (.io,v),bD (.loc,.str small),cb,cb,cb,cb,cb,cb,cb,cb,cb]
 have⟨i,B,C,D,G,s1⟩:=eC (st:=S1 u) a (i:=0) (k:=.io) (e:=.cst (.int 3)) (m:=3) rfl rfl aj l ⋯ ⋯ ⋯;have⟨m,m0,m1,em⟩:=G7 D G;have⟨n,u2,H,n0,n1,s2⟩:=yI (st:=S1 u) (st1:=S1 B) a (i:=0) (k:=.io) (k0:=.io) (e:=.idx (.lst [.cst (.int 8),.cst (.int 16),.cst (.int 24)]) (.Hg "_law_draw" [.var 0,.cst (.int 3)] [0])) (m:=m) rfl rfl (aQ (x:=(.own,.lst [U.int 8,.int 16,.int 24])) (bE (aa aj (aa aj (aa aj ah))) trivial (av aG (av aG (av aG aC))) (by change 3<=dV;lia)) C trivial (b9 em)) rfl rfl s1 ⋯ ⋯ ⋯;have⟨base,b,I,J,s3⟩:=yS (rest:=[bD (.loc,.int (1+n)),cb,cb,cb,cb,cb,cb,cb,cb]) a s2 ⋯;obtain⟨way,g,L,_,_,s4⟩:=eC (st:=[bD (.io,b),bD (.loc,.str small),bD (.loc,.int (1+n)),bD (.loc,.str base),cb,cb,cb,cb,cb,cb,cb]) a (i:=0) (k:=.io) (e:=.cst (.int 4)) (m:=4) rfl rfl aj s3 ⋯ ⋯ ⋯;have⟨size,N,O,z0,z1,Q⟩:=eC (st:=[bD (.io,g),bD (.loc,.str small),bD (.loc,.int (1+n)),bD (.loc,.str base),bD (.loc,.int way),cb,cb,cb,cb,cb,cb]) a (i:=0) (k:=.io) (e:=.cst (.int 8)) (m:=8) rfl rfl aj s4 ⋯ ⋯ ⋯;have⟨first,o,Y,f0,f1,s6⟩:=eC (st:=[bD (.io,N),bD (.loc,.str small),bD (.loc,.int (1+n)),bD (.loc,.str base),bD (.loc,.int way),bD (.loc,.int (1+size)),cb,cb,cb,cb,cb]) a (i:=0) (k:=.io) (e:=.cst (.int 26)) (m:=26) rfl rfl aj Q ⋯ ⋯ ⋯;have⟨many,Pf⟩:=x3 (show 0<=1+n by lia);obtain⟨st',hf,p,ws,o8,o9,o10,rfl,s,l7,b7,_⟩:=bQ (rs:=[(.loc,.int (1+n))]) (t:=cK) (is:=[8]) (body:=execs Γ sR) (λi:Nat=>(Kd.loc,U.int (0+(i:Int)))) (λd r st=>∃(b:U) (ws:List Str) (o8 o9 o10:Option (Kd×U)),st=jt b (1+n) base way (1+size) first ws o8 o9 o10/\Src (T+13+(d.length:Nat)) b/\ws.length=d.length/\(∀x∈ws,x.length<=20)/\∃j,d=Ü 0 j/\r=Ü j (many - j)/\j<=many)
  (λd r st _=>trivial) (λd y r st h=>by
   have⟨b,ws,o8,o9,o10,rfl,s3,w,b3,j,rfl,c,hj⟩:=h;have YO:j<many:=by
    rcases Ú j many with z|z
    .show z
    .rw[show many - j=0 by lia]at c;cases c
   rw[show many - j=(many - (j+1))+1 by lia,List.range'_succ]at c;cases c;rw[List.length_range']at s3 w;have⟨g,x,Jd,Pe,q,s4,hx⟩:=v3 (Γ:=Γ) a (u:=b) (many:=1+n) (base:=base) (way:=way) (size:=1+size) (first:=first) (acc:=ws) (k:=y) (o9:=o9) (o10:=o10) s3 ⋯ ⋯ J ⋯ ⋯ f0 f1 ⋯;show⟨jt b (1+n) base way (1+size) first ws (bD (.loc,.int (0+(y:Int)))) o9 o10,_,aN,q,g,ws++[x],_,_,_,rfl,s4.up (by simp;lia),by simp[w],λz hz=>(kj.mp hz).elim (b3 z) λhz=>by rw[i0.mp hz];show hx,y+1,by have:=@List.range'_1_concat 0 y;simpa using this.symm,rfl,⋯⟩) (ix many) [] (jt o (1+n) base way (1+size) first [] cb cb cb) ⟨o,[],cb,cb,cb,rfl,s6.up (by simp;lia),by simp,λ_ h=>(nomatch h),0,rfl,by rw[List.range_eq_range'];simp,⋯⟩
 rw[i6,Js]at s l7;show⟨ws,p,?_,⋯,⋯,s.up ⋯,b7⟩;show cI (st0:=[bD (.io,u),cb,cb,cb,cb,cb,cb,cb,cb,cb,cb]) (f:=.rt .own (.lst (ws.map .str))) (st:=(jt p (1+n) base way (1+size) first ws o8 o9 o10).set 7 cb) rfl ?_ ?_ rfl rfl
 .obtain⟨_,_,_,rfl,_⟩:=l;rfl
 show aB (st2:=S1 u) aj aN (aB (bo aj H trivial cB) aN (aB I aN (aB L aN (aB (bo aj O trivial cB) aN (aB Y aN (aB (bE ah trivial aC (js _)) bb ?_))))));show cH (rs:=[(.loc,.int (1+n))]) (xs:=(ix many).map λi:Nat=>(Kd.loc,U.int (0+(i:Int)))) (aa (ae rfl) ah) trivial (by rw[Pf];show lK ⋯) rfl hf (bx (aE rfl) (jM rfl))
abbrev pA(Γ:Tab):Prop:=∀(T:Int) (u:U),Src T u->T+100<2 ^ 62->∃(ws:List Str) (u':U),Γ "_law_words" [u]=bD (.ok (.own,.tup [.lst (ws.map .str),u']))/\1<=ws.length/\ws.length<=24/\Src (T+100) u'/\∀x∈ws,x.length<=20
def BB(a:bV (Hm Pg d))(h:HL Pg "_law_words" lV):pA (Hm Pg (d+1)):=by
 intro T u b c;have⟨ws,u',e,r⟩:=v5 a b c;show⟨ws,u',by rw[cT h _ rfl];show e,r⟩
abbrev eX(ks:List Str)(x:Str):List Str:=if x∈ks then ks else ks++[x]
def yY:dput ks (ks.map f) x u=(eX ks x,(eX ks x).map λk=>if k=x then u else f k):=by
 unfold dput eX;by_cases h:x∈ks
 .rw[ö h,ö h];congr 1
  clear h;induction ks with
  |nil=>rfl
  |cons k ks a=>rw[gs,OC,gs,gs,a]
 .rw[ø h,ø h];congr 1
  rw[l0,YY,ö rfl];congr 1
  show ts λk hk=>?_;rw[ø (λe:k=x=>h (e▸hk))]
def sT(h:ks.Nodup):(eX ks x).Nodup:=by
 unfold eX;split
 .show h
 .rename_i d;show ti.mpr ⟨h,by simp,λa f c b=>by rw[i0]at b;subst b;show λe=>d (e▸f)⟩
def gf:y∈eX ks x↔y∈ks\/y=x:=by
 unfold eX;split
 .rename_i h;show⟨.inl,λz=>z.elim id λe=>e▸h⟩
 .simp
def BC(h:ks.length<1000):d8 (.str x) u (.Hf ks (ks.map f))=bD (.Hf (eX ks x) ((eX ks x).map λk=>if k=x then u else f k)):=by
 rw[uE h,yY]
abbrev Cj:List S:=[.put 1 (.var 4) (.cst (.bl b6))]
abbrev yZ:List S:=[.put 1 (.var 2) (.cst (.bl b6)),.Hy cK [4] .seq [.var 3] Cj]
abbrev y6:Fn:=⟨"_law_all",1,5,[.set 1 (.Ji cK),.Hy b6 [2,3] .seq [.var 0] yZ,.ret (.bi .sorted [.var 1])]⟩
abbrev mF(ks:List Str):U:=.Hf ks (ks.map λ_=>.bl b6)
def kh(h:ks.length<1000):d8 (.str x) (.bl b6) (mF ks)=bD (mF (eX ks x)):=by
 unfold mF;rw[BC h];congr 3
 funext k
 split<;>rfl
abbrev iu(ws ks:List Str):Prop:=ks.Nodup/\∀x∈ks,x∈ws
def iu.ins(h:iu ws ks)(a:x∈ws):iu ws (eX ks x):=⟨sT h.1,λy b=>(gf.mp b).elim (h.2 y) λe=>e▸a⟩
def iu.len(h:iu ws ks):ks.length<=ws.length:=dA h.1 h.2
abbrev pB(rs:List Row)(ks:List Str)(o2 o3 o4:Option (Kd×U)):aw:=[bD (.loc,.tup (rs.map A')),bD (.own,mF ks),o2,o3,o4]
def iY{rs:List Row}:Jk .seq [(k,.tup (rs.map A'))]=bD (rs.map λr=>(kE k,A' r)):=by
 change bD ((rs.map A').map λu=>(kE k,u))=_;rw[i4];rfl
def lW(h:(!(i==j))=c):bO .ne (.int i) (.int j)=bD c:=by subst h;rfl
def y7{rs:List Row}(hl:rs.length<=1000)(h:st[i]?=bD (bD (.loc,.tup (rs.map A')))):Run (ev Γ (.comp 1 cK .seq [.var i] [.cmp .eq (.idx (.var 0) (.cst (.int 1))) (.tup [])] (.idx (.var 0) (.cst (.int 0))))) st (.own,.lst (((rs.filter λr=>df (r.2=[])).map (·.1)).map .str)) st:=by
 have b:(1000:Nat)<=dV:=by decide
 have c:∀y:Row,gF (.loc,A' y) (.int 0)=bD (.loc,.str y.1):=λy=>rfl;have d:∀y:Row,gF (.loc,A' y) (.int 1)=bD (.loc,.tup (y.2.map .str)):=λy=>rfl;have a:=fZ (cond:=aU Γ [.cmp .eq (.idx (.var 0) (.cst (.int 1))) (.tup [])]) (elt:=ev Γ (.idx (.var 0) (.cst (.int 0)))) (src:=[(.loc,.tup (rs.map A'))]) (st:=st) trivial .loc (.inl rfl) A' (λr:Row=>.str r.1) (λr=>df (r.2=[])) .loc rs [] (by simp;lia)
  (λr _=>⟨dn (aK (aQ (ae rfl) aj trivial (d r)) (dz ah trivial aC (js _)) trivial pv),λ_=>⟨aQ (ae rfl) aj trivial (c r),aG⟩⟩)
 rw[i6]at a;rw[i4];show b8 (rs:=[(.loc,.tup (rs.map A'))]) (aa (ae h) ah) trivial iY a
section
def y8(o:i≠j)(l:st[i]?=bD (bD (k0,a)))(c:k0.root=b6)(y:st[j]?=bD (bD (k0',d)))(z:k0'.root=b6)(A:Run (bG Γ es) st rs st1)
  (b:st1[i]?=bD (bD (k,.lst us))) (hk:k.root=b6) (B:cG us=b6) (m:st1[j]?=bD (bD (k',.lst vs))) (p:k'.root=b6) (C:cG vs=b6) (D:rs.map (d7 st1)=rs) (G:bc rs st1) (H:∀r∈rs,qe [bD i,bD j] r=b6)
  (I:Γ f (.lst us::.lst vs::rs.map (·.2))=bD (.ok (n,.tup [v,.lst s,.lst t]))) (J:n=.own\/n=.loc):Run (ev Γ (.Hg f (.var i::.var j::es) [0,1])) st (n,v) ((st1.set i (bD (k,.lst s))).set j (bD (k',.lst t))):=by
 have w:∀(i:Nat) (k0:Kd) (a:U),st[i]?=bD (bD (k0,a))->k0.root=b6->Run (ev Γ (.var i)) st (.bor i,a) st:=λi k0 a l c=>by
  have:=dY l (by rintro rfl;cases c);unfold kv at this;rw[ö c]at this;show this
 have x:∀(i:Nat) (k:Kd) (a u:U),st1[i]?=bD (bD (k,u))->k.root=b6->d7 st1 (.bor i,a)=(.bor i,u):=λi k a u b hk=>by
  unfold d7
  dsimp only
  rw[b];simp[hk]
 have e:((Kd.bor i,a)::(Kd.bor j,d)::rs).map (d7 st1)=(.bor i,.lst us)::(.bor j,.lst vs)::rs:=by rw[gs,gs,x i k a _ b hk,x j k' d _ m p,D]
 have g:ib ((Kd.bor i,U.lst us)::(Kd.bor j,U.lst vs)::rs) 0=bD i:=by
  change(if cG us=b6 then bD i else cb)=_;rw[ö B]
 have h:ib ((Kd.bor i,U.lst us)::(Kd.bor j,U.lst vs)::rs) 1=bD j:=by
  change(if cG vs=b6 then bD j else cb)=_;rw[ö C]
 show sE (rs:=(.bor i,a)::(.bor j,d)::rs) (ws:=[.lst s,.lst t]) (st1:=st1) (aa (w i k0 a l c) (aa (w j k0' d y z) A)) ?_ ?_ J ?_ ?_
 .rw[e];show⟨⟨k,hk,b⟩,⟨k',p,m⟩,G⟩
 .rw[e];show I
 .rw[e];unfold qf;rw[cL,cL];show⟨⟨by simp[g,h],by simp[g,h,o]⟩,mx.mpr λq L=>?_⟩
  match q with
  |0=>simp
  |1=>simp
  |q+2 =>
   have hl:q<rs.length:=by have:=vu.mp L;simpa using this
   rw[Lp];show .inr ?_;rw[show((Kd.bor i,U.lst us)::(Kd.bor j,U.lst vs)::rs).getD (q+2) (.loc,.Hj)=rs[q] by simp[NF,hl]];simp only[gs,KS,g,h];show H _ (KX hl)
 .rw[e];unfold gP;rw[g]
  dsimp only
  rw[b]
  dsimp only
  unfold gP;rw[h]
  dsimp only
  rw[i8 o,m];rfl
def BD(d:i≠j)(e:st[i]?=bD (bD (k0,y)))(g:k0.root=b6)(h:st[j]?=bD (bD (k0',z)))(l:k0'.root=b6)(m:Run (bG Γ es) st rs st1)
  (n:st1[i]?=bD (bD (k,.lst us))) (hk:k.root=b6) (o:cG us=b6) (p:st1[j]?=bD (bD (k',.lst vs))) (q:k'.root=b6) (s:cG vs=b6) (a:rs.all Pb=b6)
  (t:Γ f (.lst us::.lst vs::rs.map (·.2))=bD (.ok (b,.tup [v,.lst u,.lst w]))) (x:b=.own\/b=.loc):Run (ev Γ (.Hg f (.var i::.var j::es) [0,1])) st (b,v) ((st1.set i (bD (k,.lst u))).set j (bD (k',.lst w))) :=
 y8 d e g h l m n hk o p q s ((ts λr c=>qQ (mx.mp a r c)).trans (U2 rs)) (qR a) (λr c=>nP (mx.mp a r c)) t x
end
abbrev lX(Γ:Tab):Prop:=∀(ns:List Int) (u:U) (ws:List Str) (T:Int),Src T u->T+500<2 ^ 62->ns.length<1000->0<ws.length->ws.length<1000000 ->
  ∃(rs:List Row) (a:List Int) (u':U),Γ "_law_book" [.lst (ns.map .int),u,.lst (ws.map .str)]=bD (.ok (.loc,.tup [.tup (rs.map A'),.lst (a.map .int),u']))/\c6 ws rs/\rs.length<=60/\a.length<=ns.length/\Src (T+500) u'
def y9(a:iX (Hm Pg d))(b:bV (Hm Pg d))(c:lT (Hm Pg d))(f:lU (Hm Pg d))(h:HL Pg "_law_book" pz):lX (Hm Pg (d+1)):=by
 intro ns u ws T g i j k l;have⟨rs,m,u',e,r⟩:=sQ a b c f g i j k l;show⟨rs,m,u',by rw[cT h _ rfl];show e,r⟩
def qU(a:iX Γ){ns:List Int}:∃(b:List Int) (u:U),Run (ev Γ (.Hg "_law_source" [.var 1,.cst (.int k)] [0])) (o0::bD (.own,.lst (ns.map .int))::rest) (.own,u) (o0::bD (.own,.lst (b.map .int))::rest)/\b.length<=ns.length/\Src 0 u:=by
 by_cases h:ns=[]
 .subst h;show⟨[],fK k 0 1,Er (k0:=.own) (k:=.own) a rfl rfl aj rfl rfl,i5 _,⟨_,_,_,rfl,⋯,⋯⟩⟩
 .have e:=Vp h;generalize ns.dropLast=l at e;generalize ns.getLast h=c at e;subst e;show⟨l,fK (c / 2) 0 (c % 2),yQ (k0:=.own) (k:=.own) a rfl rfl aj rfl rfl,by simp,⟨_,_,_,rfl,⋯,⋯⟩⟩
def Src.lst(h:Src T u):∃us,u=.lst us/\cG us=b6:=by
 obtain⟨a,t,w,rfl,_,_⟩:=h;show⟨_,rfl,rfl⟩
end TM
namespace KL
open PySem L2 TM
abbrev dq:Fn:=⟨"gathered",1,4,[.newD 1,.Hy b6 [2,3] .seq [.var 0] [.ite (.inD b6 (.var 2) 1) [.putD 1 (.var 2) (.lst [])] [],.Jj 1 (.var 2) (.var 3)],.ret (.NJ 1)]⟩
abbrev bj:Fn:=⟨"places_that_tell",1,4,[.set 1 (.lst []),.Hy b6 [2,3] .LK [.var 0] [.ext 1 (.comp 1 cK .seq [.idx (.var 3) (.cst (.int 1))] [] (.tup [.var 0,.var 3]))],.ret (.call "gathered" [.var 1])]⟩
abbrev cU:Fn:=⟨"new_steps",3,6,[.set 3 (.Ji cK),.Hy cK [4] .seq [.var 1] [.set 5 (.idx (.idx (.var 0) (.var 4)) (.cst (.int 0))),.ite (.and [.cmp .Ht (.var 5) (.var 2),.cmp .Ht (.var 5) (.var 3)]) [.put 3 (.var 5) (.var 4)] []],.ret (.NK 3)]⟩
abbrev bu:Fn:=⟨"steps_in_rounds",1,10,[.set 1 (.call "places_that_tell" [.var 0]),.set 2 (.comp 1 cK .seq [.var 0] [] (.bi .len [.idx (.var 0) (.cst (.int 1))])),.set 3 (.Ji cK),.set 4 (.lst []),.set 5 (.comp 2 b6 .LK [.var 2] [.cmp .eq (.var 1) (.cst (.int 0))] (.var 0)),.Lu (.cmp .ne (.var 5) (.lst [])) [.set 6 (.call "new_steps" [.var 0,.var 5,.var 3]),.set 5 (.lst []),.Hy b6 [7,8] .seq [.var 6] [.put 3 (.var 7) (.cst (.bl b6)),.Hy cK [9] .seq [.J5 1 (.var 7) (.lst [])] [.aug b6 2 (.var 9) (.cst (.int 1)),.ite (.cmp .eq (.idx (.var 2) (.var 9)) (.cst (.int 0))) [.app 5 (.var 9)] []]],.ite (.cmp .ne (.var 6) (.lst [])) [.app 4 (.var 6)] []],.ret (.var 4)]⟩
abbrev fB:Fn:=⟨"order",1,3,[.set 1 (.lst []),.Hy cK [2] .seq [.call "steps_in_rounds" [.var 0]] [.ext 1 (.var 2)],.ret (.var 1)]⟩
abbrev eY:Fn:=⟨"learnt",1,1,[.ret (.bi .sorted [.comp 2 b6 .seq [.call "order" [.var 0]] [] (.var 0)])]⟩
end KL
namespace KL
open PySem L2 TM HH Od
abbrev cF(f:Str->List Nat)(k:Str):U:=.lst ((f k).map λt:Nat=>U.int (t:Nat))
def ju(d:List (Str×Nat))(y:Str×Nat)(k:Str):aO (d++[y]) k=if y.1=k then aO d k++[y.2] else aO d k:=by
 rw[qJ];by_cases e:y.1=k
 .rw[ö e];simp[aO,e]
 .rw[ø e];simp[aO,e]
def y_(d:List (Str×Nat))(k:Str):(aO d k).length<=d.length:=by
 unfold aO;rw[dt];show nC _ _
section
def pC(hl:ps.length<=1000):∃ks:List Str,(∀w,w∉ks->aO ps w=[])/\dJ Γ dq [.lst (ps.map stN)]=bD (.ok (.own,.Hf ks (ks.map (cF (aO ps))))):=by
 have hsz:(2000:Nat)<=dV:=by decide
 have x:TM.start [.lst (ps.map stN)] 4=[bD (.any,.lst (ps.map stN)),cb,cb,cb]:=rfl;let S:=λ(ks:List Str) (us:List U) (o2 o3:Option (Kd×U))=>([bD (.any,.lst (ps.map stN)),bD (.G',.Hf ks us),o2,o3]:aw)
 let body:List TM.S:=[.ite (.inD b6 (.var 2) 1)
    [.putD 1 (.var 2) (.lst [])]
    [],
   .Jj 1 (.var 2) (.var 3)]
 have⟨st',A,l,ks,o2,o3,e,f,hk,B⟩:=bQ (t:=b6) (is:=[2,3]) (body:=execs Γ body) (rs:=[(.any,.lst (ps.map stN))]) (λp:Str×Nat=>(Kd.any,stN p))
  (λd r st=>d++r=ps/\∃(ks:List Str) (o2 o3:Option (Kd×U)),st=S ks (ks.map (cF (aO d))) o2 o3/\ks.Nodup/\(∀w,w∉ks->aO d w=[])/\ks.length<=d.length) (λ_ _ _ _=>trivial) (λd y r st C=>by
   have⟨l,ks,o2,o3,e,f,hk,B⟩:=C;subst e;have J:d.length<1000:=by have:=ü H8 l;simp at this;lia
   let g:Option (Kd×U):=bD (.any,.str y.1);let i:Option (Kd×U):=bD (.any,.int (y.2:Nat));have L:=y_ d y.1;have j:∀(ks:List Str),ks.Nodup->y.1∈ks->Run (execs Γ [.Jj 1 (.var 2) (.var 3)]) (S ks (ks.map (cF (aO d))) g i) .nx (S ks (ks.map (cF (aO (d++[y])))) g i):=λks f c=>by
    have D:dI ks (ks.map (cF (aO d))) y.1=bD (.lst ((aO d y.1).map λt:Nat=>U.int (t:Nat))):=by rw[iW,ö c];rfl
    have hs:jj ks (ks.map (cF (aO d))) y.1 (.lst ((aO d y.1).map (λt:Nat=>U.int (t:Nat))++[.int (y.2:Nat)]))=ks.map (cF (aO (d++[y]))):=by
     rw[lR _ _ _ _ f];show ts λk hk=>?_;unfold cF;rw[ju];by_cases e:y.1=k
     .subst e;rw[ö rfl,ö rfl];simp
     .rw[ø e,ø (tj e)]
    rw[<-hs];show yA (k:=.any) (r:=(.any,.int (y.2:Nat))) rfl (ax rfl) c (ax rfl) (iQ rfl) D (by rw[dt];lia) ay
   have m:Run (HB Γ (.inD b6 (.var 2) 1)) (S ks (ks.map (cF (aO d))) g i) (!df (y.1∈ks)) (S ks (ks.map (cF (aO d))) g i):=yy (neg:=b6) (k:=.any) (ax rfl) rfl;have o:Run (dw b6 [2,3] (.any,stN y)) (S ks (ks.map (cF (aO d))) o2 o3) () (S ks (ks.map (cF (aO d))) g i):=gS (.inr rfl);by_cases c:y.1∈ks
   .rw[ú c]at m;show⟨_,_,o,lL m (λh=>by cases h) λ_=>j ks f c,by rw[<-l];simp,ks,_,_,rfl,f,λw n=>?_,by simp;lia⟩;have G:y.1≠w:=λz=>n (by rw[<-z];show c);rw[ju,ø G];show hk w n
   .rw[ù c]at m;have q:(ks++[y.1]).Nodup:=by
     rw[ti];show⟨f,by simp,λa H b I e=>?_⟩;have:b=y.1:=by simpa using I
     subst this;show c (e▸H)
    have em:ks.map (cF (aO d))++[.lst []]=(ks++[y.1]).map (cF (aO d)):=by
     rw[l0];congr 1
     change _=[cF (aO d) y.1]
     unfold cF;rw[hk y.1 c];rfl
    have s:=j (ks++[y.1]) q (by simp);rw[<-em]at s;show⟨_,_,o,lL m (λ_=>yz (k:=.any) (xs:=[]) (bE ah trivial aC (js _)) rfl (ax rfl) c ⋯ s) λh=>(by cases h),by rw[<-l];simp,ks++[y.1],_,_,rfl,q,λw n=>?_,by simp;lia⟩;have v:w∉ks/\w≠y.1:=by simpa using n
    rw[ju,ø (tj v.2)];show hk w v.1) ps [] (S [] [] cb cb) ⟨rfl,[],cb,cb,rfl,.nil,λ_ _=>rfl,i5 _⟩
 subst e;rw[i6]at *;show⟨ks,hk,?_⟩;have e:(ps.map stN).map (λu=>(kE .any,u))=ps.map λp=>(Kd.any,stN p):=by rw[i4];rfl
 show aW rfl (.inl rfl) x (yx (cH (rs:=[(.any,.lst (ps.map stN))]) (st1:=S [] [] cb cb) (aa (ax rfl) ah) trivial rfl rfl (by rw[e];show A) (bx (FV rfl) (jM rfl))))
abbrev Cm(Γ:Tab):Prop:=∀ps:List (Str×Nat),ps.length<=1000->∃ks:List Str,(∀w,w∉ks->aO ps w=[])/\Γ "gathered" [.lst (ps.map stN)]=bD (.ok (.own,.Hf ks (ks.map (cF (aO ps)))))
def sU(s:Cm Γ)(v:Once rows)(z:∀r∈rows,r.2.length<=8)(I:rows.length<=120):
  ∃ks:List Str,(∀w,w∉ks->HW rows rows.length w=[])/\dJ Γ bj [.tup (rows.map A')]=bD (.ok (.own,.Hf ks (ks.map (cF (HW rows rows.length))))):=by
 have hsz:(2000:Nat)<=dV:=by decide
 have A:TM.start [.tup (rows.map A')] 4=[bD (.loc,.tup (rows.map A')),cb,cb,cb]:=by simp[TM.start,HG,bU]
 let S:=λ(ps:List (Str×Nat)) (o2 o3:Option (Kd×U))=>([bD (.loc,.tup (rows.map A')),bD (.own,.lst (ps.map stN)),o2,o3]:aw)
 let body:List TM.S:=[.ext 1 (.comp 1 cK .seq [.idx (.var 3) (.cst (.int 1))] [] (.tup [.var 0,.var 3]))]
 have⟨st',B,g,ps,o2,o3,e,h,l⟩:=bQ (t:=b6) (is:=[2,3]) (body:=execs Γ body) (rs:=[(.loc,.tup (rows.map A'))]) (λp:Row×Nat=>(Kd.loc,U.tup [.int (p.2:Nat),A' p.1]))
  (λd r st=>d++r=rows.zipIdx/\∃(ps:List (Str×Nat)) (o2 o3:Option (Kd×U)),st=S ps o2 o3/\(∀w,aO ps w=HW rows d.length w)/\ps.length<=8 * d.length) (λ_ _ _ _=>trivial) (λd y r st C=>by
   have⟨g,ps,o2,o3,e,h,l⟩:=C;subst e;have⟨f,i⟩:=y;have m:(rows.zipIdx)[d.length]?=bD (f,i):=by rw[<-g];simp
   rw[Sy,hA]at m;have⟨a,n,e⟩:=m;have D:a=f:=ü ZN e;have o:0+d.length=i:=ü Prod.snd e;rw[OR]at o;subst D o;have J:d.length<120:=by have:=ü H8 g;simp at this;lia
   have L:=z a (oT n);let b:Option (Kd×U):=bD (.loc,.int (d.length:Nat));let c:Option (Kd×U):=bD (.loc,A' a);have q:=eG (cond:=aU Γ []) (elt:=ev Γ (.tup [.var 0,.var 3])) (src:=[(.loc,.tup (a.2.map .str))]) (st:=S ps b c) trivial .loc (.inl rfl) U.str (λx=>stN (x,d.length)) .loc (λ_=>fW) a.2 [] (by simp;lia)
    (λy _=>⟨dz (aa (ae rfl) (aa (ae rfl) ah)) trivial (av aG (av aG aC)) (by change 2<=dV;lia),aG⟩)
   rw[i6]at q;have e:(a.2.map U.str).map (λu=>(kE .loc,u))=a.2.map λr=>(Kd.loc,U.str r):=by rw[i4];rfl
   have G:Run (ev Γ (.comp 1 cK .seq [.idx (.var 3) (.cst (.int 1))] [] (.tup [.var 0,.var 3]))) (S ps b c) (.own,.lst (a.2.map λx=>stN (x,d.length))) (S ps b c) :=
    b8 (rs:=[(.loc,.tup (a.2.map .str))]) (aa (aQ (x:=(.loc,A' a)) (ae rfl) aj trivial rfl) ah) trivial (by change bD _=_;rw[e]) q
   have em:ps.map stN++(a.2.map λx=>stN (x,d.length))=(ps++a.2.map λx=>(x,d.length)).map stN:=by simp
   show⟨S ps b c,S (ps++a.2.map λx=>(x,d.length)) b c,gS (.inl rfl),?_,by rw[<-g];simp,_,_,_,rfl,λw=>?_,by simp;lia⟩
   .change Run _ _ _ [bD (.loc,.tup (rows.map A')),bD (.own,.lst ((ps++a.2.map λx=>(x,d.length)).map stN)),b,c];rw[<-em];show yt (k:=.own) (k':=.own) rfl G rfl rfl (uB (by rw[dt,dt];lia) rfl) ay
   .rw[i7];show vX v n h w) rows.zipIdx [] (S [] cb cb) ⟨rfl,[],cb,cb,rfl,λw=>by simp[aO,HW],by simp⟩
 subst e;rw[i6,List.length_zipIdx]at h l;have j:Jk .LK [(.loc,.tup (rows.map A'))]=bD (rows.zipIdx.map λp:Row×Nat=>(Kd.loc,U.tup [.int (p.2:Nat),A' p.1])):=by
  change bD ((rows.map A').zipIdx.map λp=>(kE .loc,U.tup [.int p.2,p.1]))=_;rw[ZG,i4];rfl
 have⟨ks,k1,k2⟩:=s ps ⋯;have H:aO ps=HW rows rows.length:=funext h;rw[H]at k1 k2;show⟨ks,k1,?_⟩;show aW rfl (.inl rfl) A (aB (r:=(.own,.lst [])) (bE ah trivial aC (js _)) bb (cH (rs:=[(.loc,.tup (rows.map A'))]) (st1:=S [] cb cb) (aa (ae rfl) ah) trivial j rfl B
  (bx (aP (aa (aE rfl) ah) ⟨⟨.own,rfl,rfl⟩,trivial⟩ k2) iR)))
def mG{names:List Str}(v:∀r∈rows,r.1∈names)(Q:names.length<64)(y:∀t∈R,t<rows.length):
  ∃st:List (Str×Nat),NS rows K0 R st/\dJ Γ cU [.tup (rows.map A'),.lst (R.map λt:Nat=>.int (t:Nat)),.Hf K0 vs]=bD (.ok (.own,.lst (st.map stN))):=by
 have hsz:(2000:Nat)<=dV:=by decide
 have z:TM.start [.tup (rows.map A'),.lst (R.map λt:Nat=>.int (t:Nat)),.Hf K0 vs] 6=[bD (.loc,.tup (rows.map A')),bD (.any,.lst (R.map λt:Nat=>.int (t:Nat))),bD (.any,.Hf K0 vs),cb,cb,cb]:=by simp[TM.start,HG,bU]
 let S:=λ(ps:List (Str×Nat)) (o4 o5:Option (Kd×U))=>([bD (.loc,.tup (rows.map A')),bD (.any,.lst (R.map λt:Nat=>.int (t:Nat))),bD (.any,.Hf K0 vs),bD (.own,.Hf (ps.map (·.1)) (ps.map λp=>.int (p.2:Nat))),o4,o5]:aw)
 let body:List TM.S:=[.set 5 (.idx (.idx (.var 0) (.var 4)) (.cst (.int 0))),
   .ite (.and [.cmp .Ht (.var 5) (.var 2),.cmp .Ht (.var 5) (.var 3)])
    [.put 3 (.var 5) (.var 4)]
    []]
 have o:∀{d:List Nat} {ps:List (Str×Nat)},NS rows K0 d ps->ps.length<=names.length:=λ{d ps} x=>by
  have:=uF x.once (L:=names) λw A=>by
   have⟨s,hs,rfl⟩:=ke.mp A;obtain⟨_,_,r,b,c⟩:=x.ok s hs;rw[<-c];show v r (oT b)
  simpa using this
 have⟨st',B,j,ps,o4,o5,e,x⟩:=bQ (t:=cK) (is:=[4]) (body:=execs Γ body) (rs:=[(.any,.lst (R.map λt:Nat=>.int (t:Nat)))]) (λt:Nat=>(Kd.any,U.int (t:Nat)))
  (λd r st=>d++r=R/\∃(ps:List (Str×Nat)) (o4 o5:Option (Kd×U)),st=S ps o4 o5/\NS rows K0 d ps) (λ_ _ _ _=>trivial) (λd t r st C=>by
   have⟨j,ps,o4,o5,e,x⟩:=C;subst e;have D:t<rows.length:=y t (by rw[<-j];simp);have l:rows[t]?=bD rows[t]:=by simp[D]
   generalize rows[t]=a at l;let f:Option (Kd×U):=bD (.any,.int (t:Nat));let m:Option (Kd×U):=bD (.loc,.str a.1);have G:=o x;have i:Run (HB Γ (.and [.cmp .Ht (.var 5) (.var 2),.cmp .Ht (.var 5) (.var 3)])) (S ps f m) (!df (a.1∈K0)&&!df (a.1∈ps.map (·.1))) (S ps f m) :=
    nG (ph (aK (ae rfl) (ax rfl) trivial eW) λ_=>dn (aK (ae rfl) (aE rfl) ⟨⟨.own,rfl,rfl⟩,trivial⟩ eW))
   have g:∀{q:aw},Run (execs Γ [.ite (.and [.cmp .Ht (.var 5) (.var 2),.cmp .Ht (.var 5) (.var 3)])
    [.put 3 (.var 5) (.var 4)]
    []]) (S ps f m) .nx q->Run (execs Γ body) (S ps f o5) .nx q:=λh =>
    aB (r:=(.loc,.str a.1)) (aQ (x:=(.loc,A' a)) (aQ (ae rfl) (ax rfl) trivial (cm (Bs l))) aj trivial rfl) aN h
   have n:Run (dw cK [4] (.any,.int (t:Nat))) (S ps o4 o5) () (S ps f o5):=dZ jL;by_cases b:a.1∈K0
   .rw[ú b]at i;show⟨_,_,n,g (lL i (λh=>by cases h) λ_=>ay),by rw[<-j];simp,ps,_,_,rfl,x.skip l (.inl b)⟩
   .by_cases c:a.1∈ps.map (·.1)
    .rw[ù b,ú c]at i;show⟨_,_,n,g (lL i (λh=>by cases h) λ_=>ay),by rw[<-j];simp,ps,_,_,rfl,x.skip l (.inr c)⟩
    .rw[ù b,ù c]at i;show⟨_,S (ps++[(a.1,t)]) f m,n,g (lL i (λ_=>?_) λh=>by cases h),by rw[<-j];simp,_,_,_,rfl,x.take l b c⟩;have H:(ps++[(a.1,t)]).map (·.1)=ps.map (·.1)++[a.1]:=by simp
     have I:((ps++[(a.1,t)]).map λp=>U.int (p.2:Nat))=(ps.map λp=>U.int (p.2:Nat))++[.int (t:Nat)]:=by simp
     change Run _ _ _ [bD (.loc,.tup (rows.map A')),bD (.any,.lst (R.map λt:Nat=>.int (t:Nat))),bD (.any,.Hf K0 vs),bD (.own,.Hf ((ps++[(a.1,t)]).map (·.1)) ((ps++[(a.1,t)]).map λp=>.int (p.2:Nat))),f,m];rw[H,I];show iS (k:=.own) (rv:=(.any,.int (t:Nat))) (rk:=(.loc,.str a.1)) (ax rfl) rfl (ae rfl) (av (iQ rfl) (av aG aC)) rfl rfl (uH (by rw[dt];lia) c) ay) R [] (S [] cb cb) ⟨rfl,[],cb,cb,rfl,NS.start K0⟩
 subst e;rw[i6]at x;have G:=o x;have⟨J,N,O⟩:=Br (ps:=ps) ⋯ x.once;show⟨J,x.perm N,?_⟩;have e:(R.map λt:Nat=>U.int (t:Nat)).map (λu=>(kE .any,u))=R.map λt=>(Kd.any,U.int (t:Nat)):=by rw[i4];rfl
 show aW rfl (.inl rfl) z (aB (r:=(.own,.Hf [] [])) lH bb (cH (rs:=[(.any,.lst (R.map λt:Nat=>.int (t:Nat)))]) (st1:=S [] cb cb) (aa (ax rfl) ah) trivial rfl rfl (by rw[e];show B) (bx (FX rfl O) iR)))
end
abbrev mi(rows:List Row)(K0:List Str)(d:List Nat)(p:Nat):Int:=(cnt rows K0 p:Int) - (if p∈d then 1 else 0)
abbrev bX(rows:List Row)(f:Nat->Int):List U:=(ix rows.length).map λp=>U.int (f p)
abbrev fC(R:List Nat):List U:=R.map λt:Nat=>U.int (t:Nat)
def BE(rows:List Row)(K0:List Str):bX rows (mi rows K0 [])=bX rows λp=>(cnt rows K0 p:Int):=by
 unfold bX mi;show ts λp _=>?_;simp
def BF(b:Once rows)(c:w∉K0):bX rows (mi rows K0 (HW rows rows.length w))=bX rows λp=>(cnt rows (K0++[w]) p:Int):=by
 unfold bX mi;show ts λp d=>?_;have e:=vu.mp d;have a:=pk b c p;by_cases h:w∈told rows p
 .rw[ö (iV.mpr ⟨e,h⟩)];rw[ö h]at a;change U.int ((cnt rows K0 p:Int) - 1)=U.int (cnt rows (K0++[w]) p:Int);congr 1
  lia
 .rw[ø λz=>h (iV.mp z).2];rw[ø h]at a;change U.int ((cnt rows K0 p:Int) - 0)=U.int (cnt rows (K0++[w]) p:Int);congr 1
  lia
def za(a:t∉d):(bX rows (mi rows K0 d)).set t (.int (mi rows K0 d t - 1))=bX rows (mi rows K0 (d++[t])):=by
 unfold bX;rw[set_range];show ts λp _=>?_;unfold mi;by_cases e:p=t
 .subst e;rw[ö rfl,ø a,ö (by simp)];rw[show((cnt rows K0 p:Int) - 0 - 1)=(cnt rows K0 p:Int) - 1 by lia]
 .rw[ø e];have:(p∈d++[t])↔p∈d:=by simp[e]
  simp only[this]
def zb(h:t<rows.length):(bX rows f)[t]?=bD (.int (f t)):=by simp[bX,h]
section
variable{Γ:Tab}{rows:List Row}
abbrev uJ:List TM.S:=[.aug b6 2 (.var 9) (.cst (.int 1)),.ite (.cmp .eq (.idx (.var 2) (.var 9)) (.cst (.int 0))) [.app 5 (.var 9)] []]
def qV(u:Once rows)(J:rows.length<=120)(v:w∉K0)(L:R.length<=14400)(o9:Option (Kd×U))(y:∀st,bc src st):∃l:Option (Kd×U),
  Run (forM cK [9] (execs Γ uJ) src ((HW rows rows.length w).map λt:Nat=>(Kd.loc,U.int (t:Nat))))
   [b0,b1,bD (.own,.lst (bX rows λp=>(cnt rows K0 p:Int))),b3,b4,bD (.own,.lst (fC R)),o6,o7,o8,o9] .nx
   [b0,b1,bD (.own,.lst (bX rows λp=>(cnt rows (K0++[w]) p:Int))),b3,b4,bD (.own,.lst (fC (R++(HW rows rows.length w).filter λt=>df (cnt rows K0 t=1)))),o6,o7,o8,l]:=by
 have hsz:(20000:Nat)<=dV:=by decide
 let S:=λ(ms:List U) (R:List Nat) (o9:Option (Kd×U))=>([b0,b1,bD (.own,.lst ms),b3,b4,bD (.own,.lst (fC R)),o6,o7,o8,o9]:aw)
 have⟨st',m,c,l,e⟩:=bQ (t:=cK) (is:=[9]) (body:=execs Γ uJ) (rs:=src) (λt:Nat=>(Kd.loc,U.int (t:Nat)))
  (λd r st=>d++r=HW rows rows.length w/\∃o9:Option (Kd×U),st=S (bX rows (mi rows K0 d)) (R++d.filter λt=>df (cnt rows K0 t=1)) o9) (λ_ _ st _=>y st) (λd t r st A=>by
   have⟨c,o9,e⟩:=A;subst e;have B:t∈HW rows rows.length w:=by rw[<-c];simp
   have n:t<rows.length:=(iV.mp B).1;have o:=vW (rows:=rows) rows.length w;have C:t∉d:=λz=>by
    rw[<-c,ti]at o;show o.2.2 t z t (by simp) rfl
   have N:d.length<=120:=by
    have D:=ü H8 c;have G:(HW rows rows.length w).length<=(ix rows.length).length:=nC _ _;simp at D G;lia
   let b:Option (Kd×U):=bD (.loc,.int (t:Nat));let a:=R++d.filter λt=>df (cnt rows K0 t=1);have O:a.length<=14520:=by
    have:(d.filter λt=>df (cnt rows K0 t=1)).length<=d.length:=nC _ _;change(R++_).length<=_;rw[i7];lia
   have H:Ij (bX rows (mi rows K0 (d++[t]))) (t:Int)=bD (.int (mi rows K0 (d++[t]) t)):=dF (zb n);have I:mi rows K0 (d++[t]) t=(cnt rows K0 t:Int) - 1:=by unfold mi;rw[ö (by simp)]
   have g:Run (HB Γ (.cmp .eq (.idx (.var 2) (.var 9)) (.cst (.int 0)))) (S (bX rows (mi rows K0 (d++[t]))) a b) (df (cnt rows K0 t=1)) (S (bX rows (mi rows K0 (d++[t]))) a b) :=
    aK (aQ (x:=(.bor 2,.lst (bX rows (mi rows K0 (d++[t]))))) (aE rfl) (ae rfl) ⟨⟨.own,rfl,rfl⟩,trivial⟩ (b9 H)) aj trivial (bw (by
     rw[I,JB];simp;lia))
   have f:∀{q:aw},Run (execs Γ [.ite (.cmp .eq (.idx (.var 2) (.var 9)) (.cst (.int 0)))
      [.app 5 (.var 9)]
      []]) (S (bX rows (mi rows K0 (d++[t]))) a b) .nx q->Run (execs Γ uJ) (S (bX rows (mi rows K0 d)) a b) .nx q:=λh=>by
    show FW (us:=bX rows (mi rows K0 d)) (k1:=.loc) (k2:=.loc) (j:=t) (w:=1) rfl (ae rfl) (zb n) aj ?_;rw[za C];show h
   have s:Run (dw cK [9] (.loc,.int (t:Nat))) (S (bX rows (mi rows K0 d)) a o9) () (S (bX rows (mi rows K0 d)) a b):=dZ aN;cases i:df (cnt rows K0 t=1) with
   |false =>
    rw[i]at g;show⟨_,_,s,f (lL g (λh=>by cases h) λ_=>ay),by rw[<-c];simp,b,?_⟩;rw[My,ID,i];simp[S,a]
   |true =>
    rw[i]at g;show⟨_,S (bX rows (mi rows K0 (d++[t]))) (a++[t]) b,s,f (lL g (λ_=>?_) λh=>by cases h),by rw[<-c];simp,b,?_⟩
    .have em:fC (a++[t])=fC a++[.int (t:Nat)]:=by simp[fC]
     change Run _ _ _ [b0,b1,bD (.own,.lst (bX rows (mi rows K0 (d++[t])))),b3,b4,bD (.own,.lst (fC (a++[t]))),o6,o7,o8,b];rw[em];show gQ (k:=.own) (k':=.own) (r:=(.loc,.int (t:Nat))) rfl (ae rfl) aG rfl rfl (by unfold fC;rw[dt];lia) ay
    .rw[My,ID,i];simp[S,a]) (HW rows rows.length w) [] (S (bX rows (mi rows K0 [])) R o9) ⟨rfl,o9,by simp⟩
 subst e;rw[i6]at m;rw[BE,BF u v]at m;show⟨l,m⟩
abbrev zc:List TM.S:=[.put 3 (.var 7) (.cst (.bl b6)),.Hy cK [9] .seq [.J5 1 (.var 7) (.lst [])] uJ]
def v7(n:Once rows)(y:rows.length<=120)(A:∀w,w∉ks->HW rows rows.length w=[])(o:(K0++st.map (·.1)).Nodup)(hl:K0.length+st.length<=120)(vs:List U)(o7 o8 o9:Option (Kd×U)):∃(g:List U) (R:List Nat) (i j a:Option (Kd×U)),
  RI rows K0 (K0++st.map (·.1)) R/\(st=[]->R=[])/\Run (forM b6 [7,8] (execs Γ zc) [(.bor 6,.lst (st.map stN))] (st.map λs=>(Kd.loc,stN s)))
   [b0,bD (.own,.Hf ks (ks.map (cF (HW rows rows.length)))),bD (.own,.lst (bX rows λp=>(cnt rows K0 p:Int))),bD (.own,.Hf K0 vs),b4,bD (.own,.lst []),bD (.own,.lst (st.map stN)),o7,o8,o9] .nx
   [b0,bD (.own,.Hf ks (ks.map (cF (HW rows rows.length)))),bD (.own,.lst (bX rows λp=>(cnt rows (K0++st.map (·.1)) p:Int))),bD (.own,.Hf (K0++st.map (·.1)) g),b4,bD (.own,.lst (fC R)),bD (.own,.lst (st.map stN)),i,j,a]:=by
 let S:=λ(K:List Str) (vs:List U) (R:List Nat) (o7 o8 o9:Option (Kd×U))=>([b0,bD (.own,.Hf ks (ks.map (cF (HW rows rows.length)))),bD (.own,.lst (bX rows λp=>(cnt rows K p:Int))),bD (.own,.Hf K vs),b4,bD (.own,.lst (fC R)),bD (.own,.lst (st.map stN)),o7,o8,o9]:aw)
 have⟨st',B,b,g,R,i,j,a,e,x,C,q⟩:=bQ (t:=b6) (is:=[7,8]) (body:=execs Γ zc) (rs:=[(.bor 6,.lst (st.map stN))]) (λs:Str×Nat=>(Kd.loc,stN s))
  (λd r l=>d++r=st/\∃(vs:List U) (R:List Nat) (o7 o8 o9:Option (Kd×U)),l=S (K0++d.map (·.1)) vs R o7 o8 o9/\RI rows K0 (K0++d.map (·.1)) R/\R.length<=120 * d.length/\(d=[]->R=[])) (λ_ _ l ⟨_,vs,R,o7,o8,o9,e,_⟩=>by subst e;show⟨⟨.own,rfl,rfl⟩,trivial⟩) (λd s r l D=>by
   have⟨b,vs,R,o7,o8,o9,e,x,C,q⟩:=D;subst e;have⟨w,p⟩:=s;have N:d.length<st.length:=by have:=ü H8 b;simp at this;lia
   have m:w∉K0++d.map (·.1):=λz=>by
    rw[<-b,l0,<-Q_,ti]at o;show o.2.2 w z w (by simp) rfl
   let c:Option (Kd×U):=bD (.loc,.str w);let f:Option (Kd×U):=bD (.loc,.int (p:Nat));have⟨a,G⟩:=qV (Γ:=Γ) n y m (R:=R) ⋯ (b0:=b0) (b1:=bD (.own,.Hf ks (ks.map (cF (HW rows rows.length))))) (b3:=bD (.own,.Hf (K0++d.map (·.1)++[w]) (vs++[.bl b6]))) (b4:=b4) (o6:=bD (.own,.lst (st.map stN))) (o7:=c) (o8:=f) o9 (src:=[(.loc,cF (HW rows rows.length) w)]) (λ_=>trivial);have em:K0++(d++[(w,p)]).map (·.1)=K0++d.map (·.1)++[w]:=by simp
   have H:(K0++d.map (·.1)).length<1000:=by rw[i7,dt];lia
   have I:(match dI ks (ks.map (cF (HW rows rows.length))) w with|some v=>(Kd.loc,v)|none=>(.loc,U.lst []))=(.loc,cF (HW rows rows.length) w):=by
    rw[iW];by_cases h:w∈ks
    .rw[ö h]
    .rw[ø h];unfold cF;rw[A w h];rfl
   have J:((HW rows rows.length w).map λt:Nat=>U.int (t:Nat)).map (λu=>(kE .loc,u))=(HW rows rows.length w).map λt=>(Kd.loc,U.int (t:Nat)):=by rw[i4];rfl
   show⟨S (K0++d.map (·.1)) vs R c f o9,S (K0++d.map (·.1)++[w]) (vs++[.bl b6]) (R++(HW rows rows.length w).filter λt=>df (cnt rows (K0++d.map (·.1)) t=1)) c f a,gS (.inl rfl),?_,by rw[<-b];simp,vs++[.bl b6],_,c,f,a,by rw[em],?_,?_,λz=>by simp at z⟩
   .show iS (k:=.own) (rv:=(.loc,.bl b6)) (rk:=(.loc,.str w)) aj rfl (ae rfl) (av aG (av aG aC)) rfl rfl (uH H m) ?_;show cH (rs:=[(.loc,cF (HW rows rows.length) w)]) (aa (Ej (k:=.loc) (z:=(.own,.lst [])) (u:=.lst []) rfl (ae rfl) (bE ah trivial aC (js _)) qA I) ah) trivial (by change bD (PM (λu=>(kE .loc,u)) _)=_;rw[J]) rfl G ay
   .rw[em];show x.step n m
   .have:((HW rows rows.length w).filter λt=>df (cnt rows (K0++d.map (·.1)) t=1)).length<=120:=by
     show u6 (nC _ _) ?_;have L:(HW rows rows.length w).length<=(ix rows.length).length:=nC _ _;simp at L;lia
    rw[i7,i7,JY];lia) st [] (S K0 vs [] o7 o8 o9) ⟨rfl,vs,[],o7,o8,o9,by simp[S],by simpa using RI.start K0,by simp,λ_=>rfl⟩
 subst e;show⟨g,R,i,j,a,by simpa using x,λz=>q (by simpa using z),by simpa[S,fC] using B⟩
abbrev gH(a:List (List (Str×Nat))):List U:=a.map λl=>U.lst (l.map stN)
abbrev zd:List TM.S:=[.set 6 (.call "new_steps" [.var 0,.var 5,.var 3]),.set 5 (.lst []),.Hy b6 [7,8] .seq [.var 6] zc,.ite (.cmp .ne (.var 6) (.lst [])) [.app 4 (.var 6)] []]
abbrev ze(Γ:Tab)(rows:List Row):Prop:=∀(R:List Nat) (K0:List Str) (vs:List U),(∀t∈R,t<rows.length)->∃st:List (Str×Nat),NS rows K0 R st/\Γ "new_steps" [.tup (rows.map A'),.lst (fC R),.Hf K0 vs]=bD (.ok (.own,.lst (st.map stN)))
theorem jv(G:Once rows)(H:rows.length<=120)(I:ze Γ rows)(J:∀w,w∉ks->HW rows rows.length w=[]):∀(f:Nat) (c:List (Str×Nat)) (d:List (List (Str×Nat))) (R:List Nat) (vs:List U) (o6 o7 o8 o9:Option (Kd×U)),
  LI rows c R->d.flatten=c->d.length<=c.length->(rows.length - c.length)+(if R=[] then 1 else 2)<=f ->
  ∃(Pj:List (Str×Nat)) (N:List (List (Str×Nat))) (st':aw),LI rows Pj []/\N.flatten=Pj/\N.length<=120/\st'[4]?=bD (bD (.own,.lst (gH N))) /\
   Run (fJ (HB Γ (.cmp .ne (.var 5) (.lst []))) (execs Γ zd) f) [bD (.loc,.tup (rows.map A')),bD (.own,.Hf ks (ks.map (cF (HW rows rows.length)))),bD (.own,.lst (bX rows λp=>(cnt rows (c.map (·.1)) p:Int))),bD (.own,.Hf (c.map (·.1)) vs),bD (.own,.lst (gH d)),bD (.own,.lst (fC R)),o6,o7,o8,o9] .nx st'
 |0,c,d,R,vs,o6,o7,o8,o9,_,_,_,h=>by split at h<;>lia
 |f+1,c,d,R,vs,o6,o7,o8,o9,x,O,NB,h=>by
  have hsz:(20000:Nat)<=dV:=by decide
  have LD:∀{s:List (Str×Nat)} {g:List Nat},LI rows s g->s.length<=rows.length:=λ{s g} x=>by
   have:=uF x.nd x.wd;simpa using this
  have IC:=LD x;let S:=λ(K:List Str) (vs:List U) (d:List (List (Str×Nat))) (R:List Nat) (o6 o7 o8 o9:Option (Kd×U))=>([bD (.loc,.tup (rows.map A')),bD (.own,.Hf ks (ks.map (cF (HW rows rows.length)))),bD (.own,.lst (bX rows λp=>(cnt rows K p:Int))),bD (.own,.Hf K vs),bD (.own,.lst (gH d)),bD (.own,.lst (fC R)),o6,o7,o8,o9]:aw)
  have XU:∀R:List Nat,IY 50 (.lst (fC R))=b6:=λR=>by change du 49 _=b6;show nN (λt:Nat=>((t:Nat):Int)) R 49
  have A:Run (HB Γ (.cmp .ne (.var 5) (.lst []))) (S (c.map (·.1)) vs d R o6 o7 o8 o9) (!(fC R).isEmpty) (S (c.map (·.1)) vs d R o6 o7 o8 o9) :=
   aK (aE rfl) (bE ah trivial aC (js _)) ⟨⟨.own,rfl,rfl⟩,trivial⟩ (qM (XU R))
  by_cases Q:R=[]
  .subst Q;show⟨c,d,_,x,O,⋯,rfl,nL A⟩
  .rw[ø Q]at h;have XW:(!(fC R).isEmpty)=b6:=by
    cases R with
    |nil=>show absurd rfl Q
    |cons a l=>rfl
   rw[XW]at A;have⟨st,n,Hq⟩:=I R (c.map (·.1)) vs λt ht=>(x.Pa t ht).1;have HE:(c.map (·.1)++st.map (·.1)).Nodup:=by
    rw[ti];show⟨x.nd,n.once,λa ha b q e=>?_⟩;have⟨s,hs,rfl⟩:=ke.mp q;show(n.ok s hs).2.1 (e▸ha)
   have ab:c.length+st.length<=rows.length:=by
    have:=uF HE (L:=rows.map (·.1)) λy hy=>by
     rcases kj.mp hy with hy|hy
     .show x.wd y hy
     .have⟨s,hs,rfl⟩:=ke.mp hy;obtain⟨_,_,r,q1,q2⟩:=n.ok s hs;show ke.mpr ⟨r,oT q1,q2⟩
    simpa using this
   let v:Option (Kd×U):=bD (.own,.lst (st.map stN));have⟨i,g,j,m,o,y,Qa,Tj⟩:=v7 (Γ:=Γ) G H J HE (by rw[dt];lia) (b0:=bD (.loc,.tup (rows.map A'))) (b4:=bD (.own,.lst (gH d))) vs o7 o8 o9;have T:=x.step n y;have em:(c++st).map (·.1)=c.map (·.1)++st.map (·.1):=l0;have XX:IY 50 (.lst (st.map stN))=b6:=by change du 49 _=b6;show qN st 48
   have B:Run (HB Γ (.cmp .ne (.var 6) (.lst []))) (S (c.map (·.1)++st.map (·.1)) i d g v j m o) (!(st.map stN).isEmpty) (S (c.map (·.1)++st.map (·.1)) i d g v j m o) :=
    aK (aE rfl) (bE ah trivial aC (js _)) ⟨⟨.own,rfl,rfl⟩,trivial⟩ (qM XX)
   have e1:(st.map stN).map (λu=>(kE (.bor 6),u))=st.map λs=>(Kd.loc,stN s):=by rw[i4];rfl
   have z:∀{JN:aw},Run (execs Γ [.ite (.cmp .ne (.var 6) (.lst []))
    [.app 4 (.var 6)]
    []]) (S (c.map (·.1)++st.map (·.1)) i d g v j m o) .nx JN->Run (execs Γ zd) (S (c.map (·.1)) vs d R o6 o7 o8 o9) .nx JN:=λh=>by
    show aB (r:=(.own,.lst (st.map stN))) (aP (aa (ae rfl) (aa (aE rfl) (aa (aE rfl) ah))) ⟨⟨.own,rfl,rfl⟩,⟨.own,rfl,rfl⟩,trivial⟩ Hq) bb ?_;show aB (r:=(.own,.lst [])) (bE ah trivial aC (js _)) bb ?_;show cH (rs:=[(.bor 6,.lst (st.map stN))]) (aa (aE rfl) ah) ⟨⟨.own,rfl,rfl⟩,trivial⟩ (by change bD (PM (λu=>(kE (.bor 6),u)) _)=_;rw[e1]) rfl Tj h
   by_cases C:st=[]
   .have XY:=Qa C;subst C;rw[show(!(([]:List (Str×Nat)).map stN).isEmpty)=cK from rfl]at B;have ee:c++[]=c:=u7 _;rw[ee]at T;have q:=z (lL B (λh=>by cases h) λ_=>ay);have⟨Y,Ng,st2,z1,z2,z3,z4,D⟩:=jv G H I J f c d g i v j m o T O NB (by rw[ö XY];lia);show⟨Y,Ng,st2,z1,z2,z3,z4,qK A q ?_⟩;have e3:c.map (·.1)++([]:List (Str×Nat)).map (·.1)=c.map (·.1):=by simp
    change Run _ (S (c.map (·.1)++([]:List (Str×Nat)).map (·.1)) i d g v j m o) _ _;rw[e3];show D
   .have Tn:(!(st.map stN).isEmpty)=b6:=by
     cases st with
     |nil=>show absurd rfl C
     |cons a l=>rfl
    rw[Tn]at B;have XZ:0<st.length:=List.length_pos_iff.mpr C;have ef:gH (d++[st])=gH d++[.lst (st.map stN)]:=by simp[gH]
    have q:Run (execs Γ zd) (S (c.map (·.1)) vs d R o6 o7 o8 o9) .nx (S (c.map (·.1)++st.map (·.1)) i (d++[st]) g (bD (.loc,.lst (st.map stN))) j m o):=by
     show z (lL B (λ_=>?_) λh=>by cases h);change Run _ _ _ [bD (.loc,.tup (rows.map A')),bD (.own,.Hf ks (ks.map (cF (HW rows rows.length)))),bD (.own,.lst (bX rows λp=>(cnt rows (c.map (·.1)++st.map (·.1)) p:Int))),bD (.own,.Hf (c.map (·.1)++st.map (·.1)) i),bD (.own,.lst (gH (d++[st]))),bD (.own,.lst (fC g)),bD (.loc,.lst (st.map stN)),j,m,o];rw[ef];show gQ (k:=.own) (k':=.own) (r:=(.bor 6,.lst (st.map stN))) (u:=.lst (st.map stN)) rfl (aE rfl) (uG rfl) rfl rfl (by unfold gH;rw[dt];lia) ay
    have⟨Y,Ng,st2,z1,z2,z3,z4,D⟩:=jv G H I J f (c++st) (d++[st]) g i (bD (.loc,.lst (st.map stN))) j m o T (by rw[YM,O];simp) (by rw[i7,i7,JY];lia) (by rw[i7];split<;>lia);show⟨Y,Ng,st2,z1,z2,z3,z4,qK A q ?_⟩;rw[em]at D;show D
abbrev Cn(Γ:Tab)(rows:List Row):Prop:=∃ks:List Str,(∀w,w∉ks->HW rows rows.length w=[])/\Γ "places_that_tell" [.tup (rows.map A')]=bD (.ok (.own,.Hf ks (ks.map (cF (HW rows rows.length)))))
def gI(s:Once rows)(v:rows.length<=120)(w:Cn Γ rows)(z:ze Γ rows):∃(f:List (Str×Nat)) (d:List (List (Str×Nat))),LI rows f []/\d.flatten=f/\d.length<=120/\dJ Γ bu [.tup (rows.map A')]=bD (.ok (.own,.lst (gH d))):=by
 have hsz:(20000:Nat)<=dV:=by decide
 have⟨ks,A,B⟩:=w;have C:TM.start [.tup (rows.map A')] 10=[bD (.loc,.tup (rows.map A')),cb,cb,cb,cb,cb,cb,cb,cb,cb]:=by simp[TM.start,HG,bU]
 let g:Option (Kd×U):=bD (.loc,.tup (rows.map A'));let j:Option (Kd×U):=bD (.own,.Hf ks (ks.map (cF (HW rows rows.length))));let D:Option (Kd×U):=bD (.own,.lst (bX rows λp=>(cnt rows [] p:Int)));have G:Run (ev Γ (.comp 1 cK .seq [.var 0] [] (.bi .len [.idx (.var 0) (.cst (.int 1))]))) [g,j,cb,cb,cb,cb,cb,cb,cb,cb] (.own,.lst (bX rows λp=>(cnt rows [] p:Int))) [g,j,cb,cb,cb,cb,cb,cb,cb,cb]:=by
  have c:=eG (cond:=aU Γ []) (elt:=ev Γ (.bi .len [.idx (.var 0) (.cst (.int 1))])) (src:=[(.loc,.tup (rows.map A'))]) (st:=[g,j,cb,cb,cb,cb,cb,cb,cb,cb]) trivial .loc (.inl rfl) A' (λr=>.int (r.2.length:Nat)) .loc (λ_=>fW) rows [] (by simp;lia)
   (λy _=>⟨bW (aa (aQ (x:=(.loc,A' y)) (ae rfl) aj trivial rfl) ah) trivial (by rw[fA,dt]),aG⟩)
  rw[i6]at c;have e:(rows.map A').map (λu=>(kE .loc,u))=rows.map λr=>(Kd.loc,A' r):=by rw[i4];rfl
  have H:(rows.map λr=>U.int (r.2.length:Nat))=bX rows λp=>(cnt rows [] p:Int):=by
   unfold bX;apply L9
   .simp
   .intro i k l;have I:i<rows.length:=by simpa using k
    have m:told rows i=rows[i].2:=kb (by simp[I]);have J:cnt rows [] i=rows[i].2.length:=by unfold cnt sH;rw[m];simp
    simp[J]
  rw[H]at c;show b8 (rs:=[(.loc,.tup (rows.map A'))]) (aa (ae rfl) ah) trivial (by change bD _=_;rw[e]) c
 let n:=(ix rows.length).filter λp=>df (cnt rows [] p=0);let o:aw:=[g,j,D,bD (.own,.Hf [] []),bD (.own,.lst []),cb,cb,cb,cb,cb]
 have L:Run (ev Γ (.comp 2 b6 .LK [.var 2] [.cmp .eq (.var 1) (.cst (.int 0))] (.var 0))) o (.own,.lst (fC n)) o:=by
  have c:=lS (st:=o) (cond:=aU Γ [.cmp .eq (.var 1) (.cst (.int 0))]) (elt:=ev Γ (.var 0)) (src:=[(.bor 2,.lst (bX rows λp=>(cnt rows [] p:Int)))]) ⟨⟨.own,rfl,rfl⟩,trivial⟩ (λp:Nat=>U.int (p:Nat)) (λp:Nat=>U.int (cnt rows [] p:Int)) (λp:Nat=>U.int (p:Nat)) (λp=>df (cnt rows [] p=0)) (ix rows.length) [] (by simp;lia)
   (λy _=>⟨dn (aK (ae rfl) aj trivial (bw (by rw[JB];simp))),ae rfl⟩)
  rw[i6]at c;have e:((bX rows λp=>(cnt rows [] p:Int)).zipIdx.map λp=>(kE (.bor 2),U.tup [.int p.2,p.1]))=(ix rows.length).map λp:Nat=>(Kd.loc,U.tup [.int (p:Nat),.int (cnt rows [] p:Int)]):=by
   unfold bX;apply L9
   .simp
   .intro i k l;simp[kE]
  show b8 (rs:=[(.bor 2,.lst (bX rows λp=>(cnt rows [] p:Int)))]) (aa (aE rfl) ah) ⟨⟨.own,rfl,rfl⟩,trivial⟩ (by change bD _=_;rw[e]) c
 have N:LI rows [] n:=⟨.nil,λ_ _ _ h=>(nomatch h),λ_ h=>(nomatch h),λt m=>by
  have⟨a,b⟩:=lg.mp m;show⟨vu.mp a,by simpa using b⟩,λt r k l=>.inl (lg.mpr ⟨vu.mpr (eh.mp k).1,by simpa using l⟩)⟩
 have⟨f,d,st',O,Q,T,q,Y⟩:=jv s v z A fuel [] [] n [] cb cb cb cb N rfl (i5 _) (by unfold fuel;split<;>simp<;>lia);show⟨f,d,O,Q,T,?_⟩;show aW rfl (.inl rfl) C (aB (r:=(.own,.Hf ks (ks.map (cF (HW rows rows.length))))) (aP (aa (ae rfl) ah) trivial B) bb (aB G bb (aB (r:=(.own,.Hf [] [])) lH bb (aB (r:=(.own,.lst [])) (bE ah trivial aC (js _)) bb (aB L bb (qL Y (bx (aE q) (jM q))))))))
def v8(hs:Γ "steps_in_rounds" [.tup (rows.map A')]=bD (.ok (.own,.lst (gH a))))(c:a.flatten=f)(hl:f.length<=120):dJ Γ fB [.tup (rows.map A')]=bD (.ok (.own,.lst (f.map stN))):=by
 have hsz:(20000:Nat)<=dV:=by decide
 have h:TM.start [.tup (rows.map A')] 3=[bD (.loc,.tup (rows.map A')),cb,cb]:=by simp[TM.start,HG,bU]
 let S:=λ(l:List (Str×Nat)) (o2:Option (Kd×U))=>([bD (.loc,.tup (rows.map A')),bD (.own,.lst (l.map stN)),o2]:aw)
 have⟨st',i,b,o2,e⟩:=bQ (t:=cK) (is:=[2]) (body:=execs Γ [.ext 1 (.var 2)]) (rs:=[(.own,.lst (gH a))]) (λl:List (Str×Nat)=>(Kd.loc,U.lst (l.map stN)))
  (λd r st=>d++r=a/\∃o2:Option (Kd×U),st=S d.flatten o2) (λ_ _ _ _=>trivial) (λd y r st j=>by
   have⟨b,o2,e⟩:=j;subst e;have m:d.flatten.length+y.length<=120:=by
    have:=ü (λl:List (List (Str×Nat))=>l.flatten.length) b;simp only[YM,Uo,i7,c]at this;lia
   show⟨S d.flatten (bD (.loc,.lst (y.map stN))),S (d++[y]).flatten (bD (.loc,.lst (y.map stN))),dZ aN,?_,by rw[<-b];simp,_,rfl⟩;have em:(d++[y]).flatten.map stN=d.flatten.map stN++y.map stN:=by simp
   change Run _ _ _ [bD (.loc,.tup (rows.map A')),bD (.own,.lst ((d++[y]).flatten.map stN)),bD (.loc,.lst (y.map stN))];rw[em];show yt (k:=.own) (k':=.own) rfl (ae rfl) rfl rfl (uB (by rw[dt,dt];lia) rfl) ay) a [] (S [] cb) ⟨rfl,cb,rfl⟩
 subst e;have e:(gH a).map (λu=>(kE .own,u))=a.map λl=>(Kd.loc,U.lst (l.map stN)):=by unfold gH;rw[i4];rfl
 have g:=aW (Γ:=Γ) (fn:=fB) rfl (.inl rfl) h (aB (r:=(.own,.lst [])) (bE ah trivial aC (js _)) bb (cH (rs:=[(.own,.lst (gH a))]) (st1:=S [] cb) (aa (aP (aa (ae rfl) ah) trivial hs) ah) trivial rfl rfl (by rw[e];show i) (bx (aE rfl) (jM rfl))));rw[i6,c]at g;show g
end
section
variable{Γ:Tab}{rows:List Row}{names:List Str}
def sV(h:ss.length<64):Jw .sorted [(k,.lst (ss.map .str))]=bD (.own,.lst ((aL ss).map .str)):=by
 change(strsOf (ss.map U.str)).bind _=_;rw[dO];change(if ss.length<64 then _ else _)=_;rw[ö h]
def sW{a:List (Str×Nat)}(hl:a.length<64)(ho:Γ "order" [.tup (rows.map A')]=bD (.ok (.own,.lst (a.map stN)))):dJ Γ eY [.tup (rows.map A')]=bD (.ok (.own,.lst ((aL (a.map (·.1))).map .str))):=by
 have hsz:(20000:Nat)<=dV:=by decide
 have c:TM.start [.tup (rows.map A')] 1=[bD (.loc,.tup (rows.map A'))]:=by simp[TM.start,HG,bU]
 have b:=lS (st:=[bD (.loc,.tup (rows.map A'))]) (cond:=aU Γ []) (elt:=ev Γ (.var 0)) (src:=[(.own,.lst (a.map stN))]) trivial (λs:Str×Nat=>U.str s.1) (λs=>U.int (s.2:Nat)) (λs=>U.str s.1) (λ_=>b6) a [] (by simp;lia) (λy _=>⟨fW,ae rfl⟩);rw[i6,N_.mpr (λ_ _=>rfl)]at b;have e:(a.map stN).map (λu=>(kE .own,u))=a.map λs=>(Kd.loc,U.tup [.str s.1,.int (s.2:Nat)]):=by rw[i4];rfl
 have d:(a.map λs=>U.str s.1)=(a.map (·.1)).map U.str:=by rw[i4];rfl
 rw[d]at b;show aW rfl (.inl rfl) c (bx (bW (aa (b8 (rs:=[(.own,.lst (a.map stN))]) (aa (aP (aa (ae rfl) ah) trivial ho) ah) trivial (by change bD (PM (λu=>(kE .own,u)) _)=_;rw[e]) b) ah) trivial (sV (by rw[dt];show hl))) iR)
structure To(prog:List Fn):Prop where
 g:HL prog "gathered" dq
 p:HL prog "places_that_tell" bj
 n:HL prog "new_steps" cU
 s:HL prog "steps_in_rounds" bu
 o:HL prog "order" fB
 l:HL prog "learnt" eY
structure Kn(rows:List Row)(K:List Str):Prop where
 nd:K.Nodup
 sn:O' rows K
 cl:f_ rows (·∈K)
def Kn.perm(a:Kn rows K)(b:Kn rows L):K.Perm L:=same a.nd b.nd a.sn b.sn a.cl b.cl
def Kn.of(s:LI rows a []):Kn rows (a.map (·.1)):=⟨s.nd,s.sn,s.closed⟩
def BG(L:To prog)(n:Nat)(d:∀r∈rows,nI names r)(y:names.length<=24)(e:rows.length<=120):∃c:List (Str×Nat),LI rows c []/\c.length<=24/\Hm prog (n+4) "order" [.tup (rows.map A')]=bD (.ok (.own,.lst (c.map stN))):=by
 have j:∀r∈rows,r.2.length<=8:=λr h=>(d r h).LD;have f:Once rows:=λr h=>(d r h).once;have i:∀r∈rows,r.1∈names:=λr h=>(d r h).word;have k:Cm (Hm prog (n+1)):=λps hl=>by
  have⟨ks,a,b⟩:=pC (Γ:=Hm prog n) hl;show⟨ks,a,(aH L.g _).trans b⟩
 have l:Cn (Hm prog (n+2)) rows:=by
  have⟨ks,a,b⟩:=sU k f j e;show⟨ks,a,(aH L.p _).trans b⟩
 have m:ze (Hm prog (n+2)) rows:=λR K0 vs q=>by
  have⟨st,a,b⟩:=mG (Γ:=Hm prog (n+1)) i ⋯ q (K0:=K0) (vs:=vs);show⟨st,a,(aH L.n _).trans b⟩
 have⟨c,t,s1,s2,s3,s4⟩:=gI f e l m;have u:Hm prog (n+3) "steps_in_rounds" [.tup (rows.map A')]=bD (.ok (.own,.lst (gH t))):=(aH L.s _).trans s4;have v:c.length<=24:=by
  have:=uF (Kn.of s1).nd (L:=names) λx w=>by
   have⟨r,a,b⟩:=ke.mp (s1.wd x w);show b▸i r a
  rw[dt]at this;lia
 show⟨c,s1,v,(aH L.o _).trans (v8 u s2 ⋯)⟩
def BH(L:To prog)(n:Nat)(a:∀r∈rows,nI names r)(b:names.length<=24)(c:rows.length<=120)(d:Kn rows K):Hm prog (n+5) "learnt" [.tup (rows.map A')]=bD (.ok (.own,.lst ((aL K).map .str))):=by
 have⟨f,s1,s2,s3⟩:=BG L n a b c;have e:aL (f.map (·.1))=aL K:=fM ((Kn.of s1).perm d);rw[<-e];show(aH L.l _).trans (sW ⋯ s3)
end
end KL
namespace TM
open PySem L2 HH
section
def uK{a b:List Str}:bO .ne (.lst (a.map U.str)) (.lst (b.map U.str))=bD (!df (a=b)):=by
 have h:=@f9 a b;simp only[bO]at h ⊢;split at h
 .rename_i c;rw[ö c,tr h]
 .cases h
def bR(rs:List Row):(bD (if HG (.tup (rs.map A'))=b6 then Kd.loc else Kd.any,U.tup (rs.map A')):Option (Kd×U))=bD (.loc,.tup (rs.map A')):=by
 rw[ö (by change cG (rs.map A')=b6;show bU rs)]
def qW{ss:List Str}:Jk .seq [(k,.tup (ss.map .str))]=bD (ss.map λx=>(kE k,U.str x)):=by
 change bD ((ss.map U.str).map λu=>(kE k,u))=_;rw[i4];rfl
def jw{ss:List Str}(hk:k=.any\/k=.loc):fk k (ss.map .str)=b6:=by
 rcases hk with rfl|rfl
 .show gA ss
 .rfl
def v9(a:us.length=fn.np)(hs:start us fn.ns=st0)(h:Run (execs Γ fn.body) st0 .nx st):dJ Γ fn us=bD (.ok (.loc,.Hj)):=by
 subst hs;unfold dJ;rw[ö a,show execs Γ fn.body (start us fn.ns)=_ from h]
def cZ.ok(h:cZ ws r):nI ws r:=⟨h.1,h.2.2.2,h.2.1,h.2.2.1⟩
def zf(n:ws.length<1000)(hk:iu ws ks)(e:cZ ws r):
  ∃a b,Run (execs Γ yZ) (pB rs ks (bD (.loc,.str r.1)) (bD (.loc,.tup (r.2.map .str))) o4) .nx (pB rs a (bD (.loc,.str r.1)) (bD (.loc,.tup (r.2.map .str))) b)/\iu ws a/\∀x,x∈a↔x∈ks\/x=r.1\/x∈r.2:=by
 have o:=hk.len;obtain⟨st',j,a,b,rfl,l,_,c⟩:=bQ (rs:=[(.loc,.tup (r.2.map .str))]) (t:=cK) (is:=[4]) (body:=execs Γ Cj) (λx:Str=>(Kd.loc,U.str x)) (λd q st=>∃a b,st=pB rs a (bD (.loc,.str r.1)) (bD (.loc,.tup (r.2.map .str))) b/\iu ws a/\(∀x∈q,x∈ws)/\∀x,x∈a↔(x∈ks\/x=r.1)\/x∈d)
  (λ_ _ _ _=>trivial) (λd y q st h=>by
   have⟨f,b,rfl,g,i,c⟩:=h;have p:=g.len;show⟨pB rs f (bD (.loc,.str r.1)) (bD (.loc,.tup (r.2.map .str))) (bD (.loc,.str y)),_,aN,iS (k:=.own) (k':=.own) aj rfl (ae rfl) (av aG (av aG aC)) rfl rfl (kh ⋯) ay,eX f y,_,rfl,g.ins (i y (by simp)),λx m=>i x (by simp[m]),λx=>?_⟩;rw[gf,c x,kj,i0,or_assoc]) r.2 [] (pB rs (eX ks r.1) (bD (.loc,.str r.1)) (bD (.loc,.tup (r.2.map .str))) o4) ⟨_,_,rfl,hk.ins e.1,e.2.2.1,λx=>by rw[gf];simp⟩
 show⟨a,b,?_,l,λx=>by rw[c x,or_assoc,i6]⟩;show iS (k:=.own) (k':=.own) aj rfl (ae rfl) (av aG (av aG aC)) rfl rfl (kh ⋯) (cH (rs:=[(.loc,.tup (r.2.map .str))]) (aa (ae rfl) ah) trivial qW rfl j ay)
def BI(h:HL Pg "_law_all" y6)(p:ws.length<=24)(c:∀r∈rs,cZ ws r):Hm Pg (d+1) "_law_all" [.tup (rs.map A')]=bD (.ok (.own,.lst ((aI rs).map .str))):=by
 obtain⟨st',f,ks,o2,o3,o4,rfl,hk,_,g⟩:=bQ (rs:=[(.loc,.tup (rs.map A'))]) (t:=b6) (is:=[2,3]) (body:=execs (Hm Pg d) yZ) (λr:Row=>(Kd.loc,A' r)) (λd q st=>∃ks o2 o3 o4,st=pB rs ks o2 o3 o4/\iu ws ks/\(∀r∈q,cZ ws r)/\∀x,x∈ks↔∃r∈d,x=r.1\/x∈r.2)
  (λ_ _ _ _=>trivial) (λd y q st h=>by
   have⟨i,o2,o3,o4,rfl,j,b,k⟩:=h;have⟨l,s,m,n,o⟩:=zf (Γ:=Hm Pg ‹Nat›) (rs:=rs) (o4:=o4) ⋯ j (b y (by simp));show⟨pB rs i (bD (.loc,.str y.1)) (bD (.loc,.tup (y.2.map .str))) o4,_,gS (.inl rfl),m,l,_,_,_,rfl,n,λr a=>b r (by simp[a]),λx=>?_⟩;rw[o x,k x];constructor
   .rintro(⟨r,a,e⟩|e)
    .show⟨r,by simp[a],e⟩
    .show⟨y,by simp,e⟩
   .rintro⟨r,a,e⟩;rcases kj.mp a with q|q
    .show .inl ⟨r,q,e⟩
    .rw[i0]at q;subst q;show .inr e) rs [] (pB rs [] cb cb cb) ⟨[],cb,cb,cb,rfl,⟨by simp,by simp⟩,c,by simp⟩
 have hl:=hk.len;have e:aL ks=aI rs:=fM ((DD hk.1 (bp _)).mpr λx=>by rw[g x,bh,bZ,i6]);show(aH h _).trans (aW (st0:=[bD (.loc,.tup (rs.map A')),cb,cb,cb,cb]) rfl (.inl rfl) (ü (λx:Option (Kd×U)=>[x,cb,cb,cb,cb]) (bR rs)) (aB (st2:=pB rs [] cb cb cb) lH bb (cH (rs:=[(.loc,.tup (rs.map A'))]) (aa (ae rfl) ah) trivial iY rfl f (bx (bW (aa (aE rfl) ah) ∅ ?_) iR))));change(if ks.length<64 then bD (Kd.own,U.lst ((aL ks).map .str)) else cb)=_;rw[ö ⋯,e]
end
end TM
namespace TM
open PySem L2 HH Od
section
def d5(hk:k=.loc\/k=.any)(h:st[i]?=bD (bD (k,u))):Run (ev Γ (.var i)) st (k,u) st:=by
 rcases hk with rfl|rfl
 .show ae h
 .show ax h
def Vc(hk:k=.loc\/k=.any)(h:HG u=b6):Run (lift (k,u)) st u st:=by
 rcases hk with rfl|rfl
 .show aG
 .show iQ h
def c7(hk:k=.loc\/k=.any)(h:bc rs st):bc ((k,u)::rs) st:=by rcases hk with rfl|rfl<;>show h
def G8(hk:k=.loc\/k=.any):kE k=k:=by rcases hk with rfl|rfl<;>rfl
def zg{told a:List Str}(hk:k=.loc\/k=.any)(hl:told.length<=1000)(hs:Run (ev Γ src) st (k,.tup (told.map .str)) st)(c:st[j]?=bD (bD (.own,w)))(d:∀x:Str,bO .isin (.str x) w=bD (df (x∈a))):
  Run (ev Γ (.bi .all [.comp 1 cK .seq [src] [] (.cmp .isin (.var 0) (.var (j+1)))])) st (.loc,.bl (told.all λx=>df (x∈a))) st:=by
 have hsz:(1000:Nat)<=dV:=by decide
 have b:=eG (cond:=aU Γ []) (elt:=ev Γ (.cmp .isin (.var 0) (.var (j+1)))) (src:=[(k,.tup (told.map .str))]) (st:=st) (c7 hk trivial) k hk U.str (λx=>.bl (df (x∈a))) .loc (λ_=>fW) told [] (by simp;lia)
  (λy _=>⟨eV (d5 hk rfl) (aE (by simpa using c)) (c7 hk ⟨⟨.own,rfl,by simpa using c⟩,trivial⟩) (d y),aG⟩)
 rw[i6]at b;have e:(told.map U.str).map (λu=>(kE k,u))=told.map λr=>(k,U.str r):=by rw[i4,G8 hk];rfl
 have f:(told.map λx=>U.bl (df (x∈a)))=(told.map λx=>df (x∈a)).map U.bl:=by rw[i4];rfl
 rw[f]at b;have g:(told.all λx=>df (x∈a))=((told.map λx=>df (x∈a)).all id):=by rw[RP];rfl
 rw[g];show bW (aa (b8 (rs:=[(k,.tup (told.map .str))]) (aa hs ah) (c7 hk trivial) (by change bD _=_;rw[e]) b) ah) trivial (kf _)
abbrev F4:List S:=[.ite (.and [.cmp .Ht (.var 3) (.var 1),.bi .all [.comp 1 cK .seq [.var 4] [] (.cmp .isin (.var 0) (.var 2))]]) [.put 1 (.var 3) (.cst (.bl b6)),.set 2 (.cst (.bl b6))] []]
abbrev Es:List S:=[.set 2 (.cst (.bl cK)),.Hy b6 [3,4] .seq [.var 0] F4]
abbrev BJ:Fn:=⟨"_law_learnt",1,5,[.set 1 (.Ji cK),.set 2 (.cst (.bl b6)),.Lu (.var 2) Es,.ret (.var 1)]⟩
inductive Bv(rs:List Row):Kd->U->Prop
 |tup:Bv rs .loc (.tup (rs.map A'))
 |lst:Bv rs .any (.lst (rs.map A'))
def Bv.kd{W:U}(h:Bv rs k W):k=.loc\/k=.any:=by cases h<;>simp
def Bv.it{W:U}(h:Bv rs k W):Jk .seq [(k,W)]=bD (rs.map λr=>(k,A' r)):=by
 cases h
 .show iY
 .change bD ((rs.map A').map λu=>(kE .any,u))=_;rw[i4];rfl
def Bv.bg{W:U}(h:Bv rs k W):(bD (if HG W=b6 then Kd.loc else Kd.any,W):Option (Kd×U))=bD (k,W):=by
 cases h
 .show bR rs
 .rfl
abbrev j3(k:Kd)(W:U)(K:List Str)(b:Bool)(o3 o4:Option (Kd×U)):aw:=[bD (k,W),bD (.own,mF K),bD (.loc,.bl b),o3,o4]
structure Ml(ws:List Str)(rs:List Row)(K:List Str):Prop where
 ks:iu ws K
 snd:O' rs K
def Ml.add(x:Ml ws rs K)(b:r∈rs)(c:r.1∈ws)(d:∀y∈r.2,y∈K):Ml ws rs (eX K r.1) :=
 ⟨x.ks.ins c,λC a y f=>(gf.mp f).elim (x.snd C a y) λe=>e▸a r b λz hz=>x.snd C a z (d z hz)⟩
def BK{W:U}(v:Bv rs k W)(I:ws.length<=40)(z:∀r∈rs,cZ ws r)(x:Ml ws rs K0):
  ∃(g:List Str) (b:Bool) (o p:Option (Kd×U)),Run (execs Γ Es) (j3 k W K0 b0 o3 o4) .nx (j3 k W g b o p)/\Ml ws rs g/\(b=b6->K0.length<g.length)/\(b=cK->g=K0/\f_ rs (·∈K0)):=by
 have hk:=v.kd;obtain⟨st1,C,_,g,b,o,p,rfl,i,l,c⟩:=bQ (t:=b6) (is:=[3,4]) (body:=execs Γ F4) (rs:=[(k,W)]) (λr:Row=>(k,A' r))
  (λd r st=>d++r=rs/\∃(K:List Str) (b:Bool) (o3 o4:Option (Kd×U)),st=j3 k W K b o3 o4/\Ml ws rs K/\(b=b6->K0.length<K.length)/\(b=cK->K=K0/\∀r∈d,(∀y∈r.2,y∈K0)->r.1∈K0)) (λ_ _ _ _=>c7 hk trivial) (λd a r st D=>by
   have⟨q,K,b,o3,o4,e,i,l,c⟩:=D;subst e;have s:a∈rs:=by rw[<-q];simp
   have J:=(z a s).2.2.2;have L:=i.ks.len;have m:Run (HB Γ (.and [.cmp .Ht (.var 3) (.var 1),.bi .all [.comp 1 cK .seq [.var 4] [] (.cmp .isin (.var 0) (.var 2))]])) (j3 k W K b (bD (k,.str a.1)) (bD (k,.tup (a.2.map .str)))) (!df (a.1∈K)&&a.2.all λy=>df (y∈K)) (j3 k W K b (bD (k,.str a.1)) (bD (k,.tup (a.2.map .str)))) :=
    nG (ph (aK (d5 hk rfl) (aE rfl) (c7 hk ⟨⟨.own,rfl,rfl⟩,trivial⟩) eW) λ_=>dn (yr (zg (j:=1) (w:=mF K) hk ⋯ (d5 hk rfl) rfl λ_=>El)))
   have A:Run (dw b6 [3,4] (k,A' a)) (j3 k W K b o3 o4) () (j3 k W K b (bD (k,.str a.1)) (bD (k,.tup (a.2.map .str)))):=gS hk;cases f:(!df (a.1∈K)&&a.2.all λy=>df (y∈K)) with
   |false =>
    rw[f]at m;show⟨_,_,A,a9 m ay ay,by rw[<-q];simp,K,b,_,_,rfl,i,l,λu=>⟨(c u).1,λn Jb hz=>?_⟩⟩;rcases kj.mp Jb with Jb|Jb
    .show(c u).2 n Jb hz
    .rw[i0]at Jb;subst Jb;rw[<-(c u).1]at hz ⊢;by_cases B:n.1∈K
     .show B
     .have:(!df (n.1∈K)&&n.2.all λy=>df (y∈K))=b6:=by
       rw[ù B];simpa using hz
      rw[this]at f;cases f
   |true =>
    rw[f]at m;simp only[cL,x2,decide_eq_false_iff_not,mx,õ]at f;have G:eX K a.1=K++[a.1]:=by unfold eX;rw[ø f.1]
    show⟨_,j3 k W (eX K a.1) b6 (bD (k,.str a.1)) (bD (k,.tup (a.2.map .str))),A,fX m (iS (k:=.own) (k':=.own) aj rfl (d5 hk rfl) (av aG (av (Vc hk rfl) aC)) rfl rfl (kh ⋯) (aB aj aN ay)) ay,by rw[<-q];simp,eX K a.1,b6,_,_,rfl,i.add s (z a s).1 f.2,λ_=>?_,λh=>by cases h⟩;rw[G,i7,JY];cases b with
    |true=>have:=l rfl;lia
    |false=>rw[(c rfl).1];lia) rs [] (j3 k W K0 cK o3 o4) ⟨rfl,K0,cK,o3,o4,rfl,x,(λh=>by cases h),λ_=>⟨rfl,λr H=>by cases H⟩⟩
 rw[i6]at c;show⟨g,b,o,p,aB aj aN (cH (rs:=[(k,W)]) (st1:=j3 k W K0 cK o3 o4) (aa (d5 hk rfl) ah) (c7 hk trivial) v.it (by rcases hk with rfl|rfl<;>rfl) C ay),i,l,c⟩
theorem pD{W:U}(i:Bv rs k W)(j:ws.length<=40)(l:∀r∈rs,cZ ws r):
  ∀(f:Nat) (K0:List Str) (o3 o4:Option (Kd×U)),Ml ws rs K0->64 - K0.length<f->∃(a:List Str) (c d:Option (Kd×U)),Run (fJ (HB Γ (.var 2)) (execs Γ Es) (f+1)) (j3 k W K0 b6 o3 o4) .nx (j3 k W a cK c d)/\Ml ws rs a/\f_ rs (·∈a)
 |0,_,_,_,_,h=>by lia
 |f+1,K0,o3,o4,x,h=>by
  have⟨a,b,c,d,m,g,n,o⟩:=BK (Γ:=Γ) i j l x (b0:=b6) (o3:=o3) (o4:=o4);cases b with
  |false =>
   have⟨e,p⟩:=o rfl;subst e;show⟨a,c,d,qK (jr rfl) m (nL (jr rfl)),g,p⟩
  |true =>
   have:=n rfl;have:=g.ks.len;have⟨q,s,t,u,v,w⟩:=pD i j l f a c d g ⋯;show⟨q,s,t,qK (jr rfl) m u,v,w⟩
abbrev F5(m:Nat)(Γ:Tab):Prop:=∀(ws:List Str) (rs:List Row) (k:Kd) (W:U),Bv rs k W->ws.length<=m->(∀r∈rs,cZ ws r)->∃K,Γ "_law_learnt" [W]=bD (.ok (.own,mF K))/\iu ws K/\KL.Kn rs K
@[reducible]def G9:=F5 24
def F6(e:m<=40)(h:HL Pg "_law_learnt" BJ):F5 m (Hm Pg (d+1)):=λws rs k W a f b=>by
 have⟨K,g,i,q,x,c⟩:=pD (Γ:=Hm Pg d) a ⋯ b 999999999999 [] cb cb ⟨⟨.nil,λ_ h=>absurd h va⟩,λ_ _ _ h=>absurd h va⟩ (by simp);show⟨K,(aH h _).trans (aW rfl (.inl rfl) (st0:=[bD (k,W),cb,cb,cb,cb]) (ü (λx:Option (Kd×U)=>[x,cb,cb,cb,cb]) a.bg) (aB lH bb (aB aj aN (qL q (bx (aE rfl) (jM rfl)))))),x.ks,x.ks.1,x.snd,c⟩
abbrev Ln(rs:List Row)(x:Str):Prop:=∀C:Str->Prop,f_ rs C->C x
def Kn.mem(h:KL.Kn rs K):x∈K↔Ln rs x:=⟨λa C b=>h.sn C b x a,λhl=>hl _ h.cl⟩
def Kn.some(c:ws.length<=24)(a:∀r∈rs,cZ ws r):∃K,KL.Kn rs K/\iu ws K:=by
 have⟨K,d,e,q,x,b⟩:=pD (Γ:=λ_ _=>cb) (Bv.tup (rs:=rs)) ⋯ a 999999999999 [] cb cb ⟨⟨.nil,λ_ h=>absurd h va⟩,λ_ _ _ h=>absurd h va⟩ (by simp);show⟨K,⟨x.ks.1,x.snd,b⟩,x.ks⟩
end
end TM
namespace TM
open PySem L2 HH
section
def Et(b:st[i]?=bD (bD (.G',.Hf ks us)))(c:Run (bS 2 b6 (pure b6) (ev Γ e) [] (oO (ks,us)) []) (st.set i cb) vs st1):Run (execs Γ (.J7 i e::ss)) st (.rt .own (.lst vs)) st1:=by
 show jZ (af (a:=(ks,us)) (st1:=st.set i cb) ?_ (af c rfl));change qh i st=_;unfold qh;rw[b]
end
end TM
namespace KK
open PySem L2 TM HH Od
abbrev uL:Fn:=⟨"not_learnt",1,1,[.ret (.LL cK (.call "words_of" [.var 0]) (.call "learnt" [.var 0]))]⟩
abbrev Co:List TM.S:=[.ite (.inD cK (.idx (.var 3) (.cst (.int 0))) 1) [.Jj 1 (.idx (.var 3) (.cst (.int 0))) (.idx (.comp 1 cK .seq [.idx (.var 3) (.cst (.int 1))] [.inD cK (.var 0) 2] (.var 0)) (.cst (.int 0)))] []]
abbrev uM:Fn:=⟨"knot",1,4,[.newD 1,.Hy cK [2] .seq [.call "not_learnt" [.var 0]] [.putD 1 (.var 2) (.lst [])],.Hy cK [3] .seq [.var 0] Co,.J7 1 (.tup [.var 0,.bi .tuple [.var 1]])]⟩
abbrev Hk(rows:List Row)(K:List Str):List Str:=(aI rows).filter λx=>df (x∉K)
def pE:x∈Hk rows K↔x∈cE rows/\x∉K:=by
 unfold Hk;rw[lg,cq];simp
def jx(rows:List Row)(K:List Str):(Hk rows K).Nodup:=(cY rows).sublist Hs
abbrev pick(Z:List Str)(l:List Str):Str:=((l.filter λx=>df (x∈Z)).head?).getD ""
abbrev Jn(Z:List Str)(d:List Row)(k:Str):List Str:=(d.filter λr=>df (r.1=k)).map λr=>pick Z r.2
abbrev c8(Z:List Str)(d:List Row)(k:Str):U:=.lst ((Jn Z d k).map .str)
abbrev cj(Z:List Str)(rows:List Row):List Row:=Z.map λk=>(k,Jn Z rows k)
section
def lY(f:K.length<64)(g:(aI rows).length<64)(a:Γ "words_of" [.tup (rows.map A')]=bD (.ok (.own,.lst ((aI rows).map .str))))(b:Γ "learnt" [.tup (rows.map A')]=bD (.ok (.own,.lst ((aL K).map .str)))):
  dJ Γ uL [.tup (rows.map A')]=bD (.ok (.own,.lst ((Hk rows K).map .str))):=by
 have c:TM.start [.tup (rows.map A')] 1=[bD (.loc,.tup (rows.map A'))]:=by simp[TM.start,HG,bU]
 have h:=gY (aI rows);have d:=gY (aL K);rw[cu]at d;have hs:qd cK (aD (aI rows)) (aD (aL K))=bD (.own,.lst ((Hk rows K).map .str)):=by
  unfold qd;rw[ö ⟨⋯,⋯⟩,ø k8];have e:aL ((aD (aI rows)).filter λx=>df (x∉aD (aL K)))=Hk rows K:=by
   show gb ?_ ((cn _).sublist Hs);show(DD ((bp _).sublist Hs) (jx rows K)).mpr λx=>?_;unfold Hk;rw[lg,lg,bh];simp only[õ,bh,(bN K).mem_iff]
  rw[e]
 show aW rfl (.inl rfl) c (bx (Cd (aP (aa (ae rfl) ah) trivial a) (gB ⋯) (aP (aa (ae rfl) ah) trivial b) (gB (by rw[cu];lia)) hs) iR)
def qX(Z:List Str)(d:List Row)(r:Row)(k:Str):Jn Z (d++[r]) k=if r.1=k then Jn Z d k++[pick Z r.2] else Jn Z d k:=by
 unfold Jn;rw[My,l0,ID,P_];by_cases e:r.1=k
 .rw[ö e,ö (ú e)];rfl
 .rw[ø e,ø (by simpa using e)];simp
def BL(Z:List Str)(d:List Row)(k:Str):(Jn Z d k).length<=d.length:=by
 unfold Jn;rw[dt];show nC _ _
def zh(hr:rows.length<=120)(D:∀r∈rows,r.2.length<=8)(n:Z.Nodup)(hl:Z.length<64)(G:∀r∈rows,r.1∈Z->∃x∈r.2,x∈Z)(H:Γ "not_learnt" [.tup (rows.map A')]=bD (.ok (.own,.lst (Z.map .str)))):
  dJ Γ uM [.tup (rows.map A')]=bD (.ok (.own,.lst ((cj Z rows).map A'))):=by
 have hsz:(20000:Nat)<=dV:=by decide
 let j:Option (Kd×U):=bD (.loc,.tup (rows.map A'));have I:TM.start [.tup (rows.map A')] 4=[j,cb,cb,cb]:=by simp[TM.start,HG,bU,j]
 let S:=λ(ks:List Str) (us:List TM.U) (o2 o3:Option (Kd×TM.U))=>([j,bD (.G',.Hf ks us),o2,o3]:aw)
 obtain⟨st1,s,_,o2,e⟩:=bQ (t:=cK) (is:=[2]) (body:=execs Γ [.putD 1 (.var 2) (.lst [])]) (rs:=[(.own,.lst (Z.map .str))]) (λw:Str=>(Kd.loc,U.str w))
  (λd r st=>d++r=Z/\∃o2,st=S d (d.map (c8 Z [])) o2 cb) (λ_ _ _ _=>trivial) (λd w r st o=>by
   have⟨f,o2,e⟩:=o;subst e;have J:w∉d:=λz=>by
    rw[<-f,ti]at n;show n.2.2 w z w (by simp) rfl
   have L:d.length<64:=by have:=ü H8 f;simp at this;lia
   have em:(d++[w]).map (c8 Z [])=d.map (c8 Z [])++[.lst []]:=by rw[l0];rfl
   show⟨S d (d.map (c8 Z [])) (bD (.loc,.str w)) cb,S (d++[w]) ((d++[w]).map (c8 Z [])) (bD (.loc,.str w)) cb,dZ aN,?_,by rw[<-f];simp,_,rfl⟩;rw[em];show yz (k:=.loc) (xs:=[]) (bE ah trivial aC (js _)) rfl (ae rfl) J ⋯ ay) Z [] (S [] [] cb cb) ⟨rfl,cb,rfl⟩
 subst e;rw[i6]at s;let body:List TM.S:=Co;obtain⟨st2,v,_,o3,e⟩:=bQ (t:=cK) (is:=[3]) (body:=execs Γ body) (rs:=[(.loc,.tup (rows.map A'))]) (λr:Row=>(Kd.loc,A' r))
  (λd r st=>d++r=rows/\∃o3,st=S Z (Z.map (c8 Z d)) o2 o3) (λ_ _ _ _=>trivial) (λd b r st o=>by
   have⟨f,o3,e⟩:=o;subst e;have L:d.length<120:=by have:=ü H8 f;simp at this;lia
   have A:b∈rows:=by rw[<-f];simp
   have XS:=D b A;let c:Option (Kd×TM.U):=bD (.loc,A' b);have B:Run (ev Γ (.idx (.var 3) (.cst (.int 0)))) (S Z (Z.map (c8 Z d)) o2 c) (.loc,.str b.1) (S Z (Z.map (c8 Z d)) o2 c):=aQ (x:=(.loc,A' b)) (ae rfl) aj trivial rfl;have m:Run (HB Γ (.inD cK (.idx (.var 3) (.cst (.int 0))) 1)) (S Z (Z.map (c8 Z d)) o2 c) (df (b.1∈Z)) (S Z (Z.map (c8 Z d)) o2 c):=yy (neg:=cK) (k:=.loc) B rfl;have C:Run (dw cK [3] (.loc,A' b)) (S Z (Z.map (c8 Z d)) o2 o3) () (S Z (Z.map (c8 Z d)) o2 c):=dZ aN;by_cases g:b.1∈Z
   .rw[ú g]at m;have i:=fZ (cond:=aU Γ [.inD cK (.var 0) 2]) (elt:=ev Γ (.var 0)) (src:=[(.loc,.tup (b.2.map .str))]) (st:=S Z (Z.map (c8 Z d)) o2 c) trivial .loc (.inl rfl) U.str U.str (λx=>df (x∈Z)) .loc b.2 [] (by simp;lia)
     (λy _=>⟨dn (yy (neg:=cK) (k:=.loc) (ae rfl) rfl),λ_=>⟨ae rfl,aG⟩⟩)
    rw[i6]at i;have q:(b.2.map U.str).map (λu=>(kE .loc,u))=b.2.map λx=>(Kd.loc,U.str x):=by rw[i4];rfl
    have N:=b8 (Γ:=Γ) (ik:=.seq) (rs:=[(.loc,.tup (b.2.map .str))]) (st:=S Z (Z.map (c8 Z d)) o2 c) (src:=[.idx (.var 3) (.cst (.int 1))]) (aa (aQ (x:=(.loc,A' b)) (ae rfl) aj trivial rfl) ah) trivial (by change bD (PM (λu=>(kE .loc,u)) _)=_;rw[q]) i;have O:Ij ((b.2.filter λx=>df (x∈Z)).map U.str) ((0:Nat):Int)=bD (.str (pick Z b.2)):=by
     have⟨x,Q,T⟩:=G b A g;show dF ?_;unfold pick;cases Y:b.2.filter λx=>df (x∈Z) with
     |nil =>
      have:x∈b.2.filter λx=>df (x∈Z):=lg.mpr ⟨Q,ú T⟩;rw[Y]at this;cases this
     |cons a l=>rfl
    have hg:dI Z (Z.map (c8 Z d)) b.1=bD (.lst ((Jn Z d b.1).map .str)):=by rw[iW,ö g];rfl
    have hs:jj Z (Z.map (c8 Z d)) b.1 (.lst ((Jn Z d b.1).map .str++[.str (pick Z b.2)]))=Z.map (c8 Z (d++[b])):=by
     rw[lR _ _ _ _ n];show ts λk hk=>?_;unfold c8;rw[qX];by_cases e:b.1=k
     .subst e;rw[ö rfl,ö rfl];simp
     .rw[ø e,ø (tj e)]
    have Qw:=BL Z d b.1;show⟨_,S Z (Z.map (c8 Z (d++[b]))) o2 c,C,lL m (λ_=>?_) (λh=>by cases h),by rw[<-f];simp,_,rfl⟩;rw[<-hs];show yA (k:=.loc) (r:=(.loc,.str (pick Z b.2))) rfl B g (aQ N aj trivial (b9 (k:=.own) O)) aG hg (by rw[dt];lia) ay
   .rw[ù g]at m;have em:Z.map (c8 Z (d++[b]))=Z.map (c8 Z d):=ts λk hk=>by
     unfold c8;rw[qX,ø (show ¬b.1=k from λz=>g (z▸hk))]
    show⟨_,S Z (Z.map (c8 Z d)) o2 c,C,lL m (λh=>by cases h) (λ_=>ay),by rw[<-f];simp,c,by rw[em]⟩) rows [] (S Z (Z.map (c8 Z [])) o2 cb) ⟨rfl,cb,rfl⟩
 subst e;rw[i6]at v;have i:=lS (st:=[j,cb,o2,o3]) (cond:=pure b6) (elt:=ev Γ (.tup [.var 0,.bi .tuple [.var 1]])) (src:=[]) trivial (λk:Str=>U.str k) (λk=>c8 Z rows k) (λk=>A' (k,Jn Z rows k)) (λ_=>b6) Z [] (by simp;lia)
  (λy _=>⟨a5,dz (aa (ae rfl) (aa (bW (aa (ae rfl) ah) trivial (r:=(.loc,.tup ((Jn Z rows y).map .str))) rfl) ah)) trivial (av aG (av aG aC)) (by change 2<=dV;lia)⟩)
 rw[i6,N_.mpr (λ_ _=>rfl)]at i;have ei:oO (Z,Z.map (c8 Z rows))=Z.map λk=>(Kd.loc,U.tup [.str k,c8 Z rows k]):=by
  have:∀l:List Str,(l.zip (l.map (c8 Z rows))).map (λp=>(Kd.loc,U.tup [.str p.1,p.2]))=l.map λk=>(Kd.loc,U.tup [.str k,c8 Z rows k]):=λl=>by
   induction l with
   |nil=>rfl
   |cons a l ih=>rw[gs,OC,gs,ih];rfl
  show this Z
 have ek:(cj Z rows).map A'=Z.map λk=>A' (k,Jn Z rows k):=by unfold cj;rw[i4];rfl
 rw[ek];have q:(Z.map U.str).map (λu=>(kE .own,u))=Z.map λw=>(Kd.loc,U.str w):=by rw[i4];rfl
 have e2:(rows.map A').map (λu=>(kE .loc,u))=rows.map λr=>(Kd.loc,A' r):=by rw[i4];rfl
 show aW rfl (.inl rfl) I (yx (cH (rs:=[(.own,.lst (Z.map .str))]) (st1:=S [] [] cb cb) (aa (aP (aa (ae rfl) ah) trivial H) ah) trivial (by change bD (PM (λu=>(kE .own,u)) _)=_;rw[q]) rfl s
  (cH (rs:=[(.loc,.tup (rows.map A'))]) (aa (ae rfl) ah) trivial (by change bD (PM (λu=>(kE .loc,u)) _)=_;rw[e2]) rfl v (Et rfl (by rw[ei];show i)))))
end
end KK
namespace TM
open PySem L2 HH Od
inductive Bw(L:List Str):Kd->U->Prop
 |tup:Bw L .loc (.tup (L.map .str))
 |lst:Bw L .any (.lst (L.map .str))
def Bw.kd{W:U}(h:Bw L k W):k=.loc\/k=.any:=by cases h<;>simp
def Bw.it{W:U}(h:Bw L k W):Jk .seq [(k,W)]=bD (L.map λx=>(k,U.str x)):=by
 cases h
 .show qW
 .change bD ((L.map U.str).map λu=>(kE .any,u))=_;rw[i4];rfl
def Bw.bg{W:U}(h:Bw L k W):(bD (if HG W=b6 then Kd.loc else Kd.any,W):Option (Kd×U))=bD (k,W):=by
 cases h
 .rw[ö (by change cG (L.map U.str)=b6;show gA L)]
 .rfl
def Bw.set{W:U}(h:Bw L k W)(hl:L.length<4000):ia W=bD (aD L):=by
 have:=gB hl;cases h<;>show this
def Bw.start{rs:List Row}{W:U}(h:Bw L k W)(n:Nat):TM.start [.tup (rs.map A'),W] (n+2)=bD (.loc,.tup (rs.map A'))::bD (k,W)::ki n cb:=by
 change bD (if HG (.tup (rs.map A'))=b6 then Kd.loc else Kd.any,U.tup (rs.map A'))::bD (if HG W=b6 then Kd.loc else Kd.any,W)::ki (n+2 - 2) cb=_;rw[bR,h.bg];rfl
abbrev JU(rs:List Row)(L:List Str):Prop:=∀x∈L,x∈aI rs
structure Bz(ws:List Str)(rs:List Row):Prop where
 wl:ws.length<=24
 rl:rs.length<=120
 ok:∀r∈rs,cZ ws r
def Bz.in(h:Bz ws rs)(b:x∈aI rs):x∈ws:=by
 have⟨r,a,e⟩:=bZ.mp (cq.mp b);rcases e with rfl|e
 .show(h.ok r a).1
 .show(h.ok r a).2.2.1 _ e
section
abbrev heads(rs:List Row):List Str:=(rs.filter λr=>df (r.2=[])).map (·.1)
abbrev wp(rs:List Row)(L:List Str):List Row:=rs++(L.filter λw=>df (w∉heads rs)).map λw=>(w,[])
def zi(h:r∈wp rs L):r∈rs\/(r.1∈L/\r.2=[]):=by
 rcases kj.mp h with h|h
 .show .inl h
 .have⟨w,a,rfl⟩:=ke.mp h;show .inr ⟨(lg.mp a).1,rfl⟩
def pF:(wp rs L).length<=rs.length+L.length:=by
 unfold wp;rw[i7,dt];have:=nC (λw=>df (w∉heads rs)) L;lia
def uN(d:∀r∈rs,cZ ws r)(c:∀x∈ws,x∈ws')(e:∀x∈L,x∈ws'):∀r∈wp rs L,cZ ws' r:=λr h=>by
 rcases zi h with h|⟨a,b⟩
 .have⟨p,q,s,t⟩:=d r h;show⟨c _ p,q,λy f=>c y (s y f),t⟩
 .show⟨e _ a,?_,?_,?_⟩<;>rw[b]<;>simp
def fD(hk:JU rs L):x∈aI (wp rs L)↔x∈aI rs:=by
 constructor
 .intro h;have⟨r,c,e⟩:=bZ.mp (cq.mp h);rcases zi c with c|⟨a,b⟩
  .show cq.mpr (bZ.mpr ⟨r,c,e⟩)
  .rw[b]at e;rcases e with rfl|e
   .show hk _ a
   .cases e
 .intro h;have⟨r,c,e⟩:=bZ.mp (cq.mp h);show cq.mpr (bZ.mpr ⟨r,D' _ c,e⟩)
def qY{W:U}(a:Bw L k W){H:List Str}(hl:L.length<=40)(d:st[i]?=bD (bD (k,W)))(b:st[j]?=bD (bD (.own,w)))(e:∀x:Str,bO .Ht (.str x) w=bD (df (x∉H))):
  Run (ev Γ (.bi .tuple [.comp 1 cK .seq [.var i] [.cmp .Ht (.var 0) (.var (j+1))] (.tup [.var 0,.tup []])])) st (.loc,.tup (((L.filter λw=>df (w∉H)).map λw=>(w,[])).map A')) st:=by
 have hsz:(1000:Nat)<=dV:=by decide
 have hk:=a.kd;have c:=fZ (cond:=aU Γ [.cmp .Ht (.var 0) (.var (j+1))]) (elt:=ev Γ (.tup [.var 0,.tup []])) (src:=[(k,W)]) (st:=st) (c7 hk trivial) k hk U.str (λw=>A' (w,[])) (λw=>df (w∉H)) .loc L [] (by simp;lia)
  (λy _=>⟨dn (aK (d5 hk rfl) (aE (by simpa using b)) (c7 hk ⟨⟨.own,rfl,by simpa using b⟩,trivial⟩) (e y)),λ_=>⟨dz (aa (d5 hk rfl) (aa (dz ah trivial aC (js _)) ah)) (c7 hk trivial) (av (Vc hk rfl) (av aG aC)) (by change 2<=dV;lia),aG⟩⟩)
 rw[i6]at c;rw[i4];show bW (aa (b8 (rs:=[(k,W)]) (aa (d5 hk d) ah) (c7 hk trivial) a.it c) ah) trivial rfl
abbrev F7:List S:=[.ite (.cmp .eq (.idx (.var 3) (.cst (.int 1))) (.tup [])) [.put 2 (.idx (.var 3) (.cst (.int 0))) (.cst (.bl b6))] []]
abbrev sX(rs:List Row)(k:Kd)(W:U)(K:List Str)(o3:Option (Kd×U)):aw:=[bD (.loc,.tup (rs.map A')),bD (k,W),bD (.own,mF K),o3]
def uO{rs ms:List Row}(h:rs.length+ms.length<=1000):JI .add (.loc,.tup (rs.map A')) (.loc,.tup (ms.map A'))=bD (.loc,.tup ((rs++ms).map A')):=by
 have hsz:(1000:Nat)<=dV:=by decide
 change(if (rs.map A').length+(ms.map A').length<=dV then bD (kT .loc .loc,U.tup (rs.map A'++ms.map A')) else cb)=_;rw[ö (by simp;lia),l0];rfl
end
section
abbrev uL:Fn:=⟨"not_learnt",1,1,[.ret (.LL cK (.call "words_of" [.var 0]) (.call "learnt" [.var 0]))]⟩
abbrev Suf(rs:List Row)(L:List Str):Prop:=∀x∈aI rs,Ln (wp rs L) x
def Suf.mono{M N:List Str}(h:∀x∈M,x∈N)(s:Suf rs M):Suf rs N:=λx b C c=>s x b C λr hr=>c r (by
 rcases kj.mp hr with hr|hr
 .show D' _ hr
 .have⟨w,a,rfl⟩:=ke.mp hr;show mh _ (ke.mpr ⟨w,lg.mpr ⟨h w (lg.mp a).1,(lg.mp a).2⟩,rfl⟩))
abbrev Pl:Fn:=⟨"_law_pictured",2,3,[.set 2 (.comp 1 cK .seq [.var 0] [.cmp .eq (.idx (.var 0) (.cst (.int 1))) (.tup [])] (.idx (.var 0) (.cst (.int 0)))),.ret (.bin .add (.bi .tuple [.var 0]) (.bi .tuple [.comp 1 cK .seq [.var 1] [.cmp .Ht (.var 0) (.var 3)] (.tup [.var 0,.tup []])]))]⟩
def BM(h:HL Pg "_law_pictured" Pl)(b:rs.length<=120)(hl:L.length<=40):Hm Pg (d+1) "_law_pictured" [.tup (rs.map A'),.lst (L.map .str)]=bD (.ok (.loc,.tup ((wp rs L).map A'))):=by
 have c:=nC (λw=>df (w∉heads rs)) L;have a:=qY (Γ:=Hm Pg d) (st:=[bD (.loc,.tup (rs.map A')),bD (.any,.lst (L.map .str)),bD (.own,.lst ((heads rs).map .str))]) .lst (i:=1) (j:=2) (w:=.lst ((heads rs).map .str)) (H:=heads rs) hl rfl rfl λx=>fY;show(aH h _).trans (aW rfl (.inr rfl) (Bw.lst.start 1) (aB (y7 ⋯ rfl) bb (bx (bo (bW (aa (ae rfl) ah) trivial rfl) a trivial (uO (by rw[dt];lia))) cS)))
abbrev Tq:Fn:=⟨"_law_suffice",2,2,[.ret (.cmp .eq (.bi .sorted [.call "_law_learnt" [.call "_law_pictured" [.var 0,.var 1]]]) (.call "_law_all" [.var 0]))]⟩
def G_(f:HL Pg "_law_pictured" Pl)(i:HL Pg "_law_learnt" BJ)(j:HL Pg "_law_all" y6)(h:HL Pg "_law_suffice" Tq){ws ws':List Str}(c:Bz ws rs)(hl:L.length<=40)(k:ws'.length<=40)(l:∀x∈ws,x∈ws')(m:∀x∈L,x∈ws'):
  ∃b,Hm Pg (d+2) "_law_suffice" [.tup (rs.map A'),.lst (L.map .str)]=bD (.ok (.loc,.bl b))/\(JU rs L->(b=b6↔Suf rs L)):=by
 have⟨K,e,k1,k2⟩:=F6 (d:=d) (i5 40) i ws' (wp rs L) .loc _ .tup k (uN c.ok l m);have o:=k1.len;show⟨df (aL K=aI rs),(aH h _).trans (aW rfl (.inr rfl) (Bw.lst.start 0) (bx (eV (x:=(.own,.lst ((aL K).map .str))) (bW (aa (aP (aa (aP (aa (ae rfl) (aa (ax rfl) ah)) trivial (BM f c.rl hl)) ah) trivial e) ah) trivial ?_) (aP (aa (ae rfl) ah) trivial (BI j c.wl c.ok)) trivial f9) cS)),λz=>?_⟩
 .change(if K.length<64 then bD (Kd.own,U.lst ((aL K).map .str)) else cb)=_;rw[ö ⋯]
 .rw[decide_eq_true_iff];constructor
  .intro g x a;show(Kn.mem k2).mp ((bN K).mem_iff.mp (g▸a))
  .intro g;show gb ((DD k1.1 (cY rs)).mpr λx=>⟨λa=>?_,λa=>(Kn.mem k2).mpr (g x a)⟩) (cn _);have:=(Kn.mem k2).mp a (·∈aI (wp rs L)) λr n _=>cq.mpr (bZ.mpr ⟨r,n,.inl rfl⟩);show(fD z).mp this
end
section
abbrev Cp:Fn:=⟨"refuse_unknown",2,2,[.ite (.cmp .gt (.LL b6 (.var 1) (.call "words_of" [.var 0])) (.cst (.int 0))) [.bad] []]⟩
abbrev F8:Fn:=⟨"with_pictures",2,4,[.exp (.call "refuse_unknown" [.var 0,.var 1]),.set 2 (.Ji cK),.Hy cK [3] .seq [.var 0] F7,.ret (.bin .add (.var 0) (.bi .tuple [.comp 1 cK .seq [.var 1] [.cmp .Ht (.var 0) (.var 3)] (.tup [.var 0,.tup []])]))]⟩
abbrev Cq:Fn:=⟨"suffice",2,2,[.ret (.cmp .eq (.call "not_learnt" [.call "with_pictures" [.var 0,.var 1]]) (.lst []))]⟩
structure sY(Pg:List Fn):Prop where
 L:KL.To Pg
 w:HL Pg "words_of" sG
 r:HL Pg "refuse_unknown" Cp
 p:HL Pg "with_pictures" F8
 n:HL Pg "not_learnt" KK.uL
 s:HL Pg "suffice" Cq
def Ha(H:sY Pg)(d:Nat)(c:Bz ws rs){W:U}(e:Bw L k W)(hl:L.length<=40)(hk:JU rs L):Hm Pg (d+2) "refuse_unknown" [.tup (rs.map A'),W]=bD (.ok (.loc,.Hj)):=by
 have i:=d0 λr b=>(c.ok r b).ok;have JA:=c.wl;have j:(aD (aI rs)).length<=(aI rs).length:=dA (bp _) λx a=>by simpa[bh] using a
 have f:(aD L).length<=L.length:=dA (bp _) λx a=>by simpa[bh] using a
 have g:Hm Pg (d+1) "words_of" [.tup (rs.map A')]=bD (.ok (.own,.lst ((aI rs).map .str))):=(aH H.w _).trans (iU c.rl (λr b=>(c.ok r b).ok) ⋯);have hs:qd b6 (aD L) (aD (aI rs))=bD (.loc,.int (((aD L).filter λx=>df (x∉aD (aI rs))).length:Nat)):=by
  unfold qd;rw[ö ⟨⋯,⋯⟩,ö rfl]
 have h:((aD L).filter λx=>df (x∉aD (aI rs)))=[]:=by
  rw[Mx];intro x a;have a:x∈L:=by simpa[bh] using a
  simpa[bh] using hk x a
 rw[h]at hs;have b:Run (ev (Hm Pg (d+1)) (.LL b6 (.var 1) (.call "words_of" [.var 0]))) [bD (.loc,.tup (rs.map A')),bD (k,W)] _ _:=Cd (d5 e.kd rfl) (e.set ⋯) (aP (aa (ae rfl) ah) trivial g) (gB ⋯) hs;show(aH H.r _).trans (v9 rfl (e.start 0) (a9 (aK b aj trivial (gR rfl)) ay ay))
def Ts(H:sY Pg)(d:Nat)(b:Bz ws rs){W:U}(c:Bw L k W)(hl:L.length<=40)(z:JU rs L):Hm Pg (d+3) "with_pictures" [.tup (rs.map A'),W]=bD (.ok (.loc,.tup ((wp rs L).map A'))):=by
 have hk:=c.kd;have o:=Ha H d b c hl z;obtain⟨st',s,K,o3,rfl,B,m,_⟩:=bQ (rs:=[(.loc,.tup (rs.map A'))]) (t:=cK) (is:=[3]) (body:=execs (Hm Pg (d+2)) F7) (λr:Row=>(Kd.loc,A' r)) (λa q st=>∃K o3,st=sX rs k W K o3/\iu ws K/\(∀x,x∈K↔x∈heads a)/\∀r∈q,cZ ws r)
  (λ_ _ _ _=>trivial) (λa y q st u=>by
   have⟨K,o3,e,g,n,h⟩:=u;subst e;have C:=g.len;have D:=b.wl;have f:Run (HB (Hm Pg (d+2)) (.cmp .eq (.idx (.var 3) (.cst (.int 1))) (.tup []))) (sX rs k W K (bD (.loc,A' y))) (df (y.2=[])) (sX rs k W K (bD (.loc,A' y))):=aK (aQ (ae rfl) aj trivial (show gF (.loc,A' y) (.int 1)=bD (.loc,.tup (y.2.map .str)) from rfl)) (dz ah trivial aC (js _)) trivial pv;have v:heads (a++[y])=heads a++(if y.2=[] then [y.1] else []):=by
    unfold heads;rw[My,l0,ID,P_];by_cases e:y.2=[]<;>simp[e]
   rw[v];by_cases e:y.2=[]
   .rw[ú e]at f;rw[ö e];show⟨_,sX rs k W (eX K y.1) (bD (.loc,A' y)),aN,fX f (iS (k:=.own) (k':=.own) aj rfl (aQ (ae rfl) aj trivial (show gF (.loc,A' y) (.int 0)=bD (.loc,.str y.1) from rfl)) (av aG (av aG aC)) rfl rfl (kh ⋯) ay) ay,eX K y.1,_,rfl,g.ins (h y (by simp)).1,λx=>?_,λr l=>h r (by simp[l])⟩;rw[gf,n x,kj,i0]
   .rw[ù e]at f;rw[ø e,u7];show⟨_,sX rs k W K (bD (.loc,A' y)),aN,a9 f ay ay,K,_,rfl,g,n,λr l=>h r (by simp[l])⟩) rs [] (sX rs k W [] cb) ⟨[],cb,rfl,⟨.nil,by simp⟩,λx=>by simp[heads],b.ok⟩
 rw[i6]at m;have A:=qY (Γ:=Hm Pg (d+2)) (st:=sX rs k W K o3) c (i:=1) (j:=2) (w:=mF K) (H:=heads rs) hl rfl rfl λx=>eW.trans (by simp[m x]);have G:=nC (λw=>df (w∉heads rs)) L;show(aH H.p _).trans (aW rfl (.inr rfl) (c.start 2) (yO (aP (aa (ae rfl) (aa (d5 hk rfl) ah)) (c7 (.inl rfl) (c7 hk trivial)) o) (aB lH bb (cH (rs:=[(.loc,.tup (rs.map A'))]) (aa (ae rfl) ah) trivial iY rfl s (bx (bo (ae rfl) A trivial (uO (by rw[dt];have:=b.rl;lia))) cS)))))
def zj(a:Bz ws rs)(z:JU rs L)(h:rs.length+L.length<=120):Bz ws (wp rs L):=⟨a.wl,u6 pF h,uN a.ok (λ_ h=>h) λx b=>a.in (z x b)⟩
def d6(a:Bz ws rs)(K:List Str):(KK.Hk rs K).length<=24:=by
 have c:(KK.Hk rs K).length<=(aI rs).length:=nC _ _;have d:=d0 λr b=>(a.ok r b).ok;have:=a.wl;lia
def Tt(H:sY Pg)(d:Nat)(a:Bz ws rs)(c:KL.Kn rs K)(hl:K.length<=24):Hm Pg (d+6) "not_learnt" [.tup (rs.map A')]=bD (.ok (.own,.lst ((KK.Hk rs K).map .str))):=by
 have f:=d0 λr b=>(a.ok r b).ok;have g:=a.wl;have e:Hm Pg (d+5) "words_of" [.tup (rs.map A')]=bD (.ok (.own,.lst ((aI rs).map .str))):=(aH H.w _).trans (iU a.rl (λr b=>(a.ok r b).ok) ⋯);show(aH H.n _).trans (KK.lY ⋯ ⋯ e (KL.BH H.L d (λr b=>(a.ok r b).ok) a.wl a.rl c))
def bL:x∈KK.Hk rs K↔x∈aI rs/\x∉K:=by rw[KK.pE,cq]
def Hb(H:sY Pg)(d:Nat)(c:Bz ws rs){W:U}(e:Bw L k W)(hl:L.length<=40)(hz:rs.length+L.length<=120)(z:JU rs L):∃b,Hm Pg (d+7) "suffice" [.tup (rs.map A'),W]=bD (.ok (.loc,.bl b))/\(b=b6↔Suf rs L):=by
 have hk:=e.kd;have f:=zj c z hz;have⟨K,h,j⟩:=Kn.some f.wl f.ok;have m:=j.len;have n:=c.wl;show⟨df (KK.Hk (wp rs L) K=[]),(aH H.s _).trans (aW rfl (.inr rfl) (e.start 0) (bx (eV (aP (aa (aP (aa (ae rfl) (aa (d5 hk rfl) ah)) (c7 (.inl rfl) (c7 hk trivial)) (Ts H (d+3) c e hl z)) ah) trivial (Tt H d f h ⋯)) (bE ah trivial aC (js _)) trivial (f9 (b:=[]))) cS)),?_⟩;rw[decide_eq_true_iff,List.eq_nil_iff_forall_not_mem];constructor
 .intro g x i;show K1 λl=>g x (bL.mpr ⟨(fD z).mpr i,λy=>l ((Kn.mem h).mp y)⟩)
 .intro g x i;have⟨a,b⟩:=bL.mp i;show b ((Kn.mem h).mpr (g x ((fD z).mp a)))
def Kn.Cr(b:KL.Kn rs K):∀r∈rs,r.1∈KK.Hk rs K->∃x∈r.2,x∈KK.Hk rs K:=λr h hz=>by
 apply K1;intro c;show(KK.pE.mp hz).2 (b.cl r h λx a=>?_);apply K1;intro d;show c ⟨x,a,KK.pE.mpr ⟨bZ.mpr ⟨r,h,.inr a⟩,d⟩⟩
def Vd(H:sY Pg)(hk:HL Pg "knot" KK.uM)(d:Nat)(a:Bz ws rs)(c:rs.length<=120)(b:KL.Kn rs K)(hl:K.length<=24):Hm Pg (d+7) "knot" [.tup (rs.map A')]=bD (.ok (.own,.lst ((KK.cj (KK.Hk rs K) rs).map A'))) :=
 (aH hk _).trans (KK.zh c (λr h=>(a.ok r h).2.2.2) (KK.jx _ _) (by have:=d6 a K;lia) (Kn.Cr b) (Tt H d a b hl))
def Suf.Hk(g:KL.Kn rs K):Suf rs (KK.Hk rs K):=λx i C d=>by
 by_cases h:x∈K
 .show(Kn.mem g).mp h C λr e=>d r (D' _ e)
 .by_cases f:x∈heads rs
  .have⟨r,e,rfl⟩:=ke.mp f;have⟨a,b⟩:=lg.mp e;show d r (D' _ a) λy c=>by rw[û b]at c;cases c
  .show d (x,[]) (mh _ (ke.mpr ⟨x,lg.mpr ⟨bL.mpr ⟨i,h⟩,ú f⟩,rfl⟩)) λy c=>by cases c
end
abbrev Ih:Nat->List Str->List (List Str)
 |0,_=>[[]]
 |_+1,[]=>[]
 |n+1,w::ws=>(Ih n ws).map (w::·)++Ih (n+1) ws
theorem kl:∀(n:Nat) (ws:List Str),(Ih n ws).length<=2 ^ ws.length
 |0,ws=>by simpa[Ih] using Nat.one_le_two_pow
 |n+1,[]=>by simp[Ih]
 |n+1,w::ws=>by
  have a:=kl n ws;have b:=kl (n+1) ws;simp only[Ih,i7,dt,k7,Ù];lia
theorem gD:∀(n:Nat) (ws l:List Str),l∈Ih n ws->l.Sublist ws/\l.length=n
 |0,ws,l,h=>by
  simp only[Ih,i0]at h;subst h;show⟨List.nil_sublist _,rfl⟩
 |n+1,[],l,h=>by simp[Ih]at h
 |n+1,w::ws,l,h=>by
  simp only[Ih,kj,ke]at h;rcases h with⟨m,c,rfl⟩|h
  .have⟨a,b⟩:=gD n ws m c;show⟨a.cons₂ w,by rw[k7,b]⟩
  .have⟨a,b⟩:=gD (n+1) ws l h;show⟨a.cons w,b⟩
theorem km:∀(ws l:List Str),l.Sublist ws->l∈Ih l.length ws
 |ws,[],_=>by simp[Ih]
 |[],x::l,h=>by cases h
 |w::ws,x::l,h=>by
  simp only[k7,Ih,kj,ke];cases h with
  |cons _ h=>show .inr (km ws (x::l) h)
  |cons_cons _ h=>show .inl ⟨l,km ws l h,rfl⟩
def zk(a b:List α):cut (a++b) (bD (a.length:Nat)) cb=b:=by
 have c:HT.Jg (a++b).length 0 (bD ((a.length:Nat):Int))=a.length:=by rw[HT.zM];simp
 have d:HT.Jg (a++b).length (a++b).length cb=(a++b).length:=rfl;unfold cut;rw[c,d,List.drop_left,Mt (by simp)]
abbrev HQ(l:List Str):U:=.lst (l.map .str)
section
abbrev F9:List S:=[.app 2 (.bin .add (.lst [.var 4]) (.var 5))]
abbrev Ve:List S :=
   [.Hy cK [5] .seq [.call "choices" [.KN (.var 0) [.bin .add (.var 3) (.cst (.int 1))] [],.bin .sub (.var 1) (.cst (.int 1))]] F9]
abbrev Tu:Fn:=⟨"choices",2,6,[.ite (.cmp .eq (.var 1) (.cst (.int 0))) [.ret (.lst [.lst []])] [],.set 2 (.lst []),.Hy b6 [3,4] .LK [.var 0] Ve,.ret (.var 2)]⟩
abbrev qZ(ws:List Str)(n:Int)(cs:List (List Str))(o3 o4 o5:Option (Kd×U)):aw:=[bD (.any,.lst (ws.map .str)),bD (.loc,.int n),bD (.own,.lst (cs.map HQ)),o3,o4,o5]
theorem Cs(h:HL Pg "choices" Tu):∀(n:Nat) (ws:List Str) (d:Nat),ws.length<=24->2 ^ ws.length<=1000->Hm Pg (d+n+1) "choices" [.lst (ws.map .str),.int (n:Nat)]=bD (.ok (.own,.lst ((Ih n ws).map HQ)))
 |0,ws,d,_,_=>by
  have hsz:(1000:Nat)<=dV:=by decide
  rw[show Ih 0 ws=[[]] by simp[Ih]];show(aH h _).trans (aW (st0:=[bD (.any,.lst (ws.map .str)),bD (.loc,.int (0:Nat)),cb,cb,cb,cb]) rfl (.inl rfl) rfl (jZ (fy (aK (ae rfl) aj trivial (bw rfl)) (bx (bE (aa (bE ah trivial aC (js _)) ah) trivial (av qA aC) (by change 1<=dV;lia)) iR))))
 |n+1,ws,d,hl,z=>by
  have hsz:(1000:Nat)<=dV:=by decide
  have o:Jk .LK [(.any,.lst (ws.map .str))]=bD (ws.zipIdx.map λp:Str×Nat=>(Kd.any,U.tup [.int (p.2:Nat),.str p.1])):=by
   change bD ((ws.map U.str).zipIdx.map λp=>(kE .any,U.tup [.int p.2,p.1]))=_;rw[ZG,i4];rfl
  have⟨st',A,cs,o3,o4,o5,a,b,rfl,i,g,f⟩:=bQ (rs:=[(.any,.lst (ws.map .str))]) (t:=b6) (is:=[3,4]) (body:=execs (Hm Pg (d+(n+1))) Ve) (λp:Str×Nat=>(Kd.any,U.tup [.int (p.2:Nat),.str p.1]))
   (λ_ r st=>∃cs o3 o4 o5 a b,st=qZ ws ((n+1:Nat):Int) cs o3 o4 o5/\a++b=ws/\r=b.zipIdx a.length/\cs++Ih (n+1) b=Ih (n+1) ws) (λ_ _ _ _=>trivial) (λe y r st q=>by
    have⟨cs,o3,o4,o5,a,b,s,i,g,f⟩:=q;subst s;cases b with
    |nil=>cases g
    |cons w b =>
     rw[UM,NO]at g;have⟨rfl,rfl⟩:=g;have O:b.length+a.length+1=ws.length:=by rw[<-i];simp;lia
     have B:2 ^ b.length<=1000:=u6 (YD ⋯ ⋯) z;have Q:cs.length+(Ih n b).length<=1000:=by
      have C:=ü H8 f;have T:=kl (n+1) ws;simp only[Ih,i7,dt]at C;lia
     have D:=Cs h n b d ⋯ B;let S:=qZ ws ((n+1:Nat):Int) cs (bD (.any,.int (a.length:Nat))) (bD (.any,.str w)) o5;have G:Run (ev (Hm Pg (d+(n+1))) (.call "choices" [.KN (.var 0) [.bin .add (.var 3) (.cst (.int 1))] [],.bin .sub (.var 1) (.cst (.int 1))])) S (.own,.lst ((Ih n b).map HQ)) S:=by
      have s:cut ws (bD ((a.length:Nat)+1:Int)) cb=b:=by
       have:=zk (a++[w]) b;rw[Q_,List.singleton_append,i,i7,JY,Int.natCast_add]at this;show this
      have v:la (.any,.lst (ws.map .str)) (bD ((a.length:Nat)+1:Int)) cb=bD (.own,.lst (b.map .str)):=by
       rw[Bo (jw (.inl rfl)),s]
      show aP (aa (nF (ax rfl) (lG (bo (ax rfl) aj trivial cB)) qz trivial v) (aa (bo (ae rfl) aj trivial fb) ah)) trivial (by
       change Hm Pg (d+(n+1)) "choices" [.lst (b.map .str),.int (((n+1:Nat):Int) - 1)]=_;rw[show(((n+1:Nat):Int) - 1)=(n:Nat) by lia];show D)
     have⟨st2,H,Y,m,rfl,j⟩:=bQ (rs:=[(.own,.lst ((Ih n b).map HQ))]) (t:=cK) (is:=[5]) (body:=execs (Hm Pg (d+(n+1))) F9) (λl:List Str=>(Kd.loc,HQ l))
      (λm r st=>∃o5 x,st=qZ ws ((n+1:Nat):Int) (cs++m.map (w::·)) (bD (.any,.int (a.length:Nat))) (bD (.any,.str w)) o5/\x=m/\m++r=Ih n b) (λ_ _ _ _=>trivial) (λm l r st q=>by
       obtain⟨o5,x,v,_,j⟩:=q;subst v;have Wr:m.length<(Ih n b).length:=by rw[<-j];simp
       have NW:l.length=n/\l.length<=24:=by
        have⟨I,J⟩:=gD n b l (by rw[<-j];simp);have:=I.length_le;show⟨J,⋯⟩
       show⟨qZ ws ((n+1:Nat):Int) (cs++m.map (w::·)) (bD (.any,.int (a.length:Nat))) (bD (.any,.str w)) (bD (.loc,HQ l)),qZ ws ((n+1:Nat):Int) (cs++(m++[l]).map (w::·)) (bD (.any,.int (a.length:Nat))) (bD (.any,.str w)) (bD (.loc,HQ l)),aN,?_,_,_,rfl,rfl,by rw[<-j];simp⟩;have L:Run (ev (Hm Pg (d+(n+1))) (.bin .add (.lst [.var 4]) (.var 5))) (qZ ws ((n+1:Nat):Int) (cs++m.map (w::·)) (bD (.any,.int (a.length:Nat))) (bD (.any,.str w)) (bD (.loc,HQ l))) (.own,HQ (w::l)) _:=bo (bE (aa (ax rfl) ah) trivial (av (iQ rfl) aC) (by change 1<=dV;lia)) (ae rfl) trivial (lP (by change 1+(l.map U.str).length<=dV;rw[dt];lia) rfl rfl);show gQ (k:=.own) (k':=.own) rfl L qA rfl rfl (by simp;lia) ?_;rw[show(cs++m.map (w::·)).map HQ++[HQ (w::l)]=(cs++(m++[l]).map (w::·)).map HQ by simp];show ay) (Ih n b) [] (qZ ws ((n+1:Nat):Int) cs (bD (.any,.int (a.length:Nat))) (bD (.any,.str w)) o5) ⟨o5,[],by simp,rfl,by simp⟩
     rw[i6]at *;show⟨S,_,gS (.inr rfl),cH (rs:=[(.own,.lst ((Ih n b).map HQ))]) (aa G ah) trivial (by change bD (((Ih n b).map HQ).map λu=>(kE .own,u))=_;rw[i4];rfl) rfl H ay,_,_,_,_,a++[w],b,rfl,by rw[<-i];simp,by simp,?_⟩;rw[Q_,<-f];rfl) ws.zipIdx [] (qZ ws ((n+1:Nat):Int) [] cb cb cb) ⟨[],cb,cb,cb,[],ws,rfl,rfl,rfl,rfl⟩
  have N:b=[]:=by
   cases b with
   |nil=>rfl
   |cons w b=>cases g
  subst N;have f:cs=Ih (n+1) ws:=by rw[<-f];simp[Ih]
  subst f;show(aH h _).trans (aW (st0:=[bD (.any,.lst (ws.map .str)),bD (.loc,.int ((n+1:Nat):Int)),cb,cb,cb,cb]) rfl (.inl rfl) rfl (a9 (aK (ae rfl) aj trivial (bw (c:=cK) (by simp;lia))) ay (aB (bE ah trivial aC (js _)) bb (cH (rs:=[(.any,.lst (ws.map .str))]) (aa (ax rfl) ah) trivial o rfl A (bx (aE rfl) (jM rfl))))))
end
section
def F_(h:st[i]?=bD (bD (.loc,.int m)))(b:Run (execs Γ ss) (st.set i (bD (.loc,.int (m+n)))) c st1):Run (execs Γ (.inc i n::ss)) st c st1 :=
 fz (af (dY h (by intro z;cases z)) (af (a:=m) (st1:=st) rfl (af aN a5))) b
def Eu(h:IY 50 (.lst us)=b6):bO .eq (.lst us) (.lst [])=bD us.isEmpty:=by
 simp only[bO];rw[ö ⟨h,by simp[IY,du]⟩];cases us with
 |_=>simp[cC,cO]
theorem uP:∀(cs:List (List Str)) (n:Nat),du (n+1) (cs.map HQ)=b6
 |[],n=>by simp[du]
 |l::cs,n=>by
  have a:=uP cs n;have b:=iq l n;simp only[gs,du,cL];show⟨b,a⟩
def BN{cs:List (List Str)}:bO .eq (.lst (cs.map HQ)) (.lst [])=bD cs.isEmpty:=by
 rw[Eu (by change du 49 (cs.map HQ)=b6;show uP cs 48)];cases cs<;>rfl
abbrev Tv:List S :=
   [.set 3 (.comp 1 cK .seq [.call "choices" [.var 1,.var 2]] [.call "suffice" [.var 1,.var 0]] (.var 0)),
   .inc 2 1]
abbrev Tw:Fn:=⟨"fewest_words",2,4,[.set 2 (.cst (.int 0)),.set 3 (.lst []),.Lu (.cmp .eq (.var 3) (.lst [])) Tv,.ret (.idx (.var 3) (.cst (.int 0)))]⟩
abbrev pG(rs:List Row)(ws:List Str)(m:Int)(cs:List (List Str)):aw:=[bD (.loc,.tup (rs.map A')),bD (.any,.lst (ws.map .str)),bD (.loc,.int m),bD (.own,.lst (cs.map HQ))]
abbrev dS(rs:List Row)(l:List Str):Bool:=@df (Suf rs l) (Vq _)
def zl:dS rs l=b6↔Suf rs l:=@decide_eq_true_iff _ (Vq _)
abbrev Kc(rs:List Row)(ws:List Str)(m:Nat):List (List Str):=(Ih m ws).filter (dS rs)
def pH:l∈Kc rs ws m↔l∈Ih m ws/\Suf rs l:=by
 unfold Kc;rw[lg,zl]
structure Tz(Γ:Tab)(rs:List Row)(ws:List Str):Prop where
 len:2 ^ ws.length<=1000
 ch:∀m,m<=ws.length->Γ "choices" [.lst (ws.map .str),.int (m:Nat)]=bD (.ok (.own,.lst ((Ih m ws).map HQ)))
 sf:∀l,l.Sublist ws->∃b,Γ "suffice" [.tup (rs.map A'),HQ l]=bD (.ok (.loc,.bl b))/\(b=b6↔Suf rs l)
 all:Suf rs ws
def BO(H:Tz Γ rs ws)(c:m<=ws.length):Run (execs Γ Tv) (pG rs ws (m:Nat) cs) .nx (pG rs ws ((m:Nat)+1) (Kc rs ws m)):=by
 have hsz:(1000:Nat)<=dV:=by decide
 have f:=kl m ws;have hl:=H.len;have a:=fZ (cond:=aU Γ [.call "suffice" [.var 1,.var 0]]) (elt:=ev Γ (.var 0)) (src:=[(.own,.lst ((Ih m ws).map HQ))]) (st:=pG rs ws (m:Nat) cs) trivial .loc (.inl rfl) HQ HQ (dS rs) .loc (Ih m ws) [] (by simp;lia)
  (λl hl=>by
   have⟨b,d,e⟩:=H.sf l (gD m ws l hl).1;have:b=dS rs l:=JB.mpr (e.trans zl.symm);subst this;show⟨dn (lM (aa (ae rfl) (aa (ae rfl) ah)) trivial d rfl),λ_=>⟨ae rfl,aG⟩⟩)
 rw[i6]at a;have q:Run (ev Γ (.comp 1 cK .seq [.call "choices" [.var 1,.var 2]] [.call "suffice" [.var 1,.var 0]] (.var 0))) (pG rs ws (m:Nat) cs) (.own,.lst ((Kc rs ws m).map HQ)) (pG rs ws (m:Nat) cs) :=
  b8 (rs:=[(.own,.lst ((Ih m ws).map HQ))]) (aa (aP (aa (ax rfl) (aa (ae rfl) ah)) trivial (H.ch m c)) ah) trivial (by change bD (((Ih m ws).map HQ).map λu=>(kE .own,u))=_;rw[i4];rfl) a
 show aB q bb (F_ rfl ay)
theorem uQ(H:Tz Γ rs ws):∀(f m:Nat),m<=ws.length->ws.length - m+1<f->(∀j,j<m->Kc rs ws j=[])->∃d,d<=ws.length/\Kc rs ws d≠[]/\(∀j,j<d->Kc rs ws j=[])/\Run (fJ (HB Γ (.cmp .eq (.var 3) (.lst []))) (execs Γ Tv) (f+1)) (pG rs ws (m:Nat) []) .nx (pG rs ws ((d:Nat)+1) (Kc rs ws d))
 |0,m,_,h,_=>by lia
 |f+1,m,l,h,n=>by
  have k:∀(i:Int) (cs:List (List Str)),Run (HB Γ (.cmp .eq (.var 3) (.lst []))) (pG rs ws i cs) cs.isEmpty (pG rs ws i cs):=λi cs=>aK (aE rfl) (bE ah trivial aC (js _)) ⟨⟨.own,rfl,rfl⟩,trivial⟩ BN;have q:=BO H l (cs:=[]);by_cases g:Kc rs ws m=[]
  .have s:m<ws.length:=by
    rcases Ú m ws.length with h1|h1
    .show h1
    .have:m=ws.length:=by lia
     subst this;have:ws∈Kc rs ws ws.length:=pH.mpr ⟨km ws ws (å _),H.all⟩;rw[g]at this;cases this
   rw[g]at q;have⟨d,a,b,c,r⟩:=uQ H f (m+1) ⋯ ⋯ λj t=>by
    by_cases e:j=m
    .subst e;show g
    .show n j ⋯
   show⟨d,a,b,c,qK (k _ []) q r⟩
  .have p:(Kc rs ws m).isEmpty=cK:=by
    cases h:Kc rs ws m with
    |nil=>show absurd h g
    |cons _ _=>rfl
   have o:=k ((m:Nat)+1) (Kc rs ws m);rw[p]at o;show⟨m,l,g,n,qK (k _ []) q (nL o)⟩
structure Mm(rs:List Row)(ws l:List Str):Prop where
 sub:l.Sublist ws
 Vf:Suf rs l
 min:∀l',l'.Sublist ws->Suf rs l'->l.length<=l'.length
def Hc(H:Tz Γ rs ws):∃l,dJ Γ Tw [.tup (rs.map A'),.lst (ws.map .str)]=bD (.ok (.loc,HQ l))/\Mm rs ws l:=by
 have⟨m,i,b,c,r⟩:=uQ H 999999999999 0 ⋯ (by have:=H.len;have:ws.length<2 ^ ws.length:=Nat.lt_two_pow_self;lia) (λj h=>by lia);cases a:Kc rs ws m with
 |nil=>show absurd a b
 |cons l cs =>
  have hl:=pH.mp (show l∈Kc rs ws m by rw[a];simp);rw[a]at r;show⟨l,aW (st0:=[bD (.loc,.tup (rs.map A')),bD (.any,.lst (ws.map .str)),cb,cb]) rfl (.inr rfl) ?_ (aB aj aN (aB (bE ah trivial aC (js _)) bb (qL r (bx (aQ (aE rfl) aj ⟨⟨.own,rfl,rfl⟩,trivial⟩ (b9 (show Ij ((l::cs).map HQ) ((0:Nat):Int)=_ from dF rfl))) cS)))),(gD m ws l hl.1).1,hl.2,λd e f=>?_⟩
  .change [bD (if HG (.tup (rs.map A'))=b6 then Kd.loc else Kd.any,U.tup (rs.map A')),bD (Kd.any,U.lst (ws.map .str)),cb,cb]=_;rw[bR]
  .rw[(gD m ws l hl.1).2];show ZE λg=>?_;have:=pH.mpr ⟨km ws d e,f⟩;rw[c _ g]at this;cases this
end
section
abbrev Ga:E:=.comp 1 cK .seq [.var 3] [] (.tup [.idx (.var 0) (.cst (.int 0)),.call "paper" [.var 1,.bin .add (.var 2) (.lst [.idx (.var 0) (.cst (.int 0))]),.bin .sub (.var 3) (.cst (.int 1))]])
abbrev Ew:Fn:=⟨"paper",3,4,[.set 3 (.call "knot" [.call "with_pictures" [.var 0,.var 1]]),.ite (.cmp .eq (.var 2) (.cst (.int 0))) [.ret (.tup [.var 3,.tup []])] [],.ret (.tup [.var 3,.bi .tuple [Ga]])]⟩
abbrev Kz(rs P:List Row):Prop:=∃K,KL.Kn rs K/\P=KK.cj (KK.Hk rs K) rs
inductive Lx(rs:List Row):List Str->Nat->U->Prop
 |zero {gv:List Str} {P:List Row}:Kz (wp rs gv) P->Lx rs gv 0 (.tup [.lst (P.map A'),.tup []])
 |succ {gv:List Str} {n:Nat} {P:List Row} (g:Row->U):Kz (wp rs gv) P->(∀p∈P,Lx rs (gv++[p.1]) n (g p))->Lx rs gv (n+1) (.tup [.lst (P.map A'),.tup (P.map λp=>.tup [.str p.1,g p])])
def Kz.word(hk:JU rs a)(h:Kz (wp rs a) P):∀p∈P,p.1∈aI rs:=λp b=>by
 obtain⟨K,_,rfl⟩:=h;have⟨x,c,rfl⟩:=ke.mp b;show(fD hk).mp (bL.mp c).1
def Gb(H:sY Pg)(hk:HL Pg "knot" KK.uM)(h:HL Pg "paper" Ew)(j:Bz ws rs):∀(n:Nat) (f:List Str) (d:Nat),rs.length+f.length+n<=100->f.length+n<=40->JU rs f->∃u,Hm Pg (d+n+8) "paper" [.tup (rs.map A'),.lst (f.map .str),.int (n:Nat)]=bD (.ok (.loc,u))/\Lx rs f n u:=by
 have hsz:(1000:Nat)<=dV:=by decide
 intro n;induction n with
 |zero =>
  intro f d v w hz;have i:=zj j hz ⋯;have⟨K,l,m⟩:=Kn.some i.wl i.ok;have y:=m.len;have A:=j.wl;have q:=Vd H hk d i (u6 pF ⋯) l ⋯;show⟨_,(aH h _).trans (aW (st0:=[bD (.loc,.tup (rs.map A')),bD (.any,.lst (f.map .str)),bD (.loc,.int (0:Nat)),cb]) rfl (.inr rfl) ?_ (aB (aP (aa (aP (aa (ae rfl) (aa (ax rfl) ah)) trivial (Ts H (d+4) j .lst ⋯ hz)) ah) trivial q) bb (jZ (fy (aK (ae rfl) aj trivial (bw rfl)) (bx (dz (aa (aE rfl) (aa (dz ah trivial aC (js _)) ah)) ⟨⟨.own,rfl,rfl⟩,trivial⟩ (av (uG rfl) (av aG aC)) (by change 2<=dV;lia)) cS))))),.zero ⟨K,l,rfl⟩⟩;change [bD (if HG (.tup (rs.map A'))=b6 then Kd.loc else Kd.any,U.tup (rs.map A')),bD (Kd.any,U.lst (f.map .str)),bD (Kd.loc,U.int (0:Nat)),cb]=_;rw[bR]
 |succ n B =>
  intro f d v w hz;have i:=zj j hz ⋯;have⟨K,l,m⟩:=Kn.some i.wl i.ok;have y:=m.len;have A:=j.wl;have q:=Vd H hk (d+n+1) i (u6 pF ⋯) l ⋯;have r:Kz (wp rs f) (KK.cj (KK.Hk (wp rs f) K) (wp rs f)):=⟨K,l,rfl⟩
  have C:(KK.cj (KK.Hk (wp rs f) K) (wp rs f)).length<=24:=by
   unfold KK.cj;rw[dt];show d6 i K
  generalize KK.cj (KK.Hk (wp rs f) K) (wp rs f)=P at q r C;have D:=r.word hz;have G:∀p:Row,∃u,p∈P->Hm Pg (d+n+8) "paper" [.tup (rs.map A'),.lst ((f++[p.1]).map .str),.int (n:Nat)]=bD (.ok (.loc,u))/\Lx rs (f++[p.1]) n u:=λp=>by
   by_cases k:p∈P
   .have⟨u,a,b⟩:=B (f++[p.1]) d (by simp;lia) (by simp;lia) λx hx=>by
     rcases kj.mp hx with hx|hx
     .show hz x hx
     .rw[i0]at hx;subst hx;show D p k
    show⟨u,λ_=>⟨a,b⟩⟩
   .show⟨.Hj,λz=>absurd z k⟩
  have⟨g,s⟩:=Classical.axiomOfChoice G;let S:Option (Kd×U)->aw:=λo=>[bD (.loc,.tup (rs.map A')),bD (.any,.lst (f.map .str)),bD (.loc,.int ((n+1:Nat):Int)),o]
  have hx:=eG (cond:=aU (Hm Pg (d+(n+1)+7)) []) (elt:=ev (Hm Pg (d+(n+1)+7)) (.tup [.idx (.var 0) (.cst (.int 0)),.call "paper" [.var 1,.bin .add (.var 2) (.lst [.idx (.var 0) (.cst (.int 0))]),.bin .sub (.var 3) (.cst (.int 1))]])) (src:=[(.bor 3,.lst (P.map A'))]) (st:=S (bD (.own,.lst (P.map A')))) ⟨⟨.own,rfl,rfl⟩,trivial⟩ .loc (.inl rfl) A' (λp=>.tup [.str p.1,g p]) .loc (λ_=>fW) P [] (by simp;lia)
   (λp k=>by
    have t:∀st',Run (ev (Hm Pg (d+(n+1)+7)) (.idx (.var 0) (.cst (.int 0)))) (bD (.loc,A' p)::st') (.loc,.str p.1) (bD (.loc,A' p)::st'):=λst'=>aQ (ae rfl) aj trivial (show gF (.loc,A' p) (.int 0)=bD (.loc,.str p.1) from rfl);have ad:JI .add (.any,.lst (f.map .str)) (.own,.lst [.str p.1])=bD (.own,.lst ((f++[p.1]).map .str)):=by
     rw[lP (by change(f.map U.str).length+1<=dV;rw[dt];lia) (jw (.inl rfl)) rfl,l0];rfl
    have e:=(s p k).1;have I:Hm Pg (d+(n+1)+7) "paper" [.tup (rs.map A'),.lst ((f++[p.1]).map .str),.int (((n+1:Nat):Int) - 1)]=bD (.ok (.loc,g p)):=by
     rw[show(((n+1:Nat):Int) - 1)=(n:Nat) by lia,show d+(n+1)+7=d+n+8 by lia];show e
    show⟨dz (aa (t _) (aa (aP (aa (ae rfl) (aa (bo (ax rfl) (bE (aa (t _) ah) trivial (av aG aC) (by change 1<=dV;lia)) trivial ad) (aa (bo (ae rfl) aj trivial fb) ah))) trivial I) ah)) trivial (av aG (av aG aC)) (by change 2<=dV;lia),aG⟩)
  rw[i6]at hx;have J:Run (ev (Hm Pg (d+(n+1)+7)) Ga) (S (bD (.own,.lst (P.map A')))) (.own,.lst (P.map λp=>.tup [.str p.1,g p])) (S (bD (.own,.lst (P.map A')))):=b8 (rs:=[(.bor 3,.lst (P.map A'))]) (aa (aE rfl) ah) ⟨⟨.own,rfl,rfl⟩,trivial⟩ (by change bD ((P.map A').map λu=>(kE (.bor 3),u))=_;rw[i4];rfl) hx;show⟨_,(aH h _).trans (aW (st0:=S cb) rfl (.inr rfl) ?_ (aB (aP (aa (aP (aa (ae rfl) (aa (ax rfl) ah)) trivial (Ts H (d+(n+1)+4) j .lst ⋯ hz)) ah) trivial (by rw[show d+(n+1)+7=d+n+1+7 by lia];show q)) bb (a9 (aK (ae rfl) aj trivial (bw (c:=cK) (by simp;lia))) ay (bx (dz (aa (aE rfl) (aa (bW (aa J ah) trivial rfl) ah)) ⟨⟨.own,rfl,rfl⟩,trivial⟩ (av (uG rfl) (av aG aC)) (by change 2<=dV;lia)) cS)))),.succ g r λp k=>(s p k).2⟩;change [bD (if HG (.tup (rs.map A'))=b6 then Kd.loc else Kd.any,U.tup (rs.map A')),bD (Kd.any,U.lst (f.map .str)),bD (Kd.loc,U.int ((n+1:Nat):Int)),cb]=_;rw[bR]
end
end TM
namespace TM
open PySem L2 HH Od KK
section
def BP{ss:List Str}:bO .isin (.str x) (.tup (ss.map U.str))=bD (df (x∈ss)):=@yB x ss
abbrev zm:Fn:=⟨"_law_pairs",1,1,[.ret (.and [.Jc (.var 0) .list,.bi .all [.comp 1 cK .seq [.var 0] [] (.and [.Jc (.var 0) .tuple,.cmp .eq (.bi .len [.var 0]) (.cst (.int 2))])]])]⟩
def q9(f:α->U)(g:∀a,∃x y,f a=.tup [x,y]){l:List α}(hl:l.length<=100):dJ Γ zm [.lst (l.map f)]=bD (.ok (.loc,.bl b6)):=by
 have hsz:(1000:Nat)<=dV:=by decide
 have c:=eG (cond:=aU Γ []) (elt:=ev Γ (.and [.Jc (.var 0) .tuple,.cmp .eq (.bi .len [.var 0]) (.cst (.int 2))])) (src:=[(.any,.lst (l.map f))]) (st:=[bD (.any,.lst (l.map f))]) trivial .any (.inr rfl) f (λ_=>.bl b6) .loc (λ_=>fW) l [] (by simp;lia)
  (λy _=>by
   have⟨a,b,e⟩:=g y;rw[e];show⟨yn (sF (p:=b6) (q:=b6) (Cc (ax rfl) rfl) λ_=>sv (eV (bW (aa (ax rfl) ah) trivial fA) aj trivial (bw rfl))),aG⟩)
 rw[i6,show(l.map λ_=>U.bl b6)=(l.map λ_=>b6).map U.bl by rw[i4];rfl]at c;have h:((l.map λ_=>b6).all id)=b6:=by rw[RP];show mx.mpr λ_ _=>rfl
 have d:=kf (k:=.own) (l.map λ_=>b6);rw[h]at d;show aW rfl (.inr rfl) (st0:=[bD (.any,.lst (l.map f))]) rfl (bx (yn (sF (p:=b6) (q:=b6) (Cc (ax rfl) rfl) λ_=>sv (bW (aa (b8 (rs:=[(.any,.lst (l.map f))]) (aa (ax rfl) ah) trivial ?_ c) ah) trivial d))) cS);change bD ((l.map f).map λu=>(kE .any,u))=_;rw[i4];rfl
abbrev Vg:List S :=
   [.set 5 (.comp 1 cK .seq [.var 0] [.cmp .eq (.idx (.var 0) (.cst (.int 0))) (.var 4)] (.var 0)),
   .ite (.or [.not (.Jc (.var 4) .tuple),.cmp .ne (.bi .len [.var 4]) (.bi .len [.var 5]),.cmp .Ht (.var 3) (.call "_law_all" [.var 0])])
    [.ret (.cst (.bl cK))]
    [],
   .ite (.not (.bi .all [.comp 1 cK .IX [.bi .len [.var 5]] [] (.and [.cmp .isin (.idx (.var 5) (.var 0)) (.idx (.idx (.var 6) (.var 0)) (.cst (.int 1))),.cmp .isin (.idx (.var 5) (.var 0)) (.var 3)])]))
    [.ret (.cst (.bl cK))]
    []]
abbrev zo:Fn:=⟨"_law_is_knot",2,6,[.set 2 (.comp 1 cK .seq [.var 1] [] (.idx (.var 0) (.cst (.int 0)))),.ite (.cmp .ne (.var 2) (.Kw .sset [.var 2])) [.ret (.cst (.bl cK))] [],.Hy b6 [3,4] .seq [.var 1] Vg,.ret (.cst (.bl b6))]⟩
abbrev pI(rs P:List Row)(Z:List Str)(o3 o4 o5:Option (Kd×U)):aw:=[bD (.loc,.tup (rs.map A')),bD (.any,.lst (P.map A')),bD (.own,.lst (Z.map .str)),o3,o4,o5]
def zp(h:∃x∈l,x∈Z):pick Z l∈l/\pick Z l∈Z:=by
 have⟨x,c,d⟩:=h;unfold pick;cases b:l.filter λx=>df (x∈Z) with
 |nil =>
  have:x∈l.filter λx=>df (x∈Z):=lg.mpr ⟨c,ú d⟩;rw[b]at this;cases this
 |cons a t =>
  have:a∈l.filter λx=>df (x∈Z):=by rw[b];show nH
  have⟨e,f⟩:=lg.mp this;show⟨e,û f⟩
def Ey{rs:List Row}(hl:rs.length<=1000)(b:st[i]?=bD (bD (.loc,.tup (rs.map A'))))(c:st[j]?=bD (bD (.any,.str k))):
  Run (ev Γ (.comp 1 cK .seq [.var i] [.cmp .eq (.idx (.var 0) (.cst (.int 0))) (.var (j+1))] (.var 0))) st (.own,.lst ((rs.filter λr=>df (r.1=k)).map A')) st:=by
 have hsz:(1000:Nat)<=dV:=by decide
 have a:=fZ (cond:=aU Γ [.cmp .eq (.idx (.var 0) (.cst (.int 0))) (.var (j+1))]) (elt:=ev Γ (.var 0)) (src:=[(.loc,.tup (rs.map A'))]) (st:=st) trivial .loc (.inl rfl) A' A' (λr=>df (r.1=k)) .loc rs [] (by simp;lia)
  (λy _=>⟨dn (aK (x:=(.loc,.str y.1)) (aQ (ae rfl) aj trivial (cm rfl)) (ax (by simpa using c)) trivial pj),λ_=>⟨ae rfl,aG⟩⟩)
 rw[i6]at a;show b8 (rs:=[(.loc,.tup (rs.map A'))]) (aa (ae b) ah) trivial iY a
def zq(f:Bz ws rs)(B:Γ "_law_all" [.tup (rs.map A')]=bD (.ok (.own,.lst ((aI rs).map .str))))(m:Z.Sublist (aI rs))(C:∀r∈rs,r.1∈Z->∃x∈r.2,x∈Z):dJ Γ zo [.tup (rs.map A'),.lst ((cj Z rs).map A')]=bD (.ok (.loc,.bl b6)):=by
 have hsz:(1000:Nat)<=dV:=by decide
 have Vh:=f.rl;have X5:Z.length<=24:=by have:=m.length_le;have:=d0 λr g=>(f.ok r g).ok;have:=f.wl;lia
 have D:Z.Nodup:=m.nodup (qE _);have G:aL (aD Z)=Z:=eN ((bN _).trans ((DD (bp _) D).mpr λx=>by rw[bh])) (cn _) ((cn _).sublist m);have Kk:(aD Z).length<=Z.length:=dA (bp _) λx n=>by simpa[bh] using n
 have KH:(cj Z rs).length=Z.length:=by unfold cj;rw[dt]
 have n:=eG (cond:=aU Γ []) (elt:=ev Γ (.idx (.var 0) (.cst (.int 0)))) (src:=[(.any,.lst ((cj Z rs).map A'))]) (st:=[bD (.loc,.tup (rs.map A')),bD (.any,.lst ((cj Z rs).map A')),cb,cb,cb,cb]) trivial .any (.inr rfl) A' (λr=>.str r.1) .any (λ_=>fW) (cj Z rs) [] (by simp;lia)
  (λy _=>⟨aQ (ax rfl) aj trivial (cm rfl),iQ rfl⟩)
 rw[i6,show((cj Z rs).map λr=>U.str r.1)=Z.map U.str by unfold cj;rw[i4];rfl]at n;have s:((cj Z rs).map A').map (λu=>(kE .any,u))=(cj Z rs).map λr=>(Kd.any,A' r):=by rw[i4];rfl
 obtain⟨st',H,o3,o4,o5,rfl,_⟩:=bQ (rs:=[(.any,.lst ((cj Z rs).map A'))]) (t:=b6) (is:=[3,4]) (body:=execs Γ Vg) (λr:Row=>(Kd.any,A' r)) (λd q st=>∃o3 o4 o5,st=pI rs (cj Z rs) Z o3 o4 o5/\∀r∈q,r∈cj Z rs)
  (λ_ _ _ _=>trivial) (λd y q st I=>by
   have⟨o3,o4,o5,e,v⟩:=I;subst e;have⟨k,hk,rfl⟩:=ke.mp (v y (by simp));have l:(Jn Z rs k).length=(rs.filter λr=>df (r.1=k)).length:=by unfold Jn;rw[dt]
   have J:=nC (λr:Row=>df (r.1=k)) rs;have w:∀r∈rs.filter λr=>df (r.1=k),pick Z r.2∈r.2/\pick Z r.2∈Z:=λr g=>by
    have⟨a,b⟩:=lg.mp g;show zp (C r a (û b▸hk))
   have L:Jn Z rs k=(rs.filter λr=>df (r.1=k)).map λr=>pick Z r.2:=rfl;have N:Run (HB Γ (.bi .all [.comp 1 cK .IX [.bi .len [.var 5]] [] (.and [.cmp .isin (.idx (.var 5) (.var 0)) (.idx (.idx (.var 6) (.var 0)) (.cst (.int 1))),.cmp .isin (.idx (.var 5) (.var 0)) (.var 3)])])) (pI rs (cj Z rs) Z (bD (.any,.str k)) (bD (.any,.tup ((Jn Z rs k).map .str))) (bD (.own,.lst ((rs.filter λr=>df (r.1=k)).map A')))) b6 (pI rs (cj Z rs) Z (bD (.any,.str k)) (bD (.any,.tup ((Jn Z rs k).map .str))) (bD (.own,.lst ((rs.filter λr=>df (r.1=k)).map A')))):=by
    rw[L];generalize (rs.filter λr=>df (r.1=k))=F at w J;have z:=eG (cond:=aU Γ []) (elt:=ev Γ (.and [.cmp .isin (.idx (.var 5) (.var 0)) (.idx (.idx (.var 6) (.var 0)) (.cst (.int 1))),.cmp .isin (.idx (.var 5) (.var 0)) (.var 3)])) (src:=[(.loc,.int ((F.map A').length:Nat))]) (st:=pI rs (cj Z rs) Z (bD (.any,.str k)) (bD (.any,.tup ((F.map λr=>pick Z r.2).map .str))) (bD (.own,.lst (F.map A')))) trivial .loc (.inl rfl) (λi:Nat=>U.int (0+(i:Int))) (λ_=>.bl b6) .loc (λ_=>fW) (ix (F.map A').length) [] (by simp;lia)
     (λi O=>by
      have o:i<F.length:=by simpa using vu.mp O
      have⟨m1,m2⟩:=w F[i] (KX o);rw[show(0:Int)+(i:Int)=(i:Nat) by lia];have A:Ij ((F.map λr=>pick Z r.2).map U.str) (i:Nat)=bD (.str (pick Z F[i].2)):=dF (by simp[o]);have Q:Ij (F.map A') (i:Nat)=bD (A' F[i]):=dF (by simp[o]);show⟨yn (sF (p:=b6) (q:=b6) (eV (aQ (ax rfl) (ae rfl) trivial (cm A)) (aQ (x:=(.loc,A' F[i])) (aQ (aE rfl) (ae rfl) ∅ (b9 (k:=.bor 6) Q)) aj trivial (cm rfl)) trivial (BP.trans (by rw[ú m1]))) λ_=>sv (eV (aQ (ax rfl) (ae rfl) trivial (cm A)) (aE rfl) ∅ (yB.trans (by rw[ú m2])))),aG⟩)
    rw[i6,show((ix (F.map A').length).map λ_=>U.bl b6)=((ix (F.map A').length).map λ_=>b6).map U.bl by rw[i4];rfl]at z;have f:=kf (k:=.own) ((ix (F.map A').length).map λ_=>b6);rw[show(((ix (F.map A').length).map λ_=>b6).all id)=b6 by rw[RP];show mx.mpr λ_ _=>rfl]at f;show G6 (aa (b8 (rs:=[(.loc,.int ((F.map A').length:Nat))]) (aa (bW (aa (aE rfl) ah) ∅ bC) ah) trivial (lK (by rw[dt];lia)) z) ah) trivial f rfl
   have T:k∈aI rs:=m.subset hk;have Y:=Ey (Γ:=Γ) (st:=pI rs (cj Z rs) Z (bD (.any,.str k)) (bD (.any,.tup ((Jn Z rs k).map .str))) o5) (rs:=rs) (k:=k) (i:=0) (j:=3) ⋯ rfl rfl;show⟨pI rs (cj Z rs) Z (bD (.any,.str k)) (bD (.any,.tup ((Jn Z rs k).map .str))) o5,_,gS (.inr rfl),aB (st2:=pI rs (cj Z rs) Z (bD (.any,.str k)) (bD (.any,.tup ((Jn Z rs k).map .str))) (bD (.own,.lst ((rs.filter λr=>df (r.1=k)).map A')))) Y bb (a9 (sy (fG (fF (c:=b6) (nK (ax rfl) rfl)) (fG (aK (bW (aa (ax rfl) ah) trivial fA) (bW (aa (aE rfl) ah) ∅ bC) trivial (lW (by rw[dt,dt,l];simp))) (lI (aK (ax rfl) (aP (aa (ae rfl) ah) trivial B) trivial (fY.trans (by rw[ù (not_not_intro T)]))))))) ay (a9 (fF (c:=b6) N) ay ay)),_,_,_,rfl,λr g=>v r (by simp[g])⟩) (cj Z rs) [] (pI rs (cj Z rs) Z cb cb cb) ⟨cb,cb,cb,rfl,λ_ h=>h⟩
 have HV:bO .ne (.lst (Z.map U.str)) (.lst ((aL (aD Z)).map U.str))=bD cK:=by rw[uK,G];simp
 show aW rfl (.inr rfl) (st0:=[bD (.loc,.tup (rs.map A')),bD (.any,.lst ((cj Z rs).map A')),cb,cb,cb,cb]) (ü (λx:Option (Kd×U)=>[x,bD (Kd.any,U.lst ((cj Z rs).map A')),cb,cb,cb,cb]) (bR rs)) (aB (st2:=pI rs (cj Z rs) Z cb cb cb) (b8 (rs:=[(.any,.lst ((cj Z rs).map A'))]) (aa (ax rfl) ah) trivial (by change bD (PM (λu=>(kE .any,u)) _)=_;rw[s]) n) bb (a9 (aK (aE rfl) (uu (aa (aE rfl) ah) ∅ (lO ⋯ ⋯)) ∅ HV) ay (cH (rs:=[(.any,.lst ((cj Z rs).map A'))]) (aa (ax rfl) ah) trivial (by change bD (PM (λu=>(kE .any,u)) _)=_;rw[s]) rfl H (bx aj cS))))
end
end TM
namespace TM
open PySem L2 HH Od
section
abbrev Ge:List S :=
   [.ite (.or [.not (.Jc (.var 6) .tuple),.cmp .ne (.bi .len [.var 6]) (.cst (.int 2)),.cmp .ne (.idx (.var 6) (.cst (.int 0))) (.var 5)])
    [.ret (.cst (.bl cK))]
    [],
   .ite (.not (.call "_law_shows" [.var 0,.bin .add (.var 1) (.lst [.var 5]),.bin .sub (.var 2) (.cst (.int 1)),.idx (.var 6) (.cst (.int 1))]))
    [.ret (.cst (.bl cK))]
    []]
abbrev Gf:Fn:=⟨"_law_shows",4,7,[.ite (.or [.not (.Jc (.var 3) .tuple),.cmp .ne (.bi .len [.var 3]) (.cst (.int 2)),.not (.call "_law_pairs" [.idx (.var 3) (.cst (.int 0))]),.not (.Jc (.idx (.var 3) (.cst (.int 1))) .tuple)]) [.ret (.cst (.bl cK))] [],.set 4 (.comp 1 cK .seq [.idx (.var 3) (.cst (.int 0))] [] (.idx (.var 0) (.cst (.int 0)))),.ite (.or [.cmp .eq (.bi .len [.var 4]) (.cst (.int 0)),.not (.call "_law_is_knot" [.call "_law_pictured" [.var 0,.var 1],.idx (.var 3) (.cst (.int 0))])]) [.ret (.cst (.bl cK))] [],.ite (.cmp .eq (.var 2) (.cst (.int 0))) [.ret (.cmp .eq (.idx (.var 3) (.cst (.int 1))) (.tup []))] [],.ite (.cmp .ne (.bi .len [.idx (.var 3) (.cst (.int 1))]) (.bi .len [.var 4])) [.ret (.cst (.bl cK))] [],.Hy b6 [5,6] .zip [.var 4,.idx (.var 3) (.cst (.int 1))] Ge,.ret (.cst (.bl b6))]⟩
structure TC(Pg:List Fn):Prop where
 p:HL Pg "_law_pictured" Pl
 a:HL Pg "_law_all" y6
 k:HL Pg "_law_is_knot" zo
 q:HL Pg "_law_pairs" zm
 s:HL Pg "_law_shows" Gf
abbrev jy(rs:List Row)(a:List Str)(n:Int)(w:U)(o4 o5 o6:Option (Kd×U)):aw:=[bD (.loc,.tup (rs.map A')),bD (.any,.lst (a.map .str)),bD (.loc,.int n),bD (.any,w),o4,o5,o6]
def uR(e:P≠[])(m:P.length<=24)(f:Γ "_law_pairs" [.lst (P.map A')]=bD (.ok (.loc,.bl b6)))(g:Γ "_law_pictured" [.tup (rs.map A'),.lst (a.map .str)]=bD (.ok (.loc,.tup ((wp rs a).map A'))))(h:Γ "_law_is_knot" [.tup ((wp rs a).map A'),.lst (P.map A')]=bD (.ok (.loc,.bl b6)))
  (i:Run (execs Γ ss) (jy rs a n (.tup [.lst (P.map A'),.tup ks]) (bD (.own,.lst ((P.map (·.1)).map .str))) cb cb) j st'):Run (execs Γ (.ite (.or [.not (.Jc (.var 3) .tuple),.cmp .ne (.bi .len [.var 3]) (.cst (.int 2)),.not (.call "_law_pairs" [.idx (.var 3) (.cst (.int 0))]),.not (.Jc (.idx (.var 3) (.cst (.int 1))) .tuple)]) [.ret (.cst (.bl cK))] []::.set 4 (.comp 1 cK .seq [.idx (.var 3) (.cst (.int 0))] [] (.idx (.var 0) (.cst (.int 0))))::.ite (.or [.cmp .eq (.bi .len [.var 4]) (.cst (.int 0)),.not (.call "_law_is_knot" [.call "_law_pictured" [.var 0,.var 1],.idx (.var 3) (.cst (.int 0))])]) [.ret (.cst (.bl cK))] []::ss)) (jy rs a n (.tup [.lst (P.map A'),.tup ks]) cb cb cb) j st':=by
 have hsz:(1000:Nat)<=dV:=by decide
 have b:∀o4,Run (ev Γ (.idx (.var 3) (.cst (.int 0)))) (jy rs a n (.tup [.lst (P.map A'),.tup ks]) o4 cb cb) (.any,.lst (P.map A')) (jy rs a n (.tup [.lst (P.map A'),.tup ks]) o4 cb cb):=λo4=>aQ (ax rfl) aj trivial (cm rfl);have k:∀o4,Run (ev Γ (.idx (.var 3) (.cst (.int 1)))) (jy rs a n (.tup [.lst (P.map A'),.tup ks]) o4 cb cb) (.any,.tup ks) (jy rs a n (.tup [.lst (P.map A'),.tup ks]) o4 cb cb):=λo4=>aQ (ax rfl) aj trivial (cm rfl);have d:=eG (cond:=aU Γ []) (elt:=ev Γ (.idx (.var 0) (.cst (.int 0)))) (src:=[(.any,.lst (P.map A'))]) (st:=jy rs a n (.tup [.lst (P.map A'),.tup ks]) cb cb cb) trivial .any (.inr rfl) A' (λr=>.str r.1) .any (λ_=>fW) P [] (by simp;lia)
  (λy _=>⟨aQ (ax rfl) aj trivial (cm rfl),iQ rfl⟩)
 rw[i6,show(P.map λr=>U.str r.1)=(P.map (·.1)).map U.str by rw[i4];rfl]at d;have l:((((P.map (·.1)).map U.str).length:Nat):Int)≠0:=by
  cases P with
  |nil=>show absurd rfl e
  |cons p P=>simp;lia
 show a9 (sy (fG (fF (c:=b6) (nK (ax rfl) rfl)) (fG (aK (bW (aa (ax rfl) ah) trivial fA) aj trivial (lW rfl)) (fG (fF (c:=b6) (lM (aa (b _) ah) trivial f rfl)) (lI (fF (c:=b6) (nK (k _) rfl))))))) ay (aB (b8 (rs:=[(.any,.lst (P.map A'))]) (aa (b _) ah) trivial (by change bD ((P.map A').map λu=>(kE .any,u))=_;rw[i4];rfl) d) bb (a9 (sy (fG (aK (bW (aa (aE rfl) ah) (by show⟨⟨.own,rfl,rfl⟩,trivial⟩) bC) aj trivial (bw (c:=cK) (beq_eq_false_iff_ne.mpr l))) (lI (fF (c:=b6) (lM (aa (aP (aa (ae rfl) (aa (ax rfl) ah)) trivial g) (aa (b _) ah)) trivial h rfl))))) ay i))
def Kz.Gg(H:TC Pg)(d:Nat)(b:Bz ws (wp rs c))(h:Kz (wp rs c) P):Hm Pg (d+2) "_law_is_knot" [.tup ((wp rs c).map A'),.lst (P.map A')]=bD (.ok (.loc,.bl b6)):=by
 have⟨K,e,rfl⟩:=h;show(aH H.k _).trans (zq b (BI H.a b.wl b.ok) Hs (Kn.Cr e))
def Kz.ne(hz:JU rs a)(b:¬Suf rs a)(h:Kz (wp rs a) P):P≠[]:=by
 have⟨K,c,rfl⟩:=h;intro e;show b λx d=>K1 λhl=>?_;have:x∈KK.Hk (wp rs a) K:=bL.mpr ⟨(fD hz).mpr d,λz=>hl ((Kn.mem c).mp z)⟩;have f:KK.Hk (wp rs a) K=[]:=List.map_eq_nil_iff.mp e;rw[f]at this;cases this
def Kz.in(c:KL.Kn rs K)(hz:JU rs d)(h:Kz (wp rs d) P):∀p∈P,p.1∈KK.Hk rs K:=λp e=>by
 have⟨k,f,rfl⟩:=h;have⟨x,g,rfl⟩:=ke.mp e;have⟨a,b⟩:=bL.mp g;show bL.mpr ⟨(fD hz).mp a,λz=>b ((Kn.mem f).mpr λC i=>?_)⟩;show(Kn.mem c).mp z C λr j=>i r (D' _ j)
def Kz.len(a:Bz ws (wp rs b))(h:Kz (wp rs b) P):P.length<=24:=by
 have⟨K,c,rfl⟩:=h;unfold KK.cj;rw[dt];show d6 a K
def Gh(H:TC Pg)(k:Bz ws rs)(A:KL.Kn rs K)(l:∀b:List Str,(∀x∈b,x∈KK.Hk rs K)->b.length<=m->¬Suf rs b)(Q:rs.length+m<=100)(T:m<=40):
  ∀(n:Nat) (b:List Str) (u:U) (d:Nat),Lx rs b n u->(∀x∈b,x∈KK.Hk rs K)->b.length+n<=m->Hm Pg (d+n+3) "_law_shows" [.tup (rs.map A'),.lst (b.map .str),.int (n:Nat),u]=bD (.ok (.loc,.bl b6)):=by
 have hsz:(1000:Nat)<=dV:=by decide
 have o:∀(b:List Str) (n:Int) (P:List Row) (ks:List U),start [.tup (rs.map A'),.lst (b.map .str),.int n,.tup [.lst (P.map A'),.tup ks]] 7=jy rs b n (.tup [.lst (P.map A'),.tup ks]) cb cb cb:=λb n P ks=>by
  change [bD (if HG (.tup (rs.map A'))=b6 then Kd.loc else Kd.any,U.tup (rs.map A')),bD (Kd.any,U.lst (b.map .str)),bD (Kd.loc,U.int n),bD (Kd.any,U.tup [.lst (P.map A'),.tup ks]),cb,cb,cb]=_;rw[bR];rfl
 intro n;induction n with
 |zero =>
  intro b u d h f hl;cases h with
  |@zero _ P hk =>
   have hz:JU rs b:=λx hx=>(bL.mp (f x hx)).1;have i:=zj k hz ⋯;show(aH H.s _).trans (aW rfl (.inr rfl) (o _ _ _ _) (uR (hk.ne hz (l b f ⋯)) (hk.len i) ((aH H.q _).trans (q9 A' (λa=>⟨_,_,rfl⟩) (by have:=hk.len i;lia))) (BM H.p ⋯ ⋯) (hk.Gg H (d+0) i) (jZ (fy (aK (ae rfl) aj trivial (bw rfl)) (bx (eV (aQ (ax rfl) aj trivial (cm rfl)) (dz ah trivial aC (js _)) trivial (pv (ss:=[]))) cS)))))
 |succ n B =>
  intro b u d h f hl;cases h with
  |@succ _ _ P g hk C =>
   have hz:JU rs b:=λx hx=>(bL.mp (f x hx)).1;have i:=zj k hz ⋯;have D:=hk.len i;have G:=hk.in A hz;let w:U:=.tup [.lst (P.map A'),.tup (P.map λp=>.tup [.str p.1,g p])];let names:=(P.map (·.1)).map U.str;have v:∀o4 o5 o6,Run (ev (Hm Pg (d+(n+1)+2)) (.idx (.var 3) (.cst (.int 1)))) (jy rs b ((n+1:Nat):Int) w o4 o5 o6) (.any,.tup (P.map λp=>.tup [.str p.1,g p])) (jy rs b ((n+1:Nat):Int) w o4 o5 o6):=λo4 o5 o6=>aQ (ax rfl) aj trivial (cm rfl);have j:Jk .zip [(.bor 4,.lst names),(.any,.tup (P.map λp=>.tup [.str p.1,g p]))]=bD (P.map λp=>(Kd.any,U.tup [.str p.1,.tup [.str p.1,g p]])):=by
    change bD ((((P.map (·.1)).map U.str).zip (P.map λp=>U.tup [.str p.1,g p])).map λq=>(Kd.any,U.tup [q.1,q.2]))=_;rw[i4,Z1,i4];rfl
   obtain⟨st',I,o5,o6,rfl,_⟩:=bQ (rs:=[(.bor 4,.lst names),(.any,.tup (P.map λp=>.tup [.str p.1,g p]))]) (t:=b6) (is:=[5,6]) (body:=execs (Hm Pg (d+(n+1)+2)) Ge) (λp:Row=>(Kd.any,U.tup [.str p.1,.tup [.str p.1,g p]])) (λ_ q st=>∃o5 o6,st=jy rs b ((n+1:Nat):Int) w (bD (.own,.lst names)) o5 o6/\∀p∈q,p∈P)
    (λ_ _ st ⟨o5,o6,e,_⟩=>by subst e;show⟨⟨.own,rfl,rfl⟩,trivial⟩) (λa p q st J=>by
     have⟨o5,o6,e,y⟩:=J;subst e;have z:=y p (by simp);have L:=B (b++[p.1]) (g p) d (C p z) (λx hx=>by
      rcases kj.mp hx with hx|hx
      .show f x hx
      .rw[i0]at hx;subst hx;show G p z) (by simp;lia)
     have N:Hm Pg (d+(n+1)+2) "_law_shows" [.tup (rs.map A'),.lst ((b++[p.1]).map .str),.int (((n+1:Nat):Int) - 1),g p]=bD (.ok (.loc,.bl b6)):=by
      rw[show(((n+1:Nat):Int) - 1)=(n:Nat) by lia,show d+(n+1)+2=d+n+3 by lia];show L
     have ad:JI .add (.any,.lst (b.map .str)) (.own,.lst [.str p.1])=bD (.own,.lst ((b++[p.1]).map .str)):=by
      rw[lP (by change(b.map U.str).length+1<=dV;rw[dt];lia) (jw (.inl rfl)) rfl,l0];rfl
     let S:=jy rs b ((n+1:Nat):Int) w (bD (.own,.lst names)) (bD (.any,.str p.1)) (bD (.any,.tup [.str p.1,g p]));show⟨S,S,gS (.inr rfl),a9 (sy (fG (fF (c:=b6) (nK (ax rfl) rfl)) (fG (aK (bW (aa (ax rfl) ah) trivial fA) aj trivial (lW rfl)) (lI (aK (x:=(.any,.str p.1)) (aQ (ax rfl) aj trivial (cm rfl)) (ax rfl) trivial (Em.trans (by simp))))))) ay (a9 (fF (c:=b6) (lM (aa (ae rfl) (aa (bo (ax rfl) (bE (us:=[.str p.1]) (aa (ax rfl) ah) trivial (av (iQ rfl) aC) (by change 1<=dV;lia)) trivial ad) (aa (bo (ae rfl) aj trivial fb) (aa (aQ (ax rfl) aj trivial (cm rfl)) ah)))) trivial N rfl)) ay ay),_,_,rfl,λr O=>y r (by simp[O])⟩) P [] (jy rs b ((n+1:Nat):Int) w (bD (.own,.lst names)) cb cb) ⟨cb,cb,rfl,λ_ h=>h⟩
   show(aH H.s _).trans (aW rfl (.inr rfl) (o _ _ _ _) (uR (hk.ne hz (l b f ⋯)) D ((aH H.q _).trans (q9 A' (λa=>⟨_,_,rfl⟩) ⋯)) (BM H.p ⋯ ⋯) (hk.Gg H (d+(n+1)) i) (a9 (aK (ae rfl) aj trivial (bw (c:=cK) (by simp;lia))) ay (a9 (aK (bW (aa (v _ _ _) ah) trivial fA) (bW (aa (aE rfl) ah) (by show⟨⟨.own,rfl,rfl⟩,trivial⟩) bC) trivial (lW (by simp))) ay (cH (rs:=[(.bor 4,.lst names),(.any,.tup (P.map λp=>.tup [.str p.1,g p]))]) (aa (aE rfl) (aa (v _ _ _) ah)) (by show⟨⟨.own,rfl,rfl⟩,trivial⟩) j rfl I (bx aj cS))))))
end
section
abbrev Gi:Fn:=⟨"fewest",1,3,[.set 1 (.call "not_learnt" [.var 0]),.ite (.cmp .gt (.bi .len [.var 1]) (.MN "MOST_NOT_LEARNT" (.int 5))) [.bad] [],.set 2 (.call "fewest_words" [.var 0,.var 1]),.ite (.cmp .eq (.var 2) (.lst [])) [.ret (.tup [.var 2,.cst .Hj])] [],.ret (.tup [.var 2,.call "paper" [.var 0,.lst [],.bin .sub (.bi .len [.var 2]) (.cst (.int 1))]])]⟩
structure Vi(Pg:List Fn):Prop where
 P:sY Pg
 k:HL Pg "knot" KK.uM
 c:HL Pg "choices" Tu
 f:HL Pg "fewest_words" Tw
 p:HL Pg "paper" Ew
 t:HL Pg "fewest" Gi
inductive QB(rs:List Row)(ws:List Str):U->Prop
 |nil:Mm rs ws []->QB rs ws (.tup [.lst [],.Hj])
 |cons {x:Str} {l:List Str} {v:U}:Mm rs ws (x::l)->Lx rs [] l.length v->QB rs ws (.tup [HQ (x::l),v])
def Gj(H:Vi Pg)(d:Nat)(e:Bz ws rs)(J:rs.length<=90)(i:KL.Kn rs K)(y:K.length<=24)(h:(KK.Hk rs K).length<=5):
  ∃u,Hm Pg (d+13) "fewest" [.tup (rs.map A')]=bD (.ok (.loc,u))/\QB rs (KK.Hk rs K) u:=by
 have hsz:(1000:Nat)<=dV:=by decide
 have j:start [.tup (rs.map A')] 3=[bD (.loc,.tup (rs.map A')),cb,cb]:=ü (λx:Option (Kd×U)=>[x,cb,cb]) (bR rs);have n:Hm Pg (d+12) "not_learnt" [.tup (rs.map A')]=bD (.ok (.own,.lst ((KK.Hk rs K).map .str))):=Tt H.P (d+6) e i y;have z:∀o:Option (Kd×U),Run (HB (Hm Pg (d+12)) (.cmp .gt (.bi .len [.var 1]) (.MN "MOST_NOT_LEARNT" (.int 5)))) [bD (.loc,.tup (rs.map A')),bD (.own,.lst ((KK.Hk rs K).map .str)),o] (df (5<(KK.Hk rs K).length)) [bD (.loc,.tup (rs.map A')),bD (.own,.lst ((KK.Hk rs K).map .str)),o]:=λo=>aK (bW (aa (aE rfl) ah) ⟨⟨.own,rfl,rfl⟩,trivial⟩ bC) FL trivial (gR (by rw[dt];simp;lia));have A:JU rs (KK.Hk rs K):=λx a=>(bL.mp a).1;have g:=z cb;rw[ù ⋯]at g;have q:2 ^ (KK.Hk rs K).length<=1000:=u6 (YD ⋯ h) (by decide);have⟨l,B,hl⟩:=Hc (Γ:=Hm Pg (d+11)) (rs:=rs) (ws:=KK.Hk rs K) ⟨q,λm L=>by
   have:=Cs H.c m (KK.Hk rs K) (d+10 - m) ⋯ q;rw[show d+10 - m+m+1=d+11 by lia]at this;show this,λl hl=>Hb H.P (d+4) e .lst (by have:=hl.length_le;lia) (by have:=hl.length_le;lia) λx a=>A x (hl.subset a),Suf.Hk i⟩
 have C:Hm Pg (d+12) "fewest_words" [.tup (rs.map A'),.lst ((KK.Hk rs K).map .str)]=bD (.ok (.loc,HQ l)):=(aH H.f _).trans B;have D:=hl.sub.length_le;have r:Run (ev (Hm Pg (d+12)) (.call "fewest_words" [.var 0,.var 1])) [bD (.loc,.tup (rs.map A')),bD (.own,.lst ((KK.Hk rs K).map .str)),cb] (.loc,HQ l) [bD (.loc,.tup (rs.map A')),bD (.own,.lst ((KK.Hk rs K).map .str)),cb]:=aP (aa (ae rfl) (aa (aE rfl) ah)) (by show⟨⟨.own,rfl,rfl⟩,trivial⟩) C;have s:Run (HB (Hm Pg (d+12)) (.cmp .eq (.var 2) (.lst []))) [bD (.loc,.tup (rs.map A')),bD (.own,.lst ((KK.Hk rs K).map .str)),bD (.loc,HQ l)] (df (l=[])) [bD (.loc,.tup (rs.map A')),bD (.own,.lst ((KK.Hk rs K).map .str)),bD (.loc,HQ l)]:=aK (ae rfl) (bE ah trivial aC (js _)) trivial (f9 (b:=[]));cases l with
 |nil=>show⟨_,(aH H.t _).trans (aW rfl (.inr rfl) j (aB (aP (aa (ae rfl) ah) trivial n) bb (a9 g ay (aB r aN (jZ (fy s (bx (dz (aa (ae rfl) (aa aj ah)) trivial (av aG (av aG aC)) (by change 2<=dV;lia)) cS))))))),.nil hl⟩
 |cons x l =>
  rw[k7]at D;have⟨v,w,G⟩:=Gb H.P H.k H.p e l.length [] (d+4 - l.length) (by simp;lia) (by simp;lia) (λx a=>by cases a);rw[show d+4 - l.length+l.length+8=d+12 by lia]at w;have I:Hm Pg (d+12) "paper" [.tup (rs.map A'),.lst [],.int ((((x::l).map U.str).length:Nat) - 1)]=bD (.ok (.loc,v)):=by
   rw[show((((x::l).map U.str).length:Nat):Int) - 1=(l.length:Nat) by simp];show w
  show⟨_,(aH H.t _).trans (aW rfl (.inr rfl) j (aB (aP (aa (ae rfl) ah) trivial n) bb (a9 g ay (aB r aN (a9 s ay (bx (dz (aa (ae rfl) (aa (aP (aa (ae rfl) (aa (bE ah trivial aC (js _)) (aa (bo (bW (aa (ae rfl) ah) trivial bC) aj trivial fb) ah))) trivial I) ah)) trivial (av aG (av aG aC)) (by change 2<=dV;lia)) cS)))))),.cons hl G⟩
end
section
def Ez(h:x∈L):Ln (wp rs L) x:=λC d=>by
 by_cases e:x∈heads rs
 .have⟨r,f,rfl⟩:=ke.mp e;have⟨a,b⟩:=lg.mp f;show d r (D' _ a) λy c=>by rw[û b]at c;cases c
 .show d (x,[]) (mh _ (ke.mpr ⟨x,lg.mpr ⟨h,ú e⟩,rfl⟩)) λy c=>by cases c
def Gk(h:Ln rs x):Ln (wp rs L) x:=λC a=>h C λr b=>a r (D' _ b)
def v_(z:JU rs L):aI (wp rs L)=aI rs:=by
 have a:aL (aI (wp rs L))=aI rs:=gb ((DD (cY _) (cY _)).mpr λx=>fD z) (cn _);have b:aL (aI (wp rs L))=aI (wp rs L):=gb (LC _) (cn _);show b.symm.trans a
structure Li(ws:List Str)(rs:List Row)(K:List Str):Prop where
 wl:ws.length<=24
 ok:∀r∈rs,cZ ws r
 rl:rs.length+(KK.Hk rs K).length<=84
 kn:KL.Kn rs K
 ks:iu ws K
def Li.z(h:Li ws rs K):Bz ws rs:=⟨h.wl,by have:=h.rl;lia,h.ok⟩
def Li.next(h:Li ws rs K)(d:x∈KK.Hk rs K)(k1:KL.Kn (wp rs [x]) a)(k2:iu ws a):Li ws (wp rs [x]) a/\((KK.Hk rs K).filter λy=>!df (y∈a))=KK.Hk (wp rs [x]) a/\(KK.Hk (wp rs [x]) a).length<(KK.Hk rs K).length:=by
 have hz:JU rs [x]:=λy b=>by rw[i0]at b;subst b;show(bL.mp d).1
 have e:((KK.Hk rs K).filter λy=>!df (y∈a))=KK.Hk (wp rs [x]) a:=by
  unfold KK.Hk;rw[v_ hz,YZ];show Q9 λy _=>?_;by_cases c:y∈a
  .simp[c]
  .have:y∉K:=λz=>c ((Kn.mem k1).mpr (Gk ((Kn.mem h.kn).mp z)));simp[c,this]
 have hl:(KK.Hk (wp rs [x]) a).length<(KK.Hk rs K).length:=by
  rw[<-e,List.length_filter_lt_length_iff_exists];show⟨x,d,by simpa using(Kn.mem k1).mpr (Ez (by simp))⟩
 have f:=pF (rs:=rs) (L:=[x]);have g:=h.rl;rw[JY]at f;show⟨⟨h.wl,uN h.ok (λ_ h=>h) λy b=>h.z.in (hz y b),⋯,k1,k2⟩,e,hl⟩
abbrev zr:List S :=
   [.set 1 (.call "_law_pictured" [.var 1,.lst [.idx (.var 4) (.Hg "_law_draw" [.var 0,.bi .len [.var 4]] [0])]]),
   .set 3 (.call "_law_learnt" [.var 1]),
   .set 4 (.comp 1 cK .seq [(.var 4)] [(.cmp .Ht (.var 0) (.var 4))] (.var 0))]
abbrev Hd:List S :=
   [.set 3 (.call "_law_learnt" [.var 1]),
    .set 4 (.comp 1 cK .seq [.call "_law_all" [.var 1]] [.cmp .Ht (.var 0) (.var 4)] (.var 0)),
    .Lu (.cmp .gt (.bi .len [.var 4]) (.var 2)) zr,
    .ret (.tup [(.var 1),(.var 4)])]
abbrev EA:Fn:=⟨"_law_cut",3,5,.KO [0]::Hd⟩
abbrev gJ(u:U)(rs:List Row)(most:Int)(K:List Str)(o4:Option (Kd×U)):aw:=[bD (.io,u),bD (.loc,.tup (rs.map A')),bD (.loc,.int most),bD (.own,mF K),o4]
def uS{Z K:List Str}(hl:Z.length<=1000)(hs:Run (ev Γ src) (gJ u rs most K o4) (k,.lst (Z.map .str)) (gJ u rs most K o4))(a:bc [(k,.lst (Z.map .str))] (gJ u rs most K o4))(c:Jk .seq [(k,.lst (Z.map .str))]=bD (Z.map λx=>(Kd.loc,U.str x))):
  Run (ev Γ (.comp 1 cK .seq [src] [.cmp .Ht (.var 0) (.var 4)] (.var 0))) (gJ u rs most K o4) (.own,.lst ((Z.filter λy=>!df (y∈K)).map .str)) (gJ u rs most K o4):=by
 have hsz:(1000:Nat)<=dV:=by decide
 have b:=fZ (cond:=aU Γ [.cmp .Ht (.var 0) (.var 4)]) (elt:=ev Γ (.var 0)) (src:=[(k,.lst (Z.map .str))]) (st:=gJ u rs most K o4) a .loc (.inl rfl) U.str U.str (λy=>!df (y∈K)) .loc Z [] (by simp;lia)
  (λx _=>⟨dn (aK (ae rfl) (aE rfl) ⟨⟨.own,rfl,rfl⟩,trivial⟩ eW),λ_=>⟨ae rfl,aG⟩⟩)
 rw[i6]at b;show b8 (rs:=[(k,.lst (Z.map .str))]) (aa hs ah) a c b
structure TF(Γ:Tab):Prop where
 d:bV Γ
 l:G9 Γ
 a:∀ws rs,Bz ws rs->Γ "_law_all" [.tup (rs.map A')]=bD (.ok (.own,.lst ((aI rs).map .str)))
 p:∀(rs:List Row) (L:List Str),rs.length<=120->L.length<=40->Γ "_law_pictured" [.tup (rs.map A'),.lst (L.map .str)]=bD (.ok (.loc,.tup ((wp rs L).map A')))
def zt(G:TF Γ)(h:Li ws rs K)(s:Src T u)(H:T+2<2 ^ 62)(I:0<(KK.Hk rs K).length):
  ∃b a u',Run (execs Γ zr) (gJ u rs most K (bD (.own,.lst ((KK.Hk rs K).map .str)))) .nx (gJ u' b most a (bD (.own,.lst ((KK.Hk b a).map .str))))/\Li ws b a/\(KK.Hk b a).length<(KK.Hk rs K).length/\Src (T+1) u':=by
 have hsz:(1000:Nat)<=dV:=by decide
 have J:=d6 h.z K;have⟨n,f,t,w,A,s1⟩:=eC (Γ:=Γ) (st:=gJ u rs most K (bD (.own,.lst ((KK.Hk rs K).map .str)))) G.d (i:=0) (k:=.io) (e:=.bi .len [.var 4]) (m:=(((KK.Hk rs K).map U.str).length:Nat)) rfl rfl (bW (aa (aE rfl) ah) (by show⟨⟨.own,rfl,rfl⟩,trivial⟩) bC) s ⋯ (by simp;lia) (by simp;lia);rw[dt]at A;have o:n.toNat<(KK.Hk rs K).length:=by lia
 have q:Ij ((KK.Hk rs K).map U.str) n=bD (.str (KK.Hk rs K)[n.toNat]):=by
  have:=dF (xs:=(KK.Hk rs K).map U.str) (j:=n.toNat) (v:=.str (KK.Hk rs K)[n.toNat]) (by simp[o]);rw[Int.toNat_of_nonneg w]at this;show this
 have g:(KK.Hk rs K)[n.toNat]∈KK.Hk rs K:=KX o;generalize (KK.Hk rs K)[n.toNat]=x at q g;have L:=h.rl;have B:Run (ev Γ (.call "_law_pictured" [.var 1,.lst [.idx (.var 4) (.Hg "_law_draw" [.var 0,.bi .len [.var 4]] [0])]])) (gJ u rs most K (bD (.own,.lst ((KK.Hk rs K).map .str)))) (.loc,.tup ((wp rs [x]).map A')) (gJ f rs most K (bD (.own,.lst ((KK.Hk rs K).map .str)))) :=
  aP (aa (ae rfl) (aa (bE (us:=[.str x]) (aa (aQ (aE rfl) t (by show⟨⟨.own,rfl,rfl⟩,trivial⟩) (b9 q)) ah) trivial (av aG aC) (by change 1<=dV;lia)) ah)) trivial (G.p rs [x] ⋯ (by simp))
 have hz:JU rs [x]:=λy c=>by rw[i0]at c;subst c;show(bL.mp g).1
 have⟨a,e,k1,k2⟩:=G.l ws (wp rs [x]) .loc _ .tup h.wl (uN h.ok (λ_ h=>h) λy c=>h.z.in (hz y c));have⟨c1,C,D⟩:=h.next g k2 k1;have r:=uS (Γ:=Γ) (src:=.var 4) (k:=.bor 4) (Z:=KK.Hk rs K) (K:=a) (u:=f) (rs:=wp rs [x]) (most:=most) (o4:=bD (.own,.lst ((KK.Hk rs K).map .str))) ⋯ (aE rfl) ⟨⟨.own,rfl,rfl⟩,trivial⟩ (by change bD (((KK.Hk rs K).map U.str).map λu=>(kE (.bor 4),u))=_;rw[i4];rfl);rw[C]at r;show⟨wp rs [x],a,f,aB B aN (aB (aP (aa (ae rfl) ah) trivial e) bb (aB r bb ay)),c1,D,s1⟩
theorem q_(G:TF Γ)(g:0<=most):∀(f:Nat) (rs:List Row) (K:List Str) (u:U) (T:Int),Li ws rs K->Src T u->T+(KK.Hk rs K).length+10<2 ^ 62->(KK.Hk rs K).length<f->∃a b u',Run (fJ (HB Γ (.cmp .gt (.bi .len [.var 4]) (.var 2))) (execs Γ zr) (f+1)) (gJ u rs most K (bD (.own,.lst ((KK.Hk rs K).map .str)))) .nx (gJ u' a most b (bD (.own,.lst ((KK.Hk a b).map .str))))/\Li ws a b/\Src (T+(KK.Hk rs K).length) u'/\((KK.Hk a b).length:Int)<=most
 |0,_,_,_,_,_,_,_,h=>by lia
 |f+1,rs,K,u,T,h,d,r,s=>by
  have c:Run (HB Γ (.cmp .gt (.bi .len [.var 4]) (.var 2))) (gJ u rs most K (bD (.own,.lst ((KK.Hk rs K).map .str)))) (df (most<((KK.Hk rs K).length:Nat))) (gJ u rs most K (bD (.own,.lst ((KK.Hk rs K).map .str)))):=aK (bW (aa (aE rfl) ah) (by show⟨⟨.own,rfl,rfl⟩,trivial⟩) bC) (ae rfl) trivial (gR (by rw[dt]));have t:=d6 h.z K;by_cases e:most<((KK.Hk rs K).length:Nat)
  .rw[ú e]at c;have⟨i,j,k,l,c1,v,s1⟩:=zt G (most:=most) h d ⋯ ⋯;have⟨m,n,o,p,q,s2,m2⟩:=q_ G g f i j k (T+1) c1 s1 ⋯ ⋯;show⟨m,n,o,qK c l p,q,s2.up ⋯,m2⟩
  .rw[ù e]at c;show⟨rs,K,u,nL c,h,d.up ⋯,⋯⟩
abbrev Cu(Γ:Tab):Prop:=∀(T most:Int) (u:U) (ws:List Str) (rs:List Row),Src T u->T+100<2 ^ 62->0<=most->ws.length<=24->rs.length<=60->(∀r∈rs,cZ ws r)->∃a b u',Γ "_law_cut" [u,.tup (rs.map A'),.int most]=bD (.ok (.loc,.tup [.tup [.tup (a.map A'),.lst ((KK.Hk a b).map .str)],u']))/\Li ws a b/\Src (T+30) u'/\((KK.Hk a b).length:Int)<=most
def Gm(G:TF (Hm Pg d))(h:HL Pg "_law_cut" EA):Cu (Hm Pg (d+1)):=by
 intro T most u ws rs n z q j o g;have hsz:(1000:Nat)<=dV:=by decide
 have t:cX [0] [u,.tup (rs.map A'),.int most] EA.ns=[bD (.io,u),bD (.loc,.tup (rs.map A')),bD (.loc,.int most),cb,cb]:=by
  obtain⟨_,_,_,rfl,_⟩:=n;change [bD (Kd.io,_),bD (if HG (.tup (rs.map A'))=b6 then Kd.loc else Kd.any,U.tup (rs.map A')),bD (Kd.loc,U.int most),cb,cb]=_;rw[bR]
 have hz:Bz ws rs:=⟨j,⋯,g⟩
 have⟨K,e,k1,k2⟩:=G.l ws rs .loc _ .tup j g;have A:=d6 hz K;have B:=d0 λr o=>(g r o).ok;have p:=uS (Γ:=Hm Pg d) (src:=.call "_law_all" [.var 1]) (k:=.own) (Z:=aI rs) (K:=K) (u:=u) (rs:=rs) (most:=most) (o4:=cb) ⋯ (aP (aa (ae rfl) ah) trivial (G.a ws rs hz)) trivial (by change bD (((aI rs).map U.str).map λu=>(kE .own,u))=_;rw[i4];rfl);have v:((aI rs).filter λy=>!df (y∈K))=KK.Hk rs K:=by
  unfold KK.Hk;show Q9 λy _=>by simp
 rw[v]at p;have⟨b,i,u',w,c,s,m⟩:=q_ G (ws:=ws) q 999999999999 rs K u T ⟨j,g,⋯,k2,k1⟩ n ⋯ ⋯;show⟨b,i,u',?_,c,s.up ⋯,m⟩;rw[cT h _ rfl];obtain⟨x,rfl,_⟩:=s.lst;show cI (f:=.rt .loc (.tup [.tup (b.map A'),.lst ((KK.Hk b i).map .str)])) (st:=gJ (.lst x) b most i (bD (.loc,.lst ((KK.Hk b i).map .str)))) rfl t (aB (aP (aa (ae rfl) ah) trivial e) bb (aB p bb (qL w (bx (dz (aa (ae rfl) (aa (aE rfl) ah)) (by show⟨⟨.own,rfl,rfl⟩,trivial⟩) (av aG (av (uG rfl) aC)) (by change 2<=dV;lia)) cS)))) rfl rfl
def BQ(d:pA Γ)(e:lX Γ){ns:List Int}(f:ns.length<1000)(b:Src 0 u):
  ∃(ws:List Str) (rs:List Row) (a:List Int) (u':U),Run (ev Γ (.Hg "_law_book" [.var 1,.var 3,.Hg "_law_words" [.var 3] [0]] [0,1])) (o0::bD (.own,.lst (ns.map .int))::o2::bD (.own,u)::rest) (.loc,.tup (rs.map A')) (o0::bD (.own,.lst (a.map .int))::o2::bD (.own,u')::rest)/\ws.length<=24/\c6 ws rs/\rs.length<=60:=by
 obtain⟨ws,s,g,t,h,s1,_⟩:=d 0 u b ⋯;have⟨us,rfl,l⟩:=b.lst;have⟨c,rfl,m⟩:=s1.lst;have n:=ir (Γ:=Γ) (st:=o0::bD (.own,.lst (ns.map .int))::o2::bD (.own,.lst us)::rest) (i:=3) (es:=[]) (k0:=.own) (k:=.own) rfl rfl ah rfl rfl l rfl g (.inl rfl);have⟨rs,a,v,o,p,q,w,s2⟩:=e ns (.lst c) ws _ s1 ⋯ f ⋯ ⋯;have⟨r,rfl,x⟩:=s2.lst;show⟨ws,rs,a,.lst r,BD (Γ:=Γ) (st:=o0::bD (.own,.lst (ns.map .int))::o2::bD (.own,.lst us)::rest) (st1:=o0::bD (.own,.lst (ns.map .int))::o2::bD (.own,.lst c)::rest) (i:=1) (j:=3) (k0:=.own) (k:=.own) (k0':=.own) (k':=.own) (rs:=[(.own,.lst (ws.map .str))]) ⋯ rfl rfl rfl rfl (aa n ah) rfl rfl (gC ns) rfl rfl m rfl o (.inr rfl),h,p,q⟩
end
section
def Mm.no(e:Z.Nodup)(h:Mm rs Z l)(f:∀x∈c,x∈Z)(g:c.length<l.length):¬Suf rs c:=λs=>by
 have a:=h.min (Z.filter λx=>df (x∈c)) Hs (s.mono λx d=>lg.mpr ⟨f x d,ú d⟩);have b:(Z.filter λx=>df (x∈c)).length<=c.length:=dA (e.sublist Hs) λx d=>û (lg.mp d).2;lia
def BR(h:l.Sublist (aI rs)):aL (aD l)=l:=by
 have n:l.Nodup:=(cY rs).sublist h;show gb ((DD (bp l) n).mpr λx=>by simp[bh]) ((cn _).sublist h)
abbrev zu:List S :=
  [.ite (.or [.not (.Jc (.var 6) .tuple),.cmp .ne (.bi .len [.var 6]) (.cst (.int 2)),.not (.Jc (.idx (.var 6) (.cst (.int 0))) .list)])
   [.ret (.cst (.bl cK))]
   [],
  .set 7 (.idx (.var 6) (.cst (.int 0))),
  .ite (.or [.cmp .ne (.var 7) (.Kw .sset [.var 7]),.not (.bi .all [.comp 1 cK .seq [.var 7] [] (.cmp .isin (.var 0) (.call "_law_all" [.var 5]))])])
   [.ret (.cst (.bl cK))]
   [],
  .ite (.or [.not (.call "_law_suffice" [.var 4,.var 7]),.cmp .gt (.bi .len [.var 7]) (.bi .len [.var 5])])
   [.ret (.cst (.bl cK))]
   [],
  .ite (.cmp .eq (.bi .len [.var 7]) (.cst (.int 0)))
   [.ret (.cmp .is (.idx (.var 6) (.cst (.int 1))) (.cst .Hj))]
   [],
  .ret (.call "_law_shows" [(.var 4),(.lst []),(.bin .sub (.bi .len [(.var 7)]) (.cst (.int 1))),(.idx (.var 6) (.cst (.int 1)))])]
abbrev zw:Fn:=⟨"law",1,8,[.set 1 (.Kw .Jv [.KN (.var 0) [] [.cst (.int 200)]]),.set 2 (.Hg "_law_source" [.var 1,.cst (.int 2)] [0]),.set 3 (.Hg "_law_source" [.var 1,.cst (.int 1)] [0]),.set 4 (.Hg "_law_book" [.var 1,.var 3,.Hg "_law_words" [.var 3] [0]] [0,1]),.J6 [4,5] (.Hg "_law_cut" [.var 2,.var 4,.cst (.int 5)] [0]),.set 6 (.call "fewest" [.var 4])]++zu⟩
structure Vj(Γ:Tab)(rs:List Row)(Z:List Str)(u:U):Prop where
 fe:Γ "fewest" [.tup (rs.map A')]=bD (.ok (.loc,u))
 ft:QB rs Z u
 al:Γ "_law_all" [.tup (rs.map A')]=bD (.ok (.own,.lst ((aI rs).map .str)))
 sf:∀l,l.Sublist Z->∃b,Γ "_law_suffice" [.tup (rs.map A'),HQ l]=bD (.ok (.loc,.bl b))/\(b=b6↔Suf rs l)
 sh:∀x l v,Mm rs Z (x::l)->Lx rs [] l.length v->Γ "_law_shows" [.tup (rs.map A'),.lst [],.int (l.length:Nat),v]=bD (.ok (.loc,.bl b6))
def wa{S:Option (Kd×U)->aw}(z:Z.Sublist (aI rs))(hl:l.Sublist Z)(Q:Z.length<=24)(hs:Suf rs l)(h:Vj Γ rs Z (.tup [HQ l,v]))(j:∀o,(S o)[4]?=bD (bD (.loc,.tup (rs.map A'))))(A:∀o,(S o)[5]?=bD (bD (.loc,.lst (Z.map .str))))(d:∀o,(S o)[6]?=bD (bD (.loc,.tup [HQ l,v])))(B:∀o,(S o)[7]?=bD o)(C:∀o o',(S o).set 7 o'=S o')
  (D:l=[]->v=.Hj) (p:∀x m,l=x::m->Mm rs Z (x::m)/\Lx rs [] m.length v):Run (execs Γ zu) (S cb) (.rt .loc (.bl b6)) (S (bD (.loc,HQ l))):=by
 have hsz:(1000:Nat)<=dV:=by decide
 have T:=hl.length_le;have r:=hl.trans z;have s:∀o,Run (ev Γ (.idx (.var 6) (.cst (.int 0)))) (S o) (.loc,HQ l) (S o):=λo=>aQ (ae (d o)) aj trivial (cm rfl);have t:∀o,Run (ev Γ (.idx (.var 6) (.cst (.int 1)))) (S o) (.loc,v) (S o):=λo=>aQ (ae (d o)) aj trivial (cm rfl);let o7:Option (Kd×U):=bD (.loc,HQ l);have Y:(aD l).length<=l.length:=dA (bp _) λx e=>by simpa[bh] using e
 have a:Run (ev Γ (.var 7)) (S o7) (.loc,HQ l) (S o7):=ae (B o7);have G:Run (ev Γ (.bi .all [.comp 1 cK .seq [.var 7] [] (.cmp .isin (.var 0) (.call "_law_all" [.var 5]))])) (S o7) (.loc,.bl b6) (S o7):=by
  have e:=eG (cond:=aU Γ []) (elt:=ev Γ (.cmp .isin (.var 0) (.call "_law_all" [.var 5]))) (src:=[(.loc,HQ l)]) (st:=S o7) trivial .loc (.inl rfl) U.str (λ_=>.bl b6) .loc (λ_=>fW) l [] (by simp;lia)
   (λy H=>⟨eV (ae rfl) (aP (aa (ae (by simpa using j o7)) ah) trivial h.al) trivial (yB.trans (by rw[ú (r.subset H)])),aG⟩)
  rw[i6,show(l.map λ_=>U.bl b6)=(l.map λ_=>b6).map U.bl by rw[i4];rfl]at e;have w:=kf (k:=.own) (l.map λ_=>b6);rw[show((l.map λ_=>b6).all id)=b6 by rw[RP];show mx.mpr λ_ _=>rfl]at w;show bW (aa (b8 (rs:=[(.loc,HQ l)]) (aa a ah) trivial (by change bD ((l.map U.str).map λu=>(kE .loc,u))=_;rw[i4];rfl) e) ah) trivial w
 have⟨b,I,J⟩:=h.sf l hl;have:b=b6:=J.mpr hs;subst this;have g:Run (ev Γ (.bi .len [.var 7])) (S o7) (.loc,.int (l.length:Nat)) (S o7):=by
  have:=bW (Γ:=Γ) (f:=.len) (es:=[.var 7]) (aa a ah) trivial (show Jw .len [(.loc,HQ l)]=_ from bC);rw[dt]at this;show this
 have L:Run (ev Γ (.bi .len [.var 5])) (S o7) (.loc,.int (Z.length:Nat)) (S o7):=by
  have:=bW (Γ:=Γ) (f:=.len) (es:=[.var 5]) (aa (ae (A o7)) ah) trivial (show Jw .len [(.loc,.lst (Z.map .str))]=_ from bC);rw[dt]at this;show this
 have N:bO .ne (HQ l) (.lst ((aL (aD l)).map U.str))=bD cK:=by
  rw[BR r];show uK.trans (by simp)
 have go:∀ss n st',Run (execs Γ ss) (S o7) n st'->Run (execs Γ (.ite (.or [.not (.Jc (.var 6) .tuple),.cmp .ne (.bi .len [.var 6]) (.cst (.int 2)),.not (.Jc (.idx (.var 6) (.cst (.int 0))) .list)]) [.ret (.cst (.bl cK))] []::.set 7 (.idx (.var 6) (.cst (.int 0)))::.ite (.or [.cmp .ne (.var 7) (.Kw .sset [.var 7]),.not (.bi .all [.comp 1 cK .seq [.var 7] [] (.cmp .isin (.var 0) (.call "_law_all" [.var 5]))])]) [.ret (.cst (.bl cK))] []::.ite (.or [.not (.call "_law_suffice" [.var 4,.var 7]),.cmp .gt (.bi .len [.var 7]) (.bi .len [.var 5])]) [.ret (.cst (.bl cK))] []::ss)) (S cb) n st':=λss n st' q =>
  a9 (sy (fG (fF (c:=b6) (nK (ae (d cb)) rfl)) (fG (aK (bW (aa (ae (d cb)) ah) trivial fA) aj trivial (lW rfl)) (lI (fF (c:=b6) (nK (s cb) rfl)))))) ay (aB (st2:=S o7) (s cb) (by have:=aN (st:=S cb) (i:=7) (u:=HQ l);rw[C]at this;show this) (a9 (sy (fG (aK a (uu (aa a ah) trivial (lO ⋯ ⋯)) trivial N) (lI (fF (c:=b6) (yr G))))) ay (a9 (sy (fG (fF (c:=b6) (lM (aa (ae (j o7)) (aa a ah)) trivial I rfl)) (lI (aK g L trivial (gR (ù ⋯)))))) ay q)))
 cases l with
 |nil =>
  have:=D rfl;subst this;show go _ _ _ (jZ (fy (aK g aj trivial (bw rfl)) (bx (eV (t o7) aj trivial rfl) cS)))
 |cons x l =>
  have O:=h.sh x l v (p x l rfl).1 (p x l rfl).2;show go _ _ _ (a9 (aK g aj trivial (bw (c:=cK) (by simp;lia))) ay (bx (aP (aa (ae (j o7)) (aa (bE ah trivial aC (js _)) (aa (bo g aj trivial fb) (aa (t o7) ah)))) trivial ?_) cS));rw[show((((x::l).length:Nat):Int) - 1)=(l.length:Nat) by simp];show O
def wb(q:iX Γ)(w:pA Γ)(y:lX Γ)(A:Cu Γ)
  (B:∀ws rs K,Li ws rs K->(KK.Hk rs K).length<=5->∃u,Vj Γ rs (KK.Hk rs K) u) {ns:List Int} (hn:ns.length<=63):dJ Γ zw [.lst (ns.map .int)]=bD (.ok (.loc,.bl b6)):=by
 have C:(1000:Nat)<=dV:=by decide
 have r:rO .Jv [(.own,.lst ((cut ns cb (bD 200)).map .int))]=bD (.own,.lst ((cut ns cb (bD 200)).reverse.map .int)):=by
  change(if fk .own ((cut ns cb (bD 200)).map U.int)=b6 then bD (Kd.own,U.lst ((cut ns cb (bD 200)).map U.int).reverse) else cb)=_;rw[ö (show fk .own ((cut ns cb (bD 200)).map U.int)=b6 from rfl),List.map_reverse]
 have b:(cut ns cb (bD 200)).reverse.length<=63:=by rw[TH];have:=Bn ns cb (bD 200);lia
 generalize (cut ns cb (bD 200)).reverse=D at r b;let o0:Option (Kd×U):=bD (.any,.lst (ns.map .int));have⟨G,f,H,l2,s2⟩:=qU (Γ:=Γ) q (ns:=D) (rest:=[cb,cb,cb,cb,cb,cb]) (o0:=o0) (k:=2);have⟨I,J,L,l3,s3⟩:=qU (Γ:=Γ) q (ns:=G) (rest:=[bD (.own,f),cb,cb,cb,cb,cb]) (o0:=o0) (k:=1);have⟨ws,rs,g,j,N,O,b4,Q⟩:=BQ (Γ:=Γ) w y (ns:=I) (u:=J) (rest:=[cb,cb,cb,cb]) (o0:=o0) (o2:=bD (.own,f)) ⋯ s3;have⟨a,c,u',T,s,Y,hm⟩:=A _ 5 f ws rs s2 ⋯ ⋯ O Q b4.1;have⟨t,rfl,Yj⟩:=s2.lst;have⟨Yk,rfl,YT⟩:=Y.lst;have q6:=ir (Γ:=Γ) (st:=[o0,bD (.own,.lst (g.map .int)),bD (.own,.lst t),bD (.own,j),bD (.loc,.tup (rs.map A')),cb,cb,cb]) (st1:=[o0,bD (.own,.lst (g.map .int)),bD (.own,.lst t),bD (.own,j),bD (.loc,.tup (rs.map A')),cb,cb,cb]) (i:=2) (es:=[.var 4,.cst (.int 5)]) (k0:=.own) (k:=.own) (rs:=[(.loc,.tup (rs.map A')),(.loc,.int 5)]) rfl rfl (aa (ae rfl) (aa aj ah)) rfl rfl Yj rfl T (.inr rfl);have⟨u,m⟩:=B ws a c s ⋯;have QC:=d6 s.z c;obtain⟨l,v,rfl,JA,J0,n,hp⟩:∃l v,u=.tup [HQ l,v]/\l.Sublist (KK.Hk a c)/\Suf a l/\(l=[]->v=.Hj)/\∀x d,l=x::d->Mm a (KK.Hk a c) (x::d)/\Lx a [] d.length v:=by
  cases m.ft with
  |nil h=>show⟨[],_,rfl,h.sub,h.Vf,λ_=>rfl,λx d e=>by cases e⟩
  |@cons x l v h n=>show⟨x::l,v,rfl,h.sub,h.Vf,(λz=>by cases z),λx' d e=>by cases e;show⟨h,n⟩⟩
 have p:=wa (Γ:=Γ) (S:=λo=>[o0,bD (.own,.lst (g.map .int)),bD (.own,.lst Yk),bD (.own,j),bD (.loc,.tup (a.map A')),bD (.loc,.lst ((KK.Hk a c).map .str)),bD (.loc,.tup [HQ l,v]),o]) Hs JA QC J0 m (λ_=>rfl) (λ_=>rfl) (λ_=>rfl) (λ_=>rfl) (λ_ _=>rfl) n hp;show aW (st0:=[o0,cb,cb,cb,cb,cb,cb,cb]) rfl (.inr rfl) rfl (aB (uu (aa (nF (ax rfl) qz (lG aj) trivial (yu (by change cG _=b6;show gC ns))) ah) trivial r) bb (aB H bb (aB L bb (aB N aN (Ek q6 (gS (.inl rfl)) (aB (aP (aa (ae rfl) ah) trivial m.fe) aN p))))))
end
end TM
namespace K
open PySem L2 TM
abbrev top(i:Nat):Nb:=PySem.Challenge.pw_primer_k44_whole_paper_gone_along.main.body.getD i (.Pass ⟨0,0,0,0⟩)
noncomputable abbrev lZ:Fn:=TM.sG
noncomputable abbrev dq:Fn:=KL.dq
noncomputable abbrev eZ:Fn:=TM.Cp
noncomputable abbrev bj:Fn:=KL.bj
noncomputable abbrev cU:Fn:=KL.cU
noncomputable abbrev bu:Fn:=KL.bu
noncomputable abbrev fB:Fn:=KL.fB
noncomputable abbrev eY:Fn:=KL.eY
noncomputable abbrev iZ:Fn:=TM.uL
abbrev zx:Fn:=⟨"knot",1,4,[.newD 1,.Hy cK [2] .seq [.call "not_learnt" [.var 0]] [.putD 1 (.var 2) (.lst [])],.Hy cK [3] .seq [.var 0] [.ite (.inD cK (.idx (.var 3) (.cst (.int 0))) 1) [.Jj 1 (.idx (.var 3) (.cst (.int 0))) (.idx (.comp 1 cK .seq [.idx (.var 3) (.cst (.int 1))] [.inD cK (.var 0) 2] (.var 0)) (.cst (.int 0)))] []],.J7 1 (.tup [.var 0,.bi .tuple [.var 1]])]⟩
noncomputable abbrev fI:Fn:=TM.F8
noncomputable abbrev nW:Fn:=TM.Cq
noncomputable abbrev nX:Fn:=TM.Tu
noncomputable abbrev gh:Fn:=TM.Tw
noncomputable abbrev uT:Fn:=TM.Ew
noncomputable abbrev ra:Fn:=TM.Gi
noncomputable abbrev i_:Fn:=TM.yC
noncomputable abbrev l8:Fn:=TM.uI
noncomputable abbrev jN:Fn:=TM.lV
noncomputable abbrev nY:Fn:=TM.Eo
noncomputable abbrev nZ:Fn:=TM.Bx
noncomputable abbrev l9:Fn:=TM.pz
noncomputable abbrev ja:Fn:=TM.BJ
noncomputable abbrev n9:Fn:=TM.y6
noncomputable abbrev gU:Fn:=TM.zo
noncomputable abbrev jO:Fn:=TM.zm
noncomputable abbrev gk:Fn:=TM.Pl
noncomputable abbrev gV:Fn:=TM.Tq
noncomputable abbrev n_:Fn:=TM.EA
noncomputable abbrev jP:Fn:=TM.Gf
abbrev Cv:Fn:=⟨"law",1,8,[.set 1 (.Kw .Jv [.KN (.var 0) [] [.cst (.int 200)]]),.set 2 (.Hg "_law_source" [.var 1,.cst (.int 2)] [0]),.set 3 (.Hg "_law_source" [.var 1,.cst (.int 1)] [0]),.set 4 (.Hg "_law_book" [.var 1,.var 3,.Hg "_law_words" [.var 3] [0]] [0,1]),.J6 [4,5] (.Hg "_law_cut" [.var 2,.var 4,.cst (.int 5)] [0]),.set 6 (.call "fewest" [.var 4]),.ite (.or [.not (.Jc (.var 6) .tuple),.cmp .ne (.bi .len [.var 6]) (.cst (.int 2)),.not (.Jc (.idx (.var 6) (.cst (.int 0))) .list)]) [.ret (.cst (.bl cK))] [],.set 7 (.idx (.var 6) (.cst (.int 0))),.ite (.or [.cmp .ne (.var 7) (.Kw .sset [.var 7]),.not (.bi .all [.comp 1 cK .seq [.var 7] [] (.cmp .isin (.var 0) (.call "_law_all" [.var 5]))])]) [.ret (.cst (.bl cK))] [],.ite (.or [.not (.call "_law_suffice" [.var 4,.var 7]),.cmp .gt (.bi .len [.var 7]) (.bi .len [.var 5])]) [.ret (.cst (.bl cK))] [],.ite (.cmp .eq (.bi .len [.var 7]) (.cst (.int 0))) [.ret (.cmp .is (.idx (.var 6) (.cst (.int 1))) (.cst .Hj))] [],.ret (.call "_law_shows" [.var 4,.lst [],.bin .sub (.bi .len [.var 7]) (.cst (.int 1)),.idx (.var 6) (.cst (.int 1))])]⟩
abbrev prog:List Fn:=[lZ,dq,eZ,bj,cU,bu,fB,eY,iZ,zx,fI,nW,nX,gh,uT,ra,i_,l8,jN,nY,nZ,l9,ja,n9,gU,jO,gk,gV,n_,jP,Cv]
abbrev ck:Ck:=⟨(prog.filter λf=>f.io.isNone).map (·.name),[("MOST_NOT_LEARNT",(.int 5))],prog.filterMap λf=>f.io.map λp=>(f.name,p.1)⟩
def pure(ns:List Int)(r:ns.length<=63):Hm prog 14 "law" [sr ns]=bD (.ok (.loc,.bl b6)):=by
 have j:HL prog "_law_draw" uI:=rfl;have hs:HL prog "_law_source" yC:=rfl;have k:HL prog "_law_learnt" BJ:=rfl;have f:HL prog "_law_all" y6:=rfl;have n:HL prog "_law_pictured" Pl:=rfl;have s:HL prog "_law_suffice" Tq:=rfl;have H:Vi prog:=⟨⟨⟨rfl,rfl,rfl,rfl,rfl,rfl⟩,rfl,rfl,rfl,rfl,rfl⟩,rfl,rfl,rfl,rfl,rfl⟩
 have t:TC prog:=⟨rfl,rfl,rfl,rfl,rfl⟩
 have w:bV (Hm prog 11):=yH j;have g:bV (Hm prog 12):=yH j;have hl:HL prog "law" zw:=rfl;rw[show Hm prog 14 "law" [sr ns]=_ from aH hl [sr ns]];show wb (yP hs) (BB g rfl) (y9 (yP hs) g (F0 w rfl) (F3 rfl) rfl) (Gm ⟨g,F6 ⋯ k,λws rs o=>BI f o.wl o.ok,λrs L i p=>BM n i p⟩ rfl) (λws rs K a y=>?_) r;have G:=a.ks.len;have I:=a.wl;have J:=a.rl;have⟨u,e,A⟩:=Gj H 0 a.z ⋯ a.kn ⋯ y;show⟨u,e,A,BI f a.wl a.ok,λl hl=>?_,λx l v h B=>?_⟩
 .have q:=hl.length_le;have⟨b,C,D⟩:=G_ (d:=11) n k f s a.z (L:=l) (ws':=ws) ⋯ ⋯ (λx c=>c) λx c=>a.z.in (bL.mp (hl.subset c)).1;show⟨b,C,D λx c=>(bL.mp (hl.subset c)).1⟩
 .have q:=h.sub.length_le;rw[k7]at q;have:=Gh t a.z a.kn (m:=l.length) (λN i p=>h.no (KK.jx _ _) i (by rw[k7];lia)) ⋯ ⋯ l.length [] v (10 - l.length) B (λx c=>by cases c) (by simp);rw[show 10 - l.length+l.length+3=13 by lia]at this;show this
end K
namespace K
open PySem L2 TM PySem.W PyProof.Rows
abbrev m0:et:=.str "primer.books" 239
abbrev m1:et:=.str "primer.learning" 268
abbrev m2:et:=.str "primer.knots" 316
abbrev m3:et:=.str "primer.pictures" 324
abbrev m4:et:=.str "primer.fewest" 340
abbrev m5:et:=.str "law_primer_k44_whole_paper_gone_along" 377
abbrev ml:Me:=⟨Cv,41,["_law_script","_law_left","_law_query","_law_source_here","_law_book_here","_law_held","_law_found","_law_words_here"],238,237,m5,co "law" 496 235 1 234 235 .none .none (.ref 236) 499 500 181⟩
abbrev ms:List Me:=[⟨lZ,5,["book","words","row"],58,57,m0,co "words_of" 241 9 1 52 53 (.ref 54) (.ref 55) (.ref 56) 247 248 181⟩,
 ⟨dq,6,["pairs","found","key","value"],65,64,m0,co "gathered" 250 15 1 59 60 (.ref 61) (.ref 62) (.ref 63) 257 258 181⟩,
 ⟨eZ,7,["book","words"],72,71,m0,co "refuse_unknown" 260 22 2 66 67 (.ref 68) (.ref 69) (.ref 70) 265 266 181⟩,
 ⟨bj,9,["book","pairs","place","row"],77,76,m1,co "places_that_tell" 270 26 1 73 74 .none .none (.ref 75) 273 274 181⟩,
 ⟨cU,10,["book","places","known","steps","place","word"],84,83,m1,co "new_steps" 276 31 3 78 79 (.ref 80) (.ref 81) (.ref 82) 285 286 181⟩,
 ⟨bu,11,["book","tellers","missing","known","found","ready","steps","word","place","teller"],89,88,m1,co "steps_in_rounds" 288 38 1 85 86 .none .none (.ref 87) 291 292 181⟩,
 ⟨fB,12,["book","found","steps"],96,95,m1,co "order" 294 56 1 90 91 (.ref 92) (.ref 93) (.ref 94) 300 301 181⟩,
 ⟨eY,13,["book"],101,100,m1,co "learnt" 303 61 1 97 98 .none .none (.ref 99) 306 307 181⟩,
 ⟨iZ,14,["book"],108,107,m1,co "not_learnt" 309 63 1 102 103 (.ref 104) (.ref 105) (.ref 106) 313 314 181⟩,
 ⟨zx,16,["book","blocks","word","row"],113,112,m2,co "knot" 318 66 1 109 110 .none .none (.ref 111) 321 322 181⟩,
 ⟨fI,18,["book","words","pictured","row"],118,117,m3,co "with_pictures" 326 75 2 114 115 .none .none (.ref 116) 329 330 181⟩,
 ⟨nW,19,["book","words"],125,124,m3,co "suffice" 332 82 2 119 120 (.ref 121) (.ref 122) (.ref 123) 337 338 181⟩,
 ⟨nX,22,["words","number","found","place","word","others"],132,131,m4,co "choices" 344 86 2 126 127 (.ref 128) (.ref 129) (.ref 130) 353 354 181⟩,
 ⟨gh,23,["book","words","number","found"],137,136,m4,co "fewest_words" 356 94 2 133 134 .none .none (.ref 135) 359 360 181⟩,
 ⟨uT,24,["book","given","left","pairs"],142,141,m4,co "paper" 362 101 3 138 139 .none .none (.ref 140) 365 366 181⟩,
 ⟨ra,25,["book","words","chosen"],149,148,m4,co "fewest" 368 106 1 143 144 (.ref 145) (.ref 146) (.ref 147) 374 375 181⟩,
 ⟨i_,27,["_law_left","_law_k","_law_cell"],156,155,m5,co "_law_source" 379 115 2 150 151 (.ref 152) (.ref 153) (.ref 154) 385 386 181⟩,
 ⟨l8,28,["_law_source_here","_law_many","_law_number","_law_turn","_law_mixed"],163,162,m5,co "_law_draw" 388 120 2 157 158 (.ref 159) (.ref 160) (.ref 161) 396 397 181⟩,
 ⟨jN,29,["_law_source_here","_law_letters","_law_many","_law_base","_law_way","_law_size","_law_first","_law_words_here","_law_k","_law_word","_law_sense"],168,167,m5,co "_law_words" 399 129 1 164 165 .none .none (.ref 166) 402 403 181⟩,
 ⟨nY,30,["_law_source_here","_law_words_here","_law_at","_law_below","_law_told","_law_k","_law_one"],175,174,m5,co "_law_row" 405 150 4 169 170 (.ref 171) (.ref 172) (.ref 173) 415 416 181⟩,
 ⟨nZ,31,["_law_rows","_law_row_here","_law_other"],182,181,m5,co "_law_lay" 418 159 2 176 177 (.ref 178) (.ref 179) (.ref 180) 424 425 181⟩,
 ⟨l9,32,["_law_left","_law_source_here","_law_words_here","_law_rows","_law_way","_law_k","_law_at","_law_more"],189,188,m5,co "_law_book" 427 164 3 183 184 (.ref 185) (.ref 186) (.ref 187) 438 439 181⟩,
 ⟨ja,33,["_law_book_here","_law_known","_law_fell","_law_word","_law_told"],194,193,m5,co "_law_learnt" 441 176 1 190 191 .none .none (.ref 192) 444 445 181⟩,
 ⟨n9,34,["_law_book_here","_law_met","_law_word","_law_told","_law_one"],201,200,m5,co "_law_all" 447 186 1 195 196 (.ref 197) (.ref 198) (.ref 199) 455 456 181⟩,
 ⟨gU,35,["_law_book_here","_law_pairs_here","_law_held","_law_word","_law_blocks","_law_rows"],206,205,m5,co "_law_is_knot" 458 193 2 202 203 .none .none (.ref 204) 461 462 181⟩,
 ⟨jO,36,["_law_found"],211,210,m5,co "_law_pairs" 464 204 1 207 208 .none .none (.ref 209) 467 468 181⟩,
 ⟨gk,37,["_law_book_here","_law_words_here","_law_heads"],216,215,m5,co "_law_pictured" 470 206 2 212 213 .none .none (.ref 214) 473 474 181⟩,
 ⟨gV,38,["_law_book_here","_law_words_here"],223,222,m5,co "_law_suffice" 476 209 2 217 218 (.ref 219) (.ref 220) (.ref 221) 481 482 181⟩,
 ⟨n_,39,["_law_query","_law_book_here","_law_most","_law_known","_law_held"],228,227,m5,co "_law_cut" 484 211 3 224 225 .none .none (.ref 226) 487 488 181⟩,
 ⟨jP,40,["_law_book_here","_law_given","_law_left","_law_paper","_law_words_here","_law_word","_law_branch"],233,232,m5,co "_law_shows" 490 219 4 229 230 .none .none (.ref 231) 493 494 181⟩,
 ml]
abbrev gg(P:Y8):Obj:=⟨.type "dict",cb,.dict #[ge P "__name__" 165 (.str "law_primer_k44_whole_paper_gone_along" 377),ge P "__doc__" 166 .none,ge P "__package__" 167 .none,ge P "__loader__" 168 (.builtin "__main__.__loader__#opaque"),ge P "__spec__" 169 .none,ge P "__annotations__" 170 (.ref 6),ge P "__builtins__" 171 (.ref 4),ge P "__file__" 173 (.str "/claim/cut.py" 172),ge P "__cached__" 174 .none,ge P "PrimerError" 206 (.ref 24),ge P "Unknown" 222 (.ref 37),ge P "TooMany" 238 (.ref 49),ge P "words_of" 249 (.ref 58),ge P "gathered" 259 (.ref 65),ge P "refuse_unknown" 267 (.ref 72),ge P "places_that_tell" 275 (.ref 77),ge P "new_steps" 287 (.ref 84),ge P "steps_in_rounds" 293 (.ref 89),ge P "order" 302 (.ref 96),ge P "learnt" 308 (.ref 101),ge P "not_learnt" 315 (.ref 108),ge P "knot" 323 (.ref 113),ge P "with_pictures" 331 (.ref 118),ge P "suffice" 339 (.ref 125),ge P "MOST_NOT_LEARNT" 343 (.int 5 342),ge P "choices" 355 (.ref 132),ge P "fewest_words" 361 (.ref 137),ge P "paper" 367 (.ref 142),ge P "fewest" 376 (.ref 149),ge P "_law_source" 387 (.ref 156),ge P "_law_draw" 398 (.ref 163),ge P "_law_words" 404 (.ref 168),ge P "_law_row" 417 (.ref 175),ge P "_law_lay" 426 (.ref 182),ge P "_law_book" 440 (.ref 189),ge P "_law_learnt" 446 (.ref 194),ge P "_law_all" 457 (.ref 201),ge P "_law_is_knot" 463 (.ref 206),ge P "_law_pairs" 469 (.ref 211),ge P "_law_pictured" 475 (.ref 216),ge P "_law_suffice" 483 (.ref 223),ge P "_law_cut" 489 (.ref 228),ge P "_law_shows" 495 (.ref 233),ge P "law" 501 (.ref 238)] 44,#[]⟩
abbrev vw:Hr:=view PySem.Challenge.pw_primer_k44_whole_paper_gone_along [5,6,7,9,10,11,12,13,14,16,18,19,22,23,24,25,27,28,29,30,31,32,33,34,35,36,37,38,39,40,41]
abbrev hk:Hook:=kHook (λP=>J_ top (gg P) ms) (adr ms) λP=>ur top (gg P) ms
abbrev lo:List Str:=["PrimerError","Unknown","TooMany","MOST_NOT_LEARNT"]
noncomputable abbrev xt(s:hH):Bool:=xlAt vw [] s&&recOk (RowW.records PySem.Challenge.rw_primer_k44_whole_paper_gone_along.row.toRowW) s
noncomputable abbrev oe(w:IT):Option hH:=openEnds treeTable PySem.Challenge.rw_primer_k44_whole_paper_gone_along.row.prog w 4000
noncomputable abbrev os(s:hH):=openSeen vw lo (importedModules PySem.Challenge.rw_primer_k44_whole_paper_gone_along.row.prog.main.body) xt b6 s
def JA(w:IT):(oe w).map (λs=>(os s).1)=bD (openGood vw lo).1:=by kernel_rfl
def J0(w:IT):(oe w).map (λs=>(os s).2)=bD (openGood vw lo).2:=by kernel_rfl
def NR(w:IT):(oe w).map hk.obs=bD (hk.val w):=by kernel_rfl
def hl:LeftO PySem.Challenge.rw_primer_k44_whole_paper_gone_along.row.prog vw lo xt hk.obs hk.val 4000:=λw=>by
 have⟨s,e,a⟩:=hA.mp (JA w);have b:=J0 w;have c:=NR w;rw[e]at b c;change(oe w).map _=_;rw[e];show ü bD (ZO (ZO a (tr b)) (tr c))
def hs:PySem.Challenge.rw_primer_k44_whole_paper_gone_along.wellSaid=b6:=by kernel_rfl
def ho(P:Y8):Mj ck top (J_ top (gg P) ms) ms=b6:=by kernel_rfl
end K
open PySem PySem.W PyProof.Rows K
theorem PySem.Challenge.cw_primer_k44_whole_paper_gone_along_holds : PySem.Challenge.rw_primer_k44_whole_paper_gone_along.Holds := by
 w_on
 refine holds_law hs λz => ?_;refine holds_open hl hk.of hk.keeps (λs e => xl_of s (IH.mp e).1) XL.keeps rfl rfl rfl (λs e => recFacts_of (IH.mp e).2) rfl z (by kernel_rfl) ⟨rfl, rfl, rfl, rfl, rfl, by decide +kernel⟩ ?hw ?a
 (case hw => w_witness2)
 exact TM.walk2 (l := PySem.Challenge.rw_primer_k44_whole_paper_gone_along) (Pg := prog) (ck := ck) (dp := 13) (x := "_law_script") (m := ml) rfl rfl ⟨rfl, by decide, by decide, rfl⟩ rfl (by decide +kernel) (by decide +kernel) rfl (R8.mpr ⟨30, rfl⟩) rfl rfl ho K.pure
