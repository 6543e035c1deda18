import PyProof.Rows.All
import Wide.All
import OpenK.AllK
import Wide.FinOn
import Lean
import PyProof.EqAt
import PyProof.EqKinds
import PyProof.TupleCall
import PyProof.StrLawsChain
import PyProof.StrLawsFirst
import PyProof.Rows.StrNews2
import OpenK.AllK
import PyProof.DictItems
import OpenK.AllK
import PyProof.DictValues
import OpenK.AllK
import PyProof.AttrMissHeap
import OpenK.AllK
import PyProof.StationsW
import PyProof.ExcBaseAll.ValueError
import PyProof.RulesAs
import PyProof.NsDelKeeps
import OpenK.AllK
import PyProof.ReprBulk
import PySem.Challenge.RW_primer_k94_whole_laid_together
set_option Elab.async false
set_option linter.all false
set_option bootstrap.genMatcherCode false
set_option maxRecDepth 100000
set_option maxHeartbeats 4000000
set_option genInjectivity false
set_option genSizeOf false
set_option autoImplicit true
set_option relaxedAutoImplicit true
open Option renaming some->bD,none->b7,map_eq_some_iff->d5,bind_eq_some_iff->nH,isSome_iff_exists->P0,isNone_iff_eq_none->R5,isSome_map->Sa,map_eq_none_iff->SR,map_some->VP,isSome_some->YX,getD_some->Zk,getD_none->Zl
open PySem renaming wpAny_bind->b8,sizeLine->c4,wpAny_pure->dV,Value->d4,wpAny->eH,Addr->eW,Shared->hY,model->ke,starEach->lx,Expr->oT,mainGlobals->ro,wpAny_mono->ti,wpAny_newObj_type->va,Program->w6,wpAny_holding->DD,rawInt->D',wpAny_call_entry->H9,World->Ie,cLine->IF,wpAny_Call_Name_kw->Jo,wpAny_truthy_bool->Jt,eval->JF,bootBuiltins->JM,sysModules->JP,wpAny_setState_of->J2,codeAny_builtin->Ke,Heap->Ks,backTo->KW,isSubtype_type->Lw,wpAny_callSpecial?_slot->Mc,NameKind->ME,scanBound->Na,cellsFrom->Nb,holding->Nc,foldedSetIterable->Ni,Scope->Nj,Stmt->Nw,wpAny_setField->N1,wpAny_rule->OC,Builtin->OG,Around->OM,wpAny_passesOwn->ON,compareOp->OV,behindInMarks->OZ,Keyword->O9,call->PU,keywordEach->P2,wpAny_typeOf->P4,wpAny_isInstance->P5,binaryOp->Qg,wpAny_specialOf->Qq,wpAny_pyIter_tuple->QQ,tupleKind_room_in1->QR,call_meets->QS,assignEach->QV,wpAny_getItem_str_slice->QZ,wpAny_field->Q0,wpAny_seqItems->Ri,wpAny_pyIter_list->Rj,tupleKeyHash->Rk,typeIs_str->RA,swapsWith->RB,isSubtype->RC,swapsWithSole->RO,plainId_quiet->RW,sliceBounds->RZ,wpAny_execs_nil->R_,call_isinstance->R',getItem->Sh,codeAny_mono->So,codeAny->Sq,pushCells->Su,pyNext->Sw,backToKw->Sx,assign->SA,SetTable->SJ,FuncData->SN,wpAny_forIn_list->Tz,setItem->T1,relabel->T8,notedBy->Uc,callerA->Ue,builtinsNs->Ui,wpAny_updateSeq->Uq,wpAny_loadPart'->Ur,post_val_or_str->Us,letOwnedTupleGo->Ut,isSubtype_tuple_tuple->UB,builtinLookup_eq_fast->UC,firstArgMember->U_,atKey->U',Params->Va,IsPart->Vb,tupleKind->Ve,swappedStores->VL,attributeBase->VM,wpAny_tupleItemsOf->V6,wpAny_pyIter_enum->Ww,valueAt->Wx,setNext->Wy,setField->Wz,release->W0,concat_meets->Xi,compEnvC->Xk,wpAny_askSetting->XG,pickOrder->XH,noFill_tuple_add->XM,PassesOwn->XY,wpAny_of_eq->Yd,subscripted->Yg,typeLookup_type->Yq,pushCells_keeps->Yr,standAt->Yw,wpAny_runValue->YF,typeOf->YG,typeLookup->YH,relayAll->YI,raiseNew->YJ,pyIter->YK,newFunctionEnv->YL,IsTupleKey->YN,wpAny_standAt->Y1,wpAny_newList->Y2,wpAny_comprehension_free->Y3,seq_tuple_add->Y4,strValues->Ze,seqItems?->Zf,eqIsQuiet->Zg,bindL->Zh,bindC->Zi,wpAny_Call_method_late->Zo,setNextDrawn->Zp,newExc->Zq,collect->Zr,call_meetsIn->Zs,PyData->Zw,IsEnum->Zx,BindsTo->ZA,wpAny_isTrue_Compare1->ZF,step->ZS,seqIndex_of->ZT,entryFor->ZU,Operator->ZV,wpAny_setEntries_of->Z7,wpAny_setItem_heap->Å,wpAny_load->Æ,wpAny_call->Ç,wpAny_Name->È,isInstance->É,getattributeRaised->Ê,JoinOk->Ì,wpAny_storeSet_of->Õ,wpAny_sequenceKey->Ö,wpAny_pyIter_slot->Ø,wpAny_assign_Name->Ù,spliced->Ú,slot_list_getitem->Û,newList->Ü,fits_of_scanBound->Ý,eqIsQuiet_byValue->Þ,wpAny_execs_cons->å,wpAny_eqBool_str->æ,wpAny_eqBool_int->ç,wpAny_Dict_empty->è,entryFor_of_tree->é,codeAny_of_tree->ù,wpAny_Expr_any->Ą,wpAny_Compare1->ą,truthy->Ć,stored->ć,rule->Ĉ,recursionLimit->ĉ,numbered_texts->Ċ,newTuple->ċ,isSubtype_stop->Č,field->č,entryFor_alias->Ď,bindArgs->ď,augStore->Đ,argsOk->đ,again->Ē
open Bool renaming true->cb,false->cc,and_eq_true->cL,false_ne_true->l',false_eq_true->td,not_eq_true'->uk,eq_iff_iff->Iy,and_eq_true_iff->JL,not_true->Mj,or_eq_true->Om,eq_false_iff->Ss,and_false->XE,and_true->Yp,not_false->Ã,false_and->Ä,or_false->Ó,and_self->Ô
open List renaming length_map->cK,mem_cons->d6,getElem?_eq_some_iff->et,mem_map->ez,map_cons->eF,getElem?_set_self->fx,mem_append->gj,length_append->gs,map_map->hQ,size_toArray->i5,range->js,mem_cons_of_mem->kj,getElem?_set_ne->ko,length_cons->k9,nil_append->lb,mem_cons_self->lg,map_append->mu,replicate->mx,getElem?_map->my,mem_singleton->mN,nodup_cons->nc,mem_append_right->nC,mem_of_getElem?->pb,lookup_cons->p7,nodup_append->qs,all_eq_true->r6,getElem?_append_right->sx,mem_append_left->tj,length->tA,getElem?_append_left->vl,length_take->vr,append_nil->vu,mem_range->wh,map_congr_left->y0,filter_cons->z8,map_nil->Jc,getElem?_eq_getElem->Jq,filterMap_cons->JS,drop_eq_getElem_cons->Ka,length_filter_le->Kc,length_drop->Km,getElem?_replicate->KZ,mem_filter->K',find?_cons->Lo,filter_eq_nil_iff->Mh,isEmpty_iff->Mp,pairwise_cons->MH,getElem?_drop->MJ,length_range->MW,take_of_length_le->NX,length_singleton->OA,perm_ext_iff_of_nodup->O4,getD_eq_getElem?_getD->O8,getElem_mem->Pb,ext_getElem->Pd,mem_filterMap->Qd,filter_append->Qe,append_assoc->QP,length_replicate->Q7,not_mem_nil->Q8,any_eq_true->Rg,mem_of_mem_take->Rt,of_mem_zip->Rz,getElem_of_mem->RE,getD->R0,nodup_nil->R9,flatten_cons->Sr,pairwise_mergeSort->SS,length_eq_zero_iff->SX,getElem?_cons_succ->SY,filter_cons_of_pos->S5,filter_cons_of_neg->S6,drop_eq_nil_of_le->Tr,filter_nil->Tv,map->TV,getElem?_zipIdx->TY,mergeSort_perm->Ux,any_cons->U0,zip_cons_cons->U9,pairwise_map->Vl,mem_flatten->VX,eq_nil_of_length_eq_zero->Wf,length_zip->Wl,length_nil->Wm,foldl_cons->Wu,drop_left'->Wv,drop_zero->XD,mem_of_find?_eq_some->X',length_erase_of_mem->Yk,getElem?_take_of_lt->Yl,length_pos_of_mem->YB,length_eq_one_iff->YC,all_map->YD,mem_iff_getElem?->YR,mem_of_mem_drop->YY,mem_iff_getElem->YZ,mem_erase_of_ne->Y0,mem_map_of_mem->Y',length_pos_iff->Za,getElem?_range->Zb,flatten_append->Zc,take_sublist->ZE,nodup_range->ZM,map_fst_zip->ZN,getElem_map->ZO,getElem_inj->ZP,drop_length->ZQ,cons_append->ZR,length_set->Z4,filter_map->Z5,map_take->Ð,map_drop->Ñ,findIdx?->Ò,any_map->ä,map_id->ò
open Decidable renaming decide->df
open PySem.Heap renaming get?_push_of_some->dt,lt_size->hH,get?_push_size->i4,get?_update_self->Jp,SameBut->KC,get?_update_ne->PV,size_push->QE,get?_update_other->QO,size_update->ZI,ExtBut->ë
open Nat renaming le_refl->kb,ne_of_lt->ki,lt_of_lt_of_le->mf,zero_le->mA,le_trans->ve,lt_irrefl->H8,ne_of_gt->KN,lt_succ_of_lt->K3,le_of_lt->M3,le_succ->NW,lt_trans->QY,lt_succ_self->Td,mod_lt->X8,add_sub_cancel_left->YA,zero_add->YP,le_of_eq->YQ,log2_lt->Y_,min_eq_left->Á,mul_add->ă
open PySem.Value renaming ref->mh,none->rz,type->y1,str->H_,isStrOf->Md,bool->NJ,isStrOf_shape->YU,int->Zt,builtin->Z8,isInt->á
open Sum renaming inr->oa,inl->Vm
open PySem.Txt renaming partition->q9,split->Nu,join->Vn,endswith->ê
open PySem.Str renaming empty->ri,ofString->QX,length->Rm
open Array renaming length_toList->sm,getElem?_toList->ML,toList_append->Up,forIn_toList->U1,size_append->Vc,toList_inj->VJ,toList->Yv,toArray_toList->YT,append_assoc->Zd,toList_push->Zn,getD->ø
open PySem.Obj renaming mapSeq->sL,data_mapFields->N6,putSet->Tu,isFreed_of_fields->TH,cls_mapFields->Vs,mapFields->â
open Ne renaming symm->uv
open Option.some renaming inj->wk,injEq->TK
open PyProof.Rows renaming slot_tuple_getitem->y4,seqObj->Iu,callWith_type1->KU,size_push'->MO,callWith_builtin1->P_,StrsAre->Rr,AllBare->Tf,envOfC->Uj,subscriptTail->VN,listUpdate_at->VO,IntsAre->Xt,sortedHeap_old->YO,sortedHeap_at->Y9,subscriptTail_builtinR->ZC,listItems_at->ZD,seqEpoch_at->Z2,IsTup->Z3,entry_tuple_getitem->Z9,sortedHeap->Í,args_tuple_getitem->Î,Subscript_->Ï,wpAny_notIn_heap->ð,slot_str_getitem->ñ,joinParts_consE->ÿ,get?_update_seq->Ā,entry_list_sort->ā,call_isinstance_yes->Ă,tail_any->ĕ,slot_list_sort->Ė,slicePart_none->ė,joinParts_cons->Ę,isTrue_and_nil->ę,args_list_sort->Ě
open PySem.Builtin.Tuple renaming tupleHashOf->JN,tupleExact->OE,tupleItemsOf->Q4
open PySem.Heap.SameBut renaming update->KA,refl->X4
open PySem.Around renaming under_plainId->KH
open PySem.Builtin.Str renaming occurrences->KI,partsBetween->OQ,strKind->Xv
open PySem.Builtin.SmallTypes renaming nextOf->KX
open Int renaming toNat_natCast->Lv,toNat_of_nonneg->Nr,emod_lt_of_pos->Sf,eq_ofNat_of_zero_le->Te,zero_add->Tw,emod_nonneg->Tx,natCast_add->Â
open PySem.NameKind renaming free->L4,cell->L6
open PySem.Builtin.List renaming listTooLong->MG,listExtendWith->NC,listFitsIndex->U8,listSameRef->Vk,listLengthHint->ü
open PySem.Calls renaming evalArgs_plain->MM,spliced_cons->NM,callWith_builtin->NP,spliced_nil->Qk,Name_function_global->Xn,call_function_entry->Xu
open PySem.SetTable renaming below->M9,grown->Rv,sizeAbove->Yx,orStandIn->Yy,layClean->YM,relaid->Y6,laid->Zu
open False renaming elim->NT
open PySem.Builtin.Slice renaming slicePlaces->N8,sliceAdjust->Rn,sliceApplied->UP,slicePartIndex->í,sliceFields->î
open PyProof.Rows.F renaming plain_set_update_loop->Ob,entry_set_update_loop->Sv
open PySem.W renaming kas_sort->OP,kas_ask->ß
open LT renaming lt->OT
open PySem.AutoSeq1 renaming wpAny_loadPart'->Pa,sub_tuple_tuple->Wk,sub_tuple_list->Xr,sub_list_tuple->Xs,sub_list_list->Xw,idx_int->YW
open List.cons renaming injEq->Ph
open ForInStep renaming yield->Pt
open PySem.PyData renaming keyHash->Qf,leavesShort->RY,showable->S8,depth->U4,bulk->Vr,shown_fits_bulk->Yi,leavesShortAll->Yt,showableAll->YV,hasDictAll->Y8,depthAll->Zv,hasDict->ZG,bulkAll->ZH
open PySem.Shared renaming TypeIs->Sg
open Prod renaming ext->SO,fst->À
open PySem.SeqAt renaming EqAt->S7,ne_of_list_tuple->Ys,RcAt->Y7,RcNeAt->Ë
open PyProof.Rows.LSm renaming kept_iter->TL,range_any->Z_,range_all->Z'
open PySem.Walks renaming list->UN
open True renaming intro->U3
open Sum.inr renaming inj->Vd
open PySem.F renaming args_str_split_2->VE,entry_str_split->We,slot_str_split->Xm,excBase_ValueError->Zy,args_list_extend_2->Zz,entry_list_extend->ZJ,slot_list_extend->ZW
open PySem.Builtin.Dict renaming updateFrom->VI,selfAndRest->ý,pairItems->þ
open Classical renaming byContradiction->V5
open PySem.pickOrder renaming go->W2
open PySem.SetTable.below renaming go->Xl
open PyProof.Rows.IsTup renaming new->Yj
open List.Perm renaming cons_inv->Yu
open PySem.Heap.DictOf renaming new->Yz
open ToString renaming toString->YE
open Function renaming comp_def->YS
open PySem.StrLaws renaming strSub_toList->Y5
open PySem.Code renaming quiet_builtin->Zj
open LawfulBEq renaming eq_of_beq->Zm
open PySem.Data renaming cell->ZK,fields->ì
open Prod.mk renaming injEq->ZL
open PySem.Builtin.Frozenset renaming updateFrom->ZX,slot0->ZY,sizeOf->ZZ,newClass->Z0,addrOf->Z1
open LE renaming le->Z6
open PySem.W.WShape renaming has->à
open PySem.Heap.IsSliceOf renaming new->ã
open PySem.Builtin.Range renaming rangeSize->ï
open List.Pairwise renaming of_map->ó,nil->ô,map->õ,and->ö
open PySem.W.WData renaming int->ú
open PySem.Heap.DictOfH renaming new->û
open PySem.W.Looks renaming ld->ē
open PySem.Flow renaming next->Ĕ
open ForIn renaming forIn->ě
abbrev Ĝ:=@decide_eq_true_eq
abbrev ĝ:=@if_pos
abbrev Ğ:=@decide_eq_false
abbrev ğ:=@if_neg
abbrev Ġ:=@decide_eq_true
abbrev ġ:=@congrArg
abbrev Ģ:=@of_decide_eq_true
abbrev ģ:=@beq_eq_false_iff_ne
abbrev Ĥ:=@if_false
abbrev ĥ:=@if_true
local macro_rules|`(def $a:declId $b* : $t :=$v)=>`(theorem $a:declId $b* : $t :=$v)
local macro_rules|`(abbrev $a:declId $b:optDeclSig $c:declVal)=>`(noncomputable def $a:declId $b:optDeclSig $c:declVal)
local macro_rules|`(tactic|show $t)=>`(tactic|refine $t)
local macro_rules|`(tactic|have⟨$a,*⟩:=$t)=>do let p<-a.getElems.mapM fun x=>`(Lean.Parser.Tactic.rcasesPatLo|$(⟨x⟩):ident);`(tactic|obtain⟨$p,*⟩:=$t)
local macro_rules|`(⋯)=>`(by lia)
namespace L2
open PySem PySem.Spec PyProof.Rows
@[reducible]def Key:=Sum Int Str
abbrev kW:Key->d4->Bool
 |.inl k,v=>á k v
 |.inr x,v=>Md x v
abbrev G6(w:Ie):Key->Int
 |.inl k=>hashInt k
 |.inr x=>hashStr w x
theorem bz:∀{k:Key}{v:d4},kW k v=cb->(∃i t,k=Vm i/\v=Zt i t)\/(∃x t,k=oa x/\v=H_ x t)
 |.inl i,v,h=>by
  have⟨t,e⟩:=Value.isInt_shape (k:=i) (v:=v) h;show .inl ⟨i,t,rfl,e⟩
 |.inr x,v,h=>by
  have⟨t,e⟩:=YU (x:=x) (v:=v) h;show .inr ⟨x,t,rfl,e⟩
def vZ(i:Int)(t:Tok):kW (.inl i) (.int i t)=cb:=by simp[kW,á]
def v5(x:Str)(t:Tok):kW (.inr x) (.str x t)=cb:=by simp[kW,Md]
def C0(a b:Int):df ((Vm a:Key)=Vm b)=(a==b):=by
 by_cases e:a=b
 .subst e;simp
 .have h:¬(Vm a:Key)=Vm b:=λq=>e (Sum.inl.inj q);rw[Ğ h];show(ģ.mpr e).symm
def C2(a b:Str):df ((oa a:Key)=oa b)=df (a=b):=by
 by_cases e:a=b
 .subst e;simp
 .have h:¬(oa a:Key)=oa b:=λq=>e (Vd q);rw[Ğ h,Ğ e]
def C3(a:Int)(b:Str):df ((Vm a:Key)=oa b)=cc:=Ğ (λq=>nomatch q)
def C4(a:Str)(b:Int):df ((oa a:Key)=Vm b)=cc:=Ğ (λq=>nomatch q)
abbrev aT(prog:w6)(w:Ie):PySem.KeyKind prog w Key where
 is:=kW
 hash:=G6 w
 inj:=λv a b g f=>by
  rcases bz g with⟨i,t,rfl,rfl⟩|⟨x,t,rfl,rfl⟩
  .rcases bz f with⟨j,u,rfl,e⟩|⟨y,u,rfl,e⟩
   .injection e with c _;rw[c]
   .show nomatch e
  .rcases bz f with⟨j,u,rfl,e⟩|⟨y,u,rfl,e⟩
   .show nomatch e
   .injection e with c _;rw[c]
 byValue:=λk v h=>by
  rcases bz h with⟨i,t,rfl,rfl⟩|⟨x,t,rfl,rfl⟩<;>rfl
 pyHash:=λd h=>by
  rcases bz d with⟨i,t,rfl,rfl⟩|⟨x,t,rfl,rfl⟩
  .show wpAny_pyHash_int h
  .show wpAny_pyHash_str h
 eqBool:=λl d h=>by
  rcases bz l with⟨i,t,rfl,rfl⟩|⟨x,t,rfl,rfl⟩
  .rcases bz d with⟨j,u,rfl,rfl⟩|⟨y,u,rfl,rfl⟩
   .rw[C0]at h;show ç h
   .rw[C3]at h;show SeqAt.EqAt.int_str i t y u _ _ _ _ h
  .rcases bz d with⟨j,u,rfl,rfl⟩|⟨y,u,rfl,rfl⟩
   .rw[C4]at h;show SeqAt.EqAt.str_int x t j u _ _ _ _ h
   .rw[C2]at h;show æ h
 «strs»:=λk x t v h=>by
  rcases bz h with⟨i,u,rfl,e⟩|⟨y,u,rfl,e⟩
  .show nomatch e
  .injection e with c _
   subst c;cases v<;>rfl
def qh(prog:w6)(w:Ie)(i:Int)(t:Tok):(aT prog w).is (.inl i) (.int i t)=cb:=vZ i t
def qi(prog:w6)(w:Ie)(x:Str)(t:Tok):(aT prog w).is (.inr x) (.str x t)=cb:=v5 x t
inductive V where
 |HX|bl (b:Bool)|int (i:Int)|str (x:Str)|P6 (b:Array UInt8)|P7 (b:UInt64)|ref (a:eW)|ty (n:String)
 deriving DecidableEq
def RelV:V->d4->Prop
 |.HX,u=>u=rz
 |.bl b,u=>u=NJ b
 |.int i,u=>∃t,u=Zt i t
 |.str x,u=>∃t,u=H_ x t
 |.P6 b,u=>∃t,u=Value.bytes b t
 |.P7 b,u=>∃t,u=Value.float b t
 |.ref a,u=>u=mh a
 |.ty n,u=>u=y1 n
@[reducible]def Vals:List V->List d4->Prop:=Paired RelV
def Vals.length(r:Vals xs us):xs.length=us.length:=Paired.length r
theorem Vals.get:∀{xs:List V}{us:List d4}{i:Nat}{x:V},Vals xs us->xs[i]?=bD x->∃u,us[i]?=bD u/\RelV x u
 |_,_,_,_,.nil,e=>by simp at e
 |_,_,0,_,.cons r _,e=>by simp at e;subst e;show⟨_,rfl,r⟩
 |_,_,i+1,x,.cons _ t,e=>by
  have⟨u,a,b⟩:=Vals.get (i:=i) (x:=x) t (by simpa using e);show⟨u,by simpa using a,b⟩
theorem Vals.set(r:RelV x u):∀{xs:List V}{us:List d4} (i:Nat),Vals xs us->Vals (xs.set i x) (us.set i u)
 |_,_,_,.nil=>.nil
 |_,_,0,.cons _ t=>.cons r t
 |_,_,i+1,.cons q t=>.cons q (Vals.set r i t)
theorem Vals.append:∀{xs a:List V}{us ws:List d4},Vals xs us->Vals a ws->Vals (xs++a) (us++ws)
 |_,_,_,_,.nil,s=>s
 |_,_,_,_,.cons r t,s=>.cons r (Vals.append t s)
theorem Vals.take:∀{xs:List V}{us:List d4} (n:Nat),Vals xs us->Vals (xs.take n) (us.take n)
 |_,_,0,_=>.nil
 |_,_,_+1,.nil=>.nil
 |_,_,n+1,.cons r t=>.cons r (Vals.take n t)
theorem Vals.drop:∀{xs:List V}{us:List d4} (n:Nat),Vals xs us->Vals (xs.drop n) (us.drop n)
 |_,_,0,r=>r
 |_,_,_+1,.nil=>.nil
 |_,_,n+1,.cons _ t=>Vals.drop n t
def kA:Option V->Option d4->Prop
 |some v,bD u=>RelV v u
 |none,b7=>True
 |_,_=>False
abbrev KV{κ:Type}:List (κ×V)->List (κ×d4)->Prop:=Paired λ(p:κ×V) (q:κ×d4)=>p.1=q.1/\RelV p.2 q.2
abbrev kV:Key->V
 |.inl i=>.int i
 |.inr x=>.str x
inductive HO where
 |lst (xs:List V)
 |tup (xs:List V)
 |dK (kvs:List (Key×V))|dT (kvs:List (List Key×V))
 |set (S:Int->Bool) (n:Nat)
 |ins (C dx:eW) (fs:List (Str×V))
 |own (x:eW)
 |xd (fs:List (Str×V))
 |met (f x:eW)
 |P8 (lo hi:Int)
 |KG (o:Obj) (u:HO)
 |MK (ps:Array d4)
 |ext (φ:Ks->Prop)
@[reducible]def Hp:=eW->Option HO
abbrev upd(H:Hp)(a:eW)(o:HO):Hp:=λb=>if b=a then bD o else H b
def aA:upd H a o a=bD o:=by unfold upd;rw[ĝ rfl]
def ay(h:b≠a):upd H a o b=H b:=by unfold upd;rw[ğ h]
def xK{H:Hp}(h:H a=bD o)(h':H b=bD u)(d:o≠u):a≠b:=by
 intro e;subst e;rw[h]at h';show d (wk h')
def bJ{H:Hp}(h:H a=bD o)(h':H b=b7):a≠b:=by
 intro e;subst e;rw[h]at h';cases h'
section
variable(P:w6)(w:Ie)
def bP(H:Hp)(h:Ks)(a:eW):HO->Prop
 |.lst xs=>xs.length<=c4/\∃(its:List d4) (n:Nat),Vals xs its/\h.get? a=bD {cls:=.type "list",data:=.seq its.toArray n}
 |.tup xs=>xs.length<=c4/\∃its:List d4,Vals xs its/\Z3 h a its.toArray
 |.dK kvs=>kvs.length<=c4/\(a==JP)=cc/\∃vs,KV kvs vs/\h.DictOf (aT P w) a vs
 |.dT kvs=>kvs.length<=c4/\(a==JP)=cc/\∃xs:List (List Key×eW×d4),
   Paired (λ(p:List Key×V) (q:List Key×eW×d4)=>p.1=q.1/\H q.2.1=bD (.tup (p.1.map kV))/\RelV p.2 q.2.2) kvs xs /\
   ∃o es ep,h.get? a=bD o/\o.ExactDict/\o.data=.dict es ep/\es.toList=xs.map (entryOfKey (Ve (aT P w)))/\(xs.map (·.1)).Nodup
 |.set S n=>h.SetOf (intKind P w) a S n
 |.ins C d c=>H d=bD (.own a)/\c.length<=1000/\d≠a/\h.get? a=bD (PySem.W.instObj C d) /\
   ∃b,h.Ns1 d b/\(∀f,kA (c.lookup f) (b f))/\PySem.Within b (c.map (·.1))
 |.own _=>∃o,h.get? a=bD o
 |.xd c=>∃b,h.Ns1 a b/\∀f,kA (c.lookup f) (b f)
 |.P8 lo i=>∃t u v,h.get? a=bD {cls:=.type "range",data:=.fields #[.int lo t,.int i u,.int 1 v]}
 |.KG o u=>h.get? a=bD o/\bP H h a u
 |.MK ps=>h.get? a=bD {cls:=.none,data:=.fields ps}
 |.met f x=>h.get? a=bD (PySem.W.methodObj (.ref f) (.ref x))
 |.ext φ=>φ h/\(∃o,h.get? a=bD o)/\∀e g:Ks,φ e->(∀o,e.get? a=bD o->g.get? a=bD o)->φ g
abbrev IX(H:Hp)(h:Ks):Prop:=∀a o,H a=bD o->bP P w H h a o
end
section
def bP.lt(x:bP P w H h a o):a<h.objs.size:=by
 cases o with
 |lst xs=>obtain⟨_,_,_,_,e⟩:=x;show hH e
 |tup xs=>obtain⟨_,_,_,p⟩:=x;show p.lt
 |set S n=>obtain⟨o,_,_,_,e,_⟩:=x;show hH e
 |ins C c b=>obtain⟨_,_,_,e,_⟩:=x;show hH e
 |own y=>obtain⟨_,e⟩:=x;show hH e
 |xd b=>obtain⟨_,⟨_,_,_,e,_⟩,_⟩:=x;show hH e
 |P8 lo d=>obtain⟨_,_,_,e⟩:=x;show hH e
 |KG g u=>obtain⟨e,_⟩:=x;show hH e
 |MK ps=>show hH (show h.get? a=bD _ from x)
 |met f y=>show hH (show h.get? a=bD _ from x)
 |ext φ=>obtain⟨_,⟨_,e⟩,_⟩:=x;show hH e
 |_=>obtain⟨_,_,_,_,o,_,_,e,_⟩:=x;show hH e
theorem Paired.C5:∀{c:List α}{d:List β},Paired F c d->(∀a b,F a b->G a b)->Paired G c d
 |_,_,.nil,_=>.nil
 |_,_,.cons r t,f=>.cons (f _ _ r) (Paired.C5 t f)
def bP.jA(x:bP P w H h a o)(k:∀b u,(b=a\/H b=bD (.own a))->h.get? b=bD u->h'.get? b=bD u)
  (ho:∀b,H b=bD (.own a)->H' b=bD (.own a)) (l:∀b xs,H b=bD (.tup xs)->H' b=bD (.tup xs)):bP P w H' h' a o:=by
 induction o with
 |lst xs=>have⟨z,its,n,r,e⟩:=x;show⟨z,its,n,r,k _ _ (.inl rfl) e⟩
 |tup xs=>have⟨z,its,r,g,e,c⟩:=x;show⟨z,its,r,g,k _ _ (.inl rfl) e,c⟩
 |dK kvs=>have⟨z,y,vs,r,g,es,ep,e,c⟩:=x;show⟨z,y,vs,r,g,es,ep,k _ _ (.inl rfl) e,c⟩
 |dT kvs =>
  have⟨z,y,xs,r,g,es,ep,e,c⟩:=x;show⟨z,y,xs,Paired.C5 r λp q z=>⟨z.1,l _ _ z.2.1,z.2.2⟩,g,es,ep,k _ _ (.inl rfl) e,c⟩
 |set S n=>have⟨g,es,ep,t,e,c⟩:=x;show⟨g,es,ep,t,k _ _ (.inl rfl) e,c⟩
 |ins C D m =>
  obtain⟨d,z,s,e,i,⟨j,es,ep,A,c⟩,r⟩:=x;show⟨ho _ d,z,s,k _ _ (.inl rfl) e,i,⟨j,es,ep,k _ _ (.inr d) A,c⟩,r⟩
 |own y=>have⟨g,e⟩:=x;show⟨g,k _ _ (.inl rfl) e⟩
 |xd m=>obtain⟨i,⟨j,es,ep,e,c⟩,r⟩:=x;show⟨i,⟨j,es,ep,k _ _ (.inl rfl) e,c⟩,r⟩
 |P8 lo G=>have⟨t,u,v,e⟩:=x;show⟨t,u,v,k _ _ (.inl rfl) e⟩
 |KG g u B=>have⟨e,q⟩:=x;show⟨k _ _ (.inl rfl) e,B q⟩
 |MK ps =>
  have e:h.get? a=bD {cls:=.none,data:=.fields ps}:=x;change h'.get? a=bD {cls:=.none,data:=.fields ps};show k a _ (.inl rfl) e
 |met f y =>
  have e:h.get? a=bD (PySem.W.methodObj (.ref f) (.ref y)):=x;change h'.get? a=bD (PySem.W.methodObj (.ref f) (.ref y));show k a _ (.inl rfl) e
 |ext φ=>obtain⟨p,⟨o,e⟩,st⟩:=x;show⟨st _ _ p λo q=>k _ _ (.inl rfl) q,⟨o,k _ _ (.inl rfl) e⟩,st⟩
def IX.lt(x:IX P w H h)(e:H a=bD o):a<h.objs.size:=(x a o e).lt
def IX.fresh(x:IX P w H h)(e:h.objs.size<=a):H a=b7:=by
 cases q:H a with
 |none=>rfl
 |some u=>show absurd (mf (x.lt q) e) (H8 _)
def IX.kept(x:IX P w H h)(k:∀b u,h.get? b=bD u->h'.get? b=bD u):IX P w H h':=λa o e =>
 (x a o e).jA (λb u _ q=>k b u q) (λ_ q=>q) λ_ _ q=>q
def IX.laid(x:IX P w H h)(k:∀b u,h.get? b=bD u->h'.get? b=bD u)(g:h.objs.size<=a)(new:bP P w (upd H a o) h' a o):IX P w (upd H a o) h':=λb u e=>by
 have d:=x.fresh g;by_cases f:b=a
 .subst f;rw[aA]at e;cases e;show new
 .rw[ay f]at e;show(x b u e).jA (λc v _ q=>k c v q) (λc q=>by rw[ay (bJ q d)];show q) λc xs q=>by rw[ay (bJ q d)];show q
end
abbrev Rd(H:Hp)(a:eW)(u:HO):Prop:=H a=bD u\/∃o,H a=bD (.KG o u)
def Rd.ok(r:Rd H a u)(x:IX P w H h):bP P w H h a u:=by
 rcases r with r|⟨o,r⟩
 .show x a u r
 .obtain⟨_,q⟩:=x a _ r;show q
def OB:Option HO->Prop
 |some (.lst _)=>True
 |some (.dK _)=>True
 |some (.dT _)=>True
 |some (.set _ _)=>True
 |some (.ins _ _ _)=>True
 |some (.ext _)=>True
 |_=>False
section
def IX.write(m:IX P w H h)(a:OB (H x))(g:e=x\/H e=bD (.own x))(k:∀b u,b≠e->h.get? b=bD u->h'.get? b=bD u)(n:∃u,h'.get? e=bD u)
  (new:bP P w (upd H x i) h' x i):IX P w (upd H x i) h':=λb u q=>by
 have j:∀c y,H c=bD (.own y)->c≠x:=λc y r z=>by subst z;rw[r]at a;show a
 have o:∀c xs,H c=bD (.tup xs)->c≠x:=λc xs r z=>by subst z;rw[r]at a;show a
 by_cases d:b=x
 .subst d;rw[aA]at q;cases q;show new
 .rw[ay d]at q;by_cases f:b=e
  .have l:H b=bD (.own x):=by
    rcases g with z|z
    .show absurd (f.trans z) d
    .rw[f];show z
   rw[q]at l;cases l;have⟨v,p⟩:=n;show⟨v,by rw[f];show p⟩
  .show(m b u q).jA (λc v hc r=>k c v ?_ r) (λc r=>by rw[ay (j c b r)];show r) λc xs r=>by rw[ay (o c xs r)];show r
   rcases hc with rfl|hc
   .show f
   .rintro rfl;rcases g with z|z
    .show j c b hc z
    .rw[hc]at z;cases z;show d rfl
end
structure Un(fs ex:List eW)(H H':Hp)(h h':Ks):Prop where
 keep:∀b o,h.get? b=bD o->H b=b7->b∉fs->b∉ex->h'.get? b=bD o
 slot:∀b o,h.get? b=bD o->H b=b7->b∈fs->b∉ex->∃sl,h'.get? b=bD {o with slots:=sl}
 free:∀b o,h.get? b=bD o->H b=b7->b∉ex->H' b=b7
 there:∀b o,h.get? b=bD o->b∉ex->∃o',h'.get? b=bD o'
 gZ:∀b xs,H b=bD (.tup xs)->H' b=bD (.tup xs)
 IZ:∀b o u,H b=bD (.KG o u)->H' b=bD (.KG o u)
 Jj:∀b ps,H b=bD (.MK ps)->∃more,H' b=bD (.MK (ps++more))
section
def Un.any(u:Un e ex H i h f)(q:h.get? b=bD a)(n:H b=b7)(c:b∉ex):∃g,f.get? b=bD {a with slots:=g}:=by
 by_cases d:b∈e
 .show u.slot b a q n d c
 .show⟨a.slots,u.keep b a q n d c⟩
def Un.kept(k:∀b u,h.get? b=bD u->h'.get? b=bD u):Un c ex H H h h' :=
 ⟨λb a q _ _ _=>k b a q,λb a q _ _ _=>⟨a.slots,k b a q⟩,λ_ _ _ n _=>n,λb a q _=>⟨a,k b a q⟩,λ_ _ q=>q,λ_ _ _ q=>q,λ_ ps q=>⟨#[],by rw[q];simp⟩⟩
def Un.refl:Un a ex H H h h:=Un.kept λ_ _ q=>q
def Un.laid(k:∀b u,h.get? b=bD u->h'.get? b=bD u)(d:h.objs.size<=a)(c:H a=b7):Un e ex H (upd H a o) h h' where
 keep:=λb u q _ _ _=>k b u q
 slot:=λb u q _ _ _=>⟨u.slots,k b u q⟩
 free:=λb u q n _=>by rw[ay (ki (mf (hH q) d))];show n
 there:=λb u q _=>⟨u,k b u q⟩
 gZ:=λb xs q=>by rw[ay (bJ q c)];show q
 IZ:=λb u xs q=>by rw[ay (bJ q c)];show q
 Jj:=λb ps q=>⟨#[],by rw[ay (bJ q c),q];simp⟩
def Un.write(a:OB (H x))(i:e=x\/H e=bD (.own x))(k:∀b u,b≠e->h.get? b=bD u->h'.get? b=bD u)(j:∃u,h'.get? e=bD u):Un l ex H (upd H x o) h h':=by
 have d:∀b,H b=b7->b≠x:=λb n z=>by subst z;rw[n]at a;show a
 have f:∀b,H b=b7->b≠e:=λb n z=>by
  subst z;rcases i with r|r
  .show d b n r
  .rw[n]at r;cases r
 have c:∀b u,H b=bD u->¬OB (bD u)->b≠x:=λb u q nm z=>by subst z;rw[q]at a;show nm a
 show⟨λb u q n _ _=>k b u (f b n) q,λb u q n _ _=>⟨u.slots,k b u (f b n) q⟩,λb u q n _=>by rw[ay (d b n)];show n,λb u q _=>?_,
  λb xs q=>by rw[ay (c b _ q λz=>z)];show q,λb u xs q=>by rw[ay (c b _ q λz=>z)];show q,λb ps q=>⟨#[],by rw[ay (c b _ q λz=>z),q];simp⟩⟩
 by_cases g:b=e
 .subst g;show j
 .show⟨u,k b u g q⟩
end
abbrev P9(h:Ks)(H:Hp):List eW:=(js h.objs.size).filter λa=>(H a).isSome
abbrev oI(h:Ks)(H:Hp):Ks:=PySem.W.hideAll h (P9 h H)
def v7(h:Ks)(H:Hp):(oI h H).objs.size=h.objs.size:=PySem.W.hideAll_size _ _
def xM(e:h.get? b=bD o)(n:H b=b7):(oI h H).get? b=bD o :=
 PySem.W.hideAll_get _ e λa=>by
  have q:(H b).isSome=cb:=(K'.mp a).2;rw[n]at q;simp at q
def Av(e:(oI h H).get? b=bD o):h.get? b=bD o/\H b=b7:=by
 have a:h.get? b=bD o:=PySem.W.of_hideAll (P9 h H) e;show⟨a,?_⟩;cases q:H b with
 |none=>rfl
 |some x =>
  have c:b∈P9 h H:=K'.mpr ⟨wh.mpr (hH a),by simp[q]⟩;have z:(oI h H).get? b=b7:=PySem.W.hideAll_none (P9 h H) c;rw[z]at e;cases e
structure Mod(K:PySem.W.Frag)(mg:Str->Option d4)(base:Ks):Prop where
 N2:K.In base
 glob:base.Ns ro mg
 blt:∃mb,base.Ns Ui mb/\∀x:Str,x≠"__name__"->mb x=JM x
 nolimit:base.NoLimit
structure Cx where
 prog:w6
 w:Ie
 K:PySem.W.Frag
 mg:Str->Option d4
 base:Ks
 A:OM
 N:List Str
 s₀:hY
 H₀:Hp
 env:Env
 outer:List Env
 stack:List Env
 ex:List eW
 fn:Str->Bool
 calm:Bool
 pn:List (eW×Obj)
 xe:d4->hY->Prop
abbrev IG(l:List Env):List eW:=l.filterMap (·.frame)
noncomputable abbrev Cx.fs(X:Cx):List eW:=IG X.outer
abbrev J0(a:Nj)(x:Str):Prop:=a.names.lookup x=bD .local\/a.names.lookup x=bD .cell\/a.names.lookup x=bD .free
abbrev Loc(a:Nj)(x:Str):Prop:=a.names.lookup x=bD .local\/a.names.lookup x=bD .cell
abbrev Look(env:Env)(h:Ks)(m:Str->Option d4)(x:Str)(u:d4):Prop :=
 (env.kindOf x=bD .local/\m x=bD u)\/((env.kindOf x=bD .cell\/env.kindOf x=bD .free)/\∃c,env.cells.lookup x=bD c/\h.IsCell c (bD u))
structure Cx.Ok(X:Cx):Prop where
 mod:Mod X.K X.mg X.base
 kind:X.env.scope.kind=.function
 glob:X.env.globals=ro
 blt:X.env.builtins=Ui
 above:X.s₀.heap.objs.size<=X.env.locals
 inj:∀x y c,X.env.cells.lookup x=bD c->X.env.cells.lookup y=bD c->x=y
 has:∀x,(X.env.kindOf x=bD .cell\/X.env.kindOf x=bD .free)->∃c,X.env.cells.lookup x=bD c
 N3:∀x c,X.fn x=cb->X.env.cells.lookup x=bD c->X.s₀.heap.objs.size<=c
 hd:X.calm=cb->X.A.handled=b7
 frames:X.A.frames=bD X.stack
 OD:X.stack=X.outer\/(X.stack=X.env::X.outer/\X.env.frame=bD X.env.locals)
 QT:∀b∈X.ex,b≠X.env.locals/\∀x c,X.env.cells.lookup x=bD c->c≠b
 bs:∀b o,X.base.get? b=bD o->X.s₀.heap.get? b=bD o/\X.H₀ b=b7
 Mg:X.base.objs.size<=X.s₀.heap.objs.size
 K4:∀b o,X.base.get? b=bD o->b∉X.ex
 Lr:∀b∈X.ex,b∉X.fs
 kB:X.s₀.heap.FunFrames X.base X.outer
 M_:∀b∈X.fs,X.H₀ b=b7
structure Inv(X:Cx)(pins:List (eW×Obj))(σ:List (Option V))(H:Hp)(s:hY):Prop where
 ok:X.Ok
 os:s.os=X.s₀.os
 bare:Tf s.gens
 base:Un X.fs X.ex X.H₀ H X.s₀.heap s.heap
 loc:∃m,s.heap.Ns X.env.locals m/\∀(i:Nat) (x:Str) (v:V),X.N[i]?=bD x->σ[i]?=bD (bD v)->J0 X.env.scope x->∃u,RelV v u/\Look X.env s.heap m x u
 cell:∀x c,X.env.cells.lookup x=bD c->∃v,s.heap.IsCell c v
 free:H X.env.locals=b7
 Iq:∀x c,X.env.cells.lookup x=bD c->H c=b7
 pin:∀p∈X.pn++pins,s.heap.get? p.1=bD p.2/\H p.1=b7/\p.1≠X.env.locals/\p.1∉X.fs/\∀v,p.2.data≠.cell v
 HN:IX X.prog X.w H s.heap
 len:σ.length=X.N.length
section
variable{X:Cx}{pins:List (eW×Obj)}{σ:List (Option V)}{H H':Hp}{s:hY}{h':Ks}
def Cx.Ok.G7(a:X.Ok)(e:X.base.get? b=bD o):b∉X.fs:=λc=>by
 have:=(a.kB.mem c).1;rw[e]at this;cases this
def Inv.bs(I:Inv X pins σ H s):∀b o,X.base.get? b=bD o->s.heap.get? b=bD o/\H b=b7:=λb o e =>
 ⟨I.base.keep b o (I.ok.bs b o e).1 (I.ok.bs b o e).2 (I.ok.G7 e) (I.ok.K4 b o e),I.base.free b o (I.ok.bs b o e).1 (I.ok.bs b o e).2 (I.ok.K4 b o e)⟩
def Inv.bk(I:Inv X pins σ H s):∀b o,X.base.get? b=bD o->s.heap.get? b=bD o:=λb o e=>(I.bs b o e).1
def Inv.mod(I:Inv X pins σ H s):Mod X.K X.mg X.base:=I.ok.mod
def Inv.L0(I:Inv X pins σ H s):X.K.In s.heap:=I.ok.mod.N2.keeps I.bk
def Inv.lt(I:Inv X pins σ H s):X.env.locals<s.heap.objs.size:=let ⟨_,a,_⟩:=I.loc;a.lt
def Inv.sz(I:Inv X pins σ H s):X.s₀.heap.objs.size<=s.heap.objs.size:=ve I.ok.above (M3 I.lt)
def Inv.E_(I:Inv X pins σ H s)(h:s.heap.objs.size<=a):a∉X.fs:=λb=>by
 obtain⟨_,o,ho,_⟩:=I.ok.kB.mem b;show absurd (mf (hH ho) (ve I.sz h)) (H8 _)
def Inv.Ls(I:Inv X pins σ H s):∀x c,X.env.cells.lookup x=bD c->c≠X.env.locals:=λx c e z=>by
 have⟨v,o,ho,a⟩:=I.cell x c e;obtain⟨m,⟨f,es,ep,b,d,_⟩,_⟩:=I.loc;rw[z,b]at ho;cases ho;rw[d]at a;cases a
def Inv.kB(I:Inv X pins σ H s):s.heap.FunFrames X.base X.outer:=by
 have all:∀(l:List Env),(∀b∈IG l,b∈X.fs)->X.s₀.heap.FunFrames X.base l->s.heap.FunFrames X.base l:=by
  intro l;induction l with
  |nil=>intro _ _;trivial
  |cons env r f =>
   intro hs hl;obtain⟨hk,⟨L,o,a,g,ho,h⟩,i⟩:=hl;have c:L∈X.fs:=hs L (by unfold IG;rw[JS,a];show lg);have⟨j,e⟩:=I.base.slot L o ho (I.ok.M_ L c) c λz=>I.ok.Lr L z c;show⟨hk,⟨L,_,a,g,e,h⟩,f (λb d=>hs b (by unfold IG;rw[JS,a];show kj _ d)) i⟩
 show all X.outer (λ_ d=>d) I.ok.kB
def Inv.stack(I:Inv X pins σ H s):s.heap.FunFrames X.base X.stack:=by
 rcases I.ok.OD with e|⟨e,a⟩
 .rw[e];show I.kB
 .rw[e];obtain⟨m,b,_⟩:=I.loc;show .cons (by rw[I.ok.kind];decide) a b ?_ I.kB;show Heap.get?_none_of_le (ve I.ok.Mg I.ok.above)
def Inv.kX(I:Inv X pins σ H s):∀b∈IG X.stack,b∈X.env.locals::X.fs:=λb a=>by
 rcases I.ok.OD with e|⟨e,c⟩
 .rw[e]at a;show kj _ a
 .rw[e]at a;unfold IG at a;rw[JS,c]at a;show a
def Inv.kK(I:Inv X pins σ H s):∀b∈IG X.stack,H b=b7:=λb hb=>by
 rcases d6.mp (I.kX b hb) with e|hb
 .rw[e];show I.free
 .obtain⟨_,o,ho,_⟩:=I.ok.kB.mem hb;show I.base.free b o ho (I.ok.M_ b hb) λz=>I.ok.Lr b z hb
def Inv.step{ch:List eW}(I:Inv X pins σ H s)
  (j:∀b∈ch,(b∈X.ex\/X.s₀.heap.objs.size<=b)/\b≠X.env.locals/\(∀x c,X.env.cells.lookup x=bD c->c≠b)/\∀p∈X.pn++pins,p.1≠b)
  (keep:∀b o,b≠X.env.locals->b∉X.fs->b∉ch->s.heap.get? b=bD o->H b=b7->h'.get? b=bD o)
  (slot:∀b o,b≠X.env.locals->b∈X.fs->b∉ch->s.heap.get? b=bD o->H b=b7->∃D,h'.get? b=bD {o with slots:=D}) (free:∀b o,b∉ch->s.heap.get? b=bD o->H b=b7->H' b=b7)
  (there:∀b o,b∉ch->s.heap.get? b=bD o->∃t,h'.get? b=bD t)
  (gZ:∀b xs,H b=bD (.tup xs)->H' b=bD (.tup xs)) (IZ:∀b o u,H b=bD (.KG o u)->H' b=bD (.KG o u)) (Jj:∀b ps,H b=bD (.MK ps)->∃y,H' b=bD (.MK (ps++y)))
  (ns:∀m,s.heap.Ns X.env.locals m->h'.Ns X.env.locals m) (Q:IX X.prog X.w H' h') (T:Tf g') :
  Inv X pins σ H' {s with heap:=h',gens:=g',drawn:=d',toks:=t' }:=by
 have J:∀b o,X.s₀.heap.get? b=bD o->b≠X.env.locals:=λb o e=>ki (mf (hH e) I.ok.above);have C:∀b o,X.s₀.heap.get? b=bD o->b∉X.ex->b∉ch:=λb o e a h=>by
  rcases(j b h).1 with z|z
  .show a z
  .show absurd (mf (hH e) z) (H8 _)
 have f:∀x c,X.env.cells.lookup x=bD c->∀v,s.heap.IsCell c v->h'.IsCell c v:=λx c e v Y=>by
  have⟨o,ho,G⟩:=Y;have A:c∉ch:=λz=>(j c z).2.2.1 x c e rfl;by_cases L:c∈X.fs
  .have⟨D,q⟩:=slot c o (I.Ls x c e) L A ho (I.Iq x c e);show⟨_,q,G⟩
  .show⟨o,keep c o (I.Ls x c e) L A ho (I.Iq x c e),G⟩
 show⟨I.ok,I.os,T,⟨λb o e n h a=>?_,λb o e n h a=>?_,λb o e n a=>?_,λb o e a=>?_,λb xs e=>gZ b xs (I.base.gZ b xs e),λb o xs e=>IZ b o xs (I.base.IZ b o xs e),λb ps e=>?_⟩,?_,λx c e=>?_,?_,λx c e=>?_,λp N=>?_,Q,I.len⟩
 .show keep b o (J b o e) h (C b o e a) (I.base.keep b o e n h a) (I.base.free b o e n a)
 .have⟨D,g⟩:=I.base.slot b o e n h a;have⟨N4,B⟩:=slot b _ (J b o e) h (C b o e a) g (I.base.free b o e n a);show⟨N4,B⟩
 .have⟨t,g⟩:=I.base.there b o e a;show free b t (C b o e a) g (I.base.free b o e n a)
 .have⟨t,g⟩:=I.base.there b o e a;show there b t (C b o e a) g
 .have⟨m1,g⟩:=I.base.Jj b ps e;have⟨m2,B⟩:=Jj b _ g;show⟨m1++m2,by rw[B,Zd]⟩
 .have⟨m,hn,hl⟩:=I.loc;show⟨m,ns m hn,λi x v g B e3=>?_⟩;have⟨u,r,l⟩:=hl i x v g B e3;show⟨u,r,?_⟩;rcases l with l|⟨k,c,e,z⟩
  .show .inl l
  .show .inr ⟨k,c,e,f x c e _ z⟩
 .have⟨v,z⟩:=I.cell x c e;show⟨v,f x c e v z⟩
 .obtain⟨m,⟨o,_,_,ho,_⟩,_⟩:=I.loc;show free _ o (λz=>(j _ z).2.1 rfl) ho I.free
 .have⟨v,o,ho,G⟩:=I.cell x c e;show free c o (λz=>(j c z).2.2.1 x c e rfl) ho (I.Iq x c e)
 .have⟨e,n,O,nf,d⟩:=I.pin p N;have A:p.1∉ch:=λz=>(j p.1 z).2.2.2 p N rfl;show⟨keep p.1 p.2 O nf A e n,free p.1 p.2 A e n,O,nf,d⟩
def Inv.un(I:Inv X pins σ H s)(u:Un X.fs [] H H' s.heap h')(d:IX X.prog X.w H' h'):Inv X pins σ H' {s with heap:=h',toks:=t' }:=by
 obtain⟨m,⟨o,es,ep,ho,r⟩,_⟩:=id I.loc;have⟨k,f⟩:=u.any ho I.free (by simp);show I.step (g':=s.gens) (d':=s.drawn) (ch:=[]) (λ_ z=>nomatch z) (λb o _ a _ e n=>u.keep b o e n a (by simp)) (λb o _ a _ e n=>u.slot b o e n a (by simp)) (λb o _ e n=>u.free b o e n (by simp)) (λb o _ e=>u.there b o e (by simp)) u.gZ u.IZ u.Jj (λl g=>by
  have⟨p,h,i,c,j⟩:=g;rw[ho]at c;cases c;show⟨_,h,i,f,j⟩) d I.bare
def Inv.call(I:Inv X pins σ H s)(u:Un (IG X.stack) ch H H' s.heap h')(h:IX X.prog X.w H' h')(i:Tf g')
  (f:∀b∈ch,(b∈X.ex\/X.s₀.heap.objs.size<=b)/\b≠X.env.locals/\(∀x c,X.env.cells.lookup x=bD c->c≠b)/\∀p∈X.pn++pins,p.1≠b) :
  Inv X pins σ H' {s with heap:=h',gens:=g',drawn:=d',toks:=t' }:=by
 obtain⟨m,⟨o,es,ep,ho,r⟩,_⟩:=id I.loc;have⟨v,d⟩:=u.any ho I.free λz=>(f _ z).2.1 rfl;show I.step (ch:=ch) f (λb o d j a e n=>u.keep b o e n (λz=>(d6.mp (I.kX b z)).elim d j) a) (λb o _ _ a e n=>u.any e n a) (λb o a e n=>u.free b o e n a) (λb o a e=>u.there b o e a) u.gZ u.IZ u.Jj (λy k=>by
  have⟨A,l,q,g,t⟩:=k;rw[ho]at g;cases g;show⟨_,l,q,d,t⟩) h i
def Inv.turned(I:Inv X pins σ H s)(k:∀b o,b≠it->s.heap.get? b=bD o->h'.get? b=bD o)(g:H it=b7)(d:it≠X.env.locals)
  (h:it∈X.ex\/X.s₀.heap.objs.size<=it) (i:∀x c,X.env.cells.lookup x=bD c->c≠it) (j:∀p∈X.pn++pins,p.1≠it):Inv X pins σ H {s with heap:=h',toks:=t' }:=by
 have f:∀b u,H b=bD u->b≠it:=λb u e z=>by rw[z,g]at e;cases e
 show I.step (g':=s.gens) (d':=s.drawn) (ch:=[it]) (λb l=>?_) (λb o _ _ a e _=>k b o (λz=>a (by simp[z])) e) (λb o _ _ a e _=>⟨o.slots,k b o (λz=>a (by simp[z])) e⟩) (λ_ _ _ _ n=>n)
  (λb o a e=>⟨o,k b o (λz=>a (by simp[z])) e⟩) (λ_ _ e=>e) (λ_ _ _ e=>e) (λb ps e=>⟨#[],by rw[e];simp⟩) (λm t=>?_) (λb u e=>?_) I.bare
 .have e:b=it:=by simpa using l
  subst e;show⟨h,d,i,j⟩
 .have⟨o,es,ep,ho,r⟩:=t;show⟨o,es,ep,k _ o (uv d) ho,r⟩
 .show(I.HN b u e).jA (λc v a q=>k c v ?_ q) (λ_ q=>q) λ_ _ q=>q;rcases a with z|z
  .rw[z];show f b u e
  .show f c _ z
def Inv.tok(I:Inv X pins σ H s)(t:Nat):Inv X pins σ H {s with toks:=t}:=I.un (h':=s.heap) (t':=t) Un.refl I.HN
def Inv.kept(I:Inv X pins σ H s)(k:∀b u,s.heap.get? b=bD u->h'.get? b=bD u):Inv X pins σ H {s with heap:=h',toks:=t' }:=I.un (Un.kept k) (I.HN.kept k)
def Inv.laid(I:Inv X pins σ H s)(k:∀b u,s.heap.get? b=bD u->h'.get? b=bD u)(c:s.heap.objs.size<=a)(new:bP X.prog X.w (upd H a o) h' a o):
  Inv X pins σ (upd H a o) {s with heap:=h',toks:=t' }:=I.un (Un.laid k c (I.HN.fresh c)) (I.HN.laid k c new)
def Inv.write(I:Inv X pins σ H s)(a:OB (H x))(c:e=x\/H e=bD (.own x))(k:∀b u,b≠e->s.heap.get? b=bD u->h'.get? b=bD u)(d:∃u,h'.get? e=bD u)
  (new:bP X.prog X.w (upd H x o) h' x o):Inv X pins σ (upd H x o) {s with heap:=h',toks:=t' }:=I.un (Un.write a c k d) (I.HN.write a c k d new)
def Inv.weak(I:Inv X pins σ H s)(hl:a.length=σ.length)(w:∀(i:Nat) v,a[i]?=bD (bD v)->σ[i]?=bD (bD v)):Inv X pins a H s :=
 ⟨I.ok,I.os,I.bare,I.base,let ⟨m,b,c⟩:=I.loc;⟨m,b,λi x v d e f=>c i x v d (w i v e) f⟩,I.cell,I.free,I.Iq,I.pin,I.HN,hl.trans I.len⟩
def Inv.gK(I:Inv X pins σ H s)(h:∀p∈a,s.heap.get? p.1=bD p.2/\H p.1=b7/\p.1≠X.env.locals/\p.1∉X.fs/\∀v,p.2.data≠.cell v):Inv X a σ H s :=
 ⟨I.ok,I.os,I.bare,I.base,I.loc,I.cell,I.free,I.Iq,λp b=>(gj.mp b).elim (λz=>I.pin p (tj _ z)) (h p),I.HN,I.len⟩
def iL{N:List Str}(c:N.Nodup){i j:Nat}(a:N[i]?=bD x)(b:N[j]?=bD x):i=j:=by
 have⟨f,d⟩:=et.mp a;have⟨g,e⟩:=et.mp b;show(ZP c).mp (d.trans e.symm)
def nF(I:Inv X pins σ H s)(hN:X.N.Nodup)(D:X.N[i]?=bD x)(l:Loc X.env.scope x)(r:RelV v u)
  (h:∀s',Inv X pins (σ.set i (bD v)) H s'->(∃a,KC a s.heap s'.heap/\(a=X.env.locals\/X.env.cells.lookup x=bD a))->Q () s') (hf:X.fn x=cb\/X.env.scope.names.lookup x=bD .local:=by first|show .inl rfl|show .inr rfl|assumption):eH M A (storeName X.env x u) Q E s:=by
 have⟨m,O,hl⟩:=id I.loc;have M':(X.env.scope.kind==.class||(X.env.scope.kind==.module&&X.env.locals != X.env.globals))=cc:=by rw[I.ok.kind];rfl
 have TN:i < σ.length:=by rw[I.len];show(et.mp D).1
 have T:=I.Ls;have f:∀{a:eW} {h':Ks},(∃o,s.heap.get? a=bD o/\H a=b7)->KC a s.heap h'->IX X.prog X.w H h':=λ{a h'} ha hs b ob e=>by
  obtain⟨_,_,HZ⟩:=ha;show(I.HN b ob e).jA (λc G hc q=>(hs.2 c ?_).trans q) (λ_ q=>q) λ_ _ q=>q;rintro rfl;rcases hc with rfl|hc
  .rw[HZ]at e;cases e
  .rw[HZ]at hc;cases hc
 rcases l with hk|hk
 .show wpAny_storeName_local hk O (λh' Mi hs=>?_) M';obtain⟨oL,_,_,Lu,_⟩:=id O;show h _ ⟨I.ok,I.os,I.bare,⟨λb o e n B l=>?_,λb o e n B l=>?_,I.base.free,λb o e l=>?_,I.base.gZ,I.base.IZ,I.base.Jj⟩,⟨_,Mi,λj y Y g t e3=>?_⟩,λy c e=>?_,I.free,I.Iq,λp hp=>?_,f ⟨oL,Lu,I.free⟩ hs,by simpa using I.len⟩ ⟨_,hs,.inl rfl⟩
  .show(hs.2 b (ki (mf (hH e) I.ok.above))).trans (I.base.keep b o e n B l)
  .have⟨sl,g⟩:=I.base.slot b o e n B l;show⟨sl,(hs.2 b (ki (mf (hH e) I.ok.above))).trans g⟩
  .have⟨o',g⟩:=I.base.there b o e l;show⟨o',(hs.2 b (ki (mf (hH e) I.ok.above))).trans g⟩
  .by_cases C:j=i
   .subst C;rw[D]at g;cases g;rw[fx TN]at t;cases t;show⟨u,r,.inl ⟨hk,by simp⟩⟩
   .rw[ko (uv C)]at t;have⟨u',r',q⟩:=hl j y Y g t e3;show⟨u',r',?_⟩;rcases q with⟨k,e⟩|⟨k,c,e,z⟩
    .show .inl ⟨k,?_⟩;have:y≠x:=λe=>C (iL hN g (e▸D));simp[this,e]
    .show .inr ⟨k,c,e,z.sameBut hs (T y c e)⟩
  .have⟨G,z⟩:=I.cell y c e;show⟨G,z.sameBut hs (T y c e)⟩
  .have⟨e,n,J,nf,d⟩:=I.pin p hp;show⟨(hs.2 p.1 J).trans e,n,J,nf,d⟩
 .have Kj:X.fn x=cb:=by
   rcases hf with z|z
   .show z
   .rw[z]at hk;cases hk
  have⟨c,hc⟩:=I.ok.has x (.inl hk);have⟨G,z⟩:=I.cell x c hc;show wpAny_storeName_cell I.ok.kind hk hc z (λh' L5 hs=>?_);have⟨oc,TQ,QU⟩:=id z;show h {s with heap:=h' } ⟨I.ok,I.os,I.bare,⟨λb o e n B l=>?_,λb o e n B l=>?_,I.base.free,λb o e l=>?_,I.base.gZ,I.base.IZ,I.base.Jj⟩,⟨m,O.sameBut hs (uv (T x c hc)),λj y Y g t e3=>?_⟩,λy L e=>?_,I.free,I.Iq,λp hp=>?_,f ⟨oc,TQ,I.Iq x c hc⟩ hs,by simpa using I.len⟩ ⟨c,hs,.inr hc⟩
  .show(hs.2 b (ki (mf (hH e) (I.ok.N3 x c Kj hc)))).trans (I.base.keep b o e n B l)
  .have⟨sl,g⟩:=I.base.slot b o e n B l;show⟨sl,(hs.2 b (ki (mf (hH e) (I.ok.N3 x c Kj hc)))).trans g⟩
  .have⟨o',g⟩:=I.base.there b o e l;show⟨o',(hs.2 b (ki (mf (hH e) (I.ok.N3 x c Kj hc)))).trans g⟩
  .by_cases C:j=i
   .subst C;rw[D]at g;cases g;rw[fx TN]at t;cases t;show⟨u,r,.inr ⟨.inl hk,c,hc,L5⟩⟩
   .rw[ko (uv C)]at t;have⟨u',r',q⟩:=hl j y Y g t e3;show⟨u',r',?_⟩;rcases q with q|⟨k,L,e,z'⟩
    .show .inl q
    .show .inr ⟨k,L,e,z'.sameBut hs ?_⟩;rintro rfl;show C (iL hN g (I.ok.inj _ _ _ e hc▸D))
  .by_cases TR:L=c
   .subst TR;show⟨_,L5⟩
   .have⟨w2,z2⟩:=I.cell y L e;show⟨w2,z2.sameBut hs TR⟩
  .have⟨e,n,J,nf,d⟩:=I.pin p hp;show⟨(hs.2 p.1 ?_).trans e,n,J,nf,d⟩;intro q;rw[q,TQ]at e;have q':oc=p.2:=wk e;show d G (by rw[<-q'];show QU)
def kY(I:Inv X pins σ H s)(a:X.N.Nodup)(b:X.N[i]?=bD x)(c:Loc X.env.scope x)(r:RelV v u)
  (h:∀s',Inv X pins (σ.set i (bD v)) H s'->Q () s') (d:X.fn x=cb\/X.env.scope.names.lookup x=bD .local:=by first|show .inl rfl|show .inr rfl|assumption):eH M A (storeName X.env x u) Q E s :=
 nF I a b c r (λs' e _=>h s' e) d
def Inv.Cy(I:Inv X pins σ H s)(ho:s'.os=s.os)(u:Un (IG X.stack) ch H H' s.heap s'.heap)(a:IX X.prog X.w H' s'.heap)(d:Tf s'.gens)
  (f:∀b∈ch,(b∈X.ex\/X.s₀.heap.objs.size<=b)/\b≠X.env.locals/\(∀x c,X.env.cells.lookup x=bD c->c≠b)/\∀p∈X.pn++pins,p.1≠b):Inv X pins σ H' s':=by
 have⟨h',g',d',t',g⟩:=s';have e:g=s.os:=ho;subst e;show I.call (g':=g') (t':=t') (d':=d') u a d f
end
@[reducible]def XK:=d4->Option eW->Hp->Prop
@[reducible]def St:=List (Option V)
@[reducible]def VK:=V->Hp->Prop
@[reducible]def TE:=St->Hp->VK->Prop
@[reducible]def TT:=St->Hp->(Bool->Hp->Prop)->Prop
@[reducible]def TA:=St->Hp->(List V->Hp->Prop)->Prop
structure Ends where
 nx:St->Hp->Prop
 rt:VK
 bk:St->Hp->Prop:=λ_ _=>False
 ct:St->Hp->Prop:=λ_ _=>False
@[reducible]def TS:=Ends->St->Hp->Prop
abbrev EP(X:Cx)(a:List (eW×Obj))(σ:St)(Q:VK)(u:d4)(s':hY):Prop:=∃v H',Inv X a σ H' s'/\RelV v u/\Q v H'
abbrev TP(X:Cx)(a:List (eW×Obj))(σ:St)(Q:Bool->Hp->Prop)(b:Bool)(s':hY):Prop:=∃H',Inv X a σ H' s'/\Q b H'
abbrev AP(X:Cx)(a:List (eW×Obj))(σ:St)(Q:List V->Hp->Prop)(us:List d4)(s':hY):Prop:=∃vs H',Inv X a σ H' s'/\Vals vs us/\Q vs H'
abbrev SP(X:Cx)(a:List (eW×Obj))(D:Ends)(f:Flow)(s':hY):Prop :=
 match f with
 |.next=>∃b H',Inv X a b H' s'/\D.nx b H'
 |.brk=>∃b H',Inv X a b H' s'/\D.bk b H'
 |.cont=>∃b H',Inv X a b H' s'/\D.ct b H'
 |.ret u=>∃v b H',Inv X a b H' s'/\RelV v u/\D.rt v H'
abbrev PE(X:Cx)(e:oT)(t:TE):Prop :=
 ∀(a:List (eW×Obj)) (s:hY) (σ:St) (H:Hp) (Q:VK),Inv X a σ H s->t σ H Q->eH (ke X.prog X.w) X.A (JF e X.env) (EP X a σ Q) X.xe s
abbrev PT(X:Cx)(e:oT)(t:TT):Prop :=
 ∀(a:List (eW×Obj)) (s:hY) (σ:St) (H:Hp) (Q:Bool->Hp->Prop),Inv X a σ H s->t σ H Q->eH (ke X.prog X.w) X.A (isTrue e X.env (JF e X.env)) (TP X a σ Q) X.xe s
abbrev PW(X:Cx)(e:oT)(t:TT):Prop :=
 ∀(b:Sem d4) (a:List (eW×Obj)) (s:hY) (σ:St) (H:Hp) (Q:Bool->Hp->Prop),Inv X a σ H s->t σ H Q->eH (ke X.prog X.w) X.A (isTrue e X.env b) (TP X a σ Q) X.xe s
def PW.pt(h:PW X e t):PT X e t:=h _
abbrev PA(X:Cx)(es:List oT)(t:TA):Prop :=
 ∀(pos:Pos) (a:List (eW×Obj)) (s:hY) (σ:St) (H:Hp) (Q:List V->Hp->Prop),Inv X a σ H s->t σ H Q->eH (ke X.prog X.w) X.A (Ú (KW pos (lx es X.env))) (AP X a σ Q) X.xe s
abbrev PS(X:Cx)(st:Nw)(t:TS):Prop :=
 ∀(a:List (eW×Obj)) (s:hY) (σ:St) (H:Hp) (D:Ends),Inv X a σ H s->t D σ H->eH (ke X.prog X.w) X.A (exec st X.env) (SP X a D) X.xe s
abbrev Jd(X:Cx)(st:List Nw)(t:TS):Prop :=
 ∀(a:List (eW×Obj)) (s:hY) (σ:St) (H:Hp) (D:Ends),Inv X a σ H s->t D σ H->eH (ke X.prog X.w) X.A (execs st X.env) (SP X a D) X.xe s
def HS(h:eH M A t Q E s)(b:∀a s,Q a s->Q' a s):eH M A t Q' E s:=ti h b λ_ _ x=>x
section
abbrev G8(i:Nat):TE:=λσ H Q=>∃v,σ[i]?=bD (bD v)/\Q v H
abbrev tC(v:V):TE:=λ_ H Q=>Q v H
def cv(j:X.N[i]?=bD x)(k:J0 X.env.scope x)(d:(x==("__debug__":Str))=cc:=by decide)(n:(x==("__classdict__":Str))=cc:=by decide):PE X (.Name x pos) (G8 i):=by
 intro b s σ H Q I h;have⟨v,e,h⟩:=h;have⟨m,o,hl⟩:=I.loc;have⟨u,r,l⟩:=hl i x v j e k;have a:EP X b σ Q u s:=⟨v,H,I,r,h⟩
 rcases l with⟨hk,p⟩|⟨hk,c,f,g⟩
 .show È (wpAny_loadName_local I.ok.kind hk o p a) d
 .rcases hk with hk|hk
  .show È (wpAny_loadName_cell I.ok.kind hk f g a) d
  .show È (wpAny_loadName_free I.ok.kind hk f g a n) d
def xN:PE X (.Constant (.int i) j pos) (tC (.int i)):=λ_ _ _ H _ I h=>wpAny_Constant_int ⟨.int i,H,I.tok _,⟨_,rfl⟩,h⟩
def Cz:PE X (.Constant (.bool b) j pos) (tC (.bl b)):=λ_ _ _ H _ I h=>Constant_bool ⟨.bl b,H,I,rfl,h⟩
def xO:PE X (.Constant .none j pos) (tC .HX):=λ_ _ _ H _ I h=>Constant_none ⟨.HX,H,I,rfl,h⟩
def r9:PE X (.Constant (.str x) j pos) (tC (.str x)):=λ_ _ _ H _ I h=>Calls.Constant_str ⟨.str x,H,I.tok _,⟨_,rfl⟩,h⟩
abbrev Gl(X:Cx)(x:Str):Prop:=X.env.kindOf x=bD .globalImplicit
def fq(I:Inv X a σ H s)(b:Gl X x)(c:X.mg x=bD u)(h:Q u s)
  (d:(x==("__debug__":Str))=cc:=by decide):eH (ke X.prog X.w) X.A (JF (.Name x pos) X.env) Q E s :=
 Xn I.ok.kind b (Calls.loadGlobal_global (by rw[I.ok.glob];show I.mod.glob.keeps I.bk) c h) d
def dW(I:Inv X a σ H s)(b:Gl X x)(c:X.mg x=b7)(d:JM x=bD u)(h:Q u s)
  (e:x≠"__name__":=by decide) (f:(x==("__debug__":Str))=cc:=by decide):eH (ke X.prog X.w) X.A (JF (.Name x pos) X.env) Q E s:=by
 have⟨j,g,i⟩:=I.mod.blt;show Xn I.ok.kind b (Calls.loadGlobal_builtin (by rw[I.ok.glob];show I.mod.glob.keeps I.bk) c (by rw[I.ok.blt];show g.keeps I.bk) ((i x e).trans d) h) f
def Aw(a:Gl X x)(b:X.mg x=bD u)(r:RelV v u)(c:(x==("__debug__":Str))=cc:=by decide):PE X (.Name x pos) (tC v) :=
 λ_ _ _ H _ I h=>fq I a b ⟨v,H,I,r,h⟩ c
def Ax(a:Gl X x)(b:X.mg x=b7)(c:JM x=bD u)(r:RelV v u)(d:x≠"__name__":=by decide)(e:(x==("__debug__":Str))=cc:=by decide):PE X (.Name x pos) (tC v) :=
 λ_ _ _ H _ I h=>dW I a b c ⟨v,H,I,r,h⟩ d e
abbrev PC(X:Cx)(op:CmpOp)(a b:oT)(t:TE):Prop :=
 ∀(c:List (eW×Obj)) (s:hY) (σ:St) (H:Hp) (Q:VK),Inv X c σ H s->t σ H Q ->
  eH (ke X.prog X.w) X.A (JF a X.env) (λv d=>eH (ke X.prog X.w) X.A (JF b X.env) (λu e=>eH (ke X.prog X.w) X.A (OV op v u) (EP X c σ Q) X.xe e) X.xe d) X.xe s
abbrev tB(t:TE):TT:=λσ H Q=>t σ H λx a=>∃c,x=.bl c/\Q c a
def xP(h:PC X op a b t)(d:OZ op b=cc:=by first|show f _ (by decide) (by decide)|rfl):PE X (.Compare a [op] [b] pos) t:=λc s σ H Q I e=>ą (h c s σ H Q I e) d
def xQ(h:PC X op a b t)(f:OZ op b=cc:=by first|show n _ (by decide) (by decide)|rfl):PT X (.Compare a [op] [b] pos) (tB t):=by
 intro e s σ H Q I g;show ZF (HS (h e s σ H _ I g) λv s1 f=>HS f λu s2 i=>HS i λc s3 ⟨x,j,k,l,m⟩=>?_) f;have⟨d,rfl,q⟩:=m;cases l;show Jt ⟨j,k,q⟩
abbrev G9(t u:TT):TT:=λσ H Q=>t σ H λc a=>if c=cb then u σ a Q else Q cc a
abbrev U7(t u:TT):TT:=λσ H Q=>t σ H λc a=>if c=cb then Q cb a else u σ a Q
abbrev G_(t:TT):TT:=λσ H Q=>t σ H λc a=>Q (!c) a
def Ay(d:PT X a f):PW X (.BoolOp .And [a] pos) f:=by
 intro g b s σ H Q I h;show isTrue_and (HS (d b s σ H Q I h) λc s1 e=>?_);cases c with
 |true=>show ę e
 |false=>show e
def C6(d:PT X a f):PW X (.BoolOp .Or [a] pos) f:=by
 intro g b s σ H Q I h;show isTrue_or (HS (d b s σ H Q I h) λc s1 e=>?_);cases c with
 |false=>show isTrue_or_nil e
 |true=>show e
def C7(j:PT X a k)(l:PW X (.BoolOp .And (b::e) pos) m):PW X (.BoolOp .And (a::b::e) pos) (G9 k m):=by
 intro n d s σ H Q I h;show isTrue_and (HS (j d s σ H _ I h) λc s1 o=>?_);have⟨f,g,i⟩:=o;cases c with
 |true=>show l n d s1 σ f Q g i
 |false=>show⟨f,g,i⟩
def Fb(j:PT X a k)(l:PW X (.BoolOp .Or (b::e) pos) m):PW X (.BoolOp .Or (a::b::e) pos) (U7 k m):=by
 intro n d s σ H Q I h;show isTrue_or (HS (j d s σ H _ I h) λc s1 o=>?_);have⟨f,g,i⟩:=o;cases c with
 |true=>show⟨f,g,i⟩
 |false=>show l n d s1 σ f Q g i
def C8(d:PT X a e):PT X (.UnaryOp .Not a pos) (G_ e):=by
 intro b s σ H Q I h;show isTrue_not (d b s σ H (λc f=>Q (!c) f) I h)
abbrev Fc(b d:TE):TE:=λσ H Q=>b σ H λx a=>∃c,x=.bl c/\if c=cb then d σ a Q else Q (.bl cc) a
abbrev Ha(b d:TE):TE:=λσ H Q=>b σ H λx a=>∃c,x=.bl c/\if c=cb then Q (.bl cb) a else d σ a Q
abbrev Fd(a:TE):TE:=λσ H Q=>a σ H λx b=>∃c,x=.bl c/\Q (.bl (!c)) b
def xR(h:PE X a t):PE X (.BoolOp op [a] pos) t:=λb s σ H Q I c=>BoolOp_one (h b s σ H Q I c)
def C9(j:PE X a k)(l:PE X (.BoolOp .And (b::e) pos) m):PE X (.BoolOp .And (a::b::e) pos) (Fc k m):=by
 intro d s σ H Q I h;show BoolOp_and (HS (j d s σ H _ I h) λv s1 n=>?_);have⟨x,g,i,o,f⟩:=n;have⟨c,rfl,f⟩:=f;cases o;show Jt ?_;cases c with
 |true=>show l d s1 σ g Q i f
 |false=>show⟨.bl cc,g,i,rfl,f⟩
def Fe(j:PE X a k)(l:PE X (.BoolOp .Or (b::e) pos) m):PE X (.BoolOp .Or (a::b::e) pos) (Ha k m):=by
 intro d s σ H Q I h;show BoolOp_or (HS (j d s σ H _ I h) λv s1 n=>?_);have⟨x,g,i,o,f⟩:=n;have⟨c,rfl,f⟩:=f;cases o;show Jt ?_;cases c with
 |false=>show l d s1 σ g Q i f
 |true=>show⟨.bl cb,g,i,rfl,f⟩
def C_(e:PE X a f):PE X (.UnaryOp .Not a pos) (Fd f):=by
 intro b s σ H Q I h;show UnaryOp_ (HS (e b s σ H _ I h) λv s1 g=>?_);have⟨x,i,j,k,d⟩:=g;have⟨c,rfl,d⟩:=d;cases k;show not_of (Jt ⟨.bl (!c),i,j,rfl,d⟩)
end
abbrev Iz(K:PySem.W.Frag)(H:Hp)(a:eW)(xs:List V):Prop :=
 Rd H a (.lst xs) \/
  ∃(o:Obj) (its:Array d4) (n:Nat),K.lookup a=bD o/\o.cls=.type "list"/\o.dict=b7/\o.data=.seq its n/\its.size<=c4/\Vals xs its.toList
abbrev Ir(K:PySem.W.Frag)(H:Hp)(a:eW)(xs:List V):Prop :=
 Rd H a (.tup xs) \/
  ∃(o:Obj) (its:Array d4) (n:Nat),K.lookup a=bD o/\o.cls=.type "tuple"/\o.data=.seq its n/\its.size<=c4/\Vals xs its.toList
abbrev Hb:d4->Option V
 |.none=>bD .HX
 |.bool b=>bD (.bl b)
 |.int i _=>bD (.int i)
 |.str x _=>bD (.str x)
 |.bytes b _=>bD (.P6 b)
 |.float b _=>bD (.P7 b)
 |.ref a=>bD (.ref a)
 |.type n=>bD (.ty n)
 |_=>b7
def RelV.abs(r:RelV x u):Hb u=bD x:=by
 cases x with
 |HX=>cases r;rfl
 |bl _=>cases r;rfl
 |ref _=>cases r;rfl
 |ty _=>cases r;rfl
 |_=>have⟨t,rfl⟩:=r;rfl
def RelV.inj(r:RelV x u)(q:RelV y u):x=y:=wk (r.abs.symm.trans q.abs)
theorem Vals.inj:∀{xs a:List V}{us:List d4},Vals xs us->Vals a us->xs=a
 |_,_,_,.nil,.nil=>rfl
 |_,_,_,.cons r t,.cons b t'=>by rw[r.inj b,Vals.inj t t']
section
def Iz.of{K:PySem.W.Frag}(h:H a=bD (.lst xs)):Iz K H a xs:=.inl (.inl h)
def Ir.of{K:PySem.W.Frag}(h:H a=bD (.tup xs)):Ir K H a xs:=.inl (.inl h)
def Inv.list(I:Inv X b σ H s)(h:Iz X.K H a xs):∃its:List d4,Vals xs its/\PlainL s.heap a its.toArray/\xs.length<=c4:=by
 rcases h with h|⟨o,its,n,hk,c,d,hs,hz,r⟩
 .have⟨z,its,n,r,e⟩:=h.ok I.HN;show⟨its,r,⟨_,n,e,rfl,rfl,rfl⟩,z⟩
 .show⟨its.toList,r,⟨o,n,I.L0 a o hk,c,d,by simpa using hs⟩,?_⟩;have e:=r.length;simp only[sm]at e;lia
def Inv.tuple(I:Inv X b σ H s)(h:Ir X.K H a xs):∃its:List d4,Vals xs its/\Z3 s.heap a its.toArray/\xs.length<=c4:=by
 rcases h with h|⟨o,its,n,hk,c,hs,hz,r⟩
 .have⟨z,its,r,p⟩:=h.ok I.HN;show⟨its,r,p,z⟩
 .show⟨its.toList,r,⟨o,I.L0 a o hk,c,n,by simpa using hs⟩,?_⟩;have e:=r.length;simp only[sm]at e;lia
def Inv.qj(I:Inv X b σ H s)(h:Iz X.K H a xs)(h':Iz X.K H a f):xs=f:=by
 obtain⟨its,r,⟨o,n,e,_,_,d⟩,_⟩:=I.list h;obtain⟨its',g,⟨j,k,c,_,_,d'⟩,_⟩:=I.list h';rw[e]at c;cases c;rw[d]at d';injection d' with i _
 have:its=its':=by simpa using ġ Yv i
 subst this;show r.inj g
def Inv.nG(I:Inv X b σ H s)(h:Ir X.K H a xs)(h':Ir X.K H a f):xs=f:=by
 obtain⟨its,r,⟨o,e,_,n,d⟩,_⟩:=I.tuple h;obtain⟨its',g,⟨j,c,_,k,d'⟩,_⟩:=I.tuple h';rw[e]at c;cases c;rw[d]at d';injection d' with i _
 have:its=its':=by simpa using ġ Yv i
 subst this;show r.inj g
end
@[reducible]def Cx.kZ(X:Cx)(E:d4->hY->Prop):Cx:={X with xe:=E}
@[reducible]def Cx.Lh(X:Cx):Cx:=X.kZ λ_ _=>False
def Cx.Ok.kZ{X:Cx}(a:X.Ok)(E:d4->hY->Prop):(X.kZ E).Ok :=
 ⟨a.mod,a.kind,a.glob,a.blt,a.above,a.inj,a.has,a.N3,a.hd,a.frames,a.OD,a.QT,a.bs,a.Mg,a.K4,a.Lr,a.kB,a.M_⟩
def Cx.Ok.ip{X:Cx}(a:(X.kZ E).Ok):X.Ok :=
 ⟨a.mod,a.kind,a.glob,a.blt,a.above,a.inj,a.has,a.N3,a.hd,a.frames,a.OD,a.QT,a.bs,a.Mg,a.K4,a.Lr,a.kB,a.M_⟩
section
def Inv.kZ(I:Inv X a σ H s)(E:d4->hY->Prop):Inv (X.kZ E) a σ H s:=⟨I.ok.kZ E,I.os,I.bare,I.base,I.loc,I.cell,I.free,I.Iq,I.pin,I.HN,I.len⟩
def Inv.ip(I:Inv (X.kZ E) a σ H s):Inv X a σ H s:=⟨I.ok.ip,I.os,I.bare,I.base,I.loc,I.cell,I.free,I.Iq,I.pin,I.HN,I.len⟩
def SP.ip(h:SP (X.kZ E) a D f s'):SP X a D f s':=by
 cases f with
 |ret u=>have⟨v,b,H',I,r,q⟩:=h;show⟨v,b,H',I.ip,r,q⟩
 |_=>have⟨b,H',I,q⟩:=h;show⟨b,H',I.ip,q⟩
def Jd.Lh{st:List Nw}(h:Jd X.Lh st t):Jd X st t:=λa s σ H D I b =>
 ti (h a s σ H D (I.kZ _) b) (λ_ _ q=>q.ip) λ_ _ z=>NT z
end
section
variable{X:Cx}{st:Nw}{rest:List Nw}{t u:TS}{e:oT}{te:TE}{pos:Pos}
abbrev Ff:TS:=λD σ H=>D.nx σ H
abbrev Hc(t u:TS):TS:=λD σ H=>t {D with nx:=u D} σ H
def uj:Jd X [] Ff:=λ_ _ σ H _ I h=>R_ ⟨σ,H,I,h⟩
def qk(b:PS X st t)(c:Jd X rest u):Jd X (st::rest) (Hc t u):=by
 intro a s σ H D I h;show å (HS (b a s σ H {D with nx:=u D} I h) λf s1 q=>?_);cases f with
 |next =>
  have⟨d,H',g,q⟩:=q;show c a s1 d H' D g q
 |_=>show q
def Inv.quiet(I:Inv X a σ H s):interactive X.env=cc:=by simp[interactive,I.ok.kind]
abbrev Fg(te:TE):TS:=λD σ H=>te σ H λ_ a=>D.nx σ a
def iM(b:PE X e te)(hs:RB e b7 pos.line X.env=pure cc:=by rfl):PS X (.Expr e pos) (Fg te):=by
 intro a s σ H D I h;show Ą (HS (b a s σ H _ I h) λv s1 ⟨x,c,d,g,f⟩=>⟨σ,c,d,f⟩) I.quiet hs
abbrev Hd(te:TE):TS:=λD σ H=>te σ H D.rt
def Dd(b:PE X e te):PS X (.Return (bD e) pos) (Hd te):=by
 intro a s σ H D I h;show wpAny_Return_some (HS (b a s σ H _ I h) λv s1 ⟨x,c,d,f,g⟩=>⟨x,σ,c,d,f,g⟩)
abbrev Fh:TS:=λD _ H=>D.rt .HX H
def Az:PS X (.Return b7 pos) Fh:=λ_ _ σ H _ I h=>wpAny_Return_none ⟨.HX,σ,H,I,rfl,h⟩
abbrev He(c:TT)(t u:TS):TS:=λD σ H=>c σ H λb a=>if b=cb then t D σ a else u D σ a
def Fi(k:PT X c l)(m:Jd X a t)(n:Jd X b u):PS X (.If c a b pos) (He l t u):=by
 intro f s σ H D I h;show wpAny_If (HS (k f s σ H _ I h) λd s1 o=>?_);have⟨g,i,j⟩:=o;cases d with
 |true=>show m f s1 σ g D i j
 |false=>show n f s1 σ g D i j
end
@[reducible]def TG:=V->St->Hp->(St->Hp->Prop)->Prop
@[reducible]def N5:=List V->St->Hp->(St->Hp->Prop)->Prop
abbrev PG(X:Cx)(a:oT)(t:TG):Prop :=
 ∀(b:List (eW×Obj)) (s:hY) (σ:St) (H:Hp) (v:V) (u:d4) (Q:St->Hp->Prop),Inv X b σ H s->RelV v u->t v σ H Q ->
  eH (ke X.prog X.w) X.A (SA a X.env u) (λ_ s'=>∃c H',Inv X b c H' s'/\Q c H') X.xe s
abbrev OH(X:Cx)(ts:List oT)(t:N5):Prop :=
 ∀(a:List (eW×Obj)) (s:hY) (σ:St) (H:Hp) (vs:List V) (us:List d4) (Q:St->Hp->Prop),Inv X a σ H s->Vals vs us->t vs σ H Q ->
  eH (ke X.prog X.w) X.A (assignInOrder ((QV ts X.env).map (·.2)) us) (λ_ s'=>∃b H',Inv X a b H' s'/\Q b H') X.xe s
@[reducible]def De:=V->V->V->Hp->(Hp->Prop)->Prop
abbrev k7(X:Cx)(t:De):Prop :=
 ∀(a:List (eW×Obj)) (s:hY) (σ:St) (H:Hp) (o i v:V) (b c u:d4) (Q:Hp->Prop),Inv X a σ H s->RelV o b->RelV i c->RelV v u->t o i v H Q ->
  eH (ke X.prog X.w) X.A (T1 b c u) (λ_ s'=>∃H',Inv X a σ H' s'/\Q H') X.xe s
@[reducible]def QW:=V->V->Hp->VK->Prop
abbrev P'(X:Cx)(op:ZV)(t:QW):Prop :=
 ∀(a:List (eW×Obj)) (s:hY) (σ:St) (H:Hp) (x y:V) (v u:d4) (Q:VK),Inv X a σ H s->RelV x v->RelV y u->t x y H Q ->
  eH (ke X.prog X.w) X.A (inplaceOp op v u) (EP X a σ Q) X.xe s
section
abbrev um(i:Nat):TG:=λv σ H Q=>Q (σ.set i (bD v)) H
def uo(b:X.N.Nodup)(c:X.N[i]?=bD x)(d:Loc X.env.scope x)(e:X.fn x=cb\/X.env.scope.names.lookup x=bD .local:=by first|show .inl rfl|show .inr rfl|assumption):PG X (.Name x pos) (um i):=by
 intro a s σ H v u Q I r h;show Ù (kY I b c d r (λs' f=>⟨_,H,f,h⟩) e)
abbrev Fj:N5:=λvs σ H Q=>vs=[]/\Q σ H
abbrev CA(t:TG)(u:N5):N5:=λvs σ H Q=>∃v r,vs=v::r/\t v σ H λa H'=>u r a H' Q
def AA:OH X [] Fj:=by
 intro a s σ H vs us Q I r h;have⟨e,h⟩:=h;subst e;cases r;show assignInOrder_nil ⟨σ,H,I,h⟩
def xS(b:PG X e t)(c:OH X es u)
  (hs:(QV (e::es) X.env).map (·.2)=SA e X.env::(QV es X.env).map (·.2):=by rfl):OH X (e::es) (CA t u):=by
 intro a s σ H vs us Q I r h;have⟨v,m,d,h⟩:=h;subst d;cases r with
 |cons r f =>
  rw[hs];show assignInOrder_cons (HS (b a s σ H _ _ _ I r h) λ_ s1 g=>?_);have⟨i,j,k,l⟩:=g;show c a s1 i j _ _ Q k f l
abbrev Hf(K:PySem.W.Frag)(n:Nat)(t:N5):TG:=λv σ H Q=>∃a xs,v=.ref a/\Ir K H a xs/\xs.length=n/\t xs σ H Q
def Df(f:X.calm=cb)(h:OH X es t)
  (g:(QV es X.env).length=n:=by rfl) (i:(QV es X.env).findIdx? (·.1)=b7:=by rfl):PG X (.Tuple es k pos) (Hf X.K n t):=by
 intro c s σ H v u Q I r d;have⟨a,xs,j,l,hl,d⟩:=d;subst j;cases r;have⟨its,rv,m,hz⟩:=I.tuple l;show assign_Tuple_tuple (I.ok.hd f) m (by simp[g,<-hl,rv.length]) i λh' p=>?_;have q:Inv X c σ H {s with heap:=h' }:=I.kept (t':=s.toks) λb o e=>p b o (ki (hH e)) e;show h c _ σ H xs _ Q q (by simpa using rv) d
abbrev Hg(a b:TE)(t:De):TG:=λv σ H Q=>a σ H λo c=>b σ c λi d=>t o i v d λe=>Q σ e
def xT(ho:PE X o d)(e:PE X i f)(hs:k7 X t)
  (g:∀v,SA (.Subscript o i pos) X.env v=(do
   let b <-Nc [v] (JF o X.env)
   let c <-Nc [v,b] (JF i X.env)
   Yw pos
   Nc [v,b,c] (T1 b c v)
   W0 [v,b,c] []):=by intro _;rfl):PG X (.Subscript o i pos) (Hg d f t):=by
 intro a s σ H v u Q I r h;rw[g];show b8 (DD (HS (ho a s σ H _ I h) λb s1 j=>?_));have⟨x,k,l,m,n⟩:=j;show b8 (DD (HS (e a s1 σ k _ l n) λc s2 p=>?_));have⟨y,q,w,z,A⟩:=p;show b8 (Y1 (b8 (DD (HS (hs a s2 σ q x y v b c u _ w m z r A) λ_ s3 B=>?_))));have⟨C,D,G⟩:=B;show wpAny_release ⟨σ,C,D,G⟩
abbrev Dg(te:TE)(g:TG):TS:=λD σ H=>te σ H λx a=>g x σ a D.nx
def r_(c:PE X e te)(d:PG X b g)(hs:RO [b] e pos.line X.env=pure cc:=by rfl)(f:VL [b] e X.env=pure b7:=by rfl)
  (i:(QV [b] X.env).map (·.2)=[SA b X.env]:=by rfl):PS X (.Assign [b] e pos) (Dg te g):=by
 intro a s σ H D I h;show wpAny_Assign_stores (HS (c a s σ H _ I h) λv s1 ⟨x,j,k,l,m⟩=>?_) hs f;rw[i];show HS (d a s1 σ j x v _ k l m) λ_ s2 q=>q
def sd(b:X.N.Nodup)(c:X.N[i]?=bD x)(d:Loc X.env.scope x)(f:PE X e te)(hs:RB e (bD (.Name x pos')) pos.line X.env=pure cc:=by rfl)(g:X.fn x=cb\/X.env.scope.names.lookup x=bD .local:=by first|show .inl rfl|show .inr rfl|assumption):
  PS X (.Assign [.Name x pos'] e pos) (Dg te (um i)):=by
 intro a s σ H D I h;show wpAny_Assign_Name (HS (f a s σ H _ I h) λv s1 ⟨y,j,k,l,m⟩=>?_) hs;show kY k b c d l (λs2 n=>⟨_,j,n,m⟩) g
abbrev Fm(a b te:TE)(c:V->V->Hp->VK->Prop)(d:QW)(e:De):TS:=λD σ H=>a σ H λo f=>b σ f λi g=>c o i g λx h=>te σ h λy j=>d x y j λz k=>e o i z k λl=>D.nx σ l
abbrev Fo(X:Cx)(t:V->V->Hp->VK->Prop):Prop :=
 ∀(a:List (eW×Obj)) (s:hY) (σ:St) (H:Hp) (o i:V) (b c:d4) (Q:VK),Inv X a σ H s->RelV o b->RelV i c->t o i H Q ->
  eH (ke X.prog X.w) X.A (Sh b c) (EP X a σ Q) X.xe s
def AB(ho:PE X o l)(m:PE X i n)(p:Fo X q)(r:PE X e te)(t:P' X op u)(hs:k7 X w)
  (x:∀b c new,Đ i b c new=(do Nc [new,b,c] (T1 b c new);W0 [new,b,c] [];pure .next):=by intros;rfl):PS X (.AugAssign (.Subscript o i Vf) op e pos) (Fm l n te q u w):=by
 intro a s σ H D I h;show wpAny_AugAssign_SubscriptAny (HS (ho a s σ H _ I h) λb s1 ⟨f,y,z,g,A⟩=>?_) x;show HS (m a s1 σ y _ z A) λc s2 B=>?_;have⟨j,C,G,k,J⟩:=B;show HS (p a s2 σ C f j b c _ G g k J) λd s3 L=>?_;have⟨N,O,Q,T,Y⟩:=L;show HS (r a s3 σ O _ Q Y) λv s4 Q1=>?_;have⟨x4,H4,I4,r4,q4⟩:=Q1;show HS (t a s4 σ H4 N x4 d v _ I4 T r4 q4) λnew s5 Q2=>?_;have⟨x5,H5,I5,r5,q5⟩:=Q2;show HS (hs a s5 σ H5 f j x5 b c new _ I5 g k r5 q5) λ_ s6 ⟨H6,I6,q6⟩=>⟨σ,H6,I6,q6⟩
abbrev Q3(f:Int->Int->Int):QW:=λx y H Q=>∃i j,x=.int i/\y=.int j/\Q (.int (f i j)) H
def Dh:P' X .Add (Q3 λi j=>i+j):=by
 intro a s σ H x y v u Q I b c h;have⟨i,j,d,e,q⟩:=h;subst d;subst e;have⟨t,rfl⟩:=b;have⟨t',rfl⟩:=c;show iadd_int ⟨.int _,H,I.tok _,⟨_,rfl⟩,q⟩
def Di:P' X .Sub (Q3 λi j=>i - j):=by
 intro a s σ H x y v u Q I b c h;have⟨i,j,d,e,q⟩:=h;subst d;subst e;have⟨t,rfl⟩:=b;have⟨t',rfl⟩:=c;show isub_int ⟨.int _,H,I.tok _,⟨_,rfl⟩,q⟩
end
section
abbrev Dj(c:TT)(f:TS):TS:=λD σ H=>∃W:Nat->St->Hp->Prop,(∃m,W m σ H)/\∀m σ H,W m σ H ->
 c σ H λb a=>if b=cb then ∃N:St->Hp->Prop,(∀d H',N d H'->∃e,e<m/\W e d H')/\f {D with nx:=N,ct:=N,bk:=D.nx} σ a else D.nx σ a
def xU(r:XY (ke X.prog X.w) X.A X.env X.xe)(z:PT X c B)(C:Jd X body G):PS X (.While c body [] pos) (Dj B G):=by
 intro a s σ H D I h;obtain⟨W,⟨m0,J⟩,d⟩:=h;show wpAny_While (codeAny_whileLoop (λn s'=>∃t H',Inv X a t H' s'/\W n t H') ?_ m0 ⟨σ,H,I,J⟩);rintro n s1 ⟨i,u,L,O⟩;show ON r (HS (z a s1 i u _ L (d n i u O)) λb s2 Q=>?_);have⟨v,x,j⟩:=Q;cases b with
 |true =>
  have⟨N,y,j⟩:=j;rw[ĝ rfl];show ON r (HS (C a s2 i v _ x j) λf s3 k=>?_);cases f with
  |next =>
   have⟨e,g,l,m⟩:=k;have⟨o,p,q⟩:=y e g m;show⟨o,p,e,g,l,q⟩
  |cont =>
   have⟨e,g,l,m⟩:=k;have⟨o,p,q⟩:=y e g m;show⟨o,p,e,g,l,q⟩
  |_=>show k
 |false =>
  rw[ğ l'];show R_ ⟨i,v,x,j⟩
end
structure It where
 go:Nat->Hp->Prop
 Qa:Nat->Hp->V->Hp->Prop
 stop:Nat->Hp->Prop
abbrev iN(X:Cx)(a:List (eW×Obj))(H:Hp)(b:eW):Prop :=
 H b=b7/\b≠X.env.locals/\b∉X.fs/\(b∈X.ex\/X.s₀.heap.objs.size<=b)/\(∀x c,X.env.cells.lookup x=bD c->c≠b)/\∀p∈X.pn++a,p.1≠b
def Inv.AD(I:Inv X a σ H s)(d:s.heap.objs.size<=b)(f:H' b=b7):iN X a H' b:=by
 show⟨f,KN (mf I.lt d),I.E_ d,.inr (ve I.sz d),λx c e z=>?_,λp g z=>?_⟩
 .have⟨v,q⟩:=I.cell x c e;show absurd (mf q.lt (by rw[z];show d)) (H8 _)
 .show absurd (mf (hH (I.pin p g).1) (by rw[z];show d)) (H8 _)
structure Turn(P:w6)(w:Ie)(K:PySem.W.Frag)(tg:oT)(J:It)(fp:List eW)(it:eW)(tn:Nat->Ks->Prop):Prop where
 mem:it∈fp
 obj:∀i h,tn i h->∀b∈fp,∃o,h.get? b=bD o/\∀v,o.data≠.cell v
 keep:∀i h h',tn i h->(∀b∈fp,∀o,h.get? b=bD o->h'.get? b=bD o)->tn i h'
 item:∀(X:Cx),X.prog=P->X.w=w->X.K=K->X.calm=cb->∀(i:Nat) (pins:List (eW×Obj)) (s:hY) (σ:St) (H:Hp) (E:d4->hY->Prop),Inv X pins σ H s->(∀b∈fp,iN X pins H b)->tn i s.heap->J.go i H ->
  eH (ke P w) X.A (Sw (.ref it)) (λr s1=>∃u,r=bD u /\
   eH (ke P w) X.A (Ut tg (.ref it) u) (λ_ s2=>∃x H',Inv X pins σ H' s2/\RelV x u/\J.Qa i H x H'/\tn (i+1) s2.heap/\∀b∈fp,H' b=b7) E s1) E s
 done:∀(X:Cx),X.prog=P->X.w=w->X.K=K->X.calm=cb->∀(i:Nat) (pins:List (eW×Obj)) (s:hY) (σ:St) (H:Hp) (E:d4->hY->Prop),Inv X pins σ H s->(∀b∈fp,iN X pins H b)->tn i s.heap->J.stop i H ->
  eH (ke P w) X.A (Sw (.ref it)) (λr s1=>r=b7/\Inv X pins σ H s1) E s
 self:∀(A:OM) (i:Nat) (s:hY) (Q:d4->hY->Prop) (E:d4->hY->Prop),tn i s.heap->Q (.ref it) s->eH (ke P w) A (YK (.ref it)) Q E s
@[reducible]def TI:=St->Hp->(It->Hp->Prop)->Prop
abbrev TU(X:Cx)(a:List (eW×Obj))(σ:St)(e:oT)(R:It->Hp->Prop)(f:d4)(s2:hY):Prop :=
 ∃(it:eW) (c:List eW) (d:Nat->Ks->Prop) (J:It) (H':Hp),f=.ref it/\Inv X a σ H' s2/\Turn X.prog X.w X.K e J c it d/\d 0 s2.heap/\(∀b∈c,iN X a H' b)/\R J H'
abbrev PI(X:Cx)(c b:oT)(d:TI):Prop :=
 ∀(a:List (eW×Obj)) (s:hY) (σ:St) (H:Hp) (R:It->Hp->Prop),Inv X a σ H s->d σ H R ->
  eH (ke X.prog X.w) X.A (JF b X.env) (λv s1=>eH (ke X.prog X.w) X.A (YK v) (TU X a σ c R) X.xe s1) X.xe s
def xV(ho:s.heap.get? it=bD o)(b:o.cls=.type n)(c:o.data=.fields vs)
    (d:["enumerate","zip","dict_itemiterator","dict_reverseitemiterator","odict_iterator","itertools.zip_longest","itertools.pairwise"].contains n=cc) (a:Q () s):eH M A (Ut e (.ref it) u) Q E s:=by
  unfold Ut;cases e<;>first
    | show dV a
    | (cases u<;>first
        | show dV a
        | (show b8 (Æ ho ?_)
           rw[b,c];change eH M A (if (["enumerate","zip","dict_itemiterator","dict_reverseitemiterator","odict_iterator","itertools.zip_longest","itertools.pairwise"].contains n&&vs[0]?==bD (D' _))=cb then _ else _) Q E s;rw[ğ (by intro h;rw[d,Ä]at h;cases h)];show dV a))
abbrev Q5(K:PySem.W.Frag)(a:eW):It :=
 ⟨λi H=>∃xs x,Iz K H a xs/\xs[i]?=bD x,λi H x H'=>H'=H/\∀xs,Iz K H a xs->xs[i]?=bD x,λi H=>∃xs,Iz K H a xs/\xs.length<=i⟩
abbrev Q6(K:PySem.W.Frag)(a:eW):It :=
 ⟨λi H=>∃xs x,Ir K H a xs/\xs[i]?=bD x,λi H x H'=>H'=H/\∀xs,Ir K H a xs->xs[i]?=bD x,λi H=>∃xs,Ir K H a xs/\xs.length<=i⟩
abbrev OI(lo:Int)(n:Nat):It:=⟨λi _=>i<n,λi H x H'=>H'=H/\x=.int (lo+i),λi _=>n<=i⟩
def v8{K:PySem.W.Frag}(a it:eW):Turn P w K tg (Q5 K a) [it] it (λi h=>h.IsListIter it a i) where
 mem:=by simp
 obj:=λi h st b g=>by
  have e:b=it:=by simpa using g
  subst e;have⟨o,e,c,d⟩:=st;show⟨o,e,λv z=>by rw[d]at z;cases z⟩
 keep:=λi h h' st k=>st.at λo e=>k it (by simp) o e
 item:=by
  intro X m n q G i f s σ H E I j st r;subst m n q;have⟨xs,x,l,t⟩:=r;have⟨its,rv,p,hz⟩:=I.list l;have⟨u,J,L⟩:=rv.get t;have⟨y,A,N,B,C,D⟩:=j it (by simp);show wpAny_pyNext_list_item st p.isList (x:=u) (by simpa using J) λh' st' O=>?_;have Q:Inv X f σ H {s with heap:=h' }:=I.turned (t':=s.toks) (λb o g e=>(O.2 b g).trans e) y A B C D;have⟨o,e,c,d⟩:=id st';show⟨u,rfl,xV (s:={s with heap:=h' }) e c d (by decide) ⟨x,H,Q,L,⟨rfl,λys T=>by rw[I.qj T l];show t⟩,st',λb g=>(j b g).1⟩⟩
 done:=by
  intro X m n q G i f s σ H E I j st r;subst m n q;have⟨xs,l,t⟩:=r;have⟨its,rv,p,hz⟩:=I.list l;have⟨y,A,N,B,C,D⟩:=j it (by simp);have hl:=rv.length;show wpAny_pyNext_list_end (I.ok.hd G) st p.isList (by simp;lia) λh' Y=>⟨rfl,I.turned (t':=s.toks) (λb o g e=>Y b o g e) y A B C D⟩
 self:=λ_ _ _ _ _ st h=>wpAny_pyIter_listiter st h
def sf{K:PySem.W.Frag}(a it:eW):Turn P w K tg (Q6 K a) [it] it (λi h=>h.IsTupleIter it a i) where
 mem:=by simp
 obj:=λi h st b g=>by
  have e:b=it:=by simpa using g
  subst e;have⟨o,e,c,d⟩:=st;show⟨o,e,λv z=>by rw[d]at z;cases z⟩
 keep:=λi h h' st k=>st.at λo e=>k it (by simp) o e
 item:=by
  intro X m n q G i f s σ H E I j st r;subst m n q;have⟨xs,x,l,t⟩:=r;have⟨its,rv,p,hz⟩:=I.tuple l;have⟨u,J,L⟩:=rv.get t;have⟨y,A,N,B,C,D⟩:=j it (by simp);show wpAny_pyNext_tuple_item st (show s.heap.IsTuple a its.toArray from p) (x:=u) (by simpa using J) λh' st' O=>?_;have Q:Inv X f σ H {s with heap:=h' }:=I.turned (t':=s.toks) (λb o g e=>(O.2 b g).trans e) y A B C D;have⟨o,e,c,d⟩:=id st';show⟨u,rfl,xV (s:={s with heap:=h' }) e c d (by decide) ⟨x,H,Q,L,⟨rfl,λys T=>by rw[I.nG T l];show t⟩,st',λb g=>(j b g).1⟩⟩
 done:=by
  intro X m n q G i f s σ H E I j st r;subst m n q;have⟨xs,l,t⟩:=r;have⟨its,rv,p,hz⟩:=I.tuple l;have⟨y,A,N,B,C,D⟩:=j it (by simp);have hl:=rv.length;show wpAny_pyNext_tuple_end (I.ok.hd G) st (show s.heap.IsTuple a its.toArray from p) (by simp;lia) λh' Y=>⟨rfl,I.turned (t':=s.toks) (λb o g e=>Y b o g e) y A B C D⟩
 self:=λ_ _ _ _ _ st h=>wpAny_pyIter_tupleiter st h
def sg{K:PySem.W.Frag}(it:eW)(lo:Int)(n:Nat):Turn P w K L (OI lo n) [it] it (λi h=>IsRangeIter h it (lo+(i:Nat) * 1) ((n:Int) - (i:Nat)) 1) where
 mem:=by simp
 obj:=λi h st b c=>by
  have e:b=it:=by simpa using c
  subst e;show⟨_,st,λv z=>by
   have A:ì _=ZK v:=z;cases A⟩
 keep:=λi h h' st k=>k it (by simp) _ st
 item:=by
  intro X f g j l i a s σ H E I d st m;subst f g j;have⟨p,q,B,r,u,x⟩:=d it (by simp);have W:=Walks.range (prog:=X.prog) (w:=X.w) (I.ok.hd l) it lo 1 n;show W.item i s _ _ m st λv h' y C st' D=>?_;have⟨t,rfl⟩:=C;have G:Inv X a σ H {s with heap:=h',toks:=y}:=I.turned (λb o c e=>D b o (by simpa using c) e) p q r u x;show⟨_,rfl,xV (s:={s with heap:=h',toks:=y}) (n:="range_iterator") st' rfl rfl (by decide) ⟨.int (lo+i),H,G,⟨t,?_⟩,⟨rfl,rfl⟩,st',λb c=>(d b c).1⟩⟩;rw[Int.mul_one]
 done:=by
  intro X f g j l i a s σ H E I d st m;subst f g j;have⟨p,q,B,r,u,x⟩:=d it (by simp);show wpAny_pyNext_range_end (I.ok.hd l) st (by have:n<=i:=m;lia) λh' J=>⟨rfl,I.turned (t':=s.toks) (λb o c e=>J b o c e) p q r u x⟩
 self:=λ_ _ _ _ _ st h=>wpAny_pyIter_rangeiter st h
section
abbrev Fp(K:PySem.W.Frag)(c:TE):TI:=λσ H R=>c σ H λx b=>∃a,x=.ref a/\(∃xs,Iz K b a xs)/\R (Q5 K a) b
abbrev Hh(K:PySem.W.Frag)(c:TE):TI:=λσ H R=>c σ H λx b=>∃a,x=.ref a/\(∃xs,Ir K b a xs)/\R (Q6 K a) b
def AE(hl:PE X l f):PI X r l (Fp X.K f):=by
 intro c s σ H R I h;show HS (hl c s σ H _ I h) λv s1 g=>?_;have⟨x,i,d,j,k⟩:=g;obtain⟨a,e,⟨xs,m⟩,q⟩:=k;subst e;cases j;have⟨its,rv,p,hz⟩:=d.list m;show Rj p.isList ?_;show⟨s1.heap.objs.size,[s1.heap.objs.size],_,_,i,rfl,d.kept (t':=s1.toks) λb o e=>dt _ e,v8 a _,⟨_,i4 _ rfl,rfl,rfl⟩,λb n=>?_,q⟩;have e:b=s1.heap.objs.size:=by simpa using n
 subst e;show d.AD (kb _) (d.HN.fresh (kb _))
def Dk(hl:PE X l f):PI X r l (Hh X.K f):=by
 intro c s σ H R I h;show HS (hl c s σ H _ I h) λv s1 g=>?_;have⟨x,i,d,j,k⟩:=g;obtain⟨a,e,⟨xs,m⟩,q⟩:=k;subst e;cases j;have⟨its,rv,p,hz⟩:=d.tuple m;show QQ (show s1.heap.IsTuple a its.toArray from p) ?_;show⟨s1.heap.objs.size,[s1.heap.objs.size],_,_,i,rfl,d.kept (t':=s1.toks) λb o e=>dt _ e,sf a _,⟨_,i4 _ rfl,rfl,rfl⟩,λb n=>?_,q⟩;have e:b=s1.heap.objs.size:=by simpa using n
 subst e;show d.AD (kb _) (d.HN.fresh (kb _))
def ql{lo a:Int}(I:Inv X c σ H s)(g:-(2 ^ 62)<=lo)(h:lo<2 ^ 62)(i:-(2 ^ 62)<=a)(j:a<2 ^ 62)
  (q:R (OI lo (a - lo).toNat) H):eH (ke X.prog X.w) X.A (YK (.ref s.heap.objs.size)) (TU X c σ n R) E {s with heap:=s.heap.push {cls:=.type "range",data:=.fields #[.int lo t,.int a u,.int 1 v]},toks:=f}:=by
 show wpAny_pyIter_range (IsRange.new ..) (small_one g h i j) ?_;have d:Inv X c σ H {s with heap:=s.heap.push {cls:=.type "range",data:=.fields #[.int lo t,.int a u,.int 1 v]},toks:=f}:=I.kept λb o e=>dt _ e;show⟨(s.heap.push {cls:=.type "range",data:=.fields #[.int lo t,.int a u,.int 1 v]}).objs.size,[(s.heap.push {cls:=.type "range",data:=.fields #[.int lo t,.int a u,.int 1 v]}).objs.size],_,_,H,rfl,
  d.kept (t':=f) λb o e=>dt _ e,sg _ lo (a - lo).toNat,?_,λb k=>?_,q⟩
 .have l:lo+((0:Nat):Int) * 1=lo:=by simp
  have m:(((a - lo).toNat:Nat):Int) - ((0:Nat):Int)=ï lo a 1:=by rw[rangeSize_one];split<;>lia
  change IsRangeIter _ _ (lo+((0:Nat):Int) * 1) ((((a - lo).toNat:Nat):Int) - ((0:Nat):Int)) 1;rw[l,m];show i4 _ rfl
 .have e:b=(s.heap.push {cls:=.type "range",data:=.fields #[.int lo t,.int a u,.int 1 v]}).objs.size:=by simpa using k
  subst e;show d.AD (kb _) (d.HN.fresh (kb _))
abbrev Fq(a:TA):TI:=λσ H R=>a σ H λvs b=>∃j:Int,vs=[.int j]/\-(2 ^ 62)<=j/\j<2 ^ 62/\R (OI 0 j.toNat) b
abbrev Fs(a:TA):TI:=λσ H R=>a σ H λvs b=>∃i j:Int,vs=[.int i,.int j]/\(-(2 ^ 62)<=i/\i<2 ^ 62/\-(2 ^ 62)<=j/\j<2 ^ 62)/\R (OI i (j - i).toNat) b
def v9(d:Gl X "range")(f:X.mg "range"=b7)(g:PA X [a] i)(hs:lx [a] X.env=[(cc,JF a X.env)]:=by rfl):PI X o (.Call (.Name "range" p) [a] [] pos) (Fq i):=by
 intro b s σ H R I h;show Call_ (dW I d f boot_range (KU (HS (g pos b s σ H _ I h) λus s1 ⟨vs,u,k,l,c⟩=>?_) hs rfl));have⟨j,e,c,m,q⟩:=c;subst e;cases l with
 |cons r n =>
  cases n;have⟨t,rfl⟩:=r;show call_range_1 (ql k ⋯ ⋯ c m (by simpa using q))
def v_(k:Gl X "range")(l:X.mg "range"=b7)(m:PA X [a,b] n)(hs:lx [a,b] X.env=[(cc,JF a X.env),(cc,JF b X.env)]:=by rfl)(g:lx [b] X.env=[(cc,JF b X.env)]:=by rfl):
  PI X z (.Call (.Name "range" p) [a,b] [] pos) (Fs n):=by
 intro c s σ H R I h;show Call_ (dW I k l boot_range (KU (HS (m pos c s σ H _ I h) λus s1 ⟨vs,A,o,u,d⟩=>?_) (by rw[hs,g]) (by rw[g];rfl)));obtain⟨i,j,e,⟨d,v,w,x⟩,q⟩:=d;subst e;cases u with
 |cons r f =>
  cases f with
  |cons y f =>
   cases f;have⟨t,rfl⟩:=r;have⟨t',rfl⟩:=y;show call_range_2 (ql o d v w x q)
abbrev Hi(c:TI)(g:TG)(d:TS):TS:=λD σ H=>c σ H λJ e=>∃W:Nat->Nat->St->Hp->Prop,(∃m,W 0 m σ e)/\∀i m σ H,W i m σ H ->
 (J.stop i H/\D.nx σ H)\/(J.go i H/\∃N:St->Hp->Prop,(∀a H',N a H'->∃b,b<m/\W (i+1) b a H')/\∀x H',J.Qa i H x H'->g x σ H' λf h=>d {D with nx:=N,ct:=N,bk:=D.nx} f h)
abbrev k8(a:List eW)(h:Ks):List (eW×Obj):=a.filterMap λb=>(h.get? b).map λo=>(b,o)
def ft(a:b∈c)(e:h.get? b=bD o):(b,o)∈k8 c h:=Qd.mpr ⟨b,a,by rw[e];rfl⟩
def wa(a:p∈k8 c h):p.1∈c/\h.get? p.1=bD p.2:=by
 have⟨b,d,e⟩:=Qd.mp a;cases q:h.get? b with
 |none=>rw[q]at e;cases e
 |some o =>
  rw[q]at e;have f:(b,o)=p:=wk e;subst f;show⟨d,q⟩
def Inv.pinned(I:Inv X a σ H s)(h:∀b∈c,iN X a H b)(ho:∀b∈c,∃o,s.heap.get? b=bD o/\∀v,o.data≠.cell v):Inv X (a++k8 c s.heap) σ H s :=
 I.gK λp i=>(gj.mp i).elim (λz=>I.pin p (nC _ z)) λz=>by
  have⟨f,e⟩:=wa z;obtain⟨j,k,l,_⟩:=h p.1 f;have⟨o,g,d⟩:=ho p.1 f;rw[e]at g;cases g;show⟨e,j,k,l,d⟩
def Inv.k_(I:Inv X (a++c) σ H s):Inv X a σ H s:=I.gK λp b=>I.pin p (nC _ (tj _ b))
def Dl(t:XY (ke X.prog X.w) X.A X.env X.xe)(hc:X.calm=cb)(hi:PI X tg p wi)(hg:PG X tg g)(c:Jd X body tb)
  (hs:∀x,Ni p X.env x=pure x:=by intro _;rfl):PS X (.For tg p body [] pos) (Hi wi g tb):=by
 intro a s σ H D I h;show wpAny_For (HS (hi a s σ H _ I h) λv s1 h1=>HS h1 λQb s2 h2=>?_) hs;obtain⟨it,y,tn,J,H2,e,I2,T,st2,f2,W,⟨m0,w0⟩,z⟩:=h2;subst e;have O:∀{H':Hp},(∀b∈y,H' b=b7)->∀b∈y,iN X a H' b:=λhn b c=>⟨hn b c,(f2 b c).2⟩
 show codeAny_forLoop_any (λn s'=>∃i B H',Inv X a B H' s'/\tn i s'.heap/\(∀b∈y,H' b=b7)/\W i n B H') ?_ m0 ⟨0,σ,H2,I2,st2,λb c=>(f2 b c).1,w0⟩;rintro n s3 ⟨i,C,L,I3,st3,OJ,w3⟩;rcases z i n C L w3 with⟨G,qn⟩|⟨go,N,hN,ZS⟩
 .show ON t (HS (T.done X rfl rfl rfl hc i a s3 C L X.xe I3 (O OJ) st3 G) λr s4 Q9=>?_);have⟨Q,I4⟩:=Q9;subst Q;show R_ ⟨C,L,I4,qn⟩
 .show ON t (HS (T.item X rfl rfl rfl hc i a s3 C L X.xe I3 (O OJ) st3 go) λr s4 Q_=>?_);have⟨u,Q,h4⟩:=Q_;subst Q;show ON t (HS h4 λ_ s5 Ra=>?_);have⟨x,H5,I5,r5,y5,Y,Rb⟩:=Ra;have Rc:=I5.pinned (O Rb) (T.obj _ _ Y);show ON t (HS (hg _ s5 C H5 x u _ Rc r5 (ZS x H5 y5)) λ_ s6 Rf=>?_);have⟨σ6,H6,I6,q6⟩:=Rf;show ON t (HS (c _ s6 σ6 H6 _ I6 q6) λf s7 q=>?_);have Ē:∀{j:St} {k:Hp},Inv X (a++k8 y s5.heap) j k s7->N j k->∃m,m<n/\∃i B H',Inv X a B H' s7/\tn i s7.heap/\(∀b∈y,H' b=b7)/\W i m B H':=λ{j k} l n7=>by
   have⟨m',hm,w7⟩:=hN j k n7;show⟨m',hm,i+1,j,k,l.k_,T.keep _ _ _ Y λb c o e=>(l.pin (b,o) (nC _ (nC _ (ft c e)))).1,λb c=>?_,w7⟩;have⟨o,e,d⟩:=T.obj _ _ Y b c;show(l.pin (b,o) (nC _ (nC _ (ft c e)))).2.1
  cases f with
  |brk=>have⟨j,k,l,q⟩:=q;show⟨j,k,l.k_,q⟩
  |ret v=>have⟨x7,j,k,l,r7,q⟩:=q;show⟨x7,j,k,l.k_,r7,q⟩
  |_=>have⟨j,k,l,n7⟩:=q;show Ē l n7
end
@[reducible]def R2:=V->V->Hp->VK->Prop
abbrev JO(X:Cx)(f:d4->d4->Sem d4)(r:R2):Prop :=
 ∀(a:List (eW×Obj)) (s:hY) (σ:St) (H:Hp) (x y:V) (v u:d4) (Q:VK),Inv X a σ H s->RelV x v->RelV y u->r x y H Q ->
  eH (ke X.prog X.w) X.A (f v u) (EP X a σ Q) X.xe s
abbrev fX(X:Cx)(f:d4)(r:List V->Hp->VK->Prop):Prop :=
 ∀(a:List (eW×Obj)) (s:hY) (σ:St) (H:Hp) (xs:List V) (us:List d4) (Q:VK),Inv X a σ H s->Vals xs us->r xs H Q ->
  eH (ke X.prog X.w) X.A (PU f us) (EP X a σ Q) X.xe s
abbrev Hj(X:Cx)(r:V->Hp->(Bool->Hp->Prop)->Prop):Prop :=
 ∀(a:List (eW×Obj)) (s:hY) (σ:St) (H:Hp) (x:V) (v:d4) (Q:Bool->Hp->Prop),Inv X a σ H s->RelV x v->r x H Q ->
  eH (ke X.prog X.w) X.A (Ć v) (TP X a σ Q) X.xe s
abbrev rI(C:Int->Int->Prop)(g:Int->Int->V):R2:=λx y H Q=>∃i j,x=.int i/\y=.int j/\C i j/\Q (g i j) H
abbrev Nd(g:Int->Int->V):R2:=λx y H Q=>∃i j,x=.int i/\y=.int j/\Q (g i j) H
section
def Qc{g:Int->Int->Int}
  (Ĉ:∀(i j:Int) (t u:Tok) (s:hY) (Q:d4->hY->Prop) (E:d4->hY->Prop),C i j->Q (.int (g i j) s.toks) {s with toks:=s.toks+1}->eH (ke X.prog X.w) X.A (f (.int i t) (.int j u)) Q E s) :
  JO X f (rI C λi j=>.int (g i j)):=by
 intro a s σ H x y v u Q I b c h;have⟨i,j,rfl,rfl,d,q⟩:=h;have⟨t,rfl⟩:=b;have⟨t',rfl⟩:=c;show Ĉ i j t t' s _ _ d ⟨.int (g i j),H,I.tok _,⟨_,rfl⟩,q⟩
def Ft{g:Int->Int->Int}
  (Ĉ:∀(i j:Int) (t u:Tok) (s:hY) (Q:d4->hY->Prop) (E:d4->hY->Prop),Q (.int (g i j) s.toks) {s with toks:=s.toks+1}->eH (ke X.prog X.w) X.A (f (.int i t) (.int j u)) Q E s) :
  JO X f (Nd λi j=>.int (g i j)):=by
 intro a s σ H x y v u Q I b c h;have⟨i,j,rfl,rfl,q⟩:=h;have⟨t,rfl⟩:=b;have⟨t',rfl⟩:=c;show Ĉ i j t t' s _ _ ⟨.int (g i j),H,I.tok _,⟨_,rfl⟩,q⟩
def Dm{g:Int->Int->Bool}
  (Ĉ:∀(i j:Int) (t u:Tok) (s:hY) (Q:d4->hY->Prop) (E:d4->hY->Prop),Q (.bool (g i j)) s->eH (ke X.prog X.w) X.A (f (.int i t) (.int j u)) Q E s) :
  JO X f (Nd λi j=>.bl (g i j)):=by
 intro a s σ H x y v u Q I b c h;have⟨i,j,rfl,rfl,q⟩:=h;have⟨t,rfl⟩:=b;have⟨t',rfl⟩:=c;show Ĉ i j t t' s _ _ ⟨.bl (g i j),H,I,rfl,q⟩
abbrev Hk(i j:Int):Prop:=0<j/\j<1073741824
abbrev Hl(i j:Int):Prop:=0<=j/\j<=1000000/\i.natAbs<2 ^ 64
abbrev Dn(i j:Int):Prop:=(-(2 ^ 64)<i/\i<2 ^ 64)\/(-(2 ^ 64)<j/\j<2 ^ 64)
def Dn.ok(h:Dn i j):IntMulOk i j:=by
 rcases h with⟨a,b⟩|⟨a,b⟩
 .show .of_left (intBits_le_64 a b)
 .show .of_right (intBits_le_64 a b)
def dG:JO X (Qg .Add) (Nd λi j=>.int (i+j)):=Ft λ_ _ _ _ _ _ _ q=>add_int q
def la:JO X (Qg .Sub) (Nd λi j=>.int (i - j)):=Ft λ_ _ _ _ _ _ _ q=>sub_int q
def oJ:JO X (Qg .Mult) (rI Dn λi j=>.int (i * j)):=Qc λ_ _ _ _ _ _ _ a q=>mul_int q a.ok
def AF:JO X (Qg .FloorDiv) (rI Hk λi j=>.int (i / j)):=Qc λi j _ _ _ _ _ a q=>by
 have b:(0:Int)<j:=a.1;have c:j<1073741824:=a.2;show floordiv_int ⋯ (by rw[Int.fdiv_eq_ediv_of_nonneg i ⋯];show q) (.inl (PyProof.noPylong_small ⋯))
def bK:JO X (Qg .Mod) (rI (λ_ j=>0<j) λi j=>.int (i % j)):=Qc λi j _ _ _ _ _ a q=>by
 have b:(0:Int)<j:=a;show mod_int' ⋯ (by rw[Int.fmod_eq_emod_of_nonneg i ⋯];show q)
def oK:JO X (Qg .Pow) (rI Hl λi j=>.int (i ^ j.toNat)):=Qc λ_ _ _ _ _ _ _ a q=>pow_int_small a.1 a.2.1 a.2.2 q
end
section
def Fu:JO X (OV .Lt) (Nd λi j=>.bl (df (i<j))):=Dm λ_ _ _ _ _ _ _ q=>lt_int q
def Fv:JO X (OV .Gt) (Nd λi j=>.bl (df (j<i))):=Dm λ_ _ _ _ _ _ _ q=>gt_int q
def Fw:JO X (OV .GtE) (Nd λi j=>.bl (df (j<=i))):=Dm λ_ _ _ _ _ _ _ q=>ge_int q
abbrev Fx(K:PySem.W.Frag)(x:V)(H:Hp)(k:Bool):Prop :=
 match x with
 |.HX=>k=cc
 |.bl b=>k=b
 |.int i=>k=(i != 0)
 |.str y=>y.length<=c4/\k=((y.length:Int) != 0)
 |.P6 y=>y.size<=c4/\k=((y.size:Int) != 0)
 |.ref p=>(∃xs,Iz K H p xs/\k=!xs.isEmpty)\/(∃xs,Ir K H p xs/\k=!xs.isEmpty)\/∃kvs,H p=bD (.dK kvs)/\k=!kvs.isEmpty
 |_=>False
def si(r:KV kvs vs):(!vs.isEmpty)=!kvs.isEmpty:=by
 cases r<;>rfl
def lh(r:Vals xs its):(!its.toArray.isEmpty)=!xs.isEmpty:=by
 cases r<;>simp
def fY:(c4:Nat)<2 ^ 63:=by rw[sizeLine_eq];decide
def Dp:Hj X (λx H Q=>∃k,Fx X.K x H k/\Q k H):=by
 intro j s σ H x v Q I d h;have⟨k,e,q⟩:=h;have hl:=fY;have hs:c4=16777216:=sizeLine_eq;cases x with
 |HX =>
  cases d;have a:k=cc:=e;subst a;show truthy_none ⟨H,I,q⟩
 |bl b =>
  cases d;have a:k=b:=e;subst a;show Jt ⟨H,I,q⟩
 |int i =>
  have⟨t,rfl⟩:=d;have a:k=(i != 0):=e;subst a;show PySem.P.truthy_int ⟨H,I,q⟩
 |str y =>
  have⟨t,rfl⟩:=d;obtain⟨l,a⟩:y.length<=c4/\k=((y.length:Int) != 0):=e;subst a;show PySem.P.truthy_str ⋯ ⟨H,I.tok _,q⟩
 |P6 y =>
  have⟨t,rfl⟩:=d;obtain⟨l,a⟩:y.size<=c4/\k=((y.size:Int) != 0):=e;subst a;show PySem.W.truthy_bytes ⋯ ⟨H,I.tok _,q⟩
 |ref p =>
  cases d;have a:(∃xs,Iz X.K H p xs/\k=!xs.isEmpty)\/(∃xs,Ir X.K H p xs/\k=!xs.isEmpty)\/∃kvs,H p=bD (.dK kvs)/\k=!kvs.isEmpty:=e;rcases a with⟨xs,f,a⟩|⟨xs,f,a⟩|⟨kvs,f,a⟩
  .subst a;have⟨its,r,g,hz⟩:=I.list f;have c:=r.length;show wpAny_truthy_list g.isList (by simp only[i5];lia) ⟨H,I.tok _,by rw[lh r];show q⟩
  .subst a;have⟨its,r,g,hz⟩:=I.tuple f;have c:=r.length;show truthy_tuple g (by simp only[i5];lia) ⟨H,I.tok _,by rw[lh r];show q⟩
  .subst a;obtain⟨hz,n,vs,r,m⟩:kvs.length<=c4/\(p==JP)=cc/\∃vs,KV kvs vs/\s.heap.DictOf (aT X.prog X.w) p vs:=I.HN p _ f;have c:kvs.length=vs.length:=Paired.length r;show wpAny_truthy_dict n m ⋯ ⟨H,I.tok _,by rw[si r];show q⟩
 |_=>show(show False from e).elim
def xW(d:PE X a e)(f:∀b,isTrue a X.env b=(do let v <-b;Yw a.pos;Nc [v] (Ć v))):
  PT X a (λσ H Q=>e σ H λx H'=>∃k,Fx X.K x H' k/\Q k H'):=by
 intro c s σ H Q I h;show isTrue_plain (HS (d c s σ H _ I h) λv s1 ⟨x,g,i,j,l⟩=>Dp c s1 σ g x v Q i j l) (f _)
def sj:JO X (Qg .Add) (λx y H Q=>∃i j,x=.str i/\y=.str j/\i.length+j.length<=c4/\Q (.str (i++j)) H):=by
 intro a s σ H x y v u Q I b c h;have⟨i,j,rfl,rfl,hz,q⟩:=h;have⟨t,rfl⟩:=b;have⟨t',rfl⟩:=c;show add_str (λt' d=>⟨.str (i++j),H,I.tok _,⟨_,rfl⟩,q⟩) hz
def vals1(r:Vals [x] us):∃u,us=[u]/\RelV x u:=by
 cases r with
 |cons a b=>cases b;show⟨_,rfl,a⟩
def vals2(r:Vals [x,y] us):∃u a,us=[u,a]/\RelV x u/\RelV y a:=by
 cases r with
 |cons b c =>
  cases c with
  |cons d e=>cases e;show⟨_,_,rfl,b,d⟩
def oM:fX X (.type "str") (λxs H Q=>∃i,xs=[.int i]/\i.natAbs.log2<1920/\Q (.str (YE i)) H):=by
 intro a s σ H xs us Q I r h;have⟨i,rfl,hz,q⟩:=h;have⟨u,rfl,t,rfl⟩:=vals1 r;show PySem.P.str_of_int hz ⟨.str _,H,I.tok _,⟨_,rfl⟩,q⟩
end
section
end
def kA.some_of(r:kA (bD v) o):∃u,o=bD u/\RelV v u:=by
 cases o with
 |none=>show(show False from r).elim
 |some u=>show⟨u,rfl,r⟩
section
end
structure Vg(K:PySem.W.Frag)(C:eW):Prop where
 pg:PySem.W.plainGet K C ri=cb
 hd:PySem.W.hasDictIn K C=cb
 po:PySem.W.plainOver K C=cb
 sa:PySem.W.findIn K (.ref C) "__setattr__"=bD (bD (.builtin "object.__setattr__"))
section
end
section
end
section
inductive lj(K:PySem.W.Frag)(H:Hp):V->d4->Prop where
 |HX:lj K H .HX (.type "NoneType")
 |bl (x:Bool):lj K H (.bl x) (.type "bool")
 |int (i:Int):lj K H (.int i) (.type "int")
 |str (x:Str):lj K H (.str x) (.type "str")
 |P7 (x:UInt64):lj K H (.P7 x) (.type "float")
 |lst {a:eW} {xs:List V} (e:H a=bD (.lst xs)):lj K H (.ref a) (.type "list")
 |KG {a:eW} {o:Obj} {xs:List V} (e:H a=bD (.KG o (.lst xs))):lj K H (.ref a) (.type "list")
 |tup {a:eW} {xs:List V} (e:H a=bD (.tup xs)):lj K H (.ref a) (.type "tuple")
 |dK {a:eW} {kvs:List (Key×V)} (e:H a=bD (.dK kvs)):lj K H (.ref a) (.type "dict")
 |dT {a:eW} {kvs:List (List Key×V)} (e:H a=bD (.dT kvs)):lj K H (.ref a) (.type "dict")
 |ins {a C dx:eW} {fs:List (Str×V)} (e:H a=bD (.ins C dx fs)) (cl:Vg K C) (ha:PySem.W.findIn K (.ref C) "__class__"=bD (bD (.builtin "object.__class__")))
   (hn:PySem.W.specialIn K (.builtin "object.__class__") "__get__"=bD (bD (.builtin "getset_descriptor.__get__"))) (Vh:PySem.W.takesIn K (.builtin "object.__class__")=bD cb)
   (hm:PySem.W.mroIn K C (.type "object")=bD cb):lj K H (.ref a) (.ref C)
end
structure fT(k:Nat)(A:OM):Prop where
 hd:A.handled=b7
 dp:A.depth+3 * k+5<ĉ
 un:A.units+16 * k+200<IF
 gd:A.guards=bD []
def fT.deeper(r:fT (k+1) A)(env:Env):fT k (A.deeper env) :=
 ⟨r.hd,by have:=r.dp;change A.depth+1+3 * k+5 < _;lia,by have:=r.un;change A.units+3+16 * k+200 < _;lia,r.gd⟩
def fT.depth(r:fT k A):A.depth<ĉ:=by have:=r.dp;lia
abbrev Hm:TA:=λ_ H Q=>Q [] H
abbrev Fy(a:TE)(tr:TA):TA:=λσ H Q=>a σ H λx b=>tr σ b λxs c=>Q (x::xs) c
section
def iq:PA X [] Hm:=λ_ _ _ _ H Q I h=>Qk ⟨[],H,I,.nil,h⟩
def dy(b:PE X e te)(c:PA X es t)(hs:lx (e::es) X.env=(cc,JF e X.env)::lx es X.env:=by rfl):PA X (e::es) (Fy te t):=by
 intro pos a s σ H Q I h;rw[hs];change eH _ _ (Ú ((cc,JF e X.env)::KW pos (lx es X.env))) _ _ s;show NM (HS (b a s σ H _ I h) λu s1 d=>?_);have⟨x,f,g,i,j⟩:=d;show HS (c pos a s1 σ f _ g j) λus s2 ⟨xs,k,l,m,n⟩=>⟨x::xs,k,l,.cons i m,n⟩
end
@[reducible]def Sp:=List V->Hp->VK->XK->Prop
@[reducible]def Nf:=List Env->Hp->hY->XK->d4->hY->Prop
structure AG(P:w6)(w:Ie)(K:PySem.W.Frag)(mg:Str->Option d4)(base:Ks)(A:OM)(outer:List Env)(s:hY)(H:Hp):Prop where
 frames:A.frames=bD outer
 mod:Mod K mg base
 bs:∀b o,base.get? b=bD o->s.heap.get? b=bD o/\H b=b7
 Mg:base.objs.size<=s.heap.objs.size
 kB:s.heap.FunFrames base outer
 M_:∀b∈IG outer,H b=b7
 HN:IX P w H s.heap
 bare:Tf s.gens
abbrev CE(outer:List Env)(P:w6)(w:Ie)(H:Hp)(s:hY)(Q:VK)(u:d4)(s':hY):Prop :=
 ∃v H',s'.os=s.os/\Tf s'.gens/\Un (IG outer) [] H H' s.heap s'.heap/\IX P w H' s'.heap/\RelV v u/\Q v H'
abbrev CR(CX:Nf)(outer:List Env)(P:w6)(w:Ie)(H:Hp)(s:hY)(Q:VK)(E:XK)(r:Result)(s':hY):Prop :=
 match r with
 |.ok (.ret u)=>CE outer P w H s Q u s'
 |.ok _=>False
 |.error e=>CX outer H s E e s'
structure jB(P:w6)(w:Ie)(K:PySem.W.Frag)(mg:Str->Option d4)(base:Ks)(CX:Nf)(k:Nat)(f:eW)(fd:SN)(ps:List Str)(sp:Sp):Prop where
 len:∀vs H Q E,sp vs H Q E->vs.length=ps.length
 run:∀(A:OM) (outer:List Env) (s:hY) (H:Hp) (args:Args) (us:List d4) (vs:List V) (Q:VK) (E:XK),fT k A->AG P w K mg base A outer s H->ZA s fd args (ps.zip us)->Vals vs us->sp vs H Q E ->
  Sq (ke P w) A (.call (.ref f) args) (CR CX outer P w H s Q E) s
section
def Inv.Fz(I:Inv X a σ H s):AG X.prog X.w X.K X.mg X.base X.A X.stack s H :=
 ⟨I.ok.frames,I.ok.mod,I.bs,ve I.ok.Mg I.sz,I.stack,I.kK,I.HN,I.bare⟩
def Inv.after(I:Inv X a σ H s)(h:CE X.stack X.prog X.w H s Q u s'):EP X a σ Q u s':=by
 have⟨v,H',os,c,e,f,r,q⟩:=h;have⟨hh,g,d,t,i⟩:=s';obtain rfl:i=s.os:=os;show⟨v,H',I.call (h':=hh) (g':=g) (d':=d) (t':=t) (ch:=[]) e f c (λb z=>absurd z (by simp)),r,q⟩
end
abbrev Binds(K:PySem.W.Frag)(a:SN)(ps:List Str)(ds:List d4):Prop :=
 ∀(s:hY) (us:List d4),K.In s.heap->(us++ds).length=ps.length->ZA s a ⟨us,[]⟩ (ps.zip (us++ds))
def Binds.all{K:PySem.W.Frag}(h:∀us:List d4,us.length=ps.length->ď a ⟨us,[]⟩=pure (ps.zip us)):Binds K a ps []:=λs us _ hl=>by
 rw[vu]at hl ⊢;show .of_eq (h us hl)
abbrev Passes(CX:Nf)(X:Cx)(E:XK):Prop:=∀(a:List (eW×Obj)) (σ:St) (H:Hp) (s:hY) (e:d4) (s':hY),Inv X a σ H s->CX X.stack H s E e s'->X.xe e s'
section
def xX(F:jB X.prog X.w X.K X.mg X.base CX k f g ps sp)(i:fT k X.A)(j:Binds X.K g ps ds)(l:Vals b ds)(m:Passes CX X E)
  (I:Inv X a σ H s) (r:Vals vs us) (h:sp (vs++b) H Q E):eH (ke X.prog X.w) X.A (PU (.ref f) us) (EP X a σ Q) X.xe s:=by
 have d:Vals (vs++b) (us++ds):=r.append l;have hl:(us++ds).length=ps.length:=by rw[<-d.length];show F.len _ _ _ _ h
 show Ç (So (F.run X.A X.stack s H ⟨us,[]⟩ (us++ds) (vs++b) Q E i I.Fz (j s us I.L0 hl) d h) λr s' c=>?_);cases r with
 |error e=>show m a σ H s e s' I c
 |ok n =>
  cases n with
  |ret u=>show I.after c
  |_=>show NT c
end
section
end
structure eE(N P:List Str)(sc:Nj):Prop where
 kind:sc.kind=.function
 co:sc.isCoroutine=cc
 gen:sc.isGenerator=cc
 nd:N.Nodup
 pre:N.take P.length=P
 par:∀x∈P,sc.names.lookup x=bD .local\/sc.names.lookup x=bD .cell
 Ng:∀y∈sc.names,y.2≠.free
theorem nI{kindOf:Str->Option ME}:∀{a:List (Str×d4)}{m:Str->Option d4},(∀v,(x,v)∉a)->Zh kindOf a m x=m x
 |[],_,_=>rfl
 |(n,v)::r,m,h=>by
  unfold Zh;rw[nI λw b=>h w (kj _ b)];split
  .have:x≠n:=by rintro rfl;show h v lg
   simp[this]
  .rfl
theorem nJ{kindOf:Str->Option ME}:∀{a:List (Str×d4)}{m:Str->Option d4},(∀v,(x,v)∉a)->Zi kindOf a m x=m x
 |[],_,_=>rfl
 |(n,v)::r,m,h=>by
  unfold Zi;rw[nJ λw b=>h w (kj _ b)];split
  .rfl
  .have:x≠n:=by rintro rfl;show h v lg
   simp[this]
theorem nK{kindOf:Str->Option ME}:∀{P:List Str}{vs:List d4}{i:Nat}{m:Str->Option d4},P.Nodup->P[i]?=bD x->vs[i]?=bD v->kindOf x=bD .local ->
  Zh kindOf (P.zip vs) m x=bD v
 |[],_,_,_,_,h,_,_=>by simp at h
 |_::_,[],_,_,_,_,h,_=>by simp at h
 |p::P,w::vs,0,m,c,a,b,hk=>by
  simp at a b;subst a;subst b;change Zh kindOf ((p,w)::P.zip vs) m p=_;unfold Zh;rw[nI λv d=>(nc.mp c).1 (Rz d).1,ĝ hk];simp
 |p::P,w::vs,i+1,m,c,a,b,hk=>by
  change Zh kindOf ((p,w)::P.zip vs) m x=_;unfold Zh;show nK (i:=i) (nc.mp c).2 (by simpa using a) (by simpa using b) hk
theorem nL{kindOf:Str->Option ME}:∀{P:List Str}{vs:List d4}{i:Nat}{m:Str->Option d4},P.Nodup->P[i]?=bD x->vs[i]?=bD v->kindOf x≠bD .local ->
  Zi kindOf (P.zip vs) m x=bD v
 |[],_,_,_,_,h,_,_=>by simp at h
 |_::_,[],_,_,_,_,h,_=>by simp at h
 |p::P,w::vs,0,m,c,a,b,hk=>by
  simp at a b;subst a;subst b;change Zi kindOf ((p,w)::P.zip vs) m p=_;unfold Zi;rw[nJ λv d=>(nc.mp c).1 (Rz d).1,ğ hk];simp
 |p::P,w::vs,i+1,m,c,a,b,hk=>by
  change Zi kindOf ((p,w)::P.zip vs) m x=_;unfold Zi;show nL (i:=i) (nc.mp c).2 (by simpa using a) (by simpa using b) hk
abbrev start(N:List Str)(vs:List V):St:=vs.map bD++mx (N.length - vs.length) b7
abbrev qm(CX:Nf)(P:w6)(w:Ie)(K:PySem.W.Frag)(mg:Str->Option d4)(base:Ks)(N:List Str)(a:Str)(scope:Nj)(f:eW)(b:d4)(A:OM)(outer:List Env)(s:hY)(H:Hp)(E:XK):Cx where
 prog:=P
 w:=w
 K:=K
 mg:=mg
 base:=base
 A:=A.deeper (Uj a scope s.heap.objs.size f b)
 N:=N
 s₀:=s
 H₀:=H
 env:=Uj a scope s.heap.objs.size f b
 outer:=outer
 stack:=Uj a scope s.heap.objs.size f b::outer
 ex:=[]
 calm:=cb
 fn:=λ_=>cb
 pn:=[]
 xe:=λe s'=>eH (ke P w) (A.deeper (Uj a scope s.heap.objs.size f b)) (leaving (Uj a scope s.heap.objs.size f b) e) (λ_ c=>CX outer H s E e c) (λd c=>CX outer H s E d c) s'
def qo{a:Nj}(h:a.names.lookup x=bD .cell):∃c,(Nb n a.names []).lookup x=bD c:=by
 have q:=PySem.W.cellsFrom_some a.names n [] (.inl h);show P0.mp q
def wb{K:PySem.W.Frag}
  (S:eE N ps scope) (G:A.handled=b7) (j:AG P w K mg base A outer s H) (hl:vs.length=ps.length) (r:Vals vs us)
  (x:InCallC s s.heap.objs.size (Zh (Uj g scope s.heap.objs.size f t).kindOf (ps.zip us) λ_=>b7) (Nb (s.heap.objs.size+1) scope.names []) (Zi (Uj g scope s.heap.objs.size f t).kindOf (ps.zip us) λ_=>b7) s1) :
  Inv (qm CX P w K mg base N g scope f t A outer s H E) [] (start N vs) H s1:=by
 have J:ps.length<=N.length:=by have:=ġ tA S.pre;rw[vr]at this;lia
 have⟨m,L,rfl,hk⟩:=x.done;have B:∀b:eW,b∉(qm CX P w K mg base N g scope f t A outer s H E).ex:=λb z=>absurd (show b∈([]:List eW) from z) (by simp);show⟨⟨j.mod,S.kind,rfl,rfl,kb _,λy z c m d=>?_,λy hy=>?_,λy c _ h=>?_,λ_=>G,Around.frames_deeper j.frames,.inr ⟨rfl,rfl⟩,λb z=>absurd z (B b),j.bs,j.Mg,λb _ _=>B b,λb z=>absurd z (B b),j.kB,j.M_⟩,
  rfl,j.bare,Un.kept hk,⟨_,x.toInCall.ns,λi y v m d O=>?_⟩,λy c h=>⟨_,x.cell y c h⟩,j.HN.fresh (kb _),λy c h=>?_,λp l=>absurd (show p∈([]:List (eW×Obj)) from l) (by simp),j.HN.kept hk,?_⟩
 .show name_of_addr x.apart (PySem.mem_of_lookup m) (PySem.mem_of_lookup d)
 .have hy:scope.names.lookup y=bD .cell\/scope.names.lookup y=bD .free:=hy;rcases hy with hy|hy
  .show qo hy
  .show absurd rfl (S.Ng _ (PySem.mem_of_lookup hy))
 .show M3 (x.above y c (PySem.mem_of_lookup h))
 .have o:i<vs.length:=by
   unfold start at d;by_cases o:i<vs.length
   .show o
   .rw[sx (by simpa using o)]at d;rw[KZ]at d;split at d<;>cases d
  have I:vs[i]?=bD v:=by
   unfold start at d;rw[vl (by simpa using o),my]at d;cases e:vs[i]? with
   |none=>rw[e]at d;cases d
   |some a=>rw[e]at d;cases d;rfl
  have⟨u,C,rv⟩:=r.get I;have l:ps[i]?=bD y:=by
   rw[<-S.pre,Yl ⋯];show m
  have D:ps.Nodup:=by rw[<-S.pre];show S.nd.sublist (ZE _ _)
  show⟨u,rv,?_⟩;rcases S.par y (pb l) with k|k
  .show .inl ⟨k,nK D l C k⟩
  .have⟨c,e⟩:=qo (n:=s.heap.objs.size+1) k;show .inr ⟨.inl k,c,e,?_⟩;have q:=x.cell y c e;rw[nL D l C (by change scope.names.lookup y≠_;rw[k];decide)]at q;show q
 .show j.HN.fresh (M3 (x.above y c (PySem.mem_of_lookup h)))
 .unfold start;change _=N.length;rw[gs,cK,Q7];lia
def CB{K:PySem.W.Frag}{z kV g B d ct G:d4}
 (lk:K.lookup f=bD ⟨G,od,.func (PySem.W.fnOf name a c body scope z kV g B L d ct),Nh⟩) (O:PySem.W.codeIn K d a=cb) (S:eE N ps scope)
    (h:∀vs H Q E,sp vs H Q E->vs.length=ps.length)
    (T:∀(A:OM) (outer:List Env) (s:hY) (H:Hp) (vs:List V) (Q:VK) (E:XK),fT k (A.deeper (Uj a scope s.heap.objs.size f d))->sp vs H Q E ->
      ∃t,Jd (qm CX P w K mg base N a scope f d A outer s H E) body t/\t {nx:=λ_ H'=>Q .HX H',rt:=Q} (start N vs) H) :
    jB P w K mg base CX (k+1) f (PySem.W.fnOf name a c body scope z kV g B L d ct) ps sp:=by
  show⟨h,λA outer s H args us vs Q E m i Y r C=>?_⟩;have hl:=h _ _ _ _ C;have D:K.In s.heap:=i.mod.N2.keeps λb o e=>(i.bs b o e).1;have p:s.heap.NoLimit:=i.mod.nolimit.keeps λb o e=>(i.bs b o e).1;have OL:∀y∈ps.zip us,scope.names.lookup y.1=bD .local\/(scope.names.lookup y.1=bD .cell/\((Nb (s.heap.objs.size+1) scope.names []).lookup y.1).isSome=cb):=λ⟨n,v⟩ hy=>by
    rcases S.par n (Rz hy).1 with q|q
    . show .inl q
    . show .inr ⟨q,PySem.W.cellsFrom_some _ _ _ (.inl q)⟩
  show codeAny_call_function m.depth (D _ _ lk) rfl S.co S.gen rfl (PySem.W.codeRec_of D O) (Y _ _ _ _ ?_);show wpAny_newFunctionEnv_cells S.kind OL λenv he s1 x=>?_;subst he;show⟨p.keeps x.toInCall.keep,codeAny_func ?_⟩;have⟨t,ht,hq⟩:=T A outer s H vs Q E (m.deeper _) C;have I:Inv (qm CX P w K mg base N a scope f d A outer s H E) [] (start N vs) H s1:=wb S m.hd i hl r x;show ti (ht [] s1 (start N vs) H _ I hq) (λfl s' hs=>?_) λe s' hs=>hs;have j:∀{l:St} {H':Hp} {v:V} {u:d4},Inv (qm CX P w K mg base N a scope f d A outer s H E) [] l H' s'->RelV v u->Q v H'->CE outer P w H s Q u s' :=
    λ{l H' v u} J rv q=>⟨v,H',J.os,J.bare,J.base,J.HN,rv,q⟩
  cases fl with
  | ret u =>
    have⟨v,l,H',J,rv,q⟩:=hs;show j J rv q
  | next =>
    have⟨l,H',J,q⟩:=hs;show j (v:=V.HX) (u:=rz) J rfl q
  | brk =>
    obtain⟨_,_,_,q⟩:=hs;show NT q
  | cont =>
    obtain⟨_,_,_,q⟩:=hs;show NT q
section
end
end L2
namespace HT
open PySem PyProof.Rows
section
open PySem.SeqAt
open PySem.AutoSeq1 (wpAny_loadPart')
open PySem.MeetsSeq PySem.MeetsSeq2 PySem.MeetsSeq3
end
section
def AH(o:Z3 s.heap t vs.toArray)(p:Z3 s.heap b ws.toArray)(f:vs≠[])
  (q:ws=[]->Q (.ref t) s) (r:ws≠[]->Q (.ref s.heap.objs.size) {s with heap:=s.heap.push {cls:=.type "tuple",data:=.seq (vs++ws).toArray}})
  (hsz:vs.length+ws.length<=c4):eH (ke prog w) A (Qg .Add (.ref t) (.ref b)) Q E s:=by
 obtain⟨⟨cls,dd,data,g⟩,ho,h,n,i⟩:=id o;obtain⟨⟨u,j,data2,k⟩,c,l,m,a⟩:=id p;simp only at h i l a;subst h i l a;have e:vs.toArray++ws.toArray=(vs++ws).toArray:=by simp
 by_cases d:ws=[]
 .show Xi ⟨_,ho,rfl⟩ ⟨_,c,rfl⟩ XM Y4 PySem.F.slot_tuple_add PySem.F.entry_tuple_add (PySem.F.args_tuple_add_2 _ _)
   (tuple_addW1 t b vs.toArray ws.toArray n m dd j g k (by simpa using f) (by simp[d])) ⟨ho,c,q d⟩
 .show Xi ⟨_,ho,rfl⟩ ⟨_,c,rfl⟩ XM Y4 PySem.F.slot_tuple_add PySem.F.entry_tuple_add (PySem.F.args_tuple_add_2 _ _)
   (tuple_addW2 t b vs.toArray ws.toArray n m dd j g k (by simpa using f) (by simpa using d) (by rw[i5,i5];show hsz)) ⟨ho,c,?_⟩
  rw[e];show r d
abbrev HY(n d:Nat):Option Int->Nat
 |none=>d
 |some v=>if v<0 then(v+(n:Int)).toNat else min v.toNat n
def qp(n d:Nat):HY n d b7=d:=rfl
def ur(n d k:Nat):HY n d (bD (k:Int))=min k n:=by
 change(if (k:Int)<0 then((k:Int)+(n:Int)).toNat else min (k:Int).toNat n)=min k n;rw[ğ ⋯,Lv]
def Dq(n d:Nat)(b:d<=n)(o:Option Int):HY n d o<=n:=by
 cases o with
 |none=>show b
 |some v =>
  change(if v<0 then(v+(n:Int)).toNat else min v.toNat n)<=n;by_cases a:v<0
  .rw[ĝ a];lia
  .rw[ğ a];show Nat.min_le_right _ _
def uu(v:Int)(n d:Nat):(if v<0 then max (v+(n:Int)) 0 else min v (n:Int))=((HY n d (bD v):Nat):Int):=by
 change(if v<0 then max (v+(n:Int)) 0 else min v (n:Int))=(((if v<0 then(v+(n:Int)).toNat else min v.toNat n):Nat):Int)
 by_cases a:v<0
 .simp only[ĝ a];lia
 .simp only[ğ a];lia
def so(lo a:Option Int)(n:Nat):Rn lo a 1 (n:Int)=(((HY n 0 lo:Nat):Int),((HY n n a:Nat):Int)):=by
 have b:¬((1:Int)<0):=by lia
 unfold Rn;simp only[b,Ĥ];show SO ?_ ?_
 .cases lo with
  |none=>rfl
  |some v=>show uu v n 0
 .cases a with
  |none=>rfl
  |some v=>show uu v n n
def sr(i j:Nat):N8 (i:Int) (j:Int) 1=j - i:=by
 unfold N8;have a:(1:Int)>0:=by lia
 simp only[a,ĥ,Int.ediv_one];split<;>lia
def ll(p:Vb v o)(h:Q o s):eH (ke prog w) A (í v) Q E s:=by
 cases p with
 |none=>show ė h
 |int i t=>show slicePart_int h
def eR{lo a:Option Int}{n:Nat}(hs:s.heap.IsSliceOf f d e .none)(g:Vb d lo)(i:Vb e a)
  (h:Q (((HY n 0 lo:Nat):Int),1,HY n n a - HY n 0 lo) s):eH (ke prog w) A (UP (.ref f) (pure (n:Int))) Q E s:=by
 have⟨os,b,j,c⟩:=id hs;unfold UP î;show b8 (b8 (Q0 b c (x:=d) rfl (b8 (Q0 b c (x:=e) rfl (b8 (Q0 b c (x:=.none) rfl (dV ?_)))))));show b8 (ė ?_);change eH _ _ (if ((1:Int)==0)=cb then _ else _) _ _ s;rw[ğ (by decide)];show b8 (ll g (b8 (ll i (b8 (dV ?_)))));change eH _ _ (match Rn lo a 1 (n:Int) with|(lo,a)=>pure (lo,(1:Int),N8 lo a 1)) _ _ s;rw[so lo a n];change eH _ _ (pure (((HY n 0 lo:Nat):Int),(1:Int),N8 ((HY n 0 lo:Nat):Int) ((HY n n a:Nat):Int) 1)) _ _ s;rw[sr];show dV h
def xY(xs:Array d4)(i k:Nat):((js k).filterMap λ(m:Nat)=>xs[((i:Int)+(m:Int) * 1).toNat]?).toArray=((xs.toList.drop i).take k).toArray:=by
 have e:(λ(m:Nat)=>xs[((i:Int)+(m:Int) * 1).toNat]?)=λm=>xs[i+m]?:=by
  funext m
  have:((i:Int)+(m:Int) * 1).toNat=i+m:=by lia
  rw[this]
 rw[e];have:=pick_run xs i k;rw[List.filterMap_map]at this;have a:((λx=>xs[x]?) ∘ λx=>i+x)=λm=>xs[i+m]?:=rfl;rw[a]at this;rw[this]
def iO{lo b:Option Int}(c:Z3 s.heap t a)(hs:s.heap.IsSliceOf e f g .none)(i:Vb f lo)(j:Vb g b)
  (k:¬(HY a.size 0 lo=0/\HY a.size a.size b=a.size))
  (h:Q (.ref s.heap.objs.size) {s with heap:=s.heap.push {cls:=.type "tuple",data:=.seq ((a.toList.drop (HY a.size 0 lo)).take (HY a.size a.size b - HY a.size 0 lo)).toArray}})
  (hsz:a.size<=c4):eH (ke prog w) A (Sh (.ref t) (.ref e)) Q E s:=by
 have d:sizeOk (.seq ((a.toList.drop (HY a.size 0 lo)).take (HY a.size a.size b - HY a.size 0 lo)).toArray):=by
  change((a.toList.drop (HY a.size 0 lo)).take (HY a.size a.size b - HY a.size 0 lo)).toArray.size<=c4;rw[i5,vr,Km,sm];lia
 have r:HY a.size a.size b<=a.size:=Dq _ _ (kb _) b;have⟨os,l,n,u⟩:=id hs;have o:s.TypeIs (.ref e) "slice":=⟨os,l,n⟩
 unfold Sh
 try with_reducible show DD ?_
 first|show b8 (dV ?_)|skip
 show b8 (Ö c.typeIs (by decide) ?_);show b8 (Mc (name:=QX "__getitem__") c.typeIs y4
  (H9 y4 c.typeIs Z9 ?_ (Î _ _)))
 change eH _ _ (Q4 (.ref t) >>= _) _ _ s;show b8 (tupleItemsOf_ c ?_);show b8 (P4 o ?_);rw[ĝ (by decide)];show b8 (eR hs i j ?_);have p:¬((((HY a.size 0 lo:Nat):Int)==0&&(1:Int)==1&&(HY a.size a.size b - HY a.size 0 lo)==a.size)=cb):=by
  intro q;rw[cL,cL]at q;have v:((HY a.size 0 lo:Nat):Int)=0:=Zm q.1.1;have x:HY a.size a.size b - HY a.size 0 lo=a.size:=Zm q.2;show k ⟨⋯,⋯⟩
 change eH _ _ (if (((HY a.size 0 lo:Nat):Int)==0&&(1:Int)==1&&(HY a.size a.size b - HY a.size 0 lo)==a.size)=cb then _ else _) _ _ s;rw[ğ p,xY]
 first
  |show b8 (m:=OE _) (va (dV ⟨_,rfl,dV h⟩) d)
  |show b8 (m:=OE _) (va (b8 (dV (dV ⟨_,rfl,dV h⟩))) d)
  |show b8 (b8 (m:=OE _) (va (dV (dV ⟨_,rfl,dV h⟩)) d))
  |show b8 (b8 (m:=OE _) (va (dV ⟨_,rfl,dV h⟩) d))
end
end HT
namespace L2
open PySem PySem.Spec PyProof.Rows
@[reducible]def TO:=St->Hp->(Option Int->Hp->Prop)->Prop
abbrev PO(X:Cx)(e:Option oT)(t:TO):Prop :=
 ∀(a:List (eW×Obj)) (s:hY) (σ:St) (H:Hp) (Q:Option Int->Hp->Prop),Inv X a σ H s->t σ H Q ->
  eH (ke X.prog X.w) X.A (evalPart e X.env) (λu s'=>∃o H',Inv X a σ H' s'/\Vb u o/\Q o H') X.xe s
abbrev AI:TO:=λ_ H Q=>Q b7 H
abbrev FA(t:TE):TO:=λσ H Q=>t σ H λx a=>∃i,x=.int i/\Q (bD i) a
def intsAre_of:∀{us:List d4},Vals (ns.map V.int) us->Xt us ns:=by
 induction ns with
 |nil=>intro us r;rw[Jc]at r;cases r;show .nil
 |cons n ns a =>
  intro us r;rw[eF]at r;cases r with
  |cons b c =>
   have⟨t,e⟩:=b;subst e;show .cons n t (a c)
section
variable{X:Cx}{e:oT}{te:TE}{lo hi:Option oT}{tl th:TO}{pos p2:Pos}
def AJ:PO X b7 AI:=by
 intro a s σ H Q I h;rw[evalPart_none];show dV ⟨b7,H,I,.none,h⟩
def AK(h:PE X e te):PO X (bD e) (FA te):=by
 intro a s σ H Q I b;rw[evalPart_some];show HS (h a s σ H _ I b) λu s1 c=>?_;have⟨x,d,f,g,j⟩:=c;have⟨i,rfl,q⟩:=j;have⟨t,rfl⟩:=g;show⟨bD i,d,f,.int i t,q⟩
abbrev L7(X:Cx)(r:V->Option Int->Option Int->Hp->VK->Prop):Prop :=
 ∀(a:List (eW×Obj)) (s:hY) (σ:St) (H:Hp) (x:V) (v b c:d4) (lo hi:Option Int) (d:eW) (Q:VK),Inv X a σ H s->RelV x v->s.heap.IsSliceOf d b c .none->Vb b lo->Vb c hi->r x lo hi H Q ->
  ∃T id,YH (.type T) "__getitem__"=pure (bD (.builtin id))/\s.TypeIs v T/\eH (ke X.prog X.w) X.A (Sh v (.ref d)) (EP X a σ Q) X.xe s
def L7.or(h:L7 X r)(h':L7 X j):L7 X (λx lo hi H Q=>r x lo hi H Q\/j x lo hi H Q):=by
 intro a s σ H x v b c lo hi d Q I f hs g i q;rcases q with q|q
 .show h a s σ H x v b c lo hi d Q I f hs g i q
 .show h' a s σ H x v b c lo hi d Q I f hs g i q
abbrev Vi(r:V->Option Int->Option Int->Hp->VK->Prop)(te:TE)(tl th:TO):TE:=λσ H Q=>te σ H λx a=>tl σ a λl b=>th σ b λu c=>r x l u c Q
def xZ(g:L7 X r)(i:PE X e te)(hl:PO X lo tl)(j:PO X hi th):PE X (.Subscript e (.Slice lo hi b7 p2) pos) (Vi r te tl th):=by
 intro a s σ H Q I h;show Ï (HS (i a s σ H _ I h) λv s1 k=>?_);have⟨x,m,n,o,p⟩:=k;show wpAny_Slice (HS (hl a s1 σ m _ n p) λc s2 ⟨l,t,y,z,B⟩=>HS (j a s2 σ t _ y B) λd s3 C=>?_);have⟨u,f,D,G,J⟩:=C;rw[evalPart_none];show dV ?_;have L:Inv X a σ f {s3 with heap:=s3.heap.push {cls:=.type "slice",data:=.fields #[c,d,.none]}}:=D.kept (t':=s3.toks) λb ob q=>dt _ q;have⟨T,id,N,O,Y⟩:=g a {s3 with heap:=s3.heap.push {cls:=.type "slice",data:=.fields #[c,d,.none]}} σ f x v c d l u s3.heap.objs.size Q L o (ã ..) z G J;change eH (ke X.prog X.w) X.A (VN e (.Slice lo hi b7 p2) v (.ref s3.heap.objs.size)) (EP X a σ Q) X.xe {s3 with heap:=s3.heap.push {cls:=.type "slice",data:=.fields #[c,d,.none]}};show ĕ (ops:=[.ref s3.heap.objs.size,v]) O N Y (by with_unfolding_all rfl)
abbrev qq(xs:List V)(lo hi:Option Int):List V:=(xs.drop (HT.HY xs.length 0 lo)).take (HT.HY xs.length xs.length hi - HT.HY xs.length 0 lo)
def jZ(xs:List V)(lo hi:Option Int):(qq xs lo hi).length<=xs.length:=by
 unfold qq;rw[vr,Km];lia
abbrev FC(K:PySem.W.Frag):V->Option Int->Option Int->Hp->VK->Prop:=λx lo hi H Q=>∃a xs,x=.ref a/\Ir K H a xs /\
 ¬(HT.HY xs.length 0 lo=0/\HT.HY xs.length xs.length hi=xs.length)/\∀p,H p=b7->Q (.ref p) (upd H p (.tup (qq xs lo hi)))
def Dr:L7 X (FC X.K):=by
 intro d s σ H x v m n lo hi p Q I g hs i j h;have⟨a,xs,rfl,k,l,q⟩:=h;cases g;have⟨its,r,f,hz⟩:=I.tuple k;have c:its.toArray.size=xs.length:=by rw[i5];show r.length.symm
 show⟨"tuple",_,y4.lookup,f.typeIs,?_⟩;show HT.iO f hs i j (by rw[c];show l) ?_ (by rw[c];show hz);rw[c];show⟨.ref s.heap.objs.size,_,I.laid (t':=s.toks) (o:=.tup (qq xs lo hi)) (λb t q=>dt _ q) (kb _) ?_,rfl,q _ (I.HN.fresh (kb _))⟩;show⟨ve (jZ xs lo hi) hz,_,(r.drop (HT.HY xs.length 0 lo)).take (HT.HY xs.length xs.length hi - HT.HY xs.length 0 lo),Yj _ _⟩
abbrev FD(K:PySem.W.Frag):R2:=λx y H Q=>∃a b xs c,x=.ref a/\y=.ref b/\Ir K H a xs/\Ir K H b c/\xs≠[]/\xs.length+c.length<=c4 /\
 (c=[]->Q (.ref a) H)/\(c≠[]->∀p,H p=b7->Q (.ref p) (upd H p (.tup (xs++c))))
def Vals.oN(r:Vals xs us):us=[]↔xs=[]:=by
 cases r with
 |_=>simp
def AL:JO X (Qg .Add) (FD X.K):=by
 intro f s σ H x y v u Q I g i h;have⟨a,b,xs,j,rfl,rfl,k,l,m,hz,n,p⟩:=h;cases g;cases i;obtain⟨its,d,r,_⟩:=I.tuple k;obtain⟨t,c,p2,_⟩:=I.tuple l;show HT.AH r p2 (λz=>m (d.oN.mp z)) (λz=>⟨.ref a,H,I,rfl,n (c.oN.mp z)⟩) (λz=>?_) (by rw[<-d.length,<-c.length];show hz);show⟨.ref s.heap.objs.size,_,I.laid (t':=s.toks) (o:=.tup (xs++j)) (λb A q=>dt _ q) (kb _) ?_,rfl,p (λw=>z (c.oN.mpr w)) _ (I.HN.fresh (kb _))⟩;show⟨by rw[gs];show hz,_,d.append c,Yj _ _⟩
end
abbrev Ly(n:Nat)(i:Int):Option Nat:=if 0<=i then(if i<n then bD i.toNat else b7) else if -(n:Int)<=i then bD (i+n).toNat else b7
abbrev Il{α:Type}(xs:List α)(i:Int):Option α:=(Ly xs.length i).bind λj=>xs[j]?
def uw{n:Nat}(h:Ly n i=bD j):seqIndex? i n=bD j/\j<n/\-(n:Int)<=i/\i<n:=by
 unfold Ly at h;by_cases b:0<=i
 .rw[ĝ b]at h;by_cases a:i<n
  .rw[ĝ a]at h;have e:i.toNat=j:=wk h;show⟨by rw[ZT b a,e],⋯,⋯,a⟩
  .rw[ğ a]at h;cases h
 .rw[ğ b]at h;by_cases a:-(n:Int)<=i
  .rw[ĝ a]at h;have e:(i+n).toNat=j:=wk h;show⟨by rw[seqIndex_neg ⋯ a,e],⋯,a,⋯⟩
  .rw[ğ a]at h;cases h
def oO(h:Il xs i=bD v):∃j,seqIndex? i xs.length=bD j/\xs[j]?=bD v/\j<xs.length/\-(xs.length:Int)<=i/\i<xs.length:=by
 unfold Il at h;cases e:Ly xs.length i with
 |none=>rw[e]at h;cases h
 |some j =>
  rw[e]at h;have⟨a,b,c,d⟩:=uw e;show⟨j,a,h,b,c,d⟩
def cn{j:Nat}(h:xs[j]?=bD v):Il xs (j:Int)=bD v:=by
 have a:j<xs.length:=(et.mp h).1;have e:Ly xs.length (j:Int)=bD j:=by
  unfold Ly;rw[ĝ ⋯,ĝ ⋯];simp
 unfold Il;rw[e];show h
abbrev oP(b:oT):Prop:=∀o i,Yg b cc o i=operate [o,i] (Sh o i)
abbrev Ro(X:Cx)(r:R2):Prop :=
 ∀(c a:oT) (b:List (eW×Obj)) (s:hY) (σ:St) (H:Hp) (x y:V) (v u:d4) (Q:VK),Inv X b σ H s->RelV x v->RelV y u->r x y H Q ->
  Yg a cc v u=operate [v,u] (Sh v u)->eH (ke X.prog X.w) X.A (VN c a v u) (EP X b σ Q) X.xe s
abbrev OO(X:Cx)(id:String)(r:V->List V->Hp->VK->Prop):Prop :=
 ∀(a:List (eW×Obj)) (s:hY) (σ:St) (H:Hp) (x:V) (xs:List V) (v:d4) (us:List d4) (Q:VK),Inv X a σ H s->RelV x v->Vals xs us->r x xs H Q ->
  eH (ke X.prog X.w) X.A (PU (.builtin id) (v::us)) (EP X a σ Q) X.xe s
section
abbrev Hn(K:PySem.W.Frag):R2:=λx y H Q=>∃p xs i v,x=.ref p/\y=.int i/\Iz K H p xs/\Il xs i=bD v/\Q v H
abbrev Ho(K:PySem.W.Frag):R2:=λx y H Q=>∃p xs i v,x=.ref p/\y=.int i/\Ir K H p xs/\Il xs i=bD v/\Q v H
abbrev Hq:R2:=λx y H Q=>∃z i c,x=.str z/\y=.int i/\z.length<=c4/\Il z.cps.toList i=bD c/\Q (.str ⟨#[c]⟩) H
def AM:Ro X (Hn X.K):=by
 intro d f a s σ H x y v u Q I n A h hs;have⟨p,xs,i,z,rfl,rfl,B,C,q⟩:=h;cases n;have⟨t,rfl⟩:=A;have⟨its,r,g,hz⟩:=I.list B;have⟨j,c,D,N,G,J⟩:=oO C;have⟨w,l,L⟩:=r.get D;have hl:=r.length;have O:=fY;have b:EP X a σ Q w s:=⟨z,H,I,L,q⟩
 by_cases m:0<=i
 .have k:i.toNat=j:=by
   rw[ZT m J]at c;show wk c
  show item_listR g.isList m ⋯ (by rw[k];simpa using l) b hs
 .have k:(i+(its.toArray.size:Int)).toNat=j:=by
   rw[seqIndex_neg ⋯ G]at c;rw[i5,<-hl];show wk c
  show ZC (x:=w) g.isList.typeIs Û.lookup
   (wpAny_getItem_list_neg (Q:=λr s'=>r=w/\EP X a σ Q r s') g.isList ⋯ (by rw[i5]<;>lia) ⋯ (by rw[k];simpa using l) ⟨rfl,b⟩) hs
def lp:Ro X (Ho X.K):=by
 intro b c a s σ H x y v u Q I g k h hs;have⟨p,xs,i,z,rfl,rfl,l,m,q⟩:=h;cases g;have⟨t,rfl⟩:=k;have⟨its,r,f,hz⟩:=I.tuple l;have⟨j,n,A,D,G,J⟩:=oO m;have⟨w,B,C⟩:=r.get A;have hl:=r.length;have L:=fY;have d:EP X a σ Q w s:=⟨z,H,I,C,q⟩
 show ZC (x:=w) f.typeIs y4.lookup
  (getItem_tuple (j:=j) (Q:=λr s'=>r=w/\EP X a σ Q r s') f ⋯ ⋯ (by rw[i5,<-hl];show n) (by simpa using B) ⟨rfl,d⟩) hs
def lq:Ro X Hq:=by
 intro a b d s σ H x y v u Q I g k h hs;have⟨z,i,c,rfl,rfl,hz,l,q⟩:=h;have⟨t,rfl⟩:=g;have⟨t',rfl⟩:=k;have⟨j,f,m,B,n,p⟩:=oO l;have hl:z.cps.toList.length=z.length:=by simp[Rm]
 rw[hl]at f n p;have C:=fY;show ĕ (RA s z t) ñ.lookup (getItem_str (c:=c) (by
  have w:df (i < -(2 ^ 63:Int))=cc:=Ğ ⋯;have A:df (i >= 2 ^ 63)=cc:=Ğ ⋯;rw[w,A,Ó]) (by rw[f];simpa using m) ⟨.str ⟨#[c]⟩,H,I.tok _,⟨_,rfl⟩,q⟩) hs
def su(its:List d4)(n j:Nat)(u:d4):sL (·.setIfInBounds j u) {cls:=.type "list",data:=.seq its.toArray n}={cls:=.type "list",data:=.seq (its.set j u).toArray n}:=by
 simp[sL]
def Inv.lst(I:Inv X a σ H s)(h:H p=bD (.lst xs)):
  ∃(its:List d4) (n:Nat),Vals xs its/\s.heap.get? p=bD {cls:=.type "list",data:=.seq its.toArray n}/\xs.length<=c4:=by
 have⟨z,its,n,r,e⟩:=I.HN p _ h;show⟨its,n,r,e,z⟩
def Inv.Ds{its its':List d4}(I:Inv X a σ H s)(h:H p=bD (.lst xs))
  (ho:s.heap.get? p=bD {cls:=.type "list",data:=.seq its.toArray n}) (c:f {cls:=.type "list",data:=.seq its.toArray n}={cls:=.type "list",data:=.seq its'.toArray d }) (r:Vals g its') (hz:g.length<=c4) (t:Nat) :
  Inv X a σ (upd H p (.lst g)) {s with heap:=s.heap.update p f,toks:=t}:=by
 have e:(s.heap.update p f).get? p=bD {cls:=.type "list",data:=.seq its'.toArray d }:=by
  rw[Jp f ho (by rw[c]<;>rfl),c]
 show I.write (x:=p) (e:=p) (by rw[h];trivial) (.inl rfl) (λb u i q=>(QO _ _ (uv i)).trans q) ⟨_,e⟩ ?_;show⟨hz,its',d,r,e⟩
abbrev FE:V->V->V->Hp->(Hp->Prop)->Prop:=λo i v H Q=>∃p xs k j,o=.ref p/\i=.int k/\H p=bD (.lst xs)/\Ly xs.length k=bD j/\Q (upd H p (.lst (xs.set j v)))
def set_list:k7 X FE:=by
 intro a s σ H o i v y z u Q I m w rv h;have⟨p,xs,k,j,rfl,rfl,c,x,q⟩:=h;cases m;have⟨t,rfl⟩:=w;have⟨its,n,r,ho,hz⟩:=I.lst c;have⟨b,A,d,f⟩:=uw x;have hl:=r.length;have B:=fY;have g:Inv X a σ (upd H p (.lst (xs.set j v))) {s with heap:=s.heap.update p (sL (·.setIfInBounds j u))} :=
  I.Ds c ho (su its n j u) (r.set rv j) (by rw[Z4];show hz) s.toks
 by_cases l:0<=k
 .have hk:k.toNat=j:=by
   rw[ZT l f]at b;show wk b
  show PySem.W.ki_setAt ho l ⋯ (by rw[i5,<-hl];show f) (by rw[hk];show⟨_,g,q⟩)
 .have hk:(k+(its.toArray.size:Int)).toNat=j:=by
   rw[seqIndex_neg ⋯ d]at b;rw[i5,<-hl];show wk b
  show PySem.W.ki_setBack ho ⋯ (by rw[i5,<-hl];show d) ⋯ (by rw[hk];show⟨_,g,q⟩)
def oQ(lo a:Option Int)(n:Nat):(RZ lo a b7 n).1=((HT.HY n 0 lo:Nat):Int)/\(RZ lo a b7 n).2.1=((HT.HY n n a:Nat):Int)/\(RZ lo a b7 n).2.2=1:=by
 show⟨?_,?_,rfl⟩
 .cases lo with
  |none=>simp[RZ,HT.HY]
  |some i =>
   simp only[RZ,HT.HY,Zl,show(1:Int)>0 by decide,ĥ];by_cases h:i<0
   .simp only[h,ĥ]<;>lia
   .simp only[h,Ĥ]<;>lia
 .cases a with
  |none=>simp[RZ,HT.HY]
  |some i =>
   simp only[RZ,HT.HY,Zl,show(1:Int)>0 by decide,ĥ];by_cases h:i<0
   .simp only[h,ĥ]<;>lia
   .simp only[h,Ĥ]<;>lia
def m7(its:List d4)(lo a:Option Int):slicePick its.toArray lo a b7=((its.drop (HT.HY its.length 0 lo)).take (HT.HY its.length its.length a - HT.HY its.length 0 lo)).toArray:=by
 have⟨b,c,d⟩:=oQ lo a its.toArray.size;unfold slicePick;rw[b,c,d];simp only[sliceRange_one,pick_run,i5]<;>rfl
abbrev FF(K:PySem.W.Frag):V->Option Int->Option Int->Hp->VK->Prop:=λx lo b H Q=>∃a xs,x=.ref a/\Iz K H a xs/\∀p,H p=b7->Q (.ref p) (upd H p (.lst (qq xs lo b)))
def AN:L7 X (FF X.K):=by
 intro f s σ H x v m n lo d p Q I i hs j k h;have⟨a,xs,rfl,l,q⟩:=h;cases i;have⟨its,r,g,hz⟩:=I.list l;have c:=r.length;show⟨"list",_,Û.lookup,g.isList.typeIs,?_⟩;show wpAny_getItem_list_slice g.isList hs j k .none (by simp) ?_ (by rw[i5]<;>lia);rw[m7,<-c];show⟨.ref s.heap.objs.size,_,I.laid (t':=s.toks) (o:=.lst (qq xs lo d)) (λb u q=>dt _ q) (kb _) ?_,rfl,q _ (I.HN.fresh (kb _))⟩;show⟨ve (jZ xs lo d) hz,_,0,(r.drop (HT.HY xs.length 0 lo)).take (HT.HY xs.length xs.length d - HT.HY xs.length 0 lo),i4 _ rfl⟩
def iP:fX X (.builtin "len") (λxs H Q=>∃p b,xs=[.ref p]/\(Iz X.K H p b\/Ir X.K H p b)/\Q (.int b.length) H):=by
 intro f s σ H xs us Q I r h;have⟨p,b,rfl,hq,q⟩:=h;have⟨u,rfl,g⟩:=vals1 r;cases g;have i:=fY;rcases hq with hq|hq
 .have⟨its,c,d,hz⟩:=I.list hq;have a:=c.length;show Calls.call_len_list d.isList (by simp only[i5]<;>lia) ⟨.int b.length,H,I.tok _,⟨s.toks+1,by rw[i5,a]⟩,q⟩
 .have⟨its,c,d,hz⟩:=I.tuple hq;have a:=c.length;show len_tuple d (by simp only[i5]<;>lia) ⟨.int b.length,H,I.tok _,⟨s.toks+1,by rw[i5,a]⟩,q⟩
def oR:fX X (.builtin "len") (λxs H Q=>∃z,xs=[.str z]/\z.length<=c4/\Q (.int z.length) H):=by
 intro a s σ H xs us Q I r h;have⟨z,rfl,hz,q⟩:=h;have⟨u,rfl,t,rfl⟩:=vals1 r;have b:=fY;show len_str ⋯ ⟨.int z.length,H,I.tok _,⟨_,rfl⟩,q⟩
def iQ:fX X (.type "list") (λxs H Q=>∃p a,xs=[.ref p]/\(Iz X.K H p a\/Ir X.K H p a)/\∀l,H l=b7->Q (.ref l) (upd H l (.lst a))):=by
 intro f s σ H xs us Q I r h;have⟨p,a,rfl,hq,q⟩:=h;have⟨u,rfl,y⟩:=vals1 r;cases y;have g:∀(its:List d4),Vals a its->a.length<=c4->∀(h':Ks) (c:Nat),(∀b x,s.heap.get? b=bD x->h'.get? b=bD x) ->
   h'.get? s.heap.objs.size=bD {cls:=.type "list",dict:=b7,data:=.seq its.toArray c,slots:=#[]}->EP X f σ Q (.ref s.heap.objs.size) {s with heap:=h' }:=λits d hz h' c i e =>
  ⟨.ref s.heap.objs.size,_,I.laid (t':=s.toks) i (kb _) (show bP X.prog X.w _ h' _ (.lst a) from⟨hz,its,c,d,e⟩),rfl,q _ (I.HN.fresh (kb _))⟩
 rcases hq with hq|hq
 .have⟨its,d,k,hz⟩:=I.list hq;have j:=d.length;have⟨o,ho,m,n,v⟩:=k.isList;show call_list_seq p (.inl rfl) ho m v (λh' c i e=>g its d hz h' c i e) (by simp only[i5]<;>lia)
 .have⟨its,d,k,hz⟩:=I.tuple hq;have j:=d.length;have⟨o,ho,m,n,v⟩:=k;show call_list_seq p (.inr rfl) ho m v (λh' c i e=>g its d hz h' c i e) (by simp only[i5]<;>lia)
def ib:fX X (.type "tuple") (λxs H Q=>∃p c,xs=[.ref p]/\((Iz X.K H p c/\∀l,H l=b7->Q (.ref l) (upd H l (.tup c)))\/(Ir X.K H p c/\Q (.ref p) H))):=by
 intro a s σ H xs us Q I r h;have⟨p,c,rfl,h⟩:=h;have⟨u,rfl,k⟩:=vals1 r;cases k;rcases h with⟨d,q⟩|⟨d,q⟩
 .have⟨its,f,g,hz⟩:=I.list d;have i:=f.length;show call_tuple_list g.isList (λh' m=>?_) (by simp only[i5]<;>lia);have j:Inv X a σ H {s with heap:=h' }:=I.kept (t':=s.toks) m;have n:Inv X a σ (upd H h'.objs.size (.tup c)) {s with heap:=h'.push {cls:=.type "tuple",data:=.seq its.toArray}} :=
   j.laid (t':=s.toks) (λb o e=>dt _ e) (kb _) (show bP X.prog X.w _ _ _ (.tup c) from⟨hz,its,f,Yj _ _⟩)
  show⟨.ref h'.objs.size,_,n,rfl,q _ (j.HN.fresh (kb _))⟩
 .have⟨its,f,g,hz⟩:=I.tuple d;show call_tuple_same g ⟨.ref p,H,I,rfl,q⟩
abbrev Rq(K:PySem.W.Frag)(T:String)(x:V)(H:Hp):Prop:=match x with
 |.str _=>T="str"
 |.int _=>T="int"
 |.ref p=>(T="list"/\∃xs,Iz K H p xs)\/(T="tuple"/\∃o,K.lookup p=bD o/\o.cls=.type "tuple"/\o.dict=b7) \/
   (T="dict"/\((∃kvs,H p=bD (.dK kvs))\/∃kvs,H p=bD (.dT kvs)))\/(T="set"/\∃S n,H p=bD (.set S n))
 |_=>False
def sv(I:Inv X g σ H s)(r:RelV x v)(b:Rq X.K T x H):
  s.TypeIs v T/\∀a,v=.ref a->∃h,s.heap.get? a=bD h/\h.dict=b7:=by
 cases x with
 |str z =>
  have⟨t,rfl⟩:=r;cases(show T="str" from b);show⟨RA s z t,λ_ e=>nomatch e⟩
 |int i =>
  have⟨t,rfl⟩:=r;cases(show T="int" from b);show⟨typeIs_int s i t,λ_ e=>nomatch e⟩
 |ref p =>
  cases r;rcases b with⟨rfl,xs,k⟩|⟨rfl,o,hk,l,d⟩|⟨rfl,hk⟩|⟨rfl,S,n,hk⟩
  .obtain⟨its,_,j,_⟩:=I.list k;show⟨j.isList.typeIs,λa e=>?_⟩;cases e;obtain⟨o,n,e,c,d,_⟩:=j;show⟨o,e,d⟩
  .show⟨⟨o,I.L0 p o hk,l⟩,λa e=>?_⟩;cases e;show⟨o,I.L0 _ o hk,d⟩
  .have z:∃o,s.heap.get? p=bD o/\o.ExactDict:=by
    rcases hk with⟨kvs,hk⟩|⟨kvs,hk⟩
    .obtain⟨_,_,_,_,o,_,_,e,ex,_⟩:=I.HN p _ hk;show⟨o,e,ex⟩
    .obtain⟨_,_,_,_,o,_,_,e,ex,_⟩:=I.HN p _ hk;show⟨o,e,ex⟩
   have⟨o,e,ex⟩:=z;show⟨⟨o,e,ex.1⟩,λa f=>?_⟩;cases f;show⟨o,e,ex.2.1⟩
  .obtain⟨o,_,_,_,e,ex,_⟩:=I.HN p _ hk;show⟨⟨o,e,ex.1⟩,λa f=>?_⟩;cases f;show⟨o,e,ex.2.1⟩
 |_=>show NT b
abbrev Vj(K:PySem.W.Frag)(T:String)(r:V->List V->Hp->VK->Prop)(to:TE)(t:TA):TE:=λσ H Q=>to σ H λx a=>Rq K T x a/\t σ a λxs b=>r x xs b Q
variable{o e:oT}{es:List oT}{to:TE}{t:TA}{name:Str}{apos G':Pos}{T id:String}{r:V->List V->Hp->VK->Prop}
def uA(f:PlainAttrs T)(slot:Slot T name id)(g:YG (.builtin id)=pure (.type "method_descriptor"))(i:OO X id r)(ho:PE X o to)(j:PA X (e::es) t)
  (k:VM o name X.env (JF o X.env)=JF o X.env:=by rfl)
  (l:((KW G' (lx (e::es) X.env)).all (λx=>!x.1)&&(Sx G' (P2 [] X.env)).all (λx=>x.1.isSome)
   && df ((e::es).length+([]:List O9).length+(if ([]:List O9).isEmpty then 0 else 1)<30))=cb:=by rfl)
  (m:(apos.endLine==G'.line)=cb:=by rfl) (hs:lx (e::es) X.env=(cc,JF e X.env)::lx es X.env:=by rfl) (n:(KW G' (lx es X.env)).any (·.1)=cc:=by rfl) :
  PE X (.Call (.Attribute o name apos) (e::es) [] G') (Vj X.K T r to t):=by
 intro a s σ H Q I h;show Zo k l m rfl (HS (ho a s σ H _ I h) λv s1 p=>?_);have⟨x,q,b,c,u,w⟩:=p;have⟨y,z⟩:=sv b c u;show⟨T,id,f,slot,g,y,z,?_⟩;have d:=j G' a s1 σ q _ b w;rw[hs]at d ⊢;show NP (by change(cc||(KW G' (lx es X.env)).any (·.1))=cc;rw[n]<;>rfl) (MM ?_);show HS d λus s2 ⟨vs,A,B,C,D⟩=>i a s2 σ A x vs v us Q B c C D
end
abbrev Ru(X:Cx)(id:String)(r:V->List V->Hp->VK->Prop):Prop :=
 ∀(a:List (eW×Obj)) (s:hY) (σ:St) (H:Hp) (x:V) (xs:List V) (v:d4) (us:List d4) (Q:VK),Inv X a σ H s->RelV x v->Vals xs us->r x xs H Q ->
  eH (ke X.prog X.w) X.A (PU (.builtin id) (v::us)) (EP X a σ Q) X.xe s
theorem Vals.one:∀{x:V}{us:List d4},Vals [x] us->∃u,us=[u]/\RelV x u
 |_,_,.cons r .nil=>⟨_,rfl,r⟩
section
def Inv.m8{its its':List d4}(I:Inv X a σ H s)(c:H l=bD (.lst xs))
  (e:s.heap.get? l=bD {cls:=.type "list",data:=.seq its.toArray n}) (d:f its.toArray=its'.toArray) (g:Vals b its') (hz:b.length<=c4) :
  Inv X a σ (upd H l (.lst b)) {s with heap:=s.heap.update l (sL f),toks:=t' }:=by
 have q:=PySem.IsL.update e f;rw[d]at q;show I.write (x:=l) (e:=l) (by rw[c];show trivial) (.inl rfl) (λj u h i=>(QO s.heap (sL f) (uv h)).trans i) ⟨_,q⟩ ?_;show⟨hz,its',_,g,q⟩
def Inv.Hr(I:Inv X a σ H s)(c:Vals b its)(hz:b.length<=c4):
  Inv X a σ (upd H s.heap.objs.size (.lst b)) {s with heap:=s.heap.push {cls:=.type "list",data:=.seq its.toArray},toks:=t' } :=
 I.laid (λ_ _ q=>dt _ q) (kb _) ⟨hz,its,0,c,i4 _ rfl⟩
def Inv.fresh(I:Inv X a σ H s):H s.heap.objs.size=b7:=I.HN.fresh (kb _)
def Inv.Dt(I:Inv X a σ H s)(b:H l=bD (.lst xs)):xs.length<=c4/\∃(its:List d4) (n:Nat),Vals xs its/\xs.length=its.length/\s.heap.get? l=bD {cls:=.type "list",data:=.seq its.toArray n}:=by
 have⟨z,its,n,r,e⟩:=I.HN l _ b;show⟨z,its,n,r,r.length,e⟩
def x6(h:n<=c4):MG n=cc:=by
 unfold MG;show Ğ ⋯
end
section
abbrev AO:V->List V->Hp->VK->Prop:=λx vs H Q=>∃l xs y,x=.ref l/\vs=[y]/\H l=bD (.lst xs)/\xs.length<c4/\Q .HX (upd H l (.lst (xs++[y])))
def nM:Ru X "list.append" AO:=by
 intro a s σ H x vs v us Q I c rv h;have⟨l,xs,y,rfl,rfl,b,hz,q⟩:=h;cases c;have⟨u,rfl,d⟩:=rv.one;have⟨z,its,n,r,hl,e⟩:=I.Dt b;show QS F.slot_list_append ⟨_,e,rfl⟩ F.entry_list_append (F.args_list_append_2 _ _) (PySem.list_append l its.toArray n u (by rw[i5];lia)) ⟨e,?_⟩;show⟨.HX,_,I.m8 (its':=its++[u]) b e (by simp) (r.append (.cons d .nil)) ?_,rfl,q⟩;rw[gs,OA];lia
end
section
set_option maxRecDepth 100000 in
end
section
end
end L2
namespace TX
open PySem PySem.W PySem.Calls PyProof.Rows
def kC:∀(ns:List Int) (vs:List d4),WellAll P h vs (ns.map ú)->Xt vs ns:=by
 intro ns;induction ns with
 |nil =>
  intro vs w;rw[Jc]at w;cases w;show .nil
 |cons n ns c =>
  intro vs w;rw[eF]at w;cases w with
  |cons a b =>
   cases a;show .cons _ _ (c _ b)
def wc{l:OpenLaw}(j:l.most=bD n)
  (g:l.row.toRowW.claim.pre args=cb) (k:WellAll P h b args) :
  ∃a vs ns,b=[mh a]/\args=[WData.list (ns.map ú)]/\h.get? a=bD {cls:=.type "list",data:=.seq vs.toArray}/\Xt vs ns/\ns.length<=n:=by
 have m:WShape.hasAll [] args [.list .int]=cb:=(pre_splitW g).1;have i:l.pre.holds [] {args:=args}=cb:=(pre_splitW g).2;have⟨d,r,rfl,o,p⟩:=hasAllW_cons m;obtain rfl:=hasAllW_nil p;have⟨xs,rfl,s⟩:=hasW_list o;have⟨ns,rfl⟩:=items_int s;have c:ns.length<=n:=by
  unfold OpenLaw.pre at i;have e:(WTm.not (.lt (.lit (.int (n:Int))) (.len (.arg 0)))).holds [] {args:=[.list (ns.map .int)]}=cb:=by
   have e:=(holds_andW i).1;rw[j]at e;show e
  have f:=condW_of e (w_not (w_lt w_lit (w_len_list (w_arg rfl))));rw[cK]at f;show Nat.le_of_not_lt λq=>?_;have t:(n:Int)<((ns.length:Nat):Int):=by lia
  first
   |(rw[Ġ t]at f;show absurd f (by decide))
   |(simp at f;lia)
 cases k with
 |cons u v =>
  cases v;cases u with
  |list ho w=>show⟨_,_,ns,rfl,rfl,ho,kC ns _ w,c⟩
def we(l:OpenLaw)(args:List WData):l.row.toRowW.claim.post args (.bool cb) args=cb :=
 postW_of (r:=l.row.toRowW) (X:=(cb==cb))
  (show à [] (.bool cb) .bool=cb by first|rfl|decide|simp[à,WShape.arms,WShape.armsAll])
  (show(WTm.eq .res (.lit (.bool cb))).value [] {args:=args,res:=bD (.bool cb),after:=args}=bD (.bool (cb==cb)) from w_eq_bool (w_res rfl) w_lit) rfl
def qr{l:OpenLaw}
  (s:l.most=bD n) (t:d.params.defaults=[])
  (PU:∀(w:Ie) (s₀ b:hY) (mg j:Str->Option d4) (fa:eW) (o:Obj) (k i c:d4) (a:eW) (vs:List d4) (ns:List Int),
   Ground q e [] u w s₀ mg j b.heap->v w b.heap ->
   b.heap.get? fa=bD o->o.data=.func (docDef d.name d.params d.body d.scope k i c)->b.heap.CodeRec i d.name->mg d.name=bD (.ref fa) ->
   b.heap.get? a=bD {cls:=.type "list",data:=.seq vs.toArray}->Xt vs ns->ns.length<=n->b.gens=#[] ->
   Sq (ke l.prog w) Ue (.call (.ref fa) ⟨[.ref a],[]⟩) (λr s'=>r=.ok (.ret (.bool cb))/\OldK b.heap s'.heap/\s'.os=b.os/\Tf s'.gens) b) :
  WalkO q e u v l.row.toRowW d [] (λf vs=>PySem.call f vs):=by
 intro w s₀ b mg j G Y fa o k i c x kV ho y z m A B args p as C Q T D XX;obtain rfl:x=.none:=Dflts.none m t;obtain rfl:kV=.none:=Dflts.noKw m;have⟨a,vs,ns,rfl,rfl,H,g,h⟩:=wc s C D;show enter_call (So (PU w s₀ b mg j fa o k i c a vs ns G Y ho (fd_plain y) z A H g h B) λr s' I=>?_);have⟨rfl,J,L,N⟩:=I;show⟨.inl ⟨.bool cb,.bool cb,[],rfl,λ_=>rfl,.bool cb,we l _,λ_=>⟨ô,λ_ O=>(nomatch O)⟩⟩,J,L,N⟩
section
end
end TX
namespace L2
open PySem PySem.Spec PyProof.Rows
theorem nN:∀{vs:List d4}{ns:List Int},Xt vs ns->Vals (ns.map V.int) vs
 |_,_,.nil=>.nil
 |_,_,.cons n t h=>.cons ⟨t,rfl⟩ (nN h)
abbrev Du(H:Hp):Prop:=∀b,H b=b7\/∃o xs,H b=bD (.KG o (.lst xs))
def x8{K:PySem.W.Frag}
  (y:K.In c.heap) (A:c.heap.Ns ro mg) (f:c.heap.Ns Ui B) (O:∀x:Str,x≠"__name__"->B x=JM x) (Q:c.heap.NoLimit) (T:c.gens=#[])
  (l:c.heap.get? a=bD {cls:=.type "list",data:=.seq vs.toArray}) (C:Xt vs ns) (hl:ns.length<=c4) (Y:fT k Ue)
  (F:∀base:Ks,K.In base->base.Ns ro mg->jB P w K mg base CX k fa fd [x] sp) (OR:∀(s:hY) (u:d4),ZA s fd ⟨[u],[]⟩ [(x,u)])
  (JA:∀H:Hp,Du H->Iz K H a (ns.map V.int)->sp [.ref a] H (λv _=>v=.bl cb) λ_ _ _=>False)
  (Rw:∀H e s',CX [] H c (λ_ _ _=>False) e s'->False) :
  Sq (ke P w) Ue (.call (.ref fa) ⟨[.ref a],[]⟩) (λr s'=>r=.ok (.ret (.bool cb))/\OldK c.heap s'.heap/\s'.os=c.os/\Tf s'.gens) c:=by
 have rv:=nN C;have Rx:=C.length;have g:∀H:Hp,Du H->Iz K H a (ns.map V.int)->IX P w H c.heap->(∀b,H b≠b7->b=a)->(H a≠b7->K.lookup a=b7) ->
   Sq (ke P w) Ue (.call (.ref fa) ⟨[.ref a],[]⟩) (λr s'=>r=.ok (.ret (.bool cb))/\OldK c.heap s'.heap/\s'.os=c.os/\Tf s'.gens) c:=by
  intro H D hS G I hK;have kP:∀{b:eW} {o:Obj},c.heap.get? b=bD o->H b=b7->(oI c.heap H).get? b=bD o:=λe n=>xM e n;have OK:∀{b:eW} {o:Obj} {es:Array DictEntry} {ep:Nat},c.heap.get? b=bD o->o.data=.dict es ep->H b=b7:=λ{b o es ep} e d=>by
   cases q:H b with
   |none=>rfl
   |some u =>
    have t:b=a:=I b (by rw[q];simp);subst t;rw[l]at e;cases e;have d':Data.seq vs.toArray _=Data.dict es ep:=d;cases d'
  have p:∀{b:eW} {m:Str->Option d4},c.heap.Ns b m->(oI c.heap H).Ns b m:=λ{b m} ⟨o,es,ep,e,d,r⟩=>⟨o,es,ep,kP e (OK e d),d,r⟩
  have J:K.In (oI c.heap H):=λb o e=>kP (y b o e) (by
   cases q:H b with
   |none=>rfl
   |some u =>
    have t:b=a:=I b (by rw[q];simp);subst t;rw[hK (by rw[q];simp)]at e;cases e)
  have hM:Mod K mg (oI c.heap H):=⟨J,p A,⟨B,p f,O⟩,let ⟨mc,h1,h2⟩:=Q;⟨mc,p h1,h2⟩⟩
  have e0:AG P w K mg (oI c.heap H) Ue [] c H:=⟨rfl,hM,λb o e=>Av e,YQ (v7 _ _),trivial,λb f=>absurd (show b∈([]:List eW) from f) (by simp),G,.of_eq T⟩
  show So ((F _ J (p A)).run Ue [] c H ⟨[.ref a],[]⟩ [.ref a] [.ref a] _ _ Y e0 (OR c (.ref a)) (.cons rfl .nil) (JA H D hS)) λr s' h=>?_;cases r with
  |error e=>show(Rw H e s' h).elim
  |ok fl =>
   cases fl with
   |ret u =>
    have⟨v,H',os,i,L,Ry,r',q⟩:=h;have q':v=.bl cb:=q;subst q';obtain rfl:u=NJ cb:=r';show⟨rfl,OldK.of_keep λb o e=>?_,os,i⟩;cases q:H b with
    |none=>show L.keep b o e q (by intro z;show absurd (show b∈([]:List eW) from z) (by simp)) (by simp)
    |some u =>
     rcases D b with z|⟨ob,xs,z⟩
     .rw[q]at z;cases z
     .have z2:=L.IZ b ob _ z;obtain⟨N,_⟩:=G b _ z;obtain⟨e2,_⟩:=Ry b _ z2;rw[e]at N;cases N;show e2
   |_=>show NT h
 cases hk:K.lookup a with
 |some o =>
  have e:=y a o hk;rw[l]at e;cases e;show g (λ_=>b7) (λ_=>.inl rfl) (.inr ⟨_,vs.toArray,_,hk,rfl,rfl,rfl,by rw[i5,Rx];show hl,by simpa using rv⟩) (λb u z=>by have j:(b7:Option HO)=bD u:=z;cases j) (λb z=>absurd rfl z) λz=>absurd rfl z
 |none =>
  show g (λb=>if b=a then bD (.KG {cls:=.type "list",data:=.seq vs.toArray} (.lst (ns.map V.int))) else b7) (λb=>?_) (.inl (.inr ⟨{cls:=.type "list",data:=.seq vs.toArray},ĝ rfl⟩)) (λb u z=>?_) (λb z=>?_) λ_=>hk
  .by_cases f:b=a
   .show .inr ⟨_,_,ĝ f⟩
   .show .inl (ğ f)
  .by_cases f:b=a
   .have j:=(ĝ f).symm.trans z;cases j;subst f;show⟨l,by rw[cK];show hl,vs,_,rv,l⟩
   .have j:=(ğ f).symm.trans z;cases j
  .by_cases f:b=a
   .show f
   .show absurd (ğ f) z
def AQ{l:PySem.W.OpenLaw}{K:Va->PySem.W.Frag}{CX:Ie->Nf}{sp:Ie->Sp}
  (r:l.most=bD n) (t:n<=c4) (y:d.params.defaults=[]) (z:fT k Ue)
  (A:∀(w:Ie) (h:Ks),B w h->(K w.params).In h)
  (F:∀(w:Ie) (mg:Str->Option d4) (fa:eW) (h:Ks),(K w.params).In h->h.Ns ro mg->mg d.name=bD (.ref fa) ->
   ∃j:SN,(∀(s:hY) (u:d4),ZA s j ⟨[u],[]⟩ [(x,u)]) /\
    ∀base:Ks,(K w.params).In base->base.Ns ro mg->jB l.prog w (K w.params) mg base (CX w) k fa j [x] (sp w))
  (C:∀(w:Ie) (H:Hp) (a:eW) (ns:List Int),ns.length<=n->Du H->Iz (K w.params) H a (ns.map V.int)->sp w [.ref a] H (λv _=>v=.bl cb) λ_ _ _=>False)
  (D:∀(w:Ie) (H:Hp) (s:hY) (e:d4) (s':hY),CX w [] H s (λ_ _ _=>False) e s'->False) :
  PySem.W.WalkO q m XP B l.row.toRowW d [] (λf vs=>PySem.call f vs):=by
 show TX.qr r y λw s₀ I mg mb fa o pm cd J a vs ns G Y ho hd IB L N i c O=>?_;have p:=A w _ Y;have⟨j,Q,hF⟩:=F w mg fa _ p G.T.g L;show x8 p G.T.g G.T.b G.T.builtins G.T.nolimit O N i (ve c t) z hF Q (λH hO hS=>C w H a ns c hO hS) λH e s'=>D w H I e s'
abbrev gL(s:Nw):Arguments:=match s with
 |.FunctionDef _ a _ _ _ _ _ _ _ _=>a
 |_=>{posonlyargs:=[],args:=[],vararg:=b7,kwonlyargs:=[],kw_defaults:=[],kwarg:=b7,defaults:=[]}
abbrev cU(s:Nw):List Nw:=match s with
 |.FunctionDef _ _ b _ _ _ _ _ _ _=>b
 |_=>[]
abbrev aU(s:Nw):Nj:=match s with
 |.FunctionDef _ _ _ _ _ _ a _ _ _=>a
 |_=>{kind:=.function,names:=[],isGenerator:=cc,isCoroutine:=cc}
@[reducible]def Nk:Nf:=λ_ _ _ _ _ _=>False
@[reducible]def E0:XK:=λ_ _ _=>False
def FG:Passes Nk X E0:=λ_ _ _ _ _ _ _ h=>h.elim
structure MP(K:PySem.W.Frag)(x qual:Str)(st:Nw)(f:eW)(fd:SN):Prop where
 ex:∃(oc:d4) (od:Option eW) (kV doc pm:d4) (an:Option eW) (Jf ct:d4) (Nh:Array (Option d4)),
  fd=PySem.W.fnOf x qual (gL st) (cU st) (aU st) .none kV doc pm an Jf ct/\K.lookup f=bD ⟨oc,od,.func fd,Nh⟩/\PySem.W.codeIn K Jf qual=cb
 kp:PySem.W.keepIn K (.ref f)=cb
section
variable{P:w6}{w:Ie}{K:PySem.W.Frag}{mg:Str->Option d4}{base:Ks}
def MP.ok{st:Nw}(F:MP K x a st f d)(S:eE N ps (aU st))(c:∀vs H Q E,sp vs H Q E->vs.length=ps.length)
  (e:∀(b:d4) (A:OM) (outer:List Env) (s:hY) (H:Hp) (vs:List V) (Q:VK) (E:XK),fT k (A.deeper (Uj a (aU st) s.heap.objs.size f b))->sp vs H Q E ->
   ∃t,Jd (qm Nk P w K mg base N a (aU st) f b A outer s H E).Lh (cU st) t/\t {nx:=λ_ H'=>Q .HX H',rt:=Q} (start N vs) H):jB P w K mg base Nk (k+1) f d ps sp:=by
 have⟨m,n,kV,g,o,p,b,ct,r,rfl,lk,i⟩:=F.ex;show CB lk i S c λA outer s H vs Q E j l=>?_;have⟨t,h,q⟩:=e b A outer s H vs Q E j l;show⟨t,h.Lh,q⟩
def Dv{st:Nw}{kV b e d ct:d4}(l:K.lookup f=bD ⟨h,i,.func (PySem.W.fnOf x a (gL st) (cU st) (aU st) .none kV b e g d ct),j⟩)
  (c:PySem.W.codeIn K d a=cb) (k:PySem.W.keepIn K (.ref f)=cb):MP K x a st f (PySem.W.fnOf x a (gL st) (cU st) (aU st) .none kV b e g d ct):=⟨⟨h,i,kV,b,e,g,d,ct,j,rfl,l,c⟩,k⟩
end
def wg(h:n<=1000):n<c4:=Nat.lt_of_le_of_lt h (by decide)
section
end
abbrev qt(H H':Hp):Prop:=∀b o,H b=bD o->H' b=bD o
section
variable{κ:Type}[DecidableEq κ]
abbrev dJ(kvs:List (κ×V))(k:κ):Option V:=(kvs.find? λkv=>df (kv.1=k)).map (·.2)
abbrev putK(kvs:List (κ×V))(k:κ)(v:V):List (κ×V) :=
 if (kvs.any λkv=>df (kv.1=k))=cb then kvs.map (λkv=>if kv.1=k then(kv.1,v) else kv) else kvs++[(k,v)]
def eS{p:κ×V}{k:κ}(e:p.1=k):dJ (p::r) k=bD p.2:=by simp[dJ,Lo,e]
def eT{p:κ×V}{k:κ}(e:¬p.1=k):dJ (p::r) k=dJ r k:=by simp[dJ,Lo,e]
theorem iR(k:κ):∀kvs:List (κ×V),(kvs.any λkv=>df (kv.1=k))=(dJ kvs k).isSome
 |[]=>rfl
 |p::r=>by
  rw[U0];by_cases e:p.1=k
  .simp only[eS e,Ġ e,Bool.true_or,YX]
  .rw[eT e,Ğ e,Bool.false_or];show iR k r
def j3(kvs:List (κ×V))(k:κ)(v:V):(putK kvs k v).length<=kvs.length+1:=by
 unfold putK;split
 .rw[cK];lia
 .rw[gs,k9,Wm];lia
def x9{k:κ}(v:V)(h:dJ kvs k=b7):putK kvs k v=kvs++[(k,v)]:=by
 unfold putK;rw[iR,h];show ğ (by decide)
def kA.eU(r:kA o u):o.isSome=u.isSome:=by
 cases o with
 |none=>cases u with
  |none=>rfl
  |some _=>show(show False from r).elim
 |some _=>cases u with
  |none=>show(show False from r).elim
  |some _=>rfl
def kA.getD(r:kA o u)(a:RelV d d'):RelV (o.getD d) (u.getD d'):=by
 cases o with
 |none=>cases u with
  |none=>show a
  |some _=>show(show False from r).elim
 |some _=>cases u with
  |none=>show(show False from r).elim
  |some _=>show r
def KV.val(r:KV kvs vs)(k:κ):kA (dJ kvs k) (Wx vs k):=by
 unfold KV at r;induction r with
 |nil=>show U3
 |@cons p q ps a h t f =>
  have⟨d,g⟩:=h;by_cases e:p.1=k
  .have c:q.1=k:=d.symm.trans e;have b:Wx (q::a) k=bD q.2:=by simp[Wx,Lo,c]
   rw[eS e,b];show g
  .have c:¬q.1=k:=λz=>e (d.trans z);have b:Wx (q::a) k=Wx a k:=by simp[Wx,Lo,c]
   rw[eT e,b];show f
def KV.any(r:KV kvs vs)(k:κ):(kvs.any λkv=>df (kv.1=k))=vs.any λkv=>df (kv.1=k):=by
 unfold KV at r;induction r with
 |nil=>rfl
 |cons h t a=>rw[U0,U0,a,h.1]
def KV.Dw(r:KV kvs vs)(k:κ)(b:RelV y u):
  KV (kvs.map λkv=>if kv.1=k then(kv.1,y) else kv) (vs.map λkv=>if kv.1=k then(kv.1,u) else kv):=by
 unfold KV at r ⊢;induction r with
 |nil=>show .nil
 |@cons p q ps f h t c =>
  rw[eF,eF];show .cons ?_ c;have⟨a,d⟩:=h;by_cases e:p.1=k
  .rw[ĝ e,ĝ (a.symm.trans e)];show⟨a,b⟩
  .rw[ğ e,ğ (λz=>e (a.trans z))];show⟨a,d⟩
def KV.put(r:KV kvs vs)(k:κ)(a:RelV y u):KV (putK kvs k y) (ć vs k u):=by
 unfold putK ć;rw[r.any k];by_cases e:(vs.any λkv=>df (kv.1=k))=cb
 .rw[ĝ e,ĝ e];show r.Dw k a
 .rw[ğ e,ğ e];show Paired.snoc r ⟨rfl,a⟩
def KV.length(r:KV kvs vs):kvs.length=vs.length:=Paired.length r
end
def nO(r:RelV (kV k) u):(aT P w).is k u=cb:=by
 cases k with
 |inl i=>have⟨t,e⟩:=(show ∃t,u=Zt i t from r);subst e;show qh P w i t
 |inr x=>have⟨t,e⟩:=(show ∃t,u=H_ x t from r);subst e;show qi P w x t
theorem nP:∀{ks:List Key}{us:List d4},Vals (ks.map kV) us->ItemsAre (aT P w) ks us
 |[],_,r=>by rw[Jc]at r;cases r;show .nil
 |k::ks,_,r=>by
  rw[eF]at r;cases r with
  |cons h t=>show .cons (nO h) (nP t)
@[reducible]def KT(H:Hp):List (List Key×V)->List (List Key×eW×d4)->Prop:=Paired λp q=>p.1=q.1/\H q.2.1=bD (.tup (p.1.map kV))/\RelV p.2 q.2.2
def KT.val(r:KT H kvs xs)(k:List Key):kA (dJ kvs k) ((U' xs k).map (·.2)):=by
 induction r with
 |nil=>show U3
 |@cons p q ps a h t f =>
  obtain⟨d,_,g⟩:=h;by_cases e:p.1=k
  .have c:q.1=k:=d.symm.trans e;have b:U' (q::a) k=bD q.2:=by simp[U',Lo,c]
   rw[eS e,b];show g
  .have c:¬q.1=k:=λz=>e (d.trans z);have b:U' (q::a) k=U' a k:=by simp[U',Lo,c]
   rw[eT e,b];show f
def KT.Dw(r:KT H kvs xs)(k:List Key)(c:RelV y u):
  KT H (kvs.map λkv=>if kv.1=k then(kv.1,y) else kv) (xs.map (putAt k u)):=by
 induction r with
 |nil=>show .nil
 |@cons p q ps g h t d =>
  rw[eF,eF];show .cons ?_ d;have⟨a,b,f⟩:=h;unfold putAt;by_cases e:p.1=k
  .rw[ĝ e,ĝ (a.symm.trans e)];show⟨a,b,c⟩
  .rw[ğ e,ğ (λz=>e (a.trans z))];show⟨a,b,f⟩
def KT.put(r:KT H kvs xs)(k:List Key)(c:H b=bD (.tup (k.map kV)))(a:RelV y u):
  KT H (putK kvs k y) (storedH xs k b u):=by
 have e:(kvs.any λkv=>df (kv.1=k))=(U' xs k).isSome:=by
  rw[iR,(r.val k).eU,Sa]
 unfold putK storedH;rw[e];by_cases q:(U' xs k).isSome=cb
 .rw[ĝ q,ĝ q];show r.Dw k a
 .rw[ğ q,ğ q];show Paired.snoc r ⟨rfl,c,a⟩
def KT.keeps(r:KT H kvs xs)(c:∀b a,H b=bD (.tup a)->H' b=bD (.tup a)):KT H' kvs xs :=
 Paired.C5 r λ_ _ z=>⟨z.1,c _ _ z.2.1,z.2.2⟩
section
def CC(b:IX P w H h)(e:Rd H a u):bP P w H h a u:=e.ok b
def lr(b:IX P w H h)(e:Rd H a (.dK kvs)):kvs.length<=c4/\(a==JP)=cc/\∃vs,KV kvs vs/\h.DictOf (aT P w) a vs :=
 show bP P w H h a (.dK kvs) from CC b e
def x_(b:IX P w H h)(e:H a=bD (.dK kvs)):kvs.length<=c4/\(a==JP)=cc/\∃vs,KV kvs vs/\h.DictOf (aT P w) a vs:=lr b (.inl e)
def jC(b:IX P w H h)(e:H a=bD (.tup (ks.map kV))):(Ve (aT P w)).is h ks a:=by
 obtain⟨_,its,r,o,c,d,n,f⟩:=(show bP P w H h a (.tup (ks.map kV)) from b a _ e)
 show⟨o,its.toArray,n,c,d,f,by simpa using nP r⟩
def lu(b:IX P w H h)(e:Rd H a (.dT kvs)):kvs.length<=c4/\(a==JP)=cc /\
  ∃xs,KT H kvs xs/\h.DictOfH (Ve (aT P w)) a xs:=by
 have⟨z,y,xs,r,o,es,ep,d,f,g,i,j⟩:=(show bP P w H h a (.dT kvs) from CC b e)
 show⟨z,y,xs,r,o,es,ep,d,f,g,i,λx hx=>?_,j⟩;have all:∀{l:List (List Key×V)} {m:List (List Key×eW×d4)},KT H l m->∀x∈m,(Ve (aT P w)).is h x.1 x.2.1:=by
  intro l m q;induction q with
  |nil=>intro x hx;show nomatch hx
  |@cons p q ps n c t k =>
   intro x hx;rcases d6.mp hx with e|hx
   .subst e;show jC b (by rw[<-c.1];show c.2.1)
   .show k x hx
 show all r x hx
def FH(b:IX P w H h)(e:H a=bD (.dT kvs)):kvs.length<=c4/\(a==JP)=cc /\
  ∃xs,KT H kvs xs/\h.DictOfH (Ve (aT P w)) a xs:=lu b (.inl e)
end
abbrev dX(H:Hp)(a:eW)(y:V)(r:Option V):Prop :=
 (∃kvs k,Rd H a (.dK kvs)/\y=kV k/\r=dJ kvs k)\/∃kvs k b,Rd H a (.dT kvs)/\y=.ref b/\H b=bD (.tup (k.map kV))/\r=dJ kvs k
abbrev wj(H:Hp)(a:eW)(y v:V)(H':Hp):Prop :=
 (∃kvs k,H a=bD (.dK kvs)/\y=kV k/\kvs.length<c4/\H'=upd H a (.dK (putK kvs k v))) \/
 ∃kvs k b,H a=bD (.dT kvs)/\y=.ref b/\H b=bD (.tup (k.map kV))/\kvs.length<c4/\H'=upd H a (.dT (putK kvs k v))
def dX.k{H:Hp}{a:eW}{kvs:List (Key×V)}{k:Key}(e:H a=bD (.dK kvs)):dX H a (kV k) (dJ kvs k):=.inl ⟨kvs,k,.inl e,rfl,rfl⟩
def wj.k{H:Hp}{a:eW}{kvs:List (Key×V)}{k:Key}{v:V}(e:H a=bD (.dK kvs))(hl:kvs.length<c4):wj H a (kV k) v (upd H a (.dK (putK kvs k v))):=.inl ⟨kvs,k,e,rfl,hl,rfl⟩
section
def Inv.big(I:Inv X a σ H s):JP<s.heap.objs.size:=by
 have h:ro<s.heap.objs.size:=(I.mod.glob.keeps I.bk).lt;show QY (by decide) h
def nQ(q:A.units+1<IF)(I:Inv X f σ H s)(g:dX H a y (bD v))(n:RelV y u)(h:∀d s',Inv X f σ H s'->RelV v d->Q d s'):
  eH (ke X.prog X.w) A (Sh (.ref a) u) Q E s:=by
 rcases g with⟨kvs,k,e,i,l⟩|⟨kvs,k,b,e,i,r,l⟩
 .subst i;have⟨z,t,vs,c,dd⟩:=lr I.HN e;have⟨d,j,m⟩:=kA.some_of (v:=v) (o:=Wx vs k) (by rw[l];show c.val k);show wpAny_getItem_of (nO n) dd.mapOf j (h d _ (I.tok _) m)
 .subst i;cases(show u=mh b from n);have⟨z,t,xs,c,dd⟩:=lu I.HN e;have⟨d,j,m⟩:=kA.some_of (v:=v) (o:=(U' xs k).map (·.2)) (by rw[l];show c.val k);have⟨p,x,B⟩:=d5.mp j;show wpAny_getItem_heap (QR q) (jC I.HN r) dd x ?_;rw[B];show h d _ (I.tok _) m
def FI(m:A.units+1<IF)(I:Inv X d σ H s)(g:dX H a y o)(j:RelV y u)(h:∀s',Inv X d σ H s'->Q (.bool o.isSome) s'):
  eH (ke X.prog X.w) A (OV .In u (.ref a)) Q E s:=by
 rcases g with⟨kvs,k,e,f,l⟩|⟨kvs,k,b,e,f,n,l⟩
 .subst f;have⟨z,i,vs,c,dd⟩:=lr I.HN e;show wpAny_in_of (nO j) i dd.mapOf ?_;rw[<-(c.val k).eU,<-l];show h _ (I.tok _)
 .subst f;cases(show u=mh b from j);have⟨z,i,xs,c,dd⟩:=lu I.HN e;show wpAny_in_heap (QR m) (jC I.HN n) i dd ?_;have q:=(c.val k).eU;rw[Sa]at q;rw[<-q,<-l];show h _ (I.tok _)
def uB(m:A.units+1<IF)(I:Inv X d σ H s)(g:dX H a y o)(j:RelV y u)(h:∀s',Inv X d σ H s'->Q (.bool (!o.isSome)) s'):
  eH (ke X.prog X.w) A (OV .NotIn u (.ref a)) Q E s:=by
 rcases g with⟨kvs,k,e,f,l⟩|⟨kvs,k,b,e,f,n,l⟩
 .subst f;have⟨z,i,vs,c,dd⟩:=lr I.HN e;show wpAny_notIn_of (nO j) i dd.mapOf ?_;rw[<-(c.val k).eU,<-l];show h _ (I.tok _)
 .subst f;cases(show u=mh b from j);have⟨z,i,xs,c,dd⟩:=lu I.HN e;show ð (QR m) (jC I.HN n) i dd ?_;have q:=(c.val k).eU;rw[Sa]at q;rw[<-q,<-l];show h _ (I.tok _)
def uC(I:Inv X c σ H s)(f:OB (H a))(hs:KC a s.heap h')(g:∃q,h'.get? a=bD q)(new:bP X.prog X.w (upd H a d) h' a d):
  Inv X c σ (upd H a d) {s with heap:=h',toks:=t' } :=
 I.write (x:=a) (e:=a) f (.inl rfl) (λb q h z=>(hs.2 b h).trans z) g new
def Dx(z:kvs.length<=c4)(c:(a==JP)=cc)(b:KV kvs vs)(dd:h'.DictOf (aT P w) a vs):
  bP P w H' h' a (.dK kvs):=⟨z,c,vs,b,dd⟩
def wm(B:A.units+1<IF)(I:Inv X f σ H s)(g:wj H a y v H')(p:RelV y u)(rv:RelV v r)(h:∀s',Inv X f σ H' s'->Q () s'):
  eH (ke X.prog X.w) A (T1 (.ref a) u r) Q E s:=by
 rcases g with⟨kvs,k,e,m,l,n⟩|⟨kvs,k,b,e,m,t,l,n⟩
 .subst m n;have⟨z,o,vs,d,dd⟩:=x_ I.HN e;have hz:vs.length<=c4:=by rw[<-d.length];show z
  have hl:(putK kvs k v).length<=c4:=by have:=j3 kvs k v;lia
  show wpAny_setItem_pairs (hsz:=hz) (nO p) dd λh' i hs=>h _ ?_;have C:∃q,h'.get? a=bD q:=let ⟨q,_,_,j,_⟩:=i;⟨q,j⟩;show uC I (by rw[e];show U3) hs C (Dx hl o (d.put k rv) i)
 .subst m n;cases(show u=mh b from p);have⟨z,o,xs,d,dd⟩:=FH I.HN e;have hz:xs.length<=c4:=by rw[<-Paired.length d];show z
  have hl:(putK kvs k v).length<=c4:=by have:=j3 kvs k v;lia
  show Å (hsz:=hz) (QR B) (jC I.HN t) dd λh' i hs=>h _ ?_;obtain⟨q,es,ep,j,D,G,J,_,L⟩:=i;show uC I (by rw[e];show U3) hs ⟨q,j⟩ ⟨hl,o,_,(d.put k t rv).keeps λc N x=>?_,q,es,ep,j,D,G,J,L⟩;rw[ay (xK x e (λz=>nomatch z))];show x
end
section
end
abbrev Dy(i:oT):Prop:=∀a b,Yg i cc a b=operate [a,b] (Sh a b)
def AR{T id:String}
  (hl:YH (.type T) "__getitem__"=pure (bD (.builtin id))) (hs:Dy a)
  (h:eH (ke prog w) A (JF b env) (λo f=>eH (ke prog w) A (JF a env) (λi d=>d.TypeIs o T/\eH (ke prog w) A (Sh o i) Q E d) E f) E s) :
  eH (ke prog w) A (JF (.Subscript b a pos) env) Q E s:=by
 show Ï (ti h (λo f k=>ti k (λi d e=>?_) λ_ _ x=>x) λ_ _ x=>x);have⟨g,e⟩:=e;unfold VN;show b8 ?_;rw[getitemInPython_of_ne g.not_modules];show b8 (Qq g hl ?_);have c:eH (ke prog w) A (Yg a cc o i) (λr j=>eH (ke prog w) A (letTemporaryGo b o r >>= λ_=>pure r) Q E j) E d:=by
  rw[hs o i];show wpAny_operating (ti e (λr j l=>b8 (wpAny_letTemporaryGo (dV l))) λ_ _ x=>x)
 first
  |show dV (b8 c)
  |show b8 (dV (b8 c))
  |show b8 c
def j4(I:Inv X c σ H s)(g:dX H a y o):s.TypeIs (.ref a) "dict":=by
 rcases g with⟨kvs,k,e,_,_⟩|⟨kvs,k,b,e,_,_,_⟩
 .obtain⟨_,_,vs,_,dd⟩:=lr I.HN e;show dd.typeIs
 .obtain⟨_,_,xs,_,dd⟩:=lu I.HN e;show dd.typeIs
abbrev FJ(c d:TE):TE:=λσ H Q=>c σ H λx e=>d σ e λy b=>∃a v,x=.ref a/\dX b a y (bD v)/\Q v b
abbrev Hs(c d:TE):TE:=λσ H Q=>c σ H λy e=>d σ e λx b=>∃a o,x=.ref a/\dX b a y o/\Q (.bl o.isSome) b
abbrev AS(c d:TE):TE:=λσ H Q=>c σ H λy e=>d σ e λx b=>∃a o,x=.ref a/\dX b a y o/\Q (.bl (!o.isSome)) b
section
def AU(d:X.A.units+1<IF)(ho:PE X o e)(f:PE X i j)(hs:Dy i):PE X (.Subscript o i pos) (FJ e j):=by
 intro b s σ H Q I h;show AR PySem.F.slot_dict_getitem.lookup hs (HS (ho b s σ H _ I h) λu s1 ⟨x,k,l,m,n⟩=>HS (f b s1 σ k _ l n) λB s2 p=>?_);have⟨y,q,c,r,a,v,ex,g,t⟩:=p;subst ex;obtain rfl:u=mh a:=m;show⟨j4 c g,nQ d c g r λC s3 w z=>⟨v,q,w,z,t⟩⟩
def ya(c:X.A.units+1<IF)(d:PE X i e)(ho:PE X o f):PC X .In i o (Hs e f):=by
 intro b s σ H Q I h;show HS (d b s σ H _ I h) λz s1 ⟨y,j,k,l,m⟩=>HS (ho b s1 σ j _ k m) λu s2 n=>?_;have⟨x,p,q,r,a,t,ex,g,v⟩:=n;subst ex;obtain rfl:u=mh a:=r;show FI c q g l λs3 w=>⟨.bl t.isSome,p,w,rfl,v⟩
def nR(c:X.A.units+1<IF)(d:PE X i e)(ho:PE X o f):PC X .NotIn i o (AS e f):=by
 intro b s σ H Q I h;show HS (d b s σ H _ I h) λz s1 ⟨y,j,k,l,m⟩=>HS (ho b s1 σ j _ k m) λu s2 n=>?_;have⟨x,p,q,r,a,t,ex,g,v⟩:=n;subst ex;obtain rfl:u=mh a:=r;show uB c q g l λs3 w=>⟨.bl (!t.isSome),p,w,rfl,v⟩
end
def yb(h:Ks)(a:JP<h.objs.size):bP P w H (h.push {cls:=.type "dict",data:=.dict #[]}) h.objs.size (.dK []) :=
 ⟨mA _,ģ.mpr (uv (ki a)),[],.nil,Yz h⟩
abbrev Dz:TE:=λ_ H Q=>∀p,H p=b7->Q (.ref p) (upd H p (.dK []))
section
def qu:PE X (.Dict [] [] pos) Dz:=λb s σ H Q I h =>
 è ⟨.ref s.heap.objs.size,_,I.laid (a:=s.heap.objs.size) (o:=.dK []) (t':=s.toks) (λ_ _ q=>dt _ q) (kb _) (yb s.heap I.big),rfl,h _ (I.HN.fresh (kb _))⟩
end
structure M2(X:Cx)(o:oT)(m:Str)(apos:Pos)(e f:oT)(G':Pos):Prop where
 base:VM o m X.env (JF o X.env)=JF o X.env
 JV:((KW G' (lx [e,f] X.env)).all (λx=>!x.1)&&(Sx G' (P2 [] X.env)).all (λx=>x.1.isSome)
  && df (([e,f]:List oT).length+([]:List O9).length+(if ([]:List O9).isEmpty then 0 else 1)<30))=cb
 line:(apos.endLine==G'.line)=cb
 trees:KW G' (lx [e,f] X.env)=[(cc,JF e X.env),(cc,JF f X.env)]
abbrev TZ(H:Hp)(a:eW):Prop:=(∃kvs,Rd H a (.dK kvs))\/∃kvs,Rd H a (.dT kvs)
def DA(I:Inv X i σ H s)(d:TZ H a):
  s.TypeIs (.ref a) "dict"/\(∀b,mh a=.ref b->∃c,s.heap.get? b=bD c/\c.dict=b7)/\(a==JP)=cc:=by
 rcases d with⟨kvs,e⟩|⟨kvs,e⟩
 .obtain⟨_,f,vs,_,dd⟩:=lr I.HN e;show⟨dd.typeIs,λb q=>?_,f⟩;cases q;obtain⟨c,_,_,g,h,_⟩:=dd;show⟨c,g,h.2.1⟩
 .obtain⟨_,f,xs,_,dd⟩:=lu I.HN e;show⟨dd.typeIs,λb q=>?_,f⟩;cases q;obtain⟨c,_,_,g,h,_⟩:=dd;show⟨c,g,h.2.1⟩
section
def DB(q:A.units+1<IF)(I:Inv X f σ H s)(g:dX H a y o)(m:RelV y u)(n:RelV d r)(h:∀p s',Inv X f σ H s'->RelV (o.getD d) p->Q p s'):
  eH (ke X.prog X.w) A (PU (.builtin "dict.get") [.ref a,u,r]) Q E s:=by
 rcases g with⟨kvs,k,e,i,l⟩|⟨kvs,k,b,e,i,t,l⟩
 .subst i;have⟨z,j,vs,c,dd⟩:=lr I.HN e;show Zs PySem.F.slot_dict_get dd.typeIs PySem.F.entry_dict_get (PySem.F.args_dict_get_3 _ _ _) (meets_dict_get_default (aT X.prog X.w) a (nO m) j r) ⟨_,dd.mapOf,h _ _ (I.tok _) ?_⟩;rw[l];show(c.val k).getD n
 .subst i;cases(show u=mh b from m);have⟨z,j,xs,c,dd⟩:=lu I.HN e;show Zs PySem.F.slot_dict_get dd.typeIs PySem.F.entry_dict_get (PySem.F.args_dict_get_3 _ _ _) (meetsH_dict_get_default (Ve (aT X.prog X.w)) a b j r) ⟨QR q,k,xs,jC I.HN t,dd,h _ _ (I.tok _) ?_⟩;rw[l];show(c.val k).getD n
end
abbrev DC(d e f:TE):TE:=λσ H Q=>d σ H λx b=>∃a,x=.ref a/\TZ b a/\e σ b λy g=>f σ g λz c=>∃o,dX c a y o/\Q (o.getD z) c
section
def yc(j:X.A.units+1<IF)(ho:PE X o k)(l:PE X e n)(p:PE X f q)(m:M2 X o "get" c e f r):PE X (.Call (.Attribute o "get" c) [e,f] [] r) (DC k n q):=by
 intro b s σ H Q I h;show wpAny_Call_method m.base m.JV m.line PySem.F.plainAttrs_dict PySem.F.slot_dict_get PySem.F.type_dict_get (HS (ho b s σ H _ I h) λu s1 t=>?_);have⟨x,v,i,w,a,ex,d,B⟩:=t;subst ex;obtain rfl:u=mh a:=w;obtain⟨C,D,_⟩:=DA i d;show⟨C,D,?_⟩;rw[m.trees];show NP rfl (MM (NM (HS (l b s1 σ v _ i B) λiv s2 ⟨y,G,J,L,N⟩ =>
  NM (HS (p b s2 σ G _ J N) λfv s3 ⟨z,O,T,Y,ov,g,q3⟩=>Qk ?_))))
 show DB j T g L Y λw' s4 I4 Kl=>⟨_,O,I4,Kl,q3⟩
end
section
end
section
end
end L2
namespace Ig
open PySem PySem.Builtin.Str PySem.StrLaws
abbrev low(c:Nat):Bool:=df (97<=c)&&df (c<=122)
abbrev fP(l:List Nat):Bool:=df (1<=l.length)&&df (l.length<=8)&&l.all low
def bQ(l:List Nat):fP l=cb↔1<=l.length/\l.length<=8/\∀c∈l,97<=c/\c<=122:=by
 simp[fP,low,r6,and_assoc]
def eV(h:fP l=cb):47∉l:=λm=>by
 have:=((bQ l).mp h).2.2 47 m;lia
def fu{x y:Str}(h:x.cps.toList=y.cps.toList):x=y:=by
 cases x;cases y;congr
 show VJ.mp h
def jD(h:c∉x.cps.toList):q9 x ⟨#[c]⟩=(x,ri,ri):=by
 have e:=found_one x c;rw[Ğ h]at e;unfold q9;cases q:KI x ⟨#[c]⟩ 0 x.length 1 with
 |nil=>rfl
 |cons i r=>rw[q]at e;simp at e
def oS(x:Str)(c i:Nat):At x ⟨#[c]⟩ x.length i↔x.cps.toList[i]?=bD c:=subAt_one x c i
def yd(h:x.cps.toList=a++c::b)(j:c∉a)(d:Nat)(hl:1<=d):∃r,KI x ⟨#[c]⟩ 0 x.length d=a.length::r:=by
 have f:x.cps.toList[a.length]?=bD c:=by rw[h];simp
 rcases occ_head x ⟨#[c]⟩ d hl with⟨_,k⟩|⟨i,r,e,l,m⟩
 .show absurd ((oS x c a.length).mpr f) (k _)
 .have g:=(oS x c i).mp l;have:i=a.length:=by
   rcases Nat.lt_trichotomy i a.length with z|z|z
   .exfalso
    rw[h,vl z]at g;show j (pb g)
   .show z
   .show absurd ((oS x c a.length).mpr f) (m _ z)
  subst this;show⟨r,e⟩
def AV(h:x.cps.toList=a++c::b)(d:c∉a):q9 x ⟨#[c]⟩=(⟨a.toArray⟩,⟨#[c]⟩,⟨b.toArray⟩):=by
 have⟨r,e⟩:=yd h d 1 (kb _);unfold q9;rw[e];have f:(⟨#[c]⟩:Str).length=1:=rfl;have g:x.length=a.length+1+b.length:=by
  have:=ġ tA h;simp[Rm]at this ⊢;lia
 show SO ?_ (SO rfl ?_)
 .apply fu;rw[Y5,h];simp
 .apply fu;change(strSub x (a.length+(⟨#[c]⟩:Str).length) x.length).cps.toList=_;rw[Y5,h,f,g];simp
def ly(h:c∉x.cps.toList):Nu x ⟨#[c]⟩=[x]:=by
 unfold Nu;split
 .rfl
 .rw[ĝ];rcases occ_head x ⟨#[c]⟩ (x.length+1) ⋯ with⟨e,_⟩|⟨i,r,e,a,_⟩
  .rw[e];rfl
  .show absurd (pb ((oS x c i).mp a)) h
def qv(c:Nat)(h:c<256)(x:Str):¬(PySem.Builtin.Str.strKind x<PySem.Builtin.Str.strKind ⟨#[c]⟩):=by
 have e:PySem.Builtin.Str.strKind ⟨#[c]⟩=1:=by simp[PySem.Builtin.Str.strKind,h]
 rw[e];unfold PySem.Builtin.Str.strKind;split
 .lia
 .split<;>lia
def qw(h:x.cps.toList=a++c::b)(d:c∉a)(f:c<256):∃r,Nu x ⟨#[c]⟩=⟨a.toArray⟩::r:=by
 have⟨r,e⟩:=yd h d (x.length+1) ⋯;have g:(⟨#[c]⟩:Str).length=1:=rfl;have k:x.length=a.length+1+b.length:=by
  have:=ġ tA h;simp[Rm]at this ⊢;lia
 unfold Nu;rw[ğ (by
  have i:¬(x.length<(⟨#[c]⟩:Str).length):=by rw[g];lia
  have j:=qv c f x;simp[i,j]),ğ (by rw[e];simp),partsBetween_eq,e]
 show⟨_,ġ (·::_) ?_⟩;apply fu;rw[Y5,h];simp
abbrev fZ(i:Int):Str:=QX (YE i)
abbrev f9:Str:=⟨#[47]⟩
end Ig
namespace L2
open PySem PySem.Spec PyProof.Rows
abbrev bG(env:Env):List (Str×ME)->List (Str×eW)->List (Str×eW)
 |[],b=>b
 |(n,k)::r,b=>bG env r (if k==.free then(match env.cells.lookup n with|some a=>(n,a)::b|none=>b) else b)
def eX(h:∀y∈scope.names,y.2=.free->∃a,env.cells.lookup y.1=bD a):closureFor scope env=pure (bG env scope.names []):=by
 unfold closureFor;generalize scope.names=names at h
 suffices H:∀b,(ě names b (λ(x:Str×ME) (r:List (Str×eW))=>if (x.2==L4)=cb then do let a <-cellOf env x.1;pure (Pt ((x.1,a)::r)) else pure (Pt r)):Sem (List (Str×eW)))=pure (bG env names b) by
  have:=H [];show ġ (λ(m:Sem (List (Str×eW)))=>m >>= pure) this
 induction names with
 |nil=>intro b;rfl
 |cons y r d =>
  intro b;have⟨n,k⟩:=y;rw[List.forIn_cons];have c:=d λy e=>h y (kj _ e);by_cases hk:(k==L4)=cb
  .have⟨a,f⟩:=h (n,k) lg (by simpa using hk);have g:env.cells.lookup n=bD a:=f;simp only[hk,ĥ,cellOf,g,bG];show c _
  .simp only[hk,Ĥ,bG];show c _
theorem fw:∀(names:List (Str×ME)) (b:List (Str×eW)),(∀n c,b.lookup n=bD c->env.cells.lookup n=bD c)->∀n c,(bG env names b).lookup n=bD c->env.cells.lookup n=bD c
 |[],_,h=>h
 |(m,k)::r,b,h=>by
  unfold bG;show fw r _ λn c e=>?_;by_cases hk:(k==L4)=cb
  .rw[ĝ hk]at e;cases q:env.cells.lookup m with
   |none=>rw[q]at e;show h n c e
   |some a =>
    rw[q]at e;simp only[p7]at e;cases d:n==m with
    |true =>
     rw[d]at e;have f:n=m:=by simpa using d
     subst f;simp only at e;rw[q];show e
    |false=>rw[d]at e;show h n c e
  .rw[ğ hk]at e;show h n c e
theorem j5(d:env.cells.lookup n=bD a):∀(names:List (Str×ME)) (c:List (Str×eW)),c.lookup n=bD a->(bG env names c).lookup n=bD a
 |[],_,h=>h
 |(m,k)::r,c,h=>by
  unfold bG;show j5 d r _ ?_;by_cases hk:(k==L4)=cb
  .rw[ĝ hk];cases q:env.cells.lookup m with
   |none=>show h
   |some b =>
    simp only[p7];cases e:n==m with
    |true =>
     have f:n=m:=by simpa using e
     subst f;rw[d]at q;cases q;rfl
    |false=>show h
  .rw[ğ hk];show h
theorem ir(b:env.cells.lookup n=bD a):∀(names:List (Str×ME)) (c:List (Str×eW)),(n,L4)∈names->(bG env names c).lookup n=bD a
 |[],_,h=>by cases h
 |(m,k)::r,c,h=>by
  unfold bG;rcases d6.mp h with e|e
  .cases e;show j5 b r _ ?_;rw[ĝ (by decide),b];simp[p7]
  .show ir b r _ e
theorem bY{env:Env}:∀{names:List (Str×ME)}{x:Str}{k:ME},
  (names.map λ(n,k)=>if (k==L4&&env.scope.kind==.function&&env.kindOf n==bD .cell) then(n,L6) else(n,k)).lookup x=bD k ->
  names.lookup x=bD k\/(k=.cell/\names.lookup x=bD .free)
 |[],_,_,h=>by simp at h
 |(n,k0)::r,x,k,h=>by
  have e:=@bY env r x k;rw[eF]at h;by_cases b:(k0==L4&&env.scope.kind==.function&&env.kindOf n==bD .cell)=cb
  .simp only[ĝ b,p7]at h;cases a:x==n with
   |true =>
    rw[a]at h;have f:k0=.free:=by
     have:=(JL.mp (JL.mp b).1).1;simpa using this
    show .inr ⟨by simpa using h.symm,by simp[p7,a,f]⟩
   |false =>
    rw[a]at h;rcases e h with z|⟨c,d⟩
    .show .inl (by simp[p7,a,z])
    .show .inr ⟨c,by simp[p7,a,d]⟩
  .simp only[ğ b,p7]at h;cases a:x==n with
   |true=>rw[a]at h;show .inl (by simpa[p7,a] using h)
   |false =>
    rw[a]at h;rcases e h with z|⟨c,d⟩
    .show .inl (by simp[p7,a,z])
    .show .inr ⟨c,by simp[p7,a,d]⟩
theorem j7:∀(names:List (Str×ME)) (b:List (Str×eW)),(bG env names b).lookup x=bD c->(x,L4)∈names\/b.lookup x=bD c
 |[],_,h=>.inr h
 |(m,k)::r,b,h=>by
  unfold bG at h;rcases j7 r _ h with z|z
  .show .inl (kj _ z)
  .by_cases hk:(k==L4)=cb
   .rw[ĝ hk]at z;cases q:env.cells.lookup m with
    |none=>rw[q]at z;show .inr z
    |some a =>
     rw[q]at z;simp only[p7]at z;cases d:x==m with
     |true =>
      have e:x=m:=by simpa using d
      have f:k=.free:=by simpa using hk
      subst e f;show .inl lg
     |false=>rw[d]at z;show .inr z
   .rw[ğ hk]at z;show .inr z
theorem iT:∀(names:List (Str×ME)) (n:Nat) (acc:List (Str×eW)),(Nb n names acc).lookup x=bD c->((x,L6)∈names/\@Z6 Nat _ n c)\/acc.lookup x=bD c
 |[],_,_,h=>.inr h
 |(y,k)::r,n,acc,h=>by
  unfold Nb at h;by_cases hk:(k==L6)=cb
  .rw[ĝ hk]at h;have e:k=.cell:=by simpa using hk
   subst e;rcases iT r (n+1) _ h with⟨a,b⟩|z
   .show .inl ⟨kj _ a,Nat.le_of_succ_le b⟩
   .simp only[p7]at z;cases d:x==y with
    |true =>
     rw[d]at z;have f:x=y:=by simpa using d
     subst f;cases z;show .inl ⟨lg,kb _⟩
    |false=>rw[d]at z;show .inr z
  .rw[ğ hk]at h;rcases iT r n acc h with⟨a,b⟩|z
   .show .inl ⟨kj _ a,b⟩
   .show .inr z
theorem oU:∀(names:List (Str×ME)) (n:Nat) (acc:List (Str×eW)),(x,L6)∉names->(Nb n names acc).lookup x=acc.lookup x
 |[],_,_,_=>rfl
 |(y,k)::r,n,acc,h=>by
  unfold Nb;have a:(x,L6)∉r:=λz=>h (kj _ z);by_cases hk:(k==L6)=cb
  .rw[ĝ hk,oU r _ _ a];have b:k=.cell:=by simpa using hk
   subst b;simp only[p7];cases c:x==y with
   |true =>
    have d:x=y:=by simpa using c
    subst d;show absurd lg h
   |false=>rfl
  .rw[ğ hk,oU r _ _ a]
theorem sy:∀(names:List (Str×ME)) (n:Nat) (acc:List (Str×eW)),(∀(z:Str) (d:eW),acc.lookup z=bD d->@OT Nat _ d n)->(∀(u v:Str) (d:eW),acc.lookup u=bD d->acc.lookup v=bD d->u=v) ->
  (Nb n names acc).lookup x=bD c->(Nb n names acc).lookup y=bD c->x=y
 |[],_,_,_,f,a,b=>f x y c a b
 |(g,k)::r,n,acc,hl,f,a,b=>by
  unfold Nb at a b;by_cases hk:(k==L6)=cb
  .rw[ĝ hk]at a b;have lk:∀(z:Str) (d:eW),List.lookup z ((g,(n:eW))::acc)=bD d->(z=g/\d=n)\/acc.lookup z=bD d:=λz d e=>by
    simp only[p7]at e;cases h:z==g with
    |true=>rw[h]at e;cases e;show .inl ⟨by simpa using h,rfl⟩
    |false=>rw[h]at e;show .inr e
   show sy r (n+1) _ (λz d e=>?_) (λu v d i j=>?_) a b
   .rcases lk z d e with⟨_,q⟩|q
    .rw[q];show Td _
    .show K3 (hl z d q)
   .rcases lk u d i with⟨l,m⟩|q<;>rcases lk v d j with⟨o,p2⟩|p
    .rw[l,o]
    .rw[m]at p;show absurd (hl v n p) (H8 _)
    .rw[p2]at q;show absurd (hl u n q) (H8 _)
    .show f u v d q p
  .rw[ğ hk]at a b;show sy r n acc hl f a b
theorem oV:∀(names:List (Str×ME)) (h:Ks) (acc:List (Str×eW)),(Nb h.objs.size names acc).lookup x=bD c->(Su h names).IsCell c b7\/acc.lookup x=bD c
 |[],_,_,e=>.inr e
 |(y,k)::r,h,acc,e=>by
  unfold Nb at e;unfold Su;by_cases hk:(k==L6)=cb
  .rw[ĝ hk]at e ⊢;have hs:h.objs.size+1=(h.push {cls:=.type "cell",data:=.cell b7}).objs.size:=by rw[QE]
   rw[hs]at e;rcases oV r _ _ e with z|z
   .show .inl z
   .simp only[p7]at z;cases a:x==y with
    |true =>
     rw[a]at z;cases z;show .inl ⟨_,Yr r _ _ _ (i4 _ rfl),rfl⟩
    |false=>rw[a]at z;show .inr z
  .rw[ğ hk]at e ⊢;show oV r h acc e
abbrev Lj(X:Cx)(scope:Nj)(C:eW):List (Str×eW):=Nb (C+1) scope.names (bG X.env scope.names [])
abbrev Ja(X:Cx)(N:List Str)(scope:Nj)(C:eW)(s:hY)(H:Hp)(ex:List eW):Cx where
 prog:=X.prog
 w:=X.w
 K:=X.K
 mg:=X.mg
 base:=X.base
 A:=X.A
 N:=N
 s₀:=s
 H₀:=H
 env:=Xk scope (Lj X scope C) C X.env
 outer:=X.stack
 stack:=X.stack
 ex:=ex
 fn:=λx=>df (scope.names.lookup x=bD .cell)
 calm:=X.calm
 pn:=[]
 xe:=λ_ _=>False
abbrev eN(D N:List Str):Prop:=D.length=N.length/\∀(i:Nat) (y:Str),D[i]?=bD y->N[i]?=bD y\/y="."\/y=".."
def eN.refl(N:List Str):eN N N:=⟨rfl,λ_ _ h=>.inl h⟩
def eN.set{D N:List Str}(h:eN D N)(j:Nat){m:Str}(b:m="."\/m=".."):eN (D.set j m) N:=by
 show⟨by rw[Z4];show h.1,λi y e=>?_⟩;by_cases a:j=i
 .subst a;rw[List.getElem?_set,ĝ rfl]at e;split at e
  .cases e;show .inr b
  .cases e
 .rw[ko a]at e;show h.2 i y e
structure cV(X:Cx)(N own:List Str)(scope:Nj):Prop where
 kind:scope.kind=.function
 uq:∀y∈scope.names,scope.names.lookup y.1=bD y.2
 cl:∀y∈scope.names,y.2=.cell->y.1∈own
 nd:N.Nodup
 pre:N.take own.length=own
 loc:∀y∈scope.names,y.2=.local->y.1∈own\/y.1=".0"
 Vo:(".0":Str)∉N
 tail:eN (N.drop own.length) X.N
 free:∀y∈scope.names,y.2=.free->X.env.scope.names.lookup y.1=bD .cell\/X.env.scope.names.lookup y.1=bD .free
 dot:∀y∈scope.names,y.1≠"."/\y.1≠".."
def mem_lookup{names:List (Str×ME)}(h:names.lookup x=bD k):(x,k)∈names:=PySem.mem_of_lookup h
def cV.names(S:cV X N a scope):∀y∈scope.names,y.2=.local->scope.names.lookup y.1=bD .local:=λy b e=>e▸S.uq y b
def cV.no(S:cV X N a scope)(h:scope.names.lookup x=bD .free):(x,L6)∉scope.names:=λz=>by
 have:=S.uq _ z;rw[h]at this;cases this
def cV.cells(S:cV X N c scope)(b:X.Ok):∀y∈scope.names,y.2=.free->∃a,X.env.cells.lookup y.1=bD a:=λy d e=>by
 rcases S.free y d e with z|z
 .show b.has y.1 (.inl z)
 .show b.has y.1 (.inr z)
def ye(S:cV X N f scope)(I:Inv X D σ H s)
  (B:s.heap.objs.size<=C) (K6:∀x c,(Lj X scope C).lookup x=bD c->s4.heap.IsCell c b7\/(bG X.env scope.names []).lookup x=bD c) (Lx:s4.os=s.os) (hg:s4.gens=s.gens) (keep:∀b o,s.heap.get? b=bD o->s4.heap.get? b=bD o) (ns:∃m,s4.heap.Ns C m)
  (g:∀b∈ex,iN X D H b/\b<s.heap.objs.size):Inv (Ja X N scope C s H ex) [] (mx f.length b7++σ) H s4:=by
 have⟨m0,OS⟩:=ns;have sub:=fw (env:=X.env) scope.names [] (λn c e=>by simp at e);have Vp:∀(x:Str) (c:eW),(bG X.env scope.names []).lookup x=bD c->c<s.heap.objs.size:=λx c e=>by
  obtain⟨v,o,ho,_⟩:=I.cell x c (sub x c e);show hH ho
 have L:∀(x:Str) (c:eW),(Lj X scope C).lookup x=bD c->C<c\/(bG X.env scope.names []).lookup x=bD c:=λx c e=>(iT _ _ _ e).imp (λz=>z.2) id;have Y:∀b∈ex,b<C:=λb t=>mf (g b t).2 B;have tl:f.length<=N.length:=by have:=ġ tA S.pre;rw[vr]at this;lia
 show⟨⟨I.ok.mod,?_,I.ok.glob,I.ok.blt,B,λx y c w A=>sy _ _ _ (λz d e=>K3 (mf (Vp z d e) B)) (λu v d G e2=>I.ok.inj u v d (sub u d G) (sub v d e2)) w A,λx hx=>?_,λx c h e=>?_,I.ok.hd,I.ok.frames,.inl rfl,λb t=>⟨ki (Y b t),λx c e=>?_⟩,λb o e=>I.bs b o e,?_,λb o e t=>?_,λb t=>?_,I.stack,I.kK⟩,
  Lx,(by rw[hg];show I.bare),Un.kept keep,⟨m0,OS,λi y v w A h3=>?_⟩,λx c e=>?_,I.HN.fresh B,λx c e=>?_,λp hp=>absurd (show p∈([]:List (eW×Obj)) from hp) (by simp),I.HN.kept keep,?_⟩
 .change(T8 scope X.env).kind=.function;show S.kind
 .
  have N_:(T8 scope X.env).names.lookup x=bD .cell\/(T8 scope X.env).names.lookup x=bD .free:=hx;have HZ:scope.names.lookup x=bD .cell\/scope.names.lookup x=bD .free:=by
   rcases N_ with z|z
   .rcases bY z with q|⟨_,q⟩
    .show .inl q
    .show .inr q
   .rcases bY z with q|⟨q,_⟩
    .show .inr q
    .cases q
  rcases HZ with HZ|HZ
  .show P0.mp (PySem.W.cellsFrom_some scope.names (C+1) _ (.inl HZ))
  .have⟨a,ha⟩:=S.cells I.ok (x,.free) (mem_lookup HZ) rfl;show⟨a,(oU _ _ _ (S.no HZ)).trans (ir ha scope.names [] (mem_lookup HZ))⟩
 .have h':scope.names.lookup x=bD .cell:=Ģ h;rcases L x c e with z|z
  .show ve B (M3 z)
  .rcases j7 _ _ z with z|z
   .have:=S.uq _ z;rw[h']at this;cases this
   .simp at z
 .rcases L x c e with z|z
  .show λq=>absurd (QY (Y b t) z) (by rw[q];show H8 _)
  .show(g b t).1.2.2.2.2.1 x c (sub x c z)
 .show ve I.ok.Mg I.sz
 .have⟨f0,f1,f2,f3,f4,f5⟩:=(g b t).1;rcases f3 with z|z
  .show I.ok.K4 b o e z
  .show absurd (mf (hH e) (ve I.ok.Mg z)) (H8 _)
 .intro J1;have⟨f0,f1,f2,f3,f4,f5⟩:=(g b t).1;rcases d6.mp (I.kX b J1) with z|z
  .show f1 z
  .show f2 z
 .
  have O:f.length<=i:=by
   by_cases O:i<f.length
   .rw[vl (by simpa using O),KZ]at A;split at A<;>cases A
   .lia
  rw[sx (by simpa using O),Q7]at A;have Vq:(N.drop f.length)[i - f.length]?=bD y:=by
   rw[MJ];have e:f.length+(i - f.length)=i:=by lia
   rw[e];show w
  have N':(T8 scope X.env).names.lookup y=bD .local\/(T8 scope X.env).names.lookup y=bD .cell\/(T8 scope X.env).names.lookup y=bD .free:=h3;have MQ:∀y:Str,y∈f->N[i]?=bD y->False:=λy Q w=>by
   have⟨j,hj,ej⟩:=RE Q;have Mk:N[j]?=bD y:=by
    have G:(N.take f.length)[j]?=bD y:=by rw[S.pre,Jq hj,ej]
    rw[Yl hj]at G;show G
   have:=iL S.nd Mk w;lia
  have HZ:scope.names.lookup y=bD .free:=by
   rcases N' with z|z|z
   .rcases bY z with q|⟨q,_⟩
    .exfalso
     have Q:y∈f:=by
      rcases S.loc (y,.local) (mem_lookup q) rfl with z|z
      .show z
      .have z':y=".0":=z;show absurd (pb w) (by rw[z'];show S.Vo)
     show MQ y Q w
    .cases q
   .rcases bY z with q|⟨_,q⟩
    .show(MQ y (S.cl _ (mem_lookup q) rfl) w).elim
    .show q
   .rcases bY z with q|⟨q,_⟩
    .show q
    .cases q
  have hX:X.N[i - f.length]?=bD y:=by
   rcases S.tail.2 _ _ Vq with e|e|e
   .show e
   .show absurd e (S.dot _ (mem_lookup HZ)).1
   .show absurd e (S.dot _ (mem_lookup HZ)).2
  have⟨m,hn,hl⟩:=I.loc;have hv:X.env.scope.names.lookup y=bD .cell\/X.env.scope.names.lookup y=bD .free:=S.free (y,.free) (mem_lookup HZ) rfl;have⟨u,r,l⟩:=hl _ y v hX A (.inr hv);show⟨u,r,?_⟩;rcases l with⟨k,_⟩|⟨k,c,e,z⟩
  .have k':X.env.scope.names.lookup y=bD .local:=k;rcases hv with q|q<;>(rw[k']at q;cases q)
  .have hk:(T8 scope X.env).names.lookup y=bD .cell\/(T8 scope X.env).names.lookup y=bD .free:=by
    rcases N' with q|q|q
    .rcases bY q with J|⟨J,_⟩
     .rw[HZ]at J;cases J
     .cases J
    .show .inl q
    .show .inr q
   have⟨o,ho,T⟩:=z;show .inr ⟨hk,c,(oU _ _ _ (S.no HZ)).trans (ir e scope.names [] (mem_lookup HZ)),o,keep c o ho,T⟩
 .rcases K6 x c e with z|z
  .show⟨_,z⟩
  .have⟨v,o,ho,T⟩:=I.cell x c (sub x c z);show⟨v,o,keep c o ho,T⟩
 .rcases L x c e with z|z
  .show I.HN.fresh (ve B (M3 z))
  .show I.Iq x c (sub x c z)
 .rw[gs,Q7,I.len];have e:N.length=f.length+(N.drop f.length).length:=by rw[Km];lia
  change _=N.length;rw[e,S.tail.1]
def qx(I:Inv X f σ H s)
  (d:Inv (Ja X N scope C s H ex) Y σ' l s4) (w:s.heap.objs.size<=D) (x:s.heap.objs.size<=C) (y:D≠C) (h:l D=b7) (rv:Vals p its) (A:s4.heap.PlainList D its.toArray) (hl:p.length<=c4)
  (i:KC C s4.heap h') (m:∀b∈ex,iN X f H b):Inv X f σ (upd l D (.lst p)) {s4 with heap:=h' }:=by
 have r:l C=b7:=d.free;have lt:∀{b:eW} {o:Obj},s.heap.get? b=bD o->b≠C/\b≠D:=λe=>⟨ki (mf (hH e) x),ki (mf (hH e) w)⟩
 show I.Cy (s':={s4 with heap:=h' }) (ch:=ex) d.os ⟨λb o e n j g=>?_,λb o e n j g=>?_,λb o e n g=>?_,λb o e g=>?_,λb xs e=>?_,λb o u e=>?_,λb ps e=>?_⟩ (λa o e=>?_) d.bare λb j=>?_
 .show(i.2 b (lt e).1).trans (d.base.keep b o e n j g)
 .have⟨B,q⟩:=d.base.slot b o e n j g;show⟨B,(i.2 b (lt e).1).trans q⟩
 .rw[ay (lt e).2];show d.base.free b o e n g
 .have⟨G,q⟩:=d.base.there b o e g;show⟨G,(i.2 b (lt e).1).trans q⟩
 .have q:=d.base.gZ b xs e;rw[ay (bJ q h)];show q
 .have q:=d.base.IZ b o u e;rw[ay (bJ q h)];show q
 .have⟨k,q⟩:=d.base.Jj b ps e;show⟨k,by rw[ay (bJ q h)];show q⟩
 .by_cases t:a=D
  .subst t;rw[aA]at e;cases e;have⟨n,q⟩:=A;show⟨hl,its,n,rv,(i.2 _ y).trans q⟩
  .rw[ay t]at e;show(d.HN a o e).jA (λc v J q=>(i.2 c ?_).trans q) (λc q=>?_) λc xs q=>?_
   .rintro rfl;rcases J with z|z
    .rw[<-z,r]at e;cases e
    .rw[r]at z;cases z
   .rw[ay (bJ q h)];show q
   .rw[ay (bJ q h)];show q
 .have⟨f0,L,f2,O,Q,T⟩:=m b j;show⟨O,L,Q,T⟩
section
def oW(I:Nat->hY->Prop)
  (b:∀n s,I n s->eH (ke prog w) A (Sw it) (λr d=>match r with
   |none=>R (.ok .next) d
   |some v=>eH (ke prog w) A (Ut a it v) (λ_ d=>eH (ke prog w) A (SA a env v) (λ_ j =>
     eH (ke prog w) A (ě f cb λc r=>if r=cb then do let ok <-isTrue c env (JF c env);pure (Pt ok) else pure (Pt r)) (λok i =>
      if ok=cb then eH (ke prog w) A (JF elt env) (λx k =>
       eH (ke prog w) A (PU (.builtin "list.append") [acc,x]) (λ_ l=>∃m,m<n/\I m l) (Uc (ke prog w) A env λe s'=>R (.error e) s') k) (Uc (ke prog w) A env λe s'=>R (.error e) s') i
      else ∃m,m<n/\I m i) (Uc (ke prog w) A env λe s'=>R (.error e) s') j) (Uc (ke prog w) A env λe s'=>R (.error e) s') d) (Uc (ke prog w) A env λe s'=>R (.error e) s') d) (Uc (ke prog w) A env λe s'=>R (.error e) s') s)
  (n:Nat) (h:I n s) :
  Sq (ke prog w) A (.compLoop (.ListComp elt [⟨a,g,f,0⟩] scope pos) 0 it acc env) R s:=by
 show codeAny_loop rfl I (λn s q=>?_) n h;change eH _ A ((compTurn (.ListComp elt [⟨a,g,f,0⟩] scope pos) 0 it acc env).onRaise (λx=>do noteFrame x env;theTreesLotGoes x)) _ _ s;show wpAny_noted ?_;rw[compTurn_list];show b8 (Y1 (b8 (ti (b n s q) (λr d o=>?_) λ_ _ h'=>h')));cases r with
 |none=>show dV o
 |some v =>
  show b8 (ti o (λ_ B t=>?_) λ_ _ h'=>h');show b8 (ti t (λ_ j u=>b8 (ti u (λok i p=>?_) λ_ _ h'=>h')) λ_ _ h'=>h');cases ok with
  |false=>show dV ⟨rfl,p⟩
  |true =>
   show b8 (b8 (ti p (λx k y=>b8 (ti y (λ_ l z=>dV (dV ⟨rfl,z⟩)) λ_ _ h'=>h')) λ_ _ h'=>h'))
end
abbrev Ml(X:Cx)(b:List oT)(t:TT):Prop :=
 ∀(a:List (eW×Obj)) (s:hY) (σ:St) (H:Hp) (Q:Bool->Hp->Prop),Inv X a σ H s->t σ H Q ->
  eH (ke X.prog X.w) X.A (ě b cb λc r=>if r=cb then do let d <-isTrue c X.env (JF c X.env);pure (Pt d) else pure (Pt r)) (TP X a σ Q) X.xe s
abbrev Ht:TT:=λ_ H Q=>Q cb H
def uD:Ml X [] Ht:=λ_ _ _ H _ I h=>wpAny_tests_nil ⟨H,I,h⟩
def uE(h:PT X c t):Ml X [c] t:=λa s σ H Q I q=>wpAny_tests_one (h a s σ H Q I q)
abbrev uF(k:Nat)(J:It)(g:TG)(l:TT)(te:TE)(Q:VK)(σ:St)(n:Hp):Prop :=
  ∃W:Nat->Nat->List V->Hp->Prop,(∃m,W 0 m [] n)/\∀i m a H,W i m a H->a.length<=c4 /\
    ((J.stop i H/\∀p,H p=b7->Q (.ref p) (upd H p (.lst a))) \/
     (J.go i H/\∃d:List V->Hp->Prop,(∀f H',d f H'->∃h,h<m/\W (i+1) h f H')/\∀x H',J.Qa i H x H'->g x (mx k b7++σ) H' λe o=>∃c:St,c.length=k/\e=c++σ /\
        l e o λb j=>if b=cb then te e j λy q=>d (a++[y]) q else d a j))
abbrev yf(k:Nat)(a:TI)(g:TG)(b:TT)(te:TE):TE:=λσ H Q=>a σ H λJ c=>uF k J g b te Q σ c
section
def yg
  (S:cV X N t scope) (hc:X.calm=cb) (hg:∀C s H ex,PG (Ja X N scope C s H ex) tg g) (hf:∀C s H ex,Ml (Ja X N scope C s H ex) ag tt) (he:∀C s H ex,PE (Ja X N scope C s H ex) elt te)
  (I:Inv X al σ H s) (T:Turn X.prog X.w X.K tg J B it tn) (st:tn 0 s.heap) (f2:∀b∈B,iN X al H b) (W:uF t.length J g tt te Q σ H)
  (hD:@Eq Nat D s.heap.objs.size) (hC:@Eq Nat C (s.heap.objs.size+1)) (K6:∀x c,(Lj X scope C).lookup x=bD c->s4.heap.IsCell c b7\/(bG X.env scope.names []).lookup x=bD c) (Lx:s4.os=s.os) (Vt:s4.gens=s.gens) (keep:∀b o,s.heap.get? b=bD o->s4.heap.get? b=bD o) (ns:∃m,s4.heap.Ns C m) (pl:s4.heap.PlainList D #[])
  (am:∀s5 O L its,Inv (Ja X N scope C s H B) [] (mx t.length b7++σ) O s5->O D=b7->Vals L its->s5.heap.PlainList D its.toArray->L.length<=c4->(∀p,O p=b7->Q (.ref p) (upd O p (.lst L)))->R (.ok .next) s5) :
  Sq (ke X.prog X.w) X.A (.compStart (.ListComp elt [⟨tg,an,ag,0⟩] scope pos) 0 (.ref it) (.ref D) (Xk scope (Lj X scope C) C X.env)) R s4:=by
 have LA:∀b∈B,@OT Nat _ b s.heap.objs.size:=λb h=>by
  obtain⟨o,e,_⟩:=T.obj 0 s.heap st b h;show hH e
 have I4:Inv (Ja X N scope C s H B) [] (mx t.length b7++σ) H s4:=ye S I ⋯ K6 Lx Vt keep ns λb h=>⟨f2 b h,LA b h⟩
 have MR:tn 0 s4.heap:=T.keep 0 s.heap s4.heap st λb _ o e=>keep b o e;have nD:H D=b7:=I.HN.fresh ⋯;obtain⟨W,⟨m0,w0⟩,ZS⟩:=W;generalize k:Ja X N scope C s H B=f at I4 am;have eP:f.prog=X.prog:=by rw[<-k];rfl
 have ew:f.w=X.w:=by rw[<-k];rfl
 have eK:f.K=X.K:=by rw[<-k];rfl
 have ec:f.calm=cb:=by rw[<-k];show hc
 have eA:f.A=X.A:=by rw[<-k];rfl
 have ee:f.env=Xk scope (Lj X scope C) C X.env:=by rw[<-k];rfl
 have RF:f.xe=λ_ _=>False:=by rw[<-k];rfl
 have el:f.env.locals=C:=by rw[ee];rfl
 have Vu:PG f tg g:=by rw[<-k];show hg _ _ _ _
 have RG:Ml f ag tt:=by rw[<-k];show hf _ _ _ _
 have RH:PE f elt te:=by rw[<-k];show he _ _ _ _
 have s0:f.s₀=s:=by rw[<-k];rfl
 have OU:f.pn=[]:=by rw[<-k];rfl
 have RJ:∀{H':Hp} {o:Obj},(∀b∈B,H' b=b7)->∀b∈B,iN f [(D,o)] H' b:=λ{H' o} hn b h=>by
  have ex:f.ex=B:=by rw[<-k];rfl
  show⟨hn b h,?_,?_,.inl (by rw[ex];show h),λx c e=>?_,λp G=>?_⟩
  .rw[el];have:=LA b h;show ki (by change @OT Nat _ b C;lia)
  .have e1:f.fs=IG X.stack:=by rw[<-k];rfl
   rw[e1];intro z;have⟨f0,f1,Vv,f3,f4,f5⟩:=f2 b h;rcases d6.mp (I.kX b z) with q|q
   .show f1 q
   .show Vv q
  .have e1:f.env.cells=Lj X scope C:=by rw[ee];rfl
   rw[e1]at e;rcases iT _ _ _ e with z|z
   .have:=LA b h;have:=z.2;show KN (by change @OT Nat _ b c;lia)
   .show(f2 b h).2.2.2.2.1 x c (fw scope.names [] (λn c e=>by simp at e) x c z)
  .rw[OU,lb]at G;have:p=(D,o):=by simpa using G
   subst this;have:=LA b h;show KN (by change @OT Nat _ b D;lia)
 have RK:∀{σ':St} {H':Hp} {s':hY} {o:Obj},Inv f [] σ' H' s'->H' D=b7->s'.heap.get? D=bD o->(∀v,o.data≠.cell v)->Inv f [(D,o)] σ' H' s':=λ{σ' H' s' o} I' n e d =>
  I'.gK λp G=>by
   have:p=(D,o):=by simpa using G
   subst this;show⟨e,n,?_,?_,d⟩
   .rw[el];show ki (by change @OT Nat _ D C;lia)
   .have e1:f.fs=IG X.stack:=by rw[<-k];rfl
    rw[e1];intro z;have zz:(D:eW)∈IG X.stack:=z;rcases d6.mp (I.kX D zz) with q|q
    .have:=I.lt;rw[<-q]at this;show absurd this (by change ¬@OT Nat _ D s.heap.objs.size;lia)
    .show I.E_ (a:=D) ⋯ q
 have start:∀s':hY,s'=s4->Sq (ke X.prog X.w) X.A (.compLoop (.ListComp elt [⟨tg,an,ag,0⟩] scope pos) 0 (.ref it) (.ref D) (Xk scope (Lj X scope C) C X.env)) R s':=by
  rintro s' rfl;show oW (λn s'=>∃i L its H',Inv f [] (mx t.length b7++σ) H' s'/\tn i s'.heap/\(∀b∈B,H' b=b7)/\H' D=b7/\Vals L its/\s'.heap.PlainList D its.toArray/\W i n L H') ?_ m0
   ⟨0,[],[],H,I4,MR,λb h=>(f2 b h).1,nD,.nil,pl,w0⟩
  rintro n s3 ⟨i,L,its,H3,I3,st3,OJ,T5,Qh,⟨nn,Vw⟩,w3⟩;have⟨Y,KJ⟩:=ZS i n L H3 w3;have IP:=RK I3 T5 Vw (λv z=>by have z':Data.seq _ _=ZK v:=z;cases z');rcases KJ with⟨ap,qn⟩|⟨go,NN,T6,as⟩
  .have d:=T.done f eP ew eK ec i _ s3 _ H3 (Uc (ke X.prog X.w) X.A (Xk scope (Lj X scope C) C X.env) λe s'=>R (.error e) s') IP (RJ OJ) st3 ap;rw[eA]at d;show HS d λr s4 RL=>?_;have⟨hr,I5⟩:=RL;subst hr;have e5:=(I5.pin (D,({cls:=.type "list",data:=.seq its.toArray nn}:Obj)) (by rw[OU];simp)).1;show am s4 H3 L its (I5.gK λp G=>by cases G) T5 Qh ⟨nn,e5⟩ Y qn
  .have d:=T.item f eP ew eK ec i _ s3 _ H3 (Uc (ke X.prog X.w) X.A (Xk scope (Lj X scope C) C X.env) λe s'=>R (.error e) s') IP (RJ OJ) st3 go;rw[eA]at d;show HS d λr s4 RM=>?_;have⟨u,hr,h4⟩:=RM;subst hr;show HS h4 λ_ s5 RN=>?_;have⟨x,O,I5,r5,y5,Li,Rb⟩:=RN;have XZ:O D=b7:=(I5.pin (D,({cls:=.type "list",data:=.seq its.toArray nn}:Obj)) (by rw[OU];simp)).2.1;have Rc:=I5.pinned (RJ Rb) (T.obj _ _ Li);have a6:=Vu _ s5 _ O x u _ Rc r5 (as x O y5);rw[eP,ew,eA,ee,RF]at a6;show ti a6 (λ_ s6 ⟨σ6,H6,I6,q6⟩=>?_) λ_ _ z=>NT z;have⟨ow,ax,rfl,q6⟩:=q6;have a7:=RG _ s6 _ H6 _ I6 q6;rw[eP,ew,eA,ee,RF]at a7;show ti a7 (λb s7 ⟨H7,I7,q7⟩=>?_) λ_ _ z=>NT z;have ab:∀{s8:hY} {l:Hp} {JQ:List V} {its':List d4} {nn':Nat},Inv f [] (ow++σ) l s8->tn (i+1) s8.heap->(∀b∈B,l b=b7)->l D=b7->Vals JQ its'->s8.heap.PlainList D its'.toArray->(∃m',m'<n/\W (i+1) m' JQ l) ->
     ∃m,m<n/\∃i L its H',Inv f [] (mx t.length b7++σ) H' s8/\tn i s8.heap/\(∀b∈B,H' b=b7)/\H' D=b7/\Vals L its/\s8.heap.PlainList D its.toArray/\W i m L H':=λ{s8 l JQ its' nn'} I8 Vx Vy n8 Vz VA w8=>by
    have⟨m',hm,w8⟩:=w8;show⟨m',hm,i+1,JQ,its',l,I8.weak (by simp[ax]) (λj v e=>?_),Vx,Vy,n8,Vz,VA,w8⟩;by_cases hj:j<t.length
    .rw[vl (by simpa using hj),KZ]at e;split at e<;>cases e
    .rw[sx (by simpa using(Nat.not_lt.mp hj)),Q7]at e;rw[sx ⋯,ax];show e
   have ac:∀{σ':St} {l:Hp} {s8:hY},Inv f ([(D,({cls:=.type "list",data:=.seq its.toArray nn}:Obj))]++k8 B s5.heap) σ' l s8->s8.heap.get? D=bD {cls:=.type "list",data:=.seq its.toArray nn}/\l D=b7/\tn (i+1) s8.heap/\∀b∈B,l b=b7:=λ{σ' l s8} I8=>by
    have p1:=I8.pin (D,({cls:=.type "list",data:=.seq its.toArray nn}:Obj)) (by rw[OU];simp);show⟨p1.1,p1.2.1,T.keep _ _ _ Li λb h o e=>(I8.pin (b,o) (nC _ (nC _ (ft h e)))).1,λb h=>?_⟩;have⟨o,e,d⟩:=T.obj _ _ Li b h;show(I8.pin (b,o) (nC _ (nC _ (ft h e)))).2.1
   cases b with
   |false =>
    rw[ğ l']at q7 ⊢;have⟨p1,p2,p3,p4⟩:=ac I7;show ab (nn':=0) (I7.gK λp G=>by cases G) p3 p4 p2 Qh ⟨nn,p1⟩ (T6 _ _ q7)
   |true =>
    rw[ĝ rfl]at q7 ⊢;have a8:=RH _ s7 _ H7 _ I7 q7;rw[eP,ew,eA,ee,RF]at a8;show ti a8 (λy s8 ⟨yv,l,I8,r8,q8⟩=>?_) λ_ _ z=>NT z;have⟨p1,p2,p3,p4⟩:=ac I8;have hsz:its.toArray.size<=c4:=by rw[i5,<-Qh.length];show Y
    show wpAny_list_append_plain (hsz:=hsz) ⟨nn,p1⟩ λh9 VB T7=>?_;have VC:Inv f [] (ow++σ) l s8:=I8.gK λp G=>by cases G
    have Qi:∀x c,f.env.cells.lookup x=bD c->c≠D:=λx c e=>by
     have e1:f.env.cells=Lj X scope C:=by rw[ee];rfl
     rw[e1]at e;rcases iT _ _ _ e with z|z
     .have:=z.2;show KN (by change @OT Nat _ D c;lia)
     .have⟨v,z⟩:=I.cell x c (fw scope.names [] (λn c e=>by simp at e) x c z);have:@OT Nat _ c s.heap.objs.size:=z.lt;show ki (by change @OT Nat _ c D;lia)
    have I9:Inv f [] (ow++σ) l {s8 with heap:=h9,toks:=s8.toks}:=VC.turned (it:=D) (λb o h e=>(T7.2 b h).trans e) p2 (by rw[el];show ki (by change @OT Nat _ D C;lia)) (.inr (by rw[s0];change @Z6 Nat _ s.heap.objs.size D;lia)) Qi (λp G=>by rw[OU]at G;cases G);have VD:(its++[y]).toArray=its.toArray.push y:=by simp
    show ab (nn':=0) (s8:={s8 with heap:=h9,toks:=s8.toks}) I9 (T.keep _ _ _ p3 λb h o e=>(T7.2 b ?_).trans e) p4 p2 (Qh.append (.cons r8 .nil)) (by rw[VD];show VB) (T6 _ _ q8);have:=LA b h;show ki (by change @OT Nat _ b D;lia)
 show codeAny_compStart_list (start _ rfl) (T.self _ _ _ _ _ MR (start _ rfl))
def sA
  (f:Q (newEnv scope s.heap.objs.size b (Nb (s.heap.objs.size+1) scope.names cl) d b7 .none (bD c) a) {s with heap:=Su (s.heap.push {cls:=.type "dict",data:=.dict #[]}) scope.names}) :
  eH M A (YL scope b cl [] d b7 .none (bD c) a) Q E s:=by
 simp only[YL,YX,ĥ];show b8 (wpAny_alloc ?_);show b8 (wpAny_layCells _ (λname kind e=>by cases g:kind==L6<;>simp[g]) _ _ _ _ ?_);rw[show({s with heap:=s.heap.push {cls:=.type "dict",data:=.dict #[]}}:hY).heap.objs.size=s.heap.objs.size+1 from QE ..];show b8 ?_;rw[List.forIn_nil];show dV (dV f)
def lz{RR:d4->eW->Result->hY->Prop}
    (S:cV X N f scope) (z:X.calm=cb) (B:∀C s H ex,PG (Ja X N scope C s H ex) q g) (G:∀C s H ex,Ml (Ja X N scope C s H ex) k L) (O:∀C s H ex,PE (Ja X N scope C s H ex) elt te)
 (I:Inv X h σ H s) (T:Turn X.prog X.w X.K q J r it Y) (st:Y 0 s.heap) (f2:∀b∈r,iN X h H b) (W:uF f.length J g L te Q σ H)
    (l:∀D C i d j its,@Eq Nat D s.heap.objs.size->@Eq Nat C (s.heap.objs.size+1)->Inv (Ja X N scope C s H r) [] (mx f.length b7++σ) d i->d D=b7->Vals j its->i.heap.PlainList D its.toArray->j.length<=c4->(∀p,d p=b7->Q (.ref p) (upd d p (.lst j)))->RR (.ref D) C (.ok .next) i) :
    eH (ke X.prog X.w) X.A (Ü []) (λacc s₃=>eH (ke X.prog X.w) X.A (YL scope X.env.globals (bG X.env scope.names []) [] X.env.qual b7 .none (bD X.env)) (λt s₄ =>
      Sq (ke X.prog X.w) X.A (.compStart (.ListComp elt [⟨q,u,k,0⟩] scope pos) 0 (.ref it) acc {t with scope:=T8 scope X.env}) (RR acc t.locals) s₄) E s₃) E s:=by
  show va (sA ?_)
  dsimp only
  generalize m:s.heap.push {cls:=.type "list",dict:=b7,data:=.seq ([]:List d4).toArray}=a;have v:a.objs.size=s.heap.objs.size+1:=by rw[<-m,QE]
  have y:∀b o,a.get? b=bD o->(Su (a.push {cls:=.type "dict",data:=.dict #[]}) scope.names).get? b=bD o:=λb o e=>Yr _ _ b o (dt _ e);have n:∀b o,s.heap.get? b=bD o->(Su (a.push {cls:=.type "dict",data:=.dict #[]}) scope.names).get? b=bD o:=λb o e=>y b o (m▸dt _ e);have IJ:(Su (a.push {cls:=.type "dict",data:=.dict #[]}) scope.names).PlainList s.heap.objs.size #[]:=⟨_,y _ _ (m▸i4 _ rfl)⟩
  have K6:∀x c,(Lj X scope a.objs.size).lookup x=bD c->(Su (a.push {cls:=.type "dict",data:=.dict #[]}) scope.names).IsCell c b7\/(bG X.env scope.names []).lookup x=bD c:=λx c e=>by
    show oV scope.names (a.push {cls:=.type "dict",data:=.dict #[]}) _ ?_;rw[QE];show e
  show yg (s:=s) (s4:={s with heap:=Su (a.push {cls:=.type "dict",data:=.dict #[]}) scope.names}) (C:=a.objs.size) (D:=s.heap.objs.size) S z B G O I T st f2 W rfl v K6 rfl rfl n ⟨_,(Heap.Ns.new a (.type "dict")).keeps (Yr _ _)⟩ IJ
    λi d j its I5 n5 OW OX OY q5=>l _ _ i d j its rfl v I5 n5 OW OX OY q5
def AW(S:cV X N c scope)(m:X.calm=cb)(n:PI X f a o)(p:∀C s H ex,PG (Ja X N scope C s H ex) f g)(q:∀C s H ex,Ml (Ja X N scope C s H ex) d r)(t:∀C s H ex,PE (Ja X N scope C s H ex) elt te)
  (hs:∀x,Ni a X.env x=pure x:=by intro _;rfl):PE X (.ListComp elt [⟨f,a,d,0⟩] scope pos) (yf c.length o g r te):=by
 intro b s σ H Q I h;rw[eval_ListComp];show Y3 (use:=b7) (cl:=bG X.env scope.names []) rfl hs (eX (S.cells I.ok)) S.kind S.names ?_;show HS (n b s σ H _ I h) λv s1 u=>HS u λQb s2 y=>?_;have⟨it,fp,tn,J,H2,e,i,T,st2,j,W⟩:=y;subst e;show lz (RR:=λacc C=>compPost (ke X.prog X.w) X.A X.xe b7 (EP X b σ Q) acc C) S m p q t i T st2 j W ?_;intro D C s5 H5 ys its z hC k l B G L O;obtain⟨m5,Y,_⟩:=k.loc;show⟨m5,Y,λh' sb=>⟨.ref D,_,qx i k (YQ z.symm) (by change @Z6 Nat _ s2.heap.objs.size C;lia) (ki (by change @OT Nat _ D C;lia)) l B G L sb j,rfl,O D l⟩⟩
def AX(S:cV X N r scope)(hc:X.calm=cb)(hN:X.N.Nodup)(Qj:X.N[i]?=bD y)(G:X.env.scope.names.lookup y=bD .local)
  (hi:PI X n d wi) (hg:∀C s H ex,PG (Ja X N scope C s H ex) n g) (hf:∀C s H ex,Ml (Ja X N scope C s H ex) k tt) (he:∀C s H ex,PE (Ja X N scope C s H ex) elt te)
  (MS:RB (.ListComp elt [⟨n,d,k,0⟩] scope pos) (bD (.Name y m)) K7.line X.env=pure cb:=by rfl)
  (hs:∀x,Ni d X.env x=pure x:=by intro _;rfl):PS X (.Assign [.Name y m] (.ListComp elt [⟨n,d,k,0⟩] scope pos) K7) (Dg (yf r.length wi g tt te) (um i)):=by
 intro f s σ H D I h;rw[exec_Assign_Name_used _ _ _ _ MS];show b8 (Y1 (b8 ?_));change eH _ X.A (do let _ <-comprehension (.ListComp elt [⟨n,d,k,0⟩] scope pos) scope X.env _ (Ü []) cc (JF d X.env) (bD (SA (.Name y m) X.env))) _ _ s;show b8 (ti (Y3 (use:=bD (SA (.Name y m) X.env)) (cl:=bG X.env scope.names []) (Q:=λ_ s'=>SP X f D .next s') rfl hs (eX (S.cells I.ok)) S.kind S.names ?_) (λ_ s' hq=>dV (dV hq)) λ_ _ e=>e);show HS (hi f s σ H _ I h) λv s1 h1=>HS h1 λQb s2 h2=>?_;have⟨it,fp,tn,J,H2,e,l,T,st2,L,W⟩:=h2;subst e;show lz (RR:=λacc C=>compPost (ke X.prog X.w) X.A X.xe (bD (SA (.Name y m) X.env)) (λ_ s'=>SP X f D .next s') acc C) S hc hg hf he l T st2 L W ?_;intro j C q t O its hD hC u Y OW OX OY q5;obtain⟨m5,RP,_⟩:=u.loc;have VF:t C=b7:=u.free;have B:Inv X f σ (upd t j (.lst O)) {q with heap:=q.heap}:=qx l u (YQ hD.symm) (by change @Z6 Nat _ s2.heap.objs.size C;lia) (ki (by change @OT Nat _ j C;lia)) Y OW OX OY (X4 ..) L;change eH _ X.A (SA (.Name y m) X.env (.ref j)) _ _ q;show Ù (nF (s:=q) B hN Qj (.inl G) (show RelV (.ref j) (.ref j) from rfl) (λs6 I6 ⟨a,sb,ha⟩=>?_) (.inr G));have Qi:@OT Nat _ X.env.locals C:=by have:@OT Nat _ X.env.locals s2.heap.objs.size:=l.lt;lia
 have LB:∀x c,X.env.cells.lookup x=bD c->c≠C:=λx c e=>by
  have⟨v,z⟩:=l.cell x c e;have:@OT Nat _ c s2.heap.objs.size:=z.lt;show ki (by change @OT Nat _ c C;lia)
 have VG:C≠a:=by
  rcases ha with z|z
  .rw[z];show KN Qi
  .show(LB _ _ z).symm
 show⟨m5,RP.sameBut sb VG,λh' VH=>?_⟩;show⟨σ.set i (bD (.ref j)),upd t j (.lst O),I6.turned (it:=C) (t':=s6.toks) (λb o hb e=>(VH.2 b hb).trans e) ?_ (KN Qi) (.inr (by have:@Z6 Nat _ X.s₀.heap.objs.size s2.heap.objs.size:=l.sz;change @Z6 Nat _ X.s₀.heap.objs.size C;lia)) LB (λp hp=>?_),q5 j Y⟩
 .rw[ay (KN (by change @OT Nat _ j C;lia))];show VF
 .have:@OT Nat _ p.1 s2.heap.objs.size:=hH (l.pin p hp).1;show ki (by change @OT Nat _ p.1 C;lia)
end
section
end
section
abbrev FK:V->Option Int->Option Int->Hp->VK->Prop:=λx lo a H Q=>∃z,x=.str z/\z.length<=c4/\Q (.str (PySem.StrLaws.sliceText z lo a)) H
def m9(x:Str)(lo a:Option Int)(hz:x.length<=c4):(PySem.StrLaws.sliceText x lo a).length<=c4:=ve (Txt.slice_le x lo a) hz
def DE:L7 X FK:=by
 intro b s σ H x v n o lo c p Q I g hs m e h;have⟨z,rfl,hz,q⟩:=h;have⟨t,rfl⟩:=g;show⟨"str",_,ñ.lookup,RA _ _ _,?_⟩;have a:(PySem.StrLaws.sliceText z lo c).length<=c4/\∀t' k,EP X b σ Q (.str (PySem.StrLaws.sliceText z lo c) t') {s with toks:=k}:=⟨m9 z lo c hz,λt' k=>⟨.str _,H,I.tok k,⟨_,rfl⟩,q⟩⟩
 cases m with
 |none =>
  cases e with
  |none=>show QZ (l:=b7) (u:=b7) (st:=b7) hs rfl (Us a)
  |int j d=>show QZ (l:=b7) (u:=bD (j,d)) (st:=b7) hs rfl (Us a)
 |int i f =>
  cases e with
  |none=>show QZ (l:=bD (i,f)) (u:=b7) (st:=b7) hs rfl (Us a)
  |int j d=>show QZ (l:=bD (i,f)) (u:=bD (j,d)) (st:=b7) hs rfl (Us a)
def qy:OO X "str.endswith" (λx xs H Q=>∃a b,x=.str a/\xs=[.str b]/\Q (.bl (ê a b)) H):=by
 intro c s σ H x xs v us Q I d rs h;have⟨a,b,rfl,rfl,q⟩:=h;have⟨t,rfl⟩:=d;have⟨u,rfl,t',rfl⟩:=vals1 rs;show SC.endswith ⟨.bl _,H,I,rfl,q⟩
def oX:OO X "str.partition" (λx xs H Q=>∃a b,x=.str a/\xs=[.str b]/\(b.length==0)=cc/\a.length<=c4 /\
  ∀p,H p=b7->Q (.ref p) (upd H p (.tup [.str (q9 a b).1,.str (q9 a b).2.1,.str (q9 a b).2.2]))):=by
 intro d s σ H x xs v us Q I j rs h;have⟨a,b,rfl,rfl,l,hz,q⟩:=h;have⟨t,rfl⟩:=j;have⟨u,rfl,t',rfl⟩:=vals1 rs;show QS F.slot_str_partition (RA _ _ _) F.entry_str_partition (F.args_str_partition_2 _ _) (meets_str_partition a b t t' l hz) ?_;have m:H s.heap.objs.size=b7:=I.HN.fresh (kb _);have n:=q _ m;have c:∀(f g i:Tok) (k:Nat),EP X d σ Q (.ref s.heap.objs.size) {s with toks:=k,heap:=s.heap.push {cls:=.type "tuple",data:=.seq [.str (q9 a b).1 f,.str (q9 a b).2.1 g,.str (q9 a b).2.2 i].toArray}}:=λf g i k =>
  ⟨.ref s.heap.objs.size,_,I.laid (t':=k) (o:=.tup [.str (q9 a b).1,.str (q9 a b).2.1,.str (q9 a b).2.2]) (λb u e=>dt _ e) (kb _)
   ⟨by change 3<=c4;decide,_,.cons ⟨f,rfl⟩ (.cons ⟨g,rfl⟩ (.cons ⟨i,rfl⟩ .nil)),⟨_,i4 _ rfl,rfl,_,rfl⟩⟩,rfl,n⟩
 revert c;unfold q9;cases KI a b 0 a.length 1 with
 |_=>intro c;show c _ _ _ _
theorem nS:∀(l:List (Str×Tok)),Vals (l.map λp=>V.str p.1) (Ze l)
 |[]=>.nil
 |(x,t)::r=>.cons ⟨t,rfl⟩ (nS r)
theorem iU:∀{a:List Str}{its:List d4},Vals (a.map V.str) its->∃l:List (Str×Tok),its=Ze l/\l.map (·.1)=a
 |[],_,.nil=>⟨[],rfl,rfl⟩
 |y::a,_,.cons r t=>by
  have⟨b,rfl⟩:=r;have⟨l,rfl,e⟩:=iU t;show⟨(y,b)::l,rfl,by rw[eF,e]⟩
def yh:OO X "str.split" (λx xs H Q=>∃a b,x=.str a/\xs=[.str b]/\(b.length==0)=cc/\a.length+2<=c4 /\
  ∀p,H p=b7->Q (.ref p) (upd H p (.lst ((Nu a b).map V.str)))):=by
 intro g s σ H x xs v us Q I j rs h;have⟨x,y,rfl,rfl,i,hz,q⟩:=h;have⟨t,rfl⟩:=j;have⟨r,rfl,u,rfl⟩:=vals1 rs;have d:H s.heap.objs.size=b7:=I.HN.fresh (kb _);have m:=q _ d;have c:∀(l:List (Str×Tok)) (k:Nat),l.length<=c4->l.map (·.1)=Nu x y->EP X g σ Q (.ref s.heap.objs.size) {s with toks:=k,heap:=s.heap.push {cls:=.type "list",data:=.seq (Ze l).toArray}}:=λl k hl e =>
  ⟨.ref s.heap.objs.size,_,I.laid (t':=k) (o:=.lst ((Nu x y).map V.str)) (λb u e=>dt _ e) (kb _)
   ⟨by rw[<-e,cK,cK];show hl,Ze l,_,by rw[<-e,hQ];show nS l,i4 _ rfl⟩,rfl,m⟩
 have one:1<=c4:=by decide
 cases f:(df (x.length<y.length)||decide (Xv x<Xv y))
 .cases d:(KI x y 0 x.length (x.length+1)).isEmpty
  .have n:(OQ x (KI x y 0 x.length (x.length+1)) y.length).length<=c4:=by
    have:=PySem.StrLaws.occ_length_le x y 0 x.length (x.length+1);simp only[OQ,cK,Wl,k9,gs];lia
   show QS Xm (RA _ _ _) We (VE _ _) (meets_str_split_sep x y t u f i d ⋯ n) ?_;change wants _ _ _ {s with toks:=_,heap:=s.heap.push {cls:=.type "list",data:=.seq (strsFrom s.toks (OQ x (KI x y 0 x.length (x.length+1)) y.length)).toArray}};rw[strsFrom_eq];show c (numbered s.toks _) _ ?_ ((Ċ _ _).trans ((ğ (ne_true_of_eq_false f)).trans (ğ (ne_true_of_eq_false d))).symm);have e:=ġ tA (Ċ s.toks (OQ x (KI x y 0 x.length (x.length+1)) y.length));rw[cK]at e;lia
  .show QS Xm (RA _ _ _) We (VE _ _) (meets_str_split_not_found x y t u f i d)
    (c [(x,t)] _ one ((ğ (ne_true_of_eq_false f)).trans (ĝ d)).symm)
 .show QS Xm (RA _ _ _) We (VE _ _) (meets_str_split_cannot_occur x y t u f)
   (c [(x,t)] _ one (ĝ f).symm)
def AY:OO X "str.join" (λx xs H Q=>∃a p b,x=.str a/\xs=[.ref p]/\Iz X.K H p (b.map V.str)/\Ì a b=cb/\Q (.str (Vn a b)) H):=by
 intro c s σ H x xs v us Q I d rs h;have⟨a,p,b,rfl,rfl,f,g,q⟩:=h;have⟨t,rfl⟩:=d;have⟨u,rfl,r⟩:=vals1 rs;cases r;have⟨its,rv,i,hz⟩:=I.list f;have⟨l,rfl,e⟩:=iU rv;show SC.join i.isList e g λt' k=>⟨.str _,H,I.tok k,⟨_,rfl⟩,q⟩
theorem f_:∀{bs:List Bool}{its:List d4},Vals (bs.map V.bl) its->its=bs.map NJ
 |[],_,.nil=>rfl
 |b::bs,_,.cons r t=>by
  cases r;rw[f_ t];rfl
def yi:X.calm=cb->fX X (.builtin "all") (λxs H Q=>∃(p:eW) (bs:List Bool),xs=[.ref p]/\Iz X.K H p (bs.map V.bl)/\Q (.bl (bs.all id)) H):=by
 intro g d s σ H xs us Q I rs h;have⟨p,bs,rfl,j,q⟩:=h;have⟨u,rfl,r⟩:=vals1 rs;cases r;have⟨its,rv,c,hz⟩:=I.list j;have e:=f_ rv;subst e;have k:p<s.heap.objs.size:=by obtain⟨_,_,e,_⟩:=c;show hH e
 show call_all_walk (Rj c.isList ?_);show⟨s.heap.objs.size,[s.heap.objs.size,p],[s.heap.objs.size],(bs.map NJ).toArray.size,_,_,λi=>(bs[i]?).getD cb,rfl,UN (A:=X.A.in1) (I.ok.hd g) _ p (ki k) (bs.map NJ).toArray,
  ⟨⟨_,i4 _ rfl,rfl,rfl⟩,c.isList.push _⟩,λi v s' Q' n l f=>?_,λh' m hk=>?_⟩
 .have a:(bs.map NJ)[i]?=bD v:=by simpa using l
  rw[my]at a;cases e:bs[i]? with
  |none=>rw[e]at a;cases a
  |some b =>
   rw[e]at a;cases a;simp only[e,Zk]at f;show Jt f
 .have e:((js (bs.map NJ).toArray.size).all λi=>(bs[i]?).getD cb)=bs.all id:=by
   rw[i5,cK];show Z' bs
  rw[e];show⟨.bl _,H,I.kept (t':=m) (TL hk),rfl,q⟩
end
section
end
abbrev DF(N a:List Str)(scope:Nj)(out:List (Str×ME)):Bool :=
 df (scope.kind=.function)&&scope.names.all (λy=>df (scope.names.lookup y.1=bD y.2))&&scope.names.all (λy=>df (y.2≠.cell)||decide (y.1∈a))&&decide N.Nodup&&df (N.take a.length=a) &&
 scope.names.all (λy=>df (y.2≠.local)||decide (y.1∈a)||decide (y.1=".0"))&&df ((".0":Str)∉N)&&scope.names.all (λy=>df (y.2≠.free)||decide (out.lookup y.1=bD .cell)||decide (out.lookup y.1=bD .free))&&scope.names.all (λy=>df (y.1≠".")&&df (y.1≠".."))
def yj(c:X.env.scope.names=out)(d:eN (N.drop a.length) X.N)(h:DF N a scope out=cb):cV X N a scope:=by
 unfold DF at h;simp only[cL,r6,Om,Ĝ]at h;obtain⟨⟨⟨⟨⟨⟨⟨⟨f,g⟩,i⟩,j⟩,k⟩,l⟩,m⟩,n⟩,o⟩:=h;show⟨f,g,λy b e=>?_,j,k,λy b e=>?_,m,d,λy b e=>?_,o⟩
 .rcases i y b with z|z
  .show absurd e z
  .show z
 .rcases l y b with(z|z)|z
  .show absurd e z
  .show .inl z
  .show .inr z
 .rw[c];rcases n y b with(z|z)|z
  .show absurd e z
  .show .inl z
  .show .inr z
section
abbrev bw(prog:w6)(w:Ie)(h:Ks)(k:Str×List Str)(a:eW):Prop :=
 ∃o n t b,h.get? a=bD o/\o.cls=.type "tuple"/\o.data=.seq #[.str k.1 t,.ref b] n/\YN (PySem.strKind prog w) h k.2 b
def bw.typeIs{s:hY}(x:bw prog w s.heap k a):s.TypeIs (.ref a) "tuple":=let ⟨o,_,_,_,ho,b,_⟩:=x;⟨o,ho,b⟩
def bw.inj(e:bw prog w h x a)(f:bw prog w h y a):x=y:=by
 obtain⟨o,n,t,b,ho,_,g,i⟩:=e;obtain⟨j,q,t',r,k,_,c,l⟩:=f;obtain rfl:o=j:=wk (ho.symm.trans k);rw[g]at c;injection c with d _
 simp only[Array.mk.injEq,Ph,Value.str.injEq,Value.ref.injEq,and_true]at d;obtain⟨⟨m,_⟩,p⟩:=d;subst p;show SO m (i.inj l)
def bw.keeps(x:bw prog w h k a)(ho:h.get? d=bD o)(e:o.data=.dict es ep)(hs:KC d h h'):bw prog w h' k a:=by
 have⟨f,n,t,b,g,i,c,j⟩:=x;have l:a≠d:=by
  rintro rfl;obtain rfl:f=o:=wk (g.symm.trans ho);rw[e]at c;show nomatch c
 show⟨f,n,t,b,(hs.2 a l).trans g,i,c,j.keeps ho e hs⟩
abbrev oY(prog:w6)(w:Ie)(k:Str×List Str):Int:=reduceHash (JN [(PySem.strKind prog w).hash k.1,Rk (PySem.strKind prog w) k.2])
abbrev yk(prog:w6)(w:Ie)(hh:Ks)(v:d4)(n:Int)(d:Nat):Prop :=
 ∀{A:OM} {E:d4->hY->Prop} {s:hY} {Q:Int->hY->Prop},s.heap=hh->A.units<IF->Q n {s with toks:=s.toks+d}->eH (ke prog w) A (pyHash v) Q E s
def sC(x:Str)(t:Tok):yk prog w hh (.str x t) ((PySem.strKind prog w).hash x) 1:=λ_ _ h=>(PySem.strKind prog w).pyHash (by simp[PySem.strKind,Md]) h
def oZ(hk:YN (PySem.strKind prog w) hh ks b):yk prog w hh (.ref b) (Rk (PySem.strKind prog w) ks) (ks.length+1):=λe a h=>by
 subst e;show wpAny_pyHash_tuple a hk h
def jE(j:A.units+1<IF)(hk:bw prog w s.heap k a)(h:Q (oY prog w k) {s with toks:=s.toks+(k.2.length+3)}):
  eH (ke prog w) A (pyHash (.ref a)) Q E s:=by
 have f:=hk.typeIs;obtain⟨o,n,t,b,ho,_,m,p⟩:=hk;unfold pyHash
 first|unfold pyHashByItsType|skip
 first|show b8 (wpAny_cRoomFor_or (.inr ⋯) ?_)|skip
 show b8 (Qq f PySem.F.slot_tuple_hash.lookup ?_);change eH _ _ (if (bD (Z8 "tuple.__hash__")==bD rz)=cb then _ else _) Q E s;rw[ğ (by rw[beq_builtin_none];show l')];show b8 (Qq f PySem.F.slot_tuple_hash.lookup ?_);change eH _ _ (callSpecialIfBoundUnlessNone? (.ref a) "__hash__" _ >>= _) Q E s;show b8 (wpAny_callSpecialIfBoundUnlessNone?_slot f PySem.F.slot_tuple_hash (H9 PySem.F.slot_tuple_hash f PySem.F.entry_tuple_hash ?_ (PySem.F.args_tuple_hash_1 _)));change eH _ _ (Q4 (.ref a) >>= _) _ _ s;show b8 (V6 ho m ?_);show b8 ?_;rw[<-U1];show Tz _
  (λc (d:Array Int) s'=>(c=[H_ k.1 t,mh b]/\d=#[]/\s'=s)\/(c=[mh b]/\d.toList=[(PySem.strKind prog w).hash k.1]/\s'={s with toks:=s.toks+1}) \/
   (c=[]/\d.toList=[(PySem.strKind prog w).hash k.1,Rk (PySem.strKind prog w) k.2]/\s'={s with toks:=s.toks+1+(k.2.length+1)}))
  _ ?_ ?_ _ _ (.inl ⟨rfl,rfl,rfl⟩)
 .rintro x c d s' (⟨e,rfl,rfl⟩|⟨e,g,rfl⟩|⟨e,_,_⟩)
  .cases e;show b8 (sC k.1 t (hh:=s'.heap) rfl (by change A.units+1<IF;show j) ?_)
   first
    |show dV (.inr (.inl ⟨rfl,rfl,rfl⟩))
    |show b8 (dV (dV (.inr (.inl ⟨rfl,rfl,rfl⟩))))
  .cases e;show b8 (oZ p rfl (by change A.units+1<IF;show j) ?_)
   first
    |show dV (.inr (.inr ⟨rfl,by simp[g],rfl⟩))
    |show b8 (dV (dV (.inr (.inr ⟨rfl,by simp[g],rfl⟩))))
  .cases e
 .rintro d s' (⟨e,_,_⟩|⟨e,_,_⟩|⟨_,g,rfl⟩)
  .cases e
  .cases e
  .change eH _ _ (retInt (JN d.toList)) _ _ _;rw[g];show wpAny_ret_mkInt ?_;have l:s.toks+1+(k.2.length+1)+1=s.toks+(k.2.length+3):=by lia
   change eH _ _ (if (df (-(2:Int) ^ 63<=JN [(PySem.strKind prog w).hash k.1,Rk (PySem.strKind prog w) k.2])&&df (JN [(PySem.strKind prog w).hash k.1,Rk (PySem.strKind prog w) k.2]<2 ^ 63))=cb then _ else _) Q E _;unfold oY reduceHash at h;by_cases i:(df (-(2:Int) ^ 63<=JN [(PySem.strKind prog w).hash k.1,Rk (PySem.strKind prog w) k.2])&&df (JN [(PySem.strKind prog w).hash k.1,Rk (PySem.strKind prog w) k.2]<2 ^ 63))=cb
   .rw[ĝ i];rw[ĝ i]at h;show dV (by rw[l];show h)
   .rw[ğ i];rw[ğ i]at h;show b8 (OC (dV (by rw[l];show h)))
def qz(j:A.units<IF)(k:bw prog w s.heap x a)(f:bw prog w s.heap y b)(h:P (.done (.ret (.bool (df (x=y))))) s):
  eH (ke prog w) A (OG.«tuple.__eq__» ⟨[.ref a,.ref b],[]⟩) P E s:=by
 have l:=f.typeIs;obtain⟨G,H,m,g,n,_,o,p⟩:=k;obtain⟨I,J,q,i,t,_,B,C⟩:=f;change eH _ _ (É (.ref b) (.type "tuple") >>= _) _ _ s;show b8 (P5 l UB ?_);simp only[Mj,td,Ĥ];show b8 (V6 n o ?_);show b8 (V6 t B ?_);show b8 ?_;show Tz _
  (λc r s'=>r.1=b7/\s'=s/\((c=[(H_ x.1 m,H_ y.1 q),(mh g,mh i)])\/(c=[(mh g,mh i)]/\x.1=y.1)\/(c=[]/\x=y)))
  _ ?_ ?_ _ _ ⟨rfl,rfl,.inl rfl⟩
 .rintro⟨u,v⟩ c r s' ⟨d,rfl,(e|⟨e,D⟩|⟨e,_⟩)⟩
  .cases e;show b8 ((PySem.strKind prog w).eqBool (a:=x.1) (b:=y.1) (by simp[PySem.strKind,Md]) (by simp[PySem.strKind,Md]) ?_);by_cases hk:x.1=y.1
   .rw[Ġ hk];simp only[Mj,td,Ĥ];show dV ⟨rfl,rfl,.inr (.inl ⟨by first|rfl|trivial,hk⟩)⟩
   .rw[Ğ hk];simp only[Ã,ĥ];rw[Ğ (λz=>hk (by rw[z]))]at h;show b8 (dV (dV (dV h)))
  .cases e;show b8 (wpAny_eqBool_tuple j p C ?_);by_cases hk:x.2=y.2
   .rw[Ġ hk];simp only[Mj,td,Ĥ];show dV ⟨rfl,rfl,.inr (.inr ⟨by first|rfl|trivial,SO D hk⟩)⟩
   .rw[Ğ hk];simp only[Ã,ĥ];rw[Ğ (λz=>hk (by rw[z]))]at h;show b8 (dV (dV (dV h)))
  .cases e
 .rintro⟨L,N⟩ s' ⟨d,rfl,(e|⟨e,_⟩|⟨_,rfl⟩)⟩
  .cases e
  .cases e
  .simp only at d;subst d;show dV ?_;rw[Ġ rfl]at h;show h
def jF(g:A.units+2<IF)(c:bw prog w s.heap x a)(d:bw prog w s.heap y b)(h:Q (df (x=y)) s):
  eH (ke prog w) A (eqBool (.ref a) (.ref b)) Q E s:=by
 unfold eqBool
 try with_reducible show DD ?_
 change eH _ _ (if (mh a==mh b)=cb then _ else _) Q E s;by_cases f:(mh a==mh b)=cb
 .rw[ĝ f];have e:a=b:=by have:=Zm f;injection this
  subst e;obtain rfl:=c.inj d;show b8 (OC (dV (by simpa using h)))
 .rw[ğ f];show b8 (wpAny_richCompare_same_room (op:=.Eq) c.typeIs d.typeIs PySem.F.slot_tuple_eq
   (H9 PySem.F.slot_tuple_eq c.typeIs PySem.F.entry_tuple_eq (qz (by first|(change A.units+1<IF;lia)|(change A.units<IF;lia)|(change A.units+1+1<IF;lia)) c d ⟨_,rfl,(λe=>nomatch e),Jt h⟩) (PySem.F.args_tuple_eq_2 _ _)) ⋯)
def iV(hk:YN (PySem.strKind prog w) s.heap ks a)(h:Q cb s):eH (ke prog w) A (Zg (n+1) (.ref a)) Q E s:=by
 have e:=hk.typeIs;obtain⟨o,c,k,ho,_,g,i⟩:=hk;unfold Zg;show b8 (Qq e PySem.F.slot_tuple_eq.lookup ?_);change eH _ _ (É (.ref a) (.type "tuple") >>= _) _ _ s;show b8 (P5 e UB ?_);simp only[Mj,td,Ĥ];show b8 (Ri ho g ?_);show b8 ?_;change eH _ _ (ě c _ _) _ _ s;rw[<-U1];show Tz _ (λb r s'=>r.1=b7/\s'=s/\∀v∈b,carriedByValue v=cb) _ ?_ ?_ _ _ ⟨rfl,rfl,i.byValue⟩
 .rintro v b r s' ⟨d,rfl,f⟩;rw[Þ _ (f v lg)];show b8 (dV ?_);simp only[Mj,td,Ĥ];show dV ⟨rfl,rfl,λu j=>f u (kj _ j)⟩
 .rintro⟨l,m⟩ s' ⟨d,rfl,_⟩;simp only at d;subst d;show dV h
def kD(hk:bw prog w s.heap k a)(h:Q cb s):eH (ke prog w) A (Zg 8 (.ref a)) Q E s:=by
 have f:=hk.typeIs;obtain⟨o,n,t,b,ho,_,g,i⟩:=hk;unfold Zg;show b8 (Qq f PySem.F.slot_tuple_eq.lookup ?_);change eH _ _ (É (.ref a) (.type "tuple") >>= _) _ _ s;show b8 (P5 f UB ?_);simp only[Mj,td,Ĥ];show b8 (Ri ho g ?_);show b8 ?_;rw[<-U1];show Tz _ (λc r s'=>r.1=b7/\s'=s/\(c=[H_ k.1 t,mh b]\/c=[mh b]\/c=[])) _ ?_ ?_ _ _ ⟨rfl,rfl,.inl rfl⟩
 .rintro v c r s' ⟨d,rfl,(e|e|e)⟩
  .cases e;rw[Þ _ rfl];show b8 (dV ?_);simp only[Mj,td,Ĥ];show dV ⟨rfl,rfl,.inr (.inl (by first|rfl|trivial))⟩
  .cases e;show b8 (iV i ?_);simp only[Mj,td,Ĥ];show dV ⟨rfl,rfl,.inr (.inr (by first|rfl|trivial))⟩
  .cases e
 .rintro⟨j,l⟩ s' ⟨d,rfl,_⟩;simp only at d;subst d;show dV h
end
abbrev iW(prog:w6)(w:Ie):HeapKind prog w (Str×List Str) where
 is:=bw prog w
 hash:=oY prog w
 draws:=λk=>k.2.length+3
 room:=λA=>A.units+2<IF
 inj:=λa b=>a.inj b
 keeps:=λx ho d hs=>x.keeps ho d hs
 pyHash:=λc hk h=>jE ⋯ hk h
 eqBool:=λc a b h=>jF c a b h
 quiet:=λhk h=>kD hk h
@[reducible]def m_:=Str×List Str
abbrev gb(K:PySem.W.Frag)(H:Hp)(v:V)(k:m_):Prop:=∃a b,v=.ref a/\Ir K H a [.str k.1,.ref b]/\Ir K H b (k.2.map V.str)
abbrev j8(P:w6)(w:Ie)(d:eW)(xs:List (m_×eW×d4)):HO:=.ext λh=>(d==JP)=cc/\∃o es ep,h.get? d=bD o/\o.ExactDict/\o.data=.dict es ep/\es.toList=xs.map (entryOfKey (iW P w))/\(xs.map (·.1)).Nodup
abbrev fQ(P:w6)(w:Ie)(K:PySem.W.Frag)(H:Hp)(d:eW)(ks:List m_):Prop:=∃xs,H d=bD (j8 P w d xs)/\xs.map (·.1)=ks/\∀x∈xs,gb K H (.ref x.2.1) x.1
theorem lA:∀{ks:List Str}{its:List d4},Vals (ks.map V.str) its->ItemsAre (PySem.strKind P w) ks its
 |[],_,.nil=>.nil
 |k::ks,_,.cons r t=>by
  have⟨a,rfl⟩:=r;show .cons (by simp[PySem.strKind,Md]) (lA t)
def AZ(I:Inv X a σ H s)(e:Ir X.K H b (ks.map V.str)):YN (PySem.strKind X.prog X.w) s.heap ks b:=by
 obtain⟨its,r,⟨o,c,d,n,f⟩,_⟩:=I.tuple e;show⟨o,its.toArray,n,c,d,f,by simpa using lA r⟩
def kL(I:Inv X d σ H s)(e:gb X.K H (.ref a) k):bw X.prog X.w s.heap k a:=by
 have⟨a',b,q,f,g⟩:=e;cases q;obtain⟨its,r,⟨o,h,i,n,j⟩,_⟩:=I.tuple f;cases r with
 |cons l c =>
  cases c with
  |cons c m =>
   cases m;have⟨t,rfl⟩:=l;cases c;show⟨o,n,t,b,h,i,j,AZ I g⟩
section
def Inv.Hu(I:Inv X a σ H s):JP<s.heap.objs.size:=by
 obtain⟨o,es,ep,ho,_⟩:=I.mod.glob;have b:@OT Nat _ ro s.heap.objs.size:=hH (I.bk _ _ ho);obtain⟨e,⟨f,g,h,c,_⟩,_⟩:=I.mod.blt;have d:@OT Nat _ Ui s.heap.objs.size:=hH (I.bk _ _ c);revert b d;change @OT Nat _ ro s.heap.objs.size->@OT Nat _ Ui s.heap.objs.size->@OT Nat _ JP s.heap.objs.size;unfold ro Ui JP;lia
def lB(I:Inv X a σ H s)(h:H d=bD (j8 X.prog X.w d xs))(hk:∀x∈xs,gb X.K H (.ref x.2.1) x.1):(d==JP)=cc/\s.heap.DictOfH (iW X.prog X.w) d xs:=by
 obtain⟨⟨b,o,es,ep,c,e,f,g,i⟩,_⟩:=I.HN d _ h;show⟨b,o,es,ep,c,e,f,g,λx j=>kL I (hk x j),i⟩
def CD(b:(d==JP)=cc)(x:h.DictOfH (iW P w) d xs):bP P w H' h d (j8 P w d xs):=by
 obtain⟨o,es,ep,a,c,e,f,_,g⟩:=x;show⟨⟨b,o,es,ep,a,c,e,f,g⟩,⟨o,a⟩,λq a ⟨i,o,es,ep,j,l,m,n,p⟩ k=>⟨i,o,es,ep,k _ j,l,m,n,p⟩⟩
def A0:PE X (.Dict [] [] pos) (λ_ H Q=>∀p,H p=b7->Q (.ref p) (upd H p (j8 X.prog X.w p []))):=λb s σ H Q I h =>
 è ⟨.ref s.heap.objs.size,_,I.laid (a:=s.heap.objs.size) (o:=j8 X.prog X.w s.heap.objs.size []) (t':=s.toks) (λ_ _ q=>dt _ q) (kb _)
  (CD (ģ.mpr (uv (ki I.Hu))) (û s.heap)),rfl,h _ (I.HN.fresh (kb _))⟩
def iu(k:m_):(U' xs k).isSome=df (k∈xs.map (·.1)):=by
 unfold U';rw[Sa,Iy,List.find?_isSome,Ĝ,ez];constructor
 .rintro⟨x,a,e⟩;show⟨x,a,Ģ e⟩
 .rintro⟨x,a,e⟩;show⟨x,a,Ġ e⟩
def wo(o:X.A.units+3<IF):JO X (OV .NotIn) (λx y H Q=>∃k d ks,gb X.K H x k/\y=.ref d/\fQ X.prog X.w X.K H d ks/\Q (.bl (!df (k∈ks))) H):=by
 intro c s σ H x y v u Q I f g h;obtain⟨k,d,ks,e,rfl,⟨xs,i,j,l⟩,q⟩:=h;cases g;have⟨a,b,rfl,p,r⟩:=id e;cases f;have⟨m,n⟩:=lB I i l;show ð (knd:=iW X.prog X.w) (k:=k) (by change X.A.units+1+2<IF;lia) (kL I e) m n ?_;rw[iu,j];show⟨.bl _,H,I.tok _,rfl,q⟩
def A4(hu:X.A.units+3<IF):k7 X (λo i v H Q=>∃d k ks,o=.ref d/\gb X.K H i k/\fQ X.prog X.w X.K H d ks/\k∉ks/\ks.length<=1000/\∀H',fQ X.prog X.w X.K H' d (ks++[k])->(∀b,b≠d->H' b=H b)->Q H'):=by
 intro p s σ H o i v ov iv u Q I t B rv h;obtain⟨d,k,ks,rfl,f,⟨xs,c,g,r⟩,C,hl,q⟩:=h;cases t;have⟨a,b,rfl,e1,e2⟩:=id f;cases B;have⟨D,G⟩:=lB I c r;have J:xs.length<=c4:=by
  have:=ġ tA g;rw[cK]at this;rw[this];show M3 (wg hl)
 show Å (hsz:=J) (knd:=iW X.prog X.w) (k:=k) (by change X.A.units+1+2<IF;lia) (kL I f) G λh' j L=>?_;have N:U' xs k=b7:=by
  have:=iu (xs:=xs) k;rw[g,Ğ C]at this;cases e:U' xs k with
  |none=>rfl
  |some _=>rw[e]at this;cases this
 rw[storedH_new N]at j;obtain⟨O,HL,OF,T,_⟩:=id j;show⟨upd H d (j8 X.prog X.w d (xs++[(k,a,u)])),I.write (x:=d) (e:=d) (by rw[c];show U3) (.inl rfl) (λb q l z=>(L.2 b l).trans z) ⟨O,T⟩ (CD D j),q _ ⟨_,aA,by rw[mu,g];rfl,λx Y=>?_⟩ λb l=>ay l⟩;have kT:∀{a':eW} {n:List V},Ir X.K H a' n->Ir X.K (upd H d (j8 X.prog X.w d (xs++[(k,a,u)]))) a' n:=λ{a' n} z=>by
  rcases z with(z|⟨o,z⟩)|z
  .show .inl (.inl (by rw[ay (xK z c (λz=>nomatch z))];show z))
  .show .inl (.inr ⟨o,by rw[ay (xK z c (λz=>nomatch z))];show z⟩)
  .show .inr z
 have keep:∀{y:V} {k':m_},gb X.K H y k'->gb X.K (upd H d (j8 X.prog X.w d (xs++[(k,a,u)]))) y k':=λ{y k'} ⟨a',b',z1,z2,z3⟩=>⟨a',b',z1,kT z2,kT z3⟩
 rcases gj.mp Y with m|m
 .show keep (r x m)
 .have:x=(k,a,u):=by simpa using m
  subst this;show keep f
end
abbrev J3(a b:Str):Bool:=!df (b.cps.toList<a.cps.toList)
def kM(a b:Str):J3 a b=cb↔a.cps.toList<=b.cps.toList:=by
 simp only[J3,uk,decide_eq_false_iff_not];show List.not_lt
def nU(a b c:Str)(d:J3 a b=cb)(e:J3 b c=cb):J3 a c=cb:=by
 rw[kM]at d e ⊢;show List.le_trans d e
def wq(a b:Str):(J3 a b||J3 b a)=cb:=by
 rw[Om,kM,kM];show List.le_total _ _
def yl{x y:Str}(h:x.cps.toList=y.cps.toList):x=y:=by
 cases x;cases y;congr
 show VJ.mp h
def o_(c:J3 a b=cb)(d:J3 b a=cb):a=b:=by
 rw[kM]at c d;show yl (List.le_antisymm c d)
abbrev az(l:List Str):List Str:=l.mergeSort J3
def aX(l:List Str):(az l).Perm l:=Ux l J3
def lC(l:List Str):(az l).Pairwise (λa b=>J3 a b=cb):=SS nU wq l
theorem iX:∀(l:List Str) (p:Str),risingS p l=cb->(p::l).Pairwise (λa b=>J3 a b=cb)
 |[],p,_=>by simp
 |x::r,p,h=>by
  have h':(!ltCps x.cps.toList p.cps.toList&&risingS x r)=cb:=h;have⟨c,g⟩:=JL.mp h';have d:=iX r x g;have f:J3 p x=cb:=by rw[ltCps_eq]at c;show c
  show MH.mpr ⟨λy i=>?_,d⟩;rcases d6.mp i with e|e
  .rw[e];show f
  .show nU _ _ _ f ((MH.mp d).1 y e)
def pd(h:sortedS l=cb):l.Pairwise (λa b=>J3 a b=cb):=by
 cases l with
 |nil=>show .nil
 |cons x r=>show iX r x h
theorem jG:∀{l m:List Str},l.Perm m->l.Pairwise (λa b=>J3 a b=cb)->m.Pairwise (λa b=>J3 a b=cb)->l=m
 |[],m,c,_,_=>(List.Perm.nil_eq c)
 |x::l,m,c,d,f=>by
  cases m with
  |nil=>show absurd c.length_eq (by simp)
  |cons y m =>
   have⟨g,h⟩:=MH.mp d;have⟨b1,i⟩:=MH.mp f;have j:x=y:=by
    have m1:x∈y::m:=c.mem_iff.mp lg;have m2:y∈x::l:=c.mem_iff.mpr lg;rcases d6.mp m1 with e|e
    .show e
    .rcases d6.mp m2 with e'|e'
     .show e'.symm
     .show o_ (g y e') (b1 x e)
   subst j;rw[jG (Yu c) h i]
def ym(a:l.Perm m)(hs:sortedS l=cb):l=az m:=jG (a.trans (aX m).symm) (pd hs) (lC m)
def dA(a:l.Perm m):az l=az m:=jG ((aX l).trans (a.trans (aX m).symm)) (lC l) (lC m)
def jH:az l=az m↔l.Perm m:=⟨λh=>(aX l).symm.trans (h▸aX m),dA⟩
def bo(l:List Str):(az l).length=l.length:=(aX l).length_eq
section
theorem dY:∀{a:List Str}{its:List d4},Vals (a.map V.str) its->Rr its a
 |[],_,.nil=>.nil
 |y::a,_,.cons r t=>by
  have⟨b,rfl⟩:=r;show .cons y b (dY t)
theorem dM:∀{its:List d4}{a:List Str},Rr its a->Vals (a.map V.str) its
 |_,_,.nil=>.nil
 |_,_,.cons x t h=>.cons ⟨t,rfl⟩ (dM h)
theorem fy(hc:eH (ke prog w) A.in1 (Zr x) (λvs s1=>∃ss,Rr vs ss/\vs.length<64 /\
      ∀(h':Ks) (Ip:List d4) (e:Nat),(∀b o,s1.heap.get? b=bD o->h'.get? b=bD o)->h'.get? s1.heap.objs.size=bD (Iu "list" Ip.toArray e)->Rr Ip (az ss)->Q (.ref s1.heap.objs.size) {s1 with heap:=h' }) E s) :
    eH (ke prog w) A (PU (.builtin "sorted") [x]) Q E s:=by
  refine Xu kind_sorted plain_sorted entry_sorted (args_sorted1 _) ?_;unfold OG.«sorted»;refine b8 (m:=checkCount "sorted" 1 1 _) (dV ?_);refine b8 (ti hc (λvs s1 h1=>?_) λ_ _ e=>e);obtain⟨ss,hS,K8,h⟩:=h1
  refine wpAny_bind (wpAny_newList ?_ (by have : (64 : Nat) ≤ sizeLine := by decide
                                          lia))
  have Lu:(s1.heap.push (Iu "list" vs.toArray 0)).get? s1.heap.objs.size=bD (Iu "list" vs.toArray 0):=i4 _ rfl;show eH _ _ _ _ _ {s1 with heap:=s1.heap.push (Iu "list" vs.toArray 0)};refine b8 (DD (H9 Ė ⟨_,Lu,rfl⟩ ā (list_sort_treeK strKind_oneLt Lu hS.keysOf (λv₁ v₂ rest e=>keyKind_strs (by rw[<-e];exact hS)) K8 λst' a1 a2=>⟨_,rfl,?_⟩) (Ě _)));obtain⟨Kq,b1,b2,b3⟩:=sorted_out_str hS a1 a2;obtain⟨e,he⟩:=Y9 (out:=(arrOf st').map (·.2)) Lu;rw[ym b2 b3]at b1;refine dV ⟨_,rfl,h _ ((arrOf st').map (·.2)).toList e (λb o q=>?_) (by rw[YT];exact he) b1⟩;have Ih:b<s1.heap.objs.size:=hH q;show(Í (s1.heap.push (Iu "list" vs.toArray 0)) s1.heap.objs.size vs ((arrOf st').map (·.2))).get? b=bD o;rw[YO (ki Ih) (by rw[MO];exact K3 Ih)];exact dt _ q
def ng(hl:Z3 s.heap l vs.toArray)
  (h:Q vs {s with heap:=(s.heap.push (Iu "list" #[] 0)).update s.heap.objs.size (sL (·++vs.toArray))}) (hsz:vs.length<=c4) :
  eH (ke prog w) A (Zr (.ref l)) Q E s:=by
 have⟨o,ho,b,n,c⟩:=id hl;unfold Zr;show b8 (YF (Ke entry_proto_collect' ?_));change eH _ _ (do Ē (.builtin "list.__iadd__" ⟨[<-Ü [],.ref l],[]⟩)) _ _ s;show b8 (Y2 (dV ⟨Zj _ (by decide +kernel),Ke entry_list_iadd' ?_⟩));change eH _ _ (NC (.ref s.heap.objs.size) (.ref l) (.ref s.heap.objs.size)) _ _ {s with heap:=s.heap.push (Iu "list" #[] 0)};unfold NC;have a:(s.heap.push (Iu "list" #[] 0)).get? l=bD o:=dt _ ho;show b8 (P4 (T:="tuple") ⟨o,a,b⟩ ?_);have d:(y1 "tuple"==y1 "tuple")=cb:=by rfl
 rw[ĝ (by rw[d];simp)];show b8 (ZD a c ?_);show b8 (ZD (xs:=#[]) (n:=0) (i4 _ rfl) rfl ?_);rw[ğ (by simp)];show b8 (VO (xs:=#[]) (n:=0) (i4 _ rfl) rfl ?_ (mA _) (by change(#[]++vs.toArray).size<=c4+1;simp only[Vc,i5,Wm];lia));show dV ?_;change eH (ke prog w) A (do
   let o <-load s.heap.objs.size
   match o.data with
   |.seq xs _=>pure xs.toList
   |_=>unsupported "internal:collect") Q E {s with heap:=(s.heap.push (Iu "list" #[] 0)).update s.heap.objs.size (sL (·++vs.toArray))}
 show b8 (Æ (Ā (i4 _ rfl) _) ?_);change eH _ _ (pure ((#[]:Array d4)++vs.toArray).toList) Q E _;rw[show((#[]:Array d4)++vs.toArray).toList=vs by simp];show dV h
end
section
def ic{h:Ks}{vs:List d4}(e:h.get? b=bD o):((h.push (Iu "list" #[] 0)).update h.objs.size (sL (·++vs.toArray))).get? b=bD o:=by
 rw[PV _ _ _ _ (ki (hH e))];show dt _ e
def qA(I:Inv X a σ H s)(k1:∀b o,s.heap.get? b=bD o->s1.heap.get? b=bD o)(h:∃d c,s1={s with heap:=d,toks:=c})
  (hk:∀b o,s1.heap.get? b=bD o->h'.get? b=bD o) (i:h'.get? s1.heap.objs.size=bD (Iu "list" f.toArray e)) (j:Rr f (az ss)) (hsz:s.heap.objs.size<=s1.heap.objs.size) (hl:ss.length<=c4)
  (q:∀p,H p=b7->Q (.ref p) (upd H p (.lst ((az ss).map V.str)))):EP X a σ Q (.ref s1.heap.objs.size) {s1 with heap:=h' }:=by
 have⟨d,c,rfl⟩:=h;have g:Inv X a σ H {s with heap:=d,toks:=c}:=I.kept (t':=c) k1;show⟨.ref d.objs.size,_,g.laid (t':=c) (o:=.lst ((az ss).map V.str)) hk (kb _) ⟨by rw[cK,bo];show hl,f,e,dM j,i⟩,rfl,q _ (g.HN.fresh (kb _))⟩
def j9:fX X (.builtin "sorted") (λxs H Q=>∃(p:eW) (a:List Str),xs=[.ref p]/\(Iz X.K H p (a.map V.str)\/Ir X.K H p (a.map V.str))/\a.length<64/\∀q,H q=b7->Q (.ref q) (upd H q (.lst ((az a).map V.str)))):=by
 intro d s σ H xs us Q I rs h;have⟨p,a,rfl,hq,k,q⟩:=h;have⟨u,rfl,r⟩:=vals1 rs;cases r;have hl:a.length<=c4:=M3 (mf k (by decide));have f:∀(its:List d4),Vals (a.map V.str) its->∀(h':Ks) (c:List d4) (e:Nat),(∀b o,((s.heap.push (Iu "list" #[] 0)).update s.heap.objs.size (sL (·++its.toArray))).get? b=bD o->h'.get? b=bD o) ->
   h'.get? ((s.heap.push (Iu "list" #[] 0)).update s.heap.objs.size (sL (·++its.toArray))).objs.size=bD (Iu "list" c.toArray e)->Rr c (az a) ->
   EP X d σ Q (.ref ((s.heap.push (Iu "list" #[] 0)).update s.heap.objs.size (sL (·++its.toArray))).objs.size) {s with heap:=h' }:=λits rv h' c e hk g i =>
  qA (s1:={s with heap:=(s.heap.push (Iu "list" #[] 0)).update s.heap.objs.size (sL (·++its.toArray))}) I (λb o z=>ic z) ⟨_,s.toks,rfl⟩ hk g i (by change s.heap.objs.size<=((s.heap.push (Iu "list" #[] 0)).update s.heap.objs.size (sL (·++its.toArray))).objs.size;rw[ZI,MO];show NW _) hl q
 rcases hq with hq|hq
 .have⟨its,rv,j,hz⟩:=I.list hq;have l:its.length=a.length:=by rw[<-rv.length,cK]
  show fy (collect_list j.isList ⟨a,dY rv,⋯,λh' c e hk g i=>f its rv h' c e hk g i⟩ ⋯)
 .have⟨its,rv,j,hz⟩:=I.tuple hq;have l:its.length=a.length:=by rw[<-rv.length,cK]
  show fy (ng j ⟨a,dY rv,⋯,λh' c e hk g i=>f its rv h' c e hk g i⟩ ⋯)
end
@[reducible]def sK(P:w6)(w:Ie):=PySem.strKind P w
abbrev fz(P:w6)(w:Ie)(h:Ks)(a:eW)(b:Bool)(D:List Str):Prop :=
 ∃(L:List (Str×Tok)) (es:Array (Int×d4)) (ep:Nat) (t:SJ),h.get? a=bD {cls:=.type "set",dict:=b7,data:=.set es ep t}/\es.toList=L.map (λp=>((sK P w).hash p.1,H_ p.1 p.2)) /\
  (L.map (·.1)).Perm D/\D.Nodup/\t.fits es.size=cb/\es.size<Na/\t.led=b/\(es.size=0\/t.plain=cc)
section
def yn{L:List (Str×Tok)}:ElemsOf (sK prog w) (L.map λp=>((sK prog w).hash p.1,H_ p.1 p.2)):=by
 intro e a;obtain⟨p,_,rfl⟩:=ez.mp a;show⟨⟨p.1,by simp[PySem.strKind,Md],rfl⟩,rfl⟩
def uG(x y:Str)(t:Tok):(sK prog w).is x (.str y t)=df (x=y):=by
 rw[Iy];simp[PySem.strKind,Md];show⟨λh=>h.symm,λh=>h.symm⟩
def sD(t:SJ)(es:Array (Int×d4))(h:Int)(x:d4):(layNew t es h x).2.1.led=t.led:=by
 unfold layNew;split
 .change(Yy (t.put _).1 _).led=t.led;unfold Yy;split<;>rfl
 .rfl
def pe(t:SJ)(es:Array (Int×d4))(n:Nat):(YI t es n).2.1.led=t.led:=by
 unfold YI;split
 .rename_i t' b a;have:t'.led=t.led:=by
   unfold Y6 Zu at a;cases c:YM (Yx n - 1) (es.map (·.1)) with
   |none=>rw[c]at a;cases a
   |some o=>rw[c]at a;cases a;rfl
  dsimp only
  split
  .show this
  .rfl
 .rfl
def lD(t:SJ)(es:Array (Int×d4))(n:Nat)(h:t.plain=cc):(YI t es n).2.1.plain=cc:=by
 unfold YI;split
 .rename_i t' b a;have:t'.plain=t.plain:=by
   unfold Y6 Zu at a;cases c:YM (Yx n - 1) (es.map (·.1)) with
   |none=>rw[c]at a;cases a
   |some o=>rw[c]at a;cases a;rfl
  dsimp only
  split
  .rw[this];show h
  .rfl
 .rfl
def iw(h:l.Perm (L.map λp=>((sK prog w).hash p.1,H_ p.1 p.2))):∃a:List (Str×Tok),l=a.map (λp=>((sK prog w).hash p.1,H_ p.1 p.2))/\a.Perm L:=by
 have all:∀e∈l,∃p:Str×Tok,e=((sK prog w).hash p.1,H_ p.1 p.2):=λe b=>by
  obtain⟨p,_,rfl⟩:=ez.mp (h.mem_iff.mp b);show⟨p,rfl⟩
 have ex:∀l:List (Int×d4),(∀e∈l,∃p:Str×Tok,e=((sK prog w).hash p.1,H_ p.1 p.2))->∃a:List (Str×Tok),l=a.map (λp=>((sK prog w).hash p.1,H_ p.1 p.2)):=by
  intro l;induction l with
  |nil=>intro _;show⟨[],rfl⟩
  |cons e l d =>
   intro c;have⟨p,rfl⟩:=c e lg;have⟨a,rfl⟩:=d λe b=>c e (kj _ b);show⟨p::a,rfl⟩
 have⟨a,rfl⟩:=ex l all;show⟨a,rfl,?_⟩;have g:(a.map λp=>((sK prog w).hash p.1,H_ p.1 p.2)).map (λe=>match e.2 with|.str x t=>(x,t)|_=>(ri,0))=a:=by
  rw[hQ];show ò _
 have f:(L.map λp=>((sK prog w).hash p.1,H_ p.1 p.2)).map (λe=>match e.2 with|.str x t=>(x,t)|_=>(ri,0))=L:=by
  rw[hQ];show ò _
 have:=h.map (λe=>match e.2 with|.str x t=>(x,t)|_=>(ri,0));rw[g,f]at this;show this
theorem sE(hS:fz prog w s.heap a led D)(MT:D.length+1<Na)
    (h:∀h',KC a s.heap h'->fz prog w h' a led (if x∈D then D else D++[x])->Q (df (x∉D)) {s with heap:=h' }) :
    eH (ke prog w) A (setAddHashed a (.str x tk) ((sK prog w).hash x)) Q E s:=by
  obtain⟨L,es,ep,t,ho,LC,IU,HW,hf,hb,K9,Je⟩:=hS;have RS:(sK prog w).is x (.str x tk)=cb:=by rw[uG];simp
  have T9:ElemsOf (sK prog w) es.toList:=by rw[LC];exact yn
  have hlen:es.size=D.length:=by rw[<-sm,LC,cK,<-cK (f:=À) (as:=L),IU.length_eq]
  unfold setAddHashed setAddHashedIn;refine DD (b8 (J2 ho rfl hf ?_))
  dsimp only
  rw[byScan_of (knd:=sK prog w) rfl hb T9];simp only[↓reduceIte];unfold setAddByScan;refine b8 ?_;refine b8 (OC ?_);refine b8 (wpAny_setScan_of (knd:=sK prog w) RS ho rfl hf T9 ?_);have mem_iff:(∃e∈es.toList,(sK prog w).is x e.2=cb)↔x∈D:=by
    rw[LC,<-IU.mem_iff,ez];constructor
    · rintro⟨e,he,hi⟩
      obtain⟨p,hp,rfl⟩:=ez.mp he;rw[uG,Ĝ]at hi;exact⟨p,hp,hi.symm⟩
    · rintro⟨p,hp,e⟩
      exact⟨_,ez.mpr ⟨p,hp,rfl⟩,by rw[uG];simp[e]⟩
  cases hr:Ò (λe=>(sK prog w).is x e.2) es.toList with
  | some j =>
    dsimp only
    obtain⟨hj,VQ,_⟩:=List.findIdx?_eq_some_iff_getElem.mp hr;have hx:x∈D:=mem_iff.mp ⟨es.toList[j],Pb hj,VQ⟩;refine dV (dV ?_);have e:s={s with heap:=s.heap}:=by cases s;rfl
    have:=h s.heap (X4 a s.heap) (by rw[ĝ hx];exact⟨L,es,ep,t,ho,LC,IU,HW,hf,hb,K9,Je⟩);rw[Ğ (λz=>z hx)]at this;rw[e];exact this
  | none =>
    dsimp only
    have hx:x∉D:=λhx=>by
      obtain⟨e,he,hp⟩:=mem_iff.mpr hx;have:=List.findIdx?_eq_none_iff.mp hr e he;rw[hp]at this;exact Bool.noConfusion this
    have VR:∀(b:Bool) {s₁:hY} {Q':Unit->hY->Prop},Q' () s₁->eH (ke prog w) A (match b with|true=>Ĉ "set.scan.the-table-gave-way"|false=>pure ()) Q' E s₁ :=
      λb s₁ Q' hq=>by cases b<;>first|exact dV hq|exact OC hq
    have O0:=layNew_perm t es ((sK prog w).hash x) (.str x tk);have KO:=layNew_fits t es ((sK prog w).hash x) (.str x tk);have Ll:=sD t es ((sK prog w).hash x) (.str x tk);generalize hL:layNew t es ((sK prog w).hash x) (.str x tk)=NL at O0 KO Ll ⊢;obtain⟨IL,t1,LD,VS⟩:=NL
    dsimp only at O0 KO Ll ⊢
    rw[Zn,LC,show [((sK prog w).hash x,H_ x tk)]=[(x,tk)].map (λp=>((sK prog w).hash p.1,H_ p.1 p.2)) from rfl,<-mu]at O0;obtain⟨L1,e1,VT⟩:=iw O0;have J4:IL.size=D.length+1:=by rw[<-sm,O0.length_eq,cK,gs,<-hlen,<-sm,LC,cK];rfl
    have T_:IL.size<Na:=by lia
    have MU:(L1.map (·.1)).Perm (D++[x]):=(VT.map _).trans (by rw[mu];exact IU.append_right _);have Ua:(D++[x]).Nodup:=by
      rw[qs]
      exact ⟨HW, by simp, fun y hy z hz => by have : z = x := by simpa using hz
                                              subst this;rintro rfl;exact hx hy⟩
    refine b8 (VR _ ?_);have Mm:∀h',KC a s.heap h'->fz prog w h' a led (D++[x])->Q cb {s with heap:=h' }:=λh' sb hs=>by
      have:=h h' sb (by rw[ğ hx];exact hs);rw[Ġ hx]at this;exact this
    have tail:∀(g:Bool->Sem Unit),(∀(b:Bool) (s₁:hY) (Q':Unit->hY->Prop),Q' () s₁->eH (ke prog w) A (g b) Q' E s₁)->∀(R:Option Bool->hY->Prop),(∀h',KC a s.heap h'->fz prog w h' a led (D++[x])->R (bD cb) {s with heap:=h' })->∀t2:SJ,t2.fits IL.size=cb->t2.led=led->t2.plain=cc->eH (ke prog w) A (do
        storeSet a IL t2
        if (!LD&&t2.tooFull)=true then do
            g (relayAll t2 IL (SetTable.grown IL.size)).2.2
            storeSet a (relayAll t2 IL (SetTable.grown IL.size)).1 (relayAll t2 IL (SetTable.grown IL.size)).2.1
            pure (some true)
          else pure (bD cb)) R E s:=by
      intro g hg R hR t2 VU Kr Mn;refine b8 (Õ ho rfl ?_ (Ý T_));have O1:(s.heap.update a (Tu IL t2)).get? a=bD {cls:=.type "set",dict:=b7,data:=.set IL (ep+1) t2}:=by
        have:=Jp (Tu IL t2) ho rfl;exact this
      have O2:=KA s.heap a (Tu IL t2);split
      · have hp:=relayAll_perm t2 IL (Rv IL.size)
        have Nm:=relayAll_fits t2 IL (Rv IL.size);have RT:=pe t2 IL (Rv IL.size);have Oa:=lD t2 IL (Rv IL.size) Mn;generalize O3:YI t2 IL (Rv IL.size)=Rl at hp Nm RT Oa ⊢;obtain⟨Mo,t3,Ub⟩:=Rl
        dsimp only at hp Nm RT Oa ⊢
        rw[e1]at hp;obtain⟨L2,e2,VV⟩:=iw hp;have hsz:Mo.size=IL.size:=by rw[<-sm,hp.length_eq,<-e1,sm]
        refine b8 (hg _ _ _ ?_);refine b8 (Õ O1 rfl ?_ (Ý ⋯));have Nn:((s.heap.update a (Tu IL t2)).update a (Tu Mo t3)).get? a=bD {cls:=.type "set",dict:=b7,data:=.set Mo (ep+1+1) t3}:=Jp (Tu Mo t3) O1 rfl;refine dV (hR _ (O2.trans (KA _ a _)) ⟨L2,Mo,_,t3,Nn,e2,(VV.map _).trans MU,Ua,Nm,⋯,RT.trans Kr,.inr Oa⟩)
      · exact dV (hR _ O2 ⟨L1,IL,_,t2,O1,e1,MU,Ua,VU,T_,Kr,.inr Mn⟩)
    split
    · rename_i hp
      refine b8 ?_;rw[hashByValue_scannable 8 rfl];refine dV ?_;have ep:(if plainKind (H_ x tk)=cb then t1 else {t1 with plain:=cc})={t1 with plain:=cc}:=rfl;rw[ep];refine tail _ ?_ _ ?_ {t1 with plain:=cc} (SetTable.fits_plain_off KO) (Ll.trans K9) rfl
      · intro b s₁ Q' hq;cases b<;>first|exact dV hq|exact OC hq
      · intro h' MV Lm;dsimp only;exact dV (Mm h' MV Lm)
    · rename_i hp
      refine b8 (dV ?_);simp only[↓reduceIte];refine tail _ ?_ _ ?_ t1 KO (Ll.trans K9) (Ss.mpr hp)
      · intro b s₁ Q' hq;cases b<;>first|exact dV hq|exact OC hq
      · intro h' MV Lm;dsimp only;exact dV (Mm h' MV Lm)
end
abbrev kF(D:List Str)(x:Str):List Str:=if x∈D then D else D++[x]
abbrev aP(l:List Str):List Str:=l.foldl kF []
theorem sF(h:D.Nodup):(kF D x).Nodup:=by
  unfold kF;split
  · exact h
  · rename_i hx
    rw[qs]
    exact ⟨h, by simp, fun y hy z hz => by have : z = x := by simpa using hz
                                           subst this;rintro rfl;exact hx hy⟩
theorem fA:∀(l D:List Str),D.Nodup->(l.foldl kF D).Nodup/\(∀x,x∈l.foldl kF D↔x∈D\/x∈l)/\(l.foldl kF D).length<=D.length+l.length
 |[],D,h=>⟨h,by simp,by simp⟩
 |y::l,D,h=>by
  have⟨a,b,f⟩:=fA l (kF D y) (sF h);have c:∀x,x∈kF D y↔x∈D\/x=y:=λx=>by
   unfold kF;split
   .rename_i d;show⟨.inl,λz=>z.elim id (λe=>e▸d)⟩
   .simp
  have hl:(kF D y).length<=D.length+1:=by
   unfold kF;split
   .lia
   .simp
  show⟨a,λx=>?_,by rw[Wu,k9];lia⟩;rw[Wu,b,c,d6,or_assoc]
def cW(l:List Str):(aP l).Nodup:=(fA l [] R9).1
def dZ(l:List Str)(x:Str):x∈aP l↔x∈l:=by rw[aP,(fA l [] R9).2.1];simp
def lE(l:List Str):(aP l).length<=l.length:=by have:=(fA l [] R9).2.2;simpa[aP] using this
def qB(l:List Str)(x:Str):aP (l++[x])=kF (aP l) x:=by unfold aP;rw[List.foldl_append];rfl
section
variable{prog:w6}{w:Ie}{A:OM}{R:Result->hY->Prop}{I:eW}{fp wr:List eW}{G:Array GenState->Array GenState->Prop}{n:Nat}{P:Nat->d4->Prop}{St:Nat->hY->Prop}
def jI(W:WalksS prog w A.in1 I fp wr G n P St)(S:eW)(p:S∉fp)(a:Bool)
  (d:List Str) (hn:d.length=n) (z:∀i v,P i v->∃x t,d[i]?=bD x/\v=.str x t) (f:n+1<Na) :
  ∀(k i:Nat) (s:hY),n - i=k->i<=n->St i s->fz prog w s.heap S a (aP (d.take i)) ->
   (∀s',Moved (S::wr) G s s'->fz prog w s'.heap S a (aP d)->R (.ok (.ret .none)) s') ->
   Sq (ke prog w) A (.builtin "set.update.loop" ⟨[.ref S,.ref I],[]⟩) R s:=by
 have q:S∉wr:=λh=>p (W.sub _ h);have r:∀b∈wr,b∈S::wr:=λb f=>kj _ f;intro k;induction k with
 |zero =>
  intro i s hk B l j m;have C:i=n:=by lia
  subst C;show Ke Sv ?_;rw[KH Ob _];change eH _ A.in1 (Sw (.ref I) >>= _) _ _ s;show b8 (W.done s _ _ l λs' g=>?_);change eH _ A.in1 (ret rz) _ _ s';rw[NX ⋯]at j;show dV (m s' (g.mono r) (by
   have⟨L,es,ep,t,ho,c⟩:=j;show⟨L,es,ep,t,g.heap S _ q ho,c⟩))
 |succ k D =>
  intro i s hk B l j m;have u:i<n:=by lia
  show Ke Sv ?_;rw[KH Ob _];change eH _ A.in1 (Sw (.ref I) >>= _) _ _ s;show b8 (W.item i s _ _ u l λv s' H J g=>?_);have⟨x,t,N,rfl⟩:=z i v H;have O:fz prog w s'.heap S a (aP (d.take i)):=by
   have⟨L,es,ep,Q,ho,c⟩:=j;show⟨L,es,ep,Q,g.heap S _ q ho,c⟩
  change eH _ A.in1 (Nc [H_ x t] (setAdd S (.str x t)) >>= _) _ _ s';show b8 (DD ?_);unfold setAdd;show DD ?_;show b8 ((sK prog w).pyHash (k:=x) (by rw[uG];simp) ?_);have T:(aP (d.take i)).length+1<Na:=by have:=lE (d.take i);rw[vr]at this;lia
  show sE (s:={s' with toks:=s'.toks+1}) O T λh' y Y=>?_;have VW:fz prog w h' S a (aP (d.take (i+1))):=by
   rw[List.take_add_one,N];change fz prog w h' S a (aP (d.take i++[x]));rw[qB];show Y
  show dV ⟨RW Ob _,D (i+1) _ ⋯ u (W.frame _ s' _ _ J (NW _) λb f o e=>?_) VW λKk RU RV=>?_⟩
  .rw[y.2 b (λh:b=S=>p (by rw[<-h];show f))];show e
  .show m Kk (Moved.trans W.gtrans ((g.mono r).then_heap (NW _) λb o f e=>?_) RU) RV;rw[y.2 b (λh:b=S=>f (by rw[h];show lg))];show e
end
section
def nh(a:d4)
  (h:Q₁ (.ref s.heap.objs.size) {s with heap:=s.heap.push {cls:=.type "set",dict:=b7,data:=.set #[] 0 (.fresh 0 0 (!w.params.followText "set-order"))}}) :
  Sq (ke prog w) A (.call (.builtin "set.__new__") ⟨[.type "set",a],[]⟩) (wants Q₁ E) s:=by
 show ù ?_;change eH _ A.in1 (do checkBuiltinCall "set.__new__" ⟨[.type "set",a],[]⟩;Ē (.builtin "set.__new__" ⟨[.type "set",a],[]⟩)) _ _ s;show b8 (Yd (PySem.F.newCall_set_1 a) (dV ⟨RW PySem.F.plain_set_new _,Ke PySem.F.entry_set_new ?_⟩));rw[KH PySem.F.plain_set_new _];unfold OG.«set.__new__» Z0;have b:=sub_set_self;have⟨c,g,d,e,os⟩:=s
 dsimp only
 wp_walk
 show XG (dV ?_)
 dsimp only
 simp only[newObj];show b8 (wpAny_alloc (dV ?_));show dV h
def sG(c:h.get? a=bD {cls:=.type "set",dict:=b7,data:=.set #[] 0 (.fresh 0 0 b)}):fz prog w h a b [] :=
 ⟨[],#[],0,_,c,rfl,.nil,R9,rfl,by unfold Na;decide,rfl,.inl rfl⟩
end
def sub_tuple_set:RC (.type "tuple") (.type "set")=pure cc:=by rw[Lw];kernel_rfl
def sub_tuple_frozenset:RC (.type "tuple") (.type "frozenset")=pure cc:=by rw[Lw];kernel_rfl
section
@[reducible]def dB(w:Ie):Bool:=!w.params.followText "set-order"
@[reducible]def sH(a:Bool):Obj:={cls:=.type "set",dict:=b7,data:=.set #[] 0 (.fresh 0 0 a)}
def iY
  (L:s.TypeIs (.ref l) T) (VY:RC (.type T) (.type "set")=pure cc) (VZ:RC (.type T) (.type "frozenset")=pure cc) (IW:(y1 T==y1 "dict")=cc)
  (N:a.length+1<Na)
  (k:∀(s1:hY) (B:OM) (Q':d4->hY->Prop),B.handled=A.handled->(∀b o,s.heap.get? b=bD o->s1.heap.get? b=bD o)->s.heap.objs.size<s1.heap.objs.size ->
   (∀I m n G P St d,WalksS prog w B.in1 I m n G a.length P St->(∀g g',G g g'->g'=g)->s.heap.objs.size∉m->(∀b∈n,s.heap.objs.size<b)->(∀i v,P i v->∃x t,a[i]?=bD x/\v=.str x t)->St 0 {s1 with heap:=d}->(∀b o,s1.heap.get? b=bD o->d.get? b=bD o)->Q' (.ref I) {s1 with heap:=d})->eH (ke prog w) B (YK (.ref l)) Q' E s1)
  (h:∀(h':Ks) (f:Nat),fz prog w h' s.heap.objs.size (dB w) (aP a)->(∀b o,b<s.heap.objs.size->s.heap.get? b=bD o->h'.get? b=bD o)->Q (.ref s.heap.objs.size) {s with heap:=h',toks:=f}) :
  eH (ke prog w) A (PU (.type "set") [.ref l]) Q E s:=by
 have⟨c,tl,V0⟩:=PySem.F.called_set.mro;have KP:=PySem.F.called_set.made;have Jy:=PySem.F.called_set.sub;show Ç (ù ?_);change eH _ _ (callAny (.type "set") _) _ _ _;show dV ⟨Zj _ (by decide +kernel),Ke PySem.F.entry_type_call ?_⟩;rw[Around.under_plain (weight_type_call_type "set" [.ref l] []) rfl];have d:=PySem.F.called_set.notType;have h2:=PySem.F.called_set.canCreate;have X0:=PySem.F.typeCall_set_1 (.ref l)
 repeat (any_goals (first|assumption|wp_step))
 show So (nh (.ref l) (E:=E) (Q₁:=λobj C=>obj=.ref s.heap.objs.size/\C={s with heap:=s.heap.push (sH (dB w))}) ⟨rfl,rfl⟩) λr C p=>?_;cases r with
 |error e=>show p
 |ok O =>
  cases O with
  |ret obj =>
   have⟨rfl,rfl⟩:=p;have D:(s.heap.push (sH (dB w))).get? s.heap.objs.size=bD (sH (dB w)):=i4 _ rfl;have Y:Sg {s with heap:=s.heap.push (sH (dB w))} (.ref s.heap.objs.size) "set":=⟨_,D,rfl⟩
   have X1:=PySem.F.called_set.init.lookup;have X2:=PySem.F.called_set.init.bind (.ref s.heap.objs.size)
   repeat (any_goals (first|assumption|wp_step))
   show So (codeAny_call_builtin (R:=wants (λr H=>r=.none/\∃h' f,H={s with heap:=h',toks:=f} /\
     fz prog w h' s.heap.objs.size (dB w) (aP a) /\
     (∀b o,b<s.heap.objs.size->s.heap.get? b=bD o->h'.get? b=bD o)) E) PySem.F.called_set.init.plain PySem.F.entry_set_init (check_set_init_1 Y ?_)) λr₂ H q=>?_
   .have⟨ol,O5,J⟩:=L;have⟨V1,O6,O7,Nq⟩:=ol;simp only at J;subst J;have RX:(s.heap.push (sH (dB w))).get? l=bD {cls:=.type T,dict:=O6,data:=O7,slots:=Nq}:=dt _ O5;have X3:Sg {s with heap:=s.heap.push (sH (dB w))} (.ref l) T:=⟨_,RX,rfl⟩
    unfold OG.«set.__init__» noKeywords ZX;generalize V2:YK=PI
    wp_walk
    subst V2;show k {s with heap:=s.heap.push (sH (dB w))} _ _ rfl (λb o e=>dt _ e) (by rw[MO];show Td _) λI m n G P St d W hG hf V3 Np HQ hk=>?_;show b8 (YF ?_);show jI W s.heap.objs.size hf (dB w) a rfl Np N (a.length - 0) 0 _ ⋯ (mA _) HQ (sG (hk _ _ D)) ?_;intro s' j u;have⟨h',g',d',Ql,Rh⟩:=s';have eg:g'=s.gens:=hG _ _ j.gens;have ed:d'=s.drawn:=j.drawn;have eo:Rh=s.os:=j.os;subst eg;subst ed;subst eo;change eH _ _ _ _ _ _;show dV ?_;change eH _ _ (ret rz) _ _ _;show dV ⟨rfl,h',Ql,rfl,u,λb o y e=>?_⟩;show j.heap b o (λz=>by
     rcases d6.mp z with z|z
     .rw[z]at y;show H8 _ y
     .show absurd (V3 b z) (Nat.not_lt_of_lt y)) (hk _ _ (dt _ e))
   .cases r₂ with
    |error e=>show q
    |ok V4 =>
     cases V4 with
     |ret r =>
      have⟨rfl,h',f,rfl,u,IH⟩:=q
      repeat (any_goals (first|assumption|wp_step))
      show h _ _ u IH
     |_=>show q.elim
  |_=>show p.elim
end
section
theorem pf:∀{vs:List d4}{ss:List Str},Rr vs ss->∀(i:Nat) (v:d4),vs[i]?=bD v->∃x t,ss[i]?=bD x/\v=.str x t
 |_,_,.nil,i,v,h=>by simp at h
 |_,_,.cons x t h,0,v,e=>by simp at e;show⟨x,t,rfl,e.symm⟩
 |_,_,.cons x t h,i+1,v,e=>by rw[SY]at e;rw[SY];show pf h i v e
theorem iZ:∀{vs:List d4}{ss:List Str},Rr vs ss->vs.length=ss.length
 |_,_,.nil=>rfl
 |_,_,.cons x t h=>by simp[iZ h]
def uH(a:n≠S)(b:n≠l):n∉[S,l]:=by simp[a,b]
def lF(hh:A.handled=b7)(hl:s.heap.IsList l vs.toArray)(f:Rr vs a)(c:a.length+1<Na)
  (h:∀(h':Ks) (j:Nat),fz prog w h' s.heap.objs.size (dB w) (aP a)->(∀b o,b<s.heap.objs.size->s.heap.get? b=bD o->h'.get? b=bD o)->Q (.ref s.heap.objs.size) {s with heap:=h',toks:=j}) :
  eH (ke prog w) A (PU (.type "set") [.ref l]) Q E s:=by
 have g:l<s.heap.objs.size:=let ⟨o,ho,_⟩:=hl;hH ho;show iY hl.typeIs PySem.F.sub_list_set PySem.F.sub_list_frozenset (by decide) c (λs1 B Q' k hk d m=>?_) h;have Ll:s1.heap.IsList l vs.toArray:=let ⟨o,ho,r⟩:=hl;⟨o,hk _ _ ho,r⟩;show Rj Ll ?_;have n:l≠s1.heap.objs.size:=ki (QY g d);have W:=(UN (prog:=prog) (w:=w) (A:=B.in1) (by simp[k,hh]) s1.heap.objs.size l n vs.toArray).toS;have p:vs.toArray.size=a.length:=by simp[iZ f]
 rw[p]at W;show m _ _ _ _ _ _ _ W (λ_ _ e=>e) (uH (ki d) (KN g)) (λb c=>by rw[mN.mp c];show d) (λi v q=>pf f i v (by simpa using q)) ⟨⟨_,i4 _ rfl,rfl,rfl⟩,Ll.push _⟩ λb o e=>dt _ e
def ni(hh:A.handled=b7)(hl:s.heap.IsTuple l vs.toArray)(f:Rr vs a)(c:a.length+1<Na)
  (h:∀(h':Ks) (j:Nat),fz prog w h' s.heap.objs.size (dB w) (aP a)->(∀b o,b<s.heap.objs.size->s.heap.get? b=bD o->h'.get? b=bD o)->Q (.ref s.heap.objs.size) {s with heap:=h',toks:=j}) :
  eH (ke prog w) A (PU (.type "set") [.ref l]) Q E s:=by
 have g:l<s.heap.objs.size:=let ⟨o,ho,_⟩:=hl;hH ho;show iY hl.typeIs sub_tuple_set sub_tuple_frozenset (by decide) c (λs1 B Q' k hk d m=>?_) h;have Ll:s1.heap.IsTuple l vs.toArray:=let ⟨o,ho,r⟩:=hl;⟨o,hk _ _ ho,r⟩;show QQ Ll ?_;have n:l≠s1.heap.objs.size:=ki (QY g d);have W:=(Walks.tuple (prog:=prog) (w:=w) (A:=B.in1) (by simp[k,hh]) s1.heap.objs.size l n vs.toArray).toS;have p:vs.toArray.size=a.length:=by simp[iZ f]
 rw[p]at W;show m _ _ _ _ _ _ _ W (λ_ _ e=>e) (uH (ki d) (KN g)) (λb c=>by rw[mN.mp c];show d) (λi v q=>pf f i v (by simpa using q)) ⟨⟨_,i4 _ rfl,rfl,rfl⟩,let ⟨o,ho,r⟩:=Ll;⟨o,dt _ ho,r⟩⟩ λb o e=>dt _ e
def ph(a:n≠0)(h:∀i<n,Q i {s with drawn:=s.drawn.bump src}):eH M A (choose src n) Q E s:=λΓ p b=>by
 change Sem.wp M Γ (.choose src n .pure) _ _ p s;rw[Sem.wp_choose];show⟨a,h _ (X8 _ (Nat.pos_of_ne_zero a))⟩
theorem ix:∀{xs:List α}{i:Nat}{x:α},xs[i]?=bD x->(x::xs.eraseIdx i).Perm xs
 |[],i,x,h=>by simp at h
 |y::a,0,x,h=>by simp at h;subst h;show .refl _
 |y::a,i+1,x,h=>by
  rw[SY]at h;rw[List.eraseIdx_cons_succ];show(List.Perm.swap y x _).trans ((ix h).cons y)
theorem ie:∀(n:Nat) (xs:List α) (s:hY) (Q:List α->hY->Prop),xs.length=n->(∀a d,a.Perm xs->Q a {s with drawn:=d})->eH M A (drawOrder n xs) Q E s
 |0,xs,s,Q,b,h=>by
  have:xs=[]:=SX.mp b;subst this;show dV (h [] s.drawn (.refl _))
 |n+1,[],s,Q,b,h=>by simp at b
 |n+1,y::a,s,Q,b,h=>by
  change eH M A (choose .order (y::a).length >>= _) Q E s;show b8 (ph (by simp) λi c=>?_);have e:(y::a)[i]?=bD ((y::a)[i]'c):=Jq c;have f:=ix e;generalize (y::a)[i]'c=x at e f;simp only[e];show b8 (ie n _ _ _ (by have:=f.length_eq;simp at this b ⊢;lia) λg d hz=>?_);show dV (h (x::g) d ((hz.cons x).trans f))
theorem j_(next:Nat->Nat):∀(fuel k:Nat) (left:List α) (out:Array α),left.length=fuel->(W2 next fuel k left out).toList.Perm (out.toList++left)
 |0,k,left,out,hl=>by
  have:left=[]:=SX.mp hl;subst this;simp[W2]
 |fuel+1,k,left,out,hl=>by
  unfold W2;have a:next k % left.length<left.length:=X8 _ ⋯;have e:left[next k % left.length]?=bD (left[next k % left.length]'a):=Jq a;have b:=ix e;generalize left[next k % left.length]'a=x at e b;simp only[e];show(j_ next fuel _ _ _ (by have:=b.length_eq;simp at this;lia)).trans ?_;rw[Zn,QP];show(b.append_left _)
def gc(next:Nat->Nat)(xs:Array α):(XH next xs).toList.Perm xs.toList:=by
 have:=j_ next xs.size 0 xs.toList #[] (by simp);simpa[XH] using this
end
namespace SI
def qC:Manifest.owners.lookup (String.ofList ['r','o','t','a','r','e','t','i','_','t','e','s'].reverse)=bD Manifest.sig_set_iterator:=by kernel_rfl
def slot_next:Slot "set_iterator" "__next__" "set_iterator.__next__" :=
 .of (owner:="set_iterator") (n:="__next__") (by rw[Yq,UC];kernel_rfl) (by decide +kernel) (by decide +kernel) (by decide +kernel)
  (by first|show .inl (by decide +kernel)|show .inr (by decide +kernel)) (by rw[Lw];kernel_rfl)
def entry_next:ZU table "set_iterator.__next__"=bD OG.«set_iterator.__next__»:=é (by kernel_rfl)
def args_next(a:d4):đ "set_iterator.__next__" ⟨[a],[]⟩:=by
 unfold đ;rw[signature?_of (id:="set_iterator.__next__") (n:=['_','_','t','x','e','n','_','_']) (o:=['r','o','t','a','r','e','t','i','_','t','e','s']) (by kernel_rfl) qC];kernel_rfl
def nV:Slot "set_iterator" "__iter__" "set_iterator.__iter__" :=
 .of (owner:="set_iterator") (n:="__iter__") (by rw[Yq,UC];kernel_rfl) (by decide +kernel) (by decide +kernel) (by decide +kernel)
  (by first|show .inl (by decide +kernel)|show .inr (by decide +kernel)) (by rw[Lw];kernel_rfl)
def wt(a:d4):đ "set_iterator.__iter__" ⟨[a],[]⟩:=by
 unfold đ;rw[signature?_of (id:="set_iterator.__iter__") (n:=['_','_','r','e','t','i','_','_']) (o:=['r','o','t','a','r','e','t','i','_','t','e','s']) (by kernel_rfl) qC];kernel_rfl
def sI:ZU table "set_iterator.__iter__"=bD OG.«dict_keyiterator.__iter__» :=
 Ď (id':="dict_keyiterator.__iter__") (by kernel_rfl) (by first|rfl|decide +kernel|(unfold String.splitOn;simp +decide [String.splitOnAux])) (by decide +kernel) (by kernel_rfl)
def lG:ZU table "set.__iter__"=bD OG.«frozenset.__iter__» :=
 Ď (id':="frozenset.__iter__") (by kernel_rfl) rfl (by decide +kernel) (by kernel_rfl)
end SI
section
variable{prog:w6}{w:Ie}{A:OM}{E:d4->hY->Prop}{s:hY}
abbrev iy(h:Ks)(I:eW)(first:d4)(i:Nat)(S:eW)(n ep:Nat):Prop:=∃o,h.get? I=bD o/\o.cls=.type "set_iterator"/\o.data=.fields #[first,D' i,.ref S,D' n,D' ep]
def iy.typeIs(x:iy s.heap I f i S n ep):s.TypeIs (.ref I) "set_iterator":=let ⟨o,ho,a,_⟩:=x;⟨o,ho,a⟩
def A5(a:iy s.heap I f i S n ep)(h:Q (.ref I) s):eH (ke prog w) A (YK (.ref I)) Q E s:=by
 show Ø a.typeIs SI.nV (H9 SI.nV a.typeIs SI.sI ?_ (SI.wt _));change eH _ _ (ret (.ref I)) _ _ s;show dV ⟨_,rfl,"set_iterator",_,a.typeIs,SI.slot_next.lookup,h⟩
def fB(h:Q (M.w.params.followText "set-order") s):eH M A setsByText Q E s:=by
 unfold setsByText;show b8 (XG (dV h))
end
end L2
namespace L2
open PySem PySem.Spec PyProof.Rows
section
variable{prog:w6}{w:Ie}{A:OM}{E:d4->hY->Prop}{s:hY}
@[reducible]def pj(es:Array (Int×d4))(ep:Nat)(t:SJ):Obj:={cls:=.type "set",dict:=b7,data:=.set es ep t}
def qD{I:eW}{B:OM}{Q:Option d4->hY->Prop}{c:Ks}{k:d4->Sem (Option d4)}(hh:B.handled=b7)
  (d:∀h',(∀b o,c.get? b=bD o->h'.get? b=bD o)->∀e,Sg {s with heap:=h' } e "StopIteration"->E e {s with heap:=h' }) {Q':Fin->hY->Prop} :
  eH (ke prog w) B (Zq (.type "StopIteration") [] >>= λe=>(YJ e:Sem Fin)) Q' E {s with heap:=c}:=by
 show b8 ?_;simp only[Zq,ċ];show b8 (va ?_ (by size_fits));show b8 (m:=U_ _ _) (Yd (a:=rz) (by first|rfl|(simp only[U_];rfl)) ?_);show va ?_ (by size_fits);simp only[YJ];show b8 (wpAny_handled ?_);rw[hh];show b8 (dV (wpAny_throw ?_));show d _ (λb o e=>dt _ (dt _ e)) _ ⟨_,i4 _ rfl,rfl⟩
def uI{I S:eW}{first:d4}{i ep:Nat}{es:Array (Int×d4)}{t:SJ}(d:iy s.heap I first i S es.size ep)(ho:s.heap.get? S=bD (pj es ep t))(j:t.fits es.size=cb)
  (k:∀(Q':Fin->hY->Prop) (h:d4->hY->Prop) ,(∀v s',Q (bD v) s'->Q' (.done (.ret v)) s')->(∀e s',s'.TypeIs e "StopIteration"->Q b7 s'->h e s') ->
   eH (ke prog w) A.in1 (if let .int slot _:=first then(do
     match <-Wy S slot.toNat i ep with
     |some (x,next) =>
      Wz (.ref I) 0 (D' next)
      Wz (.ref I) 1 (D' ((i:Int)+1))
      ret x
     |none=>Wz (.ref I) 2 .none;YJ (<-Zq (.type "StopIteration") []))
    else(do
     let bD c <-Zf first|unsupported "internal:set_iterator"
     match c[i]? with
     |some (.int f _) =>
      let x <-Zp S f.toNat ep
      Wz (.ref I) 1 (D' ((i:Int)+1))
      ret x
     |some _=>unsupported "internal:set_iterator"
     |none=>Wz (.ref I) 0 (D' 0);Wz (.ref I) 2 .none;YJ (<-Zq (.type "StopIteration") []))) Q' h s):eH (ke prog w) A (Sw (.ref I)) Q E s:=by
 have⟨o,l,n,m⟩:=id d;unfold Sw;show b8 (wpAny_attempt (Mc (name:=QX "__next__") d.typeIs SI.slot_next
  (H9 SI.slot_next d.typeIs SI.entry_next ?_ (SI.args_next _))))
 unfold OG.«set_iterator.__next__»;show b8 (Yd (a:=(mh I,[])) rfl ?_)
 try dsimp only
 show b8 (wpAny_fieldsOf l m ?_)
 try dsimp only
 show b8 (Z7 ho rfl j ?_);rw[ğ (by simp)];show ti (k (λg s'=>∃r,g=.done (.ret r)/\Q (bD r) s') (λe s'=>s'.TypeIs e "StopIteration"/\Q b7 s') (λv s' q=>⟨v,rfl,q⟩) λe s' z q=>⟨z,q⟩) ?_ ?_
 .rintro g s' ⟨r,rfl,q⟩;show⟨r,rfl,dV q⟩
 .rintro e s' ⟨z,q⟩;show b8 (P5 (T:="StopIteration") (b:=cb) z Č ?_);show dV q
end
section
def uJ{I S:eW}{f f':d4}{i n ep:Nat}{h:Ks}{o:Obj}(b:h.get? I=bD o)(c:o.cls=.type "set_iterator")(a:o.data=.fields #[f,D' i,.ref S,D' n,D' ep]):
  iy (h.update I (â (·.setIfInBounds 1 (D' ((i:Int)+1))))) I f (i+1) S n ep :=
 ⟨_,Jp _ b (TH (N6 a _)),(Vs ..).trans c,by rw[N6 a];simp⟩
def qE{h:Ks}(c:h.get? I=bD o)(d:o.cls=.type "set_iterator")(b:o.data=.fields #[f,D' i,.ref S,D' n,D' ep]):
  ∃a,(h.update I (â (·.setIfInBounds 0 f'))).get? I=bD a/\a.cls=.type "set_iterator"/\a.data=.fields #[f',D' i,.ref S,D' n,D' ep] :=
 ⟨_,Jp _ c (TH (N6 b _)),(Vs ..).trans d,by rw[N6 b];simp⟩
def yo{I S:eW}{slot i ep:Nat}{es:Array (Int×d4)}{t:SJ}{Q:Option d4->hY->Prop}(a:iy s.heap I (D' slot) i S es.size ep)(ho:s.heap.get? S=bD (pj es ep t))(j:t.fits es.size=cb)(hh:A.handled=b7)
  {r:Option (d4×Nat)} (l:∀(B:OM) (f:d4->hY->Prop) (Q':Option (d4×Nat)->hY->Prop),Q' r s->eH (ke prog w) B (Wy S slot i ep) Q' f s)
  (m:∀x nx,r=bD (x,nx)->∀h',iy h' I (D' nx) (i+1) S es.size ep->KC I s.heap h'->Q (bD x) {s with heap:=h' })
  (n:r=b7->∀h',(∀b o,b≠I->s.heap.get? b=bD o->h'.get? b=bD o)->Q b7 {s with heap:=h' }):eH (ke prog w) A (Sw (.ref I)) Q E s:=by
 show uI a ho j λQ' f q u=>?_;have⟨o,c,v,d⟩:=id a;change eH _ _ (Wy S slot i ep >>= _) _ _ s;show b8 (l _ _ _ ?_);cases r with
 |some p =>
  have⟨x,nx⟩:=p
  dsimp only
  show b8 (N1 c d (by simp) ?_);have⟨H,g,y,h⟩:=qE (f':=D' nx) c v d;show b8 (N1 (s:={s with heap:=_}) g h (by simp) ?_);show dV (q _ _ (m x nx rfl _ (uJ (f':=D' nx) g y h) ((KA ..).trans (KA ..))))
 |none =>
  dsimp only
  show b8 (N1 c d (by simp) ?_);show qD (I:=I) (k:=λ_=>pure b7) (Q:=λ_ _=>True) (s:=s) (by simpa using hh) λh' hk e z=>u e _ z (n rfl h' λb C D G=>hk b C ?_);rw[PV _ _ _ _ D];show G
def DG{I S T:eW}{i ep:Nat}{es:Array (Int×d4)}{t:SJ}{a:List Nat}{Q:Option d4->hY->Prop}(c:iy s.heap I (.ref T) i S es.size ep)(ho:s.heap.get? S=bD (pj es ep t))(m:t.fits es.size=cb)(hh:A.handled=b7)
  (r:s.heap.IsTuple T ((a.map λ(j:Nat)=>D' j).toArray))
  (u:∀(j:Nat) (e:Int×d4),a[i]?=bD j->es[j]?=bD e->∀h',iy h' I (.ref T) (i+1) S es.size ep->KC I s.heap h'->Q (bD e.2) {s with heap:=h' })
  (v:∀j∈a,j<es.size)
  (x:a[i]?=b7->∀h',(∀b o,b≠I->s.heap.get? b=bD o->h'.get? b=bD o)->Q b7 {s with heap:=h' }):eH (ke prog w) A (Sw (.ref I)) Q E s:=by
 show uI c ho m λQ' N y z=>?_;have⟨o,d,n,f⟩:=id c;have⟨O,B,Y,nT,C⟩:=r;change eH _ _ (Zf (.ref T) >>= _) _ _ s;show b8 (Ri B C ?_);cases e:a[i]? with
 |some j =>
  have g:(a.map λ(j:Nat)=>D' j).toArray[i]?=bD (D' j):=by simp[e]
  simp only[g];have h:j<es.size:=v j (pb e);have l:es[j]?=bD (es[j]'h):=by simp[h]
  change eH _ _ (Zp S (j:Int).toNat ep >>= _) _ _ s;unfold Zp;rw[Lv];show b8 (b8 (J2 ho rfl m ?_))
  dsimp only
  rw[ğ (by simp)];generalize es[j]'h=p at l;simp only[l];show dV ?_;show b8 (N1 d f (by simp) ?_);show dV (y _ _ (u j p e l _ (uJ (f':=.ref T) d n f) (KA ..)))
 |none =>
  have g:(a.map λ(j:Nat)=>D' j).toArray[i]?=b7:=by simp at e ⊢;show e
  simp only[g];show b8 (N1 d f (by simp) ?_);have⟨o',D,e2,G⟩:=qE (f':=D' 0) d n f;show b8 (N1 (s:={s with heap:=_}) D G (by simp) ?_);show qD (I:=I) (k:=λ_=>pure b7) (Q:=λ_ _=>True) (s:=s) (by simpa using hh) λh' hk ex H=>z ex _ H (x e h' λb J q L=>hk b J ?_);rw[PV _ _ _ _ q,PV _ _ _ _ q];show L
end
section
def iy.at(x:iy h I f i S n ep)(e:∀o,h.get? I=bD o->h'.get? I=bD o):iy h' I f i S n ep:=let ⟨o,ho,r⟩:=x;⟨o,e _ ho,r⟩
def lH(hh:A.handled=b7)(n:S≠I)(r:t.fits es.size=cb)(T:eW)(p:T≠I)(c:List d4)(k:c.length=es.size)
  (first:Nat->d4) (a:Ks->Prop) (l:∀h h',a h->(∀o,h.get? T=bD o->h'.get? T=bD o)->a h')
  (m:∀(s:hY) (i:Nat) (E:d4->hY->Prop) (Q:Option d4->hY->Prop),i<=es.size->a s.heap->iy s.heap I (first i) i S es.size ep->s.heap.get? S=bD (pj es ep t) ->
   (∀x,c[i]?=bD x->∀h',iy h' I (first (i+1)) (i+1) S es.size ep->KC I s.heap h'->Q (bD x) {s with heap:=h' }) ->
   (c[i]?=b7->∀h',(∀b o,b≠I->s.heap.get? b=bD o->h'.get? b=bD o)->Q b7 {s with heap:=h' })->eH (ke prog w) A (Sw (.ref I)) Q E s) :
  Walks prog w A I [I,S,T] [I] es.size (λi v=>c[i]?=bD v) (λi h=>i<=es.size/\iy h I (first i) i S es.size ep/\h.get? S=bD (pj es ep t)/\a h) where
 sub:=λb d=>by rw[mN.mp d];simp
 frame:=λi h h' x hk=>⟨x.1,x.2.1.at λo e=>hk I (by simp) o e,hk S (by simp) _ x.2.2.1,l h h' x.2.2.2 λo e=>hk T (by simp) o e⟩
 item:=λi s Q E q x f=>by
  show m s i E Q x.1 x.2.2.2 x.2.1 x.2.2.1 (λv g h' j hs=>?_) λz=>absurd z (by simp;lia);show f v h' s.toks g ⟨q,j,?_,l _ h' x.2.2.2 λo e=>?_⟩ λb o d e=>?_
  .rw[hs.2 S n];show x.2.2.1
  .rw[hs.2 T p];show e
  .rw[hs.2 b λz=>d (by simp[z])];show e
 done:=λs Q E x f=>by
  show m s es.size E Q x.1 x.2.2.2 x.2.1 x.2.2.1 (λv g=>absurd g (by rw[List.getElem?_eq_none ⋯];simp)) λ_ h' hk=>f h' s.toks λb o d e=>hk b o (λz=>d (by simp[z])) e
 self:=λi s Q E x f=>A5 x.2.1 f
def pk(ho:s.heap.get? S=bD (pj es ep t))(a:t.fits es.size=cb)(h:Q (!w.params.followText "set-order"&&(!t.plain&&df (es.size>1))) s):eH (ke prog w) A (setDrawn S) Q E s:=by
 unfold setDrawn;show b8 (J2 ho rfl a ?_)
 dsimp only
 show b8 (fB (dV h))
def pq(a:w.params.followText "set-order"=cb)(ho:s.heap.get? S=bD (pj es ep t))(b:t.fits es.size=cb)
  (h:Q ((XH (w.params.setOrder S ep) es)[i]?.map λe=>(e.2,0)) s):eH (ke prog w) A (Wy S 0 i ep) Q E s:=by
 unfold Wy;show b8 (J2 ho rfl b ?_)
 dsimp only
 show b8 (fB ?_);change eH _ _ (if (w.params.followText "set-order")=cb then _ else _) _ _ s;rw[ĝ a];rw[ğ (by simp)];unfold setWalk;show b8 (b8 (J2 ho rfl b ?_))
 dsimp only
 show b8 (fB ?_);change eH _ _ (if (w.params.followText "set-order")=cb then _ else _) _ _ s;rw[ĝ a];show b8 (XG (dV ?_));show dV h
theorem qF(hw:w.params.followText "set-order"=cc)(ho:s.heap.get? S=bD (pj es ep t))(hf:t.fits es.size=cb)(hl:t.led=cb)(h1:es.size<=1)
    (h:Q (match es[M9 t.place slot]?,t.place[M9 t.place slot]? with|some (_,x),bD j=>bD (x,j+1)|_,_=>b7) s):eH (ke prog w) A (Wy S slot i ep) Q E s:=by
  unfold Wy;refine b8 (J2 ho rfl hf ?_)
  dsimp only
  refine b8 (fB ?_);show eH _ _ (if (w.params.followText "set-order")=cb then _ else _) _ _ s;rw[ğ (by rw[hw];simp)];show eH _ _ (if (!t.plain&&df (es.size>1))=cb then _ else _) _ _ s
  rw [if_neg (by have : decide (es.size > 1) = false := decide_eq_false (by lia)
                 rw[this];simp)]
  show eH _ _ ((if (!t.led&&!es.isEmpty)=cb then _ else _) >>= _) _ _ s;rw[ğ (by rw[hl];simp)];exact b8 (dV (dV h))
def qG(es:Array (Int×d4))(a:Array Nat)(i:Nat)(c:es.size<=1)(d:a.size=es.size)(b:i<=es.size):
  (match es[M9 a (if i=0 then 0 else(a[0]?).getD 0+1)]?,a[M9 a (if i=0 then 0 else(a[0]?).getD 0+1)]? with|some (_,x),bD j=>bD (x,j+1)|_,_=>b7)=es[i]?.map λe=>(e.2,(a[0]?).getD 0+1):=by
 have⟨es⟩:=es;have⟨a⟩:=a
 match es,a,c,d,b with
 |[],[],_,_,b=>simp
 |[e],[p],_,_,b =>
  match i,b with
  |0,_ =>
   have:M9 #[p] 0=0:=by simp[M9,Xl]
   simp[this]
  |1,_ =>
   have:M9 #[p] (p+1)=1:=by simp[M9,Xl]
   simp[this]
  |n+2,h=>simp at h
 |[],_::_,_,h,_=>simp at h
 |[_],[],_,h,_=>simp at h
 |[_],_::_::_,_,h,_=>simp at h
 |_::_::_,_,h,_,_=>simp at h
def yp(hh:B.handled=b7)(hS:fz prog w s.heap S (dB w) D)
  (h:∀(I:eW) (fp:List eW) (n:Nat) (P:Nat->d4->Prop) (St:Nat->Ks->Prop) (c:List Str) (h':Ks) (d':Drawn),Walks prog w B I fp [I] n P St->c.Perm D->n=c.length->(∀i v,P i v->∃x T,c[i]?=bD x/\v=.str x T)->s.heap.objs.size<=I->(∀b∈fp,b=S\/s.heap.objs.size<=b)->St 0 h' ->
   (∀b o,s.heap.get? b=bD o->h'.get? b=bD o)->Q (.ref I) {s with heap:=h',drawn:=d' }):eH (ke prog w) A (YK (.ref S)) Q E s:=by
 have⟨L,es,ep,t,ho,LC,Y,HW,a,d,K9,Je⟩:=hS;have Ud:s.TypeIs (.ref S) "set":=⟨_,ho,rfl⟩
 have LF:S<s.heap.objs.size:=hH ho;show Ø Ud PySem.F.slot_set_iter (H9 PySem.F.slot_set_iter Ud SI.lG ?_ (PySem.F.args_set_iter_1 _));unfold OG.«frozenset.__iter__» ZY slotArgs;simp only[List.isEmpty_nil,Mj,td,↓reduceIte,bind_assoc,Wm,bne_self_eq_false];unfold Z1 ZZ;show b8 (dV ?_)
 try dsimp only
 show b8 (dV ?_);show b8 (b8 (Z7 ho rfl a (dV ?_)));have Qm:D.length=es.size:=by rw[<-Y.length_eq,cK,<-sm,LC,cK]
 have f:∀(l:List (Int×d4)),l.Perm es.toList->∃c:List Str,c.Perm D/\c.length=es.size/\∀(i:Nat) (v:d4),(l.map (·.2))[i]?=bD v->∃(x:Str) (T:Tok),c[i]?=bD x/\v=H_ x T:=by
  intro l hl;rw[LC]at hl;have⟨L',e',p'⟩:=iw hl;show⟨L'.map (·.1),(p'.map _).trans Y,by rw[((p'.map _).trans Y).length_eq,Qm],λi v G=>?_⟩;subst e';rw[hQ,my]at G;rw[my];cases q:L'[i]? with
  |none=>rw[q]at G;simp at G
  |some p=>rw[q]at G;simp at G;show⟨p.1,p.2,rfl,G.symm⟩
 show b8 (pk ho a ?_);cases hw:w.params.followText "set-order" with
 |true =>
  simp only[Mj,Ä,td,↓reduceIte];show b8 (dV ?_);show b8 (b8 (J2 ho rfl a (dV ?_)));show b8 (va ?_);have u:S≠s.heap.objs.size:=ki LF;have⟨c,H,J,N⟩:=f (XH (w.params.setOrder S ep) es).toList (gc _ _);have W:=lH (prog:=prog) (w:=w) (A:=B) (I:=s.heap.objs.size) (S:=S) (es:=es) (ep:=ep) (t:=t) hh u a S u ((XH (w.params.setOrder S ep) es).toList.map (·.2)) (by rw[cK,(gc _ _).length_eq,sm]) (λ_=>D' 0) (λ_=>True) (λ_ _ _ _=>trivial)
   (λs i E Q _ _ g y k1 k2=>yo (slot:=0) g y a hh (λB E' Q' q=>pq hw y a q) (λx nx e h' O hs=>by
    rw[d5]at e;have⟨p,C,e2⟩:=e;cases e2;show k1 _ (by rw[my,ML,C];rfl) h' O hs) (λe=>k2 (by rw[my,ML,SR];rwa [SR]at e)))
  show dV ⟨_,rfl,"set_iterator",_,⟨_,i4 _ rfl,rfl⟩,SI.slot_next.lookup,?_⟩;show h _ _ _ _ _ c _ s.drawn W H J.symm N (kb _) (λb d=>by
   simp only[d6,Q8,or_false]at d;rcases d with rfl|rfl|rfl
   .show .inr (kb _)
   .show .inl rfl
   .show .inl rfl) ⟨mA _,⟨_,i4 _ rfl,rfl,rfl⟩,dt _ ho,trivial⟩ λb o e=>dt _ e
 |false =>
  by_cases hsz:es.size>1
  .have Jw:t.plain=cc:=by
    rcases Je with z|z
    .lia
    .show z
   have C:(!cc&&(!t.plain&&df (es.size>1)))=cb:=by rw[Jw,Ġ hsz];rfl
   rw[C];simp only[↓reduceIte];show b8 (ie _ _ _ _ MW λm d' hp=>?_);simp only[ċ];have Mn:∀j∈m,j<es.size:=λj hj=>by have:=hp.mem_iff.mp hj;simpa using this
   have O_:m.length=es.size:=by rw[hp.length_eq];simp
   show b8 (va ?_ (by
    change(m.map λ(j:Nat)=>D' j).toArray.size<=_;have:es.size<4096:=d;simp only[i5,cK,O_];have:(4096:Nat)<=c4:=by decide
    lia))
   have K_:(s.heap.push {cls:=.type "tuple",data:=.seq (m.map λ(j:Nat)=>D' j).toArray}).get? S=bD (pj es ep t):=dt _ ho;show b8 (b8 (J2 (s:={s with heap:=_,drawn:=d' }) K_ rfl a (dV ?_)));show b8 (va ?_);have V7:s.heap.objs.size≠(s.heap.push {cls:=.type "tuple",data:=.seq (m.map λ(j:Nat)=>D' j).toArray}).objs.size:=by rw[MO];show ki (Td _)
   have u:S≠(s.heap.push {cls:=.type "tuple",data:=.seq (m.map λ(j:Nat)=>D' j).toArray}).objs.size:=by rw[MO];show ki (K3 LF)
   have Nt:(m.map λj=>(es[j]?).getD (0,rz)).Perm es.toList:=by
    show(hp.map _).trans ?_;have:(js es.size).map (λj=>(es[j]?).getD (0,rz))=es.toList:=by
     apply Pd
     .simp
     .intro i h1 h2;simp at h1 ⊢;simp[h1]
    rw[this]
   have⟨c,H,J,N⟩:=f _ Nt;have W:=lH (prog:=prog) (w:=w) (A:=B) (I:=(s.heap.push {cls:=.type "tuple",data:=.seq (m.map λ(j:Nat)=>D' j).toArray}).objs.size) (S:=S) (es:=es) (ep:=ep) (t:=t) hh u a s.heap.objs.size V7 ((m.map λj=>(es[j]?).getD (0,rz)).map (·.2)) (by simp[O_]) (λ_=>.ref s.heap.objs.size) (λh=>h.IsTuple s.heap.objs.size (m.map λ(j:Nat)=>D' j).toArray) (λh h' ⟨o,ho,r⟩ k=>⟨o,k _ ho,r⟩)
    (λs' i E Q _ KQ g y k1 k2=>DG g y a hh KQ (λj e ej ee h' O hs=>k1 _ (by rw[my,my,ej];simp[ee]) h' O hs) Mn (λe=>k2 (by rw[my,my,e];rfl)))
   show dV ⟨_,rfl,"set_iterator",_,⟨_,i4 _ rfl,rfl⟩,SI.slot_next.lookup,?_⟩;show h _ _ _ _ _ c _ d' W H J.symm N (by rw[MO];show NW _) (λb d=>?_) ⟨mA _,⟨_,i4 _ rfl,rfl,rfl⟩,dt _ K_,⟨_,dt _ (i4 _ rfl),rfl,_,rfl⟩⟩ λb o e=>dt _ (dt _ e);rw[MO]at d;simp only[d6,Q8,or_false]at d;rcases d with rfl|rfl|rfl
   .show .inr (NW _)
   .show .inl rfl
   .show .inr (kb _)
  .have C:(!cc&&(!t.plain&&df (es.size>1)))=cc:=by rw[Ğ hsz];simp
   rw[C];simp only[td,↓reduceIte];show b8 (dV ?_);show b8 (b8 (J2 ho rfl a (dV ?_)));show b8 (va ?_);have u:S≠s.heap.objs.size:=ki LF;have V8:t.led=cb:=by rw[K9];change(!w.params.followText "set-order")=cb;rw[hw];rfl
   have⟨c,H,J,N⟩:=f es.toList (.refl _);have Kf:t.place.size=es.size:=by
    unfold SetTable.fits at a;simp only[cL,beq_iff_eq]at a;show a.1
   have W:=lH (prog:=prog) (w:=w) (A:=B) (I:=s.heap.objs.size) (S:=S) (es:=es) (ep:=ep) (t:=t) hh u a S u (es.toList.map (·.2)) (by simp) (λi=>D' ((if i=0 then 0 else(t.place[0]?).getD 0+1:Nat):Nat)) (λ_=>True) (λ_ _ _ _=>trivial)
    (λs' i E Q hi _ g y k1 k2=>yo (slot:=if i=0 then 0 else(t.place[0]?).getD 0+1) g y a hh (λB E' Q' q=>qF hw y a V8 ⋯ q) (λx nx e h' O hs=>by
     rw[qG es t.place i ⋯ Kf hi,d5]at e;have⟨p,C,e2⟩:=e;cases e2;show k1 _ (by rw[my,ML,C];rfl) h' ?_ hs;rw[ğ (Nat.succ_ne_zero i)];show O) (λe=>by
     rw[qG es t.place i ⋯ Kf hi,SR]at e;show k2 (by rw[my,ML,e];rfl)))
   show dV ⟨_,rfl,"set_iterator",_,⟨_,i4 _ rfl,rfl⟩,SI.slot_next.lookup,?_⟩;show h _ _ _ _ _ c _ s.drawn W H J.symm N (kb _) (λb d=>by
    simp only[d6,Q8,or_false]at d;rcases d with rfl|rfl|rfl
    .show .inr (kb _)
    .show .inl rfl
    .show .inl rfl) ⟨mA _,⟨_,i4 _ rfl,rfl,rfl⟩,dt _ ho,trivial⟩ λb o e=>dt _ e
end
def qH:YH (.type "set") "__len__"=pure (bD (.builtin "set.__len__")):=by rw[Yq,UC];kernel_rfl
section
theorem lI:∀{vs:List d4}{a:List Str},vs.length=a.length->(∀(i:Nat) (v:d4),vs[i]?=bD v->∃x t,a[i]?=bD x/\v=.str x t)->Rr vs a
 |[],[],_,_=>.nil
 |[],_::_,h,_=>by simp at h
 |_::_,[],h,_=>by simp at h
 |v::vs,y::a,h,k=>by
  have⟨x,t,b,c⟩:=k 0 v rfl;cases b;subst c;show .cons y t (lI (by simpa using h) λi w d=>k (i+1) w d)
def qI(hh:A.handled=b7)(N:fz prog w s.heap S (dB w) D)(O:D.length<=c4)
  (T:∀(vs:List d4) (d:List Str) (h':Ks) (d':Drawn) (j:Nat),d.Perm D->Rr vs d->s.heap.objs.size<=h'.objs.size->s.toks<=j->(∀b o,s.heap.get? b=bD o->h'.get? b=bD o)->Q vs {s with heap:=h',drawn:=d',toks:=j}) :
  eH (ke prog w) A (Zr (.ref S)) Q E s:=by
 have⟨L,es,ep,t,ho,c⟩:=id N;have Y:S<s.heap.objs.size:=hH ho;unfold Zr;show b8 (YF (Ke PySem.F.entry_proto_collect ?_));rw[KH PySem.F.plain_proto_collect _];change eH _ A.in1 (Ü [] >>= λl=>Ē (.builtin "list.__iadd__" ⟨[l,.ref S],[]⟩)) _ _ s;show b8 (va ?_);show dV ⟨RW PySem.F.plain_list_iadd _,Ke PySem.F.entry_list_iadd ?_⟩;rw[KH PySem.F.plain_list_iadd _];have g:(s.heap.push {cls:=.type "list",data:=.seq ([]:List d4).toArray}).get? S=bD {cls:=.type "set",dict:=b7,data:=.set es ep t}:=dt _ ho;have hT:Sg {s with heap:=s.heap.push {cls:=.type "list",data:=.seq ([]:List d4).toArray}} (.ref S) "set":=⟨_,g,rfl⟩
 change eH _ A.in1 (NC (.ref s.heap.objs.size) (.ref S) (.ref s.heap.objs.size)) _ _ _;unfold NC;show b8 (P4 hT ?_);have k:s.heap.objs.size≠S:=KN Y;have h1:Vk (.ref s.heap.objs.size) (.ref S)=cc:=by simp[Vk,k]
 have h2:(y1 "set"==y1 "list")=cc:=by decide
 have h3:(y1 "set"==y1 "tuple")=cc:=by decide
 simp only[h1,h2,h3,Ó,td,Ĥ];show b8 (yp (B:=A.in1) (by simpa using hh) ⟨L,es,ep,t,g,c⟩ ?_);intro I fp n P St d h' d' W m p hP q V9 HQ hk;have h:Sg {s with heap:=h',drawn:=d' } (.ref S) "set":=⟨_,hk _ _ g,rfl⟩
 show b8 (DD ?_);unfold ü;show b8 (Qq h qH ?_);have JA:splitId "set.__len__"=bD ("set","__len__"):=by decide +kernel
 dsimp only
 rw[JA]
 dsimp only
 show b8 (P5 h sub_set_self ?_);rw[ğ (by decide)];rw[ĝ (by decide +kernel)];show b8 (P4 h ?_);show dV ?_;rw[ĝ (by decide +kernel)];have r:s.heap.objs.size∉fp:=λa=>by
  rcases V9 _ a with z|z
  .show k z
  .rw[MO]at z;show absurd z (Nat.not_succ_le_self _)
 have u:h'.get? s.heap.objs.size=bD {cls:=.type "list",data:=.seq ([]:List d4).toArray}:=hk _ _ (i4 _ rfl);show b8 (OC ?_);show b8 ?_;change eH _ A.in1 (updateSeq s.heap.objs.size (·.push .none) >>= λ_=>updateSeq s.heap.objs.size (·.pop)) _ _ _;show b8 (Uq u rfl ?_);have x:=Jp (sL (·.push rz)) u rfl;show Uq x rfl ?_;have V_:=Jp (sL (·.pop)) x rfl;have y:∀b o,b≠s.heap.objs.size->h'.get? b=bD o->((h'.update s.heap.objs.size (sL (·.push rz))).update s.heap.objs.size (sL (·.pop))).get? b=bD o :=
  λb o f e=>(QO _ _ (uv f)).trans ((QO _ _ (uv f)).trans e)
 show dV ⟨RW PySem.F.plain_extend_loop _,codeAny_extend_loopS W.toS (by rw[p,m.length_eq];show O) _ r _ n 0 _ _ _ rfl (mA _) (W.frame 0 h' _ HQ λb f o e=>y b o (λz=>r (z▸f)) e) V_ (ItemsOf.nil P) λs' O' c' a C G=>?_⟩;change eH _ A (load s.heap.objs.size >>= _) _ _ s';show b8 (Æ C ?_);have⟨L8,g2,H,V',Wa⟩:=s';have eg:g2=s.gens:=a.gens;have ed:H=d':=a.drawn;have eo:Wa=s.os:=a.os;subst eg;subst ed;subst eo;show dV (T _ d L8 H V' m (lI (by rw[sm,G.1,p]) λi v hv=>hP i v (G.2 i v (by rwa [ML]at hv))) (M3 (hH C)) a.toks λb o e=>?_);have J:b≠s.heap.objs.size:=λz=>by rw[z]at e;show absurd (hH e) (H8 _)
 show a.heap b o (λz=>?_) (y b o J (hk _ _ (dt _ e)));rcases d6.mp z with z|z
 .show J z
 .rw[mN.mp z]at e;have:=hH e;rw[MO]at q;show absurd (mf this (ve (NW _) q)) (H8 _)
end
section
def Inv.drawn(I:Inv X a σ H s)(d:Drawn):Inv X a σ H {s with drawn:=d}:=⟨I.ok,I.os,I.bare,I.base,I.loc,I.cell,I.free,I.Iq,I.pin,I.HN,I.len⟩
def i_(j:X.calm=cb)(I:Inv X c σ H s)(hq:Iz X.K H p (d.map V.str)\/Ir X.K H p (d.map V.str))(i:d.length+1<Na)
  (h:∀(S:eW) (h':Ks) (a:Nat),fz X.prog X.w h' S (dB X.w) (aP d)->Inv X c σ H {s with heap:=h',toks:=a}->Q (.ref S) {s with heap:=h',toks:=a}) :
  eH (ke X.prog X.w) X.A (PU (.type "set") [.ref p]) Q X.xe s:=by
 have hh:X.A.handled=b7:=I.ok.hd j;rcases hq with hq|hq
 .have⟨its,rv,f,hz⟩:=I.list hq;show lF hh f.isList (dY rv) i λh' a g k=>h _ h' a g (I.kept λb o e=>k b o (hH e) e)
 .have⟨its,rv,f,hz⟩:=I.tuple hq;show ni hh f (dY rv) i λh' a g k=>h _ h' a g (I.kept λb o e=>k b o (hH e) e)
def nj(i:X.calm=cb)(I:Inv X a σ H s)(j:fz X.prog X.w s.heap S (dB X.w) D)(d:D.length<64)
  (q:∀p,H p=b7->Q (.ref p) (upd H p (.lst ((az D).map V.str)))):eH (ke X.prog X.w) X.A (PU (.builtin "sorted") [.ref S]) (EP X a σ Q) X.xe s:=by
 have hh:X.A.handled=b7:=I.ok.hd i;have hl:D.length<=c4:=M3 (mf d (by decide));show fy (qI (A:=X.A.in1) (by simpa using hh) j hl λvs k h' d' b f g hsz n hk=>⟨k,g,by rw[iZ g,f.length_eq];show d,λr l e k2 c s2=>?_⟩);rw[dA f]at s2;have m:Inv X a σ H {s with heap:=h',toks:=b}:=I.kept (t':=b) hk;have h:Inv X a σ H {s with heap:=h',drawn:=d',toks:=b}:=m.drawn d';show⟨.ref h'.objs.size,_,h.laid (t':=b) (o:=.lst ((az D).map V.str)) k2 (kb _) ⟨by rw[cK,bo];show hl,l,e,dM s2,c⟩,rfl,q _ (h.HN.fresh (kb _))⟩
def sJ(I:Inv X a σ H s)(c:fz X.prog X.w s.heap S (dB X.w) D)
  (q:Q (.int D.length) H):eH (ke X.prog X.w) X.A (PU (.builtin "len") [.ref S]) (EP X a σ Q) X.xe s:=by
 have⟨L,es,ep,t,ho,d,g,j,h,i,k,l⟩:=c;have b:es.size=D.length:=by rw[<-sm,d,cK,<-cK (f:=À) (as:=L),g.length_eq]
 have m:es.size<4096:=i;show call_len_set ho ⟨rfl,rfl,rfl⟩ rfl h ⋯ ?_;show⟨.int es.size,_,I.kept (t':=s.toks+1+1) (λ_ _ e=>e),⟨_,rfl⟩,by rw[b];show q⟩
end
section
def ja(a:s.heap.IsTupleIter it l i)
  (hl:s.heap.IsTuple l b) (d:b[i]?=bD x)
  (e:∀h',h'.IsTupleIter it l (i+1)->KC it s.heap h'->Q x {s with heap:=h' }) :
  eH (ke prog w) A (KX (.ref it)) Q E s:=by
 have⟨o,ho,f,c⟩:=id a;obtain⟨j,g,_,k,h⟩:=hl;unfold KX;show b8 (Mc (name:=QX "__next__") a.typeIs PySem.F.slot_tuple_iterator_next
  (H9 PySem.F.slot_tuple_iterator_next a.typeIs PySem.F.entry_tuple_iterator_next ?_ (PySem.F.args_tuple_iterator_next_1 _)))
 change eH _ _ (č (.ref it) 0 >>= _) _ _ s;show b8 (Q0 ho c (x:=.ref l) rfl ?_);change eH _ _ (if (mh l==rz)=cb then _ else _) _ _ s;rw[ğ (show ¬((mh l==rz)=cb) from l')];change eH _ _ (č (.ref it) 1 >>= _) _ _ s;show b8 (Q0 ho c (x:=.int i 0) rfl ?_);change eH _ _ (Zf (.ref l) >>= _) _ _ s;show b8 (Ri g h ?_);simp only[Lv,d];show b8 (N1 ho c (by simp) (dV ⟨x,rfl,dV (e _ ?_ (KA ..))⟩));show⟨_,Jp _ ho (TH (N6 c _)),(Vs ..).trans f,by
  rw[N6 c];simp[D']⟩
def eY(hh:A.handled=b7)
  (b:s.heap.IsTupleIter it l i) (hl:s.heap.IsTuple l c) (f:c[i]?=b7)
  (g:∀h' e,ë it s.heap h'->(∃o,h'.get? e=bD o/\o.cls=.type "StopIteration")->E (.ref e) {s with heap:=h' }) :
  eH (ke prog w) A (KX (.ref it)) Q E s:=by
 have⟨o,ho,k,d⟩:=id b;obtain⟨n,h,_,p,j⟩:=hl;unfold KX;show b8 (Mc (name:=QX "__next__") b.typeIs PySem.F.slot_tuple_iterator_next
  (H9 PySem.F.slot_tuple_iterator_next b.typeIs PySem.F.entry_tuple_iterator_next ?_ (PySem.F.args_tuple_iterator_next_1 _)))
 change eH _ _ (č (.ref it) 0 >>= _) _ _ s;show b8 (Q0 ho d (x:=.ref l) rfl ?_);change eH _ _ (if (mh l==rz)=cb then _ else _) _ _ s;rw[ğ (show ¬((mh l==rz)=cb) from l')];change eH _ _ (č (.ref it) 1 >>= _) _ _ s;show b8 (Q0 ho d (x:=.int i 0) rfl ?_);change eH _ _ (Zf (.ref l) >>= _) _ _ s;show b8 (Ri h j ?_);simp only[Lv,f];show b8 (OC (b8 (N1 ho d (by simp) ?_)));change eH _ _ (Zq (.type "StopIteration") [] >>= _) _ _ _;show b8 ?_;simp only[Zq,ċ];show b8 (va ?_ (by size_fits));show b8 (m:=U_ _ _) (Yd (a:=rz) (by first|rfl|(simp only[U_];rfl)) ?_);show va ?_ (by size_fits);simp only[YJ];show b8 (wpAny_handled ?_)
 first|rw[show A.in1.handled=b7 from hh]|rw[hh]
 show b8 (dV (wpAny_throw ?_));show g _ _ (((KA ..).extBut.push _).push _) ⟨_,i4 _ rfl,rfl⟩
end
def qJ(hh:A.handled=b7)(it l:eW)(d:l≠it)(a:Array d4):
  Draws prog w A it [it,l] a.size (λi v=>a[i]?=bD v) (λi h=>h.IsTupleIter it l i/\h.IsTuple l a) where
 live:=λ_ _ st=>let ⟨o,ho,_⟩:=st.1;⟨o,ho⟩
 frame:=λ_ _ _ st hk=>⟨st.1.at λo e=>hk it (by simp) o e,let ⟨o,ho,r⟩:=st.2;⟨o,hk l (by simp) o ho,r⟩⟩
 item:=λi s Q E b st f=>by
  show ja st.1 st.2 (x:=a[i]) (by simp[b]) λh' g c=>?_;show f _ h' s.toks (by simp[b]) ⟨g,let ⟨o,ho,r⟩:=st.2;⟨o,(c.2 l d).trans ho,r⟩⟩ c
 done:=λs Q E st j=>eY hh st.1 st.2 (by simp) j
open AutoSeq1 (wpAny_loadPart') in
def lJ(l:eW)(a:Array d4)(n:Nat)(e:Option eW)(f:Array (Option d4)):
  Meets (OG.«enumerate.__new__» ⟨[.type "enumerate",.ref l],[]⟩) (λ_ R s=>s.heap.get? l=bD {cls:=.type "tuple",dict:=e,data:=.seq a n,slots:=f} /\
   R (.ok (.ret (.ref (s.heap.push {cls:=.type "tuple_iterator",data:=.fields #[.ref l,.int 0 0]}).objs.size)))
    {s with heap:=(s.heap.push {cls:=.type "tuple_iterator",data:=.fields #[.ref l,.int 0 0]}).push {cls:=.type "enumerate",data:=.fields #[.none,.bool cc,.ref s.heap.objs.size,D' 0,.none,.none]}}) :=
 .of_wp λprog w A R s h=>by
  have⟨i,g,d,j,os⟩:=s;have⟨hl,h⟩:=h;have k:=sub_enumerate;have b:Heap.IsTuple (Shared.heap ⟨i,g,d,j,os⟩) l a:=⟨_,hl,rfl,n,rfl⟩
  wp_walk using Ur hl
  show wpAny_stack_any λst=>dV ?_;split
  .rename_i c _ _ _ _ _;cases(c==y1 "enumerate")
   .wp_walk using Ur hl,QQ b
    show⟨_,rfl,h⟩
   .wp_walk using Ur hl,QQ b
    show⟨_,rfl,h⟩
  .wp_walk using Ur hl,QQ b
   show⟨_,rfl,h⟩
section
def gf(g:s.heap.IsTuple l a)
  (h:∀h',Zx h' (s.heap.objs.size+1) s.heap.objs.size 0 .none->h'.IsTupleIter s.heap.objs.size l 0->h'.objs.size=s.heap.objs.size+2 ->
   (∀b o,s.heap.get? b=bD o->h'.get? b=bD o)->Q (.ref (s.heap.objs.size+1)) {s with heap:=h' }) :
  eH (ke prog w) A (PU (.type "enumerate") [.ref l]) Q E s:=by
 obtain⟨⟨c,i,j,k⟩,hl,d,n,e⟩:=g
 replace d:c=.type "tuple":=d
 replace e:j=.seq a n:=e
 subst d e;show callType_new PySem.F.called_enumerate (by decide) (PySem.F.typeCall_enumerate_1 _) (PySem.F.newCall_enumerate_1 _) (λobj=>PySem.F.args_object_init_2 obj _) PySem.F.entry_enumerate_new
  (lJ l a n i k) ⟨hl,?_⟩
 have hz:(s.heap.push {cls:=.type "tuple_iterator",data:=.fields #[.ref l,.int 0 0]}).objs.size=s.heap.objs.size+1:=QE ..;change _/\_;rw[hz];have f:Zx ((s.heap.push {cls:=.type "tuple_iterator",data:=.fields #[.ref l,.int 0 0]}).push
   {cls:=.type "enumerate",data:=.fields #[.none,.bool cc,.ref s.heap.objs.size,D' 0,.none,.none]}) (s.heap.objs.size+1) s.heap.objs.size 0 .none:=by
  have:=i4 (s.heap.push {cls:=.type "tuple_iterator",data:=.fields #[.ref l,.int 0 0]})
   (o:={cls:=.type "enumerate",data:=.fields #[.none,.bool cc,.ref s.heap.objs.size,D' 0,.none,.none]}) rfl
  rw[hz]at this;show this
 show⟨⟨_,f,rfl⟩,h _ f ⟨_,dt _ (i4 _ rfl),rfl,rfl⟩ (by rw[QE,hz]) λb o x=>dt _ (dt _ x)⟩
end
end L2
namespace L2
open PySem PySem.Spec PyProof.Rows
section
def Inv.uK{ch:List eW}(I:Inv X a σ H s)(f:∀b∈ch,iN X a H b)(k:∀b o,b∉ch->s.heap.get? b=bD o->h'.get? b=bD o):Inv X a σ H {s with heap:=h',toks:=t' }:=by
 have g:∀b u,H b=bD u->b∉ch:=λb u e z=>by rw[(f b z).1]at e;cases e
 show I.step (g':=s.gens) (d':=s.drawn) (ch:=ch) (λb h=>?_) (λb o _ _ d e _=>k b o d e) (λb o _ _ d e _=>⟨o.slots,k b o d e⟩) (λ_ _ _ _ n=>n)
  (λb o d e=>⟨o,k b o d e⟩) (λ_ _ e=>e) (λ_ _ _ e=>e) (λb ps e=>⟨#[],by rw[e];simp⟩) (λm i=>?_) (λb u e=>?_) I.bare
 .have⟨w,j,x,l,p,t⟩:=f b h;show⟨l,j,p,t⟩
 .have⟨o,es,ep,ho,r⟩:=i;show⟨o,es,ep,k _ o (λz=>(f _ z).2.1 rfl) ho,r⟩
 .show(I.HN b u e).jA (λc v d q=>k c v ?_ q) (λ_ q=>q) λ_ _ q=>q;rcases d with z|z
  .rw[z];show g b u e
  .show g c _ z
def Inv.sM{ch:List eW}(I:Inv X a σ H s)(h:∀b∈ch,iN X a H b)(k:∀b o,b∉ch->s.heap.get? b=bD o->h'.get? b=bD o)(i:s.heap.objs.size<=T)(new:bP X.prog X.w (upd H T o) h' T o):
  Inv X a σ (upd H T o) {s with heap:=h',toks:=t' }:=by
 have j:Inv X a σ H {s with heap:=h',toks:=t' }:=I.uK h k;have l:H T=b7:=I.HN.fresh i;have p:∀b o,s.heap.get? b=bD o->b≠T:=λb o e z=>by rw[z]at e;show absurd (mf (hH e) i) (H8 _)
 have d:∀b u,H b=bD u->b≠T:=λb u e z=>by rw[z,l]at e;cases e
 show I.step (g':=s.gens) (d':=s.drawn) (ch:=ch) (λb g=>?_) (λb o _ _ f e _=>k b o f e) (λb o _ _ f e _=>⟨o.slots,k b o f e⟩) (λb o _ e n=>by rw[ay (p b o e)];show n)
  (λb o f e=>⟨o,k b o f e⟩) (λb _ e=>by rw[ay (d b _ e)];show e) (λb _ _ e=>by rw[ay (d b _ e)];show e) (λb ps e=>⟨#[],by rw[ay (d b _ e),e];simp⟩) (λm t=>?_) (λb u e=>?_) I.bare
 .have⟨C,x,D,y,A,B⟩:=h b g;show⟨y,x,A,B⟩
 .have⟨o,es,ep,ho,r⟩:=t;show⟨o,es,ep,k _ o (λz=>(h _ z).2.1 rfl) ho,r⟩
 .by_cases g:b=T
  .subst g;rw[aA]at e;cases e;show new
  .rw[ay g]at e;show(j.HN b u e).jA (λc v _ q=>q) (λc q=>by rw[ay (d c _ q)];show q) λc xs q=>by rw[ay (d c _ q)];show q
end
abbrev Oc(a:Hp->List V->Prop):It :=
 ⟨λi H=>∃xs x,a H xs/\xs[i]?=bD x,λi H x H'=>∃p,H p=b7/\x=.ref p/\∀xs v,a H xs->xs[i]?=bD v->H'=upd H p (.tup [.int i,v]),λi H=>∃xs,a H xs/\xs.length<=i⟩
def nW{K:PySem.W.Frag}(n:Hp->List V->Prop)(a e it:eW)(N:e≠it)(At:Nat->Ks->Prop)(r:Ks->Array d4->Prop)
  (I_:∀i h h',At i h->(∀o,h.get? it=bD o->h'.get? it=bD o)->At i h') (Ug:∀i h,At i h->∃o,h.get? it=bD o/\∀v,o.data≠.cell v)
  (Qo:∀(X:Cx) (d:List (eW×Obj)) (s:hY) (σ:St) (H:Hp) (xs:List V),X.K=K->Inv X d σ H s->n H xs->∃its:List d4,Vals xs its/\r s.heap its.toArray)
  (R3:∀(X:Cx) (d:List (eW×Obj)) (s:hY) (σ:St) (H:Hp) (xs t:List V),X.K=K->Inv X d σ H s->n H xs->n H t->xs=t)
  (Qp:∀h c i f,r h c->Zx h e it i f->e≠a)
  (hD:∀(A:OM) (c:Array d4),A.handled=b7->Draws P w A it [it,a] c.size (λi v=>c[i]?=bD v) (λi h=>At i h/\r h c))
  (Mm:∀(A:OM) (s:hY) (i:Nat) (c:Array d4) (Q:d4->hY->Prop) (E:d4->hY->Prop),A.handled=b7->At i s.heap->r s.heap c->c[i]?=b7 ->
   (∀h' x,ë it s.heap h'->(∃o,h'.get? x=bD o/\o.cls=.type "StopIteration")->E (.ref x) {s with heap:=h' })->eH (ke P w) A (KX (.ref it)) Q E s) :
  Turn P w K (.Tuple es kx ps) (Oc n) [e,it] e (λi h=>(∃f,Zx h e it i f)/\At i h) where
 mem:=by simp
 obj:=λi h st b g=>by
  obtain⟨⟨f,j⟩,hl⟩:=st;rcases d6.mp g with z|z
  .rw[z];show⟨_,j,λv z=>by
    have z':ì _=ZK v:=z;cases z'⟩
  .rw[mN.mp z];show Ug i h hl
 keep:=λi h h' ⟨⟨f,j⟩,hl⟩ k=>⟨⟨f,k e (by simp) _ j⟩,I_ i h h' hl λo q=>k it (by simp) o q⟩
 item:=by
  intro X O Y B hc i d s σ H E I C ⟨⟨f,j⟩,hl⟩ hg;subst O Y;have⟨xs,x,G,hx⟩:=hg;have⟨its,rv,p⟩:=Qo X d s σ H xs B I G;have⟨u,hu,ru⟩:=rv.get hx;have Ih:i<its.toArray.size:=by simpa using(et.mp hu).1
  have D:=hD X.A.in1 its.toArray (by simpa using I.ok.hd hc);have R4:=Qp _ _ _ _ p j;show wpAny_pyNext_enum_itemD D j ⟨hl,p⟩ Ih N (by simp[N,R4]) λy h1 l J ho st1 L hsz hk=>?_;have ey:y=u:=by
   have:its.toArray[i]?=bD u:=by simpa using hu
   rw[this]at J;cases J;rfl
  subst ey;show⟨_,rfl,wpAny_letOwnedTupleGo_enum (s:={s with heap:=h1,toks:=l+1}) ho λm Wb JG=>?_⟩;have Uh:e<s.heap.objs.size:=hH j;have Wc:m.get? s.heap.objs.size=bD {cls:=.type "tuple",data:=.seq #[.int i l,y]}:=(JG.2 _ (KN Uh)).trans L;have k2:∀b o,b∉[e,it]->s.heap.get? b=bD o->m.get? b=bD o:=λb o g q=>by
   simp only[d6,Q8,or_false,not_or]at g;show(JG.2 b g.1).trans (hk b o g.1 g.2 q)
  have I2:Inv X d σ (upd H s.heap.objs.size (.tup [.int i,x])) {s with heap:=m,toks:=l+1}:=I.sM C k2 (kb _)
   (show bP X.prog X.w _ m _ (.tup [.int i,x]) from⟨by change 2<=c4;decide,[.int i l,y],.cons ⟨l,rfl⟩ (.cons ru .nil),⟨_,Wc,rfl,_,rfl⟩⟩)
  show⟨.ref s.heap.objs.size,_,I2,rfl,⟨_,I.HN.fresh (kb _),rfl,λt v J hv=>?_⟩,⟨⟨_,Wb⟩,I_ (i+1) h1 m st1.1 λo q=>(JG.2 it (uv N)).trans q⟩,λb g=>?_⟩
  .have:=R3 X d s σ H t xs B I J G;subst this;rw[hx]at hv;cases hv;rfl
  .have J1:b≠s.heap.objs.size:=by
    rcases d6.mp g with z|z
    .rw[z];show ki Uh
    .rw[mN.mp z];obtain⟨o,q,_⟩:=Ug i _ hl;show ki (hH q)
   rw[ay J1];show(C b g).1
 done:=by
  intro X O Y B hc i d s σ H E I C ⟨⟨f,j⟩,hl⟩ hg;subst O Y;have⟨xs,G,hx⟩:=hg;have⟨its,rv,p⟩:=Qo X d s σ H xs B I G;have ab:=rv.length;have L:s.TypeIs (.ref e) "enumerate":=⟨_,j,rfl⟩
  unfold Sw;show b8 (wpAny_attempt (Mc (name:=QX "__next__") L PySem.F.slot_enumerate_next
   (H9 PySem.F.slot_enumerate_next L PySem.F.entry_enumerate_next ?_ (PySem.F.args_enumerate_next_1 _))))
  change eH _ _ (č (.ref e) 2 >>= _) _ _ _;show b8 (Q0 j rfl (x:=.ref it) rfl ?_);show b8 (Mm _ _ i its.toArray _ _ (by simpa using I.ok.hd hc) hl p (by simp;lia) λh' x RH N_=>?_);have⟨o,ho,K6⟩:=N_;show b8 (P5 (T:="StopIteration") (b:=cb) ⟨o,ho,K6⟩ Č ?_);show dV ⟨rfl,I.uK (t':=s.toks) (ch:=[it]) (λb g=>C b (kj _ g)) λb o g q=>RH b o (λz=>g (by simp[z])) q⟩
 self:=λA i s Q E ⟨⟨f,j⟩,hl⟩ h=>Ww j h
section
variable{X:Cx}{es:List oT}{kx:Nat}{ps p pos:Pos}
def wu:JM "enumerate"=bD (.type "enumerate"):=by decide +kernel
abbrev Hv(K:PySem.W.Frag)(c:TA):TI:=λσ H R=>c σ H λvs b=>∃a,vs=[.ref a]/\((∃xs,Iz K b a xs)/\R (Oc λH xs=>Iz K H a xs) b\/(∃xs,Ir K b a xs)/\R (Oc λH xs=>Ir K H a xs) b)
def DH(a e it:eW)(n:e≠it)(q:a≠it):Turn X.prog X.w X.K (.Tuple es kx ps) (Oc λH xs=>Iz X.K H a xs) [e,it] e (λi h=>(∃c,Zx h e it i c)/\h.IsListIter it a i):=by
 show nW _ a e it n (λi h=>h.IsListIter it a i) (λh b=>h.IsList a b) (λi h h' x k=>x.at k) (λi h ⟨o,ho,j,r⟩=>⟨o,ho,λv z=>by rw[r]at z;cases z⟩)
  (λY d s σ H xs g I l=>?_) (λY d s σ H xs C g I f m=>?_) (λh b i c ⟨o,ho,j,_⟩ t z=>?_) (λA b hh=>Draws.list hh it a q b) (λA s i b Q E hh hl u f y=>wpAny_nextOf_list_end hh hl u f y)
 .rw[<-g]at l;have⟨its,rv,p,hz⟩:=I.list l;show⟨its,rv,p.isList⟩
 .rw[<-g]at f m;show I.qj f m
 .rw[<-z,t]at ho;cases ho;have B:y1 "enumerate"=y1 "list":=j;show absurd B (by decide)
def DI(a e it:eW)(n:e≠it)(q:a≠it):Turn X.prog X.w X.K (.Tuple es kx ps) (Oc λH xs=>Ir X.K H a xs) [e,it] e (λi h=>(∃c,Zx h e it i c)/\h.IsTupleIter it a i):=by
 show nW _ a e it n (λi h=>h.IsTupleIter it a i) (λh b=>h.IsTuple a b) (λi h h' x k=>x.at k) (λi h ⟨o,ho,j,r⟩=>⟨o,ho,λv z=>by rw[r]at z;cases z⟩)
  (λY d s σ H xs g I l=>?_) (λY d s σ H xs C g I f m=>?_) (λh b i c ⟨o,ho,j,_⟩ t z=>?_) (λA b hh=>qJ hh it a q b) (λA s i b Q E hh hl u f y=>eY hh hl u f y)
 .rw[<-g]at l;have⟨its,rv,p,hz⟩:=I.tuple l;show⟨its,rv,p⟩
 .rw[<-g]at f m;show I.nG f m
 .rw[<-z,t]at ho;cases ho;have B:y1 "enumerate"=y1 "tuple":=j;show absurd B (by decide)
def A6(n:Gl X "enumerate")(t:X.mg "enumerate"=b7)(v:PA X [a] w)(hs:lx [a] X.env=[(cc,JF a X.env)]):PI X (.Tuple es kx ps) (.Call (.Name "enumerate" p) [a] [] pos) (Hv X.K w):=by
 intro c s σ H R I h;show Call_ (dW I n t wu (KU (HS (v pos c s σ H _ I h) λus s1 ⟨vs,j,d,x,y⟩=>?_) hs rfl));have⟨a',e,q⟩:=y;subst e;have⟨u,rfl,r⟩:=vals1 x;cases r;have f:s1.heap.objs.size+1≠s1.heap.objs.size:=Nat.succ_ne_self _;have g:∀(h':Ks),(∀b∈[s1.heap.objs.size+1,s1.heap.objs.size],iN X c j b):=λh' b A=>by
  have m:s1.heap.objs.size<=b:=by
   rcases d6.mp A with z|z
   .rw[z];show NW _
   .rw[mN.mp z];show kb _
  show d.AD m (d.HN.fresh m)
 rcases q with⟨⟨xs,k⟩,q⟩|⟨⟨xs,k⟩,q⟩
 .have⟨its,rv,p,hz⟩:=d.list k;have l:a'<s1.heap.objs.size:=let ⟨o,ho,_⟩:=p.isList;hH ho;show call_enumerate_list p.isList λh' i hl hsz hk=>?_;show Ww i ⟨_,[s1.heap.objs.size+1,s1.heap.objs.size],_,_,j,rfl,d.kept (t':=s1.toks) hk,DH a' _ _ f (ki l),⟨⟨_,i⟩,hl⟩,g h',q⟩
 .have⟨its,rv,p,hz⟩:=d.tuple k;have l:a'<s1.heap.objs.size:=let ⟨o,ho,_⟩:=p;hH ho;show gf p λh' i hl hsz hk=>?_;show Ww i ⟨_,[s1.heap.objs.size+1,s1.heap.objs.size],_,_,j,rfl,d.kept (t':=s1.toks) hk,DI a' _ _ f (ki l),⟨⟨_,i⟩,hl⟩,g h',q⟩
end
def wx(l:eW)(a:Array d4)(n:Nat)(b:eW)(c:Array d4)(e:Nat)(dd:Option eW)(f:Array (Option d4))(o:¬(!a.isEmpty&&MG (a.size+c.size))=cb)(i:a.size<=c4)(j:a.size+c.size<=c4+1):
  Meets (OG.«list.extend» ⟨[.ref l,.ref b],[]⟩) (λ_ R s=>s.heap.get? l=bD {cls:=.type "list",dict:=b7,data:=.seq a n,slots:=#[]}/\s.heap.get? b=bD {cls:=.type "list",dict:=dd,data:=.seq c e,slots:=f}/\R (.ok (.ret rz)) {s with heap:=s.heap.update l (sL λx=>x++c),toks:=s.toks}) :=
 .of_wp λprog w A R s h=>by
  have⟨p,g,d,q,os⟩:=s;have⟨hl,k,h⟩:=h;have r:=YW;have t:=Wk;have u:=Xw;have v:=Xr;have y:=Xs;
  have m:(a++c).size<=c4+1:=by rw[Vc];show j
  wp_walk using(Uq hl rfl (hz:=i) (_hz':=m)),Pa hl,Pa k;show⟨_,rfl,h⟩
def wy(l:eW)(a:Array d4)(n:Nat)(b:eW)(c:Array d4)(e:Nat)(dd:Option eW)(f:Array (Option d4))(o:¬(!a.isEmpty&&MG (a.size+c.size))=cb)(i:a.size<=c4)(j:a.size+c.size<=c4+1):
  Meets (OG.«list.extend» ⟨[.ref l,.ref b],[]⟩) (λ_ R s=>s.heap.get? l=bD {cls:=.type "list",dict:=b7,data:=.seq a n,slots:=#[]}/\s.heap.get? b=bD {cls:=.type "tuple",dict:=dd,data:=.seq c e,slots:=f}/\R (.ok (.ret rz)) {s with heap:=s.heap.update l (sL λx=>x++c),toks:=s.toks}) :=
 .of_wp λprog w A R s h=>by
  have⟨p,g,d,q,os⟩:=s;have⟨hl,k,h⟩:=h;have r:=YW;have t:=Wk;have u:=Xw;have v:=Xr;have y:=Xs;
  have m:(a++c).size<=c4+1:=by rw[Vc];show j
  wp_walk using(Uq hl rfl (hz:=i) (_hz':=m)),Pa hl,Pa k;show⟨_,rfl,h⟩
section
def sN:Ru X "list.extend" (λx vs H Q=>∃l b xs c,x=.ref l/\vs=[.ref b]/\H l=bD (.lst xs)/\(Iz X.K H b c\/Ir X.K H b c)/\xs.length+c.length<=c4/\Q .HX (upd H l (.lst (xs++c)))):=by
 intro f s σ H x vs v us Q I y rv h;have⟨l,b,xs,c,rfl,rfl,t,hB,hz,q⟩:=h;cases y;have⟨u,rfl,A⟩:=rv.one;cases A;have⟨z,its,n,r,hl,e⟩:=I.Dt t;have g:∀a:List d4,Vals c a->EP X f σ Q rz {s with heap:=s.heap.update l (sL λx=>x++a.toArray),toks:=s.toks}:=λa d=>by
  show⟨.HX,_,I.m8 (its':=its++a) t e (by simp) (r.append d) ?_,rfl,q⟩;rw[gs];lia
 have k:∀a:List d4,c.length=a.length->its.toArray.size+a.toArray.size<=c4:=λa h=>by rw[i5,i5];lia
 have w:∀a:List d4,c.length=a.length->¬(!its.toArray.isEmpty&&MG (its.toArray.size+a.toArray.size))=cb:=λa h=>by
  rw[x6 (k a h),XE];show l'
 rcases hB with hB|hB
 .obtain⟨a,d,m,_⟩:=I.list hB;obtain⟨⟨cls,dd,data,o⟩,ho,i,p,j⟩:=m.isList;simp only at i j;subst i j;have Kr:=d.length;have B:=k a Kr;show QS ZW ⟨_,e,rfl⟩ ZJ (Zz _ _) (wx l its.toArray n b a.toArray p dd o (w a Kr) ⋯ ⋯) ⟨e,ho,g a d⟩
 .obtain⟨a,d,m,_⟩:=I.tuple hB;obtain⟨⟨cls,dd,data,o⟩,ho,i,p,j⟩:=m;simp only at i j;subst i j;have Kr:=d.length;have B:=k a Kr;show QS ZW ⟨_,e,rfl⟩ ZJ (Zz _ _) (wy l its.toArray n b a.toArray p dd o (w a Kr) ⋯ ⋯) ⟨e,ho,g a d⟩
end
end L2
namespace L2
open PySem PySem.W PyProof.Rows
abbrev iz{α:Type}(lt:Nat->Nat->Bool):KasT α->α
 |.ret x=>x
 |.ask i j k=>iz lt (k (lt i j))
def Jk{α:Type}(n:Nat)(P:α->Prop):KasT α->Prop
 |.ret x=>P x
 |.ask i j k=>i<n/\j<n/\∀b,Jk n P (k b)
theorem Jk.Oe{P:α->Prop}{Q:β->Prop}{f:α->KasT β}(a:∀x,P x->Jk n Q (f x)):∀{t:KasT α},Jk n P t->Jk n Q (t.bind f)
 |.ret x,h=>a x h
 |.ask i j k,h=>⟨h.1,h.2.1,λb=>Jk.Oe a (h.2.2 b)⟩
theorem Jk.got:∀{t:KasT α},Jk n P t->P (iz lt t)
 |.ret _,h=>h
 |.ask i j k,h=>Jk.got (t:=k (lt i j)) (h.2.2 _)
theorem Jk.wp(b:∀i j,i<n->j<n->∀C:Bool->hY->Prop,C (lt i j) s->a i j C s):
  ∀{t:KasT α},Jk n P t->Q (iz lt t) s->t.kasWp a Q s
 |.ret _,_,q=>q
 |.ask i j k,h,q=>b i j h.1 h.2.1 _ (Jk.wp b (t:=k (lt i j)) (h.2.2 _) q)
abbrev Pm(n:Nat)(p:Array Nat):Prop:=p.toList.Perm (js n)
section
variable{n:Nat}(hn:0<n)
include hn
def Pm.at(h:Pm n p)(i:Nat):p.getD i 0<n:=by
 by_cases a:i<p.size
 .have:p.getD i 0=p[i]:=by simp[ø,a]
  rw[this];have b:p[i]∈p.toList:=by simp
  show wh.mp (h.mem_iff.mp b)
 .have:p.getD i 0=0:=by simp[ø,a]
  rw[this];show hn
omit hn in
def Pm.rev(h:Pm n p)(i j:Nat):Pm n (kas_rev p i j):=(mirror_perm p i j _).toList.trans h
omit hn in
def Pm.Wd(h:Pm n p)(i j:Nat):Pm n (bubble p i j):=(bubble_perm p i j).toList.trans h
theorem sO(h:Pm n p):∀(f m:Nat),Jk n (λ_=>True) (kas_asc p f m)
 |0,m=>trivial
 |f+1,m=>⟨h.at hn _,h.at hn _,λb=>by
  cases b
  .show sO h f (m+1)
  .show trivial⟩
theorem kN:∀(f:Nat) (p:Array Nat) (m q:Nat),Pm n p->Jk n (λr=>Pm n r.1) (kas_desc f p m q)
 |0,p,m,q,h=>h
 |f+1,p,m,q,h=>⟨h.at hn _,h.at hn _,λb=>by
  cases b
  .show⟨h.at hn _,h.at hn _,λb=>by
    cases b
    .show kN f p (m+1) (q+1) h
    .show h⟩
  .change Jk n _ (if q>0 then _ else _);split
   .show kN f _ _ _ (h.rev _ _)
   .show kN f _ _ _ h⟩
def uL(h:Pm n p)(m r:Nat):Jk n (λx=>Pm n x.2) (kas_tail3 m r p):=by
 unfold kas_tail3;show Jk.Oe (λx _=>?_) (sO hn (h.rev _ _) _ _);show h.rev _ _
def uM(h:Pm n p)(m r:Nat):Jk n (λx=>Pm n x.2) (kas_descPart m r p):=by
 unfold kas_descPart;show Jk.Oe (λx a=>?_) (kN hn _ _ _ _ h);split
 .show uL hn (a.rev _ _) _ _
 .show uL hn a _ _
def yq(h:Pm n p)(r:Nat):Jk n (λx=>Pm n x.2) (kas_count r p):=by
 unfold kas_count;show Jk.Oe (λm _=>?_) (sO hn h _ _);split
 .show h
 .split
  .show⟨h.at hn _,h.at hn _,λb=>by
    cases b
    .show uM hn (h.rev _ _) _ _
    .show h⟩
  .show uM hn h _ _
theorem lK(h:Pm n p)(k:Nat):∀(f l r:Nat),Jk n (λ_=>True) (kas_place p k f l r)
 |0,l,r=>trivial
 |f+1,l,r=>by
  unfold kas_place;split
  .show trivial
  .show⟨h.at hn _,h.at hn _,λb=>by
    cases b
    .show lK h k f _ _
    .show lK h k f _ _⟩
theorem yr:∀(f:Nat) (p:Array Nat) (k:Nat),Pm n p->Jk n (Pm n) (kas_bin f p k)
 |0,p,k,h=>h
 |f+1,p,k,h=>Jk.Oe (λl _=>yr f _ _ (h.Wd _ _)) (lK hn h _ _ _ _)
def uN:Jk n (Pm n) (OP n):=by
 unfold OP;show Jk.Oe (λx a=>?_) (yq hn (p:=List.toArray (js n)) (by unfold Pm;simp) n);split
 .show yr hn _ _ _ a
 .show a
end
def lL(lt:Nat->Nat->Bool)(n:Nat):(iz lt (OP n)).toList.Perm (js n):=by
 cases n with
 |zero=>show List.Perm.refl _
 |succ n=>show(uN (Nat.succ_pos n)).got
section
def wz(ho:s.heap.get? a=bD (Iu "list" vs.toArray n))(l:vs.length<64)
  (m:2<=vs.length->∀s1:hY,(∀b o,b≠a->s.heap.get? b=bD o->s1.heap.get? b=bD o)->eH (ke prog w) A (keyKind' vs.toArray) (λκ s'=>s'=s1/\∀i j,i<vs.length->j<vs.length->∀C:Bool->hY->Prop,C (lt i j) s1->ß prog w A κ vs i j C s1) (λ_ _=>False) s1)
  (h:P (.done (.ret .none)) {s with heap:=Í s.heap a vs (((iz lt (OP vs.length)).toList.map λi=>vs.getD i rz).toArray)}) :
  eH (ke prog w) A (OG.«list.sort» ⟨[.ref a],[]⟩) P E s:=by
 have N:a<s.heap.objs.size:=hH ho;have u:(64:Nat)<=c4:=by decide
 rw[list_sort_plain];show b8 (ZD ho rfl (b8 (VO ho rfl ?_ (by rw[i5];lia) (mA _))));obtain⟨k,q⟩:∃k,(s.heap.update a (sL λ_=>(#[]:Array d4))).get? a=bD (Iu "list" #[] k):=⟨_,Ā ho λ_=>#[]⟩
 show b8 (Z2 q rfl (b8 (wpAny_newTuple (b8 (Y2 (DD ?_) (mA _))) (by change vs.length<=_;lia))));have d:(((s.heap.update a (sL λ_=>(#[]:Array d4))).push (Iu "tuple" vs.toArray 0)).push (Iu "list" #[] 0)).get? a=bD (Iu "list" #[] k):=dt _ (dt _ q);have f:∀b o,b≠a->s.heap.get? b=bD o->(((s.heap.update a (sL λ_=>(#[]:Array d4))).push (Iu "tuple" vs.toArray 0)).push (Iu "list" #[] 0)).get? b=bD o:=λb o y e =>
  dt _ (dt _ (by rw[PV _ _ _ _ y];show e))
 change eH (ke prog w) A _ P E {s with heap:=((s.heap.update a (sL λ_=>(#[]:Array d4))).push (Iu "tuple" vs.toArray 0)).push (Iu "list" #[] 0)}
 dsimp only
 have r:((iz lt (OP vs.length)).toList.map λi=>vs.getD i rz).length=vs.length:=by rw[cK,(lL lt _).length_eq,MW]
 by_cases c:vs.toArray.size<2
 .rw[ĝ c,ĝ c];show b8 (dV ?_);rw[StateT.run_pure];show b8 (dV ?_);have z:((iz lt (OP vs.length)).toList.map λi=>vs.getD i rz).toArray=(vs.toArray.zip vs.toArray).map (·.2):=by
   have g:=lL lt vs.length;clear h m r f d ho l
   match vs,c,g with
   |[],_,g=>rw[show(iz lt (OP ([]:List d4).length)).toList=[] from List.perm_nil.mp g];simp
   |[v],_,g=>rw[show(iz lt (OP [v].length)).toList=[0] from List.perm_singleton.mp g];simp
   |_::_::_,c,_=>simp at c;lia
  rw[z]at h
  dsimp only
  show b8 (Z2 d rfl (b8 (VO d rfl ?_ (mA _) (by rw[Array.size_map];change(pairsOf vs).size<=_;rw[pairsOf_size];lia))));simp only[bne_self_eq_false,td,Ĥ];show dV h
 .rw[ğ c,ğ c];have t:2<=vs.length:=by rw[i5]at c;lia
  show b8 (ti (m t _ f) (λκ O hk=>?_) λ_ _ x=>x.elim);have⟨rfl,hk⟩:=hk;show b8 (ti (kat_run (κ:=κ) (ks:=vs) (vs:=vs) (G:=λp s'=>p=iz lt (OP vs.length)/\s'={s with heap:=((s.heap.update a (sL λ_=>(#[]:Array d4))).push (Iu "tuple" vs.toArray 0)).push (Iu "list" #[] 0)})
   (Q:=λst' s'=>∃p:Array Nat,arrOf st'=p.map (kas_item (vs.toArray.zip vs.toArray))/\failedOf st'=b7/\p=iz lt (OP vs.length)/\s'={s with heap:=((s.heap.update a (sL λ_=>(#[]:Array d4))).push (Iu "tuple" vs.toArray 0)).push (Iu "list" #[] 0)})
   rfl t l (λp st' s' T B D H=>⟨p,B,D,H⟩) (Jk.wp hk (uN ⋯) ⟨rfl,rfl⟩)) ?_ λ_ _ e=>e)
  rintro⟨⟨⟩,st'⟩ s' ⟨p,I,J,rfl,rfl⟩
  dsimp only
  have L:=kat_snds rfl I;rw[L,J];show b8 (Z2 d rfl (b8 (VO d rfl ?_ (mA _) (by rw[i5,r];lia))));simp only[bne_self_eq_false,td,Ĥ];show dV h
end
@[reducible]def A7:=Str×Int
abbrev MX(ks:List Str)(i j:Nat):Bool:=df ((ks.getD i ri).cps.toList<(ks.getD j ri).cps.toList)
abbrev kG(ks:List Str):List Nat:=(iz (MX ks) (OP ks.length)).toList
def gM(ks:List Str):(kG ks).Perm (js ks.length):=lL _ _
abbrev FL(x:Str)(n:Int)(t u:Tok):Obj:={cls:=.type "tuple",data:=.seq #[.str x t,.int n u]}
abbrev fR(h:Ks)(as:List eW)(ps:List A7):Prop:=as.length=ps.length/\∀(j:Nat) (a:eW),as[j]?=bD a->∃p t u,ps[j]?=bD p/\h.get? a=bD (FL p.1 p.2 t u)
def fR.keeps(x:fR h as ps)(k:∀b o,b∈as->h.get? b=bD o->h'.get? b=bD o):fR h' as ps :=
 ⟨x.1,λj a e=>let ⟨p,t,u,c,d⟩:=x.2 j a e;⟨p,t,u,c,k a _ (pb e) d⟩⟩
def fR.tail(x:fR h (a::as) (p::ps)):fR h as ps :=
 ⟨by have:=x.1;simpa using this,λj b e=>by
  have⟨q,t,u,c,d⟩:=x.2 (j+1) b (by simpa using e);show⟨q,t,u,by simpa using c,d⟩⟩
theorem fR.gZ:∀{as:List eW}{ps:List A7},fR h as ps->∃b:List d4,KatTups h (as.map mh) b/\b.length=as.length/\∀v∈b,∃x t,v=H_ x t
 |[],_,_=>⟨[],KatTups.nil,rfl,by simp⟩
 |a::as,[],x=>by have:=x.1;simp at this
 |a::as,p::ps,x=>by
  have⟨b,c,d,e⟩:=fR.gZ x.tail;have⟨q,t,u,g,f⟩:=x.2 0 a rfl;show⟨.str q.1 t::b,KatTups.cons f rfl rfl rfl c,by simp[d],λv hv=>?_⟩;rcases d6.mp hv with rfl|hv
  .show⟨_,_,rfl⟩
  .show e v hv
theorem nX:∀{l:List α}{m:List β}{i:Nat}{x:α},Paired F l m->l[i]?=bD x->∃y,m[i]?=bD y/\F x y
 |_,_,_,_,.nil,e=>by simp at e
 |_,_,0,_,.cons r _,e=>by simp at e;subst e;show⟨_,rfl,r⟩
 |_,_,i+1,x,.cons _ t,e=>by
  have⟨u,a,b⟩:=nX (i:=i) (x:=x) t (by simpa using e);show⟨u,by simpa using a,b⟩
section
def DJ(x:fR s.heap as ps)(g:(ps.map (·.1)).Nodup)(e:i<as.length)(f:j<as.length)(q:C (MX (ps.map (·.1)) i j) s):
  ß prog w A (tuples' cb) (as.map mh) i j C s:=by
 have⟨p,t,u,d,k⟩:=x.2 i as[i] (by simp[e]);have⟨a,t',u',c,l⟩:=x.2 j as[j] (by simp[f]);have hl:=x.1;have m:i<ps.length:=by lia
 have n:j<ps.length:=by lia
 have o:(as.map mh).getD i rz=.ref as[i]:=by simp[R0,e]
 have r:(as.map mh).getD j rz=.ref as[j]:=by simp[R0,f]
 have v:(ps.map (·.1)).getD i ri=p.1:=by simp[R0,d]
 have y:(ps.map (·.1)).getD j ri=a.1:=by simp[R0,c]
 unfold ß;rw[o,r];show kat_lt (b:=cb) k rfl l rfl ?_;unfold MX at q;rw[v,y]at q;change KatLex prog w A cb (df (2<2)) C [(.str p.1 t,.str a.1 t'),(.int p.2 u,.int a.2 u')] 0 s;show kat_cons (æ ?_);by_cases h:p.1=a.1
 .have z:i=j:=by
   have B:(ps.map (·.1))[i]'(by simpa using m)=(ps.map (·.1))[j]'(by simpa using n):=by
    obtain⟨_,D⟩:=et.mp d;obtain⟨_,G⟩:=et.mp c;simp[D,G,h]
   show(ZP g).mp B
  subst z;rw[d]at c;cases c;rw[Ġ rfl];show kat_yes (kat_cons (ç ?_));rw[show(p.2==p.2)=cb by simp];show kat_yes (kat_nil ?_);have:df (p.1.cps.toList<p.1.cps.toList)=cc:=Ğ (List.lt_irrefl _);rw[this]at q;show q
 .rw[Ğ h];show kat_no (oneLt_str q)
def DK(x:fR s.heap as ps)(c:(ps.map (·.1)).Nodup)(g:2<=as.length):
  eH (ke prog w) A (keyKind' (as.map mh).toArray) (λκ s'=>s'=s/\∀i j,i<(as.map mh).length->j<(as.map mh).length->∀C:Bool->hY->Prop,C (MX (ps.map (·.1)) i j) s->ß prog w A κ (as.map mh) i j C s) (λ_ _=>False) s:=by
 have⟨h,d,k,e⟩:=x.gZ;show kat_kind (T:=.type "str") d ⋯ (λv f=>?_) rfl ⟨rfl,λi j a b C q=>?_⟩
 .have⟨y,t,rfl⟩:=e v f;show Looks.of_pure rfl
 .rw[cK]at a b;show DJ x c a b q
end
abbrev kH(H:Hp):List (eW×List V)->Hp
 |[]=>H
 |(a,vs)::r=>upd (kH H r) a (.tup vs)
theorem lM:∀{l:List (eW×List V)}{b:eW}{o:HO},kH H l b=bD o->(∃vs,(b,vs)∈l/\o=.tup vs)\/H b=bD o
 |[],b,o,h=>.inr h
 |(a,vs)::r,b,o,h=>by
  by_cases c:b=a
  .subst c;rw[kH,aA]at h;cases h;show .inl ⟨vs,by simp,rfl⟩
  .rw[kH,ay c]at h;rcases lM h with⟨ws,d,e⟩|q
   .show .inl ⟨ws,by simp[d],e⟩
   .show .inr q
theorem lN:∀{l:List (eW×List V)}{b:eW},(∀p∈l,p.1≠b)->kH H l b=H b
 |[],b,_=>rfl
 |(a,vs)::r,b,h=>by
  rw[kH,ay (uv (h _ lg))];show lN λp c=>h p (by simp[c])
theorem uO:∀{l:List (eW×List V)}{b:eW}{vs:List V},(l.map (·.1)).Nodup->(b,vs)∈l->kH H l b=bD (.tup vs)
 |(a,ws)::r,b,vs,d,h=>by
  have c:a∉r.map (·.1)/\(r.map (·.1)).Nodup:=by simpa using d
  rcases d6.mp h with h|h
  .cases h;show aA
  .have:b≠a:=λz=>c.1 (by rw[<-z];show ez.mpr ⟨_,h,rfl⟩);rw[kH,ay this];show uO c.2 h
section
def Inv.many(I:Inv X a σ H s)(k:∀b u,s.heap.get? b=bD u->h'.get? b=bD u)(d:∀b o,H b=bD o->H' b=bD o)
  (f:∀b o,H' b=bD o->H b=bD o\/(s.heap.objs.size<=b/\bP X.prog X.w H' h' b o)):Inv X a σ H' {s with heap:=h',toks:=t' }:=by
 show I.un ⟨λb u q _ _ _=>k b u q,λb u q _ _ _=>⟨u.slots,k b u q⟩,λb u q n _=>?_,λb u q _=>⟨u,k b u q⟩,λb xs q=>d b _ q,λb u xs q=>d b _ q,λb ps q=>⟨#[],by rw[d b _ q];simp⟩⟩ λb o e=>?_
 .cases e:H' b with
  |none=>rfl
  |some o =>
   rcases f b o e with z|⟨z,_⟩
   .rw[n]at z;cases z
   .show absurd (mf (hH q) z) (H8 _)
 .rcases f b o e with z|⟨_,z⟩
  .show(I.HN b o z).jA (λc v _ q=>k c v q) (λc q=>d c _ q) λc xs q=>d c _ q
  .show z
abbrev L9(p:A7):List V:=[.str p.1,.int p.2]
def pv{ps:List A7}(hc:X.calm=cb)(I:Inv X g σ H s)(e:H d=bD (.dK (ps.map λp=>((oa p.1:Key),V.int p.2))))(HW:(ps.map (·.1)).Nodup)(K8:ps.length<64)
  (q:∀(as:List eW) (L:eW),as.length=ps.length->as.Nodup->(∀a∈L::as,H a=b7)->L∉as->Q (.ref L) (upd (kH H (as.zip (ps.map L9))) L (.lst ((kG (ps.map (·.1))).map λi=>V.ref (as.getD i 0))))) :
  eH (ke X.prog X.w) X.A (PU (.builtin "dict.items") [.ref d]) (λv s1=>eH (ke X.prog X.w) X.A (PU (.builtin "sorted") [v]) (EP X g σ Q) X.xe s1) X.xe s:=by
 have ab:(64:Nat)<=c4:=by decide
 have⟨hz,lo,vs,kv,dd⟩:=x_ I.HN e;have C:vs.length=ps.length:=by
  have:=Paired.length kv;simpa using this.symm
 have⟨o,es,ep,r⟩:=id dd;show Zs PySem.F.slot_dict_items (show s.TypeIs (.ref d) "dict" from⟨o,r.1,r.2.1.1⟩) PySem.F.entry_dict_items (PySem.F.args_dict_items_1 _) (meets_dict_items (aT X.prog X.w) d lo) ⟨⟨vs,dd⟩,?_⟩;change eH (ke X.prog X.w) X.A (PU (.builtin "sorted") [.ref s.heap.objs.size]) (EP X g σ Q) X.xe {s with heap:=s.heap.push {cls:=.type "dict_items",data:=.fields #[.ref d]}};have k1:∀b u,s.heap.get? b=bD u->(s.heap.push {cls:=.type "dict_items",data:=.fields #[.ref d]}).get? b=bD u:=λb u z=>dt _ z;have X5:(s.heap.push {cls:=.type "dict_items",data:=.fields #[.ref d]}).DictOf (aT X.prog X.w) d vs:=⟨o,es,ep,k1 _ _ r.1,r.2⟩
 have I_:(s.heap.push {cls:=.type "dict_items",data:=.fields #[.ref d]}).DictAt (aT X.prog X.w) d vs ep:=⟨o,es,k1 _ _ r.1,r.2⟩
 show Xu kind_sorted plain_sorted entry_sorted (args_sorted1 _) ?_;unfold OG.«sorted»;show b8 (m:=checkCount "sorted" 1 1 _) (dV ?_);show b8 (kdx_collect (A:=X.A.in1) (knd:=aT X.prog X.w) (kvs:=vs) (ep:=ep) (I.ok.hd hc) ⟨_,i4 _ rfl,rfl,rfl⟩ I_ ⋯ λc tk as hk hl D=>?_);have G:as.length=ps.length:=hl.trans C;have f:∀a∈as,s.heap.objs.size<=a:=λa ha=>by
  have:=D.above a ha;have z:(s.heap.push {cls:=.type "dict_items",data:=.fields #[.ref d]}).objs.size=s.heap.objs.size+1:=MO ..;have Uk:(s.heap.push {cls:=.type "dict_items",data:=.fields #[.ref d]}).objs.size<a:=this;lia
 have pa:fR c as ps:=⟨G,λj a ea=>by
  have⟨key,k,x,N,O,e3⟩:=D.pairs j a ea;have B:j<ps.length:=by rw[<-G];show(et.mp ea).1
  have⟨y,ey,r1,r2⟩:=nX kv (i:=j) (x:=((oa ps[j].1:Key),V.int ps[j].2)) (by simp[B]);rw[N]at ey;cases ey;obtain⟨tx,rfl⟩:∃t,x=.int ps[j].2 t:=r2;have Wg:k=oa ps[j].1:=r1.symm;subst Wg;have⟨t,rfl⟩:=YU (x:=ps[j].1) (v:=key) O;show⟨ps[j],t,tx,by simp[B],e3⟩⟩
 have nd:as.Nodup:=D.rise.imp λh=>ki h;show b8 (Y2 ?_ (by rw[cK];lia));have T:(c.push (Iu "list" (as.map mh).toArray 0)).get? c.objs.size=bD (Iu "list" (as.map mh).toArray 0):=i4 _ rfl;change eH _ _ _ _ _ {s with heap:=c.push (Iu "list" (as.map mh).toArray 0),toks:=tk};have Ul:∀a∈as,a<c.objs.size:=λa ha=>D.there ha;show b8 (DD (H9 Ė ⟨_,T,rfl⟩ ā (wz (lt:=MX (ps.map (·.1))) T (by rw[cK];lia) (λh2 s1 ks=>?_) ⟨_,rfl,?_⟩) (Ě _)))
 .show DK (pa.keeps λb o J z=>ks b o (ki (Ul b J)) (dt _ z)) HW (by rw[cK]at h2;show h2)
 .have⟨ee,he⟩:=Y9 (out:=((iz (MX (ps.map (·.1))) (OP (as.map mh).length)).toList.map λi=>(as.map mh).getD i rz).toArray) T;have n:∀b o,c.get? b=bD o->(Í (c.push (Iu "list" (as.map mh).toArray 0)) c.objs.size (as.map mh) ((iz (MX (ps.map (·.1))) (OP (as.map mh).length)).toList.map λi=>(as.map mh).getD i rz).toArray).get? b=bD o:=λb o z=>by
   have Ih:b<c.objs.size:=hH z;rw[YO (ki Ih) (by rw[MO];show K3 Ih)];show dt _ z
  have J4:s.heap.objs.size<=c.objs.size:=M3 (hH (hk _ _ (i4 _ rfl)));have eP:((iz (MX (ps.map (·.1))) (OP (as.map mh).length)).toList)=kG (ps.map (·.1)):=by
   unfold kG;rw[cK,cK,G]
  have Of:H c.objs.size=b7:=I.HN.fresh J4;have Wh:c.objs.size∉as:=λz=>H8 _ (Ul _ z);have Um:∀a∈as,H a=b7:=λa ha=>I.HN.fresh (f a ha);have R7:∀{b:eW} {ws:List V},(b,ws)∈as.zip (ps.map L9)->b∈as:=λz=>(Rz z).1;show dV ⟨_,rfl,.ref c.objs.size,upd (kH H (as.zip (ps.map L9))) c.objs.size (.lst ((kG (ps.map (·.1))).map λi=>V.ref (as.getD i 0))),?_,rfl,q as _ G nd (λa ha=>?_) Wh⟩
  .show I.many (λb u z=>n b u (hk b u (k1 b u z))) (λb o z=>?_) λb o z=>?_
   .have n1:b≠c.objs.size:=λy=>by rw[y,Of]at z;cases z
    rw[ay n1,lN λp hp y=>?_]
    .show z
    .have:=Um p.1 (R7 (b:=p.1) (ws:=p.2) hp);rw[y,z]at this;cases this
   .by_cases J:b=c.objs.size
    .subst J;rw[aA]at z;cases z;show .inr ⟨J4,by rw[cK,(gM _).length_eq,MW,cK];lia,(kG (ps.map (·.1))).map λi=>(as.map mh).getD i rz,ee,?_,?_⟩
     .have Y:∀i∈kG (ps.map (·.1)),i<as.length:=λi hi=>by
       have:=wh.mp ((gM _).mem_iff.mp hi);rw[cK]at this;lia
      generalize kG (ps.map (·.1))=l at Y;induction l with
      |nil=>show .nil
      |cons i l ih =>
       show .cons ?_ (ih λj B=>Y j (by simp[B]));have hi:=Y i (by simp);change RelV (.ref (as.getD i 0)) ((as.map mh).getD i rz);have:(as.map mh).getD i rz=.ref (as.getD i 0):=by simp[R0,hi]
       rw[this];rfl
     .rw[<-eP];show he
    .rw[ay J]at z;rcases lM z with⟨ws,z1,rfl⟩|z1
     .have⟨j,B,ej⟩:=YZ.mp z1;have R8:j<as.length:=by simp at B;lia
      have R6:j<ps.length:=by lia
      have Wi:as[j]=b/\L9 ps[j]=ws:=by simpa using ej
      have⟨rfl,rfl⟩:=Wi;have⟨p,t,u,N,O⟩:=pa.2 j as[j] (by simp[R8]);have:p=ps[j]:=by simpa[R6] using N.symm
      subst this;show .inr ⟨f _ (by simp),by change 2<=c4;lia,[.str ps[j].1 t,.int ps[j].2 u],.cons ⟨t,rfl⟩ (.cons ⟨u,rfl⟩ .nil),_,n _ _ O,rfl,0,rfl⟩
     .show .inl z1
  .rcases d6.mp ha with rfl|ha
   .show Of
   .show Um a ha
end
section
end
section
def yt:X.calm=cb->fX X (.builtin "any") (λxs H Q=>∃(p:eW) (bs:List Bool),xs=[.ref p]/\Iz X.K H p (bs.map V.bl)/\Q (.bl (bs.any id)) H):=by
 intro g d s σ H xs us Q I rs h;have⟨p,bs,rfl,j,q⟩:=h;have⟨u,rfl,r⟩:=vals1 rs;cases r;have⟨its,rv,c,hz⟩:=I.list j;have e:=f_ rv;subst e;have k:p<s.heap.objs.size:=by obtain⟨_,_,e,_⟩:=c;show hH e
 show call_any_walk (Rj c.isList ?_);show⟨s.heap.objs.size,[s.heap.objs.size,p],[s.heap.objs.size],(bs.map NJ).toArray.size,_,_,λi=>(bs[i]?).getD cc,rfl,UN (A:=X.A.in1) (I.ok.hd g) _ p (ki k) (bs.map NJ).toArray,
  ⟨⟨_,i4 _ rfl,rfl,rfl⟩,c.isList.push _⟩,λi v s' Q' n l f=>?_,λh' m hk=>?_⟩
 .have a:(bs.map NJ)[i]?=bD v:=by simpa using l
  rw[my]at a;cases e:bs[i]? with
  |none=>rw[e]at a;cases a
  |some b =>
   rw[e]at a;cases a;simp only[e,Zk]at f;show Jt f
 .have e:((js (bs.map NJ).toArray.size).any λi=>(bs[i]?).getD cc)=bs.any id:=by
   rw[i5,cK];show Z_ bs
  rw[e];show⟨.bl _,H,I.kept (t':=m) (TL hk),rfl,q⟩
end
section
def pw:YH (.type "list") "keys"=pure b7:=am_miss_of_fast (by decide +kernel)
theorem pz(hx:s.heap.get? a=bD {cls:=.type "list",dict:=b7,data:=.seq xs k,slots:=sl})(hA:A.handled=b7)
    (h:∀h' tk,(∀b ob,s.heap.get? b=bD ob->h'.get? b=bD ob)->Q b7 {s with heap:=h',toks:=tk}):eH (ke prog w) A (getAttr? (.ref a) "keys") Q E s:=by
  obtain⟨hp,g,d,tk,os⟩:=s;have hT:∀Ql,(⟨hp,g,d,Ql,os⟩:hY).TypeIs (.ref a) "list":=λ_=>⟨_,hx,rfl⟩
  have f1:=sub_AttributeError;have f3:=PySem.F.slot_list_getattribute.lookup;have f4:=PySem.F.slot_list_getattribute.bind (.ref a);have f5:=am_list_getattr_none;have big:(1000:Nat)<=c4:=by decide
  have hk : (("keys" : Str)).length + 100 ≤ sizeLine := by have : ("keys" : Str).length = 4 := by decide
                                                           lia
  unfold getAttr? getAttrBy? getAttrBy
  repeat (any_goals (first|assumption|exact hT _|((with_reducible show eH _ _ (PU (Z8 "list.__getattribute__") _ _) _ _ _);refine QS PySem.F.slot_list_getattribute (hT _) am_entry_list_getattribute (PySem.F.args_list_getattribute_2 _ _) (meets_getattribute_miss_list a xs k sl "keys" _ pw (by decide) hk) ⟨hx,hA,λh' Ql e N_=>?_⟩)|wp_step))
  obtain⟨t',u',he⟩:=N_.there;show eH _ _ (Ê _ _ _ _ _ _ _) _ _ _;unfold Ê
  repeat (any_goals (first|assumption|wp_step))
  exact h _ _ N_.keeps
def gh:ZU table "dict.update.loop"=bD OG.«dict.update.loop»:=é (by kernel_rfl)
def cX:plainId "dict.update.loop"=cb:=by decide +kernel
abbrev A8(prog:w6)(w:Ie)(d I:eW)(its:Array d4)(ps:List (Key×d4))(h:Ks):Prop:=∀(j:Nat) p,ps[j]?=bD p->∃a o e key,its[j]?=bD (.ref a)/\a≠d/\a≠I/\h.get? a=bD o/\o.cls=.type "tuple"/\o.data=.seq #[key,p.2] e/\(aT prog w).is p.1 key=cb
def A8.keep(x:A8 prog w d I its ps h)(k:∀b o,b≠d->b≠I->h.get? b=bD o->h'.get? b=bD o):A8 prog w d I its ps h':=λj p e=>by
 have⟨a,o,n,key,g,c,f,i,l⟩:=x j p e;show⟨a,o,n,key,g,c,f,k a o c f i,l⟩
def yu(hh:A.handled=b7)(G:ax≠I)(t:d≠I)(RQ:ax≠d)(hz:ps.length<=c4)(hl:its.size=ps.length):
  ∀(k i:Nat) (s:hY) (acc:List (Key×d4)),ps.length - i=k->i<=ps.length->s.heap.IsListIter I ax i->s.heap.IsList ax its->acc.length<=i->A8 prog w d I its ps s.heap->s.heap.DictOf (aT prog w) d acc->(acc.map (·.1)++(ps.drop i).map (·.1)).Nodup ->
  (∀h' m,h'.DictOf (aT prog w) d (acc++ps.drop i)->(∀b o,b≠d->b≠I->s.heap.get? b=bD o->h'.get? b=bD o)->R (.ok (.ret res)) {s with heap:=h',toks:=m}) ->
  Sq (ke prog w) A (.builtin "dict.update.loop" ⟨[.ref d,.ref I,D' i,res],[]⟩) R s:=by
 intro k;induction k with
 |zero =>
  intro i s acc hk hi f u Pc H y h j;have ID:i=its.size:=by lia
  subst ID;show Ke gh ?_;rw[KH cX _];change eH _ A.in1 (Sw (.ref I) >>= _) _ _ s;show b8 ((UN (A:=A.in1) hh I ax G its).done s _ _ ⟨f,u⟩ λh' m B=>?_);have e0:ps.drop its.size=[]:=Tr ⋯;rw[e0,vu]at j;have g:∀b o,b≠I->s.heap.get? b=bD o->h'.get? b=bD o:=λb o c e=>B b o (by simpa using c) e;show b8 (dV (dV (j h' m ?_ λb o _ c e=>g b o c e)));have⟨o,es,ep,ho,r⟩:=y;show⟨o,es,ep,g d o t ho,r⟩
 |succ k ih =>
  intro i s acc hk hi f u Pc H y h j;have n:i<ps.length:=by lia
  obtain⟨p,J⟩:∃p,ps[i]?=bD p:=⟨ps[i],by simp[n]⟩
  show Ke gh ?_;rw[KH cX _];change eH _ A.in1 (Sw (.ref I) >>= _) _ _ s;show b8 ((UN (A:=A.in1) hh I ax G its).item i s _ _ ⋯ ⟨f,u⟩ λv h' m hP L B=>?_);have g:∀b o,b≠I->s.heap.get? b=bD o->h'.get? b=bD o:=λb o c e=>B b o (by simpa using c) e;have K5:h'.DictOf (aT prog w) d acc:=by
   have⟨o,es,ep,ho,r⟩:=y;show⟨o,es,ep,g d o t ho,r⟩
  have N:=H.keep (h':=h') λb o _ c e=>g b o c e;have⟨a,o,e,key,e1,e2,e3,O,e5,e6,e7⟩:=N i p J;have Q:its[i]?=bD v:=hP;rw[e1]at Q;cases Q;show b8 (DD (b8 (wpAny_tryCatch ?_)));unfold þ;show b8 (P4 (T:="tuple") ⟨o,O,e5⟩ ?_);rw[ĝ (by decide)];show b8 (Ri O e6 (dV ?_));change eH _ _ (Nc [key,p.2] (dictSet d key p.2)) _ _ _;have C:ps.drop i=p::ps.drop (i+1):=by
   rw[Ka n];have:ps[i]=p:=by simpa[n] using J
   rw[this]
  have Jl:p.1∉acc.map (·.1):=λz=>by
   rw[C,eF,qs]at h;show h.2.2 _ z _ (by simp) rfl
  have Sb:ć acc p.1 p.2=acc++[p]:=by
   unfold ć;rw[ğ λz=>by
    have⟨x,hx,e⟩:=Rg.mp z;show Jl (ez.mpr ⟨x,hx,by simpa using e⟩)]
  show DD (wpAny_dictSet_pairs (hsz:=by lia) e7 K5 λD l JG=>?_);rw[Sb]at l;have q:∀b o,b≠d->h'.get? b=bD o->D.get? b=bD o:=λb o c e=>(JG.2 b c).trans e;have Nv:D.IsListIter I ax (i+1):=by
   obtain⟨z,_⟩:=L;show z.at λo e=>q _ o (uv t) e
  have Sd:D.IsList ax its:=by
   obtain⟨_,z⟩:=L;show z.at λo e=>q _ o RQ e
  rw[C,eF]at h;rw[C]at j;show dV ⟨RW cX _,ih (i+1) _ (acc++[p]) ⋯ n Nv Sd (by simp;lia) (N.keep λb o c _ e=>q b o c e) l (by simpa using h) λh3 Wj Uo k3=>j h3 Wj (by simpa using Uo) λb o c Y e=>k3 b o c Y (q b o c (g b o Y e))⟩
end
theorem yw{h:Ks}:∀{as:List eW}{ps:List (Str×V)},as.length=ps.length->(∀(j:Nat) a p,as[j]?=bD a->ps[j]?=bD p->∃(o:Obj) (n:Nat) (t:Tok) (v:d4),h.get? a=bD o/\o.cls=.type "tuple"/\o.data=.seq #[.str p.1 t,v] n/\RelV p.2 v) ->
  ∃vs:List (Key×d4),vs.length=ps.length/\vs.map (·.1)=ps.map (λp=>(oa p.1:Key))/\KV (ps.map λp=>((oa p.1:Key),p.2)) vs/\∀(j:Nat) q,vs[j]?=bD q->∃a p o n t,as[j]?=bD a/\ps[j]?=bD p/\q.1=oa p.1/\h.get? a=bD o/\o.cls=.type "tuple"/\o.data=.seq #[.str p.1 t,q.2] n
 |[],[],_,_=>⟨[],rfl,rfl,.nil,by simp⟩
 |[],_::_,h,_=>by simp at h
 |_::_,[],h,_=>by simp at h
 |a::as,p::ps,hl,f=>by
  have⟨vs,g,i,k,l⟩:=yw (as:=as) (ps:=ps) (by simpa using hl) λj b q c d=>f (j+1) b q (by simpa using c) (by simpa using d);have⟨o,n,t,v,c,d,m,r⟩:=f 0 a p rfl rfl;show⟨(oa p.1,v)::vs,by simp[g],by simp[i],.cons ⟨rfl,r⟩ k,λj q e=>?_⟩;cases j with
  |zero =>
   simp at e;subst e;show⟨a,p,o,n,t,rfl,rfl,rfl,c,d,m⟩
  |succ j =>
   have⟨a',s,u,w,t',x,y,z⟩:=l j q (by simpa using e);show⟨a',s,u,w,t',by simpa using x,by simpa using y,z⟩
section
def A9{as:List eW}{ps:List (Str×V)}(hc:X.calm=cb)(I:Inv X c σ H s)(e:Iz X.K H L (as.map V.ref))(hl:as.length=ps.length)(ht:∀(j:Nat) a p,as[j]?=bD a->ps[j]?=bD p->Ir X.K H a [.str p.1,p.2])(HW:(ps.map (·.1)).Nodup)
  (q:∀d,H d=b7->Q (.ref d) (upd H d (.dK (ps.map λp=>((oa p.1:Key),p.2))))) :
  eH (ke X.prog X.w) X.A (PU (.type "dict") [.ref L]) (EP X c σ Q) X.xe s:=by
 have⟨its,rv,pl,hz⟩:=I.list e;rw[cK]at hz;have IY:its.length=ps.length:=by rw[<-rv.length,cK,hl]
 have Se:its=as.map mh:=by
  have:∀(as:List eW) (its:List d4),Vals (as.map V.ref) its->its=as.map mh:=λas=>by
   induction as with
   |nil=>intro its h;cases h;rfl
   |cons a as ih =>
    intro its h;cases h with
    |cons r t=>rw[ih _ t];cases r;rfl
  show this as its rv
 subst Se;have⟨o,n,ho,B,C,D⟩:=pl;have⟨oc,od,X6,Nh⟩:=o;simp only at B C D;subst B C D;have⟨vs,v1,v2,v3,v4⟩:=yw (h:=s.heap) hl λj a p e1 e2=>by
  obtain⟨us,r,⟨o,i,h2,n,h3⟩,_⟩:=I.tuple (ht j a p e1 e2);cases r with
  |cons r1 v =>
   cases v with
   |cons v r3 =>
    cases r3;have⟨t,rfl⟩:=r1;show⟨o,n,t,_,i,h2,h3,v⟩
 have G:X.A.handled=b7:=I.ok.hd hc;have J:L<s.heap.objs.size:=hH ho;show callType_codes (Q₁:=λobj N=>obj=.ref s.heap.objs.size/\N={s with heap:=s.heap.push {cls:=.type "dict",data:=.dict #[]}}) PySem.F.kt_called_dict (PySem.F.kt_typeCall_dict_1 _) PySem.F.entry_dict_init (kt_code_dict_new _ ⟨rfl,rfl⟩) ?_;rintro obj N ⟨rfl,rfl⟩;have y:(s.heap.push {cls:=.type "dict",data:=.dict #[]}).DictOf (aT X.prog X.w) s.heap.objs.size []:=Yz s.heap;have k0:∀b u,s.heap.get? b=bD u->(s.heap.push {cls:=.type "dict",data:=.dict #[]}).get? b=bD u:=λb u z=>dt _ z;show⟨y.typeIs,PySem.F.args_dict_init_2 _ _,?_⟩;unfold OG.«dict.__init__»;show b8 ?_;unfold ý;show b8 (wpAny_notOrdered_dict y.typeIs ?_);change eH _ _ (pure (s.heap.objs.size,[mh L])) _ _ _;show dV ?_;change eH _ _ (VI "dict.__init__" s.heap.objs.size (.ref L) [] .none) _ _ _;unfold VI;show b8 (P4 (T:="list") ⟨_,k0 _ _ ho,rfl⟩ ?_);rw[ĝ (by decide)];show b8 (pz (k0 _ _ ho) G λi X7 k1=>?_);have O:=k1 _ _ (k0 _ _ ho);have Y:i.DictOf (aT X.prog X.w) s.heap.objs.size []:=by
  have⟨o,es,ep,ho,r⟩:=y;show⟨o,es,ep,k1 _ _ ho,r⟩
 have l:s.heap.objs.size<i.objs.size:=by
  have⟨o,es,ep,ho,r⟩:=Y;show hH ho
 show b8 (OC (b8 (Rj ⟨_,O,rfl,n,rfl⟩ ?_)));show dV ⟨RW cX _,yu (A:=X.A.in1) (ax:=L) (I:=i.objs.size) (d:=s.heap.objs.size) (its:=(as.map mh).toArray) (ps:=vs) G (ki (QY J l)) (ki l) (ki J) ⋯ (by simp;lia) vs.length 0 _ [] ⋯ (mA _) ⟨_,i4 _ rfl,rfl,rfl⟩ ⟨_,dt _ O,rfl,n,rfl⟩ (kb _) (λj q hq=>?_) (Y.push _) (by rw[Jc,lb,XD,v2];show(hQ (f:=λp:Str×V=>p.1) (g:=λx=>(oa x:Key))▸(õ _ (λa b Nl z=>Nl (by injection z)) HW)) ) λh' tk K5 kp=>?_⟩
 .have⟨a,p,o,m,t,z1,z2,z3,z4,z5,z6⟩:=v4 j q hq;have k:=hH z4;show⟨a,o,m,.str p.1 t,by simp[z1],ki k,ki (QY k l),dt _ (k1 _ _ (k0 _ _ z4)),z5,z6,?_⟩;rw[z3];change Md p.1 (.str p.1 t)=cb;simp[Md]
 .show⟨rfl,.ref s.heap.objs.size,upd H s.heap.objs.size (.dK (ps.map λp=>((oa p.1:Key),p.2))),I.laid (a:=s.heap.objs.size) (λb u z=>?_) (kb _) ⟨by rw[cK];lia,?_,vs,v3,?_⟩,rfl,q _ (I.HN.fresh (kb _))⟩
  .have k:=hH z;show kp b u (ki k) (ki (QY k l)) (dt _ (k1 _ _ (k0 _ _ z)))
  .show ģ.mpr (KN I.big)
  .simpa using K5
end
section
abbrev ka(l:List Int):List Int:=l.mergeSort (λa b=>df (a<=b))
def fC(l:List Int):(ka l).Perm l:=Ux l _
def qK(l:List Int):(ka l).Pairwise (·<=·):=by
 have:=SS (le:=λa b:Int=>df (a<=b)) (λa b c d e=>by simp at d e ⊢;lia) (λa b=>by simp;lia) l;show this.imp λh=>by simpa using h
theorem iA:∀{l m:List Int},l.Perm m->l.Pairwise (·<=·)->m.Pairwise (·<=·)->l=m
 |[],m,p,_,_=>by rw[p.nil_eq]
 |a::l,[],p,_,_=>by cases p.eq_nil
 |a::l,b::m,p,c,d=>by
  rw[MH]at c d;have e:a=b:=by
   have ha:=p.subset (lg ..);have hb:=p.symm.subset (lg ..);rcases d6.mp ha with e|ha
   .show e
   rcases d6.mp hb with e|hb
   .show e.symm
   have:=c.1 b hb;have:=d.1 a ha;lia
  subst e;rw[iA (Yu p) c.2 d.2]
theorem jb:∀{its:List d4}{ns:List Int},Xt its ns->Vals (ns.map V.int) its
 |_,_,.nil=>.nil
 |_,_,.cons n t h=>.cons ⟨t,rfl⟩ (jb h)
def jJ:fX X (.builtin "sorted") (λxs H Q=>∃(p:eW) (ns:List Int),xs=[.ref p]/\Iz X.K H p (ns.map V.int)/\ns.length<64/\∀q,H q=b7->Q (.ref q) (upd H q (.lst ((ka ns).map V.int)))):=by
 intro a s σ H xs us Q I rs h;have⟨p,ns,rfl,d,n,q⟩:=h;have⟨u,rfl,r⟩:=vals1 rs;cases r;have⟨its,rv,f,hz⟩:=I.list d;have t:its.length=ns.length:=by rw[<-rv.length,cK]
 show sorted_ints f.isList (intsAre_of rv) ⋯ λout v g i j=>?_;have e:=iA (i.trans (fC ns).symm) j (qK ns);subst e;have hsz:((s.heap.push (Iu "list" #[] 0)).update s.heap.objs.size (sL (·++its.toArray))).objs.size=s.heap.objs.size+1:=by rw[ZI,MO]
 have k:(((s.heap.push (Iu "list" #[] 0)).update s.heap.objs.size (sL (·++its.toArray))).push (Iu "list" its.toArray 0)).get? (s.heap.objs.size+1)=bD (Iu "list" its.toArray 0):=by
  rw[<-hsz];show i4 _ rfl
 have⟨e,l⟩:=Y9 (out:=out) k;have hk:∀b o,s.heap.get? b=bD o->(sortedAll s.heap its out).get? b=bD o:=λb o z=>by
  have c:b<s.heap.objs.size:=hH z;unfold sortedAll;rw[YO (ki (K3 c)) (by rw[MO,hsz];show K3 (K3 c))];show dt _ (ic z)
 have m:(64:Nat)<=c4:=by decide
 show⟨.ref _,_,I.laid (t':=s.toks) (o:=.lst ((ka ns).map V.int)) hk (NW _) ⟨by rw[cK,(fC ns).length_eq];lia,out.toList,e,jb g,by rw[YT];show l⟩,rfl,q _ (I.HN.fresh (NW _))⟩
def wA{vs:List (Key×d4)}(hk:vs.map (·.1)=ks.map oa)(hl:acc.length=vs.length)(h:∀(j:Nat) (v:d4),acc[j]?=bD v->∃k x,vs[j]?=bD (k,x)/\(aT P w).is k v=cb):Rr acc ks:=by
 induction acc generalizing ks vs with
 |nil =>
  cases vs with
  |nil=>cases ks with
   |nil=>show .nil
   |cons _ _=>cases hk
  |cons _ _=>cases hl
 |cons v acc b =>
  cases vs with
  |nil=>cases hl
  |cons p vs =>
   cases ks with
   |nil=>cases hk
   |cons k ks =>
    simp only[eF,Ph]at hk;have⟨k',x,a,c⟩:=h 0 v rfl;simp only[List.getElem?_cons_zero,TK]at a;subst a;have d:k'=oa k:=hk.1;subst d;rcases bz (show kW (oa k) v=cb from c) with⟨i,t,e,rfl⟩|⟨y,t,e,rfl⟩
    .cases e
    .cases e;show .cons _ _ (b hk.2 (by simpa using hl) λj u f=>h (j+1) u (by simpa using f))
def jK:X.calm=cb->fX X (.builtin "sorted") (λxs H Q=>∃(d:eW) (kvs:List (Key×V)) (ks:List Str),xs=[.ref d]/\H d=bD (.dK kvs)/\kvs.map (·.1)=ks.map oa/\ks.length<64/\∀q,H q=b7->Q (.ref q) (upd H q (.lst ((az ks).map V.str)))):=by
 intro l a s σ H xs us Q I rs h;have⟨d,kvs,ks,rfl,e,hk,D,q⟩:=h;have⟨u,rfl,r⟩:=vals1 rs;cases r;have⟨hz,lo,vs,kv,dd⟩:=x_ I.HN e;have b:vs.length=kvs.length:=(Paired.length kv).symm;have m:kvs.length=ks.length:=by rw[<-cK (f:=(·.1)),hk,cK]
 have n:vs.map (·.1)=ks.map oa:=by
  rw[<-hk];clear dd b hk m e q hz;induction kv with
  |nil=>rfl
  |cons r _ p=>rw[eF,eF,p,r.1]
 have⟨o,es,ep,t⟩:=id dd;have x:(64:Nat)<=c4:=by decide
 show fy (kdu_collect (A:=X.A.in1) (kdl_dict (knd:=aT X.prog X.w) (kvs:=vs) (ep:=ep) lo) (I.ok.hd l) ⟨o,es,t⟩ ⋯ λh' c acc y g=>⟨ks,wA n (by rw[sm];show g.1) (λj v z=>g.2 j v (by rw[<-ML];show z)),by rw[sm,g.1];lia,λG B C k2 i s2=>?_⟩);have k:Inv X a σ H {s with heap:=h',toks:=c}:=I.kept (t':=c) y;show⟨.ref h'.objs.size,_,k.laid (t':=c) (o:=.lst ((az ks).map V.str)) k2 (kb _) ⟨by rw[cK,bo];lia,B,C,dM s2,i⟩,rfl,q _ (k.HN.fresh (kb _))⟩
end
end L2
namespace L2
open PySem PySem.Spec PyProof.Rows
section
abbrev A_:V->List V->Hp->VK->Prop:=λx vs H Q=>∃(l:eW) (xs:List V) (i:Nat) (y:V),x=.ref l/\vs=[.int (i:Nat),y]/\H l=bD (.lst xs)/\i<=xs.length/\xs.length<c4/\Q .HX (upd H l (.lst (xs.take i++y::xs.drop i)))
def wB:Ru X "list.insert" A_:=by
 intro a s σ H x vs v us Q I c rv h;have⟨l,xs,i,y,rfl,rfl,b,w,hz,q⟩:=h;cases c;cases rv with
 |cons d f =>
  have⟨u,rfl,g⟩:=Vals.one f;have⟨t,rfl⟩:=d;have⟨z,its,n,r,hl,e⟩:=I.Dt b;have hsz:c4<2 ^ 62:=by decide
  have j:U8 ((i:Nat):Int)=cb:=fitsIndex_both ⋯ ⋯;have k:¬(!U8 ((i:Nat):Int))=cb:=by rw[j];show l'
  have m:its.toArray.size<=c4:=by rw[i5];lia
  show QS (T:="list") (name:="insert") F.slot_list_insert ⟨_,e,rfl⟩ F.entry_list_insert (F.args_list_insert_3 _ _ _) (@AutoListH.list_insert_list_int_val_1 l its.toArray n ((i:Nat):Int) t u k m) ?_;show⟨e,?_⟩;show⟨.HX,_,I.m8 (its':=its.take i++u::its.drop i) b e ?_ ?_ ?_,rfl,q⟩
  .have o:min i its.length=i:=by lia
   have p:¬((i:Nat):Int)<0:=by lia
   simp[p,o];show NX (by rw[Km];lia)
  .show(r.take i).append (.cons g (r.drop i))
  .rw[gs,k9,vr,Km];lia
end
end L2
namespace L2
open PySem PyProof.Rows PySem.W
abbrev Hw(h:Ks)(e C:eW)(a0:d4)(T:Option eW)(b:d4):Prop:=∃oe vs,h.get? e=bD oe/\oe.cls=.ref C/\oe.data=.fields vs/\vs[0]?=bD a0/\match T with
 |none=>vs[1]?=bD .none
 |some T=>T≠e/\vs[1]?=bD (.ref T)/\∃a ts,h.get? T=bD a/\a.data=.fields ts/\ts[3]?=bD b
structure cp(P:w6)(w:Ie)(stack:List Env)(H:Hp)(s:hY)(e C:eW)(T:Option eW)(fl:d4)(H':Hp)(s':hY):Prop where
 os:s'.os=s.os
 bare:Tf s'.gens
 un:Un (IG stack) [] H H' s.heap s'.heap
 HN:IX P w H' s'.heap
 new:s.heap.get? e=b7
 he:H' e=b7
 exc:∃a0,Hw s'.heap e C a0 T fl
 hT:∀a,T=bD a->s.heap.get? a=b7/\H' a=b7
abbrev Ny(P:w6)(w:Ie):Nf:=λouter H s E v s'=>∃e C T H',v=.ref e/\cp P w outer H s e C (bD T) .none H' s'/\E (.ref C) b7 H'
def bP.there(x:bP P w H h a o):∃u,h.get? a=bD u:=by
 cases o with
 |lst xs=>obtain⟨_,_,_,_,e⟩:=x;show⟨_,e⟩
 |tup xs=>obtain⟨_,_,_,_,e,_⟩:=x;show⟨_,e⟩
 |set S n=>obtain⟨o,_,_,_,e,_⟩:=x;show⟨_,e⟩
 |ins C c b=>obtain⟨_,_,_,e,_⟩:=x;show⟨_,e⟩
 |own y=>show x
 |xd b=>obtain⟨_,⟨_,_,_,e,_⟩,_⟩:=x;show⟨_,e⟩
 |P8 lo d=>obtain⟨_,_,_,e⟩:=x;show⟨_,e⟩
 |KG g u=>show⟨_,x.1⟩
 |MK ps=>show⟨_,x⟩
 |met f y=>show⟨_,x⟩
 |ext φ=>show x.2.1
 |_=>obtain⟨_,_,_,_,o,_,_,e,_⟩:=x;show⟨_,e⟩
section
variable{P:w6}{w:Ie}{stack outer:List Env}{H H':Hp}{s s':hY}{e C L:eW}{T:Option eW}{fl:d4}{base:Ks}{env:Env}{M:Model}{A:OM}{E:d4->hY->Prop}{Q:Unit->hY->Prop}
theorem uP(u:Un (IG stack) [] H H' s.heap s'.heap)(a:∀b∈IG stack,H b=b7):∀l:List Env,(∀b∈IG l,b∈IG stack)->s.heap.FunFrames base l->s'.heap.FunFrames base l
 |[],_,_=>trivial
 |env::l,hs,⟨hk,⟨L,o,c,d,ho,f⟩,g⟩=>by
  have h:IG (env::l)=L::IG l:=by unfold IG;rw[JS,c]
  rw[h]at hs;have⟨j,q⟩:=u.any ho (a L (hs L lg)) λz=>nomatch z
  show⟨hk,⟨L,_,c,d,q,f⟩,uP u a l (λb i=>hs b (kj _ i)) g⟩
def cp.next(F:cp P w stack H s e C T fl H' s')(l:s.heap.FunFrames base stack)(m:∀b∈IG stack,H b=b7)(I:B=hideAll s'.heap (e::(T.toList++IG stack))):
  B.StaysIn s'.heap/\s'.heap.FunFrames B stack/\B.get? e=b7/\(∀a,T=bD a->B.get? a=b7) /\
   ∀h' i,B.StaysIn h'->h'.FunFrames B stack->h'.TracedAtW B e (.ref C) a0 i->s'.heap.UpToSlots h'->∃c,cp P w stack H s e C (bD c) i H' {s' with heap:=h' }:=by
 have p:=uP F.un m _ (λ_ z=>z) l;subst I;show⟨λb o q=>of_hideAll _ q,funFrames_hide p λJ N a O=>kj _ (nC _ (Qd.mpr ⟨J,N,O⟩)),hideAll_none _ lg,λa z=>hideAll_none _ (kj _ (tj _ (by simp[z]))),λh' i k1 k2 ⟨Y,Ip,c,Wn,Wo,b1,⟨b2,b0⟩,b3,b4,b5,r,t,v,b9⟩ k4=>?_⟩;have Wq:∀a,a∈e::(T.toList++IG stack)->H' a=b7:=λa ha=>by
  rcases d6.mp ha with rfl|ha
  .show F.he
  rcases gj.mp ha with ha|ha
  .show(F.hT a (by simpa using ha)).2
  .obtain⟨_,o,ho,_⟩:=l.mem ha;show F.un.free a o ho (m a ha) λz=>nomatch z
 have keep:∀b o,b∉e::(T.toList++IG stack)->s'.heap.get? b=bD o->h'.get? b=bD o:=λb o hb q=>k1 b o (hideAll_get _ q hb);have slot:∀b o,b∈IG stack->s'.heap.get? b=bD o->∃x,h'.get? b=bD {o with slots:=x}:=λb o hb q=>by
  obtain⟨_,j,d,k⟩:=p.mem hb;rw[q]at d;cases d;show k4 b o q k
 have y:∀b o,s.heap.get? b=bD o->b∉IG stack->b∉e::(T.toList++IG stack):=λb o q hb z=>by
  rcases d6.mp z with z|z
  .rw[z,F.new]at q;cases q
  rcases gj.mp z with z|z
  .rw[(F.hT b (by simpa using z)).1]at q;cases q
  .show hb z
 have tn:s.heap.get? c=b7/\H' c=b7:=by
  by_cases z:c∈e::(T.toList++IG stack)
  .rcases d6.mp z with z|z
   .show absurd z r
   rcases gj.mp z with z|z
   .show F.hT c (by simpa using z)
   .obtain⟨_,j,d,k⟩:=k2.mem z;rw[t]at d;cases d;show absurd v (k _)
  .have q:s'.heap.get? c=b7:=by
    cases q:s'.heap.get? c with
    |none=>rfl
    |some o=>have:=hideAll_get _ q z;rw[b5]at this;cases this
   show⟨?_,?_⟩
   .cases f:s.heap.get? c with
    |none=>rfl
    |some o=>have⟨j,D⟩:=F.un.there _ o f λz=>nomatch z;rw[q]at D;cases D
   .cases f:H' c with
    |none=>rfl
    |some u =>
     have⟨o,z⟩:=(F.HN c u f).there;rw[q]at z;cases z
 show⟨c,F.os,F.bare,⟨λb o q n hb g=>keep b o (y b o q hb) (F.un.keep b o q n hb g),λb o q n hb g=>?_,F.un.free,λb o q g=>?_,F.un.gZ,F.un.IZ,F.un.Jj⟩,λa u q=>(F.HN a u q).jA (λb o hb d=>?_) (λ_ z=>z) λ_ _ z=>z,F.new,F.he,⟨_,Y,Ip,b1,b2,b3,b0,r,b4,Wn,Wo,t,v,b9⟩,λa z=>by cases z;show tn⟩
 .have⟨x,h⟩:=F.un.slot b o q n hb g;have⟨G,f⟩:=slot b _ hb h;show⟨G,f⟩
 .have⟨j,h⟩:=F.un.there b o q g;by_cases hb:b∈IG stack
  .have⟨G,f⟩:=slot b _ hb h;show⟨_,f⟩
  .show⟨_,keep b _ (y b o q hb) h⟩
 .show keep b o (λz=>?_) d;have:=Wq b z;rcases hb with rfl|hb
  .rw[q]at this;cases this
  .rw[hb]at this;cases this
def cp.leave(F:cp P w (env::outer) H s e C T .none H' s')(c:A.frames=bD (env::outer))(d:env.frame=bD L)(q:s.heap.FunFrames base (env::outer))(r:∀b∈IG (env::outer),H b=b7)
  (h:∀f g,cp P w (env::outer) H s e C (bD f) .none H' g->Q () g):eH M A (leaving env (.ref e)) Q E s':=by
 have⟨a0,oe,vs,i,j,k,l,m⟩:=F.exc;obtain⟨B,t⟩:∃B,B=hideAll s'.heap (e::(T.toList++IG (env::outer))):=⟨_,rfl⟩
 have⟨n,o,p,u,v⟩:=F.next (a0:=a0) q r t;have a:∀h',Heap.LeftW B (env::outer) e (.ref C) a0 s'.heap h'->Q () {s' with heap:=h' }:=λh' x=>by
  have⟨k1,k2,k3,y⟩:=x;have⟨f,z⟩:=v h' .none k1 k2 k3 y;show h _ _ z
 cases T with
 |none=>show wpAny_leaving_firstW c o d i n p k m l λh' z=>a h' (j▸z)
 |some T =>
  have⟨D,G,I,ts,J,N,O⟩:=m;show wpAny_leaving_nextW c o d ⟨oe,vs,T,I,ts,i,⟨j,l⟩,k,G,u T rfl,D,J,N,O⟩ n p a
def cp.note{T:eW}(F:cp P w (env::outer) H s e C (bD T) .none H' s')(d:A.frames=bD (env::outer))(f:env.frame=bD L)(g:s.heap.FunFrames base (env::outer))(i:∀b∈IG (env::outer),H b=b7)
  (h:∀a c,cp P w (env::outer) H s e C (bD a) (D' L) H' c->Q () c):eH M A (noteFrame (.ref e) env) Q E s':=by
 have⟨a0,oe,vs,j,k,l,m,n,o,p,ts,q,r,t⟩:=F.exc;have⟨u,v,x,y,B⟩:=F.next (a0:=a0) g i rfl;show wpAny_noteFrame_onW d v f ⟨oe,vs,T,p,ts,j,⟨k,m⟩,l,o,y T rfl,n,q,r,t⟩ u x λh' D=>?_;have⟨k1,k2,k3,G⟩:=D;have⟨a,z⟩:=B h' _ k1 k2 k3 G;show h _ _ z
def cp.land{T:eW}(F:cp P w stack H s e C (bD T) fl H' s')(d:s.heap.FunFrames base stack)(f:∀b∈IG stack,H b=b7)
  (h:∀a c,cp P w stack H s e C (bD a) .none H' c->Q () c):eH M A (setFlight (.ref e) b7) Q E s':=by
 have⟨a0,oe,vs,g,i,j,k,l,m,p,ts,r,t,u⟩:=F.exc;have⟨v,x,G,y,B⟩:=F.next (a0:=a0) d f rfl;show wpAny_setFlight_noneW v x ⟨oe,vs,T,p,ts,g,⟨i,k⟩,j,m,y T rfl,l,r,t,u⟩ λh' k1 k2 k3 D=>?_;have⟨a,z⟩:=B h' _ k1 k2 k3 λb o q n=>⟨o.slots,D b o q n⟩
 show h _ _ z
end
section
def cp.down(I:Inv X j σ H s)(l:X.ex=[])(hs:X.stack=X.env::X.outer)(m:X.env.frame=bD X.env.locals)(F:cp X.prog X.w X.stack H s e C T p H' s'):cp X.prog X.w X.outer X.H₀ X.s₀ e C T p H' s':=by
 have nx:∀b:eW,b∉X.ex:=λb z=>by rw[l]at z;cases z
 have k:IG X.stack=X.env.locals::IG X.outer:=by rw[hs];unfold IG;rw[JS,m]
 have c:∀b,s.heap.get? b=b7->X.s₀.heap.get? b=b7:=λb q=>by
  cases z:X.s₀.heap.get? b with
  |none=>rfl
  |some o=>have⟨g,z⟩:=I.base.there b o z (nx b);rw[q]at z;cases z
 have hl:∀b o,X.s₀.heap.get? b=bD o->b≠X.env.locals:=λb o q=>ki (mf (hH q) I.ok.above);have h:∀b:eW,b∉([]:List eW):=λb z=>nomatch z
 show⟨F.os.trans I.os,F.bare,⟨λb o q n f _=>?_,λb o q n f _=>?_,λb o q n _=>?_,λb o q _=>?_,λb xs q=>F.un.gZ b xs (I.base.gZ b xs q),λb o u q=>F.un.IZ b o u (I.base.IZ b o u q),λb ps q=>?_⟩,F.HN,c _ F.new,F.he,F.exc,λa z=>⟨c _ (F.hT a z).1,(F.hT a z).2⟩⟩
 .show F.un.keep b o (I.base.keep b o q n f (nx b)) (I.base.free b o q n (nx b)) (λz=>by rw[k]at z;show(d6.mp z).elim (hl b o q) f) (h b)
 .have⟨t,d⟩:=I.base.slot b o q n f (nx b);have⟨r,i⟩:=F.un.slot b _ d (I.base.free b o q n (nx b)) (by rw[k];show kj _ f) (h b);show⟨r,i⟩
 .have⟨g,d⟩:=I.base.there b o q (nx b);show F.un.free b g d (I.base.free b o q n (nx b)) (h b)
 .have⟨g,d⟩:=I.base.there b o q (nx b);show F.un.there b g d (h b)
 .have⟨m1,d⟩:=I.base.Jj b ps q;have⟨m2,i⟩:=F.un.Jj b _ d;show⟨m1++m2,by rw[i,Zd]⟩
def cp.made(I:Inv X c σ H s)(b:Heap.MadeExcOf s.heap h' e (.ref C) vs):cp X.prog X.w X.stack H s e C b7 .none H {s with heap:=h' }:=by
 obtain⟨t,d,_⟩:=b.there;show⟨rfl,I.bare,Un.kept b.keeps,I.HN.kept b.keeps,b.new,?_,⟨_,_,_,d,rfl,rfl,rfl,rfl⟩,λa z=>nomatch z⟩;cases z:H e with
 |none=>rfl
 |some u=>have⟨o,q⟩:=(I.HN e u z).there;rw[b.new]at q;cases q
abbrev Og:List d4:=[.type "ValueError",.type "Exception",.type "BaseException",.type "object"]
abbrev Wr(p:eW->List d4->Option d4->Option d4->Option d4->Option d4->String->Option d4->Bool)(M:List d4)(S:List (Option d4)):Prop:=∃C a k0 k1 k2 k3 n k5,M=.ref C::a/\S=[k0,k1,k2,k3,bD (.builtin n),k5]/\p C a k0 k1 k2 k3 n k5=cb
def nf{P:Prop}(h:cc=cb):P:=nomatch h
def DL(q:excIn.match_1 (λ_ _=>Bool) M S p (λ_ _=>cc)=cb):Wr p M S:=by
 cases M with
 |nil=>show nf q
 |cons v a =>
  cases v with
  |ref C =>
   cases S with
   |nil=>show nf q
   |cons k0 S =>
   cases S with
   |nil=>show nf q
   |cons k1 S =>
   cases S with
   |nil=>show nf q
   |cons k2 S =>
   cases S with
   |nil=>show nf q
   |cons k3 S =>
   cases S with
   |nil=>show nf q
   |cons b S =>
   cases b with
   |none=>show nf q
   |some v =>
   cases v with
   |builtin n =>
    cases S with
    |nil=>show nf q
    |cons k5 S =>
    cases S with
    |nil=>show⟨C,a,k0,k1,k2,k3,n,k5,rfl,rfl,q⟩
    |cons _ _=>show nf q
   |_=>show nf q
  |_=>show nf q
abbrev Ws(p:Option eW->ClassData->Array (Option d4)->Bool)(o:Option Obj):Prop:=∃d a b,o=bD ⟨.type "type",d,.cls a,b⟩/\p d a b=cb
def DM(q:excIn.match_6 (λ_=>Bool) o p (λ_=>cc)=cb):Ws p o:=by
 split at q
 .show⟨_,_,_,rfl,q⟩
 .show nf q
def DN{K:Frag}{P:Prop}(b:K.In h)(q:excIn K C Og a=cb)(k:∀c N nm d bs hdct sn sub ab col dd k0 k1 k2 k3 k5 f,h.get? C=bD (excClassObj nm d C N bs c hdct sn sub ab col dd k0 k1 k2 k3 k5 a)->h.Ns N f->f "__init__"=b7->OwnTail h Og c->P):P:=by
 have⟨dd,p,r,ho,g⟩:=DM q;have⟨v,c,k0,k1,k2,k3,n,k5,i,hs,j⟩:=DL g;clear q g;have⟨nm,bs,mro,ns,d,s,sn,sub,ab,col,t⟩:=p;have⟨l⟩:=r;simp only[cL,beq_iff_eq,uk]at j;obtain⟨⟨⟨⟨⟨rfl,rfl⟩,m⟩,u⟩,e⟩,o⟩:=j
 dsimp only at i m e o
 subst i m;obtain rfl:l=_:=hs;show k c ns nm d bs s sn sub ab col dd k0 k1 k2 k3 k5 _ (b _ _ ho) (.of_isNs (isNs_of_in b e)) (nsMap_none_of_in b e o) (tail_of_in b u)
def yx(i:X.calm=cb)(j:Gl X x)(f:X.mg x=bD (.ref C))(k:(x==("__debug__":Str))=cc)(l:excIn X.K C Og "ValueError.__new__"=cb)(m:PE X a n)
  (g:lx [a] X.env=[(cc,JF a X.env)]) :
  PS X (.Raise (bD (.Call (.Name x p) [a] [] A)) b7 pos) (λD σ H=>n σ H λv d=>∀b s e s',Inv X b σ d s->cp X.prog X.w X.stack d s e C b7 .none d s'->X.xe (.ref e) s'):=by
 intro b s σ H D I h;show DN I.mod.N2 l λB N nm o bs hdct sn sub ab col dd k0 k1 k2 k3 k5 G r t y T=>?_;show wpAny_Raise_call_subT (nm:=nm) (q:=o) (N:=N) (bs:=bs) (hdct:=hdct) (sn:=sn) (sub:=sub) (ab:=ab) (col:=col) (dd:=dd) (k0:=k0) (k1:=k1) (k2:=k2) (k3:=k3) (k5:=k5) Zy (T.hasType Zy.hasBase) (I.ok.hd i) (by rw[g];rfl) y (fq I j f ⟨rfl,?_⟩ k);rw[g];show MM (NM (HS (m b s σ H _ I h) λu s1 ⟨v,d,c,J,z⟩=>Qk ⟨rfl,?_,c.bk _ _ r,t.keeps c.bk,T.keeps c.bk,λh' e f=>z b s1 e _ c (.made c f)⟩));show(by decide:1<=c4)
def FN:Passes (Ny X.prog X.w) X E0:=λ_ _ _ _ _ _ _ ⟨_,_,_,_,_,_,h⟩=>h.elim
def uQ(F:jB X.prog X.w X.K X.mg X.base CX k f d ps sp)(g:fT k X.A)(i:Binds X.K d ps [])(I:Inv X a σ H s)(r:Vals vs us)(h:sp vs H Q E)
  (j:∀e s',CX X.stack H s E e s'->EE e s'):eH (ke X.prog X.w) X.A (PU (.ref f) us) (EP X a σ Q) EE s:=by
 have hl:us.length=ps.length:=by rw[<-r.length];show F.len _ _ _ _ h
 have c:=i s us I.L0 (by rw[vu];show hl);rw[vu]at c;show Ç (So (F.run X.A X.stack s H ⟨us,[]⟩ us vs Q E g I.Fz c r h) λr s' b=>?_);cases r with
 |error e=>show j e s' b
 |ok l =>
  cases l with
  |ret u=>show I.after b
  |_=>show NT b
end
def DO(a:s.heap.get? e=bD oe)(b:oe.cls=.ref C)(h:Q (.bool cb) s):
  eH (ke prog w) A (PU (.builtin "isinstance") [.ref e,.ref C]) Q E s:=by
 show R' (S:=λ_ R s=>s.heap.get? e=bD oe/\R (.ok (.ret (.bool cb))) s) (λprog w A R s hs=>isinstance_outer ?_ λz=>nomatch z) ⟨a,h⟩;have⟨c,g,d,i,os⟩:=s;have⟨a,f⟩:=hs;have LT:Looks (ke prog w) c (YG (.ref e)) (.ref C):=by
  show(ē a).andThen ?_;rw[b];show .now
 unfold OG.«isinstance.nested»;show b8 (LT.at ?_);rw[ĝ (by simp)]
 repeat (any_goals (first|show f|assumption|wp_step))
@[reducible]def Cx.Ln(X:Cx)(e:eW)(oe:Obj)(E:d4->hY->Prop):Cx:={X with A:=X.A.mark (bD (.ref e)),calm:=cc,pn:=(e,oe)::X.pn,xe:=E}
section
def Inv.Ln(I:Inv X a σ H s)(b:s.heap.get? e=bD oe)(c:H e=b7)(d:e≠X.env.locals)(f:e∉X.fs)(g:∀v,oe.data≠.cell v):Inv (X.Ln e oe E) a σ H s :=
 ⟨⟨I.ok.mod,I.ok.kind,I.ok.glob,I.ok.blt,I.ok.above,I.ok.inj,I.ok.has,I.ok.N3,λz=>(nomatch z),I.ok.frames,I.ok.OD,I.ok.QT,I.ok.bs,I.ok.Mg,I.ok.K4,I.ok.Lr,I.ok.kB,I.ok.M_⟩,I.os,I.bare,I.base,I.loc,I.cell,I.free,I.Iq,
  λp h=>(d6.mp (show p∈(e,oe)::(X.pn++a) from h)).elim (λz=>by subst z;show⟨b,c,d,f,g⟩) λz=>I.pin p z,I.HN,I.len⟩
def Inv.Hx(b:X.Ok)(I:Inv (X.Ln e oe E) a σ H s):Inv X a σ H s :=
 ⟨b,I.os,I.bare,I.base,I.loc,I.cell,I.free,I.Iq,λp c=>I.pin p (kj _ c),I.HN,I.len⟩
def Inv.gone(I:Inv X f σ H s)(G:X.N.Nodup)(x:X.N[j]?=bD n)(hl:X.env.scope.names.lookup n=bD .local)
  (h:∀s',Inv X f (σ.set j b7) H s'->Q () s'):eH M A (do bindName X.env n .none;unbindBehindTheSuite X.env n pos) Q E s:=by
 have⟨m,J,L⟩:=id I.loc;have O:(X.env.scope.kind==.class||(X.env.scope.kind==.module&&X.env.locals != X.env.globals))=cc:=by rw[I.ok.kind];rfl
 show wpAny_nameGoes_keeps hl J O λh' v T hs=>h _ ?_;have B:=I.Ls;have Y:j < σ.length:=by rw[I.len];show(et.mp x).1
 have t:∀b o,X.s₀.heap.get? b=bD o->b≠X.env.locals:=λb o q=>ki (mf (hH q) I.ok.above);show⟨I.ok,I.os,I.bare,⟨λb o e n w g=>(hs.2 b (t b o e)).trans (I.base.keep b o e n w g),λb o e n w g=>?_,I.base.free,λb o e g=>?_,I.base.gZ,I.base.IZ,I.base.Jj⟩,⟨_,T,λi y u C k e3=>?_⟩,λy c e=>?_,I.free,I.Iq,λp hp=>?_,λb ob e=>(I.HN b ob e).jA (λc w' hc q=>(hs.2 c ?_).trans q) (λ_ q=>q) λ_ _ q=>q,by simpa using I.len⟩
 .have⟨sl,q⟩:=I.base.slot b o e n w g;show⟨sl,(hs.2 b (t b o e)).trans q⟩
 .have⟨o',q⟩:=I.base.there b o e g;show⟨o',(hs.2 b (t b o e)).trans q⟩
 .have D:i≠j:=λz=>by subst z;rw[fx Y]at k;cases k
  rw[ko (uv D)]at k;have⟨u',r,l⟩:=L i y u C k e3;show⟨u',r,l.imp (λ⟨a,b⟩=>⟨a,?_⟩) λ⟨a,c,b,d⟩=>⟨a,c,b,d.sameBut hs (B y c b)⟩⟩;change(if y=n then v else m y)=bD u';rw[ğ λ(z:y=n)=>D (iL G C (by rw[z];show x))];show b
 .have⟨u,z⟩:=I.cell y c e;show⟨u,z.sameBut hs (B y c e)⟩
 .have⟨a,b,c,d⟩:=I.pin p hp;show⟨(hs.2 p.1 c).trans a,b,c,d⟩
 .rintro rfl;rcases hc with hc|hc
  .rw[<-hc,I.free]at e;cases e
  .rw[I.free]at hc;cases hc
end
end L2
namespace TM
open PySem L2
inductive U where
 |HX|bl (b:Bool)|int (i:Int)|str (x:Str)
 |tup (xs:List U)|lst (xs:List U)
 |HM (ks:List Str) (vs:List U)|IM (ks:List m_)
mutual
noncomputable def Ii:U->Bool
 |.tup xs=>fU xs
 |.lst _=>cc
 |.HM _ _=>cc
 |.IM _=>cc
 |.HX=>cb|.bl _=>cb|.int _=>cb|.str _=>cb
noncomputable def fU:List U->Bool
 |[]=>cb
 |u::us=>Ii u&&fU us
end
inductive Kd where|own|io|loc|any|bor (j:Nat)|B'
deriving DecidableEq
abbrev Kd.root:Kd->Bool
 |.own=>cb
 |.io=>cb
 |_=>cc
@[reducible]def ar:=List (Option (Kd×U))
structure Ct where
 P:w6
 w:Ie
 K:PySem.W.Frag
 H₀:Hp
 Kt:eW->Prop
 IO:eW->Prop
 xw:U->Hp->Prop
abbrev KL(K:PySem.W.Frag)(a:eW)(xs:List V):Prop :=
 ∃(o:Obj) (its:Array d4) (n:Nat),K.lookup a=bD o/\o.cls=.type "list"/\o.dict=b7/\o.data=.seq its n/\its.size<=c4/\Vals xs its.toList
abbrev Pj(K:PySem.W.Frag)(S:eW->Prop)(H:Hp)(a:eW)(vs:List V):Prop:=(S a/\Rd H a (.lst vs))\/KL K a vs
def Pj.sq(h:Pj K S H a vs):Iz K H a vs:=h.elim (λz=>.inl z.2) .inr
abbrev MY(H:Hp)(R:List V->Prop)(a:eW)(ks:List Str):Prop:=∃kvs:List (Key×V),H a=bD (.dK kvs)/\kvs.map (·.1)=ks.map oa/\R (kvs.map (·.2))
section
variable(C:Ct)(S:eW->Prop)(H:Hp)
mutual
def Rep:U->V->Prop
 |.HX,v=>v=.HX
 |.bl b,v=>v=.bl b
 |.int i,v=>v=.int i
 |.str x,v=>v=.str x
 |.tup us,v=>∃a vs,v=.ref a/\Ir C.K H a vs/\aq us vs
 |.lst us,v=>∃a vs,v=.ref a/\Pj C.K S H a vs/\aq us vs
 |.HM ks us,v=>∃a,v=.ref a/\S a/\MY H (aq us) a ks
 |.IM ks,v=>∃a,v=.ref a/\S a/\fQ C.P C.w C.K H a ks
def aq:List U->List V->Prop
 |[],vs=>vs=[]
 |u::us,vs=>∃v r,vs=v::r/\Rep u v/\aq us r
end
end
def Tp:HO->Prop
 |.tup _=>True
 |.KG _ (.tup _)=>True
 |_=>False
structure Mv(S:eW->Prop)(H:Hp)(S':eW->Prop)(H':Hp):Prop where
 sub:∀a,S a->S' a
 Pk:∀a o,H a=bD o->Tp o->H' a=bD o
 Qs:∀a o,S a->H a=bD o->H' a=bD o
def Mv.Si(m:Mv S H S' H')(h:Ir K H a vs):Ir K H' a vs:=by
 rcases h with(h|⟨o,h⟩)|h
 .show .inl (.inl (m.Pk a _ h trivial))
 .show .inl (.inr ⟨o,m.Pk a _ h trivial⟩)
 .show .inr h
def Mv.Wt(m:Mv S H S' H')(h:Pj K S H a vs):Pj K S' H' a vs:=by
 rcases h with⟨s,h|⟨o,h⟩⟩|h
 .show .inl ⟨m.sub a s,.inl (m.Qs a _ s h)⟩
 .show .inl ⟨m.sub a s,.inr ⟨o,m.Qs a _ s h⟩⟩
 .show .inr h
def Mv.row(m:Mv S H S' H')(h:gb K H v r):gb K H' v r :=
 let ⟨a,b,e,c,d⟩:=h;⟨a,b,e,m.Si c,m.Si d⟩
def MY.mv(b:∀o,H a=bD o->H' a=bD o)(c:∀vs,R vs->d vs)(h:MY H R a ks):MY H' d a ks :=
 let ⟨kvs,e,f,g⟩:=h;⟨kvs,b _ e,f,c _ g⟩
def Mv.uR(m:Mv S H S' H')(b:∀o,H a=bD o->H' a=bD o)(h:fQ P w K H a ks):fQ P w K H' a ks :=
 let ⟨xs,c,d,e⟩:=h;⟨xs,b _ c,d,λx f=>m.row (e x f)⟩
section
mutual
theorem Rep.MZ(m:Mv S H S' H'):∀(u:U) (v:V),Rep C S H u v->Rep C S' H' u v
 |.HX,_,h=>h
 |.bl _,_,h=>h
 |.int _,_,h=>h
 |.str _,_,h=>h
 |.tup us,v,h=>by
  have⟨a,vs,e,b,c⟩:=h;show⟨a,vs,e,m.Si b,aq.MZ m us vs c⟩
 |.lst us,v,h=>by
  have⟨a,vs,e,b,c⟩:=h;show⟨a,vs,e,m.Wt b,aq.MZ m us vs c⟩
 |.HM ks us,v,h=>by
  have⟨a,e,b,c⟩:=h;show⟨a,e,m.sub a b,c.mv (λo q=>m.Qs a o b q) λvs q=>aq.MZ m us vs q⟩
 |.IM ks,v,h=>by
  have⟨a,e,b,c⟩:=h;show⟨a,e,m.sub a b,m.uR (λo q=>m.Qs a o b q) c⟩
theorem aq.MZ(m:Mv S H S' H'):∀(us:List U) (vs:List V),aq C S H us vs->aq C S' H' us vs
 |[],_,h=>h
 |u::us,vs,h=>by
  have⟨v,r,e,a,b⟩:=h;show⟨v,r,e,Rep.MZ m u v a,aq.MZ m us r b⟩
end
mutual
theorem Rep.wC:∀(u:U) (v:V),Ii u=cb->Rep C S H u v->Rep C S' H u v
 |.HX,_,_,h=>h
 |.bl _,_,_,h=>h
 |.int _,_,_,h=>h
 |.str _,_,_,h=>h
 |.tup us,v,i,h=>by
  have⟨a,vs,e,b,c⟩:=h;show⟨a,vs,e,b,aq.wC us vs (by simpa[TM.Ii] using i) c⟩
 |.lst us,v,i,h=>by simp[TM.Ii]at i
 |.HM ks us,v,i,h=>by simp[TM.Ii]at i
 |.IM ks,v,i,h=>by simp[TM.Ii]at i
theorem aq.wC:∀(us:List U) (vs:List V),fU us=cb->aq C S H us vs->aq C S' H us vs
 |[],_,_,h=>h
 |u::us,vs,i,h=>by
  have⟨v,r,e,b,c⟩:=h;have a:TM.Ii u=cb/\fU us=cb:=by simpa[fU] using i
  show⟨v,r,e,Rep.wC u v a.1 b,aq.wC us r a.2 c⟩
end
def Rep.mv(m:Mv S H S' H')(h:Rep C S H u v):Rep C S' H' u v:=Rep.MZ m u v h
def aq.mv(m:Mv S H S' H')(h:aq C S H us vs):aq C S' H' us vs:=aq.MZ m us vs h
def Rep.Ii(i:TM.Ii u=cb)(h:Rep C S H u v):Rep C S' H u v:=Rep.wC u v i h
def aq.Ii(i:fU us=cb)(h:aq C S H us vs):aq C S' H us vs:=aq.wC us vs i h
def Mv.up(sub:∀a,S a->S' a):Mv S H S' H:=⟨sub,λ_ _ h _=>h,λ_ _ _ h=>h⟩
theorem aq.len:∀{us:List U}{vs:List V},aq C S H us vs->us.length=vs.length
 |[],_,h=>by cases h;rfl
 |u::us,vs,h=>by
  obtain⟨v,r,rfl,_,a⟩:=h;rw[k9,k9,aq.len a]
theorem aq.get:∀{us:List U}{vs:List V}{i:Nat}{u:U},aq C S H us vs->us[i]?=bD u->∃v,vs[i]?=bD v/\Rep C S H u v
 |[],_,_,_,_,e=>by simp at e
 |u::us,vs,0,w,h,e=>by
  obtain⟨v,r,rfl,a,_⟩:=h;simp at e;subst e;show⟨v,rfl,a⟩
 |u::us,vs,i+1,w,h,e=>by
  obtain⟨v,r,rfl,_,b⟩:=h;have⟨c,d,h'⟩:=aq.get (i:=i) (u:=w) b (by simpa using e);show⟨c,by simpa using d,h'⟩
theorem aq.append:∀{us ws:List U}{vs a:List V},aq C S H us vs->aq C S H ws a->aq C S H (us++ws) (vs++a)
 |[],_,_,_,h,h'=>by cases h;show h'
 |u::us,ws,vs,a,h,h'=>by
  have⟨v,r,rfl,b,c⟩:=h;show⟨v,r++a,rfl,b,c.append h'⟩
theorem aq.take:∀{us:List U}{vs:List V} (n:Nat),aq C S H us vs->aq C S H (us.take n) (vs.take n)
 |_,_,0,_=>by simp[aq]
 |[],_,n+1,h=>by cases h;simp[aq]
 |u::us,vs,n+1,h=>by
  have⟨v,r,rfl,a,b⟩:=h;show⟨v,r.take n,rfl,a,b.take n⟩
theorem aq.drop:∀{us:List U}{vs:List V} (n:Nat),aq C S H us vs->aq C S H (us.drop n) (vs.drop n)
 |_,_,0,h=>h
 |[],_,n+1,h=>by cases h;simp[aq]
 |u::us,vs,n+1,h=>by
  have⟨v,r,rfl,b,a⟩:=h;show a.drop n
theorem aq.set:∀{us:List U}{vs:List V} (n:Nat) {u:U}{v:V},aq C S H us vs->Rep C S H u v->aq C S H (us.set n u) (vs.set n v)
 |[],_,n,_,_,h,_=>by cases h;simp[aq]
 |u::us,vs,0,_,_,h,h'=>by
  have⟨v,r,rfl,b,a⟩:=h;show⟨_,r,rfl,h',a⟩
 |u::us,vs,n+1,_,_,h,h'=>by
  have⟨v,r,rfl,b,a⟩:=h;show⟨v,_,rfl,b,a.set n h'⟩
def aq.snoc(h:aq C S H us vs)(h':Rep C S H u v):aq C S H (us++[u]) (vs++[v]):=h.append ⟨v,[],rfl,h',rfl⟩
theorem aq.strs:∀{xs:List Str}{vs:List V},aq C S H (xs.map .str) vs↔vs=xs.map V.str
 |[],vs=>by simp[aq]
 |x::xs,vs=>by
  constructor
  .rintro⟨v,r,rfl,a,b⟩;rw[aq.strs.mp b];have:v=.str x:=a;rw[this];rfl
  .rintro rfl;show⟨_,_,rfl,rfl,aq.strs.mpr rfl⟩
end
structure Ct.Eqv(C C':Ct):Prop where
 P:C.P=C'.P
 w:C.w=C'.w
 K:C.K=C'.K
section
mutual
theorem Rep.M0(q:C.Eqv d):∀(u:U) (v:V),Rep C S H u v->Rep d S H u v
 |.HX,_,h=>h
 |.bl _,_,h=>h
 |.int _,_,h=>h
 |.str _,_,h=>h
 |.tup us,v,h=>by
  have⟨a,vs,e,b,c⟩:=h;show⟨a,vs,e,q.K▸b,aq.M0 q us vs c⟩
 |.lst us,v,h=>by
  have⟨a,vs,e,b,c⟩:=h;show⟨a,vs,e,q.K▸b,aq.M0 q us vs c⟩
 |.HM ks us,v,h=>by
  have⟨a,e,b,c⟩:=h;show⟨a,e,b,c.mv (λ_ q=>q) λvs z=>aq.M0 q us vs z⟩
 |.IM ks,v,h=>by
  have⟨a,e,b,c⟩:=h;show⟨a,e,b,by rw[<-q.P,<-q.w,<-q.K];show c⟩
theorem aq.M0(q:C.Eqv a):∀(us:List U) (vs:List V),aq C S H us vs->aq a S H us vs
 |[],_,h=>h
 |u::us,vs,h=>by
  have⟨v,r,e,b,c⟩:=h;show⟨v,r,e,Rep.M0 q u v b,aq.M0 q us r c⟩
end
def Rep.cg(q:C.Eqv a)(h:Rep C S H u v):Rep a S H u v:=Rep.M0 q u v h
def aq.cg(q:C.Eqv a)(h:aq C S H us vs):aq a S H us vs:=aq.M0 q us vs h
end
def cY(C:Ct)(S:eW->Prop)(H:Hp)(r:eW):U->Prop
 |.lst us=>∃vs,H r=bD (.lst vs)/\aq C S H us vs
 |.HM ks us=>MY H (aq C S H us) r ks
 |.IM ks=>fQ C.P C.w C.K H r ks
 |_=>False
def cY.mv(m:Mv S H S' H')(a:∀o,H r=bD o->H' r=bD o)(h:cY C S H r u):cY C S' H' r u:=by
 cases u with
 |lst us=>have⟨vs,b,c⟩:=h;show⟨vs,a _ b,c.mv m⟩
 |HM ks us=>show MY.mv a (λvs q=>q.mv m) h
 |IM ks=>show m.uR a h
 |_=>show h
def cY.rep(hs:∀a,S a->S' a)(b:S' r)(h:cY C S H r u):Rep C S' H u (.ref r):=by
 cases u with
 |lst us=>have⟨vs,c,d⟩:=h;show⟨r,vs,rfl,.inl ⟨b,.inl c⟩,d.mv (.up hs)⟩
 |HM ks us=>show⟨r,rfl,b,MY.mv (λ_ q=>q) (λvs q=>q.mv (.up hs)) h⟩
 |IM ks=>show⟨r,rfl,b,h⟩
 |_=>show h.elim
def cY.cg(q:C.Eqv a)(h:cY C S H r u):cY a S H r u:=by
 cases u with
 |lst us=>have⟨vs,b,c⟩:=h;show⟨vs,b,c.cg q⟩
 |HM ks us=>show MY.mv (λ_ q=>q) (λvs z=>z.cg q) h
 |IM ks=>change fQ _ _ _ _ _ _;rw[<-q.P,<-q.w,<-q.K];show h
 |_=>show h
def cY.some(h:cY C S H r u):∃o,H r=bD o/\¬Tp o:=by
 cases u with
 |lst us=>obtain⟨vs,a,_⟩:=h;show⟨_,a,λz=>z⟩
 |HM ks us=>obtain⟨kvs,a,_⟩:=h;show⟨_,a,λz=>z⟩
 |IM ks=>obtain⟨xs,a,_⟩:=h;show⟨_,a,λz=>z⟩
 |_=>show h.elim
structure Cf where
 S:eW->Prop
 H:Hp
 σ:St
 st:ar
 kid:Nat->List eW
abbrev Cf.R1(c:Cf)(a:eW):Prop:=∃(j:Nat) (k:Kd) (u:U),k.root=cb/\c.st[j]?=bD (bD (k,u))/\c.σ[j]?=bD (bD (.ref a))
abbrev Cf.RD(c:Cf)(j:Nat)(a:eW):Prop:=∃(u:U) (r:eW),c.st[j]?=bD (bD (.B',u))/\c.σ[j]?=bD (bD (.ref r))/\(a=r\/a∈c.kid j)
abbrev Cf.R(c:Cf)(a:eW):Prop:=c.R1 a\/∃j,c.RD j a
abbrev PS(C:Ct)(S:eW->Prop):eW->Prop:=λa=>C.Kt a\/S a
def gk(C:Ct)(S:eW->Prop)(H:Hp):Kd->U->V->Prop
 |.own,u,v=>∃r,v=.ref r/\¬S r/\¬C.Kt r/\C.H₀ r=b7/\cY C S H r u
 |.io,u,v=>∃r,v=.ref r/\¬S r/\¬C.Kt r/\C.IO r/\cY C S H r u
 |.loc,u,v=>Rep C S H u v
 |.any,u,v=>Rep C (PS C S) H u v
 |.bor _,_,_=>False
 |.B',_,v=>∃r,v=.ref r
def dH(C:Ct)(S:eW->Prop)(H:Hp):List U->List eW->Prop
 |[],as=>as=[]
 |u::us,as=>∃a as' b vs,as=a::as'/\u=.lst b/\H a=bD (.lst vs)/\aq C S H b vs/\dH C S H us as'
def cE(C:Ct)(S:eW->Prop)(H:Hp)(r:eW)(as:List eW):U->Prop
 |.HM ks us=>∃kvs:List (Key×V),H r=bD (.dK kvs)/\kvs.map (·.1)=ks.map oa/\kvs.map (·.2)=as.map V.ref/\(r::as).Nodup/\(∀a∈r::as,¬S a/\¬C.Kt a/\C.H₀ a=b7)/\dH C S H us as
 |_=>False
structure Lc(C:Ct)(c:Cf):Prop where
 kd:∀(j:Nat) (u:U) (r:eW),c.st[j]?=bD (bD (.B',u))->c.σ[j]?=bD (bD (.ref r))->cE C c.S c.H r (c.kid j) u
 dj:∀(i j:Nat) (a:eW),c.RD i a->c.RD j a->i=j
 d1:∀(j:Nat) (a:eW),c.RD j a->¬c.R1 a
structure Ok(C:Ct)(c:Cf):Prop where
 same:∀a o,C.H₀ a=bD o->¬C.IO a->c.H a=bD o
 JY:∀a,c.S a->C.H₀ a=b7/\∃o,c.H a=bD o
 par:∀a,C.Kt a->(∃o,C.H₀ a=bD o)/\¬C.IO a
 io:∀a,C.IO a->(∃o,C.H₀ a=bD o)/\∃o,c.H a=bD o
 len:c.st.length=c.σ.length
 sl:∀(i:Nat) (k:Kd) (u:U),c.st[i]?=bD (bD (k,u))->∃v,c.σ[i]?=bD (bD v)/\gk C c.S c.H k u v
 inj:∀(i j:Nat) (k k':Kd) (u u':U) (r:eW),k.root=cb->k'.root=cb->c.st[i]?=bD (bD (k,u))->c.st[j]?=bD (bD (k',u'))->c.σ[i]?=bD (bD (.ref r))->c.σ[j]?=bD (bD (.ref r))->i=j
 dd:Lc C c
structure Ns(c c':Cf):Prop where
 keep:∀a o,c.H a=bD o->¬c.R a->c'.H a=bD o
 there:∀a o,c.H a=bD o->∃o',c'.H a=bD o'
 roots:∀a,c'.R a->c.R a\/c.H a=b7
 sub:∀a,c.S a->c'.S a
 new:∀a,c'.S a->c.S a\/c.R a\/c.H a=b7
section
def Ns.refl(c:Cf):Ns c c:=⟨λ_ _ h _=>h,λ_ o h=>⟨o,h⟩,λ_ h=>.inl h,λ_ h=>h,λ_ h=>.inl h⟩
def Ns.none(n:Ns c b)(h:b.H a=.none):c.H a=.none:=by
 cases e:c.H a with
 |none=>rfl
 |some o=>have⟨d,q⟩:=n.there a o e;rw[h]at q;cases q
def Ns.trans(m:Ns c d)(n:Ns d e):Ns c e where
 keep:=λa o h b=>by
  show n.keep a o (m.keep a o h b) λz=>?_;rcases m.roots a z with z|z
  .show b z
  .rw[h]at z;cases z
 there:=λa o h=>let ⟨f,h'⟩:=m.there a o h;n.there a f h'
 roots:=λa h=>by
  rcases n.roots a h with z|z
  .show m.roots a z
  .show .inr (m.none z)
 sub:=λa h=>n.sub a (m.sub a h)
 new:=λa h=>by
  rcases n.new a h with z|z|z
  .show m.new a z
  .rcases m.roots a z with z|z
   .show .inr (.inl z)
   .show .inr (.inr z)
  .show .inr (.inr (m.none z))
def gk.rt(hk:k.root=cb)(h:gk C S H k u v):∃r,v=.ref r/\¬S r/\¬C.Kt r/\(C.H₀ r=b7\/C.IO r)/\cY C S H r u:=by
 cases k with
 |own=>have⟨r,a,b,c,d,e⟩:=h;show⟨r,a,b,c,.inl d,e⟩
 |io=>have⟨r,a,b,c,d,e⟩:=h;show⟨r,a,b,c,.inr d,e⟩
 |_=>cases hk
theorem dH.mem:∀{us:List U}{as:List eW}{a:eW},dH C S H us as->a∈as->∃vs,H a=bD (.lst vs)
 |[],as,a,h,ha=>by cases h;cases ha
 |u::us,as,a,h,ha=>by
  obtain⟨a',as',d,vs,rfl,_,b,_,c⟩:=h;rcases d6.mp ha with rfl|ha
  .show⟨vs,b⟩
  .show dH.mem c ha
theorem dH.mv(m:Mv S H S' H'):∀{us:List U}{as:List eW},(∀a∈as,∀o,H a=bD o->H' a=bD o)->dH C S H us as->dH C S' H' us as
 |[],as,_,h=>h
 |u::us,as,b,h=>by
  have⟨a,as',c,vs,rfl,e,d,f,g⟩:=h;show⟨a,as',c,vs,rfl,e,b a (by simp) _ d,f.mv m,dH.mv m (λa i=>b a (by simp[i])) g⟩
def cE.fr(h:cE C S H r as u):∀a∈r::as,¬S a/\¬C.Kt a/\C.H₀ a=b7:=by
 cases u<;>first|show h.elim|(obtain⟨kvs,_,_,_,_,b,_⟩:=h;show b)
def cE.there(h:cE C S H r as u):∀a∈r::as,∃o,H a=bD o/\¬Tp o:=by
 cases u<;>first|show h.elim|skip
 obtain⟨kvs,b,_,_,_,_,c⟩:=h;intro a ha;rcases d6.mp ha with rfl|ha
 .show⟨_,b,λz=>z⟩
 .have⟨vs,e⟩:=c.mem ha;show⟨_,e,λz=>z⟩
def cE.mv(m:Mv S H S' H')(c:∀a∈r::as,¬S' a/\∀o,H a=bD o->H' a=bD o)(h:cE C S H r as u):cE C S' H' r as u:=by
 cases u<;>first|show h.elim|skip
 have⟨kvs,d,e,f,g,i,j⟩:=h;show⟨kvs,(c r (by simp)).2 _ d,e,f,g,λa b=>⟨(c a b).1,(i a b).2⟩,j.mv m λa b=>(c a (by simp[b])).2⟩
def Lc.of(d:Lc C c)(hk:e.kid=c.kid)(p:∀(j:Nat) (u:U),e.st[j]?=bD (bD (.B',u))->c.st[j]?=bD (bD (.B',u))/\e.σ[j]?=c.σ[j]?)(s:∀a,e.R1 a->c.R1 a\/∀j,¬c.RD j a)
  (m:Mv c.S c.H e.S e.H) (t:∀j a,c.RD j a->¬e.S a/\∀o,c.H a=bD o->e.H a=bD o):Lc C e:=by
 have b:∀j a,e.RD j a->c.RD j a:=λj a v=>by
  have⟨u,r,k,f,q⟩:=v;have⟨g,l⟩:=p j u k;rw[l]at f;rw[hk]at q;show⟨u,r,g,f,q⟩
 show⟨λj u r k f=>?_,λi j a h n=>d.dj i j a (b i a h) (b j a n),λj a h n=>?_⟩
 .have⟨g,l⟩:=p j u k;rw[l]at f;rw[hk];show cE.mv m (λa w=>t j a ⟨u,r,g,f,d6.mp w⟩) (d.kd j u r g f)
 .rcases s a n with z|z
  .show d.d1 j a (b j a h) z
  .show z j (b j a h)
def Lc.hs(d:Lc C c)(m:Mv c.S c.H S' H')(b:∀j a,c.RD j a->¬S' a/\∀o,c.H a=bD o->H' a=bD o):Lc C {c with H:=H',S:=S' } :=
 d.of rfl (λ_ _ e=>⟨e,rfl⟩) (λ_ z=>.inl z) m b
def Ok.root(f:Ok C c)(h:c.R r):¬c.S r/\¬C.Kt r/\(C.H₀ r=b7\/C.IO r)/\∃o,c.H r=bD o/\¬Tp o:=by
 rcases h with⟨j,k,u,hk,b,d⟩|⟨j,u,g,b,d,a⟩
 .have⟨v,e,hs⟩:=f.sl j _ _ b;have⟨g,ev,a,l,m,n⟩:=hs.rt hk;rw[d]at e;cases e;cases ev;show⟨a,l,m,n.some⟩
 .have i:=f.dd.kd j u g b d;have⟨p,q,s⟩:=cE.fr i r (d6.mpr a);show⟨p,q,.inl s,cE.there i r (d6.mpr a)⟩
def Ok.mv(b:Ok C c)(n:Ns c d):Mv c.S c.H d.S d.H:=⟨n.sub,λa o h t=>n.keep a o h λz=>by
  obtain⟨_,_,_,f,h',e⟩:=b.root z;rw[h]at h';cases h';show e t,λa o s h=>n.keep a o h λz=>(b.root z).1 s⟩
def Ok.Mq(b:Ok C c)(n:Ns c d):Mv (PS C c.S) c.H (PS C d.S) d.H:=⟨λa h=>h.imp id (n.sub a),(b.mv n).Pk,λa o s h=>n.keep a o h λz=>by
  rcases s with s|s
  .show(b.root z).2.1 s
  .show(b.root z).1 s⟩
def Ok.lO(a:Ok C c)(h:c.H p=b7):C.H₀ p=b7/\¬c.S p/\¬C.Kt p/\¬C.IO p/\¬c.R p:=by
 have b:¬C.IO p:=λz=>by obtain⟨_,o,q⟩:=a.io p z;rw[h]at q;cases q
 have d:C.H₀ p=b7:=by
  cases e:C.H₀ p with
  |none=>rfl
  |some o=>have:=a.same p o e b;rw[h]at this;cases this
 show⟨d,λz=>?_,λz=>?_,b,λz=>?_⟩
 .obtain⟨_,o,q⟩:=a.JY p z;rw[h]at q;cases q
 .obtain⟨⟨o,q⟩,_⟩:=a.par p z;rw[d]at q;cases q
 .obtain⟨_,_,_,o,q,_⟩:=a.root z;rw[h]at q;cases q
def gk.mv(m:Mv S H S' H')(i:Mv (PS C S) H (PS C S') H')(g:k.root=cb->∀r,v=.ref r->¬S' r/\∀o,H r=bD o->H' r=bD o)(h:gk C S H k u v):gk C S' H' k u v:=by
 cases k with
 |own =>
  have⟨r,e,l,a,b,c⟩:=h;have⟨d,f⟩:=g rfl r e;show⟨r,e,d,a,b,c.mv m f⟩
 |io =>
  have⟨r,e,l,a,b,c⟩:=h;have⟨d,f⟩:=g rfl r e;show⟨r,e,d,a,b,c.mv m f⟩
 |loc=>show Rep.mv m h
 |any=>show Rep.mv i h
 |bor j=>show h.elim
 |B'=>show h
structure Nx(c c':Cf):Prop extends Ns c c' where
instance {c a:Cf}:Coe (Nx c a) (Ns c a):=⟨Nx.toNs⟩
def Nx.refl(c:Cf):Nx c c:=⟨.refl c⟩
def Nx.trans(m:Nx c a)(n:Nx a b):Nx c b:=⟨m.toNs.trans n.toNs⟩
def Nx.none(n:Nx c b)(h:b.H a=.none):c.H a=.none:=n.toNs.none h
def Ok.lay(d:Ok C c)(h:c.H p=b7):Ok C {c with H:=upd c.H p o}/\Nx c {c with H:=upd c.H p o}:=by
 have m:∀{a:eW} {b:HO},c.H a=bD b->a≠p:=λe z=>by subst z;rw[h]at e;cases e
 have f:∀a b,c.H a=bD b->(upd c.H p o) a=bD b:=λa b e=>by rw[ay (m e)];show e
 have nx:Nx c {c with H:=upd c.H p o}:=⟨⟨λa b e _=>f a b e,λa b e=>⟨b,f a b e⟩,λa z=>.inl z,λ_ z=>z,λ_ z=>.inl z⟩⟩
 show⟨⟨λa b e z=>f a b (d.same a b e z),λa z=>⟨(d.JY a z).1,let ⟨b,q⟩:=(d.JY a z).2;⟨b,f a b q⟩⟩,d.par,λa z=>⟨(d.io a z).1,let ⟨b,q⟩:=(d.io a z).2;⟨b,f a b q⟩⟩,d.len,λi k u e=>?_,d.inj,d.dd.hs (d.mv nx.toNs) λj a z=>⟨(d.root (.inr ⟨j,z⟩)).1,λb e=>f a b e⟩⟩,nx⟩;have⟨v,n,g⟩:=d.sl i k u e;show⟨v,n,g.mv (d.mv nx.toNs) (d.Mq nx.toNs) λhk r s=>?_⟩;obtain⟨w,l,t,_⟩:=g.rt hk;rw[s]at l;cases l;show⟨t,λb e=>f r b e⟩
def Ok.grow(d:Ok C c)(hs:qt c.H H')(h:∀a,S' a->c.S a\/(c.H a=b7/\∃o,H' a=bD o))(s:∀a,c.S a->S' a):Ok C {c with H:=H',S:=S' }/\Nx c {c with H:=H',S:=S' }:=by
 have nx:Nx c {c with H:=H',S:=S' }:=⟨⟨λa b e _=>hs a b e,λa b e=>⟨b,hs a b e⟩,λa z=>.inl z,s,λa z=>(h a z).imp id λq=>.inr q.1⟩⟩
 show⟨⟨λa b e z=>hs a b (d.same a b e z),λa z=>?_,d.par,λa z=>⟨(d.io a z).1,let ⟨b,q⟩:=(d.io a z).2;⟨b,hs a b q⟩⟩,d.len,λi k u e=>?_,d.inj,d.dd.hs (d.mv nx.toNs) λj a z=>⟨λf=>?_,λb e=>hs a b e⟩⟩,nx⟩
 rotate_left 2
 .obtain⟨g,_,_,o,l,_⟩:=d.root (.inr ⟨j,z⟩);rcases h a f with f|⟨f,_⟩
  .show g f
  .rw[l]at f;cases f
 .rcases h a z with q|⟨g,m⟩
  .show⟨(d.JY a q).1,let ⟨b,q⟩:=(d.JY a q).2;⟨b,hs a b q⟩⟩
  .show⟨(d.lO g).1,m⟩
 .have⟨v,t,n⟩:=d.sl i k u e;show⟨v,t,n.mv (d.mv nx.toNs) (d.Mq nx.toNs) λhk r w=>?_⟩;have⟨x,p,g,m,y,l⟩:=n.rt hk;rw[w]at p;cases p;obtain⟨o,ho,_⟩:=l.some;show⟨λz=>?_,λb e=>hs r b e⟩;rcases h r z with z|⟨z,_⟩
  .show g z
  .rw[z]at ho;cases ho
def aK(C:Ct)(a c:Cf):Kd->U->V->Prop
 |.own,u,v=>∃r,v=.ref r/\a.H r=b7/\¬c.S r/\¬c.R r/\cY C c.S c.H r u
 |.loc,u,v=>Rep C c.S c.H u v
 |.any,u,v=>Rep C (PS C c.S) c.H u v
 |.bor j,u,v=>(∃k:Kd,k.root=cb/\c.st[j]?=bD (bD (k,u)))/\c.σ[j]?=bD (bD v)
 |.io,_,_=>False
 |.B',_,_=>False
def gp(C:Ct)(a c:Cf):Kd->U->V->Prop
 |.own,u,v=>∃r,v=.ref r/\a.H r=b7/\¬c.S r/\¬c.R r/\cY C c.S c.H r u
 |.loc,u,v=>Rep C c.S c.H u v
 |.any,u,v=>Rep C (PS C c.S) c.H u v
 |.bor j,u,v=>c.σ[j]?=bD (bD v)
 |.io,_,_=>False
 |.B',_,_=>False
def aK.w(h:aK C a c k u v):gp C a c k u v:=by
 cases k with
 |bor j=>show h.2
 |_=>show h
def gp.Uu(a:Ok C c)(n:Ns c b)(g:∀j,k=.bor j->b.σ[j]?=c.σ[j]?)(h:gp C i c k u v):gp C i b k u v:=by
 cases k with
 |own =>
  have⟨r,e,l,m,d,f⟩:=h;obtain⟨o,ho,_⟩:=f.some;show⟨r,e,l,λz=>?_,λz=>?_,f.mv (a.mv n) λo q=>n.keep r o q d⟩
  .rcases n.new r z with z|z|z
   .show m z
   .show d z
   .rw[z]at ho;cases ho
  .rcases n.roots r z with z|z
   .show d z
   .rw[z]at ho;cases ho
 |loc=>show Rep.mv (a.mv n) h
 |any=>show Rep.mv (a.Mq n) h
 |bor j=>change b.σ[j]?=_;rw[g j rfl];show h
 |_=>show h
def gp.on(b:Ok C c)(n:Ns c a)(d:a.σ=c.σ)(h:gp C e c k u v):gp C e a k u v:=h.Uu b n λj _=>by rw[d]
def gp.from(n:Ns a b)(h:gp C b c k u v):gp C a c k u v:=by
 cases k with
 |own=>have⟨r,e,d,f⟩:=h;show⟨r,e,n.none d,f⟩
 |_=>show h
def aK.from(n:Ns a b)(h:aK C b c k u v):aK C a c k u v:=by
 cases k with
 |own=>have⟨r,e,d,f⟩:=h;show⟨r,e,n.none d,f⟩
 |_=>show h
def SK(C:Ct)(c:Cf):Kd->eW->Prop
 |.any=>PS C c.S
 |_=>c.S
abbrev kE:Kd->Kd
 |.any=>.any
 |_=>.loc
def Ok.rootOf(b:Ok C c){j:Nat}(h:∃k:Kd,k.root=cb/\c.st[j]?=bD (bD (k,u)))(e:c.σ[j]?=bD (bD v)):∃r,v=.ref r/\¬c.S r/\¬C.Kt r/\(C.H₀ r=b7\/C.IO r)/\cY C c.S c.H r u:=by
 have⟨k,hk,h⟩:=h;have⟨f,a,d⟩:=b.sl j _ _ h;rw[e]at a;cases a;show d.rt hk
def aK.list(f:Ok C c)(h:aK C g c k (.lst us) v):∃a vs,v=.ref a/\Iz C.K c.H a vs/\aq C (SK C c k) c.H us vs:=by
 cases k with
 |own=>obtain⟨r,e,_,_,_,vs,b,d⟩:=h;show⟨r,vs,e,Iz.of b,d⟩
 |bor j=>obtain⟨r,e,_,_,_,vs,b,d⟩:=f.rootOf h.1 h.2;show⟨r,vs,e,Iz.of b,d⟩
 |io=>show h.elim
 |B'=>show h.elim
 |_=>have⟨a,vs,e,b,d⟩:=h;show⟨a,vs,e,b.sq,d⟩
def aK.tuple(b:Ok C c)(h:aK C g c k (.tup us) v):∃a vs,v=.ref a/\Ir C.K c.H a vs/\aq C (SK C c k) c.H us vs:=by
 cases k with
 |own=>obtain⟨r,e,_,_,_,h⟩:=h;show h.elim
 |bor j=>obtain⟨r,e,_,_,_,h⟩:=b.rootOf h.1 h.2;show h.elim
 |io=>show h.elim
 |B'=>show h.elim
 |_=>have⟨a,vs,e,d,f⟩:=h;show⟨a,vs,e,d,f⟩
def aK.flat(b:Ok C c)(a:Ii u=cb)(h:aK C d c k u v):Rep C c.S c.H u v:=by
 cases k with
 |own=>obtain⟨r,e,_,_,_,h⟩:=h;cases u<;>simp[Ii]at a<;>show h.elim
 |loc=>show h
 |any=>show Rep.Ii a h
 |bor j=>obtain⟨r,e,_,_,_,h⟩:=b.rootOf h.1 h.2;cases u<;>simp[Ii]at a<;>show h.elim
 |_=>show h.elim
def aK.int(a:Ok C c)(h:aK C b c k (.int i) v):v=.int i:=h.flat a rfl
def aK.str(a:Ok C c)(h:aK C b c k (.str x) v):v=.str x:=h.flat a rfl
def aK.bl(a:Ok C c)(h:aK C d c k (.bl b) v):v=.bl b:=h.flat a rfl
def aK.item(h:Rep C (SK C c k) c.H u v):aK C a c (kE k) u v:=by
 cases k<;>show h
abbrev JI(H:Hp):eW->Prop:=λa=>∃o,H a=bD o
def Ok.yy(b:Ok C c):∀a,c.S a->JI c.H a:=λa h=>(b.JY a h).2
def Ok.FO(b:Ok C c):∀a,PS C c.S a->JI c.H a:=λa h=>by
 rcases h with h|h
 .obtain⟨⟨o,e⟩,n⟩:=b.par a h;show⟨o,b.same a o e n⟩
 .show b.yy a h
def aK.read(a:Ok C c)(h:aK C d c k u v):Rep C (JI c.H) c.H u v:=by
 cases k with
 |own =>
  obtain⟨r,e,_,_,_,b⟩:=h;rw[e];obtain⟨o,ho,_⟩:=b.some;show b.rep a.yy ⟨o,ho⟩
 |loc=>show Rep.mv (.up a.yy) h
 |any=>show Rep.mv (.up a.FO) h
 |bor j =>
  obtain⟨r,e,_,_,_,b⟩:=a.rootOf h.1 h.2;rw[e];obtain⟨o,ho,_⟩:=b.some;show b.rep a.yy ⟨o,ho⟩
 |_=>show h.elim
def Ok.newList(a:Ok C c)(n:Nx b c)(h:c.H p=b7)(e:aq C c.S c.H us vs):
  Ok C {c with H:=upd c.H p (.lst vs)}/\Nx b {c with H:=upd c.H p (.lst vs)}/\aK C b {c with H:=upd c.H p (.lst vs)} .own (.lst us) (.ref p):=by
 have⟨f,d⟩:=a.lay (o:=.lst vs) h;have⟨j,g,k,l,i⟩:=a.lO h;show⟨f,n.trans d,p,rfl,n.none h,g,i,vs,aA,e.mv (a.mv d.toNs)⟩
def Ok.DP(a:Ok C c)(n:Nx b c)(h:c.H p=b7)(e:aq C c.S c.H us vs):
  Ok C {c with H:=upd c.H p (.tup vs)}/\Nx b {c with H:=upd c.H p (.tup vs)}/\aK C b {c with H:=upd c.H p (.tup vs)} .loc (.tup us) (.ref p):=by
 have⟨f,d⟩:=a.lay (o:=.tup vs) h;show⟨f,n.trans d,p,vs,rfl,Ir.of aA,e.mv (a.mv d.toNs)⟩
end
inductive Ex(α:Type) where|ok (a:α)|exc (c:Str)
abbrev M(α:Type):=ar->Option (Ex α×ar)
namespace M
abbrev pure(a:α):M α:=λst=>bD (.ok a,st)
abbrev fail:M α:=λ_=>b7
abbrev bind(m:M α)(f:α->M β):M β:=λst=>match m st with
 |none=>b7
 |some (.ok a,st')=>f a st'
 |some (.exc c,st')=>bD (.exc c,st')
abbrev Im(o:Option α):M α:=λst=>match o with
 |none=>b7
 |some a=>bD (.ok a,st)
end M
noncomputable instance:Monad M:={pure:=M.pure,bind:=M.bind}
abbrev W{α:Type}(m:M α)(st:ar)(Q:α->ar->Prop):Prop:=∃a st',m st=bD (.ok a,st')/\Q a st'
section
def ak:W (pure a) st Q↔Q a st:=by
 constructor
 .rintro⟨b,st',e,h⟩;cases e;show h
 .intro h;show⟨a,st,rfl,h⟩
def ah:W (m >>= f) st Q↔W m st λa st'=>W (f a) st' Q:=by
 constructor
 .rintro⟨b,st',e,h⟩;have d:M.bind m f st=bD (.ok b,st'):=e;unfold M.bind at d;cases q:m st with
  |none=>rw[q]at d;cases d
  |some r =>
   have⟨r,s1⟩:=r;rw[q]at d;cases r with
   |ok a=>show⟨a,s1,q,b,st',d,h⟩
   |exc c=>cases d
 .rintro⟨a,s1,q,b,st',e,h⟩;show⟨b,st',?_,h⟩;change M.bind m f st=_;unfold M.bind;rw[q];show e
def cq:W (M.Im o) st Q↔∃a,o=bD a/\Q a st:=by
 cases o with
 |none=>show⟨λ⟨_,_,e,_⟩=>(by cases e),λ⟨_,e,_⟩=>(by cases e)⟩
 |some a=>show⟨λ⟨_,_,e,h⟩=>(by cases e;show⟨a,rfl,h⟩),λ⟨_,e,h⟩=>(by cases e;show⟨a,st,rfl,h⟩)⟩
def bp:W (M.fail:M α) st Q↔False:=⟨λ⟨_,_,e,_⟩=>(by cases e),NT⟩
def W.mono(h:W m st Q)(i:∀a s,Q a s->Q' a s):W m st Q':=let ⟨a,s,e,q⟩:=h;⟨a,s,e,i a s q⟩
end
inductive Qt where|add|sub|mul|Ku|mod|pow
deriving DecidableEq
inductive Pl where|eq|ne|lt|le|gt|ge|isin|HK|is|Sj
deriving DecidableEq
inductive Bf where|len|sorted|list|tuple|str|int|repr|max|min|all|any
 |dict
deriving DecidableEq
inductive B2 where|LG|LH|sset|m8
deriving DecidableEq
inductive Mf where|split|join|partition|endswith
deriving DecidableEq
inductive J5 where|str|list|tuple|int|bool
deriving DecidableEq
inductive Ik where|seq|Iv|Mr|Nz|zip|rev
deriving DecidableEq
inductive E where
 |var (i:Nat)
 |cst (u:U)
 |L_ (x:Str) (u:U)
 |bin (op:Qt) (a b:E)
 |cmp (op:Pl) (a b:E)
 |LJ (o1 o2:Pl) (a b c:E)
 |and (es:List E)|or (es:List E)|not (a:E)
 |ite (c a b:E)
 |tup (es:List E)|lst (es:List E)|JC (r:Bool)
 |idx (a b:E)
 |JJ (a:E) (lo hi:List E)
 |bi (f:Bf) (es:List E)
 |Ma (f:B2) (es:List E)
 |J6 (m:Mf) (a:E) (es:List E)
 |call (f:Str) (es:List E)
 |comp (k:Nat) (t:Bool) (ik:Ik) (src:List E) (cond:List E) (e:E)
 |neg (a:E)|bad|Ms (a:E) (T:J5)|fst (es:List E)|inD (neg:Bool) (a:E) (i:Nat)|Oh (i:Nat)|Kv (i:Nat) (k d:E)|Oi (i:Nat)|Qu (ln:Bool) (a b:E)
 |LK (f:Str) (es:List E) (is:List Nat)
inductive S where
 |set (i:Nat) (e:E)
 |Mt (is:List Nat) (e:E)
 |put (i:Nat) (k v:E)
 |app (i:Nat) (e:E)|ext (i:Nat) (e:E)|bad|newD (i:Nat)|putD (i:Nat) (k v:E)|J7 (i:Nat) (k v:E)|aug (sub:Bool) (i:Nat) (k v:E)|Qv (i:Nat)
 |exp (e:E)
 |ret (e:E)|Mu
 |ite (c:E) (a b:List S)
 |Ia (t:Bool) (is:List Nat) (ik:Ik) (src:List E) (body:List S)
 |LL (c:E) (body:List S)
 |brk|cnt|Qw
 |Pn (is:List Nat)
 |LM (c:Str) (e:E)
 |Mw (i:Nat) (f:Str) (es:List E) (x c:Str) (j:Nat)
 |ins (i:Nat) (k v:E)
abbrev isAny:Kd->Bool
 |.any=>cb
 |_=>cc
abbrev gq(k:Kd)(xs:List U):Bool:=!isAny k||fU xs
abbrev kT(k k':Kd):Kd:=if isAny k||isAny k' then .any else .loc
abbrev cut{α:Type}(xs:List α)(lo a:Option Int):List α:=(xs.drop (HT.HY xs.length 0 lo)).take (HT.HY xs.length xs.length a - HT.HY xs.length 0 lo)
abbrev sQ:Kd×U->Kd×U->Option (Kd×U)
 |(_,.int i),(_,.int j)=>bD (.loc,.int (i+j))
 |(_,.str x),(_,.str y)=>if x.length+y.length<=c4 then bD (.loc,.str (x++y)) else b7
 |(k,.lst xs),(k',.lst a)=>if xs.length+a.length<=c4/\gq k xs=cb/\gq k' a=cb then bD (.own,.lst (xs++a)) else b7
 |(k,.tup xs),(k',.tup a)=>if xs.length+a.length<=c4 then bD (kT k k',.tup (xs++a)) else b7
 |_,_=>b7
abbrev sR(f:Int->Int->Option Int):U->U->Option (Kd×U)
 |.int i,.int j=>(f i j).map λn=>(.loc,.int n)
 |_,_=>b7
abbrev Ba(i j:Int):Option Int:=if ((-(2 ^ 64)<i/\i<2 ^ 64)\/(-(2 ^ 64)<j/\j<2 ^ 64)) then bD (i * j) else b7
abbrev Bb(i j:Int):Option Int:=if 0<j/\j<1073741824 then bD (i / j) else b7
abbrev Bc(i j:Int):Option Int:=if 0<j then bD (i % j) else b7
abbrev Bd(i j:Int):Option Int:=if 0<=j/\j<=1000000/\i.natAbs<2 ^ 64 then bD (i ^ j.toNat) else b7
abbrev JD(op:Qt)(x y:Kd×U):Option (Kd×U):=match op with
 |.add=>sQ x y
 |.sub=>sR (λi j=>bD (i - j)) x.2 y.2
 |.mul=>sR Ba x.2 y.2
 |.Ku=>sR Bb x.2 y.2
 |.mod=>sR Bc x.2 y.2
 |.pow=>sR Bd x.2 y.2
mutual
noncomputable def IQ:Nat->U->Bool
 |_,.HM _ _=>cc
 |_,.IM _=>cc
 |0,.tup _=>cc
 |0,.lst _=>cc
 |n+1,.tup xs=>c_ n xs
 |n+1,.lst xs=>c_ n xs
 |_,.HX=>cb|_,.bl _=>cb|_,.int _=>cb|_,.str _=>cb
noncomputable def c_:Nat->List U->Bool
 |_,[]=>cb
 |n,u::us=>IQ n u&&c_ n us
end
mutual
noncomputable def bR:U->U->Bool
 |.HX,.HX=>cb
 |.bl a,.bl b=>a==b
 |.bl a,.int b=>(if a then 1 else 0)==b
 |.int a,.bl b=>a==(if b then 1 else 0)
 |.int a,.int b=>a==b
 |.str a,.str b=>a==b
 |.tup xs,.tup c=>cF xs c
 |.lst xs,.lst c=>cF xs c
 |_,_=>cc
noncomputable def cF:List U->List U->Bool
 |[],[]=>cb
 |u::us,w::ws=>bR u w&&cF us ws
 |_,_=>cc
end
abbrev Mx(x:U)(a:List U):Option Bool:=if IQ 50 x=cb/\c_ 50 a=cb then bD (a.any λy=>bR y x) else b7
abbrev strsOf:List U->Option (List Str)
 |[]=>bD []
 |.str x::us=>(strsOf us).map (x::·)
 |_::_=>b7
abbrev rowOf:U->Option m_
 |.tup [.str x,.tup a]=>(strsOf a).map λss=>(x,ss)
 |_=>b7
abbrev Be:U->U->Option Bool
 |x,.lst a=>Mx x a
 |x,.tup a=>Mx x a
 |.str x,.HM ks _=>bD (df (x∈ks))
 |x,.IM ks=>(rowOf x).map λr=>df (r∈ks)
 |_,_=>b7
abbrev da:List Str->List U->Str->Option U
 |y::ks,u::us,x=>if y=x then bD u else da ks us x
 |_,_,_=>b7
abbrev dput(ks:List Str)(us:List U)(x:Str)(u:U):List Str×List U :=
 if x∈ks then(ks,(ks.zip us).map λp=>if p.1=x then u else p.2) else(ks++[x],us++[u])
abbrev bF:Pl->U->U->Option Bool
 |.eq,a,b=>if IQ 50 a=cb/\IQ 50 b=cb then bD (bR a b) else b7
 |.ne,a,b=>if IQ 50 a=cb/\IQ 50 b=cb then bD (!bR a b) else b7
 |.lt,.int i,.int j=>bD (df (i<j))
 |.gt,.int i,.int j=>bD (df (j<i))
 |.ge,.int i,.int j=>bD (df (j<=i))
 |.isin,x,y=>Be x y
 |.HK,x,y=>(Be x y).map (!·)
 |_,_,_=>b7
abbrev gu:List U->Option (List Bool)
 |[]=>bD []
 |.bl x::us=>(gu us).map (x::·)
 |_::_=>b7
abbrev g_:Kd×U->U->Option (Kd×U)
 |(k,.lst xs),.int i=>(Il xs i).map λu=>(kE k,u)
 |(k,.tup xs),.int i=>(Il xs i).map λu=>(kE k,u)
 |(_,.str x),.int i=>if x.length<=c4 then(Il x.cps.toList i).map λc=>(.loc,.str ⟨#[c]⟩) else b7
 |(k,.HM ks us),.str x=>(da ks us x).map λu=>(kE k,u)
 |_,_=>b7
abbrev nq:Kd×U->Option Int->Option Int->Option (Kd×U)
 |(k,.lst xs),lo,a=>if gq k xs=cb then bD (.own,.lst (cut xs lo a)) else b7
 |(k,.tup xs),lo,a=>bD (kE k,.tup (cut xs lo a))
 |(_,.str x),lo,a=>if x.length<=c4 then bD (.loc,.str (PySem.StrLaws.sliceText x lo a)) else b7
 |_,_,_=>b7
abbrev DQ:U->Option Nat
 |.lst xs=>bD xs.length
 |.tup xs=>bD xs.length
 |.str x=>if x.length<=c4 then bD x.length else b7
 |_=>b7
mutual
noncomputable def fV:U->Option Zw
 |.HX=>bD .none
 |.bl b=>bD (.bool b)
 |.int i=>bD (.int i)
 |.str x=>bD (.str x)
 |.tup us=>(kI us).map .tuple
 |.lst us=>(kI us).map .list
 |.HM _ _=>b7
 |.IM _=>b7
noncomputable def kI:List U->Option (List Zw)
 |[]=>bD []
 |u::us=>(fV u).bind λd=>(kI us).map (d::·)
end
abbrev CF:U->Bool
 |.tup _=>cb
 |.lst _=>cb
 |_=>cc
abbrev uS(u:U):Option (Kd×U):=(fV u).bind λd=>if d.showable=cb/\d.depth<=50/\d.shown.length<=c4/\CF u=cb then bD (.loc,.str d.shown) else b7
abbrev fW{β:Type}(f:Kd×U->Option β):List (Kd×U)->Option β
 |[x]=>f x
 |_=>b7
abbrev intsOf:List U->Option (List Int)
 |[]=>bD []
 |.int x::us=>(intsOf us).map (x::·)
 |_::_=>b7
abbrev DR(k:Kd)(xs:List U):Option (Kd×U):=match strsOf xs with
 |some ss=>if ss.length<64 then bD (.own,.lst ((az ss).map .str)) else b7
 |none=>(intsOf xs).bind λns=>if ns.length<64 then bD (.own,.lst ((ka ns).map .int)) else b7
abbrev DS:Kd×U->Option (Kd×U)
 |(k,.lst xs)=>DR k xs
 |(_,.HM ks _)=>if ks.length<64 then bD (.own,.lst ((az ks).map .str)) else b7
 |(_,.tup xs)=>(strsOf xs).bind λss=>if ss.length<64 then bD (.own,.lst ((az ss).map .str)) else b7
 |_=>b7
abbrev DT:Kd×U->Option (Kd×U)
 |(k,.lst xs)=>if gq k xs=cb then bD (.own,.lst xs) else b7
 |(k,.tup xs)=>if gq k xs=cb then bD (.own,.lst xs) else b7
 |_=>b7
abbrev DU:Kd×U->Option (Kd×U)
 |(k,.lst xs)=>bD (kE k,.tup xs)
 |(k,.tup xs)=>bD (kE k,.tup xs)
 |_=>b7
abbrev yz:Kd×U->Option (Kd×U)
 |(_,.int i)=>if i.natAbs.log2<1920 then bD (.loc,.str (YE i)) else b7
 |_=>b7
abbrev DV:Kd×U->Option (Kd×U)
 |(_,.lst xs)=>uS (.lst xs)
 |(_,.tup xs)=>uS (.tup xs)
 |_=>b7
abbrev DW:Kd×U->Option (Kd×U)
 |(_,.lst xs)=>(gu xs).map λbs=>(.loc,.bl (bs.all id))
 |_=>b7
abbrev DX:Kd×U->Option (Kd×U)
 |(_,.lst xs)=>(gu xs).map λbs=>(.loc,.bl (bs.any id))
 |_=>b7
abbrev Oj:U->Bool
 |.str _=>cb
 |.int _=>cb
 |_=>cc
abbrev lP:List U->Option (List (Str×U))
 |[]=>bD []
 |.tup [.str x,y]::us=>if Oj y=cb then(lP us).map ((x,y)::·) else b7
 |_::_=>b7
abbrev DY:Kd×U->Option (Kd×U)
 |(_,.lst xs)=>(lP xs).bind λps=>if (ps.map (·.1)).Nodup then bD (.own,.HM (ps.map (·.1)) (ps.map (·.2))) else b7
 |_=>b7
abbrev Jh(f:Bf)(rs:List (Kd×U)):Option (Kd×U):=match f with
 |.len=>fW (λx=>(DQ x.2).map λ(n:Nat)=>(Kd.loc,U.int (n:Int))) rs
 |.sorted=>fW DS rs
 |.list=>fW DT rs
 |.tuple=>fW DU rs
 |.str=>fW yz rs
 |.repr=>fW DV rs
 |.all=>fW DW rs
 |.any=>fW DX rs
 |.dict=>fW DY rs
 |_=>b7
abbrev qL:U->Option (List Str)
 |.lst xs=>(strsOf xs).bind λss=>if ss.length+1<Na then bD (aP ss) else b7
 |.tup xs=>(strsOf xs).bind λss=>if ss.length+1<Na then bD (aP ss) else b7
 |_=>b7
abbrev wD(f:B2)(rs:List (Kd×U)):Option (Kd×U):=match f with
 |.LG=>b7
 |.LH=>b7
 |.sset=>fW (λx=>(qL x.2).bind λss=>if ss.length<64 then bD (.own,.lst ((az ss).map .str)) else b7) rs
 |.m8=>fW (λx=>(qL x.2).map λss=>(.loc,.int ss.length)) rs
abbrev jL:Mf->U->List (Kd×U)->Option (Kd×U)
 |.split,.str a,[(_,.str b)]=>if (b.length==0)=cc/\a.length+2<=c4 then bD (.own,.lst ((Nu a b).map .str)) else b7
 |.join,.str a,[(_,.lst xs)]=>(strsOf xs).bind λss=>if Ì a ss=cb then bD (.loc,.str (Vn a ss)) else b7
 |.endswith,.str a,[(_,.str b)]=>bD (.loc,.bl (ê a b))
 |.partition,.str a,[(_,.str b)]=>if (b.length==0)=cc/\a.length<=c4 then bD (.loc,.tup [.str (q9 a b).1,.str (q9 a b).2.1,.str (q9 a b).2.2]) else b7
 |_,_,_=>b7
abbrev Hy:Kd×U->Option (List (Kd×U))
 |(k,.lst xs)=>bD (xs.map λu=>(kE k,u))
 |(k,.tup xs)=>bD (xs.map λu=>(kE k,u))
 |_=>b7
abbrev wF:Kd×U->Option (List (Kd×U))
 |(_,.int n)=>if n<2 ^ 62/\-(2 ^ 62)<n then bD ((js n.toNat).map λi:Nat=>(Kd.loc,U.int (0+(i:Int)))) else b7
 |_=>b7
abbrev DZ:List (Kd×U)->Option (List (Kd×U))
 |[(_,.int lo),(_,.int a)]=>if a<2 ^ 62/\-(2 ^ 62)<lo/\lo<2 ^ 62/\-(2 ^ 62)<a then bD ((js (a - lo).toNat).map λi:Nat=>(Kd.loc,U.int (lo+(i:Int)))) else b7
 |_=>b7
abbrev D0:Kd×U->Option (List (Kd×U))
 |(k,.lst xs)=>bD (xs.zipIdx.map λp=>(kE k,.tup [.int p.2,p.1]))
 |(k,.tup xs)=>bD (xs.zipIdx.map λp=>(kE k,.tup [.int p.2,p.1]))
 |_=>b7
abbrev Kg(ik:Ik)(rs:List (Kd×U)):Option (List (Kd×U)):=match ik with
 |.seq=>fW Hy rs
 |.Iv=>fW wF rs
 |.Mr=>DZ rs
 |.Nz=>fW D0 rs
 |_=>b7
abbrev Bg(ps:List (Str×Int)):List (Str×Int):=(kG (ps.map (·.1))).map λi=>ps.getD i (ri,0)
abbrev wG(p:Str×Int):U:=.tup [.str p.1,.int p.2]
abbrev yA:U->Option (Kd×U)
 |.HM ks us=>(intsOf us).bind λns=>if ks.length<64/\ks.Nodup/\ks.length=ns.length then bD (.own,.lst ((Bg (ks.zip ns)).map wG)) else b7
 |_=>b7
abbrev wH:U->Option Bool
 |.bl b=>bD b
 |.lst xs=>bD !xs.isEmpty
 |.tup xs=>bD !xs.isEmpty
 |.str x=>if x.length<=c4 then bD ((x.length:Int) != 0) else b7
 |_=>b7
abbrev lift:Kd×U->M U
 |(.own,u)=>pure u
 |(.loc,u)=>pure u
 |(.any,u)=>if Ii u=cb then pure u else M.fail
 |(.bor j,_)=>λst=>match st[j]? with
  |some (bD (.own,u))=>bD (.ok u,st.set j (bD (.loc,u)))
  |_=>b7
 |(.io,_)=>M.fail
 |(.B',_)=>M.fail
abbrev dC:List (Kd×U)->M (List U)
 |[]=>pure []
 |r::rs=>do let u <-lift r;let us <-dC rs;pure (u::us)
abbrev eZ(i:Nat):Kd×U->M Unit
 |(.bor j,_)=>λst=>match st[j]? with
  |some (bD (.own,u))=>bD (.ok (),(st.set j (bD (.loc,u))).set i (bD (.loc,u)))
  |_=>b7
 |(.io,_)=>M.fail
 |(.B',_)=>M.fail
 |(k,u)=>λst=>bD (.ok (),st.set i (bD (k,u)))
def br:List (Kd×U)->ar->Prop
 |[],_=>True
 |(.bor j,u)::rs,st=>(∃k:Kd,k.root=cb/\st[j]?=bD (bD (k,u)))/\br rs st
 |_::rs,st=>br rs st
open Classical in
abbrev aD(rs:List (Kd×U)):M Unit:=λst=>if br rs st then bD (.ok (),st) else b7
@[reducible]def Tab:=Str->List U->Option (Ex (Kd×U))
abbrev lQ(Γ:Tab)(f:Str)(us:List U):M (Kd×U):=λst=>match Γ f us with
 |some (.ok (.any,_))=>b7
 |none=>b7
 |some r=>bD (r,st)
abbrev lR(rs:List (Kd×U))(p:Nat):Option Nat:=match rs[p]? with
 |some (.bor j,.lst us)=>if fU us=cb then bD j else b7
 |_=>b7
abbrev CG(a:List (Option Nat)):Kd×U->Bool
 |(.bor j,_)=>df (bD j∉a)
 |_=>cb
abbrev CH(rs:List (Kd×U))(is:List Nat):Bool:=is.all (λp=>(lR rs p).isSome)&&df ((is.map (lR rs)).Nodup)&&(js rs.length).all λq=>df (q∈is)||CG (is.map (lR rs)) (rs.getD q (.loc,.HX))
abbrev uT(rs:List (Kd×U)):List Nat->List U->ar->Option ar
 |[],[],st=>bD st
 |p::is,w::ws,st=>match lR rs p with
  |some j=>match w,st[j]? with
   |.lst us,bD (bD (k,_))=>uT rs is ws (st.set j (bD (k,.lst us)))
   |_,_=>b7
  |none=>b7
 |_,_,_=>b7
abbrev Sk:Kd×U->Option (Kd×U×List U)
 |(.own,.tup (u::ws))=>bD (.own,u,ws)
 |(.loc,.tup (u::ws))=>bD (.loc,u,ws)
 |_=>b7
abbrev Bh(st:ar):Kd×U->Kd×U
 |(.bor j,u)=>(.bor j,match st[j]? with|some (bD (k,u'))=>if k.root=cb then u' else u|_=>u)
 |r=>r
abbrev FP(rs:List (Kd×U)):M (List (Kd×U)):=λst=>bD (.ok (rs.map (Bh st)),st)
abbrev yB(Γ:Tab)(f:Str)(rs:List (Kd×U))(is:List Nat):M (Kd×U):=λst=>match Γ f (rs.map (·.2)) with
 |some (.ok r)=>match Sk r with
  |some (k,u,ws)=>if CH rs is=cb then(match uT rs is ws st with|some st'=>bD (.ok (k,u),st')|none=>b7) else b7
  |none=>b7
 |_=>b7
abbrev dE(i:Nat):M (Kd×U):=λst=>match st[i]? with
 |some (bD (.B',_))=>b7
 |some (bD (k,u))=>bD (.ok (if k.root=cb then .bor i else k,u),st)
 |_=>b7
abbrev hJ(i:Nat):M (List Str×List U):=λst=>match st[i]? with
 |some (bD (.B',.HM ks us))=>bD (.ok (ks,us),st)
 |_=>b7
abbrev jc(x:Kd×U):M Str:=match x.2 with
 |.str y=>pure y
 |_=>M.fail
abbrev Po(neg:Bool)(y:Str)(ks:List Str):Bool:=if neg=cb then !df (y∈ks) else df (y∈ks)
abbrev yC(i:Nat):M (Kd×U):=λst=>match st[i]? with
 |some (bD (.B',u))=>bD (.ok (.bor i,u),st.set i (bD (.own,u)))
 |_=>dE i st
abbrev CI(i:Nat):M Unit:=λst=>bD (.ok (),st.set i (bD (.B',.HM [] [])))
abbrev lT(i:Nat)(y:Str):Kd×U->M Unit
 |(.own,.lst us)=>λst=>match st[i]? with
  |some (bD (.B',.HM ks vs))=>if y∉ks/\ks.length<c4 then bD (.ok (),st.set i (bD (.B',.HM (ks++[y]) (vs++[.lst us])))) else b7
  |_=>b7
 |_=>M.fail
abbrev kJ:List Str->List U->Str->U->List U
 |k::ks,v::vs,y,u=>if k=y then u::vs else v::kJ ks vs y u
 |_,vs,_,_=>vs
abbrev lU(i:Nat)(y:Str)(u:U):M Unit:=λst=>match st[i]? with
 |some (bD (.B',.HM ks vs))=>match da ks vs y with
  |some (.lst xs)=>if xs.length<c4 then bD (.ok (),st.set i (bD (.B',.HM ks (kJ ks vs y (.lst (xs++[u])))))) else b7
  |_=>b7
 |_=>b7
abbrev Sl:U->M Unit
 |.HM _ _=>pure ()
 |_=>M.fail
abbrev Bi(x:Kd×U)(y:Str)(u:U):Option (Kd×U):=match x with
 |(k,.HM ks us)=>bD (match da ks us y with|some v=>(kE k,v)|none=>(.loc,u))
 |_=>b7
abbrev qM(i:Nat):M (List U):=λst=>match st[i]? with
 |some (bD (k,.lst us))=>if k.root=cb then bD (.ok us,st) else b7
 |_=>b7
abbrev wI(x:Kd×U):M Int:=match x.2 with
 |.int j=>pure j
 |_=>M.fail
abbrev qN(us:List U)(j:Int):Option Int:=if 0<=j then(match us[j.toNat]? with|some (.int o)=>bD o|_=>b7) else b7
abbrev wJ(sub:Bool)(o w:Int):Int:=if sub=cb then o - w else o+w
abbrev Hz:U->Option U
 |.lst us=>bD (.lst us.reverse)
 |_=>b7
abbrev sets:List Nat->List (Kd×U)->M Unit
 |[],[]=>pure ()
 |i::is,r::rs=>do eZ i r;sets is rs
 |_,_=>M.fail
abbrev dc(t:Bool)(is:List Nat)(r:Kd×U):M Unit:=match t,is,r with
 |false,[i],r=>eZ i r
 |true,is,(k,.tup xs)=>sets is (xs.map λu=>(kE k,u))
 |_,_,_=>M.fail
abbrev inScope{α:Type}(k:Nat)(m:M α):M α:=λst=>match m (mx k b7++st) with
 |none=>b7
 |some (r,st')=>bD (r,st'.drop k)
abbrev bS(k:Nat)(t:Bool)(cond:M Bool)(elt:M (Kd×U))(src:List (Kd×U)):List (Kd×U)->List U->M (List U)
 |[],acc=>do aD src;pure acc
 |x::xs,acc=>do
  aD src
  let r <-inScope k (dc t (js k) x >>= λ_=>cond >>= λb=>if b=cb then(elt >>= λr=>lift r >>= λu=>pure (bD u)) else pure b7)
  match r with
  |some u=>if acc.length<c4 then bS k t cond elt src xs (acc++[u]) else M.fail
  |none=>bS k t cond elt src xs acc
abbrev qO:U->J5->Option Bool
 |.str _,T=>bD (df (T=.str))
 |.int _,T=>bD (df (T=.int))
 |.bl _,.bool=>bD cb
 |.bl _,.int=>bD cb
 |.lst _,T=>bD (df (T=.list))
 |.tup _,T=>bD (df (T=.tuple))
 |_,_=>b7
abbrev nu:U->Str->Option Str
 |.str y,out=>if y.length<=c4/\(out++y).length<=c4 then bD (out++y) else b7
 |.int i,out=>if i.natAbs.log2<1920/\(out++(YE i:Str)).length<=c4 then bD (out++(YE i:Str)) else b7
 |_,_=>b7
abbrev HA:Kd×U->Option (Kd×U)
 |(_,.int i)=>bD (.loc,.int (-i))
 |_=>b7
abbrev D1(x:Kd×U):M (Option Int):=match x.2 with
 |.int i=>pure (bD i)
 |_=>M.fail
abbrev My:U->M Unit
 |.lst _=>pure ()
 |_=>M.fail
section
variable(Γ:Tab)
mutual
noncomputable def ev:E->M (Kd×U)
 |.var i=>dE i
 |.cst u=>pure (.loc,u)
 |.L_ _ u=>pure (.loc,u)
 |.bin op a b=>do
  let x <-ev a
  let y <-ev b
  aD [x,y]
  M.Im (JD op x y)
 |.cmp op a b=>do
  let x <-ev a
  let y <-ev b
  aD [x,y]
  let c <-M.Im (bF op x.2 y.2)
  pure (.loc,.bl c)
 |.LJ o1 o2 a b c=>do
  let x <-ev a
  let y <-ev b
  aD [x,y]
  let p <-M.Im (bF o1 x.2 y.2)
  if p=cb then do
   let z <-ev c
   aD [y,z]
   let q <-M.Im (bF o2 y.2 z.2)
   pure (.loc,.bl q)
  else pure (.loc,.bl cc)
 |.and es=>lV es
 |.or es=>qP es
 |.not a=>do
  let x <-ev a
  match x.2 with
  |.bl c=>pure (.loc,.bl !c)
  |_=>M.fail
 |.ite c a b=>do
  let p <-H0 c
  if p=cb then ev a else ev b
 |.tup es=>do
  let rs <-bL es
  aD rs
  let us <-dC rs
  if us.length<=c4 then pure (.loc,.tup us) else M.fail
 |.lst es=>do
  let rs <-bL es
  aD rs
  let us <-dC rs
  if us.length<=c4 then pure (.own,.lst us) else M.fail
 |.JC r=>pure (.own,if r=cb then .IM [] else .HM [] [])
 |.idx a b=>do
  let x <-ev a
  let y <-ev b
  aD [x,y]
  M.Im (g_ x y.2)
 |.JJ a lo g=>do
  let x <-ev a
  let l <-NA lo
  let h <-NA g
  aD [x]
  M.Im (nq x l h)
 |.bi f es=>do
  let rs <-bL es
  aD rs
  M.Im (Jh f rs)
 |.Ma f es=>do
  let rs <-bL es
  aD rs
  M.Im (wD f rs)
 |.J6 m a es=>do
  let x <-ev a
  let rs <-bL es
  aD (x::rs)
  M.Im (jL m x.2 rs)
 |.call f es=>do
  let rs <-bL es
  aD rs
  lQ Γ f (rs.map (·.2))
 |.comp k t ik src cond e=>do
  let rs <-bL src
  aD rs
  let xs <-M.Im (Kg ik rs)
  let us <-bS k t (aR cond) (ev e) rs xs []
  pure (.own,.lst us)
 |.neg a=>do
  let x <-ev a
  M.Im (HA x)
 |.bad=>M.fail
 |.inD neg a i=>do
  let x <-ev a
  let y <-jc x
  let d <-hJ i
  pure (.loc,.bl (Po neg y d.1))
 |.Oh i=>yC i
 |.Kv i k d=>do
  let x <-dE i
  Sl x.2
  let y <-ev k
  let y <-jc y
  let z <-ev d
  let u <-lift z
  let x <-dE i
  M.Im (Bi x y u)
 |.Oi i=>do
  let x <-dE i
  M.Im (yA x.2)
 |.LK f es is=>do
  let rs <-(bL es >>= FP)
  aD rs
  yB Γ f rs is
 |.Qu _ _ _=>M.fail
 |.fst es=>do
  let s <-Mz es ri
  pure (.loc,.str s)
 |.Ms a T=>do
  let x <-ev a
  let b <-M.Im (qO x.2 T)
  pure (.loc,.bl b)
noncomputable def Mz:List E->Str->M Str
 |[],out=>pure out
 |e::es,out=>do
  let x <-ev e
  let y <-M.Im (nu x.2 out)
  Mz es y
noncomputable def bL:List E->M (List (Kd×U))
 |[]=>pure []
 |e::es=>do let r <-ev e;let rs <-bL es;pure (r::rs)
noncomputable def NA:List E->M (Option Int)
 |[]=>pure b7
 |[e]=>do let x <-ev e;D1 x
 |_=>M.fail
noncomputable def lV:List E->M (Kd×U)
 |[]=>M.fail
 |[e]=>ev e
 |e::es=>do
  let x <-ev e
  match x.2 with
  |.bl cb=>lV es
  |.bl cc=>pure (.loc,.bl cc)
  |_=>M.fail
noncomputable def qP:List E->M (Kd×U)
 |[]=>M.fail
 |[e]=>ev e
 |e::es=>do
  let x <-ev e
  match x.2 with
  |.bl cb=>pure (.loc,.bl cb)
  |.bl cc=>qP es
  |_=>M.fail
noncomputable def H0:E->M Bool
 |.and es=>aR es
 |.or es=>gv es
 |.not a=>do let b <-H0 a;pure !b
 |.cmp op a b=>do
  let x <-ev a
  let y <-ev b
  aD [x,y]
  M.Im (bF op x.2 y.2)
 |.var i=>do let x <-dE i;M.Im (wH x.2)
 |.bi f es=>do
  let rs <-bL es
  aD rs
  let r <-M.Im (Jh f rs)
  M.Im (wH r.2)
 |.call f es=>do
  let rs <-bL es
  aD rs
  let r <-lQ Γ f (rs.map (·.2))
  M.Im (wH r.2)
 |.LJ o1 o2 a b c=>do
  let x <-ev a
  let y <-ev b
  aD [x,y]
  let p <-M.Im (bF o1 x.2 y.2)
  if p=cb then do
   let z <-ev c
   aD [y,z]
   M.Im (bF o2 y.2 z.2)
  else pure cc
 |.inD neg a i=>do
  let x <-ev a
  let y <-jc x
  let d <-hJ i
  pure (Po neg y d.1)
 |.Ms a T=>do
  let x <-ev a
  M.Im (qO x.2 T)
 |_=>M.fail
noncomputable def aR:List E->M Bool
 |[]=>pure cb
 |[e]=>H0 e
 |e::es=>do let b <-H0 e;if b=cb then aR es else pure cc
noncomputable def gv:List E->M Bool
 |[]=>pure cc
 |[e]=>H0 e
 |e::es=>do let b <-H0 e;if b=cb then pure cb else gv es
end
inductive Fl where|nx|rt (k:Kd) (u:U)|bk|ct
abbrev retS:Kd×U->M Fl
 |(.own,u)=>pure (.rt .own u)
 |(.loc,u)=>pure (.rt .loc u)
 |(.any,u)=>if Ii u=cb then pure (.rt .loc u) else pure (.rt .any u)
 |(.bor j,_)=>λst=>match st[j]? with
  |some (bD (.own,u))=>bD (.ok (.rt .own u),st.set j b7)
  |_=>b7
 |(.io,_)=>M.fail
 |(.B',_)=>M.fail
abbrev forM(t:Bool)(is:List Nat)(body:M Fl)(src:List (Kd×U)):List (Kd×U)->M Fl
 |[]=>do aD src;pure .nx
 |x::xs=>do
  aD src
  dc t is x
  let f <-body
  match f with
  |.nx=>forM t is body src xs
  |.ct=>forM t is body src xs
  |.bk=>pure .nx
  |.rt k u=>pure (.rt k u)
abbrev gw(c:M Bool)(body:M Fl):Nat->M Fl
 |0=>M.fail
 |n+1=>do
  let b <-c
  if b=cb then do
   let f <-body
   match f with
   |.nx=>gw c body n
   |.ct=>gw c body n
   |.bk=>pure .nx
   |.rt k u=>pure (.rt k u)
  else pure .nx
abbrev nY(Γ:Tab)(f:Str)(us:List U)(c:Str):M (Option (Kd×U)):=λst=>match Γ f us with
 |some (.ok (.own,u))=>bD (.ok (bD (.own,u)),st)
 |some (.ok (.loc,u))=>bD (.ok (bD (.loc,u)),st)
 |some (.exc a)=>if a=c then bD (.ok b7,st) else b7
 |_=>b7
abbrev nv(i j:Nat):Option (Kd×U)->M Fl
 |some _=>pure .nx
 |none=>λst=>match st[j]? with
  |some b7=>if i≠j then(eZ i (.loc,.bl cb) >>= λ_=>pure .nx) st else b7
  |_=>b7
abbrev Bj(k u:U):U->Option U
 |.lst xs=>match k with
  |.int i=>if 0<=i/\i.toNat<=xs.length/\xs.length<c4 then bD (.lst (xs.take i.toNat++u::xs.drop i.toNat)) else b7
  |_=>b7
 |_=>b7
abbrev modS(i:Nat)(f:U->Option U):M Unit:=λst=>match st[i]? with
 |some (bD (k,u))=>if k.root=cb then match f u with
   |some u'=>bD (.ok (),st.set i (bD (k,u')))
   |none=>b7
  else b7
 |_=>b7
abbrev yD(u:U):U->Option U
 |.lst xs=>if xs.length<c4 then bD (.lst (xs++[u])) else b7
 |_=>b7
abbrev lW:Kd×U->U->Option U
 |(k,.lst a),.lst xs=>if xs.length+a.length<=c4/\gq k a=cb then bD (.lst (xs++a)) else b7
 |(k,.tup a),.lst xs=>if xs.length+a.length<=c4/\gq k a=cb then bD (.lst (xs++a)) else b7
 |_,_=>b7
abbrev eO(x u:U):U->Option U
 |.HM ks vs=>match x with
  |.str y=>if ks.length<c4 then bD (.HM (dput ks vs y u).1 (dput ks vs y u).2) else b7
  |_=>b7
 |.IM ks=>match rowOf x,u with
  |some r,.bl cb=>if r∉ks/\ks.length<=1000 then bD (.IM (ks++[r])) else b7
  |_,_=>b7
 |.lst xs=>match x with
  |.int i=>(Ly xs.length i).map λj=>.lst (xs.set j u)
  |_=>b7
 |_=>b7
abbrev uU:List U->U->Option U
 |[u,x]=>eO x u
 |_=>λ_=>b7
abbrev fuel:Nat:=1000000000000
mutual
noncomputable def Ol:S->Nat->Bool
 |.set i _,j=>df (j≠i)
 |.Mt is _,j=>df (j∉is)
 |.ite _ a b,j=>JK a j&&JK b j
 |.Ia _ is _ _ body,j=>df (j∉is)&&JK body j
 |.LL _ body,j=>JK body j
 |.put _ _ _,_=>cb
 |.app _ _,_=>cb
 |.ext _ _,_=>cb
 |.bad,_=>cb
 |.newD i,j=>df (j≠i)
 |.putD _ _ _,_=>cb
 |.J7 _ _ _,_=>cb
 |.aug _ _ _ _,_=>cb
 |.Qv _,_=>cb
 |.exp _,_=>cb
 |.ret _,_=>cb
 |.Mu,_=>cb
 |.brk,_=>cb
 |.cnt,_=>cb
 |.Qw,_=>cb
 |.Pn _,_=>cb
 |.LM _ _,_=>cb
 |.Mw i _ _ _ _ j,n=>df (n≠i)&&df (n≠j)
 |.ins _ _ _,_=>cb
noncomputable def JK:List S->Nat->Bool
 |[],_=>cb
 |s::ss,j=>Ol s j&&JK ss j
end
abbrev uV(rs:List (Kd×U))(is:List Nat)(body:List S):Bool:=rs.all λr=>match r.1 with
 |.bor j=>df (j∉is)&&JK body j
 |_=>cb
mutual
noncomputable def exec:S->M Fl
 |.set i e=>do let r <-ev Γ e;eZ i r;pure .nx
 |.Mt is e=>do let r <-ev Γ e;dc cb is r;pure .nx
 |.put i k v=>do
  let r <-ev Γ v
  let _ <-dE i
  let x <-ev Γ k
  let us <-dC [r,x]
  modS i (uU us)
  pure .nx
 |.app i e=>do
  let x <-dE i
  My x.2
  let r <-ev Γ e
  let u <-lift r
  modS i (yD u)
  pure .nx
 |.ext i e=>do
  let x <-dE i
  My x.2
  let r <-ev Γ e
  modS i (lW r)
  pure .nx
 |.bad=>M.fail
 |.newD i=>do CI i;pure .nx
 |.putD i k v=>do
  let r <-ev Γ v
  let d <-hJ i
  let x <-ev Γ k
  let y <-jc x
  lT i y r
  pure .nx
 |.J7 i k v=>do
  let _ <-hJ i
  let x <-ev Γ k
  let y <-jc x
  let d <-hJ i
  if y∈d.1 then do
   let r <-ev Γ v
   let u <-lift r
   lU i y u
   pure .nx
  else M.fail
 |.aug sub i k v=>do
  let _ <-qM i
  let y <-ev Γ k
  let j <-wI y
  let us <-qM i
  let o <-M.Im (qN us j)
  let z <-ev Γ v
  let w <-wI z
  modS i (eO (.int j) (.int (wJ sub o w)))
  pure .nx
 |.Qv i=>do
  modS i Hz
  pure .nx
 |.exp e=>do let _ <-ev Γ e;pure .nx
 |.ret e=>do let r <-ev Γ e;retS r
 |.Mu=>pure (.rt .loc .HX)
 |.ite c a b=>do let p <-H0 Γ c;if p=cb then execs a else execs b
 |.Ia t is ik src body=>do
  let rs <-bL Γ src
  aD rs
  let xs <-M.Im (Kg ik rs)
  if uV rs is body=cb then forM t is (execs body) rs xs else M.fail
 |.LL c body=>gw (H0 Γ c) (execs body) fuel
 |.brk=>pure .bk
 |.cnt=>pure .ct
 |.Qw=>pure .nx
 |.Pn _=>M.fail
 |.LM c e=>do let _ <-ev Γ e;pure (.rt .io (.str c))
 |.Mw i f es _ c j=>do
  let rs <-bL Γ es
  aD rs
  let r <-nY Γ f (rs.map (·.2)) c
  nv i j r
 |.ins i k e=>do
  let x <-dE i
  My x.2
  let y <-ev Γ k
  let r <-ev Γ e
  aD [y]
  let u <-lift r
  modS i (Bj y.2 u)
  pure .nx
noncomputable def execs:List S->M Fl
 |[]=>pure .nx
 |s::ss=>do
  let f <-exec s
  match f with
  |.nx=>execs ss
  |f=>pure f
end
end
structure Fn where
 name:Str
 np:Nat
 ns:Nat
 body:List S
abbrev start(us:List U)(n:Nat):ar:=us.map (λu=>bD (if Ii u=cb then Kd.loc else Kd.any,u))++mx (n - us.length) b7
abbrev bB(Γ:Tab)(fn:Fn)(us:List U):Option (Ex (Kd×U)):=if us.length=fn.np then match execs Γ fn.body (start us fn.ns) with
  |some (.ok (.rt .own u),_)=>bD (.ok (.own,u))
  |some (.ok (.rt .loc u),_)=>bD (.ok (.loc,u))
  |some (.ok (.rt .any u),_)=>bD (.ok (.any,u))
  |some (.ok .nx,_)=>bD (.ok (.loc,.HX))
  |some (.ok (.rt .io (.str c)),_)=>bD (.exc c)
  |_=>b7
 else b7
abbrev eQ(is:List Nat)(us:List U)(n:Nat):ar:=(us.zipIdx.map λp=>bD (if p.2∈is then Kd.io else if Ii p.1=cb then Kd.loc else Kd.any,p.1))++mx (n - us.length) b7
abbrev Pp:List Nat->ar->Option (List U)
 |[],_=>bD []
 |i::is,st=>match st[i]? with
  |some (bD (.io,u))=>(Pp is st).map (u::·)
  |_=>b7
abbrev Uv:Fl->Option (Kd×U)
 |.rt .own u=>bD (.own,u)
 |.rt .loc u=>bD (.loc,u)
 |.nx=>bD (.loc,.HX)
 |_=>b7
abbrev yE(Γ:Tab)(fn:Fn)(is:List Nat)(body:List S)(us:List U):Option (Ex (Kd×U)):=if us.length=fn.np then match execs Γ body (eQ is us fn.ns) with
  |some (.ok f,st)=>(Uv f).bind λr=>(Pp is st).map λws=>.ok (r.1,.tup (r.2::ws))
  |_=>b7
 else b7
abbrev Fn.io(fn:Fn):Option (List Nat×List S):=match fn.body with
 |.Pn is::body=>bD (is,body)
 |_=>b7
abbrev ny(Γ:Tab)(fn:Fn)(us:List U):Option (Ex (Kd×U)):=match fn.io with
 |some (is,body)=>yE Γ fn is body us
 |none=>bB Γ fn us
abbrev Io(P:List Fn):Nat->Tab
 |0=>λ_ _=>b7
 |d+1=>λf us=>match P.find? λfn=>df (fn.name=f) with
  |some fn=>ny (Io P d) fn us
  |none=>b7
end TM
namespace TM
open PySem L2
section
variable{X:Cx}{pins:List (eW×Obj)}{σ:St}{H:Hp}{s:hY}{C:Ct}{S:eW->Prop}
def uW(I:Inv X pins σ H s)(h:Iz X.K H a vs):∃its:List d4,Vals vs its/\s.heap.IsList a its.toArray/\vs.length<=c4:=by
 have⟨its,r,p,z⟩:=I.list h;show⟨its,r,p.isList,z⟩
inductive II(s:hY):Nat->U->d4->Prop where
 |HX {n:Nat}:II s n .HX .none
 |bl {n:Nat} {b:Bool}:II s n (.bl b) (.bool b)
 |int {n:Nat} {i:Int} {t:Tok}:II s n (.int i) (.int i t)
 |str {n:Nat} {y:Str} {t:Tok}:II s n (.str y) (.str y t)
 |tup {n:Nat} {us:List U} {its:List d4} {a:eW}:us.length=its.length->(∀j (hj:j<its.length),II s n (us.getD j .HX) its[j])->cF us us=cb->s.heap.IsTuple a its.toArray->II s (n+1) (.tup us) (.ref a)
 |lst {n:Nat} {us:List U} {its:List d4} {a:eW}:us.length=its.length->(∀j (hj:j<its.length),II s n (us.getD j .HX) its[j])->cF us us=cb->s.heap.IsList a its.toArray->II s (n+1) (.lst us) (.ref a)
def II.self(h:II s n u x):bR u u=cb:=by
 cases h<;>first|assumption|simp[bR]
theorem II.wK(f:∀u v x,IQ n u=cb->Rep C S H u v->RelV v x->II s n u x):∀{us:List U}{vs:List V}{its:List d4},c_ n us=cb->aq C S H us vs->Vals vs its->us.length=its.length/\(∀j (a:j<its.length),II s n (us.getD j .HX) its[j])/\cF us us=cb
 |[],_,_,_,h,r=>by cases h;cases r;show⟨rfl,λj a=>(nomatch a),rfl⟩
 |u::us,_,_,e,h,r=>by
  have⟨v,vs,rfl,b,d⟩:=h;simp only[c_,cL]at e;cases r with
  |cons c g =>
   have⟨l,k,y⟩:=II.wK f e.2 d g;show⟨by simp[l],λj a=>?_,by rw[cF,(f _ _ _ e.1 b c).self,y];rfl⟩;cases j with
   |zero=>show f _ _ _ e.1 b c
   |succ j=>show k j (by simpa using a)
def II.of(I:Inv X pins σ H s)(d:C.K=X.K):∀(n:Nat) (u:U) (v:V) (x:d4),IQ n u=cb->Rep C S H u v->RelV v x->II s n u x:=by
 intro n;induction n with
 |zero=>intro u v x e h r;cases u<;>first|(simp[IQ]at e;done)|(simp only[Rep]at h;subst h;first|(cases r;constructor)|(have⟨t,rfl⟩:=r;constructor))
 |succ n f =>
  intro u v x e h r;cases u with
  |tup us =>
   have⟨a,vs,rfl,b,c⟩:=h;cases r;obtain⟨its,rv,p,_⟩:=I.tuple (d▸b);have⟨l,k,y⟩:=II.wK f (by simpa[IQ] using e) c rv;show .tup l k y p
  |lst us =>
   have⟨a,vs,rfl,b,c⟩:=h;cases r;obtain⟨its,rv,p,_⟩:=uW I (d▸b.sq);have⟨l,k,y⟩:=II.wK f (by simpa[IQ] using e) c rv;show .lst l k y p
  |_=>first|(simp[IQ]at e;done)|(simp only[Rep]at h;subst h;first|(cases r;constructor)|(have⟨t,rfl⟩:=r;constructor))
def II.inj:∀{n:Nat}{u w:U}{x:d4},II s n u x->II s n w x->u=w:=by
 intro n;induction n with
 |zero=>intro u w x h h';cases h<;>cases h'<;>rfl
 |succ n r =>
  have go:∀{us ws:List U} {its its':List d4} {a:eW} {o g:Obj} {m i:Nat},us.length=its.length->(∀j (t:j<its.length),II s n (us.getD j .HX) its[j])->ws.length=its'.length->(∀j (t:j<its'.length),II s n (ws.getD j .HX) its'[j])->s.heap.get? a=bD o->o.data=.seq its.toArray m->s.heap.get? a=bD g->g.data=.seq its'.toArray i->us=ws:=by
   intro us ws its its' a o g m i l k c k' e d f d';rw[e]at f;cases f;rw[d]at d';injection d' with v _
   have:its=its':=by simpa using ġ Yv v
   subst this;show Pd ⋯ λj z A=>?_;have:=r (k j ⋯) (k' j ⋯);simpa[z,A] using this
  intro u w x h h';cases h with
  |tup l k y p =>
   cases h' with
   |tup c k' q b=>obtain⟨o,e,_,m,d⟩:=p;obtain⟨g,f,_,i,d'⟩:=b;rw[go l k c k' e d f d']
   |lst c k' q b=>show absurd rfl (Ys b p)
  |lst l k y p =>
   cases h' with
   |lst c k' q b=>obtain⟨o,e,_,m,d⟩:=p;obtain⟨g,f,_,i,d'⟩:=b;rw[go l k c k' e d f d']
   |tup c k' q b=>show absurd rfl (Ys p b)
  |_=>cases h';rfl
theorem jM:∀{us ws:List U},us.length≠ws.length->cF us ws=cc
 |[],[],h=>absurd rfl h
 |[],_::_,_=>rfl
 |_::_,[],_=>rfl
 |u::us,w::ws,h=>by
  rw[cF,jM (us:=us) (ws:=ws) (λe=>h (by simp[e])),XE]
theorem gy:∀{us ws:List U},us.length=ws.length->cF us ws=(js us.length).all λj=>bR (us.getD j .HX) (ws.getD j .HX)
 |[],[],_=>rfl
 |[],_::_,h=>by simp at h
 |_::_,[],h=>by simp at h
 |u::us,w::ws,h=>by
  have h':us.length=ws.length:=by simpa using h
  rw[cF,gy h',k9,List.range_succ_eq_map,List.all_cons,YD];rfl
def FQ{its its':List d4}(b:us.length=its.length)(c:ws.length=its'.length):cF us ws=((js (min its.toArray.size its'.toArray.size)).all (λj=>bR (us.getD j .HX) (ws.getD j .HX))&&its.toArray.size==its'.toArray.size):=by
 simp only[i5];by_cases a:us.length=ws.length
 .rw[gy a,show min its.length its'.length=us.length by lia,show(its.length==its'.length)=cb by simp;lia,Yp]
 .rw[jM a,show(its.length==its'.length)=cc by simp;lia,XE]
def uX(b:II s n u y)(h:Y7 A s y x k)(hs:y=x->k=cb):S7 A s y x k:=λprog w E Q a=>by
 unfold eqBool;show DD ?_;show wpAny_ite_split (λc=>?_) (λ_=>?_)
 .rw[hs (Zm c)]at a;show b8 (OC (dV a))
 .cases b<;>show b8 (h prog w E _ (Jt a))
def Sm(q:∀m,m+1=n->∀{u w:U}{x f:d4}{A:OM},II s m u x->II s m w f->A.units+m<IF->S7 A s x f (bR u w))(h:II s n u x)(h':II s n w f)(t:A.units+n<IF):Y7 A s x f (bR u w)/\Ë A s x f (!bR u w):=by
 have a:A.units<IF:=by lia
 have go:∀{m:Nat} {us ws:List U} {its its':List d4},m+1=n->(∀j (r:j<its.length),II s m (us.getD j .HX) its[j])->(∀j (r:j<its'.length),II s m (ws.getD j .HX) its'[j])->∀j (g:j<its.toArray.size) (i:j<its'.toArray.size),S7 A.in1 s its.toArray[j] its'.toArray[j] (bR (us.getD j .HX) (ws.getD j .HX)):=λ{m us ws its its'} e k k' j g i=>q m e (k j g) (k' j i) (by change A.units+1+m < _;lia);cases h with
 |HX =>
  cases h' with
  |HX=>show⟨.none_none,.none_none⟩
  |bl=>show⟨.none_bool _,.none_bool _⟩
  |int=>show⟨.none_int _ _,.none_int _ _⟩
  |str=>show⟨.none_str _ _,.none_str _ _⟩
  |tup c k' d b=>show⟨.none_tuple b a,.none_tuple b a⟩
  |lst c k' d b=>show⟨.none_list b a,.none_list b a⟩
 |bl =>
  cases h' with
  |HX=>show⟨.bool_none _,.bool_none _⟩
  |bl=>show⟨.bool_bool _ _,.bool_bool _ _⟩
  |int=>show⟨.bool_int _ _ _,.bool_int _ _ _⟩
  |str=>show⟨.bool_str _ _ _,.bool_str _ _ _⟩
  |tup c k' d b=>show⟨.bool_tuple _ b a,.bool_tuple _ b a⟩
  |lst c k' d b=>show⟨.bool_list _ b a,.bool_list _ b a⟩
 |int =>
  cases h' with
  |HX=>show⟨.int_none _ _,.int_none _ _⟩
  |bl=>show⟨.int_bool _ _ _,.int_bool _ _ _⟩
  |int=>show⟨.int_int _ _ _ _,.int_int _ _ _ _⟩
  |str=>show⟨.int_str _ _ _ _,.int_str _ _ _ _⟩
  |tup c k' d b=>show⟨.int_tuple _ _ b a,.int_tuple _ _ b a⟩
  |lst c k' d b=>show⟨.int_list _ _ b a,.int_list _ _ b a⟩
 |str =>
  cases h' with
  |HX=>show⟨.str_none _ _,.str_none _ _⟩
  |bl=>show⟨.str_bool _ _ _,.str_bool _ _ _⟩
  |int=>show⟨.str_int _ _ _ _,.str_int _ _ _ _⟩
  |str=>show⟨.str_str _ _ _ _,.str_str _ _ _ _⟩
  |tup c k' d b=>show⟨.str_tuple _ _ b a,.str_tuple _ _ b a⟩
  |lst c k' d b=>show⟨.str_list _ _ b a,.str_list _ _ b a⟩
 |tup l k y p =>
  cases h' with
  |HX=>show⟨.tuple_none p a,.tuple_none p a⟩
  |bl=>show⟨.tuple_bool _ p a,.tuple_bool _ p a⟩
  |int=>show⟨.tuple_int _ _ p a,.tuple_int _ _ p a⟩
  |str=>show⟨.tuple_str _ _ p a,.tuple_str _ _ p a⟩
  |tup c k' d b=>rw[show bR (.tup _) (.tup _)=_ from FQ l c];show⟨.tuples p b a (go rfl k k'),.tuples p b a (go rfl k k')⟩
  |lst c k' d b=>show⟨.tuple_list p b a,.tuple_list p b a⟩
 |lst l k y p =>
  cases h' with
  |HX=>show⟨.list_none p a,.list_none p a⟩
  |bl=>show⟨.list_bool _ p a,.list_bool _ p a⟩
  |int=>show⟨.list_int _ _ p a,.list_int _ _ p a⟩
  |str=>show⟨.list_str _ _ p a,.list_str _ _ p a⟩
  |tup c k' d b=>show⟨.list_tuple p b a,.list_tuple p b a⟩
  |lst c k' d b =>
   rename_i us _ _ ws _ _;by_cases o:us.length=ws.length
   .rw[show bR (.lst us) (.lst ws)=_ from gy o,l,<-i5];show⟨.lists p b (by simp;lia) a (go rfl k k'),.lists p b (by simp;lia) a (go rfl k k')⟩
   .rw[show bR (.lst us) (.lst ws)=cc from jM o];show⟨.lists_lengths p b (by simp;lia) a,.lists_lengths p b (by simp;lia) a⟩
def FR:∀{n:Nat}{u w:U}{x a:d4}{A:OM},II s n u x->II s n w a->A.units+n<IF->S7 A s x a (bR u w):=by
 intro n;induction n with
 |zero=>intro u w x a A h h' b;show uX h (Sm (λm e=>by cases e) h h' b).1 λe=>by subst e;rw[h.inj h'];show h'.self
 |succ n c=>intro u w x a A h h' b;show uX h (Sm (λm e=>by cases e;show c) h h' b).1 λe=>by subst e;rw[h.inj h'];show h'.self
def FT(h:II s n u x)(h':II s n w a)(b:A.units+n<IF):Y7 A s x a (bR u w)/\Ë A s x a (!bR u w):=Sm (λm e=>by cases e;show FR) h h' b
end
end TM
namespace TM
open PySem L2 PyProof.Rows
abbrev HR(C:Ct)(m:M (Kd×U)):TE:=λσ H Q=>∃a:Cf,a.σ=σ/\a.H=H/\Ok C a/\W m a.st λr st'=>∀c v,c.σ=σ->c.st=st'->Ok C c->Nx a c->aK C a c r.1 r.2 v->Q v c.H
abbrev Jr(C:Ct)(m:M Bool):TT:=λσ H Q=>∃a:Cf,a.σ=σ/\a.H=H/\Ok C a/\W m a.st λb st'=>∀c,c.σ=σ->c.st=st'->Ok C c->Nx a c->Q b c.H
def cP(C:Ct)(a c:Cf):List (Kd×U)->List V->Prop
 |[],vs=>vs=[]
 |r::rs,vs=>∃v t,vs=v::t/\gp C a c r.1 r.2 v/\cP C a c rs t/\(r.1=.own->∀(i:Nat) b d,rs[i]?=bD b->t[i]?=bD d->b.1=.own->d≠v)
abbrev Jn(C:Ct)(m:M (List (Kd×U))):TA:=λσ H Q=>∃a:Cf,a.σ=σ/\a.H=H/\Ok C a/\W m a.st λrs st'=>∀c vs,c.σ=σ->c.st=st'->Ok C c->Nx a c->cP C a c rs vs->Q vs c.H
section
def PE.weak(h:PE X e t)(i:∀σ H Q,t' σ H Q->t σ H Q):PE X e t':=λa s σ H Q I q=>h a s σ H Q I (i σ H Q q)
def PT.weak(h:PT X e t)(i:∀σ H Q,t' σ H Q->t σ H Q):PT X e t':=λa s σ H Q I q=>h a s σ H Q I (i σ H Q q)
def cB{st:ar}:W (aD rs) st Q↔br rs st/\Q () st:=by
 constructor
 .rintro⟨a,st',e,h⟩;unfold aD at e;split at e
  .cases e;show⟨by assumption,h⟩
  .cases e
 .rintro⟨b,c⟩;show⟨(),st,by unfold aD;rw[ĝ b],c⟩
def e_{st:ar}:br (r::rs) st↔br [r] st/\br rs st:=by
 have⟨k,u⟩:=r;cases k<;>simp[br]
def gp.t(h:gp C a c k u v)(s:br [(k,u)] c.st):aK C a c k u v:=by
 cases k with
 |bor j=>show⟨s.1,h⟩
 |_=>show h
structure Pq(C:Ct)(c0 c:Cf)(x y:Kd×U)(vx vy:V):Prop where
 hσ:c.σ=c0.σ
 ok:Ok C c
 nx:Nx c0 c
 rx:aK C c0 c x.1 x.2 vx
 ry:aK C c0 c y.1 y.2 vy
 ne:x.1=.own->y.1=.own->vy≠vx
def pA(h:gp C j b k u v)(h':gp C b c k' u' d):k=.own->k'=.own->d≠v:=by
 rintro rfl rfl e;obtain⟨r,f,_,_,_,g⟩:=h;obtain⟨l,i,a,_⟩:=h';obtain⟨o,ho,_⟩:=g.some;subst f;rw[i]at e;cases e;rw[ho]at a;cases a
def two{k:Kd×U->Kd×U->M β}{Post:β->ar->Prop}{f:d4->d4->Sem α}{Q':d4->d4->α->hY->Prop}(O:PE X a (HR C Q))(T:PE X b (HR C B))(I:Inv X e d.σ d.H s)(Y:Ok C d)
  (h:W (Q >>= λx=>B >>= λy=>aD [x,y] >>= λ_=>k x y) d.st Post)
  (hf:∀x y c i l v u s2,Pq C d c x y i l->Inv X e c.σ c.H s2->RelV i v->RelV l u->W (k x y) c.st Post->eH (ke X.prog X.w) X.A (f v u) (Q' v u) X.xe s2) :
  eH (ke X.prog X.w) X.A (JF a X.env) (λv s₁=>eH (ke X.prog X.w) X.A (JF b X.env) (λu s₂=>eH (ke X.prog X.w) X.A (f v u) (Q' v u) X.xe s₂) X.xe s₁) X.xe s:=by
 rw[ah]at h;show HS (O e s d.σ d.H (λi D=>∃x g,g.H=D/\g.σ=d.σ/\Ok C g/\Nx d g/\aK C d g x.1 x.2 i/\W (B >>= λy=>aD [x,y] >>= λ_=>k x y) g.st Post) I ⟨d,rfl,rfl,Y,h.mono λx st1 o g i p e2 q r z=>⟨x,g,rfl,p,q,r,z,by rw[e2];show o⟩⟩) ?_;rintro v s1 ⟨i,D,I1,rv,x,g,rfl,p,q,r,z,o⟩;rw[ah]at o;show HS (T e s1 d.σ g.H (λl G=>∃y j,j.H=G/\Pq C d j x y i l/\W (k x y) j.st Post) I1 ⟨g,p,rfl,q,o.mono λy st2 m j l J e4 Iw L N=>?_⟩) ?_
 .rw[ah,cB]at m;subst e4;rw[e_]at m;show⟨y,j,rfl,⟨J,Iw,r.trans L,(z.w.on q L (J.trans p.symm)).t m.1.1,(N.from r),pA z.w N.w⟩,m.2⟩
 .rintro u s2 ⟨l,G,I2,ru,y,j,rfl,n,m⟩;have hs:j.σ=d.σ:=n.hσ;show hf x y j i l v u s2 n (by rw[hs];show I2) rv ru m
structure M1(C:Ct)(c0 c:Cf)(x:Kd×U)(vx:V):Prop where
 hσ:c.σ=c0.σ
 ok:Ok C c
 nx:Nx c0 c
 rx:aK C c0 c x.1 x.2 vx
abbrev cC(C:Ct)(a:Cf)(Q:VK)(r:Kd×U)(st':ar):Prop:=∀c v,c.σ=a.σ->c.st=st'->Ok C c->Nx a c->aK C a c r.1 r.2 v->Q v c.H
section
def cC.flat(h:cC C a Q (.loc,u) c.st)(b:c.σ=a.σ)(d:Ok C c)(n:Nx a c)(r:Rep C c.S c.H u v):Q v c.H:=h c v b rfl d n r
def cC.list(h:cC C a Q (.own,.lst us) c.st)(b:c.σ=a.σ)(d:Ok C c)(n:Nx a c)(r:aq C c.S c.H us vs)(p:eW)(e:c.H p=b7):Q (.ref p) (upd c.H p (.lst vs)):=by
 have⟨f,g,i⟩:=d.newList n e r;show h {c with H:=upd c.H p (.lst vs)} _ b rfl f g i
def cC.tup(h:cC C a Q (.loc,.tup us) c.st)(b:c.σ=a.σ)(d:Ok C c)(n:Nx a c)(r:aq C c.S c.H us vs)(p:eW)(e:c.H p=b7):Q (.ref p) (upd c.H p (.tup vs)):=by
 have⟨f,g,i⟩:=d.DP n e r;show h {c with H:=upd c.H p (.tup vs)} _ b rfl f g i
def cC.tupK(h:cC C d Q (kE k,.tup us) c.st)(e:c.σ=d.σ)(a:Ok C c)(n:Nx d c)(r:aq C (SK C c k) c.H us vs)(p:eW)(f:c.H p=b7):Q (.ref p) (upd c.H p (.tup vs)):=by
 have⟨g,b⟩:=a.lay (o:=.tup vs) f;show h {c with H:=upd c.H p (.tup vs)} _ e rfl g (n.trans b) (aK.item ?_);cases k<;>show⟨p,vs,rfl,Ir.of aA,by first|show r.mv (a.Mq b)|show r.mv (a.mv b)⟩
def d0(h:gq k us=cb)(r:aq C (SK C c k) c.H us vs):aq C c.S c.H us vs:=by
 cases k with
 |any=>show r.Ii (by simpa[gq,isAny] using h)
 |_=>show r
end
def D2(k k':Kd):∀a,SK C c k a->SK C c (kT k k') a:=by
 intro a h;cases k<;>cases k'<;>first|show h|show .inr h
def Bk(k k':Kd):∀a,SK C c k' a->SK C c (kT k k') a:=by
 intro a h;cases k<;>cases k'<;>first|show h|show .inr h
def FU(k k':Kd):kE (kT k k')=kT k k':=by cases k<;>cases k'<;>rfl
def Bl:JO X (Qg .Add) (λx y H Q=>∃l b xs c,x=.ref l/\y=.ref b/\Iz X.K H l xs/\Iz X.K H b c/\xs.length+c.length<=c4/\∀p,H p=b7->Q (.ref p) (upd H p (.lst (xs++c)))):=by
 intro e s σ H x y v u Q I m o h;have⟨l,b,xs,c,rfl,rfl,t,w,hz,q⟩:=h;cases m;cases o;have⟨its,r,A,z⟩:=I.list t;have⟨d,f,B,N⟩:=I.list w;have hl:=r.length;have Kr:=f.length;obtain⟨⟨cls,dd,data,C⟩,ho,g,n,i⟩:=A.isList;obtain⟨⟨O,D,data2,G⟩,j,k,J,a⟩:=B.isList;simp only at g i k a;subst g i k a;show Xi ⟨_,ho,rfl⟩ ⟨_,j,rfl⟩ noFill_list_add seq_list_add PySem.F.slot_list_add PySem.F.entry_list_add (PySem.F.args_list_add_2 _ _)
   (list_addW l b its.toArray d.toArray n J dd D C G (by rw[i5,i5];lia)) ⟨ho,j,?_⟩
 have L:its.toArray++d.toArray=(its++d).toArray:=by simp
 rw[L];show⟨.ref _,_,I.Hr (t':=s.toks) (r.append f) (by rw[gs];lia),rfl,q _ I.fresh⟩
end
section
variable{X:Cx}{C:Ct}{pins:List (eW×Obj)}{s:hY}{c0 c:Cf}{Q:VK}
def yF:JO X (Qg .Add) (λx y H Q=>∃a b e,x=.ref a/\y=.ref b/\Ir X.K H a []/\Ir X.K H b e/\Q (.ref b) H):=by
 intro pins s σ H x y v u Q I k l h;have⟨a,b,e,rfl,rfl,m,o,q⟩:=h;cases k;cases l;obtain⟨its,p,r,_⟩:=I.tuple m;obtain⟨t,D,p2,_⟩:=I.tuple o;cases p;obtain⟨⟨cls,dd,data,w⟩,ho,f,n,g⟩:=id r;obtain⟨⟨G,z,data2,A⟩,i,j,B,d⟩:=id p2;simp only at f g j d;subst f g j d;show Xi ⟨_,ho,rfl⟩ ⟨_,i,rfl⟩ XM Y4 PySem.F.slot_tuple_add PySem.F.entry_tuple_add (PySem.F.args_tuple_add_2 _ _)
   (tuple_addW0 a b _ t.toArray n B dd z w A (by rfl)) ⟨ho,i,.ref b,H,I,rfl,q⟩
abbrev Qt.op:Qt->ZV
 |.add=>.Add|.sub=>.Sub|.mul=>.Mult|.Ku=>.FloorDiv|.mod=>.Mod|.pow=>.Pow
def fb(h:sR f a b=bD r):∃i j o,a=.int i/\b=.int j/\f i j=bD o/\r=(.loc,.int o):=by
 unfold sR at h;split at h
 .rw[d5]at h;have⟨o,e,rfl⟩:=h;show⟨_,_,o,rfl,rfl,e,rfl⟩
 .cases h
def D3(T:C.K=X.K)(t:Pq C c0 c x y g l)(I:Inv X pins c.σ c.H s)(z:RelV g v)(B:RelV l u)(h:JD op x y=bD r)(q:cC C c0 Q r c.st):
  eH (ke X.prog X.w) X.A (Qg op.op v u) (EP X pins c.σ Q) X.xe s:=by
 obtain⟨m,d,n,D,G,_⟩:=t;cases op with
 |add =>
  have h:sQ x y=bD r:=h;unfold sQ at h;split at h
  .have ex:=D.int d;have e:=G.int d;cases h;show dG pins s c.σ c.H g l v u Q I z B ⟨_,_,ex,e,q.flat m d n rfl⟩
  .have ex:=D.str d;have e:=G.str d;split at h
   .cases h;show sj pins s c.σ c.H g l v u Q I z B ⟨_,_,ex,e,by assumption,q.flat m d n rfl⟩
   .cases h
  .have⟨a,vs,ex,N,J⟩:=D.list d;have⟨b,ws,e,O,L⟩:=G.list d;split at h
   .rename_i hh;cases h;show Bl pins s c.σ c.H g l v u Q I z B ⟨a,b,vs,ws,ex,e,T▸N,T▸O,by rw[<-J.len,<-L.len];show hh.1,λp Y=>q.list m d n ((d0 hh.2.1 J).append (d0 hh.2.2 L)) p Y⟩
   .cases h
  .rename_i k xs k' ys _ _;have⟨a,vs,ex,N,J⟩:=D.tuple d;have⟨b,ws,e,O,L⟩:=G.tuple d;have Kh:=N;have N':=O;rw[T]at Kh N';split at h
   .rename_i hh;cases h;have m1:aq C (SK C c (kT k k')) c.H xs vs:=J.mv (.up (D2 k k'));have m2:aq C (SK C c (kT k k')) c.H ys ws:=L.mv (.up (Bk k k'));have q':cC C c0 Q (kE (kT k k'),.tup (xs++ys)) c.st:=by rw[FU];show q
    by_cases e1:vs=[]
    .subst e1;show yF pins s c.σ c.H g l v u Q I z B ⟨a,b,ws,ex,e,Kh,N',?_⟩;show q' c (.ref b) m rfl d n (aK.item ⟨b,ws,rfl,O,?_⟩);have:xs=[]:=by have:=m1.len;simpa using this
     rw[this];show m2
    .show AL pins s c.σ c.H g l v u Q I z B ⟨a,b,vs,ws,ex,e,Kh,N',e1,by rw[<-J.len,<-L.len];show hh,λe2=>?_,λ_ p Y=>q'.tupK m d n (m1.append m2) p Y⟩;subst e2;show q' c (.ref a) m rfl d n (aK.item ⟨a,vs,rfl,N,?_⟩);have:ys=[]:=by have:=m2.len;simpa using this
     rw[this,vu];show m1
   .cases h
  .cases h
 |sub =>
  have⟨i,j,o,ex,e,f,rfl⟩:=fb h;have ex:=(ex▸D).int d;have e:=(e▸G).int d;cases f;show la pins s c.σ c.H g l v u Q I z B ⟨_,_,ex,e,q.flat m d n rfl⟩
 |mul =>
  have⟨i,j,o,ex,e,f,rfl⟩:=fb h;have ex:=(ex▸D).int d;have e:=(e▸G).int d;unfold Ba at f;split at f
  .cases f;show oJ pins s c.σ c.H g l v u Q I z B ⟨_,_,ex,e,by assumption,q.flat m d n rfl⟩
  .cases f
 |Ku =>
  have⟨i,j,o,ex,e,f,rfl⟩:=fb h;have ex:=(ex▸D).int d;have e:=(e▸G).int d;unfold Bb at f;split at f
  .cases f;show AF pins s c.σ c.H g l v u Q I z B ⟨_,_,ex,e,by assumption,q.flat m d n rfl⟩
  .cases f
 |mod =>
  have⟨i,j,o,ex,e,f,rfl⟩:=fb h;have ex:=(ex▸D).int d;have e:=(e▸G).int d;unfold Bc at f;split at f
  .cases f;show bK pins s c.σ c.H g l v u Q I z B ⟨_,_,ex,e,by assumption,q.flat m d n rfl⟩
  .cases f
 |pow =>
  have⟨i,j,o,ex,e,f,rfl⟩:=fb h;have ex:=(ex▸D).int d;have e:=(e▸G).int d;unfold Bd at f;split at f
  .cases f;show oK pins s c.σ c.H g l v u Q I z B ⟨_,_,ex,e,by assumption,q.flat m d n rfl⟩
  .cases f
def Bm(d:C.K=X.K)(f:PE X a (HR C g))(i:PE X b (HR C j)):PE X (.BinOp a op.op b pos) (HR C (g >>= λx=>j >>= λy=>aD [x,y] >>= λ_=>M.Im (JD op x y))):=by
 rintro pins s σ H Q I ⟨c0,rfl,rfl,k,h⟩;show wpAny_BinOp (two f i I k h λx y c o p v u s2 t l m n w=>?_);have⟨r,e,q⟩:=cq.mp w;show HS (D3 d t l m n e q) λ_ _ z=>by rw[t.hσ]at z;show z
abbrev Pl.op:Pl->CmpOp
 |.eq=>.Eq|.ne=>.NotEq|.lt=>.Lt|.le=>.LtE|.gt=>.Gt|.ge=>.GtE|.isin=>.In|.HK=>.NotIn|.is=>.Is|.Sj=>.IsNot
def FV{neg:Bool}(I:Inv X pins c.σ c.H s)(i:C.K=X.K)(L:X.A.units+60<IF){S:eW->Prop}(n:Rep C S c.H x m)(o:RelV m v)(r:aq C S c.H g vs)
  (ha:Iz C.K c.H a vs\/Ir C.K c.H a vs) (t:IQ 50 x=cb) (u:c_ 50 g=cb) {Q:d4->hY->Prop} (q:Q (.bool (if neg then !(g.any λy=>bR y x) else g.any λy=>bR y x)) s) :
  eH (ke X.prog X.w) X.A (OV (if neg then .NotIn else .In) v (.ref a)) Q X.xe s:=by
 have z:=II.of I i 50 x m v t n o;have go:∀its:List d4,Vals vs its->∃e:d4->Bool,(∀y,y∈its.toArray->S7 X.A.in1 s y v (e y))/\its.toArray.any e=g.any λy=>bR y x:=by
  intro its rv;obtain⟨l,k,_⟩:=II.wK (II.of I i 50) u r rv
  classical
  have q:∀j (b:j<its.length),df (∃w,II s 50 w its[j]/\bR w x=cb)=bR (g.getD j .HX) x:=λj b=>by
   rw[Iy,decide_eq_true_iff];show⟨λ⟨w,d,f⟩=>by rw[<-d.inj (k j b)];show f,λh=>⟨_,k j b,h⟩⟩
  show⟨λy=>df (∃w,II s 50 w y/\bR w x=cb),λy B=>?_,?_⟩
  .have⟨j,b,e⟩:=RE (show y∈its by simpa using B);subst e;change S7 _ _ _ _ (decide _);rw[q j b];show FR (k j b) z (by change X.A.units+1+50 < _;lia)
  .rw[Iy];simp only[List.any_toArray,Rg];constructor
   .rintro⟨y,D,h⟩;have⟨j,b,rfl⟩:=RE D;rw[q j b]at h;show⟨_,Pb (l▸b),by simpa[l▸b] using h⟩
   .rintro⟨w,G,J⟩;have⟨j,b,rfl⟩:=RE G;show⟨_,Pb (l▸b),by rw[q j (l▸b)];simpa[b] using J⟩
 rcases ha with ha|ha
 .obtain⟨its,rv,p,_⟩:=uW I (i▸ha);have⟨e,d,f⟩:=go its rv;cases neg with
  |false=>show SeqAt.in_listAt e p d (by rw[f];show q)
  |true=>show SeqAt.notIn_listAt e p d (by rw[f];show q)
 .rw[i]at ha;obtain⟨its,rv,p,_⟩:=I.tuple ha;have⟨e,d,f⟩:=go its rv;cases neg with
  |false=>show SeqAt.in_tupleAt e p d (by rw[f];show q)
  |true=>show SeqAt.notIn_tupleAt e p d (by rw[f];show q)
end
section
theorem cw:∀{us:List U}{ss:List Str},strsOf us=bD ss->us=ss.map .str
 |[],ss,h=>by cases h;rfl
 |.str x::us,ss,h=>by
  simp only[strsOf,d5]at h;have⟨t,a,rfl⟩:=h;rw[cw a];rfl
 |.HX::_,_,h=>by cases h
 |.bl _::_,_,h=>by cases h
 |.int _::_,_,h=>by cases h
 |.tup _::_,_,h=>by cases h
 |.lst _::_,_,h=>by cases h
 |.HM _ _::_,_,h=>by cases h
 |.IM _::_,_,h=>by cases h
theorem gz:∀{us:List U}{ns:List Int},intsOf us=bD ns->us=ns.map .int
 |[],ns,h=>by cases h;rfl
 |u::us,ns,h=>by
  cases u<;>first|(cases h;done)|skip
  rename_i x;have h':(intsOf us).map (x::·)=bD ns:=h;rw[d5]at h';have⟨ms,e,rfl⟩:=h';rw[gz e];rfl
theorem aq.ints{S:eW->Prop}:∀{ns:List Int}{vs:List V},aq C S H (ns.map .int) vs->vs=ns.map V.int
 |[],vs,h=>h
 |n::ns,vs,h=>by
  have⟨v,r,rfl,a,b⟩:=h;rw[aq.ints b];have:v=.int n:=a;rw[this];rfl
theorem aq.CJ{S:eW->Prop}:∀(ns:List Int),aq C S H (ns.map .int) (ns.map V.int)
 |[]=>rfl
 |n::ns=>⟨_,_,rfl,rfl,aq.CJ ns⟩
theorem iB:∀{us:List U}{ss:List Bool},gu us=bD ss->us=ss.map .bl
 |[],ss,h=>by cases h;rfl
 |.bl x::us,ss,h=>by
  simp only[gu,d5]at h;have⟨t,a,rfl⟩:=h;rw[iB a];rfl
 |.HX::_,_,h=>by cases h
 |.str _::_,_,h=>by cases h
 |.int _::_,_,h=>by cases h
 |.tup _::_,_,h=>by cases h
 |.lst _::_,_,h=>by cases h
 |.HM _ _::_,_,h=>by cases h
 |.IM _::_,_,h=>by cases h
theorem aq.Sn{S:eW->Prop}:∀{xs:List Bool}{vs:List V},aq C S H (xs.map .bl) vs->vs=xs.map V.bl
 |[],vs,h=>h
 |x::xs,vs,h=>by
  have⟨v,r,rfl,a,b⟩:=h;rw[aq.Sn b];have:v=.bl x:=a;rw[this];rfl
abbrev FW(r:m_):U:=.tup [.str r.1,.tup (r.2.map .str)]
def lX(h:rowOf u=bD r):u=FW r:=by
 unfold rowOf at h;split at h
 .rw[d5]at h;have⟨ss,a,rfl⟩:=h;rw[cw a];rfl
 .cases h
abbrev D4(X:Cx)(a:List (eW×Obj))(c:Cf)(b:Bool)(v:d4)(s':hY):Prop:=v=.bool b/\Inv X a c.σ c.H s'
def jd(o:JO X f r)(I:Inv X a c.σ c.H s)(g:RelV d v)(i:RelV e u)(h:r d e c.H λx H'=>x=.bl b/\H'=c.H):
  eH (ke X.prog X.w) X.A (f v u) (D4 X a c b) X.xe s :=
 HS (o a s c.σ c.H d e v u _ I g i h) λw s' j=>by
  have⟨z,H',k,r,l,m⟩:=j;subst l m;show⟨r,k⟩
def aK.dict(g:Ok C c)(h:aK C i c k (.HM ks us) v):∃a kvs,v=.ref a/\c.H a=bD (.dK kvs)/\kvs.map (·.1)=ks.map oa/\aq C (SK C c k) c.H us (kvs.map (·.2)):=by
 cases k with
 |own=>obtain⟨r,e,_,_,_,kvs,b,d,f⟩:=h;show⟨r,kvs,e,b,d,f⟩
 |bor j=>obtain⟨r,e,_,_,_,kvs,b,d,f⟩:=g.rootOf h.1 h.2;show⟨r,kvs,e,b,d,f⟩
 |io=>show h.elim
 |B'=>show h.elim
 |_=>obtain⟨a,e,_,kvs,b,d,f⟩:=h;show⟨a,kvs,e,b,d,f⟩
def aK.uR(b:Ok C c)(h:aK C d c k (.IM ks) v):∃a,v=.ref a/\fQ C.P C.w C.K c.H a ks:=by
 cases k with
 |own=>obtain⟨r,e,_,_,_,h⟩:=h;show⟨r,e,h⟩
 |bor j=>obtain⟨r,e,_,_,_,h⟩:=b.rootOf h.1 h.2;show⟨r,e,h⟩
 |io=>show h.elim
 |B'=>show h.elim
 |_=>obtain⟨a,e,_,h⟩:=h;show⟨a,e,h⟩
theorem de{S:eW->Prop}:∀{ks:List Str}{us:List U}{kvs:List (Key×V)},kvs.map (·.1)=ks.map oa->aq C S H us (kvs.map (·.2)) ->
  (∀u,da ks us x=bD u->∃v,dJ kvs (oa x)=bD v/\Rep C S H u v)/\(dJ kvs (oa x)).isSome=df (x∈ks)
 |[],us,kvs,a,b=>by
  have:kvs=[]:=by simpa using a
  subst this;show⟨λu h=>by cases us<;>simp[da]at h,by simp[dJ]⟩
 |k::ks,us,[],a,b=>by simp at a
 |k::ks,[],p::kvs,a,b=>by simp[aq]at b
 |k::ks,j::us,p::kvs,a,b=>by
  have⟨v,r,e,d,f⟩:=b;rw[eF]at e;cases e;rw[eF,eF,Ph]at a;have⟨g,i⟩:=de (x:=x) a.2 f;by_cases hk:k=x
  .subst hk;show⟨λu h=>?_,?_⟩
   .simp[da]at h;subst h;show⟨p.2,eS a.1,d⟩
   .rw[eS a.1];simp
  .have c:¬p.1=oa x:=by rw[a.1];intro z;show hk (Vd z)
   show⟨λu h=>?_,?_⟩
   .simp[da,hk]at h;have⟨v,e,q⟩:=g u h;show⟨v,by rw[eT c];show e,q⟩
   .rw[eT c,i];simp[uv hk]
def D5(e:X.A.units+3<IF):JO X (OV .In) (λx y H Q=>∃k d ks,gb X.K H x k/\y=.ref d/\fQ X.prog X.w X.K H d ks/\Q (.bl (df (k∈ks))) H):=by
 intro c s σ H x y v u Q I f g h;obtain⟨k,d,ks,⟨a,b,rfl,i,j⟩,rfl,⟨xs,l,m,n⟩,q⟩:=h;cases f;cases g;have⟨o,dd⟩:=lB I l n;show wpAny_in_heap e (kL I ⟨a,b,rfl,i,j⟩) o dd ?_;show⟨.bl (df (k∈ks)),H,I.tok _,by rw[iu,m];rfl,q⟩
def Rep.row{S:eW->Prop}(h:Rep C S H (FW r) v):gb C.K H v r:=by
 have⟨a,vs,e,d,f,p,g,i,q,s,j,k,l⟩:=h;cases l;have m:f=.str r.1:=i;have⟨b,ws,n,o,c⟩:=k;rw[aq.strs]at c;subst g j m n c;show⟨a,b,e,d,o⟩
def yG(Y:C.P=X.prog)(hw:C.w=X.w)(m:C.K=X.K)(N:X.A.units+60<IF)(t:Pq C c0 c x y O vy)(I:Inv X l c.σ c.H s)(f:RelV O v)(g:RelV vy u)(h:bF op x.2 y.2=bD b):
  eH (ke X.prog X.w) X.A (OV op.op v u) (D4 X l c b) X.xe s:=by
 obtain⟨hσ,d,n,o,j,_⟩:=t;have⟨kx,ux⟩:=x;have⟨ky,uy⟩:=y
 dsimp only at h o j
 have D:∀neg:Bool,∀q,Be ux uy=bD q->eH (ke X.prog X.w) X.A (OV (if neg then .NotIn else .In) v u) (D4 X l c (if neg then !q else q)) X.xe s:=by
  intro neg q h;have G:=o.read d;have Q:=j.read d;unfold Be at h;split at h
  .have⟨a,vs,rfl,i,p⟩:=Q;cases g;unfold Mx at h;split at h
   .rename_i hh;cases h;show FV I m N G f p (.inl i.sq) hh.1 hh.2 ⟨by cases neg<;>rfl,I⟩
   .cases h
  .have⟨a,vs,rfl,i,p⟩:=Q;cases g;unfold Mx at h;split at h
   .rename_i hh;cases h;show FV I m N G f p (.inr i) hh.1 hh.2 ⟨by cases neg<;>rfl,I⟩
   .cases h
  .cases h;have ex:O=_:=G;have⟨a,kvs,rfl,i,p,B⟩:=j.dict d;cases g;subst ex;have hs:=λz:Str=>(de (x:=z) p B).2;cases neg with
   |false=>show FI ⋯ I (dX.k (k:=oa _) i) f λs' J=>⟨by rw[hs];rfl,J⟩
   |true=>show uB ⋯ I (dX.k (k:=oa _) i) f λs' J=>⟨by rw[hs];rfl,J⟩
  .rw[d5]at h;have⟨r,i,p⟩:=h;have e:=lX i;subst e;have L:=G.row;have⟨a,T,B⟩:=j.uR d;rw[m]at L B;rw[Y,hw]at B;subst p;cases neg with
   |false=>show jd (D5 ⋯) I f g ⟨r,a,_,L,T,B,rfl,rfl⟩
   |true=>show jd (wo ⋯) I f g ⟨r,a,_,L,T,B,rfl,rfl⟩
  .cases h
 unfold bF at h;split at h
 .split at h
  .rename_i hh;cases h;show(FT (n:=50) (.of I m _ _ _ _ hh.1 (o.read d) f) (.of I m _ _ _ _ hh.2 (j.read d) g) ⋯).1 _ _ _ _ ⟨rfl,I⟩
  .cases h
 .split at h
  .rename_i hh;cases h;show(FT (n:=50) (.of I m _ _ _ _ hh.1 (o.read d) f) (.of I m _ _ _ _ hh.2 (j.read d) g) ⋯).2 _ _ _ _ ⟨rfl,I⟩
  .cases h
 .cases h;show jd Fu I f g ⟨_,_,o.int d,j.int d,rfl,rfl⟩
 .cases h;show jd Fv I f g ⟨_,_,o.int d,j.int d,rfl,rfl⟩
 .cases h;show jd Fw I f g ⟨_,_,o.int d,j.int d,rfl,rfl⟩
 .show D cc b h
 .rw[d5]at h;have⟨q,i,rfl⟩:=h;show D cb q i
 .cases h
def Bn(f:C.P=X.prog)(g:C.w=X.w)(i:C.K=X.K)(j:X.A.units+60<IF)(k:PE X a (HR C l))(m:PE X b (HR C n))(o:OZ op.op b=cc):
  PE X (.Compare a [op.op] [b] pos) (HR C (l >>= λx=>n >>= λy=>aD [x,y] >>= λ_=>M.Im (bF op x.2 y.2) >>= λc=>pure (.loc,.bl c))):=by
 rintro d s σ H Q I ⟨N,rfl,rfl,p,h⟩;show ą (two k m I p h λx y c O T v u s2 t B D G w=>?_) o;rw[ah]at w;have⟨r,e,q⟩:=cq.mp w;rw[ak]at q;show HS (yG f g i j t B D G e) λz s' J=>?_;have⟨e,L⟩:=J;subst e;show⟨.bl r,c.H,by rw[<-t.hσ];show L,rfl,q c (.bl r) t.hσ rfl t.ok t.nx rfl⟩
def Bo(g:C.P=X.prog)(i:C.w=X.w)(j:C.K=X.K)(k:X.A.units+60<IF)(l:PE X a (HR C m))(n:PE X b (HR C o))(p:OZ op.op b=cc):
  PT X (.Compare a [op.op] [b] pos) (Jr C (m >>= λx=>o >>= λy=>aD [x,y] >>= λ_=>M.Im (bF op x.2 y.2))):=by
 rintro d s σ H Q I ⟨B,rfl,rfl,D,h⟩;show ZF (two (f:=λv u=>OV op.op v u) (Q':=λ_ _ c s=>eH (ke X.prog X.w) X.A (Ć c) (TP X d B.σ Q) X.xe s) l n I D h λx y c T Y v u s2 t G J L w=>?_) p;have⟨r,e,q⟩:=cq.mp w;show HS (yG g i j k t G J L e) λz s' N=>?_;have⟨e,O⟩:=N;subst e;show Jt ⟨c.H,by rw[<-t.hσ];show O,q c t.hσ rfl t.ok t.nx⟩
end
section
abbrev FX(C:Ct)(a:Cf)(Q:Bool->Hp->Prop)(b:Bool)(st':ar):Prop:=∀c,c.σ=a.σ->c.st=st'->Ok C c->Nx a c->Q b c.H
def yH(c:a.σ=b.σ)(d:Ok C a)(n:Nx b a)(h:W m a.st (cC C b Q)):HR C m b.σ a.H Q :=
 ⟨a,c,rfl,d,h.mono λr st e f v g i j k l=>e f v g i j (n.trans k) (l.from n)⟩
def yI(c:a.σ=b.σ)(d:Ok C a)(n:Nx b a)(h:W m a.st (FX C b Q)):Jr C m b.σ a.H Q :=
 ⟨a,c,rfl,d,h.mono λr st e f g i j k=>e f g i j (n.trans k)⟩
def aQ(b:Ok C a)(h:W (d >>= k) a.st Post)
  (hz:∀x c v,M1 C a c x v->W (k x) c.st Post->Z v c.H):HR C d a.σ a.H Z:=by
 rw[ah]at h;show⟨a,rfl,rfl,b,h.mono λx st1 e f g i j l m n=>hz x f g ⟨i,l,m,n⟩ (by rw[j];show e)⟩
def gA(d:Ok C a)(h:W (e >>= k) a.st Post)
  (hz:∀b c,c.σ=a.σ->Ok C c->Nx a c->W (k b) c.st Post->Z b c.H):Jr C e a.σ a.H Z:=by
 rw[ah]at h;show⟨a,rfl,rfl,d,h.mono λx st1 f g i j l m=>hz x g i l m (by rw[j];show f)⟩
abbrev FY(m:M (Kd×U))(x:Kd×U):M (Kd×U):=match x.2 with
 |.bl cb=>m
 |.bl cc=>pure (.loc,.bl cc)
 |_=>M.fail
abbrev Uw(m:M (Kd×U))(x:Kd×U):M (Kd×U):=match x.2 with
 |.bl cb=>pure (.loc,.bl cb)
 |.bl cc=>m
 |_=>M.fail
abbrev FZ(x:Kd×U):M (Kd×U):=match x.2 with
 |.bl c=>pure (.loc,.bl !c)
 |_=>M.fail
def snd_and(i:PE X a (HR C j))(l:PE X (.BoolOp .And (b::d) pos) (HR C m)):PE X (.BoolOp .And (a::b::d) pos) (HR C (j >>= FY m)):=by
 show PE.weak (C9 i l) ?_;rintro σ H Q ⟨p,rfl,rfl,o,h⟩;show aQ o h λx c v t w=>?_;have⟨k,u⟩:=x;have⟨g,f,n,r⟩:=t;unfold FY at w;split at w
 .rename_i e
  dsimp only at e r
  subst e;show⟨cb,r.bl f,by rw[ĝ rfl];show yH g f n w⟩
 .rename_i e
  dsimp only at e r
  subst e;rw[ak]at w;show⟨cc,r.bl f,by rw[ğ l'];show w c (.bl cc) g rfl f n rfl⟩
 .show(bp.mp w).elim
def D6(i:PE X a (HR C j))(l:PE X (.BoolOp .Or (b::d) pos) (HR C m)):PE X (.BoolOp .Or (a::b::d) pos) (HR C (j >>= Uw m)):=by
 show PE.weak (Fe i l) ?_;rintro σ H Q ⟨p,rfl,rfl,o,h⟩;show aQ o h λx c v t w=>?_;have⟨k,u⟩:=x;have⟨g,f,n,r⟩:=t;unfold Uw at w;split at w
 .rename_i e
  dsimp only at e r
  subst e;rw[ak]at w;show⟨cb,r.bl f,by rw[ĝ rfl];show w c (.bl cb) g rfl f n rfl⟩
 .rename_i e
  dsimp only at e r
  subst e;show⟨cc,r.bl f,by rw[ğ l'];show yH g f n w⟩
 .show(bp.mp w).elim
def Bp(d:PE X a (HR C f)):PE X (.UnaryOp .Not a pos) (HR C (f >>= FZ)):=by
 show PE.weak (C_ d) ?_;rintro σ H Q ⟨j,rfl,rfl,g,h⟩;show aQ g h λx c v t w=>?_;have⟨k,u⟩:=x;have⟨i,b,n,r⟩:=t;unfold FZ at w;split at w
 .rename_i e
  dsimp only at e r
  subst e;rw[ak]at w;show⟨_,r.bl b,w c (.bl _) i rfl b n rfl⟩
 .show(bp.mp w).elim
def Bq(d:PT X a (Jr C e)):PT X (.UnaryOp .Not a pos) (Jr C (e >>= λb=>pure !b)):=by
 show PT.weak (C8 d) ?_;rintro σ H Q ⟨j,rfl,rfl,f,h⟩;show gA f h λp c g i n w=>?_;rw[ak]at w;show w c g rfl i n
def Br(j:PT X a (Jr C k))(l:PW X (.BoolOp .And (b::d) pos) (Jr C m)):PW X (.BoolOp .And (a::b::d) pos) (Jr C (k >>= λp=>if p=cb then m else pure cc)):=by
 have o:=C7 j l;rintro q e s σ H Q I ⟨f,rfl,rfl,r,h⟩;show o q e s f.σ f.H Q I (gA r h λp c g i n w=>?_);cases p with
 |true=>rw[ĝ rfl]at w ⊢;show yI g i n w
 |false=>rw[ğ l']at w ⊢;rw[ak]at w;show w c g rfl i n
def D7(j:PT X a (Jr C k))(l:PW X (.BoolOp .Or (b::d) pos) (Jr C m)):PW X (.BoolOp .Or (a::b::d) pos) (Jr C (k >>= λp=>if p=cb then pure cb else m)):=by
 have o:=Fb j l;rintro q e s σ H Q I ⟨f,rfl,rfl,r,h⟩;show o q e s f.σ f.H Q I (gA r h λp c g i n w=>?_);cases p with
 |true=>rw[ĝ rfl]at w ⊢;rw[ak]at w;show w c g rfl i n
 |false=>rw[ğ l']at w ⊢;show yI g i n w
def uY{us:List α}{vs:List β}(h:us.length=vs.length):(!us.isEmpty)=!vs.isEmpty:=by
 cases us<;>cases vs<;>simp_all
def kO(j:PE X a (HR C l))(i:C.K=X.K)(m:∀b,isTrue a X.env b=(do let v <-b;Yw a.pos;Nc [v] (Ć v))):PT X a (Jr C (l >>= λx=>M.Im (wH x.2))):=by
 show PT.weak (xW j m) ?_;rintro σ H Q ⟨y,rfl,rfl,o,h⟩;show aQ o h λx c v t w=>?_;have⟨k,u⟩:=x;have⟨s,d,n,r⟩:=t;have⟨p,e,q⟩:=cq.mp w
 dsimp only at e r
 show⟨p,?_,q c s rfl d n⟩;unfold wH at e;split at e
 .cases e;rw[r.bl d];rfl
 .cases e;have⟨a,vs,rfl,f,g⟩:=r.list d;show .inl ⟨vs,i▸f,uY g.len⟩
 .cases e;have⟨a,vs,rfl,f,g⟩:=r.tuple d;rw[i]at f;show .inr (.inl ⟨vs,f,uY g.len⟩)
 .split at e
  .cases e;rw[r.str d];show⟨by assumption,rfl⟩
  .cases e
 .cases e
end
section
def cP.from(n:Nx a b):cP C b c rs vs->cP C a c rs vs:=by
 intro h;induction rs generalizing vs with
 |nil=>show h
 |cons r rs d=>have⟨v,t,e,f,g,i⟩:=h;show⟨v,t,e,f.from n,d g,i⟩
def cP.get{i:Nat}(h:cP C b c rs vs)(e:rs[i]?=bD r)(a:vs[i]?=bD v):gp C b c r.1 r.2 v:=by
 induction rs generalizing vs i with
 |nil=>simp at e
 |cons j rs d =>
  have⟨k,t,rfl,f,g,l⟩:=h;cases i with
  |zero=>simp at e a;subst e a;show f
  |succ i=>show d g (by simpa using e) (by simpa using a)
def Bs:PA X [] (Jn C (pure [])):=by
 rintro pos a s σ H Q I ⟨b,rfl,rfl,c,h⟩;rw[ak]at h;show iq pos a s b.σ b.H Q I (h b [] rfl rfl c (Nx.refl b) rfl)
def yJ(j:PE X e (HR C m))(k:PA X es (Jn C ms))(hs:lx (e::es) X.env=(cc,JF e X.env)::lx es X.env):PA X (e::es) (Jn C (m >>= λr=>ms >>= λrs=>pure (r::rs))):=by
 rintro pos a s σ H Q I ⟨b,rfl,rfl,l,h⟩;show dy j k hs pos a s b.σ b.H Q I (aQ l h λr n v t w=>?_);rw[ah]at w;show⟨n,t.hσ,rfl,t.ok,w.mono λrs st2 c o vs d p q f g=>?_⟩;rw[ak]at c;show c o (v::vs) d p q (t.nx.trans f) ⟨v,vs,rfl,t.rx.w.on t.ok f (d.trans t.hσ.symm),g.from t.nx,λhk i z A u x y=>?_⟩;show pA t.rx.w (g.get u x) hk y
structure J8(C:Ct)(c0 c:Cf)(rs:List (Kd×U))(vs:List V):Prop where
 hσ:c.σ=c0.σ
 ok:Ok C c
 nx:Nx c0 c
 rep:cP C c0 c rs vs
 MA:br rs c.st
def args{k:List (Kd×U)->M β}{Post:β->ar->Prop}(g:PA X es (Jn C ms))(I:Inv X a b.σ b.H s)(i:Ok C b)(h:W (ms >>= λrs=>aD rs >>= λ_=>k rs) b.st Post)(pos:Pos):
  eH (ke X.prog X.w) X.A (Ú (KW pos (lx es X.env))) (λus s1=>∃rs c vs,J8 C b c rs vs/\Inv X a c.σ c.H s1/\Vals vs us/\W (k rs) c.st Post) X.xe s:=by
 rw[ah]at h;show HS (g pos a s b.σ b.H (λvs f=>∃rs c,c.H=f/\J8 C b c rs vs/\W (k rs) c.st Post) I ⟨b,rfl,rfl,i,h.mono λrs st1 d e vs j l m n o=>?_⟩) ?_
 .rw[ah,cB]at d;subst l;show⟨rs,e,rfl,⟨j,m,n,o,d.1⟩,d.2⟩
 .rintro us s1 ⟨vs,f,p,rv,rs,e,rfl,t,w⟩;show⟨rs,e,vs,t,by rw[t.hσ];show p,rv,w⟩
def J8.one(t:J8 C a c [r] vs):∃v,vs=[v]/\aK C a c r.1 r.2 v:=by
 obtain⟨v,t',rfl,b,d,_⟩:=t.rep;cases d;show⟨v,rfl,b.t t.MA⟩
def J8.two(t:J8 C b c [r,d] vs):∃v a,vs=[v,a]/\aK C b c r.1 r.2 v/\aK C b c d.1 d.2 a:=by
 obtain⟨v,t',rfl,e,⟨a,h,rfl,f,g,_⟩,_⟩:=t.rep;cases g;have hs:=e_.mp t.MA;show⟨v,a,rfl,e.t hs.1,f.t hs.2⟩
def Ok.share(b:Ok C c)(g:C.H₀ r=b7)(h:∃o,c.H r=bD o)(hl:st'.length=c.st.length)
  (d:∀(i:Nat) k u,st'[i]?=bD (bD (k,u))->(∃v,c.σ[i]?=bD (bD v)/\gk C (λa=>c.S a\/a=r) c.H k u v)/\(k.root=cb->c.st[i]?=bD (bD (k,u)))) (l:Lc C {c with S:=λa=>c.S a\/a=r,st:=st' }) :
  Ok C {c with S:=λa=>c.S a\/a=r,st:=st' }:=by
 show⟨b.same,λa z=>?_,b.par,b.io,by rw[show({c with S:=λa=>c.S a\/a=r,st:=st' }:Cf).st.length=st'.length from rfl,hl];show b.len,λi k u e=>(d i k u e).1,λi j k k' u u' m hk f n p q s=>?_,l⟩
 .rcases z with z|rfl
  .show b.JY a z
  .show⟨g,h⟩
 .show b.inj i j k k' u u' m hk f ((d i k u n).2 hk) ((d j k' u' p).2 f) q s
def Ok.D8(s:Ok C d)(b:Ok C c)(n:Nx d c)(f:d.H r=b7)(g:¬c.R r)(t:cY C c.S c.H r u):
  Ok C {c with S:=λa=>c.S a\/a=r}/\Nx d {c with S:=λa=>c.S a\/a=r}:=by
 obtain⟨o,ho,_⟩:=t.some;show⟨b.share (st':=c.st) (s.lO f).1 ⟨o,ho⟩ rfl (λi k u e=>⟨?_,λ_=>e⟩) (b.dd.hs (.up λa=>.inl) λj a z=>⟨λq=>q.elim (b.root (.inr ⟨j,z⟩)).1 λe=>g (.inr ⟨j,e▸z⟩),λo q=>q⟩),⟨⟨n.keep,n.there,n.roots,λa z=>.inl (n.sub a z),λa z=>?_⟩⟩⟩
 .have⟨v,h,l⟩:=b.sl i k u e;have w:Mv c.S c.H (λa=>c.S a\/a=r) c.H:=.up λa=>.inl;show⟨v,h,l.mv w (.up λa z=>z.imp id .inl) λhk y m=>⟨?_,λo q=>q⟩⟩;obtain⟨A,p,x,_⟩:=l.rt hk;rw[m]at p;cases p;rintro(z|rfl)
  .show x z
  .show g (.inl ⟨i,k,u,hk,e,by rw[h,m]⟩)
 .rcases z with z|rfl
  .show n.new a z
  .show .inr (.inr f)
def Ok.yK(d:Ok C c)(n:Nx D c)(g:c.st[j]?=bD (bD (.own,u)))(h:c.σ[j]?=bD (bD (.ref r))):
  Ok C {c with S:=λa=>c.S a\/a=r,st:=c.st.set j (bD (.loc,u))}/\Nx D {c with S:=λa=>c.S a\/a=r,st:=c.st.set j (bD (.loc,u))}/\Rep C (λa=>c.S a\/a=r) c.H u (.ref r):=by
 have⟨Y,f,l,m,q1,q2,G,x⟩:=d.sl j _ _ g;rw[h]at f;cases f;cases m;have y:Rep C (λa=>c.S a\/a=r) c.H u (.ref r):=x.rep (λa=>.inl) (.inr rfl);obtain⟨o,ho,_⟩:=x.some;have s:j<c.st.length:=(et.mp g).1;have t:∀(i:Nat) k u',(c.st.set j (bD (.loc,u)))[i]?=bD (bD (k,u'))->i≠j->c.st[i]?=bD (bD (k,u')):=λi k u' e I=>by rw[ko (uv I)]at e;show e
 have J:c.R1 r:=⟨j,.own,u,rfl,g,h⟩
 have A:∀(i:Nat) (u':U),(c.st.set j (bD (.loc,u)))[i]?=bD (bD (.B',u'))->c.st[i]?=bD (bD (.B',u')):=λi u' e=>by
  by_cases b:i=j
  .subst b;rw[fx s]at e;cases e
  .show t i .B' u' e b
 have b1:∀a,({c with S:=λa=>c.S a\/a=r,st:=c.st.set j (bD (.loc,u))}:Cf).R1 a->c.R1 a:=λa L=>by
  have⟨i,k,u',hk,e,N⟩:=L;by_cases b:i=j
  .subst b;rw[fx s]at e;cases e;cases hk
  .show⟨i,k,u',hk,t i k u' e b,N⟩
 have O:Lc C {c with S:=λa=>c.S a\/a=r,st:=c.st.set j (bD (.loc,u))}:=d.dd.of rfl (λi u' e=>⟨A i u' e,rfl⟩) (λa z=>.inl (b1 a z)) (.up λa=>.inl) λi a z=>⟨λq=>q.elim (d.root (.inr ⟨i,z⟩)).1 λe=>d.dd.d1 i a z (e▸J),λo q=>q⟩
 show⟨d.share (st':=c.st.set j (bD (.loc,u))) G ⟨o,ho⟩ (by simp) (λi k u' e=>?_) O,⟨⟨n.keep,n.there,λa z=>?_,λa z=>.inl (n.sub a z),λa z=>?_⟩⟩,y⟩
 .by_cases b:i=j
  .subst b;rw[fx s]at e;cases e;show⟨⟨.ref r,h,y⟩,λz=>nomatch z⟩
  .have w:=t i k u' e b;have⟨v,f,p⟩:=d.sl i k u' w;show⟨⟨v,f,p.mv (.up λa=>.inl) (.up λa z=>z.imp id .inl) λhk l m=>⟨?_,λo q=>q⟩⟩,λ_=>w⟩;obtain⟨Qx,B,Q,_⟩:=p.rt hk;rw[m]at B;cases B;rintro(z|rfl)
   .show Q z
   .show b (d.inj i j k .own u' u l hk rfl w g (by rw[f,m]) h)
 .rcases z with z|⟨i,u',l,f,p,T⟩
  .show n.roots a (.inl (b1 a z))
  .show n.roots a (.inr ⟨i,u',l,A i u' f,p,T⟩)
 .rcases z with z|rfl
  .show n.new a z
  .rcases n.roots a (.inl ⟨j,.own,u,rfl,g,h⟩) with z|z
   .show .inr (.inl z)
   .show .inr (.inr z)
def gN(B:Ok C l)(b:Ok C c)(n:Nx l c)(d:gp C l c r.1 r.2 v)(h:W (lift r) c.st Post):
  ∃(S':eW->Prop) (st':ar) (u:U),(∀a,c.S a->S' a)/\Ok C {c with S:=S',st:=st' }/\Nx l {c with S:=S',st:=st' }/\Rep C S' c.H u v/\Post u st' /\
   (∀a,S' a->c.S a\/v=.ref a/\(r.1=.own\/c.R a))/\∀a,({c with S:=S',st:=st' }:Cf).R a->c.R a:=by
 have⟨k,u⟩:=r;cases k with
 |own =>
  rw[show lift (.own,u)=pure u from rfl,ak]at h;have⟨r,e,D,O,G,y⟩:=d;have⟨m,o⟩:=Ok.D8 B b n D G y;show⟨_,c.st,u,λa=>.inl,m,o,by rw[e];show y.rep (λa=>.inl) (.inr rfl),h,λa z=>?_,λa z=>z⟩;rcases z with z|rfl
  .show .inl z
  .show .inr ⟨e,.inl rfl⟩
 |loc =>
  rw[show lift (.loc,u)=pure u from rfl,ak]at h;show⟨c.S,c.st,u,λa=>id,b,n,d,h,λa z=>.inl z,λa z=>z⟩
 |any =>
  rw[show lift (.any,u)=if Ii u=cb then pure u else M.fail from rfl]at h;split at h
  .rw[ak]at h;show⟨c.S,c.st,u,λa=>id,b,n,Rep.Ii (by assumption) d,h,λa z=>.inl z,λa z=>z⟩
  .show(bp.mp h).elim
 |bor j =>
  have⟨x,st',e,I⟩:=h;rw[show lift (.bor j,u) c.st=match c.st[j]? with|some (bD (.own,u))=>bD (Ex.ok u,c.st.set j (bD (.loc,u)))|_=>b7 from rfl]at e;split at e
  .rename_i w f;cases e;obtain⟨Q,A,r,J,_⟩:=b.sl j _ _ f;have p:c.σ[j]?=bD (bD v):=d;rw[p]at A;cases A;subst J;have⟨m,o,q⟩:=b.yK n f p;show⟨_,_,_,λa=>.inl,m,o,q,I,λa z=>?_,λa z=>?_⟩
   .rcases z with z|rfl
    .show .inl z
    .show .inr ⟨rfl,.inr (.inl ⟨j,.own,_,rfl,f,p⟩)⟩
   .rcases z with⟨i,k,u',hk,e,s⟩|⟨i,u',L,e,s,N⟩
    rotate_left 1
    .by_cases g:i=j
     .subst g;have t:i<c.st.length:=(et.mp f).1;rw[fx t]at e;cases e
     .rw[ko (uv g)]at e;show .inr ⟨i,u',L,e,s,N⟩
    by_cases g:i=j
    .subst g;have t:i<c.st.length:=(et.mp f).1;rw[fx t]at e;cases e;cases hk
    .rw[ko (uv g)]at e;show .inl ⟨i,k,u',hk,e,s⟩
  .cases e
 |_=>show d.elim
theorem je:∀{rs:List (Kd×U)}{vs:List V}{c:Cf}{Post:List U->ar->Prop},Ok C b->Ok C c->Nx b c->cP C b c rs vs->W (dC rs) c.st Post ->
  ∃(S':eW->Prop) (st':ar) (us:List U),(∀a,c.S a->S' a)/\Ok C {c with S:=S',st:=st' }/\Nx b {c with S:=S',st:=st' }/\aq C S' c.H us vs/\Post us st'
 |[],vs,c,Post,m,p,n,s,h=>by
  rw[show dC []=pure [] from rfl,ak]at h;show⟨c.S,c.st,[],λa=>id,p,n,s,h⟩
 |r::rs,vs,c,Post,m,p,n,s,h=>by
  have⟨v,t,rfl,J,L,N⟩:=s;rw[show dC (r::rs)=lift r >>= λu=>dC rs >>= λus=>pure (u::us) from rfl,ah]at h;have⟨S1,st1,u,s1,O,Q,d,x,T,Y⟩:=gN m p n J h;rw[ah]at x;have Mb:cP C b {c with S:=S1,st:=st1} rs t:=by
   clear h x;have y:∀(l:List (Kd×U)) (w:List V),cP C b c l w->(r.1=.own->∀(i:Nat) g j,l[i]?=bD g->w[i]?=bD j->g.1=.own->j≠v)->cP C b {c with S:=S1,st:=st1} l w:=by
    intro l;induction l with
    |nil=>intro w q _;show q
    |cons r2 l ih =>
     intro w q A;have⟨B,D,rfl,k,q2,q3⟩:=q;show⟨B,D,rfl,?_,ih D q2 (λhk i g j e1 e2 IH=>A hk (i+1) g j (by simpa using e1) (by simpa using e2) IH),q3⟩;have⟨k2,u2⟩:=r2;cases k2 with
     |own =>
      have⟨a,e,p1,p2,G,p4⟩:=k;show⟨a,e,p1,λz=>?_,λz=>G (Y a z),p4.mv (.up s1) λo q=>q⟩;rcases T a z with z|⟨z,z'|z'⟩
      .show p2 z
      .show A z' 0 _ B rfl rfl rfl (e.trans z.symm)
      .show G z'
     |loc=>show Rep.mv (.up s1) k
     |any=>show Rep.mv (.up λa z=>z.imp id (s1 a)) k
     |_=>show k
   show y rs t L N
  have⟨S2,st2,us,s2,Iw,n2,f,I⟩:=je (c:={c with S:=S1,st:=st1}) m O Q Mb x;rw[ak]at I;show⟨S2,st2,u::us,λa z=>s2 a (s1 a z),Iw,n2,⟨v,t,rfl,d.mv (.up s2),f⟩,I⟩
def Bt(j:PA X es (Jn C ms)):PE X (.Tuple es q pos) (HR C (ms >>= λrs=>aD rs >>= λ_=>dC rs >>= λus=>if us.length<=c4 then pure (.loc,.tup us) else M.fail)):=by
 rintro a s σ H Q I ⟨k,rfl,rfl,g,h⟩;show wpAny_Tuple_spliced (HS (args j I g h pos) λus s1 l=>?_);have⟨rs,c,vs,t,i,rv,w⟩:=l;rw[ah]at w;have⟨S',st',ws,r,m,n,d,f⟩:=je g t.ok t.nx t.rep w;split at f
 .rename_i hz;rw[ak]at f;have hl:vs.length<=c4:=by rw[<-d.len];show hz
  show⟨by rw[<-rv.length];show hl,?_⟩;have o:c.H s1.heap.objs.size=b7:=i.HN.fresh (kb _);have p:Inv X a k.σ c.H s1:=by rw[<-t.hσ];show i
  show⟨.ref s1.heap.objs.size,upd c.H s1.heap.objs.size (.tup vs),p.laid (t':=s1.toks) (λb u e=>dt _ e) (kb _) ⟨hl,us,rv,Yj _ _⟩,rfl,?_⟩;show cC.tup (c:={c with S:=S',st:=st' }) f t.hσ m n d _ o
 .show(bp.mp f).elim
def Bu(j:PA X es (Jn C ms)):PE X (.List es pos) (HR C (ms >>= λrs=>aD rs >>= λ_=>dC rs >>= λus=>if us.length<=c4 then pure (.own,.lst us) else M.fail)):=by
 rintro a s σ H Q I ⟨k,rfl,rfl,g,h⟩;show wpAny_List_spliced (HS (args j I g h pos) λus s1 l=>?_);have⟨rs,c,vs,t,i,rv,w⟩:=l;rw[ah]at w;have⟨S',st',ws,q,m,n,d,f⟩:=je g t.ok t.nx t.rep w;split at f
 .rename_i hz;rw[ak]at f;have hl:vs.length<=c4:=by rw[<-d.len];show hz
  show⟨by rw[<-rv.length];show hl,?_⟩;have o:c.H s1.heap.objs.size=b7:=i.HN.fresh (kb _);have p:Inv X a k.σ c.H s1:=by rw[<-t.hσ];show i
  show⟨.ref s1.heap.objs.size,upd c.H s1.heap.objs.size (.lst vs),p.laid (t':=s1.toks) (λb u e=>dt _ e) (kb _) ⟨hl,us,0,rv,i4 _ rfl⟩,rfl,?_⟩;show cC.list (c:={c with S:=S',st:=st' }) f t.hσ m n d _ o
 .show(bp.mp f).elim
end
section
def pB(f:X.N[i]?=bD x)(g:J0 X.env.scope x)(l:(x==("__debug__":Str))=cc)(m:(x==("__classdict__":Str))=cc):PE X (.Name x pos) (HR C (dE i)):=by
 show PE.weak (cv f g l m) ?_;rintro σ H Q ⟨b,rfl,rfl,c,r,st',e,h⟩;unfold dE at e;split at e
 .cases e
 .rename_i k u n hs;cases e;have⟨v,d,a⟩:=c.sl i k u hs;show⟨v,d,h b v rfl rfl c (Nx.refl b) ?_⟩;by_cases hk:k.root=cb
  .rw[ĝ hk];show⟨⟨k,hk,hs⟩,d⟩
  .rw[ğ hk];cases k with
   |loc=>show a
   |any=>show a
   |bor j=>show a.elim
   |B'=>show(n rfl).elim
   |_=>show absurd rfl hk
 .cases e
def jf(h:PE X e (tC v))(r:∀S H,Rep C S H u v):PE X e (HR C (pure (.loc,u))):=by
 show PE.weak h ?_;rintro σ H Q ⟨a,rfl,rfl,b,h⟩;rw[ak]at h;show h a v rfl rfl b (Nx.refl a) (r _ _)
def cC.root(h:cC C b Q (.own,u) c.st)(e:c.σ=b.σ)(d:Ok C c)(n:Nx b c)(p:eW)(a:c.H p=b7)(r:cY C c.S (upd c.H p o) p u):Q (.ref p) (upd c.H p o):=by
 have⟨f,g⟩:=d.lay (o:=o) a;have⟨k,i,l,m,j⟩:=d.lO a;show h {c with H:=upd c.H p o} _ e rfl f (n.trans g) ⟨p,rfl,n.none a,i,j,r⟩
def yL(d:C.P=X.prog)(e:C.w=X.w)(r:Bool):PE X (.Dict [] [] pos) (HR C (pure (.own,if r=cb then .IM [] else .HM [] []))):=by
 cases r with
 |false =>
  show PE.weak qu ?_;rintro σ H Q ⟨a,rfl,rfl,b,h⟩ p c;rw[ak,ğ l']at h;show cC.root h rfl b (Nx.refl a) p c ⟨[],aA,rfl,rfl⟩
 |true =>
  show PE.weak A0 ?_;rintro σ H Q ⟨a,rfl,rfl,b,h⟩ p c;rw[ak,ĝ rfl]at h;show cC.root h rfl b (Nx.refl a) p c ⟨[],?_,rfl,λx f=>by cases f⟩;rw[d,e];show aA
def aq.Il{S:eW->Prop}(h:aq C S H us vs)(e:Il us i=bD u):∃v,L2.Il vs i=bD v/\Rep C S H u v:=by
 unfold L2.Il at e ⊢;rw[h.len]at e;cases q:Ly vs.length i with
 |none=>rw[q]at e;cases e
 |some j =>
  rw[q]at e;show h.get e
def D9(N:C.K=X.K)(hu:X.A.units+60<IF)(hs:oP b)(t:Pq C O c x y z B)(I:Inv X d c.σ c.H s)(D:RelV z v)(G:RelV B u)(h:g_ x y.2=bD r)(q:cC C O Q r c.st):
  eH (ke X.prog X.w) X.A (VN a b v u) (EP X d c.σ Q) X.xe s:=by
 obtain⟨J,f,n,L,l,-⟩:=t;have⟨ky,uy⟩:=y
 dsimp only at h l
 unfold g_ at h;split at h
 .rename_i k xs i;rw[d5]at h;have⟨w,e,rfl⟩:=h;have⟨a',vs,ex,j,m⟩:=L.list f;have⟨vw,o,p⟩:=m.Il e;show AM a b d s c.σ c.H z B v u Q I D G ⟨a',vs,i,vw,ex,l.int f,N▸j,o,q c vw J rfl f n (aK.item p)⟩ (hs _ _)
 .rename_i k xs i;rw[d5]at h;have⟨w,e,rfl⟩:=h;have⟨a',vs,ex,j,m⟩:=L.tuple f;have⟨vw,o,p⟩:=m.Il e;rw[N]at j;show lp a b d s c.σ c.H z B v u Q I D G ⟨a',vs,i,vw,ex,l.int f,j,o,q c vw J rfl f n (aK.item p)⟩ (hs _ _)
 .split at h
  .rw[d5]at h;have⟨w,e,rfl⟩:=h;show lq a b d s c.σ c.H z B v u Q I D G ⟨_,_,w,L.str f,l.int f,by assumption,e,q c _ J rfl f n rfl⟩ (hs _ _)
  .cases h
 .rename_i k ks us x;rw[d5]at h;have⟨w,e,rfl⟩:=h;have⟨a',kvs,ex,j,m,T⟩:=L.dict f;have⟨vw,o,p⟩:=(de (x:=x) m T).1 w e;have Y:=l.str f;subst ex Y;cases D;have g:dX c.H a' (.str x) (bD vw):=by rw[<-o];show dX.k (k:=oa x) j
  show ĕ (ops:=[.ref a',u]) (j4 I g) PySem.F.slot_dict_getitem.lookup (nQ ⋯ I g G λw' s3 I3 Kl=>⟨vw,c.H,I3,Kl,q c vw J rfl f n (aK.item p)⟩) (hs _ _)
 .cases h
def Bv(f:C.K=X.K)(g:X.A.units+60<IF)(hs:oP b)(i:PE X a (HR C j))(k:PE X b (HR C l)):PE X (.Subscript a b pos) (HR C (j >>= λx=>l >>= λy=>aD [x,y] >>= λ_=>M.Im (g_ x y.2))):=by
 rintro d s σ H Q I ⟨B,rfl,rfl,m,h⟩;show Ï (two i k I m h λx y c D G v u s2 t n o p w=>?_);have⟨r,e,q⟩:=cq.mp w;show HS (D9 f g hs t n o p e q) λ_ _ z=>by rw[t.hσ]at z;show z
def aq.cut{S:eW->Prop}(h:aq C S H us vs)(lo a:Option Int):aq C S H (TM.cut us lo a) (qq vs lo a):=by
 unfold TM.cut qq;rw[h.len];show(h.drop _).take _
def wL{lo a:Option Int}(h:HT.HY xs.length 0 lo=0/\HT.HY xs.length xs.length a=xs.length):cut xs lo a=xs:=by
 unfold cut;rw[h.1,h.2];simp
end
section
variable{prog:w6}{w:Ie}{A:OM}{E:d4->hY->Prop}{s:hY}
def hU{lo c:Option Int}(b:Z3 s.heap t a)(hs:s.heap.IsSliceOf d f g .none)(i:Vb f lo)(j:Vb g c)
  (e:HT.HY a.size 0 lo=0/\HT.HY a.size a.size c=a.size) (h:Q (.ref t) s):eH (ke prog w) A (Sh (.ref t) (.ref d)) Q E s:=by
 have⟨os,k,l,o⟩:=id hs;have m:s.TypeIs (.ref d) "slice":=⟨os,k,l⟩
 unfold Sh
 try with_reducible show DD ?_
 first|show b8 (dV ?_)|skip
 show b8 (Ö b.typeIs (by decide) ?_);show b8 (Mc (name:=QX "__getitem__") b.typeIs y4
  (H9 y4 b.typeIs Z9 ?_ (Î _ _)))
 change eH _ _ (Q4 (.ref t) >>= _) _ _ s;show b8 (tupleItemsOf_ b ?_);show b8 (P4 m ?_);rw[ĝ (by decide)];show b8 (HT.eR hs i j ?_);have n:(((HT.HY a.size 0 lo:Nat):Int)==0&&(1:Int)==1&&(HT.HY a.size a.size c - HT.HY a.size 0 lo)==a.size)=cb:=by
  rw[e.1,e.2];simp
 change eH _ _ (if (((HT.HY a.size 0 lo:Nat):Int)==0&&(1:Int)==1&&(HT.HY a.size a.size c - HT.HY a.size 0 lo)==a.size)=cb then _ else _) _ _ s;rw[ĝ n];change eH (ke prog w) A.in1 ((YG (mh t) >>= λx=>pure (x==.type "tuple")) >>= _) _ _ s;show b8 (b8 (P4 b.typeIs (dV ?_)));rw[ĝ (by decide)];show b8 (OC (dV ⟨_,rfl,dV h⟩))
end
section
variable{X:Cx}{C:Ct}{pins:List (eW×Obj)}{s:hY}{c0 c c1:Cf}
variable{a b d e:oT}{es:List oT}{m ma mb md:M (Kd×U)}{ms:M (List (Kd×U))}{ta tb:M Bool}{pos p p2:Pos}
def Bw:L7 X (λx lo g H Q=>∃a xs,x=.ref a/\Ir X.K H a xs/\(HT.HY xs.length 0 lo=0/\HT.HY xs.length xs.length g=xs.length)/\Q (.ref a) H):=by
 intro pins s σ H x v t u lo g w Q I j hs k l h;have⟨a,xs,rfl,n,o,q⟩:=h;cases j;have⟨its,r,i,hz⟩:=I.tuple n;have f:its.toArray.size=xs.length:=by rw[i5];show r.length.symm
 show⟨"tuple",_,y4.lookup,i.typeIs,hU i hs k l (by rw[f];show o) ⟨.ref a,H,I,rfl,q⟩⟩
abbrev tO(C:Ct)(m:M (Option Int)):TO:=λσ H Q=>∃c0:Cf,c0.σ=σ/\c0.H=H/\Ok C c0/\W m c0.st λi st'=>∀c,c.σ=σ->c.st=st'->Ok C c->Nx c0 c->Q i c.H
def jD:PO X b7 (tO C (pure b7)):=by
 rintro pins s σ H Q I ⟨c0,rfl,rfl,f,h⟩;rw[ak]at h;show AJ pins s c0.σ c0.H Q I (h c0 rfl rfl f (Nx.refl c0))
def wM(f:PE X a (HR C ma)):PO X (bD a) (tO C (ma >>= D1)):=by
 rintro pins s σ H Q I ⟨c0,rfl,rfl,g,h⟩;show AK f pins s c0.σ c0.H Q I (aQ g h λx c v t w=>?_);have⟨k,u⟩:=x;unfold D1 at w;split at w
 .rename_i i e
  dsimp only at e
  subst e;rw[ak]at w;show⟨i,t.rx.int t.ok,w c t.hσ rfl t.ok t.nx⟩
 .show(bp.mp w).elim
def D_{lo f:Option Int}(w:C.K=X.K)(j:c.σ=c0.σ)(g:Ok C c)(n:Nx c0 c)(o:aK C c0 c x.1 x.2 k)(h:nq x lo f=bD r)(q:cC C c0 Q r c.st):
  ((FF X.K k lo f c.H Q\/FC X.K k lo f c.H Q)\/(∃a xs,k=.ref a/\Ir X.K c.H a xs/\(HT.HY xs.length 0 lo=0/\HT.HY xs.length xs.length f=xs.length)/\Q (.ref a) c.H))\/FK k lo f c.H Q:=by
 unfold nq at h;split at h
 .split at h
  .rename_i hh;cases h;have⟨a',vs,ex,l,i⟩:=o.list g;show .inl (.inl (.inl ⟨a',vs,ex,w▸l,λp t=>q.list j g n ((d0 hh i).cut lo f) p t⟩))
  .cases h
 .cases h;have⟨a',vs,ex,l,i⟩:=o.tuple g;have u:=l;rw[w]at u;by_cases v:HT.HY vs.length 0 lo=0/\HT.HY vs.length vs.length f=vs.length
  .show .inl (.inr ⟨a',vs,ex,u,v,?_⟩);show q c (.ref a') j rfl g n (aK.item ⟨a',vs,rfl,l,?_⟩);rw[wL (by rw[i.len];show v)];show i
  .show .inl (.inl (.inr ⟨a',vs,ex,u,v,λp t=>q.tupK j g n (i.cut lo f) p t⟩))
 .split at h
  .cases h;show .inr ⟨_,o.str g,by assumption,q.flat j g n rfl⟩
  .cases h
 .cases h
def Bx{lo g:Option oT}(n:C.K=X.K)(o:PE X a (HR C ma))(hl:PO X lo (tO C ml))(hh:PO X g (tO C u)):
  PE X (.Subscript a (.Slice lo g b7 p2) pos) (HR C (ma >>= λx=>ml >>= λl=>u >>= λh=>aD [x] >>= λ_=>M.Im (nq x l h))):=by
 show PE.weak (xZ (((L7.or AN Dr).or Bw).or DE) o hl hh) ?_;rintro σ H Q ⟨c0,rfl,rfl,y,h⟩;show aQ y h λx c v t w=>?_;rw[ah]at w;show⟨c,t.hσ,rfl,t.ok,w.mono λl st2 i z A B D G=>?_⟩;subst B;rw[ah]at i;show⟨z,A,rfl,D,i.mono λO st3 f I j J L N=>?_⟩;subst J;rw[ah,cB]at f;have⟨r,e,q⟩:=cq.mp f.2;have k:Nx c I:=G.trans N;show D_ n j L (t.nx.trans k) ((t.rx.w.on t.ok k (j.trans t.hσ.symm)).t f.1) e q
end
section
variable{X:Cx}{C:Ct}{pins:List (eW×Obj)}{s:hY}{c0 c c1:Cf}
variable{a b d e:oT}{es:List oT}{m ma mb md:M (Kd×U)}{ms:M (List (Kd×U))}{ta tb:M Bool}{pos p p2:Pos}
abbrev Bf.val:Bf->d4
 |.len=>.builtin "len"|.sorted=>.builtin "sorted"|.repr=>.builtin "repr"|.max=>.builtin "max"|.min=>.builtin "min"|.all=>.builtin "all"|.any=>.builtin "any"
 |.list=>.type "list"|.tuple=>.type "tuple"|.str=>.type "str"|.int=>.type "int"
 |.dict=>.type "dict"
abbrev Bf.name:Bf->Str
 |.len=>"len"|.sorted=>"sorted"|.repr=>"repr"|.max=>"max"|.min=>"min"|.all=>"all"|.any=>"any"
 |.list=>"list"|.tuple=>"tuple"|.str=>"str"|.int=>"int"
 |.dict=>"dict"
def call_of(g:fX X f r)(I:Inv X pins c.σ c.H s)(rv:Vals vs us)(h:r vs c.H Q):eH (ke X.prog X.w) X.A (PU f us) (EP X pins c.σ Q) X.xe s:=g pins s c.σ c.H vs us Q I rv h
mutual
theorem uZ{S:eW->Prop}(f:C.K=X.K)(I:Inv X pins c.σ c.H s):∀(u:U) (v:V) (val:d4) (d:Zw),Rep C S c.H u v->RelV v val->fV u=bD d->∃as,Reads s.heap val d as
 |.HX,v,val,d,h,r,e=>by cases h;cases r;cases e;show⟨_,.none⟩
 |.bl b,v,val,d,h,r,e=>by cases h;cases r;cases e;show⟨_,.bool b⟩
 |.int i,v,val,d,h,r,e=>by cases h;have⟨t,rfl⟩:=r;cases e;show⟨_,.int i t⟩
 |.str x,v,val,d,h,r,e=>by cases h;have⟨t,rfl⟩:=r;cases e;show⟨_,.str x t⟩
 |.tup us,v,val,d,h,r,e=>by
  have⟨a,vs,rfl,g,j⟩:=h;cases r;simp only[fV,d5]at e;have⟨ds,k,rfl⟩:=e;rw[f]at g;obtain⟨its,rv,⟨o,ho,l,n,q⟩,_⟩:=I.tuple g;have⟨as,w⟩:=pC f I us vs its ds j rv k;show⟨as,.tuple ho l q (by simpa using w)⟩
 |.lst us,v,val,d,h,r,e=>by
  have⟨a,vs,rfl,g,j⟩:=h;cases r;simp only[fV,d5]at e;have⟨ds,k,rfl⟩:=e;have y:=g.sq;rw[f]at y;obtain⟨its,rv,z,_⟩:=I.list y;have⟨o,ho,l,n,q⟩:=z.isList;have⟨as,w⟩:=pC f I us vs its ds j rv k;show⟨a::as,.list ho l q (by simpa using w)⟩
 |.HM _ _,v,val,d,h,r,e=>by simp[fV]at e
 |.IM _,v,val,d,h,r,e=>by simp[fV]at e
theorem pC{S:eW->Prop}(g:C.K=X.K)(I:Inv X pins c.σ c.H s):∀(us:List U) (vs:List V) (f:List d4) (ds:List Zw),aq C S c.H us vs->Vals vs f->kI us=bD ds->∃as,ReadsAll s.heap f ds as
 |[],vs,f,ds,h,r,e=>by
  cases h;cases r;cases e;show⟨_,.nil⟩
 |u::us,vs,f,ds,h,r,e=>by
  have⟨v,i,rfl,j,k⟩:=h;cases r with
  |cons l n =>
   simp only[kI,nH,d5]at e;have⟨d,o,q,t,rfl⟩:=e;have⟨as,w⟩:=uZ g I u v _ d j l o;have⟨bs,x⟩:=pC g I us i _ q k n t;show⟨as++bs,.cons w x⟩
end
mutual
theorem lY:∀(u:U) (d:Zw),fV u=bD d->d.hasDict=cc
 |.HX,d,e=>by cases e;rfl
 |.bl b,d,e=>by cases e;rfl
 |.int i,d,e=>by cases e;rfl
 |.str x,d,e=>by cases e;rfl
 |.tup us,d,e=>by
  simp only[fV,d5]at e;have⟨ds,f,rfl⟩:=e;simpa only[ZG] using gB us ds f
 |.lst us,d,e=>by
  simp only[fV,d5]at e;have⟨ds,f,rfl⟩:=e;simpa only[ZG] using gB us ds f
 |.HM _ _,d,e=>by simp[fV]at e
 |.IM _,d,e=>by simp[fV]at e
theorem gB:∀(us:List U) (ds:List Zw),kI us=bD ds->Y8 ds=cc
 |[],ds,e=>by cases e;rfl
 |u::us,ds,e=>by
  simp only[kI,nH,d5]at e;have⟨d,f,g,h,rfl⟩:=e;simp only[Y8,lY u d f,gB us g h,Bool.or_self]
end
def u3{S:eW->Prop}(i:C.K=X.K)(j:X.A.guards=bD [])(x:X.A.units+60<IF)(I:Inv X pins c.σ c.H s)(rv:Vals [v] us)(f:Rep C S c.H u v)(h:uS u=bD r)(q:cC C c0 Q r c.st)(k:c.σ=c0.σ)(l:Ok C c)(n:Nx c0 c):
  eH (ke X.prog X.w) X.A (PU (.builtin "repr") us) (EP X pins c.σ Q) X.xe s:=by
 have⟨val,rfl,g⟩:=vals1 rv;unfold uS at h;rw[nH]at h;have⟨d,e,h⟩:=h;split at h
 .rename_i hz;cases h;have⟨as,o⟩:=uZ i I u v val d f g e;have t:∃a,val=.ref a:=by
   cases u with
   |tup us=>obtain⟨a,vs,rfl,_⟩:=f;cases g;show⟨a,rfl⟩
   |lst us=>obtain⟨a,vs,rfl,_⟩:=f;cases g;show⟨a,rfl⟩
   |_=>simp[CF]at hz
  have⟨a,rfl⟩:=t;show repr_of_reads' o hz.1 (PyData.noDict_hsm (lY u d e)) j (by have:=hz.2.1;lia) (λ_ _ z=>z) (λh' u' y hk=>?_) hz.2.2.1;show⟨.str d.shown,c.H,I.kept hk,⟨_,rfl⟩,q.flat k l n rfl⟩
 .cases h
abbrev Pu:U->V
 |.str x=>.str x
 |.int n=>.int n
 |_=>.ref 0
def By{S:eW->Prop}(h:Oj u=cb):Rep C S H u (Pu u):=by
 cases u<;>first|rfl|cases h
theorem aq.Uy{S:eW->Prop}:∀{ps:List (Str×U)},(∀p∈ps,Oj p.2=cb)->aq C S H (ps.map (·.2)) (ps.map λp=>Pu p.2)
 |[],_=>rfl
 |p::ps,h=>⟨_,_,rfl,By (h p (by simp)),aq.Uy λq f=>h q (by simp[f])⟩
theorem aq.Uz{S:eW->Prop}(k:C.K=X.K):∀{us:List U}{ps:List (Str×U)}{vs:List V},lP us=bD ps->aq C S H us vs->(∀p∈ps,Oj p.2=cb)/\∃as:List eW,vs=as.map V.ref/\as.length=ps.length/\∀(j:Nat) a p,as[j]?=bD a->ps[j]?=bD p->Ir X.K H a [.str p.1,Pu p.2]
 |[],ps,vs,e,h=>by
  cases e;cases h;show⟨by simp,[],rfl,rfl,by simp⟩
 |u::us,ps,vs,e,h=>by
  have⟨v,r,rfl,o,q⟩:=h;unfold lP at e;split at e
  .rename_i f;cases f
  .rename_i x y us' f;cases f;split at e
   .rename_i l;rw[d5]at e;have⟨N,e,rfl⟩:=e;have⟨t,as,rfl,w,z⟩:=aq.Uz k e q;have⟨a,ws,rfl,n,A⟩:=o;have⟨O,Q,rfl,B,D⟩:=A;have⟨G,T,rfl,I,J⟩:=D;cases B;cases J;have L:G=Pu y:=by
     cases y<;>first|show I|cases l
    subst L;rw[k]at n;show⟨λp hp=>?_,a::as,rfl,by simp[w],λj b p g i=>?_⟩
    .rcases d6.mp hp with rfl|hp
     .show l
     .show t p hp
    .cases j with
     |zero=>simp at g i;subst g i;show n
     |succ j=>show z j b p (by simpa using g) (by simpa using i)
   .cases e
  .cases e
def bA(h:fW f rs=bD r):∃x,rs=[x]/\f x=bD r:=by
 unfold fW at h;split at h
 .show⟨_,rfl,h⟩
 .cases h
def CK(J:X.calm=cb)(z:C.K=X.K)(T:X.A.guards=bD [])(Y:X.A.units+60<IF)(t:J8 C c0 c rs vs)(I:Inv X pins c.σ c.H s)(rv:Vals vs us)(h:Jh f rs=bD r)(q:cC C c0 Q r c.st):
  eH (ke X.prog X.w) X.A (PU f.val us) (EP X pins c.σ Q) X.xe s:=by
 have y:=t.hσ;have g:=t.ok;have n:=t.nx;cases f with
 |len =>
  have⟨x,rfl,hz⟩:=bA (f:=λx=>(DQ x.2).map λ(n:Nat)=>(Kd.loc,U.int (n:Int))) h;clear h;have h:=hz;clear hz;rw[d5]at h;have⟨k,e,rfl⟩:=h;have⟨v,rfl,o⟩:=t.one;have⟨kx,N⟩:=x;unfold DQ at e;split at e
  .rename_i xs D;have D:N=.lst xs:=D;subst D;cases e;have⟨a',ws,ex,i,l⟩:=o.list g;rw[l.len]at q;show call_of iP I rv ⟨a',ws,by rw[ex],.inl (z▸i),q.flat y g n rfl⟩
  .rename_i xs D;have D:N=.tup xs:=D;subst D;cases e;have⟨a',ws,ex,i,l⟩:=o.tuple g;rw[z]at i;rw[l.len]at q;show call_of iP I rv ⟨a',ws,by rw[ex],.inr i,q.flat y g n rfl⟩
  .rename_i xs D;have D:N=.str xs:=D;subst D;split at e
   .cases e;show call_of oR I rv ⟨_,by rw[o.str g],by assumption,q.flat y g n rfl⟩
   .cases e
  .cases e
 |sorted =>
  have⟨x,rfl,hz⟩:=bA (f:=DS) h;clear h;have h:=hz;clear hz;have⟨v,rfl,o⟩:=t.one;unfold DS at h;split at h
  .have⟨a',ws,ex,i,l⟩:=o.list g;unfold DR at h;split at h
   .rename_i ss e;have G:=cw e;subst G;rw[aq.strs]at l;subst l;split at h
    .cases h;show call_of j9 I rv ⟨a',ss,by rw[ex],.inl (z▸i),by assumption,λp B=>q.list y g n (aq.strs.mpr rfl) p B⟩
    .cases h
   .have⟨ns,e,O⟩:=nH.mp h;have G:=gz e;subst G;have L8:=aq.ints l;subst L8;split at O
    .cases O;show call_of jJ I rv ⟨a',ns,by rw[ex],z▸i,by assumption,λp B=>q.list y g n (aq.CJ _) p B⟩
    .cases O
  .obtain⟨a',kvs,ex,i,l,_⟩:=o.dict g;split at h
   .cases h;show call_of (jK J) I rv ⟨a',kvs,_,by rw[ex],i,l,by assumption,λp B=>q.list y g n (aq.strs.mpr rfl) p B⟩
   .cases h
  .rw[nH]at h;have⟨ss,e,h⟩:=h;have G:=cw e;subst G;have⟨a',ws,ex,i,l⟩:=o.tuple g;rw[z]at i;rw[aq.strs]at l;subst l;split at h
   .cases h;show call_of j9 I rv ⟨a',ss,by rw[ex],.inr i,by assumption,λp B=>q.list y g n (aq.strs.mpr rfl) p B⟩
   .cases h
  .cases h
 |list =>
  have⟨x,rfl,hz⟩:=bA (f:=DT) h;clear h;have h:=hz;clear hz;have⟨v,rfl,o⟩:=t.one;unfold DT at h;split at h
  .have⟨a',ws,ex,i,l⟩:=o.list g;split at h
   .cases h;show call_of iQ I rv ⟨a',ws,by rw[ex],.inl (z▸i),λp B=>q.list y g n (d0 (by assumption) l) p B⟩
   .cases h
  .have⟨a',ws,ex,i,l⟩:=o.tuple g;rw[z]at i;split at h
   .cases h;show call_of iQ I rv ⟨a',ws,by rw[ex],.inr i,λp B=>q.list y g n (d0 (by assumption) l) p B⟩
   .cases h
  .cases h
 |tuple =>
  have⟨x,rfl,hz⟩:=bA (f:=DU) h;clear h;have h:=hz;clear hz;have⟨v,rfl,o⟩:=t.one;unfold DU at h;split at h
  .have⟨a',ws,ex,i,l⟩:=o.list g;cases h;show call_of ib I rv ⟨a',ws,by rw[ex],.inl ⟨z▸i,λp B=>q.tupK y g n l p B⟩⟩
  .have⟨a',ws,ex,i,l⟩:=o.tuple g;have Kh:=i;rw[z]at Kh;cases h;show call_of ib I rv ⟨a',ws,by rw[ex],.inr ⟨Kh,q c (.ref a') y rfl g n (aK.item ⟨a',ws,rfl,i,l⟩)⟩⟩
  .cases h
 |str =>
  have⟨x,rfl,hz⟩:=bA (f:=yz) h;clear h;have h:=hz;clear hz;have⟨v,rfl,o⟩:=t.one;unfold yz at h;split at h
  .split at h
   .cases h;show call_of oM I rv ⟨_,by rw[o.int g],by assumption,q.flat y g n rfl⟩
   .cases h
  .cases h
 |repr =>
  have⟨x,rfl,hz⟩:=bA (f:=DV) h;clear h;have h:=hz;clear hz;have⟨v,rfl,o⟩:=t.one;unfold DV at h;split at h
  .show u3 z T Y I rv (o.read g) h q y g n
  .show u3 z T Y I rv (o.read g) h q y g n
  .cases h
 |all =>
  have⟨x,rfl,hz⟩:=bA (f:=DW) h;clear h;have h:=hz;clear hz;have⟨v,rfl,o⟩:=t.one;unfold DW at h;split at h
  .rw[d5]at h;have⟨bs,e,rfl⟩:=h;have G:=iB e;subst G;have⟨a',ws,ex,i,l⟩:=o.list g;have:=l.Sn;subst this;show call_of (yi J) I rv ⟨a',bs,by rw[ex],z▸i,q.flat y g n rfl⟩
  .cases h
 |any =>
  have⟨x,rfl,hz⟩:=bA (f:=DX) h;clear h;have h:=hz;clear hz;have⟨v,rfl,o⟩:=t.one;unfold DX at h;split at h
  .rw[d5]at h;have⟨bs,e,rfl⟩:=h;have G:=iB e;subst G;have⟨a',ws,ex,i,l⟩:=o.list g;have:=l.Sn;subst this;show call_of (yt J) I rv ⟨a',bs,by rw[ex],z▸i,q.flat y g n rfl⟩
  .cases h
 |dict =>
  have⟨x,rfl,hz⟩:=bA (f:=DY) h;clear h;have h:=hz;clear hz;have⟨v,rfl,o⟩:=t.one;have⟨u,rfl,rr⟩:=vals1 rv;unfold DY at h;split at h
  .have⟨ps,e,h⟩:=nH.mp h;have⟨a',ws,ex,i,l⟩:=o.list g;subst ex;cases rr;have⟨hf,as,rfl,hl,ht⟩:=aq.Uz z e l;split at h
   .cases h;show A9 (ps:=ps.map λp=>(p.1,Pu p.2)) J I (z▸i) (by rw[cK];show hl) (λj a p e1 L=>by
     rw[my,d5]at L;have⟨p0,L,rfl⟩:=L;show ht j a p0 e1 L) (by rw[hQ];assumption) λd hd=>q.root y g n d hd ⟨_,aA,by rw[hQ,hQ,hQ];rfl,by rw[hQ,hQ];show aq.Uy hf⟩
   .cases h
  .cases h
 |_=>cases h
def Bz{id:String}(g:X.calm=cb)(i:C.K=X.K)(j:X.A.guards=bD [])(k:X.A.units+60<IF)(l:f.val=.builtin id)(n:Gl X x)(o:X.mg x=b7)(u:JM x=bD (.builtin id))(v:x≠"__name__")(y:(x==("__debug__":Str))=cc)
  (B:PA X (e::es) (Jn C ms)) (D:lx (e::es) X.env=(cc,JF e X.env)::lx es X.env) (G:(KW pos (lx es X.env)).any (·.1)=cc) :
  PE X (.Call (.Name x p) (e::es) [] pos) (HR C (ms >>= λrs=>aD rs >>= λ_=>M.Im (Jh f rs))):=by
 rintro pins s σ H Q I ⟨c0,rfl,rfl,J,h⟩;show Jo (dW I n o u ?_ v y);show P_ (HS (args B I J h pos) λus s1 ⟨rs,c,vs,t,L,rv,w⟩=>?_) D G;have⟨r,e,q⟩:=cq.mp w;have z:=CK g i j k t L rv e q;rw[l,t.hσ]at z;show z
def BA(g:X.calm=cb)(i:C.K=X.K)(j:X.A.guards=bD [])(k:X.A.units+60<IF)(l:f.val=.type T)(n:Gl X x)(o:X.mg x=b7)(u:JM x=bD (.type T))(v:x≠"__name__")(y:(x==("__debug__":Str))=cc)
  (B:PA X (e::es) (Jn C ms)) (D:lx (e::es) X.env=(cc,JF e X.env)::lx es X.env) (G:(KW pos (lx es X.env)).any (·.1)=cc) :
  PE X (.Call (.Name x p) (e::es) [] pos) (HR C (ms >>= λrs=>aD rs >>= λ_=>M.Im (Jh f rs))):=by
 rintro pins s σ H Q I ⟨c0,rfl,rfl,J,h⟩;show Jo (dW I n o u ?_ v y);show KU (HS (args B I J h pos) λus s1 ⟨rs,c,vs,t,L,rv,w⟩=>?_) D G;have⟨r,e,q⟩:=cq.mp w;have z:=CK g i j k t L rv e q;rw[l,t.hσ]at z;show z
abbrev J5.name:J5->Str
 |.str=>"str"|.list=>"list"|.tuple=>"tuple"|.int=>"int"|.bool=>"bool"
abbrev J5.nm:J5->String
 |.str=>"str"|.list=>"list"|.tuple=>"tuple"|.int=>"int"|.bool=>"bool"
def BB(T:J5):JM T.name=bD (.type T.nm)/\T.name≠"__name__"/\(T.name==("__debug__":Str))=cc:=by
 cases T<;>show⟨by decide +kernel,by decide +kernel,by decide +kernel⟩
def jg(T:J5):YG (.type T.nm)=pure (.type "type"):=by cases T<;>kernel_rfl
def u4(T:J5):RC (.type "str") (.type T.nm)=pure (df (T=.str)):=by cases T<;>(rw[Lw];kernel_rfl)
def sub_int(T:J5):RC (.type "int") (.type T.nm)=pure (df (T=.int)):=by cases T<;>(rw[Lw];kernel_rfl)
def ne_str{T:J5}(h:¬T=.str):(y1 "str"==y1 T.nm)=cc:=by cases T<;>first|show absurd rfl h|decide
def ne_int{T:J5}(h:¬T=.int):(y1 "int"==y1 T.nm)=cc:=by cases T<;>first|show absurd rfl h|decide
def qQ(T:J5):RC (.type "list") (.type T.nm)=pure (df (T=.list)):=by cases T<;>(rw[Lw];kernel_rfl)
def u5(T:J5):RC (.type "tuple") (.type T.nm)=pure (df (T=.tuple)):=by cases T<;>(rw[Lw];kernel_rfl)
def BC{T:J5}(h:¬T=.list):(y1 "list"==y1 T.nm)=cc:=by cases T<;>first|show absurd rfl h|decide
def Ea{T:J5}(h:¬T=.tuple):(y1 "tuple"==y1 T.nm)=cc:=by cases T<;>first|show absurd rfl h|decide
def Eb{b:Bool}(z:C.K=X.K)(t:M1 C c0 c x v)(I:Inv X pins c.σ c.H s)(rv:RelV v val)(h:qO x.2 T=bD b)(q:∀j,Q (.bool b) {s with toks:=j}):
  eH (ke X.prog X.w) X.A (PU (.builtin "isinstance") [val,.type T.nm]) Q X.xe s:=by
 have⟨k,u⟩:=x;have⟨N,i,n,r⟩:=t;have D:Q (.bool b) s:=q s.toks
 dsimp only at h r
 have g:∀{B:String},b=cb->s.TypeIs val B->RC (.type B) (.type T.nm)=pure cb->eH (ke X.prog X.w) X.A (PU (.builtin "isinstance") [val,.type T.nm]) Q X.xe s:=λe G hs=>by
  subst e;show Ă G (jg T) hs D
 unfold qO at h;split at h
 .cases h;have e:v=_:=r.str i;subst e;have⟨j,rfl⟩:=rv;by_cases f:T=.str
  .subst f;show g (by simp) (RA s _ j) (u4 .str)
  .rw[Ğ f]at q;show R' (isinstance_false_str (ne_str f) (jg T) (by rw[u4,Ğ f])) (q _)
 .cases h;have e:v=_:=r.int i;subst e;have⟨j,rfl⟩:=rv;by_cases f:T=.int
  .subst f;show g (by simp) (typeIs_int s _ j) (sub_int .int)
  .rw[Ğ f]at q;show R' (isinstance_false_int (ne_int f) (jg T) (by rw[sub_int,Ğ f])) (q _)
 .cases h;have e:v=_:=r.bl i;subst e;cases rv;show g rfl (PySem.typeIs_bool s _) (by rw[Lw];kernel_rfl)
 .cases h;have e:v=_:=r.bl i;subst e;cases rv;show g rfl (PySem.typeIs_bool s _) (by rw[Lw];kernel_rfl)
 .cases h;have⟨a',ws,rfl,l,J⟩:=r.list i;cases rv;rw[z]at l;obtain⟨its,_,L,_⟩:=I.list l;obtain⟨o,ho,y,_⟩:=L.isList;by_cases f:T=.list
  .subst f;show g (by simp) ⟨o,ho,y⟩ (qQ .list)
  .rw[Ğ f]at q;show R' (isinstance_false_list (BC f) (jg T) (by rw[qQ,Ğ f])) ⟨⟨o,ho,y⟩,q _⟩
 .cases h;have⟨a',ws,rfl,l,J⟩:=r.tuple i;cases rv;rw[z]at l;obtain⟨its,_,⟨o,ho,y,_⟩,_⟩:=I.tuple l;by_cases f:T=.tuple
  .subst f;show g (by simp) ⟨o,ho,y⟩ (u5 .tuple)
  .rw[Ğ f]at q;show R' (isinstance_false_tuple (Ea f) (jg T) (by rw[u5,Ğ f])) ⟨⟨o,ho,y⟩,q _⟩
 .cases h
def u6(g:C.K=X.K)(i:Gl X "isinstance")(j:X.mg "isinstance"=b7)(k:Gl X T.name)(l:X.mg T.name=b7)(n:PE X a (HR C ma))(hs:lx [a,.Name T.name p2] X.env=(cc,JF a X.env)::lx [.Name T.name p2] X.env):
  PE X (.Call (.Name "isinstance" p) [a,.Name T.name p2] [] pos) (HR C (ma >>= λx=>M.Im (qO x.2 T) >>= λb=>pure (.loc,.bl b))):=by
 rintro pins s σ H Q I ⟨c0,rfl,rfl,o,h⟩;have⟨q,r,u⟩:=BB T;show Jo (dW I i j (show JM "isinstance"=bD (.builtin "isinstance") by decide +kernel) ?_ (by decide +kernel) (by decide +kernel));show P_ (HS (dy n (dy (Ax (v:=.ty T.nm) k l q rfl r u) iq) hs pos pins s c0.σ c0.H (λvs H'=>∃x c v b,M1 C c0 c x v/\c.H=H'/\vs=[v,.ty T.nm]/\qO x.2 T=bD b/\cC C c0 Q (.loc,.bl b) c.st) I ?_) λus s1 ⟨vs,N,f,y,x,c,v,b,t,e,A,B,w⟩=>?_) hs (by rfl)
 .show aQ o h λx c v t w=>?_;rw[ah]at w;have⟨b,e,w⟩:=cq.mp w;rw[ak]at w;show⟨x,c,v,b,t,rfl,rfl,e,w⟩
 .subst e A;have⟨O,Y,rfl,D,G⟩:=vals2 y;cases G;have J:Inv X pins c.σ c.H s1:=by rw[t.hσ];show f
  have z:=Eb (Q:=EP X pins c0.σ Q) g t J D B λL=>⟨.bl b,c.H,f.tok L,rfl,w c (.bl b) t.hσ rfl t.ok t.nx rfl⟩
  show z
abbrev PJ(X:Cx)(out:Str)(es:List oT)(t:TE):Prop :=
 ∀(pins:List (eW×Obj)) (s:hY) (σ:L2.St) (H:Hp) (Q:VK),Inv X pins σ H s->t σ H Q->eH (ke X.prog X.w) X.A (joinParts out (evalEach es X.env)) (EP X pins σ Q) X.xe s
def Ec(hz:out.length<=c4):PJ X out [] (HR C (pure (.loc,.str out))):=by
 rintro pins s σ H Q I ⟨c0,rfl,rfl,f,h⟩;rw[ak]at h;show joinParts_nil ⟨.str out,c0.H,I.tok _,⟨_,rfl⟩,h c0 (.str out) rfl rfl f (Nx.refl c0) rfl⟩ hz
def Ed(f:PJ X (out++y) es (HR C m))(hz:(out++y).length<=c4):PJ X out (.Constant (.str y) o p::es) (HR C m):=by
 intro pins s σ H Q I h;show ÿ (Ę (HS (r9 (X:=X) pins s σ H (λv H'=>v=.str y/\H'=H) I ⟨rfl,rfl⟩) λv s1 g=>?_));have⟨x,i,j,k,l,n⟩:=g;subst l n;have⟨t,rfl⟩:=k;show⟨hz,f pins s1 σ i Q j h⟩
def Ee{g:Str->M (Kd×U)}(D:PE X a (HR C ma))(G:∀y,y.length<=c4->PJ X y es (HR C (g y))):PJ X out (.FormattedValue a (-1) b7 p::es) (HR C (ma >>= λx=>M.Im (nu x.2 out) >>= λy=>g y)):=by
 rintro pins s σ H Q I ⟨c0,rfl,rfl,J,h⟩;show ÿ (Ę (FormattedValue_plain (HS (D pins s c0.σ c0.H (λv H'=>∃x c y,M1 C c0 c x v/\c.H=H'/\nu x.2 out=bD y/\W (g y) c.st (cC C c0 Q)) I ?_) λv s1 ⟨o,H1,z,B,x,c,y,t,e,f,w⟩=>?_)))
 .show⟨c0,rfl,rfl,J,?_⟩;rw[ah]at h;show W.mono h λx st' w c v i hs L n r=>?_;subst hs;rw[ah]at w;have⟨y,e,w⟩:=cq.mp w;show⟨x,c,y,⟨i,L,n,r⟩,rfl,e,w⟩
 .subst e;have⟨k,u⟩:=x;have⟨i,j,n,r⟩:=t
  dsimp only at f r
  have go:∀s2:hY,Inv X pins c0.σ c.H s2->y.length<=c4->eH (ke X.prog X.w) X.A (joinParts y (evalEach es X.env)) (EP X pins c0.σ Q) X.xe s2:=λs2 N hz =>
   G y hz pins s2 c0.σ c.H Q N ⟨c,i,rfl,j,W.mono w λr' st' q O T Y h2 h3 h4 h5=>q O T Y h2 h3 (n.trans h4) (h5.from n)⟩
  unfold nu at f;split at f
  .split at f
   .rename_i hz;cases f;have ev:o=_:=r.str j;subst ev;have⟨l,rfl⟩:=B;show formatField_str (λt' l=>⟨hz.2,go _ (z.tok l) hz.2⟩) hz.1
   .cases f
  .split at f
   .rename_i hz;cases f;have ev:o=_:=r.int j;subst ev;have⟨l,rfl⟩:=B;show formatField_int_small hz.1 ⟨hz.2,go _ (z.tok _) hz.2⟩
   .cases f
  .cases f
def BD(h:PJ X ri (f::g::es) (HR C m)):PE X (.JoinedStr (f::g::es) pos) (HR C m):=λpins s σ H Q I q=>JoinedStr_many (h pins s σ H Q I q)
@[reducible]def MD(P:w6)(w:Ie)(K:PySem.W.Frag)(H:Hp)(Pr:eW->Prop):Ct:=⟨P,w,K,H,Pr,λ_=>False,λ_ _=>False⟩
structure Back(C:Ct)(H H':Hp)(S':eW->Prop)(k:Kd)(u:U)(v:V):Prop where
 same:qt H H'
 new:∀a,S' a->H a=b7/\∃o,H' a=bD o
 own:k=.own->∃r,v=.ref r/\H r=b7/\¬S' r/\cY C S' H' r u
 loc:k=.loc->Rep C S' H' u v
 any:k=.any->Rep C (PS C S') H' u v
abbrev spT(P:w6)(w:Ie)(K:PySem.W.Frag)(F:List U->Option (Ex (Kd×U)))(f:Nat):Sp:=λvs H Q E=>vs.length=f/\∃us r Pr,F us=bD r/\(∀a,Pr a->JI H a)/\aq (MD P w K H Pr) Pr H us vs/\match r with
 |.ok (k,u)=>(k=.own\/k=.loc\/k=.any)/\∀v H' S',Back (MD P w K H Pr) H H' S' k u v->Q v H'
 |.exc c=>∀C H',PySem.W.nsIn K ro c=bD (bD (.ref C))->qt H H'->E (.ref C) b7 H'
def J8.read(t:J8 C c0 c rs vs):aq C (JI c.H) c.H (rs.map (·.2)) vs:=by
 have f:∀(l:List (Kd×U)) (w:List V),cP C c0 c l w->br l c.st->aq C (JI c.H) c.H (l.map (·.2)) w:=by
  intro l;induction l with
  |nil=>intro w h _;show h
  |cons r l g =>
   intro w h hs;obtain⟨v,t',rfl,i,j,_⟩:=h;rw[e_]at hs;show⟨v,t',rfl,(i.t hs.1).read t.ok,g t' j hs.2⟩
 show f rs vs t.rep t.MA
def Back.here(hk:k=.own\/k=.loc)(i:c.σ=c0.σ)(f:Ok C c)(n:Nx c0 c)(q:j.Eqv C)(h:Back j c.H H' S' k u v)(w:cC C c0 Q (k,u) c.st):Q v H':=by
 have⟨l,t⟩:=f.grow (S':=λa=>c.S a\/S' a) h.same (λa z=>z.imp id λz=>h.new a z) λa=>.inl;have x:=n.trans t;show w {c with H:=H',S:=λa=>c.S a\/S' a} v i rfl l x ?_;rcases hk with rfl|rfl
 .have⟨r,e,g,y,A⟩:=h.own rfl;have⟨G,B,I,J,D⟩:=f.lO g;show⟨r,e,n.none g,λz=>z.elim B y,D,(A.cg q).mv (.up λa=>.inr) λo q=>q⟩
 .show((h.loc rfl).cg q).mv (.up λa=>.inr)
def yM(o:C.P=X.prog)(x:C.w=X.w)(y:C.K=X.K)(L:Γ f=F)(hk:∀us k u,F us=bD (.ok (k,u))->(k=.own\/k=.loc\/k=.any)/\us.length=B)
  (G:jB X.prog X.w X.K X.mg X.base (Ny X.prog X.w) k fa N ps (spT X.prog X.w X.K F B)) (O:fT k X.A) (T:Gl X f) (Y:X.mg f=bD (.ref fa)) (Pw:PySem.W.keepIn X.K (.ref fa)=cb) (j:Binds X.K N ps [])
  (Kp:(f==("__debug__":Str))=cc) (ha:PA X (e::es) (Jn C ms)) (he:lx (e::es) X.env=(cc,JF e X.env)::lx es X.env) (Je:(KW pos (lx es X.env)).any (·.1)=cc) :
  PE X (.Call (.Name f p) (e::es) [] pos) (HR C (ms >>= λrs=>aD rs >>= λ_=>lQ Γ f (rs.map (·.2)))):=by
 rintro pins s σ H Q I ⟨c0,rfl,rfl,ok,h⟩;show Jo (fq I T Y ?_ Kp);show PySem.W.callWith_K (h₀:=X.base) I.ok.mod.N2 Pw (HS (args ha I ok h pos) λus s1 ⟨rs,c,vs,t,D,rv,w⟩=>⟨D.L0,?_⟩) he Je;have⟨r,st',g,q⟩:=w;unfold lQ at g;rw[L]at g;cases i:F (rs.map (·.2)) with
 |none=>rw[i]at g;cases g
 |some r' =>
  rw[i]at g;split at g
  .cases g
  .rename_i z;cases z
  rename_i SD e3;cases e3;cases g;have⟨l,u⟩:=r;have⟨k0,k2⟩:=hk _ _ _ i;have k1:l=.own\/l=.loc:=by
   rcases k0 with z|z|z
   .show .inl z
   .show .inr z
   .subst z;show(SD u rfl).elim
  have n:C.Eqv (MD X.prog X.w X.K c.H (JI c.H)):=⟨o,x,y⟩
  have Kx:(MD X.prog X.w X.K c.H (JI c.H)).Eqv C:=⟨o.symm,x.symm,y.symm⟩
  have J:=t.read;have JA:spT X.prog X.w X.K F B vs c.H (λv H'=>Q v H') E0:=⟨by rw[<-J.len];show k2,rs.map (·.2),.ok (l,u),JI c.H,i,λ_ z=>z,J.cg n,k0,λv H' S' j=>j.here k1 t.hσ t.ok t.nx Kx q⟩
  have z:=xX (Q:=Q) G O j .nil FN D rv (by rw[vu];show JA);rw[t.hσ]at z;show z
end
section
abbrev Mf.id:Mf->String
 |.split=>"str.split"|.join=>"str.join"|.partition=>"str.partition"|.endswith=>"str.endswith"
abbrev Mf.name:Mf->Str
 |.split=>"split"|.join=>"join"|.partition=>"partition"|.endswith=>"endswith"
def yN(h:jL f u rs=bD r):∃x,u=.str x:=by
 unfold jL at h;split at h
 .show⟨_,rfl⟩
 .show⟨_,rfl⟩
 .show⟨_,rfl⟩
 .show⟨_,rfl⟩
 .cases h
def Ef(z:C.K=X.K)(t:J8 C j c (x::rs) (g::vs))(I:Inv X a c.σ c.H s)(k:RelV g v)(rv:Vals vs us)(h:jL f x.2 rs=bD r)(q:cC C j Q r c.st):
  eH (ke X.prog X.w) X.A (PU (.builtin f.id) (v::us)) (EP X a c.σ Q) X.xe s:=by
 have l:=t.hσ;have b:=t.ok;have n:=t.nx;have⟨B,D⟩:=x;have hs:=e_.mp t.MA;obtain⟨N,O,G,o,i,-⟩:=t.rep;cases G;have m:aK C j c B D g:=o.t hs.1;have one:∀{r:Kd×U},cP C j c [r] vs->br [r] c.st->∃v,vs=[v]/\aK C j c r.1 r.2 v:=λ{r} h s=>by
  obtain⟨v,t',rfl,o,i,_⟩:=h;cases i;show⟨v,rfl,o.t s⟩
 dsimp only at h
 unfold jL at h;split at h
 .have⟨w,rfl,d⟩:=one i hs.2;split at h
  .rename_i hh;cases h;show yh a s c.σ c.H g [w] v us Q I k rv ⟨_,_,m.str b,by rw[d.str b],hh.1,hh.2,λp u=>q.list l b n (aq.strs.mpr rfl) p u⟩
  .cases h
 .rw[nH]at h;have⟨ss,e,h⟩:=h;have J:=cw e;subst J;have⟨w,rfl,d⟩:=one i hs.2;have⟨a',ws,ex,L,y⟩:=d.list b;rw[aq.strs]at y;subst y;split at h
  .cases h;show AY a s c.σ c.H g [w] v us Q I k rv ⟨_,a',ss,m.str b,by rw[ex],z▸L,by assumption,q.flat l b n rfl⟩
  .cases h
 .have⟨w,rfl,d⟩:=one i hs.2;cases h;show qy a s c.σ c.H g [w] v us Q I k rv ⟨_,_,m.str b,by rw[d.str b],q.flat l b n rfl⟩
 .have⟨w,rfl,d⟩:=one i hs.2;split at h
  .rename_i hh;cases h;show oX a s c.σ c.H g [w] v us Q I k rv ⟨_,_,m.str b,by rw[d.str b],hh.1,hh.2,λp u=>?_⟩;show q.tup l b n ⟨_,_,rfl,rfl,_,_,rfl,rfl,_,_,rfl,rfl,rfl⟩ p u
  .cases h
 .cases h
def BE(O:C.K=X.K)(slot:Slot "str" name f.id)(T:YG (.builtin f.id)=pure (.type "method_descriptor"))(ho:PE X o (HR C m))(Y:PA X (e::es) (Jn C ms))
  (Lz:VM o name X.env (JF o X.env)=JF o X.env)
  (I0:((KW g (lx (e::es) X.env)).all (λx=>!x.1)&&(Sx g (P2 [] X.env)).all (λx=>x.1.isSome)
   && df ((e::es).length+([]:List O9).length+(if ([]:List O9).isEmpty then 0 else 1)<30))=cb)
  (IC:(k.endLine==g.line)=cb) (hs:lx (e::es) X.env=(cc,JF e X.env)::lx es X.env) (Jw:(KW g (lx es X.env)).any (·.1)=cc) :
  PE X (.Call (.Attribute o name k) (e::es) [] g) (HR C (m >>= λx=>ms >>= λrs=>aD (x::rs) >>= λ_=>M.Im (jL f x.2 rs))):=by
 rintro a s σ H Q I ⟨b,rfl,rfl,ok,h⟩;show Zo Lz I0 IC rfl (HS (ho a s b.σ b.H (λl y=>∃x d,d.H=y/\M1 C b d x l/\W (ms >>= λrs=>aD (x::rs) >>= λ_=>M.Im (jL f x.2 rs)) d.st (cC C b Q)) I (aQ ok h λx c v t w=>⟨x,c,rfl,t,w⟩)) ?_);rintro v s1 ⟨l,y,A,B,x,d,rfl,t,w⟩;have LO:∃z,x.2=.str z:=by
  rw[ah]at w;obtain⟨rs,st2,_,w⟩:=w;rw[ah]at w;obtain⟨_,st3,_,w⟩:=w;obtain⟨r,e,_⟩:=cq.mp w;show yN e
 have⟨z,hz⟩:=LO;have D:=t.rx;rw[hz]at D;have ev:=D.str t.ok;have ty:Rq X.K "str" l d.H:=by rw[ev];rfl
 have⟨h1,h2⟩:=sv A B ty;show⟨"str",f.id,PySem.F.plainAttrs_str,slot,T,h1,h2,?_⟩;rw[ah]at w;have G:=Y g a s1 b.σ d.H (λvs J=>∃rs j,j.H=J/\J8 C b j (x::rs) (l::vs)/\W (M.Im (jL f x.2 rs)) j.st (cC C b Q)) A ⟨d,t.hσ,rfl,t.ok,w.mono λrs st2 p j vs L e4 Iw N n=>by
  rw[ah,cB]at p;subst e4;show⟨rs,j,rfl,⟨L,Iw,t.nx.trans N,⟨l,vs,rfl,t.rx.w.on t.ok N (L.trans t.hσ.symm),n.from t.nx,λhk i r' v' e5 e6 IH=>pA t.rx.w (n.get e5 e6) hk IH⟩,p.1⟩,p.2⟩⟩
 rw[hs]at G ⊢;show NP (by change(cc||(KW g (lx es X.env)).any (·.1))=cc;rw[Jw]<;>rfl) (MM ?_);show HS G ?_;rintro us s2 ⟨vs,J,I2,n,rs,j,rfl,u,w2⟩;have⟨r,e,q⟩:=cq.mp w2;have z:=Ef O u (by rw[u.hσ];show I2) B n e q;rw[u.hσ]at z;show z
end
section
variable{X:Cx}{C:Ct}{pins:List (eW×Obj)}{s:hY}{c0 c c1:Cf}
variable{e:oT}{es:List oT}{ms:M (List (Kd×U))}{pos p p2 pos2:Pos}
abbrev B2.out:B2->d4
 |.LG=>.type "tuple"|.LH=>.type "list"|.sset=>.builtin "sorted"|.m8=>.builtin "len"
abbrev B2.Qy:B2->d4
 |.LG=>.type "reversed"|.LH=>.type "reversed"|.sset=>.type "set"|.m8=>.type "set"
abbrev B2.pD:B2->Str
 |.LG=>"tuple"|.LH=>"list"|.sset=>"sorted"|.m8=>"len"
abbrev B2.jh:B2->Str
 |.LG=>"reversed"|.LH=>"reversed"|.sset=>"set"|.m8=>"set"
def nZ(i:C.K=X.K)(j:Ok C c)(l:aK C c0 c k u v)(h:qL u=bD ss):∃a b,v=.ref a/\(Iz X.K c.H a (b.map V.str)\/Ir X.K c.H a (b.map V.str))/\b.length+1<Na/\ss=aP b:=by
 unfold qL at h;split at h
 .rw[nH]at h;have⟨b,e,h⟩:=h;have g:=cw e;subst g;have⟨a',ws,ex,f,d⟩:=l.list j;rw[aq.strs]at d;subst d;split at h
  .cases h;show⟨a',b,ex,.inl (i▸f),by assumption,rfl⟩
  .cases h
 .rw[nH]at h;have⟨b,e,h⟩:=h;have g:=cw e;subst g;have⟨a',ws,ex,f,d⟩:=l.tuple j;rw[aq.strs]at d;subst d;rw[i]at f;split at h
  .cases h;show⟨a',b,ex,.inr f,by assumption,rfl⟩
  .cases h
 .cases h
def Eg(b:X.calm=cb)(o:C.K=X.K)(t:J8 C c0 c rs vs)(I:Inv X pins c.σ c.H s)(rv:Vals vs us)(h:wD f rs=bD r)(q:cC C c0 Q r c.st):
  eH (ke X.prog X.w) X.A (PU f.Qy us) (λv s1=>eH (ke X.prog X.w) X.A (PU f.out [v]) (EP X pins c.σ Q) X.xe s1) X.xe s:=by
 have y:=t.hσ;have a:=t.ok;have n:=t.nx;cases f with
 |sset =>
  have⟨x,rfl,hz⟩:=bA (f:=λx=>(qL x.2).bind λss=>if ss.length<64 then bD (Kd.own,U.lst ((az ss).map .str)) else b7) h;clear h;have h:=hz;clear hz;have⟨ss,e,h⟩:=nH.mp h;have⟨v,rfl,d⟩:=t.one;have⟨a',z,rfl,g,i,rfl⟩:=nZ o a d e;have⟨u,rfl,j⟩:=vals1 rv;cases j;split at h
  .cases h;show i_ b I g i λS h' B k m=>nj b m k (by assumption) λl hl=>q.list y a n (aq.strs.mpr rfl) l hl
  .cases h
 |m8 =>
  have⟨x,rfl,hz⟩:=bA (f:=λx:Kd×U=>(qL x.2).map λss:List Str=>(Kd.loc,U.int (ss.length:Int))) h;clear h;have h:=hz;clear hz;have⟨ss,e,rfl⟩:=d5.mp h;have⟨v,rfl,d⟩:=t.one;have⟨a',z,rfl,g,i,rfl⟩:=nZ o a d e;have⟨u,rfl,j⟩:=vals1 rv;cases j;show i_ b I g i λS h' B k m=>sJ m k (q.flat y a n rfl)
 |_=>cases h
def u7:∀f:B2,JM f.pD=bD f.out/\JM f.jh=bD f.Qy/\f.pD≠"__name__"/\f.jh≠"__name__"/\(f.pD==("__debug__":Str))=cc/\(f.jh==("__debug__":Str))=cc:=by
 intro f;cases f<;>show⟨by decide +kernel,by decide +kernel,by decide +kernel,by decide +kernel,by decide +kernel,by decide +kernel⟩
def Eh(f:B2):∃T,f.Qy=.type T:=by cases f<;>show⟨_,rfl⟩
def Ei(f:B2):(∃T,f.out=.type T)\/∃T,f.out=.builtin T:=by cases f<;>first|show .inl ⟨_,rfl⟩|show .inr ⟨_,rfl⟩
def BF{M:Model}{E:d4->hY->Prop}(h:eH M A t (λv a=>eH M A (PU (.type T) [v]) Q E a) E s):eH M A (callWith pos (.type T) [] [(cc,t)] []) Q E s :=
 PySem.callWith_type rfl (MM (NM (ti h (λ_ _ b=>Qk b) λ_ _ e=>e)))
def yO{M:Model}{E:d4->hY->Prop}(h:eH M A t (λv a=>eH M A (PU (.builtin T) [v]) Q E a) E s):eH M A (callWith pos (.builtin T) [] [(cc,t)] []) Q E s :=
 NP rfl (MM (NM (ti h (λ_ _ b=>Qk b) λ_ _ e=>e)))
def yP(b:X.calm=cb)(d:C.K=X.K)(g:Gl X f.jh)(i:X.mg f.jh=b7)
  (j:PA X (e::es) (Jn C ms)) (k:lx (e::es) X.env=(cc,JF e X.env)::lx es X.env) (l:(KW pos2 (lx es X.env)).any (·.1)=cc)
  (I:Inv X pins c0.σ c0.H s) (m:Ok C c0) (h:W (ms >>= λrs=>aD rs >>= λ_=>M.Im (wD f rs)) c0.st (cC C c0 Q)) :
  eH (ke X.prog X.w) X.A (JF (.Call (.Name f.jh p2) (e::es) [] pos2) X.env) (λv s1=>eH (ke X.prog X.w) X.A (PU f.out [v]) (EP X pins c0.σ Q) X.xe s1) X.xe s:=by
 have⟨b1,n,b3,b4,B,o⟩:=u7 f;show Jo (dW I g i n ?_ b4 o);have a:eH (ke X.prog X.w) X.A (Ú (KW pos2 (lx (e::es) X.env))) (λus s1=>eH (ke X.prog X.w) X.A (PU f.Qy us) (λv s1=>eH (ke X.prog X.w) X.A (PU f.out [v]) (EP X pins c0.σ Q) X.xe s1) X.xe s1) X.xe s :=
  HS (args j I m h pos2) λus s1 u=>by
   have⟨rs,c,vs,t,x,rv,w⟩:=u;have⟨r,e,q⟩:=cq.mp w;have z:=Eg b d t x rv e q;rw[t.hσ]at z;show z
 have⟨T,y⟩:=Eh f;rw[y]at a ⊢;show KU a k l
def BG(d:X.calm=cb)(g:C.K=X.K)(i:Gl X f.pD)(j:X.mg f.pD=b7)(k:Gl X f.jh)(l:X.mg f.jh=b7)
  (m:PA X (e::es) (Jn C ms)) (n:lx (e::es) X.env=(cc,JF e X.env)::lx es X.env) (o:(KW pos2 (lx es X.env)).any (·.1)=cc) :
  PE X (.Call (.Name f.pD p) [.Call (.Name f.jh p2) (e::es) [] pos2] [] pos) (HR C (ms >>= λrs=>aD rs >>= λ_=>M.Im (wD f rs))):=by
 rintro pins s σ H Q I ⟨c0,rfl,rfl,q,h⟩;have⟨b1,v,b3,b4,r,w⟩:=u7 f;show Jo (dW I i j b1 ?_ b3 r);have a:=yP (p2:=p2) (pos2:=pos2) d g k l m n o I q h;have t:KW pos (lx [.Call (.Name f.jh p2) (e::es) [] pos2] X.env)=[(cc,JF (.Call (.Name f.jh p2) (e::es) [] pos2) X.env)]:=rfl;have u:Sx pos (P2 [] X.env)=[]:=rfl;rw[t,u];rcases Ei f with⟨T,b⟩|⟨T,b⟩
 .rw[b]at a ⊢;show BF a
 .rw[b]at a ⊢;show yO a
end
section
variable{X:Cx}{C:Ct}{pins:List (eW×Obj)}{s:hY}{c0 c c1:Cf}
variable{a b d e o tg:oT}{es:List oT}{m ma mb md:M (Kd×U)}{ms:M (List (Kd×U))}{ta tb:M Bool}{pos p p2 apos G':Pos}
abbrev lZ(rs:List (Kd×U))(c f:Cf):Prop:=∀j u,(Kd.bor j,u)∈rs->f.σ[j]?=c.σ[j]?
abbrev Walk(C:Ct)(c:Cf)(rs:List (Kd×U))(xs:List (Kd×U))(J:It):Prop:=∀f,Ok C f->Ns c f->lZ rs c f->br rs f.st ->
 (∀(i:Nat) r,xs[i]?=bD r->(r.1=.loc\/r.1=.any)/\J.go i f.H/\∀x H',J.Qa i f.H x H'->∃g:Cf,g.H=H'/\g.σ=f.σ/\g.st=f.st/\Ok C g/\Nx f g/\aK C f g r.1 r.2 x) /\
 ∀i:Nat,xs.length<=i->J.stop i f.H
abbrev LP(C:Ct)(ik:Ik)(ms:M (List (Kd×U))):TI:=λσ H R=>∃c0:Cf,c0.σ=σ/\c0.H=H/\Ok C c0/\W (ms >>= λrs=>aD rs >>= λ_=>M.Im (Kg ik rs) >>= λxs=>pure (rs,xs)) c0.st λq st' =>
 ∀c J,c.σ=σ->c.st=st'->Ok C c->Nx c0 c->br q.1 c.st->Walk C c q.1 q.2 J->R J c.H
def aK.walk(g:Ok C c)(n:Ns c f)(i:lZ [r] c f)(hs:br [r] f.st)(h:aK C c0 c r.1 r.2 v):aK C c0 f r.1 r.2 v :=
 (h.w.Uu g n λj e=>i j r.2 (by rw[<-e];simp)).t hs
def yQ(k:Kd):kE k=.loc\/kE k=.any:=by cases k<;>simp[kE]
def wN(z:C.K=X.K)(A:Ok C c)(h:aK C c0 c k (.lst us) (.ref a')):Walk C c [(k,.lst us)] (us.map λu=>(kE k,u)) (Q5 X.K a'):=by
 intro l q n B hs;have h':=aK.walk (r:=(k,.lst us)) A n B hs h;have⟨H,vs,e,f,t⟩:=h'.list q;cases e;rw[z]at f;show⟨λi r w=>?_,λi D=>⟨vs,f,by rw[<-t.len];simpa using D⟩⟩;rw[my,d5]at w;have⟨u,G,rfl⟩:=w;have⟨v,y,g⟩:=t.get G;show⟨yQ k,⟨vs,v,f,y⟩,λx H' j=>?_⟩;have⟨e,j⟩:=j;subst e;have:=j vs f;rw[y]at this;cases this;show⟨l,rfl,rfl,rfl,q,Nx.refl l,aK.item g⟩
def sT(z:C.K=X.K)(A:Ok C c)(h:aK C c0 c k (.tup us) (.ref a')):Walk C c [(k,.tup us)] (us.map λu=>(kE k,u)) (Q6 X.K a'):=by
 intro l q n B hs;have h':=aK.walk (r:=(k,.tup us)) A n B hs h;have⟨H,vs,e,f,t⟩:=h'.tuple q;cases e;rw[z]at f;show⟨λi r w=>?_,λi D=>⟨vs,f,by rw[<-t.len];simpa using D⟩⟩;rw[my,d5]at w;have⟨u,G,rfl⟩:=w;have⟨v,y,g⟩:=t.get G;show⟨yQ k,⟨vs,v,f,y⟩,λx H' j=>?_⟩;have⟨e,j⟩:=j;subst e;have:=j vs f;rw[y]at this;cases this;show⟨l,rfl,rfl,rfl,q,Nx.refl l,aK.item g⟩
def l0{lo:Int}:Walk C c rs ((js n).map λi:Nat=>(Kd.loc,U.int (lo+(i:Int)))) (OI lo n):=by
 intro h l nx t hs;show⟨λi r k=>?_,λi f=>by change n<=i;simpa using f⟩;rw[my,d5]at k;have⟨j,g,rfl⟩:=k;have f:i<n:=by simpa using(et.mp g).1
 rw[Zb f]at g;cases g;show⟨.inl rfl,f,λy H' q=>?_⟩;have⟨e,rfl⟩:=q;subst e;show⟨h,rfl,rfl,rfl,l,Nx.refl h,rfl⟩
def Ej(i:C.K=X.K)(t:PE X a (HR C ma)):PI X tg a (LP C .seq (ma >>= λr=>pure [] >>= λrs=>pure (r::rs))):=by
 rintro pins s σ H R I ⟨c0,rfl,rfl,w,h⟩;rw[ah,ah]at h;have⟨r,st1,x,h⟩:=h;rw[ah,ak,ak,ah,cB,ah]at h;have⟨y,h⟩:=h;have⟨xs,j,h⟩:=cq.mp h;rw[ak]at h;have⟨k,u⟩:=r;cases u with
 |lst us =>
  cases j;show AE t pins s c0.σ c0.H R I ⟨c0,rfl,rfl,w,_,st1,x,λc v l hs g n f=>?_⟩;have⟨a',vs,rfl,q,A⟩:=f.list g;subst hs;show⟨a',rfl,⟨vs,i▸q⟩,h c _ l rfl g n y (wN i g f)⟩
 |tup us =>
  cases j;show Dk t pins s c0.σ c0.H R I ⟨c0,rfl,rfl,w,_,st1,x,λc v l hs g n f=>?_⟩;have⟨a',vs,rfl,q,A⟩:=f.tuple g;subst hs;have z:=q;rw[i]at z;show⟨a',rfl,⟨vs,z⟩,h c _ l rfl g n y (sT i g f)⟩
 |_=>cases j
def sU{k:List (Kd×U)->M β}{Post:β->ar->Prop}(g:Ok C c0)(h:W (ms >>= λrs=>aD rs >>= λ_=>k rs) c0.st Post)
  (hz:∀rs c vs,J8 C c0 c rs vs->W (k rs) c.st Post->Z vs c.H):Jn C ms c0.σ c0.H Z:=by
 rw[ah]at h;show⟨c0,rfl,rfl,g,h.mono λrs st1 f c1 vs i j l n q=>?_⟩;rw[ah,cB]at f;subst j;show hz rs c1 vs ⟨i,l,n,q,f.1⟩ f.2
def BH(i:Gl X "range")(j:X.mg "range"=b7)(hs:lx [a] X.env=[(cc,JF a X.env)])(k:PA X [a] (Jn C ms)):PI X tg (.Call (.Name "range" p) [a] [] pos) (LP C .Iv ms):=by
 rintro pins s σ H R I ⟨c0,rfl,rfl,l,h⟩;show v9 i j k hs pins s c0.σ c0.H R I (sU l h λrs c vs t w=>?_);rw[ah]at w;have⟨xs,g,w⟩:=cq.mp w;rw[ak]at w;have⟨x,rfl,hz⟩:=bA (f:=wF) g;clear g;have g:=hz;clear hz;have⟨v,rfl,n⟩:=t.one;unfold wF at g;split at g
 .split at g
  .rename_i hh;cases g;show⟨_,by rw[n.int t.ok],⋯,⋯,w c _ t.hσ rfl t.ok t.nx t.MA l0⟩
  .cases g
 .cases g
def BI(g:Gl X "range")(i:X.mg "range"=b7)(hs:lx [a,b] X.env=[(cc,JF a X.env),(cc,JF b X.env)])(j:lx [b] X.env=[(cc,JF b X.env)])(k:PA X [a,b] (Jn C ms)):PI X tg (.Call (.Name "range" p) [a,b] [] pos) (LP C .Mr ms):=by
 rintro pins s σ H R I ⟨c0,rfl,rfl,l,h⟩;show v_ g i k hs j pins s c0.σ c0.H R I (sU l h λrs c vs t w=>?_);rw[ah]at w;have⟨xs,f,w⟩:=cq.mp w;rw[ak]at w;have f:DZ rs=bD xs:=f;unfold DZ at f;split at f
 .split at f
  .rename_i hh;cases f;have⟨v,r,rfl,n,q⟩:=t.two;show⟨_,_,by rw[n.int t.ok,q.int t.ok],⋯,w c _ t.hσ rfl t.ok t.nx t.MA l0⟩
  .cases f
 .cases f
def qR{k:Kd}{us:List U}{h:U}{a':eW}{w:Hp->List V->Prop}(G:∀f,Ok C f->Ns c f->lZ [(k,h)] c f->br [(k,h)] f.st->∃vs,w f.H vs/\aq C (SK C f k) f.H us vs):Walk C c [(k,h)] (us.zipIdx.map λp=>(kE k,.tup [.int p.2,p.1])) (Oc w):=by
 intro f g n I hs;have⟨vs,j,y⟩:=G f g n I hs;show⟨λi r z=>?_,λi J=>⟨vs,j,by rw[<-y.len];simpa using J⟩⟩;rw[my,d5]at z;have⟨p,A,rfl⟩:=z;rw[TY,d5]at A;have⟨u,L,rfl⟩:=A;have⟨v,B,l⟩:=y.get L;show⟨yQ k,⟨vs,v,j,B⟩,λx H' q=>?_⟩;have⟨p,N,rfl,q⟩:=q;have O:=q vs v j B;subst O;have⟨Q,t⟩:=g.lay (o:=.tup [.int i,v]) N;show⟨{f with H:=upd f.H p (.tup [.int i,v])},rfl,rfl,rfl,Q,t,aK.item ?_⟩;have D:aq C (SK C f k) f.H [.int ((0+i:Nat):Int),u] [.int (i:Int),v]:=by
  rw[YP];show⟨_,_,rfl,rfl,_,_,rfl,l,rfl⟩
 cases k<;>show⟨p,_,rfl,Ir.of aA,by first|show D.mv (g.Mq t)|show D.mv (g.mv t)⟩
def Ek{es:List oT}{z:Nat}{ps:Pos}(k:C.K=X.K)(A:Gl X "enumerate")(B:X.mg "enumerate"=b7)(hs:lx [a] X.env=[(cc,JF a X.env)])(D:PA X [a] (Jn C ms)):PI X (.Tuple es z ps) (.Call (.Name "enumerate" p) [a] [] pos) (LP C .Nz ms):=by
 rintro pins s σ H R I ⟨c0,rfl,rfl,G,h⟩;show A6 A B D hs pins s c0.σ c0.H R I (sU G h λrs c vs t w=>?_);rw[ah]at w;have⟨xs,i,w⟩:=cq.mp w;rw[ak]at w;have⟨x,rfl,hz⟩:=bA (f:=D0) i;clear i;have i:=hz;clear hz;have⟨v,rfl,l⟩:=t.one;unfold D0 at i;split at i
 .cases i;have⟨a',ws,q,g,j⟩:=l.list t.ok;subst q;show⟨a',rfl,.inl ⟨⟨ws,k▸g⟩,w c _ t.hσ rfl t.ok t.nx t.MA ?_⟩⟩;show qR (a':=a') λJ r n u y=>?_;have⟨L,vs,e,g,j⟩:=(aK.walk t.ok n u y l).list r;cases e;show⟨vs,k▸g,j⟩
 .cases i;have⟨a',ws,q,g,j⟩:=l.tuple t.ok;subst q;rw[k]at g;show⟨a',rfl,.inr ⟨⟨ws,g⟩,w c _ t.hσ rfl t.ok t.nx t.MA ?_⟩⟩;show qR (a':=a') λJ r n u y=>?_;have⟨L,vs,e,g,j⟩:=(aK.walk t.ok n u y l).tuple r;cases e;rw[k]at g;show⟨vs,g,j⟩
 .cases i
def Ok.put(t:Ok C c)(n:Nx c0 c)(Q:i<c.σ.length)(hk:k=.own\/k=.loc\/k=.any)(Js:Ok C c0)(h:aK C c0 c k u v):
  Ok C {c with σ:=c.σ.set i (bD v),st:=c.st.set i (bD (k,u))}/\Nx c0 {c with σ:=c.σ.set i (bD v),st:=c.st.set i (bD (k,u))}:=by
 have T:i<c.st.length:=by rw[t.len];show Q
 have Y:∀(j:Nat) k' u',(c.st.set i (bD (k,u)))[j]?=bD (bD (k',u'))->j≠i->c.st[j]?=bD (bD (k',u')):=λj k' u' e ne=>by rw[ko (uv ne)]at e;show e
 have J9:∀(j:Nat) B,(c.σ.set i (bD v))[j]?=bD (bD B)->j≠i->c.σ[j]?=bD (bD B):=λj B e ne=>by rw[ko (uv ne)]at e;show e
 have sl:gk C c.S c.H k u v:=by
  rcases hk with rfl|rfl|rfl
  .have⟨r,e,D,J,y,L⟩:=h;have⟨z0,z1,N,z3,z4⟩:=Js.lO D;show⟨r,e,J,N,z0,L⟩
  .show h
  .show h
 have NB:∀(j:Nat) k' u' r,k'.root=cb->(c.st.set i (bD (k,u)))[j]?=bD (bD (k',u'))->(c.σ.set i (bD v))[j]?=bD (bD (.ref r))->j=i/\k=.own/\v=.ref r\/j≠i/\c.st[j]?=bD (bD (k',u'))/\c.σ[j]?=bD (bD (.ref r)):=λj k' u' r G g l=>by
  by_cases f:j=i
  .subst f;rw[fx T]at g;rw[fx Q]at l;cases g;cases l;rcases hk with rfl|rfl|rfl
   .show .inl ⟨rfl,rfl,rfl⟩
   .cases G
   .cases G
  .show .inr ⟨f,Y j k' u' g f,J9 j _ l f⟩
 have dD:∀(j:Nat) (u':U),(c.st.set i (bD (k,u)))[j]?=bD (bD (.B',u'))->c.st[j]?=bD (bD (.B',u'))/\(c.σ.set i (bD v))[j]?=c.σ[j]?:=λj u' e=>by
  by_cases f:j=i
  .subst f;rw[fx T]at e;cases e;rcases hk with hk|hk|hk<;>cases hk
  .show⟨Y j .B' u' e f,ko (uv f)⟩
 have b1:∀a,({c with σ:=c.σ.set i (bD v),st:=c.st.set i (bD (k,u))}:Cf).R1 a->c.R1 a\/k=.own/\v=.ref a:=λa Ib=>by
  have⟨j,k',u',G,g,l⟩:=Ib;rcases NB j k' u' a G g l with⟨O,w,x⟩|⟨O,w,x⟩
  .show .inr ⟨w,x⟩
  .show .inl ⟨j,k',u',G,w,x⟩
 have LN:Lc C {c with σ:=c.σ.set i (bD v),st:=c.st.set i (bD (k,u))}:=t.dd.of rfl dD (λa z=>(b1 a z).imp id λ⟨q1,q2⟩ j z'=>by
  subst q1;obtain⟨I,e,_,_,y,_⟩:=h;rw[q2]at e;cases e;show y (.inr ⟨j,z'⟩)) (.up λ_ z=>z) λj a z=>⟨(t.root (.inr ⟨j,z⟩)).1,λo q=>q⟩
 show⟨⟨t.same,t.JY,t.par,t.io,by simp[t.len],λj k' u' e=>?_,λj1 j2 k1 k2 u1 u2 r LQ Mb g l e3 e4=>?_,LN⟩,⟨⟨n.keep,n.there,λa z=>?_,n.sub,n.new⟩⟩⟩
 .by_cases f:j=i
  .subst f;rw[fx T]at e;cases e;show⟨v,by rw[fx Q],sl⟩
  .have⟨B,g,l⟩:=t.sl j k' u' (Y j k' u' e f);show⟨B,by rw[ko (uv f)];show g,l⟩
 .have z1:=NB j1 k1 u1 r LQ g e3;have N:=NB j2 k2 u2 r Mb l e4;rcases z1 with⟨O,w,x⟩|⟨O,w,x⟩
  .rcases N with⟨b1,A,b3⟩|⟨b1,A,b3⟩
   .show O.trans b1.symm
   .subst w;have⟨I,e,D,J,y,L⟩:=h;rw[x]at e;cases e;show(y (.inl ⟨j2,k2,u2,Mb,A,b3⟩)).elim
  .rcases N with⟨b1,A,b3⟩|⟨b1,A,b3⟩
   .subst A;have⟨I,e,D,J,y,L⟩:=h;rw[b3]at e;cases e;show(y (.inl ⟨j1,k1,u1,LQ,w,x⟩)).elim
   .show t.inj j1 j2 k1 k2 u1 u2 r LQ Mb w A x b3
 .rcases z with z|⟨j,u',I,g,l,e3⟩
  .rcases b1 a z with z|⟨w,x⟩
   .show n.roots a (.inl z)
   .subst w;have⟨I,e,D,J,y,L⟩:=h;rw[x]at e;cases e;show .inr D
  .have⟨q1,q2⟩:=dD j u' g;show n.roots a (.inr ⟨j,u',I,q1,q2▸l,e3⟩)
def pE(z:Ok C c0)(q:Ok C c)(n:Nx c0 c)(A:i<c.σ.length)(t:aK C c0 c r.1 r.2 v)(h:W (eZ i r) c.st Post):
  ∃y,y.σ=c.σ.set i (bD v)/\y.H=c.H/\Ok C y/\Nx c0 y/\Post () y.st:=by
 have⟨k,u⟩:=r;cases k with
 |own =>
  have⟨x,st',e,f⟩:=h;cases e;have⟨g,l⟩:=q.put n A (.inl rfl) z t;show⟨{c with σ:=c.σ.set i (bD v),st:=c.st.set i (bD (.own,u))},rfl,rfl,g,l,f⟩
 |loc =>
  have⟨x,st',e,f⟩:=h;cases e;have⟨g,l⟩:=q.put n A (.inr (.inl rfl)) z t;show⟨{c with σ:=c.σ.set i (bD v),st:=c.st.set i (bD (.loc,u))},rfl,rfl,g,l,f⟩
 |any =>
  have⟨x,st',e,f⟩:=h;cases e;have⟨g,l⟩:=q.put n A (.inr (.inr rfl)) z t;show⟨{c with σ:=c.σ.set i (bD v),st:=c.st.set i (bD (.any,u))},rfl,rfl,g,l,f⟩
 |bor j =>
  have⟨x,st',e,f⟩:=h;rw[show eZ i (.bor j,u) c.st=match c.st[j]? with|some (bD (.own,u))=>bD (Ex.ok (),(c.st.set j (bD (.loc,u))).set i (bD (.loc,u)))|_=>b7 from rfl]at e;split at e
  .rename_i w D;cases e;obtain⟨O,G,r,J,_⟩:=q.sl j _ _ D;have I:c.σ[j]?=bD (bD v):=t.2;rw[I]at G;cases G;subst J;have⟨L,N,B⟩:=q.yK n D I;have⟨g,l⟩:=Ok.put (c:={c with S:=λa=>c.S a\/a=r,st:=c.st.set j (bD (.loc,w))}) L N (k:=.loc) (u:=w) (v:=.ref r) A (.inr (.inl rfl)) z B;show⟨{S:=λa=>c.S a\/a=r,H:=c.H,σ:=c.σ.set i (bD (.ref r)),st:=(c.st.set j (bD (.loc,w))).set i (bD (.loc,w)),kid:=c.kid},rfl,rfl,g,l,f⟩
  .cases e
 |_=>show t.elim
end
section
abbrev tG(C:Ct)(t:Bool)(is:List Nat):TG:=λv σ H Q=>∃b c r,c.σ=σ/\c.H=H/\Ok C b/\Ok C c/\Nx b c/\aK C b c r.1 r.2 v/\W (dc t is r) c.st λ_ st' =>
 ∀a,a.st=st'->Ok C a->Nx b a->(∀j,j∉is->a.σ[j]?=c.σ[j]?)->a.σ.length=c.σ.length->Q a.σ a.H
structure sV(X:Cx)(e:oT)(i:Nat):Prop where
 is:∃x pos,e=.Name x pos/\X.N[i]?=bD x/\Loc X.env.scope x/\(X.fn x=cb\/X.env.scope.names.lookup x=bD .local)
def El(g:X.N.Nodup)(h:sV X e i):PG X e (tG C cc [i]):=by
 have⟨x,pos,rfl,f,k,l⟩:=h.is;rintro a s σ H v u Q I rv ⟨G,c,r,rfl,rfl,m,o,n,b,w⟩;have p:i<c.σ.length:=by rw[I.len];show(et.mp f).1
 have⟨t,d,y,A,B,q⟩:=pE (r:=r) m o n p b w;show uo g f k l a s c.σ c.H v u Q I rv ?_;have z:=q t rfl A B (λj D=>by rw[d,ko (by intro z;show D (by simp[z]))]) (by rw[d];simp);rw[d,y]at z;show z
abbrev SF:List Nat->N5
 |[]=>Fj
 |i::is=>CA (um i) (SF is)
inductive fD(X:Cx):List oT->List Nat->Prop where
 |nil:fD X [] []
 |cons {e:oT} {es:List oT} {i:Nat} {is:List Nat} (h:sV X e i) (t:fD X es is):fD X (e::es) (i::is)
def wO(a:X.N.Nodup)(h:fD X es is):OH X es (SF is):=by
 induction h with
 |nil=>show AA
 |cons h t b =>
  have⟨x,pos,rfl,c,d,e⟩:=h.is;show xS (uo a c d e) b rfl
def sW(h:fD X es is):(QV es X.env).length=is.length/\(QV es X.env).findIdx? (·.1)=b7:=by
 induction h with
 |nil=>show⟨rfl,rfl⟩
 |cons h t a =>
  have⟨x,pos,rfl,b,c,d⟩:=h.is;show⟨?_,?_⟩
  .change(_::_).length=_;simp[a.1]
  .change Ò _ (_::_)=b7;rw[List.findIdx?_cons,ğ (by simp),a.2];rfl
theorem u9(hk:kE k=k)(h:Ok C g):∀{is:List Nat}{us:List U}{vs:List V}{c:Cf}{Post:Unit->ar->Prop}{Q:L2.St->Hp->Prop},Ok C c->Nx g c->(∀i∈is,i<c.σ.length)->aq C (SK C c k) c.H us vs->W (sets is (us.map λu=>(k,u))) c.st Post ->
  (∀b,Post () b.st->Ok C b->Nx g b->(∀j,j∉is->b.σ[j]?=c.σ[j]?)->b.σ.length=c.σ.length->Q b.σ b.H)->SF is vs c.σ c.H Q
 |[],[],vs,c,Post,Q,ok,n,d,a,w,q=>by
  rw[show sets [] (TV (λu=>(k,u)) [])=pure () from rfl,ak]at w;show⟨a,q c w ok n (λ_ _=>rfl) rfl⟩
 |[],u::us,vs,c,Post,Q,ok,n,d,a,w,q=>(bp.mp w).elim
 |i::is,[],vs,c,Post,Q,ok,n,d,a,w,q=>(bp.mp w).elim
 |i::is,u::us,vs,c,Post,Q,ok,n,d,a,w,q=>by
  rw[show sets (i::is) (TV (λu=>(k,u)) (u::us))=eZ i (k,u) >>= λ_=>sets is (us.map λu=>(k,u)) from rfl,ah]at w;have⟨v,r,rfl,l,m⟩:=a;have o:k=.own\/k=.loc\/k=.any:=by cases k<;>simp[kE]at hk<;>simp
  have D:k≠.own:=by cases k<;>simp[kE]at hk<;>simp
  have rt:aK C g c k u v:=by rw[<-hk];show aK.item l
  have⟨s,t⟩:=ok.put n (d i (by simp)) o h rt;have es:eZ i (k,u)=λst=>bD (.ok (),st.set i (bD (k,u))):=by cases k<;>simp[kE]at hk<;>rfl
  obtain⟨_,st',e,x⟩:=w;rw[es]at e;cases e;show⟨v,r,rfl,u9 (c:={c with σ:=c.σ.set i (bD v),st:=c.st.set i (bD (k,u))}) hk h s t (λj f=>by simpa using d j (by simp[f])) (by cases k<;>show m) x λb p y A B hl=>?_⟩;show q b p y A (λj f=>?_) (by rw[hl];simp);rw[B j (λz=>f (by simp[z])),ko (λz=>f (by simp[z]))]
def F0(m:X.calm=cb)(o:C.K=X.K)(q:X.N.Nodup)(h:fD X es is)(hl:∀i∈is,i<X.N.length):PG X (.Tuple es Y pos) (tG C cb is):=by
 rintro a s σ H v u Q I rv ⟨c0,c,r,rfl,rfl,t,f,n,d,w⟩;have⟨y,z⟩:=sW h;show Df m (wO q h) y z a s c.σ c.H v u Q I rv ?_;have⟨k,A⟩:=r;cases A with
 |tup us =>
  rw[show dc cb is (k,.tup us)=sets is (us.map λu=>(kE k,u)) from by cases is<;>rfl]at w;have⟨a',vs,rfl,g,j⟩:=d.tuple f;rw[o]at g;have b:us.length=is.length:=by
   have e:∀(is:List Nat) (l:List (Kd×U)) (st:ar) (P:Unit->ar->Prop),W (sets is l) st P->l.length=is.length:=by
    intro is;induction is with
    |nil=>intro l st P w;cases l with
     |nil=>rfl
     |cons _ _=>show(bp.mp w).elim
    |cons i is B=>intro l st P w;cases l with
     |nil=>show(bp.mp w).elim
     |cons x l =>
      rw[show sets (i::is) (x::l)=eZ i x >>= λ_=>sets is l from rfl,ah]at w;obtain⟨_,_,_,w⟩:=w;rw[k9,k9,B l _ _ w]
   simpa using e _ _ _ _ w
  show⟨a',vs,rfl,g,by rw[<-j.len,b],?_⟩;show u9 (k:=kE k) (by cases k<;>rfl) t f n (λi D=>by rw[I.len];show hl i D) (by cases k<;>show j) w λG p J L O T=>p G rfl J L O T
 |_=>cases is<;>show(bp.mp w).elim
end
section
variable{X:Cx}{C:Ct}{pins:List (eW×Obj)}{s:hY}{c0 c c1:Cf}
variable{a b d e o tg iter elt:oT}{es ifs:List oT}{m ma mb md me:M (Kd×U)}{ms:M (List (Kd×U))}{ta tb tc:M Bool}{pos p p2 apos G':Pos}
def wQ{m:M α}{st:ar}{Q:α->ar->Prop}:W (inScope k m) st Q↔W m (mx k b7++st) λa st'=>Q a (st'.drop k):=by
 constructor
 .rintro⟨a,st',e,h⟩;unfold inScope at e;cases q:m (mx k b7++st) with
  |none=>rw[q]at e;cases e
  |some r=>have⟨g,f⟩:=r;rw[q]at e;cases e;show⟨a,f,q,h⟩
 .rintro⟨a,st',e,h⟩;show⟨a,st'.drop k,by unfold inScope;rw[e],h⟩
abbrev Cf.ext(k:Nat)(c:Cf):Cf:={c with σ:=mx k b7++c.σ,st:=mx k b7++c.st,kid:=λj=>c.kid (j - k)}
abbrev Cf.cut(k:Nat)(c:Cf):Cf:={c with σ:=c.σ.drop k,st:=c.st.drop k,kid:=λj=>c.kid (k+j)}
def gO(h:(mx k b7++l)[j]?=bD (bD x)):∃i,j=k+i/\l[i]?=bD (bD x):=by
 by_cases f:j<k
 .rw[vl (by simpa using f)]at h;rw[KZ]at h;rw[ĝ f]at h;cases h
 .show⟨j - k,⋯,?_⟩;rw[sx (by simp;lia)]at h;simpa using h
def fE:(mx k b7++l)[k+i]?=l[i]?:=by
 rw[sx (by simp)];simp
def yR:(c.ext k).R1 r↔c.R1 r:=by
 constructor
 .rintro⟨j,g,u,h,l,f⟩;have⟨i,rfl,e⟩:=gO l;rw[Cf.ext,fE]at f;show⟨i,g,u,h,e,f⟩
 .rintro⟨i,g,u,h,l,f⟩;show⟨k+i,g,u,h,by rw[Cf.ext,fE];show l,by rw[Cf.ext,fE];show f⟩
def pF{a:eW}(h:(c.ext k).RD j a):∃i,j=k+i/\c.RD i a:=by
 have⟨u,r,l,f,g⟩:=h;have⟨i,rfl,e⟩:=gO l;rw[Cf.ext,fE]at f;show⟨i,rfl,u,r,e,f,?_⟩;have:(c.ext k).kid (k+i)=c.kid i:=by change c.kid (k+i - k)=_;rw[YA]
 rw[this]at g;show g
def F5(h:(c.ext k).R r):c.R r:=by
 rcases h with h|⟨j,h⟩
 .show .inl (yR.mp h)
 .obtain⟨i,_,h⟩:=pF h;show .inr ⟨i,h⟩
def Ok.ext(k:Nat)(f:Ok C c):Ok C (c.ext k)/\Nx c (c.ext k):=by
 show⟨⟨f.same,f.JY,f.par,f.io,by simp[Cf.ext,f.len],λj A u e=>?_,λi j k1 k2 u u' r B D l g y z=>?_,⟨λj u r l g=>?_,λi j a n q=>?_,λj a n q=>?_⟩⟩,⟨⟨λ_ _ h _=>h,λ_ o h=>⟨o,h⟩,λa h=>.inl (F5 h),λ_ h=>h,λ_ h=>.inl h⟩⟩⟩
 .have⟨i,rfl,G⟩:=gO e;have⟨v,l,g⟩:=f.sl i A u G;show⟨v,by rw[Cf.ext,fE];show l,g⟩
 .have⟨t,rfl,H⟩:=gO l;have⟨w,rfl,I⟩:=gO g;rw[Cf.ext,fE]at y z;rw[f.inj t w k1 k2 u u' r B D H I y z]
 .have⟨i,rfl,e⟩:=gO l;rw[Cf.ext,fE]at g;have:(c.ext k).kid (k+i)=c.kid i:=by change c.kid (k+i - k)=_;rw[YA]
  rw[this];show f.dd.kd i u r e g
 .have⟨t,rfl,x⟩:=pF n;have⟨w,rfl,J⟩:=pF q;rw[f.dd.dj t w a x J]
 .have⟨i,rfl,x⟩:=pF n;show f.dd.d1 i a x (yR.mp q)
def yS{a:eW}(h:(c.cut k).R1 a):c.R1 a:=by
 have⟨j,i,u,l,f,g⟩:=h;rw[Cf.cut,MJ]at f g;show⟨k+j,i,u,l,f,g⟩
def pG{a:eW}(h:(c.cut k).RD j a):c.RD (k+j) a:=by
 have⟨u,r,f,g,i⟩:=h;rw[Cf.cut,MJ]at f g;show⟨u,r,f,g,i⟩
def Ok.cut(k:Nat)(f:Ok C c):Ok C (c.cut k)/\Nx c (c.cut k):=by
 show⟨⟨f.same,f.JY,f.par,f.io,by simp[Cf.cut,f.len],λj x u e=>?_,λi j k1 k2 u u' r y A g l t w=>?_,⟨λj u r g l=>?_,λi j a n q=>?_,λj a n q=>f.dd.d1 _ a (pG n) (yS q)⟩⟩,⟨⟨λ_ _ h _=>h,λ_ o h=>⟨o,h⟩,λa h=>.inl (h.elim (λz=>.inl (yS z)) λ⟨j,z⟩=>.inr ⟨k+j,pG z⟩),λ_ h=>h,λ_ h=>.inl h⟩⟩⟩
 .rw[Cf.cut,MJ]at e;have⟨v,g,l⟩:=f.sl _ x u e;show⟨v,by rw[Cf.cut,MJ];show g,l⟩
 .rw[Cf.cut,MJ]at g l t w;have:=f.inj _ _ k1 k2 u u' r y A g l t w;lia
 .rw[Cf.cut,MJ]at g l;show f.dd.kd _ u r g l
 .have:=f.dd.dj _ _ a (pG n) (pG q);lia
def BJ(h:∀j,j∉js k->g[j]?=(mx k b7++σ)[j]?)(hl:g.length=(mx k (b7:Option V)++σ).length):∃f:L2.St,f.length=k/\g=f++σ:=by
 show⟨g.take k,by rw[vr,hl];simp,?_⟩;apply List.ext_getElem?;intro j;by_cases i:j<k
 .rw[vl (by rw[vr,hl];simp;lia),List.getElem?_take,ĝ i]
 .rw[h j (by simpa using i),sx (by simp;lia),sx (by rw[vr,hl];simp;lia)];congr 1
  rw[vr,hl];simp
def wR(e1:c1.σ=c0.σ)(HU:Ok C c1)(n1:Nx c0 c1)(hw:Walk C c1 rs xs J)(h3:W (bS k t tc me rs xs []) c1.st λus st'=>W (pure (Kd.own,U.lst us)) st' (cC C c0 Q)):
  uF k J (tG C t (js k)) (Jr C tc) (HR C me) Q c0.σ c1.H:=by
 show⟨λi m ys H=>∃c acc,c.H=H/\c.σ=c0.σ/\Ok C c/\Nx c1 c/\m=xs.length - i/\i<=xs.length/\aq C c.S c.H acc ys/\acc.length<=c4/\W (bS k t tc me rs (xs.drop i) acc) c.st λus st'=>W (pure (Kd.own,U.lst us)) st' (cC C c0 Q),⟨xs.length,c1,[],rfl,e1,HU,Nx.refl c1,by simp,mA _,rfl,mA _,by simpa using h3⟩,?_⟩;rintro i m ys H ⟨c,acc,rfl,D,q,y,rfl,hi,g,h,w⟩;show⟨by rw[<-g.len];show h,?_⟩;have f:lZ rs c1 c:=λj u _=>by rw[D,e1]
 by_cases G:i<xs.length
 .right
  rw[Ka G]at w;rw[show bS k t tc me rs (xs[i]::xs.drop (i+1)) acc=aD rs >>= λ_=>inScope k (dc t (js k) xs[i] >>= λ_=>tc >>= λb=>if b=cb then(me >>= λr=>lift r >>= λu=>pure (bD u)) else pure b7) >>= λr=>match r with|some u=>if acc.length<c4 then bS k t tc me rs (xs.drop (i+1)) (acc++[u]) else M.fail|none=>bS k t tc me rs (xs.drop (i+1)) acc from rfl,ah,cB]at w;have⟨LR,w⟩:=w;obtain⟨I,_⟩:=hw c q y f LR;have⟨SG,SH,Qz⟩:=I i xs[i] (by simp[G]);show⟨SH,λJQ H'=>∃c acc,c.H=H'/\c.σ=c0.σ/\Ok C c/\Nx c1 c/\aq C c.S c.H acc JQ/\acc.length<=c4/\W (bS k t tc me rs (xs.drop (i+1)) acc) c.st λus st'=>W (pure (Kd.own,U.lst us)) st' (cC C c0 Q),λJQ H' ⟨c',O',z1,z2,z3,z4,z5,z6,z7⟩=>⟨xs.length - (i+1),⋯,c',O',z1,z2,z3,z4,rfl,G,z5,z6,z7⟩,λx H' hy=>?_⟩;have⟨l,rfl,e4,e5,Iw,n2,rt⟩:=Qz x H' hy;rw[ah,wQ,ah]at w;have⟨QA,nx⟩:=Iw.ext k;have WA:aK C (l.ext k) (l.ext k) xs[i].1 xs[i].2 x:=by
   rcases SG with z|z
   .rw[z]at rt ⊢;show rt
   .rw[z]at rt ⊢;show rt
  have eσ:(l.ext k).σ=mx k b7++c0.σ:=by rw[Cf.ext];change mx k b7++l.σ=_;rw[e4,D]
  show⟨l.ext k,l.ext k,xs[i],eσ,rfl,QA,QA,Nx.refl _,WA,?_⟩;have Sb:(l.ext k).st=mx k b7++c.st:=by rw[Cf.ext];change mx k b7++l.st=_;rw[e5]
  rw[Sb];show w.mono λ_ st3 w3 c3 e6 Kw n3 Px Ot=>?_;subst e6;rw[eσ]at Px Ot;have⟨L,N,O⟩:=BJ Px Ot;show⟨L,N,O,?_⟩;have UA:Nx c c3:=(n2.trans nx).trans n3;rw[ah]at w3;show⟨c3,rfl,rfl,Kw,w3.mono λb MR n B e7 e8 T n4=>?_⟩;subst e8;cases b with
  |false =>
   rw[ğ l']at n ⊢;rw[ak]at n;have⟨Y,nk⟩:=T.cut k;have nn:Nx c (B.cut k):=(UA.trans n4).trans nk;show⟨B.cut k,acc,rfl,?_,Y,y.trans nn,g.mv (q.mv nn),h,n⟩;change B.σ.drop k=_;rw[e7,O,Wv N]
  |true =>
   rw[ĝ rfl]at n ⊢;rw[ah]at n;show⟨B,e7,rfl,T,n.mono λr Li w5 c5 v e9 WB WC n5 WD=>?_⟩;subst WB;rw[ah]at w5;obtain⟨S',st',u,sS,WE,n6,SM,A,_,_⟩:=gN T WC n5 WD.w w5;rw[ak]at A
   dsimp only at A
   split at A
   .rename_i hz;have⟨Y,nk⟩:=WE.cut k;have nn:Nx c (Cf.cut k {c5 with S:=S',st:=st' }):=((UA.trans n4).trans n6).trans nk;show⟨Cf.cut k {c5 with S:=S',st:=st' },acc++[u],rfl,?_,Y,y.trans nn,(g.mv (q.mv nn)).snoc SM,by rw[gs];show hz,A⟩;change c5.σ.drop k=_;rw[e9,O,Wv N]
   .show(bp.mp A).elim
 .left
  have Ko:i=xs.length:=by lia
  subst Ko;rw[ZQ,show bS k t tc me rs [] acc=aD rs >>= λ_=>pure acc from rfl,ah,cB,ak,ak]at w;obtain⟨_,I⟩:=hw c q y f w.1;show⟨I _ (kb _),λp hp=>cC.list w.2 D q (n1.trans y) g p hp⟩
def n9(l:Ok C c0)
  (h:W (ms >>= λrs=>aD rs >>= λ_=>M.Im (Kg ik rs) >>= λxs=>bS k t tc me rs xs [] >>= λus=>pure (Kd.own,U.lst us)) c0.st (cC C c0 Q)) :
  yf k (LP C ik ms) (tG C t (js k)) (Jr C tc) (HR C me) c0.σ c0.H Q:=by
 rw[ah]at h;show⟨c0,rfl,rfl,l,?_⟩;rw[ah];show h.mono λrs st1 f=>?_;rw[ah,cB]at f ⊢;show⟨f.1,?_⟩;have g:=f.2;rw[ah]at g ⊢;show g.mono λxs st2 i=>?_;rw[ak];intro c1 J n q r u v j;rw[ah]at i;subst q
 dsimp only at v j
 show wR n r u j i
def yT(S:cV X N own scope)(f:X.calm=cb)(g:PI X tg iter (LP C ik ms))
  (i:∀D s H ex,PG (Ja X N scope D s H ex) tg (tG C t (js own.length))) (j:∀D s H ex,Ml (Ja X N scope D s H ex) ifs (Jr C tc)) (k:∀D s H ex,PE (Ja X N scope D s H ex) elt (HR C me))
  (hs:∀x,Ni iter X.env x=pure x) :
  PE X (.ListComp elt [⟨tg,iter,ifs,0⟩] scope pos) (HR C (ms >>= λrs=>aD rs >>= λ_=>M.Im (Kg ik rs) >>= λxs=>bS own.length t tc me rs xs [] >>= λus=>pure (.own,.lst us))):=by
 show PE.weak (AW S f g i j k hs) ?_;rintro σ H Q ⟨c0,rfl,rfl,l,h⟩;show n9 l h
end
section
variable{a b d e o tg iter elt:oT}{es ifs:List oT}{m ma mb md me:M (Kd×U)}{ms:M (List (Kd×U))}{ta tb tc:M Bool}{pos p p2 apos G':Pos}{st:Nw}{rest body:List Nw}{f g mm:M Fl}{ns Pe:Nat->Bool}
def Em(C:Ct)(c:Cf):Kd->U->V->Prop
 |.own,u,v=>∃r,v=.ref r/\C.H₀ r=b7/\¬c.S r/\¬c.R r/\cY C c.S c.H r u
 |.loc,u,v=>Rep C c.S c.H u v
 |.any,u,v=>Rep C (PS C c.S) c.H u v
 |_,_,_=>False
def HB(C:Ct)(Q:VK)(c:Cf):Kd->U->Prop
 |.io,u=>C.xw u c.H
 |k,u=>∀v,Em C c k u v->Q v c.H
abbrev Fin(C:Ct)(D:Ends)(f:Fl)(c:Cf):Prop:=match f with
 |.nx=>D.nx c.σ c.H
 |.bk=>D.bk c.σ c.H
 |.ct=>D.ct c.σ c.H
 |.rt k u=>HB C D.rt c k u
abbrev Kept(ns:Nat->Bool)(c h:Cf):Prop:=(∀j,ns j=cb->h.σ[j]?=c.σ[j]?)/\h.σ.length=c.σ.length
def Kept.refl:Kept ns c c:=⟨λ_ _=>rfl,rfl⟩
def Kept.trans(h:Kept ns c i)(h':Kept ns i k):Kept ns c k:=⟨λj z=>(h'.1 j z).trans (h.1 j z),h'.2.trans h.2⟩
def Kept.le(i:∀j,Pe j=cb->ns j=cb)(h:Kept ns c k):Kept Pe c k:=⟨λj z=>h.1 j (i j z),h.2⟩
def Kept.of(h:i.σ=c.σ):Kept ns c i:=⟨λj z=>by rw[h],by rw[h]⟩
abbrev fc(C:Ct)(h:Cf)(ns:Nat->Bool)(D:Ends)(f:Fl)(st':ar):Prop:=∀c,c.st=st'->Ok C c->Ns h c->Kept ns h c->Fin C D f c
abbrev IK(C:Ct)(ns:Nat->Bool)(m:M Fl):TS:=λD σ H=>∃c:Cf,c.σ=σ/\c.H=H/\Ok C c/\W m c.st (fc C c ns D)
def sX(j:Ok C c)(n:Ns i c)(k:Kept ns i c)(h:W mm c.st (fc C i ns D)):IK C ns mm D c.σ c.H :=
 ⟨c,rfl,rfl,j,h.mono λf st l q e r s k2=>l q e r (n.trans s) (k.trans k2)⟩
def PS.weak(h:L2.PS X st t)(i:∀D σ H,t' D σ H->t D σ H):L2.PS X st t':=λc s σ H D I q=>h c s σ H D I (i D σ H q)
def Jd.weak(h:Jd X rest t)(i:∀D σ H,t' D σ H->t D σ H):Jd X rest t':=λc s σ H D I q=>h c s σ H D I (i D σ H q)
def pH(i:∀j,Pe j=cb->ns j=cb)(h:IK C Pe mm D σ H):IK C ns mm D σ H :=
 let ⟨c,k,l,n,w⟩:=h;⟨c,k,l,n,w.mono λf st q r e s t k2=>q r e s t (k2.le i)⟩
def F6:Jd X [] (IK C ns (pure .nx)):=by
 show Jd.weak uj ?_;rintro D σ H ⟨c,rfl,rfl,i,h⟩;rw[ak]at h;show h c rfl i (Ns.refl c) Kept.refl
abbrev BK(m:M Fl)(f:Fl):M Fl:=match f with
 |.nx=>m
 |f=>pure f
def En(l:L2.PS X st (IK C ns f))(n:Jd X rest (IK C ns g)):Jd X (st::rest) (IK C ns (f >>= BK g)):=by
 show Jd.weak (qk l n) ?_;rintro D σ H ⟨q,rfl,rfl,r,h⟩;rw[ah]at h;show⟨q,rfl,rfl,r,h.mono λs st1 w j e c i k1=>?_⟩;subst e;cases s with
 |nx=>show sX c i k1 w
 |bk=>rw[show BK g .bk=pure .bk from rfl,ak]at w;show w j rfl c i k1
 |ct=>rw[show BK g .ct=pure .ct from rfl,ak]at w;show w j rfl c i k1
 |rt k u=>rw[show BK g (.rt k u)=pure (.rt k u) from rfl,ak]at w;show w j rfl c i k1
def F7(i:PE X a (HR C ma))(hs:RB a b7 pos.line X.env=pure cc):L2.PS X (.Expr a pos) (IK C ns (ma >>= λ_=>pure .nx)):=by
 show PS.weak (iM i hs) ?_;rintro D σ H ⟨k,rfl,rfl,j,h⟩;show aQ j h λx c v t w=>?_;rw[ak]at w;have:=w c rfl t.ok t.nx (Kept.of t.hσ);rw[<-t.hσ];show this
def Eo:L2.PS X (.Return b7 pos) (IK C ns (pure (.rt .loc .HX))):=by
 show PS.weak Az ?_;rintro D σ H ⟨c,rfl,rfl,i,h⟩;rw[ak]at h;show h c rfl i (Ns.refl c) Kept.refl .HX rfl
def yU(ok:Ok C L)(t:M1 C L c x v)(w:W (retS x) c.st (fc C L ns D)):D.rt v c.H:=by
 have⟨k,u⟩:=x;have⟨G,l,n,r⟩:=t;cases k with
 |own =>
  rw[show retS (.own,u)=pure (.rt .own u) from rfl,ak]at w;have⟨B,e,h1,h2,h3,h4⟩:=r;show w c rfl l n (Kept.of G) v ⟨B,e,(ok.lO h1).1,h2,h3,h4⟩
 |loc =>
  rw[show retS (.loc,u)=pure (.rt .loc u) from rfl,ak]at w;show w c rfl l n (Kept.of G) v r
 |any =>
  rw[show retS (.any,u)=if Ii u=cb then pure (.rt .loc u) else pure (.rt .any u) from rfl]at w;split at w
  .rw[ak]at w;show w c rfl l n (Kept.of G) v (Rep.Ii (by assumption) r)
  .rw[ak]at w;show w c rfl l n (Kept.of G) v r
 |bor j =>
  have⟨fl,st',e,w⟩:=w;rw[show retS (.bor j,u) c.st=match c.st[j]? with|some (bD (.own,u))=>bD (Ex.ok (Fl.rt .own u),c.st.set j b7)|_=>b7 from rfl]at e;split at e
  .rename_i u' J;cases e;have Le:j<c.st.length:=(et.mp J).1;have A:∀(i:Nat) k u',(c.st.set j b7)[i]?=bD (bD (k,u'))->i≠j/\c.st[i]?=bD (bD (k,u')):=λi k u' e=>by
    by_cases N:i=j
    .subst N;rw[fx Le]at e;cases e
    .rw[ko (uv N)]at e;show⟨N,e⟩
   have⟨v',s,B,er,q1,q2,q3,q4⟩:=l.sl j _ _ J;have O:c.σ[j]?=bD (bD v):=r.2;rw[O]at s;cases s;subst er;have T:∀a,({c with st:=c.st.set j b7}:Cf).R1 a->c.R1 a:=λa ⟨i,k,h,hk,s,y⟩=>⟨i,k,h,hk,(A i k h s).2,y⟩
   have hR:∀a,({c with st:=c.st.set j b7}:Cf).R a->c.R a:=λa z=>z.elim (λz=>.inl (T a z)) λ⟨i,h,Q,s,y,I⟩=>.inr ⟨i,h,Q,(A i .B' h s).2,y,I⟩;have LN:Lc C {c with st:=c.st.set j b7}:=l.dd.of rfl (λi h e=>⟨(A i .B' h e).2,rfl⟩) (λa z=>.inl (T a z)) (.up λ_ z=>z) λi a z=>⟨(l.root (.inr ⟨i,z⟩)).1,λo q=>q⟩
   have WG:Ok C {c with st:=c.st.set j b7}:=⟨l.same,l.JY,l.par,l.io,by simp[l.len],λi k h e=>l.sl i k h (A i k h e).2,λi Y k k' u1 h r hk IH s y I e4=>l.inj i Y k k' u1 h r hk IH (A i k u1 s).2 (A Y k' h y).2 I e4,LN⟩
   have nn:Ns L {c with st:=c.st.set j b7}:=⟨n.keep,n.there,λa z=>n.roots a (hR a z),n.sub,n.new⟩
   show w {c with st:=c.st.set j b7} rfl WG nn (Kept.of G) (.ref B) ⟨B,rfl,q3,q1,λz=>?_,q4⟩
   .rcases z with⟨i,k,h,hk,s,y⟩|⟨i,h,Q,s,y,I⟩
    .have⟨ne,IV⟩:=A i k h s;show ne (l.inj i j k .own h _ B hk rfl IV J y O)
    .show l.dd.d1 i B ⟨h,Q,(A i .B' h s).2,y,I⟩ ⟨j,.own,_,rfl,J,O⟩
  .cases e
 |_=>show r.elim
def F8(j:PE X a (HR C ma)):L2.PS X (.Return (bD a) pos) (IK C ns (ma >>= retS)):=by
 show PS.weak (Dd j) ?_;rintro D σ H ⟨k,rfl,rfl,i,h⟩;show aQ i h λx c v t w=>yU i t w
end
section
def qS(f:∀j,ns j=cb->j≠i)(g:Ok C a)(t:M1 C a c r v)(h:i<c.σ.length)(w:W (eZ i r >>= λ_=>(pure .nx:M Fl)) c.st (fc C a ns D)):D.nx (a.σ.set i (bD v)) c.H:=by
 rw[ah]at w;have⟨b,d,k,l,m,q⟩:=pE (r:=r) g t.ok t.nx h t.rx w;rw[ak]at q;have z:=q b rfl l m ⟨λj n=>by rw[d,t.hσ,ko (uv (f j n))],by rw[d,t.hσ];simp⟩;have e:D.nx b.σ b.H:=z;rw[d,k,t.hσ]at e;show e
def CL(g:∀j,ns j=cb->j≠i)(k:X.N.Nodup)(e:X.N[i]?=bD x)(l:Loc X.env.scope x)(m:X.fn x=cb\/X.env.scope.names.lookup x=bD .local)(n:PE X a (HR C o))
  (hs:RB a (bD (.Name x pos')) pos.line X.env=pure cc):L2.PS X (.Assign [.Name x pos'] a pos) (IK C ns (o >>= λr=>eZ i r >>= λ_=>pure .nx)):=by
 rintro b s σ H D I ⟨d,rfl,rfl,f,h⟩;have p:i<d.σ.length:=by rw[I.len];show(et.mp e).1
 show sd k e l n hs m b s d.σ d.H D I (aQ f h λr c v t w=>qS g f t (by rw[t.hσ];show p) w)
def Ep(m:∀j,ns j=cb->j≠i)(S:cV X N own scope)(o:X.calm=cb)(p:X.N.Nodup)(g:X.N[i]?=bD y)(q:X.env.scope.names.lookup y=bD .local)
  (u:PI X e a (LP C ik ms)) (z:∀D s H ex,PG (Ja X N scope D s H ex) e (tG C t (js own.length))) (A:∀D s H ex,Ml (Ja X N scope D s H ex) b (Jr C B)) (G:∀D s H ex,PE (Ja X N scope D s H ex) elt (HR C J))
  (L:RB (.ListComp elt [⟨e,a,b,0⟩] scope pos) (bD (.Name y O)) Q.line X.env=pure cb) (hs:∀x,Ni a X.env x=pure x) :
  L2.PS X (.Assign [.Name y O] (.ListComp elt [⟨e,a,b,0⟩] scope pos) Q)
   (IK C ns ((ms >>= λrs=>aD rs >>= λ_=>M.Im (Kg ik rs) >>= λxs=>bS own.length t B J rs xs [] >>= λus=>pure (.own,.lst us)) >>= λr=>eZ i r >>= λ_=>pure .nx)):=by
 rintro d s σ H D I ⟨f,rfl,rfl,k,h⟩;have T:i<f.σ.length:=by rw[I.len];show(et.mp g).1
 show AX S o p g q u z A G L hs d s f.σ f.H D I ?_;rw[ah]at h;show n9 k (h.mono λr st1 w c v l Y Ij n rt=>?_);subst Y;show qS m k ⟨l,Ij,n,rt⟩ (by rw[l];show T) w
def Er(g:∀j,ns j=cb->j∉is)(i:PE X a (HR C k))(l:PG X b (tG C cb is))(hs:RO [b] a pos.line X.env=pure cc)(m:VL [b] a X.env=pure b7)(n:(QV [b] X.env).map (·.2)=[SA b X.env]):
  L2.PS X (.Assign [b] a pos) (IK C ns (k >>= λr=>dc cb is r >>= λ_=>pure .nx)):=by
 show PS.weak (r_ i l hs m n) ?_;rintro D σ H ⟨o,rfl,rfl,d,h⟩;show aQ d h λr c v t w=>?_;rw[ah]at w;show⟨o,c,r,t.hσ,rfl,d,t.ok,t.nx,t.rx,w.mono λ_ st1 f p e q s u hl=>?_⟩;subst e;rw[ak]at f;show f p rfl q s ⟨λj x=>by rw[u j (g j x),t.hσ],by rw[hl,t.hσ]⟩
def F9(i:PT X a (Jr C j))(k:Jd X l (IK C ns f))(m:Jd X o (IK C ns g)):L2.PS X (.If a l o pos) (IK C ns (j >>= λp=>if p=cb then f else g)):=by
 show PS.weak (Fi i k m) ?_;rintro D σ H ⟨q,rfl,rfl,r,h⟩;show gA r h λp c b d n w=>?_;have e:q.σ=c.σ:=b.symm;rw[e];cases p with
 |true=>rw[ĝ rfl]at w ⊢;show sX d n (Kept.of b) w
 |false=>rw[ğ l']at w ⊢;show sX d n (Kept.of b) w
def F_(L:XY (ke X.prog X.w) X.A X.env X.xe)(N:PT X a (Jr C g))(O:Jd X body (IK C ns f)):L2.PS X (.While a body [] pos) (IK C ns (gw g f n)):=by
 show PS.weak (xU L N O) ?_;rintro D σ H ⟨d,rfl,rfl,Q,h⟩;show⟨λm t H'=>∃c,c.H=H'/\c.σ=t/\Ok C c/\Ns d c/\Kept ns d c/\W (gw g f m) c.st (fc C d ns D),⟨n,d,rfl,rfl,Q,Ns.refl d,Kept.refl,h⟩,?_⟩;rintro m t H' ⟨c,rfl,rfl,T,v,x,w⟩;cases m with
 |zero=>show(bp.mp w).elim
 |succ m =>
  rw[show gw g f (m+1)=g >>= λb=>if b=cb then(f >>= λf'=>match f' with|.nx=>gw g f m|.ct=>gw g f m|.bk=>pure .nx|.rt k u=>pure (.rt k u)) else pure .nx from rfl]at w;show gA T w λp l y B G i=>?_;have k2:Kept ns c l:=Kept.of y;rw[<-y];cases p with
  |false =>
   rw[ğ l']at i ⊢;rw[ak]at i;show i l rfl B (v.trans G) (x.trans k2)
  |true =>
   rw[ĝ rfl]at i ⊢;show⟨λI J=>∃c,c.H=J/\c.σ=I/\Ok C c/\Ns d c/\Kept ns d c/\W (gw g f m) c.st (fc C d ns D),λI J z=>⟨m,Td m,z⟩,?_⟩;rw[ah]at i;show⟨l,rfl,rfl,B,i.mono λY st3 j o e q n3 k3=>?_⟩;subst e;have r:=(v.trans G).trans n3;have s:=(x.trans k2).trans k3;cases Y with
   |nx=>show⟨o,rfl,rfl,q,r,s,j⟩
   |ct=>show⟨o,rfl,rfl,q,r,s,j⟩
   |_=>rw[ak]at j;show j o rfl q r s
def Ga(hp:XY (ke X.prog X.w) X.A X.env X.xe)(hc:X.calm=cb)(hi:PI X tg a (LP C ik ms))(hg:PG X tg (tG C t is))(hb:Jd X body (IK C (JK s) f))(hs:∀x,Ni a X.env x=pure x)
  (Jg:∀j,ns j=cb->j∉is/\JK s j=cb) :
  L2.PS X (.For tg a body [] pos) (IK C ns (ms >>= λrs=>aD rs >>= λ_=>M.Im (Kg ik rs) >>= λxs=>if uV rs is s=cb then forM t is f rs xs else M.fail)):=by
 show PS.weak (Dl hp hc hi hg hb hs) ?_;rintro D σ H ⟨d,rfl,rfl,ok,h⟩;rw[ah]at h;show⟨d,rfl,rfl,ok,?_⟩;rw[ah];show h.mono λrs st1 v=>?_;rw[ah,cB]at v ⊢;show⟨v.1,?_⟩;have h2:=v.2;rw[ah]at h2 ⊢;show h2.mono λxs st2 y=>?_;rw[ak];intro b J e1 e2 HU n1 HQ B;subst e2
 dsimp only at HQ B
 split at y
 .rename_i ND;have SQ:∀j u,(Kd.bor j,u)∈rs->j∉is/\JK s j=cb:=λj u o=>by
   have:=r6.mp ND _ o;simpa using this
  show⟨λi m l H'=>∃c,c.H=H'/\c.σ=l/\Ok C c/\Ns b c/\Kept ns d c/\lZ rs b c/\m=xs.length - i/\i<=xs.length/\W (forM t is f rs (xs.drop i)) c.st (fc C d ns D),
   ⟨xs.length,b,rfl,e1,HU,Ns.refl b,Kept.of e1,λ_ _ _=>rfl,by simp,mA _,by simpa using y⟩,?_⟩
  rintro i m l H' ⟨c,rfl,rfl,G,p,kc,I,rfl,Ko,w⟩;by_cases L:i<xs.length
  .right
   rw[Ka L,show forM t is f rs (xs[i]::xs.drop (i+1))=aD rs >>= λ_=>dc t is xs[i] >>= λ_=>f >>= λf'=>match f' with|.nx=>forM t is f rs (xs.drop (i+1))|.ct=>forM t is f rs (xs.drop (i+1))|.bk=>pure .nx|.rt k u=>pure (.rt k u) from rfl,ah,cB]at w;have⟨LR,w⟩:=w;obtain⟨N,_⟩:=B c G p I LR;have⟨SG,SH,Qz⟩:=N i xs[i] (by simp[L]);show⟨SH,λl H'=>∃c,c.H=H'/\c.σ=l/\Ok C c/\Ns b c/\Kept ns d c/\lZ rs b c/\W (forM t is f rs (xs.drop (i+1))) c.st (fc C d ns D),λl H' ⟨c',z1,z2,z3,z4,z5,z6,z7⟩=>⟨xs.length - (i+1),⋯,c',z1,z2,z3,z4,z5,z6,rfl,L,z7⟩,λx H' hy=>?_⟩;have⟨n,rfl,q,e5,Iw,n2,rt⟩:=Qz x H' hy;rw[ah]at w;have WH:aK C n n xs[i].1 xs[i].2 x:=by
    rcases SG with z|z
    .rw[z]at rt ⊢;show rt
    .rw[z]at rt ⊢;show rt
   show⟨n,n,xs[i],q,rfl,Iw,Iw,Nx.refl n,WH,?_⟩;rw[e5];show w.mono λ_ st3 w3 c3 e6 Kw n3 UD Ot=>?_;subst e6;rw[ah]at w3;show⟨c3,rfl,rfl,Kw,w3.mono λfl MR r g e O n4 Q=>?_⟩;subst e;have T:Ns b g:=((p.trans n2.toNs).trans n3.toNs).trans n4;have Y:Kept ns d g:=by
    show kc.trans ⟨λj hj=>?_,by rw[Q.2,Ot,q]⟩;have⟨j1,j2⟩:=Jg j hj;rw[Q.1 j j2,UD j j1,q]
   have UE:lZ rs b g:=λj u o=>by
    have⟨j1,j2⟩:=SQ j u o;rw[Q.1 j j2,UD j j1,q];show I j u o
   cases fl with
   |nx=>show⟨g,rfl,rfl,O,T,Y,UE,r⟩
   |ct=>show⟨g,rfl,rfl,O,T,Y,UE,r⟩
   |_=>rw[ak]at r;show r g rfl O (n1.toNs.trans T) Y
  .left
   have WI:i=xs.length:=by lia
   subst WI;rw[ZQ,show forM t is f rs []=aD rs >>= λ_=>pure .nx from rfl,ah,cB,ak]at w;obtain⟨_,N⟩:=B c G p I w.1;show⟨N _ (kb _),w.2 c rfl G (n1.toNs.trans p) kc⟩
 .show(bp.mp y).elim
end
section
def Ok.mod(d:Ok C c)(n:Ns c0 c)(hk:k.root=cb)(A:c.st[i]?=bD (bD (k,u)))(G:c.σ[i]?=bD (bD (.ref r)))(IW:∀a,a≠r->H' a=c.H a)(hr:∃o,H' r=bD o)
  (new:Mv c.S c.H c.S H'->cY C c.S H' r u'):Ok C {c with H:=H',st:=c.st.set i (bD (k,u'))}/\Ns c0 {c with H:=H',st:=c.st.set i (bD (k,u'))}:=by
 have Lf:c.R1 r:=⟨i,k,u,hk,A,G⟩
 have hR:c.R r:=.inl Lf;have⟨J,q2,q3,o,ho,Py⟩:=d.root hR;have L:i<c.st.length:=(et.mp A).1;have p:∀{a:eW} {b:HO},a≠r->c.H a=bD b->H' a=bD b:=λN e=>by rw[IW _ N];show e
 have I:Mv c.S c.H c.S H':=⟨λ_ z=>z,λa b e t=>p (λz=>by subst z;rw[ho]at e;cases e;show Py t) e,λa b z e=>p (λf=>J (f▸z)) e⟩
 have Mq:Mv (PS C c.S) c.H (PS C c.S) H':=⟨λ_ z=>z,I.Pk,λa b z e=>p (λf=>by subst f;show z.elim q2 J) e⟩
 have O:∀(j:Nat) k' w,(c.st.set i (bD (k,u')))[j]?=bD (bD (k',w))->j≠i->c.st[j]?=bD (bD (k',w)):=λj k' w e N=>by rw[ko (uv N)]at e;show e
 have g:∀(j:Nat) k' w,k'.root=cb->(c.st.set i (bD (k,u')))[j]?=bD (bD (k',w))->∃Q,c.st[j]?=bD (bD (k',Q)):=λj k' w _ e=>by
  by_cases q:j=i
  .subst q;rw[fx L]at e;cases e;show⟨u,A⟩
  .show⟨w,O j k' w e q⟩
 have b1:∀a,({c with H:=H',st:=c.st.set i (bD (k,u'))}:Cf).R1 a->c.R1 a:=λa Ib=>by
  have⟨j,k',w,h,l,m⟩:=Ib;have⟨Q,T⟩:=g j k' w h l;show⟨j,k',Q,h,T,m⟩
 have dD:∀(j:Nat) (w:U),(c.st.set i (bD (k,u')))[j]?=bD (bD (.B',w))->c.st[j]?=bD (bD (.B',w)):=λj w e=>by
  by_cases q:j=i
  .subst q;rw[fx L]at e;cases e;cases hk
  .show O j .B' w e q
 have LN:Lc C {c with H:=H',st:=c.st.set i (bD (k,u'))}:=d.dd.of rfl (λj w e=>⟨dD j w e,rfl⟩) (λa z=>.inl (b1 a z)) I λj a z=>⟨(d.root (.inr ⟨j,z⟩)).1,λb e=>p (λf=>d.dd.d1 j a z (f▸Lf)) e⟩
 show⟨⟨λa b e z=>?_,λa z=>?_,d.par,λa z=>?_,by simp[d.len],λj k' w e=>?_,λj1 j2 k1 k2 w1 w2 s h x l m Y e4=>?_,LN⟩,n.trans ⟨λa b e z=>p (λf=>z (f▸hR)) e,λa b e=>?_,λa z=>?_,λ_ z=>z,λ_ z=>.inl z⟩⟩
 .have h:=d.same a b e z;show p (λf=>?_) h;subst f;rcases q3 with q3|q3
  .rw[e]at q3;cases q3
  .show z q3
 .have⟨h,b,x⟩:=d.JY a z;show⟨h,b,p (λf=>J (f▸z)) x⟩
 .have⟨h,b,x⟩:=d.io a z;show⟨h,?_⟩;by_cases B:a=r
  .subst B;show hr
  .show⟨b,p B x⟩
 .by_cases q:j=i
  .subst q;rw[fx L]at e;cases e;have⟨v,l,m⟩:=d.sl j _ _ A;rw[G]at l;cases l;show⟨.ref r,G,?_⟩;have nr:=new I;cases k with
   |own=>obtain⟨s,y,D,z2,z3,_⟩:=m;cases y;show⟨r,rfl,D,z2,z3,nr⟩
   |io=>obtain⟨s,y,D,z2,z3,_⟩:=m;cases y;show⟨r,rfl,D,z2,z3,nr⟩
   |_=>cases hk
  .have e0:=O j k' w e q;have⟨v,l,m⟩:=d.sl j k' w e0;show⟨v,l,m.mv I Mq λIH s y=>?_⟩;obtain⟨Qx,JH,D,_⟩:=m.rt IH;rw[y]at JH;cases JH;show⟨D,λb e=>p (λz=>?_) e⟩;subst z;show q (d.inj j i k' k w u s IH hk e0 A (by rw[l,y]) G)
 .have⟨QB,T⟩:=g j1 k1 w1 h l;have⟨UG,a2⟩:=g j2 k2 w2 x m;show d.inj j1 j2 k1 k2 QB UG s h x T a2 Y e4
 .by_cases B:a=r
  .subst B;show hr
  .show⟨b,p B e⟩
 .rcases z with z|⟨j,w,s,l,m,Y⟩
  .show .inl (.inl (b1 a z))
  .show .inl (.inr ⟨j,w,s,dD j w l,m,Y⟩)
def fe{f:U->Option U}{st:ar}(h:W (modS i f) st Q):∃k u u',k.root=cb/\st[i]?=bD (bD (k,u))/\f u=bD u'/\Q () (st.set i (bD (k,u'))):=by
 obtain⟨_,st',e,q⟩:=h;unfold modS at e;split at e
 .rename_i k u hs;split at e
  .rename_i hk;cases a:f u with
   |none=>rw[a]at e;cases e
   |some u'=>rw[a]at e;cases e;show⟨k,u,u',hk,hs,a,q⟩
  .cases e
 .cases e
def dg{st:ar}(h:W (dE i) st Q):∃k u,k≠.B'/\st[i]?=bD (bD (k,u))/\Q (if k.root=cb then .bor i else k,u) st:=by
 have⟨r,st',e,q⟩:=h;unfold dE at e;split at e
 .cases e
 .rename_i k u a hs;cases e;show⟨k,u,λz=>a z,hs,q⟩
 .cases e
def Gb(Y:C.K=X.K)(hN:X.N[i]?=bD x)(hv:J0 X.env.scope x)(hd:(x==("__debug__":Str))=cc)(IB:(x==("__classdict__":Str))=cc)(ha:PE X a (HR C ma))
  (I0:((KW g (lx [a] X.env)).all (λx=>!x.1)&&(Sx g (P2 [] X.env)).all (λx=>x.1.isSome)
   && df ([a].length+([]:List O9).length+(if ([]:List O9).isEmpty then 0 else 1)<30))=cb)
  (IC:(b.endLine==g.line)=cb) (o:lx [a] X.env=[(cc,JF a X.env)]) :
  L2.PS X (.Expr (.Call (.Attribute (.Name x px) "append" b) [a] [] g) pos) (IK C ns (dE i >>= λx=>My x.2 >>= λ_=>ma >>= λr=>lift r >>= λu=>modS i (yD u) >>= λ_=>pure .nx)):=by
 show PS.weak (iM (uA PySem.F.plainAttrs_list PySem.F.slot_list_append PySem.F.type_list_append nM (cv hN hv hd IB) (dy ha iq o) rfl I0 IC o rfl)) ?_;rintro D σ H ⟨p,rfl,rfl,f,h⟩;rw[ah]at h;have⟨k0,s,Lg,y,h⟩:=dg h;have⟨A,l,m⟩:=f.sl i k0 s y;show⟨A,l,?_⟩;cases s with
 |lst B =>
  rw[ah,show My (U.lst B)=pure () from rfl,ak]at h;have SU:aK C p p (if k0.root=cb then .bor i else k0) (.lst B) A:=by
   by_cases hk:k0.root=cb
   .rw[ĝ hk];show⟨⟨k0,hk,y⟩,l⟩
   .rw[ğ hk];cases k0 with
    |loc=>show m
    |any=>show m
    |bor j=>show m.elim
    |B'=>show(Lg rfl).elim
    |_=>show absurd rfl hk
  obtain⟨a0,Oq,n,N7,_⟩:=SU.list f;show⟨by rw[n];show .inl ⟨rfl,Oq,Y▸N7⟩,?_⟩;show aQ f h λr c v t w=>?_;rw[ah]at w;obtain⟨S',st',u,sS,G,n1,d,I,_,_⟩:=gN f t.ok t.nx t.rx.w w;rw[ah]at I;have⟨k,u1,u2,hk,hs,e,q⟩:=fe I;have J:c.σ[i]?=bD (bD (.ref a0)):=by rw[t.hσ,l,n]
  cases u1 with
  |lst L =>
   simp only[yD]at e;split at e
   .rename_i hz;cases e;have⟨v',e1,e2⟩:=G.sl i k (.lst L) hs;have O:c.σ[i]?=bD (bD v'):=e1;rw[J]at O;cases O;obtain⟨r',er,_,_,_,ws,hw,Q⟩:=e2.rt hk;cases er;have Lp:c.H a0=bD (.lst ws):=hw;show⟨a0,ws,v,n,rfl,Lp,by rw[<-Q.len];show hz,?_⟩;rw[ak]at q;have⟨Iw,n2⟩:=Ok.mod (c:={c with S:=S',st:=st' }) (H':=upd c.H a0 (.lst (ws++[v]))) (u':=.lst (L++[u])) G n1.toNs hk hs J (λa ne=>ay ne) ⟨_,aA⟩ λT=>⟨ws++[v],aA,(Q.mv T).snoc (d.mv T)⟩
    have z:=q _ rfl Iw n2 (Kept.of t.hσ);rw[<-t.hσ];show z
   .cases e
  |_=>cases e
 |_=>rw[ah]at h;show(bp.mp h).elim
def Ge(A:C.K=X.K)(hN:X.N[i]?=bD x)(hv:J0 X.env.scope x)(hd:(x==("__debug__":Str))=cc)(IB:(x==("__classdict__":Str))=cc)(ha:PE X a (HR C ma))
  (I0:((KW l (lx [a] X.env)).all (λx=>!x.1)&&(Sx l (P2 [] X.env)).all (λx=>x.1.isSome)
   && df ([a].length+([]:List O9).length+(if ([]:List O9).isEmpty then 0 else 1)<30))=cb)
  (IC:(g.endLine==l.line)=cb) (B:lx [a] X.env=[(cc,JF a X.env)]) :
  L2.PS X (.Expr (.Call (.Attribute (.Name x px) "extend" g) [a] [] l) pos) (IK C ns (dE i >>= λx=>My x.2 >>= λ_=>ma >>= λr=>modS i (lW r) >>= λ_=>pure .nx)):=by
 show PS.weak (iM (uA PySem.F.plainAttrs_list PySem.F.slot_list_extend PySem.F.type_list_extend sN (cv hN hv hd IB) (dy ha iq B) rfl I0 IC B rfl)) ?_;rintro D σ H ⟨G,rfl,rfl,m,h⟩;rw[ah]at h;have⟨k0,I,Lg,J,h⟩:=dg h;have⟨L,n,o⟩:=m.sl i k0 I J;show⟨L,n,?_⟩;cases I with
 |lst O =>
  rw[ah,show My (U.lst O)=pure () from rfl,ak]at h;have SU:aK C G G (if k0.root=cb then .bor i else k0) (.lst O) L:=by
   by_cases hk:k0.root=cb
   .rw[ĝ hk];show⟨⟨k0,hk,J⟩,n⟩
   .rw[ğ hk];cases k0 with
    |loc=>show o
    |any=>show o
    |bor j=>show o.elim
    |B'=>show(Lg rfl).elim
    |_=>show absurd rfl hk
  obtain⟨a0,Oq,p,N7,_⟩:=SU.list m;show⟨by rw[p];show .inl ⟨rfl,Oq,A▸N7⟩,?_⟩;show aQ m h λr c v t w=>?_;rw[ah]at w;have⟨k,s,u2,hk,hs,d,q⟩:=fe w;have Q:c.σ[i]?=bD (bD (.ref a0)):=by rw[t.hσ,n,p]
  have⟨rk,ru⟩:=r;have key:∃e f b vs,s=.lst e/\v=.ref b/\(Iz C.K c.H b vs\/Ir C.K c.H b vs)/\aq C c.S c.H f vs/\e.length+f.length<=c4/\u2=.lst (e++f):=by
   cases ru with
   |lst f =>
    cases s with
    |lst e =>
     simp only[lW]at d;split at d
     .rename_i hz;cases d;have⟨b,vs,ev,u,y⟩:=t.rx.list t.ok;show⟨_,_,b,vs,rfl,ev,.inl u,d0 hz.2 y,hz.1,rfl⟩
     .cases d
    |_=>simp[lW]at d
   |tup f =>
    cases s with
    |lst e =>
     simp only[lW]at d;split at d
     .rename_i hz;cases d;have⟨b,vs,ev,u,y⟩:=t.rx.tuple t.ok;show⟨_,_,b,vs,rfl,ev,.inr u,d0 hz.2 y,hz.1,rfl⟩
     .cases d
    |_=>simp[lW]at d
   |_=>simp[lW]at d
  have⟨e,f,b,vs,rfl,rfl,hB,hz,hl,rfl⟩:=key;have⟨v',T,e2⟩:=t.ok.sl i k (.lst e) hs;rw[Q]at T;cases T;obtain⟨r',er,_,_,_,ws,hw,Y⟩:=e2.rt hk;cases er;show⟨a0,b,ws,vs,p,rfl,hw,A▸hB,by rw[<-Y.len,<-hz.len];show hl,?_⟩;rw[ak]at q;have⟨Iw,n2⟩:=Ok.mod (c:=c) (H':=upd c.H a0 (.lst (ws++vs))) (u':=.lst (e++f)) t.ok t.nx.toNs hk hs Q (λa ne=>ay ne) ⟨_,aA⟩ λmv=>⟨ws++vs,aA,(Y.mv mv).append (hz.mv mv)⟩
  have z:=q _ rfl Iw n2 (Kept.of t.hσ);rw[<-t.hσ];show z
 |_=>rw[ah]at h;show(bp.mp h).elim
def k7.or(h:k7 X t)(h':k7 X t'):k7 X (λo i v H Q=>t o i v H Q\/t' o i v H Q):=λa s σ H o i v b c u Q I d e f q =>
 q.elim (h a s σ H o i v b c u Q I d e f) (h' a s σ H o i v b c u Q I d e f)
def set_dict(c:X.A.units+1<IF):k7 X (λo i v H Q=>∃a H',o=.ref a/\wj H a i v H'/\Q H'):=by
 rintro b s σ H o i v h j u Q I d e rv ⟨a,H',rfl,g,q⟩;cases d;show wm c I g e rv λs' f=>⟨H',f,q⟩
def yV{S:eW->Prop}{kvs:List (Key×V)}(a:kvs.map (·.1)=ks.map oa)(c:aq C S H us (kvs.map (·.2)))(d:Rep C S H u v):
  (putK kvs (oa y) v).map (·.1)=(dput ks us y u).1.map oa/\aq C S H (dput ks us y u).2 ((putK kvs (oa y) v).map (·.2)):=by
 have e:(kvs.any λkv=>df (kv.1=(oa y:Key)))=df (y∈ks):=by
  rw[iR];show(de (x:=y) a c).2
 unfold putK dput;rw[e];by_cases b:y∈ks
 .rw[ĝ (by simpa using b),ĝ b];constructor
  .rw[hQ];rw[<-a];apply y0;intro p _;change(if p.1=oa y then(p.1,v) else p).1=p.1;split<;>rfl
  .clear e b;induction kvs generalizing ks us with
   |nil =>
    have:ks=[]:=by simpa using a.symm
    subst this;simp[aq]
   |cons p kvs g =>
    cases ks with
    |nil=>simp at a
    |cons k ks =>
     cases us with
     |nil=>simp[aq]at c
     |cons j us =>
      rw[eF,eF,Ph]at a;have⟨l,m,f,h,i⟩:=c;rw[eF]at f;cases f;rw[eF,U9,eF,eF];show⟨_,_,rfl,?_,g a.2 i⟩;by_cases hk:k=y
      .rw[ĝ (by show hk),ĝ (by rw[a.1,hk])];show d
      .rw[ğ (by show hk),ğ (by rw[a.1];intro z;show hk (Vd z))];show h
 .rw[ğ (by simpa using b),ğ b];show⟨by rw[mu,a,mu];rfl,by rw[mu];show c.snoc d⟩
def Gf(hP:C.P=X.prog)(hw:C.w=X.w)(O:C.K=X.K)(hu:X.A.units+60<IF)(hN:X.N[i]?=bD x)(hv:J0 X.env.scope x)(hd:(x==("__debug__":Str))=cc)(IB:(x==("__classdict__":Str))=cc)
  (ha:PE X a (HR C ma)) (hb:PE X b (HR C mb)) (hs:RO [.Subscript (.Name x G) b p] a pos.line X.env=pure cc) (NG:VL [.Subscript (.Name x G) b p] a X.env=pure b7)
  (Q:∀v,SA (.Subscript (.Name x G) b p) X.env v=(do
   let I <-Nc [v] (JF (.Name x G) X.env)
   let T <-Nc [v,I] (JF b X.env)
   Yw p
   Nc [v,I,T] (T1 I T v)
   W0 [v,I,T] [])) :
  L2.PS X (.Assign [.Subscript (.Name x G) b p] a pos) (IK C ns (ma >>= λr=>dE i >>= λ_=>mb >>= λx=>dC [r,x] >>= λus=>modS i (uU us) >>= λ_=>pure .nx)):=by
 show PS.weak (r_ ha (xT (cv hN hv hd IB) hb (k7.or (k7.or set_list (set_dict (X:=X) ⋯)) (A4 (X:=X) ⋯)) Q) hs NG rfl) ?_;rintro D σ H ⟨c0,rfl,rfl,ok,h⟩;show aQ ok h λr c v t w=>?_;rw[ah]at w;have⟨k0,u0,Lg,Jb,w⟩:=dg w;have⟨v0,e0,KR⟩:=t.ok.sl i k0 u0 Jb;show⟨v0,by rw[<-t.hσ];show e0,?_⟩;rw[ah]at w;show⟨c,t.hσ,rfl,t.ok,w.mono λy st2 w2 g n J e4 Iw n2 r2=>?_⟩;subst e4;rw[ah]at w2;have SV:=t.nx.trans n2;have Y:cP C c0 g [r,y] [v,n]:=⟨v,[n],rfl,t.rx.w.on t.ok n2 (J.trans t.hσ.symm),⟨n,[],rfl,(r2.w).from t.nx,rfl,λ_ i r' v' e _=>by simp at e⟩,λhk i r' v' e5 e6 IH=>by
  cases i with
  |zero=>simp at e5 e6;subst e5 e6;show pA t.rx.w r2.w hk IH
  |succ i=>simp at e5⟩
 have⟨S',st',us,sS,HU,n1,l,w1⟩:=je ok Iw SV Y w2;rw[ah]at w1;have⟨k,L,u2,hk,JB,d,q⟩:=fe w1;rw[ak]at q;have hσ:g.σ[i]?=bD (bD v0):=by rw[J,<-t.hσ];show e0
 have⟨v',e1,e2⟩:=HU.sl i k L JB;have IV:g.σ[i]?=bD (bD v'):=e1;rw[hσ]at IV;cases IV;have⟨a0,er,z1,z2,z3,f⟩:=e2.rt hk;subst er;have WJ:({g with S:=S',st:=st' }:Cf).σ[i]?=bD (bD (.ref a0)):=hσ;obtain⟨QB,ws,ew,UH,UG,X9,X_,SW,WK⟩:∃u ws,us=[u,ws]/\Rep C S' g.H u v/\∃(_:Unit) (_:Unit),True/\Rep C S' g.H ws n/\True:=by
  cases us with
  |nil=>simp[aq]at l
  |cons u us =>
   obtain⟨_,_,e,q1,q2⟩:=l;cases e;cases us with
   |nil=>simp[aq]at q2
   |cons u' us =>
    obtain⟨_,_,e,q3,q4⟩:=q2;cases e;cases us with
    |nil=>show⟨u,u',rfl,q1,(),(),trivial,q3,trivial⟩
    |cons _ _=>obtain⟨_,_,e,_⟩:=q4;cases e
 subst ew;rw[show uU [QB,ws] L=eO ws QB L from rfl]at d;have m:∀{H':Hp} ,(∀a,a≠a0->H' a=g.H a)->(∃o,H' a0=bD o)->(Mv S' g.H S' H'->cY C S' H' a0 u2)->D.nx c0.σ H':=λ{H'} IW hr new=>by
  have⟨Kw,n3⟩:=Ok.mod (c:={g with S:=S',st:=st' }) (H':=H') (u':=u2) HU n1.toNs hk JB WJ IW hr new;have z:=q _ rfl Kw n3 (Kept.of J);rw[<-J];show z
 cases L with
 |lst xs =>
  cases ws with
  |int j =>
   simp only[eO,d5]at d;have⟨j',hj,rfl⟩:=d;have⟨vs,h1,s⟩:=f;have ey:n=.int j:=SW;show .inl (.inl ⟨a0,vs,j,j',rfl,ey,h1,by rw[<-s.len];show hj,?_⟩);show m (λa ne=>ay ne) ⟨_,aA⟩ λB=>⟨vs.set j' v,aA,(s.mv B).set j' (UH.mv B)⟩
  |_=>simp[eO]at d
 |HM ks vs =>
  cases ws with
  |str y' =>
   simp only[eO]at d;split at d
   .rename_i hz;cases d;have⟨kvs,h1,s,h3⟩:=f;have ey:n=.str y':=SW;subst ey;have hl:kvs.length=ks.length:=by have:=ġ tA s;simpa using this
    show .inl (.inr ⟨a0,_,rfl,wj.k (k:=oa y') h1 (by rw[hl];show hz),?_⟩);show m (λa ne=>ay ne) ⟨_,aA⟩ λB=>?_;have⟨g1,g2⟩:=yV (y:=y') s h3 UH;show⟨_,aA,g1,g2.mv B⟩
   .cases d
  |_=>simp[eO]at d
 |IM ks =>
  simp only[eO]at d;split at d
  .rename_i r0 QC;split at d
   .rename_i hh;cases d;have er:=lX QC;subst er;have IT:=SW.row;have M4:fQ C.P C.w C.K g.H a0 ks:=f;rw[O]at IT;rw[hP,hw,O]at M4;show .inr ⟨a0,r0,ks,rfl,IT,M4,hh.1,hh.2,λH' hR IW=>?_⟩;obtain⟨xs,hx,_⟩:=id hR;show m IW ⟨_,hx⟩ λB=>?_;change fQ C.P C.w C.K H' a0 _;rw[hP,hw,O];show hR
   .cases d
  .cases d
 |_=>simp[eO]at d
def Ok.slot(d:Ok C c)(e:k≠.B')(hs:c.st[i]?=bD (bD (k,u))):∃v,c.σ[i]?=bD (bD v)/\aK C c c (if k.root=cb then .bor i else k) u v:=by
 have⟨f,b,a⟩:=d.sl i k u hs;show⟨f,b,?_⟩;by_cases hk:k.root=cb
 .rw[ĝ hk];show⟨⟨k,hk,hs⟩,b⟩
 .rw[ğ hk];cases k with
  |loc=>show a
  |any=>show a
  |bor j=>show a.elim
  |B'=>show(e rfl).elim
  |_=>show absurd rfl hk
end
end TM
namespace TM
open PySem L2 PyProof.Rows PySem.W
section
def Gg(d:X.calm=cb)(f:Gl X x)(g:X.mg x=bD (.ref c))(i:(x==("__debug__":Str))=cc)(j:excIn X.K c Og "ValueError.__new__"=cb)(k:PE X a (HR C l))(m:lx [a] X.env=[(cc,JF a X.env)])
  (n:∀H',C.xw (.str x) H'->∀b σ s e s',Inv X b σ H' s->cp X.prog X.w X.stack H' s e c b7 .none H' s'->X.xe (.ref e) s'):L2.PS X (.Raise (bD (.Call (.Name x p) [a] [] r)) b7 pos) (IK C ns (l >>= λ_=>pure (.rt .io (.str x)))):=by
 show PS.weak (yx d f g i j k m) ?_;rintro D σ H ⟨u,rfl,rfl,o,h⟩;show aQ o h λx q v t w=>?_;rw[ak]at w;show λb s e s' I F=>n _ (w q rfl t.ok t.nx (Kept.of t.hσ)) b _ s e s' I F
def Ok.kill(b:Ok C c)(p:c.st[j]?=bD b7):Ok C {c with σ:=c.σ.set j b7}/\Nx c {c with σ:=c.σ.set j b7}:=by
 have f:∀(i:Nat) (r:Kd×U),c.st[i]?=bD (bD r)->(c.σ.set j b7)[i]?=c.σ[i]?:=λi r e=>ko λz=>by subst z;rw[p]at e;cases e
 have m:∀a,({c with σ:=c.σ.set j b7}:Cf).R1 a->c.R1 a:=λa ⟨i,k,u,hk,d,g⟩=>⟨i,k,u,hk,d,(f i _ d)▸g⟩
 have s:Lc C {c with σ:=c.σ.set j b7}:=b.dd.of rfl (λi u e=>⟨e,f i _ e⟩) (λa z=>.inl (m a z)) (.up λ_ z=>z) λi a z=>⟨(b.root (.inr ⟨i,z⟩)).1,λo q=>q⟩
 show⟨⟨b.same,b.JY,b.par,b.io,by simp[b.len],λi k u e=>?_,λi n k k' u u' r hk t d g l w=>?_,s⟩,⟨λ_ _ h _=>h,λ_ o h=>⟨o,h⟩,λa z=>.inl ?_,λ_ h=>h,λ_ h=>.inl h⟩⟩
 .have⟨v,q,z⟩:=b.sl i k u e;show⟨v,(f i _ e).trans q,z⟩
 .show b.inj i n k k' u u' r hk t d g ((f i _ d)▸l) ((f n _ g)▸w)
 .show z.imp (m a) λ⟨i,u,r,d,g,l⟩=>⟨i,u,r,d,(f i _ d)▸g,l⟩
def wU(h:∀m,ns m=cb->m≠i/\m≠j)(o:Ok C b)(p:Ok C c)(n:Nx b c)(d:c.σ=b.σ)(s:i<c.σ.length)(hs:qt c.H H')(v:V)
  (w:W (nv i j b7) c.st (fc C b ns D)):D.nx (((b.σ.set j (bD v)).set i (bD (.bl cb))).set j b7) H':=by
 have⟨r,st',e,q⟩:=w;unfold nv at e
 dsimp only at e
 split at e
 .rename_i t;split at e
  case isFalse=>cases e
  rename_i u;have k:c.st[j]?=bD b7/\i≠j:=⟨t,u⟩
  have⟨x,y⟩:=p.kill k.1;have⟨A,B⟩:=x.grow (H':=H') (S':=c.S) hs (λa z=>.inl z) λa z=>z;have⟨f,g,G,I,J,L⟩:=pE (r:=(.loc,.bl cb)) (v:=.bl cb) (i:=i) o A ((n.trans y).trans B) (by simpa using s)
   (show Rep C c.S _ _ _ from rfl) (Post:=λ_ N=>fc C b ns D .nx N) (by
    have z:W (eZ i (.loc,.bl cb) >>= λ_=>(pure .nx:M Fl)) c.st (fc C b ns D):=⟨r,st',e,q⟩
    rw[ah]at z;show z.mono λ_ st z=>ak.mp z)
  have es:(((b.σ.set j (bD v)).set i (bD (.bl cb))).set j b7)=(b.σ.set j b7).set i (bD (.bl cb)):=by
   rw[List.set_comm _ _ k.2,List.set_set]
  have z:D.nx f.σ f.H:=L f rfl I J ⟨λm l=>by
   rw[g];change((c.σ.set j b7).set i _)[m]?=_;rw[ko (uv (h m l).1),ko (uv (h m l).2),d],by rw[g];simp[d]⟩
  rw[g,G]at z;rw[es];rw[<-d];show z
 .cases e
def Gh
  (Jg:∀m,ns m=cb->m≠i/\m≠j) (hN:X.N.Nodup) (hi:X.N[i]?=bD y) (hy:Loc X.env.scope y) (WL:X.fn y=cb) (hj:X.N[j]?=bD n) (hn:X.env.scope.names.lookup n=bD .local)
  (hP:C.P=X.prog) (hw:C.w=X.w) (hK:C.K=X.K) (hF:Γ f=F) (hk:∀us k u,F us=bD (.ok (k,u))->(k=.own\/k=.loc\/k=.any)/\us.length=np) (IH:∀us c,F us=bD (.exc c)->us.length=np)
  (G:jB X.prog X.w X.K X.mg X.base (Ny X.prog X.w) kd fa fd ps (spT X.prog X.w X.K F np)) (hr:fT kd X.A) (hg:Gl X f) (hm:X.mg f=bD (.ref fa)) (Pw:PySem.W.keepIn X.K (.ref fa)=cb) (hb:Binds X.K fd ps []) (Kp:(f==("__debug__":Str))=cc)
  (ha:PA X.Lh (e::es) (Jn C ms)) (he:lx (e::es) X.env=(cc,JF e X.env)::lx es X.env) (Je:(KW p3 (lx es X.env)).any (·.1)=cc)
  (HQ:X.stack=X.env::X.outer/\X.env.frame=bD X.env.locals) (WM:Gl X x) (WN:X.mg x=bD (.ref Dc)) (WO:(x==("__debug__":Str))=cc) (WQ:Gl X cl) (WR:X.mg cl=bD (.ref l)) (WS:nsIn X.K ro cl=bD (bD (.ref l))) (WT:(cl==("__debug__":Str))=cc) (ac:exmOne X.K (.ref l) (.ref Dc)=bD cb)
  (WU:Gl X "isinstance") (WV:X.mg "isinstance"=b7) (HW:(n==("__debug__":Str))=cc) (WW:(n==("__classdict__":Str))=cc) :
  L2.PS X (.Try [.Expr (.Call (.Name f p2) (e::es) [] p3) p4] [.ExceptHandler (bD (.Name x p5)) (bD n) [.Assign [.Name y p6] (.Call (.Name "isinstance" p8) [.Name n p9,.Name cl Pz] [] Ou) UI] WX] [] [] pos)
   (IK C ns (ms >>= λrs=>aD rs >>= λ_=>nY Γ f (rs.map (·.2)) cl >>= nv i j)):=by
 rintro a s σ H O I ⟨p,rfl,rfl,ok,h⟩;have IY:i<p.σ.length:=by rw[I.len];show(et.mp hi).1
 let EE:d4->hY->Prop:=λv s'=>∃(c:Cf) (s1:hY) (d T:eW) (H':Hp),v=.ref d/\c.σ=p.σ/\Ok C c/\Nx p c/\Inv X a p.σ c.H s1/\cp X.prog X.w X.stack c.H s1 d l (bD T) .none H' s'/\qt c.H H'/\W (nv i j b7) c.st (fc C p ns O);show wpAny_Try_except (ti (Q:=λf s1=>f=Ĕ/\SP X a O .next s1) (E:=EE) ?_ (λf s1 z=>?_) λv s1 z=>?_)
 .show å (Ą (Jo (fq I hg hm ?_ Kp)) I.quiet rfl);show PySem.W.callWith_K (h₀:=X.base) I.ok.mod.N2 Pw (ti (args (X:=X.Lh) ha (I.kZ _) ok h p3) (λus s1 z=>?_) λ_ _ z=>z.elim) he Je;have⟨rs,c,vs,t,g,rv,w⟩:=z;have g:=g.ip;show⟨g.L0,?_⟩;have ab:C.Eqv (MD X.prog X.w X.K c.H (JI c.H)):=⟨hP,hw,hK⟩
  have Kx:(MD X.prog X.w X.K c.H (JI c.H)).Eqv C:=⟨hP.symm,hw.symm,hK.symm⟩
  have rd:=t.read;have L:∀(k1:Kd) (u:U),F (rs.map (·.2))=bD (.ok (k1,u))->k1=.own\/k1=.loc->W (nv i j (bD (k1,u))) c.st (fc C p ns O) ->
    eH (ke X.prog X.w) X.A (PU (.ref fa) us) (λv s2=>eH (ke X.prog X.w) X.A (PySem.execs [] X.env) (λf s4=>f=Ĕ/\SP X a O .next s4) EE s2) EE s1:=λk1 u D Pf q=>by
   have⟨k0,k2⟩:=hk _ _ _ D;rw[show nv i j (bD (k1,u))=pure .nx from rfl,ak]at q;have JA:spT X.prog X.w X.K F np vs c.H (λv H'=>O.nx p.σ H') E0:=⟨by rw[<-rd.len];show k2,rs.map (·.2),.ok (k1,u),JI c.H,D,λ_ z=>z,rd.cg ab,k0,λv H' S' hb=>hb.here (Q:=λv H'=>O.nx p.σ H') Pf t.hσ t.ok t.nx Kx λc2 v2 e3 e4 Iw n2 r2=>by
    have z:O.nx c2.σ c2.H:=q c2 e4 Iw n2 (Kept.of e3);rw[e3]at z;show z⟩
   show ti (uQ (EE:=EE) G hr hb g rv JA λ_ _ ⟨_,_,_,_,_,_,z⟩=>z.elim) (λv s2 ⟨v',H2,I2,r2,q2⟩=>?_) λ_ _ z=>z;rw[t.hσ]at I2;show R_ ⟨rfl,_,H2,I2,q2⟩
  rw[ah]at w;have⟨r,st',B,q⟩:=w;unfold nY at B;rw[hF]at B;split at B
  .rename_i u D;cases B;show L _ u D (.inl rfl) q
  .rename_i u D;cases B;show L _ u D (.inr rfl) q
  .rename_i c' D;split at B
   case isFalse=>cases B
   rename_i WY;subst WY;cases B;have JA:spT X.prog X.w X.K F np vs c.H (λ_ _=>False) (λv _ H'=>v=.ref l/\qt c.H H'):=⟨by rw[<-rd.len];show IH _ _ D,rs.map (·.2),.exc _,JI c.H,D,λ_ z=>z,rd.cg ab,λC1 H1 J Y=>by rw[WS]at J;cases J;show⟨rfl,Y⟩⟩
   show ti (uQ (EE:=EE) G hr hb g rv JA λv s' ⟨d,C1,T,H',e3,F',e4,e5⟩=>?_) (λv s2 ⟨_,_,_,_,z⟩=>z.elim) λ_ _ z=>z;cases e4;show⟨c,s1,d,T,H',e3,t.hσ,t.ok,t.nx,by rw[<-t.hσ];show g,F',e5,q⟩
  .cases B
 .have⟨rfl,z⟩:=z;show R_ z
 .have⟨c,s0,d,T,H',rfl,hσ,Ij,n0,g,F1,hs,w⟩:=z;have La:s0.heap.FunFrames X.base (X.env::X.outer):=by rw[<-HQ.1];show g.stack
  have Nm:∀b∈IG (X.env::X.outer),c.H b=b7:=by rw[<-HQ.1];show g.kK
  have hA:X.A.frames=bD (X.env::X.outer):=by rw[<-HQ.1];show g.ok.frames
  rw[HQ.1]at F1;show F1.note hA HQ.2 La Nm λT2 s2 F2=>F2.land La Nm λT3 s3 F3=>?_;have ag:∀{T:Option eW} {fl:d4} {s':hY},cp X.prog X.w (X.env::X.outer) c.H s0 d l T fl H' s'->Inv X a p.σ H' s':=λ{T fl s'} F=>g.Cy (ch:=[]) F.os (by rw[HQ.1];show F.un) F.HN F.bare λb z=>nomatch z
  have Qp:d≠X.env.locals/\d∉X.fs:=by
   obtain⟨m,⟨o,_,_,ho,_⟩,_⟩:=g.loc;show⟨λz=>?_,λz=>?_⟩
   .rw[<-z,F1.new]at ho;cases ho
   .obtain⟨_,o,q,_⟩:=La.mem (Qd.mpr (by
     have⟨env,J,Y⟩:=Qd.mp z;show⟨env,kj _ J,Y⟩))
    rw[F1.new]at q;cases q
  have Ln:∀{T:Option eW} {fl:d4} {s':hY} (E:d4->hY->Prop),cp X.prog X.w (X.env::X.outer) c.H s0 d l T fl H' s'->∃oe,s'.heap.get? d=bD oe/\oe.cls=.ref l/\Inv (X.Ln d oe E) a p.σ H' s':=λ{T fl s'} E F=>by
   obtain⟨a0,oe,vs,J,Y,h3,_⟩:=F.exc;show⟨oe,J,Y,(ag F).Ln J F.he Qp.1 Qp.2 λv z=>by rw[h3]at z;cases z⟩
  show wpAny_handleBy_cons (codeAny_handlers_test ?_) λz=>nomatch z
  have⟨Ya,g1,g2,I3⟩:=Ln (Uc (ke X.prog X.w) (X.A.mark (bD (.ref d))) X.env λx s'=>cameBackBy (ke X.prog X.w) X.A X.env X.xe x s') F3;show fq I3 WM WN ?_ WO;have LT:Looks (ke X.prog X.w) s3.heap (YG (.ref d)) (.ref l):=by
   show(ē g1).andThen ?_;rw[g2];show .now
  show(exm_one I3.L0 LT ac).here (codeAny_handlers_suite_as ?_);show F3.land La Nm λT4 s4 F4=>?_;have⟨PB,g3,g4,I4⟩:=Ln (λ_ _=>False) F4;show kY (X:=X.Ln d PB λ_ _=>False) I4 hN hj (.inl hn) (v:=.ref d) rfl (λs5 I5=>?_) (.inr hn);have pi:PE (X.Ln d PB λ_ _=>False) (.Call (.Name "isinstance" p8) [.Name n p9,.Name cl Pz] [] Ou) (λσ H Q=>σ[j]?=bD (bD (.ref d))/\Q (.bl cb) H):=by
   rintro a s σ H Q I ⟨J,Y⟩;show Jo (dW I WU WV (show JM "isinstance"=bD (.builtin "isinstance") by decide +kernel) ?_ (by decide +kernel) (by decide +kernel));show P_ (HS (dy (X:=X.Ln d PB λ_ _=>False) (cv hj (.inl hn) HW WW) (dy (te:=λσ H Q=>Q (.ref l) H) (λa s σ H Q I h=>fq I WQ WR ⟨.ref l,H,I,rfl,h⟩ WT) iq) rfl Ou a s σ H (λvs H'=>vs=[.ref d,.ref l]/\Q (.bl cb) H') I ⟨_,J,rfl,Y⟩) λus s1 ⟨vs,H1,g,r1,B,q1⟩=>?_) rfl rfl;subst B;have⟨u1,u2,rfl,Sy,Sz⟩:=vals2 r1;cases Sy;cases Sz;show DO (g.pin (d,PB) lg).1 g4 ⟨.bl cb,H1,g,rfl,q1⟩
  have pt:=sd (X:=X.Ln d PB λ_ _=>False) (pos:=UI) (pos':=p6) hN hi hy pi rfl (.inl WL);show ti ((qk pt uj) a s5 _ H' {nx:=λσ H=>σ=(p.σ.set j (bD (.ref d))).set i (bD (.bl cb))/\H=H',rt:=λ_ _=>False} I5 ?_) (λfl s6 z=>?_) λ_ _ z=>z.elim
  .show⟨fx (by rw[I.len];show(et.mp hj).1),rfl,rfl⟩
  .cases fl with
   |next =>
    obtain⟨_,_,I6,rfl,rfl⟩:=z;show Inv.gone (I6.Hx I.ok) hN hj hn λs7 I7=>⟨_,_,I7,wU Jg ok Ij n0 hσ (by rw[hσ];show IY) hs _ w⟩
   |ret v=>obtain⟨_,_,_,_,_,z⟩:=z;show z.elim
   |_=>obtain⟨_,_,_,z⟩:=z;show z.elim
end
section
def Gi(hK:C.K=X.K)(hN:X.N[i]?=bD x)(hv:J0 X.env.scope x)(hd:(x==("__debug__":Str))=cc)(IB:(x==("__classdict__":Str))=cc)(ha:PE X a (HR C ma))(hb:PE X b (HR C mb))
  (I0:((KW o (lx [a,b] X.env)).all (λx=>!x.1)&&(Sx o (P2 [] X.env)).all (λx=>x.1.isSome)
   && df ([a,b].length+([]:List O9).length+(if ([]:List O9).isEmpty then 0 else 1)<30))=cb)
  (IC:(l.endLine==o.line)=cb) (I:lx [a,b] X.env=(cc,JF a X.env)::lx [b] X.env) (J:lx [b] X.env=[(cc,JF b X.env)]) :
  L2.PS X (.Expr (.Call (.Attribute (.Name x px) "insert" l) [a,b] [] o) pos) (IK C ns (dE i >>= λx=>My x.2 >>= λ_=>ma >>= λy=>mb >>= λr=>aD [y] >>= λ_=>lift r >>= λu=>modS i (Bj y.2 u) >>= λ_=>pure .nx)):=by
 show PS.weak (iM (uA PySem.F.plainAttrs_list PySem.F.slot_list_insert PySem.F.type_list_insert wB (cv hN hv hd IB) (dy ha (dy hb iq J) I) rfl I0 IC I (by rw[J];rfl))) ?_;rintro D σ H ⟨c0,rfl,rfl,p,h⟩;rw[ah]at h;have⟨k0,u0,Lg,Jb,h⟩:=dg h;have⟨v0,L,t0⟩:=p.slot Lg Jb;show⟨v0,L,?_⟩;cases u0 with
 |lst NF =>
  rw[ah,show My (U.lst NF)=pure () from rfl,ak]at h;obtain⟨a0,Oq,s,N7,_⟩:=t0.list p;show⟨by rw[s];show .inl ⟨rfl,Oq,hK▸N7⟩,?_⟩;show aQ p h λy c v t w=>?_;rw[<-t.hσ];show aQ t.ok w λr f A g m=>?_;rw[ah,cB]at m;have⟨HQ,m⟩:=m;rw[ah]at m;obtain⟨S',st',u,sS,O,n1,n,Q,_,_⟩:=gN t.ok g.ok g.nx g.rx.w m;rw[ah]at Q;have⟨k,u1,u2,hk,hs,d,q⟩:=fe Q;have T:f.σ[i]?=bD (bD (.ref a0)):=by rw[g.hσ,t.hσ,L,s]
  have⟨ky,uy⟩:=y;cases u1 with
  |lst e =>
   cases uy with
   |int j =>
    have d:(if 0<=j/\j.toNat<=e.length/\e.length<c4 then bD (U.lst (e.take j.toNat++u::e.drop j.toNat)) else b7)=bD u2:=d;split at d
    .rename_i hz;cases d;have ev:v=.int j:=t.rx.int t.ok;subst ev;have⟨v',e1,e2⟩:=O.sl i k (.lst e) hs;have Y:f.σ[i]?=bD (bD v'):=e1;rw[T]at Y;cases Y;obtain⟨r',er,_,_,_,ws,hw,B⟩:=e2.rt hk;cases er;have Lp:f.H a0=bD (.lst ws):=hw;have hl:=B.len;show⟨a0,ws,j.toNat,A,s,by rw[Nr hz.1],Lp,⋯,⋯,?_⟩;rw[ak]at q;have⟨Iw,n2⟩:=Ok.mod (c:={f with S:=S',st:=st' }) (H':=upd f.H a0 (.lst (ws.take j.toNat++A::ws.drop j.toNat))) (u':=.lst (e.take j.toNat++u::e.drop j.toNat)) O (t.nx.trans n1).toNs hk hs T (λa ne=>ay ne) ⟨_,aA⟩ λG=>⟨_,aA,((B.mv G).take _).append ⟨A,_,rfl,n.mv G,(B.mv G).drop _⟩⟩
     have z:=q _ rfl Iw n2 (Kept.of (g.hσ.trans t.hσ));rw[show f.σ=c.σ from g.hσ]at z;show z
    .cases d
   |_=>cases d
  |_=>cases d
 |_=>rw[ah]at h;show(bp.mp h).elim
end
end TM
namespace TM
open PySem L2 PyProof.Rows
section
def Ok.Gj(d:Ok C c)(n:Ns Q c)(T:c.st[i]?=bD (bD (.B',u)))(B:c.σ[i]?=bD (bD (.ref r)))(IW:∀a,¬c.RD i a->H' a=c.H a)(Y:∀a o,c.H a=bD o->∃N,H' a=bD N)
  (new:Mv c.S c.H c.S H'->cE C c.S H' r as' u') (ab:∀a∈as',a∈c.kid i\/(¬c.R a/\Q.H a=b7)) :
  Ok C {c with H:=H',st:=c.st.set i (bD (.B',u')),kid:=λj=>if j=i then as' else c.kid j}/\Ns Q {c with H:=H',st:=c.st.set i (bD (.B',u')),kid:=λj=>if j=i then as' else c.kid j}:=by
 have IY:i<c.st.length:=(et.mp T).1;have rt:∀{a},c.RD i a->¬c.S a/\¬C.Kt a/\(C.H₀ a=b7\/C.IO a)/\∃o,c.H a=bD o/\¬Tp o:=λz=>d.root (.inr ⟨i,z⟩);have h0:∀{a},c.RD i a->C.H₀ a=b7:=λ⟨u1,r1,g,b,e3⟩=>(cE.fr (d.dd.kd i u1 r1 g b) _ (d6.mpr e3)).2.2;have q:∀{a:eW} {o:HO},¬c.RD i a->c.H a=bD o->H' a=bD o:=λz e=>by rw[IW _ z];show e
 have O:Mv c.S c.H c.S H':=⟨λ_ z=>z,λa o e t=>q (λz=>by
  obtain⟨_,_,_,N,l,nt⟩:=rt z;rw[e]at l;cases l;show nt t) e,λa o z e=>q (λm=>(rt m).1 z) e⟩
 have Mq:Mv (PS C c.S) c.H (PS C c.S) H':=⟨λ_ z=>z,O.Pk,λa o z e=>q (λm=>z.elim (rt m).2.1 (rt m).1) e⟩
 have D:∀(j:Nat) k w,(c.st.set i (bD (.B',u')))[j]?=bD (bD (k,w))->j≠i->c.st[j]?=bD (bD (k,w)):=λj k w e ne=>by rw[ko (uv ne)]at e;show e
 have NH:∀(j:Nat) k w,k.root=cb->(c.st.set i (bD (.B',u')))[j]?=bD (bD (k,w))->c.st[j]?=bD (bD (k,w)):=λj k w hk e=>by
  by_cases f:j=i
  .subst f;rw[fx IY]at e;cases e;cases hk
  .show D j k w e f
 have b1:∀a,({c with H:=H',st:=c.st.set i (bD (.B',u')),kid:=λj=>if j=i then as' else c.kid j}:Cf).R1 a->c.R1 a:=λa ⟨j,k,w,hk,g,b⟩=>⟨j,k,w,hk,NH j k w hk g,b⟩
 have G:∀j a,({c with H:=H',st:=c.st.set i (bD (.B',u')),kid:=λj=>if j=i then as' else c.kid j}:Cf).RD j a->c.RD j a\/(j=i/\¬c.R a/\Q.H a=b7):=λj a Ib=>by
  have⟨w,h,g,b,e3⟩:=Ib;by_cases f:j=i
  .subst f;have I:c.σ[j]?=bD (bD (.ref h)):=b;rw[B]at I;cases I;rcases e3 with rfl|e3
   .show .inl ⟨u,_,T,B,.inl rfl⟩
   .have M6:a∈as':=by simpa using e3
    rcases ab a M6 with z|z
    .show .inl ⟨u,_,T,B,.inr z⟩
    .show .inr ⟨rfl,z⟩
  .have M6:a=h\/a∈c.kid j:=by simpa[f] using e3
   show .inl ⟨w,h,D j _ w g f,b,M6⟩
 show⟨⟨λa o e z=>q (λm=>by rw[h0 m]at e;cases e) (d.same a o e z),λa z=>?_,d.par,λa z=>?_,by simp[d.len],λj k w e=>?_,λx s k1 k2 w1 w2 h h1 h2 g b e3 e4=>d.inj x s k1 k2 w1 w2 h h1 h2 (NH x k1 w1 h1 g) (NH s k2 w2 h2 b) e3 e4,⟨λj w h g b=>?_,λx s a J L=>?_,λj a J L=>?_⟩⟩,⟨λa o e z=>?_,λa o e=>?_,λa z=>?_,n.sub,n.new⟩⟩
 .have⟨q1,o,q2⟩:=d.JY a z;show⟨q1,Y a o q2⟩
 .have⟨q1,o,q2⟩:=d.io a z;show⟨q1,Y a o q2⟩
 .by_cases f:j=i
  .subst f;rw[fx IY]at e;cases e;show⟨.ref r,B,r,rfl⟩
  .have⟨v,g,b⟩:=d.sl j k w (D j k w e f);show⟨v,g,b.mv O Mq λhk h er=>?_⟩;obtain⟨Qx,JH,J,_⟩:=b.rt hk;rw[er]at JH;cases JH;show⟨J,λo l=>q (λz=>d.dd.d1 i h z ⟨j,k,w,hk,D j k w e f,by rw[g,er]⟩) l⟩
 .by_cases f:j=i
  .subst f;rw[fx IY]at g;cases g;have I:c.σ[j]?=bD (bD (.ref h)):=b;rw[B]at I;cases I;have z:=new O;simpa using z
  .have IV:=D j _ w g f;have IH:(if j=i then as' else c.kid j)=c.kid j:=ğ f;change cE C c.S H' h (if j=i then as' else c.kid j) w;rw[IH];show cE.mv O (λa ha=>⟨(d.root (.inr ⟨j,w,h,IV,b,d6.mp ha⟩)).1,λo l=>q (λz=>f (d.dd.dj j i a ⟨w,h,IV,b,d6.mp ha⟩ z)) l⟩) (d.dd.kd j w h IV b)
 .rcases G x a J with p|⟨rfl,p,_⟩
  .rcases G s a L with A|⟨rfl,A,_⟩
   .show d.dd.dj x s a p A
   .show(A (.inr ⟨x,p⟩)).elim
  .rcases G s a L with A|⟨rfl,A,_⟩
   .show(p (.inr ⟨s,A⟩)).elim
   .rfl
 .rcases G j a J with p|⟨rfl,p,_⟩
  .show d.dd.d1 j a p (b1 a L)
  .show p (.inl (b1 a L))
 .show q (λm=>by
   rcases n.roots a (.inr ⟨i,m⟩) with y|y
   .show z y
   .rw[e]at y;cases y) (n.keep a o e z)
 .have⟨N,l⟩:=n.there a o e;show Y a N l
 .rcases z with z|⟨j,z⟩
  .show n.roots a (.inl (b1 a z))
  .rcases G j a z with y|⟨_,_,y⟩
   .show n.roots a (.inr ⟨j,y⟩)
   .show .inr y
def Ok.newD(l:Ok C c)(B:c.H p=b7)(u:i<c.σ.length):
  Ok C {c with H:=upd c.H p (.dK []),σ:=c.σ.set i (bD (.ref p)),st:=c.st.set i (bD (.B',.HM [] [])),kid:=λj=>if j=i then [] else c.kid j}/\Ns c {c with H:=upd c.H p (.dK []),σ:=c.σ.set i (bD (.ref p)),st:=c.st.set i (bD (.B',.HM [] [])),kid:=λj=>if j=i then [] else c.kid j}:=by
 have⟨n,T⟩:=l.lay (o:=.dK []) B;have⟨q1,q2,q3,q4,D⟩:=l.lO B;have G:i<c.st.length:=by rw[l.len];show u
 have x:∀(j:Nat) k w,(c.st.set i (bD (.B',.HM [] [])))[j]?=bD (bD (k,w))->j≠i->c.st[j]?=bD (bD (k,w)):=λj k w e I=>by rw[ko (uv I)]at e;show e
 have q:∀(j:Nat),j≠i->(c.σ.set i (bD (.ref p)))[j]?=c.σ[j]?:=λj I=>ko (uv I);have J:∀(j:Nat) k w,k.root=cb->(c.st.set i (bD (.B',.HM [] [])))[j]?=bD (bD (k,w))->j≠i/\c.st[j]?=bD (bD (k,w)):=λj k w hk e=>by
  by_cases b:j=i
  .subst b;rw[fx G]at e;cases e;cases hk
  .show⟨b,x j k w e b⟩
 have b1:∀a,({c with H:=upd c.H p (.dK []),σ:=c.σ.set i (bD (.ref p)),st:=c.st.set i (bD (.B',.HM [] [])),kid:=λj=>if j=i then [] else c.kid j}:Cf).R1 a->c.R1 a:=λa L=>by
  have⟨j,k,w,hk,d,f⟩:=L;have⟨b,N⟩:=J j k w hk d;show⟨j,k,w,hk,N,by rw[<-q j b];show f⟩
 have r:∀j a,({c with H:=upd c.H p (.dK []),σ:=c.σ.set i (bD (.ref p)),st:=c.st.set i (bD (.B',.HM [] [])),kid:=λj=>if j=i then [] else c.kid j}:Cf).RD j a->(j≠i/\c.RD j a)\/(j=i/\a=p):=λj a L=>by
  have⟨w,g,d,f,e3⟩:=L;by_cases b:j=i
  .subst b;have s:(c.σ.set j (bD (.ref p)))[j]?=bD (bD (.ref g)):=f;rw[fx u]at s;cases s;rcases e3 with rfl|e3
   .show .inr ⟨rfl,rfl⟩
   .simp at e3
  .have M6:a=g\/a∈c.kid j:=by simpa[b] using e3
   show .inl ⟨b,w,g,x j _ w d b,by rw[<-q j b];show f,M6⟩
 show⟨⟨n.same,n.JY,n.par,n.io,by simp[l.len],λj k w e=>?_,λm h k1 k2 Y w2 g h1 h2 d f e3 e4=>?_,⟨λj w g d f=>?_,λm h a O t=>?_,λj a O t=>?_⟩⟩,⟨T.keep,T.there,λa z=>?_,λ_ z=>z,λ_ z=>.inl z⟩⟩
 .by_cases b:j=i
  .subst b;rw[fx G]at e;cases e;show⟨.ref p,fx u,p,rfl⟩
  .have⟨v,d,f⟩:=n.sl j k w (x j k w e b);show⟨v,(q j b).trans d,f⟩
 .have⟨M5,a1⟩:=J m k1 Y h1 d;have⟨MF,a2⟩:=J h k2 w2 h2 f;show l.inj m h k1 k2 Y w2 g h1 h2 a1 a2 ((q m M5).symm.trans e3) ((q h MF).symm.trans e4)
 .by_cases b:j=i
  .subst b;rw[fx G]at d;cases d;have s:(c.σ.set j (bD (.ref p)))[j]?=bD (bD (.ref g)):=f;rw[fx u]at s;cases s;change cE C c.S (upd c.H p (.dK [])) p (if j=j then [] else c.kid j) (.HM [] []);rw[ĝ rfl];show⟨[],aA,rfl,rfl,by simp,λa ha=>by rw[mN.mp ha];show⟨q2,q3,q1⟩,rfl⟩
  .have N:=x j _ w d b;have z:=n.dd.kd j w g N ((q j b).symm.trans f);change cE C c.S (upd c.H p (.dK [])) g (if j=i then [] else c.kid j) w;rw[ğ b];show z
 .rcases r m a O with⟨_,A⟩|⟨rfl,rfl⟩
  .rcases r h a t with⟨_,Q⟩|⟨rfl,rfl⟩
   .show l.dd.dj m h a A Q
   .show(D (.inr ⟨m,A⟩)).elim
  .rcases r h a t with⟨_,Q⟩|⟨rfl,_⟩
   .show(D (.inr ⟨h,Q⟩)).elim
   .rfl
 .rcases r j a O with⟨_,A⟩|⟨rfl,rfl⟩
  .show l.dd.d1 j a A (b1 a t)
  .show D (.inl (b1 a t))
 .rcases z with z|⟨j,z⟩
  .show .inl (.inl (b1 a z))
  .rcases r j a z with⟨_,y⟩|⟨_,rfl⟩
   .show .inl (.inr ⟨j,y⟩)
   .show .inr B
end
section
theorem dH.rep{S S':eW->Prop}(hs:∀a,S a->S' a):∀{us:List U}{as:List eW},(∀a∈as,S' a)->dH C S H us as->aq C S' H us (as.map V.ref)
 |[],as,_,h=>by cases h;show rfl
 |u::us,as,c,h=>by
  have⟨a,as',i,vs,rfl,rfl,d,e,f⟩:=h;show⟨.ref a,as'.map V.ref,rfl,⟨a,vs,rfl,.inl ⟨c a (by simp),.inl d⟩,e.mv (.up hs)⟩,dH.rep hs (λb g=>c b (by simp[g])) f⟩
def Ok.HC(b:Ok C c)(n:Nx c0 c)(Q:c.st[i]?=bD (bD (.B',u)))(s:c.σ[i]?=bD (bD (.ref r))):
  Ok C {c with S:=λa=>c.S a\/a∈c.kid i,st:=c.st.set i (bD (.own,u))}/\Nx c0 {c with S:=λa=>c.S a\/a∈c.kid i,st:=c.st.set i (bD (.own,u))}:=by
 have T:i<c.st.length:=(et.mp Q).1;have B:=b.dd.kd i u r Q s;have fr:=cE.fr B;have mem:∀a,(a=r\/a∈c.kid i)->c.RD i a:=λa z=>⟨u,r,Q,s,z⟩
 have up:Mv c.S c.H (λa=>c.S a\/a∈c.kid i) c.H:=.up λa=>.inl;have WZ:Mv (PS C c.S) c.H (PS C λa=>c.S a\/a∈c.kid i) c.H:=.up λa z=>z.imp id .inl;have QD:r∉c.kid i/\cY C (λa=>c.S a\/a∈c.kid i) c.H r u:=by
  cases u<;>first|show B.elim|skip
  have⟨kvs,D,G,h3,h4,h5,h6⟩:=B;show⟨(nc.mp h4).1,kvs,D,G,?_⟩;rw[h3];show h6.rep (λa=>.inl) λa I=>.inr I
 have p:∀(j:Nat) k w,(c.st.set i (bD (.own,u)))[j]?=bD (bD (k,w))->j≠i->c.st[j]?=bD (bD (k,w)):=λj k w e ne=>by rw[ko (uv ne)]at e;show e
 have b1:∀a,({c with S:=λa=>c.S a\/a∈c.kid i,st:=c.st.set i (bD (.own,u))}:Cf).R1 a->c.R1 a\/a=r:=λa Y=>by
  have⟨j,k,w,hk,f,g⟩:=Y;by_cases d:j=i
  .subst d;have JX:c.σ[j]?=bD (bD (.ref a)):=g;rw[s]at JX;cases JX;show .inr rfl
  .show .inl ⟨j,k,w,hk,p j k w f d,g⟩
 have J:∀j a,({c with S:=λa=>c.S a\/a∈c.kid i,st:=c.st.set i (bD (.own,u))}:Cf).RD j a->j≠i/\c.RD j a:=λj a Y=>by
  have⟨w,h,f,g,t⟩:=Y;by_cases d:j=i
  .subst d;rw[fx T]at f;cases f
  .show⟨d,w,h,p j _ w f d,g,t⟩
 show⟨⟨b.same,λa z=>?_,b.par,b.io,by simp[b.len],λj k w e=>?_,λm l k1 k2 L N h D G f g t e4=>?_,⟨λj w h f g=>?_,λm l a x z2=>b.dd.dj m l a (J m a x).2 (J l a z2).2,λj a x z2=>?_⟩⟩,⟨⟨n.keep,n.there,λa z=>?_,λa z=>.inl (n.sub a z),λa z=>?_⟩⟩⟩
 .rcases z with z|z
  .show b.JY a z
  .obtain⟨o,ho,_⟩:=cE.there B a (kj _ z);show⟨(fr a (kj _ z)).2.2,o,ho⟩
 .by_cases d:j=i
  .subst d;rw[fx T]at e;cases e;have⟨q1,q2,q3⟩:=fr r (lg ..);show⟨.ref r,s,r,rfl,λz=>z.elim q1 QD.1,q2,q3,QD.2⟩
  .have⟨v,f,g⟩:=b.sl j k w (p j k w e d);show⟨v,f,g.mv up WZ λhk h er=>?_⟩;obtain⟨Qx,JH,x,_⟩:=g.rt hk;rw[er]at JH;cases JH;show⟨λz=>z.elim x λz=>b.dd.d1 i h (mem h (.inr z)) ⟨j,k,w,hk,p j k w e d,by rw[f,er]⟩,λo q=>q⟩
 .by_cases O:m=i
  .by_cases A:l=i
   .rw[O,A]
   .subst O;have M6:c.σ[m]?=bD (bD (.ref h)):=t;rw[s]at M6;cases M6;show(b.dd.d1 m r (mem r (.inl rfl)) ⟨l,k2,N,G,p l k2 N g A,e4⟩).elim
  .by_cases A:l=i
   .subst A;have UJ:c.σ[l]?=bD (bD (.ref h)):=e4;rw[s]at UJ;cases UJ;show(b.dd.d1 l r (mem r (.inl rfl)) ⟨m,k1,L,D,p m k1 L f O,t⟩).elim
   .show b.inj m l k1 k2 L N h D G (p m k1 L f O) (p l k2 N g A) t e4
 .by_cases d:j=i
  .subst d;rw[fx T]at f;cases f
  .have IV:=p j _ w f d;show cE.mv up (λa I=>⟨λz=>z.elim (b.root (.inr ⟨j,w,h,IV,g,d6.mp I⟩)).1 λz=>d (b.dd.dj j i a ⟨w,h,IV,g,d6.mp I⟩ (mem a (.inr z))),λo q=>q⟩) (b.dd.kd j w h IV g)
 .have⟨d,y⟩:=J j a x;rcases b1 a z2 with z|z
  .show b.dd.d1 j a y z
  .subst z;show d (b.dd.dj j i a y (mem a (.inl rfl)))
 .rcases z with z|⟨j,z⟩
  .rcases b1 a z with z|rfl
   .show n.roots a (.inl z)
   .show n.roots a (.inr ⟨i,mem a (.inl rfl)⟩)
  .show n.roots a (.inr ⟨j,(J j a z).2⟩)
 .rcases z with z|z
  .show n.new a z
  .rcases n.roots a (.inr ⟨i,mem a (.inr z)⟩) with y|y
   .show .inr (.inl y)
   .show .inr (.inr y)
def BL(g:X.N[i]?=bD x)(j:J0 X.env.scope x)(k:(x==("__debug__":Str))=cc)(l:(x==("__classdict__":Str))=cc):PE X (.Name x pos) (HR C (yC i)):=by
 have n:=pB (C:=C) (pos:=pos) g j k l;rintro c s σ H Q I ⟨b,rfl,rfl,d,r,st',e,h⟩;unfold yC at e;split at e
 .rename_i u hs;cases e;have⟨v,f,m,rfl⟩:=d.sl i _ _ hs;have⟨o,p⟩:=d.HC (Nx.refl b) hs f;have q:i<b.st.length:=(et.mp hs).1;show cv g j k l c s b.σ b.H Q I ⟨.ref m,f,h {b with S:=λa=>b.S a\/a∈b.kid i,st:=b.st.set i (bD (.own,u))} (.ref m) rfl rfl o p ⟨⟨.own,rfl,fx q⟩,f⟩⟩
 .show n c s b.σ b.H Q I ⟨b,rfl,rfl,d,r,st',e,h⟩
end
section
def gP{st:ar}(h:W (hJ i) st Q):∃ks us,st[i]?=bD (bD (.B',.HM ks us))/\Q (ks,us) st:=by
 have⟨r,st',e,q⟩:=h;unfold hJ at e;split at e
 .rename_i ks us hs;cases e;show⟨ks,us,hs,q⟩
 .cases e
def gQ{st:ar}(h:W (jc x) st Q):∃y,x.2=.str y/\Q y st:=by
 unfold jc at h;split at h
 .rename_i y e;rw[ak]at h;show⟨y,e,h⟩
 .show(bp.mp h).elim
def Ok.HM(d:Ok C c)(f:c.st[i]?=bD (bD (.B',.HM ks us))):∃(r:eW) (kvs:List (Key×V)),c.σ[i]?=bD (bD (.ref r))/\c.H r=bD (.dK kvs)/\kvs.map (·.1)=ks.map oa/\kvs.map (·.2)=(c.kid i).map V.ref /\
  (r::c.kid i).Nodup/\dH C c.S c.H us (c.kid i)/\(∀y:Str,(dJ kvs (oa y)).isSome=df (y∈ks))/\∀(y:Str) (u:U),da ks us y=bD u->∃v,dJ kvs (oa y)=bD v/\Rep C (λa=>c.S a\/a∈c.kid i) c.H u v:=by
 have⟨v,e,r,rfl⟩:=d.sl i _ _ f;have⟨kvs,k,b,g,l,n,h⟩:=d.dd.kd i _ r f e;have j:aq C (λa=>c.S a\/a∈c.kid i) c.H us (kvs.map (·.2)):=by rw[g];show h.rep (λa=>.inl) λa m=>.inr m
 show⟨r,kvs,e,k,b,g,l,h,λy=>(de (x:=y) b j).2,λy=>(de (x:=y) b j).1⟩
def ji{k:Str->List Str×List U->M β}{Post:β->ar->Prop}{Z:V->V->Hp->Prop}(m:Ok C a)(h:W (o >>= λx=>jc x >>= λy=>hJ i >>= λd=>k y d) a.st Post)
  (hz:∀(c:Cf) (y:Str) (ks:List Str) (us:List U) (r:eW) (kvs:List (Key×V)),c.σ=a.σ->Ok C c->Nx a c->c.H r=bD (.dK kvs)->(dJ kvs (oa y)).isSome=df (y∈ks)->W (k y (ks,us)) c.st Post->Z (.str y) (.ref r) c.H) :
  HR C o a.σ a.H λv p=>∃f,a.σ[i]?=bD (bD f)/\Z v f p:=by
 show⟨a,rfl,rfl,m,?_⟩;rw[ah]at h;show W.mono h λx st' w c v g hs b n r=>?_;subst hs;have⟨u,z⟩:=x;rw[ah]at w;have⟨y,e,j⟩:=gQ w;clear w
 dsimp only at e r
 subst e;have ev:v=.str y:=r.str b;subst ev;rw[ah]at j;have⟨ks,us,hs,w⟩:=gP j;obtain⟨l,kvs,q,s,_,_,_,_,t,_⟩:=b.HM hs;show⟨.ref l,by rw[<-g];show q,hz c y ks us l kvs g b n s (t y) w⟩
abbrev yW(neg:Bool):CmpOp:=if neg=cb then .NotIn else .In
def BM(B:X.A.units+60<IF)(m:X.N[i]?=bD x)(o:J0 X.env.scope x)(p:(x==("__debug__":Str))=cc)(q:(x==("__classdict__":Str))=cc)(t:PE X a (HR C z))(u:OZ (yW neg) (.Name x p2)=cc):
  PE X (.Compare a [yW neg] [.Name x p2] pos) (HR C (z >>= λx=>jc x >>= λy=>hJ i >>= λd=>pure (.loc,.bl (Po neg y d.1)))):=by
 rintro b s σ H Q I ⟨e,rfl,rfl,v,h⟩;cases neg with
 |false =>
  show xP (ya ⋯ t (cv m o p q)) u b s e.σ e.H Q I (ji v h λc y ks us r kvs f g n j l w=>?_);rw[ak]at w;show⟨r,_,rfl,dX.k (k:=oa y) j,?_⟩;rw[l];show w c (.bl _) f rfl g n rfl
 |true =>
  show xP (nR ⋯ t (cv m o p q)) u b s e.σ e.H Q I (ji v h λc y ks us r kvs f g n j l w=>?_);rw[ak]at w;show⟨r,_,rfl,dX.k (k:=oa y) j,?_⟩;rw[l];show w c (.bl _) f rfl g n rfl
def Es(d:∀j,ns j=cb->j≠i)(f:X.N.Nodup)(c:X.N[i]?=bD x)(g:Loc X.env.scope x)(k:X.fn x=cb\/X.env.scope.names.lookup x=bD .local)
  (hs:RB (.Dict [] [] p) (bD (.Name x pos')) pos.line X.env=pure cc):L2.PS X (.Assign [.Name x pos'] (.Dict [] [] p) pos) (IK C ns (CI i >>= λ_=>pure .nx)):=by
 rintro a s σ H D I ⟨b,rfl,rfl,l,h⟩;have m:i<b.σ.length:=by rw[I.len];show(et.mp c).1
 show sd f c g qu hs k a s b.σ b.H D I λq n=>?_;have⟨o,r⟩:=l.newD n m;rw[ah]at h;obtain⟨_,st',e,w⟩:=h;cases e;rw[ak]at w;show w _ rfl o r ⟨λj t=>ko (uv (d j t)),by simp⟩
end
section
def BN(J:X.A.units+60<IF)(q:X.N[i]?=bD x)(t:J0 X.env.scope x)(u:(x==("__debug__":Str))=cc)(v:(x==("__classdict__":Str))=cc)(z:PE X a (HR C G))(B:OZ (yW neg) (.Name x p2)=cc):
  PT X (.Compare a [yW neg] [.Name x p2] pos) (Jr C (G >>= λx=>jc x >>= λy=>hJ i >>= λd=>pure (Po neg y d.1))):=by
 rintro e s σ H Q I ⟨g,rfl,rfl,D,h⟩;cases neg with
 |false =>
  show xQ (ya ⋯ z (cv q t u v)) B e s g.σ g.H Q I (ji (Z:=λy x f=>∃a o,x=V.ref a/\dX f a y o/\∃b,V.bl o.isSome=.bl b/\Q b f) D h λc y ks us r kvs j l n m p w=>?_);rw[ak]at w;show⟨r,_,rfl,dX.k (k:=oa y) m,?_⟩;rw[p];show⟨_,rfl,w c j rfl l n⟩
 |true =>
  show xQ (nR ⋯ z (cv q t u v)) B e s g.σ g.H Q I (ji (Z:=λy x f=>∃a o,x=V.ref a/\dX f a y o/\∃b,V.bl (!o.isSome)=.bl b/\Q b f) D h λc y ks us r kvs j l n m p w=>?_);rw[ak]at w;show⟨r,_,rfl,dX.k (k:=oa y) m,?_⟩;rw[p];show⟨_,rfl,w c j rfl l n⟩
theorem dH.snoc{S:eW->Prop}{a:eW}(b:H a=bD (.lst vs))(c:aq C S H d vs):∀{us:List U}{as:List eW},dH C S H us as->dH C S H (us++[.lst d]) (as++[a])
 |[],as,h=>by cases h;show⟨a,[],d,vs,rfl,rfl,b,c,rfl⟩
 |u::us,as,h=>by
  have⟨a',as',f,g,rfl,e,i,j,k⟩:=h;show⟨a',as'++[a],f,g,rfl,e,i,j,dH.snoc b c k⟩
def sY{st:ar}(h:W (lT i y r) st Q):∃us ks vs,r=(.own,.lst us)/\st[i]?=bD (bD (.B',.HM ks vs))/\y∉ks/\ks.length<c4/\Q () (st.set i (bD (.B',.HM (ks++[y]) (vs++[.lst us])))):=by
 have⟨k,u⟩:=r;cases k<;>cases u<;>first|show(bp.mp h).elim|skip
 rename_i us;obtain⟨_,st',e,q⟩:=h;unfold lT at e
 dsimp only at e
 split at e
 .rename_i ks vs hs;split at e
  .rename_i hz;cases e;show⟨us,ks,vs,rfl,hs,hz.1,hz.2,q⟩
  .cases e
 .cases e
def Et{i:Nat}{x:Str}{j:Pos}(hu:X.A.units+60<IF)(hN:X.N[i]?=bD x)(hv:J0 X.env.scope x)(hd:(x==("__debug__":Str))=cc)(IB:(x==("__classdict__":Str))=cc)
  (ha:PE X a (HR C ma)) (B:PE X b (HR C mb)) (hs:RO [.Subscript (.Name x j) b p] a pos.line X.env=pure cc) (NG:VL [.Subscript (.Name x j) b p] a X.env=pure b7)
  (G:∀v,SA (.Subscript (.Name x j) b p) X.env v=(do
   let n <-Nc [v] (JF (.Name x j) X.env)
   let I <-Nc [v,n] (JF b X.env)
   Yw p
   Nc [v,n,I] (T1 n I v)
   W0 [v,n,I] [])) :
  L2.PS X (.Assign [.Subscript (.Name x j) b p] a pos) (IK C ns (ma >>= λr=>hJ i >>= λ_=>mb >>= λx=>jc x >>= λy=>lT i y r >>= λ_=>pure .nx)):=by
 show PS.weak (r_ ha (xT (cv hN hv hd IB) B (set_dict (X:=X) ⋯) G) hs NG rfl) ?_;rintro D σ H ⟨c0,rfl,rfl,O,h⟩;show aQ O h λr c v t w=>?_;rw[ah]at w;have⟨UK,S3,Jb,w⟩:=gP w;obtain⟨Q,NI,T,g0,_⟩:=t.ok.HM Jb;show⟨.ref Q,by rw[<-t.hσ];show T,?_⟩;rw[ah]at w;show⟨c,t.hσ,rfl,t.ok,w.mono λy st2 Y J vy s e4 u n2 r2=>?_⟩;subst e4;rw[ah]at Y;have⟨ky,uy⟩:=y;have⟨y,ey,w3⟩:=gQ Y
 dsimp only at ey r2
 subst ey;have ev:vy=.str y:=r2.str u;subst ev;rw[ah]at w3;have⟨us,ks,vs,L,g,Qn,l,q⟩:=sY w3;subst L;rw[ak]at q;obtain⟨m,kvs,d,g1,g2,g3,g4,g5,g6,_⟩:=u.HM g;have L:m=Q:=by rw[s,<-t.hσ,T]at d;cases d;rfl
 subst L;have⟨f,rfl,k1,k2,k3,Ip,k4,k5⟩:=t.rx.w.on t.ok n2.toNs (s.trans t.hσ.symm);have SV:=t.nx.trans n2;have hl:kvs.length=ks.length:=by have:=ġ tA g2;simpa using this
 have LS:dJ kvs (oa y)=b7:=by
  have:=g6 y;rw[Ğ Qn]at this;cases hq:dJ kvs (oa y) with
  |none=>rfl
  |some _=>rw[hq]at this;cases this
 show⟨m,_,rfl,wj.k (k:=oa y) g1 (by rw[hl];show l),?_⟩;rw[x9 _ LS];have QD:f∉J.kid i:=λz=>k3 (.inr ⟨i,_,_,g,d,.inr z⟩);have UL:f≠m:=λz=>k3 (.inr ⟨i,_,_,g,d,.inl z⟩);have rd:=u.dd.kd i _ _ g d;have fr:=cE.fr rd;have⟨Kw,n3⟩:=Ok.Gj (H':=upd J.H m (.dK (kvs++[(oa y,.ref f)]))) (u':=.HM (ks++[y]) (vs++[.lst us])) (as':=J.kid i++[f]) u SV.toNs g d
  (λa ne=>ay λz=>ne ⟨_,_,g,d,.inl z⟩) (λa o e=>by
   by_cases hz:a=m
   .subst hz;show⟨_,aA⟩
   .rw[ay hz];show⟨o,e⟩)
  (λmv=>by
   show⟨_,aA,by rw[mu,g2,mu];rfl,by rw[mu,g3,mu];rfl,?_,λa ha=>?_,?_⟩
   .rw[<-ZR,qs];show⟨g4,by simp,λa ha b B=>by
     have:b=f:=by simpa using B
     subst this;rintro rfl;rcases d6.mp ha with z|z
     .show UL z
     .show QD z⟩
   .rw[<-ZR]at ha;rcases gj.mp ha with ha|ha
    .show fr a ha
    .have:a=f:=by simpa using ha
     subst this;obtain⟨z1,_,z3,_⟩:=O.lO k1;show⟨k2,z3,z1⟩
   .show dH.snoc (by rw[ay UL];show k4) (k5.mv mv) (dH.mv mv (λa ha o e=>by
     rw[ay (λz=>(nc.mp g4).1 (by rw[<-z];show ha))];show e) g5))
  (λa ha=>by
   rcases gj.mp ha with ha|ha
   .show .inl ha
   .have:a=f:=by simpa using ha
    subst this;show .inr ⟨k3,k1⟩)
 have z:=q _ rfl Kw n3 (Kept.of s);rw[<-s];show z
theorem dH.at{S:eW->Prop}:∀{ks:List Str}{us:List U}{as:List eW}{kvs:List (Key×V)}{u:U},kvs.map (·.1)=ks.map oa->kvs.map (·.2)=as.map V.ref->as.Nodup->dH C S H us as->da ks us y=bD u ->
  ∃a ws f,dJ kvs (oa y)=bD (.ref a)/\a∈as/\u=.lst f/\H a=bD (.lst ws)/\aq C S H f ws/\∀(H':Hp) (c:List U) (d:List V),Mv S H S H'->H' a=bD (.lst d)->aq C S H' c d->(∀b∈as,b≠a->H' b=H b)->dH C S H' (kJ ks us y (.lst c)) as
 |[],us,as,kvs,u,_,_,_,_,h=>by cases us<;>cases h
 |k::ks,[],as,kvs,u,_,_,_,_,h=>by cases h
 |k::ks,Q::us,as,kvs,u,g,q,i,hk,h=>by
  have⟨a,as',f,ws,rfl,rfl,t,v,w⟩:=hk;cases kvs with
  |nil=>simp at g
  |cons p kvs =>
   rw[eF,eF,Ph]at g q;rw[nc]at i;by_cases j:k=y
   .subst j;simp only[da,ĥ]at h;cases h;show⟨a,ws,f,by rw[eS g.1,q.1],by simp,rfl,t,v,λH' c d l r s m=>?_⟩;simp only[kJ,ĥ];show⟨a,as',c,d,rfl,rfl,r,s,dH.mv l (λb n o e=>by rw[m b (by simp[n]) (λz=>i.1 (z▸n))];show e) w⟩
   .simp only[da,ğ j]at h;have⟨x,B,D,G,A,I,J,L,N⟩:=dH.at g.2 q.2 i.2 w h;show⟨x,B,D,?_,by simp[A],I,J,L,λH' c d l r s m=>?_⟩
    .rw[eT (by rw[g.1];intro z;show j (Vd z))];show G
    .simp only[kJ,ğ j];have O:a≠x:=λz=>i.1 (z▸A);show⟨a,as',f,ws,rfl,rfl,by rw[m a (by simp) O];show t,v.mv l,N H' c d l r s λb n=>m b (by simp[n])⟩
def sZ{st:ar}(h:W (lU i y u) st Q):∃ks vs xs,st[i]?=bD (bD (.B',.HM ks vs))/\da ks vs y=bD (.lst xs)/\xs.length<c4/\Q () (st.set i (bD (.B',.HM ks (kJ ks vs y (.lst (xs++[u])))))):=by
 obtain⟨_,st',e,q⟩:=h;unfold lU at e;split at e
 .rename_i ks vs hs;split at e
  .rename_i xs a;split at e
   .rename_i hz;cases e;show⟨ks,vs,xs,hs,a,hz,q⟩
   .cases e
  .cases e
 .cases e
abbrev wV(C:Ct)(m:M (Kd×U)):TE:=λσ H Q=>∃b:Cf,b.σ=σ/\b.H=H/\Ok C b/\W m b.st λr st'=>∀c v,c.σ=σ->c.st=st'->Ok C c->Nx b c->(∀a o,b.H a=bD o->c.H a=bD o)->aK C b c r.1 r.2 v->Q v c.H
def n_(d:Ok C b)(h:W (e >>= k) b.st Post)
  (hz:∀x c v,M1 C b c x v->(∀a o,b.H a=bD o->c.H a=bD o)->W (k x) c.st Post->Z v c.H):wV C e b.σ b.H Z:=by
 rw[ah]at h;show⟨b,rfl,rfl,d,h.mono λx st1 f g i j l m n p q=>hz x g i ⟨j,m,n,q⟩ p (by rw[l];show f)⟩
def yX(f:X.N[i]?=bD x)(g:J0 X.env.scope x)(l:(x==("__debug__":Str))=cc)(m:(x==("__classdict__":Str))=cc):PE X (.Name x pos) (wV C (dE i)):=by
 show PE.weak (cv f g l m) ?_;rintro σ H Q ⟨b,rfl,rfl,c,r,st',e,h⟩;unfold dE at e;split at e
 .cases e
 .rename_i k u n hs;cases e;have⟨v,d,a⟩:=c.sl i k u hs;show⟨v,d,h b v rfl rfl c (Nx.refl b) (λ_ _ z=>z) ?_⟩;by_cases hk:k.root=cb
  .rw[ĝ hk];show⟨⟨k,hk,hs⟩,d⟩
  .rw[ğ hk];cases k with
   |loc=>show a
   |any=>show a
   |bor j=>show a.elim
   |B'=>show(n rfl).elim
   |_=>show absurd rfl hk
 .cases e
def jj(h:PE X e (tC v))(r:∀S H,Rep C S H u v):PE X e (wV C (pure (.loc,u))):=by
 show PE.weak h ?_;rintro σ H Q ⟨a,rfl,rfl,b,h⟩;rw[ak]at h;show h a v rfl rfl b (Nx.refl a) (λ_ _ z=>z) (r _ _)
def Eu(hK:C.K=X.K)(hu:X.A.units+60<IF)(hN:X.N[i]?=bD x)(hv:J0 X.env.scope x)(hd:(x==("__debug__":Str))=cc)(IB:(x==("__classdict__":Str))=cc)(G:PE X a (wV C ma))(hb:PE X b (HR C mb))(PD:Dy b)
  (I0:((KW I (lx [a] X.env)).all (λx=>!x.1)&&(Sx I (P2 [] X.env)).all (λx=>x.1.isSome)
   && df ([a].length+([]:List O9).length+(if ([]:List O9).isEmpty then 0 else 1)<30))=cb)
  (IC:(j.endLine==I.line)=cb) (HQ:lx [a] X.env=[(cc,JF a X.env)]) :
  L2.PS X (.Expr (.Call (.Attribute (.Subscript (.Name x px) b p) "append" j) [a] [] I) pos) (IK C ns (hJ i >>= λ_=>mb >>= λx=>jc x >>= λy=>hJ i >>= λd=>if y∈d.1 then(ma >>= λr=>lift r >>= λu=>lU i y u >>= λ_=>pure .nx) else M.fail)):=by
 show PS.weak (iM (uA PySem.F.plainAttrs_list PySem.F.slot_list_append PySem.F.type_list_append nM (AU ⋯ (cv hN hv hd IB) hb PD) (dy G iq HQ) rfl I0 IC HQ rfl)) ?_;rintro D σ H ⟨c0,rfl,rfl,ok,h⟩;rw[ah]at h;have⟨UK,S3,Jb,h⟩:=gP h;obtain⟨r0,NI,J,g0,_⟩:=ok.HM Jb;show⟨.ref r0,J,?_⟩;show aQ ok h λry c vy t w=>?_;rw[ah]at w;have⟨ky,uy⟩:=ry;have⟨y,ey,w1⟩:=gQ w
 dsimp only at ey
 subst ey;have ev:vy=.str y:=t.rx.str t.ok;subst ev;rw[ah]at w1;have⟨ks,us,hs,l⟩:=gP w1
 dsimp only at l
 by_cases L:y∈ks
 case neg=>rw[ğ L]at l;show(bp.mp l).elim
 rw[ĝ L]at l;obtain⟨O,kvs,f1,g1,g2,g3,g4,g5,g6,_⟩:=t.ok.HM hs;have Q:O=r0:=by rw[t.hσ,J]at f1;cases f1;rfl
 subst Q;have M7:=g6 y;rw[Ġ L]at M7;have⟨v0,n⟩:=P0.mp M7;have Jx:v0∈(c.kid i).map V.ref:=by
  rw[<-g3];unfold dJ at n;have⟨q,hq,rfl⟩:=d5.mp n;show Y' (X' hq)
 have⟨f,W3,rfl⟩:=ez.mp Jx;have⟨LU,S4⟩:=g5.mem W3;show⟨O,.ref f,rfl,by rw[<-n];show dX.k (k:=oa y) g1,Or.inl ⟨rfl,LU,.inl (.inl S4)⟩,?_⟩;rw[<-t.hσ];show n_ t.ok l λr g v t' wK w3=>?_;rw[ah]at w3;obtain⟨S',st',u,sS,T,n1,m,w4,_,_⟩:=gN t.ok t'.ok t'.nx t'.rx.w w3;rw[ah]at w4;have⟨Ky,Ip,xs,s,hx,hz,q⟩:=sZ w4;rw[ak]at q;obtain⟨B,Y,k1,k2,k3,k4,k5,k6,_,_⟩:=T.HM s;have UM:g.σ[i]?=bD (bD (.ref B)):=k1;have Q:B=O:=by rw[t'.hσ,t.hσ,J]at UM;cases UM;rfl
 subst Q;have W4:g.H B=bD (.dK Y):=k2;have S9:Y=kvs:=by have:=wK _ _ g1;rw[W4]at this;cases this;rfl
 subst S9;have nd:=(nc.mp k5).2;have⟨a2,ws,ys,l1,l2,l3,l4,l5,l6⟩:=dH.at k3 k4 nd k6 hx;cases l3;rw[n]at l1;cases l1;have W5:g.H f=bD (.lst ws):=l4;show⟨f,ws,v,rfl,rfl,W5,by rw[<-l5.len];show hz,?_⟩;have IW:f≠B:=λz=>(nc.mp k5).1 (z▸l2);have⟨Iw,n2⟩:=Ok.Gj (c:={g with S:=S',st:=st' }) (H':=upd g.H f (.lst (ws++[v]))) (u':=.HM Ky (kJ Ky Ip y (.lst (xs++[u])))) (as':=g.kid i) T (t.nx.trans n1).toNs s k1
  (λa ne=>ay λz=>ne ⟨_,_,s,k1,.inr (z▸l2)⟩) (λa o e=>by
   by_cases hz:a=f
   .subst hz;show⟨_,aA⟩
   .rw[ay hz];show⟨o,e⟩)
  (λmv=>⟨Y,by rw[ay (uv IW)];show k2,k3,k4,k5,cE.fr (T.dd.kd i _ _ s k1),l6 _ _ _ mv aA ((l5.mv mv).snoc (m.mv mv)) λb _ ne=>ay ne⟩)
  (λa G=>.inl G)
 have z:=q _ rfl Iw n2 (Kept.of (t'.hσ.trans t.hσ));rw[<-t'.hσ];show z
end
section
def yY{st:ar}(h:W (Sl u) st Q):∃ks us,u=.HM ks us/\Q () st:=by
 cases u<;>first|show(bp.mp h).elim|skip
 show⟨_,_,rfl,ak.mp h⟩
def og{st:ar}(h:W (wI x) st Q):∃j,x.2=.int j/\Q j st:=by
 unfold wI at h;split at h
 .rename_i y e;rw[ak]at h;show⟨y,e,h⟩
 .show(bp.mp h).elim
def oh{st:ar}(h:W (qM i) st Q):∃k us,k.root=cb/\st[i]?=bD (bD (k,.lst us))/\Q us st:=by
 have⟨r,st',e,q⟩:=h;unfold qM at e;split at e
 .rename_i k us hs;split at e
  .rename_i hk;cases e;show⟨k,_,hk,hs,q⟩
  .cases e
 .cases e
theorem qT:∀{ks:List Str}{us:List U},y∈ks->ks.length=us.length->da ks us y=b7->False
 |[],us,h,_,_=>by cases h
 |k::ks,[],_,h,_=>by simp at h
 |k::ks,u::us,h,hl,e=>by
  by_cases hk:k=y
  .simp[da,hk]at e
  .simp only[da,ğ hk]at e;rcases d6.mp h with h|h
   .show hk h.symm
   .show qT h (by simpa using hl) e
def yZ{i:Nat}{x:Str}{G:Pos}(hu:X.A.units+60<IF)(hN:X.N[i]?=bD x)(hv:J0 X.env.scope x)(hd:(x==("__debug__":Str))=cc)(IB:(x==("__classdict__":Str))=cc)
  (ha:PE X a (HR C ma)) (hb:PE X b (HR C mb)) (hm:M2 X (.Name x G) "get" e a b G') :
  PE X (.Call (.Attribute (.Name x G) "get" e) [a,b] [] G') (HR C (dE i >>= λx=>Sl x.2 >>= λ_=>ma >>= λy=>jc y >>= λy=>mb >>= λz=>lift z >>= λu=>dE i >>= λx=>M.Im (Bi x y u))):=by
 rintro f s σ H Q I ⟨p,rfl,rfl,B,h⟩;show yc ⋯ (cv hN hv hd IB) ha hb hm f s p.σ p.H Q I ?_;rw[ah]at h;have⟨k0,u0,S_,Jb,h⟩:=dg h;have⟨v0,J,t0⟩:=B.slot S_ Jb;rw[ah]at h;have⟨UK,S3,L,h'⟩:=yY h
 dsimp only at L
 subst L;obtain⟨a0,NI,rfl,g0,_⟩:=t0.dict B;show⟨.ref a0,J,a0,rfl,.inl ⟨NI,.inl g0⟩,?_⟩;show aQ B h' λry c vy t w=>?_;rw[ah]at w;have⟨ky,uy⟩:=ry;have⟨y,O,w1⟩:=gQ w
 dsimp only at O
 subst O;have ev:vy=.str y:=t.rx.str t.ok;subst ev;rw[<-t.hσ];show aQ t.ok w1 λz g vz j T=>?_;rw[ah]at T;obtain⟨S',st',u,sS,D,n1,l,Y,_,_⟩:=gN t.ok j.ok j.nx j.rx.w T;rw[ah]at Y;have⟨k,u1,W6,JB,w5⟩:=dg Y;have⟨r,d,q⟩:=cq.mp w5;have⟨v1,e1,t1⟩:=D.slot W6 JB;have IV:g.σ[i]?=bD (bD v1):=e1;rw[j.hσ,t.hσ,J]at IV;cases IV;cases u1<;>first|(simp only[Bi]at d;cases d;done)|skip
 rename_i ks us;have⟨a1,kvs,ea,g1,g2,g3⟩:=t1.dict D;cases ea;have QF:g.H a0=bD (.dK kvs):=g1;show⟨_,dX.k (k:=oa y) QF,?_⟩;simp only[Bi]at d;have⟨l1,l2⟩:=de (x:=y) g2 g3;have m:∀v:V,aK C p {g with S:=S',st:=st' } r.1 r.2 v->Q v g.H:=λv z=>q {g with S:=S',st:=st' } v (j.hσ.trans t.hσ) rfl D (t.nx.trans n1) z;cases o:da ks us y with
 |some w =>
  rw[o]at d;cases d;have⟨v,ev,rv⟩:=l1 w o;rw[ev];show m v ?_;show aK.item (k:=if k.root=cb then .bor i else k) rv
 |none =>
  rw[o]at d;cases d;have LS:dJ kvs (oa y)=b7:=by
   cases hq:dJ kvs (oa y) with
   |none=>rfl
   |some v =>
    exfalso
    rw[hq]at l2;have hy:y∈ks:=by simpa using l2.symm
    have n:ks.length=us.length:=by have h1:=ġ tA g2;have h2:=g3.len;simp at h1 h2;lia
    show qT hy n o
  rw[LS];show m vz l
def y6:Fo X (λo i H Q=>∃p xs j v,o=.ref p/\i=.int j/\H p=bD (.lst xs)/\0<=j/\xs[j.toNat]?=bD v/\Q v H):=by
 rintro a s σ H o i l m Q I c d ⟨p,xs,j,v,rfl,rfl,e,f,b,q⟩;cases c;have⟨t,rfl⟩:=d;have⟨its,r,g,hz⟩:=I.list (.inl (.inl e));have⟨w,h,k⟩:=r.get b;have hl:=r.length;have n:=fY;have u:=(et.mp b).1;show wpAny_getItem_list g.isList f ⋯ (by simpa using h) ⟨v,H,I,k,q⟩
def BO:P' X (if sub=cb then .Sub else .Add) (Q3 (wJ sub)):=by
 cases sub with
 |true=>show Di
 |false=>show Dh
def Gk(hN:X.N[i]?=bD x)(hv:J0 X.env.scope x)(hd:(x==("__debug__":Str))=cc)(IB:(x==("__classdict__":Str))=cc)
  (ha:PE X a (wV C ma)) (hb:PE X b (HR C mb))
  (m:∀f g new,Đ b f g new=(do Nc [new,f,g] (T1 f g new);W0 [new,f,g] [];pure .next)) :
  L2.PS X (.AugAssign (.Subscript (.Name x px) b p) (if sub=cb then .Sub else .Add) a pos) (IK C ns (qM i >>= λ_=>mb >>= λy=>wI y >>= λj=>qM i >>= λus=>M.Im (qN us j) >>= λo=>ma >>= λz=>wI z >>= λw=>modS i (eO (.int j) (.int (wJ sub o w))) >>= λ_=>pure .nx)):=by
 show PS.weak (AB (cv hN hv hd IB) hb y6 ha BO set_list m) ?_;rintro D σ H ⟨c0,rfl,rfl,u,h⟩;rw[ah]at h;have⟨k0,S3,PF,Jb,h⟩:=oh h;have⟨v0,n,KR⟩:=u.sl i _ _ Jb;obtain⟨a0,rfl,_,_,_,_⟩:=KR.rt PF;show⟨.ref a0,n,?_⟩;show aQ u h λry c vy t w=>?_;rw[ah]at w;have⟨ky,uy⟩:=ry;have⟨j,v,A⟩:=og w
 dsimp only at v
 subst v;have ev:vy=.int j:=t.rx.int t.ok;subst ev;rw[ah]at A;have⟨k1,Yb,Pf,JB,B⟩:=oh A;rw[ah]at B;have⟨o,ho,w3⟩:=cq.mp B;have⟨v1,G,W7⟩:=t.ok.sl i _ _ JB;obtain⟨a1,rfl,_,_,_,PH⟩:=W7.rt Pf;rw[t.hσ,n]at G;cases G;have⟨vs,I,g2⟩:=PH;unfold qN at ho;split at ho
 case isFalse=>cases ho
 rename_i W8;split at ho
 case h_2=>cases ho
 rename_i o' Ta;cases ho;have⟨vo,W9,W_⟩:=g2.get Ta;have W':vo=.int o:=W_;subst W';show⟨a0,vs,j,_,rfl,rfl,I,W8,W9,?_⟩;rw[<-t.hσ];show n_ t.ok w3 λz r vz d all2 J=>?_;rw[ah]at J;have⟨kz,uz⟩:=z;have⟨w,L,O⟩:=og J
 dsimp only at L
 subst L;have ev:vz=.int w:=d.rx.int d.ok;subst ev;show⟨o,w,rfl,rfl,?_⟩;rw[ah]at O;have⟨k,u1,u2,hk,Q,e,q⟩:=fe O;rw[ak]at q;have⟨v2,s,MN⟩:=d.ok.sl i _ _ Q;obtain⟨a2,rfl,_,_,_,PK⟩:=MN.rt hk;have Xa:=s;rw[d.hσ,t.hσ,n]at s;cases s;have T:r.H a0=bD (.lst vs):=all2 _ _ I;cases u1 with
 |lst xs =>
  simp only[eO,d5]at e;have⟨l,Mk,rfl⟩:=e;have⟨UO,Y,l2⟩:=PK;rw[T]at Y;cases Y;show⟨a0,vs,j,l,rfl,rfl,T,by rw[<-l2.len];show Mk,?_⟩;have⟨Kw,n3⟩:=Ok.mod (c:=r) (H':=upd r.H a0 (.lst (vs.set l (.int (wJ sub o w))))) (u':=.lst (xs.set l (.int (wJ sub o w)))) d.ok (t.nx.trans d.nx).toNs hk Q Xa (λa ne=>ay ne) ⟨_,aA⟩ λmv=>⟨_,aA,(l2.mv mv).set l rfl⟩
  have z:=q _ rfl Kw n3 (Kept.of (d.hσ.trans t.hσ));rw[<-d.hσ];show z
 |HM ks vs=>simp[eO]at e
 |IM ks=>simp[eO,rowOf]at e
 |_=>simp[eO]at e
end
section
def BP{ks:List Str}(c:kvs.map (·.1)=ks.map oa)(d:kvs.map (·.2)=ns.map V.int):kvs=(ks.zip ns).map λp=>((oa p.1:Key),V.int p.2):=by
 induction kvs generalizing ks ns with
 |nil =>
  cases ks with
  |nil=>rfl
  |cons _ _=>cases c
 |cons kv kvs e =>
  cases ks with
  |nil=>cases c
  |cons k ks =>
   cases ns with
   |nil=>cases d
   |cons n ns =>
    have⟨a,b⟩:=kv;simp only[eF,Ph]at c d;have⟨rfl,c⟩:=c;have⟨rfl,d⟩:=d;rw[e c d];rfl
theorem aq.of_map{S:eW->Prop}{f:α->U}{g:α->V}:∀{l:List α},(∀x∈l,Rep C S H (f x) (g x))->aq C S H (l.map f) (l.map g)
 |[],_=>rfl
 |x::l,h=>⟨g x,l.map g,rfl,h x (by simp),aq.of_map λy a=>h y (by simp[a])⟩
def BQ(hc:X.calm=cb)(hK:C.K=X.K)(hg:Gl X "sorted")(hm:X.mg "sorted"=b7)(hN:X.N[i]?=bD x)(hv:J0 X.env.scope x)(hd:(x==("__debug__":Str))=cc)(IB:(x==("__classdict__":Str))=cc)(IC:(b.endLine==m.line)=cb):
  PE X (.Call (.Name "sorted" p) [.Call (.Attribute (.Name x q) "items" b) [] [] m] [] pos) (HR C (dE i >>= λx=>M.Im (yA x.2))):=by
 rintro g s σ H Q I ⟨c,rfl,rfl,n,h⟩;show Jo (dW I hg hm (show JM "sorted"=bD (.builtin "sorted") by decide +kernel) ?_ (by decide +kernel) (by decide +kernel));rw[ah]at h;have⟨k0,u0,S_,Jb,h⟩:=dg h;have⟨v0,e0,t0⟩:=n.slot S_ Jb;have⟨r,f,l⟩:=cq.mp h
 dsimp only at f
 unfold yA at f;split at f
 rotate_left
 .cases f
 rename_i ks us;rw[nH]at f;have⟨ns,en,f⟩:=f;split at f
 rotate_left
 .cases f
 rename_i Tb;cases f;have⟨K8,HW,B⟩:=Tb;have⟨d,kvs,rfl,D,PF,G⟩:=t0.dict n;rw[gz en]at G;have S9:=BP PF (aq.ints G);subst S9;have ek:((ks.zip ns).map (·.1))=ks:=ZN ⋯;have k:eH (ke X.prog X.w) X.A (JF (.Call (.Attribute (.Name x q) "items" b) [] [] m) X.env) (λv s1=>eH (ke X.prog X.w) X.A (PU (.builtin "sorted") [v]) (EP X g c.σ Q) X.xe s1) X.xe s:=by
  show wpAny_Call_method0_late rfl IC (HS (cv hN hv hd IB g s c.σ c.H (λv J=>v=.ref d/\J=c.H) I ⟨_,e0,rfl,rfl⟩) λv s1 Tc=>?_);have⟨x1,J,O,r1,z1,z2⟩:=Tc;subst z1 z2;cases(show v=mh d from r1);have⟨h1,h2⟩:=sv (T:="dict") O (x:=.ref d) rfl (.inr (.inr (.inl ⟨rfl,.inl ⟨_,D⟩⟩)));show⟨"dict","dict.items",PySem.F.plainAttrs_dict,PySem.F.slot_dict_items,PySem.F.type_dict_items,h1,h2,NP rfl (PySem.evalArgs_none (pv hc O D (by rw[ek];show HW) (by rw[Wl];lia) λas L hl nd Y hL=>?_))⟩;have t:c.H L=b7:=Y L (by simp);have Xb:(as.zip ((ks.zip ns).map L9)).map (·.1)=as:=ZN (by rw[cK];lia);have Xc:∀p∈as.zip ((ks.zip ns).map L9),p.1∈as:=λp u=>(Rz u).1;have same:qt c.H (upd (kH c.H (as.zip ((ks.zip ns).map L9))) L (.lst ((kG ((ks.zip ns).map (·.1))).map λi=>V.ref (as.getD i 0)))):=λa o e=>by
   have n1:a≠L:=λy=>by rw[y,t]at e;cases e
   rw[ay n1,lN λp u y=>?_]
   .show e
   .have:=Y p.1 (by simp[Xc p u]);rw[y,e]at this;cases this
  have⟨Ic,n'⟩:=n.grow (S':=c.S) same (λa z=>.inl z) λa z=>z;have⟨q1,q2,q3,q4,q5⟩:=n.lO t;show l {c with H:=upd (kH c.H (as.zip ((ks.zip ns).map L9))) L (.lst ((kG ((ks.zip ns).map (·.1))).map λi=>V.ref (as.getD i 0))),S:=c.S} _ rfl rfl Ic n' ⟨L,rfl,t,q2,q5,_,aA,?_⟩;change aq C c.S _ ((Bg (ks.zip ns)).map wG) _;unfold Bg;rw[hQ];show aq.of_map λj hj=>?_;have Mk:j<(ks.zip ns).length:=by
   have:=wh.mp ((gM _).mem_iff.mp hj);rw[cK]at this;show this
  have R8:j<as.length:=by lia
  have e1:(ks.zip ns).getD j (ri,0)=(ks.zip ns)[j]:=(List.getElem_eq_getD _).symm;have e2:as.getD j 0=as[j]:=by simp[R0,R8]
  change Rep C c.S _ (wG ((ks.zip ns).getD j (ri,0))) (V.ref (as.getD j 0));rw[e1,e2];show⟨as[j],L9 (ks.zip ns)[j],rfl,Ir.of ?_,⟨_,_,rfl,rfl,_,_,rfl,rfl,rfl⟩⟩;have IW:as[j]≠L:=λy=>hL (by rw[<-y];simp);show(ay IW).trans (uO (by rw[Xb];show nd) (vs:=L9 (ks.zip ns)[j]) ?_);show YZ.mpr ⟨j,by rw[Wl,cK];lia,?_⟩;rw[List.getElem_zip,ZO]
 have eb:KW pos (lx [.Call (.Attribute (.Name x q) "items" b) [] [] m] X.env)=[(cc,JF (.Call (.Attribute (.Name x q) "items" b) [] [] m) X.env)]:=rfl;have Xd:Sx pos (P2 [] X.env)=[]:=rfl;rw[eb,Xd];show yO k
end
@[reducible]def LV(P:w6)(w:Ie)(K:PySem.W.Frag)(H:Hp)(Pr IO:eW->Prop):Ct:=⟨P,w,K,H,Pr,IO,λ_ _=>False⟩
structure CM(C:Ct)(H H':Hp)(S':eW->Prop)(is:List Nat)(vs:List V)(ws:List U)(k:Kd)(u:U)(v:V):Prop where
 same:∀a o,H a=bD o->¬C.IO a->H' a=bD o
 new:∀a,S' a->H a=b7/\∃o,H' a=bD o
 own:k=.own->∃r,v=.ref r/\H r=b7/\¬S' r/\cY C S' H' r u
 loc:k=.loc->Rep C S' H' u v
 len:ws.length=is.length
 JR:∀(n i:Nat) (r:eW) (w:U),is[n]?=bD i->vs[i]?=bD (.ref r)->ws[n]?=bD w->cY C S' H' r w
structure Ew(C:Ct)(H:Hp)(is:List Nat)(us:List U)(vs:List V):Prop where
 len:us.length=vs.length
 par:∀a,C.Kt a->JI H a/\¬C.IO a
 UQ:∀a,C.IO a->JI H a
 io:∀(i:Nat) (u:U),i∈is->us[i]?=bD u->∃r,vs[i]?=bD (.ref r)/\C.IO r/\cY C (λ_=>False) H r u
 any:∀(i:Nat) (u:U),i∉is->us[i]?=bD u->∃v,vs[i]?=bD v/\Rep C C.Kt H u v
 inj:∀(i j:Nat) (r:eW),i∈is->j∈is->vs[i]?=bD (.ref r)->vs[j]?=bD (.ref r)->i=j
 JR:∀a,C.IO a->∃i∈is,vs[i]?=bD (.ref a)
abbrev QG(P:w6)(w:Ie)(K:PySem.W.Frag)(F:List U->Option (Ex (Kd×U)))(a:Nat)(is:List Nat):Sp:=λvs H Q _=>vs.length=a/\∃us k u ws Pr IO,F us=bD (.ok (k,.tup (u::ws)))/\(k=.own\/k=.loc)/\Ew (LV P w K H Pr IO) H is us vs /\
 ∀v H' S',CM (LV P w K H Pr IO) H H' S' is vs ws k u v->Q v H'
theorem map_inj:∀{l:List α},(l.map f).Nodup->∀x∈l,∀y∈l,f x=f y->x=y
 |[],_,_,h,_,_,_=>by cases h
 |a::l,h,x,g,y,c,e=>by
  rw[eF,nc]at h;rcases d6.mp g with d|h1
  .rcases d6.mp c with b|h2
   .rw[d,b]
   .show absurd (ez.mpr ⟨y,h2,by rw[<-e,d]⟩) h.1
  .rcases d6.mp c with b|h2
   .show absurd (ez.mpr ⟨x,h1,by rw[e,b]⟩) h.1
   .show map_inj h.2 x h1 y h2 e
section
def wW(h:lR rs p=bD j):∃us,rs[p]?=bD (.bor j,.lst us)/\fU us=cb:=by
 unfold lR at h;split at h
 .split at h
  .cases h;show⟨_,by assumption,by assumption⟩
  .cases h
 .cases h
def J8.UR(t:J8 C d c rs vs){i:Nat}(h:rs[i]?=bD r):∃v,vs[i]?=bD v/\aK C d c r.1 r.2 v:=by
 have f:∀(l:List (Kd×U)) (w:List V),cP C d c l w->br l c.st->∀(i:Nat) (r:Kd×U),l[i]?=bD r->∃v,w[i]?=bD v/\aK C d c r.1 r.2 v:=by
  intro l;induction l with
  |nil=>intro w _ _ i r e;simp at e
  |cons x l g =>
   intro w h hs i r e;obtain⟨v,t',rfl,j,k,_⟩:=h;rw[e_]at hs;cases i with
   |zero=>simp at e;subst e;show⟨v,rfl,j.t hs.1⟩
   |succ i=>have⟨m,a,b⟩:=g t' k hs.2 i r (by simpa using e);show⟨m,by simpa using a,b⟩
 show f rs vs t.rep t.MA i r h
def J8.len(t:J8 C a c rs vs):rs.length=vs.length:=by
 have:=t.read.len;rw[cK]at this;show this
theorem u_(q:C'.Eqv C){vs:List V}(hs:∀a,S' a->S1 a){IO:eW->Prop}(Q:∀a,S' a->¬IO a)(A:∀a o,IO a->H' a=bD o->¬Tp o):
  ∀(ps:List Nat) (ws:List U) (c:Cf) (st':ar),Ok C c->Ns c1 c->c.S=S1->uT rs ps ws c.st=bD st'->(ps.map (lR rs)).Nodup->(∀p∈ps,∀a,vs[p]?=bD (.ref a)->IO a) ->
  (∀p∈ps,∀j,lR rs p=bD j->∃k u r,k.root=cb/\c.st[j]?=bD (bD (k,u))/\c.σ[j]?=bD (bD (.ref r))/\vs[p]?=bD (.ref r)) ->
  (∀(n p:Nat) (r:eW) (w:U),ps[n]?=bD p->vs[p]?=bD (.ref r)->ws[n]?=bD w->cY C' S' H' r w)->(∀a,(∀p∈ps,vs[p]?≠bD (.ref a))->c.H a=H' a)->(∀a,¬IO a->c.H a=H' a) ->
  ∃g:Cf,Ok C g/\Ns c1 g/\g.σ=c.σ/\g.S=S1/\g.st=st'/\g.H=H'/\g.kid=c.kid/\∀(j:Nat) (k:Kd) (u:U),g.st[j]?=bD (bD (k,u))->∃B,c.st[j]?=bD (bD (k,B))
 |[],ws,c,st',D,n,y,e,_,_,_,_,G,_=>by
  cases ws with
  |nil=>cases e;show⟨c,D,n,rfl,y,rfl,funext λa=>G a λp hp=>(by cases hp),rfl,λj k u e=>⟨u,e⟩⟩
  |cons _ _=>cases e
 |p::ps,ws,c,st',D,n,y,e,I,T,Y,rt,G,J=>by
  cases ws with
  |nil=>cases e
  |cons w ws =>
   simp only[uT]at e;split at e
   .rename_i j hj;split at e
    .rename_i us k0 Yc HQ;have⟨k,u,r,hk,s,e2,L⟩:=Y p (by simp) j hj;rw[HQ]at s;cases s;have s:=HQ;have hr:=rt 0 p r _ rfl L rfl;have⟨xs,g1,g2⟩:=hr;have N:IO r:=T p (by simp) r L;rw[eF,nc]at I;have⟨Ic,n'⟩:=D.mod (H':=upd c.H r (.lst xs)) (u':=.lst us) n hk s e2 (λa v=>ay v) ⟨_,aA⟩ (λ_=>⟨xs,aA,by
      show(g2.cg q).mv ⟨λa z=>by rw[y];show hs a z,λa o h tp=>?_,λa o z h=>?_⟩
      .by_cases l:a=r
       .subst l;show absurd tp (A a o N h)
       .rw[ay l];by_cases x:IO a
        .show absurd tp (A a o x h)
        .rw[J a x];show h
      .have x:=Q a z;have l:a≠r:=λe=>x (e▸N);rw[ay l,J a x];show h⟩)
     have IY:j<c.st.length:=(et.mp s).1;have A1:∀f∈ps,∀t,lR rs f=bD t->∃k u r,Kd.root k=cb/\(c.st.set j (bD (k0,.lst us)))[t]?=bD (bD (k,u))/\c.σ[t]?=bD (bD (.ref r))/\vs[f]?=bD (.ref r):=λf hp t Mk=>by
      have⟨k',u',O,a1,a2,a3,a4⟩:=Y f (by simp[hp]) t Mk;have v:j≠t:=λz=>I.1 (ez.mpr ⟨f,hp,by rw[Mk,hj,z]⟩);show⟨k',u',O,a1,by rw[ko v];show a2,a3,a4⟩
     have A2:∀a,(∀f∈ps,vs[f]?≠bD (.ref a))->upd c.H r (.lst xs) a=H' a:=λa l=>by
      by_cases h:a=r
      .subst h;rw[aA,g1]
      .rw[ay h];show G a λf hp z=>?_;rcases d6.mp hp with rfl|hp
       .rw[L]at z;cases z;show h rfl
       .show l f hp z
     have A3:∀a,¬IO a->upd c.H r (.lst xs) a=H' a:=λa l=>by
      have v:a≠r:=λz=>l (by rw[z];show N);rw[ay v];show J a l
     have⟨g,f1,f2,f3,f4,f5,f6,f7,f8⟩:=u_ q hs Q A ps ws {c with H:=upd c.H r (.lst xs),st:=c.st.set j (bD (k0,.lst us))} st' Ic n' y e I.2 (λf hp=>T f (by simp[hp])) A1 (λm f O w' a b d=>rt (m+1) f O w' (by simpa using a) b (by simpa using d)) A2 A3;show⟨g,f1,f2,f3,f4,f5,f6,f7,λi k' u' z=>?_⟩;have⟨B,z⟩:=f8 i k' u' z;by_cases hi:i=j
     .subst hi;have z:(c.st.set i (bD (k0,.lst us)))[i]?=_:=z;rw[fx IY]at z;cases z;show⟨_,s⟩
     .have z:(c.st.set j (bD (k0,.lst us)))[i]?=_:=z;rw[ko (uv hi)]at z;show⟨B,z⟩
    .cases e
   .cases e
end
section
def BR(st:ar)(r:Kd×U):(Bh st r).1=r.1:=by
 unfold Bh;split<;>rfl
theorem cP.US{st:ar}:∀{rs:List (Kd×U)}{vs:List V},cP C d c rs vs->cP C d c (rs.map (Bh st)) vs
 |[],_,h=>h
 |r::rs,vs,h=>by
  have⟨v,t,rfl,e,f,g⟩:=h;show⟨v,t,rfl,?_,cP.US f,λhk i n j a l b=>?_⟩
  .have⟨k,u⟩:=r;cases k<;>show e
  .rw[my,d5]at a;have⟨m,a,rfl⟩:=a;rw[BR]at hk b;show g hk i m j a l b
def BS(h:PA X es (Jn C ms)):PA X es (Jn C (ms >>= FP)):=by
 rintro pos a s σ H Q I ⟨b,rfl,rfl,d,w⟩;show h pos a s b.σ b.H Q I ⟨b,rfl,rfl,d,?_⟩;rw[ah]at w;show w.mono λrs st f c vs g i j n r=>?_;have⟨k,st',e,q⟩:=f;cases e;show q c vs g i j n r.US
def y7(h:Sk r=bD (k,u,ws)):r=(k,.tup (u::ws))/\(k=.own\/k=.loc):=by
 unfold Sk at h;split at h
 .cases h;show⟨rfl,.inl rfl⟩
 .cases h;show⟨rfl,.inr rfl⟩
 .cases h
def y8(hP:C.P=X.prog)(hw:C.w=X.w)(hK:C.K=X.K)(hF:Γ f=F)(hk:∀us r,F us=bD (.ok r)->us.length=np)
  (G:jB X.prog X.w X.K X.mg X.base Nk k fa fd ps (QG X.prog X.w X.K F np is)) (hr:fT k X.A) (hg:Gl X f) (hm:X.mg f=bD (.ref fa)) (Pw:PySem.W.keepIn X.K (.ref fa)=cb) (B:Binds X.K fd ps [])
  (Kp:(f==("__debug__":Str))=cc) (ha:PA X (e::es) (Jn C ms)) (he:lx (e::es) X.env=(cc,JF e X.env)::lx es X.env) (Je:(KW pos (lx es X.env)).any (·.1)=cc) :
  PE X (.Call (.Name f p) (e::es) [] pos) (HR C (ms >>= λrs=>aD rs >>= λ_=>yB Γ f rs is)):=by
 rintro ag s σ H Q I ⟨c0,rfl,rfl,ok,h⟩;show Jo (fq I hg hm ?_ Kp);show PySem.W.callWith_K (h₀:=X.base) I.ok.mod.N2 Pw (HS (args ha I ok h pos) λus s1 ⟨rs,c,vs,t,I1,rv,w⟩=>⟨I1.L0,?_⟩) he Je;have⟨r,st',D,q⟩:=w;unfold yB at D;rw[hF]at D;split at D
 .rename_i r0 e2;split at D
  .rename_i kd u ws eu;split at D
   .rename_i Jm;split at D
    .rename_i st2 Tg;cases D;have⟨rfl,k1⟩:=y7 eu;have k2:=hk _ _ e2;unfold CH at Jm;simp only[cL,r6,Ĝ,Om,wh]at Jm;obtain⟨⟨h1,h2⟩,h3⟩:=Jm;have Y:∀p∈is,∃j xs k r,lR rs p=bD j/\rs[p]?=bD (.bor j,.lst xs)/\fU xs=cb/\Kd.root k=cb/\c.st[j]?=bD (bD (k,.lst xs))/\c.σ[j]?=bD (bD (.ref r))/\vs[p]?=bD (.ref r)/\¬c.S r/\¬C.Kt r/\cY C c.S c.H r (.lst xs):=λp L=>by
      have⟨j,T⟩:=P0.mp (h1 p L);have⟨xs,a1,a2⟩:=wW T;have⟨v,b1,l⟩:=t.UR a1;obtain⟨r,rfl,d1,d2,_,N⟩:=t.ok.rootOf l.1 l.2;have⟨k,m,x⟩:=l.1;show⟨j,xs,k,r,T,a1,a2,m,x,l.2,b1,d1,d2,N⟩
     let IO:eW->Prop:=λa=>∃p∈is,vs[p]?=bD (.ref a);have PM:∀a,IO a->c.R a/\¬c.S a/\¬C.Kt a/\JI c.H a:=λa Ib=>by
      have⟨p,L,e⟩:=Ib;obtain⟨j,xs,k,r,_,_,_,m,x,y,J,g5,g6,g7⟩:=Y p L;rw[e]at J;cases J;obtain⟨o,ho,_⟩:=g7.some;show⟨.inl ⟨j,k,_,m,x,y⟩,g5,g6,o,ho⟩
     let Pr:eW->Prop:=λa=>JI c.H a/\¬IO a;have ab:C.Eqv (LV X.prog X.w X.K c.H Pr IO):=⟨hP,hw,hK⟩
     have Kx:(LV X.prog X.w X.K c.H Pr IO).Eqv C:=⟨hP.symm,hw.symm,hK.symm⟩
     have sP:∀a,c.S a->Pr a:=λa z=>⟨t.ok.yy a z,λz'=>(PM a z').2.1 z⟩
     have gi:∀{i:Nat} {u:U},(rs.map (·.2))[i]?=bD u->∃k,rs[i]?=bD (k,u):=λ{i u} e=>by
      rw[my,d5]at e;obtain⟨⟨k,u'⟩,e,rfl⟩:=e;show⟨k,e⟩
     have ac:Ew (LV X.prog X.w X.K c.H Pr IO) c.H is (rs.map (·.2)) vs:=by
      show⟨by rw[cK];show t.len,λa z=>z,λa z=>(PM a z).2.2.2,λi u O e=>?_,λi u O e=>?_,λi j r O T e3 e4=>?_,λa z=>z⟩
      .obtain⟨j,xs,k,r,_,g0,gm,m,x,y,J,g5,g6,zs,g7,g8⟩:=Y i O;have⟨k',e⟩:=gi e;rw[g0]at e;cases e;show⟨r,J,⟨i,O,J⟩,zs,g7,(aq.Ii gm g8).cg ab⟩
      .have⟨k',e⟩:=gi e;have⟨v,b1,l⟩:=t.UR e;show⟨v,b1,?_⟩;have IY:i<rs.length:=(et.mp e).1;have UT:=(h3 i IY).resolve_left O;rw[O8,e]at UT;show Rep.cg ab (u:=u) ?_;cases k' with
       |own =>
        obtain⟨r,rfl,_,d1,d2,N⟩:=l;obtain⟨o,ho,_⟩:=N.some;show N.rep sP ⟨⟨o,ho⟩,λz=>d2 (PM r z).1⟩
       |loc=>show Rep.mv (.up sP) l
       |any=>show Rep.mv (.up λa z=>z.elim (λz=>⟨t.ok.FO a (.inl z),λz'=>(PM a z').2.2.1 z⟩) (sP a)) l
       |bor j =>
        obtain⟨r,rfl,d1,d2,_,N⟩:=t.ok.rootOf l.1 l.2;obtain⟨o,ho,_⟩:=N.some;show N.rep sP ⟨⟨o,ho⟩,λ⟨p',NK,e'⟩=>?_⟩;obtain⟨j',xs,k2,r2,g,_,_,m,x,y,J,_⟩:=Y p' NK;rw[e']at J;cases J;have⟨k3,z1,z2⟩:=l.1;have:=t.ok.inj j j' k3 k2 _ _ r z1 m z2 x l.2 y;subst this;have:bD j∉is.map (lR rs):=by simpa[CG] using UT
        show this (ez.mpr ⟨p',NK,g⟩)
       |_=>show l.elim
      .obtain⟨j1,_,k1,r1,a0,_,_,a1,a2,a3,a4,_⟩:=Y i O;obtain⟨j2,_,k2,r2,b0,_,_,b1,l,b3,b4,_⟩:=Y j T;rw[e3]at a4;cases a4;rw[e4]at b4;cases b4;have:=t.ok.inj j1 j2 k1 k2 _ _ r a1 b1 a2 l a3 b3;subst this;show map_inj h2 i O j T (by rw[a0,b0])
     have JA:QG X.prog X.w X.K F np is vs c.H (λv H'=>Q v H') E0:=⟨by rw[<-t.len,<-k2,cK],rs.map (·.2),kd,u,ws,Pr,IO,e2,k1,ac,λv H' S' B=>by
      classical
      let H1:Hp:=λa=>if IO a then c.H a else H' a
      have QH:∀a,¬IO a->H1 a=H' a:=λa z=>ğ z;have PL:∀a,S' a->¬IO a:=λa z z'=>by
       have⟨o,ho⟩:=(PM a z').2.2.2;rw[(B.new a z).1]at ho;cases ho
      have PN:qt c.H H1:=λa o e=>by
       by_cases z:IO a
       .change(if IO a then _ else _)=_;rw[ĝ z];show e
       .rw[QH a z];show B.same a o e z
      have⟨HU,n1⟩:=t.ok.grow (H':=H1) (S':=λa=>c.S a\/S' a) PN (λa z=>z.imp id λz=>⟨(B.new a z).1,by rw[QH a (PL a z)];show(B.new a z).2⟩) λa=>.inl;have PQ:∀(n i:Nat) (r:eW),is[n]?=bD i->vs[i]?=bD (.ref r)->∃w,ws[n]?=bD w/\cY (LV X.prog X.w X.K c.H Pr IO) S' H' r w:=λn i r a b=>by
       have hn:n<ws.length:=by rw[B.len];show(et.mp a).1
       show⟨_,Jq hn,B.JR n i r _ a b (Jq hn)⟩
      have⟨cf,f1,f2,f3,f4,f5,f6,f7,f8⟩:=u_ (C:=C) Kx (rs:=rs) (vs:=vs) (H':=H') (S':=S') (S1:=λa=>c.S a\/S' a) (λa=>.inr) (IO:=IO) PL (λa o ⟨i,O,z⟩ e=>by
        have⟨n,hn⟩:=List.getElem?_of_mem O;obtain⟨w,_,g⟩:=PQ n i a hn z;have⟨o',m,x⟩:=g.some;rw[e]at m;cases m;show x) is ws {c with H:=H1,S:=λa=>c.S a\/S' a} st' HU n1.toNs rfl Tg h2 (λp L a z=>⟨p,L,z⟩) (λp L j T=>by
        obtain⟨j',xs,k,r,g0,_,_,m,x,y,J,_⟩:=Y p L;rw[T]at g0;cases g0;show⟨k,_,r,m,x,y,J⟩) (λn i r w a b d=>B.JR n i r w a b d) (λa ha=>QH a λ⟨p,L,z⟩=>ha p L z) QH
      subst f6;have Xe:∀a,cf.R a->c.R a:=λa z=>by
       rcases z with⟨j,k,u,m,x,y⟩|⟨j,u,r,m,x,y⟩
       .have⟨u0,g⟩:=f8 j k u x;rw[f3]at y;show .inl ⟨j,k,u0,m,g,y⟩
       .have⟨u0,g⟩:=f8 j .B' u m;rw[f3]at x;rw[f7]at y;show .inr ⟨j,u0,r,g,x,y⟩
      show q cf v (f3.trans t.hσ) f5 f1 ⟨t.nx.toNs.trans f2⟩ ?_;rcases k1 with rfl|rfl
      .have⟨r,rfl,d1,d2,N⟩:=B.own rfl;obtain⟨_,z1,_,_,z4⟩:=t.ok.lO d1;show⟨r,rfl,t.nx.none d1,by rw[f4];show λz=>z.elim z1 d2,λz=>z4 (Xe r z),(N.cg Kx).mv (.up λa z=>by rw[f4];show .inr z) λo q=>q⟩
      .show((B.loc rfl).cg Kx).mv (.up λa z=>by rw[f4];show .inr z)⟩
     have z:=xX (Q:=Q) G hr B .nil FG I1 rv (by rw[vu];show JA);rw[t.hσ]at z;show z
    .cases D
   .cases D
  .cases D
 .cases D
end
structure Ck where
 fns:List Str
 gl:List (Str×U)
 JR:List (Str×List Nat)
 xc:List Str
 xd:List (Str×Str)
abbrev l7:U->U->Bool
 |.int i,.int j=>df (i=j)
 |.str x,.str y=>df (x=y)
 |.bl a,.bl b=>a==b
 |.HX,.HX=>cb
 |_,_=>cc
def cj(h:l7 u v=cb):u=v:=by
 cases u<;>cases v<;>simp[l7]at h<;>subst_vars<;>rfl
abbrev noStar:oT->Bool
 |.Starred _ _=>cc
 |_=>cb
abbrev eG:oT->Bool
 |.Slice _ _ _ _=>cc
 |_=>cb
abbrev s9:oT->Bool
 |.Set _ _ _=>cc
 |_=>cb
abbrev pI:oT->Bool
 |.Call (.Name _ _) [] [] _=>cc
 |_=>cb
abbrev dN:oT->Bool
 |.ListComp _ _ _ _=>cc
 |.SetComp _ _ _ _=>cc
 |.DictComp _ _ _ _ _=>cc
 |_=>cb
abbrev Ey:oT->Bool
 |.Tuple _ _ _=>cc
 |_=>cb
abbrev Ju(a:Nj)(x:Str):Bool:=df (a.names.lookup x=bD .globalImplicit)
abbrev jk(a:Nj)(x:Str):Bool:=df (a.names.lookup x=bD .local)||decide (a.names.lookup x=bD .cell)||decide (a.names.lookup x=bD .free)
abbrev nz(a:Nj)(x:Str):Bool:=df (a.names.lookup x=bD .local)||decide (a.names.lookup x=bD .cell)
abbrev Gm(a:Nj)(x:Str):Bool:=df (a.names.lookup x=bD .local)
abbrev bx(x:Str):Bool:=!(x==("__debug__":Str))&&!(x==("__classdict__":Str))
abbrev vb(N:List Str)(a:Nj)(fa:Str->Bool)(i:Nat):oT->Bool
 |.Name x _=>df (N[i]?=bD x)&&nz a x&&(fa x||Gm a x)
 |_=>cc
abbrev pJ(N:List Str)(a:Nj)(fa:Str->Bool):List Nat->List oT->Bool
 |[],[]=>cb
 |i::is,e::es=>vb N a fa i e&&pJ N a fa is es
 |_,_=>cc
abbrev ig:oT->List Str
 |.Name x _=>[x]
 |.Tuple es _ _=>es.filterMap fun|.Name x _=>bD x|_=>b7
 |_=>[]
abbrev hide(a N:List Str):List Str:=match a.filter λx=>df (x∈N) with
 |[]=>N
 |[x]=>N.set (N.idxOf x) "."
 |x::y::_=>(N.set (N.idxOf x) ".").set (N.idxOf y) ".."
abbrev Ov(t:Bool)(N:List Str)(a:Nj)(fa:Str->Bool)(is:List Nat):oT->Bool
 |.Name x p=>!t&&(match is with|[i]=>vb N a fa i (.Name x p)|_=>cc)
 |.Tuple es _ _=>t&&pJ N a fa is es&&is.all λi=>df (i<N.length)
 |_=>cc
abbrev isTup:oT->Bool
 |.Tuple _ _ _=>cb
 |_=>cc
abbrev l8(e:oT):Option (Str×List oT):=match e with
 |.Call f as a _=>match f with
  |.Name x _=>if a.isEmpty=cb then bD (x,as) else b7
  |_=>b7
 |_=>b7
def gC(h:l8 e=bD (x,as)):∃p q,e=.Call (.Name x p) as [] q:=by
 unfold l8 at h;split at h
 .split at h
  .split at h
   .rename_i hk;rw[Mp]at hk;cases h;subst hk;show⟨_,_,rfl⟩
   .cases h
  .cases h
 .cases h
abbrev gD(a:Nj)(b:oT)(ik:Ik)(e:oT):Option (List oT):=match ik with
 |.seq=>bD [e]
 |.Iv=>(l8 e).bind λp=>if p.1="range"/\Ju a p.1=cb/\p.2.length=1 then bD p.2 else b7
 |.Mr=>(l8 e).bind λp=>if p.1="range"/\Ju a p.1=cb/\p.2.length=2 then bD p.2 else b7
 |.Nz=>(l8 e).bind λp=>if p.1="enumerate"/\Ju a p.1=cb/\p.2.length=1/\isTup b=cb then bD p.2 else b7
 |_=>b7
abbrev simple:Bf->Bool:=λ_=>cb
abbrev Ez(scope a:Nj):Nj:={scope with names:=scope.names.map λ(n,k)=>if (k==L4&&a.kind==.function&&a.names.lookup n==bD .cell)=cb then(n,.cell) else(n,k)}
abbrev bq(e:oT)(k:Str->Bool):Bool:=match e with|.Name x _=>k x|_=>cc
def au(h:bq e k=cb):∃x p,e=.Name x p/\k x=cb:=by
 unfold bq at h;split at h
 .show⟨_,_,rfl,h⟩
 .cases h
abbrev d7{α:Type}(l:List α)(k:α->Bool):Bool:=match l with|[a]=>k a|_=>cc
def bg(h:d7 l k=cb):∃a,l=[a]/\k a=cb:=by
 unfold d7 at h;split at h
 .show⟨_,rfl,h⟩
 .cases h
abbrev d8(e:oT)(k:oT->List oT->Pos->Bool):Bool:=match e with|.Call f as a p=>a.isEmpty&&k f as p|_=>cc
def ba(h:d8 e k=cb):∃f as p,e=.Call f as [] p/\k f as p=cb:=by
 unfold d8 at h;split at h
 .rename_i f as a p;rw[cL,Mp]at h;have⟨rfl,h⟩:=h;show⟨_,_,_,rfl,h⟩
 .cases h
abbrev s_(e:oT)(k:oT->Str->Pos->Bool):Bool:=match e with|.Attribute o m p=>k o m p|_=>cc
def qU(h:s_ e k=cb):∃o m p,e=.Attribute o m p/\k o m p=cb:=by
 unfold s_ at h;split at h
 .show⟨_,_,_,rfl,h⟩
 .cases h
abbrev y9(e:oT)(k:oT->ZV->oT->Bool):Bool:=match e with|.BinOp a op b _=>k a op b|_=>cc
def tf(h:y9 e k=cb):∃a op b p,e=.BinOp a op b p/\k a op b=cb:=by
 unfold y9 at h;split at h
 .show⟨_,_,_,_,rfl,h⟩
 .cases h
abbrev vc(e:oT)(k:oT->CmpOp->oT->Bool):Bool:=match e with|.Compare a ops bs _=>d7 ops λop=>d7 bs λb=>k a op b|_=>cc
def fF(h:vc e k=cb):∃a op b p,e=.Compare a [op] [b] p/\k a op b=cb:=by
 unfold vc at h;split at h
 .have⟨op,rfl,c⟩:=bg h;have⟨b,rfl,d⟩:=bg c;show⟨_,_,_,_,rfl,d⟩
 .cases h
abbrev gE(e:oT)(k:oT->Str->Pos->List oT->Pos->Bool):Bool:=d8 e λf as b=>s_ f λo m a=>k o m a as b
def cy(h:gE e k=cb):∃o m a as b,e=.Call (.Attribute o m a) as [] b/\k o m a as b=cb:=by
 have⟨f,as,p,rfl,h⟩:=ba h;have⟨o,m,q,rfl,h⟩:=qU h;show⟨_,_,_,_,_,rfl,h⟩
abbrev kf(e:oT)(k:oT->oT->Bool):Bool:=match e with|.Subscript a b _=>k a b|_=>cc
def dh(h:kf e k=cb):∃a b p,e=.Subscript a b p/\k a b=cb:=by
 unfold kf at h;split at h
 .show⟨_,_,_,rfl,h⟩
 .cases h
abbrev Th:E->Bool
 |.var _=>cb
 |.cst _=>cb
 |_=>cc
abbrev oi{α:Type}(l:List α)(k:α->α->Bool):Bool:=match l with|[a,b]=>k a b|_=>cc
def d9(h:oi l k=cb):∃a b,l=[a,b]/\k a b=cb:=by
 unfold oi at h;split at h
 .show⟨_,_,rfl,h⟩
 .cases h
abbrev y_(e:oT)(k:Const->Bool):Bool:=match e with|.Constant c _ _=>k c|_=>cc
def l9(h:y_ e k=cb):∃c q p,e=.Constant c q p/\k c=cb:=by
 unfold y_ at h;split at h
 .show⟨_,_,_,rfl,h⟩
 .cases h
abbrev HD:Const->Option U
 |.int j=>bD (.int j)
 |.str y=>bD (.str y)
 |.bool y=>bD (.bl y)
 |.none=>bD .HX
 |_=>b7
abbrev HE(u:U)(c:Const):Bool:=match HD c with|some v=>l7 u v|none=>cc
abbrev BU(e:oT)(op:BoolOp)(k:List oT->Bool):Bool:=match e with|.BoolOp o es _=>df (o=op)&&k es|_=>cc
def gR(h:BU e op k=cb):∃es p,e=.BoolOp op es p/\k es=cb:=by
 unfold BU at h;split at h
 .rw[cL,Ĝ]at h;have⟨rfl,h⟩:=h;show⟨_,_,rfl,h⟩
 .cases h
abbrev EA(e:oT)(op:UnaryOp)(k:oT->Bool):Bool:=match e with|.UnaryOp o a _=>df (o=op)&&k a|_=>cc
def oj(h:EA e op k=cb):∃a p,e=.UnaryOp op a p/\k a=cb:=by
 unfold EA at h;split at h
 .rw[cL,Ĝ]at h;have⟨rfl,h⟩:=h;show⟨_,_,rfl,h⟩
 .cases h
abbrev vd(e:oT)(k:List oT->Bool):Bool:=match e with|.Tuple l _ _=>k l|_=>cc
def l_(h:vd e k=cb):∃l q p,e=.Tuple l q p/\k l=cb:=by
 unfold vd at h;split at h
 .show⟨_,_,_,rfl,h⟩
 .cases h
abbrev za(e:oT)(k:List oT->Bool):Bool:=match e with|.List l _=>k l|_=>cc
def tm(h:za e k=cb):∃l p,e=.List l p/\k l=cb:=by
 unfold za at h;split at h
 .show⟨_,_,rfl,h⟩
 .cases h
abbrev BV(e:oT):Bool:=match e with|.Dict a b _=>a.isEmpty&&b.isEmpty|_=>cc
def om(h:BV e=cb):∃p,e=.Dict [] [] p:=by
 unfold BV at h;split at h
 .rw[cL,Mp,Mp]at h;have⟨rfl,rfl⟩:=h;show⟨_,rfl⟩
 .cases h
abbrev zb(e:oT)(k:Option oT->Option oT->Bool):Bool:=match e with|.Slice a b c _=>c.isNone&&k a b|_=>cc
def tq(h:zb e k=cb):∃a b p,e=.Slice a b b7 p/\k a b=cb:=by
 unfold zb at h;split at h
 .rw[cL,R5]at h;have⟨rfl,h⟩:=h;show⟨_,_,_,rfl,h⟩
 .cases h
abbrev EB(e:oT)(k:List oT->Bool):Bool:=match e with|.JoinedStr l _=>(match l with|_::_::_=>cb|_=>cc)&&k l|_=>cc
def wX(h:EB e k=cb):∃a b l p,e=.JoinedStr (a::b::l) p/\k (a::b::l)=cb:=by
 unfold EB at h;split at h
 .rw[cL]at h;have⟨c,h⟩:=h;split at c
  .show⟨_,_,_,_,rfl,h⟩
  .cases c
 .cases h
abbrev EC(e:oT)(k:oT->oT->oT->List oT->Nj->Bool):Bool:=match e with|.ListComp elt a b _=>d7 a λg=>df (g.is_async=0)&&k elt g.target g.iter g.ifs b|_=>cc
def jN(h:EC e k=cb):∃elt d a b f p,e=.ListComp elt [⟨d,a,b,0⟩] f p/\k elt d a b f=cb:=by
 unfold EC at h;split at h
 .obtain⟨⟨d,a,b,z⟩,rfl,c⟩:=bg h;rw[cL,Ĝ]at c;have⟨rfl,c⟩:=c;show⟨_,_,_,_,_,_,rfl,c⟩
 .cases h
abbrev isNm(e:oT)(n:Str):Bool:=bq e λx=>df (x=n)
def gS(h:isNm e n=cb):∃p,e=.Name n p:=by
 have⟨x,p,e,z⟩:=au h;show⟨p,Ģ z▸e⟩
abbrev BW(v:oT)(f:Str)(k:List oT->Bool):Bool:=d8 v λg as _=>isNm g f&&k as
def jO(h:BW v f k=cb):∃as p q,v=.Call (.Name f p) as [] q/\k as=cb:=by
 have⟨g,as,q,rfl,z⟩:=ba h;rw[cL]at z;have⟨p,rfl⟩:=gS z.1;show⟨as,p,q,rfl,z.2⟩
mutual
noncomputable def bH(k:Ck):E->List Str->Nj->oT->Bool
 |.var i,N,d,g=>bq g λx=>df (N[i]?=bD x)&&jk d x&&bx x
 |.cst u,N,d,g=>y_ g λc=>HE u c
 |.L_ x u,N,d,g=>bq g λy=>df (x=y)&&Ju d x&&bx x&&k.gl.any λp=>df (p.1=x)&&l7 p.2 u
 |.bin op a b,N,d,g=>y9 g λa' v j=>df (op.op=v)&&bH k a N d a'&&bH k b N d j
 |.cmp op a b,N,d,g=>vc g λa' v j=>df (op.op=v)&&!OZ v j&&bH k a N d a'&&bH k b N d j
 |.LJ _ _ _ _ _,_,_,_=>cc
 |.and es,N,d,g=>BU g .And λh=>aL k es N d h
 |.or es,N,d,g=>BU g .Or λh=>aL k es N d h
 |.not a,N,d,g=>EA g .Not λa'=>bH k a N d a'
 |.ite _ _ _,_,_,_=>cc
 |.neg _,_,_,_=>cc
 |.bad,_,_,_=>cb
 |.LK f es is,N,d,g=>d8 g λf' h _=>bq f' λx=>df (x=f)&&df ((f,is)∈k.JR)&&Ju d x&&bx x&&!h.isEmpty&&aL k es N d h
 |.inD neg a i,N,d,g=>vc g λa' v j=>bq j λx=>df (yW neg=v)&&!OZ v j&&df (N[i]?=bD x)&&jk d x&&bx x&&bH k a N d a'
 |.Oh i,N,d,g=>bq g λx=>df (N[i]?=bD x)&&jk d x&&bx x
 |.Kv i a b,N,d,g=>gE g λo m q as w=>bq o λx=>oi as λa' j=>df (m="get")&&df (N[i]?=bD x)&&jk d x&&bx x&&(q.endLine==w.line)&&noStar a'&&noStar j&&bH k a N d a'&&bH k b N d j
 |.Oi i,N,d,g=>d8 g λf' as _=>bq f' λf=>d7 as λc=>gE c λo m q bs w=>bq o λx=>bs.isEmpty&&df (f="sorted")&&Ju d f&&df (m="items")&&df (N[i]?=bD x)&&jk d x&&bx x&&(q.endLine==w.line)
 |.Qu _ _ _,_,_,_=>cc
 |.fst es,N,d,g=>EB g λl=>wY k es N d l
 |.Ms a T,N,d,g=>d8 g λf' as _=>bq f' λx=>oi as λa' j=>bq j λy=>df (x="isinstance")&&df (y=T.name)&&Ju d x&&Ju d y&&noStar a'&&bH k a N d a'
 |.tup es,N,d,g=>vd g λh=>aL k es N d h
 |.lst es,N,d,g=>za g λh=>aL k es N d h
 |.JC _,N,d,g=>BV g
 |.idx a b,N,d,g=>kf g λa' j=>eG j&&bH k a N d a'&&bH k b N d j
 |.JJ a lo A,N,d,g=>kf g λa' j=>zb j λB C=>bH k a N d a'&&tu k lo N d B&&tu k A N d C
 |.bi f es,N,d,g=>d8 g λf' h _=>bq f' λx=>df (x=f.name)&&simple f&&Ju d x&&!h.isEmpty&&aL k es N d h
 |.Ma f es,N,d,g=>d8 g λf' as _=>bq f' λx=>d7 as λc=>d8 c λg' h _=>bq g' λy=>df (x=f.pD)&&df (y=f.jh)&&Ju d x&&Ju d y&&!h.isEmpty&&aL k es N d h
 |.J6 m a es,N,d,g=>gE g λo name q h w=>df (name=m.name)&&pI o&&(q.endLine==w.line)&&!h.isEmpty&&df (h.length<20)&&bH k a N d o&&aL k es N d h
 |.call f es,N,d,g=>d8 g λf' h _=>bq f' λx=>df (x=f)&&df (f∈k.fns)&&Ju d x&&bx x&&!h.isEmpty&&aL k es N d h
 |.comp n t ik src cond e,N,d,g=>EC g λelt r s z scope =>
   df ((ig r).length=n)&&DF (ig r++hide (ig r) N) (ig r) scope d.names&&Ov t (ig r++hide (ig r) N) (Ez scope d) (λx=>df (scope.names.lookup x=bD .cell)) (js n) r&&s9 s &&
   (match gD d r ik s with
    |some as=>aL k src N d as
    |none=>cc) &&
   df (z.length<=1)&&aL k cond (ig r++hide (ig r) N) (Ez scope d) z&&bH k e (ig r++hide (ig r) N) (Ez scope d) elt
noncomputable def wY(k:Ck):List E->List Str->Nj->List oT->Bool
 |[],_,_,a=>a.isEmpty
 |e::es,N,b,a=>match a with
  |.FormattedValue v (-1) b7 _::a=>bH k e N b v&&wY k es N b a
  |.Constant (.str y) _ _::a=>(match e with|.cst u=>l7 u (.str y)|_=>cc)&&wY k es N b a
  |_=>cc
noncomputable def aL(k:Ck):List E->List Str->Nj->List oT->Bool
 |[],_,_,a=>a.isEmpty
 |e::es,N,b,a=>match a with
  |e'::a=>noStar e'&&bH k e N b e'&&aL k es N b a
  |[]=>cc
noncomputable def tu(k:Ck):List E->List Str->Nj->Option oT->Bool
 |[],_,_,o=>o.isNone
 |[e],N,a,o=>match o with
  |some b=>bH k e N a b
  |none=>cc
 |_::_::_,_,_,_=>cc
end
abbrev bT:List Str:=["len","sorted","repr","max","min","all","any","list","tuple","str","int","range","enumerate","zip","reversed","set","dict","sum","isinstance","bool"]
structure Ow(ck:Ck)(K:PySem.W.Frag)(mg:Str->Option d4):Prop where
 xc:∀x∈ck.xc,∃C,mg x=bD (.ref C)/\PySem.W.nsIn K ro x=bD (bD (.ref C))/\PySem.W.excIn K C Og "ValueError.__new__"=cb
 xd:∀p∈ck.xd,∃C D,mg p.1=bD (.ref C)/\PySem.W.nsIn K ro p.1=bD (bD (.ref C))/\mg p.2=bD (.ref D)/\PySem.W.exmOne K (.ref C) (.ref D)=bD cb
structure BX(P:w6)(w:Ie)(K:PySem.W.Frag)(mg:Str->Option d4)(base:Ks)(d:Nat)(F:List U->Option (Ex (Kd×U)))(f:Str):Prop where
 ex:∃(np:Nat) (fa:eW) (fd:SN) (ps:List Str),jB P w K mg base (Ny P w) d fa fd ps (spT P w K F np)/\mg f=bD (.ref fa)/\PySem.W.keepIn K (.ref fa)=cb/\Binds K fd ps []/\(∀us k u,F us=bD (.ok (k,u))->(k=.own\/k=.loc\/k=.any)/\us.length=np)/\∀us c,F us=bD (.exc c)->us.length=np
structure BY(P:w6)(w:Ie)(K:PySem.W.Frag)(mg:Str->Option d4)(base:Ks)(d:Nat)(F:List U->Option (Ex (Kd×U)))(f:Str)(is:List Nat):Prop where
 ex:∃(np:Nat) (fa:eW) (fd:SN) (ps:List Str),jB P w K mg base Nk d fa fd ps (QG P w K F np is)/\mg f=bD (.ref fa)/\PySem.W.keepIn K (.ref fa)=cb/\Binds K fd ps []/\∀us r,F us=bD (.ok r)->us.length=np
structure Gd(ck:Ck)(Γ:Tab)(C:Ct)(d:Nat)(X:Cx):Prop where
 P:C.P=X.prog
 w:C.w=X.w
 K:C.K=X.K
 u:X.A.units+60<IF
 calm:X.calm=cb
 room:fT d X.A
 blt:∀x∈bT,X.mg x=b7
 fns:∀f∈ck.fns,BX X.prog X.w X.K X.mg X.base d (Γ f) f
 KS:∀p∈ck.gl,∃val v,X.mg p.1=bD val/\RelV v val/\∀S H,Rep C S H p.2 v
 JR:∀p∈ck.JR,BY X.prog X.w X.K X.mg X.base d (Γ p.1) p.1 p.2
def Gd.cx(g:Gd ck Γ C d X)(N:List Str)(a:Nj)(D:eW)(s:hY)(H:Hp)(ex:List eW):Gd ck Γ C d (Ja X N a D s H ex) :=
 ⟨g.P,g.w,g.K,g.u,g.calm,g.room,g.blt,g.fns,g.KS,g.JR⟩
def cJ(h:jk a x=cb):J0 a x:=by
 unfold jk at h;simp only[Om,Ĝ]at h;rcases h with(h|h)|h
 .show .inl h
 .show .inr (.inl h)
 .show .inr (.inr h)
def aG(h:bx x=cb):(x==("__debug__":Str))=cc/\(x==("__classdict__":Str))=cc:=by
 unfold bx at h;simpa using h
def bc(h:noStar e=cb):lx (e::es) env=(cc,JF e env)::lx es env:=by
 cases e<;>first|rfl|cases h
def qV(h:eG e=cb):oP e:=by
 intro o i;cases e<;>first|rfl|cases h
def tv(h:s9 e=cb):∀x,Ni e env x=pure x:=by
 intro x;cases e<;>first|rfl|cases h
def kP(h:pI o=cb):VM o name env a=a:=by
 cases o with
 |Call f as ks p =>
  cases f with
  |Name x q=>cases as with
   |nil=>cases ks with
    |nil=>cases h
    |cons _ _=>rfl
   |cons _ _=>rfl
  |_=>rfl
 |_=>rfl
def bu(h:∀e∈es,noStar e=cb):(KW pos (lx es env)).any (·.1)=cc/\(KW pos (lx es env)).all (λx=>!x.1)=cb:=by
 induction es with
 |nil=>show⟨rfl,rfl⟩
 |cons e es a =>
  rw[bc (h e (by simp))];have:=a λb c=>h b (by simp[c]);constructor
  .change(cc||(KW pos (lx es env)).any (·.1))=cc;rw[this.1];rfl
  .change(!cc&&(KW pos (lx es env)).all (λx=>!x.1))=cb;rw[this.2];rfl
def cQ(h:aL k es N c a=cb):∀e∈a,noStar e=cb:=by
 induction es generalizing a with
 |nil =>
  cases a with
  |nil=>intro e he;cases he
  |cons _ _=>simp[aL]at h
 |cons x es b =>
  cases a with
  |nil=>intro e he;cases he
  |cons d a =>
   simp only[aL,cL]at h;intro e he;rcases d6.mp he with rfl|he
   .show h.1.1
   .show b h.2 e he
def oo(a:∀x,fa x=cb->X.fn x=cb)(h:vb X.N X.env.scope fa i e=cb):sV X e i:=by
 cases e with
 |Name x p =>
  simp only[vb,cL,Ĝ,nz,Om,Gm]at h;show⟨x,p,rfl,h.1.1,?_,?_⟩
  .rcases h.1.2 with z|z
   .show .inl z
   .show .inr z
  .rcases h.2 with z|z
   .show .inl (a x z)
   .show .inr z
 |_=>cases h
theorem mj(a:∀x,fa x=cb->X.fn x=cb):∀{is:List Nat}{es:List oT},pJ X.N X.env.scope fa is es=cb->fD X es is
 |[],[],_=>.nil
 |[],_::_,h=>by cases h
 |_::_,[],h=>by cases h
 |i::is,e::es,h=>by
  simp only[pJ,cL]at h;show .cons (oo a h.1) (mj a h.2)
def vf(d:X.calm=cb)(e:C.K=X.K)(a:X.N.Nodup)(b:∀x,fa x=cb->X.fn x=cb)(h:Ov t X.N X.env.scope fa is c=cb):PG X c (tG C t is):=by
 cases c with
 |Name x p =>
  simp only[Ov,cL,uk]at h;have⟨rfl,h⟩:=h;cases is with
  |nil=>cases h
  |cons i is=>cases is with
   |nil=>show El a (oo b h)
   |cons _ _=>cases h
 |Tuple es k p =>
  simp only[Ov,cL,r6,Ĝ]at h;obtain⟨⟨rfl,f⟩,g⟩:=h;show F0 d e a (mj b f) g
 |_=>cases h
def oq(a N:List Str):eN ((a++hide a N).drop a.length) N:=by
 rw[Wv rfl];unfold hide;split
 .show .refl N
 .show(eN.refl N).set _ (.inl rfl)
 .show((eN.refl N).set _ (.inl rfl)).set _ (.inr rfl)
abbrev Bf.Ye:Bf->Bool
 |.len=>cb|.sorted=>cb|.repr=>cb|.max=>cb|.min=>cb|.all=>cb|.any=>cb|_=>cc
abbrev Bf.id:Bf->String
 |.len=>"len"|.sorted=>"sorted"|.repr=>"repr"|.max=>"max"|.min=>"min"|.all=>"all"|.any=>"any"
 |.list=>"list"|.tuple=>"tuple"|.str=>"str"|.int=>"int"
 |.dict=>"dict"
def BZ:∀f:Bf,simple f=cb->JM f.name=bD f.val/\f.name∈bT/\f.name≠"__name__"/\(f.name==("__debug__":Str))=cc:=by
 intro f h;cases f<;>first|show⟨by decide +kernel,by decide +kernel,by decide +kernel,by decide +kernel⟩|(cases h;done)
def ED:∀f:Bf,simple f=cb->(f.val=.builtin f.id\/f.val=.type f.id):=by
 intro f h;cases f<;>first|show .inl rfl|show .inr rfl|(cases h;done)
def EF:∀f:B2,f.pD∈bT/\f.jh∈bT:=by
 intro f;cases f<;>show⟨by decide +kernel,by decide +kernel⟩
def B0:∀f:Mf,Slot "str" f.name f.id/\YG (.builtin f.id)=pure (.type "method_descriptor"):=by
 intro f;cases f with
 |split=>show⟨PySem.F.slot_str_split,PySem.F.type_str_split⟩
 |join=>show⟨PySem.F.slot_str_join,PySem.F.type_str_join⟩
 |partition=>show⟨PySem.F.slot_str_partition,PySem.F.type_str_partition⟩
 |endswith=>show⟨PySem.F.slot_str_endswith,PySem.F.type_str_endswith⟩
section
def cR(h:Ju X.env.scope x=cb):Gl X x:=by
 unfold Ju at h;change X.env.kindOf x=bD .globalImplicit;show Ģ h
def B1:("enumerate":Str)∈bT:=by decide +kernel
def mn:("isinstance":Str)∈bT:=by decide +kernel
def zc(T:J5):T.name∈bT:=by cases T<;>decide +kernel
def vg:("range":Str)∈bT:=by decide +kernel
def CN(g:Gd ck Γ C d X)(h:gD X.env.scope n ik i=bD as)(m:PA X as (Jn C (bL Γ src)))(o:∀a,as=[a]->∃e,src=[e]/\PE X a (HR C (ev Γ e)))(k:∀e∈as,noStar e=cb):PI X n i (LP C ik (bL Γ src)):=by
 unfold gD at h;split at h
 .cases h;have⟨e,rfl,r⟩:=o _ rfl;show Ej g.K r
 .rw[nH]at h;obtain⟨⟨x,bs⟩,j,h⟩:=h;split at h
  .rename_i hh;cases h;have⟨c,f,hl⟩:=hh
   dsimp only at c f hl
   subst c;have⟨p,q,rfl⟩:=gC j;have⟨b,rfl⟩:=YC.mp hl;show BH (cR f) (g.blt _ vg) (bc (k _ (by simp))) m
  .cases h
 .rw[nH]at h;obtain⟨⟨x,bs⟩,j,h⟩:=h;split at h
  .rename_i hh;cases h;have⟨c,f,hl⟩:=hh
   dsimp only at c f hl
   subst c;have⟨p,q,rfl⟩:=gC j;obtain⟨b,l,rfl⟩:∃b l,bs=[b,l]:=by match bs,hl with|[b,l],_=>show⟨b,l,rfl⟩
   have s1:=bc (env:=X.env) (es:=[]) (k _ (show _∈[_,_] from kj _ lg));show BI (cR f) (g.blt _ vg) (by rw[bc (k _ lg),s1];rfl) s1 m
  .cases h
 .rw[nH]at h;obtain⟨⟨x,bs⟩,j,h⟩:=h;split at h
  .rename_i hh;cases h;have⟨c,f,hl,s⟩:=hh
   dsimp only at c f hl
   subst c;have⟨p,q,rfl⟩:=gC j;have⟨b,rfl⟩:=YC.mp hl;cases n with
   |Tuple es t ps=>show Ek g.K (cR f) (g.blt _ B1) (bc (k _ (by simp))) m
   |_=>cases s
  .cases h
 .cases h
def Gd.Lh(g:Gd ck Γ C d X):Gd ck Γ C d X.Lh :=
 ⟨g.P,g.w,g.K,g.u,g.calm,g.room,g.blt,g.fns,g.KS,g.JR⟩
def CO{a:M α}{b:α->M β}{c:α->M γ}{g:γ->M δ}{st:ar}{Q:δ->ar->Prop}(w:W (a >>= λx=>b x >>= λ_=>c x >>= g) st Q):W ((a >>= λx=>b x >>= λ_=>c x) >>= g) st Q:=by
 simp only[ah]at w ⊢;show w
def bU:PT X e (Jr C M.fail):=λa s σ H Q I ⟨_,_,_,_,w⟩=>(bp.mp w).elim
def pK:PE X e (HR C M.fail):=λa s σ H Q I ⟨_,_,_,_,w⟩=>(bp.mp w).elim
def PT.eqv(h:PT X e (Jr C m))(i:∀st Q,W a st Q->W m st Q):PT X e (Jr C a):=PT.weak h λσ H Q ⟨b,c,d,f,w⟩=>⟨b,c,d,f,i _ _ w⟩
def Gn(g:Gd ck Γ C d X)(b:PA X a (Jn C (bL Γ es)))
  (h:(df (x=f.name)&&simple f&&Ju X.env.scope x&&!a.isEmpty&&aL ck es X.N X.env.scope a)=cb):PE X (.Call (.Name x p) a [] pos) (HR C (ev Γ (.bi f es))):=by
 simp only[cL,Ĝ,uk]at h;obtain⟨⟨⟨⟨rfl,c⟩,i⟩,m⟩,n⟩:=h;have⟨b1,j,b3,b4⟩:=BZ f c;have k:=cQ n;cases a with
 |nil=>cases m
 |cons o l =>
  have st:=bc (env:=X.env) (es:=l) (k o (by simp));have sn:=(bu (pos:=pos) (env:=X.env) (es:=l) λe q=>k e (by simp[q])).1;rcases ED f c with hv|hv
  .show Bz g.calm g.K g.room.gd g.u hv (cR i) (g.blt _ j) (by rw[b1,hv]) b3 b4 b st sn
  .show BA g.calm g.K g.room.gd g.u hv (cR i) (g.blt _ j) (by rw[b1,hv]) b3 b4 b st sn
def Gp(g:Gd ck Γ C d X)(i:PA X a (Jn C (bL Γ es)))
  (h:(df (x=f.pD)&&df (y=f.jh)&&Ju X.env.scope x&&Ju X.env.scope y&&!a.isEmpty&&aL ck es X.N X.env.scope a)=cb):PE X (.Call (.Name x p) [.Call (.Name y p2) a [] pos2] [] pos) (HR C (ev Γ (.Ma f es))):=by
 simp only[cL,Ĝ,uk]at h;obtain⟨⟨⟨⟨⟨rfl,rfl⟩,j⟩,k⟩,l⟩,m⟩:=h;have⟨b1,n⟩:=EF f;have b:=cQ m;cases a with
 |nil=>cases l
 |cons o c =>
  have st:=bc (env:=X.env) (es:=c) (b o (by simp));have sn:=(bu (pos:=pos2) (env:=X.env) (es:=c) λe q=>b e (by simp[q])).1;show BG g.calm g.K (cR j) (g.blt _ b1) (cR k) (g.blt _ n) i st sn
def Gq(g:Gd ck Γ C d X)(l:PE X o (HR C (ev Γ a)))(n:PA X b (Jn C (bL Γ es)))
  (h:(df (name=m.name)&&pI o&&(c.endLine==i.line)&&!b.isEmpty&&df (b.length<20)&&bH ck a X.N X.env.scope o&&aL ck es X.N X.env.scope b)=cb):PE X (.Call (.Attribute o name c) b [] i) (HR C (ev Γ (.J6 m a es))):=by
 simp only[cL,Ĝ,uk]at h;obtain⟨⟨⟨⟨⟨⟨rfl,p⟩,q⟩,r⟩,s⟩,v⟩,t⟩:=h;have j:=cQ t;have⟨s1,s2⟩:=B0 m;cases b with
 |nil=>cases r
 |cons k f =>
  have st:=bc (env:=X.env) (es:=f) (j k (by simp));have sn:=(bu (pos:=i) (env:=X.env) (es:=f) λe u=>j e (by simp[u])).1;have sa:=(bu (pos:=i) (env:=X.env) (es:=k::f) j).2;show BE g.K s1 s2 l n (kP p) ?_ q st sn;rw[sa];have:(k::f).length+([]:List O9).length+(if ([]:List O9).isEmpty=cb then 0 else 1)<30:=by simp at s ⊢;lia
  simp only[Ġ this];rfl
def zd(g:Gd ck Γ C d X)(i:PA X a (Jn C (bL Γ es)))
  (h:(df (x=f)&&df (f∈ck.fns)&&Ju X.env.scope x&&bx x&&!a.isEmpty&&aL ck es X.N X.env.scope a)=cb):PE X (.Call (.Name x p) a [] pos) (HR C (ev Γ (.call f es))):=by
 simp only[cL,Ĝ,uk]at h;obtain⟨⟨⟨⟨⟨rfl,j⟩,k⟩,l⟩,m⟩,n⟩:=h;have b:=cQ n;obtain⟨y,fa,z,ps,o,q,r,s,t,_⟩:=(g.fns _ j).ex;cases a with
 |nil=>cases m
 |cons u c =>
  have st:=bc (env:=X.env) (es:=c) (b u (by simp));have sn:=(bu (pos:=pos) (env:=X.env) (es:=c) λe v=>b e (by simp[v])).1;show yM g.P g.w g.K rfl t o g.room (cR k) q r s (aG l).1 i st sn
def EG(g:Gd ck Γ C d X)(i:PA X a (Jn C (bL Γ es)))
  (h:(df (x=f)&&df ((f,is)∈ck.JR)&&Ju X.env.scope x&&bx x&&!a.isEmpty&&aL ck es X.N X.env.scope a)=cb):PE X (.Call (.Name x p) a [] pos) (HR C (ev Γ (.LK f es is))):=by
 simp only[cL,Ĝ,uk]at h;obtain⟨⟨⟨⟨⟨rfl,j⟩,k⟩,l⟩,m⟩,n⟩:=h;have b:=cQ n;have⟨y,fa,z,ps,o,q,r,s,t⟩:=(g.JR _ j).ex;cases a with
 |nil=>cases m
 |cons u c =>
  have st:=bc (env:=X.env) (es:=c) (b u (by simp));have sn:=(bu (pos:=pos) (env:=X.env) (es:=c) λe v=>b e (by simp[v])).1;show y8 g.P g.w g.K rfl t o g.room (cR k) q r s (aG l).1 (BS i) st sn
def d_(h:(b&&aL k es N a c)=cb):aL k es N a c=cb:=(JL.mp h).2
mutual
theorem bI:∀(e:E) (X:Cx) (q:oT),Gd ck Γ C d X->bH ck e X.N X.env.scope q=cb->PE X q (HR C (ev Γ e))
 |.var i,X,q,g,h=>by
  have⟨x,B,rfl,k⟩:=au h;clear h;have h:=k;simp only[cL,Ĝ]at h;have⟨L,O⟩:=aG h.2;show pB h.1.1 (cJ h.1.2) L O
 |.cst u,X,q,g,h=>by
  have⟨c,q0,B,rfl,k⟩:=l9 h;cases c with
  |int j=>have:=cj k;subst this;show jf xN λ_ _=>rfl
  |str y=>have:=cj k;subst this;show jf r9 λ_ _=>rfl
  |bool y=>have:=cj k;subst this;show jf Cz λ_ _=>rfl
  |none=>have:=cj k;subst this;show jf xO λ_ _=>rfl
  |_=>cases k
 |.L_ x u,X,q,g,h=>by
  have⟨y,B,rfl,k⟩:=au h;clear h;have h:=k;simp only[cL,Ĝ,Rg]at h;obtain⟨⟨⟨rfl,J⟩,Y⟩,p,hp,e1,e2⟩:=h;have:=cj e2;subst this e1;have⟨val,v,q1,q2,q3⟩:=g.KS p hp;show jf (Aw (cR J) q1 q2 (aG Y).1) q3
 |.bin op a b,X,q,g,h=>by
  have⟨a',Lq,b',B,rfl,k⟩:=tf h;clear h;have h:=k;simp only[cL,Ĝ]at h;obtain⟨⟨rfl,J⟩,Y⟩:=h;show Bm g.K (bI a X _ g J) (bI b X _ g Y)
 |.cmp op a b,X,q,g,h=>by
  have⟨a',Lq,b',B,rfl,A⟩:=fF h;have h:=A;simp only[cL,Ĝ,uk]at h;obtain⟨⟨⟨rfl,h0⟩,J⟩,Y⟩:=h;show Bn g.P g.w g.K g.u (bI a X _ g J) (bI b X _ g Y) h0
 |.LJ o1 o2 a b c,X,q,g,h=>absurd (show cc=cb from h) l'
 |.and es,X,q,g,h=>by
  have⟨HL,B,rfl,k⟩:=gR h;clear h;have h:=k;show ze es X _ g h
 |.or es,X,q,g,h=>by
  have⟨HL,B,rfl,k⟩:=gR h;clear h;have h:=k;show CP es X _ g h
 |.not a,X,q,g,h=>by
  have⟨a',B,rfl,k⟩:=oj h;clear h;have h:=k;show Bp (bI a X _ g h)
 |.neg a,X,q,g,h=>absurd (show cc=cb from h) l'
 |.bad,X,q,g,h=>pK
 |.LK f es is,X,q,g,h=>by
  have⟨f',as,B,rfl,A⟩:=ba h;have⟨x,p1,rfl,G⟩:=au A;show EG g (jP es X _ g (d_ G)) G
 |.inD neg a i,X,q,g,h=>by
  have⟨a',Lq,b',B,rfl,A⟩:=fF h;have⟨x,p1,rfl,G⟩:=au A;have h:=G;simp only[cL,Ĝ,uk]at h;obtain⟨⟨⟨⟨⟨rfl,h0⟩,J⟩,Y⟩,L⟩,O⟩:=h;have⟨q1,q2⟩:=aG L;show BM g.u J (cJ Y) q1 q2 (bI a X _ g O) h0
 |.Oh i,X,q,g,h=>by
  have⟨x,B,rfl,k⟩:=au h;clear h;have h:=k;simp only[cL,Ĝ]at h;have⟨L,O⟩:=aG h.2;show BL h.1.1 (cJ h.1.2) L O
 |.Kv i a b,X,q,g,h=>by
  have⟨o,m,ab,as,G',rfl,A⟩:=cy h;have⟨x,px,rfl,G⟩:=au A;have⟨a',b',rfl,z3⟩:=d9 G;clear h A;have G:=z3;simp only[cL,Ĝ]at G;obtain⟨⟨⟨⟨⟨⟨⟨⟨rfl,J⟩,Y⟩,L⟩,O⟩,h5⟩,h6⟩,h7⟩,h8⟩:=G;have⟨q1,q2⟩:=aG L;have sa:=bu (pos:=G') (env:=X.env) (es:=[a',b']) λe he=>by
   rcases d6.mp he with rfl|he
   .show h5
   .simp at he;subst he;show h6
  show yZ g.u J (cJ Y) q1 q2 (bI a X _ g h7) (bI b X _ g h8) ⟨rfl,by rw[sa.2];rfl,O,by rw[bc h5,bc h6];rfl⟩
 |.Oi i,X,q,g,h=>by
  obtain⟨f',as,_,rfl,A⟩:=ba h;obtain⟨f,_,rfl,G⟩:=au A;have⟨c,rfl,z3⟩:=bg G;have⟨o,m,ab,bs,G',rfl,z4⟩:=cy z3;have⟨x,px,rfl,z5⟩:=au z4;simp only[cL,Ĝ,Mp]at z5;obtain⟨⟨⟨⟨⟨⟨⟨rfl,rfl⟩,J⟩,rfl⟩,L⟩,O⟩,h5⟩,h6⟩:=z5;have⟨q1,q2⟩:=aG h5;show BQ g.calm g.K (cR J) (g.blt _ (by decide +kernel)) L (cJ O) q1 q2 h6
 |.Qu ln a b,X,q,g,h=>pK
 |.fst es,X,q,g,h=>by
  have⟨e1,e2,l,B,rfl,k⟩:=wX h;clear h;have h:=k;show BD (EH es X _ g h ri (by decide))
 |.Ms a T,X,q,g,h=>by
  have⟨f',as,B,rfl,A⟩:=ba h;have⟨x,p1,rfl,G⟩:=au A;clear h A;have⟨a',b',rfl,z4⟩:=d9 G;have⟨y,p2,rfl,z3⟩:=au z4;have h:=z3;simp only[cL,Ĝ]at h;obtain⟨⟨⟨⟨⟨rfl,rfl⟩,J⟩,Y⟩,L⟩,O⟩:=h;show u6 g.K (cR J) (g.blt _ mn) (cR Y) (g.blt _ (zc T)) (bI a X _ g O) (bc L)
 |.ite c a b,X,q,g,h=>absurd (show cc=cb from h) l'
 |.tup es,X,q,g,h=>by
  have⟨l,q0,B,rfl,k⟩:=l_ h;clear h;have h:=k;show Bt (jP es X _ g h)
 |.lst es,X,q,g,h=>by
  have⟨l,B,rfl,k⟩:=tm h;clear h;have h:=k;show Bu (jP es X _ g h)
 |.JC r,X,q,g,h=>by
  have⟨B,rfl⟩:=om h;show yL g.P g.w r
 |.idx a b,X,q,g,h=>by
  have⟨a',b',B,rfl,k⟩:=dh h;clear h;have h:=k;simp only[cL]at h;show Bv g.K g.u (qV h.1.1) (bI a X _ g h.1.2) (bI b X _ g h.2)
 |.JJ a lo hi,X,q,g,h=>by
  have⟨a',b',B,rfl,A⟩:=dh h;have⟨UU,Ko,p1,rfl,k⟩:=tq A;clear h A;simp only[cL]at k;show Bx g.K (bI a X _ g k.1.1) (Gr lo X _ g k.1.2) (Gr hi X _ g k.2)
 |.bi f es,X,q,g,h=>by
  have⟨f',as,B,rfl,A⟩:=ba h;have⟨x,p1,rfl,G⟩:=au A;have h:=G;show Gn g (jP es X _ g (d_ h)) h
 |.Ma f es,X,q,g,h=>by
  have⟨f',as,B,rfl,A⟩:=ba h;have⟨x,p1,rfl,G⟩:=au A;have⟨c,rfl,z3⟩:=bg G;have⟨g',as',p2,rfl,z4⟩:=ba z3;have⟨y,p3,rfl,z5⟩:=au z4;have h:=z5;show Gp g (jP es X _ g (d_ h)) h
 |.J6 m a es,X,q,g,h=>by
  have⟨o,name,ab,as,G',rfl,A⟩:=cy h;have h:=A;have h':=h;simp only[cL]at h';show Gq g (bI a X _ g h'.1.2) (jP es X _ g (d_ h)) h
 |.call f es,X,q,g,h=>by
  have⟨f',as,B,rfl,A⟩:=ba h;have⟨x,p1,rfl,G⟩:=au A;have h:=G;show zd g (jP es X _ g (d_ h)) h
 |.comp n t ik src cond e,X,q,g,h=>by
  have⟨elt,tg,ac,al,scope,B,rfl,k⟩:=jN h;clear h;have h:=k;simp only[cL,Ĝ]at h;obtain⟨⟨⟨⟨⟨⟨⟨J,Y⟩,L⟩,O⟩,h5⟩,h6⟩,h7⟩,h8⟩:=h;subst J;have S:=yj (X:=X) rfl (oq _ _) Y;split at h5
  .rename_i as am;have HQ:=cQ h5;have hI:PI X tg ac (LP C ik (bL Γ src)):=CN g am (jP src X _ g h5) (λa e=>by
    subst e;cases src with
    |nil=>simp[aL]at h5
    |cons e1 IL =>
     cases IL with
     |nil =>
      simp only[aL,cL]at h5;show⟨e1,rfl,bI e1 X _ g h5.1.2⟩
     |cons _ _=>simp[aL]at h5) HQ
   show yT S g.calm hI (λD s H ex=>vf (fa:=λx=>df (scope.names.lookup x=bD .cell)) g.calm g.K S.nd (λ_ z=>z) L)
    (λD s H ex=>by
     cases al with
     |nil =>
      cases cond with
      |nil=>show λag s σ H Q I ⟨c0,e1,e2,ok,w⟩=>uD ag s σ H Q I (by subst e1 e2;rw[show aR Γ []=pure cb from rfl,ak]at w;show w c0 rfl rfl ok (Nx.refl c0))
      |cons _ _=>simp[aL]at h7
     |cons c1 cs =>
      cases cs with
      |nil =>
       cases cond with
       |nil=>simp[aL]at h7
       |cons e1 IL =>
        cases IL with
        |nil =>
         simp only[aL,cL]at h7;show uE (pL e1 (Ja X _ scope D s H ex) c1 (g.cx _ _ _ _ _ _) h7.1.2)
        |cons _ _=>simp[aL]at h7
      |cons _ _=>simp at h6)
    (λD s H ex=>bI e (Ja X _ scope D s H ex) elt (g.cx _ _ _ _ _ _) h8) (tv O)
  .cases h5
theorem EH:∀(es:List E) (X:Cx) (c:List oT),Gd ck Γ C d X->wY ck es X.N X.env.scope c=cb->∀out:Str,out.length<=c4->PJ X out c (HR C (Mz Γ es out >>= λy=>pure (.loc,.str y)))
 |[],X,c,g,h,out,hz=>by
  cases c with
  |nil=>show Ec hz
  |cons _ _=>simp[wY]at h
 |e::es,X,c,g,h,out,hz=>by
  simp only[wY]at h;split at h
  .simp only[cL]at h;have z:=Ee (p:=by assumption) (out:=out) (bI e X _ g h.1) λy b=>EH es X _ g h.2 y b;rintro a s σ H Q I ⟨f,i,j,k,w⟩;show z a s σ H Q I ⟨f,i,j,k,?_⟩;simp only[Mz,ah]at w ⊢;show w
  .simp only[cL]at h;cases e with
   |cst u =>
    have m:=cj h.1;subst m;rintro a s σ H Q I ⟨f,i,j,k,w⟩;simp only[Mz,ah]at w;rw[show ev Γ (.cst (.str _))=pure (.loc,.str _) from rfl,ak]at w;have⟨n,b,w⟩:=cq.mp w;simp only[nu]at b;split at b
    .rename_i l;cases b;show Ed (EH es X _ g h.2 _ l.2) l.2 a s σ H Q I ⟨f,i,j,k,by rw[ah];show w⟩
    .cases b
   |_=>simp at h
  .cases h
theorem jP:∀(es:List E) (X:Cx) (a:List oT),Gd ck Γ C d X->aL ck es X.N X.env.scope a=cb->PA X a (Jn C (bL Γ es))
 |[],X,a,g,h=>by
  cases a with
  |nil=>show Bs
  |cons _ _=>simp[aL]at h
 |e::es,X,a,g,h=>by
  cases a with
  |nil=>simp[aL]at h
  |cons b a =>
   simp only[aL,cL]at h;show yJ (bI e X b g h.1.2) (jP es X a g h.2) (bc h.1.1)
theorem Gr:∀(es:List E) (X:Cx) (o:Option oT),Gd ck Γ C d X->tu ck es X.N X.env.scope o=cb->PO X o (tO C (NA Γ es))
 |[],X,o,g,h=>by
  cases o with
  |none=>show jD
  |some _=>simp[tu]at h
 |[e],X,o,g,h=>by
  cases o with
  |none=>simp[tu]at h
  |some a=>simp only[tu]at h;show wM (bI e X a g h)
 |_::_::_,X,o,g,h=>by simp[tu]at h
theorem ze:∀(es:List E) (X:Cx) (a:List oT),Gd ck Γ C d X->aL ck es X.N X.env.scope a=cb->∀{pos},PE X (.BoolOp .And a pos) (HR C (lV Γ es))
 |[],X,a,g,h,pos=>pK
 |[e],X,a,g,h,pos=>by
  cases a with
  |nil=>simp[aL]at h
  |cons b a =>
   cases a with
   |nil=>simp only[aL,cL]at h;show xR (bI e X b g h.1.2)
   |cons _ _=>simp[aL]at h
 |e::c::es,X,a,g,h,pos=>by
  cases a with
  |nil=>simp[aL]at h
  |cons b a =>
   have h':noStar b=cb/\bH ck e X.N X.env.scope b=cb/\aL ck (c::es) X.N X.env.scope a=cb:=by
    rw[aL]at h;simp only[cL]at h;show⟨h.1.1,h.1.2,h.2⟩
   cases a with
   |nil=>have:=h'.2.2;simp[aL]at this
   |cons f i=>show snd_and (bI e X b g h'.2.1) (ze (c::es) X _ g h'.2.2)
theorem CP:∀(es:List E) (X:Cx) (a:List oT),Gd ck Γ C d X->aL ck es X.N X.env.scope a=cb->∀{pos},PE X (.BoolOp .Or a pos) (HR C (qP Γ es))
 |[],X,a,g,h,pos=>pK
 |[e],X,a,g,h,pos=>by
  cases a with
  |nil=>simp[aL]at h
  |cons b a =>
   cases a with
   |nil=>simp only[aL,cL]at h;show xR (bI e X b g h.1.2)
   |cons _ _=>simp[aL]at h
 |e::c::es,X,a,g,h,pos=>by
  cases a with
  |nil=>simp[aL]at h
  |cons b a =>
   have h':noStar b=cb/\bH ck e X.N X.env.scope b=cb/\aL ck (c::es) X.N X.env.scope a=cb:=by
    rw[aL]at h;simp only[cL]at h;show⟨h.1.1,h.1.2,h.2⟩
   cases a with
   |nil=>have:=h'.2.2;simp[aL]at this
   |cons f i=>show D6 (bI e X b g h'.2.1) (CP (c::es) X _ g h'.2.2)
theorem pL:∀(e:E) (X:Cx) (j:oT),Gd ck Γ C d X->bH ck e X.N X.env.scope j=cb->PT X j (Jr C (H0 Γ e))
 |.and es,X,j,g,h=>by
  have⟨G,o,rfl,k⟩:=gR h;clear h;have h:=k;show(vh es X _ g h).pt
 |.or es,X,j,g,h=>by
  have⟨G,o,rfl,k⟩:=gR h;clear h;have h:=k;show(zf es X _ g h).pt
 |.not a,X,j,g,h=>by
  have⟨a',o,rfl,k⟩:=oj h;clear h;have h:=k;show Bq (pL a X _ g h)
 |.cmp op a b,X,j,g,h=>by
  have⟨a',H,D,o,rfl,l⟩:=fF h;have h:=l;simp only[cL,Ĝ,uk]at h;obtain⟨⟨⟨rfl,A⟩,q⟩,s⟩:=h;show Bo g.P g.w g.K g.u (bI a X _ g q) (bI b X _ g s) A
 |.LJ o1 o2 a b c,X,j,g,h=>absurd (show cc=cb from h) l'
 |.var i,X,j,g,h=>by
  have⟨x,o,rfl,k⟩:=au h;simp only[cL,Ĝ]at k;have⟨v,z⟩:=aG k.2;show kO (pB k.1.1 (cJ k.1.2) v z) g.K λ_=>rfl
 |.idx a b,X,j,g,h=>bU
 |.bi f es,X,j,g,h=>by
  have⟨f',as,o,rfl,l⟩:=ba h;have⟨x,B,rfl,p⟩:=au l;have h:=p;show PT.eqv (kO (Gn g (jP es X _ g (d_ h)) h) g.K λ_=>rfl) λst Q w=>CO w
 |.Ma f es,X,j,g,h=>bU
 |.J6 m a es,X,j,g,h=>bU
 |.call f es,X,j,g,h=>by
  have⟨f',as,o,rfl,l⟩:=ba h;have⟨x,B,rfl,p⟩:=au l;have h:=p;show PT.eqv (kO (zd g (jP es X _ g (d_ h)) h) g.K λ_=>rfl) λst Q w=>CO w
 |.cst u,X,j,g,h=>bU
 |.fst es,X,j,g,h=>bU
 |.L_ x u,X,j,g,h=>bU
 |.neg a,X,j,g,h=>bU
 |.Ms a T,X,j,g,h=>by
  have⟨f',as,o,rfl,l⟩:=ba h;have⟨x,B,rfl,p⟩:=au l;clear h l;have⟨a',D,rfl,I⟩:=d9 p;have⟨y,p2,rfl,J⟩:=au I;have h:=J;simp only[cL,Ĝ]at h;obtain⟨⟨⟨⟨⟨rfl,rfl⟩,q⟩,s⟩,v⟩,z⟩:=h;show PT.eqv (kO (u6 g.K (cR q) (g.blt _ mn) (cR s) (g.blt _ (zc T)) (bI a X _ g z) (bc v)) g.K λ_=>rfl) λst Q w=>?_;have w:W (ev Γ a >>= λx=>M.Im (qO x.2 T)) st Q:=w;simp only[ah]at w ⊢;show W.mono w λx s1 L=>?_;have⟨b,e,O⟩:=cq.mp L;show cq.mpr ⟨b,e,ak.mpr (cq.mpr ⟨b,rfl,O⟩)⟩
 |.bad,X,j,g,h=>bU
 |.LK f es is,X,j,g,h=>bU
 |.inD neg a i,X,j,g,h=>by
  have⟨a',H,D,o,rfl,l⟩:=fF h;have⟨x,B,rfl,p⟩:=au l;have h:=p;simp only[cL,Ĝ,uk]at h;obtain⟨⟨⟨⟨⟨rfl,A⟩,q⟩,s⟩,v⟩,z⟩:=h;have⟨Y,q2⟩:=aG v;show BN g.u q (cJ s) Y q2 (bI a X _ g z) A
 |.Oh i,X,j,g,h=>bU
 |.Qu ln a b,X,j,g,h=>bU
 |.Oi i,X,j,g,h=>bU
 |.Kv i a b,X,j,g,h=>bU
 |.bin op a b,X,j,g,h=>bU
 |.ite c a b,X,j,g,h=>bU
 |.tup es,X,j,g,h=>bU
 |.lst es,X,j,g,h=>bU
 |.JC r,X,j,g,h=>bU
 |.JJ a lo hi,X,j,g,h=>bU
 |.comp n t ik src cond e,X,j,g,h=>bU
theorem vh:∀(es:List E) (X:Cx) (a:List oT),Gd ck Γ C d X->aL ck es X.N X.env.scope a=cb->∀{pos},PW X (.BoolOp .And a pos) (Jr C (aR Γ es))
 |[],X,a,g,h,pos=>by
  cases a with
  |nil =>
   rintro k f s σ H Q I ⟨c,rfl,rfl,j,w⟩;rw[show aR Γ []=pure cb from rfl,ak]at w;show ę ⟨c.H,I,w c rfl rfl j (Nx.refl c)⟩
  |cons _ _=>simp[aL]at h
 |[e],X,a,g,h,pos=>by
  cases a with
  |nil=>simp[aL]at h
  |cons b a =>
   cases a with
   |nil=>simp only[aL,cL]at h;show Ay (pL e X b g h.1.2)
   |cons _ _=>simp[aL]at h
 |e::i::es,X,a,g,h,pos=>by
  cases a with
  |nil=>simp[aL]at h
  |cons b a =>
   have h':noStar b=cb/\bH ck e X.N X.env.scope b=cb/\aL ck (i::es) X.N X.env.scope a=cb:=by
    rw[aL]at h;simp only[cL]at h;show⟨h.1.1,h.1.2,h.2⟩
   cases a with
   |nil=>have:=h'.2.2;simp[aL]at this
   |cons l m=>show Br (pL e X b g h'.2.1) (vh (i::es) X _ g h'.2.2)
theorem zf:∀(es:List E) (X:Cx) (a:List oT),Gd ck Γ C d X->aL ck es X.N X.env.scope a=cb->∀{pos},PW X (.BoolOp .Or a pos) (Jr C (gv Γ es))
 |[],X,a,g,h,pos=>by
  cases a with
  |nil =>
   rintro k f s σ H Q I ⟨c,rfl,rfl,j,w⟩;rw[show gv Γ []=pure cc from rfl,ak]at w;show isTrue_or_nil ⟨c.H,I,w c rfl rfl j (Nx.refl c)⟩
  |cons _ _=>simp[aL]at h
 |[e],X,a,g,h,pos=>by
  cases a with
  |nil=>simp[aL]at h
  |cons b a =>
   cases a with
   |nil=>simp only[aL,cL]at h;show C6 (pL e X b g h.1.2)
   |cons _ _=>simp[aL]at h
 |e::i::es,X,a,g,h,pos=>by
  cases a with
  |nil=>simp[aL]at h
  |cons b a =>
   have h':noStar b=cb/\bH ck e X.N X.env.scope b=cb/\aL ck (i::es) X.N X.env.scope a=cb:=by
    rw[aL]at h;simp only[cL]at h;show⟨h.1.1,h.1.2,h.2⟩
   cases a with
   |nil=>have:=h'.2.2;simp[aL]at this
   |cons l m=>show D7 (pL e X b g h'.2.1) (zf (i::es) X _ g h'.2.2)
end
def Gu(g:Gd ck Γ C d X)(b:Th e=cb)(h:bH ck e X.N X.env.scope f=cb):PE X f (wV C (ev Γ e)):=by
 cases e with
 |var i =>
  have⟨x,k,rfl,a⟩:=au h;simp only[cL,Ĝ]at a;have⟨l,m⟩:=aG a.2;show yX a.1.1 (cJ a.1.2) l m
 |cst u =>
  have⟨c,n,k,rfl,a⟩:=l9 h;cases c with
  |int j=>have:=cj a;subst this;show jj xN λ_ _=>rfl
  |str y=>have:=cj a;subst this;show jj r9 λ_ _=>rfl
  |bool y=>have:=cj a;subst this;show jj Cz λ_ _=>rfl
  |none=>have:=cj a;subst this;show jj xO λ_ _=>rfl
  |_=>cases a
 |_=>cases b
end
abbrev PR(b:Nj)(x:Str)(a:Nat):oT->Bool
 |.ListComp elt gens s pos=>df (b.names.lookup x=bD .local)&&(a==pos.line)&&!(s.names.any λ(n,k)=>n==x&&(k==.local||k==.cell))
 |_=>cc
abbrev kg(s:Nw)(k:oT->Bool):Bool:=match s with|.Expr e _=>k e|_=>cc
def di(h:kg s k=cb):∃e p,s=.Expr e p/\k e=cb:=by
 unfold kg at h;split at h
 .show⟨_,_,rfl,h⟩
 .cases h
abbrev kh(s:Nw)(k:oT->oT->Bool):Bool:=match s with|.Assign ts v _=>d7 ts λt=>k t v|_=>cc
def dk(h:kh s k=cb):∃t v p,s=.Assign [t] v p/\k t v=cb:=by
 unfold kh at h;split at h
 .have⟨t,rfl,a⟩:=bg h;show⟨_,_,_,rfl,h⟩
 .cases h
abbrev zg(s:Nw)(k:oT->Bool):Bool:=match s with|.Raise (bD e) b7 _=>k e|_=>cc
def tw(h:zg s k=cb):∃e p,s=.Raise (bD e) b7 p/\k e=cb:=by
 unfold zg at h;split at h
 .show⟨_,_,rfl,h⟩
 .cases h
abbrev zh(s:Nw)(k:Nw->ExceptHandler->Bool):Bool:=match s with|.Try b hs [] [] _=>d7 b λb=>d7 hs λh=>k b h|_=>cc
def tD(h:zh s k=cb):∃b a p,s=.Try [b] [a] [] [] p/\k b a=cb:=by
 unfold zh at h;split at h
 .have⟨b,rfl,c⟩:=bg h;have⟨a,rfl,d⟩:=bg c;show⟨_,_,_,rfl,d⟩
 .cases h
abbrev zi(s:ExceptHandler)(k:oT->Str->Nw->Bool):Bool:=match s with|.ExceptHandler (bD t) (bD n) b _=>d7 b λb=>k t n b|_=>cc
def tE(h:zi s k=cb):∃t n b p,s=.ExceptHandler (bD t) (bD n) [b] p/\k t n b=cb:=by
 unfold zi at h;split at h
 .have⟨b,rfl,a⟩:=bg h;show⟨_,_,_,_,rfl,a⟩
 .cases h
abbrev Gv(s:Nw)(k:Str->oT->Bool):Bool:=kh s λt v=>bq t λy=>k y v
def wZ(h:Gv s k=cb):∃y p v a,s=.Assign [.Name y p] v a/\k y v=cb:=by
 have⟨t,v,a,rfl,z⟩:=dk h;have⟨y,p,rfl,z⟩:=au z;show⟨y,p,v,a,rfl,z⟩
abbrev EI(e:oT)(k:Str->Pos->Bool):Bool:=match e with|.Name x p=>k x p|_=>cc
def w9(h:EI e k=cb):∃x p,e=.Name x p/\k x p=cb:=by
 unfold EI at h;split at h
 .show⟨_,_,rfl,h⟩
 .cases h
abbrev zj(s:Nw)(k:oT->ZV->oT->Bool):Bool:=match s with|.AugAssign t op b _=>k t op b|_=>cc
def tF(h:zj s k=cb):∃t op b p,s=.AugAssign t op b p/\k t op b=cb:=by
 unfold zj at h;split at h
 .show⟨_,_,_,_,rfl,h⟩
 .cases h
abbrev vi(s:Nw)(k:Option oT->Bool):Bool:=match s with|.Return v _=>k v|_=>cc
def mq(h:vi s k=cb):∃v p,s=.Return v p/\k v=cb:=by
 unfold vi at h;split at h
 .show⟨_,_,rfl,h⟩
 .cases h
abbrev Gw(v:Option oT)(k:oT->Bool):Bool:=match v with|some e=>k e|none=>cc
def w_(h:Gw v k=cb):∃e,v=bD e/\k e=cb:=by
 cases v with
 |none=>cases h
 |some e=>show⟨e,rfl,h⟩
abbrev zk(s:Nw)(k:oT->List Nw->List Nw->Bool):Bool:=match s with|.If c a b _=>k c a b|_=>cc
def tH(h:zk s k=cb):∃c a b p,s=.If c a b p/\k c a b=cb:=by
 unfold zk at h;split at h
 .show⟨_,_,_,_,rfl,h⟩
 .cases h
abbrev zl(s:Nw)(k:oT->oT->List Nw->Bool):Bool:=match s with|.For t i b o _=>o.isEmpty&&k t i b|_=>cc
def tI(h:zl s k=cb):∃t i b p,s=.For t i b [] p/\k t i b=cb:=by
 unfold zl at h;split at h
 .rw[cL,Mp]at h;have⟨rfl,h⟩:=h;show⟨_,_,_,_,rfl,h⟩
 .cases h
abbrev EJ(s:Nw)(k:oT->List Nw->Bool):Bool:=match s with|.While c b o _=>o.isEmpty&&k c b|_=>cc
def xb(h:EJ s k=cb):∃c b p,s=.While c b [] p/\k c b=cb:=by
 unfold EJ at h;split at h
 .rw[cL,Mp]at h;have⟨rfl,h⟩:=h;show⟨_,_,_,rfl,h⟩
 .cases h
abbrev Ox(k:Ck)(f x c:Str)(a:Nj):Bool:=df (f∈k.fns)&&Ju a f&&bx f&&df ((c,x)∈k.xd)&&Ju a x&&bx x&&Ju a c&&bx c&&Ju a "isinstance"
abbrev Gy(v:oT)(n c:Str):Bool:=BW v "isinstance" λas=>oi as λx y=>isNm x n&&isNm y c
def xf(h:Gy v n c=cb):∃b d e f,v=.Call (.Name "isinstance" b) [.Name n d,.Name c e] [] f:=by
 have⟨as,b,f,rfl,g⟩:=jO h;have⟨x,y,rfl,a⟩:=d9 g;rw[cL]at a;have⟨d,rfl⟩:=gS a.1;have⟨e,rfl⟩:=gS a.2;show⟨_,_,_,_,rfl⟩
mutual
noncomputable def zm(k:Ck):S->List Str->Nj->Nw->Bool
 |.set i e,N,d,s=>kh s λt v=>EI t λx p=>df (N[i]?=bD x)&&nz d x&&df (d.kind=.function)&&bH k e N d v&&(dN v||PR d x p.line v||(match v with|.ListComp _ _ _ _=>cb|_=>cc))&&(match e with|.comp _ _ _ _ _ _=>cb|_=>dN v)
 |.Mt is e,N,d,s=>kh s λt v=>vd t λ_=>Ov cb N d (λ_=>cb) is t&&dN v&&Ey v&&bH k e N d v
 |.put i a b,N,d,s=>kh s λt l=>kf t λo a'=>bq o λx=>df (N[i]?=bD x)&&jk d x&&bx x&&dN l&&eG a'&&bH k a N d a'&&bH k b N d l
 |.app i e,N,d,s=>kg s λc=>gE c λo m g as q=>bq o λx=>d7 as λa=>df (m="append")&&df (N[i]?=bD x)&&jk d x&&bx x&&(g.endLine==q.line)&&noStar a&&bH k e N d a
 |.ext i e,N,d,s=>kg s λc=>gE c λo m g as q=>bq o λx=>d7 as λa=>df (m="extend")&&df (N[i]?=bD x)&&jk d x&&bx x&&(g.endLine==q.line)&&noStar a&&bH k e N d a
 |.bad,_,_,_=>cb
 |.newD i,N,d,s=>kh s λt v=>bq t λx=>BV v&&df (N[i]?=bD x)&&nz d x
 |.putD i a b,N,d,s=>kh s λt l=>kf t λo a'=>bq o λx=>df (N[i]?=bD x)&&jk d x&&bx x&&dN l&&eG a'&&bH k a N d a'&&bH k b N d l
 |.J7 i a e,N,d,s=>kg s λc=>gE c λo m g as q=>kf o λB a'=>bq B λx=>d7 as λb=>df (m="append")&&df (N[i]?=bD x)&&jk d x&&bx x&&eG a'&&(g.endLine==q.line)&&noStar b&&bH k a N d a'&&bH k e N d b&&Th e
 |.aug sub i a e,N,d,s=>zj s λt op b=>kf t λo a'=>bq o λx=>df (op=if sub=cb then .Sub else .Add)&&df (N[i]?=bD x)&&jk d x&&bx x&&eG a'&&bH k a N d a'&&bH k e N d b&&Th e
 |.Qv _,_,_,_=>cc
 |.exp e,N,d,s=>kg s λu=>dN u&&bH k e N d u
 |.ret e,N,d,s=>vi s λv=>Gw v λu=>bH k e N d u
 |.ins i C D,N,d,s=>kg s λc=>gE c λo m g as q=>bq o λx=>oi as λa b=>df (m="insert")&&df (N[i]?=bD x)&&jk d x&&bx x&&(g.endLine==q.line)&&noStar a&&noStar b&&bH k C N d a&&bH k D N d b
 |.Mu,N,d,s=>vi s λv=>v.isNone
 |.ite c a b,N,d,s=>zk s λw a' l=>bH k c N d w&&eh k a N d a'&&eh k b N d l
 |.Ia t is ik src body,N,d,s=>zl s λA h z=>Ov t N d (λ_=>cb) is A&&s9 h&&(match gD d A ik h with
    |some as=>aL k src N d as
    |none=>cc)&&eh k body N d z
 |.LL c body,N,d,s=>EJ s λw z=>bH k c N d w&&eh k body N d z
 |.brk,_,_,_=>cc
 |.cnt,_,_,_=>cc
 |.Pn _,_,_,_=>cc
 |.LM c e,N,d,s=>zg s λr=>BW r c λas=>d7 as λa=>df (c∈k.xc)&&Ju d c&&bx c&&noStar a&&bH k e N d a
 |.Mw i f es x c j,N,d,s=>zh s λb G=>zi G λt n H=>kg b λv=>Gv H λy I=>(isNm t x&&Gy I n c&&BW v f λas=>!as.isEmpty&&aL k es N d as)&&Ox k f x c d&&(df (N[i]?=bD y)&&nz d y&&df (N[j]?=bD n)&&df (d.names.lookup n=bD .local)&&bx n)
 |.Qw,_,_,_=>cc
noncomputable def eh(k:Ck):List S->List Str->Nj->List Nw->Bool
 |[],_,_,a=>a.isEmpty
 |s::ss,N,b,a=>match a with
  |s'::a=>zm k s N b s'&&eh k ss N b a
  |[]=>cc
end
section
variable{ck:Ck}{Γ:Tab}{C:Ct}{d:Nat}{X:Cx}
def pM(h:nz a x=cb):Loc a x:=by
 unfold nz at h;simp only[Om,Ĝ]at h;show h
def jl(h:dN v=cb):RB v t a env=pure cc:=by
 cases v<;>first|rfl|cases h
def pN(h:dN v=cb):RO [t] v a env=pure cc:=by
 rw[RO];show jl h
def B3(h:eG i=cb):∀a b new,Đ i a b new=(do Nc [new,a,b] (T1 a b new);W0 [new,a,b] [];pure .next):=by
 intro a b new;cases i<;>first|rfl|cases h
def vj(h:eG i=cb):∀v,SA (.Subscript o i p) env v=(do
   let a <-Nc [v] (JF o env)
   let b <-Nc [v,a] (JF i env)
   Yw p
   Nc [v,a,b] (T1 a b v)
   W0 [v,a,b] []):=by
 intro v;cases i<;>first|rfl|cases h
structure Gs(ck:Ck)(Γ:Tab)(C:Ct)(d:Nat)(X:Cx):Prop where
 gd:Gd ck Γ C d X
 nd:X.N.Nodup
 fn:∀x,X.fn x=cb
 po:XY (ke X.prog X.w) X.A X.env X.xe
 kd:X.env.scope.kind=.function
 xs:Ow ck X.K X.mg
 xl:∀c H',C.xw (.str c) H'->∀C' T H pins σ s e s',PySem.W.nsIn X.K ro c=bD (bD (.ref C'))->Inv X pins σ H s->cp X.prog X.w X.stack H s e C' T .none H' s'->X.xe (.ref e) s'
 sk:X.stack=X.env::X.outer/\X.env.frame=bD X.env.locals
def vk(g:Gd ck Γ C d X)(h:(match gD X.env.scope i ik b with|some as=>aL ck src X.N X.env.scope as|none=>cc)=cb):PI X i b (LP C ik (bL Γ src)):=by
 split at h
 .rename_i as c;show CN g c (jP src X _ g h) (λa e=>by
   subst e;cases src with
   |nil=>simp[aL]at h
   |cons f j =>
    cases j with
    |nil =>
     simp only[aL,cL]at h;show⟨f,rfl,bI f X _ g h.1.2⟩
    |cons _ _=>simp[aL]at h) (cQ h)
 .cases h
def mr{pos p a:Pos}(hk:X.env.scope.kind=.function):RB (.ListComp elt gens s pos) (bD (.Name x p)) a.line X.env=pure (PR X.env.scope x p.line (.ListComp elt gens s pos)):=by
 have b:X.env.blockKind=.function:=by
  unfold Env.blockKind;rw[hk];rfl
 change(pure (X.env.blockKind==.function&&X.env.kindOf x==bD .local&&p.line==pos.line&&!(s.names.any λ(n,k)=>n==x&&(k==.local||k==.cell))):Sem Bool)=_;rw[b];unfold PR;congr 1
 have:(X.env.kindOf x==bD NameKind.local)=df (X.env.scope.names.lookup x=bD .local):=by
  unfold Env.kindOf;rw[Iy];simp
 rw[this];rfl
def EK{src cond:List E}(G:Gs ck Γ C d X)(m:X.N[i]?=bD x)(A:nz X.env.scope x=cb)
  (h:bH ck (.comp n t ik src cond e) X.N X.env.scope (.ListComp elt [⟨o,a,b,0⟩] scope pos)=cb) (ns:Nat->Bool) (q:∀j,ns j=cb->j≠i) :
  L2.PS X (.Assign [.Name x p] (.ListComp elt [⟨o,a,b,0⟩] scope pos) K7) (IK C ns (ev Γ (.comp n t ik src cond e) >>= λr=>eZ i r >>= λ_=>pure .nx)):=by
 have g:=G.gd;have u:=bI (.comp n t ik src cond e) X _ g h;cases k:PR X.env.scope x p.line (.ListComp elt [⟨o,a,b,0⟩] scope pos) with
 |false=>show CL q G.nd m (pM A) (.inl (G.fn x)) u (by rw[mr G.kd,k])
 |true =>
  have hl:X.env.scope.names.lookup x=bD .local:=by
   simp only[PR,cL,Ĝ]at k;show k.1.1
  have⟨Xf,Yf,UW,Xg,Ti,p',B,v⟩:=jN h;cases B;clear h u;simp only[cL,Ĝ]at v;obtain⟨⟨⟨⟨⟨⟨⟨J,L⟩,O⟩,T⟩,Y⟩,h6⟩,c⟩,h8⟩:=v;subst J;have S:=yj (X:=X) rfl (oq _ _) L;show Ep q S g.calm G.nd m hl (vk g Y) (λD s H ex=>vf (fa:=λx=>df (scope.names.lookup x=bD .cell)) g.calm g.K S.nd (λ_ z=>z) O)
   (λD s H ex=>by
    cases b with
    |nil =>
     cases cond with
     |nil=>show λf s σ H Q I ⟨y,l,e2,ok,w⟩=>uD f s σ H Q I (by subst l e2;rw[show aR Γ []=pure cb from rfl,ak]at w;show w y rfl rfl ok (Nx.refl y))
     |cons _ _=>simp[aL]at c
    |cons c1 cs =>
     cases cs with
     |nil =>
      cases cond with
      |nil=>simp[aL]at c
      |cons l IL =>
       cases IL with
       |nil =>
        simp only[aL,cL]at c;show uE (pL l (Ja X _ scope D s H ex) c1 (g.cx _ _ _ _ _ _) c.1.2)
       |cons _ _=>simp[aL]at c
     |cons _ _=>simp at h6)
   (λD s H ex=>bI e (Ja X _ scope D s H ex) elt (g.cx _ _ _ _ _ _) h8) (by rw[mr G.kd,k]) (tv T)
def B4(G:Gs ck Γ C d X)(h:zm ck (.ins i f g) X.N X.env.scope s'=cb):L2.PS X s' (IK C (Ol (.ins i f g)) (exec Γ (.ins i f g))):=by
 have⟨c,D,rfl,p⟩:=di h;have⟨o,m,j,as,q,rfl,r⟩:=cy p;have⟨x,H,rfl,s⟩:=au r;have⟨a,b,rfl,k⟩:=d9 s;simp only[cL,Ĝ]at k;obtain⟨⟨⟨⟨⟨⟨⟨⟨rfl,t⟩,u⟩,v⟩,w⟩,l⟩,n⟩,y⟩,z⟩:=k;have⟨A,B⟩:=aG v;have sa:=bu (pos:=q) (env:=X.env) (es:=[a,b]) λe he=>by
  rcases d6.mp he with rfl|he
  .show l
  .simp at he;subst he;show n
 show Gi G.gd.K t (cJ u) A B (bI f X _ G.gd y) (bI g X _ G.gd z) (by rw[sa.2];rfl) w (bc l) (bc (es:=[]) n)
def B5(G:Gs ck Γ C d X)(h:zm ck (.LM c e) X.N X.env.scope s'=cb):L2.PS X s' (IK C (Ol (.LM c e)) (exec Γ (.LM c e))):=by
 have⟨r,u,rfl,g⟩:=tw h;have⟨as,v,p2,rfl,i⟩:=jO g;have⟨a,rfl,f⟩:=bg i;simp only[cL,Ĝ]at f;obtain⟨⟨⟨⟨j,k⟩,l⟩,m⟩,n⟩:=f;have⟨o,p,q,t⟩:=G.xs.xc _ j;show Gg G.gd.calm (cR k) p (aG l).1 t (bI e X a G.gd n) (bc (es:=[]) m) λH' w b σ s e s' I F=>G.xl _ H' w o b7 H' b σ s e s' q I F
def B6(G:Gs ck Γ C d X)(h:zm ck (.Mw i f es x c j) X.N X.env.scope s'=cb):L2.PS X s' (IK C (Ol (.Mw i f es x c j)) (exec Γ (.Mw i f es x c j))):=by
 have⟨b,hd,p,rfl,g⟩:=tD h;have⟨t0,n,k,WX,rfl,l⟩:=tE g;have⟨v,p4,rfl,m⟩:=di l;have⟨y,p6,v2,UI,rfl,o⟩:=wZ m;clear h g l m;simp only[cL,Ĝ,Ox]at o;obtain⟨⟨⟨⟨q,r⟩,s⟩,⟨⟨⟨⟨⟨⟨⟨⟨D,H⟩,I⟩,b1⟩,k⟩,b3⟩,b4⟩,J⟩,L⟩⟩,⟨⟨⟨⟨O,Q⟩,T⟩,Y⟩,t⟩⟩:=o;have⟨p5,rfl⟩:=gS q;have⟨p8,p9,Pz,Ou,rfl⟩:=xf r;have⟨as,p2,p3,rfl,u⟩:=jO s;rw[cL,uk]at u;have⟨a4,z⟩:=u;clear q r s;have A:=cQ z;have⟨np,fa,fd,ps,q1,q2,q3,q4,q5,q6⟩:=(G.gd.fns _ D).ex;have⟨Cc,Cd,r1,r2,r3,r4⟩:=G.xs.xd _ b1;have gn:Gd ck Γ C d X.Lh:=Gd.Lh G.gd;cases as with
 |nil=>cases a4
 |cons e0 B =>
  have st:=bc (env:=X.env) (es:=B) (A e0 (by simp));have sn:=(bu (pos:=p3) (env:=X.env) (es:=B) λe he=>A e (by simp[he])).1;show Gh (λn a=>by have a:(df (n≠i)&&df (n≠j))=cb:=a;simpa using a) G.nd O (pM Q) (G.fn _) T Y G.gd.P G.gd.w G.gd.K rfl q5 q6 q1 G.gd.room (cR H) q2 q3 q4 (aG I).1 (jP es X.Lh _ gn z) st sn G.sk (cR k) r3 (aG b3).1 (cR b4) r1 r2 (aG J).1 r4 (cR L) (G.gd.blt _ mn) (aG t).1 (aG t).2
mutual
theorem HF:∀(s:S) (X:Cx) (s':Nw),Gs ck Γ C d X->zm ck s X.N X.env.scope s'=cb->L2.PS X s' (IK C (Ol s) (exec Γ s))
 |.set i e,X,s',G,h=>by
  have⟨t,v,p1,rfl,g⟩:=dk h;have⟨x,p,rfl,k⟩:=w9 g;clear h g;have h:=k;simp only[cL,Ĝ]at h;obtain⟨⟨⟨⟨⟨q,r⟩,y⟩,l⟩,A⟩,B⟩:=h;have Jg:∀j,Ol (.set i e) j=cb->j≠i:=λj L=>Ģ (show df (j≠i)=cb from L);by_cases hc:dN v=cb
  .show CL Jg G.nd q (pM r) (.inl (G.fn x)) (bI e X v G.gd l) (jl hc)
  .cases e with
   |comp n t ik src cond e =>
    obtain⟨elt,tg,ab,ag,scope,p3,rfl,_⟩:=jN l;show EK G q r l _ Jg
   |_=>show absurd B hc
 |.Mt is e,X,s',G,h=>by
  have⟨t,v,p1,rfl,g⟩:=dk h;have⟨es,kk,p,rfl,k⟩:=l_ g;clear h g;have h:=k;simp only[cL]at h;obtain⟨⟨⟨q,r⟩,y⟩,l⟩:=h;show Er (λj L=>Ģ (show df (j∉is)=cb from L)) (bI e X v G.gd l) (vf (fa:=λ_=>cb) G.gd.calm G.gd.K G.nd (λx _=>G.fn x) q) (pN r) ?_ rfl;cases v<;>first|rfl|cases y
 |.put i a b,X,s',G,h=>by
  have⟨t,v,p,rfl,g⟩:=dk h;have⟨o,a',p1,rfl,k⟩:=dh g;have⟨x,px,rfl,O⟩:=au k;simp only[cL,Ĝ]at O;obtain⟨⟨⟨⟨⟨⟨q,r⟩,y⟩,l⟩,A⟩,B⟩,h7⟩:=O;have⟨Q,T⟩:=aG y;show Gf G.gd.P G.gd.w G.gd.K G.gd.u q (cJ r) Q T (bI b X _ G.gd h7) (bI a X _ G.gd B) (pN l) rfl (vj A)
 |.app i e,X,s',G,h=>by
  have⟨c,p0,rfl,g⟩:=di h;have⟨o,m,Y,as,G',rfl,k⟩:=cy g;have⟨x,px,rfl,O⟩:=au k;have⟨a,rfl,z4⟩:=bg O;simp only[cL,Ĝ]at z4;obtain⟨⟨⟨⟨⟨⟨rfl,q⟩,r⟩,y⟩,l⟩,A⟩,B⟩:=z4;have⟨Q,T⟩:=aG y;have st:=bc (env:=X.env) (es:=[]) A;have sa:=(bu (pos:=G') (env:=X.env) (es:=[a]) λe he=>by simp at he;subst he;show A).2;show Gb G.gd.K q (cJ r) Q T (bI e X _ G.gd B) ?_ l st;rw[sa];rfl
 |.ext i e,X,s',G,h=>by
  have⟨c,p0,rfl,g⟩:=di h;have⟨o,m,Y,as,G',rfl,k⟩:=cy g;have⟨x,px,rfl,O⟩:=au k;have⟨a,rfl,z4⟩:=bg O;simp only[cL,Ĝ]at z4;obtain⟨⟨⟨⟨⟨⟨rfl,q⟩,r⟩,y⟩,l⟩,A⟩,B⟩:=z4;have⟨Q,T⟩:=aG y;have st:=bc (env:=X.env) (es:=[]) A;have sa:=(bu (pos:=G') (env:=X.env) (es:=[a]) λe he=>by simp at he;subst he;show A).2;show Ge G.gd.K q (cJ r) Q T (bI e X _ G.gd B) ?_ l st;rw[sa];rfl
 |.bad,X,s',G,h=>λac sh σ H D I ⟨_,_,_,_,w⟩=>(bp.mp w).elim
 |.newD i,X,s',G,h=>by
  have⟨t,v,p1,rfl,g⟩:=dk h;have⟨x,p,rfl,k⟩:=au g;clear h g;have h:=k;simp only[cL,Ĝ]at h;have⟨p2,rfl⟩:=om h.1.1;show Es (λj L=>Ģ (show df (j≠i)=cb from L)) G.nd h.1.2 (pM h.2) (.inl (G.fn _)) (jl rfl)
 |.putD i a b,X,s',G,h=>by
  have⟨t,v,p,rfl,g⟩:=dk h;have⟨o,a',p1,rfl,k⟩:=dh g;have⟨x,px,rfl,O⟩:=au k;simp only[cL,Ĝ]at O;obtain⟨⟨⟨⟨⟨⟨q,r⟩,y⟩,l⟩,A⟩,B⟩,h7⟩:=O;have⟨Q,T⟩:=aG y;show Et G.gd.u q (cJ r) Q T (bI b X _ G.gd h7) (bI a X _ G.gd B) (pN l) rfl (vj A)
 |.J7 i a e,X,s',G,h=>by
  have⟨c,p0,rfl,g⟩:=di h;have⟨o,m,Y,as,G',rfl,k⟩:=cy g;have⟨o',a',p1,rfl,O⟩:=dh k;have⟨x,px,rfl,z4⟩:=au O;have⟨b,rfl,z5⟩:=bg z4;simp only[cL,Ĝ]at z5;obtain⟨⟨⟨⟨⟨⟨⟨⟨⟨rfl,q⟩,r⟩,y⟩,l⟩,A⟩,B⟩,h7⟩,h8⟩,h9⟩:=z5;have ha:=Gu (C:=C) (Γ:=Γ) (d:=d) (ck:=ck) G.gd h9 h8;have⟨Q,T⟩:=aG y;have st:=bc (env:=X.env) (es:=[]) B;have sa:=(bu (pos:=G') (env:=X.env) (es:=[b]) λe he=>by simp at he;subst he;show B).2;show Eu G.gd.K G.gd.u q (cJ r) Q T ha (bI a X _ G.gd h7) (qV l) ?_ A st;rw[sa];rfl
 |.aug sub i a e,X,s',G,h=>by
  have⟨t,op,b,p,rfl,J⟩:=tF h;clear h;have h:=J;have⟨o,a',p1,rfl,g⟩:=dh h;have⟨x,px,rfl,k⟩:=au g;simp only[cL,Ĝ]at k;obtain⟨⟨⟨⟨⟨⟨⟨rfl,q⟩,r⟩,y⟩,l⟩,A⟩,B⟩,h7⟩:=k;have ha:=Gu (C:=C) (Γ:=Γ) (d:=d) (ck:=ck) G.gd h7 B;have⟨Q,T⟩:=aG y;show Gk q (cJ r) Q T ha (bI a X _ G.gd A) (B3 l)
 |.Qv i,X,s',G,h=>absurd (show cc=cb from h) l'
 |.exp e,X,s',G,h=>by
  have⟨e',p,rfl,J⟩:=di h;clear h;have h:=J;simp only[cL]at h;show F7 (bI e X _ G.gd h.2) (jl h.1)
 |.ret e,X,s',G,h=>by
  have⟨v,p,rfl,J⟩:=mq h;have⟨e',rfl,g⟩:=w_ J;clear h J;have h:=g;show F8 (bI e X _ G.gd h)
 |.Mu,X,s',G,h=>by
  have⟨v,p,rfl,J⟩:=mq h;cases v with
  |none=>show Eo
  |some _=>cases J
 |.ite c a b,X,s',G,h=>by
  have⟨c',a',b',p,rfl,J⟩:=tH h;clear h;have h:=J;simp only[cL]at h;have ha:=mw a X _ G h.1.2;have hb:=mw b X _ G h.2;show F9 (pL c X _ G.gd h.1.1) (Jd.weak ha λD σ H z=>pH (λj L=>(JL.mp (show(JK a j&&JK b j)=cb from L)).1) z) (Jd.weak hb λD σ H z=>pH (λj L=>(JL.mp (show(JK a j&&JK b j)=cb from L)).2) z)
 |.Ia t is ik src body,X,s',G,h=>by
  have⟨tg,ab,J_,p,rfl,J⟩:=tI h;clear h;have h:=J;rw[cL,cL,cL]at h;show Ga G.po G.gd.calm (vk G.gd h.1.2) (vf (fa:=λ_=>cb) G.gd.calm G.gd.K G.nd (λx _=>G.fn x) h.1.1.1) (mw body X _ G h.2) (tv h.1.1.2) λj L=>by have L:(df (j∉is)&&JK body j)=cb:=L;simpa using L
 |.LL c body,X,s',G,h=>by
  have⟨c',J_,p,rfl,J⟩:=xb h;clear h;have h:=J;simp only[cL]at h;show F_ G.po (pL c X _ G.gd h.1) (mw body X _ G h.2)
 |.brk,X,s',G,h=>absurd (show cc=cb from h) l'
 |.cnt,X,s',G,h=>absurd (show cc=cb from h) l'
 |.Pn is,X,s',G,h=>absurd (show cc=cb from h) l'
 |.ins i e1 e2,X,s',G,h=>B4 G h
 |.LM c e,X,s',G,h=>B5 G h
 |.Mw i f es x c j,X,s',G,h=>B6 G h
 |.Qw,X,s',G,h=>absurd (show cc=cb from h) l'
theorem mw:∀(ss:List S) (X:Cx) (a:List Nw),Gs ck Γ C d X->eh ck ss X.N X.env.scope a=cb->Jd X a (IK C (JK ss) (execs Γ ss))
 |[],X,a,G,h=>by
  cases a with
  |nil=>show F6
  |cons _ _=>simp[eh]at h
 |s::ss,X,a,G,h=>by
  cases a with
  |nil=>simp[eh]at h
  |cons s' a =>
   simp only[eh,cL]at h;have c:=HF s X s' G h.1;have e:=mw ss X a G h.2;show En (PS.weak c λD σ H z=>pH (λj b=>by simp only[JK,cL]at b;show b.1) z) (Jd.weak e λD σ H z=>pH (λj b=>by simp only[JK,cL]at b;show b.2) z)
end
end
section
variable{ck:Ck}{Γ:Tab}{d:Nat}{P:w6}{w:Ie}{K:PySem.W.Frag}{mg:Str->Option d4}{base:Ks}
def jQ{n i:Nat}(h:(start us n)[i]?=bD (bD (k,u))):us[i]?=bD u/\k=if Ii u=cb then .loc else .any:=by
 unfold start at h;by_cases a:i<us.length
 .rw[vl (by simpa using a),my]at h;rw[Jq a]at h ⊢;simp only[VP,TK,ZL]at h;have⟨b,c⟩:=h;subst c;show⟨rfl,b.symm⟩
 .rw[sx (by simp;lia),KZ]at h;split at h<;>cases h
def dm{i:Nat}(h:vs[i]?=bD v):(L2.start N vs)[i]?=bD (bD v):=by
 unfold L2.start;have a:i<vs.length:=(et.mp h).1;rw[vl (by simpa using a),my,h];rfl
def zo(m:∀a,Pr a->JI H a)(h:aq ⟨P,w,K,H,Pr,λ_=>False,p⟩ Pr H us vs)(q:N.length=n):Ok ⟨P,w,K,H,Pr,λ_=>False,p⟩ ⟨λ_=>False,H,L2.start N vs,start us n,λ_=>[]⟩:=by
 have c:∀(j:Nat) (u:U),(start us n)[j]?≠bD (bD (.B',u)):=λj u e=>by
  have:=(jQ e).2;split at this<;>cases this
 show⟨λa o e _=>e,λa z=>z.elim,λa z=>⟨m a z,λz=>z⟩,λa z=>z.elim,?_,λi k u e=>?_,λi j k k' u u' r hk t f l x y=>?_,⟨λj u r e _=>(c j u e).elim,λi j a ⟨u,_,e,_⟩=>(c i u e).elim,λj a ⟨u,_,e,_⟩=>(c j u e).elim⟩⟩
 .have:=h.len;simp[start,L2.start,q];lia
 .have⟨f,l⟩:=jQ e;have⟨v,ev,b⟩:=h.get f;show⟨v,dm ev,?_⟩;subst l;by_cases g:Ii u=cb
  .rw[ĝ g];show Rep.Ii g b
  .rw[ğ g];show Rep.mv (.up λa z=>.inl z) b
 .obtain⟨_,s⟩:=jQ f;subst s;split at hk<;>cases hk
def pO(h:bB Γ fn us=bD (.ok (k,u))):us.length=fn.np/\((k=.own\/k=.loc\/k=.any)/\(∃st',execs Γ fn.body (start us fn.ns)=bD (.ok (.rt k u),st'))\/(k=.loc/\u=.HX/\∃st',execs Γ fn.body (start us fn.ns)=bD (.ok .nx,st'))):=by
 unfold bB at h;split at h
 .rename_i hl;show⟨hl,?_⟩;split at h
  .rename_i e;cases h;show .inl ⟨.inl rfl,_,e⟩
  .rename_i e;cases h;show .inl ⟨.inr (.inl rfl),_,e⟩
  .rename_i e;cases h;show .inl ⟨.inr (.inr rfl),_,e⟩
  .rename_i e;cases h;show .inr ⟨rfl,rfl,_,e⟩
  .cases h
  .cases h
 .cases h
def qW(h:bB Γ fn us=bD (.exc c)):us.length=fn.np/\∃st',execs Γ fn.body (start us fn.ns)=bD (.ok (.rt .io (.str c)),st'):=by
 unfold bB at h;split at h
 .rename_i hl;show⟨hl,?_⟩;split at h
  .cases h
  .cases h
  .cases h
  .cases h
  .rename_i e;cases h;show⟨_,e⟩
  .cases h
 .cases h
def CQ{st:Nw}(F:MP K fn.name i st f fd)(S:eE N ps (aU st))(hN:N.length=fn.ns)(Kf:ps.length=fn.np)
  (NO:eh ck fn.body N (aU st) (cU st)=cb) (q:∀x∈bT,mg x=b7) (t:∀g∈ck.fns,BX P w K mg base d (Γ g) g)
  (KS:∀p∈ck.gl,∃val v,mg p.1=bD val/\RelV v val/\∀(C:Ct) S H,Rep C S H p.2 v) (JR:∀p∈ck.JR,BY P w K mg base d (Γ p.1) p.1 p.2) (xs:Ow ck K mg):jB P w K mg base (Ny P w) (d+1) f fd ps (spT P w K (bB Γ fn) fn.np):=by
 have⟨oc,od,kV,ab,pm,an,D,ct,Nh,rfl,lk,IB⟩:=F.ex;show CB lk IB S (λvs H Q E h=>h.1.trans Kf.symm) λA outer s H vs Q E J h=>?_;have⟨hl,us,r,Pr,L,Xh,y,b⟩:=h;have MB:=J.un;let l:Ct:=⟨P,w,K,H,Pr,λ_=>False,λu H'=>∃c,u=.str c/\∀j,PySem.W.nsIn K ro c=bD (bD (.ref j))->E (.ref j) b7 H'⟩
 have B:(MD P w K H Pr).Eqv l:=⟨rfl,rfl,rfl⟩
 have m:l.Eqv (MD P w K H Pr):=⟨rfl,rfl,rfl⟩
 have G:Gs ck Γ l d (qm (Ny P w) P w K mg base N i (aU st) f D A outer s H E) :=
  ⟨⟨rfl,rfl,rfl,by change(A.deeper (Uj i (aU st) s.heap.objs.size f D)).units+60<IF;lia,rfl,J,q,t,λp hp=>let ⟨val,v,B,m,q3⟩:=KS p hp;⟨val,v,B,m,q3 _⟩,JR⟩,S.nd,λ_=>rfl,PassesOwn.leaving,S.kind,xs,
   λc H' ⟨c',e1,hE⟩ j T H2 O σ s2 e s' hm I F=>by
    cases e1;show F.leave I.ok.frames rfl I.stack I.kK λT' Kk F'=>⟨e,j,T',H',rfl,F'.down I rfl rfl rfl,hE j hm⟩,rfl,rfl⟩
 show⟨_,mw fn.body _ _ G NO,⟨λ_=>False,H,L2.start N vs,start us fn.ns,λ_=>[]⟩,rfl,rfl,zo Xh (y.cg B) hN,?_⟩;cases r with
 |exc c =>
  obtain⟨_,st',e⟩:=qW L;show⟨_,st',e,λcf Y ok n kp=>⟨c,rfl,λj hC=>b j cf.H hC λa o z=>ok.same a o z λz=>z⟩⟩
 |ok x =>
 have⟨k,u⟩:=x;have⟨hk,b⟩:=b;obtain⟨_,Tj⟩:=pO L;have mk:∀(c:Cf),Ok l c->∀v,Em l c k u v->Back (MD P w K H Pr) H c.H c.S k u v:=λc ok v r=>by
  show⟨λa o e=>ok.same a o e λz=>z,λa z=>ok.JY a z,λe=>?_,λe=>?_,λe=>?_⟩
  .subst e;have⟨r0,e,h1,h2,h3,h4⟩:=r;show⟨r0,e,h1,h2,h4.cg m⟩
  .subst e;show Rep.cg m r
  .subst e;show Rep.cg m r
 rcases Tj with⟨_,st',e⟩|⟨rfl,rfl,st',e⟩
 .rcases hk with rfl|rfl|rfl<;>show⟨_,st',e,λc Y ok n kp v r=>b v c.H c.S (mk c ok v r)⟩
 .show⟨_,st',e,λc Y ok n kp=>b .HX c.H c.S (mk c ok .HX rfl)⟩
def iC(h:(eQ is us n)[i]?=bD (bD (k,u))):us[i]?=bD u/\k=if i∈is then .io else if Ii u=cb then .loc else .any:=by
 unfold eQ at h;by_cases a:i<us.length
 .rw[vl (by simpa using a),my,TY]at h;rw[Jq a]at h ⊢;simp only[VP,TK,ZL,YP]at h;have⟨b,c⟩:=h;subst c;show⟨rfl,b.symm⟩
 .rw[sx (by simp;lia),KZ]at h;split at h<;>cases h
def xg(a:Ew C C.H₀ is us vs)(s:N.length=n):Ok C ⟨λ_=>False,C.H₀,L2.start N vs,eQ is us n,λ_=>[]⟩:=by
 have g:∀(j:Nat) (u:U),(eQ is us n)[j]?≠bD (bD (.B',u)):=λj u e=>by
  have:=(iC e).2;split at this
  .cases this
  .split at this<;>cases this
 have rt:∀(j:Nat) (k:Kd) (u:U),k.root=cb->(eQ is us n)[j]?=bD (bD (k,u))->j∈is/\us[j]?=bD u:=λj k u hk e=>by
  have⟨f,b⟩:=iC e;show⟨?_,f⟩;by_cases z:j∈is
  .show z
  .rw[ğ z]at b;subst b;split at hk<;>cases hk
 show⟨λa o e _=>e,λa z=>z.elim,λx z=>a.par x z,λx z=>⟨a.UQ x z,a.UQ x z⟩,?_,λi k u e=>?_,λi j k k' u u' r hk t f b l m=>?_,⟨λj u r e _=>(g j u e).elim,λi j a ⟨u,_,e,_⟩=>(g i u e).elim,λj a ⟨u,_,e,_⟩=>(g j u e).elim⟩⟩
 .have:=a.len;simp[eQ,L2.start,s];lia
 .have⟨f,b⟩:=iC e;by_cases z:i∈is
  .rw[ĝ z]at b;subst b;have⟨r,b1,c,b3⟩:=a.io i u z f;show⟨_,dm b1,r,rfl,λz=>z,λz=>(a.par r z).2 c,c,b3⟩
  .rw[ğ z]at b;have⟨v,b1,c⟩:=a.any i u z f;show⟨v,dm b1,?_⟩;subst b;by_cases h:Ii u=cb
   .rw[ĝ h];show Rep.Ii h c
   .rw[ğ h];show Rep.mv (.up λa z=>.inl z) c
 .have⟨p,y⟩:=rt i k u hk f;have⟨q,A⟩:=rt j k' u' t b;obtain⟨B,b1,_⟩:=a.io i u p y;obtain⟨D,c,_⟩:=a.io j u' q A;rw[dm b1]at l;rw[dm c]at m;cases l;cases m;show a.inj i j _ p q b1 c
theorem vm:∀{is:List Nat}{st:ar}{ws:List U},Pp is st=bD ws->ws.length=is.length/\∀(n i:Nat),is[n]?=bD i->∃w,ws[n]?=bD w/\st[i]?=bD (bD (.io,w))
 |[],_,_,h=>by cases h;show⟨rfl,λn i e=>by simp at e⟩
 |i::is,st,ws,h=>by
  unfold Pp at h;split at h
  .rename_i u c;rw[d5]at h;have⟨k,h,rfl⟩:=h;have⟨a,b⟩:=vm h;show⟨by simp[a],λn j e=>?_⟩;cases n with
   |zero=>simp at e;subst e;show⟨u,rfl,c⟩
   |succ n=>have⟨w,f,g⟩:=b n j (by simpa using e);show⟨w,by simpa using f,g⟩
  .cases h
def vn(h:yE Γ fn is body us=bD (.ok r)):us.length=fn.np/\∃f st k u ws,execs Γ body (eQ is us fn.ns)=bD (.ok f,st)/\Uv f=bD (k,u)/\Pp is st=bD ws/\r=(k,.tup (u::ws)):=by
 unfold yE at h;split at h
 .rename_i hl;show⟨hl,?_⟩;split at h
  .rename_i f st e;obtain⟨⟨k,u⟩,a,h⟩:=nH.mp h;rw[d5]at h;have⟨ws,b,c⟩:=h;cases c;show⟨f,st,k,u,ws,e,a,b,rfl⟩
  .cases h
 .cases h
def EL{st:Nw}(F:MP K fn.name b st f fd)(S:eE N ps (aU st))(hN:N.length=fn.ns)(Kf:ps.length=fn.np)(Jg:∀i∈is,JK body i=cb)
  (NO:eh ck body N (aU st) (cU st)=cb) (t:∀x∈bT,mg x=b7) (y:∀g∈ck.fns,BX P w K mg base d (Γ g) g)
  (KS:∀p∈ck.gl,∃val v,mg p.1=bD val/\RelV v val/\∀(C:Ct) S H,Rep C S H p.2 v) (JR:∀p∈ck.JR,BY P w K mg base d (Γ p.1) p.1 p.2) (xs:Ow ck K mg):jB P w K mg base Nk (d+1) f fd ps (QG P w K (yE Γ fn is body) fn.np is):=by
 show F.ok S (λvs H Q E h=>h.1.trans Kf.symm) (λI A outer s H vs Q E J h=>?_);have⟨hl,us,k,u,ws,Pr,IO,HV,hk,B,j⟩:=h;have MB:=J.un;have G:Gs ck Γ (LV P w K H Pr IO) d (qm Nk P w K mg base N b (aU st) f I A outer s H E).Lh :=
  ⟨⟨rfl,rfl,rfl,by change(A.deeper (Uj b (aU st) s.heap.objs.size f I)).units+60<IF;lia,rfl,J,t,y,λp hp=>let ⟨val,v,q1,q2,q3⟩:=KS p hp;⟨val,v,q1,q2,q3 _⟩,JR⟩,S.nd,λ_=>rfl,PassesOwn.never,S.kind,xs,λ_ _ z=>z.elim,rfl,rfl⟩
 show⟨_,mw body _ _ G NO,⟨λ_=>False,H,L2.start N vs,eQ is us fn.ns,λ_=>[]⟩,rfl,rfl,xg (C:=LV P w K H Pr IO) B hN,?_⟩;obtain⟨_,L,st',k',u',MC,e,m,e2,e3⟩:=vn HV;cases e3;have⟨l1,l2⟩:=vm e2;have O:∀(c:Cf),c.st=st'->Ok (LV P w K H Pr IO) c->Kept (JK body) ⟨λ_=>False,H,L2.start N vs,eQ is us fn.ns,λ_=>[]⟩ c->∀v,Em (LV P w K H Pr IO) c k u v->CM (LV P w K H Pr IO) H c.H c.S is vs ws k u v:=λc o l q v r=>by
  show⟨l.same,λa z=>l.JY a z,λe=>?_,λe=>?_,l1,λn i r w T g2 g3=>?_⟩
  .subst e;have⟨r0,e,h1,h2,h3,h4⟩:=r;show⟨r0,e,h1,h2,h4⟩
  .subst e;show r
  .have⟨w',Y,z2⟩:=l2 n i T;rw[g3]at Y;cases Y;rw[<-o]at z2;obtain⟨v',D,r',y2,_,_,_,y3⟩:=l.sl i _ _ z2;have hi:i∈is:=pb T;rw[q.1 i (Jg i hi)]at D;rw[show(L2.start N vs)[i]?=bD (bD (.ref r)) from dm g2]at D;cases D;cases y2;show y3
 show⟨L,st',e,λc o l n q=>?_⟩;cases L with
 |nx=>cases m;show j .HX c.H c.S (O c o l q .HX rfl)
 |rt k0 u0=>cases k0<;>first|(cases m;done)|(cases m;show λv r=>j v c.H c.S (O c o l q v r))
 |_=>cases m
abbrev Fn.bd(fn:Fn):List S:=match fn.io with|some (_,b)=>b|none=>fn.body
abbrev QI(fn:Fn):Bool:=match fn.io with|some (is,b)=>is.all λi=>JK b i|none=>cb
abbrev QJ(ck:Ck)(Pg:List Fn):Bool:=ck.fns.all (λg=>Pg.any λfn=>df (fn.name=g)&&fn.io.isNone)&&ck.JR.all λp=>Pg.any λfn=>df (fn.name=p.1)&&df (fn.io.map (·.1)=bD p.2)
structure Ld(ck:Ck)(K:PySem.W.Frag)(mg:Str->Option d4)(fn:Fn):Prop where
 ex:∃(qual:Str) (st:Nw) (f:eW) (fd:SN) (N ps:List Str),MP K fn.name qual st f fd/\mg fn.name=bD (.ref f)/\Binds K fd ps []/\eE N ps (aU st)/\N.length=fn.ns/\ps.length=fn.np/\eh ck fn.bd N (aU st) (cU st)=cb/\QI fn=cb
def B7{Pg:List Fn}(a:(Pg.map (·.name)).Nodup)(h:fn∈Pg):Pg.find? (λg=>df (g.name=fn.name))=bD fn:=by
 induction Pg with
 |nil=>cases h
 |cons g Pg b =>
  rw[eF,nc]at a;rcases d6.mp h with rfl|h
  .simp
  .rw[Lo];have:df (g.name=fn.name)=cc:=by
    apply Ğ;intro z;show a.1 (z▸Y' h)
   rw[this];show b a.2 h
def tJ(a:(Pg.map (·.name)).Nodup)(h:fn∈Pg):Io Pg (d+1) fn.name=ny (Io Pg d) fn:=by
 funext us
 change(match Pg.find? λg=>df (g.name=fn.name) with|some fn=>ny (Io Pg d) fn us|none=>b7)=_;rw[B7 a h]
def ou(h:fn.io=b7):ny Γ fn=bB Γ fn:=by funext us;unfold ny;rw[h]
def xh(h:fn.io=bD (is,b)):ny Γ fn=yE Γ fn is b:=by funext us;unfold ny;rw[h]
def vp(O:(Pg.map (·.name)).Nodup)(q:QJ ck Pg=cb)(t:∀x∈bT,mg x=b7)(T:∀p∈ck.gl,∃val v,mg p.1=bD val/\RelV v val/\∀(C:Ct) S H,Rep C S H p.2 v)
  (ld:∀fn∈Pg,Ld ck K mg fn) (xs:Ow ck K mg):∀d,(∀g∈ck.fns,BX P w K mg base d (Io Pg d g) g)/\∀p∈ck.JR,BY P w K mg base d (Io Pg d p.1) p.1 p.2:=by
 simp only[QJ,cL,r6,Rg,Ĝ]at q;intro d;induction d with
 |zero =>
  show⟨λg I=>?_,λp J=>?_⟩
  .obtain⟨fn,j,rfl,_⟩:=q.1 g I;obtain⟨a,st,f,l,N,ps,F,m,n,S,B,o,_⟩:=(ld fn j).ex;show⟨fn.np,f,l,ps,⟨λvs H Q E h=>h.1.trans o.symm,λA outer s H args us vs Q E _ _ _ _ h=>by obtain⟨_,us,r,_,e,_⟩:=h;cases e⟩,m,F.kp,n,λus k u e=>(by cases e),λus c e=>by cases e⟩
  .obtain⟨fn,j,e,_⟩:=q.2 p J;obtain⟨a,st,f,l,N,ps,F,m,n,S,B,o,_⟩:=(ld fn j).ex;show⟨fn.np,f,l,ps,⟨λvs H Q E h=>h.1.trans o.symm,λA outer s H args us vs Q E _ _ _ _ h=>by obtain⟨_,us,k,u,_,_,_,e,_⟩:=h;cases e⟩,e▸m,F.kp,n,λus k e=>by cases e⟩
 |succ d G =>
  show⟨λg I=>?_,λp J=>?_⟩
  .have⟨fn,j,rfl,i⟩:=q.1 g I;rw[R5]at i;obtain⟨a,st,f,l,N,ps,F,m,n,S,B,o,D,_⟩:=(ld fn j).ex;rw[tJ O j,ou i];rw[show fn.bd=fn.body by unfold Fn.bd;rw[i]]at D;show⟨fn.np,f,l,ps,CQ F S B o D t G.1 T G.2 xs,m,F.kp,n,λus k u e=>?_,λus c e=>(qW e).1⟩;have⟨h1,h2⟩:=pO e;show⟨?_,h1⟩;rcases h2 with⟨z,_⟩|⟨z,_⟩
   .show z
   .show .inr (.inl z)
  .have⟨fn,j,e,i⟩:=q.2 p J;rw[d5]at i;obtain⟨⟨is,b⟩,i,Y⟩:=i;have⟨x,y⟩:=p
   dsimp only at e Y
   subst e Y;have⟨a,st,f,l,N,ps,F,m,n,S,B,o,D,L⟩:=(ld fn j).ex;rw[tJ O j,xh i];rw[show fn.bd=b by unfold Fn.bd;rw[i]]at D;unfold QI at L;rw[i]at L;show⟨fn.np,f,l,ps,EL F S B o (r6.mp L) D t G.1 T G.2 xs,m,F.kp,n,λus r e=>(vn e).1⟩
end
abbrev tK(ns:List Int):U:=.lst (ns.map .int)
theorem ox{S:eW->Prop}:∀(ns:List Int),aq C S H (ns.map .int) (ns.map V.int)
 |[]=>rfl
 |n::ns=>⟨_,_,rfl,rfl,ox ns⟩
def tL(h:Iz C.K H a (ns.map V.int)):Rep C (JI H) H (tK ns) (.ref a):=by
 show⟨a,_,rfl,?_,ox ns⟩;rcases h with(h|⟨o,h⟩)|h
 .show .inl ⟨⟨_,h⟩,.inl h⟩
 .show .inl ⟨⟨_,h⟩,.inr ⟨o,h⟩⟩
 .show .inr h
theorem qX:∀{l:List α},(∀a∈l,f a=g a)->l.filterMap f=l.filterMap g
 |[],_=>rfl
 |a::l,h=>by rw[JS,JS,h a (by simp),qX λb c=>h b (by simp[c])]
theorem vq:∀(l:List Str) (us:List d4),l.Nodup->us.length=l.length->l.filterMap (λn=>((l.zip us).lookup n).map (n,·))=l.zip us
 |[],_,_,_=>rfl
 |a::l,[],_,h=>nomatch h
 |a::l,u::us,b,h=>by
  rw[nc]at b;have c:=vq l us b.2 (by simpa using h);simp only[U9,JS,p7,beq_self_eq_true,VP];congr 1
  conv=>rhs;rw[<-c]
  show qX λn d=>?_;have:(n==a)=cc:=by
   rw[ģ];rintro rfl;show b.1 d
  rw[this]
def zp(l:List Str)(us:List d4)(h:us.length=l.length):l.filter (λn=>((l.zip us).lookup n).isNone)=[]:=by
 rw[Mh];intro n hn;induction l generalizing us with
 |nil=>cases hn
 |cons a l b =>
  cases us with
  |nil=>cases h
  |cons u us =>
   simp only[U9,p7];cases e:n==a with
   |true=>simp
   |false =>
    rcases d6.mp hn with rfl|hn
    .simp at e
    .show b us (by simpa using h) hn
def zq{kV a b c ct:d4}(d:(as.map (·.arg)).Nodup)(hl:us.length=(as.map (·.arg)).length):
  ď (PySem.W.fnOf x q ⟨[],as,b7,[],[],b7,[]⟩ body scope .none kV a b m c ct) ⟨us,[]⟩=pure ((as.map (·.arg)).zip us):=by
 have e:=vq _ us d hl;have f:=zp _ us hl;change(if _ then _ else _)=_;rw[ğ (by simp[hl])];have g:∀k:Nat,¬(!(((as.map (·.arg)).take k).filter λn=>(((as.map (·.arg)).zip us).lookup n).isNone).isEmpty)=cb:=λk=>by
  rw[Mh.mpr λn h=>Mh.mp f n (Rt h)];show l'
 show(ğ (g _)).trans ?_;have hz:∀(l:List Str) (i j:Nat),(l.drop i).zip ((b7.getD #[]:Array d4).toList.drop j)=[]:=λl i j=>by rw[show(b7.getD #[]:Array d4).toList=[] from rfl,List.drop_nil,List.zip_nil_right]
 show Eq.trans (ġ (λz=>Bind.bind (ě z _ _) _) (hz _ _ _)) ?_;show ġ (pure:List (Str×d4)->Sem (List (Str×d4))) ((ġ (List.filterMap _) (vu _)).trans e)
structure Me where
 fn:Fn
 i:Nat
 N:List Str
 a:eW
 c:eW
 m:d4
 cr:Obj
abbrev Me.fd(top:Nat->Nw)(m:Me):SN:=PySem.W.fnOf m.fn.name m.fn.name (gL (top m.i)) (cU (top m.i)) (aU (top m.i)) .none .none .none m.m b7 (.ref m.c) .none
abbrev Me.fo(top:Nat->Nw)(m:Me):Obj:=⟨.type "function",b7,.func (m.fd top),#[]⟩
@[reducible]def Gx:=Obj×List (eW×Obj)
abbrev adr(ms:List Me)(xa:List eW):List eW:=3::(ms.flatMap (λm=>[m.c,m.a])++xa)
abbrev J'(top:Nat->Nw)(g:Gx)(ms:List Me):PySem.W.Frag:=(3,g.1)::(ms.flatMap (λm=>[(m.c,m.cr),(m.a,m.fo top)])++g.2)
def vt(top:Nat->Nw)(g:Gx)(ms:List Me)(xa:List eW)(h:g.2.map (·.1)=xa):adr ms xa=(J' top g ms).map (·.1):=by
 unfold adr J';rw[eF,mu,List.map_flatMap,h];rfl
abbrev EM(v:Option (Option d4))(a:eW):Bool:=match v with|some (bD (.ref b))=>df (b=a)|_=>cc
def B8(h:EM v a=cb):v=bD (bD (.ref a)):=by
 unfold EM at h;split at h
 .rw[Ģ h]
 .cases h
abbrev nn(o:Option (Option d4)):Bool:=match o with|some b7=>cb|_=>cc
def Gz(h:nn o=cb):o=bD b7:=by
 unfold nn at h;split at h
 .rfl
 .cases h
abbrev GA(p:Arguments)(ps:List Str):Bool:=p.posonlyargs.isEmpty&&p.vararg.isNone&&p.kwonlyargs.isEmpty&&p.kw_defaults.isEmpty&&p.kwarg.isNone&&p.defaults.isEmpty&&df (p.args.map (·.arg)=ps)
abbrev UX(N:List Str)(b:Nat)(a:Nj):Bool:=df (a.kind=.function)&&df (a.isCoroutine=cc)&&df (a.isGenerator=cc)&&decide N.Nodup&&(N.take b).all (nz a)&&a.names.all (λy=>df (y.2≠.free))
abbrev UY(ck:Ck)(top:Nat->Nw)(K:PySem.W.Frag)(m:Me):Bool:=PySem.W.codeIn K (.ref m.c) m.fn.name&&PySem.W.keepIn K (.ref m.a)&&EM (PySem.W.nsIn K ro m.fn.name) m.a&&GA (gL (top m.i)) (m.N.take m.fn.np) &&
 UX m.N m.fn.np (aU (top m.i))&&df (m.N.length=m.fn.ns)&&df (m.fn.np<=m.fn.ns)&&(eh ck m.fn.bd m.N (aU (top m.i)) (cU (top m.i))&&QI m.fn)
abbrev UZ(K:PySem.W.Frag)(p:Str×U):Bool:=match p.2,PySem.W.nsIn K ro p.1 with
 |.int i,bD (bD (.int j _))=>df (i=j)
 |.str i,bD (bD (.str j _))=>df (i=j)
 |_,_=>cc
abbrev M8(ck:Ck)(top:Nat->Nw)(K:PySem.W.Frag)(ms:List Me):Bool:=ms.all (UY ck top K)&&bT.all (λy=>nn (PySem.W.nsIn K ro y))&&ck.gl.all (UZ K)&&df (K.map (·.1)).Nodup
def GB{K:PySem.W.Frag}(b:(K.map (·.1)).Nodup)(h:(a,o)∈K):K.lookup a=bD o:=by
 induction K with
 |nil=>cases h
 |cons p K c =>
  rw[eF,nc]at b;rw[p7];rcases d6.mp h with rfl|h
  .simp
  .have:(a==p.1)=cc:=by
    rw[ģ];rintro rfl;show b.1 (ez.mpr ⟨_,h,rfl⟩)
   rw[this];show c b.2 h
section
def CS(c:M8 ck top (J' top g ms) ms=cb)(h:m∈ms):MP (J' top g ms) m.fn.name m.fn.name (top m.i) m.a (m.fd top)/\PySem.W.nsIn (J' top g ms) ro m.fn.name=bD (bD (.ref m.a)) /\
  (∀us:List d4,us.length=(m.N.take m.fn.np).length->ď (m.fd top) ⟨us,[]⟩=pure ((m.N.take m.fn.np).zip us))/\eE m.N (m.N.take m.fn.np) (aU (top m.i))/\m.N.length=m.fn.ns/\(m.N.take m.fn.np).length=m.fn.np/\(eh ck m.fn.bd m.N (aU (top m.i)) (cU (top m.i))=cb/\QI m.fn=cb):=by
 simp only[M8,cL,Ĝ]at c;have z:=r6.mp c.1.1.1 m h;simp only[UY,cL,Ĝ]at z;obtain⟨⟨⟨⟨⟨⟨⟨j,k⟩,l⟩,b⟩,d⟩,n⟩,u⟩,o⟩:=z;simp only[UX,cL,Ĝ]at d;obtain⟨⟨⟨⟨⟨s1,s2⟩,s3⟩,s4⟩,p⟩,q⟩:=d;have r:(J' top g ms).lookup m.a=bD (m.fo top):=GB c.2 (d6.mpr (.inr (tj _ (List.mem_flatMap.mpr ⟨m,h,by simp⟩))));have hl:(m.N.take m.fn.np).length=m.fn.np:=by rw[vr];lia
 show⟨Dv r j k,B8 l,λus f=>?_,⟨s1,s2,s3,s4,by rw[hl],λx s=>?_,λy t=>?_⟩,n,hl,o⟩
 .unfold Me.fd;revert b;cases gL (top m.i) with
  |mk v as w A B C D =>
   intro b;simp only[GA,cL,Mp,R5,Ĝ]at b;obtain⟨⟨⟨⟨⟨⟨rfl,rfl⟩,rfl⟩,rfl⟩,rfl⟩,rfl⟩,e⟩:=b;rw[<-e]at f ⊢;show zq (by rw[e];show(ZE _ _).nodup s4) f
 .have:=r6.mp p x s;simpa[nz] using this
 .have:=r6.mp q y t;simpa using this
def GC(i:M8 ck top (J' top g ms) ms=cb)(X:(J' top g ms).In h)(G:h.Ns ro mg)(j:m∈ms):Ld ck (J' top g ms) mg m.fn :=
 let ⟨a,b,c,d,e,f,k⟩:=CS i j
 ⟨_,_,_,_,_,_,a,PySem.W.mg_of X G b,.all c,d,e,f,k⟩
def EN(c:M8 ck top (J' top g ms) ms=cb)(X:(J' top g ms).In h)(G:h.Ns ro mg):∀p∈ck.gl,∃val v,mg p.1=bD val/\RelV v val/\∀(C:Ct) S H,Rep C S H p.2 v:=by
 intro p d;simp only[M8,cL,Ĝ]at c;have z:=r6.mp c.1.2 p d;unfold UZ at z;split at z
 .rename_i i j k a b;obtain rfl:=Ģ z;show⟨_,.int i,PySem.W.mg_of X G b,⟨_,rfl⟩,λ_ _ _=>by rw[a];rfl⟩
 .rename_i i j k a b;obtain rfl:=Ģ z;show⟨_,.str i,PySem.W.mg_of X G b,⟨_,rfl⟩,λ_ _ _=>by rw[a];rfl⟩
 .cases z
end
abbrev gX(ck:Ck)(K:PySem.W.Frag):Bool:=ck.xc.all (λx=>match PySem.W.nsIn K ro x with|some (bD (.ref C))=>PySem.W.excIn K C Og "ValueError.__new__"|_=>cc)&&ck.xd.all λp=>match PySem.W.nsIn K ro p.1,PySem.W.nsIn K ro p.2 with
 |some (bD (.ref C)),bD (bD (.ref D))=>PySem.W.exmOne K (.ref C) (.ref D)==bD cb
 |_,_=>cc
def EO{K:PySem.W.Frag}(z:gX ck K=cb)(X:K.In h)(G:h.Ns ro mg):Ow ck K mg:=by
 rw[gX,cL,r6,r6]at z;show⟨λx b=>?_,λp c=>?_⟩
 .have:=z.1 x b;split at this
  .rename_i e;show⟨_,PySem.W.mg_of X G e,e,this⟩
  .cases this
 .have:=z.2 p c;split at this
  .rename_i a d;show⟨_,_,PySem.W.mg_of X G a,a,PySem.W.mg_of X G d,beq_iff_eq.mp this⟩
  .cases this
def walk{l:PySem.W.OpenLaw}{K:Va->PySem.W.Frag}
  (A:l.most=bD 63) (B:d.params.defaults=[]) (D:fT (dp+1) Ue) (I:∀(w:Ie) (h:Ks),J w h->(K w.params).In h)
  (j:(Pg.map (·.name)).Nodup) (r:QJ ck Pg=cb) (L:fn.io=b7) (O:fn∈Pg) (LW:fn.name=d.name)
  (F:∀(w:Ie) (mg:Str->Option d4) (fa:eW) (h:Ks),(K w.params).In h->h.Ns ro mg->mg d.name=bD (.ref fa) ->
   (∀y∈bT,mg y=b7)/\(∀p∈ck.gl,∃val v,mg p.1=bD val/\RelV v val/\∀(C:Ct) S H,Rep C S H p.2 v)/\(∀g∈Pg,Ld ck (K w.params) mg g)/\Ow ck (K w.params) mg /\
   ∃(c:Str) (st:Nw) (i:SN) (N:List Str),MP (K w.params) fn.name c st fa i/\eE N [x] (aU st)/\N.length=fn.ns/\1=fn.np/\eh ck fn.body N (aU st) (cU st)=cb/\∀(s:hY) (u:d4),ZA s i ⟨[u],[]⟩ [(x,u)])
  (T:∀ns:List Int,ns.length<=63->Io Pg (dp+1) fn.name [tK ns]=bD (.ok (.loc,.bl cb))) :
  PySem.W.WalkO q m XP J l.row.toRowW d [] (λf vs=>PySem.call f vs) :=
 L2.AQ (n:=63) (k:=dp+1) (x:=x) (CX:=λw=>Ny l.prog w) (sp:=λw=>spT l.prog w (K w.params) (bB (Io Pg dp) fn) fn.np) A (by decide) B D I
  (λw mg fa h Q G Y=>by
   have⟨e,o,ld,xs,c,st,i,N,F1,S,hN,Kf,hc,hb⟩:=F w mg fa h Q G Y;show⟨i,hb,λbase _ _=>CQ F1 S hN Kf hc e (vp j r e o ld xs dp).1 o (vp j r e o ld xs dp).2 xs⟩)
  (λw H a ns hl _ hS=>by
   have t:=T ns hl;rw[tJ j O,ou L]at t;have Xj:fn.np=1:=(pO t).1.symm;show⟨Xj.symm,[tK ns],.ok (.loc,.bl cb),JI H,t,λ_ z=>z,⟨_,_,rfl,tL hS,rfl⟩,.inr (.inl rfl),λv H' S' b=>b.loc rfl⟩)
  λ_ _ _ _ _ ⟨_,_,_,_,_,_,z⟩=>z
def walk2{l:PySem.W.OpenLaw}{g:Va->Gx}
  (z:l.most=bD 63) (A:d.params.defaults=[]) (B:fT (dp+1) Ue) (o:ms.map (·.fn)=Pg) (C:(Pg.map (·.name)).Nodup) (D:QJ ck Pg=cb) (p:m.fn.io=b7) (r:m∈ms) (t:m.fn.name=d.name) (H:m.N.take m.fn.np=[x])
  (ok:∀P,M8 ck top (J' top (g P) ms) ms=cb) (I:∀P,gX ck (J' top (g P) ms)=cb) (J:∀P,(g P).2.map (·.1)=xa) (T:∀ns:List Int,ns.length<=63->Io Pg (dp+1) m.fn.name [tK ns]=bD (.ok (.loc,.bl cb))) :
  PySem.W.WalkO q j O (PySem.W.kHook (λP=>J' top (g P) ms) (adr ms xa) λP=>vt top (g P) ms xa (J P)).says l.row.toRowW d [] (λf vs=>PySem.call f vs) :=
 walk z A B (λw h Y=>PySem.W.kIn_of Y) C D p (o▸ez.mpr ⟨m,r,rfl⟩) t (λw mg fa h X G v=>by
  have hk:=ok w.params;have⟨a,b,c,e,f,k,n⟩:=CS hk r;rw[<-t,PySem.W.mg_of X G b]at v;cases v;rw[H]at c e k;show⟨λy i=>PySem.W.mg_none_of X G (Gz ?_),EN hk X G,λy i=>?_,EO (I w.params) X G,_,_,_,_,a,e,f,k,by have:=n.1;rw[show m.fn.bd=m.fn.body by unfold Fn.bd;rw[p]]at this;show this,λs u=>.of_eq (c [u] rfl)⟩
  .simp only[M8,cL]at hk;show r6.mp hk.1.1.2 y i
  .rw[<-o]at i;have⟨Q,L,rfl⟩:=ez.mp i;show GC hk X G L) T
abbrev co(n:Str)(k l c:Nat)(r s:eW)(x y z:d4)(a b t:Nat):Obj:=⟨.type "code",b7,.fields #[.str n k,.str n (k+1),.str "/claim/cut.py" (k+2),.int l 0,.int c 0,.int 0 0,.int 0 0,.int 3 0,.ref r,.bool cb,.int t 0,.ref s,.none,x,y,z,.int a 0,.int l 0,.str "/claim/cut.py" b],#[]⟩
abbrev ge(P:Va)(x:Str)(k:Nat)(v:d4):DictEntry:=⟨Qf P x,.str x k,v⟩
end TM
namespace TM
open PySem L2
section
abbrev Run(m:M α)(st:ar)(a:α)(st':ar):Prop:=m st=bD (.ok a,st')
def af(c:Run m st a st1)(d:Run (f a) st1 b st2):Run (m >>= f) st b st2:=by
 change M.bind m f st=_;unfold M.bind;rw[show m st=_ from c];show d
def aW:Run (pure a:M α) st a st:=rfl
def c9(h:o=bD a):Run (M.Im o) st a st:=by subst h;rfl
def bf(h:br rs st):Run (aD rs) st () st:=by change aD rs st=_;unfold aD;rw[ĝ h]
abbrev kv(i:Nat)(k:Kd):Kd:=if k.root=cb then .bor i else k
def gF(h:st[i]?=bD (bD (k,u)))(hk:k≠.B':=by intro z;cases z):Run (dE i) st (kv i k,u) st:=by
 change dE i st=_;unfold dE;rw[h];cases k<;>first|rfl|show absurd rfl hk
def ae(h:st[i]?=bD (bD (.loc,u))):Run (ev Γ (.var i)) st (.loc,u) st:=gF h
def aS(h:st[i]?=bD (bD (.any,u))):Run (ev Γ (.var i)) st (.any,u) st:=gF h
def ao(h:st[i]?=bD (bD (.own,u))):Run (ev Γ (.var i)) st (.bor i,u) st:=gF h
def aw:Run (ev Γ (.cst u)) st (.loc,u) st:=rfl
def zr:Run (ev Γ (.L_ x u)) st (.loc,u) st:=rfl
def bj(c:Run (ev Γ a) st x st1)(d:Run (ev Γ b) st1 y st2)(e:br [x,y] st2)(f:JD op x y=bD r):Run (ev Γ (.bin op a b)) st r st2 :=
 af c (af d (af (bf e) (c9 f)))
def ij(d:Run (ev Γ a) st x st1)(e:Run (ev Γ b) st1 y st2)(f:br [x,y] st2)(g:bF op x.2 y.2=bD c):Run (ev Γ (.cmp op a b)) st (.loc,.bl c) st2 :=
 af d (af e (af (bf f) (af (c9 g) aW)))
def a_(c:Run (ev Γ a) st x st1)(d:Run (ev Γ b) st1 y st2)(e:br [x,y] st2)(f:g_ x y.2=bD r):Run (ev Γ (.idx a b)) st r st2 :=
 af c (af d (af (bf e) (c9 f)))
def qY:Run (NA Γ []) st b7 st:=rfl
def qZ(h:Run (ev Γ e) st (k,.int i) st1):Run (NA Γ [e]) st (bD i) st1:=af h rfl
def q_(b:Run (ev Γ a) st x st1)(c:Run (NA Γ lo) st1 l st2)(d:Run (NA Γ e) st2 h st3)(f:br [x] st3)(g:nq x l h=bD r):Run (ev Γ (.JJ a lo e)) st r st3 :=
 af b (af c (af d (af (bf f) (c9 g))))
def ai:Run (bL Γ []) st [] st:=rfl
def aa(a:Run (ev Γ e) st r st1)(b:Run (bL Γ es) st1 rs st2):Run (bL Γ (e::es)) st (r::rs) st2:=af a (af b aW)
def bZ(a:Run (bL Γ es) st rs st1)(b:br rs st1)(c:Jh f rs=bD r):Run (ev Γ (.bi f es)) st r st1:=af a (af (bf b) (c9 c))
def zt(a:Run (bL Γ es) st rs st1)(b:br rs st1)(c:wD f rs=bD r):Run (ev Γ (.Ma f es)) st r st1:=af a (af (bf b) (c9 c))
def ra(b:Run (ev Γ a) st x st1)(c:Run (bL Γ es) st1 rs st2)(d:br (x::rs) st2)(e:jL m x.2 rs=bD r):Run (ev Γ (.J6 m a es)) st r st2:=af b (af c (af (bf d) (c9 e)))
def vv(h:Γ f us=bD (.ok r))(a:isAny r.1=cc):Run (lQ Γ f us) st r st:=by
 have⟨k,u⟩:=r;change lQ Γ f us st=_;unfold lQ;rw[h];cases k<;>first|rfl|cases a
def aF(a:Run (bL Γ es) st rs st1)(b:br rs st1)(c:Γ f (rs.map (·.2))=bD (.ok r))(d:isAny r.1=cc:=by show rfl):Run (ev Γ (.call f es)) st r st1:=af a (af (bf b) (vv c d))
def jm(a:Run (bL Γ es) st rs st1)(b:br rs st1)(c:Run (dC rs) st1 us st2)(d:us.length<=c4):Run (ev Γ (.tup es)) st (.loc,.tup us) st2:=by
 show af a (af (bf b) (af c ?_));rw[ĝ d];show aW
def cS(a:Run (bL Γ es) st rs st1)(b:br rs st1)(c:Run (dC rs) st1 us st2)(d:us.length<=c4):Run (ev Γ (.lst es)) st (.own,.lst us) st2:=by
 show af a (af (bf b) (af c ?_));rw[ĝ d];show aW
def mz:Run (ev Γ (.JC r)) st (.own,if r=cb then .IM [] else .HM [] []) st:=rfl
def rb:Run (lift (.own,u)) st u st:=rfl
def aI:Run (lift (.loc,u)) st u st:=rfl
def jn(h:Ii u=cb):Run (lift (.any,u)) st u st:=by
 change(if Ii u=cb then(pure u:M U) else M.fail) st=_;rw[ĝ h];rfl
def aY:Run (dC []) st [] st:=rfl
def aN(a:Run (lift r) st u st1)(b:Run (dC rs) st1 us st2):Run (dC (r::rs)) st (u::us) st2:=af a (af b aW)
def ER(h:Run (ev Γ e) st r st1):Run (lV Γ [e]) st r st1:=h
def ES(h:Run (ev Γ e) st (k,.bl p) st1)(a:if p=cb then Run (lV Γ (b::es)) st1 r st2 else st2=st1/\r=(.loc,.bl cc)):Run (lV Γ (e::b::es)) st r st2:=by
 show af h ?_;cases p with
 |true=>show a
 |false=>have⟨rfl,rfl⟩:=a;show aW
def GD(h:Run (lV Γ es) st r st1):Run (ev Γ (.and es)) st r st1:=h
def GF(h:Run (qP Γ es) st r st1):Run (ev Γ (.or es)) st r st1:=h
def bb(d:Run (ev Γ a) st x st1)(e:Run (ev Γ b) st1 y st2)(f:br [x,y] st2)(g:bF op x.2 y.2=bD c):Run (H0 Γ (.cmp op a b)) st c st2:=af d (af e (af (bf f) (c9 g)))
def zu(h:Run (H0 Γ a) st c st1):Run (H0 Γ (.not a)) st (!c) st1:=af h aW
def il(h:Run (aR Γ es) st c st1):Run (H0 Γ (.and es)) st c st1:=h
def ET(h:Run (gv Γ es) st c st1):Run (H0 Γ (.or es)) st c st1:=h
def ei:Run (aR Γ []) st cb st:=rfl
def cZ(h:Run (H0 Γ e) st c st1):Run (aR Γ [e]) st c st1:=h
def pP(h:Run (H0 Γ e) st cb st1)(a:Run (aR Γ (b::es)) st1 c st2):Run (aR Γ (e::b::es)) st c st2:=af h a
def zv(h:Run (H0 Γ e) st cc st1):Run (aR Γ (e::a::es)) st cc st1:=af h aW
def zw(h:Run (H0 Γ e) st c st1):Run (gv Γ [e]) st c st1:=h
def GG(h:Run (H0 Γ e) st cb st1):Run (gv Γ (e::a::es)) st cb st1:=af h aW
def vA(h:Run (H0 Γ e) st cc st1)(a:Run (gv Γ (b::es)) st1 c st2):Run (gv Γ (e::b::es)) st c st2:=af h a
def aO:Run (eZ i (.own,u)) st () (st.set i (bD (.own,u))):=rfl
def aC:Run (eZ i (.loc,u)) st () (st.set i (bD (.loc,u))):=rfl
def mB:Run (eZ i (.any,u)) st () (st.set i (bD (.any,u))):=rfl
def GH(a:Run (ev Γ e) st r st1)(b:Run (eZ i r) st1 () st2):Run (exec Γ (.set i e)) st .nx st2:=af a (af b aW)
def GI(b:∃k' us',st[i]?=bD (bD (k',.lst us'))/\k'≠.B')(c:Run (ev Γ e) st r st1)(d:Run (lift r) st1 u st2)(f:st2[i]?=bD (bD (k,.lst us)))(hk:k.root=cb)(hl:us.length<c4):
  Run (exec Γ (.app i e)) st .nx (st2.set i (bD (k,.lst (us++[u])))):=by
 have⟨k',us',b,g⟩:=b;show af (gF b g) (af (a:=()) (st1:=st) rfl (af c (af d (af (a:=()) ?_ aW))));change modS i (yD u) st2=_;unfold modS;rw[f];simp only[hk,ĥ];have e:yD u (.lst us)=bD (.lst (us++[u])):=by change(if us.length<c4 then _ else _)=_;rw[ĝ hl]
 rw[e]
def GJ(a:Run (ev Γ e) st r st1)(b:Run (retS r) st1 f st2):Run (exec Γ (.ret e)) st f st2:=af a b
def mC:Run (retS (.own,u)) st (.rt .own u) st:=rfl
def dI:Run (retS (.loc,u)) st (.rt .loc u) st:=rfl
def GK(h:Ii u=cb):Run (retS (.any,u)) st (.rt .loc u) st:=by
 change(if Ii u=cb then(pure (Fl.rt .loc u):M Fl) else pure (.rt .any u)) st=_;rw[ĝ h];rfl
def kl(h:st[j]?=bD (bD (.own,u))):Run (retS (.bor j,a)) st (.rt .own u) (st.set j b7):=by
 change(match st[j]? with|some (bD (.own,u))=>bD (Ex.ok (Fl.rt .own u),st.set j b7)|_=>b7)=_;rw[h]
def pQ(d:Run (H0 Γ c) st cb st1)(e:Run (execs Γ a) st1 f st2):Run (exec Γ (.ite c a b)) st f st2:=af d e
def tM(d:Run (H0 Γ c) st cc st1)(e:Run (execs Γ b) st1 f st2):Run (exec Γ (.ite c a b)) st f st2:=af d e
def aJ:Run (execs Γ []) st .nx st:=rfl
def gG(a:Run (exec Γ s) st .nx st1)(b:Run (execs Γ ss) st1 f st2):Run (execs Γ (s::ss)) st f st2:=af a b
def zx(a:Run (exec Γ s) st (.rt k u) st1):Run (execs Γ (s::ss)) st (.rt k u) st1:=af a aW
def av(a:Run (ev Γ e) st r st1)(b:Run (eZ i r) st1 () st2)(c:Run (execs Γ ss) st2 f st3):Run (execs Γ (.set i e::ss)) st f st3:=gG (GH a b) c
def ff(a:st[i]?=bD (bD (k',.lst us')))(b:Run (ev Γ e) st r st1)(c:Run (lift r) st1 u st2)(d:st2[i]?=bD (bD (k,.lst us)))(hk:k.root=cb)(hl:us.length<c4)
  (g:Run (execs Γ ss) (st2.set i (bD (k,.lst (us++[u])))) f st3) (h:k'≠.B':=by intro z;cases z):Run (execs Γ (.app i e::ss)) st f st3:=gG (GI ⟨_,_,a,h⟩ b c d hk hl) g
def bV(a:Run (ev Γ e) st r st1)(b:Run (retS r) st1 (.rt k u) st2):Run (execs Γ (.ret e::ss)) st (.rt k u) st2:=zx (GJ a b)
def gH(d:Run (H0 Γ c) st cb st1)(e:Run (execs Γ a) st1 .nx st2)(g:Run (execs Γ ss) st2 f st3):Run (execs Γ (.ite c a b::ss)) st f st3:=gG (pQ d e) g
def dn(d:Run (H0 Γ c) st cc st1)(e:Run (execs Γ b) st1 .nx st2)(g:Run (execs Γ ss) st2 f st3):Run (execs Γ (.ite c a b::ss)) st f st3:=gG (tM d e) g
def tN(d:Run (H0 Γ c) st cb st1)(e:Run (execs Γ a) st1 (.rt k u) st2):Run (execs Γ (.ite c a b::ss)) st (.rt k u) st2:=zx (pQ d e)
def CT(a:Run (bL Γ src) st rs st1)(b:br rs st1)(c:Kg ik rs=bD xs)(d:uV rs is body=cb)(e:Run (forM t is (execs Γ body) rs xs) st1 f st2):
  Run (exec Γ (.Ia t is ik src body)) st f st2:=by
 show af a (af (bf b) (af (c9 c) ?_));rw[ĝ d];show e
def cH(a:Run (bL Γ src) st rs st1)(b:br rs st1)(c:Kg ik rs=bD xs)(d:uV rs is body=cb)(e:Run (forM t is (execs Γ body) rs xs) st1 .nx st2)(g:Run (execs Γ ss) st2 f st3):
  Run (execs Γ (.Ia t is ik src body::ss)) st f st3:=gG (CT a b c d e) g
def rf(h:br rs st):Run (forM t is body rs []) st .nx st:=af (bf h) aW
def rg(h:br rs st)(a:Run (dc t is x) st () st1)(b:Run body st1 .nx st2)(c:Run (forM t is body rs xs) st2 f st3):Run (forM t is body rs (x::xs)) st f st3:=af (bf h) (af a (af b c))
def HG(h:br rs st)(a:Run (dc t is x) st () st1)(b:Run body st1 (.rt k u) st2):Run (forM t is body rs (x::xs)) st (.rt k u) st2:=af (bf h) (af a (af b aW))
theorem rh(I:List (Kd×U)->ar->Prop)(hs:∀xs st,I xs st->br rs st)(ZS:∀x xs st,I (x::xs) st->∃st1 st2,Run (dc t is x) st () st1/\Run body st1 .nx st2/\I xs st2):
  ∀(xs:List (Kd×U)) (st:ar),I xs st->∃st',Run (forM t is body rs xs) st .nx st'/\I [] st'
 |[],st,h=>⟨st,rf (hs _ _ h),h⟩
 |x::xs,st,h=>by
  have⟨s1,s2,a,b,c⟩:=ZS x xs st h;have⟨s3,d,e⟩:=rh I hs ZS xs s2 c;show⟨s3,rg (hs _ _ h) a b d,e⟩
def bM(h:Run (eZ i r) st () st1):Run (dc cc [i] r) st () st1:=h
def aE(a:us.length=fn.np)(hk:k=.own\/k=.loc)(hs:start us fn.ns=st0)(h:Run (execs Γ fn.body) st0 (.rt k u) st):bB Γ fn us=bD (.ok (k,u)):=by
 subst hs;unfold bB;rw[ĝ a,show execs Γ fn.body (start us fn.ns)=_ from h];rcases hk with rfl|rfl<;>rfl
def rj{cond:M Bool}(h:br src st):Run (bS k t cond elt src [] acc) st acc st:=af (bf h) aW
def mD{cond:M Bool}(h:br src st)(c:Run (dc t (js k) x) (mx k b7++st) () s1)(d:Run cond s1 cb s2)(e:Run elt s2 r s3)(g:Run (lift r) s3 u s4)
  (hl:acc.length<c4) (i:Run (bS k t cond elt src xs (acc++[u])) (s4.drop k) us st2):Run (bS k t cond elt src (x::xs) acc) st us st2:=by
 show af (bf h) (af (a:=bD u) (st1:=s4.drop k) ?_ ?_)
 .change inScope k _ st=_;unfold inScope;have hh:Run (dc t (js k) x >>= λ_=>cond >>= λb=>if b=cb then(elt >>= λr=>lift r >>= λu=>pure (bD u)) else pure b7) (mx k b7++st) (bD u) s4 :=
   af c (af d (show Run (elt >>= λr=>lift r >>= λu=>pure (bD u)) s2 (bD u) s4 from af e (af (f:=λu=>pure (bD u)) g rfl)))
  rw[show _=_ from hh]
 .change Run (if acc.length<c4 then bS k t cond elt src xs (acc++[u]) else M.fail) _ _ _;rw[ĝ hl];show i
def tP{cond:M Bool}(h:br src st)(c:Run (dc t (js k) x) (mx k b7++st) () s1)(d:Run cond s1 cc s2)
  (e:Run (bS k t cond elt src xs acc) (s2.drop k) us st2):Run (bS k t cond elt src (x::xs) acc) st us st2:=by
 show af (bf h) (af (a:=b7) (st1:=s2.drop k) ?_ e);change inScope k _ st=_;unfold inScope;have hh:Run (dc t (js k) x >>= λ_=>cond >>= λb=>if b=cb then(elt >>= λr=>lift r >>= λu=>pure (bD u)) else pure b7) (mx k b7++st) b7 s2 :=
  af c (af d (show Run (pure b7:M (Option U)) s2 b7 s2 from rfl))
 rw[show _=_ from hh]
def bW{src cond:List E}(a:Run (bL Γ src) st rs st1)(b:br rs st1)(c:Kg ik rs=bD xs)(d:Run (bS k t (aR Γ cond) (ev Γ e) rs xs []) st1 us st2):Run (ev Γ (.comp k t ik src cond e)) st (.own,.lst us) st2 :=
 af a (af (bf b) (af (c9 c) (af d aW)))
theorem zy{cond:M Bool}(h:br src st)(g:Kd×U->U)(a:Kd×U->Kd):∀(xs:List (Kd×U)) (acc:List U),acc.length+xs.length<=c4 ->
  (∀x∈xs,x.1=.loc\/x.1=.any)->(∀x∈xs,Run cond (bD x::st) cb (bD x::st)/\Run elt (bD x::st) (a x,g x) (bD x::st)/\Run (lift (a x,g x)) (bD x::st) (g x) (bD x::st))->Run (bS 1 cc cond elt src xs acc) st (acc++xs.map g) st
 |[],acc,_,_,_=>by rw[Jc,vu];show rj h
 |x::xs,acc,hl,hk,c=>by
  have⟨d,e,f⟩:=c x (by simp);rw[k9]at hl;show mD (s1:=bD x::st) (s2:=bD x::st) (s3:=bD x::st) (s4:=bD x::st) h ?_ d e f ⋯ ?_
  .have⟨k,u⟩:=x;rcases hk _ (lg ..) with z|z<;>(cases z;rfl)
  .have:=zy h g a xs (acc++[g x]) (by simp;lia) (λy b=>hk y (by simp[b])) λy b=>c y (by simp[b]);rw[eF];simpa using this
theorem mE{cond:M Bool}(h:br src st)(p:Kd×U->Bool)(g:Kd×U->U)(b:Kd×U->Kd):∀(xs:List (Kd×U)) (acc:List U),acc.length+xs.length<=c4 ->
  (∀x∈xs,x.1=.loc\/x.1=.any)->(∀x∈xs,Run cond (bD x::st) (p x) (bD x::st)/\Run elt (bD x::st) (b x,g x) (bD x::st)/\Run (lift (b x,g x)) (bD x::st) (g x) (bD x::st))->Run (bS 1 cc cond elt src xs acc) st (acc++(xs.filter p).map g) st
 |[],acc,_,_,_=>by rw[Tv,Jc,vu];show rj h
 |x::xs,acc,hl,hk,e=>by
  have⟨c,i,j⟩:=e x (by simp);rw[k9]at hl;have f:Run (dc cc (js 1) x) (mx 1 b7++st) () (bD x::st):=by
   have⟨k,u⟩:=x;rcases hk _ (lg ..) with z|z<;>(cases z;rfl)
  cases d:p x with
  |true =>
   rw[d]at c;show mD (s1:=bD x::st) (s2:=bD x::st) (s3:=bD x::st) (s4:=bD x::st) h f c i j ⋯ ?_;have:=mE h p g b xs (acc++[g x]) (by simp;lia) (λy a=>hk y (by simp[a])) λy a=>e y (by simp[a]);rw[z8,ĝ d,eF];simpa using this
  |false =>
   rw[d]at c;show tP (s1:=bD x::st) (s2:=bD x::st) h f c ?_;have:=mE h p g b xs acc ⋯ (λy a=>hk y (by simp[a])) λy a=>e y (by simp[a]);rw[z8,ğ (by simp[d])];show this
end
section
end
abbrev IA(Pg:List Fn)(f:Str)(fn:Fn):Prop:=(Pg.find? λg=>df (g.name=f))=bD fn
section
def aB(h:IA Pg f fn)(us:List U)(a:fn.io=b7:=by rfl):Io Pg (d+1) f us=bB (Io Pg d) fn us:=by
 change(match Pg.find? λg=>df (g.name=f) with|some fn=>ny (Io Pg d) fn us|none=>b7)=_;rw[show _=bD fn from h];change ny _ _ _=_;unfold ny;rw[a]
end
def bK(h:0<j):JD .mod (k,.int i) (k',.int j)=bD (.loc,.int (i % j)):=by change(Bc i j).map _=_;rw[Bc,ĝ h];rfl
def zA(h:0<j/\j<1073741824):JD .Ku (k,.int i) (k',.int j)=bD (.loc,.int (i / j)):=by change(Bb i j).map _=_;rw[Bb,ĝ h];rfl
def oJ(h:(-(2 ^ 64)<i/\i<2 ^ 64)\/(-(2 ^ 64)<j/\j<2 ^ 64)):JD .mul (k,.int i) (k',.int j)=bD (.loc,.int (i * j)):=by change(Ba i j).map _=_;rw[Ba,ĝ h];rfl
def oK(h:0<=j/\j<=1000000/\i.natAbs<2 ^ 64):JD .pow (k,.int i) (k',.int j)=bD (.loc,.int (i ^ j.toNat)):=by change(Bd i j).map _=_;rw[Bd,ĝ h];rfl
def dG:JD .add (k,.int i) (k',.int j)=bD (.loc,.int (i+j)):=rfl
def la:JD .sub (k,.int i) (k',.int j)=bD (.loc,.int (i - j)):=rfl
def aV(h:Il xs i=bD u):g_ (k,.lst xs) (.int i)=bD (kE k,u):=by change(Il xs i).map _=_;rw[h];rfl
def lp(h:Il xs i=bD u):g_ (k,.tup xs) (.int i)=bD (kE k,u):=by change(Il xs i).map _=_;rw[h];rfl
def vB:Kd.own≠Kd.B':=by decide
local macro_rules
 |`(tactic| sizeOf_list_dec)=>`(tactic| first|exact aJ|apply av|apply ff|apply bV|exact aw|exact ae rfl|exact aS rfl|exact ao rfl|apply bj|apply ij|apply a_|apply bZ|apply aF|apply ra|apply bb|exact ai|apply aa|apply jm|apply cS|exact aY|apply aN|exact aI|exact rb|(first|exact trivial|exact⟨⟨_,rfl,rfl⟩,trivial⟩|exact⟨⟨_,rfl,rfl⟩,⟨_,rfl,rfl⟩,trivial⟩)|exact dG|exact la|exact bK (by first|lia|decide)|exact zA (by first|lia|decide)|exact oJ (by first|lia|decide)|exact oK (by decide)|exact aC|exact aO|exact mB|exact dI|exact mC|exact kl rfl|exact mA _|exact rfl|exact vB)
abbrev tQ(c k:Int):Int:=((c % 10 ^ 15+1) * 48271+k * k * 16807+k * 7919) % 2147483647 * 69621 % 2147483629
abbrev xi:Fn:=⟨"_law_mix",2,3,[.set 2 (.bin .add (.bin .add (.bin .mul (.bin .add (.bin .mod (.var 0) (.bin .pow (.cst (.int 10)) (.cst (.int 15)))) (.cst (.int 1))) (.cst (.int 48271))) (.bin .mul (.bin .mul (.var 1) (.var 1)) (.cst (.int 16807)))) (.bin .mul (.var 1) (.cst (.int 7919)))),.ret (.bin .mod (.bin .mul (.bin .mod (.var 2) (.cst (.int 2147483647))) (.cst (.int 69621))) (.cst (.int 2147483629)))]⟩
def B9(a:0<=k)(b:k<2 ^ 63):bB Γ xi [.int c,.int k]=bD (.ok (.loc,.int (tQ c k))):=by
 apply aE (st0:=[bD (.loc,.int c),bD (.loc,.int k),b7]) rfl (.inr rfl) rfl
 repeat' sizeOf_list_dec
abbrev vC:Fn:=⟨"_law_cell",2,3,[.ite (.cmp .lt (.var 1) (.bi .len [.var 0])) [.ret (.idx (.var 0) (.var 1))] [],.set 2 (.cst (.int 0)),.ite (.cmp .gt (.bi .len [.var 0]) (.cst (.int 0))) [.set 2 (.idx (.var 0) (.bin .mod (.var 1) (.bi .len [.var 0])))] [],.ret (.bin .add (.bin .mul (.cst (.int 2)) (.call "_law_mix" [.var 2,.var 1])) (.cst (.int 1)))]⟩
abbrev zB(Γ:Tab):Prop:=∀c k:Int,0<=k->k<2 ^ 63->Γ "_law_mix" [.int c,.int k]=bD (.ok (.loc,.int (tQ c k)))
def zC(h:df (i<j)=c):bF .lt (.int i) (.int j)=bD c:=by subst h;rfl
def jo(h:df (j<i)=c):bF .gt (.int i) (.int j)=bD c:=by subst h;rfl
def eB(h:(i==j)=c):bF .eq (.int i) (.int j)=bD c:=by subst h;rfl
def gT:Jh .len [(k,.lst xs)]=bD (.loc,.int (xs.length:Nat)):=rfl
def jq:Jh .len [(k,.tup xs)]=bD (.loc,.int (xs.length:Nat)):=rfl
abbrev CU(ns:List Int)(k:Nat):Int:=if k<ns.length then(ns[k]?).getD 0 else 2 * tQ ((ns[k % ns.length]?).getD 0) k+1
def zD(f:zB Γ){k:Nat}(hk:k<2 ^ 62):bB Γ vC [.lst (ns.map .int),.int k]=bD (.ok (.loc,.int (CU ns k))):=by
 have b:∀c,Γ "_law_mix" [.int c,.int k]=bD (.ok (.loc,.int (tQ c k))):=λc=>f c k ⋯ ⋯;unfold CU;by_cases h:k<ns.length
 .rw[ĝ h];have a:Il (ns.map U.int) (k:Int)=bD (.int ((ns[k]?).getD 0)):=cn (by simp[h]);apply aE (st0:=[bD (.any,.lst (ns.map .int)),bD (.loc,.int k),b7]) rfl (.inr rfl) rfl;apply tN
  all_goals repeat' (first|show zC (by simp[h])|show aV a|show GK rfl|sizeOf_list_dec)
 .rw[ğ h];have d:bF .lt (.int k) (.int ((ns.map U.int).length:Nat))=bD cc:=zC (by simp;lia);by_cases hz:0<ns.length
  .have g:k % ns.length<ns.length:=X8 _ hz;have a:Il (ns.map U.int) ((k:Int) % ((ns.map U.int).length:Nat))=bD (.int ((ns[k % ns.length]?).getD 0)):=by
    rw[cK,show(k:Int) % (ns.length:Nat)=((k % ns.length:Nat):Int) by lia];show cn (by simp[g])
   have i:(0:Int)<((ns.map U.int).length:Nat):=by simp;lia
   apply aE (st0:=[bD (.any,.lst (ns.map .int)),bD (.loc,.int k),b7]) rfl (.inr rfl) rfl;apply dn
   all_goals repeat' (first|show d|sizeOf_list_dec)
   apply gH
   all_goals repeat' (first|show jo (by simp;lia)|show bK i|show aV a|show b _|sizeOf_list_dec)
  .have e:ns=[]:=Wf ⋯;subst e;apply aE (st0:=[bD (.any,.lst ([].map .int)),bD (.loc,.int k),b7]) rfl (.inr rfl) rfl;apply dn
   all_goals repeat' (first|show d|sizeOf_list_dec)
   apply dn
   all_goals repeat' (first|show b _|sizeOf_list_dec)
abbrev pR:Fn:=⟨"_law_drawn",2,5,[.set 2 (.lst []),.set 3 (.bin .Ku (.var 0) (.cst (.int 2))),.Ia cc [4] .Iv [.var 1] [.ite (.cmp .eq (.bin .mod (.var 0) (.cst (.int 2))) (.cst (.int 0))) [.app 2 (.bin .mod (.var 3) (.cst (.int 64))),.set 3 (.bin .Ku (.var 3) (.cst (.int 64)))] [.app 2 (.bin .mod (.bin .Ku (.call "_law_mix" [.var 0,.var 4]) (.cst (.int 7))) (.cst (.int 4096)))]],.ret (.var 2)]⟩
def rl(x:Kd×U):Kg .Iv [x]=wF x:=rfl
def iD(h:n<2 ^ 62):Kg .Iv [(k,.int (n:Nat))]=bD ((js n).map λi:Nat=>(Kd.loc,U.int (0+(i:Int)))):=by
 rw[rl,wF,ĝ ⋯,Lv]
abbrev fg(n:Nat)(xs:List (Kd×U)):Prop:=∃i,i<=n/\xs=((js n).drop i).map λi:Nat=>(Kd.loc,U.int (0+(i:Int)))
def fg.cons(h:fg n (x::xs)):∃i:Nat,i<n/\x=(.loc,.int (i:Nat))/\fg n xs/\i+xs.length+1=n:=by
 have⟨i,b,e⟩:=h;by_cases a:i<n
 .rw[Ka (by simpa using a),eF]at e;cases e;show⟨i,a,by simp,⟨i+1,a,rfl⟩,by simp;lia⟩
 .rw[Tr (by simp;lia)]at e;cases e
def fg.all(n:Nat):fg n ((js n).map λi:Nat=>(Kd.loc,U.int (0+(i:Int)))):=⟨0,mA _,rfl⟩
def xj(q:zB Γ)(w:n<1000):∃ds:List Int,ds.length=n/\(∀d∈ds,0<=d)/\bB Γ pR [.int c,.int n]=bD (.ok (.own,.lst (ds.map .int))):=by
 have hsz:(1000:Nat)<=c4:=by decide
 let I:List (Kd×U)->ar->Prop:=λxs st=>∃(ds:List Int) (us:List U) (left:Int) (o:Option (Kd×U)),st=[bD (.loc,.int c),bD (.loc,.int n),bD (.own,.lst us),bD (.loc,.int left),o]/\us=ds.map .int/\(∀d∈ds,0<=d)/\ds.length+xs.length=n/\fg n xs;have a:=rh (t:=cc) (is:=[4]) (body:=execs Γ [.ite (.cmp .eq (.bin .mod (.var 0) (.cst (.int 2))) (.cst (.int 0)))
    [.app 2 (.bin .mod (.var 3) (.cst (.int 64))),
    .set 3 (.bin .Ku (.var 3) (.cst (.int 64)))]
    [.app 2 (.bin .mod (.bin .Ku (.call "_law_mix" [(.var 0),(.var 4)]) (.cst (.int 7))) (.cst (.int 4096)))]]) (rs:=[(.loc,.int n)]) I (λ_ _ _=>trivial) (λx xs st r=>by
  have⟨ds,us,left,o,e,b,f,hl,s⟩:=r;subst e;have j:us.length=ds.length:=by rw[b];simp
  have⟨i,y,rfl,l,m⟩:=s.cons;have u:Γ "_law_mix" [.int c,.int i]=bD (.ok (.loc,.int (tQ c i))):=q c i ⋯ ⋯;rw[k9]at hl;by_cases p:c % 2=0
  .show⟨[bD (.loc,.int c),bD (.loc,.int n),bD (.own,.lst us),bD (.loc,.int left),bD (.loc,.int i)],[bD (.loc,.int c),bD (.loc,.int n),bD (.own,.lst (us++[.int (left % 64)])),bD (.loc,.int (left / 64)),bD (.loc,.int i)],aC,?_,⟨ds++[left % 64],_,left / 64,_,rfl,by simp[b],?_,by simp;lia,l⟩⟩
   .apply gH
    all_goals repeat' (first|show eB (by simp[p])|show(by rw[j];lia)|sizeOf_list_dec)
   .intro d g;rcases gj.mp g with z|z
    .show f d z
    .rw[mN.mp z];lia
  .show⟨[bD (.loc,.int c),bD (.loc,.int n),bD (.own,.lst us),bD (.loc,.int left),bD (.loc,.int i)],[bD (.loc,.int c),bD (.loc,.int n),bD (.own,.lst (us++[.int (tQ c i / 7 % 4096)])),bD (.loc,.int left),bD (.loc,.int i)],aC,?_,⟨ds++[tQ c i / 7 % 4096],_,left,_,rfl,by simp[b],?_,by simp;lia,l⟩⟩
   .apply dn
    all_goals repeat' (first|show eB (by simp[p])|show u|show(by rw[j];lia)|sizeOf_list_dec)
   .intro d g;rcases gj.mp g with z|z
    .show f d z
    .rw[mN.mp z];lia)
 obtain⟨st',v,ds,us,left,o,e,b,f,hl,_⟩:=a ((js n).map λi:Nat=>(Kd.loc,U.int (0+(i:Int)))) [bD (.loc,.int c),bD (.loc,.int n),bD (.own,.lst []),bD (.loc,.int (c / 2)),b7] ⟨[],[],c / 2,b7,rfl,rfl,by simp,by simp,fg.all n⟩;subst e b;show⟨ds,by simpa using hl,f,?_⟩;apply aE (st0:=[bD (.loc,.int c),bD (.loc,.int n),b7,b7,b7]) rfl (.inl rfl) rfl
 repeat' sizeOf_list_dec
 have h:=iD (k:=.loc) (n:=n) ⋯;refine' cH (rs:=[(.loc,.int n)]) (st1:=[bD (.loc,.int c),bD (.loc,.int n),bD (.own,.lst []),bD (.loc,.int (c / 2)),b7]) _ trivial h rfl v _
 all_goals repeat' sizeOf_list_dec
end TM
local macro_rules
 |`(tactic| sizeOf_list_dec)=>`(tactic| first|exact TM.aJ|apply TM.av|apply TM.ff|apply TM.bV|exact TM.aw|exact TM.ae rfl|exact TM.aS rfl|exact TM.ao rfl|apply TM.bj|apply TM.ij|apply TM.a_|apply TM.bZ|apply TM.aF|apply TM.ra|apply TM.bb|exact TM.ai|apply TM.aa|apply TM.jm|apply TM.cS|exact TM.aY|apply TM.aN|exact TM.aI|exact TM.rb|(first|exact trivial|exact⟨⟨_,rfl,rfl⟩,trivial⟩|exact⟨⟨_,rfl,rfl⟩,⟨_,rfl,rfl⟩,trivial⟩)|exact TM.dG|exact TM.la|exact TM.bK (by first|lia|decide)|exact TM.zA (by first|lia|decide)|exact TM.oJ (by first|lia|decide)|exact TM.oK (by decide)|exact TM.aC|exact TM.aO|exact TM.mB|exact TM.dI|exact TM.mC|exact TM.kl rfl|exact mA _|exact rfl|exact TM.vB)
namespace Ig
open PySem L2
abbrev aH(l:List Nat):Prop:=fP l=cb\/∃a b k,l=a++47::b/\fP a=cb/\2<=k/\k<=99/\(fZ k).cps.toList=b
def len_list(x:Str):x.length=x.cps.toList.length:=by simp[Rm]
def dS(a:0<=k)(b:k<=99):(fZ k).length<=2:=by
 have⟨m,rfl⟩:=Te a;have c:m<100:=by lia
 clear a b;revert m;decide +kernel
def aH.len(h:aH l):1<=l.length/\l.length<=11:=by
 rcases h with h|⟨a,b,k,rfl,h,e,c,d⟩
 .have:=(bQ l).mp h;lia
 .have:=(bQ a).mp h;have hl:=dS (k:=k) ⋯ c;rw[len_list,d]at hl;simp;lia
def aH.a9(h:aH x.cps.toList):∃y r,Nu x f9=y::r/\fP y.cps.toList=cb:=by
 rcases h with h|⟨a,b,k,e,h,_⟩
 .show⟨x,[],ly (eV h),h⟩
 .have⟨r,c⟩:=qw e (eV h) (by decide);show⟨_,r,c,by simpa using h⟩
theorem fS:∀(ps:List Str) (acc:Array Nat),(ps.foldl (λacc p=>acc++ri.cps++p.cps) acc).toList=acc.toList++(ps.map λp=>p.cps.toList).flatten
 |[],acc=>by simp
 |p::ps,acc=>by
  rw[Wu,fS ps];have:ri.cps=#[]:=rfl;simp[this]
def join_list(ts:List Str):(Vn ri ts).cps.toList=(ts.map λp=>p.cps.toList).flatten:=by
 cases ts with
 |nil=>rfl
 |cons t ts =>
  change(ts.foldl (λacc p=>acc++ri.cps++p.cps) t.cps).toList=_;rw[fS];simp
abbrev one(c:Nat):Str:=⟨#[c]⟩
def join_ones(a:List Nat):(Vn ri (a.map one)).cps.toList=a:=by
 rw[join_list,hQ];induction a with
 |nil=>rfl
 |cons c a b=>rw[eF,Sr,b];rfl
def rm(a:List Nat)(h:a.length<=100):Ì ri (a.map one)=cb:=by
 unfold Ì;have e:=PySem.StrLaws.joinTotal ri (a.map one);have b:ri.length=0:=rfl;have es:((a.map one).map (·.length)).sum=a.length:=by
  rw[hQ];clear h e;induction a with
  |nil=>rfl
  |cons c a d=>rw[eF,List.sum_cons,d];change 1+a.length=a.length+1;lia
 rw[e,b,es];have f:a.length+(a.map one).length * 0<=100:=by lia
 revert f;generalize a.length+(a.map one).length * 0=m;revert m;decide
def EU(x:Str)(j:Nat):(PySem.StrLaws.sliceText x b7 (bD (j:Int))).cps.toList=x.cps.toList.take j:=by
 by_cases h:j<=x.cps.toList.length
 .rw[PySem.StrLaws.sliceText_to (x:=x) ⟨⋯,⋯⟩];simp
 .have e:PySem.StrLaws.sliceText x b7 (bD (j:Int))=PySem.StrLaws.sliceText x b7 (bD (x.length:Int)):=by
   unfold PySem.StrLaws.sliceText;have hl:=len_list x;have:PySem.Builtin.Str.strSliceIndices b7 (bD (j:Int)) 1 x.length=PySem.Builtin.Str.strSliceIndices b7 (bD (x.length:Int)) 1 x.length:=by
    have a:¬((j:Int)<0):=by lia
    have b:¬((x.length:Int)<0):=by lia
    have c:min (j:Int) (x.length:Int)=x.length:=by lia
    simp[PySem.Builtin.Str.strSliceIndices,a,b,c]
   rw[this]
  have hl:=len_list x;rw[e,PySem.StrLaws.sliceText_to (x:=x) ⟨⋯,⋯⟩,XD,NX (l:=x.cps.toList) (i:=j) ⋯];change(x.cps.toList.take ((x.length:Int) - 0).toNat).toArray.toList=_;rw[NX ⋯]
def xm(d:fP a=cb)(e:∀c∈b,low c=cb):fP ((a++b).take 8)=cb:=by
 have h:=(bQ a).mp d;show(bQ _).mpr ⟨by simp;lia,by simp;lia,λc f=>?_⟩;have g:=Rt f;rcases gj.mp g with m|m
 .show h.2.2 c m
 .have:=e c m;simp[low]at this;lia
def km(a:∀c∈b,low c=cb)(d:1<=b.length)(e:b.length<=8):fP b=cb :=
 (bQ b).mpr ⟨d,e,λc f=>by have:=a c f;simp[low]at this;lia⟩
abbrev small:Str:="abcdefghijklmnopqrstuvwxyz"
def tR:small.cps.toList=(js 26).map (97+·):=by decide +kernel
def mF(a:0<=k)(b:k<26):Il small.cps.toList k=bD (97+k.toNat):=by
 have⟨j,rfl⟩:=Te a;show cn ?_;rw[tR,my,Zb ⋯];rfl
def tS(h:j<26):low (97+j)=cb:=by simp[low];lia
abbrev oy(k:Nat):Str:=⟨#[97+k / 26,97+k % 26]⟩
def tT(h:k<40):fP (oy k).cps.toList=cb:=by
 show km (λc a=>?_) (by change 1<=2;decide) (by change 2<=8;decide);have b:c=97+k / 26\/c=97+k % 26:=by simpa[oy] using a
 rcases b with rfl|rfl
 .show tS ⋯
 .show tS ⋯
theorem jr [DecidableEq α]:∀{l m:List α},l.Nodup->(∀x∈l,x∈m)->l.length<=m.length
 |[],_,_,_=>mA _
 |x::l,m,c,h=>by
  have⟨d,e⟩:=nc.mp c;have a:=h x lg;have f:=jr (l:=l) (m:=m.erase x) e λy b=>(Y0 (by rintro rfl;show d b)).mpr (h y (kj _ b));rw[Yk a]at f;have:0<m.length:=YB a;rw[k9];lia
abbrev cm:List Str:=(js 40).map oy
def pS:cm.Nodup:=by
 decide +kernel
def tU(names:List Str)(h:names.length<40):∃x∈cm,x∉names:=by
 apply V5;intro a;have:∀x∈cm,x∈names:=λx b=>V5 λc=>a ⟨x,b,c⟩;have:=jr pS this;simp[cm]at this;lia
end Ig
namespace TM
open PySem L2 Ig
def vD(a:0<=z)(h:z<2 ^ 62):Kg .Iv [(k,.int z)]=bD ((js z.toNat).map λi:Nat=>(Kd.loc,U.int (0+(i:Int)))):=by
 rw[rl,wF,ĝ ⋯]
def lq(a:x.length<=c4)(h:Il x.cps.toList i=bD c):g_ (k,.str x) (.int i)=bD (.loc,.str (Ig.one c)):=by
 simp only[g_];rw[ĝ a,h];rfl
def mG:small.length<=c4:=by decide
def bE{ds:List Int}{i:Nat}(h:i<ds.length):Il (ds.map U.int) (i:Int)=bD (.int ((ds[i]?).getD 0)):=cn (by simp[h])
theorem fh:∀(ss:List Str),strsOf (ss.map U.str)=bD ss
 |[]=>rfl
 |s::ss=>by change(strsOf (ss.map U.str)).map (s::·)=_;rw[fh ss];rfl
abbrev pT(a:E):Fn:=⟨"_law_name",2,6,[.set 2 (.cst (.str "abcdefghijklmnopqrstuvwxyz")),.set 3 (.J6 .join (.cst (.str "")) [.comp 1 cc .Iv [.bin .add (.cst (.int 1)) (.bin .mod (.idx (.var 0) (.cst (.int 0))) (.cst (.int 8)))] [] (.idx (.var 3) (.bin .mod (.idx (.var 1) (.bin .add (.cst (.int 4)) (.var 0))) (.cst (.int 26))))]),.ite (.cmp .gt (.bi .len [.var 1]) (.cst (.int 0))) [.set 4 (.idx (.J6 .split (.idx (.var 1) (.bin .mod (.idx (.var 0) (.cst (.int 1))) (.bi .len [.var 1]))) [.cst (.str "/")]) (.cst (.int 0))),.ite (.cmp .eq (.bin .mod (.idx (.var 0) (.cst (.int 2))) (.cst (.int 4))) (.cst (.int 1))) [.set 3 (.JJ (.bin .add (.var 4) (.var 3)) [] [.cst (.int 8)])] [],.ite (.cmp .eq (.bin .mod (.idx (.var 0) (.cst (.int 2))) (.cst (.int 4))) (.cst (.int 2))) [.set 3 (.bin .add (.bin .add (.var 4) (.cst (.str "/"))) (.bi .str [.bin .add (.cst (.int 2)) (.bin .mod (.idx (.var 0) (.cst (.int 3))) a)]))] []] [],.set 5 (.bin .add (.lst [.var 3]) (.comp 1 cc .Iv [.cst (.int 40)] [] (.bin .add (.idx (.var 3) (.bin .Ku (.var 0) (.cst (.int 26)))) (.idx (.var 3) (.bin .mod (.var 0) (.cst (.int 26))))))),.ret (.idx (.comp 1 cc .seq [.var 5] [.cmp .HK (.var 0) (.var 2)] (.var 0)) (.cst (.int 0)))]⟩
abbrev B_(a:E):Prop:=∀(Γ:Tab) (ds:List Int),12<=ds.length->(∀d∈ds,0<=d)->∃m:Int,0<m/\m<=98/\∀o1 o2 o3 o4 o5,Run (ev Γ a) [bD (.any,.lst (ds.map .int)),o1,o2,o3,o4,o5] (.loc,.int m) [bD (.any,.lst (ds.map .int)),o1,o2,o3,o4,o5]
@[reducible]def GL:E:=.cst (.int 98)
def vE:B_ GL:=λ_ _ _ _=>⟨98,by decide,by decide,λ_ _ _ _ _=>aw⟩
section
variable{Γ:Tab}{ds:List Int}
abbrev dd(ds:List Int)(i:Nat):Int:=(ds[i]?).getD 0
def eC(a:∀d∈ds,0<=d)(i:Nat):0<=dd ds i:=by
 unfold dd;cases e:ds[i]? with
 |none=>simp
 |some d=>show a d (pb e)
def pU(q:12<=ds.length)(g:∀d∈ds,0<=d):∃b:List Nat,(∀c∈b,low c=cb)/\1<=b.length/\b.length<=8 /\
  Run (ev Γ (.comp 1 cc .Iv [.bin .add (.cst (.int 1)) (.bin .mod (.idx (.var 0) (.cst (.int 0))) (.cst (.int 8)))] [] (.idx (.var 3) (.bin .mod (.idx (.var 1) (.bin .add (.cst (.int 4)) (.var 0))) (.cst (.int 26))))))
   [bD (.any,.lst (ds.map .int)),o1,bD (.loc,.str small),o3,o4,o5] (.own,.lst ((b.map Ig.one).map .str)) [bD (.any,.lst (ds.map .int)),o1,bD (.loc,.str small),o3,o4,o5]:=by
 have hz:=eC g 0;let n:=(1+dd ds 0 % 8).toNat;have h:n<=8/\1<=n:=by change(1+dd ds 0 % 8).toNat<=8/\1<=(1+dd ds 0 % 8).toNat;lia
 let f:Nat->Nat:=λi=>97+(dd ds (4+i) % 26).toNat;show⟨(js n).map f,?_,by simp;show h.2,by simp;show h.1,?_⟩
 .intro c m;obtain⟨i,_,rfl⟩:=ez.mp m;have:=eC g (4+i);show tS ⋯
 .have a:Run (bS 1 cc (aR Γ []) (ev Γ (.idx (.var 3) (.bin .mod (.idx (.var 1) (.bin .add (.cst (.int 4)) (.var 0))) (.cst (.int 26))))) [(.loc,.int (1+dd ds 0 % 8))] ((js n).map λi:Nat=>(Kd.loc,U.int (0+(i:Int)))) [])
    [bD (.any,.lst (ds.map .int)),o1,bD (.loc,.str small),o3,o4,o5] ([]++((js n).map λi:Nat=>(Kd.loc,U.int (0+(i:Int)))).map λx=>match x.2 with|.int j=>.str (Ig.one (97+(dd ds (4+j.toNat) % 26).toNat))|u=>u) [bD (.any,.lst (ds.map .int)),o1,bD (.loc,.str small),o3,o4,o5]:=by
   have r:(8:Nat)<=c4:=by decide
   show zy (by show trivial) _ (λ_=>.loc) _ _ (by simp;lia) (λx a=>?_) (λx a=>?_)
   .obtain⟨i,_,rfl⟩:=ez.mp a;show .inl rfl
   .have⟨i,o,rfl⟩:=ez.mp a;have s:i<n:=by simpa using o
    have l:Il (ds.map U.int) (4+(0+(i:Int)))=bD (.int (dd ds (4+i))):=by
     rw[show(4+(0+(i:Int)))=((4+i:Nat):Int) by lia];show bE ⋯
    have t:=eC g (4+i);have hs:=mF (k:=dd ds (4+i) % 26) ⋯ ⋯;show⟨ei,?_,aI⟩;simp only[Tw,Lv];rw[Tw]at l
    repeat' (first|show aV l|show lq mG hs|sizeOf_list_dec)
  have e:((js n).map f).map Ig.one=(js n).map λi=>Ig.one (97+(dd ds (4+i) % 26).toNat):=by rw[hQ];rfl
  rw[e];have p:([]++((js n).map λi:Nat=>(Kd.loc,U.int (0+(i:Int)))).map λx=>match x.2 with|.int j=>U.str (Ig.one (97+(dd ds (4+j.toNat) % 26).toNat))|u=>u)=((js n).map λi=>Ig.one (97+(dd ds (4+i) % 26).toNat)).map U.str:=by
   rw[lb,hQ,hQ];apply y0;intro i _;simp
  rw[p]at a;show bW (rs:=[(.loc,.int (1+dd ds 0 % 8))]) ?_ trivial (vD ⋯ ⋯) a
  repeat' (first|show aV (bE (i:=0) ⋯)|sizeOf_list_dec)
def fG(h:x.length+y.length<=c4):JD .add (k,.str x) (k',.str y)=bD (.loc,.str (x++y)):=by
 simp only[JD,sQ];rw[ĝ h]
theorem fi:∀(ss:List Str) (n:Nat),c_ n (ss.map U.str)=cb
 |[],n=>by simp[c_]
 |s::ss,n=>by simp only[eF,c_,fi ss n,Yp];cases n<;>rfl
theorem rn(x:Str):∀(ss:List Str),((ss.map U.str).any λy=>bR y (.str x))=df (x∈ss)
 |[]=>by simp
 |s::ss=>by
  rw[eF,U0,rn x ss];have:bR (.str s) (.str x)=df (x=s):=by
   simp only[bR];by_cases h:x=s
   .subst h;simp
   .have h':s≠x:=λz=>h z.symm;simp[h,h']
  rw[this,Iy];simp
def Ca(x:Str)(ss:List Str):Mx (.str x) (ss.map U.str)=bD (df (x∈ss)):=by
 unfold Mx;rw[ĝ ⟨by rfl,fi ss 50⟩,rn]
def fj{x:Str}{ss:List Str}:bF .HK (.str x) (.lst (ss.map U.str))=bD (df (x∉ss)):=by
 change(Mx (.str x) (ss.map U.str)).map (!·)=_;rw[Ca];simp
def rp:Run (ev Γ (.comp 1 cc .Iv [.cst (.int 40)] [] (.bin .add (.idx (.var 3) (.bin .Ku (.var 0) (.cst (.int 26)))) (.idx (.var 3) (.bin .mod (.var 0) (.cst (.int 26)))))))
   [o0,o1,bD (.loc,.str small),o3,o4,o5] (.own,.lst (cm.map .str)) [o0,o1,bD (.loc,.str small),o3,o4,o5]:=by
 have g:(100:Nat)<=c4:=by decide
 have a:Run (bS 1 cc (aR Γ []) (ev Γ (.bin .add (.idx (.var 3) (.bin .Ku (.var 0) (.cst (.int 26)))) (.idx (.var 3) (.bin .mod (.var 0) (.cst (.int 26)))))) [(.loc,.int 40)] ((js 40).map λi:Nat=>(Kd.loc,U.int (0+(i:Int)))) [])
   [o0,o1,bD (.loc,.str small),o3,o4,o5] ([]++((js 40).map λi:Nat=>(Kd.loc,U.int (0+(i:Int)))).map λx=>match x.2 with|.int j=>.str (oy j.toNat)|u=>u) [o0,o1,bD (.loc,.str small),o3,o4,o5]:=by
  show zy (by show trivial) _ (λ_=>.loc) _ _ (by simp;lia) (λx a=>?_) (λx a=>?_)
  .obtain⟨i,_,rfl⟩:=ez.mp a;show .inl rfl
  .have⟨i,e,rfl⟩:=ez.mp a;have h:i<40:=by simpa using e
   show⟨ei,?_,aI⟩;simp only[Tw,Lv];have c:=mF (k:=(i:Int) / 26) ⋯ ⋯;have d:=mF (k:=(i:Int) % 26) ⋯ ⋯;have f:((i:Int) / 26).toNat=i / 26:=by lia
   have b:((i:Int) % 26).toNat=i % 26:=by lia
   rw[f]at c;rw[b]at d;have ad:JD .add (.loc,.str (Ig.one (97+i / 26))) (.loc,.str (Ig.one (97+i % 26)))=bD (.loc,.str (oy i)):=by
    have:=fG (k:=.loc) (k':=.loc) (x:=Ig.one (97+i / 26)) (y:=Ig.one (97+i % 26)) (by change 1+1<=c4;lia);rw[this];rfl
   repeat' (first|show lq mG c|show lq mG d|show ad|sizeOf_list_dec)
 have b:([]++((js 40).map λi:Nat=>(Kd.loc,U.int (0+(i:Int)))).map λx=>match x.2 with|.int j=>U.str (oy j.toNat)|u=>u)=cm.map U.str:=by
  rw[lb,hQ,cm,hQ];apply y0;intro i _;simp
 rw[b]at a;show bW (rs:=[(.loc,.int 40)]) (by repeat' sizeOf_list_dec) trivial (vD ⋯ ⋯) a
def xn{names ts:List Str}(hl:ts.length<=1000):Run (ev Γ (.comp 1 cc .seq [.var 5] [.cmp .HK (.var 0) (.var 2)] (.var 0)))
   [o0,bD (.any,.lst (names.map .str)),o2,o3,o4,bD (.own,.lst (ts.map .str))] (.own,.lst ((ts.filter λx=>df (x∉names)).map .str)) [o0,bD (.any,.lst (names.map .str)),o2,o3,o4,bD (.own,.lst (ts.map .str))]:=by
 have c:(1000:Nat)<=c4:=by decide
 have a:=mE (cond:=aR Γ [.cmp .HK (.var 0) (.var 2)]) (elt:=ev Γ (.var 0)) (src:=[(.bor 5,.lst (ts.map .str))]) (st:=[o0,bD (.any,.lst (names.map .str)),o2,o3,o4,bD (.own,.lst (ts.map .str))]) ⟨⟨.own,rfl,rfl⟩,trivial⟩
  (λx=>match x.2 with|.str y=>df (y∉names)|_=>cc) (λx=>x.2) (λ_=>.loc) ((ts.map U.str).map λu=>(kE (.bor 5),u)) [] (by simp;lia) (λx a=>by obtain⟨u,_,rfl⟩:=ez.mp a;show .inl rfl) (λx a=>by
   have⟨u,b,rfl⟩:=ez.mp a;obtain⟨y,_,rfl⟩:=ez.mp b;show⟨cZ ?_,ae rfl,aI⟩
   repeat' (first|show fj|sizeOf_list_dec))
 have e:([]++(((ts.map U.str).map λu=>(kE (.bor 5),u)).filter λx=>match x.2 with|.str y=>df (y∉names)|_=>cc).map λx=>x.2)=(ts.filter λx=>df (x∉names)).map U.str:=by
  rw[lb,Z5,Z5,hQ,hQ];rfl
 rw[e]at a;show bW (rs:=[(.bor 5,.lst (ts.map .str))]) (by repeat' sizeOf_list_dec) ⟨⟨.own,rfl,rfl⟩,trivial⟩ rfl a
end
section
variable{Γ:Tab}{ds:List Int}
def xp{names:List Str}(d:names.length<40)(f:aH a.cps.toList):∃x st',aH x.cps.toList/\x∉names /\
  Run (execs Γ [.set 5 (.bin .add (.lst [.var 3]) (.comp 1 cc .Iv [.cst (.int 40)] [] (.bin .add (.idx (.var 3) (.bin .Ku (.var 0) (.cst (.int 26)))) (.idx (.var 3) (.bin .mod (.var 0) (.cst (.int 26))))))),
  .ret (.idx (.comp 1 cc .seq [(.var 5)] [(.cmp .HK (.var 0) (.var 2))] (.var 0)) (.cst (.int 0)))]) [o0,bD (.any,.lst (names.map .str)),bD (.loc,.str small),bD (.loc,.str a),o4,b7] (.rt .loc (.str x)) st':=by
 have o:(1000:Nat)<=c4:=by decide
 have⟨y,g,i⟩:=tU names d;have j:(a::cm).filter (λx=>df (x∉names))≠[]:=λz=>by
  have:y∈(a::cm).filter (λx=>df (x∉names)):=K'.mpr ⟨kj _ g,by simpa using i⟩;rw[z]at this;cases this
 cases e:(a::cm).filter (λx=>df (x∉names)) with
 |nil=>show absurd e j
 |cons x b =>
  have l:x∈(a::cm).filter (λx=>df (x∉names)):=by rw[e];simp
  have⟨m,n⟩:=K'.mp l;have c:=xn (Γ:=Γ) (names:=names) (ts:=a::cm) (by simp[cm]) (o0:=o0) (o2:=bD (.loc,.str small)) (o3:=bD (.loc,.str a)) (o4:=o4);rw[e]at c;have ad:JD .add (.own,.lst [.str a]) (.own,.lst (cm.map U.str))=bD (.own,.lst ((a::cm).map U.str)):=by
   simp only[JD,sQ];rw[ĝ ⟨by simp[cm];lia,rfl,rfl⟩];rfl
  show⟨x,[o0,bD (.any,.lst (names.map .str)),bD (.loc,.str small),bD (.loc,.str a),o4,bD (.own,.lst ((a::cm).map .str))],?_,by simpa using n,?_⟩
  .rcases d6.mp m with rfl|h
   .show f
   .have⟨k,hk,rfl⟩:=ez.mp h;show .inl (tT (by simpa using hk))
  .show av (st2:=[o0,bD (.any,.lst (names.map .str)),bD (.loc,.str small),bD (.loc,.str a),o4,bD (.own,.lst ((a::cm).map .str))]) (bj (x:=(.own,.lst [.str a])) (cS (aa (ae rfl) ai) (by(first|show trivial|show⟨⟨_,rfl,rfl⟩,trivial⟩|show⟨⟨_,rfl,rfl⟩,⟨_,rfl,rfl⟩,trivial⟩)) (aN aI aY) (by change 1<=c4;lia)) rp trivial ad) aO ?_;show bV (a_ c aw trivial (aV (by change Il _ ((0:Nat):Int)=_;show cn rfl))) dI
def zE(O:B_ l)(C:12<=ds.length)(j:∀d∈ds,0<=d){names:List Str}(Q:names.length<40)(T:∀x∈names,aH x.cps.toList):
  ∃x,aH x.cps.toList/\x∉names/\bB Γ (pT l) [.lst (ds.map .int),.lst (names.map .str)]=bD (.ok (.loc,.str x)):=by
 have⟨m,D,Yh,Y⟩:=O Γ ds C j;have h8:(1000:Nat)<=c4:=by decide
 have⟨b,G,Xo,H,PX⟩:=pU (Γ:=Γ) C j (o1:=bD (.any,.lst (names.map .str))) (o3:=b7) (o4:=b7) (o5:=b7);have PY:jL .join (.str "") [(.own,.lst ((b.map Ig.one).map U.str))]=bD (.loc,.str (Vn ri (b.map Ig.one))):=by
  change(strsOf ((b.map Ig.one).map U.str)).bind _=_;rw[fh];change(if Ì ri (b.map Ig.one)=cb then _ else _)=_;rw[ĝ (rm b ⋯)];rfl
 let a:Str:=Vn ri (b.map Ig.one);have n:a.cps.toList=b:=join_ones b;have I:fP a.cps.toList=cb:=by rw[n];show km G Xo H
 have U2:a.length<=8:=by rw[len_list,n];show H
 have e:∀{f:Fl} {st':ar} (ss:List S),Run (execs Γ ss) [bD (.any,.lst (ds.map .int)),bD (.any,.lst (names.map .str)),bD (.loc,.str small),bD (.loc,.str a),b7,b7] f st' ->
   Run (execs Γ (.set 2 (.cst (.str "abcdefghijklmnopqrstuvwxyz"))::.set 3 (.J6 .join (.cst (.str "")) [.comp 1 cc .Iv [.bin .add (.cst (.int 1)) (.bin .mod (.idx (.var 0) (.cst (.int 0))) (.cst (.int 8)))] [] (.idx (.var 3) (.bin .mod (.idx (.var 1) (.bin .add (.cst (.int 4)) (.var 0))) (.cst (.int 26))))])::ss))
    [bD (.any,.lst (ds.map .int)),bD (.any,.lst (names.map .str)),b7,b7,b7,b7] f st':=λss h=>av (r:=(.loc,.str small)) aw aC (av (ra aw (aa PX ai) (by(first|show trivial|show⟨⟨_,rfl,rfl⟩,trivial⟩|show⟨⟨_,rfl,rfl⟩,⟨_,rfl,rfl⟩,trivial⟩)) PY) aC h)
 have k:∀(g:Str) (o4:Option (Kd×U)),aH g.cps.toList->∃x st',aH x.cps.toList/\x∉names/\Run (execs Γ [.set 5 (.bin .add (.lst [.var 3]) (.comp 1 cc .Iv [.cst (.int 40)] [] (.bin .add (.idx (.var 3) (.bin .Ku (.var 0) (.cst (.int 26)))) (.idx (.var 3) (.bin .mod (.var 0) (.cst (.int 26))))))),
  .ret (.idx (.comp 1 cc .seq [(.var 5)] [(.cmp .HK (.var 0) (.var 2))] (.var 0)) (.cst (.int 0)))]) [bD (.any,.lst (ds.map .int)),bD (.any,.lst (names.map .str)),bD (.loc,.str small),bD (.loc,.str g),o4,b7] (.rt .loc (.str x)) st':=λg o4 o=>xp Q o
 by_cases hz:0<names.length
 .
  have p:(dd ds 1).toNat % names.length<names.length:=X8 _ hz;let nm:=names[(dd ds 1).toNat % names.length]'p;have J:aH nm.cps.toList:=T _ (Pb p);have⟨y,r,JA,q⟩:=J.a9;have Qz:y.length<=8:=by rw[len_list];show((bQ _).mp q).2.1
  have QL:nm.length<=11:=by rw[len_list];show J.len.2
  have Qr:=eC j 1;have I_:Il (names.map U.str) (dd ds 1 % ((names.map U.str).length:Nat))=bD (.str nm):=by
   rw[cK,show dd ds 1 % (names.length:Nat)=(((dd ds 1).toNat % names.length:Nat):Int) by rw[Int.natCast_emod,Nr Qr]];show cn (by simp[p];rfl)
  have Kz:jL .split (.str nm) [(.loc,.str "/")]=bD (.own,.lst ((y::r).map U.str)):=by
   change(if (Rm "/"==0)=cc/\nm.length+2<=c4 then bD (Kd.own,U.lst ((Nu nm "/").map .str)) else b7)=_;rw[ĝ ⟨by decide,⋯⟩,show("/":Str)=f9 from rfl,JA]
  have hp:(0:Int)<((names.map U.str).length:Nat):=by simp;lia
  have QM:g_ (.own,.lst ((y::r).map U.str)) (.int 0)=bD (.loc,.str y):=aV (by change Il _ ((0:Nat):Int)=_;show cn rfl);have ab:=eC j 2;have Uo:=eC j 3;have i1:Il (ds.map U.int) 1=bD (.int (dd ds 1)):=bE (i:=1) ⋯;have L:Il (ds.map U.int) 2=bD (.int (dd ds 2)):=bE (i:=2) ⋯;have i3:Il (ds.map U.int) 3=bD (.int (dd ds 3)):=bE (i:=3) ⋯;have go:∀g:Str,aH g.cps.toList->Run (execs Γ [.ite (.cmp .eq (.bin .mod (.idx (.var 0) (.cst (.int 2))) (.cst (.int 4))) (.cst (.int 1)))
    [.set 3 (.JJ (.bin .add (.var 4) (.var 3)) [] [.cst (.int 8)])]
    [],
   .ite (.cmp .eq (.bin .mod (.idx (.var 0) (.cst (.int 2))) (.cst (.int 4))) (.cst (.int 2)))
    [.set 3 (.bin .add (.bin .add (.var 4) (.cst (.str "/"))) (.bi .str [.bin .add (.cst (.int 2)) (.bin .mod (.idx (.var 0) (.cst (.int 3))) l)]))]
    []]) [bD (.any,.lst (ds.map .int)),bD (.any,.lst (names.map .str)),bD (.loc,.str small),bD (.loc,.str a),bD (.loc,.str y),b7] .nx [bD (.any,.lst (ds.map .int)),bD (.any,.lst (names.map .str)),bD (.loc,.str small),bD (.loc,.str g),bD (.loc,.str y),b7] ->
    ∃x,aH x.cps.toList/\x∉names/\bB Γ (pT l) [.lst (ds.map .int),.lst (names.map .str)]=bD (.ok (.loc,.str x)):=λg o hr=>by
   have⟨x,st',s,t,u⟩:=k g (bD (.loc,.str y)) o;show⟨x,s,t,aE (st0:=[bD (.any,.lst (ds.map .int)),bD (.any,.lst (names.map .str)),b7,b7,b7,b7]) rfl (.inr rfl) rfl (e _ (gH (st1:=[bD (.any,.lst (ds.map .int)),bD (.any,.lst (names.map .str)),bD (.loc,.str small),bD (.loc,.str a),b7,b7]) ?_ (av (r:=(.loc,.str y)) (st1:=[bD (.any,.lst (ds.map .int)),bD (.any,.lst (names.map .str)),bD (.loc,.str small),bD (.loc,.str a),b7,b7]) ?_ aC hr) u))⟩
   .repeat' (first|show jo (by simp;lia)|sizeOf_list_dec)
   .repeat' (first|show bK hp|show aV I_|show aV i1|show Kz|show QM|sizeOf_list_dec)
  have v:∀{c:Bool} {o3 o4:Option (Kd×U)},(dd ds 2 % 4==1)=c->Run (H0 Γ (.cmp .eq (.bin .mod (.idx (.var 0) (.cst (.int 2))) (.cst (.int 4))) (.cst (.int 1)))) [bD (.any,.lst (ds.map .int)),bD (.any,.lst (names.map .str)),bD (.loc,.str small),o3,o4,b7] c [bD (.any,.lst (ds.map .int)),bD (.any,.lst (names.map .str)),bD (.loc,.str small),o3,o4,b7]:=λw=>by
   repeat' (first|show aV L|show eB w|sizeOf_list_dec)
  have z:∀{c:Bool} {o3 o4:Option (Kd×U)},(dd ds 2 % 4==2)=c->Run (H0 Γ (.cmp .eq (.bin .mod (.idx (.var 0) (.cst (.int 2))) (.cst (.int 4))) (.cst (.int 2)))) [bD (.any,.lst (ds.map .int)),bD (.any,.lst (names.map .str)),bD (.loc,.str small),o3,o4,b7] c [bD (.any,.lst (ds.map .int)),bD (.any,.lst (names.map .str)),bD (.loc,.str small),o3,o4,b7]:=λw=>by
   repeat' (first|show aV L|show eB w|sizeOf_list_dec)
  by_cases A:dd ds 2 % 4=1
  .have Xp:y.length+a.length<=c4:=by lia
   have PD:nq (.loc,.str (y++a)) b7 (bD 8)=bD (.loc,.str (PySem.StrLaws.sliceText (y++a) b7 (bD 8))):=by
    simp only[nq];rw[ĝ (by rw[len_list];change(y.cps++a.cps).toList.length<=_;rw[Up,gs,<-len_list,<-len_list];lia)]
   show go (PySem.StrLaws.sliceText (y++a) b7 (bD 8)) (.inl ?_) ?_
   .have:=EU (y++a) 8;rw[show((8:Nat):Int)=8 from rfl]at this;rw[this];change fP ((y.cps++a.cps).toList.take 8)=cb;rw[Up];show xm q (by rw[n];show G)
   .show gH (v (by simp[A])) (av (q_ (bj (ae rfl) (ae rfl) trivial (fG Xp)) qY (qZ aw) trivial PD) aC aJ) (dn (z (by simp[A])) aJ aJ)
  .by_cases B:dd ds 2 % 4=2
   .have SE:=Tx (dd ds 3) (show m≠0 by lia);have Oo:=Sf (dd ds 3) D;have PF:0<=2+dd ds 3 % m:=by lia
    have N:2+dd ds 3 % m<=99:=by lia
    have Xq:=dS PF N;have LO:Jh .str [(.loc,.int (2+dd ds 3 % m))]=bD (.loc,.str (fZ (2+dd ds 3 % m))):=by
     simp only[Jh,fW,yz];rw[ĝ (by
      have:(2+dd ds 3 % m).natAbs<2 ^ 7:=by lia
      have h2:(2+dd ds 3 % m).natAbs≠0:=by lia
      have:=(Y_ h2).mpr this;lia)]
     rfl
    have NQ:(y++("/":Str)).length=y.length+1:=by rw[len_list,len_list];change(y.cps++_).toList.length=_;rw[Up,gs];rfl
    have Tn:Run (ev Γ (.bin .add (.cst (.int 2)) (.bin .mod (.idx (.var 0) (.cst (.int 3))) l))) [bD (.any,.lst (ds.map .int)),bD (.any,.lst (names.map .str)),bD (.loc,.str small),bD (.loc,.str a),bD (.loc,.str y),b7] (.loc,.int (2+dd ds 3 % m)) [bD (.any,.lst (ds.map .int)),bD (.any,.lst (names.map .str)),bD (.loc,.str small),bD (.loc,.str a),bD (.loc,.str y),b7]:=bj aw (bj (a_ (aS rfl) aw trivial (aV i3)) (Y _ _ _ _ _) trivial (bK D)) trivial dG;show go (y++"/"++fZ (2+dd ds 3 % m)) (.inr ⟨y.cps.toList,(fZ (2+dd ds 3 % m)).cps.toList,2+dd ds 3 % m,?_,q,⋯,N,rfl⟩) ?_
    .change((y.cps++#[47])++(fZ _).cps).toList=_;simp
    .show dn (v (by simp[B])) aJ (gH (z (by simp[B])) (av (bj (bj (ae rfl) aw trivial (fG (by change y.length+1<=c4;lia))) (bZ (aa Tn ai) trivial LO) trivial (fG (by rw[NQ];lia))) aC aJ) aJ)
   .show go a (.inl I) ?_;show dn (v (by simp[A])) aJ (dn (z (by simp[B])) aJ aJ)
 .have⟨x,st',s,t,u⟩:=k a b7 (.inl I);show⟨x,s,t,aE (st0:=[bD (.any,.lst (ds.map .int)),bD (.any,.lst (names.map .str)),b7,b7,b7,b7]) rfl (.inr rfl) rfl (e _ (dn (st1:=[bD (.any,.lst (ds.map .int)),bD (.any,.lst (names.map .str)),bD (.loc,.str small),bD (.loc,.str a),b7,b7]) ?_ aJ u))⟩
  repeat' (first|show jo (Ğ (by simp only[cK];lia))|sizeOf_list_dec)
end
abbrev iE(Γ:Tab):Prop:=∀(ns:List Int) (k:Nat),k<2 ^ 62->∃z,Γ "_law_cell" [.lst (ns.map .int),.int (k:Nat)]=bD (.ok (.loc,.int z))
abbrev fH(Γ:Tab):Prop:=∀(c:Int) (n:Nat),n<1000->∃ds:List Int,ds.length=n/\(∀d∈ds,0<=d)/\Γ "_law_drawn" [.int c,.int (n:Nat)]=bD (.ok (.own,.lst (ds.map .int)))
abbrev tV(Γ:Tab):Prop:=∀(ds:List Int) (names:List Str),12<=ds.length->(∀d∈ds,0<=d)->names.length<40->(∀x∈names,aH x.cps.toList)->∃x,aH x.cps.toList/\x∉names/\Γ "_law_name" [.lst (ds.map .int),.lst (names.map .str)]=bD (.ok (.loc,.str x))
abbrev fNames:Fn:=⟨"_law_names",3,5,[.set 3 (.lst []),.Ia cc [4] .Iv [.var 2] [.app 3 (.call "_law_name" [.call "_law_drawn" [.call "_law_cell" [.var 0,.bin .add (.var 1) (.var 4)],.cst (.int 12)],.var 3])],.ret (.var 3)]⟩
theorem xq(hc:iE Γ)(hd:fH Γ)(hn:tV Γ){ns:List Int}(hb:b<1000)(hm:m<40):
    ∃names:List Str,names.length=m/\names.Nodup/\(∀x∈names,aH x.cps.toList)/\bB Γ fNames [.lst (ns.map .int),.int (b:Nat),.int (m:Nat)]=bD (.ok (.own,.lst (names.map .str))):=by
  have hsz:(1000:Nat)<=c4:=by decide
  let I:List (Kd×U)->ar->Prop:=λxs st=>∃(names:List Str) (us:List U) (o:Option (Kd×U)),st=[bD (.any,.lst (ns.map .int)),bD (.loc,.int (b:Nat)),bD (.loc,.int (m:Nat)),bD (.own,.lst us),o]/\us=names.map .str/\names.Nodup/\(∀x∈names,aH x.cps.toList)/\names.length+xs.length=m/\fg m xs;have loop:=rh (t:=cc) (is:=[4]) (body:=execs Γ [.app 3 (.call "_law_name" [.call "_law_drawn" [.call "_law_cell" [.var 0,.bin .add (.var 1) (.var 4)],.cst (.int 12)],.var 3])]) (rs:=[(.loc,.int (m:Nat))]) I (λ_ _ _=>trivial) (λx xs st Ib=>by
    obtain⟨names,us,o,e,e2,HW,hw,hl,hr⟩:=Ib;subst e;obtain⟨i,hi,rfl,Jv,hlen⟩:=hr.cons;rw[k9]at hl;obtain⟨z,hz⟩:=hc ns (b+i) ⋯;rw[Â]at hz;obtain⟨ds,d1,d2,d3⟩:=hd z 12 ⋯;obtain⟨x,x1,x2,x3⟩:=hn ds names ⋯ d2 ⋯ hw;rw[<-e2]at x3;refine⟨[bD (.any,.lst (ns.map .int)),bD (.loc,.int (b:Nat)),bD (.loc,.int (m:Nat)),bD (.own,.lst us),bD (.loc,.int (i:Nat))],[bD (.any,.lst (ns.map .int)),bD (.loc,.int (b:Nat)),bD (.loc,.int (m:Nat)),bD (.own,.lst (us++[.str x])),bD (.loc,.int (i:Nat))],aC,?_,⟨names++[x],_,_,rfl,by simp[e2],?_,?_,by simp;lia,Jv⟩⟩
    · repeat' (first|exact hz|exact d3|exact x3|exact(by rw[e2,cK];lia)|sizeOf_list_dec)
    · rw[qs]
      exact ⟨HW, by simp, fun y hy w Lp => by have : w = x := by simpa using Lp
                                              subst this;rintro rfl;exact x2 hy⟩
    · intro y hy
      rcases gj.mp hy with h|h
      · exact hw y h
      · rw[mN.mp h];exact x1)
  obtain⟨st',HV,names,us,o,e,e2,HW,hw,hl,_⟩:=loop ((js m).map λi:Nat=>(Kd.loc,U.int (0+(i:Int)))) [bD (.any,.lst (ns.map .int)),bD (.loc,.int (b:Nat)),bD (.loc,.int (m:Nat)),bD (.own,.lst []),b7] ⟨[],[],b7,rfl,rfl,by simp,by simp,by simp,fg.all m⟩;subst e e2;refine⟨names,by simpa using hl,HW,hw,?_⟩;apply aE (st0:=[bD (.any,.lst (ns.map .int)),bD (.loc,.int (b:Nat)),bD (.loc,.int (m:Nat)),b7,b7]) rfl (.inl rfl) rfl
  repeat' sizeOf_list_dec
  have hit:=iD (k:=.loc) (n:=m) ⋯;refine' cH (rs:=[(.loc,.int (m:Nat))]) (st1:=[bD (.any,.lst (ns.map .int)),bD (.loc,.int (b:Nat)),bD (.loc,.int (m:Nat)),bD (.own,.lst []),b7]) _ trivial hit rfl HV _
  all_goals repeat' sizeOf_list_dec
abbrev kn:Fn:=⟨"_law_told",2,6,[.set 2 (.bi .len [.var 1]),.ite (.and [.cmp .gt (.bin .mod (.idx (.var 0) (.cst (.int 2))) (.cst (.int 3))) (.cst (.int 0)),.cmp .gt (.bin .mod (.idx (.var 0) (.cst (.int 0))) (.bi .len [.var 1])) (.cst (.int 0))]) [.set 2 (.bin .mod (.idx (.var 0) (.cst (.int 0))) (.bi .len [.var 1]))] [],.set 3 (.lst []),.Ia cc [4] .Iv [.idx (.lst [.cst (.int 0),.cst (.int 0),.cst (.int 1),.cst (.int 1),.cst (.int 1),.cst (.int 2),.cst (.int 2),.cst (.int 2),.cst (.int 3),.cst (.int 8)]) (.bin .mod (.idx (.var 0) (.cst (.int 1))) (.cst (.int 10)))] [.set 5 (.idx (.var 1) (.bin .mod (.idx (.var 0) (.bin .add (.cst (.int 3)) (.var 4))) (.var 2))),.ite (.cmp .HK (.var 5) (.var 3)) [.app 3 (.var 5)] []],.ret (.bi .tuple [.var 3])]⟩
theorem HH:∀j:Nat,j<10->∃q:Nat,q<=8/\Il [U.int 0,.int 0,.int 1,.int 1,.int 1,.int 2,.int 2,.int 2,.int 3,.int 8] (j:Int)=bD (.int (q:Nat))
 |0,_=>⟨0,⋯,rfl⟩|1,_=>⟨0,⋯,rfl⟩|2,_=>⟨1,⋯,rfl⟩|3,_=>⟨1,⋯,rfl⟩|4,_=>⟨1,⋯,rfl⟩
 |5,_=>⟨2,⋯,rfl⟩|6,_=>⟨2,⋯,rfl⟩|7,_=>⟨2,⋯,rfl⟩|8,_=>⟨3,⋯,rfl⟩|9,_=>⟨8,⋯,rfl⟩
 |n+10,h=>absurd h ⋯
def EV(hz:0<=z)(b:0<t)(hl:t<=xs.length):∃x∈xs,Il xs (z % t)=bD x:=by
 have c:=Tx z (by lia:t≠0);have e:=Sf z b;have⟨j,d⟩:=Te c;have a:j<xs.length:=by lia
 show⟨xs[j]'a,Pb a,?_⟩;rw[d];show cn (by simp[a])
def vF{xs:List Str}{z t:Int}(hz:0<=z)(a:0<t)(hl:t<=xs.length):∃x∈xs,Il (xs.map U.str) (z % t)=bD (.str x):=by
 have⟨u,b,e⟩:=EV (xs:=xs.map U.str) hz a (by simpa using hl);have⟨x,c,rfl⟩:=ez.mp b;show⟨x,c,e⟩
theorem zF{Γ:Tab}{ds:List Int}{names:List Str}(hd:11<=ds.length)(h0:∀d∈ds,0<=d)(hn:0<names.length):
    ∃told:List Str,told.length<=8/\told.Nodup/\(∀x∈told,x∈names)/\bB Γ kn [.lst (ds.map .int),.lst (names.map .str)]=bD (.ok (.loc,.tup (told.map .str))):=by
  have hsz:(1000:Nat)<=c4:=by decide
  have i0:Il (ds.map U.int) 0=bD (.int (dd ds 0)):=bE (i:=0) ⋯;have i1:Il (ds.map U.int) 1=bD (.int (dd ds 1)):=bE (i:=1) ⋯;have i2:Il (ds.map U.int) 2=bD (.int (dd ds 2)):=bE (i:=2) ⋯;have n0:=eC h0 0;have n1:=eC h0 1;have n2:=eC h0 2;have hp:(0:Int)<((names.map U.str).length:Nat):=by simp;lia
  have hL:((names.map U.str).length:Int)=names.length:=by simp
  have OS:=Sf (dd ds 0) hp;have SE:=Tx (dd ds 0) (by lia:((names.map U.str).length:Int)≠0);let B:=λ(t:Int) (us:List U) (o4 o5:Option (Kd×U))=>([bD (.any,.lst (ds.map .int)),bD (.any,.lst (names.map .str)),bD (.loc,.int t),bD (.own,.lst us),o4,o5]:ar)
  have hj:(dd ds 1 % 10).toNat<10:=by lia
  obtain⟨q,hq,I_⟩:=HH _ hj;rw[Nr ⋯]at I_;have main:∀t:Int,0<t->t<=names.length->∃told:List Str,told.length<=8/\told.Nodup/\(∀x∈told,x∈names)/\∃st',Run (execs Γ (kn.body.drop 2)) [bD (.any,.lst (ds.map .int)),bD (.any,.lst (names.map .str)),bD (.loc,.int t),b7,b7,b7] (.rt .loc (.tup (told.map .str))) st':=λt ht NR=>by
    let I:List (Kd×U)->ar->Prop:=λxs st=>∃(told:List Str) (us:List U) (o4 o5:Option (Kd×U)),st=B t us o4 o5/\us=told.map .str/\told.Nodup/\(∀x∈told,x∈names)/\told.length+xs.length<=q/\fg q xs;have loop:=rh (t:=cc) (is:=[4]) (body:=execs Γ [.set 5 (.idx (.var 1) (.bin .mod (.idx (.var 0) (.bin .add (.cst (.int 3)) (.var 4))) (.var 2))),
      .ite (.cmp .HK (.var 5) (.var 3))
        [.app 3 (.var 5)]
        []]) (rs:=[(.loc,.int (q:Nat))]) I (λ_ _ _=>trivial) (λx xs st Ib=>by
      obtain⟨told,us,o4,o5,e,e2,HW,hw,hl,hr⟩:=Ib;subst e;obtain⟨i,hi,rfl,Jv,hlen⟩:=hr.cons;rw[k9]at hl;have ik:Il (ds.map U.int) (3+(i:Int))=bD (.int (dd ds (3+i))):=by
        rw[show(3+(i:Int))=((3+i:Nat):Int) by lia];exact bE ⋯
      obtain⟨x,hx,QK⟩:=vF (xs:=names) (eC h0 (3+i)) ht NR;have Lb:bF .HK (.str x) (.lst us)=bD (df (x∉told)):=by rw[e2];exact fj
      by_cases ID:x∈told
      · refine⟨B t us (bD (.loc,.int (i:Nat))) o5,B t us (bD (.loc,.int (i:Nat))) (bD (.any,.str x)),aC,?_,⟨told,us,_,_,rfl,e2,HW,hw,⋯,Jv⟩⟩
        refine av (r:=(.any,.str x)) (st1:=B t us (bD (.loc,.int (i:Nat))) o5) ?_ mB (dn (st1:=B t us (bD (.loc,.int (i:Nat))) (bD (.any,.str x))) ?_ aJ aJ)
        · repeat' (first|exact aV ik|exact bK ht|exact aV QK|sizeOf_list_dec)
        · have:bF .HK (.str x) (.lst us)=bD cc:=by rw[Lb];simp[ID]
          repeat' (first|exact this|sizeOf_list_dec)
      · refine⟨B t us (bD (.loc,.int (i:Nat))) o5,B t (us++[.str x]) (bD (.loc,.int (i:Nat))) (bD (.any,.str x)),aC,?_,⟨told++[x],_,_,_,rfl,by simp[e2],?_,?_,by simp;lia,Jv⟩⟩
        · refine av (r:=(.any,.str x)) (st1:=B t us (bD (.loc,.int (i:Nat))) o5) ?_ mB (gH (st1:=B t us (bD (.loc,.int (i:Nat))) (bD (.any,.str x))) (st2:=B t (us++[.str x]) (bD (.loc,.int (i:Nat))) (bD (.any,.str x))) ?_ ?_ aJ)
          · repeat' (first|exact aV ik|exact bK ht|exact aV QK|sizeOf_list_dec)
          · have:bF .HK (.str x) (.lst us)=some true:=by rw[Lb];simp[ID]
            repeat' (first|exact this|sizeOf_list_dec)
          · repeat' (first|exact jn rfl|exact(by rw[e2,cK];lia)|sizeOf_list_dec)
        · rw[qs]
          exact ⟨HW, by simp, fun y hy w Lp => by have : w = x := by simpa using Lp
                                                  subst this;rintro rfl;exact ID hy⟩
        · intro y hy
          rcases gj.mp hy with h|h
          · exact hw y h
          · rw[mN.mp h];exact hx)
    obtain⟨st',HV,told,us,o4,o5,e,e2,HW,hw,hl,_⟩:=loop ((js q).map λi:Nat=>(Kd.loc,U.int (0+(i:Int)))) (B t [] b7 b7) ⟨[],[],b7,b7,rfl,rfl,by simp,by simp,by simp,fg.all q⟩;subst e e2;refine⟨told,by simp at hl;lia,HW,hw,?_⟩;have hit:=iD (k:=.loc) (n:=q) ⋯;refine⟨B t (told.map .str) o4 o5,av (r:=(.own,.lst [])) (cS ai trivial aY (mA _)) aO (cH (rs:=[(.loc,.int (q:Nat))]) (st1:=B t [] b7 b7) ?_ trivial hit rfl HV ?_)⟩
    · refine aa (a_ (x:=(.own,.lst [U.int 0,.int 0,.int 1,.int 1,.int 1,.int 2,.int 2,.int 2,.int 3,.int 8])) (y:=(.loc,.int (dd ds 1 % 10))) (st1:=B t [] b7 b7) ?_ ?_ trivial (aV I_)) ai
      · repeat' (first|exact(by decide:(10:Nat)<=c4)|sizeOf_list_dec)
      · repeat' (first|exact aV i1|sizeOf_list_dec)
    · repeat' sizeOf_list_dec
  have fin:∀t:Int,0<t->t<=names.length->(∀{f:Fl} {st':ar},Run (execs Γ (kn.body.drop 2)) [bD (.any,.lst (ds.map .int)),bD (.any,.lst (names.map .str)),bD (.loc,.int t),b7,b7,b7] f st'->Run (execs Γ kn.body) [bD (.any,.lst (ds.map .int)),bD (.any,.lst (names.map .str)),b7,b7,b7,b7] f st') ->
      ∃told:List Str,told.length<=8/\told.Nodup/\(∀x∈told,x∈names)/\bB Γ kn [.lst (ds.map .int),.lst (names.map .str)]=bD (.ok (.loc,.tup (told.map .str))):=λt ht NR hh=>by
    obtain⟨told,a1,a2,a3,st',a4⟩:=main t ht NR;exact⟨told,a1,a2,a3,aE (st0:=[bD (.any,.lst (ds.map .int)),bD (.any,.lst (names.map .str)),b7,b7,b7,b7]) rfl (.inr rfl) rfl (hh a4)⟩
  let S0:ar:=[bD (.any,.lst (ds.map .int)),bD (.any,.lst (names.map .str)),bD (.loc,.int ((names.map U.str).length:Nat)),b7,b7,b7]
  have q1:∀{c:Bool},df (0<dd ds 2 % 3)=c->Run (H0 Γ (.cmp .gt (.bin .mod (.idx (.var 0) (.cst (.int 2))) (.cst (.int 3))) (.cst (.int 0)))) S0 c S0:=λh=>by repeat' (first|exact aV i2|exact jo h|sizeOf_list_dec)
  have q2:∀{c:Bool},df (0<dd ds 0 % ((names.map U.str).length:Nat))=c->Run (H0 Γ (.cmp .gt (.bin .mod (.idx (.var 0) (.cst (.int 0))) (.bi .len [.var 1])) (.cst (.int 0)))) S0 c S0:=λh=>by repeat' (first|exact aV i0|exact bK hp|exact jo h|sizeOf_list_dec)
  have s2:Run (ev Γ (.bi .len [.var 1])) [bD (.any,.lst (ds.map .int)),bD (.any,.lst (names.map .str)),b7,b7,b7,b7] (.loc,.int ((names.map U.str).length:Nat)) [bD (.any,.lst (ds.map .int)),bD (.any,.lst (names.map .str)),b7,b7,b7,b7]:=by repeat' sizeOf_list_dec
  have s3:Run (ev Γ (.bin .mod (.idx (.var 0) (.cst (.int 0))) (.bi .len [.var 1]))) S0 (.loc,.int (dd ds 0 % ((names.map U.str).length:Nat))) S0:=by repeat' (first|exact aV i0|exact bK hp|sizeOf_list_dec)
  by_cases c1:0<dd ds 2 % 3
  · by_cases c2:0<dd ds 0 % ((names.map U.str).length:Nat)
    · exact fin (dd ds 0 % ((names.map U.str).length:Nat)) c2 ⋯ λh=>av s2 aC (gH (il (pP (q1 (Ġ c1)) (cZ (q2 (Ġ c2))))) (av s3 aC aJ) h)
    · exact fin ((names.map U.str).length:Nat) hp ⋯ λh=>av s2 aC (dn (il (pP (q1 (Ġ c1)) (cZ (q2 (Ğ c2))))) aJ h)
  · exact fin ((names.map U.str).length:Nat) hp ⋯ λh=>av s2 aC (dn (il (zv (q1 (Ğ c1)))) aJ h)
def oz(g:Run (ev Γ h) st rv st1)(j:st1[i]?=bD (bD (k',u')))(l:Run (ev Γ m) st1 rk st2)(n:Run (dC [rv,rk]) st2 [b,c] st3)(o:st3[i]?=bD (bD (k,d)))(hk:k.root=cb)(p:eO c b d=bD e)
  (q:Run (execs Γ ss) (st3.set i (bD (k,e))) f r) (s:k'≠.B':=by intro z;cases z):Run (execs Γ (.put i m h::ss)) st f r:=by
 show gG (af g (af (gF j s) (af l (af n (af (a:=()) (st1:=st3.set i (bD (k,e))) ?_ aW))))) q;change modS i (uU [b,c]) st3=_;unfold modS;rw[o];simp only[hk,ĥ];change(match eO c b d with|some u'=>_|none=>b7)=_;rw[p]
@[reducible]def Row:=Str×List Str
abbrev A'(r:Row):U:=.tup [.str r.1,.tup (r.2.map .str)]
abbrev keyOf(r:Row):Row:=(r.1,az r.2)
def oA(r:Row):rowOf (A' r)=bD r:=by
 change(strsOf (r.2.map U.str)).map _=_;rw[fh];rfl
def sorted_strs(h:ss.length<64):Jh .sorted [(k,.tup (ss.map .str))]=bD (.own,.lst ((az ss).map .str)):=by
 change(strsOf (ss.map U.str)).bind _=_;rw[fh];change(if ss.length<64 then _ else _)=_;rw[ĝ h]
abbrev zG:Fn:=⟨"_law_book",4,10,[.set 4 (.lst []),.set 5 (.JC cb),.Ia cc [6] .Iv [.var 3] [.set 7 (.call "_law_drawn" [.call "_law_cell" [.var 0,.bin .add (.var 1) (.var 6)],.cst (.int 11)]),.set 8 (.tup [.idx (.var 2) (.bin .mod (.idx (.var 7) (.cst (.int 0))) (.bi .len [.var 2])),.call "_law_told" [.var 7,.var 2]]),.set 9 (.tup [.idx (.var 8) (.cst (.int 0)),.bi .tuple [.bi .sorted [.idx (.var 8) (.cst (.int 1))]]]),.ite (.cmp .HK (.var 9) (.var 5)) [.put 5 (.var 9) (.cst (.bl cb)),.app 4 (.var 8)] []],.ret (.bi .tuple [.var 4])]⟩
abbrev zH(Γ:Tab):Prop:=∀(ds:List Int) (names:List Str),11<=ds.length->(∀d∈ds,0<=d)->0<names.length ->
 ∃told:List Str,told.length<=8/\told.Nodup/\(∀x∈told,x∈names)/\Γ "_law_told" [.lst (ds.map .int),.lst (names.map .str)]=bD (.ok (.loc,.tup (told.map .str)))
structure cz(names:List Str)(r:Row):Prop where
 word:r.1∈names
 JV:r.2.length<=8
 once:r.2.Nodup
 told:∀x∈r.2,x∈names
theorem zI(hc:iE Γ)(hd:fH Γ)(ht:zH Γ){ns:List Int}(hn:0<names.length)(hb:b<1000)(hm:m<1000):
    ∃rows:List Row,rows.length<=m/\(rows.map keyOf).Nodup/\(∀r∈rows,cz names r)/\bB Γ zG [.lst (ns.map .int),.int (b:Nat),.lst (names.map .str),.int (m:Nat)]=bD (.ok (.loc,.tup (rows.map A'))):=by
  have hsz:(1000:Nat)<=c4:=by decide
  let B:=λ(us:List U) (ks:List m_) (o6 o7 o8 o9:Option (Kd×U))=>([bD (.any,.lst (ns.map .int)),bD (.loc,.int (b:Nat)),bD (.any,.lst (names.map .str)),bD (.loc,.int (m:Nat)),bD (.own,.lst us),bD (.own,.IM ks),o6,o7,o8,o9]:ar)
  let I:List (Kd×U)->ar->Prop:=λxs st=>∃(rows:List Row) (us:List U) (ks:List m_) (o6 o7 o8 o9:Option (Kd×U)),st=B us ks o6 o7 o8 o9/\us=rows.map A'/\ks=rows.map keyOf/\ks.Nodup/\(∀r∈rows,cz names r)/\rows.length+xs.length<=m/\fg m xs;have hp:(0:Int)<((names.map U.str).length:Nat):=by simp;lia
  have loop:=rh (t:=cc) (is:=[6]) (body:=execs Γ [.set 7 (.call "_law_drawn" [.call "_law_cell" [.var 0,.bin .add (.var 1) (.var 6)],.cst (.int 11)]),
      .set 8 (.tup [.idx (.var 2) (.bin .mod (.idx (.var 7) (.cst (.int 0))) (.bi .len [.var 2])),.call "_law_told" [.var 7,.var 2]]),
      .set 9 (.tup [.idx (.var 8) (.cst (.int 0)),.bi .tuple [.bi .sorted [.idx (.var 8) (.cst (.int 1))]]]),
      .ite (.cmp .HK (.var 9) (.var 5))
        [.put 5 (.var 9) (.cst (.bl cb)),
        .app 4 (.var 8)]
        []]) (rs:=[(.loc,.int (m:Nat))]) I (λ_ _ _=>trivial) (λx xs st Ib=>by
    obtain⟨rows,us,ks,o6,o7,o8,o9,e,e2,e3,HW,hw,hl,hr⟩:=Ib;subst e;obtain⟨i,hi,rfl,Jv,hlen⟩:=hr.cons;rw[k9]at hl;obtain⟨z,hz⟩:=hc ns (b+i) ⋯;rw[Â]at hz;obtain⟨ds,d1,d2,d3⟩:=hd z 11 ⋯;obtain⟨told,t1,t2,t3,t4⟩:=ht ds names ⋯ d2 hn;have i0:Il (ds.map U.int) 0=bD (.int (dd ds 0)):=bE (i:=0) ⋯;obtain⟨nm,LX,SD⟩:=vF (xs:=names) (t:=((names.map U.str).length:Nat)) (eC d2 0) hp (by simp);have IT:cz names (nm,told):=⟨LX,t1,t2,t3⟩
    have j0:g_ (.loc,A' (nm,told)) (.int 0)=bD (.loc,.str nm):=rfl;have j1:g_ (.loc,A' (nm,told)) (.int 1)=bD (.loc,.tup (told.map .str)):=rfl;have To:=sorted_strs (k:=.loc) (ss:=told) ⋯;let i6:Option (Kd×U):=bD (.loc,.int (i:Nat));let i7:Option (Kd×U):=bD (.own,.lst (ds.map .int));let i8:Option (Kd×U):=bD (.loc,A' (nm,told));let i9:Option (Kd×U):=bD (.loc,A' (keyOf (nm,told)));have g7:Run (ev Γ (.call "_law_drawn" [.call "_law_cell" [.var 0,.bin .add (.var 1) (.var 6)],.cst (.int 11)])) (B us ks i6 o7 o8 o9) (.own,.lst (ds.map .int)) (B us ks i6 o7 o8 o9):=by repeat' (first|exact hz|exact d3|sizeOf_list_dec)
    have g8:Run (ev Γ (.tup [.idx (.var 2) (.bin .mod (.idx (.var 7) (.cst (.int 0))) (.bi .len [.var 2])),.call "_law_told" [.var 7,.var 2]])) (B us ks i6 i7 o8 o9) (.loc,A' (nm,told)) (B us ks i6 i7 o8 o9):=by
      repeat' (first|exact aV i0|exact bK hp|exact aV SD|exact t4|exact jn rfl|exact(by decide:(2:Nat)<=c4)|sizeOf_list_dec)
    have g9:Run (ev Γ (.tup [.idx (.var 8) (.cst (.int 0)),.bi .tuple [.bi .sorted [.idx (.var 8) (.cst (.int 1))]]])) (B us ks i6 i7 i8 o9) (.loc,A' (keyOf (nm,told))) (B us ks i6 i7 i8 o9):=by
      repeat' (first|exact j0|exact j1|exact To|exact(by decide:(2:Nat)<=c4)|sizeOf_list_dec)
    have Lb:bF .HK (A' (keyOf (nm,told))) (.IM ks)=bD (df (keyOf (nm,told)∉ks)):=by
      show(((rowOf (A' (keyOf (nm,told)))).map λr=>df (r∈ks))).map (!·)=_;rw[oA];simp
    by_cases ID:keyOf (nm,told)∈ks
    · refine⟨B us ks i6 o7 o8 o9,B us ks i6 i7 i8 i9,aC,av g7 aO (av g8 aC (av g9 aC (dn ?_ aJ aJ))),⟨rows,us,ks,_,_,_,_,rfl,e2,e3,HW,hw,⋯,Jv⟩⟩
      have:bF .HK (A' (keyOf (nm,told))) (.IM ks)=bD cc:=by rw[Lb];simp[ID]
      exact bb (ae rfl) (ao rfl) ⟨⟨.own,rfl,rfl⟩,trivial⟩ this
    · refine⟨B us ks i6 o7 o8 o9,B (us++[A' (nm,told)]) (ks++[keyOf (nm,told)]) i6 i7 i8 i9,aC,av g7 aO (av g8 aC (av g9 aC (gH (st1:=B us ks i6 i7 i8 i9) (st2:=B (us++[A' (nm,told)]) (ks++[keyOf (nm,told)]) i6 i7 i8 i9) ?_ ?_ aJ))),⟨rows++[(nm,told)],_,_,_,_,_,_,rfl,by simp[e2],by simp[e3],?_,?_,by simp;lia,Jv⟩⟩
      · have:bF .HK (A' (keyOf (nm,told))) (.IM ks)=bD cb:=by rw[Lb];simp[ID]
        exact bb (ae rfl) (ao rfl) ⟨⟨.own,rfl,rfl⟩,trivial⟩ this
      · have Tq:eO (A' (keyOf (nm,told))) (.bl cb) (.IM ks)=bD (.IM (ks++[keyOf (nm,told)])):=by
          show(match rowOf (A' (keyOf (nm,told))),U.bl cb with|some r,.bl cb=>if r∉ks/\ks.length<=1000 then bD (U.IM (ks++[r])) else b7|_,_=>b7)=_;rw[oA];show(if keyOf (nm,told)∉ks/\ks.length<=1000 then _ else _)=_;rw[ĝ ⟨ID,by rw[e3,cK];lia⟩]
        exact oz (st1:=B us ks i6 i7 i8 i9) (st2:=B us ks i6 i7 i8 i9) (st3:=B us ks i6 i7 i8 i9) (k:=.own) (k':=.own) aw rfl (ae rfl) (aN aI (aN aI aY)) rfl rfl Tq
          (ff (st1:=B us (ks++[keyOf (nm,told)]) i6 i7 i8 i9) (st2:=B us (ks++[keyOf (nm,told)]) i6 i7 i8 i9) (k:=.own) (k':=.own) (us:=us) (us':=us) rfl (ae rfl) aI rfl rfl (by rw[e2,cK];lia) aJ)
      · rw[qs]
        exact ⟨HW, by simp, fun y hy w Lp => by have : w = keyOf (nm, told) := by simpa using Lp
                                                subst this;rintro rfl;exact ID hy⟩
      · intro y hy
        rcases gj.mp hy with h|h
        · exact hw y h
        · rw[mN.mp h];exact IT)
  obtain⟨st',HV,rows,us,ks,o6,o7,o8,o9,e,e2,e3,HW,hw,hl,_⟩:=loop ((js m).map λi:Nat=>(Kd.loc,U.int (0+(i:Int)))) (B [] [] b7 b7 b7 b7) ⟨[],[],[],b7,b7,b7,b7,rfl,rfl,rfl,by simp,by simp,by simp,fg.all m⟩;subst e e2 e3;refine⟨rows,by simpa using hl,HW,hw,?_⟩;have hit:=iD (k:=.loc) (n:=m) ⋯;exact aE (st0:=[bD (.any,.lst (ns.map .int)),bD (.loc,.int (b:Nat)),bD (.any,.lst (names.map .str)),bD (.loc,.int (m:Nat)),b7,b7,b7,b7,b7,b7]) rfl (.inr rfl) rfl
    (av (r:=(.own,.lst [])) (cS ai trivial aY (mA _)) aO (av (r:=(.own,.IM [])) mz aO (cH (rs:=[(.loc,.int (m:Nat))]) (st1:=B [] [] b7 b7 b7 b7) (aa (ae rfl) ai) trivial hit rfl HV
      (bV (bZ (aa (ao rfl) ai) ⟨⟨.own,rfl,rfl⟩,trivial⟩ rfl) dI))))
abbrev pV(Γ:Tab):Prop:=∀(ns:List Int) (b m:Nat),b<1000->m<40->∃names:List Str,names.length=m/\names.Nodup/\(∀x∈names,aH x.cps.toList)/\Γ "_law_names" [.lst (ns.map .int),.int (b:Nat),.int (m:Nat)]=bD (.ok (.own,.lst (names.map .str)))
abbrev tW(Γ:Tab):Prop:=∀(ns:List Int) (names:List Str) (b m:Nat),0<names.length->b<1000->m<1000 ->
 ∃rows:List Row,rows.length<=m/\(rows.map keyOf).Nodup/\(∀r∈rows,cz names r)/\Γ "_law_book" [.lst (ns.map .int),.int (b:Nat),.lst (names.map .str),.int (m:Nat)]=bD (.ok (.loc,.tup (rows.map A')))
abbrev zJ:Fn:=⟨"_law_made",1,3,[.set 1 (.call "_law_drawn" [.call "_law_cell" [.var 0,.cst (.int 0)],.cst (.int 4)]),.set 2 (.call "_law_names" [.var 0,.cst (.int 1),.bin .add (.cst (.int 1)) (.bin .mod (.idx (.var 1) (.cst (.int 0))) (.cst (.int 14)))]),.ret (.call "_law_book" [.var 0,.cst (.int 20),.var 2,.bin .mod (.idx (.var 1) (.cst (.int 1))) (.cst (.int 41))])]⟩
def zK(c:iE Γ)(d:fH Γ)(e:pV Γ)(f:tW Γ)(ns:List Int):∃(names:List Str) (rows:List Row),0<names.length/\names.length<=14/\names.Nodup/\(∀x∈names,aH x.cps.toList) /\
  rows.length<=40/\(rows.map keyOf).Nodup/\(∀r∈rows,cz names r)/\bB Γ zJ [.lst (ns.map .int)]=bD (.ok (.loc,.tup (rows.map A'))):=by
 have⟨z,hz⟩:=c ns 0 ⋯;have⟨ds,n,a,g⟩:=d z 4 ⋯;have h:Il (ds.map U.int) 0=bD (.int (dd ds 0)):=bE (i:=0) ⋯;have j:Il (ds.map U.int) 1=bD (.int (dd ds 1)):=bE (i:=1) ⋯;have o:=eC a 0;have p:=eC a 1;have⟨names,q,k,l,b⟩:=e ns 1 (1+dd ds 0 % 14).toNat ⋯ ⋯;rw[Nr ⋯]at b;have⟨rows,b1,m,b3,b4⟩:=f ns names 20 (dd ds 1 % 41).toNat ⋯ ⋯ ⋯;rw[Nr ⋯]at b4;show⟨names,rows,⋯,⋯,k,l,⋯,m,b3,?_⟩;apply aE (st0:=[bD (.any,.lst (ns.map .int)),b7,b7]) rfl (.inr rfl) rfl
 repeat' (first|show hz|show g|show aV h|show aV j|show b|show b4|sizeOf_list_dec)
section
def CV(h:IA Pg "_law_mix" xi):zB (Io Pg (d+1)):=λc k a b=>by rw[aB h];show B9 a b
def iF(h:IA Pg "_law_mix" xi)(a:IA Pg "_law_cell" vC):iE (Io Pg (d+2)):=λns k hk=>⟨_,by rw[aB a];show zD (CV h) hk⟩
def drawnOk(h:IA Pg "_law_mix" xi)(f:IA Pg "_law_drawn" pR):fH (Io Pg (d+2)):=λc n g=>by
 have⟨ds,a,b,e⟩:=xj (CV (d:=d) h) (c:=c) g;show⟨ds,a,b,by rw[aB f];show e⟩
def zL(f:B_ g)(h:IA Pg "_law_name" (pT g)):tV (Io Pg (d+1)):=λds names a b c e=>by
 have⟨x,p,q,r⟩:=zE (Γ:=Io Pg d) f a b c e;show⟨x,p,q,by rw[aB h];show r⟩
def EW(h:IA Pg "_law_told" kn):zH (Io Pg (d+1)):=λds names a b c=>by
 have⟨x,p,q,r,s⟩:=zF (Γ:=Io Pg d) a b c;show⟨x,p,q,r,by rw[aB h];show s⟩
structure c6(md:E)(Pg:List Fn):Prop where
 mix:IA Pg "_law_mix" xi
 cell:IA Pg "_law_cell" vC
 drawn:IA Pg "_law_drawn" pR
 name:IA Pg "_law_name" (pT md)
 names:IA Pg "_law_names" fNames
 told:IA Pg "_law_told" kn
 book:IA Pg "_law_book" zG
def c6.iF(M:c6 a Pg):iE (Io Pg (d+2)):=TM.iF M.mix M.cell
def c6.drawnOk(M:c6 a Pg):fH (Io Pg (d+2)):=TM.drawnOk M.mix M.drawn
def c6.zM(a:B_ c)(M:c6 c Pg):pV (Io Pg (d+3)):=λns b m e f=>by
 have⟨names,p,q,r,s⟩:=xq (Γ:=Io Pg (d+2)) M.iF M.drawnOk (TM.zL a M.name) (ns:=ns) e f;show⟨names,p,q,r,by rw[aB M.names];show s⟩
@[reducible]def zN(Pg:List Fn):Prop:=c6 GL Pg
def c6.namesOk(M:zN Pg):pV (Io Pg (d+3)):=c6.zM vE M
def c6.zO(M:c6 f Pg):tW (Io Pg (d+3)):=λns names b m a c e=>by
 have⟨rows,p,q,r,s⟩:=zI (Γ:=Io Pg (d+2)) M.iF M.drawnOk (TM.EW M.told) (ns:=ns) a c e;show⟨rows,p,q,r,by rw[aB M.book];show s⟩
end
section
def oB(h:Run (execs Γ (a++ss)) st f st2):(∃s1,Run (execs Γ a) st .nx s1/\Run (execs Γ ss) s1 f st2)\/(Run (execs Γ a) st f st2/\f≠.nx):=by
 induction a generalizing st with
 |nil=>show .inl ⟨st,aJ,h⟩
 |cons s a i =>
  have h':M.bind (exec Γ s) (λf=>match f with|.nx=>execs Γ (a++ss)|f=>pure f) st=bD (.ok f,st2):=h;unfold M.bind at h';cases e:exec Γ s st with
  |none=>rw[e]at h';cases h'
  |some p =>
   have⟨x,s1⟩:=p;rw[e]at h';cases x with
   |exc c=>cases h'
   |ok g =>
    cases g with
    |nx =>
     rcases i h' with⟨s2,b,d⟩|⟨b,d⟩
     .show .inl ⟨s2,gG e b,d⟩
     .show .inr ⟨gG e b,d⟩
    |rt k u=>cases h';show .inr ⟨zx e,λz=>nomatch z⟩
    |bk=>cases h';show .inr ⟨af (show Run (exec Γ s) st Fl.bk _ from e) aW,λz=>nomatch z⟩
    |ct=>cases h';show .inr ⟨af (show Run (exec Γ s) st Fl.ct _ from e) aW,λz=>nomatch z⟩
def GN(a:Run (exec Γ s) st f st1)(b:f≠.nx):Run (execs Γ (s::ss)) st f st1:=by
 cases f with
 |nx=>show absurd rfl b
 |rt k u=>show zx a
 |_=>show af a aW
def cD(g:Run (H0 Γ c) st p st1)(h:p=cb->Run (execs Γ (a++ss)) st1 f st2)(i:p=cc->Run (execs Γ (b++ss)) st1 f st2):Run (execs Γ (.ite c a b::ss)) st f st2:=by
 cases p with
 |true =>
  rcases oB (h rfl) with⟨s1,d,e⟩|⟨d,e⟩
  .show gG (pQ g d) e
  .show GN (pQ g d) e
 |false =>
  rcases oB (i rfl) with⟨s1,d,e⟩|⟨d,e⟩
  .show gG (tM g d) e
  .show GN (tM g d) e
def CW(h:Run (H0 Γ e) st p st)(a:p=cc->Run (gv Γ (b::es)) st q st):Run (gv Γ (e::b::es)) st (p||q) st:=by
 cases p with
 |true=>show GG h
 |false=>show vA h (a rfl)
def jR(h:Run (H0 Γ e) st p st)(a:p=cb->Run (aR Γ (b::es)) st q st):Run (aR Γ (e::b::es)) st (p&&q) st:=by
 cases p with
 |true=>show pP h (a rfl)
 |false=>show zv h
theorem c7{cond:M Bool}(h:br src st)(k:Kd)(hk:k=.loc\/k=.any)(a g:α->U)(c:Kd)(d:∀y,Run cond (bD (k,a y)::st) cb (bD (k,a y)::st)):∀(b:List α) (acc:List U),acc.length+b.length<=c4 ->
  (∀y∈b,Run elt (bD (k,a y)::st) (c,g y) (bD (k,a y)::st)/\Run (lift (c,g y)) (bD (k,a y)::st) (g y) (bD (k,a y)::st))->Run (bS 1 cc cond elt src (b.map λy=>(k,a y)) acc) st (acc++b.map g) st
 |[],acc,_,_=>by rw[Jc,Jc,vu];show rj h
 |y::b,acc,hl,e=>by
  have⟨f,i⟩:=e y (by simp);rw[k9]at hl;show mD (s1:=bD (k,a y)::st) (s2:=bD (k,a y)::st) (s3:=bD (k,a y)::st) (s4:=bD (k,a y)::st) h ?_ (d y) f i ⋯ ?_
  .rcases hk with rfl|rfl
   .show bM aC
   .show bM mB
  .have:=c7 h k hk a g c d b (acc++[g y]) (by simp;lia) λz hz=>e z (by simp[hz]);rw[eF];simpa using this
theorem mH{cond:M Bool}(h:br src st)(k:Kd)(hk:k=.loc\/k=.any)(a g:α->U)(p:α->Bool)(d:Kd):∀(b:List α) (acc:List U),acc.length+b.length<=c4 ->
  (∀y∈b,Run cond (bD (k,a y)::st) (p y) (bD (k,a y)::st)/\(p y=cb->Run elt (bD (k,a y)::st) (d,g y) (bD (k,a y)::st)/\Run (lift (d,g y)) (bD (k,a y)::st) (g y) (bD (k,a y)::st)))->Run (bS 1 cc cond elt src (b.map λy=>(k,a y)) acc) st (acc++(b.filter p).map g) st
 |[],acc,_,_=>by rw[Jc,Tv,Jc,vu];show rj h
 |y::b,acc,hl,f=>by
  have⟨e,j⟩:=f y (by simp);rw[k9]at hl;have i:Run (dc cc (js 1) (k,a y)) (mx 1 b7++st) () (bD (k,a y)::st):=by
   rcases hk with rfl|rfl
   .show bM aC
   .show bM mB
  cases c:p y with
  |true =>
   rw[c]at e;have⟨l,m⟩:=j c;show mD (s1:=bD (k,a y)::st) (s2:=bD (k,a y)::st) (s3:=bD (k,a y)::st) (s4:=bD (k,a y)::st) h i e l m ⋯ ?_;have:=mH h k hk a g p d b (acc++[g y]) (by simp;lia) λz hz=>f z (by simp[hz]);rw[z8,ĝ c,eF];simpa using this
  |false =>
   rw[c]at e;show tP (s1:=bD (k,a y)::st) (s2:=bD (k,a y)::st) h i e ?_;have:=mH h k hk a g p d b acc ⋯ λz hz=>f z (by simp[hz]);rw[z8,ğ (by simp[c])];show this
theorem cM(it:α->Kd×U)(I:List α->List α->ar->Prop)(hs:∀d r st,I d r st->br rs st)
  (ZS:∀d y r st,I d (y::r) st->∃st1 st2,Run (dc t is (it y)) st () st1/\Run body st1 .nx st2/\I (d++[y]) r st2):∀(r d:List α) (st:ar),I d r st->∃st',Run (forM t is body rs (r.map it)) st .nx st'/\I (d++r) [] st'
 |[],d,st,h=>⟨st,rf (hs _ _ _ h),by rw[vu];show h⟩
 |y::r,d,st,h=>by
  have⟨s1,s2,a,b,c⟩:=ZS d y r st h;have⟨s3,e,f⟩:=cM it I hs ZS r (d++[y]) s2 c;show⟨s3,rg (hs _ _ _ h) a b e,by simpa using f⟩
def EX(a:Run (bL Γ es) st rs st1)(c:br rs st1)(d:Γ f (rs.map (·.2))=bD (.ok r))(e:wH r.2=bD b)(g:isAny r.1=cc:=by show rfl):Run (H0 Γ (.call f es)) st b st1:=af a (af (bf c) (af (vv d g) (c9 e)))
def tX(h:Run (ev Γ (.bi f es)) st (k,.bl b) st1):Run (H0 Γ (.bi f es)) st b st1:=by
 have h':(bL Γ es >>= λrs=>aD rs >>= λ_=>M.Im (Jh f rs)) st=bD (.ok (k,.bl b),st1):=h;obtain⟨rs,s1,c,d,s2,e,r,s3,g,i⟩:∃rs s1,bL Γ es st=bD (.ok rs,s1)/\∃(a:Unit) (s2:ar),aD rs s1=bD (.ok a,s2)/\∃r s3,M.Im (Jh f rs) s2=bD (.ok r,s3)/\(r,s3)=((k,U.bl b),st1):=by
  have w:W (bL Γ es >>= λrs=>aD rs >>= λ_=>M.Im (Jh f rs)) st λr s=>(r,s)=((k,U.bl b),st1):=⟨_,_,h',rfl⟩
  rw[ah]at w;have⟨rs,s1,c,w⟩:=w;rw[ah]at w;have⟨a,s2,d,w⟩:=w;have⟨r,s3,e,w⟩:=w;show⟨rs,s1,c,a,s2,d,r,s3,e,w⟩
 cases i;show af c (af (a:=d) e (af g (c9 rfl)))
def vG(c:st[i]?=bD (bD (k',.lst us')))(d:Run (ev Γ e) st r st1)(g:st1[i]?=bD (bD (k,.lst us)))(hk:k.root=cb)(h:lW r (.lst us)=bD (.lst b))
  (j:Run (execs Γ ss) (st1.set i (bD (k,.lst b))) f st3) (l:k'≠.B':=by intro z;cases z):Run (execs Γ (.ext i e::ss)) st f st3:=by
 show gG (af (gF c l) (af (a:=()) (st1:=st) rfl (af d (af (a:=()) (st1:=st1.set i (bD (k,.lst b))) ?_ aW)))) j;change modS i (lW r) st1=_;unfold modS;rw[g];simp only[hk,ĥ];rw[h]
end
def vH(h:xs.length+a.length<=c4)(hs:gq k a=cb):lW (k,.tup a) (.lst xs)=bD (.lst (xs++a)):=by
 change(if xs.length+a.length<=c4/\gq k a=cb then _ else _)=_;rw[ĝ ⟨h,hs⟩]
def vI(h:xs.length+a.length<=c4)(hs:gq k a=cb):lW (k,.lst a) (.lst xs)=bD (.lst (xs++a)):=by
 change(if xs.length+a.length<=c4/\gq k a=cb then _ else _)=_;rw[ĝ ⟨h,hs⟩]
theorem jS:∀ss:List Str,fU (ss.map U.str)=cb
 |[]=>by simp[fU]
 |s::ss=>by simp[fU,Ii,jS ss]
def kQ(r:Row):Ii (A' r)=cb:=by simp[A',Ii,fU,jS]
theorem aZ:∀rs:List Row,fU (rs.map A')=cb
 |[]=>by simp[fU]
 |r::rs=>by simp[fU,kQ,aZ rs]
theorem iG:∀(a b:List Str),cF (a.map U.str) (b.map U.str)=df (a=b)
 |[],[]=>by simp[cF]
 |[],_::_=>by simp[cF]
 |_::_,[]=>by simp[cF]
 |x::a,y::b=>by
  rw[eF,eF,cF,iG a b];simp only[bR];by_cases h:x=y
  .subst h;simp
  .simp[h]
def oC(a b:Row):bR (A' a) (A' b)=df (a=b):=by
 have⟨c,d⟩:=a;have⟨b1,e⟩:=b;simp only[A',bR,cF,Yp,iG];by_cases h:c=b1
 .subst h;simp
 .simp[h]
def kR(r:Row):IQ 50 (A' r)=cb:=by
 simp[A',IQ,c_,fi]
def Cb{op:Bool}{a b:Row}:bF .eq (A' a) (A' b)=bD (df (a=b)):=by
 simp only[bF];rw[ĝ ⟨kR a,kR b⟩,oC]
def dq(ss:List Str)(n:Nat):IQ (n+1) (.lst (ss.map U.str))=cb:=by simp[IQ,fi]
def mI{a b:List Str}:bF .eq (.lst (a.map U.str)) (.lst (b.map U.str))=bD (df (a=b)):=by
 simp only[bF];rw[ĝ ⟨dq a 49,dq b 49⟩];simp only[bR,iG]
def pW(f:α->β)(xs:List α)(lo a:Option Int):cut (xs.map f) lo a=(cut xs lo a).map f:=by simp[cut,Ð,Ñ]
def mJ(h:acc.length<4000)(a:(aP acc).length<64):wD .sset [(k,.lst (acc.map .str))]=bD (.own,.lst ((az (aP acc)).map .str)):=by
 have e:qL (.lst (acc.map U.str))=bD (aP acc):=by
  change(strsOf (acc.map U.str)).bind _=_;rw[fh];change(if acc.length+1<Na then _ else _)=_;rw[ĝ (by change acc.length+1<4096;lia)]
 change(qL (.lst (acc.map U.str))).bind _=_;rw[e];change(if (aP acc).length<64 then _ else _)=_;rw[ĝ a]
abbrev jT(rows:List Row):List Str:=rows.map (·.1)++(rows.map (·.2)).flatten
def pX(h:∀r∈rows,cz names r):∀x∈jT rows,x∈names:=by
 intro x hx;rcases gj.mp hx with hx|hx
 .have⟨r,a,rfl⟩:=ez.mp hx;show(h r a).word
 .have⟨l,hl,hx⟩:=VX.mp hx;have⟨r,a,rfl⟩:=ez.mp hl;show(h r a).told x hx
def rq{rows:List Row}(h:∀r∈rows,r.2.length<=n):(rows.map (·.2)).flatten.length<=n * rows.length:=by
 induction rows with
 |nil=>simp
 |cons r rows a =>
  have b:=h r (by simp);have c:=a λs hs=>h s (by simp[hs]);simp only[eF,Sr,gs,k9,ă];lia
theorem eI:∀{l:List α},(∀x∈l,∀y∈l,f x=f y->x=y)->l.Nodup->(l.map f).Nodup
 |[],_,_=>R9
 |a::l,h,n=>by
  rw[nc]at n;rw[eF,nc];show⟨λz=>?_,eI (λx d y g=>h x (by simp[d]) y (by simp[g])) n.2⟩;have⟨b,c,e⟩:=ez.mp z;show n.1 (h b (by simp[c]) a (by simp) e▸c)
def zP(l:List Str):(az (aP l)).Nodup:=(aX _).nodup_iff.mpr (cW l)
def EY(l:List Str)(x:Str):x∈az (aP l)↔x∈l:=by rw[(aX _).mem_iff,dZ]
def tY{l names:List Str}(h:∀x∈l,x∈names):(aP l).length<=names.length:=jr (cW l) λx a=>h x ((dZ l x).mp a)
section
def xr{rows:List Row}(hl:rows.length<=1000)(h:st[i]?=bD (bD (.loc,.tup (rows.map A')))):Run (ev Γ (.comp 1 cc .seq [.var i] [] (.idx (.var 0) (.cst (.int 0))))) st (.own,.lst ((rows.map (·.1)).map .str)) st:=by
 have hsz:(1000:Nat)<=c4:=by decide
 have a:=c7 (cond:=aR Γ []) (elt:=ev Γ (.idx (.var 0) (.cst (.int 0)))) (src:=[(.loc,.tup (rows.map A'))]) (st:=st) trivial .loc (.inl rfl) A' (λr=>.str r.1) .loc (λ_=>ei) rows [] (by simp;lia)
  (λr _=>⟨a_ (x:=(.loc,A' r)) (ae rfl) aw trivial rfl,aI⟩)
 rw[lb]at a;have e:(rows.map A').map (λu=>(kE .loc,u))=rows.map λr=>(Kd.loc,A' r):=by rw[hQ];rfl
 rw[hQ];show bW (rs:=[(.loc,.tup (rows.map A'))]) (aa (ae h) ai) trivial (by change bD _=_;rw[e]) a
end
section
def GO:Run (Mz Γ [] out) st out st:=rfl
def tZ(a:Run (ev Γ e) st x st1)(b:nu x.2 out=bD y)(c:Run (Mz Γ es y) st1 z st2):Run (Mz Γ (e::es) out) st z st2:=af a (af (c9 b) c)
def GP(h:Run (Mz Γ es ri) st z st1):Run (ev Γ (.fst es)) st (.loc,.str z) st1:=af h aW
def GQ(c:Run (ev Γ a) st x st1)(d:qO x.2 T=bD b):Run (ev Γ (.Ms a T)) st (.loc,.bl b) st1:=af c (af (c9 d) aW)
end
def gI(h:xs.length+a.length<=c4)(b:gq k xs=cb)(c:gq k' a=cb):JD .add (k,.lst xs) (k',.lst a)=bD (.own,.lst (xs++a)):=by
 simp only[JD,sQ];rw[ĝ ⟨h,b,c⟩]
def jt(x y:Str):(x++y).cps.toList=x.cps.toList++y.cps.toList:=by
 change(x.cps++y.cps).toList=_;simp
def str_len(x y:Str):(x++y).length=x.length+y.length:=by rw[len_list,len_list,len_list,jt,gs]
def fu{x y:Str}(h:x.cps.toList=y.cps.toList):x=y:=by
 have⟨a⟩:=x;have⟨b⟩:=y;have:a=b:=VJ.mp h;rw[this]
def empty_app(x:Str):ri++x=x:=fu (by rw[jt];rfl)
def vJ(a:y.length<=1000)(b:out.length<=1000):nu (.str y) out=bD (out++y):=by
 have hsz:(4000:Nat)<=c4:=by decide
 simp only[nu];rw[ĝ ⟨⋯,by rw[str_len];lia⟩]
def Ce(b:0<=k)(c:k<=99)(a:out.length<=1000):nu (.int k) out=bD (out++fZ k):=by
 have hsz:(4000:Nat)<=c4:=by decide
 have hl:=dS b c;simp only[nu];rw[ĝ ⟨by
  by_cases hz:k=0
  .subst hz;decide
  .have:k.natAbs<2 ^ 7:=by lia
   have a:k.natAbs≠0:=by lia
   have:=(Y_ a).mpr this;lia,by rw[str_len];change out.length+(fZ k).length<=c4;lia⟩]
 rfl
def xu(h:aH x.cps.toList):∃y r,Nu x f9=y::r/\(q9 x f9).1=y/\y.length<=8:=by
 rcases h with h|⟨a,b,k,e,h,_⟩
 .show⟨x,[],ly (eV h),by rw[show f9=⟨#[47]⟩ from rfl,Ig.jD (eV h)],by rw[len_list];show((bQ _).mp h).2.1⟩
 .have⟨r,c⟩:=qw e (eV h) (by decide);show⟨_,r,c,by rw[show f9=⟨#[47]⟩ from rfl,Ig.AV e (eV h)],by rw[len_list];simpa using((bQ _).mp h).2.1⟩
abbrev cN(rows:List Row):List Str:=(rows.map λr=>r.1::r.2).flatten
abbrev aj(rows:List Row):List Str:=az (aP (cN rows))
def rA(d:List Row)(y:Row):cN (d++[y])=cN d++[y.1]++y.2:=by simp[cN]
def eD:x∈cN rows↔∃r∈rows,x=r.1\/x∈r.2:=by
 simp only[cN,VX,ez];constructor
 .rintro⟨l,⟨r,a,rfl⟩,b⟩;show⟨r,a,d6.mp b⟩
 .rintro⟨r,a,b⟩;show⟨_,⟨r,a,rfl⟩,d6.mpr b⟩
def c8(h:∀r∈rows,cz names r):∀x∈cN rows,x∈names:=by
 intro x hx;have⟨r,a,hx⟩:=eD.mp hx;rcases hx with rfl|hx
 .show(h r a).word
 .show(h r a).told x hx
def mK(h:∀r∈rows,r.2.length<=8):(cN rows).length<=9 * rows.length:=by
 induction rows with
 |nil=>simp[cN]
 |cons r rows a =>
  have c:=h r (by simp);have b:=a λs hs=>h s (by simp[hs]);simp only[cN,eF,Sr,gs,k9]at b ⊢;lia
def dr:x∈aj rows↔x∈cN rows:=EY _ _
def dO(rows:List Row):(aj rows).Nodup:=zP _
def du(h:∀r∈rows,cz names r):(aj rows).length<=names.length:=by
 change(az (aP (cN rows))).length<=_;rw[bo];show tY (c8 h)
abbrev pY:Fn:=⟨"words_of",1,3,[.set 1 (.lst []),.Ia cc [2] .seq [.var 0] [.app 1 (.idx (.var 2) (.cst (.int 0))),.ext 1 (.idx (.var 2) (.cst (.int 1)))],.ret (.Ma .sset [.var 1])]⟩
def ju(hl:rows.length<=120)(c:∀r∈rows,cz names r)(n:names.length<64):bB Γ pY [.tup (rows.map A')]=bD (.ok (.own,.lst ((aj rows).map .str))):=by
 have hsz:(4000:Nat)<=c4:=by decide
 have f:TM.start [.tup (rows.map A')] 3=[bD (.loc,.tup (rows.map A')),b7,b7]:=by simp[TM.start,Ii,aZ]
 have b:∀r∈rows,r.2.length<=8:=λr h=>(c r h).JV;obtain⟨st',g,_,o2,e⟩:=cM (t:=cc) (is:=[2]) (body:=execs Γ [.app 1 (.idx (.var 2) (.cst (.int 0))),.ext 1 (.idx (.var 2) (.cst (.int 1)))]) (rs:=[(.loc,.tup (rows.map A'))]) (λr:Row=>(Kd.loc,A' r))
  (λd r st=>d++r=rows/\∃o2,st=[bD (.loc,.tup (rows.map A')),bD (.own,.lst ((cN d).map .str)),o2]) (λ_ _ _ _=>trivial) (λd y r st i=>by
   have⟨a,o2,e⟩:=i;subst e;have j:y∈rows:=by rw[<-a];simp
   have o:=mK (rows:=d) λs hs=>b s (by rw[<-a];simp[hs]);have l:d.length<=120:=by have:=ġ tA a;simp at this;lia
   have p:=b y j;show⟨[bD (.loc,.tup (rows.map A')),bD (.own,.lst ((cN d).map .str)),bD (.loc,A' y)],[bD (.loc,.tup (rows.map A')),bD (.own,.lst ((cN d).map .str++[.str y.1]++y.2.map .str)),bD (.loc,A' y)],bM aC,?_,by rw[<-a];simp,bD (.loc,A' y),?_⟩
   .show ff (k:=.own) (k':=.own) (r:=(.loc,.str y.1)) rfl (a_ (x:=(.loc,A' y)) (ae rfl) aw trivial rfl) aI rfl rfl (by rw[cK];lia)
     (vG (k:=.own) rfl (a_ (x:=(.loc,A' y)) (ae rfl) aw trivial rfl) rfl rfl (vH (by simp;lia) rfl) aJ)
   .rw[rA];simp) rows [] [bD (.loc,.tup (rows.map A')),bD (.own,.lst []),b7] ⟨rfl,b7,rfl⟩
 subst e;have m:(rows.map A').map (λu=>(kE .loc,u))=rows.map λr=>(Kd.loc,A' r):=by rw[hQ];rfl
 have q:=mK b;have l:=tY (c8 c);show aE rfl (.inl rfl) f (av (r:=(.own,.lst [])) (cS ai trivial aY (mA _)) aO (cH (rs:=[(.loc,.tup (rows.map A'))]) (aa (ae rfl) ai) trivial rfl rfl (by rw[m];show g) (bV (zt (aa (ao rfl) ai) ⟨⟨.own,rfl,rfl⟩,trivial⟩ (mJ ⋯ ⋯)) mC)))
def rB:z∈(dput ks us x u).1↔z∈ks\/z=x:=by
 unfold dput;by_cases h:x∈ks
 .rw[ĝ h];show⟨.inl,λq=>q.elim id λe=>e▸h⟩
 .rw[ğ h];simp
def rC:(dput ks us x u).1.length<=ks.length+1:=by
 unfold dput;by_cases h:x∈ks
 .rw[ĝ h];show NW _
 .rw[ğ h];simp
def pZ(h:ks.length<1000):eO (.str x) u (.HM ks us)=bD (.HM (dput ks us x u).1 (dput ks us x u).2):=by
 have hsz:(1000:Nat)<=c4:=by decide
 change(if ks.length<c4 then _ else _)=_;rw[ĝ ⋯]
end TM
namespace Od
section
variable{W:Type}[DecidableEq W]{rows:List (W×List W)}
abbrev cO(rows:List (W×List W))(C:W->Prop):Prop:=∀r∈rows,(∀x∈r.2,C x)->C r.1
abbrev JT(rows:List (W×List W))(K:List W):Prop:=∀C:W->Prop,cO rows C->∀x∈K,C x
def same(a:K.Nodup)(b:L.Nodup)(sK:JT rows K)(c:JT rows L)(d:cO rows (·∈K))(e:cO rows (·∈L)):K.Perm L :=
 (O4 a b).mpr λx=>⟨λh=>sK _ e x h,λh=>c _ d x h⟩
abbrev told(rows:List (W×List W))(p:Nat):List W:=match rows[p]? with
 |some r=>r.2
 |none=>[]
def kS(h:rows[p]?=bD r):told rows p=r.2:=by unfold told;rw[h]
abbrev t5(K l:List W):Nat:=(l.filter λx=>df (x∉K)).length
abbrev cnt(rows:List (W×List W))(K:List W)(p:Nat):Nat:=t5 K (told rows p)
def xv{K l:List W}:t5 K l=0↔∀x∈l,x∈K:=by
 unfold t5;rw[SX,Mh];constructor
 .intro h x a;have:=h x a;simpa using this
 .intro h x a;simpa using h x a
theorem rD(f:w∉K):∀{l:List W},l.Nodup->t5 (K++[w]) l+(if w∈l then 1 else 0)=t5 K l
 |[],_=>rfl
 |x::l,h=>by
  have⟨g,i⟩:=nc.mp h;have d:=rD f i;unfold t5 at d ⊢;by_cases e:x=w
  .subst e;have a:df (x∉K++[x])≠cb:=by simp
   have b:df (x∉K)=cb:=Ġ f;rw[S6 (p:=λy=>df (y∉K++[x])) a,S5 (p:=λy=>df (y∉K)) b,k9,ĝ (lg ..)];rw[ğ g]at d;lia
  .have j:w≠x:=λz=>e z.symm;have k:(if w∈x::l then 1 else 0)=if w∈l then 1 else 0:=by simp[j]
   rw[k];by_cases c:x∈K
   .have a:df (x∉K++[w])≠cb:=by simp[c]
    have b:df (x∉K)≠cb:=by simp[c]
    rw[S6 (p:=λy=>df (y∉K++[w])) a,S6 (p:=λy=>df (y∉K)) b];show d
   .have a:df (x∉K++[w])=cb:=by simp[c,e]
    have b:df (x∉K)=cb:=by simp[c]
    rw[S5 (p:=λy=>df (y∉K++[w])) a,S5 (p:=λy=>df (y∉K)) b,k9,k9];lia
abbrev Once(rows:List (W×List W)):Prop:=∀r∈rows,r.2.Nodup
def Once.told(h:Once rows)(p:Nat):(told rows p).Nodup:=by
 unfold Od.told;split
 .rename_i r e;show h r (pb e)
 .show .nil
def rE:cnt rows K p=0↔∀x∈told rows p,x∈K:=xv
def p_(h:Once rows)(a:w∉K)(p:Nat):cnt rows (K++[w]) p+(if w∈told rows p then 1 else 0)=cnt rows K p:=rD a (h.told p)
abbrev IE(rows:List (W×List W))(n:Nat)(w:W):List Nat:=(js n).filter λp=>df (w∈told rows p)
def xx(n:Nat)(w:W):(IE rows n w).Nodup:=List.Nodup.sublist List.filter_sublist ZM
def jv:p∈IE rows n w↔p<n/\w∈told rows p:=by simp[IE]
abbrev aM(ps:List (W×Nat))(w:W):List Nat:=(ps.filter λp=>df (p.1=w)).map (·.2)
theorem rF:∀{l:List W},l.Nodup->aM (l.map λx=>(x,n)) w=if w∈l then [n] else []
 |[],_=>rfl
 |x::l,h=>by
  have⟨b,c⟩:=nc.mp h;have a:=rF (n:=n) (w:=w) c;unfold aM at a ⊢;rw[eF,z8];by_cases e:x=w
  .subst e;rw[ğ b]at a;rw[ĝ (by simp),eF,a,ĝ (by simp)]
  .rw[ğ (by simpa using e),a];have d:w≠x:=λz=>e z.symm;simp[d]
def rG(a b:List (W×Nat))(w:W):aM (a++b) w=aM a w++aM b w:=by simp[aM]
def xy(h:Once rows)(a:rows[n]?=bD r)(b:∀w,aM ps w=IE rows n w)(w:W):aM (ps++r.2.map λx=>(x,n)) w=IE rows (n+1) w:=by
 rw[rG,b w,rF (h r (pb a))];unfold IE;rw[List.range_succ,Qe];congr 1
 rw[z8,Tv,kS a];by_cases e:w∈r.2<;>simp[e]
structure RI(rows:List (W×List W))(K0 K:List W)(R:List Nat):Prop where
 PZ:∀t∈R,t<rows.length/\cnt rows K t=0
 all:∀t,t<rows.length->cnt rows K t=0->cnt rows K0 t=0\/t∈R
def RI.start(K:List W):RI rows K K []:=⟨by simp,λt _ h=>.inl h⟩
def RI.step(h:Once rows)(x:RI rows K0 K R)(d:w∉K):RI rows K0 (K++[w]) (R++(IE rows rows.length w).filter λt=>df (cnt rows K t=1)):=by
 show⟨λt ht=>?_,λt ht i=>?_⟩
 .have a:=p_ h d t;rcases gj.mp ht with ht|ht
  .have⟨b,e⟩:=x.PZ t ht;show⟨b,⋯⟩
  .have⟨b,e⟩:=K'.mp ht;have⟨f,g⟩:=jv.mp b;rw[ĝ g]at a;have:cnt rows K t=1:=by simpa using e
   show⟨f,⋯⟩
 .have a:=p_ h d t;by_cases c:w∈told rows t
  .rw[ĝ c]at a;show .inr (gj.mpr (.inr (K'.mpr ⟨jv.mpr ⟨ht,c⟩,by simp;lia⟩)))
  .rw[ğ c]at a;rcases x.all t ht ⋯ with z|z
   .show .inl z
   .show .inr (gj.mpr (.inl z))
structure NS(rows:List (W×List W))(K:List W)(d:List Nat)(ps:List (W×Nat)):Prop where
 ok:∀s∈ps,s.2∈d/\s.1∉K/\∃r,rows[s.2]?=bD r/\r.1=s.1
 once:(ps.map (·.1)).Nodup
 all:∀p∈d,∀r,rows[p]?=bD r->r.1∈K\/r.1∈ps.map (·.1)
def NS.start(K:List W):NS rows K [] []:=⟨by simp,by simp,by simp⟩
def NS.skip(x:NS rows K d ps)(f:rows[p]?=bD r)(h:r.1∈K\/r.1∈ps.map (·.1)):NS rows K (d++[p]) ps :=
 ⟨λs hs=>let ⟨a,b,c⟩:=x.ok s hs;⟨by simp[a],b,c⟩,x.once,λq hq g e=>by
  rcases gj.mp hq with hq|hq
  .show x.all q hq g e
  .have:q=p:=by simpa using hq
   subst this;rw[f]at e;cases e;show h⟩
def NS.take(x:NS rows K d ps)(g:rows[p]?=bD r)(h:r.1∉K)(i:r.1∉ps.map (·.1)):NS rows K (d++[p]) (ps++[(r.1,p)]):=by
 show⟨λs hs=>?_,?_,λq hq j f=>?_⟩
 .rcases gj.mp hs with hs|hs
  .have⟨a,b,c⟩:=x.ok s hs;show⟨by simp[a],b,c⟩
  .have:s=(r.1,p):=by simpa using hs
   subst this;show⟨by simp,h,r,g,rfl⟩
 .rw[mu,qs];show⟨x.once,by simp,λa k b l e=>?_⟩;have:b=r.1:=by simpa using l
  subst this;show i (e▸k)
 .rcases gj.mp hq with hq|hq
  .rcases x.all q hq j f with z|z
   .show .inl z
   .show .inr (by simp only[mu,gj];show .inl z)
  .have:q=p:=by simpa using hq
   subst this;rw[g]at f;cases f;show .inr (by simp)
def NS.perm(x:NS rows K d ps)(h:a.Perm ps):NS rows K d a :=
 ⟨λs hs=>x.ok s (h.mem_iff.mp hs),(h.map _).nodup_iff.mpr x.once,λp b r c=>(x.all p b r c).imp id λz=>(h.map _).mem_iff.mpr z⟩
def vS(rows:List (W×List W)):List W->List (W×Nat)->Prop
 |_,[]=>True
 |K,s::ss=>(s.1∉K/\∃r,rows[s.2]?=bD r/\r.1=s.1/\∀x∈r.2,x∈K)/\vS rows (K++[s.1]) ss
theorem zQ:∀{a b:List (W×Nat)}{K:List W},vS rows K a->vS rows (K++a.map (·.1)) b->vS rows K (a++b)
 |[],b,K,_,h=>by simpa using h
 |s::a,b,K,c,d=>⟨c.1,zQ c.2 (by simpa using d)⟩
theorem zR:∀{ss:List (W×Nat)}{K:List W},(∀s∈ss,s.1∉K/\∃r,rows[s.2]?=bD r/\r.1=s.1/\∀x∈r.2,x∈K)->(ss.map (·.1)).Nodup->vS rows K ss
 |[],K,_,_=>trivial
 |s::ss,K,h,a=>by
  have b:s.1∉ss.map (·.1)/\(ss.map (·.1)).Nodup:=by
   rw[eF]at a;show nc.mp a
  show⟨h s (by simp),zR (λt c=>?_) b.2⟩;have⟨d,r,e,f,g⟩:=h t (by simp[c]);show⟨λz=>?_,r,e,f,λx i=>by simp[g x i]⟩;rcases gj.mp z with z|z
  .show d z
  .have:t.1=s.1:=by simpa using z
   show b.1 (this▸ez.mpr ⟨t,c,rfl⟩)
theorem mL:∀{ss:List (W×Nat)}{K:List W},vS rows K ss->K.Nodup->(K++ss.map (·.1)).Nodup
 |[],K,_,h=>by simpa using h
 |s::ss,K,h,c=>by
  have:(K++[s.1]).Nodup:=by
   rw[qs];show⟨c,by simp,λa d b f e=>?_⟩;have:b=s.1:=by simpa using f
   subst this;show h.1.1 (e▸d)
  have:=mL h.2 this;simpa using this
theorem zS:∀{ss:List (W×Nat)}{K:List W},vS rows K ss->JT rows K->JT rows (K++ss.map (·.1))
 |[],K,_,h=>by simpa using h
 |s::ss,K,h,b=>by
  have c:JT rows (K++[s.1]):=λC a x hx=>by
   rcases gj.mp hx with hx|hx
   .show b C a x hx
   .have:x=s.1:=by simpa using hx
    subst this;obtain⟨_,r,d,e,f⟩:=h.1;rw[<-e];show a r (pb d) λy g=>b C a y (f y g)
  have:=zS h.2 c;simpa using this
theorem rH:∀{ss:List (W×Nat)}{K:List W},vS rows K ss->∀x∈ss.map (·.1),x∈rows.map (·.1)
 |[],K,_,x,hx=>by simp at hx
 |s::ss,K,h,x,hx=>by
  rw[eF]at hx;rcases d6.mp hx with rfl|hx
  .obtain⟨_,r,a,b,c⟩:=h.1;show ez.mpr ⟨r,pb a,b⟩
  .show rH h.2 x hx
structure LI(rows:List (W×List W))(HP:List (W×Nat))(R:List Nat):Prop where
 ok:vS rows [] HP
 PZ:∀t∈R,t<rows.length/\cnt rows (HP.map (·.1)) t=0
 all:∀t r,rows[t]?=bD r->cnt rows (HP.map (·.1)) t=0->t∈R\/r.1∈HP.map (·.1)
def LI.step(x:LI rows a R)(n:NS rows (a.map (·.1)) R st)(y:RI rows (a.map (·.1)) (a.map (·.1)++st.map (·.1)) e):LI rows (a++st) e:=by
 have em:(a++st).map (·.1)=a.map (·.1)++st.map (·.1):=mu;show⟨zQ x.ok (zR (λs hs=>?_) n.once),λt f=>by rw[em];show y.PZ t f,λt r b c=>?_⟩
 .have⟨g,h,r,d,i⟩:=n.ok s hs;have hz:=(x.PZ _ g).2;rw[rE,kS d]at hz;show⟨by simpa using h,r,d,i,by simpa using hz⟩
 .rw[em]at c ⊢;rcases y.all t (et.mp b).1 c with z|z
  .rcases x.all t r b z with z|z
   .rcases n.all t z r b with z|z
    .show .inr (gj.mpr (.inl z))
    .show .inr (gj.mpr (.inr z))
   .show .inr (gj.mpr (.inl z))
  .show .inl z
def LI.nd(x:LI rows a R):(a.map (·.1)).Nodup:=by simpa using mL x.ok .nil
def LI.sn(x:LI rows a R):JT rows (a.map (·.1)):=by simpa using zS x.ok λ_ _ _ h=>absurd h Q8
def LI.wd(x:LI rows a R):∀y∈a.map (·.1),y∈rows.map (·.1):=rH x.ok
def LI.closed(x:LI rows b []):cO rows (·∈b.map (·.1)):=λr c h=>by
 have⟨t,a⟩:=YR.mp c;rcases x.all t r a (by rw[rE,kS a];show h) with z|z
 .cases z
 .show z
def kq{K L:List W}(h:K.Nodup)(s:∀x∈K,x∈L):K.length<=L.length:=by
 induction K generalizing L with
 |nil=>simp
 |cons a K d =>
  have⟨f,g⟩:=nc.mp h;have b:a∈L:=s a (by simp);have:=d (L:=L.erase a) g λx c=>by
   have i:x≠a:=λe=>f (e▸c);show(Y0 i).mpr (s x (by simp[c]))
  rw[Yk b]at this;have:0<L.length:=YB b;rw[k9];lia
end
end Od
namespace TM
open PySem L2 Ig
section
def GR(h:st[j]?=bD (bD (.own,u))):Run (lift (.bor j,a)) st u (st.set j (bD (.loc,u))):=by
 change(match st[j]? with|some (bD (.own,u))=>bD (Ex.ok u,st.set j (bD (.loc,u)))|_=>b7)=_;rw[h]
def vK(h:Run c st cc st1):Run (gw c body (n+1)) st .nx st1:=af h aW
def xA(h:Run c st cb st1)(a:Run body st1 .nx st2)(b:Run (gw c body n) st2 f st3):Run (gw c body (n+1)) st f st3:=af h (af a b)
def vL(h:Run (gw (H0 Γ c) (execs Γ body) fuel) st .nx st1)(a:Run (execs Γ ss) st1 f st2):Run (execs Γ (.LL c body::ss)) st f st2:=gG h a
def oD(hk:k=.loc\/k=.any):Run (dc cb [i,j] (k,.tup [a,b])) st () ((st.set i (bD (k,a))).set j (bD (k,b))):=by
 rcases hk with rfl|rfl<;>rfl
def EZ(h:Run (execs Γ ss) (st.set i (bD (.B',.HM [] []))) f st1):Run (execs Γ (.newD i::ss)) st f st1:=gG (af (a:=()) (st1:=st.set i (bD (.B',.HM [] []))) rfl aW) h
def qa(h:st[i]?=bD (bD (.B',.HM ks us))):Run (hJ i) st (ks,us) st:=by
 change hJ i st=_;unfold hJ;rw[h]
def t7:Run (jc (k,.str y)) st y st:=rfl
def Cg(a:st[i]?=bD (bD (.B',.HM ks us)))(b:y∉ks)(c:ks.length<c4):Run (lT i y (.own,.lst xs)) st () (st.set i (bD (.B',.HM (ks++[y]) (us++[.lst xs])))):=by
 change lT i y (.own,.lst xs) st=_;unfold lT
 dsimp only
 rw[a]
 dsimp only
 rw[ĝ ⟨b,c⟩]
def Ci(a:st[i]?=bD (bD (.B',.HM ks us)))(b:da ks us y=bD (.lst xs))(c:xs.length<c4):Run (lU i y u) st () (st.set i (bD (.B',.HM ks (kJ ks us y (.lst (xs++[u])))))):=by
 change lU i y u st=_;unfold lU;rw[a]
 dsimp only
 rw[b]
 dsimp only
 rw[ĝ c]
def GS(b:Run (ev Γ a) st (k,.str y) st1)(c:st1[i]?=bD (bD (.B',.HM ks us))):Run (H0 Γ (.inD neg a i)) st (Po neg y ks) st1 :=
 af b (af t7 (af (qa c) aW))
def E1(b:Run (ev Γ c) st (.own,.lst xs) st1)(a:st1[i]?=bD (bD (.B',.HM ks us)))(d:Run (ev Γ e) st1 (k,.str y) st1)(g:y∉ks)(h:ks.length<c4)
  (j:Run (execs Γ ss) (st1.set i (bD (.B',.HM (ks++[y]) (us++[.lst xs])))) f st3):Run (execs Γ (.putD i e c::ss)) st f st3:=by
 show gG ?_ j;show af b (af (qa a) (af d (af t7 (af (Cg a g h) aW))))
def E2(a:st[i]?=bD (bD (.B',.HM ks us)))(b:Run (ev Γ c) st (k,.str y) st)(d:y∈ks)(e:Run (ev Γ g) st r st)(h:Run (lift r) st u st)(j:da ks us y=bD (.lst xs))(l:xs.length<c4)
  (m:Run (execs Γ ss) (st.set i (bD (.B',.HM ks (kJ ks us y (.lst (xs++[u])))))) f st3):Run (execs Γ (.J7 i c g::ss)) st f st3:=by
 show gG ?_ m;show af (qa a) (af b (af t7 (af (qa a) ?_)));rw[ĝ d];show af e (af h (af (Ci a j l) aW))
def GU(h:st[i]?=bD (bD (.B',u))):Run (ev Γ (.Oh i)) st (.bor i,u) (st.set i (bD (.own,u))):=by
 change yC i st=_;unfold yC;rw[h]
def E3(c:st[i]?=bD (bD (.own,.HM ks us)))(d:Run (ev Γ a) st (k,.str y) st)(e:Run (ev Γ b) st z st)(f:Run (lift z) st u st)(g:(match da ks us y with|some v=>(Kd.loc,v)|none=>(.loc,u))=r):
  Run (ev Γ (.Kv i a b)) st r st:=by
 show af (gF c) (af (a:=()) (st1:=st) rfl (af d (af (a:=y) (st1:=st) rfl (af e (af f (af (gF c) (c9 ?_)))))));subst g;rfl
def GV(b:st[i]?=bD (bD (.own,.lst us)))(d:Run (ev Γ e) st (k1,.int (j:Nat)) st)(c:us[j]?=bD (.int o))(g:Run (ev Γ h) st (k2,.int w) st)
  (k:Run (execs Γ ss) (st.set i (bD (.own,.lst (us.set j (.int (o - w)))))) f st3):Run (execs Γ (.aug cb i e h::ss)) st f st3:=by
 have hl:qM i st=bD (.ok us,st):=by unfold qM;rw[b];rfl
 have l:j<us.length:=(et.mp c).1;have m:qN us (j:Nat)=bD o:=by
  unfold qN;rw[ĝ ⋯,Lv,c]
 have n:Ly us.length (j:Nat)=bD j:=by
  unfold Ly;rw[ĝ ⋯]
  first|(rw[ĝ ⋯];simp)|simp[l]
 show gG (af (a:=us) (st1:=st) hl (af d (af (a:=(j:Int)) (st1:=st) rfl (af (a:=us) (st1:=st) hl (af (c9 m) (af g (af (a:=w) (st1:=st) rfl (af (a:=()) (st1:=st.set i (bD (.own,.lst (us.set j (.int (o - w)))))) ?_ aW)))))))) k;change modS i (eO (.int (j:Nat)) (.int (wJ cb o w))) st=_;unfold modS;rw[b];simp only[Kd.root,ĥ,eO];rw[n];rfl
def GW(a:st[i]?=bD (bD (.own,u)))(b:yA u=bD r):Run (ev Γ (.Oi i)) st r st:=af (gF a) (c9 b)
end
theorem mM(f:Str->U)(y:Str):∀ks:List Str,da ks (ks.map f) y=if y∈ks then bD (f y) else b7
 |[]=>rfl
 |k::ks=>by
  rw[eF];change(if k=y then bD (f k) else da ks (ks.map f) y)=_;by_cases e:k=y
  .subst e;rw[ĝ rfl,ĝ (by simp)]
  .rw[ğ e,mM f y ks];have:(y∈k::ks)↔y∈ks:=by simp[uv e]
   by_cases h:y∈ks
   .rw[ĝ h,ĝ (this.mpr h)]
   .rw[ğ h,ğ λz=>h (this.mp z)]
theorem rJ(f:Str->U)(y:Str)(u:U):∀ks:List Str,ks.Nodup->kJ ks (ks.map f) y u=ks.map λk=>if k=y then u else f k
 |[],_=>rfl
 |k::ks,h=>by
  have⟨a,b⟩:=nc.mp h;rw[eF,eF];change(if k=y then u::ks.map f else f k::kJ ks (ks.map f) y u)=_;by_cases e:k=y
  .subst e;rw[ĝ rfl,ĝ rfl];congr 1
   show y0 λz hz=>?_;have c:z≠k:=λq=>a (by rw[<-q];show hz);rw[ğ c]
  .rw[ğ e,ğ e,rJ f y u ks b]
abbrev stN(s:Str×Nat):U:=.tup [.str s.1,.int (s.2:Nat)]
theorem jU(f:α->Int):∀(ns:List α),intsOf (ns.map λa=>U.int (f a))=bD (ns.map f)
 |[]=>rfl
 |n::ns=>by change(intsOf (ns.map λa=>U.int (f a))).map _=_;rw[jU f ns];rfl
def Cj(h:ps.length<64)(c:(ps.map (·.1)).Nodup):∃a:List (Str×Nat),a.Perm ps/\yA (.HM (ps.map (·.1)) (ps.map λp=>.int (p.2:Nat)))=bD (.own,.lst (a.map stN)):=by
 have d:=jU (λp:Str×Nat=>((p.2:Nat):Int)) ps;have hz:(ps.map (·.1)).zip (ps.map λp:Str×Nat=>((p.2:Nat):Int))=ps.map λp=>(p.1,((p.2:Nat):Int)):=by
  rw[List.zip_map']
 let P:=kG ((ps.map λp=>(p.1,((p.2:Nat):Int))).map (·.1));have b:P.Perm (js ps.length):=by
  have:=gM ((ps.map λp=>(p.1,((p.2:Nat):Int))).map (·.1));simpa[P] using this
 show⟨P.map λi=>ps.getD i (ri,0),?_,?_⟩
 .show(b.map _).trans ?_;have:(js ps.length).map (λi=>ps.getD i (ri,0))=ps:=by
   apply Pd
   .simp
   .intro i j e;simp[R0,e]
  rw[this]
 .change(intsOf (ps.map λp=>U.int (p.2:Nat))).bind _=_;rw[d];change(if (ps.map (·.1)).length<64/\(ps.map (·.1)).Nodup/\(ps.map (·.1)).length=(ps.map λp:Str×Nat=>((p.2:Nat):Int)).length then _ else _)=_;rw[ĝ ⟨by simpa using h,c,by simp⟩,hz];congr 3
  change(Bg _).map wG=_;change(P.map λi=>(ps.map λp=>(p.1,((p.2:Nat):Int))).getD i (ri,0)).map wG=_;rw[hQ,hQ];show y0 λi f=>?_;have g:i<ps.length:=wh.mp (b.mem_iff.mp f);simp[R0,g,wG,stN]
def E4:bF .isin (.str x) (.HM ks vs)=bD (df (x∈ks)):=rfl
def jV:bF .HK (.str x) (.HM ks vs)=bD (!df (x∈ks)):=rfl
def jw{ss:List Str}:bF .isin (.str x) (.lst (ss.map U.str))=bD (df (x∈ss)):=by
 have h:=@fj x ss;have e:bF .HK (.str x) (.lst (ss.map U.str))=(bF .isin (.str x) (.lst (ss.map U.str))).map (!·):=rfl;rw[e,d5]at h;have⟨b,a,c⟩:=h;rw[a];congr 1
 cases b<;>simp_all
def vM(bs:List Bool):Jh .all [(k,.lst (bs.map .bl))]=bD (.loc,.bl (bs.all id)):=by
 change(gu (bs.map U.bl)).map _=_;have:∀bs:List Bool,gu (bs.map U.bl)=bD bs:=λbs=>by
  induction bs with
  |nil=>rfl
  |cons b bs a=>change(gu (bs.map U.bl)).map _=_;rw[a];rfl
 rw[this];rfl
mutual
theorem oE:∀(n:Nat) (u:U),IQ n u=cb->bR u u=cb
 |_,.HX,_=>rfl
 |_,.bl b,_=>by simp[bR]
 |_,.int i,_=>by simp[bR]
 |_,.str x,_=>by simp[bR]
 |0,.tup xs,h=>by simp[IQ]at h
 |0,.lst xs,h=>by simp[IQ]at h
 |n+1,.tup xs,h=>by rw[bR];show iH n xs (by simpa[IQ] using h)
 |n+1,.lst xs,h=>by rw[bR];show iH n xs (by simpa[IQ] using h)
 |_,.HM _ _,h=>by simp[IQ]at h
 |_,.IM _,h=>by simp[IQ]at h
theorem iH:∀(n:Nat) (us:List U),c_ n us=cb->cF us us=cb
 |_,[],_=>rfl
 |n,u::us,h=>by
  have h':IQ n u=cb/\c_ n us=cb:=by simpa[c_] using h
  rw[cF,oE n u h'.1,iH n us h'.2];rfl
end
def gU(h:IQ 50 u=cb):bF .ne u u=bD cc:=by
 simp only[bF];rw[ĝ ⟨h,h⟩,oE 50 u h];rfl
section
def xB{told a:List Str}(hk:k=.loc\/k=.any)(hl:told.length<=1000)(hs:Run (ev Γ src) st (.loc,.tup (told.map .str)) st)(hj:st[j]?=bD (bD (k,w))\/st[j]?=bD (bD (.own,w)))(b:∀x:Str,bF .isin (.str x) w=bD (df (x∈a))):
  Run (ev Γ (.bi .all [.comp 1 cc .seq [src] [] (.cmp .isin (.var 0) (.var (j+1)))])) st (.loc,.bl (told.all λx=>df (x∈a))) st:=by
 have hsz:(1000:Nat)<=c4:=by decide
 have c:=c7 (cond:=aR Γ []) (elt:=ev Γ (.cmp .isin (.var 0) (.var (j+1)))) (src:=[(.loc,.tup (told.map .str))]) (st:=st) trivial .loc (.inl rfl) U.str (λx=>.bl (df (x∈a))) .loc (λ_=>ei) told [] (by simp;lia)
  (λy _=>⟨by
   rcases hj with hj|hj
   .rcases hk with rfl|rfl
    .show ij (ae rfl) (ae (by simpa using hj)) trivial (b y)
    .show ij (ae rfl) (aS (by simpa using hj)) trivial (b y)
   .show ij (ae rfl) (ao (by simpa using hj)) ⟨⟨.own,rfl,by simpa using hj⟩,trivial⟩ (b y),aI⟩)
 rw[lb]at c;have e:(told.map U.str).map (λu=>(kE .loc,u))=told.map λr=>(Kd.loc,U.str r):=by rw[hQ];rfl
 have d:(told.map λx=>U.bl (df (x∈a)))=(told.map λx=>df (x∈a)).map U.bl:=by rw[hQ];rfl
 rw[d]at c;have f:(told.all λx=>df (x∈a))=((told.map λx=>df (x∈a)).all id):=by rw[YD];rfl
 rw[f];show bZ (aa (bW (rs:=[(.loc,.tup (told.map .str))]) (aa hs ai) trivial (by change bD _=_;rw[e]) c) ai) trivial (vM _)
end
def qb(h:ks.length<1000)(a:x∉ks):eO (.str x) u (.HM ks us)=bD (.HM (ks++[x]) (us++[u])):=by
 rw[pZ h];unfold dput;rw[ğ a]
def rK(h:IQ 50 (.lst us)=cb):bF .ne (.lst us) (.lst [])=bD (!us.isEmpty):=by
 simp only[bF];rw[ĝ ⟨h,by simp[IQ,c_]⟩];cases us with
 |_=>simp[bR,cF]
theorem oF(f:α->Int):∀(l:List α) (n:Nat),c_ n (l.map λa=>U.int (f a))=cb
 |[],n=>by simp[c_]
 |a::l,n=>by rw[eF,c_,oF f l n];simp[IQ]
theorem rL:∀(ss:List (Str×Nat)) (n:Nat),c_ (n+1) (ss.map stN)=cb
 |[],n=>by simp[c_]
 |s::ss,n=>by rw[eF,c_,rL ss n];simp[stN,IQ,c_]
theorem t8{cond:M Bool}(h:br src st)(a b g:α->U)(p:α->Bool):∀(c:List α) (acc:List U),acc.length+c.length<=c4 ->
  (∀y∈c,Run cond (bD (.loc,a y)::bD (.loc,b y)::st) (p y) (bD (.loc,a y)::bD (.loc,b y)::st)/\Run elt (bD (.loc,a y)::bD (.loc,b y)::st) (.loc,g y) (bD (.loc,a y)::bD (.loc,b y)::st)) ->
  Run (bS 2 cb cond elt src (c.map λy=>(Kd.loc,U.tup [a y,b y])) acc) st (acc++(c.filter p).map g) st
 |[],acc,_,_=>by rw[Jc,Tv,Jc,vu];show rj h
 |y::c,acc,hl,f=>by
  have⟨d,j⟩:=f y (by simp);rw[k9]at hl;have i:Run (dc cb (js 2) (.loc,.tup [a y,b y])) (mx 2 b7++st) () (bD (.loc,a y)::bD (.loc,b y)::st):=oD (.inl rfl);cases e:p y with
  |true =>
   rw[e]at d;show mD (s1:=bD (.loc,a y)::bD (.loc,b y)::st) (s2:=bD (.loc,a y)::bD (.loc,b y)::st) (s3:=bD (.loc,a y)::bD (.loc,b y)::st) (s4:=bD (.loc,a y)::bD (.loc,b y)::st) h i d j aI ⋯ ?_;have:=t8 h a b g p c (acc++[g y]) (by simp;lia) λz hz=>f z (by simp[hz]);rw[z8,ĝ e,eF];simpa using this
  |false =>
   rw[e]at d;show tP (s1:=bD (.loc,a y)::bD (.loc,b y)::st) (s2:=bD (.loc,a y)::bD (.loc,b y)::st) h i d ?_;have:=t8 h a b g p c acc ⋯ λz hz=>f z (by simp[hz]);rw[z8,ğ (by simp[e])];show this
def set_range(n:Nat)(f:Nat->α)(t:Nat)(v:α):((js n).map f).set t v=(js n).map λp=>if p=t then v else f p:=by
 apply Pd
 .simp
 .intro i a b;simp only[List.getElem_set,ZO,List.getElem_range];by_cases e:t=i
  .subst e;simp
  .rw[ğ e,ğ (uv e)]
def qc{rows:List Row}{t:Nat}(h:rows[t]?=bD r):Il (rows.map A') (t:Int)=bD (A' r):=cn (by simp[h])
section
end
def zT(h:∀x,x∈a↔x∈b):az (aP a)=az (aP b) :=
 dA ((O4 (cW a) (cW b)).mpr λx=>by rw[dZ,dZ,h x])
end TM
namespace KL
open PySem L2 TM
abbrev dv:Fn:=⟨"gathered",1,4,[.newD 1,.Ia cb [2,3] .seq [.var 0] [.ite (.inD cb (.var 2) 1) [.putD 1 (.var 2) (.lst [])] [],.J7 1 (.var 2) (.var 3)],.ret (.Oh 1)]⟩
abbrev bh:Fn:=⟨"places_that_tell",1,4,[.set 1 (.lst []),.Ia cb [2,3] .Nz [.var 0] [.ext 1 (.comp 1 cc .seq [.idx (.var 3) (.cst (.int 1))] [] (.tup [.var 0,.var 3]))],.ret (.call "gathered" [.var 1])]⟩
abbrev cT:Fn:=⟨"new_steps",3,6,[.set 3 (.JC cc),.Ia cc [4] .seq [.var 1] [.set 5 (.idx (.idx (.var 0) (.var 4)) (.cst (.int 0))),.ite (.and [.cmp .HK (.var 5) (.var 2),.cmp .HK (.var 5) (.var 3)]) [.put 3 (.var 5) (.var 4)] []],.ret (.Oi 3)]⟩
abbrev bt:Fn:=⟨"steps_in_rounds",1,10,[.set 1 (.call "places_that_tell" [.var 0]),.set 2 (.comp 1 cc .seq [.var 0] [] (.bi .len [.idx (.var 0) (.cst (.int 1))])),.set 3 (.JC cc),.set 4 (.lst []),.set 5 (.comp 2 cb .Nz [.var 2] [.cmp .eq (.var 1) (.cst (.int 0))] (.var 0)),.LL (.cmp .ne (.var 5) (.lst [])) [.set 6 (.call "new_steps" [.var 0,.var 5,.var 3]),.set 5 (.lst []),.Ia cb [7,8] .seq [.var 6] [.put 3 (.var 7) (.cst (.bl cb)),.Ia cc [9] .seq [.Kv 1 (.var 7) (.lst [])] [.aug cb 2 (.var 9) (.cst (.int 1)),.ite (.cmp .eq (.idx (.var 2) (.var 9)) (.cst (.int 0))) [.app 5 (.var 9)] []]],.ite (.cmp .ne (.var 6) (.lst [])) [.app 4 (.var 6)] []],.ret (.var 4)]⟩
abbrev fI:Fn:=⟨"order",1,3,[.set 1 (.lst []),.Ia cc [2] .seq [.call "steps_in_rounds" [.var 0]] [.ext 1 (.var 2)],.ret (.var 1)]⟩
end KL
namespace KL
open PySem L2 TM Ig Od
abbrev cG(f:Str->List Nat)(k:Str):U:=.lst ((f k).map λt:Nat=>U.int (t:Nat))
def jW(d:List (Str×Nat))(y:Str×Nat)(k:Str):aM (d++[y]) k=if y.1=k then aM d k++[y.2] else aM d k:=by
 rw[rG];by_cases e:y.1=k
 .rw[ĝ e];simp[aM,e]
 .rw[ğ e];simp[aM,e]
def zU(d:List (Str×Nat))(k:Str):(aM d k).length<=d.length:=by
 unfold aM;rw[cK];show Kc _ _
section
def qd(hl:ps.length<=1000):∃ks:List Str,(∀w,w∉ks->aM ps w=[])/\bB Γ dv [.lst (ps.map stN)]=bD (.ok (.own,.HM ks (ks.map (cG (aM ps))))):=by
 have hsz:(2000:Nat)<=c4:=by decide
 have x:TM.start [.lst (ps.map stN)] 4=[bD (.any,.lst (ps.map stN)),b7,b7,b7]:=rfl;let S:=λ(ks:List Str) (us:List U) (o2 o3:Option (Kd×U))=>([bD (.any,.lst (ps.map stN)),bD (.B',.HM ks us),o2,o3]:ar)
 let body:List TM.S:=[.ite (.inD cb (.var 2) 1)
    [.putD 1 (.var 2) (.lst [])]
    [],
   .J7 1 (.var 2) (.var 3)]
 have⟨st',A,l,ks,o2,o3,e,f,hk,B⟩:=cM (t:=cb) (is:=[2,3]) (body:=execs Γ body) (rs:=[(.any,.lst (ps.map stN))]) (λp:Str×Nat=>(Kd.any,stN p))
  (λd r st=>d++r=ps/\∃(ks:List Str) (o2 o3:Option (Kd×U)),st=S ks (ks.map (cG (aM d))) o2 o3/\ks.Nodup/\(∀w,w∉ks->aM d w=[])/\ks.length<=d.length) (λ_ _ _ _=>trivial) (λd y r st C=>by
   have⟨l,ks,o2,o3,e,f,hk,B⟩:=C;subst e;have J:d.length<1000:=by have:=ġ tA l;simp at this;lia
   let g:Option (Kd×U):=bD (.any,.str y.1);let i:Option (Kd×U):=bD (.any,.int (y.2:Nat));have L:=zU d y.1;have j:∀(ks:List Str),ks.Nodup->y.1∈ks->Run (execs Γ [.J7 1 (.var 2) (.var 3)]) (S ks (ks.map (cG (aM d))) g i) .nx (S ks (ks.map (cG (aM (d++[y])))) g i):=λks f c=>by
    have D:da ks (ks.map (cG (aM d))) y.1=bD (.lst ((aM d y.1).map λt:Nat=>U.int (t:Nat))):=by rw[mM,ĝ c];rfl
    have hs:kJ ks (ks.map (cG (aM d))) y.1 (.lst ((aM d y.1).map (λt:Nat=>U.int (t:Nat))++[.int (y.2:Nat)]))=ks.map (cG (aM (d++[y]))):=by
     rw[rJ _ _ _ _ f];show y0 λk hk=>?_;unfold cG;rw[jW];by_cases e:y.1=k
     .subst e;rw[ĝ rfl,ĝ rfl];simp
     .rw[ğ e,ğ (uv e)]
    rw[<-hs];show E2 (k:=.any) (r:=(.any,.int (y.2:Nat))) rfl (aS rfl) c (aS rfl) (jn rfl) D (by rw[cK];lia) aJ
   have m:Run (H0 Γ (.inD cb (.var 2) 1)) (S ks (ks.map (cG (aM d))) g i) (!df (y.1∈ks)) (S ks (ks.map (cG (aM d))) g i):=GS (neg:=cb) (k:=.any) (aS rfl) rfl;have o:Run (dc cb [2,3] (.any,stN y)) (S ks (ks.map (cG (aM d))) o2 o3) () (S ks (ks.map (cG (aM d))) g i):=oD (.inr rfl);by_cases c:y.1∈ks
   .rw[Ġ c]at m;show⟨_,_,o,cD m (λh=>by cases h) λ_=>j ks f c,by rw[<-l];simp,ks,_,_,rfl,f,λw n=>?_,by simp;lia⟩;have G:y.1≠w:=λz=>n (by rw[<-z];show c);rw[jW,ğ G];show hk w n
   .rw[Ğ c]at m;have q:(ks++[y.1]).Nodup:=by
     rw[qs];show⟨f,by simp,λa H b I e=>?_⟩;have:b=y.1:=by simpa using I
     subst this;show c (e▸H)
    have em:ks.map (cG (aM d))++[.lst []]=(ks++[y.1]).map (cG (aM d)):=by
     rw[mu];congr 1
     change _=[cG (aM d) y.1]
     unfold cG;rw[hk y.1 c];rfl
    have s:=j (ks++[y.1]) q (by simp);rw[<-em]at s;show⟨_,_,o,cD m (λ_=>E1 (k:=.any) (xs:=[]) (cS ai trivial aY (mA _)) rfl (aS rfl) c ⋯ s) λh=>(by cases h),by rw[<-l];simp,ks++[y.1],_,_,rfl,q,λw n=>?_,by simp;lia⟩;have v:w∉ks/\w≠y.1:=by simpa using n
    rw[jW,ğ (uv v.2)];show hk w v.1) ps [] (S [] [] b7 b7) ⟨rfl,[],b7,b7,rfl,.nil,λ_ _=>rfl,kb _⟩
 subst e;rw[lb]at *;show⟨ks,hk,?_⟩;have e:(ps.map stN).map (λu=>(kE .any,u))=ps.map λp=>(Kd.any,stN p):=by rw[hQ];rfl
 show aE rfl (.inl rfl) x (EZ (cH (rs:=[(.any,.lst (ps.map stN))]) (st1:=S [] [] b7 b7) (aa (aS rfl) ai) trivial rfl rfl (by rw[e];show A) (bV (GU rfl) (kl rfl))))
abbrev CY(Γ:Tab):Prop:=∀ps:List (Str×Nat),ps.length<=1000->∃ks:List Str,(∀w,w∉ks->aM ps w=[])/\Γ "gathered" [.lst (ps.map stN)]=bD (.ok (.own,.HM ks (ks.map (cG (aM ps)))))
def t9(s:CY Γ)(v:Once rows)(z:∀r∈rows,r.2.length<=8)(I:rows.length<=120):
  ∃ks:List Str,(∀w,w∉ks->IE rows rows.length w=[])/\bB Γ bh [.tup (rows.map A')]=bD (.ok (.own,.HM ks (ks.map (cG (IE rows rows.length))))):=by
 have hsz:(2000:Nat)<=c4:=by decide
 have A:TM.start [.tup (rows.map A')] 4=[bD (.loc,.tup (rows.map A')),b7,b7,b7]:=by simp[TM.start,Ii,aZ]
 let S:=λ(ps:List (Str×Nat)) (o2 o3:Option (Kd×U))=>([bD (.loc,.tup (rows.map A')),bD (.own,.lst (ps.map stN)),o2,o3]:ar)
 let body:List TM.S:=[.ext 1 (.comp 1 cc .seq [.idx (.var 3) (.cst (.int 1))] [] (.tup [.var 0,.var 3]))]
 have⟨st',B,g,ps,o2,o3,e,h,l⟩:=cM (t:=cb) (is:=[2,3]) (body:=execs Γ body) (rs:=[(.loc,.tup (rows.map A'))]) (λp:Row×Nat=>(Kd.loc,U.tup [.int (p.2:Nat),A' p.1]))
  (λd r st=>d++r=rows.zipIdx/\∃(ps:List (Str×Nat)) (o2 o3:Option (Kd×U)),st=S ps o2 o3/\(∀w,aM ps w=IE rows d.length w)/\ps.length<=8 * d.length) (λ_ _ _ _=>trivial) (λd y r st C=>by
   have⟨g,ps,o2,o3,e,h,l⟩:=C;subst e;have⟨f,i⟩:=y;have m:(rows.zipIdx)[d.length]?=bD (f,i):=by rw[<-g];simp
   rw[TY,d5]at m;have⟨a,n,e⟩:=m;have D:a=f:=ġ À e;have o:0+d.length=i:=ġ Prod.snd e;rw[YP]at o;subst D o;have J:d.length<120:=by have:=ġ tA g;simp at this;lia
   have L:=z a (pb n);let b:Option (Kd×U):=bD (.loc,.int (d.length:Nat));let c:Option (Kd×U):=bD (.loc,A' a);have q:=c7 (cond:=aR Γ []) (elt:=ev Γ (.tup [.var 0,.var 3])) (src:=[(.loc,.tup (a.2.map .str))]) (st:=S ps b c) trivial .loc (.inl rfl) U.str (λx=>stN (x,d.length)) .loc (λ_=>ei) a.2 [] (by simp;lia)
    (λy _=>⟨jm (aa (ae rfl) (aa (ae rfl) ai)) trivial (aN aI (aN aI aY)) (by change 2<=c4;lia),aI⟩)
   rw[lb]at q;have e:(a.2.map U.str).map (λu=>(kE .loc,u))=a.2.map λr=>(Kd.loc,U.str r):=by rw[hQ];rfl
   have G:Run (ev Γ (.comp 1 cc .seq [.idx (.var 3) (.cst (.int 1))] [] (.tup [.var 0,.var 3]))) (S ps b c) (.own,.lst (a.2.map λx=>stN (x,d.length))) (S ps b c) :=
    bW (rs:=[(.loc,.tup (a.2.map .str))]) (aa (a_ (x:=(.loc,A' a)) (ae rfl) aw trivial rfl) ai) trivial (by change bD _=_;rw[e]) q
   have em:ps.map stN++(a.2.map λx=>stN (x,d.length))=(ps++a.2.map λx=>(x,d.length)).map stN:=by simp
   show⟨S ps b c,S (ps++a.2.map λx=>(x,d.length)) b c,oD (.inl rfl),?_,by rw[<-g];simp,_,_,_,rfl,λw=>?_,by simp;lia⟩
   .change Run _ _ _ [bD (.loc,.tup (rows.map A')),bD (.own,.lst ((ps++a.2.map λx=>(x,d.length)).map stN)),b,c];rw[<-em];show vG (k:=.own) (k':=.own) rfl G rfl rfl (vI (by rw[cK,cK];lia) rfl) aJ
   .rw[gs];show xy v n h w) rows.zipIdx [] (S [] b7 b7) ⟨rfl,[],b7,b7,rfl,λw=>by simp[aM,IE],by simp⟩
 subst e;rw[lb,List.length_zipIdx]at h l;have j:Kg .Nz [(.loc,.tup (rows.map A'))]=bD (rows.zipIdx.map λp:Row×Nat=>(Kd.loc,U.tup [.int (p.2:Nat),A' p.1])):=by
  change bD ((rows.map A').zipIdx.map λp=>(kE .loc,U.tup [.int p.2,p.1]))=_;rw[List.zipIdx_map,hQ];rfl
 have⟨ks,k1,k2⟩:=s ps ⋯;have H:aM ps=IE rows rows.length:=funext h;rw[H]at k1 k2;show⟨ks,k1,?_⟩;show aE rfl (.inl rfl) A (av (r:=(.own,.lst [])) (cS ai trivial aY (mA _)) aO (cH (rs:=[(.loc,.tup (rows.map A'))]) (st1:=S [] b7 b7) (aa (ae rfl) ai) trivial j rfl B
  (bV (aF (aa (ao rfl) ai) ⟨⟨.own,rfl,rfl⟩,trivial⟩ k2) mC)))
def nA{names:List Str}(v:∀r∈rows,r.1∈names)(Q:names.length<64)(y:∀t∈R,t<rows.length):
  ∃st:List (Str×Nat),NS rows K0 R st/\bB Γ cT [.tup (rows.map A'),.lst (R.map λt:Nat=>.int (t:Nat)),.HM K0 vs]=bD (.ok (.own,.lst (st.map stN))):=by
 have hsz:(2000:Nat)<=c4:=by decide
 have z:TM.start [.tup (rows.map A'),.lst (R.map λt:Nat=>.int (t:Nat)),.HM K0 vs] 6=[bD (.loc,.tup (rows.map A')),bD (.any,.lst (R.map λt:Nat=>.int (t:Nat))),bD (.any,.HM K0 vs),b7,b7,b7]:=by simp[TM.start,Ii,aZ]
 let S:=λ(ps:List (Str×Nat)) (o4 o5:Option (Kd×U))=>([bD (.loc,.tup (rows.map A')),bD (.any,.lst (R.map λt:Nat=>.int (t:Nat))),bD (.any,.HM K0 vs),bD (.own,.HM (ps.map (·.1)) (ps.map λp=>.int (p.2:Nat))),o4,o5]:ar)
 let body:List TM.S:=[.set 5 (.idx (.idx (.var 0) (.var 4)) (.cst (.int 0))),
   .ite (.and [.cmp .HK (.var 5) (.var 2),.cmp .HK (.var 5) (.var 3)])
    [.put 3 (.var 5) (.var 4)]
    []]
 have o:∀{d:List Nat} {ps:List (Str×Nat)},NS rows K0 d ps->ps.length<=names.length:=λ{d ps} x=>by
  have:=kq x.once (L:=names) λw A=>by
   have⟨s,hs,rfl⟩:=ez.mp A;obtain⟨_,_,r,b,c⟩:=x.ok s hs;rw[<-c];show v r (pb b)
  simpa using this
 have⟨st',B,j,ps,o4,o5,e,x⟩:=cM (t:=cc) (is:=[4]) (body:=execs Γ body) (rs:=[(.any,.lst (R.map λt:Nat=>.int (t:Nat)))]) (λt:Nat=>(Kd.any,U.int (t:Nat)))
  (λd r st=>d++r=R/\∃(ps:List (Str×Nat)) (o4 o5:Option (Kd×U)),st=S ps o4 o5/\NS rows K0 d ps) (λ_ _ _ _=>trivial) (λd t r st C=>by
   have⟨j,ps,o4,o5,e,x⟩:=C;subst e;have D:t<rows.length:=y t (by rw[<-j];simp);have l:rows[t]?=bD rows[t]:=by simp[D]
   generalize rows[t]=a at l;let f:Option (Kd×U):=bD (.any,.int (t:Nat));let m:Option (Kd×U):=bD (.loc,.str a.1);have G:=o x;have i:Run (H0 Γ (.and [.cmp .HK (.var 5) (.var 2),.cmp .HK (.var 5) (.var 3)])) (S ps f m) (!df (a.1∈K0)&&!df (a.1∈ps.map (·.1))) (S ps f m) :=
    il (jR (bb (ae rfl) (aS rfl) trivial jV) λ_=>cZ (bb (ae rfl) (ao rfl) ⟨⟨.own,rfl,rfl⟩,trivial⟩ jV))
   have g:∀{q:ar},Run (execs Γ [.ite (.and [.cmp .HK (.var 5) (.var 2),.cmp .HK (.var 5) (.var 3)])
    [.put 3 (.var 5) (.var 4)]
    []]) (S ps f m) .nx q->Run (execs Γ body) (S ps f o5) .nx q:=λh =>
    av (r:=(.loc,.str a.1)) (a_ (x:=(.loc,A' a)) (a_ (ae rfl) (aS rfl) trivial (lp (qc l))) aw trivial rfl) aC h
   have n:Run (dc cc [4] (.any,.int (t:Nat))) (S ps o4 o5) () (S ps f o5):=bM mB;by_cases b:a.1∈K0
   .rw[Ġ b]at i;show⟨_,_,n,g (cD i (λh=>by cases h) λ_=>aJ),by rw[<-j];simp,ps,_,_,rfl,x.skip l (.inl b)⟩
   .by_cases c:a.1∈ps.map (·.1)
    .rw[Ğ b,Ġ c]at i;show⟨_,_,n,g (cD i (λh=>by cases h) λ_=>aJ),by rw[<-j];simp,ps,_,_,rfl,x.skip l (.inr c)⟩
    .rw[Ğ b,Ğ c]at i;show⟨_,S (ps++[(a.1,t)]) f m,n,g (cD i (λ_=>?_) λh=>by cases h),by rw[<-j];simp,_,_,_,rfl,x.take l b c⟩;have H:(ps++[(a.1,t)]).map (·.1)=ps.map (·.1)++[a.1]:=by simp
     have I:((ps++[(a.1,t)]).map λp=>U.int (p.2:Nat))=(ps.map λp=>U.int (p.2:Nat))++[.int (t:Nat)]:=by simp
     change Run _ _ _ [bD (.loc,.tup (rows.map A')),bD (.any,.lst (R.map λt:Nat=>.int (t:Nat))),bD (.any,.HM K0 vs),bD (.own,.HM ((ps++[(a.1,t)]).map (·.1)) ((ps++[(a.1,t)]).map λp=>.int (p.2:Nat))),f,m];rw[H,I];show oz (k:=.own) (rv:=(.any,.int (t:Nat))) (rk:=(.loc,.str a.1)) (aS rfl) rfl (ae rfl) (aN (jn rfl) (aN aI aY)) rfl rfl (qb (by rw[cK];lia) c) aJ) R [] (S [] b7 b7) ⟨rfl,[],b7,b7,rfl,NS.start K0⟩
 subst e;rw[lb]at x;have G:=o x;have⟨J,N,O⟩:=Cj (ps:=ps) ⋯ x.once;show⟨J,x.perm N,?_⟩;have e:(R.map λt:Nat=>U.int (t:Nat)).map (λu=>(kE .any,u))=R.map λt=>(Kd.any,U.int (t:Nat)):=by rw[hQ];rfl
 show aE rfl (.inl rfl) z (av (r:=(.own,.HM [] [])) mz aO (cH (rs:=[(.any,.lst (R.map λt:Nat=>.int (t:Nat)))]) (st1:=S [] b7 b7) (aa (aS rfl) ai) trivial rfl rfl (by rw[e];show B) (bV (GW rfl O) mC)))
end
abbrev mi(rows:List Row)(K0:List Str)(d:List Nat)(p:Nat):Int:=(cnt rows K0 p:Int) - (if p∈d then 1 else 0)
abbrev bX(rows:List Row)(f:Nat->Int):List U:=(js rows.length).map λp=>U.int (f p)
abbrev fJ(R:List Nat):List U:=R.map λt:Nat=>U.int (t:Nat)
def Cm(rows:List Row)(K0:List Str):bX rows (mi rows K0 [])=bX rows λp=>(cnt rows K0 p:Int):=by
 unfold bX mi;show y0 λp _=>?_;simp
def Cn(b:Once rows)(c:w∉K0):bX rows (mi rows K0 (IE rows rows.length w))=bX rows λp=>(cnt rows (K0++[w]) p:Int):=by
 unfold bX mi;show y0 λp d=>?_;have e:=wh.mp d;have a:=p_ b c p;by_cases h:w∈told rows p
 .rw[ĝ (jv.mpr ⟨e,h⟩)];rw[ĝ h]at a;change U.int ((cnt rows K0 p:Int) - 1)=U.int (cnt rows (K0++[w]) p:Int);congr 1
  lia
 .rw[ğ λz=>h (jv.mp z).2];rw[ğ h]at a;change U.int ((cnt rows K0 p:Int) - 0)=U.int (cnt rows (K0++[w]) p:Int);congr 1
  lia
def zV(a:t∉d):(bX rows (mi rows K0 d)).set t (.int (mi rows K0 d t - 1))=bX rows (mi rows K0 (d++[t])):=by
 unfold bX;rw[set_range];show y0 λp _=>?_;unfold mi;by_cases e:p=t
 .subst e;rw[ĝ rfl,ğ a,ĝ (by simp)];rw[show((cnt rows K0 p:Int) - 0 - 1)=(cnt rows K0 p:Int) - 1 by lia]
 .rw[ğ e];have:(p∈d++[t])↔p∈d:=by simp[e]
  simp only[this]
def zW(h:t<rows.length):(bX rows f)[t]?=bD (.int (f t)):=by simp[bX,h]
section
variable{Γ:Tab}{rows:List Row}
abbrev vN:List TM.S:=[.aug cb 2 (.var 9) (.cst (.int 1)),.ite (.cmp .eq (.idx (.var 2) (.var 9)) (.cst (.int 0))) [.app 5 (.var 9)] []]
def rM(v:Once rows)(L:rows.length<=120)(y:w∉K0)(N:R.length<=14400)(b:Option (Kd×U))(A:∀st,br src st):∃m:Option (Kd×U),
  Run (forM cc [9] (execs Γ vN) src ((IE rows rows.length w).map λt:Nat=>(Kd.loc,U.int (t:Nat))))
   [b0,b1,bD (.own,.lst (bX rows λp=>(cnt rows K0 p:Int))),b3,b4,bD (.own,.lst (fJ R)),o6,o7,o8,b] .nx
   [b0,b1,bD (.own,.lst (bX rows λp=>(cnt rows (K0++[w]) p:Int))),b3,b4,bD (.own,.lst (fJ (R++(IE rows rows.length w).filter λt=>df (cnt rows K0 t=1)))),o6,o7,o8,m]:=by
 have hsz:(20000:Nat)<=c4:=by decide
 let S:=λ(ms:List U) (R:List Nat) (b:Option (Kd×U))=>([b0,b1,bD (.own,.lst ms),b3,b4,bD (.own,.lst (fJ R)),o6,o7,o8,b]:ar)
 have⟨st',n,f,m,e⟩:=cM (t:=cc) (is:=[9]) (body:=execs Γ vN) (rs:=src) (λt:Nat=>(Kd.loc,U.int (t:Nat)))
  (λd r st=>d++r=IE rows rows.length w/\∃b:Option (Kd×U),st=S (bX rows (mi rows K0 d)) (R++d.filter λt=>df (cnt rows K0 t=1)) b) (λ_ _ st _=>A st) (λd t r st B=>by
   have⟨f,b,e⟩:=B;subst e;have C:t∈IE rows rows.length w:=by rw[<-f];simp
   have o:t<rows.length:=(jv.mp C).1;have q:=xx (rows:=rows) rows.length w;have D:t∉d:=λz=>by
    rw[<-f,qs]at q;show q.2.2 t z t (by simp) rfl
   have O:d.length<=120:=by
    have G:=ġ tA f;have H:(IE rows rows.length w).length<=(js rows.length).length:=Kc _ _;simp at G H;lia
   let c:Option (Kd×U):=bD (.loc,.int (t:Nat));let a:=R++d.filter λt=>df (cnt rows K0 t=1);have Q:a.length<=14520:=by
    have:(d.filter λt=>df (cnt rows K0 t=1)).length<=d.length:=Kc _ _;change(R++_).length<=_;rw[gs];lia
   have I:Il (bX rows (mi rows K0 (d++[t]))) (t:Int)=bD (.int (mi rows K0 (d++[t]) t)):=cn (zW o);have J:mi rows K0 (d++[t]) t=(cnt rows K0 t:Int) - 1:=by unfold mi;rw[ĝ (by simp)]
   have i:Run (H0 Γ (.cmp .eq (.idx (.var 2) (.var 9)) (.cst (.int 0)))) (S (bX rows (mi rows K0 (d++[t]))) a c) (df (cnt rows K0 t=1)) (S (bX rows (mi rows K0 (d++[t]))) a c) :=
    bb (a_ (x:=(.bor 2,.lst (bX rows (mi rows K0 (d++[t]))))) (ao rfl) (ae rfl) ⟨⟨.own,rfl,rfl⟩,trivial⟩ (aV I)) aw trivial (eB (by
     rw[J,Iy];simp;lia))
   have g:∀{s:ar},Run (execs Γ [.ite (.cmp .eq (.idx (.var 2) (.var 9)) (.cst (.int 0)))
      [.app 5 (.var 9)]
      []]) (S (bX rows (mi rows K0 (d++[t]))) a c) .nx s->Run (execs Γ vN) (S (bX rows (mi rows K0 d)) a c) .nx s:=λh=>by
    show GV (us:=bX rows (mi rows K0 d)) (k1:=.loc) (k2:=.loc) (j:=t) (w:=1) rfl (ae rfl) (zW o) aw ?_;rw[zV D];show h
   have u:Run (dc cc [9] (.loc,.int (t:Nat))) (S (bX rows (mi rows K0 d)) a b) () (S (bX rows (mi rows K0 d)) a c):=bM aC;cases l:df (cnt rows K0 t=1) with
   |false =>
    rw[l]at i;show⟨_,_,u,g (cD i (λh=>by cases h) λ_=>aJ),by rw[<-f];simp,c,?_⟩;rw[Qe,z8,l];simp[S,a]
   |true =>
    rw[l]at i;show⟨_,S (bX rows (mi rows K0 (d++[t]))) (a++[t]) c,u,g (cD i (λ_=>?_) λh=>by cases h),by rw[<-f];simp,c,?_⟩
    .have em:fJ (a++[t])=fJ a++[.int (t:Nat)]:=by simp[fJ]
     change Run _ _ _ [b0,b1,bD (.own,.lst (bX rows (mi rows K0 (d++[t])))),b3,b4,bD (.own,.lst (fJ (a++[t]))),o6,o7,o8,c];rw[em];show ff (k:=.own) (k':=.own) (r:=(.loc,.int (t:Nat))) rfl (ae rfl) aI rfl rfl (by unfold fJ;rw[cK];lia) aJ
    .rw[Qe,z8,l];simp[S,a]) (IE rows rows.length w) [] (S (bX rows (mi rows K0 [])) R b) ⟨rfl,b,by simp⟩
 subst e;rw[lb]at n;rw[Cm,Cn v y]at n;show⟨m,n⟩
abbrev zX:List TM.S:=[.put 3 (.var 7) (.cst (.bl cb)),.Ia cc [9] .seq [.Kv 1 (.var 7) (.lst [])] vN]
def xC(o:Once rows)(A:rows.length<=120)(B:∀w,w∉ks->IE rows rows.length w=[])(q:(K0++st.map (·.1)).Nodup)(hl:K0.length+st.length<=120)(vs:List U)(o7 o8 a:Option (Kd×U)):∃(i:List U) (R:List Nat) (j l b:Option (Kd×U)),
  RI rows K0 (K0++st.map (·.1)) R/\(st=[]->R=[])/\Run (forM cb [7,8] (execs Γ zX) [(.bor 6,.lst (st.map stN))] (st.map λs=>(Kd.loc,stN s)))
   [b0,bD (.own,.HM ks (ks.map (cG (IE rows rows.length)))),bD (.own,.lst (bX rows λp=>(cnt rows K0 p:Int))),bD (.own,.HM K0 vs),b4,bD (.own,.lst []),bD (.own,.lst (st.map stN)),o7,o8,a] .nx
   [b0,bD (.own,.HM ks (ks.map (cG (IE rows rows.length)))),bD (.own,.lst (bX rows λp=>(cnt rows (K0++st.map (·.1)) p:Int))),bD (.own,.HM (K0++st.map (·.1)) i),b4,bD (.own,.lst (fJ R)),bD (.own,.lst (st.map stN)),j,l,b]:=by
 let S:=λ(K:List Str) (vs:List U) (R:List Nat) (o7 o8 a:Option (Kd×U))=>([b0,bD (.own,.HM ks (ks.map (cG (IE rows rows.length)))),bD (.own,.lst (bX rows λp=>(cnt rows K p:Int))),bD (.own,.HM K vs),b4,bD (.own,.lst (fJ R)),bD (.own,.lst (st.map stN)),o7,o8,a]:ar)
 have⟨st',C,c,i,R,j,l,b,e,x,D,y⟩:=cM (t:=cb) (is:=[7,8]) (body:=execs Γ zX) (rs:=[(.bor 6,.lst (st.map stN))]) (λs:Str×Nat=>(Kd.loc,stN s))
  (λd r m=>d++r=st/\∃(vs:List U) (R:List Nat) (o7 o8 a:Option (Kd×U)),m=S (K0++d.map (·.1)) vs R o7 o8 a/\RI rows K0 (K0++d.map (·.1)) R/\R.length<=120 * d.length/\(d=[]->R=[])) (λ_ _ m ⟨_,vs,R,o7,o8,a,e,_⟩=>by subst e;show⟨⟨.own,rfl,rfl⟩,trivial⟩) (λd s r m G=>by
   have⟨c,vs,R,o7,o8,a,e,x,D,y⟩:=G;subst e;have⟨w,p⟩:=s;have O:d.length<st.length:=by have:=ġ tA c;simp at this;lia
   have n:w∉K0++d.map (·.1):=λz=>by
    rw[<-c,mu,<-QP,qs]at q;show q.2.2 w z w (by simp) rfl
   let f:Option (Kd×U):=bD (.loc,.str w);let g:Option (Kd×U):=bD (.loc,.int (p:Nat));have⟨b,H⟩:=rM (Γ:=Γ) o A n (R:=R) ⋯ (b0:=b0) (b1:=bD (.own,.HM ks (ks.map (cG (IE rows rows.length))))) (b3:=bD (.own,.HM (K0++d.map (·.1)++[w]) (vs++[.bl cb]))) (b4:=b4) (o6:=bD (.own,.lst (st.map stN))) (o7:=f) (o8:=g) a (src:=[(.loc,cG (IE rows rows.length) w)]) (λ_=>trivial);have em:K0++(d++[(w,p)]).map (·.1)=K0++d.map (·.1)++[w]:=by simp
   have I:(K0++d.map (·.1)).length<1000:=by rw[gs,cK];lia
   have J:(match da ks (ks.map (cG (IE rows rows.length))) w with|some v=>(Kd.loc,v)|none=>(.loc,U.lst []))=(.loc,cG (IE rows rows.length) w):=by
    rw[mM];by_cases h:w∈ks
    .rw[ĝ h]
    .rw[ğ h];unfold cG;rw[B w h];rfl
   have L:((IE rows rows.length w).map λt:Nat=>U.int (t:Nat)).map (λu=>(kE .loc,u))=(IE rows rows.length w).map λt=>(Kd.loc,U.int (t:Nat)):=by rw[hQ];rfl
   show⟨S (K0++d.map (·.1)) vs R f g a,S (K0++d.map (·.1)++[w]) (vs++[.bl cb]) (R++(IE rows rows.length w).filter λt=>df (cnt rows (K0++d.map (·.1)) t=1)) f g b,oD (.inl rfl),?_,by rw[<-c];simp,vs++[.bl cb],_,f,g,b,by rw[em],?_,?_,λz=>by simp at z⟩
   .show oz (k:=.own) (rv:=(.loc,.bl cb)) (rk:=(.loc,.str w)) aw rfl (ae rfl) (aN aI (aN aI aY)) rfl rfl (qb I n) ?_;show cH (rs:=[(.loc,cG (IE rows rows.length) w)]) (aa (E3 (k:=.loc) (z:=(.own,.lst [])) (u:=.lst []) rfl (ae rfl) (cS ai trivial aY (mA _)) rb J) ai) trivial (by change bD (TV (λu=>(kE .loc,u)) _)=_;rw[L]) rfl H aJ
   .rw[em];show x.step o n
   .have:((IE rows rows.length w).filter λt=>df (cnt rows (K0++d.map (·.1)) t=1)).length<=120:=by
     show ve (Kc _ _) ?_;have N:(IE rows rows.length w).length<=(js rows.length).length:=Kc _ _;simp at N;lia
    rw[gs,gs,OA];lia) st [] (S K0 vs [] o7 o8 a) ⟨rfl,vs,[],o7,o8,a,by simp[S],by simpa using RI.start K0,by simp,λ_=>rfl⟩
 subst e;show⟨i,R,j,l,b,by simpa using x,λz=>y (by simpa using z),by simpa[S,fJ] using C⟩
abbrev hV(a:List (List (Str×Nat))):List U:=a.map λl=>U.lst (l.map stN)
abbrev zY:List TM.S:=[.set 6 (.call "new_steps" [.var 0,.var 5,.var 3]),.set 5 (.lst []),.Ia cb [7,8] .seq [.var 6] zX,.ite (.cmp .ne (.var 6) (.lst [])) [.app 4 (.var 6)] []]
abbrev zZ(Γ:Tab)(rows:List Row):Prop:=∀(R:List Nat) (K0:List Str) (vs:List U),(∀t∈R,t<rows.length)->∃st:List (Str×Nat),NS rows K0 R st/\Γ "new_steps" [.tup (rows.map A'),.lst (fJ R),.HM K0 vs]=bD (.ok (.own,.lst (st.map stN)))
theorem jX(H:Once rows)(I:rows.length<=120)(J:zZ Γ rows)(N:∀w,w∉ks->IE rows rows.length w=[]):∀(f:Nat) (c:List (Str×Nat)) (d:List (List (Str×Nat))) (R:List Nat) (vs:List U) (o6 o7 o8 i:Option (Kd×U)),
  LI rows c R->d.flatten=c->d.length<=c.length->(rows.length - c.length)+(if R=[] then 1 else 2)<=f ->
  ∃(P1:List (Str×Nat)) (O:List (List (Str×Nat))) (st':ar),LI rows P1 []/\O.flatten=P1/\O.length<=120/\st'[4]?=bD (bD (.own,.lst (hV O))) /\
   Run (gw (H0 Γ (.cmp .ne (.var 5) (.lst []))) (execs Γ zY) f) [bD (.loc,.tup (rows.map A')),bD (.own,.HM ks (ks.map (cG (IE rows rows.length)))),bD (.own,.lst (bX rows λp=>(cnt rows (c.map (·.1)) p:Int))),bD (.own,.HM (c.map (·.1)) vs),bD (.own,.lst (hV d)),bD (.own,.lst (fJ R)),o6,o7,o8,i] .nx st'
 |0,c,d,R,vs,o6,o7,o8,i,_,_,_,h=>by split at h<;>lia
 |f+1,c,d,R,vs,o6,o7,o8,i,x,Q,Xx,h=>by
  have hsz:(20000:Nat)<=c4:=by decide
  have JV:∀{s:List (Str×Nat)} {g:List Nat},LI rows s g->s.length<=rows.length:=λ{s g} x=>by
   have:=kq x.nd x.wd;simpa using this
  have I0:=JV x;let S:=λ(K:List Str) (vs:List U) (d:List (List (Str×Nat))) (R:List Nat) (o6 o7 o8 i:Option (Kd×U))=>([bD (.loc,.tup (rows.map A')),bD (.own,.HM ks (ks.map (cG (IE rows rows.length)))),bD (.own,.lst (bX rows λp=>(cnt rows K p:Int))),bD (.own,.HM K vs),bD (.own,.lst (hV d)),bD (.own,.lst (fJ R)),o6,o7,o8,i]:ar)
  have Xy:∀R:List Nat,IQ 50 (.lst (fJ R))=cb:=λR=>by change c_ 49 _=cb;show oF (λt:Nat=>((t:Nat):Int)) R 49
  have B:Run (H0 Γ (.cmp .ne (.var 5) (.lst []))) (S (c.map (·.1)) vs d R o6 o7 o8 i) (!(fJ R).isEmpty) (S (c.map (·.1)) vs d R o6 o7 o8 i) :=
   bb (ao rfl) (cS ai trivial aY (mA _)) ⟨⟨.own,rfl,rfl⟩,trivial⟩ (rK (Xy R))
  by_cases T:R=[]
  .subst T;show⟨c,d,_,x,Q,⋯,rfl,vK B⟩
  .rw[ğ T]at h;have Oy:(!(fJ R).isEmpty)=cb:=by
    cases R with
    |nil=>show absurd rfl T
    |cons a l=>rfl
   rw[Oy]at B;have⟨st,n,HQ⟩:=J R (c.map (·.1)) vs λt ht=>(x.PZ t ht).1;have HW:(c.map (·.1)++st.map (·.1)).Nodup:=by
    rw[qs];show⟨x.nd,n.once,λa ha b v e=>?_⟩;have⟨s,hs,rfl⟩:=ez.mp v;show(n.ok s hs).2.1 (e▸ha)
   have ab:c.length+st.length<=rows.length:=by
    have:=kq HW (L:=rows.map (·.1)) λy hy=>by
     rcases gj.mp hy with hy|hy
     .show x.wd y hy
     .have⟨s,hs,rfl⟩:=ez.mp hy;obtain⟨_,_,r,q1,q2⟩:=n.ok s hs;show ez.mpr ⟨r,pb q1,q2⟩
    simpa using this
   let z:Option (Kd×U):=bD (.own,.lst (st.map stN));have⟨j,g,m,o,q,y,Xz,Ts⟩:=xC (Γ:=Γ) H I N HW (by rw[cK];lia) (b0:=bD (.loc,.tup (rows.map A'))) (b4:=bD (.own,.lst (hV d))) vs o7 o8 i;have Y:=x.step n y;have em:(c++st).map (·.1)=c.map (·.1)++st.map (·.1):=mu;have XA:IQ 50 (.lst (st.map stN))=cb:=by change c_ 49 _=cb;show rL st 48
   have C:Run (H0 Γ (.cmp .ne (.var 6) (.lst []))) (S (c.map (·.1)++st.map (·.1)) j d g z m o q) (!(st.map stN).isEmpty) (S (c.map (·.1)++st.map (·.1)) j d g z m o q) :=
    bb (ao rfl) (cS ai trivial aY (mA _)) ⟨⟨.own,rfl,rfl⟩,trivial⟩ (rK XA)
   have e1:(st.map stN).map (λu=>(kE (.bor 6),u))=st.map λs=>(Kd.loc,stN s):=by rw[hQ];rfl
   have A:∀{JE:ar},Run (execs Γ [.ite (.cmp .ne (.var 6) (.lst []))
    [.app 4 (.var 6)]
    []]) (S (c.map (·.1)++st.map (·.1)) j d g z m o q) .nx JE->Run (execs Γ zY) (S (c.map (·.1)) vs d R o6 o7 o8 i) .nx JE:=λh=>by
    show av (r:=(.own,.lst (st.map stN))) (aF (aa (ae rfl) (aa (ao rfl) (aa (ao rfl) ai))) ⟨⟨.own,rfl,rfl⟩,⟨.own,rfl,rfl⟩,trivial⟩ HQ) aO ?_;show av (r:=(.own,.lst [])) (cS ai trivial aY (mA _)) aO ?_;show cH (rs:=[(.bor 6,.lst (st.map stN))]) (aa (ao rfl) ai) ⟨⟨.own,rfl,rfl⟩,trivial⟩ (by change bD (TV (λu=>(kE (.bor 6),u)) _)=_;rw[e1]) rfl Ts h
   by_cases D:st=[]
   .have XB:=Xz D;subst D;rw[show(!(([]:List (Str×Nat)).map stN).isEmpty)=cc from rfl]at C;have ee:c++[]=c:=vu _;rw[ee]at Y;have v:=A (cD C (λh=>by cases h) λ_=>aJ);have⟨NU,NV,st2,z1,z2,z3,z4,G⟩:=jX H I J N f c d g j z m o q Y Q Xx (by rw[ĝ XB];lia);show⟨NU,NV,st2,z1,z2,z3,z4,xA B v ?_⟩;have e3:c.map (·.1)++([]:List (Str×Nat)).map (·.1)=c.map (·.1):=by simp
    change Run _ (S (c.map (·.1)++([]:List (Str×Nat)).map (·.1)) j d g z m o q) _ _;rw[e3];show G
   .have Tt:(!(st.map stN).isEmpty)=cb:=by
     cases st with
     |nil=>show absurd rfl D
     |cons a l=>rfl
    rw[Tt]at C;have XC:0<st.length:=Za.mpr D;have ef:hV (d++[st])=hV d++[.lst (st.map stN)]:=by simp[hV]
    have v:Run (execs Γ zY) (S (c.map (·.1)) vs d R o6 o7 o8 i) .nx (S (c.map (·.1)++st.map (·.1)) j (d++[st]) g (bD (.loc,.lst (st.map stN))) m o q):=by
     show A (cD C (λ_=>?_) λh=>by cases h);change Run _ _ _ [bD (.loc,.tup (rows.map A')),bD (.own,.HM ks (ks.map (cG (IE rows rows.length)))),bD (.own,.lst (bX rows λp=>(cnt rows (c.map (·.1)++st.map (·.1)) p:Int))),bD (.own,.HM (c.map (·.1)++st.map (·.1)) j),bD (.own,.lst (hV (d++[st]))),bD (.own,.lst (fJ g)),bD (.loc,.lst (st.map stN)),m,o,q];rw[ef];show ff (k:=.own) (k':=.own) (r:=(.bor 6,.lst (st.map stN))) (u:=.lst (st.map stN)) rfl (ao rfl) (GR rfl) rfl rfl (by unfold hV;rw[cK];lia) aJ
    have⟨NU,NV,st2,z1,z2,z3,z4,G⟩:=jX H I J N f (c++st) (d++[st]) g j (bD (.loc,.lst (st.map stN))) m o q Y (by rw[Zc,Q];simp) (by rw[gs,gs,OA];lia) (by rw[gs];split<;>lia);show⟨NU,NV,st2,z1,z2,z3,z4,xA B v ?_⟩;rw[em]at G;show G
abbrev CZ(Γ:Tab)(rows:List Row):Prop:=∃ks:List Str,(∀w,w∉ks->IE rows rows.length w=[])/\Γ "places_that_tell" [.tup (rows.map A')]=bD (.ok (.own,.HM ks (ks.map (cG (IE rows rows.length)))))
def hZ(q:Once rows)(s:rows.length<=120)(v:CZ Γ rows)(w:zZ Γ rows):∃(f:List (Str×Nat)) (d:List (List (Str×Nat))),LI rows f []/\d.flatten=f/\d.length<=120/\bB Γ bt [.tup (rows.map A')]=bD (.ok (.own,.lst (hV d))):=by
 have hsz:(20000:Nat)<=c4:=by decide
 have⟨ks,z,A⟩:=v;have B:TM.start [.tup (rows.map A')] 10=[bD (.loc,.tup (rows.map A')),b7,b7,b7,b7,b7,b7,b7,b7,b7]:=by simp[TM.start,Ii,aZ]
 let g:Option (Kd×U):=bD (.loc,.tup (rows.map A'));let h:Option (Kd×U):=bD (.own,.HM ks (ks.map (cG (IE rows rows.length))));let C:Option (Kd×U):=bD (.own,.lst (bX rows λp=>(cnt rows [] p:Int)));have D:Run (ev Γ (.comp 1 cc .seq [.var 0] [] (.bi .len [.idx (.var 0) (.cst (.int 1))]))) [g,h,b7,b7,b7,b7,b7,b7,b7,b7] (.own,.lst (bX rows λp=>(cnt rows [] p:Int))) [g,h,b7,b7,b7,b7,b7,b7,b7,b7]:=by
  have c:=c7 (cond:=aR Γ []) (elt:=ev Γ (.bi .len [.idx (.var 0) (.cst (.int 1))])) (src:=[(.loc,.tup (rows.map A'))]) (st:=[g,h,b7,b7,b7,b7,b7,b7,b7,b7]) trivial .loc (.inl rfl) A' (λr=>.int (r.2.length:Nat)) .loc (λ_=>ei) rows [] (by simp;lia)
   (λy _=>⟨bZ (aa (a_ (x:=(.loc,A' y)) (ae rfl) aw trivial rfl) ai) trivial (by rw[jq,cK]),aI⟩)
  rw[lb]at c;have e:(rows.map A').map (λu=>(kE .loc,u))=rows.map λr=>(Kd.loc,A' r):=by rw[hQ];rfl
  have G:(rows.map λr=>U.int (r.2.length:Nat))=bX rows λp=>(cnt rows [] p:Int):=by
   unfold bX;apply Pd
   .simp
   .intro i j k;have H:i<rows.length:=by simpa using j
    have l:told rows i=rows[i].2:=kS (by simp[H]);have I:cnt rows [] i=rows[i].2.length:=by unfold cnt t5;rw[l];simp
    simp[I]
  rw[G]at c;show bW (rs:=[(.loc,.tup (rows.map A'))]) (aa (ae rfl) ai) trivial (by change bD _=_;rw[e]) c
 let m:=(js rows.length).filter λp=>df (cnt rows [] p=0);let n:ar:=[g,h,C,bD (.own,.HM [] []),bD (.own,.lst []),b7,b7,b7,b7,b7]
 have J:Run (ev Γ (.comp 2 cb .Nz [.var 2] [.cmp .eq (.var 1) (.cst (.int 0))] (.var 0))) n (.own,.lst (fJ m)) n:=by
  have c:=t8 (st:=n) (cond:=aR Γ [.cmp .eq (.var 1) (.cst (.int 0))]) (elt:=ev Γ (.var 0)) (src:=[(.bor 2,.lst (bX rows λp=>(cnt rows [] p:Int)))]) ⟨⟨.own,rfl,rfl⟩,trivial⟩ (λp:Nat=>U.int (p:Nat)) (λp:Nat=>U.int (cnt rows [] p:Int)) (λp:Nat=>U.int (p:Nat)) (λp=>df (cnt rows [] p=0)) (js rows.length) [] (by simp;lia)
   (λy _=>⟨cZ (bb (ae rfl) aw trivial (eB (by rw[Iy];simp))),ae rfl⟩)
  rw[lb]at c;have e:((bX rows λp=>(cnt rows [] p:Int)).zipIdx.map λp=>(kE (.bor 2),U.tup [.int p.2,p.1]))=(js rows.length).map λp:Nat=>(Kd.loc,U.tup [.int (p:Nat),.int (cnt rows [] p:Int)]):=by
   unfold bX;apply Pd
   .simp
   .intro i j k;simp[kE]
  show bW (rs:=[(.bor 2,.lst (bX rows λp=>(cnt rows [] p:Int)))]) (aa (ao rfl) ai) ⟨⟨.own,rfl,rfl⟩,trivial⟩ (by change bD _=_;rw[e]) c
 have L:LI rows [] m:=⟨trivial,λt l=>by
  have⟨a,b⟩:=K'.mp l;show⟨wh.mp a,by simpa using b⟩,λt r j k=>.inl (K'.mpr ⟨wh.mpr (et.mp j).1,by simpa using k⟩)⟩
 have⟨f,d,st',N,O,Q,o,T⟩:=jX q s w z fuel [] [] m [] b7 b7 b7 b7 L rfl (kb _) (by unfold fuel;split<;>simp<;>lia);show⟨f,d,N,O,Q,?_⟩;show aE rfl (.inl rfl) B (av (r:=(.own,.HM ks (ks.map (cG (IE rows rows.length))))) (aF (aa (ae rfl) ai) trivial A) aO (av D aO (av (r:=(.own,.HM [] [])) mz aO (av (r:=(.own,.lst [])) (cS ai trivial aY (mA _)) aO (av J aO (vL T (bV (ao o) (kl o))))))))
def jY(hs:Γ "steps_in_rounds" [.tup (rows.map A')]=bD (.ok (.own,.lst (hV a))))(c:a.flatten=f)(hl:f.length<=120):bB Γ fI [.tup (rows.map A')]=bD (.ok (.own,.lst (f.map stN))):=by
 have hsz:(20000:Nat)<=c4:=by decide
 have h:TM.start [.tup (rows.map A')] 3=[bD (.loc,.tup (rows.map A')),b7,b7]:=by simp[TM.start,Ii,aZ]
 let S:=λ(l:List (Str×Nat)) (o2:Option (Kd×U))=>([bD (.loc,.tup (rows.map A')),bD (.own,.lst (l.map stN)),o2]:ar)
 have⟨st',i,b,o2,e⟩:=cM (t:=cc) (is:=[2]) (body:=execs Γ [.ext 1 (.var 2)]) (rs:=[(.own,.lst (hV a))]) (λl:List (Str×Nat)=>(Kd.loc,U.lst (l.map stN)))
  (λd r st=>d++r=a/\∃o2:Option (Kd×U),st=S d.flatten o2) (λ_ _ _ _=>trivial) (λd y r st j=>by
   have⟨b,o2,e⟩:=j;subst e;have m:d.flatten.length+y.length<=120:=by
    have:=ġ (λl:List (List (Str×Nat))=>l.flatten.length) b;simp only[Zc,Sr,gs,c]at this;lia
   show⟨S d.flatten (bD (.loc,.lst (y.map stN))),S (d++[y]).flatten (bD (.loc,.lst (y.map stN))),bM aC,?_,by rw[<-b];simp,_,rfl⟩;have em:(d++[y]).flatten.map stN=d.flatten.map stN++y.map stN:=by simp
   change Run _ _ _ [bD (.loc,.tup (rows.map A')),bD (.own,.lst ((d++[y]).flatten.map stN)),bD (.loc,.lst (y.map stN))];rw[em];show vG (k:=.own) (k':=.own) rfl (ae rfl) rfl rfl (vI (by rw[cK,cK];lia) rfl) aJ) a [] (S [] b7) ⟨rfl,b7,rfl⟩
 subst e;have e:(hV a).map (λu=>(kE .own,u))=a.map λl=>(Kd.loc,U.lst (l.map stN)):=by unfold hV;rw[hQ];rfl
 have g:=aE (Γ:=Γ) (fn:=fI) rfl (.inl rfl) h (av (r:=(.own,.lst [])) (cS ai trivial aY (mA _)) aO (cH (rs:=[(.own,.lst (hV a))]) (st1:=S [] b7) (aa (aF (aa (ae rfl) ai) trivial hs) ai) trivial rfl rfl (by rw[e];show i) (bV (ao rfl) (kl rfl))));rw[lb,c]at g;show g
end
section
structure U5(prog:List Fn):Prop where
 g:IA prog "gathered" dv
 p:IA prog "places_that_tell" bh
 n:IA prog "new_steps" cT
 s:IA prog "steps_in_rounds" bt
 o:IA prog "order" fI
structure Kn(rows:List Row)(K:List Str):Prop where
 nd:K.Nodup
 sn:JT rows K
 cl:cO rows (·∈K)
def Kn.of(s:LI rows a []):Kn rows (a.map (·.1)):=⟨s.nd,s.sn,s.closed⟩
def Co(L:U5 prog)(n:Nat)(d:∀r∈rows,cz names r)(y:names.length<=24)(e:rows.length<=120):∃c:List (Str×Nat),LI rows c []/\c.length<=24/\Io prog (n+4) "order" [.tup (rows.map A')]=bD (.ok (.own,.lst (c.map stN))):=by
 have j:∀r∈rows,r.2.length<=8:=λr h=>(d r h).JV;have f:Once rows:=λr h=>(d r h).once;have i:∀r∈rows,r.1∈names:=λr h=>(d r h).word;have k:CY (Io prog (n+1)):=λps hl=>by
  have⟨ks,a,b⟩:=qd (Γ:=Io prog n) hl;show⟨ks,a,(aB L.g _).trans b⟩
 have l:CZ (Io prog (n+2)) rows:=by
  have⟨ks,a,b⟩:=t9 k f j e;show⟨ks,a,(aB L.p _).trans b⟩
 have m:zZ (Io prog (n+2)) rows:=λR K0 vs q=>by
  have⟨st,a,b⟩:=nA (Γ:=Io prog (n+1)) i ⋯ q (K0:=K0) (vs:=vs);show⟨st,a,(aB L.n _).trans b⟩
 have⟨c,t,s1,s2,s3,s4⟩:=hZ f e l m;have u:Io prog (n+3) "steps_in_rounds" [.tup (rows.map A')]=bD (.ok (.own,.lst (hV t))):=(aB L.s _).trans s4;have v:c.length<=24:=by
  have:=kq (Kn.of s1).nd (L:=names) λx w=>by
   have⟨r,a,b⟩:=ez.mp (s1.wd x w);show b▸i r a
  rw[cK]at this;lia
 show⟨c,s1,v,(aB L.o _).trans (jY u s2 ⋯)⟩
end
end KL
namespace K
open PySem L2 TM
abbrev top(i:Nat):Nw:=PySem.Challenge.pw_primer_k94_whole_laid_together.main.body.getD i (.Pass ⟨0,0,0,0⟩)
abbrev gV:Fn:=⟨"stem_of",1,1,[.ret (.idx (.J6 .partition (.var 0) [.cst (.str "/")]) (.cst (.int 0)))]⟩
abbrev cA:Fn:=⟨"in_one_order",1,1,[.ret (.tup [.idx (.var 0) (.cst (.int 0)),.bi .tuple [.bi .sorted [.idx (.var 0) (.cst (.int 1))]]])]⟩
abbrev jx:Fn:=⟨"alike",2,2,[.ret (.cmp .eq (.call "in_one_order" [.var 0]) (.call "in_one_order" [.var 1]))]⟩
noncomputable abbrev mO:Fn:=TM.pY
noncomputable abbrev dv:Fn:=KL.dv
abbrev eJ:Fn:=⟨"free_name",2,4,[.Ia cc [2] .Mr [.bin .add (.L_ "FIRST_SENSE" (.int 1)) (.cst (.int 1)),.bin .add (.L_ "LAST_SENSE" (.int 99)) (.cst (.int 1))] [.set 3 (.fst [.var 0,.cst (.str "/"),.var 2]),.ite (.cmp .HK (.var 3) (.var 1)) [.ret (.var 3)] []],.LM "TooMany" (.fst [.cst (.str "no number is left for the stem "),.var 0])]⟩
abbrev eL:Fn:=⟨"new_names",3,9,[.set 3 (.call "words_of" [.var 0]),.set 4 (.call "words_of" [.var 1]),.set 5 (.JC cc),.Ia cc [6] .seq [.bin .add (.var 3) (.var 4)] [.put 5 (.var 6) (.cst (.bl cb))],.set 7 (.lst []),.Ia cc [6] .seq [.var 4] [.set 8 (.var 6),.ite (.and [.cmp .isin (.var 6) (.var 3),.cmp .HK (.var 6) (.var 2)]) [.set 8 (.call "free_name" [.call "stem_of" [.var 6],.var 5]),.put 5 (.var 8) (.cst (.bl cb))] [],.app 7 (.tup [.var 6,.var 8])],.ret (.var 7)]⟩
abbrev gW:Fn:=⟨"renamed",2,2,[.ret (.tup [.idx (.var 1) (.idx (.var 0) (.cst (.int 0))),.bi .tuple [.comp 1 cc .seq [.idx (.var 0) (.cst (.int 1))] [] (.idx (.var 2) (.var 0))]])]⟩
abbrev mP:Fn:=⟨"laid",3,7,[.set 3 (.bi .dict [.call "new_names" [.var 0,.var 1,.var 2]]),.set 4 (.bi .list [.var 0]),.Ia cc [5] .seq [.var 1] [.set 6 (.call "renamed" [.var 5,.var 3]),.ite (.not (.bi .any [.comp 1 cc .seq [.var 4] [] (.call "alike" [.var 0,.var 7])])) [.app 4 (.var 6)] []],.ite (.cmp .gt (.bi .len [.var 4]) (.L_ "MOST_ROWS" (.int 60))) [.LM "TooMany" (.cst (.str "the books have too many rows together"))] [],.ret (.bi .tuple [.var 4])]⟩
noncomputable abbrev bh:Fn:=KL.bh
noncomputable abbrev cT:Fn:=KL.cT
noncomputable abbrev bt:Fn:=KL.bt
noncomputable abbrev fI:Fn:=KL.fI
abbrev gY:Fn:=⟨"trimmed",1,2,[.set 1 (.bi .sorted [.comp 1 cc .seq [.call "order" [.var 0]] [] (.idx (.var 0) (.cst (.int 1)))]),.ret (.bi .tuple [.comp 1 cc .seq [.var 1] [] (.idx (.var 1) (.var 0))])]⟩
noncomputable abbrev oG:Fn:=TM.xi
noncomputable abbrev mQ:Fn:=TM.vC
noncomputable abbrev kr:Fn:=TM.pR
abbrev mR:Fn:=⟨"_law_name",2,6,[.set 2 (.cst (.str "abcdefghijklmnopqrstuvwxyz")),.set 3 (.J6 .join (.cst (.str "")) [.comp 1 cc .Iv [.bin .add (.cst (.int 1)) (.bin .mod (.idx (.var 0) (.cst (.int 0))) (.cst (.int 8)))] [] (.idx (.var 3) (.bin .mod (.idx (.var 1) (.bin .add (.cst (.int 4)) (.var 0))) (.cst (.int 26))))]),.ite (.cmp .gt (.bi .len [.var 1]) (.cst (.int 0))) [.set 4 (.idx (.J6 .split (.idx (.var 1) (.bin .mod (.idx (.var 0) (.cst (.int 1))) (.bi .len [.var 1]))) [.cst (.str "/")]) (.cst (.int 0))),.ite (.cmp .eq (.bin .mod (.idx (.var 0) (.cst (.int 2))) (.cst (.int 4))) (.cst (.int 1))) [.set 3 (.JJ (.bin .add (.var 4) (.var 3)) [] [.cst (.int 8)])] [],.ite (.cmp .eq (.bin .mod (.idx (.var 0) (.cst (.int 2))) (.cst (.int 4))) (.cst (.int 2))) [.set 3 (.bin .add (.bin .add (.var 4) (.cst (.str "/"))) (.bi .str [.bin .add (.cst (.int 2)) (.bin .mod (.idx (.var 0) (.cst (.int 3))) (.cst (.int 98)))]))] []] [],.set 5 (.bin .add (.lst [.var 3]) (.comp 1 cc .Iv [.cst (.int 40)] [] (.bin .add (.idx (.var 3) (.bin .Ku (.var 0) (.cst (.int 26)))) (.idx (.var 3) (.bin .mod (.var 0) (.cst (.int 26))))))),.ret (.idx (.comp 1 cc .seq [.var 5] [.cmp .HK (.var 0) (.var 2)] (.var 0)) (.cst (.int 0)))]⟩
noncomputable abbrev ku:Fn:=TM.fNames
noncomputable abbrev mS:Fn:=TM.kn
noncomputable abbrev mT:Fn:=TM.zG
noncomputable abbrev mU:Fn:=TM.zJ
abbrev dP:Fn:=⟨"_law_learnt",1,5,[.set 1 (.JC cc),.set 2 (.cst (.bl cb)),.LL (.var 2) [.set 2 (.cst (.bl cc)),.Ia cb [3,4] .seq [.var 0] [.ite (.and [.cmp .HK (.var 3) (.var 1),.bi .all [.comp 1 cc .seq [.var 4] [] (.cmp .isin (.var 0) (.var 2))]]) [.put 1 (.var 3) (.cst (.bl cb)),.set 2 (.cst (.bl cb))] []]],.ret (.bi .sorted [.var 1])]⟩
abbrev dF:Fn:=⟨"_law_words",1,3,[.set 1 (.comp 1 cc .seq [.var 0] [] (.idx (.var 0) (.cst (.int 0)))),.Ia cc [2] .seq [.var 0] [.ext 1 (.idx (.var 2) (.cst (.int 1)))],.ret (.Ma .sset [.var 1])]⟩
abbrev dQ:Fn:=⟨"_law_second",2,8,[.set 2 (.call "_law_drawn" [.call "_law_cell" [.var 0,.cst (.int 0)],.cst (.int 4)]),.set 3 (.lst []),.Ia cc [4] .Iv [.bin .add (.cst (.int 1)) (.bin .mod (.idx (.var 2) (.cst (.int 2))) (.cst (.int 8)))] [.set 5 (.call "_law_drawn" [.call "_law_cell" [.var 0,.bin .sub (.cst (.int 60)) (.var 4)],.cst (.int 13)]),.ite (.cmp .eq (.bin .mod (.idx (.var 5) (.cst (.int 12))) (.cst (.int 2))) (.cst (.int 0))) [.app 3 (.call "_law_name" [.var 5,.bin .add (.var 3) (.var 1)])] [.set 6 (.bin .mod (.idx (.var 5) (.cst (.int 11))) (.bin .add (.bi .len [.var 1]) (.cst (.int 1)))),.set 7 (.bin .add (.bin .add (.JJ (.var 1) [.var 6] []) (.JJ (.var 1) [] [.var 6])) (.lst [.call "_law_name" [.var 5,.bin .add (.var 3) (.var 1)]])),.app 3 (.idx (.comp 1 cc .seq [.var 7] [.cmp .HK (.var 0) (.var 4)] (.var 0)) (.cst (.int 0)))]],.ret (.call "_law_book" [.var 0,.cst (.int 40),.var 3,.bin .mod (.idx (.var 2) (.cst (.int 3))) (.cst (.int 24))])]⟩
abbrev cI:Fn:=⟨"_law_new_names",3,10,[.set 3 (.call "_law_words" [.var 0]),.set 4 (.call "_law_words" [.var 1]),.set 5 (.lst []),.set 6 (.lst []),.Ia cc [7] .seq [.var 4] [.set 8 (.var 7),.set 9 (.cst (.int 2)),.ite (.and [.cmp .isin (.var 7) (.var 3),.cmp .HK (.var 7) (.var 2)]) [.set 8 (.bin .add (.idx (.J6 .split (.var 7) [.cst (.str "/")]) (.cst (.int 0))) (.cst (.str "/2"))),.LL (.or [.cmp .isin (.var 8) (.var 3),.cmp .isin (.var 8) (.var 4),.cmp .isin (.var 8) (.var 6)]) [.set 9 (.bin .add (.var 9) (.cst (.int 1))),.set 8 (.bin .add (.bin .add (.idx (.J6 .split (.var 7) [.cst (.str "/")]) (.cst (.int 0))) (.cst (.str "/"))) (.bi .str [.var 9]))]] [],.app 6 (.var 8),.app 5 (.tup [.var 7,.var 8])],.ret (.var 5)]⟩
abbrev fK:Fn:=⟨"_law_laid",3,8,[.set 3 (.bi .list [.var 0]),.set 4 (.comp 1 cc .seq [.var 0] [] (.tup [.idx (.var 0) (.cst (.int 0)),.bi .sorted [.idx (.var 0) (.cst (.int 1))]])),.Ia cb [5,6] .seq [.var 1] [.set 7 (.tup [.idx (.var 2) (.var 5),.bi .tuple [.comp 1 cc .seq [.var 6] [] (.idx (.var 3) (.var 0))]]),.ite (.cmp .HK (.tup [.idx (.var 7) (.cst (.int 0)),.bi .sorted [.idx (.var 7) (.cst (.int 1))]]) (.var 4)) [.app 3 (.var 7)] []],.ret (.bi .tuple [.var 3])]⟩
abbrev fL:Fn:=⟨"_law_same",3,7,[.set 3 (.comp 1 cc .seq [.call "_law_words" [.var 1]] [.cmp .isin (.var 0) (.call "_law_words" [.var 3])] (.var 0)),.set 4 (.call "_law_drawn" [.call "_law_cell" [.var 0,.cst (.int 19)],.cst (.int 20)]),.set 5 (.lst []),.Ia cc [6] .Iv [.bi .len [.var 3]] [.ite (.cmp .eq (.bin .mod (.idx (.var 4) (.bin .mod (.var 6) (.cst (.int 16)))) (.cst (.int 2))) (.cst (.int 1))) [.ins 5 (.bin .mod (.idx (.var 4) (.cst (.int 16))) (.bin .add (.bi .len [.var 5]) (.cst (.int 1)))) (.idx (.var 3) (.var 6))] []],.ite (.cmp .eq (.bin .mod (.idx (.var 4) (.cst (.int 17))) (.cst (.int 4))) (.cst (.int 1))) [.app 5 (.cst (.str "zzzzzzzz/99"))] [],.ite (.and [.cmp .eq (.bin .mod (.idx (.var 4) (.cst (.int 18))) (.cst (.int 4))) (.cst (.int 1)),.cmp .gt (.bi .len [.var 5]) (.cst (.int 0))]) [.app 5 (.idx (.var 5) (.cst (.int 0)))] [],.ret (.var 5)]⟩
abbrev bO:Fn:=⟨"_law_trimmed_right",2,5,[.set 2 (.cst (.int 0)),.Ia cc [3] .seq [.var 1] [.LL (.and [.cmp .lt (.var 2) (.bi .len [.var 0]),.cmp .ne (.idx (.var 0) (.var 2)) (.var 3)]) [.set 2 (.bin .add (.var 2) (.cst (.int 1)))],.ite (.cmp .eq (.var 2) (.bi .len [.var 0])) [.ret (.cst (.bl cc))] [],.set 2 (.bin .add (.var 2) (.cst (.int 1)))],.set 4 (.call "_law_learnt" [.var 0]),.ite (.cmp .ne (.call "_law_learnt" [.var 1]) (.var 4)) [.ret (.cst (.bl cc))] [],.ret (.not (.bi .any [.comp 1 cc .Iv [.bi .len [.var 1]] [] (.cmp .eq (.call "_law_learnt" [.bin .add (.JJ (.var 2) [] [.var 0]) (.JJ (.var 2) [.bin .add (.var 0) (.cst (.int 1))] [])]) (.var 5))]))]⟩
abbrev dz:Fn:=⟨"_law_refused",3,5,[.set 3 (.cst (.bl cc)),.Mw 3 "laid" [.var 0,.var 1,.var 2] "PrimerError" "TooMany" 4,.ret (.var 3)]⟩
abbrev dR:Fn:=⟨"_law_taught",5,9,[.set 5 (.call "_law_learnt" [.var 3]),.set 6 (.bin .add (.call "_law_learnt" [.var 0]) (.comp 1 cc .seq [.call "_law_learnt" [.var 1]] [] (.idx (.var 3) (.var 0)))),.ite (.not (.bi .all [.comp 1 cc .seq [.var 6] [] (.cmp .isin (.var 0) (.var 6))])) [.ret (.cst (.bl cc))] [],.set 7 (.call "_law_words" [.var 0]),.set 8 (.comp 1 cc .seq [.call "_law_words" [.var 1]] [.and [.cmp .isin (.var 0) (.var 8),.cmp .isin (.var 0) (.var 5)]] (.var 0)),.ret (.or [.cmp .gt (.bi .len [.var 8]) (.cst (.int 0)),.cmp .eq (.var 5) (.Ma .sset [.var 6])])]⟩
abbrev rN:Fn:=⟨"law",1,9,[.set 1 (.call "_law_made" [.var 0]),.set 2 (.call "_law_second" [.var 0,.call "_law_words" [.var 1]]),.set 3 (.call "_law_same" [.var 0,.var 1,.var 2]),.set 4 (.call "_law_new_names" [.var 1,.var 2,.var 3]),.set 5 (.bi .list [.var 3]),.ite (.or [.cmp .ne (.bi .repr [.call "new_names" [.var 1,.var 2,.var 5]]) (.bi .repr [.var 4]),.cmp .ne (.var 5) (.var 3)]) [.ret (.cst (.bl cc))] [],.set 6 (.call "_law_laid" [.var 1,.var 2,.bi .dict [.var 4]]),.ite (.cmp .gt (.bi .len [.var 6]) (.cst (.int 60))) [.ret (.call "_law_refused" [.var 1,.var 2,.var 5])] [],.set 7 (.call "laid" [.var 1,.var 2,.var 5]),.ite (.or [.cmp .ne (.bi .repr [.var 7]) (.bi .repr [.var 6]),.cmp .ne (.var 5) (.var 3),.not (.call "_law_taught" [.var 1,.var 2,.bi .dict [.var 4],.var 7,.var 3])]) [.ret (.cst (.bl cc))] [],.set 8 (.call "trimmed" [.var 7]),.ret (.and [.Ms (.var 8) .tuple,.call "_law_trimmed_right" [.var 7,.var 8]])]⟩
abbrev prog:List Fn:=[gV,cA,jx,mO,dv,eJ,eL,gW,mP,bh,cT,bt,fI,gY,oG,mQ,kr,mR,ku,mS,mT,mU,dP,dF,dQ,cI,fK,fL,bO,dz,dR,rN]
abbrev ck:Ck:=⟨(prog.filter λf=>f.io.isNone).map (·.name),[("FIRST_SENSE",(.int 1)),("LAST_SENSE",(.int 99)),("MOST_ROWS",(.int 60))],prog.filterMap λf=>f.io.map λp=>(f.name,p.1),["TooMany"],[("TooMany","PrimerError")]⟩
end K
namespace TM
open PySem L2 Ig
@[reducible]def Pr:=Str×Str
abbrev Ji(p:Pr):U:=.tup [.str p.1,.str p.2]
abbrev nm(a:Str)(i:Nat):Str:=a++f9++fZ (2+(i:Int))
def z9:∀i j:Nat,i<98->j<98->fZ (2+(i:Int))=fZ (2+(j:Int))->i=j:=by
 have h:∀i:_root_.Fin 98,∀j:_root_.Fin 98,(fZ (2+((i:Nat):Int))).cps.toList=(fZ (2+((j:Nat):Int))).cps.toList->i=j:=by decide +kernel
 intro i j a b e;have:=h ⟨i,a⟩ ⟨j,b⟩ (by rw[e]);show ġ _root_.Fin.val this
def E5(a:i<98)(b:j<98)(e:nm c i=nm c j):i=j:=by
 show z9 i j a b (fu ?_);have h:=ġ (λx:Str=>x.cps.toList) e;simp only[nm,jt]at h;show List.append_cancel_left h
abbrev cands(a:Str):List Str:=(js 98).map (nm a)
def rO(a:Str):(cands a).Nodup:=eI (λi b j c e=>E5 (wh.mp b) (wh.mp c) e) ZM
abbrev eM(a:Str)(L:List Str):Str:=((cands a).find? λx=>df (x∉L)).getD ""
def fk(a:Str)(h:L.length<98):(cands a).find? (λx=>df (x∉L))=bD (eM a L)/\eM a L∉L:=by
 cases e:(cands a).find? λx=>df (x∉L) with
 |none =>
  have c:∀x∈cands a,x∈L:=λx b=>by
   have:=List.find?_eq_none.mp e x b;simpa using this
  have:=jr (rO a) c;simp[cands]at this;lia
 |some x =>
  have b:=List.find?_some e;have:eM a L=x:=by unfold eM;rw[e];rfl
  rw[this];show⟨rfl,by simpa using b⟩
def t_(a:Str){L M:List Str}(h:∀x,x∈L↔x∈M):eM a L=eM a M:=by
 unfold eM;have:(λx=>df (x∉L))=λx=>df (x∉M):=by funext x;simp[h x]
 rw[this]
abbrev stemOf(w:Str):Str:=(q9 w f9).1
abbrev newName(mine theirs same:List Str)(acc:List Pr)(w:Str):Str:=if w∈mine/\w∉same then eM (stemOf w) (mine++theirs++acc.map (·.2)) else w
abbrev h_(mine theirs same:List Str):List Pr->List Str->List Pr
 |acc,[]=>acc
 |acc,w::ws=>h_ mine theirs same (acc++[(w,newName mine theirs same acc w)]) ws
structure rP(mine theirs:List Str)(acc:List Pr)(rest:List Str):Prop where
 all:acc.map (·.1)++rest=theirs
 own:∀p∈acc,p.2=p.1\/p.2∉mine++theirs
 once:(acc.map (·.2)).Nodup
def rP.step(h:rP mine theirs acc (w::ws))(d:theirs.Nodup)(hl:mine.length+theirs.length+acc.length<98):rP mine theirs (acc++[(w,newName mine theirs same acc w)]) ws:=by
 have f:w∈theirs:=by rw[<-h.all];simp
 have g:w∉acc.map (·.1):=λz=>by
  have:=d;rw[<-h.all,qs]at this;show this.2.2 w z w (by simp) rfl
 have c:=(fk (stemOf w) (L:=mine++theirs++acc.map (·.2)) (by simp;lia)).2;have i:newName mine theirs same acc w=w\/newName mine theirs same acc w∉mine++theirs:=by
  unfold newName;split
  .show .inr λz=>c (tj _ z)
  .show .inl rfl
 have j:newName mine theirs same acc w∉acc.map (·.2):=by
  unfold newName;split
  .show λz=>c (nC _ z)
  .intro z;have⟨p,hp,e⟩:=ez.mp z;rcases h.own p hp with q|q
   .show g (ez.mpr ⟨p,hp,by rw[<-q,e]⟩)
   .show q (by rw[e];show nC _ f)
 show⟨by rw[<-h.all];simp,λp hp=>?_,?_⟩
 .rcases gj.mp hp with hp|hp
  .show h.own p hp
  .rw[mN.mp hp];show i
 .rw[mu,qs];show⟨h.once,by simp,λa k b l e=>?_⟩;have:b=newName mine theirs same acc w:=by simpa using l
  subst this;subst e;show j k
theorem vO(a:theirs.Nodup)(hl:mine.length+theirs.length+theirs.length<98):∀(ws:List Str) (acc:List Pr),rP mine theirs acc ws->rP mine theirs (h_ mine theirs same acc ws) []
 |[],acc,h=>h
 |w::ws,acc,h=>vO a hl ws _ (h.step a (by have:=ġ tA h.all;simp at this;lia))
def fm(h:aH w.cps.toList):(stemOf w).length<=8/\∃r,Nu w f9=stemOf w::r:=by
 have⟨y,r,a,b,c⟩:=xu h;unfold stemOf;rw[b];show⟨c,r,a⟩
def E6(h:a.length<=8)(b:i<98):(nm a i).length<=11:=by
 have:=dS (k:=2+(i:Int)) ⋯ ⋯;rw[nm,str_len,str_len];have:f9.length=1:=rfl;lia
end TM
namespace K
open PySem L2 TM Ig
section
def rQ(h:w.length<=1000):bB Γ gV [.str w]=bD (.ok (.loc,.str (stemOf w))):=by
 have hsz:(1000:Nat)<=c4:=by decide
 have a:jL .partition (.str w) [(.loc,.str "/")]=bD (.loc,.tup [.str (q9 w "/").1,.str (q9 w "/").2.1,.str (q9 w "/").2.2]):=by
  change(if (Rm "/"==0)=cc/\w.length<=c4 then _ else _)=_;rw[ĝ ⟨by decide,⋯⟩]
 show aE (st0:=[bD (.loc,.str w)]) rfl (.inr rfl) rfl (bV (a_ (ra (ae rfl) (aa aw ai) trivial a) aw trivial rfl) dI)
abbrev z_:List TM.S:=[.set 3 (.fst [.var 0,.cst (.str "/"),.var 2]),.ite (.cmp .HK (.var 3) (.var 1)) [.ret (.var 3)] []]
theorem oH(hs:a.length<=8)(d:∀st,br rs st):∀(is:List Nat) (o2 o3:Option (Kd×U)),(∀i∈is,i<98)->(is.map (nm a)).find? (λx=>df (x∉ks))=bD x ->
  ∃st',Run (forM cc [2] (execs Γ z_) rs (is.map λi:Nat=>(Kd.loc,U.int (2+(i:Int))))) [bD (.loc,.str a),bD (.any,.HM ks vs),o2,o3] (.rt .loc (.str x)) st'
 |[],_,_,_,h=>by simp at h
 |i::is,o2,o3,e,h=>by
  have m:=e i (by simp);let S:=λ(o3:Option (Kd×U))=>([bD (.loc,.str a),bD (.any,.HM ks vs),bD (.loc,.int (2+(i:Int))),o3]:ar)
  have s:=E6 hs m;have f:Run (ev Γ (.fst [.var 0,.cst (.str "/"),.var 2])) (S o3) (.loc,.str (nm a i)) (S o3):=by
   have n:ri++a=a:=empty_app a;have g:=vJ (y:=a) (out:=ri) ⋯ (by decide);rw[n]at g;have o:=vJ (y:="/") (out:=a) (by decide) ⋯;have p:=Ce (k:=2+(i:Int)) (out:=a++("/":Str)) ⋯ ⋯ (by rw[str_len];have:Rm "/"=1:=rfl;lia);show GP (tZ (ae rfl) g (tZ aw o (tZ (ae rfl) p GO)))
  have b:Run (H0 Γ (.cmp .HK (.var 3) (.var 1))) (S (bD (.loc,.str (nm a i)))) (!df (nm a i∈ks)) (S (bD (.loc,.str (nm a i)))):=bb (ae rfl) (aS rfl) trivial rfl;have l:Run (dc cc [2] (.loc,.int (2+(i:Int)))) [bD (.loc,.str a),bD (.any,.HM ks vs),o2,o3] () (S o3):=bM aC;rw[eF,Lo]at h;by_cases c:nm a i∈ks
  .rw[Ğ (λz=>z c)]at h;rw[Ġ c]at b;have⟨st',q⟩:=oH hs d is (bD (.loc,.int (2+(i:Int)))) (bD (.loc,.str (nm a i))) (λj r=>e j (by simp[r])) h;show⟨st',rg (d _) l (av f aC (cD b (λh=>by cases h) λ_=>aJ)) q⟩
  .rw[Ġ c]at h;rw[Ğ c]at b;cases h;show⟨_,HG (d _) l (av f aC (cD b (λ_=>bV (ae rfl) dI) λh=>by cases h))⟩
def Aa(hs:a.length<=8)(hk:ks.length<98):bB Γ eJ [.str a,.HM ks vs]=bD (.ok (.loc,.str (eM a ks))):=by
 have b:TM.start [.str a,.HM ks vs] 4=[bD (.loc,.str a),bD (.any,.HM ks vs),b7,b7]:=rfl;have⟨st',c⟩:=oH (Γ:=Γ) hs (ks:=ks) (vs:=vs) (rs:=[(.loc,.int (1+1)),(.loc,.int (99+1))]) (λ_=>trivial) (js 98) b7 b7 (λi d=>wh.mp d) (fk a hk).1;show aE rfl (.inr rfl) b (zx (CT (rs:=[(.loc,.int (1+1)),(.loc,.int (99+1))]) (aa (bj zr aw trivial dG) (aa (bj zr aw trivial dG) ai)) trivial rfl rfl c))
end
end K
namespace TM
open PySem L2 Ig
end TM
namespace K
open PySem L2 TM Ig
section
variable{Γ:Tab}{one other:List Row}{same:List Str}
theorem mV(hs:∀st,br src st):∀(ws:List Str) (ks:List Str) (vs:List U) (o6:Option (Kd×U)),ks.length+ws.length<1000 ->
  ∃a b c,(∀x,x∈a↔x∈ks\/x∈ws)/\a.length<=ks.length+ws.length/\Run (forM cc [6] (execs Γ [.put 5 (.var 6) (.cst (.bl cb))]) src (ws.map λx=>(Kd.loc,U.str x))) [o0,o1,o2,o3,o4,bD (.own,.HM ks vs),o6,o7,o8] .nx [o0,o1,o2,o3,o4,bD (.own,.HM a b),c,o7,o8]
 |[],ks,vs,o6,_=>⟨ks,vs,o6,by simp,by simp,rf (hs _)⟩
 |w::ws,ks,vs,o6,hl=>by
  rw[k9]at hl;have f:=rC (ks:=ks) (us:=vs) (x:=w) (u:=.bl cb);have⟨a,b,c,d,g,e⟩:=mV (o0:=o0) (o1:=o1) (o2:=o2) (o3:=o3) (o4:=o4) (o7:=o7) (o8:=o8) hs ws (dput ks vs w (.bl cb)).1 (dput ks vs w (.bl cb)).2 (bD (.loc,.str w)) ⋯;show⟨a,b,c,λx=>?_,by simp;lia,rg (hs _) (bM aC) (oz (st1:=[o0,o1,o2,o3,o4,bD (.own,.HM ks vs),bD (.loc,.str w),o7,o8]) (st2:=[o0,o1,o2,o3,o4,bD (.own,.HM ks vs),bD (.loc,.str w),o7,o8]) (st3:=[o0,o1,o2,o3,o4,bD (.own,.HM ks vs),bD (.loc,.str w),o7,o8]) (k:=.own) (k':=.own) aw rfl (ae rfl) (aN aI (aN aI aY)) rfl rfl (pZ ⋯) aJ) e⟩;rw[d,rB,d6,or_assoc]
abbrev Ab:List TM.S:=[.set 8 (.var 6),.ite (.and [.cmp .isin (.var 6) (.var 3),.cmp .HK (.var 6) (.var 2)]) [.set 8 (.call "free_name" [.call "stem_of" [.var 6],.var 5]),.put 5 (.var 8) (.cst (.bl cb))] [],.app 7 (.tup [.var 6,.var 8])]
theorem iJ(i:k2=.loc\/k2=.any)(m:∀x:Str,bF .HK (.str x) a=bD (df (x∉same)))
  (n:∀w:Str,aH w.cps.toList->Γ "stem_of" [.str w]=bD (.ok (.loc,.str (stemOf w)))) (o:∀(p:Str) (ks:List Str) (vs:List U),p.length<=8->ks.length<98->Γ "free_name" [.str p,.HM ks vs]=bD (.ok (.loc,.str (eM p ks))))
  (C:mine.length<=14) (D:theirs.length<=14) (s:∀x∈theirs,aH x.cps.toList):∀(ws:List Str) (acc:List Pr) (ks:List Str) (vs:List U) (o6 o8:Option (Kd×U)),(∀x,x∈ks↔x∈mine++theirs++acc.map (·.2))->ks.length<=28+acc.length->acc.map (·.1)++ws=theirs ->
  ∃b c d f,Run (forM cc [6] (execs Γ Ab) [(.bor 4,.lst (theirs.map .str))] (ws.map λx=>(Kd.loc,U.str x))) [o0,o1,bD (k2,a),bD (.own,.lst (mine.map .str)),bD (.own,.lst (theirs.map .str)),bD (.own,.HM ks vs),o6,bD (.own,.lst (acc.map Ji)),o8] .nx
   [o0,o1,bD (k2,a),bD (.own,.lst (mine.map .str)),bD (.own,.lst (theirs.map .str)),bD (.own,.HM b c),d,bD (.own,.lst ((h_ mine theirs same acc ws).map Ji)),f]
 |[],acc,ks,vs,o6,o8,_,_,_=>⟨ks,vs,o6,o8,rf ⟨⟨.own,rfl,rfl⟩,trivial⟩⟩
 |w::ws,acc,ks,vs,o6,o8,t,L,j=>by
  have hsz:(1000:Nat)<=c4:=by decide
  have G:w∈theirs:=by rw[<-j];simp
  have N:acc.length<14:=by have:=ġ tA j;simp at this;lia
  have H:=s w G;let S:=λ(ks:List Str) (vs:List U) (acc:List Pr) (o8:Option (Kd×U))=>([o0,o1,bD (k2,a),bD (.own,.lst (mine.map .str)),bD (.own,.lst (theirs.map .str)),bD (.own,.HM ks vs),bD (.loc,.str w),bD (.own,.lst (acc.map Ji)),o8]:ar)
  have I:Run (ev Γ (.var 2)) (S ks vs acc (bD (.loc,.str w))) (k2,a) (S ks vs acc (bD (.loc,.str w))):=by
   rcases i with rfl|rfl
   .show ae rfl
   .show aS rfl
  have J:∀st,br [(.loc,.str w),(k2,a)] st:=λst=>by rcases i with rfl|rfl<;>trivial
  have l:Run (H0 Γ (.and [.cmp .isin (.var 6) (.var 3),.cmp .HK (.var 6) (.var 2)])) (S ks vs acc (bD (.loc,.str w))) (df (w∈mine)&&df (w∉same)) (S ks vs acc (bD (.loc,.str w))) :=
   il (jR (bb (ae rfl) (ao rfl) ⟨⟨.own,rfl,rfl⟩,trivial⟩ jw) λ_=>cZ (bb (ae rfl) I (J _) (m w)))
  have app:∀(ks:List Str) (vs:List U) (x:Str),Run (execs Γ [.app 7 (.tup [.var 6,.var 8])]) (S ks vs acc (bD (.loc,.str x))) .nx (S ks vs (acc++[(w,x)]) (bD (.loc,.str x))):=λks vs x=>by
   have e:(acc++[(w,x)]).map Ji=acc.map Ji++[Ji (w,x)]:=by simp
   change Run _ _ _ [o0,o1,bD (k2,a),bD (.own,.lst (mine.map .str)),bD (.own,.lst (theirs.map .str)),bD (.own,.HM ks vs),bD (.loc,.str w),bD (.own,.lst ((acc++[(w,x)]).map Ji)),bD (.loc,.str x)];rw[e];show ff (k:=.own) (k':=.own) (r:=(.loc,Ji (w,x))) rfl (jm (aa (ae rfl) (aa (ae rfl) ai)) trivial (aN aI (aN aI aY)) (by change 2<=c4;lia)) aI rfl rfl (by rw[cK];lia) aJ
  by_cases g:w∈mine/\w∉same
  .have v:(df (w∈mine)&&df (w∉same))=cb:=by simp[g.1,g.2]
   rw[v]at l;have hs:=(fm H).1;have y:=o (stemOf w) ks vs hs ⋯;rw[t_ (stemOf w) t]at y;have A:newName mine theirs same acc w=eM (stemOf w) (mine++theirs++acc.map (·.2)):=by unfold newName;rw[ĝ g]
   rw[<-A]at y;let x:=newName mine theirs same acc w;have⟨b,c,d,f,B⟩:=iJ (o0:=o0) (o1:=o1) i m n o C D s ws (acc++[(w,x)]) (dput ks vs x (.bl cb)).1 (dput ks vs x (.bl cb)).2 (bD (.loc,.str w)) (bD (.loc,.str x)) (λz=>by
    rw[rB,t];simp[or_assoc]) (by have:=rC (ks:=ks) (us:=vs) (x:=x) (u:=.bl cb);simp;lia) (by rw[<-j];simp)
   show⟨b,c,d,f,rg ⟨⟨.own,rfl,rfl⟩,trivial⟩ (bM aC) (av (r:=(.loc,.str w)) (ae rfl) aC (cD l (λ_=>?_) λh=>by cases h)) B⟩;show av (r:=(.loc,.str x)) (aF (aa (aF (aa (ae rfl) ai) trivial (n w H)) (aa (ao rfl) ai)) ⟨⟨.own,rfl,rfl⟩,trivial⟩ y) aC
    (oz (st1:=S ks vs acc (bD (.loc,.str x))) (st2:=S ks vs acc (bD (.loc,.str x))) (st3:=S ks vs acc (bD (.loc,.str x))) (k:=.own) (k':=.own) aw rfl (ae rfl) (aN aI (aN aI aY)) rfl rfl (pZ ⋯) (app _ _ x))
  .have v:(df (w∈mine)&&df (w∉same))=cc:=by
    rw[Ss];intro z;simp only[cL,Ĝ]at z;show g z
   rw[v]at l;have A:newName mine theirs same acc w=w:=by unfold newName;rw[ğ g]
   have⟨b,c,d,f,B⟩:=iJ (o0:=o0) (o1:=o1) i m n o C D s ws (acc++[(w,w)]) ks vs (bD (.loc,.str w)) (bD (.loc,.str w)) (λz=>by
    rw[t];simp only[mu,eF,Jc,gj,mN];show⟨λq=>q.elim .inl λq=>.inr (.inl q),λq=>q.elim .inl λq=>q.elim .inr λe=>.inl (.inr (e▸G))⟩) (by simp;lia) (by rw[<-j];simp)
   show⟨b,c,d,f,rg ⟨⟨.own,rfl,rfl⟩,trivial⟩ (bM aC) (av (r:=(.loc,.str w)) (ae rfl) aC (cD l (λh=>by cases h) λ_=>app ks vs w)) ?_⟩;rw[h_,A];show B
def fM{ss:List Str}(hk:kE k=.loc):Kg .seq [(k,.lst (ss.map .str))]=bD (ss.map λx=>(Kd.loc,U.str x)):=by
 change bD ((ss.map U.str).map λu=>(kE k,u))=_;rw[hQ,hk];rfl
def nB(e:(if Ii a=cb then Kd.loc else Kd.any)=k2)(i:∀x:Str,bF .HK (.str x) a=bD (df (x∉same)))
  (f:∀rows,rows=one\/rows=other->Γ "words_of" [.tup (rows.map A')]=bD (.ok (.own,.lst ((aj rows).map .str))))
  (j:∀w:Str,aH w.cps.toList->Γ "stem_of" [.str w]=bD (.ok (.loc,.str (stemOf w)))) (k:∀(d:Str) (ks:List Str) (vs:List U),d.length<=8->ks.length<98->Γ "free_name" [.str d,.HM ks vs]=bD (.ok (.loc,.str (eM d ks))))
  (g:(aj one).length<=14) (h:(aj other).length<=14) (l:∀x∈aj other,aH x.cps.toList) :
  bB Γ eL [.tup (one.map A'),.tup (other.map A'),a]=bD (.ok (.own,.lst ((h_ (aj one) (aj other) same [] (aj other)).map Ji))):=by
 have hsz:(1000:Nat)<=c4:=by decide
 have m:k2=.loc\/k2=.any:=by rw[<-e];split<;>simp
 let mine:=aj one;let theirs:=aj other;have t:mine.length<=14:=g;have u:theirs.length<=14:=h;let b:Option (Kd×U):=bD (.loc,.tup (one.map A'));let c:Option (Kd×U):=bD (.loc,.tup (other.map A'));have n:TM.start [.tup (one.map A'),.tup (other.map A'),a] 9=[b,c,bD (k2,a),b7,b7,b7,b7,b7,b7]:=by simp[TM.start,Ii,aZ,e,b,c]
 let m3:Option (Kd×U):=bD (.own,.lst (mine.map .str));let m4:Option (Kd×U):=bD (.own,.lst (theirs.map .str));have⟨ks,vs,o6,o,p,q⟩:=mV (Γ:=Γ) (o0:=b) (o1:=c) (o2:=bD (k2,a)) (o3:=m3) (o4:=m4) (o7:=b7) (o8:=b7) (src:=[(.own,.lst ((mine++theirs).map .str))]) (λ_=>trivial) (mine++theirs) [] [] b7 (by simp;lia);have Kr:ks.length<=28:=by simp at p;lia
 have⟨v,y,z,A,s⟩:=iJ (Γ:=Γ) (mine:=mine) (theirs:=theirs) (same:=same) (o0:=b) (o1:=c) m i j k g h l theirs [] ks vs o6 b7 (λx=>by rw[o];simp) (by simpa using Kr) rfl;have ad:JD .add (.bor 3,.lst (mine.map .str)) (.bor 4,.lst (theirs.map .str))=bD (.own,.lst ((mine++theirs).map .str)):=by
  rw[mu];show gI (by simp;lia) rfl rfl
 show aE rfl (.inl rfl) n (av (r:=(.own,.lst (mine.map .str))) (aF (aa (ae rfl) ai) trivial (f one (.inl rfl))) aO (av (r:=(.own,.lst (theirs.map .str))) (aF (aa (ae rfl) ai) trivial (f other (.inr rfl))) aO
  (av (r:=(.own,.HM [] [])) mz aO (cH (rs:=[(.own,.lst ((mine++theirs).map .str))]) (aa (bj (ao rfl) (ao rfl) ⟨⟨.own,rfl,rfl⟩,⟨.own,rfl,rfl⟩,trivial⟩ ad) ai) trivial (fM rfl) rfl q
   (av (r:=(.own,.lst [])) (cS ai trivial aY (mA _)) aO (cH (rs:=[(.bor 4,.lst (theirs.map .str))]) (aa (ao rfl) ai) ⟨⟨.own,rfl,rfl⟩,trivial⟩ (fM rfl) rfl s (bV (ao rfl) (kl rfl))))))))
end
end K
namespace TM
open PySem L2 Ig
section
def GX(h:Run (ev Γ e) st x st1):Run (execs Γ (.LM c e::ss)) st (.rt .io (.str c)) st1:=af (af h aW) aW
def Ac(a:us.length=fn.np)(hs:start us fn.ns=st0)(h:Run (execs Γ fn.body) st0 (.rt .io (.str c)) st):bB Γ fn us=bD (.exc c):=by
 subst hs;unfold bB;rw[ĝ a,show execs Γ fn.body (start us fn.ns)=_ from h]
def GY(d:Run (bL Γ es) st rs st)(e:br rs st)(g:Γ f (rs.map (·.2))=bD (.exc c))(h:st[j]?=bD b7)(k:i≠j)(l:Run (execs Γ ss) (st.set i (bD (.loc,.bl cb))) m st2):Run (execs Γ (.Mw i f es x c j::ss)) st m st2:=by
 have a:Run (nY Γ f (rs.map (·.2)) c) st b7 st:=by
  change nY Γ f _ c st=_;unfold nY;rw[g];show ĝ rfl
 have b:Run (nv i j b7) st .nx (st.set i (bD (.loc,.bl cb))):=by
  change nv i j b7 st=_;unfold nv
  dsimp only
  rw[h];show ĝ k
 show af (af d (af (bf e) (af a b))) l
end
abbrev bN:List Pr->Str->Str
 |[],x=>x
 |p::ps,x=>if p.1=x then p.2 else bN ps x
theorem rR:∀{ps:List Pr},x∈ps.map (·.1)->da (ps.map (·.1)) (ps.map λp=>U.str p.2) x=bD (.str (bN ps x))
 |[],h=>by cases h
 |p::ps,h=>by
  simp only[eF,da,bN];by_cases e:p.1=x
  .rw[ĝ e,ĝ e]
  .rw[ğ e,ğ e];show rR (by simpa[uv e] using h)
abbrev cu(ps:List Pr)(r:Row):Row:=(bN ps r.1,r.2.map (bN ps))
abbrev Jz(r s:Row):Bool:=df (keyOf r=keyOf s)
abbrev ia(rows:List Row)(r:Row):List Row:=if (rows.any λs=>Jz s r)=cb then rows else rows++[r]
abbrev bC:List Row->List Row->List Row
 |rows,[]=>rows
 |rows,r::rs=>bC (ia rows r) rs
def rS(rows:List Row)(r:Row):∀(d:List Row),bC rows (d++[r])=ia (bC rows d) r:=λd=>by
 induction d generalizing rows with
 |nil=>rfl
 |cons x d a=>show a _
def Ad(h:x∈ia rows r):x∈rows\/x=r:=by
 unfold ia at h;split at h
 .show .inl h
 .simpa using h
def Ae(rows:List Row)(r:Row):(ia rows r).length<=rows.length+1:=by
 unfold ia;split<;>simp
theorem fN:∀{d rows:List Row},x∈bC rows d->x∈rows\/x∈d
 |[],rows,h=>.inl h
 |r::d,rows,h=>by
  rcases fN (d:=d) h with z|z
  .rcases Ad z with z|z
   .show .inl z
   .show .inr (by simp[z])
  .show .inr (by simp[z])
theorem fO:∀(d rows:List Row),(bC rows d).length<=rows.length+d.length
 |[],rows=>by simp[bC]
 |r::d,rows=>by
  have a:=fO d (ia rows r);have b:=Ae rows r;simp only[bC,k9];lia
def vP(bs:List Bool):Jh .any [(k,.lst (bs.map .bl))]=bD (.loc,.bl (bs.any id)):=by
 change(gu (bs.map U.bl)).map _=_;have:∀bs:List Bool,gu (bs.map U.bl)=bD bs:=λbs=>by
  induction bs with
  |nil=>rfl
  |cons b bs a=>change(gu (bs.map U.bl)).map _=_;rw[a];rfl
 rw[this];rfl
def vQ{ps:List Pr}(h:(ps.map (·.1)).Nodup):Jh .dict [(k,.lst (ps.map Ji))]=bD (.own,.HM (ps.map (·.1)) (ps.map λp=>.str p.2)):=by
 have e:∀ps:List Pr,lP (ps.map Ji)=bD (ps.map λp=>(p.1,U.str p.2)):=λps=>by
  induction ps with
  |nil=>rfl
  |cons p ps a =>
   change(if Oj (U.str p.2)=cb then(lP (ps.map Ji)).map ((p.1,U.str p.2)::·) else b7)=_;rw[ĝ (show Oj (U.str p.2)=cb from rfl),a];rfl
 change(lP (ps.map Ji)).bind _=_;rw[e];change(if ((ps.map λp=>(p.1,U.str p.2)).map (·.1)).Nodup then bD (Kd.own,U.HM ((ps.map λp=>(p.1,U.str p.2)).map (·.1)) ((ps.map λp=>(p.1,U.str p.2)).map (·.2))) else b7)=_;have b:(ps.map λp=>(p.1,U.str p.2)).map (·.1)=ps.map (·.1):=by rw[hQ];rfl
 rw[b,ĝ h,hQ];rfl
def jy(h:x∈ps.map (·.1)):g_ (k,.HM (ps.map (·.1)) (ps.map λp=>.str p.2)) (.str x)=bD (kE k,.str (bN ps x)):=by
 change(da _ _ x).map _=_;rw[rR h];rfl
def jz{rows:List Row}(t:Bool):Kg .seq [(k,if t=cb then .tup (rows.map A') else .lst (rows.map A'))]=bD (rows.map λr=>(kE k,A' r)):=by
 cases t<;>(change bD ((rows.map A').map _)=_;rw[hQ];rfl)
end TM
namespace K
open PySem L2 TM Ig
section
def jY(h:r.2.length<64):bB Γ cA [A' r]=bD (.ok (.loc,A' (keyOf r))):=by
 have a:=sorted_strs (k:=.loc) (ss:=r.2) h;have b:g_ (.loc,A' r) (.int 0)=bD (.loc,.str r.1):=rfl;have c:g_ (.loc,A' r) (.int 1)=bD (.loc,.tup (r.2.map .str)):=rfl;apply aE (st0:=[bD (.loc,A' r)]) rfl (.inr rfl) (by simp[TM.start,kQ,cA])
 repeat' (first|show b|show c|show a|show(by decide:(2:Nat)<=c4)|sizeOf_list_dec)
def xD(a:∀r:Row,r.2.length<64->Γ "in_one_order" [A' r]=bD (.ok (.loc,A' (keyOf r))))(h:r.2.length<64)(b:s.2.length<64):bB Γ jx [A' r,A' s]=bD (.ok (.loc,.bl (Jz r s))):=by
 apply aE (st0:=[bD (.loc,A' r),bD (.loc,A' s)]) rfl (.inr rfl) (by simp[TM.start,kQ,jx])
 repeat' (first|show a r h|show a s b|show Cb (op:=cb)|sizeOf_list_dec)
def rT(g:r.2.length<=8)(b:r.1∈ps.map (·.1))(c:∀x∈r.2,x∈ps.map (·.1)):bB Γ gW [A' r,.HM (ps.map (·.1)) (ps.map λp=>.str p.2)]=bD (.ok (.loc,A' (cu ps r))):=by
 have hsz:(1000:Nat)<=c4:=by decide
 let S:ar:=[bD (.loc,A' r),bD (.any,.HM (ps.map (·.1)) (ps.map λp=>.str p.2))]
 have d:TM.start [A' r,.HM (ps.map (·.1)) (ps.map λp=>.str p.2)] 2=S:=by simp[TM.start,kQ,Ii,S]
 have a:=c7 (cond:=aR Γ []) (elt:=ev Γ (.idx (.var 2) (.var 0))) (src:=[(.loc,.tup (r.2.map .str))]) (st:=S) trivial .loc (.inl rfl) U.str (λx=>.str (bN ps x)) .any (λ_=>ei) r.2 [] (by simp;lia)
  (λx a=>⟨a_ (aS rfl) (ae rfl) trivial (jy (c x a)),jn rfl⟩)
 rw[lb]at a;have f:Run (ev Γ (.comp 1 cc .seq [.idx (.var 0) (.cst (.int 1))] [] (.idx (.var 2) (.var 0)))) S (.own,.lst (r.2.map λx=>.str (bN ps x))) S :=
  bW (rs:=[(.loc,.tup (r.2.map .str))]) (aa (a_ (x:=(.loc,A' r)) (ae rfl) aw trivial rfl) ai) trivial (by change bD _=_;rw[hQ];rfl) a
 have e:A' (cu ps r)=.tup [.str (bN ps r.1),.tup (r.2.map λx=>.str (bN ps x))]:=by simp[A',cu,hQ,YS]
 rw[e];show aE rfl (.inr rfl) d (bV (jm (aa (a_ (aS rfl) (a_ (x:=(.loc,A' r)) (ae rfl) aw trivial rfl) trivial (jy b)) (aa (bZ (aa f ai) trivial rfl) ai)) trivial (aN (jn rfl) (aN aI aY)) (by change 2<=c4;lia)) dI)
def Cp(h:r.2.length<=8):(cu ps r).2.length<=8:=by simpa[cu] using h
def HI{one:List Row}(a:∀r∈one,r.2.length<=n)(b:∀r∈d,r.2.length<=n):∀r∈bC one d,r.2.length<=n:=λr c=>(fN c).elim (a r) (b r)
def Af{one a:List Row}{same:List Str}(w:Γ "new_names" [.tup (one.map A'),.tup (a.map A'),.lst (same.map .str)]=bD (.ok (.own,.lst (ps.map Ji))))(z:(ps.map (·.1)).Nodup)
  (A:∀r:Row,r.2.length<=8->r.1∈ps.map (·.1)->(∀x∈r.2,x∈ps.map (·.1))->Γ "renamed" [A' r,.HM (ps.map (·.1)) (ps.map λp=>.str p.2)]=bD (.ok (.loc,A' (cu ps r))))
  (B:∀r s:Row,r.2.length<64->s.2.length<64->Γ "alike" [A' r,A' s]=bD (.ok (.loc,.bl (Jz r s))))
  (C:∀r∈one,r.2.length<=8) (m:∀r∈a,r.2.length<=8) (hk:∀r∈a,r.1∈ps.map (·.1)/\∀x∈r.2,x∈ps.map (·.1)) (hl:one.length+a.length<=100) :
  bB Γ mP [.tup (one.map A'),.tup (a.map A'),.lst (same.map .str)]=if 60<(bC one (a.map (cu ps))).length then bD (.exc "TooMany") else bD (.ok (.loc,.tup ((bC one (a.map (cu ps))).map A'))):=by
 have hsz:(1000:Nat)<=c4:=by decide
 let D:U:=.HM (ps.map (·.1)) (ps.map λp=>.str p.2);let S:=λ(us:List U) (o5 o6:Option (Kd×U))=>([bD (.loc,.tup (one.map A')),bD (.loc,.tup (a.map A')),bD (.any,.lst (same.map .str)),bD (.own,D),bD (.own,.lst us),o5,o6]:ar)
 have q:TM.start [.tup (one.map A'),.tup (a.map A'),.lst (same.map .str)] 7=[bD (.loc,.tup (one.map A')),bD (.loc,.tup (a.map A')),bD (.any,.lst (same.map .str)),b7,b7,b7,b7]:=by simp[TM.start,Ii,aZ]
 obtain⟨st',u,_,o5,o6,e⟩:=cM (t:=cc) (is:=[5]) (body:=execs Γ [.set 6 (.call "renamed" [.var 5,.var 3]),.ite (.not (.bi .any [.comp 1 cc .seq [.var 4] [] (.call "alike" [.var 0,.var 7])])) [.app 4 (.var 6)] []]) (rs:=[(.loc,.tup (a.map A'))]) (λr:Row=>(Kd.loc,A' r))
  (λd r st=>d++r=a/\∃o5 o6,st=S ((bC one (d.map (cu ps))).map A') o5 o6) (λ_ _ _ _=>trivial) (λd y r st G=>by
   have⟨i,o5,o6,e⟩:=G;subst e;have n:y∈a:=by rw[<-i];simp
   have⟨k1,k2⟩:=hk y n;have Y:d.length<a.length:=by have:=ġ tA i;simp at this;lia
   let R:=bC one (d.map (cu ps));have H:∀s∈R,s.2.length<=8:=HI C λs hs=>by
    have⟨t,I,rfl⟩:=ez.mp hs;show Cp (m t (by rw[<-i];simp[I]))
   have J:R.length<=100:=by
    have:=fO (d.map (cu ps)) one;rw[cK]at this;change(bC one (d.map (cu ps))).length<=100;lia
   let b:=cu ps y;have QN:b.2.length<=8:=Cp (m y n);let c:Option (Kd×U):=bD (.loc,A' y);let g:Option (Kd×U):=bD (.loc,A' b);have L:Run (ev Γ (.call "renamed" [.var 5,.var 3])) (S (R.map A') c o6) (.loc,A' b) (S (R.map A') c o6):=aF (aa (ae rfl) (aa (ao rfl) ai)) ⟨⟨.own,rfl,rfl⟩,trivial⟩ (A y (m y n) k1 k2);have v:=c7 (cond:=aR Γ []) (elt:=ev Γ (.call "alike" [.var 0,.var 7])) (src:=[(.bor 4,.lst (R.map A'))]) (st:=S (R.map A') c g) ⟨⟨.own,rfl,rfl⟩,trivial⟩ .loc (.inl rfl) A' (λs=>.bl (Jz s b)) .loc (λ_=>ei) R [] (by simp;lia)
    (λs hs=>⟨aF (aa (ae rfl) (aa (ae rfl) ai)) trivial (B s b (by have:=H s hs;lia) ⋯),aI⟩)
   rw[lb]at v;have N:=bW (Γ:=Γ) (k:=1) (t:=cc) (ik:=.seq) (src:=[.var 4]) (st:=S (R.map A') c g) (st1:=S (R.map A') c g) (rs:=[(.bor 4,.lst (R.map A'))]) (aa (ao rfl) ai) ⟨⟨.own,rfl,rfl⟩,trivial⟩ (jz (k:=.bor 4) (rows:=R) cc) v;have O:Jh .any [(.own,.lst (R.map λs=>U.bl (Jz s b)))]=bD (.loc,.bl (R.any λs=>Jz s b)):=by
    have:=vP (k:=.own) (R.map λs=>Jz s b);rw[hQ,ä]at this;show this
   have Q:Run (H0 Γ (.not (.bi .any [.comp 1 cc .seq [.var 4] [] (.call "alike" [.var 0,.var 7])]))) (S (R.map A') c g) (!R.any λs=>Jz s b) (S (R.map A') c g):=zu (tX (bZ (aa N ai) trivial O));have T:(bC one ((d++[y]).map (cu ps)))=ia R b:=by rw[mu];show rS _ _ _
   show⟨S (R.map A') c o6,S ((ia R b).map A') c g,bM aC,av L aC (cD Q (λh=>?_) λh=>?_),by rw[<-i];simp,c,g,by rw[T]⟩
   .have o:¬(R.any λs=>Jz s b)=cb:=by simpa using h
    rw[ia,ğ o,mu];show ff (k:=.own) (k':=.own) (r:=(.loc,A' b)) (us:=R.map A') rfl (ae rfl) aI rfl rfl (by rw[cK];lia) aJ
   .have o:(R.any λs=>Jz s b)=cb:=by simpa using h
    rw[ia,ĝ o];show aJ) a [] (S (one.map A') b7 b7) ⟨rfl,b7,b7,rfl⟩
 subst e;rw[lb]at u;let R:=bC one (a.map (cu ps));have J:R.length<=100:=by
  have:=fO (a.map (cu ps)) one;rw[cK]at this;change(bC one (a.map (cu ps))).length<=100;lia
 have j:Run (H0 Γ (.cmp .gt (.bi .len [.var 4]) (.L_ "MOST_ROWS" (.int 60)))) (S (R.map A') o5 o6) (df (60<R.length)) (S (R.map A') o5 o6):=by
  show bb (bZ (aa (ao rfl) ai) ⟨⟨.own,rfl,rfl⟩,trivial⟩ rfl) zr trivial ?_;change bD (df ((60:Int)<((R.map A').length:Nat)))=_;rw[cK];congr 1
  rw[Iy];simp;lia
 have all:∀{f:Fl} {st2:ar},Run (execs Γ [.ite (.cmp .gt (.bi .len [.var 4]) (.L_ "MOST_ROWS" (.int 60))) [.LM "TooMany" (.cst (.str "the books have too many rows together"))] [],.ret (.bi .tuple [.var 4])]) (S (R.map A') o5 o6) f st2->Run (execs Γ mP.body) [bD (.loc,.tup (one.map A')),bD (.loc,.tup (a.map A')),bD (.any,.lst (same.map .str)),b7,b7,b7,b7] f st2:=λh =>
  av (r:=(.own,D)) (bZ (aa (aF (aa (ae rfl) (aa (ae rfl) (aa (aS rfl) ai))) trivial w) ai) trivial (vQ z)) aO
  (av (r:=(.own,.lst (one.map A'))) (bZ (aa (ae rfl) ai) trivial rfl) aO
   (cH (rs:=[(.loc,.tup (a.map A'))]) (aa (ae rfl) ai) trivial (jz (k:=.loc) (rows:=a) cb) rfl u h))
 by_cases l:60<R.length
 .rw[ĝ l];rw[Ġ l]at j;show Ac rfl q (all (tN j (GX aw)))
 .rw[ğ l];rw[Ğ l]at j;show aE rfl (.inr rfl) q (all (cD j (λh=>by cases h) λ_=>bV (bZ (aa (ao rfl) ai) ⟨⟨.own,rfl,rfl⟩,trivial⟩ rfl) dI))
end
end K
namespace TM
open PySem L2 Ig
theorem mW:∀{ps:List Pr}{x:Str},x∈ps.map (·.1)->(x,bN ps x)∈ps
 |[],_,h=>by cases h
 |p::ps,x,h=>by
  by_cases e:p.1=x
  .subst e;simp[bN]
  .simp only[bN,ğ e];show kj _ (mW (by simpa[uv e] using h))
theorem vR:∀{ps:List Pr},(ps.map (·.2)).Nodup->∀p∈ps,∀q∈ps,p.2=q.2->p=q
 |[],_,p,b,_,_,_=>by cases b
 |a::ps,h,p,b,q,d,e=>by
  rw[eF,nc]at h;rcases d6.mp b with f|h1
  .rcases d6.mp d with c|h2
   .rw[f,c]
   .show absurd (ez.mpr ⟨q,h2,by rw[<-e,f]⟩) h.1
  .rcases d6.mp d with c|h2
   .show absurd (ez.mpr ⟨p,h1,by rw[e,c]⟩) h.1
   .show vR h.2 p h1 q h2 e
section
abbrev TB(mine theirs same:List Str)(p:Pr):Prop:=(p.1∈mine/\p.1∉same->p.2∉mine++theirs)/\(¬(p.1∈mine/\p.1∉same)->p.2=p.1)
theorem rU:∀(ws:List Str) (acc:List Pr),(∀p∈acc,TB mine theirs same p)->mine.length+theirs.length+acc.length+ws.length<98->∀p∈h_ mine theirs same acc ws,TB mine theirs same p
 |[],acc,h,_=>h
 |w::ws,acc,h,hl=>by
  rw[k9]at hl;show rU ws _ (λp hp=>?_) (by rw[gs];change _+(acc.length+1)+_<98;lia);rcases gj.mp hp with hp|hp
  .show h p hp
  .rw[mN.mp hp];unfold TB newName;show⟨λc=>?_,λc=>ğ c⟩;change(if _ then _ else _)∉_;rw[ĝ c];show λz=>(fk (stemOf w) (L:=mine++theirs++acc.map (·.2)) (by simp;lia)).2 (tj _ z)
structure xE(mine theirs same:List Str)(f:Str->Str):Prop where
 fresh:∀w∈theirs,w∈mine->w∉same->f w∉mine
 jA:∀w∈theirs,w∉mine->f w=w
 inj:∀x∈theirs,∀y∈theirs,f x=f y->x=y
def GZ(b:theirs.Nodup)(i:mine.length<=14)(j:theirs.length<=14):(h_ mine theirs same [] theirs).map (·.1)=theirs/\xE mine theirs same (bN (h_ mine theirs same [] theirs)):=by
 have A:=vO (mine:=mine) (theirs:=theirs) (same:=same) b ⋯ theirs [] ⟨rfl,by simp,by simp⟩;have B:=rU (mine:=mine) (theirs:=theirs) (same:=same) theirs [] (by simp) (by simp;lia);have e:(h_ mine theirs same [] theirs).map (·.1)=theirs:=by simpa using A.all
 have m:∀w∈theirs,(w,bN (h_ mine theirs same [] theirs) w)∈h_ mine theirs same [] theirs:=λw a=>mW (by rw[e];show a);show⟨e,λw a c d z=>(B _ (m w a)).1 ⟨c,d⟩ (tj _ z),λw a h=>(B _ (m w a)).2 λz=>h z.1,λx f y g q=>ġ (·.1) (vR A.once _ (m x f) _ (m y g) q)⟩
end
def Ag(h:x∈rows):x∈ia rows r:=by
 unfold ia;split
 .show h
 .show tj _ h
theorem iK:∀{d rows:List Row},x∈rows->x∈bC rows d
 |[],_,h=>h
 |_::d,_,h=>iK (d:=d) (Ag h)
theorem mX:∀{d rows:List Row},r∈d->∃s∈bC rows d,keyOf s=keyOf r
 |s::d,rows,h=>by
  rcases d6.mp h with rfl|h
  .have:∃s∈ia rows r,keyOf s=keyOf r:=by
    unfold ia;split
    .rename_i q;have⟨s,a,b⟩:=Rg.mp q;show⟨s,a,by simpa[Jz] using b⟩
    .show⟨r,by simp,rfl⟩
   have⟨s,a,b⟩:=this;show⟨s,iK (d:=d) a,b⟩
  .show mX (d:=d) h
def Cq(h:keyOf s=keyOf r):s.1=r.1/\∀x,x∈s.2↔x∈r.2:=by
 unfold keyOf at h;injection h with a b
 show⟨a,λx=>by rw[<-(aX s.2).mem_iff,b,(aX r.2).mem_iff]⟩
end TM
namespace KL
open PySem L2 TM Ig Od
section
def Kn.words(a:Kn rows K):∀x∈K,x∈aj rows:=a.sn (·∈aj rows) λr h _=>dr.mpr (eD.mpr ⟨r,h,.inl rfl⟩)
end
end KL
namespace K
open PySem L2 TM Ig Od KL
def XF:U5 prog:=⟨rfl,rfl,rfl,rfl,rfl⟩
section
variable{one other:List Row}{same names names2:List Str}
abbrev IS(one other:List Row)(same:List Str):List Pr:=h_ (aj one) (aj other) same [] (aj other)
abbrev b_(one other:List Row)(same:List Str):List Row:=bC one (other.map (cu (IS one other same)))
def ua(other:List Row):∀r∈other,r.1∈aj other/\∀x∈r.2,x∈aj other:=λr a=>⟨dr.mpr (eD.mpr ⟨r,a,.inl rfl⟩),λx b=>dr.mpr (eD.mpr ⟨r,a,.inr b⟩)⟩
def Ah(n:Nat)(hl:one.length<=60)(g:other.length<=60)(h:names.length<=14)(i:names2.length<=14)(b:∀r∈one,cz names r)(a:∀r∈other,cz names2 r)(c:∀x∈names2,aH x.cps.toList):Io prog (n+2) "new_names" [.tup (one.map A'),.tup (other.map A'),.lst (same.map .str)]=bD (.ok (.own,.lst ((IS one other same).map Ji))):=by
 have j:=du b;have k:=du a;show(aB (show IA prog "new_names" eL from rfl) _).trans (nB rfl (λx=>fj) (λrows d=>?_) (λw e=>(aB (show IA prog "stem_of" gV from rfl) _).trans (rQ (by rw[len_list];have:=e.len.2;lia))) (λl ks vs b a=>(aB (show IA prog "free_name" eJ from rfl) _).trans (Aa b a)) ⋯ ⋯ λx f=>c x (c8 a x (dr.mp f)));rcases d with rfl|rfl
 .show(aB (show IA prog "words_of" pY from rfl) _).trans (ju ⋯ b ⋯)
 .show(aB (show IA prog "words_of" pY from rfl) _).trans (ju ⋯ a ⋯)
def Ai(n:Nat)(hl:one.length<=50)(Kr:other.length<=50)(e:names.length<=14)(f:names2.length<=14)(a:∀r∈one,cz names r)(b:∀r∈other,cz names2 r)(g:∀x∈names2,aH x.cps.toList):Io prog (n+3) "laid" [.tup (one.map A'),.tup (other.map A'),.lst (same.map .str)]=if 60<(b_ one other same).length then bD (.exc "TooMany") else bD (.ok (.loc,.tup ((b_ one other same).map A'))):=by
 have j:=du a;have k:=du b;have d:=(GZ (mine:=aj one) (same:=same) (dO other) ⋯ ⋯).1;show(aB (show IA prog "laid" mP from rfl) _).trans (Af (ps:=IS one other same) (Ah n ⋯ ⋯ e f a b g) (by unfold IS;rw[d];show dO other)
  (λr a b i=>(aB (show IA prog "renamed" gW from rfl) _).trans (rT a b i)) (λr s a b=>(aB (show IA prog "alike" jx from rfl) _).trans (xD (λr h=>(aB (show IA prog "in_one_order" cA from rfl) _).trans (jY h)) a b)) (λr c=>(a r c).JV) (λr c=>(b r c).JV) (by unfold IS;rw[d];show ua other) ⋯)
variable{K1 K2 Kb:List Str}
def Aj(k1:Kn one K1)(a:Kn (b_ one other same) Kb):∀x∈K1,x∈Kb:=k1.sn (·∈Kb) λr h q=>a.cl r (iK h) q
def ub(k2:Kn other K2)(a:Kn (b_ one other same) Kb):∀x∈K2,bN (IS one other same) x∈Kb:=k2.sn (bN (IS one other same) ·∈Kb) λr h q=>by
 have⟨s,hs,e⟩:=mX (rows:=one) (ez.mpr ⟨r,h,rfl⟩:cu (IS one other same) r∈other.map (cu (IS one other same)));have⟨b,c⟩:=Cq e;have:=a.cl s hs λy d=>by
  have⟨x,f,rfl⟩:=ez.mp ((c y).mp d);show q x f
 rw[b]at this;show this
def xF(N:xE (aj one) (aj other) same (bN (IS one other same)))(hs:∀w∈same,w∈aj one->w∉aj other)(k1:Kn one K1)(k2:Kn other K2)(i:Kn (b_ one other same) Kb):∀x∈Kb,x∈K1\/x∈K2.map (bN (IS one other same)):=by
 have b:∀w∈aj other,bN (IS one other same) w∉aj one:=λw a=>by
  by_cases h:w∈aj one
  .show N.fresh w a h λz=>hs w z h a
  .rw[N.jA w a h];show h
 show i.sn (λx=>x∈K1\/x∈K2.map (bN (IS one other same))) λr j q=>?_;rcases fN j with h|h
 .show .inl (k1.cl r h λx c=>(q x c).resolve_right λz=>?_);have⟨w,a,e⟩:=ez.mp z;show b w (k2.words w a) (by rw[e];show(ua one r h).2 x c)
 .have⟨t,d,rfl⟩:=ez.mp h;show .inr (ez.mpr ⟨t.1,k2.cl t d λy f=>?_,rfl⟩);have g:=(ua other t d).2 y f;rcases q (bN (IS one other same) y) (ez.mpr ⟨y,f,rfl⟩) with z|z
  .show absurd (k1.words _ z) (b y g)
  .have⟨w,a,e⟩:=ez.mp z;rw[<-N.inj w (k2.words w a) y g e];show a
def Cr(N:xE (aj one) (aj other) same (bN (IS one other same)))(g:∀r∈one,cz names r)(i:∀r∈other,cz names2 r):∀r∈b_ one other same,cz (names++(aj other).map (bN (IS one other same))) r:=λr j=>by
 rcases fN j with h|h
 .have q:=g r h;show⟨tj _ q.word,q.JV,q.once,λx c=>tj _ (q.told x c)⟩
 .have⟨t,f,rfl⟩:=ez.mp h;have q:=i t f;have⟨a,b⟩:=ua other t f;show⟨nC _ (ez.mpr ⟨_,a,rfl⟩),Cp q.JV,eI (λx c y d e=>N.inj x (b x c) y (b y d) e) q.once,λx c=>?_⟩;have⟨y,d,rfl⟩:=ez.mp c;show nC _ (ez.mpr ⟨y,b y d,rfl⟩)
end
abbrev nE(l:List Nat):List Nat:=l.mergeSort λa b=>df (a<=b)
def dw(l:List Nat):(nE l).Perm l:=Ux l _
def vT(l:List Nat):(nE l).Pairwise (·<=·):=by
 have:=SS (le:=λa b:Nat=>df (a<=b)) (λa b c d e=>by simp at d e ⊢;lia) (λa b=>by simp;lia) l;show this.imp λh=>by simpa using h
def xG(l:List Nat):ka (l.map λp:Nat=>(p:Int))=(nE l).map λp:Nat=>(p:Int) :=
 iA ((fC _).trans ((dw l).map _).symm) (qK _) (Vl.mpr ((vT l).imp λh=>by lia))
theorem uc:∀(rows:List Row) (o:Nat) (a:List Nat),a.Pairwise (· < ·)->(∀p∈a,o<=p/\p<o+rows.length)->(a.map λp=>rows.getD (p - o) d).Sublist rows
 |[],o,a,_,h=>by
  cases a with
  |nil=>show .slnil
  |cons q a=>have:=h q (by simp);simp at this;lia
 |r::rows,o,[],_,_=>List.nil_sublist _
 |r::rows,o,q::a,b,h=>by
  rw[MH]at b;have hs:∀l:List Nat,(∀p∈l,o+1<=p)->l.map (λp=>(r::rows).getD (p - o) d)=l.map λp=>rows.getD (p - (o+1)) d:=λl hl=>y0 λp hm=>by
   have:=hl p hm;rw[show p - o=(p - (o+1))+1 by lia];rfl
  by_cases e:q=o
  .subst e;rw[eF,hs a λp hm=>by have:=b.1 p hm;lia,Nat.sub_self];show(uc rows (q+1) a b.2 λp hm=>by have:=b.1 p hm;have:=h p (by simp[hm]);simp at this;lia).cons₂ r
  .have c:=h q (by simp);have ho:∀p∈q::a,o+1<=p:=λp hm=>by
    rcases d6.mp hm with rfl|hm
    .lia
    .have:=b.1 p hm;lia
   rw[hs _ ho];show(uc rows (o+1) (q::a) (MH.mpr b) λp hm=>by have:=ho p hm;have:=h p hm;simp at this;lia).cons r
structure Oz(rows:List Row)(K:List Str)(tr:List Row):Prop where
 sub:tr.Sublist rows
 heads:(tr.map (·.1)).Perm K
 nd:K.Nodup
 snd:JT tr K
 N9:cO rows (·∈K)
abbrev trim(rows:List Row)(a:List (Str×Nat)):List Row:=(nE (a.map (·.2))).map λp=>rows.getD p ("",[])
theorem Ak:∀{ss:List (Str×Nat)}{K:List Str},vS rows K ss->∀s∈ss,∃r,rows[s.2]?=bD r/\r.1=s.1
 |s::ss,K,h,t,ht=>by
  rcases d6.mp ht with rfl|ht
  .obtain⟨_,r,a,b,_⟩:=h.1;show⟨r,a,b⟩
  .show Ak h.2 t ht
theorem vU:∀{ss:List (Str×Nat)}{K:List Str},(∀s∈ss,∀r,rows[s.2]?=bD r->r∈T)->vS rows K ss->JT T K->JT T (K++ss.map (·.1))
 |[],K,_,_,h=>by simpa using h
 |s::ss,K,b,h,c=>by
  have d:JT T (K++[s.1]):=λC a x hx=>by
   rcases gj.mp hx with hx|hx
   .show c C a x hx
   .have:x=s.1:=by simpa using hx
    subst this;obtain⟨_,r,e,f,g⟩:=h.1;rw[<-f];show a r (b s (by simp) r e) λy i=>c C a y (g y i)
  have:=vU (λt j=>b t (by simp[j])) h.2 d;simpa using this
def E7(x:LI rows c []):Oz rows (c.map (·.1)) (trim rows c):=by
 have i:=mL x.ok .nil;rw[lb]at i;have g:=Ak x.ok;have l:c.Nodup:=ó (·.1) (λa b h e=>h (by rw[e])) i;have m:(c.map (·.2)).Nodup:=eI (λa n b o e=>by
  have⟨r,f,j⟩:=g a n;have⟨G,q,t⟩:=g b o;rw[e,q]at f;cases f;show SO (j.symm.trans t) e) l
 have u:(nE (c.map (·.2))).Nodup:=(dw _).nodup_iff.mpr m;have v:(nE (c.map (·.2))).Pairwise (· < ·):=by
  have:=ö (vT (c.map (·.2))) (show(nE (c.map (·.2))).Pairwise (·≠·) from u);show this.imp λh=>Nat.lt_of_le_of_ne h.1 h.2
 have w:∀p∈nE (c.map (·.2)),∃s∈c,s.2=p:=λp k=>by
  have⟨s,a,b⟩:=ez.mp ((dw _).mem_iff.mp k);show⟨s,a,b⟩
 have z:=uc (d:=("",[])) rows 0 _ v λp k=>by
  have⟨s,a,rfl⟩:=w p k;obtain⟨r,f,_⟩:=g s a;have:=(et.mp f).1;lia
 have A:∀s∈c,(rows.getD s.2 ("",[])).1=s.1:=λs hs=>by
  have⟨r,f,j⟩:=g s hs;rw[O8,f];show j
 show⟨z,?_,i,?_,x.closed⟩
 .have e:((c.map (·.2)).map λp=>rows.getD p ("",[])).map (·.1)=c.map (·.1):=by
   rw[hQ,hQ];show y0 λs hs=>A s hs
  rw[<-e];show((dw _).map _).map _
 .have:=vU (T:=trim rows c) (K:=[]) (λs hs r B=>?_) x.ok (λC _ y D=>by cases D)
  .simpa using this
  .show ez.mpr ⟨s.2,(dw _).mem_iff.mpr (ez.mpr ⟨s,hs,rfl⟩),?_⟩;rw[O8,B];rfl
section
def cO.qe(s:∀r∈tr,r∈rows)(h:cO rows C):cO tr C:=λr a=>h r (s r a)
def JT.qe(s:∀r∈tr,r∈rows)(h:JT tr K):JT rows K:=λC a=>h C (cO.qe s a)
def Oz.perm(t:Oz rows K tr)(a:L.Nodup)(b:JT tr L)(c:cO tr (·∈L)):L.Perm K:=same a t.nd b t.snd c (cO.qe t.sub.subset t.N9)
def Oz.less(t:Oz rows K tr)(hk:k<tr.length)(b:JT (tr.take k++tr.drop (k+1)) L):¬L.Perm K:=λc=>by
 have a:(tr.map (·.1)).Nodup:=t.heads.nodup_iff.mpr t.nd;have e:tr=tr.take k++tr[k]::tr.drop (k+1):=by rw[<-Ka hk,List.take_append_drop]
 have d:tr[k].1∈L:=c.mem_iff.mpr (t.heads.mem_iff.mp (ez.mpr ⟨_,Pb hk,rfl⟩));have hm:=b (·∈(tr.take k++tr.drop (k+1)).map (·.1)) (λr f _=>ez.mpr ⟨r,f,rfl⟩) _ d;rw[e,mu,eF,qs,nc]at a;rw[mu]at hm;rcases gj.mp hm with hm|hm
 .show a.2.2 _ hm _ (by simp) rfl
 .show a.2.1.1 hm
end
section
def sorted_ints(h:ns.length<64):Jh .sorted [(k,.lst (ns.map .int))]=bD (.own,.lst ((ka ns).map .int)):=by
 change DR k (ns.map .int)=_;cases ns with
 |nil =>
  change(if ([]:List Str).length<64 then bD (Kd.own,U.lst ((az []).map .str)) else b7)=_;rw[ĝ (by simp),show az []=[] from Wf (bo []),show ka []=[] from(fC []).eq_nil];rfl
 |cons n ns =>
  change(intsOf ((n::ns).map U.int)).bind _=_;rw[jU (λi:Int=>i) (n::ns),List.map_id'']
  .change(if (n::ns).length<64 then _ else _)=_;rw[ĝ h]
  .show λ_=>rfl
def rV(z:rows.length<=100)(x:LI rows c [])(hl:c.length<64)(ho:Γ "order" [.tup (rows.map A')]=bD (.ok (.own,.lst (c.map stN)))):bB Γ gY [.tup (rows.map A')]=bD (.ok (.loc,.tup ((trim rows c).map A'))):=by
 have hsz:(20000:Nat)<=c4:=by decide
 have l:TM.start [.tup (rows.map A')] 2=[bD (.loc,.tup (rows.map A')),b7]:=by simp[TM.start,Ii,aZ]
 let g:ar:=[bD (.loc,.tup (rows.map A')),b7]
 have m:Run (ev Γ (.comp 1 cc .seq [.call "order" [.var 0]] [] (.idx (.var 0) (.cst (.int 1))))) g (.own,.lst ((c.map λs=>((s.2:Nat):Int)).map .int)) g:=by
  have f:=c7 (cond:=aR Γ []) (elt:=ev Γ (.idx (.var 0) (.cst (.int 1)))) (src:=[(.own,.lst (c.map stN))]) (st:=g) trivial .loc (.inl rfl) stN (λs=>U.int ((s.2:Nat):Int)) .loc (λ_=>ei) c [] (by simp;lia) λs _=>⟨a_ (x:=(.loc,stN s)) (ae rfl) aw trivial rfl,aI⟩
  rw[lb]at f;have e:(c.map stN).map (λu=>(kE .own,u))=c.map λs=>(Kd.loc,stN s):=by rw[hQ];rfl
  rw[hQ];show bW (rs:=[(.own,.lst (c.map stN))]) (aa (aF (aa (ae rfl) ai) trivial ho) ai) trivial (by change bD (TV (λu=>(kE .own,u)) _)=_;rw[e]) f
 have n:(c.map λs=>((s.2:Nat):Int))=(c.map (·.2)).map λp:Nat=>(p:Int):=by rw[hQ];rfl
 have hs:Jh .sorted [(.own,.lst ((c.map λs=>((s.2:Nat):Int)).map .int))]=bD (.own,.lst (((nE (c.map (·.2))).map λp:Nat=>(p:Int)).map .int)):=by
  rw[sorted_ints (by rw[cK];show hl),n,xG]
 let d:=nE (c.map (·.2));have A:d.length<64:=by rw[(dw _).length_eq,cK];show hl
 let S1:ar:=[bD (.loc,.tup (rows.map A')),bD (.own,.lst ((d.map λp:Nat=>(p:Int)).map .int))]
 have o:=Ak x.ok;have q:∃j:Kd,(j=.loc\/j=.any)/\kE (.bor 1)=j:=⟨_,by first|show .inl rfl|show .inr rfl,rfl⟩
 have⟨j,i,t⟩:=q;have v:Run (ev Γ (.comp 1 cc .seq [.var 1] [] (.idx (.var 1) (.var 0)))) S1 (.own,.lst ((trim rows c).map A')) S1:=by
  have f:=c7 (cond:=aR Γ []) (elt:=ev Γ (.idx (.var 1) (.var 0))) (src:=[(.bor 1,.lst ((d.map λp:Nat=>(p:Int)).map .int))]) (st:=S1) ⟨⟨.own,rfl,rfl⟩,trivial⟩ j i (λp:Nat=>U.int (p:Int)) (λp=>A' (rows.getD p ("",[]))) .loc (λ_=>ei) d [] (by simp;lia) λp w=>⟨?_,aI⟩
  .rw[lb]at f;have e:((d.map λp:Nat=>(p:Int)).map U.int).map (λu=>(kE (.bor 1),u))=d.map λp:Nat=>(j,U.int (p:Int)):=by rw[hQ,hQ,t];rfl
   have y:(trim rows c).map A'=d.map λp=>A' (rows.getD p ("",[])):=by unfold trim;rw[hQ];rfl
   rw[y];show bW (rs:=[(.bor 1,.lst ((d.map λp:Nat=>(p:Int)).map .int))]) (aa (ao rfl) ai) ⟨⟨.own,rfl,rfl⟩,trivial⟩ (by change bD (TV (λu=>(kE (.bor 1),u)) _)=_;rw[e]) f
  .have⟨s,a,b⟩:=ez.mp ((dw _).mem_iff.mp w);obtain⟨r,h,_⟩:=o s a;have b:s.2=p:=b;rw[b]at h;rw[O8,h];have k:g_ (.loc,.tup (rows.map A')) (.int (p:Int))=bD (.loc,A' r):=lp (qc h);rcases i with rfl|rfl
   .show a_ (ae rfl) (ae rfl) trivial k
   .show a_ (ae rfl) (aS rfl) trivial k
 show aE rfl (.inr rfl) l (av (bZ (aa m ai) trivial hs) aO (bV (bZ (aa v ai) trivial (r:=(.loc,.tup ((trim rows c).map A'))) rfl) dI))
end
section
variable{Γ:Tab}{rows:List Row}{names:List Str}{st:ar}
def Al(h:st[i]?=bD (bD (.loc,.bl b))):Run (H0 Γ (.var i)) st b st:=af (gF h) (c9 rfl)
abbrev Cs:List TM.S:=[.ite (.and [.cmp .HK (.var 3) (.var 1),.bi .all [.comp 1 cc .seq [.var 4] [] (.cmp .isin (.var 0) (.var 2))]]) [.put 1 (.var 3) (.cst (.bl cb)),.set 2 (.cst (.bl cb))] []]
structure Lk(rows:List Row)(K:List Str):Prop where
 nd:K.Nodup
 snd:JT rows K
 TC:∀x∈K,x∈rows.map (·.1)
abbrev lS(rows:List Row)(K:List Str)(vs:List U)(b:Bool)(o3 o4:Option (Kd×U)):ar:=[bD (.loc,.tup (rows.map A')),bD (.own,.HM K vs),bD (.loc,.bl b),o3,o4]
def Lk.len(x:Lk rows K):K.length<=rows.length:=by
 have:=kq x.nd x.TC
 rwa [cK]at this
def Lk.add(x:Lk rows K)(d:r∈rows)(f:r.1∉K)(g:∀y∈r.2,y∈K):Lk rows (K++[r.1]):=by
 show⟨?_,λC c y hy=>?_,λy hy=>?_⟩
 .rw[qs];show⟨x.nd,by simp,λa h b i e=>?_⟩;have:b=r.1:=by simpa using i
  subst this;show f (e▸h)
 .rcases gj.mp hy with hy|hy
  .show x.snd C c y hy
  .have:y=r.1:=by simpa using hy
   subst this;show c r d λz hz=>x.snd C c z (g z hz)
 .rcases gj.mp hy with hy|hy
  .show x.TC y hy
  .have:y=r.1:=by simpa using hy
   subst this;show ez.mpr ⟨r,d,rfl⟩
def Am(H:∀r∈rows,r.2.length<=8)(B:rows.length<=100)(x:Lk rows K0)(vs:List U)(o3 o4:Option (Kd×U)):∃(f:List Str) (s:List U) (b:Bool) (u v:Option (Kd×U)),Lk rows f/\(b=cb->K0.length<f.length)/\(b=cc->f=K0/\cO rows (·∈K0)) /\
  Run (forM cb [3,4] (execs Γ Cs) [(.loc,.tup (rows.map A'))] (rows.map λr=>(Kd.loc,A' r))) (lS rows K0 vs cc o3 o4) .nx (lS rows f s b u v):=by
 have hsz:(20000:Nat)<=c4:=by decide
 obtain⟨st1,I,_,f,s,b,u,v,e,g,m,c⟩:=cM (t:=cb) (is:=[3,4]) (body:=execs Γ Cs) (rs:=[(.loc,.tup (rows.map A'))]) (λr:Row=>(Kd.loc,A' r))
  (λd r st=>d++r=rows/\∃(K:List Str) (vs:List U) (b:Bool) (o3 o4:Option (Kd×U)),st=lS rows K vs b o3 o4/\Lk rows K/\(b=cb->K0.length<K.length)/\(b=cc->K=K0/\∀r∈d,(∀y∈r.2,y∈K0)->r.1∈K0)) (λ_ _ _ _=>trivial) (λd a r st J=>by
   have⟨z,K,vs,b,o3,o4,e,g,m,c⟩:=J;subst e;have C:a∈rows:=by rw[<-z];simp
   have L:=H a C;have N:=g.len;let n:Option (Kd×U):=bD (.loc,.str a.1);let o:Option (Kd×U):=bD (.loc,.tup (a.2.map .str));have p:Run (H0 Γ (.and [.cmp .HK (.var 3) (.var 1),.bi .all [.comp 1 cc .seq [.var 4] [] (.cmp .isin (.var 0) (.var 2))]])) (lS rows K vs b n o) (!df (a.1∈K)&&a.2.all λy=>df (y∈K)) (lS rows K vs b n o) :=
    il (jR (bb (ae rfl) (ao rfl) ⟨⟨.own,rfl,rfl⟩,trivial⟩ jV) λ_=>cZ (tX (xB (j:=1) (k:=.loc) (w:=.HM K vs) (.inl rfl) ⋯ (ae rfl) (.inr rfl) λ_=>E4)))
   have D:Run (dc cb [3,4] (.loc,A' a)) (lS rows K vs b o3 o4) () (lS rows K vs b n o):=oD (.inl rfl);cases i:(!df (a.1∈K)&&a.2.all λy=>df (y∈K)) with
   |false =>
    rw[i]at p;show⟨_,_,D,cD p (λh=>by cases h) λ_=>aJ,by rw[<-z];simp,K,vs,b,_,_,rfl,g,m,λA=>⟨(c A).1,λl Jv hz=>?_⟩⟩;rcases gj.mp Jv with Jv|Jv
    .show(c A).2 l Jv hz
    .have:l=a:=by simpa using Jv
     subst this;rw[<-(c A).1]at hz ⊢;by_cases G:l.1∈K
     .show G
     .have:(!df (l.1∈K)&&l.2.all λy=>df (y∈K))=cb:=by
       rw[Ğ G];simpa using hz
      rw[this]at i;cases i
   |true =>
    rw[i]at p;have q:=i;simp only[cL,uk,decide_eq_false_iff_not,r6,Ĝ]at q;show⟨_,lS rows (K++[a.1]) (vs++[.bl cb]) cb n o,D,cD p (λ_=>?_) (λh=>by cases h),by rw[<-z];simp,K++[a.1],_,cb,_,_,rfl,g.add C q.1 q.2,λ_=>?_,λh=>by cases h⟩
    .show oz (k:=.own) (rv:=(.loc,.bl cb)) (rk:=(.loc,.str a.1)) aw rfl (ae rfl) (aN aI (aN aI aY)) rfl rfl (qb ⋯ q.1) (av aw aC aJ)
    .rw[gs,OA];cases b with
     |true=>have:=m rfl;lia
     |false=>rw[(c rfl).1];lia) rows [] (lS rows K0 vs cc o3 o4) ⟨rfl,K0,vs,cc,o3,o4,rfl,x,(λh=>by cases h),λ_=>⟨rfl,λr B=>by cases B⟩⟩
 subst e;rw[lb]at c;show⟨f,s,b,u,v,g,m,c,I⟩
theorem An(j:∀r∈rows,r.2.length<=8)(k:rows.length<=100):∀(f:Nat) (K0:List Str) (vs:List U) (o3 o4:Option (Kd×U)),Lk rows K0->rows.length - K0.length+2<=f ->
  ∃(a:List Str) (c:List U) (d g:Option (Kd×U)),Lk rows a/\cO rows (·∈a)/\Run (gw (H0 Γ (.var 2)) (execs Γ [.set 2 (.cst (.bl cc)),.Ia cb [3,4] .seq [.var 0] Cs]) f) (lS rows K0 vs cb o3 o4) .nx (lS rows a c cc d g)
 |0,_,_,_,_,_,h=>by lia
 |f+1,K0,vs,o3,o4,x,h=>by
  have⟨a,c,b,d,g,i,m,n,o⟩:=Am (Γ:=Γ) j k x vs o3 o4;have p:(rows.map A').map (λu=>(kE .loc,u))=rows.map λr=>(Kd.loc,A' r):=by rw[hQ];rfl
  have l:Run (execs Γ [.set 2 (.cst (.bl cc)),.Ia cb [3,4] .seq [.var 0] Cs]) (lS rows K0 vs cb o3 o4) .nx (lS rows a c b d g) :=
   av aw aC (cH (rs:=[(.loc,.tup (rows.map A'))]) (st1:=lS rows K0 vs cc o3 o4) (aa (ae rfl) ai) trivial (by change bD (TV (λu=>(kE .loc,u)) _)=_;rw[p]) rfl o aJ)
  cases b with
  |false =>
   have⟨e,q⟩:=n rfl;subst e;cases f with
   |zero=>lia
   |succ f=>show⟨a,c,d,g,i,q,xA (Al rfl) l (vK (Al rfl))⟩
  |true =>
   have:=m rfl;have:=i.len;have⟨s,t,v,w,y,z,A⟩:=An j k f a c d g i ⋯;show⟨s,t,v,w,y,z,xA (Al rfl) l A⟩
def ud(e:∀r∈rows,r.2.length<=8)(f:rows.length<=100)(g:∀r∈rows,r.1∈names)(k:names.length<64):∃L:List Str,L.Nodup/\JT rows L/\cO rows (·∈L)/\bB Γ dP [.tup (rows.map A')]=bD (.ok (.own,.lst ((az L).map .str))):=by
 have h:TM.start [.tup (rows.map A')] 5=[bD (.loc,.tup (rows.map A')),b7,b7,b7,b7]:=by simp[TM.start,Ii,aZ]
 have⟨L,vs,l,m,d,i,j⟩:=An (Γ:=Γ) e f fuel [] [] b7 b7 ⟨.nil,(λC _ x c=>by cases c),(λx c=>by cases c)⟩ (by unfold fuel;simp;lia);have hl:L.length<64:=by
  have:=kq d.nd (L:=names) λx c=>by
   have⟨r,a,b⟩:=ez.mp (d.TC x c);show b▸g r a
  lia
 have hs:Jh .sorted [(.bor 1,.HM L vs)]=bD (.own,.lst ((az L).map .str)):=by
  change(if L.length<64 then _ else _)=_;rw[ĝ hl]
 show⟨L,d.nd,d.snd,i,aE rfl (.inl rfl) h (av (r:=(.own,.HM [] [])) mz aO (av aw aC (vL j (bV (bZ (aa (ao rfl) ai) ⟨⟨.own,rfl,rfl⟩,trivial⟩ hs) mC))))⟩
end
section
variable{Γ:Tab}{rows one other:List Row}{names same:List Str}
def mY(a:rows.length<=100)(i:∀r∈rows,cz names r)(C:names.length<64):bB Γ dF [.tup (rows.map A')]=bD (.ok (.own,.lst ((aj rows).map .str))):=by
 have hsz:(4000:Nat)<=c4:=by decide
 let b:Option (Kd×U):=bD (.loc,.tup (rows.map A'));have m:TM.start [.tup (rows.map A')] 3=[b,b7,b7]:=by simp[TM.start,Ii,aZ,b]
 let S:=λ(ws:List Str) (o2:Option (Kd×U))=>([b,bD (.own,.lst (ws.map .str)),o2]:ar)
 let H:=rows.map (·.1);have D:H.length<=100:=by change(rows.map (·.1)).length<=100;simpa using a
 have f:∀r∈rows,r.2.length<=8:=λr h=>(i r h).JV;obtain⟨st',g,_,o2,e⟩:=cM (t:=cc) (is:=[2]) (body:=execs Γ [.ext 1 (.idx (.var 2) (.cst (.int 1)))]) (rs:=[(.loc,.tup (rows.map A'))]) (λr:Row=>(Kd.loc,A' r))
  (λd r st=>d++r=rows/\∃o2,st=S (H++(d.map (·.2)).flatten) o2) (λ_ _ _ _=>trivial) (λd y r st o=>by
   have⟨c,o2,e⟩:=o;subst e;have p:y∈rows:=by rw[<-c];simp
   have G:=rq (rows:=d) (n:=8) λs hs=>f s (by rw[<-c];simp[hs]);have I:d.length<=100:=by have:=ġ tA c;simp at this;lia
   have J:=f y p;show⟨S (H++(d.map (·.2)).flatten) (bD (.loc,A' y)),S (H++((d++[y]).map (·.2)).flatten) (bD (.loc,A' y)),bM aC,?_,by rw[<-c];simp,bD (.loc,A' y),rfl⟩;have q:(H++((d++[y]).map (·.2)).flatten).map U.str=(H++(d.map (·.2)).flatten).map U.str++y.2.map U.str:=by simp
   change Run _ _ _ [b,bD (.own,.lst ((H++((d++[y]).map (·.2)).flatten).map .str)),bD (.loc,A' y)];rw[q];show vG (k:=.own) (k':=.own) rfl (a_ (x:=(.loc,A' y)) (ae rfl) aw trivial rfl) rfl rfl (vH (by rw[cK,cK,gs];lia) rfl) aJ) rows [] (S H b7) ⟨rfl,b7,by simp⟩
 subst e;rw[lb]at g;have v:H++(rows.map (·.2)).flatten=jT rows:=rfl;rw[v]at g;have w:(jT rows).length<4000:=by
  have:=rq f;change(H++(rows.map (·.2)).flatten).length<4000;rw[gs];lia
 have z:(aP (jT rows)).length<64:=by have:=tY (pX i);lia
 have A:az (aP (jT rows))=aj rows:=zT λx=>by
  rw[eD];simp only[jT,gj,ez,VX];constructor
  .rintro(⟨r,a,rfl⟩|⟨l,⟨r,a,rfl⟩,hx⟩)
   .show⟨r,a,.inl rfl⟩
   .show⟨r,a,.inr hx⟩
  .rintro⟨r,a,rfl|hx⟩
   .show .inl ⟨r,a,rfl⟩
   .show .inr ⟨_,⟨r,a,rfl⟩,hx⟩
 have B:(rows.map A').map (λu=>(kE .loc,u))=rows.map λr=>(Kd.loc,A' r):=by rw[hQ];rfl
 have j:=mJ (k:=.bor 1) w z;rw[A]at j;show aE rfl (.inl rfl) m (av (xr ⋯ rfl) aO (cH (rs:=[(.loc,.tup (rows.map A'))]) (aa (ae rfl) ai) trivial rfl rfl (by rw[B];show g) (bV (zt (aa (ao rfl) ai) ⟨⟨.own,rfl,rfl⟩,trivial⟩ j) mC)))
def XI(a:Str):nm a 0=a++("/2":Str):=by
 show TM.fu ?_;simp only[nm,jt,QP];show ġ (a.cps.toList++·) (by decide +kernel)
abbrev U6:List TM.S:=[.set 9 (.bin .add (.var 9) (.cst (.int 1))),.set 8 (.bin .add (.bin .add (.idx (.J6 .split (.var 7) [.cst (.str "/")]) (.cst (.int 0))) (.cst (.str "/"))) (.bi .str [.var 9]))]
abbrev TF:E:=.or [.cmp .isin (.var 8) (.var 3),.cmp .isin (.var 8) (.var 4),.cmp .isin (.var 8) (.var 6)]
abbrev KY(o0 o1:Option (Kd×U))(same mine theirs:List Str)(acc:List Pr)(a:List Str)(o7 o8 b:Option (Kd×U)):ar :=
 [o0,o1,bD (.any,.lst (same.map .str)),bD (.own,.lst (mine.map .str)),bD (.own,.lst (theirs.map .str)),bD (.own,.lst (acc.map Ji)),bD (.own,.lst (a.map .str)),o7,o8,b]
abbrev iS(x:Str):Option (Kd×U):=bD (.loc,.str x)
abbrev iI(n:Int):Option (Kd×U):=bD (.loc,.int n)
def split0(a:aH w.cps.toList)(h:st[7]?=bD (iS w)):Run (ev Γ (.idx (.J6 .split (.var 7) [.cst (.str "/")]) (.cst (.int 0)))) st (.loc,.str (stemOf w)) st:=by
 have hsz:(1000:Nat)<=c4:=by decide
 have⟨hs,r,b⟩:=fm a;have d:w.length<=11:=by rw[len_list];show a.len.2
 have c:jL .split (.str w) [(.loc,.str "/")]=bD (.own,.lst ((stemOf w::r).map U.str)):=by
  change(if (Rm "/"==0)=cc/\w.length+2<=c4 then bD (Kd.own,U.lst ((Nu w "/").map .str)) else b7)=_;rw[ĝ ⟨by decide,⋯⟩,show("/":Str)=f9 from rfl,b]
 show a_ (ra (ae h) (aa aw ai) trivial c) aw trivial (aV (by change Il _ ((0:Nat):Int)=_;show cn rfl))
theorem rW{mine theirs a:List Str}{acc:List Pr}{o0 o1:Option (Kd×U)}{w x:Str}(d:aH w.cps.toList):∀(m i f:Nat),i+m=98->m<f->((List.range' i m).map (nm (stemOf w))).find? (λx=>df (x∉mine++theirs++a))=bD x ->
  ∃g,Run (gw (H0 Γ TF) (execs Γ U6) f) (KY o0 o1 same mine theirs acc a (iS w) (iS (nm (stemOf w) i)) (iI (2+(i:Int)))) .nx (KY o0 o1 same mine theirs acc a (iS w) (iS x) g)
 |0,_,_,_,_,h=>by simp at h
 |m+1,i,0,_,n,_=>by lia
 |m+1,i,f+1,s,n,h=>by
  have hsz:(1000:Nat)<=c4:=by decide
  have c:Run (H0 Γ TF) (KY o0 o1 same mine theirs acc a (iS w) (iS (nm (stemOf w) i)) (iI (2+(i:Int)))) (df (nm (stemOf w) i∈mine)||(df (nm (stemOf w) i∈theirs)||decide (nm (stemOf w) i∈a))) (KY o0 o1 same mine theirs acc a (iS w) (iS (nm (stemOf w) i)) (iI (2+(i:Int)))) :=
   ET (CW (bb (ae rfl) (ao rfl) ⟨⟨.own,rfl,rfl⟩,trivial⟩ jw) λ_=>CW (bb (ae rfl) (ao rfl) ⟨⟨.own,rfl,rfl⟩,trivial⟩ jw) λ_=>zw (bb (ae rfl) (ao rfl) ⟨⟨.own,rfl,rfl⟩,trivial⟩ jw))
  rw[List.range'_succ,eF,Lo]at h;by_cases b:nm (stemOf w) i∈mine++theirs++a
  .rw[Ğ (λz=>z b)]at h;have j:(df (nm (stemOf w) i∈mine)||(df (nm (stemOf w) i∈theirs)||decide (nm (stemOf w) i∈a)))=cb:=by
    simp only[gj]at b;simp only[Om,Ĝ];rcases b with(h|h)|h
    .show .inl h
    .show .inr (.inl h)
    .show .inr (.inr h)
   rw[j]at c;have t:m≠0:=λz=>by subst z;simp at h
   have⟨g,l⟩:=rW (o0:=o0) (o1:=o1) (acc:=acc) d m (i+1) f ⋯ ⋯ h;rw[show((i+1:Nat):Int)=(i:Int)+1 by lia,show(2:Int)+((i:Int)+1)=2+(i:Int)+1 by lia]at l;show⟨g,xA (st2:=KY o0 o1 same mine theirs acc a (iS w) (iS (nm (stemOf w) (i+1))) (iI (2+(i:Int)+1))) c (av (st2:=KY o0 o1 same mine theirs acc a (iS w) (iS (nm (stemOf w) i)) (iI (2+(i:Int)+1))) (r:=(.loc,.int (2+(i:Int)+1))) (bj (ae rfl) aw trivial dG) aC (av (st1:=KY o0 o1 same mine theirs acc a (iS w) (iS (nm (stemOf w) i)) (iI (2+(i:Int)+1))) (r:=(.loc,.str (nm (stemOf w) (i+1)))) ?_ aC aJ)) l⟩;have u:=dS (k:=2+(i:Int)+1) ⋯ ⋯;have hs:=(fm d).1;have o:Jh .str [(.loc,.int (2+(i:Int)+1))]=bD (.loc,.str (fZ (2+(i:Int)+1))):=by
    simp only[Jh,fW,yz];rw[ĝ (by
     have:(2+(i:Int)+1).natAbs<2 ^ 7:=by lia
     have p:(2+(i:Int)+1).natAbs≠0:=by lia
     have:=(Y_ p).mpr this;lia)]
    rfl
   have q:(stemOf w++("/":Str)).length=(stemOf w).length+1:=str_len _ _;have e:nm (stemOf w) (i+1)=stemOf w++("/":Str)++fZ (2+(i:Int)+1):=by
    unfold nm;rw[show(2:Int)+((i+1:Nat):Int)=2+(i:Int)+1 by lia];rfl
   rw[e];show bj (bj (split0 d rfl) aw trivial (fG (by change(stemOf w).length+1<=c4;lia))) (bZ (aa (ae rfl) ai) trivial o) trivial (fG (by rw[q];lia))
  .rw[Ġ b]at h;cases h;have j:(df (nm (stemOf w) i∈mine)||(df (nm (stemOf w) i∈theirs)||decide (nm (stemOf w) i∈a)))=cc:=by
    simp only[gj,not_or]at b;simp[b.1.1,b.1.2,b.2]
   rw[j]at c;show⟨_,vK c⟩
abbrev E8:List TM.S:=[.set 8 (.var 7),.set 9 (.cst (.int 2)),.ite (.and [.cmp .isin (.var 7) (.var 3),.cmp .HK (.var 7) (.var 2)]) [.set 8 (.bin .add (.idx (.J6 .split (.var 7) [.cst (.str "/")]) (.cst (.int 0))) (.cst (.str "/2"))),.LL TF U6] [],.app 6 (.var 8),.app 5 (.tup [.var 7,.var 8])]
theorem qf(p:mine.length<=14)(q:theirs.length<=14)(f:∀x∈theirs,aH x.cps.toList):∀(ws:List Str) (acc:List Pr) (o7 o8 a:Option (Kd×U)),acc.map (·.1)++ws=theirs ->
  ∃v y A,Run (forM cc [7] (execs Γ E8) [(.bor 4,.lst (theirs.map .str))] (ws.map λx=>(Kd.loc,U.str x))) (KY o0 o1 same mine theirs acc (acc.map (·.2)) o7 o8 a) .nx
   (KY o0 o1 same mine theirs (h_ mine theirs same acc ws) ((h_ mine theirs same acc ws).map (·.2)) v y A)
 |[],acc,o7,o8,a,_=>⟨o7,o8,a,rf ⟨⟨.own,rfl,rfl⟩,trivial⟩⟩
 |w::ws,acc,o7,o8,a,c=>by
  have hsz:(1000:Nat)<=c4:=by decide
  have B:w∈theirs:=by rw[<-c];simp
  have D:acc.length<14:=by have:=ġ tA c;simp at this;lia
  have g:=f w B;have d:Run (H0 Γ (.and [.cmp .isin (.var 7) (.var 3),.cmp .HK (.var 7) (.var 2)])) (KY o0 o1 same mine theirs acc (acc.map (·.2)) (iS w) (iS w) (iI 2)) (df (w∈mine)&&df (w∉same)) (KY o0 o1 same mine theirs acc (acc.map (·.2)) (iS w) (iS w) (iI 2)) :=
   il (jR (bb (ae rfl) (ao rfl) ⟨⟨.own,rfl,rfl⟩,trivial⟩ jw) λ_=>cZ (bb (ae rfl) (aS rfl) trivial fj))
  have app:∀(x:Str) (a:Option (Kd×U)),Run (execs Γ [.app 6 (.var 8),.app 5 (.tup [.var 7,.var 8])]) (KY o0 o1 same mine theirs acc (acc.map (·.2)) (iS w) (iS x) a) .nx (KY o0 o1 same mine theirs (acc++[(w,x)]) ((acc++[(w,x)]).map (·.2)) (iS w) (iS x) a):=λx a=>by
   have e:(acc++[(w,x)]).map Ji=acc.map Ji++[Ji (w,x)]:=by simp
   have C:((acc++[(w,x)]).map (·.2)).map U.str=(acc.map (·.2)).map U.str++[.str x]:=by simp
   unfold KY;rw[e,C];show ff (k:=.own) (k':=.own) (r:=(.loc,.str x)) rfl (ae rfl) aI rfl rfl (by simp;lia) (ff (k:=.own) (k':=.own) (r:=(.loc,Ji (w,x))) rfl (jm (aa (ae rfl) (aa (ae rfl) ai)) trivial (aN aI (aN aI aY)) (by change 2<=c4;lia)) aI rfl rfl (by rw[cK];lia) aJ)
  by_cases b:w∈mine/\w∉same
  .have i:(df (w∈mine)&&df (w∉same))=cb:=by simp[b.1,b.2]
   rw[i]at d;have j:newName mine theirs same acc w=eM (stemOf w) (mine++theirs++acc.map (·.2)):=by unfold newName;rw[ĝ b]
   let x:=newName mine theirs same acc w;have s:=(fk (stemOf w) (L:=mine++theirs++acc.map (·.2)) (by simp;lia)).1;rw[<-j,cands,List.range_eq_range']at s;have⟨t,u⟩:=rW (Γ:=Γ) (same:=same) (o0:=o0) (o1:=o1) (acc:=acc) g 98 0 fuel rfl (by decide) s;rw[XI]at u;have⟨l,m,n,o⟩:=qf (o0:=o0) (o1:=o1) p q f ws (acc++[(w,x)]) (iS w) (iS x) t (by rw[<-c];simp);show⟨l,m,n,rg ⟨⟨.own,rfl,rfl⟩,trivial⟩ (bM aC) (av (r:=(.loc,.str w)) (ae rfl) aC (av (r:=(.loc,.int 2)) aw aC (cD d (λ_=>?_) λh=>by cases h))) o⟩;have hs:=(fm g).1;show av (r:=(.loc,.str (stemOf w++("/2":Str)))) (bj (split0 g rfl) aw trivial (fG (by change(stemOf w).length+2<=c4;lia))) aC (vL u (app x t))
  .have i:(df (w∈mine)&&df (w∉same))=cc:=by
    rw[Ss];intro z;simp only[cL,Ĝ]at z;show b z
   rw[i]at d;have j:newName mine theirs same acc w=w:=by unfold newName;rw[ğ b]
   have⟨l,m,n,o⟩:=qf (o0:=o0) (o1:=o1) p q f ws (acc++[(w,w)]) (iS w) (iS w) (iI 2) (by rw[<-c];simp);show⟨l,m,n,rg ⟨⟨.own,rfl,rfl⟩,trivial⟩ (bM aC) (av (r:=(.loc,.str w)) (ae rfl) aC (av (r:=(.loc,.int 2)) aw aC (cD d (λh=>by cases h) λ_=>app w (iI 2)))) ?_⟩;rw[h_,j];show o
def Ao(c:∀rows,rows=one\/rows=other->Γ "_law_words" [.tup (rows.map A')]=bD (.ok (.own,.lst ((aj rows).map .str))))(d:(aj one).length<=14)(e:(aj other).length<=14)(f:∀x∈aj other,aH x.cps.toList):
  bB Γ cI [.tup (one.map A'),.tup (other.map A'),.lst (same.map .str)]=bD (.ok (.own,.lst ((IS one other same).map Ji))):=by
 let a:Option (Kd×U):=bD (.loc,.tup (one.map A'));let b:Option (Kd×U):=bD (.loc,.tup (other.map A'));have g:TM.start [.tup (one.map A'),.tup (other.map A'),.lst (same.map .str)] 10=[a,b,bD (.any,.lst (same.map .str)),b7,b7,b7,b7,b7,b7,b7]:=by simp[TM.start,Ii,aZ,a,b]
 have⟨i,j,k,h⟩:=qf (Γ:=Γ) (mine:=aj one) (theirs:=aj other) (same:=same) (o0:=a) (o1:=b) d e f (aj other) [] b7 b7 b7 rfl;show aE rfl (.inl rfl) g (av (r:=(.own,.lst ((aj one).map .str))) (aF (aa (ae rfl) ai) trivial (c one (.inl rfl))) aO (av (r:=(.own,.lst ((aj other).map .str))) (aF (aa (ae rfl) ai) trivial (c other (.inr rfl))) aO
  (av (r:=(.own,.lst [])) (cS ai trivial aY (mA _)) aO (av (r:=(.own,.lst [])) (cS ai trivial aY (mA _)) aO (cH (rs:=[(.bor 4,.lst ((aj other).map .str))]) (aa (ao rfl) ai) ⟨⟨.own,rfl,rfl⟩,trivial⟩ (fM rfl) rfl h (bV (ao rfl) (kl rfl)))))))
end
theorem mZ:∀{d rows:List Row},(d.map keyOf).Nodup->bC rows d=rows++d.filter λr=>!(rows.any λs=>Jz s r)
 |[],rows,_=>by simp[bC]
 |r::d,rows,h=>by
  rw[eF,nc]at h;rw[bC,mZ h.2,z8];unfold ia;by_cases c:(rows.any λs=>Jz s r)=cb
  .rw[ĝ c,c];rfl
  .rw[ğ c,Ss.mpr c];change _=rows++r::_;rw[QP];change rows++(r::_)=_;congr 2
   show List.filter_congr λx a=>?_;have:Jz r x=cc:=Ğ λe=>h.1 (ez.mpr ⟨x,a,e.symm⟩);simp[this]
section
variable{Γ:Tab}{one other:List Row}{names names2 same:List Str}{ps:List Pr}
def Ap(N:xE (aj one) (aj other) same (bN ps))(c:∀r∈other,cz names2 r)(hk:(other.map keyOf).Nodup):((other.map (cu ps)).map keyOf).Nodup:=by
 rw[hQ];have n:=Vl.mp hk;show Vl.mpr (n.imp_of_mem λ{a b} d f o e=>o ?_);have e:(bN ps a.1,az (a.2.map (bN ps)))=(bN ps b.1,az (b.2.map (bN ps))):=e;injection e with p q
 have⟨t,g⟩:=ua other a d;have⟨b1,i⟩:=ua other b f;have j:=jH.mp q;have k:∀{r s:Row},(∀x∈r.2,x∈aj other)->(∀x∈s.2,x∈aj other)->(∀z,z∈r.2.map (bN ps)->z∈s.2.map (bN ps))->∀x∈r.2,x∈s.2:=λ{r s} u hs h x l=>by
  have⟨y,m,e⟩:=ez.mp (h _ (ez.mpr ⟨x,l,rfl⟩));rw[<-N.inj y (hs y m) x (u x l) e];show m
 change(a.1,az a.2)=(b.1,az b.2)
 rw[N.inj _ t _ b1 p,jH.mpr ((O4 (c a d).once (c b f).once).mpr λx=>⟨k g i (λz=>j.mem_iff.mp) x,k i g (λz=>j.mem_iff.mpr) x⟩)]
abbrev JZ(r:Row):U:=.tup [.str r.1,.lst ((az r.2).map .str)]
def Aq(r:Row)(n:Nat):IQ (n+2) (JZ r)=cb:=by simp[JZ,IQ,c_,fi]
def Cu:bR (JZ s) (JZ r)=Jz s r:=by
 have h:=@mI (az s.2) (az r.2);simp only[bF]at h;rw[ĝ ⟨dq _ 49,dq _ 49⟩]at h;injection h with h
 simp only[JZ,bR,cF]at h ⊢;rw[h];unfold Jz keyOf;rw[Iy];simp
theorem vV:∀rs:List Row,c_ 50 (rs.map JZ)=cb
 |[]=>rfl
 |r::rs=>by rw[eF,c_,vV rs,Aq r 48];rfl
def G0{rs:List Row}:bF .HK (JZ r) (.lst (rs.map JZ))=bD !(rs.any λs=>Jz s r):=by
 change(Mx (JZ r) (rs.map JZ)).map _=_;unfold Mx;rw[ĝ ⟨Aq r 48,vV rs⟩,ä];change bD _=bD _;rw[show((λy=>bR y (JZ r)) ∘ JZ)=λs=>Jz s r from funext λs=>Cu]
abbrev XJ:List TM.S:=[.set 7 (.tup [.idx (.var 2) (.var 5),.bi .tuple [.comp 1 cc .seq [.var 6] [] (.idx (.var 3) (.var 0))]]),.ite (.cmp .HK (.tup [.idx (.var 7) (.cst (.int 0)),.bi .sorted [.idx (.var 7) (.cst (.int 1))]]) (.var 4)) [.app 3 (.var 7)] []]
def xH(hl:one.length<=50)(Kr:other.length<=50)(o:∀r∈one,r.2.length<=8)(q:∀r∈other,r.2.length<=8)(hk:∀r∈other,r.1∈ps.map (·.1)/\∀x∈r.2,x∈ps.map (·.1)):
  bB Γ fK [.tup (one.map A'),.tup (other.map A'),.HM (ps.map (·.1)) (ps.map λp=>.str p.2)]=bD (.ok (.loc,.tup ((one++(other.map (cu ps)).filter λr=>!(one.any λs=>Jz s r)).map A'))):=by
 have hsz:(1000:Nat)<=c4:=by decide
 let D:U:=.HM (ps.map (·.1)) (ps.map λp=>.str p.2);have u:TM.start [.tup (one.map A'),.tup (other.map A'),D] 8=[bD (.loc,.tup (one.map A')),bD (.loc,.tup (other.map A')),bD (.any,D),b7,b7,b7,b7,b7]:=by simp[TM.start,Ii,aZ,D]
 let S:=λ(rs:List Row) (o5 o6 o7:Option (Kd×U))=>([bD (.loc,.tup (one.map A')),bD (.loc,.tup (other.map A')),bD (.any,D),bD (.own,.lst (rs.map A')),bD (.own,.lst (one.map JZ)),o5,o6,o7]:ar)
 let F:=λ(d:List Row)=>one++(d.map (cu ps)).filter λr=>!(one.any λs=>Jz s r);have v:Run (ev Γ (.comp 1 cc .seq [.var 0] [] (.tup [.idx (.var 0) (.cst (.int 0)),.bi .sorted [.idx (.var 0) (.cst (.int 1))]]))) [bD (.loc,.tup (one.map A')),bD (.loc,.tup (other.map A')),bD (.any,D),bD (.own,.lst (one.map A')),b7,b7,b7,b7] (.own,.lst (one.map JZ)) [bD (.loc,.tup (one.map A')),bD (.loc,.tup (other.map A')),bD (.any,D),bD (.own,.lst (one.map A')),b7,b7,b7,b7]:=by
  have g:=c7 (cond:=aR Γ []) (elt:=ev Γ (.tup [.idx (.var 0) (.cst (.int 0)),.bi .sorted [.idx (.var 0) (.cst (.int 1))]])) (src:=[(.loc,.tup (one.map A'))]) (st:=[bD (.loc,.tup (one.map A')),bD (.loc,.tup (other.map A')),bD (.any,D),bD (.own,.lst (one.map A')),b7,b7,b7,b7]) trivial .loc (.inl rfl) A' JZ .loc (λ_=>ei) one [] (by simp;lia)
   (λr w=>⟨jm (aa (a_ (x:=(.loc,A' r)) (ae rfl) aw trivial rfl) (aa (bZ (aa (a_ (x:=(.loc,A' r)) (ae rfl) aw trivial rfl) ai) trivial (sorted_strs (by have:=o r w;lia))) ai)) trivial (aN aI (aN rb aY)) (by change 2<=c4;lia),aI⟩)
  rw[lb]at g;show bW (rs:=[(.loc,.tup (one.map A'))]) (aa (ae rfl) ai) trivial (jz (k:=.loc) (rows:=one) cb) g
 obtain⟨st',j,_,o5,o6,o7,e⟩:=cM (t:=cb) (is:=[5,6]) (body:=execs Γ XJ) (rs:=[(.loc,.tup (other.map A'))]) (λr:Row=>(Kd.loc,A' r))
  (λd r st=>d++r=other/\∃o5 o6 o7,st=S (F d) o5 o6 o7) (λ_ _ _ _=>trivial) (λd y r st z=>by
   have⟨l,o5,o6,o7,e⟩:=z;subst e;have n:y∈other:=by rw[<-l];simp
   have⟨k1,k2⟩:=hk y n;have L:d.length<other.length:=by have:=ġ tA l;simp at this;lia
   have N:(F d).length<=100:=by
    have:=Kc (λr=>!(one.any λs=>Jz s r)) (d.map (cu ps));rw[cK]at this;change(one++_).length<=100;rw[gs];lia
   have A:=q y n;let a:=cu ps y;have O:a.2.length<=8:=Cp A;let b:Option (Kd×U):=bD (.loc,.str y.1);let c:Option (Kd×U):=bD (.loc,.tup (y.2.map .str));let i:Option (Kd×U):=bD (.loc,A' a);have g:=c7 (cond:=aR Γ []) (elt:=ev Γ (.idx (.var 3) (.var 0))) (src:=[(.loc,.tup (y.2.map .str))]) (st:=S (F d) b c o7) trivial .loc (.inl rfl) U.str (λx=>.str (bN ps x)) .any (λ_=>ei) y.2 [] (by simp;lia)
    (λx g=>⟨a_ (aS rfl) (ae rfl) trivial (jy (k2 x g)),jn rfl⟩)
   rw[lb]at g;have B:Run (ev Γ (.comp 1 cc .seq [.var 6] [] (.idx (.var 3) (.var 0)))) (S (F d) b c o7) (.own,.lst (y.2.map λx=>.str (bN ps x))) (S (F d) b c o7) :=
    bW (rs:=[(.loc,.tup (y.2.map .str))]) (aa (ae rfl) ai) trivial (by change bD _=_;rw[hQ];rfl) g
   have C:A' a=.tup [.str (bN ps y.1),.tup (y.2.map λx=>.str (bN ps x))]:=by simp[A',cu,a,hQ,YS]
   have G:Run (ev Γ (.tup [.idx (.var 2) (.var 5),.bi .tuple [.comp 1 cc .seq [.var 6] [] (.idx (.var 3) (.var 0))]])) (S (F d) b c o7) (.loc,A' a) (S (F d) b c o7):=by
    rw[C];show jm (aa (a_ (aS rfl) (ae rfl) trivial (jy k1)) (aa (bZ (aa B ai) trivial rfl) ai)) trivial (aN (jn rfl) (aN aI aY)) (by change 2<=c4;lia)
   have H:Run (H0 Γ (.cmp .HK (.tup [.idx (.var 7) (.cst (.int 0)),.bi .sorted [.idx (.var 7) (.cst (.int 1))]]) (.var 4))) (S (F d) b c i) (!(one.any λs=>Jz s a)) (S (F d) b c i) :=
    bb (x:=(.loc,JZ a)) (jm (aa (a_ (x:=(.loc,A' a)) (ae rfl) aw trivial rfl) (aa (bZ (aa (a_ (x:=(.loc,A' a)) (ae rfl) aw trivial rfl) ai) trivial (sorted_strs ⋯)) ai)) trivial (aN aI (aN rb aY)) (by change 2<=c4;lia)) (ao rfl) ⟨⟨.own,rfl,rfl⟩,trivial⟩ G0
   have I:Run (dc cb [5,6] (.loc,A' y)) (S (F d) o5 o6 o7) () (S (F d) b c o7):=oD (.inl rfl);show⟨S (F d) b c o7,S (F (d++[y])) b c i,I,av G aC (cD H (λh=>?_) λh=>?_),by rw[<-l];simp,b,c,i,rfl⟩
   .have m:(F (d++[y])).map A'=(F d).map A'++[A' a]:=by
     change(one++((d++[y]).map (cu ps)).filter _).map A'=(one++(d.map (cu ps)).filter _).map A'++[A' a];rw[mu (f:=cu ps),Qe,eF,Jc,z8,ĝ h];simp[a]
    change Run _ _ _ [bD (.loc,.tup (one.map A')),bD (.loc,.tup (other.map A')),bD (.any,D),bD (.own,.lst ((F (d++[y])).map A')),bD (.own,.lst (one.map JZ)),b,c,i];rw[m];show ff (k:=.own) (k':=.own) (r:=(.loc,A' a)) (us:=(F d).map A') rfl (ae rfl) aI rfl rfl (by rw[cK];lia) aJ
   .have m:F (d++[y])=F d:=by
     change one++((d++[y]).map (cu ps)).filter _=one++(d.map (cu ps)).filter _;rw[mu (f:=cu ps),Qe,eF,Jc,z8,ğ (by rw[h];show l')];simp
    rw[m];show aJ) other [] (S (F []) b7 b7 b7) ⟨rfl,b7,b7,b7,rfl⟩
 subst e;rw[lb]at j;have J:S (F []) b7 b7 b7=[bD (.loc,.tup (one.map A')),bD (.loc,.tup (other.map A')),bD (.any,D),bD (.own,.lst (one.map A')),bD (.own,.lst (one.map JZ)),b7,b7,b7]:=by
  change [_,_,_,bD (Kd.own,U.lst ((one++([].map (cu ps)).filter _).map A')),_,_,_,_]=_;simp
 rw[J]at j;show aE rfl (.inr rfl) u (av (r:=(.own,.lst (one.map A'))) (bZ (aa (ae rfl) ai) trivial rfl) aO (av v aO
  (cH (rs:=[(.loc,.tup (other.map A'))]) (aa (ae rfl) ai) trivial (jz (k:=.loc) (rows:=other) cb) rfl j (bV (bZ (aa (ao rfl) ai) ⟨⟨.own,rfl,rfl⟩,trivial⟩ rfl) dI))))
end
end K
namespace TM
open PySem L2 Ig
section
def G1(b:st[i]?=bD (bD (k',.lst us')))(c:k'≠.B')(d:Run (ev Γ a) st (ky,.int j) st1)(g:Run (ev Γ e) st1 r st2)(h:br [(ky,U.int j)] st2)(l:Run (lift r) st2 u st3)(m:st3[i]?=bD (bD (k,.lst us)))(hk:k.root=cb)(n:0<=j)(o:j.toNat<=us.length)(hl:us.length<c4)
  (p:Run (execs Γ ss) (st3.set i (bD (k,.lst (us.take j.toNat++u::us.drop j.toNat)))) f q):Run (execs Γ (.ins i a e::ss)) st f q:=by
 show gG (af (gF b c) (af (a:=()) (st1:=st) rfl (af d (af g (af (bf h) (af l (af (a:=()) ?_ aW))))))) p;change modS i (Bj (.int j) u) st3=_;unfold modS;rw[m];simp only[hk,ĥ];have e:Bj (.int j) u (.lst us)=bD (.lst (us.take j.toNat++u::us.drop j.toNat)):=by change(if 0<=j/\j.toNat<=us.length/\us.length<c4 then _ else _)=_;rw[ĝ ⟨n,o,hl⟩]
 rw[e]
end
end TM
namespace K
open PySem L2 TM Ig Od KL
section
variable{Γ:Tab}{ns ds:List Int}{W names:List Str}{one other:List Row}
abbrev se(ns:List Int)(W:List Str)(ds:List Int)(a:List Str)(o4 o5 o6 o7:Option (Kd×U)):ar :=
 [bD (.any,.lst (ns.map .int)),bD (.any,.lst (W.map .str)),bD (.own,.lst (ds.map .int)),bD (.own,.lst (a.map .str)),o4,o5,o6,o7]
abbrev XN:List TM.S:=[.set 5 (.call "_law_drawn" [.call "_law_cell" [.var 0,.bin .sub (.cst (.int 60)) (.var 4)],.cst (.int 13)]),.ite (.cmp .eq (.bin .mod (.idx (.var 5) (.cst (.int 12))) (.cst (.int 2))) (.cst (.int 0))) [.app 3 (.call "_law_name" [.var 5,.bin .add (.var 3) (.var 1)])] [.set 6 (.bin .mod (.idx (.var 5) (.cst (.int 11))) (.bin .add (.bi .len [.var 1]) (.cst (.int 1)))),.set 7 (.bin .add (.bin .add (.JJ (.var 1) [.var 6] []) (.JJ (.var 1) [] [.var 6])) (.lst [.call "_law_name" [.var 5,.bin .add (.var 3) (.var 1)]])),.app 3 (.idx (.comp 1 cc .seq [.var 7] [.cmp .HK (.var 0) (.var 4)] (.var 0)) (.cst (.int 0)))]]
def vW(h:x∈cut xs lo a):x∈xs:=YY (Rt h)
def kU(xs:List α)(lo a:Option Int):(cut xs lo a).length<=xs.length:=by
 unfold cut;rw[vr,Km];lia
def rX(ss:List Str):gq .any (ss.map U.str)=cb:=by
 change(!cb||fU (ss.map U.str))=cb;rw[jS];rfl
def vX:nq (.any,.lst (ss.map .str)) lo a=bD (.own,.lst ((cut ss lo a).map .str)):=by
 change(if gq .any (ss.map U.str)=cb then bD (Kd.own,U.lst (cut (ss.map U.str) lo a)) else b7)=_;rw[ĝ (rX ss),pW]
def ue(D:iE Γ)(G:fH Γ)(Q:tV Γ)(o:tW Γ)(hW:W.length<=14)(C:∀x∈W,aH x.cps.toList):∃(b:List Str) (rows:List Row),b.length<=8/\(∀x∈b,aH x.cps.toList)/\rows.length<=23/\(rows.map keyOf).Nodup/\(∀r∈rows,cz b r)/\bB Γ dQ [.lst (ns.map .int),.lst (W.map .str)]=bD (.ok (.loc,.tup (rows.map A'))):=by
 have hsz:(1000:Nat)<=c4:=by decide
 have⟨z,hz⟩:=D ns 0 ⋯;have⟨ds,d1,H,T⟩:=G z 4 ⋯;have n2:=eC H 2;have n3:=eC H 3;have Y:Il (ds.map U.int) 2=bD (.int (dd ds 2)):=bE (i:=2) ⋯;have i3:Il (ds.map U.int) 3=bD (.int (dd ds 3)):=bE (i:=3) ⋯;let m:Nat:=(1+dd ds 2 % 8).toNat;have hm:((m:Nat):Int)=1+dd ds 2 % 8:=by change(((1+dd ds 2 % 8).toNat:Nat):Int)=_;lia
 have Ym:m<=8/\0<m:=by lia
 have⟨st',run,K5,b,o4,o5,o6,o7,e,s,v⟩:=cM (t:=cc) (is:=[4]) (body:=execs Γ XN) (rs:=[(.loc,.int (m:Nat))]) (λi:Nat=>(Kd.loc,U.int (0+(i:Int))))
  (λd r st=>d++r=js m/\∃(b:List Str) (o4 o5 o6 o7:Option (Kd×U)),st=se ns W ds b o4 o5 o6 o7/\b.length=d.length/\∀x∈b,aH x.cps.toList) (λ_ _ _ _=>trivial) (λd i r st Ib=>by
   have⟨w,b,o4,o5,o6,o7,e,s,v⟩:=Ib;subst e;have JW:=ġ tA w;rw[gs,MW,k9]at JW;have hi:i<m:=wh.mp (by rw[<-w];simp);have⟨z,hz⟩:=D ns (60 - i) ⋯;rw[show((60 - i:Nat):Int)=60 - (0+(i:Int)) by lia]at hz;have⟨es,e1,e2,e3⟩:=G z 13 ⋯;have XO:Il (es.map U.int) 12=bD (.int (dd es 12)):=bE (i:=12) ⋯;have XQ:Il (es.map U.int) 11=bD (.int (dd es 11)):=bE (i:=11) ⋯;have⟨x,I,x2,x3⟩:=Q es (b++W) ⋯ e2 (by rw[gs];lia) (λy hy=>(gj.mp hy).elim (v y) (C y));let c:Option (Kd×U):=bD (.loc,.int (0+(i:Int)));let f:Option (Kd×U):=bD (.own,.lst (es.map .int));have J:Run (ev Γ (.call "_law_drawn" [.call "_law_cell" [.var 0,.bin .sub (.cst (.int 60)) (.var 4)],.cst (.int 13)])) (se ns W ds b c o5 o6 o7) (.own,.lst (es.map .int)) (se ns W ds b c o5 o6 o7) :=
    aF (rs:=[(.loc,.int z),(.loc,.int ((13:Nat):Int))]) (aa (aF (rs:=[(.any,.lst (ns.map .int)),(.loc,.int (60 - (0+(i:Int))))]) (aa (aS rfl) (aa (bj aw (ae rfl) trivial la) ai)) trivial hz) (aa aw ai)) trivial e3
   have L:∀{o6 o7:Option (Kd×U)},Run (ev Γ (.call "_law_name" [.var 5,.bin .add (.var 3) (.var 1)])) (se ns W ds b c f o6 o7) (.loc,.str x) (se ns W ds b c f o6 o7):=λ{o6 o7}=>by
    have ad:JD .add (.bor 3,.lst (b.map .str)) (.any,.lst (W.map .str))=bD (.own,.lst ((b++W).map .str)):=by
     rw[mu];show gI (by simp;lia) rfl (rX W)
    show aF (rs:=[(.bor 5,.lst (es.map .int)),(.own,.lst ((b++W).map .str))]) (aa (ao rfl) (aa (bj (ao rfl) (aS rfl) ⟨⟨.own,rfl,rfl⟩,trivial⟩ ad) ai)) ⟨⟨.own,rfl,rfl⟩,trivial⟩ x3
   have A:Run (H0 Γ (.cmp .eq (.bin .mod (.idx (.var 5) (.cst (.int 12))) (.cst (.int 2))) (.cst (.int 0)))) (se ns W ds b c f o6 o7) (dd es 12 % 2==0) (se ns W ds b c f o6 o7) :=
    bb (bj (a_ (ao rfl) aw ⟨⟨.own,rfl,rfl⟩,trivial⟩ (aV XO)) aw trivial (bK ⋯)) aw trivial (eB rfl)
   have app:∀{y:Str} {e:E} {o6 o7:Option (Kd×U)},Run (ev Γ e) (se ns W ds b c f o6 o7) (.loc,.str y) (se ns W ds b c f o6 o7)->Run (execs Γ [.app 3 e]) (se ns W ds b c f o6 o7) .nx (se ns W ds (b++[y]) c f o6 o7):=λ{y e o6 o7} h=>by
    have e:(b++[y]).map U.str=b.map U.str++[.str y]:=by simp
    change Run _ _ _ [bD (.any,.lst (ns.map .int)),bD (.any,.lst (W.map .str)),bD (.own,.lst (ds.map .int)),bD (.own,.lst ((b++[y]).map .str)),c,f,o6,o7];rw[e];show ff (k:=.own) (k':=.own) (r:=(.loc,.str y)) rfl h aI rfl rfl (by rw[cK];lia) aJ
   have l:∀{y:Str},aH y.cps.toList->∀x∈b++[y],aH x.cps.toList:=λ{y} hy x hx=>by
    rcases gj.mp hx with hx|hx
    .show v x hx
    .rw[mN.mp hx];show hy
   cases o:(dd es 12 % 2==0) with
   |true =>
    rw[o]at A;show⟨se ns W ds b c o5 o6 o7,se ns W ds (b++[x]) c f o6 o7,bM aC,av J aO (cD A (λ_=>app L) λh=>by cases h),by rw[<-w];simp,b++[x],_,_,_,_,rfl,by simp[s],l I⟩
   |false =>
    rw[o]at A;let a:Int:=dd es 11 % (((W.map U.str).length:Nat)+1:Int);let n:Option (Kd×U):=bD (.loc,.int a);let j:List Str:=cut W (bD a) b7++cut W b7 (bD a)++[x];have Je:j.length<=29:=by
     have:=kU W (bD a) b7;have:=kU W b7 (bD a);change(cut W (bD a) b7++cut W b7 (bD a)++[x]).length<=29;rw[gs,gs,OA];lia
    have XR:∀y∈j,aH y.cps.toList:=λy hy=>by
     rcases gj.mp hy with hy|hy
     .rcases gj.mp hy with hy|hy
      .show C y (vW hy)
      .show C y (vW hy)
     .rw[mN.mp hy];show I
    have XS:x∉b:=λh=>x2 (tj _ h);obtain⟨y,g,N⟩:∃y g,j.filter (λz=>df (z∉b))=y::g:=by
     cases q:j.filter (λz=>df (z∉b)) with
     |nil=>show absurd (Mh.mp q x (nC _ (by simp))) (by simp[XS])
     |cons y g=>show⟨y,g,rfl⟩
    have hy:y∈j:=(K'.mp (by rw[N];simp:y∈j.filter λz=>df (z∉b))).1;let B:Option (Kd×U):=bD (.own,.lst (j.map .str));have g6:Run (ev Γ (.bin .mod (.idx (.var 5) (.cst (.int 11))) (.bin .add (.bi .len [.var 1]) (.cst (.int 1))))) (se ns W ds b c f o6 o7) (.loc,.int a) (se ns W ds b c f o6 o7) :=
     bj (a_ (ao rfl) aw ⟨⟨.own,rfl,rfl⟩,trivial⟩ (aV XQ)) (bj (bZ (aa (aS rfl) ai) trivial gT) aw trivial dG) trivial (bK ⋯)
    have g7:Run (ev Γ (.bin .add (.bin .add (.JJ (.var 1) [.var 6] []) (.JJ (.var 1) [] [.var 6])) (.lst [.call "_law_name" [.var 5,.bin .add (.var 3) (.var 1)]]))) (se ns W ds b c f n o7) (.own,.lst (j.map .str)) (se ns W ds b c f n o7):=by
     have c1:=kU W (bD a) b7;have c2:=kU W b7 (bD a);show bj (bj (q_ (aS rfl) (qZ (ae rfl)) qY trivial vX) (q_ (aS rfl) qY (qZ (ae rfl)) trivial vX) trivial (gI (by simp;lia) rfl rfl)) (cS (us:=[.str x]) (aa L ai) trivial (aN aI aY) (by change 1<=c4;lia)) trivial ?_;rw[gI (by simp;lia) rfl rfl];change _=bD (Kd.own,U.lst ((cut W (bD a) b7++cut W b7 (bD a)++[x]).map U.str));simp
    have g3:Run (ev Γ (.idx (.comp 1 cc .seq [.var 7] [.cmp .HK (.var 0) (.var 4)] (.var 0)) (.cst (.int 0)))) (se ns W ds b c f n B) (.loc,.str y) (se ns W ds b c f n B):=by
     have O:=mH (cond:=aR Γ [.cmp .HK (.var 0) (.var 4)]) (elt:=ev Γ (.var 0)) (src:=[(.bor 7,.lst (j.map .str))]) (st:=se ns W ds b c f n B) ⟨⟨.own,rfl,rfl⟩,trivial⟩ .loc (.inl rfl) U.str U.str (λz=>df (z∉b)) .loc j [] (by simp;lia)
      (λz _=>⟨cZ (bb (ae rfl) (ao rfl) ⟨⟨.own,rfl,rfl⟩,trivial⟩ fj),λ_=>⟨ae rfl,aI⟩⟩)
     rw[lb]at O;have e:(j.map U.str).map (λu=>(kE (.bor 7),u))=j.map λp=>(Kd.loc,U.str p):=by rw[hQ];rfl
     show a_ (bW (rs:=[(.bor 7,.lst (j.map .str))]) (aa (ao rfl) ai) ⟨⟨.own,rfl,rfl⟩,trivial⟩ (by change bD _=_;rw[e]) O) aw trivial (aV ?_);rw[N];change Il _ ((0:Nat):Int)=_;show cn rfl
    show⟨se ns W ds b c o5 o6 o7,se ns W ds (b++[y]) c f n B,bM aC,av J aO (cD A (λh=>by cases h) λ_=>av g6 aC (av g7 aO (app g3))),by rw[<-w];simp,b++[y],_,_,_,_,rfl,by simp[s],l (XR y hy)⟩) (js m) [] (se ns W ds [] b7 b7 b7 b7) ⟨rfl,[],b7,b7,b7,b7,rfl,rfl,by simp⟩
 subst e;rw[lb,MW]at s;have⟨rows,b1,b2,b3,b4⟩:=o ns b 40 (dd ds 3 % 24).toNat ⋯ ⋯ ⋯;rw[Nr ⋯]at b4;show⟨b,rows,⋯,v,⋯,b2,b3,?_⟩;have HQ:TM.start [.lst (ns.map .int),.lst (W.map .str)] 8=[bD (.any,.lst (ns.map .int)),bD (.any,.lst (W.map .str)),b7,b7,b7,b7,b7,b7]:=rfl;have g2:Run (ev Γ (.call "_law_drawn" [.call "_law_cell" [.var 0,.cst (.int 0)],.cst (.int 4)])) [bD (.any,.lst (ns.map .int)),bD (.any,.lst (W.map .str)),b7,b7,b7,b7,b7,b7] (.own,.lst (ds.map .int)) [bD (.any,.lst (ns.map .int)),bD (.any,.lst (W.map .str)),b7,b7,b7,b7,b7,b7] :=
  aF (rs:=[(.loc,.int z),(.loc,.int ((4:Nat):Int))]) (aa (aF (rs:=[(.any,.lst (ns.map .int)),(.loc,.int ((0:Nat):Int))]) (aa (aS rfl) (aa aw ai)) trivial hz) (aa aw ai)) trivial T
 have gr:Run (bL Γ [.bin .add (.cst (.int 1)) (.bin .mod (.idx (.var 2) (.cst (.int 2))) (.cst (.int 8)))]) (se ns W ds [] b7 b7 b7 b7) [(.loc,.int (m:Nat))] (se ns W ds [] b7 b7 b7 b7):=by
  rw[hm];show aa (bj aw (bj (a_ (ao rfl) aw ⟨⟨.own,rfl,rfl⟩,trivial⟩ (aV Y)) aw trivial (bK ⋯)) trivial dG) ai
 show aE rfl (.inr rfl) HQ (av g2 aO (av (r:=(.own,.lst [])) (cS ai trivial aY (mA _)) aO (cH (rs:=[(.loc,.int (m:Nat))]) (st1:=se ns W ds [] b7 b7 b7 b7) gr trivial (iD ⋯) rfl run
  (bV (aF (rs:=[(.any,.lst (ns.map .int)),(.loc,.int ((40:Nat):Int)),(.bor 3,.lst (b.map .str)),(.loc,.int (dd ds 3 % 24))]) (aa (aS rfl) (aa aw (aa (ao rfl) (aa (bj (a_ (ao rfl) aw ⟨⟨.own,rfl,rfl⟩,trivial⟩ (aV i3)) aw trivial (bK ⋯)) ai)))) ⟨⟨.own,rfl,rfl⟩,trivial⟩ b4) dI))))
end
section
variable{Γ:Tab}{ns ds:List Int}{W names:List Str}{one other:List Row}
abbrev sa(ns:List Int)(one other:List Row)(a:List Str)(ds:List Int)(b:List Str)(o6:Option (Kd×U)):ar :=
 [bD (.any,.lst (ns.map .int)),bD (.loc,.tup (one.map A')),bD (.loc,.tup (other.map A')),bD (.own,.lst (a.map .str)),bD (.own,.lst (ds.map .int)),bD (.own,.lst (b.map .str)),o6]
abbrev XT:List TM.S:=[.ite (.cmp .eq (.bin .mod (.idx (.var 4) (.bin .mod (.var 6) (.cst (.int 16)))) (.cst (.int 2))) (.cst (.int 1))) [.ins 5 (.bin .mod (.idx (.var 4) (.cst (.int 16))) (.bin .add (.bi .len [.var 5]) (.cst (.int 1)))) (.idx (.var 3) (.var 6))] []]
def Ar(G:iE Γ)(H:fH Γ)(x:∀rows,rows=one\/rows=other->Γ "_law_words" [.tup (rows.map A')]=bD (.ok (.own,.lst ((aj rows).map .str))))(I:(aj one).length<=14):∃g:List Str,g.length<=16/\bB Γ fL [.lst (ns.map .int),.tup (one.map A'),.tup (other.map A')]=bD (.ok (.own,.lst (g.map .str))):=by
 have hsz:(1000:Nat)<=c4:=by decide
 have⟨z,hz⟩:=G ns 19 ⋯;have⟨ds,d1,d2,J⟩:=H z 20 ⋯;have ge:∀(i:Nat),i<20->∀{c g:List Str} {o6:Option (Kd×U)},Run (ev Γ (.idx (.var 4) (.cst (.int (i:Int))))) (sa ns one other c ds g o6) (.loc,.int (dd ds i)) (sa ns one other c ds g o6):=λi h=>a_ (ao rfl) aw ⟨⟨.own,rfl,rfl⟩,trivial⟩ (aV (bE ⋯));let c:=(aj one).filter λw=>df (w∈aj other);have Yn:c.length<=14:=ve (Kc _ _) I;let p:ar:=[bD (.any,.lst (ns.map .int)),bD (.loc,.tup (one.map A')),bD (.loc,.tup (other.map A')),b7,b7,b7,b7]
 have L:TM.start [.lst (ns.map .int),.tup (one.map A'),.tup (other.map A')] 7=p:=by simp[TM.start,Ii,aZ,p]
 have N:Run (ev Γ (.comp 1 cc .seq [.call "_law_words" [.var 1]] [.cmp .isin (.var 0) (.call "_law_words" [.var 3])] (.var 0))) p (.own,.lst (c.map .str)) p:=by
  have A:=mH (cond:=aR Γ [.cmp .isin (.var 0) (.call "_law_words" [.var 3])]) (elt:=ev Γ (.var 0)) (src:=[(.own,.lst ((aj one).map .str))]) (st:=p) trivial .loc (.inl rfl) U.str U.str (λz=>df (z∈aj other)) .loc (aj one) [] (by simp;lia)
   (λz _=>⟨cZ (bb (ae rfl) (aF (aa (ae rfl) ai) trivial (x other (.inr rfl))) trivial jw),λ_=>⟨ae rfl,aI⟩⟩)
  rw[lb]at A;show bW (rs:=[(.own,.lst ((aj one).map .str))]) (aa (aF (aa (ae rfl) ai) trivial (x one (.inl rfl))) ai) trivial (fM rfl) A
 have O:Run (ev Γ (.call "_law_drawn" [.call "_law_cell" [.var 0,.cst (.int 19)],.cst (.int 20)])) [bD (.any,.lst (ns.map .int)),bD (.loc,.tup (one.map A')),bD (.loc,.tup (other.map A')),bD (.own,.lst (c.map .str)),b7,b7,b7] (.own,.lst (ds.map .int)) [bD (.any,.lst (ns.map .int)),bD (.loc,.tup (one.map A')),bD (.loc,.tup (other.map A')),bD (.own,.lst (c.map .str)),b7,b7,b7] :=
  aF (rs:=[(.loc,.int z),(.loc,.int ((20:Nat):Int))]) (aa (aF (rs:=[(.any,.lst (ns.map .int)),(.loc,.int ((19:Nat):Int))]) (aa (aS rfl) (aa aw ai)) trivial hz) (aa aw ai)) trivial J
 obtain⟨st',run,_,g,o6,e,B⟩:=cM (t:=cc) (is:=[6]) (body:=execs Γ XT) (rs:=[(.loc,.int (c.length:Nat))]) (λi:Nat=>(Kd.loc,U.int (0+(i:Int))))
  (λd r st=>d++r=js c.length/\∃(g:List Str) (o6:Option (Kd×U)),st=sa ns one other c ds g o6/\g.length<=d.length) (λ_ _ _ _=>trivial) (λd i r st Q=>by
   have⟨s,g,o6,e,B⟩:=Q;subst e;have T:=ġ tA s;rw[gs,MW,k9]at T;have Y:i<c.length:=wh.mp (by rw[<-s];simp);let o:Option (Kd×U):=bD (.loc,.int (0+(i:Int)));have j6:Il (ds.map U.int) ((0+(i:Int)) % 16)=bD (.int (dd ds (i % 16))):=by
    have:=bE (ds:=ds) (i:=i % 16) ⋯;rw[show(((i % 16:Nat):Int))=(0+(i:Int)) % 16 by lia]at this;show this
   have m:Run (H0 Γ (.cmp .eq (.bin .mod (.idx (.var 4) (.bin .mod (.var 6) (.cst (.int 16)))) (.cst (.int 2))) (.cst (.int 1)))) (sa ns one other c ds g o) (dd ds (i % 16) % 2==1) (sa ns one other c ds g o) :=
    bb (bj (a_ (ao rfl) (bj (ae rfl) aw trivial (bK ⋯)) ⟨⟨.own,rfl,rfl⟩,trivial⟩ (aV j6)) aw trivial (bK ⋯)) aw trivial (eB rfl)
   cases n:(dd ds (i % 16) % 2==1) with
   |false =>
    rw[n]at m;show⟨sa ns one other c ds g o,sa ns one other c ds g o,bM aC,cD m (λh=>by cases h) λ_=>aJ,by rw[<-s];simp,g,_,rfl,by simp;lia⟩
   |true =>
    rw[n]at m;let j:Int:=dd ds 16 % (((g.map U.str).length:Nat)+1:Int);have j0:0<=j:=Tx _ ⋯;have C:j.toNat<=(g.map U.str).length:=by
     have:j<((g.map U.str).length:Nat)+1:=Sf _ ⋯;lia
    have u:Il (c.map U.str) (0+(i:Int))=bD (.str c[i]):=by
     rw[Tw];show cn (by simp[Y])
    let l:=g.take j.toNat++c[i]::g.drop j.toNat;have e':l.map U.str=(g.map U.str).take j.toNat++.str c[i]::(g.map U.str).drop j.toNat:=by simp[l,Ð,Ñ]
    show⟨sa ns one other c ds g o,sa ns one other c ds l o,bM aC,cD m (λ_=>?_) (λh=>by cases h),by rw[<-s];simp,l,_,rfl,?_⟩
    .change Run _ _ _ [bD (.any,.lst (ns.map .int)),bD (.loc,.tup (one.map A')),bD (.loc,.tup (other.map A')),bD (.own,.lst (c.map .str)),bD (.own,.lst (ds.map .int)),bD (.own,.lst (l.map .str)),o];rw[e'];show G1 (k:=.own) (k':=.own) (ky:=.loc) (j:=j) (r:=(.loc,.str c[i])) (us':=g.map .str) rfl (λz=>by cases z) (bj (ge 16 ⋯) (bj (bZ (aa (ao rfl) ai) ⟨⟨.own,rfl,rfl⟩,trivial⟩ gT) aw trivial dG) trivial (bK ⋯)) (a_ (ao rfl) (ae rfl) ⟨⟨.own,rfl,rfl⟩,trivial⟩ (aV u)) trivial aI rfl rfl j0 C (by rw[cK];lia) aJ
    .change(g.take j.toNat++c[i]::g.drop j.toNat).length<=_;rw[cK]at C;simp;lia) (js c.length) [] (sa ns one other c ds [] b7) ⟨rfl,[],b7,rfl,by simp⟩
 subst e;rw[lb,MW]at B;have app:∀{g:List Str} {y:Str} {e:E} {ss:List TM.S} {f:Fl} {st2:ar},g.length<=100->Run (ev Γ e) (sa ns one other c ds g o6) (.loc,.str y) (sa ns one other c ds g o6)->Run (execs Γ ss) (sa ns one other c ds (g++[y]) o6) f st2->Run (execs Γ (.app 5 e::ss)) (sa ns one other c ds g o6) f st2:=λ{g y e ss f st2} hl h v=>by
  have e:(g++[y]).map U.str=g.map U.str++[.str y]:=by simp
  unfold sa at v;rw[e]at v;show ff (k:=.own) (k':=.own) (r:=(.loc,.str y)) rfl h aI rfl rfl (by rw[cK];lia) v
 have q:∀(g:List Str),Run (execs Γ [.ret (.var 5)]) (sa ns one other c ds g o6) (.rt .own (.lst (g.map .str))) ((sa ns one other c ds g o6).set 5 b7):=λg=>bV (ao rfl) (kl rfl);have D:∀g:List Str,g.length<=15->∃(l:List Str) (st2:ar),l.length<=16/\Run (execs Γ [.ite (.and [.cmp .eq (.bin .mod (.idx (.var 4) (.cst (.int 18))) (.cst (.int 4))) (.cst (.int 1)),.cmp .gt (.bi .len [.var 5]) (.cst (.int 0))]) [.app 5 (.idx (.var 5) (.cst (.int 0)))] [],.ret (.var 5)]) (sa ns one other c ds g o6) (.rt .own (.lst (l.map .str))) st2:=λg hl=>by
  have m:Run (H0 Γ (.and [.cmp .eq (.bin .mod (.idx (.var 4) (.cst (.int 18))) (.cst (.int 4))) (.cst (.int 1)),.cmp .gt (.bi .len [.var 5]) (.cst (.int 0))])) (sa ns one other c ds g o6) ((dd ds 18 % 4==1)&&df (0<g.length)) (sa ns one other c ds g o6) :=
   il (jR (bb (bj (ge 18 ⋯) aw trivial (bK ⋯)) aw trivial (eB rfl)) λ_=>cZ (bb (bZ (aa (ao rfl) ai) ⟨⟨.own,rfl,rfl⟩,trivial⟩ gT) aw trivial (jo (by rw[cK,Iy];simp))))
  cases n:((dd ds 18 % 4==1)&&df (0<g.length)) with
  |false =>
   rw[n]at m;show⟨g,_,⋯,cD m (λh=>by cases h) λ_=>q g⟩
  |true =>
   rw[n]at m;rw[cL,Ĝ]at n;have u:Il (g.map U.str) 0=bD (.str g[0]):=by
    change Il _ ((0:Nat):Int)=_;show cn (by simp[n.2])
   show⟨g++[g[0]],_,by simp;lia,cD m (λ_=>app ⋯ (a_ (ao rfl) aw ⟨⟨.own,rfl,rfl⟩,trivial⟩ (aV u)) (q _)) λh=>by cases h⟩
 have p2:∃(l:List Str) (st2:ar),l.length<=16/\Run (execs Γ [.ite (.cmp .eq (.bin .mod (.idx (.var 4) (.cst (.int 17))) (.cst (.int 4))) (.cst (.int 1))) [.app 5 (.cst (.str "zzzzzzzz/99"))] [],.ite (.and [.cmp .eq (.bin .mod (.idx (.var 4) (.cst (.int 18))) (.cst (.int 4))) (.cst (.int 1)),.cmp .gt (.bi .len [.var 5]) (.cst (.int 0))]) [.app 5 (.idx (.var 5) (.cst (.int 0)))] [],.ret (.var 5)]) (sa ns one other c ds g o6) (.rt .own (.lst (l.map .str))) st2:=by
  have m:Run (H0 Γ (.cmp .eq (.bin .mod (.idx (.var 4) (.cst (.int 17))) (.cst (.int 4))) (.cst (.int 1)))) (sa ns one other c ds g o6) (dd ds 17 % 4==1) (sa ns one other c ds g o6):=bb (bj (ge 17 ⋯) aw trivial (bK ⋯)) aw trivial (eB rfl);cases n:(dd ds 17 % 4==1) with
  |false =>
   rw[n]at m;have⟨l,st2,a,b⟩:=D g ⋯;show⟨l,st2,a,cD m (λh=>by cases h) λ_=>b⟩
  |true =>
   rw[n]at m;have⟨l,st2,a,b⟩:=D (g++[("zzzzzzzz/99":Str)]) (by simp;lia);show⟨l,st2,a,cD m (λ_=>app ⋯ aw b) λh=>by cases h⟩
 have⟨l,st2,a,b⟩:=p2;have gl:Run (bL Γ [.bi .len [.var 3]]) (sa ns one other c ds [] b7) [(.loc,.int (c.length:Nat))] (sa ns one other c ds [] b7):=by
  have h:=bZ (Γ:=Γ) (st:=sa ns one other c ds [] b7) (f:=.len) (es:=[.var 3]) (aa (ao rfl) ai) ⟨⟨.own,rfl,rfl⟩,trivial⟩ (gT (xs:=c.map U.str));rw[cK]at h;show aa h ai
 show⟨l,a,aE rfl (.inl rfl) L (av N aO (av O aO (av (r:=(.own,.lst [])) (cS ai trivial aY (mA _)) aO (cH (rs:=[(.loc,.int (c.length:Nat))]) (st1:=sa ns one other c ds [] b7) gl trivial (iD ⋯) rfl run b))))⟩
end
end K
namespace TM
open PySem L2 Ig
def word_short{x:Str}(h:aH x.cps.toList):x.length<=20/\∀c∈x.cps.toList,c<16 ^ 8:=by
 have g:∀n:_root_.Fin 100,∀c∈(fZ ((n:Nat):Int)).cps.toList,c<16 ^ 8:=by decide +kernel
 rw[len_list];rcases h with h|⟨a,b,k,e,h,k2,i,f⟩
 .have⟨j,l,d⟩:=(bQ _).mp h;show⟨⋯,λc hc=>by have:=d c hc;lia⟩
 .have⟨j,l,d⟩:=(bQ _).mp h;have hl:=dS (k:=k) ⋯ i;rw[len_list,f]at hl;rw[e];show⟨by simp;lia,λc hc=>?_⟩;rcases gj.mp hc with hc|hc
  .have:=d c hc;lia
  .rcases d6.mp hc with rfl|hc
   .decide
   .rw[<-f]at hc;have:=g ⟨k.toNat,⋯⟩ c;have m:(((k.toNat:Nat)):Int)=k:=by lia
    rw[show(((⟨k.toNat,⋯⟩:_root_.Fin 100):Nat):Int)=k from m]at this;show this hc
abbrev Rp(n b:Nat)(u:U):Prop:=∃d,fV u=bD d/\d.showable=cb/\d.depth<=n/\d.leavesShort 8=cb/\d.bulk<=b
def qg(h:x.length<=20/\∀c∈x.cps.toList,c<16 ^ 8):Rp 0 20 (.str x):=by
 show⟨.str x,rfl,by simp[S8],by simp[U4],?_,?_⟩
 .simp only[RY,r6,Ĝ];show h.2
 .simp only[Vr];show h.1
theorem uf:∀{us:List U},(∀u∈us,Rp n b u)->∃ds,kI us=bD ds/\YV ds=cb/\Zv ds<=n/\Yt 8 ds=cb/\ZH ds<=(b+1) * us.length
 |[],_=>⟨[],rfl,rfl,mA _,rfl,mA _⟩
 |u::us,h=>by
  have⟨ds,e,a,i,c,j⟩:=uf λv g=>h v (kj _ g);have⟨d,f,b1,k,b3,b4⟩:=h u lg;show⟨d::ds,?_,?_,?_,?_,?_⟩
  .change(fV u).bind (λd=>(kI us).map (d::·))=_;rw[f,e];rfl
  .simp only[YV,a,b1,Ô]
  .simp only[Zv];lia
  .simp only[Yt,c,b3,Ô]
  .simp only[ZH,k9,ă];lia
def ug(h:∀u∈us,Rp n b u):Rp (n+1) ((b+1) * us.length) (.tup us):=by
 have⟨ds,e,a,f,c,d⟩:=uf h;show⟨.tuple ds,?_,by simp only[S8];show a,by simp only[U4];lia,by simp only[RY];show c,by simp only[Vr];show d⟩;change(kI us).map _=_;rw[e];rfl
def vY(h:Rp n b u)(a:n<=m)(e:b<=c):Rp m c u:=by
 have⟨d,f,b1,g,b3,b4⟩:=h;show⟨d,f,b1,⋯,b3,⋯⟩
def As(l:Bool)(h:∀u∈us,Rp n b u)(d:n<=40)(f:(b+1) * us.length<=2 ^ 20):∃s:Str,∀k,Jh .repr [(k,if l=cb then .lst us else .tup us)]=bD (.loc,.str s):=by
 have⟨ds,e,a,g,c,i⟩:=uf h;cases l with
 |false =>
  show⟨(PyData.tuple ds).shown,λk=>?_⟩;change(fV (.tup us)).bind _=_;have e:fV (.tup us)=bD (.tuple ds):=by change(kI _).map _=_;rw[e];rfl
  rw[e];change(if _/\_/\_/\_ then _ else _)=_;rw[ĝ ⟨by simp only[S8];show a,by simp only[U4];lia,Yi (B:=8) ⋯ ⋯ (by simp only[RY];show c) (by simp only[Vr];lia),rfl⟩]
 |true =>
  show⟨(PyData.list ds).shown,λk=>?_⟩;change(fV (.lst us)).bind _=_;have e:fV (.lst us)=bD (.list ds):=by change(kI _).map _=_;rw[e];rfl
  rw[e];change(if _/\_/\_/\_ then _ else _)=_;rw[ĝ ⟨by simp only[S8];show a,by simp only[U4];lia,Yi (B:=8) ⋯ ⋯ (by simp only[RY];show c) (by simp only[Vr];lia),rfl⟩]
def E9(e:r.2.length<=8)(a:aH r.1.cps.toList)(c:∀x∈r.2,aH x.cps.toList):Rp 2 400 (A' r):=by
 have h:Rp 1 168 (.tup (r.2.map .str)):=vY (ug (n:=0) (b:=20) λu hu=>by
  have⟨x,d,rfl⟩:=ez.mp hu;show qg (word_short (c x d))) (kb _) (by rw[cK];lia)
 show vY (ug (n:=1) (b:=168) (us:=[.str r.1,.tup (r.2.map .str)]) λu hu=>?_) (kb _) (by change 169 * 2<=400;lia);rcases d6.mp hu with rfl|hu
 .show vY (qg (word_short a)) ⋯ ⋯
 .rw[mN.mp hu];show h
def G2(a:aH p.1.cps.toList)(c:aH p.2.cps.toList):Rp 1 42 (Ji p):=by
 show vY (ug (n:=0) (b:=20) (us:=[.str p.1,.str p.2]) λu hu=>?_) (kb _) (by change 21 * 2<=42;lia);rcases d6.mp hu with rfl|hu
 .show qg (word_short a)
 .rw[mN.mp hu];show qg (word_short c)
def Cv(h:aH w.cps.toList)(c:i<98):aH (nm (stemOf w) i).cps.toList:=by
 have⟨y,r,e,b⟩:=h.a9;obtain⟨_,d,a⟩:=fm h;rw[e]at a;injection a with a
 rw[a]at b;show .inr ⟨(stemOf w).cps.toList,(fZ (2+(i:Int))).cps.toList,2+(i:Int),?_,b,⋯,⋯,rfl⟩;simp only[nm,jt,QP];rfl
def xI(h:aH w.cps.toList)(hl:L.length<98):aH (eM (stemOf w) L).cps.toList:=by
 have:=X' (fk (stemOf w) hl).1;have⟨i,a,e⟩:=ez.mp this;rw[<-e];show Cv h (wh.mp a)
theorem m6:∀(ws:List Str) (acc:List Pr),(∀w∈ws,aH w.cps.toList)->(∀p∈acc,aH p.1.cps.toList/\aH p.2.cps.toList)->mine.length+theirs.length+acc.length+ws.length<98->∀p∈h_ mine theirs same acc ws,aH p.1.cps.toList/\aH p.2.cps.toList
 |[],acc,_,h,_=>h
 |w::ws,acc,b,h,hl=>by
  rw[k9]at hl;have a:=b w lg;show m6 ws _ (λx c=>b x (kj _ c)) (λp hp=>?_) (by rw[gs];change _+(acc.length+1)+_<98;lia);rcases gj.mp hp with hp|hp
  .show h p hp
  .rw[mN.mp hp];show⟨a,?_⟩;unfold newName;change aH (if _ then _ else _:Str).cps.toList;split
   .show xI a (by simp;lia)
   .show a
section
def HJ(h:Run (ev Γ a) st (k,.bl c) st1):Run (ev Γ (.not a)) st (.loc,.bl !c) st1:=af h aW
def G3(h:Run (ev Γ e) st (k,.bl cb) st1):Run (qP Γ (e::a::es)) st (.loc,.bl cb) st1:=af h aW
def G4(h:Run (ev Γ e) st (k,.bl cc) st1)(a:Run (qP Γ (b::es)) st1 r st2):Run (qP Γ (e::b::es)) st r st2:=af h a
def G5(h:Run (ev Γ e) st r st1):Run (qP Γ [e]) st r st1:=h
end
def Au:bF .ne (A' a) (A' b)=bD (!df (a=b)):=by
 simp only[bF];rw[ĝ ⟨kR a,kR b⟩,oC]
end TM
namespace K
open PySem L2 TM Ig Od KL
section
variable{Γ:Tab}{rows tr one other:List Row}{L L2 names same:List Str}
abbrev Ki(rows tr:List Row)(a:Nat)(o3 o4:Option (Kd×U)):ar:=[bD (.loc,.tup (rows.map A')),bD (.loc,.tup (tr.map A')),bD (.loc,.int (a:Nat)),o3,o4]
abbrev Ox:E:=.and [.cmp .lt (.var 2) (.bi .len [.var 0]),.cmp .ne (.idx (.var 0) (.var 2)) (.var 3)]
theorem rY:∀(f a:Nat),(c::d).Sublist (rows.drop a)->rows.length - a<f ->
  ∃b,b<rows.length/\d.Sublist (rows.drop (b+1))/\Run (gw (H0 Γ Ox) (execs Γ [.set 2 (.bin .add (.var 2) (.cst (.int 1)))]) f) (Ki rows tr a (bD (.loc,A' c)) o4) .nx (Ki rows tr b (bD (.loc,A' c)) o4)
 |0,_,_,h=>by lia
 |f+1,a,hs,p=>by
  have g:a<rows.length:=Nat.lt_of_not_le λz=>by
   rw[Tr z]at hs;cases hs
  have j:Run (H0 Γ (.cmp .lt (.var 2) (.bi .len [.var 0]))) (Ki rows tr a (bD (.loc,A' c)) o4) cb (Ki rows tr a (bD (.loc,A' c)) o4):=bb (ae rfl) (bZ (aa (ae rfl) ai) trivial jq) trivial (zC (by rw[cK];simpa using g));have k:Run (H0 Γ (.cmp .ne (.idx (.var 0) (.var 2)) (.var 3))) (Ki rows tr a (bD (.loc,A' c)) o4) (!df (rows[a]=c)) (Ki rows tr a (bD (.loc,A' c)) o4):=bb (a_ (r:=(.loc,A' rows[a])) (ae rfl) (ae rfl) trivial (lp (qc (by simp[g])))) (ae rfl) trivial Au;have i:Run (H0 Γ Ox) (Ki rows tr a (bD (.loc,A' c)) o4) (!df (rows[a]=c)) (Ki rows tr a (bD (.loc,A' c)) o4):=il (pP j (cZ k));rw[Ka g]at hs;by_cases e:rows[a]=c
  .rw[Ġ e]at i;rw[e]at hs;show⟨a,g,List.cons_sublist_cons.mp hs,vK i⟩
  .rw[Ğ e]at i;have l:(c::d).Sublist (rows.drop (a+1)):=by
    cases hs with
    |cons _ z=>show z
    |cons_cons _ z=>show absurd rfl e
   have⟨b,m,n,o⟩:=rY f (a+1) l ⋯;show⟨b,m,n,xA i (av (r:=(.loc,.int ((a+1:Nat):Int))) (bj (ae rfl) aw trivial rfl) aC aJ) o⟩
abbrev XU:List TM.S:=[.LL Ox [.set 2 (.bin .add (.var 2) (.cst (.int 1)))],.ite (.cmp .eq (.var 2) (.bi .len [.var 0])) [.ret (.cst (.bl cc))] [],.set 2 (.bin .add (.var 2) (.cst (.int 1)))]
def uh(hs:tr.Sublist rows)(o:rows.length<=100)(p:Γ "_law_learnt" [.tup (rows.map A')]=bD (.ok (.own,.lst ((az L).map .str))))(q:Γ "_law_learnt" [.tup (tr.map A')]=bD (.ok (.own,.lst ((az L2).map .str))))(s:L2.Perm L)
  (u:∀k,k<tr.length->∃g:List Str,¬g.Perm L/\Γ "_law_learnt" [.tup ((tr.take k++tr.drop (k+1)).map A')]=bD (.ok (.own,.lst ((az g).map .str)))):bB Γ bO [.tup (rows.map A'),.tup (tr.map A')]=bD (.ok (.loc,.bl cb)):=by
 have hsz:(1000:Nat)<=c4:=by decide
 have J:tr.length<=100:=ve hs.length_le o;have v:TM.start [.tup (rows.map A'),.tup (tr.map A')] 5=[bD (.loc,.tup (rows.map A')),bD (.loc,.tup (tr.map A')),b7,b7,b7]:=by simp[TM.start,Ii,aZ]
 obtain⟨st1,w,_,a,o3,e,_⟩:=cM (t:=cc) (is:=[3]) (body:=execs Γ XU) (rs:=[(.loc,.tup (tr.map A'))]) (λr:Row=>(Kd.loc,A' r))
  (λd r st=>d++r=tr/\∃(a:Nat) (o3:Option (Kd×U)),st=Ki rows tr a o3 b7/\r.Sublist (rows.drop a)) (λ_ _ _ _=>trivial) (λd c r st x=>by
   have⟨y,a,o3,e,z⟩:=x;subst e;have⟨b,m,j,A⟩:=rY (Γ:=Γ) (tr:=tr) (o4:=b7) fuel a z (by change rows.length - a<1000000000000;lia);have B:Run (H0 Γ (.cmp .eq (.var 2) (.bi .len [.var 0]))) (Ki rows tr b (bD (.loc,A' c)) b7) cc (Ki rows tr b (bD (.loc,A' c)) b7):=bb (ae rfl) (bZ (aa (ae rfl) ai) trivial jq) trivial (eB (by rw[cK];simp;lia));show⟨Ki rows tr a (bD (.loc,A' c)) b7,Ki rows tr (b+1) (bD (.loc,A' c)) b7,bM aC,vL A (cD B (λh=>by cases h) λ_=>av (r:=(.loc,.int ((b+1:Nat):Int))) (bj (ae rfl) aw trivial rfl) aC aJ),by rw[<-y];simp,b+1,_,rfl,j⟩) tr [] (Ki rows tr 0 b7 b7) ⟨rfl,0,b7,rfl,hs⟩
 subst e;let S:ar:=Ki rows tr a o3 (bD (.own,.lst ((az L).map .str)));have C:Run (H0 Γ (.cmp .ne (.call "_law_learnt" [.var 1]) (.var 4))) S cc S :=
  bb (aF (aa (ae rfl) ai) trivial q) (ao rfl) ⟨⟨.own,rfl,rfl⟩,trivial⟩ (by
   change bF .ne (.lst ((az L2).map .str)) (.lst ((az L).map .str))=bD cc;rw[dA s];show gU (dq _ 49))
 have n:=c7 (cond:=aR Γ []) (elt:=ev Γ (.cmp .eq (.call "_law_learnt" [.bin .add (.JJ (.var 2) [] [.var 0]) (.JJ (.var 2) [.bin .add (.var 0) (.cst (.int 1))] [])]) (.var 5))) (src:=[(.loc,.int ((tr.length:Nat):Int))]) (st:=S) trivial .loc (.inl rfl) (λi:Nat=>U.int (0+(i:Int))) (λ_=>U.bl cc) .loc (λ_=>ei) (js tr.length) [] (by simp;lia)
  (λi l=>by
   have l:=wh.mp l;have⟨g,m,j⟩:=u i l;have s1:nq (.loc,.tup (tr.map A')) b7 (bD (0+(i:Int)))=bD (.loc,.tup ((tr.take i).map A')):=by
    change bD (Kd.loc,U.tup (cut (tr.map A') b7 (bD (0+(i:Int)))))=_;rw[pW,Tw];unfold cut;rw[HT.ur,HT.qp,XD,Á ⋯];rfl
   have s2:nq (.loc,.tup (tr.map A')) (bD (0+(i:Int)+1)) b7=bD (.loc,.tup ((tr.drop (i+1)).map A')):=by
    change bD (Kd.loc,U.tup (cut (tr.map A') (bD (0+(i:Int)+1)) b7))=_;rw[pW,show(0+(i:Int)+1)=((i+1:Nat):Int) by lia];unfold cut;rw[HT.ur,HT.qp,Á ⋯,NX (by rw[Km];lia)]
   have D:JD .add (.loc,.tup ((tr.take i).map A')) (.loc,.tup ((tr.drop (i+1)).map A'))=bD (.loc,.tup ((tr.take i++tr.drop (i+1)).map A')):=by
    simp only[JD,sQ];rw[ĝ (by rw[cK,cK,vr,Km];lia),mu];rfl
   show⟨ij (aF (aa (bj (q_ (ae rfl) qY (qZ (ae rfl)) trivial s1) (q_ (ae rfl) (qZ (bj (ae rfl) aw trivial dG)) qY trivial s2) trivial D) ai) trivial j) (ao rfl) ⟨⟨.own,rfl,rfl⟩,trivial⟩ (by
     change bF .eq (.lst ((az g).map .str)) (.lst ((az L).map .str))=bD cc;rw[mI,Ğ λh=>m (jH.mp h)]),aI⟩)
 rw[lb]at n;have G:Run (bL Γ [.bi .len [.var 1]]) S [(.loc,.int ((tr.length:Nat):Int))] S:=by
  have h:=bZ (Γ:=Γ) (st:=S) (f:=.len) (es:=[.var 1]) (aa (ae rfl) ai) trivial (jq (xs:=tr.map A'));rw[cK]at h;show aa h ai
 have H:Jh .any [(.own,.lst ((js tr.length).map λ_=>U.bl cc))]=bD (.loc,.bl cc):=by
  have:=vP (k:=.own) ((js tr.length).map λ_=>cc);rw[hQ]at this;show this.trans ?_;congr 3
  simp
 have I:Run (ev Γ (.not (.bi .any [.comp 1 cc .Iv [.bi .len [.var 1]] [] (.cmp .eq (.call "_law_learnt" [.bin .add (.JJ (.var 2) [] [.var 0]) (.JJ (.var 2) [.bin .add (.var 0) (.cst (.int 1))] [])]) (.var 5))]))) S (.loc,.bl cb) S :=
  HJ (bZ (aa (bW (rs:=[(.loc,.int ((tr.length:Nat):Int))]) G trivial (iD ⋯) n) ai) trivial H)
 show aE rfl (.inr rfl) v (av aw aC (cH (rs:=[(.loc,.tup (tr.map A'))]) (st1:=Ki rows tr 0 b7 b7) (aa (ae rfl) ai) trivial (jz (k:=.loc) (rows:=tr) cb) rfl w (av (aF (aa (ae rfl) ai) trivial p) aO (cD C (λh=>by cases h) λ_=>bV I dI))))
def rZ(h:Γ "laid" [.tup (one.map A'),.tup (other.map A'),.lst (same.map .str)]=bD (.exc "TooMany")):bB Γ dz [.tup (one.map A'),.tup (other.map A'),.lst (same.map .str)]=bD (.ok (.loc,.bl cb)):=by
 have a:TM.start [.tup (one.map A'),.tup (other.map A'),.lst (same.map .str)] 5=[bD (.loc,.tup (one.map A')),bD (.loc,.tup (other.map A')),bD (.any,.lst (same.map .str)),b7,b7]:=by simp[TM.start,Ii,aZ]
 show aE rfl (.inr rfl) a (av aw aC (GY (rs:=[(.loc,.tup (one.map A')),(.loc,.tup (other.map A')),(.any,.lst (same.map .str))]) (aa (ae rfl) (aa (ae rfl) (aa (aS rfl) ai))) trivial h rfl (by decide) (bV (ae rfl) dI)))
end
section
variable{Γ:Tab}{one other:List Row}{same K1 K2 Kb:List Str}
abbrev dU(ps:List Pr):U:=.HM (ps.map (·.1)) (ps.map λp=>.str p.2)
def ui(I:(IS one other same).map (·.1)=aj other)(N:xE (aj one) (aj other) same (bN (IS one other same)))(k1:Kn one K1)(k2:Kn other K2)(n:Kn (b_ one other same) Kb)
  (J:Γ "_law_learnt" [.tup (one.map A')]=bD (.ok (.own,.lst ((az K1).map .str)))) (L:Γ "_law_learnt" [.tup (other.map A')]=bD (.ok (.own,.lst ((az K2).map .str)))) (O:Γ "_law_learnt" [.tup ((b_ one other same).map A')]=bD (.ok (.own,.lst ((az Kb).map .str))))
  (A:∀rows,rows=one\/rows=other->Γ "_law_words" [.tup (rows.map A')]=bD (.ok (.own,.lst ((aj rows).map .str)))) (Q:(aj one).length<=14) (T:(aj other).length<=14) :
  bB Γ dR [.tup (one.map A'),.tup (other.map A'),dU (IS one other same),.tup ((b_ one other same).map A'),.lst (same.map .str)]=bD (.ok (.loc,.bl cb)):=by
 have hsz:(1000:Nat)<=c4:=by decide
 let ps:=IS one other same;have m1:K1.length<=14:=ve (kq k1.nd k1.words) Q;have m2:K2.length<=14:=ve (kq k2.nd k2.words) T;let d:List Str:=az K1++(az K2).map (bN ps);have JW:d.length<=28:=by
  change(az K1++(az K2).map (bN ps)).length<=28;rw[gs,cK,bo,bo];lia
 have C:∀x∈d,x∈Kb:=λx hx=>by
  rcases gj.mp hx with hx|hx
  .show Aj k1 n x ((aX _).mem_iff.mp hx)
  .have⟨y,p,rfl⟩:=ez.mp hx;show ub k2 n y ((aX _).mem_iff.mp p)
 let B:List Row:=b_ one other same;let g:Option (Kd×U):=bD (.loc,.tup (one.map A'));let i:Option (Kd×U):=bD (.loc,.tup (other.map A'));let j:Option (Kd×U):=bD (.any,dU ps);let l:Option (Kd×U):=bD (.loc,.tup (B.map A'));let m:Option (Kd×U):=bD (.any,.lst (same.map .str));let o:Option (Kd×U):=bD (.own,.lst ((az Kb).map .str));let r:Option (Kd×U):=bD (.own,.lst (d.map .str));let D:Option (Kd×U):=bD (.own,.lst ((aj one).map .str));have Y:TM.start [.tup (one.map A'),.tup (other.map A'),dU ps,.tup (B.map A'),.lst (same.map .str)] 9=[g,i,j,l,m,b7,b7,b7,b7]:=by simp[TM.start,Ii,aZ,dU,g,i,j,l,m]
 let s:ar:=[g,i,j,l,m,o,b7,b7,b7]
 have g6:Run (ev Γ (.bin .add (.call "_law_learnt" [.var 0]) (.comp 1 cc .seq [.call "_law_learnt" [.var 1]] [] (.idx (.var 3) (.var 0))))) s (.own,.lst (d.map .str)) s:=by
  have hx:=c7 (cond:=aR Γ []) (elt:=ev Γ (.idx (.var 3) (.var 0))) (src:=[(.own,.lst ((az K2).map .str))]) (st:=s) trivial .loc (.inl rfl) U.str (λx=>.str (bN ps x)) .any (λ_=>ei) (az K2) [] (by rw[bo];simp;lia)
   (λx hx=>⟨a_ (aS rfl) (ae rfl) trivial (jy (by rw[I];show k2.words x ((aX _).mem_iff.mp hx))),jn rfl⟩)
  rw[lb]at hx;show bj (aF (aa (ae rfl) ai) trivial J) (bW (rs:=[(.own,.lst ((az K2).map .str))]) (aa (aF (aa (ae rfl) ai) trivial L) ai) trivial (fM rfl) hx) trivial ?_;rw[gI (by rw[cK,cK,bo,bo];lia) rfl rfl];change _=bD (Kd.own,U.lst ((az K1++(az K2).map (bN ps)).map U.str));rw[mu,hQ];rfl
 let t:ar:=[g,i,j,l,m,o,r,b7,b7]
 have t6:Run (H0 Γ (.not (.bi .all [.comp 1 cc .seq [.var 6] [] (.cmp .isin (.var 0) (.var 6))]))) t cc t:=by
  have hx:=c7 (cond:=aR Γ []) (elt:=ev Γ (.cmp .isin (.var 0) (.var 6))) (src:=[(.bor 6,.lst (d.map .str))]) (st:=t) ⟨⟨.own,rfl,rfl⟩,trivial⟩ .loc (.inl rfl) U.str (λx=>.bl (df (x∈az Kb))) .loc (λ_=>ei) d [] (by simp;lia)
   (λx hx=>⟨ij (ae rfl) (ao rfl) ⟨⟨.own,rfl,rfl⟩,trivial⟩ jw,aI⟩)
  rw[lb]at hx;have ha:Jh .all [(.own,.lst (d.map λx=>U.bl (df (x∈az Kb))))]=bD (.loc,.bl cb):=by
   have:=vM (k:=.own) (d.map λx=>df (x∈az Kb));rw[hQ]at this;show this.trans ?_;have e:(d.map λx=>df (x∈az Kb)).all id=cb:=by
    rw[YD,r6];show λx hx=>Ġ ((aX _).mem_iff.mpr (C x hx))
   rw[e]
  show zu (c:=cb) (tX (bZ (aa (bW (rs:=[(.bor 6,.lst (d.map .str))]) (aa (ao rfl) ai) ⟨⟨.own,rfl,rfl⟩,trivial⟩ (fM rfl) hx) ai) trivial ha))
 let u:ar:=[g,i,j,l,m,o,r,D,b7]
 let f:=(aj other).filter λw=>df (w∈aj one)&&df (w∈same);have g8:Run (ev Γ (.comp 1 cc .seq [.call "_law_words" [.var 1]] [.and [.cmp .isin (.var 0) (.var 8),.cmp .isin (.var 0) (.var 5)]] (.var 0))) u (.own,.lst (f.map .str)) u:=by
  have G:=mH (cond:=aR Γ [.and [.cmp .isin (.var 0) (.var 8),.cmp .isin (.var 0) (.var 5)]]) (elt:=ev Γ (.var 0)) (src:=[(.own,.lst ((aj other).map .str))]) (st:=u) trivial .loc (.inl rfl) U.str U.str (λz=>df (z∈aj one)&&df (z∈same)) .loc (aj other) [] (by simp;lia)
   (λz _=>⟨cZ (il (jR (bb (ae rfl) (ao rfl) ⟨⟨.own,rfl,rfl⟩,trivial⟩ jw) λ_=>cZ (bb (ae rfl) (aS rfl) trivial jw))),λ_=>⟨ae rfl,aI⟩⟩)
  rw[lb]at G;show bW (rs:=[(.own,.lst ((aj other).map .str))]) (aa (aF (aa (ae rfl) ai) trivial (A other (.inr rfl))) ai) trivial (fM rfl) G
 let H:ar:=[g,i,j,l,m,o,r,D,bD (.own,.lst (f.map .str))]
 have gr:Run (ev Γ (.or [.cmp .gt (.bi .len [.var 8]) (.cst (.int 0)),.cmp .eq (.var 5) (.Ma .sset [.var 6])])) H (.loc,.bl cb) H:=by
  by_cases v:f=[]
  .have hs:∀w∈same,w∈aj one->w∉aj other:=λw a b c=>by
    have:=Mh.mp v w c;simp[a,b]at this
   have MI:=mJ (k:=.bor 6) (acc:=d) ⋯ (by have:=lE d;lia);have e:az Kb=az (aP d):=dA ((O4 n.nd (cW d)).mpr λx=>by
    rw[dZ];show⟨λhx=>?_,C x⟩;rcases xF N hs k1 k2 n x hx with h|h
    .show tj _ ((aX _).mem_iff.mpr h)
    .have⟨y,p,q⟩:=ez.mp h;show nC _ (ez.mpr ⟨y,(aX _).mem_iff.mpr p,q⟩))
   show GF (G4 (ij (c:=cc) (bZ (aa (ao rfl) ai) ⟨⟨.own,rfl,rfl⟩,trivial⟩ gT) aw trivial (jo (by rw[v];rfl))) (G5 (ij (ao rfl) (zt (aa (ao rfl) ai) ⟨⟨.own,rfl,rfl⟩,trivial⟩ MI) ⟨⟨.own,rfl,rfl⟩,trivial⟩ ?_)));change bF .eq (.lst ((az Kb).map .str)) (.lst ((az (aP d)).map .str))=bD cb;rw[mI,Ġ e]
  .have hp:0<f.length:=Za.mpr v;show GF (G3 (ij (c:=cb) (bZ (aa (ao rfl) ai) ⟨⟨.own,rfl,rfl⟩,trivial⟩ gT) aw trivial (jo (by rw[cK];simpa using hp))))
 show aE rfl (.inr rfl) Y (av (aF (aa (ae rfl) ai) trivial O) aO (av g6 aO (cD t6 (λh=>by cases h) λ_=>av (aF (aa (ae rfl) ai) trivial (A one (.inl rfl))) aO (av g8 aO (bV gr dI)))))
end
section
variable{Γ:Tab}{one other B tr:List Row}{same:List Str}{ps:List Pr}{ns:List Int}{s1 s2:Str}
def xJ(o:Γ "_law_made" [.lst (ns.map .int)]=bD (.ok (.loc,.tup (one.map A'))))(q:Γ "_law_words" [.tup (one.map A')]=bD (.ok (.own,.lst ((aj one).map .str))))
  (s:Γ "_law_second" [.lst (ns.map .int),.lst ((aj one).map .str)]=bD (.ok (.loc,.tup (other.map A')))) (t:Γ "_law_same" [.lst (ns.map .int),.tup (one.map A'),.tup (other.map A')]=bD (.ok (.own,.lst (same.map .str))))
  (u:Γ "_law_new_names" [.tup (one.map A'),.tup (other.map A'),.lst (same.map .str)]=bD (.ok (.own,.lst (ps.map Ji)))) (v:Γ "new_names" [.tup (one.map A'),.tup (other.map A'),.lst (same.map .str)]=bD (.ok (.own,.lst (ps.map Ji))))
  (i:∀k,Jh .repr [(k,.lst (ps.map Ji))]=bD (.loc,.str s1)) (w:(ps.map (·.1)).Nodup) (x:Γ "_law_laid" [.tup (one.map A'),.tup (other.map A'),dU ps]=bD (.ok (.loc,.tup (B.map A'))))
  (y:60<B.length->Γ "_law_refused" [.tup (one.map A'),.tup (other.map A'),.lst (same.map .str)]=bD (.ok (.loc,.bl cb))) (z:¬60<B.length->Γ "laid" [.tup (one.map A'),.tup (other.map A'),.lst (same.map .str)]=bD (.ok (.loc,.tup (B.map A'))))
  (j:∀k,Jh .repr [(k,.tup (B.map A'))]=bD (.loc,.str s2)) (A:Γ "_law_taught" [.tup (one.map A'),.tup (other.map A'),dU ps,.tup (B.map A'),.lst (same.map .str)]=bD (.ok (.loc,.bl cb)))
  (C:Γ "trimmed" [.tup (B.map A')]=bD (.ok (.loc,.tup (tr.map A')))) (D:Γ "_law_trimmed_right" [.tup (B.map A'),.tup (tr.map A')]=bD (.ok (.loc,.bl cb))):bB Γ rN [tK ns]=bD (.ok (.loc,.bl cb)):=by
 let g:Option (Kd×U):=bD (.any,.lst (ns.map .int));have l:TM.start [tK ns] 9=[g,b7,b7,b7,b7,b7,b7,b7,b7]:=rfl;let G:Option (Kd×U):=bD (.loc,.tup (one.map A'));let H:Option (Kd×U):=bD (.loc,.tup (other.map A'));let m:Option (Kd×U):=bD (.own,.lst (same.map .str));let I:Option (Kd×U):=bD (.own,.lst (ps.map Ji));let a:Option (Kd×U):=bD (.loc,.tup (B.map A'));let S:=λ(o6 o7 o8:Option (Kd×U))=>([g,G,H,m,I,m,o6,o7,o8]:ar)
 have ne:∀{o6 o7 o8:Option (Kd×U)},Run (H0 Γ (.cmp .ne (.var 5) (.var 3))) (S o6 o7 o8) cc (S o6 o7 o8):=λ{o6 o7 o8}=>bb (ao rfl) (ao rfl) ⟨⟨.own,rfl,rfl⟩,⟨.own,rfl,rfl⟩,trivial⟩ (gU (dq _ 49));have n:∀{o6 o7 o8:Option (Kd×U)},Run (ev Γ (.bi .dict [.var 4])) (S o6 o7 o8) (.own,dU ps) (S o6 o7 o8):=λ{o6 o7 o8}=>bZ (aa (ao rfl) ai) ⟨⟨.own,rfl,rfl⟩,trivial⟩ (vQ w);have J:Run (H0 Γ (.or [.cmp .ne (.bi .repr [.call "new_names" [.var 1,.var 2,.var 5]]) (.bi .repr [.var 4]),.cmp .ne (.var 5) (.var 3)])) (S b7 b7 b7) cc (S b7 b7 b7) :=
  ET (vA (bb (bZ (aa (aF (aa (ae rfl) (aa (ae rfl) (aa (ao rfl) ai))) ⟨⟨.own,rfl,rfl⟩,trivial⟩ v) ai) trivial (i _)) (bZ (aa (ao rfl) ai) ⟨⟨.own,rfl,rfl⟩,trivial⟩ (i _)) trivial (gU rfl)) (zw ne))
 have L:Run (ev Γ (.call "_law_laid" [.var 1,.var 2,.bi .dict [.var 4]])) (S b7 b7 b7) (.loc,.tup (B.map A')) (S b7 b7 b7):=aF (aa (ae rfl) (aa (ae rfl) (aa n ai))) trivial x;have d:Run (H0 Γ (.cmp .gt (.bi .len [.var 6]) (.cst (.int 60)))) (S a b7 b7) (df (60<B.length)) (S a b7 b7):=bb (bZ (aa (ae rfl) ai) trivial jq) aw trivial (jo (by rw[cK,Iy];simp;lia));have b:∀{f:Fl} {st2:ar},Run (execs Γ [.ite (.cmp .gt (.bi .len [.var 6]) (.cst (.int 60)))
   [.ret (.call "_law_refused" [.var 1,.var 2,.var 5])]
   [],
  .set 7 (.call "laid" [.var 1,.var 2,.var 5]),
  .ite (.or [.cmp .ne (.bi .repr [.var 7]) (.bi .repr [.var 6]),.cmp .ne (.var 5) (.var 3),.not (.call "_law_taught" [.var 1,.var 2,.bi .dict [.var 4],.var 7,.var 3])])
   [.ret (.cst (.bl cc))]
   [],
  .set 8 (.call "trimmed" [.var 7]),
  .ret (.and [(.Ms (.var 8) .tuple),(.call "_law_trimmed_right" [(.var 7),(.var 8)])])]) (S a b7 b7) f st2->Run (execs Γ rN.body) [g,b7,b7,b7,b7,b7,b7,b7,b7] f st2:=λh =>
  av (aF (aa (aS rfl) ai) trivial o) aC (av (aF (aa (aS rfl) (aa (aF (aa (ae rfl) ai) trivial q) ai)) trivial s) aC (av (aF (aa (aS rfl) (aa (ae rfl) (aa (ae rfl) ai))) trivial t) aO
   (av (aF (aa (ae rfl) (aa (ae rfl) (aa (ao rfl) ai))) ⟨⟨.own,rfl,rfl⟩,trivial⟩ u) aO (av (r:=(.own,.lst (same.map .str))) (bZ (aa (ao rfl) ai) ⟨⟨.own,rfl,rfl⟩,trivial⟩ rfl) aO (cD J (λh=>by cases h) λ_=>av L aC h)))))
 by_cases e:60<B.length
 .rw[Ġ e]at d;show aE rfl (.inr rfl) l (b (tN d (bV (aF (aa (ae rfl) (aa (ae rfl) (aa (ao rfl) ai))) ⟨⟨.own,rfl,rfl⟩,trivial⟩ (y e)) dI)))
 .rw[Ğ e]at d;have N:Run (H0 Γ (.or [.cmp .ne (.bi .repr [.var 7]) (.bi .repr [.var 6]),.cmp .ne (.var 5) (.var 3),.not (.call "_law_taught" [.var 1,.var 2,.bi .dict [.var 4],.var 7,.var 3])])) (S a a b7) cc (S a a b7) :=
   ET (vA (bb (bZ (aa (ae rfl) ai) trivial (j _)) (bZ (aa (ae rfl) ai) trivial (j _)) trivial (gU rfl)) (vA ne (zw (zu (c:=cb) (EX (aa (ae rfl) (aa (ae rfl) (aa n (aa (ae rfl) (aa (ao rfl) ai))))) ⟨⟨.own,rfl,rfl⟩,trivial⟩ A rfl)))))
  have O:Run (ev Γ (.and [.Ms (.var 8) .tuple,.call "_law_trimmed_right" [.var 7,.var 8]])) (S a a (bD (.loc,.tup (tr.map A')))) (.loc,.bl cb) (S a a (bD (.loc,.tup (tr.map A')))) :=
   GD (ES (p:=cb) (GQ (ae rfl) rfl) (by rw[ĝ rfl];show ER (aF (aa (ae rfl) (aa (ae rfl) ai)) trivial D)))
  show aE rfl (.inr rfl) l (b (cD d (λh=>by cases h) λ_=>av (aF (aa (ae rfl) (aa (ae rfl) (aa (ao rfl) ai))) ⟨⟨.own,rfl,rfl⟩,trivial⟩ (z e)) aC (cD N (λh=>by cases h) λ_=>av (aF (aa (ae rfl) ai) trivial C) aC (bV O dI))))
end
def makers:zN prog:=⟨rfl,rfl,rfl,rfl,rfl,rfl,rfl⟩
section
variable{W:List Str}{rows:List Row}
def Cw(n:Nat)(d:∀r∈rows,cz W r)(e:W.length<=24)(f:rows.length<=100):∃(L:List Str) (tr:List Row),Oz rows L tr/\Io prog (n+5) "trimmed" [.tup (rows.map A')]=bD (.ok (.loc,.tup (tr.map A'))):=by
 have⟨g,a,b,c⟩:=Co XF n d e ⋯;show⟨_,_,E7 a,(aB (show IA prog "trimmed" gY from rfl) _).trans (rV f a ⋯ c)⟩
def gJ(n:Nat)(e:∀r∈rows,cz W r)(g:W.length<=24)(f:rows.length<=100):∃L:List Str,Kn rows L/\Io prog (n+1) "_law_learnt" [.tup (rows.map A')]=bD (.ok (.own,.lst ((az L).map .str))):=by
 have⟨L,a,b,c,d⟩:=K.ud (Γ:=Io prog n) (λr h=>(e r h).JV) f (λr h=>(e r h).word) (show W.length<64 by lia);show⟨L,⟨a,b,c⟩,(aB (show IA prog "_law_learnt" dP from rfl) _).trans d⟩
end
def pure(ns:List Int)(Jg:ns.length<=63):Io prog 6 "law" [tK ns]=bD (.ok (.loc,.bl cb)):=by
 have⟨names,one,a1,C,a3,D,a5,a6,g,T⟩:=zK (Γ:=Io prog 4) makers.iF makers.drawnOk makers.namesOk makers.zO ns;have Y:Io prog 5 "_law_made" [.lst (ns.map .int)]=bD (.ok (.loc,.tup (one.map A'))):=(aB (show IA prog "_law_made" zJ from rfl) _).trans T;have w1:=du g;have⟨ot,a,b1,v,b3,b4,e,b6⟩:=ue (Γ:=Io prog 4) (ns:=ns) (W:=aj one) makers.iF makers.drawnOk (TM.zL (d:=3) vE makers.name) makers.zO ⋯ λx hx=>D x (c8 g x (dr.mp hx));have NY:Io prog 5 "_law_second" [.lst (ns.map .int),.lst ((aj one).map .str)]=bD (.ok (.loc,.tup (a.map A'))):=(aB (show IA prog "_law_second" dQ from rfl) _).trans b6;have w2:=du e;have G:∀x∈aj a,aH x.cps.toList:=λx hx=>v x (c8 e x (dr.mp hx));have j:∀n rows,rows=one\/rows=a->Io prog (n+1) "_law_words" [.tup (rows.map A')]=bD (.ok (.own,.lst ((aj rows).map .str))):=λn rows w=>by
  rcases w with rfl|rfl
  .show(aB (show IA prog "_law_words" dF from rfl) _).trans (mY ⋯ g ⋯)
  .show(aB (show IA prog "_law_words" dF from rfl) _).trans (mY ⋯ e ⋯)
 have⟨same,c1,c2⟩:=Ar (Γ:=Io prog 4) (ns:=ns) makers.iF makers.drawnOk (j 3) ⋯;have LY:Io prog 5 "_law_same" [.lst (ns.map .int),.tup (one.map A'),.tup (a.map A')]=bD (.ok (.own,.lst (same.map .str))):=(aB (show IA prog "_law_same" fL from rfl) _).trans c2;have⟨i,N⟩:=GZ (mine:=aj one) (same:=same) (dO a) ⋯ ⋯;have i:(IS one a same).map (·.1)=aj a:=i;have N:xE (aj one) (aj a) same (bN (IS one a same)):=N;have LZ:Io prog 5 "_law_new_names" [.tup (one.map A'),.tup (a.map A'),.lst (same.map .str)]=bD (.ok (.own,.lst ((IS one a same).map Ji))):=(aB (show IA prog "_law_new_names" cI from rfl) _).trans (Ao (j 3) ⋯ ⋯ G);have Jl:=Ah (same:=same) 3 ⋯ ⋯ C ⋯ g e v;have z:∀p∈IS one a same,aH p.1.cps.toList/\aH p.2.cps.toList:=m6 _ _ G (by simp) (by simp;lia);have Je:(IS one a same).length<=14:=by have:=ġ tA i;rw[cK]at this;lia
 have⟨s1,LQ⟩:=As (n:=1) (b:=42) (us:=(IS one a same).map Ji) cb (λu A=>by
  have⟨p,l,rfl⟩:=ez.mp A;show G2 (z p l).1 (z p l).2) ⋯ (by rw[cK];lia)
 have hB:one++(a.map (cu (IS one a same))).filter (λr=>!(one.any λs=>Jz s r))=b_ one a same:=(mZ (Ap N e b4)).symm;have KD:Io prog 5 "_law_laid" [.tup (one.map A'),.tup (a.map A'),dU (IS one a same)]=bD (.ok (.loc,.tup ((b_ one a same).map A'))):=by
  rw[<-hB];show(aB (show IA prog "_law_laid" fK from rfl) _).trans (xH ⋯ ⋯ (λr h=>(g r h).JV) (λr h=>(e r h).JV) (by rw[i];show ua a))
 have H:=λn=>Ai (same:=same) n ⋯ ⋯ C ⋯ g e v;have NZ:60<(b_ one a same).length->Io prog 5 "_law_refused" [.tup (one.map A'),.tup (a.map A'),.lst (same.map .str)]=bD (.ok (.loc,.bl cb)):=λh=>(aB (show IA prog "_law_refused" dz from rfl) _).trans (rZ ((H 1).trans (ĝ h)));have TJ:¬60<(b_ one a same).length->Io prog 5 "laid" [.tup (one.map A'),.tup (a.map A'),.lst (same.map .str)]=bD (.ok (.loc,.tup ((b_ one a same).map A'))):=λh=>(H 2).trans (ğ h);have Yo:(b_ one a same).length<=70:=by
  have:=fO (a.map (cu (IS one a same))) one;rw[cK]at this;change(bC one (a.map (cu (IS one a same)))).length<=70;lia
 have m:=Cr N g e;let W:=names++(aj a).map (bN (IS one a same));have o:W.length<=24:=by
  change(names++(aj a).map (bN (IS one a same))).length<=24;rw[gs,cK];lia
 have I:∀x∈W,aH x.cps.toList:=λx hx=>by
  rcases gj.mp hx with hx|hx
  .show D x hx
  .have⟨y,hy,rfl⟩:=ez.mp hx;show(z _ (mW (by rw[i];show hy))).2
 have⟨s2,Mb⟩:=As (n:=2) (b:=400) (us:=(b_ one a same).map A') cc (λu A=>by
  have⟨r,w,rfl⟩:=ez.mp A;have q:=m r w;show E9 q.JV (I _ q.word) λx hx=>I x (q.told x hx)) ⋯ (by rw[cK];lia)
 have⟨K1,k1,l1⟩:=gJ 3 g ⋯ ⋯;have⟨K2,k2,l2⟩:=gJ 3 e ⋯ ⋯;have⟨Kb,t,J⟩:=gJ 3 m o ⋯;have JU:Io prog 5 "_law_taught" [.tup (one.map A'),.tup (a.map A'),dU (IS one a same),.tup ((b_ one a same).map A'),.lst (same.map .str)]=bD (.ok (.loc,.bl cb)):=(aB (show IA prog "_law_taught" dR from rfl) _).trans (ui i N k1 k2 t l1 l2 J (j 3) ⋯ ⋯);have⟨L,tr,f,t2⟩:=Cw 0 m o ⋯;have O:∀r∈tr,cz W r:=λr h=>m r (f.sub.subset h);have NR:tr.length<=100:=ve f.sub.length_le ⋯;have⟨L2,B,e2⟩:=gJ 3 O o NR;have Q:L.Perm Kb:=Od.same f.nd t.nd (JT.qe f.sub.subset f.snd) t.sn f.N9 t.cl;have p2:L2.Perm L:=f.perm B.nd B.sn B.cl;have N0:Io prog 5 "_law_trimmed_right" [.tup ((b_ one a same).map A'),.tup (tr.map A')]=bD (.ok (.loc,.bl cb)):=by
  show(aB (show IA prog "_law_trimmed_right" bO from rfl) _).trans (uh f.sub ⋯ J e2 (p2.trans Q) λk hk=>?_);have Jy:∀r∈tr.take k++tr.drop (k+1),r∈tr:=λr h=>by
   rcases gj.mp h with h|h
   .show Rt h
   .show YY h
  have⟨L3,c,d⟩:=gJ 3 (rows:=tr.take k++tr.drop (k+1)) (λr h=>O r (Jy r h)) o (by rw[gs,vr,Km];lia);show⟨L3,λl=>f.less hk c.sn (l.trans Q.symm),d⟩
 show(aB (show IA prog "law" rN from rfl) _).trans (xJ Y (j 4 one (.inl rfl)) NY LY LZ Jl LQ (by rw[i];show dO a) KD NZ TJ Mb JU t2 N0)
end K
namespace K
open PySem L2 TM PySem.W PyProof.Rows
abbrev m0:d4:=.str "primer.words" 223
abbrev m1:d4:=.str "primer.books" 236
abbrev m2:d4:=.str "primer.laying" 274
abbrev m3:d4:=.str "primer.learning" 313
abbrev m4:d4:=.str "primer.trimming" 348
abbrev m5:d4:=.str "law_primer_k94_whole_laid_together" 356
abbrev ml:Me:=⟨rN,43,["_law_script","_law_one","_law_other","_law_same_here","_law_due","_law_handed","_law_due_book","_law_book_here","_law_found"],237,236,m5,co "law" 510 255 1 231 232 (.ref 233) (.ref 234) (.ref 235) 522 523 181⟩
abbrev ms:List Me:=[⟨gV,6,["word"],46,45,m0,co "stem_of" 229 9 1 40 41 (.ref 42) (.ref 43) (.ref 44) 233 234 181⟩,
 ⟨cA,9,["row"],53,52,m1,co "in_one_order" 240 13 1 47 48 (.ref 49) (.ref 50) (.ref 51) 244 245 181⟩,
 ⟨jx,10,["row","other"],60,59,m1,co "alike" 247 15 2 54 55 (.ref 56) (.ref 57) (.ref 58) 252 253 181⟩,
 ⟨mO,11,["book","words","row"],67,66,m1,co "words_of" 255 17 1 61 62 (.ref 63) (.ref 64) (.ref 65) 261 262 181⟩,
 ⟨dv,12,["pairs","found","key","value"],74,73,m1,co "gathered" 264 23 1 68 69 (.ref 70) (.ref 71) (.ref 72) 271 272 181⟩,
 ⟨eJ,14,["stem","taken","number","name"],81,80,m2,co "free_name" 276 31 2 75 76 (.ref 77) (.ref 78) (.ref 79) 283 284 181⟩,
 ⟨eL,15,["one","other","same","of_one","of_other","taken","word","names","name"],88,87,m2,co "new_names" 286 37 3 82 83 (.ref 84) (.ref 85) (.ref 86) 298 299 181⟩,
 ⟨gW,16,["row","names"],93,92,m2,co "renamed" 301 51 2 89 90 .none .none (.ref 91) 304 305 181⟩,
 ⟨mP,17,["one","other","same","names","rows","row","new_row"],98,97,m2,co "laid" 307 53 3 94 95 .none .none (.ref 96) 310 311 181⟩,
 ⟨bh,19,["book","pairs","place","row"],103,102,m3,co "places_that_tell" 315 64 1 99 100 .none .none (.ref 101) 318 319 181⟩,
 ⟨cT,20,["book","places","known","steps","place","word"],110,109,m3,co "new_steps" 321 69 3 104 105 (.ref 106) (.ref 107) (.ref 108) 330 331 181⟩,
 ⟨bt,21,["book","tellers","missing","known","found","ready","steps","word","place","teller"],115,114,m3,co "steps_in_rounds" 333 76 1 111 112 .none .none (.ref 113) 336 337 181⟩,
 ⟨fI,22,["book","found","steps"],122,121,m3,co "order" 339 94 1 116 117 (.ref 118) (.ref 119) (.ref 120) 345 346 181⟩,
 ⟨gY,24,["book","places"],127,126,m4,co "trimmed" 350 100 1 123 124 .none .none (.ref 125) 353 354 181⟩,
 ⟨oG,26,["_law_cell_here","_law_k","_law_by"],134,133,m5,co "_law_mix" 358 104 2 128 129 (.ref 130) (.ref 131) (.ref 132) 364 365 181⟩,
 ⟨mQ,27,["_law_script","_law_k","_law_seed"],141,140,m5,co "_law_cell" 367 107 2 135 136 (.ref 137) (.ref 138) (.ref 139) 373 374 181⟩,
 ⟨kr,28,["_law_cell_here","_law_many","_law_found","_law_left","_law_k"],148,147,m5,co "_law_drawn" 376 114 2 142 143 (.ref 144) (.ref 145) (.ref 146) 384 385 181⟩,
 ⟨mR,29,["_law_drawn_here","_law_names_here","_law_letters","_law_name_here","_law_stem","_law_spare"],153,152,m5,co "_law_name" 387 124 2 149 150 .none .none (.ref 151) 390 391 181⟩,
 ⟨ku,30,["_law_script","_law_base","_law_many","_law_names_here","_law_k"],160,159,m5,co "_law_names" 393 135 3 154 155 (.ref 156) (.ref 157) (.ref 158) 401 402 181⟩,
 ⟨mS,31,["_law_drawn_here","_law_names_here","_law_top","_law_told_here","_law_k","_law_one"],167,166,m5,co "_law_told" 404 140 2 161 162 (.ref 163) (.ref 164) (.ref 165) 413 414 181⟩,
 ⟨mT,32,["_law_script","_law_base","_law_names_here","_law_many","_law_rows","_law_met","_law_k","_law_drawn_here","_law_row","_law_key"],174,173,m5,co "_law_book" 416 150 4 168 169 (.ref 170) (.ref 171) (.ref 172) 429 430 181⟩,
 ⟨mU,33,["_law_script","_law_drawn_here","_law_names_here"],181,180,m5,co "_law_made" 432 161 1 175 176 (.ref 177) (.ref 178) (.ref 179) 438 439 181⟩,
 ⟨dP,34,["_law_book_here","_law_known","_law_going","_law_word","_law_told_here"],186,185,m5,co "_law_learnt" 441 165 1 182 183 .none .none (.ref 184) 444 445 181⟩,
 ⟨dF,35,["_law_book_here","_law_words_here","_law_row"],191,190,m5,co "_law_words" 447 175 1 187 188 .none .none (.ref 189) 450 451 181⟩,
 ⟨dQ,36,["_law_script","_law_names_here","_law_drawn_here","_law_others","_law_k","_law_bits","_law_cut","_law_pool"],196,195,m5,co "_law_second" 453 180 2 192 193 .none .none (.ref 194) 456 457 181⟩,
 ⟨cI,37,["_law_one","_law_other","_law_same_here","_law_mine","_law_its","_law_told_here","_law_given","_law_word","_law_name_here","_law_number"],203,202,m5,co "_law_new_names" 459 192 3 197 198 (.ref 199) (.ref 200) (.ref 201) 472 473 181⟩,
 ⟨fK,38,["_law_one","_law_other","_law_names_here","_law_rows","_law_keys","_law_word","_law_told_here","_law_row"],208,207,m5,co "_law_laid" 475 208 3 204 205 .none .none (.ref 206) 478 479 181⟩,
 ⟨fL,39,["_law_script","_law_one","_law_other","_law_both","_law_bits","_law_same_here","_law_k"],213,212,m5,co "_law_same" 481 216 3 209 210 .none .none (.ref 211) 484 485 181⟩,
 ⟨bO,40,["_law_book_here","_law_found","_law_at","_law_row","_law_known"],218,217,m5,co "_law_trimmed_right" 487 228 2 214 215 .none .none (.ref 216) 490 491 181⟩,
 ⟨dz,41,["_law_one","_law_other","_law_same_here","_law_fine","e"],225,224,m5,co "_law_refused" 493 240 3 219 220 (.ref 221) (.ref 222) (.ref 223) 501 502 181⟩,
 ⟨dR,42,["_law_one","_law_other","_law_names_here","_law_book_here","_law_same_here","_law_known","_law_due","_law_mine","_law_both"],230,229,m5,co "_law_taught" 504 247 5 226 227 .none .none (.ref 228) 507 508 181⟩,
 ml]
abbrev gg(P:Va):Obj:=⟨.type "dict",b7,.dict #[ge P "__name__" 165 (.str "law_primer_k94_whole_laid_together" 356),ge P "__doc__" 166 .none,ge P "__package__" 167 .none,ge P "__loader__" 168 (.builtin "__main__.__loader__#opaque"),ge P "__spec__" 169 .none,ge P "__annotations__" 170 (.ref 6),ge P "__builtins__" 171 (.ref 4),ge P "__file__" 173 (.str "/claim/cut.py" 172),ge P "__cached__" 174 .none,ge P "PrimerError" 206 (.ref 24),ge P "TooMany" 222 (.ref 37),ge P "FIRST_SENSE" 226 (.int 1 225),ge P "LAST_SENSE" 228 (.int 99 227),ge P "stem_of" 235 (.ref 46),ge P "MOST_ROWS" 239 (.int 60 238),ge P "in_one_order" 246 (.ref 53),ge P "alike" 254 (.ref 60),ge P "words_of" 263 (.ref 67),ge P "gathered" 273 (.ref 74),ge P "free_name" 285 (.ref 81),ge P "new_names" 300 (.ref 88),ge P "renamed" 306 (.ref 93),ge P "laid" 312 (.ref 98),ge P "places_that_tell" 320 (.ref 103),ge P "new_steps" 332 (.ref 110),ge P "steps_in_rounds" 338 (.ref 115),ge P "order" 347 (.ref 122),ge P "trimmed" 355 (.ref 127),ge P "_law_mix" 366 (.ref 134),ge P "_law_cell" 375 (.ref 141),ge P "_law_drawn" 386 (.ref 148),ge P "_law_name" 392 (.ref 153),ge P "_law_names" 403 (.ref 160),ge P "_law_told" 415 (.ref 167),ge P "_law_book" 431 (.ref 174),ge P "_law_made" 440 (.ref 181),ge P "_law_learnt" 446 (.ref 186),ge P "_law_words" 452 (.ref 191),ge P "_law_second" 458 (.ref 196),ge P "_law_new_names" 474 (.ref 203),ge P "_law_laid" 480 (.ref 208),ge P "_law_same" 486 (.ref 213),ge P "_law_trimmed_right" 492 (.ref 218),ge P "_law_refused" 503 (.ref 225),ge P "_law_taught" 509 (.ref 230),ge P "law" 524 (.ref 237)] 46,#[]⟩
abbrev xk(a:eW)(n:Str)(b r:eW)(t u:Tok):Obj:={cls:=.type "type",data:=.cls {name:=n,bases:=[.ref b],mro:=[.ref a,.ref b,.type "ValueError",.type "Exception",.type "BaseException",.type "object"],ns:=a - 1,qualname:=n},slots:=#[bD (.ref r),b7,bD (.str n t),bD (.str n u),bD (.builtin "ValueError.__new__"),bD (.bool cb)]}
abbrev xd(P:Va)(m f:Tok)(l:Int)(n s:Tok)(a:eW)(d:Tok):Obj:={cls:=.type "dict",data:=.dict #[ge P "__module__" m (.str "primer.errors" 187),ge P "__firstlineno__" f (.int l n),ge P "__static_attributes__" s (.ref a),ge P "__doc__" d .none] 2}
abbrev xo(P:Va):List (eW×Obj):=[(24,({cls:=.type "type",data:=.cls {name:="PrimerError",bases:=[.type "ValueError"],mro:=[.ref 24,.type "ValueError",.type "Exception",.type "BaseException",.type "object"],ns:=23,qualname:="PrimerError",subclasses:=[.ref 37]},slots:=#[bD (.ref 15),b7,bD (.str "PrimerError" 189),bD (.str "PrimerError" 197),bD (.builtin "ValueError.__new__"),bD (.bool cb)]}:Obj)),
 (37,xk 37 "TooMany" 24 28 207 215),
 (23,({cls:=.type "dict",data:=.dict #[{hash:=Qf P "__module__",key:=.str "__module__" 196,val:=.str "primer.errors" 187},{hash:=Qf P "__firstlineno__",key:=.str "__firstlineno__" 200,val:=.int 2 199},{hash:=Qf P "__static_attributes__",key:=.str "__static_attributes__" 201,val:=.ref 22},{hash:=Qf P "__weakref__",key:=.str "__weakref__" 203,val:=.ref 25},{hash:=Qf P "__doc__",key:=.str "__doc__" 204,val:=.none}] 3}:Obj)),
 (36,xd P 214 218 4 217 219 35 220)]
abbrev gx(P:Va):Gx:=(gg P,xo P)
abbrev xa:List eW:=[24,37,23,36]
abbrev vw:w6:=view PySem.Challenge.pw_primer_k94_whole_laid_together [6,9,10,11,12,14,15,16,17,19,20,21,22,24,26,27,28,29,30,31,32,33,34,35,36,37,38,39,40,41,42,43]
abbrev hk:Hook:=kHook (λP=>J' top (gx P) ms) (adr ms xa) λP=>vt top (gx P) ms xa rfl
abbrev lo:List Str:=["PrimerError","TooMany","FIRST_SENSE","LAST_SENSE","MOST_ROWS"]
noncomputable abbrev xt(s:hY):Bool:=xlAt vw [] s&&recOk (RowW.records PySem.Challenge.rw_primer_k94_whole_laid_together.row.toRowW) s
noncomputable abbrev oe(w:Ie):Option hY:=openEnds treeTable PySem.Challenge.rw_primer_k94_whole_laid_together.row.prog w 4000
noncomputable abbrev os(s:hY):=openSeen vw lo (importedModules PySem.Challenge.rw_primer_k94_whole_laid_together.row.prog.main.body) xt cb s
def Ll(w:Ie):(oe w).map (λs=>(os s).1)=bD (openGood vw lo).1:=by kernel_rfl
def Kr(w:Ie):(oe w).map (λs=>(os s).2)=bD (openGood vw lo).2:=by kernel_rfl
def Ot(w:Ie):(oe w).map hk.obs=bD (hk.val w):=by kernel_rfl
def hl:LeftO PySem.Challenge.rw_primer_k94_whole_laid_together.row.prog vw lo xt hk.obs hk.val 4000:=λw=>by
 have⟨s,e,a⟩:=d5.mp (Ll w);have b:=Kr w;have c:=Ot w;rw[e]at b c;change(oe w).map _=_;rw[e];show ġ bD (SO (SO a (wk b)) (wk c))
def hs:PySem.Challenge.rw_primer_k94_whole_laid_together.wellSaid=cb:=by kernel_rfl
def ho(P:Va):M8 ck top (J' top (gx P) ms) ms=cb:=by kernel_rfl
def XW(P:Va):gX ck (J' top (gx P) ms)=cb:=by kernel_rfl
end K
open PySem PySem.W PyProof.Rows K
theorem PySem.Challenge.cw_primer_k94_whole_laid_together_holds : PySem.Challenge.rw_primer_k94_whole_laid_together.Holds := by
 w_on
 refine holds_law hs λz => ?_;refine holds_open hl hk.of hk.keeps (λs e => xl_of s (JL.mp e).1) XL.keeps rfl rfl rfl (λs e => recFacts_of (JL.mp e).2) rfl z (by kernel_rfl) ⟨rfl, rfl, rfl, rfl, rfl, by decide +kernel⟩ ?hw ?a
 (case hw => w_witness2)
 exact TM.walk2 (l := PySem.Challenge.rw_primer_k94_whole_laid_together) (Pg := prog) (ck := ck) (dp := 5) (x := "_law_script") (m := ml) rfl rfl ⟨rfl, by decide, by decide, rfl⟩ rfl (by decide +kernel) (by decide +kernel) rfl (YR.mpr ⟨31, rfl⟩) rfl rfl ho XW (λ_ => rfl) K.pure
