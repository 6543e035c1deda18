import PyProof.Rows.All
import Wide.All
import OpenK.AllK
import Wide.FinOn
import Lean
import PyProof.EqAt
import PyProof.EqKinds
import PyProof.TupleCall
import PyProof.StrLawsChain
import PyProof.StrLawsFirst
import PyProof.Rows.StrNews2
import OpenK.AllK
import PySem.SetOps
import PyProof.MeetsStr2
import PyProof.StationsW
import PyProof.ExcBaseAll.ValueError
import PyProof.RulesAs
import PyProof.NsDelKeeps
import OpenK.AllK
import PyProof.ExcArgsOwn
import PyProof.ExcAttrAll.ValueError
import PyProof.IsiBase
import PyProof.IsiNone
import PyProof.ReprBulk
import PySem.Challenge.RW_primer_k06_texts_refused
set_option Elab.async false
set_option linter.all false
set_option bootstrap.genMatcherCode false
set_option maxRecDepth 100000
set_option maxHeartbeats 4000000
set_option genInjectivity false
set_option genSizeOf false
set_option autoImplicit true
set_option relaxedAutoImplicit true
open Option renaming some->a8,none->cb,map_eq_some_iff->hQ,bind_eq_some_iff->ux,isSome_iff_exists->PC,map_some->Uh,isNone_iff_eq_none->Vt,isSome_map->VD,map_eq_none_iff->VZ,isSome_some->Ï,getD_some->ê,getD_none->ë
open PySem renaming wpAny_bind->cc,wpAny_pure->d6,sizeLine->eh,Value->fx,Shared->i4,wpAny->js,Addr->k9,model->mn,mainGlobals->nt,starEach->pa,wpAny_mono->tj,Expr->vr,wpAny_newObj_type->zy,Program->z8,wpAny_Call_Name_kw->Es,wpAny_setState_of->I0,World->JM,wpAny_holding->Ka,rawInt->KX,cLine->K',wpAny_truthy_bool->LH,codeAny_builtin->L8,bootBuiltins->Mq,compareOp->MF,eval->MM,Heap->Nq,sysModules->NA,foldedSetIterable->NC,backTo->NZ,Around->Od,wpAny_call_entry->OD,cellsFrom->OJ,Scope->OK,isSubtype_type->O1,NameKind->O5,SetTable->Pm,wpAny_forIn_list->Pt,scanBound->PQ,ofAClassStatement->PU,Stmt->PV,pushCells->Qx,wpAny_typeOf->Rn,codeAny_mono->Ro,wpAny_passesOwn->RF,wpAny_execs_nil->RG,compEnvC->RH,call->R3,wpAny_setField->Sh,sliceBounds->So,call_meets->Sq,binaryOp->Sr,wpAny_specialOf->SG,codeAny->SO,call_isinstance->SQ,Keyword->SR,Builtin->SU,wpAny_rule->S8,typeIs_str->Ta,assignEach->Tc,wpAny_getItem_str_slice->Tt,wpAny_field->Tx,wpAny_callSpecial?_slot->Tz,wpAny_seqItems->TR,wpAny_loadPart_at->TU,tupleKeyHash->TV,holding->TX,FuncData->T7,wpAny_isInstance->Uv,isSubtype->UC,keywordEach->U2,codeAny_call_builtin->U3,pyNext->VA,pushCells_keeps->VB,relabel->VF,notedBy->VG,swapsWith->VH,builtinsNs->VR,wpAny_storeSet_of->Wi,wpAny_pyIter_list->Wj,fits_of_scanBound->Wk,swapsWithSole->WI,plainId_quiet->WS,attributeBase->WT,assign->WZ,JoinOk->W4,getItem->X4,callerA->X8,wpAny_updateSeq->Ye,post_val_or_str->Yf,letOwnedTupleGo->Yj,isSubtype_tuple_tuple->Yp,builtinLookup_eq_fast->Yy,wpAny_runValue->YG,pyIter->YH,backToKw->YI,Params->YJ,IsPart->YK,noteFrame->YO,evalPart_some->Y1,evalPart_none->Y2,atKey->Y3,wpAny_tupleItemsOf->Y8,wpAny_call->Y9,typeLookup->Y_,tupleKind_room_in1->Y',IsTupleKey->Za,wpAny_sequenceKey->Zf,slot_list_getitem->Zg,setNext->Zh,setField->Zi,setAddHashed->Zj,searchCouldBeSeen->Zk,concat_meets->Zm,wpAny_execs_cons->Zw,wpAny_askSetting->Zx,typeOf->Zy,tupleKind->Zz,pickOrder->ZA,noFill_tuple_add->ZC,checkBuiltinCall->ZD,PassesOwn->ZG,typeLookup_type->ZR,codeAny_of_tree->ZS,valueAt->ZZ,BindsTo->Z1,wpAny_newFunctionEnv_cells->Z5,relayAll->Z6,recursionLimit->Z7,newFunctionEnv->Z8,isInstance->Z9,bindL->Z_,bindC->Z',GenState->Ä,codeAny_handlers_suite_as->Ë,wpAny_standAt->Ò,wpAny_getItem_list_slice->Ó,wpAny_comprehension_free->Ô,swappedStores->Õ,step->Ö,seq_tuple_add->Ø,behindInMarks->Ù,strValues->å,slicePick->æ,eqIsQuiet->ç,wpAny_Call_method_late->ð,standAt->ñ,setNextDrawn->ò,setItem->ó,collect->ô,PyData->ú,weight_type_call_type->ą,codeAny_handlers_test->Ć,codeAny_call_function->ć,wpAny_of_eq->đ,wpAny_Slice->Ē,unsupported->ē,seqIndex_of->Ĕ,reprText->ĕ,raiseNew->Ė,hashByValue->ė,wpAny_setEntries_of->Ĥ,wpAny_handleBy_cons->ĥ,wpAny_Tuple_spliced->Ħ,wpAny_setItem_heap->Ĭ,wpAny_pyIter_tuple->ĭ,wpAny_load->Į,wpAny_Name->į,wpAny_List_spliced->İ,typeIs_int->ı,sliceRange->Ĳ,rule->ĳ,wpAny_pyIter_slot->Ļ,wpAny_assign_Name->ļ,wpAny_Return_some->Ľ,wpAny_Assign_Name->ľ,spliced->Ŀ,newList->ŀ,leaving->Ł,eqIsQuiet_byValue->ł,wpAny_Try_except->Ŋ,wpAny_Dict_empty->ŋ,storeName->Ō,lastMarks->ō,check_set_init_1->Ŏ,wpAny_Expr_any->Š,truthy->š,setAddHashedIn->Ţ,setAdd->ţ,numbered_texts->Ť,newExc->ť,firstArgMember->Ŧ,entryFor_alias->ŧ,entryFor->Ũ,carriedByValue->ũ,bindArgs->Ū,argsOk->ū,again->Ŭ,WalksS->ŭ,Result->Ű
open Bool renaming true->c4,and_eq_true->df,false->dV,false_ne_true->my,false_eq_true->pj,eq_iff_iff->uk,not_eq_true'->wk,not_true->L6,and_eq_true_iff->Na,or_eq_true->Nz,and_false->P',and_true->Ri,true_and->Ug,or_eq_false_iff->Up,not_false->Vy,not_and->YT,and_self->ZP,not_eq_false'->î,eq_false_iff->Ą,false_and->ī,or_false->Ĺ,and_comm->ĺ
open Decidable renaming decide->ei
open PySem.Heap renaming get?_push_of_some->ek,get?_push_size->l',lt_size->nc,get?_update_self->Ki,SameBut->Mx,get?_update_other->Pd,size_push->SS,get?_update_ne->UD
open List renaming mem_cons_of_mem->et,length_map->eH,mem_cons->fz,range->gA,mem_cons_self->hY,length_append->ko,length_cons->lg,size_toArray->lx,replicate->mh,getElem?_eq_some_iff->mr,map_cons->mu,mem_append->mN,mem_map->oa,length_singleton->ri,getElem?_set_ne->ro,getElem?_set_self->rr,all_eq_true->sh,getElem?_map->ti,mem_singleton->tr,map_map->uv,length_take->ve,mem_append_right->vz,lookup_cons->w4,mem_range->w6,getElem?_append_right->y0,getElem?_append_left->C0,append_nil->D1,nil_append->HH,length_drop->H4,map_append->H8,getElem?_eq_getElem->JQ,filterMap_cons_some->JZ,take_append_drop->Kj,take_of_length_le->KU,filterMap_cons->La,nodup_append->LF,mem_of_getElem?->LR,nodup_cons->LS,foldl_cons->My,getElem?_replicate->M0,mem_filterMap->NY,filterMap_cons_none->Oq,mem_append_left->Ox,length->OC,reverse_cons->OQ,replicate_succ->Pc,isEmpty_iff->Pf,any_eq_true->Pj,getElem?_drop->Pq,drop_eq_getElem_cons->Py,mem_iff_getElem->PD,length_range->PH,flatten_cons->PN,cons_ne_nil->PY,cons_append->P5,eq_nil_of_length_eq_zero->Qt,find?_cons->Rf,length_replicate->Rm,append_assoc->Rt,mem_of_mem_take->RL,mem_of_mem_drop->RN,getElem_mem->RT,map_congr_left->R',mem_filter->Su,length_nil->Sv,zip_cons_cons->Sz,pairwise_cons->SA,range_succ_eq_map->SV,drop_left'->Uq,length_reverse->UG,getElem_of_mem->UP,map_nil->US,all_map->UT,getD_eq_getElem?_getD->Vu,getElem?_take_of_lt->VQ,not_mem_nil->V',getElem?_cons_succ->Wd,filter_eq_nil_iff->Wx,of_mem_zip->W7,getElem?_eq_none->XD,nodup_nil->XN,getElem?_range->Yo,any_cons->Yz,all_cons->YA,filterMap_map->YF,take_sublist->YR,perm_middle->Y6,drop_length->Y7,perm_append_singleton->Zu,map->Zv,pairwise_iff_getElem->ZH,sum_cons->ZM,map_drop->ZN,length_erase_of_mem->ZO,length_eq_zero_iff->ZX,length_pos_of_mem->Z4,cons_lt_cons_iff->È,pairwise_append->Ð,mem_erase_of_ne->Ñ,length_pos_iff->â,foldl->ì,count_eq_zero->í,take_add_one->ā,foldl_append->Ă,ext_getElem?->ă,nodup_range->Ď,filter_cons->ď,ext_getElem->Đ,range_succ->ğ,length_set->Ġ,filter_map->ġ,count_cons->Ģ,all_append->ģ,set_comm->Ķ,map_take->ķ,findIdx?->ĸ,set_set->ň,map_id->Ŗ
open Nat renaming le_refl->ke,zero_le->pb,lt_of_lt_of_le->qw,ne_of_lt->sg,le_trans->DD,lt_irrefl->Mr,le_of_lt->Ou,ne_of_gt->Pe,le_of_lt_succ->Ru,zero_add->Tg,lt_succ_self->Uc,min_eq_left->UE,mod_lt->VE,lt_succ_of_lt->VI,le_succ->VP,lt_trans->W6,le_of_eq->YY,le_add_right->Zd,add_sub_cancel_left->Z3,succ_pos->Ç,pos_of_ne_zero->ÿ,add_right_comm->Ā,lt_trichotomy->č,not_lt_of_lt->Ğ,succ_mul->Ŕ,mul_comm->ŕ,log2_lt->Ş
open Array renaming length_toList->mA,getElem?_eq_some_iff->tf,getElem?_eq_getElem->KQ,getD_eq_getD_getElem?->LB,getElem?_toList->NK,forIn_toList->Qu,replicate->WG,toList_append->X',size_append->YN,toList_inj->Y0,toList->ZY,append_assoc->ä,toList_push->ï
open PySem.Txt renaming partition->tx,split->tA,join->H0,endswith->ŏ
open PySem.SetTable renaming below->va,insertAt->NS,grown->Sw,turns->Vo,layClean->XF,sizeAbove->XM,tooFull->YC,relaid->YP,Probe->Y4,runEnd->ZE,bits->ZF,orStandIn->Z0,laid->Ã,leap->Ý,fits->ø
open PySem.Value renaming ref->vu,none->IV,str->K_,type->Qo,isStrOf->QG,builtin->TQ,bool->U4,int->ö,isInt->ń
open PyProof.Rows renaming slot_tuple_getitem->wh,callWith_type1->Ow,callWith_builtin1->Px,size_push'->Ss,seqObj->Tf,StrsAre->UR,envOfC->VC,AllBare->Ww,slicePart_none->YL,entry_tuple_getitem->YW,joinOk_of->Y5,args_tuple_getitem->Zc,Subscript_->Æ,tupleItemsOf_->à,subscriptTail->á,IsTup->é,subscriptTail_builtinR->ý,IntsAre->þ,tail_any->ĝ,wpAny_notIn_heap->Œ,slot_str_getitem->œ,call_isinstance_yes->ŝ,isTrue_and_nil->ų
open Option.some renaming inj->Jc,injEq->ZL
open PySem.Builtin.Str renaming occurrences->Jv,partsBetween->RJ,strSliceIndices->TB,strKind->Zr,glued->ZK
open PyProof.Rows.F renaming plain_set_update_loop->JF,entry_set_update_loop->NT
open PySem.StrLaws renaming sliceText->Kn,glued_eq_join->ZI,split_free->Á,join_split->Â,strSub_toList->Û
open PySem.Builtin.Tuple renaming tupleExact->KN,tupleHashOf->Nr,tupleItemsOf->Qs
open PySem.Obj renaming mapSeq->Lm,putSet->O2,data_mapFields->Qy,isFreed_of_fields->XJ,cls_mapFields->Ċ,mapFields->Ņ
open PySem.Builtin.Slice renaming slicePlaces->LG,sliceApplied->TC,sliceAdjust->T_,sliceFields->YE,slicePartIndex->Ő
open Ne renaming symm->Mk
open PySem.NameKind renaming free->Nb,cell->O4
open PySem.Builtin.List renaming listTooLong->Ny,listExtendWith->Qc,listSameRef->YQ,listLengthHint->ś,listFitsIndex->Ŝ
open PySem.Calls renaming spliced_cons->NP,spliced_nil->PB,evalArgs_plain->RI,callWith_builtin->Wg,Name_function_global->Zo
open PySem.Str renaming empty->N0,length->T6,ofString->W3,join->Ü
open PySem.Heap.SameBut renaming update->Oi,refl->Xk
open PySem.Around renaming under_plainId->Om,frames_deeper->Z2,under_plain->Î
open Sum renaming inr->Ot,inl->WH
open False renaming elim->Po
open Classical renaming byContradiction->Pp
open LT renaming lt->Qn
open Int renaming emod_lt_of_pos->QF,emod_nonneg->Rh,natCast_add->SD,toNat_natCast->Tj,toNat_of_nonneg->UU,eq_ofNat_of_zero_le->Wh,zero_add->YZ,ediv_one->Ê
open PySem.AutoSeq1 renaming wpAny_loadPart'->RO,sub_tuple_tuple->Ze,sub_tuple_list->Zp,sub_list_tuple->Zq,sub_list_list->Zs,idx_int->Í
open ForInStep renaming yield->RU
open PySem.Shared renaming TypeIs->R8
open PySem.PyData renaming keyHash->SF,leavesShort->UQ,showable->Wf,depth->YD,bulk->YU,shown_fits_bulk->ZJ,leavesShortAll->ZV,showableAll->Ì,hasDictAll->ß,depthAll->ù,hasDict->Ĉ,bulkAll->ĉ
open PySem.SetTable.below renaming go->Vp
open PySem.SetTable.layClean renaming free->Vq
open PySem.Code renaming quiet_builtin->Vs
open PySem.SetTable.probe renaming go->VS
open PySem.Heap.IsSliceOf renaming new->VT
open Prod renaming ext->VY,fst->Zt
open PySem.SeqAt renaming EqAt->We,ne_of_list_tuple->ZU,RcAt->Þ,RcNeAt->ĵ
open PySem.Builtin.Frozenset renaming updateFrom->W5,slot0->ę,sizeOf->Ě,newClass->ě,addrOf->Ĝ
open PySem.F renaming typeOf_object_class->X_,args_str_split_2->YV,entry_str_split->Zb,slot_str_split->Zn,slot_gs_get->Å,excBase_ValueError->û,args_list_extend_2->ü,entry_list_extend->ċ,slot_list_extend->Ę,attr_ValueError->Ĩ,slot_int_rmul->Ň
open True renaming intro->YB
open List.cons renaming injEq->YM
open LawfulBEq renaming eq_of_beq->YS
open PyProof.Rows.IsTup renaming new->YX
open PySem.pickOrder renaming go->Zl
open Sum.inr renaming inj->ZQ
open PySem.W renaming nsIn->ZT,Looks->è,looks_findIn->õ,Frag->Ĵ,subIn->Ů,findIn->ů
open PySem.Flow renaming next->ZW
open PySem.W.Looks renaming ld->À
open LE renaming le->É
open PySem.Walks renaming list->Ú
open List.Perm renaming swap->ã
open Prod.mk renaming injEq->Č
open PySem.Heap.Ns renaming new->ħ
open PyProof.Rows.LSm renaming range_all->ĩ,kept_iter->Ī
open PySem.W.WShape renaming has->Ń
open PySem.Moved renaming trans->ņ
open ForIn renaming forIn->ŉ
open PySem.Builtin.Range renaming rangeSize->ő
open List.Pairwise renaming sublist->ŗ,nil->Ř
open PySem.W.WData renaming int->ř
open PySem.Heap.DictOfH renaming new->Ś
open ToString renaming toString->ş
open PySem.Heap.DictOf renaming new->ű
open PySem.Data renaming cell->Ų
abbrev Ŵ:=@decide_eq_true_eq
abbrev ŵ:=@if_pos
abbrev Ŷ:=@decide_eq_false
abbrev ŷ:=@decide_eq_true
abbrev Ÿ:=@if_neg
abbrev Ź:=@of_decide_eq_true
abbrev ź:=@if_false
abbrev Ż:=@congrArg
abbrev ż:=@decide_eq_false_iff_not
abbrev Ž:=@beq_eq_false_iff_ne
abbrev ž:=@if_true
local macro_rules|`(def $a:declId $b* : $t :=$v)=>`(theorem $a:declId $b* : $t :=$v)
local macro_rules|`(abbrev $a:declId $b:optDeclSig $c:declVal)=>`(noncomputable def $a:declId $b:optDeclSig $c:declVal)
local macro_rules|`(tactic|show $t)=>`(tactic|refine $t)
local macro_rules|`(tactic|have⟨$a⟩:=$t)=>do let p<-`(Lean.Parser.Tactic.rcasesPatLo|$(⟨a⟩):ident);`(tactic|obtain⟨$p⟩:=$t)
local macro_rules|`(tactic|have($a,$b,*):=$t)=>do let g:=fun(x:Lean.Term)=>if x.raw.isIdent then`(Lean.Parser.Tactic.rcasesPatLo|$(⟨x⟩):ident)else`(Lean.Parser.Tactic.rcasesPatLo|_);let p<-(#[a]++b.getElems).mapM fun x=>match x with|`(($c,$d,*))=>do let q<-(#[c]++d.getElems).mapM g;`(Lean.Parser.Tactic.rcasesPatLo|⟨$q,*⟩)|_=>g ⟨x⟩;`(tactic|obtain⟨$p,*⟩:=$t)
local macro_rules|`(⋯)=>`(by lia)
local macro_rules|`(#[$a,*])=>`(⟨$a,*⟩)
local macro_rules|`(#v[$a,*])=>`(List.toArray [$a,*])
namespace K
open PySem PySem.W PyProof.Rows
abbrev vw:z8:=view PySem.Challenge.pw_primer_k06_texts_refused [15,16,17,18,19,23,24,25,26,27,30,31,32,34,35,36,37,38,39,40,41,42,43,44,45,46,47,48,49,50,51,52]
abbrev lo:List Str:=["PrimerError","NoText","Unfit","Unknown","Unlearnt","TooMany","Lacking","NoRow","NoDeed","LETTERS","LONGEST_STEM","FIRST_SENSE","LAST_SENSE","MOST_TOLD","MOST_ROWS","PICTURE_SIGN"]
noncomputable abbrev xt(s:i4):Bool:=xlAt vw [] s&&recOk (RowW.records PySem.Challenge.rw_primer_k06_texts_refused.row.toRowW) s
noncomputable abbrev oe(w:JM):Option i4:=openEnds treeTable PySem.Challenge.rw_primer_k06_texts_refused.row.prog w 4000
noncomputable abbrev os(s:i4):=openSeen vw lo (importedModules PySem.Challenge.rw_primer_k06_texts_refused.row.prog.main.body) xt c4 s
def K3(w:JM):(oe w).map (λs=>(os s).1)=a8 (openGood vw lo).1:=by kernel_rfl
def LY(w:JM):(oe w).map (λs=>(os s).2)=a8 (openGood vw lo).2:=by kernel_rfl
end K
namespace L2
open PySem PySem.Spec PyProof.Rows
@[reducible]noncomputable def Key:=Sum Int Str
abbrev nv:Key->fx->Bool
 |.inl k,v=>ń k v
 |.inr x,v=>QG x v
abbrev HG(w:JM):Key->Int
 |.inl k=>hashInt k
 |.inr x=>hashStr w x
theorem bD:∀{k:Key}{v:fx},nv k v=c4->(∃i t,k=WH i/\v=ö i t)\/(∃x t,k=Ot x/\v=K_ x t)
 |.inl i,v,h=>by
  have(t,e):=Value.isInt_shape (k:=i) (v:=v) h;show .inl #[i,t,rfl,e]
 |.inr x,v,h=>by
  have(t,e):=Value.isStrOf_shape (x:=x) (v:=v) h;show .inr #[x,t,rfl,e]
def vK(i:Int)(t:Tok):nv (.inl i) (.int i t)=c4:=by simp[nv,ń]
def vL(x:Str)(t:Tok):nv (.inr x) (.str x t)=c4:=by simp[nv,QG]
def Dt(a b:Int):ei ((WH a:Key)=WH b)=(a==b):=by
 by_cases e:a=b
 .subst e;simp
 .have h:¬(WH a:Key)=WH b:=λq=>e (Sum.inl.inj q);rw[Ŷ h];show(Ž.mpr e).symm
def Du(a b:Str):ei ((Ot a:Key)=Ot b)=ei (a=b):=by
 by_cases e:a=b
 .subst e;simp
 .have h:¬(Ot a:Key)=Ot b:=λq=>e (ZQ q);rw[Ŷ h,Ŷ e]
def Dv(a:Int)(b:Str):ei ((WH a:Key)=Ot b)=dV:=Ŷ (λq=>nomatch q)
def Dw(a:Str)(b:Int):ei ((Ot a:Key)=WH b)=dV:=Ŷ (λq=>nomatch q)
abbrev bV(prog:z8)(w:JM):PySem.KeyKind prog w Key where
 is:=nv
 hash:=HG w
 inj:=λv a b g f=>by
  rcases bD g with⟨i,t,rfl,rfl⟩|⟨x,t,rfl,rfl⟩
  .rcases bD f with⟨j,u,rfl,e⟩|⟨y,u,rfl,e⟩
   .injection e with c _;rw[c]
   .show nomatch e
  .rcases bD f with⟨j,u,rfl,e⟩|⟨y,u,rfl,e⟩
   .show nomatch e
   .injection e with c _;rw[c]
 byValue:=λk v h=>by
  rcases bD h with⟨i,t,rfl,rfl⟩|⟨x,t,rfl,rfl⟩<;>rfl
 pyHash:=λd h=>by
  rcases bD d with⟨i,t,rfl,rfl⟩|⟨x,t,rfl,rfl⟩
  .show wpAny_pyHash_int h
  .show wpAny_pyHash_str h
 eqBool:=λl d h=>by
  rcases bD l with⟨i,t,rfl,rfl⟩|⟨x,t,rfl,rfl⟩
  .rcases bD d with⟨j,u,rfl,rfl⟩|⟨y,u,rfl,rfl⟩
   .rw[Dt]at h;show wpAny_eqBool_int h
   .rw[Dv]at h;show SeqAt.EqAt.int_str i t y u _ _ _ _ h
  .rcases bD d with⟨j,u,rfl,rfl⟩|⟨y,u,rfl,rfl⟩
   .rw[Dw]at h;show SeqAt.EqAt.str_int x t j u _ _ _ _ h
   .rw[Du]at h;show wpAny_eqBool_str h
 «strs»:=λk x t v h=>by
  rcases bD h with⟨i,u,rfl,e⟩|⟨y,u,rfl,e⟩
  .show nomatch e
  .injection e with c _
   subst c;cases v<;>rfl
def qg(prog:z8)(w:JM)(i:Int)(t:Tok):(bV prog w).is (.inl i) (.int i t)=c4:=vK i t
def qh(prog:z8)(w:JM)(x:Str)(t:Tok):(bV prog w).is (.inr x) (.str x t)=c4:=vL x t
inductive V where
 |ID|bl (b:Bool)|int (i:Int)|str (x:Str)|Qz (b:Array UInt8)|QA (b:UInt64)|ref (a:k9)|ty (n:String)
 deriving DecidableEq
def RelV:V->fx->Prop
 |.ID,u=>u=IV
 |.bl b,u=>u=U4 b
 |.int i,u=>∃t,u=ö i t
 |.str x,u=>∃t,u=K_ x t
 |.Qz b,u=>∃t,u=Value.bytes b t
 |.QA b,u=>∃t,u=Value.float b t
 |.ref a,u=>u=vu a
 |.ty n,u=>u=Qo n
@[reducible]noncomputable def Vals:List V->List fx->Prop:=Paired RelV
def Vals.length(r:Vals xs us):xs.length=us.length:=Paired.length r
theorem Vals.get:∀{xs:List V}{us:List fx}{i:Nat}{x:V},Vals xs us->xs[i]?=a8 x->∃u,us[i]?=a8 u/\RelV x u
 |_,_,_,_,.nil,e=>by simp at e
 |_,_,0,_,.cons r _,e=>by simp at e;subst e;show#[_,rfl,r]
 |_,_,i+1,x,.cons _ t,e=>by
  have(u,a,b):=Vals.get (i:=i) (x:=x) t (by simpa using e);show#[u,by simpa using a,b]
theorem Vals.set(r:RelV x u):∀{xs:List V}{us:List fx} (i:Nat),Vals xs us->Vals (xs.set i x) (us.set i u)
 |_,_,_,.nil=>.nil
 |_,_,0,.cons _ t=>.cons r t
 |_,_,i+1,.cons q t=>.cons q (Vals.set r i t)
theorem Vals.append:∀{xs a:List V}{us ws:List fx},Vals xs us->Vals a ws->Vals (xs++a) (us++ws)
 |_,_,_,_,.nil,s=>s
 |_,_,_,_,.cons r t,s=>.cons r (Vals.append t s)
theorem Vals.take:∀{xs:List V}{us:List fx} (n:Nat),Vals xs us->Vals (xs.take n) (us.take n)
 |_,_,0,_=>.nil
 |_,_,_+1,.nil=>.nil
 |_,_,n+1,.cons r t=>.cons r (Vals.take n t)
theorem Vals.drop:∀{xs:List V}{us:List fx} (n:Nat),Vals xs us->Vals (xs.drop n) (us.drop n)
 |_,_,0,r=>r
 |_,_,_+1,.nil=>.nil
 |_,_,n+1,.cons _ t=>Vals.drop n t
def vM:Option V->Option fx->Prop
 |some v,a8 u=>RelV v u
 |none,cb=>True
 |_,_=>False
abbrev KV{κ:Type}:List (κ×V)->List (κ×fx)->Prop:=Paired λ(p:κ×V) (q:κ×fx)=>p.1=q.1/\RelV p.2 q.2
abbrev kV:Key->V
 |.inl i=>.int i
 |.inr x=>.str x
inductive HO where
 |lst (xs:List V)
 |tup (xs:List V)
 |dK (B':List (Key×V))|dT (B':List (List Key×V))
 |set (S:Int->Bool) (n:Nat)
 |ins (C dx:k9) (fs:List (Str×V))
 |own (x:k9)
 |xd (fs:List (Str×V))
 |met (f x:k9)
 |QB (lo hi:Int)
 |J9 (o:Obj) (u:HO)
 |MZ (ps:Array fx)
 |ext (φ:Nq->Prop)
@[reducible]noncomputable def Hp:=k9->Option HO
abbrev upd(H:Hp)(a:k9)(o:HO):Hp:=λb=>if b=a then a8 o else H b
def aO:upd H a o a=a8 o:=by unfold upd;rw[ŵ rfl]
def aC(h:b≠a):upd H a o b=H b:=by unfold upd;rw[Ÿ h]
def xD{H:Hp}(h:H a=a8 o)(h':H b=a8 u)(d:o≠u):a≠b:=by
 intro e;subst e;rw[h]at h';show d (Jc h')
def bc{H:Hp}(h:H a=a8 o)(h':H b=cb):a≠b:=by
 intro e;subst e;rw[h]at h';cases h'
section
variable(P:z8)(w:JM)
def bW(H:Hp)(h:Nq)(a:k9):HO->Prop
 |.lst xs=>xs.length<=eh/\∃(c:List fx) (n:Nat),Vals xs c/\h.get? a=a8 {cls:=.type "list",data:=.seq c.toArray n}
 |.tup xs=>xs.length<=eh/\∃c:List fx,Vals xs c/\é h a c.toArray
 |.dK d=>d.length<=eh/\(a==NA)=dV/\∃vs,KV d vs/\h.DictOf (bV P w) a vs
 |.dT d=>d.length<=eh/\(a==NA)=dV/\∃xs:List (List Key×k9×fx),
   Paired (λ(p:List Key×V) (q:List Key×k9×fx)=>p.1=q.1/\H q.2.1=a8 (.tup (p.1.map kV))/\RelV p.2 q.2.2) d xs /\
   ∃o es ep,h.get? a=a8 o/\o.ExactDict/\o.data=.dict es ep/\es.toList=xs.map (entryOfKey (Zz (bV P w)))/\(xs.map (·.1)).Nodup
 |.set S n=>h.SetOf (intKind P w) a S n
 |.ins C g e=>H g=a8 (.own a)/\e.length<=1000/\g≠a/\h.get? a=a8 (PySem.W.instObj C g) /\
   ∃b,h.Ns1 g b/\(∀f,vM (e.lookup f) (b f))/\PySem.Within b (e.map (·.1))
 |.own _=>∃o,h.get? a=a8 o
 |.xd e=>∃b,h.Ns1 a b/\∀f,vM (e.lookup f) (b f)
 |.QB lo k=>∃t u v,h.get? a=a8 {cls:=.type "range",data:=.fields #v[.int lo t,.int k u,.int 1 v]}
 |.J9 o u=>h.get? a=a8 o/\bW H h a u
 |.MZ l=>h.get? a=a8 {cls:=.none,data:=.fields l}
 |.met f x=>h.get? a=a8 (PySem.W.methodObj (.ref f) (.ref x))
 |.ext φ=>φ h/\(∃o,h.get? a=a8 o)/\∀i j:Nq,φ i->(∀o,i.get? a=a8 o->j.get? a=a8 o)->φ j
abbrev JG(H:Hp)(h:Nq):Prop:=∀a o,H a=a8 o->bW P w H h a o
end
section
def bW.lt(x:bW P w H h a o):a<h.objs.size:=by
 cases o with
 |lst xs=>have(_,_,_,_,e):=x;show nc e
 |tup xs=>have(_,_,_,p):=x;show p.lt
 |set S n=>have(o,_,_,_,e,_):=x;show nc e
 |ins C c b=>have(_,_,_,e,_):=x;show nc e
 |own y=>have(_,e):=x;show nc e
 |xd b=>have(_,(_,_,_,e,_),_):=x;show nc e
 |QB lo d=>have(_,_,_,e):=x;show nc e
 |J9 g u=>have(e,_):=x;show nc e
 |MZ i=>show nc (show h.get? a=a8 _ from x)
 |met f y=>show nc (show h.get? a=a8 _ from x)
 |ext φ=>have(_,(_,e),_):=x;show nc e
 |_=>have(_,_,_,_,o,_,_,e,_):=x;show nc e
theorem Paired.Dx:∀{c:List α}{d:List β},Paired F c d->(∀a b,F a b->G a b)->Paired G c d
 |_,_,.nil,_=>.nil
 |_,_,.cons r t,f=>.cons (f _ _ r) (Paired.Dx t f)
def bW.mV(x:bW P w H h a o)(k:∀b u,(b=a\/H b=a8 (.own a))->h.get? b=a8 u->h'.get? b=a8 u)
  (ho:∀b,H b=a8 (.own a)->H' b=a8 (.own a)) (s:∀b xs,H b=a8 (.tup xs)->H' b=a8 (.tup xs)):bW P w H' h' a o:=by
 induction o with
 |lst xs=>have(z,i,n,r,e):=x;show#[z,i,n,r,k _ _ (.inl rfl) e]
 |tup xs=>have(z,i,r,g,e,c):=x;show#[z,i,r,g,k _ _ (.inl rfl) e,c]
 |dK A=>have(z,y,vs,r,g,es,ep,e,c):=x;show#[z,y,vs,r,g,es,ep,k _ _ (.inl rfl) e,c]
 |dT A =>
  have(z,y,xs,r,g,es,ep,e,c):=x;show#[z,y,xs,Paired.Dx r λp q z=>#[z.1,s _ _ z.2.1,z.2.2],g,es,ep,k _ _ (.inl rfl) e,c]
 |set S n=>have(g,es,ep,t,e,c):=x;show#[g,es,ep,t,k _ _ (.inl rfl) e,c]
 |ins C I B =>
  have(d,z,ne,e,j,(l,es,ep,D,c),r):=x;show#[ho _ d,z,ne,k _ _ (.inl rfl) e,j,#[l,es,ep,k _ _ (.inr d) D,c],r]
 |own y=>have(g,e):=x;show#[g,k _ _ (.inl rfl) e]
 |xd B=>have(j,(l,es,ep,e,c),r):=x;show#[j,#[l,es,ep,k _ _ (.inl rfl) e,c],r]
 |QB lo J=>have(t,u,v,e):=x;show#[t,u,v,k _ _ (.inl rfl) e]
 |J9 g u G=>have(e,q):=x;show#[k _ _ (.inl rfl) e,G q]
 |MZ m =>
  have e:h.get? a=a8 {cls:=.none,data:=.fields m}:=x;change h'.get? a=a8 {cls:=.none,data:=.fields m};show k a _ (.inl rfl) e
 |met f y =>
  have e:h.get? a=a8 (PySem.W.methodObj (.ref f) (.ref y)):=x;change h'.get? a=a8 (PySem.W.methodObj (.ref f) (.ref y));show k a _ (.inl rfl) e
 |ext φ=>have(p,(o,e),st):=x;show#[st _ _ p λo q=>k _ _ (.inl rfl) q,#[o,k _ _ (.inl rfl) e],st]
def JG.lt(x:JG P w H h)(e:H a=a8 o):a<h.objs.size:=(x a o e).lt
def JG.fresh(x:JG P w H h)(e:h.objs.size<=a):H a=cb:=by
 cases q:H a with
 |none=>rfl
 |some u=>show absurd (qw (x.lt q) e) (Mr _)
def JG.kept(x:JG P w H h)(k:∀b u,h.get? b=a8 u->h'.get? b=a8 u):JG P w H h':=λa o e =>
 (x a o e).mV (λb u _ q=>k b u q) (λ_ q=>q) λ_ _ q=>q
def JG.laid(x:JG P w H h)(k:∀b u,h.get? b=a8 u->h'.get? b=a8 u)(g:h.objs.size<=a)(new:bW P w (upd H a o) h' a o):JG P w (upd H a o) h':=λb u e=>by
 have d:=x.fresh g;by_cases f:b=a
 .subst f;rw[aO]at e;cases e;show new
 .rw[aC f]at e;show(x b u e).mV (λc v _ q=>k c v q) (λc q=>by rw[aC (bc q d)];show q) λc xs q=>by rw[aC (bc q d)];show q
end
abbrev Rd(H:Hp)(a:k9)(u:HO):Prop:=H a=a8 u\/∃o,H a=a8 (.J9 o u)
def Rd.ok(r:Rd H a u)(x:JG P w H h):bW P w H h a u:=by
 rcases r with r|⟨o,r⟩
 .show x a u r
 .have(_,q):=x a _ r;show q
def O3:Option HO->Prop
 |some (.lst _)=>True
 |some (.dK _)=>True
 |some (.dT _)=>True
 |some (.set _ _)=>True
 |some (.ins _ _ _)=>True
 |some (.ext _)=>True
 |_=>False
section
def JG.write(ok:JG P w H h)(a:O3 (H x))(g:e=x\/H e=a8 (.own x))(k:∀b u,b≠e->h.get? b=a8 u->h'.get? b=a8 u)(m:∃u,h'.get? e=a8 u)
  (new:bW P w (upd H x i) h' x i):JG P w (upd H x i) h':=λb u q=>by
 have j:∀c y,H c=a8 (.own y)->c≠x:=λc y r z=>by subst z;rw[r]at a;show a
 have n:∀c xs,H c=a8 (.tup xs)->c≠x:=λc xs r z=>by subst z;rw[r]at a;show a
 by_cases d:b=x
 .subst d;rw[aO]at q;cases q;show new
 .rw[aC d]at q;by_cases f:b=e
  .have l:H b=a8 (.own x):=by
    rcases g with z|z
    .show absurd (f.trans z) d
    .rw[f];show z
   rw[q]at l;cases l;have(v,o):=m;show#[v,by rw[f];show o]
  .show(ok b u q).mV (λc v hc r=>k c v ?_ r) (λc r=>by rw[aC (j c b r)];show r) λc xs r=>by rw[aC (n c xs r)];show r
   rcases hc with rfl|hc
   .show f
   .rintro rfl;rcases g with z|z
    .show j c b hc z
    .rw[hc]at z;cases z;show d rfl
end
structure Un(fs ex:List k9)(H H':Hp)(h h':Nq):Prop where
 keep:∀b o,h.get? b=a8 o->H b=cb->b∉fs->b∉ex->h'.get? b=a8 o
 slot:∀b o,h.get? b=a8 o->H b=cb->b∈fs->b∉ex->∃sl,h'.get? b=a8 {o with slots:=sl}
 free:∀b o,h.get? b=a8 o->H b=cb->b∉ex->H' b=cb
 there:∀b o,h.get? b=a8 o->b∉ex->∃o',h'.get? b=a8 o'
 JC:∀b xs,H b=a8 (.tup xs)->H' b=a8 (.tup xs)
 Jw:∀b o u,H b=a8 (.J9 o u)->H' b=a8 (.J9 o u)
 JD:∀b ps,H b=a8 (.MZ ps)->∃more,H' b=a8 (.MZ (ps++more))
section
def Un.any(u:Un e ex H i h f)(q:h.get? b=a8 a)(n:H b=cb)(c:b∉ex):∃g,f.get? b=a8 {a with slots:=g}:=by
 by_cases d:b∈e
 .show u.slot b a q n d c
 .show#[a.slots,u.keep b a q n d c]
def Un.kept(k:∀b u,h.get? b=a8 u->h'.get? b=a8 u):Un c ex H H h h' :=
 #[λb a q _ _ _=>k b a q,λb a q _ _ _=>#[a.slots,k b a q],λ_ _ _ n _=>n,λb a q _=>#[a,k b a q],λ_ _ q=>q,λ_ _ _ q=>q,λ_ d q=>#[#v[],by rw[q];simp]]
def Un.refl:Un a ex H H h h:=Un.kept λ_ _ q=>q
def Un.laid(k:∀b u,h.get? b=a8 u->h'.get? b=a8 u)(d:h.objs.size<=a)(c:H a=cb):Un e ex H (upd H a o) h h' where
 keep:=λb u q _ _ _=>k b u q
 slot:=λb u q _ _ _=>#[u.slots,k b u q]
 free:=λb u q n _=>by rw[aC (sg (qw (nc q) d))];show n
 there:=λb u q _=>#[u,k b u q]
 JC:=λb xs q=>by rw[aC (bc q c)];show q
 Jw:=λb u xs q=>by rw[aC (bc q c)];show q
 JD:=λb f q=>#[#v[],by rw[aC (bc q c),q];simp]
def Un.write(a:O3 (H x))(i:e=x\/H e=a8 (.own x))(k:∀b u,b≠e->h.get? b=a8 u->h'.get? b=a8 u)(j:∃u,h'.get? e=a8 u):Un l ex H (upd H x o) h h':=by
 have d:∀b,H b=cb->b≠x:=λb n z=>by subst z;rw[n]at a;show a
 have f:∀b,H b=cb->b≠e:=λb n z=>by
  subst z;rcases i with r|r
  .show d b n r
  .rw[n]at r;cases r
 have c:∀b u,H b=a8 u->¬O3 (a8 u)->b≠x:=λb u q nm z=>by subst z;rw[q]at a;show nm a
 show#[λb u q n _ _=>k b u (f b n) q,λb u q n _ _=>#[u.slots,k b u (f b n) q],λb u q n _=>by rw[aC (d b n)];show n,λb u q _=>?_,
  λb xs q=>by rw[aC (c b _ q λz=>z)];show q,λb u xs q=>by rw[aC (c b _ q λz=>z)];show q,λb m q=>#[#v[],by rw[aC (c b _ q λz=>z),q];simp]]
 by_cases g:b=e
 .subst g;show j
 .show#[u,k b u g q]
end
abbrev KY(h:Nq)(H:Hp):List k9:=(gA h.objs.size).filter λa=>(H a).isSome
abbrev oq(h:Nq)(H:Hp):Nq:=PySem.W.hideAll h (KY h H)
def vN(h:Nq)(H:Hp):(oq h H).objs.size=h.objs.size:=PySem.W.hideAll_size _ _
def xE(e:h.get? b=a8 o)(n:H b=cb):(oq h H).get? b=a8 o :=
 PySem.W.hideAll_get _ e λa=>by
  have q:(H b).isSome=c4:=(Su.mp a).2;rw[n]at q;simp at q
def AF(e:(oq h H).get? b=a8 o):h.get? b=a8 o/\H b=cb:=by
 have a:h.get? b=a8 o:=PySem.W.of_hideAll (KY h H) e;show#[a,?_];cases q:H b with
 |none=>rfl
 |some x =>
  have c:b∈KY h H:=Su.mpr #[w6.mpr (nc a),by simp[q]];have z:(oq h H).get? b=cb:=PySem.W.hideAll_none (KY h H) c;rw[z]at e;cases e
structure Mod(K:PySem.W.Frag)(mg:Str->Option fx)(base:Nq):Prop where
 LM:K.In base
 glob:base.Ns nt mg
 blt:∃mb,base.Ns VR mb/\∀x:Str,x≠"__name__"->mb x=Mq x
 nolimit:base.NoLimit
structure Cx where
 prog:z8
 w:JM
 K:PySem.W.Frag
 mg:Str->Option fx
 base:Nq
 A:Od
 N:List Str
 s₀:i4
 H₀:Hp
 env:Env
 outer:List Env
 stack:List Env
 ex:List k9
 fn:Str->Bool
 calm:Bool
 pn:List (k9×Obj)
 xe:fx->i4->Prop
abbrev Ji(l:List Env):List k9:=l.filterMap (·.frame)
noncomputable abbrev Cx.fs(X:Cx):List k9:=Ji X.outer
abbrev Mo(a:OK)(x:Str):Prop:=a.names.lookup x=a8 .local\/a.names.lookup x=a8 .cell\/a.names.lookup x=a8 .free
abbrev Loc(a:OK)(x:Str):Prop:=a.names.lookup x=a8 .local\/a.names.lookup x=a8 .cell
abbrev Look(env:Env)(h:Nq)(m:Str->Option fx)(x:Str)(u:fx):Prop :=
 (env.kindOf x=a8 .local/\m x=a8 u)\/((env.kindOf x=a8 .cell\/env.kindOf x=a8 .free)/\∃c,env.cells.lookup x=a8 c/\h.IsCell c (a8 u))
structure Cx.Ok(X:Cx):Prop where
 mod:Mod X.K X.mg X.base
 kind:X.env.scope.kind=.function
 glob:X.env.globals=nt
 blt:X.env.builtins=VR
 above:X.s₀.heap.objs.size<=X.env.locals
 inj:∀x y c,X.env.cells.lookup x=a8 c->X.env.cells.lookup y=a8 c->x=y
 has:∀x,(X.env.kindOf x=a8 .cell\/X.env.kindOf x=a8 .free)->∃c,X.env.cells.lookup x=a8 c
 Nt:∀x c,X.fn x=c4->X.env.cells.lookup x=a8 c->X.s₀.heap.objs.size<=c
 hd:X.calm=c4->X.A.handled=cb
 frames:X.A.frames=a8 X.stack
 Oy:X.stack=X.outer\/(X.stack=X.env::X.outer/\X.env.frame=a8 X.env.locals)
 QC:∀b∈X.ex,b≠X.env.locals/\∀x c,X.env.cells.lookup x=a8 c->c≠b
 bs:∀b o,X.base.get? b=a8 o->X.s₀.heap.get? b=a8 o/\X.H₀ b=cb
 LN:X.base.objs.size<=X.s₀.heap.objs.size
 KZ:∀b o,X.base.get? b=a8 o->b∉X.ex
 Ln:∀b∈X.ex,b∉X.fs
 ib:X.s₀.heap.FunFrames X.base X.outer
 Mp:∀b∈X.fs,X.H₀ b=cb
structure Inv(X:Cx)(pins:List (k9×Obj))(σ:List (Option V))(H:Hp)(s:i4):Prop where
 ok:X.Ok
 os:s.os=X.s₀.os
 bare:Ww s.gens
 base:Un X.fs X.ex X.H₀ H X.s₀.heap s.heap
 loc:∃m,s.heap.Ns X.env.locals m/\∀(i:Nat) (x:Str) (v:V),X.N[i]?=a8 x->σ[i]?=a8 (a8 v)->Mo X.env.scope x->∃u,RelV v u/\Look X.env s.heap m x u
 cell:∀x c,X.env.cells.lookup x=a8 c->∃v,s.heap.IsCell c v
 free:H X.env.locals=cb
 IY:∀x c,X.env.cells.lookup x=a8 c->H c=cb
 pin:∀p∈X.pn++pins,s.heap.get? p.1=a8 p.2/\H p.1=cb/\p.1≠X.env.locals/\p.1∉X.fs/\∀v,p.2.data≠.cell v
 IE:JG X.prog X.w H s.heap
 len:σ.length=X.N.length
section
variable{X:Cx}{pins:List (k9×Obj)}{σ:List (Option V)}{H H':Hp}{s:i4}{h':Nq}
def Cx.Ok.HI(ok:X.Ok)(e:X.base.get? b=a8 o):b∉X.fs:=λa=>by
 have:=(ok.ib.mem a).1;rw[e]at this;cases this
def Inv.bs(I:Inv X pins σ H s):∀b o,X.base.get? b=a8 o->s.heap.get? b=a8 o/\H b=cb:=λb o e =>
 #[I.base.keep b o (I.ok.bs b o e).1 (I.ok.bs b o e).2 (I.ok.HI e) (I.ok.KZ b o e),I.base.free b o (I.ok.bs b o e).1 (I.ok.bs b o e).2 (I.ok.KZ b o e)]
def Inv.bk(I:Inv X pins σ H s):∀b o,X.base.get? b=a8 o->s.heap.get? b=a8 o:=λb o e=>(I.bs b o e).1
def Inv.mod(I:Inv X pins σ H s):Mod X.K X.mg X.base:=I.ok.mod
def Inv.Kx(I:Inv X pins σ H s):X.K.In s.heap:=I.ok.mod.LM.keeps I.bk
def Inv.lt(I:Inv X pins σ H s):X.env.locals<s.heap.objs.size:=let ⟨_,a,_⟩:=I.loc;a.lt
def Inv.sz(I:Inv X pins σ H s):X.s₀.heap.objs.size<=s.heap.objs.size:=DD I.ok.above (Ou I.lt)
def Inv.Dy(I:Inv X pins σ H s)(h:s.heap.objs.size<=a):a∉X.fs:=λb=>by
 have(_,o,ho,_):=I.ok.ib.mem b;show absurd (qw (nc ho) (DD I.sz h)) (Mr _)
def Inv.LO(I:Inv X pins σ H s):∀x c,X.env.cells.lookup x=a8 c->c≠X.env.locals:=λx c e z=>by
 have(v,o,ho,a):=I.cell x c e;have(m,(f,es,ep,b,d,_),_):=I.loc;rw[z,b]at ho;cases ho;rw[d]at a;cases a
def Inv.ib(I:Inv X pins σ H s):s.heap.FunFrames X.base X.outer:=by
 have all:∀(l:List Env),(∀b∈Ji l,b∈X.fs)->X.s₀.heap.FunFrames X.base l->s.heap.FunFrames X.base l:=by
  intro l;induction l with
  |nil=>intro _ _;trivial
  |cons env r f =>
   intro hs hl;have(hk,(L,o,a,g,ho,h),i):=hl;have c:L∈X.fs:=hs L (by unfold Ji;rw[La,a];show hY);have(j,e):=I.base.slot L o ho (I.ok.Mp L c) c λz=>I.ok.Ln L z c;show#[hk,#[L,_,a,g,e,h],f (λb d=>hs b (by unfold Ji;rw[La,a];show et _ d)) i]
 show all X.outer (λ_ d=>d) I.ok.ib
def Inv.stack(I:Inv X pins σ H s):s.heap.FunFrames X.base X.stack:=by
 rcases I.ok.Oy with e|⟨e,a⟩
 .rw[e];show I.ib
 .rw[e];have(m,b,_):=I.loc;show .cons (by rw[I.ok.kind];decide) a b ?_ I.ib;show Heap.get?_none_of_le (DD I.ok.LN I.ok.above)
def Inv.jz(I:Inv X pins σ H s):∀b∈Ji X.stack,b∈X.env.locals::X.fs:=λb a=>by
 rcases I.ok.Oy with e|⟨e,c⟩
 .rw[e]at a;show et _ a
 .rw[e]at a;unfold Ji at a;rw[La,c]at a;show a
def Inv.gr(I:Inv X pins σ H s):∀b∈Ji X.stack,H b=cb:=λb hb=>by
 rcases fz.mp (I.jz b hb) with e|hb
 .rw[e];show I.free
 .have(_,o,ho,_):=I.ok.ib.mem hb;show I.base.free b o ho (I.ok.Mp b hb) λz=>I.ok.Ln b z hb
def Inv.step{ch:List k9}(I:Inv X pins σ H s)
  (j:∀b∈ch,(b∈X.ex\/X.s₀.heap.objs.size<=b)/\b≠X.env.locals/\(∀x c,X.env.cells.lookup x=a8 c->c≠b)/\∀p∈X.pn++pins,p.1≠b)
  (keep:∀b o,b≠X.env.locals->b∉X.fs->b∉ch->s.heap.get? b=a8 o->H b=cb->h'.get? b=a8 o)
  (slot:∀b o,b≠X.env.locals->b∈X.fs->b∉ch->s.heap.get? b=a8 o->H b=cb->∃G,h'.get? b=a8 {o with slots:=G}) (free:∀b o,b∉ch->s.heap.get? b=a8 o->H b=cb->H' b=cb)
  (there:∀b o,b∉ch->s.heap.get? b=a8 o->∃t,h'.get? b=a8 t)
  (JC:∀b xs,H b=a8 (.tup xs)->H' b=a8 (.tup xs)) (Jw:∀b o u,H b=a8 (.J9 o u)->H' b=a8 (.J9 o u)) (JD:∀b C,H b=a8 (.MZ C)->∃y,H' b=a8 (.MZ (C++y)))
  (ns:∀m,s.heap.Ns X.env.locals m->h'.Ns X.env.locals m) (Q:JG X.prog X.w H' h') (T:Ww g') :
  Inv X pins σ H' {s with heap:=h',gens:=g',drawn:=d',toks:=t' }:=by
 have L:∀b o,X.s₀.heap.get? b=a8 o->b≠X.env.locals:=λb o e=>sg (qw (nc e) I.ok.above);have D:∀b o,X.s₀.heap.get? b=a8 o->b∉X.ex->b∉ch:=λb o e a h=>by
  rcases(j b h).1 with z|z
  .show a z
  .show absurd (qw (nc e) z) (Mr _)
 have f:∀x c,X.env.cells.lookup x=a8 c->∀v,s.heap.IsCell c v->h'.IsCell c v:=λx c e v Y=>by
  have(o,ho,J):=Y;have A:c∉ch:=λz=>(j c z).2.2.1 x c e rfl;by_cases N:c∈X.fs
  .have(G,q):=slot c o (I.LO x c e) N A ho (I.IY x c e);show#[_,q,J]
  .show#[o,keep c o (I.LO x c e) N A ho (I.IY x c e),J]
 show#[I.ok,I.os,T,#[λb o e n h a=>?_,λb o e n h a=>?_,λb o e n a=>?_,λb o e a=>?_,λb xs e=>JC b xs (I.base.JC b xs e),λb o xs e=>Jw b o xs (I.base.Jw b o xs e),λb C e=>?_],?_,λx c e=>?_,?_,λx c e=>?_,λp O=>?_,Q,I.len]
 .show keep b o (L b o e) h (D b o e a) (I.base.keep b o e n h a) (I.base.free b o e n a)
 .have(G,g):=I.base.slot b o e n h a;have(Oz,B):=slot b _ (L b o e) h (D b o e a) g (I.base.free b o e n a);show#[Oz,B]
 .have(t,g):=I.base.there b o e a;show free b t (D b o e a) g (I.base.free b o e n a)
 .have(t,g):=I.base.there b o e a;show there b t (D b o e a) g
 .have(m1,g):=I.base.JD b C e;have(m2,B):=JD b _ g;show#[m1++m2,by rw[B,ä]]
 .have(m,hn,hl):=I.loc;show#[m,ns m hn,λi x v g B e3=>?_];have(u,r,l):=hl i x v g B e3;show#[u,r,?_];rcases l with l|⟨k,c,e,z⟩
  .show .inl l
  .show .inr #[k,c,e,f x c e _ z]
 .have(v,z):=I.cell x c e;show#[v,f x c e v z]
 .have(m,(o,_,_,ho,_),_):=I.loc;show free _ o (λz=>(j _ z).2.1 rfl) ho I.free
 .have(v,o,ho,J):=I.cell x c e;show free c o (λz=>(j c z).2.2.1 x c e rfl) ho (I.IY x c e)
 .have(e,n,ne,nf,d):=I.pin p O;have A:p.1∉ch:=λz=>(j p.1 z).2.2.2 p O rfl;show#[keep p.1 p.2 ne nf A e n,free p.1 p.2 A e n,ne,nf,d]
def Inv.un(I:Inv X pins σ H s)(u:Un X.fs [] H H' s.heap h')(d:JG X.prog X.w H' h'):Inv X pins σ H' {s with heap:=h',toks:=t' }:=by
 have(m,(o,es,ep,ho,r),_):=id I.loc;have(k,f):=u.any ho I.free (by simp);show I.step (g':=s.gens) (d':=s.drawn) (ch:=[]) (λ_ z=>nomatch z) (λb o _ a _ e n=>u.keep b o e n a (by simp)) (λb o _ a _ e n=>u.slot b o e n a (by simp)) (λb o _ e n=>u.free b o e n (by simp)) (λb o _ e=>u.there b o e (by simp)) u.JC u.Jw u.JD (λl g=>by
  have(p,h,i,c,j):=g;rw[ho]at c;cases c;show#[_,h,i,f,j]) d I.bare
def Inv.call(I:Inv X pins σ H s)(u:Un (Ji X.stack) ch H H' s.heap h')(h:JG X.prog X.w H' h')(i:Ww g')
  (f:∀b∈ch,(b∈X.ex\/X.s₀.heap.objs.size<=b)/\b≠X.env.locals/\(∀x c,X.env.cells.lookup x=a8 c->c≠b)/\∀p∈X.pn++pins,p.1≠b) :
  Inv X pins σ H' {s with heap:=h',gens:=g',drawn:=d',toks:=t' }:=by
 have(m,(o,es,ep,ho,r),_):=id I.loc;have(v,d):=u.any ho I.free λz=>(f _ z).2.1 rfl;show I.step (ch:=ch) f (λb o d j a e n=>u.keep b o e n (λz=>(fz.mp (I.jz b z)).elim d j) a) (λb o _ _ a e n=>u.any e n a) (λb o a e n=>u.free b o e n a) (λb o a e=>u.there b o e a) u.JC u.Jw u.JD (λy k=>by
  have(A,l,q,g,t):=k;rw[ho]at g;cases g;show#[_,l,q,d,t]) h i
def Inv.turned(I:Inv X pins σ H s)(k:∀b o,b≠it->s.heap.get? b=a8 o->h'.get? b=a8 o)(g:H it=cb)(d:it≠X.env.locals)
  (h:it∈X.ex\/X.s₀.heap.objs.size<=it) (i:∀x c,X.env.cells.lookup x=a8 c->c≠it) (j:∀p∈X.pn++pins,p.1≠it):Inv X pins σ H {s with heap:=h',toks:=t' }:=by
 have f:∀b u,H b=a8 u->b≠it:=λb u e z=>by rw[z,g]at e;cases e
 show I.step (g':=s.gens) (d':=s.drawn) (ch:=[it]) (λb l=>?_) (λb o _ _ a e _=>k b o (λz=>a (by simp[z])) e) (λb o _ _ a e _=>#[o.slots,k b o (λz=>a (by simp[z])) e]) (λ_ _ _ _ n=>n)
  (λb o a e=>#[o,k b o (λz=>a (by simp[z])) e]) (λ_ _ e=>e) (λ_ _ _ e=>e) (λb w e=>#[#v[],by rw[e];simp]) (λm t=>?_) (λb u e=>?_) I.bare
 .have e:b=it:=by simpa using l
  subst e;show#[h,d,i,j]
 .have(o,es,ep,ho,r):=t;show#[o,es,ep,k _ o (Mk d) ho,r]
 .show(I.IE b u e).mV (λc v a q=>k c v ?_ q) (λ_ q=>q) λ_ _ q=>q;rcases a with z|z
  .rw[z];show f b u e
  .show f c _ z
def Inv.tok(I:Inv X pins σ H s)(t:Nat):Inv X pins σ H {s with toks:=t}:=I.un (h':=s.heap) (t':=t) Un.refl I.IE
def Inv.kept(I:Inv X pins σ H s)(k:∀b u,s.heap.get? b=a8 u->h'.get? b=a8 u):Inv X pins σ H {s with heap:=h',toks:=t' }:=I.un (Un.kept k) (I.IE.kept k)
def Inv.laid(I:Inv X pins σ H s)(k:∀b u,s.heap.get? b=a8 u->h'.get? b=a8 u)(c:s.heap.objs.size<=a)(new:bW X.prog X.w (upd H a o) h' a o):
  Inv X pins σ (upd H a o) {s with heap:=h',toks:=t' }:=I.un (Un.laid k c (I.IE.fresh c)) (I.IE.laid k c new)
def Inv.write(I:Inv X pins σ H s)(a:O3 (H x))(c:e=x\/H e=a8 (.own x))(k:∀b u,b≠e->s.heap.get? b=a8 u->h'.get? b=a8 u)(d:∃u,h'.get? e=a8 u)
  (new:bW X.prog X.w (upd H x o) h' x o):Inv X pins σ (upd H x o) {s with heap:=h',toks:=t' }:=I.un (Un.write a c k d) (I.IE.write a c k d new)
def Inv.weak(I:Inv X pins σ H s)(hl:a.length=σ.length)(w:∀(i:Nat) v,a[i]?=a8 (a8 v)->σ[i]?=a8 (a8 v)):Inv X pins a H s :=
 #[I.ok,I.os,I.bare,I.base,let ⟨m,b,c⟩:=I.loc;⟨m,b,λi x v d e f=>c i x v d (w i v e) f⟩,I.cell,I.free,I.IY,I.pin,I.IE,hl.trans I.len]
def Inv.gu(I:Inv X pins σ H s)(h:∀p∈a,s.heap.get? p.1=a8 p.2/\H p.1=cb/\p.1≠X.env.locals/\p.1∉X.fs/\∀v,p.2.data≠.cell v):Inv X a σ H s :=
 #[I.ok,I.os,I.bare,I.base,I.loc,I.cell,I.free,I.IY,λp b=>(mN.mp b).elim (λz=>I.pin p (Ox _ z)) (h p),I.IE,I.len]
def iJ{N:List Str}(c:N.Nodup){i j:Nat}(a:N[i]?=a8 x)(b:N[j]?=a8 x):i=j:=by
 have(f,d):=mr.mp a;have(g,e):=mr.mp b;show(List.getElem_inj c).mp (d.trans e.symm)
def ny(I:Inv X pins σ H s)(hN:X.N.Nodup)(D:X.N[i]?=a8 x)(l:Loc X.env.scope x)(r:RelV v u)
  (h:∀s',Inv X pins (σ.set i (a8 v)) H s'->(∃a,Mx a s.heap s'.heap/\(a=X.env.locals\/X.env.cells.lookup x=a8 a))->Q () s') (hf:X.fn x=c4\/X.env.scope.names.lookup x=a8 .local:=by first|show .inl rfl|show .inr rfl|assumption):js M A (Ō X.env x u) Q E s:=by
 have(m,L,hl):=id I.loc;have Nv:(X.env.scope.kind==.class||(X.env.scope.kind==.module&&X.env.locals != X.env.globals))=dV:=by rw[I.ok.kind];rfl
 have Ui:i < σ.length:=by rw[I.len];show(mr.mp D).1
 have O:=I.LO;have f:∀{a:k9} {h':Nq},(∃o,s.heap.get? a=a8 o/\H a=cb)->Mx a s.heap h'->JG X.prog X.w H h':=λ{a h'} ha hs b ob e=>by
  have(_,_,IK):=ha;show(I.IE b ob e).mV (λc G hc q=>(hs.2 c ?_).trans q) (λ_ q=>q) λ_ _ q=>q;rintro rfl;rcases hc with rfl|hc
  .rw[IK]at e;cases e
  .rw[IK]at hc;cases hc
 rcases l with hk|hk
 .show wpAny_storeName_local hk L (λh' Rj hs=>?_) Nv;have(oL,_,_,O7,_):=id L;show h _ #[I.ok,I.os,I.bare,#[λb o e n B l=>?_,λb o e n B l=>?_,I.base.free,λb o e l=>?_,I.base.JC,I.base.Jw,I.base.JD],#[_,Rj,λj y T g t Y=>?_],λy c e=>?_,I.free,I.IY,λp hp=>?_,f #[oL,O7,I.free] hs,by simpa using I.len] ⟨_,hs,.inl rfl⟩
  .show(hs.2 b (sg (qw (nc e) I.ok.above))).trans (I.base.keep b o e n B l)
  .have(sl,g):=I.base.slot b o e n B l;show#[sl,(hs.2 b (sg (qw (nc e) I.ok.above))).trans g]
  .have(o',g):=I.base.there b o e l;show#[o',(hs.2 b (sg (qw (nc e) I.ok.above))).trans g]
  .by_cases C:j=i
   .subst C;rw[D]at g;cases g;rw[rr Ui]at t;cases t;show#[u,r,.inl #[hk,by simp]]
   .rw[ro (Mk C)]at t;have(u',r',q):=hl j y T g t Y;show#[u',r',?_];rcases q with⟨k,e⟩|⟨k,c,e,z⟩
    .show .inl #[k,?_];have:y≠x:=λe=>C (iJ hN g (e▸D));simp[this,e]
    .show .inr #[k,c,e,z.sameBut hs (O y c e)]
  .have(G,z):=I.cell y c e;show#[G,z.sameBut hs (O y c e)]
  .have(e,n,ne,nf,d):=I.pin p hp;show#[(hs.2 p.1 ne).trans e,n,ne,nf,d]
 .have Ky:X.fn x=c4:=by
   rcases hf with z|z
   .show z
   .rw[z]at hk;cases hk
  have(c,hc):=I.ok.has x (.inl hk);have(G,z):=I.cell x c hc;show wpAny_storeName_cell I.ok.kind hk hc z (λh' OA hs=>?_);have(oc,Uj,Rk):=id z;show h {s with heap:=h' } ⟨I.ok,I.os,I.bare,⟨λb o e n B l=>?_,λb o e n B l=>?_,I.base.free,λb o e l=>?_,I.base.JC,I.base.Jw,I.base.JD⟩,⟨m,L.sameBut hs (Mk (O x c hc)),λj y T g t Y=>?_⟩,λy J e=>?_,I.free,I.IY,λp hp=>?_,f ⟨oc,Uj,I.IY x c hc⟩ hs,by simpa using I.len⟩ ⟨c,hs,.inr hc⟩
  .show(hs.2 b (sg (qw (nc e) (I.ok.Nt x c Ky hc)))).trans (I.base.keep b o e n B l)
  .have(sl,g):=I.base.slot b o e n B l;show#[sl,(hs.2 b (sg (qw (nc e) (I.ok.Nt x c Ky hc)))).trans g]
  .have(o',g):=I.base.there b o e l;show#[o',(hs.2 b (sg (qw (nc e) (I.ok.Nt x c Ky hc)))).trans g]
  .by_cases C:j=i
   .subst C;rw[D]at g;cases g;rw[rr Ui]at t;cases t;show#[u,r,.inr #[.inl hk,c,hc,OA]]
   .rw[ro (Mk C)]at t;have(u',r',q):=hl j y T g t Y;show#[u',r',?_];rcases q with q|⟨k,J,e,z'⟩
    .show .inl q
    .show .inr #[k,J,e,z'.sameBut hs ?_];rintro rfl;show C (iJ hN g (I.ok.inj _ _ _ e hc▸D))
  .by_cases Uk:J=c
   .subst Uk;show#[_,OA]
   .have(w2,z2):=I.cell y J e;show#[w2,z2.sameBut hs Uk]
  .have(e,n,ne,nf,d):=I.pin p hp;show#[(hs.2 p.1 ?_).trans e,n,ne,nf,d];intro q;rw[q,Uj]at e;have q':oc=p.2:=Jc e;show d G (by rw[<-q'];show Rk)
def fH(I:Inv X pins σ H s)(a:X.N.Nodup)(b:X.N[i]?=a8 x)(c:Loc X.env.scope x)(r:RelV v u)
  (h:∀s',Inv X pins (σ.set i (a8 v)) H s'->Q () s') (d:X.fn x=c4\/X.env.scope.names.lookup x=a8 .local:=by first|show .inl rfl|show .inr rfl|assumption):js M A (Ō X.env x u) Q E s :=
 ny I a b c r (λs' e _=>h s' e) d
def Inv.ua(I:Inv X pins σ H s)(ho:s'.os=s.os)(u:Un (Ji X.stack) ch H H' s.heap s'.heap)(a:JG X.prog X.w H' s'.heap)(d:Ww s'.gens)
  (f:∀b∈ch,(b∈X.ex\/X.s₀.heap.objs.size<=b)/\b≠X.env.locals/\(∀x c,X.env.cells.lookup x=a8 c->c≠b)/\∀p∈X.pn++pins,p.1≠b):Inv X pins σ H' s':=by
 have(h',g',d',t',g):=s';have e:g=s.os:=ho;subst e;show I.call (g':=g') (t':=t') (d':=d') u a d f
end
@[reducible]noncomputable def XK:=fx->Option k9->Hp->Prop
@[reducible]noncomputable def St:=List (Option V)
@[reducible]noncomputable def VK:=V->Hp->Prop
@[reducible]noncomputable def TE:=St->Hp->VK->Prop
@[reducible]noncomputable def TT:=St->Hp->(Bool->Hp->Prop)->Prop
@[reducible]noncomputable def TA:=St->Hp->(List V->Hp->Prop)->Prop
structure Ends where
 nx:St->Hp->Prop
 rt:VK
 bk:St->Hp->Prop:=λ_ _=>False
 ct:St->Hp->Prop:=λ_ _=>False
@[reducible]noncomputable def TS:=Ends->St->Hp->Prop
abbrev EP(X:Cx)(pins:List (k9×Obj))(σ:St)(Q:VK)(u:fx)(s':i4):Prop:=∃v H',Inv X pins σ H' s'/\RelV v u/\Q v H'
abbrev TP(X:Cx)(pins:List (k9×Obj))(σ:St)(Q:Bool->Hp->Prop)(b:Bool)(s':i4):Prop:=∃H',Inv X pins σ H' s'/\Q b H'
abbrev AP(X:Cx)(pins:List (k9×Obj))(σ:St)(Q:List V->Hp->Prop)(us:List fx)(s':i4):Prop:=∃vs H',Inv X pins σ H' s'/\Vals vs us/\Q vs H'
abbrev SP(X:Cx)(pins:List (k9×Obj))(D:Ends)(f:Flow)(s':i4):Prop :=
 match f with
 |.next=>∃a H',Inv X pins a H' s'/\D.nx a H'
 |.brk=>∃a H',Inv X pins a H' s'/\D.bk a H'
 |.cont=>∃a H',Inv X pins a H' s'/\D.ct a H'
 |.ret u=>∃v a H',Inv X pins a H' s'/\RelV v u/\D.rt v H'
abbrev PE(X:Cx)(e:vr)(t:TE):Prop :=
 ∀(pins:List (k9×Obj)) (s:i4) (σ:St) (H:Hp) (Q:VK),Inv X pins σ H s->t σ H Q->js (mn X.prog X.w) X.A (MM e X.env) (EP X pins σ Q) X.xe s
abbrev PT(X:Cx)(e:vr)(t:TT):Prop :=
 ∀(pins:List (k9×Obj)) (s:i4) (σ:St) (H:Hp) (Q:Bool->Hp->Prop),Inv X pins σ H s->t σ H Q->js (mn X.prog X.w) X.A (isTrue e X.env (MM e X.env)) (TP X pins σ Q) X.xe s
abbrev PW(X:Cx)(e:vr)(t:TT):Prop :=
 ∀(a:Sem fx) (pins:List (k9×Obj)) (s:i4) (σ:St) (H:Hp) (Q:Bool->Hp->Prop),Inv X pins σ H s->t σ H Q->js (mn X.prog X.w) X.A (isTrue e X.env a) (TP X pins σ Q) X.xe s
def PW.pt(h:PW X e t):PT X e t:=h _
abbrev PA(X:Cx)(es:List vr)(t:TA):Prop :=
 ∀(pos:Pos) (pins:List (k9×Obj)) (s:i4) (σ:St) (H:Hp) (Q:List V->Hp->Prop),Inv X pins σ H s->t σ H Q->js (mn X.prog X.w) X.A (Ŀ (NZ pos (pa es X.env))) (AP X pins σ Q) X.xe s
abbrev PS(X:Cx)(st:PV)(t:TS):Prop :=
 ∀(pins:List (k9×Obj)) (s:i4) (σ:St) (H:Hp) (D:Ends),Inv X pins σ H s->t D σ H->js (mn X.prog X.w) X.A (exec st X.env) (SP X pins D) X.xe s
abbrev JJ(X:Cx)(st:List PV)(t:TS):Prop :=
 ∀(pins:List (k9×Obj)) (s:i4) (σ:St) (H:Hp) (D:Ends),Inv X pins σ H s->t D σ H->js (mn X.prog X.w) X.A (execs st X.env) (SP X pins D) X.xe s
def IF(h:js M A t Q E s)(b:∀a s,Q a s->Q' a s):js M A t Q' E s:=tj h b λ_ _ x=>x
section
abbrev HJ(i:Nat):TE:=λσ H Q=>∃v,σ[i]?=a8 (a8 v)/\Q v H
abbrev tC(v:V):TE:=λ_ H Q=>Q v H
def ic(g:X.N[i]?=a8 x)(j:Mo X.env.scope x)(b:(x==("__debug__":Str))=dV:=by decide)(k:(x==("__classdict__":Str))=dV:=by decide):PE X (.Name x pos) (HJ i):=by
 intro pins s σ H Q I h;have(v,e,h):=h;have(m,n,hl):=I.loc;have(u,r,l):=hl i x v g e j;have a:EP X pins σ Q u s:=#[v,H,I,r,h]
 rcases l with⟨hk,o⟩|⟨hk,c,d,f⟩
 .show į (wpAny_loadName_local I.ok.kind hk n o a) b
 .rcases hk with hk|hk
  .show į (wpAny_loadName_cell I.ok.kind hk d f a) b
  .show į (wpAny_loadName_free I.ok.kind hk d f a k) b
def ot:PE X (.Constant (.int i) j pos) (tC (.int i)):=λ_ _ _ H _ I h=>wpAny_Constant_int #[.int i,H,I.tok _,#[_,rfl],h]
def FJ:PE X (.Constant (.bool b) j pos) (tC (.bl b)):=λ_ _ _ H _ I h=>Constant_bool #[.bl b,H,I,rfl,h]
def Dz:PE X (.Constant .none j pos) (tC .ID):=λ_ _ _ H _ I h=>Constant_none #[.ID,H,I,rfl,h]
def DA:PE X (.Constant (.str x) j pos) (tC (.str x)):=λ_ _ _ H _ I h=>Calls.Constant_str #[.str x,H,I.tok _,#[_,rfl],h]
abbrev Gl(X:Cx)(x:Str):Prop:=X.env.kindOf x=a8 .globalImplicit
def cq(I:Inv X pins σ H s)(a:Gl X x)(b:X.mg x=a8 u)(h:Q u s)
  (c:(x==("__debug__":Str))=dV:=by decide):js (mn X.prog X.w) X.A (MM (.Name x pos) X.env) Q E s :=
 Zo I.ok.kind a (Calls.loadGlobal_global (by rw[I.ok.glob];show I.mod.glob.keeps I.bk) b h) c
def dH(I:Inv X pins σ H s)(a:Gl X x)(b:X.mg x=cb)(c:Mq x=a8 u)(h:Q u s)
  (d:x≠"__name__":=by decide) (e:(x==("__debug__":Str))=dV:=by decide):js (mn X.prog X.w) X.A (MM (.Name x pos) X.env) Q E s:=by
 have(i,f,g):=I.mod.blt;show Zo I.ok.kind a (Calls.loadGlobal_builtin (by rw[I.ok.glob];show I.mod.glob.keeps I.bk) b (by rw[I.ok.blt];show f.keeps I.bk) ((g x d).trans c) h) e
def AG(a:Gl X x)(b:X.mg x=a8 u)(r:RelV v u)(c:(x==("__debug__":Str))=dV:=by decide):PE X (.Name x pos) (tC v) :=
 λ_ _ _ H _ I h=>cq I a b #[v,H,I,r,h] c
def ub(a:Gl X x)(b:X.mg x=cb)(c:Mq x=a8 u)(r:RelV v u)(d:x≠"__name__":=by decide)(e:(x==("__debug__":Str))=dV:=by decide):PE X (.Name x pos) (tC v) :=
 λ_ _ _ H _ I h=>dH I a b c #[v,H,I,r,h] d e
abbrev HK(t u:TT):TT:=λσ H Q=>t σ H λc a=>if c=c4 then u σ a Q else Q dV a
abbrev Vz(t u:TT):TT:=λσ H Q=>t σ H λc a=>if c=c4 then Q c4 a else u σ a Q
abbrev HL(t:TT):TT:=λσ H Q=>t σ H λc a=>Q (!c) a
def AH(b:PT X a d):PW X (.BoolOp .And [a] pos) d:=by
 intro f pins s σ H Q I h;show isTrue_and (IF (b pins s σ H Q I h) λc s1 e=>?_);cases c with
 |true=>show ų e
 |false=>show e
def DB(b:PT X a d):PW X (.BoolOp .Or [a] pos) d:=by
 intro f pins s σ H Q I h;show isTrue_or (IF (b pins s σ H Q I h) λc s1 e=>?_);cases c with
 |false=>show isTrue_or_nil e
 |true=>show e
def DC(g:PT X a i)(j:PW X (.BoolOp .And (b::rest) pos) k):PW X (.BoolOp .And (a::b::rest) pos) (HK i k):=by
 intro l pins s σ H Q I h;show isTrue_and (IF (g pins s σ H _ I h) λc s1 m=>?_);have(d,e,f):=m;cases c with
 |true=>show j l pins s1 σ d Q e f
 |false=>show#[d,e,f]
def FK(g:PT X a i)(j:PW X (.BoolOp .Or (b::rest) pos) k):PW X (.BoolOp .Or (a::b::rest) pos) (Vz i k):=by
 intro l pins s σ H Q I h;show isTrue_or (IF (g pins s σ H _ I h) λc s1 m=>?_);have(d,e,f):=m;cases c with
 |true=>show#[d,e,f]
 |false=>show j l pins s1 σ d Q e f
def DE(b:PT X a d):PT X (.UnaryOp .Not a pos) (HL d):=by
 intro pins s σ H Q I h;show isTrue_not (b pins s σ H (λc e=>Q (!c) e) I h)
abbrev FL(b d:TE):TE:=λσ H Q=>b σ H λx a=>∃c,x=.bl c/\if c=c4 then d σ a Q else Q (.bl dV) a
abbrev HM(b d:TE):TE:=λσ H Q=>b σ H λx a=>∃c,x=.bl c/\if c=c4 then Q (.bl c4) a else d σ a Q
abbrev FN(a:TE):TE:=λσ H Q=>a σ H λx b=>∃c,x=.bl c/\Q (.bl (!c)) b
def xF(h:PE X a t):PE X (.BoolOp op [a] pos) t:=λpins s σ H Q I b=>BoolOp_one (h pins s σ H Q I b)
def DF(g:PE X a i)(j:PE X (.BoolOp .And (b::rest) pos) k):PE X (.BoolOp .And (a::b::rest) pos) (FL i k):=by
 intro pins s σ H Q I h;show BoolOp_and (IF (g pins s σ H _ I h) λv s1 l=>?_);have(x,e,f,m,d):=l;have(c,rfl,d):=d;cases m;show LH ?_;cases c with
 |true=>show j pins s1 σ e Q f d
 |false=>show#[.bl dV,e,f,rfl,d]
def FO(g:PE X a i)(j:PE X (.BoolOp .Or (b::rest) pos) k):PE X (.BoolOp .Or (a::b::rest) pos) (HM i k):=by
 intro pins s σ H Q I h;show BoolOp_or (IF (g pins s σ H _ I h) λv s1 l=>?_);have(x,e,f,m,d):=l;have(c,rfl,d):=d;cases m;show LH ?_;cases c with
 |false=>show j pins s1 σ e Q f d
 |true=>show#[.bl c4,e,f,rfl,d]
def DG(d:PE X a e):PE X (.UnaryOp .Not a pos) (FN e):=by
 intro pins s σ H Q I h;show UnaryOp_ (IF (d pins s σ H _ I h) λv s1 f=>?_);have(x,g,i,j,b):=f;have(c,rfl,b):=b;cases j;show not_of (LH #[.bl (!c),g,i,rfl,b])
end
abbrev Jo(K:PySem.W.Frag)(H:Hp)(a:k9)(xs:List V):Prop :=
 Rd H a (.lst xs) \/
  ∃(o:Obj) (b:Array fx) (n:Nat),K.lookup a=a8 o/\o.cls=.type "list"/\o.dict=cb/\o.data=.seq b n/\b.size<=eh/\Vals xs b.toList
abbrev Jj(K:PySem.W.Frag)(H:Hp)(a:k9)(xs:List V):Prop :=
 Rd H a (.tup xs) \/
  ∃(o:Obj) (b:Array fx) (n:Nat),K.lookup a=a8 o/\o.cls=.type "tuple"/\o.data=.seq b n/\b.size<=eh/\Vals xs b.toList
abbrev HN:fx->Option V
 |.none=>a8 .ID
 |.bool b=>a8 (.bl b)
 |.int i _=>a8 (.int i)
 |.str x _=>a8 (.str x)
 |.bytes b _=>a8 (.Qz b)
 |.float b _=>a8 (.QA b)
 |.ref a=>a8 (.ref a)
 |.type n=>a8 (.ty n)
 |_=>cb
def RelV.abs(r:RelV x u):HN u=a8 x:=by
 cases x with
 |ID=>cases r;rfl
 |bl _=>cases r;rfl
 |ref _=>cases r;rfl
 |ty _=>cases r;rfl
 |_=>have(t,rfl):=r;rfl
def RelV.inj(r:RelV x u)(q:RelV y u):x=y:=Jc (r.abs.symm.trans q.abs)
theorem Vals.inj:∀{xs a:List V}{us:List fx},Vals xs us->Vals a us->xs=a
 |_,_,_,.nil,.nil=>rfl
 |_,_,_,.cons r t,.cons b t'=>by rw[r.inj b,Vals.inj t t']
section
def Jo.of{K:PySem.W.Frag}(h:H a=a8 (.lst xs)):Jo K H a xs:=.inl (.inl h)
def Jj.of{K:PySem.W.Frag}(h:H a=a8 (.tup xs)):Jj K H a xs:=.inl (.inl h)
def Inv.list(I:Inv X pins σ H s)(h:Jo X.K H a xs):∃b:List fx,Vals xs b/\PlainL s.heap a b.toArray/\xs.length<=eh:=by
 rcases h with h|⟨o,b,n,hk,c,d,hs,hz,r⟩
 .have(z,b,n,r,e):=h.ok I.IE;show#[b,r,#[_,n,e,rfl,rfl,rfl],z]
 .show#[b.toList,r,#[o,n,I.Kx a o hk,c,d,by simpa using hs],?_];have e:=r.length;simp only[mA]at e;lia
def Inv.tuple(I:Inv X pins σ H s)(h:Jj X.K H a xs):∃b:List fx,Vals xs b/\é s.heap a b.toArray/\xs.length<=eh:=by
 rcases h with h|⟨o,b,n,hk,c,hs,hz,r⟩
 .have(z,b,r,p):=h.ok I.IE;show#[b,r,p,z]
 .show#[b.toList,r,#[o,I.Kx a o hk,c,n,by simpa using hs],?_];have e:=r.length;simp only[mA]at e;lia
def Inv.xG(I:Inv X pins σ H s)(h:Jo X.K H a xs)(h':Jo X.K H a c):xs=c:=by
 have(f,r,(o,n,e,_,_,d),_):=I.list h;have(its',g,(j,k,b,_,_,d'),_):=I.list h';rw[e]at b;cases b;rw[d]at d';injection d' with i _
 have:f=its':=by simpa using Ż ZY i
 subst this;show r.inj g
def Inv.vO(I:Inv X pins σ H s)(h:Jj X.K H a xs)(h':Jj X.K H a c):xs=c:=by
 have(f,r,(o,e,_,n,d),_):=I.tuple h;have(its',g,(j,b,_,k,d'),_):=I.tuple h';rw[e]at b;cases b;rw[d]at d';injection d' with i _
 have:f=its':=by simpa using Ż ZY i
 subst this;show r.inj g
end
@[reducible]noncomputable def Cx.gP(X:Cx)(E:fx->i4->Prop):Cx:={X with xe:=E}
@[reducible]noncomputable def Cx.JO(X:Cx):Cx:=X.gP λ_ _=>False
def Cx.Ok.gP{X:Cx}(ok:X.Ok)(E:fx->i4->Prop):(X.gP E).Ok :=
 #[ok.mod,ok.kind,ok.glob,ok.blt,ok.above,ok.inj,ok.has,ok.Nt,ok.hd,ok.frames,ok.Oy,ok.QC,ok.bs,ok.LN,ok.KZ,ok.Ln,ok.ib,ok.Mp]
def Cx.Ok.dy{X:Cx}(ok:(X.gP E).Ok):X.Ok :=
 #[ok.mod,ok.kind,ok.glob,ok.blt,ok.above,ok.inj,ok.has,ok.Nt,ok.hd,ok.frames,ok.Oy,ok.QC,ok.bs,ok.LN,ok.KZ,ok.Ln,ok.ib,ok.Mp]
section
def Inv.gP(I:Inv X pins σ H s)(E:fx->i4->Prop):Inv (X.gP E) pins σ H s:=#[I.ok.gP E,I.os,I.bare,I.base,I.loc,I.cell,I.free,I.IY,I.pin,I.IE,I.len]
def Inv.dy(I:Inv (X.gP E) pins σ H s):Inv X pins σ H s:=#[I.ok.dy,I.os,I.bare,I.base,I.loc,I.cell,I.free,I.IY,I.pin,I.IE,I.len]
def SP.dy(h:SP (X.gP E) pins D f s'):SP X pins D f s':=by
 cases f with
 |ret u=>have(v,a,H',I,r,q):=h;show#[v,a,H',I.dy,r,q]
 |_=>have(a,H',I,q):=h;show#[a,H',I.dy,q]
def JJ.JO{st:List PV}(h:JJ X.JO st t):JJ X st t:=λpins s σ H D I a =>
 tj (h pins s σ H D (I.gP _) a) (λ_ _ q=>q.dy) λ_ _ z=>Po z
end
section
variable{X:Cx}{st:PV}{rest:List PV}{t u:TS}{e:vr}{te:TE}{pos:Pos}
abbrev CN:TS:=λD σ H=>D.nx σ H
abbrev HP(t u:TS):TS:=λD σ H=>t {D with nx:=u D} σ H
def kG:JJ X [] CN:=λ_ _ σ H _ I h=>RG #[σ,H,I,h]
def iK(a:PS X st t)(b:JJ X rest u):JJ X (st::rest) (HP t u):=by
 intro pins s σ H D I h;show Zw (IF (a pins s σ H {D with nx:=u D} I h) λf s1 q=>?_);cases f with
 |next =>
  have(c,H',d,q):=q;show b pins s1 c H' D d q
 |_=>show q
abbrev DH:TS:=λD σ H=>D.bk σ H
abbrev FP:TS:=λD σ H=>D.ct σ H
def AI:PS X (.Pass pos) CN:=λ_ _ σ H _ I h=>wpAny_Pass #[σ,H,I,h]
def xH:PS X (.Break pos) DH:=λ_ _ σ H _ I h=>wpAny_Break #[σ,H,I,h]
def qi:PS X (.Continue pos) FP:=λ_ _ σ H _ I h=>wpAny_Continue #[σ,H,I,h]
def Inv.quiet(I:Inv X pins σ H s):interactive X.env=dV:=by simp[interactive,I.ok.kind]
abbrev FQ(te:TE):TS:=λD σ H=>te σ H λ_ a=>D.nx σ a
def ou(a:PE X e te)(hs:VH e cb pos.line X.env=pure dV:=by rfl):PS X (.Expr e pos) (FQ te):=by
 intro pins s σ H D I h;show Š (IF (a pins s σ H _ I h) λv s1 ⟨x,b,c,f,d⟩=>#[σ,b,c,d]) I.quiet hs
abbrev HQ(te:TE):TS:=λD σ H=>te σ H D.rt
def xI(a:PE X e te):PS X (.Return (a8 e) pos) (HQ te):=by
 intro pins s σ H D I h;show Ľ (IF (a pins s σ H _ I h) λv s1 ⟨x,b,c,d,f⟩=>#[x,σ,b,c,d,f])
abbrev FR:TS:=λD _ H=>D.rt .ID H
def AJ:PS X (.Return cb pos) FR:=λ_ _ σ H _ I h=>wpAny_Return_none #[.ID,σ,H,I,rfl,h]
abbrev HR(c:TT)(t u:TS):TS:=λD σ H=>c σ H λb a=>if b=c4 then t D σ a else u D σ a
def FT(j:PT X c k)(l:JJ X a t)(m:JJ X b u):PS X (.If c a b pos) (HR k t u):=by
 intro pins s σ H D I h;show wpAny_If (IF (j pins s σ H _ I h) λd s1 n=>?_);have(f,g,i):=n;cases d with
 |true=>show l pins s1 σ f D g i
 |false=>show m pins s1 σ f D g i
end
@[reducible]noncomputable def TG:=V->St->Hp->(St->Hp->Prop)->Prop
@[reducible]noncomputable def OB:=List V->St->Hp->(St->Hp->Prop)->Prop
abbrev PG(X:Cx)(a:vr)(t:TG):Prop :=
 ∀(pins:List (k9×Obj)) (s:i4) (σ:St) (H:Hp) (v:V) (u:fx) (Q:St->Hp->Prop),Inv X pins σ H s->RelV v u->t v σ H Q ->
  js (mn X.prog X.w) X.A (WZ a X.env u) (λ_ s'=>∃b H',Inv X pins b H' s'/\Q b H') X.xe s
abbrev O8(X:Cx)(ts:List vr)(t:OB):Prop :=
 ∀(pins:List (k9×Obj)) (s:i4) (σ:St) (H:Hp) (vs:List V) (us:List fx) (Q:St->Hp->Prop),Inv X pins σ H s->Vals vs us->t vs σ H Q ->
  js (mn X.prog X.w) X.A (assignInOrder ((Tc ts X.env).map (·.2)) us) (λ_ s'=>∃a H',Inv X pins a H' s'/\Q a H') X.xe s
@[reducible]noncomputable def FU:=V->V->V->Hp->(Hp->Prop)->Prop
abbrev mW(X:Cx)(t:FU):Prop :=
 ∀(pins:List (k9×Obj)) (s:i4) (σ:St) (H:Hp) (o i v:V) (a b u:fx) (Q:Hp->Prop),Inv X pins σ H s->RelV o a->RelV i b->RelV v u->t o i v H Q ->
  js (mn X.prog X.w) X.A (ó a b u) (λ_ s'=>∃H',Inv X pins σ H' s'/\Q H') X.xe s
section
abbrev uc(i:Nat):TG:=λv σ H Q=>Q (σ.set i (a8 v)) H
def ud(a:X.N.Nodup)(b:X.N[i]?=a8 x)(c:Loc X.env.scope x)(d:X.fn x=c4\/X.env.scope.names.lookup x=a8 .local:=by first|show .inl rfl|show .inr rfl|assumption):PG X (.Name x pos) (uc i):=by
 intro pins s σ H v u Q I r h;show ļ (fH I a b c r (λs' e=>#[_,H,e,h]) d)
abbrev FV:OB:=λvs σ H Q=>vs=[]/\Q σ H
abbrev CO(t:TG)(u:OB):OB:=λvs σ H Q=>∃v r,vs=v::r/\t v σ H λa H'=>u r a H' Q
def AK:O8 X [] FV:=by
 intro pins s σ H vs us Q I r h;have(e,h):=h;subst e;cases r;show assignInOrder_nil #[σ,H,I,h]
def xJ(a:PG X e t)(b:O8 X es u)
  (hs:(Tc (e::es) X.env).map (·.2)=WZ e X.env::(Tc es X.env).map (·.2):=by rfl):O8 X (e::es) (CO t u):=by
 intro pins s σ H vs us Q I r h;have(v,l,c,h):=h;subst c;cases r with
 |cons r d =>
  rw[hs];show assignInOrder_cons (IF (a pins s σ H _ _ _ I r h) λ_ s1 f=>?_);have(g,i,j,k):=f;show b pins s1 g i _ _ Q j d k
abbrev HS(K:PySem.W.Frag)(n:Nat)(t:OB):TG:=λv σ H Q=>∃a xs,v=.ref a/\Jj K H a xs/\xs.length=n/\t xs σ H Q
def DI(f:X.calm=c4)(h:O8 X es t)
  (g:(Tc es X.env).length=n:=by rfl) (i:(Tc es X.env).findIdx? (·.1)=cb:=by rfl):PG X (.Tuple es k pos) (HS X.K n t):=by
 intro pins s σ H v u Q I r c;have(a,xs,j,l,hl,c):=c;subst j;cases r;have(w,d,m,hz):=I.tuple l;show assign_Tuple_tuple (I.ok.hd f) m (by simp[g,<-hl,d.length]) i λh' p=>?_;have q:Inv X pins σ H {s with heap:=h' }:=I.kept (t':=s.toks) λb o e=>p b o (sg (nc e)) e;show h pins _ σ H xs _ Q q (by simpa using d) c
abbrev HU(a b:TE)(t:FU):TG:=λv σ H Q=>a σ H λo c=>b σ c λi d=>t o i v d λe=>Q σ e
def DJ(ho:PE X o c)(d:PE X i e)(hs:mW X t)
  (f:∀v,WZ (.Subscript o i pos) X.env v=(do
   let a <-TX [v] (MM o X.env)
   let b <-TX [v,a] (MM i X.env)
   ñ pos
   TX [v,a,b] (ó a b v)
   release [v,a,b] []):=by intro _;rfl):PG X (.Subscript o i pos) (HU c e t):=by
 intro pins s σ H v u Q I r h;rw[f];show cc (Ka (IF (ho pins s σ H _ I h) λa s1 g=>?_));have(x,j,k,l,m):=g;show cc (Ka (IF (d pins s1 σ j _ k m) λb s2 n=>?_));have(y,p,q,w,z):=n;show cc (Ò (cc (Ka (IF (hs pins s2 σ p x y v a b u _ q l w r z) λ_ s3 A=>?_))));have(B,C,D):=A;show wpAny_release #[σ,B,C,D]
abbrev DK(te:TE)(g:TG):TS:=λD σ H=>te σ H λx a=>g x σ a D.nx
def xK(b:PE X e te)(c:PG X a g)(hs:WI [a] e pos.line X.env=pure dV:=by rfl)(d:Õ [a] e X.env=pure cb:=by rfl)
  (f:(Tc [a] X.env).map (·.2)=[WZ a X.env]:=by rfl):PS X (.Assign [a] e pos) (DK te g):=by
 intro pins s σ H D I h;show wpAny_Assign_stores (IF (b pins s σ H _ I h) λv s1 ⟨x,i,j,k,l⟩=>?_) hs d;rw[f];show IF (c pins s1 σ i x v _ j k l) λ_ s2 q=>q
def rL(a:X.N.Nodup)(b:X.N[i]?=a8 x)(c:Loc X.env.scope x)(d:PE X e te)(hs:VH e (a8 (.Name x pos')) pos.line X.env=pure dV:=by rfl)(f:X.fn x=c4\/X.env.scope.names.lookup x=a8 .local:=by first|show .inl rfl|show .inr rfl|assumption):
  PS X (.Assign [.Name x pos'] e pos) (DK te (uc i)):=by
 intro pins s σ H D I h;show ľ (IF (d pins s σ H _ I h) λv s1 ⟨y,g,j,k,l⟩=>?_) hs;show fH j a b c k (λs2 m=>#[_,g,m,l]) f
end
section
abbrev DL(c:TT)(f:TS):TS:=λD σ H=>∃W:Nat->St->Hp->Prop,(∃m,W m σ H)/\∀m σ H,W m σ H ->
 c σ H λb a=>if b=c4 then ∃N:St->Hp->Prop,(∀d H',N d H'->∃e,e<m/\W e d H')/\f {D with nx:=N,ct:=N,bk:=D.nx} σ a else D.nx σ a
def xM(q:ZG (mn X.prog X.w) X.A X.env X.xe)(y:PT X c z)(B:JJ X body C):PS X (.While c body [] pos) (DL z C):=by
 intro pins s σ H D I h;have(W,(m0,G),a):=h;show wpAny_While (codeAny_whileLoop (λn s'=>∃r H',Inv X pins r H' s'/\W n r H') ?_ m0 ⟨σ,H,I,G⟩);rintro n s1 ⟨g,t,J,L⟩;show RF q (IF (y pins s1 g t _ J (a n g t L)) λb s2 O=>?_);have(u,v,i):=O;cases b with
 |true =>
  have(N,x,i):=i;rw[ŵ rfl];show RF q (IF (B pins s2 g u _ v i) λf s3 j=>?_);cases f with
  |next =>
   have(d,e,k,l):=j;have(m,o,p):=x d e l;show#[m,o,d,e,k,p]
  |cont =>
   have(d,e,k,l):=j;have(m,o,p):=x d e l;show#[m,o,d,e,k,p]
  |_=>show j
 |false =>
  rw[Ÿ my];show RG #[g,u,v,i]
end
structure It where
 go:Nat->Hp->Prop
 QD:Nat->Hp->V->Hp->Prop
 stop:Nat->Hp->Prop
abbrev jA(X:Cx)(pins:List (k9×Obj))(H:Hp)(b:k9):Prop :=
 H b=cb/\b≠X.env.locals/\b∉X.fs/\(b∈X.ex\/X.s₀.heap.objs.size<=b)/\(∀x c,X.env.cells.lookup x=a8 c->c≠b)/\∀p∈X.pn++pins,p.1≠b
def Inv.AL(I:Inv X pins σ H s)(a:s.heap.objs.size<=b)(d:H' b=cb):jA X pins H' b:=by
 show#[d,Pe (qw I.lt a),I.Dy a,.inr (DD I.sz a),λx c e z=>?_,λp f z=>?_]
 .have(v,q):=I.cell x c e;show absurd (qw q.lt (by rw[z];show a)) (Mr _)
 .show absurd (qw (nc (I.pin p f).1) (by rw[z];show a)) (Mr _)
structure Turn(P:z8)(w:JM)(K:PySem.W.Frag)(tg:vr)(J:It)(fp:List k9)(it:k9)(tn:Nat->Nq->Prop):Prop where
 mem:it∈fp
 obj:∀i h,tn i h->∀b∈fp,∃o,h.get? b=a8 o/\∀v,o.data≠.cell v
 keep:∀i h h',tn i h->(∀b∈fp,∀o,h.get? b=a8 o->h'.get? b=a8 o)->tn i h'
 item:∀(X:Cx),X.prog=P->X.w=w->X.K=K->X.calm=c4->∀(i:Nat) (pins:List (k9×Obj)) (s:i4) (σ:St) (H:Hp) (E:fx->i4->Prop),Inv X pins σ H s->(∀b∈fp,jA X pins H b)->tn i s.heap->J.go i H ->
  js (mn P w) X.A (VA (.ref it)) (λr s1=>∃u,r=a8 u /\
   js (mn P w) X.A (Yj tg (.ref it) u) (λ_ s2=>∃x H',Inv X pins σ H' s2/\RelV x u/\J.QD i H x H'/\tn (i+1) s2.heap/\∀b∈fp,H' b=cb) E s1) E s
 done:∀(X:Cx),X.prog=P->X.w=w->X.K=K->X.calm=c4->∀(i:Nat) (pins:List (k9×Obj)) (s:i4) (σ:St) (H:Hp) (E:fx->i4->Prop),Inv X pins σ H s->(∀b∈fp,jA X pins H b)->tn i s.heap->J.stop i H ->
  js (mn P w) X.A (VA (.ref it)) (λr s1=>r=cb/\Inv X pins σ H s1) E s
 self:∀(A:Od) (i:Nat) (s:i4) (Q:fx->i4->Prop) (E:fx->i4->Prop),tn i s.heap->Q (.ref it) s->js (mn P w) A (YH (.ref it)) Q E s
@[reducible]noncomputable def TI:=St->Hp->(It->Hp->Prop)->Prop
abbrev Ul(X:Cx)(pins:List (k9×Obj))(σ:St)(d:vr)(R:It->Hp->Prop)(e:fx)(s2:i4):Prop :=
 ∃(it:k9) (a:List k9) (c:Nat->Nq->Prop) (J:It) (H':Hp),e=.ref it/\Inv X pins σ H' s2/\Turn X.prog X.w X.K d J a it c/\c 0 s2.heap/\(∀b∈a,jA X pins H' b)/\R J H'
abbrev PI(X:Cx)(b a:vr)(c:TI):Prop :=
 ∀(pins:List (k9×Obj)) (s:i4) (σ:St) (H:Hp) (R:It->Hp->Prop),Inv X pins σ H s->c σ H R ->
  js (mn X.prog X.w) X.A (MM a X.env) (λv s1=>js (mn X.prog X.w) X.A (YH v) (Ul X pins σ b R) X.xe s1) X.xe s
def ue(ho:s.heap.get? it=a8 o)(b:o.cls=.type n)(c:o.data=.fields vs)
    (d:["enumerate","zip","dict_itemiterator","dict_reverseitemiterator","odict_iterator","itertools.zip_longest","itertools.pairwise"].contains n=dV) (a:Q () s):js M A (Yj e (.ref it) u) Q E s:=by
  unfold Yj;cases e<;>first
    | show d6 a
    | (cases u<;>first
        | show d6 a
        | (show cc (Į ho ?_)
           rw[b,c];change js M A (if (["enumerate","zip","dict_itemiterator","dict_reverseitemiterator","odict_iterator","itertools.zip_longest","itertools.pairwise"].contains n&&vs[0]?==a8 (KX _))=c4 then _ else _) Q E s;rw[Ÿ (by intro h;rw[d,ī]at h;cases h)];show d6 a))
abbrev Rq(K:PySem.W.Frag)(a:k9):It :=
 #[λi H=>∃xs x,Jo K H a xs/\xs[i]?=a8 x,λi H x H'=>H'=H/\∀xs,Jo K H a xs->xs[i]?=a8 x,λi H=>∃xs,Jo K H a xs/\xs.length<=i]
abbrev Rr(K:PySem.W.Frag)(a:k9):It :=
 #[λi H=>∃xs x,Jj K H a xs/\xs[i]?=a8 x,λi H x H'=>H'=H/\∀xs,Jj K H a xs->xs[i]?=a8 x,λi H=>∃xs,Jj K H a xs/\xs.length<=i]
abbrev O_(lo:Int)(n:Nat):It:=#[λi _=>i<n,λi H x H'=>H'=H/\x=.int (lo+i),λi _=>n<=i]
def vP{K:PySem.W.Frag}(a it:k9):Turn P w K tg (Rq K a) [it] it (λi h=>h.IsListIter it a i) where
 mem:=by simp
 obj:=λi h st b f=>by
  have e:b=it:=by simpa using f
  subst e;have(o,e,c,d):=st;show#[o,e,λv z=>by rw[d]at z;cases z]
 keep:=λi h h' st k=>st.at λo e=>k it (by simp) o e
 item:=by
  intro X l m n G i pins s σ H E I g st q;subst l m n;have(xs,x,j,r):=q;have(J,t,p,hz):=I.list j;have(u,L,N):=t.get r;have(y,A,O,B,C,D):=g it (by simp);show wpAny_pyNext_list_item st p.isList (x:=u) (by simpa using L) λh' st' Q=>?_;have T:Inv X pins σ H {s with heap:=h' }:=I.turned (t':=s.toks) (λb o f e=>(Q.2 b f).trans e) y A B C D;have(o,e,c,d):=id st';show#[u,rfl,ue (s:={s with heap:=h' }) e c d (by decide) ⟨x,H,T,N,⟨rfl,λys Y=>by rw[I.xG Y j];show r⟩,st',λb f=>(g b f).1⟩]
 done:=by
  intro X l m n G i pins s σ H E I g st q;subst l m n;have(xs,j,r):=q;have(J,t,p,hz):=I.list j;have(y,A,O,B,C,D):=g it (by simp);have hl:=t.length;show wpAny_pyNext_list_end (I.ok.hd G) st p.isList (by simp;lia) λh' eb=>#[rfl,I.turned (t':=s.toks) (λb o f e=>eb b o f e) y A B C D]
 self:=λ_ _ _ _ _ st h=>wpAny_pyIter_listiter st h
def rM{K:PySem.W.Frag}(a it:k9):Turn P w K tg (Rr K a) [it] it (λi h=>h.IsTupleIter it a i) where
 mem:=by simp
 obj:=λi h st b f=>by
  have e:b=it:=by simpa using f
  subst e;have(o,e,c,d):=st;show#[o,e,λv z=>by rw[d]at z;cases z]
 keep:=λi h h' st k=>st.at λo e=>k it (by simp) o e
 item:=by
  intro X l m n J i pins s σ H E I g st q;subst l m n;have(xs,x,j,r):=q;have(t,y,p,hz):=I.tuple j;have(u,L,N):=y.get r;have(A,B,O,C,D,G):=g it (by simp);show wpAny_pyNext_tuple_item st (show s.heap.IsTuple a t.toArray from p) (x:=u) (by simpa using L) λh' st' Q=>?_;have T:Inv X pins σ H {s with heap:=h' }:=I.turned (t':=s.toks) (λb o f e=>(Q.2 b f).trans e) A B C D G;have(o,e,c,d):=id st';show#[u,rfl,ue (s:={s with heap:=h' }) e c d (by decide) ⟨x,H,T,N,⟨rfl,λys Y=>by rw[I.vO Y j];show r⟩,st',λb f=>(g b f).1⟩]
 done:=by
  intro X l m n J i pins s σ H E I g st q;subst l m n;have(xs,j,r):=q;have(t,y,p,hz):=I.tuple j;have(A,B,O,C,D,G):=g it (by simp);have hl:=y.length;show wpAny_pyNext_tuple_end (I.ok.hd J) st (show s.heap.IsTuple a t.toArray from p) (by simp;lia) λh' eb=>#[rfl,I.turned (t':=s.toks) (λb o f e=>eb b o f e) A B C D G]
 self:=λ_ _ _ _ _ st h=>wpAny_pyIter_tupleiter st h
def rN{K:PySem.W.Frag}(it:k9)(lo:Int)(n:Nat):Turn P w K J (O_ lo n) [it] it (λi h=>IsRangeIter h it (lo+(i:Nat) * 1) ((n:Int) - (i:Nat)) 1) where
 mem:=by simp
 obj:=λi h st b a=>by
  have e:b=it:=by simpa using a
  subst e;show#[_,st,λv z=>by
   have y:Data.fields _=Ų v:=z;cases y]
 keep:=λi h h' st k=>k it (by simp) _ st
 item:=by
  intro X d f g j i pins s σ H E I c st l;subst d f g;have(m,p,A,q,r,u):=c it (by simp);have W:=Walks.range (prog:=X.prog) (w:=X.w) (I.ok.hd j) it lo 1 n;show W.item i s _ _ l st λv h' x B st' C=>?_;have(t,rfl):=B;have D:Inv X pins σ H {s with heap:=h',toks:=x}:=I.turned (λb o a e=>C b o (by simpa using a) e) m p q r u;show#[_,rfl,ue (s:={s with heap:=h',toks:=x}) (n:="range_iterator") st' rfl rfl (by decide) ⟨.int (lo+i),H,D,⟨t,?_⟩,⟨rfl,rfl⟩,st',λb a=>(c b a).1⟩];rw[Int.mul_one]
 done:=by
  intro X d f g j i pins s σ H E I c st l;subst d f g;have(m,p,A,q,r,u):=c it (by simp);show wpAny_pyNext_range_end (I.ok.hd j) st (by have:n<=i:=l;lia) λh' G=>#[rfl,I.turned (t':=s.toks) (λb o a e=>G b o a e) m p q r u]
 self:=λ_ _ _ _ _ st h=>wpAny_pyIter_rangeiter st h
section
abbrev FW(K:PySem.W.Frag)(tl:TE):TI:=λσ H R=>tl σ H λx b=>∃a,x=.ref a/\(∃xs,Jo K b a xs)/\R (Rq K a) b
abbrev HV(K:PySem.W.Frag)(tl:TE):TI:=λσ H R=>tl σ H λx b=>∃a,x=.ref a/\(∃xs,Jj K b a xs)/\R (Rr K a) b
def AM(hl:PE X l tl):PI X m l (FW X.K tl):=by
 intro pins s σ H R I h;show IF (hl pins s σ H _ I h) λv s1 d=>?_;have(x,f,c,g,i):=d;have(a,e,(xs,j),q):=i;subst e;cases g;have(n,r,p,hz):=c.list j;show Wj p.isList ?_;show#[s1.heap.objs.size,[s1.heap.objs.size],_,_,f,rfl,c.kept (t':=s1.toks) λb o e=>ek _ e,vP a _,#[_,l' _ rfl,rfl,rfl],λb k=>?_,q];have e:b=s1.heap.objs.size:=by simpa using k
 subst e;show c.AL (ke _) (c.IE.fresh (ke _))
def DM(hl:PE X l tl):PI X n l (HV X.K tl):=by
 intro pins s σ H R I h;show IF (hl pins s σ H _ I h) λv s1 d=>?_;have(x,f,c,g,i):=d;have(a,e,(xs,j),q):=i;subst e;cases g;have(k,r,p,hz):=c.tuple j;show ĭ (show s1.heap.IsTuple a k.toArray from p) ?_;show#[s1.heap.objs.size,[s1.heap.objs.size],_,_,f,rfl,c.kept (t':=s1.toks) λb o e=>ek _ e,rM a _,#[_,l' _ rfl,rfl,rfl],λb m=>?_,q];have e:b=s1.heap.objs.size:=by simpa using m
 subst e;show c.AL (ke _) (c.IE.fresh (ke _))
def qj{lo a:Int}(I:Inv X pins σ H s)(f:-(2 ^ 62)<=lo)(g:lo<2 ^ 62)(h:-(2 ^ 62)<=a)(i:a<2 ^ 62)
  (q:R (O_ lo (a - lo).toNat) H):js (mn X.prog X.w) X.A (YH (.ref s.heap.objs.size)) (Ul X pins σ m R) E {s with heap:=s.heap.push {cls:=.type "range",data:=.fields #v[.int lo t,.int a u,.int 1 v]},toks:=d}:=by
 show wpAny_pyIter_range (IsRange.new ..) (small_one f g h i) ?_;have c:Inv X pins σ H {s with heap:=s.heap.push {cls:=.type "range",data:=.fields #v[.int lo t,.int a u,.int 1 v]},toks:=d}:=I.kept λb o e=>ek _ e;show#[(s.heap.push {cls:=.type "range",data:=.fields #v[.int lo t,.int a u,.int 1 v]}).objs.size,[(s.heap.push {cls:=.type "range",data:=.fields #v[.int lo t,.int a u,.int 1 v]}).objs.size],_,_,H,rfl,
  c.kept (t':=d) λb o e=>ek _ e,rN _ lo (a - lo).toNat,?_,λb j=>?_,q]
 .have k:lo+((0:Nat):Int) * 1=lo:=by simp
  have l:(((a - lo).toNat:Nat):Int) - ((0:Nat):Int)=ő lo a 1:=by rw[rangeSize_one];split<;>lia
  change IsRangeIter _ _ (lo+((0:Nat):Int) * 1) ((((a - lo).toNat:Nat):Int) - ((0:Nat):Int)) 1;rw[k,l];show l' _ rfl
 .have e:b=(s.heap.push {cls:=.type "range",data:=.fields #v[.int lo t,.int a u,.int 1 v]}).objs.size:=by simpa using j
  subst e;show c.AL (ke _) (c.IE.fresh (ke _))
abbrev FX(a:TA):TI:=λσ H R=>a σ H λvs b=>∃j:Int,vs=[.int j]/\-(2 ^ 62)<=j/\j<2 ^ 62/\R (O_ 0 j.toNat) b
abbrev FY(a:TA):TI:=λσ H R=>a σ H λvs b=>∃i j:Int,vs=[.int i,.int j]/\(-(2 ^ 62)<=i/\i<2 ^ 62/\-(2 ^ 62)<=j/\j<2 ^ 62)/\R (O_ i (j - i).toNat) b
def vQ(c:Gl X "range")(d:X.mg "range"=cb)(f:PA X [a] g)(hs:pa [a] X.env=[(dV,MM a X.env)]:=by rfl):PI X n (.Call (.Name "range" p) [a] [] pos) (FX g):=by
 intro pins s σ H R I h;show Call_ (dH I c d boot_range (Ow (IF (f pos pins s σ H _ I h) λus s1 ⟨vs,o,i,k,b⟩=>?_) hs rfl));have(j,e,b,l,q):=b;subst e;cases k with
 |cons r m =>
  cases m;have(t,rfl):=r;show call_range_1 (qj i ⋯ ⋯ b l (by simpa using q))
def vR(g:Gl X "range")(k:X.mg "range"=cb)(l:PA X [a,b] m)(hs:pa [a,b] X.env=[(dV,MM a X.env),(dV,MM b X.env)]:=by rfl)(f:pa [b] X.env=[(dV,MM b X.env)]:=by rfl):
  PI X y (.Call (.Name "range" p) [a,b] [] pos) (FY m):=by
 intro pins s σ H R I h;show Call_ (dH I g k boot_range (Ow (IF (l pos pins s σ H _ I h) λus s1 ⟨vs,z,n,o,c⟩=>?_) (by rw[hs,f]) (by rw[f];rfl)));have(i,j,e,(c,u,v,w),q):=c;subst e;cases o with
 |cons r d =>
  cases d with
  |cons x d =>
   cases d;have(t,rfl):=r;have(t',rfl):=x;show call_range_2 (qj n c u v w q)
abbrev HW(c:TI)(g:TG)(d:TS):TS:=λD σ H=>c σ H λJ e=>∃W:Nat->Nat->St->Hp->Prop,(∃m,W 0 m σ e)/\∀i m σ H,W i m σ H ->
 (J.stop i H/\D.nx σ H)\/(J.go i H/\∃N:St->Hp->Prop,(∀a H',N a H'->∃b,b<m/\W (i+1) b a H')/\∀x H',J.QD i H x H'->g x σ H' λf h=>d {D with nx:=N,ct:=N,bk:=D.nx} f h)
abbrev kS(a:List k9)(h:Nq):List (k9×Obj):=a.filterMap λb=>(h.get? b).map λo=>(b,o)
def eX(a:b∈c)(e:h.get? b=a8 o):(b,o)∈kS c h:=NY.mpr #[b,a,by rw[e];rfl]
def vS(a:p∈kS c h):p.1∈c/\h.get? p.1=a8 p.2:=by
 have(b,d,e):=NY.mp a;cases q:h.get? b with
 |none=>rw[q]at e;cases e
 |some o =>
  rw[q]at e;have f:(b,o)=p:=Jc e;subst f;show#[d,q]
def Inv.pinned(I:Inv X pins σ H s)(g:∀b∈a,jA X pins H b)(ho:∀b∈a,∃o,s.heap.get? b=a8 o/\∀v,o.data≠.cell v):Inv X (pins++kS a s.heap) σ H s :=
 I.gu λp h=>(mN.mp h).elim (λz=>I.pin p (vz _ z)) λz=>by
  have(c,e):=vS z;have(i,j,k,_):=g p.1 c;have(o,f,d):=ho p.1 c;rw[e]at f;cases f;show#[e,i,j,k,d]
def Inv.kW(I:Inv X (pins++b) σ H s):Inv X pins σ H s:=I.gu λp a=>I.pin p (vz _ (Ox _ a))
def DN(q:ZG (mn X.prog X.w) X.A X.env X.xe)(hc:X.calm=c4)(hi:PI X tg l wi)(hg:PG X tg g)(a:JJ X body tb)
  (hs:∀x,NC l X.env x=pure x:=by intro _;rfl):PS X (.For tg l body [] pos) (HW wi g tb):=by
 intro pins s σ H D I h;show wpAny_For (IF (hi pins s σ H _ I h) λv s1 h1=>IF h1 λO9 s2 h2=>?_) hs;have(it,t,tn,J,H2,e,I2,T,st2,f2,W,(m0,w0),y):=h2;subst e;have L:∀{H':Hp},(∀b∈t,H' b=cb)->∀b∈t,jA X pins H' b:=λhn b a=>#[hn b a,(f2 b a).2]
 show codeAny_forLoop_any (λn s'=>∃i z H',Inv X pins z H' s'/\tn i s'.heap/\(∀b∈t,H' b=cb)/\W i n z H') ?_ m0 ⟨0,σ,H2,I2,st2,λb a=>(f2 b a).1,w0⟩;rintro n s3 ⟨i,B,G,I3,st3,O',w3⟩;rcases y i n B G w3 with⟨C,qn⟩|⟨go,N,hN,Ö⟩
 .show RF q (IF (T.done X rfl rfl rfl hc i pins s3 B G X.xe I3 (L O') st3 C) λr s4 Rv=>?_);have(O,I4):=Rv;subst O;show RG #[B,G,I4,qn]
 .show RF q (IF (T.item X rfl rfl rfl hc i pins s3 B G X.xe I3 (L O') st3 go) λr s4 Rx=>?_);have(u,O,h4):=Rx;subst O;show RF q (IF h4 λ_ s5 Ry=>?_);have(x,H5,I5,r5,y5,Q,Rz):=Ry;have RA:=I5.pinned (L Rz) (T.obj _ _ Q);show RF q (IF (hg _ s5 B H5 x u _ RA r5 (Ö x H5 y5)) λ_ s6 RB=>?_);have(σ6,H6,I6,q6):=RB;show RF q (IF (a _ s6 σ6 H6 _ I6 q6) λf Y p=>?_);have Ŭ:∀{c:St} {j:Hp},Inv X (pins++kS t s5.heap) c j Y->N c j->∃m,m<n/\∃i z H',Inv X pins z H' Y/\tn i Y.heap/\(∀b∈t,H' b=cb)/\W i m z H':=λ{c j} k n7=>by
   have(m',hm,w7):=hN c j n7;show#[m',hm,i+1,c,j,k.kW,T.keep _ _ _ Q λb a o e=>(k.pin (b,o) (vz _ (vz _ (eX a e)))).1,λb a=>?_,w7];have(o,e,d):=T.obj _ _ Q b a;show(k.pin (b,o) (vz _ (vz _ (eX a e)))).2.1
  cases f with
  |brk=>have(c,j,k,p):=p;show#[c,j,k.kW,p]
  |ret v=>have(x7,c,j,k,r7,p):=p;show#[x7,c,j,k.kW,r7,p]
  |_=>have(c,j,k,n7):=p;show Ŭ k n7
end
@[reducible]noncomputable def R2:=V->V->Hp->VK->Prop
abbrev JK(X:Cx)(f:fx->fx->Sem fx)(r:R2):Prop :=
 ∀(pins:List (k9×Obj)) (s:i4) (σ:St) (H:Hp) (x y:V) (v u:fx) (Q:VK),Inv X pins σ H s->RelV x v->RelV y u->r x y H Q ->
  js (mn X.prog X.w) X.A (f v u) (EP X pins σ Q) X.xe s
abbrev RC(X:Cx)(f:fx->Sem fx)(r:V->Hp->VK->Prop):Prop :=
 ∀(pins:List (k9×Obj)) (s:i4) (σ:St) (H:Hp) (x:V) (v:fx) (Q:VK),Inv X pins σ H s->RelV x v->r x H Q ->
  js (mn X.prog X.w) X.A (f v) (EP X pins σ Q) X.xe s
abbrev fB(X:Cx)(f:fx)(r:List V->Hp->VK->Prop):Prop :=
 ∀(pins:List (k9×Obj)) (s:i4) (σ:St) (H:Hp) (xs:List V) (us:List fx) (Q:VK),Inv X pins σ H s->Vals xs us->r xs H Q ->
  js (mn X.prog X.w) X.A (R3 f us) (EP X pins σ Q) X.xe s
abbrev HX(X:Cx)(r:V->Hp->(Bool->Hp->Prop)->Prop):Prop :=
 ∀(pins:List (k9×Obj)) (s:i4) (σ:St) (H:Hp) (x:V) (v:fx) (Q:Bool->Hp->Prop),Inv X pins σ H s->RelV x v->r x H Q ->
  js (mn X.prog X.w) X.A (š v) (TP X pins σ Q) X.xe s
abbrev VJ(r:V->Hp->VK->Prop)(a:TE):TE:=λσ H Q=>a σ H λx b=>r x b Q
abbrev rI(C:Int->Int->Prop)(g:Int->Int->V):R2:=λx y H Q=>∃i j,x=.int i/\y=.int j/\C i j/\Q (g i j) H
abbrev M3(g:Int->Int->V):R2:=λx y H Q=>∃i j,x=.int i/\y=.int j/\Q (g i j) H
abbrev rU(g:Int->V):V->Hp->VK->Prop:=λx H Q=>∃i,x=.int i/\Q (g i) H
section
def xN(ho:RC X (unaryOp op) r)(b:PE X a c):PE X (.UnaryOp op a pos) (VJ r c):=by
 intro pins s σ H Q I h;show UnaryOp_ (IF (b pins s σ H _ I h) λv s1 ⟨x,d,e,f,g⟩=>ho pins s1 σ d x v Q e f g)
def QE{g:Int->Int->Int}
  (ĳ:∀(i j:Int) (t u:Tok) (s:i4) (Q:fx->i4->Prop) (E:fx->i4->Prop),C i j->Q (.int (g i j) s.toks) {s with toks:=s.toks+1}->js (mn X.prog X.w) X.A (f (.int i t) (.int j u)) Q E s) :
  JK X f (rI C λi j=>.int (g i j)):=by
 intro pins s σ H x y v u Q I a b h;have(i,j,rfl,rfl,c,q):=h;have(t,rfl):=a;have(t',rfl):=b;show ĳ i j t t' s _ _ c #[.int (g i j),H,I.tok _,#[_,rfl],q]
def FZ{g:Int->Int->Int}
  (ĳ:∀(i j:Int) (t u:Tok) (s:i4) (Q:fx->i4->Prop) (E:fx->i4->Prop),Q (.int (g i j) s.toks) {s with toks:=s.toks+1}->js (mn X.prog X.w) X.A (f (.int i t) (.int j u)) Q E s) :
  JK X f (M3 λi j=>.int (g i j)):=by
 intro pins s σ H x y v u Q I a b h;have(i,j,rfl,rfl,q):=h;have(t,rfl):=a;have(t',rfl):=b;show ĳ i j t t' s _ _ #[.int (g i j),H,I.tok _,#[_,rfl],q]
def AN{g:Int->Int->Bool}
  (ĳ:∀(i j:Int) (t u:Tok) (s:i4) (Q:fx->i4->Prop) (E:fx->i4->Prop),Q (.bool (g i j)) s->js (mn X.prog X.w) X.A (f (.int i t) (.int j u)) Q E s) :
  JK X f (M3 λi j=>.bl (g i j)):=by
 intro pins s σ H x y v u Q I a b h;have(i,j,rfl,rfl,q):=h;have(t,rfl):=a;have(t',rfl):=b;show ĳ i j t t' s _ _ #[.bl (g i j),H,I,rfl,q]
abbrev HY(i j:Int):Prop:=0<j/\j<1073741824
abbrev HZ(i j:Int):Prop:=0<=j/\j<=1000000/\i.natAbs<2 ^ 64
abbrev DO(i j:Int):Prop:=(-(2 ^ 64)<i/\i<2 ^ 64)\/(-(2 ^ 64)<j/\j<2 ^ 64)
def DO.ok(h:DO i j):IntMulOk i j:=by
 rcases h with⟨a,b⟩|⟨a,b⟩
 .show .of_left (intBits_le_64 a b)
 .show .of_right (intBits_le_64 a b)
def cR:JK X (Sr .Add) (M3 λi j=>.int (i+j)):=FZ λ_ _ _ _ _ _ _ q=>add_int q
def jB:JK X (Sr .Sub) (M3 λi j=>.int (i - j)):=FZ λ_ _ _ _ _ _ _ q=>sub_int q
def kX:JK X (Sr .Mult) (rI DO λi j=>.int (i * j)):=QE λ_ _ _ _ _ _ _ a q=>mul_int q a.ok
def AO:JK X (Sr .FloorDiv) (rI HY λi j=>.int (i / j)):=QE λi j _ _ _ _ _ a q=>by
 have b:(0:Int)<j:=a.1;have c:j<1073741824:=a.2;show floordiv_int ⋯ (by rw[Int.fdiv_eq_ediv_of_nonneg i ⋯];show q) (.inl (PyProof.noPylong_small ⋯))
def bu:JK X (Sr .Mod) (rI (λ_ j=>0<j) λi j=>.int (i % j)):=QE λi j _ _ _ _ _ a q=>by
 have b:(0:Int)<j:=a;show mod_int' ⋯ (by rw[Int.fmod_eq_emod_of_nonneg i ⋯];show q)
def ox:JK X (Sr .Pow) (rI HZ λi j=>.int (i ^ j.toNat)):=QE λ_ _ _ _ _ _ _ a q=>pow_int_small a.1 a.2.1 a.2.2 q
def Pa{g:Int->Int}
  (ĳ:∀(i:Int) (t:Tok) (s:i4) (Q:fx->i4->Prop) (E:fx->i4->Prop),Q (.int (g i) s.toks) {s with toks:=s.toks+1}->js (mn X.prog X.w) X.A (f (.int i t)) Q E s) :
  RC X f (rU λi=>.int (g i)):=by
 intro pins s σ H x v Q I a h;have(i,rfl,q):=h;have(t,rfl):=a;show ĳ i t s _ _ #[.int (g i),H,I.tok _,#[_,rfl],q]
def rO:RC X (unaryOp .USub) (rU λi=>.int (-i)):=Pa λ_ _ _ _ _ q=>neg_int q
end
section
def jC(I:Inv X pins σ H s)(q:Q (.bl k) H)(e:k=k'):EP X pins σ Q (.bool k') s:=by
 subst e;show#[.bl k,H,I,rfl,q]
def F0:JK X (MF .Lt) (M3 λi j=>.bl (ei (i<j))):=AN λ_ _ _ _ _ _ _ q=>lt_int q
def F6:JK X (MF .LtE) (M3 λi j=>.bl (ei (i<=j))):=AN λ_ _ _ _ _ _ _ q=>le_int q
def F7:JK X (MF .Gt) (M3 λi j=>.bl (ei (j<i))):=AN λ_ _ _ _ _ _ _ q=>gt_int q
def F8:JK X (MF .GtE) (M3 λi j=>.bl (ei (j<=i))):=AN λ_ _ _ _ _ _ _ q=>ge_int q
def vT:JK X (MF .Lt) (λx y H Q=>∃i j,x=.str i/\y=.str j/\Q (.bl (ei (i.cps.toList<j.cps.toList))) H):=by
 intro pins s σ H x y v u Q I a b h;have(i,j,rfl,rfl,q):=h;have(t,rfl):=a;have(t',rfl):=b;show lt_str (jC I q rfl)
def vU:JK X (MF .In) (λx y H Q=>∃i j,x=.str i/\y=.str j/\Q (.bl (!(Jv j i 0 j.length 1).isEmpty)) H):=by
 intro pins s σ H x y v u Q I a b h;have(i,j,rfl,rfl,q):=h;have(t,rfl):=a;have(t',rfl):=b;show in_str (jC I q rfl)
def DP:JK X (MF .Is) (λx y H Q=>y=.ID/\Q (.bl (ei (x=.ID))) H):=by
 intro pins s σ H x y v u Q I a b h;have(rfl,q):=h;cases b;show is_none_gen (jC I q ?_);cases x<;>first
  |(cases a;rfl)
  |(have(t,rfl):=a;rfl)
def AQ:JK X (MF .IsNot) (λx y H Q=>y=.ID/\Q (.bl (!ei (x=.ID))) H):=by
 intro pins s σ H x y v u Q I a b h;have(rfl,q):=h;cases b;show isnot_none_gen (jC I q ?_);cases x<;>first
  |(cases a;rfl)
  |(have(t,rfl):=a;rfl)
abbrev F9(K:PySem.W.Frag)(x:V)(H:Hp)(k:Bool):Prop :=
 match x with
 |.ID=>k=dV
 |.bl b=>k=b
 |.int i=>k=(i != 0)
 |.str y=>y.length<=eh/\k=((y.length:Int) != 0)
 |.Qz y=>y.size<=eh/\k=((y.size:Int) != 0)
 |.ref p=>(∃xs,Jo K H p xs/\k=!xs.isEmpty)\/(∃xs,Jj K H p xs/\k=!xs.isEmpty)\/∃a,H p=a8 (.dK a)/\k=!a.isEmpty
 |_=>False
def rP(r:KV a vs):(!vs.isEmpty)=!a.isEmpty:=by
 cases r<;>rfl
def kY(r:Vals xs a):(!a.toArray.isEmpty)=!xs.isEmpty:=by
 cases r<;>simp
def ie:(eh:Nat)<2 ^ 63:=by rw[sizeLine_eq];decide
def DQ:HX X (λx H Q=>∃k,F9 X.K x H k/\Q k H):=by
 intro pins s σ H x v Q I d h;have(k,e,q):=h;have hl:=ie;have hs:eh=16777216:=sizeLine_eq;cases x with
 |ID =>
  cases d;have a:k=dV:=e;subst a;show truthy_none #[H,I,q]
 |bl b =>
  cases d;have a:k=b:=e;subst a;show LH #[H,I,q]
 |int i =>
  have(t,rfl):=d;have a:k=(i != 0):=e;subst a;show PySem.P.truthy_int #[H,I,q]
 |str y =>
  have(t,rfl):=d;obtain⟨l,a⟩:y.length<=eh/\k=((y.length:Int) != 0):=e;subst a;show PySem.P.truthy_str ⋯ #[H,I.tok _,q]
 |Qz y =>
  have(t,rfl):=d;obtain⟨l,a⟩:y.size<=eh/\k=((y.size:Int) != 0):=e;subst a;show PySem.W.truthy_bytes ⋯ #[H,I.tok _,q]
 |ref p =>
  cases d;have a:(∃xs,Jo X.K H p xs/\k=!xs.isEmpty)\/(∃xs,Jj X.K H p xs/\k=!xs.isEmpty)\/∃f,H p=a8 (.dK f)/\k=!f.isEmpty:=e;rcases a with⟨xs,g,a⟩|⟨xs,g,a⟩|⟨f,g,a⟩
  .subst a;have(n,r,j,hz):=I.list g;have c:=r.length;show wpAny_truthy_list j.isList (by simp only[lx];lia) #[H,I.tok _,by rw[kY r];show q]
  .subst a;have(n,r,j,hz):=I.tuple g;have c:=r.length;show truthy_tuple j (by simp only[lx];lia) #[H,I.tok _,by rw[kY r];show q]
  .subst a;obtain⟨hz,o,vs,r,m⟩:f.length<=eh/\(p==NA)=dV/\∃vs,KV f vs/\s.heap.DictOf (bV X.prog X.w) p vs:=I.IE p _ g;have c:f.length=vs.length:=Paired.length r;show wpAny_truthy_dict o m ⋯ #[H,I.tok _,by rw[rP r];show q]
 |_=>show(show False from e).elim
def xO(c:PE X a d)(e:∀b,isTrue a X.env b=(do let v <-b;ñ a.pos;TX [v] (š v))):
  PT X a (λσ H Q=>d σ H λx H'=>∃k,F9 X.K x H' k/\Q k H'):=by
 intro pins s σ H Q I h;show isTrue_plain (IF (c pins s σ H _ I h) λv s1 ⟨x,f,g,i,j⟩=>DQ pins s1 σ f x v Q g i j) (e _)
def rQ:JK X (Sr .Add) (λx y H Q=>∃i j,x=.str i/\y=.str j/\i.length+j.length<=eh/\Q (.str (i++j)) H):=by
 intro pins s σ H x y v u Q I a b h;have(i,j,rfl,rfl,hz,q):=h;have(t,rfl):=a;have(t',rfl):=b;show add_str (λt' c=>#[.str (i++j),H,I.tok _,#[_,rfl],q]) hz
def vals1(r:Vals [x] us):∃u,us=[u]/\RelV x u:=by
 cases r with
 |cons a b=>cases b;show#[_,rfl,a]
def vals2(r:Vals [x,y] us):∃u a,us=[u,a]/\RelV x u/\RelV y a:=by
 cases r with
 |cons b c =>
  cases c with
  |cons d e=>cases e;show#[_,_,rfl,b,d]
def vV(b:X.calm=c4):fB X (.builtin "max") (λxs H Q=>∃i j,xs=[.int i,.int j]/\Q (.int (if j>i then j else i)) H):=by
 intro pins s σ H xs us Q I r h;have(i,j,rfl,q):=h;have(u,c,rfl,(t,rfl),(t',rfl)):=vals2 r;show max_two_ints (I.ok.hd b) λh' d k=>#[_,H,I.kept k,?_,q]
 by_cases a:j>i
 .rw[ŵ a,ŵ a];show#[_,rfl]
 .rw[Ÿ a,Ÿ a];show#[_,rfl]
def vW(b:X.calm=c4):fB X (.builtin "min") (λxs H Q=>∃i j,xs=[.int i,.int j]/\Q (.int (if j<i then j else i)) H):=by
 intro pins s σ H xs us Q I r h;have(i,j,rfl,q):=h;have(u,c,rfl,(t,rfl),(t',rfl)):=vals2 r;show min_two_ints (I.ok.hd b) λh' d k=>#[_,H,I.kept k,?_,q]
 by_cases a:j<i
 .rw[ŵ a,ŵ a];show#[_,rfl]
 .rw[Ÿ a,Ÿ a];show#[_,rfl]
def vX:fB X (.type "int") (λxs H Q=>(∃i,xs=[.int i]/\Q (.int i) H)\/∃k,xs=[.bl k]/\Q (.int (if k then 1 else 0)) H):=by
 intro pins s σ H xs us Q I r h;rcases h with⟨i,rfl,q⟩|⟨k,rfl,q⟩
 .have(u,rfl,t,rfl):=vals1 r;show call_int_int #[.int i,H,I,#[_,rfl],q]
 .have(u,rfl,a):=vals1 r;cases a;show call_int_bool #[.int (if k then 1 else 0),H,I.tok _,#[_,rfl],q]
def oy:fB X (.type "str") (λxs H Q=>∃i,xs=[.int i]/\i.natAbs.log2<1920/\Q (.str (ş i)) H):=by
 intro pins s σ H xs us Q I r h;have(i,rfl,hz,q):=h;have(u,rfl,t,rfl):=vals1 r;show PySem.P.str_of_int hz #[.str _,H,I.tok _,#[_,rfl],q]
end
section
end
section
end
structure VL(K:PySem.W.Frag)(C:k9):Prop where
 pg:PySem.W.plainGet K C N0=c4
 hd:PySem.W.hasDictIn K C=c4
 po:PySem.W.plainOver K C=c4
 sa:PySem.W.findIn K (.ref C) "__setattr__"=a8 (a8 (.builtin "object.__setattr__"))
section
end
section
end
section
inductive kZ(K:PySem.W.Frag)(H:Hp):V->fx->Prop where
 |ID:kZ K H .ID (.type "NoneType")
 |bl (x:Bool):kZ K H (.bl x) (.type "bool")
 |int (i:Int):kZ K H (.int i) (.type "int")
 |str (x:Str):kZ K H (.str x) (.type "str")
 |QA (x:UInt64):kZ K H (.QA x) (.type "float")
 |lst {a:k9} {xs:List V} (e:H a=a8 (.lst xs)):kZ K H (.ref a) (.type "list")
 |J9 {a:k9} {o:Obj} {xs:List V} (e:H a=a8 (.J9 o (.lst xs))):kZ K H (.ref a) (.type "list")
 |tup {a:k9} {xs:List V} (e:H a=a8 (.tup xs)):kZ K H (.ref a) (.type "tuple")
 |dK {a:k9} {B':List (Key×V)} (e:H a=a8 (.dK B')):kZ K H (.ref a) (.type "dict")
 |dT {a:k9} {B':List (List Key×V)} (e:H a=a8 (.dT B')):kZ K H (.ref a) (.type "dict")
 |ins {a C dx:k9} {fs:List (Str×V)} (e:H a=a8 (.ins C dx fs)) (cl:VL K C) (ha:PySem.W.findIn K (.ref C) "__class__"=a8 (a8 (.builtin "object.__class__")))
   (hn:PySem.W.specialIn K (.builtin "object.__class__") "__get__"=a8 (a8 (.builtin "getset_descriptor.__get__"))) (VM:PySem.W.takesIn K (.builtin "object.__class__")=a8 c4)
   (hm:PySem.W.mroIn K C (.type "object")=a8 c4):kZ K H (.ref a) (.ref C)
end
structure dI(k:Nat)(A:Od):Prop where
 hd:A.handled=cb
 dp:A.depth+3 * k+5<Z7
 un:A.units+16 * k+200<K'
 gd:A.guards=a8 []
def dI.deeper(r:dI (k+1) A)(env:Env):dI k (A.deeper env) :=
 #[r.hd,by have:=r.dp;change A.depth+1+3 * k+5 < _;lia,by have:=r.un;change A.units+3+16 * k+200 < _;lia,r.gd]
def dI.depth(r:dI k A):A.depth<Z7:=by have:=r.dp;lia
abbrev F_:TA:=λ_ H Q=>Q [] H
abbrev CP(a:TE)(b:TA):TA:=λσ H Q=>a σ H λx c=>b σ c λxs d=>Q (x::xs) d
section
def fI:PA X [] F_:=λ_ _ _ _ H Q I h=>PB #[[],H,I,.nil,h]
def cE(a:PE X e te)(b:PA X es t)(hs:pa (e::es) X.env=(dV,MM e X.env)::pa es X.env:=by rfl):PA X (e::es) (CP te t):=by
 intro pos pins s σ H Q I h;rw[hs];change js _ _ (Ŀ ((dV,MM e X.env)::NZ pos (pa es X.env))) _ _ s;show NP (IF (a pins s σ H _ I h) λu s1 c=>?_);have(x,d,f,g,i):=c;show IF (b pos pins s1 σ d _ f i) λus s2 ⟨xs,j,k,l,m⟩=>#[x::xs,j,k,.cons g l,m]
abbrev H9(t:TA):TE:=λσ H Q=>t σ H λxs a=>xs.length<=eh/\∀p,a p=cb->Q (.ref p) (upd a p (.lst xs))
def DR(h:PA X es t):PE X (.List es pos) (H9 t):=by
 intro pins s σ H Q I d;show İ (IF (h pos pins s σ H _ I d) λus s1 ⟨xs,a,c,r,z,q⟩=>#[by rw[<-r.length];show z,?_]);have f:a s1.heap.objs.size=cb:=c.IE.fresh (ke _);show#[.ref s1.heap.objs.size,upd a s1.heap.objs.size (.lst xs),c.laid (t':=s1.toks) (λb u e=>ek _ e) (ke _) ?_,rfl,q _ f];show#[z,us,0,r,l' _ rfl]
end
@[reducible]noncomputable def Sp:=List V->Hp->VK->XK->Prop
@[reducible]noncomputable def MC:=List Env->Hp->i4->XK->fx->i4->Prop
structure vY(P:z8)(w:JM)(K:PySem.W.Frag)(mg:Str->Option fx)(base:Nq)(A:Od)(outer:List Env)(s:i4)(H:Hp):Prop where
 frames:A.frames=a8 outer
 mod:Mod K mg base
 bs:∀b o,base.get? b=a8 o->s.heap.get? b=a8 o/\H b=cb
 LN:base.objs.size<=s.heap.objs.size
 ib:s.heap.FunFrames base outer
 Mp:∀b∈Ji outer,H b=cb
 IE:JG P w H s.heap
 bare:Ww s.gens
abbrev CE(outer:List Env)(P:z8)(w:JM)(H:Hp)(s:i4)(Q:VK)(u:fx)(s':i4):Prop :=
 ∃v H',s'.os=s.os/\Ww s'.gens/\Un (Ji outer) [] H H' s.heap s'.heap/\JG P w H' s'.heap/\RelV v u/\Q v H'
abbrev CR(CX:MC)(outer:List Env)(P:z8)(w:JM)(H:Hp)(s:i4)(Q:VK)(E:XK)(r:Ű)(s':i4):Prop :=
 match r with
 |.ok (.ret u)=>CE outer P w H s Q u s'
 |.ok _=>False
 |.error e=>CX outer H s E e s'
structure gQ(P:z8)(w:JM)(K:PySem.W.Frag)(mg:Str->Option fx)(base:Nq)(CX:MC)(k:Nat)(f:k9)(fd:T7)(ps:List Str)(sp:Sp):Prop where
 len:∀vs H Q E,sp vs H Q E->vs.length=ps.length
 run:∀(A:Od) (outer:List Env) (s:i4) (H:Hp) (args:Args) (us:List fx) (vs:List V) (Q:VK) (E:XK),dI k A->vY P w K mg base A outer s H->Z1 s fd args (ps.zip us)->Vals vs us->sp vs H Q E ->
  SO (mn P w) A (.call (.ref f) args) (CR CX outer P w H s Q E) s
section
def Inv.DS(I:Inv X pins σ H s):vY X.prog X.w X.K X.mg X.base X.A X.stack s H :=
 #[I.ok.frames,I.ok.mod,I.bs,DD I.ok.LN I.sz,I.stack,I.gr,I.IE,I.bare]
def Inv.after(I:Inv X pins σ H s)(h:CE X.stack X.prog X.w H s Q u s'):EP X pins σ Q u s':=by
 have(v,H',os,a,c,e,r,q):=h;have(hh,g,d,t,f):=s';obtain rfl:f=s.os:=os;show#[v,H',I.call (h':=hh) (g':=g) (d':=d) (t':=t) (ch:=[]) c e a (λb z=>absurd z (by simp)),r,q]
end
abbrev Binds(K:PySem.W.Frag)(c:T7)(a:List Str)(b:List fx):Prop :=
 ∀(s:i4) (us:List fx),K.In s.heap->(us++b).length=a.length->Z1 s c #[us,[]] (a.zip (us++b))
def Binds.all{K:PySem.W.Frag}(h:∀us:List fx,us.length=a.length->Ū b #[us,[]]=pure (a.zip us)):Binds K b a []:=λs us _ hl=>by
 rw[D1]at hl ⊢;show .of_eq (h us hl)
abbrev Passes(CX:MC)(X:Cx)(E:XK):Prop:=∀(pins:List (k9×Obj)) (σ:St) (H:Hp) (s:i4) (e:fx) (s':i4),Inv X pins σ H s->CX X.stack H s E e s'->X.xe e s'
section
def xP(F:gQ X.prog X.w X.K X.mg X.base CX k f i d sp)(j:dI k X.A)(l:Binds X.K i d a)(m:Vals b a)(n:Passes CX X E)
  (I:Inv X pins σ H s) (r:Vals vs us) (h:sp (vs++b) H Q E):js (mn X.prog X.w) X.A (R3 (.ref f) us) (EP X pins σ Q) X.xe s:=by
 have g:Vals (vs++b) (us++a):=r.append m;have hl:(us++a).length=d.length:=by rw[<-g.length];show F.len _ _ _ _ h
 show Y9 (Ro (F.run X.A X.stack s H #[us,[]] (us++a) (vs++b) Q E j I.DS (l s us I.Kx hl) g h) λr s' c=>?_);cases r with
 |error e=>show n pins σ H s e s' I c
 |ok o =>
  cases o with
  |ret u=>show I.after c
  |_=>show Po c
end
section
end
structure dk(N P:List Str)(sc:OK):Prop where
 kind:sc.kind=.function
 co:sc.isCoroutine=dV
 gen:sc.isGenerator=dV
 nd:N.Nodup
 pre:N.take P.length=P
 par:∀x∈P,sc.names.lookup x=a8 .local\/sc.names.lookup x=a8 .cell
 LP:∀y∈sc.names,y.2≠.free
theorem nz{kindOf:Str->Option O5}:∀{a:List (Str×fx)}{m:Str->Option fx},(∀v,(x,v)∉a)->Z_ kindOf a m x=m x
 |[],_,_=>rfl
 |(n,v)::r,m,h=>by
  unfold Z_;rw[nz λw b=>h w (et _ b)];split
  .have:x≠n:=by rintro rfl;show h v hY
   simp[this]
  .rfl
theorem nA{kindOf:Str->Option O5}:∀{a:List (Str×fx)}{m:Str->Option fx},(∀v,(x,v)∉a)->Z' kindOf a m x=m x
 |[],_,_=>rfl
 |(n,v)::r,m,h=>by
  unfold Z';rw[nA λw b=>h w (et _ b)];split
  .rfl
  .have:x≠n:=by rintro rfl;show h v hY
   simp[this]
theorem jD{kindOf:Str->Option O5}:∀{P:List Str}{vs:List fx}{i:Nat}{m:Str->Option fx},P.Nodup->P[i]?=a8 x->vs[i]?=a8 v->kindOf x=a8 .local ->
  Z_ kindOf (P.zip vs) m x=a8 v
 |[],_,_,_,_,h,_,_=>by simp at h
 |_::_,[],_,_,_,_,h,_=>by simp at h
 |p::P,w::vs,0,m,c,a,b,hk=>by
  simp at a b;subst a;subst b;change Z_ kindOf ((p,w)::P.zip vs) m p=_;unfold Z_;rw[nz λv d=>(LS.mp c).1 (W7 d).1,ŵ hk];simp
 |p::P,w::vs,i+1,m,c,a,b,hk=>by
  change Z_ kindOf ((p,w)::P.zip vs) m x=_;unfold Z_;show jD (i:=i) (LS.mp c).2 (by simpa using a) (by simpa using b) hk
theorem jE{kindOf:Str->Option O5}:∀{P:List Str}{vs:List fx}{i:Nat}{m:Str->Option fx},P.Nodup->P[i]?=a8 x->vs[i]?=a8 v->kindOf x≠a8 .local ->
  Z' kindOf (P.zip vs) m x=a8 v
 |[],_,_,_,_,h,_,_=>by simp at h
 |_::_,[],_,_,_,_,h,_=>by simp at h
 |p::P,w::vs,0,m,c,a,b,hk=>by
  simp at a b;subst a;subst b;change Z' kindOf ((p,w)::P.zip vs) m p=_;unfold Z';rw[nA λv d=>(LS.mp c).1 (W7 d).1,Ÿ hk];simp
 |p::P,w::vs,i+1,m,c,a,b,hk=>by
  change Z' kindOf ((p,w)::P.zip vs) m x=_;unfold Z';show jE (i:=i) (LS.mp c).2 (by simpa using a) (by simpa using b) hk
abbrev start(N:List Str)(vs:List V):St:=vs.map a8++mh (N.length - vs.length) cb
abbrev oz(CX:MC)(P:z8)(w:JM)(K:PySem.W.Frag)(mg:Str->Option fx)(base:Nq)(N:List Str)(a:Str)(scope:OK)(f:k9)(b:fx)(A:Od)(outer:List Env)(s:i4)(H:Hp)(E:XK):Cx where
 prog:=P
 w:=w
 K:=K
 mg:=mg
 base:=base
 A:=A.deeper (VC a scope s.heap.objs.size f b)
 N:=N
 s₀:=s
 H₀:=H
 env:=VC a scope s.heap.objs.size f b
 outer:=outer
 stack:=VC a scope s.heap.objs.size f b::outer
 ex:=[]
 calm:=c4
 fn:=λ_=>c4
 pn:=[]
 xe:=λe s'=>js (mn P w) (A.deeper (VC a scope s.heap.objs.size f b)) (Ł (VC a scope s.heap.objs.size f b) e) (λ_ c=>CX outer H s E e c) (λd c=>CX outer H s E d c) s'
def iL{a:OK}(h:a.names.lookup x=a8 .cell):∃c,(OJ n a.names []).lookup x=a8 c:=by
 have q:=PySem.W.cellsFrom_some a.names n [] (.inl h);show PC.mp q
def vZ{K:PySem.W.Frag}
  (S:dk N l scope) (I:A.handled=cb) (j:vY P w K mg base A outer s H) (hl:vs.length=l.length) (r:Vals vs us)
  (x:InCallC s s.heap.objs.size (Z_ (VC g scope s.heap.objs.size f B).kindOf (l.zip us) λ_=>cb) (OJ (s.heap.objs.size+1) scope.names []) (Z' (VC g scope s.heap.objs.size f B).kindOf (l.zip us) λ_=>cb) s1) :
  Inv (oz CX P w K mg base N g scope f B A outer s H E) [] (start N vs) H s1:=by
 have O:l.length<=N.length:=by have:=Ż OC S.pre;rw[ve]at this;lia
 have(o,Q,rfl,hk):=x.done;have C:∀b:k9,b∉(oz CX P w K mg base N g scope f B A outer s H E).ex:=λb z=>absurd (show b∈([]:List k9) from z) (by simp);show#[#[j.mod,S.kind,rfl,rfl,ke _,λy z c o d=>?_,λy hy=>?_,λy c _ h=>?_,λ_=>I,Z2 j.frames,.inr #[rfl,rfl],λb z=>absurd z (C b),j.bs,j.LN,λb _ _=>C b,λb z=>absurd z (C b),j.ib,j.Mp],
  rfl,j.bare,Un.kept hk,#[_,x.toInCall.ns,λi y v o d T=>?_],λy c h=>#[_,x.cell y c h],j.IE.fresh (ke _),λy c h=>?_,λp m=>absurd (show p∈([]:List (k9×Obj)) from m) (by simp),j.IE.kept hk,?_]
 .show name_of_addr x.apart (PySem.mem_of_lookup o) (PySem.mem_of_lookup d)
 .have hy:scope.names.lookup y=a8 .cell\/scope.names.lookup y=a8 .free:=hy;rcases hy with hy|hy
  .show iL hy
  .show absurd rfl (S.LP _ (PySem.mem_of_lookup hy))
 .show Ou (x.above y c (PySem.mem_of_lookup h))
 .have t:i<vs.length:=by
   unfold start at d;by_cases t:i<vs.length
   .show t
   .rw[y0 (by simpa using t)]at d;rw[M0]at d;split at d<;>cases d
  have J:vs[i]?=a8 v:=by
   unfold start at d;rw[C0 (by simpa using t),ti]at d;cases e:vs[i]? with
   |none=>rw[e]at d;cases d
   |some a=>rw[e]at d;cases d;rfl
  have(u,D,L):=r.get J;have m:l[i]?=a8 y:=by
   rw[<-S.pre,VQ ⋯];show o
  have G:l.Nodup:=by rw[<-S.pre];show S.nd.sublist (YR _ _)
  show#[u,L,?_];rcases S.par y (LR m) with k|k
  .show .inl #[k,jD G m D k]
  .have(c,e):=iL (n:=s.heap.objs.size+1) k;show .inr #[.inl k,c,e,?_];have q:=x.cell y c e;rw[jE G m D (by change scope.names.lookup y≠_;rw[k];decide)]at q;show q
 .show j.IE.fresh (Ou (x.above y c (PySem.mem_of_lookup h)))
 .unfold start;change _=N.length;rw[ko,eH,Rm];lia
def CQ{K:PySem.W.Frag}{C kV g D d ct O:fx}
 (lk:K.lookup f=a8 #[O,od,.func (PySem.W.fnOf name a c body scope C kV g D T d ct),M4]) (Y:PySem.W.codeIn K d a=c4) (S:dk N m scope)
    (h:∀vs H Q E,sp vs H Q E->vs.length=m.length)
    (Kz:∀(A:Od) (outer:List Env) (s:i4) (H:Hp) (vs:List V) (Q:VK) (E:XK),dI k (A.deeper (VC a scope s.heap.objs.size f d))->sp vs H Q E ->
      ∃t,JJ (oz CX P w K mg base N a scope f d A outer s H E) body t/\t {nx:=λ_ H'=>Q .ID H',rt:=Q} (start N vs) H) :
    gQ P w K mg base CX (k+1) f (PySem.W.fnOf name a c body scope C kV g D T d ct) m sp:=by
  show#[h,λA outer s H args us vs Q E p i hb r G=>?_];have hl:=h _ _ _ _ G;have L:K.In s.heap:=i.mod.LM.keeps λb o e=>(i.bs b o e).1;have z:s.heap.NoLimit:=i.mod.nolimit.keeps λb o e=>(i.bs b o e).1;have LQ:∀y∈m.zip us,scope.names.lookup y.1=a8 .local\/(scope.names.lookup y.1=a8 .cell/\((OJ (s.heap.objs.size+1) scope.names []).lookup y.1).isSome=c4):=λ⟨n,v⟩ hy=>by
    rcases S.par n (W7 hy).1 with q|q
    . show .inl q
    . show .inr #[q,PySem.W.cellsFrom_some _ _ _ (.inl q)]
  show ć p.depth (L _ _ lk) rfl S.co S.gen rfl (PySem.W.codeRec_of L Y) (hb _ _ _ _ ?_);show Z5 S.kind LQ λenv he s1 x=>?_;subst he;show#[z.keeps x.toInCall.keep,codeAny_func ?_];have(t,ht,hq):=Kz A outer s H vs Q E (p.deeper _) G;have I:Inv (oz CX P w K mg base N a scope f d A outer s H E) [] (start N vs) H s1:=vZ S p.hd i hl r x;show tj (ht [] s1 (start N vs) H _ I hq) (λfl s' hs=>?_) λe s' hs=>hs;have j:∀{l:St} {H':Hp} {v:V} {u:fx},Inv (oz CX P w K mg base N a scope f d A outer s H E) [] l H' s'->RelV v u->Q v H'->CE outer P w H s Q u s' :=
    λ{l H' v u} J B q=>#[v,H',J.os,J.bare,J.base,J.IE,B,q]
  cases fl with
  | ret u =>
    have(v,l,H',J,B,q):=hs;show j J B q
  | next =>
    have(l,H',J,q):=hs;show j (v:=V.ID) (u:=IV) J rfl q
  | brk =>
    have(_,_,_,q):=hs;show Po q
  | cont =>
    have(_,_,_,q):=hs;show Po q
section
end
end L2
namespace HT
open PySem PyProof.Rows
section
open PySem.SeqAt
open PySem.AutoSeq1 (wpAny_loadPart')
open PySem.MeetsSeq PySem.MeetsSeq2 PySem.MeetsSeq3
end
section
def AR(o:é s.heap t vs.toArray)(p:é s.heap b ws.toArray)(f:vs≠[])
  (q:ws=[]->Q (.ref t) s) (r:ws≠[]->Q (.ref s.heap.objs.size) {s with heap:=s.heap.push {cls:=.type "tuple",data:=.seq (vs++ws).toArray}})
  (hsz:vs.length+ws.length<=eh):js (mn prog w) A (Sr .Add (.ref t) (.ref b)) Q E s:=by
 have((cls,dd,data,g),ho,h,n,i):=id o;have((u,j,data2,k),c,l,m,a):=id p;simp only at h i l a;subst h i l a;have e:vs.toArray++ws.toArray=(vs++ws).toArray:=by simp
 by_cases d:ws=[]
 .show Zm #[_,ho,rfl] #[_,c,rfl] ZC Ø PySem.F.slot_tuple_add PySem.F.entry_tuple_add (PySem.F.args_tuple_add_2 _ _)
   (tuple_addW1 t b vs.toArray ws.toArray n m dd j g k (by simpa using f) (by simp[d])) #[ho,c,q d]
 .show Zm #[_,ho,rfl] #[_,c,rfl] ZC Ø PySem.F.slot_tuple_add PySem.F.entry_tuple_add (PySem.F.args_tuple_add_2 _ _)
   (tuple_addW2 t b vs.toArray ws.toArray n m dd j g k (by simpa using f) (by simpa using d) (by rw[lx,lx];show hsz)) #[ho,c,?_]
  rw[e];show r d
abbrev II(n d:Nat):Option Int->Nat
 |none=>d
 |some v=>if v<0 then(v+(n:Int)).toNat else min v.toNat n
def k6(n d:Nat):II n d cb=d:=rfl
def dn(n d k:Nat):II n d (a8 (k:Int))=min k n:=by
 change(if (k:Int)<0 then((k:Int)+(n:Int)).toNat else min (k:Int).toNat n)=min k n;rw[Ÿ ⋯,Tj]
def DT(n d:Nat)(b:d<=n)(o:Option Int):II n d o<=n:=by
 cases o with
 |none=>show b
 |some v =>
  change(if v<0 then(v+(n:Int)).toNat else min v.toNat n)<=n;by_cases a:v<0
  .rw[ŵ a];lia
  .rw[Ÿ a];show Nat.min_le_right _ _
def uf(v:Int)(n d:Nat):(if v<0 then max (v+(n:Int)) 0 else min v (n:Int))=((II n d (a8 v):Nat):Int):=by
 change(if v<0 then max (v+(n:Int)) 0 else min v (n:Int))=(((if v<0 then(v+(n:Int)).toNat else min v.toNat n):Nat):Int)
 by_cases a:v<0
 .simp only[ŵ a];lia
 .simp only[Ÿ a];lia
def rR(lo a:Option Int)(n:Nat):T_ lo a 1 (n:Int)=(((II n 0 lo:Nat):Int),((II n n a:Nat):Int)):=by
 have b:¬((1:Int)<0):=by lia
 unfold T_;simp only[b,ź];show VY ?_ ?_
 .cases lo with
  |none=>rfl
  |some v=>show uf v n 0
 .cases a with
  |none=>rfl
  |some v=>show uf v n n
def rS(i j:Nat):LG (i:Int) (j:Int) 1=j - i:=by
 unfold LG;have a:(1:Int)>0:=by lia
 simp only[a,ž,Ê];split<;>lia
def k7(p:YK v o)(h:Q o s):js (mn prog w) A (Ő v) Q E s:=by
 cases p with
 |none=>show YL h
 |int i t=>show slicePart_int h
def eD{lo a:Option Int}{n:Nat}(hs:s.heap.IsSliceOf f d e .none)(g:YK d lo)(i:YK e a)
  (h:Q (((II n 0 lo:Nat):Int),1,II n n a - II n 0 lo) s):js (mn prog w) A (TC (.ref f) (pure (n:Int))) Q E s:=by
 have(os,b,j,c):=id hs;unfold TC YE;show cc (cc (Tx b c (x:=d) rfl (cc (Tx b c (x:=e) rfl (cc (Tx b c (x:=.none) rfl (d6 ?_)))))));show cc (YL ?_);change js _ _ (if ((1:Int)==0)=c4 then _ else _) _ _ s;rw[Ÿ (by decide)];show cc (k7 g (cc (k7 i (cc (d6 ?_)))));change js _ _ (match T_ lo a 1 (n:Int) with|(lo,a)=>pure (lo,(1:Int),LG lo a 1)) _ _ s;rw[rR lo a n];change js _ _ (pure (((II n 0 lo:Nat):Int),(1:Int),LG ((II n 0 lo:Nat):Int) ((II n n a:Nat):Int) 1)) _ _ s;rw[rS];show d6 h
def xQ(xs:Array fx)(i k:Nat):((gA k).filterMap λ(m:Nat)=>xs[((i:Int)+(m:Int) * 1).toNat]?).toArray=((xs.toList.drop i).take k).toArray:=by
 have e:(λ(m:Nat)=>xs[((i:Int)+(m:Int) * 1).toNat]?)=λm=>xs[i+m]?:=by
  funext m
  have:((i:Int)+(m:Int) * 1).toNat=i+m:=by lia
  rw[this]
 rw[e];have:=pick_run xs i k;rw[YF]at this;have a:((λx=>xs[x]?) ∘ λx=>i+x)=λm=>xs[i+m]?:=rfl;rw[a]at this;rw[this]
def iM{lo b:Option Int}(c:é s.heap t a)(hs:s.heap.IsSliceOf e f g .none)(i:YK f lo)(j:YK g b)
  (k:¬(II a.size 0 lo=0/\II a.size a.size b=a.size))
  (h:Q (.ref s.heap.objs.size) {s with heap:=s.heap.push {cls:=.type "tuple",data:=.seq ((a.toList.drop (II a.size 0 lo)).take (II a.size a.size b - II a.size 0 lo)).toArray}})
  (hsz:a.size<=eh):js (mn prog w) A (X4 (.ref t) (.ref e)) Q E s:=by
 have d:sizeOk (.seq ((a.toList.drop (II a.size 0 lo)).take (II a.size a.size b - II a.size 0 lo)).toArray):=by
  change((a.toList.drop (II a.size 0 lo)).take (II a.size a.size b - II a.size 0 lo)).toArray.size<=eh;rw[lx,ve,H4,mA];lia
 have r:II a.size a.size b<=a.size:=DT _ _ (ke _) b;have(os,l,n,u):=id hs;have o:s.TypeIs (.ref e) "slice":=#[os,l,n]
 unfold X4
 try with_reducible show Ka ?_
 first|show cc (d6 ?_)|skip
 show cc (Zf c.typeIs (by decide) ?_);show cc (Tz (name:=W3 "__getitem__") c.typeIs wh
  (OD wh c.typeIs YW ?_ (Zc _ _)))
 change js _ _ (Qs (.ref t) >>= _) _ _ s;show cc (à c ?_);show cc (Rn o ?_);rw[ŵ (by decide)];show cc (eD hs i j ?_);have p:¬((((II a.size 0 lo:Nat):Int)==0&&(1:Int)==1&&(II a.size a.size b - II a.size 0 lo)==a.size)=c4):=by
  intro q;rw[df,df]at q;have v:((II a.size 0 lo:Nat):Int)=0:=YS q.1.1;have x:II a.size a.size b - II a.size 0 lo=a.size:=YS q.2;show k #[⋯,⋯]
 change js _ _ (if (((II a.size 0 lo:Nat):Int)==0&&(1:Int)==1&&(II a.size a.size b - II a.size 0 lo)==a.size)=c4 then _ else _) _ _ s;rw[Ÿ p,xQ]
 first
  |show cc (m:=KN _) (zy (d6 #[_,rfl,d6 h]) d)
  |show cc (m:=KN _) (zy (cc (d6 (d6 #[_,rfl,d6 h]))) d)
  |show cc (cc (m:=KN _) (zy (d6 (d6 #[_,rfl,d6 h])) d))
  |show cc (cc (m:=KN _) (zy (d6 #[_,rfl,d6 h]) d))
end
end HT
namespace L2
open PySem PySem.Spec PyProof.Rows
@[reducible]noncomputable def TO:=St->Hp->(Option Int->Hp->Prop)->Prop
abbrev PO(X:Cx)(e:Option vr)(t:TO):Prop :=
 ∀(pins:List (k9×Obj)) (s:i4) (σ:St) (H:Hp) (Q:Option Int->Hp->Prop),Inv X pins σ H s->t σ H Q ->
  js (mn X.prog X.w) X.A (evalPart e X.env) (λu s'=>∃o H',Inv X pins σ H' s'/\YK u o/\Q o H') X.xe s
abbrev AS:TO:=λ_ H Q=>Q cb H
abbrev Ga(t:TE):TO:=λσ H Q=>t σ H λx a=>∃i,x=.int i/\Q (a8 i) a
section
variable{X:Cx}{e:vr}{te:TE}{lo hi:Option vr}{tl th:TO}{pos p2:Pos}
def AU:PO X cb AS:=by
 intro pins s σ H Q I h;rw[Y2];show d6 #[cb,H,I,.none,h]
def AV(h:PE X e te):PO X (a8 e) (Ga te):=by
 intro pins s σ H Q I a;rw[Y1];show IF (h pins s σ H _ I a) λu s1 b=>?_;have(x,c,d,f,g):=b;have(i,rfl,q):=g;have(t,rfl):=f;show#[a8 i,c,d,.int i t,q]
abbrev Ms(X:Cx)(r:V->Option Int->Option Int->Hp->VK->Prop):Prop :=
 ∀(pins:List (k9×Obj)) (s:i4) (σ:St) (H:Hp) (x:V) (v a b:fx) (lo hi:Option Int) (c:k9) (Q:VK),Inv X pins σ H s->RelV x v->s.heap.IsSliceOf c a b .none->YK a lo->YK b hi->r x lo hi H Q ->
  ∃T id,Y_ (.type T) "__getitem__"=pure (a8 (.builtin id))/\s.TypeIs v T/\js (mn X.prog X.w) X.A (X4 v (.ref c)) (EP X pins σ Q) X.xe s
def Ms.or(h:Ms X r)(h':Ms X i):Ms X (λx lo hi H Q=>r x lo hi H Q\/i x lo hi H Q):=by
 intro pins s σ H x v a b lo hi c Q I d hs f g q;rcases q with q|q
 .show h pins s σ H x v a b lo hi c Q I d hs f g q
 .show h' pins s σ H x v a b lo hi c Q I d hs f g q
abbrev VN(r:V->Option Int->Option Int->Hp->VK->Prop)(te:TE)(tl th:TO):TE:=λσ H Q=>te σ H λx a=>tl σ a λl b=>th σ b λu c=>r x l u c Q
def xR(f:Ms X r)(g:PE X e te)(hl:PO X lo tl)(i:PO X hi th):PE X (.Subscript e (.Slice lo hi cb p2) pos) (VN r te tl th):=by
 intro pins s σ H Q I h;show Æ (IF (g pins s σ H _ I h) λv s1 j=>?_);have(x,k,m,n,o):=j;show Ē (IF (hl pins s1 σ k _ m o) λa s2 ⟨l,p,t,y,z⟩=>IF (i pins s2 σ p _ t z) λc s3 B=>?_);have(u,d,C,D,G):=B;rw[Y2];show d6 ?_;have J:Inv X pins σ d {s3 with heap:=s3.heap.push {cls:=.type "slice",data:=.fields #v[a,c,.none]}}:=C.kept (t':=s3.toks) λb Y q=>ek _ q;have(T,id,L,N,O):=f pins {s3 with heap:=s3.heap.push {cls:=.type "slice",data:=.fields #v[a,c,.none]}} σ d x v a c l u s3.heap.objs.size Q J n (VT ..) y D G;change js (mn X.prog X.w) X.A (á e (.Slice lo hi cb p2) v (.ref s3.heap.objs.size)) (EP X pins σ Q) X.xe {s3 with heap:=s3.heap.push {cls:=.type "slice",data:=.fields #v[a,c,.none]}};show ĝ (ops:=[.ref s3.heap.objs.size,v]) N L O (by with_unfolding_all rfl)
abbrev qk(xs:List V)(lo hi:Option Int):List V:=(xs.drop (HT.II xs.length 0 lo)).take (HT.II xs.length xs.length hi - HT.II xs.length 0 lo)
def j9(xs:List V)(lo hi:Option Int):(qk xs lo hi).length<=xs.length:=by
 unfold qk;rw[ve,H4];lia
abbrev Gb(K:PySem.W.Frag):V->Option Int->Option Int->Hp->VK->Prop:=λx lo hi H Q=>∃a xs,x=.ref a/\Jj K H a xs /\
 ¬(HT.II xs.length 0 lo=0/\HT.II xs.length xs.length hi=xs.length)/\∀p,H p=cb->Q (.ref p) (upd H p (.tup (qk xs lo hi)))
def DU:Ms X (Gb X.K):=by
 intro pins s σ H x v m n lo hi p Q I f hs g i h;have(a,xs,rfl,j,k,q):=h;cases f;have(l,r,d,hz):=I.tuple j;have c:l.toArray.size=xs.length:=by rw[lx];show r.length.symm
 show#["tuple",_,wh.lookup,d.typeIs,?_];show HT.iM d hs g i (by rw[c];show k) ?_ (by rw[c];show hz);rw[c];show#[.ref s.heap.objs.size,_,I.laid (t':=s.toks) (o:=.tup (qk xs lo hi)) (λb t q=>ek _ q) (ke _) ?_,rfl,q _ (I.IE.fresh (ke _))];show#[DD (j9 xs lo hi) hz,_,(r.drop (HT.II xs.length 0 lo)).take (HT.II xs.length xs.length hi - HT.II xs.length 0 lo),YX _ _]
abbrev Ge(K:PySem.W.Frag):R2:=λx y H Q=>∃a b xs c,x=.ref a/\y=.ref b/\Jj K H a xs/\Jj K H b c/\xs≠[]/\xs.length+c.length<=eh /\
 (c=[]->Q (.ref a) H)/\(c≠[]->∀p,H p=cb->Q (.ref p) (upd H p (.tup (xs++c))))
def Vals.oA(r:Vals xs us):us=[]↔xs=[]:=by
 cases r with
 |_=>simp
def AW:JK X (Sr .Add) (Ge X.K):=by
 intro pins s σ H x y v u Q I f g h;have(a,b,xs,i,rfl,rfl,j,k,l,hz,m,n):=h;cases f;cases g;have(p,d,p1,_):=I.tuple j;have(r,c,p2,_):=I.tuple k;show HT.AR p1 p2 (λz=>l (d.oA.mp z)) (λz=>#[.ref a,H,I,rfl,m (c.oA.mp z)]) (λz=>?_) (by rw[<-d.length,<-c.length];show hz);show#[.ref s.heap.objs.size,_,I.laid (t':=s.toks) (o:=.tup (xs++i)) (λb t q=>ek _ q) (ke _) ?_,rfl,n (λw=>z (c.oA.mpr w)) _ (I.IE.fresh (ke _))];show#[by rw[ko];show hz,_,d.append c,YX _ _]
end
abbrev MG(n:Nat)(i:Int):Option Nat:=if 0<=i then(if i<n then a8 i.toNat else cb) else if -(n:Int)<=i then a8 (i+n).toNat else cb
abbrev IX{α:Type}(xs:List α)(i:Int):Option α:=(MG xs.length i).bind λj=>xs[j]?
def ug{n:Nat}(h:MG n i=a8 j):seqIndex? i n=a8 j/\j<n/\-(n:Int)<=i/\i<n:=by
 unfold MG at h;by_cases b:0<=i
 .rw[ŵ b]at h;by_cases a:i<n
  .rw[ŵ a]at h;have e:i.toNat=j:=Jc h;show#[by rw[Ĕ b a,e],⋯,⋯,a]
  .rw[Ÿ a]at h;cases h
 .rw[Ÿ b]at h;by_cases a:-(n:Int)<=i
  .rw[ŵ a]at h;have e:(i+n).toNat=j:=Jc h;show#[by rw[seqIndex_neg ⋯ a,e],⋯,a,⋯]
  .rw[Ÿ a]at h;cases h
def oB(h:IX xs i=a8 v):∃j,seqIndex? i xs.length=a8 j/\xs[j]?=a8 v/\j<xs.length/\-(xs.length:Int)<=i/\i<xs.length:=by
 unfold IX at h;cases e:MG xs.length i with
 |none=>rw[e]at h;cases h
 |some j =>
  rw[e]at h;have(a,b,c,d):=ug e;show#[j,a,h,b,c,d]
def bX{j:Nat}(h:xs[j]?=a8 v):IX xs (j:Int)=a8 v:=by
 have a:j<xs.length:=(mr.mp h).1;have e:MG xs.length (j:Int)=a8 j:=by
  unfold MG;rw[ŵ ⋯,ŵ ⋯];simp
 unfold IX;rw[e];show h
abbrev oC(b:vr):Prop:=∀o i,subscripted b dV o i=operate [o,i] (X4 o i)
abbrev RK(X:Cx)(r:R2):Prop :=
 ∀(b a:vr) (pins:List (k9×Obj)) (s:i4) (σ:St) (H:Hp) (x y:V) (v u:fx) (Q:VK),Inv X pins σ H s->RelV x v->RelV y u->r x y H Q ->
  subscripted a dV v u=operate [v,u] (X4 v u)->js (mn X.prog X.w) X.A (á b a v u) (EP X pins σ Q) X.xe s
abbrev OE(X:Cx)(id:String)(r:V->List V->Hp->VK->Prop):Prop :=
 ∀(pins:List (k9×Obj)) (s:i4) (σ:St) (H:Hp) (x:V) (xs:List V) (v:fx) (us:List fx) (Q:VK),Inv X pins σ H s->RelV x v->Vals xs us->r x xs H Q ->
  js (mn X.prog X.w) X.A (R3 (.builtin id) (v::us)) (EP X pins σ Q) X.xe s
section
abbrev H_(K:PySem.W.Frag):R2:=λx y H Q=>∃p xs i v,x=.ref p/\y=.int i/\Jo K H p xs/\IX xs i=a8 v/\Q v H
abbrev Ia(K:PySem.W.Frag):R2:=λx y H Q=>∃p xs i v,x=.ref p/\y=.int i/\Jj K H p xs/\IX xs i=a8 v/\Q v H
abbrev Ib:R2:=λx y H Q=>∃z i c,x=.str z/\y=.int i/\z.length<=eh/\IX z.cps.toList i=a8 c/\Q (.str #[#v[c]]) H
def AX:RK X (H_ X.K):=by
 intro c d pins s σ H x y v u Q I m n h hs;have(p,xs,i,z,rfl,rfl,A,B,q):=h;cases m;have(t,rfl):=n;have(C,r,f,hz):=I.list A;have(j,b,D,N,G,J):=oB B;have(w,k,L):=r.get D;have hl:=r.length;have O:=ie;have a:EP X pins σ Q w s:=#[z,H,I,L,q]
 by_cases l:0<=i
 .have g:i.toNat=j:=by
   rw[Ĕ l J]at b;show Jc b
  show item_listR f.isList l ⋯ (by rw[g];simpa using k) a hs
 .have g:(i+(C.toArray.size:Int)).toNat=j:=by
   rw[seqIndex_neg ⋯ G]at b;rw[lx,<-hl];show Jc b
  show ý (x:=w) f.isList.typeIs Zg.lookup
   (wpAny_getItem_list_neg (Q:=λr s'=>r=w/\EP X pins σ Q r s') f.isList ⋯ (by rw[lx]<;>lia) ⋯ (by rw[g];simpa using k) ⟨rfl,a⟩) hs
def rT:RK X (Ia X.K):=by
 intro a b pins s σ H x y v u Q I f g h hs;have(p,xs,i,z,rfl,rfl,k,l,q):=h;cases f;have(t,rfl):=g;have(C,r,d,hz):=I.tuple k;have(j,m,n,D,G,J):=oB l;have(w,A,B):=r.get n;have hl:=r.length;have L:=ie;have c:EP X pins σ Q w s:=#[z,H,I,B,q]
 show ý (x:=w) d.typeIs wh.lookup
  (getItem_tuple (j:=j) (Q:=λr s'=>r=w/\EP X pins σ Q r s') d ⋯ ⋯ (by rw[lx,<-hl];show m) (by simpa using A) ⟨rfl,c⟩) hs
def fJ:RK X Ib:=by
 intro a b pins s σ H x y v u Q I f g h hs;have(z,i,c,rfl,rfl,hz,k,q):=h;have(t,rfl):=f;have(t',rfl):=g;have(j,d,l,A,m,n):=oB k;have hl:z.cps.toList.length=z.length:=by simp[T6]
 rw[hl]at d m n;have B:=ie;show ĝ (Ta s z t) œ.lookup (getItem_str (c:=c) (by
  have p:ei (i < -(2 ^ 63:Int))=dV:=Ŷ ⋯;have w:ei (i >= 2 ^ 63)=dV:=Ŷ ⋯;rw[p,w,Ĺ]) (by rw[d];simpa using l) ⟨.str ⟨#v[c]⟩,H,I.tok _,⟨_,rfl⟩,q⟩) hs
def rV(a:List fx)(n j:Nat)(u:fx):Lm (·.setIfInBounds j u) {cls:=.type "list",data:=.seq a.toArray n}={cls:=.type "list",data:=.seq (a.set j u).toArray n}:=by
 simp[Lm]
def Inv.lst(I:Inv X pins σ H s)(h:H p=a8 (.lst xs)):
  ∃(a:List fx) (n:Nat),Vals xs a/\s.heap.get? p=a8 {cls:=.type "list",data:=.seq a.toArray n}/\xs.length<=eh:=by
 have(z,a,n,r,e):=I.IE p _ h;show#[a,n,r,e,z]
def Inv.DV{a its':List fx}(I:Inv X pins σ H s)(h:H p=a8 (.lst xs))
  (ho:s.heap.get? p=a8 {cls:=.type "list",data:=.seq a.toArray n}) (c:f {cls:=.type "list",data:=.seq a.toArray n}={cls:=.type "list",data:=.seq its'.toArray d }) (r:Vals g its') (hz:g.length<=eh) (t:Nat) :
  Inv X pins σ (upd H p (.lst g)) {s with heap:=s.heap.update p f,toks:=t}:=by
 have e:(s.heap.update p f).get? p=a8 {cls:=.type "list",data:=.seq its'.toArray d }:=by
  rw[Ki f ho (by rw[c]<;>rfl),c]
 show I.write (x:=p) (e:=p) (by rw[h];trivial) (.inl rfl) (λb u i q=>(Pd _ _ (Mk i)).trans q) ⟨_,e⟩ ?_;show#[hz,its',d,r,e]
abbrev Gf:V->V->V->Hp->(Hp->Prop)->Prop:=λo i v H Q=>∃p xs k j,o=.ref p/\i=.int k/\H p=a8 (.lst xs)/\MG xs.length k=a8 j/\Q (upd H p (.lst (xs.set j v)))
def set_list:mW X Gf:=by
 intro pins s σ H o i v z A u Q I m w x h;have(p,xs,k,j,rfl,rfl,b,y,q):=h;cases m;have(t,rfl):=w;have(c,n,r,ho,hz):=I.lst b;have(a,B,d,f):=ug y;have hl:=r.length;have C:=ie;have g:Inv X pins σ (upd H p (.lst (xs.set j v))) {s with heap:=s.heap.update p (Lm (·.setIfInBounds j u))} :=
  I.DV b ho (rV c n j u) (r.set x j) (by rw[Ġ];show hz) s.toks
 by_cases l:0<=k
 .have hk:k.toNat=j:=by
   rw[Ĕ l f]at a;show Jc a
  show PySem.W.ki_setAt ho l ⋯ (by rw[lx,<-hl];show f) (by rw[hk];show#[_,g,q])
 .have hk:(k+(c.toArray.size:Int)).toNat=j:=by
   rw[seqIndex_neg ⋯ d]at a;rw[lx,<-hl];show Jc a
  show PySem.W.ki_setBack ho ⋯ (by rw[lx,<-hl];show d) ⋯ (by rw[hk];show#[_,g,q])
def oD(lo a:Option Int)(n:Nat):(So lo a cb n).1=((HT.II n 0 lo:Nat):Int)/\(So lo a cb n).2.1=((HT.II n n a:Nat):Int)/\(So lo a cb n).2.2=1:=by
 show#[?_,?_,rfl]
 .cases lo with
  |none=>simp[So,HT.II]
  |some i =>
   simp only[So,HT.II,ë,show(1:Int)>0 by decide,ž];by_cases h:i<0
   .simp only[h,ž]<;>lia
   .simp only[h,ź]<;>lia
 .cases a with
  |none=>simp[So,HT.II]
  |some i =>
   simp only[So,HT.II,ë,show(1:Int)>0 by decide,ž];by_cases h:i<0
   .simp only[h,ž]<;>lia
   .simp only[h,ź]<;>lia
def mX(a:List fx)(lo b:Option Int):æ a.toArray lo b cb=((a.drop (HT.II a.length 0 lo)).take (HT.II a.length a.length b - HT.II a.length 0 lo)).toArray:=by
 have(c,d,f):=oD lo b a.toArray.size;unfold æ;rw[c,d,f];simp only[sliceRange_one,pick_run,lx]<;>rfl
abbrev Gg(K:PySem.W.Frag):V->Option Int->Option Int->Hp->VK->Prop:=λx lo b H Q=>∃a xs,x=.ref a/\Jo K H a xs/\∀p,H p=cb->Q (.ref p) (upd H p (.lst (qk xs lo b)))
def AY:Ms X (Gg X.K):=by
 intro pins s σ H x v l m lo d n Q I g hs i j h;have(a,xs,rfl,k,q):=h;cases g;have(p,r,f,hz):=I.list k;have c:=r.length;show#["list",_,Zg.lookup,f.isList.typeIs,?_];show Ó f.isList hs i j .none (by simp) ?_ (by rw[lx]<;>lia);rw[mX,<-c];show#[.ref s.heap.objs.size,_,I.laid (t':=s.toks) (o:=.lst (qk xs lo d)) (λb u q=>ek _ q) (ke _) ?_,rfl,q _ (I.IE.fresh (ke _))];show#[DD (j9 xs lo d) hz,_,0,(r.drop (HT.II xs.length 0 lo)).take (HT.II xs.length xs.length d - HT.II xs.length 0 lo),l' _ rfl]
def oE:JK X (MF .NotIn) (λx y H Q=>∃i j,x=.str i/\y=.str j/\Q (.bl (!(!(Jv j i 0 j.length 1).isEmpty))) H):=by
 intro pins s σ H x y v u Q I a b h;have(i,j,rfl,rfl,q):=h;have(t,rfl):=a;have(t',rfl):=b;show notIn_str #[.bl _,H,I,rfl,q]
def iN:fB X (.builtin "len") (λxs H Q=>∃p b,xs=[.ref p]/\(Jo X.K H p b\/Jj X.K H p b)/\Q (.int b.length) H):=by
 intro pins s σ H xs us Q I r h;have(p,b,rfl,hq,q):=h;have(u,rfl,f):=vals1 r;cases f;have i:=ie;rcases hq with hq|hq
 .have(g,c,d,hz):=I.list hq;have a:=c.length;show Calls.call_len_list d.isList (by simp only[lx]<;>lia) #[.int b.length,H,I.tok _,#[s.toks+1,by rw[lx,a]],q]
 .have(g,c,d,hz):=I.tuple hq;have a:=c.length;show len_tuple d (by simp only[lx]<;>lia) #[.int b.length,H,I.tok _,#[s.toks+1,by rw[lx,a]],q]
def oF:fB X (.builtin "len") (λxs H Q=>∃z,xs=[.str z]/\z.length<=eh/\Q (.int z.length) H):=by
 intro pins s σ H xs us Q I r h;have(z,rfl,hz,q):=h;have(u,rfl,t,rfl):=vals1 r;have a:=ie;show len_str ⋯ #[.int z.length,H,I.tok _,#[_,rfl],q]
def iO:fB X (.type "list") (λxs H Q=>∃p c,xs=[.ref p]/\(Jo X.K H p c\/Jj X.K H p c)/\∀l,H l=cb->Q (.ref l) (upd H l (.lst c))):=by
 intro pins s σ H xs us Q I r h;have(p,c,rfl,hq,q):=h;have(u,rfl,y):=vals1 r;cases y;have g:∀(a:List fx),Vals c a->c.length<=eh->∀(h':Nq) (d:Nat),(∀b x,s.heap.get? b=a8 x->h'.get? b=a8 x) ->
   h'.get? s.heap.objs.size=a8 {cls:=.type "list",dict:=cb,data:=.seq a.toArray d,slots:=#v[]}->EP X pins σ Q (.ref s.heap.objs.size) {s with heap:=h' }:=λa f hz h' d i e =>
  #[.ref s.heap.objs.size,_,I.laid (t':=s.toks) i (ke _) (show bW X.prog X.w _ h' _ (.lst c) from#[hz,a,d,f,e]),rfl,q _ (I.IE.fresh (ke _))]
 rcases hq with hq|hq
 .have(a,f,k,hz):=I.list hq;have j:=f.length;have(o,ho,m,n,v):=k.isList;show call_list_seq p (.inl rfl) ho m v (λh' d i e=>g a f hz h' d i e) (by simp only[lx]<;>lia)
 .have(a,f,k,hz):=I.tuple hq;have j:=f.length;have(o,ho,m,n,v):=k;show call_list_seq p (.inr rfl) ho m v (λh' d i e=>g a f hz h' d i e) (by simp only[lx]<;>lia)
def gZ:fB X (.type "tuple") (λxs H Q=>∃p a,xs=[.ref p]/\((Jo X.K H p a/\∀l,H l=cb->Q (.ref l) (upd H l (.tup a)))\/(Jj X.K H p a/\Q (.ref p) H))):=by
 intro pins s σ H xs us Q I r h;have(p,a,rfl,h):=h;have(u,rfl,k):=vals1 r;cases k;rcases h with⟨c,q⟩|⟨c,q⟩
 .have(d,f,g,hz):=I.list c;have i:=f.length;show call_tuple_list g.isList (λh' m=>?_) (by simp only[lx]<;>lia);have j:Inv X pins σ H {s with heap:=h' }:=I.kept (t':=s.toks) m;have n:Inv X pins σ (upd H h'.objs.size (.tup a)) {s with heap:=h'.push {cls:=.type "tuple",data:=.seq d.toArray}} :=
   j.laid (t':=s.toks) (λb o e=>ek _ e) (ke _) (show bW X.prog X.w _ _ _ (.tup a) from#[hz,d,f,YX _ _])
  show#[.ref h'.objs.size,_,n,rfl,q _ (j.IE.fresh (ke _))]
 .have(d,f,g,hz):=I.tuple c;show call_tuple_same g #[.ref p,H,I,rfl,q]
abbrev RM(K:PySem.W.Frag)(T:String)(x:V)(H:Hp):Prop:=match x with
 |.str _=>T="str"
 |.int _=>T="int"
 |.ref p=>(T="list"/\∃xs,Jo K H p xs)\/(T="tuple"/\∃o,K.lookup p=a8 o/\o.cls=.type "tuple"/\o.dict=cb) \/
   (T="dict"/\((∃a,H p=a8 (.dK a))\/∃a,H p=a8 (.dT a)))\/(T="set"/\∃S n,H p=a8 (.set S n))
 |_=>False
def xS(I:Inv X pins σ H s)(r:RelV x v)(ty:RM X.K T x H):
  s.TypeIs v T/\∀a,v=.ref a->∃f,s.heap.get? a=a8 f/\f.dict=cb:=by
 cases x with
 |str z =>
  have(t,rfl):=r;cases(show T="str" from ty);show#[Ta s z t,λ_ e=>nomatch e]
 |int i =>
  have(t,rfl):=r;cases(show T="int" from ty);show#[ı s i t,λ_ e=>nomatch e]
 |ref p =>
  cases r;rcases ty with⟨rfl,xs,h⟩|⟨rfl,o,hk,j,b⟩|⟨rfl,hk⟩|⟨rfl,S,n,hk⟩
  .have(l,_,g,_):=I.list h;show#[g.isList.typeIs,λa e=>?_];cases e;have(o,n,e,c,b,_):=g;show#[o,e,b]
  .show#[#[o,I.Kx p o hk,j],λa e=>?_];cases e;show#[o,I.Kx _ o hk,b]
  .have z:∃o,s.heap.get? p=a8 o/\o.ExactDict:=by
    rcases hk with⟨k,hk⟩|⟨k,hk⟩
    .have(_,_,_,_,o,_,_,e,ex,_):=I.IE p _ hk;show#[o,e,ex]
    .have(_,_,_,_,o,_,_,e,ex,_):=I.IE p _ hk;show#[o,e,ex]
   have(o,e,ex):=z;show#[#[o,e,ex.1],λa d=>?_];cases d;show#[o,e,ex.2.1]
  .have(o,_,_,_,e,ex,_):=I.IE p _ hk;show#[#[o,e,ex.1],λa d=>?_];cases d;show#[o,e,ex.2.1]
 |_=>show Po ty
abbrev VO(K:PySem.W.Frag)(T:String)(r:V->List V->Hp->VK->Prop)(to:TE)(t:TA):TE:=λσ H Q=>to σ H λx a=>RM K T x a/\t σ a λxs b=>r x xs b Q
variable{o e:vr}{es:List vr}{to:TE}{t:TA}{name:Str}{apos IC:Pos}{T id:String}{r:V->List V->Hp->VK->Prop}
def CS(d:PlainAttrs T)(slot:Slot T name id)(f:Zy (.builtin id)=pure (.type "method_descriptor"))(g:OE X id r)(ho:PE X o to)(i:PA X (e::es) t)
  (j:WT o name X.env (MM o X.env)=MM o X.env:=by rfl)
  (k:((NZ IC (pa (e::es) X.env)).all (λx=>!x.1)&&(YI IC (U2 [] X.env)).all (λx=>x.1.isSome)
   && ei ((e::es).length+([]:List SR).length+(if ([]:List SR).isEmpty then 0 else 1)<30))=c4:=by rfl)
  (l:(apos.endLine==IC.line)=c4:=by rfl) (hs:pa (e::es) X.env=(dV,MM e X.env)::pa es X.env:=by rfl) (m:(NZ IC (pa es X.env)).any (·.1)=dV:=by rfl) :
  PE X (.Call (.Attribute o name apos) (e::es) [] IC) (VO X.K T r to t):=by
 intro pins s σ H Q I h;show ð j k l rfl (IF (ho pins s σ H _ I h) λv s1 n=>?_);have(x,p,a,b,ty,q):=n;have(u,w):=xS a b ty;show#[T,id,d,slot,f,u,w,?_];have c:=i IC pins s1 σ p _ a q;rw[hs]at c ⊢;show Wg (by change(dV||(NZ IC (pa es X.env)).any (·.1))=dV;rw[m]<;>rfl) (RI ?_);show IF c λus s2 ⟨vs,y,z,A,B⟩=>g pins s2 σ y x vs v us Q z b A B
end
abbrev Um(X:Cx)(id:String)(r:V->List V->Hp->VK->Prop):Prop :=
 ∀(pins:List (k9×Obj)) (s:i4) (σ:St) (H:Hp) (x:V) (xs:List V) (v:fx) (us:List fx) (Q:VK),Inv X pins σ H s->RelV x v->Vals xs us->r x xs H Q ->
  js (mn X.prog X.w) X.A (R3 (.builtin id) (v::us)) (EP X pins σ Q) X.xe s
theorem Vals.one:∀{x:V}{us:List fx},Vals [x] us->∃u,us=[u]/\RelV x u
 |_,_,.cons r .nil=>#[_,rfl,r]
theorem Vals.rep(h:Vals xs us):∀k:Nat,Vals (mh k xs).flatten (mh k us).flatten
 |0=>.nil
 |k+1=>by
  rw[Pc,Pc,PN,PN];show Vals.append h (Vals.rep h k)
theorem foldl_rep(b:List fx):∀(k:Nat) (a:List fx),
  ì (λc d=>c++d) a.toArray (mh k b.toArray)=(a++(mh k b).flatten).toArray
 |0,a=>by simp
 |k+1,a=>by
  have e:a.toArray++b.toArray=(a++b).toArray:=by simp
  have f:(a++b)++(mh k b).flatten=a++(mh (k+1) b).flatten:=by
   rw[Pc,PN,Rt]
  rw[<-f,<-foldl_rep b k (a++b),<-e,Pc,My]
section
def Inv.fK{a its':List fx}(I:Inv X pins σ H s)(c:H l=a8 (.lst xs))
  (e:s.heap.get? l=a8 {cls:=.type "list",data:=.seq a.toArray n}) (d:f a.toArray=its'.toArray) (g:Vals b its') (hz:b.length<=eh) :
  Inv X pins σ (upd H l (.lst b)) {s with heap:=s.heap.update l (Lm f),toks:=t' }:=by
 have q:=PySem.IsL.update e f;rw[d]at q;show I.write (x:=l) (e:=l) (by rw[c];show trivial) (.inl rfl) (λj u h i=>(Pd s.heap (Lm f) (Mk h)).trans i) ⟨_,q⟩ ?_;show#[hz,its',_,g,q]
def Inv.Gh(I:Inv X pins σ H s)(c:Vals a b)(hz:a.length<=eh):
  Inv X pins σ (upd H s.heap.objs.size (.lst a)) {s with heap:=s.heap.push {cls:=.type "list",data:=.seq b.toArray},toks:=t' } :=
 I.laid (λ_ _ q=>ek _ q) (ke _) ⟨hz,b,0,c,l' _ rfl⟩
def Inv.fresh(I:Inv X pins σ H s):H s.heap.objs.size=cb:=I.IE.fresh (ke _)
def Inv.Gi(I:Inv X pins σ H s)(b:H l=a8 (.lst xs)):xs.length<=eh/\∃(a:List fx) (n:Nat),Vals xs a/\xs.length=a.length/\s.heap.get? l=a8 {cls:=.type "list",data:=.seq a.toArray n}:=by
 have(z,a,n,r,e):=I.IE l _ b;show#[z,a,n,r,r.length,e]
def ql(h:n<=eh):Ny n=dV:=by
 unfold Ny;show Ŷ ⋯
end
section
abbrev AZ:V->List V->Hp->VK->Prop:=λx vs H Q=>∃l xs y,x=.ref l/\vs=[y]/\H l=a8 (.lst xs)/\xs.length<eh/\Q .ID (upd H l (.lst (xs++[y])))
def v7:Um X "list.append" AZ:=by
 intro pins s σ H x vs v us Q I c d h;have(l,xs,y,rfl,rfl,a,hz,q):=h;cases c;have(u,rfl,f):=d.one;have(z,b,n,r,hl,e):=I.Gi a;show Sq F.slot_list_append #[_,e,rfl] F.entry_list_append (F.args_list_append_2 _ _) (PySem.list_append l b.toArray n u (by rw[lx];lia)) #[e,?_];show#[.ID,_,I.fK (its':=b++[u]) a e (by simp) (r.append (.cons f .nil)) ?_,rfl,q];rw[ko,ri];lia
def len_rep(xs:List α)(k:Nat):(mh k xs).flatten.length=k * xs.length:=by
 induction k with
 |zero=>simp
 |succ k a=>rw[Pc,PN,ko,a,Ŕ,Nat.add_comm]
end
section
set_option maxRecDepth 100000 in
end
section
end
end L2
namespace Uo
open PySem PySem.W PySem.Calls PyProof.Rows
def kC:∀(ns:List Int) (vs:List fx),WellAll P h vs (ns.map ř)->þ vs ns:=by
 intro ns;induction ns with
 |nil =>
  intro vs w;rw[US]at w;cases w;show .nil
 |cons n ns c =>
  intro vs w;rw[mu]at w;cases w with
  |cons a b =>
   cases a;show .cons _ _ (c _ b)
def v8{l:OpenLaw}(j:l.most=a8 n)
  (g:l.row.toRowW.claim.pre args=c4) (k:WellAll P h b args) :
  ∃a vs ns,b=[vu a]/\args=[WData.list (ns.map ř)]/\h.get? a=a8 {cls:=.type "list",data:=.seq vs.toArray}/\þ vs ns/\ns.length<=n:=by
 have m:WShape.hasAll [] args [.list .int]=c4:=(pre_splitW g).1;have i:l.pre.holds [] {args:=args}=c4:=(pre_splitW g).2;have(d,r,rfl,o,p):=hasAllW_cons m;obtain rfl:=hasAllW_nil p;have(xs,rfl,s):=hasW_list o;have(ns,rfl):=items_int s;have c:ns.length<=n:=by
  unfold OpenLaw.pre at i;have e:(WTm.not (.lt (.lit (.int (n:Int))) (.len (.arg 0)))).holds [] {args:=[.list (ns.map .int)]}=c4:=by
   have e:=(holds_andW i).1;rw[j]at e;show e
  have f:=condW_of e (w_not (w_lt w_lit (w_len_list (w_arg rfl))));rw[eH]at f;show Nat.le_of_not_lt λq=>?_;have t:(n:Int)<((ns.length:Nat):Int):=by lia
  first
   |(rw[ŷ t]at f;show absurd f (by decide))
   |(simp at f;lia)
 cases k with
 |cons u v =>
  cases v;cases u with
  |list ho w=>show#[_,_,ns,rfl,rfl,ho,kC ns _ w,c]
def v9(l:OpenLaw)(args:List WData):l.row.toRowW.claim.post args (.bool c4) args=c4 :=
 postW_of (r:=l.row.toRowW) (X:=(c4==c4))
  (show Ń [] (.bool c4) .bool=c4 by first|rfl|decide|simp[Ń,WShape.arms,WShape.armsAll])
  (show(WTm.eq .res (.lit (.bool c4))).value [] {args:=args,res:=a8 (.bool c4),after:=args}=a8 (.bool (c4==c4)) from w_eq_bool (w_res rfl) w_lit) rfl
def qm{l:OpenLaw}
  (s:l.most=a8 n) (t:d.params.defaults=[])
  (R3:∀(w:JM) (s₀ b:i4) (mg j:Str->Option fx) (fa:k9) (o:Obj) (k i c:fx) (a:k9) (vs:List fx) (ns:List Int),
   Ground q e [] u w s₀ mg j b.heap->v w b.heap ->
   b.heap.get? fa=a8 o->o.data=.func (docDef d.name d.params d.body d.scope k i c)->b.heap.CodeRec i d.name->mg d.name=a8 (.ref fa) ->
   b.heap.get? a=a8 {cls:=.type "list",data:=.seq vs.toArray}->þ vs ns->ns.length<=n->b.gens=#v[] ->
   SO (mn l.prog w) X8 (.call (.ref fa) #[[.ref a],[]]) (λr s'=>r=.ok (.ret (.bool c4))/\OldK b.heap s'.heap/\s'.os=b.os/\Ww s'.gens) b) :
  WalkO q e u v l.row.toRowW d [] (λf vs=>PySem.call f vs):=by
 intro w s₀ b mg j G Y fa o k i c x kV ho y z m A B args p as C Q T D X7;obtain rfl:x=.none:=Dflts.none m t;obtain rfl:kV=.none:=Dflts.noKw m;have(a,vs,ns,rfl,rfl,H,g,h):=v8 s C D;show enter_call (Ro (R3 w s₀ b mg j fa o k i c a vs ns G Y ho (fd_plain y) z A H g h B) λr s' I=>?_);have(rfl,J,L,N):=I;show#[.inl #[.bool c4,.bool c4,[],rfl,λ_=>rfl,.bool c4,v9 l _,λ_=>#[Ř,λ_ O=>(nomatch O)]],J,L,N]
section
end
end Uo
namespace L2
open PySem PySem.Spec PyProof.Rows
theorem nB:∀{vs:List fx}{ns:List Int},þ vs ns->Vals (ns.map V.int) vs
 |_,_,.nil=>.nil
 |_,_,.cons n t h=>.cons #[t,rfl] (nB h)
abbrev DW(H:Hp):Prop:=∀b,H b=cb\/∃o xs,H b=a8 (.J9 o (.lst xs))
def xT{K:PySem.W.Frag}
  (y:K.In c.heap) (A:c.heap.Ns nt mg) (f:c.heap.Ns VR B) (Q:∀x:Str,x≠"__name__"->B x=Mq x) (T:c.heap.NoLimit) (Y:c.gens=#v[])
  (l:c.heap.get? a=a8 {cls:=.type "list",data:=.seq vs.toArray}) (C:þ vs ns) (hl:ns.length<=eh) (hr:dI k X8)
  (F:∀base:Nq,K.In base->base.Ns nt mg->gQ P w K mg base CX k fa fd [x] sp) (Ph:∀(s:i4) (u:fx),Z1 s fd #[[u],[]] [(x,u)])
  (Jg:∀H:Hp,DW H->Jo K H a (ns.map V.int)->sp [.ref a] H (λv _=>v=.bl c4) λ_ _ _=>False)
  (RP:∀H e s',CX [] H c (λ_ _ _=>False) e s'->False) :
  SO (mn P w) X8 (.call (.ref fa) #[[.ref a],[]]) (λr s'=>r=.ok (.ret (.bool c4))/\OldK c.heap s'.heap/\s'.os=c.os/\Ww s'.gens) c:=by
 have D:=nB C;have RQ:=C.length;have g:∀H:Hp,DW H->Jo K H a (ns.map V.int)->JG P w H c.heap->(∀b,H b≠cb->b=a)->(H a≠cb->K.lookup a=cb) ->
   SO (mn P w) X8 (.call (.ref fa) #[[.ref a],[]]) (λr s'=>r=.ok (.ret (.bool c4))/\OldK c.heap s'.heap/\s'.os=c.os/\Ww s'.gens) c:=by
  intro H G hS I J hK;have kP:∀{b:k9} {o:Obj},c.heap.get? b=a8 o->H b=cb->(oq c.heap H).get? b=a8 o:=λe n=>xE e n;have MD:∀{b:k9} {o:Obj} {es:Array DictEntry} {ep:Nat},c.heap.get? b=a8 o->o.data=.dict es ep->H b=cb:=λ{b o es ep} e d=>by
   cases q:H b with
   |none=>rfl
   |some u =>
    have t:b=a:=J b (by rw[q];simp);subst t;rw[l]at e;cases e;have d':Data.seq vs.toArray _=Data.dict es ep:=d;cases d'
  have p:∀{b:k9} {m:Str->Option fx},c.heap.Ns b m->(oq c.heap H).Ns b m:=λ{b m} ⟨o,es,ep,e,d,r⟩=>#[o,es,ep,kP e (MD e d),d,r]
  have L:K.In (oq c.heap H):=λb o e=>kP (y b o e) (by
   cases q:H b with
   |none=>rfl
   |some u =>
    have t:b=a:=J b (by rw[q];simp);subst t;rw[hK (by rw[q];simp)]at e;cases e)
  have hM:Mod K mg (oq c.heap H):=#[L,p A,#[B,p f,Q],let ⟨mc,h1,h2⟩:=T;⟨mc,p h1,h2⟩]
  have e0:vY P w K mg (oq c.heap H) X8 [] c H:=#[rfl,hM,λb o e=>AF e,YY (vN _ _),trivial,λb f=>absurd (show b∈([]:List k9) from f) (by simp),I,.of_eq Y]
  show Ro ((F _ L (p A)).run X8 [] c H #[[.ref a],[]] [.ref a] [.ref a] _ _ hr e0 (Ph c (.ref a)) (.cons rfl .nil) (Jg H G hS)) λr s' h=>?_;cases r with
  |error e=>show(RP H e s' h).elim
  |ok fl =>
   cases fl with
   |ret u =>
    have(v,H',os,i,N,RS,r',q):=h;have q':v=.bl c4:=q;subst q';obtain rfl:u=U4 c4:=r';show#[rfl,OldK.of_keep λb o e=>?_,os,i];cases q:H b with
    |none=>show N.keep b o e q (by intro z;show absurd (show b∈([]:List k9) from z) (by simp)) (by simp)
    |some u =>
     rcases G b with z|⟨ob,xs,z⟩
     .rw[q]at z;cases z
     .have z2:=N.Jw b ob _ z;have(O,_):=I b _ z;have(e2,_):=RS b _ z2;rw[e]at O;cases O;show e2
   |_=>show Po h
 cases hk:K.lookup a with
 |some o =>
  have e:=y a o hk;rw[l]at e;cases e;show g (λ_=>cb) (λ_=>.inl rfl) (.inr #[_,vs.toArray,_,hk,rfl,rfl,rfl,by rw[lx,RQ];show hl,by simpa using D]) (λb u z=>by have j:(cb:Option HO)=a8 u:=z;cases j) (λb z=>absurd rfl z) λz=>absurd rfl z
 |none =>
  show g (λb=>if b=a then a8 (.J9 {cls:=.type "list",data:=.seq vs.toArray} (.lst (ns.map V.int))) else cb) (λb=>?_) (.inl (.inr #[{cls:=.type "list",data:=.seq vs.toArray},ŵ rfl])) (λb u z=>?_) (λb z=>?_) λ_=>hk
  .by_cases f:b=a
   .show .inr #[_,_,ŵ f]
   .show .inl (Ÿ f)
  .by_cases f:b=a
   .have j:=(ŵ f).symm.trans z;cases j;subst f;show#[l,by rw[eH];show hl,vs,_,D,l]
   .have j:=(Ÿ f).symm.trans z;cases j
  .by_cases f:b=a
   .show f
   .show absurd (Ÿ f) z
def A0{l:PySem.W.OpenLaw}{K:YJ->PySem.W.Frag}{CX:JM->MC}{sp:JM->Sp}
  (r:l.most=a8 n) (t:n<=eh) (y:d.params.defaults=[]) (z:dI k X8)
  (A:∀(w:JM) (h:Nq),B w h->(K w.params).In h)
  (F:∀(w:JM) (mg:Str->Option fx) (fa:k9) (h:Nq),(K w.params).In h->h.Ns nt mg->mg d.name=a8 (.ref fa) ->
   ∃j:T7,(∀(s:i4) (u:fx),Z1 s j #[[u],[]] [(x,u)]) /\
    ∀base:Nq,(K w.params).In base->base.Ns nt mg->gQ l.prog w (K w.params) mg base (CX w) k fa j [x] (sp w))
  (C:∀(w:JM) (H:Hp) (a:k9) (ns:List Int),ns.length<=n->DW H->Jo (K w.params) H a (ns.map V.int)->sp w [.ref a] H (λv _=>v=.bl c4) λ_ _ _=>False)
  (D:∀(w:JM) (H:Hp) (s:i4) (e:fx) (s':i4),CX w [] H s (λ_ _ _=>False) e s'->False) :
  PySem.W.WalkO q m XP B l.row.toRowW d [] (λf vs=>PySem.call f vs):=by
 show Uo.qm r y λw s₀ I mg mb fa o pm cd J a vs ns G Y ho hd JU L N i c O=>?_;have p:=A w _ Y;have(j,Q,hF):=F w mg fa _ p G.T.g L;show xT p G.T.g G.T.b G.T.builtins G.T.nolimit O N i (DD c t) z hF Q (λH hO hS=>C w H a ns c hO hS) λH e s'=>D w H I e s'
abbrev gv(s:PV):Arguments:=match s with
 |.FunctionDef _ a _ _ _ _ _ _ _ _=>a
 |_=>{posonlyargs:=[],args:=[],vararg:=cb,kwonlyargs:=[],kw_defaults:=[],kwarg:=cb,defaults:=[]}
abbrev cF(s:PV):List PV:=match s with
 |.FunctionDef _ _ b _ _ _ _ _ _ _=>b
 |_=>[]
abbrev aM(s:PV):OK:=match s with
 |.FunctionDef _ _ _ _ _ _ a _ _ _=>a
 |_=>{kind:=.function,names:=[],isGenerator:=dV,isCoroutine:=dV}
@[reducible]noncomputable def ND:MC:=λ_ _ _ _ _ _=>False
@[reducible]noncomputable def E0:XK:=λ_ _ _=>False
def Gj:Passes ND X E0:=λ_ _ _ _ _ _ _ h=>h.elim
structure M6(K:PySem.W.Frag)(x qual:Str)(st:PV)(f:k9)(fd:T7):Prop where
 ex:∃(oc:fx) (od:Option k9) (kV doc pm:fx) (an:Option k9) (Jp ct:fx) (M4:Array (Option fx)),
  fd=PySem.W.fnOf x qual (gv st) (cF st) (aM st) .none kV doc pm an Jp ct/\K.lookup f=a8 #[oc,od,.func fd,M4]/\PySem.W.codeIn K Jp qual=c4
 kp:PySem.W.keepIn K (.ref f)=c4
section
variable{P:z8}{w:JM}{K:PySem.W.Frag}{mg:Str->Option fx}{base:Nq}
def M6.ok{st:PV}(F:M6 K x a st f e)(S:dk N d (aM st))(c:∀vs H Q E,sp vs H Q E->vs.length=d.length)
  (g:∀(b:fx) (A:Od) (outer:List Env) (s:i4) (H:Hp) (vs:List V) (Q:VK) (E:XK),dI k (A.deeper (VC a (aM st) s.heap.objs.size f b))->sp vs H Q E ->
   ∃t,JJ (oz ND P w K mg base N a (aM st) f b A outer s H E).JO (cF st) t/\t {nx:=λ_ H'=>Q .ID H',rt:=Q} (start N vs) H):gQ P w K mg base ND (k+1) f e d sp:=by
 have(n,o,kV,i,p,r,b,ct,u,rfl,lk,j):=F.ex;show CQ lk j S c λA outer s H vs Q E l m=>?_;have(t,h,q):=g b A outer s H vs Q E l m;show#[t,h.JO,q]
def DX{st:PV}{kV b e d ct:fx}(l:K.lookup f=a8 #[h,i,.func (PySem.W.fnOf x a (gv st) (cF st) (aM st) .none kV b e g d ct),j])
  (c:PySem.W.codeIn K d a=c4) (k:PySem.W.keepIn K (.ref f)=c4):M6 K x a st f (PySem.W.fnOf x a (gv st) (cF st) (aM st) .none kV b e g d ct):=#[#[h,i,kV,b,e,g,d,ct,j,rfl,l,c],k]
end
def v_(h:n<=1000):n<eh:=Nat.lt_of_le_of_lt h (by decide)
section
end
abbrev iP(H H':Hp):Prop:=∀b o,H b=a8 o->H' b=a8 o
section
variable{κ:Type}[DecidableEq κ]
abbrev iQ(a:List (κ×V))(k:κ):Option V:=(a.find? λkv=>ei (kv.1=k)).map (·.2)
abbrev putK(a:List (κ×V))(k:κ)(v:V):List (κ×V) :=
 if (a.any λkv=>ei (kv.1=k))=c4 then a.map (λkv=>if kv.1=k then(kv.1,v) else kv) else a++[(k,v)]
def fL{p:κ×V}{k:κ}(e:p.1=k):iQ (p::r) k=a8 p.2:=by simp[iQ,Rf,e]
def fM{p:κ×V}{k:κ}(e:¬p.1=k):iQ (p::r) k=iQ r k:=by simp[iQ,Rf,e]
theorem k8(k:κ):∀a:List (κ×V),(a.any λkv=>ei (kv.1=k))=(iQ a k).isSome
 |[]=>rfl
 |p::r=>by
  rw[Yz];by_cases e:p.1=k
  .simp only[fL e,ŷ e,Bool.true_or,Ï]
  .rw[fM e,Ŷ e,Bool.false_or];show k8 k r
def j_(a:List (κ×V))(k:κ)(v:V):(putK a k v).length<=a.length+1:=by
 unfold putK;split
 .rw[eH];lia
 .rw[ko,lg,Sv];lia
def vM.eE(r:vM o u):o.isSome=u.isSome:=by
 cases o with
 |none=>cases u with
  |none=>rfl
  |some _=>show(show False from r).elim
 |some _=>cases u with
  |none=>show(show False from r).elim
  |some _=>rfl
def KV.val(r:KV f vs)(k:κ):vM (iQ f k) (ZZ vs k):=by
 unfold KV at r;induction r with
 |nil=>show YB
 |@cons p q j a h t g =>
  have(d,i):=h;by_cases e:p.1=k
  .have c:q.1=k:=d.symm.trans e;have b:ZZ (q::a) k=a8 q.2:=by simp[ZZ,Rf,c]
   rw[fL e,b];show i
  .have c:¬q.1=k:=λz=>e (d.trans z);have b:ZZ (q::a) k=ZZ a k:=by simp[ZZ,Rf,c]
   rw[fM e,b];show g
def KV.any(r:KV a vs)(k:κ):(a.any λkv=>ei (kv.1=k))=vs.any λkv=>ei (kv.1=k):=by
 unfold KV at r;induction r with
 |nil=>rfl
 |cons h t b=>rw[Yz,Yz,b,h.1]
def KV.DY(r:KV b vs)(k:κ)(c:RelV y u):
  KV (b.map λkv=>if kv.1=k then(kv.1,y) else kv) (vs.map λkv=>if kv.1=k then(kv.1,u) else kv):=by
 unfold KV at r ⊢;induction r with
 |nil=>show .nil
 |@cons p q g i h t d =>
  rw[mu,mu];show .cons ?_ d;have(a,f):=h;by_cases e:p.1=k
  .rw[ŵ e,ŵ (a.symm.trans e)];show#[a,c]
  .rw[Ÿ e,Ÿ (λz=>e (a.trans z))];show#[a,f]
def KV.put(r:KV b vs)(k:κ)(a:RelV y u):KV (putK b k y) (stored vs k u):=by
 unfold putK stored;rw[r.any k];by_cases e:(vs.any λkv=>ei (kv.1=k))=c4
 .rw[ŵ e,ŵ e];show r.DY k a
 .rw[Ÿ e,Ÿ e];show Paired.snoc r #[rfl,a]
def KV.length(r:KV a vs):a.length=vs.length:=Paired.length r
end
def uh(r:RelV (kV k) u):(bV P w).is k u=c4:=by
 cases k with
 |inl i=>have(t,e):=(show ∃t,u=ö i t from r);subst e;show qg P w i t
 |inr x=>have(t,e):=(show ∃t,u=K_ x t from r);subst e;show qh P w x t
theorem nE:∀{a:List Key}{us:List fx},Vals (a.map kV) us->ItemsAre (bV P w) a us
 |[],_,r=>by rw[US]at r;cases r;show .nil
 |k::a,_,r=>by
  rw[mu]at r;cases r with
  |cons h t=>show .cons (uh h) (nE t)
@[reducible]noncomputable def KT(H:Hp):List (List Key×V)->List (List Key×k9×fx)->Prop:=Paired λp q=>p.1=q.1/\H q.2.1=a8 (.tup (p.1.map kV))/\RelV p.2 q.2.2
def KT.val(r:KT H f xs)(k:List Key):vM (iQ f k) ((Y3 xs k).map (·.2)):=by
 induction r with
 |nil=>show YB
 |@cons p q j a h t g =>
  have(d,_,i):=h;by_cases e:p.1=k
  .have c:q.1=k:=d.symm.trans e;have b:Y3 (q::a) k=a8 q.2:=by simp[Y3,Rf,c]
   rw[fL e,b];show i
  .have c:¬q.1=k:=λz=>e (d.trans z);have b:Y3 (q::a) k=Y3 a k:=by simp[Y3,Rf,c]
   rw[fM e,b];show g
def KT.DY(r:KT H c xs)(k:List Key)(d:RelV y u):
  KT H (c.map λkv=>if kv.1=k then(kv.1,y) else kv) (xs.map (putAt k u)):=by
 induction r with
 |nil=>show .nil
 |@cons p q i j h t f =>
  rw[mu,mu];show .cons ?_ f;have(a,b,g):=h;unfold putAt;by_cases e:p.1=k
  .rw[ŵ e,ŵ (a.symm.trans e)];show#[a,b,d]
  .rw[Ÿ e,Ÿ (λz=>e (a.trans z))];show#[a,b,g]
def KT.put(r:KT H a xs)(k:List Key)(d:H b=a8 (.tup (k.map kV)))(c:RelV y u):
  KT H (putK a k y) (storedH xs k b u):=by
 have e:(a.any λkv=>ei (kv.1=k))=(Y3 xs k).isSome:=by
  rw[k8,(r.val k).eE,VD]
 unfold putK storedH;rw[e];by_cases q:(Y3 xs k).isSome=c4
 .rw[ŵ q,ŵ q];show r.DY k c
 .rw[Ÿ q,Ÿ q];show Paired.snoc r #[rfl,d,c]
def KT.keeps(r:KT H c xs)(d:∀b a,H b=a8 (.tup a)->H' b=a8 (.tup a)):KT H' c xs :=
 Paired.Dx r λ_ _ z=>#[z.1,d _ _ z.2.1,z.2.2]
section
def CT(ok:JG P w H h)(e:Rd H a u):bW P w H h a u:=e.ok ok
def xU(ok:JG P w H h)(e:Rd H a (.dK b)):b.length<=eh/\(a==NA)=dV/\∃vs,KV b vs/\h.DictOf (bV P w) a vs :=
 show bW P w H h a (.dK b) from CT ok e
def Gk(ok:JG P w H h)(e:H a=a8 (.dK b)):b.length<=eh/\(a==NA)=dV/\∃vs,KV b vs/\h.DictOf (bV P w) a vs:=xU ok (.inl e)
def oG(ok:JG P w H h)(e:H a=a8 (.tup (b.map kV))):(Zz (bV P w)).is h b a:=by
 have(_,c,r,o,d,f,n,g):=(show bW P w H h a (.tup (b.map kV)) from ok a _ e)
 show#[o,c.toArray,n,d,f,g,by simpa using nE r]
def xV(ok:JG P w H h)(e:Rd H a (.dT b)):b.length<=eh/\(a==NA)=dV /\
  ∃xs,KT H b xs/\h.DictOfH (Zz (bV P w)) a xs:=by
 have(z,y,xs,r,o,es,ep,d,f,g,i,j):=(show bW P w H h a (.dT b) from CT ok e)
 show#[z,y,xs,r,o,es,ep,d,f,g,i,λx hx=>?_,j];have all:∀{l:List (List Key×V)} {m:List (List Key×k9×fx)},KT H l m->∀x∈m,(Zz (bV P w)).is h x.1 x.2.1:=by
  intro l m q;induction q with
  |nil=>intro x hx;show nomatch hx
  |@cons p q n s c t k =>
   intro x hx;rcases fz.mp hx with e|hx
   .subst e;show oG ok (by rw[<-c.1];show c.2.1)
   .show k x hx
 show all r x hx
def Gm(ok:JG P w H h)(e:H a=a8 (.dT b)):b.length<=eh/\(a==NA)=dV /\
  ∃xs,KT H b xs/\h.DictOfH (Zz (bV P w)) a xs:=xV ok (.inl e)
end
abbrev wa(H:Hp)(a:k9)(y:V)(r:Option V):Prop :=
 (∃c k,Rd H a (.dK c)/\y=kV k/\r=iQ c k)\/∃c k b,Rd H a (.dT c)/\y=.ref b/\H b=a8 (.tup (k.map kV))/\r=iQ c k
abbrev xW(H:Hp)(a:k9)(y v:V)(H':Hp):Prop :=
 (∃c k,H a=a8 (.dK c)/\y=kV k/\c.length<eh/\H'=upd H a (.dK (putK c k v))) \/
 ∃c k b,H a=a8 (.dT c)/\y=.ref b/\H b=a8 (.tup (k.map kV))/\c.length<eh/\H'=upd H a (.dT (putK c k v))
def wa.k{H:Hp}{a:k9}{b:List (Key×V)}{k:Key}(e:H a=a8 (.dK b)):wa H a (kV k) (iQ b k):=.inl #[b,k,.inl e,rfl,rfl]
def xW.k{H:Hp}{a:k9}{b:List (Key×V)}{k:Key}{v:V}(e:H a=a8 (.dK b))(hl:b.length<eh):xW H a (kV k) v (upd H a (.dK (putK b k v))):=.inl #[b,k,e,rfl,hl,rfl]
section
def Inv.big(I:Inv X pins σ H s):NA<s.heap.objs.size:=by
 have h:nt<s.heap.objs.size:=(I.mod.glob.keeps I.bk).lt;show W6 (by decide) h
def Ic(j:A.units+1<K')(I:Inv X pins σ H s)(g:wa H a y o)(i:RelV y u)(h:∀s',Inv X pins σ H s'->Q (.bool o.isSome) s'):
  js (mn X.prog X.w) A (MF .In u (.ref a)) Q E s:=by
 rcases g with⟨m,k,e,d,l⟩|⟨m,k,b,e,d,n,l⟩
 .subst d;have(z,f,vs,c,dd):=xU I.IE e;show wpAny_in_of (uh i) f dd.mapOf ?_;rw[<-(c.val k).eE,<-l];show h _ (I.tok _)
 .subst d;cases(show u=vu b from i);have(z,f,xs,c,dd):=xV I.IE e;show wpAny_in_heap (Y' j) (oG I.IE n) f dd ?_;have q:=(c.val k).eE;rw[VD]at q;rw[<-q,<-l];show h _ (I.tok _)
def A4(j:A.units+1<K')(I:Inv X pins σ H s)(g:wa H a y o)(i:RelV y u)(h:∀s',Inv X pins σ H s'->Q (.bool (!o.isSome)) s'):
  js (mn X.prog X.w) A (MF .NotIn u (.ref a)) Q E s:=by
 rcases g with⟨m,k,e,d,l⟩|⟨m,k,b,e,d,n,l⟩
 .subst d;have(z,f,vs,c,dd):=xU I.IE e;show wpAny_notIn_of (uh i) f dd.mapOf ?_;rw[<-(c.val k).eE,<-l];show h _ (I.tok _)
 .subst d;cases(show u=vu b from i);have(z,f,xs,c,dd):=xV I.IE e;show Œ (Y' j) (oG I.IE n) f dd ?_;have q:=(c.val k).eE;rw[VD]at q;rw[<-q,<-l];show h _ (I.tok _)
def ui(I:Inv X pins σ H s)(d:O3 (H a))(hs:Mx a s.heap h')(f:∃q,h'.get? a=a8 q)(new:bW X.prog X.w (upd H a c) h' a c):
  Inv X pins σ (upd H a c) {s with heap:=h',toks:=t' } :=
 I.write (x:=a) (e:=a) d (.inl rfl) (λb q g z=>(hs.2 b g).trans z) f new
def DZ(z:c.length<=eh)(d:(a==NA)=dV)(b:KV c vs)(dd:h'.DictOf (bV P w) a vs):
  bW P w H' h' a (.dK c):=#[z,d,vs,b,dd]
def wd(C:A.units+1<K')(I:Inv X pins σ H s)(g:xW H a y v H')(p:RelV y u)(t:RelV v r)(h:∀s',Inv X pins σ H' s'->Q () s'):
  js (mn X.prog X.w) A (ó (.ref a) u r) Q E s:=by
 rcases g with⟨f,k,e,m,l,n⟩|⟨f,k,b,e,m,x,l,n⟩
 .subst m n;have(z,o,vs,d,dd):=Gk I.IE e;have hz:vs.length<=eh:=by rw[<-d.length];show z
  have hl:(putK f k v).length<=eh:=by have:=j_ f k v;lia
  show wpAny_setItem_pairs (hsz:=hz) (uh p) dd λh' i hs=>h _ ?_;have D:∃q,h'.get? a=a8 q:=let ⟨q,_,_,j,_⟩:=i;⟨q,j⟩;show ui I (by rw[e];show YB) hs D (DZ hl o (d.put k t) i)
 .subst m n;cases(show u=vu b from p);have(z,o,xs,d,dd):=Gm I.IE e;have hz:xs.length<=eh:=by rw[<-Paired.length d];show z
  have hl:(putK f k v).length<=eh:=by have:=j_ f k v;lia
  show Ĭ (hsz:=hz) (Y' C) (oG I.IE x) dd λh' i hs=>h _ ?_;have(q,es,ep,j,G,J,L,_,N):=i;show ui I (by rw[e];show YB) hs #[q,j] #[hl,o,_,(d.put k x t).keeps λc O B=>?_,q,es,ep,j,G,J,L,N];rw[aC (xD B e (λz=>nomatch z))];show B
end
section
end
section
end
def xX(h:Nq)(a:NA<h.objs.size):bW P w H (h.push {cls:=.type "dict",data:=.dict #v[]}) h.objs.size (.dK []) :=
 #[pb _,Ž.mpr (Mk (sg a)),[],.nil,ű h]
abbrev D0:TE:=λ_ H Q=>∀p,H p=cb->Q (.ref p) (upd H p (.dK []))
section
def xY:PE X (.Dict [] [] pos) D0:=λpins s σ H Q I h =>
 ŋ #[.ref s.heap.objs.size,_,I.laid (a:=s.heap.objs.size) (o:=.dK []) (t':=s.toks) (λ_ _ q=>ek _ q) (ke _) (xX s.heap I.big),rfl,h _ (I.IE.fresh (ke _))]
end
structure M1(X:Cx)(o:vr)(m:Str)(apos:Pos)(e:vr)(IC:Pos):Prop where
 base:WT o m X.env (MM o X.env)=MM o X.env
 Lo:((NZ IC (pa [e] X.env)).all (λx=>!x.1)&&(YI IC (U2 [] X.env)).all (λx=>x.1.isSome)
  && ei (([e]:List vr).length+([]:List SR).length+(if ([]:List SR).isEmpty then 0 else 1)<30))=c4
 line:(apos.endLine==IC.line)=c4
 trees:NZ IC (pa [e] X.env)=[(dV,MM e X.env)]
structure M2(X:Cx)(o:vr)(m:Str)(apos:Pos)(e f:vr)(IC:Pos):Prop where
 base:WT o m X.env (MM o X.env)=MM o X.env
 Lo:((NZ IC (pa [e,f] X.env)).all (λx=>!x.1)&&(YI IC (U2 [] X.env)).all (λx=>x.1.isSome)
  && ei (([e,f]:List vr).length+([]:List SR).length+(if ([]:List SR).isEmpty then 0 else 1)<30))=c4
 line:(apos.endLine==IC.line)=c4
 trees:NZ IC (pa [e,f] X.env)=[(dV,MM e X.env),(dV,MM f X.env)]
section
end
section
end
section
end
section
end
end L2
namespace IQ
open PySem PySem.Builtin.Str PySem.StrLaws
abbrev low(c:Nat):Bool:=ei (97<=c)&&ei (c<=122)
abbrev cm(l:List Nat):Bool:=ei (1<=l.length)&&ei (l.length<=8)&&l.all low
def bC(l:List Nat):cm l=c4↔1<=l.length/\l.length<=8/\∀c∈l,97<=c/\c<=122:=by
 simp[cm,low,sh,and_assoc]
def iR(h:cm l=c4):47∉l:=λm=>by
 have:=((bC l).mp h).2.2 47 m;lia
def cG{x y:Str}(h:x.cps.toList=y.cps.toList):x=y:=by
 cases x;cases y;congr
 show Y0.mp h
def rW(x:Str)(b:x.cps.toList=(gA 26).map (97+·))(c:Nat):(!(Jv x #[#v[c]] 0 x.length 1).isEmpty)=low c:=by
 rw[found_one,b];simp only[low,oa,w6];by_cases h:97<=c/\c<=122
 .have:∃a,a<26/\97+a=c:=#[c - 97,⋯,⋯]
  simp[this,h.1,h.2]
 .have:¬∃a,a<26/\97+a=c:=λ⟨a,d,e⟩=>h #[⋯,⋯];simp[this];lia
def jF(h:c∉x.cps.toList):tx x #[#v[c]]=(x,N0,N0):=by
 have e:=found_one x c;rw[Ŷ h]at e;unfold tx;cases q:Jv x ⟨#v[c]⟩ 0 x.length 1 with
 |nil=>rfl
 |cons i r=>rw[q]at e;simp at e
def oH(x:Str)(c i:Nat):At x #[#v[c]] x.length i↔x.cps.toList[i]?=a8 c:=subAt_one x c i
def xZ(h:x.cps.toList=a++c::b)(j:c∉a)(d:Nat)(hl:1<=d):∃r,Jv x #[#v[c]] 0 x.length d=a.length::r:=by
 have f:x.cps.toList[a.length]?=a8 c:=by rw[h];simp
 rcases occ_head x ⟨#v[c]⟩ d hl with⟨_,k⟩|⟨i,r,e,l,m⟩
 .show absurd ((oH x c a.length).mpr f) (k _)
 .have g:=(oH x c i).mp l;have:i=a.length:=by
   rcases č i a.length with z|z|z
   .exfalso
    rw[h,C0 z]at g;show j (LR g)
   .show z
   .show absurd ((oH x c a.length).mpr f) (m _ z)
  subst this;show#[r,e]
def kH(h:x.cps.toList=a++c::b)(d:c∉a):tx x #[#v[c]]=(⟨a.toArray⟩,⟨#v[c]⟩,⟨b.toArray⟩):=by
 have(r,e):=xZ h d 1 (ke _);unfold tx;rw[e];have f:(⟨#v[c]⟩:Str).length=1:=rfl;have g:x.length=a.length+1+b.length:=by
  have:=Ż OC h;simp[T6]at this ⊢;lia
 show VY ?_ (VY rfl ?_)
 .apply cG;rw[Û,h];simp
 .apply cG;change(strSub x (a.length+(⟨#v[c]⟩:Str).length) x.length).cps.toList=_;rw[Û,h,f,g];simp
def ig(h:c∉x.cps.toList):tA x #[#v[c]]=[x]:=by
 unfold tA;split
 .rfl
 .rw[ŵ];rcases occ_head x ⟨#v[c]⟩ (x.length+1) ⋯ with⟨e,_⟩|⟨i,r,e,a,_⟩
  .rw[e];rfl
  .show absurd (LR ((oH x c i).mp a)) h
def qo(c:Nat)(h:c<256)(x:Str):¬(PySem.Builtin.Str.strKind x<PySem.Builtin.Str.strKind #[#v[c]]):=by
 have e:PySem.Builtin.Str.strKind ⟨#v[c]⟩=1:=by simp[PySem.Builtin.Str.strKind,h]
 rw[e];unfold PySem.Builtin.Str.strKind;split
 .lia
 .split<;>lia
def k_(h:x.cps.toList=a++c::b)(d:c∉a)(f:c<256):∃r,tA x #[#v[c]]=⟨a.toArray⟩::r:=by
 have(r,e):=xZ h d (x.length+1) ⋯;have g:(⟨#v[c]⟩:Str).length=1:=rfl;have k:x.length=a.length+1+b.length:=by
  have:=Ż OC h;simp[T6]at this ⊢;lia
 unfold tA;rw[Ÿ (by
  have i:¬(x.length<(⟨#v[c]⟩:Str).length):=by rw[g];lia
  have j:=qo c f x;simp[i,j]),Ÿ (by rw[e];simp),partsBetween_eq,e]
 show#[_,Ż (·::_) ?_];apply cG;rw[Û,h];simp
abbrev de(i:Int):Str:=W3 (ş i)
abbrev CU:Str:=#[#v[47]]
def app_list(x y:Str):(x++y).cps.toList=x.cps.toList++y.cps.toList:=by
 change(x.cps++y.cps).toList=_;simp
def oI(h:a++c::b=p++c::q)(d:c∉a)(e:c∉p):a=p/\b=q:=by
 induction a generalizing p with
 |nil =>
  cases p with
  |nil=>simp at h;show#[rfl,h]
  |cons z p=>simp at h;show absurd (by rw[h.1];show hY) e
 |cons y a f =>
  cases p with
  |nil=>simp at h;show absurd (by rw[h.1];show hY) d
  |cons z p =>
   simp at h;have(g,i):=f h.2 (λm=>d (et _ m)) (λm=>e (et _ m));show#[by rw[h.1,g],i]
def dR(h:c∈l):∃a b,l=a++c::b/\c∉a:=by
 induction l with
 |nil=>cases h
 |cons x l f =>
  by_cases d:x=c
  .subst d;show#[[],l,rfl,by simp]
  .have g:c∈l:=by
    rcases fz.mp h with e|e
    .show absurd e.symm d
    .show e
   have(a,b,e,i):=f g;show#[x::a,b,by rw[e];rfl,λm=>?_];rcases fz.mp m with z|z
   .show d z.symm
   .show i z
end IQ
namespace L2
open PySem PySem.Spec PyProof.Rows
abbrev bp(env:Env):List (Str×O5)->List (Str×k9)->List (Str×k9)
 |[],b=>b
 |(n,k)::r,b=>bp env r (if k==.free then(match env.cells.lookup n with|some a=>(n,a)::b|none=>b) else b)
def eF(h:∀y∈scope.names,y.2=.free->∃a,env.cells.lookup y.1=a8 a):closureFor scope env=pure (bp env scope.names []):=by
 unfold closureFor;generalize scope.names=names at h
 suffices H:∀b,(ŉ names b (λ(x:Str×O5) (r:List (Str×k9))=>if (x.2==Nb)=c4 then do let a <-cellOf env x.1;pure (RU ((x.1,a)::r)) else pure (RU r)):Sem (List (Str×k9)))=pure (bp env names b) by
  have:=H [];show Ż (λ(m:Sem (List (Str×k9)))=>m >>= pure) this
 induction names with
 |nil=>intro b;rfl
 |cons y r d =>
  intro b;have(n,k):=y;rw[List.forIn_cons];have c:=d λy e=>h y (et _ e);by_cases hk:(k==Nb)=c4
  .have(a,f):=h (n,k) hY (by simpa using hk);have g:env.cells.lookup n=a8 a:=f;simp only[hk,ž,cellOf,g,bp];show c _
  .simp only[hk,ź,bp];show c _
theorem eY:∀(names:List (Str×O5)) (b:List (Str×k9)),(∀n c,b.lookup n=a8 c->env.cells.lookup n=a8 c)->∀n c,(bp env names b).lookup n=a8 c->env.cells.lookup n=a8 c
 |[],_,h=>h
 |(m,k)::r,b,h=>by
  unfold bp;show eY r _ λn c e=>?_;by_cases hk:(k==Nb)=c4
  .rw[ŵ hk]at e;cases q:env.cells.lookup m with
   |none=>rw[q]at e;show h n c e
   |some a =>
    rw[q]at e;simp only[w4]at e;cases d:n==m with
    |true =>
     rw[d]at e;have f:n=m:=by simpa using d
     subst f;simp only at e;rw[q];show e
    |false=>rw[d]at e;show h n c e
  .rw[Ÿ hk]at e;show h n c e
theorem ka(d:env.cells.lookup n=a8 a):∀(names:List (Str×O5)) (c:List (Str×k9)),c.lookup n=a8 a->(bp env names c).lookup n=a8 a
 |[],_,h=>h
 |(m,k)::r,c,h=>by
  unfold bp;show ka d r _ ?_;by_cases hk:(k==Nb)=c4
  .rw[ŵ hk];cases q:env.cells.lookup m with
   |none=>show h
   |some b =>
    simp only[w4];cases e:n==m with
    |true =>
     have f:n=m:=by simpa using e
     subst f;rw[d]at q;cases q;rfl
    |false=>show h
  .rw[Ÿ hk];show h
theorem ij(b:env.cells.lookup n=a8 a):∀(names:List (Str×O5)) (c:List (Str×k9)),(n,Nb)∈names->(bp env names c).lookup n=a8 a
 |[],_,h=>by cases h
 |(m,k)::r,c,h=>by
  unfold bp;rcases fz.mp h with e|e
  .cases e;show ka b r _ ?_;rw[ŵ (by decide),b];simp[w4]
  .show ij b r _ e
theorem bQ{env:Env}:∀{names:List (Str×O5)}{x:Str}{k:O5},
  (names.map λ(n,k)=>if (k==Nb&&env.scope.kind==.function&&env.kindOf n==a8 .cell) then(n,O4) else(n,k)).lookup x=a8 k ->
  names.lookup x=a8 k\/(k=.cell/\names.lookup x=a8 .free)
 |[],_,_,h=>by simp at h
 |(n,k0)::r,x,k,h=>by
  have e:=@bQ env r x k;rw[mu]at h;by_cases b:(k0==Nb&&env.scope.kind==.function&&env.kindOf n==a8 .cell)=c4
  .simp only[ŵ b,w4]at h;cases a:x==n with
   |true =>
    rw[a]at h;have f:k0=.free:=by
     have:=(Na.mp (Na.mp b).1).1;simpa using this
    show .inr #[by simpa using h.symm,by simp[w4,a,f]]
   |false =>
    rw[a]at h;rcases e h with z|⟨c,d⟩
    .show .inl (by simp[w4,a,z])
    .show .inr #[c,by simp[w4,a,d]]
  .simp only[Ÿ b,w4]at h;cases a:x==n with
   |true=>rw[a]at h;show .inl (by simpa[w4,a] using h)
   |false =>
    rw[a]at h;rcases e h with z|⟨c,d⟩
    .show .inl (by simp[w4,a,z])
    .show .inr #[c,by simp[w4,a,d]]
theorem kb:∀(names:List (Str×O5)) (b:List (Str×k9)),(bp env names b).lookup x=a8 c->(x,Nb)∈names\/b.lookup x=a8 c
 |[],_,h=>.inr h
 |(m,k)::r,b,h=>by
  unfold bp at h;rcases kb r _ h with z|z
  .show .inl (et _ z)
  .by_cases hk:(k==Nb)=c4
   .rw[ŵ hk]at z;cases q:env.cells.lookup m with
    |none=>rw[q]at z;show .inr z
    |some a =>
     rw[q]at z;simp only[w4]at z;cases d:x==m with
     |true =>
      have e:x=m:=by simpa using d
      have f:k=.free:=by simpa using hk
      subst e f;show .inl hY
     |false=>rw[d]at z;show .inr z
   .rw[Ÿ hk]at z;show .inr z
theorem iS:∀(names:List (Str×O5)) (n:Nat) (a:List (Str×k9)),(OJ n names a).lookup x=a8 c->((x,O4)∈names/\@É Nat _ n c)\/a.lookup x=a8 c
 |[],_,_,h=>.inr h
 |(y,k)::r,n,a,h=>by
  unfold OJ at h;by_cases hk:(k==O4)=c4
  .rw[ŵ hk]at h;have f:k=.cell:=by simpa using hk
   subst f;rcases iS r (n+1) _ h with⟨b,d⟩|z
   .show .inl #[et _ b,Nat.le_of_succ_le d]
   .simp only[w4]at z;cases e:x==y with
    |true =>
     rw[e]at z;have g:x=y:=by simpa using e
     subst g;cases z;show .inl #[hY,ke _]
    |false=>rw[e]at z;show .inr z
  .rw[Ÿ hk]at h;rcases iS r n a h with⟨b,d⟩|z
   .show .inl #[et _ b,d]
   .show .inr z
theorem oJ:∀(names:List (Str×O5)) (n:Nat) (a:List (Str×k9)),(x,O4)∉names->(OJ n names a).lookup x=a.lookup x
 |[],_,_,_=>rfl
 |(y,k)::r,n,a,h=>by
  unfold OJ;have b:(x,O4)∉r:=λz=>h (et _ z);by_cases hk:(k==O4)=c4
  .rw[ŵ hk,oJ r _ _ b];have c:k=.cell:=by simpa using hk
   subst c;simp only[w4];cases d:x==y with
   |true =>
    have e:x=y:=by simpa using d
    subst e;show absurd hY h
   |false=>rfl
  .rw[Ÿ hk,oJ r _ _ b]
theorem rX:∀(names:List (Str×O5)) (n:Nat) (a:List (Str×k9)),(∀(z:Str) (d:k9),a.lookup z=a8 d->@Qn Nat _ d n)->(∀(u v:Str) (d:k9),a.lookup u=a8 d->a.lookup v=a8 d->u=v) ->
  (OJ n names a).lookup x=a8 c->(OJ n names a).lookup y=a8 c->x=y
 |[],_,_,_,g,b,f=>g x y c b f
 |(h,k)::r,n,a,hl,g,b,f=>by
  unfold OJ at b f;by_cases hk:(k==O4)=c4
  .rw[ŵ hk]at b f;have lk:∀(z:Str) (d:k9),List.lookup z ((h,(n:k9))::a)=a8 d->(z=h/\d=n)\/a.lookup z=a8 d:=λz d e=>by
    simp only[w4]at e;cases i:z==h with
    |true=>rw[i]at e;cases e;show .inl #[by simpa using i,rfl]
    |false=>rw[i]at e;show .inr e
   show rX r (n+1) _ (λz d e=>?_) (λu v d j l=>?_) b f
   .rcases lk z d e with⟨_,q⟩|q
    .rw[q];show Uc _
    .show VI (hl z d q)
   .rcases lk u d j with⟨m,o⟩|q<;>rcases lk v d l with⟨p1,p2⟩|p
    .rw[m,p1]
    .rw[o]at p;show absurd (hl v n p) (Mr _)
    .rw[p2]at q;show absurd (hl u n q) (Mr _)
    .show g u v d q p
  .rw[Ÿ hk]at b f;show rX r n a hl g b f
theorem kI:∀(names:List (Str×O5)) (h:Nq) (a:List (Str×k9)),(OJ h.objs.size names a).lookup x=a8 c->(Qx h names).IsCell c cb\/a.lookup x=a8 c
 |[],_,_,e=>.inr e
 |(y,k)::r,h,a,e=>by
  unfold OJ at e;unfold Qx;by_cases hk:(k==O4)=c4
  .rw[ŵ hk]at e ⊢;have hs:h.objs.size+1=(h.push {cls:=.type "cell",data:=.cell cb}).objs.size:=by rw[SS]
   rw[hs]at e;rcases kI r _ _ e with z|z
   .show .inl z
   .simp only[w4]at z;cases b:x==y with
    |true =>
     rw[b]at z;cases z;show .inl #[_,VB r _ _ _ (l' _ rfl),rfl]
    |false=>rw[b]at z;show .inr z
  .rw[Ÿ hk]at e ⊢;show kI r h a e
abbrev Ke(X:Cx)(scope:OK)(C:k9):List (Str×k9):=OJ (C+1) scope.names (bp X.env scope.names [])
abbrev Jr(X:Cx)(N:List Str)(scope:OK)(C:k9)(s:i4)(H:Hp)(ex:List k9):Cx where
 prog:=X.prog
 w:=X.w
 K:=X.K
 mg:=X.mg
 base:=X.base
 A:=X.A
 N:=N
 s₀:=s
 H₀:=H
 env:=RH scope (Ke X scope C) C X.env
 outer:=X.stack
 stack:=X.stack
 ex:=ex
 fn:=λx=>ei (scope.names.lookup x=a8 .cell)
 calm:=X.calm
 pn:=[]
 xe:=λ_ _=>False
abbrev d0(D N:List Str):Prop:=D.length=N.length/\∀(i:Nat) (y:Str),D[i]?=a8 y->N[i]?=a8 y\/y="."\/y=".."
def d0.refl(N:List Str):d0 N N:=#[rfl,λ_ _ h=>.inl h]
def d0.set{D N:List Str}(h:d0 D N)(j:Nat){m:Str}(b:m="."\/m=".."):d0 (D.set j m) N:=by
 show#[by rw[Ġ];show h.1,λi y e=>?_];by_cases a:j=i
 .subst a;rw[List.getElem?_set,ŵ rfl]at e;split at e
  .cases e;show .inr b
  .cases e
 .rw[ro a]at e;show h.2 i y e
structure cA(X:Cx)(N own:List Str)(scope:OK):Prop where
 kind:scope.kind=.function
 uq:∀y∈scope.names,scope.names.lookup y.1=a8 y.2
 cl:∀y∈scope.names,y.2=.cell->y.1∈own
 nd:N.Nodup
 pre:N.take own.length=own
 loc:∀y∈scope.names,y.2=.local->y.1∈own\/y.1=".0"
 VU:(".0":Str)∉N
 tail:d0 (N.drop own.length) X.N
 free:∀y∈scope.names,y.2=.free->X.env.scope.names.lookup y.1=a8 .cell\/X.env.scope.names.lookup y.1=a8 .free
 dot:∀y∈scope.names,y.1≠"."/\y.1≠".."
def mem_lookup{names:List (Str×O5)}(h:names.lookup x=a8 k):(x,k)∈names:=PySem.mem_of_lookup h
def cA.names(S:cA X N a scope):∀y∈scope.names,y.2=.local->scope.names.lookup y.1=a8 .local:=λy b e=>e▸S.uq y b
def cA.no(S:cA X N a scope)(h:scope.names.lookup x=a8 .free):(x,O4)∉scope.names:=λz=>by
 have:=S.uq _ z;rw[h]at this;cases this
def cA.cells(S:cA X N b scope)(ok:X.Ok):∀y∈scope.names,y.2=.free->∃a,X.env.cells.lookup y.1=a8 a:=λy c d=>by
 rcases S.free y c d with z|z
 .show ok.has y.1 (.inl z)
 .show ok.has y.1 (.inr z)
def x4(S:cA X N f scope)(I:Inv X pins σ H s)
  (B:s.heap.objs.size<=C) (K1:∀x c,(Ke X scope C).lookup x=a8 c->s4.heap.IsCell c cb\/(bp X.env scope.names []).lookup x=a8 c) (KS:s4.os=s.os) (hg:s4.gens=s.gens) (keep:∀b o,s.heap.get? b=a8 o->s4.heap.get? b=a8 o) (ns:∃m,s4.heap.Ns C m)
  (g:∀b∈ex,jA X pins H b/\b<s.heap.objs.size):Inv (Jr X N scope C s H ex) [] (mh f.length cb++σ) H s4:=by
 have(m0,NF):=ns;have sub:=eY (env:=X.env) scope.names [] (λn c e=>by simp at e);have VV:∀(x:Str) (c:k9),(bp X.env scope.names []).lookup x=a8 c->c<s.heap.objs.size:=λx c e=>by
  have(v,o,ho,_):=I.cell x c (sub x c e);show nc ho
 have J:∀(x:Str) (c:k9),(Ke X scope C).lookup x=a8 c->C<c\/(bp X.env scope.names []).lookup x=a8 c:=λx c e=>(iS _ _ _ e).imp (λz=>z.2) id;have T:∀b∈ex,b<C:=λb t=>qw (g b t).2 B;have tl:f.length<=N.length:=by have:=Ż OC S.pre;rw[ve]at this;lia
 show#[#[I.ok.mod,?_,I.ok.glob,I.ok.blt,B,λx y c w A=>rX _ _ _ (λz d e=>VI (qw (VV z d e) B)) (λu v d D e2=>I.ok.inj u v d (sub u d D) (sub v d e2)) w A,λx hx=>?_,λx c h e=>?_,I.ok.hd,I.ok.frames,.inl rfl,λb t=>#[sg (T b t),λx c e=>?_],λb o e=>I.bs b o e,?_,λb o e t=>?_,λb t=>?_,I.stack,I.gr],
  KS,(by rw[hg];show I.bare),Un.kept keep,#[m0,NF,λi y v w A h3=>?_],λx c e=>?_,I.IE.fresh B,λx c e=>?_,λp hp=>absurd (show p∈([]:List (k9×Obj)) from hp) (by simp),I.IE.kept keep,?_]
 .change(VF scope X.env).kind=.function;show S.kind
 .
  have VW:(VF scope X.env).names.lookup x=a8 .cell\/(VF scope X.env).names.lookup x=a8 .free:=hx;have IK:scope.names.lookup x=a8 .cell\/scope.names.lookup x=a8 .free:=by
   rcases VW with z|z
   .rcases bQ z with q|⟨_,q⟩
    .show .inl q
    .show .inr q
   .rcases bQ z with q|⟨q,_⟩
    .show .inr q
    .cases q
  rcases IK with IK|IK
  .show PC.mp (PySem.W.cellsFrom_some scope.names (C+1) _ (.inl IK))
  .have(a,ha):=S.cells I.ok (x,.free) (mem_lookup IK) rfl;show#[a,(oJ _ _ _ (S.no IK)).trans (ij ha scope.names [] (mem_lookup IK))]
 .have h':scope.names.lookup x=a8 .cell:=Ź h;rcases J x c e with z|z
  .show DD B (Ou z)
  .rcases kb _ _ z with z|z
   .have:=S.uq _ z;rw[h']at this;cases this
   .simp at z
 .rcases J x c e with z|z
  .show λq=>absurd (W6 (T b t) z) (by rw[q];show Mr _)
  .show(g b t).1.2.2.2.2.1 x c (sub x c z)
 .show DD I.ok.LN I.sz
 .have(f0,Y,f2,f3,f4,f5):=(g b t).1;rcases f3 with z|z
  .show I.ok.KZ b o e z
  .show absurd (qw (nc e) (DD I.ok.LN z)) (Mr _)
 .intro KA;have(f0,Y,f2,f3,f4,f5):=(g b t).1;rcases fz.mp (I.jz b KA) with z|z
  .show Y z
  .show f2 z
 .
  have L:f.length<=i:=by
   by_cases L:i<f.length
   .rw[C0 (by simpa using L),M0]at A;split at A<;>cases A
   .lia
  rw[y0 (by simpa using L),Rm]at A;have VX:(N.drop f.length)[i - f.length]?=a8 y:=by
   rw[Pq];have e:f.length+(i - f.length)=i:=by lia
   rw[e];show w
  have OF:(VF scope X.env).names.lookup y=a8 .local\/(VF scope X.env).names.lookup y=a8 .cell\/(VF scope X.env).names.lookup y=a8 .free:=h3;have M7:∀y:Str,y∈f->N[i]?=a8 y->False:=λy O w=>by
   have(j,hj,ej):=UP O;have M8:N[j]?=a8 y:=by
    have D:(N.take f.length)[j]?=a8 y:=by rw[S.pre,JQ hj,ej]
    rw[VQ hj]at D;show D
   have:=iJ S.nd M8 w;lia
  have IK:scope.names.lookup y=a8 .free:=by
   rcases OF with z|z|z
   .rcases bQ z with q|⟨q,_⟩
    .exfalso
     have O:y∈f:=by
      rcases S.loc (y,.local) (mem_lookup q) rfl with z|z
      .show z
      .have z':y=".0":=z;show absurd (LR w) (by rw[z'];show S.VU)
     show M7 y O w
    .cases q
   .rcases bQ z with q|⟨_,q⟩
    .show(M7 y (S.cl _ (mem_lookup q) rfl) w).elim
    .show q
   .rcases bQ z with q|⟨q,_⟩
    .show q
    .cases q
  have hX:X.N[i - f.length]?=a8 y:=by
   rcases S.tail.2 _ _ VX with e|e|e
   .show e
   .show absurd e (S.dot _ (mem_lookup IK)).1
   .show absurd e (S.dot _ (mem_lookup IK)).2
  have(m,hn,hl):=I.loc;have hv:X.env.scope.names.lookup y=a8 .cell\/X.env.scope.names.lookup y=a8 .free:=S.free (y,.free) (mem_lookup IK) rfl;have(u,r,l):=hl _ y v hX A (.inr hv);show#[u,r,?_];rcases l with⟨k,_⟩|⟨k,c,e,z⟩
  .have k':X.env.scope.names.lookup y=a8 .local:=k;rcases hv with q|q<;>(rw[k']at q;cases q)
  .have hk:(VF scope X.env).names.lookup y=a8 .cell\/(VF scope X.env).names.lookup y=a8 .free:=by
    rcases OF with q|q|q
    .rcases bQ q with G|⟨G,_⟩
     .rw[IK]at G;cases G
     .cases G
    .show .inl q
    .show .inr q
   have(o,ho,Q):=z;show .inr #[hk,c,(oJ _ _ _ (S.no IK)).trans (ij e scope.names [] (mem_lookup IK)),o,keep c o ho,Q]
 .rcases K1 x c e with z|z
  .show#[_,z]
  .have(v,o,ho,Q):=I.cell x c (sub x c z);show#[v,o,keep c o ho,Q]
 .rcases J x c e with z|z
  .show I.IE.fresh (DD B (Ou z))
  .show I.IY x c (sub x c z)
 .rw[ko,Rm,I.len];have e:N.length=f.length+(N.drop f.length).length:=by rw[H4];lia
  change _=N.length;rw[e,S.tail.1]
def la(I:Inv X pins σ H s)
  (d:Inv (Jr X N scope C s H ex) J0 σ' l s4) (x:s.heap.objs.size<=D) (y:s.heap.objs.size<=C) (A:D≠C) (g:l D=cb) (B:Vals p r) (G:s4.heap.PlainList D r.toArray) (hl:p.length<=eh)
  (h:Mx C s4.heap h') (m:∀b∈ex,jA X pins H b):Inv X pins σ (upd l D (.lst p)) {s4 with heap:=h' }:=by
 have t:l C=cb:=d.free;have k:∀{b:k9} {o:Obj},s.heap.get? b=a8 o->b≠C/\b≠D:=λe=>#[sg (qw (nc e) y),sg (qw (nc e) x)]
 show I.ua (s':={s4 with heap:=h' }) (ch:=ex) d.os ⟨λb o e n i f=>?_,λb o e n i f=>?_,λb o e n f=>?_,λb o e f=>?_,λb xs e=>?_,λb o u e=>?_,λb J e=>?_⟩ (λa o e=>?_) d.bare λb i=>?_
 .show(h.2 b (k e).1).trans (d.base.keep b o e n i f)
 .have(L,q):=d.base.slot b o e n i f;show#[L,(h.2 b (k e).1).trans q]
 .rw[aC (k e).2];show d.base.free b o e n f
 .have(O,q):=d.base.there b o e f;show#[O,(h.2 b (k e).1).trans q]
 .have q:=d.base.JC b xs e;rw[aC (bc q g)];show q
 .have q:=d.base.Jw b o u e;rw[aC (bc q g)];show q
 .have(j,q):=d.base.JD b J e;show#[j,by rw[aC (bc q g)];show q]
 .by_cases w:a=D
  .subst w;rw[aO]at e;cases e;have(n,q):=G;show#[hl,r,n,B,(h.2 _ A).trans q]
  .rw[aC w]at e;show(d.IE a o e).mV (λc v Q q=>(h.2 c ?_).trans q) (λc q=>?_) λc xs q=>?_
   .rintro rfl;rcases Q with z|z
    .rw[<-z,t]at e;cases e
    .rw[t]at z;cases z
   .rw[aC (bc q g)];show q
   .rw[aC (bc q g)];show q
 .have(f0,T,f2,Y,f4,f5):=m b i;show#[Y,T,f4,f5]
section
def oK(I:Nat->i4->Prop)
  (b:∀n s,I n s->js (mn prog w) A (VA it) (λr d=>match r with
   |none=>R (.ok .next) d
   |some v=>js (mn prog w) A (Yj a it v) (λ_ d=>js (mn prog w) A (WZ a env v) (λ_ k =>
     js (mn prog w) A (ŉ f c4 λc r=>if r=c4 then do let ok <-isTrue c env (MM c env);pure (RU ok) else pure (RU r)) (λok j =>
      if ok=c4 then js (mn prog w) A (MM elt env) (λx l =>
       js (mn prog w) A (R3 (.builtin "list.append") [g,x]) (λ_ o=>∃m,m<n/\I m o) (VG (mn prog w) A env λe s'=>R (.error e) s') l) (VG (mn prog w) A env λe s'=>R (.error e) s') j
      else ∃m,m<n/\I m j) (VG (mn prog w) A env λe s'=>R (.error e) s') k) (VG (mn prog w) A env λe s'=>R (.error e) s') d) (VG (mn prog w) A env λe s'=>R (.error e) s') d) (VG (mn prog w) A env λe s'=>R (.error e) s') s)
  (n:Nat) (h:I n s) :
  SO (mn prog w) A (.compLoop (.ListComp elt [⟨a,i,f,0⟩] scope pos) 0 it g env) R s:=by
 show codeAny_loop rfl I (λn s t=>?_) n h;change js _ A ((compTurn (.ListComp elt [⟨a,i,f,0⟩] scope pos) 0 it g env).onRaise (λx=>do YO x env;theTreesLotGoes x)) _ _ s;show wpAny_noted ?_;rw[compTurn_list];show cc (Ò (cc (tj (b n s t) (λr d p=>?_) λ_ _ h'=>h')));cases r with
 |none=>show d6 p
 |some v =>
  show cc (tj p (λ_ C u=>?_) λ_ _ h'=>h');show cc (tj u (λ_ k y=>cc (tj y (λok j q=>?_) λ_ _ h'=>h')) λ_ _ h'=>h');cases ok with
  |false=>show d6 #[rfl,q]
  |true =>
   show cc (cc (tj q (λx l z=>cc (tj z (λ_ o B=>d6 (d6 #[rfl,B])) λ_ _ h'=>h')) λ_ _ h'=>h'))
end
abbrev MH(X:Cx)(a:List vr)(t:TT):Prop :=
 ∀(pins:List (k9×Obj)) (s:i4) (σ:St) (H:Hp) (Q:Bool->Hp->Prop),Inv X pins σ H s->t σ H Q ->
  js (mn X.prog X.w) X.A (ŉ a c4 λc r=>if r=c4 then do let ok <-isTrue c X.env (MM c X.env);pure (RU ok) else pure (RU r)) (TP X pins σ Q) X.xe s
abbrev D2:TT:=λ_ H Q=>Q c4 H
def oM:MH X [] D2:=λ_ _ _ H _ I h=>wpAny_tests_nil #[H,I,h]
def uj(h:PT X c t):MH X [c] t:=λpins s σ H Q I q=>wpAny_tests_one (h pins s σ H Q I q)
abbrev nF(k:Nat)(J:It)(g:TG)(l:TT)(te:TE)(Q:VK)(σ:St)(n:Hp):Prop :=
  ∃W:Nat->Nat->List V->Hp->Prop,(∃m,W 0 m [] n)/\∀i m a H,W i m a H->a.length<=eh /\
    ((J.stop i H/\∀p,H p=cb->Q (.ref p) (upd H p (.lst a))) \/
     (J.go i H/\∃d:List V->Hp->Prop,(∀f H',d f H'->∃h,h<m/\W (i+1) h f H')/\∀x H',J.QD i H x H'->g x (mh k cb++σ) H' λe o=>∃c:St,c.length=k/\e=c++σ /\
        l e o λb j=>if b=c4 then te e j λy q=>d (a++[y]) q else d a j))
abbrev x5(k:Nat)(a:TI)(g:TG)(b:TT)(te:TE):TE:=λσ H Q=>a σ H λJ c=>nF k J g b te Q σ c
section
def qp
  (S:cA X N G scope) (hc:X.calm=c4) (hg:∀C s H ex,PG (Jr X N scope C s H ex) tg g) (hf:∀C s H ex,MH (Jr X N scope C s H ex) al tt)
  (he:∀pins s7 σ7 H7 Q7,Inv (Jr X N scope C s H l) pins σ7 H7 s7->te σ7 H7 Q7->js (mn X.prog X.w) X.A (MM elt (RH scope (Ke X scope C) C X.env)) (EP (Jr X N scope C s H l) pins σ7 Q7) (VG (mn X.prog X.w) X.A (RH scope (Ke X scope C) C X.env) λe s'=>R (.error e) s') s7)
  (I:Inv X pins σ H s) (T:Turn X.prog X.w X.K tg J l it tn) (st:tn 0 s.heap) (f2:∀b∈l,jA X pins H b) (W:nF G.length J g tt te Q σ H)
  (hD:@Eq Nat D s.heap.objs.size) (hC:@Eq Nat C (s.heap.objs.size+1)) (K1:∀x c,(Ke X scope C).lookup x=a8 c->s4.heap.IsCell c cb\/(bp X.env scope.names []).lookup x=a8 c) (KS:s4.os=s.os) (V0:s4.gens=s.gens) (keep:∀b o,s.heap.get? b=a8 o->s4.heap.get? b=a8 o) (ns:∃m,s4.heap.Ns C m) (pl:s4.heap.PlainList D #v[])
  (am:∀s5 Y O k,Inv (Jr X N scope C s H l) [] (mh G.length cb++σ) Y s5->Y D=cb->Vals O k->s5.heap.PlainList D k.toArray->O.length<=eh->(∀p,Y p=cb->Q (.ref p) (upd Y p (.lst O)))->R (.ok .next) s5) :
  SO (mn X.prog X.w) X.A (.compStart (.ListComp elt [⟨tg,an,al,0⟩] scope pos) 0 (.ref it) (.ref D) (RH scope (Ke X scope C) C X.env)) R s4:=by
 have LU:∀b∈l,@Qn Nat _ b s.heap.objs.size:=λb h=>by
  have(o,e,_):=T.obj 0 s.heap st b h;show nc e
 have I4:Inv (Jr X N scope C s H l) [] (mh G.length cb++σ) H s4:=x4 S I ⋯ K1 KS V0 keep ns λb h=>#[f2 b h,LU b h]
 have OG:tn 0 s4.heap:=T.keep 0 s.heap s4.heap st λb _ o e=>keep b o e;have nD:H D=cb:=I.IE.fresh ⋯;have(W,(m0,w0),Ö):=W;generalize t:Jr X N scope C s H l=f at I4 am he;have eP:f.prog=X.prog:=by rw[<-t];rfl
 have ew:f.w=X.w:=by rw[<-t];rfl
 have eK:f.K=X.K:=by rw[<-t];rfl
 have ec:f.calm=c4:=by rw[<-t];show hc
 have eA:f.A=X.A:=by rw[<-t];rfl
 have ee:f.env=RH scope (Ke X scope C) C X.env:=by rw[<-t];rfl
 have Ur:f.xe=λ_ _=>False:=by rw[<-t];rfl
 have el:f.env.locals=C:=by rw[ee];rfl
 have QH:PG f tg g:=by rw[<-t];show hg _ _ _ _
 have V1:MH f al tt:=by rw[<-t];show hf _ _ _ _
 have s0:f.s₀=s:=by rw[<-t];rfl
 have Pk:f.pn=[]:=by rw[<-t];rfl
 have RV:∀{H':Hp} {o:Obj},(∀b∈l,H' b=cb)->∀b∈l,jA f [(D,o)] H' b:=λ{H' o} hn b h=>by
  have ex:f.ex=l:=by rw[<-t];rfl
  show#[hn b h,?_,?_,.inl (by rw[ex];show h),λx c e=>?_,λp L=>?_]
  .rw[el];have:=LU b h;show sg (by change @Qn Nat _ b C;lia)
  .have e1:f.fs=Ji X.stack:=by rw[<-t];rfl
   rw[e1];intro z;have(f0,f1,V2,f3,f4,f5):=f2 b h;rcases fz.mp (I.jz b z) with q|q
   .show f1 q
   .show V2 q
  .have e1:f.env.cells=Ke X scope C:=by rw[ee];rfl
   rw[e1]at e;rcases iS _ _ _ e with z|z
   .have:=LU b h;have:=z.2;show Pe (by change @Qn Nat _ b c;lia)
   .show(f2 b h).2.2.2.2.1 x c (eY scope.names [] (λn c e=>by simp at e) x c z)
  .rw[Pk,HH]at L;have:p=(D,o):=by simpa using L
   subst this;have:=LU b h;show Pe (by change @Qn Nat _ b D;lia)
 have RW:∀{σ':St} {H':Hp} {s':i4} {o:Obj},Inv f [] σ' H' s'->H' D=cb->s'.heap.get? D=a8 o->(∀v,o.data≠.cell v)->Inv f [(D,o)] σ' H' s':=λ{σ' H' s' o} I' n e d =>
  I'.gu λp L=>by
   have:p=(D,o):=by simpa using L
   subst this;show#[e,n,?_,?_,d]
   .rw[el];show sg (by change @Qn Nat _ D C;lia)
   .have e1:f.fs=Ji X.stack:=by rw[<-t];rfl
    rw[e1];intro z;have zz:(D:k9)∈Ji X.stack:=z;rcases fz.mp (I.jz D zz) with q|q
    .have:=I.lt;rw[<-q]at this;show absurd this (by change ¬@Qn Nat _ D s.heap.objs.size;lia)
    .show I.Dy (a:=D) ⋯ q
 have start:∀s':i4,s'=s4->SO (mn X.prog X.w) X.A (.compLoop (.ListComp elt [⟨tg,an,al,0⟩] scope pos) 0 (.ref it) (.ref D) (RH scope (Ke X scope C) C X.env)) R s':=by
  rintro s' rfl;show oK (λn s'=>∃i O k H',Inv f [] (mh G.length cb++σ) H' s'/\tn i s'.heap/\(∀b∈l,H' b=cb)/\H' D=cb/\Vals O k/\s'.heap.PlainList D k.toArray/\W i n O H') ?_ m0
   ⟨0,[],[],H,I4,OG,λb h=>(f2 b h).1,nD,.nil,pl,w0⟩
  rintro n s3 ⟨i,O,k,H3,I3,st3,O',Us,QI,⟨nn,V3⟩,w3⟩;have(ab,Lb):=Ö i n O H3 w3;have IP:=RW I3 Us V3 (λv z=>by have z':Data.seq _ _=Ų v:=z;cases z');rcases Lb with⟨ap,qn⟩|⟨go,NN,Ut,as⟩
  .have d:=T.done f eP ew eK ec i _ s3 _ H3 (VG (mn X.prog X.w) X.A (RH scope (Ke X scope C) C X.env) λe s'=>R (.error e) s') IP (RV O') st3 ap;rw[eA]at d;show IF d λr s4 RX=>?_;have(hr,I5):=RX;subst hr;have e5:=(I5.pin (D,({cls:=.type "list",data:=.seq k.toArray nn}:Obj)) (by rw[Pk];simp)).1;show am s4 H3 O k (I5.gu λp L=>by cases L) Us QI ⟨nn,e5⟩ ab qn
  .have d:=T.item f eP ew eK ec i _ s3 _ H3 (VG (mn X.prog X.w) X.A (RH scope (Ke X scope C) C X.env) λe s'=>R (.error e) s') IP (RV O') st3 go;rw[eA]at d;show IF d λr s4 RY=>?_;have(u,hr,h4):=RY;subst hr;show IF h4 λ_ s5 RZ=>?_;have(x,Y,I5,r5,y5,MB,Rz):=RZ;have X9:Y D=cb:=(I5.pin (D,({cls:=.type "list",data:=.seq k.toArray nn}:Obj)) (by rw[Pk];simp)).2.1;have RA:=I5.pinned (RV Rz) (T.obj _ _ MB);have a6:=QH _ s5 _ Y x u _ RA r5 (as x Y y5);rw[eP,ew,eA,ee,Ur]at a6;show tj a6 (λ_ s6 ⟨σ6,H6,I6,q6⟩=>?_) λ_ _ z=>Po z;have(ow,ax,rfl,q6):=q6;have a7:=V1 _ s6 _ H6 _ I6 q6;rw[eP,ew,eA,ee,Ur]at a7;show tj a7 (λb s7 ⟨H7,I7,q7⟩=>?_) λ_ _ z=>Po z;have ac:∀{s8:i4} {B:Hp} {Lp:List V} {its':List fx} {nn':Nat},Inv f [] (ow++σ) B s8->tn (i+1) s8.heap->(∀b∈l,B b=cb)->B D=cb->Vals Lp its'->s8.heap.PlainList D its'.toArray->(∃m',m'<n/\W (i+1) m' Lp B) ->
     ∃m,m<n/\∃i O k H',Inv f [] (mh G.length cb++σ) H' s8/\tn i s8.heap/\(∀b∈l,H' b=cb)/\H' D=cb/\Vals O k/\s8.heap.PlainList D k.toArray/\W i m O H':=λ{s8 B Lp its' nn'} I8 V4 V5 n8 V6 V7 w8=>by
    have(m',hm,w8):=w8;show#[m',hm,i+1,Lp,its',B,I8.weak (by simp[ax]) (λj v e=>?_),V4,V5,n8,V6,V7,w8];by_cases hj:j<G.length
    .rw[C0 (by simpa using hj),M0]at e;split at e<;>cases e
    .rw[y0 (by simpa using(Nat.not_lt.mp hj)),Rm]at e;rw[y0 ⋯,ax];show e
   have ag:∀{σ':St} {B:Hp} {s8:i4},Inv f ([(D,({cls:=.type "list",data:=.seq k.toArray nn}:Obj))]++kS l s5.heap) σ' B s8->s8.heap.get? D=a8 {cls:=.type "list",data:=.seq k.toArray nn}/\B D=cb/\tn (i+1) s8.heap/\∀b∈l,B b=cb:=λ{σ' B s8} I8=>by
    have p1:=I8.pin (D,({cls:=.type "list",data:=.seq k.toArray nn}:Obj)) (by rw[Pk];simp);show#[p1.1,p1.2.1,T.keep _ _ _ MB λb h o e=>(I8.pin (b,o) (vz _ (vz _ (eX h e)))).1,λb h=>?_];have(o,e,d):=T.obj _ _ MB b h;show(I8.pin (b,o) (vz _ (vz _ (eX h e)))).2.1
   cases b with
   |false =>
    rw[Ÿ my]at q7 ⊢;have(p1,p2,p3,p4):=ag I7;show ac (nn':=0) (I7.gu λp L=>by cases L) p3 p4 p2 QI ⟨nn,p1⟩ (Ut _ _ q7)
   |true =>
    rw[ŵ rfl]at q7 ⊢;show tj (he _ s7 _ H7 _ I7 q7) (λy s8 ⟨yv,B,I8,r8,q8⟩=>?_) λ_ _ z=>z;have(p1,p2,p3,p4):=ag I8;have hsz:k.toArray.size<=eh:=by rw[lx,<-QI.length];show ab
    show wpAny_list_append_plain (hsz:=hsz) #[nn,p1] λh9 V8 Uu=>?_;have V9:Inv f [] (ow++σ) B s8:=I8.gu λp L=>by cases L
    have QJ:∀x c,f.env.cells.lookup x=a8 c->c≠D:=λx c e=>by
     have e1:f.env.cells=Ke X scope C:=by rw[ee];rfl
     rw[e1]at e;rcases iS _ _ _ e with z|z
     .have:=z.2;show Pe (by change @Qn Nat _ D c;lia)
     .have(v,z):=I.cell x c (eY scope.names [] (λn c e=>by simp at e) x c z);have:@Qn Nat _ c s.heap.objs.size:=z.lt;show sg (by change @Qn Nat _ c D;lia)
    have I9:Inv f [] (ow++σ) B {s8 with heap:=h9,toks:=s8.toks}:=V9.turned (it:=D) (λb o h e=>(Uu.2 b h).trans e) p2 (by rw[el];show sg (by change @Qn Nat _ D C;lia)) (.inr (by rw[s0];change @É Nat _ s.heap.objs.size D;lia)) QJ (λp L=>by rw[Pk]at L;cases L);have V_:(k++[y]).toArray=k.toArray.push y:=by simp
    show ac (nn':=0) (s8:={s8 with heap:=h9,toks:=s8.toks}) I9 (T.keep _ _ _ p3 λb h o e=>(Uu.2 b ?_).trans e) p4 p2 (QI.append (.cons r8 .nil)) (by rw[V_];show V8) (Ut _ _ q8);have:=LU b h;show sg (by change @Qn Nat _ b D;lia)
 show codeAny_compStart_list (start _ rfl) (T.self _ _ _ _ _ OG (start _ rfl))
def lb
  (f:Q (newEnv scope s.heap.objs.size b (OJ (s.heap.objs.size+1) scope.names cl) d cb .none (a8 c) a) {s with heap:=Qx (s.heap.push {cls:=.type "dict",data:=.dict #v[]}) scope.names}) :
  js M A (Z8 scope b cl [] d cb .none (a8 c) a) Q E s:=by
 simp only[Z8,Ï,ž];show cc (wpAny_alloc ?_);show cc (wpAny_layCells _ (λname kind e=>by cases g:kind==O4<;>simp[g]) _ _ _ _ ?_);rw[show({s with heap:=s.heap.push {cls:=.type "dict",data:=.dict #v[]}}:i4).heap.objs.size=s.heap.objs.size+1 from SS ..];show cc ?_;rw[List.forIn_nil];show d6 (d6 f)
def lh{RR:fx->k9->Ű->i4->Prop}
    (S:cA X N f scope) (L:X.calm=c4) (O:∀C s H ex,PG (Jr X N scope C s H ex) t g) (Y:∀C s H ex,MH (Jr X N scope C s H ex) l tt) (he:∀C s H ex,PE (Jr X N scope C s H ex) elt te)
 (I:Inv X pins σ H s) (T:Turn X.prog X.w X.K t J u it tn) (st:tn 0 s.heap) (f2:∀b∈u,jA X pins H b) (W:nF f.length J g tt te Q σ H)
    (m:∀D C h d i k,@Eq Nat D s.heap.objs.size->@Eq Nat C (s.heap.objs.size+1)->Inv (Jr X N scope C s H u) [] (mh f.length cb++σ) d h->d D=cb->Vals i k->h.heap.PlainList D k.toArray->i.length<=eh->(∀p,d p=cb->Q (.ref p) (upd d p (.lst i)))->RR (.ref D) C (.ok .next) h) :
    js (mn X.prog X.w) X.A (ŀ []) (λj s₃=>js (mn X.prog X.w) X.A (Z8 scope X.env.globals (bp X.env scope.names []) [] X.env.qual cb .none (a8 X.env)) (λv s₄ =>
      SO (mn X.prog X.w) X.A (.compStart (.ListComp elt [⟨t,y,l,0⟩] scope pos) 0 (.ref it) j {v with scope:=VF scope X.env}) (RR j v.locals) s₄) E s₃) E s:=by
  show zy (lb ?_)
  dsimp only
  generalize n:s.heap.push {cls:=.type "list",dict:=cb,data:=.seq ([]:List fx).toArray}=a;have B:a.objs.size=s.heap.objs.size+1:=by rw[<-n,SS]
  have G:∀b o,a.get? b=a8 o->(Qx (a.push {cls:=.type "dict",data:=.dict #v[]}) scope.names).get? b=a8 o:=λb o e=>VB _ _ b o (ek _ e);have r:∀b o,s.heap.get? b=a8 o->(Qx (a.push {cls:=.type "dict",data:=.dict #v[]}) scope.names).get? b=a8 o:=λb o e=>G b o (n▸ek _ e);have Lq:(Qx (a.push {cls:=.type "dict",data:=.dict #v[]}) scope.names).PlainList s.heap.objs.size #v[]:=#[_,G _ _ (n▸l' _ rfl)]
  have K1:∀x c,(Ke X scope a.objs.size).lookup x=a8 c->(Qx (a.push {cls:=.type "dict",data:=.dict #v[]}) scope.names).IsCell c cb\/(bp X.env scope.names []).lookup x=a8 c:=λx c e=>by
    show kI scope.names (a.push {cls:=.type "dict",data:=.dict #v[]}) _ ?_;rw[SS];show e
  show qp (s:=s) (s4:={s with heap:=Qx (a.push {cls:=.type "dict",data:=.dict #v[]}) scope.names}) (C:=a.objs.size) (D:=s.heap.objs.size) S L O Y (λpins s7 σ7 H7 Q7 I7 q=>tj (he _ _ _ _ pins s7 σ7 H7 Q7 I7 q) (λ_ _ z=>z) λ_ _ z=>z.elim) I T st f2 W rfl B K1 rfl rfl r ⟨_,(ħ a (.type "dict")).keeps (VB _ _)⟩ Lq
    λh d i k I5 n5 NH NI NJ q5=>m _ _ h d i k rfl B I5 n5 NH NI NJ q5
def A5(S:cA X N b scope)(m:X.calm=c4)(n:PI X f a o)(p:∀C s H ex,PG (Jr X N scope C s H ex) f g)(q:∀C s H ex,MH (Jr X N scope C s H ex) c r)(t:∀C s H ex,PE (Jr X N scope C s H ex) elt te)
  (hs:∀x,NC a X.env x=pure x:=by intro _;rfl):PE X (.ListComp elt [⟨f,a,c,0⟩] scope pos) (x5 b.length o g r te):=by
 intro pins s σ H Q I h;rw[eval_ListComp];show Ô (use:=cb) (cl:=bp X.env scope.names []) rfl hs (eF (S.cells I.ok)) S.kind S.names ?_;show IF (n pins s σ H _ I h) λv s1 u=>IF u λO9 s2 y=>?_;have(it,fp,tn,J,H2,e,i,T,st2,j,W):=y;subst e;show lh (RR:=λd C=>compPost (mn X.prog X.w) X.A X.xe cb (EP X pins σ Q) d C) S m p q t i T st2 j W ?_;intro D C s5 H5 ys A' z hC k l B G L O;have(Y,Pn,_):=k.loc;show#[Y,Pn,λh' sb=>#[.ref D,_,la i k (YY z.symm) (by change @É Nat _ s2.heap.objs.size C;lia) (sg (by change @Qn Nat _ D C;lia)) l B G L sb j,rfl,O D l]]
def A6(S:cA X N q scope)(hc:X.calm=c4)(hN:X.N.Nodup)(QK:X.N[i]?=a8 y)(G:X.env.scope.names.lookup y=a8 .local)
  (hi:PI X m d wi) (hg:∀C s H ex,PG (Jr X N scope C s H ex) m g) (hf:∀C s H ex,MH (Jr X N scope C s H ex) j tt) (he:∀C s H ex,PE (Jr X N scope C s H ex) elt te)
  (M9:VH (.ListComp elt [⟨m,d,j,0⟩] scope pos) (a8 (.Name y l)) Lr.line X.env=pure c4:=by rfl)
  (hs:∀x,NC d X.env x=pure x:=by intro _;rfl):PS X (.Assign [.Name y l] (.ListComp elt [⟨m,d,j,0⟩] scope pos) Lr) (DK (x5 q.length wi g tt te) (uc i)):=by
 intro pins s σ H D I h;rw[exec_Assign_Name_used _ _ _ _ M9];show cc (Ò (cc ?_));change js _ X.A (do let _ <-comprehension (.ListComp elt [⟨m,d,j,0⟩] scope pos) scope X.env _ (ŀ []) dV (MM d X.env) (a8 (WZ (.Name y l) X.env))) _ _ s;show cc (tj (Ô (use:=a8 (WZ (.Name y l) X.env)) (cl:=bp X.env scope.names []) (Q:=λ_ s'=>SP X pins D .next s') rfl hs (eF (S.cells I.ok)) S.kind S.names ?_) (λ_ s' hq=>d6 (d6 hq)) λ_ _ e=>e);show IF (hi pins s σ H _ I h) λv s1 h1=>IF h1 λO9 s2 h2=>?_;have(it,fp,tn,J,H2,e,k,T,st2,L,W):=h2;subst e;show lh (RR:=λr C=>compPost (mn X.prog X.w) X.A X.xe (a8 (WZ (.Name y l) X.env)) (λ_ s'=>SP X pins D .next s') r C) S hc hg hf he k T st2 L W ?_;intro f C n t O A' hD hC u Y NH NI NJ q5;have(m5,Pn,_):=u.loc;have Wa:t C=cb:=u.free;have B:Inv X pins σ (upd t f (.lst O)) {n with heap:=n.heap}:=la k u (YY hD.symm) (by change @É Nat _ s2.heap.objs.size C;lia) (sg (by change @Qn Nat _ f C;lia)) Y NH NI NJ (Xk ..) L;change js _ X.A (WZ (.Name y l) X.env (.ref f)) _ _ n;show ļ (ny (s:=n) B hN QK (.inl G) (show RelV (.ref f) (.ref f) from rfl) (λs6 I6 ⟨a,sb,ha⟩=>?_) (.inr G));have QJ:@Qn Nat _ X.env.locals C:=by have:@Qn Nat _ X.env.locals s2.heap.objs.size:=k.lt;lia
 have LV:∀x c,X.env.cells.lookup x=a8 c->c≠C:=λx c e=>by
  have(v,z):=k.cell x c e;have:@Qn Nat _ c s2.heap.objs.size:=z.lt;show sg (by change @Qn Nat _ c C;lia)
 have Wb:C≠a:=by
  rcases ha with z|z
  .rw[z];show Pe QJ
  .show(LV _ _ z).symm
 show#[m5,Pn.sameBut sb Wb,λh' Wc=>?_];show#[σ.set i (a8 (.ref f)),upd t f (.lst O),I6.turned (it:=C) (t':=s6.toks) (λb o hb e=>(Wc.2 b hb).trans e) ?_ (Pe QJ) (.inr (by have:@É Nat _ X.s₀.heap.objs.size s2.heap.objs.size:=k.sz;change @É Nat _ X.s₀.heap.objs.size C;lia)) LV (λp hp=>?_),q5 f Y]
 .rw[aC (Pe (by change @Qn Nat _ f C;lia))];show Wa
 .have:@Qn Nat _ p.1 s2.heap.objs.size:=nc (k.pin p hp).1;show sg (by change @Qn Nat _ p.1 C;lia)
end
section
def we:JK X (MF .LtE) (λx y H Q=>∃i j,x=.str i/\y=.str j/\Q (.bl (!(ei (j.cps.toList<i.cps.toList)))) H):=by
 intro pins s σ H x y v u Q I a b h;have(i,j,rfl,rfl,q):=h;have(t,rfl):=a;have(t',rfl):=b;show PySem.P.le_str #[.bl _,H,I,rfl,q]
abbrev R0(x:Str):It:=#[λi _=>i<x.cps.toList.length,λi H v H'=>H'=H/\∃c,x.cps.toList[i]?=a8 c/\v=.str #[#v[c]],λi _=>x.cps.toList.length<=i]
def qq{K:PySem.W.Frag}(it:k9)(D:["enumerate","zip","dict_itemiterator","dict_reverseitemiterator","odict_iterator","itertools.zip_longest","itertools.pairwise"].contains ty=dV)
  (G:∀(A:Od) (s:i4) (i c:Nat) (Q:Option fx->i4->Prop) (E:fx->i4->Prop),s.heap.IsStrIter it ty x t i->x.cps[i]?=a8 c->(∀h',h'.IsStrIter it ty x t (i+1)->Mx it s.heap h'->Q (a8 (.str #[#v[c]] s.toks)) {s with heap:=h',toks:=s.toks+1})->js (mn P w) A (VA (.ref it)) Q E s)
  (J:∀(A:Od) (s:i4) (i:Nat) (Q:Option fx->i4->Prop) (E:fx->i4->Prop),A.handled=cb->s.heap.IsStrIter it ty x t i->x.cps[i]?=cb->(∀h',Heap.ExtBut it s.heap h'->Q cb {s with heap:=h' })->js (mn P w) A (VA (.ref it)) Q E s)
  (L:∀(A:Od) (i:Nat) (s:i4) (Q:fx->i4->Prop) (E:fx->i4->Prop),s.heap.IsStrIter it ty x t i->Q (.ref it) s->js (mn P w) A (YH (.ref it)) Q E s) :
  Turn P w K tg (R0 x) [it] it (λi h=>h.IsStrIter it ty x t i) where
 mem:=by simp
 obj:=λi h st b a=>by
  have e:b=it:=by simpa using a
  subst e;have(o,e,c,d):=st;show#[o,e,λv z=>by rw[d]at z;cases z]
 keep:=λi h h' st k=>let ⟨o,ho,r⟩:=st;⟨o,k it (by simp) o ho,r⟩
 item:=by
  intro X g j l B i pins s σ H E I f st m;subst g j l;have(n,p,N,q,u,y):=f it (by simp);have C:i<x.cps.toList.length:=m;show G X.A s i x.cps.toList[i] _ _ st (by simp) λh' st' O=>?_;have T:Inv X pins σ H {s with heap:=h',toks:=s.toks+1}:=I.turned (λb o a e=>(O.2 b a).trans e) n p q u y;have(o,e,Y,d):=id st';show#[_,rfl,ue (s:={s with heap:=h',toks:=s.toks+1}) e Y d D ⟨.str ⟨#v[x.cps.toList[i]]⟩,H,T,⟨_,rfl⟩,⟨rfl,_,by simp,rfl⟩,st',λb a=>(f b a).1⟩]
 done:=by
  intro X g j l B i pins s σ H E I f st m;subst g j l;have(n,p,N,q,u,y):=f it (by simp);have C:x.cps.toList.length<=i:=m;show J X.A s i _ _ (I.ok.hd B) st (by simpa using C) λh' eb=>#[rfl,I.turned (t':=s.toks) (λb o a e=>eb b o a e) n p q u y]
 self:=λA i s Q E st h=>L A i s Q E st h
abbrev Ie(tl:TE):TI:=λσ H R=>tl σ H λv a=>∃x,v=.str x/\R (R0 x) a
def D3(hl:PE X l tl):PI X u l (Ie tl):=by
 intro pins s σ H R I h;show IF (hl pins s σ H _ I h) λv s1 m=>?_;have(x,g,f,n,p):=m;have(z,rfl,q):=p;have(t,rfl):=n;have j:∀b∈[s1.heap.objs.size],jA X pins g b:=λb r=>by
  have e:b=s1.heap.objs.size:=by simpa using r
  subst e;show f.AL (ke _) (f.IE.fresh (ke _))
 cases k:z.cps.all (·<128) with
 |true =>
  show wpAny_pyIter_ascii k ?_;show#[s1.heap.objs.size,[s1.heap.objs.size],_,_,g,rfl,f.kept (t':=s1.toks) λb o e=>ek _ e,
   qq (x:=z) (t:=t) _ (by decide) (λA s i c Q E st d a=>wpAny_pyNext_ascii_item st d a) (λA s i Q E hh st d a=>wpAny_pyNext_ascii_end hh st d a) (λA i s Q E st a=>wpAny_pyIter_striter_ascii st a),
   #[_,l' _ rfl,rfl,rfl],j,q]
 |false =>
  show wpAny_pyIter_wide k ?_;show#[s1.heap.objs.size,[s1.heap.objs.size],_,_,g,rfl,f.kept (t':=s1.toks) λb o e=>ek _ e,
   qq (x:=z) (t:=t) _ (by decide) (λA s i c Q E st d a=>wpAny_pyNext_wide_item st d a) (λA s i Q E hh st d a=>wpAny_pyNext_wide_end hh st d a) (λA i s Q E st a=>wpAny_pyIter_striter_wide st a),
   #[_,l' _ rfl,rfl,rfl],j,q]
end
section
abbrev Gn:V->Option Int->Option Int->Hp->VK->Prop:=λx lo a H Q=>∃z,x=.str z/\z.length<=eh/\Q (.str (PySem.StrLaws.sliceText z lo a)) H
def mY(x:Str)(lo a:Option Int)(hz:x.length<=eh):(PySem.StrLaws.sliceText x lo a).length<=eh:=DD (Txt.slice_le x lo a) hz
def D4:Ms X Gn:=by
 intro pins s σ H x v m n lo b o Q I f hs g d h;have(z,rfl,hz,q):=h;have(t,rfl):=f;show#["str",_,œ.lookup,Ta _ _ _,?_];have a:(PySem.StrLaws.sliceText z lo b).length<=eh/\∀t' k,EP X pins σ Q (.str (PySem.StrLaws.sliceText z lo b) t') {s with toks:=k}:=#[mY z lo b hz,λt' k=>#[.str _,H,I.tok k,#[_,rfl],q]]
 cases g with
 |none =>
  cases d with
  |none=>show Tt (l:=cb) (u:=cb) (st:=cb) hs rfl (Yf a)
  |int j c=>show Tt (l:=cb) (u:=a8 (j,c)) (st:=cb) hs rfl (Yf a)
 |int i e =>
  cases d with
  |none=>show Tt (l:=a8 (i,e)) (u:=cb) (st:=cb) hs rfl (Yf a)
  |int j c=>show Tt (l:=a8 (i,e)) (u:=a8 (j,c)) (st:=cb) hs rfl (Yf a)
def qr:OE X "str.endswith" (λx xs H Q=>∃a b,x=.str a/\xs=[.str b]/\Q (.bl (ŏ a b)) H):=by
 intro pins s σ H x xs v us Q I c rs h;have(a,b,rfl,rfl,q):=h;have(t,rfl):=c;have(u,rfl,t',rfl):=vals1 rs;show SC.endswith #[.bl _,H,I,rfl,q]
def oN:OE X "str.partition" (λx xs H Q=>∃a b,x=.str a/\xs=[.str b]/\(b.length==0)=dV/\a.length<=eh /\
  ∀p,H p=cb->Q (.ref p) (upd H p (.tup [.str (tx a b).1,.str (tx a b).2.1,.str (tx a b).2.2]))):=by
 intro pins s σ H x xs v us Q I i rs h;have(a,b,rfl,rfl,j,hz,q):=h;have(t,rfl):=i;have(u,rfl,t',rfl):=vals1 rs;show Sq F.slot_str_partition (Ta _ _ _) F.entry_str_partition (F.args_str_partition_2 _ _) (meets_str_partition a b t t' j hz) ?_;have l:H s.heap.objs.size=cb:=I.IE.fresh (ke _);have m:=q _ l;have c:∀(d f g:Tok) (k:Nat),EP X pins σ Q (.ref s.heap.objs.size) {s with toks:=k,heap:=s.heap.push {cls:=.type "tuple",data:=.seq [.str (tx a b).1 d,.str (tx a b).2.1 f,.str (tx a b).2.2 g].toArray}}:=λd f g k =>
  #[.ref s.heap.objs.size,_,I.laid (t':=k) (o:=.tup [.str (tx a b).1,.str (tx a b).2.1,.str (tx a b).2.2]) (λb u e=>ek _ e) (ke _)
   ⟨by change 3<=eh;decide,_,.cons ⟨d,rfl⟩ (.cons #[f,rfl] (.cons #[g,rfl] .nil)),⟨_,l' _ rfl,rfl,_,rfl⟩⟩,rfl,m]
 revert c;unfold tx;cases Jv a b 0 a.length 1 with
 |_=>intro c;show c _ _ _ _
theorem nG:∀(l:List (Str×Tok)),Vals (l.map λp=>V.str p.1) (å l)
 |[]=>.nil
 |(x,t)::r=>.cons #[t,rfl] (nG r)
theorem eZ:∀{a:List Str}{b:List fx},Vals (a.map V.str) b->∃l:List (Str×Tok),b=å l/\l.map (·.1)=a
 |[],_,.nil=>#[[],rfl,rfl]
 |y::a,_,.cons r t=>by
  have(c,rfl):=r;have(l,rfl,e):=eZ t;show#[(y,c)::l,rfl,by rw[mu,e]]
def x6:OE X "str.split" (λx xs H Q=>∃a b,x=.str a/\xs=[.str b]/\(b.length==0)=dV/\a.length+2<=eh /\
  ∀p,H p=cb->Q (.ref p) (upd H p (.lst ((tA a b).map V.str)))):=by
 intro pins s σ H x xs v us Q I i rs h;have(x,y,rfl,rfl,g,hz,q):=h;have(t,rfl):=i;have(n,rfl,u,rfl):=vals1 rs;have d:H s.heap.objs.size=cb:=I.IE.fresh (ke _);have j:=q _ d;have c:∀(l:List (Str×Tok)) (k:Nat),l.length<=eh->l.map (·.1)=tA x y->EP X pins σ Q (.ref s.heap.objs.size) {s with toks:=k,heap:=s.heap.push {cls:=.type "list",data:=.seq (å l).toArray}}:=λl k hl e =>
  #[.ref s.heap.objs.size,_,I.laid (t':=k) (o:=.lst ((tA x y).map V.str)) (λb u e=>ek _ e) (ke _)
   ⟨by rw[<-e,eH,eH];show hl,å l,_,by rw[<-e,uv];show nG l,l' _ rfl⟩,rfl,j]
 have one:1<=eh:=by decide
 cases f:(ei (x.length<y.length)||decide (Zr x<Zr y))
 .cases d:(Jv x y 0 x.length (x.length+1)).isEmpty
  .have m:(RJ x (Jv x y 0 x.length (x.length+1)) y.length).length<=eh:=by
    have:=PySem.StrLaws.occ_length_le x y 0 x.length (x.length+1);simp only[RJ,eH,List.length_zip,lg,ko];lia
   show Sq Zn (Ta _ _ _) Zb (YV _ _) (meets_str_split_sep x y t u f g d ⋯ m) ?_;change wants _ _ _ {s with toks:=_,heap:=s.heap.push {cls:=.type "list",data:=.seq (strsFrom s.toks (RJ x (Jv x y 0 x.length (x.length+1)) y.length)).toArray}};rw[strsFrom_eq];show c (numbered s.toks _) _ ?_ ((Ť _ _).trans ((Ÿ (ne_true_of_eq_false f)).trans (Ÿ (ne_true_of_eq_false d))).symm);have e:=Ż OC (Ť s.toks (RJ x (Jv x y 0 x.length (x.length+1)) y.length));rw[eH]at e;lia
  .show Sq Zn (Ta _ _ _) Zb (YV _ _) (meets_str_split_not_found x y t u f g d)
    (c [(x,t)] _ one ((Ÿ (ne_true_of_eq_false f)).trans (ŵ d)).symm)
 .show Sq Zn (Ta _ _ _) Zb (YV _ _) (meets_str_split_cannot_occur x y t u f)
   (c [(x,t)] _ one (ŵ f).symm)
def A7:OE X "str.join" (λx xs H Q=>∃a p b,x=.str a/\xs=[.ref p]/\Jo X.K H p (b.map V.str)/\W4 a b=c4/\Q (.str (H0 a b)) H):=by
 intro pins s σ H x xs v us Q I c rs h;have(a,p,b,rfl,rfl,d,f,q):=h;have(t,rfl):=c;have(u,rfl,r):=vals1 rs;cases r;have(j,g,i,hz):=I.list d;have(l,rfl,e):=eZ g;show SC.join i.isList e f λt' k=>#[.str _,H,I.tok k,#[_,rfl],q]
theorem kf:∀{bs:List Bool}{a:List fx},Vals (bs.map V.bl) a->a=bs.map U4
 |[],_,.nil=>rfl
 |b::bs,_,.cons r t=>by
  cases r;rw[kf t];rfl
def x8:X.calm=c4->fB X (.builtin "all") (λxs H Q=>∃(p:k9) (bs:List Bool),xs=[.ref p]/\Jo X.K H p (bs.map V.bl)/\Q (.bl (bs.all id)) H):=by
 intro f pins s σ H xs us Q I rs h;have(p,bs,rfl,g,q):=h;have(u,rfl,r):=vals1 rs;cases r;have(n,j,c,hz):=I.list g;have e:=kf j;subst e;have k:p<s.heap.objs.size:=by have(_,_,e,_):=c;show nc e
 show call_all_walk (Wj c.isList ?_);show#[s.heap.objs.size,[s.heap.objs.size,p],[s.heap.objs.size],(bs.map U4).toArray.size,_,_,λi=>(bs[i]?).getD c4,rfl,Ú (A:=X.A.in1) (I.ok.hd f) _ p (sg k) (bs.map U4).toArray,
  #[#[_,l' _ rfl,rfl,rfl],c.isList.push _],λi v s' Q' o l d=>?_,λh' m hk=>?_]
 .have a:(bs.map U4)[i]?=a8 v:=by simpa using l
  rw[ti]at a;cases e:bs[i]? with
  |none=>rw[e]at a;cases a
  |some b =>
   rw[e]at a;cases a;simp only[e,ê]at d;show LH d
 .have e:((gA (bs.map U4).toArray.size).all λi=>(bs[i]?).getD c4)=bs.all id:=by
   rw[lx,eH];show ĩ bs
  rw[e];show#[.bl _,H,I.kept (t':=m) (Ī hk),rfl,q]
end
section
end
abbrev A8(N a:List Str)(scope:OK)(out:List (Str×O5)):Bool :=
 ei (scope.kind=.function)&&scope.names.all (λy=>ei (scope.names.lookup y.1=a8 y.2))&&scope.names.all (λy=>ei (y.2≠.cell)||decide (y.1∈a))&&decide N.Nodup&&ei (N.take a.length=a) &&
 scope.names.all (λy=>ei (y.2≠.local)||decide (y.1∈a)||decide (y.1=".0"))&&ei ((".0":Str)∉N)&&scope.names.all (λy=>ei (y.2≠.free)||decide (out.lookup y.1=a8 .cell)||decide (out.lookup y.1=a8 .free))&&scope.names.all (λy=>ei (y.1≠".")&&ei (y.1≠".."))
def rY(c:X.env.scope.names=out)(d:d0 (N.drop a.length) X.N)(h:A8 N a scope out=c4):cA X N a scope:=by
 unfold A8 at h;simp only[df,sh,Nz,Ŵ]at h;obtain⟨⟨⟨⟨⟨⟨⟨⟨f,g⟩,i⟩,j⟩,k⟩,l⟩,m⟩,n⟩,o⟩:=h;show#[f,g,λy b e=>?_,j,k,λy b e=>?_,m,d,λy b e=>?_,o]
 .rcases i y b with z|z
  .show absurd e z
  .show z
 .rcases l y b with(z|z)|z
  .show absurd e z
  .show .inl z
  .show .inr z
 .rw[c];rcases n y b with(z|z)|z
  .show absurd e z
  .show .inl z
  .show .inr z
section
abbrev az(prog:z8)(w:JM)(h:Nq)(k:Str×List Str)(a:k9):Prop :=
 ∃o n t b,h.get? a=a8 o/\o.cls=.type "tuple"/\o.data=.seq #v[.str k.1 t,.ref b] n/\Za (PySem.strKind prog w) h k.2 b
def az.typeIs{s:i4}(x:az prog w s.heap k a):s.TypeIs (.ref a) "tuple":=let ⟨o,_,_,_,ho,b,_⟩:=x;⟨o,ho,b⟩
def az.inj(e:az prog w h x a)(f:az prog w h y a):x=y:=by
 have(o,n,t,b,ho,_,g,i):=e;have(j,q,t',r,k,_,c,l):=f;obtain rfl:o=j:=Jc (ho.symm.trans k);rw[g]at c;injection c with d _
 simp only[Array.mk.injEq,YM,Value.str.injEq,Value.ref.injEq,and_true]at d;have((m,_),p):=d;subst p;show VY m (i.inj l)
def az.keeps(x:az prog w h k a)(ho:h.get? d=a8 o)(e:o.data=.dict es ep)(hs:Mx d h h'):az prog w h' k a:=by
 have(f,n,t,b,g,i,c,j):=x;have l:a≠d:=by
  rintro rfl;obtain rfl:f=o:=Jc (g.symm.trans ho);rw[e]at c;show nomatch c
 show#[f,n,t,b,(hs.2 a l).trans g,i,c,j.keeps ho e hs]
abbrev iT(prog:z8)(w:JM)(k:Str×List Str):Int:=reduceHash (Nr [(PySem.strKind prog w).hash k.1,TV (PySem.strKind prog w) k.2])
abbrev x9(prog:z8)(w:JM)(hh:Nq)(v:fx)(n:Int)(d:Nat):Prop :=
 ∀{A:Od} {E:fx->i4->Prop} {s:i4} {Q:Int->i4->Prop},s.heap=hh->A.units<K'->Q n {s with toks:=s.toks+d}->js (mn prog w) A (pyHash v) Q E s
def rZ(x:Str)(t:Tok):x9 prog w hh (.str x t) ((PySem.strKind prog w).hash x) 1:=λ_ _ h=>(PySem.strKind prog w).pyHash (by simp[PySem.strKind,QG]) h
def oO(hk:Za (PySem.strKind prog w) hh a b):x9 prog w hh (.ref b) (TV (PySem.strKind prog w) a) (a.length+1):=λe c h=>by
 subst e;show wpAny_pyHash_tuple c hk h
def eG(i:A.units+1<K')(hk:az prog w s.heap k a)(h:Q (iT prog w k) {s with toks:=s.toks+(k.2.length+3)}):
  js (mn prog w) A (pyHash (.ref a)) Q E s:=by
 have d:=hk.typeIs;have(o,n,t,b,ho,_,l,m):=hk;unfold pyHash
 first|unfold pyHashByItsType|skip
 first|show cc (wpAny_cRoomFor_or (.inr ⋯) ?_)|skip
 show cc (SG d PySem.F.slot_tuple_hash.lookup ?_);change js _ _ (if (a8 (TQ "tuple.__hash__")==a8 IV)=c4 then _ else _) Q E s;rw[Ÿ (by rw[beq_builtin_none];show my)];show cc (SG d PySem.F.slot_tuple_hash.lookup ?_);change js _ _ (callSpecialIfBoundUnlessNone? (.ref a) "__hash__" _ >>= _) Q E s;show cc (wpAny_callSpecialIfBoundUnlessNone?_slot d PySem.F.slot_tuple_hash (OD PySem.F.slot_tuple_hash d PySem.F.entry_tuple_hash ?_ (PySem.F.args_tuple_hash_1 _)));change js _ _ (Qs (.ref a) >>= _) _ _ s;show cc (Y8 ho l ?_);show cc ?_;rw[<-Qu];show Pt _
  (λrest (c:Array Int) s'=>(rest=[K_ k.1 t,vu b]/\c=#v[]/\s'=s)\/(rest=[vu b]/\c.toList=[(PySem.strKind prog w).hash k.1]/\s'={s with toks:=s.toks+1}) \/
   (rest=[]/\c.toList=[(PySem.strKind prog w).hash k.1,TV (PySem.strKind prog w) k.2]/\s'={s with toks:=s.toks+1+(k.2.length+1)}))
  _ ?_ ?_ _ _ (.inl #[rfl,rfl,rfl])
 .rintro x rest c s' (⟨e,rfl,rfl⟩|⟨e,f,rfl⟩|⟨e,_,_⟩)
  .cases e;show cc (rZ k.1 t (hh:=s'.heap) rfl (by change A.units+1<K';show i) ?_)
   first
    |show d6 (.inr (.inl #[rfl,rfl,rfl]))
    |show cc (d6 (d6 (.inr (.inl #[rfl,rfl,rfl]))))
  .cases e;show cc (oO m rfl (by change A.units+1<K';show i) ?_)
   first
    |show d6 (.inr (.inr #[rfl,by simp[f],rfl]))
    |show cc (d6 (d6 (.inr (.inr #[rfl,by simp[f],rfl]))))
  .cases e
 .rintro c s' (⟨e,_,_⟩|⟨e,_,_⟩|⟨_,f,rfl⟩)
  .cases e
  .cases e
  .change js _ _ (retInt (Nr c.toList)) _ _ _;rw[f];show wpAny_ret_mkInt ?_;have j:s.toks+1+(k.2.length+1)+1=s.toks+(k.2.length+3):=by lia
   change js _ _ (if (ei (-(2:Int) ^ 63<=Nr [(PySem.strKind prog w).hash k.1,TV (PySem.strKind prog w) k.2])&&ei (Nr [(PySem.strKind prog w).hash k.1,TV (PySem.strKind prog w) k.2]<2 ^ 63))=c4 then _ else _) Q E _;unfold iT reduceHash at h;by_cases g:(ei (-(2:Int) ^ 63<=Nr [(PySem.strKind prog w).hash k.1,TV (PySem.strKind prog w) k.2])&&ei (Nr [(PySem.strKind prog w).hash k.1,TV (PySem.strKind prog w) k.2]<2 ^ 63))=c4
   .rw[ŵ g];rw[ŵ g]at h;show d6 (by rw[j];show h)
   .rw[Ÿ g];rw[Ÿ g]at h;show cc (S8 (d6 (by rw[j];show h)))
def qt(i:A.units<K')(j:az prog w s.heap x a)(d:az prog w s.heap y b)(h:P (.done (.ret (.bool (ei (x=y))))) s):
  js (mn prog w) A (SU.«tuple.__eq__» ⟨[.ref a,.ref b],[]⟩) P E s:=by
 have k:=d.typeIs;have(D,G,l,f,m,_,n,o):=j;have(H,I,p,g,q,_,t,B):=d;change js _ _ (Z9 (.ref b) (.type "tuple") >>= _) _ _ s;show cc (Uv k Yp ?_);simp only[L6,pj,ź];show cc (Y8 m n ?_);show cc (Y8 q t ?_);show cc ?_;show Pt _
  (λrest r s'=>r.1=cb/\s'=s/\((rest=[(K_ x.1 l,K_ y.1 p),(vu f,vu g)])\/(rest=[(vu f,vu g)]/\x.1=y.1)\/(rest=[]/\x=y)))
  _ ?_ ?_ _ _ #[rfl,rfl,.inl rfl]
 .rintro⟨u,v⟩ rest r s' ⟨c,rfl,(e|⟨e,C⟩|⟨e,_⟩)⟩
  .cases e;show cc ((PySem.strKind prog w).eqBool (a:=x.1) (b:=y.1) (by simp[PySem.strKind,QG]) (by simp[PySem.strKind,QG]) ?_);by_cases hk:x.1=y.1
   .rw[ŷ hk];simp only[L6,pj,ź];show d6 #[rfl,rfl,.inr (.inl #[by first|rfl|trivial,hk])]
   .rw[Ŷ hk];simp only[Vy,ž];rw[Ŷ (λz=>hk (by rw[z]))]at h;show cc (d6 (d6 (d6 h)))
  .cases e;show cc (wpAny_eqBool_tuple i o B ?_);by_cases hk:x.2=y.2
   .rw[ŷ hk];simp only[L6,pj,ź];show d6 #[rfl,rfl,.inr (.inr #[by first|rfl|trivial,VY C hk])]
   .rw[Ŷ hk];simp only[Vy,ž];rw[Ŷ (λz=>hk (by rw[z]))]at h;show cc (d6 (d6 (d6 h)))
  .cases e
 .rintro⟨J,L⟩ s' ⟨c,rfl,(e|⟨e,_⟩|⟨_,rfl⟩)⟩
  .cases e
  .cases e
  .simp only at c;subst c;show d6 ?_;rw[ŷ rfl]at h;show h
def eI(g:A.units+2<K')(c:az prog w s.heap x a)(d:az prog w s.heap y b)(h:Q (ei (x=y)) s):
  js (mn prog w) A (eqBool (.ref a) (.ref b)) Q E s:=by
 unfold eqBool
 try with_reducible show Ka ?_
 change js _ _ (if (vu a==vu b)=c4 then _ else _) Q E s;by_cases f:(vu a==vu b)=c4
 .rw[ŵ f];have e:a=b:=by have:=YS f;injection this
  subst e;obtain rfl:=c.inj d;show cc (S8 (d6 (by simpa using h)))
 .rw[Ÿ f];show cc (wpAny_richCompare_same_room (op:=.Eq) c.typeIs d.typeIs PySem.F.slot_tuple_eq
   (OD PySem.F.slot_tuple_eq c.typeIs PySem.F.entry_tuple_eq (qt (by first|(change A.units+1<K';lia)|(change A.units<K';lia)|(change A.units+1+1<K';lia)) c d ⟨_,rfl,(λe=>nomatch e),LH h⟩) (PySem.F.args_tuple_eq_2 _ _)) ⋯)
def iU(hk:Za (PySem.strKind prog w) s.heap j a)(h:Q c4 s):js (mn prog w) A (ç (n+1) (.ref a)) Q E s:=by
 have d:=hk.typeIs;have(o,b,k,ho,_,f,g):=hk;unfold ç;show cc (SG d PySem.F.slot_tuple_eq.lookup ?_);change js _ _ (Z9 (.ref a) (.type "tuple") >>= _) _ _ s;show cc (Uv d Yp ?_);simp only[L6,pj,ź];show cc (TR ho f ?_);show cc ?_;change js _ _ (ŉ b _ _) _ _ s;rw[<-Qu];show Pt _ (λrest r s'=>r.1=cb/\s'=s/\∀v∈rest,ũ v=c4) _ ?_ ?_ _ _ ⟨rfl,rfl,g.byValue⟩
 .rintro v rest r s' ⟨c,rfl,e⟩;rw[ł _ (e v hY)];show cc (d6 ?_);simp only[L6,pj,ź];show d6 #[rfl,rfl,λu i=>e u (et _ i)]
 .rintro⟨l,m⟩ s' ⟨c,rfl,_⟩;simp only at c;subst c;show d6 h
def dz(hk:az prog w s.heap k a)(h:Q c4 s):js (mn prog w) A (ç 8 (.ref a)) Q E s:=by
 have d:=hk.typeIs;have(o,n,t,b,ho,_,f,g):=hk;unfold ç;show cc (SG d PySem.F.slot_tuple_eq.lookup ?_);change js _ _ (Z9 (.ref a) (.type "tuple") >>= _) _ _ s;show cc (Uv d Yp ?_);simp only[L6,pj,ź];show cc (TR ho f ?_);show cc ?_;rw[<-Qu];show Pt _ (λrest r s'=>r.1=cb/\s'=s/\(rest=[K_ k.1 t,vu b]\/rest=[vu b]\/rest=[])) _ ?_ ?_ _ _ ⟨rfl,rfl,.inl rfl⟩
 .rintro v rest r s' ⟨c,rfl,(e|e|e)⟩
  .cases e;rw[ł _ rfl];show cc (d6 ?_);simp only[L6,pj,ź];show d6 #[rfl,rfl,.inr (.inl (by first|rfl|trivial))]
  .cases e;show cc (iU g ?_);simp only[L6,pj,ź];show d6 #[rfl,rfl,.inr (.inr (by first|rfl|trivial))]
  .cases e
 .rintro⟨i,j⟩ s' ⟨c,rfl,_⟩;simp only at c;subst c;show d6 h
end
abbrev iV(prog:z8)(w:JM):HeapKind prog w (Str×List Str) where
 is:=az prog w
 hash:=iT prog w
 draws:=λk=>k.2.length+3
 room:=λA=>A.units+2<K'
 inj:=λa b=>a.inj b
 keeps:=λx ho d hs=>x.keeps ho d hs
 pyHash:=λc hk h=>eG ⋯ hk h
 eqBool:=λc a b h=>eI c a b h
 quiet:=λhk h=>dz hk h
@[reducible]noncomputable def cO:=Str×List Str
abbrev eJ(K:PySem.W.Frag)(H:Hp)(v:V)(k:cO):Prop:=∃a b,v=.ref a/\Jj K H a [.str k.1,.ref b]/\Jj K H b (k.2.map V.str)
abbrev kg(P:z8)(w:JM)(d:k9)(xs:List (cO×k9×fx)):HO:=.ext λh=>(d==NA)=dV/\∃o es ep,h.get? d=a8 o/\o.ExactDict/\o.data=.dict es ep/\es.toList=xs.map (entryOfKey (iV P w))/\(xs.map (·.1)).Nodup
abbrev fC(P:z8)(w:JM)(K:PySem.W.Frag)(H:Hp)(d:k9)(a:List cO):Prop:=∃xs,H d=a8 (kg P w d xs)/\xs.map (·.1)=a/\∀x∈xs,eJ K H (.ref x.2.1) x.1
theorem lj:∀{a:List Str}{b:List fx},Vals (a.map V.str) b->ItemsAre (PySem.strKind P w) a b
 |[],_,.nil=>.nil
 |k::a,_,.cons r t=>by
  have(c,rfl):=r;show .cons (by simp[PySem.strKind,QG]) (lj t)
def A9(I:Inv X pins σ H s)(e:Jj X.K H b (a.map V.str)):Za (PySem.strKind X.prog X.w) s.heap a b:=by
 have(c,r,(o,d,f,n,g),_):=I.tuple e;show#[o,c.toArray,n,d,f,g,by simpa using lj r]
def iW(I:Inv X pins σ H s)(e:eJ X.K H (.ref a) k):az X.prog X.w s.heap k a:=by
 have(m,b,q,d,f):=e;cases q;have(p,r,(o,g,h,n,i),_):=I.tuple d;cases r with
 |cons j c =>
  cases c with
  |cons c l =>
   cases l;have(t,rfl):=j;cases c;show#[o,n,t,b,g,h,i,A9 I f]
section
def Inv.Ig(I:Inv X pins σ H s):NA<s.heap.objs.size:=by
 have(o,es,ep,ho,_):=I.mod.glob;have a:@Qn Nat _ nt s.heap.objs.size:=nc (I.bk _ _ ho);have(d,(e,f,g,b,_),_):=I.mod.blt;have c:@Qn Nat _ VR s.heap.objs.size:=nc (I.bk _ _ b);revert a c;change @Qn Nat _ nt s.heap.objs.size->@Qn Nat _ VR s.heap.objs.size->@Qn Nat _ NA s.heap.objs.size;unfold nt VR NA;lia
def ll(I:Inv X pins σ H s)(h:H d=a8 (kg X.prog X.w d xs))(hk:∀x∈xs,eJ X.K H (.ref x.2.1) x.1):(d==NA)=dV/\s.heap.DictOfH (iV X.prog X.w) d xs:=by
 have((a,o,es,ep,b,c,e,f,g),_):=I.IE d _ h;show#[a,o,es,ep,b,c,e,f,λx i=>iW I (hk x i),g]
def CV(b:(d==NA)=dV)(x:h.DictOfH (iV P w) d xs):bW P w H' h d (kg P w d xs):=by
 have(o,es,ep,a,c,e,f,_,g):=x;show#[#[b,o,es,ep,a,c,e,f,g],#[o,a],λq a ⟨i,o,es,ep,j,l,m,n,p⟩ k=>#[i,o,es,ep,k _ j,l,m,n,p]]
def A_:PE X (.Dict [] [] pos) (λ_ H Q=>∀p,H p=cb->Q (.ref p) (upd H p (kg X.prog X.w p []))):=λpins s σ H Q I h =>
 ŋ #[.ref s.heap.objs.size,_,I.laid (a:=s.heap.objs.size) (o:=kg X.prog X.w s.heap.objs.size []) (t':=s.toks) (λ_ _ q=>ek _ q) (ke _)
  (CV (Ž.mpr (Mk (sg I.Ig))) (Ś s.heap)),rfl,h _ (I.IE.fresh (ke _))]
def il(k:cO):(Y3 xs k).isSome=ei (k∈xs.map (·.1)):=by
 unfold Y3;rw[VD,uk,List.find?_isSome,Ŵ,oa];constructor
 .rintro⟨x,a,e⟩;show#[x,a,Ź e]
 .rintro⟨x,a,e⟩;show#[x,a,ŷ e]
def wg(o:X.A.units+3<K'):JK X (MF .NotIn) (λx y H Q=>∃k d c,eJ X.K H x k/\y=.ref d/\fC X.prog X.w X.K H d c/\Q (.bl (!ei (k∈c))) H):=by
 intro pins s σ H x y v u Q I f g h;have(k,d,c,e,rfl,(xs,i,j,l),q):=h;cases g;have(a,b,rfl,p,r):=id e;cases f;have(m,n):=ll I i l;show Œ (knd:=iV X.prog X.w) (k:=k) (by change X.A.units+1+2<K';lia) (iW I e) m n ?_;rw[il,j];show#[.bl _,H,I.tok _,rfl,q]
def Ba(hu:X.A.units+3<K'):mW X (λo i v H Q=>∃d k c,o=.ref d/\eJ X.K H i k/\fC X.prog X.w X.K H d c/\k∉c/\c.length<=1000/\∀H',fC X.prog X.w X.K H' d (c++[k])->(∀b,b≠d->H' b=H b)->Q H'):=by
 intro pins s σ H o i v ov iv u Q I B C rv h;have(d,k,c,rfl,j,(xs,g,l,t),D,hl,q):=h;cases B;have(a,b,rfl,e1,e2):=id j;cases C;have(G,J):=ll I g t;have L:xs.length<=eh:=by
  have:=Ż OC l;rw[eH]at this;rw[this];show Ou (v_ hl)
 show Ĭ (hsz:=L) (knd:=iV X.prog X.w) (k:=k) (by change X.A.units+1+2<K';lia) (iW I j) J λh' n N=>?_;have O:Y3 xs k=cb:=by
  have:=il (xs:=xs) k;rw[l,Ŷ D]at this;cases e:Y3 xs k with
  |none=>rfl
  |some _=>rw[e]at this;cases this
 rw[storedH_new O]at n;have(T,G',O6,Y,_):=id n;show#[upd H d (kg X.prog X.w d (xs++[(k,a,u)])),I.write (x:=d) (e:=d) (by rw[g];show YB) (.inl rfl) (λb q p z=>(N.2 b p).trans z) ⟨T,Y⟩ (CV G n),q _ #[_,aO,by rw[H8,l];rfl,λx hx=>?_] λb p=>aC p];have kT:∀{f:k9} {r:List V},Jj X.K H f r->Jj X.K (upd H d (kg X.prog X.w d (xs++[(k,a,u)]))) f r:=λ{f r} z=>by
  rcases z with(z|⟨o,z⟩)|z
  .show .inl (.inl (by rw[aC (xD z g (λz=>nomatch z))];show z))
  .show .inl (.inr #[o,by rw[aC (xD z g (λz=>nomatch z))];show z])
  .show .inr z
 have keep:∀{y:V} {k':cO},eJ X.K H y k'->eJ X.K (upd H d (kg X.prog X.w d (xs++[(k,a,u)]))) y k':=λ{y k'} ⟨f,b',z1,z2,z3⟩=>#[f,b',z1,kT z2,kT z3]
 rcases mN.mp hx with m|m
 .show keep (t x m)
 .have:x=(k,a,u):=by simpa using m
  subst this;show keep j
end
abbrev KC(a b:Str):Bool:=!ei (b.cps.toList<a.cps.toList)
def kJ(a b:Str):KC a b=c4↔a.cps.toList<=b.cps.toList:=by
 simp only[KC,wk,ż];show List.not_lt
def nH(a b c:Str)(d:KC a b=c4)(e:KC b c=c4):KC a c=c4:=by
 rw[kJ]at d e ⊢;show List.le_trans d e
def wj(a b:Str):(KC a b||KC b a)=c4:=by
 rw[Nz,kJ,kJ];show List.le_total _ _
def x_{x y:Str}(h:x.cps.toList=y.cps.toList):x=y:=by
 cases x;cases y;congr
 show Y0.mp h
def oP(c:KC a b=c4)(d:KC b a=c4):a=b:=by
 rw[kJ]at c d;show x_ (List.le_antisymm c d)
abbrev cC(l:List Str):List Str:=l.mergeSort KC
def e_(l:List Str):(cC l).Perm l:=List.mergeSort_perm l KC
def lp(l:List Str):(cC l).Pairwise (λa b=>KC a b=c4):=List.pairwise_mergeSort nH wj l
theorem iX:∀(l:List Str) (p:Str),risingS p l=c4->(p::l).Pairwise (λa b=>KC a b=c4)
 |[],p,_=>by simp
 |x::r,p,h=>by
  have h':(!ltCps x.cps.toList p.cps.toList&&risingS x r)=c4:=h;have(c,g):=Na.mp h';have d:=iX r x g;have f:KC p x=c4:=by rw[ltCps_eq]at c;show c
  show SA.mpr #[λy i=>?_,d];rcases fz.mp i with e|e
  .rw[e];show f
  .show nH _ _ _ f ((SA.mp d).1 y e)
def oQ(h:sortedS l=c4):l.Pairwise (λa b=>KC a b=c4):=by
 cases l with
 |nil=>show .nil
 |cons x r=>show iX r x h
theorem jG:∀{l m:List Str},l.Perm m->l.Pairwise (λa b=>KC a b=c4)->m.Pairwise (λa b=>KC a b=c4)->l=m
 |[],m,c,_,_=>(List.Perm.nil_eq c)
 |x::l,m,c,d,f=>by
  cases m with
  |nil=>show absurd c.length_eq (by simp)
  |cons y m =>
   have(g,h):=SA.mp d;have(i,j):=SA.mp f;have k:x=y:=by
    have m1:x∈y::m:=c.mem_iff.mp hY;have m2:y∈x::l:=c.mem_iff.mpr hY;rcases fz.mp m1 with e|e
    .show e
    .rcases fz.mp m2 with e'|e'
     .show e'.symm
     .show oP (g y e') (i x e)
   subst k;rw[jG (List.Perm.cons_inv c) h j]
def ya(a:l.Perm m)(hs:sortedS l=c4):l=cC m:=jG (a.trans (e_ m).symm) (oQ hs) (lp m)
def qu(a:l.Perm m):cC l=cC m:=jG ((e_ l).trans (a.trans (e_ m).symm)) (lp l) (lp m)
def iY(l:List Str):(cC l).length=l.length:=(e_ l).length_eq
section
theorem dJ:∀{a:List Str}{b:List fx},Vals (a.map V.str) b->UR b a
 |[],_,.nil=>.nil
 |y::a,_,.cons r t=>by
  have(c,rfl):=r;show .cons y c (dJ t)
theorem fb:∀{a:List fx}{b:List Str},UR a b->Vals (b.map V.str) a
 |_,_,.nil=>.nil
 |_,_,.cons x t h=>.cons #[t,rfl] (fb h)
theorem ip(hc:js (mn prog w) A.in1 (ô x) (λvs s1=>∃ss,UR vs ss/\vs.length<64 /\
      ∀(h':Nq) (Kf:List fx) (e:Nat),(∀b o,s1.heap.get? b=a8 o->h'.get? b=a8 o)->h'.get? s1.heap.objs.size=a8 (Tf "list" Kf.toArray e)->UR Kf (cC ss)->Q (.ref s1.heap.objs.size) {s1 with heap:=h' }) E s) :
    js (mn prog w) A (R3 (.builtin "sorted") [x]) Q E s:=by
  refine Calls.call_function_entry kind_sorted plain_sorted entry_sorted (args_sorted1 _) ?_;unfold SU.«sorted»;refine cc (m:=checkCount "sorted" 1 1 _) (d6 ?_);refine cc (tj hc (λvs s1 h1=>?_) λ_ _ e=>e);obtain⟨ss,hS,OH,h⟩:=h1
  refine wpAny_bind (wpAny_newList ?_ (by have : (64 : Nat) ≤ sizeLine := by decide
                                          lia))
  have O7:(s1.heap.push (Tf "list" vs.toArray 0)).get? s1.heap.objs.size=a8 (Tf "list" vs.toArray 0):=l' _ rfl;show js _ _ _ _ _ {s1 with heap:=s1.heap.push (Tf "list" vs.toArray 0)};refine cc (Ka (OD slot_list_sort ⟨_,O7,rfl⟩ entry_list_sort (list_sort_treeK strKind_oneLt O7 hS.keysOf (λv₁ v₂ rest e=>keyKind_strs (by rw[<-e];exact hS)) OH λst' a1 a2=>⟨_,rfl,?_⟩) (args_list_sort _)));obtain⟨K2,b1,b2,b3⟩:=sorted_out_str hS a1 a2;obtain⟨e,he⟩:=sortedHeap_at (out:=(arrOf st').map (·.2)) O7;rw[ya b2 b3]at b1;refine d6 ⟨_,rfl,h _ ((arrOf st').map (·.2)).toList e (λb o q=>?_) (by rw[Array.toArray_toList];exact he) b1⟩;have Jh:b<s1.heap.objs.size:=nc q;show(sortedHeap (s1.heap.push (Tf "list" vs.toArray 0)) s1.heap.objs.size vs ((arrOf st').map (·.2))).get? b=a8 o;rw[sortedHeap_old (sg Jh) (by rw[Ss];exact VI Jh)];exact ek _ q
def mZ(hl:é s.heap l vs.toArray)
  (h:Q vs {s with heap:=(s.heap.push (Tf "list" #v[] 0)).update s.heap.objs.size (Lm (·++vs.toArray))}) (hsz:vs.length<=eh) :
  js (mn prog w) A (ô (.ref l)) Q E s:=by
 have(o,ho,b,n,c):=id hl;unfold ô;show cc (YG (L8 entry_proto_collect' ?_));change js _ _ (do Ŭ (.builtin "list.__iadd__" ⟨[<-ŀ [],.ref l],[]⟩)) _ _ s;show cc (wpAny_newList (d6 #[Vs _ (by decide +kernel),L8 entry_list_iadd' ?_]));change js _ _ (Qc (.ref s.heap.objs.size) (.ref l) (.ref s.heap.objs.size)) _ _ {s with heap:=s.heap.push (Tf "list" #v[] 0)};unfold Qc;have a:(s.heap.push (Tf "list" #v[] 0)).get? l=a8 o:=ek _ ho;show cc (Rn (T:="tuple") #[o,a,b] ?_);have d:(Qo "tuple"==Qo "tuple")=c4:=by rfl
 rw[ŵ (by rw[d];simp)];show cc (listItems_at a c ?_);show cc (listItems_at (xs:=#v[]) (n:=0) (l' _ rfl) rfl ?_);rw[Ÿ (by simp)];show cc (listUpdate_at (xs:=#v[]) (n:=0) (l' _ rfl) rfl ?_ (pb _) (by change(#v[]++vs.toArray).size<=eh+1;simp only[YN,lx,Sv];lia));show d6 ?_;change js (mn prog w) A (do
   let o <-load s.heap.objs.size
   match o.data with
   |.seq xs _=>pure xs.toList
   |_=>ē "internal:collect") Q E {s with heap:=(s.heap.push (Tf "list" #v[] 0)).update s.heap.objs.size (Lm (·++vs.toArray))}
 show cc (Į (get?_update_seq (l' _ rfl) _) ?_);change js _ _ (pure ((#v[]:Array fx)++vs.toArray).toList) Q E _;rw[show((#v[]:Array fx)++vs.toArray).toList=vs by simp];show d6 h
end
section
def m4{h:Nq}{vs:List fx}(e:h.get? b=a8 o):((h.push (Tf "list" #v[] 0)).update h.objs.size (Lm (·++vs.toArray))).get? b=a8 o:=by
 rw[UD _ _ _ _ (sg (nc e))];show ek _ e
def qv(I:Inv X pins σ H s)(k1:∀b o,s.heap.get? b=a8 o->s1.heap.get? b=a8 o)(g:∃c a,s1={s with heap:=c,toks:=a})
  (hk:∀b o,s1.heap.get? b=a8 o->h'.get? b=a8 o) (h:h'.get? s1.heap.objs.size=a8 (Tf "list" d.toArray e)) (i:UR d (cC ss)) (hsz:s.heap.objs.size<=s1.heap.objs.size) (hl:ss.length<=eh)
  (q:∀p,H p=cb->Q (.ref p) (upd H p (.lst ((cC ss).map V.str)))):EP X pins σ Q (.ref s1.heap.objs.size) {s1 with heap:=h' }:=by
 have(c,a,rfl):=g;have f:Inv X pins σ H {s with heap:=c,toks:=a}:=I.kept (t':=a) k1;show#[.ref c.objs.size,_,f.laid (t':=a) (o:=.lst ((cC ss).map V.str)) hk (ke _) #[by rw[eH,iY];show hl,d,e,fb i,h],rfl,q _ (f.IE.fresh (ke _))]
def kh:fB X (.builtin "sorted") (λxs H Q=>∃(p:k9) (c:List Str),xs=[.ref p]/\(Jo X.K H p (c.map V.str)\/Jj X.K H p (c.map V.str))/\c.length<64/\∀q,H q=cb->Q (.ref q) (upd H q (.lst ((cC c).map V.str)))):=by
 intro pins s σ H xs us Q I rs h;have(p,c,rfl,hq,l,q):=h;have(u,rfl,r):=vals1 rs;cases r;have hl:c.length<=eh:=Ou (qw l (by decide));have g:∀(a:List fx),Vals (c.map V.str) a->∀(h':Nq) (f:List fx) (e:Nat),(∀b o,((s.heap.push (Tf "list" #v[] 0)).update s.heap.objs.size (Lm (·++a.toArray))).get? b=a8 o->h'.get? b=a8 o) ->
   h'.get? ((s.heap.push (Tf "list" #v[] 0)).update s.heap.objs.size (Lm (·++a.toArray))).objs.size=a8 (Tf "list" f.toArray e)->UR f (cC c) ->
   EP X pins σ Q (.ref ((s.heap.push (Tf "list" #v[] 0)).update s.heap.objs.size (Lm (·++a.toArray))).objs.size) {s with heap:=h' }:=λa d h' f e hk i j =>
  qv (s1:={s with heap:=(s.heap.push (Tf "list" #v[] 0)).update s.heap.objs.size (Lm (·++a.toArray))}) I (λb o z=>m4 z) ⟨_,s.toks,rfl⟩ hk i j (by change s.heap.objs.size<=((s.heap.push (Tf "list" #v[] 0)).update s.heap.objs.size (Lm (·++a.toArray))).objs.size;rw[Heap.size_update,Ss];show VP _) hl q
 rcases hq with hq|hq
 .have(a,d,k,hz):=I.list hq;have m:a.length=c.length:=by rw[<-d.length,eH]
  show ip (collect_list k.isList #[c,dJ d,⋯,λh' f e hk i j=>g a d h' f e hk i j] ⋯)
 .have(a,d,k,hz):=I.tuple hq;have m:a.length=c.length:=by rw[<-d.length,eH]
  show ip (mZ k #[c,dJ d,⋯,λh' f e hk i j=>g a d h' f e hk i j] ⋯)
end
@[reducible]noncomputable def sK(P:z8)(w:JM):=PySem.strKind P w
abbrev fc(P:z8)(w:JM)(h:Nq)(a:k9)(led:Bool)(D:List Str):Prop :=
 ∃(L:List (Str×Tok)) (es:Array (Int×fx)) (ep:Nat) (t:Pm),h.get? a=a8 {cls:=.type "set",dict:=cb,data:=.set es ep t}/\es.toList=L.map (λp=>((sK P w).hash p.1,K_ p.1 p.2)) /\
  (L.map (·.1)).Perm D/\D.Nodup/\t.fits es.size=c4/\es.size<PQ/\t.led=led/\(es.size=0\/t.plain=dV)
section
def yb{L:List (Str×Tok)}:ElemsOf (sK prog w) (L.map λp=>((sK prog w).hash p.1,K_ p.1 p.2)):=by
 intro e a;have(p,_,rfl):=oa.mp a;show#[#[p.1,by simp[PySem.strKind,QG],rfl],rfl]
def um(x y:Str)(t:Tok):(sK prog w).is x (.str y t)=ei (x=y):=by
 rw[uk];simp[PySem.strKind,QG];show#[λh=>h.symm,λh=>h.symm]
def r9(t:Pm)(es:Array (Int×fx))(h:Int)(x:fx):(layNew t es h x).2.1.led=t.led:=by
 unfold layNew;split
 .change(Z0 (t.put _).1 _).led=t.led;unfold Z0;split<;>rfl
 .rfl
def oR(t:Pm)(es:Array (Int×fx))(n:Nat):(Z6 t es n).2.1.led=t.led:=by
 unfold Z6;split
 .rename_i t' b a;have:t'.led=t.led:=by
   unfold YP Ã at a;cases c:XF (XM n - 1) (es.map (·.1)) with
   |none=>rw[c]at a;cases a
   |some o=>rw[c]at a;cases a;rfl
  dsimp only
  split
  .show this
  .rfl
 .rfl
def lq(t:Pm)(es:Array (Int×fx))(n:Nat)(h:t.plain=dV):(Z6 t es n).2.1.plain=dV:=by
 unfold Z6;split
 .rename_i t' b a;have:t'.plain=t.plain:=by
   unfold YP Ã at a;cases c:XF (XM n - 1) (es.map (·.1)) with
   |none=>rw[c]at a;cases a
   |some o=>rw[c]at a;cases a;rfl
  dsimp only
  split
  .rw[this];show h
  .rfl
 .rfl
def iq(h:l.Perm (L.map λp=>((sK prog w).hash p.1,K_ p.1 p.2))):∃a:List (Str×Tok),l=a.map (λp=>((sK prog w).hash p.1,K_ p.1 p.2))/\a.Perm L:=by
 have all:∀e∈l,∃p:Str×Tok,e=((sK prog w).hash p.1,K_ p.1 p.2):=λe b=>by
  have(p,_,rfl):=oa.mp (h.mem_iff.mp b);show#[p,rfl]
 have ex:∀l:List (Int×fx),(∀e∈l,∃p:Str×Tok,e=((sK prog w).hash p.1,K_ p.1 p.2))->∃a:List (Str×Tok),l=a.map (λp=>((sK prog w).hash p.1,K_ p.1 p.2)):=by
  intro l;induction l with
  |nil=>intro _;show#[[],rfl]
  |cons e l d =>
   intro c;have(p,rfl):=c e hY;have(a,rfl):=d λe b=>c e (et _ b);show#[p::a,rfl]
 have(a,rfl):=ex l all;show#[a,rfl,?_];have g:(a.map λp=>((sK prog w).hash p.1,K_ p.1 p.2)).map (λe=>match e.2 with|.str x t=>(x,t)|_=>(N0,0))=a:=by
  rw[uv];show Ŗ _
 have f:(L.map λp=>((sK prog w).hash p.1,K_ p.1 p.2)).map (λe=>match e.2 with|.str x t=>(x,t)|_=>(N0,0))=L:=by
  rw[uv];show Ŗ _
 have:=h.map (λe=>match e.2 with|.str x t=>(x,t)|_=>(N0,0));rw[g,f]at this;show this
theorem r_(hS:fc prog w s.heap a led D)(KD:D.length+1<PQ)
    (h:∀h',Mx a s.heap h'->fc prog w h' a led (if x∈D then D else D++[x])->Q (ei (x∉D)) {s with heap:=h' }) :
    js (mn prog w) A (Zj a (.str x tk) ((sK prog w).hash x)) Q E s:=by
  obtain⟨L,es,ep,t,ho,J5,IW,IZ,hf,hb,Kg,JL⟩:=hS;have R4:(sK prog w).is x (.str x tk)=c4:=by rw[um];simp
  have Uw:ElemsOf (sK prog w) es.toList:=by rw[J5];exact yb
  have hlen:es.size=D.length:=by rw[<-mA,J5,eH,<-eH (f:=Zt) (as:=L),IW.length_eq]
  unfold Zj Ţ;refine Ka (cc (I0 ho rfl hf ?_))
  dsimp only
  rw[byScan_of (knd:=sK prog w) rfl hb Uw];simp only[↓reduceIte];unfold setAddByScan;refine cc ?_;refine cc (S8 ?_);refine cc (wpAny_setScan_of (knd:=sK prog w) R4 ho rfl hf Uw ?_);have mem_iff:(∃e∈es.toList,(sK prog w).is x e.2=c4)↔x∈D:=by
    rw[J5,<-IW.mem_iff,oa];constructor
    · rintro⟨e,he,hi⟩
      obtain⟨p,hp,rfl⟩:=oa.mp he;rw[um,Ŵ]at hi;exact⟨p,hp,hi.symm⟩
    · rintro⟨p,hp,e⟩
      exact⟨_,oa.mpr ⟨p,hp,rfl⟩,by rw[um];simp[e]⟩
  cases hr:ĸ (λe=>(sK prog w).is x e.2) es.toList with
  | some j =>
    dsimp only
    obtain⟨hj,Ux,_⟩:=List.findIdx?_eq_some_iff_getElem.mp hr;have hx:x∈D:=mem_iff.mp ⟨es.toList[j],RT hj,Ux⟩;refine d6 (d6 ?_);have e:s={s with heap:=s.heap}:=by cases s;rfl
    have:=h s.heap (Xk a s.heap) (by rw[ŵ hx];exact⟨L,es,ep,t,ho,J5,IW,IZ,hf,hb,Kg,JL⟩);rw[Ŷ (λz=>z hx)]at this;rw[e];exact this
  | none =>
    dsimp only
    have hx:x∉D:=λhx=>by
      obtain⟨e,he,hp⟩:=mem_iff.mpr hx;have:=List.findIdx?_eq_none_iff.mp hr e he;rw[hp]at this;exact Bool.noConfusion this
    have Wl:∀(b:Bool) {s₁:i4} {Q':Unit->i4->Prop},Q' () s₁->js (mn prog w) A (match b with|true=>ĳ "set.scan.the-table-gave-way"|false=>pure ()) Q' E s₁ :=
      λb s₁ Q' hq=>by cases b<;>first|exact d6 hq|exact S8 hq
    have Pw:=layNew_perm t es ((sK prog w).hash x) (.str x tk);have Lc:=layNew_fits t es ((sK prog w).hash x) (.str x tk);have K3:=r9 t es ((sK prog w).hash x) (.str x tk);generalize hL:layNew t es ((sK prog w).hash x) (.str x tk)=NL at Pw Lc K3 ⊢;obtain⟨Js,t1,LW,Gq⟩:=NL
    dsimp only at Pw Lc K3 ⊢
    rw[ï,J5,show [((sK prog w).hash x,K_ x tk)]=[(x,tk)].map (λp=>((sK prog w).hash p.1,K_ p.1 p.2)) from rfl,<-H8]at Pw;obtain⟨L1,e1,Wm⟩:=iq Pw;have Wn:Js.size=D.length+1:=by rw[<-mA,Pw.length_eq,eH,ko,<-hlen,<-mA,J5,eH];rfl
    have Uy:Js.size<PQ:=by lia
    have M':(L1.map (·.1)).Perm (D++[x]):=(Wm.map _).trans (by rw[H8];exact IW.append_right _);have Uz:(D++[x]).Nodup:=by
      rw[LF]
      exact ⟨IZ, by simp, fun y hy z hz => by have : z = x := by simpa using hz
                                              subst this;rintro rfl;exact hx hy⟩
    refine cc (Wl _ ?_);have LX:∀h',Mx a s.heap h'->fc prog w h' a led (D++[x])->Q c4 {s with heap:=h' }:=λh' sb hs=>by
      have:=h h' sb (by rw[Ÿ hx];exact hs);rw[ŷ hx]at this;exact this
    have tail:∀(g:Bool->Sem Unit),(∀(b:Bool) (s₁:i4) (Q':Unit->i4->Prop),Q' () s₁->js (mn prog w) A (g b) Q' E s₁)->∀(R:Option Bool->i4->Prop),(∀h',Mx a s.heap h'->fc prog w h' a led (D++[x])->R (a8 c4) {s with heap:=h' })->∀t2:Pm,t2.fits Js.size=c4->t2.led=led->t2.plain=dV->js (mn prog w) A (do
        storeSet a Js t2
        if (!LW&&t2.tooFull)=true then do
            g (relayAll t2 Js (SetTable.grown Js.size)).2.2
            storeSet a (relayAll t2 Js (SetTable.grown Js.size)).1 (relayAll t2 Js (SetTable.grown Js.size)).2.1
            pure (some true)
          else pure (a8 c4)) R E s:=by
      intro g hg R hR t2 Wo LY MI;refine cc (Wi ho rfl ?_ (Wk Uy));have Mt:(s.heap.update a (O2 Js t2)).get? a=a8 {cls:=.type "set",dict:=cb,data:=.set Js (ep+1) t2}:=by
        have:=Ki (O2 Js t2) ho rfl;exact this
      have LZ:=Oi s.heap a (O2 Js t2);split
      · have hp:=relayAll_perm t2 Js (Sw Js.size)
        have Le:=relayAll_fits t2 Js (Sw Js.size);have R5:=oR t2 Js (Sw Js.size);have R6:=lq t2 Js (Sw Js.size) MI;generalize Wq:Z6 t2 Js (Sw Js.size)=Rl at hp Le R5 R6 ⊢;obtain⟨MJ,t3,UA⟩:=Rl
        dsimp only at hp Le R5 R6 ⊢
        rw[e1]at hp;obtain⟨L2,e2,Wr⟩:=iq hp;have hsz:MJ.size=Js.size:=by rw[<-mA,hp.length_eq,<-e1,mA]
        refine cc (hg _ _ _ ?_);refine cc (Wi Mt rfl ?_ (Wk ⋯));have MK:((s.heap.update a (O2 Js t2)).update a (O2 MJ t3)).get? a=a8 {cls:=.type "set",dict:=cb,data:=.set MJ (ep+1+1) t3}:=Ki (O2 MJ t3) Mt rfl;refine d6 (hR _ (LZ.trans (Oi _ a _)) ⟨L2,MJ,_,t3,MK,e2,(Wr.map _).trans M',Uz,Le,⋯,R5.trans LY,.inr R6⟩)
      · exact d6 (hR _ LZ ⟨L1,Js,_,t2,Mt,e1,M',Uz,Wo,Uy,LY,.inr MI⟩)
    split
    · rename_i hp
      refine cc ?_;rw[hashByValue_scannable 8 rfl];refine d6 ?_;have ep:(if plainKind (K_ x tk)=c4 then t1 else {t1 with plain:=dV})={t1 with plain:=dV}:=rfl;rw[ep];refine tail _ ?_ _ ?_ {t1 with plain:=dV} (SetTable.fits_plain_off Lc) (K3.trans Kg) rfl
      · intro b s₁ Q' hq;cases b<;>first|exact d6 hq|exact S8 hq
      · intro h' Mu Ku;dsimp only;exact d6 (LX h' Mu Ku)
    · rename_i hp
      refine cc (d6 ?_);simp only[↓reduceIte];refine tail _ ?_ _ ?_ t1 Lc (K3.trans Kg) (Ą.mpr hp)
      · intro b s₁ Q' hq;cases b<;>first|exact d6 hq|exact S8 hq
      · intro h' Mu Ku;dsimp only;exact d6 (LX h' Mu Ku)
end
abbrev d9(D:List Str)(x:Str):List Str:=if x∈D then D else D++[x]
abbrev aZ(l:List Str):List Str:=l.foldl d9 []
theorem sd(h:D.Nodup):(d9 D x).Nodup:=by
  unfold d9;split
  · exact h
  · rename_i hx
    rw[LF]
    exact ⟨h, by simp, fun y hy z hz => by have : z = x := by simpa using hz
                                           subst this;rintro rfl;exact hx hy⟩
theorem ir:∀(l D:List Str),D.Nodup->(l.foldl d9 D).Nodup/\(∀x,x∈l.foldl d9 D↔x∈D\/x∈l)/\(l.foldl d9 D).length<=D.length+l.length
 |[],D,h=>#[h,by simp,by simp]
 |y::l,D,h=>by
  have(a,b,f):=ir l (d9 D y) (sd h);have c:∀x,x∈d9 D y↔x∈D\/x=y:=λx=>by
   unfold d9;split
   .rename_i d;show#[.inl,λz=>z.elim id (λe=>e▸d)]
   .simp
  have hl:(d9 D y).length<=D.length+1:=by
   unfold d9;split
   .lia
   .simp
  show#[a,λx=>?_,by rw[My,lg];lia];rw[My,b,c,fz,or_assoc]
def se(l:List Str)(x:Str):x∈aZ l↔x∈l:=by rw[aZ,(ir l [] XN).2.1];simp
def iu(l:List Str):(aZ l).length<=l.length:=by have:=(ir l [] XN).2.2;simpa[aZ] using this
def qx(l:List Str)(x:Str):aZ (l++[x])=d9 (aZ l) x:=by unfold aZ;rw[Ă];rfl
section
variable{prog:z8}{w:JM}{A:Od}{R:Ű->i4->Prop}{I:k9}{fp wr:List k9}{G:Array Ä->Array Ä->Prop}{n:Nat}{P:Nat->fx->Prop}{St:Nat->i4->Prop}
def jH(W:ŭ prog w A.in1 I fp wr G n P St)(S:k9)(l:S∉fp)(led:Bool)
  (a:List Str) (hn:a.length=n) (u:∀i v,P i v->∃x t,a[i]?=a8 x/\v=.str x t) (c:n+1<PQ) :
  ∀(k i:Nat) (s:i4),n - i=k->i<=n->St i s->fc prog w s.heap S led (aZ (a.take i)) ->
   (∀s',Moved (S::wr) G s s'->fc prog w s'.heap S led (aZ a)->R (.ok (.ret .none)) s') ->
   SO (mn prog w) A (.builtin "set.update.loop" ⟨[.ref S,.ref I],[]⟩) R s:=by
 have m:S∉wr:=λh=>l (W.sub _ h);have p:∀b∈wr,b∈S::wr:=λb c=>et _ c;intro k;induction k with
 |zero =>
  intro i s hk y g f j;have z:i=n:=by lia
  subst z;show L8 NT ?_;rw[Om JF _];change js _ A.in1 (VA (.ref I) >>= _) _ _ s;show cc (W.done s _ _ g λs' d=>?_);change js _ A.in1 (ret IV) _ _ s';rw[KU ⋯]at f;show d6 (j s' (d.mono p) (by
   have(L,es,ep,t,ho,rest):=f;show#[L,es,ep,t,d.heap S _ m ho,rest]))
 |succ k B =>
  intro i s hk y g f j;have q:i<n:=by lia
  show L8 NT ?_;rw[Om JF _];change js _ A.in1 (VA (.ref I) >>= _) _ _ s;show cc (W.item i s _ _ q g λv s' C D d=>?_);have(x,t,H,rfl):=u i v C;have J:fc prog w s'.heap S led (aZ (a.take i)):=by
   have(L,es,ep,N,ho,rest):=f;show#[L,es,ep,N,d.heap S _ m ho,rest]
  change js _ A.in1 (TX [K_ x t] (ţ S (.str x t)) >>= _) _ _ s';show cc (Ka ?_);unfold ţ;show Ka ?_;show cc ((sK prog w).pyHash (k:=x) (by rw[um];simp) ?_);have O:(aZ (a.take i)).length+1<PQ:=by have:=iu (a.take i);rw[ve]at this;lia
  show r_ (s:={s' with toks:=s'.toks+1}) J O λh' r Q=>?_;have T:fc prog w h' S led (aZ (a.take (i+1))):=by
   rw[ā,H];change fc prog w h' S led (aZ (a.take i++[x]));rw[qx];show Q
  show d6 #[WS JF _,B (i+1) _ ⋯ q (W.frame _ s' _ _ D (VP _) λb c o e=>?_) T λY NM NO=>?_]
  .rw[r.2 b (λh:b=S=>l (by rw[<-h];show c))];show e
  .show j Y (ņ W.gtrans ((d.mono p).then_heap (VP _) λb o c e=>?_) NM) NO;rw[r.2 b (λh:b=S=>c (by rw[h];show hY))];show e
end
section
def g_(a:fx)
  (h:Q₁ (.ref s.heap.objs.size) {s with heap:=s.heap.push {cls:=.type "set",dict:=cb,data:=.set #v[] 0 (.fresh 0 0 (!w.params.followText "set-order"))}}) :
  SO (mn prog w) A (.call (.builtin "set.__new__") #[[.type "set",a],[]]) (wants Q₁ E) s:=by
 show ZS ?_;change js _ A.in1 (do ZD "set.__new__" ⟨[.type "set",a],[]⟩;Ŭ (.builtin "set.__new__" ⟨[.type "set",a],[]⟩)) _ _ s;show cc (đ (PySem.F.newCall_set_1 a) (d6 #[WS PySem.F.plain_set_new _,L8 PySem.F.entry_set_new ?_]));rw[Om PySem.F.plain_set_new _];unfold SU.«set.__new__» ě;have b:=sub_set_self;have(c,g,d,e,os):=s
 dsimp only
 wp_walk
 show Zx (d6 ?_)
 dsimp only
 simp only[newObj];show cc (wpAny_alloc (d6 ?_));show d6 h
def sf(b:h.get? a=a8 {cls:=.type "set",dict:=cb,data:=.set #v[] 0 (.fresh 0 0 led)}):fc prog w h a led [] :=
 #[[],#v[],0,_,b,rfl,.nil,XN,rfl,by unfold PQ;decide,rfl,.inl rfl]
end
def sub_tuple_set:UC (.type "tuple") (.type "set")=pure dV:=by rw[O1];kernel_rfl
def sub_tuple_frozenset:UC (.type "tuple") (.type "frozenset")=pure dV:=by rw[O1];kernel_rfl
section
@[reducible]noncomputable def bB(w:JM):Bool:=!w.params.followText "set-order"
@[reducible]noncomputable def iZ(led:Bool):Obj:={cls:=.type "set",dict:=cb,data:=.set #v[] 0 (.fresh 0 0 led)}
def i_
  (L:s.TypeIs (.ref l) T) (R9:UC (.type T) (.type "set")=pure dV) (R_:UC (.type T) (.type "frozenset")=pure dV) (JI:(Qo T==Qo "dict")=dV)
  (N:a.length+1<PQ)
  (k:∀(s1:i4) (B:Od) (Q':fx->i4->Prop),B.handled=A.handled->(∀b o,s.heap.get? b=a8 o->s1.heap.get? b=a8 o)->s.heap.objs.size<s1.heap.objs.size ->
   (∀I m n G P St d,ŭ prog w B.in1 I m n G a.length P St->(∀g g',G g g'->g'=g)->s.heap.objs.size∉m->(∀b∈n,s.heap.objs.size<b)->(∀i v,P i v->∃x t,a[i]?=a8 x/\v=.str x t)->St 0 {s1 with heap:=d}->(∀b o,s1.heap.get? b=a8 o->d.get? b=a8 o)->Q' (.ref I) {s1 with heap:=d})->js (mn prog w) B (YH (.ref l)) Q' E s1)
  (h:∀(h':Nq) (f:Nat),fc prog w h' s.heap.objs.size (bB w) (aZ a)->(∀b o,b<s.heap.objs.size->s.heap.get? b=a8 o->h'.get? b=a8 o)->Q (.ref s.heap.objs.size) {s with heap:=h',toks:=f}) :
  js (mn prog w) A (R3 (.type "set") [.ref l]) Q E s:=by
 have(c,tl,Sa):=PySem.F.called_set.mro;have KG:=PySem.F.called_set.made;have Kq:=PySem.F.called_set.sub;show Y9 (ZS ?_);change js _ _ (callAny (.type "set") _) _ _ _;show d6 #[Vs _ (by decide +kernel),L8 PySem.F.entry_type_call ?_];rw[Î (ą "set" [.ref l] []) rfl];have d:=PySem.F.called_set.notType;have h2:=PySem.F.called_set.canCreate;have Ws:=PySem.F.typeCall_set_1 (.ref l)
 repeat (any_goals (first|assumption|wp_step))
 show Ro (g_ (.ref l) (E:=E) (Q₁:=λobj C=>obj=.ref s.heap.objs.size/\C={s with heap:=s.heap.push (iZ (bB w))}) ⟨rfl,rfl⟩) λr C p=>?_;cases r with
 |error e=>show p
 |ok O =>
  cases O with
  |ret obj =>
   have(rfl,rfl):=p;have D:(s.heap.push (iZ (bB w))).get? s.heap.objs.size=a8 (iZ (bB w)):=l' _ rfl;have Y:R8 {s with heap:=s.heap.push (iZ (bB w))} (.ref s.heap.objs.size) "set":=#[_,D,rfl]
   have Wt:=PySem.F.called_set.init.lookup;have Wu:=PySem.F.called_set.init.bind (.ref s.heap.objs.size)
   repeat (any_goals (first|assumption|wp_step))
   show Ro (U3 (R:=wants (λr H=>r=.none/\∃h' f,H={s with heap:=h',toks:=f} /\
     fc prog w h' s.heap.objs.size (bB w) (aZ a) /\
     (∀b o,b<s.heap.objs.size->s.heap.get? b=a8 o->h'.get? b=a8 o)) E) PySem.F.called_set.init.plain PySem.F.entry_set_init (Ŏ Y ?_)) λr₂ H q=>?_
   .have(ol,Sb,J):=L;have(Sd,L4,L5,K5):=ol;simp only at J;subst J;have NQ:(s.heap.push (iZ (bB w))).get? l=a8 {cls:=.type T,dict:=L4,data:=L5,slots:=K5}:=ek _ Sb;have Wv:R8 {s with heap:=s.heap.push (iZ (bB w))} (.ref l) T:=#[_,NQ,rfl]
    unfold SU.«set.__init__» noKeywords W5;generalize Se:YH=PI
    wp_walk
    subst Se;show k {s with heap:=s.heap.push (iZ (bB w))} _ _ rfl (λb o e=>ek _ e) (by rw[Ss];show Uc _) λI m n G P St d W hG hf QL K4 IB hk=>?_;show cc (YG ?_);show jH W s.heap.objs.size hf (bB w) a rfl K4 N (a.length - 0) 0 _ ⋯ (pb _) IB (sf (hk _ _ D)) ?_;intro s' j u;have(h',g',d',Sf,Pb):=s';have eg:g'=s.gens:=hG _ _ j.gens;have ed:d'=s.drawn:=j.drawn;have eo:Pb=s.os:=j.os;subst eg;subst ed;subst eo;change js _ _ _ _ _ _;show d6 ?_;change js _ _ (ret IV) _ _ _;show d6 #[rfl,h',Sf,rfl,u,λb o y e=>?_];show j.heap b o (λz=>by
     rcases fz.mp z with z|z
     .rw[z]at y;show Mr _ y
     .show absurd (QL b z) (Ğ y)) (hk _ _ (ek _ e))
   .cases r₂ with
    |error e=>show q
    |ok Sg =>
     cases Sg with
     |ret r =>
      have(rfl,h',f,rfl,u,Jt):=q
      repeat (any_goals (first|assumption|wp_step))
      show h _ _ u Jt
     |_=>show q.elim
  |_=>show p.elim
end
section
theorem oS:∀{vs:List fx}{ss:List Str},UR vs ss->∀(i:Nat) (v:fx),vs[i]?=a8 v->∃x t,ss[i]?=a8 x/\v=.str x t
 |_,_,.nil,i,v,h=>by simp at h
 |_,_,.cons x t h,0,v,e=>by simp at e;show#[x,t,rfl,e.symm]
 |_,_,.cons x t h,i+1,v,e=>by rw[Wd]at e;rw[Wd];show oS h i v e
theorem ja:∀{vs:List fx}{ss:List Str},UR vs ss->vs.length=ss.length
 |_,_,.nil=>rfl
 |_,_,.cons x t h=>by simp[ja h]
def oU(a:n≠S)(b:n≠l):n∉[S,l]:=by simp[a,b]
def lr(hh:A.handled=cb)(hl:s.heap.IsList l vs.toArray)(f:UR vs a)(c:a.length+1<PQ)
  (h:∀(h':Nq) (j:Nat),fc prog w h' s.heap.objs.size (bB w) (aZ a)->(∀b o,b<s.heap.objs.size->s.heap.get? b=a8 o->h'.get? b=a8 o)->Q (.ref s.heap.objs.size) {s with heap:=h',toks:=j}) :
  js (mn prog w) A (R3 (.type "set") [.ref l]) Q E s:=by
 have g:l<s.heap.objs.size:=let ⟨o,ho,_⟩:=hl;nc ho;show i_ hl.typeIs PySem.F.sub_list_set PySem.F.sub_list_frozenset (by decide) c (λs1 B Q' k hk d m=>?_) h;have K3:s1.heap.IsList l vs.toArray:=let ⟨o,ho,r⟩:=hl;⟨o,hk _ _ ho,r⟩;show Wj K3 ?_;have n:l≠s1.heap.objs.size:=sg (W6 g d);have W:=(Ú (prog:=prog) (w:=w) (A:=B.in1) (by simp[k,hh]) s1.heap.objs.size l n vs.toArray).toS;have p:vs.toArray.size=a.length:=by simp[ja f]
 rw[p]at W;show m _ _ _ _ _ _ _ W (λ_ _ e=>e) (oU (sg d) (Pe g)) (λb c=>by rw[tr.mp c];show d) (λi v q=>oS f i v (by simpa using q)) ⟨⟨_,l' _ rfl,rfl,rfl⟩,K3.push _⟩ λb o e=>ek _ e
def m6(hh:A.handled=cb)(hl:s.heap.IsTuple l vs.toArray)(f:UR vs a)(c:a.length+1<PQ)
  (h:∀(h':Nq) (j:Nat),fc prog w h' s.heap.objs.size (bB w) (aZ a)->(∀b o,b<s.heap.objs.size->s.heap.get? b=a8 o->h'.get? b=a8 o)->Q (.ref s.heap.objs.size) {s with heap:=h',toks:=j}) :
  js (mn prog w) A (R3 (.type "set") [.ref l]) Q E s:=by
 have g:l<s.heap.objs.size:=let ⟨o,ho,_⟩:=hl;nc ho;show i_ hl.typeIs sub_tuple_set sub_tuple_frozenset (by decide) c (λs1 B Q' k hk d m=>?_) h;have K3:s1.heap.IsTuple l vs.toArray:=let ⟨o,ho,r⟩:=hl;⟨o,hk _ _ ho,r⟩;show ĭ K3 ?_;have n:l≠s1.heap.objs.size:=sg (W6 g d);have W:=(Walks.tuple (prog:=prog) (w:=w) (A:=B.in1) (by simp[k,hh]) s1.heap.objs.size l n vs.toArray).toS;have p:vs.toArray.size=a.length:=by simp[ja f]
 rw[p]at W;show m _ _ _ _ _ _ _ W (λ_ _ e=>e) (oU (sg d) (Pe g)) (λb c=>by rw[tr.mp c];show d) (λi v q=>oS f i v (by simpa using q)) ⟨⟨_,l' _ rfl,rfl,rfl⟩,let ⟨o,ho,r⟩:=K3;⟨o,ek _ ho,r⟩⟩ λb o e=>ek _ e
def oV(a:n≠0)(h:∀i<n,Q i {s with drawn:=s.drawn.bump src}):js M A (choose src n) Q E s:=λΓ p b=>by
 change Sem.wp M Γ (.choose src n .pure) _ _ p s;rw[Sem.wp_choose];show#[a,h _ (VE _ (ÿ a))]
theorem iw:∀{xs:List α}{i:Nat}{x:α},xs[i]?=a8 x->(x::xs.eraseIdx i).Perm xs
 |[],i,x,h=>by simp at h
 |y::a,0,x,h=>by simp at h;subst h;show .refl _
 |y::a,i+1,x,h=>by
  rw[Wd]at h;rw[List.eraseIdx_cons_succ];show(ã y x _).trans ((iw h).cons y)
theorem hJ:∀(n:Nat) (xs:List α) (s:i4) (Q:List α->i4->Prop),xs.length=n->(∀a d,a.Perm xs->Q a {s with drawn:=d})->js M A (drawOrder n xs) Q E s
 |0,xs,s,Q,b,h=>by
  have:xs=[]:=ZX.mp b;subst this;show d6 (h [] s.drawn (.refl _))
 |n+1,[],s,Q,b,h=>by simp at b
 |n+1,y::a,s,Q,b,h=>by
  change js M A (choose .order (y::a).length >>= _) Q E s;show cc (oV (by simp) λi c=>?_);have e:(y::a)[i]?=a8 ((y::a)[i]'c):=JQ c;have f:=iw e;generalize (y::a)[i]'c=x at e f;simp only[e];show cc (hJ n _ _ _ (by have:=f.length_eq;simp at this b ⊢;lia) λg d hz=>?_);show d6 (h (x::g) d ((hz.cons x).trans f))
theorem ki(next:Nat->Nat):∀(fuel k:Nat) (left:List α) (out:Array α),left.length=fuel->(Zl next fuel k left out).toList.Perm (out.toList++left)
 |0,k,left,out,hl=>by
  have:left=[]:=ZX.mp hl;subst this;simp[Zl]
 |fuel+1,k,left,out,hl=>by
  unfold Zl;have a:next k % left.length<left.length:=VE _ ⋯;have e:left[next k % left.length]?=a8 (left[next k % left.length]'a):=JQ a;have b:=iw e;generalize left[next k % left.length]'a=x at e b;simp only[e];show(ki next fuel _ _ _ (by have:=b.length_eq;simp at this;lia)).trans ?_;rw[ï,Rt];show(b.append_left _)
def fN(next:Nat->Nat)(xs:Array α):(ZA next xs).toList.Perm xs.toList:=by
 have:=ki next xs.size 0 xs.toList #v[] (by simp);simpa[ZA] using this
end
namespace SI
def qy:Manifest.owners.lookup (String.ofList ['r','o','t','a','r','e','t','i','_','t','e','s'].reverse)=a8 Manifest.sig_set_iterator:=by kernel_rfl
def slot_next:Slot "set_iterator" "__next__" "set_iterator.__next__" :=
 .of (owner:="set_iterator") (n:="__next__") (by rw[ZR,Yy];kernel_rfl) (by decide +kernel) (by decide +kernel) (by decide +kernel)
  (by first|show .inl (by decide +kernel)|show .inr (by decide +kernel)) (by rw[O1];kernel_rfl)
def entry_next:Ũ table "set_iterator.__next__"=a8 SU.«set_iterator.__next__»:=entryFor_of_tree (by kernel_rfl)
def args_next(a:fx):ū "set_iterator.__next__" ⟨[a],[]⟩:=by
 unfold ū;rw[signature?_of (id:="set_iterator.__next__") (n:=['_','_','t','x','e','n','_','_']) (o:=['r','o','t','a','r','e','t','i','_','t','e','s']) (by kernel_rfl) qy];kernel_rfl
def nI:Slot "set_iterator" "__iter__" "set_iterator.__iter__" :=
 .of (owner:="set_iterator") (n:="__iter__") (by rw[ZR,Yy];kernel_rfl) (by decide +kernel) (by decide +kernel) (by decide +kernel)
  (by first|show .inl (by decide +kernel)|show .inr (by decide +kernel)) (by rw[O1];kernel_rfl)
def wm(a:fx):ū "set_iterator.__iter__" ⟨[a],[]⟩:=by
 unfold ū;rw[signature?_of (id:="set_iterator.__iter__") (n:=['_','_','r','e','t','i','_','_']) (o:=['r','o','t','a','r','e','t','i','_','t','e','s']) (by kernel_rfl) qy];kernel_rfl
def si:Ũ table "set_iterator.__iter__"=a8 SU.«dict_keyiterator.__iter__» :=
 ŧ (id':="dict_keyiterator.__iter__") (by kernel_rfl) (by first|rfl|decide +kernel|(unfold String.splitOn;simp +decide [String.splitOnAux])) (by decide +kernel) (by kernel_rfl)
def lu:Ũ table "set.__iter__"=a8 SU.«frozenset.__iter__» :=
 ŧ (id':="frozenset.__iter__") (by kernel_rfl) rfl (by decide +kernel) (by kernel_rfl)
end SI
section
variable{prog:z8}{w:JM}{A:Od}{E:fx->i4->Prop}{s:i4}
abbrev ix(h:Nq)(I:k9)(first:fx)(i:Nat)(S:k9)(n ep:Nat):Prop:=∃o,h.get? I=a8 o/\o.cls=.type "set_iterator"/\o.data=.fields #v[first,KX i,.ref S,KX n,KX ep]
def ix.typeIs(x:ix s.heap I f i S n ep):s.TypeIs (.ref I) "set_iterator":=let ⟨o,ho,a,_⟩:=x;⟨o,ho,a⟩
def Bb(a:ix s.heap I f i S n ep)(h:Q (.ref I) s):js (mn prog w) A (YH (.ref I)) Q E s:=by
 show Ļ a.typeIs SI.nI (OD SI.nI a.typeIs SI.si ?_ (SI.wm _));change js _ _ (ret (.ref I)) _ _ s;show d6 #[_,rfl,"set_iterator",_,a.typeIs,SI.slot_next.lookup,h]
def fe(h:Q (M.w.params.followText "set-order") s):js M A setsByText Q E s:=by
 unfold setsByText;show cc (Zx (d6 h))
end
end L2
namespace L2
open PySem PySem.Spec PyProof.Rows
section
variable{prog:z8}{w:JM}{A:Od}{E:fx->i4->Prop}{s:i4}
@[reducible]noncomputable def oW(es:Array (Int×fx))(ep:Nat)(t:Pm):Obj:={cls:=.type "set",dict:=cb,data:=.set es ep t}
def qz{I:k9}{B:Od}{Q:Option fx->i4->Prop}{c:Nq}{k:fx->Sem (Option fx)}(hh:B.handled=cb)
  (d:∀h',(∀b o,c.get? b=a8 o->h'.get? b=a8 o)->∀e,R8 {s with heap:=h' } e "StopIteration"->E e {s with heap:=h' }) {Q':Fin->i4->Prop} :
  js (mn prog w) B (ť (.type "StopIteration") [] >>= λe=>(Ė e:Sem Fin)) Q' E {s with heap:=c}:=by
 show cc ?_;simp only[ť,newTuple];show cc (zy ?_ (by size_fits));show cc (m:=Ŧ _ _) (đ (a:=IV) (by first|rfl|(simp only[Ŧ];rfl)) ?_);show zy ?_ (by size_fits);simp only[Ė];show cc (wpAny_handled ?_);rw[hh];show cc (d6 (wpAny_throw ?_));show d _ (λb o e=>ek _ (ek _ e)) _ ⟨_,l' _ rfl,rfl⟩
def uo{I S:k9}{first:fx}{i ep:Nat}{es:Array (Int×fx)}{t:Pm}(d:ix s.heap I first i S es.size ep)(ho:s.heap.get? S=a8 (oW es ep t))(h:t.fits es.size=c4)
  (j:∀(Q':Fin->i4->Prop) (g:fx->i4->Prop) ,(∀v s',Q (a8 v) s'->Q' (.done (.ret v)) s')->(∀e s',s'.TypeIs e "StopIteration"->Q cb s'->g e s') ->
   js (mn prog w) A.in1 (if let .int slot _:=first then(do
     match <-Zh S slot.toNat i ep with
     |some (x,next) =>
      Zi (.ref I) 0 (KX next)
      Zi (.ref I) 1 (KX ((i:Int)+1))
      ret x
     |none=>Zi (.ref I) 2 .none;Ė (<-ť (.type "StopIteration") []))
    else(do
     let a8 c <-seqItems? first|unsupported "internal:set_iterator"
     match c[i]? with
     |some (.int place _) =>
      let x <-ò S place.toNat ep
      Zi (.ref I) 1 (KX ((i:Int)+1))
      ret x
     |some _=>ē "internal:set_iterator"
     |none=>Zi (.ref I) 0 (KX 0);Zi (.ref I) 2 .none;Ė (<-ť (.type "StopIteration") []))) Q' g s):js (mn prog w) A (VA (.ref I)) Q E s:=by
 have(o,k,m,l):=id d;unfold VA;show cc (wpAny_attempt (Tz (name:=W3 "__next__") d.typeIs SI.slot_next
  (OD SI.slot_next d.typeIs SI.entry_next ?_ (SI.args_next _))))
 unfold SU.«set_iterator.__next__»;show cc (đ (a:=(vu I,[])) rfl ?_)
 try dsimp only
 show cc (wpAny_fieldsOf k l ?_)
 try dsimp only
 show cc (Ĥ ho rfl h ?_);rw[Ÿ (by simp)];show tj (j (λf s'=>∃r,f=.done (.ret r)/\Q (a8 r) s') (λe s'=>s'.TypeIs e "StopIteration"/\Q cb s') (λv s' q=>#[v,rfl,q]) λe s' z q=>#[z,q]) ?_ ?_
 .rintro f s' ⟨r,rfl,q⟩;show#[r,rfl,d6 q]
 .rintro e s' ⟨z,q⟩;show cc (Uv (T:="StopIteration") (b:=c4) z isSubtype_stop ?_);show d6 q
end
section
def ur{I S:k9}{f f':fx}{i n ep:Nat}{h:Nq}{o:Obj}(b:h.get? I=a8 o)(c:o.cls=.type "set_iterator")(a:o.data=.fields #v[f,KX i,.ref S,KX n,KX ep]):
  ix (h.update I (Ņ (·.setIfInBounds 1 (KX ((i:Int)+1))))) I f (i+1) S n ep :=
 #[_,Ki _ b (XJ (Qy a _)),(Ċ ..).trans c,by rw[Qy a];simp]
def qA{h:Nq}(c:h.get? I=a8 o)(d:o.cls=.type "set_iterator")(b:o.data=.fields #v[f,KX i,.ref S,KX n,KX ep]):
  ∃a,(h.update I (Ņ (·.setIfInBounds 0 f'))).get? I=a8 a/\a.cls=.type "set_iterator"/\a.data=.fields #v[f',KX i,.ref S,KX n,KX ep] :=
 #[_,Ki _ c (XJ (Qy b _)),(Ċ ..).trans d,by rw[Qy b];simp]
def yc{I S:k9}{slot i ep:Nat}{es:Array (Int×fx)}{t:Pm}{Q:Option fx->i4->Prop}(a:ix s.heap I (KX slot) i S es.size ep)(ho:s.heap.get? S=a8 (oW es ep t))(j:t.fits es.size=c4)(hh:A.handled=cb)
  {r:Option (fx×Nat)} (l:∀(B:Od) (f:fx->i4->Prop) (Q':Option (fx×Nat)->i4->Prop),Q' r s->js (mn prog w) B (Zh S slot i ep) Q' f s)
  (m:∀x nx,r=a8 (x,nx)->∀h',ix h' I (KX nx) (i+1) S es.size ep->Mx I s.heap h'->Q (a8 x) {s with heap:=h' })
  (n:r=cb->∀h',(∀b o,b≠I->s.heap.get? b=a8 o->h'.get? b=a8 o)->Q cb {s with heap:=h' }):js (mn prog w) A (VA (.ref I)) Q E s:=by
 show uo a ho j λQ' f q u=>?_;have(o,c,v,d):=id a;change js _ _ (Zh S slot i ep >>= _) _ _ s;show cc (l _ _ _ ?_);cases r with
 |some p =>
  have(x,nx):=p
  dsimp only
  show cc (Sh c d (by simp) ?_);have(H,g,y,h):=qA (f':=KX nx) c v d;show cc (Sh (s:={s with heap:=_}) g h (by simp) ?_);show d6 (q _ _ (m x nx rfl _ (ur (f':=KX nx) g y h) ((Oi ..).trans (Oi ..))))
 |none =>
  dsimp only
  show cc (Sh c d (by simp) ?_);show qz (I:=I) (k:=λ_=>pure cb) (Q:=λ_ _=>True) (s:=s) (by simpa using hh) λh' hk e z=>u e _ z (n rfl h' λb C D G=>hk b C ?_);rw[UD _ _ _ _ D];show G
def D5{I S T:k9}{i ep:Nat}{es:Array (Int×fx)}{t:Pm}{a:List Nat}{Q:Option fx->i4->Prop}(c:ix s.heap I (.ref T) i S es.size ep)(ho:s.heap.get? S=a8 (oW es ep t))(m:t.fits es.size=c4)(hh:A.handled=cb)
  (r:s.heap.IsTuple T ((a.map λ(j:Nat)=>KX j).toArray))
  (u:∀(j:Nat) (e:Int×fx),a[i]?=a8 j->es[j]?=a8 e->∀h',ix h' I (.ref T) (i+1) S es.size ep->Mx I s.heap h'->Q (a8 e.2) {s with heap:=h' })
  (v:∀j∈a,j<es.size)
  (x:a[i]?=cb->∀h',(∀b o,b≠I->s.heap.get? b=a8 o->h'.get? b=a8 o)->Q cb {s with heap:=h' }):js (mn prog w) A (VA (.ref I)) Q E s:=by
 show uo c ho m λQ' N y z=>?_;have(o,d,n,f):=id c;have(O,B,Y,nT,C):=r;change js _ _ (seqItems? (.ref T) >>= _) _ _ s;show cc (TR B C ?_);cases e:a[i]? with
 |some j =>
  have g:(a.map λ(j:Nat)=>KX j).toArray[i]?=a8 (KX j):=by simp[e]
  simp only[g];have h:j<es.size:=v j (LR e);have l:es[j]?=a8 (es[j]'h):=by simp[h]
  change js _ _ (ò S (j:Int).toNat ep >>= _) _ _ s;unfold ò;rw[Tj];show cc (cc (I0 ho rfl m ?_))
  dsimp only
  rw[Ÿ (by simp)];generalize es[j]'h=p at l;simp only[l];show d6 ?_;show cc (Sh d f (by simp) ?_);show d6 (y _ _ (u j p e l _ (ur (f':=.ref T) d n f) (Oi ..)))
 |none =>
  have g:(a.map λ(j:Nat)=>KX j).toArray[i]?=cb:=by simp at e ⊢;show e
  simp only[g];show cc (Sh d f (by simp) ?_);have(o',D,e2,G):=qA (f':=KX 0) d n f;show cc (Sh (s:={s with heap:=_}) D G (by simp) ?_);show qz (I:=I) (k:=λ_=>pure cb) (Q:=λ_ _=>True) (s:=s) (by simpa using hh) λh' hk ex H=>z ex _ H (x e h' λb J q L=>hk b J ?_);rw[UD _ _ _ _ q,UD _ _ _ _ q];show L
end
section
def ix.at(x:ix h I f i S n ep)(e:∀o,h.get? I=a8 o->h'.get? I=a8 o):ix h' I f i S n ep:=let ⟨o,ho,r⟩:=x;⟨o,e _ ho,r⟩
def ly(hh:A.handled=cb)(n:S≠I)(r:t.fits es.size=c4)(T:k9)(p:T≠I)(c:List fx)(k:c.length=es.size)
  (first:Nat->fx) (a:Nq->Prop) (l:∀h h',a h->(∀o,h.get? T=a8 o->h'.get? T=a8 o)->a h')
  (m:∀(s:i4) (i:Nat) (E:fx->i4->Prop) (Q:Option fx->i4->Prop),i<=es.size->a s.heap->ix s.heap I (first i) i S es.size ep->s.heap.get? S=a8 (oW es ep t) ->
   (∀x,c[i]?=a8 x->∀h',ix h' I (first (i+1)) (i+1) S es.size ep->Mx I s.heap h'->Q (a8 x) {s with heap:=h' }) ->
   (c[i]?=cb->∀h',(∀b o,b≠I->s.heap.get? b=a8 o->h'.get? b=a8 o)->Q cb {s with heap:=h' })->js (mn prog w) A (VA (.ref I)) Q E s) :
  Walks prog w A I [I,S,T] [I] es.size (λi v=>c[i]?=a8 v) (λi h=>i<=es.size/\ix h I (first i) i S es.size ep/\h.get? S=a8 (oW es ep t)/\a h) where
 sub:=λb d=>by rw[tr.mp d];simp
 frame:=λi h h' x hk=>#[x.1,x.2.1.at λo e=>hk I (by simp) o e,hk S (by simp) _ x.2.2.1,l h h' x.2.2.2 λo e=>hk T (by simp) o e]
 item:=λi s Q E q x f=>by
  show m s i E Q x.1 x.2.2.2 x.2.1 x.2.2.1 (λv g h' j hs=>?_) λz=>absurd z (by simp;lia);show f v h' s.toks g #[q,j,?_,l _ h' x.2.2.2 λo e=>?_] λb o d e=>?_
  .rw[hs.2 S n];show x.2.2.1
  .rw[hs.2 T p];show e
  .rw[hs.2 b λz=>d (by simp[z])];show e
 done:=λs Q E x f=>by
  show m s es.size E Q x.1 x.2.2.2 x.2.1 x.2.2.1 (λv g=>absurd g (by rw[XD ⋯];simp)) λ_ h' hk=>f h' s.toks λb o d e=>hk b o (λz=>d (by simp[z])) e
 self:=λi s Q E x f=>Bb x.2.1 f
def oX(ho:s.heap.get? S=a8 (oW es ep t))(a:t.fits es.size=c4)(h:Q (!w.params.followText "set-order"&&(!t.plain&&ei (es.size>1))) s):js (mn prog w) A (setDrawn S) Q E s:=by
 unfold setDrawn;show cc (I0 ho rfl a ?_)
 dsimp only
 show cc (fe (d6 h))
def oY(a:w.params.followText "set-order"=c4)(ho:s.heap.get? S=a8 (oW es ep t))(b:t.fits es.size=c4)
  (h:Q ((ZA (w.params.setOrder S ep) es)[i]?.map λe=>(e.2,0)) s):js (mn prog w) A (Zh S 0 i ep) Q E s:=by
 unfold Zh;show cc (I0 ho rfl b ?_)
 dsimp only
 show cc (fe ?_);change js _ _ (if (w.params.followText "set-order")=c4 then _ else _) _ _ s;rw[ŵ a];rw[Ÿ (by simp)];unfold setWalk;show cc (cc (I0 ho rfl b ?_))
 dsimp only
 show cc (fe ?_);change js _ _ (if (w.params.followText "set-order")=c4 then _ else _) _ _ s;rw[ŵ a];show cc (Zx (d6 ?_));show d6 h
theorem qB(hw:w.params.followText "set-order"=dV)(ho:s.heap.get? S=a8 (oW es ep t))(hf:t.fits es.size=c4)(hl:t.led=c4)(h1:es.size<=1)
    (h:Q (match es[va t.place slot]?,t.place[va t.place slot]? with|some (_,x),a8 j=>a8 (x,j+1)|_,_=>cb) s):js (mn prog w) A (Zh S slot i ep) Q E s:=by
  unfold Zh;refine cc (I0 ho rfl hf ?_)
  dsimp only
  refine cc (fe ?_);show js _ _ (if (w.params.followText "set-order")=c4 then _ else _) _ _ s;rw[Ÿ (by rw[hw];simp)];show js _ _ (if (!t.plain&&ei (es.size>1))=c4 then _ else _) _ _ s
  rw [if_neg (by have : decide (es.size > 1) = false := decide_eq_false (by lia)
                 rw[this];simp)]
  show js _ _ ((if (!t.led&&!es.isEmpty)=c4 then _ else _) >>= _) _ _ s;rw[Ÿ (by rw[hl];simp)];exact cc (d6 (d6 h))
def qC(es:Array (Int×fx))(a:Array Nat)(i:Nat)(c:es.size<=1)(d:a.size=es.size)(b:i<=es.size):
  (match es[va a (if i=0 then 0 else(a[0]?).getD 0+1)]?,a[va a (if i=0 then 0 else(a[0]?).getD 0+1)]? with|some (_,x),a8 j=>a8 (x,j+1)|_,_=>cb)=es[i]?.map λe=>(e.2,(a[0]?).getD 0+1):=by
 have⟨es⟩:=es;have⟨a⟩:=a
 match es,a,c,d,b with
 |[],[],_,_,b=>simp
 |[e],[p],_,_,b =>
  match i,b with
  |0,_ =>
   have:va #v[p] 0=0:=by simp[va,Vp]
   simp[this]
  |1,_ =>
   have:va #v[p] (p+1)=1:=by simp[va,Vp]
   simp[this]
  |n+2,h=>simp at h
 |[],_::_,_,h,_=>simp at h
 |[_],[],_,h,_=>simp at h
 |[_],_::_::_,_,h,_=>simp at h
 |_::_::_,_,h,_,_=>simp at h
def yd(hh:B.handled=cb)(hS:fc prog w s.heap S (bB w) D)
  (h:∀(I:k9) (fp:List k9) (n:Nat) (P:Nat->fx->Prop) (St:Nat->Nq->Prop) (c:List Str) (h':Nq) (d':Drawn),Walks prog w B I fp [I] n P St->c.Perm D->n=c.length->(∀i v,P i v->∃x T,c[i]?=a8 x/\v=.str x T)->s.heap.objs.size<=I->(∀b∈fp,b=S\/s.heap.objs.size<=b)->St 0 h' ->
   (∀b o,s.heap.get? b=a8 o->h'.get? b=a8 o)->Q (.ref I) {s with heap:=h',drawn:=d' }):js (mn prog w) A (YH (.ref S)) Q E s:=by
 have(L,es,ep,t,ho,J5,Y,IZ,a,d,Kg,JL):=hS;have UB:s.TypeIs (.ref S) "set":=#[_,ho,rfl]
 have L7:S<s.heap.objs.size:=nc ho;show Ļ UB PySem.F.slot_set_iter (OD PySem.F.slot_set_iter UB SI.lu ?_ (PySem.F.args_set_iter_1 _));unfold SU.«frozenset.__iter__» ę slotArgs;simp only[List.isEmpty_nil,L6,pj,↓reduceIte,bind_assoc,Sv,bne_self_eq_false];unfold Ĝ Ě;show cc (d6 ?_)
 try dsimp only
 show cc (d6 ?_);show cc (cc (Ĥ ho rfl a (d6 ?_)));have Wy:D.length=es.size:=by rw[<-Y.length_eq,eH,<-mA,J5,eH]
 have f:∀(l:List (Int×fx)),l.Perm es.toList->∃c:List Str,c.Perm D/\c.length=es.size/\∀(i:Nat) (v:fx),(l.map (·.2))[i]?=a8 v->∃(x:Str) (T:Tok),c[i]?=a8 x/\v=K_ x T:=by
  intro l hl;rw[J5]at hl;have(L',e',p'):=iq hl;show#[L'.map (·.1),(p'.map _).trans Y,by rw[((p'.map _).trans Y).length_eq,Wy],λi v G=>?_];subst e';rw[uv,ti]at G;rw[ti];cases q:L'[i]? with
  |none=>rw[q]at G;simp at G
  |some p=>rw[q]at G;simp at G;show#[p.1,p.2,rfl,G.symm]
 show cc (oX ho a ?_);cases hw:w.params.followText "set-order" with
 |true =>
  simp only[L6,ī,pj,↓reduceIte];show cc (d6 ?_);show cc (cc (I0 ho rfl a (d6 ?_)));show cc (zy ?_);have u:S≠s.heap.objs.size:=sg L7;have(c,H,J,N):=f (ZA (w.params.setOrder S ep) es).toList (fN _ _);have W:=ly (prog:=prog) (w:=w) (A:=B) (I:=s.heap.objs.size) (S:=S) (es:=es) (ep:=ep) (t:=t) hh u a S u ((ZA (w.params.setOrder S ep) es).toList.map (·.2)) (by rw[eH,(fN _ _).length_eq,mA]) (λ_=>KX 0) (λ_=>True) (λ_ _ _ _=>trivial)
   (λs i E Q _ _ g y k1 k2=>yc (slot:=0) g y a hh (λB E' Q' q=>oY hw y a q) (λx nx e h' O hs=>by
    rw[hQ]at e;have(p,C,e2):=e;cases e2;show k1 _ (by rw[ti,NK,C];rfl) h' O hs) (λe=>k2 (by rw[ti,NK,VZ];rwa [VZ]at e)))
  show d6 #[_,rfl,"set_iterator",_,#[_,l' _ rfl,rfl],SI.slot_next.lookup,?_];show h _ _ _ _ _ c _ s.drawn W H J.symm N (ke _) (λb d=>by
   simp only[fz,V',or_false]at d;rcases d with rfl|rfl|rfl
   .show .inr (ke _)
   .show .inl rfl
   .show .inl rfl) ⟨pb _,⟨_,l' _ rfl,rfl,rfl⟩,ek _ ho,trivial⟩ λb o e=>ek _ e
 |false =>
  by_cases hsz:es.size>1
  .have J2:t.plain=dV:=by
    rcases JL with z|z
    .lia
    .show z
   have C:(!dV&&(!t.plain&&ei (es.size>1)))=c4:=by rw[J2,ŷ hsz];rfl
   rw[C];simp only[↓reduceIte];show cc (hJ _ _ _ _ PH λm d' hp=>?_);simp only[newTuple];have MI:∀j∈m,j<es.size:=λj hj=>by have:=hp.mem_iff.mp hj;simpa using this
   have Pz:m.length=es.size:=by rw[hp.length_eq];simp
   show cc (zy ?_ (by
    change(m.map λ(j:Nat)=>KX j).toArray.size<=_;have:es.size<4096:=d;simp only[lx,eH,Pz];have:(4096:Nat)<=eh:=by decide
    lia))
   have Lg:(s.heap.push {cls:=.type "tuple",data:=.seq (m.map λ(j:Nat)=>KX j).toArray}).get? S=a8 (oW es ep t):=ek _ ho;show cc (cc (I0 (s:={s with heap:=_,drawn:=d' }) Lg rfl a (d6 ?_)));show cc (zy ?_);have Wz:s.heap.objs.size≠(s.heap.push {cls:=.type "tuple",data:=.seq (m.map λ(j:Nat)=>KX j).toArray}).objs.size:=by rw[Ss];show sg (Uc _)
   have u:S≠(s.heap.push {cls:=.type "tuple",data:=.seq (m.map λ(j:Nat)=>KX j).toArray}).objs.size:=by rw[Ss];show sg (VI L7)
   have NR:(m.map λj=>(es[j]?).getD (0,IV)).Perm es.toList:=by
    show(hp.map _).trans ?_;have:(gA es.size).map (λj=>(es[j]?).getD (0,IV))=es.toList:=by
     apply Đ
     .simp
     .intro i h1 h2;simp at h1 ⊢;simp[h1]
    rw[this]
   have(c,H,J,N):=f _ NR;have W:=ly (prog:=prog) (w:=w) (A:=B) (I:=(s.heap.push {cls:=.type "tuple",data:=.seq (m.map λ(j:Nat)=>KX j).toArray}).objs.size) (S:=S) (es:=es) (ep:=ep) (t:=t) hh u a s.heap.objs.size Wz ((m.map λj=>(es[j]?).getD (0,IV)).map (·.2)) (by simp[Pz]) (λ_=>.ref s.heap.objs.size) (λh=>h.IsTuple s.heap.objs.size (m.map λ(j:Nat)=>KX j).toArray) (λh h' ⟨o,ho,r⟩ k=>#[o,k _ ho,r])
    (λs' i E Q _ Lf g y k1 k2=>D5 g y a hh Lf (λj e ej ee h' O hs=>k1 _ (by rw[ti,ti,ej];simp[ee]) h' O hs) MI (λe=>k2 (by rw[ti,ti,e];rfl)))
   show d6 #[_,rfl,"set_iterator",_,#[_,l' _ rfl,rfl],SI.slot_next.lookup,?_];show h _ _ _ _ _ c _ d' W H J.symm N (by rw[Ss];show VP _) (λb d=>?_) ⟨pb _,⟨_,l' _ rfl,rfl,rfl⟩,ek _ Lg,⟨_,ek _ (l' _ rfl),rfl,_,rfl⟩⟩ λb o e=>ek _ (ek _ e);rw[Ss]at d;simp only[fz,V',or_false]at d;rcases d with rfl|rfl|rfl
   .show .inr (VP _)
   .show .inl rfl
   .show .inr (ke _)
  .have C:(!dV&&(!t.plain&&ei (es.size>1)))=dV:=by rw[Ŷ hsz];simp
   rw[C];simp only[pj,↓reduceIte];show cc (d6 ?_);show cc (cc (I0 ho rfl a (d6 ?_)));show cc (zy ?_);have u:S≠s.heap.objs.size:=sg L7;have WA:t.led=c4:=by rw[Kg];change(!w.params.followText "set-order")=c4;rw[hw];rfl
   have(c,H,J,N):=f es.toList (.refl _);have Kv:t.place.size=es.size:=by
    unfold ø at a;simp only[df,beq_iff_eq]at a;show a.1
   have W:=ly (prog:=prog) (w:=w) (A:=B) (I:=s.heap.objs.size) (S:=S) (es:=es) (ep:=ep) (t:=t) hh u a S u (es.toList.map (·.2)) (by simp) (λi=>KX ((if i=0 then 0 else(t.place[0]?).getD 0+1:Nat):Nat)) (λ_=>True) (λ_ _ _ _=>trivial)
    (λs' i E Q hi _ g y k1 k2=>yc (slot:=if i=0 then 0 else(t.place[0]?).getD 0+1) g y a hh (λB E' Q' q=>qB hw y a WA ⋯ q) (λx nx e h' O hs=>by
     rw[qC es t.place i ⋯ Kv hi,hQ]at e;have(p,C,e2):=e;cases e2;show k1 _ (by rw[ti,NK,C];rfl) h' ?_ hs;rw[Ÿ (Nat.succ_ne_zero i)];show O) (λe=>by
     rw[qC es t.place i ⋯ Kv hi,VZ]at e;show k2 (by rw[ti,NK,e];rfl)))
   show d6 #[_,rfl,"set_iterator",_,#[_,l' _ rfl,rfl],SI.slot_next.lookup,?_];show h _ _ _ _ _ c _ s.drawn W H J.symm N (ke _) (λb d=>by
    simp only[fz,V',or_false]at d;rcases d with rfl|rfl|rfl
    .show .inr (ke _)
    .show .inl rfl
    .show .inl rfl) ⟨pb _,⟨_,l' _ rfl,rfl,rfl⟩,ek _ ho,trivial⟩ λb o e=>ek _ e
end
def qD:Y_ (.type "set") "__len__"=pure (a8 (.builtin "set.__len__")):=by rw[ZR,Yy];kernel_rfl
section
theorem lz:∀{vs:List fx}{a:List Str},vs.length=a.length->(∀(i:Nat) (v:fx),vs[i]?=a8 v->∃x t,a[i]?=a8 x/\v=.str x t)->UR vs a
 |[],[],_,_=>.nil
 |[],_::_,h,_=>by simp at h
 |_::_,[],h,_=>by simp at h
 |v::vs,y::a,h,k=>by
  have(x,t,b,c):=k 0 v rfl;cases b;subst c;show .cons y t (lz (by simpa using h) λi w d=>k (i+1) w d)
def qE(hh:A.handled=cb)(J:fc prog w s.heap S (bB w) D)(N:D.length<=eh)
  (O:∀(vs:List fx) (c:List Str) (h':Nq) (d':Drawn) (h:Nat),c.Perm D->UR vs c->s.heap.objs.size<=h'.objs.size->s.toks<=h->(∀b o,s.heap.get? b=a8 o->h'.get? b=a8 o)->Q vs {s with heap:=h',drawn:=d',toks:=h}) :
  js (mn prog w) A (ô (.ref S)) Q E s:=by
 have(L,es,ep,t,ho,rest):=id J;have T:S<s.heap.objs.size:=nc ho;unfold ô;show cc (YG (L8 PySem.F.entry_proto_collect ?_));rw[Om PySem.F.plain_proto_collect _];change js _ A.in1 (ŀ [] >>= λl=>Ŭ (.builtin "list.__iadd__" ⟨[l,.ref S],[]⟩)) _ _ s;show cc (zy ?_);show d6 #[WS PySem.F.plain_list_iadd _,L8 PySem.F.entry_list_iadd ?_];rw[Om PySem.F.plain_list_iadd _];have f:(s.heap.push {cls:=.type "list",data:=.seq ([]:List fx).toArray}).get? S=a8 {cls:=.type "set",dict:=cb,data:=.set es ep t}:=ek _ ho;have Y:R8 {s with heap:=s.heap.push {cls:=.type "list",data:=.seq ([]:List fx).toArray}} (.ref S) "set":=#[_,f,rfl]
 change js _ A.in1 (Qc (.ref s.heap.objs.size) (.ref S) (.ref s.heap.objs.size)) _ _ _;unfold Qc;show cc (Rn Y ?_);have j:s.heap.objs.size≠S:=Pe T;have h1:YQ (.ref s.heap.objs.size) (.ref S)=dV:=by simp[YQ,j]
 have h2:(Qo "set"==Qo "list")=dV:=by decide
 have h3:(Qo "set"==Qo "tuple")=dV:=by decide
 simp only[h1,h2,h3,Ĺ,pj,ź];show cc (yd (B:=A.in1) (by simpa using hh) #[L,es,ep,t,f,rest] ?_);intro I fp n P St c h' d' W k m hP p WB IB hk;have g:R8 {s with heap:=h',drawn:=d' } (.ref S) "set":=#[_,hk _ _ f,rfl]
 show cc (Ka ?_);unfold ś;show cc (SG g qD ?_);have Jg:splitId "set.__len__"=a8 ("set","__len__"):=by decide +kernel
 dsimp only
 rw[Jg]
 dsimp only
 show cc (Uv g sub_set_self ?_);rw[Ÿ (by decide)];rw[ŵ (by decide +kernel)];show cc (Rn g ?_);show d6 ?_;rw[ŵ (by decide +kernel)];have q:s.heap.objs.size∉fp:=λa=>by
  rcases WB _ a with z|z
  .show j z
  .rw[Ss]at z;show absurd z (Nat.not_succ_le_self _)
 have r:h'.get? s.heap.objs.size=a8 {cls:=.type "list",data:=.seq ([]:List fx).toArray}:=hk _ _ (l' _ rfl);show cc (S8 ?_);show cc ?_;change js _ A.in1 (updateSeq s.heap.objs.size (·.push .none) >>= λ_=>updateSeq s.heap.objs.size (·.pop)) _ _ _;show cc (Ye r rfl ?_);have u:=Ki (Lm (·.push IV)) r rfl;show Ye u rfl ?_;have WC:=Ki (Lm (·.pop)) u rfl;have x:∀b o,b≠s.heap.objs.size->h'.get? b=a8 o->((h'.update s.heap.objs.size (Lm (·.push IV))).update s.heap.objs.size (Lm (·.pop))).get? b=a8 o :=
  λb o d e=>(Pd _ _ (Mk d)).trans ((Pd _ _ (Mk d)).trans e)
 show d6 #[WS PySem.F.plain_extend_loop _,codeAny_extend_loopS W.toS (by rw[m,k.length_eq];show N) _ q _ n 0 _ _ _ rfl (pb _) (W.frame 0 h' _ IB λb d o e=>x b o (λz=>q (z▸d)) e) WC (ItemsOf.nil P) λs' ML c' a y C=>?_];change js _ A (load s.heap.objs.size >>= _) _ _ s';show cc (Į y ?_);have(Pu,g2,G,WD,WE):=s';have eg:g2=s.gens:=a.gens;have ed:G=d':=a.drawn;have eo:WE=s.os:=a.os;subst eg;subst ed;subst eo;show d6 (O _ c Pu G WD k (lz (by rw[mA,C.1,m]) λi v hv=>hP i v (C.2 i v (by rwa [NK]at hv))) (Ou (nc y)) a.toks λb o e=>?_);have H:b≠s.heap.objs.size:=λz=>by rw[z]at e;show absurd (nc e) (Mr _)
 show a.heap b o (λz=>?_) (x b o H (hk _ _ (ek _ e)));rcases fz.mp z with z|z
 .show H z
 .rw[tr.mp z]at e;have:=nc e;rw[Ss]at p;show absurd (qw this (DD (VP _) p)) (Mr _)
end
section
def Inv.drawn(I:Inv X pins σ H s)(d:Drawn):Inv X pins σ H {s with drawn:=d}:=#[I.ok,I.os,I.bare,I.base,I.loc,I.cell,I.free,I.IY,I.pin,I.IE,I.len]
def jb(j:X.calm=c4)(I:Inv X pins σ H s)(hq:Jo X.K H p (c.map V.str)\/Jj X.K H p (c.map V.str))(i:c.length+1<PQ)
  (h:∀(S:k9) (h':Nq) (a:Nat),fc X.prog X.w h' S (bB X.w) (aZ c)->Inv X pins σ H {s with heap:=h',toks:=a}->Q (.ref S) {s with heap:=h',toks:=a}) :
  js (mn X.prog X.w) X.A (R3 (.type "set") [.ref p]) Q X.xe s:=by
 have hh:X.A.handled=cb:=I.ok.hd j;rcases hq with hq|hq
 .have(l,d,f,hz):=I.list hq;show lr hh f.isList (dJ d) i λh' a g k=>h _ h' a g (I.kept λb o e=>k b o (nc e) e)
 .have(l,d,f,hz):=I.tuple hq;show m6 hh f (dJ d) i λh' a g k=>h _ h' a g (I.kept λb o e=>k b o (nc e) e)
def m7(h:X.calm=c4)(I:Inv X pins σ H s)(i:fc X.prog X.w s.heap S (bB X.w) D)(c:D.length<64)
  (q:∀p,H p=cb->Q (.ref p) (upd H p (.lst ((cC D).map V.str)))):js (mn X.prog X.w) X.A (R3 (.builtin "sorted") [.ref S]) (EP X pins σ Q) X.xe s:=by
 have hh:X.A.handled=cb:=I.ok.hd h;have hl:D.length<=eh:=Ou (qw c (by decide));show ip (qE (A:=X.A.in1) (by simpa using hh) i hl λvs j h' d' a d f hsz m hk=>#[j,f,by rw[ja f,d.length_eq];show c,λn k e k2 b s2=>?_]);rw[qu d]at s2;have l:Inv X pins σ H {s with heap:=h',toks:=a}:=I.kept (t':=a) hk;have g:Inv X pins σ H {s with heap:=h',drawn:=d',toks:=a}:=l.drawn d';show#[.ref h'.objs.size,_,g.laid (t':=a) (o:=.lst ((cC D).map V.str)) k2 (ke _) #[by rw[eH,iY];show hl,k,e,fb s2,b],rfl,q _ (g.IE.fresh (ke _))]
def sj(I:Inv X pins σ H s)(b:fc X.prog X.w s.heap S (bB X.w) D)
  (q:Q (.int D.length) H):js (mn X.prog X.w) X.A (R3 (.builtin "len") [.ref S]) (EP X pins σ Q) X.xe s:=by
 have(L,es,ep,t,ho,c,d,i,g,h,j,k):=b;have a:es.size=D.length:=by rw[<-mA,c,eH,<-eH (f:=Zt) (as:=L),d.length_eq]
 have l:es.size<4096:=h;show call_len_set ho #[rfl,rfl,rfl] rfl g ⋯ ?_;show#[.int es.size,_,I.kept (t':=s.toks+1+1) (λ_ _ e=>e),#[_,rfl],by rw[a];show q]
end
def wo(l:k9)(a:Array fx)(n:Nat)(b:k9)(c:Array fx)(e:Nat)(dd:Option k9)(f:Array (Option fx))(o:¬(!a.isEmpty&&Ny (a.size+c.size))=c4)(i:a.size<=eh)(j:a.size+c.size<=eh+1):
  Meets (SU.«list.extend» ⟨[.ref l,.ref b],[]⟩) (λ_ R s=>s.heap.get? l=a8 {cls:=.type "list",dict:=cb,data:=.seq a n,slots:=#v[]}/\s.heap.get? b=a8 {cls:=.type "list",dict:=dd,data:=.seq c e,slots:=f}/\R (.ok (.ret IV)) {s with heap:=s.heap.update l (Lm λx=>x++c),toks:=s.toks}) :=
 .of_wp λprog w A R s h=>by
  have(p,g,d,q,os):=s;have(hl,k,h):=h;have r:=Í;have t:=Ze;have u:=Zs;have v:=Zp;have y:=Zq;
  have m:(a++c).size<=eh+1:=by rw[YN];show j
  wp_walk using(Ye hl rfl (hz:=i) (_hz':=m)),RO hl,RO k;show#[_,rfl,h]
def wq(l:k9)(a:Array fx)(n:Nat)(b:k9)(c:Array fx)(e:Nat)(dd:Option k9)(f:Array (Option fx))(o:¬(!a.isEmpty&&Ny (a.size+c.size))=c4)(i:a.size<=eh)(j:a.size+c.size<=eh+1):
  Meets (SU.«list.extend» ⟨[.ref l,.ref b],[]⟩) (λ_ R s=>s.heap.get? l=a8 {cls:=.type "list",dict:=cb,data:=.seq a n,slots:=#v[]}/\s.heap.get? b=a8 {cls:=.type "tuple",dict:=dd,data:=.seq c e,slots:=f}/\R (.ok (.ret IV)) {s with heap:=s.heap.update l (Lm λx=>x++c),toks:=s.toks}) :=
 .of_wp λprog w A R s h=>by
  have(p,g,d,q,os):=s;have(hl,k,h):=h;have r:=Í;have t:=Ze;have u:=Zs;have v:=Zp;have y:=Zq;
  have m:(a++c).size<=eh+1:=by rw[YN];show j
  wp_walk using(Ye hl rfl (hz:=i) (_hz':=m)),RO hl,RO k;show#[_,rfl,h]
section
def sm:Um X "list.extend" (λx vs H Q=>∃l b xs c,x=.ref l/\vs=[.ref b]/\H l=a8 (.lst xs)/\(Jo X.K H b c\/Jj X.K H b c)/\xs.length+c.length<=eh/\Q .ID (upd H l (.lst (xs++c)))):=by
 intro pins s σ H x vs v us Q I y A h;have(l,b,xs,c,rfl,rfl,t,hB,hz,q):=h;cases y;have(u,rfl,B):=A.one;cases B;have(z,f,n,r,hl,e):=I.Gi t;have g:∀a:List fx,Vals c a->EP X pins σ Q IV {s with heap:=s.heap.update l (Lm λx=>x++a.toArray),toks:=s.toks}:=λa d=>by
  show#[.ID,_,I.fK (its':=f++a) t e (by simp) (r.append d) ?_,rfl,q];rw[ko];lia
 have k:∀a:List fx,c.length=a.length->f.toArray.size+a.toArray.size<=eh:=λa h=>by rw[lx,lx];lia
 have w:∀a:List fx,c.length=a.length->¬(!f.toArray.isEmpty&&Ny (f.toArray.size+a.toArray.size))=c4:=λa h=>by
  rw[ql (k a h),P'];show my
 rcases hB with hB|hB
 .have(a,d,m,_):=I.list hB;have((cls,dd,data,o),ho,i,p,j):=m.isList;simp only at i j;subst i j;have LY:=d.length;have C:=k a LY;show Sq Ę #[_,e,rfl] ċ (ü _ _) (wo l f.toArray n b a.toArray p dd o (w a LY) ⋯ ⋯) #[e,ho,g a d]
 .have(a,d,m,_):=I.tuple hB;have((cls,dd,data,o),ho,i,p,j):=m;simp only at i j;subst i j;have LY:=d.length;have C:=k a LY;show Sq Ę #[_,e,rfl] ċ (ü _ _) (wq l f.toArray n b a.toArray p dd o (w a LY) ⋯ ⋯) #[e,ho,g a d]
end
end L2
namespace Tb
open PySem PySem.SetTable
abbrev run(mask i:Nat):List Nat:=(gA (ZE mask i+1 - i)).map (i+·)
abbrev c9(mask:Nat):Nat->Nat->Nat->List Nat
 |0,_,_=>[]
 |f+1,i,p=>run mask i++c9 mask f (Ý mask i p).1 (Ý mask i p).2
abbrev path(mask:Nat)(h:Int):List Nat:=c9 mask (Vo mask) (ZF h % (mask+1)) (ZF h)
theorem free_eq(mask:Nat)(owner:Array (Option Nat)):∀(f i p:Nat),Vq mask owner f i p=(c9 mask f i p).find? λj=>(owner.getD j (a8 0)).isNone
 |0,_,_=>rfl
 |f+1,i,p=>by
  rw[Vq,c9,List.find?_append,run,List.find?_map,<-free_eq mask owner f (Ý mask i p).1 (Ý mask i p).2];change(match (gA (ZE mask i+1 - i)).find? (λk=>(owner.getD (i+k) (a8 0)).isNone) with|some k=>_|none=>_)=_;rw[show((λj=>(owner.getD j (a8 0)).isNone) ∘ λx=>i+x)=λk=>(owner.getD (i+k) (a8 0)).isNone from rfl];cases(gA (ZE mask i+1 - i)).find? (λk=>(owner.getD (i+k) (a8 0)).isNone)<;>rfl
def Bc(mask i:Nat):(run mask i).length<=10:=by
 unfold run ZE;rw[eH,PH];split<;>lia
def D6{mask i j:Nat}(a:i<=mask)(h:j∈run mask i):j<=mask:=by
 unfold run ZE at h;have(k,hk,rfl):=oa.mp h;have:=w6.mp hk;split at this<;>lia
def ye(mask i:Nat):i∈run mask i:=by
 unfold run ZE;show oa.mpr #[0,w6.mpr ?_,rfl];split<;>lia
def uu(mask i p:Nat):(Ý mask i p).1<=mask:=Ru (VE _ (Ç _))
theorem nJ(mask:Nat):∀f i p,(c9 mask f i p).length<=10 * f
 |0,_,_=>ke _
 |f+1,i,p=>by
  have:=nJ mask f (Ý mask i p).1 (Ý mask i p).2;have:=Bc mask i;rw[c9,ko];lia
theorem qF{mask j:Nat}:∀{f i p:Nat},i<=mask->j∈c9 mask f i p->j<=mask
 |0,_,_,_,h=>by cases h
 |f+1,i,p,a,h=>by
  rcases mN.mp h with h|h
  .show D6 a h
  .show qF (uu mask i p) h
def yf(mask:Nat)(h:Int):(path mask h).length<=10 * Vo mask:=nJ ..
def oZ{mask j:Nat}(a:j∈path mask h):j<=mask:=qF (Ru (VE _ (Ç _))) a
abbrev st(mask i:Nat):Nat:=(i * 5+1) % (mask+1)
abbrev it(mask:Nat):Nat->Nat->Nat
 |0,i=>i
 |k+1,i=>it mask k (st mask i)
theorem o_(mask:Nat):∀a b i,it mask (a+b) i=it mask b (it mask a i)
 |0,b,i=>by rw[Tg];rfl
 |a+1,b,i=>by rw[Ā];show o_ mask a b _
def Gp(mask i:Nat):Ý mask i 0=(st mask i,0):=rfl
theorem yg{mask:Nat}:∀{k f i:Nat},k<f->it mask k i∈c9 mask f i 0
 |0,f+1,i,_=>Ox _ (ye mask i)
 |k+1,f+1,i,h=>by
  show vz _ ?_;rw[Gp];show yg (k:=k) (f:=f) ⋯
structure Good(mask:Nat):Prop where
 all:∀j,j<=mask->∃k,k<=mask/\it mask k 0=j
 round:it mask (mask+1) 0=0
def Good.cover{mask:Nat}(g:Good mask)(c:i<=mask)(d:j<=mask):∃k,k<=mask/\it mask k i=j:=by
 have(a,e,rfl):=g.all i c;have(b,f,rfl):=g.all j d;by_cases h:a<=b
 .show#[b - a,⋯,?_];rw[<-o_,show a+(b - a)=b by lia]
 .show#[mask+1+b - a,⋯,?_];rw[<-o_,show a+(mask+1+b - a)=mask+1+b by lia,o_,g.round]
abbrev Si(mask:Nat):Nat->Nat->List Nat
 |0,_=>[]
 |k+1,i=>i::Si mask k (st mask i)
theorem uw{mask j:Nat}:∀{k i:Nat},j∈Si mask k i->∃m,m<k/\it mask m i=j
 |0,_,h=>by cases h
 |k+1,i,h=>by
  rcases fz.mp h with rfl|h
  .show#[0,⋯,rfl]
  .have(m,a,e):=uw h;show#[m+1,⋯,e]
abbrev CW(mask:Nat):Bool:=(gA (mask+1)).all (λj=>(Si mask (mask+1) 0).contains j)&&it mask (mask+1) 0==0
def pd{mask:Nat}(h:CW mask=c4):Good mask:=by
 unfold CW at h;rw[df,sh]at h;show#[λj a=>?_,by simpa using h.2];have:=h.1 j (w6.mpr ⋯);rw[List.contains_iff_mem]at this;have(m,b,e):=uw this;show#[m,⋯,e]
def CY:Good 7:=pd (by decide +kernel)
def D7:Good 31:=pd (by decide +kernel)
def Bd:Good 127:=pd (by decide +kernel)
abbrev OL:Nat->Nat->Nat
 |0,p=>p
 |n+1,p=>OL n (p / 32)
theorem qG{mask j:Nat}:∀{n f i p:Nat},i<=mask->(∀a,a<=mask->j∈c9 mask f a (OL n p))->j∈c9 mask (n+f) i p
 |0,f,i,p,b,h=>by rw[Tg];show h i b
 |n+1,f,i,p,b,h=>by
  rw[Ā];show vz _ ?_;show qG (uu mask i p) h
theorem yh:∀n p,OL n p=p / 32 ^ n
 |0,p=>by simp[OL]
 |n+1,p=>by rw[OL,yh n,Nat.div_div_eq_div_mul,Nat.pow_succ,ŕ]
def Be(h:Int):ZF h<2 ^ 64:=by
 unfold ZF;have a:=QF h (show(0:Int)<2 ^ 64 by decide);have b:=Rh h (show(2 ^ 64:Int)≠0 by decide);lia
def Good.path{mask:Nat}(g:Good mask)(h:Int)(a:j<=mask):j∈path mask h:=by
 unfold Tb.path Vo;rw[show mask+15=13+(mask+2) by lia];show qG (Ru (VE _ (Ç _))) λc b=>?_;have:OL 13 (ZF h)=0:=by
  rw[yh];have:=Be h;show Nat.div_eq_of_lt (qw this (by decide))
 rw[this];have(k,hk,rfl):=g.cover b a;show yg ⋯
theorem lA(hs:xs.toList.Pairwise (· < ·)):∀(f lo c:Nat),lo<=c->c<=xs.size->c - lo<=f->(∀i v,i<lo->xs[i]?=a8 v->v<j)->(∀i v,c<=i->xs[i]?=a8 v->j<=v) ->
  Vp xs j f lo c<=xs.size/\(∀i v,i<Vp xs j f lo c->xs[i]?=a8 v->v<j)/\∀i v,Vp xs j f lo c<=i->xs[i]?=a8 v->j<=v
 |0,lo,c,p,l,q,m,n=>by
  have:lo=c:=by lia
  subst this;show#[l,m,n]
 |f+1,lo,c,p,l,q,m,n=>by
  rw[Vp];by_cases h:lo<c
  .rw[ŵ h]
   dsimp only
   have r:(lo+c) / 2<xs.size:=by lia
   have k:xs[(lo+c) / 2]?=a8 xs[(lo+c) / 2]:=KQ r;have e:xs.getD ((lo+c) / 2) j=xs[(lo+c) / 2]:=by rw[LB,k];rfl
   have d:∀a b u v,a<b->xs[a]?=a8 u->xs[b]?=a8 v->u<v:=λa b u v s t w=>by
    have(x,y):=tf.mp t;have(z,A):=tf.mp w;have:=ZH.mp hs a b (by simpa using x) (by simpa using z) s;simpa[y,A] using this
   by_cases o:xs.getD ((lo+c) / 2) j<j
   .rw[ŵ o];show lA hs f _ c ⋯ l ⋯ (λi v B g=>?_) n;by_cases hh:i=(lo+c) / 2
    .subst hh;rw[k]at g;cases g;lia
    .have:=d i _ v _ ⋯ g k;lia
   .rw[Ÿ o];show lA hs f lo _ ⋯ ⋯ ⋯ m λi v B g=>?_;by_cases hh:i=(lo+c) / 2
    .subst hh;rw[k]at g;cases g;lia
    .have:=d _ i _ v ⋯ k g;lia
  .rw[Ÿ h];have:lo=c:=by lia
   subst this;show#[l,m,n]
def iy(hs:xs.toList.Pairwise (· < ·)):va xs j<=xs.size/\(∀i v,i<va xs j->xs[i]?=a8 v->v<j)/\∀i v,va xs j<=i->xs[i]?=a8 v->j<=v:=by
 unfold va;show lA hs _ 0 xs.size ⋯ (ke _) ⋯ (λi v h=>by lia) λi v h a=>?_;have:=(tf.mp a).1;lia
def below_at(hs:xs.toList.Pairwise (· < ·))(h:xs[i]?=a8 j):va xs j=i:=by
 have(f,b,c):=iy (j:=j) hs;rcases č (va xs j) i with hl|hl|hl
 .have(d,e):=tf.mp h;have a:va xs j<xs.size:=by lia
  have g:=c _ _ (ke _) (KQ a);have:=ZH.mp hs (va xs j) i (by simpa using a) (by simpa using d) hl;simp[e]at this;lia
 .show hl
 .have:=b i j hl h;lia
section
variable{t:Pm}
def gy(hs:t.place.toList.Pairwise (· < ·))(h:t.place[i]?=a8 j):t.slot j=.live i:=by
 unfold slot
 dsimp only
 rw[below_at hs h,h];simp
def lB(c:t.dummies=#v[])(h:j∉t.place.toList):t.slot j=.empty:=by
 unfold slot
 dsimp only
 rw[Ÿ,c]
 .rfl
 .intro z;have z:=YS z;show h (by have(a,b):=tf.mp z;rw[<-b];simp)
def kK(h:t.slot j=.live i):t.place[i]?=a8 j:=by
 unfold slot at h
 dsimp only at h
 split at h
 .rename_i z;cases h;show YS z
 .split at h<;>cases h
def uz(hs:t.place.toList.Pairwise (· < ·))(a:t.dummies=#v[])(j:Nat):(j∈t.place.toList/\∃i,t.slot j=.live i)\/(j∉t.place.toList/\t.slot j=.empty):=by
 by_cases h:j∈t.place.toList
 .have(i,b,e):=PD.mp h;show .inl #[h,i,gy hs (tf.mpr #[by simpa using b,by simpa using e])]
 .show .inr #[h,lB a h]
end
section
variable{t:Pm}{hashAt:Nat->Int}{h:Int}
abbrev Pl(t:Pm)(f:Nat)(p:Y4):List Nat:=(gA (p.more+1)).map (p.j+·)++c9 t.mask f (Ý t.mask p.i p.perturb).1 (Ý t.mask p.i p.perturb).2
def yi(f:Nat):Pl t f (t.probeStart h)=c9 t.mask (f+1) (ZF h % (t.mask+1)) (ZF h):=by
 unfold Pl probeStart
 dsimp only
 rw[c9,run];congr 3
 unfold ZE;split<;>lia
def Bg:Pl t (t.mask+14) (t.probeStart h)=path t.mask h:=yi _
def uA(e:Pl t f p=p.j::l)(hl:l≠[]):∃f',l=Pl t f' (t.advance p):=by
 unfold Pl at e;unfold advance;by_cases a:p.more>0
 .rw[ŵ a];show#[f,?_];unfold Pl
  dsimp only
  rw[SV,mu,P5]at e;injection e with _ e
  rw[<-e,show p.more - 1+1=p.more by lia,uv];congr 1
  show R' λk _=>?_;change p.j+(k+1)=p.j+1+k;lia
 .rw[Ÿ a];have b:p.more=0:=by lia
  rw[b]at e;cases f with
  |zero=>injection e with _ e;show absurd e.symm hl
  |succ f =>
   show#[f,?_];injection e with _ e
   have e:c9 t.mask (f+1) (Ý t.mask p.i p.perturb).1 (Ý t.mask p.i p.perturb).2=l:=e;rw[<-e,c9];unfold Pl run
   dsimp only
   congr 3
   unfold ZE;split<;>lia
def Bh(f:Nat)(p:Y4):∃l,Pl t f p=p.j::l:=by
 unfold Pl;rw[SV,mu,P5];show#[_,rfl]
def jI(p:Y4):(t.advance p).dummy=p.dummy:=by
 unfold advance;split<;>rfl
theorem uB:∀(l:List Nat) (fuel f:Nat) (p:Y4),Pl t f p=l->l.length<=fuel->p.dummy=cb->(∃j∈l,t.slot j=.empty)->(∀j∈l,t.slot j≠.dummy) ->
  ∃c j a,l=c++j::a/\(∀m∈c,∃i,t.slot m=.live i/\hashAt i≠h) /\
   ((t.slot j=.empty/\VS t hashAt h fuel p=a8 (.empty j cb))\/∃i f' next,t.slot j=.live i/\hashAt i=h/\VS t hashAt h fuel p=a8 (.candidate j i next)/\next.dummy=cb/\(a≠[]->Pl t f' next=a))
 |[],_,_,_,_,_,_,⟨_,u,_⟩,_=>by cases u
 |j::l,0,_,_,_,g,_,_,_=>by simp at g
 |j::l,fuel+1,f,p,e,g,d,⟨q,v,k⟩,r=>by
  have(D,s):=Bh (t:=t) f p;rw[e]at s;injection s with w x
  subst w;subst x;cases b:t.slot p.j with
  |empty=>show#[[],p.j,l,rfl,(λm hm=>by cases hm),.inl #[b,by rw[VS,b];simp[d]]]
  |dummy=>show absurd b (r p.j hY)
  |live i =>
   by_cases hh:hashAt i=h
   .show#[[],p.j,l,rfl,(λm hm=>by cases hm),.inr ?_];by_cases hl:l=[]
    .show#[i,0,t.advance p,b,hh,by rw[VS,b];simp[hh],by rw[jI];show d,λz=>absurd hl z]
    .have(f',n):=uA e hl;show#[i,f',t.advance p,b,hh,by rw[VS,b];simp[hh],by rw[jI];show d,λ_=>n.symm]
   .have o:q∈l:=by
     rcases fz.mp v with z|z
     .rw[z,b]at k;cases k
     .show z
    have(f',n):=uA e (by intro z;rw[z]at o;cases o);have(c,j,a,y,A,B):=uB l fuel f' (t.advance p) n.symm (by simpa using g) (by rw[jI];show d) #[q,o,k] λm hm=>r m (et _ hm);have C:VS t hashAt h (fuel+1) p=VS t hashAt h fuel (t.advance p):=by
     rw[VS,b];simp[hh]
    rw[C];show#[p.j::c,j,a,by rw[y];rfl,λm hm=>by
     rcases fz.mp hm with rfl|hm
     .show#[i,b,hh]
     .show A m hm,B]
end
abbrev On(mask:Nat)(a:Nat->Prop)(h:Int)(j:Nat):Prop:=∃b c,path mask h=b++j::c/\∀m∈b,a m
def On.mono{mask:Nat}(x:On mask P h j)(i:∀m,P m->Q m):On mask Q h j:=let ⟨a,b,c,d⟩:=x;⟨a,b,c,λm z=>i m (d m z)⟩
structure Tab(t:Pm)(es:Array (Int×fx)):Prop where
 sz:t.place.size=es.size
 dm:t.dummies=#v[]
 Ls:t.place.toList.Pairwise (· < ·)
 le:∀j∈t.place.toList,j<=t.mask
 Lo:es.size<=t.mask
 good:Good t.mask
 odd:t.mask % 2=1
 OM:∀q∈t.place.toList.zip es.toList,On t.mask (·∈t.place.toList) q.2.1 q.1
section
variable{t:Pm}{es:Array (Int×fx)}
def Tab.fill(T:Tab t es):t.fill=es.size:=by
 unfold SetTable.fill;rw[T.dm,T.sz];rfl
def Tab.fits(T:Tab t es):t.fits es.size=c4:=by
 unfold ø;rw[T.fill,T.sz];simp[T.Lo]
def Tab.Gq(T:Tab t es):t.gaveWay=dV:=by
 unfold SetTable.gaveWay;rw[T.odd];rfl
def Tab.Bi(T:Tab t es)(j:Nat):t.slot j≠.dummy:=by
 rcases uz T.Ls T.dm j with⟨_,i,e⟩|⟨_,e⟩<;>(rw[e];intro z;cases z)
theorem yj:∀{K L:List Nat},K.Nodup->(∀x∈K,x∈L)->K.length<=L.length
 |[],_,_,_=>pb _
 |a::K,L,h,s=>by
  rw[LS]at h;have b:=s a hY;have:=yj (K:=K) (L:=L.erase a) h.2 λx c=>(Ñ (show x≠a from λe=>h.1 (e▸c))).mpr (s x (et _ c));rw[ZO b]at this;have:=Z4 b;rw[lg];lia
def yk(l:List α)(m:List β)(p:Nat):(l.take p).zip (m.take p)=(l.zip m).take p:=List.take_zipWith.symm
def yl(l:List α)(m:List β)(p:Nat):(l.drop p).zip (m.drop p)=(l.zip m).drop p:=List.drop_zipWith.symm
def Tab.free(T:Tab t es)(h:Int):∃j∈path t.mask h,t.slot j=.empty:=by
 have:∃j,j<=t.mask/\j∉t.place.toList:=by
  show Pp λz=>?_;have hs:∀j∈gA (t.mask+1),j∈t.place.toList:=λj a=>Pp λq=>z #[j,Ru (w6.mp a),q];have:=yj Ď hs;rw[PH,mA,T.sz]at this;have:=T.Lo;lia
 have(j,b,c):=this;show#[j,T.good.path h b,lB T.dm c]
def d_(xs:Array α)(p:Nat)(x:α)(h:p<=xs.size):(NS xs p x).toList=xs.toList.take p++x::xs.toList.drop p:=by
 unfold NS;simp[Array.toList_extract,List.extract_eq_take_drop];show KU (by rw[H4,mA];lia)
def D8(a:t.dummies=#v[])(j:Nat):t.put j=({t with place:=NS t.place (va t.place j) j},va t.place j):=by
 unfold SetTable.put
 dsimp only
 rw[a];have:has #v[] j=dV:=rfl;rw[this];simp
def Tab.put(T:Tab t es)(o:On t.mask (·∈t.place.toList) h j)(s:j∉t.place.toList)(u:j<=t.mask)(w:es.size+1<=t.mask):
  Tab {t with place:=NS t.place (va t.place j) j} (NS es (va t.place j) (h,v)):=by
 have(l,x,y):=iy (j:=j) T.Ls;have hb:va t.place j<=es.size:=by rw[<-T.sz];show l
 have d:=d_ t.place (va t.place j) j l;have n:=d_ es (va t.place j) (h,v) hb;have p:∀m,m∈t.place.toList->m∈(NS t.place (va t.place j) j).toList:=λm z=>by
  rw[d];rw[<-Kj (va t.place j) t.place.toList]at z;rcases mN.mp z with z|z
  .show Ox _ z
  .show vz _ (et _ z)
 have A:∀m,m∈(NS t.place (va t.place j) j).toList->m=j\/m∈t.place.toList:=λm z=>by
  rw[d]at z;rcases mN.mp z with z|z
  .show .inr (RL z)
  .rcases fz.mp z with z|z
   .show .inl z
   .show .inr (RN z)
 have B:(NS t.place (va t.place j) j).toList.length=t.place.size+1:=by
  rw[d,ko,lg,ve,H4,mA];lia
 have r:(NS es (va t.place j) (h,v)).toList.length=es.size+1:=by
  rw[n,ko,lg,ve,H4,mA];lia
 show#[?_,T.dm,?_,?_,?_,T.good,T.odd,?_]
 .rw[<-mA,<-mA,B,r,T.sz]
 .change(NS t.place (va t.place j) j).toList.Pairwise (· < ·);rw[d];have hs:=T.Ls;rw[<-Kj (va t.place j) t.place.toList,Ð]at hs;rw[Ð];have low:∀a∈t.place.toList.take (va t.place j),a<j:=λa c=>by
   have(i,f,e):=PD.mp c;rw[ve]at f;rw[List.getElem_take]at e;show x i a ⋯ (tf.mpr #[by simp at f;lia,by simpa using e])
  have C:∀a∈t.place.toList.drop (va t.place j),j<a:=λa c=>by
   have(i,f,e):=PD.mp c;rw[H4]at f;rw[List.getElem_drop]at e;have:=y (va t.place j+i) a ⋯ (tf.mpr #[by simp at f;lia,by simpa using e]);have:a≠j:=λz=>s (z▸RN c);lia
  show#[hs.1,SA.mpr #[C,hs.2.1],λa c b hb=>?_];rcases fz.mp hb with rfl|hb
  .show low a c
  .show hs.2.2 a c b hb
 .intro m z;rcases A m z with rfl|z
  .show u
  .show T.le m z
 .rw[<-mA,r];show w
 .intro q k;have k:q∈(NS t.place (va t.place j) j).toList.zip (NS es (va t.place j) (h,v)).toList:=k;rw[d,n,List.zip_append (by rw[ve,ve,mA,mA,T.sz]),Sz]at k;have g:q∈t.place.toList.zip es.toList->On t.mask (·∈(NS t.place (va t.place j) j).toList) q.2.1 q.1:=λz=>(T.OM q z).mono p;rcases mN.mp k with z|z
  .show g ?_;rw[yk]at z;show RL z
  .rcases fz.mp z with rfl|z
   .show o.mono p
   .show g ?_;rw[yl]at z;show RN z
end
def Tab.plain(T:Tab t es)(b:Bool):Tab {t with plain:=b} es:=#[T.sz,T.dm,T.Ls,T.le,T.Lo,T.good,T.odd,T.OM]
structure Own(mask:Nat)(hs:List Int)(o:Array (Option Nat)):Prop where
 size:o.size=mask+1
 all:((gA (mask+1)).filterMap λj=>(o.getD j cb).map (j,·)).map (·.2) |>.Perm (gA hs.length)
 OM:∀j k,o.getD j cb=a8 k->∃h,hs[k]?=a8 h/\On mask (λm=>(o.getD m cb).isSome=c4) h j
theorem eM:∀{l:List α},(∀a∈l,f a=g a)->l.filterMap f=l.filterMap g
 |[],_=>rfl
 |a::l,h=>by
  have c:=eM λb d=>h b (et _ d);have e:=h a hY;cases q:g a with
  |none=>rw[q]at e;rw[Oq e,Oq q,c]
  |some z=>rw[q]at e;rw[JZ e,JZ q,c]
theorem uC [DecidableEq α](i:f a0=cb)(j:f' a0=a8 y):∀(r:List α),r.Nodup->a0∈r->(∀a∈r,a≠a0->f' a=f a)->(r.filterMap f').Perm (y::r.filterMap f)
 |[],_,h,_=>by cases h
 |a::r,d,l,g=>by
  rw[LS]at d;by_cases e:a=a0
  .subst e;rw[JZ j,Oq i,eM (λb c=>g b (et _ c) λz=>d.1 (z▸c))]
  .have k:=uC i j r d.2 (by rcases fz.mp l with z|z;show absurd z.symm e;show z) λb c=>g b (et _ c);have ea:=g a hY e;cases q:f a with
   |none =>
    rw[q]at ea;rw[Oq ea,Oq q];show k
   |some z =>
    rw[q]at ea;rw[JZ ea,JZ q];show(k.cons z).trans (ã y z _)
abbrev D9(mask:Nat)(a:Option (Array (Option Nat)×Nat))(h:Int):Option (Array (Option Nat)×Nat):=do
 let (owner,k) <-a
 let j <-Vq mask owner (Vo mask) (ZF h % (mask+1)) (ZF h)
 pure (owner.setIfInBounds j (a8 k),k+1)
def qH(mask:Nat)(a:Array Int):XF mask a=(a.toList.foldl (D9 mask) (a8 (WG (mask+1) cb,0))).map (·.1):=by
 unfold XF;rw[<-Array.foldl_toList];rfl
def ym{o:Array (Option Nat)}(a:j<o.size):(o.setIfInBounds j (a8 k)).getD m cb=if m=j then a8 k else o.getD m cb:=by
 rw[LB,LB,Array.getElem?_setIfInBounds];by_cases e:m=j
 .subst e;simp[a]
 .rw[Ÿ (λz=>e z.symm),Ÿ e]
def Own.free{mask:Nat}(O:Own mask hs o)(hl:hs.length<=mask):∃j,j<=mask/\o.getD j cb=cb:=by
 show Pp λz=>?_;have h:∀j∈gA (mask+1),∃k,o.getD j cb=a8 k:=λj d=>by
  cases q:o.getD j cb with
  |none=>show absurd #[j,Ru (w6.mp d),q] z
  |some k=>show#[k,rfl]
 have c:∀r:List Nat,(∀j∈r,∃k,o.getD j cb=a8 k)->(r.filterMap λj=>(o.getD j cb).map (j,·)).length=r.length:=by
  intro r;induction r with
  |nil=>intro _;rfl
  |cons a r g =>
   intro f;have(k,e):=f a hY;rw[JZ (b:=(a,k)) (by rw[e];rfl),lg,g λj d=>f j (et _ d),lg]
 have:=O.all.length_eq;rw[eH,c _ h,PH,PH]at this;lia
def Own.step{mask:Nat}(g:Good mask)(O:Own mask hs o)(hl:hs.length<=mask)(h:Int):∃p,D9 mask (a8 (o,hs.length)) h=a8 (p,hs.length+1)/\Own mask (hs++[h]) p:=by
 have(r,s,x):=O.free hl;have A:=g.path h s;have c:∀m,m<=mask->o.getD m (a8 0)=o.getD m cb:=λm t=>by
  have:m<o.size:=by rw[O.size];lia
  rw[LB,LB,KQ this];rfl
 have B:∃j,Vq mask o (Vo mask) (ZF h % (mask+1)) (ZF h)=a8 j:=by
  rw[free_eq];cases q:(c9 mask (Vo mask) (ZF h % (mask+1)) (ZF h)).find? λj=>(o.getD j (a8 0)).isNone with
  |some j=>show#[j,rfl]
  |none =>
   have:=List.find?_eq_none.mp q r A;rw[c r s,x]at this;show absurd rfl this
 have(j,d):=B;rw[free_eq]at d;have(C,i,a,e,D):=List.find?_eq_some_iff_append.mp d;have G:j<=mask:=oZ (h:=h) (by change j∈c9 _ _ _ _;rw[e];simp);have H:o.getD j cb=cb:=by rw[<-c j G];simpa using C
 have I:j<o.size:=by rw[O.size];lia
 have b:∀m,(o.setIfInBounds j (a8 hs.length)).getD m cb=if m=j then a8 hs.length else o.getD m cb:=λm=>ym I
 have u:∀m,(o.getD m cb).isSome=c4->((o.setIfInBounds j (a8 hs.length)).getD m cb).isSome=c4:=λm t=>by
  rw[b];split
  .rfl
  .show t
 show#[o.setIfInBounds j (a8 hs.length),?_,#[?_,?_,?_]]
 .change(Vq mask o (Vo mask) (ZF h % (mask+1)) (ZF h)).bind _=_;rw[free_eq,d];rfl
 .rw[Array.size_setIfInBounds];show O.size
 .have:=uC (f:=λm=>(o.getD m cb).map (m,·)) (f':=λm=>((o.setIfInBounds j (a8 hs.length)).getD m cb).map (m,·)) (a0:=j) (y:=(j,hs.length)) (by simp[H]) (by simp[b]) (gA (mask+1)) Ď (w6.mpr ⋯) (λm _ ne=>by simp only[b,Ÿ ne]);show(this.map (·.2)).trans ?_;rw[mu,ko,ri,ğ (n:=hs.length)];show(O.all.cons hs.length).trans (Zu _ _).symm
 .intro m k hk;rw[b]at hk;by_cases em:m=j
  .rw[ŵ em]at hk;cases hk;subst em;show#[h,by simp,i,a,e,λq v=>u q ?_];have l:=D q v;have J:q<=mask:=oZ (h:=h) (by change q∈c9 _ _ _ _;rw[e];show Ox _ v);rw[c q J]at l;cases z:o.getD q cb with
   |none=>rw[z]at l;simp at l
   |some _=>rfl
  .rw[Ÿ em]at hk;have(h',w,L):=O.OM m k hk;show#[h',by rw[C0 (mr.mp w).1];show w,L.mono u]
def Bj(mask:Nat):Own mask [] (WG (mask+1) cb):=by
 have e:∀j,(WG (mask+1) (cb:Option Nat)).getD j cb=cb:=λj=>by
  rw[LB,Array.getElem?_replicate];split<;>rfl
 show#[Array.size_replicate,?_,λj k h=>by rw[e]at h;cases h];have:∀r:List Nat,(r.filterMap λj=>((WG (mask+1) (cb:Option Nat)).getD j cb).map (j,·))=[]:=λr=>by
  rw[List.filterMap_eq_nil_iff];intro j _;rw[e];rfl
 rw[this];show .nil
theorem uD{mask:Nat}(g:Good mask):∀(hs done:List Int) (o:Array (Option Nat)),Own mask done o->done.length+hs.length<=mask+1->∃a,hs.foldl (D9 mask) (a8 (o,done.length))=a8 (a,done.length+hs.length)/\Own mask (done++hs) a
 |[],done,o,O,_=>#[o,rfl,by rw[D1];show O]
 |h::hs,done,o,O,hl=>by
  rw[lg]at hl;have(o1,d,e):=O.step g ⋯ h;have(o2,b,c):=uD g hs (done++[h]) o1 e (by rw[ko,ri];lia);rw[ko,ri]at b;show#[o2,?_,by rw[Rt]at c;show c];rw[My,d,b,lg];congr 2
  lia
theorem so(g:Nat->Option Nat):∀r:List Nat,(r.filterMap λj=>(g j).map (j,·)).map (·.1)=r.filter λj=>(g j).isSome
 |[]=>rfl
 |a::r=>by
  cases q:g a with
  |none=>rw[Oq (by rw[q];rfl),List.filter_cons_of_neg (by rw[q];simp)];show so g r
  |some k=>rw[JZ (b:=(a,k)) (by rw[q];rfl),List.filter_cons_of_pos (by rw[q];rfl),mu,so g r]
theorem qI(es:Array β):∀r:List (Nat×Nat),(∀q∈r,q.2<es.size)->∃c:List β,(r.map (·.2)).filterMap (es[·]?)=c/\c.length=r.length/\∀x∈(r.map (·.1)).zip c,∃q∈r,x.1=q.1/\es[q.2]?=a8 x.2
 |[],_=>#[[],rfl,rfl,λx hx=>by cases hx]
 |q::r,h=>by
  have(c,e,l,z):=qI es r λx hx=>h x (et _ hx);have d:=h q hY;show#[es[q.2]::c,?_,by rw[lg,l,lg],λx hx=>?_]
  .rw[mu,JZ (KQ d),e]
  .rw[mu,Sz]at hx;rcases fz.mp hx with rfl|hx
   .show#[q,hY,rfl,KQ d]
   .have(p,a,b):=z x hx;show#[p,et _ a,b]
def yn(es:Array β):(gA es.size).filterMap (es[·]?)=es.toList:=by
 have:∀l:List β,(gA l.length).filterMap (l[·]?)=l:=λl=>by
  induction l with
  |nil=>rfl
  |cons a l c =>
   rw[lg,SV,JZ (f:=λx=>(a::l)[x]?) (b:=a) rfl,YF];congr 1
 have h:=this es.toList;rw[mA]at h;show h.symm▸(eM λi _=>by simp)
def yo{mask finger moves:Nat}{led plain:Bool}{es:Array (Int×fx)}(g:Good mask)(ho:mask % 2=1)(hl:es.size<=mask):∃t' e,Ã mask finger moves led plain (es.map (·.1))=a8 (t',e)/\(e.filterMap (es[·]?)).toList.Perm es.toList/\Tab t' (e.filterMap (es[·]?))/\t'.mask=mask/\t'.led=led/\t'.plain=plain/\t'.moves=moves:=by
 have hs:(es.map (·.1)).toList.length=es.size:=by rw[mA,Array.size_map]
 have(o,w,O):=uD g (es.map (·.1)).toList [] _ (Bj mask) (by rw[hs];simp;lia);rw[HH]at O;have x:XF mask (es.map (·.1))=a8 o:=by
  rw[qH,show((0:Nat)=([]:List Int).length) from rfl,w];rfl
 let d:=(gA (mask+1)).filterMap λj=>(o.getD j cb).map (j,·);have y:∀q∈d,q.2<es.size:=λq i=>by
  have:=O.all.mem_iff.mp (oa.mpr #[q,i,rfl]);rw[hs]at this;show w6.mp this
 have(A,r,B,C):=qI es d y;have f:((d.map (·.2)).toArray.filterMap (es[·]?)).toList=A:=by
  rw[Array.toList_filterMap];show r
 have s:d.length=es.size:=by
  have:=O.all.length_eq;rw[eH,PH,hs]at this;show this
 have l:d.map (·.1)=(gA (mask+1)).filter λj=>(o.getD j cb).isSome:=so _ _;have t:((d.map (·.2)).toArray.filterMap (es[·]?)).size=es.size:=by rw[<-mA,f,B,s]
 show#[{mask,place:=(d.map (·.1)).toArray,dummies:=#v[],finger,led,moves,plain},(d.map (·.2)).toArray,?_,?_,#[?_,rfl,?_,?_,?_,g,ho,?_],rfl,rfl,rfl,rfl]
 .unfold Ã;rw[x];rfl
 .rw[f,<-r];show(O.all.filterMap _).trans ?_;rw[hs,yn]
 .rw[t];change(d.map (·.1)).toArray.size=_;rw[lx,eH,s]
 .change(d.map (·.1)).Pairwise (· < ·);rw[l];show ŗ List.filter_sublist List.pairwise_lt_range
 .change ∀j∈d.map (·.1),j<=mask;rw[l];intro j u;show Ru (w6.mp (Su.mp u).1)
 .rw[t];show hl
 .intro q i;have i:q∈(d.map (·.1)).zip ((d.map (·.2)).toArray.filterMap (es[·]?)).toList:=i;rw[f]at i;have(p,a,b,c):=C q i;have(j,u,ep):=NY.mp a;have(k,D,G):=hQ.mp ep;subst G;have(h,v,H):=O.OM j k D;have I:q.2.1=h:=by
   have:(es.map (·.1)).toList[k]?=a8 q.2.1:=by
    rw[NK,Array.getElem?_map,c];rfl
   rw[this]at v;show Jc v
  rw[I,b];show H.mono λm n=>?_;change m∈d.map (·.1);rw[l];show Su.mpr #[w6.mpr ?_,n];show Nat.lt_of_not_le λz=>?_;have:o.getD m cb=cb:=by
   rw[LB,Array.getElem?_eq_none (by rw[O.size];show z)];rfl
  rw[this]at n;cases n
end Tb
namespace L2
open PySem PySem.Spec PyProof.Rows
section
def kD(hk:Za (PySem.strKind prog w) s.heap l a)(h:Q dV s):js (mn prog w) A (PU (n+1) (.ref a)) Q E s:=by
 have f:=hk.typeIs;have(o,b,m,ho,_,g,i):=hk;unfold PU;show cc (Rn f ?_)
 dsimp only
 show cc (d6 ?_);simp only[L6,pj,ź];show cc (TR ho g ?_);show cc ?_;change js _ _ (ŉ b _ _) _ _ s;rw[<-Qu];show Pt _ (λrest r s'=>r.1=cb/\s'=s/\∀v∈rest,ũ v=c4) _ ?_ ?_ _ _ ⟨rfl,rfl,i.byValue⟩
 .rintro v rest r s' ⟨c,rfl,d⟩;have j:=d v hY;have e:PU n v=pure dV:=by cases v<;>first|(unfold PU;rfl)|show nomatch j
  rw[e];show cc (d6 ?_);simp only[pj,ź];show d6 #[rfl,rfl,λu k=>d u (et _ k)]
 .rintro⟨p,q⟩ s' ⟨c,rfl,_⟩;simp only at c;subst c;show d6 h
def hU(hk:az prog w s.heap k a)(h:Q dV s):js (mn prog w) A (PU 8 (.ref a)) Q E s:=by
 have d:=hk.typeIs;have(o,n,t,b,ho,_,f,g):=hk;unfold PU;show cc (Rn d ?_)
 dsimp only
 show cc (d6 ?_);simp only[L6,pj,ź];show cc (TR ho f ?_);show cc ?_;rw[<-Qu];show Pt _ (λrest r s'=>r.1=cb/\s'=s/\(rest=[K_ k.1 t,vu b]\/rest=[vu b]\/rest=[])) _ ?_ ?_ _ _ ⟨rfl,rfl,.inl rfl⟩
 .rintro v rest r s' ⟨c,rfl,(e|e|e)⟩
  .cases e;rw[show PU 7 (.str k.1 t)=pure dV from rfl];show cc (d6 ?_);simp only[pj,ź];show d6 #[rfl,rfl,.inr (.inl (by first|rfl|trivial))]
  .cases e;show cc (kD g ?_);simp only[pj,ź];show d6 #[rfl,rfl,.inr (.inr (by first|rfl|trivial))]
  .cases e
 .rintro⟨i,j⟩ s' ⟨c,rfl,_⟩;simp only at c;subst c;show d6 h
def m8(hk:az prog w s.heap k a)(h:Q dV s):js (mn prog w) A (ė 8 (.ref a)) Q E s:=by
 have c:=hk.typeIs;have(o,n,t,b,ho,_,d,g):=hk;unfold ė;show cc (SG c PySem.F.slot_tuple_hash.lookup ?_)
 dsimp only
 show cc (TR ho d ?_);show cc ?_;rw[<-Qu];show Pt _ (λrest r s'=>r.1=cb/\s'=s/\rest=[K_ k.1 t,vu b]) _ ?_ ?_ _ _ ⟨rfl,rfl,rfl⟩
 .rintro v rest r s' ⟨f,rfl,e⟩;cases e;rw[show ė 7 (.str k.1 t)=pure dV from rfl];show cc (d6 ?_);simp only[Vy,ž];show d6 (d6 h)
 .rintro⟨i,j⟩ s' ⟨f,rfl,e⟩;cases e
def lC(hk:az prog w s.heap k a)(g:∀y∈i,∃k' b,y=.ref b/\az prog w s.heap k' b)(h:Q dV s):js (mn prog w) A (Zk (.ref a) i) Q E s:=by
 unfold Zk;show cc ?_;show Pt _ (λrest r s'=>r.1=cb/\s'=s/\∀y∈rest,∃k' b,y=.ref b/\az prog w s.heap k' b) _ ?_ ?_ _ _ ⟨rfl,rfl,g⟩
 .rintro v rest r s' ⟨c,rfl,d⟩;have(k',b,rfl,e):=d v hY;have f:∀u∈rest,∃k' b,u=.ref b/\az prog w s'.heap k' b:=λu j=>d u (et _ j)
  dsimp only
  split
  .show d6 #[rfl,rfl,f]
  .show cc (dz hk ?_);simp only[L6,pj,ź];show cc (dz e ?_);simp only[L6,pj,ź];show cc (hU hk ?_);simp only[pj,ź];show cc (hU e ?_);simp only[pj,ź];show d6 #[rfl,rfl,f]
 .rintro⟨l,m⟩ s' ⟨c,rfl,_⟩;simp only at c;subst c;show d6 h
end
@[irreducible] noncomputable def rH(prog:z8)(w:JM)(k:Str×List Str):Int:=iT prog w k
def Gr(prog:z8)(w:JM)(k:Str×List Str):iT prog w k=rH prog w k:=by
 unfold rH;rfl
end L2
namespace L2
open PySem PySem.Spec PyProof.Rows Tb
section
abbrev sr(prog:z8)(w:JM)(p:(Str×List Str)×k9):Int×fx:=(rH prog w p.1,.ref p.2)
theorem kj{t:Pm}(hs:t.place.toList.Pairwise (· < ·))(g:t.dummies=#v[]):∀{l:List Nat},(∃j∈l,t.slot j=.empty)->∃c j b,l=c++j::b/\(∀m∈c,m∈t.place.toList)/\t.slot j=.empty
 |[],⟨_,h,_⟩=>by cases h
 |a::l,⟨j,n,d⟩=>by
  rcases uz hs g a with⟨k,i,f⟩|⟨k,f⟩
  .have o:j∈l:=by
    rcases fz.mp n with z|z
    .rw[z,f]at d;cases d
    .show z
   have(c,p,b,e,p1,p2):=kj hs g #[j,o,d];show#[a::c,p,b,by rw[e];rfl,λm hm=>by
    rcases fz.mp hm with rfl|hm
    .show k
    .show p1 m hm,p2]
  .show#[[],a,l,rfl,(λm hm=>by cases hm),f]
abbrev Sj(t:Pm)(es:Array (Int×fx))(prog:z8)(w:JM)(h:Nq)(k:Str×List Str)(l:List Nat):Prop:=∃m∈l,∃(i:Nat) (b:k9),t.place[i]?=a8 m/\es[i]?=a8 (rH prog w k,vu b)/\az prog w h k b
def su{L:List ((Str×List Str)×k9)}(hu:A.units+2<K')(ho:s.heap.get? a=a8 o)(hd:o.data=.set es ep t)(T:Tab t es)(J5:es.toList=L.map (sr prog w))(hL:∀p∈L,az prog w s.heap p.1 p.2)(hk:az prog w s.heap k x):
  ∀(n fuel f:Nat) (l:List Nat) (p:Y4) (Lh:Option Y4),l.length<=n->n<fuel->Lh.getD (t.probeStart (rH prog w k))=p->Pl t f p=l->l.length<=10 * Vo t.mask->p.dummy=cb->(∃j∈l,t.slot j=.empty) ->
   (∀d j c,l=d++j::c->(∀m∈d,m∈t.place.toList)->t.slot j=.empty->(Sj t es prog w s.heap k d->Q (.there cb) s)/\(¬Sj t es prog w s.heap k d->Q (.free j dV) s)) ->
   js (mn prog w) A (setSearchFrom a (.ref x) (rH prog w k) c4 fuel Lh) Q E s:=by
 have Sk:∀{i:Nat} {e:Int×fx},es[i]?=a8 e->∃k' b,e=(rH prog w k',.ref b)/\az prog w s.heap k' b:=λ{i e} h=>by
  have:e∈es.toList:=by have(q,rfl):=tf.mp h;simp
  rw[J5]at this;have(p,C,rfl):=oa.mp this;show#[p.1,p.2,rfl,hL p C]
 have live:∀{i j:Nat},t.slot j=.live i->∃e,es[i]?=a8 e:=λ{i j} h=>by
  have(q,_):=tf.mp (kK h);rw[T.sz]at q;show#[_,KQ q]
 intro n;induction n with
 |zero =>
  intro fuel f l p Lh hl hf IB C B UH ⟨j,hj,_⟩ _;have:l=[]:=Qt ⋯;subst this;cases hj
 |succ n ih =>
  intro fuel f l p Lh hl hf IB C B UH UI H;cases fuel with
  |zero=>lia
  |succ fuel =>
   unfold setSearchFrom;show cc (I0 ho hd T.fits ?_)
   dsimp only
   rw[T.Gq];simp only[pj,ź]
   k_delta "storedHashAt"
   rw[IB];have(d,j,c,D,h1,h2):=uB (hashAt:=λi=>((es[i]?).map (·.1)).getD 0) (h:=rH prog w k) l (10 * Vo t.mask) f p C B UH UI λm _=>T.Bi m;have JW:∀m∈d,m∈t.place.toList:=λm g=>by
    have(i,hi,_):=h1 m g;have(q,e):=tf.mp (kK hi);rw[<-e];simp
   have UJ:¬Sj t es prog w s.heap k d:=λJq=>by
    have(m,g,i,b,e1,G,_):=Jq;have(i',hi,JI):=h1 m g;rw[gy T.Ls e1]at hi;cases hi;rw[G,Uh,ê]at JI;show JI rfl
   rcases h2 with⟨v,h4⟩|⟨i,f',next,v,h4,h5,h6,h7⟩
   .have e:t.probe (λi=>((es[i]?).map (·.1)).getD 0) (rH prog w k) p=a8 (.empty j cb):=h4;rw[e]
    dsimp only
    show d6 ((H d j c D JW v).2 UJ)
   .have e:t.probe (λi=>((es[i]?).map (·.1)).getD 0) (rH prog w k) p=a8 (.candidate j i next):=h5;rw[e]
    dsimp only
    have(e0,I):=live v;have(k',b,rfl,hb):=Sk I;have ON:j∈t.place.toList:=by
     have(q,e):=tf.mp (kK v);rw[<-e];simp
    have NU:∃j∈c,t.slot j=.empty:=by
     have(j0,J,N):=UI;rw[D]at J;rcases mN.mp J with z|z
     .have(i0,WJ,_):=h1 j0 z;rw[WJ]at N;cases N
     .rcases fz.mp z with z|z
      .rw[z,v]at N;cases N
      .show#[j0,z,N]
    have PF:c≠[]:=by
     have(j0,J,_):=NU;intro z;rw[z]at J;cases J
    have key:∀m:Sem SetFound,js (mn prog w) A m Q E s->js (mn prog w) A (if (!t.led)=c4 then(do
      let b <-Zk (vu x) (Zv (λx=>x.snd) (Array.filter (λx=>x.fst==rH prog w k) es).toList)
      if b=c4 then do
       ē "set:the-search-would-show-the-table"
       m
      else m) else m) Q E s:=λm g=>by
     split
     .show cc (lC hk (λy hy=>?_) ?_)
      .have(e,O,rfl):=oa.mp hy;have O:e∈es.toList:=by
        rw[Array.mem_toList_iff]at O ⊢;show(Array.mem_filter.mp O).1
       rw[J5]at O;have(p,C,rfl):=oa.mp O;show#[p.1,p.2,rfl,hL p C]
      .simp only[pj,ź];show g
     .show g
    show key _ ?_;rw[I]
    dsimp only
    show cc (Ka (eI hu hb hk ?_));show cc (I0 ho hd T.fits ?_)
    dsimp only
    by_cases Y:k'=k
    .rw[ŷ Y];simp only[ZP,ž];have(NV,j2,L9,G,q1,q2):=kj T.Ls T.dm NU;show d6 ((H (d++j::NV) j2 L9 (by rw[D,G];simp) (λm g=>?_) q2).1 ⟨j,by simp,i,b,kK v,by rw[<-Y];show I,Y▸hb⟩);rcases mN.mp g with z|z
     .show JW m z
     .rcases fz.mp z with rfl|z
      .show ON
      .show q1 m z
    .rw[Ŷ Y];have WK:t.sameMemory t.moves t.mask=a8 c4:=by simp[SetTable.sameMemory]
     simp only[P',pj,ź,WK,ž,v,I];show cc (wpAny_isSame_ref_self ?_);show cc (d6 ?_);simp only[ž];have WL:c.length<=n:=by
      have:=Ż OC D;rw[ko,lg]at this;lia
     show ih fuel f' c next (a8 next) WL ⋯ rfl (h7 PF) (by
      have:=Ż OC D;rw[ko,lg]at this;lia) h6 NU λNV j2 L9 G q1 q2=>?_
     have hH:=H (d++j::NV) j2 L9 (by rw[D,G];simp) (λm g=>by
      rcases mN.mp g with z|z
      .show JW m z
      .rcases fz.mp z with rfl|z
       .show ON
       .show q1 m z) q2
     show#[λz=>hH.1 ?_,λz=>hH.2 λ⟨m,g,i2,b2,a1,u,a3⟩=>?_]
     .have(m,g,r):=z;show#[m,vz _ (et _ g),r]
     .rcases mN.mp g with q|q
      .show UJ #[m,q,i2,b2,a1,u,a3]
      .rcases fz.mp q with rfl|q
       .rw[gy T.Ls a1]at v;cases v;rw[I]at u;injection u with u
        injection u with _ u
        injection u with u
        subst u;show Y (hb.inj a3)
       .show z #[m,q,i2,b2,a1,u,a3]
end
def az.up(x:az prog w h k a)(d:∀b o,h.get? b=a8 o->h'.get? b=a8 o):az prog w h' k a:=by
 have(e,n,t,b,f,g,i,o2,j,l,m,p,c,q):=x;show#[e,n,t,b,d _ _ f,g,i,o2,j,l,d _ _ m,p,c,q]
theorem qJ(f:α->β):∀(L:List α) {l:List β},l.Perm (L.map f)->∃b:List α,l=b.map f/\b.Perm L
 |[],l,h=>#[[],h.eq_nil,.nil]
 |a::L,l,h=>by
  have g:f a∈l:=h.mem_iff.mpr hY;have(c,d,rfl):=List.append_of_mem g;have i:(c++d).Perm (L.map f):=((Y6.symm.trans h):(f a::(c++d)).Perm (f a::L.map f)).cons_inv;have(b,e,p):=qJ f L i;have(M1,M2,rfl,j,k):=List.map_eq_append_iff.mp e.symm;show#[M1++a::M2,by rw[H8,mu,j,k],Y6.trans (p.cons a)]
theorem qK{P:Nat->Prop}:∀{i c k f:List Nat},i++m::k=c++j::f->(∀x∈i,P x)->P m->¬P j->m∈c
 |[],[],_,_,e,_,g,d=>by injection e with e;show absurd (e▸g) d
 |[],b::c,_,_,e,_,g,d=>by injection e with e;rw[e];show hY
 |a::i,[],_,_,e,h,g,d=>by injection e with e;show absurd (e▸h a hY) d
 |a::i,b::c,_,_,e,h,g,d=>by
  injection e with _ e
  show et _ (qK e (λx l=>h x (et _ l)) g d)
abbrev QN(m:Nat):Prop:=m=7\/m=31\/m=127
def QN.good(h:QN m):Good m/\m % 2=1:=by
 rcases h with rfl|rfl|rfl
 .show#[CY,rfl]
 .show#[D7,rfl]
 .show#[Bd,rfl]
abbrev iz(P:z8)(w:JM)(b h:Nq)(a:k9)(led:Bool)(D:List (Str×List Str)):Prop :=
 ∃(L:List ((Str×List Str)×k9)) (es:Array (Int×fx)) (ep:Nat) (t:Pm),h.get? a=a8 {cls:=.type "set",dict:=cb,data:=.set es ep t}/\es.toList=L.map (sr P w) /\
  (L.map (·.1)).Perm D/\D.Nodup/\(∀p∈L,az P w b p.1 p.2)/\Tab t es/\t.tooFull=dV/\QN t.mask/\t.led=led
section
theorem sv(hS:iz prog w h0 s.heap a led D)(up:∀b o,h0.get? b=a8 o->s.heap.get? b=a8 o)(KD:D.length<64)(hu:A.units+2<K')(QO:az prog w h0 k x)
    (h:∀h',Mx a s.heap h'->iz prog w h0 h' a led (if k∈D then D else D++[k])->Q (ei (k∉D)) {s with heap:=h' }) :
    js (mn prog w) A (Zj a (.ref x) (rH prog w k)) Q E s:=by
  obtain⟨L,es,ep,t,ho,J5,IW,IZ,Sl,T,PJ,NW,Kg⟩:=hS;have hL:∀p∈L,az prog w s.heap p.1 p.2:=λp hp=>(Sl p hp).up up;have hk:=QO.up up;have hlen:es.size=D.length:=by rw[<-mA,J5,eH,<-eH (f:=Zt) (as:=L),IW.length_eq]
  unfold Zj Ţ;refine Ka (cc (I0 ho rfl T.fits ?_))
  dsimp only
  rw[show byScan (.ref x) es=dV from rfl];simp only[pj,ź];unfold setSearch;have JL:=yf t.mask (rH prog w k);have Ya:t.mask<=127:=by rcases NW with e|e|e<;>lia
  refine cc (su hu ho rfl T J5 hL hk (path t.mask (rH prog w k)).length 100000 (t.mask+14) (path t.mask (rH prog w k)) (t.probeStart (rH prog w k)) cb (ke _) ?_ rfl Bg JL rfl (T.free _) λpre j post e1 JW hj=>⟨λKk=>?_,λKk=>?_⟩)
  · unfold Vo at JL
    lia
  · dsimp only
    have OO:k∈D:=by
      obtain⟨m,_,i,b,_,e2,e3⟩:=Kk;have:(rH prog w k,vu b)∈es.toList:=by obtain⟨q,z⟩:=tf.mp e2;rw[<-z];simp
      rw[J5]at this;obtain⟨p,hp,z⟩:=oa.mp this;injection z with _ z
      injection z with z
      have:=hL p hp;rw[z]at this;rw[e3.inj this];exact IW.mem_iff.mp (oa.mpr ⟨p,hp,rfl⟩)
    have:=h s.heap (Xk a s.heap) (by rw[ŵ OO];exact⟨L,es,ep,t,ho,J5,IW,IZ,Sl,T,PJ,NW,Kg⟩);rw[Ŷ (λz=>z OO)]at this;exact d6 this
  · have QM:j∉t.place.toList:=λz=>by
      obtain⟨i,hi,e⟩:=PD.mp z;rw[gy T.Ls (i:=i) (tf.mpr ⟨by simpa using hi,by simpa using e⟩)]at hj;cases hj
    have OO:k∉D:=λz=>by
      obtain⟨p,hp,e⟩:=oa.mp (IW.mem_iff.mpr z);subst e;have WM:sr prog w p∈es.toList:=by rw[J5];exact oa.mpr ⟨p,hp,rfl⟩
      obtain⟨i,hi,e⟩:=PD.mp WM;have J_:i<es.size:=by simpa using hi
      have WN:i<t.place.size:=by rw[T.sz];exact J_
      have hz:(t.place[i],sr prog w p)∈t.place.toList.zip es.toList:=by
        refine PD.mpr ⟨i,by simp;lia,?_⟩;rw[List.getElem_zip];exact VY (by simp) e
      obtain⟨Lu,L_,f1,f2⟩:=T.OM _ hz;have f1:path t.mask (rH prog w p.1)=Lu++t.place[i]::L_:=f1;have hm:=qK (P:=(·∈t.place.toList)) (f1.symm.trans e1) f2 (by simp) QM;exact Kk ⟨_,hm,i,p.2,KQ WN,tf.mpr ⟨J_,(by simpa using e:es[i]=sr prog w p)⟩,hL p hp⟩
    have ON:j<=t.mask:=oZ (h:=rH prog w k) (by rw[e1];simp)
    dsimp only
    refine cc (I0 ho rfl T.fits ?_)
    dsimp only
    rw[D8 T.dm]
    dsimp only
    have WO:es.size * 5<t.mask * 3:=by
      unfold YC at PJ;rw[T.fill]at PJ;simpa using PJ
    have Kp:es.size+1<=t.mask:=by rcases NW with e|e|e<;>lia
    have hb:va t.place j<=es.size:=by rw[<-T.sz];exact(iy (j:=j) T.Ls).1
    have T1:=T.put (v:=.ref x) (h:=rH prog w k) ⟨pre,post,e1,JW⟩ QM ON Kp;have Js:=d_ es (va t.place j) (rH prog w k,vu x) hb;have eL:(NS es (va t.place j) (rH prog w k,vu x)).toList=(L.take (va t.place j)++(k,x)::L.drop (va t.place j)).map (sr prog w):=by
      rw[Js,J5,H8,mu,ķ,ZN];rfl
    have pL:(L.take (va t.place j)++(k,x)::L.drop (va t.place j)).Perm (L++[(k,x)]):=Y6.trans (by rw[Kj];exact(Zu _ _).symm);generalize hE:NS es (va t.place j) (rH prog w k,vu x)=G' at T1 eL;generalize hM:L.take (va t.place j)++(k,x)::L.drop (va t.place j)=L' at pL eL;have WQ:G'.size=D.length+1:=by rw[<-mA,eL,eH,pL.length_eq,ko,<-eH (f:=Zt) (as:=L),IW.length_eq];rfl
    have Nc:(L'.map (·.1)).Perm (D++[k]):=(pL.map _).trans (by rw[H8];exact IW.append_right _);have UK:(D++[k]).Nodup:=by
      rw[LF]
      exact ⟨IZ, by simp, fun y hy z hz => by have : z = k := by simpa using hz
                                              subst this;rintro rfl;exact OO hy⟩
    have UL:∀p∈L',az prog w h0 p.1 p.2:=λp hp=>by
      rcases mN.mp (pL.mem_iff.mp hp) with z|z
      · exact Sl p z
      · rw[tr.mp z];exact QO
    have LX:∀h',Mx a s.heap h'->iz prog w h0 h' a led (D++[k])->Q c4 {s with heap:=h' }:=λh' sb hs=>by
      have:=h h' sb (by rw[Ÿ OO];exact hs);rw[ŷ OO]at this;exact this
    have tail:∀(b:Bool) (t2:Pm),t2={t with place:=NS t.place (va t.place j) j,plain:=b}->js (mn prog w) A (do
        storeSet a G' t2
        if (!false&&t2.tooFull)=true then do
            setRelay a (SetTable.grown (es.size+1))
            pure true
          else pure c4) Q E s:=by
      intro b t2 Sm;have T2:Tab t2 G':=by rw[Sm];exact T1.plain b
      have UM:t2.mask=t.mask:=by rw[Sm]
      have UN:t2.led=led:=by rw[Sm];exact Kg
      refine cc (Wi ho rfl ?_ (Wk (by show G'.size<4096;lia)));have Mt:(s.heap.update a (O2 G' t2)).get? a=a8 {cls:=.type "set",dict:=cb,data:=.set G' (ep+1) t2}:=by
        have:=Ki (O2 G' t2) ho rfl;exact this
      have LZ:=Oi s.heap a (O2 G' t2);have PK:t2.tooFull=ei (G'.size * 5 >= t.mask * 3):=by
        unfold YC;rw[T2.fill,UM]
      split
      · rename_i hc
        rw[Vy,Ug,PK,Ŵ]at hc;have PL:∃m',XM (Sw (es.size+1))=m'+1/\QN m'/\G'.size * 5<m' * 3:=by
          rw[hlen];rcases NW with e|e|e
          · have:D.length=4:=by lia
            rw[this];exact⟨31,by decide +kernel,.inr (.inl rfl),by lia⟩
          · have:D.length=18:=by lia
            rw[this];exact⟨127,by decide +kernel,.inr (.inr rfl),by lia⟩
          · lia
        obtain⟨m',em,PM,Jh⟩:=PL;unfold setRelay;refine cc (cc (I0 Mt rfl T2.fits ?_))
        dsimp only
        rw [em, if_neg (by have : sizeLine = 16777216 := by decide
                           rcases PM with z|z|z<;>lia)]
        unfold YP;rw[em,Nat.add_sub_cancel];obtain⟨t3,order,r1,r2,r3,r4,r5,r6,r7⟩:=yo (mask:=m') (finger:=t2.finger) (moves:=t2.movedTo m') (led:=t2.led) (plain:=t2.plain) (es:=G') PM.good.1 PM.good.2 (by rcases PM with z|z|z<;>lia);rw[r1]
        k_delta "reordered"
        dsimp only
        generalize hO:order.filterMap (G'[·]?)=NX at r2 r3;have UO:NX.size=G'.size:=by rw[<-mA,r2.length_eq,mA]
        rw[Ÿ (by simp[UO])];refine cc (d6 ?_)
        dsimp only
        refine Wi Mt rfl ?_ (Wk (by show NX.size<4096;lia));have MK:((s.heap.update a (O2 G' t2)).update a (O2 NX t3)).get? a=a8 {cls:=.type "set",dict:=cb,data:=.set NX (ep+1+1) t3}:=Ki (O2 NX t3) Mt rfl;have Sn:=Oi (s.heap.update a (O2 G' t2)) a (O2 NX t3);rw[eL]at r2;obtain⟨L3,e3,p3⟩:=qJ (sr prog w) L' r2;refine d6 (LX _ (LZ.trans Sn) ⟨L3,NX,_,t3,MK,e3,(p3.map _).trans Nc,UK,λp hp=>UL p (p3.mem_iff.mp hp),r3,?_,by rw[r4];exact PM,by rw[r5];exact UN⟩);unfold YC;rw[r3.fill,r4,UO];exact Ŷ ⋯
      · rename_i hc
        rw[Vy,Ug]at hc;exact d6 (LX _ LZ ⟨L',G',_,t2,Mt,eL,Nc,UK,UL,T2,Ą.mpr hc,by rw[UM];exact NW,UN⟩)
    by_cases hp:t.plain=c4
    · rw[ŵ hp]
      refine cc (m8 hk ?_);simp only[pj,ź];exact tail dV _ rfl
    · rw[Ÿ hp]
      refine cc (d6 ?_);simp only[ž];exact tail t.plain _ rfl
end
abbrev fO(D:List cO)(x:cO):List cO:=if x∈D then D else D++[x]
abbrev bF(l:List cO):List cO:=l.foldl fO []
def qL(l:List cO)(x:cO):bF (l++[x])=fO (bF l) x:=by unfold bF;rw[Ă];rfl
theorem lD:∀(l D:List cO),(l.foldl fO D).length<=D.length+l.length
 |[],D=>ke _
 |x::l,D=>by
  have:=lD l (fO D x);have:(fO D x).length<=D.length+1:=by
   unfold fO;split
   .lia
   .simp
  rw[My,lg];lia
section
variable{prog:z8}{w:JM}{A:Od}{R:Ű->i4->Prop}{I:k9}{fp wr:List k9}{G:Array Ä->Array Ä->Prop}{n:Nat}{P:Nat->fx->Prop}{St:Nat->i4->Prop}
def jJ(W:ŭ prog w A.in1 I fp wr G n P St)(S:k9)(u:S∉fp)(led:Bool)(a:Nq)(y:∀b∈S::wr,a.get? b=cb)(N:A.in1.units+2<K')
  (ws:List (cO×k9)) (hn:ws.length=n) (O:∀i v,P i v->∃q,ws[i]?=a8 q/\v=.ref q.2) (Q:∀q∈ws,az prog w a q.1 q.2) (c:n<=64) :
  ∀(k i:Nat) (s:i4),n - i=k->i<=n->St i s->iz prog w a s.heap S led (bF ((ws.take i).map (·.1)))->(∀b o,a.get? b=a8 o->s.heap.get? b=a8 o) ->
   (∀s',Moved (S::wr) G s s'->iz prog w a s'.heap S led (bF (ws.map (·.1)))->R (.ok (.ret .none)) s') ->
   SO (mn prog w) A (.builtin "set.update.loop" ⟨[.ref S,.ref I],[]⟩) R s:=by
 have B:S∉wr:=λh=>u (W.sub _ h);have j:∀b∈wr,b∈S::wr:=λb c=>et _ c;intro k;induction k with
 |zero =>
  intro i s hk T l g C m;have Y:i=n:=by lia
  subst Y;show L8 NT ?_;rw[Om JF _];change js _ A.in1 (VA (.ref I) >>= _) _ _ s;show cc (W.done s _ _ l λs' d=>?_);change js _ A.in1 (ret IV) _ _ s';rw[KU ⋯]at g;show d6 (m s' (d.mono j) (by
   have(L,es,ep,t,ho,rest):=g;show#[L,es,ep,t,d.heap S _ B ho,rest]))
 |succ k ih =>
  intro i s hk T l g C m;have D:i<n:=by lia
  show L8 NT ?_;rw[Om JF _];change js _ A.in1 (VA (.ref I) >>= _) _ _ s;show cc (W.item i s _ _ D l λv s' hP L0 d=>?_);have((x,f),H,rfl):=O i v hP;have Ku:iz prog w a s'.heap S led (bF ((ws.take i).map (·.1))):=by
   have(L,es,ep,tb,ho,rest):=g;show#[L,es,ep,tb,d.heap S _ B ho,rest]
  have p:∀b o,a.get? b=a8 o->s'.heap.get? b=a8 o:=λb o e=>d.heap b o (λz=>by rw[y b (j b z)]at e;cases e) (C b o e);have J:az prog w a x f:=Q (x,f) (LR H);change js _ A.in1 (TX [vu f] (ţ S (.ref f)) >>= _) _ _ s';show cc (Ka ?_);unfold ţ;show Ka ?_;show cc (eG ⋯ (J.up p) ?_);have KD:(bF ((ws.take i).map (·.1))).length<64:=by have:=lD ((ws.take i).map (·.1)) [];rw[eH,ve,Sv,Tg]at this;unfold bF;lia
  rw[Gr];show sv (s:={s' with toks:=s'.toks+(x.2.length+3)}) Ku p KD N J λh' r OI=>?_;have R7:iz prog w a h' S led (bF ((ws.take (i+1)).map (·.1))):=by
   rw[ā,H];change iz prog w a h' S led (bF ((ws.take i++[(x,f)]).map (·.1)));rw[H8];change iz prog w a h' S led (bF ((ws.take i).map (·.1)++[x]));rw[qL];show OI
  show d6 #[WS JF _,ih (i+1) _ ⋯ D (W.frame _ s' _ _ L0 (Zd _ _) λb c o e=>?_) R7 (λb o e=>?_) λJH NM NO=>?_]
  .rw[r.2 b (λh:b=S=>u (by rw[<-h];show c))];show e
  .change h'.get? b=a8 o;rw[r.2 b (λh:b=S=>by rw[h,y S hY]at e;cases e)];show p b o e
  .show m JH (ņ W.gtrans ((d.mono j).then_heap (Zd _ _) λb o c e=>?_) NM) NO;rw[r.2 b (λh:b=S=>c (by rw[h];show hY))];show e
end
section
def sy(b:h.get? a=a8 {cls:=.type "set",dict:=cb,data:=.set #v[] 0 (.fresh 0 0 led)}):iz prog w f h a led [] :=
 #[[],#v[],0,_,b,rfl,.nil,XN,(λp c=>by cases c),#[rfl,rfl,.nil,(λj d=>by cases d),pb _,CY,(show(7:Nat) % 2=1 from rfl),λq e=>by cases e],rfl,.inl rfl,rfl]
def m9{ws:List (cO×k9)}
  (L:s.TypeIs (.ref l) T) (R9:UC (.type T) (.type "set")=pure dV) (R_:UC (.type T) (.type "frozenset")=pure dV) (JI:(Qo T==Qo "dict")=dV)
  (j:ws.length<=64) (hu:A.units+20<K') (N:∀q∈ws,az prog w s.heap q.1 q.2)
  (k:∀(s1:i4) (B:Od) (Q':fx->i4->Prop),B.handled=A.handled->(∀b o,s.heap.get? b=a8 o->s1.heap.get? b=a8 o)->s.heap.objs.size<s1.heap.objs.size ->
   (∀I m n G P St a,ŭ prog w B.in1 I m n G ws.length P St->(∀g g',G g g'->g'=g)->s.heap.objs.size∉m->(∀b∈n,s.heap.objs.size<b)->(∀i v,P i v->∃q,ws[i]?=a8 q/\v=.ref q.2)->St 0 {s1 with heap:=a}->(∀b o,s1.heap.get? b=a8 o->a.get? b=a8 o)->Q' (.ref I) {s1 with heap:=a})->js (mn prog w) B (YH (.ref l)) Q' E s1)
  (h:∀(h':Nq) (d:Nat),iz prog w s.heap h' s.heap.objs.size (bB w) (bF (ws.map (·.1)))->(∀b o,b<s.heap.objs.size->s.heap.get? b=a8 o->h'.get? b=a8 o)->Q (.ref s.heap.objs.size) {s with heap:=h',toks:=d}) :
  js (mn prog w) A (R3 (.type "set") [.ref l]) Q E s:=by
 have(c,tl,Sa):=PySem.F.called_set.mro;have KG:=PySem.F.called_set.made;have Kq:=PySem.F.called_set.sub;show Y9 (ZS ?_);change js _ _ (callAny (.type "set") _) _ _ _;show d6 #[Vs _ (by decide +kernel),L8 PySem.F.entry_type_call ?_];rw[Î (ą "set" [.ref l] []) rfl];have a:=PySem.F.called_set.notType;have h2:=PySem.F.called_set.canCreate;have Ws:=PySem.F.typeCall_set_1 (.ref l)
 repeat (any_goals (first|assumption|wp_step))
 show Ro (g_ (.ref l) (E:=E) (Q₁:=λobj y=>obj=.ref s.heap.objs.size/\y={s with heap:=s.heap.push (iZ (bB w))}) ⟨rfl,rfl⟩) λr y p=>?_;cases r with
 |error e=>show p
 |ok O =>
  cases O with
  |ret obj =>
   have(rfl,rfl):=p;have C:(s.heap.push (iZ (bB w))).get? s.heap.objs.size=a8 (iZ (bB w)):=l' _ rfl;have Y:R8 {s with heap:=s.heap.push (iZ (bB w))} (.ref s.heap.objs.size) "set":=#[_,C,rfl]
   have Wt:=PySem.F.called_set.init.lookup;have Wu:=PySem.F.called_set.init.bind (.ref s.heap.objs.size)
   repeat (any_goals (first|assumption|wp_step))
   show Ro (U3 (R:=wants (λr D=>r=.none/\∃h' d,D={s with heap:=h',toks:=d} /\
     iz prog w s.heap h' s.heap.objs.size (bB w) (bF (ws.map (·.1))) /\
     (∀b o,b<s.heap.objs.size->s.heap.get? b=a8 o->h'.get? b=a8 o)) E) PySem.F.called_set.init.plain PySem.F.entry_set_init (Ŏ Y ?_)) λr₂ D t=>?_
   .have(ol,Sb,H):=L;have(Sd,L4,L5,K5):=ol;simp only at H;subst H;have NQ:(s.heap.push (iZ (bB w))).get? l=a8 {cls:=.type T,dict:=L4,data:=L5,slots:=K5}:=ek _ Sb;have Wv:R8 {s with heap:=s.heap.push (iZ (bB w))} (.ref l) T:=#[_,NQ,rfl]
    unfold SU.«set.__init__» noKeywords W5;generalize Se:YH=PI
    wp_walk
    subst Se;show k {s with heap:=s.heap.push (iZ (bB w))} _ _ rfl (λb o e=>ek _ e) (by rw[Ss];show Uc _) λI m n G P St a W hG hf J K4 IB hk=>?_;show cc (YG ?_);show jJ W s.heap.objs.size hf (bB w) s.heap (λb j=>?_) ?_ ws rfl K4 N j (ws.length - 0) 0 _ ⋯ (pb _) IB (sy (hk _ _ C)) (λb o e=>hk _ _ (ek _ e)) ?_
    .have WR:s.heap.objs.size<=b:=by
      rcases fz.mp j with z|z
      .show YY z.symm
      .show Ou (J b z)
     cases q:s.heap.get? b with
     |none=>rfl
     |some o=>show absurd (nc q) (Nat.not_lt_of_le WR)
    .first|(change A.units+1+1+1+2<K';lia)|(change A.units+3+2<K';lia)
    intro s' f u;have(h',g',d',Sf,Pb):=s';have eg:g'=s.gens:=hG _ _ f.gens;have ed:d'=s.drawn:=f.drawn;have eo:Pb=s.os:=f.os;subst eg;subst ed;subst eo;change js _ _ _ _ _ _;show d6 ?_;change js _ _ (ret IV) _ _ _;show d6 #[rfl,h',Sf,rfl,u,λb o x e=>?_];show f.heap b o (λz=>by
     rcases fz.mp z with z|z
     .rw[z]at x;show Mr _ x
     .show absurd (J b z) (Ğ x)) (hk _ _ (ek _ e))
   .cases r₂ with
    |error e=>show t
    |ok Sg =>
     cases Sg with
     |ret r =>
      have(rfl,h',d,rfl,u,Jt):=t
      repeat (any_goals (first|assumption|wp_step))
      show h _ _ u Jt
     |_=>show t.elim
  |_=>show p.elim
def lE{ws:List (cO×k9)}(hh:A.handled=cb)(hl:s.heap.IsList l (ws.map λq=>vu q.2).toArray)(d:ws.length<=64)(j:A.units+20<K')(k:∀q∈ws,az prog w s.heap q.1 q.2)
  (h:∀(h':Nq) (m:Nat),iz prog w s.heap h' s.heap.objs.size (bB w) (bF (ws.map (·.1)))->(∀b o,b<s.heap.objs.size->s.heap.get? b=a8 o->h'.get? b=a8 o)->Q (.ref s.heap.objs.size) {s with heap:=h',toks:=m}) :
  js (mn prog w) A (R3 (.type "set") [.ref l]) Q E s:=by
 have g:l<s.heap.objs.size:=let ⟨o,ho,_⟩:=hl;nc ho;show m9 hl.typeIs PySem.F.sub_list_set PySem.F.sub_list_frozenset (by decide) d j k (λs1 B Q' n hk f p=>?_) h;have K3:s1.heap.IsList l (ws.map λq=>vu q.2).toArray:=let ⟨o,ho,r⟩:=hl;⟨o,hk _ _ ho,r⟩;show Wj K3 ?_;have t:l≠s1.heap.objs.size:=sg (W6 g f);have W:=(Ú (prog:=prog) (w:=w) (A:=B.in1) (by simp[n,hh]) s1.heap.objs.size l t (ws.map λq=>vu q.2).toArray).toS;have u:(ws.map λq=>vu q.2).toArray.size=ws.length:=by simp
 rw[u]at W;show p _ _ _ _ _ _ _ W (λ_ _ e=>e) (oU (sg f) (Pe g)) (λb d=>by rw[tr.mp d];show f) (λi v c=>by
  have c:(ws.map λq=>vu q.2).toArray[i]?=a8 v:=c;rw[List.getElem?_toArray,ti,hQ]at c;have(q,a,b):=c;show#[q,a,b.symm]) ⟨⟨_,l' _ rfl,rfl,rfl⟩,K3.push _⟩ λb o e=>ek _ e
end
section
theorem nK:∀{ws:List (cO×k9)}{a:List fx},Vals (ws.map λq=>V.ref q.2) a->a=ws.map λq=>vu q.2
 |[],_,.nil=>rfl
 |q::ws,_,.cons r t=>by
  cases r;rw[nK t];rfl
def qM{ws:List (cO×k9)}(d:X.calm=c4)(m:X.A.units+60<K')(I:Inv X pins σ H s)(c:Jo X.K H p (ws.map λq=>V.ref q.2))(f:∀q∈ws,eJ X.K H (.ref q.2) q.1)(g:ws.length<=64)
  (h:∀(S:k9) (h':Nq) (a:Nat),iz X.prog X.w s.heap h' S (bB X.w) (bF (ws.map (·.1)))->Inv X pins σ H {s with heap:=h',toks:=a}->Q (.ref S) {s with heap:=h',toks:=a}) :
  js (mn X.prog X.w) X.A (R3 (.type "set") [.ref p]) Q X.xe s:=by
 have hh:X.A.handled=cb:=I.ok.hd d;have(n,i,j,hz):=I.list c;obtain rfl:=nK i;show lE hh j.isList g ⋯ (λq c=>iW I (f q c)) λh' a l k=>h _ h' a l (I.kept λb o e=>k b o (nc e) e)
def qN(I:Inv X pins σ H s)(b:iz X.prog X.w h s.heap S (bB X.w) D)
  (q:Q (.int D.length) H):js (mn X.prog X.w) X.A (R3 (.builtin "len") [.ref S]) (EP X pins σ Q) X.xe s:=by
 have(L,es,ep,t,ho,c,d,i,j,T,k,g,l):=b;have a:es.size=D.length:=by rw[<-mA,c,eH,<-eH (f:=Zt) (as:=L),d.length_eq]
 have m:es.size<4096:=by have:=T.Lo;rcases g with e|e|e<;>lia
 show call_len_set ho #[rfl,rfl,rfl] rfl T.fits ⋯ ?_;show#[.int es.size,_,I.kept (t':=s.toks+1+1) (λ_ _ e=>e),#[_,rfl],by rw[a];show q]
end
end L2
namespace L2
open PySem PySem.Spec PyProof.Rows
section
def yp:OE X "str.join" (λx xs H Q=>∃a p b,x=.str a/\xs=[.ref p]/\Jj X.K H p (b.map V.str)/\W4 a b=c4/\Q (.str (H0 a b)) H):=by
 intro pins s σ H x xs v us Q I d rs h;have(a,p,b,rfl,rfl,f,c,q):=h;have(t,rfl):=d;have(u,rfl,r):=vals1 rs;cases r;have(y,g,i,hz):=I.tuple f;have(l,rfl,e):=eZ g;subst e;unfold W4 at c;rw[wk]at c;have(o,j,m,n,w):=i;show Sq F.slot_str_join (Ta _ _ _) F.entry_str_join (F.args_str_join_2 _ _) (meets_str_join_tuple a t p l c) #[#[o,n,j,m,w],post_join l #[joinFit_length c,λt' k=>#[.str _,H,I.tok k,#[_,rfl],q]]]
def m_:fB X (.builtin "repr") (λxs H Q=>∃x,xs=[.str x]/\(ĕ x).length<=eh/\Q (.str (ĕ x)) H):=by
 intro pins s σ H xs us Q I rs h;have(x,rfl,hl,q):=h;have(u,rfl,r):=vals1 rs;have(t,rfl):=r;show P.repr_of_str #[.str _,H,I.tok _,#[_,rfl],q] hl
end
end L2
namespace L2
open PySem PySem.Spec PyProof.Rows PySem.SeqAt
open PySem.AutoSeq1 (wpAny_loadPart')
open PySem.MeetsSeq PySem.MeetsSeq2 PySem.MeetsSeq3
section
def yq(xs:Array fx):((gA xs.size).filterMap λ(m:Nat)=>xs[((xs.size:Int) - 1+(m:Int) * -1).toNat]?).toArray=xs.toList.reverse.toArray:=by
 congr 1
 apply ă;intro i;have e:(gA xs.size).filterMap (λ(m:Nat)=>xs[((xs.size:Int) - 1+(m:Int) * -1).toNat]?)=(gA xs.size).map λm=>xs.toList.reverse.getD m .none:=by
  have:∀l:List Nat,(∀m∈l,m<xs.size)->l.filterMap (λ(m:Nat)=>xs[((xs.size:Int) - 1+(m:Int) * -1).toNat]?)=l.map λm=>xs.toList.reverse.getD m .none:=λl hl=>by
   induction l with
   |nil=>rfl
   |cons a l d =>
    have f:=hl a (by simp);have g:((xs.size:Int) - 1+(a:Int) * -1).toNat=xs.size - 1 - a:=by lia
    have h:xs[xs.size - 1 - a]?=a8 (xs.toList.reverse.getD a .none):=by
     rw[Vu,List.getElem?_reverse (by simpa using f),mA,NK,KQ (show xs.size - 1 - a<xs.size by lia)];rfl
    rw[La,g,h,mu,d λm b=>hl m (by simp[b])]
  show this _ λm b=>w6.mp b
 rw[e,ti];by_cases c:i<xs.size
 .rw[Yo c,Uh,Vu,JQ (by simpa using c)];rfl
 .rw[XD (by simp;lia),XD (by simp;lia)];rfl
def jc(b:é s.heap t a)(hs:s.heap.IsSliceOf f .none .none (.int (-1) g))
  (h:Q (.ref s.heap.objs.size) {s with heap:=s.heap.push {cls:=.type "tuple",data:=.seq a.toList.reverse.toArray}}) (hsz:a.size<=eh):js (mn prog w) A (X4 (.ref t) (.ref f)) Q E s:=by
 have c:sizeOk (.seq a.toList.reverse.toArray):=by
  change a.toList.reverse.toArray.size<=eh;rw[lx,UG,mA];show hsz
 have(os,d,i,e):=id hs;have j:s.TypeIs (.ref f) "slice":=#[os,d,i]
 unfold X4
 try with_reducible show Ka ?_
 first|show cc (d6 ?_)|skip
 show cc (Zf b.typeIs (by decide) ?_);show cc (Tz (name:=W3 "__getitem__") b.typeIs wh
  (OD wh b.typeIs YW ?_ (Zc _ _)))
 change js _ _ (Qs (.ref t) >>= _) _ _ s;show cc (à b ?_);show cc (Rn j ?_);rw[ŵ (by decide)];show cc ?_;unfold TC YE;show cc (cc (Tx d e (x:=.none) rfl (cc (Tx d e (x:=.none) rfl (cc (Tx d e (x:=.int (-1) g) rfl (d6 ?_)))))));show cc (slicePart_int ?_);change js _ _ (if ((-1:Int)==0)=c4 then _ else _) _ _ s;rw[Ÿ (by decide)];show cc (YL (cc (YL (cc (d6 ?_)))));have k:LG ((a.size:Int) - 1) (-1) (-1)=a.size:=by
  unfold LG;simp only[show ¬((-1:Int)>0) by lia,ź,show(- (-1:Int))=1 from rfl,Ê];split<;>lia
 change js _ _ (pure ((a.size:Int) - 1,(-1:Int),LG ((a.size:Int) - 1) (-1) (-1))) _ _ s;rw[k];show d6 ?_;change js _ _ (if ((a.size:Int) - 1==0&&(-1:Int)==1&&a.size==a.size)=c4 then _ else _) _ _ s;rw[Ÿ (by simp),yq]
 first
  |show cc (m:=KN _) (zy (d6 #[_,rfl,d6 h]) c)
  |show cc (m:=KN _) (zy (cc (d6 (d6 #[_,rfl,d6 h]))) c)
  |show cc (cc (m:=KN _) (zy (d6 (d6 #[_,rfl,d6 h])) c))
  |show cc (cc (m:=KN _) (zy (d6 #[_,rfl,d6 h]) c))
end
section
abbrev Ih(K:PySem.W.Frag)(te:TE):TE:=λσ H Q=>te σ H λx b=>∃a xs,x=.ref a/\Jj K b a xs/\∀p,b p=cb->Q (.ref p) (upd b p (.tup xs.reverse))
def qO:∀{xs:List V}{us:List fx},Vals xs us->Vals xs.reverse us.reverse:=λ{xs us} h=>by
 induction h with
 |nil=>show .nil
 |cons r _ a =>
  rw[OQ,OQ];show a.append (.cons r .nil)
def D_(t:PE X e te):PE X (.Subscript e (.Slice cb cb (a8 (.UnaryOp .USub (.Constant (.int 1) J p1) p3)) p2) pos) (Ih X.K te):=by
 intro pins s σ H Q I h;show Æ (IF (t pins s σ H _ I h) λv s1 w=>?_);have(x,i,y,z,A):=w;have(a,xs,rfl,j,q):=A;cases z;show Ē ?_;rw[Y2,Y1];show d6 (d6 ?_);show IF (xN rO ot pins s1 σ i (λv f=>v=.int (-1)/\f=i) y ⟨1,rfl,rfl,rfl⟩) λu s2 B=>?_;have(L,f,k,C,D,G):=B;subst D G;have(l,rfl):=C;have(N,r,O,hz):=k.tuple j;have k1:∀b d,s2.heap.get? b=a8 d->(s2.heap.push {cls:=.type "slice",data:=.fields #v[IV,IV,.int (-1) l]}).get? b=a8 d:=λb d q=>ek _ q;have g:Inv X pins σ f {s2 with heap:=s2.heap.push {cls:=.type "slice",data:=.fields #v[IV,IV,.int (-1) l]}}:=k.kept (t':=s2.toks) k1;have(its',m,n,p):=g.tuple j;have c:its'.toArray.size=xs.length:=by rw[lx];show m.length.symm
 show ĝ (ops:=[.ref a,.ref s2.heap.objs.size]) n.typeIs wh.lookup (jc n (VT ..) ?_ (by rw[c];show p)) (by with_unfolding_all rfl);show#[.ref _,_,g.laid (t':=s2.toks) (o:=.tup xs.reverse) (λb d q=>ek _ q) (ke _) ⟨by rw[UG];show p,its'.reverse,qO m,⟨_,l' _ rfl,rfl,_,rfl⟩⟩,rfl,q _ (g.IE.fresh (ke _))]
end
end L2
namespace L2
open PySem PySem.Spec PyProof.Rows PySem.SeqAt
theorem nL(xs:List α):∀k:Nat,k+2<=xs.length->(gA k).filterMap (λm:Nat=>xs[xs.length - 1 - m]?)=((xs.drop (xs.length - k)).reverse)
 |0,_=>by simp
 |k+1,h=>by
  rw[ğ,List.filterMap_append,nL xs k ⋯];have a:xs.length - 1 - k<xs.length:=by lia
  rw[La,JQ a,List.filterMap_nil];have e:xs.drop (xs.length - (k+1))=xs[xs.length - 1 - k]::xs.drop (xs.length - k):=by
   rw[Py (by lia:xs.length - (k+1)<xs.length)];congr 1
   .congr 1
    lia
   .congr 1
    lia
  rw[e,OQ]
def ng(a:List fx):æ a.toArray cb (a8 1) (a8 (-1))=(a.drop 2).reverse.toArray:=by
 unfold æ;congr 1
 rw[lx];have b:So cb (a8 1) (a8 (-1)) a.length=((a.length:Int) - 1,max (-1) (min 1 ((a.length:Int) - 1)),-1):=by
  simp[So]
 rw[b];have c:Ĳ ((a.length:Int) - 1) (max (-1) (min 1 ((a.length:Int) - 1))) (-1)=(gA (a.length - 2)).map λm:Nat=>a.length - 1 - m:=by
  unfold Ĳ;simp only[show ¬((-1:Int)>0) by decide,ź];have e:(if (a.length:Int) - 1>max (-1) (min 1 ((a.length:Int) - 1)) then((a.length:Int) - 1 - max (-1) (min 1 ((a.length:Int) - 1)) - -1 - 1) / (- -1) else 0).toNat=a.length - 2:=by
   rw[show(- -1:Int)=1 from rfl,Ê];split<;>lia
  rw[e];apply R';intro k hk;have:=w6.mp hk;lia
 change((Ĳ ((a.length:Int) - 1) (max (-1) (min 1 ((a.length:Int) - 1))) (-1)).filterMap λi=>a.toArray[i]?)=_;rw[c,YF];by_cases h:2<=a.length
 .have:=nL a (a.length - 2) ⋯;rw[show a.length - (a.length - 2)=2 by lia]at this;rw[<-this];congr 1
  funext m
  simp
 .rw[show a.length - 2=0 by lia,List.drop_of_length_le ⋯];rfl
section
abbrev Ii(K:PySem.W.Frag)(te:TE):TE:=λσ H Q=>te σ H λx b=>∃a xs,x=.ref a/\Jo K b a xs/\∀p,b p=cb->Q (.ref p) (upd b p (.lst (xs.drop 2).reverse))
def Ea(n:PE X e te):PE X (.Subscript e (.Slice cb (a8 (.Constant (.int 1) Y p4)) (a8 (.UnaryOp .USub (.Constant (.int 1) kx p1) p3)) p2) pos) (Ii X.K te):=by
 intro pins s σ H Q I h;show Æ (IF (n pins s σ H _ I h) λv s1 p=>?_);have(x,j,t,w,y):=p;have(a,xs,rfl,z,q):=y;cases w;show Ē ?_;rw[Y2,Y1,Y1];show d6 ?_;show IF (ot (X:=X) pins s1 σ j (λv c=>v=.int 1/\c=j) t ⟨rfl,rfl⟩) λu0 s2 A=>?_;have(x0,k,B,C,D,G):=A;subst D G;have(f,rfl):=C;show IF (xN rO ot pins s2 σ k (λv c=>v=.int (-1)/\c=k) B ⟨1,rfl,rfl,rfl⟩) λu s3 J=>?_;have(x2,c,L,N,O,T):=J;subst O T;have(g,rfl):=N;have k1:∀b d,s3.heap.get? b=a8 d->(s3.heap.push {cls:=.type "slice",data:=.fields #v[IV,.int 1 f,.int (-1) g]}).get? b=a8 d:=λb d q=>ek _ q;have i:Inv X pins σ c {s3 with heap:=s3.heap.push {cls:=.type "slice",data:=.fields #v[IV,.int 1 f,.int (-1) g]}}:=L.kept (t':=s3.toks) k1;have(A',r,l,hz):=i.list z;have m:=r.length;show ĝ (ops:=[.ref a,.ref s3.heap.objs.size]) l.isList.typeIs Zg.lookup (Ó l.isList (VT ..) .none (.int 1 f) (.int (-1) g) (by simp) ?_ (by rw[lx]<;>lia)) (by with_unfolding_all rfl);rw[ng];show#[.ref _,_,i.laid (t':=s3.toks) (o:=.lst (xs.drop 2).reverse) (λb d q=>ek _ q) (ke _) ?_,rfl,q _ (i.IE.fresh (ke _))];show#[by rw[UG,H4];lia,_,0,qO (r.drop 2),l' _ rfl]
end
end L2
namespace L2
open PySem PyProof.Rows PySem.W
abbrev Gu(h:Nq)(e C:k9)(a0:fx)(T:Option k9)(b:fx):Prop:=∃oe vs,h.get? e=a8 oe/\oe.cls=.ref C/\oe.data=.fields vs/\vs[0]?=a8 a0/\match T with
 |none=>vs[1]?=a8 .none
 |some T=>T≠e/\vs[1]?=a8 (.ref T)/\∃a ts,h.get? T=a8 a/\a.data=.fields ts/\ts[3]?=a8 b
structure aQ(P:z8)(w:JM)(stack:List Env)(H:Hp)(s:i4)(e C:k9)(T:Option k9)(fl:fx)(H':Hp)(s':i4):Prop where
 os:s'.os=s.os
 bare:Ww s'.gens
 un:Un (Ji stack) [] H H' s.heap s'.heap
 IE:JG P w H' s'.heap
 new:s.heap.get? e=cb
 he:H' e=cb
 exc:∃a0,Gu s'.heap e C a0 T fl
 hT:∀a,T=a8 a->s.heap.get? a=cb/\H' a=cb
abbrev Li(P:z8)(w:JM):MC:=λouter H s E v s'=>∃e C T H',v=.ref e/\aQ P w outer H s e C (a8 T) .none H' s'/\E (.ref C) cb H'
def bW.there(x:bW P w H h a o):∃u,h.get? a=a8 u:=by
 cases o with
 |lst xs=>have(_,_,_,_,e):=x;show#[_,e]
 |tup xs=>have(_,_,_,_,e,_):=x;show#[_,e]
 |set S n=>have(o,_,_,_,e,_):=x;show#[_,e]
 |ins C c b=>have(_,_,_,e,_):=x;show#[_,e]
 |own y=>show x
 |xd b=>have(_,(_,_,_,e,_),_):=x;show#[_,e]
 |QB lo d=>have(_,_,_,e):=x;show#[_,e]
 |J9 g u=>show#[_,x.1]
 |MZ i=>show#[_,x]
 |met f y=>show#[_,x]
 |ext φ=>show x.2.1
 |_=>have(_,_,_,_,o,_,_,e,_):=x;show#[_,e]
section
variable{P:z8}{w:JM}{stack outer:List Env}{H H':Hp}{s s':i4}{e C L:k9}{T:Option k9}{fl:fx}{base:Nq}{env:Env}{M:Model}{A:Od}{E:fx->i4->Prop}{Q:Unit->i4->Prop}
theorem uE(u:Un (Ji stack) [] H H' s.heap s'.heap)(a:∀b∈Ji stack,H b=cb):∀l:List Env,(∀b∈Ji l,b∈Ji stack)->s.heap.FunFrames base l->s'.heap.FunFrames base l
 |[],_,_=>trivial
 |env::l,hs,⟨hk,⟨L,o,c,d,ho,f⟩,g⟩=>by
  have h:Ji (env::l)=L::Ji l:=by unfold Ji;rw[La,c]
  rw[h]at hs;have(j,q):=u.any ho (a L (hs L hY)) λz=>nomatch z
  show#[hk,#[L,_,c,d,q,f],uE u a l (λb i=>hs b (et _ i)) g]
def aQ.next(F:aQ P w stack H s e C T fl H' s')(l:s.heap.FunFrames base stack)(m:∀b∈Ji stack,H b=cb)(I:B=hideAll s'.heap (e::(T.toList++Ji stack))):
  B.StaysIn s'.heap/\s'.heap.FunFrames B stack/\B.get? e=cb/\(∀a,T=a8 a->B.get? a=cb) /\
   ∀h' i,B.StaysIn h'->h'.FunFrames B stack->h'.TracedAtW B e (.ref C) a0 i->s'.heap.UpToSlots h'->∃c,aQ P w stack H s e C (a8 c) i H' {s' with heap:=h' }:=by
 have p:=uE F.un m _ (λ_ z=>z) l;subst I;show#[λb o q=>of_hideAll _ q,funFrames_hide p λJ N a O=>et _ (vz _ (NY.mpr #[J,N,O])),hideAll_none _ hY,λa z=>hideAll_none _ (et _ (Ox _ (by simp[z]))),λh' i k1 k2 ⟨Y,Kf,c,WU,WV,b1,⟨b2,b0⟩,b3,b4,b5,r,t,v,b9⟩ k4=>?_];have WW:∀a,a∈e::(T.toList++Ji stack)->H' a=cb:=λa ha=>by
  rcases fz.mp ha with rfl|ha
  .show F.he
  rcases mN.mp ha with ha|ha
  .show(F.hT a (by simpa using ha)).2
  .have(_,o,ho,_):=l.mem ha;show F.un.free a o ho (m a ha) λz=>nomatch z
 have keep:∀b o,b∉e::(T.toList++Ji stack)->s'.heap.get? b=a8 o->h'.get? b=a8 o:=λb o hb q=>k1 b o (hideAll_get _ q hb);have slot:∀b o,b∈Ji stack->s'.heap.get? b=a8 o->∃x,h'.get? b=a8 {o with slots:=x}:=λb o hb q=>by
  have(_,j,d,k):=p.mem hb;rw[q]at d;cases d;show k4 b o q k
 have y:∀b o,s.heap.get? b=a8 o->b∉Ji stack->b∉e::(T.toList++Ji stack):=λb o q hb z=>by
  rcases fz.mp z with z|z
  .rw[z,F.new]at q;cases q
  rcases mN.mp z with z|z
  .rw[(F.hT b (by simpa using z)).1]at q;cases q
  .show hb z
 have tn:s.heap.get? c=cb/\H' c=cb:=by
  by_cases z:c∈e::(T.toList++Ji stack)
  .rcases fz.mp z with z|z
   .show absurd z r
   rcases mN.mp z with z|z
   .show F.hT c (by simpa using z)
   .have(_,j,d,k):=k2.mem z;rw[t]at d;cases d;show absurd v (k _)
  .have q:s'.heap.get? c=cb:=by
    cases q:s'.heap.get? c with
    |none=>rfl
    |some o=>have:=hideAll_get _ q z;rw[b5]at this;cases this
   show#[?_,?_]
   .cases f:s.heap.get? c with
    |none=>rfl
    |some o=>have(j,D):=F.un.there _ o f λz=>nomatch z;rw[q]at D;cases D
   .cases f:H' c with
    |none=>rfl
    |some u =>
     have(o,z):=(F.IE c u f).there;rw[q]at z;cases z
 show#[c,F.os,F.bare,#[λb o q n hb g=>keep b o (y b o q hb) (F.un.keep b o q n hb g),λb o q n hb g=>?_,F.un.free,λb o q g=>?_,F.un.JC,F.un.Jw,F.un.JD],λa u q=>(F.IE a u q).mV (λb o hb d=>?_) (λ_ z=>z) λ_ _ z=>z,F.new,F.he,#[_,Y,Kf,b1,b2,b3,b0,r,b4,WU,WV,t,v,b9],λa z=>by cases z;show tn]
 .have(x,h):=F.un.slot b o q n hb g;have(G,f):=slot b _ hb h;show#[G,f]
 .have(j,h):=F.un.there b o q g;by_cases hb:b∈Ji stack
  .have(G,f):=slot b _ hb h;show#[_,f]
  .show#[_,keep b _ (y b o q hb) h]
 .show keep b o (λz=>?_) d;have:=WW b z;rcases hb with rfl|hb
  .rw[q]at this;cases this
  .rw[hb]at this;cases this
def aQ.leave(F:aQ P w (env::outer) H s e C T .none H' s')(c:A.frames=a8 (env::outer))(d:env.frame=a8 L)(q:s.heap.FunFrames base (env::outer))(r:∀b∈Ji (env::outer),H b=cb)
  (h:∀f g,aQ P w (env::outer) H s e C (a8 f) .none H' g->Q () g):js M A (Ł env (.ref e)) Q E s':=by
 have(a0,oe,vs,i,j,k,l,m):=F.exc;obtain⟨B,t⟩:∃B,B=hideAll s'.heap (e::(T.toList++Ji (env::outer))):=#[_,rfl]
 have(n,o,p,u,v):=F.next (a0:=a0) q r t;have a:∀h',Heap.LeftW B (env::outer) e (.ref C) a0 s'.heap h'->Q () {s' with heap:=h' }:=λh' x=>by
  have(k1,k2,k3,y):=x;have(f,z):=v h' .none k1 k2 k3 y;show h _ _ z
 cases T with
 |none=>show wpAny_leaving_firstW c o d i n p k m l λh' z=>a h' (j▸z)
 |some T =>
  have(D,G,I,ts,J,N,O):=m;show wpAny_leaving_nextW c o d #[oe,vs,T,I,ts,i,#[j,l],k,G,u T rfl,D,J,N,O] n p a
def aQ.note{T:k9}(F:aQ P w (env::outer) H s e C (a8 T) .none H' s')(d:A.frames=a8 (env::outer))(f:env.frame=a8 L)(g:s.heap.FunFrames base (env::outer))(i:∀b∈Ji (env::outer),H b=cb)
  (h:∀a c,aQ P w (env::outer) H s e C (a8 a) (KX L) H' c->Q () c):js M A (YO (.ref e) env) Q E s':=by
 have(a0,oe,vs,j,k,l,m,n,o,p,ts,q,r,t):=F.exc;have(u,v,x,y,B):=F.next (a0:=a0) g i rfl;show wpAny_noteFrame_onW d v f #[oe,vs,T,p,ts,j,#[k,m],l,o,y T rfl,n,q,r,t] u x λh' D=>?_;have(k1,k2,k3,G):=D;have(a,z):=B h' _ k1 k2 k3 G;show h _ _ z
def aQ.land{T:k9}(F:aQ P w stack H s e C (a8 T) fl H' s')(d:s.heap.FunFrames base stack)(f:∀b∈Ji stack,H b=cb)
  (h:∀a c,aQ P w stack H s e C (a8 a) .none H' c->Q () c):js M A (setFlight (.ref e) cb) Q E s':=by
 have(a0,oe,vs,g,i,j,k,l,m,p,ts,r,t,u):=F.exc;have(v,x,G,y,B):=F.next (a0:=a0) d f rfl;show wpAny_setFlight_noneW v x #[oe,vs,T,p,ts,g,#[i,k],j,m,y T rfl,l,r,t,u] λh' k1 k2 k3 D=>?_;have(a,z):=B h' _ k1 k2 k3 λb o q n=>#[o.slots,D b o q n]
 show h _ _ z
end
section
def aQ.down(I:Inv X pins σ H s)(k:X.ex=[])(hs:X.stack=X.env::X.outer)(l:X.env.frame=a8 X.env.locals)(F:aQ X.prog X.w X.stack H s e C T m H' s'):aQ X.prog X.w X.outer X.H₀ X.s₀ e C T m H' s':=by
 have nx:∀b:k9,b∉X.ex:=λb z=>by rw[k]at z;cases z
 have j:Ji X.stack=X.env.locals::Ji X.outer:=by rw[hs];unfold Ji;rw[La,l]
 have c:∀b,s.heap.get? b=cb->X.s₀.heap.get? b=cb:=λb q=>by
  cases z:X.s₀.heap.get? b with
  |none=>rfl
  |some o=>have(g,z):=I.base.there b o z (nx b);rw[q]at z;cases z
 have hl:∀b o,X.s₀.heap.get? b=a8 o->b≠X.env.locals:=λb o q=>sg (qw (nc q) I.ok.above);have h:∀b:k9,b∉([]:List k9):=λb z=>nomatch z
 show#[F.os.trans I.os,F.bare,#[λb o q n f _=>?_,λb o q n f _=>?_,λb o q n _=>?_,λb o q _=>?_,λb xs q=>F.un.JC b xs (I.base.JC b xs q),λb o u q=>F.un.Jw b o u (I.base.Jw b o u q),λb p q=>?_],F.IE,c _ F.new,F.he,F.exc,λa z=>#[c _ (F.hT a z).1,(F.hT a z).2]]
 .show F.un.keep b o (I.base.keep b o q n f (nx b)) (I.base.free b o q n (nx b)) (λz=>by rw[j]at z;show(fz.mp z).elim (hl b o q) f) (h b)
 .have(t,d):=I.base.slot b o q n f (nx b);have(r,i):=F.un.slot b _ d (I.base.free b o q n (nx b)) (by rw[j];show et _ f) (h b);show#[r,i]
 .have(g,d):=I.base.there b o q (nx b);show F.un.free b g d (I.base.free b o q n (nx b)) (h b)
 .have(g,d):=I.base.there b o q (nx b);show F.un.there b g d (h b)
 .have(m1,d):=I.base.JD b p q;have(m2,i):=F.un.JD b _ d;show#[m1++m2,by rw[i,ä]]
def aQ.made(I:Inv X pins σ H s)(b:Heap.MadeExcOf s.heap h' e (.ref C) vs):aQ X.prog X.w X.stack H s e C cb .none H {s with heap:=h' }:=by
 have(t,c,_):=b.there;show#[rfl,I.bare,Un.kept b.keeps,I.IE.kept b.keeps,b.new,?_,#[_,_,_,c,rfl,rfl,rfl,rfl],λa z=>nomatch z];cases z:H e with
 |none=>rfl
 |some u=>have(o,q):=(I.IE e u z).there;rw[b.new]at q;cases q
abbrev OP:List fx:=[.type "ValueError",.type "Exception",.type "BaseException",.type "object"]
abbrev WX(p:k9->List fx->Option fx->Option fx->Option fx->Option fx->String->Option fx->Bool)(M:List fx)(S:List (Option fx)):Prop:=∃C a k0 k1 k2 k3 n k5,M=.ref C::a/\S=[k0,k1,k2,k3,a8 (.builtin n),k5]/\p C a k0 k1 k2 k3 n k5=c4
def nf{P:Prop}(h:dV=c4):P:=nomatch h
def Eb(q:excIn.match_1 (λ_ _=>Bool) M S p (λ_ _=>dV)=c4):WX p M S:=by
 cases M with
 |nil=>show nf q
 |cons v a =>
  cases v with
  |ref C =>
   cases S with
   |nil=>show nf q
   |cons k0 S =>
   cases S with
   |nil=>show nf q
   |cons k1 S =>
   cases S with
   |nil=>show nf q
   |cons k2 S =>
   cases S with
   |nil=>show nf q
   |cons k3 S =>
   cases S with
   |nil=>show nf q
   |cons b S =>
   cases b with
   |none=>show nf q
   |some v =>
   cases v with
   |builtin n =>
    cases S with
    |nil=>show nf q
    |cons k5 S =>
    cases S with
    |nil=>show#[C,a,k0,k1,k2,k3,n,k5,rfl,rfl,q]
    |cons _ _=>show nf q
   |_=>show nf q
  |_=>show nf q
abbrev WY(p:Option k9->ClassData->Array (Option fx)->Bool)(o:Option Obj):Prop:=∃d a b,o=a8 #[.type "type",d,.cls a,b]/\p d a b=c4
def Ec(q:excIn.match_6 (λ_=>Bool) o p (λ_=>dV)=c4):WY p o:=by
 split at q
 .show#[_,_,_,rfl,q]
 .show nf q
def Ed{K:Ĵ}{P:Prop}(b:K.In h)(q:excIn K C OP a=c4)(k:∀c N nm d bs hdct sn sub ab col dd k0 k1 k2 k3 k5 f,h.get? C=a8 (excClassObj nm d C N bs c hdct sn sub ab col dd k0 k1 k2 k3 k5 a)->h.Ns N f->f "__init__"=cb->OwnTail h OP c->P):P:=by
 have(dd,p,r,ho,g):=Ec q;have(v,c,k0,k1,k2,k3,n,k5,i,hs,j):=Eb g;clear q g;have(nm,bs,mro,ns,d,s,sn,sub,ab,col,t):=p;have⟨l⟩:=r;simp only[df,beq_iff_eq,wk]at j;obtain⟨⟨⟨⟨⟨rfl,rfl⟩,m⟩,u⟩,e⟩,o⟩:=j
 dsimp only at i m e o
 subst i m;obtain rfl:l=_:=hs;show k c ns nm d bs s sn sub ab col dd k0 k1 k2 k3 k5 _ (b _ _ ho) (.of_isNs (isNs_of_in b e)) (nsMap_none_of_in b e o) (tail_of_in b u)
def yr(g:X.calm=c4)(i:Gl X x)(d:X.mg x=a8 (.ref C))(j:(x==("__debug__":Str))=dV)(k:excIn X.K C OP "ValueError.__new__"=c4)(l:PE X a m)
  (f:pa [a] X.env=[(dV,MM a X.env)]) :
  PS X (.Raise (a8 (.Call (.Name x p) [a] [] z)) cb pos) (λD σ H=>m σ H λv c=>∀pins s e s',Inv X pins σ c s->aQ X.prog X.w X.stack c s e C cb .none c s'->X.xe (.ref e) s'):=by
 intro pins s σ H D I h;show Ed I.mod.LM k λA N nm n bs hdct sn sub ab col dd k0 k1 k2 k3 k5 B o r t T=>?_;show wpAny_Raise_call_subT (nm:=nm) (q:=n) (N:=N) (bs:=bs) (hdct:=hdct) (sn:=sn) (sub:=sub) (ab:=ab) (col:=col) (dd:=dd) (k0:=k0) (k1:=k1) (k2:=k2) (k3:=k3) (k5:=k5) û (T.hasType û.hasBase) (I.ok.hd g) (by rw[f];rfl) t (cq I i d #[rfl,?_] j);rw[f];show RI (NP (IF (l pins s σ H _ I h) λu s1 ⟨v,c,b,G,y⟩=>PB #[rfl,?_,b.bk _ _ o,r.keeps b.bk,T.keeps b.bk,λh' e d=>y pins s1 e _ b (.made b d)]));show(by decide:1<=eh)
def Gv:Passes (Li X.prog X.w) X E0:=λ_ _ _ _ _ _ _ ⟨_,_,_,_,_,_,h⟩=>h.elim
def dS(F:gQ X.prog X.w X.K X.mg X.base CX k f d b sp)(g:dI k X.A)(i:Binds X.K d b [])(I:Inv X pins σ H s)(r:Vals vs us)(h:sp vs H Q E)
  (j:∀e s',CX X.stack H s E e s'->EE e s'):js (mn X.prog X.w) X.A (R3 (.ref f) us) (EP X pins σ Q) EE s:=by
 have hl:us.length=b.length:=by rw[<-r.length];show F.len _ _ _ _ h
 have c:=i s us I.Kx (by rw[D1];show hl);rw[D1]at c;show Y9 (Ro (F.run X.A X.stack s H #[us,[]] us vs Q E g I.DS c r h) λr s' a=>?_);cases r with
 |error e=>show j e s' a
 |ok l =>
  cases l with
  |ret u=>show I.after a
  |_=>show Po a
end
def Ee(a:s.heap.get? e=a8 oe)(b:oe.cls=.ref C)(h:Q (.bool c4) s):
  js (mn prog w) A (R3 (.builtin "isinstance") [.ref e,.ref C]) Q E s:=by
 show SQ (S:=λ_ R s=>s.heap.get? e=a8 oe/\R (.ok (.ret (.bool c4))) s) (λprog w A R s hs=>isinstance_outer ?_ λz=>nomatch z) ⟨a,h⟩;have(c,g,d,i,os):=s;have(a,f):=hs;have LT:è (mn prog w) c (Zy (.ref e)) (.ref C):=by
  show(À a).andThen ?_;rw[b];show .now
 unfold SU.«isinstance.nested»;show cc (LT.at ?_);rw[ŵ (by simp)]
 repeat (any_goals (first|show f|assumption|wp_step))
@[reducible]noncomputable def Cx.Kw(X:Cx)(e:k9)(oe:Obj)(E:fx->i4->Prop):Cx:={X with A:=X.A.mark (a8 (.ref e)),calm:=dV,pn:=(e,oe)::X.pn,xe:=E}
section
def Inv.Kw(I:Inv X pins σ H s)(a:s.heap.get? e=a8 oe)(b:H e=cb)(c:e≠X.env.locals)(d:e∉X.fs)(f:∀v,oe.data≠.cell v):Inv (X.Kw e oe E) pins σ H s :=
 #[#[I.ok.mod,I.ok.kind,I.ok.glob,I.ok.blt,I.ok.above,I.ok.inj,I.ok.has,I.ok.Nt,λz=>(nomatch z),I.ok.frames,I.ok.Oy,I.ok.QC,I.ok.bs,I.ok.LN,I.ok.KZ,I.ok.Ln,I.ok.ib,I.ok.Mp],I.os,I.bare,I.base,I.loc,I.cell,I.free,I.IY,
  λp g=>(fz.mp (show p∈(e,oe)::(X.pn++pins) from g)).elim (λz=>by subst z;show#[a,b,c,d,f]) λz=>I.pin p z,I.IE,I.len]
def Inv.Gw(ok:X.Ok)(I:Inv (X.Kw e oe E) pins σ H s):Inv X pins σ H s :=
 #[ok,I.os,I.bare,I.base,I.loc,I.cell,I.free,I.IY,λp a=>I.pin p (et _ a),I.IE,I.len]
def Inv.gone(I:Inv X pins σ H s)(C:X.N.Nodup)(t:X.N[j]?=a8 n)(hl:X.env.scope.names.lookup n=a8 .local)
  (h:∀s',Inv X pins (σ.set j cb) H s'->Q () s'):js M A (do bindName X.env n .none;unbindBehindTheSuite X.env n pos) Q E s:=by
 have(m,D,G):=id I.loc;have J:(X.env.scope.kind==.class||(X.env.scope.kind==.module&&X.env.locals != X.env.globals))=dV:=by rw[I.ok.kind];rfl
 show wpAny_nameGoes_keeps hl D J λh' v L hs=>h _ ?_;have w:=I.LO;have O:j < σ.length:=by rw[I.len];show(mr.mp t).1
 have ne:∀b o,X.s₀.heap.get? b=a8 o->b≠X.env.locals:=λb o q=>sg (qw (nc q) I.ok.above);show#[I.ok,I.os,I.bare,#[λb o e n k f=>(hs.2 b (ne b o e)).trans (I.base.keep b o e n k f),λb o e n k f=>?_,I.base.free,λb o e f=>?_,I.base.JC,I.base.Jw,I.base.JD],#[_,L,λi y u x g T=>?_],λy c e=>?_,I.free,I.IY,λp Y=>?_,λb ob e=>(I.IE b ob e).mV (λc w' hc q=>(hs.2 c ?_).trans q) (λ_ q=>q) λ_ _ q=>q,by simpa using I.len]
 .have(sl,q):=I.base.slot b o e n k f;show#[sl,(hs.2 b (ne b o e)).trans q]
 .have(o',q):=I.base.there b o e f;show#[o',(hs.2 b (ne b o e)).trans q]
 .have B:i≠j:=λz=>by subst z;rw[rr O]at g;cases g
  rw[ro (Mk B)]at g;have(u',r,l):=G i y u x g T;show#[u',r,l.imp (λ⟨a,b⟩=>#[a,?_]) λ⟨a,c,b,d⟩=>#[a,c,b,d.sameBut hs (w y c b)]];change(if y=n then v else m y)=a8 u';rw[Ÿ λ(z:y=n)=>B (iJ C x (by rw[z];show t))];show b
 .have(u,z):=I.cell y c e;show#[u,z.sameBut hs (w y c e)]
 .have(a,b,c,d):=I.pin p Y;show#[(hs.2 p.1 c).trans a,b,c,d]
 .rintro rfl;rcases hc with hc|hc
  .rw[<-hc,I.free]at e;cases e
  .rw[I.free]at hc;cases hc
end
section
variable{prog:z8}{w:JM}{A:Od}{E:fx->i4->Prop}{h:Nq}{g:Array Ä}{d:Drawn}{t:Nat}{os:OsState}{a C:k9}{o:Obj}{K:Ĵ}
def qP(e:K.In h)(hs:Ů K (.ref C) (.type "object")=a8 c4)(b:h.get? a=a8 o)(c:o.cls=.ref C)(j:R (.ok (.ret (.ref C))) #[h,g,d,t,os]):
  SO (mn prog w) A (.call (.builtin "getset_descriptor.__get__") #[[.builtin "object.__class__",.ref a,.ref C],[]]) R #[h,g,d,t,os]:=by
 have f:(⟨h,g,d,t,os⟩:i4).TypeIs (.builtin "object.__class__") "getset_descriptor":=X_;have i:è (mn prog w) h (UC (.ref C) (.type (".".intercalate ("object.__class__".cutAt '.').dropLast))) c4:=by rw[F.owner_object_class];show looks_subIn e hs
 show U3 Å.plain F.entry_gs_get (Å.check _ _ _ _ _ _ _ _ f (F.args_gs_get _ _ _) ?_)
 repeat (any_goals (first|assumption|(with_reducible show TU b ?_;rw[c])|with_reducible show i.at ?_|wp_step))
 show#[Vs _ (by decide +kernel),L8 F.entry_object_class ?_]
 repeat (any_goals (first|assumption|(with_reducible show TU b ?_;rw[c])|wp_step))
def nh(b:K.In h)(hs:Ů K (.ref C) (.type "object")=a8 c4)(f:ů K (.ref C) "__class__"=a8 (a8 (.builtin "object.__class__")))(c:h.get? a=a8 o)(e:o.cls=.ref C)(j:Q (.done (.ret (.ref C))) #[h,g,d,t,os]):
  js (mn prog w) A (SU.«object.__getattribute__» ⟨[.ref a,.str "__class__" k],[]⟩) Q E #[h,g,d,t,os]:=by
 have l:(⟨h,g,d,t,os⟩:i4).TypeIs (.builtin "object.__class__") "getset_descriptor":=X_;have i:è (mn prog w) h (Y_ (.ref C) "__class__") (a8 (.builtin "object.__class__")):=õ b f;have m:=X_;have n:=Å.lookup;have p:=F.slot_gs_set.lookup
 repeat (any_goals (first|assumption|(with_reducible show TU c ?_;rw[e])|with_reducible show i.at ?_|wp_step))
 show qP b hs c e ?_
 repeat (any_goals (first|assumption|wp_step))
def sA(b:K.In h)(hs:Ů K (.ref C) (.type "BaseException")=a8 c4)(c:h.get? a=a8 o)(e:o.cls=.ref C)(f:Q () #[h,g,d,t,os]):js M A (ZD "BaseException.__getattribute__" ⟨[.ref a,i],[]⟩) Q E #[h,g,d,t,os]:=by
 have hk:builtinKind "BaseException.__getattribute__"=a8 .slot:=by decide +kernel
 have j:splitId "BaseException.__getattribute__"=a8 ("BaseException","__getattribute__"):=by decide +kernel
 have k:è M h (UC (.ref C) (.type "BaseException")) c4:=looks_subIn b hs;have l:=F.args_bexc_ga (.ref a) i;simp only[ZD,hk,j];show cc ?_
 .unfold Z9
  repeat (first|(with_reducible show TU c ?_;rw[e])|with_reducible show k.at ?_|wp_step)
  show f
abbrev fD(K:Ĵ)(C:k9):Bool:=Ů K (.ref C) (.type "object")==a8 c4&&Ů K (.ref C) (.type "BaseException")==a8 c4&&ů K (.ref C) "__class__"==a8 (a8 (.builtin "object.__class__"))&&ů K (.ref C) "__getattribute__"==a8 (a8 (.builtin "BaseException.__getattribute__"))&&ů K (.ref C) "__getattr__"==a8 cb&&(clsIn K C).isSome
def sC(b:K.In h)(ok:fD K C=c4)(c:h.get? a=a8 o)(e:o.cls=.ref C)(j:Q (.ref C) #[h,g,d,t,os]):js (mn prog w) A (getAttrBy (.ref a) (.str "__class__" k) dV) Q E #[h,g,d,t,os]:=by
 simp only[fD,df,beq_iff_eq]at ok;obtain⟨⟨⟨⟨⟨o1,o2⟩,o3⟩,o4⟩,o5⟩,_⟩:=ok;have l:=Ĩ.ga.bind (.ref a);have m:(dV&&onTheHeap (TQ "BaseException.__getattribute__"))=dV:=rfl;have f:(TQ "BaseException.__getattribute__"==TQ "object.__getattribute__")=dV:=by decide +kernel
 have n:(onTheHeap (vu C)&&TQ "BaseException.__getattribute__"==TQ "object.__getattribute__")=dV:=by rw[f];rfl
 have i:è (mn prog w) h (Y_ (.ref C) "__getattribute__") (a8 (.builtin "BaseException.__getattribute__")):=õ b o4;have L2:è (mn prog w) h (Y_ (.ref C) "__getattr__") cb:=õ b o5
 repeat (any_goals (first|assumption|(with_reducible show TU c ?_;rw[e])|with_reducible show i.at ?_|with_reducible show L2.at ?_|wp_step))
 show U3 Ĩ.ga.plain F.entry_bexc_ga (sA b o2 c e (nh b o1 o3 c e ?_))
 repeat (any_goals (first|assumption|wp_step))
def pe(b:K.In h)(ok:fD K C=c4)(c:h.get? a=a8 o)(e:o.cls=.ref C)(f:Q (a8 (.ref C)) #[h,g,d,t+1,os]):js (mn prog w) A (getAttr? (.ref a) "__class__") Q E #[h,g,d,t,os]:=by
 unfold getAttr? getAttrBy?
 repeat (any_goals (first|assumption|with_reducible apply sC b ok c e|wp_step))
end
def yu{K:Ĵ}(ok:fD K C=c4):KitX K (.ref a) (.ref C) (λh=>∃o,h.get? a=a8 o/\o.cls=.ref C) where
 ty:=λM h _ i=>by
  have(o,c,f):=i;show(À c).andThen ?_;rw[f];show .now
 it:=λM h b _ A Q E s k q=>by
  simp only[fD,df]at ok;have z:=ok.2;unfold clsIn at z;split at z
  .rename_i ho;unfold isType loadHead;show cc (wpAny_loadPart (k _ _ (b _ _ ho)) (d6 q))
  .cases z
 ne:=λh j dd l n m b e=>by
  simp only[fD,df]at ok;have z:=ok.2;unfold clsIn at z;split at z
  .rename_i ho;rw[Ž];intro q;cases q;have:=b _ _ ho;rw[e]at this;cases this
  .cases z
 ca:=λ{_ _ _ _ _ s} b ⟨o,c,f⟩ q=>by
  have(h,g,d,t,os):=s;show pe b ok c f q
def Inv.Gy(I:Inv X pins σ H s)(d:s.heap.get? e=a8 oe)(g:H e=cb)(h:X.s₀.heap.get? e=cb)(i:e≠X.env.locals)(j:∀x c,X.env.cells.lookup x=a8 c->c≠e)(k:∀p∈X.pn++pins,p.1≠e):
  Inv X pins σ (upd H e (.J9 oe (.ext λ_=>True))) s:=by
 have ne:∀b o,H b=a8 o->b≠e:=λb o q=>bc q g;show#[I.ok,I.os,I.bare,#[I.base.keep,I.base.slot,λb o q n l=>?_,I.base.there,λb xs q=>?_,λb o u q=>?_,λb r q=>?_],I.loc,I.cell,?_,λx c q=>?_,λp f=>?_,λb u q=>?_,I.len]
 .rw[aC (λz=>by rw[z,h]at q;cases q)];show I.base.free b o q n l
 .have:=I.base.JC b xs q;rw[aC (ne b _ this)];show this
 .have:=I.base.Jw b o u q;rw[aC (ne b _ this)];show this
 .have(m,q):=I.base.JD b r q;show#[m,by rw[aC (ne b _ q)];show q]
 .rw[aC (Mk i)];show I.free
 .rw[aC (j x c q)];show I.IY x c q
 .have(a,b,c):=I.pin p f;show#[a,by rw[aC (k p f)];show b,c]
 .by_cases z:b=e
  .subst z;rw[aO]at q;cases q;show#[d,trivial,#[oe,d],λ_ _ _ _=>trivial]
  .rw[aC z]at q;show(I.IE b u q).mV (λ_ _ _ q=>q) (λc q=>by rw[aC (ne c _ q)];show q) λc xs q=>by rw[aC (ne c _ q)];show q
section
variable{P:z8}{w:JM}{stack outer:List Env}{H H':Hp}{s s':i4}{e C L:k9}{T:k9}{fl:fx}{base:Nq}{env:Env}{M:Model}{A:Od}{E:fx->i4->Prop}{Q:Unit->i4->Prop}
def aQ.chg(F:aQ P w stack H s e C T fl H' s')(d:∀b,b≠D->h'.get? b=s'.heap.get? b)(h:s.heap.get? D=cb)(g:H' D=cb)(x:∃a0,Gu h' e C a0 T i):
  aQ P w stack H s e C T i H' {s' with heap:=h' }:=by
 have ne:∀{b:k9} {o:Obj},s.heap.get? b=a8 o->b≠D:=λq z=>by rw[z,h]at q;cases q
 show#[F.os,F.bare,#[λb o q n hb c=>(d b (ne q)).trans (F.un.keep b o q n hb c),λb o q n hb c=>?_,F.un.free,λb o q c=>?_,F.un.JC,F.un.Jw,F.un.JD],λa u q=>(F.IE a u q).mV (λb o hb j=>(d b λz=>?_).trans j) (λ_ z=>z) λ_ _ z=>z,F.new,F.he,x,F.hT]
 .have(k,f):=F.un.slot b o q n hb c;show#[k,(d b (ne q)).trans f]
 .have(l,f):=F.un.there b o q c;show#[l,(d b (ne q)).trans f]
 .rcases hb with rfl|hb
  .rw[z,g]at q;cases q
  .rw[z,g]at hb;cases hb
def aQ.Ef(F:aQ P w stack H s e C (a8 T) (KX L) H' s')(c:env.frame=a8 L)(d:s.heap.FunFrames base stack)(f:∀b∈Ji stack,H b=cb)
  (h:∀g a,aQ P w stack H s e C (a8 g) .none H' a->Q () a):js M A (Ł env (.ref e)) Q E s':=by
 have(a0,oe,vs,i,j,k,l,m,n,o,ts,p,q,r):=F.exc;unfold Ł;show cc (wpAny_noteFrame_againW (base:=s.heap) (cls:=.ref C) (a0:=a0) c #[oe,vs,T,o,ts,i,#[j,l],k,n,(F.hT T rfl).1,m,p,q,r] (F.land d f h))
def yw(h:env.frame=a.frame):YO x env=YO x a:=by
 unfold YO PySem.frameOf;rw[h]
def aQ.pass{Q:fx->i4->Prop}(F:aQ P w stack H s e C (a8 T) (KX L) H' s')(l:env.frame=a8 L)(h:∀g,aQ P w stack H s e C (a8 T) (KX L) H' g->E (.ref e) g):js M A (PySem.passOn q (.ref e) env:Sem fx) Q E s':=by
 have(a0,oe,vs,a,m,c,n,i,d,r,ts,j,f,o):=F.exc;have k:3<ts.size:=(tf.mp o).1;unfold PySem.passOn;show cc (Tx a c d ?_);rw[Ÿ (show ¬((vu T==IV)=c4) from by simp)];unfold setFlight;show cc (cc (Tx a c d ?_));rw[ŵ (show(vu T != IV)=c4 from by simp),l];show Sh j f k (wpAny_throw (h _ (F.chg (D:=T) (λb p=>Pd _ _ (Mk p)) (F.hT T rfl).1 (F.hT T rfl).2 ?_)));show#[a0,oe,vs,(Pd _ _ i).trans a,m,c,n,i,d,_,_,Ki _ j (XJ (Qy f _)),Qy f _,by simp[k]]
end
def Bk(I:Inv X pins σ H s)
  (a:Inv (Jr X N scope C s H ex) j k d s4) (c:∀b∈ex,jA X pins H b):Inv X pins σ d s4 :=
 I.ua (ch:=ex) a.os a.base a.IE a.bare λb e=>by
  have(l,f,m,g,h,i):=c b e;show#[g,f,h,i]
def relabel_id(h:∀x∈scope.names,x.2≠.free):VF scope env=scope:=by
 unfold VF;rw[map_eq_self (l:=scope.names) λx a=>by
  have(n,k):=x;have:(k==Nb)=dV:=by simpa using h _ a
  simp[this]]
theorem nM:∀{names:List (Str×O5)}{a:List (Str×k9)},(∀x∈names,x.2≠.free)->bp env names a=a
 |[],_,_=>rfl
 |(n,k)::r,a,h=>by
  have hk:(k==Nb)=dV:=by simpa using h (n,k) hY
  unfold bp;rw[hk,Ÿ my];show nM λx b=>h x (et _ b)
section
def yx(G:∀x∈scope.names,x.2≠.free)
  (S:cA X N L scope) (hc:X.calm=c4) (i:X.stack=X.env::X.outer/\X.env.frame=a8 X.env.locals) (hx:X.ex=[]) (hg:∀C s H ex,PG (Jr X N scope C s H ex) O g) (hi:PI X.JO O f wi) (I:Inv X pins σ H s) (h:wi σ H λJ H1=>nF L.length J g D2 te Q σ H1)
  (he:∀C s H ex pins t l u y,Inv (Jr X N scope C s H ex) pins l u t->te l u y->js (mn X.prog X.w) X.A (MM elt (RH scope (Ke X scope C) C X.env)) (EP (Jr X N scope C s H ex) pins l y)
   (λv s'=>∃ea Cc T H' n σ4 s4,v=.ref ea/\Inv (Jr X N scope C s H ex) pins σ4 n s4/\aQ X.prog X.w X.stack n s4 ea Cc (a8 T) .none H' s' /\
    ∀T' B,aQ X.prog X.w X.outer X.H₀ X.s₀ ea Cc (a8 T') (KX X.env.locals) H' B->E (.ref ea) B) t)
  (hs:∀x,NC f X.env x=pure x):js (mn X.prog X.w) X.A (MM (.ListComp elt [⟨O,f,[],0⟩] scope pos) X.env) (EP X pins σ Q) E s:=by
 show wpAny_ListComp G S.kind S.names ?_ hs;show tj (hi pins s σ H _ (I.gP _) h) (λv s1 h1=>tj h1 (λO9 s2 h2=>?_) λ_ _ z=>z.elim) λ_ _ z=>z.elim;have(it,fp,tn,J,H2,e,j,T,st2,Y,W):=h2;have j:=j.dy;subst e;show zy (lb ?_)
 dsimp only
 generalize NG:s2.heap.push {cls:=.type "list",dict:=cb,data:=.seq ([]:List fx).toArray}=d;have hC:d.objs.size=s2.heap.objs.size+1:=by rw[<-NG,SS]
 have kp:∀b o,d.get? b=a8 o->(Qx (d.push {cls:=.type "dict",data:=.dict #v[]}) scope.names).get? b=a8 o:=λb o e=>VB _ _ b o (ek _ e);have ab:∀b o,s2.heap.get? b=a8 o->(Qx (d.push {cls:=.type "dict",data:=.dict #v[]}) scope.names).get? b=a8 o:=λb o e=>kp b o (NG▸ek _ e);have Lq:(Qx (d.push {cls:=.type "dict",data:=.dict #v[]}) scope.names).PlainList s2.heap.objs.size #v[]:=#[_,kp _ _ (NG▸l' _ rfl)]
 have K1:∀x c,(Ke X scope d.objs.size).lookup x=a8 c->(Qx (d.push {cls:=.type "dict",data:=.dict #v[]}) scope.names).IsCell c cb\/(bp X.env scope.names []).lookup x=a8 c:=λx c e=>by
  show kI scope.names (d.push {cls:=.type "dict",data:=.dict #v[]}) _ ?_;rw[SS];show e
 have ee:({newEnv scope d.objs.size X.env.globals (OJ (d.objs.size+1) scope.names []) X.env.qual cb .none (a8 X.env) VR with scope:=scope}:Env)=RH scope (Ke X scope d.objs.size) d.objs.size X.env:=by
  unfold RH Ke;rw[relabel_id G,nM G];rfl
 show Eq.mpr (Ż (λv:Env=>SO (mn X.prog X.w) X.A (Code.compStart (.ListComp elt [⟨O,f,[],0⟩] scope pos) 0 (.ref it) (.ref s2.heap.objs.size) v) _ _) ee) ?_;show qp (s:=s2) (s4:={s2 with heap:=Qx (d.push {cls:=.type "dict",data:=.dict #v[]}) scope.names}) (C:=d.objs.size) (D:=s2.heap.objs.size) S hc hg (λ_ _ _ _=>oM) (λJ0 t l u y I7 q=>tj (he _ _ _ _ J0 t l u y I7 q) (λ_ _ z=>z) λv s' z=>?_) j T st2 Y W rfl hC K1 rfl rfl ab ⟨_,(ħ d (.type "dict")).keeps (VB _ _)⟩ Lq
  λs5 H5 ys A' I5 n5 NH NI NJ q5=>?_
 .have(ea,Cc,Tb,H',n,σ4,s4,rfl,p,F,ac):=z;have hA:X.A.frames=a8 (X.env::X.outer):=by rw[<-i.1];show I.ok.frames
  have J':s4.heap.FunFrames X.base (X.env::X.outer):=by rw[<-i.1];show p.stack
  have QP:∀b∈Ji (X.env::X.outer),n b=cb:=by rw[<-i.1];show p.gr
  have Yb:(RH scope (Ke X scope d.objs.size) d.objs.size X.env).locals=d.objs.size:=rfl;change js _ _ (YO (.ref ea) (RH scope (Ke X scope d.objs.size) d.objs.size X.env)) _ _ _;rw[yw (show(RH scope (Ke X scope d.objs.size) d.objs.size X.env).frame=X.env.frame from rfl)];rw[i.1]at F;show F.note hA i.2 J' QP λT2 B k=>?_;have(m,(o,es,ep,ho,hd),_):=p.loc;have nC:n d.objs.size=cb:=p.free;have W0:(d.objs.size:k9)∉Ji (X.env::X.outer):=λz=>by
   rw[<-i.1]at z;rcases fz.mp (j.jz _ z) with q|q
   .have:=j.lt;rw[<-q]at this;show absurd this (by change ¬@Qn Nat _ d.objs.size s2.heap.objs.size;lia)
   .show j.Dy (a:=d.objs.size) (by change @É Nat _ s2.heap.objs.size d.objs.size;lia) q
  have hk:B.heap.get? d.objs.size=a8 o:=k.un.keep _ o ho nC W0 λz=>nomatch z
  show#[m,#[o,es,ep,hk,hd],λh' r=>?_];have F3:=aQ.down (Bk j p Y) hx i.1 i.2 (by rw[i.1];show k);have Nu:∀{b:k9},s4.heap.get? b=cb->b≠d.objs.size:=λq z=>by rw[z]at q;rw[show s4.heap.get? d.objs.size=a8 o from ho]at q;cases q
  have(a0,oe,vs,b1,b2,b3,b4,b5,b6,oT,ts,b7,b8,b9):=k.exc;have F4:=F3.chg (D:=d.objs.size) (h':=h') r.2 (by
   cases q:X.s₀.heap.get? d.objs.size with
   |none=>rfl
   |some o'=>show absurd (qw (nc q) j.sz) (by change ¬@Qn Nat _ d.objs.size s2.heap.objs.size;lia)) (k.un.free _ o ho nC λz=>nomatch z) ⟨a0,oe,vs,(r.2 _ (Nu k.new)).trans b1,b2,b3,b4,b5,b6,oT,ts,(r.2 _ (Nu (k.hT T2 rfl).1)).trans b7,b8,b9⟩
  show F4.pass i.2 λs6 F5=>ac T2 s6 F5
 .have(m5,Pn,_):=I5.loc;show#[m5,Pn,λh' r=>#[.ref s2.heap.objs.size,_,la j I5 (ke _) (by change @É Nat _ s2.heap.objs.size d.objs.size;lia) (sg (by change @Qn Nat _ s2.heap.objs.size d.objs.size;lia)) n5 NH NI NJ r Y,rfl,q5 _ n5]]
end
end L2
namespace L2
open PySem PySem.Spec PyProof.Rows
structure kl(k:Nat)(A:Od):Prop where
 dp:A.depth+2 * k+2<Z7
 un:A.units+16 * k+100<K'
 gd:A.guards=a8 []
def dI.toN(r:dI k A)(x:fx):kl 1 (A.mark (a8 x)):=#[by have:=r.dp;change A.depth+2 * 1+2 < _;lia,by have:=r.un;change A.units+16 * 1+100 < _;lia,r.gd]
def kl.deeper(r:kl (k+1) A)(env:Env):kl k (A.deeper env) :=
 #[by have:=r.dp;change A.depth+1+2 * k+2 < _;lia,by have:=r.un;change A.units+3+16 * k+100 < _;lia,r.gd]
structure qQ(P:z8)(w:JM)(K:PySem.W.Frag)(mg:Str->Option fx)(base:Nq)(CX:MC)(k:Nat)(f:k9)(fd:T7)(ps:List Str)(sp:Sp):Prop where
 len:∀vs H Q E,sp vs H Q E->vs.length=ps.length
 run:∀(A:Od) (outer:List Env) (s:i4) (H:Hp) (args:Args) (us:List fx) (vs:List V) (Q:VK) (E:XK),kl k A->vY P w K mg base A outer s H->Z1 s fd args (ps.zip us)->Vals vs us->sp vs H Q E ->
  SO (mn P w) A (.call (.ref f) args) (CR CX outer P w H s Q E) s
@[reducible]noncomputable def OR(CX:MC)(P:z8)(w:JM)(K:PySem.W.Frag)(mg:Str->Option fx)(base:Nq)(N:List Str)(a:Str)(scope:OK)(f:k9)(b:fx)(A:Od)(outer:List Env)(s:i4)(H:Hp)(E:XK):Cx :=
 {oz CX P w K mg base N a scope f b A outer s H E with calm:=dV}
def sD{K:PySem.W.Frag}
  (S:dk N l scope) (j:vY P w K mg base A outer s H) (hl:vs.length=l.length) (r:Vals vs us)
  (x:InCallC s s.heap.objs.size (Z_ (VC g scope s.heap.objs.size f B).kindOf (l.zip us) λ_=>cb) (OJ (s.heap.objs.size+1) scope.names []) (Z' (VC g scope s.heap.objs.size f B).kindOf (l.zip us) λ_=>cb) s1) :
  Inv (OR CX P w K mg base N g scope f B A outer s H E) [] (start N vs) H s1:=by
 have L:l.length<=N.length:=by have:=Ż OC S.pre;rw[ve]at this;lia
 have(o,O,rfl,hk):=x.done;have C:∀b:k9,b∉(OR CX P w K mg base N g scope f B A outer s H E).ex:=λb z=>absurd (show b∈([]:List k9) from z) (by simp);show#[#[j.mod,S.kind,rfl,rfl,ke _,λy z c o d=>?_,λy hy=>?_,λy c _ h=>?_,λz=>(nomatch z),Z2 j.frames,.inr #[rfl,rfl],λb z=>absurd z (C b),j.bs,j.LN,λb _ _=>C b,λb z=>absurd z (C b),j.ib,j.Mp],
  rfl,j.bare,Un.kept hk,#[_,x.toInCall.ns,λi y v o d Q=>?_],λy c h=>#[_,x.cell y c h],j.IE.fresh (ke _),λy c h=>?_,λp m=>absurd (show p∈([]:List (k9×Obj)) from m) (by simp),j.IE.kept hk,?_]
 .show name_of_addr x.apart (PySem.mem_of_lookup o) (PySem.mem_of_lookup d)
 .have hy:scope.names.lookup y=a8 .cell\/scope.names.lookup y=a8 .free:=hy;rcases hy with hy|hy
  .show iL hy
  .show absurd rfl (S.LP _ (PySem.mem_of_lookup hy))
 .show Ou (x.above y c (PySem.mem_of_lookup h))
 .have t:i<vs.length:=by
   unfold start at d;by_cases t:i<vs.length
   .show t
   .rw[y0 (by simpa using t)]at d;rw[M0]at d;split at d<;>cases d
  have I:vs[i]?=a8 v:=by
   unfold start at d;rw[C0 (by simpa using t),ti]at d;cases e:vs[i]? with
   |none=>rw[e]at d;cases d
   |some a=>rw[e]at d;cases d;rfl
  have(u,D,J):=r.get I;have m:l[i]?=a8 y:=by
   rw[<-S.pre,VQ ⋯];show o
  have G:l.Nodup:=by rw[<-S.pre];show S.nd.sublist (YR _ _)
  show#[u,J,?_];rcases S.par y (LR m) with k|k
  .show .inl #[k,jD G m D k]
  .have(c,e):=iL (n:=s.heap.objs.size+1) k;show .inr #[.inl k,c,e,?_];have q:=x.cell y c e;rw[jE G m D (by change scope.names.lookup y≠_;rw[k];decide)]at q;show q
 .show j.IE.fresh (Ou (x.above y c (PySem.mem_of_lookup h)))
 .unfold start;change _=N.length;rw[ko,eH,Rm];lia
def Eg{K:PySem.W.Frag}{B kV g C d ct O:fx}
 (lk:K.lookup f=a8 #[O,od,.func (PySem.W.fnOf name a c body scope B kV g C T d ct),M4]) (Y:PySem.W.codeIn K d a=c4) (S:dk N m scope)
    (h:∀vs H Q E,sp vs H Q E->vs.length=m.length)
    (Kz:∀(A:Od) (outer:List Env) (s:i4) (H:Hp) (vs:List V) (Q:VK) (E:XK),kl k (A.deeper (VC a scope s.heap.objs.size f d))->sp vs H Q E ->
      ∃t,JJ (OR CX P w K mg base N a scope f d A outer s H E) body t/\t {nx:=λ_ H'=>Q .ID H',rt:=Q} (start N vs) H) :
    qQ P w K mg base CX (k+1) f (PySem.W.fnOf name a c body scope B kV g C T d ct) m sp:=by
  show#[h,λA outer s H args us vs Q E D i hb r G=>?_];have hl:=h _ _ _ _ G;have L:K.In s.heap:=i.mod.LM.keeps λb o e=>(i.bs b o e).1;have p:s.heap.NoLimit:=i.mod.nolimit.keeps λb o e=>(i.bs b o e).1;have LQ:∀y∈m.zip us,scope.names.lookup y.1=a8 .local\/(scope.names.lookup y.1=a8 .cell/\((OJ (s.heap.objs.size+1) scope.names []).lookup y.1).isSome=c4):=λ⟨n,v⟩ hy=>by
    rcases S.par n (W7 hy).1 with q|q
    . show .inl q
    . show .inr #[q,PySem.W.cellsFrom_some _ _ _ (.inl q)]
  show ć (by have:=D.dp;lia) (L _ _ lk) rfl S.co S.gen rfl (PySem.W.codeRec_of L Y) (hb _ _ _ _ ?_);show Z5 S.kind LQ λenv he s1 x=>?_;subst he;show#[p.keeps x.toInCall.keep,codeAny_func ?_];have(t,ht,hq):=Kz A outer s H vs Q E (D.deeper _) G;have I:Inv (OR CX P w K mg base N a scope f d A outer s H E) [] (start N vs) H s1:=sD S i hl r x;show tj (ht [] s1 (start N vs) H _ I hq) (λfl s' hs=>?_) λe s' hs=>hs;have j:∀{l:St} {H':Hp} {v:V} {u:fx},Inv (OR CX P w K mg base N a scope f d A outer s H E) [] l H' s'->RelV v u->Q v H'->CE outer P w H s Q u s' :=
    λ{l H' v u} J z q=>#[v,H',J.os,J.bare,J.base,J.IE,z,q]
  cases fl with
  | ret u =>
    have(v,l,H',J,z,q):=hs;show j J z q
  | next =>
    have(l,H',J,q):=hs;show j (v:=V.ID) (u:=IV) J rfl q
  | brk =>
    have(_,_,_,q):=hs;show Po q
  | cont =>
    have(_,_,_,q):=hs;show Po q
section
@[reducible]noncomputable def Cx.IZ(X:Cx)(e:k9):Cx:={X with A:=X.A.mark (a8 (.ref e)),calm:=dV,xe:=λ_ _=>False}
def Inv.IZ(I:Inv X pins σ H s):Inv (X.IZ e) pins σ H s :=
 #[#[I.ok.mod,I.ok.kind,I.ok.glob,I.ok.blt,I.ok.above,I.ok.inj,I.ok.has,I.ok.Nt,λz=>(nomatch z),I.ok.frames,I.ok.Oy,I.ok.QC,I.ok.bs,I.ok.LN,I.ok.KZ,I.ok.Ln,I.ok.ib,I.ok.Mp],I.os,I.bare,I.base,I.loc,I.cell,I.free,I.IY,I.pin,I.IE,I.len]
def Inv.Ij(ok:X.Ok)(I:Inv (X.IZ e) pins σ H s):Inv X pins σ H s :=
 #[ok,I.os,I.bare,I.base,I.loc,I.cell,I.free,I.IY,I.pin,I.IE,I.len]
def Bl(F:qQ X.prog X.w X.K X.mg X.base CX k f d b sp)(g:kl k X.A)(i:Binds X.K d b [])(I:Inv X pins σ H s)(r:Vals vs us)(h:sp vs H Q E)
  (j:∀e s',CX X.stack H s E e s'->EE e s'):js (mn X.prog X.w) X.A (R3 (.ref f) us) (EP X pins σ Q) EE s:=by
 have hl:us.length=b.length:=by rw[<-r.length];show F.len _ _ _ _ h
 have c:=i s us I.Kx (by rw[D1];show hl);rw[D1]at c;show Y9 (Ro (F.run X.A X.stack s H #[us,[]] us vs Q E g I.DS c r h) λr s' a=>?_);cases r with
 |error e=>show j e s' a
 |ok l =>
  cases l with
  |ret u=>show I.after a
  |_=>show Po a
end
end L2
namespace TM
open PySem L2
inductive U where
 |ID|bl (b:Bool)|int (i:Int)|str (x:Str)
 |tup (xs:List U)|lst (xs:List U)
 |JV (ks:List Str) (vs:List U)|Jy (ks:List cO)
mutual
noncomputable def Jb:U->Bool
 |.tup xs=>fP xs
 |.lst _=>dV
 |.JV _ _=>dV
 |.Jy _=>dV
 |.ID=>c4|.bl _=>c4|.int _=>c4|.str _=>c4
noncomputable def fP:List U->Bool
 |[]=>c4
 |u::us=>Jb u&&fP us
end
inductive Kd where|own|io|loc|any|bor (j:Nat)|IH
deriving DecidableEq
abbrev Kd.root:Kd->Bool
 |.own=>c4
 |.io=>c4
 |_=>dV
@[reducible]noncomputable def ar:=List (Option (Kd×U))
structure Ct where
 P:z8
 w:JM
 K:PySem.W.Frag
 H₀:Hp
 Lj:k9->Prop
 IO:k9->Prop
 xw:U->Hp->Prop
abbrev KL(K:PySem.W.Frag)(a:k9)(xs:List V):Prop :=
 ∃(o:Obj) (b:Array fx) (n:Nat),K.lookup a=a8 o/\o.cls=.type "list"/\o.dict=cb/\o.data=.seq b n/\b.size<=eh/\Vals xs b.toList
abbrev PZ(K:PySem.W.Frag)(S:k9->Prop)(H:Hp)(a:k9)(vs:List V):Prop:=(S a/\Rd H a (.lst vs))\/KL K a vs
def PZ.sq(h:PZ K S H a vs):Jo K H a vs:=h.elim (λz=>.inl z.2) .inr
abbrev Nd(H:Hp)(R:List V->Prop)(a:k9)(c:List Str):Prop:=∃b:List (Key×V),H a=a8 (.dK b)/\b.map (·.1)=c.map Ot/\R (b.map (·.2))
section
variable(C:Ct)(S:k9->Prop)(H:Hp)
mutual
def Rep:U->V->Prop
 |.ID,v=>v=.ID
 |.bl b,v=>v=.bl b
 |.int i,v=>v=.int i
 |.str x,v=>v=.str x
 |.tup us,v=>∃a vs,v=.ref a/\Jj C.K H a vs/\aq us vs
 |.lst us,v=>∃a vs,v=.ref a/\PZ C.K S H a vs/\aq us vs
 |.JV c us,v=>∃a,v=.ref a/\S a/\Nd H (aq us) a c
 |.Jy c,v=>∃a,v=.ref a/\S a/\fC C.P C.w C.K H a c
def aq:List U->List V->Prop
 |[],vs=>vs=[]
 |u::us,vs=>∃v r,vs=v::r/\Rep u v/\aq us r
end
end
def Tp:HO->Prop
 |.tup _=>True
 |.J9 _ (.tup _)=>True
 |_=>False
structure Mv(S:k9->Prop)(H:Hp)(S':k9->Prop)(H':Hp):Prop where
 sub:∀a,S a->S' a
 QQ:∀a o,H a=a8 o->Tp o->H' a=a8 o
 QR:∀a o,S a->H a=a8 o->H' a=a8 o
def Mv.Sx(m:Mv S H S' H')(h:Jj K H a vs):Jj K H' a vs:=by
 rcases h with(h|⟨o,h⟩)|h
 .show .inl (.inl (m.QQ a _ h trivial))
 .show .inl (.inr #[o,m.QQ a _ h trivial])
 .show .inr h
def Mv.W2(m:Mv S H S' H')(h:PZ K S H a vs):PZ K S' H' a vs:=by
 rcases h with⟨s,h|⟨o,h⟩⟩|h
 .show .inl #[m.sub a s,.inl (m.QR a _ s h)]
 .show .inl #[m.sub a s,.inr #[o,m.QR a _ s h]]
 .show .inr h
def Mv.row(m:Mv S H S' H')(h:eJ K H v r):eJ K H' v r :=
 let ⟨a,b,e,c,d⟩:=h;⟨a,b,e,m.Sx c,m.Sx d⟩
def Nd.mv(b:∀o,H a=a8 o->H' a=a8 o)(c:∀vs,R vs->d vs)(h:Nd H R a e):Nd H' d a e :=
 let ⟨f,g,i,j⟩:=h;⟨f,b _ g,i,c _ j⟩
def Mv.uF(m:Mv S H S' H')(b:∀o,H a=a8 o->H' a=a8 o)(h:fC P w K H a c):fC P w K H' a c :=
 let ⟨xs,d,e,f⟩:=h;⟨xs,b _ d,e,λx g=>m.row (f x g)⟩
section
mutual
theorem Rep.Nf(m:Mv S H S' H'):∀(u:U) (v:V),Rep C S H u v->Rep C S' H' u v
 |.ID,_,h=>h
 |.bl _,_,h=>h
 |.int _,_,h=>h
 |.str _,_,h=>h
 |.tup us,v,h=>by
  have(a,vs,e,b,c):=h;show#[a,vs,e,m.Sx b,aq.Nf m us vs c]
 |.lst us,v,h=>by
  have(a,vs,e,b,c):=h;show#[a,vs,e,m.W2 b,aq.Nf m us vs c]
 |.JV d us,v,h=>by
  have(a,e,b,c):=h;show#[a,e,m.sub a b,c.mv (λo q=>m.QR a o b q) λvs q=>aq.Nf m us vs q]
 |.Jy d,v,h=>by
  have(a,e,b,c):=h;show#[a,e,m.sub a b,m.uF (λo q=>m.QR a o b q) c]
theorem aq.Nf(m:Mv S H S' H'):∀(us:List U) (vs:List V),aq C S H us vs->aq C S' H' us vs
 |[],_,h=>h
 |u::us,vs,h=>by
  have(v,r,e,a,b):=h;show#[v,r,e,Rep.Nf m u v a,aq.Nf m us r b]
end
mutual
theorem Rep.wt:∀(u:U) (v:V),Jb u=c4->Rep C S H u v->Rep C S' H u v
 |.ID,_,_,h=>h
 |.bl _,_,_,h=>h
 |.int _,_,_,h=>h
 |.str _,_,_,h=>h
 |.tup us,v,i,h=>by
  have(a,vs,e,b,c):=h;show#[a,vs,e,b,aq.wt us vs (by simpa[TM.Jb] using i) c]
 |.lst us,v,i,h=>by simp[TM.Jb]at i
 |.JV d us,v,i,h=>by simp[TM.Jb]at i
 |.Jy d,v,i,h=>by simp[TM.Jb]at i
theorem aq.wt:∀(us:List U) (vs:List V),fP us=c4->aq C S H us vs->aq C S' H us vs
 |[],_,_,h=>h
 |u::us,vs,i,h=>by
  have(v,r,e,b,c):=h;have a:TM.Jb u=c4/\fP us=c4:=by simpa[fP] using i
  show#[v,r,e,Rep.wt u v a.1 b,aq.wt us r a.2 c]
end
def Rep.mv(m:Mv S H S' H')(h:Rep C S H u v):Rep C S' H' u v:=Rep.Nf m u v h
def aq.mv(m:Mv S H S' H')(h:aq C S H us vs):aq C S' H' us vs:=aq.Nf m us vs h
def Rep.Jb(i:TM.Jb u=c4)(h:Rep C S H u v):Rep C S' H u v:=Rep.wt u v i h
def aq.Jb(i:fP us=c4)(h:aq C S H us vs):aq C S' H us vs:=aq.wt us vs i h
def Mv.up(sub:∀a,S a->S' a):Mv S H S' H:=#[sub,λ_ _ h _=>h,λ_ _ _ h=>h]
theorem aq.len:∀{us:List U}{vs:List V},aq C S H us vs->us.length=vs.length
 |[],_,h=>by cases h;rfl
 |u::us,vs,h=>by
  have(v,r,rfl,_,a):=h;rw[lg,lg,aq.len a]
theorem aq.get:∀{us:List U}{vs:List V}{i:Nat}{u:U},aq C S H us vs->us[i]?=a8 u->∃v,vs[i]?=a8 v/\Rep C S H u v
 |[],_,_,_,_,e=>by simp at e
 |u::us,vs,0,w,h,e=>by
  have(v,r,rfl,a,_):=h;simp at e;subst e;show#[v,rfl,a]
 |u::us,vs,i+1,w,h,e=>by
  have(v,r,rfl,_,b):=h;have(c,d,h'):=aq.get (i:=i) (u:=w) b (by simpa using e);show#[c,by simpa using d,h']
theorem aq.append:∀{us ws:List U}{vs a:List V},aq C S H us vs->aq C S H ws a->aq C S H (us++ws) (vs++a)
 |[],_,_,_,h,h'=>by cases h;show h'
 |u::us,ws,vs,a,h,h'=>by
  have(v,r,rfl,b,c):=h;show#[v,r++a,rfl,b,c.append h']
theorem aq.take:∀{us:List U}{vs:List V} (n:Nat),aq C S H us vs->aq C S H (us.take n) (vs.take n)
 |_,_,0,_=>by simp[aq]
 |[],_,n+1,h=>by cases h;simp[aq]
 |u::us,vs,n+1,h=>by
  have(v,r,rfl,a,b):=h;show#[v,r.take n,rfl,a,b.take n]
theorem aq.drop:∀{us:List U}{vs:List V} (n:Nat),aq C S H us vs->aq C S H (us.drop n) (vs.drop n)
 |_,_,0,h=>h
 |[],_,n+1,h=>by cases h;simp[aq]
 |u::us,vs,n+1,h=>by
  have(v,r,rfl,b,a):=h;show a.drop n
theorem aq.set:∀{us:List U}{vs:List V} (n:Nat) {u:U}{v:V},aq C S H us vs->Rep C S H u v->aq C S H (us.set n u) (vs.set n v)
 |[],_,n,_,_,h,_=>by cases h;simp[aq]
 |u::us,vs,0,_,_,h,h'=>by
  have(v,r,rfl,b,a):=h;show#[_,r,rfl,h',a]
 |u::us,vs,n+1,_,_,h,h'=>by
  have(v,r,rfl,b,a):=h;show#[v,_,rfl,b,a.set n h']
def aq.snoc(h:aq C S H us vs)(h':Rep C S H u v):aq C S H (us++[u]) (vs++[v]):=h.append #[v,[],rfl,h',rfl]
theorem aq.strs:∀{xs:List Str}{vs:List V},aq C S H (xs.map .str) vs↔vs=xs.map V.str
 |[],vs=>by simp[aq]
 |x::xs,vs=>by
  constructor
  .rintro⟨v,r,rfl,a,b⟩;rw[aq.strs.mp b];have:v=.str x:=a;rw[this];rfl
  .rintro rfl;show#[_,_,rfl,rfl,aq.strs.mpr rfl]
end
structure Ct.Eqv(C C':Ct):Prop where
 P:C.P=C'.P
 w:C.w=C'.w
 K:C.K=C'.K
section
mutual
theorem Rep.Ng(q:C.Eqv d):∀(u:U) (v:V),Rep C S H u v->Rep d S H u v
 |.ID,_,h=>h
 |.bl _,_,h=>h
 |.int _,_,h=>h
 |.str _,_,h=>h
 |.tup us,v,h=>by
  have(a,vs,e,b,c):=h;show#[a,vs,e,q.K▸b,aq.Ng q us vs c]
 |.lst us,v,h=>by
  have(a,vs,e,b,c):=h;show#[a,vs,e,q.K▸b,aq.Ng q us vs c]
 |.JV f us,v,h=>by
  have(a,e,b,c):=h;show#[a,e,b,c.mv (λ_ q=>q) λvs z=>aq.Ng q us vs z]
 |.Jy f,v,h=>by
  have(a,e,b,c):=h;show#[a,e,b,by rw[<-q.P,<-q.w,<-q.K];show c]
theorem aq.Ng(q:C.Eqv a):∀(us:List U) (vs:List V),aq C S H us vs->aq a S H us vs
 |[],_,h=>h
 |u::us,vs,h=>by
  have(v,r,e,b,c):=h;show#[v,r,e,Rep.Ng q u v b,aq.Ng q us r c]
end
def Rep.cg(q:C.Eqv a)(h:Rep C S H u v):Rep a S H u v:=Rep.Ng q u v h
def aq.cg(q:C.Eqv a)(h:aq C S H us vs):aq a S H us vs:=aq.Ng q us vs h
end
def cZ(C:Ct)(S:k9->Prop)(H:Hp)(r:k9):U->Prop
 |.lst us=>∃vs,H r=a8 (.lst vs)/\aq C S H us vs
 |.JV a us=>Nd H (aq C S H us) r a
 |.Jy a=>fC C.P C.w C.K H r a
 |_=>False
def cZ.mv(m:Mv S H S' H')(a:∀o,H r=a8 o->H' r=a8 o)(h:cZ C S H r u):cZ C S' H' r u:=by
 cases u with
 |lst us=>have(vs,b,c):=h;show#[vs,a _ b,c.mv m]
 |JV d us=>show Nd.mv a (λvs q=>q.mv m) h
 |Jy d=>show m.uF a h
 |_=>show h
def cZ.rep(hs:∀a,S a->S' a)(b:S' r)(h:cZ C S H r u):Rep C S' H u (.ref r):=by
 cases u with
 |lst us=>have(vs,c,d):=h;show#[r,vs,rfl,.inl #[b,.inl c],d.mv (.up hs)]
 |JV e us=>show#[r,rfl,b,Nd.mv (λ_ q=>q) (λvs q=>q.mv (.up hs)) h]
 |Jy e=>show#[r,rfl,b,h]
 |_=>show h.elim
def cZ.cg(q:C.Eqv a)(h:cZ C S H r u):cZ a S H r u:=by
 cases u with
 |lst us=>have(vs,b,c):=h;show#[vs,b,c.cg q]
 |JV d us=>show Nd.mv (λ_ q=>q) (λvs z=>z.cg q) h
 |Jy d=>change fC _ _ _ _ _ _;rw[<-q.P,<-q.w,<-q.K];show h
 |_=>show h
def cZ.some(h:cZ C S H r u):∃o,H r=a8 o/\¬Tp o:=by
 cases u with
 |lst us=>have(vs,a,_):=h;show#[_,a,λz=>z]
 |JV b us=>have(c,a,_):=h;show#[_,a,λz=>z]
 |Jy b=>have(xs,a,_):=h;show#[_,a,λz=>z]
 |_=>show h.elim
structure Cf where
 S:k9->Prop
 H:Hp
 σ:St
 st:ar
 kid:Nat->List k9
abbrev Cf.R1(c:Cf)(a:k9):Prop:=∃(j:Nat) (k:Kd) (u:U),k.root=c4/\c.st[j]?=a8 (a8 (k,u))/\c.σ[j]?=a8 (a8 (.ref a))
abbrev Cf.RD(c:Cf)(j:Nat)(a:k9):Prop:=∃(u:U) (r:k9),c.st[j]?=a8 (a8 (.IH,u))/\c.σ[j]?=a8 (a8 (.ref r))/\(a=r\/a∈c.kid j)
abbrev Cf.R(c:Cf)(a:k9):Prop:=c.R1 a\/∃j,c.RD j a
abbrev PS(C:Ct)(S:k9->Prop):k9->Prop:=λa=>C.Lj a\/S a
def fQ(C:Ct)(S:k9->Prop)(H:Hp):Kd->U->V->Prop
 |.own,u,v=>∃r,v=.ref r/\¬S r/\¬C.Lj r/\C.H₀ r=cb/\cZ C S H r u
 |.io,u,v=>∃r,v=.ref r/\¬S r/\¬C.Lj r/\C.IO r/\cZ C S H r u
 |.loc,u,v=>Rep C S H u v
 |.any,u,v=>Rep C (PS C S) H u v
 |.bor _,_,_=>False
 |.IH,_,v=>∃r,v=.ref r
def pf(C:Ct)(S:k9->Prop)(H:Hp):List U->List k9->Prop
 |[],as=>as=[]
 |u::us,as=>∃a b c vs,as=a::b/\u=.lst c/\H a=a8 (.lst vs)/\aq C S H c vs/\pf C S H us b
def fR(C:Ct)(S:k9->Prop)(H:Hp)(r:k9)(as:List k9):U->Prop
 |.JV c us=>∃b:List (Key×V),H r=a8 (.dK b)/\b.map (·.1)=c.map Ot/\b.map (·.2)=as.map V.ref/\(r::as).Nodup/\(∀a∈r::as,¬S a/\¬C.Lj a/\C.H₀ a=cb)/\pf C S H us as
 |_=>False
structure Lv(C:Ct)(c:Cf):Prop where
 kd:∀(j:Nat) (u:U) (r:k9),c.st[j]?=a8 (a8 (.IH,u))->c.σ[j]?=a8 (a8 (.ref r))->fR C c.S c.H r (c.kid j) u
 dj:∀(i j:Nat) (a:k9),c.RD i a->c.RD j a->i=j
 d1:∀(j:Nat) (a:k9),c.RD j a->¬c.R1 a
structure Ok(C:Ct)(c:Cf):Prop where
 same:∀a o,C.H₀ a=a8 o->¬C.IO a->c.H a=a8 o
 K7:∀a,c.S a->C.H₀ a=cb/\∃o,c.H a=a8 o
 par:∀a,C.Lj a->(∃o,C.H₀ a=a8 o)/\¬C.IO a
 io:∀a,C.IO a->(∃o,C.H₀ a=a8 o)/\∃o,c.H a=a8 o
 len:c.st.length=c.σ.length
 sl:∀(i:Nat) (k:Kd) (u:U),c.st[i]?=a8 (a8 (k,u))->∃v,c.σ[i]?=a8 (a8 v)/\fQ C c.S c.H k u v
 inj:∀(i j:Nat) (k k':Kd) (u u':U) (r:k9),k.root=c4->k'.root=c4->c.st[i]?=a8 (a8 (k,u))->c.st[j]?=a8 (a8 (k',u'))->c.σ[i]?=a8 (a8 (.ref r))->c.σ[j]?=a8 (a8 (.ref r))->i=j
 dd:Lv C c
structure Ns(c c':Cf):Prop where
 keep:∀a o,c.H a=a8 o->¬c.R a->c'.H a=a8 o
 there:∀a o,c.H a=a8 o->∃o',c'.H a=a8 o'
 roots:∀a,c'.R a->c.R a\/c.H a=cb
 sub:∀a,c.S a->c'.S a
 new:∀a,c'.S a->c.S a\/c.R a\/c.H a=cb
section
def Ns.refl(c:Cf):Ns c c:=#[λ_ _ h _=>h,λ_ o h=>#[o,h],λ_ h=>.inl h,λ_ h=>h,λ_ h=>.inl h]
def Ns.none(n:Ns c b)(h:b.H a=.none):c.H a=.none:=by
 cases e:c.H a with
 |none=>rfl
 |some o=>have(d,q):=n.there a o e;rw[h]at q;cases q
def Ns.trans(m:Ns c d)(n:Ns d e):Ns c e where
 keep:=λa o h b=>by
  show n.keep a o (m.keep a o h b) λz=>?_;rcases m.roots a z with z|z
  .show b z
  .rw[h]at z;cases z
 there:=λa o h=>let ⟨f,h'⟩:=m.there a o h;n.there a f h'
 roots:=λa h=>by
  rcases n.roots a h with z|z
  .show m.roots a z
  .show .inr (m.none z)
 sub:=λa h=>n.sub a (m.sub a h)
 new:=λa h=>by
  rcases n.new a h with z|z|z
  .show m.new a z
  .rcases m.roots a z with z|z
   .show .inr (.inl z)
   .show .inr (.inr z)
  .show .inr (.inr (m.none z))
def fQ.rt(hk:k.root=c4)(h:fQ C S H k u v):∃r,v=.ref r/\¬S r/\¬C.Lj r/\(C.H₀ r=cb\/C.IO r)/\cZ C S H r u:=by
 cases k with
 |own=>have(r,a,b,c,d,e):=h;show#[r,a,b,c,.inl d,e]
 |io=>have(r,a,b,c,d,e):=h;show#[r,a,b,c,.inr d,e]
 |_=>cases hk
theorem pf.mem:∀{us:List U}{as:List k9}{a:k9},pf C S H us as->a∈as->∃vs,H a=a8 (.lst vs)
 |[],as,a,h,ha=>by cases h;cases ha
 |u::us,as,a,h,ha=>by
  have(d,e,f,vs,rfl,_,b,_,c):=h;rcases fz.mp ha with rfl|ha
  .show#[vs,b]
  .show pf.mem c ha
theorem pf.mv(m:Mv S H S' H'):∀{us:List U}{as:List k9},(∀a∈as,∀o,H a=a8 o->H' a=a8 o)->pf C S H us as->pf C S' H' us as
 |[],as,_,h=>h
 |u::us,as,b,h=>by
  have(a,c,d,vs,rfl,e,f,g,i):=h;show#[a,c,d,vs,rfl,e,b a (by simp) _ f,g.mv m,pf.mv m (λa j=>b a (by simp[j])) i]
def fR.fr(h:fR C S H r as u):∀a∈r::as,¬S a/\¬C.Lj a/\(C.H₀ a=cb\/C.IO a):=by
 cases u<;>first|show h.elim|(have(d,_,_,_,_,b,_):=h;show λa c=>let ⟨p,q,r⟩:=b a c;⟨p,q,.inl r⟩)
def fR.there(h:fR C S H r as u):∀a∈r::as,∃o,H a=a8 o/\¬Tp o:=by
 cases u<;>first|show h.elim|skip
 have(d,b,_,_,_,_,c):=h;intro a ha;rcases fz.mp ha with rfl|ha
 .show#[_,b,λz=>z]
 .have(vs,e):=c.mem ha;show#[_,e,λz=>z]
def fR.mv(m:Mv S H S' H')(c:∀a∈r::as,¬S' a/\∀o,H a=a8 o->H' a=a8 o)(h:fR C S H r as u):fR C S' H' r as u:=by
 cases u<;>first|show h.elim|skip
 have(d,e,f,g,i,j,k):=h;show#[d,(c r (by simp)).2 _ e,f,g,i,λa b=>#[(c a b).1,(j a b).2],k.mv m λa b=>(c a (by simp[b])).2]
def Lv.of(d:Lv C c)(hk:e.kid=c.kid)(p:∀(j:Nat) (u:U),e.st[j]?=a8 (a8 (.IH,u))->c.st[j]?=a8 (a8 (.IH,u))/\e.σ[j]?=c.σ[j]?)(s:∀a,e.R1 a->c.R1 a\/∀j,¬c.RD j a)
  (m:Mv c.S c.H e.S e.H) (t:∀j a,c.RD j a->¬e.S a/\∀o,c.H a=a8 o->e.H a=a8 o):Lv C e:=by
 have b:∀j a,e.RD j a->c.RD j a:=λj a v=>by
  have(u,r,k,f,q):=v;have(g,l):=p j u k;rw[l]at f;rw[hk]at q;show#[u,r,g,f,q]
 show#[λj u r k f=>?_,λi j a h n=>d.dj i j a (b i a h) (b j a n),λj a h n=>?_]
 .have(g,l):=p j u k;rw[l]at f;rw[hk];show fR.mv m (λa w=>t j a #[u,r,g,f,fz.mp w]) (d.kd j u r g f)
 .rcases s a n with z|z
  .show d.d1 j a (b j a h) z
  .show z j (b j a h)
def Lv.hs(d:Lv C c)(m:Mv c.S c.H S' H')(b:∀j a,c.RD j a->¬S' a/\∀o,c.H a=a8 o->H' a=a8 o):Lv C {c with H:=H',S:=S' } :=
 d.of rfl (λ_ _ e=>#[e,rfl]) (λ_ z=>.inl z) m b
def Ok.root(ok:Ok C c)(h:c.R r):¬c.S r/\¬C.Lj r/\(C.H₀ r=cb\/C.IO r)/\∃o,c.H r=a8 o/\¬Tp o:=by
 rcases h with⟨j,k,u,hk,b,d⟩|⟨j,u,f,b,d,a⟩
 .have(v,e,hs):=ok.sl j _ _ b;have(f,ev,a,i,l,m):=hs.rt hk;rw[d]at e;cases e;cases ev;show#[a,i,l,m.some]
 .have g:=ok.dd.kd j u f b d;have(n,p,q):=fR.fr g r (fz.mpr a);show#[n,p,q,fR.there g r (fz.mpr a)]
def Ok.mv(ok:Ok C c)(n:Ns c b):Mv c.S c.H b.S b.H:=#[n.sub,λa o h t=>n.keep a o h λz=>by
  have(_,_,_,e,h',d):=ok.root z;rw[h]at h';cases h';show d t,λa o s h=>n.keep a o h λz=>(ok.root z).1 s]
def Ok.OT(ok:Ok C c)(n:Ns c b):Mv (PS C c.S) c.H (PS C b.S) b.H:=#[λa h=>h.imp id (n.sub a),(ok.mv n).QQ,λa o s h=>n.keep a o h λz=>by
  rcases s with s|s
  .show(ok.root z).2.1 s
  .show(ok.root z).1 s]
def Ok.ph(ok:Ok C c)(h:c.H p=cb):C.H₀ p=cb/\¬c.S p/\¬C.Lj p/\¬C.IO p/\¬c.R p:=by
 have a:¬C.IO p:=λz=>by have(_,o,q):=ok.io p z;rw[h]at q;cases q
 have b:C.H₀ p=cb:=by
  cases e:C.H₀ p with
  |none=>rfl
  |some o=>have:=ok.same p o e a;rw[h]at this;cases this
 show#[b,λz=>?_,λz=>?_,a,λz=>?_]
 .have(_,o,q):=ok.K7 p z;rw[h]at q;cases q
 .have((o,q),_):=ok.par p z;rw[b]at q;cases q
 .have(_,_,_,o,q,_):=ok.root z;rw[h]at q;cases q
def fQ.mv(m:Mv S H S' H')(i:Mv (PS C S) H (PS C S') H')(g:k.root=c4->∀r,v=.ref r->¬S' r/\∀o,H r=a8 o->H' r=a8 o)(h:fQ C S H k u v):fQ C S' H' k u v:=by
 cases k with
 |own =>
  have(r,e,l,a,b,c):=h;have(d,f):=g rfl r e;show#[r,e,d,a,b,c.mv m f]
 |io =>
  have(r,e,l,a,b,c):=h;have(d,f):=g rfl r e;show#[r,e,d,a,b,c.mv m f]
 |loc=>show Rep.mv m h
 |any=>show Rep.mv i h
 |bor j=>show h.elim
 |IH=>show h
structure Nx(c c':Cf):Prop extends Ns c c' where
instance {c a:Cf}:Coe (Nx c a) (Ns c a):=#[Nx.toNs]
def Nx.refl(c:Cf):Nx c c:=#[.refl c]
def Nx.trans(m:Nx c a)(n:Nx a b):Nx c b:=#[m.toNs.trans n.toNs]
def Nx.none(n:Nx c b)(h:b.H a=.none):c.H a=.none:=n.toNs.none h
def Ok.lay(ok:Ok C c)(h:c.H p=cb):Ok C {c with H:=upd c.H p o}/\Nx c {c with H:=upd c.H p o}:=by
 have ne:∀{a:k9} {b:HO},c.H a=a8 b->a≠p:=λe z=>by subst z;rw[h]at e;cases e
 have d:∀a b,c.H a=a8 b->(upd c.H p o) a=a8 b:=λa b e=>by rw[aC (ne e)];show e
 have nx:Nx c {c with H:=upd c.H p o}:=#[#[λa b e _=>d a b e,λa b e=>#[b,d a b e],λa z=>.inl z,λ_ z=>z,λ_ z=>.inl z]]
 show#[#[λa b e z=>d a b (ok.same a b e z),λa z=>#[(ok.K7 a z).1,let ⟨b,q⟩:=(ok.K7 a z).2;⟨b,d a b q⟩],ok.par,λa z=>#[(ok.io a z).1,let ⟨b,q⟩:=(ok.io a z).2;⟨b,d a b q⟩],ok.len,λi k u e=>?_,ok.inj,ok.dd.hs (ok.mv nx.toNs) λj a z=>#[(ok.root (.inr #[j,z])).1,λb e=>d a b e]],nx];have(v,l,f):=ok.sl i k u e;show#[v,l,f.mv (ok.mv nx.toNs) (ok.OT nx.toNs) λhk r m=>?_];have(s,g,n,_):=f.rt hk;rw[m]at g;cases g;show#[n,λb e=>d r b e]
def Ok.grow(ok:Ok C c)(hs:iP c.H H')(g:∀a,S' a->c.S a\/(c.H a=cb/\∃o,H' a=a8 o))(p:∀a,c.S a->S' a):Ok C {c with H:=H',S:=S' }/\Nx c {c with H:=H',S:=S' }:=by
 have nx:Nx c {c with H:=H',S:=S' }:=#[#[λa b e _=>hs a b e,λa b e=>#[b,hs a b e],λa z=>.inl z,p,λa z=>(g a z).imp id λq=>.inr q.1]]
 show#[#[λa b e z=>hs a b (ok.same a b e z),λa z=>?_,ok.par,λa z=>#[(ok.io a z).1,let ⟨b,q⟩:=(ok.io a z).2;⟨b,hs a b q⟩],ok.len,λi k u e=>?_,ok.inj,ok.dd.hs (ok.mv nx.toNs) λj a z=>#[λd=>?_,λb e=>hs a b e]],nx]
 rotate_left 2
 .have(f,_,_,o,h,_):=ok.root (.inr #[j,z]);rcases g a d with d|⟨d,_⟩
  .show f d
  .rw[h]at d;cases d
 .rcases g a z with q|⟨f,l⟩
  .show#[(ok.K7 a q).1,let ⟨b,q⟩:=(ok.K7 a q).2;⟨b,hs a b q⟩]
  .show#[(ok.ph f).1,l]
 .have(v,s,m):=ok.sl i k u e;show#[v,s,m.mv (ok.mv nx.toNs) (ok.OT nx.toNs) λhk r t=>?_];have(w,n,f,l,x,h):=m.rt hk;rw[t]at n;cases n;have(o,ho,_):=h.some;show#[λz=>?_,λb e=>hs r b e];rcases g r z with z|⟨z,_⟩
  .show f z
  .rw[z]at ho;cases ho
def aN(C:Ct)(a c:Cf):Kd->U->V->Prop
 |.own,u,v=>∃r,v=.ref r/\a.H r=cb/\¬c.S r/\¬c.R r/\cZ C c.S c.H r u
 |.loc,u,v=>Rep C c.S c.H u v
 |.any,u,v=>Rep C (PS C c.S) c.H u v
 |.bor j,u,v=>(∃k:Kd,k.root=c4/\c.st[j]?=a8 (a8 (k,u)))/\c.σ[j]?=a8 (a8 v)
 |.io,_,_=>False
 |.IH,_,_=>False
def fS(C:Ct)(a c:Cf):Kd->U->V->Prop
 |.own,u,v=>∃r,v=.ref r/\a.H r=cb/\¬c.S r/\¬c.R r/\cZ C c.S c.H r u
 |.loc,u,v=>Rep C c.S c.H u v
 |.any,u,v=>Rep C (PS C c.S) c.H u v
 |.bor j,u,v=>c.σ[j]?=a8 (a8 v)
 |.io,_,_=>False
 |.IH,_,_=>False
def aN.w(h:aN C a c k u v):fS C a c k u v:=by
 cases k with
 |bor j=>show h.2
 |_=>show h
def fS.UW(ok:Ok C c)(n:Ns c a)(f:∀j,k=.bor j->a.σ[j]?=c.σ[j]?)(h:fS C g c k u v):fS C g a k u v:=by
 cases k with
 |own =>
  have(r,e,i,l,b,d):=h;have(o,ho,_):=d.some;show#[r,e,i,λz=>?_,λz=>?_,d.mv (ok.mv n) λo q=>n.keep r o q b]
  .rcases n.new r z with z|z|z
   .show l z
   .show b z
   .rw[z]at ho;cases ho
  .rcases n.roots r z with z|z
   .show b z
   .rw[z]at ho;cases ho
 |loc=>show Rep.mv (ok.mv n) h
 |any=>show Rep.mv (ok.OT n) h
 |bor j=>change a.σ[j]?=_;rw[f j rfl];show h
 |_=>show h
def fS.on(ok:Ok C c)(n:Ns c a)(b:a.σ=c.σ)(h:fS C d c k u v):fS C d a k u v:=h.UW ok n λj _=>by rw[b]
def fS.from(n:Ns a b)(h:fS C b c k u v):fS C a c k u v:=by
 cases k with
 |own=>have(r,e,d,f):=h;show#[r,e,n.none d,f]
 |_=>show h
def aN.from(n:Ns a b)(h:aN C b c k u v):aN C a c k u v:=by
 cases k with
 |own=>have(r,e,d,f):=h;show#[r,e,n.none d,f]
 |_=>show h
def SK(C:Ct)(c:Cf):Kd->k9->Prop
 |.any=>PS C c.S
 |_=>c.S
abbrev kE:Kd->Kd
 |.any=>.any
 |_=>.loc
def Ok.rootOf(ok:Ok C c){j:Nat}(h:∃k:Kd,k.root=c4/\c.st[j]?=a8 (a8 (k,u)))(e:c.σ[j]?=a8 (a8 v)):∃r,v=.ref r/\¬c.S r/\¬C.Lj r/\(C.H₀ r=cb\/C.IO r)/\cZ C c.S c.H r u:=by
 have(k,hk,h):=h;have(d,a,b):=ok.sl j _ _ h;rw[e]at a;cases a;show b.rt hk
def aN.list(ok:Ok C c)(h:aN C f c k (.lst us) v):∃a vs,v=.ref a/\Jo C.K c.H a vs/\aq C (SK C c k) c.H us vs:=by
 cases k with
 |own=>have(r,e,_,_,_,vs,b,d):=h;show#[r,vs,e,Jo.of b,d]
 |bor j=>have(r,e,_,_,_,vs,b,d):=ok.rootOf h.1 h.2;show#[r,vs,e,Jo.of b,d]
 |io=>show h.elim
 |IH=>show h.elim
 |_=>have(a,vs,e,b,d):=h;show#[a,vs,e,b.sq,d]
def aN.tuple(ok:Ok C c)(h:aN C f c k (.tup us) v):∃a vs,v=.ref a/\Jj C.K c.H a vs/\aq C (SK C c k) c.H us vs:=by
 cases k with
 |own=>have(r,e,_,_,_,h):=h;show h.elim
 |bor j=>have(r,e,_,_,_,h):=ok.rootOf h.1 h.2;show h.elim
 |io=>show h.elim
 |IH=>show h.elim
 |_=>have(a,vs,e,b,d):=h;show#[a,vs,e,b,d]
def aN.flat(ok:Ok C c)(a:Jb u=c4)(h:aN C b c k u v):Rep C c.S c.H u v:=by
 cases k with
 |own=>have(r,e,_,_,_,h):=h;cases u<;>simp[Jb]at a<;>show h.elim
 |loc=>show h
 |any=>show Rep.Jb a h
 |bor j=>have(r,e,_,_,_,h):=ok.rootOf h.1 h.2;cases u<;>simp[Jb]at a<;>show h.elim
 |_=>show h.elim
def aN.int(ok:Ok C c)(h:aN C a c k (.int i) v):v=.int i:=h.flat ok rfl
def aN.str(ok:Ok C c)(h:aN C a c k (.str x) v):v=.str x:=h.flat ok rfl
def aN.bl(ok:Ok C c)(h:aN C a c k (.bl b) v):v=.bl b:=h.flat ok rfl
def aN.ID(ok:Ok C c)(h:aN C a c k .ID v):v=.ID:=h.flat ok rfl
def aN.item(h:Rep C (SK C c k) c.H u v):aN C a c (kE k) u v:=by
 cases k<;>show h
abbrev JB(H:Hp):k9->Prop:=λa=>∃o,H a=a8 o
def Ok.yy(ok:Ok C c):∀a,c.S a->JB c.H a:=λa h=>(ok.K7 a h).2
def Ok.Gz(ok:Ok C c):∀a,PS C c.S a->JB c.H a:=λa h=>by
 rcases h with h|h
 .have((o,e),n):=ok.par a h;show#[o,ok.same a o e n]
 .show ok.yy a h
def aN.read(ok:Ok C c)(h:aN C b c k u v):Rep C (JB c.H) c.H u v:=by
 cases k with
 |own =>
  have(r,e,_,_,_,a):=h;rw[e];have(o,ho,_):=a.some;show a.rep ok.yy #[o,ho]
 |loc=>show Rep.mv (.up ok.yy) h
 |any=>show Rep.mv (.up ok.Gz) h
 |bor j =>
  have(r,e,_,_,_,a):=ok.rootOf h.1 h.2;rw[e];have(o,ho,_):=a.some;show a.rep ok.yy #[o,ho]
 |_=>show h.elim
def Ok.newList(ok:Ok C c)(n:Nx a c)(h:c.H p=cb)(d:aq C c.S c.H us vs):
  Ok C {c with H:=upd c.H p (.lst vs)}/\Nx a {c with H:=upd c.H p (.lst vs)}/\aN C a {c with H:=upd c.H p (.lst vs)} .own (.lst us) (.ref p):=by
 have(e,b):=ok.lay (o:=.lst vs) h;have(i,f,j,k,g):=ok.ph h;show#[e,n.trans b,p,rfl,n.none h,f,g,vs,aO,d.mv (ok.mv b.toNs)]
def Ok.yz(ok:Ok C c)(n:Nx a c)(h:c.H p=cb)(d:aq C c.S c.H us vs):
  Ok C {c with H:=upd c.H p (.tup vs)}/\Nx a {c with H:=upd c.H p (.tup vs)}/\aN C a {c with H:=upd c.H p (.tup vs)} .loc (.tup us) (.ref p):=by
 have(e,b):=ok.lay (o:=.tup vs) h;show#[e,n.trans b,p,vs,rfl,Jj.of aO,d.mv (ok.mv b.toNs)]
end
inductive Ex(α:Type) where|ok (a:α)|exc (c:Str)
abbrev M(α:Type):=ar->Option (Ex α×ar)
namespace M
abbrev pure(a:α):M α:=λst=>a8 (.ok a,st)
abbrev fail:M α:=λ_=>cb
abbrev bind(m:M α)(f:α->M β):M β:=λst=>match m st with
 |none=>cb
 |some (.ok a,st')=>f a st'
 |some (.exc c,st')=>a8 (.exc c,st')
abbrev IT(o:Option α):M α:=λst=>match o with
 |none=>cb
 |some a=>a8 (.ok a,st)
end M
noncomputable instance:Monad M:={pure:=M.pure,bind:=M.bind}
abbrev W{α:Type}(m:M α)(st:ar)(Q:α->ar->Prop):Prop:=∃a st',m st=a8 (.ok a,st')/\Q a st'
section
def ak:W (pure a) st Q↔Q a st:=by
 constructor
 .rintro⟨b,st',e,h⟩;cases e;show h
 .intro h;show#[a,st,rfl,h]
def aj:W (m >>= f) st Q↔W m st λa st'=>W (f a) st' Q:=by
 constructor
 .rintro⟨b,st',e,h⟩;have d:M.bind m f st=a8 (.ok b,st'):=e;unfold M.bind at d;cases q:m st with
  |none=>rw[q]at d;cases d
  |some r =>
   have(r,s1):=r;rw[q]at d;cases r with
   |ok a=>show#[a,s1,q,b,st',d,h]
   |exc c=>cases d
 .rintro⟨a,s1,q,b,st',e,h⟩;show#[b,st',?_,h];change M.bind m f st=_;unfold M.bind;rw[q];show e
def bO:W (M.IT o) st Q↔∃a,o=a8 a/\Q a st:=by
 cases o with
 |none=>show#[λ⟨_,_,e,_⟩=>(by cases e),λ⟨_,e,_⟩=>(by cases e)]
 |some a=>show#[λ⟨_,_,e,h⟩=>(by cases e;show#[a,rfl,h]),λ⟨_,e,h⟩=>(by cases e;show#[a,st,rfl,h])]
def a9:W (M.fail:M α) st Q↔False:=#[λ⟨_,_,e,_⟩=>(by cases e),Po]
def W.mono(h:W m st Q)(i:∀a s,Q a s->Q' a s):W m st Q':=let ⟨a,s,e,q⟩:=h;⟨a,s,e,i a s q⟩
end
inductive QS where|add|sub|mul|J7|mod|pow
deriving DecidableEq
inductive P0 where|eq|ne|lt|le|gt|ge|isin|IL|is|N1
deriving DecidableEq
inductive Bf where|len|sorted|list|tuple|str|int|repr|max|min|all|any
deriving DecidableEq
inductive B2 where|Mb|Mc|sset|fK
deriving DecidableEq
inductive Mf where|split|join|partition|endswith
deriving DecidableEq
inductive MN where|str
deriving DecidableEq
inductive Ik where|seq|Je|Lw|Yc|zip|rev
deriving DecidableEq
inductive E where
 |var (i:Nat)
 |cst (u:U)
 |KH (x:Str) (u:U)
 |bin (op:QS) (a b:E)
 |cmp (op:P0) (a b:E)
 |KI (o1 o2:P0) (a b c:E)
 |and (es:List E)|or (es:List E)|not (a:E)
 |ite (c a b:E)
 |tup (es:List E)|lst (es:List E)|Lx (r:Bool)
 |idx (a b:E)
 |Ja (a:E) (lo hi:List E)
 |bi (f:Bf) (es:List E)
 |LI (f:B2) (es:List E)
 |Jf (m:Mf) (a:E) (es:List E)
 |call (f:Str) (es:List E)
 |comp (k:Nat) (t:Bool) (ik:Ik) (src:List E) (cond:List E) (e:E)
 |neg (a:E)|bad|Nh (a:E) (T:MN)|fst (es:List E)|inD (neg:Bool) (a:E) (i:Nat)|QT (i:Nat)|MO (i:Nat) (k d:E)|QU (i:Nat)|QV (ln:Bool) (a b:E)
 |Md (f:Str) (es:List E) (is:List Nat)
 |QW (a:E)
 |Ni (a:E)
inductive RE where
 |call (f:Str) (es:List E)
 |arg (f:Str) (r:RE)
 |tup (e:E) (r:RE)
 |P1 (f:Str) (e:E)
inductive S where
 |set (i:Nat) (e:E)
 |MP (is:List Nat) (e:E)
 |put (i:Nat) (k v:E)
 |app (i:Nat) (e:E)|ext (i:Nat) (e:E)|bad|newD (i:Nat)|putD (i:Nat) (k v:E)|MQ (i:Nat) (k v:E)|aug (sub:Bool) (i:Nat) (k v:E)|QX (i:Nat)
 |exp (e:E)
 |ret (e:E)|MR
 |ite (c:E) (a b:List S)
 |Jz (t:Bool) (is:List Nat) (ik:Ik) (src:List E) (body:List S)
 |QY (c:E) (body:List S)
 |brk|cnt|QZ
 |P2 (is:List Nat)
 |LJ (c:Str) (e:E)
 |KY (i:Nat) (f:Str) (es:List E) (x:Str) (cbs:List (Str×List Bool)) (j k:Nat) (g:Str) (Ds:List Str)|knd (Ds:List Str)
 |N2 (i:Nat) (f:Str) (es:List E) (x c:Str) (j:Nat)
 |J8 (r:RE)
abbrev isAny:Kd->Bool
 |.any=>c4
 |_=>dV
abbrev gS(k:Kd)(xs:List U):Bool:=!isAny k||fP xs
abbrev kT(k k':Kd):Kd:=if isAny k||isAny k' then .any else .loc
abbrev cut{α:Type}(xs:List α)(lo a:Option Int):List α:=(xs.drop (HT.II xs.length 0 lo)).take (HT.II xs.length xs.length a - HT.II xs.length 0 lo)
abbrev wu:Kd×U->Kd×U->Option (Kd×U)
 |(_,.int i),(_,.int j)=>a8 (.loc,.int (i+j))
 |(_,.str x),(_,.str y)=>if x.length+y.length<=eh then a8 (.loc,.str (x++y)) else cb
 |(k,.lst xs),(k',.lst a)=>if xs.length+a.length<=eh/\gS k xs=c4/\gS k' a=c4 then a8 (.own,.lst (xs++a)) else cb
 |(k,.tup xs),(k',.tup a)=>if xs.length+a.length<=eh then a8 (kT k k',.tup (xs++a)) else cb
 |_,_=>cb
abbrev pk(f:Int->Int->Option Int):U->U->Option (Kd×U)
 |.int i,.int j=>(f i j).map λn=>(.loc,.int n)
 |_,_=>cb
abbrev qR:Kd×U->U->Option (Kd×U)
 |(.own,.lst xs),.int n=>if -(2 ^ 63)<=n/\n<2 ^ 63/\xs.length * n.toNat<=eh then a8 (.own,.lst (mh n.toNat xs).flatten) else cb
 |_,_=>cb
abbrev wx(i j:Int):Option Int:=if ((-(2 ^ 64)<i/\i<2 ^ 64)\/(-(2 ^ 64)<j/\j<2 ^ 64)) then a8 (i * j) else cb
abbrev Bm(i j:Int):Option Int:=if 0<j/\j<1073741824 then a8 (i / j) else cb
abbrev Bn(i j:Int):Option Int:=if 0<j then a8 (i % j) else cb
abbrev Bo(i j:Int):Option Int:=if 0<=j/\j<=1000000/\i.natAbs<2 ^ 64 then a8 (i ^ j.toNat) else cb
abbrev uG:U->Bool
 |.lst _=>c4
 |_=>dV
abbrev Kh(op:QS)(x y:Kd×U):Option (Kd×U):=match op with
 |.add=>wu x y
 |.sub=>pk (λi j=>a8 (i - j)) x.2 y.2
 |.mul=>if uG x.2=c4 then qR x y.2 else pk wx x.2 y.2
 |.J7=>pk Bm x.2 y.2
 |.mod=>pk Bn x.2 y.2
 |.pow=>pk Bo x.2 y.2
mutual
noncomputable def Kb:Nat->U->Bool
 |_,.JV _ _=>dV
 |_,.Jy _=>dV
 |0,.tup _=>dV
 |0,.lst _=>dV
 |n+1,.tup xs=>iA n xs
 |n+1,.lst xs=>iA n xs
 |_,.ID=>c4|_,.bl _=>c4|_,.int _=>c4|_,.str _=>c4
noncomputable def iA:Nat->List U->Bool
 |_,[]=>c4
 |n,u::us=>Kb n u&&iA n us
end
mutual
noncomputable def cn:U->U->Bool
 |.ID,.ID=>c4
 |.bl a,.bl b=>a==b
 |.bl a,.int b=>(if a then 1 else 0)==b
 |.int a,.bl b=>a==(if b then 1 else 0)
 |.int a,.int b=>a==b
 |.str a,.str b=>a==b
 |.tup xs,.tup c=>cS xs c
 |.lst xs,.lst c=>cS xs c
 |_,_=>dV
noncomputable def cS:List U->List U->Bool
 |[],[]=>c4
 |u::us,w::ws=>cn u w&&cS us ws
 |_,_=>dV
end
abbrev MS(x:U)(a:List U):Option Bool:=if Kb 50 x=c4/\iA 50 a=c4 then a8 (a.any λy=>cn y x) else cb
abbrev N3(x y:Str):Bool:=ei (x.cps.toList<y.cps.toList)
abbrev OU(x y:Str):Bool:=!(Jv y x 0 y.length 1).isEmpty
abbrev strsOf:List U->Option (List Str)
 |[]=>a8 []
 |.str x::us=>(strsOf us).map (x::·)
 |_::_=>cb
abbrev rowOf:U->Option cO
 |.tup [.str x,.tup a]=>(strsOf a).map λss=>(x,ss)
 |_=>cb
abbrev yA:U->U->Option Bool
 |x,.lst a=>MS x a
 |x,.tup a=>MS x a
 |.str x,.str y=>a8 (OU x y)
 |.str x,.JV b _=>a8 (ei (x∈b))
 |x,.Jy b=>(rowOf x).map λr=>ei (r∈b)
 |_,_=>cb
abbrev yB:List Str->List U->Str->Option U
 |y::a,u::us,x=>if y=x then a8 u else yB a us x
 |_,_,_=>cb
abbrev dput(a:List Str)(us:List U)(x:Str)(u:U):List Str×List U :=
 if x∈a then(a,(a.zip us).map λp=>if p.1=x then u else p.2) else(a++[x],us++[u])
abbrev nN:U->Bool
 |.ID=>c4
 |_=>dV
abbrev bg:P0->U->U->Option Bool
 |.eq,a,b=>if Kb 50 a=c4/\Kb 50 b=c4 then a8 (cn a b) else cb
 |.ne,a,b=>if Kb 50 a=c4/\Kb 50 b=c4 then a8 (!cn a b) else cb
 |.lt,.int i,.int j=>a8 (ei (i<j))
 |.le,.int i,.int j=>a8 (ei (i<=j))
 |.gt,.int i,.int j=>a8 (ei (j<i))
 |.ge,.int i,.int j=>a8 (ei (j<=i))
 |.lt,.str x,.str y=>a8 (N3 x y)
 |.le,.str x,.str y=>a8 (!N3 y x)
 |.isin,x,y=>yA x y
 |.IL,x,y=>(yA x y).map (!·)
 |.is,x,.ID=>a8 (nN x)
 |.N1,x,.ID=>a8 (!nN x)
 |.is,.bl x,.bl y=>a8 (x==y)
 |.N1,.bl x,.bl y=>a8 (!(x==y))
 |_,_,_=>cb
abbrev lF:List U->Option (List Bool)
 |[]=>a8 []
 |.bl x::us=>(lF us).map (x::·)
 |_::_=>cb
abbrev jd:Kd×U->U->Option (Kd×U)
 |(k,.lst xs),.int i=>(IX xs i).map λu=>(kE k,u)
 |(k,.tup xs),.int i=>(IX xs i).map λu=>(kE k,u)
 |(_,.str x),.int i=>if x.length<=eh then(IX x.cps.toList i).map λc=>(.loc,.str #[#v[c]]) else cb
 |_,_=>cb
abbrev je:Kd×U->Option Int->Option Int->Option (Kd×U)
 |(k,.lst xs),lo,a=>if gS k xs=c4 then a8 (.own,.lst (cut xs lo a)) else cb
 |(k,.tup xs),lo,a=>a8 (kE k,.tup (cut xs lo a))
 |(_,.str x),lo,a=>if x.length<=eh then a8 (.loc,.str (PySem.StrLaws.sliceText x lo a)) else cb
 |_,_,_=>cb
abbrev Bp:U->Option Nat
 |.lst xs=>a8 xs.length
 |.tup xs=>a8 xs.length
 |.str x=>if x.length<=eh then a8 x.length else cb
 |_=>cb
mutual
noncomputable def fG:U->Option ú
 |.ID=>a8 .none
 |.bl b=>a8 (.bool b)
 |.int i=>a8 (.int i)
 |.str x=>a8 (.str x)
 |.tup us=>(kF us).map .tuple
 |.lst us=>(kF us).map .list
 |.JV _ _=>cb
 |.Jy _=>cb
noncomputable def kF:List U->Option (List ú)
 |[]=>a8 []
 |u::us=>(fG u).bind λd=>(kF us).map (d::·)
end
abbrev CZ:U->Bool
 |.tup _=>c4
 |.lst _=>c4
 |_=>dV
abbrev uH(u:U):Option (Kd×U):=(fG u).bind λd=>if d.showable=c4/\d.depth<=50/\d.shown.length<=eh/\CZ u=c4 then a8 (.loc,.str d.shown) else cb
abbrev gT{β:Type}(f:Kd×U->Option β):List (Kd×U)->Option β
 |[x]=>f x
 |_=>cb
abbrev Eh:Kd×U->Option (Kd×U)
 |(_,.lst xs)=>(strsOf xs).bind λss=>if ss.length<64 then a8 (.own,.lst ((cC ss).map .str)) else cb
 |(_,.tup xs)=>(strsOf xs).bind λss=>if ss.length<64 then a8 (.own,.lst ((cC ss).map .str)) else cb
 |_=>cb
abbrev Ei:Kd×U->Option (Kd×U)
 |(k,.lst xs)=>if gS k xs=c4 then a8 (.own,.lst xs) else cb
 |(k,.tup xs)=>if gS k xs=c4 then a8 (.own,.lst xs) else cb
 |_=>cb
abbrev Ej:Kd×U->Option (Kd×U)
 |(k,.lst xs)=>a8 (kE k,.tup xs)
 |(k,.tup xs)=>a8 (kE k,.tup xs)
 |_=>cb
abbrev yC:Kd×U->Option (Kd×U)
 |(_,.int i)=>if i.natAbs.log2<1920 then a8 (.loc,.str (ş i)) else cb
 |_=>cb
abbrev Ek:Kd×U->Option (Kd×U)
 |(_,.str x)=>if (ĕ x).length<=eh then a8 (.loc,.str (ĕ x)) else cb
 |(_,.lst xs)=>uH (.lst xs)
 |(_,.tup xs)=>uH (.tup xs)
 |_=>cb
abbrev wy(a:Bool):List (Kd×U)->Option (Kd×U)
 |[(_,.int i),(_,.int j)]=>a8 (.loc,.int (if a=c4 then(if j<i then j else i) else(if j>i then j else i)))
 |_=>cb
abbrev El:Kd×U->Option (Kd×U)
 |(_,.lst xs)=>(lF xs).map λbs=>(.loc,.bl (bs.all id))
 |_=>cb
abbrev Em:Kd×U->Option (Kd×U)
 |(_,.bl b)=>a8 (.loc,.int (if b then 1 else 0))
 |_=>cb
abbrev JN(f:Bf)(rs:List (Kd×U)):Option (Kd×U):=match f with
 |.len=>gT (λx=>(Bp x.2).map λ(n:Nat)=>(Kd.loc,U.int (n:Int))) rs
 |.sorted=>gT Eh rs
 |.list=>gT Ei rs
 |.tuple=>gT Ej rs
 |.str=>gT yC rs
 |.repr=>gT Ek rs
 |.int=>gT Em rs
 |.max=>wy dV rs
 |.min=>wy c4 rs
 |.all=>gT El rs
 |_=>cb
abbrev sE:U->Option (List Str)
 |.lst xs=>(strsOf xs).bind λss=>if ss.length+1<PQ then a8 (aZ ss) else cb
 |.tup xs=>(strsOf xs).bind λss=>if ss.length+1<PQ then a8 (aZ ss) else cb
 |_=>cb
abbrev lG:List U->Option (List cO)
 |[]=>a8 []
 |u::us=>(rowOf u).bind λr=>(lG us).map (r::·)
abbrev En:U->Option (Kd×U)
 |.lst xs=>(lG xs).bind λa=>if a.length<=64 then a8 (.loc,.int (bF a).length) else cb
 |_=>cb
abbrev lH(x:Kd×U):Option (Kd×U):=match sE x.2 with
 |some ss=>a8 (.loc,.int ss.length)
 |none=>En x.2
abbrev sF(f:B2)(rs:List (Kd×U)):Option (Kd×U):=match f with
 |.Mb=>cb
 |.Mc=>cb
 |.sset=>gT (λx=>(sE x.2).bind λss=>if ss.length<64 then a8 (.own,.lst ((cC ss).map .str)) else cb) rs
 |.fK=>gT lH rs
abbrev ff:Mf->U->List (Kd×U)->Option (Kd×U)
 |.split,.str a,[(_,.str b)]=>if (b.length==0)=dV/\a.length+2<=eh then a8 (.own,.lst ((tA a b).map .str)) else cb
 |.join,.str a,[(_,.lst xs)]=>(strsOf xs).bind λss=>if W4 a ss=c4 then a8 (.loc,.str (H0 a ss)) else cb
 |.join,.str a,[(_,.tup xs)]=>(strsOf xs).bind λss=>if W4 a ss=c4 then a8 (.loc,.str (H0 a ss)) else cb
 |.endswith,.str a,[(_,.str b)]=>a8 (.loc,.bl (ŏ a b))
 |.partition,.str a,[(_,.str b)]=>if (b.length==0)=dV/\a.length<=eh then a8 (.loc,.tup [.str (tx a b).1,.str (tx a b).2.1,.str (tx a b).2.2]) else cb
 |_,_,_=>cb
abbrev Il:Kd×U->Option (List (Kd×U))
 |(k,.lst xs)=>a8 (xs.map λu=>(kE k,u))
 |(k,.tup xs)=>a8 (xs.map λu=>(kE k,u))
 |(_,.str x)=>a8 (x.cps.toList.map λc=>(.loc,.str #[#v[c]]))
 |_=>cb
abbrev sG:Kd×U->Option (List (Kd×U))
 |(_,.int n)=>if n<2 ^ 62/\-(2 ^ 62)<n then a8 ((gA n.toNat).map λi:Nat=>(Kd.loc,U.int (0+(i:Int)))) else cb
 |_=>cb
abbrev Eo:List (Kd×U)->Option (List (Kd×U))
 |[(_,.int lo),(_,.int a)]=>if a<2 ^ 62/\-(2 ^ 62)<lo/\lo<2 ^ 62/\-(2 ^ 62)<a then a8 ((gA (a - lo).toNat).map λi:Nat=>(Kd.loc,U.int (lo+(i:Int)))) else cb
 |_=>cb
abbrev JX(a:Ik)(rs:List (Kd×U)):Option (List (Kd×U)):=match a with
 |.seq=>gT Il rs
 |.Je=>gT sG rs
 |.Lw=>Eo rs
 |_=>cb
abbrev wz:U->Option Bool
 |.bl b=>a8 b
 |.lst xs=>a8 !xs.isEmpty
 |.tup xs=>a8 !xs.isEmpty
 |.str x=>if x.length<=eh then a8 ((x.length:Int) != 0) else cb
 |_=>cb
abbrev lift:Kd×U->M U
 |(.own,u)=>pure u
 |(.loc,u)=>pure u
 |(.any,u)=>if Jb u=c4 then pure u else M.fail
 |(.bor j,_)=>λst=>match st[j]? with
  |some (a8 (.own,u))=>a8 (.ok u,st.set j (a8 (.loc,u)))
  |_=>cb
 |(.io,_)=>M.fail
 |(.IH,_)=>M.fail
abbrev cT:List (Kd×U)->M (List U)
 |[]=>pure []
 |r::rs=>do let u <-lift r;let us <-cT rs;pure (u::us)
abbrev dr(i:Nat):Kd×U->M Unit
 |(.bor j,_)=>λst=>match st[j]? with
  |some (a8 (.own,u))=>a8 (.ok (),(st.set j (a8 (.loc,u))).set i (a8 (.loc,u)))
  |_=>cb
 |(.io,_)=>M.fail
 |(.IH,_)=>M.fail
 |(k,u)=>λst=>a8 (.ok (),st.set i (a8 (k,u)))
def bf:List (Kd×U)->ar->Prop
 |[],_=>True
 |(.bor j,u)::rs,st=>(∃k:Kd,k.root=c4/\st[j]?=a8 (a8 (k,u)))/\bf rs st
 |_::rs,st=>bf rs st
open Classical in
abbrev ao(rs:List (Kd×U)):M Unit:=λst=>if bf rs st then a8 (.ok (),st) else cb
@[reducible]noncomputable def Tab:=Str->List U->Option (Ex (Kd×U))
abbrev lI(Γ:Tab)(f:Str)(us:List U):M (Kd×U):=λst=>match Γ f us with
 |some (.ok (.any,_))=>cb
 |none=>cb
 |some r=>a8 (r,st)
abbrev lJ(rs:List (Kd×U))(p:Nat):Option Nat:=match rs[p]? with
 |some (.bor j,.lst us)=>if fP us=c4 then a8 j else cb
 |_=>cb
abbrev C2(a:List (Option Nat)):Kd×U->Bool
 |(.bor j,_)=>ei (a8 j∉a)
 |_=>c4
abbrev C3(rs:List (Kd×U))(is:List Nat):Bool:=is.all (λp=>(lJ rs p).isSome)&&ei ((is.map (lJ rs)).Nodup)&&(gA rs.length).all λq=>ei (q∈is)||C2 (is.map (lJ rs)) (rs.getD q (.loc,.ID))
abbrev uI(rs:List (Kd×U)):List Nat->List U->ar->Option ar
 |[],[],st=>a8 st
 |p::is,w::ws,st=>match lJ rs p with
  |some j=>match w,st[j]? with
   |.lst us,a8 (a8 (k,_))=>uI rs is ws (st.set j (a8 (k,.lst us)))
   |_,_=>cb
  |none=>cb
 |_,_,_=>cb
abbrev Pa:Kd×U->Option (Kd×U×List U)
 |(.own,.tup (u::ws))=>a8 (.own,u,ws)
 |(.loc,.tup (u::ws))=>a8 (.loc,u,ws)
 |_=>cb
abbrev Bq(st:ar):Kd×U->Kd×U
 |(.bor j,u)=>(.bor j,match st[j]? with|some (a8 (k,u'))=>if k.root=c4 then u' else u|_=>u)
 |r=>r
abbrev GA(rs:List (Kd×U)):M (List (Kd×U)):=λst=>a8 (.ok (rs.map (Bq st)),st)
abbrev yD(Γ:Tab)(f:Str)(rs:List (Kd×U))(is:List Nat):M (Kd×U):=λst=>match Γ f (rs.map (·.2)) with
 |some (.ok r)=>match Pa r with
  |some (k,u,ws)=>if C3 rs is=c4 then(match uI rs is ws st with|some st'=>a8 (.ok (k,u),st')|none=>cb) else cb
  |none=>cb
 |_=>cb
abbrev iB(i:Nat):M (Kd×U):=λst=>match st[i]? with
 |some (a8 (.IH,_))=>cb
 |some (a8 (k,u))=>a8 (.ok (if k.root=c4 then .bor i else k,u),st)
 |_=>cb
abbrev sets:List Nat->List (Kd×U)->M Unit
 |[],[]=>pure ()
 |i::is,r::rs=>do dr i r;sets is rs
 |_,_=>M.fail
abbrev dt(t:Bool)(is:List Nat)(r:Kd×U):M Unit:=match t,is,r with
 |false,[i],r=>dr i r
 |true,is,(k,.tup xs)=>sets is (xs.map λu=>(kE k,u))
 |_,_,_=>M.fail
abbrev inScope{α:Type}(k:Nat)(m:M α):M α:=λst=>match m (mh k cb++st) with
 |none=>cb
 |some (r,st')=>a8 (r,st'.drop k)
abbrev bR(k:Nat)(t:Bool)(cond:M Bool)(elt:M (Kd×U))(src:List (Kd×U)):List (Kd×U)->List U->M (List U)
 |[],a=>do ao src;pure a
 |x::xs,a=>do
  ao src
  let r <-inScope k (dt t (gA k) x >>= λ_=>cond >>= λb=>if b=c4 then(elt >>= λr=>lift r >>= λu=>pure (a8 u)) else pure cb)
  match r with
  |some u=>if a.length<eh then bR k t cond elt src xs (a++[u]) else M.fail
  |none=>bR k t cond elt src xs a
abbrev ni:U->MN->Option Bool
 |.str _,_=>a8 c4
 |.int _,_=>a8 dV
 |.bl _,_=>a8 dV
 |.ID,_=>a8 dV
 |.lst _,_=>a8 dV
 |.tup _,_=>a8 dV
 |_,_=>cb
abbrev yE:Kd×U->Option (Kd×U)
 |(k,.lst xs)=>if gS k xs=c4 then a8 (.own,.lst (xs.drop 2).reverse) else cb
 |_=>cb
abbrev Ep:Kd×U->Option (Kd×U)
 |(k,.tup xs)=>a8 (kE k,.tup xs.reverse)
 |_=>cb
abbrev Br:Kd×U->Option (Kd×U)
 |(_,.int i)=>a8 (.loc,.int (-i))
 |_=>cb
abbrev Er(x:Kd×U):M (Option Int):=match x.2 with
 |.int i=>pure (a8 i)
 |_=>M.fail
abbrev OV:U->M Unit
 |.lst _=>pure ()
 |_=>M.fail
section
variable(Γ:Tab)
mutual
noncomputable def ev:E->M (Kd×U)
 |.var i=>iB i
 |.cst u=>pure (.loc,u)
 |.KH _ u=>pure (.loc,u)
 |.bin op a b=>do
  let x <-ev a
  let y <-ev b
  ao [x,y]
  M.IT (Kh op x y)
 |.cmp op a b=>do
  let x <-ev a
  let y <-ev b
  ao [x,y]
  let c <-M.IT (bg op x.2 y.2)
  pure (.loc,.bl c)
 |.KI o1 o2 a b c=>do
  let x <-ev a
  let y <-ev b
  ao [x,y]
  let p <-M.IT (bg o1 x.2 y.2)
  if p=c4 then do
   let z <-ev c
   ao [y,z]
   let q <-M.IT (bg o2 y.2 z.2)
   pure (.loc,.bl q)
  else pure (.loc,.bl dV)
 |.and es=>jf es
 |.or es=>Bs es
 |.not a=>do
  let x <-ev a
  match x.2 with
  |.bl c=>pure (.loc,.bl !c)
  |_=>M.fail
 |.ite c a b=>do
  let p <-IS c
  if p=c4 then ev a else ev b
 |.tup es=>do
  let rs <-aX es
  ao rs
  let us <-cT rs
  if us.length<=eh then pure (.loc,.tup us) else M.fail
 |.lst es=>do
  let rs <-aX es
  ao rs
  let us <-cT rs
  if us.length<=eh then pure (.own,.lst us) else M.fail
 |.Lx r=>pure (.own,if r=c4 then .Jy [] else .JV [] [])
 |.idx a b=>do
  let x <-ev a
  let y <-ev b
  ao [x,y]
  M.IT (jd x y.2)
 |.Ja a lo d=>do
  let x <-ev a
  let l <-N4 lo
  let h <-N4 d
  ao [x]
  M.IT (je x l h)
 |.bi f es=>do
  let rs <-aX es
  ao rs
  M.IT (JN f rs)
 |.LI f es=>do
  let rs <-aX es
  ao rs
  M.IT (sF f rs)
 |.Jf m a es=>do
  let x <-ev a
  let rs <-aX es
  ao (x::rs)
  M.IT (ff m x.2 rs)
 |.call f es=>do
  let rs <-aX es
  ao rs
  lI Γ f (rs.map (·.2))
 |.comp k t g src cond e=>do
  let rs <-aX src
  ao rs
  let xs <-M.IT (JX g rs)
  let us <-bR k t (a_ cond) (ev e) rs xs []
  pure (.own,.lst us)
 |.neg a=>do
  let x <-ev a
  M.IT (Br x)
 |.bad=>M.fail
 |.QU _=>M.fail
 |.inD _ _ _=>M.fail
 |.QT _=>M.fail
 |.MO _ _ _=>M.fail
 |.QW a=>do
  let x <-ev a
  M.IT (Ep x)
 |.Ni a=>do
  let x <-ev a
  M.IT (yE x)
 |.Md f es is=>do
  let rs <-(aX es >>= GA)
  ao rs
  yD Γ f rs is
 |.QV _ _ _=>M.fail
 |.fst es=>M.fail
 |.Nh a T=>do
  let x <-ev a
  let b <-M.IT (ni x.2 T)
  pure (.loc,.bl b)
noncomputable def aX:List E->M (List (Kd×U))
 |[]=>pure []
 |e::es=>do let r <-ev e;let rs <-aX es;pure (r::rs)
noncomputable def N4:List E->M (Option Int)
 |[]=>pure cb
 |[e]=>do let x <-ev e;Er x
 |_=>M.fail
noncomputable def jf:List E->M (Kd×U)
 |[]=>M.fail
 |[e]=>ev e
 |e::es=>do
  let x <-ev e
  match x.2 with
  |.bl c4=>jf es
  |.bl dV=>pure (.loc,.bl dV)
  |_=>M.fail
noncomputable def Bs:List E->M (Kd×U)
 |[]=>M.fail
 |[e]=>ev e
 |e::es=>do
  let x <-ev e
  match x.2 with
  |.bl c4=>pure (.loc,.bl c4)
  |.bl dV=>Bs es
  |_=>M.fail
noncomputable def IS:E->M Bool
 |.and es=>a_ es
 |.or es=>fT es
 |.not a=>do let b <-IS a;pure !b
 |.cmp op a b=>do
  let x <-ev a
  let y <-ev b
  ao [x,y]
  M.IT (bg op x.2 y.2)
 |.var i=>do let x <-iB i;M.IT (wz x.2)
 |.bi f es=>do
  let rs <-aX es
  ao rs
  let r <-M.IT (JN f rs)
  M.IT (wz r.2)
 |.call f es=>do
  let rs <-aX es
  ao rs
  let r <-lI Γ f (rs.map (·.2))
  M.IT (wz r.2)
 |.KI o1 o2 a b c=>do
  let x <-ev a
  let y <-ev b
  ao [x,y]
  let p <-M.IT (bg o1 x.2 y.2)
  if p=c4 then do
   let z <-ev c
   ao [y,z]
   M.IT (bg o2 y.2 z.2)
  else pure dV
 |.Nh a T=>do
  let x <-ev a
  M.IT (ni x.2 T)
 |_=>M.fail
noncomputable def a_:List E->M Bool
 |[]=>pure c4
 |[e]=>IS e
 |e::es=>do let b <-IS e;if b=c4 then a_ es else pure dV
noncomputable def fT:List E->M Bool
 |[]=>pure dV
 |[e]=>IS e
 |e::es=>do let b <-IS e;if b=c4 then pure c4 else fT es
end
inductive Fl where|nx|rt (k:Kd) (u:U)|bk|ct
abbrev retS:Kd×U->M Fl
 |(.own,u)=>pure (.rt .own u)
 |(.loc,u)=>pure (.rt .loc u)
 |(.any,u)=>if Jb u=c4 then pure (.rt .loc u) else pure (.rt .any u)
 |(.bor j,_)=>λst=>match st[j]? with
  |some (a8 (.own,u))=>a8 (.ok (.rt .own u),st.set j cb)
  |_=>cb
 |(.io,_)=>M.fail
 |(.IH,_)=>M.fail
abbrev forM(t:Bool)(is:List Nat)(body:M Fl)(src:List (Kd×U)):List (Kd×U)->M Fl
 |[]=>do ao src;pure .nx
 |x::xs=>do
  ao src
  dt t is x
  let f <-body
  match f with
  |.nx=>forM t is body src xs
  |.ct=>forM t is body src xs
  |.bk=>pure .nx
  |.rt k u=>pure (.rt k u)
abbrev pq(c:M Bool)(body:M Fl):Nat->M Fl
 |0=>M.fail
 |n+1=>do
  let b <-c
  if b=c4 then do
   let f <-body
   match f with
   |.nx=>pq c body n
   |.ct=>pq c body n
   |.bk=>pure .nx
   |.rt k u=>pure (.rt k u)
  else pure .nx
abbrev yF(Γ:Tab)(f:Str)(us:List U)(c:Str):M (Option (Kd×U)):=λst=>match Γ f us with
 |some (.ok (.own,u))=>a8 (.ok (a8 (.own,u)),st)
 |some (.ok (.loc,u))=>a8 (.ok (a8 (.loc,u)),st)
 |some (.exc a)=>if a=c then a8 (.ok cb,st) else cb
 |_=>cb
abbrev wA(j k:Nat)(bs:List Bool):M Fl:=λst=>match st[j]? with
  |some cb=>if k≠j then(dr k (.own,.lst (bs.map .bl)) >>= λ_=>pure .nx) st else cb
  |_=>cb
abbrev wB(i j k:Nat)(cbs:List (Str×List Bool)):Sum (Kd×U) Str->M Fl
 |.inl r=>do dr i r;pure .nx
 |.inr c=>match cbs.lookup c with
  |some bs=>wA j k bs
  |none=>M.fail
abbrev sH(i j:Nat):Option (Kd×U)->M Fl
 |some _=>pure .nx
 |none=>λst=>match st[j]? with
  |some cb=>if i≠j then(dr i (.loc,.bl c4) >>= λ_=>pure .nx) st else cb
  |_=>cb
abbrev aY(Γ:Tab)(f:Str)(us:List U):M (Sum (Kd×U) Str):=λst=>match Γ f us with
 |some (.ok (.own,u))=>a8 (.ok (.inl (.own,u)),st)
 |some (.ok (.loc,u))=>a8 (.ok (.inl (.loc,u)),st)
 |some (.exc c)=>a8 (.ok (.inr c),st)
 |_=>cb
abbrev GB(Γ:Tab)(f:Str):Sum (Kd×U) Str->M (Sum (Kd×U) Str)
 |.inl x=>do ao [x];aY Γ f [x.2]
 |.inr c=>pure (.inr c)
abbrev Et(x:Kd×U):Sum (Kd×U) Str->M (Sum (Kd×U) Str)
 |.inl y=>ao [x,y] >>= λ_=>cT [x,y] >>= λus=>pure (.inl (.loc,.tup us))
 |.inr c=>pure (.inr c)
abbrev lK:Sum (Kd×U) Str->M (Sum U Str)
 |.inl r=>lift r >>= λu=>pure (.inl u)
 |.inr c=>pure (.inr c)
abbrev dU(k:Nat)(t:Bool)(elt:M (Sum (Kd×U) Str))(src:List (Kd×U)):List (Kd×U)->List U->M (Sum (List U) Str)
 |[],a=>ao src >>= λ_=>pure (.inl a)
 |x::xs,a=>ao src >>= λ_=>inScope k (dt t (gA k) x >>= λ_=>elt >>= lK) >>= λr=>match r with
  |.inl u=>if a.length<eh then dU k t elt src xs (a++[u]) else M.fail
  |.inr c=>pure (.inr c)
abbrev Bt:Sum (List U) Str->M (Sum (Kd×U) Str)
 |.inl us=>pure (.inl (.own,.lst us))
 |.inr c=>pure (.inr c)
abbrev GC:Sum (Kd×U) Str->M (Sum (Kd×U) Str)
 |.inl x=>ao [x] >>= λ_=>M.IT (JN .tuple [x]) >>= λr=>pure (.inl r)
 |.inr c=>pure (.inr c)
abbrev Kr(Γ:Tab):RE->M (Sum (Kd×U) Str)
 |.call f es=>aX Γ es >>= λrs=>ao rs >>= λ_=>aY Γ f (rs.map (·.2))
 |.arg f r=>Kr Γ r >>= GB Γ f
 |.tup e r=>ev Γ e >>= λx=>Kr Γ r >>= Et x
 |.P1 f e=>(aX Γ [e] >>= λrs=>ao rs >>= λ_=>M.IT (JX .seq rs) >>= λxs=>dU 1 dV (aX Γ [.var 0] >>= λrs=>ao rs >>= λ_=>aY Γ f (rs.map (·.2))) rs xs [] >>= Bt) >>= GC
abbrev Eu:Sum (Kd×U) Str->M Fl
 |.inl x=>retS x
 |.inr c=>pure (.rt .io (.str c))
abbrev modS(i:Nat)(f:U->Option U):M Unit:=λst=>match st[i]? with
 |some (a8 (k,u))=>if k.root=c4 then match f u with
   |some u'=>a8 (.ok (),st.set i (a8 (k,u')))
   |none=>cb
  else cb
 |_=>cb
abbrev yG(u:U):U->Option U
 |.lst xs=>if xs.length<eh then a8 (.lst (xs++[u])) else cb
 |_=>cb
abbrev sI:Kd×U->U->Option U
 |(k,.lst a),.lst xs=>if xs.length+a.length<=eh/\gS k a=c4 then a8 (.lst (xs++a)) else cb
 |(k,.tup a),.lst xs=>if xs.length+a.length<=eh/\gS k a=c4 then a8 (.lst (xs++a)) else cb
 |_,_=>cb
abbrev lL(x u:U):U->Option U
 |.JV a vs=>match x with
  |.str y=>if a.length<eh then a8 (.JV (dput a vs y u).1 (dput a vs y u).2) else cb
  |_=>cb
 |.Jy a=>match rowOf x,u with
  |some r,.bl c4=>if r∉a/\a.length<=1000 then a8 (.Jy (a++[r])) else cb
  |_,_=>cb
 |.lst xs=>match x with
  |.int i=>(MG xs.length i).map λj=>.lst (xs.set j u)
  |_=>cb
 |_=>cb
abbrev uJ:List U->U->Option U
 |[u,x]=>lL x u
 |_=>λ_=>cb
abbrev fuel:Nat:=1000000000000
mutual
noncomputable def N5:S->Nat->Bool
 |.set i _,j=>ei (j≠i)
 |.MP is _,j=>ei (j∉is)
 |.ite _ a b,j=>Kl a j&&Kl b j
 |.Jz _ is _ _ body,j=>ei (j∉is)&&Kl body j
 |.QY _ body,j=>Kl body j
 |.put _ _ _,_=>c4
 |.app _ _,_=>c4
 |.ext _ _,_=>c4
 |.bad,_=>c4
 |.newD i,j=>ei (j≠i)
 |.putD _ _ _,_=>c4
 |.MQ _ _ _,_=>c4
 |.aug _ _ _ _,_=>c4
 |.QX _,_=>c4
 |.exp _,_=>c4
 |.ret _,_=>c4
 |.MR,_=>c4
 |.brk,_=>c4
 |.cnt,_=>c4
 |.QZ,_=>c4
 |.P2 _,_=>c4
 |.LJ _ _,_=>c4
 |.knd _,_=>c4
 |.KY i _ _ _ _ j k _ _,n=>ei (n≠i)&&ei (n≠k)&&ei (n≠j)
 |.N2 i _ _ _ _ j,n=>ei (n≠i)&&ei (n≠j)
 |.J8 _,_=>c4
noncomputable def Kl:List S->Nat->Bool
 |[],_=>c4
 |s::ss,j=>N5 s j&&Kl ss j
end
abbrev uK(rs:List (Kd×U))(is:List Nat)(body:List S):Bool:=rs.all λr=>match r.1 with
 |.bor j=>ei (j∉is)&&Kl body j
 |_=>c4
mutual
noncomputable def exec:S->M Fl
 |.set i e=>do let r <-ev Γ e;dr i r;pure .nx
 |.MP is e=>do let r <-ev Γ e;dt c4 is r;pure .nx
 |.put i k v=>do
  let r <-ev Γ v
  let _ <-iB i
  let x <-ev Γ k
  let us <-cT [r,x]
  modS i (uJ us)
  pure .nx
 |.app i e=>do
  let x <-iB i
  OV x.2
  let r <-ev Γ e
  let u <-lift r
  modS i (yG u)
  pure .nx
 |.ext i e=>do
  let x <-iB i
  OV x.2
  let r <-ev Γ e
  modS i (sI r)
  pure .nx
 |.bad=>M.fail
 |.newD _=>M.fail
 |.putD _ _ _=>M.fail
 |.MQ _ _ _=>M.fail
 |.aug _ _ _ _=>M.fail
 |.QX _=>M.fail
 |.exp e=>do let _ <-ev Γ e;pure .nx
 |.ret e=>do let r <-ev Γ e;retS r
 |.MR=>pure (.rt .loc .ID)
 |.ite c a b=>do let p <-IS Γ c;if p=c4 then execs a else execs b
 |.Jz t is d src body=>do
  let rs <-aX Γ src
  ao rs
  let xs <-M.IT (JX d rs)
  if uK rs is body=c4 then forM t is (execs body) rs xs else M.fail
 |.QY c body=>pq (IS Γ c) (execs body) fuel
 |.brk=>pure .bk
 |.cnt=>pure .ct
 |.QZ=>pure .nx
 |.P2 _=>M.fail
 |.LJ c e=>do let _ <-ev Γ e;pure (.rt .io (.str c))
 |.knd _=>M.fail
 |.KY i f es _ cbs j k _ _=>do
  let rs <-aX Γ es
  ao rs
  let r <-aY Γ f (rs.map (·.2))
  wB i j k cbs r
 |.N2 i f es _ c j=>do
  let rs <-aX Γ es
  ao rs
  let r <-yF Γ f (rs.map (·.2)) c
  sH i j r
 |.J8 r=>Kr Γ r >>= Eu
noncomputable def execs:List S->M Fl
 |[]=>pure .nx
 |s::ss=>do
  let f <-exec s
  match f with
  |.nx=>execs ss
  |f=>pure f
end
end
structure Fn where
 name:Str
 np:Nat
 ns:Nat
 body:List S
abbrev start(us:List U)(n:Nat):ar:=us.map (λu=>a8 (if Jb u=c4 then Kd.loc else Kd.any,u))++mh (n - us.length) cb
abbrev bw(Γ:Tab)(fn:Fn)(us:List U):Option (Ex (Kd×U)):=if us.length=fn.np then match execs Γ fn.body (start us fn.ns) with
  |some (.ok (.rt .own u),_)=>a8 (.ok (.own,u))
  |some (.ok (.rt .loc u),_)=>a8 (.ok (.loc,u))
  |some (.ok (.rt .any u),_)=>a8 (.ok (.any,u))
  |some (.ok .nx,_)=>a8 (.ok (.loc,.ID))
  |some (.ok (.rt .io (.str c)),_)=>a8 (.exc c)
  |_=>cb
 else cb
abbrev ef(is:List Nat)(us:List U)(n:Nat):ar:=(us.zipIdx.map λp=>a8 (if p.2∈is then Kd.io else if Jb p.1=c4 then Kd.loc else Kd.any,p.1))++mh (n - us.length) cb
abbrev P4:List Nat->ar->Option (List U)
 |[],_=>a8 []
 |i::is,st=>match st[i]? with
  |some (a8 (.io,u))=>(P4 is st).map (u::·)
  |_=>cb
abbrev UX:Fl->Option (Kd×U)
 |.rt .own u=>a8 (.own,u)
 |.rt .loc u=>a8 (.loc,u)
 |.nx=>a8 (.loc,.ID)
 |_=>cb
abbrev yH(Γ:Tab)(fn:Fn)(is:List Nat)(body:List S)(us:List U):Option (Ex (Kd×U)):=if us.length=fn.np then match execs Γ body (ef is us fn.ns) with
  |some (.ok f,st)=>(UX f).bind λr=>(P4 is st).map λws=>.ok (r.1,.tup (r.2::ws))
  |_=>cb
 else cb
abbrev Fn.io(fn:Fn):Option (List Nat×List S):=match fn.body with
 |.P2 is::body=>a8 (is,body)
 |_=>cb
abbrev nj(Γ:Tab)(fn:Fn)(us:List U):Option (Ex (Kd×U)):=match fn.io with
 |some (is,body)=>yH Γ fn is body us
 |none=>bw Γ fn us
abbrev Jk(P:List Fn):Nat->Tab
 |0=>λ_ _=>cb
 |d+1=>λf us=>match P.find? λfn=>ei (fn.name=f) with
  |some fn=>nj (Jk P d) fn us
  |none=>cb
end TM
namespace TM
open PySem L2
section
variable{X:Cx}{pins:List (k9×Obj)}{σ:St}{H:Hp}{s:i4}{C:Ct}{S:k9->Prop}
def uL(I:Inv X pins σ H s)(h:Jo X.K H a vs):∃b:List fx,Vals vs b/\s.heap.IsList a b.toArray/\vs.length<=eh:=by
 have(b,r,p,z):=I.list h;show#[b,r,p.isList,z]
inductive Jm(s:i4):Nat->U->fx->Prop where
 |ID {n:Nat}:Jm s n .ID .none
 |bl {n:Nat} {b:Bool}:Jm s n (.bl b) (.bool b)
 |int {n:Nat} {i:Int} {t:Tok}:Jm s n (.int i) (.int i t)
 |str {n:Nat} {y:Str} {t:Tok}:Jm s n (.str y) (.str y t)
 |tup {n:Nat} {us:List U} {A':List fx} {a:k9}:us.length=A'.length->(∀j (hj:j<A'.length),Jm s n (us.getD j .ID) A'[j])->cS us us=c4->s.heap.IsTuple a A'.toArray->Jm s (n+1) (.tup us) (.ref a)
 |lst {n:Nat} {us:List U} {A':List fx} {a:k9}:us.length=A'.length->(∀j (hj:j<A'.length),Jm s n (us.getD j .ID) A'[j])->cS us us=c4->s.heap.IsList a A'.toArray->Jm s (n+1) (.lst us) (.ref a)
def Jm.self(h:Jm s n u x):cn u u=c4:=by
 cases h<;>first|assumption|simp[cn]
theorem Jm.Bu(f:∀u v x,Kb n u=c4->Rep C S H u v->RelV v x->Jm s n u x):∀{us:List U}{vs:List V}{a:List fx},iA n us=c4->aq C S H us vs->Vals vs a->us.length=a.length/\(∀j (b:j<a.length),Jm s n (us.getD j .ID) a[j])/\cS us us=c4
 |[],_,_,_,h,r=>by cases h;cases r;show#[rfl,λj b=>(nomatch b),rfl]
 |u::us,_,_,e,h,r=>by
  have(v,vs,rfl,c,g):=h;simp only[iA,df]at e;cases r with
  |cons d i =>
   have(l,k,y):=Jm.Bu f e.2 g i;show#[by simp[l],λj b=>?_,by rw[cS,(f _ _ _ e.1 c d).self,y];rfl];cases j with
   |zero=>show f _ _ _ e.1 c d
   |succ j=>show k j (by simpa using b)
def Jm.of(I:Inv X pins σ H s)(f:C.K=X.K):∀(n:Nat) (u:U) (v:V) (x:fx),Kb n u=c4->Rep C S H u v->RelV v x->Jm s n u x:=by
 intro n;induction n with
 |zero=>intro u v x e h r;cases u<;>first|(simp[Kb]at e;done)|(simp only[Rep]at h;subst h;first|(cases r;constructor)|(have(t,rfl):=r;constructor))
 |succ n g =>
  intro u v x e h r;cases u with
  |tup us =>
   have(a,vs,rfl,b,c):=h;cases r;have(i,d,p,_):=I.tuple (f▸b);have(l,k,y):=Jm.Bu g (by simpa[Kb] using e) c d;show .tup l k y p
  |lst us =>
   have(a,vs,rfl,b,c):=h;cases r;have(i,d,p,_):=uL I (f▸b.sq);have(l,k,y):=Jm.Bu g (by simpa[Kb] using e) c d;show .lst l k y p
  |_=>first|(simp[Kb]at e;done)|(simp only[Rep]at h;subst h;first|(cases r;constructor)|(have(t,rfl):=r;constructor))
def Jm.inj:∀{n:Nat}{u w:U}{x:fx},Jm s n u x->Jm s n w x->u=w:=by
 intro n;induction n with
 |zero=>intro u w x h h';cases h<;>cases h'<;>rfl
 |succ n t =>
  have go:∀{us ws:List U} {c its':List fx} {a:k9} {o i:Obj} {m q:Nat},us.length=c.length->(∀j (v:j<c.length),Jm s n (us.getD j .ID) c[j])->ws.length=its'.length->(∀j (v:j<its'.length),Jm s n (ws.getD j .ID) its'[j])->s.heap.get? a=a8 o->o.data=.seq c.toArray m->s.heap.get? a=a8 i->i.data=.seq its'.toArray q->us=ws:=by
   intro us ws c its' a o i m q l k f k' e d g d';rw[e]at g;cases g;rw[d]at d';injection d' with z _
   have:c=its':=by simpa using Ż ZY z
   subst this;show Đ ⋯ λj A B=>?_;have:=t (k j ⋯) (k' j ⋯);simpa[A,B] using this
  intro u w x h h';cases h with
  |tup l k y p =>
   cases h' with
   |tup f k' r b=>have(o,e,_,m,d):=p;have(i,g,_,q,d'):=b;rw[go l k f k' e d g d']
   |lst f k' r b=>show absurd rfl (ZU b p)
  |lst l k y p =>
   cases h' with
   |lst f k' r b=>have(o,e,_,m,d):=p;have(i,g,_,q,d'):=b;rw[go l k f k' e d g d']
   |tup f k' r b=>show absurd rfl (ZU p b)
  |_=>cases h';rfl
theorem jK:∀{us ws:List U},us.length≠ws.length->cS us ws=dV
 |[],[],h=>absurd rfl h
 |[],_::_,_=>rfl
 |_::_,[],_=>rfl
 |u::us,w::ws,h=>by
  rw[cS,jK (us:=us) (ws:=ws) (λe=>h (by simp[e])),P']
theorem fU:∀{us ws:List U},us.length=ws.length->cS us ws=(gA us.length).all λj=>cn (us.getD j .ID) (ws.getD j .ID)
 |[],[],_=>rfl
 |[],_::_,h=>by simp at h
 |_::_,[],h=>by simp at h
 |u::us,w::ws,h=>by
  have h':us.length=ws.length:=by simpa using h
  rw[cS,fU h',lg,SV,YA,UT];rfl
def GD{a its':List fx}(c:us.length=a.length)(d:ws.length=its'.length):cS us ws=((gA (min a.toArray.size its'.toArray.size)).all (λj=>cn (us.getD j .ID) (ws.getD j .ID))&&a.toArray.size==its'.toArray.size):=by
 simp only[lx];by_cases b:us.length=ws.length
 .rw[fU b,show min a.length its'.length=us.length by lia,show(a.length==its'.length)=c4 by simp;lia,Ri]
 .rw[jK b,show(a.length==its'.length)=dV by simp;lia,P']
def uM(b:Jm s n u y)(h:Þ A s y x k)(hs:y=x->k=c4):We A s y x k:=λprog w E Q a=>by
 unfold eqBool;show Ka ?_;show wpAny_ite_split (λc=>?_) (λ_=>?_)
 .rw[hs (YS c)]at a;show cc (S8 (d6 a))
 .cases b<;>show cc (h prog w E _ (LH a))
def Sy(r:∀m,m+1=n->∀{u w:U}{x f:fx}{A:Od},Jm s m u x->Jm s m w f->A.units+m<K'->We A s x f (cn u w))(h:Jm s n u x)(h':Jm s n w f)(v:A.units+n<K'):Þ A s x f (cn u w)/\ĵ A s x f (!cn u w):=by
 have a:A.units<K':=by lia
 have go:∀{m:Nat} {us ws:List U} {g its':List fx},m+1=n->(∀j (t:j<g.length),Jm s m (us.getD j .ID) g[j])->(∀j (t:j<its'.length),Jm s m (ws.getD j .ID) its'[j])->∀j (i:j<g.toArray.size) (o:j<its'.toArray.size),We A.in1 s g.toArray[j] its'.toArray[j] (cn (us.getD j .ID) (ws.getD j .ID)):=λ{m us ws g its'} e k k' j i o=>r m e (k j i) (k' j o) (by change A.units+1+m < _;lia);cases h with
 |ID =>
  cases h' with
  |ID=>show#[.none_none,.none_none]
  |bl=>show#[.none_bool _,.none_bool _]
  |int=>show#[.none_int _ _,.none_int _ _]
  |str=>show#[.none_str _ _,.none_str _ _]
  |tup c k' d b=>show#[.none_tuple b a,.none_tuple b a]
  |lst c k' d b=>show#[.none_list b a,.none_list b a]
 |bl =>
  cases h' with
  |ID=>show#[.bool_none _,.bool_none _]
  |bl=>show#[.bool_bool _ _,.bool_bool _ _]
  |int=>show#[.bool_int _ _ _,.bool_int _ _ _]
  |str=>show#[.bool_str _ _ _,.bool_str _ _ _]
  |tup c k' d b=>show#[.bool_tuple _ b a,.bool_tuple _ b a]
  |lst c k' d b=>show#[.bool_list _ b a,.bool_list _ b a]
 |int =>
  cases h' with
  |ID=>show#[.int_none _ _,.int_none _ _]
  |bl=>show#[.int_bool _ _ _,.int_bool _ _ _]
  |int=>show#[.int_int _ _ _ _,.int_int _ _ _ _]
  |str=>show#[.int_str _ _ _ _,.int_str _ _ _ _]
  |tup c k' d b=>show#[.int_tuple _ _ b a,.int_tuple _ _ b a]
  |lst c k' d b=>show#[.int_list _ _ b a,.int_list _ _ b a]
 |str =>
  cases h' with
  |ID=>show#[.str_none _ _,.str_none _ _]
  |bl=>show#[.str_bool _ _ _,.str_bool _ _ _]
  |int=>show#[.str_int _ _ _ _,.str_int _ _ _ _]
  |str=>show#[.str_str _ _ _ _,.str_str _ _ _ _]
  |tup c k' d b=>show#[.str_tuple _ _ b a,.str_tuple _ _ b a]
  |lst c k' d b=>show#[.str_list _ _ b a,.str_list _ _ b a]
 |tup l k y p =>
  cases h' with
  |ID=>show#[.tuple_none p a,.tuple_none p a]
  |bl=>show#[.tuple_bool _ p a,.tuple_bool _ p a]
  |int=>show#[.tuple_int _ _ p a,.tuple_int _ _ p a]
  |str=>show#[.tuple_str _ _ p a,.tuple_str _ _ p a]
  |tup c k' d b=>rw[show cn (.tup _) (.tup _)=_ from GD l c];show#[.tuples p b a (go rfl k k'),.tuples p b a (go rfl k k')]
  |lst c k' d b=>show#[.tuple_list p b a,.tuple_list p b a]
 |lst l k y p =>
  cases h' with
  |ID=>show#[.list_none p a,.list_none p a]
  |bl=>show#[.list_bool _ p a,.list_bool _ p a]
  |int=>show#[.list_int _ _ p a,.list_int _ _ p a]
  |str=>show#[.list_str _ _ p a,.list_str _ _ p a]
  |tup c k' d b=>show#[.list_tuple p b a,.list_tuple p b a]
  |lst c k' d b =>
   rename_i us _ _ ws _ _;by_cases q:us.length=ws.length
   .rw[show cn (.lst us) (.lst ws)=_ from fU q,l,<-lx];show#[.lists p b (by simp;lia) a (go rfl k k'),.lists p b (by simp;lia) a (go rfl k k')]
   .rw[show cn (.lst us) (.lst ws)=dV from jK q];show#[.lists_lengths p b (by simp;lia) a,.lists_lengths p b (by simp;lia) a]
def GF:∀{n:Nat}{u w:U}{x a:fx}{A:Od},Jm s n u x->Jm s n w a->A.units+n<K'->We A s x a (cn u w):=by
 intro n;induction n with
 |zero=>intro u w x a A h h' b;show uM h (Sy (λm e=>by cases e) h h' b).1 λe=>by subst e;rw[h.inj h'];show h'.self
 |succ n c=>intro u w x a A h h' b;show uM h (Sy (λm e=>by cases e;show c) h h' b).1 λe=>by subst e;rw[h.inj h'];show h'.self
def GG(h:Jm s n u x)(h':Jm s n w a)(b:A.units+n<K'):Þ A s x a (cn u w)/\ĵ A s x a (!cn u w):=Sy (λm e=>by cases e;show GF) h h' b
end
end TM
namespace TM
open PySem L2 PyProof.Rows
abbrev IG(C:Ct)(m:M (Kd×U)):TE:=λσ H Q=>∃a:Cf,a.σ=σ/\a.H=H/\Ok C a/\W m a.st λr st'=>∀c v,c.σ=σ->c.st=st'->Ok C c->Nx a c->aN C a c r.1 r.2 v->Q v c.H
abbrev JY(C:Ct)(m:M Bool):TT:=λσ H Q=>∃a:Cf,a.σ=σ/\a.H=H/\Ok C a/\W m a.st λb st'=>∀c,c.σ=σ->c.st=st'->Ok C c->Nx a c->Q b c.H
def cK(C:Ct)(a c:Cf):List (Kd×U)->List V->Prop
 |[],vs=>vs=[]
 |r::rs,vs=>∃v t,vs=v::t/\fS C a c r.1 r.2 v/\cK C a c rs t/\(r.1=.own->∀(i:Nat) b d,rs[i]?=a8 b->t[i]?=a8 d->b.1=.own->d≠v)
abbrev JP(C:Ct)(m:M (List (Kd×U))):TA:=λσ H Q=>∃a:Cf,a.σ=σ/\a.H=H/\Ok C a/\W m a.st λrs st'=>∀c vs,c.σ=σ->c.st=st'->Ok C c->Nx a c->cK C a c rs vs->Q vs c.H
section
def PE.weak(h:PE X e t)(i:∀σ H Q,t' σ H Q->t σ H Q):PE X e t':=λpins s σ H Q I q=>h pins s σ H Q I (i σ H Q q)
def PT.weak(h:PT X e t)(i:∀σ H Q,t' σ H Q->t σ H Q):PT X e t':=λpins s σ H Q I q=>h pins s σ H Q I (i σ H Q q)
def bj{st:ar}:W (ao rs) st Q↔bf rs st/\Q () st:=by
 constructor
 .rintro⟨a,st',e,h⟩;unfold ao at e;split at e
  .cases e;show#[by assumption,h]
  .cases e
 .rintro⟨b,c⟩;show#[(),st,by unfold ao;rw[ŵ b],c]
def cL{st:ar}:bf (r::rs) st↔bf [r] st/\bf rs st:=by
 have(k,u):=r;cases k<;>simp[bf]
def fS.t(h:fS C a c k u v)(s:bf [(k,u)] c.st):aN C a c k u v:=by
 cases k with
 |bor j=>show#[s.1,h]
 |_=>show h
structure N6(C:Ct)(c0 c:Cf)(x y:Kd×U)(vx vy:V):Prop where
 hσ:c.σ=c0.σ
 ok:Ok C c
 nx:Nx c0 c
 rx:aN C c0 c x.1 x.2 vx
 ry:aN C c0 c y.1 y.2 vy
 ne:x.1=.own->y.1=.own->vy≠vx
def iC(h:fS C j b k u v)(h':fS C b c k' u' d):k=.own->k'=.own->d≠v:=by
 rintro rfl rfl e;have(r,f,_,_,_,g):=h;have(l,i,a,_):=h';have(o,ho,_):=g.some;subst f;rw[i]at e;cases e;rw[ho]at a;cases a
def two{k:Kd×U->Kd×U->M β}{Post:β->ar->Prop}{f:fx->fx->Sem α}{Q':fx->fx->α->i4->Prop}(N:PE X a (IG C O))(Q:PE X b (IG C z))(I:Inv X pins d.σ d.H s)(ok:Ok C d)
  (h:W (O >>= λx=>z >>= λy=>ao [x,y] >>= λ_=>k x y) d.st Post)
  (T:∀x y c g j v u s2,N6 C d c x y g j->Inv X pins c.σ c.H s2->RelV g v->RelV j u->W (k x y) c.st Post->js (mn X.prog X.w) X.A (f v u) (Q' v u) X.xe s2) :
  js (mn X.prog X.w) X.A (MM a X.env) (λv Y=>js (mn X.prog X.w) X.A (MM b X.env) (λu s₂=>js (mn X.prog X.w) X.A (f v u) (Q' v u) X.xe s₂) X.xe Y) X.xe s:=by
 rw[aj]at h;show IF (N pins s d.σ d.H (λg B=>∃x e,e.H=B/\e.σ=d.σ/\Ok C e/\Nx d e/\aN C d e x.1 x.2 g/\W (z >>= λy=>ao [x,y] >>= λ_=>k x y) e.st Post) I ⟨d,rfl,rfl,ok,h.mono λx st1 n e g o e2 p q r=>#[x,e,rfl,o,p,q,r,by rw[e2];show n]⟩) ?_;rintro v s1 ⟨g,B,I1,rv,x,e,rfl,o,p,q,r,n⟩;rw[aj]at n;show IF (Q pins s1 d.σ e.H (λj D=>∃y i,i.H=D/\N6 C d i x y g j/\W (k x y) i.st Post) I1 ⟨e,o,rfl,p,n.mono λy st2 l i j G e4 I_ J L=>?_⟩) ?_
 .rw[aj,bj]at l;subst e4;rw[cL]at l;show#[y,i,rfl,#[G,I_,q.trans J,(r.w.on p J (G.trans o.symm)).t l.1.1,(L.from q),iC r.w L.w],l.2]
 .rintro u s2 ⟨j,D,I2,ru,y,i,rfl,m,l⟩;have hs:i.σ=d.σ:=m.hσ;show T x y i g j v u s2 m (by rw[hs];show I2) rv ru l
structure KJ(C:Ct)(c0 c:Cf)(x:Kd×U)(vx:V):Prop where
 hσ:c.σ=c0.σ
 ok:Ok C c
 nx:Nx c0 c
 rx:aN C c0 c x.1 x.2 vx
abbrev bS(C:Ct)(a:Cf)(Q:VK)(r:Kd×U)(st':ar):Prop:=∀c v,c.σ=a.σ->c.st=st'->Ok C c->Nx a c->aN C a c r.1 r.2 v->Q v c.H
section
def bS.flat(h:bS C a Q (.loc,u) c.st)(b:c.σ=a.σ)(ok:Ok C c)(n:Nx a c)(r:Rep C c.S c.H u v):Q v c.H:=h c v b rfl ok n r
def bS.list(h:bS C a Q (.own,.lst us) c.st)(b:c.σ=a.σ)(ok:Ok C c)(n:Nx a c)(r:aq C c.S c.H us vs)(p:k9)(d:c.H p=cb):Q (.ref p) (upd c.H p (.lst vs)):=by
 have(e,f,g):=ok.newList n d r;show h {c with H:=upd c.H p (.lst vs)} _ b rfl e f g
def bS.tup(h:bS C a Q (.loc,.tup us) c.st)(b:c.σ=a.σ)(ok:Ok C c)(n:Nx a c)(r:aq C c.S c.H us vs)(p:k9)(d:c.H p=cb):Q (.ref p) (upd c.H p (.tup vs)):=by
 have(e,f,g):=ok.yz n d r;show h {c with H:=upd c.H p (.tup vs)} _ b rfl e f g
def bS.tupK(h:bS C b Q (kE k,.tup us) c.st)(d:c.σ=b.σ)(ok:Ok C c)(n:Nx b c)(r:aq C (SK C c k) c.H us vs)(p:k9)(e:c.H p=cb):Q (.ref p) (upd c.H p (.tup vs)):=by
 have(f,a):=ok.lay (o:=.tup vs) e;show h {c with H:=upd c.H p (.tup vs)} _ d rfl f (n.trans a) (aN.item ?_);cases k<;>show#[p,vs,rfl,Jj.of aO,by first|show r.mv (ok.OT a)|show r.mv (ok.mv a)]
def du(h:gS k us=c4)(r:aq C (SK C c k) c.H us vs):aq C c.S c.H us vs:=by
 cases k with
 |any=>show r.Jb (by simpa[gS,isAny] using h)
 |_=>show r
end
def Ew(k k':Kd):∀a,SK C c k a->SK C c (kT k k') a:=by
 intro a h;cases k<;>cases k'<;>first|show h|show .inr h
def Bv(k k':Kd):∀a,SK C c k' a->SK C c (kT k k') a:=by
 intro a h;cases k<;>cases k'<;>first|show h|show .inr h
def GH(k k':Kd):kE (kT k k')=kT k k':=by cases k<;>cases k'<;>rfl
def Bw:JK X (Sr .Add) (λx y H Q=>∃l b xs c,x=.ref l/\y=.ref b/\Jo X.K H l xs/\Jo X.K H b c/\xs.length+c.length<=eh/\∀p,H p=cb->Q (.ref p) (upd H p (.lst (xs++c)))):=by
 intro pins s σ H x y v u Q I m o h;have(l,b,xs,c,rfl,rfl,t,w,hz,q):=h;cases m;cases o;have(d,r,A,z):=I.list t;have(e,f,B,L):=I.list w;have hl:=r.length;have LY:=f.length;have((cls,dd,data,C),ho,g,n,i):=A.isList;have((N,D,data2,G),j,k,J,a):=B.isList;simp only at g i k a;subst g i k a;show Zm #[_,ho,rfl] #[_,j,rfl] noFill_list_add seq_list_add PySem.F.slot_list_add PySem.F.entry_list_add (PySem.F.args_list_add_2 _ _)
   (list_addW l b d.toArray e.toArray n J dd D C G (by rw[lx,lx];lia)) #[ho,j,?_]
 have ea:d.toArray++e.toArray=(d++e).toArray:=by simp
 rw[ea];show#[.ref _,_,I.Gh (t':=s.toks) (r.append f) (by rw[ko];lia),rfl,q _ I.fresh]
end
section
variable{X:Cx}{C:Ct}{pins:List (k9×Obj)}{s:i4}{c0 c:Cf}{Q:VK}
def yI:JK X (Sr .Add) (λx y H Q=>∃a b e,x=.ref a/\y=.ref b/\Jj X.K H a []/\Jj X.K H b e/\Q (.ref b) H):=by
 intro pins s σ H x y v u Q I k l h;have(a,b,e,rfl,rfl,m,o,q):=h;cases k;cases l;have(B,p,p1,_):=I.tuple m;have(r,D,p2,_):=I.tuple o;cases p;have((cls,dd,data,t),ho,f,n,g):=id p1;have((G,w,data2,z),i,j,A,d):=id p2;simp only at f g j d;subst f g j d;show Zm #[_,ho,rfl] #[_,i,rfl] ZC Ø PySem.F.slot_tuple_add PySem.F.entry_tuple_add (PySem.F.args_tuple_add_2 _ _)
   (tuple_addW0 a b _ r.toArray n A dd w t z (by rfl)) #[ho,i,.ref b,H,I,rfl,q]
abbrev QS.op:QS->Operator
 |.add=>.Add|.sub=>.Sub|.mul=>.Mult|.J7=>.FloorDiv|.mod=>.Mod|.pow=>.Pow
theorem uN{S:k9->Prop}(h:aq C S H us vs):∀k:Nat,aq C S H (mh k us).flatten (mh k vs).flatten
 |0=>rfl
 |k+1=>by
  rw[Pc,Pc,PN,PN];show h.append (uN h k)
def Bx:JK X (Sr .Mult) (λx y H Q=>∃l k xs,x=.ref l/\y=.int k/\Rd H l (.lst xs)/\-(2 ^ 63)<=k/\k<2 ^ 63/\xs.length * k.toNat<=eh/\∀p,H p=cb->Q (.ref p) (upd H p (.lst (mh k.toNat xs).flatten))):=by
 intro pins s σ H x y v u Q I i j h;have(l,k,xs,rfl,rfl,o,w,A,hz,q):=h;cases i;have(t,rfl):=j;have(z,b,n,r,e):=o.ok I.IE;have hl:=r.length;have d:b.toArray.size * k.toNat<=eh:=by rw[lx,<-hl];show hz
 have B:¬b.toArray.size * k.toNat>(2 ^ 63 - 1) / 8:=by
  have:(eh:Nat)<=(2 ^ 63 - 1) / 8:=by decide
  lia
 have D:¬(!Ŝ k)=c4:=by
  rw[fitsIndex_both w A];show my
 have G:¬Ny (b.toArray.size * k.toNat)=c4:=by
  rw[ql d];show my
 have J:ì (λf g=>f++g) #v[] (mh (if b.toArray.isEmpty=c4 then 0 else k.toNat) b.toArray)=(mh k.toNat b).flatten.toArray:=by
  have L:∀m:Nat,ì (λf g=>f++g) #v[] (mh m b.toArray)=(mh m b).flatten.toArray:=λm=>by
   have:=foldl_rep b m [];rw[HH]at this;show this
  rw[L];cases b with
  |nil=>simp
  |cons a N=>rw[Ÿ (by simp)]
 show wpAny_binaryOp_repeat_ref (T:="list") (U:="int") (by decide) #[_,e,rfl] (λs'=>ı s' k t) noFill_list_mul F.fills_int_mul Ň repeat_list F.slot_int_index.lookup
  (Sq Ň (ı s k t) F.entry_int_rmul (F.args_int_rmul_2 _ _) (int___rmul___int_list k t l b.toArray n)
   ⟨e,rfl,⟨_,e,rfl⟩,Sq F.slot_list_mul ⟨_,e,rfl⟩ F.entry_list_mul (F.args_list_mul_2 _ _) (AutoListH.list___mul___list_int_3 l b.toArray n k t D B G) ⟨e,?_⟩⟩)
 rw[J];show#[.ref _,_,I.Gh (t':=s.toks) (r.rep k.toNat) (by rw[len_rep,ŕ];show hz),rfl,q _ I.fresh]
def eN(h:pk f a b=a8 r):∃i j o,a=.int i/\b=.int j/\f i j=a8 o/\r=(.loc,.int o):=by
 unfold pk at h;split at h
 .rw[hQ]at h;have(o,e,rfl):=h;show#[_,_,o,rfl,rfl,e,rfl]
 .cases h
def Ey(O:C.K=X.K)(t:N6 C c0 c x y f g)(I:Inv X pins c.σ c.H s)(m:RelV f v)(z:RelV g u)(h:Kh op x y=a8 r)(q:bS C c0 Q r c.st):
  js (mn X.prog X.w) X.A (Sr op.op v u) (EP X pins c.σ Q) X.xe s:=by
 have(l,ok,n,B,ty,_):=t;cases op with
 |add =>
  have h:wu x y=a8 r:=h;unfold wu at h;split at h
  .have ex:=B.int ok;have d:=ty.int ok;cases h;show cR pins s c.σ c.H f g v u Q I m z #[_,_,ex,d,q.flat l ok n rfl]
  .have ex:=B.str ok;have d:=ty.str ok;split at h
   .cases h;show rQ pins s c.σ c.H f g v u Q I m z #[_,_,ex,d,by assumption,q.flat l ok n rfl]
   .cases h
  .have(a,vs,ex,G,D):=B.list ok;have(b,ws,d,N,J):=ty.list ok;split at h
   .rename_i hh;cases h;show Bw pins s c.σ c.H f g v u Q I m z #[a,b,vs,ws,ex,d,O▸G,O▸N,by rw[<-D.len,<-J.len];show hh.1,λp L=>q.list l ok n ((du hh.2.1 D).append (du hh.2.2 J)) p L]
   .cases h
  .rename_i k xs k' T _ _;have(a,vs,ex,G,D):=B.tuple ok;have(b,ws,d,N,J):=ty.tuple ok;have Y:=G;have OF:=N;rw[O]at Y OF;split at h
   .rename_i hh;cases h;have m1:aq C (SK C c (kT k k')) c.H xs vs:=D.mv (.up (Ew k k'));have m2:aq C (SK C c (kT k k')) c.H T ws:=J.mv (.up (Bv k k'));have q':bS C c0 Q (kE (kT k k'),.tup (xs++T)) c.st:=by rw[GH];show q
    by_cases e1:vs=[]
    .subst e1;show yI pins s c.σ c.H f g v u Q I m z #[a,b,ws,ex,d,Y,OF,?_];show q' c (.ref b) l rfl ok n (aN.item #[b,ws,rfl,N,?_]);have:xs=[]:=by have:=m1.len;simpa using this
     rw[this];show m2
    .show AW pins s c.σ c.H f g v u Q I m z #[a,b,vs,ws,ex,d,Y,OF,e1,by rw[<-D.len,<-J.len];show hh,λe2=>?_,λ_ p L=>q'.tupK l ok n (m1.append m2) p L];subst e2;show q' c (.ref a) l rfl ok n (aN.item #[a,vs,rfl,G,?_]);have:T=[]:=by have:=m2.len;simpa using this
     rw[this,D1];show m1
   .cases h
  .cases h
 |sub =>
  have(i,j,o,ex,d,e,rfl):=eN h;have ex:=(ex▸B).int ok;have d:=(d▸ty).int ok;cases e;show jB pins s c.σ c.H f g v u Q I m z #[_,_,ex,d,q.flat l ok n rfl]
 |mul =>
  by_cases hl:uG x.2=c4
  .have h:(if uG x.2=c4 then qR x y.2 else pk wx x.2 y.2)=a8 r:=h;rw[ŵ hl]at h;have(k',uy):=y;unfold qR at h;split at h
   .rename_i Mg n0 SE Yd h0;have SE:uy=.int n0:=SE;subst SE;have(a,ex,_,_,_,vs,G,D):=B;have d:=ty.int ok;split at h
    .rename_i hh;cases h;show Bx pins s c.σ c.H f g v u Q I m z #[a,_,vs,ex,d,.inl G,hh.1,hh.2.1,by rw[<-D.len];show hh.2.2,λp L=>q.list l ok n (uN D _) p L]
    .cases h
   .cases h
  have h:(if uG x.2=c4 then qR x y.2 else pk wx x.2 y.2)=a8 r:=h;rw[Ÿ hl]at h;have(i,j,o,ex,d,e,rfl):=eN h;have ex:=(ex▸B).int ok;have d:=(d▸ty).int ok;unfold wx at e;split at e
  .cases e;show kX pins s c.σ c.H f g v u Q I m z #[_,_,ex,d,by assumption,q.flat l ok n rfl]
  .cases e
 |J7 =>
  have(i,j,o,ex,d,e,rfl):=eN h;have ex:=(ex▸B).int ok;have d:=(d▸ty).int ok;unfold Bm at e;split at e
  .cases e;show AO pins s c.σ c.H f g v u Q I m z #[_,_,ex,d,by assumption,q.flat l ok n rfl]
  .cases e
 |mod =>
  have(i,j,o,ex,d,e,rfl):=eN h;have ex:=(ex▸B).int ok;have d:=(d▸ty).int ok;unfold Bn at e;split at e
  .cases e;show bu pins s c.σ c.H f g v u Q I m z #[_,_,ex,d,by assumption,q.flat l ok n rfl]
  .cases e
 |pow =>
  have(i,j,o,ex,d,e,rfl):=eN h;have ex:=(ex▸B).int ok;have d:=(d▸ty).int ok;unfold Bo at e;split at e
  .cases e;show ox pins s c.σ c.H f g v u Q I m z #[_,_,ex,d,by assumption,q.flat l ok n rfl]
  .cases e
def By(d:C.K=X.K)(f:PE X a (IG C g))(i:PE X b (IG C j)):PE X (.BinOp a op.op b pos) (IG C (g >>= λx=>j >>= λy=>ao [x,y] >>= λ_=>M.IT (Kh op x y))):=by
 rintro pins s σ H Q I ⟨c0,rfl,rfl,ok,h⟩;show wpAny_BinOp (two f i I ok h λx y c n o v u s2 t k l m w=>?_);have(r,e,q):=bO.mp w;show IF (Ey d t k l m e q) λ_ _ z=>by rw[t.hσ]at z;show z
abbrev P0.op:P0->CmpOp
 |.eq=>.Eq|.ne=>.NotEq|.lt=>.Lt|.le=>.LtE|.gt=>.Gt|.ge=>.GtE|.isin=>.In|.IL=>.NotIn|.is=>.Is|.N1=>.IsNot
def GI{f:Bool}(I:Inv X pins c.σ c.H s)(o:C.K=X.K)(T:X.A.units+60<K'){S:k9->Prop}(t:Rep C S c.H x r)(u:RelV r v)(z:aq C S c.H m vs)
  (ha:Jo C.K c.H a vs\/Jj C.K c.H a vs) (B:Kb 50 x=c4) (D:iA 50 m=c4) {Q:fx->i4->Prop} (q:Q (.bool (if f then !(m.any λy=>cn y x) else m.any λy=>cn y x)) s) :
  js (mn X.prog X.w) X.A (MF (if f then .NotIn else .In) v (.ref a)) Q X.xe s:=by
 have G:=Jm.of I o 50 x r v B t u;have go:∀d:List fx,Vals vs d->∃e:fx->Bool,(∀y,y∈d.toArray->We X.A.in1 s y v (e y))/\d.toArray.any e=m.any λy=>cn y x:=by
  intro d n;have(l,k,_):=Jm.Bu (Jm.of I o 50) D z n
  classical
  have q:∀j (b:j<d.length),ei (∃w,Jm s 50 w d[j]/\cn w x=c4)=cn (m.getD j .ID) x:=λj b=>by
   rw[uk,decide_eq_true_iff];show#[λ⟨w,g,i⟩=>by rw[<-g.inj (k j b)];show i,λh=>#[_,k j b,h]]
  show#[λy=>ei (∃w,Jm s 50 w y/\cn w x=c4),λy J=>?_,?_]
  .have(j,b,e):=UP (show y∈d by simpa using J);subst e;change We _ _ _ _ (decide _);rw[q j b];show GF (k j b) G (by change X.A.units+1+50 < _;lia)
  .rw[uk];simp only[List.any_toArray,Pj];constructor
   .rintro⟨y,L,h⟩;have(j,b,rfl):=UP L;rw[q j b]at h;show#[_,RT (l▸b),by simpa[l▸b] using h]
   .rintro⟨w,N,O⟩;have(j,b,rfl):=UP N;show#[_,RT (l▸b),by rw[q j (l▸b)];simpa[b] using O]
 rcases ha with ha|ha
 .have(d,n,p,_):=uL I (o▸ha);have(e,g,i):=go d n;cases f with
  |false=>show SeqAt.in_listAt e p g (by rw[i];show q)
  |true=>show SeqAt.notIn_listAt e p g (by rw[i];show q)
 .rw[o]at ha;have(d,n,p,_):=I.tuple ha;have(e,g,i):=go d n;cases f with
  |false=>show SeqAt.in_tupleAt e p g (by rw[i];show q)
  |true=>show SeqAt.notIn_tupleAt e p g (by rw[i];show q)
end
section
theorem bP:∀{us:List U}{ss:List Str},strsOf us=a8 ss->us=ss.map .str
 |[],ss,h=>by cases h;rfl
 |.str x::us,ss,h=>by
  simp only[strsOf,hQ]at h;have(t,a,rfl):=h;rw[bP a];rfl
 |.ID::_,_,h=>by cases h
 |.bl _::_,_,h=>by cases h
 |.int _::_,_,h=>by cases h
 |.tup _::_,_,h=>by cases h
 |.lst _::_,_,h=>by cases h
 |.JV _ _::_,_,h=>by cases h
 |.Jy _::_,_,h=>by cases h
theorem lM:∀{us:List U}{ss:List Bool},lF us=a8 ss->us=ss.map .bl
 |[],ss,h=>by cases h;rfl
 |.bl x::us,ss,h=>by
  simp only[lF,hQ]at h;have(t,a,rfl):=h;rw[lM a];rfl
 |.ID::_,_,h=>by cases h
 |.str _::_,_,h=>by cases h
 |.int _::_,_,h=>by cases h
 |.tup _::_,_,h=>by cases h
 |.lst _::_,_,h=>by cases h
 |.JV _ _::_,_,h=>by cases h
 |.Jy _::_,_,h=>by cases h
theorem aq.UY{S:k9->Prop}:∀{xs:List Bool}{vs:List V},aq C S H (xs.map .bl) vs->vs=xs.map V.bl
 |[],vs,h=>h
 |x::xs,vs,h=>by
  have(v,r,rfl,a,b):=h;rw[aq.UY b];have:v=.bl x:=a;rw[this];rfl
abbrev GJ(r:cO):U:=.tup [.str r.1,.tup (r.2.map .str)]
def iD(h:rowOf u=a8 r):u=GJ r:=by
 unfold rowOf at h;split at h
 .rw[hQ]at h;have(ss,a,rfl):=h;rw[bP a];rfl
 .cases h
abbrev Ez(X:Cx)(pins:List (k9×Obj))(c:Cf)(b:Bool)(v:fx)(s':i4):Prop:=v=.bool b/\Inv X pins c.σ c.H s'
def bY(o:JK X f r)(I:Inv X pins c.σ c.H s)(e:RelV a v)(g:RelV d u)(h:r a d c.H λx H'=>x=.bl b/\H'=c.H):
  js (mn X.prog X.w) X.A (f v u) (Ez X pins c b) X.xe s :=
 IF (o pins s c.σ c.H a d v u _ I e g h) λw s' i=>by
  have(z,H',j,r,k,l):=i;subst k l;show#[r,j]
def aN.dict(ok:Ok C c)(h:aN C l c k (.JV i us) v):∃a b,v=.ref a/\c.H a=a8 (.dK b)/\b.map (·.1)=i.map Ot/\aq C (SK C c k) c.H us (b.map (·.2)):=by
 cases k with
 |own=>have(r,e,_,_,_,b,d,f,g):=h;show#[r,b,e,d,f,g]
 |bor j=>have(r,e,_,_,_,b,d,f,g):=ok.rootOf h.1 h.2;show#[r,b,e,d,f,g]
 |io=>show h.elim
 |IH=>show h.elim
 |_=>have(a,e,_,b,d,f,g):=h;show#[a,b,e,d,f,g]
def aN.uF(ok:Ok C c)(h:aN C d c k (.Jy b) v):∃a,v=.ref a/\fC C.P C.w C.K c.H a b:=by
 cases k with
 |own=>have(r,e,_,_,_,h):=h;show#[r,e,h]
 |bor j=>have(r,e,_,_,_,h):=ok.rootOf h.1 h.2;show#[r,e,h]
 |io=>show h.elim
 |IH=>show h.elim
 |_=>have(a,e,_,h):=h;show#[a,e,h]
theorem jL{S:k9->Prop}:∀{c:List Str}{us:List U}{b:List (Key×V)},b.map (·.1)=c.map Ot->aq C S H us (b.map (·.2)) ->
  (∀u,yB c us x=a8 u->∃v,iQ b (Ot x)=a8 v/\Rep C S H u v)/\(iQ b (Ot x)).isSome=ei (x∈c)
 |[],us,b,a,d=>by
  have:b=[]:=by simpa using a
  subst this;show#[λu h=>by cases us<;>simp[yB]at h,by simp[iQ]]
 |k::c,us,[],a,d=>by simp at a
 |k::c,[],p::b,a,d=>by simp[aq]at d
 |k::c,m::us,p::b,a,d=>by
  have(v,r,e,g,i):=d;rw[mu]at e;cases e;rw[mu,mu,YM]at a;have(j,l):=jL (x:=x) a.2 i;by_cases hk:k=x
  .subst hk;show#[λu h=>?_,?_]
   .simp[yB]at h;subst h;show#[p.2,fL a.1,g]
   .rw[fL a.1];simp
  .have f:¬p.1=Ot x:=by rw[a.1];intro z;show hk (ZQ z)
   show#[λu h=>?_,?_]
   .simp[yB,hk]at h;have(v,e,q):=j u h;show#[v,by rw[fM f];show e,q]
   .rw[fM f,l];simp[Mk hk]
def EA(e:X.A.units+3<K'):JK X (MF .In) (λx y H Q=>∃k d c,eJ X.K H x k/\y=.ref d/\fC X.prog X.w X.K H d c/\Q (.bl (ei (k∈c))) H):=by
 intro pins s σ H x y v u Q I f g h;have(k,d,c,(a,b,rfl,i,j),rfl,(xs,l,m,n),q):=h;cases f;cases g;have(o,dd):=ll I l n;show wpAny_in_heap e (iW I #[a,b,rfl,i,j]) o dd ?_;show#[.bl (ei (k∈c)),H,I.tok _,by rw[il,m];rfl,q]
def Rep.row{S:k9->Prop}(h:Rep C S H (GJ r) v):eJ C.K H v r:=by
 have(a,vs,e,d,f,p,g,i,q,s,j,k,l):=h;cases l;have m:f=.str r.1:=i;have(b,ws,n,o,c):=k;rw[aq.strs]at c;subst g j m n c;show#[a,b,e,d,o]
def Rep.nN{S:k9->Prop}(h:Rep C S H u v):ei (v=.ID)=nN u:=by
 cases u with
 |ID=>have:v=.ID:=h;subst this;rfl
 |bl b=>have:v=.bl b:=h;subst this;rfl
 |int b=>have:v=.int b:=h;subst this;rfl
 |str b=>have:v=.str b:=h;subst this;rfl
 |JV c us=>have(a,rfl,_):=h;rfl
 |Jy c=>have(a,rfl,_):=h;rfl
 |_=>have(a,vs,rfl,_):=h;rfl
def yJ:JK X (MF .Is) (λx y H Q=>∃i j,x=.bl i/\y=.bl j/\Q (.bl (i==j)) H):=by
 intro pins s σ H x y v u Q I a b h;have(i,j,rfl,rfl,q):=h;cases a;cases b;cases i<;>cases j<;>show d6 (jC I q rfl)
def sJ:JK X (MF .IsNot) (λx y H Q=>∃i j,x=.bl i/\y=.bl j/\Q (.bl (!(i==j))) H):=by
 intro pins s σ H x y v u Q I a b h;have(i,j,rfl,rfl,q):=h;cases a;cases b;cases i<;>cases j<;>show d6 (jC I q rfl)
def jM(O:C.P=X.prog)(Q:C.w=X.w)(l:C.K=X.K)(J:X.A.units+60<K')(t:N6 C c0 c x y q L)(I:Inv X pins c.σ c.H s)(d:RelV q v)(f:RelV L u)(h:bg op x.2 y.2=a8 b):
  js (mn X.prog X.w) X.A (MF op.op v u) (Ez X pins c b) X.xe s:=by
 have(hσ,ok,n,i,ty,_):=t;have(kx,T):=x;have(ky,Y):=y
 dsimp only at h i ty
 have has:∀g:Bool,∀o,yA T Y=a8 o->js (mn X.prog X.w) X.A (MF (if g then .NotIn else .In) v u) (Ez X pins c (if g then !o else o)) X.xe s:=by
  intro g o h;have mx:=i.read ok;have B:=ty.read ok;unfold yA at h;split at h
  .have(a,vs,rfl,j,m):=B;cases f;unfold MS at h;split at h
   .rename_i hh;cases h;show GI I l J mx d m (.inl j.sq) hh.1 hh.2 #[by cases g<;>rfl,I]
   .cases h
  .have(a,vs,rfl,j,m):=B;cases f;unfold MS at h;split at h
   .rename_i hh;cases h;show GI I l J mx d m (.inr j) hh.1 hh.2 #[by cases g<;>rfl,I]
   .cases h
  .cases h;have ex:q=_:=mx;have N:L=_:=B;cases g with
   |false=>show bY vU I d f #[_,_,ex,N,rfl,rfl]
   |true=>show bY oE I d f #[_,_,ex,N,rfl,rfl]
  .cases h;have ex:q=_:=mx;have(a,B',rfl,j,m,p):=ty.dict ok;cases f;subst ex;have hs:=λz:Str=>(jL (x:=z) m p).2;cases g with
   |false=>show Ic ⋯ I (wa.k (k:=Ot _) j) d λs' D=>#[by rw[hs];rfl,D]
   |true=>show A4 ⋯ I (wa.k (k:=Ot _) j) d λs' D=>#[by rw[hs];rfl,D]
  .rw[hQ]at h;have(r,j,m):=h;have e:=iD j;subst e;have G:=mx.row;have(a,ea,p):=ty.uF ok;rw[l]at G p;rw[O,Q]at p;subst m;cases g with
   |false=>show bY (EA ⋯) I d f #[r,a,_,G,ea,p,rfl,rfl]
   |true=>show bY (wg ⋯) I d f #[r,a,_,G,ea,p,rfl,rfl]
  .cases h
 unfold bg at h;split at h
 .split at h
  .rename_i hh;cases h;show(GG (n:=50) (.of I l _ _ _ _ hh.1 (i.read ok) d) (.of I l _ _ _ _ hh.2 (ty.read ok) f) ⋯).1 _ _ _ _ #[rfl,I]
  .cases h
 .split at h
  .rename_i hh;cases h;show(GG (n:=50) (.of I l _ _ _ _ hh.1 (i.read ok) d) (.of I l _ _ _ _ hh.2 (ty.read ok) f) ⋯).2 _ _ _ _ #[rfl,I]
  .cases h
 .cases h;show bY F0 I d f #[_,_,i.int ok,ty.int ok,rfl,rfl]
 .cases h;show bY F6 I d f #[_,_,i.int ok,ty.int ok,rfl,rfl]
 .cases h;show bY F7 I d f #[_,_,i.int ok,ty.int ok,rfl,rfl]
 .cases h;show bY F8 I d f #[_,_,i.int ok,ty.int ok,rfl,rfl]
 .cases h;show bY vT I d f #[_,_,i.str ok,ty.str ok,rfl,rfl]
 .cases h;show bY we I d f #[_,_,i.str ok,ty.str ok,rfl,rfl]
 .show has dV b h
 .rw[hQ]at h;have(o,j,rfl):=h;show has c4 o j
 .cases h;have e:=ty.ID ok;show bY DP I d f #[e,by rw[(i.read ok).nN],rfl]
 .cases h;have e:=ty.ID ok;show bY AQ I d f #[e,by rw[(i.read ok).nN],rfl]
 .cases h;show bY yJ I d f #[_,_,i.bl ok,ty.bl ok,rfl,rfl]
 .cases h;show bY sJ I d f #[_,_,i.bl ok,ty.bl ok,rfl,rfl]
 .cases h
def Bz(d:C.P=X.prog)(f:C.w=X.w)(g:C.K=X.K)(i:X.A.units+60<K')(j:PE X a (IG C k))(l:PE X b (IG C m))(n:Ù op.op b=dV):
  PE X (.Compare a [op.op] [b] pos) (IG C (k >>= λx=>m >>= λy=>ao [x,y] >>= λ_=>M.IT (bg op x.2 y.2) >>= λc=>pure (.loc,.bl c))):=by
 rintro pins s σ H Q I ⟨J,rfl,rfl,ok,h⟩;show wpAny_Compare1 (two j l I ok h λx y c L N v u s2 t o p B w=>?_) n;rw[aj]at w;have(r,e,q):=bO.mp w;rw[ak]at q;show IF (jM d f g i t o p B e) λz s' D=>?_;have(e,G):=D;subst e;show#[.bl r,c.H,by rw[<-t.hσ];show G,rfl,q c (.bl r) t.hσ rfl t.ok t.nx rfl]
def BA(d:C.P=X.prog)(g:C.w=X.w)(i:C.K=X.K)(j:X.A.units+60<K')(k:PE X a (IG C l))(m:PE X b (IG C n))(o:Ù op.op b=dV):
  PT X (.Compare a [op.op] [b] pos) (JY C (l >>= λx=>n >>= λy=>ao [x,y] >>= λ_=>M.IT (bg op x.2 y.2))):=by
 rintro pins s σ H Q I ⟨p,rfl,rfl,ok,h⟩;show wpAny_isTrue_Compare1 (two (f:=λv u=>MF op.op v u) (Q':=λ_ _ c s=>js (mn X.prog X.w) X.A (š c) (TP X pins p.σ Q) X.xe s) k m I ok h λx y c N O v u s2 t B D G w=>?_) o;have(r,e,q):=bO.mp w;show IF (jM d g i j t B D G e) λz s' J=>?_;have(e,L):=J;subst e;show LH #[c.H,by rw[<-t.hσ];show L,q c t.hσ rfl t.ok t.nx]
end
section
abbrev C4(C:Ct)(a:Cf)(Q:Bool->Hp->Prop)(b:Bool)(st':ar):Prop:=∀c,c.σ=a.σ->c.st=st'->Ok C c->Nx a c->Q b c.H
def yK(c:a.σ=b.σ)(ok:Ok C a)(n:Nx b a)(h:W m a.st (bS C b Q)):IG C m b.σ a.H Q :=
 #[a,c,rfl,ok,h.mono λr st d e v f g i j k=>d e v f g i (n.trans j) (k.from n)]
def yL(c:a.σ=b.σ)(ok:Ok C a)(n:Nx b a)(h:W m a.st (C4 C b Q)):JY C m b.σ a.H Q :=
 #[a,c,rfl,ok,h.mono λr st d e f g i j=>d e f g i (n.trans j)]
def aT(ok:Ok C a)(h:W (b >>= k) a.st Post)
  (hz:∀x c v,KJ C a c x v->W (k x) c.st Post->Z v c.H):IG C b a.σ a.H Z:=by
 rw[aj]at h;show#[a,rfl,rfl,ok,h.mono λx st1 d e f g i j l m=>hz x e f #[g,j,l,m] (by rw[i];show d)]
def fV(ok:Ok C a)(h:W (d >>= k) a.st Post)
  (hz:∀b c,c.σ=a.σ->Ok C c->Nx a c->W (k b) c.st Post->Z b c.H):JY C d a.σ a.H Z:=by
 rw[aj]at h;show#[a,rfl,rfl,ok,h.mono λx st1 e f g i j l=>hz x f g j l (by rw[i];show e)]
abbrev GK(m:M (Kd×U))(x:Kd×U):M (Kd×U):=match x.2 with
 |.bl c4=>m
 |.bl dV=>pure (.loc,.bl dV)
 |_=>M.fail
abbrev UZ(m:M (Kd×U))(x:Kd×U):M (Kd×U):=match x.2 with
 |.bl c4=>pure (.loc,.bl c4)
 |.bl dV=>m
 |_=>M.fail
abbrev GL(x:Kd×U):M (Kd×U):=match x.2 with
 |.bl c=>pure (.loc,.bl !c)
 |_=>M.fail
def snd_and(g:PE X a (IG C i))(j:PE X (.BoolOp .And (b::rest) pos) (IG C l)):PE X (.BoolOp .And (a::b::rest) pos) (IG C (i >>= GK l)):=by
 show PE.weak (DF g j) ?_;rintro σ H Q ⟨m,rfl,rfl,ok,h⟩;show aT ok h λx c v t w=>?_;have(k,u):=x;have(f,d,n,r):=t;unfold GK at w;split at w
 .rename_i e
  dsimp only at e r
  subst e;show#[c4,r.bl d,by rw[ŵ rfl];show yK f d n w]
 .rename_i e
  dsimp only at e r
  subst e;rw[ak]at w;show#[dV,r.bl d,by rw[Ÿ my];show w c (.bl dV) f rfl d n rfl]
 .show(a9.mp w).elim
def EB(g:PE X a (IG C i))(j:PE X (.BoolOp .Or (b::rest) pos) (IG C l)):PE X (.BoolOp .Or (a::b::rest) pos) (IG C (i >>= UZ l)):=by
 show PE.weak (FO g j) ?_;rintro σ H Q ⟨m,rfl,rfl,ok,h⟩;show aT ok h λx c v t w=>?_;have(k,u):=x;have(f,d,n,r):=t;unfold UZ at w;split at w
 .rename_i e
  dsimp only at e r
  subst e;rw[ak]at w;show#[c4,r.bl d,by rw[ŵ rfl];show w c (.bl c4) f rfl d n rfl]
 .rename_i e
  dsimp only at e r
  subst e;show#[dV,r.bl d,by rw[Ÿ my];show yK f d n w]
 .show(a9.mp w).elim
def BB(d:PE X a (IG C f)):PE X (.UnaryOp .Not a pos) (IG C (f >>= GL)):=by
 show PE.weak (DG d) ?_;rintro σ H Q ⟨i,rfl,rfl,ok,h⟩;show aT ok h λx c v t w=>?_;have(k,u):=x;have(g,b,n,r):=t;unfold GL at w;split at w
 .rename_i e
  dsimp only at e r
  subst e;rw[ak]at w;show#[_,r.bl b,w c (.bl _) g rfl b n rfl]
 .show(a9.mp w).elim
def BC(d:PE X a (IG C f)):PE X (.UnaryOp .USub a pos) (IG C (f >>= λx=>M.IT (Br x))):=by
 show PE.weak (xN rO d) ?_;rintro σ H Q ⟨i,rfl,rfl,ok,h⟩;show aT ok h λx c v t w=>?_;have(k,u):=x;have(g,b,n,r):=t;have(j,e,w):=bO.mp w;unfold Br at e;split at e
 .rename_i q;cases q;cases e;show#[_,r.int b,w c (.int _) g rfl b n rfl]
 .cases e
def BD(d:PT X a (JY C e)):PT X (.UnaryOp .Not a pos) (JY C (e >>= λb=>pure !b)):=by
 show PT.weak (DE d) ?_;rintro σ H Q ⟨i,rfl,rfl,ok,h⟩;show fV ok h λp c f g n w=>?_;rw[ak]at w;show w c f rfl g n
def BE(g:PT X a (JY C i))(j:PW X (.BoolOp .And (b::rest) pos) (JY C k)):PW X (.BoolOp .And (a::b::rest) pos) (JY C (i >>= λp=>if p=c4 then k else pure dV)):=by
 have l:=DC g j;rintro m pins s σ H Q I ⟨d,rfl,rfl,ok,h⟩;show l m pins s d.σ d.H Q I (fV ok h λp c e f n w=>?_);cases p with
 |true=>rw[ŵ rfl]at w ⊢;show yL e f n w
 |false=>rw[Ÿ my]at w ⊢;rw[ak]at w;show w c e rfl f n
def EC(g:PT X a (JY C i))(j:PW X (.BoolOp .Or (b::rest) pos) (JY C k)):PW X (.BoolOp .Or (a::b::rest) pos) (JY C (i >>= λp=>if p=c4 then pure c4 else k)):=by
 have l:=FK g j;rintro m pins s σ H Q I ⟨d,rfl,rfl,ok,h⟩;show l m pins s d.σ d.H Q I (fV ok h λp c e f n w=>?_);cases p with
 |true=>rw[ŵ rfl]at w ⊢;rw[ak]at w;show w c e rfl f n
 |false=>rw[Ÿ my]at w ⊢;show yL e f n w
def uO{us:List α}{vs:List β}(h:us.length=vs.length):(!us.isEmpty)=!vs.isEmpty:=by
 cases us<;>cases vs<;>simp_all
def kL(j:PE X a (IG C l))(i:C.K=X.K)(m:∀b,isTrue a X.env b=(do let v <-b;ñ a.pos;TX [v] (š v))):PT X a (JY C (l >>= λx=>M.IT (wz x.2))):=by
 show PT.weak (xO j m) ?_;rintro σ H Q ⟨s,rfl,rfl,ok,h⟩;show aT ok h λx c v t w=>?_;have(k,u):=x;have(o,d,n,r):=t;have(p,e,q):=bO.mp w
 dsimp only at e r
 show#[p,?_,q c o rfl d n];unfold wz at e;split at e
 .cases e;rw[r.bl d];rfl
 .cases e;have(a,vs,rfl,f,g):=r.list d;show .inl #[vs,i▸f,uO g.len]
 .cases e;have(a,vs,rfl,f,g):=r.tuple d;rw[i]at f;show .inr (.inl #[vs,f,uO g.len])
 .split at e
  .cases e;rw[r.str d];show#[by assumption,rfl]
  .cases e
 .cases e
def yM(l:C.P=X.prog)(m:C.w=X.w)(n:C.K=X.K)(o:X.A.units+60<K')(Y:PE X a (IG C ma))(hb:PE X b (IG C mb))(hd:PE X d (IG C md))(hm:ō [o1.op,o2.op] [b,d]=dV):
  PE X (.Compare a [o1.op,o2.op] [b,d] pos) (IG C (ma >>= λx=>mb >>= λy=>ao [x,y] >>= λ_=>M.IT (bg o1 x.2 y.2) >>= λp=>if p=c4 then(md >>= λz=>ao [y,z] >>= λ_=>M.IT (bg o2 y.2 z.2) >>= λq=>pure (.loc,.bl q)) else pure (.loc,.bl dV))):=by
 rintro pins s σ H Q I ⟨r,rfl,rfl,ok,h⟩;show Compare_chain (IF (two Y hb I ok h λx y c vx vy v u s2 t I2 rx B w=>?_) λv s1 h1=>chain_link (IF h1 λu s2 f=>f)) hm;rw[aj]at w;have(p,e,q):=bO.mp w;show IF (jM l m n o t I2 rx B e) λz s' SH=>?_;have(e,D):=SH;subst e;show LH ?_;cases p with
 |false =>
  rw[Ÿ my,ak]at q;show ite_ff #[.bl dV,c.H,by rw[<-t.hσ];show D,rfl,q c (.bl dV) t.hσ rfl t.ok t.nx rfl]
 |true =>
  rw[ŵ rfl,aj]at q;show ite_tt (chain_last (IF (hd pins s' c.σ c.H (λj G=>∃z g,g.H=G/\N6 C r g y z vy j/\W (M.IT (bg o2 y.2 z.2) >>= λq=>pure (.loc,.bl q)) g.st (bS C r Q)) D ⟨c,rfl,rfl,t.ok,q.mono λz st2 f g j J k I_ L N=>?_⟩) ?_))
  .rw[aj,bj]at f;subst k;rw[cL]at f;show#[z,g,rfl,#[J.trans t.hσ,I_,t.nx.trans L,(t.ry.w.on t.ok L J).t f.1.1,N.from t.nx,iC t.ry.w N.w],f.2]
  .rintro zv s3 ⟨j,G,I3,rz,z,g,rfl,i,f⟩;rw[aj]at f;have(O,e',T):=bO.mp f;rw[ak]at T;show IF (jM (pins:=pins) l m n o i (by rw[i.hσ,<-t.hσ];show I3) B rz e') λz' s4 SJ=>?_;have(k,I4):=SJ;subst k;show#[.bl O,g.H,by rw[<-i.hσ];show I4,rfl,T g (.bl O) i.hσ rfl i.ok i.nx rfl]
def yN(l:C.P=X.prog)(m:C.w=X.w)(n:C.K=X.K)(o:X.A.units+60<K')(O:PE X a (IG C T))(Y:PE X b (IG C mb))(hd:PE X d (IG C md))(hm:ō [o1.op,o2.op] [b,d]=dV):
  PT X (.Compare a [o1.op,o2.op] [b,d] pos) (JY C (T >>= λx=>mb >>= λy=>ao [x,y] >>= λ_=>M.IT (bg o1 x.2 y.2) >>= λp=>if p=c4 then(md >>= λz=>ao [y,z] >>= λ_=>M.IT (bg o2 y.2 z.2)) else pure dV)):=by
 rintro pins s σ H Q I ⟨r,rfl,rfl,ok,h⟩;show isTrue_chain (IF (two O Y I ok h λx y c vx vy v u s2 t I2 rx B w=>?_) λv s1 h1=>test_link (IF h1 λu s2 f=>f)) hm;rw[aj]at w;have(p,e,q):=bO.mp w;show IF (jM l m n o t I2 rx B e) λz s' SM=>?_;have(e,D):=SM;subst e;show LH ?_;cases p with
 |false =>
  rw[Ÿ my,ak]at q;show ite_ff #[c.H,by rw[<-t.hσ];show D,q c t.hσ rfl t.ok t.nx]
 |true =>
  rw[ŵ rfl,aj]at q;show ite_tt (test_last (IF (hd pins s' c.σ c.H (λj G=>∃z g,g.H=G/\N6 C r g y z vy j/\W (M.IT (bg o2 y.2 z.2)) g.st (C4 C r Q)) D ⟨c,rfl,rfl,t.ok,q.mono λz st2 f g j J k I_ L N=>?_⟩) ?_))
  .rw[aj,bj]at f;subst k;rw[cL]at f;show#[z,g,rfl,#[J.trans t.hσ,I_,t.nx.trans L,(t.ry.w.on t.ok L J).t f.1.1,N.from t.nx,iC t.ry.w N.w],f.2]
  .rintro zv s3 ⟨j,G,I3,rz,z,g,rfl,i,f⟩;have(q',e',w'):=bO.mp f;show IF (jM (pins:=pins) l m n o i (by rw[i.hσ,<-t.hσ];show I3) B rz e') λz' s4 SN=>?_;have(k,I4):=SN;subst k;show LH #[g.H,by rw[<-i.hσ];show I4,w' g i.hσ rfl i.ok i.nx]
end
section
def cK.from(n:Nx a b):cK C b c rs vs->cK C a c rs vs:=by
 intro h;induction rs generalizing vs with
 |nil=>show h
 |cons r rs d=>have(v,t,e,f,g,i):=h;show#[v,t,e,f.from n,d g,i]
def cK.get{i:Nat}(h:cK C b c rs vs)(e:rs[i]?=a8 r)(a:vs[i]?=a8 v):fS C b c r.1 r.2 v:=by
 induction rs generalizing vs i with
 |nil=>simp at e
 |cons j rs d =>
  have(k,t,rfl,f,g,l):=h;cases i with
  |zero=>simp at e a;subst e a;show f
  |succ i=>show d g (by simpa using e) (by simpa using a)
def BF:PA X [] (JP C (pure [])):=by
 rintro pos pins s σ H Q I ⟨a,rfl,rfl,ok,h⟩;rw[ak]at h;show fI pos pins s a.σ a.H Q I (h a [] rfl rfl ok (Nx.refl a) rfl)
def yO(g:PE X e (IG C m))(j:PA X es (JP C ms))(hs:pa (e::es) X.env=(dV,MM e X.env)::pa es X.env):PA X (e::es) (JP C (m >>= λr=>ms >>= λrs=>pure (r::rs))):=by
 rintro pos pins s σ H Q I ⟨a,rfl,rfl,ok,h⟩;show cE g j hs pos pins s a.σ a.H Q I (aT ok h λr k v t w=>?_);rw[aj]at w;show#[k,t.hσ,rfl,t.ok,w.mono λrs st2 b l vs c n o d f=>?_];rw[ak]at b;show b l (v::vs) c n o (t.nx.trans d) #[v,vs,rfl,t.rx.w.on t.ok d (c.trans t.hσ.symm),f.from t.nx,λhk i x y p q u=>?_];show iC t.rx.w (f.get p q) hk u
structure Km(C:Ct)(c0 c:Cf)(rs:List (Kd×U))(vs:List V):Prop where
 hσ:c.σ=c0.σ
 ok:Ok C c
 nx:Nx c0 c
 rep:cK C c0 c rs vs
 N7:bf rs c.st
def args{k:List (Kd×U)->M β}{Post:β->ar->Prop}(f:PA X es (JP C ms))(I:Inv X pins a.σ a.H s)(ok:Ok C a)(h:W (ms >>= λrs=>ao rs >>= λ_=>k rs) a.st Post)(pos:Pos):
  js (mn X.prog X.w) X.A (Ŀ (NZ pos (pa es X.env))) (λus s1=>∃rs c vs,Km C a c rs vs/\Inv X pins c.σ c.H s1/\Vals vs us/\W (k rs) c.st Post) X.xe s:=by
 rw[aj]at h;show IF (f pos pins s a.σ a.H (λvs e=>∃rs c,c.H=e/\Km C a c rs vs/\W (k rs) c.st Post) I ⟨a,rfl,rfl,ok,h.mono λrs st1 b d vs g i j l m=>?_⟩) ?_
 .rw[aj,bj]at b;subst i;show#[rs,d,rfl,#[g,j,l,m,b.1],b.2]
 .rintro us s1 ⟨vs,e,n,o,rs,d,rfl,t,w⟩;show#[rs,d,vs,t,by rw[t.hσ];show n,o,w]
def Km.one(t:Km C a c [r] vs):∃v,vs=[v]/\aN C a c r.1 r.2 v:=by
 have(v,t',rfl,b,d,_):=t.rep;cases d;show#[v,rfl,b.t t.N7]
def Km.two(t:Km C b c [r,d] vs):∃v a,vs=[v,a]/\aN C b c r.1 r.2 v/\aN C b c d.1 d.2 a:=by
 have(v,t',rfl,e,(a,h,rfl,f,g,_),_):=t.rep;cases g;have hs:=cL.mp t.N7;show#[v,a,rfl,e.t hs.1,f.t hs.2]
def Ok.share(ok:Ok C c)(f:C.H₀ r=cb)(g:∃o,c.H r=a8 o)(hl:st'.length=c.st.length)
  (b:∀(i:Nat) k u,st'[i]?=a8 (a8 (k,u))->(∃v,c.σ[i]?=a8 (a8 v)/\fQ C (λa=>c.S a\/a=r) c.H k u v)/\(k.root=c4->c.st[i]?=a8 (a8 (k,u)))) (h:Lv C {c with S:=λa=>c.S a\/a=r,st:=st' }) :
  Ok C {c with S:=λa=>c.S a\/a=r,st:=st' }:=by
 show#[ok.same,λa z=>?_,ok.par,ok.io,by rw[show({c with S:=λa=>c.S a\/a=r,st:=st' }:Cf).st.length=st'.length from rfl,hl];show ok.len,λi k u e=>(b i k u e).1,λi j k k' u u' l hk d m n p q=>?_,h]
 .rcases z with z|rfl
  .show ok.K7 a z
  .show#[f,g]
 .show ok.inj i j k k' u u' l hk d ((b i k u m).2 hk) ((b j k' u' n).2 d) p q
def Ok.ED(p:Ok C b)(ok:Ok C c)(n:Nx b c)(d:b.H r=cb)(f:¬c.R r)(s:cZ C c.S c.H r u):
  Ok C {c with S:=λa=>c.S a\/a=r}/\Nx b {c with S:=λa=>c.S a\/a=r}:=by
 have(o,ho,_):=s.some;show#[ok.share (st':=c.st) (p.ph d).1 #[o,ho] rfl (λi k u e=>#[?_,λ_=>e]) (ok.dd.hs (.up λa=>.inl) λj a z=>#[λq=>q.elim (ok.root (.inr #[j,z])).1 λe=>f (.inr #[j,e▸z]),λo q=>q]),#[#[n.keep,n.there,n.roots,λa z=>.inl (n.sub a z),λa z=>?_]]]
 .have(v,g,h):=ok.sl i k u e;have t:Mv c.S c.H (λa=>c.S a\/a=r) c.H:=.up λa=>.inl;show#[v,g,h.mv t (.up λa z=>z.imp id .inl) λhk x l=>#[?_,λo q=>q]];have(y,m,w,_):=h.rt hk;rw[l]at m;cases m;rintro(z|rfl)
  .show w z
  .show f (.inl #[i,k,u,hk,e,by rw[g,l]])
 .rcases z with z|rfl
  .show n.new a z
  .show .inr (.inr d)
def Ok.yP(ok:Ok C c)(n:Nx D c)(f:c.st[j]?=a8 (a8 (.own,u)))(g:c.σ[j]?=a8 (a8 (.ref r))):
  Ok C {c with S:=λa=>c.S a\/a=r,st:=c.st.set j (a8 (.loc,u))}/\Nx D {c with S:=λa=>c.S a\/a=r,st:=c.st.set j (a8 (.loc,u))}/\Rep C (λa=>c.S a\/a=r) c.H u (.ref r):=by
 have(Q,d,h,l,T,Y,G,w):=ok.sl j _ _ f;rw[g]at d;cases d;cases l;have x:Rep C (λa=>c.S a\/a=r) c.H u (.ref r):=w.rep (λa=>.inl) (.inr rfl);have(o,ho,_):=w.some;have p:j<c.st.length:=(mr.mp f).1;have s:∀(i:Nat) k u',(c.st.set j (a8 (.loc,u)))[i]?=a8 (a8 (k,u'))->i≠j->c.st[i]?=a8 (a8 (k,u')):=λi k u' e ne=>by rw[ro (Mk ne)]at e;show e
 have I:c.R1 r:=#[j,.own,u,rfl,f,g]
 have y:∀(i:Nat) (u':U),(c.st.set j (a8 (.loc,u)))[i]?=a8 (a8 (.IH,u'))->c.st[i]?=a8 (a8 (.IH,u')):=λi u' e=>by
  by_cases b:i=j
  .subst b;rw[rr p]at e;cases e
  .show s i .IH u' e b
 have A:∀a,({c with S:=λa=>c.S a\/a=r,st:=c.st.set j (a8 (.loc,u))}:Cf).R1 a->c.R1 a:=λa J=>by
  have(i,k,u',hk,e,L):=J;by_cases b:i=j
  .subst b;rw[rr p]at e;cases e;cases hk
  .show#[i,k,u',hk,s i k u' e b,L]
 have N:Lv C {c with S:=λa=>c.S a\/a=r,st:=c.st.set j (a8 (.loc,u))}:=ok.dd.of rfl (λi u' e=>#[y i u' e,rfl]) (λa z=>.inl (A a z)) (.up λa=>.inl) λi a z=>#[λq=>q.elim (ok.root (.inr #[i,z])).1 λe=>ok.dd.d1 i a z (e▸I),λo q=>q]
 show#[ok.share (st':=c.st.set j (a8 (.loc,u))) G #[o,ho] (by simp) (λi k u' e=>?_) N,#[#[n.keep,n.there,λa z=>?_,λa z=>.inl (n.sub a z),λa z=>?_]],x]
 .by_cases b:i=j
  .subst b;rw[rr p]at e;cases e;show#[#[.ref r,g,x],λz=>nomatch z]
  .have t:=s i k u' e b;have(v,d,m):=ok.sl i k u' t;show#[#[v,d,m.mv (.up λa=>.inl) (.up λa z=>z.imp id .inl) λhk h l=>#[?_,λo q=>q]],λ_=>t];have(U0,B,p1,_):=m.rt hk;rw[l]at B;cases B;rintro(z|rfl)
   .show p1 z
   .show b (ok.inj i j k .own u' u h hk rfl t f (by rw[d,l]) g)
 .rcases z with z|⟨i,u',h,d,m,O⟩
  .show n.roots a (.inl (A a z))
  .show n.roots a (.inr #[i,u',h,y i u' d,m,O])
 .rcases z with z|rfl
  .show n.new a z
  .rcases n.roots a (.inl #[j,.own,u,rfl,f,g]) with z|z
   .show .inr (.inl z)
   .show .inr (.inr z)
def kM(A:Ok C g)(ok:Ok C c)(n:Nx g c)(b:fS C g c r.1 r.2 v)(h:W (lift r) c.st Post):
  ∃(S':k9->Prop) (st':ar) (u:U),(∀a,c.S a->S' a)/\Ok C {c with S:=S',st:=st' }/\Nx g {c with S:=S',st:=st' }/\Rep C S' c.H u v/\Post u st' /\
   (∀a,S' a->c.S a\/v=.ref a/\(r.1=.own\/c.R a))/\∀a,({c with S:=S',st:=st' }:Cf).R a->c.R a:=by
 have(k,u):=r;cases k with
 |own =>
  rw[show lift (.own,u)=pure u from rfl,ak]at h;have(r,e,B,N,D,t):=b;have(l,m):=Ok.ED A ok n B D t;show#[_,c.st,u,λa=>.inl,l,m,by rw[e];show t.rep (λa=>.inl) (.inr rfl),h,λa z=>?_,λa z=>z];rcases z with z|rfl
  .show .inl z
  .show .inr #[e,.inl rfl]
 |loc =>
  rw[show lift (.loc,u)=pure u from rfl,ak]at h;show#[c.S,c.st,u,λa=>id,ok,n,b,h,λa z=>.inl z,λa z=>z]
 |any =>
  rw[show lift (.any,u)=if Jb u=c4 then pure u else M.fail from rfl]at h;split at h
  .rw[ak]at h;show#[c.S,c.st,u,λa=>id,ok,n,Rep.Jb (by assumption) b,h,λa z=>.inl z,λa z=>z]
  .show(a9.mp h).elim
 |bor j =>
  have(x,st',e,G):=h;rw[show lift (.bor j,u) c.st=match c.st[j]? with|some (a8 (.own,u))=>a8 (Ex.ok u,c.st.set j (a8 (.loc,u)))|_=>cb from rfl]at e;split at e
  .rename_i w d;cases e;have(O,y,r,I,_):=ok.sl j _ _ d;have o:c.σ[j]?=a8 (a8 v):=b;rw[o]at y;cases y;subst I;have(l,m,p):=ok.yP n d o;show#[_,_,_,λa=>.inl,l,m,p,G,λa z=>?_,λa z=>?_]
   .rcases z with z|rfl
    .show .inl z
    .show .inr #[rfl,.inr (.inl #[j,.own,_,rfl,d,o])]
   .rcases z with⟨i,k,u',hk,e,q⟩|⟨i,u',J,e,q,L⟩
    rotate_left 1
    .by_cases f:i=j
     .subst f;have s:i<c.st.length:=(mr.mp d).1;rw[rr s]at e;cases e
     .rw[ro (Mk f)]at e;show .inr #[i,u',J,e,q,L]
    by_cases f:i=j
    .subst f;have s:i<c.st.length:=(mr.mp d).1;rw[rr s]at e;cases e;cases hk
    .rw[ro (Mk f)]at e;show .inl #[i,k,u',hk,e,q]
  .cases e
 |_=>show b.elim
theorem fW:∀{rs:List (Kd×U)}{vs:List V}{c:Cf}{Post:List U->ar->Prop},Ok C b->Ok C c->Nx b c->cK C b c rs vs->W (cT rs) c.st Post ->
  ∃(S':k9->Prop) (st':ar) (us:List U),(∀a,c.S a->S' a)/\Ok C {c with S:=S',st:=st' }/\Nx b {c with S:=S',st:=st' }/\aq C S' c.H us vs/\Post us st'
 |[],vs,c,Post,m,ok,n,p,h=>by
  rw[show cT []=pure [] from rfl,ak]at h;show#[c.S,c.st,[],λa=>id,ok,n,p,h]
 |r::rs,vs,c,Post,m,ok,n,p,h=>by
  have(v,t,rfl,G,I,J):=p;rw[show cT (r::rs)=lift r >>= λu=>cT rs >>= λus=>pure (u::us) from rfl,aj]at h;have(S1,st1,u,s1,L,N,d,s,O,Q):=kM m ok n G h;rw[aj]at s;have T:cK C b {c with S:=S1,st:=st1} rs t:=by
   clear h s;have x:∀(l:List (Kd×U)) (w:List V),cK C b c l w->(r.1=.own->∀(i:Nat) g j,l[i]?=a8 g->w[i]?=a8 j->g.1=.own->j≠v)->cK C b {c with S:=S1,st:=st1} l w:=by
    intro l;induction l with
    |nil=>intro w q _;show q
    |cons Y l ih =>
     intro w q y;have(A,B,rfl,k,q2,q3):=q;show#[A,B,rfl,?_,ih B q2 (λhk i g j e1 e2 Jt=>y hk (i+1) g j (by simpa using e1) (by simpa using e2) Jt),q3];have(k2,u2):=Y;cases k2 with
     |own =>
      have(a,e,p1,p2,p3,p4):=k;show#[a,e,p1,λz=>?_,λz=>p3 (Q a z),p4.mv (.up s1) λo q=>q];rcases O a z with z|⟨z,z'|z'⟩
      .show p2 z
      .show y z' 0 _ A rfl rfl rfl (e.trans z.symm)
      .show p3 z'
     |loc=>show Rep.mv (.up s1) k
     |any=>show Rep.mv (.up λa z=>z.imp id (s1 a)) k
     |_=>show k
   show x rs t I J
  have(S2,st2,us,s2,I_,n2,f,D):=fW (c:={c with S:=S1,st:=st1}) m L N T s;rw[ak]at D;show#[S2,st2,u::us,λa z=>s2 a (s1 a z),I_,n2,#[v,t,rfl,d.mv (.up s2),f],D]
def BG(i:PA X es (JP C ms)):PE X (.Tuple es p pos) (IG C (ms >>= λrs=>ao rs >>= λ_=>cT rs >>= λus=>if us.length<=eh then pure (.loc,.tup us) else M.fail)):=by
 rintro pins s σ H Q I ⟨j,rfl,rfl,ok,h⟩;show Ħ (IF (args i I ok h pos) λus s1 k=>?_);have(rs,c,vs,t,f,g,w):=k;rw[aj]at w;have(S',st',ws,q,l,m,a,d):=fW ok t.ok t.nx t.rep w;split at d
 .rename_i hz;rw[ak]at d;have hl:vs.length<=eh:=by rw[<-a.len];show hz
  show#[by rw[<-g.length];show hl,?_];have n:c.H s1.heap.objs.size=cb:=f.IE.fresh (ke _);have o:Inv X pins j.σ c.H s1:=by rw[<-t.hσ];show f
  show#[.ref s1.heap.objs.size,upd c.H s1.heap.objs.size (.tup vs),o.laid (t':=s1.toks) (λb u e=>ek _ e) (ke _) ⟨hl,us,g,YX _ _⟩,rfl,?_];show bS.tup (c:={c with S:=S',st:=st' }) d t.hσ l m a _ n
 .show(a9.mp d).elim
def BH(i:PA X es (JP C ms)):PE X (.List es pos) (IG C (ms >>= λrs=>ao rs >>= λ_=>cT rs >>= λus=>if us.length<=eh then pure (.own,.lst us) else M.fail)):=by
 rintro pins s σ H Q I ⟨j,rfl,rfl,ok,h⟩;show İ (IF (args i I ok h pos) λus s1 k=>?_);have(rs,c,vs,t,f,g,w):=k;rw[aj]at w;have(S',st',ws,p,l,m,a,d):=fW ok t.ok t.nx t.rep w;split at d
 .rename_i hz;rw[ak]at d;have hl:vs.length<=eh:=by rw[<-a.len];show hz
  show#[by rw[<-g.length];show hl,?_];have n:c.H s1.heap.objs.size=cb:=f.IE.fresh (ke _);have o:Inv X pins j.σ c.H s1:=by rw[<-t.hσ];show f
  show#[.ref s1.heap.objs.size,upd c.H s1.heap.objs.size (.lst vs),o.laid (t':=s1.toks) (λb u e=>ek _ e) (ke _) ⟨hl,us,0,g,l' _ rfl⟩,rfl,?_];show bS.list (c:={c with S:=S',st:=st' }) d t.hσ l m a _ n
 .show(a9.mp d).elim
end
section
def uP(d:X.N[i]?=a8 x)(f:Mo X.env.scope x)(g:(x==("__debug__":Str))=dV)(l:(x==("__classdict__":Str))=dV):PE X (.Name x pos) (IG C (iB i)):=by
 show PE.weak (ic d f g l) ?_;rintro σ H Q ⟨b,rfl,rfl,ok,r,st',e,h⟩;unfold iB at e;split at e
 .cases e
 .rename_i k u m hs;cases e;have(v,c,a):=ok.sl i k u hs;show#[v,c,h b v rfl rfl ok (Nx.refl b) ?_];by_cases hk:k.root=c4
  .rw[ŵ hk];show#[#[k,hk,hs],c]
  .rw[Ÿ hk];cases k with
   |loc=>show a
   |any=>show a
   |bor j=>show a.elim
   |IH=>show(m rfl).elim
   |_=>show absurd rfl hk
 .cases e
def jg(h:PE X e (tC v))(r:∀S H,Rep C S H u v):PE X e (IG C (pure (.loc,u))):=by
 show PE.weak h ?_;rintro σ H Q ⟨a,rfl,rfl,ok,h⟩;rw[ak]at h;show h a v rfl rfl ok (Nx.refl a) (r _ _)
def bS.root(h:bS C b Q (.own,u) c.st)(d:c.σ=b.σ)(ok:Ok C c)(n:Nx b c)(p:k9)(a:c.H p=cb)(r:cZ C c.S (upd c.H p o) p u):Q (.ref p) (upd c.H p o):=by
 have(e,f):=ok.lay (o:=o) a;have(j,g,k,l,i):=ok.ph a;show h {c with H:=upd c.H p o} _ d rfl e (n.trans f) ⟨p,rfl,n.none a,g,i,r⟩
def yQ(c:C.P=X.prog)(d:C.w=X.w)(r:Bool):PE X (.Dict [] [] pos) (IG C (pure (.own,if r=c4 then .Jy [] else .JV [] []))):=by
 cases r with
 |false =>
  show PE.weak xY ?_;rintro σ H Q ⟨a,rfl,rfl,ok,h⟩ p b;rw[ak,Ÿ my]at h;show bS.root h rfl ok (Nx.refl a) p b #[[],aO,rfl,rfl]
 |true =>
  show PE.weak A_ ?_;rintro σ H Q ⟨a,rfl,rfl,ok,h⟩ p b;rw[ak,ŵ rfl]at h;show bS.root h rfl ok (Nx.refl a) p b #[[],?_,rfl,λx e=>by cases e];rw[c,d];show aO
def aq.IX{S:k9->Prop}(h:aq C S H us vs)(e:IX us i=a8 u):∃v,L2.IX vs i=a8 v/\Rep C S H u v:=by
 unfold L2.IX at e ⊢;rw[h.len]at e;cases q:MG vs.length i with
 |none=>rw[q]at e;cases e
 |some j =>
  rw[q]at e;show h.get e
def EF(G:C.K=X.K)(L:X.A.units+60<K')(hs:oC b)(t:N6 C J c x y d f)(I:Inv X pins c.σ c.H s)(j:RelV d v)(l:RelV f u)(h:jd x y.2=a8 r)(q:bS C J Q r c.st):
  js (mn X.prog X.w) X.A (á a b v u) (EP X pins c.σ Q) X.xe s:=by
 obtain⟨m,ok,n,o,ty,-⟩:=t;have(N,O):=y
 dsimp only at h ty
 unfold jd at h;split at h
 .rename_i k xs i;rw[hQ]at h;have(w,e,rfl):=h;have(p,vs,ex,g,z):=o.list ok;have(vw,B,D):=z.IX e;show AX a b pins s c.σ c.H d f v u Q I j l #[p,vs,i,vw,ex,ty.int ok,G▸g,B,q c vw m rfl ok n (aN.item D)] (hs _ _)
 .rename_i k xs i;rw[hQ]at h;have(w,e,rfl):=h;have(p,vs,ex,g,z):=o.tuple ok;have(vw,B,D):=z.IX e;rw[G]at g;show rT a b pins s c.σ c.H d f v u Q I j l #[p,vs,i,vw,ex,ty.int ok,g,B,q c vw m rfl ok n (aN.item D)] (hs _ _)
 .split at h
  .rw[hQ]at h;have(w,e,rfl):=h;show fJ a b pins s c.σ c.H d f v u Q I j l #[_,_,w,o.str ok,ty.int ok,by assumption,e,q c _ m rfl ok n rfl] (hs _ _)
  .cases h
 .cases h
def BI(d:C.K=X.K)(f:X.A.units+60<K')(hs:oC b)(g:PE X a (IG C i))(j:PE X b (IG C k)):PE X (.Subscript a b pos) (IG C (i >>= λx=>k >>= λy=>ao [x,y] >>= λ_=>M.IT (jd x y.2))):=by
 rintro pins s σ H Q I ⟨o,rfl,rfl,ok,h⟩;show Æ (two g j I ok h λx y c p B v u s2 t l m n w=>?_);have(r,e,q):=bO.mp w;show IF (EF d f hs t l m n e q) λ_ _ z=>by rw[t.hσ]at z;show z
def aq.cut{S:k9->Prop}(h:aq C S H us vs)(lo a:Option Int):aq C S H (TM.cut us lo a) (qk vs lo a):=by
 unfold TM.cut qk;rw[h.len];show(h.drop _).take _
def wC{lo a:Option Int}(h:HT.II xs.length 0 lo=0/\HT.II xs.length xs.length a=xs.length):cut xs lo a=xs:=by
 unfold cut;rw[h.1,h.2];simp
end
section
variable{prog:z8}{w:JM}{A:Od}{E:fx->i4->Prop}{s:i4}
def gU{lo c:Option Int}(b:é s.heap t a)(hs:s.heap.IsSliceOf d f g .none)(i:YK f lo)(j:YK g c)
  (e:HT.II a.size 0 lo=0/\HT.II a.size a.size c=a.size) (h:Q (.ref t) s):js (mn prog w) A (X4 (.ref t) (.ref d)) Q E s:=by
 have(os,k,l,o):=id hs;have m:s.TypeIs (.ref d) "slice":=#[os,k,l]
 unfold X4
 try with_reducible show Ka ?_
 first|show cc (d6 ?_)|skip
 show cc (Zf b.typeIs (by decide) ?_);show cc (Tz (name:=W3 "__getitem__") b.typeIs wh
  (OD wh b.typeIs YW ?_ (Zc _ _)))
 change js _ _ (Qs (.ref t) >>= _) _ _ s;show cc (à b ?_);show cc (Rn m ?_);rw[ŵ (by decide)];show cc (HT.eD hs i j ?_);have n:(((HT.II a.size 0 lo:Nat):Int)==0&&(1:Int)==1&&(HT.II a.size a.size c - HT.II a.size 0 lo)==a.size)=c4:=by
  rw[e.1,e.2];simp
 change js _ _ (if (((HT.II a.size 0 lo:Nat):Int)==0&&(1:Int)==1&&(HT.II a.size a.size c - HT.II a.size 0 lo)==a.size)=c4 then _ else _) _ _ s;rw[ŵ n];change js (mn prog w) A.in1 ((Zy (vu t) >>= λx=>pure (x==.type "tuple")) >>= _) _ _ s;show cc (cc (Rn b.typeIs (d6 ?_)));rw[ŵ (by decide)];show cc (S8 (d6 #[_,rfl,d6 h]))
end
section
variable{X:Cx}{C:Ct}{pins:List (k9×Obj)}{s:i4}{c0 c c1:Cf}
variable{a b d e:vr}{es:List vr}{m ma mb md:M (Kd×U)}{ms:M (List (Kd×U))}{ta tb:M Bool}{pos p p2:Pos}
def BJ:Ms X (λx lo g H Q=>∃a xs,x=.ref a/\Jj X.K H a xs/\(HT.II xs.length 0 lo=0/\HT.II xs.length xs.length g=xs.length)/\Q (.ref a) H):=by
 intro pins s σ H x v u w lo g y Q I j hs k l h;have(a,xs,rfl,n,o,q):=h;cases j;have(t,r,i,hz):=I.tuple n;have f:t.toArray.size=xs.length:=by rw[lx];show r.length.symm
 show#["tuple",_,wh.lookup,i.typeIs,gU i hs k l (by rw[f];show o) #[.ref a,H,I,rfl,q]]
abbrev tO(C:Ct)(m:M (Option Int)):TO:=λσ H Q=>∃c0:Cf,c0.σ=σ/\c0.H=H/\Ok C c0/\W m c0.st λi st'=>∀c,c.σ=σ->c.st=st'->Ok C c->Nx c0 c->Q i c.H
def jF:PO X cb (tO C (pure cb)):=by
 rintro pins s σ H Q I ⟨c0,rfl,rfl,ok,h⟩;rw[ak]at h;show AU pins s c0.σ c0.H Q I (h c0 rfl rfl ok (Nx.refl c0))
def wD(f:PE X a (IG C ma)):PO X (a8 a) (tO C (ma >>= Er)):=by
 rintro pins s σ H Q I ⟨c0,rfl,rfl,ok,h⟩;show AV f pins s c0.σ c0.H Q I (aT ok h λx c v t w=>?_);have(k,u):=x;unfold Er at w;split at w
 .rename_i i e
  dsimp only at e
  subst e;rw[ak]at w;show#[i,t.rx.int t.ok,w c t.hσ rfl t.ok t.nx]
 .show(a9.mp w).elim
def EG{lo f:Option Int}(w:C.K=X.K)(j:c.σ=c0.σ)(ok:Ok C c)(n:Nx c0 c)(o:aN C c0 c x.1 x.2 k)(h:je x lo f=a8 r)(q:bS C c0 Q r c.st):
  ((Gg X.K k lo f c.H Q\/Gb X.K k lo f c.H Q)\/(∃a xs,k=.ref a/\Jj X.K c.H a xs/\(HT.II xs.length 0 lo=0/\HT.II xs.length xs.length f=xs.length)/\Q (.ref a) c.H))\/Gn k lo f c.H Q:=by
 unfold je at h;split at h
 .split at h
  .rename_i hh;cases h;have(g,vs,ex,l,i):=o.list ok;show .inl (.inl (.inl #[g,vs,ex,w▸l,λp t=>q.list j ok n ((du hh i).cut lo f) p t]))
  .cases h
 .cases h;have(g,vs,ex,l,i):=o.tuple ok;have u:=l;rw[w]at u;by_cases v:HT.II vs.length 0 lo=0/\HT.II vs.length vs.length f=vs.length
  .show .inl (.inr #[g,vs,ex,u,v,?_]);show q c (.ref g) j rfl ok n (aN.item #[g,vs,rfl,l,?_]);rw[wC (by rw[i.len];show v)];show i
  .show .inl (.inl (.inr #[g,vs,ex,u,v,λp t=>q.tupK j ok n (i.cut lo f) p t]))
 .split at h
  .cases h;show .inr #[_,o.str ok,by assumption,q.flat j ok n rfl]
  .cases h
 .cases h
def BK{lo g:Option vr}(n:C.K=X.K)(o:PE X a (IG C ma))(hl:PO X lo (tO C ml))(hh:PO X g (tO C u)):
  PE X (.Subscript a (.Slice lo g cb p2) pos) (IG C (ma >>= λx=>ml >>= λl=>u >>= λh=>ao [x] >>= λ_=>M.IT (je x l h))):=by
 show PE.weak (xR (((Ms.or AY DU).or BJ).or D4) o hl hh) ?_;rintro σ H Q ⟨c0,rfl,rfl,ok,h⟩;show aT ok h λx c v t w=>?_;rw[aj]at w;show#[c,t.hσ,rfl,t.ok,w.mono λl st2 i y z A B D=>?_];subst A;rw[aj]at i;show#[y,z,rfl,B,i.mono λN st3 f G j I J L=>?_];subst I;rw[aj,bj]at f;have(r,e,q):=bO.mp f.2;have k:Nx c G:=D.trans L;show EG n j J (t.nx.trans k) ((t.rx.w.on t.ok k (j.trans t.hσ.symm)).t f.1) e q
def aq.rz{S:k9->Prop}(h:aq C S H us vs):aq C S H us.reverse vs.reverse:=by
 induction us generalizing vs with
 |nil=>cases h;show rfl
 |cons u us f =>
  have(v,r,rfl,g,i):=h;rw[OQ,OQ];show(f i).snoc g
def BL(g:C.K=X.K)(i:PE X a (IG C ma)):PE X (.Subscript a (.Slice cb cb (a8 (.UnaryOp .USub (.Constant (.int 1) I p1) p3)) p2) pos) (IG C (ma >>= λx=>M.IT (Ep x))):=by
 show PE.weak (D_ i) ?_;rintro σ H Q ⟨c0,rfl,rfl,ok,h⟩;show aT ok h λx c v t w=>?_;have(r,e,w):=bO.mp w;have(k,u):=x;unfold Ep at e;split at e
 .rename_i k' xs q;cases q;cases e;have(j,vs,ex,f,l):=t.rx.tuple t.ok;rw[g]at f;show#[j,vs,ex,f,λp n=>bS.tupK (λo y z A B D G=>w o y z A B D G) t.hσ t.ok t.nx l.rz p n]
 .cases e
def aq.ry{S:k9->Prop}(h:aq C S H us vs):aq C S H us.reverse vs.reverse:=by
 induction us generalizing vs with
 |nil=>cases h;show rfl
 |cons u us f =>
  have(v,r,rfl,g,i):=h;rw[OQ,OQ];show(f i).snoc g
def BM(f:C.K=X.K)(g:PE X a (IG C ma)):PE X (.Subscript a (.Slice cb (a8 (.Constant (.int 1) I J)) (a8 (.UnaryOp .USub (.Constant (.int 1) L p1) p3)) p2) pos) (IG C (ma >>= λx=>M.IT (yE x))):=by
 show PE.weak (Ea g) ?_;rintro σ H Q ⟨c0,rfl,rfl,ok,h⟩;show aT ok h λx c v t w=>?_;have(r,e,w):=bO.mp w;have(k,u):=x;unfold yE at e;split at e
 .rename_i k' xs q;cases q;split at e
  .rename_i hh;cases e;have(i,vs,ex,j,l):=t.rx.list t.ok;show#[i,vs,ex,f▸j,λp n=>bS.list (λo y z A B D G=>w o y z A B D G) t.hσ t.ok t.nx ((du hh l).drop 2).ry p n]
  .cases e
 .cases e
end
section
variable{X:Cx}{C:Ct}{pins:List (k9×Obj)}{s:i4}{c0 c c1:Cf}
variable{a b d e:vr}{es:List vr}{m ma mb md:M (Kd×U)}{ms:M (List (Kd×U))}{ta tb:M Bool}{pos p p2:Pos}
abbrev Bf.val:Bf->fx
 |.len=>.builtin "len"|.sorted=>.builtin "sorted"|.repr=>.builtin "repr"|.max=>.builtin "max"|.min=>.builtin "min"|.all=>.builtin "all"|.any=>.builtin "any"
 |.list=>.type "list"|.tuple=>.type "tuple"|.str=>.type "str"|.int=>.type "int"
abbrev Bf.name:Bf->Str
 |.len=>"len"|.sorted=>"sorted"|.repr=>"repr"|.max=>"max"|.min=>"min"|.all=>"all"|.any=>"any"
 |.list=>"list"|.tuple=>"tuple"|.str=>"str"|.int=>"int"
def call_of(g:fB X f r)(I:Inv X pins c.σ c.H s)(i:Vals vs us)(h:r vs c.H Q):js (mn X.prog X.w) X.A (R3 f us) (EP X pins c.σ Q) X.xe s:=g pins s c.σ c.H vs us Q I i h
mutual
theorem uQ{S:k9->Prop}(f:C.K=X.K)(I:Inv X pins c.σ c.H s):∀(u:U) (v:V) (val:fx) (d:ú),Rep C S c.H u v->RelV v val->fG u=a8 d->∃as,Reads s.heap val d as
 |.ID,v,val,d,h,r,e=>by cases h;cases r;cases e;show#[_,.none]
 |.bl b,v,val,d,h,r,e=>by cases h;cases r;cases e;show#[_,.bool b]
 |.int i,v,val,d,h,r,e=>by cases h;have(t,rfl):=r;cases e;show#[_,.int i t]
 |.str x,v,val,d,h,r,e=>by cases h;have(t,rfl):=r;cases e;show#[_,.str x t]
 |.tup us,v,val,d,h,r,e=>by
  have(a,vs,rfl,g,j):=h;cases r;simp only[fG,hQ]at e;have(k,l,rfl):=e;rw[f]at g;have(q,w,(o,ho,y,n,z),_):=I.tuple g;have(as,A):=pv f I us vs q k j w l;show#[as,.tuple ho y z (by simpa using A)]
 |.lst us,v,val,d,h,r,e=>by
  have(a,vs,rfl,g,j):=h;cases r;simp only[fG,hQ]at e;have(k,l,rfl):=e;have B:=g.sq;rw[f]at B;have(q,w,D,_):=I.list B;have(o,ho,y,n,z):=D.isList;have(as,A):=pv f I us vs q k j w l;show#[a::as,.list ho y z (by simpa using A)]
 |.JV _ _,v,val,d,h,r,e=>by simp[fG]at e
 |.Jy _,v,val,d,h,r,e=>by simp[fG]at e
theorem pv{S:k9->Prop}(i:C.K=X.K)(I:Inv X pins c.σ c.H s):∀(us:List U) (vs:List V) (f:List fx) (g:List ú),aq C S c.H us vs->Vals vs f->kF us=a8 g->∃as,ReadsAll s.heap f g as
 |[],vs,f,g,h,r,e=>by
  cases h;cases r;cases e;show#[_,.nil]
 |u::us,vs,f,g,h,r,e=>by
  have(v,j,rfl,k,l):=h;cases r with
  |cons n o =>
   simp only[kF,ux,hQ]at e;have(d,q,t,w,rfl):=e;have(as,x):=uQ i I u v _ d k n q;have(bs,y):=pv i I us j _ t l o w;show#[as++bs,.cons x y]
end
mutual
theorem lN:∀(u:U) (d:ú),fG u=a8 d->d.hasDict=dV
 |.ID,d,e=>by cases e;rfl
 |.bl b,d,e=>by cases e;rfl
 |.int i,d,e=>by cases e;rfl
 |.str x,d,e=>by cases e;rfl
 |.tup us,d,e=>by
  simp only[fG,hQ]at e;have(f,g,rfl):=e;simpa only[Ĉ] using fX us f g
 |.lst us,d,e=>by
  simp only[fG,hQ]at e;have(f,g,rfl):=e;simpa only[Ĉ] using fX us f g
 |.JV _ _,d,e=>by simp[fG]at e
 |.Jy _,d,e=>by simp[fG]at e
theorem fX:∀(us:List U) (f:List ú),kF us=a8 f->ß f=dV
 |[],f,e=>by cases e;rfl
 |u::us,f,e=>by
  simp only[kF,ux,hQ]at e;have(d,g,h,i,rfl):=e;simp only[ß,lN u d g,fX us h i,Bool.or_self]
end
def uR{S:k9->Prop}(i:C.K=X.K)(j:X.A.guards=a8 [])(x:X.A.units+60<K')(I:Inv X pins c.σ c.H s)(k:Vals [v] us)(f:Rep C S c.H u v)(h:uH u=a8 r)(q:bS C c0 Q r c.st)(l:c.σ=c0.σ)(ok:Ok C c)(n:Nx c0 c):
  js (mn X.prog X.w) X.A (R3 (.builtin "repr") us) (EP X pins c.σ Q) X.xe s:=by
 have(val,rfl,g):=vals1 k;unfold uH at h;rw[ux]at h;have(d,e,h):=h;split at h
 .rename_i hz;cases h;have(as,o):=uQ i I u v val d f g e;have t:∃a,val=.ref a:=by
   cases u with
   |tup us=>have(a,vs,rfl,_):=f;cases g;show#[a,rfl]
   |lst us=>have(a,vs,rfl,_):=f;cases g;show#[a,rfl]
   |_=>simp[CZ]at hz
  have(a,rfl):=t;show repr_of_reads' o hz.1 (PyData.noDict_hsm (lN u d e)) j (by have:=hz.2.1;lia) (λ_ _ z=>z) (λh' u' y hk=>?_) hz.2.2.1;show#[.str d.shown,c.H,I.kept hk,#[_,rfl],q.flat l ok n rfl]
 .cases h
def bJ(h:gT f rs=a8 r):∃x,rs=[x]/\f x=a8 r:=by
 unfold gT at h;split at h
 .show#[_,rfl,h]
 .cases h
def yR(G:X.calm=c4)(y:C.K=X.K)(L:X.A.guards=a8 [])(N:X.A.units+60<K')(t:Km C c0 c rs vs)(I:Inv X pins c.σ c.H s)(o:Vals vs us)(h:JN f rs=a8 r)(q:bS C c0 Q r c.st):
  js (mn X.prog X.w) X.A (R3 f.val us) (EP X pins c.σ Q) X.xe s:=by
 have u:=t.hσ;have ok:=t.ok;have n:=t.nx;cases f with
 |len =>
  have(x,rfl,hz):=bJ (f:=λx=>(Bp x.2).map λ(n:Nat)=>(Kd.loc,U.int (n:Int))) h;clear h;have h:=hz;clear hz;rw[hQ]at h;have(k,e,rfl):=h;have(v,rfl,g):=t.one;have(Y,J):=x;unfold Bp at e;split at e
  .rename_i xs z;have z:J=.lst xs:=z;subst z;cases e;have(j,ws,ex,i,l):=g.list ok;rw[l.len]at q;show call_of iN I o #[j,ws,by rw[ex],.inl (y▸i),q.flat u ok n rfl]
  .rename_i xs z;have z:J=.tup xs:=z;subst z;cases e;have(j,ws,ex,i,l):=g.tuple ok;rw[y]at i;rw[l.len]at q;show call_of iN I o #[j,ws,by rw[ex],.inr i,q.flat u ok n rfl]
  .rename_i xs z;have z:J=.str xs:=z;subst z;split at e
   .cases e;show call_of oF I o #[_,by rw[g.str ok],by assumption,q.flat u ok n rfl]
   .cases e
  .cases e
 |sorted =>
  have(x,rfl,hz):=bJ (f:=Eh) h;clear h;have h:=hz;clear hz;have(v,rfl,g):=t.one;unfold Eh at h;split at h
  .rw[ux]at h;have(ss,e,h):=h;have D:=bP e;subst D;have(j,ws,ex,i,l):=g.list ok;rw[aq.strs]at l;subst l;split at h
   .cases h;show call_of kh I o #[j,ss,by rw[ex],.inl (y▸i),by assumption,λp B=>q.list u ok n (aq.strs.mpr rfl) p B]
   .cases h
  .rw[ux]at h;have(ss,e,h):=h;have D:=bP e;subst D;have(j,ws,ex,i,l):=g.tuple ok;rw[y]at i;rw[aq.strs]at l;subst l;split at h
   .cases h;show call_of kh I o #[j,ss,by rw[ex],.inr i,by assumption,λp B=>q.list u ok n (aq.strs.mpr rfl) p B]
   .cases h
  .cases h
 |list =>
  have(x,rfl,hz):=bJ (f:=Ei) h;clear h;have h:=hz;clear hz;have(v,rfl,g):=t.one;unfold Ei at h;split at h
  .have(j,ws,ex,i,l):=g.list ok;split at h
   .cases h;show call_of iO I o #[j,ws,by rw[ex],.inl (y▸i),λp B=>q.list u ok n (du (by assumption) l) p B]
   .cases h
  .have(j,ws,ex,i,l):=g.tuple ok;rw[y]at i;split at h
   .cases h;show call_of iO I o #[j,ws,by rw[ex],.inr i,λp B=>q.list u ok n (du (by assumption) l) p B]
   .cases h
  .cases h
 |tuple =>
  have(x,rfl,hz):=bJ (f:=Ej) h;clear h;have h:=hz;clear hz;have(v,rfl,g):=t.one;unfold Ej at h;split at h
  .have(j,ws,ex,i,l):=g.list ok;cases h;show call_of gZ I o #[j,ws,by rw[ex],.inl #[y▸i,λp B=>q.tupK u ok n l p B]]
  .have(j,ws,ex,i,l):=g.tuple ok;have O:=i;rw[y]at O;cases h;show call_of gZ I o #[j,ws,by rw[ex],.inr #[O,q c (.ref j) u rfl ok n (aN.item #[j,ws,rfl,i,l])]]
  .cases h
 |str =>
  have(x,rfl,hz):=bJ (f:=yC) h;clear h;have h:=hz;clear hz;have(v,rfl,g):=t.one;unfold yC at h;split at h
  .split at h
   .cases h;show call_of oy I o #[_,by rw[g.int ok],by assumption,q.flat u ok n rfl]
   .cases h
  .cases h
 |int =>
  have(x,rfl,hz):=bJ (f:=Em) h;clear h;have(v,rfl,g):=t.one;unfold Em at hz;split at hz
  .cases hz;show call_of vX I o (.inr #[_,by rw[g.bl ok],q.flat u ok n rfl])
  .cases hz
 |repr =>
  have(x,rfl,hz):=bJ (f:=Ek) h;clear h;have h:=hz;clear hz;have(v,rfl,g):=t.one;unfold Ek at h;split at h
  .split at h
   .cases h;show call_of m_ I o #[_,by rw[g.str ok],by assumption,q.flat u ok n rfl]
   .cases h
  .show uR y L N I o (g.read ok) h q u ok n
  .show uR y L N I o (g.read ok) h q u ok n
  .cases h
 |max =>
  have h:wy dV rs=a8 r:=h;unfold wy at h;split at h
  .have(v,T,rfl,g,ty):=t.two;cases h;show call_of (vV G) I o #[_,_,by rw[g.int ok,ty.int ok],q.flat u ok n rfl]
  .cases h
 |min =>
  have h:wy c4 rs=a8 r:=h;unfold wy at h;split at h
  .have(v,T,rfl,g,ty):=t.two;cases h;show call_of (vW G) I o #[_,_,by rw[g.int ok,ty.int ok],q.flat u ok n rfl]
  .cases h
 |all =>
  have(x,rfl,hz):=bJ (f:=El) h;clear h;have h:=hz;clear hz;have(v,rfl,g):=t.one;unfold El at h;split at h
  .rw[hQ]at h;have(bs,e,rfl):=h;have D:=lM e;subst D;have(j,ws,ex,i,l):=g.list ok;have:=l.UY;subst this;show call_of (x8 G) I o #[j,bs,by rw[ex],y▸i,q.flat u ok n rfl]
  .cases h
 |_=>cases h
def BN{id:String}(g:X.calm=c4)(i:C.K=X.K)(j:X.A.guards=a8 [])(k:X.A.units+60<K')(l:f.val=.builtin id)(n:Gl X x)(o:X.mg x=cb)(u:Mq x=a8 (.builtin id))(v:x≠"__name__")(y:(x==("__debug__":Str))=dV)
  (B:PA X (e::es) (JP C ms)) (D:pa (e::es) X.env=(dV,MM e X.env)::pa es X.env) (G:(NZ pos (pa es X.env)).any (·.1)=dV) :
  PE X (.Call (.Name x p) (e::es) [] pos) (IG C (ms >>= λrs=>ao rs >>= λ_=>M.IT (JN f rs))):=by
 rintro pins s σ H Q I ⟨c0,rfl,rfl,ok,h⟩;show Es (dH I n o u ?_ v y);show Px (IF (args B I ok h pos) λus s1 ⟨rs,c,vs,t,J,L,w⟩=>?_) D G;have(r,e,q):=bO.mp w;have z:=yR g i j k t J L e q;rw[l,t.hσ]at z;show z
def BO(g:X.calm=c4)(i:C.K=X.K)(j:X.A.guards=a8 [])(k:X.A.units+60<K')(l:f.val=.type T)(n:Gl X x)(o:X.mg x=cb)(u:Mq x=a8 (.type T))(v:x≠"__name__")(y:(x==("__debug__":Str))=dV)
  (B:PA X (e::es) (JP C ms)) (D:pa (e::es) X.env=(dV,MM e X.env)::pa es X.env) (G:(NZ pos (pa es X.env)).any (·.1)=dV) :
  PE X (.Call (.Name x p) (e::es) [] pos) (IG C (ms >>= λrs=>ao rs >>= λ_=>M.IT (JN f rs))):=by
 rintro pins s σ H Q I ⟨c0,rfl,rfl,ok,h⟩;show Es (dH I n o u ?_ v y);show Ow (IF (args B I ok h pos) λus s1 ⟨rs,c,vs,t,J,L,w⟩=>?_) D G;have(r,e,q):=bO.mp w;have z:=yR g i j k t J L e q;rw[l,t.hσ]at z;show z
abbrev MN.name(_:MN):Str:="str"
abbrev MN.nm(_:MN):String:="str"
def BP(T:MN):Mq T.name=a8 (.type T.nm)/\T.name≠"__name__"/\(T.name==("__debug__":Str))=dV:=by
 cases T<;>show#[by decide +kernel,by decide +kernel,by decide +kernel]
def gz(T:MN):Zy (.type T.nm)=pure (.type "type"):=by cases T<;>kernel_rfl
def EH{b:Bool}(y:C.K=X.K)(t:KJ C c0 c x v)(I:Inv X pins c.σ c.H s)(f:RelV v val)(h:ni x.2 T=a8 b)(q:∀i,Q (.bool b) {s with toks:=i}):
  js (mn X.prog X.w) X.A (R3 (.builtin "isinstance") [val,.type T.nm]) Q X.xe s:=by
 have(k,u):=x;have(O,ok,n,r):=t;have B:Q (.bool b) s:=q s.toks
 dsimp only at h r
 have j:∀{z:String},b=c4->s.TypeIs val z->UC (.type z) (.type T.nm)=pure c4->js (mn X.prog X.w) X.A (R3 (.builtin "isinstance") [val,.type T.nm]) Q X.xe s:=λe D hs=>by
  subst e;show ŝ D (gz T) hs B
 unfold ni at h;split at h
 .cases h;have e:v=_:=r.str ok;subst e;have(i,rfl):=f;show j rfl (Ta s _ i) (by rw[O1];kernel_rfl)
 .cases h;have e:v=_:=r.int ok;subst e;have(i,rfl):=f;show SQ (isinstance_false_int (by cases T;decide +kernel) (gz T) (by rw[O1];kernel_rfl)) (q _)
 .cases h;have e:v=_:=r.bl ok;subst e;cases f;show SQ (isinstance_false_bool (by cases T;decide +kernel) (gz T) (by rw[O1];kernel_rfl)) (q _)
 .cases h;have e:v=_:=r.ID ok;subst e;cases f;show SQ (isinstance_false_none (by cases T;decide +kernel) (gz T) (by rw[O1];kernel_rfl)) (q _)
 .cases h;have(G,ws,rfl,g,J):=r.list ok;cases f;rw[y]at g;have(L,_,N,_):=I.list g;have(o,ho,l,_):=N.isList;show SQ (isinstance_false_list (by cases T;decide +kernel) (gz T) (by rw[O1];kernel_rfl)) ⟨⟨o,ho,l⟩,q _⟩
 .cases h;have(G,ws,rfl,g,J):=r.tuple ok;cases f;rw[y]at g;have(L,_,(o,ho,l,_),_):=I.tuple g;show SQ (isinstance_false_tuple (by cases T;decide +kernel) (gz T) (by rw[O1];kernel_rfl)) ⟨⟨o,ho,l⟩,q _⟩
 .cases h
def uS(g:C.K=X.K)(i:Gl X "isinstance")(j:X.mg "isinstance"=cb)(k:Gl X T.name)(l:X.mg T.name=cb)(n:PE X a (IG C ma))(hs:pa [a,.Name T.name p2] X.env=(dV,MM a X.env)::pa [.Name T.name p2] X.env):
  PE X (.Call (.Name "isinstance" p) [a,.Name T.name p2] [] pos) (IG C (ma >>= λx=>M.IT (ni x.2 T) >>= λb=>pure (.loc,.bl b))):=by
 rintro pins s σ H Q I ⟨c0,rfl,rfl,ok,h⟩;have(o,q,r):=BP T;show Es (dH I i j (show Mq "isinstance"=a8 (.builtin "isinstance") by decide +kernel) ?_ (by decide +kernel) (by decide +kernel));show Px (IF (cE n (cE (ub (v:=.ty T.nm) k l o rfl q r) fI) hs pos pins s c0.σ c0.H (λvs H'=>∃x c v b,KJ C c0 c x v/\c.H=H'/\vs=[v,.ty T.nm]/\ni x.2 T=a8 b/\bS C c0 Q (.loc,.bl b) c.st) I ?_) λus s1 ⟨vs,L,f,u,x,c,v,b,t,e,y,A,w⟩=>?_) hs (by rfl)
 .show aT ok h λx c v t w=>?_;rw[aj]at w;have(b,e,w):=bO.mp w;rw[ak]at w;show#[x,c,v,b,t,rfl,rfl,e,w]
 .subst e y;have(N,O,rfl,B,D):=vals2 u;cases D;have G:Inv X pins c.σ c.H s1:=by rw[t.hσ];show f
  have z:=EH (Q:=EP X pins c0.σ Q) g t G B A λJ=>#[.bl b,c.H,f.tok J,rfl,w c (.bl b) t.hσ rfl t.ok t.nx rfl]
  show z
@[reducible]noncomputable def K8(P:z8)(w:JM)(K:PySem.W.Frag)(H:Hp)(f:k9->Prop):Ct:=#[P,w,K,H,f,λ_=>False,λ_ _=>False]
structure Back(C:Ct)(H H':Hp)(S':k9->Prop)(k:Kd)(u:U)(v:V):Prop where
 same:iP H H'
 new:∀a,S' a->H a=cb/\∃o,H' a=a8 o
 own:k=.own->∃r,v=.ref r/\H r=cb/\¬S' r/\cZ C S' H' r u
 loc:k=.loc->Rep C S' H' u v
 any:k=.any->Rep C (PS C S') H' u v
abbrev spT(P:z8)(w:JM)(K:PySem.W.Frag)(F:List U->Option (Ex (Kd×U)))(g:Nat):Sp:=λvs H Q E=>vs.length=g/\∃us r f,F us=a8 r/\(∀a,f a->JB H a)/\aq (K8 P w K H f) f H us vs/\match r with
 |.ok (k,u)=>(k=.own\/k=.loc\/k=.any)/\∀v H' S',Back (K8 P w K H f) H H' S' k u v->Q v H'
 |.exc c=>∀C H',PySem.W.nsIn K nt c=a8 (a8 (.ref C))->iP H H'->E (.ref C) cb H'
def Km.read(t:Km C c0 c rs vs):aq C (JB c.H) c.H (rs.map (·.2)) vs:=by
 have f:∀(l:List (Kd×U)) (w:List V),cK C c0 c l w->bf l c.st->aq C (JB c.H) c.H (l.map (·.2)) w:=by
  intro l;induction l with
  |nil=>intro w h _;show h
  |cons r l g =>
   intro w h hs;have(v,t',rfl,i,j,_):=h;rw[cL]at hs;show#[v,t',rfl,(i.t hs.1).read t.ok,g t' j hs.2]
 show f rs vs t.rep t.N7
def Back.here(hk:k=.own\/k=.loc)(g:c.σ=c0.σ)(ok:Ok C c)(n:Nx c0 c)(q:i.Eqv C)(h:Back i c.H H' S' k u v)(w:bS C c0 Q (k,u) c.st):Q v H':=by
 have(j,l):=ok.grow (S':=λa=>c.S a\/S' a) h.same (λa z=>z.imp id λz=>h.new a z) λa=>.inl;have t:=n.trans l;show w {c with H:=H',S:=λa=>c.S a\/S' a} v g rfl j t ?_;rcases hk with rfl|rfl
 .have(r,e,f,x,y):=h.own rfl;have(D,A,G,I,B):=ok.ph f;show#[r,e,n.none f,λz=>z.elim A x,B,(y.cg q).mv (.up λa=>.inr) λo q=>q]
 .show((h.loc rfl).cg q).mv (.up λa=>.inr)
def yS(o:C.P=X.prog)(x:C.w=X.w)(y:C.K=X.K)(L:Γ f=F)(hk:∀us k u,F us=a8 (.ok (k,u))->(k=.own\/k=.loc\/k=.any)/\us.length=B)
  (G:gQ X.prog X.w X.K X.mg X.base (Li X.prog X.w) k fa N O (spT X.prog X.w X.K F B)) (T:dI k X.A) (Y:Gl X f) (hm:X.mg f=a8 (.ref fa)) (Lz:PySem.W.keepIn X.K (.ref fa)=c4) (j:Binds X.K N O [])
  (J4:(f==("__debug__":Str))=dV) (ha:PA X (e::es) (JP C ms)) (he:pa (e::es) X.env=(dV,MM e X.env)::pa es X.env) (JL:(NZ pos (pa es X.env)).any (·.1)=dV) :
  PE X (.Call (.Name f p) (e::es) [] pos) (IG C (ms >>= λrs=>ao rs >>= λ_=>lI Γ f (rs.map (·.2)))):=by
 rintro pins s σ H Q I ⟨c0,rfl,rfl,ok,h⟩;show Es (cq I Y hm ?_ J4);show PySem.W.callWith_K (h₀:=X.base) I.ok.mod.LM Lz (IF (args ha I ok h pos) λus s1 ⟨rs,c,vs,t,D,rv,w⟩=>#[D.Kx,?_]) he JL;have(r,st',g,q):=w;unfold lI at g;rw[L]at g;cases i:F (rs.map (·.2)) with
 |none=>rw[i]at g;cases g
 |some r' =>
  rw[i]at g;split at g
  .cases g
  .rename_i z;cases z
  rename_i SX e3;cases e3;cases g;have(l,u):=r;have(k0,k2):=hk _ _ _ i;have k1:l=.own\/l=.loc:=by
   rcases k0 with z|z|z
   .show .inl z
   .show .inr z
   .subst z;show(SX u rfl).elim
  have n:C.Eqv (K8 X.prog X.w X.K c.H (JB c.H)):=#[o,x,y]
  have JT:(K8 X.prog X.w X.K c.H (JB c.H)).Eqv C:=#[o.symm,x.symm,y.symm]
  have J:=t.read;have Jg:spT X.prog X.w X.K F B vs c.H (λv H'=>Q v H') E0:=#[by rw[<-J.len];show k2,rs.map (·.2),.ok (l,u),JB c.H,i,λ_ z=>z,J.cg n,k0,λv H' S' j=>j.here k1 t.hσ t.ok t.nx JT q]
  have z:=xP (Q:=Q) G T j .nil Gv D rv (by rw[D1];show Jg);rw[t.hσ]at z;show z
end
section
abbrev Mf.id:Mf->String
 |.split=>"str.split"|.join=>"str.join"|.partition=>"str.partition"|.endswith=>"str.endswith"
abbrev Mf.name:Mf->Str
 |.split=>"split"|.join=>"join"|.partition=>"partition"|.endswith=>"endswith"
def yT(h:ff f u rs=a8 r):∃x,u=.str x:=by
 unfold ff at h;split at h
 .show#[_,rfl]
 .show#[_,rfl]
 .show#[_,rfl]
 .show#[_,rfl]
 .show#[_,rfl]
 .cases h
def EI(B:C.K=X.K)(t:Km C l c (x::rs) (a::vs))(I:Inv X pins c.σ c.H s)(d:RelV a v)(g:Vals vs us)(h:ff f x.2 rs=a8 r)(q:bS C l Q r c.st):
  js (mn X.prog X.w) X.A (R3 (.builtin f.id) (v::us)) (EP X pins c.σ Q) X.xe s:=by
 have i:=t.hσ;have ok:=t.ok;have n:=t.nx;have(D,G):=x;have hs:=cL.mp t.N7;obtain⟨L,N,J,m,b,-⟩:=t.rep;cases J;have j:aN C l c D G a:=m.t hs.1;have one:∀{r:Kd×U},cK C l c [r] vs->bf [r] c.st->∃v,vs=[v]/\aN C l c r.1 r.2 v:=λ{r} h s=>by
  have(v,t',rfl,m,b,_):=h;cases b;show#[v,rfl,m.t s]
 dsimp only at h
 unfold ff at h;split at h
 .have(w,rfl,ty):=one b hs.2;split at h
  .rename_i hh;cases h;show x6 pins s c.σ c.H a [w] v us Q I d g #[_,_,j.str ok,by rw[ty.str ok],hh.1,hh.2,λp o=>q.list i ok n (aq.strs.mpr rfl) p o]
  .cases h
 .rw[ux]at h;have(ss,e,h):=h;have u:=bP e;subst u;have(w,rfl,ty):=one b hs.2;have(y,ws,ex,z,k):=ty.list ok;rw[aq.strs]at k;subst k;split at h
  .cases h;show A7 pins s c.σ c.H a [w] v us Q I d g #[_,y,ss,j.str ok,by rw[ex],B▸z,by assumption,q.flat i ok n rfl]
  .cases h
 .rw[ux]at h;have(ss,e,h):=h;have u:=bP e;subst u;have(w,rfl,ty):=one b hs.2;have(y,ws,ex,z,k):=ty.tuple ok;rw[aq.strs]at k;subst k;split at h
  .cases h;show yp pins s c.σ c.H a [w] v us Q I d g #[_,y,ss,j.str ok,by rw[ex],B▸z,by assumption,q.flat i ok n rfl]
  .cases h
 .have(w,rfl,ty):=one b hs.2;cases h;show qr pins s c.σ c.H a [w] v us Q I d g #[_,_,j.str ok,by rw[ty.str ok],q.flat i ok n rfl]
 .have(w,rfl,ty):=one b hs.2;split at h
  .rename_i hh;cases h;show oN pins s c.σ c.H a [w] v us Q I d g #[_,_,j.str ok,by rw[ty.str ok],hh.1,hh.2,λp o=>?_];show q.tup i ok n #[_,_,rfl,rfl,_,_,rfl,rfl,_,_,rfl,rfl,rfl] p o
  .cases h
 .cases h
def BQ(N:C.K=X.K)(slot:Slot "str" name f.id)(O:Zy (.builtin f.id)=pure (.type "method_descriptor"))(ho:PE X o (IG C m))(T:PA X (e::es) (JP C ms))
  (Y:WT o name X.env (MM o X.env)=MM o X.env)
  (Kp:((NZ d (pa (e::es) X.env)).all (λx=>!x.1)&&(YI d (U2 [] X.env)).all (λx=>x.1.isSome)
   && ei ((e::es).length+([]:List SR).length+(if ([]:List SR).isEmpty then 0 else 1)<30))=c4)
  (J1:(j.endLine==d.line)=c4) (hs:pa (e::es) X.env=(dV,MM e X.env)::pa es X.env) (J2:(NZ d (pa es X.env)).any (·.1)=dV) :
  PE X (.Call (.Attribute o name j) (e::es) [] d) (IG C (m >>= λx=>ms >>= λrs=>ao (x::rs) >>= λ_=>M.IT (ff f x.2 rs))):=by
 rintro pins s σ H Q I ⟨a,rfl,rfl,ok,h⟩;show ð Y Kp J1 rfl (IF (ho pins s a.σ a.H (λk u=>∃x b,b.H=u/\KJ C a b x k/\W (ms >>= λrs=>ao (x::rs) >>= λ_=>M.IT (ff f x.2 rs)) b.st (bS C a Q)) I (aT ok h λx c v t w=>#[x,c,rfl,t,w])) ?_);rintro v s1 ⟨k,u,y,A,x,b,rfl,t,w⟩;have N8:∃z,x.2=.str z:=by
  rw[aj]at w;have(rs,st2,_,w):=w;rw[aj]at w;have(_,st3,_,w):=w;have(r,e,_):=bO.mp w;show yT e
 have(z,hz):=N8;have B:=t.rx;rw[hz]at B;have ev:=B.str t.ok;have ty:RM X.K "str" k b.H:=by rw[ev];rfl
 have(h1,h2):=xS y A ty;show#["str",f.id,PySem.F.plainAttrs_str,slot,O,h1,h2,?_];rw[aj]at w;have D:=T d pins s1 a.σ b.H (λvs G=>∃rs g,g.H=G/\Km C a g (x::rs) (k::vs)/\W (M.IT (ff f x.2 rs)) g.st (bS C a Q)) y ⟨b,t.hσ,rfl,t.ok,w.mono λrs st2 n g vs J e4 I_ L l=>by
  rw[aj,bj]at n;subst e4;show#[rs,g,rfl,#[J,I_,t.nx.trans L,#[k,vs,rfl,t.rx.w.on t.ok L (J.trans t.hσ.symm),l.from t.nx,λhk i r' v' e5 e6 Jt=>iC t.rx.w (l.get e5 e6) hk Jt],n.1],n.2]⟩
 rw[hs]at D ⊢;show Wg (by change(dV||(NZ d (pa es X.env)).any (·.1))=dV;rw[J2]<;>rfl) (RI ?_);show IF D ?_;rintro us s2 ⟨vs,G,I2,l,rs,g,rfl,p,w2⟩;have(r,e,q):=bO.mp w2;have z:=EI N p (by rw[p.hσ];show I2) A l e q;rw[p.hσ]at z;show z
end
section
variable{X:Cx}{C:Ct}{pins:List (k9×Obj)}{s:i4}{c0 c c1:Cf}
variable{e:vr}{es:List vr}{ms:M (List (Kd×U))}{pos p p2 pos2:Pos}
abbrev B2.out:B2->fx
 |.Mb=>.type "tuple"|.Mc=>.type "list"|.sset=>.builtin "sorted"|.fK=>.builtin "len"
abbrev B2.Q1:B2->fx
 |.Mb=>.type "reversed"|.Mc=>.type "reversed"|.sset=>.type "set"|.fK=>.type "set"
abbrev B2.pw:B2->Str
 |.Mb=>"tuple"|.Mc=>"list"|.sset=>"sorted"|.fK=>"len"
abbrev B2.jh:B2->Str
 |.Mb=>"reversed"|.Mc=>"reversed"|.sset=>"set"|.fK=>"set"
def nO(j:C.K=X.K)(ok:Ok C c)(l:aN C c0 c k u v)(h:sE u=a8 ss):∃a b,v=.ref a/\(Jo X.K c.H a (b.map V.str)\/Jj X.K c.H a (b.map V.str))/\b.length+1<PQ/\ss=aZ b:=by
 unfold sE at h;split at h
 .rw[ux]at h;have(b,e,h):=h;have g:=bP e;subst g;have(i,ws,ex,f,d):=l.list ok;rw[aq.strs]at d;subst d;split at h
  .cases h;show#[i,b,ex,.inl (j▸f),by assumption,rfl]
  .cases h
 .rw[ux]at h;have(b,e,h):=h;have g:=bP e;subst g;have(i,ws,ex,f,d):=l.tuple ok;rw[aq.strs]at d;subst d;rw[j]at f;split at h
  .cases h;show#[i,b,ex,.inr f,by assumption,rfl]
  .cases h
 .cases h
theorem qS{S:k9->Prop}:∀{xs:List U}{d:List cO}{vs:List V},lG xs=a8 d->aq C S H xs vs->∃ws:List (cO×k9),d=ws.map (·.1)/\vs=ws.map (λq=>V.ref q.2)/\∀q∈ws,eJ C.K H (.ref q.2) q.1
 |[],d,vs,e,h=>by cases e;cases h;show#[[],rfl,rfl,λq hq=>by cases hq]
 |u::us,d,vs,e,h=>by
  rw[lG,ux]at e;have(r,f,e):=e;have(t,g,rfl):=hQ.mp e;have i:=iD f;subst i;have(v,w,rfl,j,k):=h;have(ws,rfl,rfl,l):=qS g k;have m:=Rep.row j;have(a,b,rfl,n,o):=m;show#[(r,a)::ws,rfl,rfl,λq hq=>?_];rcases fz.mp hq with rfl|hq
  .show#[a,b,rfl,n,o]
  .show l q hq
def EJ(j:X.calm=c4)(D:X.A.units+60<K')(k:C.K=X.K)(t:Km C c0 c rs vs)(I:Inv X pins c.σ c.H s)(o:Vals vs us)(h:sF f rs=a8 r)(q:bS C c0 Q r c.st):
  js (mn X.prog X.w) X.A (R3 f.Q1 us) (λv s1=>js (mn X.prog X.w) X.A (R3 f.out [v]) (EP X pins c.σ Q) X.xe s1) X.xe s:=by
 have y:=t.hσ;have ok:=t.ok;have n:=t.nx;cases f with
 |sset =>
  have(x,rfl,hz):=bJ (f:=λx=>(sE x.2).bind λss=>if ss.length<64 then a8 (Kd.own,U.lst ((cC ss).map .str)) else cb) h;clear h;have h:=hz;clear hz;have(ss,e,h):=ux.mp h;have(v,rfl,m):=t.one;have(z,G,rfl,a,b,rfl):=nO k ok m e;have(u,rfl,d):=vals1 o;cases d;split at h
  .cases h;show jb j I a b λS h' B g i=>m7 j i g (by assumption) λl hl=>q.list y ok n (aq.strs.mpr rfl) l hl
  .cases h
 |fK =>
  have(x,rfl,hz):=bJ (f:=lH) h;clear h;have(O,J):=x;have(v,rfl,m):=t.one;unfold lH at hz;split at hz
  .rename_i ss e;cases hz;have(z,G,rfl,a,b,rfl):=nO k ok m e;have(u,rfl,d):=vals1 o;cases d;show jb j I a b λS h' B g i=>sj i g (q.flat y ok n rfl)
  .have hz:En J=a8 r:=hz;unfold En at hz;split at hz
   .rw[ux]at hz;have(T,e,hz):=hz;split at hz
    .cases hz;have(z,Y,rfl,a,b):=m.list ok;have(ws,rfl,rfl,L):=qS e b;have(u,rfl,d):=vals1 o;cases d;show qM j D I (k▸a) (λq N=>k▸L q N) (by simpa using(by assumption:(ws.map (·.1)).length<=64)) λS h' B g i=>qN i g (q.flat y ok n rfl)
    .cases hz
   .cases hz
 |_=>cases h
def uT:∀f:B2,Mq f.pw=a8 f.out/\Mq f.jh=a8 f.Q1/\f.pw≠"__name__"/\f.jh≠"__name__"/\(f.pw==("__debug__":Str))=dV/\(f.jh==("__debug__":Str))=dV:=by
 intro f;cases f<;>show#[by decide +kernel,by decide +kernel,by decide +kernel,by decide +kernel,by decide +kernel,by decide +kernel]
def EK(f:B2):∃T,f.Q1=.type T:=by cases f<;>show#[_,rfl]
def EL(f:B2):(∃T,f.out=.type T)\/∃T,f.out=.builtin T:=by cases f<;>first|show .inl ⟨_,rfl⟩|show .inr ⟨_,rfl⟩
def BR{M:Model}{E:fx->i4->Prop}(h:js M A t (λv a=>js M A (R3 (.type T) [v]) Q E a) E s):js M A (callWith pos (.type T) [] [(dV,t)] []) Q E s :=
 PySem.callWith_type rfl (RI (NP (tj h (λ_ _ b=>PB b) λ_ _ e=>e)))
def EM{M:Model}{E:fx->i4->Prop}(h:js M A t (λv a=>js M A (R3 (.builtin T) [v]) Q E a) E s):js M A (callWith pos (.builtin T) [] [(dV,t)] []) Q E s :=
 Wg rfl (RI (NP (tj h (λ_ _ b=>PB b) λ_ _ e=>e)))
def yU(b:X.calm=c4)(d:X.A.units+60<K')(g:C.K=X.K)(i:Gl X f.jh)(j:X.mg f.jh=cb)
  (k:PA X (e::es) (JP C ms)) (l:pa (e::es) X.env=(dV,MM e X.env)::pa es X.env) (m:(NZ pos2 (pa es X.env)).any (·.1)=dV)
  (I:Inv X pins c0.σ c0.H s) (ok:Ok C c0) (h:W (ms >>= λrs=>ao rs >>= λ_=>M.IT (sF f rs)) c0.st (bS C c0 Q)) :
  js (mn X.prog X.w) X.A (MM (.Call (.Name f.jh p2) (e::es) [] pos2) X.env) (λv s1=>js (mn X.prog X.w) X.A (R3 f.out [v]) (EP X pins c0.σ Q) X.xe s1) X.xe s:=by
 have(G,n,J,o,L,u):=uT f;show Es (dH I i j n ?_ o u);have a:js (mn X.prog X.w) X.A (Ŀ (NZ pos2 (pa (e::es) X.env))) (λus s1=>js (mn X.prog X.w) X.A (R3 f.Q1 us) (λv s1=>js (mn X.prog X.w) X.A (R3 f.out [v]) (EP X pins c0.σ Q) X.xe s1) X.xe s1) X.xe s :=
  IF (args k I ok h pos2) λus s1 x=>by
   have(rs,c,vs,t,y,B,w):=x;have(r,e,q):=bO.mp w;have z:=EJ b d g t y B e q;rw[t.hσ]at z;show z
 have(T,D):=EK f;rw[D]at a ⊢;show Ow a l m
def BS(d:X.calm=c4)(g:X.A.units+60<K')(i:C.K=X.K)(j:Gl X f.pw)(k:X.mg f.pw=cb)(l:Gl X f.jh)(m:X.mg f.jh=cb)
  (n:PA X (e::es) (JP C ms)) (o:pa (e::es) X.env=(dV,MM e X.env)::pa es X.env) (q:(NZ pos2 (pa es X.env)).any (·.1)=dV) :
  PE X (.Call (.Name f.pw p) [.Call (.Name f.jh p2) (e::es) [] pos2] [] pos) (IG C (ms >>= λrs=>ao rs >>= λ_=>M.IT (sF f rs))):=by
 rintro pins s σ H Q I ⟨c0,rfl,rfl,ok,h⟩;have(r,x,t,y,u,z):=uT f;show Es (dH I j k r ?_ t u);have a:=yU (p2:=p2) (pos2:=pos2) d g i l m n o q I ok h;have v:NZ pos (pa [.Call (.Name f.jh p2) (e::es) [] pos2] X.env)=[(dV,MM (.Call (.Name f.jh p2) (e::es) [] pos2) X.env)]:=rfl;have w:YI pos (U2 [] X.env)=[]:=rfl;rw[v,w];rcases EL f with⟨T,b⟩|⟨T,b⟩
 .rw[b]at a ⊢;show BR a
 .rw[b]at a ⊢;show EM a
end
section
variable{X:Cx}{C:Ct}{pins:List (k9×Obj)}{s:i4}{c0 c c1:Cf}
variable{a b d e o tg:vr}{es:List vr}{m ma mb md:M (Kd×U)}{ms:M (List (Kd×U))}{ta tb:M Bool}{pos p p2 apos IC:Pos}
abbrev lO(rs:List (Kd×U))(c f:Cf):Prop:=∀j u,(Kd.bor j,u)∈rs->f.σ[j]?=c.σ[j]?
abbrev Walk(C:Ct)(c:Cf)(rs:List (Kd×U))(xs:List (Kd×U))(J:It):Prop:=∀f,Ok C f->Ns c f->lO rs c f->bf rs f.st ->
 (∀(i:Nat) r,xs[i]?=a8 r->(r.1=.loc\/r.1=.any)/\J.go i f.H/\∀x H',J.QD i f.H x H'->∃g:Cf,g.H=H'/\g.σ=f.σ/\g.st=f.st/\Ok C g/\Nx f g/\aN C f g r.1 r.2 x) /\
 ∀i:Nat,xs.length<=i->J.stop i f.H
abbrev Mi(C:Ct)(f:Ik)(ms:M (List (Kd×U))):TI:=λσ H R=>∃c0:Cf,c0.σ=σ/\c0.H=H/\Ok C c0/\W (ms >>= λrs=>ao rs >>= λ_=>M.IT (JX f rs) >>= λxs=>pure (rs,xs)) c0.st λq st' =>
 ∀c J,c.σ=σ->c.st=st'->Ok C c->Nx c0 c->bf q.1 c.st->Walk C c q.1 q.2 J->R J c.H
def aN.walk(ok:Ok C c)(n:Ns c f)(g:lO [r] c f)(hs:bf [r] f.st)(h:aN C c0 c r.1 r.2 v):aN C c0 f r.1 r.2 v :=
 (h.w.UW ok n λj e=>g j r.2 (by rw[<-e];simp)).t hs
def C5(k:Kd):kE k=.loc\/kE k=.any:=by cases k<;>simp[kE]
def wF(z:C.K=X.K)(ok:Ok C c)(h:aN C c0 c k (.lst us) (.ref A)):Walk C c [(k,.lst us)] (us.map λu=>(kE k,u)) (Rq X.K A):=by
 intro l q n B hs;have h':=aN.walk (r:=(k,.lst us)) ok n B hs h;have(H,vs,e,f,t):=h'.list q;cases e;rw[z]at f;show#[λi r w=>?_,λi D=>#[vs,f,by rw[<-t.len];simpa using D]];rw[ti,hQ]at w;have(u,G,rfl):=w;have(v,y,g):=t.get G;show#[C5 k,#[vs,v,f,y],λx H' j=>?_];have(e,j):=j;subst e;have:=j vs f;rw[y]at this;cases this;show#[l,rfl,rfl,rfl,q,Nx.refl l,aN.item g]
def sL(z:C.K=X.K)(ok:Ok C c)(h:aN C c0 c k (.tup us) (.ref A)):Walk C c [(k,.tup us)] (us.map λu=>(kE k,u)) (Rr X.K A):=by
 intro l q n B hs;have h':=aN.walk (r:=(k,.tup us)) ok n B hs h;have(H,vs,e,f,t):=h'.tuple q;cases e;rw[z]at f;show#[λi r w=>?_,λi D=>#[vs,f,by rw[<-t.len];simpa using D]];rw[ti,hQ]at w;have(u,G,rfl):=w;have(v,y,g):=t.get G;show#[C5 k,#[vs,v,f,y],λx H' j=>?_];have(e,j):=j;subst e;have:=j vs f;rw[y]at this;cases this;show#[l,rfl,rfl,rfl,q,Nx.refl l,aN.item g]
def yV:Walk C c [(k,.str x)] (x.cps.toList.map λch=>(.loc,.str #[#v[ch]])) (R0 x):=by
 intro f l n u hs;show#[λi r g=>?_,λi q=>by change x.cps.toList.length<=i;simpa using q];rw[ti,hQ]at g;have(ch,h,rfl):=g;show#[.inl rfl,(mr.mp h).1,λy H' t=>?_];have(e,v,j,rfl):=t;subst e;rw[h]at j;cases j;show#[f,rfl,rfl,rfl,l,Nx.refl f,rfl]
def lP{lo:Int}:Walk C c rs ((gA n).map λi:Nat=>(Kd.loc,U.int (lo+(i:Int)))) (O_ lo n):=by
 intro h l nx t hs;show#[λi r k=>?_,λi f=>by change n<=i;simpa using f];rw[ti,hQ]at k;have(j,g,rfl):=k;have f:i<n:=by simpa using(mr.mp g).1
 rw[Yo f]at g;cases g;show#[.inl rfl,f,λy H' q=>?_];have(e,rfl):=q;subst e;show#[h,rfl,rfl,rfl,l,Nx.refl h,rfl]
def EN(j:C.K=X.K)(q:PE X a (IG C ma)):PI X tg a (Mi C .seq (ma >>= λr=>pure [] >>= λrs=>pure (r::rs))):=by
 rintro pins s σ H R I ⟨c0,rfl,rfl,ok,h⟩;rw[aj,aj]at h;have(r,st1,t,h):=h;rw[aj,ak,ak,aj,bj,aj]at h;have(w,h):=h;have(xs,l,h):=bO.mp h;rw[ak]at h;have(k,u):=r;cases u with
 |lst us =>
  cases l;show AM q pins s c0.σ c0.H R I #[c0,rfl,rfl,ok,_,st1,t,λc v i hs g n f=>?_];have(y,vs,rfl,z,B):=f.list g;subst hs;show#[y,rfl,#[vs,j▸z],h c _ i rfl g n w (wF j g f)]
 |tup us =>
  cases l;show DM q pins s c0.σ c0.H R I #[c0,rfl,rfl,ok,_,st1,t,λc v i hs g n f=>?_];have(y,vs,rfl,z,B):=f.tuple g;subst hs;have A:=z;rw[j]at A;show#[y,rfl,#[vs,A],h c _ i rfl g n w (sL j g f)]
 |str x =>
  cases l;show D3 q pins s c0.σ c0.H R I #[c0,rfl,rfl,ok,_,st1,t,λc v i hs g n f=>?_];subst hs;show#[_,f.str g,h c _ i rfl g n w yV]
 |_=>cases l
def yW{k:List (Kd×U)->M β}{Post:β->ar->Prop}(ok:Ok C c0)(h:W (ms >>= λrs=>ao rs >>= λ_=>k rs) c0.st Post)
  (hz:∀rs c vs,Km C c0 c rs vs->W (k rs) c.st Post->Z vs c.H):JP C ms c0.σ c0.H Z:=by
 rw[aj]at h;show#[c0,rfl,rfl,ok,h.mono λrs st1 f c1 vs g i j l n=>?_];rw[aj,bj]at f;subst i;show hz rs c1 vs #[g,j,l,n,f.1] f.2
def BU(i:Gl X "range")(j:X.mg "range"=cb)(hs:pa [a] X.env=[(dV,MM a X.env)])(k:PA X [a] (JP C ms)):PI X tg (.Call (.Name "range" p) [a] [] pos) (Mi C .Je ms):=by
 rintro pins s σ H R I ⟨c0,rfl,rfl,ok,h⟩;show vQ i j k hs pins s c0.σ c0.H R I (yW ok h λrs c vs t w=>?_);rw[aj]at w;have(xs,g,w):=bO.mp w;rw[ak]at w;have(x,rfl,hz):=bJ (f:=sG) g;clear g;have g:=hz;clear hz;have(v,rfl,l):=t.one;unfold sG at g;split at g
 .split at g
  .rename_i hh;cases g;show#[_,by rw[l.int t.ok],⋯,⋯,w c _ t.hσ rfl t.ok t.nx t.N7 lP]
  .cases g
 .cases g
def BV(g:Gl X "range")(i:X.mg "range"=cb)(hs:pa [a,b] X.env=[(dV,MM a X.env),(dV,MM b X.env)])(j:pa [b] X.env=[(dV,MM b X.env)])(k:PA X [a,b] (JP C ms)):PI X tg (.Call (.Name "range" p) [a,b] [] pos) (Mi C .Lw ms):=by
 rintro pins s σ H R I ⟨c0,rfl,rfl,ok,h⟩;show vR g i k hs j pins s c0.σ c0.H R I (yW ok h λrs c vs t w=>?_);rw[aj]at w;have(xs,f,w):=bO.mp w;rw[ak]at w;have f:Eo rs=a8 xs:=f;unfold Eo at f;split at f
 .split at f
  .rename_i hh;cases f;have(v,n,rfl,l,ty):=t.two;show#[_,_,by rw[l.int t.ok,ty.int t.ok],⋯,w c _ t.hσ rfl t.ok t.nx t.N7 lP]
  .cases f
 .cases f
def Ok.put(ok:Ok C c)(n:Nx c0 c)(T:i<c.σ.length)(hk:k=.own\/k=.loc\/k=.any)(JS:Ok C c0)(h:aN C c0 c k u v):
  Ok C {c with σ:=c.σ.set i (a8 v),st:=c.st.set i (a8 (k,u))}/\Nx c0 {c with σ:=c.σ.set i (a8 v),st:=c.st.set i (a8 (k,u))}:=by
 have Y:i<c.st.length:=by rw[ok.len];show T
 have J6:∀(j:Nat) k' u',(c.st.set i (a8 (k,u)))[j]?=a8 (a8 (k',u'))->j≠i->c.st[j]?=a8 (a8 (k',u')):=λj k' u' e ne=>by rw[ro (Mk ne)]at e;show e
 have S3:∀(j:Nat) D,(c.σ.set i (a8 v))[j]?=a8 (a8 D)->j≠i->c.σ[j]?=a8 (a8 D):=λj D e ne=>by rw[ro (Mk ne)]at e;show e
 have sl:fQ C c.S c.H k u v:=by
  rcases hk with rfl|rfl|rfl
  .have(r,e,G,L,x,N):=h;have(z0,z1,O,z3,z4):=JS.ph G;show#[r,e,L,O,z0,N]
  .show h
  .show h
 have N9:∀(j:Nat) k' u' r,k'.root=c4->(c.st.set i (a8 (k,u)))[j]?=a8 (a8 (k',u'))->(c.σ.set i (a8 v))[j]?=a8 (a8 (.ref r))->j=i/\k=.own/\v=.ref r\/j≠i/\c.st[j]?=a8 (a8 (k',u'))/\c.σ[j]?=a8 (a8 (.ref r)):=λj k' u' r I g l=>by
  by_cases f:j=i
  .subst f;rw[rr Y]at g;rw[rr T]at l;cases g;cases l;rcases hk with rfl|rfl|rfl
   .show .inl #[rfl,rfl,rfl]
   .cases I
   .cases I
  .show .inr #[f,J6 j k' u' g f,S3 j _ l f]
 have dD:∀(j:Nat) (u':U),(c.st.set i (a8 (k,u)))[j]?=a8 (a8 (.IH,u'))->c.st[j]?=a8 (a8 (.IH,u'))/\(c.σ.set i (a8 v))[j]?=c.σ[j]?:=λj u' e=>by
  by_cases f:j=i
  .subst f;rw[rr Y]at e;cases e;rcases hk with hk|hk|hk<;>cases hk
  .show#[J6 j .IH u' e f,ro (Mk f)]
 have y:∀a,({c with σ:=c.σ.set i (a8 v),st:=c.st.set i (a8 (k,u))}:Cf).R1 a->c.R1 a\/k=.own/\v=.ref a:=λa Jq=>by
  have(j,k',u',I,g,l):=Jq;rcases N9 j k' u' a I g l with⟨Q,t,w⟩|⟨Q,t,w⟩
  .show .inr #[t,w]
  .show .inl #[j,k',u',I,t,w]
 have Mw:Lv C {c with σ:=c.σ.set i (a8 v),st:=c.st.set i (a8 (k,u))}:=ok.dd.of rfl dD (λa z=>(y a z).imp id λ⟨q1,q2⟩ j z'=>by
  subst q1;have(J,e,_,_,x,_):=h;rw[q2]at e;cases e;show x (.inr #[j,z'])) (.up λ_ z=>z) λj a z=>#[(ok.root (.inr #[j,z])).1,λo q=>q]
 show#[#[ok.same,ok.K7,ok.par,ok.io,by simp[ok.len],λj k' u' e=>?_,λj1 j2 k1 k2 u1 u2 r S4 P6 g l e3 e4=>?_,Mw],#[#[n.keep,n.there,λa z=>?_,n.sub,n.new]]]
 .by_cases f:j=i
  .subst f;rw[rr Y]at e;cases e;show#[v,by rw[rr T],sl]
  .have(D,g,l):=ok.sl j k' u' (J6 j k' u' e f);show#[D,by rw[ro (Mk f)];show g,l]
 .have z1:=N9 j1 k1 u1 r S4 g e3;have O:=N9 j2 k2 u2 r P6 l e4;rcases z1 with⟨Q,t,w⟩|⟨Q,t,w⟩
  .rcases O with⟨y,A,B⟩|⟨y,A,B⟩
   .show Q.trans y.symm
   .subst t;have(J,e,G,L,x,N):=h;rw[w]at e;cases e;show(x (.inl #[j2,k2,u2,P6,A,B])).elim
  .rcases O with⟨y,A,B⟩|⟨y,A,B⟩
   .subst A;have(J,e,G,L,x,N):=h;rw[B]at e;cases e;show(x (.inl #[j1,k1,u1,S4,t,w])).elim
   .show ok.inj j1 j2 k1 k2 u1 u2 r S4 P6 t A w B
 .rcases z with z|⟨j,u',J,g,l,e3⟩
  .rcases y a z with z|⟨t,w⟩
   .show n.roots a (.inl z)
   .subst t;have(J,e,G,L,x,N):=h;rw[w]at e;cases e;show .inr G
  .have(q1,q2):=dD j u' g;show n.roots a (.inr #[j,u',J,q1,q2▸l,e3])
def kN(y:Ok C c0)(ok:Ok C c)(n:Nx c0 c)(z:i<c.σ.length)(q:aN C c0 c r.1 r.2 v)(h:W (dr i r) c.st Post):
  ∃t,t.σ=c.σ.set i (a8 v)/\t.H=c.H/\Ok C t/\Nx c0 t/\Post () t.st:=by
 have(k,u):=r;cases k with
 |own =>
  have(x,st',e,f):=h;cases e;have(g,l):=ok.put n z (.inl rfl) y q;show#[{c with σ:=c.σ.set i (a8 v),st:=c.st.set i (a8 (.own,u))},rfl,rfl,g,l,f]
 |loc =>
  have(x,st',e,f):=h;cases e;have(g,l):=ok.put n z (.inr (.inl rfl)) y q;show#[{c with σ:=c.σ.set i (a8 v),st:=c.st.set i (a8 (.loc,u))},rfl,rfl,g,l,f]
 |any =>
  have(x,st',e,f):=h;cases e;have(g,l):=ok.put n z (.inr (.inr rfl)) y q;show#[{c with σ:=c.σ.set i (a8 v),st:=c.st.set i (a8 (.any,u))},rfl,rfl,g,l,f]
 |bor j =>
  have(x,st',e,f):=h;rw[show dr i (.bor j,u) c.st=match c.st[j]? with|some (a8 (.own,u))=>a8 (Ex.ok (),(c.st.set j (a8 (.loc,u))).set i (a8 (.loc,u)))|_=>cb from rfl]at e;split at e
  .rename_i w B;cases e;have(N,D,r,I,_):=ok.sl j _ _ B;have G:c.σ[j]?=a8 (a8 v):=q.2;rw[G]at D;cases D;subst I;have(J,L,A):=ok.yP n B G;have(g,l):=Ok.put (c:={c with S:=λa=>c.S a\/a=r,st:=c.st.set j (a8 (.loc,w))}) J L (k:=.loc) (u:=w) (v:=.ref r) z (.inr (.inl rfl)) y A;show#[{S:=λa=>c.S a\/a=r,H:=c.H,σ:=c.σ.set i (a8 (.ref r)),st:=(c.st.set j (a8 (.loc,w))).set i (a8 (.loc,w)),kid:=c.kid},rfl,rfl,g,l,f]
  .cases e
 |_=>show q.elim
end
section
abbrev tG(C:Ct)(t:Bool)(is:List Nat):TG:=λv σ H Q=>∃b c r,c.σ=σ/\c.H=H/\Ok C b/\Ok C c/\Nx b c/\aN C b c r.1 r.2 v/\W (dt t is r) c.st λ_ st' =>
 ∀a,a.st=st'->Ok C a->Nx b a->(∀j,j∉is->a.σ[j]?=c.σ[j]?)->a.σ.length=c.σ.length->Q a.σ a.H
structure sM(X:Cx)(e:vr)(i:Nat):Prop where
 is:∃x pos,e=.Name x pos/\X.N[i]?=a8 x/\Loc X.env.scope x/\(X.fn x=c4\/X.env.scope.names.lookup x=a8 .local)
def EO(f:X.N.Nodup)(h:sM X e i):PG X e (tG C dV [i]):=by
 have(x,pos,rfl,d,g,k):=h.is;rintro pins s σ H v u Q I l ⟨D,c,r,rfl,rfl,m,ok,n,a,w⟩;have o:i<c.σ.length:=by rw[I.len];show(mr.mp d).1
 have(p,b,t,y,A,q):=kN (r:=r) m ok n o a w;show ud f d g k pins s c.σ c.H v u Q I l ?_;have z:=q p rfl y A (λj B=>by rw[b,ro (by intro z;show B (by simp[z]))]) (by rw[b];simp);rw[b,t]at z;show z
abbrev S5:List Nat->OB
 |[]=>FV
 |i::is=>CO (uc i) (S5 is)
inductive fg(X:Cx):List vr->List Nat->Prop where
 |nil:fg X [] []
 |cons {e:vr} {es:List vr} {i:Nat} {is:List Nat} (h:sM X e i) (t:fg X es is):fg X (e::es) (i::is)
def wG(a:X.N.Nodup)(h:fg X es is):O8 X es (S5 is):=by
 induction h with
 |nil=>show AK
 |cons h t b =>
  have(x,pos,rfl,c,d,e):=h.is;show xJ (ud a c d e) b rfl
def sN(h:fg X es is):(Tc es X.env).length=is.length/\(Tc es X.env).findIdx? (·.1)=cb:=by
 induction h with
 |nil=>show#[rfl,rfl]
 |cons h t a =>
  have(x,pos,rfl,b,c,d):=h.is;show#[?_,?_]
  .change(_::_).length=_;simp[a.1]
  .change ĸ _ (_::_)=cb;rw[List.findIdx?_cons,Ÿ (by simp),a.2];rfl
theorem uU(hk:kE k=k)(h:Ok C g):∀{is:List Nat}{us:List U}{vs:List V}{c:Cf}{Post:Unit->ar->Prop}{Q:L2.St->Hp->Prop},Ok C c->Nx g c->(∀i∈is,i<c.σ.length)->aq C (SK C c k) c.H us vs->W (sets is (us.map λu=>(k,u))) c.st Post ->
  (∀b,Post () b.st->Ok C b->Nx g b->(∀j,j∉is->b.σ[j]?=c.σ[j]?)->b.σ.length=c.σ.length->Q b.σ b.H)->S5 is vs c.σ c.H Q
 |[],[],vs,c,Post,Q,ok,n,d,a,w,q=>by
  rw[show sets [] (Zv (λu=>(k,u)) [])=pure () from rfl,ak]at w;show#[a,q c w ok n (λ_ _=>rfl) rfl]
 |[],u::us,vs,c,Post,Q,ok,n,d,a,w,q=>(a9.mp w).elim
 |i::is,[],vs,c,Post,Q,ok,n,d,a,w,q=>(a9.mp w).elim
 |i::is,u::us,vs,c,Post,Q,ok,n,d,a,w,q=>by
  rw[show sets (i::is) (Zv (λu=>(k,u)) (u::us))=dr i (k,u) >>= λ_=>sets is (us.map λu=>(k,u)) from rfl,aj]at w;have(v,r,rfl,l,m):=a;have o:k=.own\/k=.loc\/k=.any:=by cases k<;>simp[kE]at hk<;>simp
  have D:k≠.own:=by cases k<;>simp[kE]at hk<;>simp
  have rt:aN C g c k u v:=by rw[<-hk];show aN.item l
  have(s,t):=ok.put n (d i (by simp)) o h rt;have es:dr i (k,u)=λst=>a8 (.ok (),st.set i (a8 (k,u))):=by cases k<;>simp[kE]at hk<;>rfl
  have(_,st',e,x):=w;rw[es]at e;cases e;show#[v,r,rfl,uU (c:={c with σ:=c.σ.set i (a8 v),st:=c.st.set i (a8 (k,u))}) hk h s t (λj f=>by simpa using d j (by simp[f])) (by cases k<;>show m) x λb p y A B hl=>?_];show q b p y A (λj f=>?_) (by rw[hl];simp);rw[B j (λz=>f (by simp[z])),ro (λz=>f (by simp[z]))]
def GO(g:X.calm=c4)(j:C.K=X.K)(m:X.N.Nodup)(h:fg X es is)(hl:∀i∈is,i<X.N.length):PG X (.Tuple es Y pos) (tG C c4 is):=by
 rintro pins s σ H v u Q I o ⟨c0,c,r,rfl,rfl,q,ok,n,b,w⟩;have(t,y):=sN h;show DI g (wG m h) t y pins s c.σ c.H v u Q I o ?_;have(k,z):=r;cases z with
 |tup us =>
  rw[show dt c4 is (k,.tup us)=sets is (us.map λu=>(kE k,u)) from by cases is<;>rfl]at w;have(A,vs,rfl,e,f):=b.tuple ok;rw[j]at e;have a:us.length=is.length:=by
   have d:∀(is:List Nat) (l:List (Kd×U)) (st:ar) (P:Unit->ar->Prop),W (sets is l) st P->l.length=is.length:=by
    intro is;induction is with
    |nil=>intro l st P w;cases l with
     |nil=>rfl
     |cons _ _=>show(a9.mp w).elim
    |cons i is B=>intro l st P w;cases l with
     |nil=>show(a9.mp w).elim
     |cons x l =>
      rw[show sets (i::is) (x::l)=dr i x >>= λ_=>sets is l from rfl,aj]at w;have(_,_,_,w):=w;rw[lg,lg,B l _ _ w]
   simpa using d _ _ _ _ w
  show#[A,vs,rfl,e,by rw[<-f.len,a],?_];show uU (k:=kE k) (by cases k<;>rfl) q ok n (λi D=>by rw[I.len];show hl i D) (by cases k<;>show f) w λG p J L O T=>p G rfl J L O T
 |_=>cases is<;>show(a9.mp w).elim
end
section
variable{X:Cx}{C:Ct}{pins:List (k9×Obj)}{s:i4}{c0 c c1:Cf}
variable{a b d e o tg iter elt:vr}{es ifs:List vr}{m ma mb md me:M (Kd×U)}{ms:M (List (Kd×U))}{ta tb tc:M Bool}{pos p p2 apos IC:Pos}
def nP{m:M α}{st:ar}{Q:α->ar->Prop}:W (inScope k m) st Q↔W m (mh k cb++st) λa st'=>Q a (st'.drop k):=by
 constructor
 .rintro⟨a,st',e,h⟩;unfold inScope at e;cases q:m (mh k cb++st) with
  |none=>rw[q]at e;cases e
  |some r=>have(g,f):=r;rw[q]at e;cases e;show#[a,f,q,h]
 .rintro⟨a,st',e,h⟩;show#[a,st'.drop k,by unfold inScope;rw[e],h]
abbrev Cf.ext(k:Nat)(c:Cf):Cf:={c with σ:=mh k cb++c.σ,st:=mh k cb++c.st,kid:=λj=>c.kid (j - k)}
abbrev Cf.cut(k:Nat)(c:Cf):Cf:={c with σ:=c.σ.drop k,st:=c.st.drop k,kid:=λj=>c.kid (k+j)}
def gB(h:(mh k cb++l)[j]?=a8 (a8 x)):∃i,j=k+i/\l[i]?=a8 (a8 x):=by
 by_cases f:j<k
 .rw[C0 (by simpa using f)]at h;rw[M0]at h;rw[ŵ f]at h;cases h
 .show#[j - k,⋯,?_];rw[y0 (by simp;lia)]at h;simpa using h
def fh:(mh k cb++l)[k+i]?=l[i]?:=by
 rw[y0 (by simp)];simp
def yX:(c.ext k).R1 r↔c.R1 r:=by
 constructor
 .rintro⟨j,g,u,h,l,f⟩;have(i,rfl,e):=gB l;rw[Cf.ext,fh]at f;show#[i,g,u,h,e,f]
 .rintro⟨i,g,u,h,l,f⟩;show#[k+i,g,u,h,by rw[Cf.ext,fh];show l,by rw[Cf.ext,fh];show f]
def pz{a:k9}(h:(c.ext k).RD j a):∃i,j=k+i/\c.RD i a:=by
 have(u,r,l,f,g):=h;have(i,rfl,e):=gB l;rw[Cf.ext,fh]at f;show#[i,rfl,u,r,e,f,?_];have:(c.ext k).kid (k+i)=c.kid i:=by change c.kid (k+i - k)=_;rw[Z3]
 rw[this]at g;show g
def GP(h:(c.ext k).R r):c.R r:=by
 rcases h with h|⟨j,h⟩
 .show .inl (yX.mp h)
 .have(i,_,h):=pz h;show .inr #[i,h]
def Ok.ext(k:Nat)(ok:Ok C c):Ok C (c.ext k)/\Nx c (c.ext k):=by
 show#[#[ok.same,ok.K7,ok.par,ok.io,by simp[Cf.ext,ok.len],λj z u e=>?_,λi j k1 k2 u u' r A B g f x y=>?_,#[λj u r g f=>?_,λi j a l n=>?_,λj a l n=>?_]],#[#[λ_ _ h _=>h,λ_ o h=>#[o,h],λa h=>.inl (GP h),λ_ h=>h,λ_ h=>.inl h]]]
 .have(i,rfl,D):=gB e;have(v,g,f):=ok.sl i z u D;show#[v,by rw[Cf.ext,fh];show g,f]
 .have(q,rfl,G):=gB g;have(t,rfl,H):=gB f;rw[Cf.ext,fh]at x y;rw[ok.inj q t k1 k2 u u' r A B G H x y]
 .have(i,rfl,e):=gB g;rw[Cf.ext,fh]at f;have:(c.ext k).kid (k+i)=c.kid i:=by change c.kid (k+i - k)=_;rw[Z3]
  rw[this];show ok.dd.kd i u r e f
 .have(q,rfl,w):=pz l;have(t,rfl,I):=pz n;rw[ok.dd.dj q t a w I]
 .have(i,rfl,w):=pz l;show ok.dd.d1 i a w (yX.mp n)
def yY{a:k9}(h:(c.cut k).R1 a):c.R1 a:=by
 have(j,i,u,l,f,g):=h;rw[Cf.cut,Pq]at f g;show#[k+j,i,u,l,f,g]
def pA{a:k9}(h:(c.cut k).RD j a):c.RD (k+j) a:=by
 have(u,r,f,g,i):=h;rw[Cf.cut,Pq]at f g;show#[u,r,f,g,i]
def Ok.cut(k:Nat)(ok:Ok C c):Ok C (c.cut k)/\Nx c (c.cut k):=by
 show#[#[ok.same,ok.K7,ok.par,ok.io,by simp[Cf.cut,ok.len],λj w u e=>?_,λi j k1 k2 u u' r x y f g q t=>?_,#[λj u r f g=>?_,λi j a l n=>?_,λj a l n=>ok.dd.d1 _ a (pA l) (yY n)]],#[#[λ_ _ h _=>h,λ_ o h=>#[o,h],λa h=>.inl (h.elim (λz=>.inl (yY z)) λ⟨j,z⟩=>.inr #[k+j,pA z]),λ_ h=>h,λ_ h=>.inl h]]]
 .rw[Cf.cut,Pq]at e;have(v,f,g):=ok.sl _ w u e;show#[v,by rw[Cf.cut,Pq];show f,g]
 .rw[Cf.cut,Pq]at f g q t;have:=ok.inj _ _ k1 k2 u u' r x y f g q t;lia
 .rw[Cf.cut,Pq]at f g;show ok.dd.kd _ u r f g
 .have:=ok.dd.dj _ _ a (pA l) (pA n);lia
def uV(h:∀j,j∉gA k->g[j]?=(mh k cb++σ)[j]?)(hl:g.length=(mh k (cb:Option V)++σ).length):∃f:L2.St,f.length=k/\g=f++σ:=by
 show#[g.take k,by rw[ve,hl];simp,?_];apply ă;intro j;by_cases i:j<k
 .rw[C0 (by rw[ve,hl];simp;lia),List.getElem?_take,ŵ i]
 .rw[h j (by simpa using i),y0 (by simp;lia),y0 (by rw[ve,hl];simp;lia)];congr 1
  rw[ve,hl];simp
def wH(e1:c1.σ=c0.σ)(IJ:Ok C c1)(n1:Nx c0 c1)(hw:Walk C c1 rs xs J)(h3:W (bR k t tc me rs xs []) c1.st λus st'=>W (pure (Kd.own,U.lst us)) st' (bS C c0 Q)):
  nF k J (tG C t (gA k)) (JY C tc) (IG C me) Q c0.σ c1.H:=by
 show#[λi m ys H=>∃c f,c.H=H/\c.σ=c0.σ/\Ok C c/\Nx c1 c/\m=xs.length - i/\i<=xs.length/\aq C c.S c.H f ys/\f.length<=eh/\W (bR k t tc me rs (xs.drop i) f) c.st λus st'=>W (pure (Kd.own,U.lst us)) st' (bS C c0 Q),#[xs.length,c1,[],rfl,e1,IJ,Nx.refl c1,by simp,pb _,rfl,pb _,by simpa using h3],?_];rintro i m ys H ⟨c,f,rfl,G,y,A,rfl,hi,h,l,w⟩;show#[by rw[<-h.len];show l,?_];have g:lO rs c1 c:=λj u _=>by rw[G,e1]
 by_cases I:i<xs.length
 .right
  rw[Py I]at w;rw[show bR k t tc me rs (xs[i]::xs.drop (i+1)) f=ao rs >>= λ_=>inScope k (dt t (gA k) xs[i] >>= λ_=>tc >>= λb=>if b=c4 then(me >>= λr=>lift r >>= λu=>pure (a8 u)) else pure cb) >>= λr=>match r with|some u=>if f.length<eh then bR k t tc me rs (xs.drop (i+1)) (f++[u]) else M.fail|none=>bR k t tc me rs (xs.drop (i+1)) f from rfl,aj,bj]at w;have(KO,w):=w;have(L,_):=hw c y A g KO;have(N_,P9,Nj):=L i xs[i] (by simp[I]);show#[P9,λLp H'=>∃c f,c.H=H'/\c.σ=c0.σ/\Ok C c/\Nx c1 c/\aq C c.S c.H f Lp/\f.length<=eh/\W (bR k t tc me rs (xs.drop (i+1)) f) c.st λus st'=>W (pure (Kd.own,U.lst us)) st' (bS C c0 Q),λLp H' ⟨c',ML,z1,z2,z3,z4,z5,z6,z7⟩=>#[xs.length - (i+1),⋯,c',ML,z1,z2,z3,z4,rfl,I,z5,z6,z7],λx H' hy=>?_];have(n,rfl,e4,e5,I_,n2,rt):=Nj x H' hy;rw[aj,nP,aj]at w;have(N',nx):=I_.ext k;have S6:aN C (n.ext k) (n.ext k) xs[i].1 xs[i].2 x:=by
   rcases N_ with z|z
   .rw[z]at rt ⊢;show rt
   .rw[z]at rt ⊢;show rt
  have eσ:(n.ext k).σ=mh k cb++c0.σ:=by rw[Cf.ext];change mh k cb++n.σ=_;rw[e4,G]
  show#[n.ext k,n.ext k,xs[i],eσ,rfl,N',N',Nx.refl _,S6,?_];have S7:(n.ext k).st=mh k cb++c.st:=by rw[Cf.ext];change mh k cb++n.st=_;rw[e5]
  rw[S7];show w.mono λ_ st3 w3 c3 e6 KW n3 Mj MU=>?_;subst e6;rw[eσ]at Mj MU;have(N,O,T):=uV Mj MU;show#[N,O,T,?_];have P_:Nx c c3:=(n2.trans nx).trans n3;rw[aj]at w3;show#[c3,rfl,rfl,KW,w3.mono λb OG q D e7 e8 Y n4=>?_];subst e8;cases b with
  |false =>
   rw[Ÿ my]at q ⊢;rw[ak]at q;have(Oa,nk):=Y.cut k;have nn:Nx c (D.cut k):=(P_.trans n4).trans nk;show#[D.cut k,f,rfl,?_,Oa,A.trans nn,h.mv (y.mv nn),l,q];change D.σ.drop k=_;rw[e7,T,Uq O]
  |true =>
   rw[ŵ rfl]at q ⊢;rw[aj]at q;show#[D,e7,rfl,Y,q.mono λr MB w5 c5 v e9 LA Qa n5 S9=>?_];subst LA;rw[aj]at w5;have(S',st',u,sS,S_,n6,Ob,B,_,_):=kM Y Qa n5 S9.w w5;rw[ak]at B
   dsimp only at B
   split at B
   .rename_i hz;have(Oa,nk):=S_.cut k;have nn:Nx c (Cf.cut k {c5 with S:=S',st:=st' }):=((P_.trans n4).trans n6).trans nk;show#[Cf.cut k {c5 with S:=S',st:=st' },f++[u],rfl,?_,Oa,A.trans nn,(h.mv (y.mv nn)).snoc Ob,by rw[ko];show hz,B];change c5.σ.drop k=_;rw[e9,T,Uq O]
   .show(a9.mp B).elim
 .left
  have J_:i=xs.length:=by lia
  subst J_;rw[Y7,show bR k t tc me rs [] f=ao rs >>= λ_=>pure f from rfl,aj,bj,ak,ak]at w;have(_,L):=hw c y A g w.1;show#[L _ (ke _),λp hp=>bS.list w.2 G y (n1.trans A) h p hp]
def nQ(ok:Ok C c0)
  (h:W (ms >>= λrs=>ao rs >>= λ_=>M.IT (JX l rs) >>= λxs=>bR k t tc me rs xs [] >>= λus=>pure (Kd.own,U.lst us)) c0.st (bS C c0 Q)) :
  x5 k (Mi C l ms) (tG C t (gA k)) (JY C tc) (IG C me) c0.σ c0.H Q:=by
 rw[aj]at h;show#[c0,rfl,rfl,ok,?_];rw[aj];show h.mono λrs st1 f=>?_;rw[aj,bj]at f ⊢;show#[f.1,?_];have g:=f.2;rw[aj]at g ⊢;show g.mono λxs st2 i=>?_;rw[ak];intro c1 J n q r u v j;rw[aj]at i;subst q
 dsimp only at v j
 show wH n r u j i
def yZ(S:cA X N own scope)(f:X.calm=c4)(g:PI X tg iter (Mi C i ms))
  (j:∀D s H ex,PG (Jr X N scope D s H ex) tg (tG C t (gA own.length))) (k:∀D s H ex,MH (Jr X N scope D s H ex) ifs (JY C tc)) (l:∀D s H ex,PE (Jr X N scope D s H ex) elt (IG C me))
  (hs:∀x,NC iter X.env x=pure x) :
  PE X (.ListComp elt [⟨tg,iter,ifs,0⟩] scope pos) (IG C (ms >>= λrs=>ao rs >>= λ_=>M.IT (JX i rs) >>= λxs=>bR own.length t tc me rs xs [] >>= λus=>pure (.own,.lst us))):=by
 show PE.weak (A5 S f g j k l hs) ?_;rintro σ H Q ⟨c0,rfl,rfl,ok,h⟩;show nQ ok h
end
section
variable{a b d e o tg iter elt:vr}{es ifs:List vr}{m ma mb md me:M (Kd×U)}{ms:M (List (Kd×U))}{ta tb tc:M Bool}{pos p p2 apos IC:Pos}{st:PV}{rest body:List PV}{f g mm:M Fl}{ns Q2:Nat->Bool}
def ER(C:Ct)(c:Cf):Kd->U->V->Prop
 |.own,u,v=>∃r,v=.ref r/\C.H₀ r=cb/\¬c.S r/\¬c.R r/\cZ C c.S c.H r u
 |.loc,u,v=>Rep C c.S c.H u v
 |.any,u,v=>Rep C (PS C c.S) c.H u v
 |_,_,_=>False
def Im(C:Ct)(Q:VK)(c:Cf):Kd->U->Prop
 |.io,u=>C.xw u c.H
 |k,u=>∀v,ER C c k u v->Q v c.H
abbrev Fin(C:Ct)(D:Ends)(f:Fl)(c:Cf):Prop:=match f with
 |.nx=>D.nx c.σ c.H
 |.bk=>D.bk c.σ c.H
 |.ct=>D.ct c.σ c.H
 |.rt k u=>Im C D.rt c k u
abbrev Kept(ns:Nat->Bool)(c h:Cf):Prop:=(∀j,ns j=c4->h.σ[j]?=c.σ[j]?)/\h.σ.length=c.σ.length
def Kept.refl:Kept ns c c:=#[λ_ _=>rfl,rfl]
def Kept.trans(h:Kept ns c i)(h':Kept ns i k):Kept ns c k:=#[λj z=>(h'.1 j z).trans (h.1 j z),h'.2.trans h.2]
def Kept.le(i:∀j,Q2 j=c4->ns j=c4)(h:Kept ns c k):Kept Q2 c k:=#[λj z=>h.1 j (i j z),h.2]
def Kept.of(h:i.σ=c.σ):Kept ns c i:=#[λj z=>by rw[h],by rw[h]]
abbrev c_(C:Ct)(h:Cf)(ns:Nat->Bool)(D:Ends)(f:Fl)(st':ar):Prop:=∀c,c.st=st'->Ok C c->Ns h c->Kept ns h c->Fin C D f c
abbrev Ju(C:Ct)(ns:Nat->Bool)(m:M Fl):TS:=λD σ H=>∃c:Cf,c.σ=σ/\c.H=H/\Ok C c/\W m c.st (c_ C c ns D)
def sO(ok:Ok C c)(n:Ns i c)(k:Kept ns i c)(h:W mm c.st (c_ C i ns D)):Ju C ns mm D c.σ c.H :=
 #[c,rfl,rfl,ok,h.mono λf st j l e q r k2=>j l e q (n.trans r) (k.trans k2)]
def PS.weak(h:L2.PS X st t)(i:∀D σ H,t' D σ H->t D σ H):L2.PS X st t':=λpins s σ H D I q=>h pins s σ H D I (i D σ H q)
def JJ.weak(h:JJ X rest t)(i:∀D σ H,t' D σ H->t D σ H):JJ X rest t':=λpins s σ H D I q=>h pins s σ H D I (i D σ H q)
def pB(i:∀j,Q2 j=c4->ns j=c4)(h:Ju C Q2 mm D σ H):Ju C ns mm D σ H :=
 let ⟨c,k,l,ok,w⟩:=h;⟨c,k,l,ok,w.mono λf st n q e r s k2=>n q e r s (k2.le i)⟩
def GQ:JJ X [] (Ju C ns (pure .nx)):=by
 show JJ.weak kG ?_;rintro D σ H ⟨c,rfl,rfl,ok,h⟩;rw[ak]at h;show h c rfl ok (Ns.refl c) Kept.refl
abbrev BW(m:M Fl)(f:Fl):M Fl:=match f with
 |.nx=>m
 |f=>pure f
def ES(l:L2.PS X st (Ju C ns f))(n:JJ X rest (Ju C ns g)):JJ X (st::rest) (Ju C ns (f >>= BW g)):=by
 show JJ.weak (iK l n) ?_;rintro D σ H ⟨q,rfl,rfl,ok,h⟩;rw[aj]at h;show#[q,rfl,rfl,ok,h.mono λr st1 w j e c i k1=>?_];subst e;cases r with
 |nx=>show sO c i k1 w
 |bk=>rw[show BW g .bk=pure .bk from rfl,ak]at w;show w j rfl c i k1
 |ct=>rw[show BW g .ct=pure .ct from rfl,ak]at w;show w j rfl c i k1
 |rt k u=>rw[show BW g (.rt k u)=pure (.rt k u) from rfl,ak]at w;show w j rfl c i k1
def GR:L2.PS X (.Break pos) (Ju C ns (pure .bk)):=by
 show PS.weak xH ?_;rintro D σ H ⟨c,rfl,rfl,ok,h⟩;rw[ak]at h;show h c rfl ok (Ns.refl c) Kept.refl
def GS:L2.PS X (.Continue pos) (Ju C ns (pure .ct)):=by
 show PS.weak qi ?_;rintro D σ H ⟨c,rfl,rfl,ok,h⟩;rw[ak]at h;show h c rfl ok (Ns.refl c) Kept.refl
def GU:L2.PS X (.Pass pos) (Ju C ns (pure .nx)):=by
 show PS.weak AI ?_;rintro D σ H ⟨c,rfl,rfl,ok,h⟩;rw[ak]at h;show h c rfl ok (Ns.refl c) Kept.refl
def GV(i:PE X a (IG C ma))(hs:VH a cb pos.line X.env=pure dV):L2.PS X (.Expr a pos) (Ju C ns (ma >>= λ_=>pure .nx)):=by
 show PS.weak (ou i hs) ?_;rintro D σ H ⟨j,rfl,rfl,ok,h⟩;show aT ok h λx c v t w=>?_;rw[ak]at w;have:=w c rfl t.ok t.nx (Kept.of t.hσ);rw[<-t.hσ];show this
def ET:L2.PS X (.Return cb pos) (Ju C ns (pure (.rt .loc .ID))):=by
 show PS.weak AJ ?_;rintro D σ H ⟨c,rfl,rfl,ok,h⟩;rw[ak]at h;show h c rfl ok (Ns.refl c) Kept.refl .ID rfl
def qT(ok:Ok C L)(t:KJ C L c x v)(w:W (retS x) c.st (c_ C L ns D)):D.rt v c.H:=by
 have(k,u):=x;have(G,l,n,r):=t;cases k with
 |own =>
  rw[show retS (.own,u)=pure (.rt .own u) from rfl,ak]at w;have(B,e,h1,h2,h3,h4):=r;show w c rfl l n (Kept.of G) v #[B,e,(ok.ph h1).1,h2,h3,h4]
 |loc =>
  rw[show retS (.loc,u)=pure (.rt .loc u) from rfl,ak]at w;show w c rfl l n (Kept.of G) v r
 |any =>
  rw[show retS (.any,u)=if Jb u=c4 then pure (.rt .loc u) else pure (.rt .any u) from rfl]at w;split at w
  .rw[ak]at w;show w c rfl l n (Kept.of G) v (Rep.Jb (by assumption) r)
  .rw[ak]at w;show w c rfl l n (Kept.of G) v r
 |bor j =>
  have(fl,st',e,w):=w;rw[show retS (.bor j,u) c.st=match c.st[j]? with|some (a8 (.own,u))=>a8 (Ex.ok (Fl.rt .own u),c.st.set j cb)|_=>cb from rfl]at e;split at e
  .rename_i u' J;cases e;have Ly:j<c.st.length:=(mr.mp J).1;have A:∀(i:Nat) k u',(c.st.set j cb)[i]?=a8 (a8 (k,u'))->i≠j/\c.st[i]?=a8 (a8 (k,u')):=λi k u' e=>by
    by_cases N:i=j
    .subst N;rw[rr Ly]at e;cases e
    .rw[ro (Mk N)]at e;show#[N,e]
   have(v',s,B,er,q1,q2,q3,q4):=l.sl j _ _ J;have O:c.σ[j]?=a8 (a8 v):=r.2;rw[O]at s;cases s;subst er;have T:∀a,({c with st:=c.st.set j cb}:Cf).R1 a->c.R1 a:=λa ⟨i,k,h,hk,s,y⟩=>#[i,k,h,hk,(A i k h s).2,y]
   have hR:∀a,({c with st:=c.st.set j cb}:Cf).R a->c.R a:=λa z=>z.elim (λz=>.inl (T a z)) λ⟨i,h,Q,s,y,I⟩=>.inr #[i,h,Q,(A i .IH h s).2,y,I];have Mw:Lv C {c with st:=c.st.set j cb}:=l.dd.of rfl (λi h e=>#[(A i .IH h e).2,rfl]) (λa z=>.inl (T a z)) (.up λ_ z=>z) λi a z=>#[(l.root (.inr #[i,z])).1,λo q=>q]
   have W8:Ok C {c with st:=c.st.set j cb}:=#[l.same,l.K7,l.par,l.io,by simp[l.len],λi k h e=>l.sl i k h (A i k h e).2,λi Y k k' u1 h r hk Jt s y I e4=>l.inj i Y k k' u1 h r hk Jt (A i k u1 s).2 (A Y k' h y).2 I e4,Mw]
   have nn:Ns L {c with st:=c.st.set j cb}:=#[n.keep,n.there,λa z=>n.roots a (hR a z),n.sub,n.new]
   show w {c with st:=c.st.set j cb} rfl W8 nn (Kept.of G) (.ref B) ⟨B,rfl,q3,q1,λz=>?_,q4⟩
   .rcases z with⟨i,k,h,hk,s,y⟩|⟨i,h,Q,s,y,I⟩
    .have(ne,MT):=A i k h s;show ne (l.inj i j k .own h _ B hk rfl MT J y O)
    .show l.dd.d1 i B #[h,Q,(A i .IH h s).2,y,I] #[j,.own,_,rfl,J,O]
  .cases e
 |_=>show r.elim
def GW(i:PE X a (IG C ma)):L2.PS X (.Return (a8 a) pos) (Ju C ns (ma >>= retS)):=by
 show PS.weak (xI i) ?_;rintro D σ H ⟨j,rfl,rfl,ok,h⟩;show aT ok h λx c v t w=>qT ok t w
end
section
def lQ(f:∀j,ns j=c4->j≠i)(g:Ok C a)(t:KJ C a c r v)(h:i<c.σ.length)(w:W (dr i r >>= λ_=>(pure .nx:M Fl)) c.st (c_ C a ns D)):D.nx (a.σ.set i (a8 v)) c.H:=by
 rw[aj]at w;have(b,d,k,l,m,q):=kN (r:=r) g t.ok t.nx h t.rx w;rw[ak]at q;have z:=q b rfl l m #[λj n=>by rw[d,t.hσ,ro (Mk (f j n))],by rw[d,t.hσ];simp];have e:D.nx b.σ b.H:=z;rw[d,k,t.hσ]at e;show e
def C6(e:∀j,ns j=c4->j≠i)(f:X.N.Nodup)(d:X.N[i]?=a8 x)(g:Loc X.env.scope x)(k:X.fn x=c4\/X.env.scope.names.lookup x=a8 .local)(l:PE X a (IG C m))
  (hs:VH a (a8 (.Name x pos')) pos.line X.env=pure dV):L2.PS X (.Assign [.Name x pos'] a pos) (Ju C ns (m >>= λr=>dr i r >>= λ_=>pure .nx)):=by
 rintro pins s σ H D I ⟨b,rfl,rfl,ok,h⟩;have n:i<b.σ.length:=by rw[I.len];show(mr.mp d).1
 show rL f d g l hs k pins s b.σ b.H D I (aT ok h λr c v t w=>lQ e ok t (by rw[t.hσ];show n) w)
def EU(k:∀j,ns j=c4->j≠i)(S:cA X N own scope)(l:X.calm=c4)(m:X.N.Nodup)(f:X.N[i]?=a8 y)(o:X.env.scope.names.lookup y=a8 .local)
  (p:PI X d a (Mi C q ms)) (u:∀D s H ex,PG (Jr X N scope D s H ex) d (tG C t (gA own.length))) (z:∀D s H ex,MH (Jr X N scope D s H ex) b (JY C A)) (B:∀D s H ex,PE (Jr X N scope D s H ex) elt (IG C G))
  (J:VH (.ListComp elt [⟨d,a,b,0⟩] scope pos) (a8 (.Name y L)) O.line X.env=pure c4) (hs:∀x,NC a X.env x=pure x) :
  L2.PS X (.Assign [.Name y L] (.ListComp elt [⟨d,a,b,0⟩] scope pos) O)
   (Ju C ns ((ms >>= λrs=>ao rs >>= λ_=>M.IT (JX q rs) >>= λxs=>bR own.length t A G rs xs [] >>= λus=>pure (.own,.lst us)) >>= λr=>dr i r >>= λ_=>pure .nx)):=by
 rintro pins s σ H D I ⟨e,rfl,rfl,ok,h⟩;have Q:i<e.σ.length:=by rw[I.len];show(mr.mp f).1
 show A6 S l m f o p u z B J hs pins s e.σ e.H D I ?_;rw[aj]at h;show nQ ok (h.mono λr st1 w c v g T Y n rt=>?_);subst T;show lQ k ok #[g,Y,n,rt] (by rw[g];show Q) w
def EV(f:∀j,ns j=c4->j∉is)(g:PE X a (IG C i))(k:PG X b (tG C c4 is))(hs:WI [b] a pos.line X.env=pure dV)(l:Õ [b] a X.env=pure cb)(m:(Tc [b] X.env).map (·.2)=[WZ b X.env]):
  L2.PS X (.Assign [b] a pos) (Ju C ns (i >>= λr=>dt c4 is r >>= λ_=>pure .nx)):=by
 show PS.weak (xK g k hs l m) ?_;rintro D σ H ⟨n,rfl,rfl,ok,h⟩;show aT ok h λr c v t w=>?_;rw[aj]at w;show#[n,c,r,t.hσ,rfl,ok,t.ok,t.nx,t.rx,w.mono λ_ st1 d o e p q s hl=>?_];subst e;rw[ak]at d;show d o rfl p q #[λj u=>by rw[s j (f j u),t.hσ],by rw[hl,t.hσ]]
def GX(i:PT X a (JY C j))(k:JJ X ca (Ju C ns f))(l:JJ X m (Ju C ns g)):L2.PS X (.If a ca m pos) (Ju C ns (j >>= λp=>if p=c4 then f else g)):=by
 show PS.weak (FT i k l) ?_;rintro D σ H ⟨o,rfl,rfl,ok,h⟩;show fV ok h λp c b d n w=>?_;have e:o.σ=c.σ:=b.symm;rw[e];cases p with
 |true=>rw[ŵ rfl]at w ⊢;show sO d n (Kept.of b) w
 |false=>rw[Ÿ my]at w ⊢;show sO d n (Kept.of b) w
def GY(L:ZG (mn X.prog X.w) X.A X.env X.xe)(N:PT X a (JY C g))(O:JJ X body (Ju C ns f)):L2.PS X (.While a body [] pos) (Ju C ns (pq g f n)):=by
 show PS.weak (xM L N O) ?_;rintro D σ H ⟨d,rfl,rfl,ok,h⟩;show#[λm t H'=>∃c,c.H=H'/\c.σ=t/\Ok C c/\Ns d c/\Kept ns d c/\W (pq g f m) c.st (c_ C d ns D),#[n,d,rfl,rfl,ok,Ns.refl d,Kept.refl,h],?_];rintro m t H' ⟨c,rfl,rfl,Q,v,x,w⟩;cases m with
 |zero=>show(a9.mp w).elim
 |succ m =>
  rw[show pq g f (m+1)=g >>= λb=>if b=c4 then(f >>= λf'=>match f' with|.nx=>pq g f m|.ct=>pq g f m|.bk=>pure .nx|.rt k u=>pure (.rt k u)) else pure .nx from rfl]at w;show fV Q w λp l y B G i=>?_;have k2:Kept ns c l:=Kept.of y;rw[<-y];cases p with
  |false =>
   rw[Ÿ my]at i ⊢;rw[ak]at i;show i l rfl B (v.trans G) (x.trans k2)
  |true =>
   rw[ŵ rfl]at i ⊢;show#[λI J=>∃c,c.H=J/\c.σ=I/\Ok C c/\Ns d c/\Kept ns d c/\W (pq g f m) c.st (c_ C d ns D),λI J z=>#[m,Uc m,z],?_];rw[aj]at i;show#[l,rfl,rfl,B,i.mono λT st3 j o e q Y k3=>?_];subst e;have r:=(v.trans G).trans Y;have s:=(x.trans k2).trans k3;cases T with
   |nx=>show#[o,rfl,rfl,q,r,s,j]
   |ct=>show#[o,rfl,rfl,q,r,s,j]
   |_=>rw[ak]at j;show j o rfl q r s
def GZ(hp:ZG (mn X.prog X.w) X.A X.env X.xe)(hc:X.calm=c4)(hi:PI X tg a (Mi C ik ms))(hg:PG X tg (tG C t is))(hb:JJ X body (Ju C (Kl s) f))(hs:∀x,NC a X.env x=pure x)
  (JA:∀j,ns j=c4->j∉is/\Kl s j=c4) :
  L2.PS X (.For tg a body [] pos) (Ju C ns (ms >>= λrs=>ao rs >>= λ_=>M.IT (JX ik rs) >>= λxs=>if uK rs is s=c4 then forM t is f rs xs else M.fail)):=by
 show PS.weak (DN hp hc hi hg hb hs) ?_;rintro D σ H ⟨d,rfl,rfl,ok,h⟩;rw[aj]at h;show#[d,rfl,rfl,ok,?_];rw[aj];show h.mono λrs st1 v=>?_;rw[aj,bj]at v ⊢;show#[v.1,?_];have h2:=v.2;rw[aj]at h2 ⊢;show h2.mono λxs st2 y=>?_;rw[ak];intro b J e1 e2 IJ n1 IB B;subst e2
 dsimp only at IB B
 split at y
 .rename_i Td;have Te:∀j u,(Kd.bor j,u)∈rs->j∉is/\Kl s j=c4:=λj u o=>by
   have:=sh.mp Td _ o;simpa using this
  show#[λi m l H'=>∃c,c.H=H'/\c.σ=l/\Ok C c/\Ns b c/\Kept ns d c/\lO rs b c/\m=xs.length - i/\i<=xs.length/\W (forM t is f rs (xs.drop i)) c.st (c_ C d ns D),
   #[xs.length,b,rfl,e1,IJ,Ns.refl b,Kept.of e1,λ_ _ _=>rfl,by simp,pb _,by simpa using y],?_]
  rintro i m l H' ⟨c,rfl,rfl,G,p,kc,I,rfl,J_,w⟩;by_cases L:i<xs.length
  .right
   rw[Py L,show forM t is f rs (xs[i]::xs.drop (i+1))=ao rs >>= λ_=>dt t is xs[i] >>= λ_=>f >>= λf'=>match f' with|.nx=>forM t is f rs (xs.drop (i+1))|.ct=>forM t is f rs (xs.drop (i+1))|.bk=>pure .nx|.rt k u=>pure (.rt k u) from rfl,aj,bj]at w;have(KO,w):=w;have(N,_):=B c G p I KO;have(N_,P9,Nj):=N i xs[i] (by simp[L]);show#[P9,λl H'=>∃c,c.H=H'/\c.σ=l/\Ok C c/\Ns b c/\Kept ns d c/\lO rs b c/\W (forM t is f rs (xs.drop (i+1))) c.st (c_ C d ns D),λl H' ⟨c',z1,z2,z3,z4,z5,z6,z7⟩=>#[xs.length - (i+1),⋯,c',z1,z2,z3,z4,z5,z6,rfl,L,z7],λx H' hy=>?_];have(n,rfl,q,e5,I_,n2,rt):=Nj x H' hy;rw[aj]at w;have W9:aN C n n xs[i].1 xs[i].2 x:=by
    rcases N_ with z|z
    .rw[z]at rt ⊢;show rt
    .rw[z]at rt ⊢;show rt
   show#[n,n,xs[i],q,rfl,I_,I_,Nx.refl n,W9,?_];rw[e5];show w.mono λ_ st3 w3 c3 e6 KW n3 U5 MU=>?_;subst e6;rw[aj]at w3;show#[c3,rfl,rfl,KW,w3.mono λfl OG r g e O n4 Q=>?_];subst e;have T:Ns b g:=((p.trans n2.toNs).trans n3.toNs).trans n4;have Y:Kept ns d g:=by
    show kc.trans #[λj hj=>?_,by rw[Q.2,MU,q]];have(j1,j2):=JA j hj;rw[Q.1 j j2,U5 j j1,q]
   have U6:lO rs b g:=λj u o=>by
    have(j1,j2):=Te j u o;rw[Q.1 j j2,U5 j j1,q];show I j u o
   cases fl with
   |nx=>show#[g,rfl,rfl,O,T,Y,U6,r]
   |ct=>show#[g,rfl,rfl,O,T,Y,U6,r]
   |_=>rw[ak]at r;show r g rfl O (n1.toNs.trans T) Y
  .left
   have W_:i=xs.length:=by lia
   subst W_;rw[Y7,show forM t is f rs []=ao rs >>= λ_=>pure .nx from rfl,aj,bj,ak]at w;have(_,N):=B c G p I w.1;show#[N _ (ke _),w.2 c rfl G (n1.toNs.trans p) kc]
 .show(a9.mp y).elim
end
section
def Ok.mod(ok:Ok C c)(n:Ns c0 c)(hk:k.root=c4)(y:c.st[i]?=a8 (a8 (k,u)))(D:c.σ[i]?=a8 (a8 (.ref r)))(JI:∀a,a≠r->H' a=c.H a)(hr:∃o,H' r=a8 o)
  (new:Mv c.S c.H c.S H'->cZ C c.S H' r u'):Ok C {c with H:=H',st:=c.st.set i (a8 (k,u'))}/\Ns c0 {c with H:=H',st:=c.st.set i (a8 (k,u'))}:=by
 have LK:c.R1 r:=#[i,k,u,hk,y,D]
 have hR:c.R r:=.inl LK;have(I,q2,q3,o,ho,Qb):=ok.root hR;have J:i<c.st.length:=(mr.mp y).1;have m:∀{a:k9} {b:HO},a≠r->c.H a=a8 b->H' a=a8 b:=λne e=>by rw[JI _ ne];show e
 have G:Mv c.S c.H c.S H':=#[λ_ z=>z,λa b e t=>m (λz=>by subst z;rw[ho]at e;cases e;show Qb t) e,λa b z e=>m (λd=>I (d▸z)) e]
 have OT:Mv (PS C c.S) c.H (PS C c.S) H':=#[λ_ z=>z,G.QQ,λa b z e=>m (λd=>by subst d;show z.elim q2 I) e]
 have L:∀(j:Nat) k' w,(c.st.set i (a8 (k,u')))[j]?=a8 (a8 (k',w))->j≠i->c.st[j]?=a8 (a8 (k',w)):=λj k' w e ne=>by rw[ro (Mk ne)]at e;show e
 have f:∀(j:Nat) k' w,k'.root=c4->(c.st.set i (a8 (k,u')))[j]?=a8 (a8 (k',w))->∃N,c.st[j]?=a8 (a8 (k',N)):=λj k' w _ e=>by
  by_cases p:j=i
  .subst p;rw[rr J]at e;cases e;show#[u,y]
  .show#[w,L j k' w e p]
 have b1:∀a,({c with H:=H',st:=c.st.set i (a8 (k,u'))}:Cf).R1 a->c.R1 a:=λa Jq=>by
  have(j,k',w,g,h,l):=Jq;have(N,O):=f j k' w g h;show#[j,k',N,g,O,l]
 have dD:∀(j:Nat) (w:U),(c.st.set i (a8 (k,u')))[j]?=a8 (a8 (.IH,w))->c.st[j]?=a8 (a8 (.IH,w)):=λj w e=>by
  by_cases p:j=i
  .subst p;rw[rr J]at e;cases e;cases hk
  .show L j .IH w e p
 have Mw:Lv C {c with H:=H',st:=c.st.set i (a8 (k,u'))}:=ok.dd.of rfl (λj w e=>#[dD j w e,rfl]) (λa z=>.inl (b1 a z)) G λj a z=>#[(ok.root (.inr #[j,z])).1,λb e=>m (λd=>ok.dd.d1 j a z (d▸LK)) e]
 show#[#[λa b e z=>?_,λa z=>?_,ok.par,λa z=>?_,by simp[ok.len],λj k' w e=>?_,λj1 j2 k1 k2 w1 w2 q g s h l Q e4=>?_,Mw],n.trans #[λa b e z=>m (λd=>z (d▸hR)) e,λa b e=>?_,λa z=>?_,λ_ z=>z,λ_ z=>.inl z]]
 .have g:=ok.same a b e z;show m (λd=>?_) g;subst d;rcases q3 with q3|q3
  .rw[e]at q3;cases q3
  .show z q3
 .have(g,b,s):=ok.K7 a z;show#[g,b,m (λd=>I (d▸z)) s]
 .have(g,b,s):=ok.io a z;show#[g,?_];by_cases A:a=r
  .subst A;show hr
  .show#[b,m A s]
 .by_cases p:j=i
  .subst p;rw[rr J]at e;cases e;have(v,h,l):=ok.sl j _ _ y;rw[D]at h;cases h;show#[.ref r,D,?_];have nr:=new G;cases k with
   |own=>have(q,x,B,T,Y,_):=l;cases x;show#[r,rfl,B,T,Y,nr]
   |io=>have(q,x,B,T,Y,_):=l;cases x;show#[r,rfl,B,T,Y,nr]
   |_=>cases hk
  .have e0:=L j k' w e p;have(v,h,l):=ok.sl j k' w e0;show#[v,h,l.mv G OT λJt q x=>?_];have(U0,Lk,B,_):=l.rt Jt;rw[x]at Lk;cases Lk;show#[B,λb e=>m (λz=>?_) e];subst z;show p (ok.inj j i k' k w u q Jt hk e0 y (by rw[h,x]) D)
 .have(Q3,O):=f j1 k1 w1 g h;have(U7,a2):=f j2 k2 w2 s l;show ok.inj j1 j2 k1 k2 Q3 U7 q g s O a2 Q e4
 .by_cases A:a=r
  .subst A;show hr
  .show#[b,m A e]
 .rcases z with z|⟨j,w,q,h,l,Q⟩
  .show .inl (.inl (b1 a z))
  .show .inl (.inr #[j,w,q,dD j w h,l,Q])
def jN{f:U->Option U}{st:ar}(h:W (modS i f) st Q):∃k u u',k.root=c4/\st[i]?=a8 (a8 (k,u))/\f u=a8 u'/\Q () (st.set i (a8 (k,u'))):=by
 have(_,st',e,q):=h;unfold modS at e;split at e
 .rename_i k u hs;split at e
  .rename_i hk;cases a:f u with
   |none=>rw[a]at e;cases e
   |some u'=>rw[a]at e;cases e;show#[k,u,u',hk,hs,a,q]
  .cases e
 .cases e
def jO{st:ar}(h:W (iB i) st Q):∃k u,k≠.IH/\st[i]?=a8 (a8 (k,u))/\Q (if k.root=c4 then .bor i else k,u) st:=by
 have(r,st',e,q):=h;unfold iB at e;split at e
 .cases e
 .rename_i k u a hs;cases e;show#[k,u,λz=>a z,hs,q]
 .cases e
def G0(Q:C.K=X.K)(T:X.N[i]?=a8 x)(Y:Mo X.env.scope x)(hd:(x==("__debug__":Str))=dV)(JU:(x==("__classdict__":Str))=dV)(ha:PE X a (IG C ma))
  (Kp:((NZ f (pa [a] X.env)).all (λx=>!x.1)&&(YI f (U2 [] X.env)).all (λx=>x.1.isSome)
   && ei ([a].length+([]:List SR).length+(if ([]:List SR).isEmpty then 0 else 1)<30))=c4)
  (J1:(b.endLine==f.line)=c4) (m:pa [a] X.env=[(dV,MM a X.env)]) :
  L2.PS X (.Expr (.Call (.Attribute (.Name x px) "append" b) [a] [] f) pos) (Ju C ns (iB i >>= λx=>OV x.2 >>= λ_=>ma >>= λr=>lift r >>= λu=>modS i (yG u) >>= λ_=>pure .nx)):=by
 show PS.weak (ou (CS PySem.F.plainAttrs_list PySem.F.slot_list_append PySem.F.type_list_append v7 (ic T Y hd JU) (cE ha fI m) rfl Kp J1 m rfl)) ?_;rintro D σ H ⟨n,rfl,rfl,ok,h⟩;rw[aj]at h;have(k0,o,MV,p,h):=jO h;have(s,g,l):=ok.sl i k0 o p;show#[s,g,?_];cases o with
 |lst y =>
  rw[aj,show OV (U.lst y)=pure () from rfl,ak]at h;have Th:aN C n n (if k0.root=c4 then .bor i else k0) (.lst y) s:=by
   by_cases hk:k0.root=c4
   .rw[ŵ hk];show#[#[k0,hk,p],g]
   .rw[Ÿ hk];cases k0 with
    |loc=>show l
    |any=>show l
    |bor j=>show l.elim
    |IH=>show(MV rfl).elim
    |_=>show absurd rfl hk
  have(a0,Q0,ea,J3,_):=Th.list ok;show#[by rw[ea];show .inl #[rfl,Q0,Q▸J3],?_];show aT ok h λr c v t w=>?_;rw[aj]at w;have(S',st',u,sS,A,n1,d,B,_,_):=kM ok t.ok t.nx t.rx.w w;rw[aj]at B;have(k,u1,u2,hk,hs,e,q):=jN B;have G:c.σ[i]?=a8 (a8 (.ref a0)):=by rw[t.hσ,g,ea]
  cases u1 with
  |lst I =>
   simp only[yG]at e;split at e
   .rename_i hz;cases e;have(v',e1,e2):=A.sl i k (.lst I) hs;have J:c.σ[i]?=a8 (a8 v'):=e1;rw[G]at J;cases J;have(r',er,_,_,_,ws,hw,L):=e2.rt hk;cases er;have Oc:c.H a0=a8 (.lst ws):=hw;show#[a0,ws,v,ea,rfl,Oc,by rw[<-L.len];show hz,?_];rw[ak]at q;have(I_,n2):=Ok.mod (c:={c with S:=S',st:=st' }) (H':=upd c.H a0 (.lst (ws++[v]))) (u':=.lst (I++[u])) A n1.toNs hk hs G (λa ne=>aC ne) ⟨_,aO⟩ λO=>#[ws++[v],aO,(L.mv O).snoc (d.mv O)]
    have z:=q _ rfl I_ n2 (Kept.of t.hσ);rw[<-t.hσ];show z
   .cases e
  |_=>cases e
 |_=>rw[aj]at h;show(a9.mp h).elim
def G1(u:C.K=X.K)(Y:X.N[i]?=a8 x)(hv:Mo X.env.scope x)(hd:(x==("__debug__":Str))=dV)(JU:(x==("__classdict__":Str))=dV)(ha:PE X a (IG C ma))
  (Kp:((NZ l (pa [a] X.env)).all (λx=>!x.1)&&(YI l (U2 [] X.env)).all (λx=>x.1.isSome)
   && ei ([a].length+([]:List SR).length+(if ([]:List SR).isEmpty then 0 else 1)<30))=c4)
  (J1:(g.endLine==l.line)=c4) (y:pa [a] X.env=[(dV,MM a X.env)]) :
  L2.PS X (.Expr (.Call (.Attribute (.Name x px) "extend" g) [a] [] l) pos) (Ju C ns (iB i >>= λx=>OV x.2 >>= λ_=>ma >>= λr=>modS i (sI r) >>= λ_=>pure .nx)):=by
 show PS.weak (ou (CS PySem.F.plainAttrs_list PySem.F.slot_list_extend PySem.F.type_list_extend sm (ic Y hv hd JU) (cE ha fI y) rfl Kp J1 y rfl)) ?_;rintro D σ H ⟨A,rfl,rfl,ok,h⟩;rw[aj]at h;have(k0,B,MV,G,h):=jO h;have(I,m,n):=ok.sl i k0 B G;show#[I,m,?_];cases B with
 |lst J =>
  rw[aj,show OV (U.lst J)=pure () from rfl,ak]at h;have Th:aN C A A (if k0.root=c4 then .bor i else k0) (.lst J) I:=by
   by_cases hk:k0.root=c4
   .rw[ŵ hk];show#[#[k0,hk,G],m]
   .rw[Ÿ hk];cases k0 with
    |loc=>show n
    |any=>show n
    |bor j=>show n.elim
    |IH=>show(MV rfl).elim
    |_=>show absurd rfl hk
  have(a0,Q0,ea,J3,_):=Th.list ok;show#[by rw[ea];show .inl #[rfl,Q0,u▸J3],?_];show aT ok h λr c v t w=>?_;rw[aj]at w;have(k,o,u2,hk,hs,d,q):=jN w;have L:c.σ[i]?=a8 (a8 (.ref a0)):=by rw[t.hσ,m,ea]
  have(rk,ru):=r;have key:∃e f b vs,o=.lst e/\v=.ref b/\(Jo C.K c.H b vs\/Jj C.K c.H b vs)/\aq C c.S c.H f vs/\e.length+f.length<=eh/\u2=.lst (e++f):=by
   cases ru with
   |lst f =>
    cases o with
    |lst e =>
     simp only[sI]at d;split at d
     .rename_i hz;cases d;have(b,vs,ev,p,s):=t.rx.list t.ok;show#[_,_,b,vs,rfl,ev,.inl p,du hz.2 s,hz.1,rfl]
     .cases d
    |_=>simp[sI]at d
   |tup f =>
    cases o with
    |lst e =>
     simp only[sI]at d;split at d
     .rename_i hz;cases d;have(b,vs,ev,p,s):=t.rx.tuple t.ok;show#[_,_,b,vs,rfl,ev,.inr p,du hz.2 s,hz.1,rfl]
     .cases d
    |_=>simp[sI]at d
   |_=>simp[sI]at d
  have(e,f,b,vs,rfl,rfl,hB,hz,hl,rfl):=key;have(v',O,e2):=t.ok.sl i k (.lst e) hs;rw[L]at O;cases O;have(r',er,_,_,_,ws,hw,Q):=e2.rt hk;cases er;show#[a0,b,ws,vs,ea,rfl,hw,u▸hB,by rw[<-Q.len,<-hz.len];show hl,?_];rw[ak]at q;have(I_,n2):=Ok.mod (c:=c) (H':=upd c.H a0 (.lst (ws++vs))) (u':=.lst (e++f)) t.ok t.nx.toNs hk hs L (λa ne=>aC ne) ⟨_,aO⟩ λT=>#[ws++vs,aO,(Q.mv T).append (hz.mv T)]
  have z:=q _ rfl I_ n2 (Kept.of t.hσ);rw[<-t.hσ];show z
 |_=>rw[aj]at h;show(a9.mp h).elim
def mW.or(h:mW X t)(h':mW X t'):mW X (λo i v H Q=>t o i v H Q\/t' o i v H Q):=λpins s σ H o i v a b u Q I c d e q =>
 q.elim (h pins s σ H o i v a b u Q I c d e) (h' pins s σ H o i v a b u Q I c d e)
def set_dict(b:X.A.units+1<K'):mW X (λo i v H Q=>∃a H',o=.ref a/\xW H a i v H'/\Q H'):=by
 rintro pins s σ H o i v h j u Q I c d e ⟨a,H',rfl,g,q⟩;cases c;show wd b I g d e λs' f=>#[H',f,q]
def y6{S:k9->Prop}{c:List (Key×V)}(a:c.map (·.1)=b.map Ot)(e:aq C S H us (c.map (·.2)))(f:Rep C S H u v):
  (putK c (Ot y) v).map (·.1)=(dput b us y u).1.map Ot/\aq C S H (dput b us y u).2 ((putK c (Ot y) v).map (·.2)):=by
 have g:(c.any λkv=>ei (kv.1=(Ot y:Key)))=ei (y∈b):=by
  rw[k8];show(jL (x:=y) a e).2
 unfold putK dput;rw[g];by_cases d:y∈b
 .rw[ŵ (by simpa using d),ŵ d];constructor
  .rw[uv];rw[<-a];apply R';intro p _;change(if p.1=Ot y then(p.1,v) else p).1=p.1;split<;>rfl
  .clear g d;induction c generalizing b us with
   |nil =>
    have:b=[]:=by simpa using a.symm
    subst this;simp[aq]
   |cons p c i =>
    cases b with
    |nil=>simp at a
    |cons k b =>
     cases us with
     |nil=>simp[aq]at e
     |cons m us =>
      rw[mu,mu,YM]at a;have(n,o,h,j,l):=e;rw[mu]at h;cases h;rw[mu,Sz,mu,mu];show#[_,_,rfl,?_,i a.2 l];by_cases hk:k=y
      .rw[ŵ (by show hk),ŵ (by rw[a.1,hk])];show f
      .rw[Ÿ (by show hk),Ÿ (by rw[a.1];intro z;show hk (ZQ z))];show j
 .rw[Ÿ (by simpa using d),Ÿ d];show#[by rw[H8,a,H8];rfl,by rw[H8];show e.snoc f]
def G2(hP:C.P=X.prog)(hw:C.w=X.w)(Q:C.K=X.K)(hu:X.A.units+60<K')(hN:X.N[i]?=a8 x)(hv:Mo X.env.scope x)(hd:(x==("__debug__":Str))=dV)(JU:(x==("__classdict__":Str))=dV)
  (ha:PE X a (IG C ma)) (hb:PE X b (IG C mb)) (hs:WI [.Subscript (.Name x G) b p] a pos.line X.env=pure dV) (Qd:Õ [.Subscript (.Name x G) b p] a X.env=pure cb)
  (has:∀v,WZ (.Subscript (.Name x G) b p) X.env v=(do
   let I <-TX [v] (MM (.Name x G) X.env)
   let T <-TX [v,I] (MM b X.env)
   ñ p
   TX [v,I,T] (ó I T v)
   release [v,I,T] [])) :
  L2.PS X (.Assign [.Subscript (.Name x G) b p] a pos) (Ju C ns (ma >>= λr=>iB i >>= λ_=>mb >>= λx=>cT [r,x] >>= λus=>modS i (uJ us) >>= λ_=>pure .nx)):=by
 show PS.weak (xK ha (DJ (ic hN hv hd JU) hb (mW.or (mW.or set_list (set_dict (X:=X) ⋯)) (Ba (X:=X) ⋯)) has) hs Qd rfl) ?_;rintro D σ H ⟨c0,rfl,rfl,ok,h⟩;show aT ok h λr c v t w=>?_;rw[aj]at w;have(k0,u0,MV,LC,w):=jO w;have(v0,e0,Nk):=t.ok.sl i k0 u0 LC;show#[v0,by rw[<-t.hσ];show e0,?_];rw[aj]at w;show#[c,t.hσ,rfl,t.ok,w.mono λy st2 w2 g n J e4 I_ n2 r2=>?_];subst e4;rw[aj]at w2;have OX:=t.nx.trans n2;have Y:cK C c0 g [r,y] [v,n]:=#[v,[n],rfl,t.rx.w.on t.ok n2 (J.trans t.hσ.symm),#[n,[],rfl,(r2.w).from t.nx,rfl,λ_ i r' v' e _=>by simp at e],λhk i r' v' e5 e6 Jt=>by
  cases i with
  |zero=>simp at e5 e6;subst e5 e6;show iC t.rx.w r2.w hk Jt
  |succ i=>simp at e5]
 have(S',st',us,sS,IJ,n1,l,w1):=fW ok I_ OX Y w2;rw[aj]at w1;have(k,L,u2,hk,M_,d,q):=jN w1;rw[ak]at q;have hσ:g.σ[i]?=a8 (a8 v0):=by rw[J,<-t.hσ];show e0
 have(v',e1,e2):=IJ.sl i k L M_;have MT:g.σ[i]?=a8 (a8 v'):=e1;rw[hσ]at MT;cases MT;have(a0,er,z1,z2,z3,f):=e2.rt hk;subst er;have W':({g with S:=S',st:=st' }:Cf).σ[i]?=a8 (a8 (.ref a0)):=hσ;obtain⟨Q3,ws,ew,U8,U7,Yg,Yh,Ti,Xa⟩:∃u ws,us=[u,ws]/\Rep C S' g.H u v/\∃(_:Unit) (_:Unit),True/\Rep C S' g.H ws n/\True:=by
  cases us with
  |nil=>simp[aq]at l
  |cons u us =>
   have(_,_,e,q1,q2):=l;cases e;cases us with
   |nil=>simp[aq]at q2
   |cons u' us =>
    have(_,_,e,q3,q4):=q2;cases e;cases us with
    |nil=>show#[u,u',rfl,q1,(),(),trivial,q3,trivial]
    |cons _ _=>have(_,_,e,_):=q4;cases e
 subst ew;rw[show uJ [Q3,ws] L=lL ws Q3 L from rfl]at d;have m:∀{H':Hp} ,(∀a,a≠a0->H' a=g.H a)->(∃o,H' a0=a8 o)->(Mv S' g.H S' H'->cZ C S' H' a0 u2)->D.nx c0.σ H':=λ{H'} JI hr new=>by
  have(KW,n3):=Ok.mod (c:={g with S:=S',st:=st' }) (H':=H') (u':=u2) IJ n1.toNs hk M_ W' JI hr new;have z:=q _ rfl KW n3 (Kept.of J);rw[<-J];show z
 cases L with
 |lst xs =>
  cases ws with
  |int j =>
   simp only[lL,hQ]at d;have(j',hj,rfl):=d;have(vs,h1,s):=f;have ey:n=.int j:=Ti;show .inl (.inl #[a0,vs,j,j',rfl,ey,h1,by rw[<-s.len];show hj,?_]);show m (λa ne=>aC ne) ⟨_,aO⟩ λB=>#[vs.set j' v,aO,(s.mv B).set j' (U8.mv B)]
  |_=>simp[lL]at d
 |JV O vs =>
  cases ws with
  |str y' =>
   simp only[lL]at d;split at d
   .rename_i hz;cases d;have(B',h1,s,h3):=f;have ey:n=.str y':=Ti;subst ey;have hl:B'.length=O.length:=by have:=Ż OC s;simpa using this
    show .inl (.inr #[a0,_,rfl,xW.k (k:=Ot y') h1 (by rw[hl];show hz),?_]);show m (λa ne=>aC ne) ⟨_,aO⟩ λB=>?_;have(g1,g2):=y6 (y:=y') s h3 U8;show#[_,aO,g1,g2.mv B]
   .cases d
  |_=>simp[lL]at d
 |Jy O =>
  simp only[lL]at d;split at d
  .rename_i r0 Xb;split at d
   .rename_i hh;cases d;have er:=iD Xb;subst er;have MW:=Ti.row;have Nl:fC C.P C.w C.K g.H a0 O:=f;rw[Q]at MW;rw[hP,hw,Q]at Nl;show .inr #[a0,r0,O,rfl,MW,Nl,hh.1,hh.2,λH' hR JI=>?_];have(xs,hx,_):=id hR;show m JI #[_,hx] λB=>?_;change fC C.P C.w C.K H' a0 _;rw[hP,hw,Q];show hR
   .cases d
  .cases d
 |_=>simp[lL]at d
end
end TM
namespace TM
open PySem L2 PyProof.Rows PySem.W
section
def G3(b:X.calm=c4)(c:Gl X x)(d:X.mg x=a8 (.ref Cc))(f:(x==("__debug__":Str))=dV)(g:excIn X.K Cc OP "ValueError.__new__"=c4)(i:PE X a (IG C j))(k:pa [a] X.env=[(dV,MM a X.env)])
  (l:∀H',C.xw (.str x) H'->∀pins σ s e s',Inv X pins σ H' s->aQ X.prog X.w X.stack H' s e Cc cb .none H' s'->X.xe (.ref e) s'):L2.PS X (.Raise (a8 (.Call (.Name x p) [a] [] n)) cb pos) (Ju C ns (j >>= λ_=>pure (.rt .io (.str x)))):=by
 show PS.weak (yr b c d f g i k) ?_;rintro D σ H ⟨o,rfl,rfl,ok,h⟩;show aT ok h λx m v t w=>?_;rw[ak]at w;show λpins s e s' I F=>l _ (w m rfl t.ok t.nx (Kept.of t.hσ)) pins _ s e s' I F
def Ok.kill(ok:Ok C c)(m:c.st[j]?=a8 cb):Ok C {c with σ:=c.σ.set j cb}/\Nx c {c with σ:=c.σ.set j cb}:=by
 have ne:∀(i:Nat) (r:Kd×U),c.st[i]?=a8 (a8 r)->(c.σ.set j cb)[i]?=c.σ[i]?:=λi r e=>ro λz=>by subst z;rw[m]at e;cases e
 have g:∀a,({c with σ:=c.σ.set j cb}:Cf).R1 a->c.R1 a:=λa ⟨i,k,u,hk,b,d⟩=>#[i,k,u,hk,b,(ne i _ b)▸d]
 have n:Lv C {c with σ:=c.σ.set j cb}:=ok.dd.of rfl (λi u e=>#[e,ne i _ e]) (λa z=>.inl (g a z)) (.up λ_ z=>z) λi a z=>#[(ok.root (.inr #[i,z])).1,λo q=>q]
 show#[#[ok.same,ok.K7,ok.par,ok.io,by simp[ok.len],λi k u e=>?_,λi l k k' u u' r hk p b d f s=>?_,n],#[λ_ _ h _=>h,λ_ o h=>#[o,h],λa z=>.inl ?_,λ_ h=>h,λ_ h=>.inl h]]
 .have(v,q,z):=ok.sl i k u e;show#[v,(ne i _ e).trans q,z]
 .show ok.inj i l k k' u u' r hk p b d ((ne i _ b)▸f) ((ne l _ d)▸s)
 .show z.imp (g a) λ⟨i,u,r,b,d,f⟩=>#[i,u,r,b,(ne i _ b)▸d,f]
def wI(h:∀m,ns m=c4->m≠i/\m≠j)(o:Ok C b)(ok:Ok C c)(n:Nx b c)(d:c.σ=b.σ)(p:i<c.σ.length)(hs:iP c.H H')(v:V)
  (w:W (sH i j cb) c.st (c_ C b ns D)):D.nx (((b.σ.set j (a8 v)).set i (a8 (.bl c4))).set j cb) H':=by
 have(r,st',e,q):=w;unfold sH at e
 dsimp only at e
 split at e
 .rename_i s;split at e
  case isFalse=>cases e
  rename_i t;have k:c.st[j]?=a8 cb/\i≠j:=#[s,t]
  have(u,x):=ok.kill k.1;have(y,A):=u.grow (H':=H') (S':=c.S) hs (λa z=>.inl z) λa z=>z;have(f,g,B,G,I,J):=kN (r:=(.loc,.bl c4)) (v:=.bl c4) (i:=i) o y ((n.trans x).trans A) (by simpa using p)
   (show Rep C c.S _ _ _ from rfl) (Post:=λ_ L=>c_ C b ns D .nx L) (by
    have z:W (dr i (.loc,.bl c4) >>= λ_=>(pure .nx:M Fl)) c.st (c_ C b ns D):=#[r,st',e,q]
    rw[aj]at z;show z.mono λ_ st z=>ak.mp z)
  have es:(((b.σ.set j (a8 v)).set i (a8 (.bl c4))).set j cb)=(b.σ.set j cb).set i (a8 (.bl c4)):=by
   rw[Ķ _ _ k.2,ň]
  have z:D.nx f.σ f.H:=J f rfl G I #[λm l=>by
   rw[g];change((c.σ.set j cb).set i _)[m]?=_;rw[ro (Mk (h m l).1),ro (Mk (h m l).2),d],by rw[g];simp[d]]
  rw[g,B]at z;rw[es];rw[<-d];show z
 .cases e
def G4
  (JA:∀m,ns m=c4->m≠i/\m≠j) (hN:X.N.Nodup) (hi:X.N[i]?=a8 y) (hy:Loc X.env.scope y) (Tn:X.fn y=c4) (hj:X.N[j]?=a8 n) (hn:X.env.scope.names.lookup n=a8 .local)
  (hP:C.P=X.prog) (hw:C.w=X.w) (hK:C.K=X.K) (hF:Γ f=F) (hk:∀us k u,F us=a8 (.ok (k,u))->(k=.own\/k=.loc\/k=.any)/\us.length=np) (Jt:∀us c,F us=a8 (.exc c)->us.length=np)
  (G:gQ X.prog X.w X.K X.mg X.base (Li X.prog X.w) kd fa fd ps (spT X.prog X.w X.K F np)) (hr:dI kd X.A) (hg:Gl X f) (hm:X.mg f=a8 (.ref fa)) (Lz:PySem.W.keepIn X.K (.ref fa)=c4) (hb:Binds X.K fd ps []) (J4:(f==("__debug__":Str))=dV)
  (ha:PA X.JO (e::es) (JP C ms)) (he:pa (e::es) X.env=(dV,MM e X.env)::pa es X.env) (JL:(NZ p3 (pa es X.env)).any (·.1)=dV)
  (O:X.stack=X.env::X.outer/\X.env.frame=a8 X.env.locals) (To:Gl X x) (Tq:X.mg x=a8 (.ref Dc)) (Tr:(x==("__debug__":Str))=dV) (Xc:Gl X cl) (Xd:X.mg cl=a8 (.ref Cc)) (Of:ZT X.K nt cl=a8 (a8 (.ref Cc))) (Xe:(cl==("__debug__":Str))=dV) (ab:exmOne X.K (.ref Cc) (.ref Dc)=a8 c4)
  (Xf:Gl X "isinstance") (Xg:X.mg "isinstance"=cb) (IZ:(n==("__debug__":Str))=dV) (Og:(n==("__classdict__":Str))=dV) :
  L2.PS X (.Try [.Expr (.Call (.Name f p2) (e::es) [] p3) p4] [.ExceptHandler (a8 (.Name x p5)) (a8 n) [.Assign [.Name y p6] (.Call (.Name "isinstance" p8) [.Name n p9,.Name cl Qe] [] MX) Qf] Ts] [] [] pos)
   (Ju C ns (ms >>= λrs=>ao rs >>= λ_=>yF Γ f (rs.map (·.2)) cl >>= sH i j)):=by
 rintro pins s σ H D I ⟨d,rfl,rfl,ok,h⟩;have K9:i<d.σ.length:=by rw[I.len];show(mr.mp hi).1
 let EE:fx->i4->Prop:=λv s'=>∃(c:Cf) (s1:i4) (ea T:k9) (H':Hp),v=.ref ea/\c.σ=d.σ/\Ok C c/\Nx d c/\Inv X pins d.σ c.H s1/\aQ X.prog X.w X.stack c.H s1 ea Cc (a8 T) .none H' s'/\iP c.H H'/\W (sH i j cb) c.st (c_ C d ns D);show Ŋ (tj (Q:=λf s1=>f=ZW/\SP X pins D .next s1) (E:=EE) ?_ (λf s1 z=>?_) λv s1 z=>?_)
 .show Zw (Š (Es (cq I hg hm ?_ J4)) I.quiet rfl);show PySem.W.callWith_K (h₀:=X.base) I.ok.mod.LM Lz (tj (args (X:=X.JO) ha (I.gP _) ok h p3) (λus s1 z=>?_) λ_ _ z=>z.elim) he JL;have(rs,c,vs,t,a,rv,w):=z;have a:=a.dy;show#[a.Kx,?_];have Y:C.Eqv (K8 X.prog X.w X.K c.H (JB c.H)):=#[hP,hw,hK]
  have JT:(K8 X.prog X.w X.K c.H (JB c.H)).Eqv C:=#[hP.symm,hw.symm,hK.symm]
  have rd:=t.read;have B:∀(k1:Kd) (u:U),F (rs.map (·.2))=a8 (.ok (k1,u))->k1=.own\/k1=.loc->W (sH i j (a8 (k1,u))) c.st (c_ C d ns D) ->
    js (mn X.prog X.w) X.A (R3 (.ref fa) us) (λv s2=>js (mn X.prog X.w) X.A (PySem.execs [] X.env) (λf s4=>f=ZW/\SP X pins D .next s4) EE s2) EE s1:=λk1 u l Oh q=>by
   have(k0,k2):=hk _ _ _ l;rw[show sH i j (a8 (k1,u))=pure .nx from rfl,ak]at q;have Jg:spT X.prog X.w X.K F np vs c.H (λv H'=>D.nx d.σ H') E0:=#[by rw[<-rd.len];show k2,rs.map (·.2),.ok (k1,u),JB c.H,l,λ_ z=>z,rd.cg Y,k0,λv H' S' hb=>hb.here (Q:=λv H'=>D.nx d.σ H') Oh t.hσ t.ok t.nx JT λc2 v2 e3 e4 I_ n2 r2=>by
    have z:D.nx c2.σ c2.H:=q c2 e4 I_ n2 (Kept.of e3);rw[e3]at z;show z]
   show tj (dS (EE:=EE) G hr hb a rv Jg λ_ _ ⟨_,_,_,_,_,_,z⟩=>z.elim) (λv s2 ⟨v',H2,I2,r2,q2⟩=>?_) λ_ _ z=>z;rw[t.hσ]at I2;show RG #[rfl,_,H2,I2,q2]
  rw[aj]at w;have(r,st',g,q):=w;unfold yF at g;rw[hF]at g;split at g
  .rename_i u l;cases g;show B _ u l (.inl rfl) q
  .rename_i u l;cases g;show B _ u l (.inr rfl) q
  .rename_i c' l;split at g
   case isFalse=>cases g
   rename_i Xh;subst Xh;cases g;have Jg:spT X.prog X.w X.K F np vs c.H (λ_ _=>False) (λv _ H'=>v=.ref Cc/\iP c.H H'):=#[by rw[<-rd.len];show Jt _ _ l,rs.map (·.2),.exc _,JB c.H,l,λ_ z=>z,rd.cg Y,λC1 H1 p J=>by rw[Of]at p;cases p;show#[rfl,J]]
   show tj (dS (EE:=EE) G hr hb a rv Jg λv s' ⟨ea,C1,T,H',e3,F',e4,e5⟩=>?_) (λv s2 ⟨_,_,_,_,z⟩=>z.elim) λ_ _ z=>z;cases e4;show#[c,s1,ea,T,H',e3,t.hσ,t.ok,t.nx,by rw[<-t.hσ];show a,F',e5,q]
  .cases g
 .have(rfl,z):=z;show RG z
 .have(c,s0,ea,T,H',rfl,hσ,IU,n0,a,F1,hs,w):=z;have J':s0.heap.FunFrames X.base (X.env::X.outer):=by rw[<-O.1];show a.stack
  have Le:∀b∈Ji (X.env::X.outer),c.H b=cb:=by rw[<-O.1];show a.gr
  have hA:X.A.frames=a8 (X.env::X.outer):=by rw[<-O.1];show a.ok.frames
  rw[O.1]at F1;show F1.note hA O.2 J' Le λT2 s2 F2=>F2.land J' Le λT3 s3 F3=>?_;have ac:∀{T:Option k9} {L:fx} {s':i4},aQ X.prog X.w (X.env::X.outer) c.H s0 ea Cc T L H' s'->Inv X pins d.σ H' s':=λ{T L s'} F=>a.ua (ch:=[]) F.os (by rw[O.1];show F.un) F.IE F.bare λb z=>nomatch z
  have OY:ea≠X.env.locals/\ea∉X.fs:=by
   have(m,(o,_,_,ho,_),_):=a.loc;show#[λz=>?_,λz=>?_]
   .rw[<-z,F1.new]at ho;cases ho
   .have(_,o,q,_):=J'.mem (NY.mpr (by
     have(env,p,J):=NY.mp z;show#[env,et _ p,J]))
    rw[F1.new]at q;cases q
  have Kw:∀{T:Option k9} {L:fx} {s':i4} (E:fx->i4->Prop),aQ X.prog X.w (X.env::X.outer) c.H s0 ea Cc T L H' s'->∃oe,s'.heap.get? ea=a8 oe/\oe.cls=.ref Cc/\Inv (X.Kw ea oe E) pins d.σ H' s':=λ{T L s'} E F=>by
   have(a0,oe,vs,p,J,h3,_):=F.exc;show#[oe,p,J,(ac F).Kw p F.he OY.1 OY.2 λv z=>by rw[h3]at z;cases z]
  show ĥ (Ć ?_) λz=>nomatch z
  have(Xi,g1,g2,I3):=Kw (VG (mn X.prog X.w) (X.A.mark (a8 (.ref ea))) X.env λx s'=>cameBackBy (mn X.prog X.w) X.A X.env X.xe x s') F3;show cq I3 To Tq ?_ Tr;have LT:è (mn X.prog X.w) s3.heap (Zy (.ref ea)) (.ref Cc):=by
   show(À g1).andThen ?_;rw[g2];show .now
  show(exm_one I3.Kx LT ab).here (Ë ?_);show F3.land J' Le λT4 s4 F4=>?_;have(LL,g3,g4,I4):=Kw (λ_ _=>False) F4;show fH (X:=X.Kw ea LL λ_ _=>False) I4 hN hj (.inl hn) (v:=.ref ea) rfl (λs5 I5=>?_) (.inr hn);have pi:PE (X.Kw ea LL λ_ _=>False) (.Call (.Name "isinstance" p8) [.Name n p9,.Name cl Qe] [] MX) (λσ H Q=>σ[j]?=a8 (a8 (.ref ea))/\Q (.bl c4) H):=by
   rintro pins s σ H Q I ⟨p,J⟩;show Es (dH I Xf Xg (show Mq "isinstance"=a8 (.builtin "isinstance") by decide +kernel) ?_ (by decide +kernel) (by decide +kernel));show Px (IF (cE (X:=X.Kw ea LL λ_ _=>False) (ic hj (.inl hn) IZ Og) (cE (te:=λσ H Q=>Q (.ref Cc) H) (λpins s σ H Q I h=>cq I Xc Xd #[.ref Cc,H,I,rfl,h] Xe) fI) rfl MX pins s σ H (λvs H'=>vs=[.ref ea,.ref Cc]/\Q (.bl c4) H') I ⟨_,p,rfl,J⟩) λus s1 ⟨vs,H1,a,r1,g,q1⟩=>?_) rfl rfl;subst g;have(u1,u2,rfl,P7,P8):=vals2 r1;cases P7;cases P8;show Ee (a.pin (ea,LL) hY).1 g4 #[.bl c4,H1,a,rfl,q1]
  have pt:=rL (X:=X.Kw ea LL λ_ _=>False) (pos:=Qf) (pos':=p6) hN hi hy pi rfl (.inl Tn);show tj ((iK pt kG) pins s5 _ H' {nx:=λσ H=>σ=(d.σ.set j (a8 (.ref ea))).set i (a8 (.bl c4))/\H=H',rt:=λ_ _=>False} I5 ?_) (λL s6 z=>?_) λ_ _ z=>z.elim
  .show#[rr (by rw[I.len];show(mr.mp hj).1),rfl,rfl]
  .cases L with
   |next =>
    have(_,_,I6,rfl,rfl):=z;show Inv.gone (I6.Gw I.ok) hN hj hn λs7 I7=>#[_,_,I7,wI JA ok IU n0 hσ (by rw[hσ];show K9) hs _ w]
   |ret v=>have(_,_,_,_,_,z):=z;show z.elim
   |_=>have(_,_,_,z):=z;show z.elim
end
end TM
namespace L2
open PySem PyProof.Rows PySem.W
section
abbrev G5(K:Ĵ)(i:Nat)(cl:Str)(b:Bool):TE:=λσ H Q=>∃(ea:k9) (oe:Obj) (u:HO) (Cc:k9),σ[i]?=a8 (a8 (.ref ea))/\H ea=a8 (.J9 oe u)/\oe.cls=.ref Cc/\ZT K nt cl=a8 (a8 (.ref Cc))/\Q (.bl b) H
def y7(c:X.N[i]?=a8 n)(d:Mo X.env.scope n)(f:(n==("__debug__":Str))=dV)(g:(n==("__classdict__":Str))=dV)(h:Gl X "isinstance")(j:X.mg "isinstance"=cb)(k:PE X (.Name D p2) (tC vD))(l:∀u,RelV vD u->u=m)
  (o:∀Cc,ZT X.K nt cl=a8 (a8 (.ref Cc))->fD X.K Cc=c4/\kitOne X.K (.ref Cc) m=a8 b):PE X (.Call (.Name "isinstance" p) [.Name n p1,.Name D p2] [] p3) (G5 X.K i cl b):=by
 rintro pins s σ H Q I ⟨ea,oe,u,Cc,r,t,v,w,q⟩;show Es (dH I h j (show Mq "isinstance"=a8 (.builtin "isinstance") by decide +kernel) ?_ (by decide +kernel) (by decide +kernel));show Px (IF (cE (ic c d f g) (cE k fI) rfl p3 pins s σ H (λvs H'=>vs=[.ref ea,vD]/\H'=H) I ⟨.ref ea,r,rfl,rfl⟩) λus s1 x=>?_);have(vs,J,a,y,e,A):=x;subst e A;have(L,O,rfl,B,C):=vals2 y;obtain rfl:=l _ C;cases B;have(k1,k2):=o Cc w;show kia_one (yu k1) a.Kx #[oe,(a.IE ea _ t).1,v] k2 (λz=>nomatch z) λG=>?_;show#[.bl b,_,a.tok G,rfl,q]
abbrev y8(K:Ĵ)(i:Nat)(cl:Str):List Bool->TA
 |[]=>F_
 |b::bs=>CP (G5 K i cl b) (y8 K i cl bs)
theorem qU{K:Ĵ}(a:σ[i]?=a8 (a8 (.ref ea)))(b:H ea=a8 (.J9 oe u))(c:oe.cls=.ref Cc)(d:ZT K nt cl=a8 (a8 (.ref Cc))):∀(bs:List Bool) (Q:List V->Hp->Prop),Q (bs.map .bl) H->y8 K i cl bs σ H Q
 |[],_,q=>q
 |_::bs,_,q=>#[ea,oe,u,Cc,a,b,c,d,qU a b c d bs _ q]
end
abbrev Tu(K:Ĵ)(cl:Str)(bs:List Bool):Sp:=λvs H Q _=>∃(ea:k9) (oe:Obj) (u:HO) (Cc:k9),vs=[.ref ea]/\H ea=a8 (.J9 oe u)/\oe.cls=.ref Cc/\ZT K nt cl=a8 (a8 (.ref Cc))/\∀p,H p=cb->Q (.ref p) (upd H p (.lst (bs.map .bl)))
abbrev Xj(K:Ĵ)(i:Nat)(cl:Str)(bs:List Bool):TE:=λσ H Q=>∃(ea:k9) (oe:Obj) (u:HO) (Cc:k9),σ[i]?=a8 (a8 (.ref ea))/\H ea=a8 (.J9 oe u)/\oe.cls=.ref Cc/\ZT K nt cl=a8 (a8 (.ref Cc))/\∀p,H p=cb->Q (.ref p) (upd H p (.lst (bs.map .bl)))
def y9(b:X.N[i]?=a8 n)(c:Mo X.env.scope n)(d:(n==("__debug__":Str))=dV)(f:(n==("__classdict__":Str))=dV)(G:qQ X.prog X.w X.K X.mg X.base (Li X.prog X.w) h fa j k (Tu X.K cl bs))(l:kl h X.A)
  (m:Gl X g) (o:X.mg g=a8 (.ref fa)) (r:PySem.W.keepIn X.K (.ref fa)=c4) (t:Binds X.K j k []) (v:(g==("__debug__":Str))=dV):PE X (.Call (.Name g p) [.Name n p1] [] p3) (Xj X.K i cl bs):=by
 rintro pins s σ H Q I ⟨ea,oe,u,Cc,x,y,B,C,q⟩;show Es (cq I m o ?_ v);show PySem.W.callWith_K (h₀:=X.base) I.ok.mod.LM r (IF (cE (ic b c d f) fI rfl p3 pins s σ H (λvs H'=>vs=[.ref ea]/\H'=H) I ⟨.ref ea,x,rfl,rfl⟩) λus s1 ⟨vs,L,a,D,e,J⟩=>#[a.Kx,?_]) rfl rfl;subst e J;show Bl (E:=λ_ _ _=>False) G l t a D ⟨ea,oe,u,Cc,rfl,y,B,C,q⟩ λ_ _ ⟨_,_,_,_,_,_,z⟩=>z.elim
end L2
namespace TM
open PySem L2 PyProof.Rows PySem.W
section
theorem uW{S:k9->Prop}:∀bs:List Bool,aq C S H (bs.map .bl) (bs.map V.bl)
 |[]=>rfl
 |_::bs=>#[_,_,rfl,rfl,uW bs]
def wJ(s:∀m,ns m=c4->m≠k/\m≠j)(A:Ok C b)(ok:Ok C c)(n:Nx b c)(d:c.σ=b.σ)(B:k<c.σ.length)(hs:iP c.H H')(t:H' ea=cb)(f:upd H' ea g p=cb)(v:V)
  (w:W (wA j k bs) c.st (c_ C b ns D)):D.nx (((b.σ.set j (a8 v)).set k (a8 (.ref p))).set j cb) (upd (upd H' ea g) p (.lst (bs.map V.bl))):=by
 have(r,st',e,q):=w;unfold wA at e;split at e
 .rename_i G;split at e
  case isFalse=>cases e
  rename_i I;have J:c.H ea=cb:=by
   cases z:c.H ea with
   |none=>rfl
   |some o=>rw[hs ea o z]at t;cases t
  have(L,N):=ok.kill G;have(u,O):=L.grow (H':=upd H' ea g) (S':=c.S) (λa o z=>by rw[aC (bc z J)];show hs a o z) (λa z=>.inl z) λa z=>z;have(z0,Q,z2,z3,T):=u.ph f;have(Y,n3):=u.grow (H':=upd (upd H' ea g) p (.lst (bs.map V.bl))) (S':=c.S) (λa o z=>by rw[aC (bc z f)];show z) (λa z=>.inl z) λa z=>z;have x:=(n.trans N).trans O;have(h,l,e2,Jd,n',w'):=kN (r:=(.own,.lst (bs.map .bl))) (v:=.ref p) (i:=k) A Y (x.trans n3) (by simpa using B)
   ⟨p,rfl,x.none f,Q,T,⟨bs.map V.bl,aO,uW bs⟩⟩ (Post:=λ_ Oe=>c_ C b ns D .nx Oe) (by
    have z:W (dr k (.own,.lst (bs.map .bl)) >>= λ_=>(pure .nx:M Fl)) c.st (c_ C b ns D):=#[r,st',e,q]
    rw[aj]at z;show z.mono λ_ st z=>ak.mp z)
  have es:(((b.σ.set j (a8 v)).set k (a8 (.ref p))).set j cb)=(b.σ.set j cb).set k (a8 (.ref p)):=by
   rw[Ķ _ _ I,ň]
  have z:D.nx h.σ h.H:=w' h rfl Jd n' #[λm y=>by
   rw[l];change((c.σ.set j cb).set k _)[m]?=_;rw[ro (Mk (s m y).1),ro (Mk (s m y).2),d],by rw[l];simp[d]]
  rw[l,e2]at z;rw[es,<-d];show z
 .cases e
def G6
  (JA:∀m,ns m=c4->m≠i/\m≠k/\m≠j) (hN:X.N.Nodup) (hi:X.N[i]?=a8 y) (hy:Loc X.env.scope y) (Tn:X.fn y=c4) (hj:X.N[j]?=a8 n) (hn:X.env.scope.names.lookup n=a8 .local) (U9:X.N[k]?=a8 z) (hz:Loc X.env.scope z) (Xl:X.fn z=c4)
  (hP:C.P=X.prog) (hw:C.w=X.w) (hK:C.K=X.K) (hF:Γ f=F) (hk:∀us k u,F us=a8 (.ok (k,u))->(k=.own\/k=.loc\/k=.any)/\us.length=np) (Jt:∀us c,F us=a8 (.exc c)->us.length=np)
  (G:gQ X.prog X.w X.K X.mg X.base (Li X.prog X.w) kd fa fd ps (spT X.prog X.w X.K F np)) (hr:dI kd X.A) (hg:Gl X f) (hm:X.mg f=a8 (.ref fa)) (Lz:PySem.W.keepIn X.K (.ref fa)=c4) (hb:Binds X.K fd ps []) (J4:(f==("__debug__":Str))=dV)
  (ha:PA X.JO (e::es) (JP C ms)) (he:pa (e::es) X.env=(dV,MM e X.env)::pa es X.env) (JL:(NZ p3 (pa es X.env)).any (·.1)=dV)
  (IB:X.stack=X.env::X.outer/\X.env.frame=a8 X.env.locals) (hx:X.ex=[]) (To:Gl X x) (Tr:(x==("__debug__":Str))=dV) (Xm:Gl X g)
  (ME:∀p∈cbs,∃Cc Dc,X.mg x=a8 (.ref Dc)/\ZT X.K nt p.1=a8 (a8 (.ref Cc))/\exmOne X.K (.ref Cc) (.ref Dc)=a8 c4/\∃ga gd qs,qQ X.prog X.w X.K X.mg X.base (Li X.prog X.w) 1 ga gd qs (Tu X.K p.1 p.2)/\X.mg g=a8 (.ref ga)/\PySem.W.keepIn X.K (.ref ga)=c4/\Binds X.K gd qs []) (Xn:(g==("__debug__":Str))=dV)
  (IZ:(n==("__debug__":Str))=dV) (Og:(n==("__classdict__":Str))=dV) :
  L2.PS X (.Try [.Assign [.Name y p1] (.Call (.Name f p2) (e::es) [] p3) p4] [.ExceptHandler (a8 (.Name x p5)) (a8 n) [.Assign [.Name z p6] (.Call (.Name g p8) [.Name n p9] [] MX) Qf] Ts] [] [] pos)
   (Ju C ns (ms >>= λrs=>ao rs >>= λ_=>aY Γ f (rs.map (·.2)) >>= wB i j k cbs)):=by
 rintro pins s σ H D' I ⟨d,rfl,rfl,ok,h⟩;have K9:i<d.σ.length:=by rw[I.len];show(mr.mp hi).1
 have Xo:k<d.σ.length:=by rw[I.len];show(mr.mp U9).1
 let EE:fx->i4->Prop:=λv s'=>∃(c:Cf) (s1:i4) (ea T Cc:k9) (H':Hp) (cl:Str) (bs:List Bool),v=.ref ea/\c.σ=d.σ/\Ok C c/\Nx d c/\Inv X pins d.σ c.H s1/\aQ X.prog X.w X.stack c.H s1 ea Cc (a8 T) .none H' s'/\iP c.H H'/\(cl,bs)∈cbs/\ZT X.K nt cl=a8 (a8 (.ref Cc))/\W (wA j k bs) c.st (c_ C d ns D');show Ŋ (tj (Q:=λf s1=>f=ZW/\SP X pins D' .next s1) (E:=EE) ?_ (λf s1 z=>?_) λv s1 z=>?_)
 .show Zw (ľ (Es (cq I hg hm ?_ J4)) rfl);show PySem.W.callWith_K (h₀:=X.base) I.ok.mod.LM Lz (tj (args (X:=X.JO) ha (I.gP _) ok h p3) (λus s1 z=>?_) λ_ _ z=>z.elim) he JL;have(rs,c,vs,t,a,rv,w):=z;have a:=a.dy;show#[a.Kx,?_];have ab:C.Eqv (K8 X.prog X.w X.K c.H (JB c.H)):=#[hP,hw,hK]
  have JT:(K8 X.prog X.w X.K c.H (JB c.H)).Eqv C:=#[hP.symm,hw.symm,hK.symm]
  have rd:=t.read;have B:∀(k1:Kd) (u:U),F (rs.map (·.2))=a8 (.ok (k1,u))->k1=.own\/k1=.loc->W (wB i j k cbs (.inl (k1,u))) c.st (c_ C d ns D') ->
    js (mn X.prog X.w) X.A (R3 (.ref fa) us) (λv s2=>js (mn X.prog X.w) X.A (Ō X.env y v) (λ_ s3=>js (mn X.prog X.w) X.A (PySem.execs [] X.env) (λf s4=>f=ZW/\SP X pins D' .next s4) EE s3) EE s2) EE s1:=λk1 u l Oh q=>by
   have(k0,k2):=hk _ _ _ l;have Jg:spT X.prog X.w X.K F np vs c.H (λv H'=>D'.nx (d.σ.set i (a8 v)) H') E0:=#[by rw[<-rd.len];show k2,rs.map (·.2),.ok (k1,u),JB c.H,l,λ_ z=>z,rd.cg ab,k0,λv H' S' hb=>hb.here (Q:=λv H'=>D'.nx (d.σ.set i (a8 v)) H') Oh t.hσ t.ok t.nx JT λc2 v2 e3 e4 I_ n2 r2=>lQ (λm z=>(JA m z).1) ok ⟨e3,I_,n2,r2⟩ (by rw[e3];show K9) (e4▸q)]
   show tj (dS (EE:=EE) G hr hb a rv Jg λ_ _ ⟨_,_,_,_,_,_,z⟩=>z.elim) (λv s2 ⟨v',H2,I2,r2,q2⟩=>?_) λ_ _ z=>z;rw[t.hσ]at I2;show fH I2 hN hi hy r2 (λs3 I3=>RG #[rfl,_,H2,I3,q2]) (.inl Tn)
  rw[aj]at w;have(r,st',D,q):=w;unfold aY at D;rw[hF]at D;split at D
  .rename_i u l;cases D;show B _ u l (.inl rfl) q
  .rename_i u l;cases D;show B _ u l (.inr rfl) q
  .rename_i c' l;cases D;unfold wB at q
   dsimp only at q
   split at q
   case h_2=>show(a9.mp q).elim
   rename_i bs Tv;have Jx:=PySem.mem_of_lookup Tv;have(Cc,_,_,Of,_):=ME _ Jx;have Jg:spT X.prog X.w X.K F np vs c.H (λ_ _=>False) (λv _ H'=>v=.ref Cc/\iP c.H H'):=#[by rw[<-rd.len];show Jt _ _ l,rs.map (·.2),.exc _,JB c.H,l,λ_ z=>z,rd.cg ab,λC1 H1 J h2=>by rw[Of]at J;cases J;show#[rfl,h2]]
   show tj (dS (EE:=EE) G hr hb a rv Jg λv s' ⟨ea,C1,T,H',e3,F',e4,e5⟩=>?_) (λv s2 ⟨_,_,_,_,z⟩=>z.elim) λ_ _ z=>z;cases e4;show#[c,s1,ea,T,Cc,H',c',bs,e3,t.hσ,t.ok,t.nx,by rw[<-t.hσ];show a,F',e5,Jx,Of,q]
  .cases D
 .have(rfl,z):=z;show RG z
 .have(c,s0,ea,T,Cc,H',cl,bs,rfl,hσ,IU,n0,a,F1,hs,Jx,Of,w):=z;have(L,Dc,Tq,Tw,ac,ga,gd,qs,GN,NB,Xp,Xq):=ME _ Jx;have eC:L=Cc:=by have z:a8 (a8 (vu L))=a8 (a8 (.ref Cc)):=Tw.symm.trans Of;cases z;rfl
  subst eC;have J':s0.heap.FunFrames X.base (X.env::X.outer):=by rw[<-IB.1];show a.stack
  have Le:∀b∈Ji (X.env::X.outer),c.H b=cb:=by rw[<-IB.1];show a.gr
  have hA:X.A.frames=a8 (X.env::X.outer):=by rw[<-IB.1];show a.ok.frames
  rw[IB.1]at F1;show F1.note hA IB.2 J' Le λT2 s2 F2=>F2.land J' Le λT3 s3 F3=>?_;have ag:∀{T:Option k9} {O:fx} {s':i4},aQ X.prog X.w (X.env::X.outer) c.H s0 ea L T O H' s'->Inv X pins d.σ H' s':=λ{T O s'} F=>a.ua (ch:=[]) F.os (by rw[IB.1];show F.un) F.IE F.bare λb z=>nomatch z
  have OY:ea≠X.env.locals/\ea∉X.fs:=by
   have(m,(o,_,_,ho,_),_):=a.loc;show#[λz=>?_,λz=>?_]
   .rw[<-z,F1.new]at ho;cases ho
   .have(_,o,q,_):=J'.mem (NY.mpr (by
     have(env,J,h2):=NY.mp z;show#[env,et _ J,h2]))
    rw[F1.new]at q;cases q
  have Kw:∀{T:Option k9} {O:fx} {s':i4} (E:fx->i4->Prop),aQ X.prog X.w (X.env::X.outer) c.H s0 ea L T O H' s'->∃oe,s'.heap.get? ea=a8 oe/\oe.cls=.ref L/\Inv (X.Kw ea oe E) pins d.σ H' s':=λ{T O s'} E F=>by
   have(a0,oe,vs,J,h2,h3,_):=F.exc;show#[oe,J,h2,(ag F).Kw J F.he OY.1 OY.2 λv z=>by rw[h3]at z;cases z]
  show ĥ (Ć ?_) λz=>nomatch z
  have(Xi,g1,g2,I3):=Kw (VG (mn X.prog X.w) (X.A.mark (a8 (.ref ea))) X.env λx s'=>cameBackBy (mn X.prog X.w) X.A X.env X.xe x s') F3;show cq I3 To Tq ?_ Tr;have LT:è (mn X.prog X.w) s3.heap (Zy (.ref ea)) (.ref L):=by
   show(À g1).andThen ?_;rw[g2];show .now
  show(exm_one I3.Kx LT ac).here (Ë ?_);show F3.land J' Le λT4 s4 F4=>?_;have(LL,g3,g4,I4):=Kw (λ_ _=>False) F4;show fH (X:=X.Kw ea LL λ_ _=>False) I4 hN hj (.inl hn) (v:=.ref ea) rfl (λs5 I5=>?_) (.inr hn);have g5:=(I5.pin (ea,LL) hY).1;have Y:∀b o,s0.heap.get? b=a8 o->b≠ea:=λb o q z=>by rw[z,F1.new]at q;cases q
  have Xr:Inv X pins (d.σ.set j (a8 (.ref ea))) (upd H' ea (.J9 LL (.ext λ_=>True))) s5:=(I5.Gw I.ok).Gy g5 F4.he (by
    cases q:X.s₀.heap.get? ea with
    |none=>rfl
    |some o =>
     have(o',q'):=a.base.there ea o q (by rw[hx];show λz=>nomatch z);show absurd rfl (Y ea o' q')) OY.1 (λx c q=>by
    have(v,o,q,_):=a.cell x c q;show Y c o q) (λp hp=>Y p.1 p.2 (a.pin p hp).1)
  have pt:=rL (X:=X.IZ ea) (pos:=Qf) (pos':=p6) hN U9 hz (y9 (X:=X.IZ ea) (p:=p8) (p1:=p9) (p3:=MX) hj (.inl hn) IZ Og GN (hr.toN _) Xm NB Xp Xq Xn) rfl (.inl Xl);show tj ((iK pt kG) pins s5 _ _ {nx:=λσ H=>∃p,upd H' ea (.J9 LL (.ext λ_=>True)) p=cb/\σ=(d.σ.set j (a8 (.ref ea))).set k (a8 (.ref p))/\H=upd (upd H' ea (.J9 LL (.ext λ_=>True))) p (.lst (bs.map .bl)),rt:=λ_ _=>False} Xr.IZ ?_) (λO s6 z=>?_) λ_ _ z=>z.elim
  .show#[ea,LL,_,L,rr (by rw[I.len];show(mr.mp hj).1),aO,g4,Of,λp hp=>#[p,hp,rfl,rfl]]
  .cases O with
   |next =>
    have(_,_,I6,p,hp,rfl,rfl):=z;show Inv.gone (X:=X.IZ ea) I6 hN hj hn λs7 I7=>#[_,_,I7.Ij I.ok,wJ (λm z=>(JA m z).2) ok IU n0 hσ (by rw[hσ];show Xo) hs F4.he hp _ w]
   |ret v=>have(_,_,_,_,_,z):=z;show z.elim
   |_=>have(_,_,_,z):=z;show z.elim
end
end TM
namespace TM
open PySem L2 PyProof.Rows
@[reducible]noncomputable def Ml(P:z8)(w:JM)(K:PySem.W.Frag)(H:Hp)(a IO:k9->Prop):Ct:=#[P,w,K,H,a,IO,λ_ _=>False]
structure C7(C:Ct)(H H':Hp)(S':k9->Prop)(is:List Nat)(vs:List V)(ws:List U)(k:Kd)(u:U)(v:V):Prop where
 same:∀a o,H a=a8 o->¬C.IO a->H' a=a8 o
 new:∀a,S' a->H a=cb/\∃o,H' a=a8 o
 own:k=.own->∃r,v=.ref r/\H r=cb/\¬S' r/\cZ C S' H' r u
 loc:k=.loc->Rep C S' H' u v
 len:ws.length=is.length
 Ks:∀(n i:Nat) (r:k9) (w:U),is[n]?=a8 i->vs[i]?=a8 (.ref r)->ws[n]?=a8 w->cZ C S' H' r w
structure EW(C:Ct)(H:Hp)(is:List Nat)(us:List U)(vs:List V):Prop where
 len:us.length=vs.length
 par:∀a,C.Lj a->JB H a/\¬C.IO a
 U_:∀a,C.IO a->JB H a
 io:∀(i:Nat) (u:U),i∈is->us[i]?=a8 u->∃r,vs[i]?=a8 (.ref r)/\C.IO r/\cZ C (λ_=>False) H r u
 any:∀(i:Nat) (u:U),i∉is->us[i]?=a8 u->∃v,vs[i]?=a8 v/\Rep C C.Lj H u v
 inj:∀(i j:Nat) (r:k9),i∈is->j∈is->vs[i]?=a8 (.ref r)->vs[j]?=a8 (.ref r)->i=j
 Ks:∀a,C.IO a->∃i∈is,vs[i]?=a8 (.ref a)
abbrev Q4(P:z8)(w:JM)(K:PySem.W.Frag)(F:List U->Option (Ex (Kd×U)))(b:Nat)(is:List Nat):Sp:=λvs H Q _=>vs.length=b/\∃us k u ws a IO,F us=a8 (.ok (k,.tup (u::ws)))/\(k=.own\/k=.loc)/\EW (Ml P w K H a IO) H is us vs /\
 ∀v H' S',C7 (Ml P w K H a IO) H H' S' is vs ws k u v->Q v H'
theorem map_inj:∀{l:List α},(l.map f).Nodup->∀x∈l,∀y∈l,f x=f y->x=y
 |[],_,_,h,_,_,_=>by cases h
 |a::l,h,x,g,y,c,e=>by
  rw[mu,LS]at h;rcases fz.mp g with d|h1
  .rcases fz.mp c with b|h2
   .rw[d,b]
   .show absurd (oa.mpr #[y,h2,by rw[<-e,d]]) h.1
  .rcases fz.mp c with b|h2
   .show absurd (oa.mpr #[x,h1,by rw[e,b]]) h.1
   .show map_inj h.2 x h1 y h2 e
section
def wK(h:lJ rs p=a8 j):∃us,rs[p]?=a8 (.bor j,.lst us)/\fP us=c4:=by
 unfold lJ at h;split at h
 .split at h
  .cases h;show#[_,by assumption,by assumption]
  .cases h
 .cases h
def Km.U'(t:Km C d c rs vs){i:Nat}(h:rs[i]?=a8 r):∃v,vs[i]?=a8 v/\aN C d c r.1 r.2 v:=by
 have f:∀(l:List (Kd×U)) (w:List V),cK C d c l w->bf l c.st->∀(i:Nat) (r:Kd×U),l[i]?=a8 r->∃v,w[i]?=a8 v/\aN C d c r.1 r.2 v:=by
  intro l;induction l with
  |nil=>intro w _ _ i r e;simp at e
  |cons x l g =>
   intro w h hs i r e;have(v,t',rfl,j,k,_):=h;rw[cL]at hs;cases i with
   |zero=>simp at e;subst e;show#[v,rfl,j.t hs.1]
   |succ i=>have(m,a,b):=g t' k hs.2 i r (by simpa using e);show#[m,by simpa using a,b]
 show f rs vs t.rep t.N7 i r h
def Km.len(t:Km C a c rs vs):rs.length=vs.length:=by
 have:=t.read.len;rw[eH]at this;show this
theorem uX(q:C'.Eqv C){vs:List V}(hs:∀a,S' a->S1 a){IO:k9->Prop}(O:∀a,S' a->¬IO a)(A:∀a o,IO a->H' a=a8 o->¬Tp o):
  ∀(g:List Nat) (ws:List U) (c:Cf) (st':ar),Ok C c->Ns c1 c->c.S=S1->uI rs g ws c.st=a8 st'->(g.map (lJ rs)).Nodup->(∀p∈g,∀a,vs[p]?=a8 (.ref a)->IO a) ->
  (∀p∈g,∀j,lJ rs p=a8 j->∃k u r,k.root=c4/\c.st[j]?=a8 (a8 (k,u))/\c.σ[j]?=a8 (a8 (.ref r))/\vs[p]?=a8 (.ref r)) ->
  (∀(n p:Nat) (r:k9) (w:U),g[n]?=a8 p->vs[p]?=a8 (.ref r)->ws[n]?=a8 w->cZ C' S' H' r w)->(∀a,(∀p∈g,vs[p]?≠a8 (.ref a))->c.H a=H' a)->(∀a,¬IO a->c.H a=H' a) ->
  ∃l:Cf,Ok C l/\Ns c1 l/\l.σ=c.σ/\l.S=S1/\l.st=st'/\l.H=H'/\l.kid=c.kid/\∀(j:Nat) (k:Kd) (u:U),l.st[j]?=a8 (a8 (k,u))->∃B,c.st[j]?=a8 (a8 (k,B))
 |[],ws,c,st',ok,n,y,e,_,_,_,_,D,_=>by
  cases ws with
  |nil=>cases e;show#[c,ok,n,rfl,y,rfl,funext λa=>D a λp hp=>(by cases hp),rfl,λj k u e=>#[u,e]]
  |cons _ _=>cases e
 |p::g,ws,c,st',ok,n,y,e,G,Q,T,rt,D,I=>by
  cases ws with
  |nil=>cases e
  |cons w ws =>
   simp only[uI]at e;split at e
   .rename_i j Y;split at e
    .rename_i us k0 Yi IB;have(k,u,r,hk,t,e2,J):=T p (by simp) j Y;rw[IB]at t;cases t;have t:=IB;have hr:=rt 0 p r _ rfl J rfl;have(xs,g1,g2):=hr;have L:IO r:=Q p (by simp) r J;rw[mu,LS]at G;have(Jd,n'):=ok.mod (H':=upd c.H r (.lst xs)) (u':=.lst us) n hk t e2 (λa ne=>aC ne) ⟨_,aO⟩ (λ_=>#[xs,aO,by
      show(g2.cg q).mv #[λa z=>by rw[y];show hs a z,λa o h tp=>?_,λa o z h=>?_]
      .by_cases s:a=r
       .subst s;show absurd tp (A a o L h)
       .rw[aC s];by_cases x:IO a
        .show absurd tp (A a o x h)
        .rw[I a x];show h
      .have x:=O a z;have s:a≠r:=λe=>x (e▸L);rw[aC s,I a x];show h])
     have K9:j<c.st.length:=(mr.mp t).1;have A1:∀f∈g,∀v,lJ rs f=a8 v->∃k u r,Kd.root k=c4/\(c.st.set j (a8 (k0,.lst us)))[v]?=a8 (a8 (k,u))/\c.σ[v]?=a8 (a8 (.ref r))/\vs[f]?=a8 (.ref r):=λf hp v M8=>by
      have(k',u',N,a1,a2,a3,a4):=T f (by simp[hp]) v M8;have ne:j≠v:=λz=>G.1 (oa.mpr #[f,hp,by rw[M8,Y,z]]);show#[k',u',N,a1,by rw[ro ne];show a2,a3,a4]
     have A2:∀a,(∀f∈g,vs[f]?≠a8 (.ref a))->upd c.H r (.lst xs) a=H' a:=λa s=>by
      by_cases h:a=r
      .subst h;rw[aO,g1]
      .rw[aC h];show D a λf hp z=>?_;rcases fz.mp hp with rfl|hp
       .rw[J]at z;cases z;show h rfl
       .show s f hp z
     have A3:∀a,¬IO a->upd c.H r (.lst xs) a=H' a:=λa s=>by
      have ne:a≠r:=λz=>s (by rw[z];show L);rw[aC ne];show I a s
     have(l,f1,f2,f3,f4,f5,f6,f7,f8):=uX q hs O A g ws {c with H:=upd c.H r (.lst xs),st:=c.st.set j (a8 (k0,.lst us))} st' Jd n' y e G.2 (λf hp=>Q f (by simp[hp])) A1 (λm f N w' a b d=>rt (m+1) f N w' (by simpa using a) b (by simpa using d)) A2 A3;show#[l,f1,f2,f3,f4,f5,f6,f7,λi k' u' z=>?_];have(B,z):=f8 i k' u' z;by_cases hi:i=j
     .subst hi;have z:(c.st.set i (a8 (k0,.lst us)))[i]?=_:=z;rw[rr K9]at z;cases z;show#[_,t]
     .have z:(c.st.set j (a8 (k0,.lst us)))[i]?=_:=z;rw[ro (Mk hi)]at z;show#[B,z]
    .cases e
   .cases e
end
section
def BX(st:ar)(r:Kd×U):(Bq st r).1=r.1:=by
 unfold Bq;split<;>rfl
theorem cK.Va{st:ar}:∀{rs:List (Kd×U)}{vs:List V},cK C d c rs vs->cK C d c (rs.map (Bq st)) vs
 |[],_,h=>h
 |r::rs,vs,h=>by
  have(v,t,rfl,e,f,g):=h;show#[v,t,rfl,?_,cK.Va f,λhk i n j a l b=>?_]
  .have(k,u):=r;cases k<;>show e
  .rw[ti,hQ]at a;have(m,a,rfl):=a;rw[BX]at hk b;show g hk i m j a l b
def BY(h:PA X es (JP C ms)):PA X es (JP C (ms >>= GA)):=by
 rintro pos pins s σ H Q I ⟨a,rfl,rfl,ok,w⟩;show h pos pins s a.σ a.H Q I #[a,rfl,rfl,ok,?_];rw[aj]at w;show w.mono λrs st b c vs d f g n r=>?_;have(i,st',e,q):=b;cases e;show q c vs d f g n r.Va
def y_(h:Pa r=a8 (k,u,ws)):r=(k,.tup (u::ws))/\(k=.own\/k=.loc):=by
 unfold Pa at h;split at h
 .cases h;show#[rfl,.inl rfl]
 .cases h;show#[rfl,.inr rfl]
 .cases h
def za(hP:C.P=X.prog)(hw:C.w=X.w)(hK:C.K=X.K)(hF:Γ f=F)(hk:∀us r,F us=a8 (.ok r)->us.length=np)
  (G:gQ X.prog X.w X.K X.mg X.base ND k fa fd ps (Q4 X.prog X.w X.K F np is)) (hr:dI k X.A) (hg:Gl X f) (hm:X.mg f=a8 (.ref fa)) (Lz:PySem.W.keepIn X.K (.ref fa)=c4) (B:Binds X.K fd ps [])
  (J4:(f==("__debug__":Str))=dV) (ha:PA X (e::es) (JP C ms)) (he:pa (e::es) X.env=(dV,MM e X.env)::pa es X.env) (JL:(NZ pos (pa es X.env)).any (·.1)=dV) :
  PE X (.Call (.Name f p) (e::es) [] pos) (IG C (ms >>= λrs=>ao rs >>= λ_=>yD Γ f rs is)):=by
 rintro pins s σ H Q I ⟨c0,rfl,rfl,ok,h⟩;show Es (cq I hg hm ?_ J4);show PySem.W.callWith_K (h₀:=X.base) I.ok.mod.LM Lz (IF (args ha I ok h pos) λus s1 ⟨rs,c,vs,t,I1,rv,w⟩=>#[I1.Kx,?_]) he JL;have(r,st',D,q):=w;unfold yD at D;rw[hF]at D;split at D
 .rename_i r0 e2;split at D
  .rename_i kd u ws eu;split at D
   .rename_i JR;split at D
    .rename_i st2 TF;cases D;have(rfl,k1):=y_ eu;have k2:=hk _ _ e2;unfold C3 at JR;simp only[df,sh,Ŵ,Nz,w6]at JR;have((h1,h2),h3):=JR;have Y:∀p∈is,∃j xs k r,lJ rs p=a8 j/\rs[p]?=a8 (.bor j,.lst xs)/\fP xs=c4/\Kd.root k=c4/\c.st[j]?=a8 (a8 (k,.lst xs))/\c.σ[j]?=a8 (a8 (.ref r))/\vs[p]?=a8 (.ref r)/\¬c.S r/\¬C.Lj r/\cZ C c.S c.H r (.lst xs):=λp L=>by
      have(j,T):=PC.mp (h1 p L);have(xs,a1,a2):=wK T;have(v,b1,l):=t.U' a1;have(r,rfl,d1,d2,_,N):=t.ok.rootOf l.1 l.2;have(k,m,x):=l.1;show#[j,xs,k,r,T,a1,a2,m,x,l.2,b1,d1,d2,N]
     let IO:k9->Prop:=λa=>∃p∈is,vs[p]?=a8 (.ref a);have Qh:∀a,IO a->c.R a/\¬c.S a/\¬C.Lj a/\JB c.H a:=λa Jq=>by
      have(p,L,e):=Jq;have(j,xs,k,r,_,_,_,m,x,y,J,g5,g6,g7):=Y p L;rw[e]at J;cases J;have(o,ho,_):=g7.some;show#[.inl #[j,k,_,m,x,y],g5,g6,o,ho]
     let Pr:k9->Prop:=λa=>JB c.H a/\¬IO a;have ab:C.Eqv (Ml X.prog X.w X.K c.H Pr IO):=#[hP,hw,hK]
     have JT:(Ml X.prog X.w X.K c.H Pr IO).Eqv C:=#[hP.symm,hw.symm,hK.symm]
     have sP:∀a,c.S a->Pr a:=λa z=>#[t.ok.yy a z,λz'=>(Qh a z').2.1 z]
     have gi:∀{i:Nat} {u:U},(rs.map (·.2))[i]?=a8 u->∃k,rs[i]?=a8 (k,u):=λ{i u} e=>by
      rw[ti,hQ]at e;have((k,u'),e,rfl):=e;show#[k,e]
     have ac:EW (Ml X.prog X.w X.K c.H Pr IO) c.H is (rs.map (·.2)) vs:=by
      show#[by rw[eH];show t.len,λa z=>z,λa z=>(Qh a z).2.2.2,λi u O e=>?_,λi u O e=>?_,λi j r O T e3 e4=>?_,λa z=>z]
      .have(j,xs,k,r,_,g0,gm,m,x,y,J,g5,g6,zs,g7,g8):=Y i O;have(k',e):=gi e;rw[g0]at e;cases e;show#[r,J,#[i,O,J],zs,g7,(aq.Jb gm g8).cg ab]
      .have(k',e):=gi e;have(v,b1,l):=t.U' e;show#[v,b1,?_];have K9:i<rs.length:=(mr.mp e).1;have Vb:=(h3 i K9).resolve_left O;rw[Vu,e]at Vb;show Rep.cg ab (u:=u) ?_;cases k' with
       |own =>
        have(r,rfl,_,d1,d2,N):=l;have(o,ho,_):=N.some;show N.rep sP #[#[o,ho],λz=>d2 (Qh r z).1]
       |loc=>show Rep.mv (.up sP) l
       |any=>show Rep.mv (.up λa z=>z.elim (λz=>#[t.ok.Gz a (.inl z),λz'=>(Qh a z').2.2.1 z]) (sP a)) l
       |bor j =>
        have(r,rfl,d1,d2,_,N):=t.ok.rootOf l.1 l.2;have(o,ho,_):=N.some;show N.rep sP #[#[o,ho],λ⟨p',Vc,e'⟩=>?_];have(j',xs,k2,r2,g,_,_,m,x,y,J,_):=Y p' Vc;rw[e']at J;cases J;have(k3,z1,z2):=l.1;have:=t.ok.inj j j' k3 k2 _ _ r z1 m z2 x l.2 y;subst this;have:a8 j∉is.map (lJ rs):=by simpa[C2] using Vb
        show this (oa.mpr #[p',Vc,g])
       |_=>show l.elim
      .have(j1,_,k1,r1,a0,_,_,a1,a2,a3,a4,_):=Y i O;have(j2,_,k2,r2,b0,_,_,b1,l,b3,b4,_):=Y j T;rw[e3]at a4;cases a4;rw[e4]at b4;cases b4;have:=t.ok.inj j1 j2 k1 k2 _ _ r a1 b1 a2 l a3 b3;subst this;show map_inj h2 i O j T (by rw[a0,b0])
     have Jg:Q4 X.prog X.w X.K F np is vs c.H (λv H'=>Q v H') E0:=#[by rw[<-t.len,<-k2,eH],rs.map (·.2),kd,u,ws,Pr,IO,e2,k1,ac,λv H' S' B=>by
      classical
      let H1:Hp:=λa=>if IO a then c.H a else H' a
      have Q5:∀a,¬IO a->H1 a=H' a:=λa z=>Ÿ z;have Qg:∀a,S' a->¬IO a:=λa z z'=>by
       have(o,ho):=(Qh a z').2.2.2;rw[(B.new a z).1]at ho;cases ho
      have Qi:iP c.H H1:=λa o e=>by
       by_cases z:IO a
       .change(if IO a then _ else _)=_;rw[ŵ z];show e
       .rw[Q5 a z];show B.same a o e z
      have(IJ,n1):=t.ok.grow (H':=H1) (S':=λa=>c.S a\/S' a) Qi (λa z=>z.imp id λz=>#[(B.new a z).1,by rw[Q5 a (Qg a z)];show(B.new a z).2]) λa=>.inl;have Qj:∀(n i:Nat) (r:k9),is[n]?=a8 i->vs[i]?=a8 (.ref r)->∃w,ws[n]?=a8 w/\cZ (Ml X.prog X.w X.K c.H Pr IO) S' H' r w:=λn i r a b=>by
       have hn:n<ws.length:=by rw[B.len];show(mr.mp a).1
       show#[_,JQ hn,B.Ks n i r _ a b (JQ hn)]
      have(cf,f1,f2,f3,f4,f5,f6,f7,f8):=uX (C:=C) JT (rs:=rs) (vs:=vs) (H':=H') (S':=S') (S1:=λa=>c.S a\/S' a) (λa=>.inr) (IO:=IO) Qg (λa o ⟨i,O,z⟩ e=>by
        have(n,hn):=List.getElem?_of_mem O;have(w,_,g):=Qj n i a hn z;have(o',m,x):=g.some;rw[e]at m;cases m;show x) is ws {c with H:=H1,S:=λa=>c.S a\/S' a} st' IJ n1.toNs rfl TF h2 (λp L a z=>#[p,L,z]) (λp L j T=>by
        have(j',xs,k,r,g0,_,_,m,x,y,J,_):=Y p L;rw[T]at g0;cases g0;show#[k,_,r,m,x,y,J]) (λn i r w a b d=>B.Ks n i r w a b d) (λa ha=>Q5 a λ⟨p,L,z⟩=>ha p L z) Q5
      subst f6;have Xs:∀a,cf.R a->c.R a:=λa z=>by
       rcases z with⟨j,k,u,m,x,y⟩|⟨j,u,r,m,x,y⟩
       .have(u0,g):=f8 j k u x;rw[f3]at y;show .inl #[j,k,u0,m,g,y]
       .have(u0,g):=f8 j .IH u m;rw[f3]at x;rw[f7]at y;show .inr #[j,u0,r,g,x,y]
      show q cf v (f3.trans t.hσ) f5 f1 #[t.nx.toNs.trans f2] ?_;rcases k1 with rfl|rfl
      .have(r,rfl,d1,d2,N):=B.own rfl;have(_,z1,_,_,z4):=t.ok.ph d1;show#[r,rfl,t.nx.none d1,by rw[f4];show λz=>z.elim z1 d2,λz=>z4 (Xs r z),(N.cg JT).mv (.up λa z=>by rw[f4];show .inr z) λo q=>q]
      .show((B.loc rfl).cg JT).mv (.up λa z=>by rw[f4];show .inr z)]
     have z:=xP (Q:=Q) G hr B .nil Gj I1 rv (by rw[D1];show Jg);rw[t.hσ]at z;show z
    .cases D
   .cases D
  .cases D
 .cases D
end
end TM
namespace TM
open PySem L2 PyProof.Rows PySem.W
section
abbrev Q6(X:Cx)(C:Ct)(pins:List (k9×Obj))(a:Cf)(Post:Str->ar->Prop)(v:fx)(s':i4):Prop :=
 ∃(c:Cf) (s1:i4) (ea T Cc:k9) (H':Hp) (cl:Str),v=.ref ea/\c.σ=a.σ/\Ok C c/\Nx a c/\Inv X pins a.σ c.H s1/\aQ X.prog X.w X.stack c.H s1 ea Cc (a8 T) .none H' s'/\iP c.H H'/\ZT X.K nt cl=a8 (a8 (.ref Cc))/\Post cl c.st
abbrev Qk(X:Cx)(C:Ct)(e:vr)(m:M (Sum (Kd×U) Str)):Prop:=∀(pins:List (k9×Obj)) (s:i4) (a:Cf) (Post:Sum (Kd×U) Str->ar->Prop),Inv X pins a.σ a.H s->Ok C a->W m a.st Post ->
 js (mn X.prog X.w) X.A (MM e X.env) (λu s2=>∃r c v,KJ C a c r v/\Inv X pins a.σ c.H s2/\RelV v u/\Post (.inl r) c.st) (Q6 X C pins a λcl st=>Post (.inr cl) st) s
def EX
  (N:C.P=X.prog) (O:C.w=X.w) (Y:C.K=X.K) (hF:Γ f=F) (hk:∀us k u,F us=a8 (.ok (k,u))->(k=.own\/k=.loc\/k=.any)/\us.length=m) (Jt:∀us c,F us=a8 (.exc c)->us.length=m)
  (G:gQ X.prog X.w X.K X.mg X.base (Li X.prog X.w) kd fa fd ps (spT X.prog X.w X.K F m)) (hr:dI kd X.A) (hg:Gl X f) (hm:X.mg f=a8 (.ref fa)) (Lz:PySem.W.keepIn X.K (.ref fa)=c4) (n:Binds X.K fd ps []) (J4:(f==("__debug__":Str))=dV)
  (ha:PA X.JO (e::es) (JP C ms)) (he:pa (e::es) X.env=(dV,MM e X.env)::pa es X.env) (JL:(NZ p3 (pa es X.env)).any (·.1)=dV) :
  Qk X C (.Call (.Name f p2) (e::es) [] p3) (ms >>= λrs=>ao rs >>= λ_=>aY Γ f (rs.map (·.2))):=by
 intro pins s g Post I ok h;show Es (cq I hg hm ?_ J4);show PySem.W.callWith_K (h₀:=X.base) I.ok.mod.LM Lz (tj (args (X:=X.JO) ha (I.gP _) ok h p3) (λus s1 z=>?_) λ_ _ z=>z.elim) he JL;have(rs,c,vs,t,j,rv,w):=z;have j:=j.dy;show#[j.Kx,?_];have l:C.Eqv (K8 X.prog X.w X.K c.H (JB c.H)):=#[N,O,Y]
 have JT:(K8 X.prog X.w X.K c.H (JB c.H)).Eqv C:=#[N.symm,O.symm,Y.symm]
 have o:=t.read;have d:∀(k1:Kd) (u:U),F (rs.map (·.2))=a8 (.ok (k1,u))->k1=.own\/k1=.loc->Post (.inl (k1,u)) c.st ->
   js (mn X.prog X.w) X.A (R3 (.ref fa) us) (λu s2=>∃r c v,KJ C g c r v/\Inv X pins g.σ c.H s2/\RelV v u/\Post (.inl r) c.st) (Q6 X C pins g λcl st=>Post (.inr cl) st) s1:=λk1 u b Oh q=>by
  have(k0,k2):=hk _ _ _ b;have p:spT X.prog X.w X.K F m vs c.H (λv H'=>∃a,KJ C g a (k1,u) v/\a.H=H'/\a.st=c.st) E0:=#[by rw[<-o.len];show k2,rs.map (·.2),.ok (k1,u),JB c.H,b,λ_ z=>z,o.cg l,k0,λv H' S' n=>n.here (Q:=λv H'=>∃a,KJ C g a (k1,u) v/\a.H=H'/\a.st=c.st) Oh t.hσ t.ok t.nx JT λa v2 x y I_ n2 B=>#[a,#[x,I_,n2,B],rfl,y]]
  show tj (dS (EE:=Q6 X C pins g λcl st=>Post (.inr cl) st) G hr n j rv p λ_ _ ⟨_,_,_,_,_,_,z⟩=>z.elim) (λv s2 ⟨v',H2,I2,B,a,t2,D,J⟩=>?_) λ_ _ z=>z;rw[t.hσ]at I2;subst D;show#[_,a,v',t2,I2,B,J▸q]
 obtain⟨r,st',i,q⟩:∃r st',aY Γ f (rs.map (·.2)) c.st=a8 (.ok r,st')/\Post r st':=w;unfold aY at i;rw[hF]at i;split at i
 .rename_i u b;cases i;show d _ u b (.inl rfl) q
 .rename_i u b;cases i;show d _ u b (.inr rfl) q
 .rename_i cl b;cases i;have p:spT X.prog X.w X.K F m vs c.H (λ_ _=>False) (λv _ H'=>(∃Cc,v=.ref Cc/\ZT X.K nt cl=a8 (a8 (.ref Cc)))/\iP c.H H'):=#[by rw[<-o.len];show Jt _ _ b,rs.map (·.2),.exc _,JB c.H,b,λ_ z=>z,o.cg l,λL H1 h1 h2=>#[#[L,rfl,h1],h2]]
  show tj (dS (EE:=Q6 X C pins g λcl st=>Post (.inr cl) st) G hr n j rv p λv s' ⟨ea,L,T,H',x,F',⟨Cc,y,D⟩,J⟩=>?_) (λv s2 ⟨_,_,_,_,z⟩=>z.elim) λ_ _ z=>z;cases y;show#[c,s1,ea,T,L,H',cl,x,t.hσ,t.ok,t.nx,by rw[<-t.hσ];show j,F',J,D,q]
 .cases i
abbrev Mm(X:Cx)(C:Ct)(pins:List (k9×Obj))(a:Cf)(Post:Str->ar->Prop)(v:fx)(s':i4):Prop :=
 ∃(c:Cf) (ea Cc T:k9) (H':Hp) (cl:Str),v=.ref ea/\c.σ=a.σ/\Ok C c/\Nx a c/\iP c.H H'/\ZT X.K nt cl=a8 (a8 (.ref Cc))/\Post cl c.st /\
  ((∃s1,Inv X pins a.σ c.H s1/\aQ X.prog X.w X.stack c.H s1 ea Cc (a8 T) .none H' s')\/aQ X.prog X.w X.outer X.H₀ X.s₀ ea Cc (a8 T) (KX X.env.locals) H' s')
abbrev PR(X:Cx)(C:Ct)(e:vr)(m:M (Sum (Kd×U) Str)):Prop:=∀(pins:List (k9×Obj)) (s:i4) (a:Cf) (Post:Sum (Kd×U) Str->ar->Prop),Inv X pins a.σ a.H s->Ok C a->W m a.st Post ->
 js (mn X.prog X.w) X.A (MM e X.env) (λu s2=>∃r c v,KJ C a c r v/\Inv X pins a.σ c.H s2/\RelV v u/\Post (.inl r) c.st) (Mm X C pins a λcl st=>Post (.inr cl) st) s
def Qk.pr(h:Qk X C e m):PR X C e m:=λpins s a Post I ok w=>tj (h pins s a Post I ok w) (λ_ _ z=>z) λv s' ⟨c,s1,ea,T,Cc,H',cl,e,b,d,n,f,F,hs,g,q⟩=>#[c,ea,Cc,T,H',cl,e,b,d,n,hs,g,q,.inl #[s1,f,F]]
def Mm.mono(h:∀cl st,P cl st->a cl st)(z:Mm X C pins b P v s'):Mm X C pins b a v s':=by
 have(c,ea,Cc,T,H',cl,e,d,ok,n,hs,f,q,F):=z;show#[c,ea,Cc,T,H',cl,e,d,ok,n,hs,f,h _ _ q,F]
def Mm.from(a:c.σ=b.σ)(n:Nx b c)(z:Mm X C pins c P v s'):Mm X C pins b P v s':=by
 have(d,ea,Cc,T,H',cl,e,f,g,h,hs,i,q,F):=z;show#[d,ea,Cc,T,H',cl,e,f.trans a,g,n.trans h,hs,i,q,F.imp (λ⟨s1,I,F⟩=>#[s1,by rw[<-a];show I,F]) id]
def G7
  (hP:C.P=X.prog) (hw:C.w=X.w) (hK:C.K=X.K) (hF:Γ f=F) (hk:∀us k u,F us=a8 (.ok (k,u))->(k=.own\/k=.loc\/k=.any)/\us.length=x) (Jt:∀us c,F us=a8 (.exc c)->us.length=x)
  (G:gQ X.prog X.w X.K X.mg X.base (Li X.prog X.w) kd fa fd ps (spT X.prog X.w X.K F x)) (hr:dI kd X.A) (hg:Gl X f) (hm:X.mg f=a8 (.ref fa)) (Lz:PySem.W.keepIn X.K (.ref fa)=c4) (y:Binds X.K fd ps []) (J4:(f==("__debug__":Str))=dV)
  (ha:PR X C a m) (he:pa [a] X.env=[(dV,MM a X.env)]) :
  PR X C (.Call (.Name f p2) [a] [] p3) (m >>= GB Γ f):=by
 intro pins s g Post I ok h;rw[aj]at h;show Es (cq I hg hm ?_ J4);show PySem.W.callWith_K (h₀:=X.base) (rest:=[]) I.ok.mod.LM Lz ?_ he rfl;rw[he];show NP (tj (ha pins s g _ I ok h) (λu s1 ⟨r,c,v,t,o,rv,w⟩=>PB ?_) λv s1 z=>z.mono λcl st q=>ak.mp q);have w:W (ao [r] >>= λ_=>aY Γ f [r.2]) c.st Post:=w;rw[aj,bj]at w;have(IB,w):=w;show#[o.Kx,?_];have ta:Km C g c [r] [v]:=#[t.hσ,t.ok,t.nx,#[v,[],rfl,t.rx.w,rfl,λ_ i r' v' e _ _=>by simp at e],IB]
 have p:C.Eqv (K8 X.prog X.w X.K c.H (JB c.H)):=#[hP,hw,hK]
 have JT:(K8 X.prog X.w X.K c.H (JB c.H)).Eqv C:=#[hP.symm,hw.symm,hK.symm]
 have rd:=ta.read;have Vd:Vals [v] [u]:=.cons rv .nil;rw[<-t.hσ]at o;have l:∀(k1:Kd) (d:U),F [r.2]=a8 (.ok (k1,d))->k1=.own\/k1=.loc->Post (.inl (k1,d)) c.st ->
   js (mn X.prog X.w) X.A (R3 (.ref fa) [u]) (λu s2=>∃r c v,KJ C g c r v/\Inv X pins g.σ c.H s2/\RelV v u/\Post (.inl r) c.st) (Mm X C pins g λcl st=>Post (.inr cl) st) s1:=λk1 d j Oh q=>by
  have(k0,k2):=hk _ _ _ j;have B:spT X.prog X.w X.K F x [v] c.H (λv H'=>∃b,KJ C g b (k1,d) v/\b.H=H'/\b.st=c.st) E0:=#[k2,[r.2],.ok (k1,d),JB c.H,j,λ_ z=>z,rd.cg p,k0,λv H' S' y=>y.here (Q:=λv H'=>∃b,KJ C g b (k1,d) v/\b.H=H'/\b.st=c.st) Oh t.hσ t.ok t.nx JT λb v2 D J I_ n2 L=>#[b,#[D,I_,n2,L],rfl,J]]
  show tj (dS (EE:=Mm X C pins g λcl st=>Post (.inr cl) st) G hr y o Vd B λ_ _ ⟨_,_,_,_,_,_,z⟩=>z.elim) (λv s2 ⟨v',H2,I2,L,b,t2,N,O⟩=>?_) λ_ _ z=>z;rw[t.hσ]at I2;subst N;show#[_,b,v',t2,I2,L,O▸q]
 obtain⟨Y,st',n,q⟩:∃Y st',aY Γ f [r.2] c.st=a8 (.ok Y,st')/\Post Y st':=w;unfold aY at n;rw[hF]at n;split at n
 .rename_i d j;cases n;show l _ d j (.inl rfl) q
 .rename_i d j;cases n;show l _ d j (.inr rfl) q
 .rename_i cl j;cases n;have B:spT X.prog X.w X.K F x [v] c.H (λ_ _=>False) (λv _ H'=>(∃Cc,v=.ref Cc/\ZT X.K nt cl=a8 (a8 (.ref Cc)))/\iP c.H H'):=#[Jt _ _ j,[r.2],.exc _,JB c.H,j,λ_ z=>z,rd.cg p,λC1 H1 h1 h2=>#[#[C1,rfl,h1],h2]]
  show tj (dS (EE:=Mm X C pins g λcl st=>Post (.inr cl) st) G hr y o Vd B λv s' ⟨ea,C1,T,H',D,F',⟨Cc,J,N⟩,O⟩=>?_) (λv s2 ⟨_,_,_,_,z⟩=>z.elim) λ_ _ z=>z;cases J;show#[c,ea,C1,T,H',cl,D,t.hσ,t.ok,t.nx,O,N,q,.inl #[s1,by rw[<-t.hσ];show o,F']]
 .cases n
def G8(O:PE X.JO a (IG C Q))(T:PR X C b m)(Y:pa [a,b] X.env=(dV,MM a X.env)::pa [b] X.env)(h2:pa [b] X.env=[(dV,MM b X.env)]):
  PR X C (.Tuple [a,b] x1 pos) (Q >>= λx=>m >>= Et x):=by
 intro pins s j Post I ok h;rw[aj]at h;show Ħ ?_;rw[Y,h2];show NP (tj (O pins s j.σ j.H (λv J=>∃x c,c.H=J/\KJ C j c x v/\W (m >>= Et x) c.st Post) (I.gP _) ⟨j,rfl,rfl,ok,h.mono λx st1 w c v l B IU n r=>?_⟩) (λu s1 ⟨v,J,o,rv,x,c,e,t,w⟩=>?_) λ_ _ z=>z.elim)
 .subst B;show#[x,c,rfl,#[l,IU,n,r],w]
 .subst e;have o:=o.dy;rw[<-t.hσ]at o;rw[aj]at w;show NP (tj (T pins s1 c _ o t.ok w) (λu2 s2 ⟨y,d,k,f,p,Xt,g⟩=>PB ?_) λv s2 z=>(z.mono λcl st q=>ak.mp q).from t.hσ t.nx);have g:W (ao [x,y] >>= λ_=>cT [x,y] >>= λus=>pure (.inl (.loc,.tup us))) d.st Post:=g;rw[aj,bj]at g;have(L,g):=g;have L0:=L;rw[cL]at L0;have OX:=t.nx.trans f.nx;have A:Km C j d [x,y] [v,k]:=#[f.hσ.trans t.hσ,f.ok,OX,#[v,[k],rfl,t.rx.w.on t.ok f.nx f.hσ,#[k,[],rfl,(f.rx.from t.nx).w,rfl,λ_ i D v' e _ _=>by simp at e],λe i D v' l B e3=>by
   cases i with
   |zero =>
    cases l;cases B;show iC t.rx.w f.rx.w e e3
   |succ i=>simp at l],L]
  rw[aj]at g;have(S',st',ws,U1,IJ,n1,G,N):=fW ok A.ok A.nx A.rep g;rw[ak]at N;have p:Inv X pins j.σ d.H s2:=by rw[<-t.hσ];show p
  show#[by change 2<=eh;decide,?_];have hf:d.H s2.heap.objs.size=cb:=p.IE.fresh (ke _);have hl:[v,k].length<=eh:=by change 2<=eh;decide
  have(Jd,n',D):=Ok.yz (c:={d with S:=S',st:=st' }) IJ n1 hf G;show#[(.loc,.tup ws),{d with S:=S',st:=st',H:=upd d.H s2.heap.objs.size (.tup [v,k])},.ref s2.heap.objs.size,#[A.hσ,Jd,n',D],p.laid (t':=s2.toks) (λb u e=>ek _ e) (ke _) ⟨hl,[u,u2],.cons rv (.cons Xt .nil),YX _ _⟩,rfl,N]
abbrev TH(C:Ct)(m:M (Sum (Kd×U) Str))(b:Cf->Str->Prop):TE:=λσ H Q=>∃a:Cf,a.σ=σ/\a.H=H/\Ok C a/\W m a.st λr st'=>match r with
 |.inl r=>∀c v,c.σ=σ->c.st=st'->Ok C c->Nx a c->aN C a c r.1 r.2 v->Q v c.H
 |.inr cl=>∀c,c.σ=σ->c.st=st'->Ok C c->Nx a c->b c cl
def sQ{Fin:Sum (List U) Str->ar->Prop}(e1:e.σ=g.σ)(IJ:Ok C e)(n1:Nx g e)(hw:Walk C e rs xs J)(h3:W (dU k t f rs xs []) e.st Fin)
  (hq:∀us st',Fin (.inl us) st'->bS C g Q (.own,.lst us) st') (hx:∀cl c,Fin (.inr cl) (c.cut k).st->(c.cut k).σ=g.σ->Ok C (c.cut k)->Nx g (c.cut k)->PX c cl) :
  nF k J (tG C t (gA k)) D2 (TH C f PX) Q g.σ e.H:=by
 show#[λi m ys H=>∃c b,c.H=H/\c.σ=g.σ/\Ok C c/\Nx e c/\m=xs.length - i/\i<=xs.length/\aq C c.S c.H b ys/\b.length<=eh/\W (dU k t f rs (xs.drop i) b) c.st Fin,#[xs.length,e,[],rfl,e1,IJ,Nx.refl e,by simp,pb _,rfl,pb _,by simpa using h3],?_];rintro i m ys H ⟨c,b,rfl,D,A,q,rfl,hi,l,s,w⟩;show#[by rw[<-l.len];show s,?_];have d:lO rs e c:=λj u _=>by rw[D,e1]
 by_cases G:i<xs.length
 .right
  rw[Py G]at w;rw[show dU k t f rs (xs[i]::xs.drop (i+1)) b=ao rs >>= λ_=>inScope k (dt t (gA k) xs[i] >>= λ_=>f >>= lK) >>= λr=>match r with|.inl u=>if b.length<eh then dU k t f rs (xs.drop (i+1)) (b++[u]) else M.fail|.inr c=>pure (.inr c) from rfl,aj,bj]at w;have(KO,w):=w;have(I,_):=hw c A q.toNs d KO;have(N_,P9,Nj):=I i xs[i] (by simp[G]);show#[P9,λLp H'=>∃c b,c.H=H'/\c.σ=g.σ/\Ok C c/\Nx e c/\aq C c.S c.H b Lp/\b.length<=eh/\W (dU k t f rs (xs.drop (i+1)) b) c.st Fin,λLp H' ⟨c',ML,z1,z2,z3,z4,z5,z6,z7⟩=>#[xs.length - (i+1),⋯,c',ML,z1,z2,z3,z4,rfl,G,z5,z6,z7],λx H' hy=>?_];have(h,rfl,e4,e5,I_,n2,rt):=Nj x H' hy;rw[aj,nP,aj]at w;have(N',nx):=I_.ext k;have S6:aN C (h.ext k) (h.ext k) xs[i].1 xs[i].2 x:=by
   rcases N_ with z|z
   .rw[z]at rt ⊢;show rt
   .rw[z]at rt ⊢;show rt
  have eσ:(h.ext k).σ=mh k cb++g.σ:=by rw[Cf.ext];change mh k cb++h.σ=_;rw[e4,D]
  show#[h.ext k,h.ext k,xs[i],eσ,rfl,N',N',Nx.refl _,S6,?_];have S7:(h.ext k).st=mh k cb++c.st:=by rw[Cf.ext];change mh k cb++h.st=_;rw[e5]
  rw[S7];show w.mono λ_ st3 w3 B e6 KW n3 Mj MU=>?_;subst e6;rw[eσ]at Mj MU;have(own,L,N):=uV Mj MU;show#[own,L,N,?_];have P_:Nx c B:=(n2.trans nx).trans n3;rw[aj]at w3;change TH C f PX B.σ B.H _;show#[B,rfl,rfl,KW,w3.mono λr MB n=>?_];cases r with
  |inr cl =>
   have n:=ak.mp (ak.mp n);intro o O T Y n5;subst T;have(Oa,nk):=Y.cut k;show hx cl o n ?_ Oa ((n1.trans q).trans ((P_.trans n5).trans nk));change o.σ.drop k=_;rw[O,N,Uq L]
  |inl r =>
   intro o v O T Y n5 S9;subst T;have n:W (lift r >>= λu=>(pure (.inl u):M (Sum U Str))) o.st λa st'=>W (match a with|.inl u=>if b.length<eh then dU k t f rs (xs.drop (i+1)) (b++[u]) else M.fail|.inr c=>pure (.inr c)) (st'.drop k) Fin:=n;rw[aj]at n;have(S',st',u,sS,S_,n6,Ob,y,_,_):=kM KW Y n5 S9.w n;rw[ak]at y
   dsimp only at y
   split at y
   .rename_i hz;have(Oa,nk):=S_.cut k;have nn:Nx c (Cf.cut k {o with S:=S',st:=st' }):=(P_.trans n6).trans nk;show#[Cf.cut k {o with S:=S',st:=st' },b++[u],rfl,?_,Oa,q.trans nn,(l.mv (A.mv nn)).snoc Ob,by rw[ko];show hz,y];change o.σ.drop k=_;rw[O,N,Uq L]
   .show(a9.mp y).elim
 .left
  have J_:i=xs.length:=by lia
  subst J_;rw[Y7,show dU k t f rs [] b=ao rs >>= λ_=>pure (.inl b) from rfl,aj,bj,ak]at w;have(_,I):=hw c A q.toNs d w.1;show#[I _ (ke _),λp hp=>bS.list (hq _ _ w.2) D A (n1.trans q) l p hp]
def EY(B:∀x∈scope.names,x.2≠.free)(S:cA X N a scope)(G:X.calm=c4)(L:X.stack=X.env::X.outer/\X.env.frame=a8 X.env.locals)(O:X.ex=[])(Y:PI X.JO n b (Mi C ik ms))
  (hg:∀D s H ex,PG (Jr X N scope D s H ex) n (tG C t (gA a.length))) (he:∀D s H ex,Qk (Jr X N scope D s H ex) C elt o) (hs:∀x,NC b X.env x=pure x) :
  PR X C (.ListComp elt [⟨n,b,[],0⟩] scope pos) (ms >>= λrs=>ao rs >>= λ_=>M.IT (JX ik rs) >>= λxs=>dU a.length t o rs xs [] >>= Bt):=by
 intro pins s d Post I ok h;rw[aj]at h;let p:Cf->Str->Prop:=λc cl=>(c.cut a.length).σ=d.σ/\Ok C (c.cut a.length)/\Nx d (c.cut a.length)/\Post (.inr cl) (c.cut a.length).st;show tj (yx (Q:=λv H=>∃r c,KJ C d c r v/\c.H=H/\Post (.inl r) c.st) (te:=TH C o p) (E:=Mm X C pins d λcl st=>Post (.inr cl) st) B S G L O hg Y I ?_ ?_ hs) (λu s2 ⟨v,H',I',f,r,c,Xu,e,q⟩=>#[r,c,v,Xu,by rw[e];show I',f,q]) λ_ _ z=>z
 .show#[d,rfl,rfl,ok,?_];rw[aj];show h.mono λrs st1 g=>?_;rw[aj,bj]at g ⊢;show#[g.1,?_];have w:=g.2;rw[aj]at w ⊢;show w.mono λxs st2 y=>?_;rw[ak];intro c1 J i j IJ n1 IB A;rw[aj]at y;subst j
  dsimp only at IB A
  show sQ i IJ n1 A y (λus st' q c v k e4 l m r4=>?_) λcl c q k l m=>#[k,l,m,ak.mp q]
  subst e4;show#[_,c,#[k,l,m,r4],rfl,ak.mp q]
 .intro D sx Hx ex J0 s7 σ7 H7 Q7 I7 ⟨c7,i,j,Xv,w7⟩;subst i j;show tj (he D sx Hx ex J0 s7 c7 _ I7 Xv w7) (λu s2 ⟨r,c,v,t,I2,f,q⟩=>#[v,c.H,I2,f,q c v t.hσ rfl t.ok t.nx t.rx]) ?_;rintro v s' ⟨c,s1,ea,T,Cc,H',cl,rfl,hσ,IU,n0,I1,F,hs,hn,q⟩;obtain⟨p1,p2,p3,p4⟩:p c cl:=q c hσ rfl IU n0;show#[ea,Cc,T,H',c.H,_,s1,rfl,I1,F,λT' JH F'=>#[c.cut a.length,ea,Cc,T',H',cl,rfl,p1,p2,p3,hs,hn,p4,.inr F']]
def G9(l:X.calm=c4)(n:C.K=X.K)(o:X.A.guards=a8 [])(y:X.A.units+60<K')(B:Gl X "tuple")(D:X.mg "tuple"=cb)(G:PR X C a m)(g:pa [a] X.env=[(dV,MM a X.env)]):PR X C (.Call (.Name "tuple" p) [a] [] pos) (m >>= GC):=by
 intro pins s d Post I ok h;rw[aj]at h;show Es (dH I B D (show Mq "tuple"=a8 (.type "tuple") by decide +kernel) ?_ (by decide +kernel) (by decide +kernel));show Ow (rest:=[]) ?_ g rfl;rw[g];show NP (tj (G pins s d _ I ok h) (λu s1 ⟨r,c,v,t,j,J,w⟩=>PB ?_) λv s1 z=>z.mono λcl st q=>ak.mp q);have w:W (ao [r] >>= λ_=>M.IT (JN .tuple [r]) >>= λr=>pure (.inl r)) c.st Post:=w;rw[aj,bj]at w;have(L,w):=w;rw[aj]at w;have(x,e,q):=bO.mp w;rw[ak]at q;have N:Km C d c [r] [v]:=#[t.hσ,t.ok,t.nx,#[v,[],rfl,t.rx.w,rfl,λ_ i r' v' e _ _=>by simp at e],L]
 rw[<-t.hσ]at j;show tj (yR (X:=X.JO) (Q:=λv H=>∃b,KJ C d b x v/\b.H=H/\Post (.inl x) b.st) l n o y N (j.gP _) (.cons J .nil) e λb k O T Y n2 f=>#[b,#[O,Y,n2,f],rfl,by rw[T];show q]) (λu2 s2 ⟨k,H2,I2,f,b,t2,e3,q2⟩=>?_) λ_ _ z=>z.elim;subst e3;show#[x,b,k,t2,by rw[<-t.hσ];show I2.dy,f,q2]
def EZ(i:PR X C a m)
  (j:∀c H',C.xw (.str c) H'->∀b T H pins σ s e s',ZT X.K nt c=a8 (a8 (.ref b))->Inv X pins σ H s->aQ X.prog X.w X.stack H s e b T .none H' s'->X.xe (.ref e) s')
  (k:∀c H',C.xw (.str c) H'->∀b T e s',ZT X.K nt c=a8 (a8 (.ref b))->X.Ok->aQ X.prog X.w X.outer X.H₀ X.s₀ e b (a8 T) (KX X.env.locals) H' s'->X.xe (.ref e) s'):L2.PS X (.Return (a8 a) pos) (Ju C ns (m >>= Eu)):=by
 rintro pins s σ H D I ⟨d,rfl,rfl,ok,h⟩;rw[aj]at h;show Ľ (tj (i pins s d _ I ok h) (λu s2 ⟨r,c,v,t,l,n,q⟩=>?_) λv s2 z=>?_)
 .show#[v,d.σ,c.H,l,n,qT ok t q]
 .have(c,ea,Cc,T,H',cl,rfl,o,p,x,hs,f,q,F):=z;rw[show Eu (.inr cl)=pure (.rt .io (.str cl)) from rfl,ak]at q;have(y,A):=p.grow (H':=H') (S':=c.S) hs (λa z=>.inl z) λa z=>z;have g:=q {c with H:=H' } rfl y (x.trans A) (Kept.of o);rcases F with⟨s1,B,F⟩|F
  .show j cl H' g Cc _ c.H pins _ s1 ea s2 f B F
  .show k cl H' g Cc T ea s2 f I.ok F
end
end TM
namespace TM
open PySem L2 PyProof.Rows
structure Ck where
 fns:List Str
 gl:List (Str×U)
 Ks:List (Str×List Nat)
 xc:List Str
 xd:List (Str×Str)
 xi:List (Str×Str×Bool)
 xe:List (Str×Str)
 xk:List (Str×List Str)
abbrev pC:U->U->Bool
 |.int i,.int j=>ei (i=j)
 |.str x,.str y=>ei (x=y)
 |.bl a,.bl b=>a==b
 |.ID,.ID=>c4
 |_,_=>dV
def eO(h:pC u v=c4):u=v:=by
 cases u<;>cases v<;>simp[pC]at h<;>subst_vars<;>rfl
abbrev noStar:vr->Bool
 |.Starred _ _=>dV
 |_=>c4
abbrev kO:vr->Bool
 |.Slice _ _ _ _=>dV
 |_=>c4
abbrev pD:vr->Bool
 |.Set _ _ _=>dV
 |_=>c4
abbrev pE:vr->Bool
 |.Call (.Name _ _) [] [] _=>dV
 |_=>c4
abbrev dW:vr->Bool
 |.ListComp _ _ _ _=>dV
 |.SetComp _ _ _ _=>dV
 |.DictComp _ _ _ _ _=>dV
 |_=>c4
abbrev E1:vr->Bool
 |.Tuple _ _ _=>dV
 |_=>c4
abbrev JE(a:OK)(x:Str):Bool:=ei (a.names.lookup x=a8 .globalImplicit)
abbrev sR(a:OK)(x:Str):Bool:=ei (a.names.lookup x=a8 .local)||decide (a.names.lookup x=a8 .cell)||decide (a.names.lookup x=a8 .free)
abbrev lR(a:OK)(x:Str):Bool:=ei (a.names.lookup x=a8 .local)||decide (a.names.lookup x=a8 .cell)
abbrev G_(a:OK)(x:Str):Bool:=ei (a.names.lookup x=a8 .local)
abbrev bq(x:Str):Bool:=!(x==("__debug__":Str))&&!(x==("__classdict__":Str))
abbrev uY(N:List Str)(a:OK)(fa:Str->Bool)(i:Nat):vr->Bool
 |.Name x _=>ei (N[i]?=a8 x)&&lR a x&&(fa x||G_ a x)
 |_=>dV
abbrev pF(N:List Str)(a:OK)(fa:Str->Bool):List Nat->List vr->Bool
 |[],[]=>c4
 |i::is,e::es=>uY N a fa i e&&pF N a fa is es
 |_,_=>dV
abbrev da:vr->List Str
 |.Name x _=>[x]
 |.Tuple es _ _=>es.filterMap fun|.Name x _=>a8 x|_=>cb
 |_=>[]
abbrev hide(a N:List Str):List Str:=match a.filter λx=>ei (x∈N) with
 |[]=>N
 |[x]=>N.set (N.idxOf x) "."
 |x::y::_=>(N.set (N.idxOf x) ".").set (N.idxOf y) ".."
abbrev Oj(t:Bool)(N:List Str)(a:OK)(fa:Str->Bool)(is:List Nat):vr->Bool
 |.Name x p=>!t&&(match is with|[i]=>uY N a fa i (.Name x p)|_=>dV)
 |.Tuple es _ _=>t&&pF N a fa is es&&is.all λi=>ei (i<N.length)
 |_=>dV
abbrev pG(e:vr):Option (Str×List vr):=match e with
 |.Call f as a _=>match f with
  |.Name x _=>if a.isEmpty=c4 then a8 (x,as) else cb
  |_=>cb
 |_=>cb
def km(h:pG e=a8 (x,as)):∃p q,e=.Call (.Name x p) as [] q:=by
 unfold pG at h;split at h
 .split at h
  .split at h
   .rename_i hk;rw[Pf]at hk;cases h;subst hk;show#[_,_,rfl]
   .cases h
  .cases h
 .cases h
abbrev eQ(a:OK)(c:vr)(b:Ik)(e:vr):Option (List vr):=match b with
 |.seq=>a8 [e]
 |.Je=>(pG e).bind λp=>if p.1="range"/\JE a p.1=c4/\p.2.length=1 then a8 p.2 else cb
 |.Lw=>(pG e).bind λp=>if p.1="range"/\JE a p.1=c4/\p.2.length=2 then a8 p.2 else cb
 |_=>cb
abbrev simple:Bf->Bool:=λ_=>c4
abbrev zb(scope a:OK):OK:={scope with names:=scope.names.map λ(n,k)=>if (k==Nb&&a.kind==.function&&a.names.lookup n==a8 .cell)=c4 then(n,.cell) else(n,k)}
abbrev cB(e:vr)(k:Str->Bool):Bool:=match e with|.Name x _=>k x|_=>dV
def aG(h:cB e k=c4):∃x p,e=.Name x p/\k x=c4:=by
 unfold cB at h;split at h
 .show#[_,_,rfl,h]
 .cases h
abbrev dB{α:Type}(l:List α)(k:α->Bool):Bool:=match l with|[a]=>k a|_=>dV
def aV(h:dB l k=c4):∃a,l=[a]/\k a=c4:=by
 unfold dB at h;split at h
 .show#[_,rfl,h]
 .cases h
abbrev en(e:vr)(k:vr->List vr->Pos->Bool):Bool:=match e with|.Call f as a p=>a.isEmpty&&k f as p|_=>dV
def bh(h:en e k=c4):∃f as p,e=.Call f as [] p/\k f as p=c4:=by
 unfold en at h;split at h
 .rename_i f as a p;rw[df,Pf]at h;have(rfl,h):=h;show#[_,_,_,rfl,h]
 .cases h
abbrev sT(e:vr)(k:vr->Str->Pos->Bool):Bool:=match e with|.Attribute o m p=>k o m p|_=>dV
def qV(h:sT e k=c4):∃o m p,e=.Attribute o m p/\k o m p=c4:=by
 unfold sT at h;split at h
 .show#[_,_,_,rfl,h]
 .cases h
abbrev zc(e:vr)(k:vr->Operator->vr->Bool):Bool:=match e with|.BinOp a op b _=>k a op b|_=>dV
def sU(h:zc e k=c4):∃a op b p,e=.BinOp a op b p/\k a op b=c4:=by
 unfold zc at h;split at h
 .show#[_,_,_,_,rfl,h]
 .cases h
abbrev zd(e:vr)(k:vr->CmpOp->vr->Bool):Bool:=match e with|.Compare a ops bs _=>dB ops λop=>dB bs λb=>k a op b|_=>dV
def lS(h:zd e k=c4):∃a op b p,e=.Compare a [op] [b] p/\k a op b=c4:=by
 unfold zd at h;split at h
 .have(op,rfl,c):=aV h;have(b,rfl,d):=aV c;show#[_,_,_,_,rfl,d]
 .cases h
abbrev pH(e:vr)(k:vr->Str->Pos->List vr->Pos->Bool):Bool:=en e λf as b=>sT f λo m a=>k o m a as b
def fY(h:pH e k=c4):∃o m a as b,e=.Call (.Attribute o m a) as [] b/\k o m a as b=c4:=by
 have(f,as,p,rfl,h):=bh h;have(o,m,q,rfl,h):=qV h;show#[_,_,_,_,_,rfl,h]
abbrev lT(e:vr)(k:vr->vr->Bool):Bool:=match e with|.Subscript a b _=>k a b|_=>dV
def dM(h:lT e k=c4):∃a b p,e=.Subscript a b p/\k a b=c4:=by
 unfold lT at h;split at h
 .show#[_,_,_,rfl,h]
 .cases h
abbrev E2:vr->Bool
 |.Slice cb (a8 (.Constant (.int 1) _ _)) (a8 (.UnaryOp .USub (.Constant (.int 1) _ _) _)) _=>c4
 |_=>dV
def wL(h:E2 e=c4):∃a b c p1 p3 p2,e=.Slice cb (a8 (.Constant (.int 1) a b)) (a8 (.UnaryOp .USub (.Constant (.int 1) c p1) p3)) p2:=by
 unfold E2 at h;split at h
 .show#[_,_,_,_,_,_,rfl]
 .cases h
abbrev E3:vr->Bool
 |.Slice cb cb (a8 (.UnaryOp .USub (.Constant (.int 1) _ _) _)) _=>c4
 |_=>dV
def wM(h:E3 e=c4):∃a p1 p3 p2,e=.Slice cb cb (a8 (.UnaryOp .USub (.Constant (.int 1) a p1) p3)) p2:=by
 unfold E3 at h;split at h
 .show#[_,_,_,_,rfl]
 .cases h
abbrev kn{α:Type}(l:List α)(k:α->α->Bool):Bool:=match l with|[a,b]=>k a b|_=>dV
def cJ(h:kn l k=c4):∃a b,l=[a,b]/\k a b=c4:=by
 unfold kn at h;split at h
 .show#[_,_,rfl,h]
 .cases h
abbrev ze(e:vr)(k:Const->Bool):Bool:=match e with|.Constant c _ _=>k c|_=>dV
def sV(h:ze e k=c4):∃c q p,e=.Constant c q p/\k c=c4:=by
 unfold ze at h;split at h
 .show#[_,_,_,rfl,h]
 .cases h
abbrev Io:Const->Option U
 |.int j=>a8 (.int j)
 |.str y=>a8 (.str y)
 |.bool y=>a8 (.bl y)
 |.none=>a8 .ID
 |_=>cb
abbrev Ip(u:U)(c:Const):Bool:=match Io c with|some v=>pC u v|none=>dV
abbrev BZ(e:vr)(op:BoolOp)(k:List vr->Bool):Bool:=match e with|.BoolOp o es _=>ei (o=op)&&k es|_=>dV
def gC(h:BZ e op k=c4):∃es p,e=.BoolOp op es p/\k es=c4:=by
 unfold BZ at h;split at h
 .rw[df,Ŵ]at h;have(rfl,h):=h;show#[_,_,rfl,h]
 .cases h
abbrev B0(e:vr)(op:UnaryOp)(k:vr->Bool):Bool:=match e with|.UnaryOp o a _=>ei (o=op)&&k a|_=>dV
def jP(h:B0 e op k=c4):∃a p,e=.UnaryOp op a p/\k a=c4:=by
 unfold B0 at h;split at h
 .rw[df,Ŵ]at h;have(rfl,h):=h;show#[_,_,rfl,h]
 .cases h
abbrev qW(e:vr)(k:List vr->Bool):Bool:=match e with|.Tuple l _ _=>k l|_=>dV
def iE(h:qW e k=c4):∃l q p,e=.Tuple l q p/\k l=c4:=by
 unfold qW at h;split at h
 .show#[_,_,_,rfl,h]
 .cases h
abbrev zf(e:vr)(k:List vr->Bool):Bool:=match e with|.List l _=>k l|_=>dV
def sW(h:zf e k=c4):∃l p,e=.List l p/\k l=c4:=by
 unfold zf at h;split at h
 .show#[_,_,rfl,h]
 .cases h
abbrev E4(e:vr):Bool:=match e with|.Dict a b _=>a.isEmpty&&b.isEmpty|_=>dV
def wN(h:E4 e=c4):∃p,e=.Dict [] [] p:=by
 unfold E4 at h;split at h
 .rw[df,Pf,Pf]at h;have(rfl,rfl):=h;show#[_,rfl]
 .cases h
abbrev zg(e:vr)(k:Option vr->Option vr->Bool):Bool:=match e with|.Slice a b c _=>c.isNone&&k a b|_=>dV
def sX(h:zg e k=c4):∃a b p,e=.Slice a b cb p/\k a b=c4:=by
 unfold zg at h;split at h
 .rw[df,Vt]at h;have(rfl,h):=h;show#[_,_,_,rfl,h]
 .cases h
abbrev B1(e:vr)(k:vr->vr->vr->List vr->OK->Bool):Bool:=match e with|.ListComp elt a b _=>dB a λg=>ei (g.is_async=0)&&k elt g.target g.iter g.ifs b|_=>dV
def gD(h:B1 e k=c4):∃elt d a b f p,e=.ListComp elt [⟨d,a,b,0⟩] f p/\k elt d a b f=c4:=by
 unfold B1 at h;split at h
 .have((d,a,b,z),rfl,c):=aV h;rw[df,Ŵ]at c;have(rfl,c):=c;show#[_,_,_,_,_,_,rfl,c]
 .cases h
abbrev zh(e:vr)(k:vr->CmpOp->CmpOp->vr->vr->Bool):Bool:=match e with|.Compare a ops d _=>kn ops λp q=>kn d λb c=>k a p q b c|_=>dV
def lU(h:zh e k=c4):∃a p q b c r,e=.Compare a [p,q] [b,c] r/\k a p q b c=c4:=by
 unfold zh at h;split at h
 .have(p,q,rfl,d):=cJ h;have(b,c,rfl,f):=cJ d;show#[_,_,_,_,_,_,rfl,f]
 .cases h
abbrev isNm(e:vr)(n:Str):Bool:=cB e λx=>ei (x=n)
def cM(h:isNm e n=c4):∃p,e=.Name n p:=by
 have(x,p,e,z):=aG h;show#[p,Ź z▸e]
abbrev nq(v:vr)(f:Str)(k:List vr->Bool):Bool:=en v λg as _=>isNm g f&&k as
def cu(h:nq v f k=c4):∃as p q,v=.Call (.Name f p) as [] q/\k as=c4:=by
 have(g,as,q,rfl,z):=bh h;rw[df]at z;have(p,rfl):=cM z.1;show#[as,p,q,rfl,z.2]
mutual
noncomputable def bN(k:Ck):E->List Str->OK->vr->Bool
 |.var i,N,d,g=>cB g λx=>ei (N[i]?=a8 x)&&sR d x&&bq x
 |.cst u,N,d,g=>ze g λc=>Ip u c
 |.KH x u,N,d,g=>cB g λy=>ei (x=y)&&JE d x&&bq x&&k.gl.any λp=>ei (p.1=x)&&pC p.2 u
 |.bin op a b,N,d,g=>zc g λj z l=>ei (op.op=z)&&bN k a N d j&&bN k b N d l
 |.cmp op a b,N,d,g=>zd g λj z l=>ei (op.op=z)&&!Ù z l&&bN k a N d j&&bN k b N d l
 |.KI o1 o2 a b c,N,d,g=>zh g λj p q l A=>ei (o1.op=p)&&ei (o2.op=q)&&!ō [p,q] [l,A]&&bN k a N d j&&bN k b N d l&&bN k c N d A
 |.and es,N,d,g=>BZ g .And λh=>aK k es N d h
 |.or es,N,d,g=>BZ g .Or λh=>aK k es N d h
 |.not a,N,d,g=>B0 g .Not λj=>bN k a N d j
 |.ite _ _ _,_,_,_=>dV
 |.neg a,N,d,g=>B0 g .USub λj=>bN k a N d j
 |.bad,_,_,_=>c4
 |.Md f es is,N,d,g=>en g λf' h _=>cB f' λx=>ei (x=f)&&ei ((f,is)∈k.Ks)&&JE d x&&bq x&&!h.isEmpty&&aK k es N d h
 |.QU _,_,_,_=>dV
 |.inD _ _ _,_,_,_=>dV
 |.MO _ _ _,_,_,_=>dV
 |.QT _,_,_,_=>dV
 |.Ni a,N,d,g=>lT g λj l=>E2 l&&bN k a N d j
 |.QW a,N,d,g=>lT g λj l=>E3 l&&bN k a N d j
 |.QV _ _ _,_,_,_=>dV
 |.fst es,N,d,g=>dV
 |.Nh a T,N,d,g=>en g λf' as _=>cB f' λx=>kn as λj l=>cB l λy=>ei (x="isinstance")&&ei (y=T.name)&&JE d x&&JE d y&&noStar j&&bN k a N d j
 |.tup es,N,d,g=>qW g λh=>aK k es N d h
 |.lst es,N,d,g=>zf g λh=>aK k es N d h
 |.Lx _,N,d,g=>E4 g
 |.idx a b,N,d,g=>lT g λj l=>kO l&&bN k a N d j&&bN k b N d l
 |.Ja a lo B,N,d,g=>lT g λj l=>zg l λC D=>bN k a N d j&&sY k lo N d C&&sY k B N d D
 |.bi f es,N,d,g=>en g λf' h _=>cB f' λx=>ei (x=f.name)&&simple f&&JE d x&&!h.isEmpty&&aK k es N d h
 |.LI f es,N,d,g=>en g λf' as _=>cB f' λx=>dB as λc=>en c λg' h _=>cB g' λy=>ei (x=f.pw)&&ei (y=f.jh)&&JE d x&&JE d y&&!h.isEmpty&&aK k es N d h
 |.Jf m a es,N,d,g=>pH g λo name v h G=>ei (name=m.name)&&pE o&&(v.endLine==G.line)&&!h.isEmpty&&ei (h.length<20)&&bN k a N d o&&aK k es N d h
 |.call f es,N,d,g=>en g λf' h _=>cB f' λx=>ei (x=f)&&ei (f∈k.fns)&&JE d x&&bq x&&!h.isEmpty&&aK k es N d h
 |.comp n t H src cond e,N,d,g=>B1 g λelt r s w scope =>
   ei ((da r).length=n)&&A8 (da r++hide (da r) N) (da r) scope d.names&&Oj t (da r++hide (da r) N) (zb scope d) (λx=>ei (scope.names.lookup x=a8 .cell)) (gA n) r&&pD s &&
   (match eQ d r H s with
    |some as=>aK k src N d as
    |none=>dV) &&
   ei (w.length<=1)&&aK k cond (da r++hide (da r) N) (zb scope d) w&&bN k e (da r++hide (da r) N) (zb scope d) elt
noncomputable def aK(k:Ck):List E->List Str->OK->List vr->Bool
 |[],_,_,a=>a.isEmpty
 |e::es,N,b,a=>match a with
  |e'::a=>noStar e'&&bN k e N b e'&&aK k es N b a
  |[]=>dV
noncomputable def sY(k:Ck):List E->List Str->OK->Option vr->Bool
 |[],_,_,o=>o.isNone
 |[e],N,a,o=>match o with
  |some b=>bN k e N a b
  |none=>dV
 |_::_::_,_,_,_=>dV
end
abbrev bK:List Str:=["len","sorted","repr","max","min","all","any","list","tuple","str","int","range","enumerate","zip","reversed","set","dict","sum","isinstance","bool"]
abbrev B3(ck:Ck)(K:PySem.W.Frag)(mg:Str->Option fx):Prop:=∀D,(∃p∈ck.xi,p.2.1=D)->∃a,((∃b,a=.ref b/\mg D=a8 (.ref b))\/(D="ValueError"/\a=.type "ValueError"/\mg D=cb))/\∀p∈ck.xi,p.2.1=D->∀C,PySem.W.nsIn K nt p.1=a8 (a8 (.ref C))->fD K C=c4/\PySem.W.kitOne K (.ref C) a=a8 p.2.2
abbrev Q8(ck:Ck)(K:PySem.W.Frag)(mg:Str->Option fx):Prop:=∀q∈ck.xk,∀(c:Str) (bs:List Bool),q.2.length=bs.length->(∀r∈q.2.zip bs,(c,r.1,r.2)∈ck.xi)->∃(fa:k9) (a:T7) (b:List Str),(∀(P:z8) (w:JM) (base:Nq),qQ P w K mg base (Li P w) 1 fa a b (Tu K c bs))/\mg q.1=a8 (.ref fa)/\PySem.W.keepIn K (.ref fa)=c4/\Binds K a b []
structure Nm(ck:Ck)(K:PySem.W.Frag)(mg:Str->Option fx):Prop where
 xc:∀x∈ck.xc,∃C,mg x=a8 (.ref C)/\PySem.W.nsIn K nt x=a8 (a8 (.ref C))/\PySem.W.excIn K C OP "ValueError.__new__"=c4
 xd:∀p∈ck.xd,∃C D,mg p.1=a8 (.ref C)/\PySem.W.nsIn K nt p.1=a8 (a8 (.ref C))/\mg p.2=a8 (.ref D)/\PySem.W.exmOne K (.ref C) (.ref D)=a8 c4
 xi:∀D,(∃p∈ck.xi,p.2.1=D)->∃dv,((∃D',dv=.ref D'/\mg D=a8 (.ref D'))\/(D="ValueError"/\dv=.type "ValueError"/\mg D=cb))/\∀p∈ck.xi,p.2.1=D->∀C,PySem.W.nsIn K nt p.1=a8 (a8 (.ref C))->fD K C=c4/\PySem.W.kitOne K (.ref C) dv=a8 p.2.2
 xe:∀x,(∃p∈ck.xe,p.2=x)->∃D,mg x=a8 (.ref D)/\∀cl,(cl,x)∈ck.xe->∀C,PySem.W.nsIn K nt cl=a8 (a8 (.ref C))->PySem.W.exmOne K (.ref C) (.ref D)=a8 c4
 xk:Q8 ck K mg
structure B4(P:z8)(w:JM)(K:PySem.W.Frag)(mg:Str->Option fx)(base:Nq)(d:Nat)(F:List U->Option (Ex (Kd×U)))(f:Str):Prop where
 ex:∃(np:Nat) (fa:k9) (fd:T7) (ps:List Str),gQ P w K mg base (Li P w) d fa fd ps (spT P w K F np)/\mg f=a8 (.ref fa)/\PySem.W.keepIn K (.ref fa)=c4/\Binds K fd ps []/\(∀us k u,F us=a8 (.ok (k,u))->(k=.own\/k=.loc\/k=.any)/\us.length=np)/\∀us c,F us=a8 (.exc c)->us.length=np
structure B5(P:z8)(w:JM)(K:PySem.W.Frag)(mg:Str->Option fx)(base:Nq)(d:Nat)(F:List U->Option (Ex (Kd×U)))(f:Str)(is:List Nat):Prop where
 ex:∃(np:Nat) (fa:k9) (fd:T7) (ps:List Str),gQ P w K mg base ND d fa fd ps (Q4 P w K F np is)/\mg f=a8 (.ref fa)/\PySem.W.keepIn K (.ref fa)=c4/\Binds K fd ps []/\∀us r,F us=a8 (.ok r)->us.length=np
structure Xw(ck:Ck)(Γ:Tab)(P:z8)(w:JM)(K:PySem.W.Frag)(mg:Str->Option fx)(base:Nq)(d:Nat):Prop where
 f:∀p∈ck.Ks,B5 P w K mg base d (Γ p.1) p.1 p.2
structure Gd(ck:Ck)(Γ:Tab)(C:Ct)(d:Nat)(X:Cx):Prop where
 P:C.P=X.prog
 w:C.w=X.w
 K:C.K=X.K
 u:X.A.units+60<K'
 calm:X.calm=c4
 room:dI d X.A
 blt:∀x∈bK,X.mg x=cb
 fns:∀f∈ck.fns,B4 X.prog X.w X.K X.mg X.base d (Γ f) f
 Ll:∀p∈ck.gl,∃val v,X.mg p.1=a8 val/\RelV v val/\∀S H,Rep C S H p.2 v
 Ks:Xw ck Γ X.prog X.w X.K X.mg X.base d
 Mg:Nm ck X.K X.mg
def Gd.cx(g:Gd ck Γ C d X)(N:List Str)(a:OK)(D:k9)(s:i4)(H:Hp)(ex:List k9):Gd ck Γ C d (Jr X N a D s H ex) :=
 #[g.P,g.w,g.K,g.u,g.calm,g.room,g.blt,g.fns,g.Ll,g.Ks,g.Mg]
def jQ(h:sR a x=c4):Mo a x:=by
 unfold sR at h;simp only[Nz,Ŵ]at h;rcases h with(h|h)|h
 .show .inl h
 .show .inr (.inl h)
 .show .inr (.inr h)
def aH(h:bq x=c4):(x==("__debug__":Str))=dV/\(x==("__classdict__":Str))=dV:=by
 unfold bq at h;simpa using h
def bb(h:noStar e=c4):pa (e::es) env=(dV,MM e env)::pa es env:=by
 cases e<;>first|rfl|cases h
def zi(h:kO e=c4):oC e:=by
 intro o i;cases e<;>first|rfl|cases h
def pI(h:pD e=c4):∀x,NC e env x=pure x:=by
 intro x;cases e<;>first|rfl|cases h
def kP(h:pE o=c4):WT o name env a=a:=by
 cases o with
 |Call f as b p =>
  cases f with
  |Name x q=>cases as with
   |nil=>cases b with
    |nil=>cases h
    |cons _ _=>rfl
   |cons _ _=>rfl
  |_=>rfl
 |_=>rfl
def bz(h:∀e∈es,noStar e=c4):(NZ pos (pa es env)).any (·.1)=dV/\(NZ pos (pa es env)).all (λx=>!x.1)=c4:=by
 induction es with
 |nil=>show#[rfl,rfl]
 |cons e es a =>
  rw[bb (h e (by simp))];have:=a λb c=>h b (by simp[c]);constructor
  .change(dV||(NZ pos (pa es env)).any (·.1))=dV;rw[this.1];rfl
  .change(!dV&&(NZ pos (pa es env)).all (λx=>!x.1))=c4;rw[this.2];rfl
def bT(h:aK k es N c a=c4):∀e∈a,noStar e=c4:=by
 induction es generalizing a with
 |nil =>
  cases a with
  |nil=>intro e he;cases he
  |cons _ _=>simp[aK]at h
 |cons x es b =>
  cases a with
  |nil=>intro e he;cases he
  |cons d a =>
   simp only[aK,df]at h;intro e he;rcases fz.mp he with rfl|he
   .show h.1.1
   .show b h.2 e he
def nR(a:∀x,fa x=c4->X.fn x=c4)(h:uY X.N X.env.scope fa i e=c4):sM X e i:=by
 cases e with
 |Name x p =>
  simp only[uY,df,Ŵ,lR,Nz,G_]at h;show#[x,p,rfl,h.1.1,?_,?_]
  .rcases h.1.2 with z|z
   .show .inl z
   .show .inr z
  .rcases h.2 with z|z
   .show .inl (a x z)
   .show .inr z
 |_=>cases h
theorem lV(a:∀x,fa x=c4->X.fn x=c4):∀{is:List Nat}{es:List vr},pF X.N X.env.scope fa is es=c4->fg X es is
 |[],[],_=>.nil
 |[],_::_,h=>by cases h
 |_::_,[],h=>by cases h
 |i::is,e::es,h=>by
  simp only[pF,df]at h;show .cons (nR a h.1) (lV a h.2)
def qX(d:X.calm=c4)(e:C.K=X.K)(a:X.N.Nodup)(b:∀x,fa x=c4->X.fn x=c4)(h:Oj t X.N X.env.scope fa is c=c4):PG X c (tG C t is):=by
 cases c with
 |Name x p =>
  simp only[Oj,df,wk]at h;have(rfl,h):=h;cases is with
  |nil=>cases h
  |cons i is=>cases is with
   |nil=>show EO a (nR b h)
   |cons _ _=>cases h
 |Tuple es k p =>
  simp only[Oj,df,sh,Ŵ]at h;have((rfl,f),g):=h;show GO d e a (lV b f) g
 |_=>cases h
def jR(a N:List Str):d0 ((a++hide a N).drop a.length) N:=by
 rw[Uq rfl];unfold hide;split
 .show .refl N
 .show(d0.refl N).set _ (.inl rfl)
 .show((d0.refl N).set _ (.inl rfl)).set _ (.inr rfl)
abbrev Bf.Yk:Bf->Bool
 |.len=>c4|.sorted=>c4|.repr=>c4|.max=>c4|.min=>c4|.all=>c4|.any=>c4|_=>dV
abbrev Bf.id:Bf->String
 |.len=>"len"|.sorted=>"sorted"|.repr=>"repr"|.max=>"max"|.min=>"min"|.all=>"all"|.any=>"any"
 |.list=>"list"|.tuple=>"tuple"|.str=>"str"|.int=>"int"
def B6:∀f:Bf,simple f=c4->Mq f.name=a8 f.val/\f.name∈bK/\f.name≠"__name__"/\(f.name==("__debug__":Str))=dV:=by
 intro f h;cases f<;>first|show⟨by decide +kernel,by decide +kernel,by decide +kernel,by decide +kernel⟩|(cases h;done)
def E5:∀f:Bf,simple f=c4->(f.val=.builtin f.id\/f.val=.type f.id):=by
 intro f h;cases f<;>first|show .inl rfl|show .inr rfl|(cases h;done)
def E6:∀f:B2,f.pw∈bK/\f.jh∈bK:=by
 intro f;cases f<;>show#[by decide +kernel,by decide +kernel]
def B7:∀f:Mf,Slot "str" f.name f.id/\Zy (.builtin f.id)=pure (.type "method_descriptor"):=by
 intro f;cases f with
 |split=>show#[PySem.F.slot_str_split,PySem.F.type_str_split]
 |join=>show#[PySem.F.slot_str_join,PySem.F.type_str_join]
 |partition=>show#[PySem.F.slot_str_partition,PySem.F.type_str_partition]
 |endswith=>show#[PySem.F.slot_str_endswith,PySem.F.type_str_endswith]
section
def bL(h:JE X.env.scope x=c4):Gl X x:=by
 unfold JE at h;change X.env.kindOf x=a8 .globalImplicit;show Ź h
def ji:("isinstance":Str)∈bK:=by decide +kernel
def zj(T:MN):T.name∈bK:=by cases T<;>decide +kernel
def uZ:("range":Str)∈bK:=by decide +kernel
def C8(g:Gd ck Γ C d X)(h:eQ X.env.scope n o c=a8 as)(m:PA X as (JP C (aX Γ src)))(r:∀a,as=[a]->∃e,src=[e]/\PE X a (IG C (ev Γ e)))(k:∀e∈as,noStar e=c4):PI X n c (Mi C o (aX Γ src)):=by
 unfold eQ at h;split at h
 .cases h;have(e,rfl,s):=r _ rfl;show EN g.K s
 .rw[ux]at h;have((x,bs),l,h):=h;split at h
  .rename_i hh;cases h;have(f,i,hl):=hh
   dsimp only at f i hl
   subst f;have(p,q,rfl):=km l;have(b,rfl):=List.length_eq_one_iff.mp hl;show BU (bL i) (g.blt _ uZ) (bb (k _ (by simp))) m
  .cases h
 .rw[ux]at h;have((x,bs),l,h):=h;split at h
  .rename_i hh;cases h;have(f,i,hl):=hh
   dsimp only at f i hl
   subst f;have(p,q,rfl):=km l;obtain⟨b,j,rfl⟩:∃b j,bs=[b,j]:=by match bs,hl with|[b,j],_=>show#[b,j,rfl]
   have s1:=bb (env:=X.env) (es:=[]) (k _ (show _∈[_,_] from et _ hY));show BV (bL i) (g.blt _ uZ) (by rw[bb (k _ hY),s1];rfl) s1 m
  .cases h
 .cases h
def Gd.JO(g:Gd ck Γ C d X):Gd ck Γ C d X.JO :=
 #[g.P,g.w,g.K,g.u,g.calm,g.room,g.blt,g.fns,g.Ll,g.Ks,g.Mg]
def C9{a:M α}{b:α->M β}{c:α->M γ}{g:γ->M δ}{st:ar}{Q:δ->ar->Prop}(w:W (a >>= λx=>b x >>= λ_=>c x >>= g) st Q):W ((a >>= λx=>b x >>= λ_=>c x) >>= g) st Q:=by
 simp only[aj]at w ⊢;show w
def bA:PT X e (JY C M.fail):=λpins s σ H Q I ⟨_,_,_,_,w⟩=>(a9.mp w).elim
def fi:PE X e (IG C M.fail):=λpins s σ H Q I ⟨_,_,_,_,w⟩=>(a9.mp w).elim
def PT.eqv(h:PT X e (JY C m))(i:∀st Q,W a st Q->W m st Q):PT X e (JY C a):=PT.weak h λσ H Q ⟨b,c,d,ok,w⟩=>#[b,c,d,ok,i _ _ w]
def Ha(g:Gd ck Γ C d X)(b:PA X a (JP C (aX Γ es)))
  (h:(ei (x=f.name)&&simple f&&JE X.env.scope x&&!a.isEmpty&&aK ck es X.N X.env.scope a)=c4):PE X (.Call (.Name x p) a [] pos) (IG C (ev Γ (.bi f es))):=by
 simp only[df,Ŵ,wk]at h;obtain⟨⟨⟨⟨rfl,c⟩,i⟩,q⟩,r⟩:=h;have(j,k,l,m):=B6 f c;have n:=bT r;cases a with
 |nil=>cases q
 |cons s o =>
  have st:=bb (env:=X.env) (es:=o) (n s (by simp));have sn:=(bz (pos:=pos) (env:=X.env) (es:=o) λe t=>n e (by simp[t])).1;rcases E5 f c with hv|hv
  .show BN g.calm g.K g.room.gd g.u hv (bL i) (g.blt _ k) (by rw[j,hv]) l m b st sn
  .show BO g.calm g.K g.room.gd g.u hv (bL i) (g.blt _ k) (by rw[j,hv]) l m b st sn
def Hb(g:Gd ck Γ C d X)(i:PA X a (JP C (aX Γ es)))
  (h:(ei (x=f.pw)&&ei (y=f.jh)&&JE X.env.scope x&&JE X.env.scope y&&!a.isEmpty&&aK ck es X.N X.env.scope a)=c4):PE X (.Call (.Name x p) [.Call (.Name y p2) a [] pos2] [] pos) (IG C (ev Γ (.LI f es))):=by
 simp only[df,Ŵ,wk]at h;obtain⟨⟨⟨⟨⟨rfl,rfl⟩,j⟩,k⟩,l⟩,m⟩:=h;have(n,o):=E6 f;have b:=bT m;cases a with
 |nil=>cases l
 |cons q c =>
  have st:=bb (env:=X.env) (es:=c) (b q (by simp));have sn:=(bz (pos:=pos2) (env:=X.env) (es:=c) λe r=>b e (by simp[r])).1;show BS g.calm g.u g.K (bL j) (g.blt _ n) (bL k) (g.blt _ o) i st sn
def Hc(g:Gd ck Γ C d X)(l:PE X o (IG C (ev Γ a)))(n:PA X b (JP C (aX Γ es)))
  (h:(ei (name=m.name)&&pE o&&(c.endLine==i.line)&&!b.isEmpty&&ei (b.length<20)&&bN ck a X.N X.env.scope o&&aK ck es X.N X.env.scope b)=c4):PE X (.Call (.Attribute o name c) b [] i) (IG C (ev Γ (.Jf m a es))):=by
 simp only[df,Ŵ,wk]at h;obtain⟨⟨⟨⟨⟨⟨rfl,p⟩,q⟩,r⟩,s⟩,w⟩,t⟩:=h;have j:=bT t;have(s1,s2):=B7 m;cases b with
 |nil=>cases r
 |cons k f =>
  have st:=bb (env:=X.env) (es:=f) (j k (by simp));have sn:=(bz (pos:=i) (env:=X.env) (es:=f) λe u=>j e (by simp[u])).1;have v:=(bz (pos:=i) (env:=X.env) (es:=k::f) j).2;show BQ g.K s1 s2 l n (kP p) ?_ q st sn;rw[v];have:(k::f).length+([]:List SR).length+(if ([]:List SR).isEmpty=c4 then 0 else 1)<30:=by simp at s ⊢;lia
  simp only[ŷ this];rfl
def zk(g:Gd ck Γ C d X)(i:PA X a (JP C (aX Γ es)))
  (h:(ei (x=f)&&ei (f∈ck.fns)&&JE X.env.scope x&&bq x&&!a.isEmpty&&aK ck es X.N X.env.scope a)=c4):PE X (.Call (.Name x p) a [] pos) (IG C (ev Γ (.call f es))):=by
 simp only[df,Ŵ,wk]at h;obtain⟨⟨⟨⟨⟨rfl,j⟩,k⟩,l⟩,m⟩,n⟩:=h;have b:=bT n;have(y,fa,z,A,o,q,r,s,t,_):=(g.fns _ j).ex;cases a with
 |nil=>cases m
 |cons u c =>
  have st:=bb (env:=X.env) (es:=c) (b u (by simp));have sn:=(bz (pos:=pos) (env:=X.env) (es:=c) λe v=>b e (by simp[v])).1;show yS g.P g.w g.K rfl t o g.room (bL k) q r s (aH l).1 i st sn
def E7(g:Gd ck Γ C d X)(i:PA X a (JP C (aX Γ es)))
  (h:(ei (x=f)&&ei ((f,is)∈ck.Ks)&&JE X.env.scope x&&bq x&&!a.isEmpty&&aK ck es X.N X.env.scope a)=c4):PE X (.Call (.Name x p) a [] pos) (IG C (ev Γ (.Md f es is))):=by
 simp only[df,Ŵ,wk]at h;obtain⟨⟨⟨⟨⟨rfl,j⟩,k⟩,l⟩,m⟩,n⟩:=h;have b:=bT n;have(y,fa,z,A,o,q,r,s,t):=(g.Ks.f _ j).ex;cases a with
 |nil=>cases m
 |cons u c =>
  have st:=bb (env:=X.env) (es:=c) (b u (by simp));have sn:=(bz (pos:=pos) (env:=X.env) (es:=c) λe v=>b e (by simp[v])).1;show za g.P g.w g.K rfl t o g.room (bL k) q r s (aH l).1 (BY i) st sn
def dN(h:(b&&aK k es N a c)=c4):aK k es N a c=c4:=(Na.mp h).2
mutual
theorem bG:∀(e:E) (X:Cx) (k:vr),Gd ck Γ C d X->bN ck e X.N X.env.scope k=c4->PE X k (IG C (ev Γ e))
 |.var i,X,k,g,h=>by
  have(x,B,rfl,q):=aG h;clear h;have h:=q;simp only[df,Ŵ]at h;have(h3,h4):=aH h.2;show uP h.1.1 (jQ h.1.2) h3 h4
 |.cst u,X,k,g,h=>by
  have(c,q0,B,rfl,q):=sV h;cases c with
  |int j=>have:=eO q;subst this;show jg ot λ_ _=>rfl
  |str y=>have:=eO q;subst this;show jg DA λ_ _=>rfl
  |bool y=>have:=eO q;subst this;show jg FJ λ_ _=>rfl
  |none=>have:=eO q;subst this;show jg Dz λ_ _=>rfl
  |_=>cases q
 |.KH x u,X,k,g,h=>by
  have(y,B,rfl,q):=aG h;clear h;have h:=q;simp only[df,Ŵ,Pj]at h;obtain⟨⟨⟨rfl,G⟩,J⟩,p,hp,Y,e2⟩:=h;have:=eO e2;subst this Y;have(val,v,q1,q2,q3):=g.Ll p hp;show jg (AG (bL G) q1 q2 (aH J).1) q3
 |.bin op a b,X,k,g,h=>by
  have(O,Ol,b',B,rfl,q):=sU h;clear h;have h:=q;simp only[df,Ŵ]at h;have((rfl,G),J):=h;show By g.K (bG a X _ g G) (bG b X _ g J)
 |.cmp op a b,X,k,g,h=>by
  have(O,Ol,b',B,rfl,A):=lS h;have h:=A;simp only[df,Ŵ,wk]at h;obtain⟨⟨⟨rfl,h0⟩,G⟩,J⟩:=h;show Bz g.P g.w g.K g.u (bG a X _ g G) (bG b X _ g J) h0
 |.KI o1 o2 a b c,X,k,g,h=>by
  have(O,Xx,Ql,b',c',B,rfl,q):=lU h;clear h;have h:=q;simp only[df,Ŵ,wk]at h;obtain⟨⟨⟨⟨⟨rfl,rfl⟩,h0⟩,G⟩,J⟩,h3⟩:=h;show yM g.P g.w g.K g.u (bG a X _ g G) (bG b X _ g J) (bG c X _ g h3) h0
 |.and es,X,k,g,h=>by
  have(G',B,rfl,q):=gC h;clear h;have h:=q;show zl es X _ g h
 |.or es,X,k,g,h=>by
  have(G',B,rfl,q):=gC h;clear h;have h:=q;show C_ es X _ g h
 |.not a,X,k,g,h=>by
  have(O,B,rfl,q):=jP h;clear h;have h:=q;show BB (bG a X _ g h)
 |.neg a,X,k,g,h=>by
  have(O,B,rfl,q):=jP h;clear h;have h:=q;show BC (bG a X _ g h)
 |.bad,X,k,g,h=>fi
 |.Md f es is,X,k,g,h=>by
  have(f',as,B,rfl,A):=bh h;have(x,p1,rfl,L):=aG A;show E7 g (iF es X _ g (dN L)) L
 |.Ni a,X,k,g,h=>by
  have(O,b',B,rfl,A):=dM h;rw[df]at A;have(ky,p4,kx,p1,p3,p2,rfl):=wL A.1;show BM g.K (bG a X _ g A.2)
 |.QW a,X,k,g,h=>by
  have(O,b',B,rfl,A):=dM h;rw[df]at A;have(kx,p1,p3,p2,rfl):=wM A.1;show BL g.K (bG a X _ g A.2)
 |.QU i,X,k,g,h=>fi
 |.inD neg a i,X,k,g,h=>fi
 |.QT i,X,k,g,h=>fi
 |.MO i a b,X,k,g,h=>fi
 |.QV ln a b,X,k,g,h=>fi
 |.fst es,X,k,g,h=>fi
 |.Nh a T,X,k,g,h=>by
  have(f',as,B,rfl,A):=bh h;have(x,p1,rfl,L):=aG A;clear h A;have(O,b',rfl,z4):=cJ L;have(y,p2,rfl,z3):=aG z4;have h:=z3;simp only[df,Ŵ]at h;obtain⟨⟨⟨⟨⟨rfl,rfl⟩,G⟩,J⟩,h3⟩,h4⟩:=h;show uS g.K (bL G) (g.blt _ ji) (bL J) (g.blt _ (zj T)) (bG a X _ g h4) (bb h3)
 |.ite c a b,X,k,g,h=>absurd (show dV=c4 from h) my
 |.tup es,X,k,g,h=>by
  have(l,q0,B,rfl,q):=iE h;clear h;have h:=q;show BG (iF es X _ g h)
 |.lst es,X,k,g,h=>by
  have(l,B,rfl,q):=sW h;clear h;have h:=q;show BH (iF es X _ g h)
 |.Lx r,X,k,g,h=>by
  have(B,rfl):=wN h;show yQ g.P g.w r
 |.idx a b,X,k,g,h=>by
  have(O,b',B,rfl,q):=dM h;clear h;have h:=q;simp only[df]at h;show BI g.K g.u (zi h.1.1) (bG a X _ g h.1.2) (bG b X _ g h.2)
 |.Ja a lo hi,X,k,g,h=>by
  have(O,b',B,rfl,A):=dM h;have(Ve,J_,p1,rfl,q):=sX A;clear h A;simp only[df]at q;show BK g.K (bG a X _ g q.1.1) (Hd lo X _ g q.1.2) (Hd hi X _ g q.2)
 |.bi f es,X,k,g,h=>by
  have(f',as,B,rfl,A):=bh h;have(x,p1,rfl,L):=aG A;have h:=L;show Ha g (iF es X _ g (dN h)) h
 |.LI f es,X,k,g,h=>by
  have(f',as,B,rfl,A):=bh h;have(x,p1,rfl,L):=aG A;have(c,rfl,z3):=aV L;have(g',OS,p2,rfl,z4):=bh z3;have(y,p3,rfl,z5):=aG z4;have h:=z5;show Hb g (iF es X _ g (dN h)) h
 |.Jf m a es,X,k,g,h=>by
  have(o,name,ag,as,IC,rfl,A):=fY h;have h:=A;have h':=h;simp only[df]at h';show Hc g (bG a X _ g h'.1.2) (iF es X _ g (dN h)) h
 |.call f es,X,k,g,h=>by
  have(f',as,B,rfl,A):=bh h;have(x,p1,rfl,L):=aG A;have h:=L;show zk g (iF es X _ g (dN h)) h
 |.comp n t ik src cond e,X,k,g,h=>by
  have(elt,tg,ab,ac,scope,B,rfl,q):=gD h;clear h;have h:=q;simp only[df,Ŵ]at h;obtain⟨⟨⟨⟨⟨⟨⟨G,J⟩,h3⟩,h4⟩,h5⟩,h6⟩,h7⟩,h8⟩:=h;subst G;have S:=rY (X:=X) rfl (jR _ _) J;split at h5
  .rename_i as has;have IB:=bT h5;have hI:PI X tg ab (Mi C ik (aX Γ src)):=C8 g has (iF src X _ g h5) (λa e=>by
    subst e;cases src with
    |nil=>simp[aK]at h5
    |cons Y Js =>
     cases Js with
     |nil =>
      simp only[aK,df]at h5;show#[Y,rfl,bG Y X _ g h5.1.2]
     |cons _ _=>simp[aK]at h5) IB
   show yZ S g.calm hI (λD s H ex=>qX (fa:=λx=>ei (scope.names.lookup x=a8 .cell)) g.calm g.K S.nd (λ_ z=>z) h3)
    (λD s H ex=>by
     cases ac with
     |nil =>
      cases cond with
      |nil=>show λpins s σ H Q I ⟨c0,Y,e2,ok,w⟩=>oM pins s σ H Q I (by subst Y e2;rw[show a_ Γ []=pure c4 from rfl,ak]at w;show w c0 rfl rfl ok (Nx.refl c0))
      |cons _ _=>simp[aK]at h7
     |cons c1 cs =>
      cases cs with
      |nil =>
       cases cond with
       |nil=>simp[aK]at h7
       |cons Y Js =>
        cases Js with
        |nil =>
         simp only[aK,df]at h7;show uj (pJ Y (Jr X _ scope D s H ex) c1 (g.cx _ _ _ _ _ _) h7.1.2)
        |cons _ _=>simp[aK]at h7
      |cons _ _=>simp at h6)
    (λD s H ex=>bG e (Jr X _ scope D s H ex) elt (g.cx _ _ _ _ _ _) h8) (pI h4)
  .cases h5
theorem iF:∀(es:List E) (X:Cx) (a:List vr),Gd ck Γ C d X->aK ck es X.N X.env.scope a=c4->PA X a (JP C (aX Γ es))
 |[],X,a,g,h=>by
  cases a with
  |nil=>show BF
  |cons _ _=>simp[aK]at h
 |e::es,X,a,g,h=>by
  cases a with
  |nil=>simp[aK]at h
  |cons b a =>
   simp only[aK,df]at h;show yO (bG e X b g h.1.2) (iF es X a g h.2) (bb h.1.1)
theorem Hd:∀(es:List E) (X:Cx) (o:Option vr),Gd ck Γ C d X->sY ck es X.N X.env.scope o=c4->PO X o (tO C (N4 Γ es))
 |[],X,o,g,h=>by
  cases o with
  |none=>show jF
  |some _=>simp[sY]at h
 |[e],X,o,g,h=>by
  cases o with
  |none=>simp[sY]at h
  |some a=>simp only[sY]at h;show wD (bG e X a g h)
 |_::_::_,X,o,g,h=>by simp[sY]at h
theorem zl:∀(es:List E) (X:Cx) (a:List vr),Gd ck Γ C d X->aK ck es X.N X.env.scope a=c4->∀{pos},PE X (.BoolOp .And a pos) (IG C (jf Γ es))
 |[],X,a,g,h,pos=>fi
 |[e],X,a,g,h,pos=>by
  cases a with
  |nil=>simp[aK]at h
  |cons b a =>
   cases a with
   |nil=>simp only[aK,df]at h;show xF (bG e X b g h.1.2)
   |cons _ _=>simp[aK]at h
 |e::c::es,X,a,g,h,pos=>by
  cases a with
  |nil=>simp[aK]at h
  |cons b a =>
   have h':noStar b=c4/\bN ck e X.N X.env.scope b=c4/\aK ck (c::es) X.N X.env.scope a=c4:=by
    rw[aK]at h;simp only[df]at h;show#[h.1.1,h.1.2,h.2]
   cases a with
   |nil=>have:=h'.2.2;simp[aK]at this
   |cons f i=>show snd_and (bG e X b g h'.2.1) (zl (c::es) X _ g h'.2.2)
theorem C_:∀(es:List E) (X:Cx) (a:List vr),Gd ck Γ C d X->aK ck es X.N X.env.scope a=c4->∀{pos},PE X (.BoolOp .Or a pos) (IG C (Bs Γ es))
 |[],X,a,g,h,pos=>fi
 |[e],X,a,g,h,pos=>by
  cases a with
  |nil=>simp[aK]at h
  |cons b a =>
   cases a with
   |nil=>simp only[aK,df]at h;show xF (bG e X b g h.1.2)
   |cons _ _=>simp[aK]at h
 |e::c::es,X,a,g,h,pos=>by
  cases a with
  |nil=>simp[aK]at h
  |cons b a =>
   have h':noStar b=c4/\bN ck e X.N X.env.scope b=c4/\aK ck (c::es) X.N X.env.scope a=c4:=by
    rw[aK]at h;simp only[df]at h;show#[h.1.1,h.1.2,h.2]
   cases a with
   |nil=>have:=h'.2.2;simp[aK]at this
   |cons f i=>show EB (bG e X b g h'.2.1) (C_ (c::es) X _ g h'.2.2)
theorem pJ:∀(e:E) (X:Cx) (j:vr),Gd ck Γ C d X->bN ck e X.N X.env.scope j=c4->PT X j (JY C (IS Γ e))
 |.and es,X,j,g,h=>by
  have(G,l,rfl,k):=gC h;clear h;have h:=k;show(u3 es X _ g h).pt
 |.or es,X,j,g,h=>by
  have(G,l,rfl,k):=gC h;clear h;have h:=k;show(zm es X _ g h).pt
 |.not a,X,j,g,h=>by
  have(z,l,rfl,k):=jP h;clear h;have h:=k;show BD (pJ a X _ g h)
 |.cmp op a b,X,j,g,h=>by
  have(z,O,D,l,rfl,o):=lS h;have h:=o;simp only[df,Ŵ,wk]at h;obtain⟨⟨⟨rfl,A⟩,p⟩,q⟩:=h;show BA g.P g.w g.K g.u (bG a X _ g p) (bG b X _ g q) A
 |.KI o1 o2 a b c,X,j,g,h=>by
  have(z,Y,Ql,D,c',l,rfl,k):=lU h;clear h;have h:=k;simp only[df,Ŵ,wk]at h;obtain⟨⟨⟨⟨⟨rfl,rfl⟩,A⟩,p⟩,q⟩,s⟩:=h;show yN g.P g.w g.K g.u (bG a X _ g p) (bG b X _ g q) (bG c X _ g s) A
 |.var i,X,j,g,h=>by
  have(x,l,rfl,k):=aG h;simp only[df,Ŵ]at k;have(s,B):=aH k.2;show kL (uP k.1.1 (jQ k.1.2) s B) g.K λ_=>rfl
 |.idx a b,X,j,g,h=>bA
 |.bi f es,X,j,g,h=>by
  have(f',as,l,rfl,o):=bh h;have(x,p1,rfl,v):=aG o;have h:=v;show PT.eqv (kL (Ha g (iF es X _ g (dN h)) h) g.K λ_=>rfl) λst Q w=>C9 w
 |.LI f es,X,j,g,h=>bA
 |.Jf m a es,X,j,g,h=>bA
 |.call f es,X,j,g,h=>by
  have(f',as,l,rfl,o):=bh h;have(x,p1,rfl,v):=aG o;have h:=v;show PT.eqv (kL (zk g (iF es X _ g (dN h)) h) g.K λ_=>rfl) λst Q w=>C9 w
 |.cst u,X,j,g,h=>bA
 |.fst es,X,j,g,h=>bA
 |.KH x u,X,j,g,h=>bA
 |.QW a,X,j,g,h=>bA
 |.Ni a,X,j,g,h=>bA
 |.neg a,X,j,g,h=>bA
 |.Nh a T,X,j,g,h=>by
  have(f',as,l,rfl,o):=bh h;have(x,p1,rfl,v):=aG o;clear h o;have(z,D,rfl,H):=cJ v;have(y,p2,rfl,I):=aG H;have h:=I;simp only[df,Ŵ]at h;obtain⟨⟨⟨⟨⟨rfl,rfl⟩,p⟩,q⟩,s⟩,B⟩:=h;show PT.eqv (kL (uS g.K (bL p) (g.blt _ ji) (bL q) (g.blt _ (zj T)) (bG a X _ g B) (bb s)) g.K λ_=>rfl) λst Q w=>?_;have w:W (ev Γ a >>= λx=>M.IT (ni x.2 T)) st Q:=w;simp only[aj]at w ⊢;show W.mono w λx s1 J=>?_;have(b,e,L):=bO.mp J;show bO.mpr #[b,e,ak.mpr (bO.mpr #[b,rfl,L])]
 |.bad,X,j,g,h=>bA
 |.Md f es is,X,j,g,h=>bA
 |.inD neg a i,X,j,g,h=>bA
 |.QT i,X,j,g,h=>bA
 |.QV ln a b,X,j,g,h=>bA
 |.QU i,X,j,g,h=>bA
 |.MO i a b,X,j,g,h=>bA
 |.bin op a b,X,j,g,h=>bA
 |.ite c a b,X,j,g,h=>bA
 |.tup es,X,j,g,h=>bA
 |.lst es,X,j,g,h=>bA
 |.Lx r,X,j,g,h=>bA
 |.Ja a lo hi,X,j,g,h=>bA
 |.comp n t ik src cond e,X,j,g,h=>bA
theorem u3:∀(es:List E) (X:Cx) (a:List vr),Gd ck Γ C d X->aK ck es X.N X.env.scope a=c4->∀{pos},PW X (.BoolOp .And a pos) (JY C (a_ Γ es))
 |[],X,a,g,h,pos=>by
  cases a with
  |nil =>
   rintro i pins s σ H Q I ⟨c,rfl,rfl,ok,w⟩;rw[show a_ Γ []=pure c4 from rfl,ak]at w;show ų #[c.H,I,w c rfl rfl ok (Nx.refl c)]
  |cons _ _=>simp[aK]at h
 |[e],X,a,g,h,pos=>by
  cases a with
  |nil=>simp[aK]at h
  |cons b a =>
   cases a with
   |nil=>simp only[aK,df]at h;show AH (pJ e X b g h.1.2)
   |cons _ _=>simp[aK]at h
 |e::f::es,X,a,g,h,pos=>by
  cases a with
  |nil=>simp[aK]at h
  |cons b a =>
   have h':noStar b=c4/\bN ck e X.N X.env.scope b=c4/\aK ck (f::es) X.N X.env.scope a=c4:=by
    rw[aK]at h;simp only[df]at h;show#[h.1.1,h.1.2,h.2]
   cases a with
   |nil=>have:=h'.2.2;simp[aK]at this
   |cons j k=>show BE (pJ e X b g h'.2.1) (u3 (f::es) X _ g h'.2.2)
theorem zm:∀(es:List E) (X:Cx) (a:List vr),Gd ck Γ C d X->aK ck es X.N X.env.scope a=c4->∀{pos},PW X (.BoolOp .Or a pos) (JY C (fT Γ es))
 |[],X,a,g,h,pos=>by
  cases a with
  |nil =>
   rintro i pins s σ H Q I ⟨c,rfl,rfl,ok,w⟩;rw[show fT Γ []=pure dV from rfl,ak]at w;show isTrue_or_nil #[c.H,I,w c rfl rfl ok (Nx.refl c)]
  |cons _ _=>simp[aK]at h
 |[e],X,a,g,h,pos=>by
  cases a with
  |nil=>simp[aK]at h
  |cons b a =>
   cases a with
   |nil=>simp only[aK,df]at h;show DB (pJ e X b g h.1.2)
   |cons _ _=>simp[aK]at h
 |e::f::es,X,a,g,h,pos=>by
  cases a with
  |nil=>simp[aK]at h
  |cons b a =>
   have h':noStar b=c4/\bN ck e X.N X.env.scope b=c4/\aK ck (f::es) X.N X.env.scope a=c4:=by
    rw[aK]at h;simp only[df]at h;show#[h.1.1,h.1.2,h.2]
   cases a with
   |nil=>have:=h'.2.2;simp[aK]at this
   |cons j k=>show EC (pJ e X b g h'.2.1) (zm (f::es) X _ g h'.2.2)
end
end
abbrev Qm(b:OK)(x:Str)(a:Nat):vr->Bool
 |.ListComp elt gens s pos=>ei (b.names.lookup x=a8 .local)&&(a==pos.line)&&!(s.names.any λ(n,k)=>n==x&&(k==.local||k==.cell))
 |_=>dV
abbrev nS(s:PV)(k:vr->Bool):Bool:=match s with|.Expr e _=>k e|_=>dV
def fj(h:nS s k=c4):∃e p,s=.Expr e p/\k e=c4:=by
 unfold nS at h;split at h
 .show#[_,_,rfl,h]
 .cases h
abbrev nU(s:PV)(k:vr->vr->Bool):Bool:=match s with|.Assign ts v _=>dB ts λt=>k t v|_=>dV
def fk(h:nU s k=c4):∃t v p,s=.Assign [t] v p/\k t v=c4:=by
 unfold nU at h;split at h
 .have(t,rfl,a):=aV h;show#[_,_,_,rfl,h]
 .cases h
abbrev zo(s:PV)(k:vr->Bool):Bool:=match s with|.Raise (a8 e) cb _=>k e|_=>dV
def sZ(h:zo s k=c4):∃e p,s=.Raise (a8 e) cb p/\k e=c4:=by
 unfold zo at h;split at h
 .show#[_,_,rfl,h]
 .cases h
abbrev u4(s:PV)(k:PV->ExceptHandler->Bool):Bool:=match s with|.Try b hs [] [] _=>dB b λb=>dB hs λh=>k b h|_=>dV
def lW(h:u4 s k=c4):∃b a p,s=.Try [b] [a] [] [] p/\k b a=c4:=by
 unfold u4 at h;split at h
 .have(b,rfl,c):=aV h;have(a,rfl,d):=aV c;show#[_,_,_,rfl,d]
 .cases h
abbrev u5(s:ExceptHandler)(k:vr->Str->PV->Bool):Bool:=match s with|.ExceptHandler (a8 t) (a8 n) b _=>dB b λb=>k t n b|_=>dV
def lX(h:u5 s k=c4):∃t n b p,s=.ExceptHandler (a8 t) (a8 n) [b] p/\k t n b=c4:=by
 unfold u5 at h;split at h
 .have(b,rfl,a):=aV h;show#[_,_,_,_,rfl,a]
 .cases h
abbrev B8(s:PV)(k:Str->vr->Bool):Bool:=nU s λt v=>cB t λy=>k y v
def jS(h:B8 s k=c4):∃y p v a,s=.Assign [.Name y p] v a/\k y v=c4:=by
 have(t,v,a,rfl,z):=fk h;have(y,p,rfl,z):=aG z;show#[y,p,v,a,rfl,z]
abbrev E8(e:vr)(k:Str->Pos->Bool):Bool:=match e with|.Name x p=>k x p|_=>dV
def wO(h:E8 e k=c4):∃x p,e=.Name x p/\k x p=c4:=by
 unfold E8 at h;split at h
 .show#[_,_,rfl,h]
 .cases h
abbrev lY(s:PV)(k:Option vr->Bool):Bool:=match s with|.Return v _=>k v|_=>dV
def fm(h:lY s k=c4):∃v p,s=.Return v p/\k v=c4:=by
 unfold lY at h;split at h
 .show#[_,_,rfl,h]
 .cases h
abbrev B9(v:Option vr)(k:vr->Bool):Bool:=match v with|some e=>k e|none=>dV
def jT(h:B9 v k=c4):∃e,v=a8 e/\k e=c4:=by
 cases v with
 |none=>cases h
 |some e=>show#[e,rfl,h]
abbrev zp(s:PV)(k:vr->List PV->List PV->Bool):Bool:=match s with|.If c a b _=>k c a b|_=>dV
def s9(h:zp s k=c4):∃c a b p,s=.If c a b p/\k c a b=c4:=by
 unfold zp at h;split at h
 .show#[_,_,_,_,rfl,h]
 .cases h
abbrev zq(s:PV)(k:vr->vr->List PV->Bool):Bool:=match s with|.For t i b o _=>o.isEmpty&&k t i b|_=>dV
def s_(h:zq s k=c4):∃t i b p,s=.For t i b [] p/\k t i b=c4:=by
 unfold zq at h;split at h
 .rw[df,Pf]at h;have(rfl,h):=h;show#[_,_,_,_,rfl,h]
 .cases h
abbrev E9(s:PV)(k:vr->List PV->Bool):Bool:=match s with|.While c b o _=>o.isEmpty&&k c b|_=>dV
def wQ(h:E9 s k=c4):∃c b p,s=.While c b [] p/\k c b=c4:=by
 unfold E9 at h;split at h
 .rw[df,Pf]at h;have(rfl,h):=h;show#[_,_,_,rfl,h]
 .cases h
abbrev qY(n:Nat)(s:PV):Bool:=match s with|.Break _=>n==0|.Continue _=>n==1|.Pass _=>n==2|_=>dV
def iG(h:qY n s=c4):(n=0/\∃p,s=.Break p)\/(n=1/\∃p,s=.Continue p)\/(n=2/\∃p,s=.Pass p):=by
 unfold qY at h;split at h
 .show .inl #[by simpa using h,_,rfl]
 .show .inr (.inl #[by simpa using h,_,rfl])
 .show .inr (.inr #[by simpa using h,_,rfl])
 .cases h
abbrev OZ(a:OK)(n:Str):List vr->List Str->Bool
 |[],[]=>c4
 |e::es,D::b=>nq e "isinstance" (λas=>kn as λx y=>isNm x n&&isNm y D)&&JE a D&&bq D&&OZ a n es b
 |_,_=>dV
abbrev E_(v:vr)(k:List vr->Bool):Bool:=match v with|.List es _=>k es|_=>dV
def wR(h:E_ v k=c4):∃es p,v=.List es p/\k es=c4:=by
 unfold E_ at h;split at h
 .show#[_,_,rfl,h]
 .cases h
abbrev Vf(N:List Str)(a:OK)(b:List Str)(s:PV):Bool:=match N with
 |n::_=>lY s λv=>B9 v λv=>E_ v λes=>sR a n&&bq n&&JE a "isinstance"&&ei (b.length<100)&&OZ a n es b
 |[]=>dV
abbrev Vg(k:Ck)(f x:Str)(a:OK):Bool:=ei (f∈k.fns)&&JE a f&&bq f&&JE a x&&bq x
abbrev Iq(v:vr)(g n:Str):Bool:=nq v g λas=>dB as λa=>isNm a n
abbrev Vh(k:Ck)(f x c:Str)(a:OK):Bool:=ei (f∈k.fns)&&JE a f&&bq f&&ei ((c,x)∈k.xd)&&JE a x&&bq x&&JE a c&&bq c&&JE a "isinstance"
abbrev He(v:vr)(n c:Str):Bool:=nq v "isinstance" λas=>kn as λx y=>isNm x n&&isNm y c
def wU(h:He v n c=c4):∃b d e f,v=.Call (.Name "isinstance" b) [.Name n d,.Name c e] [] f:=by
 have(as,b,f,rfl,g):=cu h;have(x,y,rfl,a):=cJ g;rw[df]at a;have(d,rfl):=cM a.1;have(e,rfl):=cM a.2;show#[_,_,_,_,rfl]
abbrev TJ(k:Ck)(f:Str)(es:List E)(N:List Str)(a:OK)(v:vr):Bool:=nq v f λas=>ei (f∈k.fns)&&JE a f&&bq f&&!as.isEmpty&&aK k es N a as
abbrev TK(k:Ck)(f:Str)(e:E)(N:List Str)(c:OK)(elt a b:vr)(d:List vr)(scope:OK):Bool :=
 d.isEmpty&&ei ((da a).length=1)&&A8 (da a++hide (da a) N) (da a) scope c.names&&Oj dV (da a++hide (da a) N) (zb scope c) (λx=>ei (scope.names.lookup x=a8 .cell)) (gA 1) a&&pD b &&
 (match eQ c a .seq b with
  |some as=>aK k [e] N c as
  |none=>dV)&&scope.names.all (λx=>!(x.2==.free))&&TJ k f [.var 0] (da a++hide (da a) N) (zb scope c) elt
abbrev wV(k:Ck):RE->List Str->OK->vr->Bool
 |.call f es,N,c,v=>TJ k f es N c v
 |.arg f r,N,c,v=>nq v f λas=>dB as λh=>ei (f∈k.fns)&&JE c f&&bq f&&noStar h&&wV k r N c h
 |.tup e r,N,c,v=>qW v λl=>kn l λa b=>noStar a&&noStar b&&bN k e N c a&&wV k r N c b
 |.P1 f e,N,c,v=>nq v "tuple" λas=>dB as λa=>noStar a&&JE c "tuple"&&B1 a λelt i d g scope=>TK k f e N c elt i d g scope
mutual
noncomputable def wW(k:Ck):S->List Str->OK->PV->Bool
 |.set i e,N,d,s=>nU s λt v=>E8 t λx p=>ei (N[i]?=a8 x)&&lR d x&&ei (d.kind=.function)&&bN k e N d v&&(dW v||Qm d x p.line v||(match v with|.ListComp _ _ _ _=>c4|_=>dV))&&(match e with|.comp _ _ _ _ _ _=>c4|_=>dW v)
 |.MP is e,N,d,s=>nU s λt v=>qW t λ_=>Oj c4 N d (λ_=>c4) is t&&dW v&&E1 v&&bN k e N d v
 |.put i a b,N,d,s=>nU s λt w=>lT t λo A=>cB o λx=>ei (N[i]?=a8 x)&&sR d x&&bq x&&dW w&&kO A&&bN k a N d A&&bN k b N d w
 |.app i e,N,d,s=>nS s λc=>pH c λo m h as B=>cB o λx=>dB as λa=>ei (m="append")&&ei (N[i]?=a8 x)&&sR d x&&bq x&&(h.endLine==B.line)&&noStar a&&bN k e N d a
 |.ext i e,N,d,s=>nS s λc=>pH c λo m h as B=>cB o λx=>dB as λa=>ei (m="extend")&&ei (N[i]?=a8 x)&&sR d x&&bq x&&(h.endLine==B.line)&&noStar a&&bN k e N d a
 |.bad,_,_,_=>c4
 |.newD _,_,_,_=>dV
 |.aug _ _ _ _,_,_,_=>dV
 |.QX _,_,_,_=>dV
 |.putD _ _ _,_,_,_=>dV
 |.MQ _ _ _,_,_,_=>dV
 |.exp e,N,d,s=>nS s λq=>dW q&&bN k e N d q
 |.ret e,N,d,s=>lY s λv=>B9 v λq=>bN k e N d q
 |.J8 r,N,d,s=>lY s λv=>B9 v λq=>wV k r N d q
 |.MR,N,d,s=>lY s λv=>v.isNone
 |.ite c a b,N,d,s=>zp s λC A w=>bN k c N d C&&dc k a N d A&&dc k b N d w
 |.Jz t is L src body,N,d,s=>zq s λJ l D=>Oj t N d (λ_=>c4) is J&&pD l&&(match eQ d J L l with
    |some as=>aK k src N d as
    |none=>dV)&&dc k body N d D
 |.QY c body,N,d,s=>E9 s λC D=>bN k c N d C&&dc k body N d D
 |.brk,_,_,s=>qY 0 s
 |.cnt,_,_,s=>qY 1 s
 |.P2 _,_,_,_=>dV
 |.LJ c e,N,d,s=>zo s λr=>nq r c λas=>dB as λa=>ei (c∈k.xc)&&JE d c&&bq c&&noStar a&&bN k e N d a
 |.knd u,N,d,s=>Vf N d u s
 |.KY i f es x cbs j m g u,N,d,s=>u4 s λb G=>u5 G λt n H=>B8 b λy v=>B8 H λz I=>(isNm t x&&Iq I g n&&nq v f λas=>!as.isEmpty&&aK k es N d as)&&Vg k f x d&&(ei ((g,u)∈k.xk)&&cbs.all (λp=>ei ((p.1,x)∈k.xd)&&ei (u.length=p.2.length)&&(u.zip p.2).all (λr=>ei ((p.1,r.1,r.2)∈k.xi)))&&JE d g&&bq g)&&(ei (N[i]?=a8 y)&&lR d y&&ei (N[j]?=a8 n)&&ei (d.names.lookup n=a8 .local)&&bq n&&ei (N[m]?=a8 z)&&lR d z)
 |.N2 i f es x c j,N,d,s=>u4 s λb G=>u5 G λt n H=>nS b λv=>B8 H λy I=>(isNm t x&&He I n c&&nq v f λas=>!as.isEmpty&&aK k es N d as)&&Vh k f x c d&&(ei (N[i]?=a8 y)&&lR d y&&ei (N[j]?=a8 n)&&ei (d.names.lookup n=a8 .local)&&bq n)
 |.QZ,_,_,s=>qY 2 s
noncomputable def dc(k:Ck):List S->List Str->OK->List PV->Bool
 |[],_,_,a=>a.isEmpty
 |s::ss,N,b,a=>match a with
  |s'::a=>wW k s N b s'&&dc k ss N b a
  |[]=>dV
end
section
variable{ck:Ck}{Γ:Tab}{C:Ct}{d:Nat}{X:Cx}
def lZ(h:lR a x=c4):Loc a x:=by
 unfold lR at h;simp only[Nz,Ŵ]at h;show h
def l0(h:dW v=c4):VH v t a env=pure dV:=by
 cases v<;>first|rfl|cases h
def u6(h:dW v=c4):WI [t] v a env=pure dV:=by
 rw[WI];show l0 h
def B_(h:kO i=c4):∀v,WZ (.Subscript o i p) env v=(do
   let a <-TX [v] (MM o env)
   let b <-TX [v,a] (MM i env)
   ñ p
   TX [v,a,b] (ó a b v)
   release [v,a,b] []):=by
 intro v;cases i<;>first|rfl|cases h
structure Gs(ck:Ck)(Γ:Tab)(C:Ct)(d:Nat)(X:Cx):Prop where
 gd:Gd ck Γ C d X
 nd:X.N.Nodup
 fn:∀x,X.fn x=c4
 po:ZG (mn X.prog X.w) X.A X.env X.xe
 kd:X.env.scope.kind=.function
 xs:Nm ck X.K X.mg
 xl:∀c H',C.xw (.str c) H'->∀C' T H pins σ s e s',PySem.W.nsIn X.K nt c=a8 (a8 (.ref C'))->Inv X pins σ H s->aQ X.prog X.w X.stack H s e C' T .none H' s'->X.xe (.ref e) s'
 xm:∀c H',C.xw (.str c) H'->∀C' T e s',PySem.W.nsIn X.K nt c=a8 (a8 (.ref C'))->X.Ok->aQ X.prog X.w X.outer X.H₀ X.s₀ e C' (a8 T) (PySem.rawInt X.env.locals) H' s'->X.xe (.ref e) s'
 sk:X.stack=X.env::X.outer/\X.env.frame=a8 X.env.locals
 ex:X.ex=[]
def pK(g:Gd ck Γ C d X)(h:(match eQ X.env.scope f i b with|some as=>aK ck src X.N X.env.scope as|none=>dV)=c4):PI X f b (Mi C i (aX Γ src)):=by
 split at h
 .rename_i as has;show C8 g has (iF src X _ g h) (λa e=>by
   subst e;cases src with
   |nil=>simp[aK]at h
   |cons c j =>
    cases j with
    |nil =>
     simp only[aK,df]at h;show#[c,rfl,bG c X _ g h.1.2]
    |cons _ _=>simp[aK]at h) (bT h)
 .cases h
def l4{pos p a:Pos}(hk:X.env.scope.kind=.function):VH (.ListComp elt gens s pos) (a8 (.Name x p)) a.line X.env=pure (Qm X.env.scope x p.line (.ListComp elt gens s pos)):=by
 have b:X.env.blockKind=.function:=by
  unfold Env.blockKind;rw[hk];rfl
 change(pure (X.env.blockKind==.function&&X.env.kindOf x==a8 .local&&p.line==pos.line&&!(s.names.any λ(n,k)=>n==x&&(k==.local||k==.cell))):Sem Bool)=_;rw[b];unfold Qm;congr 1
 have:(X.env.kindOf x==a8 NameKind.local)=ei (X.env.scope.names.lookup x=a8 .local):=by
  unfold Env.kindOf;rw[uk];simp
 rw[this];rfl
def Fb{src cond:List E}(G:Gs ck Γ C d X)(l:X.N[i]?=a8 x)(A:lR X.env.scope x=c4)
  (h:bN ck (.comp n t m src cond e) X.N X.env.scope (.ListComp elt [⟨o,a,b,0⟩] scope pos)=c4) (ns:Nat->Bool) (q:∀j,ns j=c4->j≠i) :
  L2.PS X (.Assign [.Name x p] (.ListComp elt [⟨o,a,b,0⟩] scope pos) Lr) (Ju C ns (ev Γ (.comp n t m src cond e) >>= λr=>dr i r >>= λ_=>pure .nx)):=by
 have g:=G.gd;have u:=bG (.comp n t m src cond e) X _ g h;cases f:Qm X.env.scope x p.line (.ListComp elt [⟨o,a,b,0⟩] scope pos) with
 |false=>show C6 q G.nd l (lZ A) (.inl (G.fn x)) u (by rw[l4 G.kd,f])
 |true =>
  have hl:X.env.scope.names.lookup x=a8 .local:=by
   simp only[Qm,df,Ŵ]at f;show f.1.1
  have(Xy,Yl,Vi,Xz,TL,p',B,v):=gD h;cases B;clear h u;simp only[df,Ŵ]at v;obtain⟨⟨⟨⟨⟨⟨⟨J,L⟩,O⟩,T⟩,Y⟩,h6⟩,c⟩,h8⟩:=v;subst J;have S:=rY (X:=X) rfl (jR _ _) L;show EU q S g.calm G.nd l hl (pK g Y) (λD s H ex=>qX (fa:=λx=>ei (scope.names.lookup x=a8 .cell)) g.calm g.K S.nd (λ_ z=>z) O)
   (λD s H ex=>by
    cases b with
    |nil =>
     cases cond with
     |nil=>show λpins s σ H Q I ⟨y,k,e2,ok,w⟩=>oM pins s σ H Q I (by subst k e2;rw[show a_ Γ []=pure c4 from rfl,ak]at w;show w y rfl rfl ok (Nx.refl y))
     |cons _ _=>simp[aK]at c
    |cons c1 cs =>
     cases cs with
     |nil =>
      cases cond with
      |nil=>simp[aK]at c
      |cons k Js =>
       cases Js with
       |nil =>
        simp only[aK,df]at c;show uj (pJ k (Jr X _ scope D s H ex) c1 (g.cx _ _ _ _ _ _) c.1.2)
       |cons _ _=>simp[aK]at c
     |cons _ _=>simp at h6)
   (λD s H ex=>bG e (Jr X _ scope D s H ex) elt (g.cx _ _ _ _ _ _) h8) (by rw[l4 G.kd,f]) (pI T)
def Ca(G:Gs ck Γ C d X)(h:wW ck (.LJ c e) X.N X.env.scope s'=c4):L2.PS X s' (Ju C (N5 (.LJ c e)) (exec Γ (.LJ c e))):=by
 have(r,t,rfl,f):=sZ h;have(as,p1,p2,rfl,g):=cu f;have(a,rfl,b):=aV g;simp only[df,Ŵ]at b;obtain⟨⟨⟨⟨i,j⟩,k⟩,l⟩,m⟩:=b;have(n,o,p,q):=G.xs.xc _ i;show G3 G.gd.calm (bL j) o (aH k).1 q (bG e X a G.gd m) (bb (es:=[]) l) λH' w pins σ s e s' I F=>G.xl _ H' w n cb H' pins σ s e s' p I F
def Hf(g:Gd ck Γ C d X)(h:TJ ck f es X.N X.env.scope v=c4):Qk X C v (aX Γ es >>= λrs=>ao rs >>= λ_=>aY Γ f (rs.map (·.2))):=by
 have(as,p2,p3,rfl,z):=cu h;simp only[df,Ŵ,wk]at z;obtain⟨⟨⟨⟨i,j⟩,k⟩,l⟩,a⟩:=z;have b:=bT a;have(u,fa,x,y,m,n,o,p,q,r):=(g.fns _ i).ex;cases as with
 |nil=>cases l
 |cons s c =>
  have st:=bb (env:=X.env) (es:=c) (b s (by simp));have sn:=(bz (pos:=p3) (env:=X.env) (es:=c) λe t=>b e (by simp[t])).1;show EX g.P g.w g.K rfl q r m g.room (bL j) n o p (aH k).1 (iF es X.JO _ (Gd.JO g) a) st sn
def Ir(G:Gs ck Γ C d X)(h:TK ck f e X.N X.env.scope elt i a b scope=c4):
  PR X C (.ListComp elt [⟨i,a,b,0⟩] scope pos) (aX Γ [e] >>= λrs=>ao rs >>= λ_=>M.IT (JX .seq rs) >>= λxs=>dU 1 dV (aX Γ [.var 0] >>= λrs=>ao rs >>= λ_=>aY Γ f (rs.map (·.2))) rs xs [] >>= Bt):=by
 unfold TK at h;simp only[df,Ŵ,Pf]at h;obtain⟨⟨⟨⟨⟨⟨⟨j,k⟩,l⟩,c⟩,m⟩,n⟩,o⟩,p⟩:=h;subst j;have g:=G.gd;have S:=rY (X:=X) rfl (jR _ _) l;rw[<-k]at c ⊢;have q:∀x∈scope.names,x.2≠.free:=λx r z=>by
  have:=sh.mp o x r;rw[z]at this;show absurd this (by decide)
 show EY q S g.calm G.sk G.ex (pK (Gd.JO g) n) (λD s H ex=>qX (fa:=λx=>ei (scope.names.lookup x=a8 .cell)) g.calm g.K S.nd (λ_ z=>z) c) (λD s H ex=>Hf (g.cx _ _ _ _ _ _) p) (pI m)
theorem Fc(G:Gs ck Γ C d X):∀(r:RE) (v:vr),wV ck r X.N X.env.scope v=c4->PR X C v (Kr Γ r)
 |.call f es,v,h=>(Hf G.gd h).pr
 |.arg f r,v,h=>by
  have(as,p2,p3,rfl,z):=cu h;have(a,rfl,z):=aV z;have z:(ei (f∈ck.fns)&&JE X.env.scope f&&bq f&&noStar a&&wV ck r X.N X.env.scope a)=c4:=z;simp only[df,Ŵ]at z;obtain⟨⟨⟨⟨b,c⟩,g⟩,i⟩,n⟩:=z;have(H,fa,I,J,o,s,t,x,y,A):=(G.gd.fns _ b).ex;show G7 G.gd.P G.gd.w G.gd.K rfl y A o G.gd.room (bL c) s t x (aH g).1 (Fc G r _ n) (bb (es:=[]) i)
 |.tup e r,v,h=>by
  have(l,q,p,rfl,z):=iE h;have(a,j,rfl,z):=cJ z;have z:(noStar a&&noStar j&&bN ck e X.N X.env.scope a&&wV ck r X.N X.env.scope j)=c4:=z;simp only[df]at z;obtain⟨⟨⟨b,c⟩,g⟩,i⟩:=z;show G8 (bG e X.JO _ (Gd.JO G.gd) g) (Fc G r _ i) (bb b) (bb (es:=[]) c)
 |.P1 f e,v,h=>by
  have(as,p2,p3,rfl,z):=cu h;have(a,rfl,k):=aV z;rw[df,df]at k;have((b,c),g):=k;have(elt,L,m,B,scope,O,rfl,D):=gD g;show G9 G.gd.calm G.gd.K G.gd.room.gd G.gd.u (bL c) (G.gd.blt _ (by decide)) (Ir G D) (bb (es:=[]) b)
def zr(G:Gs ck Γ C d X)(h:wW ck (.J8 r) X.N X.env.scope s'=c4):L2.PS X s' (Ju C (N5 (.J8 r)) (exec Γ (.J8 r))):=by
 have(v,p,rfl,a):=fm h;have(c,rfl,b):=jT a;show EZ (Fc G r _ b) G.xl G.xm
def Cb(G:Gs ck Γ C d X)(h:wW ck (.KY i f es x cbs j m g c) X.N X.env.scope s'=c4):L2.PS X s' (Ju C (N5 (.KY i f es x cbs j m g c)) (exec Γ (.KY i f es x cbs j m g c))):=by
 have(b,hd,p,rfl,k):=lW h;have(t0,n,l,Ts,rfl,o):=lX k;have(y,p1,v,p4,rfl,q):=jS o;have(z,p6,v2,Qf,rfl,s):=jS q;clear h k o q;simp only[df,Ŵ,Vg]at s;obtain⟨⟨⟨⟨⟨t,u⟩,A⟩,⟨⟨⟨⟨L,O⟩,Q⟩,l⟩,T⟩⟩,⟨⟨⟨k1,k3⟩,Y⟩,k5⟩⟩,⟨⟨⟨⟨⟨⟨d2,d3⟩,d4⟩,d5⟩,B⟩,d7⟩,d8⟩⟩:=s;have(p5,rfl):=cM t;have(Ym,p8,MX,rfl,c5):=cu u;have(Yn,rfl,c6):=aV c5;have(p9,rfl):=cM c6;have(as,p2,p3,rfl,D):=cu A;rw[df,wk]at D;have(a4,H):=D;clear t u A;have I:=bT H;have(np,fa,fd,ps,q1,q2,q3,q4,q5,q6):=(G.gd.fns _ L).ex;have gn:Gd ck Γ C d X.JO:=Gd.JO G.gd;cases as with
 |nil=>cases a4
 |cons e0 J =>
  have st:=bb (env:=X.env) (es:=J) (I e0 (by simp));have sn:=(bz (pos:=p3) (env:=X.env) (es:=J) λe he=>I e (by simp[he])).1;show G6 (λn a=>by have a:(ei (n≠i)&&ei (n≠m)&&ei (n≠j))=c4:=a;simpa[and_assoc] using a) G.nd d2 (lZ d3) (G.fn _) d4 d5 d7 (lZ d8) (G.fn _) G.gd.P G.gd.w G.gd.K rfl q5 q6 q1 G.gd.room (bL O) q2 q3 q4 (aH Q).1 (iF es X.JO _ gn H) st sn G.sk G.ex (bL l) (aH T).1 (bL Y) (λp hp=>by
   have z:=sh.mp k3 p hp;simp only[df,Ŵ]at z;have((b1,k2),k3):=z;have(Cc,Cd,r1,r2,r3,r4):=G.xs.xd _ b1;have(ga,gd,XA,g1,g2,g3,g4):=G.xs.xk _ k1 p.1 p.2 k2 (λr hr=>Ź (sh.mp k3 r hr));show#[Cc,Cd,r3,r2,r4,ga,gd,XA,g1 _ _ _,g2,g3,g4]) (aH k5).1 (aH B).1 (aH B).2
def Ce(G:Gs ck Γ C d X)(h:wW ck (.N2 i f es x c j) X.N X.env.scope s'=c4):L2.PS X s' (Ju C (N5 (.N2 i f es x c j)) (exec Γ (.N2 i f es x c j))):=by
 have(b,hd,p,rfl,g):=lW h;have(t0,n,k,Ts,rfl,l):=lX g;have(v,p4,rfl,m):=fj l;have(y,p6,v2,Qf,rfl,o):=jS m;clear h g l m;simp only[df,Ŵ,Vh]at o;obtain⟨⟨⟨⟨q,r⟩,s⟩,⟨⟨⟨⟨⟨⟨⟨⟨D,H⟩,I⟩,J⟩,k⟩,L⟩,O⟩,Q⟩,T⟩⟩,⟨⟨⟨⟨Y,d3⟩,d4⟩,d5⟩,t⟩⟩:=o;have(p5,rfl):=cM q;have(p8,p9,Qe,MX,rfl):=wU r;have(as,p2,p3,rfl,u):=cu s;rw[df,wk]at u;have(a4,z):=u;clear q r s;have A:=bT z;have(np,fa,fd,ps,q1,q2,q3,q4,q5,q6):=(G.gd.fns _ D).ex;have(Cc,Cd,r1,r2,r3,r4):=G.xs.xd _ J;have gn:Gd ck Γ C d X.JO:=Gd.JO G.gd;cases as with
 |nil=>cases a4
 |cons e0 B =>
  have st:=bb (env:=X.env) (es:=B) (A e0 (by simp));have sn:=(bz (pos:=p3) (env:=X.env) (es:=B) λe he=>A e (by simp[he])).1;show G4 (λn a=>by have a:(ei (n≠i)&&ei (n≠j))=c4:=a;simpa using a) G.nd Y (lZ d3) (G.fn _) d4 d5 G.gd.P G.gd.w G.gd.K rfl q5 q6 q1 G.gd.room (bL H) q2 q3 q4 (aH I).1 (iF es X.JO _ gn z) st sn G.sk (bL k) r3 (aH L).1 (bL O) r1 r2 (aH Q).1 r4 (bL T) (G.gd.blt _ ji) (aH t).1 (aH t).2
mutual
theorem Iu:∀(s:S) (X:Cx) (s':PV),Gs ck Γ C d X->wW ck s X.N X.env.scope s'=c4->L2.PS X s' (Ju C (N5 s) (exec Γ s))
 |.set i e,X,s',G,h=>by
  have(t,v,p1,rfl,k):=fk h;have(x,p,rfl,J):=wO k;clear h k;have h:=J;simp only[df,Ŵ]at h;obtain⟨⟨⟨⟨⟨A,B⟩,L⟩,q⟩,O⟩,Q⟩:=h;have JA:∀j,N5 (.set i e) j=c4->j≠i:=λj y=>Ź (show ei (j≠i)=c4 from y);by_cases hc:dW v=c4
  .show C6 JA G.nd A (lZ B) (.inl (G.fn x)) (bG e X v G.gd q) (l0 hc)
  .cases e with
   |comp n t ik src cond e =>
    have(elt,tg,ab,ag,scope,p3,rfl,_):=gD q;show Fb G A B q _ JA
   |_=>show absurd Q hc
 |.MP is e,X,s',G,h=>by
  have(t,v,p1,rfl,k):=fk h;have(es,kk,p,rfl,J):=iE k;clear h k;have h:=J;simp only[df]at h;obtain⟨⟨⟨A,B⟩,L⟩,q⟩:=h;show EV (λj y=>Ź (show ei (j∉is)=c4 from y)) (bG e X v G.gd q) (qX (fa:=λ_=>c4) G.gd.calm G.gd.K G.nd (λx _=>G.fn x) A) (u6 B) ?_ rfl;cases v<;>first|rfl|cases L
 |.put i a b,X,s',G,h=>by
  have(t,v,p,rfl,k):=fk h;have(o,a',p1,rfl,J):=dM k;have(x,px,rfl,T):=aG J;simp only[df,Ŵ]at T;obtain⟨⟨⟨⟨⟨⟨A,B⟩,L⟩,q⟩,O⟩,Q⟩,h7⟩:=T;have(q1,q2):=aH L;show G2 G.gd.P G.gd.w G.gd.K G.gd.u A (jQ B) q1 q2 (bG b X _ G.gd h7) (bG a X _ G.gd Q) (u6 q) rfl (B_ O)
 |.app i e,X,s',G,h=>by
  have(c,p0,rfl,k):=fj h;have(o,m,ac,as,IC,rfl,J):=fY k;have(x,px,rfl,T):=aG J;have(a,rfl,z4):=aV T;simp only[df,Ŵ]at z4;obtain⟨⟨⟨⟨⟨⟨rfl,A⟩,B⟩,L⟩,q⟩,O⟩,Q⟩:=z4;have(q1,q2):=aH L;have st:=bb (env:=X.env) (es:=[]) O;have sa:=(bz (pos:=IC) (env:=X.env) (es:=[a]) λe he=>by simp at he;subst he;show O).2;show G0 G.gd.K A (jQ B) q1 q2 (bG e X _ G.gd Q) ?_ q st;rw[sa];rfl
 |.ext i e,X,s',G,h=>by
  have(c,p0,rfl,k):=fj h;have(o,m,ac,as,IC,rfl,J):=fY k;have(x,px,rfl,T):=aG J;have(a,rfl,z4):=aV T;simp only[df,Ŵ]at z4;obtain⟨⟨⟨⟨⟨⟨rfl,A⟩,B⟩,L⟩,q⟩,O⟩,Q⟩:=z4;have(q1,q2):=aH L;have st:=bb (env:=X.env) (es:=[]) O;have sa:=(bz (pos:=IC) (env:=X.env) (es:=[a]) λe he=>by simp at he;subst he;show O).2;show G1 G.gd.K A (jQ B) q1 q2 (bG e X _ G.gd Q) ?_ q st;rw[sa];rfl
 |.bad,X,s',G,h=>λpins Y σ H D I ⟨_,_,_,_,w⟩=>(a9.mp w).elim
 |.aug sub i a e,X,s',G,h=>λpins Y σ H D I ⟨_,_,_,_,w⟩=>(a9.mp w).elim
 |.QX i,X,s',G,h=>λpins Y σ H D I ⟨_,_,_,_,w⟩=>(a9.mp w).elim
 |.newD i,X,s',G,h=>λpins Y σ H D I ⟨_,_,_,_,w⟩=>(a9.mp w).elim
 |.putD i a b,X,s',G,h=>λpins Y σ H D I ⟨_,_,_,_,w⟩=>(a9.mp w).elim
 |.MQ i a e,X,s',G,h=>λpins Y σ H D I ⟨_,_,_,_,w⟩=>(a9.mp w).elim
 |.exp e,X,s',G,h=>by
  have(e',p,rfl,l):=fj h;clear h;have h:=l;simp only[df]at h;show GV (bG e X _ G.gd h.2) (l0 h.1)
 |.ret e,X,s',G,h=>by
  have(v,p,rfl,l):=fm h;have(e',rfl,k):=jT l;clear h l;have h:=k;show GW (bG e X _ G.gd h)
 |.MR,X,s',G,h=>by
  have(v,p,rfl,l):=fm h;cases v with
  |none=>show ET
  |some _=>cases l
 |.ite c a b,X,s',G,h=>by
  have(c',a',b',p,rfl,l):=s9 h;clear h;have h:=l;simp only[df]at h;have ha:=l5 a X _ G h.1.2;have hb:=l5 b X _ G h.2;show GX (pJ c X _ G.gd h.1.1) (JJ.weak ha λD σ H z=>pB (λj y=>(Na.mp (show(Kl a j&&Kl b j)=c4 from y)).1) z) (JJ.weak hb λD σ H z=>pB (λj y=>(Na.mp (show(Kl a j&&Kl b j)=c4 from y)).2) z)
 |.Jz t is ik src body,X,s',G,h=>by
  have(tg,ab,KP,p,rfl,l):=s_ h;clear h;have h:=l;rw[df,df,df]at h;show GZ G.po G.gd.calm (pK G.gd h.1.2) (qX (fa:=λ_=>c4) G.gd.calm G.gd.K G.nd (λx _=>G.fn x) h.1.1.1) (l5 body X _ G h.2) (pI h.1.1.2) λj y=>by have y:(ei (j∉is)&&Kl body j)=c4:=y;simpa using y
 |.QY c body,X,s',G,h=>by
  have(c',KP,p,rfl,l):=wQ h;clear h;have h:=l;simp only[df]at h;show GY G.po (pJ c X _ G.gd h.1) (l5 body X _ G h.2)
 |.brk,X,s',G,h=>by
  rcases iG h with⟨_,p,rfl⟩|⟨e,_⟩|⟨e,_⟩
  .show GR
  .cases e
  .cases e
 |.cnt,X,s',G,h=>by
  rcases iG h with⟨e,_⟩|⟨_,p,rfl⟩|⟨e,_⟩
  .cases e
  .show GS
  .cases e
 |.P2 is,X,s',G,h=>absurd (show dV=c4 from h) my
 |.J8 r,X,s',G,h=>zr G h
 |.LJ c e,X,s',G,h=>Ca G h
 |.knd _,X,s',G,h=>λpins Y σ H D I ⟨_,_,_,_,w⟩=>(a9.mp w).elim
 |.KY i f es x cbs j m g Ds,X,s',G,h=>Cb G h
 |.N2 i f es x c j,X,s',G,h=>Ce G h
 |.QZ,X,s',G,h=>by
  rcases iG h with⟨e,_⟩|⟨e,_⟩|⟨_,p,rfl⟩
  .cases e
  .cases e
  .show GU
theorem l5:∀(ss:List S) (X:Cx) (a:List PV),Gs ck Γ C d X->dc ck ss X.N X.env.scope a=c4->JJ X a (Ju C (Kl ss) (execs Γ ss))
 |[],X,a,G,h=>by
  cases a with
  |nil=>show GQ
  |cons _ _=>simp[dc]at h
 |s::ss,X,a,G,h=>by
  cases a with
  |nil=>simp[dc]at h
  |cons s' a =>
   simp only[dc,df]at h;have c:=Iu s X s' G h.1;have e:=l5 ss X a G h.2;show ES (PS.weak c λD σ H z=>pB (λj b=>by simp only[Kl,df]at b;show b.1) z) (JJ.weak e λD σ H z=>pB (λj b=>by simp only[Kl,df]at b;show b.2) z)
end
end
section
variable{ck:Ck}{Γ:Tab}{d:Nat}{P:z8}{w:JM}{K:PySem.W.Frag}{mg:Str->Option fx}{base:Nq}
def jU{n i:Nat}(h:(start us n)[i]?=a8 (a8 (k,u))):us[i]?=a8 u/\k=if Jb u=c4 then .loc else .any:=by
 unfold start at h;by_cases a:i<us.length
 .rw[C0 (by simpa using a),ti]at h;rw[JQ a]at h ⊢;simp only[Uh,ZL,Č]at h;have(b,c):=h;subst c;show#[rfl,b.symm]
 .rw[y0 (by simp;lia),M0]at h;split at h<;>cases h
def dg{i:Nat}(h:vs[i]?=a8 v):(L2.start N vs)[i]?=a8 (a8 v):=by
 unfold L2.start;have a:i<vs.length:=(mr.mp h).1;rw[C0 (by simpa using a),ti,h];rfl
def zt(p:∀a,c a->JB H a)(h:aq #[P,w,K,H,c,λ_=>False,q] c H us vs)(s:N.length=n):Ok ⟨P,w,K,H,c,λ_=>False,q⟩ ⟨λ_=>False,H,L2.start N vs,start us n,λ_=>[]⟩:=by
 have f:∀(j:Nat) (u:U),(start us n)[j]?≠a8 (a8 (.IH,u)):=λj u e=>by
  have:=(jU e).2;split at this<;>cases this
 show#[λa o e _=>e,λa z=>z.elim,λa z=>#[p a z,λz=>z],λa z=>z.elim,?_,λi k u e=>?_,λi j k k' u u' r hk x g m y A=>?_,#[λj u r e _=>(f j u e).elim,λi j a ⟨u,_,e,_⟩=>(f i u e).elim,λj a ⟨u,_,e,_⟩=>(f j u e).elim]]
 .have:=h.len;simp[start,L2.start,s];lia
 .have(g,m):=jU e;have(v,ev,b):=h.get g;show#[v,dg ev,?_];subst m;by_cases l:Jb u=c4
  .rw[ŵ l];show Rep.Jb l b
  .rw[Ÿ l];show Rep.mv (.up λa z=>.inl z) b
 .have(_,t):=jU g;subst t;split at hk<;>cases hk
def pM(h:bw Γ fn us=a8 (.ok (k,u))):us.length=fn.np/\((k=.own\/k=.loc\/k=.any)/\(∃st',execs Γ fn.body (start us fn.ns)=a8 (.ok (.rt k u),st'))\/(k=.loc/\u=.ID/\∃st',execs Γ fn.body (start us fn.ns)=a8 (.ok .nx,st'))):=by
 unfold bw at h;split at h
 .rename_i hl;show#[hl,?_];split at h
  .rename_i e;cases h;show .inl #[.inl rfl,_,e]
  .rename_i e;cases h;show .inl #[.inr (.inl rfl),_,e]
  .rename_i e;cases h;show .inl #[.inr (.inr rfl),_,e]
  .rename_i e;cases h;show .inr #[rfl,rfl,_,e]
  .cases h
  .cases h
 .cases h
def qZ(h:bw Γ fn us=a8 (.exc c)):us.length=fn.np/\∃st',execs Γ fn.body (start us fn.ns)=a8 (.ok (.rt .io (.str c)),st'):=by
 unfold bw at h;split at h
 .rename_i hl;show#[hl,?_];split at h
  .cases h
  .cases h
  .cases h
  .cases h
  .rename_i e;cases h;show#[_,e]
  .cases h
 .cases h
def Dd{st:PV}(F:M6 K fn.name j st f fd)(S:dk N ps (aM st))(hN:N.length=fn.ns)(Kv:ps.length=fn.np)
  (Oo:dc ck fn.body N (aM st) (cF st)=c4) (t:∀x∈bK,mg x=cb) (y:∀g∈ck.fns,B4 P w K mg base d (Γ g) g)
  (Ll:∀p∈ck.gl,∃val v,mg p.1=a8 val/\RelV v val/\∀(C:Ct) S H,Rep C S H p.2 v) (Ks:∀p∈ck.Ks,B5 P w K mg base d (Γ p.1) p.1 p.2) (xs:Nm ck K mg):gQ P w K mg base (Li P w) (d+1) f fd ps (spT P w K (bw Γ fn) fn.np):=by
 have(oc,od,kV,ab,pm,an,Jp,ct,M4,rfl,lk,JU):=F.ex;show CQ lk JU S (λvs H Q E h=>h.1.trans Kv.symm) λA outer s H vs Q E hr h=>?_;have(hl,us,r,q,Jn,XB,B,b):=h;have Mh:=hr.un;let l:Ct:=#[P,w,K,H,q,λ_=>False,λu H'=>∃c,u=.str c/\∀i,PySem.W.nsIn K nt c=a8 (a8 (.ref i))->E (.ref i) cb H']
 have D:(K8 P w K H q).Eqv l:=#[rfl,rfl,rfl]
 have m:l.Eqv (K8 P w K H q):=#[rfl,rfl,rfl]
 have G:Gs ck Γ l d (oz (Li P w) P w K mg base N j (aM st) f Jp A outer s H E) :=
  #[#[rfl,rfl,rfl,by change(A.deeper (VC j (aM st) s.heap.objs.size f Jp)).units+60<K';lia,rfl,hr,t,y,λp hp=>let ⟨val,v,D,m,q3⟩:=Ll p hp;⟨val,v,D,m,q3 _⟩,#[Ks],xs],S.nd,λ_=>rfl,PassesOwn.leaving,S.kind,xs,
   λc H' ⟨c',J,L⟩ i T H2 pins σ s2 e s' O I F=>by
    cases J;show F.leave I.ok.frames rfl I.stack I.gr λY JH F'=>#[e,i,Y,H',rfl,F'.down I rfl rfl rfl,L i O],
   λc H' ⟨c',J,L⟩ i T e s' O ok F=>by
    cases J;show F.Ef rfl ok.ib ok.Mp λY JH F'=>#[e,i,Y,H',rfl,F',L i O],
   #[rfl,rfl],rfl]
 show#[_,l5 fn.body _ _ G Oo,#[λ_=>False,H,L2.start N vs,start us fn.ns,λ_=>[]],rfl,rfl,zt XB (B.cg D) hN,?_];cases r with
 |exc c =>
  have(_,st',e):=qZ Jn;show#[_,st',e,λcf ec ok n kp=>#[c,rfl,λi hC=>b i cf.H hC λa o z=>ok.same a o z λz=>z]]
 |ok x =>
 have(k,u):=x;have(hk,b):=b;have(_,TN):=pM Jn;have mk:∀(c:Cf),Ok l c->∀v,ER l c k u v->Back (K8 P w K H q) H c.H c.S k u v:=λc ok v r=>by
  show#[λa o e=>ok.same a o e λz=>z,λa z=>ok.K7 a z,λe=>?_,λe=>?_,λe=>?_]
  .subst e;have(r0,e,h1,h2,h3,h4):=r;show#[r0,e,h1,h2,h4.cg m]
  .subst e;show Rep.cg m r
  .subst e;show Rep.cg m r
 rcases TN with⟨_,st',e⟩|⟨rfl,rfl,st',e⟩
 .rcases hk with rfl|rfl|rfl<;>show#[_,st',e,λc ec ok n kp v r=>b v c.H c.S (mk c ok v r)]
 .show#[_,st',e,λc ec ok n kp=>b .ID c.H c.S (mk c ok .ID rfl)]
def iH(h:(ef is us n)[i]?=a8 (a8 (k,u))):us[i]?=a8 u/\k=if i∈is then .io else if Jb u=c4 then .loc else .any:=by
 unfold ef at h;by_cases a:i<us.length
 .rw[C0 (by simpa using a),ti,List.getElem?_zipIdx]at h;rw[JQ a]at h ⊢;simp only[Uh,ZL,Č,Tg]at h;have(b,c):=h;subst c;show#[rfl,b.symm]
 .rw[y0 (by simp;lia),M0]at h;split at h<;>cases h
def wX(a:EW C C.H₀ is us vs)(t:N.length=n):Ok C #[λ_=>False,C.H₀,L2.start N vs,ef is us n,λ_=>[]]:=by
 have h:∀(j:Nat) (u:U),(ef is us n)[j]?≠a8 (a8 (.IH,u)):=λj u e=>by
  have:=(iH e).2;split at this
  .cases this
  .split at this<;>cases this
 have rt:∀(j:Nat) (k:Kd) (u:U),k.root=c4->(ef is us n)[j]?=a8 (a8 (k,u))->j∈is/\us[j]?=a8 u:=λj k u hk e=>by
  have(f,b):=iH e;show#[?_,f];by_cases z:j∈is
  .show z
  .rw[Ÿ z]at b;subst b;split at hk<;>cases hk
 show#[λa o e _=>e,λa z=>z.elim,λx z=>a.par x z,λx z=>#[a.U_ x z,a.U_ x z],?_,λi k u e=>?_,λi j k k' u u' r hk y f b m p=>?_,#[λj u r e _=>(h j u e).elim,λi j a ⟨u,_,e,_⟩=>(h i u e).elim,λj a ⟨u,_,e,_⟩=>(h j u e).elim]]
 .have:=a.len;simp[ef,L2.start,t];lia
 .have(f,b):=iH e;by_cases z:i∈is
  .rw[ŵ z]at b;subst b;have(r,g,c,A):=a.io i u z f;show#[_,dg g,r,rfl,λz=>z,λz=>(a.par r z).2 c,c,A]
  .rw[Ÿ z]at b;have(v,g,c):=a.any i u z f;show#[v,dg g,?_];subst b;by_cases l:Jb u=c4
   .rw[ŵ l];show Rep.Jb l c
   .rw[Ÿ l];show Rep.mv (.up λa z=>.inl z) c
 .have(q,B):=rt i k u hk f;have(s,D):=rt j k' u' y b;have(G,g,_):=a.io i u q B;have(H,c,_):=a.io j u' s D;rw[dg g]at m;rw[dg c]at p;cases m;cases p;show a.inj i j _ q s g c
theorem u7:∀{is:List Nat}{st:ar}{ws:List U},P4 is st=a8 ws->ws.length=is.length/\∀(n i:Nat),is[n]?=a8 i->∃w,ws[n]?=a8 w/\st[i]?=a8 (a8 (.io,w))
 |[],_,_,h=>by cases h;show#[rfl,λn i e=>by simp at e]
 |i::is,st,ws,h=>by
  unfold P4 at h;split at h
  .rename_i u c;rw[hQ]at h;have(k,h,rfl):=h;have(a,b):=u7 h;show#[by simp[a],λn j e=>?_];cases n with
   |zero=>simp at e;subst e;show#[u,rfl,c]
   |succ n=>have(w,f,g):=b n j (by simpa using e);show#[w,by simpa using f,g]
  .cases h
def u9(h:yH Γ fn is body us=a8 (.ok r)):us.length=fn.np/\∃f st k u ws,execs Γ body (ef is us fn.ns)=a8 (.ok f,st)/\UX f=a8 (k,u)/\P4 is st=a8 ws/\r=(k,.tup (u::ws)):=by
 unfold yH at h;split at h
 .rename_i hl;show#[hl,?_];split at h
  .rename_i f st e;have((k,u),a,h):=ux.mp h;rw[hQ]at h;have(ws,b,c):=h;cases c;show#[f,st,k,u,ws,e,a,b,rfl]
  .cases h
 .cases h
def Fd{st:PV}(F:M6 K fn.name b st f fd)(S:dk N I (aM st))(hN:N.length=fn.ns)(Kv:I.length=fn.np)(JA:∀i∈is,Kl body i=c4)
  (Oo:dc ck body N (aM st) (cF st)=c4) (t:∀x∈bK,mg x=cb) (y:∀g∈ck.fns,B4 P w K mg base d (Γ g) g)
  (Ll:∀p∈ck.gl,∃val v,mg p.1=a8 val/\RelV v val/\∀(C:Ct) S H,Rep C S H p.2 v) (Ks:∀p∈ck.Ks,B5 P w K mg base d (Γ p.1) p.1 p.2) (xs:Nm ck K mg):gQ P w K mg base ND (d+1) f fd I (Q4 P w K (yH Γ fn is body) fn.np is):=by
 show F.ok S (λvs H Q E h=>h.1.trans Kv.symm) (λJ A outer s H vs Q E L h=>?_);have(hl,us,k,u,ws,l,IO,Jn,hk,B,j):=h;have Mh:=L.un;have G:Gs ck Γ (Ml P w K H l IO) d (oz ND P w K mg base N b (aM st) f J A outer s H E).JO :=
  #[#[rfl,rfl,rfl,by change(A.deeper (VC b (aM st) s.heap.objs.size f J)).units+60<K';lia,rfl,L,t,y,λp hp=>let ⟨val,v,q1,q2,q3⟩:=Ll p hp;⟨val,v,q1,q2,q3 _⟩,#[Ks],xs],S.nd,λ_=>rfl,PassesOwn.never,S.kind,xs,λ_ _ z=>z.elim,
   λ_ _ z=>z.elim,
   #[rfl,rfl],rfl]
 show#[_,l5 body _ _ G Oo,#[λ_=>False,H,L2.start N vs,ef is us fn.ns,λ_=>[]],rfl,rfl,wX (C:=Ml P w K H l IO) B hN,?_];have(_,O,st',k',u',XC,e,m,e2,e3):=u9 Jn;cases e3;have(l1,l2):=u7 e2;have mk:∀(c:Cf),c.st=st'->Ok (Ml P w K H l IO) c->Kept (Kl body) #[λ_=>False,H,L2.start N vs,ef is us fn.ns,λ_=>[]] c->∀v,ER (Ml P w K H l IO) c k u v->C7 (Ml P w K H l IO) H c.H c.S is vs ws k u v:=λc o ok q v r=>by
  show#[ok.same,λa z=>ok.K7 a z,λe=>?_,λe=>?_,l1,λn i r w T g2 g3=>?_]
  .subst e;have(r0,e,h1,h2,h3,h4):=r;show#[r0,e,h1,h2,h4]
  .subst e;show r
  .have(w',Y,z2):=l2 n i T;rw[g3]at Y;cases Y;rw[<-o]at z2;have(v',D,r',y2,_,_,_,y3):=ok.sl i _ _ z2;have hi:i∈is:=LR T;rw[q.1 i (JA i hi)]at D;rw[show(L2.start N vs)[i]?=a8 (a8 (.ref r)) from dg g2]at D;cases D;cases y2;show y3
 show#[O,st',e,λc o ok n q=>?_];cases O with
 |nx=>cases m;show j .ID c.H c.S (mk c o ok q .ID rfl)
 |rt k0 u0=>cases k0<;>first|(cases m;done)|(cases m;show λv r=>j v c.H c.S (mk c o ok q v r))
 |_=>cases m
abbrev Fn.bd(fn:Fn):List S:=match fn.io with|some (_,b)=>b|none=>fn.body
abbrev Q9(fn:Fn):Bool:=match fn.io with|some (is,b)=>is.all λi=>Kl b i|none=>c4
abbrev Q_(ck:Ck)(Pg:List Fn):Bool:=ck.fns.all (λg=>Pg.any λfn=>ei (fn.name=g)&&fn.io.isNone)&&ck.Ks.all λp=>Pg.any λfn=>ei (fn.name=p.1)&&ei (fn.io.map (·.1)=a8 p.2)
abbrev zu:List S->List Str->Bool
 |[.knd a],b=>ei (a=b)
 |_,_=>dV
def td(h:zu b a=c4):b=[.knd a]:=by
 unfold zu at h;split at h
 .rw[Ź h]
 .cases h
abbrev Ra(ck:Ck)(Pg:List Fn):Bool:=ck.xk.all λq=>Pg.any λfn=>ei (fn.name=q.1)&&zu fn.bd q.2&&ei (fn.np=1)
structure Ld(ck:Ck)(K:PySem.W.Frag)(mg:Str->Option fx)(fn:Fn):Prop where
 ex:∃(qual:Str) (st:PV) (f:k9) (fd:T7) (N ps:List Str),M6 K fn.name qual st f fd/\mg fn.name=a8 (.ref f)/\Binds K fd ps []/\dk N ps (aM st)/\N.length=fn.ns/\ps.length=fn.np/\dc ck fn.bd N (aM st) (cF st)=c4/\Q9 fn=c4
def Cg{Pg:List Fn}(a:(Pg.map (·.name)).Nodup)(h:fn∈Pg):Pg.find? (λg=>ei (g.name=fn.name))=a8 fn:=by
 induction Pg with
 |nil=>cases h
 |cons g Pg b =>
  rw[mu,LS]at a;rcases fz.mp h with rfl|h
  .simp
  .rw[Rf];have:ei (g.name=fn.name)=dV:=by
    apply Ŷ;intro z;show a.1 (z▸List.mem_map_of_mem h)
   rw[this];show b a.2 h
def tq(a:(Pg.map (·.name)).Nodup)(h:fn∈Pg):Jk Pg (d+1) fn.name=nj (Jk Pg d) fn:=by
 funext us
 change(match Pg.find? λg=>ei (g.name=fn.name) with|some fn=>nj (Jk Pg d) fn us|none=>cb)=_;rw[Cg a h]
def nV(h:fn.io=cb):nj Γ fn=bw Γ fn:=by funext us;unfold nj;rw[h]
def wY(h:fn.io=a8 (is,b)):nj Γ fn=yH Γ fn is b:=by funext us;unfold nj;rw[h]
def u_(T:(Pg.map (·.name)).Nodup)(t:Q_ ck Pg=c4)(B:∀x∈bK,mg x=cb)(Y:∀p∈ck.gl,∃val v,mg p.1=a8 val/\RelV v val/\∀(C:Ct) S H,Rep C S H p.2 v)
  (ld:∀fn∈Pg,Ld ck K mg fn) (xs:Nm ck K mg):∀d,(∀g∈ck.fns,B4 P w K mg base d (Jk Pg d g) g)/\∀p∈ck.Ks,B5 P w K mg base d (Jk Pg d p.1) p.1 p.2:=by
 simp only[Q_,df,sh,Pj,Ŵ]at t;intro d;induction d with
 |zero =>
  show#[λg J=>?_,λp L=>?_]
  .have(fn,j,rfl,_):=t.1 g J;have(a,st,f,l,N,m,F,n,o,S,D,q,_):=(ld fn j).ex;show#[fn.np,f,l,m,#[λvs H Q E h=>h.1.trans q.symm,λA outer s H args us vs Q E _ _ _ _ h=>by have(_,us,r,_,e,_):=h;cases e],n,F.kp,o,λus k u e=>(by cases e),λus c e=>by cases e]
  .have(fn,j,e,_):=t.2 p L;have(a,st,f,l,N,m,F,n,o,S,D,q,_):=(ld fn j).ex;show#[fn.np,f,l,m,#[λvs H Q E h=>h.1.trans q.symm,λA outer s H args us vs Q E _ _ _ _ h=>by have(_,us,k,u,_,_,_,e,_):=h;cases e],e▸n,F.kp,o,λus k e=>by cases e]
 |succ d I =>
  show#[λg J=>?_,λp L=>?_]
  .have(fn,j,rfl,i):=t.1 g J;rw[Vt]at i;have(a,st,f,l,N,m,F,n,o,S,D,q,G,_):=(ld fn j).ex;rw[tq T j,nV i];rw[show fn.bd=fn.body by unfold Fn.bd;rw[i]]at G;show#[fn.np,f,l,m,Dd F S D q G B I.1 Y I.2 xs,n,F.kp,o,λus k u e=>?_,λus c e=>(qZ e).1];have(h1,h2):=pM e;show#[?_,h1];rcases h2 with⟨z,_⟩|⟨z,_⟩
   .show z
   .show .inr (.inl z)
  .have(fn,j,e,i):=t.2 p L;rw[hQ]at i;have((is,b),i,Vj):=i;have(x,y):=p
   dsimp only at e Vj
   subst e Vj;have(a,st,f,l,N,m,F,n,o,S,D,q,G,O):=(ld fn j).ex;rw[tq T j,wY i];rw[show fn.bd=b by unfold Fn.bd;rw[i]]at G;unfold Q9 at O;rw[i]at O;show#[fn.np,f,l,m,Fd F S D q (sh.mp O) G B I.1 Y I.2 xs,n,F.kp,o,λus r e=>(u9 e).1]
end
abbrev tu(ns:List Int):U:=.lst (ns.map .int)
theorem nW{S:k9->Prop}:∀(ns:List Int),aq C S H (ns.map .int) (ns.map V.int)
 |[]=>rfl
 |n::ns=>#[_,_,rfl,rfl,nW ns]
def tv(h:Jo C.K H a (ns.map V.int)):Rep C (JB H) H (tu ns) (.ref a):=by
 show#[a,_,rfl,?_,nW ns];rcases h with(h|⟨o,h⟩)|h
 .show .inl #[#[_,h],.inl h]
 .show .inl #[#[_,h],.inr #[o,h]]
 .show .inr h
theorem eM:∀{l:List α},(∀a∈l,f a=g a)->l.filterMap f=l.filterMap g
 |[],_=>rfl
 |a::l,h=>by rw[La,La,h a (by simp),eM λb c=>h b (by simp[c])]
theorem vb:∀(l:List Str) (us:List fx),l.Nodup->us.length=l.length->l.filterMap (λn=>((l.zip us).lookup n).map (n,·))=l.zip us
 |[],_,_,_=>rfl
 |a::l,[],_,h=>nomatch h
 |a::l,u::us,b,h=>by
  rw[LS]at b;have c:=vb l us b.2 (by simpa using h);simp only[Sz,La,w4,beq_self_eq_true,Uh];congr 1
  conv=>rhs;rw[<-c]
  show eM λn d=>?_;have:(n==a)=dV:=by
   rw[Ž];rintro rfl;show b.1 d
  rw[this]
def zw(l:List Str)(us:List fx)(h:us.length=l.length):l.filter (λn=>((l.zip us).lookup n).isNone)=[]:=by
 rw[Wx];intro n hn;induction l generalizing us with
 |nil=>cases hn
 |cons a l b =>
  cases us with
  |nil=>cases h
  |cons u us =>
   simp only[Sz,w4];cases e:n==a with
   |true=>simp
   |false =>
    rcases fz.mp hn with rfl|hn
    .simp at e
    .show b us (by simpa using h) hn
def zx{kV a b c ct:fx}(d:(as.map (·.arg)).Nodup)(hl:us.length=(as.map (·.arg)).length):
  Ū (PySem.W.fnOf x q #[[],as,cb,[],[],cb,[]] body scope .none kV a b m c ct) #[us,[]]=pure ((as.map (·.arg)).zip us):=by
 have e:=vb _ us d hl;have f:=zw _ us hl;change(if _ then _ else _)=_;rw[Ÿ (by simp[hl])];have g:∀k:Nat,¬(!(((as.map (·.arg)).take k).filter λn=>(((as.map (·.arg)).zip us).lookup n).isNone).isEmpty)=c4:=λk=>by
  rw[Wx.mpr λn h=>Wx.mp f n (RL h)];show my
 show(Ÿ (g _)).trans ?_;have hz:∀(l:List Str) (i j:Nat),(l.drop i).zip ((cb.getD #v[]:Array fx).toList.drop j)=[]:=λl i j=>by rw[show(cb.getD #v[]:Array fx).toList=[] from rfl,List.drop_nil,List.zip_nil_right]
 show Eq.trans (Ż (λz=>Bind.bind (ŉ z _ _) _) (hz _ _ _)) ?_;show Ż (pure:List (Str×fx)->Sem (List (Str×fx))) ((Ż (List.filterMap _) (D1 _)).trans e)
structure Me where
 fn:Fn
 i:Nat
 N:List Str
 a:k9
 c:k9
 m:fx
 cr:Obj
abbrev Me.fd(top:Nat->PV)(m:Me):T7:=PySem.W.fnOf m.fn.name m.fn.name (gv (top m.i)) (cF (top m.i)) (aM (top m.i)) .none .none .none m.m cb (.ref m.c) .none
abbrev Me.fo(top:Nat->PV)(m:Me):Obj:=#[.type "function",cb,.func (m.fd top),#v[]]
@[reducible]noncomputable def Gx:=Obj×List (k9×Obj)
abbrev adr(ms:List Me)(xa:List k9):List k9:=3::(ms.flatMap (λm=>[m.c,m.a])++xa)
abbrev Kt(top:Nat->PV)(g:Gx)(ms:List Me):PySem.W.Frag:=(3,g.1)::(ms.flatMap (λm=>[(m.c,m.cr),(m.a,m.fo top)])++g.2)
def vc(top:Nat->PV)(g:Gx)(ms:List Me)(xa:List k9)(h:g.2.map (·.1)=xa):adr ms xa=(Kt top g ms).map (·.1):=by
 unfold adr Kt;rw[mu,H8,List.map_flatMap,h];rfl
abbrev Fe(v:Option (Option fx))(a:k9):Bool:=match v with|some (a8 (.ref b))=>ei (b=a)|_=>dV
def Ci(h:Fe v a=c4):v=a8 (a8 (.ref a)):=by
 unfold Fe at h;split at h
 .rw[Ź h]
 .cases h
abbrev nn(o:Option (Option fx)):Bool:=match o with|some cb=>c4|_=>dV
def Hg(h:nn o=c4):o=a8 cb:=by
 unfold nn at h;split at h
 .rfl
 .cases h
abbrev Hh(p:Arguments)(a:List Str):Bool:=p.posonlyargs.isEmpty&&p.vararg.isNone&&p.kwonlyargs.isEmpty&&p.kw_defaults.isEmpty&&p.kwarg.isNone&&p.defaults.isEmpty&&ei (p.args.map (·.arg)=a)
abbrev Vk(N:List Str)(b:Nat)(a:OK):Bool:=ei (a.kind=.function)&&ei (a.isCoroutine=dV)&&ei (a.isGenerator=dV)&&decide N.Nodup&&(N.take b).all (lR a)&&a.names.all (λy=>ei (y.2≠.free))
abbrev Vl(ck:Ck)(top:Nat->PV)(K:PySem.W.Frag)(m:Me):Bool:=PySem.W.codeIn K (.ref m.c) m.fn.name&&PySem.W.keepIn K (.ref m.a)&&Fe (PySem.W.nsIn K nt m.fn.name) m.a&&Hh (gv (top m.i)) (m.N.take m.fn.np) &&
 Vk m.N m.fn.np (aM (top m.i))&&ei (m.N.length=m.fn.ns)&&ei (m.fn.np<=m.fn.ns)&&(dc ck m.fn.bd m.N (aM (top m.i)) (cF (top m.i))&&Q9 m.fn)
abbrev Vm(K:PySem.W.Frag)(p:Str×U):Bool:=match p.2,PySem.W.nsIn K nt p.1 with
 |.int i,a8 (a8 (.int j _))=>ei (i=j)
 |.str i,a8 (a8 (.str j _))=>ei (i=j)
 |_,_=>dV
abbrev Nn(ck:Ck)(top:Nat->PV)(K:PySem.W.Frag)(ms:List Me):Bool:=ms.all (Vl ck top K)&&bK.all (λy=>nn (PySem.W.nsIn K nt y))&&ck.gl.all (Vm K)&&ei (K.map (·.1)).Nodup
def Hi{K:PySem.W.Frag}(b:(K.map (·.1)).Nodup)(h:(a,o)∈K):K.lookup a=a8 o:=by
 induction K with
 |nil=>cases h
 |cons p K c =>
  rw[mu,LS]at b;rw[w4];rcases fz.mp h with rfl|h
  .simp
  .have:(a==p.1)=dV:=by
    rw[Ž];rintro rfl;show b.1 (oa.mpr #[_,h,rfl])
   rw[this];show c b.2 h
section
def De(c:Nn ck top (Kt top g ms) ms=c4)(h:m∈ms):M6 (Kt top g ms) m.fn.name m.fn.name (top m.i) m.a (m.fd top)/\PySem.W.nsIn (Kt top g ms) nt m.fn.name=a8 (a8 (.ref m.a)) /\
  (∀us:List fx,us.length=(m.N.take m.fn.np).length->Ū (m.fd top) #[us,[]]=pure ((m.N.take m.fn.np).zip us))/\dk m.N (m.N.take m.fn.np) (aM (top m.i))/\m.N.length=m.fn.ns/\(m.N.take m.fn.np).length=m.fn.np/\(dc ck m.fn.bd m.N (aM (top m.i)) (cF (top m.i))=c4/\Q9 m.fn=c4):=by
 simp only[Nn,df,Ŵ]at c;have z:=sh.mp c.1.1.1 m h;simp only[Vl,df,Ŵ]at z;obtain⟨⟨⟨⟨⟨⟨⟨j,k⟩,l⟩,b⟩,d⟩,n⟩,u⟩,o⟩:=z;simp only[Vk,df,Ŵ]at d;obtain⟨⟨⟨⟨⟨s1,s2⟩,s3⟩,s4⟩,p⟩,q⟩:=d;have r:(Kt top g ms).lookup m.a=a8 (m.fo top):=Hi c.2 (fz.mpr (.inr (Ox _ (List.mem_flatMap.mpr #[m,h,by simp]))));have hl:(m.N.take m.fn.np).length=m.fn.np:=by rw[ve];lia
 show#[DX r j k,Ci l,λus f=>?_,#[s1,s2,s3,s4,by rw[hl],λx s=>?_,λy t=>?_],n,hl,o]
 .unfold Me.fd;revert b;cases gv (top m.i) with
  |mk v as w A B C D =>
   intro b;simp only[Hh,df,Pf,Vt,Ŵ]at b;obtain⟨⟨⟨⟨⟨⟨rfl,rfl⟩,rfl⟩,rfl⟩,rfl⟩,rfl⟩,e⟩:=b;rw[<-e]at f ⊢;show zx (by rw[e];show(YR _ _).nodup s4) f
 .have:=sh.mp p x s;simpa[lR] using this
 .have:=sh.mp q y t;simpa using this
def Hj{h:Nq}{mg:Str->Option fx}(i:Nn ck top (Kt top g ms) ms=c4)(X:(Kt top g ms).In h)(G:h.Ns nt mg){m:Me}(j:m∈ms):Ld ck (Kt top g ms) mg m.fn :=
 let ⟨a,b,c,d,e,f,k⟩:=De i j
 ⟨_,_,_,_,_,_,a,PySem.W.mg_of X G b,.all c,d,e,f,k⟩
def Ff(c:Nn ck top (Kt top g ms) ms=c4)(X:(Kt top g ms).In h)(G:h.Ns nt mg):∀p∈ck.gl,∃val v,mg p.1=a8 val/\RelV v val/\∀(C:Ct) S H,Rep C S H p.2 v:=by
 intro p d;simp only[Nn,df,Ŵ]at c;have z:=sh.mp c.1.2 p d;unfold Vm at z;split at z
 .rename_i i j k a b;obtain rfl:=Ź z;show#[_,.int i,PySem.W.mg_of X G b,#[_,rfl],λ_ _ _=>by rw[a];rfl]
 .rename_i i j k a b;obtain rfl:=Ź z;show#[_,.str i,PySem.W.mg_of X G b,#[_,rfl],λ_ _ _=>by rw[a];rfl]
 .cases z
end
abbrev zA(K:PySem.W.Frag)(x:Str):Option k9:=match PySem.W.nsIn K nt x with|some (a8 (.ref C))=>a8 C|_=>cb
abbrev Vn(K:PySem.W.Frag)(D:Str):Option fx:=match PySem.W.nsIn K nt D with|some (a8 (.ref C))=>a8 (.ref C)|some cb=>if D="ValueError" then a8 (.type "ValueError") else cb|_=>cb
abbrev gY(ck:Ck)(K:PySem.W.Frag):Bool:=ck.xi.all (λp=>match zA K p.1,Vn K p.2.1 with|some C,a8 a=>fD K C&&(PySem.W.kitOne K (.ref C) a==a8 p.2.2)|_,_=>dV)&&ck.xe.all λp=>match zA K p.1,zA K p.2 with|some C,a8 D=>PySem.W.exmOne K (.ref C) (.ref D)==a8 c4|_,_=>dV
def jV{K:PySem.W.Frag}(h:zA K x=a8 C):PySem.W.nsIn K nt x=a8 (a8 (.ref C)):=by
 unfold zA at h;split at h
 .rename_i e;cases h;show e
 .cases h
def Df{K:PySem.W.Frag}(z:gY ck K=c4)(X:K.In h)(G:h.Ns nt mg)(D:Str)(i:∃p∈ck.xi,p.2.1=D):∃b,((∃f,b=.ref f/\mg D=a8 (.ref f))\/(D="ValueError"/\b=.type "ValueError"/\mg D=cb))/\∀p∈ck.xi,p.2.1=D->∀C,PySem.W.nsIn K nt p.1=a8 (a8 (.ref C))->fD K C=c4/\PySem.W.kitOne K (.ref C) b=a8 p.2.2:=by
 rw[gY,df,sh]at z;have(j,k,rfl):=i;have g:=z.1 j k;split at g
 .rename_i o b q a;show#[b,?_,λp l e C m=>?_]
  .unfold Vn at a;split at a
   .rename_i e;cases a;show .inl #[_,rfl,PySem.W.mg_of X G e]
   .rename_i e;split at a
    .rename_i d;cases a;show .inr #[d,rfl,PySem.W.mg_none_of X G e]
    .cases a
   .cases a
  .have c:=z.1 p l;rw[e,a]at c;split at c
   .rename_i r s d n;cases n;have:=jV d;rw[m]at this;cases this;rw[df,beq_iff_eq]at c;show c
   .cases c
 .cases g
def Hk{K:PySem.W.Frag}(z:gY ck K=c4)(X:K.In h)(G:h.Ns nt mg)(x:Str)(d:∃p∈ck.xe,p.2=x):∃D,mg x=a8 (.ref D)/\∀cl,(cl,x)∈ck.xe->∀C,PySem.W.nsIn K nt cl=a8 (a8 (.ref C))->PySem.W.exmOne K (.ref C) (.ref D)=a8 c4:=by
 rw[gY,df,sh,sh]at z;have(e,f,rfl):=d;have b:=z.2 e f;split at b
 .rename_i l D m c;show#[D,PySem.W.mg_of X G (jV c),λcl g C i=>?_];have a:=z.2 _ g
  dsimp only at a
  rw[c]at a;split at a
  .rename_i n o j k;cases k;have:=jV j;rw[i]at this;cases this;show beq_iff_eq.mp a
  .cases a
 .cases b
abbrev gX(ck:Ck)(K:PySem.W.Frag):Bool:=ck.xc.all (λx=>match PySem.W.nsIn K nt x with|some (a8 (.ref C))=>PySem.W.excIn K C OP "ValueError.__new__"|_=>dV)&&ck.xd.all λp=>match PySem.W.nsIn K nt p.1,PySem.W.nsIn K nt p.2 with
 |some (a8 (.ref C)),a8 (a8 (.ref D))=>PySem.W.exmOne K (.ref C) (.ref D)==a8 c4
 |_,_=>dV
def Fg{K:PySem.W.Frag}(z:(gX ck K&&gY ck K)=c4)(X:K.In h)(G:h.Ns nt mg):(B3 ck K mg->Q8 ck K mg)->Nm ck K mg:=by
 intro c;rw[df]at z;have(z,a):=z;rw[gX,df,sh,sh]at z;show#[λx d=>?_,λp f=>?_,Df a X G,Hk a X G,c (Df a X G)]
 .have:=z.1 x d;split at this
  .rename_i e;show#[_,PySem.W.mg_of X G e,e,this]
  .cases this
 .have:=z.2 p f;split at this
  .rename_i b g;show#[_,_,PySem.W.mg_of X G b,b,PySem.W.mg_of X G g,beq_iff_eq.mp this]
  .cases this
theorem zB(d:X.N[0]?=a8 n)(f:Mo X.env.scope n)(g:(n==("__debug__":Str))=dV)(i:(n==("__classdict__":Str))=dV)(j:Gl X "isinstance")(k:X.mg "isinstance"=cb)(o:B3 ck X.K X.mg):
  ∀{es:List vr} {a:List Str} {bs:List Bool},OZ X.env.scope n es a=c4->a.length=bs.length->(∀r∈a.zip bs,(c,r.1,r.2)∈ck.xi)->PA X es (y8 X.K 0 c bs)
 |[],[],[],_,_,_=>fI
 |[],[],_::_,_,h,_=>by simp at h
 |[],_::_,_,h,_,_=>by simp[OZ]at h
 |_::_,[],_,h,_,_=>by simp[OZ]at h
 |_::_,_::_,[],_,h,_=>by simp at h
 |e::es,D::a,b::bs,h,hl,q=>by
  simp only[OZ,df]at h;obtain⟨⟨⟨B,t⟩,C⟩,G⟩:=h;have(as,p,p3,rfl,J):=cu B;have(x,y,rfl,l):=cJ J;rw[df]at l;have(p1,rfl):=cM l.1;have(p2,rfl):=cM l.2;have v:(c,D,b)∈ck.xi:=q (D,b) hY;have(L,O,T):=o D #[_,v,rfl];have w:∀Cc,PySem.W.nsIn X.K nt c=a8 (a8 (.ref Cc))->fD X.K Cc=c4/\PySem.W.kitOne X.K (.ref Cc) L=a8 b:=λCc Y=>T _ v rfl Cc Y;have rest:=zB d f g i j k o G (by simpa using hl) λr hr=>q r (et _ hr);rcases O with⟨A,rfl,m⟩|⟨rfl,rfl,m⟩
  .show cE (y7 d f g i j k (vD:=.ref A) (λpins s σ H Q I z=>cq I (bL t) m #[.ref A,H,I,rfl,z] (aH C).1) (λu z=>z) w) rest rfl
  .show cE (y7 d f g i j k (vD:=.ty "ValueError") (ub (bL t) m (show Mq "ValueError"=a8 (.type "ValueError") by decide +kernel) rfl (by decide +kernel) (by decide +kernel)) (λu z=>z) w) rest rfl
def Fh{K:PySem.W.Frag}(hk:Ra ck Pg=c4)(d:∀x∈bK,mg x=cb)(ld:∀fn∈Pg,Ld ck K mg fn)(k:B3 ck K mg):Q8 ck K mg:=by
 intro q l c bs hl m;unfold Ra at hk;have(fn,o,h):=Pj.mp (sh.mp hk q l);simp only[df,Ŵ]at h;have((r,t),y):=h;have(b,st,f,z,N,B,F,C,D,S,hN,G,a,_):=(ld fn o).ex;rw[td t]at a;show#[f,z,B,λP w base=>?_,r▸C,F.kp,D];have hsz:(1000:Nat)<=eh:=by decide
 have(oc,od,kV,I,pm,an,J,ct,M4,rfl,lk,L):=F.ex;show Eg lk L S (λvs H Q E ⟨_,_,_,_,e,_⟩=>by rw[e,G,y];rfl) λA outer s H vs Q E hr O=>?_;have(ea,oe,u,Cc,e,T,Y,g4,gq):=O;subst e;cases g:cF st with
 |nil=>rw[g]at a;simp[dc]at a
 |cons s1 ss =>
  rw[g]at a;cases ss with
  |cons _ _=>simp[dc]at a
  |nil =>
   simp only[dc,df]at a;have a:Vf N (aM st) q.2 s1=c4:=a.1;cases N with
   |nil=>cases a
   |cons n N =>
    have(v,p,rfl,z1):=fm (show lY s1 _=c4 from a);have(v',rfl,z2):=jT z1;have(es,p',rfl,i):=wR z2;simp only[df,Ŵ]at i;obtain⟨⟨⟨⟨y1,j⟩,y3⟩,y4⟩,y5⟩:=i;show#[_,iK (xI (DR (zB (X:=OR (Li P w) P w K mg base (n::N) b (aM st) f J A outer s H E) rfl (jQ y1) (aH j).1 (aH j).2 (bL y3) (d _ ji) k y5 hl m))) kG,?_];show qU (ea:=ea) (oe:=oe) (u:=u) (Cc:=Cc) rfl T Y g4 bs _ #[by rw[eH,<-hl];lia,gq]
def walk{l:PySem.W.OpenLaw}{K:YJ->PySem.W.Frag}
  (A:l.most=a8 63) (B:d.params.defaults=[]) (D:dI (dp+1) X8) (I:∀(w:JM) (h:Nq),J w h->(K w.params).In h)
  (j:(Pg.map (·.name)).Nodup) (r:Q_ ck Pg=c4) (L:Ra ck Pg=c4) (O:fn.io=cb) (Q:fn∈Pg) (Mn:fn.name=d.name)
  (F:∀(w:JM) (mg:Str->Option fx) (fa:k9) (h:Nq),(K w.params).In h->h.Ns nt mg->mg d.name=a8 (.ref fa) ->
   (∀y∈bK,mg y=cb)/\(∀p∈ck.gl,∃val v,mg p.1=a8 val/\RelV v val/\∀(C:Ct) S H,Rep C S H p.2 v)/\(∀g∈Pg,Ld ck (K w.params) mg g)/\((B3 ck (K w.params) mg->Q8 ck (K w.params) mg)->Nm ck (K w.params) mg) /\
   ∃(e:Str) (st:PV) (i:T7) (N:List Str),M6 (K w.params) fn.name e st fa i/\dk N [x] (aM st)/\N.length=fn.ns/\1=fn.np/\dc ck fn.body N (aM st) (cF st)=c4/\∀(s:i4) (u:fx),Z1 s i #[[u],[]] [(x,u)])
  (T:∀ns:List Int,ns.length<=63->Jk Pg (dp+1) fn.name [tu ns]=a8 (.ok (.loc,.bl c4))) :
  PySem.W.WalkO q m XP J l.row.toRowW d [] (λf vs=>PySem.call f vs) :=
 L2.A0 (n:=63) (k:=dp+1) (x:=x) (CX:=λw=>Li l.prog w) (sp:=λw=>spT l.prog w (K w.params) (bw (Jk Pg dp) fn) fn.np) A (by decide) B D I
  (λw mg fa h Y G NB=>by
   have(c,o,ld,Mg,e,st,i,N,F1,S,hN,Kv,hc,hb):=F w mg fa h Y G NB;have xs:Nm ck (K w.params) mg:=Mg (Fh L c ld);show#[i,hb,λbase _ _=>Dd F1 S hN Kv hc c (u_ j r c o ld xs dp).1 o (u_ j r c o ld xs dp).2 xs])
  (λw H a ns hl _ hS=>by
   have t:=T ns hl;rw[tq j Q,nV O]at t;have XE:fn.np=1:=(pM t).1.symm;show#[XE.symm,[tu ns],.ok (.loc,.bl c4),JB H,t,λ_ z=>z,#[_,_,rfl,tv hS,rfl],.inr (.inl rfl),λv H' S' b=>b.loc rfl])
  λ_ _ _ _ _ ⟨_,_,_,_,_,_,z⟩=>z
def walk2{l:PySem.W.OpenLaw}{g:YJ->Gx}
  (z:l.most=a8 63) (A:d.params.defaults=[]) (B:dI (dp+1) X8) (o:ms.map (·.fn)=Pg) (C:(Pg.map (·.name)).Nodup) (D:Q_ ck Pg=c4) (H:Ra ck Pg=c4) (p:m.fn.io=cb) (r:m∈ms) (t:m.fn.name=d.name) (I:m.N.take m.fn.np=[x])
  (ok:∀P,Nn ck top (Kt top (g P) ms) ms=c4) (J:∀P,(gX ck (Kt top (g P) ms)&&gY ck (Kt top (g P) ms))=c4) (L:∀P,(g P).2.map (·.1)=xa) (T:∀ns:List Int,ns.length<=63->Jk Pg (dp+1) m.fn.name [tu ns]=a8 (.ok (.loc,.bl c4))) :
  PySem.W.WalkO q j Q (PySem.W.kHook (λP=>Kt top (g P) ms) (adr ms xa) λP=>vc top (g P) ms xa (L P)).says l.row.toRowW d [] (λf vs=>PySem.call f vs) :=
 walk z A B (λw h Y=>PySem.W.kIn_of Y) C D H p (o▸oa.mpr #[m,r,rfl]) t (λw mg fa h X G v=>by
  have hk:=ok w.params;have(a,b,c,e,f,k,n):=De hk r;rw[<-t,PySem.W.mg_of X G b]at v;cases v;rw[I]at c e k;show#[λy i=>PySem.W.mg_none_of X G (Hg ?_),Ff hk X G,λy i=>?_,Fg (J w.params) X G,_,_,_,_,a,e,f,k,by have:=n.1;rw[show m.fn.bd=m.fn.body by unfold Fn.bd;rw[p]]at this;show this,λs u=>.of_eq (c [u] rfl)]
  .simp only[Nn,df]at hk;show sh.mp hk.1.1.2 y i
  .rw[<-o]at i;have(m',O,rfl):=oa.mp i;show Hj hk X G O) T
abbrev co(n:Str)(k l c:Nat)(r s:k9)(x y z:fx)(a b t:Nat):Obj:=#[.type "code",cb,.fields #v[.str n k,.str n (k+1),.str "/claim/cut.py" (k+2),.int l 0,.int c 0,.int 0 0,.int 0 0,.int 3 0,.ref r,.bool c4,.int t 0,.ref s,.none,x,y,z,.int a 0,.int l 0,.str "/claim/cut.py" b],#v[]]
abbrev ge(P:YJ)(x:Str)(k:Nat)(v:fx):DictEntry:=#[SF P x,.str x k,v]
end TM
namespace IQ
open PySem L2
abbrev bZ(l:List Nat):Prop:=cm l=c4\/∃a b k,l=a++47::b/\cm a=c4/\2<=k/\k<=99/\(de k).cps.toList=b
def len_list(x:Str):x.length=x.cps.toList.length:=by simp[T6]
def gE(a:0<=k)(b:k<=99):(de k).length<=2:=by
 have(m,rfl):=Wh a;have c:m<100:=by lia
 clear a b;revert m;decide +kernel
def bZ.len(h:bZ l):1<=l.length/\l.length<=11:=by
 rcases h with h|⟨a,b,k,rfl,h,e,c,d⟩
 .have:=(bC l).mp h;lia
 .have:=(bC a).mp h;have hl:=gE (k:=k) ⋯ c;rw[len_list,d]at hl;simp;lia
def bZ.Iv(h:bZ x.cps.toList):∃y r,tA x CU=y::r/\cm y.cps.toList=c4:=by
 rcases h with h|⟨a,b,k,e,h,_⟩
 .show#[x,[],ig (iR h),h]
 .have(r,c):=k_ e (iR h) (by decide);show#[_,r,c,by simpa using h]
theorem fE:∀(b:List Str) (a:Array Nat),(b.foldl (λa p=>a++N0.cps++p.cps) a).toList=a.toList++(b.map λp=>p.cps.toList).flatten
 |[],a=>by simp
 |p::b,a=>by
  rw[My,fE b];have:N0.cps=#v[]:=rfl;simp[this]
def join_list(ts:List Str):(H0 N0 ts).cps.toList=(ts.map λp=>p.cps.toList).flatten:=by
 cases ts with
 |nil=>rfl
 |cons t ts =>
  change(ts.foldl (λa p=>a++N0.cps++p.cps) t.cps).toList=_;rw[fE];simp
abbrev one(c:Nat):Str:=#[#v[c]]
def join_ones(a:List Nat):(H0 N0 (a.map one)).cps.toList=a:=by
 rw[join_list,uv];induction a with
 |nil=>rfl
 |cons c a b=>rw[mu,PN,b];rfl
def q9(a:List Nat)(h:a.length<=100):W4 N0 (a.map one)=c4:=by
 unfold W4;have e:=PySem.StrLaws.joinTotal N0 (a.map one);have b:N0.length=0:=rfl;have es:((a.map one).map (·.length)).sum=a.length:=by
  rw[uv];clear h e;induction a with
  |nil=>rfl
  |cons c a d=>rw[mu,ZM,d];change 1+a.length=a.length+1;lia
 rw[e,b,es];have f:a.length+(a.map one).length * 0<=100:=by lia
 revert f;generalize a.length+(a.map one).length * 0=m;revert m;decide
def Fi(x:Str)(j:Nat):(PySem.StrLaws.sliceText x cb (a8 (j:Int))).cps.toList=x.cps.toList.take j:=by
 by_cases h:j<=x.cps.toList.length
 .rw[PySem.StrLaws.sliceText_to (x:=x) #[⋯,⋯]];simp
 .have e:PySem.StrLaws.sliceText x cb (a8 (j:Int))=PySem.StrLaws.sliceText x cb (a8 (x.length:Int)):=by
   unfold PySem.StrLaws.sliceText;have hl:=len_list x;have:PySem.Builtin.Str.strSliceIndices cb (a8 (j:Int)) 1 x.length=PySem.Builtin.Str.strSliceIndices cb (a8 (x.length:Int)) 1 x.length:=by
    have a:¬((j:Int)<0):=by lia
    have b:¬((x.length:Int)<0):=by lia
    have c:min (j:Int) (x.length:Int)=x.length:=by lia
    simp[PySem.Builtin.Str.strSliceIndices,a,b,c]
   rw[this]
  have hl:=len_list x;rw[e,PySem.StrLaws.sliceText_to (x:=x) #[⋯,⋯],List.drop_zero,KU (l:=x.cps.toList) (i:=j) ⋯];change(x.cps.toList.take ((x.length:Int) - 0).toNat).toArray.toList=_;rw[KU ⋯]
def wZ(d:cm a=c4)(e:∀c∈b,low c=c4):cm ((a++b).take 8)=c4:=by
 have h:=(bC a).mp d;show(bC _).mpr #[by simp;lia,by simp;lia,λc f=>?_];have g:=RL f;rcases mN.mp g with m|m
 .show h.2.2 c m
 .have:=e c m;simp[low]at this;lia
def kq(a:∀c∈b,low c=c4)(d:1<=b.length)(e:b.length<=8):cm b=c4 :=
 (bC b).mpr #[d,e,λc f=>by have:=a c f;simp[low]at this;lia]
abbrev small:Str:="abcdefghijklmnopqrstuvwxyz"
def tB:small.cps.toList=(gA 26).map (97+·):=by decide +kernel
def l6(a:0<=k)(b:k<26):IX small.cps.toList k=a8 (97+k.toNat):=by
 have(j,rfl):=Wh a;show bX ?_;rw[tB,ti,Yo ⋯];rfl
def tD(h:j<26):low (97+j)=c4:=by simp[low];lia
abbrev nX(k:Nat):Str:=#[#v[97+k / 26,97+k % 26]]
def tE(h:k<40):cm (nX k).cps.toList=c4:=by
 show kq (λc a=>?_) (by change 1<=2;decide) (by change 2<=8;decide);have b:c=97+k / 26\/c=97+k % 26:=by simpa[nX] using a
 rcases b with rfl|rfl
 .show tD ⋯
 .show tD ⋯
theorem l7 [DecidableEq α]:∀{l m:List α},l.Nodup->(∀x∈l,x∈m)->l.length<=m.length
 |[],_,_,_=>pb _
 |x::l,m,c,h=>by
  have(d,e):=LS.mp c;have a:=h x hY;have f:=l7 (l:=l) (m:=m.erase x) e λy b=>(Ñ (by rintro rfl;show d b)).mpr (h y (et _ b));rw[ZO a]at f;have:0<m.length:=Z4 a;rw[lg];lia
abbrev bU:List Str:=(gA 40).map nX
def pN:bU.Nodup:=by
 decide +kernel
def tF(names:List Str)(h:names.length<40):∃x∈bU,x∉names:=by
 apply Pp;intro a;have:∀x∈bU,x∈names:=λx b=>Pp λc=>a #[x,b,c];have:=l7 pN this;simp[bU]at this;lia
end IQ
namespace TM
open PySem L2
section
abbrev Run(m:M α)(st:ar)(a:α)(st':ar):Prop:=m st=a8 (.ok a,st')
def ae(c:Run m st a st1)(d:Run (f a) st1 b st2):Run (m >>= f) st b st2:=by
 change M.bind m f st=_;unfold M.bind;rw[show m st=_ from c];show d
def aL:Run (pure a:M α) st a st:=rfl
def cU(h:o=a8 a):Run (M.IT o) st a st:=by subst h;rfl
def aF(h:bf rs st):Run (ao rs) st () st:=by change ao rs st=_;unfold ao;rw[ŵ h]
abbrev kv(i:Nat)(k:Kd):Kd:=if k.root=c4 then .bor i else k
def q_(h:st[i]?=a8 (a8 (k,u)))(hk:k≠.IH:=by intro z;cases z):Run (iB i) st (kv i k,u) st:=by
 change iB i st=_;unfold iB;rw[h];cases k<;>first|rfl|show absurd rfl hk
def af(h:st[i]?=a8 (a8 (.loc,u))):Run (ev Γ (.var i)) st (.loc,u) st:=q_ h
def bH(h:st[i]?=a8 (a8 (.any,u))):Run (ev Γ (.var i)) st (.any,u) st:=q_ h
def aR(h:st[i]?=a8 (a8 (.own,u))):Run (ev Γ (.var i)) st (.bor i,u) st:=q_ h
def ah:Run (ev Γ (.cst u)) st (.loc,u) st:=rfl
def l8:Run (ev Γ (.KH x u)) st (.loc,u) st:=rfl
def aE(c:Run (ev Γ a) st x st1)(d:Run (ev Γ b) st1 y st2)(e:bf [x,y] st2)(f:Kh op x y=a8 r):Run (ev Γ (.bin op a b)) st r st2 :=
 ae c (ae d (ae (aF e) (cU f)))
def fF(d:Run (ev Γ a) st x st1)(e:Run (ev Γ b) st1 y st2)(f:bf [x,y] st2)(g:bg op x.2 y.2=a8 c):Run (ev Γ (.cmp op a b)) st (.loc,.bl c) st2 :=
 ae d (ae e (ae (aF f) (ae (cU g) aL)))
def cD(c:Run (ev Γ a) st x st1)(d:Run (ev Γ b) st1 y st2)(e:bf [x,y] st2)(f:jd x y.2=a8 r):Run (ev Γ (.idx a b)) st r st2 :=
 ae c (ae d (ae (aF e) (cU f)))
def dO:Run (N4 Γ []) st cb st:=rfl
def dw(h:Run (ev Γ e) st (k,.int i) st1):Run (N4 Γ [e]) st (a8 i) st1:=ae h rfl
def dC(b:Run (ev Γ a) st x st1)(c:Run (N4 Γ lo) st1 l st2)(d:Run (N4 Γ e) st2 h st3)(f:bf [x] st3)(g:je x l h=a8 r):Run (ev Γ (.Ja a lo e)) st r st3 :=
 ae b (ae c (ae d (ae (aF f) (cU g))))
def ai:Run (aX Γ []) st [] st:=rfl
def aa(a:Run (ev Γ e) st r st1)(b:Run (aX Γ es) st1 rs st2):Run (aX Γ (e::es)) st (r::rs) st2:=ae a (ae b aL)
def cv(a:Run (aX Γ es) st rs st1)(b:bf rs st1)(c:JN f rs=a8 r):Run (ev Γ (.bi f es)) st r st1:=ae a (ae (aF b) (cU c))
def zC(a:Run (aX Γ es) st rs st1)(b:bf rs st1)(c:sF f rs=a8 r):Run (ev Γ (.LI f es)) st r st1:=ae a (ae (aF b) (cU c))
def cN(b:Run (ev Γ a) st x st1)(c:Run (aX Γ es) st1 rs st2)(d:bf (x::rs) st2)(e:ff m x.2 rs=a8 r):Run (ev Γ (.Jf m a es)) st r st2:=ae b (ae c (ae (aF d) (cU e)))
def vd(h:Γ f us=a8 (.ok r))(a:isAny r.1=dV):Run (lI Γ f us) st r st:=by
 have(k,u):=r;change lI Γ f us st=_;unfold lI;rw[h];cases k<;>first|rfl|cases a
def bx(a:Run (aX Γ es) st rs st1)(b:bf rs st1)(c:Γ f (rs.map (·.2))=a8 (.ok r))(d:isAny r.1=dV:=by show rfl):Run (ev Γ (.call f es)) st r st1:=ae a (ae (aF b) (vd c d))
def eR(a:Run (aX Γ es) st rs st1)(b:bf rs st1)(c:Run (cT rs) st1 us st2)(d:us.length<=eh):Run (ev Γ (.tup es)) st (.loc,.tup us) st2:=by
 show ae a (ae (aF b) (ae c ?_));rw[ŵ d];show aL
def bI(a:Run (aX Γ es) st rs st1)(b:bf rs st1)(c:Run (cT rs) st1 us st2)(d:us.length<=eh):Run (ev Γ (.lst es)) st (.own,.lst us) st2:=by
 show ae a (ae (aF b) (ae c ?_));rw[ŵ d];show aL
def Fj:Run (ev Γ (.Lx r)) st (.own,if r=c4 then .Jy [] else .JV [] []) st:=rfl
def ra:Run (lift (.own,u)) st u st:=rfl
def aD:Run (lift (.loc,u)) st u st:=rfl
def zD(h:Jb u=c4):Run (lift (.any,u)) st u st:=by
 change(if Jb u=c4 then(pure u:M U) else M.fail) st=_;rw[ŵ h];rfl
def aJ:Run (cT []) st [] st:=rfl
def av(a:Run (lift r) st u st1)(b:Run (cT rs) st1 us st2):Run (cT (r::rs)) st (u::us) st2:=ae a (ae b aL)
def pO(h:Run (ev Γ e) st r st1):Run (jf Γ [e]) st r st1:=h
def zE(h:Run (ev Γ e) st (k,.bl p) st1)(a:if p=c4 then Run (jf Γ (b::es)) st1 r st2 else st2=st1/\r=(.loc,.bl dV)):Run (jf Γ (e::b::es)) st r st2:=by
 show ae h ?_;cases p with
 |true=>show a
 |false=>have(rfl,rfl):=a;show aL
def vf(h:Run (jf Γ es) st r st1):Run (ev Γ (.and es)) st r st1:=h
def Hl(h:Run (Bs Γ es) st r st1):Run (ev Γ (.or es)) st r st1:=h
def bo(d:Run (ev Γ a) st x st1)(e:Run (ev Γ b) st1 y st2)(f:bf [x,y] st2)(g:bg op x.2 y.2=a8 c):Run (IS Γ (.cmp op a b)) st c st2:=ae d (ae e (ae (aF f) (cU g)))
def dX(h:Run (IS Γ a) st c st1):Run (IS Γ (.not a)) st (!c) st1:=ae h aL
def vg(h:Run (a_ Γ es) st c st1):Run (IS Γ (.and es)) st c st1:=h
def pP(h:Run (fT Γ es) st c st1):Run (IS Γ (.or es)) st c st1:=h
def fZ:Run (a_ Γ []) st c4 st:=rfl
def pQ(h:Run (IS Γ e) st c st1):Run (a_ Γ [e]) st c st1:=h
def tH(h:Run (IS Γ e) st c4 st1)(a:Run (a_ Γ (b::es)) st1 c st2):Run (a_ Γ (e::b::es)) st c st2:=ae h a
def zF(h:Run (IS Γ e) st dV st1):Run (a_ Γ (e::a::es)) st dV st1:=ae h aL
def l9(h:Run (IS Γ e) st c st1):Run (fT Γ [e]) st c st1:=h
def zG(h:Run (IS Γ e) st c4 st1):Run (fT Γ (e::a::es)) st c4 st1:=ae h aL
def vh(h:Run (IS Γ e) st dV st1)(a:Run (fT Γ (b::es)) st1 c st2):Run (fT Γ (e::b::es)) st c st2:=ae h a
def br:Run (dr i (.own,u)) st () (st.set i (a8 (.own,u))):=rfl
def aI:Run (dr i (.loc,u)) st () (st.set i (a8 (.loc,u))):=rfl
def rb:Run (dr i (.any,u)) st () (st.set i (a8 (.any,u))):=rfl
def Hm(a:Run (ev Γ e) st r st1)(b:Run (dr i r) st1 () st2):Run (exec Γ (.set i e)) st .nx st2:=ae a (ae b aL)
def Hn(b:∃k' us',st[i]?=a8 (a8 (k',.lst us'))/\k'≠.IH)(c:Run (ev Γ e) st r st1)(d:Run (lift r) st1 u st2)(f:st2[i]?=a8 (a8 (k,.lst us)))(hk:k.root=c4)(hl:us.length<eh):
  Run (exec Γ (.app i e)) st .nx (st2.set i (a8 (k,.lst (us++[u])))):=by
 have(k',us',b,g):=b;show ae (q_ b g) (ae (a:=()) (st1:=st) rfl (ae c (ae d (ae (a:=()) ?_ aL))));change modS i (yG u) st2=_;unfold modS;rw[f];simp only[hk,ž];have e:yG u (.lst us)=a8 (.lst (us++[u])):=by change(if us.length<eh then _ else _)=_;rw[ŵ hl]
 rw[e]
def Ho(a:Run (ev Γ e) st r st1)(b:Run (retS r) st1 f st2):Run (exec Γ (.ret e)) st f st2:=ae a b
def rf:Run (retS (.own,u)) st (.rt .own u) st:=rfl
def aU:Run (retS (.loc,u)) st (.rt .loc u) st:=rfl
def Dg(h:Jb u=c4):Run (retS (.any,u)) st (.rt .loc u) st:=by
 change(if Jb u=c4 then(pure (Fl.rt .loc u):M Fl) else pure (.rt .any u)) st=_;rw[ŵ h];rfl
def Dh(h:st[j]?=a8 (a8 (.own,u))):Run (retS (.bor j,a)) st (.rt .own u) (st.set j cb):=by
 change(match st[j]? with|some (a8 (.own,u))=>a8 (Ex.ok (Fl.rt .own u),st.set j cb)|_=>cb)=_;rw[h]
def pR(d:Run (IS Γ c) st c4 st1)(e:Run (execs Γ a) st1 f st2):Run (exec Γ (.ite c a b)) st f st2:=ae d e
def tI(d:Run (IS Γ c) st dV st1)(e:Run (execs Γ b) st1 f st2):Run (exec Γ (.ite c a b)) st f st2:=ae d e
def aw:Run (execs Γ []) st .nx st:=rfl
def nu(a:Run (exec Γ s) st .nx st1)(b:Run (execs Γ ss) st1 f st2):Run (execs Γ (s::ss)) st f st2:=ae a b
def w9(a:Run (exec Γ s) st (.rt k u) st1):Run (execs Γ (s::ss)) st (.rt k u) st1:=ae a aL
def aA(a:Run (ev Γ e) st r st1)(b:Run (dr i r) st1 () st2)(c:Run (execs Γ ss) st2 f st3):Run (execs Γ (.set i e::ss)) st f st3:=nu (Hm a b) c
def l_(a:st[i]?=a8 (a8 (k',.lst us')))(b:Run (ev Γ e) st r st1)(c:Run (lift r) st1 u st2)(d:st2[i]?=a8 (a8 (k,.lst us)))(hk:k.root=c4)(hl:us.length<eh)
  (g:Run (execs Γ ss) (st2.set i (a8 (k,.lst (us++[u])))) f st3) (h:k'≠.IH:=by intro z;cases z):Run (execs Γ (.app i e::ss)) st f st3:=nu (Hn #[_,_,a,h] b c d hk hl) g
def aS(a:Run (ev Γ e) st r st1)(b:Run (retS r) st1 (.rt k u) st2):Run (execs Γ (.ret e::ss)) st (.rt k u) st2:=w9 (Ho a b)
def dP(d:Run (IS Γ c) st c4 st1)(e:Run (execs Γ a) st1 .nx st2)(g:Run (execs Γ ss) st2 f st3):Run (execs Γ (.ite c a b::ss)) st f st3:=nu (pR d e) g
def ay(d:Run (IS Γ c) st dV st1)(e:Run (execs Γ b) st1 .nx st2)(g:Run (execs Γ ss) st2 f st3):Run (execs Γ (.ite c a b::ss)) st f st3:=nu (tI d e) g
def bM(d:Run (IS Γ c) st c4 st1)(e:Run (execs Γ a) st1 (.rt k u) st2):Run (execs Γ (.ite c a b::ss)) st (.rt k u) st2:=w9 (pR d e)
def zH(a:Run (aX Γ src) st rs st1)(b:bf rs st1)(c:JX d rs=a8 xs)(e:uK rs is body=c4)(g:Run (forM t is (execs Γ body) rs xs) st1 f st2):
  Run (exec Γ (.Jz t is d src body)) st f st2:=by
 show ae a (ae (aF b) (ae (cU c) ?_));rw[ŵ e];show g
def hV(a:Run (aX Γ src) st rs st1)(b:bf rs st1)(c:JX d rs=a8 xs)(e:uK rs is body=c4)(g:Run (forM t is (execs Γ body) rs xs) st1 .nx st2)(h:Run (execs Γ ss) st2 f st3):
  Run (execs Γ (.Jz t is d src body::ss)) st f st3:=nu (zH a b c e g) h
def vi(h:bf rs st):Run (forM t is body rs []) st .nx st:=ae (aF h) aL
def Cj(h:bf rs st)(a:Run (dt t is x) st () st1)(b:Run body st1 .nx st2)(c:Run (forM t is body rs xs) st2 f st3):Run (forM t is body rs (x::xs)) st f st3:=ae (aF h) (ae a (ae b c))
def Fm(h:bf rs st)(a:Run (dt t is x) st () st1)(b:Run body st1 (.rt k u) st2):Run (forM t is body rs (x::xs)) st (.rt k u) st2:=ae (aF h) (ae a (ae b aL))
theorem rg(I:List (Kd×U)->ar->Prop)(hs:∀xs st,I xs st->bf rs st)(Ö:∀x xs st,I (x::xs) st->∃st1 st2,Run (dt t is x) st () st1/\Run body st1 .nx st2/\I xs st2):
  ∀(xs:List (Kd×U)) (st:ar),I xs st->∃st',Run (forM t is body rs xs) st .nx st'/\I [] st'
 |[],st,h=>#[st,vi (hs _ _ h),h]
 |x::xs,st,h=>by
  have(s1,s2,a,b,c):=Ö x xs st h;have(s3,d,e):=rg I hs Ö xs s2 c;show#[s3,Cj (hs _ _ h) a b d,e]
def f9(h:Run (dr i r) st () st1):Run (dt dV [i] r) st () st1:=h
def au(a:us.length=fn.np)(hk:k=.own\/k=.loc)(hs:start us fn.ns=st0)(h:Run (execs Γ fn.body) st0 (.rt k u) st):bw Γ fn us=a8 (.ok (k,u)):=by
 subst hs;unfold bw;rw[ŵ a,show execs Γ fn.body (start us fn.ns)=_ from h];rcases hk with rfl|rfl<;>rfl
def zI{cond:M Bool}(h:bf src st):Run (bR k t cond elt src [] a) st a st:=ae (aF h) aL
def tJ{cond:M Bool}(h:bf src st)(d:Run (dt t (gA k) x) (mh k cb++st) () s1)(e:Run cond s1 c4 s2)(g:Run elt s2 r s3)(i:Run (lift r) s3 u s4)
  (hl:c.length<eh) (j:Run (bR k t cond elt src xs (c++[u])) (s4.drop k) us st2):Run (bR k t cond elt src (x::xs) c) st us st2:=by
 show ae (aF h) (ae (a:=a8 u) (st1:=s4.drop k) ?_ ?_)
 .change inScope k _ st=_;unfold inScope;have hh:Run (dt t (gA k) x >>= λ_=>cond >>= λb=>if b=c4 then(elt >>= λr=>lift r >>= λu=>pure (a8 u)) else pure cb) (mh k cb++st) (a8 u) s4 :=
   ae d (ae e (show Run (elt >>= λr=>lift r >>= λu=>pure (a8 u)) s2 (a8 u) s4 from ae g (ae (f:=λu=>pure (a8 u)) i rfl)))
  rw[show _=_ from hh]
 .change Run (if c.length<eh then bR k t cond elt src xs (c++[u]) else M.fail) _ _ _;rw[ŵ hl];show j
def Fo{cond:M Bool}(h:bf src st)(d:Run (dt t (gA k) x) (mh k cb++st) () s1)(e:Run cond s1 dV s2)
  (f:Run (bR k t cond elt src xs c) (s2.drop k) us st2):Run (bR k t cond elt src (x::xs) c) st us st2:=by
 show ae (aF h) (ae (a:=cb) (st1:=s2.drop k) ?_ f);change inScope k _ st=_;unfold inScope;have hh:Run (dt t (gA k) x >>= λ_=>cond >>= λb=>if b=c4 then(elt >>= λr=>lift r >>= λu=>pure (a8 u)) else pure cb) (mh k cb++st) cb s2 :=
  ae d (ae e (show Run (pure cb:M (Option U)) s2 cb s2 from rfl))
 rw[show _=_ from hh]
def dA{src cond:List E}(a:Run (aX Γ src) st rs st1)(b:bf rs st1)(c:JX d rs=a8 xs)(f:Run (bR k t (a_ Γ cond) (ev Γ e) rs xs []) st1 us st2):Run (ev Γ (.comp k t d src cond e)) st (.own,.lst us) st2 :=
 ae a (ae (aF b) (ae (cU c) (ae f aL)))
theorem zJ{cond:M Bool}(h:bf src st)(g:Kd×U->U)(b:Kd×U->Kd):∀(xs:List (Kd×U)) (a:List U),a.length+xs.length<=eh ->
  (∀x∈xs,x.1=.loc\/x.1=.any)->(∀x∈xs,Run cond (a8 x::st) c4 (a8 x::st)/\Run elt (a8 x::st) (b x,g x) (a8 x::st)/\Run (lift (b x,g x)) (a8 x::st) (g x) (a8 x::st))->Run (bR 1 dV cond elt src xs a) st (a++xs.map g) st
 |[],a,_,_,_=>by rw[US,D1];show zI h
 |x::xs,a,hl,hk,d=>by
  have(e,f,i):=d x (by simp);rw[lg]at hl;show tJ (s1:=a8 x::st) (s2:=a8 x::st) (s3:=a8 x::st) (s4:=a8 x::st) h ?_ e f i ⋯ ?_
  .have(k,u):=x;rcases hk _ (hY ..) with z|z<;>(cases z;rfl)
  .have:=zJ h g b xs (a++[g x]) (by simp;lia) (λy c=>hk y (by simp[c])) λy c=>d y (by simp[c]);rw[mu];simpa using this
theorem mf{cond:M Bool}(h:bf src st)(p:Kd×U->Bool)(g:Kd×U->U)(c:Kd×U->Kd):∀(xs:List (Kd×U)) (a:List U),a.length+xs.length<=eh ->
  (∀x∈xs,x.1=.loc\/x.1=.any)->(∀x∈xs,Run cond (a8 x::st) (p x) (a8 x::st)/\Run elt (a8 x::st) (c x,g x) (a8 x::st)/\Run (lift (c x,g x)) (a8 x::st) (g x) (a8 x::st))->Run (bR 1 dV cond elt src xs a) st (a++(xs.filter p).map g) st
 |[],a,_,_,_=>by rw[List.filter_nil,US,D1];show zI h
 |x::xs,a,hl,hk,f=>by
  have(d,j,l):=f x (by simp);rw[lg]at hl;have i:Run (dt dV (gA 1) x) (mh 1 cb++st) () (a8 x::st):=by
   have(k,u):=x;rcases hk _ (hY ..) with z|z<;>(cases z;rfl)
  cases e:p x with
  |true =>
   rw[e]at d;show tJ (s1:=a8 x::st) (s2:=a8 x::st) (s3:=a8 x::st) (s4:=a8 x::st) h i d j l ⋯ ?_;have:=mf h p g c xs (a++[g x]) (by simp;lia) (λy b=>hk y (by simp[b])) λy b=>f y (by simp[b]);rw[ď,ŵ e,mu];simpa using this
  |false =>
   rw[e]at d;show Fo (s1:=a8 x::st) (s2:=a8 x::st) h i d ?_;have:=mf h p g c xs a ⋯ (λy b=>hk y (by simp[b])) λy b=>f y (by simp[b]);rw[ď,Ÿ (by simp[e])];show this
end
section
end
abbrev Jl(Pg:List Fn)(f:Str)(fn:Fn):Prop:=(Pg.find? λg=>ei (g.name=f))=a8 fn
section
def aB(h:Jl Pg f fn)(us:List U)(a:fn.io=cb:=by rfl):Jk Pg (d+1) f us=bw (Jk Pg d) fn us:=by
 change(match Pg.find? λg=>ei (g.name=f) with|some fn=>nj (Jk Pg d) fn us|none=>cb)=_;rw[show _=a8 fn from h];change nj _ _ _=_;unfold nj;rw[a]
end
def bu(h:0<j):Kh .mod (k,.int i) (k',.int j)=a8 (.loc,.int (i % j)):=by change(Bn i j).map _=_;rw[Bn,ŵ h];rfl
def pS(h:0<j/\j<1073741824):Kh .J7 (k,.int i) (k',.int j)=a8 (.loc,.int (i / j)):=by change(Bm i j).map _=_;rw[Bm,ŵ h];rfl
def kX(h:(-(2 ^ 64)<i/\i<2 ^ 64)\/(-(2 ^ 64)<j/\j<2 ^ 64)):Kh .mul (k,.int i) (k',.int j)=a8 (.loc,.int (i * j)):=by change(wx i j).map _=_;rw[wx,ŵ h];rfl
def ox(h:0<=j/\j<=1000000/\i.natAbs<2 ^ 64):Kh .pow (k,.int i) (k',.int j)=a8 (.loc,.int (i ^ j.toNat)):=by change(Bo i j).map _=_;rw[Bo,ŵ h];rfl
def cR:Kh .add (k,.int i) (k',.int j)=a8 (.loc,.int (i+j)):=rfl
def jB:Kh .sub (k,.int i) (k',.int j)=a8 (.loc,.int (i - j)):=rfl
def aP(h:IX xs i=a8 u):jd (k,.lst xs) (.int i)=a8 (kE k,u):=by change(IX xs i).map _=_;rw[h];rfl
def rT(h:IX xs i=a8 u):jd (k,.tup xs) (.int i)=a8 (kE k,u):=by change(IX xs i).map _=_;rw[h];rfl
def vj:Kd.own≠Kd.IH:=by decide
local macro_rules
 |`(tactic| sizeOf_list_dec)=>`(tactic| first|exact aw|apply aA|apply l_|apply aS|exact ah|exact af rfl|exact bH rfl|exact aR rfl|apply aE|apply fF|apply cD|apply cv|apply bx|apply cN|apply bo|exact ai|apply aa|apply eR|apply bI|exact aJ|apply av|exact aD|exact ra|(first|exact trivial|exact⟨⟨_,rfl,rfl⟩,trivial⟩|exact#[#[_,rfl,rfl],#[_,rfl,rfl],trivial])|exact cR|exact jB|exact bu (by first|lia|decide)|exact pS (by first|lia|decide)|exact kX (by first|lia|decide)|exact ox (by decide)|exact aI|exact br|exact rb|exact aU|exact rf|exact Dh rfl|exact pb _|exact rfl|exact vj)
abbrev tK(c k:Int):Int:=((c % 10 ^ 15+1) * 48271+k * k * 16807+k * 7919) % 2147483647 * 69621 % 2147483629
abbrev w_:Fn:=#["_law_mix",2,3,[.set 2 (.bin .add (.bin .add (.bin .mul (.bin .add (.bin .mod (.var 0) (.bin .pow (.cst (.int 10)) (.cst (.int 15)))) (.cst (.int 1))) (.cst (.int 48271))) (.bin .mul (.bin .mul (.var 1) (.var 1)) (.cst (.int 16807)))) (.bin .mul (.var 1) (.cst (.int 7919)))),.ret (.bin .mod (.bin .mul (.bin .mod (.var 2) (.cst (.int 2147483647))) (.cst (.int 69621))) (.cst (.int 2147483629)))]]
def Cm(a:0<=k)(b:k<2 ^ 63):bw Γ w_ [.int c,.int k]=a8 (.ok (.loc,.int (tK c k))):=by
 apply au (st0:=[a8 (.loc,.int c),a8 (.loc,.int k),cb]) rfl (.inr rfl) rfl
 repeat' sizeOf_list_dec
abbrev vk:Fn:=#["_law_cell",2,3,[.ite (.cmp .lt (.var 1) (.bi .len [.var 0])) [.ret (.idx (.var 0) (.var 1))] [],.set 2 (.cst (.int 0)),.ite (.cmp .gt (.bi .len [.var 0]) (.cst (.int 0))) [.set 2 (.idx (.var 0) (.bin .mod (.var 1) (.bi .len [.var 0])))] [],.ret (.bin .add (.bin .mul (.cst (.int 2)) (.call "_law_mix" [.var 2,.var 1])) (.cst (.int 1)))]]
abbrev zK(Γ:Tab):Prop:=∀c k:Int,0<=k->k<2 ^ 63->Γ "_law_mix" [.int c,.int k]=a8 (.ok (.loc,.int (tK c k)))
def hZ(h:ei (i<j)=c):bg .lt (.int i) (.int j)=a8 c:=by subst h;rfl
def h_(h:ei (j<i)=c):bg .gt (.int i) (.int j)=a8 c:=by subst h;rfl
def fq(h:(i==j)=c):bg .eq (.int i) (.int j)=a8 c:=by subst h;rfl
def pT:JN .len [(k,.lst xs)]=a8 (.loc,.int (xs.length:Nat)):=rfl
def jj:JN .len [(k,.tup xs)]=a8 (.loc,.int (xs.length:Nat)):=rfl
abbrev Di(ns:List Int)(k:Nat):Int:=if k<ns.length then(ns[k]?).getD 0 else 2 * tK ((ns[k % ns.length]?).getD 0) k+1
def zL(f:zK Γ){k:Nat}(hk:k<2 ^ 62):bw Γ vk [.lst (ns.map .int),.int k]=a8 (.ok (.loc,.int (Di ns k))):=by
 have b:∀c,Γ "_law_mix" [.int c,.int k]=a8 (.ok (.loc,.int (tK c k))):=λc=>f c k ⋯ ⋯;unfold Di;by_cases h:k<ns.length
 .rw[ŵ h];have a:IX (ns.map U.int) (k:Int)=a8 (.int ((ns[k]?).getD 0)):=bX (by simp[h]);apply au (st0:=[a8 (.any,.lst (ns.map .int)),a8 (.loc,.int k),cb]) rfl (.inr rfl) rfl;apply bM
  all_goals repeat' (first|show hZ (by simp[h])|show aP a|show Dg rfl|sizeOf_list_dec)
 .rw[Ÿ h];have d:bg .lt (.int k) (.int ((ns.map U.int).length:Nat))=a8 dV:=hZ (by simp;lia);by_cases hz:0<ns.length
  .have g:k % ns.length<ns.length:=VE _ hz;have a:IX (ns.map U.int) ((k:Int) % ((ns.map U.int).length:Nat))=a8 (.int ((ns[k % ns.length]?).getD 0)):=by
    rw[eH,show(k:Int) % (ns.length:Nat)=((k % ns.length:Nat):Int) by lia];show bX (by simp[g])
   have i:(0:Int)<((ns.map U.int).length:Nat):=by simp;lia
   apply au (st0:=[a8 (.any,.lst (ns.map .int)),a8 (.loc,.int k),cb]) rfl (.inr rfl) rfl;apply ay
   all_goals repeat' (first|show d|sizeOf_list_dec)
   apply dP
   all_goals repeat' (first|show h_ (by simp;lia)|show bu i|show aP a|show b _|sizeOf_list_dec)
  .have e:ns=[]:=Qt ⋯;subst e;apply au (st0:=[a8 (.any,.lst ([].map .int)),a8 (.loc,.int k),cb]) rfl (.inr rfl) rfl;apply ay
   all_goals repeat' (first|show d|sizeOf_list_dec)
   apply ay
   all_goals repeat' (first|show b _|sizeOf_list_dec)
abbrev pU:Fn:=#["_law_drawn",2,5,[.set 2 (.lst []),.set 3 (.bin .J7 (.var 0) (.cst (.int 2))),.Jz dV [4] .Je [.var 1] [.ite (.cmp .eq (.bin .mod (.var 0) (.cst (.int 2))) (.cst (.int 0))) [.app 2 (.bin .mod (.var 3) (.cst (.int 64))),.set 3 (.bin .J7 (.var 3) (.cst (.int 64)))] [.app 2 (.bin .mod (.bin .J7 (.call "_law_mix" [.var 0,.var 4]) (.cst (.int 7))) (.cst (.int 4096)))]],.ret (.var 2)]]
def mi(x:Kd×U):JX .Je [x]=sG x:=rfl
def jW(h:n<2 ^ 62):JX .Je [(k,.int (n:Nat))]=a8 ((gA n).map λi:Nat=>(Kd.loc,U.int (0+(i:Int)))):=by
 rw[mi,sG,ŵ ⋯,Tj]
abbrev eS(n:Nat)(xs:List (Kd×U)):Prop:=∃i,i<=n/\xs=((gA n).drop i).map λi:Nat=>(Kd.loc,U.int (0+(i:Int)))
def eS.cons(h:eS n (x::xs)):∃i:Nat,i<n/\x=(.loc,.int (i:Nat))/\eS n xs/\i+xs.length+1=n:=by
 have(i,b,e):=h;by_cases a:i<n
 .rw[Py (by simpa using a),mu]at e;cases e;show#[i,a,by simp,#[i+1,a,rfl],by simp;lia]
 .rw[List.drop_eq_nil_of_le (by simp;lia)]at e;cases e
def eS.all(n:Nat):eS n ((gA n).map λi:Nat=>(Kd.loc,U.int (0+(i:Int)))):=#[0,pb _,rfl]
def xb(r:zK Γ)(y:n<1000):∃a:List Int,a.length=n/\(∀d∈a,0<=d)/\bw Γ pU [.int c,.int n]=a8 (.ok (.own,.lst (a.map .int))):=by
 have hsz:(1000:Nat)<=eh:=by decide
 let I:List (Kd×U)->ar->Prop:=λxs st=>∃(a:List Int) (us:List U) (left:Int) (o:Option (Kd×U)),st=[a8 (.loc,.int c),a8 (.loc,.int n),a8 (.own,.lst us),a8 (.loc,.int left),o]/\us=a.map .int/\(∀d∈a,0<=d)/\a.length+xs.length=n/\eS n xs;have b:=rg (t:=dV) (is:=[4]) (body:=execs Γ [.ite (.cmp .eq (.bin .mod (.var 0) (.cst (.int 2))) (.cst (.int 0)))
    [.app 2 (.bin .mod (.var 3) (.cst (.int 64))),
    .set 3 (.bin .J7 (.var 3) (.cst (.int 64)))]
    [.app 2 (.bin .mod (.bin .J7 (.call "_law_mix" [(.var 0),(.var 4)]) (.cst (.int 7))) (.cst (.int 4096)))]]) (rs:=[(.loc,.int n)]) I (λ_ _ _=>trivial) (λx xs st s=>by
  have(a,us,left,o,e,f,g,hl,u):=s;subst e;have l:us.length=a.length:=by rw[f];simp
  have(i,A,rfl,m,p):=u.cons;have v:Γ "_law_mix" [.int c,.int i]=a8 (.ok (.loc,.int (tK c i))):=r c i ⋯ ⋯;rw[lg]at hl;by_cases q:c % 2=0
  .show#[[a8 (.loc,.int c),a8 (.loc,.int n),a8 (.own,.lst us),a8 (.loc,.int left),a8 (.loc,.int i)],[a8 (.loc,.int c),a8 (.loc,.int n),a8 (.own,.lst (us++[.int (left % 64)])),a8 (.loc,.int (left / 64)),a8 (.loc,.int i)],aI,?_,#[a++[left % 64],_,left / 64,_,rfl,by simp[f],?_,by simp;lia,m]]
   .apply dP
    all_goals repeat' (first|show fq (by simp[q])|show(by rw[l];lia)|sizeOf_list_dec)
   .intro d h;rcases mN.mp h with z|z
    .show g d z
    .rw[tr.mp z];lia
  .show#[[a8 (.loc,.int c),a8 (.loc,.int n),a8 (.own,.lst us),a8 (.loc,.int left),a8 (.loc,.int i)],[a8 (.loc,.int c),a8 (.loc,.int n),a8 (.own,.lst (us++[.int (tK c i / 7 % 4096)])),a8 (.loc,.int left),a8 (.loc,.int i)],aI,?_,#[a++[tK c i / 7 % 4096],_,left,_,rfl,by simp[f],?_,by simp;lia,m]]
   .apply ay
    all_goals repeat' (first|show fq (by simp[q])|show v|show(by rw[l];lia)|sizeOf_list_dec)
   .intro d h;rcases mN.mp h with z|z
    .show g d z
    .rw[tr.mp z];lia)
 have(st',w,a,us,left,o,e,f,g,hl,_):=b ((gA n).map λi:Nat=>(Kd.loc,U.int (0+(i:Int)))) [a8 (.loc,.int c),a8 (.loc,.int n),a8 (.own,.lst []),a8 (.loc,.int (c / 2)),cb] ⟨[],[],c / 2,cb,rfl,rfl,by simp,by simp,eS.all n⟩;subst e f;show#[a,by simpa using hl,g,?_];apply au (st0:=[a8 (.loc,.int c),a8 (.loc,.int n),cb,cb,cb]) rfl (.inl rfl) rfl
 repeat' sizeOf_list_dec
 have j:=jW (k:=.loc) (n:=n) ⋯;refine' hV (rs:=[(.loc,.int n)]) (st1:=[a8 (.loc,.int c),a8 (.loc,.int n),a8 (.own,.lst []),a8 (.loc,.int (c / 2)),cb]) _ trivial j rfl w _
 all_goals repeat' sizeOf_list_dec
end TM
local macro_rules
 |`(tactic| sizeOf_list_dec)=>`(tactic| first|exact TM.aw|apply TM.aA|apply TM.l_|apply TM.aS|exact TM.ah|exact TM.af rfl|exact TM.bH rfl|exact TM.aR rfl|apply TM.aE|apply TM.fF|apply TM.cD|apply TM.cv|apply TM.bx|apply TM.cN|apply TM.bo|exact TM.ai|apply TM.aa|apply TM.eR|apply TM.bI|exact TM.aJ|apply TM.av|exact TM.aD|exact TM.ra|(first|exact trivial|exact⟨⟨_,rfl,rfl⟩,trivial⟩|exact#[#[_,rfl,rfl],#[_,rfl,rfl],trivial])|exact TM.cR|exact TM.jB|exact TM.bu (by first|lia|decide)|exact TM.pS (by first|lia|decide)|exact TM.kX (by first|lia|decide)|exact TM.ox (by decide)|exact TM.aI|exact TM.br|exact TM.rb|exact TM.aU|exact TM.rf|exact TM.Dh rfl|exact pb _|exact rfl|exact TM.vj)
namespace TM
open PySem L2 IQ
def vo(a:0<=z)(h:z<2 ^ 62):JX .Je [(k,.int z)]=a8 ((gA z.toNat).map λi:Nat=>(Kd.loc,U.int (0+(i:Int)))):=by
 rw[mi,sG,ŵ ⋯]
def fJ(a:x.length<=eh)(h:IX x.cps.toList i=a8 c):jd (k,.str x) (.int i)=a8 (.loc,.str (IQ.one c)):=by
 simp only[jd];rw[ŵ a,h];rfl
def mj:small.length<=eh:=by decide
def b_{a:List Int}{i:Nat}(h:i<a.length):IX (a.map U.int) (i:Int)=a8 (.int ((a[i]?).getD 0)):=bX (by simp[h])
theorem dE:∀(ss:List Str),strsOf (ss.map U.str)=a8 ss
 |[]=>rfl
 |s::ss=>by change(strsOf (ss.map U.str)).map (s::·)=_;rw[dE ss];rfl
abbrev pV(a:E):Fn:=#["_law_name",2,6,[.set 2 (.cst (.str "abcdefghijklmnopqrstuvwxyz")),.set 3 (.Jf .join (.cst (.str "")) [.comp 1 dV .Je [.bin .add (.cst (.int 1)) (.bin .mod (.idx (.var 0) (.cst (.int 0))) (.cst (.int 8)))] [] (.idx (.var 3) (.bin .mod (.idx (.var 1) (.bin .add (.cst (.int 4)) (.var 0))) (.cst (.int 26))))]),.ite (.cmp .gt (.bi .len [.var 1]) (.cst (.int 0))) [.set 4 (.idx (.Jf .split (.idx (.var 1) (.bin .mod (.idx (.var 0) (.cst (.int 1))) (.bi .len [.var 1]))) [.cst (.str "/")]) (.cst (.int 0))),.ite (.cmp .eq (.bin .mod (.idx (.var 0) (.cst (.int 2))) (.cst (.int 4))) (.cst (.int 1))) [.set 3 (.Ja (.bin .add (.var 4) (.var 3)) [] [.cst (.int 8)])] [],.ite (.cmp .eq (.bin .mod (.idx (.var 0) (.cst (.int 2))) (.cst (.int 4))) (.cst (.int 2))) [.set 3 (.bin .add (.bin .add (.var 4) (.cst (.str "/"))) (.bi .str [.bin .add (.cst (.int 2)) (.bin .mod (.idx (.var 0) (.cst (.int 3))) a)]))] []] [],.set 5 (.bin .add (.lst [.var 3]) (.comp 1 dV .Je [.cst (.int 40)] [] (.bin .add (.idx (.var 3) (.bin .J7 (.var 0) (.cst (.int 26)))) (.idx (.var 3) (.bin .mod (.var 0) (.cst (.int 26))))))),.ret (.idx (.comp 1 dV .seq [.var 5] [.cmp .IL (.var 0) (.var 2)] (.var 0)) (.cst (.int 0)))]]
abbrev Cn(b:E):Prop:=∀(Γ:Tab) (a:List Int),12<=a.length->(∀d∈a,0<=d)->∃m:Int,0<m/\m<=98/\∀o1 o2 o3 o4 o5,Run (ev Γ b) [a8 (.any,.lst (a.map .int)),o1,o2,o3,o4,o5] (.loc,.int m) [a8 (.any,.lst (a.map .int)),o1,o2,o3,o4,o5]
@[reducible]noncomputable def Hq:E:=.cst (.int 98)
def Co:Cn Hq:=λ_ _ _ _=>#[98,by decide,by decide,λ_ _ _ _ _=>ah]
section
variable{Γ:Tab}{ds:List Int}
abbrev dd(ds:List Int)(i:Nat):Int:=(ds[i]?).getD 0
def eT(a:∀d∈ds,0<=d)(i:Nat):0<=dd ds i:=by
 unfold dd;cases e:ds[i]? with
 |none=>simp
 |some d=>show a d (LR e)
def pW(q:12<=ds.length)(g:∀d∈ds,0<=d):∃b:List Nat,(∀c∈b,low c=c4)/\1<=b.length/\b.length<=8 /\
  Run (ev Γ (.comp 1 dV .Je [.bin .add (.cst (.int 1)) (.bin .mod (.idx (.var 0) (.cst (.int 0))) (.cst (.int 8)))] [] (.idx (.var 3) (.bin .mod (.idx (.var 1) (.bin .add (.cst (.int 4)) (.var 0))) (.cst (.int 26))))))
   [a8 (.any,.lst (ds.map .int)),o1,a8 (.loc,.str small),o3,o4,o5] (.own,.lst ((b.map IQ.one).map .str)) [a8 (.any,.lst (ds.map .int)),o1,a8 (.loc,.str small),o3,o4,o5]:=by
 have hz:=eT g 0;let n:=(1+dd ds 0 % 8).toNat;have h:n<=8/\1<=n:=by change(1+dd ds 0 % 8).toNat<=8/\1<=(1+dd ds 0 % 8).toNat;lia
 let f:Nat->Nat:=λi=>97+(dd ds (4+i) % 26).toNat;show#[(gA n).map f,?_,by simp;show h.2,by simp;show h.1,?_]
 .intro c m;have(i,_,rfl):=oa.mp m;have:=eT g (4+i);show tD ⋯
 .have a:Run (bR 1 dV (a_ Γ []) (ev Γ (.idx (.var 3) (.bin .mod (.idx (.var 1) (.bin .add (.cst (.int 4)) (.var 0))) (.cst (.int 26))))) [(.loc,.int (1+dd ds 0 % 8))] ((gA n).map λi:Nat=>(Kd.loc,U.int (0+(i:Int)))) [])
    [a8 (.any,.lst (ds.map .int)),o1,a8 (.loc,.str small),o3,o4,o5] ([]++((gA n).map λi:Nat=>(Kd.loc,U.int (0+(i:Int)))).map λx=>match x.2 with|.int j=>.str (IQ.one (97+(dd ds (4+j.toNat) % 26).toNat))|u=>u) [a8 (.any,.lst (ds.map .int)),o1,a8 (.loc,.str small),o3,o4,o5]:=by
   have r:(8:Nat)<=eh:=by decide
   show zJ (by show trivial) _ (λ_=>.loc) _ _ (by simp;lia) (λx a=>?_) (λx a=>?_)
   .have(i,_,rfl):=oa.mp a;show .inl rfl
   .have(i,o,rfl):=oa.mp a;have s:i<n:=by simpa using o
    have l:IX (ds.map U.int) (4+(0+(i:Int)))=a8 (.int (dd ds (4+i))):=by
     rw[show(4+(0+(i:Int)))=((4+i:Nat):Int) by lia];show b_ ⋯
    have t:=eT g (4+i);have hs:=l6 (k:=dd ds (4+i) % 26) ⋯ ⋯;show#[fZ,?_,aD];simp only[YZ,Tj];rw[YZ]at l
    repeat' (first|show aP l|show fJ mj hs|sizeOf_list_dec)
  have e:((gA n).map f).map IQ.one=(gA n).map λi=>IQ.one (97+(dd ds (4+i) % 26).toNat):=by rw[uv];rfl
  rw[e];have p:([]++((gA n).map λi:Nat=>(Kd.loc,U.int (0+(i:Int)))).map λx=>match x.2 with|.int j=>U.str (IQ.one (97+(dd ds (4+j.toNat) % 26).toNat))|u=>u)=((gA n).map λi=>IQ.one (97+(dd ds (4+i) % 26).toNat)).map U.str:=by
   rw[HH,uv,uv];apply R';intro i _;simp
  rw[p]at a;show dA (rs:=[(.loc,.int (1+dd ds 0 % 8))]) ?_ trivial (vo ⋯ ⋯) a
  repeat' (first|show aP (b_ (i:=0) ⋯)|sizeOf_list_dec)
def cV(h:x.length+y.length<=eh):Kh .add (k,.str x) (k',.str y)=a8 (.loc,.str (x++y)):=by
 simp only[Kh,wu];rw[ŵ h]
theorem dh:∀(ss:List Str) (n:Nat),iA n (ss.map U.str)=c4
 |[],n=>by simp[iA]
 |s::ss,n=>by simp only[mu,iA,dh ss n,Ri];cases n<;>rfl
theorem rh(x:Str):∀(ss:List Str),((ss.map U.str).any λy=>cn y (.str x))=ei (x∈ss)
 |[]=>by simp
 |s::ss=>by
  rw[mu,Yz,rh x ss];have:cn (.str s) (.str x)=ei (x=s):=by
   simp only[cn];by_cases h:x=s
   .subst h;simp
   .have h':s≠x:=λz=>h z.symm;simp[h,h']
  rw[this,uk];simp
def Cp(x:Str)(ss:List Str):MS (.str x) (ss.map U.str)=a8 (ei (x∈ss)):=by
 unfold MS;rw[ŵ #[by rfl,dh ss 50],rh]
def mq{x:Str}{ss:List Str}:bg .IL (.str x) (.lst (ss.map U.str))=a8 (ei (x∉ss)):=by
 change(MS (.str x) (ss.map U.str)).map (!·)=_;rw[Cp];simp
def rj:Run (ev Γ (.comp 1 dV .Je [.cst (.int 40)] [] (.bin .add (.idx (.var 3) (.bin .J7 (.var 0) (.cst (.int 26)))) (.idx (.var 3) (.bin .mod (.var 0) (.cst (.int 26)))))))
   [o0,o1,a8 (.loc,.str small),o3,o4,o5] (.own,.lst (bU.map .str)) [o0,o1,a8 (.loc,.str small),o3,o4,o5]:=by
 have g:(100:Nat)<=eh:=by decide
 have a:Run (bR 1 dV (a_ Γ []) (ev Γ (.bin .add (.idx (.var 3) (.bin .J7 (.var 0) (.cst (.int 26)))) (.idx (.var 3) (.bin .mod (.var 0) (.cst (.int 26)))))) [(.loc,.int 40)] ((gA 40).map λi:Nat=>(Kd.loc,U.int (0+(i:Int)))) [])
   [o0,o1,a8 (.loc,.str small),o3,o4,o5] ([]++((gA 40).map λi:Nat=>(Kd.loc,U.int (0+(i:Int)))).map λx=>match x.2 with|.int j=>.str (nX j.toNat)|u=>u) [o0,o1,a8 (.loc,.str small),o3,o4,o5]:=by
  show zJ (by show trivial) _ (λ_=>.loc) _ _ (by simp;lia) (λx a=>?_) (λx a=>?_)
  .have(i,_,rfl):=oa.mp a;show .inl rfl
  .have(i,e,rfl):=oa.mp a;have h:i<40:=by simpa using e
   show#[fZ,?_,aD];simp only[YZ,Tj];have c:=l6 (k:=(i:Int) / 26) ⋯ ⋯;have d:=l6 (k:=(i:Int) % 26) ⋯ ⋯;have f:((i:Int) / 26).toNat=i / 26:=by lia
   have b:((i:Int) % 26).toNat=i % 26:=by lia
   rw[f]at c;rw[b]at d;have ad:Kh .add (.loc,.str (IQ.one (97+i / 26))) (.loc,.str (IQ.one (97+i % 26)))=a8 (.loc,.str (nX i)):=by
    have:=cV (k:=.loc) (k':=.loc) (x:=IQ.one (97+i / 26)) (y:=IQ.one (97+i % 26)) (by change 1+1<=eh;lia);rw[this];rfl
   repeat' (first|show fJ mj c|show fJ mj d|show ad|sizeOf_list_dec)
 have b:([]++((gA 40).map λi:Nat=>(Kd.loc,U.int (0+(i:Int)))).map λx=>match x.2 with|.int j=>U.str (nX j.toNat)|u=>u)=bU.map U.str:=by
  rw[HH,uv,bU,uv];apply R';intro i _;simp
 rw[b]at a;show dA (rs:=[(.loc,.int 40)]) (by repeat' sizeOf_list_dec) trivial (vo ⋯ ⋯) a
def xf{names ts:List Str}(hl:ts.length<=1000):Run (ev Γ (.comp 1 dV .seq [.var 5] [.cmp .IL (.var 0) (.var 2)] (.var 0)))
   [o0,a8 (.any,.lst (names.map .str)),o2,o3,o4,a8 (.own,.lst (ts.map .str))] (.own,.lst ((ts.filter λx=>ei (x∉names)).map .str)) [o0,a8 (.any,.lst (names.map .str)),o2,o3,o4,a8 (.own,.lst (ts.map .str))]:=by
 have c:(1000:Nat)<=eh:=by decide
 have a:=mf (cond:=a_ Γ [.cmp .IL (.var 0) (.var 2)]) (elt:=ev Γ (.var 0)) (src:=[(.bor 5,.lst (ts.map .str))]) (st:=[o0,a8 (.any,.lst (names.map .str)),o2,o3,o4,a8 (.own,.lst (ts.map .str))]) #[#[.own,rfl,rfl],trivial]
  (λx=>match x.2 with|.str y=>ei (y∉names)|_=>dV) (λx=>x.2) (λ_=>.loc) ((ts.map U.str).map λu=>(kE (.bor 5),u)) [] (by simp;lia) (λx a=>by have(u,_,rfl):=oa.mp a;show .inl rfl) (λx a=>by
   have(u,b,rfl):=oa.mp a;have(y,_,rfl):=oa.mp b;show#[pQ ?_,af rfl,aD]
   repeat' (first|show mq|sizeOf_list_dec))
 have e:([]++(((ts.map U.str).map λu=>(kE (.bor 5),u)).filter λx=>match x.2 with|.str y=>ei (y∉names)|_=>dV).map λx=>x.2)=(ts.filter λx=>ei (x∉names)).map U.str:=by
  rw[HH,ġ,ġ,uv,uv];rfl
 rw[e]at a;show dA (rs:=[(.bor 5,.lst (ts.map .str))]) (by repeat' sizeOf_list_dec) #[#[.own,rfl,rfl],trivial] rfl a
end
section
variable{Γ:Tab}{ds:List Int}
def xg{names:List Str}(c:names.length<40)(d:bZ a.cps.toList):∃x st',bZ x.cps.toList/\x∉names /\
  Run (execs Γ [.set 5 (.bin .add (.lst [.var 3]) (.comp 1 dV .Je [.cst (.int 40)] [] (.bin .add (.idx (.var 3) (.bin .J7 (.var 0) (.cst (.int 26)))) (.idx (.var 3) (.bin .mod (.var 0) (.cst (.int 26))))))),
  .ret (.idx (.comp 1 dV .seq [(.var 5)] [(.cmp .IL (.var 0) (.var 2))] (.var 0)) (.cst (.int 0)))]) [o0,a8 (.any,.lst (names.map .str)),a8 (.loc,.str small),a8 (.loc,.str a),o4,cb] (.rt .loc (.str x)) st':=by
 have n:(1000:Nat)<=eh:=by decide
 have(y,f,g):=tF names c;have i:(a::bU).filter (λx=>ei (x∉names))≠[]:=λz=>by
  have:y∈(a::bU).filter (λx=>ei (x∉names)):=Su.mpr #[et _ f,by simpa using g];rw[z]at this;cases this
 cases e:(a::bU).filter (λx=>ei (x∉names)) with
 |nil=>show absurd e i
 |cons x rest =>
  have j:x∈(a::bU).filter (λx=>ei (x∉names)):=by rw[e];simp
  have(l,m):=Su.mp j;have b:=xf (Γ:=Γ) (names:=names) (ts:=a::bU) (by simp[bU]) (o0:=o0) (o2:=a8 (.loc,.str small)) (o3:=a8 (.loc,.str a)) (o4:=o4);rw[e]at b;have ad:Kh .add (.own,.lst [.str a]) (.own,.lst (bU.map U.str))=a8 (.own,.lst ((a::bU).map U.str)):=by
   simp only[Kh,wu];rw[ŵ #[by simp[bU];lia,rfl,rfl]];rfl
  show#[x,[o0,a8 (.any,.lst (names.map .str)),a8 (.loc,.str small),a8 (.loc,.str a),o4,a8 (.own,.lst ((a::bU).map .str))],?_,by simpa using m,?_]
  .rcases fz.mp l with rfl|h
   .show d
   .have(k,hk,rfl):=oa.mp h;show .inl (tE (by simpa using hk))
  .show aA (st2:=[o0,a8 (.any,.lst (names.map .str)),a8 (.loc,.str small),a8 (.loc,.str a),o4,a8 (.own,.lst ((a::bU).map .str))]) (aE (x:=(.own,.lst [.str a])) (bI (aa (af rfl) ai) (by(first|show trivial|show⟨⟨_,rfl,rfl⟩,trivial⟩|show#[#[_,rfl,rfl],#[_,rfl,rfl],trivial])) (av aD aJ) (by change 1<=eh;lia)) rj trivial ad) br ?_;show aS (cD b ah trivial (aP (by change IX _ ((0:Nat):Int)=_;show bX rfl))) aU
def zM(O:Cn l)(C:12<=ds.length)(j:∀d∈ds,0<=d){names:List Str}(Q:names.length<40)(T:∀x∈names,bZ x.cps.toList):
  ∃x,bZ x.cps.toList/\x∉names/\bw Γ (pV l) [.lst (ds.map .int),.lst (names.map .str)]=a8 (.ok (.loc,.str x)):=by
 have(m,D,Yq,Y):=O Γ ds C j;have h8:(1000:Nat)<=eh:=by decide
 have(b,G,Np,H,Qp):=pW (Γ:=Γ) C j (o1:=a8 (.any,.lst (names.map .str))) (o3:=cb) (o4:=cb) (o5:=cb);have Qq:ff .join (.str "") [(.own,.lst ((b.map IQ.one).map U.str))]=a8 (.loc,.str (H0 N0 (b.map IQ.one))):=by
  change(strsOf ((b.map IQ.one).map U.str)).bind _=_;rw[dE];change(if W4 N0 (b.map IQ.one)=c4 then _ else _)=_;rw[ŵ (q9 b ⋯)];rfl
 let a:Str:=H0 N0 (b.map IQ.one);have n:a.cps.toList=b:=join_ones b;have I:cm a.cps.toList=c4:=by rw[n];show kq G Np H
 have Vr:a.length<=8:=by rw[len_list,n];show H
 have e:∀{f:Fl} {st':ar} (ss:List S),Run (execs Γ ss) [a8 (.any,.lst (ds.map .int)),a8 (.any,.lst (names.map .str)),a8 (.loc,.str small),a8 (.loc,.str a),cb,cb] f st' ->
   Run (execs Γ (.set 2 (.cst (.str "abcdefghijklmnopqrstuvwxyz"))::.set 3 (.Jf .join (.cst (.str "")) [.comp 1 dV .Je [.bin .add (.cst (.int 1)) (.bin .mod (.idx (.var 0) (.cst (.int 0))) (.cst (.int 8)))] [] (.idx (.var 3) (.bin .mod (.idx (.var 1) (.bin .add (.cst (.int 4)) (.var 0))) (.cst (.int 26))))])::ss))
    [a8 (.any,.lst (ds.map .int)),a8 (.any,.lst (names.map .str)),cb,cb,cb,cb] f st':=λss h=>aA (r:=(.loc,.str small)) ah aI (aA (cN ah (aa Qp ai) (by(first|show trivial|show⟨⟨_,rfl,rfl⟩,trivial⟩|show#[#[_,rfl,rfl],#[_,rfl,rfl],trivial])) Qq) aI h)
 have k:∀(g:Str) (o4:Option (Kd×U)),bZ g.cps.toList->∃x st',bZ x.cps.toList/\x∉names/\Run (execs Γ [.set 5 (.bin .add (.lst [.var 3]) (.comp 1 dV .Je [.cst (.int 40)] [] (.bin .add (.idx (.var 3) (.bin .J7 (.var 0) (.cst (.int 26)))) (.idx (.var 3) (.bin .mod (.var 0) (.cst (.int 26))))))),
  .ret (.idx (.comp 1 dV .seq [(.var 5)] [(.cmp .IL (.var 0) (.var 2))] (.var 0)) (.cst (.int 0)))]) [a8 (.any,.lst (ds.map .int)),a8 (.any,.lst (names.map .str)),a8 (.loc,.str small),a8 (.loc,.str g),o4,cb] (.rt .loc (.str x)) st':=λg o4 o=>xg Q o
 by_cases hz:0<names.length
 .
  have p:(dd ds 1).toNat % names.length<names.length:=VE _ hz;let nm:=names[(dd ds 1).toNat % names.length]'p;have J:bZ nm.cps.toList:=T _ (RT p);have(y,r,Jg,q):=J.Iv;have Nj:y.length<=8:=by rw[len_list];show((bC _).mp q).2.1
  have Yr:nm.length<=11:=by rw[len_list];show J.len.2
  have XG:=eT j 1;have K0:IX (names.map U.str) (dd ds 1 % ((names.map U.str).length:Nat))=a8 (.str nm):=by
   rw[eH,show dd ds 1 % (names.length:Nat)=(((dd ds 1).toNat % names.length:Nat):Int) by rw[Int.natCast_emod,UU XG]];show bX (by simp[p];rfl)
  have K6:ff .split (.str nm) [(.loc,.str "/")]=a8 (.own,.lst ((y::r).map U.str)):=by
   change(if (T6 "/"==0)=dV/\nm.length+2<=eh then a8 (Kd.own,U.lst ((tA nm "/").map .str)) else cb)=_;rw[ŵ #[by decide,⋯],show("/":Str)=CU from rfl,Jg]
  have hp:(0:Int)<((names.map U.str).length:Nat):=by simp;lia
  have XH:jd (.own,.lst ((y::r).map U.str)) (.int 0)=a8 (.loc,.str y):=aP (by change IX _ ((0:Nat):Int)=_;show bX rfl);have ab:=eT j 2;have Ys:=eT j 3;have i1:IX (ds.map U.int) 1=a8 (.int (dd ds 1)):=b_ (i:=1) ⋯;have L:IX (ds.map U.int) 2=a8 (.int (dd ds 2)):=b_ (i:=2) ⋯;have i3:IX (ds.map U.int) 3=a8 (.int (dd ds 3)):=b_ (i:=3) ⋯;have go:∀g:Str,bZ g.cps.toList->Run (execs Γ [.ite (.cmp .eq (.bin .mod (.idx (.var 0) (.cst (.int 2))) (.cst (.int 4))) (.cst (.int 1)))
    [.set 3 (.Ja (.bin .add (.var 4) (.var 3)) [] [.cst (.int 8)])]
    [],
   .ite (.cmp .eq (.bin .mod (.idx (.var 0) (.cst (.int 2))) (.cst (.int 4))) (.cst (.int 2)))
    [.set 3 (.bin .add (.bin .add (.var 4) (.cst (.str "/"))) (.bi .str [.bin .add (.cst (.int 2)) (.bin .mod (.idx (.var 0) (.cst (.int 3))) l)]))]
    []]) [a8 (.any,.lst (ds.map .int)),a8 (.any,.lst (names.map .str)),a8 (.loc,.str small),a8 (.loc,.str a),a8 (.loc,.str y),cb] .nx [a8 (.any,.lst (ds.map .int)),a8 (.any,.lst (names.map .str)),a8 (.loc,.str small),a8 (.loc,.str g),a8 (.loc,.str y),cb] ->
    ∃x,bZ x.cps.toList/\x∉names/\bw Γ (pV l) [.lst (ds.map .int),.lst (names.map .str)]=a8 (.ok (.loc,.str x)):=λg o hr=>by
   have(x,st',s,t,u):=k g (a8 (.loc,.str y)) o;show#[x,s,t,au (st0:=[a8 (.any,.lst (ds.map .int)),a8 (.any,.lst (names.map .str)),cb,cb,cb,cb]) rfl (.inr rfl) rfl (e _ (dP (st1:=[a8 (.any,.lst (ds.map .int)),a8 (.any,.lst (names.map .str)),a8 (.loc,.str small),a8 (.loc,.str a),cb,cb]) ?_ (aA (r:=(.loc,.str y)) (st1:=[a8 (.any,.lst (ds.map .int)),a8 (.any,.lst (names.map .str)),a8 (.loc,.str small),a8 (.loc,.str a),cb,cb]) ?_ aI hr) u))]
   .repeat' (first|show h_ (by simp;lia)|sizeOf_list_dec)
   .repeat' (first|show bu hp|show aP K0|show aP i1|show K6|show XH|sizeOf_list_dec)
  have v:∀{c:Bool} {o3 o4:Option (Kd×U)},(dd ds 2 % 4==1)=c->Run (IS Γ (.cmp .eq (.bin .mod (.idx (.var 0) (.cst (.int 2))) (.cst (.int 4))) (.cst (.int 1)))) [a8 (.any,.lst (ds.map .int)),a8 (.any,.lst (names.map .str)),a8 (.loc,.str small),o3,o4,cb] c [a8 (.any,.lst (ds.map .int)),a8 (.any,.lst (names.map .str)),a8 (.loc,.str small),o3,o4,cb]:=λw=>by
   repeat' (first|show aP L|show fq w|sizeOf_list_dec)
  have z:∀{c:Bool} {o3 o4:Option (Kd×U)},(dd ds 2 % 4==2)=c->Run (IS Γ (.cmp .eq (.bin .mod (.idx (.var 0) (.cst (.int 2))) (.cst (.int 4))) (.cst (.int 2)))) [a8 (.any,.lst (ds.map .int)),a8 (.any,.lst (names.map .str)),a8 (.loc,.str small),o3,o4,cb] c [a8 (.any,.lst (ds.map .int)),a8 (.any,.lst (names.map .str)),a8 (.loc,.str small),o3,o4,cb]:=λw=>by
   repeat' (first|show aP L|show fq w|sizeOf_list_dec)
  by_cases A:dd ds 2 % 4=1
  .have Qr:y.length+a.length<=eh:=by lia
   have LD:je (.loc,.str (y++a)) cb (a8 8)=a8 (.loc,.str (PySem.StrLaws.sliceText (y++a) cb (a8 8))):=by
    simp only[je];rw[ŵ (by rw[len_list];change(y.cps++a.cps).toList.length<=_;rw[X',ko,<-len_list,<-len_list];lia)]
   show go (PySem.StrLaws.sliceText (y++a) cb (a8 8)) (.inl ?_) ?_
   .have:=Fi (y++a) 8;rw[show((8:Nat):Int)=8 from rfl]at this;rw[this];change cm ((y.cps++a.cps).toList.take 8)=c4;rw[X'];show wZ q (by rw[n];show G)
   .show dP (v (by simp[A])) (aA (dC (aE (af rfl) (af rfl) trivial (cV Qr)) dO (dw ah) trivial LD) aI aw) (ay (z (by simp[A])) aw aw)
  .by_cases B:dd ds 2 % 4=2
   .have SY:=Rh (dd ds 3) (show m≠0 by lia);have OW:=QF (dd ds 3) D;have QO:0<=2+dd ds 3 % m:=by lia
    have N:2+dd ds 3 % m<=99:=by lia
    have XI:=gE QO N;have N8:JN .str [(.loc,.int (2+dd ds 3 % m))]=a8 (.loc,.str (de (2+dd ds 3 % m))):=by
     simp only[JN,gT,yC];rw[ŵ (by
      have:(2+dd ds 3 % m).natAbs<2 ^ 7:=by lia
      have h2:(2+dd ds 3 % m).natAbs≠0:=by lia
      have:=(Ş h2).mpr this;lia)]
     rfl
    have TY:(y++("/":Str)).length=y.length+1:=by rw[len_list,len_list];change(y.cps++_).toList.length=_;rw[X',ko];rfl
    have TZ:Run (ev Γ (.bin .add (.cst (.int 2)) (.bin .mod (.idx (.var 0) (.cst (.int 3))) l))) [a8 (.any,.lst (ds.map .int)),a8 (.any,.lst (names.map .str)),a8 (.loc,.str small),a8 (.loc,.str a),a8 (.loc,.str y),cb] (.loc,.int (2+dd ds 3 % m)) [a8 (.any,.lst (ds.map .int)),a8 (.any,.lst (names.map .str)),a8 (.loc,.str small),a8 (.loc,.str a),a8 (.loc,.str y),cb]:=aE ah (aE (cD (bH rfl) ah trivial (aP i3)) (Y _ _ _ _ _) trivial (bu D)) trivial cR;show go (y++"/"++de (2+dd ds 3 % m)) (.inr #[y.cps.toList,(de (2+dd ds 3 % m)).cps.toList,2+dd ds 3 % m,?_,q,⋯,N,rfl]) ?_
    .change((y.cps++#v[47])++(de _).cps).toList=_;simp
    .show ay (v (by simp[B])) aw (dP (z (by simp[B])) (aA (aE (aE (af rfl) ah trivial (cV (by change y.length+1<=eh;lia))) (cv (aa TZ ai) trivial N8) trivial (cV (by rw[TY];lia))) aI aw) aw)
   .show go a (.inl I) ?_;show ay (v (by simp[A])) aw (ay (z (by simp[B])) aw aw)
 .have(x,st',s,t,u):=k a cb (.inl I);show#[x,s,t,au (st0:=[a8 (.any,.lst (ds.map .int)),a8 (.any,.lst (names.map .str)),cb,cb,cb,cb]) rfl (.inr rfl) rfl (e _ (ay (st1:=[a8 (.any,.lst (ds.map .int)),a8 (.any,.lst (names.map .str)),a8 (.loc,.str small),a8 (.loc,.str a),cb,cb]) ?_ aw u))]
  repeat' (first|show h_ (Ŷ (by simp only[eH];lia))|sizeOf_list_dec)
end
abbrev jX(Γ:Tab):Prop:=∀(ns:List Int) (k:Nat),k<2 ^ 62->∃z,Γ "_law_cell" [.lst (ns.map .int),.int (k:Nat)]=a8 (.ok (.loc,.int z))
abbrev gF(Γ:Tab):Prop:=∀(c:Int) (n:Nat),n<1000->∃a:List Int,a.length=n/\(∀d∈a,0<=d)/\Γ "_law_drawn" [.int c,.int (n:Nat)]=a8 (.ok (.own,.lst (a.map .int)))
abbrev zN(Γ:Tab):Prop:=∀(a:List Int) (names:List Str),12<=a.length->(∀d∈a,0<=d)->names.length<40->(∀x∈names,bZ x.cps.toList)->∃x,bZ x.cps.toList/\x∉names/\Γ "_law_name" [.lst (a.map .int),.lst (names.map .str)]=a8 (.ok (.loc,.str x))
abbrev fNames:Fn:=#["_law_names",3,5,[.set 3 (.lst []),.Jz dV [4] .Je [.var 2] [.app 3 (.call "_law_name" [.call "_law_drawn" [.call "_law_cell" [.var 0,.bin .add (.var 1) (.var 4)],.cst (.int 12)],.var 3])],.ret (.var 3)]]
theorem xh(hc:jX Γ)(hd:gF Γ)(hn:zN Γ){ns:List Int}(hb:b<1000)(hm:m<40):
    ∃names:List Str,names.length=m/\names.Nodup/\(∀x∈names,bZ x.cps.toList)/\bw Γ fNames [.lst (ns.map .int),.int (b:Nat),.int (m:Nat)]=a8 (.ok (.own,.lst (names.map .str))):=by
  have hsz:(1000:Nat)<=eh:=by decide
  let I:List (Kd×U)->ar->Prop:=λxs st=>∃(names:List Str) (us:List U) (o:Option (Kd×U)),st=[a8 (.any,.lst (ns.map .int)),a8 (.loc,.int (b:Nat)),a8 (.loc,.int (m:Nat)),a8 (.own,.lst us),o]/\us=names.map .str/\names.Nodup/\(∀x∈names,bZ x.cps.toList)/\names.length+xs.length=m/\eS m xs;have loop:=rg (t:=dV) (is:=[4]) (body:=execs Γ [.app 3 (.call "_law_name" [.call "_law_drawn" [.call "_law_cell" [.var 0,.bin .add (.var 1) (.var 4)],.cst (.int 12)],.var 3])]) (rs:=[(.loc,.int (m:Nat))]) I (λ_ _ _=>trivial) (λx xs st Jq=>by
    obtain⟨names,us,o,e,e2,IZ,hw,hl,hr⟩:=Jq;subst e;obtain⟨i,hi,rfl,Mz,hlen⟩:=hr.cons;rw[lg]at hl;obtain⟨z,hz⟩:=hc ns (b+i) ⋯;rw[SD]at hz;obtain⟨ds,d1,d2,d3⟩:=hd z 12 ⋯;obtain⟨x,x1,x2,x3⟩:=hn ds names ⋯ d2 ⋯ hw;rw[<-e2]at x3;refine⟨[a8 (.any,.lst (ns.map .int)),a8 (.loc,.int (b:Nat)),a8 (.loc,.int (m:Nat)),a8 (.own,.lst us),a8 (.loc,.int (i:Nat))],[a8 (.any,.lst (ns.map .int)),a8 (.loc,.int (b:Nat)),a8 (.loc,.int (m:Nat)),a8 (.own,.lst (us++[.str x])),a8 (.loc,.int (i:Nat))],aI,?_,⟨names++[x],_,_,rfl,by simp[e2],?_,?_,by simp;lia,Mz⟩⟩
    · repeat' (first|exact hz|exact d3|exact x3|exact(by rw[e2,eH];lia)|sizeOf_list_dec)
    · rw[LF]
      exact ⟨IZ, by simp, fun y hy w Oc => by have : w = x := by simpa using Oc
                                              subst this;rintro rfl;exact x2 hy⟩
    · intro y hy
      rcases mN.mp hy with h|h
      · exact hw y h
      · rw[tr.mp h];exact x1)
  obtain⟨st',Jn,names,us,o,e,e2,IZ,hw,hl,_⟩:=loop ((gA m).map λi:Nat=>(Kd.loc,U.int (0+(i:Int)))) [a8 (.any,.lst (ns.map .int)),a8 (.loc,.int (b:Nat)),a8 (.loc,.int (m:Nat)),a8 (.own,.lst []),cb] ⟨[],[],cb,rfl,rfl,by simp,by simp,by simp,eS.all m⟩;subst e e2;refine⟨names,by simpa using hl,IZ,hw,?_⟩;apply au (st0:=[a8 (.any,.lst (ns.map .int)),a8 (.loc,.int (b:Nat)),a8 (.loc,.int (m:Nat)),cb,cb]) rfl (.inl rfl) rfl
  repeat' sizeOf_list_dec
  have hit:=jW (k:=.loc) (n:=m) ⋯;refine' hV (rs:=[(.loc,.int (m:Nat))]) (st1:=[a8 (.any,.lst (ns.map .int)),a8 (.loc,.int (b:Nat)),a8 (.loc,.int (m:Nat)),a8 (.own,.lst []),cb]) _ trivial hit rfl Jn _
  all_goals repeat' sizeOf_list_dec
abbrev kr:Fn:=#["_law_told",2,6,[.set 2 (.bi .len [.var 1]),.ite (.and [.cmp .gt (.bin .mod (.idx (.var 0) (.cst (.int 2))) (.cst (.int 3))) (.cst (.int 0)),.cmp .gt (.bin .mod (.idx (.var 0) (.cst (.int 0))) (.bi .len [.var 1])) (.cst (.int 0))]) [.set 2 (.bin .mod (.idx (.var 0) (.cst (.int 0))) (.bi .len [.var 1]))] [],.set 3 (.lst []),.Jz dV [4] .Je [.idx (.lst [.cst (.int 0),.cst (.int 0),.cst (.int 1),.cst (.int 1),.cst (.int 1),.cst (.int 2),.cst (.int 2),.cst (.int 2),.cst (.int 3),.cst (.int 8)]) (.bin .mod (.idx (.var 0) (.cst (.int 1))) (.cst (.int 10)))] [.set 5 (.idx (.var 1) (.bin .mod (.idx (.var 0) (.bin .add (.cst (.int 3)) (.var 4))) (.var 2))),.ite (.cmp .IL (.var 5) (.var 3)) [.app 3 (.var 5)] []],.ret (.bi .tuple [.var 3])]]
theorem Iw:∀j:Nat,j<10->∃q:Nat,q<=8/\IX [U.int 0,.int 0,.int 1,.int 1,.int 1,.int 2,.int 2,.int 2,.int 3,.int 8] (j:Int)=a8 (.int (q:Nat))
 |0,_=>⟨0,⋯,rfl⟩|1,_=>⟨0,⋯,rfl⟩|2,_=>⟨1,⋯,rfl⟩|3,_=>⟨1,⋯,rfl⟩|4,_=>#[1,⋯,rfl]
 |5,_=>⟨2,⋯,rfl⟩|6,_=>⟨2,⋯,rfl⟩|7,_=>⟨2,⋯,rfl⟩|8,_=>⟨3,⋯,rfl⟩|9,_=>#[8,⋯,rfl]
 |n+10,h=>absurd h ⋯
def Fp(hz:0<=z)(b:0<t)(hl:t<=xs.length):∃x∈xs,IX xs (z % t)=a8 x:=by
 have c:=Rh z (by lia:t≠0);have e:=QF z b;have(j,d):=Wh c;have a:j<xs.length:=by lia
 show#[xs[j]'a,RT a,?_];rw[d];show bX (by simp[a])
def vp{xs:List Str}{z t:Int}(hz:0<=z)(a:0<t)(hl:t<=xs.length):∃x∈xs,IX (xs.map U.str) (z % t)=a8 (.str x):=by
 have(u,b,e):=Fp (xs:=xs.map U.str) hz a (by simpa using hl);have(x,c,rfl):=oa.mp b;show#[x,c,e]
theorem zO{Γ:Tab}{ds:List Int}{names:List Str}(hd:11<=ds.length)(h0:∀d∈ds,0<=d)(hn:0<names.length):
    ∃told:List Str,told.length<=8/\told.Nodup/\(∀x∈told,x∈names)/\bw Γ kr [.lst (ds.map .int),.lst (names.map .str)]=a8 (.ok (.loc,.tup (told.map .str))):=by
  have hsz:(1000:Nat)<=eh:=by decide
  have i0:IX (ds.map U.int) 0=a8 (.int (dd ds 0)):=b_ (i:=0) ⋯;have i1:IX (ds.map U.int) 1=a8 (.int (dd ds 1)):=b_ (i:=1) ⋯;have i2:IX (ds.map U.int) 2=a8 (.int (dd ds 2)):=b_ (i:=2) ⋯;have n0:=eT h0 0;have n1:=eT h0 1;have n2:=eT h0 2;have hp:(0:Int)<((names.map U.str).length:Nat):=by simp;lia
  have hL:((names.map U.str).length:Int)=names.length:=by simp
  have NF:=QF (dd ds 0) hp;have SY:=Rh (dd ds 0) (by lia:((names.map U.str).length:Int)≠0);let B:=λ(t:Int) (us:List U) (o4 o5:Option (Kd×U))=>([a8 (.any,.lst (ds.map .int)),a8 (.any,.lst (names.map .str)),a8 (.loc,.int t),a8 (.own,.lst us),o4,o5]:ar)
  have hj:(dd ds 1 % 10).toNat<10:=by lia
  obtain⟨q,hq,K0⟩:=Iw _ hj;rw[UU ⋯]at K0;have main:∀t:Int,0<t->t<=names.length->∃told:List Str,told.length<=8/\told.Nodup/\(∀x∈told,x∈names)/\∃st',Run (execs Γ (kr.body.drop 2)) [a8 (.any,.lst (ds.map .int)),a8 (.any,.lst (names.map .str)),a8 (.loc,.int t),cb,cb,cb] (.rt .loc (.tup (told.map .str))) st':=λt ht MA=>by
    let I:List (Kd×U)->ar->Prop:=λxs st=>∃(told:List Str) (us:List U) (o4 o5:Option (Kd×U)),st=B t us o4 o5/\us=told.map .str/\told.Nodup/\(∀x∈told,x∈names)/\told.length+xs.length<=q/\eS q xs;have loop:=rg (t:=dV) (is:=[4]) (body:=execs Γ [.set 5 (.idx (.var 1) (.bin .mod (.idx (.var 0) (.bin .add (.cst (.int 3)) (.var 4))) (.var 2))),
      .ite (.cmp .IL (.var 5) (.var 3))
        [.app 3 (.var 5)]
        []]) (rs:=[(.loc,.int (q:Nat))]) I (λ_ _ _=>trivial) (λx xs st Jq=>by
      obtain⟨told,us,o4,o5,e,e2,IZ,hw,hl,hr⟩:=Jq;subst e;obtain⟨i,hi,rfl,Mz,hlen⟩:=hr.cons;rw[lg]at hl;have ik:IX (ds.map U.int) (3+(i:Int))=a8 (.int (dd ds (3+i))):=by
        rw[show(3+(i:Int))=((3+i:Nat):Int) by lia];exact b_ ⋯
      obtain⟨x,hx,Rb⟩:=vp (xs:=names) (eT h0 (3+i)) ht MA;have Ma:bg .IL (.str x) (.lst us)=a8 (ei (x∉told)):=by rw[e2];exact mq
      by_cases Kk:x∈told
      · refine⟨B t us (a8 (.loc,.int (i:Nat))) o5,B t us (a8 (.loc,.int (i:Nat))) (a8 (.any,.str x)),aI,?_,⟨told,us,_,_,rfl,e2,IZ,hw,⋯,Mz⟩⟩
        refine aA (r:=(.any,.str x)) (st1:=B t us (a8 (.loc,.int (i:Nat))) o5) ?_ rb (ay (st1:=B t us (a8 (.loc,.int (i:Nat))) (a8 (.any,.str x))) ?_ aw aw)
        · repeat' (first|exact aP ik|exact bu ht|exact aP Rb|sizeOf_list_dec)
        · have:bg .IL (.str x) (.lst us)=a8 dV:=by rw[Ma];simp[Kk]
          repeat' (first|exact this|sizeOf_list_dec)
      · refine⟨B t us (a8 (.loc,.int (i:Nat))) o5,B t (us++[.str x]) (a8 (.loc,.int (i:Nat))) (a8 (.any,.str x)),aI,?_,⟨told++[x],_,_,_,rfl,by simp[e2],?_,?_,by simp;lia,Mz⟩⟩
        · refine aA (r:=(.any,.str x)) (st1:=B t us (a8 (.loc,.int (i:Nat))) o5) ?_ rb (dP (st1:=B t us (a8 (.loc,.int (i:Nat))) (a8 (.any,.str x))) (st2:=B t (us++[.str x]) (a8 (.loc,.int (i:Nat))) (a8 (.any,.str x))) ?_ ?_ aw)
          · repeat' (first|exact aP ik|exact bu ht|exact aP Rb|sizeOf_list_dec)
          · have:bg .IL (.str x) (.lst us)=some true:=by rw[Ma];simp[Kk]
            repeat' (first|exact this|sizeOf_list_dec)
          · repeat' (first|exact zD rfl|exact(by rw[e2,eH];lia)|sizeOf_list_dec)
        · rw[LF]
          exact ⟨IZ, by simp, fun y hy w Oc => by have : w = x := by simpa using Oc
                                                  subst this;rintro rfl;exact Kk hy⟩
        · intro y hy
          rcases mN.mp hy with h|h
          · exact hw y h
          · rw[tr.mp h];exact hx)
    obtain⟨st',Jn,told,us,o4,o5,e,e2,IZ,hw,hl,_⟩:=loop ((gA q).map λi:Nat=>(Kd.loc,U.int (0+(i:Int)))) (B t [] cb cb) ⟨[],[],cb,cb,rfl,rfl,by simp,by simp,by simp,eS.all q⟩;subst e e2;refine⟨told,by simp at hl;lia,IZ,hw,?_⟩;have hit:=jW (k:=.loc) (n:=q) ⋯;refine⟨B t (told.map .str) o4 o5,aA (r:=(.own,.lst [])) (bI ai trivial aJ (pb _)) br (hV (rs:=[(.loc,.int (q:Nat))]) (st1:=B t [] cb cb) ?_ trivial hit rfl Jn ?_)⟩
    · refine aa (cD (x:=(.own,.lst [U.int 0,.int 0,.int 1,.int 1,.int 1,.int 2,.int 2,.int 2,.int 3,.int 8])) (y:=(.loc,.int (dd ds 1 % 10))) (st1:=B t [] cb cb) ?_ ?_ trivial (aP K0)) ai
      · repeat' (first|exact(by decide:(10:Nat)<=eh)|sizeOf_list_dec)
      · repeat' (first|exact aP i1|sizeOf_list_dec)
    · repeat' sizeOf_list_dec
  have fin:∀t:Int,0<t->t<=names.length->(∀{f:Fl} {st':ar},Run (execs Γ (kr.body.drop 2)) [a8 (.any,.lst (ds.map .int)),a8 (.any,.lst (names.map .str)),a8 (.loc,.int t),cb,cb,cb] f st'->Run (execs Γ kr.body) [a8 (.any,.lst (ds.map .int)),a8 (.any,.lst (names.map .str)),cb,cb,cb,cb] f st') ->
      ∃told:List Str,told.length<=8/\told.Nodup/\(∀x∈told,x∈names)/\bw Γ kr [.lst (ds.map .int),.lst (names.map .str)]=a8 (.ok (.loc,.tup (told.map .str))):=λt ht MA hh=>by
    obtain⟨told,a1,a2,a3,st',a4⟩:=main t ht MA;exact⟨told,a1,a2,a3,au (st0:=[a8 (.any,.lst (ds.map .int)),a8 (.any,.lst (names.map .str)),cb,cb,cb,cb]) rfl (.inr rfl) rfl (hh a4)⟩
  let S0:ar:=[a8 (.any,.lst (ds.map .int)),a8 (.any,.lst (names.map .str)),a8 (.loc,.int ((names.map U.str).length:Nat)),cb,cb,cb]
  have q1:∀{c:Bool},ei (0<dd ds 2 % 3)=c->Run (IS Γ (.cmp .gt (.bin .mod (.idx (.var 0) (.cst (.int 2))) (.cst (.int 3))) (.cst (.int 0)))) S0 c S0:=λh=>by repeat' (first|exact aP i2|exact h_ h|sizeOf_list_dec)
  have q2:∀{c:Bool},ei (0<dd ds 0 % ((names.map U.str).length:Nat))=c->Run (IS Γ (.cmp .gt (.bin .mod (.idx (.var 0) (.cst (.int 0))) (.bi .len [.var 1])) (.cst (.int 0)))) S0 c S0:=λh=>by repeat' (first|exact aP i0|exact bu hp|exact h_ h|sizeOf_list_dec)
  have s2:Run (ev Γ (.bi .len [.var 1])) [a8 (.any,.lst (ds.map .int)),a8 (.any,.lst (names.map .str)),cb,cb,cb,cb] (.loc,.int ((names.map U.str).length:Nat)) [a8 (.any,.lst (ds.map .int)),a8 (.any,.lst (names.map .str)),cb,cb,cb,cb]:=by repeat' sizeOf_list_dec
  have s3:Run (ev Γ (.bin .mod (.idx (.var 0) (.cst (.int 0))) (.bi .len [.var 1]))) S0 (.loc,.int (dd ds 0 % ((names.map U.str).length:Nat))) S0:=by repeat' (first|exact aP i0|exact bu hp|sizeOf_list_dec)
  by_cases c1:0<dd ds 2 % 3
  · by_cases c2:0<dd ds 0 % ((names.map U.str).length:Nat)
    · exact fin (dd ds 0 % ((names.map U.str).length:Nat)) c2 ⋯ λh=>aA s2 aI (dP (vg (tH (q1 (ŷ c1)) (pQ (q2 (ŷ c2))))) (aA s3 aI aw) h)
    · exact fin ((names.map U.str).length:Nat) hp ⋯ λh=>aA s2 aI (ay (vg (tH (q1 (ŷ c1)) (pQ (q2 (Ŷ c2))))) aw h)
  · exact fin ((names.map U.str).length:Nat) hp ⋯ λh=>aA s2 aI (ay (vg (zF (q1 (Ŷ c1)))) aw h)
def Hr(g:Run (ev Γ h) st j st1)(l:st1[i]?=a8 (a8 (k',u')))(m:Run (ev Γ n) st1 o st2)(p:Run (cT [j,o]) st2 [b,c] st3)(q:st3[i]?=a8 (a8 (k,d)))(hk:k.root=c4)(r:lL c b d=a8 e)
  (s:Run (execs Γ ss) (st3.set i (a8 (k,e))) f t) (u:k'≠.IH:=by intro z;cases z):Run (execs Γ (.put i n h::ss)) st f t:=by
 show nu (ae g (ae (q_ l u) (ae m (ae p (ae (a:=()) (st1:=st3.set i (a8 (k,e))) ?_ aL))))) s;change modS i (uJ [b,c]) st3=_;unfold modS;rw[q];simp only[hk,ž];change(match lL c b d with|some u'=>_|none=>cb)=_;rw[r]
@[reducible]noncomputable def Row:=Str×List Str
abbrev IA(r:Row):U:=.tup [.str r.1,.tup (r.2.map .str)]
abbrev keyOf(r:Row):Row:=(r.1,cC r.2)
def jY(r:Row):rowOf (IA r)=a8 r:=by
 change(strsOf (r.2.map U.str)).map _=_;rw[dE];rfl
def sorted_strs(h:ss.length<64):JN .sorted [(k,.tup (ss.map .str))]=a8 (.own,.lst ((cC ss).map .str)):=by
 change(strsOf (ss.map U.str)).bind _=_;rw[dE];change(if ss.length<64 then _ else _)=_;rw[ŵ h]
abbrev zP:Fn:=#["_law_book",4,10,[.set 4 (.lst []),.set 5 (.Lx c4),.Jz dV [6] .Je [.var 3] [.set 7 (.call "_law_drawn" [.call "_law_cell" [.var 0,.bin .add (.var 1) (.var 6)],.cst (.int 11)]),.set 8 (.tup [.idx (.var 2) (.bin .mod (.idx (.var 7) (.cst (.int 0))) (.bi .len [.var 2])),.call "_law_told" [.var 7,.var 2]]),.set 9 (.tup [.idx (.var 8) (.cst (.int 0)),.bi .tuple [.bi .sorted [.idx (.var 8) (.cst (.int 1))]]]),.ite (.cmp .IL (.var 9) (.var 5)) [.put 5 (.var 9) (.cst (.bl c4)),.app 4 (.var 8)] []],.ret (.bi .tuple [.var 4])]]
abbrev pX(Γ:Tab):Prop:=∀(b:List Int) (names:List Str),11<=b.length->(∀d∈b,0<=d)->0<names.length ->
 ∃a:List Str,a.length<=8/\a.Nodup/\(∀x∈a,x∈names)/\Γ "_law_told" [.lst (b.map .int),.lst (names.map .str)]=a8 (.ok (.loc,.tup (a.map .str)))
structure rm(names:List Str)(r:Row):Prop where
 word:r.1∈names
 Lo:r.2.length<=8
 once:r.2.Nodup
 told:∀x∈r.2,x∈names
theorem zQ(hc:jX Γ)(hd:gF Γ)(ht:pX Γ){ns:List Int}(hn:0<names.length)(hb:b<1000)(hm:m<1000):
    ∃rows:List Row,rows.length<=m/\(rows.map keyOf).Nodup/\(∀r∈rows,rm names r)/\bw Γ zP [.lst (ns.map .int),.int (b:Nat),.lst (names.map .str),.int (m:Nat)]=a8 (.ok (.loc,.tup (rows.map IA))):=by
  have hsz:(1000:Nat)<=eh:=by decide
  let B:=λ(us:List U) (ks:List cO) (o6 o7 o8 o9:Option (Kd×U))=>([a8 (.any,.lst (ns.map .int)),a8 (.loc,.int (b:Nat)),a8 (.any,.lst (names.map .str)),a8 (.loc,.int (m:Nat)),a8 (.own,.lst us),a8 (.own,.Jy ks),o6,o7,o8,o9]:ar)
  let I:List (Kd×U)->ar->Prop:=λxs st=>∃(rows:List Row) (us:List U) (ks:List cO) (o6 o7 o8 o9:Option (Kd×U)),st=B us ks o6 o7 o8 o9/\us=rows.map IA/\ks=rows.map keyOf/\ks.Nodup/\(∀r∈rows,rm names r)/\rows.length+xs.length<=m/\eS m xs;have hp:(0:Int)<((names.map U.str).length:Nat):=by simp;lia
  have loop:=rg (t:=dV) (is:=[6]) (body:=execs Γ [.set 7 (.call "_law_drawn" [.call "_law_cell" [.var 0,.bin .add (.var 1) (.var 6)],.cst (.int 11)]),
      .set 8 (.tup [.idx (.var 2) (.bin .mod (.idx (.var 7) (.cst (.int 0))) (.bi .len [.var 2])),.call "_law_told" [.var 7,.var 2]]),
      .set 9 (.tup [.idx (.var 8) (.cst (.int 0)),.bi .tuple [.bi .sorted [.idx (.var 8) (.cst (.int 1))]]]),
      .ite (.cmp .IL (.var 9) (.var 5))
        [.put 5 (.var 9) (.cst (.bl c4)),
        .app 4 (.var 8)]
        []]) (rs:=[(.loc,.int (m:Nat))]) I (λ_ _ _=>trivial) (λx xs st Jq=>by
    obtain⟨rows,us,ks,o6,o7,o8,o9,e,e2,e3,IZ,hw,hl,hr⟩:=Jq;subst e;obtain⟨i,hi,rfl,Mz,hlen⟩:=hr.cons;rw[lg]at hl;obtain⟨z,hz⟩:=hc ns (b+i) ⋯;rw[SD]at hz;obtain⟨ds,d1,d2,d3⟩:=hd z 11 ⋯;obtain⟨told,t1,t2,t3,t4⟩:=ht ds names ⋯ d2 hn;have i0:IX (ds.map U.int) 0=a8 (.int (dd ds 0)):=b_ (i:=0) ⋯;obtain⟨nm,Rc,SX⟩:=vp (xs:=names) (t:=((names.map U.str).length:Nat)) (eT d2 0) hp (by simp);have MW:rm names (nm,told):=⟨Rc,t1,t2,t3⟩
    have j0:jd (.loc,IA (nm,told)) (.int 0)=a8 (.loc,.str nm):=rfl;have j1:jd (.loc,IA (nm,told)) (.int 1)=a8 (.loc,.tup (told.map .str)):=rfl;have Ls:=sorted_strs (k:=.loc) (ss:=told) ⋯;let i6:Option (Kd×U):=a8 (.loc,.int (i:Nat));let i7:Option (Kd×U):=a8 (.own,.lst (ds.map .int));let i8:Option (Kd×U):=a8 (.loc,IA (nm,told));let i9:Option (Kd×U):=a8 (.loc,IA (keyOf (nm,told)));have g7:Run (ev Γ (.call "_law_drawn" [.call "_law_cell" [.var 0,.bin .add (.var 1) (.var 6)],.cst (.int 11)])) (B us ks i6 o7 o8 o9) (.own,.lst (ds.map .int)) (B us ks i6 o7 o8 o9):=by repeat' (first|exact hz|exact d3|sizeOf_list_dec)
    have g8:Run (ev Γ (.tup [.idx (.var 2) (.bin .mod (.idx (.var 7) (.cst (.int 0))) (.bi .len [.var 2])),.call "_law_told" [.var 7,.var 2]])) (B us ks i6 i7 o8 o9) (.loc,IA (nm,told)) (B us ks i6 i7 o8 o9):=by
      repeat' (first|exact aP i0|exact bu hp|exact aP SX|exact t4|exact zD rfl|exact(by decide:(2:Nat)<=eh)|sizeOf_list_dec)
    have g9:Run (ev Γ (.tup [.idx (.var 8) (.cst (.int 0)),.bi .tuple [.bi .sorted [.idx (.var 8) (.cst (.int 1))]]])) (B us ks i6 i7 i8 o9) (.loc,IA (keyOf (nm,told))) (B us ks i6 i7 i8 o9):=by
      repeat' (first|exact j0|exact j1|exact Ls|exact(by decide:(2:Nat)<=eh)|sizeOf_list_dec)
    have Ma:bg .IL (IA (keyOf (nm,told))) (.Jy ks)=a8 (ei (keyOf (nm,told)∉ks)):=by
      show(((rowOf (IA (keyOf (nm,told)))).map λr=>ei (r∈ks))).map (!·)=_;rw[jY];simp
    by_cases Kk:keyOf (nm,told)∈ks
    · refine⟨B us ks i6 o7 o8 o9,B us ks i6 i7 i8 i9,aI,aA g7 br (aA g8 aI (aA g9 aI (ay ?_ aw aw))),⟨rows,us,ks,_,_,_,_,rfl,e2,e3,IZ,hw,⋯,Mz⟩⟩
      have:bg .IL (IA (keyOf (nm,told))) (.Jy ks)=a8 dV:=by rw[Ma];simp[Kk]
      exact bo (af rfl) (aR rfl) ⟨⟨.own,rfl,rfl⟩,trivial⟩ this
    · refine⟨B us ks i6 o7 o8 o9,B (us++[IA (nm,told)]) (ks++[keyOf (nm,told)]) i6 i7 i8 i9,aI,aA g7 br (aA g8 aI (aA g9 aI (dP (st1:=B us ks i6 i7 i8 i9) (st2:=B (us++[IA (nm,told)]) (ks++[keyOf (nm,told)]) i6 i7 i8 i9) ?_ ?_ aw))),⟨rows++[(nm,told)],_,_,_,_,_,_,rfl,by simp[e2],by simp[e3],?_,?_,by simp;lia,Mz⟩⟩
      · have:bg .IL (IA (keyOf (nm,told))) (.Jy ks)=a8 c4:=by rw[Ma];simp[Kk]
        exact bo (af rfl) (aR rfl) ⟨⟨.own,rfl,rfl⟩,trivial⟩ this
      · have T5:lL (IA (keyOf (nm,told))) (.bl c4) (.Jy ks)=a8 (.Jy (ks++[keyOf (nm,told)])):=by
          show(match rowOf (IA (keyOf (nm,told))),U.bl c4 with|some r,.bl c4=>if r∉ks/\ks.length<=1000 then a8 (U.Jy (ks++[r])) else cb|_,_=>cb)=_;rw[jY];show(if keyOf (nm,told)∉ks/\ks.length<=1000 then _ else _)=_;rw[ŵ ⟨Kk,by rw[e3,eH];lia⟩]
        exact Hr (st1:=B us ks i6 i7 i8 i9) (st2:=B us ks i6 i7 i8 i9) (st3:=B us ks i6 i7 i8 i9) (k:=.own) (k':=.own) ah rfl (af rfl) (av aD (av aD aJ)) rfl rfl T5
          (l_ (st1:=B us (ks++[keyOf (nm,told)]) i6 i7 i8 i9) (st2:=B us (ks++[keyOf (nm,told)]) i6 i7 i8 i9) (k:=.own) (k':=.own) (us:=us) (us':=us) rfl (af rfl) aD rfl rfl (by rw[e2,eH];lia) aw)
      · rw[LF]
        exact ⟨IZ, by simp, fun y hy w Oc => by have : w = keyOf (nm, told) := by simpa using Oc
                                                subst this;rintro rfl;exact Kk hy⟩
      · intro y hy
        rcases mN.mp hy with h|h
        · exact hw y h
        · rw[tr.mp h];exact MW)
  obtain⟨st',Jn,rows,us,ks,o6,o7,o8,o9,e,e2,e3,IZ,hw,hl,_⟩:=loop ((gA m).map λi:Nat=>(Kd.loc,U.int (0+(i:Int)))) (B [] [] cb cb cb cb) ⟨[],[],[],cb,cb,cb,cb,rfl,rfl,rfl,by simp,by simp,by simp,eS.all m⟩;subst e e2 e3;refine⟨rows,by simpa using hl,IZ,hw,?_⟩;have hit:=jW (k:=.loc) (n:=m) ⋯;exact au (st0:=[a8 (.any,.lst (ns.map .int)),a8 (.loc,.int (b:Nat)),a8 (.any,.lst (names.map .str)),a8 (.loc,.int (m:Nat)),cb,cb,cb,cb,cb,cb]) rfl (.inr rfl) rfl
    (aA (r:=(.own,.lst [])) (bI ai trivial aJ (pb _)) br (aA (r:=(.own,.Jy [])) Fj br (hV (rs:=[(.loc,.int (m:Nat))]) (st1:=B [] [] cb cb cb cb) (aa (af rfl) ai) trivial hit rfl Jn
      (aS (cv (aa (aR rfl) ai) ⟨⟨.own,rfl,rfl⟩,trivial⟩ rfl) aU))))
abbrev pY(Γ:Tab):Prop:=∀(ns:List Int) (b m:Nat),b<1000->m<40->∃names:List Str,names.length=m/\names.Nodup/\(∀x∈names,bZ x.cps.toList)/\Γ "_law_names" [.lst (ns.map .int),.int (b:Nat),.int (m:Nat)]=a8 (.ok (.own,.lst (names.map .str)))
abbrev zR(Γ:Tab):Prop:=∀(ns:List Int) (names:List Str) (b m:Nat),0<names.length->b<1000->m<1000 ->
 ∃a:List Row,a.length<=m/\(a.map keyOf).Nodup/\(∀r∈a,rm names r)/\Γ "_law_book" [.lst (ns.map .int),.int (b:Nat),.lst (names.map .str),.int (m:Nat)]=a8 (.ok (.loc,.tup (a.map IA)))
abbrev zS:Fn:=#["_law_made",1,3,[.set 1 (.call "_law_drawn" [.call "_law_cell" [.var 0,.cst (.int 0)],.cst (.int 4)]),.set 2 (.call "_law_names" [.var 0,.cst (.int 1),.bin .add (.cst (.int 1)) (.bin .mod (.idx (.var 1) (.cst (.int 0))) (.cst (.int 14)))]),.ret (.call "_law_book" [.var 0,.cst (.int 20),.var 2,.bin .mod (.idx (.var 1) (.cst (.int 1))) (.cst (.int 41))])]]
def zT(f:jX Γ)(g:gF Γ)(h:pY Γ)(j:zR Γ)(ns:List Int):∃(names:List Str) (a:List Row),0<names.length/\names.length<=14/\names.Nodup/\(∀x∈names,bZ x.cps.toList) /\
  a.length<=40/\(a.map keyOf).Nodup/\(∀r∈a,rm names r)/\bw Γ zS [.lst (ns.map .int)]=a8 (.ok (.loc,.tup (a.map IA))):=by
 have(z,hz):=f ns 0 ⋯;have(b,s,c,k):=g z 4 ⋯;have l:IX (b.map U.int) 0=a8 (.int (dd b 0)):=b_ (i:=0) ⋯;have m:IX (b.map U.int) 1=a8 (.int (dd b 1)):=b_ (i:=1) ⋯;have t:=eT c 0;have u:=eT c 1;have(names,v,n,o,d):=h ns 1 (1+dd b 0 % 14).toNat ⋯ ⋯;rw[UU ⋯]at d;have(a,w,p,q,e):=j ns names 20 (dd b 1 % 41).toNat ⋯ ⋯ ⋯;rw[UU ⋯]at e;show#[names,a,⋯,⋯,n,o,⋯,p,q,?_];apply au (st0:=[a8 (.any,.lst (ns.map .int)),cb,cb]) rfl (.inr rfl) rfl
 repeat' (first|show hz|show k|show aP l|show aP m|show d|show e|sizeOf_list_dec)
section
def Dj(h:Jl Pg "_law_mix" w_):zK (Jk Pg (d+1)):=λc k a b=>by rw[aB h];show Cm a b
def jZ(h:Jl Pg "_law_mix" w_)(a:Jl Pg "_law_cell" vk):jX (Jk Pg (d+2)):=λns k hk=>#[_,by rw[aB a];show zL (Dj h) hk]
def drawnOk(h:Jl Pg "_law_mix" w_)(f:Jl Pg "_law_drawn" pU):gF (Jk Pg (d+2)):=λc n g=>by
 have(i,a,b,e):=xb (Dj (d:=d) h) (c:=c) g;show#[i,a,b,by rw[aB f];show e]
def Fq(f:Cn g)(h:Jl Pg "_law_name" (pV g)):zN (Jk Pg (d+1)):=λi names a b c e=>by
 have(x,p,q,r):=zM (Γ:=Jk Pg d) f a b c e;show#[x,p,q,by rw[aB h];show r]
def Fs(h:Jl Pg "_law_told" kr):pX (Jk Pg (d+1)):=λe names a b c=>by
 have(x,p,q,r,s):=zO (Γ:=Jk Pg d) a b c;show#[x,p,q,r,by rw[aB h];show s]
structure cW(md:E)(Pg:List Fn):Prop where
 mix:Jl Pg "_law_mix" w_
 cell:Jl Pg "_law_cell" vk
 drawn:Jl Pg "_law_drawn" pU
 name:Jl Pg "_law_name" (pV md)
 names:Jl Pg "_law_names" fNames
 told:Jl Pg "_law_told" kr
 book:Jl Pg "_law_book" zP
def cW.jZ(M:cW a Pg):jX (Jk Pg (d+2)):=TM.jZ M.mix M.cell
def cW.drawnOk(M:cW a Pg):gF (Jk Pg (d+2)):=TM.drawnOk M.mix M.drawn
def cW.zU(a:Cn c)(M:cW c Pg):pY (Jk Pg (d+3)):=λns b m e f=>by
 have(names,p,q,r,s):=xh (Γ:=Jk Pg (d+2)) M.jZ M.drawnOk (TM.Fq a M.name) (ns:=ns) e f;show#[names,p,q,r,by rw[aB M.names];show s]
@[reducible]noncomputable def zV(Pg:List Fn):Prop:=cW Hq Pg
def cW.namesOk(M:zV Pg):pY (Jk Pg (d+3)):=cW.zU Co M
def cW.Ft(M:cW g Pg):zR (Jk Pg (d+3)):=λns names b m c e f=>by
 have(a,p,q,r,s):=zQ (Γ:=Jk Pg (d+2)) M.jZ M.drawnOk (TM.Fs M.told) (ns:=ns) c e f;show#[a,p,q,r,by rw[aB M.book];show s]
end
section
def nY(h:Run (execs Γ (a++ss)) st f st2):(∃s1,Run (execs Γ a) st .nx s1/\Run (execs Γ ss) s1 f st2)\/(Run (execs Γ a) st f st2/\f≠.nx):=by
 induction a generalizing st with
 |nil=>show .inl #[st,aw,h]
 |cons s a i =>
  have h':M.bind (exec Γ s) (λf=>match f with|.nx=>execs Γ (a++ss)|f=>pure f) st=a8 (.ok f,st2):=h;unfold M.bind at h';cases e:exec Γ s st with
  |none=>rw[e]at h';cases h'
  |some p =>
   have(x,s1):=p;rw[e]at h';cases x with
   |exc c=>cases h'
   |ok g =>
    cases g with
    |nx =>
     rcases i h' with⟨s2,b,d⟩|⟨b,d⟩
     .show .inl #[s2,nu e b,d]
     .show .inr #[nu e b,d]
    |rt k u=>cases h';show .inr #[w9 e,λz=>nomatch z]
    |bk=>cases h';show .inr #[ae (show Run (exec Γ s) st Fl.bk _ from e) aL,λz=>nomatch z]
    |ct=>cases h';show .inr #[ae (show Run (exec Γ s) st Fl.ct _ from e) aL,λz=>nomatch z]
def Hs(a:Run (exec Γ s) st f st1)(b:f≠.nx):Run (execs Γ (s::ss)) st f st1:=by
 cases f with
 |nx=>show absurd rfl b
 |rt k u=>show w9 a
 |_=>show ae a aL
def c8(g:Run (IS Γ c) st p st1)(h:p=c4->Run (execs Γ (a++ss)) st1 f st2)(i:p=dV->Run (execs Γ (b++ss)) st1 f st2):Run (execs Γ (.ite c a b::ss)) st f st2:=by
 cases p with
 |true =>
  rcases nY (h rfl) with⟨s1,d,e⟩|⟨d,e⟩
  .show nu (pR g d) e
  .show Hs (pR g d) e
 |false =>
  rcases nY (i rfl) with⟨s1,d,e⟩|⟨d,e⟩
  .show nu (tI g d) e
  .show Hs (tI g d) e
def tL(h:Run (ev Γ e) st (k,.bl p) st)(a:p=c4->Run (jf Γ (b::es)) st (.loc,.bl q) st):Run (jf Γ (e::b::es)) st (.loc,.bl (p&&q)) st:=by
 show zE h ?_;cases p with
 |true=>rw[ŵ rfl];show a rfl
 |false=>rw[Ÿ my];show#[rfl,rfl]
def mw(h:Run (IS Γ e) st p st)(a:p=dV->Run (fT Γ (b::es)) st q st):Run (fT Γ (e::b::es)) st (p||q) st:=by
 cases p with
 |true=>show zG h
 |false=>show vh h (a rfl)
def Fu(h:Run (IS Γ e) st p st)(a:p=c4->Run (a_ Γ (b::es)) st q st):Run (a_ Γ (e::b::es)) st (p&&q) st:=by
 cases p with
 |true=>show tH h (a rfl)
 |false=>show zF h
theorem ez{cond:M Bool}(h:bf src st)(k:Kd)(hk:k=.loc\/k=.any)(a g:α->U)(d:Kd)(e:∀y,Run cond (a8 (k,a y)::st) c4 (a8 (k,a y)::st)):∀(c:List α) (b:List U),b.length+c.length<=eh ->
  (∀y∈c,Run elt (a8 (k,a y)::st) (d,g y) (a8 (k,a y)::st)/\Run (lift (d,g y)) (a8 (k,a y)::st) (g y) (a8 (k,a y)::st))->Run (bR 1 dV cond elt src (c.map λy=>(k,a y)) b) st (b++c.map g) st
 |[],b,_,_=>by rw[US,US,D1];show zI h
 |y::c,b,hl,f=>by
  have(i,j):=f y (by simp);rw[lg]at hl;show tJ (s1:=a8 (k,a y)::st) (s2:=a8 (k,a y)::st) (s3:=a8 (k,a y)::st) (s4:=a8 (k,a y)::st) h ?_ (e y) i j ⋯ ?_
  .rcases hk with rfl|rfl
   .show f9 aI
   .show f9 rb
  .have:=ez h k hk a g d e c (b++[g y]) (by simp;lia) λz hz=>f z (by simp[hz]);rw[mu];simpa using this
theorem mz(it:α->Kd×U)(I:List α->List α->ar->Prop)(hs:∀d r st,I d r st->bf rs st)
  (Ö:∀d y r st,I d (y::r) st->∃st1 st2,Run (dt t is (it y)) st () st1/\Run body st1 .nx st2/\I (d++[y]) r st2):∀(r d:List α) (st:ar),I d r st->∃st',Run (forM t is body rs (r.map it)) st .nx st'/\I (d++r) [] st'
 |[],d,st,h=>#[st,vi (hs _ _ _ h),by rw[D1];show h]
 |y::r,d,st,h=>by
  have(s1,s2,a,b,c):=Ö d y r st h;have(s3,e,f):=mz it I hs Ö r (d++[y]) s2 c;show#[s3,Cj (hs _ _ _ h) a b e,by simpa using f]
def f_(a:Run (aX Γ es) st rs st1)(c:bf rs st1)(d:Γ f (rs.map (·.2))=a8 (.ok r))(e:wz r.2=a8 b)(g:isAny r.1=dV:=by show rfl):Run (IS Γ (.call f es)) st b st1:=ae a (ae (aF c) (ae (vd d g) (cU e)))
def tM(h:Run (ev Γ (.bi f es)) st (k,.bl b) st1):Run (IS Γ (.bi f es)) st b st1:=by
 have h':(aX Γ es >>= λrs=>ao rs >>= λ_=>M.IT (JN f rs)) st=a8 (.ok (k,.bl b),st1):=h;obtain⟨rs,s1,c,d,s2,e,r,s3,g,i⟩:∃rs s1,aX Γ es st=a8 (.ok rs,s1)/\∃(a:Unit) (s2:ar),ao rs s1=a8 (.ok a,s2)/\∃r s3,M.IT (JN f rs) s2=a8 (.ok r,s3)/\(r,s3)=((k,U.bl b),st1):=by
  have w:W (aX Γ es >>= λrs=>ao rs >>= λ_=>M.IT (JN f rs)) st λr s=>(r,s)=((k,U.bl b),st1):=#[_,_,h',rfl]
  rw[aj]at w;have(rs,s1,c,w):=w;rw[aj]at w;have(a,s2,d,w):=w;have(r,s3,e,w):=w;show#[rs,s1,c,a,s2,d,r,s3,e,w]
 cases i;show ae c (ae (a:=d) e (ae g (cU rfl)))
def Ht(b:Run (ev Γ a) st x st1)(c:Br x=a8 r):Run (ev Γ (.neg a)) st r st1:=ae b (cU c)
end
theorem gG:∀ss:List Str,fP (ss.map U.str)=c4
 |[]=>by simp[fP]
 |s::ss=>by simp[fP,Jb,gG ss]
def pZ(r:Row):Jb (IA r)=c4:=by simp[IA,Jb,fP,gG]
theorem di:∀rs:List Row,fP (rs.map IA)=c4
 |[]=>by simp[fP]
 |r::rs=>by simp[fP,pZ,di rs]
theorem ft:∀(a b:List Str),cS (a.map U.str) (b.map U.str)=ei (a=b)
 |[],[]=>by simp[cS]
 |[],_::_=>by simp[cS]
 |_::_,[]=>by simp[cS]
 |x::a,y::b=>by
  rw[mu,mu,cS,ft a b];simp only[cn];by_cases h:x=y
  .subst h;simp
  .simp[h]
def mB(ss:List Str)(n:Nat):Kb (n+1) (.lst (ss.map U.str))=c4:=by simp[Kb,dh]
def rn{a b:List Str}:bg .eq (.lst (a.map U.str)) (.lst (b.map U.str))=a8 (ei (a=b)):=by
 simp only[bg];rw[ŵ #[mB a 49,mB b 49]];simp only[cn,ft]
def jk:bg .eq (.str a) (.str b)=a8 (ei (a=b)):=by
 simp only[bg];rw[ŵ #[rfl,rfl]];simp only[cn];by_cases h:a=b
 .subst h;simp
 .simp[h]
def vq(f:α->β)(xs:List α)(lo a:Option Int):cut (xs.map f) lo a=(cut xs lo a).map f:=by simp[cut,ķ,ZN]
def Cq(xs:List α)(lo a:Option Int):(cut xs lo a).length<=xs.length:=by simp[cut];lia
def Cr(h:gS k (ss.map U.str)=c4):je (k,.lst (ss.map .str)) lo a=a8 (.own,.lst ((cut ss lo a).map .str)):=by
 simp only[je];rw[ŵ h,vq]
def rp(h:gS k (a.map U.int)=c4):je (k,.lst (a.map .int)) lo b=a8 (.own,.lst ((cut a lo b).map .int)):=by
 simp only[je];rw[ŵ h,vq]
section
end
section
def zW(c:Run (ev Γ a) st x st1)(d:ni x.2 T=a8 b):Run (IS Γ (.Nh a T)) st b st1:=ae c (cU d)
end
def rq(h:xs.length+a.length<=eh)(b:gS k xs=c4)(c:gS k' a=c4):Kh .add (k,.lst xs) (k',.lst a)=a8 (.own,.lst (xs++a)):=by
 simp only[Kh,wu];rw[ŵ #[h,b,c]]
def dY(x y:Str):(x++y).cps.toList=x.cps.toList++y.cps.toList:=by
 change(x.cps++y.cps).toList=_;simp
def str_len(x y:Str):(x++y).length=x.length+y.length:=by rw[len_list,len_list,len_list,dY,ko]
def cG{x y:Str}(h:x.cps.toList=y.cps.toList):x=y:=by
 have⟨a⟩:=x;have⟨b⟩:=y;have:a=b:=Y0.mp h;rw[this]
end TM
namespace Od
section
variable{W:Type}[DecidableEq W]{rows:List (W×List W)}
end
end Od
namespace TM
open PySem L2 IQ
section
def Dk(hk:k=.loc\/k=.any):Run (dt c4 [i,j] (k,.tup [a,b])) st () ((st.set i (a8 (k,a))).set j (a8 (k,b))):=by
 rcases hk with rfl|rfl<;>rfl
end
def Dl{ss:List Str}:bg .isin (.str x) (.lst (ss.map U.str))=a8 (ei (x∈ss)):=by
 have h:=@mq x ss;have e:bg .IL (.str x) (.lst (ss.map U.str))=(bg .isin (.str x) (.lst (ss.map U.str))).map (!·):=rfl;rw[e,hQ]at h;have(b,a,c):=h;rw[a];congr 1
 cases b<;>simp_all
def tN:bg .ne (.str a) (.str b)=a8 (!ei (a=b)):=by
 have:bg .ne (.str a) (.str b)=(bg .eq (.str a) (.str b)).map (!·):=by
  simp only[bg];rw[ŵ #[rfl,rfl],ŵ #[rfl,rfl]];rfl
 rw[this,jk];rfl
def jm(bs:List Bool):JN .all [(k,.lst (bs.map .bl))]=a8 (.loc,.bl (bs.all id)):=by
 change(lF (bs.map U.bl)).map _=_;have:∀bs:List Bool,lF (bs.map U.bl)=a8 bs:=λbs=>by
  induction bs with
  |nil=>rfl
  |cons b bs a=>change(lF (bs.map U.bl)).map _=_;rw[a];rfl
 rw[this];rfl
section
end
section
end
end TM
namespace K
open PySem L2 TM
abbrev top(i:Nat):PV:=PySem.Challenge.pw_primer_k06_texts_refused.main.body.getD i (.Pass #[0,0,0,0])
abbrev gH:Fn:=#["is_stem",1,1,[.ite (.or [.cmp .eq (.var 0) (.cst (.str "")),.cmp .gt (.bi .len [.var 0]) (.KH "LONGEST_STEM" (.int 8))]) [.ret (.cst (.bl dV))] [],.ret (.bi .all [.comp 1 dV .seq [.var 0] [] (.cmp .isin (.var 0) (.KH "LETTERS" (.str "abcdefghijklmnopqrstuvwxyz")))])]]
abbrev cw:Fn:=#["is_later_sense",1,1,[.ret (.cmp .isin (.var 0) (.comp 1 dV .Lw [.bin .add (.KH "FIRST_SENSE" (.int 1)) (.cst (.int 1)),.bin .add (.KH "LAST_SENSE" (.int 99)) (.cst (.int 1))] [] (.bi .str [.var 0])))]]
abbrev gJ:Fn:=#["is_word",1,1,[.ite (.cmp .IL (.cst (.str "/")) (.var 0)) [.ret (.call "is_stem" [.var 0])] [],.ret (.and [.call "is_stem" [.call "stem_of" [.var 0]],.call "is_later_sense" [.call "number_of" [.var 0]]])]]
abbrev j3:Fn:=#["stem_of",1,1,[.ret (.idx (.Jf .partition (.var 0) [.cst (.str "/")]) (.cst (.int 0)))]]
abbrev gf:Fn:=#["number_of",1,1,[.ret (.idx (.Jf .partition (.var 0) [.cst (.str "/")]) (.cst (.int 2)))]]
abbrev jn:Fn:=#["is_row",1,2,[.set 1 (.idx (.var 0) (.cst (.int 1))),.ite (.or [.cmp .gt (.bi .len [.var 1]) (.KH "MOST_TOLD" (.int 8)),.cmp .lt (.LI .fK [.var 1]) (.bi .len [.var 1])]) [.ret (.cst (.bl dV))] [],.ret (.and [.call "is_word" [.idx (.var 0) (.cst (.int 0))],.bi .all [.comp 1 dV .seq [.var 1] [] (.call "is_word" [.var 0])]])]]
abbrev cp:Fn:=#["in_one_order",1,1,[.ret (.tup [.idx (.var 0) (.cst (.int 0)),.bi .tuple [.bi .sorted [.idx (.var 0) (.cst (.int 1))]]])]]
abbrev cy:Fn:=#["has_alike_rows",1,1,[.ret (.cmp .lt (.LI .fK [.comp 1 dV .seq [.var 0] [] (.call "in_one_order" [.var 0])]) (.bi .len [.var 0]))]]
abbrev p7:Fn:=#["fits",1,1,[.ite (.cmp .gt (.bi .len [.var 0]) (.KH "MOST_ROWS" (.int 60))) [.ret (.cst (.bl dV))] [],.ret (.and [.bi .all [.comp 1 dV .seq [.var 0] [] (.call "is_row" [.var 0])],.not (.call "has_alike_rows" [.var 0])])]]
abbrev jo:Fn:=#["fitted",1,1,[.ite (.not (.call "fits" [.var 0])) [.LJ "Unfit" (.cst (.str "the book does not fit"))] [],.ret (.var 0)]]
abbrev j4:Fn:=#["read",1,1,[.ite (.not (.Nh (.var 0) .str)) [.LJ "NoText" (.cst (.str "what is handed in is no text"))] [],.ite (.cmp .eq (.var 0) (.cst (.str ""))) [.ret (.tup [])] [],.J8 (.arg "fitted" (.P1 "read_row" (.Jf .split (.var 0) [.cst (.str "\n")])))]]
abbrev fu:Fn:=#["read_row",1,2,[.set 1 (.Jf .split (.var 0) [.cst (.str " ")]),.ite (.or [.cmp .lt (.bi .len [.var 1]) (.cst (.int 3)),.not (.call "is_word" [.idx (.var 1) (.cst (.int 0))]),.cmp .ne (.idx (.var 1) (.cst (.int 1))) (.cst (.str "="))]) [.LJ "NoText" (.cst (.str "a row begins with a word and =, and tells something"))] [],.J8 (.tup (.idx (.var 1) (.cst (.int 0))) (.call "read_told" [.Ja (.var 1) [.cst (.int 2)] []]))]]
abbrev dZ:Fn:=#["read_told",1,1,[.ite (.cmp .eq (.var 0) (.lst [.KH "PICTURE_SIGN" (.str "*")])) [.ret (.tup [])] [],.ite (.not (.bi .all [.comp 1 dV .seq [.var 0] [] (.call "is_word" [.var 0])])) [.LJ "NoText" (.cst (.str "a row tells words, or * alone"))] [],.ret (.bi .tuple [.var 0])]]
noncomputable abbrev nZ:Fn:=TM.w_
noncomputable abbrev mC:Fn:=TM.vk
noncomputable abbrev ku:Fn:=TM.pU
abbrev mD:Fn:=#["_law_name",2,6,[.set 2 (.cst (.str "abcdefghijklmnopqrstuvwxyz")),.set 3 (.Jf .join (.cst (.str "")) [.comp 1 dV .Je [.bin .add (.cst (.int 1)) (.bin .mod (.idx (.var 0) (.cst (.int 0))) (.cst (.int 8)))] [] (.idx (.var 3) (.bin .mod (.idx (.var 1) (.bin .add (.cst (.int 4)) (.var 0))) (.cst (.int 26))))]),.ite (.cmp .gt (.bi .len [.var 1]) (.cst (.int 0))) [.set 4 (.idx (.Jf .split (.idx (.var 1) (.bin .mod (.idx (.var 0) (.cst (.int 1))) (.bi .len [.var 1]))) [.cst (.str "/")]) (.cst (.int 0))),.ite (.cmp .eq (.bin .mod (.idx (.var 0) (.cst (.int 2))) (.cst (.int 4))) (.cst (.int 1))) [.set 3 (.Ja (.bin .add (.var 4) (.var 3)) [] [.cst (.int 8)])] [],.ite (.cmp .eq (.bin .mod (.idx (.var 0) (.cst (.int 2))) (.cst (.int 4))) (.cst (.int 2))) [.set 3 (.bin .add (.bin .add (.var 4) (.cst (.str "/"))) (.bi .str [.bin .add (.cst (.int 2)) (.bin .mod (.idx (.var 0) (.cst (.int 3))) (.cst (.int 98)))]))] []] [],.set 5 (.bin .add (.lst [.var 3]) (.comp 1 dV .Je [.cst (.int 40)] [] (.bin .add (.idx (.var 3) (.bin .J7 (.var 0) (.cst (.int 26)))) (.idx (.var 3) (.bin .mod (.var 0) (.cst (.int 26))))))),.ret (.idx (.comp 1 dV .seq [.var 5] [.cmp .IL (.var 0) (.var 2)] (.var 0)) (.cst (.int 0)))]]
noncomputable abbrev kz:Fn:=TM.fNames
noncomputable abbrev mE:Fn:=TM.kr
noncomputable abbrev mF:Fn:=TM.zP
noncomputable abbrev mG:Fn:=TM.zS
abbrev dq:Fn:=#["_law_is_word",1,3,[.set 1 (.idx (.Jf .split (.var 0) [.cst (.str "/")]) (.cst (.int 0))),.set 2 (.Ja (.var 0) [.bi .len [.var 1]] []),.ite (.or [.cmp .lt (.bi .len [.var 1]) (.cst (.int 1)),.cmp .gt (.bi .len [.var 1]) (.cst (.int 8))]) [.ret (.cst (.bl dV))] [],.ite (.and [.cmp .ne (.var 2) (.cst (.str "")),.cmp .IL (.var 2) (.comp 1 dV .Lw [.cst (.int 2),.cst (.int 100)] [] (.bin .add (.cst (.str "/")) (.bi .str [.var 0])))]) [.ret (.cst (.bl dV))] [],.ret (.bi .all [.comp 1 dV .seq [.var 1] [] (.KI .le .le (.cst (.str "a")) (.var 0) (.cst (.str "z")))])]]
abbrev gK:Fn:=#["_law_fit",1,5,[.set 1 (.lst []),.Jz c4 [2,3] .seq [.var 0] [.set 4 (.tup [.var 2,.bi .sorted [.var 3]]),.ite (.or [.cmp .isin (.var 4) (.var 1),.cmp .gt (.bi .len [.var 3]) (.cst (.int 8)),.cmp .ne (.LI .fK [.var 3]) (.bi .len [.var 3])]) [.ret (.cst (.bl dV))] [],.ite (.not (.bi .all [.comp 1 dV .seq [.bin .add (.tup [.var 2]) (.var 3)] [] (.call "_law_is_word" [.var 0])])) [.ret (.cst (.bl dV))] [],.app 1 (.var 4)],.ret (.cmp .le (.bi .len [.var 0]) (.cst (.int 60)))]]
abbrev kA:Fn:=#["_law_kinds",1,1,[.knd ["PrimerError","ValueError","NoText","Unfit","Unknown","Unlearnt","TooMany","Lacking","NoRow","NoDeed"]]]
abbrev fv:Fn:=#["_law_only",2,2,[.ret (.cmp .eq (.var 0) (.comp 1 dV .Je [.cst (.int 10)] [] (.or [.cmp .lt (.var 0) (.cst (.int 2)),.cmp .eq (.var 0) (.var 2)])))]]
abbrev fw:Fn:=#["_law_text",1,4,[.set 1 (.lst []),.Jz c4 [2,3] .seq [.var 0] [.app 1 (.bin .add (.bin .add (.var 2) (.cst (.str " = "))) (.Jf .join (.cst (.str " ")) [.bin .add (.bi .list [.var 3]) (.bin .mul (.lst [.cst (.str "*")]) (.bi .int [.cmp .eq (.var 3) (.tup [])]))]))],.ret (.Jf .join (.cst (.str "\n")) [.var 1])]]
abbrev fy:Fn:=#["_law_read",1,5,[.set 1 (.lst []),.Jz dV [2] .seq [.Jf .split (.var 0) [.cst (.str "\n")]] [.set 3 (.Jf .split (.var 2) [.cst (.str " ")]),.ite (.or [.cmp .lt (.bi .len [.var 3]) (.cst (.int 3)),.cmp .ne (.idx (.var 3) (.cst (.int 1))) (.cst (.str "=")),.not (.call "_law_is_word" [.idx (.var 3) (.cst (.int 0))])]) [.ret (.cst .ID)] [],.set 4 (.bi .tuple [.Ja (.var 3) [.cst (.int 2)] []]),.ite (.cmp .eq (.var 4) (.tup [.cst (.str "*")])) [.set 4 (.tup [])] [],.ite (.not (.bi .all [.comp 1 dV .seq [.var 4] [] (.call "_law_is_word" [.var 0])])) [.ret (.cst .ID)] [],.app 1 (.tup [.idx (.var 3) (.cst (.int 0)),.var 4])],.ret (.bi .tuple [.var 1])]]
abbrev cz:Fn:=#["_law_bent_words",2,6,[.set 2 (.bin .mod (.idx (.var 0) (.cst (.int 2))) (.bi .len [.var 1])),.set 3 (.lst [.cst (.str "*"),.cst (.str "="),.cst (.str ""),.cst (.str "a"),.cst (.str "bank/2"),.cst (.str "bank/1"),.cst (.str "Bank"),.cst (.str "abcdefghi"),.cst (.str "a/100"),.cst (.str "a/"),.cst (.str "/3"),.cst (.str "=="),.cst (.str "a=")]),.set 3 (.bin .add (.var 3) (.lst [.cst (.str "**"),.cst (.str "a/02")])),.set 3 (.bin .add (.var 3) (.lst [.cst (.str "-"),.cst (.str "none"),.cst (.str "a.b"),.cst (.str "7"),.cst (.str "a/2/2")])),.set 4 (.bin .mod (.idx (.var 0) (.cst (.int 1))) (.cst (.int 4))),.ite (.cmp .eq (.var 4) (.cst (.int 0))) [.ret (.bin .add (.Ja (.var 1) [] [.var 2]) (.Ja (.var 1) [.bin .add (.var 2) (.cst (.int 1))] []))] [],.ite (.cmp .eq (.var 4) (.cst (.int 1))) [.ret (.bin .add (.bin .add (.Ja (.var 1) [] [.var 2]) (.lst [.idx (.var 1) (.var 2)])) (.Ja (.var 1) [.var 2] []))] [],.set 5 (.idx (.var 3) (.bin .mod (.idx (.var 0) (.cst (.int 3))) (.bi .len [.var 3]))),.ret (.bin .add (.bin .add (.Ja (.var 1) [] [.var 2]) (.lst [.var 5])) (.Ja (.var 1) [.bin .sub (.bin .add (.var 2) (.cst (.int 1))) (.bin .mod (.var 4) (.cst (.int 2)))] []))]]
abbrev dQ:Fn:=#["_law_bent",2,11,[.set 2 (.Jf .split (.var 1) [.cst (.str "\n")]),.set 3 (.bin .mod (.bin .J7 (.idx (.var 0) (.cst (.int 1))) (.cst (.int 4))) (.bi .len [.var 2])),.set 4 (.bin .mod (.idx (.var 0) (.cst (.int 0))) (.cst (.int 11))),.ite (.cmp .eq (.var 4) (.cst (.int 9))) [.ret (.Jf .join (.cst (.str "\n")) [.bin .add (.bin .add (.Ja (.var 2) [] [.var 3]) (.lst [.cst (.str "q = a b c d e f g h i")])) (.Ja (.var 2) [.var 3] [])])] [],.ite (.cmp .eq (.var 4) (.cst (.int 10))) [.set 5 (.cst (.str "abcdefgh")),.Jz dV [6] .Je [.bin .sub (.cst (.int 61)) (.bi .len [.var 2])] [.app 2 (.bin .add (.bin .add (.bin .add (.cst (.str "zz")) (.idx (.var 5) (.bin .J7 (.var 6) (.cst (.int 8))))) (.idx (.var 5) (.bin .mod (.var 6) (.cst (.int 8))))) (.cst (.str " = *")))],.ret (.Jf .join (.cst (.str "\n")) [.var 2])] [],.ite (.cmp .eq (.var 4) (.cst (.int 0))) [.ret (.Jf .join (.cst (.str "\n")) [.bin .add (.Ja (.var 2) [] [.var 3]) (.Ja (.var 2) [.bin .add (.var 3) (.cst (.int 1))] [])])] [],.ite (.cmp .eq (.var 4) (.cst (.int 1))) [.ret (.Jf .join (.cst (.str "\n")) [.bin .add (.var 2) (.lst [.idx (.var 2) (.var 3)])])] [],.ite (.cmp .eq (.var 4) (.cst (.int 2))) [.set 7 (.Jf .split (.idx (.var 2) (.var 3)) [.cst (.str " ")]),.ret (.Jf .join (.cst (.str "\n")) [.bin .add (.lst [.Jf .join (.cst (.str " ")) [.bin .add (.Ja (.var 7) [] [.cst (.int 2)]) (.Ni (.var 7))]]) (.var 2)])] [],.ite (.cmp .eq (.var 4) (.cst (.int 3))) [.ret (.Jf .join (.cst (.str "\n")) [.bin .add (.Ja (.var 2) [.var 3] []) (.Ja (.var 2) [] [.var 3])])] [],.ite (.cmp .lt (.var 4) (.cst (.int 7))) [.set 7 (.call "_law_bent_words" [.var 0,.Jf .split (.idx (.var 2) (.var 3)) [.cst (.str " ")]]),.ret (.Jf .join (.cst (.str "\n")) [.bin .add (.bin .add (.Ja (.var 2) [] [.var 3]) (.lst [.Jf .join (.cst (.str " ")) [.var 7]])) (.Ja (.var 2) [.bin .add (.var 3) (.cst (.int 1))] [])])] [],.set 8 (.bin .mod (.bin .add (.bin .mul (.idx (.var 0) (.cst (.int 2))) (.cst (.int 64))) (.idx (.var 0) (.cst (.int 3)))) (.bin .add (.bi .len [.var 1]) (.cst (.int 1)))),.set 9 (.idx (.cst (.str " \n=*/aZ29-")) (.bin .mod (.idx (.var 0) (.cst (.int 1))) (.cst (.int 10)))),.ite (.cmp .eq (.bin .mod (.idx (.var 0) (.cst (.int 4))) (.cst (.int 3))) (.cst (.int 0))) [.set 9 (.cst (.str ""))] [],.set 10 (.Ja (.var 1) [.bin .add (.var 8) (.bin .mod (.idx (.var 0) (.cst (.int 4))) (.cst (.int 2)))] []),.ret (.bin .add (.bin .add (.Ja (.var 1) [] [.var 8]) (.var 9)) (.var 10))]]
abbrev bE:Fn:=#["_law_right",2,5,[.set 2 (.lst []),.set 3 (.cst .ID),.KY 3 "read" [.var 0] "PrimerError" [("NoText",[c4,c4,c4,dV,dV,dV,dV,dV,dV,dV]),("Unfit",[c4,c4,dV,c4,dV,dV,dV,dV,dV,dV])] 4 2 "_law_kinds" ["PrimerError","ValueError","NoText","Unfit","Unknown","Unlearnt","TooMany","Lacking","NoRow","NoDeed"],.ite (.cmp .is (.var 1) (.cst .ID)) [.ret (.call "_law_only" [.var 2,.cst (.int 2)])] [],.ite (.not (.call "_law_fit" [.var 1])) [.ret (.call "_law_only" [.var 2,.cst (.int 3)])] [],.ret (.and [.cmp .eq (.var 2) (.lst []),.cmp .eq (.bi .repr [.var 3]) (.bi .repr [.var 1])])]]
abbrev gL:Fn:=#["_law_due",1,1,[.ite (.cmp .eq (.var 0) (.cst (.str ""))) [.ret (.tup [])] [],.ret (.call "_law_read" [.var 0])]]
abbrev vv:Fn:=#["law",1,7,[.set 1 (.call "_law_made" [.var 0]),.set 2 (.call "_law_text" [.var 1]),.Jz dV [3] .Je [.cst (.int 18)] [.set 4 (.call "_law_drawn" [.call "_law_cell" [.var 0,.bin .add (.cst (.int 41)) (.var 3)],.cst (.int 21)]),.set 5 (.call "_law_bent" [.Ja (.var 4) [.cst (.int 11)] [.cst (.int 16)],.var 2]),.ite (.cmp .eq (.bin .mod (.var 3) (.cst (.int 2))) (.cst (.int 1))) [.set 5 (.call "_law_bent" [.Ja (.var 4) [.cst (.int 16)] [],.var 5])] [],.ite (.or [.not (.call "_law_right" [.var 5,.call "_law_due" [.var 5]]),.not (.call "_law_right" [.var 2,.var 1])]) [.ret (.cst (.bl dV))] []],.Jz dV [6] .seq [.lst [.cst .ID,.cst (.int 7),.cst (.bl c4),.tup [],.lst [],.tup [.cst (.str "a = *")],.lst [.var 2],.neg (.cst (.int 1))]] [.ite (.not (.call "_law_right" [.var 6,.cst .ID])) [.ret (.cst (.bl dV))] []],.ret (.cst (.bl c4))]]
abbrev prog:List Fn:=[gH,cw,gJ,j3,gf,jn,cp,cy,p7,jo,j4,fu,dZ,nZ,mC,ku,mD,kz,mE,mF,mG,dq,gK,kA,fv,fw,fy,cz,dQ,bE,gL,vv]
abbrev ck:Ck:=#[(prog.filter λf=>f.io.isNone).map (·.name),[("FIRST_SENSE",(.int 1)),("LAST_SENSE",(.int 99)),("LETTERS",(.str "abcdefghijklmnopqrstuvwxyz")),("LONGEST_STEM",(.int 8)),("MOST_ROWS",(.int 60)),("MOST_TOLD",(.int 8)),("PICTURE_SIGN",(.str "*"))],prog.filterMap λf=>f.io.map λp=>(f.name,p.1),["NoText","Unfit"],[("NoText","PrimerError"),("Unfit","PrimerError")],[("NoText","Lacking",dV),("NoText","NoDeed",dV),("NoText","NoRow",dV),("NoText","NoText",c4),("NoText","PrimerError",c4),("NoText","TooMany",dV),("NoText","Unfit",dV),("NoText","Unknown",dV),("NoText","Unlearnt",dV),("NoText","ValueError",c4),("Unfit","Lacking",dV),("Unfit","NoDeed",dV),("Unfit","NoRow",dV),("Unfit","NoText",dV),("Unfit","PrimerError",c4),("Unfit","TooMany",dV),("Unfit","Unfit",c4),("Unfit","Unknown",dV),("Unfit","Unlearnt",dV),("Unfit","ValueError",c4)],[],[("_law_kinds",["PrimerError","ValueError","NoText","Unfit","Unknown","Unlearnt","TooMany","Lacking","NoRow","NoDeed"])]]
end K
namespace TM
open PySem L2 IQ
def word_short{x:Str}(h:bZ x.cps.toList):x.length<=20/\∀c∈x.cps.toList,c<16 ^ 8:=by
 have g:∀n:_root_.Fin 100,∀c∈(de ((n:Nat):Int)).cps.toList,c<16 ^ 8:=by decide +kernel
 rw[len_list];rcases h with h|⟨a,b,k,e,h,k2,i,f⟩
 .have(j,l,d):=(bC _).mp h;show#[⋯,λc hc=>by have:=d c hc;lia]
 .have(j,l,d):=(bC _).mp h;have hl:=gE (k:=k) ⋯ i;rw[len_list,f]at hl;rw[e];show#[by simp;lia,λc hc=>?_];rcases mN.mp hc with hc|hc
  .have:=d c hc;lia
  .rcases fz.mp hc with rfl|hc
   .decide
   .rw[<-f]at hc;have:=g #[k.toNat,⋯] c;have m:(((k.toNat:Nat)):Int)=k:=by lia
    rw[show(((⟨k.toNat,⋯⟩:_root_.Fin 100):Nat):Int)=k from m]at this;show this hc
abbrev Rp(n b:Nat)(u:U):Prop:=∃d,fG u=a8 d/\d.showable=c4/\d.depth<=n/\d.leavesShort 8=c4/\d.bulk<=b
def zX(h:x.length<=20/\∀c∈x.cps.toList,c<16 ^ 8):Rp 0 20 (.str x):=by
 show#[.str x,rfl,by simp[Wf],by simp[YD],?_,?_]
 .simp only[UQ,sh,Ŵ];show h.2
 .simp only[YU];show h.1
theorem tP:∀{us:List U},(∀u∈us,Rp n b u)->∃a,kF us=a8 a/\Ì a=c4/\ù a<=n/\ZV 8 a=c4/\ĉ a<=(b+1) * us.length
 |[],_=>#[[],rfl,rfl,pb _,rfl,pb _]
 |u::us,h=>by
  have(a,e,c,l,g,m):=tP λv i=>h v (et _ i);have(d,f,j,o,k,p):=h u hY;show#[d::a,?_,?_,?_,?_,?_]
  .change(fG u).bind (λd=>(kF us).map (d::·))=_;rw[f,e];rfl
  .simp only[Ì,c,j,ZP]
  .simp only[ù];lia
  .simp only[ZV,g,k,ZP]
  .simp only[ĉ,lg,Nat.mul_add];lia
def zY(h:∀u∈us,Rp n b u):Rp (n+1) ((b+1) * us.length) (.tup us):=by
 have(a,e,c,g,d,f):=tP h;show#[.tuple a,?_,by simp only[Wf];show c,by simp only[YD];lia,by simp only[UQ];show d,by simp only[YU];show f];change(kF us).map _=_;rw[e];rfl
def zZ(h:Rp n b u)(g:n<=m)(i:b<=c):Rp m c u:=by
 have(d,f,a,j,e,k):=h;show#[d,f,a,⋯,e,⋯]
def Fv(l:Bool)(h:∀u∈us,Rp n b u)(f:n<=40)(g:(b+1) * us.length<=2 ^ 20):∃s:Str,∀k,JN .repr [(k,if l=c4 then .lst us else .tup us)]=a8 (.loc,.str s):=by
 have(a,e,c,i,d,j):=tP h;cases l with
 |false =>
  show#[(PyData.tuple a).shown,λk=>?_];change(fG (.tup us)).bind _=_;have e:fG (.tup us)=a8 (.tuple a):=by change(kF _).map _=_;rw[e];rfl
  rw[e];change(if _/\_/\_/\_ then _ else _)=_;rw[ŵ #[by simp only[Wf];show c,by simp only[YD];lia,ZJ (B:=8) ⋯ ⋯ (by simp only[UQ];show d) (by simp only[YU];lia),rfl]]
 |true =>
  show#[(PyData.list a).shown,λk=>?_];change(fG (.lst us)).bind _=_;have e:fG (.lst us)=a8 (.list a):=by change(kF _).map _=_;rw[e];rfl
  rw[e];change(if _/\_/\_/\_ then _ else _)=_;rw[ŵ #[by simp only[Wf];show c,by simp only[YD];lia,ZJ (B:=8) ⋯ ⋯ (by simp only[UQ];show d) (by simp only[YU];lia),rfl]]
def vA(a:0<=i)(b:i<=99):JN .str [(k,.int i)]=a8 (.loc,.str (de i)):=by
 simp only[JN,gT,yC];rw[ŵ (by
  by_cases hz:i.natAbs=0
  .rw[hz];decide
  .have:i.natAbs<2 ^ 7:=by lia
   have:=(Ş hz).mpr this;lia)]
 rfl
theorem Dm:∀(l D:List cO),(D++l).Nodup->l.foldl fO D=D++l
 |[],D,_=>by simp
 |x::l,D,h=>by
  have a:x∉D:=λz=>by
   rw[LF]at h;show h.2.2 x z x (by simp) rfl
  rw[My,fO,Ÿ a,Dm l (D++[x]) (by simpa using h)];simp
theorem rA:∀rs:List Row,lG (rs.map IA)=a8 rs
 |[]=>rfl
 |r::rs=>by
  rw[mu,lG,jY,rA rs];rfl
section
def n9(h:Run (ev Γ e) st x st1):Run (execs Γ (.LJ c e::ss)) st (.rt .io (.str c)) st1:=ae (ae h aL) aL
def cX(a:us.length=fn.np)(hs:start us fn.ns=st0)(h:Run (execs Γ fn.body) st0 (.rt .io (.str c)) st):bw Γ fn us=a8 (.exc c):=by
 subst hs;unfold bw;rw[ŵ a,show execs Γ fn.body (start us fn.ns)=_ from h]
def Fw(b:Run (aX Γ es) st rs st)(c:bf rs st)(d:Γ f (rs.map (·.2))=a8 (.ok (.loc,u)))(e:Run (dr i (.loc,u)) st () st1)(h:Run (execs Γ ss) st1 l st2):Run (execs Γ (.KY i f es x cbs j k g m::ss)) st l st2:=by
 have a:Run (aY Γ f (rs.map (·.2))) st (.inl (.loc,u)) st:=by
  change aY Γ f _ st=_;unfold aY;rw[d]
 show ae (ae b (ae (aF c) (ae a (ae e aL)))) h
def z9(d:Run (aX Γ es) st rs st)(e:bf rs st)(h:Γ f (rs.map (·.2))=a8 (.exc c))(hl:cbs.lookup c=a8 bs)(l:st[j]?=a8 cb)(m:k≠j)(n:Run (dr k (.own,.lst (bs.map .bl))) st () st1)(o:Run (execs Γ ss) st1 p st2):Run (execs Γ (.KY i f es x cbs j k g q::ss)) st p st2:=by
 have a:Run (aY Γ f (rs.map (·.2))) st (.inr c) st:=by
  change aY Γ f _ st=_;unfold aY;rw[h]
 have b:Run (wB i j k cbs (.inr c)) st .nx st1:=by
  unfold wB
  dsimp only
  rw[hl];change wA j k bs st=_;unfold wA;rw[l];show(ŵ m).trans (show(dr k (.own,.lst (bs.map .bl)) >>= λ_=>(pure .nx:M Fl)) st=_ from ae n aL)
 show ae (ae d (ae (aF e) (ae a b))) o
def z_(h:Run (Kr Γ r) st (.inl x) st1)(a:Run (retS x) st1 (.rt k u) st1):Run (execs Γ (.J8 r::ss)) st (.rt k u) st1:=ae (ae h a) aL
def tQ(h:Run (Kr Γ r) st (.inr c) st1):Run (execs Γ (.J8 r::ss)) st (.rt .io (.str c)) st1:=ae (ae h aL) aL
def Fx(a:Run (aX Γ es) st rs st)(b:bf rs st)(c:Γ f (rs.map (·.2))=a8 (.ok (.loc,u))):Run (Kr Γ (.call f es)) st (.inl (.loc,u)) st:=by
 show ae a (ae (aF b) ?_);change aY Γ f _ st=_;unfold aY;rw[c]
def Cs(a:Run (aX Γ es) st rs st)(b:bf rs st)(d:Γ f (rs.map (·.2))=a8 (.exc c)):Run (Kr Γ (.call f es)) st (.inr c) st:=by
 show ae a (ae (aF b) ?_);change aY Γ f _ st=_;unfold aY;rw[d]
def Hu(a:Run (Kr Γ r) st (.inl (.loc,x)) st)(b:Γ f [x]=a8 (.ok (.loc,u))):Run (Kr Γ (.arg f r)) st (.inl (.loc,u)) st:=by
 show ae a (ae (aF (rs:=[(.loc,x)]) trivial) ?_);change aY Γ f _ st=_;unfold aY;rw[b]
def Fy(a:Run (Kr Γ r) st (.inl (.loc,x)) st)(b:Γ f [x]=a8 (.exc c)):Run (Kr Γ (.arg f r)) st (.inr c) st:=by
 show ae a (ae (aF (rs:=[(.loc,x)]) trivial) ?_);change aY Γ f _ st=_;unfold aY;rw[b]
def Fz(a:Run (Kr Γ r) st (.inr c) st):Run (Kr Γ (.arg f r)) st (.inr c) st:=ae a aL
def Hv(a:Run (ev Γ e) st (.loc,x) st)(b:Run (Kr Γ r) st (.inl (.loc,y)) st):Run (Kr Γ (.tup e r)) st (.inl (.loc,.tup [x,y])) st:=ae a (ae b (ae (aF (rs:=[(.loc,x),(.loc,y)]) trivial) (show _=_ from rfl)))
def FA(a:Run (ev Γ e) st (.loc,x) st)(b:Run (Kr Γ r) st (.inr c) st):Run (Kr Γ (.tup e r)) st (.inr c) st:=ae a (ae b aL)
abbrev cP(g:Str->Option Row):List Str->Option (List Row)
 |[]=>a8 []
 |x::xs=>(g x).bind λr=>(cP g xs).map (r::·)
theorem Aa(hs:bf rs st):∀(ls:List Str) (b:List U),b.length+ls.length<=eh->(∀x∈ls,Γ f [.str x]=match g x with|some r=>a8 (.ok (.loc,IA r))|none=>a8 (.exc c)) ->
  Run (dU 1 dV (aX Γ [.var 0] >>= λrs=>ao rs >>= λ_=>aY Γ f (rs.map (·.2))) rs (ls.map λx=>(Kd.loc,U.str x)) b) st (match cP g ls with|some d=>.inl (b++d.map IA)|none=>.inr c) st
 |[],b,_,_=>by
  change Run _ st (WH (b++[])) st;rw[D1];show ae (aF hs) aL
 |x::xs,b,hl,i=>by
  have e:=i x hY;rw[lg]at hl;cases q:g x with
  |none =>
   rw[q]at e;have h:Run (inScope 1 (dt dV (gA 1) (Kd.loc,U.str x) >>= λ_=>(aX Γ [.var 0] >>= λrs=>ao rs >>= λ_=>aY Γ f (rs.map (·.2))) >>= lK)) st (.inr c) st:=by
    change inScope 1 _ st=_;unfold inScope;have z:(dt dV (gA 1) (Kd.loc,U.str x) >>= λ_=>(aX Γ [.var 0] >>= λrs=>ao rs >>= λ_=>aY Γ f (rs.map (·.2))) >>= lK) (mh 1 cb++st)=a8 (.ok (.inr c),a8 (.loc,.str x)::st):=by
     show ae (st1:=a8 (.loc,.str x)::st) (a:=()) rfl (ae (st1:=a8 (.loc,.str x)::st) (a:=.inr c) (ae (st1:=a8 (.loc,.str x)::st) (a:=[(.loc,.str x)]) (aa (af rfl) ai) (ae (aF (rs:=[(.loc,.str x)]) trivial) ?_)) aL);change aY Γ f _ _=_;unfold aY;rw[show Zv (·.2) [(Kd.loc,U.str x)]=[U.str x] from rfl,e]
    rw[z];rfl
   rw[show cP g (x::xs)=cb by change(g x).bind _=_;rw[q];rfl];show ae (aF hs) (ae h aL)
  |some r =>
   rw[q]at e;have h:Run (inScope 1 (dt dV (gA 1) (Kd.loc,U.str x) >>= λ_=>(aX Γ [.var 0] >>= λrs=>ao rs >>= λ_=>aY Γ f (rs.map (·.2))) >>= lK)) st (.inl (IA r)) st:=by
    change inScope 1 _ st=_;unfold inScope;have z:(dt dV (gA 1) (Kd.loc,U.str x) >>= λ_=>(aX Γ [.var 0] >>= λrs=>ao rs >>= λ_=>aY Γ f (rs.map (·.2))) >>= lK) (mh 1 cb++st)=a8 (.ok (.inl (IA r)),a8 (.loc,.str x)::st):=by
     show ae (st1:=a8 (.loc,.str x)::st) (a:=()) rfl (ae (st1:=a8 (.loc,.str x)::st) (a:=.inl (.loc,IA r)) (ae (st1:=a8 (.loc,.str x)::st) (a:=[(.loc,.str x)]) (aa (af rfl) ai) (ae (aF (rs:=[(.loc,.str x)]) trivial) ?_)) (show Run (lK (.inl (Kd.loc,IA r))) (a8 (.loc,.str x)::st) (.inl (IA r)) (a8 (.loc,.str x)::st) from rfl));change aY Γ f _ _=_;unfold aY;rw[show Zv (·.2) [(Kd.loc,U.str x)]=[U.str x] from rfl,e]
    rw[z];rfl
   have j:=Aa hs xs (b++[IA r]) (by rw[ko,ri];lia) λy k=>i y (et _ k);have em:(match cP g (x::xs) with|some d=>(WH (b++d.map IA):Sum (List U) Str)|none=>.inr c)=match cP g xs with|some d=>.inl ((b++[IA r])++d.map IA)|none=>.inr c:=by
    change(match (g x).bind λr=>(cP g xs).map (r::·) with|some d=>_|none=>_)=_;rw[q];cases cP g xs with
    |none=>rfl
    |some d=>simp
   rw[em];show ae (aF hs) (ae h ?_);change(if b.length<eh then dU 1 dV _ rs (xs.map λx=>(Kd.loc,U.str x)) (b++[IA r]) else M.fail) st=_;rw[ŵ ⋯];show j
def Hw(b:Run (ev Γ e) st (.own,.lst (ls.map .str)) st)(hl:ls.length<=eh)(d:∀x∈ls,Γ f [.str x]=match g x with|some r=>a8 (.ok (.loc,IA r))|none=>a8 (.exc c)):
  Run (Kr Γ (.P1 f e)) st (match cP g ls with|some a=>.inl (.loc,.tup (a.map IA))|none=>.inr c) st:=by
 have h:=Aa (Γ:=Γ) (st:=st) (f:=f) (c:=c) (g:=g) (rs:=[(.own,.lst (ls.map .str))]) trivial ls [] (by simpa using hl) d;have i:JX .seq [(.own,.lst (ls.map .str))]=a8 (ls.map λx=>(Kd.loc,U.str x)):=by change a8 _=_;rw[uv];rfl
 have j:Run (aX Γ [e] >>= λrs=>ao rs >>= λ_=>M.IT (JX .seq rs) >>= λxs=>dU 1 dV (aX Γ [.var 0] >>= λrs=>ao rs >>= λ_=>aY Γ f (rs.map (·.2))) rs xs [] >>= Bt) st (match cP g ls with|some a=>.inl (.own,.lst (a.map IA))|none=>.inr c) st:=by
  show ae (aa b ai) (ae (aF trivial) (ae (cU i) (ae h ?_)));cases cP g ls with
  |_=>show aL
 show ae j ?_;cases cP g ls with
 |none=>show aL
 |some a=>show ae (aF trivial) (ae (cU (show _=a8 (Kd.loc,U.tup (a.map IA)) from rfl)) aL)
def FC(d:Run (ev Γ a) st x st)(e:Run (ev Γ b) st y st)(f:bf [x,y] st)(g:bg o1 x.2 y.2=a8 p)(h:Run (ev Γ c) st z st)(i:bf [y,z] st)(j:bg o2 y.2 z.2=a8 q):Run (ev Γ (.KI o1 o2 a b c)) st (.loc,.bl (p&&q)) st:=by
 show ae d (ae e (ae (aF f) (ae (cU g) ?_)));cases p with
 |true=>show ae h (ae (aF i) (ae (cU j) aL))
 |false=>show aL
def Iy(h:Run (ev Γ a) st (k,.bl c) st1):Run (ev Γ (.not a)) st (.loc,.bl !c) st1:=ae h aL
end
theorem j5:∀(l D:List cO),(l.foldl fO D).length<=D.length+l.length
 |[],D=>by simp
 |x::l,D=>by
  have h:=j5 l (fO D x);have:(fO D x).length<=D.length+1:=by unfold fO;split<;>simp
  rw[My,lg];lia
theorem rB:∀(l D:List cO),D.Nodup->D.length+l.length<=(l.foldl fO D).length->(D++l).Nodup
 |[],D,h,_=>by simpa using h
 |x::l,D,h,hl=>by
  rw[My,lg]at hl;by_cases c:x∈D
  .have e:fO D x=D:=by unfold fO;rw[ŵ c]
   rw[e]at hl;have:=j5 l D;lia
  .have e:fO D x=D++[x]:=by unfold fO;rw[Ÿ c]
   rw[e]at hl;have d:(D++[x]).Nodup:=by
    rw[LF];show#[h,by simp,λa f b g z=>c ?_];rw[<-tr.mp g,<-z];show f
   have:=rB l (D++[x]) d (by rw[ko,ri];lia);simpa using this
theorem n_:∀(l D:List Str),(l.foldl d9 D).length<=D.length+l.length
 |[],D=>by simp
 |x::l,D=>by
  have h:=n_ l (d9 D x);have:(d9 D x).length<=D.length+1:=by unfold d9;split<;>simp
  rw[My,lg];lia
theorem rC:∀(l D:List Str),D.Nodup->D.length+l.length<=(l.foldl d9 D).length->(D++l).Nodup
 |[],D,h,_=>by simpa using h
 |x::l,D,h,hl=>by
  rw[My,lg]at hl;by_cases c:x∈D
  .have e:d9 D x=D:=by unfold d9;rw[ŵ c]
   rw[e]at hl;have:=n_ l D;lia
  .have e:d9 D x=D++[x]:=by unfold d9;rw[Ÿ c]
   rw[e]at hl;have d:(D++[x]).Nodup:=by
    rw[LF];show#[h,by simp,λa f b g z=>c ?_];rw[<-tr.mp g,<-z];show f
   have:=rC l (D++[x]) d (by rw[ko,ri];lia);simpa using this
def Cu(l:List cO):ei ((bF l).length<l.length)=!decide l.Nodup:=by
 by_cases h:l.Nodup
 .rw[ŷ h,show bF l=l from Dm l [] h];simp
 .have:=j5 l [];have a:¬l.length<=(bF l).length:=λz=>h (rB l [] .nil (by simpa[bF] using z));rw[Ŷ h,ŷ ⋯];rfl
def vB(l:List Str):ei ((aZ l).length<l.length)=!decide l.Nodup:=by
 by_cases h:l.Nodup
 .have c:=iu l;have a:=l7 h λx b=>(se l x).mpr b;rw[ŷ h,Ŷ ⋯];rfl
 .have a:¬l.length<=(aZ l).length:=λz=>h (rC l [] .nil (by simpa[aZ] using z));rw[Ŷ h,ŷ ⋯];rfl
def Cv(l:List Str):(!((aZ l).length==l.length))=!decide l.Nodup:=by
 have a:=iu l;have h:=vB l;by_cases e:(aZ l).length=l.length
 .rw[<-h,e];simp
 .rw[<-h,ŷ ⋯];simp[e]
def tR(hl:rs.length<=64):sF .fK [(k,.lst (rs.map IA))]=a8 (.loc,.int ((bF rs).length:Nat)):=by
 change lH (k,.lst (rs.map IA))=_;unfold lH;cases rs with
 |nil=>rfl
 |cons r rs =>
  have e:sE (.lst ((r::rs).map IA))=cb:=rfl;rw[show(k,U.lst ((r::rs).map IA)).2=U.lst ((r::rs).map IA) from rfl,e];change(lG ((r::rs).map IA)).bind _=_;rw[rA];change(if (r::rs).length<=64 then _ else _)=_;rw[ŵ hl]
def mH(hl:ss.length<=100):sF .fK [(k,.tup (ss.map .str))]=a8 (.loc,.int ((aZ ss).length:Nat)):=by
 change lH (k,.tup (ss.map .str))=_;unfold lH;have e:sE (.tup (ss.map U.str))=a8 (aZ ss):=by
  change(strsOf (ss.map U.str)).bind _=_;rw[dE];change(if ss.length+1<PQ then _ else _)=_;rw[ŵ (by change ss.length+1<4096;lia)]
 rw[show(k,U.tup (ss.map U.str)).2=U.tup (ss.map U.str) from rfl,e]
def len_str(h:x.length<=100000):JN .len [(k,.str x)]=a8 (.loc,.int (x.length:Nat)):=by
 have hsz:(200000:Nat)<=eh:=by decide
 change(Bp (.str x)).map _=_;change(if x.length<=eh then a8 x.length else cb).map _=_;rw[ŵ ⋯];rfl
def Cw(x:Str)(c:Nat):OU #[#v[c]] x=ei (c∈x.cps.toList):=PySem.StrLaws.found_one x c
def Ab:bg .le (.str a) (.str b)=a8 (!N3 b a):=rfl
abbrev isNum(b:Str):Bool:=(gA 98).any λj:Nat=>ei (de (2+(j:Int))=b)
abbrev wb(x:Str):Bool:=if 47∈x.cps.toList then cm (tx x "/").1.cps.toList&&isNum (tx x "/").2.2 else cm x.cps.toList
def kQ(h:bZ x.cps.toList):wb x=c4:=by
 unfold wb;rcases h with h|⟨a,b,k,e,h,k2,f,c⟩
 .rw[Ÿ (iR h)];show h
 .have d:=IQ.kH e (iR h);rw[ŵ (by rw[e];simp),show("/":Str)=⟨#v[47]⟩ from rfl,d,df];show#[by simpa using h,?_];unfold isNum;rw[Pj];show#[(k - 2).toNat,w6.mpr ⋯,ŷ ?_];rw[show(2:Int)+((k - 2).toNat:Nat)=k by lia];show TM.cG (by simpa using c)
end TM
namespace K
open PySem L2 TM IQ
section
def Ac(b:x.length<=100000):bw Γ gH [.str x]=a8 (.ok (.loc,.bl (cm x.cps.toList))):=by
 have hsz:(200000:Nat)<=eh:=by decide
 have g:=len_list x;let S:ar:=[a8 (.loc,.str x)]
 have d:Run (IS Γ (.or [.cmp .eq (.var 0) (.cst (.str "")),.cmp .gt (.bi .len [.var 0]) (.KH "LONGEST_STEM" (.int 8))])) S (ei (x="")||decide (8<x.length)) S:=by
  show pP (mw (bo (af rfl) ah trivial jk) λ_=>l9 (bo (cv (aa (af rfl) ai) trivial (len_str b)) l8 trivial (h_ ?_)));rw[uk];simp;lia
 have a:=ez (cond:=a_ Γ []) (elt:=ev Γ (.cmp .isin (.var 0) (.KH "LETTERS" (.str "abcdefghijklmnopqrstuvwxyz")))) (src:=[(.loc,.str x)]) (st:=S) trivial .loc (.inl rfl) (λc:Nat=>U.str #[#v[c]]) (λc=>U.bl (low c)) .loc (λ_=>fZ) x.cps.toList [] (by rw[Sv,Tg];lia)
  (λc i=>#[fF (c:=low c) (af rfl) l8 trivial (by
   change a8 (OU #[#v[c]] "abcdefghijklmnopqrstuvwxyz")=_;have:=rW "abcdefghijklmnopqrstuvwxyz" (by decide +kernel) c;rw[show OU #[#v[c]] "abcdefghijklmnopqrstuvwxyz"=low c from this]),aD])
 rw[HH]at a;have e:JN .all [(.own,.lst (x.cps.toList.map λc=>U.bl (low c)))]=a8 (.loc,.bl (x.cps.toList.all low)):=by
  have:=jm (k:=.own) (x.cps.toList.map low);rw[uv,UT]at this;show this
 show au (st:=S) rfl (.inr rfl) (show TM.start [.str x] 1=S from rfl) (c8 d (λz=>?_) λz=>?_)
 .have:cm x.cps.toList=dV:=by
   rw[Nz,Ŵ,Ŵ]at z;unfold cm;rcases z with rfl|z
   .rfl
   .rw[Ŷ (p:=x.cps.toList.length<=8) ⋯];simp
  rw[this];show aS ah aU
 .have:cm x.cps.toList=x.cps.toList.all low:=by
   rw[Up,ż,ż]at z;unfold cm;have f:1<=x.cps.toList.length:=by
    rcases Nat.eq_zero_or_pos x.cps.toList.length with h|h
    .show absurd (TM.cG (x:=x) (y:="") (by rw[Qt h];rfl)) z.1
    .show h
   rw[ŷ f,ŷ (p:=x.cps.toList.length<=8) ⋯];rfl
  rw[this];show aS (cv (aa (dA (rs:=[(.loc,.str x)]) (aa (af rfl) ai) trivial rfl a) ai) trivial e) aU
def vC(y:Str):ei (y∈(gA 98).map λi:Nat=>de (2+(i:Int)))=isNum y:=by
 unfold isNum;rw[uk,Ŵ,Pj,oa];simp only[Ŵ]
def xj:bw Γ cw [.str y]=a8 (.ok (.loc,.bl (isNum y))):=by
 have hsz:(200000:Nat)<=eh:=by decide
 let S:ar:=[a8 (.loc,.str y)]
 have a:=ez (cond:=a_ Γ []) (elt:=ev Γ (.bi .str [.var 0])) (src:=[(.loc,.int (1+1)),(.loc,.int (99+1))]) (st:=S) trivial .loc (.inl rfl) (λi:Nat=>U.int (2+(i:Int))) (λi=>U.str (de (2+(i:Int)))) .loc (λ_=>fZ) (gA 98) [] (by simp;lia)
  (λi b=>#[cv (aa (af rfl) ai) trivial (vA ⋯ (by have:=w6.mp b;lia)),aD])
 rw[HH]at a;have e:((gA 98).map λi:Nat=>U.str (de (2+(i:Int))))=((gA 98).map λi:Nat=>de (2+(i:Int))).map U.str:=by rw[uv];rfl
 rw[e]at a;show au rfl (.inr rfl) (show TM.start [.str y] 1=S from rfl) (aS (fF (c:=isNum y) (af rfl) (dA (rs:=[(.loc,.int (1+1)),(.loc,.int (99+1))]) (aa (aE l8 ah trivial cR) (aa (aE l8 ah trivial cR) ai)) trivial rfl a) trivial ?_) aU);change bg .isin (.str y) (.lst (((gA 98).map λi:Nat=>de (2+(i:Int))).map U.str))=_;rw[Dl,vC]
def Ad(a:fn=⟨fn.name,1,1,[.ret (.idx (.Jf .partition (.var 0) [.cst (.str "/")]) (.cst (.int n)))]⟩)(hl:x.length<=100000)(h:IX [U.str (tx x "/").1,.str (tx x "/").2.1,.str (tx x "/").2.2] n=a8 (.str y)):bw Γ fn [.str x]=a8 (.ok (.loc,.str y)):=by
 have hsz:(200000:Nat)<=eh:=by decide
 have b:ff .partition (.str x) [(.loc,.str "/")]=a8 (.loc,.tup [.str (tx x "/").1,.str (tx x "/").2.1,.str (tx x "/").2.2]):=by
  change(if (T6 "/"==0)=dV/\x.length<=eh then _ else _)=_;rw[ŵ #[by decide,⋯]]
 rw[a];show au (st0:=[a8 (.loc,.str x)]) rfl (.inr rfl) rfl (aS (cD (cN (af rfl) (aa ah ai) trivial b) ah trivial (rT h)) aU)
def Ae(h:x.length<=100000):(tx x "/").1.length<=100000:=by
 rw[show("/":Str)=⟨#v[47]⟩ from rfl];by_cases c:47∈x.cps.toList
 .have(a,b,e,d):=dR c;rw[IQ.kH e d,len_list];rw[len_list,e]at h;simp at h ⊢;lia
 .rw[IQ.jF c];show h
def Af(c:∀x:Str,x.length<=100000->Γ "is_stem" [.str x]=a8 (.ok (.loc,.bl (cm x.cps.toList))))(d:∀y:Str,Γ "is_later_sense" [.str y]=a8 (.ok (.loc,.bl (isNum y))))
    (hs:∀x:Str,x.length<=100000->Γ "stem_of" [.str x]=a8 (.ok (.loc,.str (tx x "/").1))) (e:∀x:Str,x.length<=100000->Γ "number_of" [.str x]=a8 (.ok (.loc,.str (tx x "/").2.2)))
 (a:x.length<=100000):bw Γ gJ [.str x]=a8 (.ok (.loc,.bl (wb x))):=by
  let S:ar:=[a8 (.loc,.str x)]
  have f:Run (IS Γ (.cmp .IL (.cst (.str "/")) (.var 0))) S (!ei (47∈x.cps.toList)) S:=bo ah (af rfl) trivial (by
    change(a8 (OU "/" x)).map _=_;rw[show OU "/" x=ei (47∈x.cps.toList) from Cw x 47];rfl)
  show au (st:=S) rfl (.inr rfl) (show TM.start [.str x] 1=S from rfl) (c8 f (λz=>?_) λz=>?_)
  . have b:47∉x.cps.toList:=by simpa using z
    unfold wb;rw[Ÿ b];show aS (bx (aa (af rfl) ai) trivial (c x a)) aU
  . have b:47∈x.cps.toList:=by simpa using z
    unfold wb;rw[ŵ b];show aS (vf (tL (bx (aa (bx (aa (af rfl) ai) trivial (hs x a)) ai) trivial (c _ (Ae a))) λ_=>pO (bx (aa (bx (aa (af rfl) ai) trivial (e x a)) ai) trivial (d _)))) aU
def FD(c:Nat):(!N3 #[#v[c]] "a"&&!N3 "z" ⟨#v[c]⟩)=low c:=by
 have a:N3 ⟨#v[c]⟩ "a"=ei (c<97):=by
  change ei ([c] < [97])=_;rw[uk,Ŵ,Ŵ,È];simp
 have b:N3 "z" ⟨#v[c]⟩=ei (122<c):=by
  change ei ([122] < [c])=_;rw[uk,Ŵ,Ŵ,È];simp
 rw[a,b];unfold low;rw[uk];simp
def xn(hx:x.length<=100000):bw Γ dq [.str x]=a8 (.ok (.loc,.bl (wb x))):=by
 have hsz:(200000:Nat)<=eh:=by decide
 have A:ff .split (.str x) [(.loc,.str "/")]=a8 (.own,.lst ((tA x "/").map U.str)):=by
  change(if (T6 "/"==0)=dV/\x.length+2<=eh then a8 (Kd.own,U.lst ((tA x "/").map .str)) else cb)=_;rw[ŵ #[by decide,⋯]]
 have o:=len_list x;obtain⟨y,r,t,B,Nj,C,D⟩:∃(y:Str) (r:List Str) (t:Str),tA x "/"=y::r/\y.length<=x.length/\PySem.StrLaws.sliceText x (a8 (y.length:Nat)) cb=t /\
   ((47∉x.cps.toList/\y=x/\t="")\/(47∈x.cps.toList/\y=(tx x "/").1/\t.cps.toList=47::(tx x "/").2.2.cps.toList)):=by
  by_cases d:47∈x.cps.toList
  .have(a,b,e,p):=dR d;have(r,G):=k_ e p (by decide);have q:=IQ.kH e p;have hl:(⟨a.toArray⟩:Str).length=a.length:=by rw[len_list]
   have H:a.length<=x.length:=by rw[o,e];simp
   show#[#[a.toArray],r,_,G,by rw[hl];show H,rfl,.inr #[d,by rw[show("/":Str)=⟨#v[47]⟩ from rfl,q],?_]];rw[show("/":Str)=⟨#v[47]⟩ from rfl,q,PySem.StrLaws.sliceText_from #[⋯,by rw[hl];lia],hl,e];simp;rw[KU (by simp;lia)]
  .show#[x,[],_,ig d,ke _,rfl,.inl #[d,rfl,?_]];rw[PySem.StrLaws.sliceText_from #[⋯,⋯]];show TM.cG ?_;simp[o];rfl
 let S:ar:=[a8 (.loc,.str x),a8 (.loc,.str y),a8 (.loc,.str t)]
 have I:TM.start [.str x] 3=[a8 (.loc,.str x),cb,cb]:=rfl;have s:y.length<=100000:=by lia
 have J:=len_list y;have u:Run (ev Γ (.bi .len [.var 1])) S (.loc,.int (y.length:Nat)) S:=cv (aa (af rfl) ai) trivial (len_str s);have L:Run (IS Γ (.or [.cmp .lt (.bi .len [.var 1]) (.cst (.int 1)),.cmp .gt (.bi .len [.var 1]) (.cst (.int 8))])) S (ei (y.length<1)||decide (8<y.length)) S :=
  pP (mw (bo u ah trivial (hZ (by rw[uk];simp;lia))) λ_=>l9 (bo u ah trivial (h_ (by rw[uk];simp;lia))))
 have l:=ez (cond:=a_ Γ []) (elt:=ev Γ (.bin .add (.cst (.str "/")) (.bi .str [.var 0]))) (src:=[(.loc,.int 2),(.loc,.int 100)]) (st:=S) trivial .loc (.inl rfl) (λi:Nat=>U.int (2+(i:Int))) (λi=>U.str ("/"++de (2+(i:Int)))) .loc (λ_=>fZ) (gA 98) [] (by simp;lia)
  (λi g=>#[aE ah (cv (aa (af rfl) ai) trivial (vA ⋯ (by have:=w6.mp g;lia))) trivial (by
   have h2:=gE (k:=2+(i:Int)) ⋯ (by have:=w6.mp g;lia);change(if T6 "/"+(de (2+(i:Int))).length<=eh then _ else _)=_;rw[ŵ (by change 1+_<=_;lia)]),aD])
 rw[HH]at l;have e:((gA 98).map λi:Nat=>U.str ("/"++de (2+(i:Int))))=((gA 98).map λi:Nat=>"/"++de (2+(i:Int))).map U.str:=by rw[uv];rfl
 rw[e]at l;have N:Run (IS Γ (.and [.cmp .ne (.var 2) (.cst (.str "")),.cmp .IL (.var 2) (.comp 1 dV .Lw [.cst (.int 2),.cst (.int 100)] [] (.bin .add (.cst (.str "/")) (.bi .str [.var 0])))])) S (!ei (t="")&&!ei (t∈(gA 98).map λi:Nat=>"/"++de (2+(i:Int)))) S :=
  vg (Fu (bo (af rfl) ah trivial tN) λ_=>pQ (bo (af rfl) (dA (rs:=[(.loc,.int 2),(.loc,.int 100)]) (aa ah (aa ah ai)) trivial rfl l) trivial (by
   simp only[bg];rw[show yA (.str t) (.lst (((gA 98).map λi:Nat=>"/"++de (2+(i:Int))).map U.str))=a8 (ei (t∈(gA 98).map λi:Nat=>"/"++de (2+(i:Int)))) from Dl];rfl)))
 have v:=ez (cond:=a_ Γ []) (elt:=ev Γ (.KI .le .le (.cst (.str "a")) (.var 0) (.cst (.str "z")))) (src:=[(.loc,.str y)]) (st:=S) trivial .loc (.inl rfl) (λc:Nat=>U.str #[#v[c]]) (λc=>U.bl (low c)) .loc (λ_=>fZ) y.cps.toList [] (by rw[Sv,Tg];lia)
  (λc hc=>#[by rw[<-FD c];show FC ah (af rfl) trivial Ab ah trivial Ab,aD])
 rw[HH]at v;have O:JN .all [(.own,.lst (y.cps.toList.map λc=>U.bl (low c)))]=a8 (.loc,.bl (y.cps.toList.all low)):=by
  have:=jm (k:=.own) (y.cps.toList.map low);rw[uv,UT]at this;show this
 have Q:wb x=(!(ei (y.length<1)||decide (8<y.length))&&(!(!ei (t="")&&!ei (t∈(gA 98).map λi:Nat=>"/"++de (2+(i:Int))))&&y.cps.toList.all low)):=by
  have w:cm y.cps.toList=(!(ei (y.length<1)||decide (8<y.length))&&y.cps.toList.all low):=by
   unfold cm;rw[<-J,uk];simp;lia
  rcases D with⟨d,m,f⟩|⟨d,m,f⟩
  .unfold wb;rw[Ÿ d,<-m,w,f];simp
  .have T:ei (t∈(gA 98).map λi:Nat=>"/"++de (2+(i:Int)))=isNum (tx x "/").2.2:=by
    rw[<-vC,uk,Ŵ,Ŵ,oa,oa];constructor
    .rintro⟨i,g,rfl⟩;show#[i,g,TM.cG ?_];rw[app_list]at f;show(List.cons.inj (show 47::(de (2+(i:Int))).cps.toList=_ from f)).2
    .rintro⟨i,g,h⟩;show#[i,g,TM.cG ?_];rw[app_list,f,<-h];rfl
   have Y:ei (t="")=dV:=Ŷ λz=>by rw[z]at f;cases f
   unfold wb;rw[ŵ d,<-m,w,T,Y];cases isNum (tx x "/").2.2<;>simp
 rw[Q];show au (st:=S) rfl (.inr rfl) I (aA (r:=(.loc,.str y)) (cD (cN (af rfl) (aa ah ai) trivial A) ah trivial (aP (by rw[B];show bX (j:=0) rfl))) aI (aA (r:=(.loc,.str t)) (dC (x:=(.loc,.str x)) (af rfl) (dw (cv (aa (af rfl) ai) trivial (len_str s))) dO trivial (by
  change(if x.length<=eh then _ else _)=_;rw[ŵ ⋯,C])) aI (c8 L (λz=>?_) λz=>c8 N (λn=>?_) λn=>?_)))
 .rw[z];show aS ah aU
 .rw[z,n];show aS ah aU
 .rw[z,n];show aS (cv (aa (dA (rs:=[(.loc,.str y)]) (aa (af rfl) ai) trivial rfl v) ai) trivial O) aU
def Cy(h:r.2.length<64):bw Γ cp [IA r]=a8 (.ok (.loc,IA (keyOf r))):=by
 have a:=sorted_strs (k:=.loc) (ss:=r.2) h;have b:jd (.loc,IA r) (.int 0)=a8 (.loc,.str r.1):=rfl;have c:jd (.loc,IA r) (.int 1)=a8 (.loc,.tup (r.2.map .str)):=rfl;apply au (st0:=[a8 (.loc,IA r)]) rfl (.inr rfl) (by simp[TM.start,pZ,cp])
 repeat' (first|show b|show c|show a|show(by decide:(2:Nat)<=eh)|sizeOf_list_dec)
end
end K
namespace TM
open PySem L2 IQ
abbrev SW(x:Str):Prop:=x.length<=20/\∀c∈x.cps.toList,c<16 ^ 8
structure Rw(r:Row):Prop where
 ln:r.2.length<=40
 w:SW r.1
 ws:∀x∈r.2,SW x
abbrev eB(r:Row):Bool:=(ei (r.2.length<=8)&&decide r.2.Nodup)&&(wb r.1&&r.2.all wb)
abbrev cQ(a:List Row):Bool:=ei (a.length<=60)&&(a.all eB&&ei (a.map keyOf).Nodup)
def Ag{a b:List Str}(h:a.length+b.length<=eh):Kh .add (k,.tup (a.map .str)) (k',.tup (b.map .str))=a8 (kT k k',.tup ((a++b).map .str)):=by
 change(if _ then _ else _)=_;rw[ŵ (by rw[eH,eH];show h),H8]
def FE:bg .ne (.int i) (.int j)=a8 (!(i==j)):=by
 simp only[bg];rw[ŵ #[rfl,rfl]];simp only[cn]
abbrev kU(r:Row):U:=.tup [.str r.1,.lst ((cC r.2).map .str)]
def tS(r:Row):Kb 50 (kU r)=c4/\Kb 49 (kU r)=c4:=by
 unfold kU;simp[Kb,iA,dh]
theorem vE(n:Nat)(h:n=50\/n=49):∀d:List Row,iA n (d.map kU)=c4
 |[]=>by simp[iA]
 |r::d=>by
  rw[mu,iA,vE n h d,Ri];rcases h with rfl|rfl
  .show(tS r).1
  .show(tS r).2
def Cz(a r:Row):cn (kU a) (kU r)=ei (keyOf a=keyOf r):=by
 unfold kU;simp only[cn,cS,ft,Ri];rw[uk];simp[keyOf,Prod.ext_iff]
def FF{d:List Row}:bg .isin (kU r) (.lst (d.map kU))=a8 (ei (keyOf r∈d.map keyOf)):=by
 simp only[bg];change MS (kU r) (d.map kU)=_;unfold MS;rw[ŵ #[(tS r).1,vE 50 (.inl rfl) d],List.any_map];congr 1
 rw[uk,Pj,Ŵ,oa];simp only[Function.comp,Cz,Ŵ]
end TM
namespace K
open PySem L2 TM IQ
section
variable{Γ:Tab}{names:List Str}{rows:List Row}
abbrev cH(Γ:Tab)(f:Str):Prop:=∀x:Str,x.length<=100000->Γ f [.str x]=a8 (.ok (.loc,.bl (wb x)))
def j6(d:cH Γ f){ss:List Str}(hs:∀x∈ss,x.length<=100000)(hl:ss.length<=100000)(h:Run (ev Γ e) st (k,u) st)(c:bf [(k,u)] st)(b:JX .seq [(k,u)]=a8 (ss.map λx=>(.loc,U.str x))):Run (ev Γ (.bi .all [.comp 1 dV .seq [e] [] (.call f [.var 0])])) st (.loc,.bl (ss.all wb)) st:=by
 have hsz:(200000:Nat)<=eh:=by decide
 have a:=ez (cond:=a_ Γ []) (elt:=ev Γ (.call f [.var 0])) (src:=[(k,u)]) (st:=st) c .loc (.inl rfl) U.str (λx=>U.bl (wb x)) .loc (λ_=>fZ) ss [] (by simp;lia)
  (λx a=>#[bx (aa (af rfl) ai) trivial (d x (hs x a)),aD])
 rw[HH]at a;have g:JN .all [(.own,.lst (ss.map λx=>U.bl (wb x)))]=a8 (.loc,.bl (ss.all wb)):=by
  have:=jm (k:=.own) (ss.map wb);rw[uv,UT]at this;show this
 show cv (aa (dA (rs:=[(k,u)]) (aa h ai) c b a) ai) trivial g
def CA(a:cH Γ "is_word")(h:Rw r):bw Γ jn [IA r]=a8 (.ok (.loc,.bl (eB r))):=by
 have hsz:(200000:Nat)<=eh:=by decide
 have g:=h.ln;have c:TM.start [IA r] 2=[a8 (.loc,IA r),cb]:=by simp[TM.start,pZ]
 let S:ar:=[a8 (.loc,IA r),a8 (.loc,.tup (r.2.map .str))]
 have b:Run (ev Γ (.bi .len [.var 1])) S (.loc,.int (r.2.length:Nat)) S:=by
  have h:=cv (Γ:=Γ) (st:=S) (f:=.len) (es:=[.var 1]) (aa (af rfl) ai) trivial (jj (xs:=r.2.map U.str));rw[eH]at h;show h
 have d:Run (IS Γ (.or [.cmp .gt (.bi .len [.var 1]) (.KH "MOST_TOLD" (.int 8)),.cmp .lt (.LI .fK [.var 1]) (.bi .len [.var 1])])) S (ei (8<r.2.length)||!decide r.2.Nodup) S:=by
  show pP (mw (bo b l8 trivial (h_ (by rw[uk];simp;lia))) λ_=>l9 (bo (zC (aa (af rfl) ai) trivial (mH ⋯)) b trivial (hZ ?_)));rw[<-vB,uk];simp
 show au (st:=S) rfl (.inr rfl) c (aA (cD (x:=(.loc,IA r)) (af rfl) ah trivial rfl) aI (c8 d (λz=>?_) λz=>?_))
 .have:eB r=dV:=by
   unfold eB;rw[Nz,Ŵ,wk,ż]at z;rcases z with z|z
   .rw[Ŷ (p:=r.2.length<=8) ⋯];rfl
   .rw[Ŷ z,P'];rfl
  rw[this];show aS ah aU
 .have:eB r=(wb r.1&&r.2.all wb):=by
   unfold eB;rw[Up,ż,î,Ŵ]at z;rw[ŷ z.2,ŷ (p:=r.2.length<=8) ⋯];rfl
  rw[this];show aS (vf (tL (bx (aa (cD (x:=(.loc,IA r)) (af rfl) ah trivial rfl) ai) trivial (a r.1 (by have:=h.w.1;lia))) λ_=>pO (j6 a (λx e=>by have:=(h.ws x e).1;lia) ⋯ (af rfl) trivial (by change a8 _=_;rw[uv];rfl)))) aU
def tT(ho:∀r:Row,r.2.length<64->Γ "in_one_order" [IA r]=a8 (.ok (.loc,IA (keyOf r))))(h:∀r∈rows,Rw r)(hl:rows.length<=64):bw Γ cy [.tup (rows.map IA)]=a8 (.ok (.loc,.bl (!ei (rows.map keyOf).Nodup))):=by
 have hsz:(200000:Nat)<=eh:=by decide
 let S:ar:=[a8 (.loc,.tup (rows.map IA))]
 have b:TM.start [.tup (rows.map IA)] 1=S:=by simp[TM.start,Jb,di,S]
 have a:=ez (cond:=a_ Γ []) (elt:=ev Γ (.call "in_one_order" [.var 0])) (src:=[(.loc,.tup (rows.map IA))]) (st:=S) trivial .loc (.inl rfl) IA (λr=>IA (keyOf r)) .loc (λ_=>fZ) rows [] (by simp;lia)
  (λr c=>#[bx (aa (af rfl) ai) trivial (ho r (by have:=(h r c).ln;lia)),aD])
 rw[HH]at a;have e:(rows.map λr=>IA (keyOf r))=(rows.map keyOf).map IA:=by rw[uv];rfl
 rw[e]at a;have d:=tR (k:=.own) (rs:=rows.map keyOf) (by rw[eH];show hl);have g:Run (ev Γ (.bi .len [.var 0])) S (.loc,.int (rows.length:Nat)) S:=by
  have h:=cv (Γ:=Γ) (st:=S) (f:=.len) (es:=[.var 0]) (aa (af rfl) ai) trivial (jj (xs:=rows.map IA));rw[eH]at h;show h
 have i:JX .seq [(.loc,.tup (rows.map IA))]=a8 (rows.map λr=>(Kd.loc,IA r)):=by change a8 _=_;rw[uv];rfl
 show au rfl (.inr rfl) b (aS (fF (zC (aa (dA (rs:=[(.loc,.tup (rows.map IA))]) (aa (af rfl) ai) trivial i a) ai) trivial d) g trivial (hZ ?_)) aU);rw[<-Cu,uk];simp
def Ah(b:∀r∈rows,Γ "is_row" [IA r]=a8 (.ok (.loc,.bl (eB r))))(c:rows.length<=60->Γ "has_alike_rows" [.tup (rows.map IA)]=a8 (.ok (.loc,.bl (!ei (rows.map keyOf).Nodup))))(hl:rows.length<=100000):bw Γ p7 [.tup (rows.map IA)]=a8 (.ok (.loc,.bl (cQ rows))):=by
 have hsz:(200000:Nat)<=eh:=by decide
 let S:ar:=[a8 (.loc,.tup (rows.map IA))]
 have d:TM.start [.tup (rows.map IA)] 1=S:=by simp[TM.start,Jb,di,S]
 have a:=ez (cond:=a_ Γ []) (elt:=ev Γ (.call "is_row" [.var 0])) (src:=[(.loc,.tup (rows.map IA))]) (st:=S) trivial .loc (.inl rfl) IA (λr=>U.bl (eB r)) .loc (λ_=>fZ) rows [] (by simp;lia)
  (λr h=>#[bx (aa (af rfl) ai) trivial (b r h),aD])
 rw[HH]at a;have e:JN .all [(.own,.lst (rows.map λr=>U.bl (eB r)))]=a8 (.loc,.bl (rows.all eB)):=by
  have:=jm (k:=.own) (rows.map eB);rw[uv,UT]at this;show this
 have f:JX .seq [(.loc,.tup (rows.map IA))]=a8 (rows.map λr=>(Kd.loc,IA r)):=by change a8 _=_;rw[uv];rfl
 have g:Run (IS Γ (.cmp .gt (.bi .len [.var 0]) (.KH "MOST_ROWS" (.int 60)))) S (ei (60<rows.length)) S:=bo (cv (aa (af rfl) ai) trivial jj) l8 trivial (h_ (by rw[eH,uk];simp;lia));show au (st:=S) rfl (.inr rfl) d (c8 g (λz=>?_) λz=>?_)
 .have:cQ rows=dV:=by
   unfold cQ;rw[Ŷ (p:=rows.length<=60) (by have:=Ź z;lia)];rfl
  rw[this];show aS ah aU
 .have:cQ rows=(rows.all eB&&!(!ei (rows.map keyOf).Nodup)):=by
   unfold cQ;rw[ŷ (p:=rows.length<=60) (by have:=of_decide_eq_false z;lia),Bool.not_not];rfl
  rw[this];show aS (vf (tL (cv (aa (dA (rs:=[(.loc,.tup (rows.map IA))]) (aa (af rfl) ai) trivial f a) ai) trivial e) λ_=>pO (Iy (bx (aa (af rfl) ai) trivial (c (by have:=of_decide_eq_false z;lia)))))) aU
def tU(d:Γ "fits" [.tup (rows.map IA)]=a8 (.ok (.loc,.bl (cQ rows)))):bw Γ jo [.tup (rows.map IA)]=if cQ rows=c4 then a8 (.ok (.loc,.tup (rows.map IA))) else a8 (.exc "Unfit"):=by
 let S:ar:=[a8 (.loc,.tup (rows.map IA))]
 have b:TM.start [.tup (rows.map IA)] 1=S:=by simp[TM.start,Jb,di,S]
 have a:Run (IS Γ (.not (.call "fits" [.var 0]))) S (!cQ rows) S:=dX (f_ (aa (af rfl) ai) trivial d rfl);cases c:cQ rows with
 |true =>
  rw[ŵ rfl];rw[c]at a;show au rfl (.inr rfl) b (c8 a (λz=>by cases z) λ_=>aS (af rfl) aU)
 |false =>
  rw[Ÿ my];rw[c]at a;show cX rfl b (c8 a (λ_=>n9 ah) λz=>by cases z)
abbrev Dn:List TM.S:=[.set 4 (.tup [.var 2,.bi .sorted [.var 3]]),.ite (.or [.cmp .isin (.var 4) (.var 1),.cmp .gt (.bi .len [.var 3]) (.cst (.int 8)),.cmp .ne (.LI .fK [.var 3]) (.bi .len [.var 3])]) [.ret (.cst (.bl dV))] [],.ite (.not (.bi .all [.comp 1 dV .seq [.bin .add (.tup [.var 2]) (.var 3)] [] (.call "_law_is_word" [.var 0])])) [.ret (.cst (.bl dV))] [],.app 1 (.var 4)]
abbrev KR(rows d:List Row)(o2 o3 o4:Option (Kd×U)):ar:=[a8 (.loc,.tup (rows.map IA)),a8 (.own,.lst (d.map kU)),o2,o3,o4]
theorem og(J:cH Γ "_law_is_word")(h:∀r∈rows,Rw r)(hl:rows.length<=100000):∀(r d:List Row) (o2 o3 o4:Option (Kd×U)),d++r=rows->d.all eB=c4->(d.map keyOf).Nodup ->
  ∃(d':List Row) (t v A:Option (Kd×U)),Run (forM c4 [2,3] (execs Γ Dn) [(.loc,.tup (rows.map IA))] (r.map λx=>(Kd.loc,IA x))) (KR rows d o2 o3 o4) (if (rows.all eB&&ei (rows.map keyOf).Nodup)=c4 then .nx else .rt .loc (.bl dV)) (KR rows d' t v A)
 |[],d,o2,o3,o4,j,B,C=>by
  rw[D1]at j;subst j;rw[B,ŷ C,Ri,ŵ rfl];show#[d,o2,o3,o4,vi trivial]
 |y::r,d,o2,o3,o4,j,B,C=>by
  have hsz:(200000:Nat)<=eh:=by decide
  have D:=h y (by rw[<-j];simp);have Nj:=D.ln;have Vv:d.length<100000:=by have:=Ż OC j;simp at this;lia
  let e:Option (Kd×U):=a8 (.loc,.str y.1);let g:Option (Kd×U):=a8 (.loc,.tup (y.2.map .str));let i:Option (Kd×U):=a8 (.loc,kU y);have G:Run (dt c4 [2,3] (.loc,IA y)) (KR rows d o2 o3 o4) () (KR rows d e g o4):=Dk (.inl rfl);have H:Run (ev Γ (.tup [.var 2,.bi .sorted [.var 3]])) (KR rows d e g o4) (.loc,kU y) (KR rows d e g o4) :=
   eR (aa (af rfl) (aa (cv (aa (af rfl) ai) trivial (sorted_strs ⋯)) ai)) trivial (av aD (av ra aJ)) (by change 2<=eh;lia)
  have L:Run (ev Γ (.bi .len [.var 3])) (KR rows d e g i) (.loc,.int (y.2.length:Nat)) (KR rows d e g i):=by
   have h:=cv (Γ:=Γ) (st:=KR rows d e g i) (f:=.len) (es:=[.var 3]) (aa (af rfl) ai) trivial (jj (xs:=y.2.map U.str));rw[eH]at h;show h
  have m:Run (IS Γ (.or [.cmp .isin (.var 4) (.var 1),.cmp .gt (.bi .len [.var 3]) (.cst (.int 8)),.cmp .ne (.LI .fK [.var 3]) (.bi .len [.var 3])])) (KR rows d e g i) (ei (keyOf y∈d.map keyOf)||(ei (8<y.2.length)||!decide y.2.Nodup)) (KR rows d e g i):=by
   show pP (mw (bo (af rfl) (aR rfl) #[#[.own,rfl,rfl],trivial] FF) λ_=>mw (bo L ah trivial (h_ (by rw[uk];simp;lia))) λ_=>l9 (bo (zC (aa (af rfl) ai) trivial (mH ⋯)) L trivial ?_));rw[FE,<-Cv];congr 2
   rw[uk];simp;lia
  have q:Run (IS Γ (.not (.bi .all [.comp 1 dV .seq [.bin .add (.tup [.var 2]) (.var 3)] [] (.call "_law_is_word" [.var 0])]))) (KR rows d e g i) (!((y.1::y.2).all wb)) (KR rows d e g i) :=
   dX (tM (j6 J (ss:=y.1::y.2) (k:=.loc) (u:=.tup ((y.1::y.2).map .str)) (λx hx=>by
    rcases fz.mp hx with rfl|hx
    .have:=D.w.1;lia
    .have:=(D.ws x hx).1;lia) (by rw[lg];lia)
    (aE (eR (us:=[y.1].map .str) (aa (af rfl) ai) trivial (av aD aJ) (by change 1<=eh;lia)) (af rfl) trivial (Ag (by rw[ri];lia))) trivial (by change a8 _=_;rw[uv];rfl)))
  have o:∀{c:Bool},(keyOf y∈d.map keyOf\/eB y=dV)->(rows.all eB&&ei (rows.map keyOf).Nodup)=dV:=λ{c} z=>by
   rw[<-j];rcases z with z|z
   .have:¬((d++y::r).map keyOf).Nodup:=λn=>by
     rw[H8,LF]at n;show n.2.2 _ z _ (by simp) rfl
    rw[Ŷ this,P']
   .rw[ģ,YA,z];simp
  cases l:(ei (keyOf y∈d.map keyOf)||(ei (8<y.2.length)||!decide y.2.Nodup)) with
  |true =>
   rw[l]at m;rw[o (c:=c4) (by
    rw[Nz,Ŵ]at l;rcases l with z|z
    .show .inl z
    .show .inr ?_;unfold eB;rw[Nz,Ŵ,wk,ż]at z;rcases z with z|z
     .rw[Ŷ (p:=y.2.length<=8) ⋯];rfl
     .rw[Ŷ z,P'];rfl),Ÿ my]
   show#[d,e,g,i,Fm trivial G (aA H aI (bM m (aS ah aU)))]
  |false =>
   rw[l]at m;rw[Up,Up,ż,ż,î,Ŵ]at l;have(O,q2,Q):=l;have N:eB y=(y.1::y.2).all wb:=by
    unfold eB;rw[ŷ (p:=y.2.length<=8) ⋯,ŷ Q,YA];rfl
   cases s:(y.1::y.2).all wb with
   |false =>
    rw[s]at q;rw[o (c:=c4) (.inr (N.trans s)),Ÿ my];show#[d,e,g,i,Fm trivial G (aA H aI (c8 m (λz=>by cases z) λ_=>bM q (aS ah aU)))]
   |true =>
    rw[s]at q;have em:(d++[y]).map kU=d.map kU++[kU y]:=by simp
    have Ö:Run (execs Γ Dn) (KR rows d e g o4) .nx (KR rows (d++[y]) e g i):=by
     show aA H aI (c8 m (λz=>by cases z) λ_=>c8 q (λz=>by cases z) λ_=>?_);change Run _ _ _ [a8 (.loc,.tup (rows.map IA)),a8 (.own,.lst ((d++[y]).map kU)),e,g,i];rw[em];show l_ (k:=.own) (k':=.own) (r:=(.loc,kU y)) rfl (af rfl) aD rfl rfl (by rw[eH];lia) aw
    have(d',t,v,A,T):=og J h hl r (d++[y]) e g i (by rw[<-j];simp) (by rw[ģ,B,YA,N,s];rfl) (by
     rw[H8,LF];show#[C,by simp,λa Y b I z=>O ?_];have I:b=keyOf y:=by simpa using I
     rw[<-I,<-z];show Y)
    show#[d',t,v,A,Cj trivial G Ö T]
def Ai(e:cH Γ "_law_is_word")(h:∀r∈rows,Rw r)(hl:rows.length<=100000):bw Γ gK [.tup (rows.map IA)]=a8 (.ok (.loc,.bl (cQ rows))):=by
 have c:TM.start [.tup (rows.map IA)] 5=[a8 (.loc,.tup (rows.map IA)),cb,cb,cb,cb]:=by simp[TM.start,Jb,di]
 have(d',o2,o3,o4,a):=og e h hl rows [] cb cb cb rfl rfl .nil;have d:JX .seq [(.loc,.tup (rows.map IA))]=a8 (rows.map λr=>(Kd.loc,IA r)):=by change a8 _=_;rw[uv];rfl
 cases b:(rows.all eB&&ei (rows.map keyOf).Nodup) with
 |true =>
  rw[b,ŵ rfl]at a;have:cQ rows=ei (rows.length<=60):=by unfold cQ;rw[b,Ri]
  rw[this];show au rfl (.inr rfl) c (aA (r:=(.own,.lst [])) (bI ai trivial aJ (pb _)) br (hV (rs:=[(.loc,.tup (rows.map IA))]) (st1:=KR rows [] cb cb cb) (aa (af rfl) ai) trivial d rfl a (aS (fF (cv (aa (af rfl) ai) trivial jj) ah trivial (by
   change a8 (decide _)=_;rw[eH];congr 1
   rw[uk];simp;lia)) aU)))
 |false =>
  rw[b,Ÿ my]at a;have:cQ rows=dV:=by unfold cQ;rw[b,P']
  rw[this];show au rfl (.inr rfl) c (aA (r:=(.own,.lst [])) (bI ai trivial aJ (pb _)) br (w9 (zH (rs:=[(.loc,.tup (rows.map IA))]) (st1:=KR rows [] cb cb cb) (aa (af rfl) ai) trivial d rfl a)))
end
end K
namespace TM
open PySem L2 IQ
abbrev jl(c:Nat):List Str->List Nat
 |[]=>[]
 |[x]=>x.cps.toList
 |x::y::r=>x.cps.toList++c::jl c (y::r)
def cI(c:Nat):∀xs:List Str,(H0 #[#v[c]] xs).cps.toList=jl c xs:=by
 have h:∀xs:List Str,(Ü #[#v[c]] xs).cps.toList=jl c xs:=λxs=>by
  match xs with
  |[]=>rfl
  |[x]=>rfl
  |x::y::r =>
   have a:=cI.go c (y::r);change(x++(⟨#v[c]⟩:Str)++Ü #[#v[c]] (y::r)).cps.toList=_;rw[dY,dY,a,jl,Rt];rfl
 intro xs;change(ZK #[#v[c]] xs).cps.toList=_;rw[ZI];show h xs
where go (c:Nat):∀xs:List Str,(Ü #[#v[c]] xs).cps.toList=jl c xs
 |[]=>rfl
 |[x]=>rfl
 |x::y::r=>by
  change(x++(⟨#v[c]⟩:Str)++Ü #[#v[c]] (y::r)).cps.toList=_;rw[dY,dY,go c (y::r),jl,Rt];rfl
theorem Aj:∀{xs a:List Str},xs≠[]->a≠[]->(∀x∈xs,c∉x.cps.toList)->(∀y∈a,c∉y.cps.toList)->jl c xs=jl c a->xs=a
 |[],_,h,_,_,_,_=>absurd rfl h
 |_::_,[],_,h,_,_,_=>absurd rfl h
 |[x],[y],_,_,_,_,e=>by rw[TM.cG (show x.cps.toList=y.cps.toList from e)]
 |[x],y::z::r,_,_,b,_,e=>by
  have e:x.cps.toList=y.cps.toList++c::jl c (z::r):=e;show absurd (by rw[e];simp) (b x (by simp))
 |x::z::r,[y],_,_,_,d,e=>by
  have e:x.cps.toList++c::jl c (z::r)=y.cps.toList:=e;show absurd (by rw[<-e];simp) (d y (by simp))
 |x::z::r,y::f::g,_,_,b,d,e=>by
  have e:x.cps.toList++c::jl c (z::r)=y.cps.toList++c::jl c (f::g):=e;have(i,j):=oI e (b x (by simp)) (d y (by simp));rw[TM.cG i,Aj (PY _ _) (PY _ _) (λx k=>b x (et _ k)) (λy l=>d y (et _ l)) j]
def mI(h:xs≠[])(a:∀x∈xs,x.cps.toList≠[])(b:∀x∈xs,c∉x.cps.toList):tA (H0 #[#v[c]] xs) ⟨#v[c]⟩=xs:=by
 have d:=Â (H0 #[#v[c]] xs) #[#v[c]];have e:jl c (tA (H0 #[#v[c]] xs) #[#v[c]])=jl c xs:=by
  rw[<-cI.go,d,cI]
 show Aj (λz=>?_) h (Á _ c) b e;rw[z]at e;cases xs with
 |nil=>show h rfl
 |cons x r =>
  cases r with
  |nil=>show a x (by simp) e.symm
  |cons y r=>show absurd e.symm (by change x.cps.toList++c::_≠[];simp)
def p_{x:Str}(h:bZ x.cps.toList):∀c∈x.cps.toList,47<=c:=by
 have f:∀n:_root_.Fin 100,∀c∈(de ((n:Nat):Int)).cps.toList,47<=c:=by decide +kernel
 rcases h with h|⟨a,b,k,e,h,k2,m,g⟩
 .have(i,j,d):=(bC _).mp h;show λc hc=>by have:=d c hc;lia
 .have(i,j,d):=(bC _).mp h;rw[e];intro c hc;rcases mN.mp hc with hc|hc
  .have:=d c hc;lia
  .rcases fz.mp hc with rfl|hc
   .decide
   .rw[<-g]at hc;have:=f #[k.toNat,⋯] c;have l:(((k.toNat:Nat)):Int)=k:=by lia
    rw[show(((⟨k.toNat,⋯⟩:_root_.Fin 100):Nat):Int)=k from l]at this;show this hc
theorem Ak:∀{ss:List Str},(∀x∈ss,x.length<=n)->(ss.map (·.length)).sum<=n * ss.length
 |[],_=>pb _
 |x::ss,h=>by
  have:=Ak λy a=>h y (et _ a);have:=h x hY;rw[mu,ZM,lg,Nat.mul_succ];lia
def jq(h:∀x∈ss,x.length<=n)(hs:sep.length=1)(hl:(n+1) * ss.length<=1000000):W4 sep ss=c4/\(H0 sep ss).length<=(n+1) * ss.length:=by
 have a:=Ak h;rw[Ŕ]at hl ⊢;show#[Y5 (by rw[hs];lia),?_];change(ZK sep ss).length<=_;rw[ZI];have:=StrLaws.join_length_le sep ss;rw[hs]at this;lia
def mJ(h:W4 sep ss=c4):ff .join (.str sep) [(k,.lst (ss.map .str))]=a8 (.loc,.str (H0 sep ss)):=by
 change(strsOf (ss.map U.str)).bind _=_;rw[dE];change(if W4 sep ss=c4 then _ else _)=_;rw[ŵ h]
def xp(hs:sep.length=1)(hl:x.length<=1000000)(e:tA x sep=ss):ff .split (.str x) [(k,.str sep)]=a8 (.own,.lst (ss.map .str)):=by
 change(if (sep.length==0)=dV/\x.length+2<=eh then a8 (Kd.own,U.lst ((tA x sep).map .str)) else cb)=_;have hz:(1000002:Nat)<=eh:=by decide
 rw[ŵ #[by rw[hs];rfl,⋯],e]
def xq:bg .eq (.tup (ss.map U.str)) (.tup [])=a8 (ei (ss=[])):=by
 simp only[bg];rw[ŵ #[by simp[Kb,dh],by simp[Kb,iA]]];cases ss<;>simp[cn,cS]
abbrev tl(r:Row):List Str:=if r.2=[] then [("*":Str)] else r.2
abbrev ba(r:Row):Str:=r.1++(" = ":Str)++H0 " " (tl r)
structure RowW(r:Row):Prop where
 Lo:r.2.length<=8
 once:r.2.Nodup
 w1:bZ r.1.cps.toList
 w2:∀x∈r.2,bZ x.cps.toList
section
def gh(h:RowW r):1<=(tl r).length/\(tl r).length<=8:=by
 unfold tl;split
 .simp
 .rename_i z;show#[ÿ λe=>z (Qt e),h.Lo]
def Al(h:RowW r):∀x∈tl r,x.cps.toList≠[]/\x.length<=11/\∀c∈x.cps.toList,42<=c:=by
 intro x a;unfold tl at a;split at a
 .rw[tr.mp a];show#[by decide +kernel,by decide +kernel,by decide +kernel]
 .have b:=h.w2 x a;have:=b.len;show#[λz=>by rw[z]at this;simp at this,by rw[len_list];show this.2,λc d=>by have:=p_ b c d;lia]
def gj(h:RowW r):∀x∈r.1::("=":Str)::tl r,x.cps.toList≠[]/\x.length<=11/\∀c∈x.cps.toList,42<=c:=by
 intro x hx;rcases fz.mp hx with rfl|hx
 .have:=h.w1.len;show#[λz=>by rw[z]at this;simp at this,by rw[len_list];show this.2,λc a=>by have:=p_ h.w1 c a;lia]
 .rcases fz.mp hx with rfl|hx
  .show#[by decide +kernel,by decide +kernel,by decide +kernel]
  .show Al h x hx
def j7(h:RowW r):ba r=H0 #[#v[32]] (r.1::("=":Str)::tl r):=by
 show TM.cG ?_;have e:(H0 " " (tl r)).cps.toList=jl 32 (tl r):=cI 32 (tl r);rw[ba,dY,dY,e,cI];have hl:=(gh h).1;cases q:tl r with
 |nil=>rw[q]at hl;simp at hl
 |cons y a =>
  change _=r.1.cps.toList++32::(("=":Str).cps.toList++32::jl 32 (y::a));rw[Rt];rfl
def tV(h:RowW r):tA (ba r) #[#v[32]]=r.1::("=":Str)::tl r:=by
 rw[j7 h];show mI (PY _ _) (λx a=>(gj h x a).1) λx a b=>by have:=(gj h x a).2.2 32 b;lia
theorem Am:∀{xs:List Str},d∈jl c xs->d=c\/∃x∈xs,d∈x.cps.toList
 |[],h=>by cases h
 |[x],h=>.inr #[x,by simp,h]
 |x::y::r,h=>by
  rcases mN.mp h with h|h
  .show .inr #[x,by simp,h]
  .rcases fz.mp h with h|h
   .show .inl h
   .rcases Am h with h|⟨z,a,b⟩
    .show .inl h
    .show .inr #[z,et _ a,b]
def jr(h:RowW r):(ba r).cps.toList≠[]/\(ba r).length<=120/\∀c∈(ba r).cps.toList,32<=c:=by
 have e:=jq (sep:=#[#v[32]]) (n:=11) (ss:=r.1::("=":Str)::tl r) (λx f=>(gj h x f).2.1) rfl (by have:=(gh h).2;simp;lia);rw[j7 h];show#[λz=>?_,DD e.2 (by have:=(gh h).2;simp;lia),λc d=>?_]
 .rw[cI]at z;show absurd z (by change r.1.cps.toList++32::_≠[];simp)
 .rw[cI]at d;rcases Am d with rfl|⟨x,a,b⟩
  .show ke _
  .have:=(gj h x a).2.2 c b;lia
end
abbrev textOf(a:List Row):Str:=H0 #[#v[10]] (a.map ba)
section
def An(h:∀r∈a,RowW r)(hl:a.length<=60):W4 ⟨#v[10]⟩ (a.map ba)=c4/\(textOf a).length<=10000:=by
 have b:=jq (sep:=#[#v[10]]) (n:=120) (ss:=a.map ba) (λx c=>by
  have(r,d,rfl):=oa.mp c;show(jr (h r d)).2.1) rfl (by rw[eH];lia)
 show#[b.1,DD b.2 (by rw[eH];lia)]
def mK(h:∀r∈a,RowW r)(d:a≠[]):tA (textOf a) ⟨#v[10]⟩=a.map ba:=by
 show mI (by simpa using d) (λx b=>?_) λx b e=>?_
 .have(r,c,rfl):=oa.mp b;show(jr (h r c)).1
 .have(r,c,rfl):=oa.mp b;have:=(jr (h r c)).2.2 10 e;lia
def CB(h:∀r∈a,RowW r)(b:a≠[]):textOf a≠"":=λz=>by
 have e:=mK h b;have hz:(textOf a).cps.toList=[]:=by rw[z];rfl
 cases a with
 |nil=>show b rfl
 |cons r rs =>
  have:(textOf (r::rs)).cps.toList=jl 10 (ba r::rs.map ba):=cI 10 _;rw[this]at hz;have hl:=(jr (h r (by simp))).1;cases rs with
  |nil=>show hl hz
  |cons s rs=>show absurd hz (by change(ba r).cps.toList++10::_≠[];simp)
end
def jt(d:c<256):tA x #[#v[c]]≠[]:=λz=>by
 by_cases h:c∈x.cps.toList
 .have(a,b,e,f):=dR h;have(r,g):=k_ e f d;rw[g]at z;cases z
 .rw[ig h]at z;cases z
def mL(x:Str)(c:Nat):jl c (tA x #[#v[c]])=x.cps.toList:=by
 rw[<-cI.go,Â]
def split_free(h:y∈tA x #[#v[c]]):c∉y.cps.toList:=Á _ c y h
abbrev IM:List Str->Nat
 |[]=>0
 |x::r=>x.length+1+IM r
theorem aW:∀a b:List Str,IM (a++b)=IM a+IM b
 |[],b=>by simp[IM]
 |x::a,b=>by
  rw[P5,IM,IM,aW a b];lia
def gM(xs:List Str)(lo a:Option Int):IM (cut xs lo a)<=IM xs:=by
 have b:∀(l:List Str) (n:Nat),IM (l.drop n)<=IM l:=λl n=>by
  have h:=Ż IM (Kj n l);rw[aW]at h;lia
 have c:∀(l:List Str) (n:Nat),IM (l.take n)<=IM l:=λl n=>by
  have h:=Ż IM (Kj n l);rw[aW]at h;lia
 unfold cut;show DD (c _ _) (b _ _)
theorem gN:∀{l:List Str},x∈l->x.length+1<=IM l
 |y::l,h=>by
  rw[IM];rcases fz.mp h with rfl|h
  .lia
  .have:=gN h;lia
theorem cY:∀l:List Str,l.length<=IM l
 |[]=>ke _
 |x::l=>by
  have:=cY l;rw[IM,lg];lia
theorem tW(c:Nat):∀{l:List Str},l≠[]->(jl c l).length+1=IM l
 |[],h=>absurd rfl h
 |[x],_=>by change x.cps.toList.length+1=x.length+1+0;rw[len_list]
 |x::y::r,_=>by
  have:=tW c (PY y r);change(x.cps.toList++c::jl c (y::r)).length+1=x.length+1+IM (y::r);rw[ko,lg,len_list];lia
def dF(x:Str)(a:c<256):IM (tA x #[#v[c]])=x.length+1:=by
 rw[<-tW c (jt a),mL,len_list]
theorem vF:∀l:List Str,(l.map (·.length)).sum+l.length=IM l
 |[]=>rfl
 |x::l=>by
  have:=vF l;rw[mu,ZM,lg,IM];lia
def ju:(H0 #[#v[c]] l).length<=IM l:=by
 rw[len_list,cI];cases l with
 |nil=>show pb _
 |cons x r=>have:=tW c (PY x r);lia
def jv(h:IM l<=100000):ff .join (.str #[#v[c]]) [(k,.lst (l.map .str))]=a8 (.loc,.str (H0 #[#v[c]] l)):=by
 have:=vF l;show mJ (Y5 (by rw[show(⟨#v[c]⟩:Str).length=1 from rfl];lia))
abbrev mx(n:Nat):List Nat->Nat
 |[]=>n
 |c::l=>if c=10 then max n (mx 0 l) else if c=32 then mx (n+1) l else mx n l
def fA(n c:Nat)(l:List Nat):mx n (c::l)=if c=10 then max n (mx 0 l) else if c=32 then mx (n+1) l else mx n l:=rfl
theorem Ao(k:Nat):∀(l:List Nat) (n:Nat),mx (n+k) l<=mx n l+k
 |[],n=>ke _
 |c::l,n=>by
  unfold mx;split
  .lia
  .split
   .have:=Ao k l (n+1);rw[show n+1+k=n+k+1 by lia]at this;show this
   .show Ao k l n
theorem qa:∀(l:List Nat) {n m:Nat},n<=m->mx n l<=mx m l
 |[],n,m,h=>h
 |c::l,n,m,h=>by
  unfold mx;split
  .lia
  .split
   .show qa l ⋯
   .show qa l h
theorem Ap:∀(l:List Nat) (n:Nat),n<=mx n l
 |[],n=>ke _
 |c::l,n=>by
  unfold mx;split
  .lia
  .split
   .have:=Ap l (n+1);lia
   .show Ap l n
theorem qb:∀(a b:List Nat) (n:Nat),mx n (a++b)<=mx n a+mx 0 b
 |[],b,n=>by have:=Ao n b 0;rw[Tg]at this;change mx n b<=n+_;lia
 |c::a,b,n=>by
  rw[P5];rw[fA n c (a++b),fA n c a];split
  .have:=qb a b 0;lia
  .split
   .show qb a b _
   .show qb a b n
theorem jw:∀(a b:List Nat) (n:Nat),mx n (a++10::b)=max (mx n a) (mx 0 b)
 |[],b,n=>by change(if 10=10 then _ else _)=_;rw[ŵ rfl];rfl
 |c::a,b,n=>by
  rw[P5];rw[fA n c (a++10::b),fA n c a];split
  .rw[jw a b 0];lia
  .split
   .show jw a b _
   .show jw a b n
theorem kR:∀(a b:List Nat) (n:Nat),mx n a<=mx n (a++b)
 |[],b,n=>Ap b n
 |c::a,b,n=>by
  rw[P5];rw[fA n c (a++b),fA n c a];split
  .have:=kR a b 0;lia
  .split
   .show kR a b _
   .show kR a b n
theorem jx:∀(a b:List Nat) (n:Nat),mx 0 b<=mx n (a++b)
 |[],b,n=>qa b (pb _)
 |c::a,b,n=>by
  rw[P5];rw[fA n c (a++b)];split
  .have:=jx a b 0;lia
  .split
   .show jx a b _
   .show jx a b n
def vG(l:List Nat)(k:Nat):mx 0 (l.take k)<=mx 0 l:=by
 have:=kR (l.take k) (l.drop k) 0
 rwa [Kj]at this
def CC(l:List Nat)(k:Nat):mx 0 (l.drop k)<=mx 0 l:=by
 have:=jx (l.take k) (l.drop k) 0
 rwa [Kj]at this
theorem gk:∀(l:List Nat) (n:Nat),mx n l<=n+l.count 32
 |[],n=>Zd _ _
 |c::l,n=>by
  unfold mx;rw[Ģ];split
  .have:=gk l 0;lia
  .split
   .rename_i h;subst h;have:=gk l (n+1);simp;lia
   .have:=gk l n;lia
theorem tX:∀(l:List Nat) (n:Nat),10∉l->mx n l=n+l.count 32
 |[],n,_=>rfl
 |c::l,n,h=>by
  have b:c≠10:=λz=>h (by simp[z]);have a:10∉l:=λz=>h (et _ z);unfold mx;rw[Ÿ b,Ģ];split
  .rename_i z;subst z;rw[tX l _ a];simp;lia
  .rename_i z;rw[tX l n a];simp[z]
abbrev Nw(n:Nat)(x:Str):Prop:=mx 0 x.cps.toList<=n
def qc(h:∀x∈l,Nw n x):Nw n (H0 #[#v[10]] l):=by
 change mx 0 _<=n;rw[cI];induction l with
 |nil=>show pb _
 |cons x r b =>
  have a:=h x hY;have d:=b λy c=>h y (et _ c);cases r with
  |nil=>show a
  |cons y r =>
   change mx 0 (x.cps.toList++10::jl 10 (y::r))<=n;rw[jw];have a:mx 0 x.cps.toList<=n:=a;lia
theorem Dp:∀{l:List Str},mx 0 (jl 10 l)<=n->∀x∈l,Nw n x
 |[],_,x,hx=>by cases hx
 |[y],h,x,hx=>by rw[tr.mp hx];show h
 |y::z::r,h,x,hx=>by
  have h:mx 0 (y.cps.toList++10::jl 10 (z::r))<=n:=h;rw[jw]at h;rcases fz.mp hx with rfl|hx
  .change mx 0 _<=n;lia
  .show Dp (l:=z::r) ⋯ x hx
def rD(h:Nw n x):∀y∈tA x ⟨#v[10]⟩,Nw n y:=Dp (by rw[mL];show h)
theorem mM:∀{l:List Str},l≠[]->(∀x∈l,c∉x.cps.toList)->(jl c l).count c+1=l.length
 |[],h,_=>absurd rfl h
 |[x],_,h=>by
  change x.cps.toList.count c+1=1;rw[í.mpr (h x (by simp))]
 |x::y::r,_,h=>by
  have a:=mM (PY y r) λz hz=>h z (et _ hz);change(x.cps.toList++c::jl c (y::r)).count c+1=(y::r).length+1;rw[List.count_append,List.count_cons_self,í.mpr (h x (by simp))];lia
def oh(h:Nw n x)(a:10∉x.cps.toList):(tA x #[#v[32]]).length<=n+1:=by
 have b:=mM (jt (x:=x) (c:=32) (by decide)) λy d=>split_free d;rw[mL]at b;have e:=tX x.cps.toList 0 a;have h:mx 0 x.cps.toList<=n:=h;lia
def mO(a:∀x∈l,32∉x.cps.toList)(h:l.length<=n+1):Nw n (H0 #[#v[32]] l):=by
 change mx 0 _<=n;rw[cI];cases l with
 |nil=>show pb _
 |cons x r =>
  have b:=mM (PY x r) a;have c:=gk (jl 32 (x::r)) 0;lia
abbrev eU(a:List Str):Option (List Str):=if a=[("*":Str)] then a8 [] else if a.all wb=c4 then a8 a else cb
abbrev cj(x:Str):Option Row:=match tA x ⟨#v[32]⟩ with
 |w::e::t::ts=>if (wb w&&ei (e=("=":Str)))=c4 then(eU (t::ts)).map λss=>(w,ss) else cb
 |_=>cb
def mP(h:cm x=c4):x.length<=8/\∀c∈x,c<1000:=by
 have(e,a,b):=(bC _).mp h;show#[a,λc d=>by have:=b c d;lia]
def Aq(h:isNum b=c4):b.length<=2/\∀c∈b.cps.toList,c<1000:=by
 have a:∀n:_root_.Fin 98,(de (2+((n:Nat):Int))).length<=2/\∀c∈(de (2+((n:Nat):Int))).cps.toList,c<1000:=by decide +kernel
 unfold isNum at h;rw[Pj]at h;have(j,d,e):=h;have e:=Ź e;have:=a #[j,w6.mp d];rw[<-e];show this
def Dq(h:wb x=c4):SW x:=by
 unfold wb at h;split at h
 .rename_i g;rw[df]at h;have(a,b,e,i):=dR g;have j:=IQ.kH e i;rw[show("/":Str)=⟨#v[47]⟩ from rfl,j]at h;have f:=mP h.1;have d:=Aq h.2;rw[len_list]at d;simp only at f d;show#[by rw[len_list,e];simp;lia,λc hc=>?_];rw[e]at hc;rcases mN.mp hc with hc|hc
  .have:=f.2 c hc;lia
  .rcases fz.mp hc with rfl|hc
   .decide
   .have:=d.2 c hc;lia
 .have:=mP h;show#[by rw[len_list];lia,λc hc=>by have:=this.2 c hc;lia]
def Ar(h:eU a=a8 ss):ss.length<=a.length/\∀x∈ss,wb x=c4:=by
 unfold eU at h;split at h
 .cases h;show#[pb _,by simp]
 .split at h
  .rename_i q;cases h;show#[ke _,sh.mp q]
  .cases h
def CD(h:cj x=a8 r)(hl:(tA x #[#v[32]]).length<=40):Rw r:=by
 unfold cj at h;split at h
 .rename_i w e t ts q;rw[q]at hl;split at h
  .rename_i a;rw[df]at a;rw[hQ]at h;have(ss,b,rfl):=h;have(k1,k2):=Ar b;show#[?_,Dq a.1,λy c=>Dq (k2 y c)];change ss.length<=40;simp only[lg]at hl k1;lia
  .cases h
 .cases h
theorem rE:∀{ls:List Str}{a:List Row},cP g ls=a8 a->a.length=ls.length/\∀r∈a,∃x∈ls,g x=a8 r
 |[],a,h=>by cases h;simp
 |x::xs,a,h=>by
  have h:(g x).bind (λr=>(cP g xs).map (r::·))=a8 a:=h;rw[ux]at h;have(r,b,h):=h;rw[hQ]at h;have(rs,c,rfl):=h;have(k1,k2):=rE c;show#[by simp[k1],λs hs=>?_];rcases fz.mp hs with rfl|hs
  .show#[x,by simp,b]
  .have(y,d,e):=k2 s hs;show#[y,et _ d,e]
def CF{a b:List Str}:bg .eq (.tup (a.map U.str)) (.tup (b.map U.str))=a8 (ei (a=b)):=by
 simp only[bg];rw[ŵ #[by simp[Kb,dh],by simp[Kb,dh]]];simp only[cn,ft]
def As(ss:List Str):Jb (.tup (ss.map U.str))=c4:=by simp[Jb,gG]
def dG(hl:x.length<=100000):ff .split (.str x) [(k,.str #[#v[c]])]=a8 (.own,.lst ((tA x #[#v[c]]).map .str)):=xp rfl ⋯ rfl
def split_len(a:c<256)(hl:x.length<=100000)(h:y∈tA x #[#v[c]]):y.length<=100000:=by
 have:=gN h;have:=dF x a;lia
def eV(a:c<256)(hl:x.length<=99999):(tA x #[#v[c]]).length<=100000:=by
 have:=cY (tA x #[#v[c]]);have:=dF x a;lia
def Hy(a b:α)(r:List α):cut (a::b::r) (a8 2) cb=r:=by
 change cut (a::b::r) (a8 ((2:Nat):Int)) cb=r;unfold cut;rw[HT.dn,HT.k6,UE (by simp),KU (by rw[H4];lia)];rfl
end TM
namespace K
open PySem L2 TM IQ
section
def tY(b:cH Γ f){ss:List Str}(hs:∀x∈ss,x.length<=100000)(hl:ss.length<=100000)(h:Run (ev Γ e) st (.any,.lst (ss.map .str)) st):Run (ev Γ (.bi .all [.comp 1 dV .seq [e] [] (.call f [.var 0])])) st (.loc,.bl (ss.all wb)) st:=by
 have hsz:(200000:Nat)<=eh:=by decide
 have a:=ez (cond:=a_ Γ []) (elt:=ev Γ (.call f [.var 0])) (src:=[(.any,.lst (ss.map .str))]) (st:=st) trivial .any (.inr rfl) U.str (λx=>U.bl (wb x)) .loc (λ_=>fZ) ss [] (by simp;lia)
  (λx a=>#[bx (aa (bH rfl) ai) trivial (b x (hs x a)),aD])
 rw[HH]at a;have c:JN .all [(.own,.lst (ss.map λx=>U.bl (wb x)))]=a8 (.loc,.bl (ss.all wb)):=by
  have:=jm (k:=.own) (ss.map wb);rw[uv,UT]at this;show this
 show cv (aa (dA (rs:=[(.any,.lst (ss.map .str))]) (aa h ai) trivial (by change a8 _=_;rw[uv];rfl) a) ai) trivial c
abbrev pX(Γ:Tab):Prop:=∀a:List Str,a.length<=100000->(∀x∈a,x.length<=100000)->Γ "read_told" [.lst (a.map .str)]=match eU a with|some ss=>a8 (.ok (.loc,.tup (ss.map .str)))|none=>a8 (.exc "NoText")
def xr(f:cH Γ "is_word")(hl:a.length<=100000)(hs:∀x∈a,x.length<=100000):bw Γ dZ [.lst (a.map .str)]=match eU a with|some ss=>a8 (.ok (.loc,.tup (ss.map .str)))|none=>a8 (.exc "NoText"):=by
 let S:ar:=[a8 (.any,.lst (a.map .str))]
 have d:TM.start [.lst (a.map .str)] 1=S:=rfl;have b:Run (IS Γ (.cmp .eq (.var 0) (.lst [.KH "PICTURE_SIGN" (.str "*")]))) S (ei (a=[("*":Str)])) S :=
  bo (y:=(.own,.lst ([("*":Str)].map .str))) (bH rfl) (bI (aa l8 ai) trivial (av aD aJ) (by change 1<=eh;decide)) trivial rn
 have c:=dX (tM (tY f (st:=S) (e:=.var 0) hs hl (bH rfl)));unfold eU;by_cases e:a=[("*":Str)]
 .rw[ŷ e]at b;rw[ŵ e];show au rfl (.inr rfl) d (bM b (aS (eR ai trivial aJ (pb _)) aU))
 .rw[Ŷ e]at b;rw[Ÿ e];cases q:a.all wb with
  |true =>
   rw[ŵ rfl];rw[q]at c;show au rfl (.inr rfl) d (c8 b (λz=>by cases z) λ_=>c8 c (λz=>by cases z) λ_=>aS (cv (r:=(.any,.tup (a.map .str))) (aa (bH rfl) ai) trivial rfl) (Dg (As a)))
  |false =>
   rw[Ÿ my];rw[q]at c;show cX rfl d (c8 b (λz=>by cases z) λ_=>c8 c (λ_=>n9 ah) λz=>by cases z)
abbrev FG(Γ:Tab):Prop:=∀x:Str,x.length<=99999->Γ "read_row" [.str x]=match cj x with|some r=>a8 (.ok (.loc,IA r))|none=>a8 (.exc "NoText")
def Au(B:cH Γ "is_word")(C:pX Γ)(D:x.length<=99999):bw Γ fu [.str x]=match cj x with|some r=>a8 (.ok (.loc,IA r))|none=>a8 (.exc "NoText"):=by
 have hsz:(200000:Nat)<=eh:=by decide
 obtain⟨L,c⟩:∃L,L=tA x #[#v[32]]:=#[_,rfl]
 have p:L.length<=100000:=by rw[c];show eV (by decide) D
 have s:∀y∈L,y.length<=100000:=λy d=>by rw[c]at d;show split_len (by decide) ⋯ d
 let S:ar:=[a8 (.loc,.str x),a8 (.own,.lst (L.map .str))]
 have j:TM.start [.str x] 2=[a8 (.loc,.str x),cb]:=rfl;have k:ff .split (.str x) [(.loc,.str " ")]=a8 (.own,.lst (L.map .str)):=by rw[c];show dG ⋯
 have G:Run (ev Γ (.bi .len [.var 1])) S (.loc,.int (L.length:Nat)) S:=by
  have h:=cv (Γ:=Γ) (st:=S) (f:=.len) (es:=[.var 1]) (aa (aR rfl) ai) #[#[.own,rfl,rfl],trivial] (pT (xs:=L.map U.str));rw[eH]at h;show h
 have l:Run (IS Γ (.cmp .lt (.bi .len [.var 1]) (.cst (.int 3)))) S (ei (L.length<3)) S:=bo G ah trivial (hZ (by rw[uk];simp;lia));have a:L.length<3->cj x=cb:=λh=>by
  unfold cj;rw[<-c]
  match L,h with
  |[],_=>rfl
  |[_],_=>rfl
  |[_,_],_=>rfl
  |_::_::_::_,h=>simp at h;lia
 by_cases m:L.length<3
 .rw[a m];rw[ŷ m]at l;show cX rfl j (aA (cN (af rfl) (aa ah ai) trivial k) br (c8 (pP (zG l)) (λ_=>n9 ah) λz=>by cases z))
 .rw[Ŷ m]at l;obtain⟨w,e,t,ts,b⟩:∃w e t ts,L=w::e::t::ts:=by
   match L,m with
   |[],h=>simp at h
   |[_],h=>simp at h
   |[_,_],h=>simp at h
   |w::e::t::ts,_=>show#[w,e,t,ts,rfl]
  have H:IX (L.map U.str) 0=a8 (.str w):=by rw[b];change IX _ ((0:Nat):Int)=_;show bX rfl
  have I:IX (L.map U.str) 1=a8 (.str e):=by rw[b];change IX _ ((1:Nat):Int)=_;show bX rfl
  have o:Run (ev Γ (.idx (.var 1) (.cst (.int 0)))) S (.loc,.str w) S:=cD (aR rfl) ah #[#[.own,rfl,rfl],trivial] (aP H);have J:Run (ev Γ (.idx (.var 1) (.cst (.int 1)))) S (.loc,.str e) S:=cD (aR rfl) ah #[#[.own,rfl,rfl],trivial] (aP I);have N:w.length<=100000:=s w (by rw[b];simp);have g:Run (IS Γ (.or [.cmp .lt (.bi .len [.var 1]) (.cst (.int 3)),.not (.call "is_word" [.idx (.var 1) (.cst (.int 0))]),.cmp .ne (.idx (.var 1) (.cst (.int 1))) (.cst (.str "="))])) S (!wb w||!ei (e="=")) S :=
   pP (vh l (mw (dX (f_ (aa o ai) trivial (B w N) rfl)) λ_=>l9 (bo J ah trivial tN)))
  have O:cj x=if (wb w&&ei (e=("=":Str)))=c4 then(eU (t::ts)).map λss=>(w,ss) else cb:=by
   unfold cj;rw[<-c,b]
  rw[O];cases q:(wb w&&ei (e=("=":Str))) with
  |false =>
   rw[Ÿ my];have:(!wb w||!ei (e="="))=c4:=by rw[<-YT,q];rfl
   rw[this]at g;show cX rfl j (aA (cN (af rfl) (aa ah ai) trivial k) br (c8 g (λ_=>n9 ah) λz=>by cases z))
  |true =>
   rw[ŵ rfl];have:(!wb w||!ei (e="="))=dV:=by rw[<-YT,q];rfl
   rw[this]at g;have s2:je (.bor 1,.lst (L.map .str)) (a8 2) cb=a8 (.own,.lst ((t::ts).map .str)):=by
    change a8 (Kd.own,U.lst (cut (L.map U.str) (a8 2) cb))=_;rw[b,mu,mu,Hy]
   have v:=dC (Γ:=Γ) (aR (i:=1) (st:=S) rfl) (dw (ah (u:=.int 2))) dO #[#[.own,rfl,rfl],trivial] s2;have n:=C (t::ts) (by rw[b]at p;simp only[lg]at p ⊢;lia) λy d=>s y (by rw[b];simp only[fz]at d ⊢;show .inr (.inr d));cases A:eU (t::ts) with
   |none =>
    rw[A]at n;show cX rfl j (aA (cN (af rfl) (aa ah ai) trivial k) br (c8 g (λz=>by cases z) λ_=>tQ (FA o (Cs (aa v ai) trivial n))))
   |some ss =>
    rw[A]at n;show au rfl (.inr rfl) j (aA (cN (af rfl) (aa ah ai) trivial k) br (c8 g (λz=>by cases z) λ_=>z_ (Hv o (Fx (aa v ai) trivial n)) aU))
abbrev ia(x:Str):Option (Ex (Kd×U)):=if x="" then a8 (.ok (.loc,.tup [])) else match cP cj (tA x #[#v[10]]) with
 |some a=>if cQ a=c4 then a8 (.ok (.loc,.tup (a.map IA))) else a8 (.exc "Unfit")
 |none=>a8 (.exc "NoText")
def run_read(l:FG Γ)(n:x.length<=99998)(b:∀a,cP cj (tA x #[#v[10]])=a8 a->Γ "fitted" [.tup (a.map IA)]=if cQ a=c4 then a8 (.ok (.loc,.tup (a.map IA))) else a8 (.exc "Unfit")):bw Γ j4 [.str x]=ia x:=by
 have hsz:(200000:Nat)<=eh:=by decide
 let S:ar:=[a8 (.loc,.str x)]
 have i:TM.start [.str x] 1=S:=rfl;have j:Run (IS Γ (.not (.Nh (.var 0) .str))) S dV S:=dX (c:=c4) (zW (af rfl) rfl);have d:Run (IS Γ (.cmp .eq (.var 0) (.cst (.str "")))) S (ei (x="")) S:=bo (af rfl) ah trivial jk;unfold ia;by_cases e:x=""
 .rw[ŵ e];rw[ŷ e]at d;show au rfl (.inr rfl) i (c8 j (λz=>by cases z) λ_=>bM d (aS (eR ai trivial aJ (pb _)) aU))
 .rw[Ÿ e];rw[Ŷ e]at d;have o:=eV (x:=x) (c:=10) (by decide) ⋯;have h:=Hw (Γ:=Γ) (st:=S) (f:="read_row") (c:="NoText") (e:=.Jf .split (.var 0) [.cst (.str "\n")]) (g:=cj) (ls:=tA x #[#v[10]]) (cN (af rfl) (aa ah ai) trivial (dG ⋯)) ⋯ λy m=>l y (by
   have:=gN m;have:=dF x (c:=10) (by decide);lia)
  cases q:cP cj (tA x #[#v[10]]) with
  |none =>
   rw[q]at h;show cX rfl i (c8 j (λz=>by cases z) λ_=>c8 d (λz=>by cases z) λ_=>tQ (Fz h))
  |some a =>
   rw[q]at h;have b:=b a q;cases k:cQ a with
   |true =>
    rw[k,ŵ rfl]at b;change _=(if cQ a=c4 then a8 (Ex.ok (Kd.loc,U.tup (a.map IA))) else a8 (.exc "Unfit"))
    rw[k,ŵ rfl];show au rfl (.inr rfl) i (c8 j (λz=>by cases z) λ_=>c8 d (λz=>by cases z) λ_=>z_ (Hu h b) aU)
   |false =>
    rw[k,Ÿ my]at b;change _=(if cQ a=c4 then a8 (Ex.ok (Kd.loc,U.tup (a.map IA))) else a8 (.exc "Unfit"))
    rw[k,Ÿ my];show cX rfl i (c8 j (λz=>by cases z) λ_=>c8 d (λz=>by cases z) λ_=>tQ (Fy h b))
def xu(h:ni u .str=a8 dV)(hs:TM.start [u] 1=[a8 (.loc,u)]\/TM.start [u] 1=[a8 (.any,u)]):bw Γ j4 [u]=a8 (.exc "NoText"):=by
 rcases hs with hs|hs
 .show cX rfl hs (c8 (dX (zW (af rfl) h)) (λ_=>n9 ah) λz=>by cases z)
 .show cX rfl hs (c8 (dX (zW (bH rfl) h)) (λ_=>n9 ah) λz=>by cases z)
end
section
abbrev T9:List TM.S:=[.set 3 (.Jf .split (.var 2) [.cst (.str " ")]),.ite (.or [.cmp .lt (.bi .len [.var 3]) (.cst (.int 3)),.cmp .ne (.idx (.var 3) (.cst (.int 1))) (.cst (.str "=")),.not (.call "_law_is_word" [.idx (.var 3) (.cst (.int 0))])]) [.ret (.cst .ID)] [],.set 4 (.bi .tuple [.Ja (.var 3) [.cst (.int 2)] []]),.ite (.cmp .eq (.var 4) (.tup [.cst (.str "*")])) [.set 4 (.tup [])] [],.ite (.not (.bi .all [.comp 1 dV .seq [.var 4] [] (.call "_law_is_word" [.var 0])])) [.ret (.cst .ID)] [],.app 1 (.tup [.idx (.var 3) (.cst (.int 0)),.var 4])]
abbrev Ko(x:Str)(d:List Row)(o2 o3 o4:Option (Kd×U)):ar:=[a8 (.loc,.str x),a8 (.own,.lst (d.map IA)),o2,o3,o4]
theorem xv(G:cH Γ "_law_is_word")(o3 o4:Option (Kd×U))(O:y.length<=99999)(hd:d.length<100000):match cj y with
  |none=>∃st',Run (execs Γ T9) (Ko x d (a8 (.loc,.str y)) o3 o4) (.rt .loc .ID) st'
  |some r=>∃Q T,Run (execs Γ T9) (Ko x d (a8 (.loc,.str y)) o3 o4) .nx (Ko x (d++[r]) (a8 (.loc,.str y)) Q T):=by
 have hsz:(200000:Nat)<=eh:=by decide
 obtain⟨L,m⟩:∃L,L=tA y #[#v[32]]:=#[_,rfl]
 have H:L.length<=100000:=by rw[m];show eV (by decide) O
 have I:∀z∈L,z.length<=100000:=λz hz=>by rw[m]at hz;show split_len (by decide) ⋯ hz
 let a:Option (Kd×U):=a8 (.loc,.str y);let b:Option (Kd×U):=a8 (.own,.lst (L.map .str));let S:ar:=Ko x d a b o4;have Y:ff .split (.str y) [(.loc,.str " ")]=a8 (.own,.lst (L.map .str)):=by rw[m];show dG ⋯
 have C:Run (ev Γ (.Jf .split (.var 2) [.cst (.str " ")])) (Ko x d a o3 o4) (.own,.lst (L.map .str)) (Ko x d a o3 o4):=cN (af rfl) (aa ah ai) trivial Y;have gl:Run (ev Γ (.bi .len [.var 3])) S (.loc,.int (L.length:Nat)) S:=by
  have h:=cv (Γ:=Γ) (st:=S) (f:=.len) (es:=[.var 3]) (aa (aR rfl) ai) #[#[.own,rfl,rfl],trivial] (pT (xs:=L.map U.str));rw[eH]at h;show h
 have p:Run (IS Γ (.cmp .lt (.bi .len [.var 3]) (.cst (.int 3)))) S (ei (L.length<3)) S:=bo gl ah trivial (hZ (by rw[uk];simp;lia));have c:L.length<3->cj y=cb:=λh=>by
  unfold cj;rw[<-m]
  match L,h with
  |[],_=>rfl
  |[_],_=>rfl
  |[_,_],_=>rfl
  |_::_::_::_,h=>simp at h;lia
 by_cases s:L.length<3
 .rw[c s];rw[ŷ s]at p;show#[S,aA C br (bM (pP (zG p)) (aS ah aU))]
 .rw[Ŷ s]at p;obtain⟨w,e,t,ts,g⟩:∃w e t ts,L=w::e::t::ts:=by
   match L,s with
   |[],h=>simp at h
   |[_],h=>simp at h
   |[_,_],h=>simp at h
   |w::e::t::ts,_=>show#[w,e,t,ts,rfl]
  have i0:IX (L.map U.str) 0=a8 (.str w):=by rw[g];change IX _ ((0:Nat):Int)=_;show bX rfl
  have i1:IX (L.map U.str) 1=a8 (.str e):=by rw[g];change IX _ ((1:Nat):Int)=_;show bX rfl
  have J:∀D:Option (Kd×U),Run (ev Γ (.idx (.var 3) (.cst (.int 0)))) (Ko x d a b D) (.loc,.str w) (Ko x d a b D):=λD=>cD (aR rfl) ah #[#[.own,rfl,rfl],trivial] (aP i0);have g1:Run (ev Γ (.idx (.var 3) (.cst (.int 1)))) S (.loc,.str e) S:=cD (aR rfl) ah #[#[.own,rfl,rfl],trivial] (aP i1);have M5:w.length<=100000:=I w (by rw[g];simp);have v:Run (IS Γ (.or [.cmp .lt (.bi .len [.var 3]) (.cst (.int 3)),.cmp .ne (.idx (.var 3) (.cst (.int 1))) (.cst (.str "=")),.not (.call "_law_is_word" [.idx (.var 3) (.cst (.int 0))])])) S (!ei (e="=")||!wb w) S :=
   pP (vh p (mw (bo g1 ah trivial tN) λ_=>l9 (dX (f_ (aa (J o4) ai) trivial (G w M5) rfl))))
  have T8:cj y=if (wb w&&ei (e=("=":Str)))=c4 then(eU (t::ts)).map λss=>(w,ss) else cb:=by
   unfold cj;rw[<-m,g]
  rw[T8];cases q:(wb w&&ei (e=("=":Str))) with
  |false =>
   rw[Ÿ my];have:(!ei (e="=")||!wb w)=c4:=by rw[<-YT,ĺ,q];rfl
   rw[this]at v;show#[S,aA C br (bM v (aS ah aU))]
  |true =>
   rw[ŵ rfl];have:(!ei (e="=")||!wb w)=dV:=by rw[<-YT,ĺ,q];rfl
   rw[this]at v;have s2:je (.bor 3,.lst (L.map .str)) (a8 2) cb=a8 (.own,.lst ((t::ts).map .str)):=by
    change a8 (Kd.own,U.lst (cut (L.map U.str) (a8 2) cb))=_;rw[g,mu,mu,Hy]
   have g4:Run (ev Γ (.bi .tuple [.Ja (.var 3) [.cst (.int 2)] []])) S (.loc,.tup ((t::ts).map .str)) S:=cv (r:=(.loc,.tup ((t::ts).map .str))) (aa (dC (aR (i:=3) (st:=S) rfl) (dw (ah (u:=.int 2))) dO #[#[.own,rfl,rfl],trivial] s2) ai) trivial rfl;have MA:(t::ts).length<=100000:=by rw[g]at H;simp only[lg]at H ⊢;lia
   have XO:∀z∈t::ts,z.length<=100000:=λz hz=>I z (by rw[g];simp only[fz]at hz ⊢;show .inr (.inr hz));let A:Option (Kd×U):=a8 (.loc,.tup ((t::ts).map .str));have n:Run (IS Γ (.cmp .eq (.var 4) (.tup [.cst (.str "*")]))) (Ko x d a b A) (ei (t::ts=[("*":Str)])) (Ko x d a b A) :=
    bo (y:=(.loc,.tup ([("*":Str)].map .str))) (af rfl) (eR (aa ah ai) trivial (av aD aJ) (by change 1<=eh;lia)) trivial CF
   have j:∀ss:List Str,ss.length<=100000->(∀z∈ss,z.length<=100000)->Run (IS Γ (.not (.bi .all [.comp 1 dV .seq [.var 4] [] (.call "_law_is_word" [.var 0])]))) (Ko x d a b (a8 (.loc,.tup (ss.map .str)))) (!ss.all wb) (Ko x d a b (a8 (.loc,.tup (ss.map .str)))):=λss h1 h2 =>
    dX (tM (j6 G (k:=.loc) (u:=.tup (ss.map .str)) h2 h1 (af rfl) trivial (by change a8 _=_;rw[uv];rfl)))
   have o:∀ss:List Str,Run (execs Γ [.app 1 (.tup [.idx (.var 3) (.cst (.int 0)),.var 4])]) (Ko x d a b (a8 (.loc,.tup (ss.map .str)))) .nx (Ko x (d++[(w,ss)]) a b (a8 (.loc,.tup (ss.map .str)))):=λss=>by
    have em:(d++[((w,ss):Row)]).map IA=d.map IA++[IA (w,ss)]:=by simp
    change Run _ _ _ [a8 (.loc,.str x),a8 (.own,.lst ((d++[((w,ss):Row)]).map IA)),a,b,a8 (.loc,.tup (ss.map .str))];rw[em];show l_ (k:=.own) (k':=.own) (r:=(.loc,IA (w,ss))) rfl (eR (us:=[.str w,.tup (ss.map .str)]) (aa (J _) (aa (af rfl) ai)) trivial (av aD (av aD aJ)) (by change 2<=eh;lia)) aD rfl rfl (by rw[eH];lia) aw
   have l:∀{rest:List TM.S} {f:Fl} {st':ar},Run (execs Γ rest) (Ko x d a b A) f st'->Run (execs Γ (.set 3 (.Jf .split (.var 2) [.cst (.str " ")]) ::
     .ite (.or [.cmp .lt (.bi .len [.var 3]) (.cst (.int 3)),.cmp .ne (.idx (.var 3) (.cst (.int 1))) (.cst (.str "=")),.not (.call "_law_is_word" [.idx (.var 3) (.cst (.int 0))])]) [.ret (.cst .ID)] [] ::
     .set 4 (.bi .tuple [(.Ja (.var 3) [(.cst (.int 2))] [])])::rest)) (Ko x d a o3 o4) f st':=λhh=>aA C br (ay v aw (aA g4 aI hh))
   unfold eU;by_cases B:t::ts=[("*":Str)]
   .rw[ŵ B];rw[ŷ B]at n;show#[b,a8 (.loc,.tup (([]:List Str).map .str)),l (dP n (aA (r:=(.loc,.tup [])) (eR ai trivial aJ (pb _)) aI aw) (ay (j [] (pb _) (by simp)) aw (o [])))]
   .rw[Ÿ B];rw[Ŷ B]at n;have j:=j (t::ts) MA XO;cases N:(t::ts).all wb with
    |false =>
     rw[N]at j;rw[Ÿ my];show#[_,l (ay n aw (bM j (aS ah aU)))]
    |true =>
     rw[N]at j;rw[ŵ rfl];show#[b,A,l (ay n aw (ay j aw (o (t::ts))))]
theorem mQ(h:cH Γ "_law_is_word"):∀(ls:List Str) (d:List Row) (o2 o3 o4:Option (Kd×U)),(∀y∈ls,y.length<=99999)->d.length+ls.length<=100000 ->
  ∃st',Run (forM dV [2] (execs Γ T9) [(.own,src)] (ls.map λy=>(Kd.loc,U.str y))) (Ko x d o2 o3 o4) (match cP cj ls with|some _=>.nx|none=>.rt .loc .ID) st'/\∀f,cP cj ls=a8 f->∃o2 o3 o4,st'=Ko x (d++f) o2 o3 o4
 |[],d,o2,o3,o4,_,_=>#[_,vi trivial,λf e=>by cases e;show#[o2,o3,o4,by rw[D1]]]
 |y::ls,d,o2,o3,o4,hl,i=>by
  rw[lg]at i;have g:=xv h (x:=x) (d:=d) o3 o4 (hl y hY) ⋯;have em:cP cj (y::ls)=(cj y).bind λr=>(cP cj ls).map (r::·):=rfl;rw[em];cases q:cj y with
  |none =>
   rw[q]at g;have(st',g):=g;show#[st',Fm trivial (f9 aI) g,λf e=>by cases e]
  |some r =>
   rw[q]at g;have(j,k,g):=g;have(st',l,m):=mQ h (x:=x) (src:=src) ls (d++[r]) (a8 (.loc,.str y)) j k (λz hz=>hl z (et _ hz)) (by rw[ko,ri];lia);show#[st',?_,λf e=>?_]
   .have n:(match (a8 r).bind (λr=>(cP cj ls).map (r::·)) with|some _=>Fl.nx|none=>.rt .loc .ID)=match cP cj ls with|some _=>.nx|none=>.rt .loc .ID:=by
     cases cP cj ls<;>rfl
    rw[n];show Cj trivial (f9 aI) g l
   .have e:(cP cj ls).map (r::·)=a8 f:=e;rw[hQ]at e;have(rs,o,rfl):=e;have(a,b,c,p):=m rs o;show#[a,b,c,by rw[p];congr 1;simp]
abbrev iI(x:Str):U:=if x="" then .tup [] else match cP cj (tA x #[#v[10]]) with
 |some a=>.tup (a.map IA)
 |none=>.ID
def xx(j:cH Γ "_law_is_word")(p:x.length<=99998)(k:x≠("":Str)):bw Γ fy [.str x]=a8 (.ok (.loc,iI x)):=by
 have hsz:(200000:Nat)<=eh:=by decide
 let l:Option (Kd×U):=a8 (.loc,.str x);have g:TM.start [.str x] 5=[l,cb,cb,cb,cb]:=rfl;have m:=eV (x:=x) (c:=10) (by decide) ⋯;have(st',f,n):=mQ j (x:=x) (src:=.lst ((tA x #[#v[10]]).map .str)) (tA x #[#v[10]]) [] cb cb cb (λy o=>by
  have:=gN o;have:=dF x (c:=10) (by decide);lia) (by simpa using m)
 have h:JX .seq [(.own,.lst ((tA x #[#v[10]]).map .str))]=a8 ((tA x #[#v[10]]).map λy=>(Kd.loc,U.str y)):=by change a8 _=_;rw[uv];rfl
 have i:Run (aX Γ [.Jf .split (.var 0) [.cst (.str "\n")]]) (Ko x [] cb cb cb) [(.own,.lst ((tA x #[#v[10]]).map .str))] (Ko x [] cb cb cb):=aa (cN (af rfl) (aa ah ai) trivial (dG ⋯)) ai;unfold iI;rw[Ÿ k];cases q:cP cj (tA x #[#v[10]]) with
 |none =>
  rw[q]at f;show au rfl (.inr rfl) g (aA (r:=(.own,.lst [])) (bI ai trivial aJ (pb _)) br (w9 (zH i trivial h rfl f)))
 |some d =>
  rw[q]at f;have(a,b,c,e):=n d q;rw[HH]at e;subst e;show au rfl (.inr rfl) g (aA (r:=(.own,.lst [])) (bI ai trivial aJ (pb _)) br (hV i trivial h rfl f (aS (cv (r:=(.loc,.tup (d.map IA))) (aa (aR rfl) ai) #[#[.own,rfl,rfl],trivial] rfl) aU)))
def CG(c:x≠("":Str)->Γ "_law_read" [.str x]=a8 (.ok (.loc,iI x))):bw Γ gL [.str x]=a8 (.ok (.loc,iI x)):=by
 let S:ar:=[a8 (.loc,.str x)]
 have b:TM.start [.str x] 1=S:=rfl;have a:Run (IS Γ (.cmp .eq (.var 0) (.cst (.str "")))) S (ei (x="")) S:=bo (af rfl) ah trivial jk;by_cases e:x=""
 .rw[ŷ e]at a;have:iI x=.tup []:=by unfold iI;rw[ŵ e]
  rw[this];show au rfl (.inr rfl) b (bM a (aS (eR ai trivial aJ (pb _)) aU))
 .rw[Ŷ e]at a;show au rfl (.inr rfl) b (ay a aw (aS (bx (aa (af rfl) ai) trivial (c e)) aU))
end
end K
namespace TM
open PySem L2 IQ
def jy(h:x∈cut xs lo a):x∈xs:=RN (RL h)
def Av(xs:List α)(j:Nat):(cut xs cb (a8 (j:Int))).length<=j:=by
 unfold cut;rw[HT.dn,ve];change min (min j xs.length - 0) _<=j;lia
def Aw(xs:List α)(j:Nat):(cut xs (a8 (j:Int)) cb).length<=xs.length - j:=by
 unfold cut;rw[HT.dn,ve,H4];lia
def tZ(x:Str):Kn x (a8 ((x.length:Nat)+1:Int)) cb=Kn x (a8 (x.length:Nat)) cb:=by
 have e:TB (a8 ((x.length:Nat)+1:Int)) cb 1 x.length=TB (a8 (x.length:Nat)) cb 1 x.length:=by
  have a:¬((x.length:Nat)+1:Int)<0:=by lia
  have b:¬((x.length:Nat):Int)<0:=by lia
  have c:min ((x.length:Nat)+1:Int) (x.length:Nat)=min ((x.length:Nat):Int) (x.length:Nat):=by lia
  simp only[TB,Ÿ a,Ÿ b,c,ŵ (show(1:Int)>0 by decide)]
 unfold Kn;rw[e]
def Ax{n p:Nat}(h:Nw n x)(a:p<=x.length):(Kn x cb (a8 (p:Int))).length<=x.length/\Nw n (Kn x cb (a8 (p:Int))):=by
 rw[StrLaws.sliceText_to #[⋯,by rw[<-len_list];lia]];show#[by rw[len_list,len_list];simp<;>lia,?_];change mx 0 ((x.cps.toList.drop 0).take _)<=n;show DD (vG _ _) h
def t5{n p:Nat}(h:Nw n x)(a:p<=x.length+1):(Kn x (a8 (p:Int)) cb).length<=x.length/\Nw n (Kn x (a8 (p:Int)) cb):=by
 have key:∀q:Nat,q<=x.length->(Kn x (a8 (q:Int)) cb).length<=x.length/\Nw n (Kn x (a8 (q:Int)) cb):=λq b=>by
  rw[StrLaws.sliceText_from #[⋯,by rw[<-len_list];lia]];show#[by rw[len_list,len_list];simp<;>lia,?_];change mx 0 ((x.cps.toList.drop _).take _)<=n;show DD (DD (vG _ _) (CC _ _)) h
 by_cases e:p=x.length+1
 .subst e;have:=tZ x;rw[SD,show((1:Nat):Int)=1 from rfl,this];show key _ (ke _)
 .show key p ⋯
def gO(k:Kd)(ss:List Str):gS k (ss.map U.str)=c4:=by unfold gS;rw[gG,Bool.or_true]
def kB:je (k,.lst (ss.map .str)) lo a=a8 (.own,.lst ((cut ss lo a).map .str)):=Cr (gO k ss)
def bt{a b:List Str}(h:a.length+b.length<=200000):Kh .add (k,.lst (a.map .str)) (k',.lst (b.map .str))=a8 (.own,.lst ((a++b).map .str)):=by
 have hz:(200000:Nat)<=eh:=by decide
 rw[rq (by rw[eH,eH];lia) (gO k a) (gO k' b),H8]
def vH{ss:List Str}:JN .len [(k,.lst (ss.map .str))]=a8 (.loc,.int (ss.length:Nat)):=by
 have:=pT (k:=k) (xs:=ss.map U.str)
 rwa [eH]at this
def eW(i:Int){n:Nat}(h:0<n):∃j:Nat,j<n/\i % (n:Int)=(j:Int):=by
 have a:=Rh i (show(n:Int)≠0 by lia);have b:=QF i (show(0:Int)<(n:Int) by lia);show#[(i % (n:Int)).toNat,⋯,⋯]
def FH{ss:List Str}{j:Nat}(h:j<ss.length):∃y∈ss,IX (ss.map U.str) (j:Int)=a8 (.str y):=#[ss[j],RT h,bX (by simp[h])]
abbrev oi:List Str:=["*","=","","a","bank/2","bank/1","Bank","abcdefghi","a/100","a/","/3","==","a="]
abbrev rF:List Str:=["**","a/02"]
abbrev rG:List Str:=["-","none","a.b","7","a/2/2"]
def CH:∀y∈(oi++rF)++rG,y.length<=10/\32∉y.cps.toList:=by decide +kernel
end TM
namespace K
open PySem L2 TM IQ
section
variable{Γ:Tab}{ds:List Int}
def t6(hd:ds.length=5)(H:ws≠[])(hz:IM ws<=50000)(i:∀w∈ws,32∉w.cps.toList):∃ls:List Str,bw Γ cz [.lst (ds.map .int),.lst (ws.map .str)]=a8 (.ok (.own,.lst (ls.map .str)))/\ls.length<=ws.length+1/\IM ls<=2 * IM ws+20/\∀w∈ls,32∉w.cps.toList:=by
 have hsz:(200000:Nat)<=eh:=by decide
 have M5:=cY ws;have I:0<ws.length:=â.mpr H;let c:Option (Kd×U):=a8 (.any,.lst (ds.map .int));let d:Option (Kd×U):=a8 (.any,.lst (ws.map .str));have k:TM.start [.lst (ds.map .int),.lst (ws.map .str)] 6=[c,d,cb,cb,cb,cb]:=rfl;have l:∀q:Nat,q<5->IX (ds.map U.int) (q:Int)=a8 (.int (dd ds q)):=λq g=>b_ ⋯;have m:∀(q:Nat) (o2 o3 o4 o5:Option (Kd×U)),q<5->Run (ev Γ (.idx (.var 0) (.cst (.int (q:Int))))) [c,d,o2,o3,o4,o5] (.any,.int (dd ds q)) [c,d,o2,o3,o4,o5]:=λq o2 o3 o4 o5 g=>cD (bH rfl) ah trivial (aP (l q g));have(j,J,L):=eW (dd ds 2) I;let N:Option (Kd×U):=a8 (.loc,.int (j:Int));have O:Run (ev Γ (.bin .mod (.idx (.var 0) (.cst (.int 2))) (.bi .len [.var 1]))) [c,d,cb,cb,cb,cb] (.loc,.int (j:Int)) [c,d,cb,cb,cb,cb]:=by
  rw[<-L];show aE (m 2 cb cb cb cb ⋯) (cv (aa (bH rfl) ai) trivial vH) trivial (bu ⋯)
 let b:=dd ds 1 % 4;have w0:0<=b:=Rh _ (by decide);let Q:Option (Kd×U):=a8 (.own,.lst (((oi++rF)++rG).map .str));let T:Option (Kd×U):=a8 (.loc,.int b);let S:=λo5:Option (Kd×U)=>([c,d,N,Q,T,o5]:ar)
 have e:∀{rest:List TM.S} {f:Fl} {st':ar},Run (execs Γ rest) (S cb) f st'->Run (execs Γ (.set 2 (.bin .mod (.idx (.var 0) (.cst (.int 2))) (.bi .len [.var 1])) ::
   .set 3 (.lst [.cst (.str "*"),.cst (.str "="),.cst (.str ""),.cst (.str "a"),.cst (.str "bank/2"),.cst (.str "bank/1"),.cst (.str "Bank"),.cst (.str "abcdefghi"),.cst (.str "a/100"),.cst (.str "a/"),.cst (.str "/3"),.cst (.str "=="),.cst (.str "a=")]) ::
   .set 3 (.bin .add (.var 3) (.lst [.cst (.str "**"),.cst (.str "a/02")]))::.set 3 (.bin .add (.var 3) (.lst [.cst (.str "-"),.cst (.str "none"),.cst (.str "a.b"),.cst (.str "7"),.cst (.str "a/2/2")])) ::
   .set 4 (.bin .mod (.idx (.var 0) (.cst (.int 1))) (.cst (.int 4)))::rest)) [c,d,cb,cb,cb,cb] f st':=λhh =>
  aA O aI (aA (r:=(.own,.lst (oi.map .str))) (bI (us:=oi.map U.str) (aa ah (aa ah (aa ah (aa ah (aa ah (aa ah (aa ah (aa ah (aa ah (aa ah (aa ah (aa ah (aa ah ai))))))))))))) trivial (av aD (av aD (av aD (av aD (av aD (av aD (av aD (av aD (av aD (av aD (av aD (av aD (av aD aJ))))))))))))) (by change 13<=eh;lia)) br
   (aA (aE (aR rfl) (bI (us:=rF.map U.str) (aa ah (aa ah ai)) trivial (av aD (av aD aJ)) (by change 2<=eh;lia)) #[#[.own,rfl,rfl],trivial] (bt (by decide))) br
   (aA (aE (aR rfl) (bI (us:=rG.map U.str) (aa ah (aa ah (aa ah (aa ah (aa ah ai))))) trivial (av aD (av aD (av aD (av aD (av aD aJ))))) (by change 5<=eh;lia)) #[#[.own,rfl,rfl],trivial] (bt (by decide))) br
   (aA (aE (m 1 _ _ _ _ ⋯) ah trivial (bu (by decide))) aI hh))))
 have A:∀n:Int,Run (IS Γ (.cmp .eq (.var 4) (.cst (.int n)))) (S cb) (ei (b=n)) (S cb):=λn=>bo (af rfl) ah trivial (fq rfl);have B:∀{n:Int},b=n->Run (IS Γ (.cmp .eq (.var 4) (.cst (.int n)))) (S cb) c4 (S cb):=λ{n} h=>by have:=A n;rwa [ŷ h]at this
 have o:∀{n:Int},b≠n->Run (IS Γ (.cmp .eq (.var 4) (.cst (.int n)))) (S cb) dV (S cb):=λ{n} h=>by have:=A n;rwa [Ŷ h]at this
 let a:List Str:=cut ws cb (a8 (j:Int));have s:=Av ws j;have t:=gM ws cb (a8 (j:Int));have u:∀o5,Run (ev Γ (.Ja (.var 1) [] [.var 2])) (S o5) (.own,.lst (a.map .str)) (S o5):=λo5=>dC (bH rfl) dO (dw (af rfl)) trivial kB;have v:∀w∈a,32∉w.cps.toList:=λw hw=>i w (jy hw);have cl:∀q:Nat,(cut ws (a8 (q:Int)) cb).length<=ws.length - q/\IM (cut ws (a8 (q:Int)) cb)<=IM ws/\∀w∈cut ws (a8 (q:Int)) cb,32∉w.cps.toList:=λq=>#[Aw ws q,gM _ _ _,λw hw=>i w (jy hw)]
 by_cases x:b=0
 .have(k1,k2,k3):=cl (j+1);rw[SD,show((1:Nat):Int)=1 from rfl]at k1 k2 k3;have C:a.length<=j:=s;show#[a++cut ws (a8 ((j:Int)+1)) cb,au rfl (.inl rfl) k (e (bM (B x) (aS (aE (u cb) (dC (bH rfl) (dw (aE (af rfl) ah trivial cR)) dO trivial kB) trivial (bt ⋯)) rf))),by rw[ko];lia,by rw[aW];have:IM a<=IM ws:=t;lia,λw hw=>(mN.mp hw).elim (v w) (k3 w)]
 have(y,D,Y):=FH (ss:=ws) J;by_cases G:b=1
 .have(k1,k2,k3):=cl j;have C:a.length<=j:=s;have Yt:=gN D;have XQ:IM a+IM (cut ws (a8 (j:Int)) cb)<=2 * IM ws:=by have:IM a<=IM ws:=t;lia
  have XR:IM a+IM (cut ws (a8 (j:Int)) cb)<=IM ws:=by
   have ea:a=ws.take j:=by
    change cut ws cb (a8 (j:Int))=_;unfold cut;rw[HT.dn];change(ws.drop 0).take (min j ws.length - 0)=_;rw[UE ⋯];rfl
   have eb:cut ws (a8 (j:Int)) cb=ws.drop j:=by
    unfold cut;rw[HT.dn,HT.k6,UE ⋯,KU (by rw[H4];lia)]
   rw[ea,eb,<-aW,Kj];show ke _
  show#[(a++[y])++cut ws (a8 (j:Int)) cb,au rfl (.inl rfl) k (e (ay (o x) aw (bM (B G) (aS (aE (aE (u cb) (bI (us:=[y].map .str) (aa (cD (bH rfl) (af rfl) trivial (aP Y)) ai) trivial (av (zD rfl) aJ) (by change 1<=eh;lia)) trivial (bt (by rw[ri];lia))) (dC (bH rfl) (dw (af rfl)) dO trivial kB) trivial (bt (by rw[ko,ri];lia))) rf)))),by rw[ko,ko,ri];lia,?_,λw hw=>?_]
  .rw[aW,aW];change IM a+(y.length+1+0)+_<=_;lia
  .rcases mN.mp hw with hw|hw
   .rcases mN.mp hw with hw|hw
    .show v w hw
    .rw[tr.mp hw];show i y D
   .show k3 w hw
 .have(q,g,eq):=eW (dd ds 3) (n:=((oi++rF)++rG).length) (by decide);have(z,XS,XT):=FH (ss:=(oi++rF)++rG) g;have(z1,z2):=CH z XS;obtain⟨p,hp⟩:∃p:Nat,(j:Int)+1 - b % 2=(p:Int):=#[((j:Int)+1 - b % 2).toNat,⋯]
  have Ux:j<=p:=by lia
  have(k1,k2,k3):=cl p;have C:a.length<=j:=s;have g5:Run (ev Γ (.idx (.var 3) (.bin .mod (.idx (.var 0) (.cst (.int 3))) (.bi .len [.var 3])))) (S cb) (.loc,.str z) (S cb):=by
   show cD (y:=(.loc,.int (q:Int))) (aR rfl) ?_ #[#[.own,rfl,rfl],trivial] (aP XT);rw[<-eq];show aE (m 3 _ _ _ _ ⋯) (cv (aa (aR rfl) ai) #[#[.own,rfl,rfl],trivial] vH) trivial (bu (by decide))
  have gp:Run (ev Γ (.bin .sub (.bin .add (.var 2) (.cst (.int 1))) (.bin .mod (.var 4) (.cst (.int 2))))) (S (a8 (.loc,.str z))) (.loc,.int (p:Int)) (S (a8 (.loc,.str z))):=by
   rw[<-hp];show aE (aE (af rfl) ah trivial cR) (aE (af rfl) ah trivial (bu (by decide))) trivial jB
  show#[(a++[z])++cut ws (a8 (p:Int)) cb,au rfl (.inl rfl) k (e (ay (o x) aw (ay (o G) aw (aA g5 aI (aS (aE (aE (u _) (bI (us:=[z].map .str) (aa (af rfl) ai) trivial (av aD aJ) (by change 1<=eh;lia)) trivial (bt (by rw[ri];lia))) (dC (bH rfl) (dw gp) dO trivial kB) trivial (bt (by rw[ko,ri];lia))) rf))))),by rw[ko,ko,ri];lia,?_,λw hw=>?_]
  .rw[aW,aW];change IM a+(z.length+1+0)+_<=_;have:IM a<=IM ws:=t;lia
  .rcases mN.mp hw with hw|hw
   .rcases mN.mp hw with hw|hw
    .show v w hw
    .rw[tr.mp hw];show z2
   .show k3 w hw
end
end K
namespace TM
open PySem L2 IQ
def Hz(b:Run (ev Γ a) st x st1)(c:yE x=a8 r):Run (ev Γ (.Ni a)) st r st1:=ae b (cU c)
theorem vI:∀l:List Str,IM l.reverse=IM l
 |[]=>rfl
 |x::l=>by
  rw[OQ,aW,vI l];change IM l+(x.length+1+0)=x.length+1+IM l;lia
def Dr(i:Nat)(h:i<8):∃c,IX ("abcdefgh":Str).cps.toList (i:Int)=a8 c:=by
 have:∀i:_root_.Fin 8,(IX ("abcdefgh":Str).cps.toList ((i:Nat):Int)).isSome=c4:=by decide +kernel
 show PC.mp (this #[i,h])
def HA(i:Nat)(h:i<10):∃c,IX (" \n=*/aZ29-":Str).cps.toList (i:Int)=a8 c:=by
 have:∀i:_root_.Fin 10,(IX (" \n=*/aZ29-":Str).cps.toList ((i:Nat):Int)).isSome=c4:=by decide +kernel
 show PC.mp (this #[i,h])
def Ay(h:x.length<=n):Nw n x:=by
 have c:=gk x.cps.toList 0;have b:=List.count_le_length (a:=32) (l:=x.cps.toList);rw[<-len_list]at b;change mx 0 _<=n;lia
def Az(h:Nw n x)(a:Nw m y):Nw (n+m) (x++y):=by
 change mx 0 _<=_;rw[dY];have:=qb x.cps.toList y.cps.toList 0;have h:mx 0 x.cps.toList<=n:=h;have a:mx 0 y.cps.toList<=m:=a;lia
def Nw.up(h:Nw n x)(a:n<=m):Nw m x:=DD h a
end TM
namespace K
open PySem L2 TM IQ
section
abbrev HB(Γ:Tab)(a:List Int):Prop:=∀ws:List Str,ws≠[]->IM ws<=50000->(∀w∈ws,32∉w.cps.toList)->∃ls:List Str,Γ "_law_bent_words" [.lst (a.map .int),.lst (ws.map .str)]=a8 (.ok (.own,.lst (ls.map .str)))/\ls.length<=ws.length+1/\IM ls<=2 * IM ws+20/\∀w∈ls,32∉w.cps.toList
abbrev XU:List TM.S:=[.app 2 (.bin .add (.bin .add (.bin .add (.cst (.str "zz")) (.idx (.var 5) (.bin .J7 (.var 6) (.cst (.int 8))))) (.idx (.var 5) (.bin .mod (.var 6) (.cst (.int 8))))) (.cst (.str " = *")))]
def AA(hd:C.length=5)(hx:x.length<=24000)(hn:Nw n x)(h9:9<=n)(XW:HB Γ C):∃y:Str,bw Γ dQ [.lst (C.map .int),.str x]=a8 (.ok (.loc,.str y))/\y.length<=4 * x.length+1000/\Nw (2 * n+1) y:=by
 have hsz:(200000:Nat)<=eh:=by decide
 obtain⟨R,hR⟩:∃R,R=tA x #[#v[10]]:=#[_,rfl]
 have XX:R≠[]:=by rw[hR];show jt (by decide)
 have Yu:IM R=x.length+1:=by rw[hR];show dF x (by decide)
 have Wq:=cY R;have O0:∀r∈R,Nw n r:=by rw[hR];show rD hn
 have Ua:∀r∈R,10∉r.cps.toList:=λr hr=>by rw[hR]at hr;show split_free hr
 have Ov:0<R.length:=â.mpr XX;let o:Option (Kd×U):=a8 (.any,.lst (C.map .int));let B:Option (Kd×U):=a8 (.loc,.str x);have N:TM.start [.lst (C.map .int),.str x] 11=[o,B,cb,cb,cb,cb,cb,cb,cb,cb,cb]:=rfl;have ab:∀q:Nat,q<5->IX (C.map U.int) (q:Int)=a8 (.int (dd C q)):=λq hq=>b_ ⋯;have gd:∀(q:Nat) (l:List (Option (Kd×U))),q<5->Run (ev Γ (.idx (.var 0) (.cst (.int (q:Int))))) (o::l) (.any,.int (dd C q)) (o::l):=λq l hq=>cD (bH rfl) ah trivial (aP (ab q hq));let O:Option (Kd×U):=a8 (.own,.lst (R.map .str));have g2:Run (ev Γ (.Jf .split (.var 1) [.cst (.str "\n")])) [o,B,cb,cb,cb,cb,cb,cb,cb,cb,cb] (.own,.lst (R.map .str)) [o,B,cb,cb,cb,cb,cb,cb,cb,cb,cb]:=by
  rw[hR];show cN (af rfl) (aa ah ai) trivial (dG ⋯)
 have(j,hj,ej):=eW (dd C 1 / 4) Ov;let Q:Option (Kd×U):=a8 (.loc,.int (j:Int));have g3:Run (ev Γ (.bin .mod (.bin .J7 (.idx (.var 0) (.cst (.int 1))) (.cst (.int 4))) (.bi .len [.var 2]))) [o,B,O,cb,cb,cb,cb,cb,cb,cb,cb] (.loc,.int (j:Int)) [o,B,O,cb,cb,cb,cb,cb,cb,cb,cb]:=by
  rw[<-ej];show aE (aE (gd 1 _ ⋯) ah trivial (TM.pS (by decide))) (cv (aa (aR rfl) ai) #[#[.own,rfl,rfl],trivial] vH) trivial (bu ⋯)
 let a:=dd C 0 % 11;have w0:0<=a:=Rh _ (by decide);have Yv:a<11:=QF _ (by decide);let Y:Option (Kd×U):=a8 (.loc,.int a);let S:ar:=[o,B,O,Q,Y,cb,cb,cb,cb,cb,cb]
 have s:∀{rest:List TM.S} {f:Fl} {st':ar},Run (execs Γ rest) S f st'->Run (execs Γ (.set 2 (.Jf .split (.var 1) [.cst (.str "\n")])::.set 3 (.bin .mod (.bin .J7 (.idx (.var 0) (.cst (.int 1))) (.cst (.int 4))) (.bi .len [.var 2])) ::
   .set 4 (.bin .mod (.idx (.var 0) (.cst (.int 0))) (.cst (.int 11)))::rest)) [o,B,cb,cb,cb,cb,cb,cb,cb,cb,cb] f st':=λhh =>
  aA g2 br (aA g3 aI (aA (aE (gd 0 _ ⋯) ah trivial (bu (by decide))) aI hh))
 have tw:∀n:Int,Run (IS Γ (.cmp .eq (.var 4) (.cst (.int n)))) S (ei (a=n)) S:=λn=>bo (af rfl) ah trivial (fq rfl);have MY:∀{n:Int},a=n->Run (IS Γ (.cmp .eq (.var 4) (.cst (.int n)))) S c4 S:=λ{n} h=>by have:=tw n;rwa [ŷ h]at this
 have g:∀{n:Int},a≠n->Run (IS Γ (.cmp .eq (.var 4) (.cst (.int n)))) S dV S:=λ{n} h=>by have:=tw n;rwa [Ŷ h]at this
 have gR:∀(o5 H o7:Option (Kd×U)),Run (ev Γ (.var 2)) [o,B,O,Q,Y,o5,H,o7,cb,cb,cb] (.bor 2,.lst (R.map .str)) [o,B,O,Q,Y,o5,H,o7,cb,cb,cb]:=λ_ _ _=>aR rfl;have st2:∀(o5 H o7:Option (Kd×U)) (r:List (Kd×U)),bf r [o,B,O,Q,Y,o5,H,o7,cb,cb,cb]->bf ((.bor 2,.lst (R.map .str))::r) [o,B,O,Q,Y,o5,H,o7,cb,cb,cb]:=λ_ _ _ r h=>#[#[.own,rfl,rfl],h]
 let T:=λo7:Option (Kd×U)=>([o,B,O,Q,Y,cb,cb,o7,cb,cb,cb]:ar)
 have Rg:∀o7,Run (ev Γ (.Ja (.var 2) [] [.var 3])) (T o7) (.own,.lst ((cut R cb (a8 (j:Int))).map .str)) (T o7):=λo7=>dC (gR _ _ o7) dO (dw (af rfl)) (st2 _ _ _ [] trivial) kB;have Vw:∀o7,Run (ev Γ (.Ja (.var 2) [.var 3] [])) (T o7) (.own,.lst ((cut R (a8 (j:Int)) cb).map .str)) (T o7):=λo7=>dC (gR _ _ o7) (dw (af rfl)) dO (st2 _ _ _ [] trivial) kB;have Vx:∀o7,Run (ev Γ (.Ja (.var 2) [.bin .add (.var 3) (.cst (.int 1))] [])) (T o7) (.own,.lst ((cut R (a8 ((j:Int)+1)) cb).map .str)) (T o7):=λo7=>dC (gR _ _ o7) (dw (aE (af rfl) ah trivial cR)) dO (st2 _ _ _ [] trivial) kB;have(y,hy,Qr):=FH (ss:=R) hj;have gI:∀o7,Run (ev Γ (.idx (.var 2) (.var 3))) (T o7) (.loc,.str y) (T o7):=λo7=>cD (gR _ _ o7) (af rfl) (st2 _ _ _ _ trivial) (aP Qr);have yt:=gN hy;have D:∀{e:E} {k:Kd} {l:List Str} {o7:Option (Kd×U)} {ss:List TM.S},Run (ev Γ e) (T o7) (.own,.lst (l.map .str)) (T o7)->IM l<=4 * x.length+1000->(∀r∈l,Nw (2 * n+1) r) ->
   ∃y:Str,Run (execs Γ (.ret (.Jf .join (.cst (.str "\n")) [e])::ss)) (T o7) (.rt .loc (.str y)) (T o7)/\y.length<=4 * x.length+1000/\Nw (2 * n+1) y:=λ{e k l o7 ss} u v A =>
  #[H0 #[#v[10]] l,aS (cN ah (aa u ai) trivial (jv ⋯)) aU,DD ju v,qc A]
 have t1:=gM R cb (a8 (j:Int));have t2:=gM R (a8 (j:Int)) cb;have t3:=gM R (a8 ((j:Int)+1)) cb;have l1:=cY (cut R cb (a8 (j:Int)));have l2:=cY (cut R (a8 (j:Int)) cb);have l3:=cY (cut R (a8 ((j:Int)+1)) cb);have wc:∀{lo hi:Option Int},∀r∈cut R lo hi,Nw (2 * n+1) r:=λ{lo hi} r hr=>(O0 r (jy hr)).up ⋯;have ac:IM (cut R cb (a8 (j:Int)))+IM (cut R (a8 (j:Int)) cb)<=IM R:=by
  have ea:cut R cb (a8 (j:Int))=R.take j:=by
   unfold cut;rw[HT.dn];change(R.drop 0).take (min j R.length - 0)=_;rw[UE ⋯];rfl
  have eb:cut R (a8 (j:Int)) cb=R.drop j:=by
   unfold cut;rw[HT.dn,HT.k6,UE ⋯,KU (by rw[H4];lia)]
  rw[ea,eb,<-aW,Kj];show ke _
 by_cases e9:a=9
 .have(z,u,v,A):=D (k:=.own) (o7:=cb) (ss:=[]) (l:=(cut R cb (a8 (j:Int))++[("q = a b c d e f g h i":Str)])++cut R (a8 (j:Int)) cb)
   (aE (aE (Rg cb) (bI (us:=[("q = a b c d e f g h i":Str)].map .str) (aa ah ai) trivial (av aD aJ) (by change 1<=eh;lia)) trivial (bt (by rw[ri];lia))) (Vw cb) trivial (bt (by rw[ko,ri];lia)))
   (by
    rw[aW,aW];have:IM [("q = a b c d e f g h i":Str)]=22:=by decide +kernel
    lia) (λr hr=>by
    rcases mN.mp hr with hr|hr
    .rcases mN.mp hr with hr|hr
     .show wc r hr
     .rw[tr.mp hr];show Nw.up (n:=10) (by change mx 0 _<=10;decide +kernel) ⋯
    .show wc r hr)
  show#[z,au rfl (.inr rfl) N (s (bM (MY e9) u)),v,A]
 by_cases LA:a=10
 .let i5:Option (Kd×U):=a8 (.loc,.str "abcdefgh");let F:=λ(rs:List Str) (H:Option (Kd×U))=>([o,B,a8 (.own,.lst (rs.map .str)),Q,Y,i5,H,cb,cb,cb,cb]:ar)
  let m:Nat:=((61:Int) - (R.length:Nat)).toNat;have hm:m<=61:=by lia
  have(st',run,Mw,rs,H,e1,e2,e):=mz (t:=dV) (is:=[6]) (body:=execs Γ XU) (rs:=[(.loc,.int ((61:Int) - (R.length:Nat)))]) (λi:Nat=>(Kd.loc,U.int (0+(i:Int))))
   (λd r st=>d++r=gA m/\∃(rs:List Str) (H:Option (Kd×U)),IM rs<=IM R+9 * d.length/\(∀r∈rs,Nw (2 * n+1) r)/\st=F rs H) (λ_ _ _ _=>trivial) (λd i r st Jq=>by
    have(Kc,rs,H,e1,e2,e):=Jq;subst e;have hi:i<m:=w6.mp (by rw[<-Kc];simp);have Vv:d.length<=m:=by have:=Ż OC Kc;simp at this;lia
    have(c1,q1):=Dr (i / 8) ⋯;have(c2,q2):=Dr (i % 8) ⋯;let T:=F rs (a8 (.loc,.int (0+(i:Int))));have f1:Kh .J7 (.loc,.int (0+(i:Int))) (.loc,.int 8)=a8 (.loc,.int ((i / 8:Nat):Int)):=by
     rw[TM.pS (by decide)];congr 3
     lia
    have f2:Kh .mod (.loc,.int (0+(i:Int))) (.loc,.int 8)=a8 (.loc,.int ((i % 8:Nat):Int)):=by
     rw[TM.bu (by decide)];congr 3
     lia
    have l3:("abcdefgh":Str).length<=eh:=by decide +kernel
    have g1:Run (ev Γ (.idx (.var 5) (.bin .J7 (.var 6) (.cst (.int 8))))) T (.loc,.str (IQ.one c1)) T:=cD (af rfl) (aE (af rfl) ah trivial f1) trivial (fJ l3 q1);have g2:Run (ev Γ (.idx (.var 5) (.bin .mod (.var 6) (.cst (.int 8))))) T (.loc,.str (IQ.one c2)) T:=cD (af rfl) (aE (af rfl) ah trivial f2) trivial (fJ l3 q2);let w:Str:=(("zz"++IQ.one c1)++IQ.one c2)++" = *";have o1:∀c,(IQ.one c).length=1:=λc=>rfl;have z2:("zz":Str).length=2:=by decide +kernel
    have z4:(" = *":Str).length=4:=by decide +kernel
    have wl:w.length=8:=by change((("zz"++IQ.one c1)++IQ.one c2)++" = *":Str).length=8;rw[str_len,str_len,str_len,o1,o1,z2,z4]
    have gw:Run (ev Γ (.bin .add (.bin .add (.bin .add (.cst (.str "zz")) (.idx (.var 5) (.bin .J7 (.var 6) (.cst (.int 8))))) (.idx (.var 5) (.bin .mod (.var 6) (.cst (.int 8))))) (.cst (.str " = *")))) T (.loc,.str w) T :=
     aE (aE (aE ah g1 trivial (cV (by rw[o1,z2];lia))) g2 trivial (cV (by rw[str_len,o1,o1,z2];lia))) ah trivial (cV (by rw[str_len,str_len,o1,o1,z2,z4];lia))
    have rl:=cY rs;have em:(rs++[w]).map U.str=rs.map U.str++[.str w]:=by simp
    show#[T,F (rs++[w]) (a8 (.loc,.int (0+(i:Int)))),f9 aI,?_,by rw[<-Kc];simp,_,_,?_,λr hr=>?_,rfl]
    .change Run _ _ _ [o,B,a8 (.own,.lst ((rs++[w]).map .str)),Q,Y,i5,a8 (.loc,.int (0+(i:Int))),cb,cb,cb,cb];rw[em];show l_ (k:=.own) (k':=.own) (r:=(.loc,.str w)) rfl gw aD rfl rfl (by rw[eH];lia) aw
    .rw[aW,ko,ri];change IM rs+(w.length+1+0)<=_;lia
    .rcases mN.mp hr with hr|hr
     .show e2 r hr
     .rw[tr.mp hr];show Ay ⋯) (gA m) [] (F R cb) ⟨rfl,R,cb,by simp,λr hr=>(O0 r hr).up ⋯,rfl⟩
  subst e;rw[HH,PH]at e1;have gn:Run (ev Γ (.bin .sub (.cst (.int 61)) (.bi .len [.var 2]))) (F R cb) (.loc,.int ((61:Int) - (R.length:Nat))) (F R cb):=aE ah (cv (aa (aR rfl) ai) #[#[.own,rfl,rfl],trivial] vH) trivial jB;have XY:JX .Je [(.loc,.int ((61:Int) - (R.length:Nat)))]=a8 ((gA m).map λi:Nat=>(Kd.loc,U.int (0+(i:Int)))):=by
   rw[mi,sG,ŵ #[⋯,⋯]]
  show#[H0 #[#v[10]] rs,au rfl (.inr rfl) N (s (ay (g e9) aw (bM (MY LA) (aA ah aI (hV (rs:=[(.loc,.int ((61:Int) - (R.length:Nat)))]) (st1:=F R cb) (aa gn ai) trivial XY rfl run
   (aS (cN ah (aa (aR rfl) ai) #[#[.own,rfl,rfl],trivial] (jv ⋯)) aU)))))),DD ju ⋯,qc e2]
 by_cases e0:a=0
 .have(z,u,v,A):=D (k:=.own) (o7:=cb) (ss:=[]) (l:=cut R cb (a8 (j:Int))++cut R (a8 ((j:Int)+1)) cb)
   (aE (Rg cb) (Vx cb) trivial (bt ⋯)) (by rw[aW];lia) (λr hr=>(mN.mp hr).elim (wc r) (wc r))
  show#[z,au rfl (.inr rfl) N (s (ay (g e9) aw (ay (g LA) aw (bM (MY e0) u)))),v,A]
 by_cases e1:a=1
 .have(z,u,v,A):=D (k:=.own) (o7:=cb) (ss:=[]) (l:=R++[y])
   (aE (gR _ _ _) (bI (us:=[y].map .str) (aa (gI cb) ai) trivial (av aD aJ) (by change 1<=eh;lia)) (st2 _ _ _ _ trivial) (bt (by rw[ri];lia)))
   (by rw[aW];change IM R+(y.length+1+0)<=_;lia) (λr hr=>by
    rcases mN.mp hr with hr|hr
    .show(O0 r hr).up ⋯
    .rw[tr.mp hr];show(O0 y hy).up ⋯)
  show#[z,au rfl (.inr rfl) N (s (ay (g e9) aw (ay (g LA) aw (ay (g e0) aw (bM (MY e1) u))))),v,A]
 obtain⟨W,hW⟩:∃W,W=tA y #[#v[32]]:=#[_,rfl]
 have XZ:W≠[]:=by rw[hW];show jt (by decide)
 have Yw:IM W=y.length+1:=by rw[hW];show dF y (by decide)
 have Ub:∀w∈W,32∉w.cps.toList:=λw hw=>by rw[hW]at hw;show split_free hw
 have Yx:W.length<=n+1:=by rw[hW];show oh (O0 y hy) (Ua y hy)
 have gW:Run (ev Γ (.Jf .split (.idx (.var 2) (.var 3)) [.cst (.str " ")])) (T cb) (.own,.lst (W.map .str)) (T cb):=by
  rw[hW];show cN (gI cb) (aa ah ai) trivial (dG ⋯)
 by_cases e2:a=2
 .let G:Option (Kd×U):=a8 (.own,.lst (W.map .str));let V:List Str:=cut W cb (a8 2)++(W.drop 2).reverse;have v1:=Av W 2;have v2:=gM W cb (a8 2);have v3:IM (W.drop 2).reverse<=IM W:=by
   have h:=Ż IM (Kj 2 W);rw[aW]at h;rw[vI];lia
  have v4:(cut W cb (a8 2)).length+(W.drop 2).reverse.length<=n+1:=by
   rw[UG,H4];have v1:(cut W cb (a8 2)).length<=2:=v1;have v5:=Cq W cb (a8 2);lia
  have vl:=cY W;have vm:=cY (cut W cb (a8 2));have vn:=cY (W.drop 2).reverse;have X0:(H0 #[#v[32]] V).length<=IM V:=ju;have vt:IM V=IM (cut W cb (a8 2))+IM (W.drop 2).reverse:=aW _ _;have gV:Run (ev Γ (.Jf .join (.cst (.str " ")) [.bin .add (.Ja (.var 7) [] [.cst (.int 2)]) (.Ni (.var 7))])) (T G) (.loc,.str (H0 #[#v[32]] V)) (T G):=by
   have ga:Run (ev Γ (.Ja (.var 7) [] [.cst (.int 2)])) (T G) (.own,.lst ((cut W cb (a8 2)).map .str)) (T G):=dC (aR rfl) dO (dw ah) #[#[.own,rfl,rfl],trivial] kB;have gb:Run (ev Γ (.Ni (.var 7))) (T G) (.own,.lst ((W.drop 2).reverse.map .str)) (T G):=Hz (aR rfl) (by
    unfold yE
    dsimp only
    rw[ŵ (gO _ _),List.map_reverse,ZN])
   show cN ah (aa (aE ga gb trivial (bt ⋯)) ai) trivial (jv (by rw[aW];lia))
  have(z,u,v,A):=D (k:=.own) (o7:=G) (ss:=[]) (l:=[H0 #[#v[32]] V]++R)
   (aE (bI (us:=[H0 #[#v[32]] V].map .str) (aa gV ai) trivial (av aD aJ) (by change 1<=eh;lia)) (gR _ _ _) #[#[.own,rfl,rfl],trivial] (bt (by rw[ri];lia)))
   (by
    rw[aW];change(H0 #[#v[32]] V).length+1+0+IM R<=_;lia) (λr hr=>by
    rcases mN.mp hr with hr|hr
    .rw[tr.mp hr];show(mO (n:=n) (λw hw=>?_) (by rw[ko];lia)).up ⋯;rcases mN.mp hw with hw|hw
     .show Ub w (jy hw)
     .show Ub w (RN (List.mem_reverse.mp hw))
    .show(O0 r hr).up ⋯)
  show#[z,au rfl (.inr rfl) N (s (ay (g e9) aw (ay (g LA) aw (ay (g e0) aw (ay (g e1) aw (bM (MY e2) (aA gW br u))))))),v,A]
 by_cases e3:a=3
 .have(z,u,v,A):=D (k:=.own) (o7:=cb) (ss:=[]) (l:=cut R (a8 (j:Int)) cb++cut R cb (a8 (j:Int)))
   (aE (Vw cb) (Rg cb) trivial (bt ⋯)) (by rw[aW];lia) (λr hr=>(mN.mp hr).elim (wc r) (wc r))
  show#[z,au rfl (.inr rfl) N (s (ay (g e9) aw (ay (g LA) aw (ay (g e0) aw (ay (g e1) aw (ay (g e2) aw (bM (MY e3) u))))))),v,A]
 by_cases e7:a<7
 .have(ls,b1,b2,b3,b4):=XW W XZ ⋯ Ub;have t7:Run (IS Γ (.cmp .lt (.var 4) (.cst (.int 7)))) S c4 S:=bo (af rfl) ah trivial (hZ (ŷ e7));let G:Option (Kd×U):=a8 (.own,.lst (ls.map .str));have X0:(H0 #[#v[32]] ls).length<=IM ls:=ju;have g7:Run (ev Γ (.call "_law_bent_words" [.var 0,.Jf .split (.idx (.var 2) (.var 3)) [.cst (.str " ")]])) (T cb) (.own,.lst (ls.map .str)) (T cb):=bx (aa (bH rfl) (aa gW ai)) trivial b1;have gV:Run (ev Γ (.Jf .join (.cst (.str " ")) [.var 7])) (T G) (.loc,.str (H0 #[#v[32]] ls)) (T G):=cN ah (aa (aR rfl) ai) #[#[.own,rfl,rfl],trivial] (jv ⋯);have(z,u,v,A):=D (k:=.own) (o7:=G) (ss:=[]) (l:=(cut R cb (a8 (j:Int))++[H0 #[#v[32]] ls])++cut R (a8 ((j:Int)+1)) cb)
   (aE (aE (Rg G) (bI (us:=[H0 #[#v[32]] ls].map .str) (aa gV ai) trivial (av aD aJ) (by change 1<=eh;lia)) trivial (bt (by rw[ri];lia))) (Vx G) trivial (bt (by rw[ko,ri];lia)))
   (by
    rw[aW,aW];change IM (cut R cb (a8 (j:Int)))+((H0 #[#v[32]] ls).length+1+0)+_<=_;lia) (λr hr=>by
    rcases mN.mp hr with hr|hr
    .rcases mN.mp hr with hr|hr
     .show wc r hr
     .rw[tr.mp hr];show(mO (n:=n+1) b4 ⋯).up ⋯
    .show wc r hr)
  show#[z,au rfl (.inr rfl) N (s (ay (g e9) aw (ay (g LA) aw (ay (g e0) aw (ay (g e1) aw (ay (g e2) aw (ay (g e3) aw (bM t7 (aA g7 br u))))))))),v,A]
 .have t7:Run (IS Γ (.cmp .lt (.var 4) (.cst (.int 7)))) S dV S:=bo (af rfl) ah trivial (hZ (Ŷ e7));have(p,hp,ep):=eW (dd C 2 * 64+dd C 3) (n:=x.length+1) ⋯;have(q,hq,eq):=eW (dd C 1) (n:=10) (by decide);have(c,hc):=HA q hq;let i8:Option (Kd×U):=a8 (.loc,.str (IQ.one c));let J:=λo9 X1:Option (Kd×U)=>([o,B,O,Q,Y,cb,cb,cb,a8 (.loc,.int (p:Int)),o9,X1]:ar)
  have g8:Run (ev Γ (.bin .mod (.bin .add (.bin .mul (.idx (.var 0) (.cst (.int 2))) (.cst (.int 64))) (.idx (.var 0) (.cst (.int 3)))) (.bin .add (.bi .len [.var 1]) (.cst (.int 1))))) S (.loc,.int (p:Int)) S:=by
   rw[<-ep];show aE (aE (aE (gd 2 _ ⋯) ah trivial (kX (.inr (by decide)))) (gd 3 _ ⋯) trivial cR) (aE (cv (aa (af rfl) ai) trivial (len_str ⋯)) ah trivial cR) trivial (bu ⋯)
  have g9:Run (ev Γ (.idx (.cst (.str " \n=*/aZ29-")) (.bin .mod (.idx (.var 0) (.cst (.int 1))) (.cst (.int 10))))) (J cb cb) (.loc,.str (IQ.one c)) (J cb cb):=by
   show cD (y:=(.loc,.int (q:Int))) ah ?_ trivial (fJ (by decide +kernel) hc);rw[<-eq];show aE (gd 1 _ ⋯) ah trivial (bu (by decide))
  have(b,hb,eb):=eW (dd C 4) (n:=2) (by decide);have tm:Run (IS Γ (.cmp .eq (.bin .mod (.idx (.var 0) (.cst (.int 4))) (.cst (.int 3))) (.cst (.int 0)))) (J i8 cb) (ei (dd C 4 % 3=0)) (J i8 cb):=bo (aE (gd 4 _ ⋯) ah trivial (bu (by decide))) ah trivial (fq rfl);have(k1,k2):=Ax hn (p:=p) ⋯;have(k3,k4):=t5 hn (p:=p+b) ⋯;have fn:∀L:Str,L.length<=1->∃y:Str,Run (execs Γ [.set 10 (.Ja (.var 1) [.bin .add (.var 8) (.bin .mod (.idx (.var 0) (.cst (.int 4))) (.cst (.int 2)))] []),.ret (.bin .add (.bin .add (.Ja (.var 1) [] [.var 8]) (.var 9)) (.var 10))]) (J (a8 (.loc,.str L)) cb) (.rt .loc (.str y)) (J (a8 (.loc,.str L)) (a8 (.loc,.str (Kn x (a8 ((p+b:Nat):Int)) cb))))/\y.length<=4 * x.length+1000/\Nw (2 * n+1) y:=λL X2=>by
   let rs:Str:=Kn x (a8 ((p+b:Nat):Int)) cb;let hs:Str:=Kn x cb (a8 (p:Int));have k1:hs.length<=x.length:=k1;have k3:rs.length<=x.length:=k3;let Z:ar:=J (a8 (.loc,.str L)) (a8 (.loc,.str rs));have ga:Run (ev Γ (.Ja (.var 1) [] [.var 8])) Z (.loc,.str hs) Z:=dC (af rfl) dO (dw (af rfl)) trivial (by
    change(if x.length<=eh then _ else _)=_;rw[ŵ ⋯])
   have gb:Run (ev Γ (.bin .add (.Ja (.var 1) [] [.var 8]) (.var 9))) Z (.loc,.str (hs++L)) Z:=aE ga (af rfl) trivial (cV ⋯);have gc:Run (ev Γ (.bin .add (.bin .add (.Ja (.var 1) [] [.var 8]) (.var 9)) (.var 10))) Z (.loc,.str ((hs++L)++rs)) Z:=aE gb (af rfl) trivial (cV (by rw[str_len];lia));have gs:Run (ev Γ (.Ja (.var 1) [.bin .add (.var 8) (.bin .mod (.idx (.var 0) (.cst (.int 4))) (.cst (.int 2)))] [])) (J (a8 (.loc,.str L)) cb) (.loc,.str rs) (J (a8 (.loc,.str L)) cb):=by
    show dC (l:=a8 ((p+b:Nat):Int)) (af rfl) (dw (k:=.loc) ?_) dO trivial (by
     change(if x.length<=eh then _ else _)=_;rw[ŵ ⋯])
    rw[SD,<-eb];show aE (af rfl) (aE (gd 4 _ ⋯) ah trivial (bu (by decide))) trivial cR
   show#[(hs++L)++rs,aA gs aI (aS gc aU),by rw[str_len,str_len];lia,(Az (Az k2 (Ay X2)) k4).up ⋯]
  have I:∀{f:Fl} {st':ar},Run (execs Γ (.ite (.cmp .eq (.bin .mod (.idx (.var 0) (.cst (.int 4))) (.cst (.int 3))) (.cst (.int 0))) [.set 9 (.cst (.str ""))] []::[.set 10 (.Ja (.var 1) [.bin .add (.var 8) (.bin .mod (.idx (.var 0) (.cst (.int 4))) (.cst (.int 2)))] []),.ret (.bin .add (.bin .add (.Ja (.var 1) [] [.var 8]) (.var 9)) (.var 10))])) (J i8 cb) f st'->Run (execs Γ dQ.body) [o,B,cb,cb,cb,cb,cb,cb,cb,cb,cb] f st':=λhh =>
   s (ay (g e9) aw (ay (g LA) aw (ay (g e0) aw (ay (g e1) aw (ay (g e2) aw (ay (g e3) aw (ay t7 aw (aA g8 aI (aA g9 aI hh)))))))))
  by_cases e4:dd C 4 % 3=0
  .rw[ŷ e4]at tm;have(z,u,v,A):=fn "" (by decide);show#[z,au rfl (.inr rfl) N (I (dP tm (aA ah aI aw) u)),v,A]
  .rw[Ŷ e4]at tm;have(z,u,v,A):=fn (IQ.one c) (ke _);show#[z,au rfl (.inr rfl) N (I (ay tm aw u)),v,A]
end
end K
namespace TM
open PySem L2 IQ
def HC(h:Run (ev Γ e) st (k,.bl p) st)(a:Run (ev Γ b) st (k',.bl q) st)(hk:k'=.loc):Run (ev Γ (.or [e,b])) st (.loc,.bl (p||q)) st:=by
 subst hk;cases p with
 |true=>show Hl (ae h aL)
 |false=>show Hl (ae h a)
end TM
namespace K
open PySem L2 TM IQ
section
variable{Γ:Tab}{rows:List Row}{r:Row}
abbrev Qv:List Bool:=[c4,c4,c4,dV,dV,dV,dV,dV,dV,dV]
abbrev Qw:List Bool:=[c4,c4,dV,c4,dV,dV,dV,dV,dV,dV]
def HD(h:Rw r):Rp 2 2000 (IA r):=by
 show zZ (zY (n:=1) (b:=840) (us:=[.str r.1,.tup (r.2.map .str)]) λu hu=>?_) ⋯ (by simp);rcases fz.mp hu with rfl|hu
 .show zZ (zX h.w) ⋯ ⋯
 .rw[tr.mp hu];show zZ (zY (n:=0) (b:=20) λu hu=>?_) ⋯ (by rw[eH];have:=h.ln;lia);have(x,a,rfl):=oa.mp hu;show zX (h.ws x a)
def AB(h:(p=2/\bs=Qv)\/(p=3/\bs=Qw)):bw Γ fv [.lst (bs.map .bl),.int p]=a8 (.ok (.loc,.bl c4)):=by
 let S:ar:=[a8 (.any,.lst (bs.map .bl)),a8 (.loc,.int p)]
 have a:=ez (cond:=a_ Γ []) (elt:=ev Γ (.or [.cmp .lt (.var 0) (.cst (.int 2)),.cmp .eq (.var 0) (.var 2)])) (src:=[(.loc,.int ((10:Nat):Int))]) (st:=S) trivial .loc (.inl rfl) (λi:Nat=>U.int (0+(i:Int))) (λi=>U.bl (ei (0+(i:Int)<2)||(0+(i:Int)==p))) .loc (λ_=>fZ) (gA 10) [] (by decide)
  (λi b=>#[HC (fF (af rfl) ah trivial (hZ rfl)) (fF (af rfl) (af rfl) trivial (fq rfl)) rfl,aD])
 show au (st:=S) (st0:=S) rfl (.inr rfl) rfl (aS (fF (c:=c4) (bH rfl) (dA (rs:=[(.loc,.int ((10:Nat):Int))]) (aa ah ai) trivial (jW ⋯) a) trivial ?_) aU);rcases h with⟨rfl,rfl⟩|⟨rfl,rfl⟩<;>rfl
abbrev CI:List (Str×List Bool):=[("NoText",Qv),("Unfit",Qw)]
def HE:CI.lookup ("NoText":Str)=a8 Qv:=by decide +kernel
def HF:CI.lookup ("Unfit":Str)=a8 Qw:=by decide +kernel
def t8(hk:k=.loc\/k=.any)(h:st[i]?=a8 (a8 (k,u))):Run (ev Γ (.var i)) st (k,u) st:=by
 rcases hk with rfl|rfl
 .show af h
 .show bH h
def qd(hk:k=.loc\/k=.any):bf [(k,u)] st:=by
 rcases hk with rfl|rfl<;>trivial
section
variable{u:U}{k:Kd}(hk:k=.loc\/k=.any){d:U}(IB:TM.start [u,d] 5=[a8 (k,u),a8 (.loc,d),cb,cb,cb])
include hk IB
def mR(a:d=.ID)(b:Γ "read" [u]=a8 (.exc "NoText"))(ho:Γ "_law_only" [.lst (Qv.map .bl),.int 2]=a8 (.ok (.loc,.bl c4))):bw Γ bE [u,d]=a8 (.ok (.loc,.bl c4)):=by
 subst a;show au rfl (.inr rfl) IB (aA (r:=(.own,.lst [])) (bI ai trivial aJ (pb _)) br (aA ah aI
  (z9 (cbs:=CI) (aa (t8 hk rfl) ai) (qd hk) b HE rfl (by decide) br (bM (bo (af rfl) ah trivial rfl) (aS (bx (aa (aR rfl) (aa ah ai)) #[#[.own,rfl,rfl],trivial] ho) aU)))))
def rJ(a:d=.tup (rows.map IA))(b:Γ "read" [u]=a8 (.exc "Unfit"))(e:Γ "_law_fit" [.tup (rows.map IA)]=a8 (.ok (.loc,.bl dV)))(ho:Γ "_law_only" [.lst (Qw.map .bl),.int 3]=a8 (.ok (.loc,.bl c4))):bw Γ bE [u,d]=a8 (.ok (.loc,.bl c4)):=by
 subst a;show au rfl (.inr rfl) IB (aA (r:=(.own,.lst [])) (bI ai trivial aJ (pb _)) br (aA ah aI
  (z9 (cbs:=CI) (aa (t8 hk rfl) ai) (qd hk) b HF rfl (by decide) br (ay (bo (af rfl) ah trivial rfl) aw
   (bM (dX (c:=dV) (f_ (aa (af rfl) ai) trivial e rfl)) (aS (bx (aa (aR rfl) (aa ah ai)) #[#[.own,rfl,rfl],trivial] ho) aU))))))
def oj(f:d=.tup (rows.map IA))(h:Γ "read" [u]=a8 (.ok (.loc,.tup (rows.map IA))))(i:Γ "_law_fit" [.tup (rows.map IA)]=a8 (.ok (.loc,.bl c4)))(hs:∀k,JN .repr [(k,.tup (rows.map IA))]=a8 (.loc,.str s)):bw Γ bE [u,d]=a8 (.ok (.loc,.bl c4)):=by
 subst f;let e:Option (Kd×U):=a8 (.loc,.tup (rows.map IA));let S:ar:=[a8 (k,u),e,a8 (.own,.lst []),e,cb]
 have g:Run (ev Γ (.and [.cmp .eq (.var 2) (.lst []),.cmp .eq (.bi .repr [.var 3]) (.bi .repr [.var 1])])) S (.loc,.bl c4) S :=
  vf (zE (p:=c4) (fF (aR rfl) (bI ai trivial aJ (pb _)) #[#[.own,rfl,rfl],trivial] (rn (a:=[]) (b:=[]))) (by rw[ŵ rfl];show pO (fF (cv (aa (af rfl) ai) trivial (hs _)) (cv (aa (af rfl) ai) trivial (hs _)) trivial (by rw[jk,ŷ rfl]))))
 show au rfl (.inr rfl) IB (aA (r:=(.own,.lst [])) (bI ai trivial aJ (pb _)) br (aA ah aI
  (Fw (aa (t8 hk rfl) ai) (qd hk) h aI (ay (bo (af rfl) ah trivial rfl) aw
   (ay (dX (c:=c4) (f_ (aa (af rfl) ai) trivial i rfl)) aw (aS g aU))))))
end
def Iz(h:RowW r)(c:Run (ev Γ a) st (.loc,.str r.1) st)(d:Run (ev Γ b) st (.loc,.str (H0 " " (tl r))) st):Run (ev Γ (.bin .add (.bin .add a (.cst (.str " = "))) b)) st (.loc,.str (ba r)) st:=by
 have hsz:(1000:Nat)<=eh:=by decide
 have e:=jq (sep:=" ") (n:=11) (ss:=tl r) (λx f=>(Al h x f).2.1) rfl (by have:=(gh h).2;lia);have g:=(gh h).2;have i:r.1.length<=11:=by rw[len_list];show h.w1.len.2
 have j:(" = ":Str).length=3:=by decide +kernel
 show aE (aE c ah trivial (cV ⋯)) d trivial (cV (by rw[str_len];have:=e.2;lia))
abbrev X3:List TM.S:=[.app 1 (.bin .add (.bin .add (.var 2) (.cst (.str " = "))) (.Jf .join (.cst (.str " ")) [.bin .add (.bi .list [.var 3]) (.bin .mul (.lst [.cst (.str "*")]) (.bi .int [.cmp .eq (.var 3) (.tup [])]))]))]
def AD(h:∀r∈rows,RowW r)(hl:rows.length<=60):bw Γ fw [.tup (rows.map IA)]=a8 (.ok (.loc,.str (textOf rows))):=by
 have hsz:(1000:Nat)<=eh:=by decide
 let a:Option (Kd×U):=a8 (.loc,.tup (rows.map IA));have j:TM.start [.tup (rows.map IA)] 4=[a,cb,cb,cb]:=by simp[TM.start,Jb,di,a]
 let S:=λ(ls:List Str) (o3 o4:Option (Kd×U))=>([a,a8 (.own,.lst (ls.map .str)),o3,o4]:ar)
 have(st',run,_,o3,o4,e):=mz (t:=c4) (is:=[2,3]) (body:=execs Γ X3) (rs:=[(.loc,.tup (rows.map IA))]) (λr:Row=>(Kd.loc,IA r))
  (λd r st=>d++r=rows/\∃o3 o4,st=S (d.map ba) o3 o4) (λ_ _ _ _=>trivial) (λd r rest st l=>by
   have(g,o3,o4,e):=l;subst e;have m:r∈rows:=by rw[<-g];simp
   have z:d.length<=60:=by have:=Ż OC g;simp at this;lia
   have b:=h r m;let c:Option (Kd×U):=a8 (.loc,.str r.1);let f:Option (Kd×U):=a8 (.loc,.tup (r.2.map .str));have o:=jq (sep:=" ") (n:=11) (ss:=tl r) (λx p=>(Al b x p).2.1) rfl (by have:=(gh b).2;lia);let T:=S (d.map ba) c f;have q:Run (ev Γ (.bi .int [.cmp .eq (.var 3) (.tup [])])) T (.loc,.int (if ei (r.2=[])=c4 then 1 else 0)) T:=cv (aa (fF (af rfl) (eR ai trivial aJ (pb _)) trivial xq) ai) trivial rfl;have s:Run (ev Γ (.bin .mul (.lst [.cst (.str "*")]) (.bi .int [.cmp .eq (.var 3) (.tup [])]))) T (.own,.lst ((if r.2=[] then [("*":Str)] else []).map .str)) T:=by
    show aE (bI (aa ah ai) trivial (av aD aJ) (by change 1<=eh;lia)) q trivial ?_;by_cases e:r.2=[]
    .rw[ŷ e,ŵ rfl,ŵ e];change qR (.own,.lst [.str "*"]) (.int 1)=_;unfold qR
     dsimp only
     rw[ŵ #[by decide,by decide,by change 1 * 1<=eh;lia]];rfl
    .rw[Ŷ e,Ÿ my,Ÿ e];change qR (.own,.lst [.str "*"]) (.int 0)=_;unfold qR
     dsimp only
     rw[ŵ #[by decide,by decide,by change 1 * 0<=eh;lia]];rfl
   have v:Run (ev Γ (.bin .add (.bi .list [.var 3]) (.bin .mul (.lst [.cst (.str "*")]) (.bi .int [.cmp .eq (.var 3) (.tup [])])))) T (.own,.lst ((tl r).map .str)) T:=by
    show aE (cv (r:=(.own,.lst (r.2.map .str))) (aa (af rfl) ai) trivial rfl) s trivial ?_;have A:=b.Lo;rw[rq (by rw[eH,eH];split<;>simp<;>lia) rfl rfl,<-H8];congr 4
    unfold tl;by_cases e:r.2=[]
    .rw[ŵ e,ŵ e,e];rfl
    .rw[Ÿ e,Ÿ e,D1]
   have w:=Iz b (af (i:=2) (st:=T) rfl) (cN (Γ:=Γ) (ah (u:=.str " ")) (aa v ai) trivial (mJ o.1));have em:((d++[r]).map ba).map U.str=(d.map ba).map U.str++[.str (ba r)]:=by simp
   show#[T,S ((d++[r]).map ba) c f,Dk (.inl rfl),?_,by rw[<-g];simp,c,f,rfl];change Run _ _ _ [a,a8 (.own,.lst (((d++[r]).map ba).map .str)),c,f];rw[em];show l_ (k:=.own) (k':=.own) (r:=(.loc,.str (ba r))) (us:=(d.map ba).map .str) rfl w aD rfl rfl (by rw[eH,eH];lia) aw) rows [] (S [] cb cb) ⟨rfl,cb,cb,rfl⟩
 subst e;rw[HH]at run;have y:JX .seq [(.loc,.tup (rows.map IA))]=a8 (rows.map λr=>(Kd.loc,IA r)):=by change a8 _=_;rw[uv];rfl
 show au rfl (.inr rfl) j (aA (r:=(.own,.lst [])) (bI ai trivial aJ (pb _)) br (hV (rs:=[(.loc,.tup (rows.map IA))]) (st1:=S [] cb cb) (aa (af rfl) ai) trivial y rfl run (aS (cN ah (aa (aR rfl) ai) #[#[.own,rfl,rfl],trivial] (mJ (An h hl).1)) aU)))
def xy(h:RowW r):cj (ba r)=a8 r:=by
 unfold cj;rw[tV h];have hl:=(gh h).1;cases q:tl r with
 |nil=>rw[q]at hl;simp at hl
 |cons t ts =>
  change(if (wb r.1&&ei (("=":Str)="="))=c4 then(eU (t::ts)).map (λss=>(r.1,ss)) else cb)=_;rw[kQ h.w1,ŷ rfl,Ri,ŵ rfl,<-q];have:eU (tl r)=a8 r.2:=by
   unfold eU tl;by_cases e:r.2=[]
   .rw[ŵ e,ŵ rfl,e]
   .have a:r.2≠[("*":Str)]:=λz=>by
     have b:("*":Str)∈r.2:=by rw[z];simp
     show absurd (p_ (h.w2 _ b) 42 (by decide +kernel)) (by decide)
    rw[Ÿ e,Ÿ a,ŵ (sh.mpr λx c=>kQ (h.w2 x c))]
  rw[this];rfl
theorem mS:∀{rows:List Row},(∀r∈rows,RowW r)->cP cj (rows.map ba)=a8 rows
 |[],_=>rfl
 |r::rows,h=>by
  change(cj (ba r)).bind (λs=>(cP cj (rows.map ba)).map (s::·))=_;rw[xy (h r (by simp)),mS λs hs=>h s (et _ hs)];rfl
def t9(h:∀r∈rows,RowW r)(a:cQ rows=c4):ia (textOf rows)=a8 (.ok (.loc,.tup (rows.map IA))):=by
 unfold ia;by_cases e:rows=[]
 .subst e;rw[ŵ (by decide +kernel)];rfl
 .rw[Ÿ (CB h e),mK h e,mS h];change(if cQ rows=c4 then _ else _)=_;rw[ŵ a]
def CJ(h:∀r∈rows,RowW r):Nw 9 (textOf rows):=qc λx b=>by
 have(r,c,rfl):=oa.mp b;have a:=h r c;rw[j7 a];show mO (λy d e=>by have:=(gj a y d).2.2 32 e;lia) (by have:=(gh a).2;simp;lia)
end
end K
namespace TM
open PySem L2 IQ
def CK(h:a.length=21):(cut a (a8 11) (a8 16)).length=5:=by
 have b:HT.II a.length 0 (a8 11)=11:=by
  change HT.II a.length 0 (a8 ((11:Nat):Int))=11;rw[HT.dn];lia
 have c:HT.II a.length a.length (a8 16)=16:=by
  change HT.II a.length a.length (a8 ((16:Nat):Int))=16;rw[HT.dn];lia
 unfold cut;rw[b,c,ve,H4];lia
def CL(h:a.length=21):(cut a (a8 16) cb).length=5:=by
 have b:HT.II a.length 0 (a8 16)=16:=by
  change HT.II a.length 0 (a8 ((16:Nat):Int))=16;rw[HT.dn];lia
 have c:HT.II a.length a.length cb=a.length:=rfl;unfold cut;rw[b,c,ve,H4];lia
end TM
namespace K
open PySem L2 TM IQ
section
variable{Γ:Tab}{rows:List Row}
abbrev FI(Γ:Tab):Prop:=∀(a:List Int) (x:Str) (n:Nat),a.length=5->x.length<=24000->Nw n x->9<=n->∃y:Str,Γ "_law_bent" [.lst (a.map .int),.str x]=a8 (.ok (.loc,.str y))/\y.length<=4 * x.length+1000/\Nw (2 * n+1) y
abbrev X5:List TM.S:=[.set 4 (.call "_law_drawn" [.call "_law_cell" [.var 0,.bin .add (.cst (.int 41)) (.var 3)],.cst (.int 21)]),.set 5 (.call "_law_bent" [.Ja (.var 4) [.cst (.int 11)] [.cst (.int 16)],.var 2]),.ite (.cmp .eq (.bin .mod (.var 3) (.cst (.int 2))) (.cst (.int 1))) [.set 5 (.call "_law_bent" [.Ja (.var 4) [.cst (.int 16)] [],.var 5])] [],.ite (.or [.not (.call "_law_right" [.var 5,.call "_law_due" [.var 5]]),.not (.call "_law_right" [.var 2,.var 1])]) [.ret (.cst (.bl dV))] []]
abbrev things(x:Str):List U:=[.ID,.int 7,.bl c4,.tup [],.lst [],.tup [.str "a = *"],.lst [.str x],.int (-1)]
def xA(C:jX Γ)(D:gF Γ)(G:Γ "_law_made" [.lst (ns.map .int)]=a8 (.ok (.loc,.tup (rows.map IA))))(H:Γ "_law_text" [.tup (rows.map IA)]=a8 (.ok (.loc,.str x)))(hx:x.length<=5000)(I:Nw 9 x)
  (n:FI Γ) (J:∀y:Str,y.length<=97000->Γ "_law_due" [.str y]=a8 (.ok (.loc,iI y))) (L:∀y:Str,y.length<=97000->Nw 39 y->Γ "_law_right" [.str y,iI y]=a8 (.ok (.loc,.bl c4)))
  (N:Γ "_law_right" [.str x,.tup (rows.map IA)]=a8 (.ok (.loc,.bl c4))) (O:∀u∈things x,Γ "_law_right" [u,.ID]=a8 (.ok (.loc,.bl c4))):bw Γ vv [tu ns]=a8 (.ok (.loc,.bl c4)):=by
 have hsz:(1000:Nat)<=eh:=by decide
 let o:Option (Kd×U):=a8 (.any,.lst (ns.map .int));let Q:Option (Kd×U):=a8 (.loc,.tup (rows.map IA));let T:Option (Kd×U):=a8 (.loc,.str x);let S:=λo3 o4 o5 h:Option (Kd×U)=>([o,Q,T,o3,o4,o5,h]:ar)
 have Y:TM.start [tu ns] 7=[o,cb,cb,cb,cb,cb,cb]:=rfl;have(st2,Ud,_,o3,o4,o5,e):=mz (t:=dV) (is:=[3]) (body:=execs Γ X5) (rs:=[(.loc,.int ((18:Nat):Int))]) (λi:Nat=>(Kd.loc,U.int (0+(i:Int))))
  (λd r st=>d++r=gA 18/\∃o3 o4 o5,st=S o3 o4 o5 cb) (λ_ _ _ _=>trivial) (λd i r st l=>by
   have(g,o3,o4,o5,e):=l;subst e;have hi:i<18:=w6.mp (by rw[<-g];simp);have(z,hz):=C ns (41+i) ⋯;rw[SD]at hz;have(j,p,d2,d3):=D z 21 ⋯;let a:Option (Kd×U):=a8 (.loc,.int (0+(i:Int)));let b:Option (Kd×U):=a8 (.own,.lst (j.map .int));have q:Run (ev Γ (.call "_law_drawn" [.call "_law_cell" [.var 0,.bin .add (.cst (.int 41)) (.var 3)],.cst (.int 21)])) (S a o4 o5 cb) (.own,.lst (j.map .int)) (S a o4 o5 cb) :=
    bx (aa (r:=(.loc,.int z)) (bx (aa (bH rfl) (aa (aE ah (af rfl) trivial cR) ai)) trivial (by rw[YZ];show hz)) (aa ah ai)) trivial d3
   have(f,a1,a2,s):=n (cut j (a8 11) (a8 16)) x 9 (CK p) ⋯ I (ke _);have v:Run (ev Γ (.call "_law_bent" [.Ja (.var 4) [.cst (.int 11)] [.cst (.int 16)],.var 2])) (S a b o5 cb) (.loc,.str f) (S a b o5 cb) :=
    bx (aa (dC (aR rfl) (dw ah) (dw ah) #[#[.own,rfl,rfl],trivial] (rp rfl)) (aa (af rfl) ai)) trivial a1
   have(m,b1,b2,b3):=n (cut j (a8 16) cb) f 19 (CL p) ⋯ s ⋯;have g6:Run (ev Γ (.call "_law_bent" [.Ja (.var 4) [.cst (.int 16)] [],.var 5])) (S a b (a8 (.loc,.str f)) cb) (.loc,.str m) (S a b (a8 (.loc,.str f)) cb) :=
    bx (aa (dC (aR rfl) (dw ah) dO #[#[.own,rfl,rfl],trivial] (rp rfl)) (aa (af rfl) ai)) trivial b1
   have k:Run (IS Γ (.cmp .eq (.bin .mod (.var 3) (.cst (.int 2))) (.cst (.int 1)))) (S a b (a8 (.loc,.str f)) cb) (ei ((0+(i:Int)) % 2=1)) (S a b (a8 (.loc,.str f)) cb):=bo (aE (af rfl) ah trivial (bu (by decide))) ah trivial (fq rfl);have w:∀y:Str,y.length<=97000->Nw 39 y->Run (IS Γ (.or [.not (.call "_law_right" [.var 5,.call "_law_due" [.var 5]]),.not (.call "_law_right" [.var 2,.var 1])])) (S a b (a8 (.loc,.str y)) cb) dV (S a b (a8 (.loc,.str y)) cb):=λy A h2 =>
    pP (vh (dX (c:=c4) (f_ (aa (af rfl) (aa (bx (aa (af rfl) ai) trivial (J y A)) ai)) trivial (L y A h2) rfl)) (l9 (dX (c:=c4) (f_ (aa (af rfl) (aa (af rfl) ai)) trivial N rfl))))
   by_cases B:(0+(i:Int)) % 2=1
   .rw[ŷ B]at k;show#[S a o4 o5 cb,S a b (a8 (.loc,.str m)) cb,f9 aI,aA q br (aA v aI (dP k (aA g6 aI aw) (ay (w m ⋯ b3) aw aw))),by rw[<-g];simp,_,_,_,rfl]
   .rw[Ŷ B]at k;show#[S a o4 o5 cb,S a b (a8 (.loc,.str f)) cb,f9 aI,aA q br (aA v aI (ay k aw (ay (w f ⋯ (s.up ⋯)) aw aw))),by rw[<-g];simp,_,_,_,rfl]) (gA 18) [] (S cb cb cb cb) ⟨rfl,cb,cb,cb,rfl⟩
 subst e;have(st3,Ue,_,h,e):=mz (t:=dV) (is:=[6]) (body:=execs Γ [.ite (.not (.call "_law_right" [.var 6,.cst .ID])) [.ret (.cst (.bl dV))] []]) (rs:=[(.own,.lst (things x))]) (λu:U=>(Kd.loc,u))
  (λd r st=>d++r=things x/\∃h,st=S o3 o4 o5 h) (λ_ _ _ _=>trivial) (λd u r st l=>by
   have(g,h,e):=l;subst e;have hu:=O u (by rw[<-g];simp);show#[S o3 o4 o5 (a8 (.loc,u)),S o3 o4 o5 (a8 (.loc,u)),f9 aI,ay (dX (c:=c4) (f_ (aa (af rfl) (aa ah ai)) trivial hu rfl)) aw aw,by rw[<-g];simp,_,rfl]) (things x) [] (S o3 o4 o5 cb) ⟨rfl,cb,rfl⟩
 subst e;have gt:Run (ev Γ (.lst [.cst .ID,.cst (.int 7),.cst (.bl c4),.tup [],.lst [],.tup [.cst (.str "a = *")],.lst [.var 2],.neg (.cst (.int 1))])) (S o3 o4 o5 cb) (.own,.lst (things x)) (S o3 o4 o5 cb) :=
  bI (us:=things x) (aa ah (aa ah (aa ah (aa (eR ai trivial aJ (pb _)) (aa (bI ai trivial aJ (pb _)) (aa (eR (us:=[.str "a = *"]) (aa ah ai) trivial (av aD aJ) (by change 1<=eh;lia)) (aa (bI (us:=[.str x]) (aa (af rfl) ai) trivial (av aD aJ) (by change 1<=eh;lia)) (aa (Ht (r:=(.loc,.int (-1))) ah rfl) ai)))))))) trivial
   (av aD (av aD (av aD (av aD (av ra (av aD (av ra (av aD aJ)))))))) (by change 8<=eh;lia)
 show au rfl (.inr rfl) Y (aA (bx (aa (bH rfl) ai) trivial G) aI (aA (bx (aa (af rfl) ai) trivial H) aI (hV (rs:=[(.loc,.int ((18:Nat):Int))]) (st1:=S cb cb cb cb) (aa ah ai) trivial (jW ⋯) rfl Ud
  (hV (rs:=[(.own,.lst (things x))]) (st1:=S o3 o4 o5 cb) (aa gt ai) trivial rfl rfl Ue (aS ah aU)))))
end
def makers:zV prog:=#[rfl,rfl,rfl,rfl,rfl,rfl,rfl]
def mT(d:Nat):cH (Jk prog (d+2)) "is_word":=λx h=>(aB (show Jl prog "is_word" gJ from rfl) _).trans (Af (λx a=>(aB (show Jl prog "is_stem" gH from rfl) _).trans (Ac a)) (λy=>(aB (show Jl prog "is_later_sense" cw from rfl) _).trans xj)
 (λx hl=>(aB (show Jl prog "stem_of" j3 from rfl) _).trans (Ad rfl hl rfl)) (λx hl=>(aB (show Jl prog "number_of" gf from rfl) _).trans (Ad rfl hl rfl)) h)
def om(d:Nat):cH (Jk prog (d+1)) "_law_is_word":=λx h=>(aB (show Jl prog "_law_is_word" dq from rfl) _).trans (xn h)
section
def vJ(d:Nat)(h:∀r∈a,Rw r)(hl:a.length<=100000):Jk prog (d+2) "_law_fit" [.tup (a.map IA)]=a8 (.ok (.loc,.bl (cQ a))) :=
 (aB (show Jl prog "_law_fit" gK from rfl) _).trans (Ai (om d) h hl)
def AE(d:Nat)(h:∀r∈a,Rw r)(hl:a.length<=100000):Jk prog (d+4) "fits" [.tup (a.map IA)]=a8 (.ok (.loc,.bl (cQ a))):=by
 show(aB (show Jl prog "fits" p7 from rfl) _).trans (Ah (λr b=>(aB (show Jl prog "is_row" jn from rfl) _).trans (CA (mT d) (h r b))) (λc=>?_) hl);show(aB (show Jl prog "has_alike_rows" cy from rfl) _).trans (tT (λr b=>(aB (show Jl prog "in_one_order" cp from rfl) _).trans (Cy b)) h ⋯)
def t_(d:Nat)(h:∀r∈a,Rw r)(hl:a.length<=100000):Jk prog (d+5) "fitted" [.tup (a.map IA)]=if cQ a=c4 then a8 (.ok (.loc,.tup (a.map IA))) else a8 (.exc "Unfit") :=
 (aB (show Jl prog "fitted" jo from rfl) _).trans (tU (AE d h hl))
end
def qe(f:x.length<=99998)(c:Nw 39 x)(q:cP cj (tA x #[#v[10]])=a8 a):a.length<=100000/\∀r∈a,Rw r:=by
 have(k1,k2):=rE q;show#[by rw[k1];show eV (by decide) ⋯,λr d=>?_];have(y,b,e):=k2 r d;show CD e (oh (rD c y b) (split_free b))
def rK(d:Nat)(a:x.length<=99998)(b:Nw 39 x):Jk prog (d+6) "read" [.str x]=ia x :=
 (aB (show Jl prog "read" j4 from rfl) _).trans (run_read (λy e=>(aB (show Jl prog "read_row" fu from rfl) _).trans (Au (mT (d+2)) (λh f g=>(aB (show Jl prog "read_told" dZ from rfl) _).trans (xr (mT (d+1)) f g)) e)) a λc q=>t_ d (qe a b q).2 (qe a b q).1)
def mU(d:Nat)(h:(p=2/\bs=Qv)\/(p=3/\bs=Qw)):Jk prog (d+1) "_law_only" [.lst (bs.map .bl),.int p]=a8 (.ok (.loc,.bl c4)):=(aB (show Jl prog "_law_only" fv from rfl) _).trans (AB h)
def oo{a:List Row}(h:∀r∈a,Rw r)(hl:a.length<=60):∃s:Str,∀k,JN .repr [(k,.tup (a.map IA))]=a8 (.loc,.str s) :=
 Fv (n:=2) (b:=2000) (us:=a.map IA) dV (λu c=>by
  have(r,d,rfl):=oa.mp c;show HD (h r d)) ⋯ (by rw[eH];lia)
def CM(h:cQ a=c4):a.length<=60:=by
 unfold cQ at h;rw[df,Ŵ]at h;show h.1
def qf(x:Str)(h:Jb d=c4):TM.start [.str x,d] 5=[a8 (.loc,.str x),a8 (.loc,d),cb,cb,cb]:=by
 change [a8 (if Jb (.str x)=c4 then Kd.loc else .any,.str x),a8 (if Jb d=c4 then Kd.loc else .any,d),cb,cb,cb]=_;rw[ŵ h];rfl
def j8(a:List Row):Jb (.tup (a.map IA))=c4:=by simp[Jb,di]
def xB(d:Nat)(l:x.length<=97000)(i:Nw 39 x):Jk prog (d+7) "_law_right" [.str x,iI x]=a8 (.ok (.loc,.bl c4)):=by
 show(aB (show Jl prog "_law_right" bE from rfl) _).trans ?_;have b:=rK d (x:=x) ⋯ i;have c:∀a:List Row,(∀r∈a,Rw r)->a.length<=100000->iI x=.tup (a.map IA)->(ia x=if cQ a=c4 then a8 (.ok (.loc,.tup (a.map IA))) else a8 (.exc "Unfit"))->bw (Jk prog (d+6)) bE [.str x,iI x]=a8 (.ok (.loc,.bl c4)):=λa j k f h=>by
  rw[h]at b;have g:=vJ (d+4) j k;cases q:cQ a with
  |true =>
   rw[q]at g b;rw[ŵ rfl]at b;have(s,hs):=oo j (CM q);show oj (.inl rfl) (qf x (by rw[f];show j8 a)) f b g hs
  |false =>
   rw[q]at g b;rw[Ÿ my]at b;show rJ (.inl rfl) (qf x (by rw[f];show j8 a)) f b g (mU _ (.inr #[rfl,rfl]))
 by_cases e:x=""
 .show c [] (by simp) (pb _) (by unfold iI;rw[ŵ e];rfl) ?_;unfold ia;rw[ŵ e,ŵ (by decide)];rfl
 .cases q:cP cj (tA x #[#v[10]]) with
  |some a =>
   have(k1,k2):=qe ⋯ i q;show c a k2 k1 (by unfold iI;rw[Ÿ e,q]) ?_;unfold ia;rw[Ÿ e,q]
  |none =>
   have f:iI x=.ID:=by unfold iI;rw[Ÿ e,q]
   have h:ia x=a8 (.exc "NoText"):=by unfold ia;rw[Ÿ e,q]
   rw[h]at b;show mR (.inl rfl) (qf x (by rw[f];rfl)) f b (mU _ (.inl #[rfl,rfl]))
def xC(d:Nat):∀u∈things x,Jk prog (d+3) "_law_right" [u,.ID]=a8 (.ok (.loc,.bl c4)):=by
 have key:∀(u:U) (k:Kd),(k=.loc\/k=.any)->ni u .str=a8 dV->TM.start [u] 1=[a8 (k,u)]->TM.start [u,.ID] 5=[a8 (k,u),a8 (.loc,.ID),cb,cb,cb]->Jk prog (d+3) "_law_right" [u,.ID]=a8 (.ok (.loc,.bl c4)):=λu k hk c a e =>
  (aB (show Jl prog "_law_right" bE from rfl) _).trans (mR hk e rfl ((aB (show Jl prog "read" j4 from rfl) _).trans (xu c (by rcases hk with rfl|rfl;show .inl a;show .inr a))) (mU _ (.inl #[rfl,rfl])))
 intro u b;simp only[things,fz,V',or_false]at b;rcases b with rfl|rfl|rfl|rfl|rfl|rfl|rfl|rfl
 .show key _ .loc (.inl rfl) rfl rfl rfl
 .show key _ .loc (.inl rfl) rfl rfl rfl
 .show key _ .loc (.inl rfl) rfl rfl rfl
 .show key _ .loc (.inl rfl) rfl rfl rfl
 .show key _ .any (.inr rfl) rfl rfl rfl
 .show key _ .loc (.inl rfl) rfl rfl rfl
 .show key _ .any (.inr rfl) rfl rfl rfl
 .show key _ .loc (.inl rfl) rfl rfl rfl
def pure(ns:List Int)(Q:ns.length<=63):Jk prog 8 "law" [tu ns]=a8 (.ok (.loc,.bl c4)):=by
 have(names,a,T,Y,a3,e,a5,q,c,t):=zT (Γ:=Jk prog 6) makers.jZ makers.drawnOk makers.namesOk makers.Ft ns;have u:Jk prog 7 "_law_made" [.lst (ns.map .int)]=a8 (.ok (.loc,.tup (a.map IA))):=(aB (show Jl prog "_law_made" zS from rfl) _).trans t;have g:∀r∈a,RowW r:=λr b=>#[(c r b).Lo,(c r b).once,e _ (c r b).word,λx d=>e x ((c r b).told x d)]
 have hl:a.length<=60:=by lia
 have h:∀r∈a,Rw r:=λr b=>#[by have:=(c r b).Lo;lia,word_short (e _ (c r b).word),λx d=>word_short (e x ((c r b).told x d))]
 have k:cQ a=c4:=by
  unfold cQ;rw[ŷ (p:=a.length<=60) ⋯,ŷ q,Ri,Ug,sh];intro r b;unfold eB;rw[ŷ (c r b).Lo,ŷ (c r b).once,kQ (e _ (c r b).word),Ug,Ug,Ug,sh];show λx d=>kQ (e x ((c r b).told x d))
 have l:=CJ g;have f:(textOf a).length<=5000:=by
  have v:=jq (sep:=#[#v[10]]) (n:=120) (ss:=a.map ba) (λx d=>by
   have(r,b,rfl):=oa.mp d;show(jr (g r b)).2.1) rfl (by rw[eH];lia)
  show DD v.2 (by rw[eH];lia)
 show(aB (show Jl prog "law" vv from rfl) _).trans (xA (x:=textOf a) makers.jZ makers.drawnOk u ((aB (show Jl prog "_law_text" fw from rfl) _).trans (AD g hl)) f l (λds x n i j w z=>?_) (λy hy=>?_) (λy i j=>xB 0 i j) ?_ (xC 4))
 .have(y,A,B,C):=AA (Γ:=Jk prog 6) i j w z λws D G H=>by
   have(ls,I,J,L,N):=t6 (Γ:=Jk prog 5) i D G H;show#[ls,(aB (show Jl prog "_law_bent_words" cz from rfl) _).trans I,J,L,N]
  show#[y,(aB (show Jl prog "_law_bent" dQ from rfl) _).trans A,B,C]
 .show(aB (show Jl prog "_law_due" gL from rfl) _).trans (CG λO=>(aB (show Jl prog "_law_read" fy from rfl) _).trans (xx (om 4) ⋯ O))
 .have m:=rK 0 (x:=textOf a) ⋯ (l.up ⋯);rw[t9 g k]at m;have o:=vJ 4 h ⋯;rw[k]at o;have(s,hs):=oo h hl;show(aB (show Jl prog "_law_right" bE from rfl) _).trans (oj (.inl rfl) (qf _ (j8 a)) rfl m o hs)
end K
namespace K
open PySem L2 TM PySem.W PyProof.Rows
abbrev m0:fx:=.str "primer.words" 335
abbrev m1:fx:=.str "primer.books" 378
abbrev m2:fx:=.str "primer.reader" 416
abbrev m3:fx:=.str "law_primer_k06_texts_refused" 440
abbrev ml:Me:=#[vv,52,["_law_script","_law_book_here","_law_text_here","_law_k","_law_bits","_law_bent_here","_law_thing"],323,322,m3,co "law" 613 237 1 317 318 (.ref 319) (.ref 320) (.ref 321) 623 624 181]
abbrev ms:List Me:=[⟨gH,15,["text"],128,127,m0,co "is_stem" 345 25 1 124 125 .none .none (.ref 126) 348 349 181⟩,
 ⟨cw,16,["text"],133,132,m0,co "is_later_sense" 351 29 1 129 130 .none .none (.ref 131) 354 355 181⟩,
 ⟨gJ,17,["text"],140,139,m0,co "is_word" 357 31 1 134 135 (.ref 136) (.ref 137) (.ref 138) 361 362 181⟩,
 ⟨j3,18,["word"],147,146,m0,co "stem_of" 364 35 1 141 142 (.ref 143) (.ref 144) (.ref 145) 368 369 181⟩,
 ⟨gf,19,["word"],154,153,m0,co "number_of" 371 37 1 148 149 (.ref 150) (.ref 151) (.ref 152) 375 376 181⟩,
 ⟨jn,23,["row","told"],159,158,m1,co "is_row" 384 42 1 155 156 .none .none (.ref 157) 387 388 181⟩,
 ⟨cp,24,["row"],166,165,m1,co "in_one_order" 390 47 1 160 161 (.ref 162) (.ref 163) (.ref 164) 394 395 181⟩,
 ⟨cy,25,["book"],171,170,m1,co "has_alike_rows" 397 49 1 167 168 .none .none (.ref 169) 400 401 181⟩,
 ⟨p7,26,["book"],176,175,m1,co "fits" 403 51 1 172 173 .none .none (.ref 174) 406 407 181⟩,
 ⟨jo,27,["book"],183,182,m1,co "fitted" 409 55 1 177 178 (.ref 179) (.ref 180) (.ref 181) 413 414 181⟩,
 ⟨j4,30,["text"],188,187,m2,co "read" 420 61 1 184 185 .none .none (.ref 186) 423 424 181⟩,
 ⟨fu,31,["line","parts"],195,194,m2,co "read_row" 426 67 1 189 190 (.ref 191) (.ref 192) (.ref 193) 431 432 181⟩,
 ⟨dZ,32,["parts"],200,199,m2,co "read_told" 434 72 1 196 197 .none .none (.ref 198) 437 438 181⟩,
 ⟨nZ,34,["_law_cell_here","_law_k","_law_by"],207,206,m3,co "_law_mix" 442 79 2 201 202 (.ref 203) (.ref 204) (.ref 205) 448 449 181⟩,
 ⟨mC,35,["_law_script","_law_k","_law_seed"],214,213,m3,co "_law_cell" 451 82 2 208 209 (.ref 210) (.ref 211) (.ref 212) 457 458 181⟩,
 ⟨ku,36,["_law_cell_here","_law_many","_law_found","_law_left","_law_k"],221,220,m3,co "_law_drawn" 460 89 2 215 216 (.ref 217) (.ref 218) (.ref 219) 468 469 181⟩,
 ⟨mD,37,["_law_drawn_here","_law_names_here","_law_letters","_law_name_here","_law_stem","_law_spare"],226,225,m3,co "_law_name" 471 99 2 222 223 .none .none (.ref 224) 474 475 181⟩,
 ⟨kz,38,["_law_script","_law_base","_law_many","_law_names_here","_law_k"],233,232,m3,co "_law_names" 477 110 3 227 228 (.ref 229) (.ref 230) (.ref 231) 485 486 181⟩,
 ⟨mE,39,["_law_drawn_here","_law_names_here","_law_top","_law_told_here","_law_k","_law_one"],240,239,m3,co "_law_told" 488 115 2 234 235 (.ref 236) (.ref 237) (.ref 238) 497 498 181⟩,
 ⟨mF,40,["_law_script","_law_base","_law_names_here","_law_many","_law_rows","_law_met","_law_k","_law_drawn_here","_law_row","_law_key"],247,246,m3,co "_law_book" 500 125 4 241 242 (.ref 243) (.ref 244) (.ref 245) 513 514 181⟩,
 ⟨mG,41,["_law_script","_law_drawn_here","_law_names_here"],254,253,m3,co "_law_made" 516 136 1 248 249 (.ref 250) (.ref 251) (.ref 252) 522 523 181⟩,
 ⟨dq,42,["_law_text_here","_law_stem","_law_tail"],259,258,m3,co "_law_is_word" 525 140 1 255 256 .none .none (.ref 257) 528 529 181⟩,
 ⟨gK,43,["_law_book_here","_law_seen","_law_word","_law_told_here","_law_key"],264,263,m3,co "_law_fit" 531 148 1 260 261 .none .none (.ref 262) 534 535 181⟩,
 ⟨kA,44,["_law_e"],271,270,m3,co "_law_kinds" 537 158 1 265 266 (.ref 267) (.ref 268) (.ref 269) 541 542 181⟩,
 ⟨fv,45,["_law_kinds_here","_law_place"],276,275,m3,co "_law_only" 544 160 2 272 273 .none .none (.ref 274) 547 548 181⟩,
 ⟨fw,46,["_law_book_here","_law_rows","_law_word","_law_told_here"],283,282,m3,co "_law_text" 550 162 1 277 278 (.ref 279) (.ref 280) (.ref 281) 557 558 181⟩,
 ⟨fy,47,["_law_text_here","_law_rows","_law_row","_law_words","_law_told_here"],288,287,m3,co "_law_read" 560 167 1 284 285 .none .none (.ref 286) 563 564 181⟩,
 ⟨cz,48,["_law_drawn_here","_law_words","_law_at","_law_some","_law_way","_law_word"],295,294,m3,co "_law_bent_words" 566 180 2 289 290 (.ref 291) (.ref 292) (.ref 293) 575 576 181⟩,
 ⟨dQ,49,["_law_drawn_here","_law_text_here","_law_rows","_law_at","_law_way","_law_signs","_law_k","_law_words","_law_place","_law_sign","_law_rest"],302,301,m3,co "_law_bent" 578 192 2 296 297 (.ref 298) (.ref 299) (.ref 300) 592 593 181⟩,
 ⟨bE,50,["_law_thing","_law_due_here","_law_kinds_here","_law_found","_law_e"],309,308,m3,co "_law_right" 595 221 2 303 304 (.ref 305) (.ref 306) (.ref 307) 603 604 181⟩,
 ⟨gL,51,["_law_text_here"],316,315,m3,co "_law_due" 606 233 1 310 311 (.ref 312) (.ref 313) (.ref 314) 610 611 181⟩,
 ml]
abbrev gg(P:YJ):Obj:=#[.type "dict",cb,.dict #v[ge P "__name__" 165 (.str "law_primer_k06_texts_refused" 440),ge P "__doc__" 166 .none,ge P "__package__" 167 .none,ge P "__loader__" 168 (.builtin "__main__.__loader__#opaque"),ge P "__spec__" 169 .none,ge P "__annotations__" 170 (.ref 6),ge P "__builtins__" 171 (.ref 4),ge P "__file__" 173 (.str "/claim/cut.py" 172),ge P "__cached__" 174 .none,ge P "PrimerError" 206 (.ref 24),ge P "NoText" 222 (.ref 37),ge P "Unfit" 238 (.ref 49),ge P "Unknown" 254 (.ref 61),ge P "Unlearnt" 270 (.ref 73),ge P "TooMany" 286 (.ref 85),ge P "Lacking" 302 (.ref 97),ge P "NoRow" 318 (.ref 109),ge P "NoDeed" 334 (.ref 121),ge P "LETTERS" 338 (.str "abcdefghijklmnopqrstuvwxyz" 337),ge P "LONGEST_STEM" 340 (.int 8 339),ge P "FIRST_SENSE" 342 (.int 1 341),ge P "LAST_SENSE" 344 (.int 99 343),ge P "is_stem" 350 (.ref 128),ge P "is_later_sense" 356 (.ref 133),ge P "is_word" 363 (.ref 140),ge P "stem_of" 370 (.ref 147),ge P "number_of" 377 (.ref 154),ge P "MOST_TOLD" 381 (.int 8 380),ge P "MOST_ROWS" 383 (.int 60 382),ge P "is_row" 389 (.ref 159),ge P "in_one_order" 396 (.ref 166),ge P "has_alike_rows" 402 (.ref 171),ge P "fits" 408 (.ref 176),ge P "fitted" 415 (.ref 183),ge P "PICTURE_SIGN" 419 (.str "*" 418),ge P "read" 425 (.ref 188),ge P "read_row" 433 (.ref 195),ge P "read_told" 439 (.ref 200),ge P "_law_mix" 450 (.ref 207),ge P "_law_cell" 459 (.ref 214),ge P "_law_drawn" 470 (.ref 221),ge P "_law_name" 476 (.ref 226),ge P "_law_names" 487 (.ref 233),ge P "_law_told" 499 (.ref 240),ge P "_law_book" 515 (.ref 247),ge P "_law_made" 524 (.ref 254),ge P "_law_is_word" 530 (.ref 259),ge P "_law_fit" 536 (.ref 264),ge P "_law_kinds" 543 (.ref 271),ge P "_law_only" 549 (.ref 276),ge P "_law_text" 559 (.ref 283),ge P "_law_read" 565 (.ref 288),ge P "_law_bent_words" 577 (.ref 295),ge P "_law_bent" 594 (.ref 302),ge P "_law_right" 605 (.ref 309),ge P "_law_due" 612 (.ref 316),ge P "law" 625 (.ref 323)] 57,#v[]]
abbrev xk(a:k9)(n:Str)(b r:k9)(t u:Tok):Obj:={cls:=.type "type",data:=.cls {name:=n,bases:=[.ref b],mro:=[.ref a,.ref b,.type "ValueError",.type "Exception",.type "BaseException",.type "object"],ns:=a - 1,qualname:=n},slots:=#v[a8 (.ref r),cb,a8 (.str n t),a8 (.str n u),a8 (.builtin "ValueError.__new__"),a8 (.bool c4)]}
abbrev xd(P:YJ)(m f:Tok)(l:Int)(n s:Tok)(a:k9)(d:Tok):Obj:={cls:=.type "dict",data:=.dict #v[ge P "__module__" m (.str "primer.errors" 187),ge P "__firstlineno__" f (.int l n),ge P "__static_attributes__" s (.ref a),ge P "__doc__" d .none] 2}
abbrev xo(P:YJ):List (k9×Obj):=[(97,xk 97 "Lacking" 24 88 287 295),
 (121,xk 121 "NoDeed" 24 112 319 327),
 (109,xk 109 "NoRow" 24 100 303 311),
 (37,xk 37 "NoText" 24 28 207 215),
 (24,({cls:=.type "type",data:=.cls {name:="PrimerError",bases:=[.type "ValueError"],mro:=[.ref 24,.type "ValueError",.type "Exception",.type "BaseException",.type "object"],ns:=23,qualname:="PrimerError",subclasses:=[.ref 37,.ref 49,.ref 61,.ref 73,.ref 85,.ref 97,.ref 109,.ref 121]},slots:=#v[a8 (.ref 15),cb,a8 (.str "PrimerError" 189),a8 (.str "PrimerError" 197),a8 (.builtin "ValueError.__new__"),a8 (.bool c4)]}:Obj)),
 (85,xk 85 "TooMany" 24 76 271 279),
 (49,xk 49 "Unfit" 24 40 223 231),
 (61,xk 61 "Unknown" 24 52 239 247),
 (73,xk 73 "Unlearnt" 24 64 255 263),
 (96,xd P 294 298 14 297 299 95 300),
 (120,xd P 326 330 18 329 331 119 332),
 (108,xd P 310 314 16 313 315 107 316),
 (36,xd P 214 218 4 217 219 35 220),
 (23,({cls:=.type "dict",data:=.dict #v[{hash:=SF P "__module__",key:=.str "__module__" 196,val:=.str "primer.errors" 187},{hash:=SF P "__firstlineno__",key:=.str "__firstlineno__" 200,val:=.int 2 199},{hash:=SF P "__static_attributes__",key:=.str "__static_attributes__" 201,val:=.ref 22},{hash:=SF P "__weakref__",key:=.str "__weakref__" 203,val:=.ref 25},{hash:=SF P "__doc__",key:=.str "__doc__" 204,val:=.none}] 3}:Obj)),
 (84,xd P 278 282 12 281 283 83 284),
 (48,xd P 230 234 6 233 235 47 236),
 (60,xd P 246 250 8 249 251 59 252),
 (72,xd P 262 266 10 265 267 71 268)]
abbrev gx(P:YJ):Gx:=(gg P,xo P)
abbrev xa:List k9:=[97,121,109,37,24,85,49,61,73,96,120,108,36,23,84,48,60,72]
abbrev hk:Hook:=kHook (λP=>Kt top (gx P) ms) (adr ms xa) λP=>vc top (gx P) ms xa rfl
def MU(w:JM):(oe w).map hk.obs=a8 (hk.val w):=by kernel_rfl
def hl:LeftO PySem.Challenge.rw_primer_k06_texts_refused.row.prog vw lo xt hk.obs hk.val 4000:=λw=>by
 have(s,e,a):=hQ.mp (K3 w);have b:=LY w;have c:=MU w;rw[e]at b c;change(oe w).map _=_;rw[e];show Ż a8 (VY (VY a (Jc b)) (Jc c))
def hs:PySem.Challenge.rw_primer_k06_texts_refused.wellSaid=c4:=by kernel_rfl
def ho(P:YJ):Nn ck top (Kt top (gx P) ms) ms=c4:=by kernel_rfl
def X6(P:YJ):(gX ck (Kt top (gx P) ms)&&gY ck (Kt top (gx P) ms))=c4:=by kernel_rfl
end K
open PySem PySem.W PyProof.Rows K
theorem PySem.Challenge.cw_primer_k06_texts_refused_holds : PySem.Challenge.rw_primer_k06_texts_refused.Holds := by
 w_on
 refine holds_law hs λz => ?_;refine holds_open hl hk.of hk.keeps (λs e => xl_of s (Na.mp e).1) XL.keeps rfl rfl rfl (λs e => recFacts_of (Na.mp e).2) rfl z (by kernel_rfl) ⟨rfl, rfl, rfl, rfl, rfl, by decide +kernel⟩ ?hw ?a
 (case hw => w_witness2)
 exact TM.walk2 (l := PySem.Challenge.rw_primer_k06_texts_refused) (Pg := prog) (ck := ck) (dp := 7) (x := "_law_script") (m := ml) rfl rfl ⟨rfl, by decide, by decide, rfl⟩ rfl (by decide +kernel) (by decide +kernel) (by decide +kernel) rfl (List.mem_iff_getElem?.mpr ⟨31, rfl⟩) rfl rfl ho X6 (λ_ => rfl) K.pure
