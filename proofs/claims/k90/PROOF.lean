import PyProof.Rows.All
import Wide.All
import OpenK.AllK
import Wide.FinOn
import Lean
import PyProof.EqAt
import PyProof.EqKinds
import PyProof.TupleCall
import PyProof.StrLawsChain
import PyProof.StrLawsFirst
import PyProof.Rows.StrNews2
import PySem.SetOps
import PyProof.ZipIter
import PyProof.DictItems
import PyProof.AttrMissHeap
import PyProof.DictWalks
import PyProof.MeetsStr2
import PyProof.ReprBulk
import PySem.Challenge.RW_primer_k90_whole_from_a_text
set_option Elab.async false
set_option linter.all false
set_option bootstrap.genMatcherCode false
set_option maxRecDepth 100000
set_option maxHeartbeats 4000000
set_option genInjectivity false
set_option genSizeOf false
set_option autoImplicit true
set_option relaxedAutoImplicit true
open Option renaming some->bD,none->b6,map_eq_some_iff->eu,bind_eq_some_iff->l',ite_none_right_eq_some->D',map_some->WW,isNone_iff_eq_none->XS,isSome_iff_exists->Yc,map_eq_none_iff->YO,isSome_map->Ø,getD_none->ş
open PySem renaming wpAny_bind->b5,wpAny_pure->cL,sizeLine->dt,wpAny->fx,model->gj,Value->hY,Addr->k7,Shared->k9,starEach->mn,wpAny_setState_of->my,Expr->p7,wpAny_holding->qI,Program->vl,wpAny_mono->vu,wpAny_call_entry->wh,wpAny_seqItems->w6,bootBuiltins->I0,eval->K1,rawInt->Mt,wpAny_Call_Name_kw->MI,cLine->MJ,wpAny_isInstance->Nt,World->OE,sysModules->OV,mainGlobals->O_,codeAny_builtin->Pr,wpAny_rule->Qt,Heap->Qy,wpAny_field->QC,wpAny_truthy_bool->Q5,wpAny_newObj_type->Q6,wpAny_callSpecial?_slot->Q8,scanBound->Q9,wpAny_specialOf->Rr,backTo->RN,wpAny_forIn_list->RP,compareOp->RW,cellsFrom->Si,holding->Sm,foldedSetIterable->Sq,call_meets->SV,Builtin->Ti,wpAny_setField->Tx,Scope->TH,call->TN,keywordEach->TV,wpAny_setField_rec->TX,wpAny_pyIter_tuple->T4,wpAny_passesOwn->T8,Stmt->T',attributeBase->Ug,ofAClassStatement->Uv,Keyword->Uw,isSubtype_type->UR,wpAny_typeOf->UX,pyNext->Vk,plainId_quiet->Vl,SetTable->VC,typeIs_str->VV,tupleKind_room_in1->VW,assignEach->V0,IsPair->V5,wpAny_getItem_str_slice->We,wpAny_Call_method0_late->Wg,wpAny_storeSet_of->Wt,wpAny_pyIter_list->Wv,tupleKeyHash->WD,fits_of_scanBound->WH,codeAny->WL,binaryOp->WM,wpAny_askSetting->Xh,swapsWith->Xl,behindInMarks->Xx,backToKw->XO,wpAny_updateSeq->X1,wpAny_setEntries_of->X8,assign->YA,Around->YJ,sliceBounds->Y9,swapsWithSole->Za,relayAll->Zq,compEnvC->Zu,typeLookup->Z9,setItem->Z_,relabel->Z',notedBy->À,codeAny_mono->Á,callerA->Â,call_meetsIn->Ã,JoinOk->Å,wpAny_loadPart'->Ë,post_val_or_str->Ì,isSubtype_tuple_tuple->Ï,builtinLookup_eq_fast->Ð,wpAny_updateSeq_pair->Û,isSubtype_stop->Ü,IsZip->Þ,FuncData->ß,pushCells->ä,isSubtype->å,wpAny_onRaise->í,wpAny_newList->î,wpAny_attempt->ï,swappedStores->ð,wpAny_tupleItemsOf->ù,IsTupleKey->ú,wpAny_setEpoch_of->Ā,wpAny_pyIter_enum->ā,sub_set_self->Ă,setField->ă,setAddHashed->Ą,release->ą,getItem->ć,atKey->Ĉ,wpAny_eqBool_str->Ē,wpAny_eqBool_int->ē,tupleKind->Ĕ,pyIter->ĕ,meets_dict_items->Ė,PassesOwn->Ę,wpAny_of_eq->Ě,unsupported->ě,subscripted->Ĝ,wpAny_execs_nil->ĥ,typeLookup_type->Ħ,pushCells_keeps->ħ,letOwnedTupleGo->Ĩ,valueAt->į,standAt->İ,wpAny_runValue->ķ,typeIs_int->ĸ,entryFor_alias->Ĺ,entryFor->ĺ,builtinsNs->Ļ,wpAny_standAt->ō,wpAny_comprehension_free->Ŏ,strValues->Ś,pickOrder->ś,eqIsQuiet->Ŝ,wpAny_Call_method_late->ţ,setNextDrawn->Ť,collect->ť,PyData->ũ,Params->Ū,IsEnum->ū,BindsTo->ŭ,wpAny_nextOf_list_end->Ż,wpAny_isTrue_Compare1->ż,wpAny_letGo->Η,wpAny_alloc->Θ,storeSet->Ι,step->Κ,seqIndex_of->Λ,reprText->Μ,field->Ν,codeAny_extend_loopS->Ξ,bindL->Ο,bindC->Ρ,Operator->Φ,NameKind->Χ,GenState->Ψ,wpAny_setItem_heap->ϓ,wpAny_pyIter_items->ϔ,wpAny_load->ϕ,wpAny_Name->ϖ,typeOf->ϗ,getattributeRaised->Ϙ,checkCount->ϙ,WalksS->Ϛ,wpAny_pyIter_slot->Ϧ,wpAny_assign_Name->ϧ,slot_list_getitem->Ϩ,setNext->ϩ,searchCouldBeSeen->Ϫ,ItemsOf->Ϯ,Draws->ϲ,wpAny_setScan_of->ϵ,wpAny_pyIter_zip->Ϸ,wpAny_Dict_empty->ϸ,setDiscardHashed->Ϲ,entryFor_of_tree->Ϻ
open Bool renaming true->cb,false->cK,and_eq_true->et,false_ne_true->qp,false_eq_true->wk,and_eq_true_iff->Qq,eq_iff_iff->Sb,not_eq_true'->Sf,or_eq_true->Vj,eq_false_iff->VS,and_false->VU,or_false->Ó,and_self->Ĥ,not_false->ϑ,false_and->ϒ,true_and->ϣ,not_true->Ϥ,and_true->ϥ
open PySem.Heap renaming get?_push_of_some->cc,get?_push_size->eW,lt_size->fz,SameBut->p8,get?_update_self->sL,get?_update_other->Th,get?_update_ne->UQ,size_push->VJ,ExtBut->û,IsTuple->ϯ
open List renaming length_map->df,getElem?_eq_some_iff->eH,map_map->fR,range->fS,mem_cons->f6,map_cons->gr,getElem?_set_self->hH,getElem?_map->hU,mem_map->hW,replicate->hZ,mem_cons_of_mem->ke,mem_append->ki,mem_cons_self->kj,length_append->ko,mem_of_getElem?->k8,map_append->mh,getElem?_set_ne->mx,mem_singleton->nc,length_cons->nz,getElem?_eq_getElem->nC,all_eq_true->nH,nil_append->oa,nodup_append->pb,mem_append_right->p6,nodup_cons->qb,size_toArray->ri,getElem?_append_right->sx,mem_range->tj,map_congr_left->tA,getElem?_append_left->vr,length_filter_le->B',mem_filter->DD,lookup_cons->KX,length->K2,filter_eq_self->Nd,append_nil->Ot,take_of_length_le->OL,getElem?_drop->PF,ext_getElem->PH,mem_iff_getElem->Qj,length_range->Qz,filter_sublist->QW,isEmpty_iff->Rx,getD->Ry,perm_ext_iff_of_nodup->RM,length_singleton->RO,pairwise_iff_getElem->R',filterMap_cons->Sr,not_mem_nil->Su,getElem?_replicate->SA,eq_nil_of_length_eq_zero->Tg,map_nil->Tr,append_assoc->T5,drop_eq_getElem_cons->UO,nodup_nil->VL,flatten_cons->VP,getElem?_eq_none->Wh,length_take->Wo,length_drop->Wq,getElem_mem->Wr,filter_cons->Ws,mem_erase_of_ne->W6,of_mem_zip->W9,forIn_cons->W',mem_map_of_mem->Xs,getElem_of_mem->Xt,pairwise_cons->XT,getD_eq_getElem?_getD->XU,filter_append->X0,getElem?_zip_eq_some->Ye,reverse_cons->Ys,sum_cons->Yy,mem_flatten->YP,map->YT,range_succ_eq_map->Y_,filter_eq_nil_iff->Y',length_zip->Zf,foldl_cons->Zl,take_append_drop->Zn,length_replicate->Zp,mem_append_left->ZY,getElem?_zipIdx->ZZ,replicate_succ->Î,zip_cons_cons->Ù,map_singleton->Ú,findIdx?_eq_some_iff_getElem->â,perm_middle->ò,nodup_range->ó,getElem_inj->ô,cons_ne_nil->õ,cons_append->ö,any_eq_true->ø,sum_append->ý,filter_nil->þ,drop_left'->ÿ,perm_append_singleton->Đ,drop_zero->đ,findIdx?_eq_none_iff->ę,getElem?_take_of_lt->ġ,findIdx?->Ģ,length_eq_zero_iff->Ĭ,filter_cons_of_pos->ĭ,filter_cons_of_neg->Į,length_eq_one_iff->Ĵ,drop_eq_nil_of_le->ĵ,mem_iff_getElem?->ŀ,dropLast_eq_take->Ł,pairwise_append->ŉ,mem_of_mem_take->Ŋ,length_eraseIdx->ŋ,getElem_eq_getD->Ō,getElem?_range->ŕ,flatten_append->Ŗ,sum_singleton->Š,mem_filterMap->š,take_sublist->ŷ,take_add_one->Ÿ,filter_congr->Ź,ext_getElem?->ź,zipIdx_cons->Β,map_fst_zip->Δ,le_antisymm->Ε,drop_length->Ζ,zipIdx_nil->ς,zipIdx_map->τ,range_succ->υ,filter_map->χ,lt_irrefl->ώ,forIn_nil->Ϗ,zip_map'->Ϡ,perm_nil->ϡ,any_cons->Ϣ,map_id'->ϳ,not_lt->aaf,map_id->aag
open Decidable renaming decide->dV
open Array renaming length_toList->gc,getElem?_eq_some_iff->ro,getElem?_toList->Nz,forIn_toList->Ou,getElem?_eq_getElem->RX,size_map->VG,getD_eq_getD_getElem?->Xv,toList_append->Ê,toArray_toList->Ń,getD->ř,toList_push->Ţ
open Nat renaming le_refl->gi,ne_of_lt->gm,lt_of_lt_of_le->lg,zero_le->lx,lt_irrefl->uk,ne_of_gt->va,le_trans->H8,lt_succ_of_lt->QA,le_of_lt->Rt,zero_add->UJ,lt_trans->Wa,le_of_lt_succ->Wc,mod_lt->X6,le_succ->È,lt_of_le_of_lt->á,succ_pos->ê,lt_trichotomy->ë,le_of_eq->ì,pos_of_ne_zero->Ŵ,add_sub_cancel->ŵ,add_right_comm->Ŷ,lt_succ_self->ρ,mul_comm->aae
open PySem.Value renaming ref->gs,none->qP,str->ti,type->Qv,isStrOf->Rm,bool->Ñ,int->ĝ,isStrOf_shape->ń,builtin->ϊ,isInt->ϫ
open Sum renaming inr->mA,inl->Ķ
open PySem.SetTable renaming below->qs,grown->OH,insertAt->QU,sizeAbove->Ss,turns->Vp,eraseAt->VH,fits->V4,bits->Xq,layClean->XQ,relaid->YB,laid->Zx,fill->ZF,tooFull->Õ,orStandIn->Ĳ,fresh->ŝ,runEnd->Ŧ,drop->ŧ,leap->Ϝ
open PySem.Str renaming empty->rr,ofString->Zb,length->ė,join->Ő
open PySem.Txt renaming partition->td,join->Q2,split->RG,endswith->ϻ
open PySem.Obj renaming mapSeq->uv,putSet->PJ,data_mapFields->TJ,isFreed_of_fields->ZM,cls_mapFields->ç,mapFields->Ϭ
open Ne renaming symm->ve
open PySem.Builtin.SmallTypes renaming nextOf->y4,ownedTupleIsFree->O3,ownedTupleHandOut->XR
open PySem.Heap.SameBut renaming update->H0,refl->OY
open PySem.Builtin.Str renaming occurrences->MG,partsBetween->Xr,strKind->Ď,glued->Ġ
open PySem.Calls renaming callWith_builtin->MH,evalArgs_plain->Ub,spliced_cons->U3,call_function_entry->X5,spliced_nil->X',Name_function_global->Č
open PyProof.Rows renaming seqObj->M7,callWith_type1->N3,call_isinstance_yes->Ru,size_push'->S0,StrsAre->XM,callWith_builtin1->ZS,AllBare->Ç,envOfC->à,listUpdate_at->ñ,entry_list_sort->ī,sortedHeap_old->ļ,sortedHeap->Ľ,slot_list_sort->ľ,args_list_sort->Ŀ,sortedHeap_at->Ŕ,subscriptTail_builtinR->Ů,plain_sorted->ů,listItems_at->Ű,entry_sorted->ű,args_sorted1->Ų,IntsAre->ų,tail_any->ξ,seqEpoch_at->ο,kind_sorted->π,Subscript_->ϟ,wpAny_notIn_heap->aac,slot_str_getitem->aad,joinOk_of->aao
open PySem.Builtin.List renaming listExtendWith->NW,listTooLong->OT,listSameRef->T7,listLengthHint->Ò,listFitsIndex->aal
open PySem.Builtin.Tuple renaming tupleHashOf->OI,tupleItemsOf->aaa
open Classical renaming byContradiction->ON
open Option.some renaming inj->Qb,injEq->US
open PySem.W renaming kas_sort->RC,kas_descPart->WO,kas_place->Xm,kas_tail3->Zv,kas_count->Zw,kas_asc->Ä,kas_desc->Ý,kas_ask->Ċ,kas_rev->ı,kat_cons->Τ
open PySem.NameKind renaming free->R0,cell->Te
open PySem.Around renaming under_plainId->R_
open PyProof.Rows.F renaming plain_set_update_loop->TK,entry_set_update_loop->Yv
open PySem.AutoSeq1 renaming wpAny_loadPart'->Uy,idx_int->ň
open List.cons renaming injEq->UC
open List.Perm renaming refl->U4,swap->ŗ,cons->Ř
open Int renaming toNat_natCast->Wd,toNat_of_nonneg->XN,eq_ofNat_of_zero_le->Y4,zero_add->Zm,le_refl->É,emod_lt_of_pos->ã,emod_nonneg->č,le_trans->ł,natCast_add->ϐ
open False renaming elim->Wj
open PySem.SetTable.layClean renaming free->WT
open LT renaming lt->Xf
open PySem.Shared renaming TypeIs->X9,heap->ϛ
open PySem.Builtin.Frozenset renaming differenceUpdate->Yp,difference->Zd,sizeOf->Æ,updateFrom->ε,unchanged->ζ,slot0->η,isAnySet->θ,copyOf->ι,baseOf->μ,addrOf->ν
open ForInStep renaming yield->Yz
open PySem.SetTable.probe renaming go->YG
open PySem.SeqAt renaming EqAt->YV,ne_of_list_tuple->ĩ,RcAt->ő,RcNeAt->ϝ
open PySem.SetTable.below renaming go->Í
open True renaming intro->Ô
open PySem.PyData renaming depth->Ö,shown_fits_bulk->ğ,leavesShortAll->Ī,showableAll->Ņ,hasDictAll->Œ,depthAll->Ũ,hasDict->Ž,bulkAll->ž,bulk->Ϟ
open Prod renaming ext->æ,fst->ď
open PySem.F renaming args_str_split_2->è,entry_str_split->ü,slot_str_split->ċ,args_list_extend_2->Ŭ,entry_list_extend->ſ,slot_list_extend->Ω,slot_int_rmul->ϱ
open PySem.Builtin.Dict renaming updateFrom->é,selfAndRest->aam,pairItems->aan
open PySem.pickOrder renaming go->Ć
open PySem.Walks renaming list->ĉ
open PySem.StrLaws renaming glued_eq_join->Ğ,strSub_toList->ŏ
open List.Nodup renaming sublist->ģ
open PySem.Heap.DictOf renaming new->ĳ
open PySem.PassesOwn renaming never->ņ
open PySem.Data renaming fields->Ň
open PySem.Draws renaming list->œ
open PySem.Code renaming quiet_builtin->Ş
open Prod.mk renaming injEq->Α
open PySem.W.KatTups renaming cons->Υ,nil->ω
open PySem.W.Looks renaming of_pure->ψ
open PySem.ItemsOf renaming nil->ϋ
open PyProof.Rows.LSm renaming range_all->ό,kept_iter->ύ
open PySem.Moved renaming trans->ϭ
open PySem.Heap.IsSliceOf renaming new->ϰ
open ForIn renaming forIn->ϴ
open PySem.Builtin.Range renaming rangeSize->aab
open List.Pairwise renaming sublist->aah,nil->aai,map->aaj
open PySem.Heap.DictOfH renaming new->aak
local macro_rules|`(def $a:declId $b* : $t :=$v)=>`(theorem $a:declId $b* : $t :=$v)
local macro_rules|`(abbrev $a:declId $b:optDeclSig $c:declVal)=>`(noncomputable def $a:declId $b:optDeclSig $c:declVal)
local macro_rules|`(tactic|show $t)=>`(tactic|refine $t)
local macro_rules|`(tactic|have($a,$b,*):=$t)=>do let g:=fun(x:Lean.Term)=>if x.raw.isIdent then`(Lean.Parser.Tactic.rcasesPatLo|$(⟨x⟩):ident)else`(Lean.Parser.Tactic.rcasesPatLo|_);let p<-(#[a]++b.getElems).mapM fun x=>match x with|`(($c,$d,*))=>do let q<-(#[c]++d.getElems).mapM g;`(Lean.Parser.Tactic.rcasesPatLo|⟨$q,*⟩)|_=>g ⟨x⟩;`(tactic|obtain⟨$p,*⟩:=$t)
local macro_rules|`(⋯)=>`(by first|(simp;done)|lia|decide|(simp;lia)|simp_all)
local macro_rules|`(∅)=>`(by(first|exact trivial|exact⟨⟨_,rfl,rfl⟩,trivial⟩|exact⟨⟨_,rfl,rfl⟩,⟨_,rfl,rfl⟩,trivial⟩))
local macro_rules|`(#[$a,*])=>`(⟨$a,*⟩)
local macro_rules|`(#v[$a,*])=>`(List.toArray [$a,*])
local macro_rules|`(⇑$x)=>`(($x).length)
local macro_rules|`(↥$x)=>`(($x).heap.objs.size)
local macro_rules|`(↑$x)=>`(List $x)
local macro_rules|`($x≈$y)=>`($x=some $y)
def ttt:True:=trivial
namespace K
open PySem PySem.W PyProof.Rows
abbrev vw:vl:=view PySem.Challenge.pw_primer_k90_whole_from_a_text [12,13,14,15,16,20,21,22,23,24,25,26,27,30,31,32,34,35,36,37,38,39,40,42,44,45,46,47,50,52,53,54,55,56,57,58,59,60,61,62,63,64,65,66,67,68,69]
abbrev loo:↑Str:=["PrimerError","NoText","Unfit","Unknown","Unlearnt","TooMany","LETTERS","LONGEST_STEM","FIRST_SENSE","LAST_SENSE","MOST_TOLD","MOST_ROWS","PICTURE_SIGN","DEAREST_READ"]
noncomputable abbrev xt(s:k9):Bool:=xlAt vw [] s&&recOk (RowW.records PySem.Challenge.rw_primer_k90_whole_from_a_text.row.toRowW) s
noncomputable abbrev oe(w:OE):Option k9:=openEnds treeTable PySem.Challenge.rw_primer_k90_whole_from_a_text.row.prog w 4000
noncomputable abbrev os(s:k9):=openSeen vw loo (importedModules PySem.Challenge.rw_primer_k90_whole_from_a_text.row.prog.main.body) xt cb s
def OO(w):(oe w).map (λs=>(os s).1)≈(openGood vw loo).1:=by kernel_rfl
def O8(w):(oe w).map (λs=>(os s).2)≈(openGood vw loo).2:=by kernel_rfl
end K
namespace L2
open PySem PySem.Spec PyProof.Rows
@[reducible]noncomputable def Key:=Sum Int Str
abbrev mz:Key->hY->Bool
 |.inl k,v=>ϫ k v
 |.inr x,v=>Rm x v
abbrev K7(w:OE):Key->Int
 |.inl k=>hashInt k
 |.inr x=>hashStr w x
theorem bE:∀{k}{v},mz k v=cb->(∃i t,k=Ķ i/\v=ĝ i t)\/(∃x t,k=mA x/\v=ti x t)
 |.inl i,v,h=>by
  have(t,e):=Value.isInt_shape   h;show .inl #[i,t,rfl,e]
 |.inr x,v,h=>by
  have(t,e):=ń   h;show .inr #[x,t,rfl,e]
def yC(i)(t):mz (.inl i) (.int i t)=cb:=by simp[mz,ϫ]
def yD(x)(t):mz (.inr x) (.str x t)=cb:=by simp[mz,Rm]
def GH(a b):dV ((Ķ a:Key)=Ķ b)=(a==b):=by
 grind
def GI(a b):dV ((mA a:Key)=mA b)=dV (a=b):=by
 simp
def GJ(a)(b):dV ((Ķ a:Key)=mA b)=cK:=decide_eq_false (λq=>nomatch q)
def GK(a)(b):dV ((mA a:Key)=Ķ b)=cK:=decide_eq_false (λq=>nomatch q)
abbrev aH(prog:vl)(w:OE):PySem.KeyKind prog w Key where
 is:=mz
 hash:=K7 w
 inj:=λv a b g f=>by
  rcases bE g with⟨i,t,rfl,rfl⟩|⟨x,t,rfl,rfl⟩
  .rcases bE f with⟨j,u,rfl,e⟩|⟨y,u,rfl,e⟩
   .injection e with c _;rw[c]
   .show nomatch e
  .rcases bE f with⟨j,u,rfl,e⟩|⟨y,u,rfl,e⟩
   .show nomatch e
   .injection e with c _;rw[c]
 byValue:=λk v h=>by
  rcases bE h with⟨i,t,rfl,rfl⟩|⟨x,t,rfl,rfl⟩<;>rfl
 pyHash:=λd h=>by
  rcases bE d with⟨i,t,rfl,rfl⟩|⟨x,t,rfl,rfl⟩
  .show wpAny_pyHash_int h
  .show wpAny_pyHash_str h
 eqBool:=λl d h=>by
  rcases bE l with⟨i,t,rfl,rfl⟩|⟨x,t,rfl,rfl⟩
  .rcases bE d with⟨j,u,rfl,rfl⟩|⟨y,u,rfl,rfl⟩
   .rw[GH]at h;show ē h
   .rw[GJ]at h;show SeqAt.EqAt.int_str i t y u _ _ _ _ h
  .rcases bE d with⟨j,u,rfl,rfl⟩|⟨y,u,rfl,rfl⟩
   .rw[GK]at h;show SeqAt.EqAt.str_int x t j u _ _ _ _ h
   .rw[GI]at h;show Ē h
 «strs»:=λk x t v h=>by
  rcases bE h with⟨i,u,rfl,e⟩|⟨y,u,rfl,e⟩
  .show nomatch e
  .injection e with c _
   subst c;cases v<;>rfl
def sv(prog)(w)(i)(t):(aH prog w).is (.inl i) (.int i t)=cb:=yC i t
def sy(prog)(w)(x)(t):(aH prog w).is (.inr x) (.str x t)=cb:=yD x t
inductive V where
 |Mc|bl (b:Bool)|int (i:Int)|str (x:Str)|UT (b:Array UInt8)|UU (b:UInt64)|ref (a:k7)|ty (n:String)
 deriving DecidableEq
def RelV:V->hY->Prop
 |.Mc,u=>u=qP
 |.bl b,u=>u=Ñ b
 |.int i,u=>∃t,u=ĝ i t
 |.str x,u=>∃t,u=ti x t
 |.UT b,u=>∃t,u=Value.bytes b t
 |.UU b,u=>∃t,u=Value.float b t
 |.ref a,u=>u=gs a
 |.ty n,u=>u=Qv n
@[reducible]noncomputable def Vals:↑V->↑hY->Prop:=Paired RelV
def Vals.length(r:Vals xs us):⇑xs=⇑us:=Paired.length r
theorem Vals.get:∀{xs}{us}{i:Nat}{x},Vals xs us->xs[i]?≈x->∃u,us[i]?≈u/\RelV x u
 |_,_,_,_,.nil,e=>by simp at e
 |_,_,0,_,.cons r _,e=>by simp at e;subst e;show#[_,rfl,r]
 |_,_,i+1,x,.cons _ t,e=>by
  have(u,b,a):=Vals.get   t (by simpa using e);show#[u,by assumption,a]
theorem Vals.set(r:RelV x u):∀{xs}{us} i,Vals xs us->Vals (xs.set i x) (us.set i u)
 |_,_,_,.nil=>.nil
 |_,_,0,.cons _ t=>.cons r t
 |_,_,i+1,.cons q t=>.cons q (Vals.set r i t)
theorem Vals.append:∀{xs a}{us ws},Vals xs us->Vals a ws->Vals (xs++a) (us++ws)
 |_,_,_,_,.nil,s=>s
 |_,_,_,_,.cons r t,s=>.cons r (Vals.append t s)
theorem Vals.take:∀{xs}{us} n,Vals xs us->Vals (xs.take n) (us.take n)
 |_,_,0,_=>.nil
 |_,_,_+1,.nil=>.nil
 |_,_,n+1,.cons r t=>.cons r (Vals.take n t)
theorem Vals.drop:∀{xs}{us} n,Vals xs us->Vals (xs.drop n) (us.drop n)
 |_,_,0,r=>r
 |_,_,_+1,.nil=>.nil
 |_,_,n+1,.cons _ t=>Vals.drop n t
def lH:Option V->Option hY->Prop
 |some v,bD u=>RelV v u
 |none,b6=>True
 |_,_=>False
abbrev KV{κ:Type}:↑(κ×V)->↑(κ×hY)->Prop:=Paired λ(p:κ×V) (q:κ×hY)=>p.1=q.1/\RelV p.2 q.2
abbrev kV:Key->V
 |.inl i=>.int i
 |.inr x=>.str x
inductive HO where
 |lst (xs:↑V)
 |tup (xs:↑V)
 |dK (kvs:↑(Key×V))|dT (kvs:↑(↑Key×V))
 |set (S:Int->Bool) (n:Nat)
 |ins (C dx:k7) (fs:↑(Str×V))
 |own (x:k7)
 |xd (fs:↑(Str×V))
 |met (f x:k7)
 |VO (lo hi:Int)
 |MN (o:Obj) (u:HO)
 |Ro (ps:Array hY)
 |ext (φ:Qy->Prop)
@[reducible]noncomputable def Hp:=k7->Option HO
abbrev upd(H:Hp)(a:k7)(o:HO):Hp:=λb=>if b=a then bD o else H b
def av:upd H a o a≈o:=by unfold upd;simp
def aj(h:b≠a):upd H a o b=H b:=by unfold upd;rw[if_neg h]
def zU{H:Hp}(h:H a≈o)(h':H b≈u)(d:o≠u):a≠b:=by
 intro e;simp_all
def bQ{H:Hp}(h:H a≈o)(h':H b=b6):a≠b:=by
 grind
section
variable(P:vl)(w:OE)
def bN(H:Hp)(h:Qy)(a:k7):HO->Prop
 |.lst xs=>⇑xs<=dt/\∃(its:↑hY) (n:Nat),Vals xs its/\h.get? a≈{cls:=.type "list",data:=.seq its.toArray n}
 |.tup xs=>⇑xs<=dt/\∃its:↑hY,Vals xs its/\IsTup h a its.toArray
 |.dK kvs=>⇑kvs<=dt/\(a==OV)=cK/\∃vs,KV kvs vs/\h.DictOf (aH P w) a vs
 |.dT kvs=>⇑kvs<=dt/\(a==OV)=cK/\∃xs:↑(↑Key×k7×hY),
   Paired (λ(p:↑Key×V) (q:↑Key×k7×hY)=>p.1=q.1/\H q.2.1≈.tup (p.1.map kV)/\RelV p.2 q.2.2) kvs xs /\
   ∃o es ep,h.get? a≈o/\o.ExactDict/\o.data=.dict es ep/\es.toList=xs.map (entryOfKey (Ĕ (aH P w)))/\(xs.map (·.1)).Nodup
 |.set S n=>h.SetOf (intKind P w) a S n
 |.ins C d c=>H d≈.own a/\⇑c<=1000/\d≠a/\h.get? a≈W.instObj C d /\
   ∃b,h.Ns1 d b/\(∀f,lH (c.lookup f) (b f))/\PySem.Within b (c.map (·.1))
 |.own _=>∃o,h.get? a≈o
 |.xd c=>∃b,h.Ns1 a b/\∀f,lH (c.lookup f) (b f)
 |.VO lo hi=>∃t u v,h.get? a≈{cls:=.type "range",data:=.fields #v[.int lo t,.int hi u,.int 1 v]}
 |.MN o u=>h.get? a≈o/\bN H h a u
 |.Ro ps=>h.get? a≈{cls:=.none,data:=.fields ps}
 |.met f x=>h.get? a≈W.methodObj (.ref f) (.ref x)
 |.ext φ=>φ h/\(∃o,h.get? a≈o)/\∀e g:Qy,φ e->(∀o,e.get? a≈o->g.get? a≈o)->φ g
abbrev Nc(H:Hp)(h:Qy):Prop:=∀a o,H a≈o->bN P w H h a o
end
def bN.lt(x:bN P w H h a o):a<h.objs.size:=by
 cases o with
 |lst xs=>have(_,_,_,_,e):=x;show fz e
 |tup xs=>have(_,_,_,p):=x;show p.lt
 |set S n=>have(o,_,_,_,e,_):=x;show fz e
 |ins C c b=>have(_,_,_,e,_):=x;show fz e
 |own y=>have(_,e):=x;show fz e
 |xd b=>have(_,(_,_,_,e,_),_):=x;show fz e
 |VO lo hi=>have(_,_,_,e):=x;show fz e
 |MN d u=>have(e,_):=x;show fz e
 |Ro ps=>show fz (x)
 |met f y=>show fz (x)
 |ext φ=>have(_,(_,e),_):=x;show fz e
 |_=>have(_,_,_,_,o,_,_,e,_):=x;show fz e
theorem Paired.GL:∀{c:↑α}{d},Paired F c d->(∀a b,F a b->G a b)->Paired G c d
 |_,_,.nil,_=>.nil
 |_,_,.cons r t,f=>.cons (f _ _ r) (Paired.GL t f)
def bN.iN(x:bN P w H h a o)(k:∀b u,(b=a\/H b≈.own a)->h.get? b≈u->h'.get? b≈u)
  (ho:∀b,H b≈.own a->H' b≈.own a) (l:∀b xs,H b≈.tup xs->H' b≈.tup xs):bN P w H' h' a o:=by
 induction o with
 |lst xs=>have(z,its,n,r,e):=x;show#[z,its,n,r,k _ _ (.inl rfl) e]
 |tup xs=>have(z,its,r,g,e,c):=x;show#[z,its,r,g,k _ _ (.inl rfl) e,c]
 |dK kvs=>have(z,y,vs,r,g,es,ep,e,c):=x;show#[z,y,vs,r,g,es,ep,k _ _ (.inl rfl) e,c]
 |dT kvs =>
  have(z,y,xs,r,g,es,ep,e,c):=x;show#[z,y,xs,Paired.GL r λp q z=>#[z.1,l _ _ z.2.1,z.2.2],g,es,ep,k _ _ (.inl rfl) e,c]
 |set S n=>have(g,es,ep,t,e,c):=x;show#[g,es,ep,t,k _ _ (.inl rfl) e,c]
 |ins C D m =>
  have(d,z,s,e,i,(j,es,ep,A,c),r):=x;show#[ho _ d,z,s,k _ _ (.inl rfl) e,i,#[j,es,ep,k _ _ (.inr d) A,c],r]
 |own y=>have(g,e):=x;show#[g,k _ _ (.inl rfl) e]
 |xd m=>have(i,(j,es,ep,e,c),r):=x;show#[i,#[j,es,ep,k _ _ (.inl rfl) e,c],r]
 |VO lo hi=>have(t,u,v,e):=x;show#[t,u,v,k _ _ (.inl rfl) e]
 |MN g u B=>have(e,q):=x;show#[k _ _ (.inl rfl) e,B q]
 |Ro ps =>
  have e:=x;show k a _ (.inl rfl) e
 |met f y =>
  have e:=x;show k a _ (.inl rfl) e
 |ext φ=>have(p,(o,e),st):=x;show#[st _ _ p λo q=>k _ _ (.inl rfl) q,#[o,k _ _ (.inl rfl) e],st]
def Nc.lt(x:Nc P w H h)(e:H a≈o):a<h.objs.size:=(x a o e).lt
def Nc.fresh(x:Nc P w H h)(e:h.objs.size<=a):H a=b6:=by
 cases q:H a with
 |none=>rfl
 |some u=>show absurd (lg (x.lt q) e) (uk _)
def Nc.kept(x:Nc P w H h)(k:∀b u,h.get? b≈u->h'.get? b≈u):Nc P w H h':=λa o e =>
 (x a o e).iN (λb u _ q=>k b u q) (λ_ q=>q) λ_ _ q=>q
def Nc.laid(x:Nc P w H h)(k:∀b u,h.get? b≈u->h'.get? b≈u)(g:h.objs.size<=a)(new:bN P w (upd H a o) h' a o):Nc P w (upd H a o) h':=λb u e=>by
 have d:=x.fresh g;by_cases f:b=a
 .subst f;rw[av]at e;simp_all
 .rw[aj f]at e;show(x b u e).iN (λc v _ q=>k c v q) (λc q=>by rw[aj (bQ q d)];show q) λc xs q=>by rw[aj (bQ q d)];show q
abbrev Rd(H:Hp)(a:k7)(u:HO):Prop:=H a≈u\/∃o,H a≈.MN o u
def Rd.of(h:H a≈u):Rd H a u:=.inl h
def Rd.ok(r:Rd H a u)(x:Nc P w H h):bN P w H h a u:=by
 rcases r with r|⟨o,r⟩
 .show x a u r
 .have(_,q):=x a _ r;show q
def Td:Option HO->Prop
 |some (.lst _)=>True
 |some (.dK _)=>True
 |some (.dT _)=>True
 |some (.set _ _)=>True
 |some (.ins _ _ _)=>True
 |some (.ext _)=>True
 |_=>False
def Nc.write(ok:Nc P w H h)(mu:Td (H x))(f:e=x\/H e≈.own x)(k:∀b u,b≠e->h.get? b≈u->h'.get? b≈u)(j:∃u,h'.get? e≈u)
  (new:bN P w (upd H x o') h' x o'):Nc P w (upd H x o') h':=λb u q=>by
 have g:∀c y,H c≈.own y->c≠x:=λc y r z=>by subst z;rw[r]at mu;show mu
 have l:∀c xs,H c≈.tup xs->c≠x:=λc xs r z=>by subst z;rw[r]at mu;show mu
 by_cases a:b=x
 .subst a;rw[av]at q;cases q;show new
 .rw[aj a]at q;by_cases d:b=e
  .have i:H b≈.own x:=by
    rcases f with z|z
    .show absurd (d.trans z) a
    .rw[d];show z
   rw[q]at i;cases i;have(v,m):=j;show#[v,by rw[d];show m]
  .show(ok b u q).iN (λc v hc r=>k c v ?_ r) (λc r=>by rw[aj (g c b r)];show r) λc xs r=>by rw[aj (l c xs r)];show r
   rcases hc with rfl|hc
   .show d
   .rintro rfl;rcases f with z|z
    .show g c b hc z
    .rw[hc]at z;cases z;show a rfl
structure Un(fs ex:↑k7)(H H':Hp)(h h':Qy):Prop where
 keep:∀b o,h.get? b≈o->H b=b6->b∉fs->b∉ex->h'.get? b≈o
 slot:∀b o,h.get? b≈o->H b=b6->b∈fs->b∉ex->∃sl,h'.get? b≈{o with slots:=sl}
 free:∀b o,h.get? b≈o->H b=b6->b∉ex->H' b=b6
 there:∀b o,h.get? b≈o->b∉ex->∃o',h'.get? b≈o'
 iZ:∀b xs,H b≈.tup xs->H' b≈.tup xs
 NM:∀b o u,H b≈.MN o u->H' b≈.MN o u
 NX:∀b ps,H b≈.Ro ps->∃more,H' b≈.Ro (ps++more)
def Un.any(u:Un e ex H i h f)(q:h.get? b≈a)(n:H b=b6)(c:b∉ex):∃g,f.get? b≈{a with slots:=g}:=by
 by_cases d:b∈e
 .show u.slot b a q n d c
 .show#[_,u.keep b a q n d c]
def Un.kept(k:∀b u,h.get? b≈u->h'.get? b≈u):Un c ex H H h h' :=
 #[λb a q _ _ _=>k b a q,λb a q _ _ _=>#[_,k b a q],λ_ _ _ n _=>n,λb a q _=>#[a,k b a q],λ_ _ q=>q,λ_ _ _ q=>q,λ_ ps q=>#[#v[],by simp_all]]
def Un.refl:Un a ex H H h h:=Un.kept λ_ _ q=>q
def Un.laid(k:∀b u,h.get? b≈u->h'.get? b≈u)(d:h.objs.size<=a)(c:H a=b6):Un e ex H (upd H a o) h h' where
 keep:=λb u q _ _ _=>k b u q
 slot:=λb u q _ _ _=>#[_,k b u q]
 free:=λb u q n _=>by rw[aj (gm (lg (fz q) d))];show n
 there:=λb u q _=>#[u,k b u q]
 iZ:=λb xs q=>by rw[aj (bQ q c)];show q
 NM:=λb u xs q=>by rw[aj (bQ q c)];show q
 NX:=λb ps q=>#[#v[],by rw[aj (bQ q c),q];simp]
def Un.write(mu:Td (H x))(g:e=x\/H e≈.own x)(k:∀b u,b≠e->h.get? b≈u->h'.get? b≈u)(i:∃u,h'.get? e≈u):Un j ex H (upd H x o) h h':=by
 have d:∀b,H b=b6->b≠x:=λb n z=>by subst z;rw[n]at mu;show mu
 have c:∀b,H b=b6->b≠e:=λb n z=>by
  simp_all
 have a:∀b u,H b≈u->¬Td (bD u)->b≠x:=λb u q l z=>by simp_all
 show#[λb u q n _ _=>k b u (c b n) q,λb u q n _ _=>#[_,k b u (c b n) q],λb u q n _=>by rw[aj (d b n)];show n,λb u q _=>?_,
  λb xs q=>by rw[aj (a b _ q λz=>z)];show q,λb u xs q=>by rw[aj (a b _ q λz=>z)];show q,λb ps q=>#[#v[],by rw[aj (a b _ q λz=>z),q];simp]]
 by_cases f:b=e
 .simp_all
 .show#[u,k b u f q]
abbrev YH(h:Qy)(H:Hp):↑k7:=(fS h.objs.size).filter λa=>(H a).isSome
abbrev qo(h:Qy)(H:Hp):Qy:=W.hideAll h (YH h H)
def yE(h)(H):(qo h H).objs.size=h.objs.size:=W.hideAll_size _ _
def zV(e:h.get? b≈o)(n:H b=b6):(qo h H).get? b≈o :=
 W.hideAll_get _ e λa=>by
  have q:=(DD.mp a).2;simp_all
def Dz(e:(qo h H).get? b≈o):h.get? b≈o/\H b=b6:=by
 have a:=W.of_hideAll _ e;show#[a,?_];cases q:H b with
 |none=>rfl
 |some x =>
  have c:b∈YH h H:=DD.mpr #[tj.mpr (fz a),by simp[q]];have z:(qo h H).get? b=b6:=W.hideAll_none _ c;simp_all
structure Mod(K:W.Frag)(mg:Str->Option hY)(base:Qy):Prop where
 VQ:K.In base
 glob:base.Ns O_ mg
 blt:∃mb,base.Ns Ļ mb/\∀x:Str,x≠"__name__"->mb x=I0 x
 nolimit:base.NoLimit
structure Cx where
 prog:vl
 w:OE
 K:W.Frag
 mg:Str->Option hY
 base:Qy
 A:YJ
 N:↑Str
 s₀:k9
 H₀:Hp
 env:Env
 outer:↑Env
 stack:↑Env
 ex:↑k7
 fn:Str->Bool
 calm:Bool
 pn:↑(k7×Obj)
 xe:hY->k9->Prop
abbrev OJ(l:↑Env):↑k7:=l.filterMap (·.frame)
noncomputable abbrev Cx.fs(X:Cx):↑k7:=OJ X.outer
abbrev N5(a:TH)(x:Str):Prop:=a.names.lookup x≈.local\/a.names.lookup x≈.cell\/a.names.lookup x≈.free
abbrev Loc(a:TH)(x:Str):Prop:=a.names.lookup x≈.local\/a.names.lookup x≈.cell
abbrev Look(env:Env)(h:Qy)(m:Str->Option hY)(x:Str)(u:hY):Prop :=
 (env.kindOf x≈.local/\m x≈u)\/((env.kindOf x≈.cell\/env.kindOf x≈.free)/\∃c,env.cells.lookup x≈c/\h.IsCell c (bD u))
structure Cx.Ok(X:Cx):Prop where
 mod:Mod X.K X.mg X.base
 kind:X.env.scope.kind=.function
 glob:X.env.globals=O_
 blt:X.env.builtins=Ļ
 above:↥X.s₀<=X.env.locals
 inj:∀x y c,X.env.cells.lookup x≈c->X.env.cells.lookup y≈c->x=y
 has:∀x,(X.env.kindOf x≈.cell\/X.env.kindOf x≈.free)->∃c,X.env.cells.lookup x≈c
 Tf:∀x c,X.fn x=cb->X.env.cells.lookup x≈c->↥X.s₀<=c
 hd:X.calm=cb->X.A.handled=b6
 frames:X.A.frames≈X.stack
 UW:X.stack=X.outer\/(X.stack=X.env::X.outer/\X.env.frame≈X.env.locals)
 YI:∀b∈X.ex,b≠X.env.locals/\∀x c,X.env.cells.lookup x≈c->c≠b
 bs:∀b o,X.base.get? b≈o->X.s₀.heap.get? b≈o/\X.H₀ b=b6
 QT:X.base.objs.size<=↥X.s₀
 PK:∀b o,X.base.get? b≈o->b∉X.ex
 Qu:∀b∈X.ex,b∉X.fs
 mB:X.s₀.heap.FunFrames X.base X.outer
 Sv:∀b∈X.fs,X.H₀ b=b6
structure Inv(X:Cx)(pins:↑(k7×Obj))(σ:↑(Option V))(H:Hp)(s:k9):Prop where
 ok:X.Ok
 os:s.os=X.s₀.os
 bare:Ç s.gens
 base:Un X.fs X.ex X.H₀ H X.s₀.heap s.heap
 loc:∃m,s.heap.Ns X.env.locals m/\∀(i:Nat) (x:Str) (v:V),X.N[i]?≈x->σ[i]?≈bD v->N5 X.env.scope x->∃u,RelV v u/\Look X.env s.heap m x u
 cell:∀x c,X.env.cells.lookup x≈c->∃v,s.heap.IsCell c v
 free:H X.env.locals=b6
 MV:∀x c,X.env.cells.lookup x≈c->H c=b6
 pin:∀p∈X.pn++pins,s.heap.get? p.1≈p.2/\H p.1=b6/\p.1≠X.env.locals/\p.1∉X.fs/\∀v,p.2.data≠.cell v
 L7:Nc X.prog X.w H s.heap
 len:⇑σ=⇑X.N
section
variable{X:Cx}{pins:List (k7×Obj)}{σ:List (Option V)}{H H':Hp}{s:k9}{h':Qy}
def Cx.Ok.K8(ok:X.Ok)(e:X.base.get? b≈o):b∉X.fs:=λa=>by
 have:=(ok.mB.mem a).1;simp_all
def Inv.bs(I:Inv X pins σ H s):∀b o,X.base.get? b≈o->s.heap.get? b≈o/\H b=b6:=λb o e =>
 #[I.base.keep b o (I.ok.bs b o e).1 (I.ok.bs b o e).2 (I.ok.K8 e) (I.ok.PK b o e),I.base.free b o (I.ok.bs b o e).1 (I.ok.bs b o e).2 (I.ok.PK b o e)]
def Inv.bk(I:Inv X pins σ H s):∀b o,X.base.get? b≈o->s.heap.get? b≈o:=λb o e=>(I.bs b o e).1
def Inv.mod(I:Inv X pins σ H s):Mod X.K X.mg X.base:=I.ok.mod
def Inv.Sw(I:Inv X pins σ H s):X.K.In s.heap:=I.ok.mod.VQ.keeps I.bk
def Inv.lt(I:Inv X pins σ H s):X.env.locals<↥s:=let ⟨_,a,_⟩:=I.loc;a.lt
def Inv.sz(I:Inv X pins σ H s):↥X.s₀<=↥s:=H8 I.ok.above (Rt I.lt)
def Inv.GN(I:Inv X pins σ H s)(h:↥s<=a):a∉X.fs:=λb=>by
 have(_,o,ho,_):=I.ok.mB.mem b;show absurd (lg (fz ho) (H8 I.sz h)) (uk _)
def Inv.Rq(I:Inv X pins σ H s):∀x c,X.env.cells.lookup x≈c->c≠X.env.locals:=λx c e z=>by
 have(v,o,ho,a):=I.cell x c e;have(m,(o',es,ep,b,d,_),_):=I.loc;simp_all
def Inv.mB(I:Inv X pins σ H s):s.heap.FunFrames X.base X.outer:=by
 have all:∀l,(∀b∈OJ l,b∈X.fs)->X.s₀.heap.FunFrames X.base l->s.heap.FunFrames X.base l:=by
  intro l;induction l with
  |nil=>intro _ _;trivial
  |cons env r f =>
   intro hs hl;have(hk,(L,o,a,g,ho,h),i):=hl;have c:=hs L (by unfold OJ;rw[Sr,a];show kj);have(j,e):=I.base.slot L o ho (I.ok.Sv L c) c λz=>I.ok.Qu L z c;show#[hk,#[L,_,a,g,e,h],f (λb d=>hs b (by unfold OJ;rw[Sr,a];show ke _ d)) i]
 show all _ (λ_ d=>d) I.ok.mB
def Inv.stack(I:Inv X pins σ H s):s.heap.FunFrames X.base X.stack:=by
 rcases I.ok.UW with e|⟨e,a⟩
 .rw[e];show I.mB
 .rw[e];have(m,b,_):=I.loc;show .cons (by rw[I.ok.kind];decide) a b ?_ I.mB;show Heap.get?_none_of_le (H8 I.ok.QT I.ok.above)
def Inv.mC(I:Inv X pins σ H s):∀b∈OJ X.stack,b∈X.env.locals::X.fs:=λb a=>by
 rcases I.ok.UW with e|⟨e,c⟩
 .simp_all
 .rw[e]at a;unfold OJ at a;rw[Sr,c]at a;show a
def Inv.wD(I:Inv X pins σ H s):∀b∈OJ X.stack,H b=b6:=λb hb=>by
 rcases f6.mp (I.mC b hb) with e|hb
 .rw[e];show I.free
 .have(_,o,ho,_):=I.ok.mB.mem hb;show I.base.free b o ho (I.ok.Sv b hb) λz=>I.ok.Qu b z hb
def Inv.step{ch:↑k7}(I:Inv X pins σ H s)
  (j:∀b∈ch,(b∈X.ex\/↥X.s₀<=b)/\b≠X.env.locals/\(∀x c,X.env.cells.lookup x≈c->c≠b)/\∀p∈X.pn++pins,p.1≠b)
  (keep:∀b o,b≠X.env.locals->b∉X.fs->b∉ch->s.heap.get? b≈o->H b=b6->h'.get? b≈o)
  (slot:∀b o,b≠X.env.locals->b∈X.fs->b∉ch->s.heap.get? b≈o->H b=b6->∃C,h'.get? b≈{o with slots:=C}) (free:∀b o,b∉ch->s.heap.get? b≈o->H b=b6->H' b=b6)
  (there:∀b o,b∉ch->s.heap.get? b≈o->∃o',h'.get? b≈o')
  (iZ:∀b xs,H b≈.tup xs->H' b≈.tup xs) (NM:∀b o u,H b≈.MN o u->H' b≈.MN o u) (NX:∀b ps,H b≈.Ro ps->∃t,H' b≈.Ro (ps++t))
  (T:∀m,s.heap.Ns X.env.locals m->h'.Ns X.env.locals m) (Y:Nc X.prog X.w H' h') (hg:Ç g') :
  Inv X pins σ H' {s with heap:=h',gens:=g',drawn:=d',toks:=t' }:=by
 have J:∀b o,X.s₀.heap.get? b≈o->b≠X.env.locals:=λb o e=>gm (lg (fz e) I.ok.above);have A:∀b o,X.s₀.heap.get? b≈o->b∉X.ex->b∉ch:=λb o e a h=>by
  rcases(j b h).1 with z|z
  .show a z
  .show absurd (lg (fz e) z) (uk _)
 have f:∀x c,X.env.cells.lookup x≈c->∀v,s.heap.IsCell c v->h'.IsCell c v:=λx c e v Mg=>by
  have(o,ho,D):=Mg;have y:c∉ch:=λz=>(j c z).2.2.1 x c e rfl;by_cases L:c∈X.fs
  .have(C,q):=slot c o (I.Rq x c e) L y ho (I.MV x c e);show#[_,q,D]
  .show#[o,keep c o (I.Rq x c e) L y ho (I.MV x c e),D]
 show#[I.ok,I.os,hg,#[λb o e n h a=>?_,λb o e n h a=>?_,λb o e n a=>?_,λb o e a=>?_,λb xs e=>iZ b xs (I.base.iZ b xs e),λb o xs e=>NM b o xs (I.base.NM b o xs e),λb ps e=>?_],?_,λx c e=>?_,?_,λx c e=>?_,λp N=>?_,Y,I.len]
 .show keep b o (J b o e) h (A b o e a) (I.base.keep b o e n h a) (I.base.free b o e n a)
 .have(C,g):=I.base.slot b o e n h a;have(G,B):=slot b _ (J b o e) h (A b o e a) g (I.base.free b o e n a);show#[G,B]
 .have(o',g):=I.base.there b o e a;show free b o' (A b o e a) g (I.base.free b o e n a)
 .have(o',g):=I.base.there b o e a;show there b o' (A b o e a) g
 .have(m1,g):=I.base.NX b ps e;have(m2,B):=NX b _ g;show#[m1++m2,by simp_all]
 .have(m,hn,hl):=I.loc;show#[m,T m hn,λi x v g B e3=>?_];have(u,r,l):=hl i x v g B e3;show#[u,r,?_];rcases l with l|⟨k,c,e,z⟩
  .show .inl l
  .show .inr #[k,c,e,f x c e _ z]
 .have(v,z):=I.cell x c e;show#[v,f x c e v z]
 .have(m,(o,_,_,ho,_),_):=I.loc;show free _ o (λz=>(j _ z).2.1 rfl) ho I.free
 .have(v,o,ho,D):=I.cell x c e;show free c o (λz=>(j c z).2.2.1 x c e rfl) ho (I.MV x c e)
 .have(e,n,O,Q,d):=I.pin p N;have y:p.1∉ch:=λz=>(j p.1 z).2.2.2 p N rfl;show#[keep p.1 p.2 O Q y e n,free p.1 p.2 y e n,O,Q,d]
def Inv.un(I:Inv X pins σ H s)(u:Un X.fs [] H H' s.heap h')(d:Nc X.prog X.w H' h'):Inv X pins σ H' {s with heap:=h',toks:=t' }:=by
 have(m,(o,es,ep,ho,r),_):=id I.loc;have(k,f):=u.any ho I.free ⋯;show I.step   (ch:=[]) (λ_ z=>nomatch z) (λb o _ a _ e n=>u.keep b o e n a ⋯) (λb o _ a _ e n=>u.slot b o e n a ⋯) (λb o _ e n=>u.free b o e n ⋯) (λb o _ e=>u.there b o e ⋯) u.iZ u.NM u.NX (λl g=>by
  have(o',h,i,c,j):=g;rw[ho]at c;cases c;show#[_,h,i,f,j]) d I.bare
def Inv.call(I:Inv X pins σ H s)(u:Un (OJ X.stack) ch H H' s.heap h')(h:Nc X.prog X.w H' h')(i:Ç g')
  (f:∀b∈ch,(b∈X.ex\/↥X.s₀<=b)/\b≠X.env.locals/\(∀x c,X.env.cells.lookup x≈c->c≠b)/\∀p∈X.pn++pins,p.1≠b) :
  Inv X pins σ H' {s with heap:=h',gens:=g',drawn:=d',toks:=t' }:=by
 have(m,(o,es,ep,ho,r),_):=id I.loc;have(v,d):=u.any ho I.free λz=>(f _ z).2.1 rfl;show I.step  f (λb o d j a e n=>u.keep b o e n (λz=>(f6.mp (I.mC b z)).elim d j) a) (λb o _ _ a e n=>u.any e n a) (λb o a e n=>u.free b o e n a) (λb o a e=>u.there b o e a) u.iZ u.NM u.NX (λy k=>by
  have(o',l,q,g,t):=k;rw[ho]at g;cases g;show#[_,l,q,d,t]) h i
def Inv.turned(I:Inv X pins σ H s)(k:∀b o,b≠it->s.heap.get? b≈o->h'.get? b≈o)(t:H it=b6)(d:it≠X.env.locals)
  (g:it∈X.ex\/↥X.s₀<=it) (h:∀x c,X.env.cells.lookup x≈c->c≠it) (i:∀p∈X.pn++pins,p.1≠it):Inv X pins σ H {s with heap:=h',toks:=t' }:=by
 have f:∀b u,H b≈u->b≠it:=λb u e z=>by simp_all
 show I.step (g':=s.gens) (d':=s.drawn) (ch:=[it]) (λb j=>?_) (λb o _ _ a e _=>k b o (λz=>a (by simp[z])) e) (λb o _ _ a e _=>#[o.slots,k b o (λz=>a (by simp[z])) e]) (λ_ _ _ _ n=>n)
  (λb o a e=>#[o,k b o (λz=>a (by simp[z])) e]) (λ_ _ e=>e) (λ_ _ _ e=>e) (λb ps e=>#[#v[],by simp_all]) (λm l=>?_) (λb u e=>?_) I.bare
 .have e:b=it:=by simpa using j
  subst e;show#[g,d,h,i]
 .have(o,es,ep,ho,r):=l;show#[o,es,ep,k _ o (ve d) ho,r]
 .show(I.L7 b u e).iN (λc v a q=>k c v ?_ q) (λ_ q=>q) λ_ _ q=>q;rcases a with z|z
  .rw[z];show f b u e
  .show f c _ z
def Inv.tok(I:Inv X pins σ H s)(t):Inv X pins σ H {s with toks:=t}:=I.un  (t':=t) Un.refl I.L7
def Inv.kept(I:Inv X pins σ H s)(k:∀b u,s.heap.get? b≈u->h'.get? b≈u):Inv X pins σ H {s with heap:=h',toks:=t' }:=I.un (Un.kept k) (I.L7.kept k)
def Inv.laid(I:Inv X pins σ H s)(k:∀b u,s.heap.get? b≈u->h'.get? b≈u)(c:↥s<=a)(new:bN X.prog X.w (upd H a o) h' a o):
  Inv X pins σ (upd H a o) {s with heap:=h',toks:=t' }:=I.un (Un.laid k c (I.L7.fresh c)) (I.L7.laid k c new)
def Inv.write(I:Inv X pins σ H s)(mu:Td (H x))(a:e=x\/H e≈.own x)(k:∀b u,b≠e->s.heap.get? b≈u->h'.get? b≈u)(c:∃u,h'.get? e≈u)
  (new:bN X.prog X.w (upd H x o) h' x o):Inv X pins σ (upd H x o) {s with heap:=h',toks:=t' }:=I.un (Un.write mu a k c) (I.L7.write mu a k c new)
def Inv.weak(I:Inv X pins σ H s)(hl:⇑a=⇑σ)(w:∀(i:Nat) v,a[i]?≈bD v->σ[i]?≈bD v):Inv X pins a H s :=
 #[I.ok,I.os,I.bare,I.base,let ⟨m,b,c⟩:=I.loc;⟨m,b,λi x v d e f=>c i x v d (w i v e) f⟩,I.cell,I.free,I.MV,I.pin,I.L7,hl.trans I.len]
def Inv.eS(I:Inv X pins σ H s)(h:∀p∈a,s.heap.get? p.1≈p.2/\H p.1=b6/\p.1≠X.env.locals/\p.1∉X.fs/\∀v,p.2.data≠.cell v):Inv X a σ H s :=
 #[I.ok,I.os,I.bare,I.base,I.loc,I.cell,I.free,I.MV,λp b=>(ki.mp b).elim (λz=>I.pin p (ZY _ z)) (h p),I.L7,I.len]
def mD{N:↑Str}(c:N.Nodup){i j:Nat}(a:N[i]?≈x)(b:N[j]?≈x):i=j:=by
 have(f,d):=eH.mp a;have(g,e):=eH.mp b;show(ô c).mp (d.trans e.symm)
def pf(I:Inv X pins σ H s)(hN:X.N.Nodup)(hi:X.N[i]?≈x)(l:Loc X.env.scope x)(r:RelV v u)
  (h:∀L,Inv X pins (σ.set i (bD v)) H L->(∃a,p8 a s.heap L.heap/\(a=X.env.locals\/X.env.cells.lookup x≈a))->Q () L) (hf:X.fn x=cb\/X.env.scope.names.lookup x≈.local:=by first|show .inl rfl|show .inr rfl|assumption):fx M A (storeName X.env x u) Q E s:=by
 have(m,O,hl):=id I.loc;have VR:(X.env.scope.kind==.class||(X.env.scope.kind==.module&&X.env.locals != X.env.globals))=cK:=by rw[I.ok.kind];rfl
 have YK:i < ⇑σ:=by rw[I.len];show(eH.mp hi).1
 have T:=I.Rq;have f:∀{a:k7} {h':Qy},(∃o,s.heap.get? a≈o/\H a=b6)->p8 a s.heap h'->Nc X.prog X.w H h':=λ{a h'} ha hs b ob e=>by
  have(_,_,ME):=ha;show(I.L7 b ob e).iN (λc Y t q=>(hs.2 c ?_).trans q) (λ_ q=>q) λ_ _ q=>q
  grind
 rcases l with hk|hk
 .show wpAny_storeName_local hk O (λh' QV hs=>?_) VR;have(oL,_,_,O4,_):=id O;show h _ #[I.ok,I.os,I.bare,#[λb o e n C l=>?_,λb o e n C l=>?_,I.base.free,λb o e l=>?_,I.base.iZ,I.base.NM,I.base.NX],#[_,QV,λj y v' g B e3=>?_],λy c e=>?_,I.free,I.MV,λp hp=>?_,f #[oL,O4,I.free] hs,by simpa using I.len] ⟨_,hs,.inl rfl⟩
  .show(hs.2 b (gm (lg (fz e) I.ok.above))).trans (I.base.keep b o e n C l)
  .have(sl,g):=I.base.slot b o e n C l;show#[sl,(hs.2 b (gm (lg (fz e) I.ok.above))).trans g]
  .have(o',g):=I.base.there b o e l;show#[o',(hs.2 b (gm (lg (fz e) I.ok.above))).trans g]
  .by_cases D:j=i
   .subst D;rw[hi]at g;cases g;rw[hH YK]at B;cases B;show#[u,r,.inl #[hk,by simp]]
   .rw[mx (ve D)]at B;have(u',r',q):=hl j y v' g B e3;show#[u',r',?_];rcases q with⟨k,e⟩|⟨k,c,e,z⟩
    .show .inl #[k,?_];have:y≠x:=λe=>D (mD hN g (e▸hi));simp[this,e]
    .show .inr #[k,c,e,z.sameBut hs (T y c e)]
  .have(Y,z):=I.cell y c e;show#[Y,z.sameBut hs (T y c e)]
  .have(e,n,G,nf,d):=I.pin p hp;show#[(hs.2 p.1 G).trans e,n,G,nf,d]
 .have Oo:X.fn x=cb:=by
   simp_all
  have(c,t):=I.ok.has x (.inl hk);have(Y,z):=I.cell x c t;show wpAny_storeName_cell I.ok.kind hk t z (λh' Sx hs=>?_);have(oc,ab,ac):=id z;show h {s with heap:=h' } ⟨I.ok,I.os,I.bare,⟨λb o e n C l=>?_,λb o e n C l=>?_,I.base.free,λb o e l=>?_,I.base.iZ,I.base.NM,I.base.NX⟩,⟨m,O.sameBut hs (ve (T x c t)),λj y v' g B e3=>?_⟩,λy J e=>?_,I.free,I.MV,λp hp=>?_,f ⟨oc,ab,I.MV x c t⟩ hs,by simpa using I.len⟩ ⟨c,hs,.inr t⟩
  .show(hs.2 b (gm (lg (fz e) (I.ok.Tf x c Oo t)))).trans (I.base.keep b o e n C l)
  .have(sl,g):=I.base.slot b o e n C l;show#[sl,(hs.2 b (gm (lg (fz e) (I.ok.Tf x c Oo t)))).trans g]
  .have(o',g):=I.base.there b o e l;show#[o',(hs.2 b (gm (lg (fz e) (I.ok.Tf x c Oo t)))).trans g]
  .by_cases D:j=i
   .subst D;rw[hi]at g;cases g;rw[hH YK]at B;cases B;show#[u,r,.inr #[.inl hk,c,t,Sx]]
   .rw[mx (ve D)]at B;have(u',r',q):=hl j y v' g B e3;show#[u',r',?_];rcases q with q|⟨k,J,e,z'⟩
    .show .inl q
    .show .inr #[k,J,e,z'.sameBut hs ?_];rintro rfl;show D (mD hN g (I.ok.inj _ _ _ e t▸hi))
  .by_cases YL:J=c
   .subst YL;show#[_,Sx]
   .have(w2,z2):=I.cell y J e;show#[w2,z2.sameBut hs YL]
  .have(e,n,G,nf,d):=I.pin p hp;show#[(hs.2 p.1 ?_).trans e,n,G,nf,d];intro q;simp_all
def sA(I:Inv X pins σ H s)(b:X.N.Nodup)(hi:X.N[i]?≈x)(c:Loc X.env.scope x)(r:RelV v u)
  (h:∀a,Inv X pins (σ.set i (bD v)) H a->Q () a) (d:X.fn x=cb\/X.env.scope.names.lookup x≈.local:=by first|show .inl rfl|show .inr rfl|assumption):fx M A (storeName X.env x u) Q E s :=
 pf I b hi c r (λa e _=>h a e) d
def Inv.Jr(I:Inv X pins σ H s)(ho:a.os=s.os)(u:Un (OJ X.stack) ch H H' s.heap a.heap)(d:Nc X.prog X.w H' a.heap)(f:Ç a.gens)
  (g:∀b∈ch,(b∈X.ex\/↥X.s₀<=b)/\b≠X.env.locals/\(∀x c,X.env.cells.lookup x≈c->c≠b)/\∀p∈X.pn++pins,p.1≠b):Inv X pins σ H' a:=by
 have(h',g',d',t',o'):=a;have e:=ho;subst e;show I.call    u d f g
end
@[reducible]noncomputable def XK:=hY->Option k7->Hp->Prop
@[reducible]noncomputable def St:=↑(Option V)
@[reducible]noncomputable def VK:=V->Hp->Prop
@[reducible]noncomputable def TE:=St->Hp->VK->Prop
@[reducible]noncomputable def TT:=St->Hp->(Bool->Hp->Prop)->Prop
@[reducible]noncomputable def TA:=St->Hp->(↑V->Hp->Prop)->Prop
structure Ends where
 nx:St->Hp->Prop
 rt:VK
 bk:St->Hp->Prop:=λ_ _=>False
 ct:St->Hp->Prop:=λ_ _=>False
@[reducible]noncomputable def TS:=Ends->St->Hp->Prop
inductive EP(X:Cx)(pins:↑(k7×Obj))(σ:St)(Q:VK)(u:hY)(s':k9):Prop
 |mk (v:V) (H':Hp):Inv X pins σ H' s'->RelV v u->Q v H'->EP X pins σ Q u s'
abbrev TP(X:Cx)(a:↑(k7×Obj))(σ:St)(Q:Bool->Hp->Prop)(b:Bool)(c:k9):Prop:=∃H',Inv X a σ H' c/\Q b H'
inductive AP(X:Cx)(pins:↑(k7×Obj))(σ:St)(Q:↑V->Hp->Prop)(us:↑hY)(s':k9):Prop
 |mk (vs:↑V) (H':Hp):Inv X pins σ H' s'->Vals vs us->Q vs H'->AP X pins σ Q us s'
abbrev SP(X:Cx)(a:↑(k7×Obj))(D:Ends)(f:Flow)(c:k9):Prop :=
 match f with
 |.next=>∃b H',Inv X a b H' c/\D.nx b H'
 |.brk=>∃b H',Inv X a b H' c/\D.bk b H'
 |.cont=>∃b H',Inv X a b H' c/\D.ct b H'
 |.ret u=>∃v b H',Inv X a b H' c/\RelV v u/\D.rt v H'
abbrev PE(X:Cx)(e:p7)(t:TE):Prop :=
 ∀(a:↑(k7×Obj)) (s:k9) (σ:St) (H:Hp) (Q:VK),Inv X a σ H s->t σ H Q->(fx (gj X.prog X.w) X.A) (K1 e X.env) (EP X a σ Q) X.xe s
abbrev PT(X:Cx)(e:p7)(t:TT):Prop :=
 ∀(a:↑(k7×Obj)) (s:k9) (σ:St) (H:Hp) (Q:Bool->Hp->Prop),Inv X a σ H s->t σ H Q->(fx (gj X.prog X.w) X.A) (isTrue e X.env (K1 e X.env)) (TP X a σ Q) X.xe s
abbrev PW(X:Cx)(e:p7)(t:TT):Prop :=
 ∀(b:Sem hY) (a:↑(k7×Obj)) (s:k9) (σ:St) (H:Hp) (Q:Bool->Hp->Prop),Inv X a σ H s->t σ H Q->(fx (gj X.prog X.w) X.A) (isTrue e X.env b) (TP X a σ Q) X.xe s
def PW.pt(h:PW X e t):PT X e t:=h _
abbrev PA(X:Cx)(es:↑p7)(t:TA):Prop :=
 ∀(pos:Pos) (a:↑(k7×Obj)) (s:k9) (σ:St) (H:Hp) (Q:↑V->Hp->Prop),Inv X a σ H s->t σ H Q->(fx (gj X.prog X.w) X.A) (spliced (RN pos (mn es X.env))) (AP X a σ Q) X.xe s
abbrev PS(X:Cx)(st:T')(t:TS):Prop :=
 ∀(a:↑(k7×Obj)) (s:k9) (σ:St) (H:Hp) (D:Ends),Inv X a σ H s->t D σ H->(fx (gj X.prog X.w) X.A) (exec st X.env) (SP X a D) X.xe s
abbrev Nh(X:Cx)(st:↑T')(t:TS):Prop :=
 ∀(a:↑(k7×Obj)) (s:k9) (σ:St) (H:Hp) (D:Ends),Inv X a σ H s->t D σ H->(fx (gj X.prog X.w) X.A) (execs st X.env) (SP X a D) X.xe s
def Mb(h:fx M A t Q E s)(b:∀a s,Q a s->c a s):fx M A t c E s:=vu h b λ_ _ x=>x
abbrev K9(i:Nat):TE:=λσ H Q=>∃v,σ[i]?≈bD v/\Q v H
abbrev tC(v:V):TE:=λ_ H Q=>Q v H
def cR(j:X.N[i]?≈x)(k:N5 X.env.scope x)(d:(x==("__debug__":Str))=cK:=by decide)(n:(x==("__classdict__":Str))=cK:=by decide):PE X (.Name x pos) (K9 i):=by
 intro b s σ H Q I h;have(v,e,h):=h;have(m,o,hl):=I.loc;have(u,r,l):=hl i x v j e k;have a:EP X b σ Q u s:=#[v,H,I,r,h]
 rcases l with⟨hk,p⟩|⟨hk,c,f,g⟩
 .show ϖ (wpAny_loadName_local I.ok.kind hk o p a) d
 .rcases hk with hk|hk
  .show ϖ (wpAny_loadName_cell I.ok.kind hk f g a) d
  .show ϖ (wpAny_loadName_free I.ok.kind hk f g a n) d
def zW:PE X (.Constant (.int i) j pos) (tC (.int i)):=λ_ _ _ H _ I h=>wpAny_Constant_int #[.int i,H,I.tok _,#[_,rfl],h]
def F8:PE X (.Constant (.bool b) j pos) (tC (.bl b)):=λ_ _ _ H _ I h=>Constant_bool #[.bl b,H,I,rfl,h]
def zX:PE X (.Constant .none j pos) (tC .Mc):=λ_ _ _ H _ I h=>Constant_none #[.Mc,H,I,rfl,h]
def zY:PE X (.Constant (.str x) j pos) (tC (.str x)):=λ_ _ _ H _ I h=>Calls.Constant_str #[.str x,H,I.tok _,#[_,rfl],h]
abbrev Gl(X:Cx)(x:Str):Prop:=X.env.kindOf x≈.globalImplicit
def wF(I:Inv X a σ H s)(b:Gl X x)(c:X.mg x≈u)(h:Q u s)
  (d:(x==("__debug__":Str))=cK:=by decide):(fx (gj X.prog X.w) X.A) (K1 (.Name x pos) X.env) Q E s :=
 Č I.ok.kind b (Calls.loadGlobal_global (by rw[I.ok.glob];show I.mod.glob.keeps I.bk) c h) d
def c6(I:Inv X a σ H s)(b:Gl X x)(c:X.mg x=b6)(d:I0 x≈u)(h:Q u s)
  (e:x≠"__name__":=by decide) (f:(x==("__debug__":Str))=cK:=by decide):(fx (gj X.prog X.w) X.A) (K1 (.Name x pos) X.env) Q E s:=by
 have(j,g,i):=I.mod.blt;show Č I.ok.kind b (Calls.loadGlobal_builtin (by rw[I.ok.glob];show I.mod.glob.keeps I.bk) c (by rw[I.ok.blt];show g.keeps I.bk) ((i x e).trans d) h) f
def DA(a:Gl X x)(b:X.mg x≈u)(r:RelV v u)(c:(x==("__debug__":Str))=cK:=by decide):PE X (.Name x pos) (tC v) :=
 λ_ _ _ H _ I h=>wF I a b #[v,H,I,r,h] c
def DB(a:Gl X x)(b:X.mg x=b6)(c:I0 x≈u)(r:RelV v u)(d:x≠"__name__":=by decide)(e:(x==("__debug__":Str))=cK:=by decide):PE X (.Name x pos) (tC v) :=
 λ_ _ _ H _ I h=>c6 I a b c #[v,H,I,r,h] d e
abbrev PC(X:Cx)(d:CmpOp)(a b:p7)(t:TE):Prop :=
 ∀(c:↑(k7×Obj)) (s:k9) (σ:St) (H:Hp) (Q:VK),Inv X c σ H s->t σ H Q ->
  (fx (gj X.prog X.w) X.A) (K1 a X.env) (λv e=>(fx (gj X.prog X.w) X.A) (K1 b X.env) (λu f=>(fx (gj X.prog X.w) X.A) (RW d v u) (EP X c σ Q) X.xe f) X.xe e) X.xe s
abbrev tB(t:TE):TT:=λσ H Q=>t σ H λx a=>∃c,x=.bl c/\Q c a
def zZ(h:PC X g a b t)(f:Xx g b=cK:=by first|show o _ ⋯ ⋯|rfl):PT X (.Compare a [g] [b] pos) (tB t):=by
 intro e s σ H Q I i;show ż (Mb (h e s σ H _ I i) λv s1 f=>Mb f λu p j=>Mb j λc r ⟨x,k,l,m,n⟩=>?_) f;have(d,rfl,q):=n;cases m;show Q5 #[k,l,q]
abbrev K_(t u:TT):TT:=λσ H Q=>t σ H λc a=>if c=cb then u σ a Q else Q cK a
abbrev tOr(t u:TT):TT:=λσ H Q=>t σ H λc a=>if c=cb then Q cb a else u σ a Q
abbrev Lb(t:TT):TT:=λσ H Q=>t σ H λc a=>Q (!c) a
def DC(d:PT X a f):PW X (.BoolOp .And [a] pos) f:=by
 intro g b s σ H Q I h;show isTrue_and (Mb (d b s σ H Q I h) λc s1 e=>?_);cases c with
 |true=>show isTrue_and_nil e
 |false=>show e
def GO(d:PT X a f):PW X (.BoolOp .Or [a] pos) f:=by
 intro g b s σ H Q I h;show isTrue_or (Mb (d b s σ H Q I h) λc s1 e=>?_);cases c with
 |false=>show isTrue_or_nil e
 |true=>show e
def GP(k:PT X a l)(m:PW X (.BoolOp .And (b::e) pos) n):PW X (.BoolOp .And (a::b::e) pos) (K_ l n):=by
 intro o d s σ H Q I h;show isTrue_and (Mb (k d s σ H _ I h) λc s1 f=>?_);have(g,i,j):=f;cases c with
 |true=>show m o d s1 σ g Q i j
 |false=>show#[g,i,j]
def Js(k:PT X a l)(m:PW X (.BoolOp .Or (b::e) pos) n):PW X (.BoolOp .Or (a::b::e) pos) (tOr l n):=by
 intro o d s σ H Q I h;show isTrue_or (Mb (k d s σ H _ I h) λc s1 f=>?_);have(g,i,j):=f;cases c with
 |true=>show#[g,i,j]
 |false=>show m o d s1 σ g Q i j
def GQ(c:PT X a d):PT X (.UnaryOp .Not a pos) (Lb d):=by
 intro b s σ H Q I h;show isTrue_not (c b s σ H _ I h)
abbrev Jt(b d:TE):TE:=λσ H Q=>b σ H λx a=>∃c,x=.bl c/\if c=cb then d σ a Q else Q (.bl cK) a
abbrev Ju(a:TE):TE:=λσ H Q=>a σ H λx b=>∃c,x=.bl c/\Q (.bl (!c)) b
def GR(h:PE X a t):PE X (.BoolOp d [a] pos) t:=λb s σ H Q I c=>BoolOp_one (h b s σ H Q I c)
def GS(k:PE X a l)(m:PE X (.BoolOp .And (b::e) pos) n):PE X (.BoolOp .And (a::b::e) pos) (Jt l n):=by
 intro d s σ H Q I h;show BoolOp_and (Mb (k d s σ H _ I h) λv s1 g=>?_);have(x,i,j,o,f):=g;have(c,rfl,f):=f;cases o;show Q5 ?_;cases c with
 |true=>show m d s1 σ i Q j f
 |false=>show#[.bl _,i,j,rfl,f]
def GU(f:PE X a g):PE X (.UnaryOp .Not a pos) (Ju g):=by
 intro b s σ H Q I h;show UnaryOp_ (Mb (f b s σ H _ I h) λv s1 d=>?_);have(x,i,j,k,e):=d;have(c,rfl,e):=e;cases k;show not_of (Q5 #[.bl (!c),i,j,rfl,e])
abbrev Mz(K:W.Frag)(H:Hp)(a:k7)(xs:↑V):Prop :=
 Rd H a (.lst xs) \/
  ∃(o:Obj) (its:Array hY) (n:Nat),K.lookup a≈o/\o.cls=.type "list"/\o.dict=b6/\o.data=.seq its n/\its.size<=dt/\Vals xs its.toList
abbrev MA(K:W.Frag)(H:Hp)(a:k7)(xs:↑V):Prop :=
 Rd H a (.tup xs) \/
  ∃(o:Obj) (its:Array hY) (n:Nat),K.lookup a≈o/\o.cls=.type "tuple"/\o.data=.seq its n/\its.size<=dt/\Vals xs its.toList
abbrev Lc:hY->Option V
 |.none=>bD .Mc
 |.bool b=>bD (.bl b)
 |.int i _=>bD (.int i)
 |.str x _=>bD (.str x)
 |.bytes b _=>bD (.UT b)
 |.float b _=>bD (.UU b)
 |.ref a=>bD (.ref a)
 |.type n=>bD (.ty n)
 |_=>b6
def RelV.abs(r:RelV x u):Lc u≈x:=by
 cases x with
 |Mc=>cases r;rfl
 |bl _=>cases r;rfl
 |ref _=>cases r;rfl
 |ty _=>cases r;rfl
 |_=>have(t,rfl):=r;rfl
def RelV.inj(r:RelV x u)(q:RelV y u):x=y:=Qb (r.abs.symm.trans q.abs)
theorem Vals.inj:∀{xs a}{us},Vals xs us->Vals a us->xs=a
 |_,_,_,.nil,.nil=>rfl
 |_,_,_,.cons r t,.cons b t'=>by rw[r.inj b,Vals.inj t t']
def Mz.of{K}(h:H a≈.lst xs):Mz K H a xs:=.inl (.inl h)
def MA.of{K}(h:H a≈.tup xs):MA K H a xs:=.inl (.inl h)
inductive YM(s:k9)(a:k7)(xs:↑V):Prop
 |mk (its:↑hY):Vals xs its->PlainL s.heap a its.toArray->⇑xs<=dt->YM s a xs
def Inv.list(I:Inv X b σ H s)(h:Mz X.K H a xs):YM s a xs:=by
 rcases h with h|⟨o,its,n,hk,c,d,hs,hz,r⟩
 .have(z,its,n,r,e):=h.ok I.L7;show#[its,r,#[_,n,e,rfl,rfl,rfl],z]
 .show#[its.toList,r,#[o,n,I.Sw a o hk,c,d,by simpa using hs],?_];have e:=⇑r;simp only[gc]at e;lia
inductive YN(s:k9)(a:k7)(xs:↑V):Prop
 |mk (its:↑hY):Vals xs its->IsTup s.heap a its.toArray->⇑xs<=dt->YN s a xs
def Inv.tuple(I:Inv X b σ H s)(h:MA X.K H a xs):YN s a xs:=by
 rcases h with h|⟨o,its,n,hk,c,hs,hz,r⟩
 .have(z,its,r,p):=h.ok I.L7;show#[its,r,p,z]
 .show#[its.toList,r,#[o,I.Sw a o hk,c,n,by simpa using hs],?_];have e:=⇑r;simp only[gc]at e;lia
def Inv.mE(I:Inv X b σ H s)(h:Mz X.K H a xs)(h':Mz X.K H a c):xs=c:=by
 have(its,r,(o,n,e,_,_,d),_):=I.list h;have(its',f,(o',g,i,_,_,d'),_):=I.list h';have:its=its':=⋯
 subst this;show r.inj f
def Inv.j8(I:Inv X b σ H s)(h:MA X.K H a xs)(h':MA X.K H a c):xs=c:=by
 have(its,r,(o,e,_,n,d),_):=I.tuple h;have(its',f,(o',g,_,i,d'),_):=I.tuple h';have:its=its':=⋯
 subst this;show r.inj f
@[reducible]noncomputable def Cx.oO(X:Cx)(E:hY->k9->Prop):Cx:={X with xe:=E}
@[reducible]noncomputable def Cx.Sy(X:Cx):Cx:=X.oO λ_ _=>False
def Cx.Ok.oO{X:Cx}(ok:X.Ok)(E):(X.oO E).Ok :=
 #[ok.mod,ok.kind,ok.glob,ok.blt,ok.above,ok.inj,ok.has,ok.Tf,ok.hd,ok.frames,ok.UW,ok.YI,ok.bs,ok.QT,ok.PK,ok.Qu,ok.mB,ok.Sv]
def Cx.Ok.j9{X:Cx}(ok:(X.oO E).Ok):X.Ok :=
 #[ok.mod,ok.kind,ok.glob,ok.blt,ok.above,ok.inj,ok.has,ok.Tf,ok.hd,ok.frames,ok.UW,ok.YI,ok.bs,ok.QT,ok.PK,ok.Qu,ok.mB,ok.Sv]
def Inv.oO(I:Inv X a σ H s)(E):Inv (X.oO E) a σ H s:=#[I.ok.oO E,I.os,I.bare,I.base,I.loc,I.cell,I.free,I.MV,I.pin,I.L7,I.len]
def Inv.j9(I:Inv (X.oO E) a σ H s):Inv X a σ H s:=#[I.ok.j9,I.os,I.bare,I.base,I.loc,I.cell,I.free,I.MV,I.pin,I.L7,I.len]
def SP.j9(h:SP (X.oO E) a D f c):SP X a D f c:=by
 cases f with
 |ret u=>have(v,b,H',I,r,q):=h;show#[v,b,H',I.j9,r,q]
 |_=>have(b,H',I,q):=h;show#[b,H',I.j9,q]
def Nh.Sy{st}(h:Nh X.Sy st t):Nh X st t:=λa s σ H D I b =>
 vu (h a s σ H D (I.oO _) b) (λ_ _ q=>q.j9) λ_ _ z=>Wj z
section
variable{X:Cx}{st:T'}{rest:List T'}{t u:TS}{e:p7}{te:TE}{pos:Pos}
abbrev Jv:TS:=λD σ H=>D.nx σ H
abbrev Le(t u:TS):TS:=λD σ H=>t {D with nx:=u D} σ H
def DE:Nh X [] Jv:=λ_ _ σ H _ I h=>ĥ #[σ,H,I,h]
def z_(b:PS X st t)(c:Nh X rest u):Nh X (st::rest) (Le t u):=by
 intro a s σ H D I h;show wpAny_execs_cons (Mb (b a s σ H _ I h) λf s1 q=>?_);cases f with
 |next =>
  have(d,H',g,q):=q;show c a s1 d H' D g q
 |_=>show q
def Inv.quiet(I:Inv X a σ H s):interactive X.env=cK:=by simp[interactive,I.ok.kind]
abbrev Jw(te:TE):TS:=λD σ H=>te σ H λ_ a=>D.nx σ a
def lR(b:PE X e te)(hs:Xl e b6 pos.line X.env=pure cK:=by rfl):PS X (.Expr e pos) (Jw te):=by
 intro a s σ H D I h;show wpAny_Expr_any (Mb (b a s σ H _ I h) λv s1 ⟨x,c,d,g,f⟩=>#[σ,c,d,f]) I.quiet hs
abbrev Lf(te:TE):TS:=λD σ H=>te σ H D.rt
def Aa(b:PE X e te):PS X (.Return (bD e) pos) (Lf te):=by
 intro a s σ H D I h;show wpAny_Return_some (Mb (b a s σ H _ I h) λv s1 ⟨x,c,d,f,g⟩=>#[x,σ,c,d,f,g])
abbrev Lg(c:TT)(t u:TS):TS:=λD σ H=>c σ H λb a=>if b=cb then t D σ a else u D σ a
def Jx(l:PT X c m)(n:Nh X a t)(o:Nh X b u):PS X (.If c a b pos) (Lg m t u):=by
 intro f s σ H D I h;show wpAny_If (Mb (l f s σ H _ I h) λd s1 g=>?_);have(i,j,k):=g;cases d with
 |true=>show n f s1 σ i D j k
 |false=>show o f s1 σ i D j k
end
@[reducible]noncomputable def TG:=V->St->Hp->(St->Hp->Prop)->Prop
@[reducible]noncomputable def Sz:=↑V->St->Hp->(St->Hp->Prop)->Prop
abbrev PG(X:Cx)(a:p7)(t:TG):Prop :=
 ∀(b:↑(k7×Obj)) (s:k9) (σ:St) (H:Hp) (v:V) (u:hY) (Q:St->Hp->Prop),Inv X b σ H s->RelV v u->t v σ H Q ->
  (fx (gj X.prog X.w) X.A) (YA a X.env u) (λ_ d=>∃c H',Inv X b c H' d/\Q c H') X.xe s
abbrev Tj(X:Cx)(ts:↑p7)(t:Sz):Prop :=
 ∀(a:↑(k7×Obj)) (s:k9) (σ:St) (H:Hp) (vs:↑V) (us:↑hY) (Q:St->Hp->Prop),Inv X a σ H s->Vals vs us->t vs σ H Q ->
  (fx (gj X.prog X.w) X.A) (assignInOrder ((V0 ts X.env).map (·.2)) us) (λ_ c=>∃b H',Inv X a b H' c/\Q b H') X.xe s
@[reducible]noncomputable def GV:=V->V->V->Hp->(Hp->Prop)->Prop
abbrev mF(X:Cx)(t:GV):Prop :=
 ∀(a:↑(k7×Obj)) (s:k9) (σ:St) (H:Hp) (o i v:V) (b c u:hY) (Q:Hp->Prop),Inv X a σ H s->RelV o b->RelV i c->RelV v u->t o i v H Q ->
  (fx (gj X.prog X.w) X.A) (Z_ b c u) (λ_ d=>∃H',Inv X a σ H' d/\Q H') X.xe s
@[reducible]noncomputable def VT:=V->V->Hp->VK->Prop
abbrev UY(X:Cx)(b:Φ)(t:VT):Prop :=
 ∀(a:↑(k7×Obj)) (s:k9) (σ:St) (H:Hp) (x y:V) (v u:hY) (Q:VK),Inv X a σ H s->RelV x v->RelV y u->t x y H Q ->
  (fx (gj X.prog X.w) X.A) (inplaceOp b v u) (EP X a σ Q) X.xe s
abbrev wG(i:Nat):TG:=λv σ H Q=>Q (σ.set i (bD v)) H
def wH(b:X.N.Nodup)(hi:X.N[i]?≈x)(c:Loc X.env.scope x)(d:X.fn x=cb\/X.env.scope.names.lookup x≈.local:=by first|show .inl rfl|show .inr rfl|assumption):PG X (.Name x pos) (wG i):=by
 intro a s σ H v u Q I r h;show ϧ (sA I b hi c r (λf e=>#[_,H,e,h]) d)
abbrev Jy:Sz:=λvs σ H Q=>vs=[]/\Q σ H
abbrev F9(t:TG)(u:Sz):Sz:=λvs σ H Q=>∃v r,vs=v::r/\t v σ H λa H'=>u r a H' Q
def DF:Tj X [] Jy:=by
 intro a s σ H vs us Q I r h;have(e,h):=h;show assignInOrder_nil #[σ,H,I,h]
def Ab(c:PG X e t)(d:Tj X es u)
  (hs:(V0 (e::es) X.env).map (·.2)=YA e X.env::(V0 es X.env).map (·.2):=by rfl):Tj X (e::es) (F9 t u):=by
 intro a s σ H vs us Q I r h;have(v,m,f,h):=h;subst f;cases r with
 |cons r g =>
  rw[hs];show assignInOrder_cons (Mb (c a s σ H _ _ _ I r h) λ_ s1 b=>?_);have(i,j,k,l):=b;show d a s1 i j _ _ Q k g l
abbrev Lh(K:W.Frag)(n:Nat)(t:Sz):TG:=λv σ H Q=>∃a xs,v=.ref a/\MA K H a xs/\⇑xs=n/\t xs σ H Q
def GW(f:X.calm=cb)(h:Tj X es t)
  (g:⇑(V0 es X.env)=n:=by rfl) (i:(V0 es X.env).findIdx? (·.1)=b6:=by rfl):PG X (.Tuple es k pos) (Lh X.K n t):=by
 intro c s σ H v u Q I r d;have(a,xs,j,l,hl,d):=d;subst j;cases r;have(its,rv,m,hz):=I.tuple l;show assign_Tuple_tuple (I.ok.hd f) m (by simp[g,<-hl,⇑rv]) i λh' p=>?_;have q:=I.kept (t':=s.toks) λb o e=>p b o (gm (fz e)) e;show h c _ σ H xs _ Q q ⋯ d
abbrev Li(a b:TE)(t:GV):TG:=λv σ H Q=>a σ H λo c=>b σ c λi d=>t o i v d λe=>Q σ e
def Ac(ho:PE X o g)(hi:PE X i j)(hs:mF X t)
  (k:∀v,YA (.Subscript o i pos) X.env v=(do
   let b <-Sm [v] (K1 o X.env)
   let c <-Sm [v,b] (K1 i X.env)
   İ pos
   Sm [v,b,c] (Z_ b c v)
   ą [v,b,c] []):=by intro _;rfl):PG X (.Subscript o i pos) (Li g j t):=by
 intro a s σ H v u Q I r h;rw[k];show b5 (qI (Mb (ho a s σ H _ I h) λb s1 d=>?_));have(x,l,m,n,p):=d;show b5 (qI (Mb (hi a s1 σ l _ m p) λc q e=>?_));have(y,w,z,A,B):=e;show b5 (ō (b5 (qI (Mb (hs a q σ w x y v b c u _ z n A r B) λ_ J f=>?_))));have(C,D,G):=f;show wpAny_release #[σ,C,D,G]
abbrev GX(a:TE)(g:TG):TS:=λD σ H=>a σ H λx b=>g x σ b D.nx
def uO(c:PE X e d)(f:PG X b g)(hs:Za [b] e pos.line X.env=pure cK:=by rfl)(i:ð [b] e X.env=pure b6:=by rfl)
  (j:(V0 [b] X.env).map (·.2)=[YA b X.env]:=by rfl):PS X (.Assign [b] e pos) (GX d g):=by
 intro a s σ H D I h;show wpAny_Assign_stores (Mb (c a s σ H _ I h) λv s1 ⟨x,k,l,m,n⟩=>?_) hs i;rw[j];show Mb (f a s1 σ k x v _ l m n) λ_ o q=>q
def Ad(c:X.N.Nodup)(hi:X.N[i]?≈x)(d:Loc X.env.scope x)(f:PE X e g)(hs:Xl e (bD (.Name x a)) pos.line X.env=pure cK:=by rfl)(j:X.fn x=cb\/X.env.scope.names.lookup x≈.local:=by first|show .inl rfl|show .inr rfl|assumption):
  PS X (.Assign [.Name x a] e pos) (GX g (wG i)):=by
 intro b s σ H D I h;show wpAny_Assign_Name (Mb (f b s σ H _ I h) λv s1 ⟨y,k,l,m,n⟩=>?_) hs;show sA l c hi d m (λp o=>#[_,k,o,n]) j
abbrev Jz(a b c:TE)(d:V->V->Hp->VK->Prop)(e:VT)(f:GV):TS:=λD σ H=>a σ H λo g=>b σ g λi h=>d o i h λx j=>c σ j λy k=>e x y k λz l=>f o i z l λm=>D.nx σ m
abbrev JA(X:Cx)(t:V->V->Hp->VK->Prop):Prop :=
 ∀(a:↑(k7×Obj)) (s:k9) (σ:St) (H:Hp) (o i:V) (b c:hY) (Q:VK),Inv X a σ H s->RelV o b->RelV i c->t o i H Q ->
  (fx (gj X.prog X.w) X.A) (ć b c) (EP X a σ Q) X.xe s
def DG(ho:PE X o m)(hi:PE X i n)(p:JA X q)(r:PE X e t)(u:UY X w x)(hs:mF X y)
  (z:∀b c new,augStore i b c new=(do Sm [new,b,c] (Z_ b c new);ą [new,b,c] [];pure .next):=by intros;rfl):PS X (.AugAssign (.Subscript o i f) w e pos) (Jz m n t q x y):=by
 intro a s σ H D I h;show wpAny_AugAssign_SubscriptAny (Mb (ho a s σ H _ I h) λb s1 ⟨g,A,B,j,C⟩=>?_) z;show Mb (hi a s1 σ A _ B C) λc G J=>?_;have(k,L,N,l,O):=J;show Mb (p a G σ L g k b c _ N j l O) λd Q T=>?_;have(Y,H3,I3,r3,q3):=T;show Mb (r a Q σ H3 _ I3 q3) λv s4 VX=>?_;have(x4,H4,I4,r4,q4):=VX;show Mb (u a s4 σ H4 Y x4 d v _ I4 r3 r4 q4) λnew s5 VY=>?_;have(x5,H5,I5,r5,q5):=VY;show Mb (hs a s5 σ H5 g k x5 b c new _ I5 j l r5 q5) λ_ s6 ⟨H6,I6,q6⟩=>#[σ,H6,I6,q6]
abbrev VZ(f:Int->Int->Int):VT:=λx y H Q=>∃i j,x=.int i/\y=.int j/\Q (.int (f i j)) H
def GY:UY X .Add (VZ λi j=>i+j):=by
 intro a s σ H x y v u Q I b c h;have(i,j,d,e,q):=h;subst d;subst e;have(t,rfl):=b;have(t',rfl):=c;show iadd_int #[.int _,H,I.tok _,#[_,rfl],q]
def GZ:UY X .Sub (VZ λi j=>i - j):=by
 intro a s σ H x y v u Q I b c h;have(i,j,d,e,q):=h;subst d;subst e;have(t,rfl):=b;have(t',rfl):=c;show isub_int #[.int _,H,I.tok _,#[_,rfl],q]
abbrev G0(c:TT)(f:TS):TS:=λD σ H=>∃W:Nat->St->Hp->Prop,(∃m,W m σ H)/\∀m σ H,W m σ H ->
 c σ H λb a=>if b=cb then ∃N:St->Hp->Prop,(∀d H',N d H'->∃e,e<m/\W e d H')/\f {D with nx:=N,ct:=N,bk:=D.nx} σ a else D.nx σ a
def Ae(r:Ę (gj X.prog X.w) X.A X.env X.xe)(z:PT X c B)(C:Nh X body G):PS X (.While c body [] pos) (G0 B G):=by
 intro a s σ H D I h;have(W,(m0,J),d):=h;show wpAny_While (codeAny_whileLoop (λn L=>∃t H',Inv X a t H' L/\W n t H') ?_ m0 ⟨σ,H,I,J⟩);rintro n s1 ⟨i,u,O,Q⟩;show T8 r (Mb (z a s1 i u _ O (d n i u Q)) λb T Y=>?_);have(v,x,j):=Y;cases b with
 |true =>
  have(N,y,j):=j;show T8 r (Mb (C a T i v _ x j) λf s3 k=>?_);cases f with
  |next =>
   have(e,g,l,m):=k;have(o,p,q):=y e g m;show#[o,p,e,g,l,q]
  |cont =>
   have(e,g,l,m):=k;have(o,p,q):=y e g m;show#[o,p,e,g,l,q]
  |_=>show k
 |false =>
  show ĥ #[i,v,x,j]
structure It where
 go:Nat->Hp->Prop
 UZ:Nat->Hp->V->Hp->Prop
 stop:Nat->Hp->Prop
abbrev iO(X:Cx)(a:↑(k7×Obj))(H:Hp)(b:k7):Prop :=
 H b=b6/\b≠X.env.locals/\b∉X.fs/\(b∈X.ex\/↥X.s₀<=b)/\(∀x c,X.env.cells.lookup x≈c->c≠b)/\∀p∈X.pn++a,p.1≠b
def Inv.qq(I:Inv X a σ H s)(d:↥s<=b)(f:H' b=b6):iO X a H' b:=by
 show#[f,va (lg I.lt d),I.GN d,.inr (H8 I.sz d),λx c e z=>?_,λp g z=>?_]
 .have(v,q):=I.cell x c e;show absurd (lg q.lt ⋯) (uk _)
 .show absurd (lg (fz (I.pin p g).1) ⋯) (uk _)
structure Turn(P:vl)(w:OE)(K:W.Frag)(tg:p7)(J:It)(fp:↑k7)(it:k7)(tn:Nat->Qy->Prop):Prop where
 mem:it∈fp
 obj:∀i h,tn i h->∀b∈fp,∃o,h.get? b≈o/\∀v,o.data≠.cell v
 keep:∀i h h',tn i h->(∀b∈fp,∀o,h.get? b≈o->h'.get? b≈o)->tn i h'
 item:∀(X:Cx),X.prog=P->X.w=w->X.K=K->X.calm=cb->∀(i:Nat) (pins:↑(k7×Obj)) (s:k9) (σ:St) (H:Hp) (E:hY->k9->Prop),Inv X pins σ H s->(∀b∈fp,iO X pins H b)->tn i s.heap->J.go i H ->
  fx (gj P w) X.A (Vk (.ref it)) (λr s1=>∃u,r≈u /\
   fx (gj P w) X.A (Ĩ tg (.ref it) u) (λ_ s2=>∃x H',Inv X pins σ H' s2/\RelV x u/\J.UZ i H x H'/\tn (i+1) s2.heap/\∀b∈fp,H' b=b6) E s1) E s
 done:∀(X:Cx),X.prog=P->X.w=w->X.K=K->X.calm=cb->∀(i:Nat) (pins:↑(k7×Obj)) (s:k9) (σ:St) (H:Hp) (E:hY->k9->Prop),Inv X pins σ H s->(∀b∈fp,iO X pins H b)->tn i s.heap->J.stop i H ->
  fx (gj P w) X.A (Vk (.ref it)) (λr s1=>r=b6/\Inv X pins σ H s1) E s
 self:∀(A:YJ) (i:Nat) (s:k9) (Q:hY->k9->Prop) (E:hY->k9->Prop),tn i s.heap->Q (.ref it) s->fx (gj P w) A (ĕ (.ref it)) Q E s
@[reducible]noncomputable def TI:=St->Hp->(It->Hp->Prop)->Prop
inductive V1(X:Cx)(pins:↑(k7×Obj))(σ:St)(tg:p7)(R:It->Hp->Prop)(Tn:hY)(s2:k9):Prop
 |mk (it:k7) (fp:↑k7) (tn:Nat->Qy->Prop) (J:It) (H':Hp):Tn=.ref it->Inv X pins σ H' s2->Turn X.prog X.w X.K tg J fp it tn->tn 0 s2.heap->(∀b∈fp,iO X pins H' b)->R J H'->V1 X pins σ tg R Tn s2
abbrev PI(X:Cx)(c b:p7)(d:TI):Prop :=
 ∀(a:↑(k7×Obj)) (s:k9) (σ:St) (H:Hp) (R:It->Hp->Prop),Inv X a σ H s->d σ H R ->
  (fx (gj X.prog X.w) X.A) (K1 b X.env) (λv s1=>(fx (gj X.prog X.w) X.A) (ĕ v) (V1 X a σ c R) X.xe s1) X.xe s
def sC(ho:s.heap.get? it≈o)(b:o.cls=.type n)(c:o.data=.fields vs)
    (e:["enumerate","zip","dict_itemiterator","dict_reverseitemiterator","odict_iterator","itertools.zip_longest","itertools.pairwise"].contains n=cK) (a:Q () s):fx M A (Ĩ d (.ref it) u) Q E s:=by
  cases d<;>first
    | show cL a
    | (cases u<;>first
        | show cL a
        | (show b5 (ϕ ho ?_)
           rw[b,c];change fx M A (if (["enumerate","zip","dict_itemiterator","dict_reverseitemiterator","odict_iterator","itertools.zip_longest","itertools.pairwise"].contains n&&vs[0]?==bD _)=cb then _ else _) Q E s;rw[if_neg (by grind)];show cL a))
abbrev V2(K:W.Frag)(a:k7):It :=
 #[λi H=>∃xs x,Mz K H a xs/\xs[i]?≈x,λi H x H'=>H'=H/\∀xs,Mz K H a xs->xs[i]?≈x,λi H=>∃xs,Mz K H a xs/\⇑xs<=i]
abbrev V3(K:W.Frag)(a:k7):It :=
 #[λi H=>∃xs x,MA K H a xs/\xs[i]?≈x,λi H x H'=>H'=H/\∀xs,MA K H a xs->xs[i]?≈x,λi H=>∃xs,MA K H a xs/\⇑xs<=i]
abbrev To(lo:Int)(n:Nat):It:=#[λi _=>i<n,λi H x H'=>H'=H/\x=.int (lo+i),λi _=>n<=i]
def yF{K}(a it):Turn P w K Q (V2 K a) [it] it (λi h=>h.IsListIter it a i) where
 mem:=⋯
 obj:=λi h st b f=>by
  have(o,e,c,d):=st;simp_all
 keep:=λi h h' st k=>st.at λo e=>k it ⋯ o e
 item:=by
  intro X m n q C i g s σ H E I j st r;subst m n q;have(xs,x,l,t):=r;have(its,rv,p,hz):=I.list l;have(u,T,D):=rv.get t;have(v,y,G,z,A,B):=j it ⋯;show wpAny_pyNext_list_item st p.isList (x:=u) ⋯ λh' st' J=>?_;have L:=I.turned (t':=s.toks) (λb o f e=>(J.2 b f).trans e) v y z A B;have(o,e,c,d):=id st';show#[u,rfl,sC  e c d ⋯ #[x,H,L,D,#[rfl,λY N=>by rw[I.mE N l];show t],st',λb f=>(j b f).1]]
 done:=by
  intro X m n q C i g s σ H E I j st r;subst m n q;have(xs,l,t):=r;have(its,rv,p,hz):=I.list l;have(v,y,G,z,A,B):=j it ⋯;have hl:=⇑rv;show wpAny_pyNext_list_end (I.ok.hd C) st p.isList ⋯ λh' O=>#[rfl,I.turned  (λb o f e=>O b o f e) v y z A B]
 self:=λ_ _ _ _ _ st h=>wpAny_pyIter_listiter st h
def uP{K}(a it):Turn P w K Q (V3 K a) [it] it (λi h=>h.IsTupleIter it a i) where
 mem:=⋯
 obj:=λi h st b f=>by
  have(o,e,c,d):=st;simp_all
 keep:=λi h h' st k=>st.at λo e=>k it ⋯ o e
 item:=by
  intro X m n q C i g s σ H E I j st r;subst m n q;have(xs,x,l,t):=r;have(its,rv,p,hz):=I.tuple l;have(u,T,D):=rv.get t;have(v,y,G,z,A,B):=j it ⋯;show wpAny_pyNext_tuple_item st (p) (x:=u) ⋯ λh' st' J=>?_;have L:=I.turned (t':=s.toks) (λb o f e=>(J.2 b f).trans e) v y z A B;have(o,e,c,d):=id st';show#[u,rfl,sC  e c d ⋯ #[x,H,L,D,#[rfl,λY N=>by rw[I.j8 N l];show t],st',λb f=>(j b f).1]]
 done:=by
  intro X m n q C i g s σ H E I j st r;subst m n q;have(xs,l,t):=r;have(its,rv,p,hz):=I.tuple l;have(v,y,G,z,A,B):=j it ⋯;have hl:=⇑rv;show wpAny_pyNext_tuple_end (I.ok.hd C) st (p) ⋯ λh' O=>#[rfl,I.turned  (λb o f e=>O b o f e) v y z A B]
 self:=λ_ _ _ _ _ st h=>wpAny_pyIter_tupleiter st h
def uQ{K}(it)(lo)(n):Turn P w K G (To lo n) [it] it (λi h=>IsRangeIter h it (lo+(i:Nat) * 1) ((n:Int) - (i:Nat)) 1) where
 mem:=⋯
 obj:=λi h st b c=>by
  simp_all
 keep:=λi h h' st k=>k it ⋯ _ st
 item:=by
  intro X r u x f i a s σ H E I d st g;subst r u x;have(j,l,y,m,p,q):=d it ⋯;have W:=Walks.range (prog:=X.prog) (w:=X.w) (I.ok.hd f) it lo 1 n;show W.item i s _ _ g st λv h' z A st' B=>?_;have(t,rfl):=A;have C:Inv X a σ H {s with heap:=h',toks:=z}:=I.turned (λb o c e=>B b o (by simpa using c) e) j l m p q;show#[_,rfl,sC   st' rfl rfl ⋯ #[.int _,H,C,#[t,?_],#[rfl,rfl],st',λb c=>(d b c).1]];simp
 done:=by
  intro X r u x f i a s σ H E I d st g;have(j,l,y,m,p,q):=d it ⋯;show wpAny_pyNext_range_end (I.ok.hd f) st (by have:n<=i:=g;lia) λh' D=>#[rfl,I.turned  (λb o c e=>D b o c e) j l m p q]
 self:=λ_ _ _ _ _ st h=>wpAny_pyIter_rangeiter st h
abbrev JB(K:W.Frag)(tl:TE):TI:=λσ H R=>tl σ H λx b=>∃a,x=.ref a/\(∃xs,Mz K b a xs)/\R (V2 K a) b
abbrev Lj(K:W.Frag)(tl:TE):TI:=λσ H R=>tl σ H λx b=>∃a,x=.ref a/\(∃xs,MA K b a xs)/\R (V3 K a) b
def DH(hl:PE X l tl):PI X n l (JB X.K tl):=by
 intro c s σ H R I h;show Mb (hl c s σ H _ I h) λv s1 f=>?_;have(x,g,d,i,j):=f;have(a,e,(xs,k),q):=j;subst e;cases i;have(its,rv,p,hz):=d.list k;show Wv p.isList ?_;show#[_,_,_,_,g,rfl,d.kept  λb o e=>cc _ e,yF a _,#[_,eW _ rfl,rfl,rfl],λb m=>?_,q];have e:=by simpa using m
 subst e;show d.qq (gi _) (d.L7.fresh (gi _))
def G1(hl:PE X l tl):PI X n l (Lj X.K tl):=by
 intro c s σ H R I h;show Mb (hl c s σ H _ I h) λv s1 f=>?_;have(x,g,d,i,j):=f;have(a,e,(xs,k),q):=j;subst e;cases i;have(its,rv,p,hz):=d.tuple k;show T4 (p) ?_;show#[_,_,_,_,g,rfl,d.kept  λb o e=>cc _ e,uP a _,#[_,eW _ rfl,rfl,rfl],λb m=>?_,q];have e:=by simpa using m
 subst e;show d.qq (gi _) (d.L7.fresh (gi _))
def sD{lo hi}(I:Inv X a σ H s)(d:-(2 ^ 62)<=lo)(f:lo<2 ^ 62)(g:-(2 ^ 62)<=hi)(h:hi<2 ^ 62)
  (q:R (To lo (hi - lo).toNat) H):(fx (gj X.prog X.w) X.A) (ĕ (.ref ↥s)) (V1 X a σ m R) E {s with heap:=s.heap.push {cls:=.type "range",data:=.fields #v[.int lo t,.int hi u,.int 1 v]},toks:=i}:=by
 show wpAny_pyIter_range (IsRange.new ..) (small_one d f g h) ?_;have c:Inv X a σ H {s with heap:=s.heap.push {cls:=.type "range",data:=.fields #v[.int lo t,.int hi u,.int 1 v]},toks:=i}:=I.kept λb o e=>cc _ e;show#[_,_,_,_,H,rfl,
  c.kept  λb o e=>cc _ e,uQ _ lo _,?_,λb j=>?_,q]
 .have k:lo+(0:Nat) * 1=lo:=⋯
  have l:(hi - lo).toNat - (0:Nat)=aab lo hi 1:=by rw[rangeSize_one];lia
  rw[k,l];show eW _ rfl
 .have e:b=(s.heap.push {cls:=.type "range",data:=.fields #v[.int lo t,.int hi u,.int 1 v]}).objs.size:=by simpa using j
  subst e;show c.qq (gi _) (c.L7.fresh (gi _))
abbrev JC(a:TA):TI:=λσ H R=>a σ H λvs b=>∃j:Int,vs=[.int j]/\-(2 ^ 62)<=j/\j<2 ^ 62/\R (To 0 j.toNat) b
abbrev JD(a:TA):TI:=λσ H R=>a σ H λvs b=>∃i j:Int,vs=[.int i,.int j]/\(-(2 ^ 62)<=i/\i<2 ^ 62/\-(2 ^ 62)<=j/\j<2 ^ 62)/\R (To i (j - i).toNat) b
def yG(d:Gl X "range")(f:X.mg "range"=b6)(g:PA X [a] i)(hs:mn [a] X.env=[(cK,K1 a X.env)]:=by rfl):PI X o (.Call (.Name "range" p) [a] [] pos) (JC i):=by
 intro b s σ H R I h;show Call_ (c6 I d f boot_range (N3 (Mb (g pos b s σ H _ I h) λus s1 ⟨vs,u,k,l,c⟩=>?_) hs rfl));have(j,e,c,m,q):=c;subst e;cases l with
 |cons r n =>
  cases n;have(t,rfl):=r;show call_range_1 (sD k ⋯ ⋯ c m ⋯)
def yH(g:Gl X "range")(k:X.mg "range"=b6)(l:PA X [a,b] m)(hs:mn [a,b] X.env=[(cK,K1 a X.env),(cK,K1 b X.env)]:=by rfl)(n:mn [b] X.env=[(cK,K1 b X.env)]:=by rfl):
  PI X z (.Call (.Name "range" p) [a,b] [] pos) (JD m):=by
 intro c s σ H R I h;show Call_ (c6 I g k boot_range (N3 (Mb (l pos c s σ H _ I h) λus s1 ⟨vs,A,o,u,d⟩=>?_) ⋯ (by rw[n];rfl)));have(i,j,e,(d,v,w,x),q):=d;subst e;cases u with
 |cons r f =>
  cases f with
  |cons y f =>
   cases f;have(t,rfl):=r;have(t',rfl):=y;show call_range_2 (sD o d v w x q)
abbrev Lk(c:TI)(g:TG)(d:TS):TS:=λD σ H=>c σ H λJ e=>∃W:Nat->Nat->St->Hp->Prop,(∃m,W 0 m σ e)/\∀i m σ H,W i m σ H ->
 (J.stop i H/\D.nx σ H)\/(J.go i H/\∃N:St->Hp->Prop,(∀a H',N a H'->∃b,b<m/\W (i+1) b a H')/\∀x H',J.UZ i H x H'->g x σ H' λf h=>d {D with nx:=N,ct:=N,bk:=D.nx} f h)
abbrev qr(a:↑k7)(h:Qy):↑(k7×Obj):=a.filterMap λb=>(h.get? b).map λo=>(b,o)
def fT(a:b∈c)(e:h.get? b≈o):(b,o)∈qr c h:=š.mpr #[b,a,by rw[e];rfl]
def yI(a:p∈qr c h):p.1∈c/\h.get? p.1≈p.2:=by
 have(b,d,e):=š.mp a;cases q:h.get? b with
 |none=>simp_all
 |some o =>
  rw[q]at e;have f:=Qb e;subst f;show#[d,q]
def Inv.pinned(I:Inv X a σ H s)(g:∀b∈c,iO X a H b)(ho:∀b∈c,∃o,s.heap.get? b≈o/\∀v,o.data≠.cell v):Inv X (a++qr c s.heap) σ H s :=
 I.eS λp h=>(ki.mp h).elim (λz=>I.pin p (p6 _ z)) λz=>by
  have(f,e):=yI z;have(i,j,k,_):=g p.1 f;have(o,l,d):=ho p.1 f;simp_all
def Inv.mG(I:Inv X (a++c) σ H s):Inv X a σ H s:=I.eS λp b=>I.pin p (p6 _ (ZY _ b))
def G2(t:Ę (gj X.prog X.w) X.A X.env X.xe)(hc:X.calm=cb)(hi:PI X tg p wi)(hg:PG X tg g)(c:Nh X body tb)
  (hs:∀x,Sq p X.env x=pure x:=by intro _;rfl):PS X (.For tg p body [] pos) (Lk wi g tb):=by
 intro a s σ H D I h;show wpAny_For (Mb (hi a s σ H _ I h) λv s1 h1=>Mb h1 λTn s2 h2=>?_) hs;have(it,G,tn,J,H2,e,I2,T,st2,f2,W,(m0,w0),y):=h2;subst e;have O:∀{H':Hp},(∀b∈G,H' b=b6)->∀b∈G,iO X a H' b:=λhn b c=>#[hn b c,(f2 b c).2]
 show codeAny_forLoop_any (λn s'=>∃i z H',Inv X a z H' s'/\tn i s'.heap/\(∀b∈G,H' b=b6)/\W i n z H') ?_ m0 ⟨0,σ,H2,I2,st2,λb c=>(f2 b c).1,w0⟩;rintro n s3 ⟨i,B,L,I3,st3,Tq,w3⟩;rcases y i n B L w3 with⟨C,qn⟩|⟨go,N,hN,Κ⟩
 .show T8 t (Mb (T.done X rfl rfl rfl hc i a s3 B L X.xe I3 (O Tq) st3 C) λr s4 V6=>?_);have(Q,I4):=V6;subst Q;show ĥ #[B,L,I4,qn]
 .show T8 t (Mb (T.item X rfl rfl rfl hc i a s3 B L X.xe I3 (O Tq) st3 go) λr s4 V7=>?_);have(u,Q,h4):=V7;subst Q;show T8 t (Mb h4 λ_ s5 V8=>?_);have(x,H5,I5,r5,y5,Y,V9):=V8;have V_:=I5.pinned (O V9) (T.obj _ _ Y);show T8 t (Mb (hg _ s5 B H5 x u _ V_ r5 (Κ x H5 y5)) λ_ s6 V'=>?_);have(σ6,H6,I6,q6):=V';show T8 t (Mb (c _ s6 σ6 H6 _ I6 q6) λf s7 q=>?_);have again:∀{j:St} {k:Hp},Inv X _ j k s7->N j k->∃m,m<n/\∃i z H',Inv X a z H' s7/\tn i _/\(∀b∈G,H' b=b6)/\W i m z H':=λ{j k} l n7=>by
   have(m',hm,w7):=hN j k n7;show#[m',hm,i+1,j,k,l.mG,T.keep _ _ _ Y λb c o e=>(l.pin (b,o) (p6 _ (p6 _ (fT c e)))).1,λb c=>?_,w7];have(o,e,d):=T.obj _ _ Y b c;show(l.pin _ (p6 _ (p6 _ (fT c e)))).2.1
  cases f with
  |brk=>have(j,k,l,q):=q;show#[j,k,l.mG,q]
  |ret v=>have(x7,j,k,l,r7,q):=q;show#[x7,j,k,l.mG,r7,q]
  |_=>have(j,k,l,n7):=q;show again l n7
@[reducible]noncomputable def R2:=V->V->Hp->VK->Prop
abbrev NG(X:Cx)(f:hY->hY->Sem hY)(r:R2):Prop :=
 ∀(a:↑(k7×Obj)) (s:k9) (σ:St) (H:Hp) (x y:V) (v u:hY) (Q:VK),Inv X a σ H s->RelV x v->RelV y u->r x y H Q ->
  (fx (gj X.prog X.w) X.A) (f v u) (EP X a σ Q) X.xe s
abbrev eE(X:Cx)(f:hY)(r:↑V->Hp->VK->Prop):Prop :=
 ∀(a:↑(k7×Obj)) (s:k9) (σ:St) (H:Hp) (xs:↑V) (us:↑hY) (Q:VK),Inv X a σ H s->Vals xs us->r xs H Q ->
  (fx (gj X.prog X.w) X.A) (TN f us) (EP X a σ Q) X.xe s
abbrev Ll(X:Cx)(r:V->Hp->(Bool->Hp->Prop)->Prop):Prop :=
 ∀(a:↑(k7×Obj)) (s:k9) (σ:St) (H:Hp) (x:V) (v:hY) (Q:Bool->Hp->Prop),Inv X a σ H s->RelV x v->r x H Q ->
  (fx (gj X.prog X.w) X.A) (truthy v) (TP X a σ Q) X.xe s
abbrev rI(C:Int->Int->Prop)(g:Int->Int->V):R2:=λx y H Q=>∃i j,x=.int i/\y=.int j/\C i j/\Q (g i j) H
abbrev QX(g:Int->Int->V):R2:=λx y H Q=>∃i j,x=.int i/\y=.int j/\Q (g i j) H
def U0{g:Int->Int->Int}
  (rule:∀i j t u s Q E,C i j->Q (.int (g i j) s.toks) {s with toks:=s.toks+1}->(fx (gj X.prog X.w) X.A) (f (.int i t) (.int j u)) Q E s) :
  NG X f (rI C λi j=>.int (g i j)):=by
 intro a s σ H x y v u Q I b c h;have(i,j,rfl,rfl,d,q):=h;have(t,rfl):=b;have(t',rfl):=c;show rule i j t t' s _ _ d #[.int _,H,I.tok _,#[_,rfl],q]
def JE{g:Int->Int->Int}
  (rule:∀i j t u s Q E,Q (.int (g i j) s.toks) {s with toks:=s.toks+1}->(fx (gj X.prog X.w) X.A) (f (.int i t) (.int j u)) Q E s) :
  NG X f (QX λi j=>.int (g i j)):=by
 intro a s σ H x y v u Q I b c h;have(i,j,rfl,rfl,q):=h;have(t,rfl):=b;have(t',rfl):=c;show rule i j t t' s _ _ #[.int _,H,I.tok _,#[_,rfl],q]
def DI{g:Int->Int->Bool}
  (rule:∀i j t u s Q E,Q (.bool (g i j)) s->(fx (gj X.prog X.w) X.A) (f (.int i t) (.int j u)) Q E s) :
  NG X f (QX λi j=>.bl (g i j)):=by
 intro a s σ H x y v u Q I b c h;have(i,j,rfl,rfl,q):=h;have(t,rfl):=b;have(t',rfl):=c;show rule i j t t' s _ _ #[.bl _,H,I,rfl,q]
abbrev Lm(i j:Int):Prop:=0<j/\j<1073741824
abbrev Ln(i j:Int):Prop:=0<=j/\j<=1000000/\i.natAbs<2 ^ 64
abbrev G3(i j:Int):Prop:=(-(2 ^ 64)<i/\i<2 ^ 64)\/(-(2 ^ 64)<j/\j<2 ^ 64)
def G3.ok(h:G3 i j):IntMulOk i j:=by
 rcases h with⟨a,b⟩|⟨a,b⟩
 .show .of_left (intBits_le_64 a b)
 .show .of_right (intBits_le_64 a b)
def fU:NG X (WM .Add) (QX λi j=>.int (i+j)):=JE λ_ _ _ _ _ _ _ q=>add_int q
def mH:NG X (WM .Sub) (QX λi j=>.int (i - j)):=JE λ_ _ _ _ _ _ _ q=>sub_int q
def qt:NG X (WM .Mult) (rI G3 λi j=>.int (i * j)):=U0 λ_ _ _ _ _ _ _ a q=>mul_int q a.ok
def DJ:NG X (WM .FloorDiv) (rI Lm λi j=>.int (i / j)):=U0 λi j _ _ _ _ _ a q=>by
 have b:=a.1;have c:=a.2;show floordiv_int ⋯ (by rw[Int.fdiv_eq_ediv_of_nonneg i ⋯];show q) (.inl (PyProof.noPylong_small ⋯))
def cS:NG X (WM .Mod) (rI (λ_ j=>0<j) λi j=>.int (i % j)):=U0 λi j _ _ _ _ _ a q=>by
 show mod_int' ⋯ (by rw[Int.fmod_eq_emod_of_nonneg i ⋯];show q)
def qu:NG X (WM .Pow) (rI Ln λi j=>.int (i ^ j.toNat)):=U0 λ_ _ _ _ _ _ _ a q=>pow_int_small a.1 a.2.1 a.2.2 q
def Af(I:Inv X a σ H s)(q:Q (.bl k) H)(e:k=k'):EP X a σ Q (.bool k') s:=by
 subst e;show#[.bl k,H,I,rfl,q]
def JF:NG X (RW .Lt) (QX λi j=>.bl (dV (i<j))):=DI λ_ _ _ _ _ _ _ q=>lt_int q
def JG:NG X (RW .LtE) (QX λi j=>.bl (dV (i<=j))):=DI λ_ _ _ _ _ _ _ q=>le_int q
def JH:NG X (RW .Gt) (QX λi j=>.bl (dV (j<i))):=DI λ_ _ _ _ _ _ _ q=>gt_int q
def JI:NG X (RW .GtE) (QX λi j=>.bl (dV (j<=i))):=DI λ_ _ _ _ _ _ _ q=>ge_int q
def yJ:NG X (RW .In) (λx y H Q=>∃i j,x=.str i/\y=.str j/\Q (.bl (!(MG j i 0 ⇑j 1).isEmpty)) H):=by
 intro a s σ H x y v u Q I b c h;have(i,j,rfl,rfl,q):=h;have(t,rfl):=b;have(t',rfl):=c;show in_str (Af I q rfl)
def G4:NG X (RW .Is) (λx y H Q=>y=.Mc/\Q (.bl (dV (x=.Mc))) H):=by
 intro a s σ H x y v u Q I b c h;have(rfl,q):=h;cases c;show is_none_gen (Af I q ?_);cases x<;>first
  |(rfl)
  |(have(t,rfl):=b;rfl)
abbrev JJ(K:W.Frag)(x:V)(H:Hp)(k:Bool):Prop :=
 match x with
 |.Mc=>k=cK
 |.bl b=>k=b
 |.int i=>k=(i != 0)
 |.str y=>⇑y<=dt/\k=((⇑y:Int) != 0)
 |.UT y=>y.size<=dt/\k=((y.size:Int) != 0)
 |.ref p=>(∃xs,Mz K H p xs/\k=!xs.isEmpty)\/(∃xs,MA K H p xs/\k=!xs.isEmpty)\/∃kvs,H p≈.dK kvs/\k=!kvs.isEmpty
 |_=>False
def uR(r:KV kvs vs):(!vs.isEmpty)=!kvs.isEmpty:=by
 cases r<;>rfl
def mI(r:Vals xs its):(!its.toArray.isEmpty)=!xs.isEmpty:=by
 cases r<;>simp
def fV:(dt:Nat)<2 ^ 63:=⋯
def G5:Ll X (λx H Q=>∃k,JJ X.K x H k/\Q k H):=by
 intro j s σ H x v Q I d h;have(k,e,q):=h;have hl:=fV;have hs:dt=16777216:=sizeLine_eq;cases x with
 |Mc =>
  cases d;have a:k=cK:=e;subst a;show truthy_none #[H,I,q]
 |bl b =>
  cases d;have a:k=b:=e;subst a;show Q5 #[H,I,q]
 |int i =>
  have(t,rfl):=d;have a:k=(i != 0):=e;subst a;show PySem.P.truthy_int #[H,I,q]
 |str y =>
  have(t,rfl):=d;obtain⟨l,a⟩:⇑y<=dt/\k=((⇑y:Int) != 0):=e;subst a;show PySem.P.truthy_str ⋯ #[H,I.tok _,q]
 |UT y =>
  have(t,rfl):=d;obtain⟨l,a⟩:y.size<=dt/\k=((y.size:Int) != 0):=e;subst a;show W.truthy_bytes ⋯ #[H,I.tok _,q]
 |ref p =>
  cases d;have a:=e;rcases a with⟨xs,f,a⟩|⟨xs,f,a⟩|⟨kvs,f,a⟩
  .subst a;have(its,r,g,hz):=I.list f;have c:=⇑r;show wpAny_truthy_list g.isList (by simp only[ri];lia) #[H,I.tok _,by rw[mI r];show q]
  .subst a;have(its,r,g,hz):=I.tuple f;have c:=⇑r;show truthy_tuple g (by simp only[ri];lia) #[H,I.tok _,by rw[mI r];show q]
  .subst a;obtain⟨hz,n,vs,r,m⟩:⇑kvs<=dt/\(p==OV)=cK/\∃vs,KV kvs vs/\s.heap.DictOf (aH X.prog X.w) p vs:=I.L7 p _ f;have c:⇑kvs=⇑vs:=Paired.length r;show wpAny_truthy_dict n m ⋯ #[H,I.tok _,by rw[uR r];show q]
 |_=>show(show False from e).elim
def Ag(d:PE X a e)(f:∀b,isTrue a X.env b=(do let v <-b;İ a.pos;Sm [v] (truthy v))):
  PT X a (λσ H Q=>e σ H λx H'=>∃k,JJ X.K x H' k/\Q k H'):=by
 intro c s σ H Q I h;show isTrue_plain (Mb (d c s σ H _ I h) λv s1 ⟨x,g,i,j,l⟩=>G5 c s1 σ g x v Q i j l) (f _)
def uS:NG X (WM .Add) (λx y H Q=>∃i j,x=.str i/\y=.str j/\⇑i+⇑j<=dt/\Q (.str (i++j)) H):=by
 intro a s σ H x y v u Q I b c h;have(i,j,rfl,rfl,hz,q):=h;have(t,rfl):=b;have(t',rfl):=c;show add_str (λt' d=>#[.str _,H,I.tok _,#[_,rfl],q]) hz
def vals1(r:Vals [x] us):∃u,us=[u]/\RelV x u:=by
 cases r with
 |cons a b=>cases b;show#[_,rfl,a]
def vals2(r:Vals [x,y] us):∃u a,us=[u,a]/\RelV x u/\RelV y a:=by
 cases r with
 |cons b c =>
  cases c with
  |cons d e=>cases e;show#[_,_,rfl,b,d]
def yK(c:X.calm=cb):eE X (.builtin "max") (λxs H Q=>∃i j,xs=[.int i,.int j]/\Q (.int (if j>i then j else i)) H):=by
 intro b s σ H xs us Q I r h;have(i,j,rfl,q):=h;have(u,d,rfl,(t,rfl),(t',rfl)):=vals2 r;show max_two_ints (I.ok.hd c) λh' e k=>#[_,H,I.kept k,?_,q]
 by_cases a:j>i
 .rw[if_pos a,if_pos a];show#[_,rfl]
 .rw[if_neg a,if_neg a];show#[_,rfl]
def yL(c:X.calm=cb):eE X (.builtin "min") (λxs H Q=>∃i j,xs=[.int i,.int j]/\Q (.int (if j<i then j else i)) H):=by
 intro b s σ H xs us Q I r h;have(i,j,rfl,q):=h;have(u,d,rfl,(t,rfl),(t',rfl)):=vals2 r;show min_two_ints (I.ok.hd c) λh' e k=>#[_,H,I.kept k,?_,q]
 by_cases a:j<i
 .rw[if_pos a,if_pos a];show#[_,rfl]
 .rw[if_neg a,if_neg a];show#[_,rfl]
def yM:eE X (.type "int") (λxs H Q=>(∃i,xs=[.int i]/\Q (.int i) H)\/∃k,xs=[.bl k]/\Q (.int (if k then 1 else 0)) H):=by
 intro a s σ H xs us Q I r h;rcases h with⟨i,rfl,q⟩|⟨k,rfl,q⟩
 .have(u,rfl,t,rfl):=vals1 r;show call_int_int #[.int i,H,I,#[_,rfl],q]
 .have(u,rfl,b):=vals1 r;cases b;show call_int_bool #[.int _,H,I.tok _,#[_,rfl],q]
def qv:eE X (.type "str") (λxs H Q=>∃i,xs=[.int i]/\i.natAbs.log2<1920/\Q (.str (toString i)) H):=by
 intro a s σ H xs us Q I r h;have(i,rfl,hz,q):=h;have(u,rfl,t,rfl):=vals1 r;show PySem.P.str_of_int hz #[.str _,H,I.tok _,#[_,rfl],q]
def lH.some_of(r:lH (bD v) o):∃u,o≈u/\RelV v u:=by
 cases o with
 |none=>show(r).elim
 |some u=>show#[u,rfl,r]
structure Cls(K:W.Frag)(C:k7):Prop where
 pg:W.plainGet K C rr=cb
 hd:W.hasDictIn K C=cb
 po:W.plainOver K C=cb
 sa:W.findIn K (.ref C) "__setattr__"≈bD (.builtin "object.__setattr__")
inductive mJ(K:W.Frag)(H:Hp):V->hY->Prop where
 |Mc:mJ K H .Mc (.type "NoneType")
 |bl (x:Bool):mJ K H (.bl x) (.type "bool")
 |int (i:Int):mJ K H (.int i) (.type "int")
 |str (x:Str):mJ K H (.str x) (.type "str")
 |UU (x:UInt64):mJ K H (.UU x) (.type "float")
 |lst {a:k7} {xs:↑V} (e:H a≈.lst xs):mJ K H (.ref a) (.type "list")
 |MN {a:k7} {o:Obj} {xs:↑V} (e:H a≈.MN o (.lst xs)):mJ K H (.ref a) (.type "list")
 |tup {a:k7} {xs:↑V} (e:H a≈.tup xs):mJ K H (.ref a) (.type "tuple")
 |dK {a:k7} {kvs:↑(Key×V)} (e:H a≈.dK kvs):mJ K H (.ref a) (.type "dict")
 |dT {a:k7} {kvs:↑(↑Key×V)} (e:H a≈.dT kvs):mJ K H (.ref a) (.type "dict")
 |ins {a C dx:k7} {fs:↑(Str×V)} (e:H a≈.ins C dx fs) (cl:Cls K C) (ha:W.findIn K (.ref C) "__class__"≈bD (.builtin "object.__class__"))
   (hn:W.specialIn K (.builtin "object.__class__") "__get__"≈bD (.builtin "getset_descriptor.__get__")) (U1:W.takesIn K (.builtin "object.__class__")≈cb)
   (hm:W.mroIn K C (.type "object")≈cb):mJ K H (.ref a) (.ref C)
structure iP(k:Nat)(A:YJ):Prop where
 hd:A.handled=b6
 dp:A.depth+3 * k+5<recursionLimit
 un:A.units+16 * k+200<MJ
 gd:A.guards≈[]
def iP.deeper(r:iP (k+1) A)(env):iP k (A.deeper env) :=
 #[r.hd,by have:=r.dp;change A.depth+1+3 * k+5 < _;lia,by have:=r.un;change A.units+3+16 * k+200 < _;lia,r.gd]
def iP.depth(r:iP k A):A.depth<recursionLimit:=by have:=r.dp;lia
abbrev Lo:TA:=λ_ H Q=>Q [] H
abbrev JK(a:TE)(b:TA):TA:=λσ H Q=>a σ H λx c=>b σ c λxs d=>Q (x::xs) d
def mK:PA X [] Lo:=λ_ _ _ _ H Q I h=>X' #[[],H,I,.nil,h]
def hJ(b:PE X e c)(d:PA X es t)(hs:mn (e::es) X.env=(cK,K1 e X.env)::mn es X.env:=by rfl):PA X (e::es) (JK c t):=by
 intro pos a s σ H Q I h;rw[hs];show U3 (Mb (b a s σ H _ I h) λu s1 f=>?_);have(x,g,i,j,k):=f;show Mb (d pos a s1 σ g _ i k) λus p ⟨xs,l,m,n,o⟩=>#[_,l,m,.cons j n,o]
@[reducible]noncomputable def Sp:=↑V->Hp->VK->XK->Prop
@[reducible]noncomputable def SD:=↑Env->Hp->k9->XK->hY->k9->Prop
structure DK(P:vl)(w:OE)(K:W.Frag)(mg:Str->Option hY)(base:Qy)(A:YJ)(outer:↑Env)(s:k9)(H:Hp):Prop where
 frames:A.frames≈outer
 mod:Mod K mg base
 bs:∀b o,base.get? b≈o->s.heap.get? b≈o/\H b=b6
 QT:base.objs.size<=↥s
 mB:s.heap.FunFrames base outer
 Sv:∀b∈OJ outer,H b=b6
 L7:Nc P w H s.heap
 bare:Ç s.gens
abbrev CE(outer:↑Env)(P:vl)(w:OE)(H:Hp)(s:k9)(Q:VK)(u:hY)(a:k9):Prop :=
 ∃v H',a.os=s.os/\Ç a.gens/\Un (OJ outer) [] H H' s.heap a.heap/\Nc P w H' a.heap/\RelV v u/\Q v H'
abbrev CR(b:SD)(outer:↑Env)(P:vl)(w:OE)(H:Hp)(s:k9)(Q:VK)(E:XK)(r:Result)(a:k9):Prop :=
 match r with
 |.ok (.ret u)=>CE outer P w H s Q u a
 |.ok _=>False
 |.error e=>b outer H s E e a
structure oP(P:vl)(w:OE)(K:W.Frag)(mg:Str->Option hY)(base:Qy)(CX:SD)(k:Nat)(f:k7)(fd:ß)(ps:↑Str)(sp:Sp):Prop where
 len:∀vs H Q E,sp vs H Q E->⇑vs=⇑ps
 run:∀(A:YJ) (outer:↑Env) (s:k9) (H:Hp) (args:Args) (us:↑hY) (vs:↑V) (Q:VK) (E:XK),iP k A->DK P w K mg base A outer s H->ŭ s fd args (ps.zip us)->Vals vs us->sp vs H Q E ->
  WL (gj P w) A (.call (.ref f) args) (CR CX outer P w H s Q E) s
def Inv.Lp(I:Inv X a σ H s):DK X.prog X.w X.K X.mg X.base X.A X.stack s H :=
 #[I.ok.frames,I.ok.mod,I.bs,H8 I.ok.QT I.sz,I.stack,I.wD,I.L7,I.bare]
def Inv.after(I:Inv X a σ H s)(h:CE X.stack X.prog X.w H s Q u e):EP X a σ Q u e:=by
 have(v,H',os,c,f,i,r,q):=h;have(hh,g,d,t,j):=e;obtain rfl:j=s.os:=os;show#[v,H',I.call      f i c (λb z=>absurd z ⋯),r,q]
abbrev Binds(K:W.Frag)(a:ß)(ps:↑Str)(ds:↑hY):Prop :=
 ∀(s:k9) (us:↑hY),K.In s.heap->⇑(us++ds)=⇑ps->ŭ s a #[us,[]] (ps.zip (us++ds))
def Binds.all{K}(h:∀us,⇑us=⇑ps->bindArgs a #[us,[]]=pure (ps.zip us)):Binds K a ps []:=λs us _ hl=>by
 rw[Ot]at hl ⊢;show .of_eq (h us hl)
abbrev Passes(c:SD)(X:Cx)(E:XK):Prop:=∀(a:↑(k7×Obj)) (σ:St) (H:Hp) (s:k9) (e:hY) (b:k9),Inv X a σ H s->c X.stack H s E e b->X.xe e b
def G6(F:oP X.prog X.w X.K X.mg X.base g k f i ps j)(l:iP k X.A)(m:Binds X.K i ps ds)(n:Vals b ds)(o:Passes g X E)
  (I:Inv X a σ H s) (r:Vals vs us) (h:j (vs++b) H Q E):(fx (gj X.prog X.w) X.A) (TN (.ref f) us) (EP X a σ Q) X.xe s:=by
 have d:=r.append n;have hl:⇑(us++ds)=⇑ps:=by rw[<-⇑d];show F.len _ _ _ _ h
 show wpAny_call (Á (F.run X.A _ s H _ _ _ Q E l I.Lp (m s us I.Sw hl) d h) λr p c=>?_);cases r with
 |error e=>show o a σ H s e p I c
 |ok q =>
  cases q with
  |ret u=>show I.after c
  |cont=>assumption
  |_=>show Wj c
structure eT(N P:↑Str)(sc:TH):Prop where
 kind:sc.kind=.function
 co:sc.isCoroutine=cK
 gen:sc.isGenerator=cK
 nd:N.Nodup
 pre:N.take ⇑P=P
 par:∀x∈P,sc.names.lookup x≈.local\/sc.names.lookup x≈.cell
 Rv:∀y∈sc.names,y.2≠.free
theorem ph{kindOf}:∀{a}{m},(∀v,(x,v)∉a)->Ο kindOf a m x=m x
 |[],_,_=>rfl
 |(n,v)::r,m,h=>by
  unfold Ο;rw[ph λw b=>h w (ke _ b)];split
  .have:x≠n:=by rintro rfl;show h v kj
   simp[this]
  .rfl
theorem pj{kindOf}:∀{a}{m},(∀v,(x,v)∉a)->Ρ kindOf a m x=m x
 |[],_,_=>rfl
 |(n,v)::r,m,h=>by
  unfold Ρ;rw[pj λw b=>h w (ke _ b)];split
  .rfl
  .have:x≠n:=by rintro rfl;show h v kj
   simp[this]
theorem pk{kindOf}:∀{P:↑Str}{vs}{i:Nat}{m},P.Nodup->P[i]?≈x->vs[i]?≈v->kindOf x≈.local ->
  Ο kindOf (P.zip vs) m x≈v
 |[],_,_,_,_,h,_,_=>by simp at h
 |_::_,[],_,_,_,_,h,_=>by simp at h
 |p::P,w::vs,0,m,a,b,c,hk=>by
  simp at b c;subst b;subst c;change Ο _ ((p,w)::P.zip vs) m p=_;unfold Ο;rw[ph λv d=>(qb.mp a).1 (W9 d).1,if_pos hk];simp
 |p::P,w::vs,i+1,m,a,b,c,hk=>by
  unfold Ο;show pk  (qb.mp a).2 (by assumption) (by assumption) hk
theorem pq{kindOf}:∀{P:↑Str}{vs}{i:Nat}{m},P.Nodup->P[i]?≈x->vs[i]?≈v->kindOf x≠bD .local ->
  Ρ kindOf (P.zip vs) m x≈v
 |[],_,_,_,_,h,_,_=>by simp at h
 |_::_,[],_,_,_,_,h,_=>by simp at h
 |p::P,w::vs,0,m,a,b,c,hk=>by
  simp at b c;subst b;subst c;change Ρ _ ((p,w)::P.zip vs) m p=_;unfold Ρ;rw[pj λv d=>(qb.mp a).1 (W9 d).1,if_neg hk];simp
 |p::P,w::vs,i+1,m,a,b,c,hk=>by
  unfold Ρ;show pq  (qb.mp a).2 (by assumption) (by assumption) hk
abbrev start(N:↑Str)(vs:↑V):St:=vs.map bD++hZ (⇑N - ⇑vs) b6
abbrev sE(d:SD)(P:vl)(w:OE)(K:W.Frag)(mg:Str->Option hY)(base:Qy)(N:↑Str)(a:Str)(scope:TH)(f:k7)(b:hY)(A:YJ)(outer:↑Env)(s:k9)(H:Hp)(E:XK):Cx where
 prog:=P
 w:=w
 K:=K
 mg:=mg
 base:=base
 A:=A.deeper (à a scope ↥s f b)
 N:=N
 s₀:=s
 H₀:=H
 env:=à a scope ↥s f b
 outer:=outer
 stack:=à a scope ↥s f b::outer
 ex:=[]
 calm:=cb
 fn:=λ_=>cb
 pn:=[]
 xe:=λe g=>fx (gj P w) (A.deeper (à a scope ↥s f b)) (leaving (à a scope ↥s f b) e) (λ_ c=>d outer H s E e c) (λh c=>d outer H s E h c) g
def sF{a:TH}(h:a.names.lookup x≈.cell):∃c,(Si n a.names []).lookup x≈c:=by
 have q:=W.cellsFrom_some _ n [] (.inl h);show Yc.mp q
def yN{K}
  (S:eT N ps scope) (C:A.handled=b6) (d:DK P w K mg base A outer s H) (hl:⇑vs=⇑ps) (r:Vals vs us)
  (x:InCallC s ↥s (Ο (à a scope ↥s f m).kindOf (ps.zip us) λ_=>b6) (Si (↥s+1) scope.names []) (Ρ (à a scope ↥s f m).kindOf (ps.zip us) λ_=>b6) s1) :
  Inv (sE D P w K mg base N a scope f m A outer s H E) [] (start N vs) H s1:=by
 have I:⇑ps<=⇑N:=by have:=congrArg K2 S.pre;grind
 have(l,J,rfl,hk):=x.done;have o:∀b:k7,b∉(sE D P w K mg base N a scope f m A outer s H E).ex:=λb z=>absurd (show b∈([]:↑k7) from z) ⋯;show#[#[d.mod,S.kind,rfl,rfl,gi _,λy z c l g=>?_,λy hy=>?_,λy c _ h=>?_,λ_=>C,Around.frames_deeper d.frames,.inr #[rfl,rfl],λb z=>absurd z (o b),d.bs,d.QT,λb _ _=>o b,λb z=>absurd z (o b),d.mB,d.Sv],
  rfl,d.bare,Un.kept hk,#[_,x.toInCall.ns,λi y v l g L=>?_],λy c h=>#[_,x.cell y c h],d.L7.fresh (gi _),λy c h=>?_,λp j=>absurd (show p∈([]:↑(k7×Obj)) from j) ⋯,d.L7.kept hk,?_]
 .show name_of_addr x.apart (PySem.mem_of_lookup l) (PySem.mem_of_lookup g)
 .rcases hy with hy|hy
  .show sF hy
  .show absurd rfl (S.Rv _ (PySem.mem_of_lookup hy))
 .show Rt (x.above y c (PySem.mem_of_lookup h))
 .have hi:i<⇑vs:=by
   unfold start at g;by_cases hi:i<⇑vs
   .show hi
   .rw[sx (by simpa using hi)]at g;rw[SA]at g;simp_all
  have G:vs[i]?≈v:=by
   unfold start at g;rw[vr (by simpa using hi),hU]at g;simp_all
  have(u,t,rv):=r.get G;have j:ps[i]?≈y:=by
   rw[<-S.pre,ġ ⋯];show l
  have B:ps.Nodup:=by rw[<-S.pre];show S.nd.sublist (ŷ _ _)
  show#[u,rv,?_];rcases S.par y (k8 j) with k|k
  .show .inl #[k,pk B j t k]
  .have(c,e):=sF (n:=↥s+1) k;show .inr #[.inl k,c,e,?_];have q:=x.cell y c e;rw[pq B j t (by change scope.names.lookup y≠_;rw[k];decide)]at q;show q
 .show d.L7.fresh (Rt (x.above y c (PySem.mem_of_lookup h)))
 .unfold start;change _=⇑N;simp_all
def JL{K:W.Frag}{B kV g C d ct O}
 (lk:K.lookup f≈#[O,od,.func (W.fnOf name a c body scope B kV g C T d ct),SE]) (Y:W.codeIn K d a=cb) (S:eT N ps scope)
    (h:∀vs H Q E,D vs H Q E->⇑vs=⇑ps)
    (PL:∀A outer s H vs Q E,iP k (A.deeper (à a scope ↥s f d))->D vs H Q E ->
      ∃t,Nh (sE m P w K mg base N a scope f d A outer s H E) body t/\t {nx:=λ_ H'=>Q .Mc H',rt:=Q} (start N vs) H) :
    oP P w K mg base m (k+1) f (W.fnOf name a c body scope B kV g C T d ct) ps D:=by
  show#[h,λA outer s H args us vs Q E p i hb r G=>?_];have hl:=h _ _ _ _ G;have L:=i.mod.VQ.keeps λb o e=>(i.bs b o e).1;have lim:=i.mod.nolimit.keeps λb o e=>(i.bs b o e).1;have Tt:∀y∈ps.zip us,scope.names.lookup y.1≈.local\/(scope.names.lookup y.1≈.cell/\((Si (↥s+1) scope.names []).lookup y.1).isSome=cb):=λ⟨n,v⟩ hy=>by
    rcases S.par n (W9 hy).1 with q|q
    . show .inl q
    . show .inr #[q,W.cellsFrom_some _ _ _ (.inl q)]
  show codeAny_call_function p.depth (L _ _ lk) rfl S.co S.gen rfl (W.codeRec_of L Y) (hb _ _ _ _ ?_);show wpAny_newFunctionEnv_cells S.kind Tt λenv he s1 x=>?_;subst he;show#[lim.keeps x.toInCall.keep,codeAny_func ?_];have(t,ht,hq):=PL A outer s H vs Q E (p.deeper _) G;have I:Inv (sE m P w K mg base N a scope f d A outer s H E) [] (start N vs) H s1:=yN S p.hd i hl r x;show vu (ht [] s1 (start N vs) H _ I hq) (λfl z hs=>?_) λe z hs=>hs;have j:∀{l:St} {H':Hp} {v:V} {u:hY},Inv (sE m P w K mg base N a scope f d A outer s H E) [] l H' z->RelV v u->Q v H'->CE outer P w H s Q u z :=
    λ{l H' v u} J rv q=>#[v,H',J.os,J.bare,J.base,J.L7,rv,q]
  cases fl with
  | ret u =>
    have(v,l,H',J,rv,q):=hs;show j J rv q
  | next =>
    have(l,H',J,q):=hs;show j (v:=V.Mc)  J rfl q
  | brk =>
    have(_,_,_,q):=hs;show Wj q
  | cont =>
    have(_,_,_,q):=hs;simp_all
end L2
namespace HT
open PySem PyProof.Rows
section
open PySem.SeqAt
open PySem.AutoSeq1 (wpAny_loadPart')
open PySem.MeetsSeq PySem.MeetsSeq2 PySem.MeetsSeq3
end
abbrev NT(n d:Nat):Option Int->Nat
 |none=>d
 |some v=>if v<0 then(v+(n:Int)).toNat else min v.toNat n
def Ah(n d):NT n d b6=d:=rfl
def qw(n d k:Nat):NT n d (bD (k:Int))=min k n:=by
 rfl
end HT
namespace L2
open PySem PySem.Spec PyProof.Rows
@[reducible]noncomputable def TO:=St->Hp->(Option Int->Hp->Prop)->Prop
abbrev PO(X:Cx)(e:Option p7)(t:TO):Prop :=
 ∀(a:↑(k7×Obj)) (s:k9) (σ:St) (H:Hp) (Q:Option Int->Hp->Prop),Inv X a σ H s->t σ H Q ->
  (fx (gj X.prog X.w) X.A) (evalPart e X.env) (λu b=>∃o H',Inv X a σ H' b/\IsPart u o/\Q o H') X.xe s
abbrev DL:TO:=λ_ H Q=>Q b6 H
abbrev JM(t:TE):TO:=λσ H Q=>t σ H λx a=>∃i,x=.int i/\Q (bD i) a
section
variable{X:Cx}{e:p7}{te:TE}{lo hi:Option p7}{tl th:TO}{pos p2:Pos}
def DM:PO X b6 DL:=by
 intro a s σ H Q I h;show cL #[b6,H,I,.none,h]
def DN(h:PE X e te):PO X (bD e) (JM te):=by
 intro a s σ H Q I b;show Mb (h a s σ H _ I b) λu s1 c=>?_;have(x,d,f,g,j):=c;have(i,rfl,q):=j;have(t,rfl):=g;show#[_,d,f,.int i t,q]
abbrev QY(X:Cx)(r:V->Option Int->Option Int->Hp->VK->Prop):Prop :=
 ∀(a:↑(k7×Obj)) (s:k9) (σ:St) (H:Hp) (x:V) (v b c:hY) (lo hi:Option Int) (d:k7) (Q:VK),Inv X a σ H s->RelV x v->s.heap.IsSliceOf d b c .none->IsPart b lo->IsPart c hi->r x lo hi H Q ->
  ∃T id,Z9 (.type T) "__getitem__"=pure (bD (.builtin id))/\s.TypeIs v T/\(fx (gj X.prog X.w) X.A) (ć v (.ref d)) (EP X a σ Q) X.xe s
def QY.or(h:QY X r)(h':QY X j):QY X (λx lo hi H Q=>r x lo hi H Q\/j x lo hi H Q):=by
 intro a s σ H x v b c lo hi d Q I f hs g i q;rcases q with q|q
 .show h a s σ H x v b c lo hi d Q I f hs g i q
 .show h' a s σ H x v b c lo hi d Q I f hs g i q
abbrev tSl(r:V->Option Int->Option Int->Hp->VK->Prop)(te:TE)(tl th:TO):TE:=λσ H Q=>te σ H λx a=>tl σ a λl b=>th σ b λu c=>r x l u c Q
def Ai(i:QY X r)(j:PE X e te)(hl:PO X lo tl)(k:PO X hi th):PE X (.Subscript e (.Slice lo hi b6 p2) pos) (tSl r te tl th):=by
 intro a s σ H Q I h;show ϟ (Mb (j a s σ H _ I h) λv s1 m=>?_);have(x,n,o,p,t):=m;show wpAny_Slice (Mb (hl a s1 σ n _ o t) λc w ⟨l,y,z,A,B⟩=>Mb (k a w σ y _ z B) λd f C=>?_);have(u,g,D,G,J):=C;show cL ?_;have L:Inv X a σ g {f with heap:=f.heap.push {cls:=.type "slice",data:=.fields #v[c,d,.none]}}:=D.kept  λb ob q=>cc _ q;have(T,id,N,O,Y):=i a _ σ g x v c d l u _ Q L p (ϰ ..) A G J;show ξ  O N Y (by rfl)
abbrev Aj(xs:↑V)(lo hi:Option Int):↑V:=(xs.drop (HT.NT ⇑xs 0 lo)).take (HT.NT ⇑xs ⇑xs hi - HT.NT ⇑xs 0 lo)
def sG(xs)(lo hi):⇑(Aj xs lo hi)<=⇑xs:=by
 unfold Aj;rw[Wo,Wq];lia
end
abbrev PM(n:Nat)(i:Int):Option Nat:=if 0<=i then(if i<n then bD i.toNat else b6) else if -(n:Int)<=i then bD (i+n).toNat else b6
abbrev MB{α:Type}(xs:↑α)(i:Int):Option α:=(PM ⇑xs i).bind λj=>xs[j]?
def wI{n}(h:PM n i≈j):seqIndex? i n≈j/\j<n/\-(n:Int)<=i/\i<n:=by
 unfold PM at h;by_cases h0:0<=i
 .rw[if_pos h0]at h;by_cases a:i<n
  .rw[if_pos a]at h;have e:=Qb h;show#[by rw[Λ h0 a,e],⋯,⋯,a]
  simp_all
 .rw[if_neg h0]at h;by_cases a:-n<=i
  .rw[if_pos a]at h;have e:=Qb h;show#[by rw[seqIndex_neg ⋯ a,e],⋯,a,⋯]
  simp_all
def qx(h:MB xs i≈v):∃j,seqIndex? i ⇑xs≈j/\xs[j]?≈v/\j<⇑xs/\-(⇑xs:Int)<=i/\i<⇑xs:=by
 unfold MB at h;cases e:PM ⇑xs i with
 |none=>simp_all
 |some j =>
  rw[e]at h;have(a,b,c,d):=wI e;show#[j,a,h,b,c,d]
def b7{j:Nat}(h:xs[j]?≈v):MB xs (j:Int)≈v:=by
 have a:=(eH.mp h).1;have e:PM ⇑xs j≈j:=by
  unfold PM;simp_all
 unfold MB;rw[e];show h
abbrev qy(b:p7):Prop:=∀o i,Ĝ b cK o i=operate [o,i] (ć o i)
abbrev Wf(X:Cx)(r:R2):Prop :=
 ∀(c a:p7) (b:↑(k7×Obj)) (s:k9) (σ:St) (H:Hp) (x y:V) (v u:hY) (Q:VK),Inv X b σ H s->RelV x v->RelV y u->r x y H Q ->
  Ĝ a cK v u=operate [v,u] (ć v u)->(fx (gj X.prog X.w) X.A) (subscriptTail c a v u) (EP X b σ Q) X.xe s
abbrev Rw(X:Cx)(id:String)(r:V->↑V->Hp->VK->Prop):Prop :=
 ∀(a:↑(k7×Obj)) (s:k9) (σ:St) (H:Hp) (x:V) (xs:↑V) (v:hY) (us:↑hY) (Q:VK),Inv X a σ H s->RelV x v->Vals xs us->r x xs H Q ->
  (fx (gj X.prog X.w) X.A) (TN (.builtin id) (v::us)) (EP X a σ Q) X.xe s
section
abbrev Lq(K:W.Frag):R2:=λx y H Q=>∃p xs i v,x=.ref p/\y=.int i/\Mz K H p xs/\MB xs i≈v/\Q v H
abbrev Ls(K:W.Frag):R2:=λx y H Q=>∃p xs i v,x=.ref p/\y=.int i/\MA K H p xs/\MB xs i≈v/\Q v H
abbrev Lu:R2:=λx y H Q=>∃z i c,x=.str z/\y=.int i/\⇑z<=dt/\MB (z.cps.toList) i≈c/\Q (.str #[#v[c]]) H
def DO:Wf X (Lq X.K):=by
 intro c d a s σ H x y v u Q I m n h hs;have(p,xs,i,z,rfl,rfl,A,B,q):=h;cases m;have(t,rfl):=n;have(its,r,f,hz):=I.list A;have(j,k,C,L,D,G):=qx B;have(w,l,J):=r.get C;have hl:=⇑r;have N:=fV;have b:EP X a σ Q w s:=#[z,H,I,J,q]
 by_cases h0:0<=i
 .have g:i.toNat=j:=by
   rw[Λ h0 G]at k;simp_all
  show item_listR f.isList h0 ⋯ (by rw[g];simpa using l) b hs
 .have g:(i+(its.toArray.size:Int)).toNat=j:=by
   rw[seqIndex_neg ⋯ D]at k;simp_all
  show Ů  f.isList.typeIs Ϩ.lookup
   (wpAny_getItem_list_neg  f.isList ⋯ ⋯ ⋯ (by rw[g];simpa using l) #[rfl,b]) hs
def c7:Wf X (Ls X.K):=by
 intro b c a s σ H x y v u Q I g k h hs;have(p,xs,i,z,rfl,rfl,l,m,q):=h;cases g;have(t,rfl):=k;have(its,r,f,hz):=I.tuple l;have(j,C,n,D,G,J):=qx m;have(w,A,B):=r.get n;have hl:=⇑r;have L:=fV;have d:EP X a σ Q w s:=#[z,H,I,B,q]
 show Ů  f.typeIs slot_tuple_getitem.lookup
  (getItem_tuple (j:=j)  f ⋯ ⋯ ⋯ (by simpa using A) #[rfl,d]) hs
def mL:Wf X Lu:=by
 intro a b d s σ H x y v u Q I g k h hs;have(z,i,c,rfl,rfl,hz,l,q):=h;have(t,rfl):=g;have(t',rfl):=k;have(j,f,m,w,n,p):=qx l;have hl:⇑z.cps.toList=⇑z:=by rfl
 rw[hl]at f n p;have A:=fV;show ξ (VV s z t) aad.lookup (getItem_str  (by
  grind) (by rw[f];simpa using m) #[.str _,H,I.tok _,#[_,rfl],q]) hs
def uT(its:↑hY)(n j)(u):uv (·.setIfInBounds j u) {cls:=.type "list",data:=.seq its.toArray n}={cls:=.type "list",data:=.seq (its.set j u).toArray n}:=by
 simp[uv]
def Inv.lst(I:Inv X a σ H s)(h:H p≈.lst xs):
  ∃its n,Vals xs its/\s.heap.get? p≈{cls:=.type "list",data:=.seq its.toArray n}/\⇑xs<=dt:=by
 have(z,its,n,r,e):=I.L7 p _ h;show#[its,n,r,e,z]
def Inv.G7{its its':↑hY}(I:Inv X a σ H s)(h:H p≈.lst xs)
  (ho:s.heap.get? p≈{cls:=.type "list",data:=.seq its.toArray n}) (c:f {cls:=.type "list",data:=.seq its.toArray n}={cls:=.type "list",data:=.seq its'.toArray d }) (r:Vals g its') (hz:⇑g<=dt) (t) :
  Inv X a σ (upd H p (.lst g)) {s with heap:=s.heap.update p f,toks:=t}:=by
 have e:(s.heap.update p f).get? p≈{cls:=.type "list",data:=.seq its'.toArray d }:=by
  rw[sL f ho (by rw[c]<;>rfl),c]
 show I.write   (by rw[h];trivial) (.inl rfl) (λb u i q=>(Th _ _ (ve i)).trans q) ⟨_,e⟩ ?_;show#[hz,its',d,r,e]
abbrev JN:V->V->V->Hp->(Hp->Prop)->Prop:=λo i v H Q=>∃p xs k j,o=.ref p/\i=.int k/\H p≈.lst xs/\PM ⇑xs k≈j/\Q (upd H p (.lst (xs.set j v)))
def set_list:mF X JN:=by
 intro a s σ H o i v x y u Q I f g rv h;have(p,xs,k,j,rfl,rfl,b,l,q):=h;cases f;have(t,rfl):=g;have(its,n,r,ho,hz):=I.lst b;have(c,z,m,w):=wI l;have hl:=⇑r;have A:=fV;have d :=
  I.G7 b ho (uT its n j u) (r.set rv j) ⋯ s.toks
 by_cases h0:0<=k
 .have hk:k.toNat=j:=by
   rw[Λ h0 w]at c;simp_all
  show W.ki_setAt ho h0 ⋯ ⋯ (by rw[hk];show#[_,d,q])
 .have hk:(k+its.toArray.size).toNat=j:=by
   rw[seqIndex_neg ⋯ m]at c;simp_all
  show W.ki_setBack ho ⋯ ⋯ ⋯ (by rw[hk];show#[_,d,q])
def qz(lo hi)(n):(Y9 lo hi b6 n).1=((HT.NT n 0 lo:Nat):Int)/\(Y9 lo hi b6 n).2.1=((HT.NT n n hi:Nat):Int)/\(Y9 lo hi b6 n).2.2=1:=by
 show#[?_,?_,rfl]
 .cases lo with
  |none=>simp[Y9,HT.NT]
  |some i =>
   simp only[Y9,HT.NT,ş,show(1:Int)>0 by decide,if_true];by_cases h:i<0
   .simp only[h,if_true]<;>lia
   .simp only[h,if_false]<;>lia
 .cases hi with
  |none=>rfl
  |some i =>
   simp only[Y9,HT.NT,ş,show(1:Int)>0 by decide,if_true];by_cases h:i<0
   .simp only[h,if_true]<;>lia
   .simp only[h,if_false]<;>lia
def oQ(its:↑hY)(lo hi):slicePick its.toArray lo hi b6=((its.drop (HT.NT ⇑its 0 lo)).take (HT.NT ⇑its ⇑its hi - HT.NT ⇑its 0 lo)).toArray:=by
 have(a,b,c):=qz lo hi _;unfold slicePick;rw[a,b,c];simp only[sliceRange_one,pick_run]<;>rfl
abbrev JO(K:W.Frag):V->Option Int->Option Int->Hp->VK->Prop:=λx lo hi H Q=>∃a xs,x=.ref a/\Mz K H a xs/\∀p,H p=b6->Q (.ref p) (upd H p (.lst (Aj xs lo hi)))
def DP:QY X (JO X.K):=by
 intro d s σ H x v l m lo hi n Q I g hs i j h;have(a,xs,rfl,k,q):=h;cases g;have(its,r,f,hz):=I.list k;have c:=⇑r;show#[_,_,Ϩ.lookup,f.isList.typeIs,?_];show wpAny_getItem_list_slice f.isList hs i j .none ⋯ ?_ ⋯;rw[oQ,<-c];show#[.ref _,_,I.laid   (λb p q=>cc _ q) (gi _) ?_,rfl,q _ (I.L7.fresh (gi _))];show#[H8 (sG xs lo hi) hz,_,0,(r.drop _).take _,eW _ rfl]
def qA:NG X (RW .NotIn) (λx y H Q=>∃i j,x=.str i/\y=.str j/\Q (.bl (!(!(MG j i 0 ⇑j 1).isEmpty))) H):=by
 intro a s σ H x y v u Q I b c h;have(i,j,rfl,rfl,q):=h;have(t,rfl):=b;have(t',rfl):=c;show notIn_str #[.bl _,H,I,rfl,q]
def jr:eE X (.builtin "len") (λxs H Q=>∃p b,xs=[.ref p]/\(Mz X.K H p b\/MA X.K H p b)/\Q (.int ⇑b) H):=by
 intro f s σ H xs us Q I r h;have(p,b,rfl,hq,q):=h;have(u,rfl,g):=vals1 r;cases g;have i:=fV;rcases hq with hq|hq
 .have(its,c,d,hz):=I.list hq;have a:=⇑c;show Calls.call_len_list d.isList (by simp only[ri]<;>lia) #[.int _,H,I.tok _,#[_,by rw[ri,a]],q]
 .have(its,c,d,hz):=I.tuple hq;have a:=⇑c;show len_tuple d (by simp only[ri]<;>lia) #[.int _,H,I.tok _,#[_,by rw[ri,a]],q]
def qB:eE X (.builtin "len") (λxs H Q=>∃z,xs=[.str z]/\⇑z<=dt/\Q (.int ⇑z) H):=by
 intro a s σ H xs us Q I r h;have(z,rfl,hz,q):=h;have(u,rfl,t,rfl):=vals1 r;have b:=fV;show len_str ⋯ #[.int _,H,I.tok _,#[_,rfl],q]
def js:eE X (.type "list") (λxs H Q=>∃p a,xs=[.ref p]/\(Mz X.K H p a\/MA X.K H p a)/\∀l,H l=b6->Q (.ref l) (upd H l (.lst a))):=by
 intro f s σ H xs us Q I r h;have(p,a,rfl,hq,q):=h;have(u,rfl,x):=vals1 r;cases x;have g:∀(its:↑_),Vals a its->⇑a<=dt->∀(h':Qy) (d:Nat),(∀b o',s.heap.get? b≈o'->h'.get? b≈o') ->
   h'.get? _≈_->EP X f σ Q _ _:=λits c hz h' d i e =>
  #[.ref _,_,I.laid (t':=s.toks) i (gi _) (show bN _ X.w _ h' _ (.lst a) from#[hz,its,d,c,e]),rfl,q _ (I.L7.fresh (gi _))]
 rcases hq with hq|hq
 .have(its,c,k,hz):=I.list hq;have j:=⇑c;have(o,ho,m,n,v):=k.isList;show call_list_seq p (.inl rfl) ho m v (λh' d i e=>g its c hz h' d i e) ⋯
 .have(its,c,k,hz):=I.tuple hq;have j:=⇑c;have(o,ho,m,n,v):=k;show call_list_seq p (.inr rfl) ho m v (λh' d i e=>g its c hz h' d i e) (by simp<;>lia)
def iF:eE X (.type "tuple") (λxs H Q=>∃p a,xs=[.ref p]/\((Mz X.K H p a/\∀l,H l=b6->Q (.ref l) (upd H l (.tup a)))\/(MA X.K H p a/\Q (.ref p) H))):=by
 intro g s σ H xs us Q I r h;have(p,a,rfl,h):=h;have(u,rfl,k):=vals1 r;cases k;rcases h with⟨c,q⟩|⟨c,q⟩
 .have(its,d,f,hz):=I.list c;have i:=⇑d;show call_tuple_list f.isList (λh' m=>?_) ⋯;have j:=I.kept (t':=s.toks) m;have n :=
   j.laid (t':=s.toks) (λb o e=>cc _ e) (gi _) (show bN _ X.w _ _ _ (.tup a) from#[hz,its,d,IsTup.new _ _])
  show#[.ref _,_,n,rfl,q _ (j.L7.fresh (gi _))]
 .have(its,d,f,hz):=I.tuple c;show call_tuple_same f #[.ref p,H,I,rfl,q]
abbrev U2(K:W.Frag)(T:String)(x:V)(H:Hp):Prop:=match x with
 |.str _=>T="str"
 |.int _=>T="int"
 |.ref p=>(T="list"/\∃xs,Mz K H p xs)\/(T="tuple"/\∃o,K.lookup p≈o/\o.cls=.type "tuple"/\o.dict=b6) \/
   (T="dict"/\((∃kvs,H p≈.dK kvs)\/∃kvs,H p≈.dT kvs))\/(T="set"/\∃S n,H p≈.set S n)
 |_=>False
def qC(I:Inv X g σ H s)(r:RelV x v)(b:U2 X.K T x H):
  s.TypeIs v T/\∀a,v=.ref a->∃h,s.heap.get? a≈h/\h.dict=b6:=by
 cases x with
 |str z =>
  have(t,rfl):=r;cases(b);show#[VV s z t,λ_ e=>nomatch e]
 |int i =>
  have(t,rfl):=r;cases(b);show#[ĸ s i t,λ_ e=>nomatch e]
 |ref p =>
  cases r;rcases b with⟨rfl,xs,k⟩|⟨rfl,o,hk,l,d⟩|⟨rfl,hk⟩|⟨rfl,S,n,hk⟩
  .have(its,_,j,_):=I.list k;show#[j.isList.typeIs,λa e=>?_];cases e;have(o,n,e,c,d,_):=j;show#[o,e,d]
  .show#[#[o,I.Sw p o hk,l],λa e=>?_];cases e;show#[o,I.Sw _ o hk,d]
  .have z:∃o,s.heap.get? p≈o/\o.ExactDict:=by
    rcases hk with⟨kvs,hk⟩|⟨kvs,hk⟩
    .have(_,_,_,_,o,_,_,e,ex,_):=I.L7 p _ hk;show#[o,e,ex]
    .have(_,_,_,_,o,_,_,e,ex,_):=I.L7 p _ hk;show#[o,e,ex]
   have(o,e,ex):=z;show#[#[o,e,ex.1],λa f=>?_];cases f;show#[o,e,ex.2.1]
  .have(o,_,_,_,e,ex,_):=I.L7 p _ hk;show#[#[o,e,ex.1],λa f=>?_];cases f;show#[o,e,ex.2.1]
 |_=>show Wj b
abbrev Lv(K:W.Frag)(T:String)(r:V->↑V->Hp->VK->Prop)(to:TE):TE:=λσ H Q=>to σ H λx a=>U2 K T x a/\r x [] a Q
abbrev tBM(K:W.Frag)(T:String)(r:V->↑V->Hp->VK->Prop)(to:TE)(t:TA):TE:=λσ H Q=>to σ H λx a=>U2 K T x a/\t σ a λxs b=>r x xs b Q
variable{o e:p7}{es:List p7}{to:TE}{t:TA}{name:Str}{apos A':Pos}{T id:String}{r:V->List V->Hp->VK->Prop}
def G8(d:PlainAttrs T)(slot:Slot T name id)(f:ϗ (.builtin id)=pure (.type "method_descriptor"))(g:Rw X id r)(ho:PE X o to)
  (i:Ug o name X.env (K1 o X.env)=K1 o X.env:=by rfl) (j:(apos.endLine==A'.line)=cb:=by rfl):PE X (.Call (.Attribute o name apos) [] [] A') (Lv X.K T r to):=by
 intro a s σ H Q I h;show Wg i j (Mb (ho a s σ H _ I h) λv s1 k=>?_);have(x,l,b,c,m,n):=k;have(p,q):=qC b c m;show#[T,id,d,slot,f,p,q,MH rfl (PySem.evalArgs_none (g a s1 σ l x [] v [] Q b c .nil n))]
def Ak(f:PlainAttrs T)(slot:Slot T name id)(g:ϗ (.builtin id)=pure (.type "method_descriptor"))(i:Rw X id r)(ho:PE X o to)(j:PA X (e::es) t)
  (k:Ug o name X.env (K1 o X.env)=K1 o X.env:=by rfl)
  (l:((RN A' (mn (e::es) X.env)).all (λx=>!x.1)&&(XO A' (TV [] X.env)).all (λx=>x.1.isSome)
   && dV (⇑(e::es)+⇑([]:↑Uw)+(if ([]:↑Uw).isEmpty then 0 else 1)<30))=cb:=by rfl)
  (m:(apos.endLine==A'.line)=cb:=by rfl) (hs:mn (e::es) X.env=(cK,K1 e X.env)::mn es X.env:=by rfl) (G:(RN A' (mn es X.env)).any (·.1)=cK:=by rfl) :
  PE X (.Call (.Attribute o name apos) (e::es) [] A') (tBM X.K T r to t):=by
 intro a s σ H Q I h;show ţ k l m rfl (Mb (ho a s σ H _ I h) λv s1 n=>?_);have(x,p,b,c,q,u):=n;have(w,y):=qC b c q;show#[T,id,f,slot,g,w,y,?_];have d:=j A' a s1 σ p _ b u;rw[hs]at d ⊢;show MH (by assumption) (Ub ?_);show Mb d λus z ⟨vs,A,B,C,D⟩=>i a z σ A x vs v us Q B c C D
end
abbrev Wi(X:Cx)(id:String)(r:V->↑V->Hp->VK->Prop):Prop :=
 ∀(a:↑(k7×Obj)) (s:k9) (σ:St) (H:Hp) (x:V) (xs:↑V) (v:hY) (us:↑hY) (Q:VK),Inv X a σ H s->RelV x v->Vals xs us->r x xs H Q ->
  (fx (gj X.prog X.w) X.A) (TN (.builtin id) (v::us)) (EP X a σ Q) X.xe s
theorem Vals.one:∀{x}{us},Vals [x] us->∃u,us=[u]/\RelV x u
 |_,_,.cons r .nil=>#[_,rfl,r]
theorem Vals.zero:∀{us},Vals [] us->us=[]
 |_,.nil=>rfl
def Vals.dropLast(h:Vals xs us):Vals xs.dropLast us.dropLast:=by
 induction h with
 |nil=>show .nil
 |cons r t a =>
  cases t with
  |nil=>show .nil
  |cons q t'=>show .cons r a
def Vals.reverse(h:Vals xs us):Vals xs.reverse us.reverse:=by
 induction h with
 |nil=>show .nil
 |cons r t a=>rw[Ys,Ys];show Vals.append a (.cons r .nil)
theorem Vals.rep(h:Vals xs us):∀k,Vals (hZ k xs).flatten (hZ k us).flatten
 |0=>.nil
 |k+1=>by
  show Vals.append h (Vals.rep h k)
theorem foldl_rep(its:↑hY):∀k a,
  List.foldl (λb c=>b++c) a.toArray (hZ k its.toArray)=(a++(hZ k its).flatten).toArray
 |0,a=>by simp
 |k+1,a=>by
  have e:a.toArray++its.toArray=(a++its).toArray:=⋯
  have d:(a++its)++(hZ k its).flatten=a++(hZ (k+1) its).flatten:=by
   rw[Î,VP,T5]
  rw[<-d,<-foldl_rep its k _,<-e,Î,Zl]
def Inv.iQ{its its':↑hY}(I:Inv X a σ H s)(c:H l≈.lst xs)
  (e:s.heap.get? l≈{cls:=.type "list",data:=.seq its.toArray n}) (d:f its.toArray=its'.toArray) (g:Vals b its') (hz:⇑b<=dt) :
  Inv X a σ (upd H l (.lst b)) {s with heap:=s.heap.update l (uv f),toks:=t' }:=by
 have q:=PySem.IsL.update e f;rw[d]at q;show I.write   (by rw[c];show ttt) (.inl rfl) (λj u h i=>(Th _ _ (ve h)).trans i) ⟨_,q⟩ ?_;show#[hz,its',_,g,q]
def Inv.JP(I:Inv X a σ H s)(c:Vals b its)(hz:⇑b<=dt):
  Inv X a σ (upd H ↥s (.lst b)) {s with heap:=s.heap.push {cls:=.type "list",data:=.seq its.toArray},toks:=t' } :=
 I.laid (λ_ _ q=>cc _ q) (gi _) ⟨hz,its,0,c,eW _ rfl⟩
def Inv.fresh(I:Inv X a σ H s):H ↥s=b6:=I.L7.fresh (gi _)
inductive YQ(s:k9)(l:k7)(xs:↑V):Prop
 |mk (hz:⇑xs<=dt) (its:↑hY) (n:Nat):Vals xs its->⇑xs=⇑its->s.heap.get? l≈{cls:=.type "list",data:=.seq its.toArray n}->YQ s l xs
def Inv.G9(I:Inv X a σ H s)(b:H l≈.lst xs):YQ s l xs:=by
 have(z,its,n,r,e):=I.L7 l _ b;show#[z,its,n,r,⇑r,e]
def sH(h:n<=dt):OT n=cK:=by
 unfold OT;simp_all
abbrev DQ:V->↑V->Hp->VK->Prop:=λx vs H Q=>∃l xs y,x=.ref l/\vs=[y]/\H l≈.lst xs/\⇑xs<dt/\Q .Mc (upd H l (.lst (xs++[y])))
def pv:Wi X "list.append" DQ:=by
 intro a s σ H x vs v us Q I c rv h;have(l,xs,y,rfl,rfl,b,hz,q):=h;cases c;have(u,rfl,d):=rv.one;have(z,its,n,r,hl,e):=I.G9 b;show SV F.slot_list_append #[_,e,rfl] F.entry_list_append (F.args_list_append_2 _ _) (PySem.list_append l its.toArray n u ⋯) #[e,?_];show#[.Mc,_,I.iQ (its':=its++[u]) b e ⋯ (r.append (.cons d .nil)) ?_,rfl,q]
 grind
abbrev Lw:V->↑V->Hp->VK->Prop:=λx vs H Q=>∃l xs y,x=.ref l/\vs=[]/\H l≈.lst xs/\xs[⇑xs - 1]?≈y/\Q y (upd H l (.lst xs.dropLast))
def G_:Wi X "list.pop" Lw:=by
 intro b s σ H x vs v us Q I d rv h;have(l,xs,y,rfl,rfl,c,f,q):=h;cases d;have a:=rv.zero;subst a;have(z,its,n,r,hl,e):=I.G9 c;have(u,j,g):=r.get f;have i:its.toArray[its.toArray.size - 1]?≈u:=by
  simp_all
 show SV F.slot_list_pop #[_,e,rfl] F.entry_list_pop (F.args_list_pop_1 _) (MeetsSeq.list_pop_last l its.toArray n u i ⋯) #[e,?_];show#[y,_,I.iQ  c e ?_ r.dropLast ?_,g,q]
 .simp
 .rw[List.length_dropLast];lia
def len_rep(xs:↑α)(k:Nat):(hZ k xs).flatten.length=k * ⇑xs:=by
 simp
section
set_option maxRecDepth 100000 in
end
end L2
namespace YR
open PySem PySem.W PySem.Calls PyProof.Rows
def lJ:∀c vs,WellAll P h vs (c.map WData.int)->ų vs c:=by
 intro c;induction c with
 |nil =>
  intro vs w;cases w;show .nil
 |cons n c d =>
  intro vs w;cases w with
  |cons a b =>
   cases a;show .cons _ _ (d _ b)
def yO{l:OpenLaw}(i:l.most≈n)
  (g:l.row.toRowW.claim.pre args=cb) (j:WellAll P h vals args) :
  ∃a vs b,vals=[gs a]/\args=[WData.list (b.map WData.int)]/\h.get? a≈{cls:=.type "list",data:=.seq vs.toArray}/\ų vs b/\⇑b<=n:=by
 have f:WShape.hasAll [] args _=cb:=(pre_splitW g).1;have k:=(pre_splitW g).2;have(d,r,rfl,m,o):=hasAllW_cons f;obtain rfl:=hasAllW_nil o;have(xs,rfl,p):=hasW_list m;have(b,rfl):=items_int p;have c:⇑b<=n:=by
  have e:=by
   have e:=(holds_andW k).1;rw[i]at e;show e
  have u:=condW_of e (w_not (w_lt w_lit (w_len_list (w_arg rfl))));simp_all
 cases j with
 |cons q s =>
  cases s;cases q with
  |list ho t=>show#[_,_,b,rfl,rfl,ho,lJ b _ t,c]
def yP(l:OpenLaw)(args):l.row.toRowW.claim.post args (.bool cb) args=cb :=
 postW_of
  (show WShape.has [] _ _=cb by rfl)
  (w_eq_bool (w_res rfl) w_lit) rfl
def sI{l:OpenLaw}
  (u:l.most≈n) (v:d.params.defaults=[])
  (TN:∀w s₀ b mg m fa o p i c a vs j,
   Ground q e [] x w s₀ mg m b.heap->y w b.heap ->
   b.heap.get? fa≈o->o.data=.func (docDef d.name d.params d.body d.scope p i c)->b.heap.CodeRec i d.name->mg d.name≈.ref fa ->
   b.heap.get? a≈{cls:=.type "list",data:=.seq vs.toArray}->ų vs j->⇑j<=n->b.gens=#v[] ->
   WL (gj l.prog w) Â (.call (.ref fa) #[[.ref a],[]]) (λr k=>r=.ok (.ret (.bool cb))/\OldK b.heap k.heap/\k.os=b.os/\Ç k.gens) b) :
  WalkO q e x y l.row.toRowW d [] (λf vs=>PySem.call f vs):=by
 intro w s₀ b mg m G Y fa o p i c z kV ho A B s C D args vals as H t Rz I J;obtain rfl:z=.none:=Dflts.none s v;obtain rfl:kV=.none:=Dflts.noKw s;have(a,vs,j,rfl,rfl,L,g,h):=yO u H I;show enter_call (Á (TN w s₀ b mg m fa o p i c a vs j G Y ho (fd_plain A) B C L g h D) λr k N=>?_);have(rfl,O,Q,T):=N;show#[.inl #[_,_,[],rfl,λ_=>rfl,.bool cb,yP l _,λ_=>#[aai,λ_ hm=>(nomatch hm)]],O,Q,T]
end YR
namespace L2
open PySem PySem.Spec PyProof.Rows
theorem pw:∀{vs}{a},ų vs a->Vals (a.map V.int) vs
 |_,_,.nil=>.nil
 |_,_,.cons n t h=>.cons #[t,rfl] (pw h)
abbrev Ha(H:Hp):Prop:=∀b,H b=b6\/∃o xs,H b≈.MN o (.lst xs)
def Al{K}
  (A:K.In c.heap) (B:c.heap.Ns O_ mg) (g:c.heap.Ns Ļ C) (N:∀x:Str,x≠"__name__"->C x=I0 x) (O:c.heap.NoLimit) (Q:c.gens=#v[])
  (y:c.heap.get? a≈{cls:=.type "list",data:=.seq vs.toArray}) (hi:ų vs p) (hl:⇑p<=dt) (T:iP k Â)
  (F:∀base:Qy,K.In base->base.Ns O_ mg->oP P w K mg base Y k fa fd [x] sp) (Tv:∀s u,ŭ s fd #[[u],[]] [(x,u)])
  (NO:∀H:Hp,Ha H->Mz K H a (p.map V.int)->sp [.ref a] H (λv _=>v=.bl cb) λ_ _ _=>False)
  (Wl:∀H e f,Y [] H c (λ_ _ _=>False) e f->False) :
  WL (gj P w) Â (.call (.ref fa) #[[.ref a],[]]) (λr f=>r=.ok (.ret (.bool cb))/\OldK c.heap f.heap/\f.os=c.os/\Ç f.gens) c:=by
 have rv:=pw hi;have Wm:=⇑hi;have i:∀H:Hp,Ha H->Mz K H a (p.map V.int)->Nc P w H c.heap->(∀b,H b≠b6->b=a)->(H a≠b6->K.lookup a=b6) ->
   WL (gj P w) Â (.call (.ref fa) #[[.ref a],[]]) (λr f=>r=.ok (.ret (.bool cb))/\OldK c.heap f.heap/\f.os=c.os/\Ç f.gens) c:=by
  intro H D hS G hA hK;have lY:∀{b:k7} {o:Obj},c.heap.get? b≈o->H b=b6->(qo c.heap H).get? b≈o:=λe n=>zV e n;have Ts:∀{b:k7} {o:Obj} {es:Array DictEntry} {ep:Nat},c.heap.get? b≈o->o.data=.dict es ep->H b=b6:=λ{b o es ep} e d=>by
   grind
  have t:∀{b:k7} {m:Str->Option hY},c.heap.Ns b m->(qo c.heap H).Ns b m:=λ{b m} ⟨o,es,ep,e,d,r⟩=>#[o,es,ep,lY e (Ts e d),d,r]
  have I:K.In (qo c.heap H):=λb o e=>lY (A b o e) (by
   grind)
  have hM:Mod K mg (qo c.heap H):=#[I,t B,#[C,t g,N],let ⟨mc,h1,h2⟩:=O;⟨mc,t h1,h2⟩]
  have e0:DK P w K mg (qo c.heap H) Â [] c H:=#[rfl,hM,λb o e=>Dz e,ì (yE _ _),ttt,λb g=>absurd (show b∈([]:↑k7) from g) ⋯,G,.of_eq Q]
  show Á ((F _ I (t B)).run Â [] c H #[[.ref a],[]] [.ref a] [.ref a] _ _ T e0 (Tv c (.ref a)) (.cons rfl .nil) (NO H D hS)) λr f h=>?_;cases r with
  |error e=>show(Wl H e f h).elim
  |ok fl =>
   cases fl with
   |ret u =>
    have(v,H',os,j,J,Wn,r',q):=h;have q':v=.bl cb:=q;subst q';obtain rfl:u=Ñ cb:=r';show#[rfl,OldK.of_keep λb o e=>?_,os,j];cases q:H b with
    |none=>show J.keep b o e q (by intro z;show absurd (show b∈([]:↑k7) from z) ⋯) ⋯
    |some u =>
     rcases D b with z|⟨ob,xs,z⟩
     .rw[q]at z;cases z
     .have z2:=J.NM b ob _ z;have(L,_):=G b _ z;have(e2,_):=Wn b _ z2;rw[e]at L;cases L;show e2
   |_=>show Wj h
 cases hk:K.lookup a with
 |some o =>
  have e:=A a o hk;rw[y]at e;cases e;show i (λ_=>b6) (λ_=>.inl rfl) (.inr #[_,vs.toArray,_,hk,rfl,rfl,rfl,by rw[ri,Wm];show hl,by simpa using rv]) (λb u z=>by have l:(b6:Option HO)≈u:=z;cases l) (λb z=>absurd rfl z) λz=>absurd rfl z
 |none =>
  show i (λb=>if b=a then bD (.MN {cls:=.type "list",data:=.seq vs.toArray} (.lst (p.map V.int))) else b6) (λb=>?_) (.inl (.inr #[{cls:=.type "list",data:=.seq vs.toArray},if_pos rfl])) (λb u z=>?_) (λb z=>?_) λ_=>hk
  .by_cases g:b=a
   .show .inr #[_,_,if_pos g]
   .show .inl (if_neg g)
  .by_cases g:b=a
   .have l:=(if_pos g).symm.trans z;cases l;subst g;show#[y,by rw[df];show hl,vs,_,rv,y]
   .have l:=(if_neg g).symm.trans z;cases l
  simp_all
def DR{l:W.OpenLaw}{K:Ū->W.Frag}{y:OE->SD}{z:OE->Sp}
  (B:l.most≈n) (m:n<=dt) (C:d.params.defaults=[]) (D:iP k Â)
  (I:∀w h,J w h->(K w.params).In h)
  (F:∀w mg fa h,(K w.params).In h->h.Ns O_ mg->mg d.name≈.ref fa ->
   ∃p,(∀s u,ŭ s p #[[u],[]] [(x,u)]) /\
    ∀base,(K w.params).In base->base.Ns O_ mg->oP l.prog w (K w.params) mg base (y w) k fa p [x] (z w))
  (L:∀w H a (j:↑Int),⇑j<=n->Ha H->Mz (K w.params) H a (j.map V.int)->z w [.ref a] H (λv _=>v=.bl cb) λ_ _ _=>False)
  (N:∀w H s e r,y w [] H s (λ_ _ _=>False) e r->False) :
  W.WalkO q t XP J l.row.toRowW d [] (λf vs=>PySem.call f vs):=by
 show YR.sI B C λw s₀ O mg mb fa o pm cd Q a vs j G Y ho hd MO Tu RA i c hg=>?_;have A:=I w _ Y;have(p,hb,hF):=F w mg fa _ A G.T.g Tu;show Al A G.T.g G.T.b G.T.builtins G.T.nolimit hg RA i (H8 c m) D hF hb (λH hO hS=>L w H a j c hO hS) λH e r=>N w H O e r
abbrev hV(s:T'):Arguments:=match s with
 |.FunctionDef _ a _ _ _ _ _ _ _ _=>a
 |_=>{posonlyargs:=[],args:=[],vararg:=b6,kwonlyargs:=[],kw_defaults:=[],kwarg:=b6,defaults:=[]}
abbrev c8(s:T'):↑T':=match s with
 |.FunctionDef _ _ b _ _ _ _ _ _ _=>b
 |_=>[]
abbrev bc(s:T'):TH:=match s with
 |.FunctionDef _ _ _ _ _ _ a _ _ _=>a
 |_=>{kind:=.function,names:=[],isGenerator:=cK,isCoroutine:=cK}
@[reducible]noncomputable def Qc:SD:=λ_ _ _ _ _ _=>False
@[reducible]noncomputable def E0:XK:=λ_ _ _=>False
def JQ:Passes Qc X E0:=λ_ _ _ _ _ _ _ h=>h.elim
structure QZ(K:W.Frag)(x qual:Str)(st:T')(f:k7)(fd:ß):Prop where
 ex:∃(oc:hY) (od:Option k7) (kV doc pm:hY) (an:Option k7) (Ni ct:hY) (SE:Array (Option hY)),
  fd=W.fnOf x qual (hV st) (c8 st) (bc st) .none kV doc pm an Ni ct/\K.lookup f≈#[oc,od,.func fd,SE]/\W.codeIn K Ni qual=cb
 kp:W.keepIn K (.ref f)=cb
section
variable{P:vl}{w:OE}{K:PySem.W.Frag}{mg:Str->Option hY}{base:Qy}
def QZ.ok{st}(F:QZ K x a st f e)(S:eT N ps (bc st))(c:∀vs H Q E,d vs H Q E->⇑vs=⇑ps)
  (g:∀b A outer s H vs Q E,iP k (A.deeper (à a (bc st) ↥s f b))->d vs H Q E ->
   ∃t,Nh (sE Qc P w K mg base N a (bc st) f b A outer s H E).Sy (c8 st) t/\t {nx:=λ_ H'=>Q .Mc H',rt:=Q} (start N vs) H):oP P w K mg base Qc (k+1) f e ps d:=by
 have(n,o,kV,i,p,r,b,ct,u,rfl,lk,j):=F.ex;show JL lk j S c λA outer s H vs Q E l m=>?_;have(t,h,q):=g b A _ s H vs Q E l m;show#[t,h.Sy,q]
def Hb{st}{kV b e d ct}(l:K.lookup f≈#[h,i,.func (W.fnOf x a (hV st) (c8 st) (bc st) .none kV b e g d ct),j])
  (c:W.codeIn K d a=cb) (k:W.keepIn K (.ref f)=cb):QZ K x a st f (W.fnOf x a (hV st) (c8 st) (bc st) .none kV b e g d ct):=#[#[h,i,kV,b,e,g,d,ct,j,rfl,l,c],k]
end
def yQ(h:n<=1000):n<dt:=á h ⋯
abbrev Hc(H H':Hp):Prop:=∀b o,H b≈o->H' b≈o
section
variable{κ:Type}[DecidableEq κ]
abbrev eF(kvs:↑(κ×V))(k:κ):Option V:=(kvs.find? λkv=>dV (kv.1=k)).map (·.2)
abbrev putK(kvs:↑(κ×V))(k:κ)(v:V):↑(κ×V) :=
 if (kvs.any λkv=>dV (kv.1=k))=cb then kvs.map (λkv=>if kv.1=k then(kv.1,v) else kv) else kvs++[(k,v)]
def fi{p}{k:κ}(e:p.1=k):eF (p::r) k≈p.2:=by simp[eF,e]
def fj{p}{k:κ}(e:¬p.1=k):eF (p::r) k=eF r k:=by simp[eF,e]
theorem jt(k:κ):∀kvs,(kvs.any λkv=>dV (kv.1=k))=(eF kvs k).isSome
 |[]=>rfl
 |p::r=>by
  rw[Ϣ];by_cases e:p.1=k
  .simp only[fi e,decide_eq_true e,Bool.true_or,Option.isSome_some]
  .rw[fj e,decide_eq_false e];show jt k r
def kX(kvs)(k:κ)(v:V):⇑(putK kvs k v)<=⇑kvs+1:=by
 unfold putK
 grind
def Am{k:κ}(v)(h:eF kvs k=b6):putK kvs k v=kvs++[(k,v)]:=by
 unfold putK;rw[jt,h];rfl
def lH.fk(r:lH o u):o.isSome=u.isSome:=by
 cases o with
 |none=>cases u with
  |none=>rfl
  |some _=>show(r).elim
 |some _=>cases u with
  |none=>show(r).elim
  |some _=>rfl
def lH.getD(r:lH o u)(a:RelV d d'):RelV (o.getD d) (u.getD d'):=by
 cases o with
 |none=>cases u with
  |none=>show a
  |some _=>show(r).elim
 |some _=>cases u with
  |none=>show(r).elim
  |some _=>show r
def KV.val(r:KV kvs vs)(k:κ):lH (eF kvs k) (į vs k):=by
 induction r with
 |nil=>show Ô
 |@cons p q ps a h t f =>
  have(d,g):=h;by_cases e:p.1=k
  .have c:=d.symm.trans e;have b:į (q::a) k≈q.2:=by simp[į,c]
   rw[fi e,b];show g
  .have c:¬q.1=k:=λz=>e (d.trans z);have b:į (q::a) k=į a k:=by simp[į,c]
   rw[fj e,b];show f
def KV.any(r:KV kvs vs)(k:κ):(kvs.any λkv=>dV (kv.1=k))=vs.any λkv=>dV (kv.1=k):=by
 induction r with
 |nil=>rfl
 |cons h t a=>simp_all
def KV.Hd(r:KV kvs vs)(k:κ)(b:RelV y u):
  KV (kvs.map λkv=>if kv.1=k then(kv.1,y) else kv) (vs.map λkv=>if kv.1=k then(kv.1,u) else kv):=by
 unfold KV at r ⊢;induction r with
 |nil=>show .nil
 |@cons p q ps f h t c =>
  rw[gr,gr];show .cons ?_ c;have(a,d):=h;by_cases e:p.1=k
  .rw[if_pos e,if_pos (a.symm.trans e)];show#[a,b]
  .rw[if_neg e,if_neg (λz=>e (a.trans z))];show#[a,d]
def KV.put(r:KV kvs vs)(k:κ)(a:RelV y u):KV (putK kvs k y) (stored vs k u):=by
 unfold putK stored;rw[r.any k];by_cases e:(vs.any λkv=>dV (kv.1=k))=cb
 .rw[if_pos e,if_pos e];show r.Hd k a
 .rw[if_neg e,if_neg e];show Paired.snoc r #[rfl,a]
def KV.length(r:KV kvs vs):⇑kvs=⇑vs:=Paired.length r
end
def pz(r:RelV (kV k) u):(aH P w).is k u=cb:=by
 cases k with
 |inl i=>have(t,e):=(r);subst e;show sv P w i t
 |inr x=>have(t,e):=(r);subst e;show sy P w x t
theorem pA:∀{ks}{us},Vals (ks.map kV) us->ItemsAre (aH P w) ks us
 |[],_,r=>by cases r;show .nil
 |k::ks,_,r=>by
  cases r with
  |cons h t=>show .cons (pz h) (pA t)
@[reducible]noncomputable def KT(H:Hp):↑(↑Key×V)->↑(↑Key×k7×hY)->Prop:=Paired λp q=>p.1=q.1/\H q.2.1≈.tup (p.1.map kV)/\RelV p.2 q.2.2
def KT.val(r:KT H kvs xs)(k):lH (eF kvs k) ((Ĉ xs k).map (·.2)):=by
 induction r with
 |nil=>show Ô
 |@cons p q ps a h t f =>
  have(d,_,g):=h;by_cases e:p.1=k
  .have c:=d.symm.trans e;have b:Ĉ (q::a) k≈q.2:=by simp[Ĉ,c]
   rw[fi e,b];show g
  .have c:¬q.1=k:=λz=>e (d.trans z);have b:Ĉ (q::a) k=Ĉ a k:=by simp[Ĉ,c]
   rw[fj e,b];show f
def KT.Hd(r:KT H kvs xs)(k)(c:RelV y u):
  KT H (kvs.map λkv=>if kv.1=k then(kv.1,y) else kv) (xs.map (putAt k u)):=by
 induction r with
 |nil=>show .nil
 |@cons p q ps g h t d =>
  rw[gr,gr];show .cons ?_ d;have(a,b,f):=h;unfold putAt;by_cases e:p.1=k
  .rw[if_pos e,if_pos (a.symm.trans e)];show#[a,b,c]
  .rw[if_neg e,if_neg (λz=>e (a.trans z))];show#[a,b,f]
def KT.put(r:KT H kvs xs)(k)(c:H b≈.tup (k.map kV))(a:RelV y u):
  KT H (putK kvs k y) (storedH xs k b u):=by
 have e:(kvs.any λkv=>dV (kv.1=k))=(Ĉ xs k).isSome:=by
  rw[jt,(r.val k).fk,Ø]
 unfold putK storedH;rw[e];by_cases q:(Ĉ xs k).isSome=cb
 .rw[if_pos q,if_pos q];show r.Hd k a
 .rw[if_neg q,if_neg q];show Paired.snoc r #[rfl,c,a]
def KT.keeps(r:KT H kvs xs)(c:∀b a,H b≈.tup a->H' b≈.tup a):KT H' kvs xs :=
 Paired.GL r λ_ _ z=>#[z.1,c _ _ z.2.1,z.2.2]
def F_(ok:Nc P w H h)(e:Rd H a u):bN P w H h a u:=e.ok ok
def kY(ok:Nc P w H h)(e:Rd H a (.dK kvs)):⇑kvs<=dt/\(a==OV)=cK/\∃vs,KV kvs vs/\h.DictOf (aH P w) a vs :=
 F_ ok e
def An(ok:Nc P w H h)(e:H a≈.dK kvs):⇑kvs<=dt/\(a==OV)=cK/\∃vs,KV kvs vs/\h.DictOf (aH P w) a vs:=kY ok (.inl e)
def j_(ok:Nc P w H h)(e:H a≈.tup (ks.map kV)):(Ĕ (aH P w)).is h ks a:=by
 have(_,its,r,o,b,c,n,d):=(ok a _ e)
 show#[o,_,n,b,c,d,by simpa using pA r]
def mM(ok:Nc P w H h)(e:Rd H a (.dT kvs)):⇑kvs<=dt/\(a==OV)=cK /\
  ∃xs,KT H kvs xs/\h.DictOfH (Ĕ (aH P w)) a xs:=by
 have(z,y,xs,r,o,es,ep,b,c,d,f,g):=(F_ ok e)
 show#[z,y,xs,r,o,es,ep,b,c,d,f,λx hx=>?_,g];have all:∀{l:↑_} {m:↑_},KT H l m->∀x∈m,(Ĕ (aH P w)).is h x.1 x.2.1:=by
  intro l m q;induction q with
  |nil=>simp
  |@cons p q ps j k t i =>
   intro x hx;rcases f6.mp hx with e|hx
   .show j_ ok ⋯
   .show i x hx
 show all r x hx
def JR(ok:Nc P w H h)(e:H a≈.dT kvs):⇑kvs<=dt/\(a==OV)=cK /\
  ∃xs,KT H kvs xs/\h.DictOfH (Ĕ (aH P w)) a xs:=mM ok (.inl e)
abbrev fm(H:Hp)(a:k7)(y:V)(r:Option V):Prop :=
 (∃kvs k,Rd H a (.dK kvs)/\y=kV k/\r=eF kvs k)\/∃kvs k b,Rd H a (.dT kvs)/\y=.ref b/\H b≈.tup (k.map kV)/\r=eF kvs k
abbrev yR(H:Hp)(a:k7)(y v:V)(H':Hp):Prop :=
 (∃kvs k,H a≈.dK kvs/\y=kV k/\⇑kvs<dt/\H'=upd H a (.dK (putK kvs k v))) \/
 ∃kvs k b,H a≈.dT kvs/\y=.ref b/\H b≈.tup (k.map kV)/\⇑kvs<dt/\H'=upd H a (.dT (putK kvs k v))
def fm.k{H}{a}{kvs}{k}(e:H a≈.dK kvs):fm H a (kV k) (eF kvs k):=.inl #[kvs,k,.inl e,rfl,rfl]
def yR.k{H}{a}{kvs}{k}{v}(e:H a≈.dK kvs)(hl:⇑kvs<dt):yR H a (kV k) v (upd H a (.dK (putK kvs k v))):=.inl #[kvs,k,e,rfl,hl,rfl]
def Inv.big(I:Inv X a σ H s):OV<↥s:=by
 have h:=(I.mod.glob.keeps I.bk).lt;show Wa ⋯ h
def ka(q:A.units+1<MJ)(I:Inv X f σ H s)(g:fm H a y (bD v))(n:RelV y u)(h:∀d o,Inv X f σ H o->RelV v d->Q d o):
  fx (gj X.prog X.w) A (ć (.ref a) u) Q E s:=by
 rcases g with⟨kvs,k,e,i,l⟩|⟨kvs,k,b,e,i,r,l⟩
 .subst i;have(z,t,vs,c,dd):=kY I.L7 e;have(d,j,m):=lH.some_of   (by rw[l];show c.val k);show wpAny_getItem_of (pz n) dd.mapOf j (h d _ (I.tok _) m)
 .subst i;cases(n);have(z,t,xs,c,dd):=mM I.L7 e;have(d,j,m):=lH.some_of   (by rw[l];show c.val k);have(p,x,B):=eu.mp j;show wpAny_getItem_heap (VW q) (j_ I.L7 r) dd x ?_;rw[B];show h d _ (I.tok _) m
def He(n:A.units+1<MJ)(I:Inv X d σ H s)(g:fm H a y o)(j:RelV y u)(h:∀m,Inv X d σ H m->Q (.bool o.isSome) m):
  fx (gj X.prog X.w) A (RW .In u (.ref a)) Q E s:=by
 rcases g with⟨kvs,k,e,f,l⟩|⟨kvs,k,b,e,f,p,l⟩
 .subst f;have(z,i,vs,c,dd):=kY I.L7 e;show wpAny_in_of (pz j) i dd.mapOf ?_;rw[<-(c.val k).fk,<-l];show h _ (I.tok _)
 .subst f;cases(j);have(z,i,xs,c,dd):=mM I.L7 e;show wpAny_in_heap (VW n) (j_ I.L7 p) i dd ?_;have q:=(c.val k).fk;rw[Ø]at q;rw[<-q,<-l];show h _ (I.tok _)
def qD(n:A.units+1<MJ)(I:Inv X d σ H s)(g:fm H a y o)(j:RelV y u)(h:∀m,Inv X d σ H m->Q (.bool (!o.isSome)) m):
  fx (gj X.prog X.w) A (RW .NotIn u (.ref a)) Q E s:=by
 rcases g with⟨kvs,k,e,f,l⟩|⟨kvs,k,b,e,f,p,l⟩
 .subst f;have(z,i,vs,c,dd):=kY I.L7 e;show wpAny_notIn_of (pz j) i dd.mapOf ?_;rw[<-(c.val k).fk,<-l];show h _ (I.tok _)
 .subst f;cases(j);have(z,i,xs,c,dd):=mM I.L7 e;show aac (VW n) (j_ I.L7 p) i dd ?_;have q:=(c.val k).fk;rw[Ø]at q;rw[<-q,<-l];show h _ (I.tok _)
def wJ(I:Inv X c σ H s)(mu:Td (H a))(hs:p8 a s.heap h')(e:∃q,h'.get? a≈q)(new:bN X.prog X.w (upd H a d) h' a d):
  Inv X c σ (upd H a d) {s with heap:=h',toks:=t' } :=
 I.write   mu (.inl rfl) (λb q f z=>(hs.2 b f).trans z) e new
def Hf(z:⇑kvs<=dt)(c:(a==OV)=cK)(b:KV kvs vs)(dd:h'.DictOf (aH P w) a vs):
  bN P w H' h' a (.dK kvs):=#[z,c,vs,b,dd]
def yS(C:A.units+1<MJ)(I:Inv X f σ H s)(g:yR H a y v H')(p:RelV y u)(rv:RelV v r)(h:∀t,Inv X f σ H' t->Q () t):
  fx (gj X.prog X.w) A (Z_ (.ref a) u r) Q E s:=by
 rcases g with⟨kvs,k,e,m,l,n⟩|⟨kvs,k,b,e,m,x,l,n⟩
 .subst m n;have(z,o,vs,d,dd):=An I.L7 e;have hz:⇑vs<=dt:=by rw[<-⇑d];show z
  have hl:⇑(putK kvs k v)<=dt:=by have:=kX kvs k v;lia
  show wpAny_setItem_pairs (hsz:=hz) (pz p) dd λh' i hs=>h _ ?_;have D:∃q,h'.get? a≈q:=let ⟨q,_,_,j,_⟩:=i;⟨q,j⟩;show wJ I (by rw[e];show Ô) hs D (Hf hl o (d.put k rv) i)
 .subst m n;cases(p);have(z,o,xs,d,dd):=JR I.L7 e;have hz:⇑xs<=dt:=by rw[<-Paired.length d];show z
  have hl:⇑(putK kvs k v)<=dt:=by have:=kX kvs k v;lia
  show ϓ  (VW C) (j_ I.L7 x) dd λh' i hs=>h _ ?_;have(q,es,ep,j,G,J,L,_,N):=i;show wJ I (by rw[e];show Ô) hs #[q,j] #[hl,o,_,(d.put k x rv).keeps λc O B=>?_,q,es,ep,j,G,J,L,N];rw[aj (zU B e (λz=>nomatch z))];show B
abbrev Hg(i:p7):Prop:=∀a b,Ĝ i cK a b=operate [a,b] (ć a b)
def DS{T id}
  (hl:Z9 (.type T) "__getitem__"=pure (bD (.builtin id))) (hs:Hg a)
  (h:fx (gj prog w) A (K1 b env) (λo f=>fx (gj prog w) A (K1 a env) (λi d=>d.TypeIs o T/\fx (gj prog w) A (ć o i) Q E d) E f) E s) :
  fx (gj prog w) A (K1 (.Subscript b a pos) env) Q E s:=by
 show ϟ (vu h (λo f j=>vu j (λi d e=>?_) λ_ _ x=>x) λ_ _ x=>x);have(k,e):=e;show b5 ?_;show b5 (Rr k hl ?_);have c:fx (gj prog w) A (Ĝ a cK o i) (λr g=>fx (gj prog w) A (letTemporaryGo b o r >>= λ_=>pure r) Q E g) E d:=by
  rw[hs o i];show wpAny_operating (vu e (λr g l=>b5 (wpAny_letTemporaryGo (cL l))) λ_ _ x=>x)
 first
  |show cL (b5 c)
  |show b5 _
  |show b5 c
def gG(I:Inv X c σ H s)(g:fm H a y o):s.TypeIs (.ref a) "dict":=by
 rcases g with⟨kvs,k,e,_,_⟩|⟨kvs,k,b,e,_,_,_⟩
 .have(_,_,vs,_,dd):=kY I.L7 e;show dd.typeIs
 .have(_,_,xs,_,dd):=mM I.L7 e;show dd.typeIs
abbrev JS(c d:TE):TE:=λσ H Q=>c σ H λx e=>d σ e λy b=>∃a v,x=.ref a/\fm b a y (bD v)/\Q v b
abbrev Lx(c d:TE):TE:=λσ H Q=>c σ H λy e=>d σ e λx b=>∃a o,x=.ref a/\fm b a y o/\Q (.bl o.isSome) b
abbrev DT(c d:TE):TE:=λσ H Q=>c σ H λy e=>d σ e λx b=>∃a o,x=.ref a/\fm b a y o/\Q (.bl (!o.isSome)) b
def DU(d:X.A.units+1<MJ)(ho:PE X o e)(hi:PE X i f)(hs:Hg i):PE X (.Subscript o i pos) (JS e f):=by
 intro b s σ H Q I h;show DS F.slot_dict_getitem.lookup hs (Mb (ho b s σ H _ I h) λu s1 ⟨x,j,k,l,m⟩=>Mb (hi b s1 σ j _ k m) λz B n=>?_);have(y,p,c,q,a,v,ex,g,r):=n;subst ex;obtain rfl:u=gs a:=l;show#[gG c g,ka d c g q λC D t w=>#[v,p,t,w,r]]
def Hh(c:X.A.units+1<MJ)(hi:PE X i d)(ho:PE X o e):PC X .In i o (Lx d e):=by
 intro b s σ H Q I h;show Mb (hi b s σ H _ I h) λv s1 ⟨y,f,j,k,l⟩=>Mb (ho b s1 σ f _ j l) λu w m=>?_;have(x,n,p,q,a,z,ex,g,r):=m;subst ex;obtain rfl:u=gs a:=q;show He c p g k λB t=>#[.bl _,n,t,rfl,r]
def yT(c:X.A.units+1<MJ)(hi:PE X i d)(ho:PE X o e):PC X .NotIn i o (DT d e):=by
 intro b s σ H Q I h;show Mb (hi b s σ H _ I h) λv s1 ⟨y,f,j,k,l⟩=>Mb (ho b s1 σ f _ j l) λu w m=>?_;have(x,n,p,q,a,z,ex,g,r):=m;subst ex;obtain rfl:u=gs a:=q;show qD c p g k λB t=>#[.bl _,n,t,rfl,r]
def Ao(h:Qy)(a:OV<h.objs.size):bN P w H (h.push {cls:=.type "dict",data:=.dict #v[]}) h.objs.size (.dK []) :=
 #[lx _,beq_eq_false_iff_ne.mpr (ve (gm a)),[],.nil,ĳ h]
abbrev Hi:TE:=λ_ H Q=>∀p,H p=b6->Q (.ref p) (upd H p (.dK []))
def sJ:PE X (.Dict [] [] pos) Hi:=λa s σ H Q I h =>
 ϸ #[.ref _,_,I.laid    (λ_ _ q=>cc _ q) (gi _) (Ao _ I.big),rfl,h _ (I.L7.fresh (gi _))]
structure M1(X:Cx)(o:p7)(m:Str)(apos:Pos)(e:p7)(A':Pos):Prop where
 base:Ug o m X.env (K1 o X.env)=K1 o X.env
 NF:((RN A' (mn [e] X.env)).all (λx=>!x.1)&&(XO A' (TV [] X.env)).all (λx=>x.1.isSome)
  && dV (⇑([e]:↑p7)+⇑([]:↑Uw)+(if ([]:↑Uw).isEmpty then 0 else 1)<30))=cb
 line:(apos.endLine==A'.line)=cb
 trees:RN A' (mn [e] X.env)=[(cK,K1 e X.env)]
structure M2(X:Cx)(o:p7)(m:Str)(apos:Pos)(e f:p7)(A':Pos):Prop where
 base:Ug o m X.env (K1 o X.env)=K1 o X.env
 NF:((RN A' (mn [e,f] X.env)).all (λx=>!x.1)&&(XO A' (TV [] X.env)).all (λx=>x.1.isSome)
  && dV (⇑([e,f]:↑p7)+⇑([]:↑Uw)+(if ([]:↑Uw).isEmpty then 0 else 1)<30))=cb
 line:(apos.endLine==A'.line)=cb
 trees:RN A' (mn [e,f] X.env)=[(cK,K1 e X.env),(cK,K1 f X.env)]
abbrev YU(H:Hp)(a:k7):Prop:=(∃kvs,Rd H a (.dK kvs))\/∃kvs,Rd H a (.dT kvs)
def Hj(I:Inv X i σ H s)(d:YU H a):
  s.TypeIs (.ref a) "dict"/\(∀b,gs a=.ref b->∃c,s.heap.get? b≈c/\c.dict=b6)/\(a==OV)=cK:=by
 rcases d with⟨kvs,e⟩|⟨kvs,e⟩
 .have(_,f,vs,_,dd):=kY I.L7 e;show#[dd.typeIs,λb q=>?_,f];cases q;have(c,_,_,g,h,_):=dd;show#[c,g,h.2.1]
 .have(_,f,xs,_,dd):=mM I.L7 e;show#[dd.typeIs,λb q=>?_,f];cases q;have(c,_,_,g,h,_):=dd;show#[c,g,h.2.1]
def Hk(t:A.units+1<MJ)(I:Inv X f σ H s)(g:fm H a y o)(m:RelV y u)(n:RelV d r)(h:∀p q,Inv X f σ H q->RelV (o.getD d) p->Q p q):
  fx (gj X.prog X.w) A (TN (.builtin "dict.get") [.ref a,u,r]) Q E s:=by
 rcases g with⟨kvs,k,e,i,l⟩|⟨kvs,k,b,e,i,v,l⟩
 .subst i;have(z,j,vs,c,dd):=kY I.L7 e;show Ã F.slot_dict_get dd.typeIs F.entry_dict_get (F.args_dict_get_3 _ _ _) (meets_dict_get_default _ a (pz m) j r) #[_,dd.mapOf,h _ _ (I.tok _) ?_];rw[l];show(c.val k).getD n
 .subst i;cases(m);have(z,j,xs,c,dd):=mM I.L7 e;show Ã F.slot_dict_get dd.typeIs F.entry_dict_get (F.args_dict_get_3 _ _ _) (meetsH_dict_get_default _ a b j r) #[VW t,k,xs,j_ I.L7 v,dd,h _ _ (I.tok _) ?_];rw[l];show(c.val k).getD n
abbrev Hl(d e f:TE):TE:=λσ H Q=>d σ H λx b=>∃a,x=.ref a/\YU b a/\e σ b λy g=>f σ g λz c=>∃o,fm c a y o/\Q (o.getD z) c
def Ap(j:X.A.units+1<MJ)(ho:PE X o k)(l:PE X e n)(p:PE X f q)(m:M2 X o "get" c e f r):PE X (.Call (.Attribute o "get" c) [e,f] [] r) (Hl k n q):=by
 intro b s σ H Q I h;show wpAny_Call_method m.base m.NF m.line F.plainAttrs_dict F.slot_dict_get F.type_dict_get (Mb (ho b s σ H _ I h) λu s1 t=>?_);have(x,v,i,w,a,ex,d,B):=t;subst ex;obtain rfl:u=gs a:=w;have(C,D,_):=Hj i d;show#[C,D,?_];rw[m.trees];show MH rfl (Ub (U3 (Mb (l b s1 σ v _ i B) λiv G ⟨y,J,L,N,O⟩ =>
  U3 (Mb (p b G σ J _ L O) λfv s3 ⟨z,T,Y,rz,ov,g,q3⟩=>X' ?_))))
 show Hk j Y g N rz λw' s4 I4 N_=>#[_,T,I4,N_,q3]
end L2
namespace Mu
open PySem PySem.Builtin.Str PySem.StrLaws
abbrev low(c:Nat):Bool:=dV (97<=c)&&dV (c<=122)
abbrev eU(l:↑Nat):Bool:=dV (1<=⇑l)&&dV (⇑l<=8)&&l.all low
def bM(l):eU l=cb↔1<=⇑l/\⇑l<=8/\∀c∈l,97<=c/\c<=122:=by
 simp[eU,low,and_assoc]
def ju(h:eU l=cb):47∉l:=λm=>by
 have:=((bM l).mp h).2.2 47 m;lia
def eV{x y:Str}(h:(x.cps.toList)=(y.cps.toList)):x=y:=by
 cases x;simp_all
def uU(x)(b:(x.cps.toList)=(fS 26).map (97+·))(c):(!(MG x #[#v[c]] 0 ⇑x 1).isEmpty)=low c:=by
 rw[found_one,b];simp only[low,hW,tj];by_cases h:97<=c/\c<=122
 .have:∃a,a<26/\97+a=c:=#[c - 97,⋯,⋯]
  simp[this,h.1,h.2]
 .have:¬∃a,a<26/\97+a=c:=λ⟨a,d,e⟩=>h #[⋯,⋯];simp[this];lia
def qE(x)(c i):At x #[#v[c]] ⇑x i↔(x.cps.toList)[i]?≈c:=subAt_one x c i
def Aq(h:(x.cps.toList)=a++c::b)(j:c∉a)(d)(hl:1<=d):∃r,MG x #[#v[c]] 0 ⇑x d=⇑a::r:=by
 have f:(x.cps.toList)[⇑a]?≈c:=by rw[h];simp
 rcases occ_head x ⟨#v[c]⟩ d hl with⟨_,k⟩|⟨i,r,e,hi,l⟩
 .show absurd ((qE x c ⇑a).mpr f) (k _)
 .have g:=(qE x c i).mp hi;have:i=⇑a:=by
   rcases ë i ⇑a with z|z|z
   .exfalso
    rw[h,vr z]at g;show j (k8 g)
   .show z
   .show absurd ((qE x c ⇑a).mpr f) (l _ z)
  simp_all
def DV(h:(x.cps.toList)=a++c::b)(d:c∉a):td x #[#v[c]]=(⟨a.toArray⟩,⟨#v[c]⟩,⟨b.toArray⟩):=by
 have(r,e):=Aq h d 1 (gi _);unfold td;rw[e];have f:⇑(⟨#v[c]⟩:Str)=1:=rfl;have g:⇑x=⇑a+1+⇑b:=by
  have:=congrArg K2 h;simp[ė]at this ⊢;lia
 show æ ?_ (æ rfl ?_)
 .apply eV;rw[ŏ,h];simp
 .apply eV;rw[ŏ,h,f,g];simp
def uV(h:c∉(x.cps.toList)):RG x #[#v[c]]=[x]:=by
 unfold RG;split
 .rfl
 .rw[if_pos];rcases occ_head x _ (⇑x+1) ⋯ with⟨e,_⟩|⟨i,r,e,hi,_⟩
  .rw[e];rfl
  .show absurd (k8 ((qE x c i).mp hi)) h
def sM(c)(h:c<256)(x):¬(PySem.Builtin.Str.strKind x<PySem.Builtin.Str.strKind #[#v[c]]):=by
 have e:PySem.Builtin.Str.strKind ⟨#v[c]⟩=1:=by simp[PySem.Builtin.Str.strKind,h]
 rw[e];unfold PySem.Builtin.Str.strKind;split
 .lia
 .split<;>lia
def Ar(h:(x.cps.toList)=a++c::b)(d:c∉a)(f:c<256):∃r,RG x #[#v[c]]=⟨a.toArray⟩::r:=by
 have(r,e):=Aq h d (⇑x+1) ⋯;have j:⇑(⟨#v[c]⟩:Str)=1:=rfl;have k:⇑x=⇑a+1+⇑b:=by
  have:=congrArg K2 h;simp[ė]at this ⊢;lia
 unfold RG;rw[if_neg (by
  have g:¬(⇑x<⇑(⟨#v[c]⟩:Str)):=⋯
  have i:=sM c f x;simp[g,i]),e]
 show#[_,congrArg (·::_) ?_];apply eV;rw[ŏ,h];simp
abbrev iB(i:Int):Str:=Zb (toString i)
abbrev Ga:Str:=#[#v[47]]
def qF(h:a++c::b=p++c::q)(d:c∉a)(e:c∉p):a=p/\b=q:=by
 induction a generalizing p with
 |nil =>
  cases p with
  |nil=>simp at h;show#[rfl,h]
  |cons z p=>simp at h;show absurd (by rw[h.1];show kj) e
 |cons y a f =>
  cases p with
  |nil=>simp at h;show absurd (by rw[h.1];show kj) d
  |cons z p =>
   simp at h;have(g,i):=f h.2 (λm=>d (ke _ m)) (λm=>e (ke _ m));show#[by rw[h.1,g],i]
end Mu
namespace L2
open PySem PySem.Spec PyProof.Rows
abbrev cz(env:Env):↑(Str×Χ)->↑(Str×k7)->↑(Str×k7)
 |[],b=>b
 |(n,k)::r,b=>cz env r (if k==.free then(match env.cells.lookup n with|some a=>(n,a)::b|none=>b) else b)
def fq(h:∀y∈scope.names,y.2=.free->∃a,env.cells.lookup y.1≈a):closureFor scope env=pure (cz env scope.names []):=by
 unfold closureFor;generalize scope.names=names at h
 suffices H:∀b,ϴ _ b _=pure (cz env _ b) by
  have:=H [];show congrArg (λm=>m >>= pure) this
 induction names with
 |nil=>intro b;rfl
 |cons y r e =>
  intro b;have(n,k):=y;rw[W'];have d:=e λy f=>h y (ke _ f);by_cases hk:(k==R0)=cb
  .have(a,g):=h _ kj (by simpa using hk);have c:=g;simp only[hk,cellOf,c,cz];show d _
  .simp only[hk,cz];show d _
theorem fW:∀names b,(∀n c,b.lookup n≈c->env.cells.lookup n≈c)->∀n c,(cz env names b).lookup n≈c->env.cells.lookup n≈c
 |[],_,h=>h
 |(m,k)::r,b,h=>by
  show fW r _ λn c e=>?_;by_cases hk:(k==R0)=cb
  .rw[if_pos hk]at e;cases q:env.cells.lookup m with
   |none=>rw[q]at e;show h n c e
   |some a =>
    rw[q]at e
    grind
  .rw[if_neg hk]at e;show h n c e
theorem kZ(d:env.cells.lookup n≈a):∀names (c:↑(Str×k7)),c.lookup n≈a->(cz env names c).lookup n≈a
 |[],_,h=>h
 |(m,k)::r,c,h=>by
  show kZ d r _ ?_;by_cases hk:(k==R0)=cb
  .rw[if_pos hk];cases q:env.cells.lookup m with
   |none=>show h
   |some b =>
    grind
  .rw[if_neg hk];show h
theorem iR(b:env.cells.lookup n≈a):∀names c,(n,R0)∈names->(cz env names c).lookup n≈a
 |[],_,h=>by cases h
 |(m,k)::r,c,h=>by
  rcases f6.mp h with e|e
  .show kZ b r _ ?_;simp_all
  .show iR b r _ e
theorem b8{env:Env}:∀{names:↑(Str×Χ)}{x}{k},
  (names.map λ(n,k)=>if (k==R0&&env.scope.kind==.function&&env.kindOf n==bD .cell) then(n,Te) else(n,k)).lookup x≈k ->
  names.lookup x≈k\/(k=.cell/\names.lookup x≈.free)
 |[],_,_,h=>by simp at h
 |(n,f)::r,x,k,h=>by
  have d:=@b8 env r x k;rw[gr]at h;by_cases e:(f==R0&&env.scope.kind==.function&&env.kindOf n==bD .cell)=cb
  .simp only[if_pos e,KX]at h;cases a:x==n with
   |true =>
    simp_all
   |false =>
    rw[a]at h;rcases d h with z|⟨b,c⟩
    .show .inl (by simp[KX,a,z])
    .show .inr #[b,by simp[KX,a,c]]
  .simp only[if_neg e,KX]at h;cases a:x==n with
   |true=>simp_all
   |false =>
    rw[a]at h;rcases d h with z|⟨b,c⟩
    .show .inl (by simp[KX,a,z])
    .show .inr #[b,by simp[KX,a,c]]
theorem k_:∀names b,(cz env names b).lookup x≈c->(x,R0)∈names\/b.lookup x≈c
 |[],_,h=>.inr h
 |(m,k)::r,b,h=>by
  rcases k_ r _ h with z|z
  .show .inl (ke _ z)
  .by_cases hk:(k==R0)=cb
   .rw[if_pos hk]at z;cases q:env.cells.lookup m with
    |none=>rw[q]at z;show .inr z
    |some a =>
     rw[q]at z;simp only[KX]at z;cases d:x==m with
     |true =>
      simp_all
     |false=>rw[d]at z;show .inr z
   .rw[if_neg hk]at z;show .inr z
theorem jv:∀names n a,(Si n names a).lookup x≈c->((x,Te)∈names/\@LE.le Nat _ n c)\/a.lookup x≈c
 |[],_,_,h=>.inr h
 |(y,k)::r,n,a,h=>by
  unfold Si at h;by_cases hk:(k==Te)=cb
  .have e:=by simpa using hk
   subst e;rcases jv r _ _ h with⟨b,d⟩|z
   .show .inl #[ke _ b,Nat.le_of_succ_le d]
   grind
  .rw[if_neg hk]at h;rcases jv r n a h with⟨b,d⟩|z
   .show .inl #[ke _ b,d]
   .show .inr z
theorem qG:∀names n a,(x,Te)∉names->(Si n names a).lookup x=a.lookup x
 |[],_,_,_=>rfl
 |(y,k)::r,n,a,h=>by
  unfold Si;have b:=λz=>h (ke _ z);by_cases hk:(k==Te)=cb
  .rw[if_pos hk,qG r _ _ b]
   grind
  .rw[if_neg hk,qG r _ _ b]
theorem uW:∀names n a,(∀z d,a.lookup z≈d->@Xf Nat _ d n)->(∀u v d,a.lookup u≈d->a.lookup v≈d->u=v) ->
  (Si n names a).lookup x≈c->(Si n names a).lookup y≈c->x=y
 |[],_,_,_,hi,b,f=>hi x y c b f
 |(g,k)::r,n,a,hl,hi,b,f=>by
  unfold Si at b f;by_cases hk:(k==Te)=cb
  .rw[if_pos hk]at b f;have lk:∀z d,List.lookup z ((g,n)::a)≈d->(z=g/\d=n)\/a.lookup z≈d:=λz d e=>by
    simp only[KX]at e;cases h:z==g with
    |true=>simp_all
    |false=>rw[h]at e;show .inr e
   show uW r _ _ (λz d e=>?_) (λu v d i j=>?_) b f
   .rcases lk z d e with⟨_,q⟩|q
    .simp_all
    .show QA (hl z d q)
   .rcases lk u d i with⟨l,m⟩|q<;>rcases lk v d j with⟨o,p2⟩|p
    .rw[l,o]
    .rw[m]at p;show absurd (hl v n p) (uk _)
    .rw[p2]at q;show absurd (hl u n q) (uk _)
    .show hi u v d q p
  .rw[if_neg hk]at b f;show uW r n a hl hi b f
theorem qH:∀names h a,(Si h.objs.size names a).lookup x≈c->(ä h names).IsCell c b6\/a.lookup x≈c
 |[],_,_,e=>.inr e
 |(y,k)::r,h,a,e=>by
  unfold Si at e;unfold ä;by_cases hk:(k==Te)=cb
  .rw[if_pos hk]at e ⊢;have hs:h.objs.size+1=(h.push {cls:=.type "cell",data:=.cell b6}).objs.size:=⋯
   rw[hs]at e;rcases qH r _ _ e with z|z
   .show .inl z
   .simp only[KX]at z;cases b:x==y with
    |true =>
     rw[b]at z;cases z;show .inl #[_,ħ r _ _ _ (eW _ rfl),rfl]
    |false=>rw[b]at z;show .inr z
  .rw[if_neg hk]at e ⊢;show qH r h a e
abbrev OK(X:Cx)(scope:TH)(C:k7):↑(Str×k7):=Si (C+1) scope.names (cz X.env scope.names [])
abbrev Nb(X:Cx)(N:↑Str)(scope:TH)(C:k7)(s:k9)(H:Hp)(ex:↑k7):Cx where
 prog:=X.prog
 w:=X.w
 K:=X.K
 mg:=X.mg
 base:=X.base
 A:=X.A
 N:=N
 s₀:=s
 H₀:=H
 env:=Zu scope (OK X scope C) C X.env
 outer:=X.stack
 stack:=X.stack
 ex:=ex
 fn:=λx=>dV (scope.names.lookup x≈.cell)
 calm:=X.calm
 pn:=[]
 xe:=λ_ _=>False
abbrev ff(D N:↑Str):Prop:=⇑D=⇑N/\∀(i:Nat) (y:Str),D[i]?≈y->N[i]?≈y\/y="."\/y=".."
def ff.refl(N):ff N N:=#[rfl,λ_ _ h=>.inl h]
def ff.set{D N}(h:ff D N)(j){m:Str}(b:m="."\/m=".."):ff (D.set j m) N:=by
 show#[by rw[List.length_set];show h.1,λi y e=>?_];by_cases a:j=i
 .subst a;rw[List.getElem?_set]at e;simp_all
 .rw[mx a]at e;show h.2 i y e
structure cT(X:Cx)(N own:↑Str)(scope:TH):Prop where
 kind:scope.kind=.function
 uq:∀y∈scope.names,scope.names.lookup y.1≈y.2
 cl:∀y∈scope.names,y.2=.cell->y.1∈own
 nd:N.Nodup
 pre:N.take ⇑own=own
 loc:∀y∈scope.names,y.2=.local->y.1∈own\/y.1=".0"
 no0:(".0":Str)∉N
 tail:ff (N.drop ⇑own) X.N
 free:∀y∈scope.names,y.2=.free->X.env.scope.names.lookup y.1≈.cell\/X.env.scope.names.lookup y.1≈.free
 dot:∀y∈scope.names,y.1≠"."/\y.1≠".."
def mem_lookup{names:↑(Str×Χ)}(h:names.lookup x≈k):(x,k)∈names:=PySem.mem_of_lookup h
def cT.names(S:cT X N a scope):∀y∈scope.names,y.2=.local->scope.names.lookup y.1≈.local:=λy b e=>e▸S.uq y b
def cT.no(S:cT X N a scope)(h:scope.names.lookup x≈.free):(x,Te)∉scope.names:=λz=>by
 have:=S.uq _ z;simp_all
def cT.cells(S:cT X N b scope)(ok:X.Ok):∀y∈scope.names,y.2=.free->∃a,X.env.cells.lookup y.1≈a:=λy c d=>by
 rcases S.free y c d with z|z
 .show ok.has y.1 (.inl z)
 .show ok.has y.1 (.inr z)
def As(S:cT X N f scope)(I:Inv X D σ H s)
  (B:↥s<=C) (O5:∀x c,(OK X scope C).lookup x≈c->G.heap.IsCell c b6\/(cz X.env scope.names []).lookup x≈c) (Wu:G.os=s.os) (hg:G.gens=s.gens) (keep:∀b o,s.heap.get? b≈o->G.heap.get? b≈o) (ns:∃m,G.heap.Ns C m)
  (g:∀b∈ex,iO X D H b/\b<↥s):Inv (Nb X N scope C s H ex) [] (hZ ⇑f b6++σ) H G:=by
 have(m0,RB):=ns;have sub:=fW (env:=X.env) scope.names [] (λn c e=>by simp at e);have O:∀x c,(cz X.env scope.names []).lookup x≈c->c<↥s:=λx c e=>by
  have(v,o,ho,_):=I.cell x c (sub x c e);show fz ho
 have Q:∀x c,(OK X scope C).lookup x≈c->C<c\/(cz X.env scope.names []).lookup x≈c:=λx c e=>(jv _ _ _ e).imp (λz=>z.2) id;have Tw:∀b∈ex,b<C:=λb t=>lg (g b t).2 B;have tl:⇑f<=⇑N:=by have:=congrArg K2 S.pre;grind
 show#[#[I.ok.mod,?_,I.ok.glob,I.ok.blt,B,λx y c w A=>uW _ _ _ (λz d e=>QA (lg (O z d e) B)) (λu v d J e2=>I.ok.inj u v d (sub u d J) (sub v d e2)) w A,λx hx=>?_,λx c h e=>?_,I.ok.hd,I.ok.frames,.inl rfl,λb t=>#[gm (Tw b t),λx c e=>?_],λb o e=>I.bs b o e,?_,λb o e t=>?_,λb t=>?_,I.stack,I.wD],
  Wu,(by rw[hg];show I.bare),Un.kept keep,#[m0,RB,λi y v w A h3=>?_],λx c e=>?_,I.L7.fresh B,λx c e=>?_,λp hp=>absurd (show p∈[] from hp) ⋯,I.L7.kept keep,?_]
 .change(Z' scope X.env).kind=.function;show S.kind
 .
  have Q1:(Z' scope X.env).names.lookup x≈.cell\/(Z' scope X.env).names.lookup x≈.free:=hx;have ME:scope.names.lookup x≈.cell\/scope.names.lookup x≈.free:=by
   rcases Q1 with z|z
   .rcases b8 z with q|⟨_,q⟩
    .show .inl q
    .show .inr q
   .rcases b8 z with q|⟨q,_⟩
    .show .inr q
    .cases q
  rcases ME with ME|ME
  .show Yc.mp (W.cellsFrom_some scope.names (C+1) _ (.inl ME))
  .have(a,ha):=S.cells I.ok (x,.free) (mem_lookup ME) rfl;show#[a,(qG _ _ _ (S.no ME)).trans (iR ha scope.names [] (mem_lookup ME))]
 .have h':scope.names.lookup x≈.cell:=of_decide_eq_true h;rcases Q x c e with z|z
  .show H8 B (Rt z)
  .rcases k_ _ _ z with z|z
   .have:=S.uq _ z;rw[h']at this;cases this
   .simp at z
 .rcases Q x c e with z|z
  .show λq=>absurd (Wa (Tw b t) z) (by rw[q];show uk _)
  .show(g b t).1.2.2.2.2.1 x c (sub x c z)
 .show H8 I.ok.QT I.sz
 .have(f0,f1,f2,f3,f4,f5):=(g b t).1;rcases f3 with z|z
  .show I.ok.PK b o e z
  .show absurd (lg (fz e) (H8 I.ok.QT z)) (uk _)
 .intro Nj;have(f0,f1,f2,f3,f4,f5):=(g b t).1;rcases f6.mp (I.mC b Nj) with z|z
  .show f1 z
  .show f2 z
 .
  have hi:⇑f<=i:=by
   by_cases hi:i<⇑f
   .rw[vr (by simpa using hi),SA]at A;split at A<;>cases A
   .lia
  rw[sx (by simpa using hi),Zp]at A;have T:(N.drop ⇑f)[i - ⇑f]?≈y:=by
   rw[PF];have e:⇑f+(i - ⇑f)=i:=⋯
   rw[e];show w
  have YW:(Z' scope X.env).names.lookup y≈.local\/(Z' scope X.env).names.lookup y≈.cell\/(Z' scope X.env).names.lookup y≈.free:=h3;have Q3:∀y ,y∈f->N[i]?≈y->False:=λy Y w=>by
   have(j,hj,ej):=Xt Y;have Ww:N[j]?≈y:=by
    have J:(N.take ⇑f)[j]?≈y:=by rw[S.pre,nC hj,ej]
    rw[ġ hj]at J;show J
   have:=mD S.nd Ww w;lia
  have ME:scope.names.lookup y≈.free:=by
   rcases YW with z|z|z
   .rcases b8 z with q|⟨q,_⟩
    .exfalso
     have Y:y∈f:=by
      rcases S.loc (y,.local) (mem_lookup q) rfl with z|z
      .show z
      .have z':y=".0":=z;show absurd (k8 w) (by rw[z'];show S.no0)
     show Q3 y Y w
    .cases q
   .rcases b8 z with q|⟨_,q⟩
    .show(Q3 y (S.cl _ (mem_lookup q) rfl) w).elim
    .show q
   .rcases b8 z with q|⟨q,_⟩
    .show q
    .cases q
  have hX:X.N[i - ⇑f]?≈y:=by
   rcases S.tail.2 _ _ T with e|e|e
   .show e
   .show absurd e (S.dot _ (mem_lookup ME)).1
   .show absurd e (S.dot _ (mem_lookup ME)).2
  have(m,hn,hl):=I.loc;have hv:X.env.scope.names.lookup y≈.cell\/X.env.scope.names.lookup y≈.free:=S.free (y,.free) (mem_lookup ME) rfl;have(u,r,l):=hl _ y v hX A (.inr hv);show#[u,r,?_];rcases l with⟨k,_⟩|⟨k,c,e,z⟩
  .have k':X.env.scope.names.lookup y≈.local:=k;simp_all
  .have hk:(Z' scope X.env).names.lookup y≈.cell\/(Z' scope X.env).names.lookup y≈.free:=by
    rcases YW with q|q|q
    .rcases b8 q with L|⟨L,_⟩
     .rw[ME]at L;cases L
     .cases L
    .show .inl q
    .show .inr q
   have(o,ho,hd):=z;show .inr #[hk,c,(qG _ _ _ (S.no ME)).trans (iR e scope.names [] (mem_lookup ME)),o,keep c o ho,hd]
 .rcases O5 x c e with z|z
  .show#[_,z]
  .have(v,o,ho,hd):=I.cell x c (sub x c z);show#[v,o,keep c o ho,hd]
 .rcases Q x c e with z|z
  .show I.L7.fresh (H8 B (Rt z))
  .show I.MV x c (sub x c z)
 .rw[ko,Zp,I.len];have e:⇑N=⇑f+⇑(N.drop ⇑f):=by rw[Wq];lia
  change _=⇑N;rw[e,S.tail.1]
def sN(I:Inv X f σ H s)
  (d:Inv (Nb X N scope C s H ex) O Q l m) (x:↥s<=D) (y:↥s<=C) (p:D≠C) (h:l D=b6) (rv:Vals t its) (z:m.heap.PlainList D its.toArray) (hl:⇑t<=dt)
  (i:p8 C m.heap h') (r:∀b∈ex,iO X f H b):Inv X f σ (upd l D (.lst t)) {m with heap:=h' }:=by
 have T:l C=b6:=d.free;have lt:∀{b} {o},s.heap.get? b≈o->b≠C/\b≠D:=λe=>#[gm (lg (fz e) y),gm (lg (fz e) x)]
 show I.Jr  (ch:=ex) d.os #[λb o e n j g=>?_,λb o e n j g=>?_,λb o e n g=>?_,λb o e g=>?_,λb xs e=>?_,λb o u e=>?_,λb ps e=>?_] (λa o e=>?_) d.bare λb j=>?_
 .show(i.2 b (lt e).1).trans (d.base.keep b o e n j g)
 .have(A,q):=d.base.slot b o e n j g;show#[A,(i.2 b (lt e).1).trans q]
 .rw[aj (lt e).2];show d.base.free b o e n g
 .have(o',q):=d.base.there b o e g;show#[o',(i.2 b (lt e).1).trans q]
 .have q:=d.base.iZ b xs e;rw[aj (bQ q h)];show q
 .have q:=d.base.NM b o u e;rw[aj (bQ q h)];show q
 .have(k,q):=d.base.NX b ps e;show#[k,by rw[aj (bQ q h)];show q]
 .by_cases w:a=D
  .subst w;rw[av]at e;cases e;have(n,q):=z;show#[hl,its,n,rv,(i.2 _ p).trans q]
  .rw[aj w]at e;show(d.L7 a o e).iN (λc v Y q=>(i.2 c ?_).trans q) (λc q=>?_) λc xs q=>?_
   .grind
   .rw[aj (bQ q h)];show q
   .rw[aj (bQ q h)];show q
 .have(f0,B,f2,G,J,L):=r b j;show#[G,B,J,L]
def qJ(I:Nat->k9->Prop)
  (d:∀n s,I n s->fx (gj prog w) A (Vk it) (λr f=>match r with
   |none=>R (.ok .next) f
   |some v=>fx (gj prog w) A (Ĩ a it v) (λ_ f=>fx (gj prog w) A (YA a env v) (λ_ l =>
     fx (gj prog w) A (ϴ g cb λc r=>if r=cb then do let ok <-isTrue c env (K1 c env);pure (Yz ok) else pure (Yz r)) (λok i =>
      if ok=cb then fx (gj prog w) A (K1 elt env) (λx o =>
       fx (gj prog w) A (TN (.builtin "list.append") [j,x]) (λ_ p=>∃m,m<n/\I m p) (À (gj prog w) A env λe b=>R (.error e) b) o) (À (gj prog w) A env λe b=>R (.error e) b) i
      else ∃m,m<n/\I m i) (À (gj prog w) A env λe b=>R (.error e) b) l) (À (gj prog w) A env λe b=>R (.error e) b) f) (À (gj prog w) A env λe b=>R (.error e) b) f) (À (gj prog w) A env λe b=>R (.error e) b) s)
  (n) (h:I n s) :
  WL (gj prog w) A (.compLoop (.ListComp elt [⟨a,q,g,0⟩] scope pos) 0 it j env) R s:=by
 show codeAny_loop rfl I (λn s y=>?_) n h;show wpAny_noted ?_;rw[compTurn_list];show b5 (ō (b5 (vu (d n s y) (λr f t=>?_) λ_ _ h'=>h')));cases r with
 |none=>show cL t
 |some v =>
  show b5 (vu t (λ_ z k=>?_) λ_ _ h'=>h');show b5 (vu k (λ_ l B=>b5 (vu B (λok i u=>?_) λ_ _ h'=>h')) λ_ _ h'=>h');cases ok with
  |false=>show cL #[rfl,u]
  |true =>
   show b5 (b5 (vu u (λx o C=>b5 (vu C (λ_ p D=>cL (cL #[rfl,D])) λ_ _ h'=>h')) λ_ _ h'=>h'))
abbrev Qe(X:Cx)(b:↑p7)(t:TT):Prop :=
 ∀(a:↑(k7×Obj)) (s:k9) (σ:St) (H:Hp) (Q:Bool->Hp->Prop),Inv X a σ H s->t σ H Q ->
  (fx (gj X.prog X.w) X.A) (ϴ b cb λc r=>if r=cb then do let ok <-isTrue c X.env (K1 c X.env);pure (Yz ok) else pure (Yz r)) (TP X a σ Q) X.xe s
abbrev Ly:TT:=λ_ H Q=>Q cb H
def qK:Qe X [] Ly:=λ_ _ _ H _ I h=>wpAny_tests_nil #[H,I,h]
def wK(h:PT X c t):Qe X [c] t:=λa s σ H Q I q=>wpAny_tests_one (h a s σ H Q I q)
abbrev wL(k:Nat)(J:It)(g:TG)(l:TT)(n:TE)(Q:VK)(σ:St)(o:Hp):Prop :=
  ∃W:Nat->Nat->↑V->Hp->Prop,(∃m,W 0 m [] o)/\∀i m a H,W i m a H->⇑a<=dt /\
    ((J.stop i H/\∀p,H p=b6->Q (.ref p) (upd H p (.lst a))) \/
     (J.go i H/\∃d:↑V->Hp->Prop,(∀f H',d f H'->∃h,h<m/\W (i+1) h f H')/\∀x H',J.UZ i H x H'->g x (hZ k b6++σ) H' λe q=>∃c:St,⇑c=k/\e=c++σ /\
        l e q λb j=>if b=cb then n e j λy r=>d (a++[y]) r else d a j))
abbrev Au(k:Nat)(a:TI)(g:TG)(b:TT)(c:TE):TE:=λσ H Q=>a σ H λJ d=>wL k J g b c Q σ d
def Av
  (S:cT X N L scope) (hc:X.calm=cb) (hg:∀C s H ex,PG (Nb X N scope C s H ex) tg g) (hf:∀C s H ex,Qe (Nb X N scope C s H ex) am tt)
  (he:∀t s7 σ7 H7 Q7,Inv (Nb X N scope C s H l) t σ7 H7 s7->te σ7 H7 Q7->(fx (gj X.prog X.w) X.A) (K1 elt (Zu scope (OK X scope C) C X.env)) (EP (Nb X N scope C s H l) t σ7 Q7) (À (gj X.prog X.w) X.A (Zu scope (OK X scope C) C X.env) λe k=>R (.error e) k) s7)
  (I:Inv X t σ H s) (T:Turn X.prog X.w X.K tg J l it tn) (st:tn 0 s.heap) (f2:∀b∈l,iO X t H b) (W:wL ⇑L J g tt te Q σ H)
  (hD:@Eq Nat D ↥s) (hC:@Eq Nat C (↥s+1)) (O5:∀x c,(OK X scope C).lookup x≈c->O.heap.IsCell c b6\/(cz X.env scope.names []).lookup x≈c) (Wu:O.os=s.os) (az:O.gens=s.gens) (keep:∀b o,s.heap.get? b≈o->O.heap.get? b≈o) (ns:∃m,O.heap.Ns C m) (pl:O.heap.PlainList D #v[])
  (an:∀s5 H5 Y its,Inv (Nb X N scope C s H l) [] (hZ ⇑L b6++σ) H5 s5->H5 D=b6->Vals Y its->s5.heap.PlainList D its.toArray->⇑Y<=dt->(∀p,H5 p=b6->Q (.ref p) (upd H5 p (.lst Y)))->R (.ok .next) s5) :
  WL (gj X.prog X.w) X.A (.compStart (.ListComp elt [⟨tg,ap,am,0⟩] scope pos) 0 (.ref it) (.ref D) (Zu scope (OK X scope C) C X.env)) R O:=by
 have Qw:∀b∈l,@Xf Nat _ b ↥s:=λb h=>by
  have(o,e,_):=T.obj 0 s.heap st b h;show fz e
 have I4:Inv (Nb X N scope C s H l) [] (hZ ⇑L b6++σ) H O:=As S I ⋯ O5 Wu az keep ns λb h=>#[f2 b h,Qw b h]
 have SF:tn 0 O.heap:=T.keep 0 s.heap O.heap st λb _ o e=>keep b o e;have nD:H D=b6:=I.L7.fresh ⋯;have(W,(m0,w0),Κ):=W;generalize B:Nb X N scope C s H l=f at I4 an he;have eP:f.prog=X.prog:=by rw[<-B];rfl
 have ew:f.w=X.w:=by rw[<-B];rfl
 have eK:f.K=X.K:=by rw[<-B];rfl
 have ec:f.calm=cb:=by rw[<-B];show hc
 have eA:f.A=X.A:=by rw[<-B];rfl
 have ee:f.env=Zu scope (OK X scope C) C X.env:=by rw[<-B];rfl
 have YX:f.xe=λ_ _=>False:=by rw[<-B];rfl
 have el:f.env.locals=C:=by rw[ee];rfl
 have SG:PG f tg g:=by rw[<-B];show hg _ _ _ _
 have Wx:Qe f am tt:=by rw[<-B];show hf _ _ _ _
 have s0:f.s₀=s:=by rw[<-B];rfl
 have U5:f.pn=[]:=by rw[<-B];rfl
 have Wy:∀{H':Hp} {o},(∀b∈l,H' b=b6)->∀b∈l,iO f [(D,o)] H' b:=λ{H' o} hn b h=>by
  have ex:f.ex=l:=by rw[<-B];rfl
  show#[hn b h,?_,?_,.inl (by rw[ex];show h),λx c e=>?_,λp hp=>?_]
  .rw[el];have:=Qw b h;show gm (by change @Xf Nat _ b C;lia)
  .have e1:f.fs=OJ X.stack:=by rw[<-B];rfl
   rw[e1];intro z;have(f0,f1,a0,f3,f4,f5):=f2 b h;rcases f6.mp (I.mC b z) with q|q
   .show f1 q
   .show a0 q
  .have e1:f.env.cells=OK X scope C:=by rw[ee];rfl
   rw[e1]at e;rcases jv _ _ _ e with z|z
   .have:=Qw b h;have:=z.2;show va (by change @Xf Nat _ b c;lia)
   .show(f2 b h).2.2.2.2.1 x c (fW scope.names [] (λn c e=>by simp at e) x c z)
  grind
 have Wz:∀{σ':St} {H':Hp} {k} {o},Inv f [] σ' H' k->H' D=b6->k.heap.get? D≈o->(∀v,o.data≠.cell v)->Inv f [(D,o)] σ' H' k:=λ{σ' H' k o} I' n e d =>
  I'.eS λp hp=>by
   have:p=(D,o):=by simpa using hp
   subst this;show#[e,n,?_,?_,d]
   .rw[el];show gm (by change @Xf Nat _ D C;lia)
   .have e1:f.fs=OJ X.stack:=by rw[<-B];rfl
    rw[e1];intro z;have zz:D∈OJ X.stack:=z;rcases f6.mp (I.mC D zz) with q|q
    .have:=I.lt;rw[<-q]at this;show absurd this (by change ¬@Xf Nat _ D ↥s;lia)
    .show I.GN (a:=D) ⋯ q
 have start:∀k ,k=O->WL (gj X.prog X.w) X.A (.compLoop (.ListComp elt [⟨tg,ap,am,0⟩] scope pos) 0 (.ref it) (.ref D) (Zu scope (OK X scope C) C X.env)) R k:=by
  rintro k rfl;show qJ (λn k=>∃i Y its H',Inv f [] (hZ ⇑L b6++σ) H' k/\tn i k.heap/\(∀b∈l,H' b=b6)/\H' D=b6/\Vals Y its/\k.heap.PlainList D its.toArray/\W i n Y H') ?_ m0
   ⟨0,[],[],H,I4,SF,λb h=>(f2 b h).1,nD,.nil,pl,w0⟩
  rintro n s3 ⟨i,Y,its,H3,I3,st3,Tq,YY,U6,⟨nn,a1⟩,w3⟩;have(ab,OM):=Κ i n Y H3 w3;have IP:=Wz I3 YY a1 (λv z=>by have z':Data.seq _ _=Data.cell v:=z;cases z');rcases OM with⟨ar,qn⟩|⟨go,NN,YZ,as⟩
  .have d:=T.done f eP ew eK ec i _ s3 _ H3 (À (gj X.prog X.w) X.A (Zu scope (OK X scope C) C X.env) λe k=>R (.error e) k) IP (Wy Tq) st3 ar;rw[eA]at d;show Mb d λr O WA=>?_;have(hr,I5):=WA;subst hr;have e5:=(I5.pin (D,{cls:=.type "list",data:=.seq its.toArray nn}) (by rw[U5];simp)).1;show an O H3 Y its (I5.eS λp hp=>by cases hp) YY U6 ⟨nn,e5⟩ ab qn
  .have d:=T.item f eP ew eK ec i _ s3 _ H3 (À (gj X.prog X.w) X.A (Zu scope (OK X scope C) C X.env) λe k=>R (.error e) k) IP (Wy Tq) st3 go;rw[eA]at d;show Mb d λr O WB=>?_;have(u,hr,h4):=WB;subst hr;show Mb h4 λ_ s5 WC=>?_;have(x,H5,I5,r5,y5,Px,V9):=WC;have be:H5 D=b6:=(I5.pin (D,{cls:=.type "list",data:=.seq its.toArray nn}) (by rw[U5];simp)).2.1;have V_:=I5.pinned (Wy V9) (T.obj _ _ Px);have a6:=SG _ s5 _ H5 x u _ V_ r5 (as x H5 y5);rw[eP,ew,eA,ee,YX]at a6;show vu a6 (λ_ s6 ⟨σ6,H6,I6,q6⟩=>?_) λ_ _ z=>Wj z;have(ow,ax,rfl,q6):=q6;have a7:=Wx _ s6 _ H6 _ I6 q6;rw[eP,ew,eA,ee,YX]at a7;show vu a7 (λb s7 ⟨H7,I7,q7⟩=>?_) λ_ _ z=>Wj z;have ac:∀{s8} {G:Hp} {NU} {its'} {nn':Nat},Inv f [] (ow++σ) G s8->tn (i+1) s8.heap->(∀b∈l,G b=b6)->G D=b6->Vals NU its'->s8.heap.PlainList D its'.toArray->(∃m',m'<n/\W (i+1) m' NU G) ->
     ∃m,m<n/\∃i Y its H',Inv f [] (hZ ⇑L b6++σ) H' s8/\tn i s8.heap/\(∀b∈l,H' b=b6)/\H' D=b6/\Vals Y its/\s8.heap.PlainList D its.toArray/\W i m Y H':=λ{s8 G NU its' nn'} I8 a2 a3 n8 a4 a5 w8=>by
    have(m',hm,w8):=w8;show#[m',hm,i+1,NU,its',G,I8.weak (by simp[ax]) (λj v e=>?_),a2,a3,n8,a4,a5,w8];by_cases hj:j<⇑L
    .rw[vr (by simpa using hj),SA]at e;split at e<;>cases e
    .rw[sx (by simpa using(Nat.not_lt.mp hj)),Zp]at e;rw[sx ⋯,ax];show e
   have al:∀{σ':St} {G:Hp} {s8},Inv f ([(D,{cls:=.type "list",data:=.seq its.toArray nn})]++qr l s5.heap) σ' G s8->s8.heap.get? D≈{cls:=.type "list",data:=.seq its.toArray nn}/\G D=b6/\tn (i+1) s8.heap/\∀b∈l,G b=b6:=λ{σ' G s8} I8=>by
    have p1:=I8.pin (D,{cls:=.type "list",data:=.seq its.toArray nn}) (by rw[U5];simp);show#[p1.1,p1.2.1,T.keep _ _ _ Px λb h o e=>(I8.pin (b,o) (p6 _ (p6 _ (fT h e)))).1,λb h=>?_];have(o,e,d):=T.obj _ _ Px b h;show(I8.pin (b,o) (p6 _ (p6 _ (fT h e)))).2.1
   cases b with
   |false =>
    rw[if_neg qp]at q7 ⊢;have(p1,p2,p3,p4):=al I7;show ac (nn':=0) (I7.eS λp hp=>by cases hp) p3 p4 p2 U6 ⟨nn,p1⟩ (YZ _ _ q7)
   |true =>
    rw[if_pos rfl]at q7 ⊢;show vu (he _ s7 _ H7 _ I7 q7) (λy s8 ⟨yv,G,I8,r8,q8⟩=>?_) λ_ _ z=>z;have(p1,p2,p3,p4):=al I8;have hsz:its.toArray.size<=dt:=by rw[ri,<-⇑U6];show ab
    show wpAny_list_append_plain (hsz:=hsz) #[nn,p1] λh9 a8 Y0=>?_;have a':Inv f [] (ow++σ) G s8:=I8.eS λp hp=>by cases hp
    have U7:∀x c,f.env.cells.lookup x≈c->c≠D:=λx c e=>by
     have e1:f.env.cells=OK X scope C:=by rw[ee];rfl
     rw[e1]at e;rcases jv _ _ _ e with z|z
     .have:=z.2;show va (by change @Xf Nat _ D c;lia)
     .have(v,z):=I.cell x c (fW scope.names [] (λn c e=>by simp at e) x c z);have:@Xf Nat _ c ↥s:=z.lt;show gm (by change @Xf Nat _ c D;lia)
    have I9:Inv f [] (ow++σ) G {s8 with heap:=h9,toks:=s8.toks}:=a'.turned (it:=D) (λb o h e=>(Y0.2 b h).trans e) p2 (by rw[el];show gm (by change @Xf Nat _ D C;lia)) (.inr (by rw[s0];change @LE.le Nat _ ↥s D;lia)) U7 (λp hp=>by rw[U5]at hp;cases hp);have bd:(its++[y]).toArray=its.toArray.push y:=⋯
    show ac (nn':=0) (s8:={s8 with heap:=h9,toks:=s8.toks}) I9 (T.keep _ _ _ p3 λb h o e=>(Y0.2 b ?_).trans e) p4 p2 (U6.append (.cons r8 .nil)) (by rw[bd];show a8) (YZ _ _ q8);have:=Qw b h;show gm (by change @Xf Nat _ b D;lia)
 show codeAny_compStart_list (start _ rfl) (T.self _ _ _ _ _ SF (start _ rfl))
def uX
  (f:Q (newEnv scope ↥s b (Si (↥s+1) scope.names cl) d b6 .none (bD c) a) {s with heap:=ä (s.heap.push {cls:=.type "dict",data:=.dict #v[]}) scope.names}) :
  fx M A (newFunctionEnv scope b cl [] d b6 .none (bD c) a) Q E s:=by
 show b5 (Θ ?_);show b5 (wpAny_layCells _ (λname kind e=>by rfl) _ _ _ _ ?_);rw[VJ ..];show b5 ?_;show cL (cL f)
def mN{RR:hY->k7->Result->k9->Prop}
    (S:cT X N h scope) (L:X.calm=cb) (O:∀C s H ex,PG (Nb X N scope C s H ex) t g) (Y:∀C s H ex,Qe (Nb X N scope C s H ex) l tt) (he:∀C s H ex,PE (Nb X N scope C s H ex) elt te)
 (I:Inv X a σ H s) (T:Turn X.prog X.w X.K t J u it tn) (st:tn 0 s.heap) (f2:∀b∈u,iO X a H b) (W:wL ⇑h J g tt te Q σ H)
    (m:∀D C i d j its,@Eq Nat D ↥s->@Eq Nat C (↥s+1)->Inv (Nb X N scope C s H u) [] (hZ ⇑h b6++σ) d i->d D=b6->Vals j its->i.heap.PlainList D its.toArray->⇑j<=dt->(∀p,d p=b6->Q (.ref p) (upd d p (.lst j)))->RR (.ref D) C (.ok .next) i) :
    (fx (gj X.prog X.w) X.A) (newList []) (λk s₃=>(fx (gj X.prog X.w) X.A) (newFunctionEnv scope X.env.globals (cz X.env scope.names []) [] X.env.qual b6 .none (bD X.env)) (λv s₄ =>
      WL (gj X.prog X.w) X.A (.compStart (.ListComp elt [⟨t,y,l,0⟩] scope pos) 0 (.ref it) k {v with scope:=Z' scope X.env}) (RR k v.locals) s₄) E s₃) E s:=by
  show Q6 (uX ?_);generalize n:s.heap.push _=f;have B:f.objs.size=↥s+1:=by rw[<-n,VJ]
  have G:∀b o,f.get? b≈o->(ä (f.push {cls:=.type "dict",data:=.dict #v[]}) scope.names).get? b≈o:=λb o e=>ħ _ _ b o (cc _ e);have r:=λb o e=>G b o (n▸cc _ e);have M_:(ä _ scope.names).PlainList _ #v[]:=#[_,G _ _ (n▸eW _ rfl)]
  have O5:∀x c,(OK X scope _).lookup x≈c->(ä (f.push {cls:=.type "dict",data:=.dict #v[]}) scope.names).IsCell c b6\/(cz X.env scope.names []).lookup x≈c:=λx c e=>by
    show qH scope.names _ _ ?_;rw[VJ];show e
  show Av (s:=s)  (C:=f.objs.size)  S L O Y (λa s7 σ7 H7 Q7 I7 q=>vu (he _ _ _ _ a s7 σ7 H7 Q7 I7 q) (λ_ _ z=>z) λ_ _ z=>z.elim) I T st f2 W rfl B O5 rfl rfl r ⟨_,(Heap.Ns.new f _).keeps (ħ _ _)⟩ M_
    λi d j its I5 n5 Tz TB TC q5=>m _ _ i d j its rfl B I5 n5 Tz TB TC q5
def wM(S:cT X N c scope)(m:X.calm=cb)(hi:PI X f a n)(o:∀C s H ex,PG (Nb X N scope C s H ex) f g)(p:∀C s H ex,Qe (Nb X N scope C s H ex) d q)(r:∀C s H ex,PE (Nb X N scope C s H ex) elt t)
  (hs:∀x,Sq a X.env x=pure x:=by intro _;rfl):PE X (.ListComp elt [⟨f,a,d,0⟩] scope pos) (Au ⇑c n g q t):=by
 intro b s σ H Q I h;show Ŏ   rfl hs (fq (S.cells I.ok)) S.kind S.names ?_;show Mb (hi b s σ H _ I h) λv s1 u=>Mb u λY s2 w=>?_;have(it,fp,tn,J,H2,e,i,T,st2,j,W):=w;subst e;show mN  S m o p r i T st2 j W ?_;intro D C s5 H5 ys its y hC k l z A B G;have(m5,L,_):=k.loc;show#[m5,L,λh' O=>#[.ref D,_,sN i k (ì y.symm) ⋯ (gm ⋯) l z A B O j,rfl,G D l]]
def DW(S:cT X N t scope)(hc:X.calm=cb)(hN:X.N.Nodup)(U8:X.N[i]?≈y)(hy:X.env.scope.names.lookup y≈.local)
  (hi:PI X n d wi) (hg:∀C s H ex,PG (Nb X N scope C s H ex) n g) (hf:∀C s H ex,Qe (Nb X N scope C s H ex) k tt) (he:∀C s H ex,PE (Nb X N scope C s H ex) elt te)
  (Qf:Xl (.ListComp elt [⟨n,d,k,0⟩] scope pos) (bD (.Name y m)) O6.line X.env=pure cb:=by rfl)
  (hs:∀x,Sq d X.env x=pure x:=by intro _;rfl):PS X (.Assign [.Name y m] (.ListComp elt [⟨n,d,k,0⟩] scope pos) O6) (GX (Au ⇑t wi g tt te) (wG i)):=by
 intro f s σ H D I h;rw[exec_Assign_Name_used _ _ _ _ Qf];show b5 (ō (b5 ?_));change fx _ X.A (do let _ <-comprehension (.ListComp elt [⟨n,d,k,0⟩] scope pos) scope X.env _ (newList []) cK (K1 d X.env) (bD (YA (.Name y m) X.env))) _ _ s;show b5 (vu (Ŏ (use:=bD (YA (.Name y m) X.env)) (cl:=cz X.env scope.names []) (Q:=λ_ s'=>SP X f D .next s') rfl hs (fq (S.cells I.ok)) S.kind S.names ?_) (λ_ s' hq=>cL (cL hq)) λ_ _ e=>e);show Mb (hi f s σ H _ I h) λv s1 h1=>Mb h1 λTn q h2=>?_;have(it,fp,tn,J,H2,e,l,T,st2,f2,W):=h2;subst e;show mN (RR:=λu C=>compPost (gj X.prog X.w) X.A X.xe (bD (YA (.Name y m) X.env)) (λ_ s'=>SP X f D .next s') u C) S hc hg hf he l T st2 f2 W ?_;intro j C r G ys its hD hC L n5 Tz TB TC q5;have(m5,WE,_):=L.loc;have O:G C=b6:=L.free;have B:Inv X f σ (upd G j (.lst ys)) {r with heap:=r.heap}:=sN l L (ì hD.symm) ⋯ (gm (by change @Xf Nat _ j C;lia)) n5 Tz TB TC (OY ..) f2;change fx _ X.A (YA (.Name y m) X.env (.ref j)) _ _ r;show ϧ (pf (s:=r) B hN U8 (.inl hy) (show RelV (.ref j) (.ref j) from rfl) (λs6 I6 ⟨a,sb,ha⟩=>?_) (.inr hy));have U7:@Xf Nat _ X.env.locals C:=by have:@Xf Nat _ X.env.locals ↥q:=l.lt;lia
 have PR:∀x c,X.env.cells.lookup x≈c->c≠C:=λx c e=>by
  have(v,z):=l.cell x c e;have:@Xf Nat _ c ↥q:=z.lt
  grind
 have Y:C≠a:=by
  rcases ha with z|z
  .rw[z];show va U7
  .show(PR _ _ z).symm
 show#[m5,WE.sameBut sb Y,λh' TF=>?_];show#[σ.set i (bD (.ref j)),upd G j (.lst ys),I6.turned (it:=C) (t':=s6.toks) (λb o hb e=>(TF.2 b hb).trans e) ?_ (va U7) (.inr (by have:@LE.le Nat _ ↥X.s₀ ↥q:=l.sz;lia)) PR (λp hp=>?_),q5 j n5]
 .rw[aj (va ⋯)];show O
 .have:@Xf Nat _ p.1 ↥q:=fz (l.pin p hp).1
  grind
abbrev WG(x:Str):It:=#[λi _=>i<⇑x.cps.toList,λi H v H'=>H'=H/\∃c,(x.cps.toList)[i]?≈c/\v=.str #[#v[c]],λi _=>⇑x.cps.toList<=i]
def sO{K}(it)(D:["enumerate","zip","dict_itemiterator","dict_reverseitemiterator","odict_iterator","itertools.zip_longest","itertools.pairwise"].contains g=cK)
  (G:∀A (s:k9) i c Q E,s.heap.IsStrIter it g x t i->x.cps[i]?≈c->(∀h',h'.IsStrIter it g x t (i+1)->p8 it s.heap h'->Q (bD (.str #[#v[c]] s.toks)) {s with heap:=h',toks:=s.toks+1})->fx (gj P w) A (Vk (.ref it)) Q E s)
  (J:∀A s i Q E,A.handled=b6->s.heap.IsStrIter it g x t i->x.cps[i]?=b6->(∀h',û it s.heap h'->Q b6 {s with heap:=h' })->fx (gj P w) A (Vk (.ref it)) Q E s)
  (L:∀A i s Q E,s.heap.IsStrIter it g x t i->Q (.ref it) s->fx (gj P w) A (ĕ (.ref it)) Q E s) :
  Turn P w K tg (WG x) [it] it (λi h=>h.IsStrIter it g x t i) where
 mem:=⋯
 obj:=λi h st b f=>by
  have e:b=it:=by simpa using f
  subst e;have(o,e,c,d):=st;simp_all
 keep:=λi h h' st k=>let ⟨o,ho,r⟩:=st;⟨o,k it ⋯ o ho,r⟩
 item:=by
  intro X l m n B i a s σ H E I j st p;subst l m n;have(q,u,N,v,y,z):=j it ⋯;have C:i<⇑x.cps.toList:=p;show G X.A s i (x.cps.toList)[i] _ _ st ⋯ λh' st' O=>?_;have T:Inv X a σ H {s with heap:=h',toks:=s.toks+1}:=I.turned (λb o f e=>(O.2 b f).trans e) q u v y z;have(o,e,Y,d):=id st';show#[_,rfl,sC  e Y d D #[.str _,H,T,#[_,rfl],#[rfl,_,by simp,rfl],st',λb f=>(j b f).1]]
 done:=by
  intro X l m n B i a s σ H E I j st p;subst l m n;have(q,u,N,v,y,z):=j it ⋯;have C:⇑x.cps.toList<=i:=p;show J X.A s i _ _ (I.ok.hd B) st (by simpa using C) λh' eb=>#[rfl,I.turned (t':=s.toks) (λb o f e=>eb b o f e) q u v y z]
 self:=λA i s Q E st h=>L A i s Q E st h
abbrev Lz(tl:TE):TI:=λσ H R=>tl σ H λv a=>∃x,v=.str x/\R (WG x) a
def Hm(hl:PE X l tl):PI X w l (Lz tl):=by
 intro d s σ H R I h;show Mb (hl d s σ H _ I h) λv s1 n=>?_;have(x,j,g,p,r):=n;have(z,rfl,q):=r;have(t,rfl):=p;have k:∀b∈[↥s1],iO X d j b:=λb u=>by
  have e:=by simpa using u
  subst e;show g.qq (gi _) (g.L7.fresh (gi _))
 cases m:z.cps.all (·<128) with
 |true =>
  show wpAny_pyIter_ascii m ?_;show#[_,_,_,_,j,rfl,g.kept (t':=s1.toks) λb o e=>cc _ e,
   sO (x:=z) (t:=t) _ ⋯ (λA s i c Q E st f a=>wpAny_pyNext_ascii_item st f a) (λA s i Q E hh st f a=>wpAny_pyNext_ascii_end hh st f a) (λA i s Q E st a=>wpAny_pyIter_striter_ascii st a),
   #[_,eW _ rfl,rfl,rfl],k,q]
 |false =>
  show wpAny_pyIter_wide m ?_;show#[↥s1,_,_,_,j,rfl,g.kept (t':=s1.toks) λb o e=>cc _ e,
   sO (x:=z) (t:=t) _ ⋯ (λA s i c Q E st f a=>wpAny_pyNext_wide_item st f a) (λA s i Q E hh st f a=>wpAny_pyNext_wide_end hh st f a) (λA i s Q E st a=>wpAny_pyIter_striter_wide st a),
   #[_,eW _ rfl,rfl,rfl],k,q]
abbrev JT:V->Option Int->Option Int->Hp->VK->Prop:=λx lo hi H Q=>∃z,x=.str z/\⇑z<=dt/\Q (.str (PySem.StrLaws.sliceText z lo hi)) H
def oR(x)(lo hi)(hz:⇑x<=dt):⇑(PySem.StrLaws.sliceText x lo hi)<=dt:=H8 (Txt.slice_le x lo hi) hz
def Hn:QY X JT:=by
 intro b s σ H x v m n lo hi o Q I f hs g d h;have(z,rfl,hz,q):=h;have(t,rfl):=f;show#["str",_,aad.lookup,VV _ _ _,?_];have a:⇑(PySem.StrLaws.sliceText z lo hi)<=dt/\∀t' k,EP X b σ Q (.str _ t') _:=#[oR z lo hi hz,λt' k=>#[.str _,H,I.tok k,#[_,rfl],q]]
 cases g with
 |none =>
  cases d with
  |none=>show We (l:=b6) (u:=b6) (st:=b6) hs rfl (Ì a)
  |int j c=>show We (l:=b6) (u:=bD (j,c)) (st:=b6) hs rfl (Ì a)
 |int i e =>
  cases d with
  |none=>show We (l:=bD (i,e)) (u:=b6) (st:=b6) hs rfl (Ì a)
  |int j c=>show We (l:=bD (i,e)) (u:=bD (j,c)) (st:=b6) hs rfl (Ì a)
def sP:Rw X "str.endswith" (λx xs H Q=>∃a b,x=.str a/\xs=[.str b]/\Q (.bl (ϻ a b)) H):=by
 intro c s σ H x xs v us Q I d rs h;have(a,b,rfl,rfl,q):=h;have(t,rfl):=d;have(u,rfl,t',rfl):=vals1 rs;show SC.endswith #[.bl _,H,I,rfl,q]
def qL:Rw X "str.partition" (λx xs H Q=>∃a b,x=.str a/\xs=[.str b]/\(⇑b==0)=cK/\⇑a<=dt /\
  ∀p,H p=b6->Q (.ref p) (upd H p (.tup [.str (td a b).1,.str (td a b).2.1,.str (td a b).2.2]))):=by
 intro d s σ H x xs v us Q I j rs h;have(a,b,rfl,rfl,l,hz,q):=h;have(t,rfl):=j;have(u,rfl,t',rfl):=vals1 rs;show SV F.slot_str_partition (VV _ _ _) F.entry_str_partition (F.args_str_partition_2 _ _) (meets_str_partition a b t t' l hz) ?_;have m:H ↥s=b6:=I.L7.fresh (gi _);have n:=q _ m;have c:∀f g i k,EP X d σ Q (.ref ↥s) {s with toks:=k,heap:=s.heap.push {cls:=.type "tuple",data:=.seq _}}:=λf g i k =>
  #[.ref ↥s,_,I.laid (t':=k) (o:=.tup [.str (td a b).1,.str (td a b).2.1,.str (td a b).2.2]) (λb u e=>cc _ e) (gi _)
   ⟨by change 3<=dt;decide,_,.cons ⟨f,rfl⟩ (.cons #[g,rfl] (.cons #[i,rfl] .nil)),⟨_,eW _ rfl,rfl,_,rfl⟩⟩,rfl,n]
 revert c;unfold td;cases MG a b 0 ⇑a 1 with
 |_=>intro c;show c _ _ _ _
theorem pB:∀l,Vals (l.map λp=>V.str p.1) (Ś l)
 |[]=>.nil
 |(x,t)::r=>.cons #[t,rfl] (pB r)
theorem fX:∀{a}{its},Vals (a.map V.str) its->∃l,its=Ś l/\l.map (·.1)=a
 |[],_,.nil=>#[[],rfl,rfl]
 |y::a,_,.cons r t=>by
  have(b,rfl):=r;have(l,rfl,e):=fX t;show#[(y,b)::l,rfl,by simp_all]
def Aw:Rw X "str.split" (λx xs H Q=>∃a b,x=.str a/\xs=[.str b]/\(⇑b==0)=cK/\⇑a+2<=dt /\
  ∀p,H p=b6->Q (.ref p) (upd H p (.lst ((RG a b).map V.str)))):=by
 intro g s σ H x xs v us Q I j rs h;have(x,y,rfl,rfl,i,hz,q):=h;have(t,rfl):=j;have(r,rfl,u,rfl):=vals1 rs;have d:=I.L7.fresh (gi _);have m:=q _ d;have c:∀l k,⇑l<=dt->l.map (·.1)=RG x y->EP X g σ Q (.ref ↥s) {s with toks:=k,heap:=s.heap.push {cls:=.type "list",data:=.seq (Ś l).toArray}}:=λl k hl e =>
  #[.ref ↥s,_,I.laid (t':=k) (o:=.lst ((RG x y).map V.str)) (λb u e=>cc _ e) (gi _)
   ⟨by rw[<-e,df,df];show hl,Ś l,_,by rw[<-e,fR];show pB l,eW _ rfl⟩,rfl,m]
 have one:1<=dt:=⋯
 cases f:(dV (⇑x<⇑y)||decide (Ď x<Ď y))
 .cases d:(MG x y 0 ⇑x (⇑x+1)).isEmpty
  .have n:⇑(Xr x (MG x y 0 ⇑x (⇑x+1)) ⇑y)<=dt:=by
    have:=PySem.StrLaws.occ_length_le x y 0 ⇑x (⇑x+1);simp only[Xr,df,Zf,nz,ko];lia
   show SV ċ (VV _ _ _) ü (è _ _) (meets_str_split_sep x y t u f i d ⋯ n) ?_;rw[strsFrom_eq];show c (numbered s.toks _) _ ?_ ((numbered_texts _ _).trans ((if_neg (ne_true_of_eq_false f)).trans (if_neg (ne_true_of_eq_false d))).symm);have e:=congrArg K2 (numbered_texts s.toks (Xr x (MG x y 0 ⇑x (⇑x+1)) ⇑y));simp_all
  .show SV ċ (VV _ _ _) ü (è _ _) (meets_str_split_not_found x y t u f i d)
    (c [(x,t)] _ one ((if_neg (ne_true_of_eq_false f)).trans (if_pos d)).symm)
 .show SV ċ (VV _ _ _) ü (è _ _) (meets_str_split_cannot_occur x y t u f)
   (c [(x,t)] _ one (if_pos f).symm)
def DX:Rw X "str.join" (λx xs H Q=>∃a p b,x=.str a/\xs=[.ref p]/\Mz X.K H p (b.map V.str)/\Å a b=cb/\Q (.str (Q2 a b)) H):=by
 intro c s σ H x xs v us Q I d rs h;have(a,p,b,rfl,rfl,f,g,q):=h;have(t,rfl):=d;have(u,rfl,r):=vals1 rs;cases r;have(its,rv,i,hz):=I.list f;have(l,rfl,e):=fX rv;show SC.join i.isList e g λt' k=>#[.str _,H,I.tok k,#[_,rfl],q]
theorem la:∀{bs:↑Bool}{its},Vals (bs.map V.bl) its->its=bs.map Ñ
 |[],_,.nil=>rfl
 |b::bs,_,.cons r t=>by
  cases r;rw[la t];rfl
def Ax:X.calm=cb->eE X (.builtin "all") (λxs H Q=>∃(p:k7) (bs:↑Bool),xs=[.ref p]/\Mz X.K H p (bs.map V.bl)/\Q (.bl (bs.all id)) H):=by
 intro g d s σ H xs us Q I rs h;have(p,bs,rfl,j,q):=h;have(u,rfl,r):=vals1 rs;cases r;have(its,rv,a,hz):=I.list j;have e:=la rv;subst e;have k:p<↥s:=by have(_,_,e,_):=a;show fz e
 show call_all_walk (Wv a.isList ?_);show#[_,_,_,_,_,_,λi=>(bs[i]?).getD cb,rfl,ĉ (A:=X.A.in1) (I.ok.hd g) _ p (gm k) _,
  #[#[_,eW _ rfl,rfl,rfl],a.isList.push _],λi v m n o t f=>?_,λh' l hk=>?_]
 .have c:(bs.map Ñ)[i]?≈v:=⋯
  rw[hU]at c;cases e:bs[i]? with
  |none=>simp_all
  |some b =>
   rw[e]at c;cases c;simp only[e]at f;show Q5 f
 .have e:((fS (bs.map Ñ).toArray.size).all λi=>(bs[i]?).getD cb)=bs.all id:=by
   rw[ri,df];show ό bs
  rw[e];show#[.bl _,H,I.kept (t':=l) (ύ hk),rfl,q]
abbrev DY(N a:↑Str)(scope:TH)(out:↑(Str×Χ)):Bool :=
 dV (scope.kind=.function)&&scope.names.all (λy=>dV (scope.names.lookup y.1≈y.2))&&scope.names.all (λy=>dV (y.2≠.cell)||decide (y.1∈a))&&decide N.Nodup&&dV (N.take ⇑a=a) &&
 scope.names.all (λy=>dV (y.2≠.local)||decide (y.1∈a)||decide (y.1=".0"))&&dV ((".0":Str)∉N)&&scope.names.all (λy=>dV (y.2≠.free)||decide (out.lookup y.1≈.cell)||decide (out.lookup y.1≈.free))&&scope.names.all (λy=>dV (y.1≠".")&&dV (y.1≠".."))
def uY(c:X.env.scope.names=out)(d:ff (N.drop ⇑a) X.N)(h:DY N a scope out=cb):cT X N a scope:=by
 unfold DY at h;simp only[et,nH,Vj,decide_eq_true_eq]at h;obtain⟨⟨⟨⟨⟨⟨⟨⟨f,g⟩,i⟩,j⟩,k⟩,l⟩,m⟩,n⟩,o⟩:=h;show#[f,g,λy b e=>?_,j,k,λy b e=>?_,m,d,λy b e=>?_,o]
 .rcases i y b with z|z
  .show absurd e z
  .show z
 .rcases l y b with(z|z)|z
  .show absurd e z
  .show .inl z
  .show .inr z
 .rw[c];rcases n y b with(z|z)|z
  .show absurd e z
  .show .inl z
  .show .inr z
inductive aE(prog:vl)(w:OE)(h:Qy)(k:Str×↑Str)(a:k7):Prop
 |mk:∀o n t b,h.get? a≈o->o.cls=.type "tuple"->o.data=.seq #v[.str k.1 t,.ref b] n->ú (PySem.strKind prog w) h k.2 b->aE prog w h k a
def aE.typeIs{s:k9}(x:aE prog w s.heap k a):s.TypeIs (.ref a) "tuple":=let ⟨o,_,_,_,ho,b,_,_⟩:=x;⟨o,ho,b⟩
def aE.inj(e:aE prog w h x a)(f:aE prog w h y a):x=y:=by
 have(o,n,t,b,ho,_,g,hi):=e;have(o',m,t',p,i,_,c,j):=f;obtain rfl:o=o':=Qb (ho.symm.trans i);rw[g]at c;injection c with d _
 simp only[Array.mk.injEq,UC,Value.str.injEq,Value.ref.injEq,and_true]at d;have((k,_),l):=d;subst l;show æ k (hi.inj j)
def aE.keeps(x:aE prog w h k a)(ho:h.get? d≈o)(c:o.data=.dict es ep)(hs:p8 d h h'):aE prog w h' k a:=by
 have(o',n,t,b,e,f,g,hi):=x;have i:a≠d:=by
  grind
 show#[o',n,t,b,(hs.2 a i).trans e,f,g,hi.keeps ho c hs]
abbrev jw(prog:vl)(w:OE)(k:Str×↑Str):Int:=reduceHash (OI [(PySem.strKind prog w).hash k.1,WD (PySem.strKind prog w) k.2])
abbrev Ay(prog:vl)(w:OE)(hh:Qy)(v:hY)(n:Int)(d:Nat):Prop :=
 ∀{A:YJ} {E:hY->k9->Prop} {s:k9} {Q:Int->k9->Prop},s.heap=hh->A.units<MJ->Q n {s with toks:=s.toks+d}->fx (gj prog w) A (pyHash v) Q E s
def uZ(x)(t):Ay prog w hh (.str x t) ((PySem.strKind prog w).hash x) 1:=λ_ _ h=>(PySem.strKind prog w).pyHash (by simp[PySem.strKind,Rm]) h
def qM(hk:ú (PySem.strKind prog w) hh ks b):Ay prog w hh (.ref b) (WD (PySem.strKind prog w) ks) (⇑ks+1):=λe a h=>by
 subst e;show wpAny_pyHash_tuple a hk h
def ft(p:A.units+1<MJ)(hk:aE prog w s.heap k a)(h:Q (jw prog w k) {s with toks:=s.toks+(⇑k.2+3)}):
  fx (gj prog w) A (pyHash (.ref a)) Q E s:=by
 have g:=hk.typeIs;have(o,n,t,b,ho,_,m,hi):=hk;unfold pyHash
 first|unfold pyHashByItsType|skip
 first|show b5 (wpAny_cRoomFor_or (.inr ⋯) ?_)|skip
 show b5 (Rr g F.slot_tuple_hash.lookup ?_);change fx _ _ (if (bD (ϊ "tuple.__hash__")==bD qP)=cb then _ else _) Q E s;rw[if_neg ⋯];show b5 (Rr g F.slot_tuple_hash.lookup ?_);change fx _ _ (callSpecialIfBoundUnlessNone? (.ref a) "__hash__" _ >>= _) Q E s;show b5 (wpAny_callSpecialIfBoundUnlessNone?_slot g F.slot_tuple_hash (wh F.slot_tuple_hash g F.entry_tuple_hash ?_ (F.args_tuple_hash_1 _)));change fx _ _ (aaa (.ref a) >>= _) _ _ s;show b5 (ù ho m ?_);show b5 ?_;rw[<-Ou];show RP _
  (λc (d:Array Int) f=>(c=[ti k.1 t,gs b]/\d=#v[]/\f=s)\/(c=[gs b]/\d.toList=[(PySem.strKind prog w).hash k.1]/\f={s with toks:=s.toks+1}) \/
   (c=[]/\d.toList=[(PySem.strKind prog w).hash k.1,WD (PySem.strKind prog w) k.2]/\f={s with toks:=s.toks+1+(⇑k.2+1)}))
  _ ?_ ?_ _ _ (.inl #[rfl,rfl,rfl])
 .rintro x c d f (⟨e,rfl,rfl⟩|⟨e,i,rfl⟩|⟨e,_,_⟩)
  .cases e;show b5 (uZ k.1 t (hh:=f.heap) rfl ⋯ ?_)
   first
    |show cL (.inr (.inl #[rfl,rfl,rfl]))
    |show b5 (cL (cL (.inr (.inl #[rfl,rfl,rfl]))))
  .cases e;show b5 (qM hi rfl ⋯ ?_)
   first
    |show cL (.inr (.inr #[rfl,by simp[i],rfl]))
    |show b5 (cL (cL (.inr (.inr #[rfl,by simp[i],rfl]))))
  .cases e
 .rintro d f (⟨e,_,_⟩|⟨e,_,_⟩|⟨_,i,rfl⟩)
  .cases e
  .cases e
  .change fx _ _ (retInt (OI d.toList)) _ _ _;rw[i];show wpAny_ret_mkInt ?_;have l:s.toks+1+(⇑k.2+1)+1=s.toks+(⇑k.2+3):=⋯
   change fx _ _ (if (dV (-(2:Int) ^ 63<=OI [(PySem.strKind prog w).hash k.1,WD (PySem.strKind prog w) k.2])&&dV (OI [(PySem.strKind prog w).hash k.1,WD (PySem.strKind prog w) k.2]<2 ^ 63))=cb then _ else _) Q E _;unfold jw reduceHash at h;by_cases j:(dV (-(2:Int) ^ 63<=OI [(PySem.strKind prog w).hash k.1,WD (PySem.strKind prog w) k.2])&&dV (OI [(PySem.strKind prog w).hash k.1,WD (PySem.strKind prog w) k.2]<2 ^ 63))=cb
   .rw[if_pos j];rw[if_pos j]at h;show cL (by rw[l];show h)
   .rw[if_neg j];rw[if_neg j]at h;show b5 (Qt (cL (by rw[l];show h)))
def sQ(m:A.units<MJ)(n:aE prog w s.heap x a)(i:aE prog w s.heap y b)(h:P (.done (.ret (.bool (dV (x=y))))) s):
  fx (gj prog w) A (Ti.«tuple.__eq__» ⟨[.ref a,.ref b],[]⟩) P E s:=by
 have d:=i.typeIs;have(H,I,o,j,p,_,q,t):=n;have(J,L,B,k,C,_,D,f):=i;change fx _ _ (isInstance (.ref b) _ >>= _) _ _ s;show b5 (Nt d Ï ?_);show b5 (ù p q ?_);show b5 (ù C D ?_);show b5 ?_;show RP _
  (λc r g=>r.1=b6/\g=s/\((c=[(ti x.1 o,ti y.1 B),(gs j,gs k)])\/(c=[(gs j,gs k)]/\x.1=y.1)\/(c=[]/\x=y)))
  _ ?_ ?_ _ _ #[rfl,rfl,.inl rfl]
 .rintro⟨u,v⟩ c r g ⟨l,rfl,(e|⟨e,G⟩|⟨e,_⟩)⟩
  .cases e;show b5 ((PySem.strKind prog w).eqBool (a:=x.1) (b:=y.1) (by simp[PySem.strKind,Rm]) (by simp[PySem.strKind,Rm]) ?_);by_cases hk:x.1=y.1
   .rw[decide_eq_true hk];show cL #[rfl,rfl,.inr (.inl #[by simp,hk])]
   .rw[decide_eq_false hk];rw[decide_eq_false (λz=>hk (by rw[z]))]at h;show b5 (cL (cL (cL h)))
  .cases e;show b5 (wpAny_eqBool_tuple m t f ?_);by_cases hk:x.2=y.2
   .rw[decide_eq_true hk];show cL #[rfl,rfl,.inr (.inr #[by simp,æ G hk])]
   .rw[decide_eq_false hk];rw[decide_eq_false (λz=>hk (by rw[z]))]at h;show b5 (cL (cL (cL h)))
  .cases e
 .rintro⟨N,O⟩ g ⟨l,rfl,(e|⟨e,_⟩|⟨_,rfl⟩)⟩
  .cases e
  .cases e
  .subst l;show cL ?_;rw[decide_eq_true rfl]at h;show h
def fu(g:A.units+2<MJ)(c:aE prog w s.heap x a)(d:aE prog w s.heap y b)(h:Q (dV (x=y)) s):
  fx (gj prog w) A (eqBool (.ref a) (.ref b)) Q E s:=by
 unfold eqBool
 try with_reducible show qI ?_
 by_cases f:(gs a==gs b)=cb
 .rw[if_pos f];have e:a=b:=⋯
  subst e;obtain rfl:=c.inj d;show b5 (Qt (cL ⋯))
 .rw[if_neg f];show b5 (wpAny_richCompare_same_room  c.typeIs d.typeIs F.slot_tuple_eq
   (wh F.slot_tuple_eq c.typeIs F.entry_tuple_eq (sQ (by grind) c d #[_,rfl,(λe=>nomatch e),Q5 h]) (F.args_tuple_eq_2 _ _)) ⋯)
def jx(hk:ú (PySem.strKind prog w) s.heap ks a)(h:Q cb s):fx (gj prog w) A (Ŝ (n+1) (.ref a)) Q E s:=by
 have e:=hk.typeIs;have(o,c,k,ho,_,i,hi):=hk;unfold Ŝ;show b5 (Rr e F.slot_tuple_eq.lookup ?_);show b5 (Nt e Ï ?_);show b5 (w6 ho i ?_);show b5 ?_;rw[<-Ou];show RP _ (λb r d=>r.1=b6/\d=s/\∀v∈b,carriedByValue v=cb) _ ?_ ?_ _ _ ⟨rfl,rfl,hi.byValue⟩
 .rintro v b r d ⟨f,rfl,g⟩;rw[eqIsQuiet_byValue _ (g v kj)];show cL #[rfl,rfl,λu j=>g u (ke _ j)]
 .rintro⟨l,m⟩ d ⟨f,rfl,_⟩;subst f;show cL h
def dW(hk:aE prog w s.heap k a)(h:Q cb s):fx (gj prog w) A (Ŝ 8 (.ref a)) Q E s:=by
 have f:=hk.typeIs;have(o,n,t,b,ho,_,i,hi):=hk;unfold Ŝ;show b5 (Rr f F.slot_tuple_eq.lookup ?_);show b5 (Nt f Ï ?_);show b5 (w6 ho i ?_);show b5 ?_;rw[<-Ou];show RP _ (λc r d=>r.1=b6/\d=s/\(c=[ti k.1 t,gs b]\/c=[gs b]\/c=[])) _ ?_ ?_ _ _ ⟨rfl,rfl,.inl rfl⟩
 .rintro v c r d ⟨g,rfl,(e|e|e)⟩
  .cases e;show cL #[rfl,rfl,.inr (.inl ⋯)]
  .cases e;show b5 (jx hi ?_);show cL #[rfl,rfl,.inr (.inr ⋯)]
  .cases e
 .rintro⟨j,l⟩ d ⟨g,rfl,_⟩;subst g;show cL h
abbrev lU(prog:vl)(w:OE):HeapKind prog w (Str×↑Str) where
 is:=aE prog w
 hash:=jw prog w
 draws:=λk=>⇑k.2+3
 room:=λA=>A.units+2<MJ
 inj:=λa b=>a.inj b
 keeps:=λx ho d hs=>x.keeps ho d hs
 pyHash:=λc hk h=>ft ⋯ hk h
 eqBool:=λc a b h=>fu c a b h
 quiet:=λhk h=>dW hk h
@[reducible]noncomputable def iS:=Str×↑Str
abbrev fw(K:W.Frag)(H:Hp)(v:V)(k:iS):Prop:=∃a b,v=.ref a/\MA K H a [.str k.1,.ref b]/\MA K H b (k.2.map V.str)
abbrev mO(P:vl)(w:OE)(d:k7)(xs:↑(iS×k7×hY)):HO:=.ext λh=>(d==OV)=cK/\∃o es ep,h.get? d≈o/\o.ExactDict/\o.data=.dict es ep/\es.toList=xs.map (entryOfKey (lU P w))/\(xs.map (·.1)).Nodup
abbrev gz(P:vl)(w:OE)(K:W.Frag)(H:Hp)(d:k7)(ks:↑iS):Prop:=∃xs,H d≈mO P w d xs/\xs.map (·.1)=ks/\∀x∈xs,fw K H (.ref x.2.1) x.1
theorem mP:∀{ks}{its},Vals (ks.map V.str) its->ItemsAre (PySem.strKind P w) ks its
 |[],_,.nil=>.nil
 |k::ks,_,.cons r t=>by
  have(a,rfl):=r;show .cons (by simp[PySem.strKind,Rm]) (mP t)
def DZ(I:Inv X a σ H s)(e:MA X.K H b (ks.map V.str)):ú (PySem.strKind X.prog X.w) s.heap ks b:=by
 have(its,r,(o,c,d,n,f),_):=I.tuple e;show#[o,_,n,c,d,f,by simpa using mP r]
def jy(I:Inv X d σ H s)(e:fw X.K H (.ref a) k):aE X.prog X.w s.heap k a:=by
 have(a',b,q,f,g):=e;cases q;have(its,r,(o,h,i,n,j),_):=I.tuple f;cases r with
 |cons l c =>
  cases c with
  |cons c m =>
   cases m;have(t,rfl):=l;cases c;show#[o,n,t,b,h,i,j,DZ I g]
def Inv.LA(I:Inv X a σ H s):OV<↥s:=by
 have(o,es,ep,ho,_):=I.mod.glob;have b:=fz (I.bk _ _ ho);have(e,(o',f,g,c,_),_):=I.mod.blt;have d:=fz (I.bk _ _ c);revert b d;change @Xf Nat _ _ _->@Xf Nat _ _ _->@Xf Nat _ _ _;unfold O_ Ļ OV;lia
def mQ(I:Inv X a σ H s)(h:H d≈mO X.prog X.w d xs)(hk:∀x∈xs,fw X.K H (.ref x.2.1) x.1):(d==OV)=cK/\s.heap.DictOfH (lU X.prog X.w) d xs:=by
 have((b,o,es,ep,c,e,f,g,i),_):=I.L7 d _ h;show#[b,o,es,ep,c,e,f,g,λx j=>jy I (hk x j),i]
def Gb(b:(d==OV)=cK)(x:h.DictOfH (lU P w) d xs):bN P w H' h d (mO P w d xs):=by
 have(o,es,ep,a,c,e,f,_,g):=x;show#[#[b,o,es,ep,a,c,e,f,g],#[o,a],λq a ⟨i,o,es,ep,j,l,m,n,p⟩ k=>#[i,o,es,ep,k _ j,l,m,n,p]]
def D0:PE X (.Dict [] [] pos) (λ_ H Q=>∀p,H p=b6->Q (.ref p) (upd H p (mO X.prog X.w p []))):=λa s σ H Q I h =>
 ϸ #[.ref _,_,I.laid    (λ_ _ q=>cc _ q) (gi _)
  (Gb (beq_eq_false_iff_ne.mpr (ve (gm I.LA))) (aak _)),rfl,h _ (I.L7.fresh (gi _))]
def iT(k:iS):(Ĉ xs k).isSome=dV (k∈xs.map (·.1)):=by
 unfold Ĉ
 grind
def yU(o:X.A.units+3<MJ):NG X (RW .NotIn) (λx y H Q=>∃k d ks,fw X.K H x k/\y=.ref d/\gz X.prog X.w X.K H d ks/\Q (.bl (!dV (k∈ks))) H):=by
 intro c s σ H x y v u Q I f g h;have(k,d,ks,e,rfl,(xs,i,j,l),q):=h;cases g;have(a,b,rfl,p,r):=id e;cases f;have(m,n):=mQ I i l;show aac   (by assumption) (jy I e) m n ?_;rw[iT,j];show#[.bl _,H,I.tok _,rfl,q]
def D3(hu:X.A.units+3<MJ):mF X (λo i v H Q=>∃d k ks,o=.ref d/\fw X.K H i k/\gz X.prog X.w X.K H d ks/\k∉ks/\⇑ks<=1000/\∀H',gz X.prog X.w X.K H' d (ks++[k])->(∀b,b≠d->H' b=H b)->Q H'):=by
 intro l s σ H o i v ov iv u Q I p r rv h;have(d,k,ks,rfl,hi,(xs,c,t,n),hn,hl,q):=h;cases p;have(a,b,rfl,e1,e2):=id hi;cases r;have(B,C):=mQ I c n;have D:⇑xs<=dt:=by
  have:=congrArg K2 t;rw[df]at this;rw[this];show Rt (yQ hl)
 show ϓ (hsz:=D) (knd:=lU X.prog X.w) (k:=k) (by assumption) (jy I hi) C λh' f G=>?_;have J:Ĉ xs k=b6:=by
  have:=iT (xs:=xs) k;simp_all
 rw[storedH_new J]at f;have(o',G',O0,L,_):=id f;show#[upd H d (mO X.prog X.w d (xs++[(k,a,u)])),I.write (x:=d) (e:=d) (by rw[c];show Ô) (.inl rfl) (λb q g z=>(G.2 b g).trans z) ⟨o',L⟩ (Gb B f),q _ #[_,av,by simp_all,λx N=>?_] λb g=>aj g];have kT:∀{a':k7} {j:↑V},MA X.K H a' j->MA X.K (upd H d (mO X.prog X.w d (xs++[(k,a,u)]))) a' j:=λ{a' j} z=>by
  rcases z with(z|⟨o,z⟩)|z
  .show .inl (.inl (by rw[aj (zU z c (λz=>nomatch z))];show z))
  .show .inl (.inr #[o,by rw[aj (zU z c (λz=>nomatch z))];show z])
  .show .inr z
 have keep:∀{y:V} {k':iS},fw X.K H y k'->fw X.K (upd H d (mO X.prog X.w d (xs++[(k,a,u)]))) y k':=λ{y k'} ⟨a',O,T,Y,z3⟩=>#[a',O,T,kT Y,kT z3]
 rcases ki.mp N with m|m
 .show keep (n x m)
 simp_all
abbrev N6(a b:Str):Bool:=!dV ((b.cps.toList)<(a.cps.toList))
def jz(a b):N6 a b=cb↔(a.cps.toList)<=(b.cps.toList):=by
 simp only[N6,Sf,decide_eq_false_iff_not];rfl
def pC(a b c)(d:N6 a b=cb)(e:N6 b c=cb):N6 a c=cb:=by
 rw[jz]at d e ⊢;show List.le_trans d e
def yV(a b):(N6 a b||N6 b a)=cb:=by
 rw[Vj,jz,jz];show List.le_total _ _
def sR{x y:Str}(h:(x.cps.toList)=(y.cps.toList)):x=y:=by
 cases x;simp_all
def qN(c:N6 a b=cb)(d:N6 b a=cb):a=b:=by
 rw[jz]at c d;show sR (Ε c d)
abbrev aD(l:↑Str):↑Str:=l.mergeSort N6
def aS(l):(aD l).Perm l:=List.mergeSort_perm l N6
def c9(l):(aD l).Pairwise (λa b=>N6 a b=cb):=List.pairwise_mergeSort pC yV l
theorem jA:∀l p,risingS p l=cb->(p::l).Pairwise (λa b=>N6 a b=cb)
 |[],p,_=>by simp
 |x::r,p,h=>by
  have h':=h;have(d,g):=Qq.mp h';have f:=jA r x g;have c:N6 p x=cb:=by rw[ltCps_eq]at d;show d
  show XT.mpr #[λy i=>?_,f];rcases f6.mp i with e|e
  .rw[e];lia
  .show pC _ _ _ c ((XT.mp f).1 y e)
def qO(h:sortedS l=cb):l.Pairwise (λa b=>N6 a b=cb):=by
 cases l with
 |nil=>simp
 |cons x r=>show jA r x h
theorem eh:∀{l m:↑Str},l.Perm m->l.Pairwise (λa b=>N6 a b=cb)->m.Pairwise (λa b=>N6 a b=cb)->l=m
 |[],m,c,_,_=>(List.Perm.nil_eq c)
 |x::l,m,c,f,g=>by
  cases m with
  |nil=>simp_all
  |cons y m =>
   have(h,i):=XT.mp f;have(b1,j):=XT.mp g;have d:x=y:=by
    have m1:=c.mem_iff.mp kj;have m2:=c.mem_iff.mpr kj;rcases f6.mp m1 with e|e
    .show e
    .rcases f6.mp m2 with e'|e'
     .show e'.symm
     .show qN (h y e') (b1 x e)
   subst d;rw[eh (List.Perm.cons_inv c) i j]
def Az(a:l.Perm m)(hs:sortedS l=cb):l=aD m:=eh (a.trans (aS m).symm) (qO hs) (c9 m)
def cW(a:l.Perm m):aD l=aD m:=eh ((aS l).trans (a.trans (aS m).symm)) (c9 l) (c9 m)
def cE(l):⇑(aD l)=⇑l:=(aS l).length_eq
theorem cU:∀{a}{its},Vals (a.map V.str) its->XM its a
 |[],_,.nil=>.nil
 |y::a,_,.cons r t=>by
  have(b,rfl):=r;show .cons y b (cU t)
theorem d7:∀{its}{a},XM its a->Vals (a.map V.str) its
 |_,_,.nil=>.nil
 |_,_,.cons x t h=>.cons #[t,rfl] (d7 h)
theorem fY(hc:fx (gj prog w) A.in1 (ť x) (λvs s1=>∃ss,XM vs ss/\vs.length<64 /\
      ∀h' MD e,(∀b o,s1.heap.get? b=bD o->h'.get? b=bD o)->h'.get? s1.heap.objs.size=bD (M7 "list" MD.toArray e)->XM MD (aD ss)->Q (.ref s1.heap.objs.size) {s1 with heap:=h' }) E s) :
    fx (gj prog w) A (TN (.builtin "sorted") [x]) Q E s:=by
  refine X5 π ů ű (Ų _) ?_;unfold Ti.«sorted»;refine b5 (m:=ϙ "sorted" 1 1 _) (cL ?_);refine b5 (vu hc (λvs s1 h1=>?_) λ_ _ e=>e);obtain⟨ss,hS,Ol,h⟩:=h1
  refine wpAny_bind (wpAny_newList ?_ (by have : (64 : Nat) ≤ sizeLine := by decide
                                          lia))
  have O4:(s1.heap.push (M7 "list" vs.toArray 0)).get? s1.heap.objs.size=bD (M7 "list" vs.toArray 0):=eW _ rfl;show fx _ _ _ _ _ {s1 with heap:=s1.heap.push (M7 "list" vs.toArray 0)};refine b5 (qI (wh ľ ⟨_,O4,rfl⟩ ī (list_sort_treeK strKind_oneLt O4 hS.keysOf (λv₁ v₂ rest e=>keyKind_strs (by rw[<-e];exact hS)) Ol λst' a1 a2=>⟨_,rfl,?_⟩) (Ŀ _)));obtain⟨Oq,b1,b2,b3⟩:=sorted_out_str hS a1 a2;obtain⟨e,he⟩:=Ŕ (out:=(arrOf st').map (·.2)) O4;rw[Az b2 b3]at b1;refine cL ⟨_,rfl,h _ ((arrOf st').map (·.2)).toList e (λb o q=>?_) (by rw[Ń];exact he) b1⟩;have Mm:b<s1.heap.objs.size:=fz q;show(Ľ (s1.heap.push (M7 "list" vs.toArray 0)) s1.heap.objs.size vs ((arrOf st').map (·.2))).get? b=bD o;rw[ļ (gm Mm) (by rw[S0];exact QA Mm)];exact cc _ q
def oS(hl:IsTup s.heap l vs.toArray)
  (h:Q vs {s with heap:=(s.heap.push (M7 "list" #v[] 0)).update ↥s (uv (·++vs.toArray))}) (hsz:⇑vs<=dt) :
  fx (gj prog w) A (ť (.ref l)) Q E s:=by
 have(o,ho,b,n,c):=id hl;unfold ť;show b5 (ķ (Pr entry_proto_collect' ?_));show b5 (î (cL #[Ş _ (by decide +kernel),Pr entry_list_iadd' ?_]));change fx _ _ (NW (.ref ↥s) (.ref l) (.ref ↥s)) _ _ {s with heap:=s.heap.push (M7 "list" #v[] 0)};unfold NW;have a:(s.heap.push (M7 "list" #v[] 0)).get? l≈o:=cc _ ho;show b5 (UX (T:="tuple") #[o,a,b] ?_);rw[if_pos ⋯];show b5 (Ű a c ?_);show b5 (Ű (xs:=#v[]) (n:=0) (eW _ rfl) rfl ?_);rw[if_neg ⋯];show b5 (ñ (xs:=#v[]) (n:=0) (eW _ rfl) rfl ?_ (lx _) (by grind));show cL ?_;show b5 (ϕ (get?_update_seq (eW _ rfl) _) ?_);change fx _ _ (pure ((#v[]:Array hY)++vs.toArray).toList) Q E _;rw[show((#v[]:Array hY)++vs.toArray).toList=vs by simp];show cL h
def iG{h:Qy}{vs:↑hY}(e:h.get? b≈o):((h.push (M7 "list" #v[] 0)).update h.objs.size (uv (·++vs.toArray))).get? b≈o:=by
 rw[UQ _ _ _ _ (gm (fz e))];show cc _ e
def sT(I:Inv X a σ H s)(k1:∀b o,s.heap.get? b≈o->s1.heap.get? b≈o)(h:∃d c,s1={s with heap:=d,toks:=c})
  (hk:∀b o,s1.heap.get? b≈o->h'.get? b≈o) (i:h'.get? ↥s1≈M7 "list" f.toArray e) (j:XM f (aD ss)) (hsz:↥s<=↥s1) (hl:⇑ss<=dt)
  (q:∀p,H p=b6->Q (.ref p) (upd H p (.lst ((aD ss).map V.str)))):EP X a σ Q (.ref ↥s1) {s1 with heap:=h' }:=by
 have(d,c,rfl):=h;have g:=I.kept (t':=c) k1;show#[.ref _,_,g.laid  (o:=.lst _) hk (gi _) #[by rw[df,cE];show hl,f,e,d7 j,i],rfl,q _ (g.L7.fresh (gi _))]
def lb:eE X (.builtin "sorted") (λxs H Q=>∃p a,xs=[.ref p]/\(Mz X.K H p (a.map V.str)\/MA X.K H p (a.map V.str))/\⇑a<64/\∀q,H q=b6->Q (.ref q) (upd H q (.lst ((aD a).map V.str)))):=by
 intro d s σ H xs us Q I rs h;have(p,a,rfl,hq,k,q):=h;have(u,rfl,r):=vals1 rs;cases r;have hl:⇑a<=dt:=Rt (lg k ⋯);have f:∀(its:↑hY),Vals (a.map V.str) its->∀(h':Qy) (c:↑hY) (e:Nat),(∀b o,((s.heap.push (M7 "list" #v[] 0)).update ↥s (uv (·++its.toArray))).get? b≈o->h'.get? b≈o) ->
   h'.get? ((s.heap.push (M7 "list" #v[] 0)).update ↥s (uv (·++its.toArray))).objs.size≈M7 "list" c.toArray e->XM c (aD a) ->
   EP X d σ Q (.ref ((s.heap.push (M7 "list" #v[] 0)).update ↥s (uv (·++its.toArray))).objs.size) {s with heap:=h' }:=λits rv h' c e hk g i =>
  sT (s1:={s with heap:=(s.heap.push (M7 "list" #v[] 0)).update ↥s (uv (·++its.toArray))}) I (λb o z=>iG z) ⟨_,s.toks,rfl⟩ hk g i ⋯ hl q
 rcases hq with hq|hq
 .have(its,rv,j,hz):=I.list hq;have l:⇑its=⇑a:=by rw[<-⇑rv,df]
  show fY (collect_list j.isList #[a,cU rv,⋯,λh' c e hk g i=>f its rv h' c e hk g i] ⋯)
 .have(its,rv,j,hz):=I.tuple hq;have l:⇑its=⇑a:=by rw[<-⇑rv,df]
  show fY (oS j #[a,cU rv,⋯,λh' c e hk g i=>f its rv h' c e hk g i] ⋯)
@[reducible]noncomputable def sK(P:vl)(w:OE):=PySem.strKind P w
inductive ba(P:vl)(w:OE)(h:Qy)(a:k7)(led:Bool)(D:↑Str):Prop
 |mk:∀(L:↑(Str×Tok)) (es:Array (Int×hY)) (ep:Nat) (t:VC),h.get? a≈{cls:=.type "set",dict:=b6,data:=.set es ep t}->es.toList=L.map (λp=>((sK P w).hash p.1,ti p.1 p.2))->(L.map (·.1)).Perm D->D.Nodup->t.fits es.size=cb->es.size<Q9->t.led=led->(es.size=0\/t.plain=cK)->ba P w h a led D
def ba.at(b:ba prog w h a led D)(k:∀o,h.get? a≈o->h'.get? a≈o):ba prog w h' a led D :=
 let ⟨L,es,ep,t,c,d,e,f,g,i,j,l⟩:=b;⟨L,es,ep,t,k _ c,d,e,f,g,i,j,l⟩
def mR{L:↑(Str×Tok)}:ElemsOf (sK prog w) (L.map λp=>((sK prog w).hash p.1,ti p.1 p.2)):=by
 intro e a;have(p,_,rfl):=hW.mp a;show#[#[p.1,by simp[PySem.strKind,Rm],rfl],rfl]
def iH(x y)(t):(sK prog w).is x (.str y t)=dV (x=y):=by
 rw[Sb];simp[PySem.strKind,Rm];show#[λh=>h.symm,λh=>h.symm]
def u3(t)(es)(h)(x):(layNew t es h x).2.1.led=t.led:=by
 unfold layNew;split
 .change(Ĳ _ _).led=t.led;unfold Ĳ;split<;>rfl
 .rfl
def qQ(t)(es)(n):(Zq t es n).2.1.led=t.led:=by
 unfold Zq;split
 .rename_i t' b a;have:t'.led=t.led:=by
   unfold YB Zx at a;cases c:XQ _ _ with
   |none=>rw[c]at a;cases a
   |some o=>rw[c]at a;cases a;rfl
  dsimp only
  split
  .lia
  .rfl
 .rfl
def mS(t)(es)(n)(h:t.plain=cK):(Zq t es n).2.1.plain=cK:=by
 unfold Zq;split
 .rename_i t' b a;have:t'.plain=t.plain:=by
   unfold YB Zx at a;cases c:XQ _ _ with
   |none=>rw[c]at a;cases a
   |some o=>rw[c]at a;cases a;rfl
  dsimp only
  split
  .rw[this];show h
  .rfl
 .rfl
def dw(h:l.Perm (L.map λp=>((sK prog w).hash p.1,ti p.1 p.2))):∃L':↑(Str×Tok),l=L'.map (λp=>((sK prog w).hash p.1,ti p.1 p.2))/\L'.Perm L:=by
 have all:∀e∈l,∃p:Str×Tok,e=((sK prog w).hash p.1,ti p.1 p.2):=λe a=>by
  have(p,_,rfl):=hW.mp (h.mem_iff.mp a);show#[p,rfl]
 have ex:∀l:↑(Int×hY),(∀e∈l,∃p:Str×Tok,e=((sK prog w).hash p.1,ti p.1 p.2))->∃L':↑(Str×Tok),l=L'.map (λp=>((sK prog w).hash p.1,ti p.1 p.2)):=by
  intro l;induction l with
  |nil=>intro _;show#[[],rfl]
  |cons e l c =>
   intro b;have(p,rfl):=b e kj;have(L',rfl):=c λe a=>b e (ke _ a);show#[p::L',rfl]
 have(L',rfl):=ex l all;show#[L',rfl,?_];have g:(L'.map λp=>((sK prog w).hash p.1,ti p.1 p.2)).map (λe=>match e.2 with|.str x t=>(x,t)|_=>(rr,0))=L':=by
  rw[fR];show aag _
 have d:(L.map λp=>((sK prog w).hash p.1,ti p.1 p.2)).map (λe=>match e.2 with|.str x t=>(x,t)|_=>(rr,0))=L:=by
  rw[fR];show aag _
 have:=h.map (λe=>match e.2 with|.str x t=>(x,t)|_=>(rr,0));rw[g,d]at this;lia
def mT(hS:ba prog w s.heap a led D)(PU:⇑D+1<Q9)
  (h:∀h',p8 a s.heap h'->ba prog w h' a led (if x∈D then D else D++[x])->Q (dV (x∉D)) {s with heap:=h' }) :
  fx (gj prog w) A (Ą a (.str x l) ((sK prog w).hash x)) Q E s:=by
 have(L,es,ep,t,ho,u,G,L_,J,hb,N,My):=hS;have RF:(sK prog w).is x (.str x l)=cb:=by rw[iH];simp
 have TL:ElemsOf (sK prog w) es.toList:=by rw[u];show mR
 have v:es.size=⇑D:=by rw[<-gc,u,df,<-df (f:=ď) (as:=L),G.length_eq]
 unfold Ą setAddHashedIn;show qI (b5 (my ho rfl J ?_))
 dsimp only
 rw[byScan_of (knd:=sK prog w) rfl hb TL];simp only[↓reduceIte];unfold setAddByScan;show b5 ?_;show b5 (Qt ?_);show b5 (ϵ (knd:=sK prog w) RF ho rfl J TL ?_);have i:(∃e∈es.toList,(sK prog w).is x e.2=cb)↔x∈D:=by
  rw[u,<-G.mem_iff,hW];constructor
  .rintro⟨e,O,hi⟩;have(p,k,rfl):=hW.mp O;rw[iH,decide_eq_true_eq]at hi;show#[p,k,hi.symm]
  .rintro⟨p,k,e⟩;show#[_,hW.mpr #[p,k,rfl],by rw[iH];simp[e]]
 cases hr:Ģ (λe=>(sK prog w).is x e.2) es.toList with
 |some j =>
  dsimp only
  have(hj,U_,_):=â.mp hr;have r:x∈D:=i.mp #[es.toList[j],Wr hj,U_];show cL (cL ?_);have e:s={s with heap:=s.heap}:=by cases s;rfl
  have:=h s.heap (OY a s.heap) (by rw[if_pos r];show#[L,es,ep,t,ho,u,G,L_,J,hb,N,My]);rw[decide_eq_false (λz=>z r)]at this;rw[e];show this
 |none =>
  dsimp only
  have r:x∉D:=λr=>by
   have(e,O,k):=i.mpr r;have:=ę.mp hr e O;rw[k]at this;show Bool.noConfusion this
  have T:∀(b:Bool) {m:k9} {n:Unit->k9->Prop},n () m->fx (gj prog w) A (match b with|true=>rule "set.scan.the-table-gave-way"|false=>pure ()) n E m :=
   λb m n o=>by cases b<;>first|show cL o|show Qt o
  have y:=layNew_perm t es ((sK prog w).hash x) (.str x l);have H:=layNew_fits t es ((sK prog w).hash x) (.str x l);have OO:=u3 t es ((sK prog w).hash x) (.str x l);generalize hL:layNew t es ((sK prog w).hash x) (.str x l)=NL at y H OO ⊢;have(c,B,PV,JX):=NL
  dsimp only at y H OO ⊢
  rw[Ţ,u,show [((sK prog w).hash x,ti x l)]=[(x,l)].map (λp=>((sK prog w).hash p.1,ti p.1 p.2)) from rfl,<-mh]at y;have(L1,Y,ab):=dw y;have N':c.size=⇑D+1:=by rw[<-gc,y.length_eq,df,ko,<-v,<-gc,u,df];rfl
  have Y1:c.size<Q9:=⋯
  have Q4:(L1.map (·.1)).Perm (D++[x]):=(ab.map _).trans (by rw[mh];show G.append_right _);have Y2:(D++[x]).Nodup:=by
   rw[pb]
   grind
  show b5 (T _ ?_);have N0:∀h',p8 a s.heap h'->ba prog w h' a led (D++[x])->Q cb {s with heap:=h' }:=λh' sb hs=>by
   have:=h h' sb (by rw[if_neg r];show hs);rw[decide_eq_true r]at this;show this
  have q:∀(g:Bool->Sem Unit),(∀(b:Bool) (m:k9) (n:Unit->k9->Prop),n () m->fx (gj prog w) A (g b) n E m)->∀(R:Option Bool->k9->Prop),(∀h',p8 a s.heap h'->ba prog w h' a led (D++[x])->R (bD cb) {s with heap:=h' })->∀d:VC,d.fits c.size=cb->d.led=led->d.plain=cK->fx (gj prog w) A (do
    Ι a c d
    if (!PV&&d.tooFull)=cb then do
      g (Zq d c (OH c.size)).2.2
      Ι a (Zq d c (OH c.size)).1 (Zq d c (OH c.size)).2.1
      pure (bD cb)
     else pure (bD cb)) R E s:=by
   intro g hg R hR d ac O8 Qx;show b5 (Wt ho rfl ?_ (WH Y1));have OP:(s.heap.update a (PJ c d)).get? a≈{cls:=.type "set",dict:=b6,data:=.set c (ep+1) d}:=by
    have:=sL (PJ c d) ho rfl;show this
   have PX:=H0 s.heap a (PJ c d);split
   .have k:=relayAll_perm d c (OH c.size);have OQ:=relayAll_fits d c (OH c.size);have SM:=qQ d c (OH c.size);have Qg:=mS d c (OH c.size) Qx;generalize WK:Zq d c (OH c.size)=Rl at k OQ SM Qg ⊢;have(C,I,Y3):=Rl
    dsimp only at k OQ SM Qg ⊢
    rw[Y]at k;have(L2,e2,al):=dw k;have hsz:C.size=c.size:=by rw[<-gc,k.length_eq,<-Y,gc]
    show b5 (hg _ _ _ ?_);show b5 (Wt OP rfl ?_ (WH ⋯));have Qh:((s.heap.update a (PJ c d)).update a (PJ C I)).get? a≈{cls:=.type "set",dict:=b6,data:=.set C (ep+1+1) I}:=sL (PJ C I) OP rfl;show cL (hR _ (PX.trans (H0 _ a _)) #[L2,C,_,I,Qh,e2,(al.map _).trans Q4,Y2,OQ,⋯,SM.trans O8,.inr Qg])
   .show cL (hR _ PX #[L1,c,_,d,OP,Y,Q4,Y2,ac,Y1,O8,.inr Qx])
  split
  .rename_i k;show b5 ?_;rw[hashByValue_scannable 8 rfl];show cL ?_;have ep:(if plainKind (ti x l)=cb then B else {B with plain:=cK})={B with plain:=cK}:=rfl;rw[ep];show q _ ?_ _ ?_ {B with plain:=cK} (SetTable.fits_plain_off H) (OO.trans N) rfl
   .intro b m n o;cases b<;>first|show cL o|show Qt o
   .intro h' OR NH;dsimp only;show cL (N0 h' OR NH)
  .rename_i k;show b5 (cL ?_);simp only[↓reduceIte];show q _ ?_ _ ?_ B H (OO.trans N) (VS.mpr k)
   .intro b m n o;cases b<;>first|show cL o|show Qt o
   .intro h' OR NH;dsimp only;show cL (N0 h' OR NH)
abbrev mU(D:↑Str)(x:Str):↑Str:=if x∈D then D else D++[x]
abbrev aU(l:↑Str):↑Str:=l.foldl mU []
def u4(h:D.Nodup):(mU D x).Nodup:=by
 unfold mU;split
 .show h
 .rw[pb];show#[h,by simp,λy a z hz=>by grind]
theorem fZ:∀(l D:↑Str),D.Nodup->(l.foldl mU D).Nodup/\(∀x,x∈l.foldl mU D↔x∈D\/x∈l)/\⇑(l.foldl mU D)<=⇑D+⇑l
 |[],D,h=>#[h,by simp,by simp]
 |y::l,D,h=>by
  have(a,b,d):=fZ l _ (u4 h);have c:∀x,x∈mU D y↔x∈D\/x=y:=λx=>by
   unfold mU;split
   .simp_all
   .simp
  have hl:⇑(mU D y)<=⇑D+1:=by
   unfold mU;split
   .lia
   .simp
  show#[a,λx=>?_,by grind];rw[Zl,b,c,f6,or_assoc]
def b9(l):(aU l).Nodup:=(fZ l [] VL).1
def b_(l)(x):x∈aU l↔x∈l:=by rw[aU,(fZ l [] VL).2.1];simp
def eG(l):⇑(aU l)<=⇑l:=by have:=(fZ l [] VL).2.2;simpa[aU] using this
def sU(l)(x):aU (l++[x])=mU (aU l) x:=by unfold aU;simp
def oU(a)
  (h:Q₁ (.ref ↥s) {s with heap:=s.heap.push {cls:=.type "set",dict:=b6,data:=.set #v[] 0 (.fresh 0 0 (!w.params.followText "set-order"))}}) :
  WL (gj prog w) A (.call (.builtin "set.__new__") #[[.type "set",a],[]]) (wants Q₁ E) s:=by
 show codeAny_of_tree ?_;show b5 (Ě (F.newCall_set_1 a) (cL #[Vl F.plain_set_new _,Pr F.entry_set_new ?_]));have b:=Ă
 wp_walk
 show Xh (cL ?_);show b5 (Θ (cL ?_));show cL h
def iU(b:h.get? a≈{cls:=.type "set",dict:=b6,data:=.set #v[] 0 (.fresh 0 0 led)}):ba prog w h a led [] :=
 #[[],#v[],0,_,b,rfl,.nil,VL,rfl,by decide,rfl,.inl rfl]
def sub_tuple_set:å (.type "tuple") (.type "set")=pure cK:=by rw[UR];rfl
def sub_tuple_frozenset:å (.type "tuple") (.type "frozenset")=pure cK:=by rw[UR];rfl
section
variable{prog:vl}{w:OE}{A:YJ}{R:Result->k9->Prop}{I:k7}{fp wr:List k7}{G:Array Ψ->Array Ψ->Prop}{n:Nat}{P:Nat->hY->Prop}{St:Nat->k9->Prop}
def AA(W:Ϛ prog w A.in1 I fp wr G n P St)(q:S∉fp){SP:Nat->Qy->Prop}{h0:Qy}(OQ:∀b∈S::wr,h0.get? b=b6)
  (r:∀i h h',SP i h->(∀o,h.get? S≈o->h'.get? S≈o)->SP i h')
  (C:∀i v s Q E,i<n->P i v->SP i s.heap->(∀b o,h0.get? b≈o->s.heap.get? b≈o)->(∀b h' f,s.toks<=f->p8 S s.heap h'->SP (i+1) h'->Q b {s with heap:=h',toks:=f})->fx (gj prog w) A.in1 (setAdd S v) Q E s) :
  ∀k i s,n - i=k->i<=n->St i s->SP i s.heap->(∀b o,h0.get? b≈o->s.heap.get? b≈o) ->
   (∀a,Moved (S::wr) G s a->SP n a.heap->R (.ok (.ret .none)) a) ->
   WL (gj prog w) A (.builtin "set.update.loop" ⟨[.ref S,.ref I],[]⟩) R s:=by
 have t:S∉wr:=λh=>q (W.sub _ h);have u:∀b∈wr,b∈S::wr:=λb d=>ke _ d;intro k;induction k with
 |zero =>
  intro i s hk hi g j x l;have D:i=n:=⋯
  subst D;show Pr Yv ?_;rw[R_ TK _];change fx _ A.in1 (Vk (.ref I) >>= _) _ _ s;show b5 (W.done s _ _ g λa c=>?_);change fx _ A.in1 (ret qP) _ _ a;show cL (l a (c.mono u) (r _ _ _ j λ_ ho=>c.heap S _ t ho))
 |succ k H =>
  intro i s hk hi g j x l;have m:i<n:=⋯
  show Pr Yv ?_;rw[R_ TK _];change fx _ A.in1 (Vk (.ref I) >>= _) _ _ s;show b5 (W.item i s _ _ m g λv a J L c=>?_);have y:∀b o,h0.get? b≈o->a.heap.get? b≈o:=λb o e=>c.heap b o (λz=>by simp_all) (x b o e);change fx _ A.in1 (Sm [v] (setAdd S v) >>= _) _ _ a;show b5 (qI (C i v a _ _ m J (r _ _ _ j λ_ ho=>c.heap S _ t ho) y λ_ h' f B p N=>?_));show cL #[Vl TK _,H (i+1) _ ⋯ m (W.frame _ a _ _ L B λb d o e=>?_) N (λb o e=>?_) λO T Y=>?_]
  .rw[p.2 b (λh:b=S=>q ⋯)];show e
  .change h'.get? b≈o;rw[p.2 b (λh:b=S=>by simp_all)];show y b o e
  .show l O (ϭ W.gtrans ((c.mono u).then_heap B λb o d e=>?_) T) Y;rw[p.2 b (λh:b=S=>d (by rw[h];show kj))];show e
end
@[reducible]noncomputable def aJ(w:OE):Bool:=!w.params.followText "set-order"
@[reducible]noncomputable def qR(led:Bool):Obj:={cls:=.type "set",dict:=b6,data:=.set #v[] 0 (.fresh 0 0 led)}
def jB{vs:↑hY}{SP:Nat->Qy->Prop}
  (k:s.TypeIs (.ref l) T) (H:å (.type T) (.type "set")=pure cK) (J:å (.type T) (.type "frozenset")=pure cK) (MF:(Qv T==Qv "dict")=cK)
  (N1:∀h,h.get? ↥s≈qR (aJ w)->SP 0 h) (M0:∀i h h',SP i h->(∀o,h.get? ↥s≈o->h'.get? ↥s≈o)->SP i h')
  (O':∀B i v s1 Q E,B.units<=A.units+3->vs[i]?≈v->SP i s1.heap->(∀b o,s.heap.get? b≈o->s1.heap.get? b≈o)->(∀b h' a,s1.toks<=a->p8 ↥s s1.heap h'->SP (i+1) h'->Q b {s1 with heap:=h',toks:=a})->fx (gj prog w) B (setAdd ↥s v) Q E s1)
  (m:∀s1 B f,B.handled=A.handled->(∀b o,s.heap.get? b≈o->s1.heap.get? b≈o)->↥s<↥s1 ->
   (∀I n p G P St d,Ϛ prog w B.in1 I n p G ⇑vs P St->(∀g g',G g g'->g'=g)->↥s∉n->(∀b∈p,↥s<b)->(∀i v,P i v->vs[i]?≈v)->St 0 {s1 with heap:=d}->(∀b o,s1.heap.get? b≈o->d.get? b≈o)->f (.ref I) {s1 with heap:=d})->fx (gj prog w) B (ĕ (.ref l)) f E s1)
  (h:∀h' a,SP ⇑vs h'->(∀b o,b<↥s->s.heap.get? b≈o->h'.get? b≈o)->Q (.ref ↥s) {s with heap:=h',toks:=a}) :
  fx (gj prog w) A (TN (.type "set") [.ref l]) Q E s:=by
 have(c,tl,L):=F.called_set.mro;have Y5:=F.called_set.made;have O9:=F.called_set.sub;show wpAny_call (codeAny_of_tree ?_);change fx _ _ (callAny (.type "set") _) _ _ _;show cL #[Ş _ (by decide +kernel),Pr F.entry_type_call ?_];rw[Around.under_plain (weight_type_call_type "set" [.ref l] []) rfl];have d:=F.called_set.notType;have h2:=F.called_set.canCreate;have ac:=F.typeCall_set_1 (.ref l)
 repeat (any_goals (first|assumption|wp_step))
 show Á (oU (.ref l) (E:=E) (Q₁:=λobj N=>obj=.ref ↥s/\N={s with heap:=s.heap.push (qR (aJ w))}) ⟨rfl,rfl⟩) λr N t=>?_;cases r with
 |error e=>show t
 |ok fl =>
  cases fl with
  |ret obj =>
   have(rfl,rfl):=t;have O:(s.heap.push (qR (aJ w))).get? ↥s≈qR (aJ w):=eW _ rfl;have hT:X9 {s with heap:=s.heap.push (qR (aJ w))} (.ref ↥s) "set":=#[_,O,rfl]
   have al:=F.called_set.init.lookup;have WN:=F.called_set.init.bind (.ref ↥s)
   repeat (any_goals (first|assumption|wp_step))
   show Á (codeAny_call_builtin (R:=wants (λr Y=>r=.none/\∃h' a,Y={s with heap:=h',toks:=a} /\
     SP ⇑vs h' /\
     (∀b o,b<↥s->s.heap.get? b≈o->h'.get? b≈o)) E) F.called_set.init.plain F.entry_set_init (check_set_init_1 hT ?_)) λr₂ Y u=>?_
   .have(ol,TQ,O5):=k;have(ab,TR,TU,RH):=ol;simp only at O5;subst O5;have WQ:(s.heap.push (qR (aJ w))).get? l≈{cls:=.type T,dict:=TR,data:=TU,slots:=RH}:=cc _ TQ;have Y6:X9 {s with heap:=s.heap.push (qR (aJ w))} (.ref l) T:=#[_,WQ,rfl]
    unfold Ti.«set.__init__» noKeywords ε;generalize x:ĕ=PI
    wp_walk
    subst x;show m {s with heap:=s.heap.push (qR (aJ w))} _ _ rfl (λb o e=>cc _ e) ⋯ λI n p G P St d W hG hf Y7 WR L8 hk=>?_;show b5 (ķ ?_);show AA W hf (SP:=SP) (h0:=s.heap) (λb hb=>?_) M0 (λi v s2 f E' _ hv=>O' _ i v s2 f E' ?_ (WR i v hv)) (⇑vs - 0) 0 _ ⋯ (lx _) L8 (N1 _ (hk _ _ O)) (λb o e=>hk _ _ (cc _ e)) ?_
    .have RJ:↥s<=b:=by
      rcases f6.mp hb with z|z
      .show ì z.symm
      .show Rt (Y7 b z)
     cases q:s.heap.get? b with
     |none=>rfl
     |some o=>show absurd (fz q) (Nat.not_lt_of_le RJ)
    .show gi _
    intro s' j y;have(h',g',d',U',Wb):=s';have eg:g'=s.gens:=hG _ _ j.gens;have ed:d'=s.drawn:=j.drawn;have eo:Wb=s.os:=j.os;subst eg;subst ed;subst eo;change fx _ _ _ _ _ _;show cL ?_;change fx _ _ (ret qP) _ _ _;show cL #[rfl,h',U',rfl,y,λb o C e=>?_];show j.heap b o (λz=>by
     rcases f6.mp z with z|z
     .rw[z]at C;show uk _ C
     .show absurd (Y7 b z) (Nat.not_lt_of_lt C)) (hk _ _ (cc _ e))
   .cases r₂ with
    |error e=>show u
    |ok D =>
     cases D with
     |ret r =>
      have(rfl,h',a,rfl,y,MW):=u
      repeat (any_goals (first|assumption|wp_step))
      show h _ _ y MW
     |_=>show u.elim
  |_=>show t.elim
theorem wN:∀{vs}{ss},XM vs ss->∀(i:Nat) v,vs[i]?≈v->∃x t,ss[i]?≈x/\v=.str x t
 |_,_,.nil,i,v,h=>by simp at h
 |_,_,.cons x t h,0,v,e=>by simp at e;show#[x,t,rfl,e.symm]
 |_,_,.cons x t h,i+1,v,e=>by show wN h i v e
theorem mV:∀{vs}{ss},XM vs ss->⇑vs=⇑ss
 |_,_,.nil=>rfl
 |_,_,.cons x t h=>by simp[mV h]
def wO(a:n≠S)(b:n≠l):n∉[S,l]:=by simp[a,b]
def jC{vs:↑hY}{SP:Nat->Qy->Prop}(hh:A.handled=b6)(hl:s.heap.IsList l vs.toArray\/s.heap.IsTuple l vs.toArray)
  (m:∀h,h.get? ↥s≈qR (aJ w)->SP 0 h) (n:∀i h h',SP i h->(∀o,h.get? ↥s≈o->h'.get? ↥s≈o)->SP i h')
  (p:∀B i v s1 Q E,B.units<=A.units+3->vs[i]?≈v->SP i s1.heap->(∀b o,s.heap.get? b≈o->s1.heap.get? b≈o)->(∀b h' d,s1.toks<=d->p8 ↥s s1.heap h'->SP (i+1) h'->Q b {s1 with heap:=h',toks:=d})->fx (gj prog w) B (setAdd ↥s v) Q E s1)
  (h:∀h' d,SP ⇑vs h'->(∀b o,b<↥s->s.heap.get? b≈o->h'.get? b≈o)->Q (.ref ↥s) {s with heap:=h',toks:=d}) :
  fx (gj prog w) A (TN (.type "set") [.ref l]) Q E s:=by
 have q:vs.toArray.size=⇑vs:=rfl;rcases hl with hl|hl
 .have c:=let ⟨o,ho,_⟩:=hl;fz ho;show jB hl.typeIs F.sub_list_set F.sub_list_frozenset ⋯ m n p (λs1 B t f hk a g=>?_) h;have OO:s1.heap.IsList l vs.toArray:=let ⟨o,ho,r⟩:=hl;⟨o,hk _ _ ho,r⟩;have W:=(ĉ (prog:=prog) (w:=w) (A:=B.in1) (by simp[f,hh]) ↥s1 l (gm (Wa c a)) vs.toArray).toS;rw[q]at W;show Wv OO (g _ _ _ _ _ _ _ W (λ_ _ e=>e) (wO (gm a) (va c)) (λb j=>by rw[nc.mp j];lia) (λi v k=>by simpa using k) ⟨⟨_,eW _ rfl,rfl,rfl⟩,OO.push _⟩ λb o e=>cc _ e)
 .have c:=let ⟨o,ho,_⟩:=hl;fz ho;show jB hl.typeIs sub_tuple_set sub_tuple_frozenset ⋯ m n p (λs1 B t f hk a g=>?_) h;have OO:s1.heap.IsTuple l vs.toArray:=let ⟨o,ho,r⟩:=hl;⟨o,hk _ _ ho,r⟩;have W:=(Walks.tuple (prog:=prog) (w:=w) (A:=B.in1) (by simp[f,hh]) ↥s1 l (gm (Wa c a)) vs.toArray).toS;show T4 OO (g _ _ _ _ _ _ _ W (λ_ _ e=>e) (wO (gm a) (va c)) (λb j=>by rw[nc.mp j];show a) (λi v k=>by simpa using k) ⟨⟨_,eW _ rfl,rfl,rfl⟩,let ⟨o,ho,r⟩:=OO;⟨o,cc _ ho,r⟩⟩ λb o e=>cc _ e)
def d8(hh:A.handled=b6)(hl:s.heap.IsList l vs.toArray\/s.heap.IsTuple l vs.toArray)(d:XM vs a)(r:⇑a+1<Q9)
  (h:∀h' c,ba prog w h' ↥s (aJ w) (aU a)->(∀b o,b<↥s->s.heap.get? b≈o->h'.get? b≈o)->Q (.ref ↥s) {s with heap:=h',toks:=c}) :
  fx (gj prog w) A (TN (.type "set") [.ref l]) Q E s:=by
 show jC (SP:=λi h=>ba prog w h _ _ (aU (a.take i))) hh hl (λh e=>iU e) (λi h h' x k=>x.at k) (λB i v s1 Q E _ f g _ q=>?_) λh' c x k=>h h' c (by rwa [mV d,List.take_length]at x) k;have(x,t,j,rfl):=wN d i v f;show qI (b5 ((sK prog w).pyHash (k:=x) (by rw[iH];simp) ?_));have m:⇑(aU (a.take i))+1<Q9:=by have:=eG (a.take i);rw[Wo]at this;lia
 show mT  g m λh' n p=>q _ h' _ (È _) n ?_;rw[Ÿ,j];change ba prog w h' _ _ (aU (a.take i++[x]));rw[sU];show p
def qS(a:n≠0)(h:∀i<n,Q i {s with drawn:=s.drawn.bump src}):fx M A (choose src n) Q E s:=λΓ p b=>by
 show#[a,h _ (X6 _ (Ŵ a))]
theorem iV:∀{xs:↑α}{i:Nat}{x:α},xs[i]?≈x->(x::xs.eraseIdx i).Perm xs
 |[],i,x,h=>by simp at h
 |y::a,0,x,h=>by simp at h;subst h;rfl
 |y::a,i+1,x,h=>by
  rw[List.getElem?_cons_succ]at h;show(ŗ y x _).trans ((iV h).cons y)
theorem iI:∀(n:Nat) (xs:↑α) s Q,⇑xs=n->(∀a d,a.Perm xs->Q a {s with drawn:=d})->fx M A (drawOrder n xs) Q E s
 |0,xs,s,Q,b,h=>by
  have:=Ĭ.mp b;subst this;show cL (h [] _ (.refl _))
 |n+1,[],s,Q,b,h=>by simp at b
 |n+1,y::a,s,Q,b,h=>by
  show b5 (qS ⋯ λi hi=>?_);have e:=nC hi;have c:=iV e;generalize (y::a)[i]'hi=x at e c;simp only[e];show b5 (iI n _ _ _ (by have:=c.length_eq;simp_all) λzs d hz=>?_);show cL (h _ d ((hz.cons x).trans c))
theorem lh(next):∀(fuel k:Nat) (left:↑α) out,⇑left=fuel->(Ć next fuel k left out).toList.Perm (out.toList++left)
 |0,k,left,out,hl=>by
  have:=Ĭ.mp hl;subst this;simp[Ć]
 |fuel+1,k,left,out,hl=>by
  unfold Ć;have b:next k % ⇑left<⇑left:=X6 _ ⋯;have e:=nC b;have a:=iV e;simp only[e];show(lh next fuel _ _ _ (by have:=a.length_eq;simp_all)).trans ?_;rw[Ţ,T5];show(a.append_left _)
def eI(next)(xs:Array α):(ś next xs).toList.Perm xs.toList:=by
 have:=lh next xs.size 0 xs.toList #v[] ⋯
 assumption
namespace SI
def sV:Manifest.owners.lookup (String.ofList ['r','o','t','a','r','e','t','i','_','t','e','s'].reverse)≈Manifest.sig_set_iterator:=by rfl
def slot_next:Slot "set_iterator" "__next__" "set_iterator.__next__" :=
 .of (owner:="set_iterator") (n:="__next__") (by rfl) (by rfl) (by decide +kernel) (by rfl)
  (by first|show .inl (by decide +kernel)|show .inr (by decide +kernel)) (by rfl)
def entry_next:ĺ table "set_iterator.__next__"≈Ti.«set_iterator.__next__»:=Ϻ (by rfl)
def args_next(a):argsOk "set_iterator.__next__" ⟨[a],[]⟩:=by
 unfold argsOk;rw[signature?_of  (n:=['_','_','t','x','e','n','_','_'])  (by kernel_rfl) sV];rfl
def pE:Slot "set_iterator" "__iter__" "set_iterator.__iter__" :=
 .of (owner:="set_iterator") (n:="__iter__") (by rfl) (by decide +kernel) (by decide +kernel) (by rfl)
  (by first|show .inl (by decide +kernel)|show .inr (by decide +kernel)) (by rfl)
def yW(a):argsOk "set_iterator.__iter__" ⟨[a],[]⟩:=by
 unfold argsOk;rw[signature?_of  (n:=['_','_','r','e','t','i','_','_'])  (by kernel_rfl) sV];rfl
def u5:ĺ table "set_iterator.__iter__"≈Ti.«dict_keyiterator.__iter__» :=
 Ĺ (id':="dict_keyiterator.__iter__") (by kernel_rfl) (by rfl) (by decide +kernel) (by rfl)
def mW:ĺ table "set.__iter__"≈Ti.«frozenset.__iter__» :=
 Ĺ (id':="frozenset.__iter__") (by kernel_rfl) rfl (by decide +kernel) (by rfl)
end SI
section
variable{prog:vl}{w:OE}{A:YJ}{E:hY->k9->Prop}{s:k9}
abbrev iW(h:Qy)(I:k7)(first:hY)(i:Nat)(S:k7)(n ep:Nat):Prop:=∃o,h.get? I≈o/\o.cls=.type "set_iterator"/\o.data=.fields #v[first,Mt i,.ref S,Mt n,Mt ep]
def iW.typeIs(x:iW s.heap I f i S n ep):s.TypeIs (.ref I) "set_iterator":=let ⟨o,ho,a,_⟩:=x;⟨o,ho,a⟩
def D4(a:iW s.heap I f i S n ep)(h:Q (.ref I) s):fx (gj prog w) A (ĕ (.ref I)) Q E s:=by
 show Ϧ a.typeIs SI.pE (wh SI.pE a.typeIs SI.u5 ?_ (SI.yW _));show cL #[_,rfl,_,_,a.typeIs,SI.slot_next.lookup,h]
def f7(h:Q (M.w.params.followText "set-order") s):fx M A setsByText Q E s:=by
 show b5 (Xh (cL h))
end
end L2
namespace L2
open PySem PySem.Spec PyProof.Rows
section
variable{prog:vl}{w:OE}{A:YJ}{E:hY->k9->Prop}{s:k9}
@[reducible]noncomputable def qT(es:Array (Int×hY))(ep:Nat)(t:VC):Obj:={cls:=.type "set",dict:=b6,data:=.set es ep t}
def sW{I:k7}{B}{Q:Option hY->k9->Prop}{c}{k:hY->Sem (Option hY)}(hh:B.handled=b6)
  (d:∀h',(∀b o,c.get? b≈o->h'.get? b≈o)->∀e,X9 {s with heap:=h' } e "StopIteration"->E e {s with heap:=h' }) {f} :
  fx (gj prog w) B (newExc (.type "StopIteration") [] >>= λe=>(raiseNew e:Sem Fin)) f E {s with heap:=c}:=by
 show b5 ?_;show b5 (m:=firstArgMember _ _) (Ě (a:=qP) (by rfl) ?_);show Q6 ?_ (by size_fits);show b5 (wpAny_handled ?_);rw[hh];show b5 (cL (wpAny_throw ?_));show d _ (λb o e=>cc _ (cc _ e)) _ ⟨_,eW _ rfl,rfl⟩
def wQ{I S}{first}{i ep}{es}{t}(c:iW s.heap I first i S es.size ep)(ho:s.heap.get? S≈qT es ep t)(h:t.fits es.size=cb)
  (j:∀f g ,(∀v a,Q (bD v) a->f (.done (.ret v)) a)->(∀e a,a.TypeIs e "StopIteration"->Q b6 a->g e a) ->
   fx (gj prog w) A.in1 (if let .int slot _:=first then(do
     match <-ϩ S slot.toNat i ep with
     |some (x,next) =>
      ă (.ref I) 0 (Mt next)
      ă (.ref I) 1 (Mt ((i:Int)+1))
      ret x
     |none=>ă (.ref I) 2 .none;raiseNew (<-newExc (.type "StopIteration") []))
    else(do
     let bD b <-seqItems? first|unsupported "internal:set_iterator"
     match b[i]? with
     |some (.int place _) =>
      let x <-Ť S place.toNat ep
      ă (.ref I) 1 (Mt ((i:Int)+1))
      ret x
     |some _=>ě "internal:set_iterator"
     |none=>ă (.ref I) 0 (Mt 0);ă (.ref I) 2 .none;raiseNew (<-newExc (.type "StopIteration") []))) f g s):fx (gj prog w) A (Vk (.ref I)) Q E s:=by
 have(o,k,m,l):=id c;show b5 (ï (Q8  c.typeIs SI.slot_next
  (wh SI.slot_next c.typeIs SI.entry_next ?_ (SI.args_next _))))
 show b5 (Ě  rfl ?_);show b5 (wpAny_fieldsOf k l ?_);show b5 (X8 ho rfl h ?_);rw[if_neg ⋯];show vu (j (λd a=>∃r,d=.done (.ret r)/\Q (bD r) a) (λe a=>a.TypeIs e _/\Q b6 a) (λv a q=>#[v,rfl,q]) λe a z q=>#[z,q]) ?_ ?_
 .rintro d a ⟨r,rfl,q⟩;show#[r,rfl,cL q]
 .rintro e a ⟨z,q⟩;show b5 (Nt   z Ü ?_);show cL q
end
def wR{I S}{f f':hY}{i n ep:Nat}{h:Qy}{o}(b:h.get? I≈o)(c:o.cls=.type "set_iterator")(a:o.data=.fields #v[f,Mt i,.ref S,Mt n,Mt ep]):
  iW (h.update I (Ϭ (·.setIfInBounds 1 (Mt ((i:Int)+1))))) I f (i+1) S n ep :=
 #[_,sL _ b (ZM (TJ a _)),(ç ..).trans c,by rw[TJ a];simp]
def sX{h:Qy}(b:h.get? I≈o)(c:o.cls=.type "set_iterator")(a:o.data=.fields #v[f,Mt i,.ref S,Mt n,Mt ep]):
  ∃o',(h.update I (Ϭ (·.setIfInBounds 0 f'))).get? I≈o'/\o'.cls=.type "set_iterator"/\o'.data=.fields #v[f',Mt i,.ref S,Mt n,Mt ep] :=
 #[_,sL _ b (ZM (TJ a _)),(ç ..).trans c,by rw[TJ a];simp]
def AB{I S}{slot i ep:Nat}{es}{t}{Q}(a:iW s.heap I (Mt slot) i S es.size ep)(ho:s.heap.get? S≈qT es ep t)(l:t.fits es.size=cb)(hh:A.handled=b6)
  {r} (m:∀B g (c:Option (hY×Nat)->k9->Prop),c r s->fx (gj prog w) B (ϩ S slot i ep) c g s)
  (n:∀x nx,r≈(x,nx)->∀h',iW h' I (Mt nx) (i+1) S es.size ep->p8 I s.heap h'->Q (bD x) {s with heap:=h' })
  (q:r=b6->∀h',(∀b o,b≠I->s.heap.get? b≈o->h'.get? b≈o)->Q b6 {s with heap:=h' }):fx (gj prog w) A (Vk (.ref I)) Q E s:=by
 show wQ a ho l λc g u v=>?_;have(o,d,y,f):=id a;show b5 (m _ _ _ ?_);cases r with
 |some p =>
  have(x,nx):=p;show b5 (Tx d f ⋯ ?_);have(o',h,z,j):=sX  d y f;show b5 (Tx  h j ⋯ ?_);show cL (u _ _ (n x nx rfl _ (wR (f':=Mt nx) h z j) ((H0 ..).trans (H0 ..))))
 |none =>
  show b5 (Tx d f ⋯ ?_);show sW (I:=I) (k:=λ_=>pure b6) (Q:=λ_ _=>True)  ⋯ λh' hk e C=>v e _ C (q rfl h' λb D G H=>hk b D ?_);rw[UQ _ _ _ _ G];show H
def Ho{I S T}{i ep}{es}{t}{a:↑Nat}{Q:Option hY->k9->Prop}(c:iW s.heap I (.ref T) i S es.size ep)(ho:s.heap.get? S≈qT es ep t)(n:t.fits es.size=cb)(hh:A.handled=b6)
  (v:s.heap.IsTuple T ((a.map λ(j:Nat)=>Mt j).toArray))
  (x:∀j e,a[i]?≈j->es[j]?≈e->∀h',iW h' I (.ref T) (i+1) S es.size ep->p8 I s.heap h'->Q (bD e.2) {s with heap:=h' })
  (y:∀j∈a,j<es.size)
  (z:a[i]?=b6->∀h',(∀b o,b≠I->s.heap.get? b≈o->h'.get? b≈o)->Q b6 {s with heap:=h' }):fx (gj prog w) A (Vk (.ref I)) Q E s:=by
 show wQ c ho n λO Y B C=>?_;have(o,d,q,f):=id c;have(oT,g,D,nT,h):=v;change fx _ _ (seqItems? (.ref T) >>= _) _ _ s;show b5 (w6 g h ?_);cases e:a[i]? with
 |some j =>
  have l:(a.map λ(j:Nat)=>Mt j).toArray[i]?≈Mt j:=by simp[e]
  simp only[l];have r:j<es.size:=y j (k8 e);have m:es[j]?≈es[j]'r:=⋯
  change fx _ _ (Ť S (j:Int).toNat ep >>= _) _ _ s;unfold Ť;rw[Wd];show b5 (b5 (my ho rfl n ?_))
  dsimp only
  rw[if_neg ⋯];generalize es[j]'r=p at m;simp only[m];show cL ?_;show b5 (Tx d f ⋯ ?_);show cL (B _ _ (x j p e m _ (wR (f':=.ref T) d q f) (H0 ..)))
 |none =>
  have l:(a.map λ(j:Nat)=>Mt j).toArray[i]?=b6:=by simp at e ⊢;show e
  simp only[l];show b5 (Tx d f ⋯ ?_);have(o',G,e2,H):=sX (f':=Mt 0) d q f;show b5 (Tx  G H ⋯ ?_);show sW (I:=I) (k:=λ_=>pure b6) (Q:=λ_ _=>True) (s:=s) ⋯ λh' hk ex J=>C ex _ J (z e h' λb L u N=>hk b L ?_);rw[UQ _ _ _ _ u,UQ _ _ _ _ u];show N
def iW.at(x:iW h I f i S n ep)(e:∀o,h.get? I≈o->h'.get? I≈o):iW h' I f i S n ep:=let ⟨o,ho,r⟩:=x;⟨o,e _ ho,r⟩
def mX(hh:A.handled=b6)(n:S≠I)(q:t.fits es.size=cb)(T)(p:T≠I)(c:↑hY)(k:⇑c=es.size)
  (first:Nat->hY) (a:Qy->Prop) (l:∀h h',a h->(∀o,h.get? T≈o->h'.get? T≈o)->a h')
  (m:∀s i E Q,i<=es.size->a s.heap->iW s.heap I (first i) i S es.size ep->s.heap.get? S≈qT es ep t ->
   (∀x,c[i]?≈x->∀h',iW h' I (first (i+1)) (i+1) S es.size ep->p8 I s.heap h'->Q (bD x) {s with heap:=h' }) ->
   (c[i]?=b6->∀h',(∀b o,b≠I->s.heap.get? b≈o->h'.get? b≈o)->Q b6 {s with heap:=h' })->fx (gj prog w) A (Vk (.ref I)) Q E s) :
  Walks prog w A I [I,S,T] [I] es.size (λi v=>c[i]?≈v) (λi h=>i<=es.size/\iW h I (first i) i S es.size ep/\h.get? S≈qT es ep t/\a h) where
 sub:=λb f=>by simp_all
 frame:=λi h h' x hk=>#[x.1,x.2.1.at λo e=>hk I ⋯ o e,hk S ⋯ _ x.2.2.1,l h h' x.2.2.2 λo e=>hk T ⋯ o e]
 item:=λi s Q E hi x d=>by
  show m s i E Q x.1 x.2.2.2 x.2.1 x.2.2.1 (λv g h' j hs=>?_) λz=>absurd z ⋯;show d v h' s.toks g #[hi,j,?_,l _ h' x.2.2.2 λo e=>?_] λb o f e=>?_
  .rw[hs.2 S n];show x.2.2.1
  .rw[hs.2 T p];show e
  .rw[hs.2 b λz=>f (by simp[z])];show e
 done:=λs Q E x d=>by
  show m s es.size E Q x.1 x.2.2.2 x.2.1 x.2.2.1 (λv g=>absurd g ⋯) λ_ h' hk=>d h' s.toks λb o f e=>hk b o (λz=>f (by simp[z])) e
 self:=λi s Q E x d=>D4 x.2.1 d
def qU(ho:s.heap.get? S≈qT es ep t)(a:t.fits es.size=cb)(h:Q (!w.params.followText "set-order"&&(!t.plain&&dV (es.size>1))) s):fx (gj prog w) A (setDrawn S) Q E s:=by
 show b5 (my ho rfl a ?_);show b5 (f7 (cL h))
def qV(a:w.params.followText "set-order"=cb)(ho:s.heap.get? S≈qT es ep t)(b:t.fits es.size=cb)
  (h:Q ((ś (w.params.setOrder S ep) es)[i]?.map λe=>(e.2,0)) s):fx (gj prog w) A (ϩ S 0 i ep) Q E s:=by
 show b5 (my ho rfl b ?_);change fx _ _ (if (w.params.followText _)=cb then _ else _) _ _ s;rw[if_pos a];rw[if_neg ⋯];show b5 (b5 (my ho rfl b ?_));change fx _ _ (if (w.params.followText _)=cb then _ else _) _ _ s;rw[if_pos a];show b5 (Xh (cL ?_));show cL h
theorem sY(hw:w.params.followText "set-order"=cK)(ho:s.heap.get? S=bD (qT es ep t))(hf:t.fits es.size=cb)(hl:t.led=cb)(h1:es.size<=1)
    (h:Q (match es[qs t.place slot]?,t.place[qs t.place slot]? with|some (_,x),bD j=>bD (x,j+1)|_,_=>b6) s):fx (gj prog w) A (ϩ S slot i ep) Q E s:=by
  refine b5 (my ho rfl hf ?_);show fx _ _ (if (w.params.followText _)=cb then _ else _) _ _ s;rw[if_neg (by rw[hw];simp)];show fx _ _ (if (!t.plain&&decide _)=cb then _ else _) _ _ s
  rw [if_neg (by have : decide (es.size > 1) = false := decide_eq_false (by lia)
                 rw[this];simp)]
  show fx _ _ ((if (!t.led&&!es.isEmpty)=cb then _ else _) >>= _) _ _ s;rw[if_neg (by rw[hl];simp)];exact b5 (cL (cL h))
def sZ(es:Array (Int×hY))(a)(i)(c:es.size<=1)(d:a.size=es.size)(b:i<=es.size):
  (match es[qs a (if i=0 then 0 else(a[0]?).getD 0+1)]?,a[qs a (if i=0 then 0 else(a[0]?).getD 0+1)]? with|some (_,x),bD j=>bD (x,j+1)|_,_=>b6)=es[i]?.map λe=>(e.2,(a[0]?).getD 0+1):=by
 obtain⟨es⟩:=es;obtain⟨a⟩:=a
 match es,a,c,d,b with
 |[],[],_,_,b=>simp
 |[e],[p],_,_,b =>
  match i,b with
  |0,_ =>
   rfl
  |1,_ =>
   have:qs #v[p] (p+1)=1:=by simp[qs,Í]
   simp[this]
  |n+2,h=>simp at h
 |[],_::_,_,h,_=>simp at h
 |[_],[],_,h,_=>simp at h
 |[_],_::_::_,_,h,_=>simp at h
 |_::_::_,_,h,_,_=>simp at h
def AD(hh:B.handled=b6)(hS:ba prog w s.heap S (aJ w) D)
  (h:∀I fp n P St (c:↑Str) h' d',Walks prog w B I fp [I] n P St->c.Perm D->n=⇑c->(∀i v,P i v->∃x T,c[i]?≈x/\v=.str x T)->↥s<=I->(∀b∈fp,b=S\/↥s<=b)->St 0 h' ->
   (∀b o,s.heap.get? b≈o->h'.get? b≈o)->Q (.ref I) {s with heap:=h',drawn:=d' }):fx (gj prog w) A (ĕ (.ref S)) Q E s:=by
 have(L,es,ep,t,ho,MK,Y,L_,a,m,MQ,My):=hS;have Y8:s.TypeIs (.ref S) "set":=#[_,ho,rfl]
 have PY:S<↥s:=fz ho;show Ϧ Y8 F.slot_set_iter (wh F.slot_set_iter Y8 SI.mW ?_ (F.args_set_iter_1 _));unfold Ti.«frozenset.__iter__» η slotArgs;simp only[List.isEmpty_nil,Ϥ,wk,↓reduceIte,bind_assoc,List.length_nil,bne_self_eq_false];unfold ν Æ;show b5 (cL ?_)
 try dsimp only
 show b5 (cL ?_);show b5 (b5 (X8 ho rfl a (cL ?_)));have Va:⇑D=es.size:=by rw[<-Y.length_eq,df,<-gc,MK,df]
 have d:∀(l:↑(Int×hY)),l.Perm es.toList->∃c:↑Str,c.Perm D/\⇑c=es.size/\∀(i:Nat) v,(l.map (·.2))[i]?≈v->∃x T,c[i]?≈x/\v=ti x T:=by
  intro l hl;rw[MK]at hl;have(L',e',p'):=dw hl;show#[L'.map (·.1),(p'.map _).trans Y,by rw[((p'.map _).trans Y).length_eq,Va],λi v G=>?_];subst e';rw[fR,hU]at G;rw[hU];cases q:L'[i]? with
  |none=>rw[q]at G;simp at G
  |some p=>rw[q]at G;simp at G;show#[p.1,p.2,rfl,G.symm]
 show b5 (qU ho a ?_);cases hw:w.params.followText "set-order" with
 |true =>
  simp only[Ϥ,ϒ,wk,↓reduceIte];show b5 (cL ?_);show b5 (b5 (my ho rfl a (cL ?_)));show b5 (Q6 ?_);have u:S≠↥s:=gm PY;have(c,H,J,N):=d (ś (w.params.setOrder S ep) es).toList (eI _ _);have W:=mX (prog:=prog) (w:=w) (A:=B) (I:=↥s) (S:=S) (es:=es) (ep:=ep) (t:=t) hh u a S u ((ś (w.params.setOrder S ep) es).toList.map (·.2)) (by rw[df,(eI _ _).length_eq,gc]) (λ_=>Mt 0) (λ_=>True) (λ_ _ _ _=>ttt)
   (λs i E Q _ _ f y k1 k2=>AB (slot:=0) f y a hh (λB E' Q' q=>qV hw y a q) (λx nx e h' O hs=>by
    rw[eu]at e;have(p,C,e2):=e;cases e2;show k1 _ (by rw[hU,Nz,C];rfl) h' O hs) (λe=>k2 (by rw[hU,Nz,YO];rwa [YO]at e)))
  show cL #[_,rfl,"set_iterator",_,#[_,eW _ rfl,rfl],SI.slot_next.lookup,?_];show h _ _ _ _ _ c _ s.drawn W H J.symm N (gi _) (λb m=>by
   grind) ⟨lx _,⟨_,eW _ rfl,rfl,rfl⟩,cc _ ho,ttt⟩ λb o e=>cc _ e
 |false =>
  by_cases hsz:es.size>1
  .have NC:t.plain=cK:=by
    rcases My with z|z
    .lia
    .show z
   have C:(!cK&&(!t.plain&&dV (es.size>1)))=cb:=by rw[NC,decide_eq_true hsz];rfl
   rw[C];simp only[↓reduceIte];show b5 (iI _ _ _ _ Qz λg d' hp=>?_);simp only[newTuple];have Qx:∀j∈g,j<es.size:=λj hj=>by have:=hp.mem_iff.mp hj;simpa using this
   have TY:⇑g=es.size:=by rw[hp.length_eq];simp
   show b5 (Q6 ?_ (by
    change(g.map λ(j:Nat)=>Mt j).toArray.size<=_;have:es.size<4096:=m;simp only[ri,df,TY];have:4096<=dt:=⋯
    lia))
   have Pa:(s.heap.push {cls:=.type "tuple",data:=.seq (g.map λ(j:Nat)=>Mt j).toArray}).get? S≈qT es ep t:=cc _ ho;show b5 (b5 (my (s:={s with heap:=_,drawn:=d' }) Pa rfl a (cL ?_)));show b5 (Q6 ?_);have ab:↥s≠(s.heap.push {cls:=.type "tuple",data:=.seq (g.map λ(j:Nat)=>Mt j).toArray}).objs.size:=by rw[S0];show gm (ρ _)
   have u:S≠(s.heap.push {cls:=.type "tuple",data:=.seq (g.map λ(j:Nat)=>Mt j).toArray}).objs.size:=by rw[S0];show gm (QA PY)
   have RK:(g.map λj=>(es[j]?).getD (0,qP)).Perm es.toList:=by
    show(hp.map _).trans ?_;have:(fS es.size).map (λj=>(es[j]?).getD (0,qP))=es.toList:=by
     apply PH
     .simp
     .intro i h1 h2;simp at h1 ⊢;simp[h1]
    rw[this]
   have(c,H,J,N):=d _ RK;have W:=mX (prog:=prog) (w:=w) (A:=B) (I:=(s.heap.push {cls:=.type "tuple",data:=.seq (g.map λ(j:Nat)=>Mt j).toArray}).objs.size) (S:=S) (es:=es) (ep:=ep) (t:=t) hh u a ↥s ab ((g.map λj=>(es[j]?).getD (0,qP)).map (·.2)) (by simp[TY]) (λ_=>.ref ↥s) (λh=>h.IsTuple ↥s (g.map λ(j:Nat)=>Mt j).toArray) (λh h' ⟨o,ho,r⟩ k=>#[o,k _ ho,r])
    (λs' i E Q _ OS f y k1 k2=>Ho f y a hh OS (λj e ej ee h' O hs=>k1 _ (by rw[hU,hU,ej];simp[ee]) h' O hs) Qx (λe=>k2 (by rw[hU,hU,e];rfl)))
   show cL #[_,rfl,"set_iterator",_,#[_,eW _ rfl,rfl],SI.slot_next.lookup,?_];show h _ _ _ _ _ c _ d' W H J.symm N (by rw[S0];show È _) (λb m=>?_) ⟨lx _,⟨_,eW _ rfl,rfl,rfl⟩,cc _ Pa,⟨_,cc _ (eW _ rfl),rfl,_,rfl⟩⟩ λb o e=>cc _ (cc _ e);rw[S0]at m;simp only[f6,Su,or_false]at m;rcases m with rfl|rfl|rfl
   .show .inr (È _)
   .show .inl rfl
   .show .inr (gi _)
  .have C:(!cK&&(!t.plain&&dV (es.size>1)))=cK:=by rw[decide_eq_false hsz];simp
   rw[C];simp only[wk,↓reduceIte];show b5 (cL ?_);show b5 (b5 (my ho rfl a (cL ?_)));show b5 (Q6 ?_);have u:S≠↥s:=gm PY;have ac:t.led=cb:=by rw[MQ];change(!w.params.followText "set-order")=cb;rw[hw];rfl
   have(c,H,J,N):=d es.toList (.refl _);have Om:t.place.size=es.size:=by
    unfold V4 at a;simp only[et,beq_iff_eq]at a;show a.1
   have W:=mX (prog:=prog) (w:=w) (A:=B) (I:=↥s) (S:=S) (es:=es) (ep:=ep) (t:=t) hh u a S u (es.toList.map (·.2)) ⋯ (λi=>Mt (if i=0 then 0 else(t.place[0]?).getD 0+1:Nat)) (λ_=>True) (λ_ _ _ _=>ttt)
    (λs' i E Q hi _ f y k1 k2=>AB (slot:=if i=0 then 0 else(t.place[0]?).getD 0+1) f y a hh (λB E' Q' q=>sY hw y a ac ⋯ q) (λx nx e h' O hs=>by
     rw[sZ es t.place i ⋯ Om hi,eu]at e;have(p,C,e2):=e;cases e2;show k1 _ (by rw[hU,Nz,C];rfl) h' ?_ hs;rw[if_neg (Nat.succ_ne_zero i)];show O) (λe=>by
     rw[sZ es t.place i ⋯ Om hi,YO]at e;show k2 (by rw[hU,Nz,e];rfl)))
   show cL #[_,rfl,"set_iterator",_,#[_,eW _ rfl,rfl],SI.slot_next.lookup,?_];show h _ _ _ _ _ c _ s.drawn W H J.symm N (gi _) (λb m=>by
    grind) ⟨lx _,⟨_,eW _ rfl,rfl,rfl⟩,cc _ ho,ttt⟩ λb o e=>cc _ e
def s9:Z9 (.type "set") "__len__"=pure (bD (.builtin "set.__len__")):=by rw[Ħ,Ð];rfl
theorem mY:∀{vs}{a},⇑vs=⇑a->(∀(i:Nat) v,vs[i]?≈v->∃x t,a[i]?≈x/\v=.str x t)->XM vs a
 |[],[],_,_=>.nil
 |[],_::_,h,_=>by simp at h
 |_::_,[],h,_=>by simp at h
 |v::vs,y::a,h,k=>by
  have(x,t,b,c):=k 0 v rfl;cases b;subst c;show .cons y t (mY (by simpa using h) λi w d=>k (i+1) w d)
def s_(hh:A.handled=b6)(j:ba prog w s.heap S (aJ w) D)(Y:⇑D<=dt)
  (hQ:∀vs c h' d' k,c.Perm D->XM vs c->↥s<=h'.objs.size->s.toks<=k->(∀b o,s.heap.get? b≈o->h'.get? b≈o)->Q vs {s with heap:=h',drawn:=d',toks:=k}) :
  fx (gj prog w) A (ť (.ref S)) Q E s:=by
 have(L,es,ep,t,ho):=id j;have PY:S<↥s:=fz ho;unfold ť;show b5 (ķ (Pr F.entry_proto_collect ?_));rw[R_ F.plain_proto_collect _];change fx _ A.in1 (newList [] >>= λl=>again (.builtin "list.__iadd__" ⟨[l,.ref S],[]⟩)) _ _ s;show b5 (Q6 ?_);show cL #[Vl F.plain_list_iadd _,Pr F.entry_list_iadd ?_];rw[R_ F.plain_list_iadd _];have m:(s.heap.push {cls:=.type "list",data:=.seq ([]:↑hY).toArray}).get? S≈{cls:=.type "set",dict:=b6,data:=.set es ep t}:=cc _ ho;have hT:X9 {s with heap:=s.heap.push {cls:=.type "list",data:=.seq ([]:↑hY).toArray}} (.ref S) "set":=#[_,m,rfl]
 change fx _ A.in1 (NW (.ref ↥s) (.ref S) (.ref ↥s)) _ _ _;unfold NW;show b5 (UX hT ?_);have p:↥s≠S:=va PY;have h1:T7 (.ref ↥s) (.ref S)=cK:=by simp[T7,p]
 have h2:(Qv "set"==Qv "list")=cK:=⋯
 have h3:(Qv "set"==Qv "tuple")=cK:=⋯
 simp only[h1,h2,h3,Ó,wk,if_false];show b5 (AD (B:=A.in1) (by simpa using hh) (j.at λ_ z=>cc _ z) ?_);intro I fp n P St c h' d' W q r hP u WS L8 hk;have f:X9 {s with heap:=h',drawn:=d' } (.ref S) "set":=#[_,hk _ _ m,rfl]
 show b5 (qI ?_);unfold Ò;show b5 (Rr f s9 ?_);have NO:splitId "set.__len__"≈("set","__len__"):=by decide +kernel
 dsimp only
 rw[NO]
 dsimp only
 show b5 (Nt f Ă ?_);rw[if_neg ⋯];rw[if_pos (by decide +kernel)];show b5 (UX f ?_);show cL ?_;rw[if_pos (by decide +kernel)];have x:↥s∉fp:=λa=>by
  rcases WS _ a with z|z
  .show p z
  .rw[S0]at z;show absurd z (Nat.not_succ_le_self _)
 have y:h'.get? ↥s≈{cls:=.type "list",data:=.seq ([]:↑hY).toArray}:=hk _ _ (eW _ rfl);show b5 (Qt ?_);show b5 ?_;change fx _ A.in1 (updateSeq ↥s (·.push .none) >>= λ_=>updateSeq ↥s (·.pop)) _ _ _;show b5 (X1 y rfl ?_);have C:=sL (uv (·.push qP)) y rfl;show X1 C rfl ?_;have g:=sL (uv (·.pop)) C rfl;have G:∀b o,b≠↥s->h'.get? b≈o->((h'.update ↥s (uv (·.push qP))).update ↥s (uv (·.pop))).get? b≈o :=
  λb o d e=>(Th _ _ (ve d)).trans ((Th _ _ (ve d)).trans e)
 show cL #[Vl F.plain_extend_loop _,Ξ W.toS (by rw[r,q.length_eq];show Y) _ x _ n 0 _ _ _ rfl (lx _) (W.frame 0 h' _ L8 λb d o e=>G b o (λz=>x (z▸d)) e) g (ϋ P) λH M5 c' a J N=>?_];change fx _ A (load ↥s >>= _) _ _ H;show b5 (ϕ J ?_);have(O7,g2,O,WU,h):=H;have eg:g2=s.gens:=a.gens;have ed:O=d':=a.drawn;have eo:h=s.os:=a.os;subst eg;subst ed;subst eo;show cL (hQ _ c O7 O WU q (mY (by rw[gc,N.1,r]) λi v hv=>hP i v (N.2 i v ⋯)) (Rt (fz J)) a.toks λb o e=>?_);have T:b≠↥s:=λz=>by rw[z]at e;show absurd (fz e) (uk _)
 show a.heap b o (λz=>?_) (G b o T (hk _ _ (cc _ e)));rcases f6.mp z with z|z
 .show T z
 .rw[nc.mp z]at e;have:=fz e;rw[S0]at u;show absurd (lg this (H8 (È _) u)) (uk _)
def Inv.drawn(I:Inv X a σ H s)(d:Drawn):Inv X a σ H {s with drawn:=d}:=#[I.ok,I.os,I.bare,I.base,I.loc,I.cell,I.free,I.MV,I.pin,I.L7,I.len]
def jD(j:X.calm=cb)(I:Inv X c σ H s)(hq:Mz X.K H p (d.map V.str)\/MA X.K H p (d.map V.str))(i:⇑d+1<Q9)
  (h:∀S h' a,ba X.prog X.w h' S (aJ X.w) (aU d)->Inv X c σ H {s with heap:=h',toks:=a}->Q (.ref S) {s with heap:=h',toks:=a}) :
  (fx (gj X.prog X.w) X.A) (TN (.type "set") [.ref p]) Q X.xe s:=by
 have hh:X.A.handled=b6:=I.ok.hd j;rcases hq with hq|hq
 .have(its,rv,f,hz):=I.list hq;show d8 hh (.inl f.isList) (cU rv) i λh' a g k=>h _ h' a g (I.kept λb o e=>k b o (fz e) e)
 .have(its,rv,f,hz):=I.tuple hq;show d8 hh (.inr f) (cU rv) i λh' a g k=>h _ h' a g (I.kept λb o e=>k b o (fz e) e)
def iJ(h:X.calm=cb)(I:Inv X a σ H s)(i:ba X.prog X.w s.heap S (aJ X.w) D)(j:⇑D<64)
  (q:∀p,H p=b6->Q (.ref p) (upd H p (.lst ((aD D).map V.str)))):(fx (gj X.prog X.w) X.A) (TN (.builtin "sorted") [.ref S]) (EP X a σ Q) X.xe s:=by
 have hh:=I.ok.hd h;have hl:⇑D<=dt:=Rt (lg j ⋯);show fY (s_  ⋯ i hl λvs k h' d' l c d hsz r hk=>#[k,d,by rw[mV d,c.length_eq];lia,λt m e k2 b f=>?_]);rw[cW c]at f;have n:=I.kept (t':=l) hk;have g:=n.drawn d';show#[.ref _,_,g.laid  (o:=.lst _) k2 (gi _) #[by rw[df,cE];show hl,m,e,d7 f,b],rfl,q _ (g.L7.fresh (gi _))]
def mZ(I:Inv X a σ H s)(c:ba X.prog X.w s.heap S (aJ X.w) D)
  (q:Q (.int ⇑D) H):(fx (gj X.prog X.w) X.A) (TN (.builtin "len") [.ref S]) (EP X a σ Q) X.xe s:=by
 have(L,es,ep,t,ho,d,f,i,g,h,j,k):=c;have b:es.size=⇑D:=by rw[<-gc,d,df,<-df  ,f.length_eq]
 have l:es.size<4096:=h;show call_len_set ho #[rfl,rfl,rfl] rfl g ⋯ ?_;show#[.int _,_,I.kept  (λ_ _ e=>e),#[_,rfl],by rw[b];show q]
end L2
namespace Tb
open PySem PySem.SetTable
abbrev run(mask i:Nat):↑Nat:=(fS (Ŧ mask i+1 - i)).map (i+·)
abbrev d4(mask:Nat):Nat->Nat->Nat->↑Nat
 |0,_,_=>[]
 |f+1,i,p=>run mask i++d4 mask f (Ϝ mask i p).1 (Ϝ mask i p).2
abbrev path(mask:Nat)(h:Int):↑Nat:=d4 mask (Vp mask) (Xq h % (mask+1)) (Xq h)
theorem free_eq(mask)(owner):∀f i p,WT mask owner f i p=(d4 mask f i p).find? λj=>(owner.getD j (bD 0)).isNone
 |0,_,_=>rfl
 |f+1,i,p=>by
  rw[WT,d4,List.find?_append,run,List.find?_map,<-free_eq mask _ f _ _];rw[show((λj=>(owner.getD j _).isNone) ∘ λx=>i+x)=λk=>(owner.getD _ _).isNone from rfl];cases(fS _).find? _<;>rfl
def D5(mask i):⇑(run mask i)<=10:=by
 unfold run Ŧ
 grind
def Hq{mask i j}(hi:i<=mask)(h:j∈run mask i):j<=mask:=by
 unfold run Ŧ at h
 grind
def AE(mask i):i∈run mask i:=by
 unfold run Ŧ
 grind
def wU(mask i p):(Ϝ mask i p).1<=mask:=Wc (X6 _ (ê _))
theorem pF(mask):∀f i p,⇑(d4 mask f i p)<=10 * f
 |0,_,_=>gi _
 |f+1,i,p=>by
  have:=pF mask f (Ϝ mask i p).1 (Ϝ mask i p).2;have:=D5 mask i;rw[d4,ko];lia
theorem tf{mask j}:∀{f i p},i<=mask->j∈d4 mask f i p->j<=mask
 |0,_,_,_,h=>by cases h
 |f+1,i,p,hi,h=>by
  rcases ki.mp h with h|h
  .show Hq hi h
  .show tf (wU mask i p) h
def AF(mask)(h):⇑(path mask h)<=10 * Vp mask:=pF ..
def D6{mask j}(a:j∈path mask h):j<=mask:=tf (Wc (X6 _ (ê _))) a
abbrev st(mask i:Nat):Nat:=(i * 5+1) % (mask+1)
abbrev it(mask:Nat):Nat->Nat->Nat
 |0,i=>i
 |k+1,i=>it mask k (st mask i)
theorem qW(mask):∀a b i,it mask (a+b) i=it mask b (it mask a i)
 |0,b,i=>by rw[UJ];rfl
 |a+1,b,i=>by rw[Ŷ];show qW mask a b _
theorem AG{mask}:∀{k f i},k<f->it mask k i∈d4 mask f i 0
 |0,f+1,i,_=>ZY _ (AE mask i)
 |k+1,f+1,i,h=>by
  show p6 _ ?_;show AG   ⋯
structure Good(mask:Nat):Prop where
 all:∀j,j<=mask->∃k,k<=mask/\it mask k 0=j
 round:it mask (mask+1) 0=0
def Good.cover{mask}(g:Good mask)(hi:i<=mask)(c:j<=mask):∃k,k<=mask/\it mask k i=j:=by
 have(a,d,rfl):=g.all i hi;have(b,e,rfl):=g.all j c;by_cases h:a<=b
 .show#[b - a,⋯,?_];rw[<-qW,show a+(b - a)=b by lia]
 .show#[mask+1+b - a,⋯,?_];rw[<-qW,show a+(mask+1+b - a)=mask+1+b by lia,qW,g.round]
abbrev WV(mask:Nat):Nat->Nat->↑Nat
 |0,_=>[]
 |k+1,i=>i::WV mask k (st mask i)
theorem wV{mask j}:∀{k i},j∈WV mask k i->∃m,m<k/\it mask m i=j
 |0,_,h=>by cases h
 |k+1,i,h=>by
  rcases f6.mp h with rfl|h
  .show#[0,⋯,rfl]
  .have(m,a,e):=wV h;show#[m+1,⋯,e]
abbrev Ge(mask:Nat):Bool:=(fS (mask+1)).all (λj=>(WV mask (mask+1) 0).contains j)&&it mask (mask+1) 0==0
def h_{mask}(h:Ge mask=cb):Good mask:=by
 unfold Ge at h;rw[et,nH]at h;show#[λj a=>?_,by simpa using h.2];have:=h.1 j (tj.mpr ⋯);rw[List.contains_iff_mem]at this;have(m,b,e):=wV this;show#[m,⋯,e]
def wW:Good 7:=h_ (by rfl)
def AH:Good 15:=h_ (by rfl)
def u6:Good 31:=h_ (by rfl)
def AI:Good 63:=h_ (by rfl)
def qX:Good 127:=h_ (by rfl)
def D7:Good 255:=h_ (by rfl)
abbrev SN:Nat->Nat->Nat
 |0,p=>p
 |n+1,p=>SN n (p / 32)
theorem tm{mask j}:∀{n f i p},i<=mask->(∀a,a<=mask->j∈d4 mask f a (SN n p))->j∈d4 mask (n+f) i p
 |0,f,i,p,hi,h=>by rw[UJ];show h i hi
 |n+1,f,i,p,hi,h=>by
  rw[Ŷ];show p6 _ ?_;show tm (wU mask i p) h
theorem AJ:∀n p,SN n p=p / 32 ^ n
 |0,p=>by simp[SN]
 |n+1,p=>by rw[SN,AJ n,Nat.div_div_eq_div_mul,Nat.pow_succ,aae]
def D8(h):Xq h<2 ^ 64:=by
 unfold Xq;lia
def Good.path{mask:Nat}(g:Good mask)(h:Int)(a:j<=mask):j∈path mask h:=by
 unfold Tb.path Vp;rw[show mask+15=13+(mask+2) by lia];show tm (Wc (X6 _ (ê _))) λc b=>?_;have:SN 13 (Xq h)=0:=by
  rw[AJ];have:=D8 h;show Nat.div_eq_of_lt (lg this ⋯)
 rw[this];have(k,hk,rfl):=g.cover b a;show AG ⋯
end Tb
namespace L2
open PySem Tb
theorem u7(g:Nat->Option Nat):∀r:↑Nat,(r.filterMap λj=>(g j).map (j,·)).map (·.1)=r.filter λj=>(g j).isSome
 |[]=>rfl
 |a::r=>by
  cases q:g a with
  |none=>rw[List.filterMap_cons_none (by rw[q];rfl),Į (by rw[q];simp)];show u7 g r
  |some k=>rw[List.filterMap_cons_some  (by rw[q];rfl),ĭ (by rw[q];rfl),gr,u7 g r]
def D9(g:Good mask){j0:Nat}(b:owner[j0]?≈b6)(hsz:owner.size=mask+1)(h):∃j,WT mask owner (Vp mask) (Xq h % (mask+1)) (Xq h)≈j/\owner[j]?≈b6:=by
 rw[free_eq];have a:∀j ,(owner.getD j (bD 0)).isNone=cb↔owner[j]?≈b6:=λj=>by
  rw[Xv];cases owner[j]? with
  |_=>simp
 have c:j0<=mask:=by grind
 cases e:(d4 mask _ _ _).find? λj=>(owner.getD j _).isNone with
 |some j=>show#[j,rfl,(a j).mp (by simpa using List.find?_some e)]
 |none=>show absurd ((a j0).mpr b) (List.find?_eq_none.mp e j0 (g.path h c))
abbrev vals(L:↑(Option Nat)):↑Nat:=L.filterMap id
theorem tq:∀{L}{j},L[j]?≈b6->(vals (L.set j (bD k))).Perm (k::vals L)
 |[],j,h=>by simp at h
 |x::L,0,h=>by
  have:=by simpa using h
  subst this;rfl
 |x::L,j+1,h=>by
  have a:=tq (k:=k)   (by simpa using h);cases x with
  |none=>show a
  |some y =>
   show(Ř y a).trans (ŗ k y _)
theorem pG:∀{L},⇑(vals L)<⇑L->∃j:Nat,L[j]?≈b6
 |[],h=>by simp at h
 |none::L,_=>#[0,rfl]
 |some y::L,h=>by
  have(j,a):=pG (L:=L) (by
   have:⇑(vals L)+1<⇑L+1:=h;lia)
  show#[j+1,by assumption]
theorem AK(g:Good mask):∀(hs:↑Int) owner k,owner.size=mask+1->(vals owner.toList).Perm (fS k)->k+⇑hs<=mask ->
  ∃b,hs.foldl (λc h=>do
   let (owner,k) <-c
   let j <-WT mask owner (Vp mask) (Xq h % (mask+1)) (Xq h)
   pure (owner.setIfInBounds j (bD k),k+1)) (bD (owner,k))≈(b,k+⇑hs)/\b.size=mask+1/\(vals b.toList).Perm (fS (k+⇑hs))
 |[],owner,k,d,a,_=>#[owner,rfl,d,a]
 |h::hs,owner,k,d,a,i=>by
  rw[nz]at i;have(j0,q):=pG (L:=owner.toList) (by rw[a.length_eq,Qz,gc];lia);have(j,e,l):=D9 g (owner:=owner) (j0:=j0) ⋯ d h;have f:owner.toList[j]?≈b6:=by rw[Nz];show l
  have m:(vals (owner.setIfInBounds j (bD k)).toList).Perm (fS (k+1)):=by
   rw[Array.toList_setIfInBounds,υ];show(tq f).trans ((Ř k a).trans (Đ k _).symm)
  have(o',n,o,p):=AK g hs (owner.setIfInBounds j (bD k)) (k+1) ⋯ m ⋯;show#[o',?_,o,by rw[show k+⇑(h::hs)=k+1+⇑hs by simp;lia];show p];rw[Zl,show k+⇑(h::hs)=k+1+⇑hs by simp;lia,<-n];simp_all
def u9(L):(fS ⇑L).filterMap (λj=>L.getD j b6)=vals L:=by
 have h:(fS ⇑L).map (λj=>L.getD j b6)=L:=by
  apply PH
  .simp
  .intro i b a;simp[Ry,a]
 have a:vals ((fS ⇑L).map (λj=>L.getD j b6))=vals L:=congrArg vals h;unfold vals at a;rw[List.filterMap_map]at a;show a
def qY{led plain}(g:Good mask)(h:hs.size<=mask):∃t a,Zx mask finger moves led plain hs≈(t,a)/\t.fits hs.size=cb/\t.led=led/\t.plain=plain/\t.mask=mask/\t.dummies=#v[]/\a.toList.Perm (fS hs.size)/\t.place.size=hs.size/\t.place.toList.Pairwise (· < ·)/\∀j∈t.place.toList,j<=mask:=by
 have(owner,d,i,c):=AK g hs.toList (Array.replicate (mask+1) b6) 0 ⋯ (by
  have:∀n:Nat,vals (hZ n b6)=[]:=λn=>by
   induction n with
   |zero=>rfl
   |succ n k=>rw[Î];show k
  rw[Array.toList_replicate,this];show U4 _) (by rw[gc];lia)
 rw[UJ,gc]at d c;have l:XQ mask hs≈owner:=by
  unfold XQ;rw[<-Array.foldl_toList];rw[d];rfl
 have m:((fS (mask+1)).filterMap λj=>owner.getD j b6)=vals owner.toList:=by
  rw[<-u9,gc,i];congr 1
  funext j
  simp only[Xv,XU,Nz]
 have e:(((fS (mask+1)).filterMap λj=>(owner.getD j b6).map (j,·)).map (·.2))=vals owner.toList:=by
  rw[<-m,List.map_filterMap];congr 1
  funext j
  cases owner.getD j b6<;>rfl
 have hl:⇑((fS (mask+1)).filterMap λj=>(owner.getD j b6).map (j,·))=hs.size:=by
  have:=congrArg K2 e;rw[df,c.length_eq,Qz]at this;show this
 have f:=u7 (λj=>owner.getD j b6) (fS (mask+1));show#[_,_,by unfold Zx;rw[l];rfl,?_,rfl,rfl,rfl,rfl,?_,?_,?_,λj b=>?_]
 .unfold V4 ZF;simp only[ri,df,hl];simp;show h
 .change(((fS (mask+1)).filterMap λj=>(owner.getD j b6).map (j,·)).map (·.2)).Perm _;rw[e];show c
 .change(((fS (mask+1)).filterMap λj=>(owner.getD j b6).map (j,·)).map (·.1)).toArray.size=_;rw[ri,df,hl]
 .change(((fS (mask+1)).filterMap λj=>(owner.getD j b6).map (j,·)).map (·.1)).Pairwise (· < ·);rw[f];show aah QW List.pairwise_lt_range
 .have b:j∈((fS (mask+1)).filterMap λj=>(owner.getD j b6).map (j,·)).map (·.1):=b;rw[f]at b;show Wc (tj.mp (DD.mp b).1)
end L2
namespace L2
open PySem PySem.Spec PyProof.Rows
abbrev Hr(P:vl)(w:OE)(p:Str×Tok):Int×hY:=((sK P w).hash p.1,ti p.1 p.2)
def ba.perm(b:ba prog w h a led D)(p:D.Perm c):ba prog w h a led c :=
 let ⟨L,es,ep,t,d,e,f,g,i,j,k,l⟩:=b;⟨L,es,ep,t,d,e,f.trans p,p.nodup_iff.mp g,i,j,k,l⟩
def ba.sz{h:Qy}{a:k7}{led:Bool}{D}{L:↑(Str×Tok)}{es:Array (Int×hY)}(b:es.toList=L.map (λp=>((sK prog w).hash p.1,ti p.1 p.2)))(c:(L.map (·.1)).Perm D):es.size=⇑D:=by
 rw[<-gc,b,df,<-c.length_eq,df]
def ba.of(f:ba prog w h a led D):h.SetOf (sK prog w) a (λx=>dV (x∈D)) ⇑D:=by
 have(L,es,ep,t,ho,b,d,k,g,i,l,m):=f;show#[_,es,ep,t,ho,#[rfl,rfl,rfl],rfl,by rw[b];show mR,λx=>?_,i,g,ba.sz (h:=h) (a:=a) (led:=led) b d];rw[decide_eq_true_eq,b,<-d.mem_iff,hW];constructor
 .rintro⟨p,c,e⟩;show#[_,hW.mpr #[p,c,rfl],by rw[iH];simp[e]]
 .rintro⟨e,j,hi⟩;have(p,c,rfl):=hW.mp j;rw[iH,decide_eq_true_eq]at hi;show#[p,c,hi.symm]
def tu(b:ba prog w s.heap a led D)(h:∀r,r.isSome=dV (x∈D)->Q r s):
  fx (gj prog w) A (setFind a (.str x c) ((sK prog w).hash x)) Q E s :=
 wpAny_setFind_of  (by rw[iH];simp) rfl b.of h
def fy{L':↑(Str×Tok)}(ho:s.heap.get? a≈{cls:=.type "set",dict:=b6,data:=.set es ep t})(f:b.toList=L'.map (λp=>((sK prog w).hash p.1,ti p.1 p.2)))(g:(L'.map (·.1)).Perm c)(i:c.Nodup)
  (j:t'.fits b.size=cb) (d:b.size<Q9) (hl:t'.led=led) (k:b.size=0\/t'.plain=cK) (h:∀h',p8 a s.heap h'->h'.get? a≈{cls:=.type "set",dict:=b6,data:=.set b (ep+1) t' }->ba prog w h' a led c->Q () {s with heap:=h' }) :
  fx (gj prog w) A (Ι a b t') Q E s:=by
 show Wt ho rfl ?_ (WH d);have e:=sL (PJ b t') ho rfl;show h _ (H0 _ a _) e #[L',b,_,t',e,f,g,i,j,d,hl,k]
def f9(xs:Array α)(i):(VH xs i).toList=xs.toList.eraseIdx i:=by
 unfold VH;rw[List.eraseIdx_eq_take_drop_succ];simp[];rw[OL ⋯]
def yX{t:VC}(h:t.fits n=cb)(hi:i<n):(t.drop i).fits (n - 1)=cb:=by
 simp only[V4,et,beq_iff_eq,decide_eq_true_eq]at h;have(e,b):=h;have a:i<t.place.size:=⋯
 have c:(VH t.place i).size=t.place.size - 1:=by
  rw[<-gc,f9,ŋ,if_pos (by simpa using a),gc]
 have d:∀p x,(QU t.dummies p x).size=t.dummies.size+1:=λp x=>by
  have:=(SetTable.insertAt_perm t.dummies p x).length_eq;rw[gc,gc,Array.size_push]at this;show this
 unfold ŧ;rw[RX a];simp only[V4,ZF,et,beq_iff_eq,decide_eq_true_eq,c,d]at b ⊢;constructor<;>lia
def AL(t:VC)(i):(t.drop i).led=t.led/\(t.drop i).plain=t.plain:=by
 unfold ŧ;split<;>show#[rfl,rfl]
theorem erase_filter:∀{l:↑Str}{j}{x},l.Nodup->l[j]?≈x->l.eraseIdx j=l.filter λy=>dV (y≠x)
 |[],j,x,_,h=>by rfl
 |y::l,0,x,a,h=>by
  have(b,c):=qb.mp a;have:=by simpa using h
  subst this;rw[Į ⋯];show(Nd.mpr λz hz=>by
   have:z≠y:=λe=>b (e▸hz);simpa using this).symm
 |y::l,j+1,x,a,h=>by
  have(b,c):=qb.mp a;have d:=by simpa using h
  have:y≠x:=λe=>b (e▸k8 d);rw[List.eraseIdx_cons_succ,erase_filter c d,ĭ ⋯]
theorem gH(f:α->β):∀(l:↑α) (j:Nat),(l.map f).eraseIdx j=(l.eraseIdx j).map f
 |[],_=>rfl
 |x::l,0=>rfl
 |x::l,j+1=>by
  change f x::(l.map f).eraseIdx j=f x::(l.eraseIdx j).map f;rw[gH f l j]
def tv{a}{led}{D}{x}{n}{Q:Bool->k9->Prop}(o:ba prog w s.heap a led D)(h:∀b h',p8 a s.heap h'->ba prog w h' a led (D.filter λy=>dV (y≠x))->Q b {s with heap:=h' }):
  fx (gj prog w) A (Ϲ a (.str x n) ((sK prog w).hash x)) Q E s:=by
 have C:=o;have(L,es,ep,t,ho,c,d,q,f,G,H,I):=o;have J:(sK prog w).is x (.str x n)=cb:=by rw[iH];simp
 have r:ElemsOf (sK prog w) es.toList:=by rw[c];show mR
 have hsz:=ba.sz (h:=s.heap) (a:=a) (led:=led) c d;unfold Ϲ setFind setFindIn;show b5 (b5 (my ho rfl f ?_))
 dsimp only
 rw[byScan_of (knd:=sK prog w) rfl G r];simp only[↓reduceIte];show b5 (Qt ?_);show b5 (ϵ (knd:=sK prog w) J ho rfl f r ?_);cases u:Ģ (λe=>(sK prog w).is x e.2) es.toList with
 |none =>
  dsimp only
  show cL (cL ?_);have g:x∉D:=λg=>by
   rw[<-d.mem_iff,hW]at g;have(p,N,e):=g;have O:((sK prog w).hash p.1,ti p.1 p.2)∈es.toList:=by rw[c];show hW.mpr #[p,N,rfl]
   have:=ę.mp u _ O;rw[iH,decide_eq_false_iff_not]at this;show this e.symm
  have e:D.filter (λy=>dV (y≠x))=D:=Nd.mpr λz hz=>by
   have:z≠x:=λe=>g (e▸hz);simpa using this
  have T:s={s with heap:=s.heap}:=by cases s;rfl
  rw[T];show h cK s.heap (OY a s.heap) (by rw[e];show C)
 |some j =>
  dsimp only
  have(i,v,_):=â.mp u;rw[UJ];show cL ?_
  dsimp only
  show b5 (my ho rfl f ?_)
  dsimp only
  have k:j<⇑L:=by rw[c,df]at i;show i
  have l:j<es.size:=by simpa using i
  have m:L[j].1=x:=by
   have e:es.toList[j]=((sK prog w).hash L[j].1,ti L[j].1 L[j].2):=by simp[c]
   rw[e,iH,decide_eq_true_eq]at v;show v.symm
  have Y:(L.map (·.1)).Nodup:=d.nodup_iff.mpr q;have Vc:(L.eraseIdx j).map (·.1)=(L.map (·.1)).filter λy=>dV (y≠x):=by
   rw[<-erase_filter Y (j:=j) (by simp[k,m]),gH]
  have WX:(VH es j).toList=(L.eraseIdx j).map (λp=>((sK prog w).hash p.1,ti p.1 p.2)):=by
   rw[f9,c,gH]
  have B:(VH es j).size=es.size - 1:=by rw[<-gc,f9,ŋ,if_pos i,gc]
  have(d1,d2):=AL t j;show b5 (fy (t':=t.drop j) (led:=led) ho WX (by rw[Vc];show d.filter _) (ģ QW q) (by rw[B];show yX f l) (by rw[B];lia) (d1.trans H) (.inr (d2.trans (I.resolve_left ⋯))) λh' sb hg Nk=>?_);show b5 (wpAny_point ?_);show cL (h cb h' sb Nk)
def f_{es:Array (Int×hY)}{a:Array Nat}(h:a.toList.Perm (fS es.size)):(a.filterMap (es[·]?)).toList.Perm es.toList:=by
 rw[Array.toList_filterMap];show(h.filterMap _).trans (by rw[filterMap_getElem?_range])
def pH{L:↑(Str×Tok)}(ho:s.heap.get? a≈{cls:=.type "set",dict:=b6,data:=.set es ep t})(n:es.toList=L.map (λp=>((sK prog w).hash p.1,ti p.1 p.2)))(o:(L.map (·.1)).Perm D)(q:D.Nodup)
  (r:t.fits es.size=cb) (u:es.size<Q9) (i:t.led=led) (v:es.size=0\/t.plain=cK) (j:Ss c=m+1) (x:Tb.Good m) (y:es.size<=m) (z:m<1000)
  (h:∀h' d t' B,p8 a s.heap h'->h'.get? a≈{cls:=.type "set",dict:=b6,data:=.set d B t' }->ba prog w h' a led D->t'.fits d.size=cb->t'.mask=m->t'.dummies=#v[]->t'.led=led->d.size=es.size->Q () {s with heap:=h' }) :
  fx (gj prog w) A (setRelay a c) Q E s:=by
 have C:2000<=dt:=⋯
 have(t',b,G,f,k,H,I,J,l,_):=qY (mask:=m) (finger:=t.finger) (moves:=t.movedTo m) (led:=t.led) (plain:=t.plain) (hs:=es.map (·.1)) x (by rw[VG];show y);rw[VG]at f l;have e:t.relaid (es.map (·.1)) c≈(t',b):=by
  unfold YB;rw[j,ŵ];show G
 unfold setRelay;show b5 (my ho rfl r ?_)
 dsimp only
 rw[if_neg (by rw[j];lia)];show b5 ?_;rw[e];change fx (gj prog w) A (if ((b.filterMap (es[·]?)).size != es.size)=cb then(ě "internal:set-table-lost-an-element" >>= λ_=>pure (b.filterMap (es[·]?),t')) else pure (b.filterMap (es[·]?),t')) _ E s;have g:=f_ l;have hsz:(b.filterMap (es[·]?)).size=es.size:=by rw[<-gc,g.length_eq,gc]
 rw[if_neg (by rw[hsz];simp)];show cL ?_;rw[n]at g;have(L',N,O):=dw g;show fy (led:=led) ho N ((O.map _).trans o) q (by rw[hsz];show f) (by rw[hsz];show u) (k.trans i) (by rw[hsz,H];show v) λh' T Y hs=>h h' _ t' _ T Y hs (by rw[hsz];show f) I J (k.trans i) hsz
def AM(b:5<=n)(a:n<64):∃m,Ss (2 * n)=m+1/\Tb.Good m/\n<=m/\m<1000:=by
 have:∀n:_root_.Fin 64,Ss (2 * n.val)=(if n.val<4 then 8 else if n.val<8 then 16 else if n.val<16 then 32 else if n.val<32 then 64 else 128):=by decide +kernel
 have e:=this #[n,a]
 dsimp only at e
 rw[e,if_neg ⋯];split
 .show#[15,rfl,Tb.AH,⋯,⋯]
 .split
  .show#[31,rfl,Tb.u6,⋯,⋯]
  .split
   .show#[63,rfl,Tb.AI,⋯,⋯]
   .show#[127,rfl,Tb.qX,⋯,⋯]
def yY(a:n<64):∃m,Ss (OH n)=m+1/\Tb.Good m/\n<=m/\m<1000:=by
 have:∀n:_root_.Fin 64,Ss (OH n.val)=(if n.val<2 then 8 else if n.val<4 then 16 else if n.val<8 then 32 else if n.val<16 then 64 else if n.val<32 then 128 else 256):=by decide +kernel
 have e:=this #[n,a]
 dsimp only at e
 rw[e];split
 .show#[7,rfl,Tb.wW,⋯,⋯]
 .split
  .show#[15,rfl,Tb.AH,⋯,⋯]
  .split
   .show#[31,rfl,Tb.u6,⋯,⋯]
   .split
    .show#[63,rfl,Tb.AI,⋯,⋯]
    .split
     .show#[127,rfl,Tb.qX,⋯,⋯]
     .show#[255,rfl,Tb.D7,⋯,⋯]
def AN{a}{led}{D}{Q:Unit->k9->Prop}(b:ba prog w s.heap a led D)(o:⇑D<64)(h:∀h',p8 a s.heap h'->ba prog w h' a led D->Q () {s with heap:=h' }):
  fx (gj prog w) A (setTidy a) Q E s:=by
 have f:=b;have(L,es,ep,t,ho,c,d,g,e,i,j,k):=b;have hsz:=ba.sz (h:=s.heap) (a:=a) (led:=led) c d;show b5 (my ho rfl e ?_)
 dsimp only
 split
 .have(m,m1,m2,m3,m4):=yY (n:=es.size) ⋯;show pH ho c d g e i j k m1 m2 m3 m4 λh' _ _ _ l _ hs _ _ _ _ _=>h h' l hs
 .show cL ?_;show h _ (OY a _) f
def yZ{a b}{es:Array (Int×hY)}{D}{Q:Unit->k9->Prop}(x:a≠b)(ho:s.heap.get? a≈{cls:=.type "set",dict:=b6,data:=.set #v[] 0 (.fresh 0 0 (aJ w))})(y:ba prog w s.heap b (aJ w) D)(Ol:⇑D<64)
  (h:∀h',p8 a s.heap h'->ba prog w h' a (aJ w) D->Q () {s with heap:=h' }):fx (gj prog w) A (setMerge a b) Q E s:=by
 have SO:=y;have(L,d,l,f,B,n,o,C,G,H,TZ,WY):=y;have hsz:=ba.sz (h:=s.heap) (a:=b) (led:=aJ w) n o;have p:(ŝ 0 0 (aJ w)).fits (#v[]:Array (Int×hY)).size=cb:=rfl;unfold setMerge;rw[if_neg (by simpa using x)];show b5 (my B rfl G ?_)
 dsimp only
 split
 .rename_i WZ;have hD:D=[]:=by
   have:d.size=0:=by simpa using WZ
   show Tg ⋯
  subst hD;have q:s={s with heap:=s.heap}:=by cases s;rfl
  show cL ?_;rw[q];show h s.heap (OY a s.heap) (iU ho)
 .rename_i MF;have W0:d.size≠0:=λz=>MF (by simpa using z);show b5 ?_;unfold setRoomFor;show b5 (my ho rfl p ?_)
  dsimp only
  show vu (Q:=λ_ s1=>∃(g:Qy) (ts:VC) (I:Nat) (k:Array (Int×hY)),s1={s with heap:=g}/\k.size=0/\p8 a s.heap g/\g.get? a≈{cls:=.type "set",dict:=b6,data:=.set k I ts}/\ts.fits k.size=cb/\Tb.Good ts.mask/\d.size<=ts.mask/\ts.dummies=#v[]/\ts.led=aJ w) ?_ (λ_ s1 ⟨g,ts,I,k,e,z,i,j,J,hF,r,W2,hl⟩=>?_) λ_ _ e=>e
  .unfold SetTable.roomFor;by_cases h5:5<=d.size
   .rw[if_pos (by change(0+d.size) * 5 >= 7 * 3;lia)]
    dsimp only
    have(m,m1,m2,m3,m4):=AM h5 ⋯;have ew:((ŝ 0 0 (aJ w)).place.size+d.size) * 2=2 * d.size:=by change(0+d.size) * 2=_;lia
    rw[ew];show pH (L:=[]) (D:=[]) (led:=aJ w) ho rfl (U4 _) .nil p ⋯ rfl (.inl rfl) m1 m2 (by change 0<=m;lia) m4 λh' G' t' O0 i j _ Wx N hd hl hz=>#[h',t',O0,G',rfl,hz,i,j,Wx,by rw[N];show m2,by rw[N];show m3,hd,hl]
   .rw[if_neg (by change ¬(0+d.size) * 5 >= 7 * 3;lia)]
    dsimp only
    have q:s={s with heap:=s.heap}:=by cases s;rfl
    show cL #[s.heap,_,0,#v[],q,rfl,OY a s.heap,ho,p,Tb.wW,by change d.size<=7;lia,rfl,rfl]
  .subst e;show b5 (my j rfl J ?_)
   dsimp only
   have W3:ts.place.size=0:=by
    simp only[V4,et,beq_iff_eq]at J;lia
   have T3:ts.road f=if ts.mask==f.mask&&f.dummies.isEmpty then .slotForSlot else .clean:=by
    unfold SetTable.road ZF;rw[W3,W2];rfl
   have O:g.get? b≈{cls:=.type "set",dict:=b6,data:=.set d l f}:=(i.2 b (ve x)).trans B;have T:(ts.plain&&f.plain)=cK:=by rw[WY.resolve_left W0,VU]
   have Y:(ts.led&&f.led)=aJ w:=by rw[hl,TZ,Ĥ]
   rw[T3];by_cases hc:(ts.mask==f.mask&&f.dummies.isEmpty)=cb
   .rw[if_pos hc]
    dsimp only
    show fy (s:={s with heap:=g}) (led:=aJ w) (L':=L) (t':={f with finger:=ts.finger,led:=ts.led&&f.led,moves:=ts.moves,plain:=ts.plain&&f.plain}) j n o C G H Y (.inr T) λh' t _ hs=>h h' (i.trans t) hs
   .rw[if_neg hc]
    dsimp only
    have(t',c,q1,q2,q3,q4,q5,q6,q7,_):=qY (mask:=ts.mask) (finger:=ts.finger) (moves:=ts.moves) (led:=ts.led&&f.led) (plain:=ts.plain&&f.plain) (hs:=d.map (·.1)) hF (by rw[VG];show r);rw[VG]at q2 q7;show b5 ?_;rw[q1];change fx (gj prog w) A (if ((c.filterMap (d[·]?)).size != d.size)=cb then(ě "internal:set-table-lost-an-element" >>= λ_=>pure (c.filterMap (d[·]?),t')) else pure (c.filterMap (d[·]?),t')) _ E _;have u:=f_ q7;have v:(c.filterMap (d[·]?)).size=d.size:=by rw[<-gc,u.length_eq,gc]
    rw[if_neg (by rw[v];simp)];show cL ?_;rw[n]at u;have(L',e',p'):=dw u;show fy (s:={s with heap:=g}) (led:=aJ w) j e' ((p'.map _).trans o) C (by rw[v];show q2) (by rw[v];show H) (q3.trans Y) (.inr (q4.trans T)) λh' t _ hs=>h h' (i.trans t) hs
theorem iX:∀{l:↑α},(∀x∈l,∀a:ForInStep β->k9->Prop,a (.yield b) s->fx M A (body x b) a E s)->Q b s->fx M A (ϴ l b body) Q E s
 |[],_,h=>by show cL h
 |x::l,c,h=>by
  rw[W'];show b5 (c x ⋯ _ (iX (λy d=>c y (by simp[d])) h))
def y6(hs:∀b∈sets,∃led D,ba prog w s.heap b led D)(h:Q cb s):fx (gj prog w) A (setsQuiet sets) Q E s:=by
 show b5 (iX (λb c l d=>?_) (cL h));have(led,D,L,es,ep,t,f,g,m,n,i,j,o,q):=hs b c;show b5 (X8 f rfl i ?_);rw[<-Ou];show b5 (iX (λe a r k=>?_) (cL d));rw[g]at a;have(p,_,rfl):=hW.mp a;show cL k
def jE(n:ba prog w s.heap a (aJ w) D)(ho:∀b∈others,∃led C,ba prog w s.heap b led C)(o:∀r,f≈r->ba prog w s.heap r (aJ w) [])
  (h:∀es (L:↑(Str×Tok)) h',es.toList=L.map (Hr prog w)->(L.map (·.1)).Perm D->(f=b6->h'=s.heap)->(∀r,f≈r->p8 r s.heap h'/\ba prog w h' r (aJ w) [])->Q es {s with heap:=h' }) :
  fx (gj prog w) A (setWalkUnseen a others f) Q E s:=by
 have G:=n;have(L,es,ep,t,i,p,q,L_,j,hb,MQ,H):=n;have I:s={s with heap:=s.heap}:=by cases s;rfl
 have c:∀(d:Array (Int×hY)),d.toList.Perm es.toList->Q d s:=λd u=>by
  rw[p]at u;have(L',J,N):=dw u;rw[I];show h d L' s.heap J ((N.map _).trans q) (λ_=>rfl) λr e=>#[OY r s.heap,o r e]
 unfold setWalkUnseen;show b5 (my i rfl j ?_)
 dsimp only
 show b5 (f7 ?_);cases g:w.params.followText "set-order" with
 |true =>
  rw[if_pos (by change(w.params.followText "set-order"||t.led&&t.plain||decide (es.size<=1))=cb;rw[g];rfl)];unfold setWalk;show b5 (my i rfl j ?_)
  dsimp only
  show b5 (f7 ?_);rw[if_pos (by show g)];show b5 (Xh ?_);show cL (c _ (eI _ _))
 |false =>
  by_cases v:es.size<=1
  .rw[if_pos (by rw[decide_eq_true v];simp)];unfold setWalk;show b5 (my i rfl j ?_)
   dsimp only
   show b5 (f7 ?_);rw[if_neg (by change ¬w.params.followText "set-order"=cb;rw[g];simp)];change fx _ _ (if (!t.plain&&dV (es.size>1))=cb then _ else _) _ _ s;rw[if_neg (by rw[decide_eq_false (show ¬es.size>1 by lia)];simp)];change fx _ _ ((if (!t.led&&dV (es.size>1))=cb then _ else _) >>= _) _ _ s;rw[if_neg ⋯];show b5 (cL (cL (c es (U4 _))))
  .have O:t.plain=cK:=H.resolve_left ⋯;rw[if_neg (by change ¬(w.params.followText "set-order"||t.led&&t.plain||decide (es.size<=1))=cb;rw[g,O,decide_eq_false v];simp)];show b5 (y6 (λb Nj=>by
    rcases f6.mp Nj with rfl|Nj
    .show#[_,_,G]
    .show ho b Nj) ?_)
   rw[if_neg ⋯];show b5 (Qt ?_);cases f with
   |none=>show cL (c es (U4 _))
   |some r =>
    dsimp only
    have(Lr,T,Y,k,x,l,Qg,W4,y,m,Zc,B):=o r rfl;show b5 (my x rfl y ?_)
    dsimp only
    have OU:T.size=0:=by
     simp_all
    split
    .show b5 (fy (t':={k with led:=k.led&&t.led,plain:=k.plain&&t.plain}) (led:=aJ w) x l Qg W4 y m ⋯ (.inl OU) λh' sb _ hs=>?_);show cL (h es L h' p q (λz=>nomatch z) λr' e=>by cases e;show#[sb,hs])
    .show cL (c es (U4 _))
section
variable{prog:vl}{w:OE}{A:YJ}{E:hY->k9->Prop}{s:k9}
theorem kb(J:↑(Str×Tok)->k9->Prop)(b:∀d p r s,d++p::r=L->J d s->∀c:ForInStep PUnit->k9->Prop,(∀a,J (d++[p]) a->c (.yield #[]) a)->fx M A (body (Hr prog w p) #[]) c E s)(f:∀a,J L a->Q #[] a):
  ∀r d s,d++r=L->J d s->fx M A (ϴ (r.map (Hr prog w)) #[] body) Q E s
 |[],d,s,e,h=>by
  rw[Ot]at e;subst e;show cL (f s h)
 |p::r,d,s,e,h=>by
  rw[gr,W'];show b5 (b d p r s e h _ λa h'=>kb J b f r _ a ⋯ h')
def ba.ty(h:ba prog w s.heap a led D):s.TypeIs (.ref a) "set":=by have(_,_,_,_,ho):=h;show#[_,ho,rfl]
def ia(b:ba prog w s.heap a led D)(h:Q cb s):fx (gj prog w) A (θ (.ref a)) Q E s:=by
 show b5 (Nt b.ty Ă ?_);show cL h
def jF{a}{led}{D}{Q}(b:ba prog w s.heap a led D)(h:Q ⇑D s):fx (gj prog w) A (Æ a) Q E s:=by
 have(L,es,ep,t,ho,c,d,f,e,_):=b;show b5 (X8 ho rfl e (cL ?_));rw[ba.sz (h:=s.heap) (a:=a) (led:=led) c d];show h
def tw(b:ba prog w s.heap a led D)(h:Q (.type "set") s):fx (gj prog w) A (μ a) Q E s:=by
 show b5 (Nt b.ty Ă ?_);show cL h
def wX(h:Q (.ref ↥s) {s with heap:=s.heap.push {cls:=.type "set",dict:=b6,data:=.set #v[] 0 (.fresh 0 0 (aJ w))}}):fx (gj prog w) A (newSet (.type "set")) Q E s:=by
 show b5 (b5 (Xh (cL ?_)));show b5 (Θ (cL h))
def AO{a}{D}{Q}(b:ba prog w s.heap a (aJ w) D)(c:⇑D<64)(h:∀h',p8 ↥s (s.heap.push {cls:=.type "set",dict:=b6,data:=.set #v[] 0 (.fresh 0 0 (aJ w))}) h'->ba prog w h' ↥s (aJ w) D->Q (.ref ↥s) {s with heap:=h' }):
  fx (gj prog w) A (ι a) Q E s:=by
 show b5 (tw b (b5 (wX ?_)));show b5 (cL ?_);have d:↥s≠a:=λe=>by have(_,_,_,_,ho,_):=b;show uk _ (e▸fz ho)
 show b5 (yZ (es:=#v[])  d (eW _ rfl) (b.at λo e=>cc _ e) c λh' f hs=>?_);show cL (h h' f hs)
def m8{id}(ho:s.heap.get? a≈{cls:=.type "set",dict:=b6,data:=.set es ep t})(b:t.fits es.size=cb)(h:Q () s):fx (gj prog w) A (ζ id a ep) Q E s:=by
 show b5 (Ā ho rfl b ?_);rw[if_neg ⋯];show cL h
def AQ{id}(y:a≠b)(n:ba prog w s.heap a (aJ w) g)(j:ba prog w s.heap b (aJ w) o)(G:⇑g<64)(i:⇑o<=⇑g)
  (h:∀h',p8 a s.heap h'->ba prog w h' a (aJ w) (g.filter λx=>dV (x∉o))->Q () {s with heap:=h' }):fx (gj prog w) A (Yp id a (.ref b)) Q E s:=by
 unfold Yp;rw[if_neg (by simpa using ve y)];show b5 (ia j ?_);rw[if_pos rfl];show b5 (cL ?_);show b5 (jF j (b5 (jF n ?_)));rw[if_neg ⋯];have(L2,eb,H,tb,z,I,J,B,C,YS,Ze,D):=_root_.id j;show b5 (Ā z rfl C ?_);show b5 (qI ?_);show b5 (jE j (others:=[a]) (f:=b6) (λc N=>by rw[nc.mp N];show#[_,_,n]) (λr e=>nomatch e) λes L h0 O T q _=>?_);have q:=q rfl;subst q;rw[<-Ou,O];show b5 (kb (prog:=prog) (w:=w) (L:=L) (λd t=>∃h',t={s with heap:=h' }/\p8 a s.heap h'/\ba prog w h' a (aJ w) (g.filter λx=>dV (x∉d.map (·.1)))) (λd p r t ed ⟨h',u,k,l⟩ Q' Y=>?_) (λt ⟨h',u,k,l⟩=>?_) L [] _ rfl ⟨s.heap,by rfl,OY a s.heap,by rw[Nd.mpr λx _=>by simp];show n⟩)
 .subst u;show b5 (qI (tv (s:={s with heap:=h' }) l λb' i m v=>?_));show b5 (m8 (s:={s with heap:=i}) (((k.trans m).2 b (ve y)).trans z) C ?_);show cL (Y _ #[i,rfl,k.trans m,?_]);rw[List.filter_filter]at v;have e:(g.filter λx=>dV (x≠p.1)&&dV (x∉d.map (·.1)))=g.filter λx=>dV (x∉(d++[p]).map (·.1)):=by
   show Ź λx _=>?_;rw[Sb];simp[not_or,and_comm]
  rw[<-e];lia
 .subst u;show cL ?_;have e:(g.filter λx=>dV (x∉L.map (·.1)))=g.filter λx=>dV (x∉o):=by
   show Ź λx _=>?_;rw[Sb];simp only[decide_eq_true_eq];rw[T.mem_iff]
  rw[e]at l;show AN (s:={s with heap:=h' }) l (á (B' _ _) G) λi m v=>h i (k.trans m) v
def AR{id}(NY:a≠b)(l:ba prog w s.heap a (aJ w) m)(j:ba prog w s.heap b (aJ w) g)(N:⇑m<64)(k:⇑g<64)
  (h:∀h',(∀c o,s.heap.get? c≈o->h'.get? c≈o)->ba prog w h' ↥s (aJ w) (m.filter λx=>dV (x∉g))->Q (.ref ↥s) {s with heap:=h' }):fx (gj prog w) A (Zd id a (.ref b)) Q E s:=by
 have keep:∀h',p8 ↥s (s.heap.push {cls:=.type "set",dict:=b6,data:=.set #v[] 0 (.fresh 0 0 (aJ w))}) h'->∀c o,s.heap.get? c≈o->h'.get? c≈o:=λh' i c o e =>
  (i.2 c (gm (fz e))).trans (cc _ e)
 have O:a<↥s:=by have(_,_,_,_,ho,_):=l;show fz ho
 have v:b<↥s:=by have(_,_,_,_,ho,_):=j;show fz ho
 unfold Zd
 dsimp only
 show b5 (ia j ?_);rw[if_neg ⋯];show b5 (cL ?_);rw[if_neg ⋯,if_pos rfl];show b5 (jF j (b5 (jF l ?_)));by_cases T:⇑m / 4>⇑g
 .rw[if_pos T];show b5 (Qt ?_);show b5 (AO l N λh' i hs=>?_);show b5 (cL ?_);show b5 (qI (AQ (s:={s with heap:=h' }) (va v) hs (j.at λo e=>keep h' i b o e) N ⋯ λk n t=>?_));show cL (h k (keep k (i.trans n)) t)
 .rw[if_neg T];show b5 (tw l (b5 (wX ?_)));show b5 (cL ?_);have Y:=l.at (h':=s.heap.push {cls:=.type "set",dict:=b6,data:=.set #v[] 0 (.fresh 0 0 (aJ w))}) λo e=>cc _ e;have Y6:=j.at (h':=s.heap.push {cls:=.type "set",dict:=b6,data:=.set #v[] 0 (.fresh 0 0 (aJ w))}) λo e=>cc _ e;have Pb:ba prog w (s.heap.push {cls:=.type "set",dict:=b6,data:=.set #v[] 0 (.fresh 0 0 (aJ w))}) ↥s (aJ w) []:=iU (eW _ rfl);have(La,ea,y,ta,U9,Zg,al,W5,B,am,Zh,ab):=_root_.id Y;show b5 (Ā U9 rfl B ?_);show b5 (qI ?_);rw[if_pos rfl];show b5 (jE (s:={s with heap:=s.heap.push {cls:=.type "set",dict:=b6,data:=.set #v[] 0 (.fresh 0 0 (aJ w))}}) Y (others:=[b,↥s]) (f:=bD ↥s) (λc hc=>by
   rcases f6.mp hc with rfl|hc
   .show#[_,_,Y6]
   .rw[nc.mp hc];show#[_,_,Pb]) (λr e=>by cases e;show Pb) λes L h0 he C _ e0=>?_)
  have(D,Vf):=e0 _ rfl;rw[<-Ou,he];have ac:⇑L=⇑m:=by rw[<-C.length_eq,df]
  show b5 (kb (prog:=prog) (w:=w) (L:=L) (λd G=>∃h',G={s with heap:=h' }/\p8 ↥s (s.heap.push {cls:=.type "set",dict:=b6,data:=.set #v[] 0 (.fresh 0 0 (aJ w))}) h'/\ba prog w h' ↥s (aJ w) ((d.map (·.1)).filter λx=>dV (x∉g))) (λd p r G ed ⟨h',H,i,u⟩ Q' Ve=>?_) (λG ⟨h',H,i,u⟩=>?_) L [] _ rfl ⟨h0,rfl,D,Vf⟩)
  .subst H;have L_:(L.map (·.1)).Nodup:=C.nodup_iff.mpr W5;have I:p.1∉d.map (·.1):=λz=>by
    rw[<-ed,mh,pb]at L_;show L_.2.2 p.1 z p.1 ⋯ rfl
   have J:ba prog w h' b (aJ w) g:=j.at λo e=>keep h' i b o e;have Zi:h'.get? a≈{cls:=.type "set",dict:=b6,data:=.set ea y ta}:=(i.2 a (gm O)).trans U9;have N7:⇑d<64:=by grind
   show b5 (qI ?_);rw[if_pos rfl];show b5 (tu (s:={s with heap:=h' }) J λr hr=>?_);show b5 (cL ?_);have em:((d++[p]).map (·.1)).filter (λx=>dV (x∉g))=(d.map (·.1)).filter (λx=>dV (x∉g))++if p.1∈g then [] else [p.1]:=by
    rw[mh,X0];congr 1
    by_cases z:p.1∈g<;>simp[z]
   by_cases z:p.1∈g
   .rw[if_neg (by rw[hr,decide_eq_true z];simp)];show cL ?_;show b5 (m8 (s:={s with heap:=h' }) Zi B ?_);show cL (Ve _ #[h',rfl,i,?_]);rw[em,if_pos z,Ot];show u
   .rw[if_pos (by rw[hr,decide_eq_false z];rfl)];show b5 (mT (s:={s with heap:=h' }) u (by
     have:⇑((d.map (·.1)).filter λx=>dV (x∉g))<=⇑d:=H8 (B' _ _) ⋯;have OR:Q9=4096:=rfl;lia) λk n t=>?_)
    show cL ?_;show b5 (m8 (s:={s with heap:=k}) ((n.2 a (gm O)).trans Zi) B ?_);show cL (Ve _ #[k,rfl,i.trans n,?_]);rw[em,if_neg z];rw[if_neg (λq=>I (DD.mp q).1)]at t;show t
  .subst H;show cL ?_;show cL (h h' (keep h' i) (u.perm ?_));show C.filter _
end
def oV:ĺ table "set.__sub__"≈Ti.«frozenset.__sub__» :=
 Ĺ (id':="frozenset.__sub__") (by kernel_rfl) rfl (by decide +kernel) (by rfl)
def D_(i:a≠b)(d:ba prog w s.heap a (aJ w) f)(e:ba prog w s.heap b (aJ w) g)(j:⇑f<64)(k:⇑g<64)
  (h:∀h',(∀c o,s.heap.get? c≈o->h'.get? c≈o)->ba prog w h' ↥s (aJ w) (f.filter λx=>dV (x∉g))->Q (.ref ↥s) {s with heap:=h' }):fx (gj prog w) A (WM .Sub (.ref a) (.ref b)) Q E s:=by
 show wpAny_binaryOp_same  d.ty e.ty F.fills_set_sub F.slot_set_sub (wh F.slot_set_sub d.ty oV ?_ (F.args_set_sub_2 _ _));show b5  (cL  ?_);show b5 (b5 (ia d ?_));show ia e ?_;show b5 (cL ?_);show b5 (AR i d e j k λh' hk hs=>?_);show cL #[_,rfl,(λz=>by cases z),h h' hk hs]
def u_(m:X.calm=cb)(I:Inv X a σ H s)(hq:Mz X.K H p (g.map V.str)\/MA X.K H p (g.map V.str))(j:⇑g+1<Q9)
  (h:∀S o s1,↥s<=S->s1.heap.get? S≈o->ba X.prog X.w s1.heap S (aJ X.w) (aU g)->Inv X ((S,o)::a) σ H s1->Q (.ref S) s1) :
  (fx (gj X.prog X.w) X.A) (TN (.type "set") [.ref p]) Q X.xe s:=by
 have hh:X.A.handled=b6:=I.ok.hd m;have f:∀(h':Qy) (c:Nat),ba X.prog X.w h' ↥s (aJ X.w) (aU g)->(∀b o,b<↥s->s.heap.get? b≈o->h'.get? b≈o)->Q (.ref ↥s) {s with heap:=h',toks:=c}:=λh' c d k=>by
  have(L,es,ep,t,ho,r):=_root_.id d;have l:Inv X a σ H {s with heap:=h',toks:=c}:=I.kept λb o e=>k b o (fz e) e;show h _ _ _ (gi _) ho d (l.eS λq hq=>?_);rcases f6.mp hq with rfl|hq
  .show#[ho,I.L7.fresh (gi _),va I.lt,I.GN (gi _),λv z=>nomatch z]
  .show l.pin q (p6 _ hq)
 rcases hq with hq|hq
 .have(its,rv,i,hz):=I.list hq;show d8 hh (.inl i.isList) (cU rv) j λh' c d k=>f h' c d k
 .have(its,rv,i,hz):=I.tuple hq;show d8 hh (.inr i) (cU rv) j λh' c d k=>f h' c d k
def vb:Z9 (.type "list_reverseiterator") "__len__"=pure b6:=by rw[Ħ,Ð];rfl
def AS:Z9 (.type "list_reverseiterator") "__length_hint__"=pure (bD (.builtin "list_reverseiterator.__length_hint__")):=by rw[Ħ,Ð];rfl
def qZ:å (.type "list_reverseiterator") (.type "list_reverseiterator")=pure cb:=by rw[UR];rfl
section
variable{I:k7}{fp wr:List k7}{G:Array Ψ->Array Ψ->Prop}{n:Nat}{P:Nat->hY->Prop}{St:Nat->k9->Prop}
def vc(W:Ϛ prog w A.in1 I fp wr G n P St)(g:∀i s,St i s->s.TypeIs (.ref I) "list_reverseiterator")(S)(d)(m)(b:St 0 s)(l:S∉fp)(o:I∈fp)
  (p:s.heap.get? S≈{cls:=.type "list",data:=.seq #v[] m})
  (q:∀a h c,Moved (S::wr) G s a->a.heap.get? S≈{cls:=.type "list",dict:=b6,data:=.seq h c,slots:=#v[]}->Ϯ P h n->R (.ok (.ret d)) a) (r:n<=dt) :
  fx (gj prog w) A.in1 (NW (.ref S) (.ref I) d)
   (λj a=>match j with|.done f=>R (.ok f) a|.again c=>c.quiet=cb/\WL (gj prog w) A c R a) (λe a=>R (.error e) a) s:=by
 have k:S≠I:=λe=>l (e▸o);unfold NW;show b5 (UX (g 0 _ b) ?_);have t:T7 (.ref S) (.ref I)=cK:=by simp[T7,k]
 have u:(Qv "list_reverseiterator"==Qv "list")=cK:=⋯
 have v:(Qv "list_reverseiterator"==Qv "tuple")=cK:=⋯
 simp only[t,u,v,Ó,wk,if_false];show b5 (W.self 0 _ _ _ b ?_);show b5 (qI ?_);unfold Ò;show b5 (Rr (g 0 _ b) vb ?_);change fx _ A.in1 (specialOf (gs I) (Zb "__length_hint__") >>= _) _ _ _;show b5 (Rr (g 0 _ b) AS ?_);have x:splitId "list_reverseiterator.__length_hint__"≈("list_reverseiterator","__length_hint__"):=by rfl
 dsimp only
 rw[x]
 dsimp only
 show b5 (Nt (g 0 _ b) qZ ?_);rw[if_neg ⋯];rw[if_pos (by decide +kernel)];rw[if_neg (by decide +kernel)];show cL ?_;rw[if_neg (by decide +kernel)];show cL #[Vl F.plain_extend_loop _,Ξ W r _ l _ n 0 _ _ _ rfl (lx _) b p (ϋ P) λa h c y z B=>?_];show q a h c y z B
def oW(W:Ϛ prog w A.in1 I fp wr G n P St)(q:∀i s,St i s->s.TypeIs (.ref I) "list_reverseiterator")(S)(r:St 0 s)(m:S∉fp)(t:I∈fp)
  (j:s.heap.get? S≈{cls:=.type "list",data:=.seq #v[]})
  (u:∀a g c,Moved (S::wr) G s a->a.heap.get? S≈{cls:=.type "list",dict:=b6,data:=.seq g c,slots:=#v[]}->Ϯ P g n->R (.ok (.ret .none)) a) (v:n<=dt) :
  fx (gj prog w) A.in1 (Ti.«list.__init__» ⟨[.ref S,.ref I],[]⟩)
   (λk a=>match k with|.done f=>R (.ok f) a|.again c=>c.quiet=cb/\WL (gj prog w) A c R a) (λe a=>R (.error e) a) s:=by
 show b5 ?_;show b5 (w6 j rfl (cL ?_));show b5 (X1 j rfl ?_);have l:=sL (uv (λ_=>#v[])) j rfl;have p:∀b o,b≠S->s.heap.get? b≈o->(s.heap.update S (uv (λ_=>#v[]))).get? b≈o :=
  λb o d e=>(Th _ _ (ve d)).trans e
 show vc W q S _ _ (W.frame 0 s _ _ r (gi _) λb d o e=>p b o (λh=>m (h▸d)) e) m t l (λa g c x y z=>?_) v;show u a g c (ϭ W.gtrans ((Moved.refl W.grefl).then_heap (gi _) λb o d e=>p b o (λh=>d (h▸kj)) e) x) y z
def tD(W:Ϛ prog w A.in1.in1 I fp wr G n P St)(j:∀i s,St i s->s.TypeIs (.ref I) "list_reverseiterator")(k:St 0 s)(l:∀b∈fp,b<↥s)(m:I∈fp)
  (p:∀a c d,Moved (↥s::wr) G {s with heap:=s.heap.push {cls:=.type "list",data:=.seq #v[]}} a ->
   a.heap.get? ↥s≈{cls:=.type "list",dict:=b6,data:=.seq c d,slots:=#v[]}->Ϯ P c n->Q (.ref ↥s) a) (q:n<=dt) :
  fx (gj prog w) A (TN (.type "list") [.ref I]) Q E s:=by
 have r:=λf=>uk _ (l _ f);show callType_codes (Q₁:=λobj g=>obj=.ref ↥s/\g={s with heap:=s.heap.push _}) F.called_list (F.typeCall_list_1 _) F.entry_list_init
  (code_list_new _ #[rfl,rfl]) λobj g t=>?_
 have(rfl,rfl):=t;have h:(s.heap.push _).get? ↥s≈{cls:=.type "list",data:=.seq #v[]}:=eW _ rfl;show#[#[_,h,rfl],F.args_list_init_2 _ _,oW W j _ (W.frame 0 s _ s.toks k (gi _) λb _ o e=>cc _ e) r m h (λa c d f u v=>?_) q];show#[rfl,p a c d f u v]
open AutoSeq1 (wpAny_loadPart') in
end
def jG(a:s.heap.IsTupleIter it l i)
  (hl:s.heap.IsTuple l b) (d:b[i]?≈x)
  (e:∀h',h'.IsTupleIter it l (i+1)->p8 it s.heap h'->Q x {s with heap:=h' }) :
  fx (gj prog w) A (y4 (.ref it)) Q E s:=by
 have(o,ho,f,c):=id a;have(j,g,_,k,h):=hl;show b5 (Q8  a.typeIs F.slot_tuple_iterator_next
  (wh F.slot_tuple_iterator_next a.typeIs F.entry_tuple_iterator_next ?_ (F.args_tuple_iterator_next_1 _)))
 change fx _ _ (Ν _ 0 >>= _) _ _ s;show b5 (QC ho c (x:=.ref l) rfl ?_);show b5 (QC ho c  rfl ?_);show b5 (w6 g h ?_);simp only[Wd,d];show b5 (Tx ho c ⋯ (cL #[x,rfl,cL (e _ ?_ (H0 ..))]));show#[_,sL _ ho (ZM (TJ c _)),(ç ..).trans f,by
  rw[TJ c];rfl]
def dy(hh:A.handled=b6)
  (b:s.heap.IsTupleIter it l i) (hl:s.heap.IsTuple l c) (f:c[i]?=b6)
  (g:∀h' e,û it s.heap h'->(∃o,h'.get? e≈o/\o.cls=.type "StopIteration")->E (.ref e) {s with heap:=h' }) :
  fx (gj prog w) A (y4 (.ref it)) Q E s:=by
 have(o,ho,k,d):=id b;have(n,h,_,p,j):=hl;show b5 (Q8  b.typeIs F.slot_tuple_iterator_next
  (wh F.slot_tuple_iterator_next b.typeIs F.entry_tuple_iterator_next ?_ (F.args_tuple_iterator_next_1 _)))
 change fx _ _ (Ν (.ref it) 0 >>= _) _ _ s;show b5 (QC ho d (x:=.ref l) rfl ?_);show b5 (QC ho d  rfl ?_);show b5 (w6 h j ?_);simp only[Wd,f];show b5 (Qt (b5 (Tx ho d ⋯ ?_)));show b5 ?_;show b5 (m:=firstArgMember _ _) (Ě (a:=qP) (by rfl) ?_);show Q6 ?_ (by size_fits);show b5 (wpAny_handled ?_)
 first|rw[hh]|rw[hh]
 show b5 (cL (wpAny_throw ?_));show g _ _ (((H0 ..).extBut.push _).push _) #[_,eW _ rfl,rfl]
def gI(hh:A.handled=b6)(it l)(c:l≠it)(a):
  ϲ prog w A it [it,l] a.size (λi v=>a[i]?≈v) (λi h=>h.IsTupleIter it l i/\h.IsTuple l a) where
 live:=λ_ _ st=>let ⟨o,ho,_⟩:=st.1;⟨o,ho⟩
 frame:=λ_ _ _ st hk=>#[st.1.at λo e=>hk it ⋯ o e,let ⟨o,ho,r⟩:=st.2;⟨o,hk l ⋯ o ho,r⟩]
 item:=λi s Q E hi st d=>by
  show jG st.1 st.2 (x:=a[i]) ⋯ λh' f b=>?_;show d _ h' _ (by simp[]) #[f,let ⟨o,ho,r⟩:=st.2;⟨o,(b.2 l c).trans ho,r⟩] b
 done:=λs Q E st g=>dy hh st.1 st.2 ⋯ g
open AutoSeq1 (wpAny_loadPart') in
def m9(l)(a)(n)(e)(f):
  Meets (Ti.«enumerate.__new__» ⟨[.type "enumerate",.ref l],[]⟩) (λ_ R s=>s.heap.get? l≈{cls:=.type "tuple",dict:=e,data:=.seq a n,slots:=f} /\
   R (.ok (.ret (.ref (s.heap.push {cls:=.type "tuple_iterator",data:=.fields #v[.ref l,.int 0 0]}).objs.size)))
    {s with heap:=(s.heap.push {cls:=.type "tuple_iterator",data:=.fields #v[.ref l,.int 0 0]}).push {cls:=.type "enumerate",data:=.fields #v[.none,.bool cK,.ref ↥s,Mt 0,.none,.none]}}) :=
 .of_wp λprog w A R s h=>by
  have(i,g,d,j,os):=s;have(hl,h):=h;have k:=sub_enumerate;have b:ϯ _ l a:=#[_,hl,rfl,n,rfl]
  wp_walk using Ë hl
  show wpAny_stack_any λst=>cL ?_;split
  .rename_i c _ _ _ _ _;cases(c==Qv "enumerate")
   .wp_walk using Ë hl,T4 b
    show#[_,rfl,h]
   .wp_walk using Ë hl,T4 b
    show#[_,rfl,h]
  .wp_walk using Ë hl,T4 b
   show#[_,rfl,h]
def gJ(g:s.heap.IsTuple l a)
  (h:∀h',ū h' (↥s+1) ↥s 0 .none->h'.IsTupleIter ↥s l 0->h'.objs.size=↥s+2 ->
   (∀b o,s.heap.get? b≈o->h'.get? b≈o)->Q (.ref (↥s+1)) {s with heap:=h' }) :
  fx (gj prog w) A (TN (.type "enumerate") [.ref l]) Q E s:=by
 have((c,i,j,k),hl,d,n,e):=g
 replace d:c=.type "tuple":=d
 replace e:j=.seq a n:=e
 subst d e;show callType_new F.called_enumerate ⋯ (F.typeCall_enumerate_1 _) (F.newCall_enumerate_1 _) (λobj=>F.args_object_init_2 obj _) F.entry_enumerate_new
  (m9 l a n i k) #[hl,?_]
 have hz:(s.heap.push {cls:=.type "tuple_iterator",data:=.fields #v[.ref l,.int 0 0]}).objs.size=↥s+1:=VJ ..;change _/\_;rw[hz];have f:ū ((s.heap.push {cls:=.type "tuple_iterator",data:=.fields #v[.ref l,.int 0 0]}).push
   {cls:=.type "enumerate",data:=.fields #v[.none,.bool cK,.ref ↥s,Mt 0,.none,.none]}) (↥s+1) ↥s 0 .none:=by
  have:=eW (s.heap.push {cls:=.type "tuple_iterator",data:=.fields #v[.ref l,.int 0 0]})
   (o:={cls:=.type "enumerate",data:=.fields #v[.none,.bool cK,.ref ↥s,Mt 0,.none,.none]}) rfl
  rw[hz]at this;show this
 show#[#[_,f,rfl],h _ f #[_,cc _ (eW _ rfl),rfl,rfl] (by rw[VJ,hz]) λb o x=>cc _ (cc _ x)]
end L2
namespace L2
open PySem PySem.Spec PyProof.Rows
def Inv.lV{ch:↑k7}(I:Inv X a σ H s)(f:∀b∈ch,iO X a H b)(k:∀b o,b∉ch->s.heap.get? b≈o->h'.get? b≈o):Inv X a σ H {s with heap:=h',toks:=t' }:=by
 have g:∀b u,H b≈u->b∉ch:=λb u e z=>by rw[(f b z).1]at e;cases e
 show I.step    (λb h=>?_) (λb o _ _ d e _=>k b o d e) (λb o _ _ d e _=>#[_,k b o d e]) (λ_ _ _ _ n=>n)
  (λb o d e=>#[o,k b o d e]) (λ_ _ e=>e) (λ_ _ _ e=>e) (λb ps e=>#[#v[],by simp_all]) (λm i=>?_) (λb u e=>?_) I.bare
 .have(w,j,x,l,p,t):=f b h;show#[l,j,p,t]
 .have(o,es,ep,ho,r):=i;show#[o,es,ep,k _ o (λz=>(f _ z).2.1 rfl) ho,r]
 .show(I.L7 b u e).iN (λc v d q=>k c v ?_ q) (λ_ q=>q) λ_ _ q=>q;rcases d with z|z
  .rw[z];show g b u e
  .show g c _ z
def Inv.iY{ch:↑k7}(I:Inv X a σ H s)(h:∀b∈ch,iO X a H b)(k:∀b o,b∉ch->s.heap.get? b≈o->h'.get? b≈o)(i:↥s<=T)(new:bN X.prog X.w (upd H T o) h' T o):
  Inv X a σ (upd H T o) {s with heap:=h',toks:=t' }:=by
 have j:Inv X a σ H {s with heap:=h',toks:=t' }:=I.lV h k;have B:H T=b6:=I.L7.fresh i;have l:∀b o,s.heap.get? b≈o->b≠T:=λb o e z=>by rw[z]at e;show absurd (lg (fz e) i) (uk _)
 have d:∀b u,H b≈u->b≠T:=λb u e z=>by simp_all
 show I.step   (ch:=ch) (λb g=>?_) (λb o _ _ f e _=>k b o f e) (λb o _ _ f e _=>#[o.slots,k b o f e]) (λb o _ e n=>by rw[aj (l b o e)];show n)
  (λb o f e=>#[o,k b o f e]) (λb _ e=>by rw[aj (d b _ e)];show e) (λb _ _ e=>by rw[aj (d b _ e)];show e) (λb ps e=>#[#v[],by rw[aj (d b _ e),e];simp]) (λm p=>?_) (λb u e=>?_) I.bare
 .have(C,t,D,x,y,A):=h b g;show#[x,t,y,A]
 .have(o,es,ep,ho,r):=p;show#[o,es,ep,k _ o (λz=>(h _ z).2.1 rfl) ho,r]
 .by_cases g:b=T
  .subst g;rw[av]at e;simp_all
  .rw[aj g]at e;show(j.L7 b u e).iN (λc v _ q=>q) (λc q=>by rw[aj (d c _ q)];show q) λc xs q=>by rw[aj (d c _ q)];show q
abbrev SQ(a:Hp->↑V->Prop):It :=
 #[λi H=>∃xs x,a H xs/\xs[i]?≈x,λi H x H'=>∃p,H p=b6/\x=.ref p/\∀xs v,a H xs->xs[i]?≈v->H'=upd H p (.tup [.int i,v]),λi H=>∃xs,a H xs/\⇑xs<=i]
def pI{K}(n)(a e it)(L:e≠it)(At:Nat->Qy->Prop)(r:Qy->Array hY->Prop)
  (M0:∀i h h',At i h->(∀o,h.get? it≈o->h'.get? it≈o)->At i h') (Zj:∀i h,At i h->∃o,h.get? it≈o/\∀v,o.data≠.cell v)
  (SR:∀X d s σ H xs,X.K=K->Inv X d σ H s->n H xs->∃its,Vals xs its/\r s.heap its.toArray)
  (W7:∀X d s σ H xs t,X.K=K->Inv X d σ H s->n H xs->n H t->xs=t)
  (Zg:∀h c i f,r h c->ū h e it i f->e≠a)
  (hD:∀A c,A.handled=b6->ϲ P w A it [it,a] c.size (λi v=>c[i]?≈v) (λi h=>At i h/\r h c))
  (N0:∀A s i c Q E,A.handled=b6->At i s.heap->r s.heap c->c[i]?=b6 ->
   (∀h' x,û it s.heap h'->(∃o,h'.get? x≈o/\o.cls=.type "StopIteration")->E (.ref x) {s with heap:=h' })->fx (gj P w) A (y4 (.ref it)) Q E s) :
  Turn P w K (.Tuple es kx ps) (SQ n) [e,it] e (λi h=>(∃f,ū h e it i f)/\At i h) where
 mem:=⋯
 obj:=λi h st b g=>by
  have((f,j),hl):=st;rcases f6.mp g with z|z
  .rw[z];simp_all
  .rw[nc.mp z];show Zj i h hl
 keep:=λi h h' ⟨⟨f,j⟩,hl⟩ k=>#[#[f,k e ⋯ _ j],M0 i h h' hl λo q=>k it ⋯ o q]
 item:=by
  intro X N O B Y i d s σ H E I C ⟨⟨f,j⟩,hl⟩ hg;subst N O;have(xs,x,G,hx):=hg;have(its,rv,p):=SR X d s σ H xs B I G;have(u,hu,ru):=rv.get hx;have Mm:i<its.toArray.size:=by simpa using(eH.mp hu).1
  have D:=hD X.A.in1 its.toArray (by simpa using I.ok.hd Y);have W8:=Zg _ _ _ _ p j;show wpAny_pyNext_enum_itemD D j #[hl,p] Mm L (by simp[L,W8]) λy h1 l hy ho st1 J hsz hk=>?_;have ey:y=u:=by
   simp_all
  subst ey;show#[_,rfl,wpAny_letOwnedTupleGo_enum (s:={s with heap:=h1,toks:=l+1}) ho λm Vg MZ=>?_];have Zk:e<↥s:=fz j;have T6:m.get? ↥s≈{cls:=.type "tuple",data:=.seq #v[.int i l,y]}:=(MZ.2 _ (va Zk)).trans J;have k2:∀b o,b∉[e,it]->s.heap.get? b≈o->m.get? b≈o:=λb o g q=>by
   simp only[f6,Su,or_false,not_or]at g;show(MZ.2 b g.1).trans (hk b o g.1 g.2 q)
  have I2:Inv X d σ (upd H ↥s (.tup [.int i,x])) {s with heap:=m,toks:=l+1}:=I.iY C k2 (gi _)
   (show bN X.prog X.w _ m _ (.tup [.int i,x]) from#[by change 2<=dt;decide,[.int i l,y],.cons #[l,rfl] (.cons ru .nil),#[_,T6,rfl,_,rfl]])
  show#[.ref ↥s,_,I2,rfl,#[_,I.L7.fresh (gi _),rfl,λt v hy hv=>?_],#[#[_,Vg],M0 (i+1) h1 m st1.1 λo q=>(MZ.2 it (ve L)).trans q],λb g=>?_]
  .have:=W7 X d s σ H t xs B I hy G;subst this;rw[hx]at hv;cases hv;rfl
  .have Nj:b≠↥s:=by
    rcases f6.mp g with z|z
    .rw[z];show gm Zk
    .rw[nc.mp z];have(o,q,_):=Zj i _ hl;show gm (fz q)
   rw[aj Nj];show(C b g).1
 done:=by
  intro X N O B Y i d s σ H E I C ⟨⟨f,j⟩,hl⟩ hg;subst N O;have(xs,G,hx):=hg;have(its,rv,p):=SR X d s σ H xs B I G;have ac:=⇑rv;have J:s.TypeIs (.ref e) "enumerate":=#[_,j,rfl]
  unfold Vk;show b5 (ï (Q8 (name:=Zb "__next__") J F.slot_enumerate_next
   (wh F.slot_enumerate_next J F.entry_enumerate_next ?_ (F.args_enumerate_next_1 _))))
  change fx _ _ (Ν (.ref e) 2 >>= _) _ _ _;show b5 (QC j rfl (x:=.ref it) rfl ?_);show b5 (N0 _ _ i its.toArray _ _ (by simpa using I.ok.hd Y) hl p ⋯ λh' x ab Q1=>?_);have(o,ho,O5):=Q1;show b5 (Nt (T:="StopIteration") (b:=cb) #[o,ho,O5] Ü ?_);show cL #[rfl,I.lV (t':=s.toks) (ch:=[it]) (λb g=>C b (ke _ g)) λb o g q=>ab b o (λz=>g (by simp[z])) q]
 self:=λA i s Q E ⟨⟨f,j⟩,hl⟩ h=>ā j h
section
variable{X:Cx}{es:List p7}{kx:Nat}{ps p pos:Pos}
def y7:I0 "enumerate"≈.type "enumerate":=by rfl
abbrev LB(K:W.Frag)(c:TA):TI:=λσ H R=>c σ H λvs b=>∃a,vs=[.ref a]/\((∃xs,Mz K b a xs)/\R (SQ λH xs=>Mz K H a xs) b\/(∃xs,MA K b a xs)/\R (SQ λH xs=>MA K H a xs) b)
def Hs(a e it)(m:e≠it)(n:a≠it):Turn X.prog X.w X.K (.Tuple es kx ps) (SQ λH xs=>Mz X.K H a xs) [e,it] e (λi h=>(∃c,ū h e it i c)/\h.IsListIter it a i):=by
 show pI _ a e it m _ _ (λi h h' x k=>x.at k) (λi h ⟨o,ho,q,u⟩=>#[o,ho,λv z=>by simp_all])
  (λY d s σ H xs g I j=>?_) (λY d s σ H xs y g I f l=>?_) (λh b i c ⟨o,ho,q,_⟩ B z=>?_) (λA b hh=>œ hh it a n _) (λA s i b Q E hh hl r f t=>Ż hh hl r f t)
 .rw[<-g]at j;have(its,rv,p,hz):=I.list j;show#[its,rv,p.isList]
 .rw[<-g]at f l;show I.mE f l
 grind
def Ht(a e it)(m:e≠it)(n:a≠it):Turn X.prog X.w X.K (.Tuple es kx ps) (SQ λH xs=>MA X.K H a xs) [e,it] e (λi h=>(∃c,ū h e it i c)/\h.IsTupleIter it a i):=by
 show pI _ a e it m _ _ (λi h h' x k=>x.at k) (λi h ⟨o,ho,q,u⟩=>#[o,ho,λv z=>by simp_all])
  (λY d s σ H xs g I j=>?_) (λY d s σ H xs y g I f l=>?_) (λh b i c ⟨o,ho,q,_⟩ B z=>?_) (λA b hh=>gI hh it a n _) (λA s i b Q E hh hl r f t=>dy hh hl r f t)
 .rw[<-g]at j;have(its,rv,p,hz):=I.tuple j;show#[its,rv,p]
 .rw[<-g]at f l;show I.j8 f l
 grind
def Ea(n:Gl X "enumerate")(t:X.mg "enumerate"=b6)(v:PA X [a] w)(hs:mn [a] X.env=[(cK,K1 a X.env)]):PI X (.Tuple es kx ps) (.Call (.Name "enumerate" p) [a] [] pos) (LB X.K w):=by
 intro c s σ H R I h;show Call_ (c6 I n t y7 (N3 (Mb (v pos c s σ H _ I h) λus s1 ⟨vs,j,d,x,y⟩=>?_) hs rfl));have(a',e,q):=y;subst e;have(u,rfl,r):=vals1 x;cases r;have f:↥s1+1≠↥s1:=Nat.succ_ne_self _;have g:∀(h':Qy),(∀b∈[↥s1+1,↥s1],iO X c j b):=λh' b A=>by
  have m:↥s1<=b:=by
   rcases f6.mp A with z|z
   .simp_all
   simp_all
  show d.qq m (d.L7.fresh m)
 rcases q with⟨⟨xs,k⟩,q⟩|⟨⟨xs,k⟩,q⟩
 .have(its,rv,p,hz):=d.list k;have l:=let ⟨o,ho,_⟩:=p.isList;fz ho;show call_enumerate_list p.isList λh' i hl hsz hk=>?_;show ā i #[_,_,_,_,j,rfl,d.kept  hk,Hs a' _ _ f (gm l),#[#[_,i],hl],g h',q]
 .have(its,rv,p,hz):=d.tuple k;have l:=let ⟨o,ho,_⟩:=p;fz ho;show gJ p λh' i hl hsz hk=>?_;show ā i #[_,_,_,_,j,rfl,d.kept  hk,Ht a' _ _ f (gm l),#[#[_,i],hl],g h',q]
end
def Eb{its:↑hY}(h:Ϯ (λi v=>its.toArray[its.toArray.size - 1 - i]?≈v) a its.toArray.size):a.toList=its.reverse:=by
 apply ź;intro i;have hs:a.size=⇑its:=by have:=h.1;simpa using this
 by_cases hi:i<⇑its
 .have b:i<a.size:=⋯
  have:=h.2 i (a[i]'b) (by simp[b]);rw[Nz,RX b,List.getElem?_reverse hi];simpa using this.symm
 .rw[Wh (by rw[gc];lia),Wh (by rw[List.length_reverse];lia)]
def AU(g:X.calm=cb)(I:Inv X d σ H s)(j:Mz X.K H a xs)
  (h:∀its,Vals xs its->⇑xs<=dt->∀R c,R=↥s->c.objs.size=↥s+1->(∀b o,s.heap.get? b≈o->c.get? b≈o)->(∀B,B.handled=X.A.handled ->
   Walks X.prog X.w B R [R,a] [R] its.toArray.size (λi v=>its.toArray[its.toArray.size - 1 - i]?≈v) (λi h=>i<=its.toArray.size/\h.IsRevIter R a ((its.toArray.size:Int) - 1 - (i:Int))/\h.IsList a its.toArray)) ->
   c.IsRevIter R a ((its.toArray.size:Int) - 1 - ((0:Nat):Int))->c.IsList a its.toArray->a<↥s->Q (.ref R) {s with heap:=c}):(fx (gj X.prog X.w) X.A) (TN (.type "reversed") [.ref a]) Q X.xe s:=by
 have(its,rv,p,hz):=I.list j;have f:=let ⟨o,ho,_⟩:=p.isList;fz ho;show call_reversed_list p.isList (h its rv hz _ _ rfl (by rw[S0]) (λb o e=>cc _ e) (λB k=>Walks.listRev (by rw[k];show I.ok.hd g) _ a (gm f) _) ?_ (p.isList.push _) f);show#[_,eW _ rfl,rfl,?_];change Ň _=Ň _;simp
def AV(m:X.calm=cb)(I:Inv X c σ H s)(n:Mz X.K H a xs)(q:∀l,H l=b6->Q (.ref l) (upd H l (.lst xs.reverse))):
  (fx (gj X.prog X.w) X.A) (TN (.type "reversed") [.ref a]) (λv s1=>(fx (gj X.prog X.w) X.A) (TN (.type "list") [v]) (EP X c σ Q) X.xe s1) X.xe s:=by
 show AU m I n λits rv hz R d T hsz hk p r hl t=>?_;have Y:⇑its=⇑xs:=rv.length.symm;show tD (s:={s with heap:=d}) (p X.A.in1.in1 rfl).toS (λi s st=>st.2.1.typeIs) ⟨lx _,r,hl⟩ (λb h=>?_) ⋯ (λu g j f x y=>?_) ⋯
 .change b<d.objs.size;rw[hsz];rcases f6.mp h with z|z
  .simp_all
  .rw[nc.mp z];show QA t
 .have(k,B,C,D,o2):=u;have G:B=s.gens:=f.gens;have J:C=s.drawn:=f.drawn;have L:o2=s.os:=f.os;subst G J L;have k2:∀b o,s.heap.get? b≈o->k.get? b≈o:=λb o e=>f.heap b o (λz=>by
   have h:=fz e
   grind) (cc _ (hk b o e))
  have N:=Eb y;show#[.ref d.objs.size,_,I.laid (t':=D) (o:=.lst xs.reverse) k2 (by rw[hsz];show È _) #[by simp_all,its.reverse,j,rv.reverse,?_],rfl,q _ (I.L7.fresh ⋯)];have O:k.get? d.objs.size≈{cls:=.type "list",dict:=b6,data:=.seq g j,slots:=#v[]}:=x;rw[O,<-N,Ń]
structure Vh(z TI TO i1 i2:k7)(f1 f2:↑k7):Prop where
 Iz:TI≠z
 Oz:TO≠z
 az:i1≠z
 bz:i2≠z
 IO:TI≠TO
 Ia:TI≠i1
 Ib:TI≠i2
 Oa:TO≠i1
 Ob:TO≠i2
 ab:i1≠i2
 z1:z∉f1
 z2:z∉f2
 O1:TO∉f1
 O2:TO∉f2
 b1:i2∉f1
 a2:i1∉f2
abbrev Gf(prog:vl)(w:OE)(A:YJ)(it:k7)(St:Qy->Prop):Prop:=∀(s:k9) (Q:hY->k9->Prop) (E:hY->k9->Prop),St s.heap->(∀h' e,û it s.heap h'->(∃o,h'.get? e≈o/\o.cls=.type "StopIteration")->E (.ref e) {s with heap:=h' })->fx (gj prog w) A (y4 (.ref it)) Q E s
section
variable{prog:vl}{w:OE}{A:YJ}{E:hY->k9->Prop}{s:k9}{z TI TO i1 i2:k7}{f1 f2:List k7}{n1 n2 i:Nat}{P1 P2:Nat->hY->Prop}{S1 S2:Nat->Qy->Prop}
def AW(m:ϲ prog w A.in1 i1 f1 n1 P1 S1)(n:ϲ prog w A.in1 i2 f2 n2 P2 S2)(Z:Vh z TI TO i1 i2 f1 f2)(hz:Þ s.heap z TI TO .none)(Pz:V5 s.heap TI (.ref i1) (.ref i2))(P0:V5 s.heap TO a b)
  (t1:S1 i s.heap) (t2:S2 i s.heap) (l1:i<n1) (l2:i<n2)
  (hQ:∀x y h' tk,P1 i x->P2 i y->Þ h' z TI TO (Mt ↥s)->V5 h' TO x y->S1 (i+1) h'->S2 (i+1) h'->V5 h' ↥s x y ->
   (∀c o,c≠z->c≠TO->c≠i1->c≠i2->s.heap.get? c≈o->h'.get? c≈o)->Q (bD (.ref ↥s)) {s with heap:=h',toks:=tk}):fx (gj prog w) A (Vk (.ref z)) Q E s:=by
 have I:s.TypeIs (.ref z) "zip":=#[_,hz,rfl]
 have h:∀{f:↑k7} {c},c∉f->∀b∈f,b≠c:=λhc b d e=>hc (e▸d);unfold Vk;show b5 (ï (Q8 (name:=Zb "__next__") I F.slot_zip_next (wh F.slot_zip_next I F.entry_zip_next ?_ (F.args_zip_next_1 _))));change fx _ _ (Ν (.ref z) 2 >>= _) _ _ _;show b5 (QC hz rfl (x:=.bool cK) rfl ?_);change fx _ _ (Ν (.ref z) 3 >>= _) _ _ _;show b5 (QC hz rfl (x:=.ref TI) rfl (b5 (w6 Pz rfl ?_)));change fx _ _ (O3 (.ref z) >>= _) _ _ _;show b5 ?_;unfold O3;show b5 (QC hz rfl (x:=.none) rfl (cL ?_));simp only[if_true];show b5 (Qt (b5 (QC hz rfl (x:=.ref TO) rfl (b5 (TX hz ⋯ λg1 v k1=>b5 ?_)))))
 replace v:Þ g1 z TI TO .ellipsis:=v
 simp only[Β,ς,W',Ϗ];show b5 (b5 (í ?_));change fx _ _ (y4 (.ref i1) >>= _) _ _ _;show b5 (m.item i _ _ _ l1 (m.frame i _ _ t1 λb d o e=>k1.extBut b o (h Z.z1 b d) e) λx g2 WU px u1 k2=>cL ?_);have J:V5 g2 TO a b:=k2.extBut _ _ Z.Oa (k1.extBut _ _ Z.Oz P0);show b5 (w6 J rfl (b5 (Û J λg3 B j=>b5 (Η (cL ?_)))))
 replace B:V5 g3 TO x b:=B
 show b5 (b5 (í ?_));change fx _ _ (y4 (.ref i2) >>= _) _ _ _;show b5 (n.item i _ _ _ l2 (n.frame i _ _ t2 λb d o e=>j.extBut b o (h Z.O2 b d) (k2.extBut b o (h Z.a2 b d) (k1.extBut b o (h Z.z2 b d) e))) λy g4 ab py u2 k=>cL ?_);have L:V5 g4 TO x b:=k.extBut _ _ Z.Ob B;show b5 (w6 L rfl (b5 (Û L λg p l=>b5 (Η (cL (cL ?_))))))
 replace p:V5 g TO x y:=p
 show b5 (w6 p rfl (b5 (wpAny_newTuple ?_)));have hsz:g.objs.size=↥s:=by rw[l.1,k.1,j.1,k2.1,k1.1]
 have N:Þ g z TI TO .ellipsis:=l.extBut _ _ Z.Oz.symm (k.extBut _ _ Z.bz.symm (j.extBut _ _ Z.Oz.symm (k2.extBut _ _ Z.az.symm v)));have kk:∀c o,c≠z->c≠TO->c≠i1->c≠i2->s.heap.get? c≈o->g.get? c≈o:=λc o c1 q C D e =>
  l.extBut _ _ q (k.extBut _ _ D (j.extBut _ _ q (k2.extBut _ _ C (k1.extBut _ _ c1 e))))
 have v1:S1 (i+1) g:=m.frame _ _ _ u1 λb d o e=>l.extBut b o (h Z.O1 b d) (k.extBut b o (h Z.b1 b d) (j.extBut b o (h Z.O1 b d) e));have v2:S2 (i+1) g:=n.frame _ _ _ u2 λb d o e=>l.extBut b o (h Z.O2 b d) e;have O:z<g.objs.size:=fz N;change fx _ _ (XR (.ref z) (.ref g.objs.size) >>= _) _ _ _;show b5 ?_;unfold XR;have G:Þ (g.push {cls:=.type "tuple",data:=.seq #v[x,y]}) z TI TO .ellipsis:=cc _ N;show b5 (TX G ⋯ λg7 H T=>?_)
 replace H:Þ g7 z TI TO (Mt g.objs.size):=H
 show TX H ⋯ λr t Y=>?_
 replace t:Þ r z TI TO (Mt g.objs.size):=t
 have u:∀c o,c≠z->g.get? c≈o->r.get? c≈o:=λc o c1 e=>Y.extBut _ _ c1 (T.extBut _ _ c1 (cc _ e));have Zo:V5 r g.objs.size x y:=Y.extBut _ _ (va O) (T.extBut _ _ (va O) (eW _ rfl));rw[hsz]at t Zo;show cL #[_,rfl,?_];change fx _ _ (pure (bD (gs g.objs.size))) _ _ _;rw[hsz];show cL (hQ x y r _ px py t (u _ _ Z.Oz p) (m.frame _ _ _ v1 λb d o e=>u b o (h Z.z1 b d) e) (n.frame _ _ _ v2 λb d o e=>u b o (h Z.z2 b d) e) Zo λc o c1 q C D e=>u c o c1 (kk c o c1 q C D e))
def AX(hh:A.handled=b6)(q:ϲ prog w A.in1 i1 f1 n1 P1 S1)(G:ϲ prog w A.in1 i2 f2 n2 P2 S2)(Z:Vh z TI TO i1 i2 f1 f2)(hz:Þ s.heap z TI TO .none)(H:V5 s.heap TI (.ref i1) (.ref i2))(I:V5 s.heap TO a b)
  (J:S1 i s.heap) (L:S2 i s.heap) (N:Gf prog w A.in1 i1 (S1 i)\/i<n1/\Gf prog w A.in1 i2 (S2 i))
  (r:∀h' O,(∀c o,c≠z->c≠TO->c≠i1->c≠i2->s.heap.get? c≈o->h'.get? c≈o)->Q b6 {s with heap:=h',toks:=O}):fx (gj prog w) A (Vk (.ref z)) Q E s:=by
 have t:s.TypeIs (.ref z) "zip":=#[_,hz,rfl]
 have k:∀{f:↑k7} {c},c∉f->∀b∈f,b≠c:=λY b d e=>Y (e▸d);unfold Vk;show b5 (ï (Q8 (name:=Zb "__next__") t F.slot_zip_next (wh F.slot_zip_next t F.entry_zip_next ?_ (F.args_zip_next_1 _))));change fx _ _ (Ν (.ref z) 2 >>= _) _ _ _;show b5 (QC hz rfl (x:=.bool cK) rfl ?_);change fx _ _ (Ν (.ref z) 3 >>= _) _ _ _;show b5 (QC hz rfl (x:=.ref TI) rfl (b5 (w6 H rfl ?_)));change fx _ _ (O3 (.ref z) >>= _) _ _ _;show b5 ?_;unfold O3;show b5 (QC hz rfl (x:=.none) rfl (cL ?_));simp only[if_true];show b5 (Qt (b5 (QC hz rfl (x:=.ref TO) rfl (b5 (TX hz ⋯ λg1 l k1=>b5 ?_)))))
 replace l:Þ g1 z TI TO .ellipsis:=l
 simp only[Β,ς,W',Ϗ];show b5 (b5 (í ?_));change fx _ _ (y4 (.ref i1) >>= _) _ _ _;have u:=q.frame i _ _ J λb d o e=>k1.extBut b o (k Z.z1 b d) e;rcases N with e1|⟨l1,e2⟩
 .show b5 (e1 _ _ _ u λm e k2 W_=>?_);have(oe,g,j):=W_;have v:Þ m z TI TO .ellipsis:=k2 _ _ Z.az.symm l;have n:e≠z:=λx=>by subst x;rw[v]at g;cases g;simp at j
  show TX v ⋯ λg3 _ h=>?_;show b5 (Nt (T:="StopIteration") (b:=cb) #[oe,h.extBut _ _ n g,j] Ü ?_);show cL (r _ _ λc o c1 _ p _ x=>h.extBut _ _ c1 (k2 _ _ p (k1.extBut _ _ c1 x)))
 .show b5 (q.item i _ _ _ l1 u λx m WU px u1 k2=>cL ?_);have y:V5 m TO a b:=k2.extBut _ _ Z.Oa (k1.extBut _ _ Z.Oz I);show b5 (w6 y rfl (b5 (Û y λg3 Vi h=>b5 (Η (cL ?_)))));show b5 (b5 (í ?_));change fx _ _ (y4 (.ref i2) >>= _) _ _ _;show b5 (e2 _ _ _ (G.frame i _ _ L λb d o e=>h.extBut b o (k Z.O2 b d) (k2.extBut b o (k Z.a2 b d) (k1.extBut b o (k Z.z2 b d) e))) λg4 e B Xa=>?_);have(oe,g,j):=Xa;have C:Þ g4 z TI TO .ellipsis:=B _ _ Z.bz.symm (h.extBut _ _ Z.Oz.symm (k2.extBut _ _ Z.az.symm l));have n:e≠z:=λx=>by subst x;rw[C]at g;cases g;simp at j
  show TX C ⋯ λg5 _ D=>?_;show b5 (Nt (T:="StopIteration") (b:=cb) #[oe,D.extBut _ _ n g,j] Ü ?_);show cL (r _ _ λc o c1 c2 p c4 x=>D.extBut _ _ c1 (B _ _ c4 (h.extBut _ _ c2 (k2.extBut _ _ p (k1.extBut _ _ c1 x)))))
end
abbrev Xb(b SB:Hp->↑V->Prop):It :=
 #[λi H=>∃xs a x y,b H xs/\SB H a/\xs[i]?≈x/\a[i]?≈y,λi H v H'=>∃p,H p=b6/\v=.ref p/\∀xs a x y,b H xs->SB H a->xs[i]?≈x->a[i]?≈y->H'=upd H p (.tup [x,y]),λi H=>∃xs a,b H xs/\SB H a/\(⇑xs<=i\/i<⇑xs/\⇑a<=i)]
def AY{K}{a b z TI TO f j}(Z:Vh z TI TO f j [f,a] [j,b])(Zr:a≠f)(WN:b≠j):Turn P w K (.Tuple es kx ps) (Xb (λH xs=>Mz K H a xs) λH T=>MA K H b T) [z,TI,TO,f,j] z
  (λi h=>Þ h z TI TO .none/\V5 h TI (.ref f) (.ref j)/\(∃u v,V5 h TO u v)/\h.IsListIter f a i/\h.IsTupleIter j b i) where
 mem:=⋯
 obj:=λi h ⟨hz,l,⟨u,v,p⟩,⟨o1,Pa,_,T9⟩,⟨o2,QB,_,ab⟩⟩ c d=>by
  grind
 keep:=λi h h' ⟨hz,l,⟨u,v,p⟩,q,r⟩ k=>#[k z ⋯ _ hz,k TI ⋯ _ l,#[u,v,k TO ⋯ _ p],q.at λo e=>k f ⋯ o e,r.at λo e=>k j ⋯ o e]
 item:=by
  intro Y hP hw J d i m s σ H E I L ⟨hz,l,⟨u,v,p⟩,q,r⟩ ⟨xs,T,x,y,t,B,hx,hy⟩;rw[<-J]at t B;have(D,r1,p1,_):=I.list t;have(G,r2,p2,_):=I.tuple B;have(x0,RS,rx):=r1.get hx;have(y0,SU,ry):=r2.get hy;have l1:i<D.toArray.size:=by simpa using(eH.mp RS).1
  have l2:i<G.toArray.size:=by simpa using(eH.mp SU).1
  have n:Y.A.handled=b6:=I.ok.hd d;subst hP hw;show AW (œ (A:=Y.A.in1) n f a Zr D.toArray) (gI (A:=Y.A.in1) n j b WN G.toArray) Z hz l p #[q,p1.isList] #[r,p2] l1 l2 λx1 y1 g N px py T_ Xc t1 t2 hT k=>?_;have ex:x1=x0:=by
   have:D.toArray[i]?≈x0:=by simpa using RS
   rw[this]at px;cases px;rfl
  have ey:y1=y0:=by
   have:G.toArray[i]?≈y0:=by simpa using SU
   rw[this]at py;cases py;rfl
  subst ex ey;show#[_,rfl,wpAny_letOwnedTupleGo_zip (s:={s with heap:=g,toks:=N}) T_ λO SS C=>?_];have lt:∀{c} {o},s.heap.get? c≈o->c≠↥s:=λe=>gm (fz e);have Xd:V5 g TI (.ref f) (.ref j):=k _ _ Z.Iz Z.IO Z.Ia Z.Ib l;have T6:O.get? ↥s≈{cls:=.type "tuple",data:=.seq #v[x1,y1]}:=(C.2 _ (lt hz).symm).trans hT;have k2:∀c o,c∉[z,TI,TO,f,j]->s.heap.get? c≈o->O.get? c≈o:=λc o d e=>by
   simp only[f6,Su,or_false,not_or]at d;show(C.2 c d.1).trans (k c o d.1 d.2.2.1 d.2.2.2.1 d.2.2.2.2 e)
  have I2:Inv Y m σ (upd H ↥s (.tup [x,y])) {s with heap:=O,toks:=N}:=I.iY L k2 (gi _)
   (show bN Y.prog Y.w _ O _ (.tup [x,y]) from#[by change 2<=dt;decide,[x1,y1],.cons rx (.cons ry .nil),#[_,T6,rfl,_,rfl]])
  show#[.ref ↥s,_,I2,rfl,#[_,I.L7.fresh (gi _),rfl,λac NU x' y' a1 a2 a3 a4=>?_],#[SS,(C.2 _ Z.Iz).trans Xd,#[_,_,(C.2 _ Z.Oz).trans Xc],t1.1.at λo e=>(C.2 _ Z.az).trans e,t2.1.at λo e=>(C.2 _ Z.bz).trans e],λc d=>?_]
  .rw[<-J]at a1 a2;have:=I.mE a1 t;subst this;have:=I.j8 a2 B;subst this;rw[hx]at a3;rw[hy]at a4;cases a3;cases a4;rfl
  .have MF:c≠↥s:=by
    simp only[f6,Su,or_false]at d;rcases d with rfl|rfl|rfl|rfl|rfl
    .show lt hz
    .show lt l
    .show lt p
    .have(o,e,_):=q;show lt e
    .have(o,e,_):=r;show lt e
   rw[aj MF];show(L c d).1
 done:=by
  intro Y hP hw J d i m s σ H E I L ⟨hz,l,⟨u,v,p⟩,q,r⟩ ⟨xs,T,t,B,N0⟩;rw[<-J]at t B;have(D,r1,p1,_):=I.list t;have(G,r2,p2,_):=I.tuple B;have e1:=⇑r1;have e2:=⇑r2;have n:Y.A.handled=b6:=I.ok.hd d;subst hP hw;show AX n (œ (A:=Y.A.in1) n f a Zr D.toArray) (gI (A:=Y.A.in1) n j b WN G.toArray) Z hz l p #[q,p1.isList] #[r,p2] ?_ λg N k=>?_
  .rcases N0 with h|⟨h,h'⟩
   .show .inl λs Q E st hE=>Ż n st.1 st.2 ⋯ hE
   .show .inr #[by simp;lia,λs Q E st hE=>dy n st.1 st.2 ⋯ hE]
  .show#[rfl,I.lV (t':=N) (ch:=[z,TI,TO,f,j]) L λc o d e=>by
    simp_all]
 self:=λA i s Q E ⟨hz,_⟩ h=>Ϸ hz h
def boot_zip:I0 "zip"≈.type "zip":=by rfl
abbrev LC(K:W.Frag)(e:TA):TI:=λσ H R=>e σ H λvs c=>∃a b,vs=[.ref a,.ref b]/\(∃xs,Mz K c a xs)/\(∃d,MA K c b d)/\R (Xb (λH xs=>Mz K H a xs) λH d=>MA K H b d) c
def Ec(a b)(xs e):
  Meets (Ti.«zip.__new__» ⟨[.type "zip",.ref a,.ref b],[]⟩) (λ_ R s=>s.heap.IsList a xs/\s.heap.IsTuple b e /\
   R (.ok (.ret (.ref (↥s+4)))) {s with heap:=((((s.heap.push {cls:=.type "list_iterator",data:=.fields #v[.ref a,.int 0 0]}).push {cls:=.type "tuple_iterator",data:=.fields #v[.ref b,.int 0 0]}).push {cls:=.type "tuple",data:=.seq #v[.ref ↥s,.ref (↥s+1)]}).push {cls:=.type "tuple",data:=.seq #v[.none,.none]}).push {cls:=.type "zip",data:=.fields #v[.none,.bool cK,.bool cK,.ref (↥s+2),.ref (↥s+3)]}}) :=
 .of_wp λprog w A R s h=>by
  have(f,g,d,i,os):=s;have(OO,O8,h):=h;have k:=sub_zip;have j:Heap.IsList (ϛ #[f,g,d,i,os]) a xs:=OO;have c:ϯ (ϛ #[f.push {cls:=.type "list_iterator",data:=.fields #v[.ref a,.int 0 0]},g,d,i,os]) b e:=let ⟨o,ho,r⟩:=O8;⟨o,cc _ ho,r⟩
  wp_walk using Wv j,T4 c
  simp only[VJ];show#[_,rfl,h]
def ib{c x y:Nat}(a:x<c\/c<x)(b:y<c):c∉[x,y]:=λh=>by
 grind
def Ed{n a b}(c:a<n)(d:b<n):Vh (n+4) (n+2) (n+3) n (n+1) [n,a] [n+1,b] :=
 #[gm ⋯,gm ⋯,gm ⋯,gm ⋯,gm ⋯,va ⋯,va ⋯,va ⋯,va ⋯,gm ⋯,
  ib ⋯ ⋯,ib ⋯ ⋯,ib ⋯ ⋯,ib ⋯ ⋯,ib ⋯ ⋯,ib ⋯ ⋯]
def Ee(h:b∈[n+4,n+2,n+3,n,n+1]):n<=b:=by
 grind
def Hu(y:Gl X "zip")(z:X.mg "zip"=b6)(A:PA X [a,b] B)(C:mn (a::[b]) X.env=(cK,K1 a X.env)::mn [b] X.env)(D:(RN pos (mn [b] X.env)).any (·.1)=cK):PI X (.Tuple es kx ps) (.Call (.Name "zip" p) [a,b] [] pos) (LC X.K B):=by
 intro j s σ H R I h;show Call_ (c6 I y z boot_zip (N3 (Mb (A pos j s σ H _ I h) λus s1 ⟨vs,G,k,J,L⟩=>?_) C D));have(l,m,rfl,(xs,N),(ys,O),q):=L;have(u1,u2,rfl,Q,T):=vals2 J;cases Q;cases T;have(Y,v1,u,_):=k.list N;have(RQ,v2,p2,_):=k.tuple O;have v:l<↥s1:=let ⟨o,ho,_⟩:=u.isList;fz ho;have w:m<↥s1:=let ⟨o,ho,_⟩:=p2;fz ho;show callType_new F.called_zip ⋯ (F.typeCall_zip_2 _ _) (F.newCall_zip_2 _ _) (λobj=>F.args_object_init_3 obj _ _) F.entry_zip_new (Ec l m Y.toArray RQ.toArray) ⟨u.isList,p2,?_⟩;generalize i:((((s1.heap.push {cls:=.type "list_iterator",data:=.fields #v[.ref l,.int 0 0]}).push {cls:=.type "tuple_iterator",data:=.fields #v[.ref m,.int 0 0]}).push {cls:=.type "tuple",data:=.seq #v[.ref ↥s1,.ref (↥s1+1)]}).push {cls:=.type "tuple",data:=.seq #v[.none,.none]}).push {cls:=.type "zip",data:=.fields #v[.none,.bool cK,.bool cK,.ref (↥s1+2),.ref (↥s1+3)]}=g;have r:∀(h:Qy) o,(h.push o).objs.size=h.objs.size+1:=λh o=>S0 ..;have d:∀(h:Qy) o n,h.objs.size=n->o.isFreed=cK->(h.push o).get? n≈o:=λh o n e f=>by subst e;show eW _ f
 have t:Þ g (↥s1+4) (↥s1+2) (↥s1+3) .none:=by subst i;show d _ _ _ (by simp[r]) rfl
 have g4:V5 g (↥s1+3) .none .none:=by subst i;show cc _ (d _ _ _ (by simp[r]) rfl)
 have g3:V5 g (↥s1+2) (.ref ↥s1) (.ref (↥s1+1)):=by subst i;show cc _ (cc _ (d _ _ _ ⋯ rfl))
 have g2:g.IsTupleIter (↥s1+1) m 0:=by subst i;show#[_,cc _ (cc _ (cc _ (d _ _ _ (by simp[r]) rfl))),rfl,rfl]
 have g1:g.IsListIter ↥s1 l 0:=by subst i;show#[_,cc _ (cc _ (cc _ (cc _ (d _ _ _ rfl rfl)))),rfl,rfl]
 have kk:∀c o,s1.heap.get? c≈o->g.get? c≈o:=λc o e=>by subst i;show cc _ (cc _ (cc _ (cc _ (cc _ e))))
 have Z:=Ed v w;show#[#[_,t,rfl],Ϸ t #[_,[↥s1+4,↥s1+2,↥s1+3,↥s1,↥s1+1],_,_,G,rfl,k.kept (t':=s1.toks) kk,AY Z (gm v) (gm (QA w)),#[t,g3,#[_,_,g4],g1,g2],λb hb=>?_,q]];have x:↥s1<=b:=Ee hb;show k.qq x (k.L7.fresh x)
def y8(l)(a)(n)(b)(c)(d)(dd)(e)(j:¬(!a.isEmpty&&OT (a.size+c.size))=cb)(f:a.size<=dt)(k:a.size+c.size<=dt+1):
  Meets (Ti.«list.extend» ⟨[.ref l,.ref b],[]⟩) (λ_ R s=>s.heap.get? l≈{cls:=.type "list",dict:=b6,data:=.seq a n,slots:=#v[]}/\s.heap.get? b≈{cls:=.type "list",dict:=dd,data:=.seq c d,slots:=e}/\R (.ok (.ret qP)) {s with heap:=s.heap.update l (uv λx=>x++c),toks:=s.toks}) :=
 .of_wp λprog w A R s h=>by
  have(hl,g,h):=h;have m:=ň;have i:(a++c).size<=dt+1:=⋯
  wp_walk using(X1 hl rfl (hz:=f) (_hz':=i)),Uy hl,Uy g;show#[_,rfl,h]
def y9(l)(a)(n)(b)(c)(d)(dd)(e)(j:¬(!a.isEmpty&&OT (a.size+c.size))=cb)(f:a.size<=dt)(k:a.size+c.size<=dt+1):
  Meets (Ti.«list.extend» ⟨[.ref l,.ref b],[]⟩) (λ_ R s=>s.heap.get? l≈{cls:=.type "list",dict:=b6,data:=.seq a n,slots:=#v[]}/\s.heap.get? b≈{cls:=.type "tuple",dict:=dd,data:=.seq c d,slots:=e}/\R (.ok (.ret qP)) {s with heap:=s.heap.update l (uv λx=>x++c),toks:=s.toks}) :=
 .of_wp λprog w A R s h=>by
  have(hl,g,h):=h;have m:=ň;have i:(a++c).size<=dt+1:=⋯
  wp_walk using(X1 hl rfl (hz:=f) (_hz':=i)),Uy hl,Uy g;show#[_,rfl,h]
def vd:Wi X "list.extend" (λx vs H Q=>∃l b xs zs,x=.ref l/\vs=[.ref b]/\H l≈.lst xs/\(Mz X.K H b zs\/MA X.K H b zs)/\⇑xs+⇑zs<=dt/\Q .Mc (upd H l (.lst (xs++zs)))):=by
 intro d s σ H x vs v us Q I w rv h;have(l,b,xs,zs,rfl,rfl,p,hB,hz,q):=h;cases w;have(u,rfl,y):=rv.one;cases y;have(z,its,n,r,hl,e):=I.G9 p;have f:∀a ,Vals zs a->EP X d σ Q qP {s with heap:=s.heap.update l (uv λx=>x++a.toArray),toks:=s.toks}:=λa c=>by
  show#[.Mc,_,I.iQ  p e ⋯ (r.append c) ?_,rfl,q];rw[ko];lia
 have j:∀a:↑hY,⇑zs=⇑a->its.toArray.size+a.toArray.size<=dt:=λa h=>by simp_all
 have t:∀a:↑hY,⇑zs=⇑a->¬(!its.toArray.isEmpty&&OT _)=cb:=λa h=>by
  rw[sH (j a h),VU];simp
 rcases hB with hB|hB
 .have(a,c,k,_):=I.list hB;have((cls,dd,data,m),ho,g,o,i):=k.isList;simp only at g i;subst g i;have O8:=⇑c;have A:=j a O8;show SV Ω #[_,e,rfl] ſ (Ŭ _ _) (y8 l its.toArray n b _ o dd m (t a O8) ⋯ ⋯) #[e,ho,f a c]
 .have(a,c,k,_):=I.tuple hB;have((cls,dd,data,m),ho,g,o,i):=k;simp only at g i;subst g i;have O8:=⇑c;have A:=j a O8;show SV Ω #[_,e,rfl] ſ (Ŭ _ _) (y9 l its.toArray n b a.toArray o dd m (t a O8) ⋯ ⋯) #[e,ho,f a c]
end L2
namespace L2
open PySem PySem.W PyProof.Rows
def y_{vs:↑(Key×hY)}(hk:vs.map (·.1)=ks.map mA)(hl:⇑a=⇑vs)(h:∀(j:Nat) v,a[j]?≈v->∃k x,vs[j]?≈(k,x)/\(aH P w).is k v=cb):XM a ks:=by
 induction a generalizing ks vs with
 |nil =>
  cases vs with
  |nil=>cases ks with
   |nil=>show .nil
   |cons _ _=>cases hk
  |cons _ _=>cases hl
 |cons v a c =>
  cases vs with
  |nil=>cases hl
  |cons p vs =>
   cases ks with
   |nil=>cases hk
   |cons k ks =>
    simp only[gr,UC]at hk;have(k',x,b,d):=h 0 v rfl;simp only[List.getElem?_cons_zero,US]at b;subst b;have f:=hk.1;subst f;rcases bE (show mz (mA k) v=cb from d) with⟨i,t,e,rfl⟩|⟨y,t,e,rfl⟩
    .cases e
    .cases e;show .cons _ _ (c hk.2 (by simpa using hl) λj u g=>h (j+1) u (by assumption))
def fA:X.calm=cb->eE X (.builtin "sorted") (λxs H Q=>∃d kvs ks,xs=[.ref d]/\Rd H d (.dK kvs)/\kvs.map (·.1)=ks.map mA/\⇑ks<64/\∀q,H q=b6->Q (.ref q) (upd H q (.lst ((aD ks).map V.str)))):=by
 intro m a s σ H xs us Q I rs h;have(d,kvs,ks,rfl,e,hk,J,q):=h;have(u,rfl,r):=vals1 rs;cases r;have(hz,lo,vs,kv,dd):=kY I.L7 e;have b:⇑vs=⇑kvs:=(Paired.length kv).symm;have n:⇑kvs=⇑ks:=by rw[<-df (f:=(·.1)),hk,df]
 have c:vs.map (·.1)=ks.map mA:=by
  rw[<-hk];clear dd b hk n e q hz;induction kv with
  |nil=>rfl
  |cons r _ p=>rw[gr,gr,p,r.1]
 have(o,es,ep,t):=id dd;have x:(64:Nat)<=dt:=⋯
 show fY (kdu_collect (A:=X.A.in1) (kdl_dict (knd:=aH X.prog X.w) (kvs:=vs) (ep:=ep) lo) (I.ok.hd m) #[o,es,t] ⋯ λh' g y z i=>#[ks,y_ c (by rw[gc];show i.1) (λj v B=>i.2 j v (by rw[<-Nz];show B)),by rw[gc,i.1];lia,λL C D k2 k G=>?_]);have l:Inv X a σ H {s with heap:=h',toks:=g}:=I.kept (t':=g) z;show#[.ref h'.objs.size,_,l.laid (t':=g) (o:=.lst ((aD ks).map V.str)) k2 (gi _) #[by rw[df,cE];lia,C,D,d7 G,k],rfl,q _ (l.L7.fresh (gi _))]
def tE:eE X (.builtin "len") (λxs H Q=>∃d kvs,xs=[.ref d]/\H d≈.dK kvs/\Q (.int ⇑kvs) H):=by
 intro b s σ H xs us Q I rs h;have(d,kvs,rfl,e,q):=h;have(u,rfl,r):=vals1 rs;cases r;have(hz,lo,vs,kv,dd):=An I.L7 e;have a:⇑vs=⇑kvs:=(Paired.length kv).symm;have c:=fV;show call_len_dict lo dd ⋯ #[.int ⇑kvs,H,I.tok _,#[_,by rw[a]],q]
theorem m_:∀{a}{its},Vals (a.map V.int) its->∃ps:↑(Int×Tok),its=ps.map (λp=>ĝ p.1 p.2)/\ps.map (·.1)=a
 |[],_,h=>by cases h;show#[[],rfl,rfl]
 |n::a,_,h=>by
  cases h with
  |cons r t =>
   have(b,rfl):=r;have(ps,rfl,rfl):=m_ t;show#[(n,b)::ps,rfl,rfl]
def AZ:X.calm=cb->eE X (.builtin "sum") (λxs H Q=>∃(p:k7) (a:↑Int),xs=[.ref p]/\Mz X.K H p (a.map V.int)/\Q (.int a.sum) H):=by
 intro c b s σ H xs us Q I rs h;have(p,a,rfl,d,q):=h;have(u,rfl,r):=vals1 rs;cases r;have(its,rv,f,hz):=I.list d;have(ps,rfl,rfl):=m_ rv;have e:(ps.map λp=>ĝ p.1 p.2).toArray=intItems ps.toArray:=by simp[intItems]
 show sum_intListG (xs:=ps.toArray) (I.ok.hd c) (by rw[<-e];show f.isList) λh' g t' hk=>?_;rw[preSum_eq,OL ⋯];show#[.int _,H,I.kept (t':=g) hk,#[t',rfl],q]
abbrev bj{α:Type}(lt:Nat->Nat->Bool):KasT α->α
 |.ret x=>x
 |.ask i j k=>bj lt (k (lt i j))
def Nv{α:Type}(n:Nat)(P:α->Prop):KasT α->Prop
 |.ret x=>P x
 |.ask i j k=>i<n/\j<n/\∀b,Nv n P (k b)
theorem Nv.SW{P:α->Prop}{Q:β->Prop}{f}(a:∀x,P x->Nv n Q (f x)):∀{t},Nv n P t->Nv n Q (t.bind f)
 |.ret x,h=>a x h
 |.ask i j k,h=>#[h.1,h.2.1,λb=>Nv.SW a (h.2.2 b)]
theorem Nv.got:∀{t:KasT α},Nv n P t->P (bj lt t)
 |.ret _,h=>h
 |.ask i j k,h=>Nv.got (t:=k _) (h.2.2 _)
theorem Nv.wp(b:∀i j,i<n->j<n->∀C:Bool->k9->Prop,C (lt i j) s->a i j C s):
  ∀{t:KasT α},Nv n P t->Q (bj lt t) s->t.kasWp a Q s
 |.ret _,_,q=>q
 |.ask i j k,h,q=>b i j h.1 h.2.1 _ (Nv.wp b  (h.2.2 _) q)
abbrev Pm(n:Nat)(p:Array Nat):Prop:=p.toList.Perm (fS n)
section
variable{n:Nat}(hn:0<n)
include hn
def Pm.at(h:Pm n p)(i):p.getD i 0<n:=by
 by_cases hi:i<p.size
 .have:p.getD i 0=p[i]:=⋯
  rw[this];have a:p[i]∈p.toList:=⋯
  show tj.mp (h.mem_iff.mp a)
 simp_all
omit hn in
def Pm.rev(h:Pm n p)(i j:Nat):Pm n (ı p i j):=(mirror_perm p i j _).toList.trans h
omit hn in
def Pm.Zs(h:Pm n p)(i j:Nat):Pm n (bubble p i j):=(bubble_perm p i j).toList.trans h
theorem vf(h:Pm n p):∀f m,Nv n (λ_=>True) (Ä p f m)
 |0,m=>trivial
 |f+1,m=>#[h.at hn _,h.at hn _,λb=>by
  cases b
  .show vf h f _
  .show ttt]
theorem lW:∀f p m q,Pm n p->Nv n (λr=>Pm n r.1) (Ý f p m q)
 |0,p,m,q,h=>h
 |f+1,p,m,q,h=>#[h.at hn _,h.at hn _,λb=>by
  cases b
  .show#[h.at hn _,h.at hn _,λb=>by
    cases b
    .show lW f p _ _ h
    .show h]
  .split
   .show lW f _ _ _ (h.rev _ _)
   .show lW f _ _ _ h]
def wY(h:Pm n p)(m r):Nv n (λx=>Pm n x.2) (Zv m r p):=by
 show Nv.SW (λx _=>?_) (vf hn (h.rev _ _) _ _);show h.rev _ _
def wZ(h:Pm n p)(m r):Nv n (λx=>Pm n x.2) (WO m r p):=by
 show Nv.SW (λx a=>?_) (lW hn _ _ _ _ h);split
 .show wY hn (a.rev _ _) _ _
 .show wY hn a _ _
def A0(h:Pm n p)(r):Nv n (λx=>Pm n x.2) (Zw r p):=by
 show Nv.SW (λm _=>?_) (vf hn h _ _);split
 .show h
 .split
  .show#[h.at hn _,h.at hn _,λb=>by
    cases b
    .show wZ hn (h.rev _ _) _ _
    .show h]
  .show wZ hn h _ _
theorem ng(h:Pm n p)(k):∀f l r,Nv n (λ_=>True) (Xm p k f l r)
 |0,l,r=>trivial
 |f+1,l,r=>by
  unfold Xm;split
  .show ttt
  .show#[h.at hn _,h.at hn _,λb=>by
    cases b
    .show ng h k f _ _
    .show ng h k f _ _]
theorem A1:∀f p k,Pm n p->Nv n (Pm n) (kas_bin f p k)
 |0,p,k,h=>h
 |f+1,p,k,h=>Nv.SW (λl _=>A1 f _ _ (h.Zs _ _)) (ng hn h _ _ _ _)
def w9:Nv n (Pm n) (RC n):=by
 show Nv.SW (λx a=>?_) (A0 hn  (by unfold Pm;simp) n);split
 .show A1 hn _ _ _ a
 .show a
end
def nh(lt)(n):(bj lt (RC n)).toList.Perm (fS n):=by
 cases n with
 |zero=>rfl
 |succ n=>show(w9 (ê n)).got
def pJ(ho:s.heap.get? a≈M7 "list" vs.toArray n)(m:⇑vs<64)
  (q:2<=⇑vs->∀s1,(∀b o,b≠a->s.heap.get? b≈o->s1.heap.get? b≈o)->fx (gj prog w) A (keyKind' vs.toArray) (λκ d=>d=s1/\∀i j,i<⇑vs->j<⇑vs->∀C:Bool->k9->Prop,C (lt i j) s1->Ċ prog w A κ vs i j C s1) (λ_ _=>False) s1)
  (h:P (.done (.ret .none)) {s with heap:=Ľ s.heap a vs (((bj lt (RC ⇑vs)).toList.map λi=>vs.getD i qP).toArray)}) :
  fx (gj prog w) A (Ti.«list.sort» ⟨[.ref a],[]⟩) P E s:=by
 have O:a<↥s:=fz ho;have u:(64:Nat)<=dt:=⋯
 rw[list_sort_plain];show b5 (Ű ho rfl (b5 (ñ ho rfl ?_ (by rw[ri];lia) (lx _))));obtain⟨k,r⟩:∃k,(s.heap.update a (uv λ_=>(#v[]:Array hY))).get? a≈(M7 "list" #v[] k):=#[_,get?_update_seq ho λ_=>#v[]]
 show b5 (ο r rfl (b5 (wpAny_newTuple (b5 (î (qI ?_) (lx _))) (by change ⇑vs<=_;lia))));have f:(((s.heap.update a (uv λ_=>(#v[]:Array hY))).push (M7 "tuple" vs.toArray 0)).push (M7 "list" #v[] 0)).get? a≈(M7 "list" #v[] k):=cc _ (cc _ r);have g:∀b o,b≠a->s.heap.get? b≈o->(((s.heap.update a (uv λ_=>(#v[]:Array hY))).push (M7 "tuple" vs.toArray 0)).push (M7 "list" #v[] 0)).get? b≈o:=λb o y e =>
  cc _ (cc _ (by rw[UQ _ _ _ _ y];show e))
 change fx (gj prog w) A _ P E {s with heap:=((s.heap.update a (uv λ_=>(#v[]:Array hY))).push (M7 "tuple" vs.toArray 0)).push (M7 "list" #v[] 0)}
 dsimp only
 have z:⇑((bj lt (RC ⇑vs)).toList.map λi=>vs.getD i qP)=⇑vs:=by rw[df,(nh lt _).length_eq,Qz]
 by_cases c:vs.toArray.size<2
 .rw[if_pos c,if_pos c];show b5 (cL ?_);rw[StateT.run_pure];show b5 (cL ?_);have B:((bj lt (RC ⇑vs)).toList.map λi=>vs.getD i qP).toArray=(vs.toArray.zip vs.toArray).map (·.2):=by
   have l:=nh lt ⇑vs;clear h q z g f ho m
   match vs,c,l with
   |[],_,l=>simp_all
   |[v],_,l=>simp_all
   |_::_::_,c,_=>simp at c;lia
  rw[B]at h
  dsimp only
  show b5 (ο f rfl (b5 (ñ f rfl ?_ (lx _) (by grind))));simp only[bne_self_eq_false,wk,if_false];show cL h
 .rw[if_neg c,if_neg c];have t:2<=⇑vs:=by rw[ri]at c;lia
  show b5 (vu (q t _ g) (λκ s0 hk=>?_) λ_ _ x=>x.elim);have(rfl,hk):=hk;show b5 (vu (kat_run (κ:=κ) (ks:=vs) (vs:=vs) (G:=λp d=>p=bj lt (RC ⇑vs)/\d={s with heap:=((s.heap.update a (uv λ_=>(#v[]:Array hY))).push (M7 "tuple" vs.toArray 0)).push (M7 "list" #v[] 0)})
   (Q:=λst' d=>∃p:Array Nat,arrOf st'=p.map (kas_item (vs.toArray.zip vs.toArray))/\failedOf st'=b6/\p=bj lt (RC ⇑vs)/\d={s with heap:=((s.heap.update a (uv λ_=>(#v[]:Array hY))).push (M7 "tuple" vs.toArray 0)).push (M7 "list" #v[] 0)})
   rfl t m (λp st' d T D H I=>#[p,D,H,I]) (Nv.wp hk (w9 ⋯) #[rfl,rfl])) ?_ λ_ _ e=>e)
  rintro⟨⟨⟩,st'⟩ d ⟨p,J,L,rfl,rfl⟩
  dsimp only
  have N:=kat_snds rfl J;rw[N,L];show b5 (ο f rfl (b5 (ñ f rfl ?_ (lx _) (by grind))));simp only[bne_self_eq_false,wk,if_false];show cL h
@[reducible]noncomputable def Hv:=Str×Int
abbrev NP(ks:↑Str)(i j:Nat):Bool:=dV (((ks.getD i rr).cps.toList)<((ks.getD j rr).cps.toList))
abbrev dz(ks:↑Str):↑Nat:=(bj (NP ks) (RC ⇑ks)).toList
def bS(ks):(dz ks).Perm (fS ⇑ks):=nh _ _
abbrev JU(x:Str)(n:Int)(t u:Tok):Obj:={cls:=.type "tuple",data:=.seq #v[.str x t,.int n u]}
abbrev gA(h:Qy)(as:↑k7)(ps:↑Hv):Prop:=⇑as=⇑ps/\∀(j:Nat) (a:k7),as[j]?≈a->∃p t u,ps[j]?≈p/\h.get? a≈JU p.1 p.2 t u
def gA.keeps(x:gA h as ps)(k:∀b o,b∈as->h.get? b≈o->h'.get? b≈o):gA h' as ps :=
 #[x.1,λj a e=>let ⟨p,t,u,c,d⟩:=x.2 j a e;⟨p,t,u,c,k a _ (k8 e) d⟩]
def gA.tail(x:gA h (a::as) (p::ps)):gA h as ps :=
 #[by have:=x.1;simpa using this,λj b e=>by
  have(q,t,u,d,c):=x.2 (j+1) b (by simpa using e);show#[q,t,u,by assumption,c]]
theorem gA.iZ:∀{as}{ps},gA h as ps->∃b,KatTups h (as.map gs) b/\⇑b=⇑as/\∀v∈b,∃x t,v=ti x t
 |[],_,_=>#[[],ω,rfl,by simp]
 |a::as,[],x=>by have:=x.1;simp_all
 |a::as,p::ps,x=>by
  have(b,c,d,e):=gA.iZ x.tail;have(q,t,u,g,f):=x.2 0 a rfl;show#[.str q.1 t::b,Υ f rfl rfl rfl c,by simp[d],λv hv=>?_];rcases f6.mp hv with rfl|hv
  .show#[_,_,rfl]
  .show e v hv
theorem pK:∀{l:↑α}{m}{i:Nat}{x},Paired F l m->l[i]?≈x->∃y,m[i]?≈y/\F x y
 |_,_,_,_,.nil,e=>by simp at e
 |_,_,0,_,.cons r _,e=>by simp_all
 |_,_,i+1,x,.cons _ t,e=>by
  have(u,b,a):=pK   t (by simpa using e);show#[u,by assumption,a]
def Hw(x:gA s.heap as ps)(d:(ps.map (·.1)).Nodup)(hi:i<⇑as)(e:j<⇑as)(q:C (NP (ps.map (·.1)) i j) s):
  Ċ prog w A (tuples' cb) (as.map gs) i j C s:=by
 have(p,t,u,b,f):=x.2 i as[i] ⋯;have(c,t',u',a,g):=x.2 j as[j] ⋯;have hl:=x.1;have k:i<⇑ps:=⋯
 have y:j<⇑ps:=⋯
 have l:(as.map gs).getD i qP=.ref as[i]:=by simp[Ry,hi]
 have m:(as.map gs).getD j qP=.ref as[j]:=by simp[Ry,e]
 have n:(ps.map (·.1)).getD i rr=p.1:=by simp[Ry,b]
 have o:(ps.map (·.1)).getD j rr=c.1:=by simp[Ry,a]
 unfold Ċ;rw[l,m];show kat_lt  f rfl g rfl ?_;unfold NP at q;rw[n,o]at q;show Τ (Ē ?_);by_cases h:p.1=c.1
 .have r:i=j:=by
   have v:(ps.map (·.1))[i]'⋯=(ps.map (·.1))[j]'⋯:=by
    simp_all
   show(ô d).mp v
  subst r;rw[b]at a;cases a;rw[decide_eq_true rfl];show kat_yes (Τ (ē ?_));rw[show(p.2==p.2)=cb by simp];have:dV ((p.1.cps.toList)<(p.1.cps.toList))=cK:=decide_eq_false (ώ _);rw[this]at q;show q
 .rw[decide_eq_false h];show kat_no (oneLt_str q)
def Hx(x:gA s.heap as ps)(b:(ps.map (·.1)).Nodup)(g:2<=⇑as):
  fx (gj prog w) A (keyKind' (as.map gs).toArray) (λκ c=>c=s/\∀i j,i<⇑(as.map gs)->j<⇑(as.map gs)->∀C,C (NP (ps.map (·.1)) i j) s->Ċ prog w A κ (as.map gs) i j C s) (λ_ _=>False) s:=by
 have(h,d,k,e):=x.iZ;show kat_kind (T:=.type "str") d ⋯ (λv f=>?_) rfl ⟨rfl,λi j hi a C q=>?_⟩
 .have(y,t,rfl):=e v f;show ψ rfl
 .rw[df]at hi a;show Hw x b hi a q
abbrev lK(H:Hp):↑(k7×↑V)->Hp
 |[]=>H
 |(a,vs)::r=>upd (lK H r) a (.tup vs)
theorem ni:∀{l}{b}{o},lK H l b≈o->(∃vs,(b,vs)∈l/\o=.tup vs)\/H b≈o
 |[],b,o,h=>.inr h
 |(a,vs)::r,b,o,h=>by
  by_cases c:b=a
  .subst c;rw[lK,av]at h;simp_all
  .rw[lK,aj c]at h;rcases ni h with⟨ws,d,e⟩|q
   .show .inl #[ws,by simp[d],e]
   .show .inr q
theorem nj:∀{l}{b},(∀p∈l,p.1≠b)->lK H l b=H b
 |[],b,_=>rfl
 |(a,vs)::r,b,h=>by
  rw[lK,aj (ve (h _ kj))];show nj λp c=>h p (by simp[c])
theorem w_:∀{l}{b}{vs},(l.map (·.1)).Nodup->(b,vs)∈l->lK H l b≈.tup vs
 |(a,ws)::r,b,vs,d,h=>by
  have c:a∉r.map (·.1)/\(r.map (·.1)).Nodup:=by simpa using d
  rcases f6.mp h with h|h
  .cases h;show av
  .have:b≠a:=λz=>c.1 (by rw[<-z];show hW.mpr #[_,h,rfl]);rw[lK,aj this];show w_ c.2 h
def Inv.many(I:Inv X a σ H s)(k:∀b u,s.heap.get? b≈u->h'.get? b≈u)(d:∀b o,H b≈o->H' b≈o)
  (f:∀b o,H' b≈o->H b≈o\/(↥s<=b/\bN X.prog X.w H' h' b o)):Inv X a σ H' {s with heap:=h',toks:=t' }:=by
 show I.un #[λb u q _ _ _=>k b u q,λb u q _ _ _=>#[_,k b u q],λb u q n _=>?_,λb u q _=>#[u,k b u q],λb xs q=>d b _ q,λb u xs q=>d b _ q,λb ps q=>#[#v[],by rw[d b _ q];simp]] λb o e=>?_
 .cases e:H' b with
  |none=>rfl
  |some o =>
   rcases f b o e with z|⟨z,_⟩
   .simp_all
   .show absurd (lg (fz q) z) (uk _)
 .rcases f b o e with z|⟨_,z⟩
  .show(I.L7 b o z).iN (λc v _ q=>k c v q) (λc q=>d c _ q) λc xs q=>d c _ q
  lia
abbrev Qk(p:Hv):↑V:=[.str p.1,.int p.2]
def q9{ps:↑Hv}(hc:X.calm=cb)(I:Inv X g σ H s)(e:H d≈.dK (ps.map λp=>((mA p.1:Key),V.int p.2)))(L_:(ps.map (·.1)).Nodup)(Ol:⇑ps<64)
  (q:∀as L,⇑as=⇑ps->as.Nodup->(∀a∈L::as,H a=b6)->L∉as->Q (.ref L) (upd (lK H (as.zip (ps.map Qk))) L (.lst ((dz (ps.map (·.1))).map λi=>V.ref (as.getD i 0))))) :
  (fx (gj X.prog X.w) X.A) (TN (.builtin "dict.items") [.ref d]) (λv s1=>(fx (gj X.prog X.w) X.A) (TN (.builtin "sorted") [v]) (EP X g σ Q) X.xe s1) X.xe s:=by
 have al:64<=dt:=⋯
 have(hz,lo,vs,kv,dd):=An I.L7 e;have C:⇑vs=⇑ps:=by
  have:=Paired.length kv;simpa using this.symm
 have(o,es,ep,r):=id dd;show Ã F.slot_dict_items (show s.TypeIs (.ref d) "dict" from#[o,r.1,r.2.1.1]) F.entry_dict_items (F.args_dict_items_1 _) (Ė (aH X.prog X.w) d lo) #[#[vs,dd],?_];change (fx (gj X.prog X.w) X.A) (TN (.builtin "sorted") [.ref ↥s]) (EP X g σ Q) X.xe {s with heap:=s.heap.push {cls:=.type "dict_items",data:=.fields #v[.ref d]}};have k1:∀b u,s.heap.get? b≈u->(s.heap.push {cls:=.type "dict_items",data:=.fields #v[.ref d]}).get? b≈u:=λb u z=>cc _ z;have am:(s.heap.push {cls:=.type "dict_items",data:=.fields #v[.ref d]}).DictOf (aH X.prog X.w) d vs:=#[o,es,ep,k1 _ _ r.1,r.2]
 have M0:(s.heap.push {cls:=.type "dict_items",data:=.fields #v[.ref d]}).DictAt (aH X.prog X.w) d vs ep:=#[o,es,k1 _ _ r.1,r.2]
 show X5 π ů ű (Ų _) ?_;unfold Ti.«sorted»;show b5 (m:=ϙ "sorted" 1 1 _) (cL ?_);show b5 (kdx_collect (A:=X.A.in1) (knd:=aH X.prog X.w) (kvs:=vs) (ep:=ep) (I.ok.hd hc) #[_,eW _ rfl,rfl,rfl] M0 ⋯ λc tk as hk hl D=>?_);have G:⇑as=⇑ps:=hl.trans C;have f:∀a∈as,↥s<=a:=λa ha=>by
  have:=D.above a ha;have z:(s.heap.push {cls:=.type "dict_items",data:=.fields #v[.ref d]}).objs.size=↥s+1:=S0 ..
  grind
 have pa:gA c as ps:=#[G,λj a ea=>by
  have(N,k,x,O,T,e3):=D.pairs j a ea;have B:j<⇑ps:=by rw[<-G];show(eH.mp ea).1
  have(y,ey,r1,r2):=pK kv (i:=j) (x:=(mA ps[j].1,V.int ps[j].2)) (by simp[B]);rw[O]at ey;cases ey;obtain⟨tx,rfl⟩:∃t,x=.int ps[j].2 t:=r2;have Y:k=mA ps[j].1:=r1.symm;subst Y;have(t,rfl):=ń (x:=ps[j].1) (v:=N) T;show#[ps[j],t,tx,by simp[B],e3]]
 have nd:as.Nodup:=D.rise.imp λh=>gm h;show b5 (î ?_ (by rw[df];lia));have O4:(c.push (M7 "list" (as.map gs).toArray 0)).get? c.objs.size≈M7 "list" (as.map gs).toArray 0:=eW _ rfl;change fx _ _ _ _ _ {s with heap:=c.push (M7 "list" (as.map gs).toArray 0),toks:=tk};have Vo:∀a∈as,a<c.objs.size:=λa ha=>D.there ha;show b5 (qI (wh ľ #[_,O4,rfl] ī (pJ (lt:=NP (ps.map (·.1))) O4 (by rw[df];lia) (λh2 s1 ks=>?_) ⟨_,rfl,?_⟩) (Ŀ _)))
 .show Hx (pa.keeps λb o J z=>ks b o (gm (Vo b J)) (cc _ z)) L_ (by rw[df]at h2;show h2)
 .have(ee,he):=Ŕ (out:=((bj (NP (ps.map (·.1))) (RC ⇑(as.map gs))).toList.map λi=>(as.map gs).getD i qP).toArray) O4;have n:∀b o,c.get? b≈o->(Ľ (c.push (M7 "list" (as.map gs).toArray 0)) c.objs.size (as.map gs) ((bj (NP (ps.map (·.1))) (RC ⇑(as.map gs))).toList.map λi=>(as.map gs).getD i qP).toArray).get? b≈o:=λb o z=>by
   have Mm:b<c.objs.size:=fz z;rw[ļ (gm Mm) (by rw[S0];show QA Mm)];show cc _ z
  have N':↥s<=c.objs.size:=Rt (fz (hk _ _ (eW _ rfl)));have eP:((bj (NP (ps.map (·.1))) (RC ⇑(as.map gs))).toList)=dz (ps.map (·.1)):=by
   unfold dz;rw[df,df,G]
  have SX:H c.objs.size=b6:=I.L7.fresh N';have ab:c.objs.size∉as:=λz=>uk _ (Vo _ z);have Zt:∀a∈as,H a=b6:=λa ha=>I.L7.fresh (f a ha);have Xi:∀{b:k7} {ws},(b,ws)∈as.zip (ps.map Qk)->b∈as:=λz=>(W9 z).1;show cL #[_,rfl,.ref c.objs.size,upd (lK H (as.zip (ps.map Qk))) c.objs.size (.lst ((dz (ps.map (·.1))).map λi=>V.ref (as.getD i 0))),?_,rfl,q as _ G nd (λa ha=>?_) ab]
  .show I.many (λb u z=>n b u (hk b u (k1 b u z))) (λb o z=>?_) λb o z=>?_
   .have n1:b≠c.objs.size:=λy=>by rw[y,SX]at z;cases z
    rw[aj n1,nj λp hp y=>?_]
    .show z
    .have:=Zt p.1 (Xi (b:=p.1) (ws:=p.2) hp);rw[y,z]at this;cases this
   .by_cases J:b=c.objs.size
    .subst J;rw[av]at z;cases z;show .inr #[N',by rw[df,(bS _).length_eq,Qz,df];lia,(dz (ps.map (·.1))).map λi=>(as.map gs).getD i qP,ee,?_,?_]
     .have M4:∀i∈dz (ps.map (·.1)),i<⇑as:=λi hi=>by
       have:=tj.mp ((bS _).mem_iff.mp hi);rw[df]at this;lia
      generalize dz (ps.map (·.1))=l at M4;induction l with
      |nil=>show .nil
      |cons i l ih =>
       show .cons ?_ (ih λj B=>M4 j (by simp[B]));have hi:=M4 i ⋯;change RelV (.ref (as.getD i 0)) ((as.map gs).getD i qP);have:(as.map gs).getD i qP=.ref (as.getD i 0):=by simp[Ry,hi]
       rw[this];rfl
     .rw[<-eP];show he
    .rw[aj J]at z;rcases ni z with⟨ws,z1,rfl⟩|z1
     .have(j,B,ej):=Qj.mp z1;have Xj:j<⇑as:=by simp at B;lia
      have Vn:j<⇑ps:=⋯
      have ac:as[j]=b/\Qk ps[j]=ws:=by simpa using ej
      have(rfl,rfl):=ac;have(p,t,u,O,T):=pa.2 j as[j] (by simp[Xj]);have:p=ps[j]:=by simpa[Vn] using O.symm
      subst this;show .inr #[f _ ⋯,by change 2<=dt;lia,[.str ps[j].1 t,.int ps[j].2 u],.cons #[t,rfl] (.cons #[u,rfl] .nil),_,n _ _ T,rfl,0,rfl]
     .show .inl z1
  .rcases f6.mp ha with rfl|ha
   .show SX
   .show Zt a ha
structure Ql(n:Nat)(lt:Nat->Nat->Bool):Prop where
 tr:∀a b c,a<n->b<n->c<n->lt a b=cb->lt b c=cb->lt a c=cb
 Xk:∀a b,a<n->b<n->a≠b->lt a b=cK->lt b a=cb
abbrev aT(p:Array Nat)(i:Nat):Nat:=p.getD i 0
def xa(h:p[i]?=q[j]?):aT p i=aT q j:=by
 unfold aT;simp_all
abbrev OX(lt:Nat->Nat->Bool)(p:Array Nat)(m:Nat):Prop:=∀i j,i<j->j<m->lt (aT p i) (aT p j)=cb
abbrev Q_(lt:Nat->Nat->Bool)(p:Array Nat)(m:Nat):Prop:=∀i j,i<j->j<m->lt (aT p j) (aT p i)=cb
theorem ic:∀t:KasT α,bj lt (t.bind f)=bj lt (f (bj lt t))
 |.ret _=>rfl
 |.ask i j k=>ic (k _)
def Pm.size(h:Pm n p):p.size=n:=by
 have:=h.length_eq;simpa using this
def A2{l:↑α}(a:l.Nodup)(hi:i<⇑l)(b:j<⇑l)(e:l[i]=l[j]):i=j:=by
 rcases ë i j with z|z|z
 .show absurd e (R'.mp a i j hi b z)
 .show z
 .show absurd e.symm (R'.mp a j i b hi z)
def Pm.ne(h:Pm n p)(hi:i<n)(a:j<n)(b:i≠j):aT p i≠aT p j:=by
 have hs:=h.size;have c:=h.nodup_iff.mpr ó;have d:aT p i=p.toList[i]'⋯:=by unfold aT;simp[ř,hs,hi]
 have f:aT p j=p.toList[j]'⋯:=by unfold aT;simp[ř,hs,a]
 rw[d,f];intro e;show b (A2 c _ _ e)
def OX.ext(c:Ql n lt)(a:0<n)(h:Pm n p)(m1:1<=m)(b:OX lt p m)(hl:lt (aT p (m - 1)) (aT p m)=cb):OX lt p (m+1):=by
 intro i j d g;by_cases e:j=m
 .subst e;by_cases f:i=j - 1
  .subst f;show hl
  .show c.tr _ _ _ (h.at a _) (h.at a _) (h.at a _) (b i _ ⋯ ⋯) hl
 .show b i j d ⋯
def Q_.ext(c:Ql n lt)(a:0<n)(h:Pm n p)(m1:1<=m)(b:Q_ lt p m)(hl:lt (aT p m) (aT p (m - 1))=cb):Q_ lt p (m+1):=by
 intro i j d g;by_cases e:j=m
 .subst e;by_cases f:i=j - 1
  .subst f;show hl
  .show c.tr _ _ _ (h.at a _) (h.at a _) (h.at a _) hl (b i _ ⋯ ⋯)
 .show b i j d ⋯
theorem q_(k:Ql n lt)(g:0<n)(h:Pm n p):∀f m,1<=m->m+f<=n->OX lt p m->OX lt p (bj lt (Ä p f m))/\m<=bj lt (Ä p f m)/\bj lt (Ä p f m)<=m+f/\(bj lt (Ä p f m)<m+f->lt (aT p (bj lt (Ä p f m))) (aT p (bj lt (Ä p f m) - 1))=cb)
 |0,m,m1,l,i=>#[i,gi _,gi _,λz=>absurd z (uk _)]
 |f+1,m,m1,l,i=>by
  have e:bj lt (Ä p (f+1) m)=bj lt (if lt (aT p m) (aT p _)=cb then .ret m else Ä p f _):=rfl;by_cases j:lt (aT p m) (aT p (m - 1))=cb
  .rw[e,if_pos j];show#[i,gi _,by change m<=_;lia,λ_=>j]
  .rw[e,if_neg j];have hl:=k.Xk _ _ (h.at g _) (h.at g _) (h.ne   ⋯ ⋯ ⋯) (VS.mpr j);have(a,b,c,d):=q_ k g h f _ ⋯ ⋯ (OX.ext k g h m1 i hl)
   grind
theorem tF(k:Ql n lt)(g:0<n)(h:Pm n p):∀f m,1<=m->m+f<=n->Q_ lt p m->∃r,bj lt (Ý f p m 0)=(p,r,0)/\Q_ lt p r/\m<=r/\r<=m+f
 |0,m,m1,l,i=>#[m,rfl,i,gi _,gi _]
 |f+1,m,m1,l,i=>by
  have e:bj lt (Ý (f+1) p m 0)=bj lt (if lt (aT p m) (aT p (m - 1))=cb then(if 0>0 then Ý f _ (m+1) 0 else Ý f p (m+1) 0)
   else .ask _ _ λd=>if d=cb then .ret _ else Ý f p (m+1) _):=rfl
  by_cases j:lt (aT p m) (aT p (m - 1))=cb
  .rw[e,if_pos j];have(r,a,b,c,d):=tF k g h f (m+1) ⋯ ⋯ (Q_.ext k g h m1 i j);show#[r,a,b,⋯,⋯]
  .have hl:=k.Xk _ _ (h.at g _) (h.at g _) (h.ne   ⋯ ⋯ ⋯) (VS.mpr j);rw[e,if_neg j];show#[m,?_,i,gi _,⋯];change bj lt (if lt (aT p (m - 1)) (aT p m)=cb then .ret _ else Ý f p (m+1) (0+1))=_;have o:lt (aT p (m - 1)) (aT p m)=cb:=hl;rw[if_pos o];rfl
def A3(f:Ql n lt)(g:0<n)(h:Pm n p)(m1:1<=m)(r:m<=n)(l:Q_ lt p m):OX lt (bj lt (Zv m n p)).2 (bj lt (Zv m n p)).1/\Pm n (bj lt (Zv m n p)).2/\1<=(bj lt (Zv m n p)).1/\(bj lt (Zv m n p)).1<=n:=by
 have e:=h.rev 0 m;have hs:=h.size;have o:OX lt (ı p 0 m) m:=by
  have d:∀k,k<m->aT (ı p 0 m) k=aT p _:=λk hk=>by
   show xa ?_;unfold ı;rw[getElem?_mirror_all ⋯,if_pos #[lx _,hk],UJ]
  intro i j s q;rw[d i ⋯,d j q];show l _ _ ⋯ ⋯
 have(a,b,c,_):=q_ f g e (n - m) m m1 ⋯ o;unfold Zv;rw[ic];show#[a,e,by change 1<=bj lt _;lia,by change bj lt _<=n;lia]
def za(f:Ql n lt)(g:0<n)(h:Pm n p):OX lt (bj lt (Zw n p)).2 (bj lt (Zw n p)).1/\Pm n (bj lt (Zw n p)).2/\1<=(bj lt (Zw n p)).1/\(bj lt (Zw n p)).1<=n:=by
 have(a,b,c,d):=q_ f g h (n - 1) 1 (gi _) ⋯ (λi j l o=>by lia);unfold Zw;rw[ic];generalize bj lt _=m at a b c d;by_cases e:m=n
 .rw[if_pos (by simp[e])];show#[a,h,b,by change m<=n;lia]
 .rw[if_neg (by simp[e])];by_cases m1:m>1
  .rw[if_pos m1];change OX lt (bj lt (if lt (aT p 0) (aT p (m - 1))=cb then .ret (m,p) else WO m n _)).2 (bj lt (if lt (aT p 0) (aT p (m - 1))=cb then .ret (m,p) else WO m n _)).1/\Pm n (bj lt (if lt (aT p 0) (aT p (m - 1))=cb then .ret (m,p) else WO m n _)).2/\1<=(bj lt (if lt (aT p 0) (aT p (m - 1))=cb then .ret (m,p) else WO m n (ı p 0 m))).1/\(bj lt (if lt (aT p 0) (aT p (m - 1))=cb then .ret (m,p) else WO m n (ı p 0 m))).1<=n;rw[if_pos (a 0 (m - 1) ⋯ ⋯)];show#[a,h,b,by change m<=n;lia]
  .rw[if_neg m1];have em:m=1:=⋯
   subst em;have q:Q_ lt p 2:=λi j l o=>by
    grind
   have(r,s,b1,c1,t):=tF f g h (n - 2) 2 ⋯ ⋯ q;unfold WO;rw[ic,s];have k:r<=n:=by
    lia
   show A3 f g h (m:=r) ⋯ k b1
theorem kf(b:Ql n lt)(a:0<n)(h:Pm n p)(hk:k<n)(d:OX lt p k):∀f l r,r - l<=f->l<=r->r<=k->(∀j,j<l->lt (aT p j) (aT p k)=cb)->(∀j,r<=j->j<k->lt (aT p k) (aT p j)=cb) ->
  bj lt (Xm p k f l r)<=k/\(∀j,j<bj lt (Xm p k f l r)->lt (aT p j) (aT p k)=cb)/\∀j,bj lt (Xm p k f l r)<=j->j<k->lt (aT p k) (aT p j)=cb
 |0,l,r,t,hl,u,g,i=>#[by change l<=k;lia,g,λj m=>i j (by have:l<=j:=m;lia)]
 |f+1,l,r,t,hl,u,g,i=>by
  by_cases q:l >= r
  .have e:bj lt (Xm p k (f+1) l r)=l:=by
    change bj lt (if l >= r then .ret l else _)=l;rw[if_pos q];rfl
   grind
  .have e:bj lt (Xm p k (f+1) l r)=bj lt (if lt (aT p k) (aT p ((l+r) / 2))=cb then Xm p k f l ((l+r) / 2) else Xm p k f ((l+r) / 2+1) r):=by
    change bj lt (if l >= r then .ret l else _)=_;rw[if_neg q];rfl
   rw[e];by_cases c:lt (aT p k) (aT p ((l+r) / 2))=cb
   .rw[if_pos c];show kf b a h hk d f l _ ⋯ ⋯ ⋯ g λj m v=>?_;by_cases o:j=(l+r) / 2
    .subst o;show c
    .show b.tr _ _ _ (h.at a _) (h.at a _) (h.at a _) c (d _ _ ⋯ v)
   .rw[if_neg c];have s:=b.Xk _ _ (h.at a _) (h.at a _) (h.ne   ⋯ ⋯ ⋯) (VS.mpr c);show kf b a h hk d f _ r ⋯ ⋯ ⋯ (λj m=>?_) i;by_cases o:j=(l+r) / 2
    .subst o;show s
    .show b.tr _ _ _ (h.at a _) (h.at a _) (h.at a _) (d j _ ⋯ ⋯) s
theorem xb(o:Ql n lt)(q:0<n):∀f p k,Pm n p->OX lt p k->k+f=n->OX lt (bj lt (kas_bin f p k)) n
 |0,p,k,h,d,hk=>by
  have e:k=n:=⋯
  subst e;show d
 |f+1,p,k,h,d,hk=>by
  have(a,b,c):=kf o q h (k:=k) ⋯ d k 0 k ⋯ ⋯ (gi _) (λj r=>by lia) λj r z=>by lia
  unfold kas_bin;rw[ic];generalize bj lt _=l at a b c;show xb o q f _ (k+1) (h.Zs _ _) ?_ ⋯;have hs:=h.size;have m:∀i,aT _ i=if i=l then aT p k else if l<i/\i<=k then aT p (i - 1) else aT p i:=λi=>by
   have g:=getElem?_bubble (xs:=p) (src:=k) ⋯ (k - l) ⋯ i;rw[show k - (k - l)=l by lia]at g;by_cases s:i=l
   .rw[if_pos s]at g ⊢;show xa g
   .rw[if_neg s]at g ⊢;by_cases t:l<i/\i<=k
    .rw[if_pos t]at g ⊢;show xa g
    .rw[if_neg t]at g ⊢;show xa g
  intro i j w r;rw[m i,m j];by_cases x:i=l
  .grind
  .rw[if_neg x];by_cases u:l<i/\i<=k
   .rw[if_pos u,if_neg ⋯,if_pos ⋯];show d _ _ ⋯ ⋯
   .rw[if_neg u];by_cases y:j=l
    .simp_all
    .rw[if_neg y];by_cases v:l<j/\j<=k
     .rw[if_pos v];by_cases e:i=j - 1
      .lia
      .show d _ _ ⋯ ⋯
     .rw[if_neg v];show d _ _ w ⋯
def A4(f:Ql n lt)(g:0<n):OX lt (bj lt (RC n)) n:=by
 have(a,b,c,d):=za f g (p:=List.toArray (fS n)) (by unfold Pm;simp);unfold RC;rw[ic];generalize bj lt _=x at a b c d;by_cases e:x.1<n
 .rw[if_pos e,show max x.1 1=x.1 by lia];show xb f g _ _ _ b a ⋯
 .rw[if_neg e];have h:x.1=n:=⋯
  rw[<-h];show a
def Ef(h:ks.Nodup):Ql ⇑ks (NP ks):=by
 show#[λa b c _ _ _ d j=>?_,λa b g i k d=>?_]
 .unfold NP at *;rw[decide_eq_true_eq]at *;show List.lt_trans d j
 .unfold NP at *;rw[decide_eq_false_iff_not]at d;rw[decide_eq_true_eq];have f:=aaf.mp d;rcases Decidable.em (((ks.getD b _).cps.toList)<((ks.getD a _).cps.toList)) with z|z
  .show z
  .exfalso
   have e:=sR (Ε f (aaf.mp z));rw[XU,XU,nC g,nC i]at e;show k (A2 h g i e.symm)
def zb(h:ks.Nodup):(dz ks).map (λi=>ks.getD i rr)=aD ks:=by
 have b:=bS ks;have e:(fS ⇑ks).map (λi=>ks.getD i rr)=ks:=by
  apply PH
  .simp
  .intro i n d;simp[Ry,d]
 have f:((dz ks).map λi=>ks.getD i rr).Perm ks:=by
  have:=b.map λi=>ks.getD i rr;rw[e]at this;show this
 show eh (f.trans (aS ks).symm) ?_ (c9 ks);rw[List.pairwise_map,R'];intro i j hi g l;have hl:⇑(dz ks)=⇑ks:=by rw[b.length_eq,Qz]
 have a:=A4 (Ef h) ⋯ i j l ⋯;have c:∀(k:Nat) (hk:k<⇑(dz ks)),aT (bj (NP ks) (RC ⇑ks)) k=(dz ks)[k]:=λk hk=>by
  unfold aT;have m:k<(bj (NP ks) (RC ⇑ks)).size:=by simpa[dz] using hk
  simp[dz,ř,m]
 rw[c i hi,c j g]at a;unfold NP at a;rw[decide_eq_true_eq]at a;rw[jz];show List.le_of_lt a
abbrev gB(h:Qy)(as:↑k7)(ks:↑Str):Prop:=⇑as=⇑ks/\∀(j:Nat) (a:k7),as[j]?≈a->∃k t o n b u,ks[j]?≈k/\h.get? a≈o/\o.cls=.type "tuple"/\o.data=.seq #v[.str k t,.int b u] n
def gB.keeps(x:gB h as ks)(k:∀b o,b∈as->h.get? b≈o->h'.get? b≈o):gB h' as ks :=
 #[x.1,λj a e=>let ⟨c,t,o,n,b,u,d,f,g⟩:=x.2 j a e;⟨c,t,o,n,b,u,d,k a o (k8 e) f,g⟩]
def gB.tail(x:gB h (a::as) (k::ks)):gB h as ks :=
 #[by have:=x.1;simpa using this,λj b e=>by
  have(d,t,o,n,c,u,g,f):=x.2 (j+1) b (by simpa using e);show#[d,t,o,n,c,u,by assumption,f]]
theorem gB.iZ:∀{as}{ks},gB h as ks->∃c,KatTups h (as.map gs) c/\⇑c=⇑as/\∀v∈c,∃x t,v=ti x t
 |[],_,_=>#[[],ω,rfl,by simp]
 |a::as,[],x=>by have:=x.1;simp_all
 |a::as,k::ks,x=>by
  have(c,d,e,f):=gB.iZ x.tail;have(g,t,o,n,b,u,m,i,j,l):=x.2 0 a rfl;show#[.str g t::c,Υ i j l rfl d,by simp[e],λv hv=>?_];rcases f6.mp hv with rfl|hv
  .show#[_,_,rfl]
  .show f v hv
def Hy(x:gB s.heap as ks)(f:ks.Nodup)(hi:i<⇑as)(J:j<⇑as)(q:C (NP ks i j) s):
  Ċ prog w A (tuples' cb) (as.map gs) i j C s:=by
 have(p,t,o,n,b,u,g,c,_,k):=x.2 i as[i] ⋯;have(d,t',o',L,l,u',m,e,_,r):=x.2 j as[j] ⋯;have v:(as.map gs).getD i qP=.ref as[i]:=⋯
 have y:(as.map gs).getD j qP=.ref as[j]:=⋯
 have z:ks.getD i rr=p:=⋯
 have B:ks.getD j rr=d:=⋯
 unfold Ċ;rw[v,y];show kat_lt (b:=cb) c k e r ?_;unfold NP at q;rw[z,B]at q;show Τ (Ē ?_);by_cases h:p=d
 .have D:i=j:=by
   have(N,G):=eH.mp g;have(O,H):=eH.mp m;show(ô f).mp (by rw[G,H,h])
  subst D;rw[c]at e;have a:b=l/\u=u':=by
   simp_all
  have(a,I):=a;subst a I;subst h;rw[decide_eq_true rfl];show kat_yes (Τ (ē ?_));rw[show(b==b)=cb by simp];have:dV ((p.cps.toList)<(p.cps.toList))=cK:=decide_eq_false (ώ _);rw[this]at q;show q
 .rw[decide_eq_false h];show kat_no (oneLt_str q)
def Hz(x:gB s.heap as ks)(b:ks.Nodup)(g:2<=⇑as):
  fx (gj prog w) A (keyKind' (as.map gs).toArray) (λκ c=>c=s/\∀i j,i<⇑(as.map gs)->j<⇑(as.map gs)->∀C,C (NP ks i j) s->Ċ prog w A κ (as.map gs) i j C s) (λ_ _=>False) s:=by
 have(h,d,k,e):=x.iZ;show kat_kind (T:=.type "str") d ⋯ (λv f=>?_) rfl ⟨rfl,λi j hi a C q=>?_⟩
 .have(y,t,rfl):=e v f;show ψ rfl
 .rw[df]at hi a;show Hy x b hi a q
def vg{as:↑k7}(I:Inv X d σ H s)(e:Mz X.K H L (as.map V.ref))(hl:⇑as=⇑ks)
  (O:∀(j:Nat) a k,as[j]?≈a->ks[j]?≈k->∃b,MA X.K H a [.str k,.int b]) (T:ks.Nodup) (Ol:⇑as<64)
  (q:∀L',H L'=b6->Q (.ref L') (upd H L' (.lst ((dz ks).map λi=>V.ref (as.getD i 0))))) :
  (fx (gj X.prog X.w) X.A) (TN (.builtin "sorted") [.ref L]) (EP X d σ Q) X.xe s:=by
 have Y:64<=dt:=⋯
 have(its,rv,pl,hz):=I.list e;have RT:its=as.map gs:=by
  have:∀(as:↑k7) its,Vals (as.map V.ref) its->its=as.map gs:=λas=>by
   induction as with
   |nil=>intro its h;cases h;rfl
   |cons a as v =>
    intro its h;cases h with
    |cons r t=>rw[v _ t];cases r;rfl
  show this as its rv
 subst RT;have D:gB s.heap as ks:=#[hl,λj a p=>by
  have c:j<⇑ks:=by rw[<-hl];show(eH.mp p).1
  have(b,x):=O j a ks[j] p (by simp[c]);have(us,r,(o,h1,G,n,h3),_):=I.tuple x;cases r with
  |cons r1 y =>
   cases y with
   |cons y r3 =>
    cases r3;have(t,rfl):=r1;have(u,rfl):=y;show#[_,t,o,n,b,u,by simp[c],h1,G,h3]]
 show X5 π ů ű (Ų _) ?_;unfold Ti.«sorted»;show b5 (m:=ϙ "sorted" 1 1 _) (cL ?_);show b5 (collect_list pl.isList ?_ ⋯);generalize J:(s.heap.push (M7 "list" #v[] 0)).update ↥s (uv (·++(as.map gs).toArray))=g;have k1:∀b o,s.heap.get? b≈o->g.get? b≈o:=λb o z=>by subst J;show iG z
 have hsz:↥s<=g.objs.size:=by subst J;simp
 have Vo:∀a∈as,a<g.objs.size:=λa ha=>by
  have(j,c,p):=Qj.mp ha;have(_,_,o,_,_,_,_,z,_):=D.2 j a (by simp[c,p]);show lg (fz z) hsz
 show b5 (î ?_ (by rw[df];lia));have B:(g.push (M7 "list" (as.map gs).toArray 0)).get? g.objs.size≈M7 "list" (as.map gs).toArray 0:=eW _ rfl;change fx _ _ _ _ _ {s with heap:=g.push (M7 "list" (as.map gs).toArray 0)};show b5 (qI (wh ľ #[_,B,rfl] ī (pJ (lt:=NP ks) B ⋯ (λG s1 kp=>?_) ⟨_,rfl,?_⟩) (Ŀ _)))
 .show Hz (D.keeps λb o x z=>kp b o (gm (Vo b x)) (cc _ (k1 b o z))) T ⋯
 .have(ee,he):=Ŕ (out:=((bj (NP ks) (RC ⇑(as.map gs))).toList.map λi=>(as.map gs).getD i qP).toArray) B;have f:∀b o,g.get? b≈o->(Ľ (g.push (M7 "list" (as.map gs).toArray 0)) g.objs.size (as.map gs) ((bj (NP ks) (RC ⇑(as.map gs))).toList.map λi=>(as.map gs).getD i qP).toArray).get? b≈o:=λb o z=>by
   have N:b<g.objs.size:=fz z;rw[ļ (gm N) (by rw[S0];show QA N)];show cc _ z
  have eP:((bj (NP ks) (RC ⇑(as.map gs))).toList)=dz ks:=by
   unfold dz;rw[df,hl]
  have C:∀i∈dz ks,i<⇑as:=λi hi=>by
   have:=tj.mp ((bS _).mem_iff.mp hi);lia
  show cL #[_,rfl,.ref g.objs.size,_,I.laid (t':=s.toks) (o:=.lst ((dz ks).map λi=>V.ref (as.getD i 0))) (λb u z=>f b u (k1 b u z)) hsz ⟨?_,(dz ks).map λi=>(as.map gs).getD i qP,ee,?_,by rw[<-eP];show he⟩,rfl,q _ (I.L7.fresh hsz)]
  .rw[df,(bS _).length_eq,Qz];lia
  .generalize dz ks=l at C;induction l with
   |nil=>show .nil
   |cons i l v =>
    show .cons ?_ (v λj c=>C j (by simp[c]));have hi:=C i ⋯;change RelV (.ref (as.getD i 0)) ((as.map gs).getD i qP);have:(as.map gs).getD i qP=.ref (as.getD i 0):=by simp[Ry,hi]
    rw[this];rfl
def ra:Z9 (.type "list") "keys"=pure b6:=am_miss_of_fast (by rfl)
theorem rb(hx:s.heap.get? a=bD {cls:=.type "list",dict:=b6,data:=.seq xs k,slots:=sl})(hA:A.handled=b6)
    (h:∀h' tk,(∀b ob,s.heap.get? b=bD ob->h'.get? b=bD ob)->Q b6 {s with heap:=h',toks:=tk}):fx (gj prog w) A (getAttr? (.ref a) "keys") Q E s:=by
  obtain⟨hp,g,d,tk,os⟩:=s;have hT:∀U',(⟨hp,g,d,U',os⟩:k9).TypeIs (.ref a) "list":=λ_=>⟨_,hx,rfl⟩
  have f1:=sub_AttributeError;have f3:=PySem.F.slot_list_getattribute.lookup;have f4:=PySem.F.slot_list_getattribute.bind (.ref a);have f5:=am_list_getattr_none;have big:1000<=dt:=by decide
  have hk : (("keys" : Str)).length + 100 ≤ sizeLine := by have : ("keys" : Str).length = 4 := by decide
                                                           lia
  unfold getAttr? getAttrBy? getAttrBy
  repeat (any_goals (first|assumption|exact hT _|((with_reducible show fx _ _ (TN (ϊ "list.__getattribute__") _ _) _ _ _);refine SV PySem.F.slot_list_getattribute (hT _) am_entry_list_getattribute (PySem.F.args_list_getattribute_2 _ _) (meets_getattribute_miss_list a xs k sl "keys" _ ra (by decide) hk) ⟨hx,hA,λh' U' e Q1=>?_⟩)|wp_step))
  obtain⟨t',u',he⟩:=Q1.there;show fx _ _ (Ϙ _ _ _ _ _ _ _) _ _ _;unfold Ϙ
  repeat (any_goals (first|assumption|wp_step))
  exact h _ _ Q1.keeps
def gK:ĺ table "dict.update.loop"≈Ti.«dict.update.loop»:=Ϻ (by rfl)
def c_:plainId "dict.update.loop"=cb:=by decide +kernel
abbrev Eg(prog:vl)(w:OE)(d I:k7)(its:Array hY)(ps:↑(Key×hY))(h:Qy):Prop:=∀(j:Nat) p,ps[j]?≈p->∃a o e b,its[j]?≈.ref a/\a≠d/\a≠I/\h.get? a≈o/\o.cls=.type "tuple"/\o.data=.seq #v[b,p.2] e/\(aH prog w).is p.1 b=cb
def Eg.keep(x:Eg prog w d I its ps h)(k:∀b o,b≠d->b≠I->h.get? b≈o->h'.get? b≈o):Eg prog w d I its ps h':=λj p e=>by
 have(a,o,n,c,i,f,g,l,m):=x j p e;show#[a,o,n,c,i,f,g,k a o f g l,m]
def A5(hh:A.handled=b6)(N:ax≠I)(x:d≠I)(WI:ax≠d)(hz:⇑ps<=dt)(hl:its.size=⇑ps):
  ∀k i (s:k9) c,⇑ps - i=k->i<=⇑ps->s.heap.IsListIter I ax i->s.heap.IsList ax its->⇑c<=i->Eg prog w d I its ps s.heap->s.heap.DictOf (aH prog w) d c->(c.map (·.1)++(ps.drop i).map (·.1)).Nodup ->
  (∀h' q,h'.DictOf (aH prog w) d (c++ps.drop i)->(∀b o,b≠d->b≠I->s.heap.get? b≈o->h'.get? b≈o)->R (.ok (.ret y)) {s with heap:=h',toks:=q}) ->
  WL (gj prog w) A (.builtin "dict.update.loop" ⟨[.ref d,.ref I,Mt i,y],[]⟩) R s:=by
 intro k;induction k with
 |zero =>
  intro i s c hk hi g B C O D j l;have M4:i=its.size:=⋯
  subst M4;show Pr gK ?_;rw[R_ c_ _];change fx _ A.in1 (Vk (.ref I) >>= _) _ _ s;show b5 ((ĉ (A:=A.in1) hh I ax N its).done s _ _ #[g,B] λh' q G=>?_);have e0:ps.drop its.size=[]:=ĵ ⋯;rw[e0,Ot]at l;have h:∀b o,b≠I->s.heap.get? b≈o->h'.get? b≈o:=λb o f e=>G b o (by simpa using f) e;show b5 (cL (cL (l h' q ?_ λb o _ f e=>h b o f e)));have(o,es,ep,ho,r):=D;show#[o,es,ep,h d o x ho,r]
 |succ k ih =>
  intro i s c hk hi g B C O D j l;have t:i<⇑ps:=⋯
  obtain⟨p,Q⟩:∃p,ps[i]?≈p:=#[ps[i],by simp[t]]
  show Pr gK ?_;rw[R_ c_ _];change fx _ A.in1 (Vk (.ref I) >>= _) _ _ s;show b5 ((ĉ (A:=A.in1) hh I ax N its).item i s _ _ ⋯ #[g,B] λv h' q hP Y G=>?_);have h:∀b o,b≠I->s.heap.get? b≈o->h'.get? b≈o:=λb o f e=>G b o (by simpa using f) e;have MP:h'.DictOf (aH prog w) d c:=by
   have(o,es,ep,ho,r):=D;show#[o,es,ep,h d o x ho,r]
  have Uc:=O.keep (h':=h') λb o _ f e=>h b o f e;have(a,o,e,m,e1,e2,e3,e4,e5,e6,e7):=Uc i p Q;have SH:its[i]?≈v:=hP;rw[e1]at SH;cases SH;show b5 (qI (b5 (wpAny_tryCatch ?_)));unfold aan;show b5 (UX (T:="tuple") #[o,e4,e5] ?_);rw[if_pos ⋯];show b5 (w6 e4 e6 (cL ?_));change fx _ _ (Sm [m,p.2] (dictSet d m p.2)) _ _ _;have H:ps.drop i=p::ps.drop (i+1):=by
   rw[UO t];have:ps[i]=p:=by simpa[t] using Q
   rw[this]
  have Pc:p.1∉c.map (·.1):=λz=>by
   rw[H,gr,pb]at j;show j.2.2 _ z _ ⋯ rfl
  have Ud:stored c p.1 p.2=c++[p]:=by
   unfold stored;simp_all
  show qI (wpAny_dictSet_pairs (hsz:=by lia) e7 MP λJ n MZ=>?_);rw[Ud]at n;have u:∀b o,b≠d->h'.get? b≈o->J.get? b≈o:=λb o f e=>(MZ.2 b f).trans e;have Pd:J.IsListIter I ax (i+1):=by
   have(z,_):=Y;show z.at λo e=>u _ o (ve x) e
  have Xn:J.IsList ax its:=by
   have(_,z):=Y;show z.at λo e=>u _ o WI e
  rw[H,gr]at j;rw[H]at l;show cL #[Vl c_ _,ih (i+1) _ (c++[p]) ⋯ t Pd Xn ⋯ (Uc.keep λb o f _ e=>u b o f e) n (by simpa using j) λh3 L RU k3=>l h3 L (by simpa using RU) λb o f Nj e=>k3 b o f Nj (u b o f (h b o Nj e))]
theorem A6{h:Qy}:∀{as:↑k7}{ps:↑(Str×V)},⇑as=⇑ps->(∀(j:Nat) a p,as[j]?≈a->ps[j]?≈p->∃o n t v,h.get? a≈o/\o.cls=.type "tuple"/\o.data=.seq #v[.str p.1 t,v] n/\RelV p.2 v) ->
  ∃vs,⇑vs=⇑ps/\vs.map (·.1)=ps.map (λp=>(mA p.1:Key))/\KV (ps.map λp=>((mA p.1:Key),p.2)) vs/\∀(j:Nat) q,vs[j]?≈q->∃a p o n t,as[j]?≈a/\ps[j]?≈p/\q.1=mA p.1/\h.get? a≈o/\o.cls=.type "tuple"/\o.data=.seq #v[.str p.1 t,q.2] n
 |[],[],_,_=>#[[],rfl,rfl,.nil,by simp]
 |[],_::_,h,_=>by simp at h
 |_::_,[],h,_=>by simp at h
 |a::as,p::ps,hl,c=>by
  have(vs,g,i,k,l):=A6 (as:=as) (ps:=ps) (by simpa using hl) λj b q d e=>c (j+1) b q (by assumption) (by assumption);have(o,n,t,v,d,e,m,r):=c 0 a p rfl rfl;show#[(mA p.1,v)::vs,by simp[g],by simp[i],.cons #[rfl,r] k,λj q f=>?_];cases j with
  |zero =>
   simp at f;subst f;show#[a,p,o,n,t,rfl,rfl,rfl,d,e,m]
  |succ j =>
   have(a',s,o',u,t',w,x,z):=l j q (by assumption);show#[a',s,o',u,t',by assumption,by assumption,z]
def Eh{as:↑k7}{ps:↑(Str×V)}(hc:X.calm=cb)(I:Inv X c σ H s)(e:Mz X.K H L (as.map V.ref))(hl:⇑as=⇑ps)(ht:∀(j:Nat) a p,as[j]?≈a->ps[j]?≈p->MA X.K H a [.str p.1,p.2])(L_:(ps.map (·.1)).Nodup)
  (q:∀d,H d=b6->Q (.ref d) (upd H d (.dK (ps.map λp=>((mA p.1:Key),p.2))))) :
  (fx (gj X.prog X.w) X.A) (TN (.type "dict") [.ref L]) (EP X c σ Q) X.xe s:=by
 have(its,rv,pl,hz):=I.list e;rw[df]at hz;have Nw:⇑its=⇑ps:=by rw[<-⇑rv,df,hl]
 have RT:its=as.map gs:=by
  have:∀(as:↑k7) its,Vals (as.map V.ref) its->its=as.map gs:=λas=>by
   induction as with
   |nil=>intro its h;cases h;rfl
   |cons a as ih =>
    intro its h;cases h with
    |cons r t=>rw[ih _ t];cases r;rfl
  show this as its rv
 subst RT;have(o,n,ho,C,D,G):=pl;have(oc,od,ab,SE):=o;simp only at C D G;subst C D G;have(vs,v1,v2,v3,v4):=A6 (h:=s.heap) hl λj a p e1 e2=>by
  have(us,r,(o,i,h2,n,h3),_):=I.tuple (ht j a p e1 e2);cases r with
  |cons r1 y =>
   cases y with
   |cons y r3 =>
    cases r3;have(t,rfl):=r1;show#[o,n,t,_,i,h2,h3,y]
 have J:X.A.handled=b6:=I.ok.hd hc;have N:L<↥s:=fz ho;show callType_codes (Q₁:=λobj O=>obj=.ref ↥s/\O={s with heap:=s.heap.push {cls:=.type "dict",data:=.dict #v[]}}) F.kt_called_dict (F.kt_typeCall_dict_1 _) F.entry_dict_init (kt_code_dict_new _ #[rfl,rfl]) ?_;rintro obj O ⟨rfl,rfl⟩;have B:(s.heap.push {cls:=.type "dict",data:=.dict #v[]}).DictOf (aH X.prog X.w) ↥s []:=ĳ s.heap;have k:∀b u,s.heap.get? b≈u->(s.heap.push {cls:=.type "dict",data:=.dict #v[]}).get? b≈u:=λb u z=>cc _ z;show#[B.typeIs,F.args_dict_init_2 _ _,?_];unfold Ti.«dict.__init__»;show b5 ?_;unfold aam;show b5 (wpAny_notOrdered_dict B.typeIs ?_);change fx _ _ (pure (↥s,[gs L])) _ _ _;show cL ?_;change fx _ _ (é "dict.__init__" ↥s (.ref L) [] .none) _ _ _;unfold é;show b5 (UX (T:="list") #[_,k _ _ ho,rfl] ?_);rw[if_pos ⋯];show b5 (rb (k _ _ ho) J λi ac k1=>?_);have Y:=k1 _ _ (k _ _ ho);have T9:i.DictOf (aH X.prog X.w) ↥s []:=by
  have(o,es,ep,ho,r):=B;show#[o,es,ep,k1 _ _ ho,r]
 have v:↥s<i.objs.size:=by
  have(o,es,ep,ho,r):=T9;show fz ho
 show b5 (Qt (b5 (Wv #[_,Y,rfl,n,rfl] ?_)));show cL #[Vl c_ _,A5 (A:=X.A.in1) (ax:=L) (I:=i.objs.size) (d:=↥s) (its:=(as.map gs).toArray) (ps:=vs) J (gm (Wa N v)) (gm v) (gm N) ⋯ ⋯ ⇑vs 0 _ [] ⋯ (lx _) #[_,eW _ rfl,rfl,rfl] #[_,cc _ Y,rfl,n,rfl] (gi _) (λj q hq=>?_) (T9.push _) (by rw[Tr,oa,đ,v2];show(fR (f:=λp:Str×V=>p.1) (g:=λx=>mA x)▸(aaj _ (λa b NY z=>NY (by injection z)) L_))) λh' tk MP kp=>?_]
 .have(a,p,o,m,t,z1,z2,z3,z4,z5,z6):=v4 j q hq;have l:=fz z4;show#[a,o,m,.str p.1 t,by simp[z1],gm l,gm (Wa l v),cc _ (k1 _ _ (k _ _ z4)),z5,z6,?_];rw[z3];change Rm p.1 (.str p.1 t)=cb;simp[Rm]
 .show#[rfl,.ref ↥s,upd H ↥s (.dK (ps.map λp=>(mA p.1,p.2))),I.laid (a:=↥s) (λb u z=>?_) (gi _) ⟨by grind,?_,vs,v3,?_⟩,rfl,q _ (I.L7.fresh (gi _))]
  .have l:=fz z;show kp b u (gm l) (gm (Wa l v)) (cc _ (k1 _ _ (k _ _ z)))
  .show beq_eq_false_iff_ne.mpr (va I.big)
  assumption
def Inv.freeze(I:Inv X a σ H s)(c:H r≈.dK kvs)(ho:s.heap.get? r≈o):Inv X a σ (upd H r (.MN o (.dK kvs))) s:=by
 have d:∀b u,H b≈u->u≠.dK kvs->b≠r:=λb u e n z=>by simp_all
 show I.write    (by rw[c];trivial) (.inl rfl) (λb u _ q=>q) ⟨o,ho⟩ ⟨ho,(I.L7 r _ c).iN (λ_ _ _ q=>q) (λb q=>by rw[aj (d b _ q (λz=>by cases z))];show q) λb xs q=>by rw[aj (d b _ q (λz=>by cases z))];show q⟩
def HA(h:PE X e c):PE X e (λσ H Q=>∃r kvs,H r≈.dK kvs/\∀o,c σ (upd H r (.MN o (.dK kvs))) Q):=by
 intro a s σ H Q I ⟨r,kvs,b,d⟩;have(_,_,vs,_,o,es,ep,ho,_):=(I.L7 r _ b)
 show h a s σ _ Q (I.freeze b ho) (d o)
abbrev Ue(r:k7)(o:Obj)(kvs:↑(Key×V)):It :=
 #[λi H=>H r≈.MN o (.dK kvs)/\i<⇑kvs,λi H x H'=>∃p,H p=b6/\x=.ref p/\∀k v,kvs[i]?≈(k,v)->H'=upd H p (.tup [kV k,v]),λi H=>H r≈.MN o (.dK kvs)/\⇑kvs<=i]
def A7(h:(aH P w).is k u=cb):RelV (kV k) u:=by
 rcases bE (h) with⟨i,t,rfl,rfl⟩|⟨y,t,rfl,rfl⟩
 .show#[t,rfl]
 .show#[t,rfl]
theorem A8:∀{kvs:↑(Key×V)}{vs},KV kvs vs->∀i h (h':i<⇑vs),kvs[i].1=vs[i].1/\RelV kvs[i].2 vs[i].2
 |_,_,.cons a _,0,_,_=>a
 |_,_,.cons _ b,i+1,h,h'=>A8 b i ⋯ ⋯
def nq{K}(j:o.data=.dict G ep):
  Turn P w K (.Tuple es kx ps) (Ue r o kvs) [it] it (λi h=>∃ok d,IsItemIter h it r i ⇑kvs ep ok d) where
 mem:=⋯
 obj:=λi h ⟨ok,d,st⟩ b a=>by
  rw[nc.mp a];show#[_,st,λv z=>by
    have z':Ň _=Data.cell v:=z;cases z']
 keep:=λi h h' ⟨ok,d,st⟩ k=>#[ok,d,k it ⋯ _ st]
 item:=by
  intro X p t hK J i c s σ H E I l ⟨ok,d,st⟩ u;subst p t;have(x,hi):=u;have(ho,z1,z2,vs,kv,o',Xo,O0,e,y,f,B):=(show bN X.prog X.w H s.heap r (.MN o (.dK kvs)) from I.L7 r _ x)
  rw[ho]at e;cases e;rw[j]at f;cases f;have hl:⇑vs=⇑kvs:=(Paired.length kv).symm;have C:s.heap.DictAt (aH X.prog X.w) r vs ep:=#[o,G,ho,y,j,B]
  obtain⟨q,hq,e1,e2⟩:∃q,vs[i]?≈q/\kvs[i].1=q.1/\RelV kvs[i].2 q.2:=by
   have L:i<⇑vs:=⋯
   show#[vs[i],by simp[L],?_];show A8 kv i hi L
  rw[<-hl]at st;show wpAny_pyNext_items_item st C (k:=q.1) (v:=q.2) hq λg h1 hk D hT hsz Xp=>#[_,rfl,wpAny_letOwnedTupleGo_items (s:={s with heap:=h1}) D λm N O=>?_]
  have T:it<↥s:=fz st;have T6:m.get? ↥s≈{cls:=.type "tuple",data:=.seq #v[g,q.2]}:=(O.2 _ (va T)).trans hT;have k2:∀b o,b∉[it]->s.heap.get? b≈o->m.get? b≈o:=λb o a q=>by
   have n:b≠it:=λz=>a (by simp[z]);show(O.2 b n).trans (Xp b o n q)
  have I2:Inv X c σ (upd H ↥s (.tup [kV kvs[i].1,kvs[i].2])) {s with heap:=m,toks:=s.toks}:=I.iY l k2 (gi _)
   (show bN X.prog X.w _ m _ (.tup [kV kvs[i].1,kvs[i].2]) from#[by change 2<=dt;decide,[g,q.2],.cons (by rw[e1];show A7 hk) (.cons e2 .nil),#[_,T6,rfl,_,rfl]])
  show#[.ref ↥s,_,I2,rfl,#[_,I.L7.fresh (gi _),rfl,λk v Y=>?_],#[_,_,by rw[hl]at N;show N],λb a=>?_]
  .rw[nC hi]at Y;rw[Qb Y]
  .have n:b≠↥s:=by rw[nc.mp a];show gm T
   rw[aj n];show(l b a).1
 done:=by
  intro X p t hK J i c s σ H E I l ⟨ok,d,st⟩ u;subst p t;have(x,hi):=u;have(ho,z1,z2,vs,kv,o',Xo,O0,e,y,f,B):=(show bN X.prog X.w H s.heap r (.MN o (.dK kvs)) from I.L7 r _ x)
  rw[ho]at e;cases e;rw[j]at f;cases f;have hl:⇑vs=⇑kvs:=(Paired.length kv).symm;have C:s.heap.DictAt (aH X.prog X.w) r vs ep:=#[o,G,ho,y,j,B]
  rw[<-hl]at st;show wpAny_pyNext_items_end (by simpa using I.ok.hd J) st C (Wh ⋯) λh' Q1=>#[rfl,I.lV (t':=s.toks) l λb o a q=>Q1 b o (λz=>a (by simp[z])) q]
 self:=λA i s Q E ⟨ok,d,st⟩ h=>kcp_self st h
abbrev LD(i:Nat):TI:=λσ H R=>∃r o kvs,σ[i]?≈bD (.ref r)/\H r≈.MN o (.dK kvs)/\R (Ue r o kvs) H
def A9(t:X.N[i]?≈x)(y:N5 X.env.scope x)(A:(x==("__debug__":Str))=cK)(B:(x==("__classdict__":Str))=cK)(C:(c.endLine==D.line)=cb):
  PI X (.Tuple es kx ps) (.Call (.Attribute (.Name x px) "items" c) [] [] D) (LD i):=by
 intro d s σ H R I ⟨r,o,kvs,hs,G,J⟩;show Wg rfl C (Mb (cR t y A B d s σ H (λv g=>v=.ref r/\g=H) I ⟨_,hs,rfl,rfl⟩) λv s1 L=>?_);have(x1,g,h,O,m,Q):=L;subst m Q;cases(show v=gs r from O);have(ho,m,lo,vs,kv,o',k,ep,n,f,j,l):=(show bN X.prog X.w g s1.heap r (.MN o (.dK kvs)) from h.L7 r _ G)
 rw[ho]at n;cases n;have hl:⇑vs=⇑kvs:=(Paired.length kv).symm;have hm:s1.heap.DictAt (aH X.prog X.w) r vs ep:=#[o,k,ho,f,j,l]
 have p:s1.TypeIs (.ref r) "dict":=#[o,ho,f.1]
 show#["dict","dict.items",F.plainAttrs_dict,F.slot_dict_items,F.type_dict_items,p,λa e=>#[o,by simp_all,f.2.1],MH rfl (PySem.evalArgs_none (Ã F.slot_dict_items p F.entry_dict_items (F.args_dict_items_1 _) (Ė (aH X.prog X.w) r lo) #[#[vs,o,k,ep,ho,f,j,l],?_]))];have k1:∀b u,s1.heap.get? b≈u->(s1.heap.push {cls:=.type "dict_items",data:=.fields #v[.ref r]}).get? b≈u:=λb u z=>cc _ z;have T:(s1.heap.push {cls:=.type "dict_items",data:=.fields #v[.ref r]}).DictAt (aH X.prog X.w) r vs ep:=#[o,k,k1 _ _ ho,f,j,l]
 show ϔ  ⟨_,eW _ rfl,rfl,rfl⟩ T ?_;have Y:=h.kept (t':=s1.toks) (h':=(s1.heap.push {cls:=.type "dict_items",data:=.fields #v[.ref r]}).push {cls:=.type "dict_itemiterator",data:=.fields #v[.none,.bool cK,.ref r,.int 0 0,.int ⇑vs 0,.int ep 0,.none,.none]}) λb u z=>cc _ (k1 b u z);show#[_,[_],_,_,g,rfl,Y,nq (kvs:=kvs) j,#[.none,.none,by rw[<-hl];show eW _ rfl],λb hb=>?_,J];rw[nc.mp hb];have q:↥s1<=(s1.heap.push {cls:=.type "dict_items",data:=.fields #v[.ref r]}).objs.size:=⋯
 show h.qq q (h.L7.fresh q)
abbrev JV(b:TE):TI:=λσ H R=>b σ H λv a=>∃r kvs,v=.ref r/\a r≈.dK kvs/\∀o,R (Ue r o kvs) (upd a r (.MN o (.dK kvs)))
def zc(B:PE X e C)(D:Ug e "items" X.env (K1 e X.env)=K1 e X.env)(G:(c.endLine==J.line)=cb):
  PI X (.Tuple es kx ps) (.Call (.Attribute e "items" c) [] [] J) (JV C):=by
 intro d s σ H R I L;show Wg D G (Mb (B d s σ H _ I L) λv s1 N=>?_);have(x1,n,p,O,r,kvs,q,t,h):=N;subst q;cases(show v=gs r from O);have(_,_,_,_,o,_,_,Q,_):=(show bN X.prog X.w n s1.heap r (.dK kvs) from p.L7 r _ t)
 have f:=p.freeze t Q;have h:=h o;generalize j:upd n r (.MN o (.dK kvs))=k at f h;have T:k r≈.MN o (.dK kvs):=by rw[<-j];show av
 have(ho,q,lo,vs,kv,o',l,ep,x,g,i,m):=(show bN X.prog X.w k s1.heap r (.MN o (.dK kvs)) from f.L7 r _ T)
 rw[ho]at x;cases x;have hl:⇑vs=⇑kvs:=(Paired.length kv).symm;have hm:s1.heap.DictAt (aH X.prog X.w) r vs ep:=#[o,l,ho,g,i,m]
 have y:s1.TypeIs (.ref r) "dict":=#[o,ho,g.1]
 show#["dict","dict.items",F.plainAttrs_dict,F.slot_dict_items,F.type_dict_items,y,λa e=>#[o,by simp_all,g.2.1],MH rfl (PySem.evalArgs_none (Ã F.slot_dict_items y F.entry_dict_items (F.args_dict_items_1 _) (Ė (aH X.prog X.w) r lo) #[#[vs,o,l,ep,ho,g,i,m],?_]))];have k1:∀b u,s1.heap.get? b≈u->(s1.heap.push {cls:=.type "dict_items",data:=.fields #v[.ref r]}).get? b≈u:=λb u z=>cc _ z;have Y:(s1.heap.push {cls:=.type "dict_items",data:=.fields #v[.ref r]}).DictAt (aH X.prog X.w) r vs ep:=#[o,l,k1 _ _ ho,g,i,m]
 show ϔ  ⟨_,eW _ rfl,rfl,rfl⟩ Y ?_;have I2:=f.kept (t':=s1.toks) (h':=(s1.heap.push {cls:=.type "dict_items",data:=.fields #v[.ref r]}).push {cls:=.type "dict_itemiterator",data:=.fields #v[.none,.bool cK,.ref r,.int 0 0,.int ⇑vs 0,.int ep 0,.none,.none]}) λb u z=>cc _ (k1 b u z);show#[_,[_],_,_,k,rfl,I2,nq (kvs:=kvs) i,#[.none,.none,by rw[<-hl];show eW _ rfl],λb hb=>?_,h];rw[nc.mp hb];have A:↥s1<=(s1.heap.push {cls:=.type "dict_items",data:=.fields #v[.ref r]}).objs.size:=⋯
 show f.qq A (f.L7.fresh A)
abbrev LF(b:TE):TE:=λσ H Q=>b σ H λv a=>∃r kvs,v=.ref r/\a r≈.dK kvs/\∀o,Q v (upd a r (.MN o (.dK kvs)))
def HB(d:PE X e f):PE X e (LF f):=by
 intro a s σ H Q I g;show Mb (d a s σ H _ I g) λv s1 h=>?_;have(l,m,b,i,r,kvs,n,c,j):=h;have(_,_,_,_,o,_,_,k,_):=(b.L7 r _ c)
 show#[_,_,b.freeze c k,i,j o]
abbrev Xu(r:k7)(o:Obj)(kvs:↑(Key×V)):It :=
 #[λi H=>H r≈.MN o (.dK kvs)/\i<⇑kvs,λi H x H'=>H'=H/\∀k v,kvs[i]?≈(k,v)->x=kV k,λi H=>H r≈.MN o (.dK kvs)/\⇑kvs<=i]
def zd{K}(l:o.data=.dict L ep):
  Turn P w K tg (Xu r o kvs) [it] it (λi h=>h.IsKeyIter it r i ⇑kvs ep) where
 mem:=⋯
 obj:=λi h st b a=>by
  have(o,e,c,d):=st;simp_all
 keep:=λi h h' st k=>st.at λo e=>k it ⋯ o e
 item:=by
  intro X n p O N i f s σ H E I m st t;subst n p;have(u,hi):=t;have(ho,Q,T,vs,kv,o',Y,O0,g,x,j,y):=(I.L7 r _ u)
  rw[ho]at g;cases g;rw[l]at j;cases j;have hl:⇑vs=⇑kvs:=(Paired.length kv).symm;have z:s.heap.DictAt (aH X.prog X.w) r vs ep:=#[o,L,ho,x,l,y]
  obtain⟨q,hq,e1⟩:∃q,vs[i]?≈q/\kvs[i].1=q.1:=by
   have MX:i<⇑vs:=⋯
   show#[vs[i],by simp,(A8 kv i hi MX).1]
  have(A,B,f2,C,D,G):=m it ⋯;rw[<-hl]at st;show wpAny_pyNext_dict_item st z (k:=q.1) (v:=q.2) hq λJ h' hk st' sb=>?_;have I1:=I.turned (t':=s.toks) (λb o a e=>(sb.2 b a).trans e) A B C D G;have(o2,e,c,d):=id st';show#[J,rfl,sC (s:={s with heap:=h' }) e c d ⋯ ⟨kV q.1,H,I1,A7 hk,⟨rfl,λk v RV=>?_⟩,by simp_all,λb a=>(m b a).1⟩];simp_all
 done:=by
  intro X n p O N i f s σ H E I m st t;subst n p;have(u,hi):=t;have(ho,Q,T,vs,kv,o',Y,O0,g,x,j,y):=(I.L7 r _ u)
  rw[ho]at g;cases g;rw[l]at j;cases j;have hl:⇑vs=⇑kvs:=(Paired.length kv).symm;have z:s.heap.DictAt (aH X.prog X.w) r vs ep:=#[o,L,ho,x,l,y]
  have(A,B,f2,C,D,G):=m it ⋯;rw[<-hl]at st;show wpAny_pyNext_dict_end (I.ok.hd N) st z (Wh ⋯) λh' eb=>#[rfl,I.turned (t':=s.toks) (λb o a e=>eb b o a e) A B C D G]
 self:=λ_ _ _ _ _ st h=>wpAny_pyIter_keyiter st h
abbrev JW(b:TE):TI:=λσ H R=>b σ H λv a=>∃r o kvs,v=.ref r/\a r≈.MN o (.dK kvs)/\R (Xu r o kvs) a
def Ei(i:PE X e j):PI X z e (JW j):=by
 intro a s σ H R I h;show Mb (i a s σ H _ I h) λv s1 k=>?_;have(x,l,c,m,r,o,kvs,d,n,p):=k;subst d;cases(m);have(ho,d,lo,vs,kv,o',q,ep,f,t,g,u):=(c.L7 r _ n)
 rw[ho]at f;cases f;have hl:=(Paired.length kv).symm;have w:s1.heap.DictAt _ r vs ep:=#[o,q,ho,t,g,u]
 show wpAny_pyIter_dict lo w ?_;show#[_,_,_,_,l,rfl,c.kept  λb o e=>cc _ e,zd  g,#[_,eW _ rfl,rfl,by rw[hl];rfl],λb y=>?_,p];have e:=by simpa using y
 subst e;show c.qq (gi _) (c.L7.fresh (gi _))
end L2
namespace Tb
open PySem PySem.SetTable
theorem nu(hs:xs.toList.Pairwise (· < ·)):∀f lo hi,lo<=hi->hi<=xs.size->hi - lo<=f->(∀i v,i<lo->xs[i]?≈v->v<j)->(∀i v,hi<=i->xs[i]?≈v->j<=v) ->
  Í xs j f lo hi<=xs.size/\(∀i v,i<Í xs j f lo hi->xs[i]?≈v->v<j)/\∀i v,Í xs j f lo hi<=i->xs[i]?≈v->j<=v
 |0,lo,hi,o,g,p,k,l=>by
  have:lo=hi:=⋯
  subst this;show#[g,k,l]
 |f+1,lo,hi,o,g,p,k,l=>by
  rw[Í];by_cases h:lo<hi
  .rw[if_pos h]
   dsimp only
   have q:(lo+hi) / 2<xs.size:=⋯
   have m:xs[(lo+hi) / 2]?≈xs[(lo+hi) / 2]:=RX q;have e:xs.getD ((lo+hi) / 2) j=xs[(lo+hi) / 2]:=by rw[Xv,m];rfl
   have c:∀a b u v,a<b->xs[a]?≈u->xs[b]?≈v->u<v:=λa b u v r s t=>by
    have(w,x):=ro.mp s;have(b1,y):=ro.mp t;have:=R'.mp hs a b (by simpa using w) (by simpa using b1) r;simpa[x,y] using this
   by_cases n:xs.getD ((lo+hi) / 2) j<j
   .rw[if_pos n];show nu hs f _ hi ⋯ g ⋯ (λi v z d=>?_) l;by_cases hh:i=(lo+hi) / 2
    .simp_all
    .have:=c i _ v _ ⋯ d m;lia
   .rw[if_neg n];show nu hs f lo _ ⋯ ⋯ ⋯ k λi v z d=>?_;by_cases hh:i=(lo+hi) / 2
    .subst hh;rw[m]at d;cases d;lia
    .have:=c _ i _ v ⋯ m d;lia
  .rw[if_neg h];have:lo=hi:=⋯
   subst this;show#[g,k,l]
def i_(hs:xs.toList.Pairwise (· < ·)):qs xs j<=xs.size/\(∀i v,i<qs xs j->xs[i]?≈v->v<j)/\∀i v,qs xs j<=i->xs[i]?≈v->j<=v:=by
 show nu hs _ 0 _ ⋯ (gi _) ⋯ (λi v h=>by lia) λi v h a=>?_;simp_all
def below_at(hs:xs.toList.Pairwise (· < ·))(h:xs[i]?≈j):qs xs j=i:=by
 have(f,b,c):=i_ (j:=j) hs;rcases ë (qs xs j) i with hl|hl|hl
 .have(d,e):=ro.mp h;have a:qs xs j<xs.size:=⋯
  have g:=c _ _ (gi _) (RX a);have:=R'.mp hs (qs xs j) i (by simpa using a) (by simpa using d) hl;simp[e]at this;lia
 .show hl
 .have:=b i j hl h;lia
section
variable{t:VC}
def pM(hs:t.place.toList.Pairwise (· < ·))(h:t.place[i]?≈j):t.slot j=.live i:=by
 unfold slot
 dsimp only
 rw[below_at hs h,h];simp
def nv(c:t.dummies=#v[])(h:j∉t.place.toList):t.slot j=.empty:=by
 unfold slot;rw[if_neg,c]
 .rfl
 .intro z;have z:=eq_of_beq z;show h (by have(a,b):=ro.mp z;rw[<-b];simp)
def Ej(h:t.slot j=.live i):t.place[i]?≈j:=by
 unfold slot at h
 grind
def Ek(hs:t.place.toList.Pairwise (· < ·))(a:t.dummies=#v[])(j):(j∈t.place.toList/\∃i,t.slot j=.live i)\/(j∉t.place.toList/\t.slot j=.empty):=by
 by_cases h:j∈t.place.toList
 .have(i,hi,e):=Qj.mp h;show .inl #[h,i,pM hs (ro.mpr #[by simpa using hi,by simpa using e])]
 .show .inr #[h,nv a h]
end
section
variable{t:VC}{hashAt:Nat->Int}{h:Int}
abbrev Pl(t:VC)(f:Nat)(p:Probe):↑Nat:=(fS (p.more+1)).map (p.j+·)++d4 t.mask f (Ϝ t.mask p.i p.perturb).1 (Ϝ t.mask p.i p.perturb).2
def A_(f):Pl t f (t.probeStart h)=d4 t.mask (f+1) (Xq h % (t.mask+1)) (Xq h):=by
 unfold Pl probeStart
 dsimp only
 rw[d4,run];congr 3
 unfold Ŧ
 grind
def El:Pl t (t.mask+14) (t.probeStart h)=path t.mask h:=A_ _
def xc(e:Pl t f p=p.j::l)(hl:l≠[]):∃f',l=Pl t f' (t.advance p):=by
 unfold Pl at e;unfold advance;by_cases a:p.more>0
 .rw[if_pos a];show#[f,?_];unfold Pl
  dsimp only
  rw[Y_,gr,ö]at e;injection e with _ e
  rw[<-e,show p.more - 1+1=p.more by lia,fR];congr 1
  show tA λk _=>?_
  grind
 .rw[if_neg a];have b:p.more=0:=⋯
  rw[b]at e;cases f with
  |zero=>injection e with _ e;show absurd e.symm hl
  |succ f =>
   show#[f,?_];injection e with _ e
   have e:d4 t.mask (f+1) (Ϝ t.mask p.i p.perturb).1 (Ϝ t.mask p.i p.perturb).2=l:=e;rw[<-e,d4];unfold Pl run
   dsimp only
   congr 3
   unfold Ŧ;split<;>lia
def Em(f)(p:Probe):∃l,Pl t f p=p.j::l:=by
 unfold Pl;rw[Y_];show#[_,rfl]
def kg(p:Probe):(t.advance p).dummy=p.dummy:=by
 unfold advance;split<;>rfl
theorem xf:∀l fuel f p,Pl t f p=l->⇑l<=fuel->p.dummy=b6->(∃j∈l,t.slot j=.empty)->(∀j∈l,t.slot j≠.dummy) ->
  ∃c j a,l=c++j::a/\(∀m∈c,∃i,t.slot m=.live i/\hashAt i≠h) /\
   ((t.slot j=.empty/\YG t hashAt h fuel p≈.empty j b6)\/∃i f' next,t.slot j=.live i/\hashAt i=h/\YG t hashAt h fuel p≈.candidate j i next/\next.dummy=b6/\(a≠[]->Pl t f' next=a))
 |[],_,_,_,_,_,_,⟨_,s,_⟩,_=>by cases s
 |j::l,0,_,_,_,g,_,_,_=>by simp at g
 |j::l,fuel+1,f,p,e,g,d,⟨j0,u,k⟩,q=>by
  have(C,r):=Em (t:=t) f p;rw[e]at r;injection r with v w
  subst v;subst w;cases b:t.slot p.j with
  |empty=>show#[[],p.j,l,rfl,(λm hm=>by cases hm),.inl #[b,by rw[YG,b];simp[d]]]
  |dummy=>show absurd b (q p.j kj)
  |live i =>
   by_cases hh:hashAt i=h
   .show#[[],p.j,l,rfl,(λm hm=>by cases hm),.inr ?_];by_cases hl:l=[]
    .show#[i,0,t.advance p,b,hh,by rw[YG,b];simp[hh],by rw[kg];show d,λz=>absurd hl z]
    .have(f',n):=xc e hl;show#[i,f',t.advance p,b,hh,by rw[YG,b];simp[hh],by rw[kg];show d,λ_=>n.symm]
   .have o:j0∈l:=by
     rcases f6.mp u with z|z
     .rw[z,b]at k;cases k
     .show z
    have(f',n):=xc e (by intro z;rw[z]at o;cases o);have(c,j,a,x,y,A):=xf l fuel f' (t.advance p) n.symm (by simpa using g) (by rw[kg];show d) #[j0,o,k] λm hm=>q m (ke _ hm);have B:YG t hashAt h (fuel+1) p=YG t hashAt h fuel (t.advance p):=by
     rw[YG,b];simp[hh]
    rw[B];show#[p.j::c,j,a,by rw[x];rfl,λm hm=>by
     rcases f6.mp hm with rfl|hm
     .show#[i,b,hh]
     .show y m hm,A]
end
structure Tab(t:VC)(es:Array (Int×hY)):Prop where
 sz:t.place.size=es.size
 dm:t.dummies=#v[]
 Qn:t.place.toList.Pairwise (· < ·)
 le:∀j∈t.place.toList,j<=t.mask
 NF:es.size<=t.mask
 good:Good t.mask
 odd:t.mask % 2=1
section
variable{t:VC}{es:Array (Int×hY)}
def Tab.fill(T:Tab t es):t.fill=es.size:=by
 unfold ZF;rw[T.dm,T.sz];rfl
def Tab.fits(T:Tab t es):t.fits es.size=cb:=by
 unfold V4;rw[T.fill,T.sz];simp[T.NF]
def Tab.JX(T:Tab t es):t.gaveWay=cK:=by
 unfold SetTable.gaveWay;rw[T.odd];rfl
def Tab.En(T:Tab t es)(j):t.slot j≠.dummy:=by
 rcases Ek T.Qn T.dm j with⟨_,i,e⟩|⟨_,e⟩<;>(simp_all)
theorem Ba:∀{K L:↑Nat},K.Nodup->(∀x∈K,x∈L)->⇑K<=⇑L
 |[],_,_,_=>lx _
 |a::K,L,h,s=>by
  rw[qb]at h;have c:=s a kj;have:=Ba   h.2 λx b=>(W6 (show x≠a from λe=>h.1 (e▸b))).mpr (s x (ke _ b))
  grind
def Tab.free(T:Tab t es)(h):∃j∈path t.mask h,t.slot j=.empty:=by
 have:∃j,j<=t.mask/\j∉t.place.toList:=by
  show ON λz=>?_;have hs:=λj a=>ON λq=>z #[j,Wc (tj.mp a),q];have:=Ba ó hs;rw[Qz,gc,T.sz]at this;have:=T.NF;lia
 have(j,b,c):=this;show#[j,T.good.path h b,nv T.dm c]
def fg(xs)(p)(x:α)(h:p<=xs.size):(QU xs p x).toList=xs.toList.take p++x::xs.toList.drop p:=by
 unfold QU;simp[];show OL ⋯
def HC(a:t.dummies=#v[])(j):t.put j=({t with place:=QU t.place (qs t.place j) j},qs t.place j):=by
 unfold SetTable.put;rw[a];rfl
def Tab.put(T:Tab t es)(f:j∉t.place.toList)(g:j<=t.mask)(k:es.size+1<=t.mask):
  Tab {t with place:=QU t.place (qs t.place j) j} (QU es (qs t.place j) (h,v)):=by
 have(b1,l,b3):=i_ (j:=j) T.Qn;have n:qs t.place j<=es.size:=by rw[<-T.sz];show b1
 have c:=fg t.place (qs t.place j) j b1;have o:=fg es (qs t.place j) (h,v) n;have p:∀m,m∈(QU t.place (qs t.place j) j).toList->m=j\/m∈t.place.toList:=λm z=>by
  grind
 have q:(QU t.place (qs t.place j) j).toList.length=t.place.size+1:=by
  rw[c,ko,nz,Wo,Wq,gc];lia
 have d:(QU es (qs t.place j) (h,v)).toList.length=es.size+1:=by
  rw[o,ko,nz,Wo,Wq,gc];lia
 show#[?_,T.dm,?_,?_,?_,T.good,T.odd]
 .rw[<-gc,<-gc,q,d,T.sz]
 .change(QU t.place (qs t.place j) j).toList.Pairwise (· < ·);rw[c];have hs:=T.Qn;rw[<-Zn (qs t.place j) t.place.toList,ŉ]at hs;rw[ŉ];have low:∀a∈t.place.toList.take (qs t.place j),a<j:=λa b=>by
   have(i,hi,e):=Qj.mp b;rw[Wo]at hi;rw[List.getElem_take]at e;show l i a ⋯ (ro.mpr #[by simp at hi;lia,by simpa using e])
  have r:∀a∈t.place.toList.drop (qs t.place j),j<a:=λa b=>by
   have(i,hi,e):=Qj.mp b;rw[Wq]at hi;rw[List.getElem_drop]at e;have:=b3 (qs t.place j+i) a ⋯ (ro.mpr #[by simp at hi;lia,by simpa using e]);have:a≠j:=λz=>f (z▸List.mem_of_mem_drop b);lia
  simp_all
 .intro m z;rcases p m z with rfl|z
  .show g
  .show T.le m z
 .rw[<-gc,d];show k
end
def Tab.plain(T:Tab t es)(b):Tab {t with plain:=b} es:=#[T.sz,T.dm,T.Qn,T.le,T.NF,T.good,T.odd]
end Tb
namespace L2
open PySem PySem.Spec PyProof.Rows
def lL(hk:ú (PySem.strKind prog w) s.heap ks a)(h:Q cK s):fx (gj prog w) A (Uv (n+1) (.ref a)) Q E s:=by
 have i:=hk.typeIs;have(o,c,m,ho,_,j,hi):=hk;unfold Uv;show b5 (UX i ?_);show b5 (cL ?_);show b5 (w6 ho j ?_);show b5 ?_;rw[<-Ou];show RP _ (λb r d=>r.1=b6/\d=s/\∀v∈b,carriedByValue v=cb) _ ?_ ?_ _ _ ⟨rfl,rfl,hi.byValue⟩
 .rintro v b r d ⟨f,rfl,g⟩;have k:=g v kj;have e:Uv n v=pure cK:=by cases v<;>first|(unfold Uv;rfl)|show nomatch k
  rw[e];show cL #[rfl,rfl,λu l=>g u (ke _ l)]
 .rintro⟨p,q⟩ d ⟨f,rfl,_⟩;subst f;show cL h
def iK(hk:aE prog w s.heap k a)(h:Q cK s):fx (gj prog w) A (Uv 8 (.ref a)) Q E s:=by
 have g:=hk.typeIs;have(o,n,t,b,ho,_,i,hi):=hk;unfold Uv;show b5 (UX g ?_);show b5 (cL ?_);show b5 (w6 ho i ?_);show b5 ?_;rw[<-Ou];show RP _ (λc r d=>r.1=b6/\d=s/\(c=[ti k.1 t,gs b]\/c=[gs b]\/c=[])) _ ?_ ?_ _ _ ⟨rfl,rfl,.inl rfl⟩
 .rintro v c r d ⟨f,rfl,(e|e|e)⟩
  .cases e;show cL #[rfl,rfl,.inr (.inl ⋯)]
  .cases e;show b5 (lL hi ?_);show cL #[rfl,rfl,.inr (.inr ⋯)]
  .cases e
 .rintro⟨j,l⟩ d ⟨f,rfl,_⟩;subst f;show cL h
def oX(hk:aE prog w s.heap k a)(h:Q cK s):fx (gj prog w) A (hashByValue 8 (.ref a)) Q E s:=by
 have f:=hk.typeIs;have(o,n,t,b,ho,_,g,hi):=hk;show b5 (Rr f F.slot_tuple_hash.lookup ?_);show b5 (w6 ho g ?_);show b5 ?_;rw[<-Ou];show RP _ (λc r d=>r.1=b6/\d=s/\c=[ti k.1 t,gs b]) _ ?_ ?_ _ _ ⟨rfl,rfl,rfl⟩
 .rintro v c r d ⟨i,rfl,e⟩;cases e;show cL (cL h)
 simp
def ny(hk:aE prog w s.heap k a)(j:∀y∈l,∃k' b,y=.ref b/\aE prog w s.heap k' b)(h:Q cK s):fx (gj prog w) A (Ϫ (.ref a) l) Q E s:=by
 show b5 ?_;show RP _ (λc r d=>r.1=b6/\d=s/\∀y∈c,∃k' b,y=.ref b/\aE prog w _ k' b) _ ?_ ?_ _ _ ⟨rfl,rfl,j⟩
 .rintro v c r d ⟨e,rfl,f⟩;have(k',b,rfl,g):=f v kj;have i:=λu m=>f u (ke _ m)
  dsimp only
  split
  .show cL #[rfl,rfl,i]
  .show b5 (dW hk ?_);show b5 (dW g ?_);show b5 (iK hk ?_);show b5 (iK g ?_);show cL #[rfl,rfl,i]
 .rintro⟨n,o⟩ d ⟨e,rfl,_⟩;subst e;show cL h
@[irreducible] noncomputable def rH(prog:vl)(w:OE)(k:Str×↑Str):Int:=jw prog w k
def JY(prog)(w)(k):jw prog w k=rH prog w k:=by
 unfold rH;rfl
end L2
namespace L2
open PySem PySem.Spec PyProof.Rows Tb
abbrev Eo(prog:vl)(w:OE)(p:(Str×↑Str)×k7):Int×hY:=(rH prog w p.1,.ref p.2)
def vh{L:↑((Str×↑Str)×k7)}(hu:A.units+2<MJ)(ho:s.heap.get? a≈o)(hd:o.data=.set es ep t)(T:Tab t es)(MK:es.toList=L.map (Eo prog w))(hL:∀p∈L,aE prog w s.heap p.1 p.2)(hk:aE prog w s.heap k x)(G:∀p∈L,p.1≠k):
  ∀n fuel f l p D,⇑l<=n->n<fuel->D.getD (t.probeStart (rH prog w k))=p->Pl t f p=l->⇑l<=10 * Vp t.mask->p.dummy=b6->(∃j∈l,t.slot j=.empty) ->
   (∀j∈l,t.slot j=.empty->Q (.free j cK) s) ->
   fx (gj prog w) A (setSearchFrom a (.ref x) (rH prog w k) cb fuel D) Q E s:=by
 have Xw:∀{i:Nat} {e},es[i]?≈e->∃k' b,e=(rH prog w k',.ref b)/\aE prog w s.heap k' b/\k'≠k:=λ{i e} h=>by
  have:e∈es.toList:=by have(q,rfl):=ro.mp h;simp
  rw[MK]at this;have(p,g,rfl):=hW.mp this;show#[p.1,p.2,rfl,hL p g,G p g]
 have live:∀{i j},t.slot j=.live i->∃e,es[i]?≈e:=λ{i j} h=>by
  have(q,_):=ro.mp (Ej h);rw[T.sz]at q;show#[_,RX q]
 intro n;induction n with
 |zero =>
  intro fuel f l p D hl hf L8 g d Zy ⟨j,hj,_⟩ _;have:l=[]:=Tg ⋯;subst this;cases hj
 |succ n ih =>
  intro fuel f l p D hl hf L8 g d Zy Zz H;cases fuel with
  |zero=>lia
  |succ fuel =>
   unfold setSearchFrom;show b5 (my ho hd T.fits ?_)
   dsimp only
   rw[T.JX];simp only[wk,if_false]
   k_delta "storedHashAt"
   rw[L8];have(ab,j,c,r,h1,h2):=xf (hashAt:=λi=>((es[i]?).map (·.1)).getD 0) (h:=rH prog w k) l (10 * Vp t.mask) f p g d Zy Zz λm _=>T.En m;rcases h2 with⟨u,h4⟩|⟨i,f',next,u,h4,h5,h6,h7⟩
   .have e:t.probe (λi=>((es[i]?).map (·.1)).getD 0) (rH prog w k) p≈.empty j b6:=h4;rw[e]
    dsimp only
    show cL (H j (by rw[r];simp) u)
   .have e:t.probe (λi=>((es[i]?).map (·.1)).getD 0) (rH prog w k) p≈.candidate j i next:=h5;rw[e]
    dsimp only
    have(e0,I):=live u;have(k',b,rfl,hb,Vm):=Xw I;have Uh:∃j∈c,t.slot j=.empty:=by
     have(j0,v,B):=Zz;rw[r]at v;rcases ki.mp v with z|z
     .have(i0,J,_):=h1 j0 z;rw[J]at B;cases B
     .rcases f6.mp z with z|z
      .rw[z,u]at B;cases B
      .show#[j0,z,B]
    have Ui:c≠[]:=by
     have(j0,v,_):=Uh;intro z;rw[z]at v;cases v
    have N:∀m ,fx (gj prog w) A m Q E s->fx (gj prog w) A (if (!t.led)=cb then(do
      let b <-Ϫ (gs x) (YT (λx=>x.snd) (Array.filter (λx=>x.fst==rH prog w k) es).toList)
      if b=cb then do
       ě "set:the-search-would-show-the-table"
       m
      else m) else m) Q E s:=λm hm=>by
     split
     .show b5 (ny hk (λy hy=>?_) ?_)
      .have(e,C,rfl):=hW.mp hy;have C:e∈es.toList:=by
        rw[Array.mem_toList_iff]at C ⊢;show(Array.mem_filter.mp C).1
       rw[MK]at C;have(p,g,rfl):=hW.mp C;show#[p.1,p.2,rfl,hL p g]
      .simp only[wk,if_false];show hm
     .show hm
    show N _ ?_;rw[I]
    dsimp only
    show b5 (qI (fu hu hb hk ?_));show b5 (my ho hd T.fits ?_)
    dsimp only
    rw[decide_eq_false Vm];have O:t.sameMemory t.moves t.mask≈cb:=by simp[SetTable.sameMemory]
    simp only[VU,wk,if_false,O,if_true,u,I];show b5 (wpAny_isSame_ref_self ?_);show b5 (cL ?_);simp only[if_true];have Y:⇑c<=n:=by
     have:=congrArg K2 r;rw[ko,nz]at this;lia
    show ih fuel f' c next (bD next) Y ⋯ rfl (h7 Ui) (by
     have:=congrArg K2 r;rw[ko,nz]at this;lia) h6 Uh λj2 QD=>H j2 (by rw[r];simp[QD])
def aE.up(x:aE prog w h k a)(d:∀b o,h.get? b≈o->h'.get? b≈o):aE prog w h' k a:=by
 have(o',n,t,b,e,f,g,o2,its,i,j,l,c,hi):=x;show#[o',n,t,b,d _ _ e,f,g,o2,its,i,d _ _ j,l,c,hi]
theorem tH(f:α->β):∀(L:↑α) {l:↑β},l.Perm (L.map f)->∃L':↑α,l=L'.map f/\L'.Perm L
 |[],l,h=>#[[],h.eq_nil,.nil]
 |a::L,l,h=>by
  have b:f a∈l:=h.mem_iff.mpr kj;have(c,d,rfl):=List.append_of_mem b;have g:(c++d).Perm (L.map f):=(ò.symm.trans h).cons_inv;have(L',e,p):=tH f L g;have(M1,M2,rfl,i,j):=List.map_eq_append_iff.mp e.symm;show#[M1++a::M2,by rw[mh,gr,i,j],ò.trans (p.cons a)]
abbrev Vq(m:Nat):Prop:=m=7\/m=31\/m=127
def Vq.good(h:Vq m):Good m/\m % 2=1:=by
 rcases h with rfl|rfl|rfl
 .show#[wW,rfl]
 .show#[u6,rfl]
 .show#[qX,rfl]
inductive nA(P:vl)(w:OE)(h0 h:Qy)(a:k7)(led:Bool)(D:↑(Str×↑Str)):Prop
 |mk:∀(L:↑((Str×↑Str)×k7)) (es:Array (Int×hY)) (ep:Nat) (t:VC),h.get? a≈{cls:=.type "set",dict:=b6,data:=.set es ep t}->es.toList=L.map (Eo P w)->(L.map (·.1)).Perm D->D.Nodup->(∀p∈L,aE P w h0 p.1 p.2)->Tab t es->t.tooFull=cK->Vq t.mask->t.led=led->nA P w h0 h a led D
def nA.at(b:nA prog w h0 h a led D)(k:∀o,h.get? a≈o->h'.get? a≈o):nA prog w h0 h' a led D :=
 let ⟨L,es,ep,t,c,d,e,f,g,i,j,l,m⟩:=b;⟨L,es,ep,t,k _ c,d,e,f,g,i,j,l,m⟩
theorem vi(hS:nA prog w h0 s.heap a led D)(up:∀b o,h0.get? b=bD o->s.heap.get? b=bD o)(PU:D.length<64)(hu:A.units+2<MJ)(Ra:aE prog w h0 k x)(hkD:k∉D)
    (N0:∀h',p8 a s.heap h'->nA prog w h0 h' a led (D++[k])->Q cb {s with heap:=h' }) :
    fx (gj prog w) A (Ą a (.ref x) (rH prog w k)) Q E s:=by
  obtain⟨L,es,ep,t,ho,MK,L5,L_,ZA,T,Vr,SY,MQ⟩:=hS;have hL:∀p∈L,aE prog w s.heap p.1 p.2:=λp hp=>(ZA p hp).up up;have hk:=Ra.up up;have hlen:es.size=D.length:=by rw[<-gc,MK,df,<-df (f:=ď) (as:=L),L5.length_eq]
  unfold Ą setAddHashedIn;refine qI (b5 (my ho rfl T.fits ?_))
  dsimp only
  rw[show byScan (.ref x) es=cK from rfl];simp only[wk,if_false];unfold setSearch;have My:=AF t.mask (rH prog w k);have hmm:t.mask<=127:=by rcases SY with e|e|e<;>lia
  refine b5 (vh hu ho rfl T MK hL hk (λp hp e=>hkD (L5.mem_iff.mp (hW.mpr ⟨p,hp,e⟩))) (path t.mask (rH prog w k)).length 100000 (t.mask+14) (path t.mask (rH prog w k)) (t.probeStart (rH prog w k)) b6 (gi _) ?_ rfl El My rfl (T.free _) λj Vn hj=>?_)
  · unfold Vp at My
    lia
  · have hjn:j∉t.place.toList:=λz=>by
      obtain⟨i,hi,e⟩:=Qj.mp z;rw[pM T.Qn (i:=i) (ro.mpr ⟨by simpa using hi,by simpa using e⟩)]at hj;cases hj
    have hjm:j<=t.mask:=D6 Vn
    dsimp only
    refine b5 (my ho rfl T.fits ?_)
    dsimp only
    rw[HC T.dm]
    dsimp only
    have htf':es.size * 5<t.mask * 3:=by
      unfold Õ at Vr;rw[T.fill]at Vr;simpa using Vr
    have Nf:es.size+1<=t.mask:=by rcases SY with e|e|e<;>lia
    have hb:qs t.place j<=es.size:=by rw[<-T.sz];exact(i_ (j:=j) T.Qn).1
    have T1:=T.put (v:=.ref x) (h:=rH prog w k) hjn hjm Nf;have MM:=fg es (qs t.place j) (rH prog w k,gs x) hb;have eL:(QU es (qs t.place j) (rH prog w k,gs x)).toList=(L.take (qs t.place j)++(k,x)::L.drop (qs t.place j)).map (Eo prog w):=by
      rw[MM,MK,mh,gr,List.map_take,List.map_drop];rfl
    have pL:(L.take (qs t.place j)++(k,x)::L.drop (qs t.place j)).Perm (L++[(k,x)]):=ò.trans (by rw[Zn];exact(Đ _ _).symm);generalize hE:QU es (qs t.place j) (rH prog w k,gs x)=G' at T1 eL;generalize hM:L.take (qs t.place j)++(k,x)::L.drop (qs t.place j)=L' at pL eL;have RL:G'.size=D.length+1:=by rw[<-gc,eL,df,pL.length_eq,ko,<-df (f:=ď) (as:=L),L5.length_eq];rfl
    have Rb:(L'.map (·.1)).Perm (D++[k]):=(pL.map _).trans (by rw[mh];exact L5.append_right _);have Ua:(D++[k]).Nodup:=by
      rw[pb]
      grind
    have Vc:∀p∈L',aE prog w h0 p.1 p.2:=λp hp=>by
      rcases ki.mp (pL.mem_iff.mp hp) with z|z
      · exact ZA p z
      · rw[nc.mp z];exact Ra
    have tail:∀b t2,t2={t with place:=QU t.place (qs t.place j) j,plain:=b}->fx (gj prog w) A (do
        Ι a G' t2
        if (!false&&t2.tooFull)=true then do
            setRelay a (SetTable.grown (es.size+1))
            pure true
          else pure cb) Q E s:=by
      intro b t2 Xy;have T2:Tab t2 G':=by rw[Xy];exact T1.plain b
      have ZC:t2.mask=t.mask:=by rw[Xy]
      have ZD:t2.led=led:=by rw[Xy];exact MQ
      refine b5 (Wt ho rfl ?_ (WH (by show G'.size<4096;lia)));have OP:(s.heap.update a (PJ G' t2)).get? a=bD {cls:=.type "set",dict:=b6,data:=.set G' (ep+1) t2}:=by
        have:=sL (PJ G' t2) ho rfl;exact this
      have PX:=H0 s.heap a (PJ G' t2);have Uj:t2.tooFull=dV (G'.size * 5 >= t.mask * 3):=by
        unfold Õ;rw[T2.fill,ZC]
      split
      · rename_i hc
        rw[ϑ,ϣ,Uj,decide_eq_true_eq]at hc;have Uk:∃m',Ss (OH (es.size+1))=m'+1/\Vq m'/\G'.size * 5<m' * 3:=by
          rw[hlen];rcases SY with e|e|e
          · have:D.length=4:=by lia
            rw[this];exact⟨31,by decide +kernel,.inr (.inl rfl),by lia⟩
          · have:D.length=18:=by lia
            rw[this];exact⟨127,by decide +kernel,.inr (.inr rfl),by lia⟩
          · lia
        obtain⟨m',em,RY,Mm⟩:=Uk;unfold setRelay;refine b5 (b5 (my OP rfl T2.fits ?_))
        dsimp only
        rw [em, if_neg (by have : sizeLine = 16777216 := by decide
                           rcases RY with z|z|z<;>lia)]
        unfold YB;rw[em,ŵ];obtain⟨t3,order,r1,_,r5,_,r4,r6,r7,r8,r9,r0⟩:=qY (mask:=m') (finger:=t2.finger) (moves:=t2.movedTo m') (led:=t2.led) (plain:=t2.plain) (hs:=G'.map (·.1)) RY.good.1 (by rw[VG];rcases RY with z|z|z<;>lia);rw[VG]at r7 r8;have r2:=f_ r7;have s3:(order.filterMap (G'[·]?)).size=G'.size:=by rw[<-gc,r2.length_eq,gc]
        have r3:Tab t3 (order.filterMap (G'[·]?)):=⟨by rw[r8,s3],r6,r9,by rw[r4];exact r0,by rw[s3,r4];rcases RY with z|z|z<;>lia,by rw[r4];exact RY.good.1,by rw[r4];exact RY.good.2⟩
        rw[r1]
        k_delta "reordered"
        dsimp only
        generalize hO:order.filterMap (G'[·]?)=RZ at r2 r3;have ZE:RZ.size=G'.size:=by rw[<-gc,r2.length_eq,gc]
        rw[if_neg (by simp[ZE])];refine b5 (cL ?_)
        dsimp only
        refine Wt OP rfl ?_ (WH (by show RZ.size<4096;lia));have Qh:((s.heap.update a (PJ G' t2)).update a (PJ RZ t3)).get? a=bD {cls:=.type "set",dict:=b6,data:=.set RZ (ep+1+1) t3}:=sL (PJ RZ t3) OP rfl;have Xz:=H0 (s.heap.update a (PJ G' t2)) a (PJ RZ t3);rw[eL]at r2;obtain⟨L3,e3,p3⟩:=tH (Eo prog w) L' r2;refine cL (N0 _ (PX.trans Xz) ⟨L3,RZ,_,t3,Qh,e3,(p3.map _).trans Rb,Ua,λp hp=>Vc p (p3.mem_iff.mp hp),r3,?_,by rw[r4];exact RY,by rw[r5];exact ZD⟩);unfold Õ;rw[r3.fill,r4,ZE];exact decide_eq_false ⋯
      · rename_i hc
        rw[ϑ,ϣ]at hc;exact cL (N0 _ PX ⟨L',G',_,t2,OP,eL,Rb,Ua,Vc,T2,VS.mpr hc,by rw[ZC];exact SY,ZD⟩)
    by_cases hp:t.plain=cb
    · rw[if_pos hp]
      refine b5 (oX hk ?_);simp only[wk,if_false];exact tail cK _ rfl
    · rw[if_neg hp]
      refine b5 (cL ?_);simp only[if_true];exact tail t.plain _ rfl
def vj(b:h.get? a≈{cls:=.type "set",dict:=b6,data:=.set #v[] 0 (.fresh 0 0 led)}):nA prog w h0 h a led [] :=
 #[[],#v[],0,_,b,rfl,.nil,VL,(λp c=>by cases c),#[rfl,rfl,.nil,(λj d=>by cases d),lx _,wW,(show 7 % 2=1 from rfl)],rfl,.inl rfl,rfl]
def nB{ws:↑(iS×k7)}(hh:A.handled=b6)(hl:s.heap.IsList l (ws.map λq=>gs q.2).toArray)(u:⇑ws<=64)(g:(ws.map (·.1)).Nodup)(y:A.units+20<MJ)(c:∀q∈ws,aE prog w s.heap q.1 q.2)
  (h:∀h' d,nA prog w s.heap h' ↥s (aJ w) (ws.map (·.1))->(∀b o,b<↥s->s.heap.get? b≈o->h'.get? b≈o)->Q (.ref ↥s) {s with heap:=h',toks:=d}) :
  fx (gj prog w) A (TN (.type "set") [.ref l]) Q E s:=by
 show jC (SP:=λ(i:Nat) (h:Qy)=>nA prog w s.heap h _ (aJ w) ((ws.take i).map λq:iS×k7=>q.1)) hh (.inl hl) (λh e=>vj e) (λi h h' x k=>x.at k) (λB i v s1 Q E C j p m q=>?_) λh' d x k=>h h' d ⋯ k;rw[hU,eu]at j;have((x,ax),a,rfl):=j;have n:=c (x,ax) (k8 a);show qI (b5 (ft ⋯ (n.up m) ?_));have D:i<⇑ws:=(eH.mp a).1;have f:=λz=>by
  rw[<-Zn i ws,mh,pb]at g;show g.2.2 x z x (hW.mpr #[(x,ax),k8 (i:=0) (by rw[PF];show a),rfl]) rfl
 rw[JY];show vi  p m (by grind) ⋯ n f λh' r t=>q _ h' _ (Nat.le_add_right _ _) r ?_;rw[Ÿ,a,mh];show t
theorem pN:∀{ws:↑(iS×k7)}{its},Vals (ws.map λq=>V.ref q.2) its->its=ws.map λq=>gs q.2
 |[],_,.nil=>rfl
 |q::ws,_,.cons r t=>by
  cases r;rw[pN t];rfl
def tI{ws:↑(iS×k7)}(f:X.calm=cb)(n:X.A.units+60<MJ)(I:Inv X a σ H s)(d:Mz X.K H p (ws.map λq=>V.ref q.2))(g:∀q∈ws,fw X.K H (.ref q.2) q.1)(i:⇑ws<=64)(j:(ws.map (·.1)).Nodup)
  (h:∀S h' c,nA X.prog X.w s.heap h' S (aJ X.w) (ws.map (·.1))->Inv X a σ H {s with heap:=h',toks:=c}->Q (.ref S) {s with heap:=h',toks:=c}) :
  (fx (gj X.prog X.w) X.A) (TN (.type "set") [.ref p]) Q X.xe s:=by
 have hh:X.A.handled=b6:=I.ok.hd f;have(its,rv,l,hz):=I.list d;obtain rfl:=pN rv;show nB hh l.isList i j ⋯ (λq d=>jy I (g q d)) λh' c m k=>h _ h' c m (I.kept λb o e=>k b o (fz e) e)
def tJ(I:Inv X a σ H s)(c:nA X.prog X.w h0 s.heap S (aJ X.w) D)
  (q:Q (.int ⇑D) H):(fx (gj X.prog X.w) X.A) (TN (.builtin "len") [.ref S]) (EP X a σ Q) X.xe s:=by
 have(L,es,ep,t,ho,d,g,i,j,T,k,h,l):=c;have b:es.size=⇑D:=by rw[<-gc,d,df,<-df (f:=ď) (as:=L),g.length_eq]
 have m:es.size<4096:=by have:=T.NF;rcases h with e|e|e<;>lia
 show call_len_set ho #[rfl,rfl,rfl] rfl T.fits ⋯ ?_;show#[.int es.size,_,I.kept (t':=s.toks+1+1) (λ_ _ e=>e),#[_,rfl],by rw[b];show q]
end L2
namespace L2
open PySem PySem.Spec PyProof.Rows
def Bb:Rw X "str.join" (λx xs H Q=>∃a p b,x=.str a/\xs=[.ref p]/\MA X.K H p (b.map V.str)/\Å a b=cb/\Q (.str (Q2 a b)) H):=by
 intro d s σ H x xs v us Q I f rs h;have(a,p,b,rfl,rfl,g,c,q):=h;have(t,rfl):=f;have(u,rfl,r):=vals1 rs;cases r;have(its,rv,i,hz):=I.tuple g;have(l,rfl,e):=fX rv;subst e;unfold Å at c;rw[Sf]at c;have(o,j,m,n,w):=i;show SV F.slot_str_join (VV _ _ _) F.entry_str_join (F.args_str_join_2 _ _) (meets_str_join_tuple a t p l c) #[#[o,n,j,m,w],post_join l #[joinFit_length c,λt' k=>#[.str _,H,I.tok k,#[_,rfl],q]]]
def oY:eE X (.builtin "repr") (λxs H Q=>∃x,xs=[.str x]/\⇑(Μ x)<=dt/\Q (.str (Μ x)) H):=by
 intro a s σ H xs us Q I rs h;have(x,rfl,hl,q):=h;have(u,rfl,r):=vals1 rs;have(t,rfl):=r;show P.repr_of_str #[.str _,H,I.tok _,#[_,rfl],q] hl
end L2
namespace TM
open PySem L2
inductive U where
 |Mc|bl (b:Bool)|int (i:Int)|str (x:Str)
 |tup (xs:↑U)|lst (xs:↑U)
 |J' (ks:↑Str) (vs:↑U)|M9 (ks:↑iS)
 |NI (ks:↑Str) (vs:↑U)
mutual
noncomputable def Mr:U->Bool
 |.tup xs=>gb xs
 |.lst _=>cK
 |.J' _ _=>cK
 |.M9 _=>cK
 |.NI _ xs=>gb xs
 |.Mc=>cb|.bl _=>cb|.int _=>cb|.str _=>cb
noncomputable def gb:↑U->Bool
 |[]=>cb
 |u::us=>Mr u&&gb us
end
inductive Kd where|own|io|loc|any|bor (j:Nat)|F'
deriving DecidableEq
abbrev Kd.root:Kd->Bool
 |.own=>cb
 |.io=>cb
 |_=>cK
@[reducible]noncomputable def aK:=↑(Option (Kd×U))
structure Ct where
 P:vl
 w:OE
 K:W.Frag
 H₀:Hp
 Pe:k7->Prop
 IO:k7->Prop
abbrev KL(K:W.Frag)(a:k7)(xs:↑V):Prop :=
 ∃(o:Obj) (its:Array hY) (n:Nat),K.lookup a≈o/\o.cls=.type "list"/\o.dict=b6/\o.data=.seq its n/\its.size<=dt/\Vals xs its.toList
abbrev Ul(K:W.Frag)(S:k7->Prop)(H:Hp)(a:k7)(vs:↑V):Prop:=(S a/\Rd H a (.lst vs))\/KL K a vs
def Ul.sq(h:Ul K S H a vs):Mz K H a vs:=h.elim (λz=>.inl z.2) .inr
abbrev Rc(H:Hp)(R:↑V->Prop)(a:k7)(ks:↑Str):Prop:=∃kvs:↑(Key×V),H a≈.dK kvs/\kvs.map (·.1)=ks.map mA/\R (kvs.map (·.2))
abbrev FAt(H:Hp)(R:↑V->Prop)(a:k7)(ks:↑Str):Prop:=∃(o:Obj) (kvs:↑(Key×V)),H a≈.MN o (.dK kvs)/\kvs.map (·.1)=ks.map mA/\R (kvs.map (·.2))
section
variable(C:Ct)(S:k7->Prop)(H:Hp)
mutual
def Rep:U->V->Prop
 |.Mc,v=>v=.Mc
 |.bl b,v=>v=.bl b
 |.int i,v=>v=.int i
 |.str x,v=>v=.str x
 |.tup us,v=>∃a vs,v=.ref a/\MA C.K H a vs/\ai us vs
 |.lst us,v=>∃a vs,v=.ref a/\Ul C.K S H a vs/\ai us vs
 |.J' ks us,v=>∃a,v=.ref a/\S a/\Rc H (ai us) a ks
 |.M9 ks,v=>∃a,v=.ref a/\S a/\gz C.P C.w C.K H a ks
 |.NI ks us,v=>∃a,v=.ref a/\FAt H (ai us) a ks
def ai:↑U->↑V->Prop
 |[],vs=>vs=[]
 |u::us,vs=>∃v r,vs=v::r/\Rep u v/\ai us r
end
end
def Tp:HO->Prop
 |.tup _=>True
 |.MN _ (.tup _)=>True
 |.MN _ (.dK _)=>True
 |_=>False
structure Mv(S:k7->Prop)(H:Hp)(S':k7->Prop)(H':Hp):Prop where
 sub:∀a,S a->S' a
 S3:∀a o,H a≈o->Tp o->H' a≈o
 Vs:∀a o,S a->H a≈o->H' a≈o
def Mv.XA(m:Mv S H S' H')(h:MA K H a vs):MA K H' a vs:=by
 rcases h with(h|⟨o,h⟩)|h
 .show .inl (.inl (m.S3 a _ h ttt))
 .show .inl (.inr #[o,m.S3 a _ h ttt])
 .show .inr h
def Mv.lat(m:Mv S H S' H')(h:Ul K S H a vs):Ul K S' H' a vs:=by
 rcases h with⟨s,h|⟨o,h⟩⟩|h
 .show .inl #[m.sub a s,.inl (m.Vs a _ s h)]
 .show .inl #[m.sub a s,.inr #[o,m.Vs a _ s h]]
 .show .inr h
def Mv.row(m:Mv S H S' H')(h:fw K H v r):fw K H' v r :=
 let ⟨a,b,e,c,d⟩:=h;⟨a,b,e,m.XA c,m.XA d⟩
def Rc.mv(b:∀o,H a≈o->H' a≈o)(c:∀vs,R vs->d vs)(h:Rc H R a ks):Rc H' d a ks :=
 let ⟨kvs,e,f,g⟩:=h;⟨kvs,b _ e,f,c _ g⟩
def Mv.xg(m:Mv S H S' H')(b:∀o,H a≈o->H' a≈o)(h:gz P w K H a ks):gz P w K H' a ks :=
 let ⟨xs,c,d,e⟩:=h;⟨xs,b _ c,d,λx f=>m.row (e x f)⟩
mutual
theorem Rep.QE(m:Mv S H S' H'):∀(u:U) (v:V),Rep C S H u v->Rep C S' H' u v
 |.Mc,_,h=>h
 |.bl _,_,h=>h
 |.int _,_,h=>h
 |.str _,_,h=>h
 |.tup us,v,h=>by
  have(a,vs,e,b,c):=h;show#[a,vs,e,m.XA b,ai.QE m us vs c]
 |.lst us,v,h=>by
  have(a,vs,e,b,c):=h;show#[a,vs,e,m.lat b,ai.QE m us vs c]
 |.J' ks us,v,h=>by
  have(a,e,b,c):=h;show#[a,e,m.sub a b,c.mv (λo q=>m.Vs a o b q) λvs q=>ai.QE m us vs q]
 |.M9 ks,v,h=>by
  have(a,e,b,c):=h;show#[a,e,m.sub a b,m.xg (λo q=>m.Vs a o b q) c]
 |.NI ks us,v,h=>by
  have(a,e,o,kvs,b,c,d):=h;show#[a,e,o,kvs,m.S3 a _ b ttt,c,ai.QE m us _ d]
theorem ai.QE(m:Mv S H S' H'):∀(us:↑U) (vs:↑V),ai C S H us vs->ai C S' H' us vs
 |[],_,h=>h
 |u::us,vs,h=>by
  have(v,r,e,a,b):=h;show#[v,r,e,Rep.QE m u v a,ai.QE m us r b]
end
mutual
theorem Rep.vk:∀(u:U) (v:V),Mr u=cb->Rep C S H u v->Rep C S' H u v
 |.Mc,_,_,h=>h
 |.bl _,_,_,h=>h
 |.int _,_,_,h=>h
 |.str _,_,_,h=>h
 |.tup us,v,i,h=>by
  have(a,vs,e,b,c):=h;show#[a,vs,e,b,ai.vk us vs (by simpa[TM.Mr] using i) c]
 |.lst us,v,i,h=>by simp[TM.Mr]at i
 |.J' ks us,v,i,h=>by simp[TM.Mr]at i
 |.M9 ks,v,i,h=>by simp[TM.Mr]at i
 |.NI ks us,v,i,h=>by
  have(a,e,o,kvs,b,c,d):=h;show#[a,e,o,kvs,b,c,ai.vk us _ (by simpa[TM.Mr] using i) d]
theorem ai.vk:∀(us:↑U) (vs:↑V),gb us=cb->ai C S H us vs->ai C S' H us vs
 |[],_,_,h=>h
 |u::us,vs,i,h=>by
  have(v,r,e,b,c):=h;have a:TM.Mr u=cb/\gb us=cb:=by simpa[gb] using i
  show#[v,r,e,Rep.vk u v a.1 b,ai.vk us r a.2 c]
end
def Rep.mv(m:Mv S H S' H')(h:Rep C S H u v):Rep C S' H' u v:=Rep.QE m u v h
def ai.mv(m:Mv S H S' H')(h:ai C S H us vs):ai C S' H' us vs:=ai.QE m us vs h
def Rep.Mr(i:TM.Mr u=cb)(h:Rep C S H u v):Rep C S' H u v:=Rep.vk u v i h
def ai.Mr(i:gb us=cb)(h:ai C S H us vs):ai C S' H us vs:=ai.vk us vs i h
def Mv.up(sub:∀a,S a->S' a):Mv S H S' H:=#[sub,λ_ _ h _=>h,λ_ _ _ h=>h]
theorem ai.len:∀{us}{vs},ai C S H us vs->⇑us=⇑vs
 |[],_,h=>by cases h;rfl
 |u::us,vs,h=>by
  have(v,r,rfl,_,a):=h;rw[nz,nz,ai.len a]
theorem ai.get:∀{us}{vs}{i:Nat}{u},ai C S H us vs->us[i]?≈u->∃v,vs[i]?≈v/\Rep C S H u v
 |[],_,_,_,_,e=>by simp at e
 |u::us,vs,0,w,h,e=>by
  have(v,r,rfl,a,_):=h;simp at e;subst e;show#[v,rfl,a]
 |u::us,vs,i+1,w,h,e=>by
  have(v,r,rfl,_,b):=h;have(c,d,h'):=ai.get   b (by simpa using e);show#[c,by assumption,h']
theorem ai.append:∀{us ws}{vs a},ai C S H us vs->ai C S H ws a->ai C S H (us++ws) (vs++a)
 |[],_,_,_,h,h'=>by cases h;show h'
 |u::us,ws,vs,a,h,h'=>by
  have(v,r,rfl,b,c):=h;show#[v,_,rfl,b,c.append h']
theorem ai.take:∀{us}{vs} n,ai C S H us vs->ai C S H (us.take n) (vs.take n)
 |_,_,0,_=>by rfl
 |[],_,n+1,h=>by cases h;simp[ai]
 |u::us,vs,n+1,h=>by
  have(v,r,rfl,a,b):=h;show#[v,_,rfl,a,b.take n]
theorem ai.drop:∀{us}{vs} n,ai C S H us vs->ai C S H (us.drop n) (vs.drop n)
 |_,_,0,h=>h
 |[],_,n+1,h=>by cases h;rfl
 |u::us,vs,n+1,h=>by
  have(v,r,rfl,b,a):=h;show a.drop n
theorem ai.set:∀{us}{vs} n {u}{v},ai C S H us vs->Rep C S H u v->ai C S H (us.set n u) (vs.set n v)
 |[],_,n,_,_,h,_=>by cases h;rfl
 |u::us,vs,0,_,_,h,h'=>by
  have(v,r,rfl,b,a):=h;show#[_,r,rfl,h',a]
 |u::us,vs,n+1,_,_,h,h'=>by
  have(v,r,rfl,b,a):=h;show#[v,_,rfl,b,a.set n h']
def ai.snoc(h:ai C S H us vs)(h':Rep C S H u v):ai C S H (us++[u]) (vs++[v]):=h.append #[v,[],rfl,h',rfl]
theorem ai.strs:∀{xs:↑Str}{vs},ai C S H (xs.map .str) vs↔vs=xs.map V.str
 |[],vs=>by rfl
 |x::xs,vs=>by
  constructor
  .rintro⟨v,r,rfl,a,b⟩;rw[ai.strs.mp b];have:=a;rw[this];rfl
  .rintro rfl;show#[_,_,rfl,rfl,ai.strs.mpr rfl]
structure Ct.Eqv(C C':Ct):Prop where
 P:C.P=C'.P
 w:C.w=C'.w
 K:C.K=C'.K
mutual
theorem Rep.QF(q:C.Eqv d):∀(u:U) (v:V),Rep C S H u v->Rep d S H u v
 |.Mc,_,h=>h
 |.bl _,_,h=>h
 |.int _,_,h=>h
 |.str _,_,h=>h
 |.tup us,v,h=>by
  have(a,vs,e,b,c):=h;show#[a,vs,e,q.K▸b,ai.QF q us vs c]
 |.lst us,v,h=>by
  have(a,vs,e,b,c):=h;show#[a,vs,e,q.K▸b,ai.QF q us vs c]
 |.J' ks us,v,h=>by
  have(a,e,b,c):=h;show#[a,e,b,c.mv (λ_ q=>q) λvs z=>ai.QF q us vs z]
 |.M9 ks,v,h=>by
  have(a,e,b,c):=h;show#[a,e,b,by rw[<-q.P,<-q.w,<-q.K];show c]
 |.NI ks us,v,h=>by
  have(a,e,o,kvs,b,c,f):=h;show#[a,e,o,kvs,b,c,ai.QF q us _ f]
theorem ai.QF(q:C.Eqv a):∀(us:↑U) (vs:↑V),ai C S H us vs->ai a S H us vs
 |[],_,h=>h
 |u::us,vs,h=>by
  have(v,r,e,b,c):=h;show#[v,r,e,Rep.QF q u v b,ai.QF q us r c]
end
def Rep.cg(q:C.Eqv a)(h:Rep C S H u v):Rep a S H u v:=Rep.QF q u v h
def ai.cg(q:C.Eqv a)(h:ai C S H us vs):ai a S H us vs:=ai.QF q us vs h
def dX(C:Ct)(S:k7->Prop)(H:Hp)(r:k7):U->Prop
 |.lst us=>∃vs,H r≈.lst vs/\ai C S H us vs
 |.J' ks us=>Rc H (ai C S H us) r ks
 |.M9 ks=>gz C.P C.w C.K H r ks
 |_=>False
def dX.mv(m:Mv S H S' H')(a:∀o,H r≈o->H' r≈o)(h:dX C S H r u):dX C S' H' r u:=by
 cases u with
 |lst us=>have(vs,b,c):=h;show#[vs,a _ b,c.mv m]
 |J' ks us=>show Rc.mv a (λvs q=>q.mv m) h
 |M9 ks=>show m.xg a h
 |_=>show h
def dX.rep(hs:∀a,S a->S' a)(b:S' r)(h:dX C S H r u):Rep C S' H u (.ref r):=by
 cases u with
 |lst us=>have(vs,c,d):=h;show#[r,vs,rfl,.inl #[b,.inl c],d.mv (.up hs)]
 |J' ks us=>show#[r,rfl,b,Rc.mv (λ_ q=>q) (λvs q=>q.mv (.up hs)) h]
 |M9 ks=>show#[r,rfl,b,h]
 |_=>show h.elim
def dX.cg(q:C.Eqv a)(h:dX C S H r u):dX a S H r u:=by
 cases u with
 |lst us=>have(vs,b,c):=h;show#[vs,b,c.cg q]
 |J' ks us=>show Rc.mv (λ_ q=>q) (λvs z=>z.cg q) h
 |M9 ks=>change gz _ _ _ _ _ _;rw[<-q.w,<-q.K];show h
 |_=>show h
def dX.some(h:dX C S H r u):∃o,H r≈o/\¬Tp o:=by
 cases u with
 |lst us=>have(vs,a,_):=h;show#[_,a,λz=>z]
 |J' ks us=>have(kvs,a,_):=h;show#[_,a,λz=>z]
 |M9 ks=>have(xs,a,_):=h;show#[_,a,λz=>z]
 |_=>show h.elim
structure Cf where
 S:k7->Prop
 H:Hp
 σ:St
 st:aK
 kid:Nat->↑k7
inductive ZG(st:aK)(σ:St)(a:k7):Prop
 |mk:∀(j:Nat) (k:Kd) (u:U),k.root=cb->st[j]?≈bD (k,u)->σ[j]?≈bD (.ref a)->ZG st σ a
abbrev Cf.R1(c:Cf)(a:k7):Prop:=ZG c.st c.σ a
inductive ZH(st:aK)(σ:St)(ks:↑k7)(j:Nat)(a:k7):Prop
 |mk:∀(u:U) (r:k7),st[j]?≈bD (.F',u)->σ[j]?≈bD (.ref r)->(a=r\/a∈ks)->ZH st σ ks j a
abbrev Cf.RD(c:Cf)(j:Nat)(a:k7):Prop:=ZH c.st c.σ (c.kid j) j a
abbrev Cf.R(c:Cf)(a:k7):Prop:=c.R1 a\/∃j,c.RD j a
abbrev Cf.Vt(c:Cf)(a:k7):Prop:=∃j,c.RD j a
abbrev PS(C:Ct)(S:k7->Prop):k7->Prop:=λa=>C.Pe a\/S a
def ja(C:Ct)(S:k7->Prop)(H:Hp):Kd->U->V->Prop
 |.own,u,v=>∃r,v=.ref r/\¬S r/\¬C.Pe r/\C.H₀ r=b6/\dX C S H r u
 |.io,u,v=>∃r,v=.ref r/\¬S r/\¬C.Pe r/\C.IO r/\dX C S H r u
 |.loc,u,v=>Rep C S H u v
 |.any,u,v=>Rep C (PS C S) H u v
 |.bor _,_,_=>False
 |.F',_,v=>∃r,v=.ref r
def dO(C:Ct)(S:k7->Prop)(H:Hp):↑U->↑k7->Prop
 |[],as=>as=[]
 |u::us,as=>∃a as' b vs,as=a::as'/\u=.lst b/\H a≈.lst vs/\ai C S H b vs/\dO C S H us as'
def cw(C:Ct)(S:k7->Prop)(H:Hp)(r:k7)(as:↑k7):U->Prop
 |.J' ks us=>∃kvs:↑(Key×V),H r≈.dK kvs/\kvs.map (·.1)=ks.map mA/\kvs.map (·.2)=as.map V.ref/\(r::as).Nodup/\(∀a∈r::as,¬S a/\¬C.Pe a/\C.H₀ a=b6)/\dO C S H us as
 |_=>False
structure PD(C:Ct)(c:Cf):Prop where
 kd:∀(j:Nat) (u:U) (r:k7),c.st[j]?≈bD (.F',u)->c.σ[j]?≈bD (.ref r)->cw C c.S c.H r (c.kid j) u
 dj:∀(i j:Nat) (a:k7),c.RD i a->c.RD j a->i=j
 d1:∀(j:Nat) (a:k7),c.RD j a->¬c.R1 a
inductive XB(C:Ct)(S:k7->Prop)(H:Hp)(σ:St)(i:Nat)(k:Kd)(u:U):Prop
 |mk:∀v,σ[i]?≈bD v->ja C S H k u v->XB C S H σ i k u
structure Ok(C:Ct)(c:Cf):Prop where
 same:∀a o,C.H₀ a≈o->¬C.IO a->c.H a≈o
 NJ:∀a,c.S a->C.H₀ a=b6/\∃o,c.H a≈o
 par:∀a,C.Pe a->(∃o,C.H₀ a≈o)/\¬C.IO a
 io:∀a,C.IO a->(∃o,C.H₀ a≈o)/\∃o,c.H a≈o
 len:⇑c.st=⇑c.σ
 sl:∀(i:Nat) (k:Kd) (u:U),c.st[i]?≈bD (k,u)->XB C c.S c.H c.σ i k u
 inj:∀(i j:Nat) (k k':Kd) (u u':U) (r:k7),k.root=cb->k'.root=cb->c.st[i]?≈bD (k,u)->c.st[j]?≈bD (k',u')->c.σ[i]?≈bD (.ref r)->c.σ[j]?≈bD (.ref r)->i=j
 dd:PD C c
structure Ns(c c':Cf):Prop where
 keep:∀a o,c.H a≈o->¬c.R a->c'.H a≈o
 there:∀a o,c.H a≈o->∃o',c'.H a≈o'
 roots:∀a,c'.R a->c.R a\/c.H a=b6
 sub:∀a,c.S a->c'.S a
 new:∀a,c'.S a->c.S a\/c.R a\/c.H a=b6
def Ns.refl(c:Cf):Ns c c:=#[λ_ _ h _=>h,λ_ o h=>#[o,h],λ_ h=>.inl h,λ_ h=>h,λ_ h=>.inl h]
def Ns.none(n:Ns c b)(h:b.H a=.none):c.H a=.none:=by
 cases e:c.H a with
 |none=>rfl
 |some o=>have(o',q):=n.there a o e;simp_all
def Ns.trans(m:Ns c d)(n:Ns d e):Ns c e where
 keep:=λa o h b=>by
  show n.keep a o (m.keep a o h b) λz=>?_;rcases m.roots a z with z|z
  .show b z
  simp_all
 there:=λa o h=>let ⟨o',h'⟩:=m.there a o h;n.there a o' h'
 roots:=λa h=>by
  rcases n.roots a h with z|z
  .show m.roots a z
  .show .inr (m.none z)
 sub:=λa h=>n.sub a (m.sub a h)
 new:=λa h=>by
  rcases n.new a h with z|z|z
  .show m.new a z
  .rcases m.roots a z with z|z
   .show .inr (.inl z)
   .show .inr (.inr z)
  .show .inr (.inr (m.none z))
inductive XC(C:Ct)(S:k7->Prop)(H:Hp)(u:U)(v:V):Prop
 |mk:∀r,v=.ref r->¬S r->¬C.Pe r->(C.H₀ r=b6\/C.IO r)->dX C S H r u->XC C S H u v
def ja.rt(hk:k.root=cb)(h:ja C S H k u v):XC C S H u v:=by
 cases k with
 |own=>have(r,a,b,c,d,e):=h;show#[r,a,b,c,.inl d,e]
 |io=>have(r,a,b,c,d,e):=h;show#[r,a,b,c,.inr d,e]
 |_=>cases hk
theorem dO.mem:∀{us}{as}{a},dO C S H us as->a∈as->∃vs,H a≈.lst vs
 |[],as,a,h,ha=>by cases h;cases ha
 |u::us,as,a,h,ha=>by
  have(a',as',d,vs,rfl,_,b,_,c):=h;rcases f6.mp ha with rfl|ha
  .show#[vs,b]
  .show dO.mem c ha
theorem dO.mv(m:Mv S H S' H'):∀{us}{as},(∀a∈as,∀o,H a≈o->H' a≈o)->dO C S H us as->dO C S' H' us as
 |[],as,_,h=>h
 |u::us,as,b,h=>by
  have(a,as',c,vs,rfl,e,d,f,g):=h;show#[a,as',c,vs,rfl,e,b a ⋯ _ d,f.mv m,dO.mv m (λa i=>b a (by simp[i])) g]
def cw.fr(h:cw C S H r as u):∀a∈r::as,¬S a/\¬C.Pe a/\(C.H₀ a=b6\/C.IO a):=by
 cases u<;>first|show h.elim|(have(kvs,_,_,_,_,b,_):=h;show λa c=>let ⟨p,q,r⟩:=b a c;⟨p,q,.inl r⟩)
def cw.XD(h:cw C S H r as (.J' ks us)):∀a∈r::as,¬S a/\¬C.Pe a/\C.H₀ a=b6:=by
 have(kvs,_,_,_,_,b,_):=h;show b
def cw.there(h:cw C S H r as u):∀a∈r::as,∃o,H a≈o/\¬Tp o:=by
 cases u<;>first|show h.elim|skip
 have(kvs,b,_,_,_,_,c):=h;intro a ha;rcases f6.mp ha with rfl|ha
 .show#[_,b,λz=>z]
 .have(vs,e):=c.mem ha;show#[_,e,λz=>z]
def cw.mv(m:Mv S H S' H')(c:∀a∈r::as,¬S' a/\∀o,H a≈o->H' a≈o)(h:cw C S H r as u):cw C S' H' r as u:=by
 cases u<;>first|show h.elim|skip
 have(kvs,d,e,f,g,i,j):=h;show#[kvs,(c r ⋯).2 _ d,e,f,g,λa b=>#[(c a b).1,(i a b).2],j.mv m λa b=>(c a (by simp[b])).2]
def PD.of(d:PD C c)(hk:e.kid=c.kid)(p:∀(j:Nat) u,e.st[j]?≈bD (.F',u)->c.st[j]?≈bD (.F',u)/\e.σ[j]?=c.σ[j]?)(s:∀a,e.R1 a->c.R1 a\/∀j,¬c.RD j a)
  (m:Mv c.S c.H e.S e.H) (t:∀j a,c.RD j a->¬e.S a/\∀o,c.H a≈o->e.H a≈o):PD C e:=by
 have b:∀j a,e.RD j a->c.RD j a:=λj a v=>by
  have(u,r,k,f,q):=v;have(g,l):=p j u k;rw[l]at f;rw[hk]at q;show#[u,r,g,f,q]
 show#[λj u r k f=>?_,λi j a h n=>d.dj i j a (b i a h) (b j a n),λj a h n=>?_]
 .have(g,l):=p j u k;rw[l]at f;rw[hk];show cw.mv m (λa w=>t j a #[u,r,g,f,f6.mp w]) (d.kd j u r g f)
 .rcases s a n with z|z
  .show d.d1 j a (b j a h) z
  .show z j (b j a h)
def PD.hs(d:PD C c)(m:Mv c.S c.H S' H')(b:∀j a,c.RD j a->¬S' a/\∀o,c.H a≈o->H' a≈o):PD C {c with H:=H',S:=S' } :=
 d.of rfl (λ_ _ e=>#[e,rfl]) (λ_ z=>.inl z) m b
def Ok.root(ok:Ok C c)(h:c.R r):¬c.S r/\¬C.Pe r/\(C.H₀ r=b6\/C.IO r)/\∃o,c.H r≈o/\¬Tp o:=by
 rcases h with⟨j,k,u,hk,b,d⟩|⟨j,u,f,b,d,a⟩
 .have(v,e,hs):=ok.sl j _ _ b;have(f,ev,a,i,l,m):=hs.rt hk;rw[d]at e;cases e;cases ev;show#[a,i,l,m.some]
 .have g:=ok.dd.kd j u f b d;have(n,p,q):=cw.fr g r (f6.mpr a);show#[n,p,q,cw.there g r (f6.mpr a)]
def Ok.mv(ok:Ok C c)(n:Ns c b):Mv c.S c.H b.S b.H:=#[n.sub,λa o h t=>n.keep a o h λz=>by
  have(_,_,_,o',h',d):=ok.root z;simp_all,λa o s h=>n.keep a o h λz=>(ok.root z).1 s]
def Ok.Qo(ok:Ok C c)(n:Ns c b):Mv (PS C c.S) c.H (PS C b.S) b.H:=#[λa h=>h.imp id (n.sub a),(ok.mv n).S3,λa o s h=>n.keep a o h λz=>by
  rcases s with s|s
  .show(ok.root z).2.1 s
  .show(ok.root z).1 s]
def Ok.kh(ok:Ok C c)(h:c.H p=b6):C.H₀ p=b6/\¬c.S p/\¬C.Pe p/\¬C.IO p/\¬c.R p:=by
 have a:¬C.IO p:=λz=>by have(_,o,q):=ok.io p z;simp_all
 have h0:C.H₀ p=b6:=by
  cases e:C.H₀ p with
  |none=>rfl
  |some o=>have:=ok.same p o e a;simp_all
 show#[h0,λz=>?_,λz=>?_,a,λz=>?_]
 .have(_,o,q):=ok.NJ p z;simp_all
 .have((o,q),_):=ok.par p z;simp_all
 .have(_,_,_,o,q,_):=ok.root z;simp_all
def ja.mv(m:Mv S H S' H')(i:Mv (PS C S) H (PS C S') H')(g:k.root=cb->∀r,v=.ref r->¬S' r/\∀o,H r≈o->H' r≈o)(h:ja C S H k u v):ja C S' H' k u v:=by
 cases k with
 |own =>
  have(r,e,l,a,b,c):=h;have(d,f):=g rfl r e;show#[r,e,d,a,b,c.mv m f]
 |io =>
  have(r,e,l,a,b,c):=h;have(d,f):=g rfl r e;show#[r,e,d,a,b,c.mv m f]
 |loc=>show Rep.mv m h
 |any=>show Rep.mv i h
 |bor j=>show h.elim
 |F'=>show h
structure Nx(c c':Cf):Prop extends Ns c c' where
 dk:∀a,c'.Vt a->c.Vt a/\∀o,c.H a≈o->c'.H a≈o
instance {c a:Cf}:Coe (Nx c a) (Ns c a):=#[Nx.toNs]
def Nx.refl(c:Cf):Nx c c:=#[.refl c,λ_ h=>#[h,λ_ e=>e]]
def Nx.trans(m:Nx c b)(n:Nx b d):Nx c d:=#[m.toNs.trans n.toNs,λa h=>#[(m.dk a (n.dk a h).1).1,λo e=>(n.dk a h).2 o ((m.dk a (n.dk a h).1).2 o e)]]
def Nx.none(n:Nx c b)(h:b.H a=.none):c.H a=.none:=n.toNs.none h
def Ok.lay(ok:Ok C c)(h:c.H p=b6):Ok C {c with H:=upd c.H p o}/\Nx c {c with H:=upd c.H p o}:=by
 have g:∀{a} {o'},c.H a≈o'->a≠p:=λe z=>by subst z;rw[h]at e;cases e
 have b:∀a o',c.H a≈o'->(upd c.H p o) a≈o':=λa o' e=>by rw[aj (g e)];show e
 have nx:Nx c {c with H:=upd c.H p o}:=#[#[λa o' e _=>b a o' e,λa o' e=>#[o',b a o' e],λa z=>.inl z,λ_ z=>z,λ_ z=>.inl z],λa h=>#[h,b a]]
 show#[#[λa o' e z=>b a o' (ok.same a o' e z),λa z=>#[(ok.NJ a z).1,let ⟨o',q⟩:=(ok.NJ a z).2;⟨o',b a o' q⟩],ok.par,λa z=>#[(ok.io a z).1,let ⟨o',q⟩:=(ok.io a z).2;⟨o',b a o' q⟩],ok.len,λi k u e=>?_,ok.inj,ok.dd.hs (ok.mv nx.toNs) λj a z=>#[(ok.root (.inr #[j,z])).1,λo' e=>b a o' e]],nx];have(v,l,d):=ok.sl i k u e;show#[v,l,d.mv (ok.mv nx.toNs) (ok.Qo nx.toNs) λhk r m=>?_];have(s,f,n,_):=d.rt hk;rw[m]at f;cases f;show#[n,λo' e=>b r o' e]
def Ok.grow(ok:Ok C c)(hs:Hc c.H H')(f:∀a,S' a->c.S a\/(c.H a=b6/\∃o,H' a≈o))(p:∀a,c.S a->S' a):Ok C {c with H:=H',S:=S' }/\Nx c {c with H:=H',S:=S' }:=by
 have nx:Nx c {c with H:=H',S:=S' }:=#[#[λa o' e _=>hs a o' e,λa o' e=>#[o',hs a o' e],λa z=>.inl z,p,λa z=>(f a z).imp id λq=>.inr q.1],λa h=>#[h,hs a]]
 show#[#[λa o' e z=>hs a o' (ok.same a o' e z),λa z=>?_,ok.par,λa z=>#[(ok.io a z).1,let ⟨o',q⟩:=(ok.io a z).2;⟨o',hs a o' q⟩],ok.len,λi k u e=>?_,ok.inj,ok.dd.hs (ok.mv nx.toNs) λj a z=>#[λb=>?_,λo' e=>hs a o' e]],nx]
 rotate_left 2
 .have(d,_,_,o,g,_):=ok.root (.inr #[j,z]);rcases f a b with b|⟨b,_⟩
  .show d b
  .rw[g]at b;cases b
 .rcases f a z with q|⟨d,l⟩
  .show#[(ok.NJ a q).1,let ⟨o',q⟩:=(ok.NJ a q).2;⟨o',hs a o' q⟩]
  .show#[(ok.kh d).1,l]
 .have(v,s,m):=ok.sl i k u e;show#[v,s,m.mv (ok.mv nx.toNs) (ok.Qo nx.toNs) λhk r t=>?_];have(w,n,d,l,x,g):=m.rt hk;rw[t]at n;cases n;have(o,ho,_):=g.some;show#[λz=>?_,λo' e=>hs r o' e];rcases f r z with z|⟨z,_⟩
  .show d z
  .rw[z]at ho;cases ho
def aW(C:Ct)(c0 c:Cf):Kd->U->V->Prop
 |.own,u,v=>∃r,v=.ref r/\c0.H r=b6/\¬c.S r/\¬c.R r/\dX C c.S c.H r u
 |.loc,u,v=>Rep C c.S c.H u v
 |.any,u,v=>Rep C (PS C c.S) c.H u v
 |.bor j,u,v=>(∃k:Kd,k.root=cb/\c.st[j]?≈bD (k,u))/\c.σ[j]?≈bD v
 |.io,_,_=>False
 |.F',_,_=>False
def gL(C:Ct)(c0 c:Cf):Kd->U->V->Prop
 |.own,u,v=>∃r,v=.ref r/\c0.H r=b6/\¬c.S r/\¬c.R r/\dX C c.S c.H r u
 |.loc,u,v=>Rep C c.S c.H u v
 |.any,u,v=>Rep C (PS C c.S) c.H u v
 |.bor j,u,v=>c.σ[j]?≈bD v
 |.io,_,_=>False
 |.F',_,_=>False
def aW.w(h:aW C c0 c k u v):gL C c0 c k u v:=by
 cases k with
 |bor j=>show h.2
 |_=>show h
def gL.ZI(ok:Ok C c)(n:Ns c a)(f:∀j,k=.bor j->a.σ[j]?=c.σ[j]?)(h:gL C c0 c k u v):gL C c0 a k u v:=by
 cases k with
 |own =>
  have(r,e,g,i,b,d):=h;have(o,ho,_):=d.some;show#[r,e,g,λz=>?_,λz=>?_,d.mv (ok.mv n) λo q=>n.keep r o q b]
  .rcases n.new r z with z|z|z
   .show i z
   .show b z
   simp_all
  .rcases n.roots r z with z|z
   .show b z
   simp_all
 |loc=>show Rep.mv (ok.mv n) h
 |any=>show Rep.mv (ok.Qo n) h
 |bor j=>change a.σ[j]?=_;rw[f j rfl];show h
 |_=>show h
def gL.on(ok:Ok C c)(n:Ns c a)(b:a.σ=c.σ)(h:gL C c0 c k u v):gL C c0 a k u v:=h.ZI ok n λj _=>by rw[b]
def gL.from(n:Ns c0 c1)(h:gL C c1 c k u v):gL C c0 c k u v:=by
 cases k with
 |own=>have(r,e,a,b):=h;show#[r,e,n.none a,b]
 |_=>show h
def aW.from(n:Ns c0 c1)(h:aW C c1 c k u v):aW C c0 c k u v:=by
 cases k with
 |own=>have(r,e,a,b):=h;show#[r,e,n.none a,b]
 |_=>show h
def SK(C:Ct)(c:Cf):Kd->k7->Prop
 |.any=>PS C c.S
 |_=>c.S
abbrev kE:Kd->Kd
 |.any=>.any
 |_=>.loc
def Ok.rootOf(ok:Ok C c){j:Nat}(h:∃k,k.root=cb/\c.st[j]?≈bD (k,u))(e:c.σ[j]?≈bD v):XC C c.S c.H u v:=by
 have(k,hk,h):=h;have(d,a,b):=ok.sl j _ _ h;rw[e]at a;cases a;show b.rt hk
inductive ZJ(C:Ct)(c:Cf)(k:Kd)(us:↑U)(v:V):Prop
 |mk:∀a vs,v=.ref a->Mz C.K c.H a vs->ai C (SK C c k) c.H us vs->ZJ C c k us v
def aW.list(ok:Ok C c)(h:aW C c0 c k (.lst us) v):ZJ C c k us v:=by
 cases k with
 |own=>have(r,e,_,_,_,vs,b,d):=h;show#[r,vs,e,Mz.of b,d]
 |bor j=>have(r,e,_,_,_,vs,b,d):=ok.rootOf h.1 h.2;show#[r,vs,e,Mz.of b,d]
 |io=>show h.elim
 |F'=>show h.elim
 |_=>have(a,vs,e,b,d):=h;show#[a,vs,e,b.sq,d]
inductive ZK(C:Ct)(c:Cf)(k:Kd)(us:↑U)(v:V):Prop
 |mk:∀a vs,v=.ref a->MA C.K c.H a vs->ai C (SK C c k) c.H us vs->ZK C c k us v
def aW.tuple(ok:Ok C c)(h:aW C c0 c k (.tup us) v):ZK C c k us v:=by
 cases k with
 |own=>have(r,e,_,_,_,h):=h;show h.elim
 |bor j=>have(r,e,_,_,_,h):=ok.rootOf h.1 h.2;show h.elim
 |io=>show h.elim
 |F'=>show h.elim
 |_=>have(a,vs,e,b,d):=h;show#[a,vs,e,b,d]
def aW.flat(ok:Ok C c)(a:Mr u=cb)(h:aW C c0 c k u v):Rep C c.S c.H u v:=by
 cases k with
 |own=>have(r,e,_,_,_,h):=h;cases u<;>simp[Mr]at a<;>show h.elim
 |loc=>show h
 |any=>show Rep.Mr a h
 |bor j=>have(r,e,_,_,_,h):=ok.rootOf h.1 h.2;cases u<;>simp[Mr]at a<;>show h.elim
 |_=>show h.elim
def aW.int(ok:Ok C c)(h:aW C c0 c k (.int i) v):v=.int i:=h.flat ok rfl
def aW.str(ok:Ok C c)(h:aW C c0 c k (.str x) v):v=.str x:=h.flat ok rfl
def aW.bl(ok:Ok C c)(h:aW C c0 c k (.bl b) v):v=.bl b:=h.flat ok rfl
def aW.Mc(ok:Ok C c)(h:aW C c0 c k .Mc v):v=.Mc:=h.flat ok rfl
def aW.item(h:Rep C (SK C c k) c.H u v):aW C c0 c (kE k) u v:=by
 cases k<;>show h
abbrev Pf(H:Hp):k7->Prop:=λa=>∃o,H a≈o
def Ok.Ep(ok:Ok C c):∀a,c.S a->Pf c.H a:=λa h=>(ok.NJ a h).2
def Ok.LG(ok:Ok C c):∀a,PS C c.S a->Pf c.H a:=λa h=>by
 rcases h with h|h
 .have((o,e),n):=ok.par a h;show#[o,ok.same a o e n]
 .show ok.Ep a h
def aW.read(ok:Ok C c)(h:aW C c0 c k u v):Rep C (Pf c.H) c.H u v:=by
 cases k with
 |own =>
  have(r,e,_,_,_,a):=h;rw[e];have(o,ho,_):=a.some;show a.rep ok.Ep #[o,ho]
 |loc=>show Rep.mv (.up ok.Ep) h
 |any=>show Rep.mv (.up ok.LG) h
 |bor j =>
  have(r,e,_,_,_,a):=ok.rootOf h.1 h.2;rw[e];have(o,ho,_):=a.some;show a.rep ok.Ep #[o,ho]
 |_=>show h.elim
def Ok.newList(ok:Ok C c)(n:Nx c0 c)(h:c.H p=b6)(b:ai C c.S c.H us vs):
  Ok C {c with H:=upd c.H p (.lst vs)}/\Nx c0 {c with H:=upd c.H p (.lst vs)}/\aW C c0 {c with H:=upd c.H p (.lst vs)} .own (.lst us) (.ref p):=by
 have(d,a):=ok.lay  h;have(h0,e,g,i,f):=ok.kh h;show#[d,n.trans a,p,rfl,n.none h,e,f,vs,av,b.mv (ok.mv a.toNs)]
def Ok.HD(ok:Ok C c)(n:Nx c0 c)(h:c.H p=b6)(b:ai C c.S c.H us vs):
  Ok C {c with H:=upd c.H p (.tup vs)}/\Nx c0 {c with H:=upd c.H p (.tup vs)}/\aW C c0 {c with H:=upd c.H p (.tup vs)} .loc (.tup us) (.ref p):=by
 have(d,a):=ok.lay  h;show#[d,n.trans a,p,vs,rfl,MA.of av,b.mv (ok.mv a.toNs)]
inductive Ex(α:Type) where|ok (a:α)|exc (c:Str)
abbrev M(α:Type):=aK->Option (Ex α×aK)
namespace M
abbrev pure(a:α):M α:=λst=>bD (.ok a,st)
abbrev fail:M α:=λ_=>b6
abbrev bind(m:M α)(f:α->M β):M β:=λst=>match m st with
 |none=>b6
 |some (.ok a,st')=>f a st'
 |some (.exc c,st')=>bD (.exc c,st')
abbrev Mw(o:Option α):M α:=λst=>match o with
 |none=>b6
 |some a=>bD (.ok a,st)
end M
noncomputable instance:Monad M:={pure:=M.pure,bind:=M.bind}
inductive W{α:Type}(m:M α)(st:aK)(Q:α->aK->Prop):Prop
 |mk:∀a st',m st≈(.ok a,st')->Q a st'->W m st Q
def ak:W (pure a) st Q↔Q a st:=by
 constructor
 .rintro⟨b,st',e,h⟩;cases e;show h
 .intro h;show#[a,st,rfl,h]
def ah:W (m >>= f) st Q↔W m st λa st'=>W (f a) st' Q:=by
 constructor
 .rintro⟨b,st',e,h⟩;have d:M.bind m f st≈_:=e;unfold M.bind at d;cases q:m st with
  |none=>simp_all
  |some r =>
   have(r,s1):=r;rw[q]at d;cases r with
   |ok a=>show#[a,s1,q,b,st',d,h]
   |exc c=>cases d
 .rintro⟨a,s1,q,b,st',e,h⟩;show#[b,st',?_,h];change M.bind m f st=_;unfold M.bind;rw[q];show e
def bW:W (M.Mw o) st Q↔∃a,o≈a/\Q a st:=by
 cases o with
 |none=>show#[λ⟨_,_,e,_⟩=>(by cases e),λ⟨_,e,_⟩=>(by cases e)]
 |some a=>show#[λ⟨_,_,e,h⟩=>(by cases e;show#[a,rfl,h]),λ⟨_,e,h⟩=>(by cases e;show#[a,st,rfl,h])]
def bF:W (M.fail:M α) st Q↔False:=#[λ⟨_,_,e,_⟩=>(by cases e),Wj]
def W.mono(h:W m st Q)(i:∀a s,Q a s->b a s):W m st b:=let ⟨a,s,e,q⟩:=h;⟨a,s,e,i a s q⟩
inductive Vu where|add|sub|mul|Ov|mod|pow
deriving DecidableEq
inductive Um where|eq|ne|lt|le|gt|ge|isin|L6|is|XE
deriving DecidableEq
inductive Bf where|len|sorted|list|tuple|str|int|repr|max|min|all|any
 |dict
 |sum
deriving DecidableEq
inductive B2 where|Ph|Ow|sset|iQ
deriving DecidableEq
inductive Mf where|split|join|partition|endswith
deriving DecidableEq
inductive P4 where|str|list|tuple|int|bool
deriving DecidableEq
inductive Ik where|seq|ML|QG|QH|zip|rev
 |S4
deriving DecidableEq
inductive E where
 |var (i:Nat)
 |cst (u:U)
 |N8 (x:Str) (u:U)
 |bin (op:Vu) (a b:E)
 |cmp (op:Um) (a b:E)
 |P5 (o1 o2:Um) (a b c:E)
 |and (es:↑E)|or (es:↑E)|not (a:E)
 |ite (c a b:E)
 |tup (es:↑E)|lst (es:↑E)|Nl (r:Bool)
 |idx (a b:E)
 |Pj (a:E) (lo hi:↑E)
 |bi (f:Bf) (es:↑E)
 |Pk (f:B2) (es:↑E)
 |N9 (m:Mf) (a:E) (es:↑E)
 |call (f:Str) (es:↑E)
 |comp (k:Nat) (t:Bool) (ik:Ik) (src:↑E) (cond:↑E) (e:E)
 |neg (a:E)|bad|Pn (a:E) (T:P4)|fst (es:↑E)|inD (neg:Bool) (a:E) (i:Nat)|S5 (i:Nat)|Ox (i:Nat) (k d:E)|S6 (i:Nat)|R3 (ln:Bool) (a b:E)
 |pop (i:Nat)|QI (i:Nat) (e:E)
 |S7 (a:E)
inductive S where
 |set (i:Nat) (e:E)
 |Oy (is:↑Nat) (e:E)
 |put (i:Nat) (k v:E)
 |app (i:Nat) (e:E)|ext (i:Nat) (e:E)|bad|newD (i:Nat)|putD (i:Nat) (k v:E)|NR (i:Nat) (k v:E)|aug (sub:Bool) (i:Nat) (k v:E)|Vv (i:Nat)
 |exp (e:E)
 |ret (e:E)|QJ
 |OA (i:Nat) (e:E)
 |ite (c:E) (a b:↑S)
 |Mi (t:Bool) (is:↑Nat) (ik:Ik) (src:↑E) (body:↑S)
 |QK (c:E) (body:↑S)
 |brk|cnt|Vw
 |Uo (is:↑Nat)
abbrev isAny:Kd->Bool
 |.any=>cb
 |_=>cK
abbrev fB(k:Kd)(xs:↑U):Bool:=!isAny k||gb xs
abbrev kT(k k':Kd):Kd:=if isAny k||isAny k' then .any else .loc
abbrev cut{α:Type}(xs:↑α)(lo hi:Option Int):↑α:=(xs.drop (HT.NT ⇑xs 0 lo)).take (HT.NT ⇑xs ⇑xs hi - HT.NT ⇑xs 0 lo)
abbrev ze:Kd×U->Kd×U->Option (Kd×U)
 |(_,.int i),(_,.int j)=>bD (.loc,.int (i+j))
 |(_,.str x),(_,.str y)=>if ⇑x+⇑y<=dt then bD (.loc,.str (x++y)) else b6
 |(k,.lst xs),(k',.lst a)=>if ⇑xs+⇑a<=dt/\fB k xs=cb/\fB k' a=cb then bD (.own,.lst (xs++a)) else b6
 |_,_=>b6
abbrev rf(f:Int->Int->Option Int):U->U->Option (Kd×U)
 |.int i,.int j=>(f i j).map λn=>(.loc,.int n)
 |_,_=>b6
abbrev Er:Kd×U->U->Option (Kd×U)
 |(.own,.lst xs),.int n=>if -(2 ^ 63)<=n/\n<2 ^ 63/\⇑xs * n.toNat<=dt then bD (.own,.lst (hZ n.toNat xs).flatten) else b6
 |_,_=>b6
abbrev zf(i j:Int):Option Int:=if ((-(2 ^ 64)<i/\i<2 ^ 64)\/(-(2 ^ 64)<j/\j<2 ^ 64)) then bD (i * j) else b6
abbrev Es(i j:Int):Option Int:=if 0<j/\j<1073741824 then bD (i / j) else b6
abbrev Et(i j:Int):Option Int:=if 0<j then bD (i % j) else b6
abbrev Eu(i j:Int):Option Int:=if 0<=j/\j<=1000000/\i.natAbs<2 ^ 64 then bD (i ^ j.toNat) else b6
abbrev xh:U->Bool
 |.lst _=>cb
 |_=>cK
abbrev Oe(a:Vu)(x y:Kd×U):Option (Kd×U):=match a with
 |.add=>ze x y
 |.sub=>rf (λi j=>bD (i - j)) x.2 y.2
 |.mul=>if xh x.2=cb then Er x y.2 else rf zf x.2 y.2
 |.Ov=>rf Es x.2 y.2
 |.mod=>rf Et x.2 y.2
 |.pow=>rf Eu x.2 y.2
mutual
noncomputable def M8:Nat->U->Bool
 |_,.J' _ _=>cK
 |_,.M9 _=>cK
 |_,.NI _ _=>cK
 |0,.tup _=>cK
 |0,.lst _=>cK
 |n+1,.tup xs=>gf n xs
 |n+1,.lst xs=>gf n xs
 |_,.Mc=>cb|_,.bl _=>cb|_,.int _=>cb|_,.str _=>cb
noncomputable def gf:Nat->↑U->Bool
 |_,[]=>cb
 |n,u::us=>M8 n u&&gf n us
end
mutual
noncomputable def cq:U->U->Bool
 |.Mc,.Mc=>cb
 |.bl a,.bl b=>a==b
 |.bl a,.int b=>(if a then 1 else 0)==b
 |.int a,.bl b=>a==(if b then 1 else 0)
 |.int a,.int b=>a==b
 |.str a,.str b=>a==b
 |.tup xs,.tup c=>cX xs c
 |.lst xs,.lst c=>cX xs c
 |_,_=>cK
noncomputable def cX:↑U->↑U->Bool
 |[],[]=>cb
 |u::us,w::ws=>cq u w&&cX us ws
 |_,_=>cK
end
abbrev R4(x:U)(a:↑U):Option Bool:=if M8 50 x=cb/\gf 50 a=cb then bD (a.any λy=>cq y x) else b6
abbrev Up(x y:Str):Bool:=!(MG y x 0 ⇑y 1).isEmpty
abbrev strsOf:↑U->Option ↑Str
 |[]=>bD []
 |.str x::us=>(strsOf us).map (x::·)
 |_::_=>b6
abbrev rowOf:U->Option iS
 |.tup [.str x,.tup a]=>(strsOf a).map λss=>(x,ss)
 |_=>b6
abbrev Bc:U->U->Option Bool
 |x,.lst a=>R4 x a
 |x,.tup a=>R4 x a
 |.str x,.str y=>bD (Up x y)
 |.str x,.J' ks _=>bD (dV (x∈ks))
 |.str x,.NI ks _=>bD (dV (x∈ks))
 |x,.M9 ks=>(rowOf x).map λr=>dV (r∈ks)
 |_,_=>b6
abbrev cu:↑Str->↑U->Str->Option U
 |y::ks,u::us,x=>if y=x then bD u else cu ks us x
 |_,_,_=>b6
abbrev dput(ks:↑Str)(us:↑U)(x:Str)(u:U):↑Str×↑U :=
 if x∈ks then(ks,(ks.zip us).map λp=>if p.1=x then u else p.2) else(ks++[x],us++[u])
abbrev nE:U->Bool
 |.Mc=>cb
 |_=>cK
abbrev zg(f:Int->Int->Bool):U->U->Option Bool
 |.int i,.int j=>bD (f i j)
 |_,_=>b6
abbrev bJ:Um->U->U->Option Bool
 |.eq,a,b=>if M8 50 a=cb/\M8 50 b=cb then bD (cq a b) else b6
 |.ne,a,b=>if M8 50 a=cb/\M8 50 b=cb then bD (!cq a b) else b6
 |.lt,a,b=>zg (λi j=>dV (i<j)) a b
 |.le,a,b=>zg (λi j=>dV (i<=j)) a b
 |.gt,a,b=>zg (λi j=>dV (j<i)) a b
 |.ge,a,b=>zg (λi j=>dV (j<=i)) a b
 |.isin,a,b=>Bc a b
 |.L6,a,b=>(Bc a b).map (!·)
 |.is,a,b=>if nE b=cb then bD (nE a) else b6
 |_,_,_=>b6
abbrev nF:↑U->Option ↑Bool
 |[]=>bD []
 |.bl x::us=>(nF us).map (x::·)
 |_::_=>b6
abbrev fC:Kd×U->U->Option (Kd×U)
 |(k,.lst xs),.int i=>(MB xs i).map λu=>(kE k,u)
 |(k,.tup xs),.int i=>(MB xs i).map λu=>(kE k,u)
 |(_,.str x),.int i=>if ⇑x<=dt then(MB (x.cps.toList) i).map λc=>(.loc,.str #[#v[c]]) else b6
 |(k,.J' ks us),.str x=>(cu ks us x).map λu=>(kE k,u)
 |(k,.NI ks us),.str x=>(cu ks us x).map λu=>(kE k,u)
 |_,_=>b6
abbrev oZ:Kd×U->Option Int->Option Int->Option (Kd×U)
 |(k,.lst xs),lo,hi=>if fB k xs=cb then bD (.own,.lst (cut xs lo hi)) else b6
 |(_,.str x),lo,hi=>if ⇑x<=dt then bD (.loc,.str (PySem.StrLaws.sliceText x lo hi)) else b6
 |_,_,_=>b6
abbrev HE:U->Option Nat
 |.lst xs=>bD ⇑xs
 |.tup xs=>bD ⇑xs
 |.str x=>if ⇑x<=dt then bD ⇑x else b6
 |.J' ks _=>bD ⇑ks
 |_=>b6
mutual
noncomputable def fD:U->Option ũ
 |.Mc=>bD .none
 |.bl b=>bD (.bool b)
 |.int i=>bD (.int i)
 |.str x=>bD (.str x)
 |.tup us=>(nG us).map .tuple
 |.lst us=>(nG us).map .list
 |.J' _ _=>b6
 |.NI _ _=>b6
 |.M9 _=>b6
noncomputable def nG:↑U->Option ↑ũ
 |[]=>bD []
 |u::us=>(fD u).bind λd=>(nG us).map (d::·)
end
abbrev Gg:U->Bool
 |.tup _=>cb
 |.lst _=>cb
 |_=>cK
abbrev xi(u:U):Option (Kd×U):=(fD u).bind λd=>if d.showable=cb/\d.depth<=50/\⇑d.shown<=dt/\Gg u=cb then bD (.loc,.str d.shown) else b6
abbrev eR{β:Type}(f:Kd×U->Option β):↑(Kd×U)->Option β
 |[x]=>f x
 |_=>b6
abbrev intsOf:↑U->Option ↑Int
 |[]=>bD []
 |.int x::us=>(intsOf us).map (x::·)
 |_::_=>b6
abbrev pO:↑U->Option ↑Str
 |[]=>bD []
 |.tup [.str x,.int _]::us=>(pO us).map (x::·)
 |_::_=>b6
abbrev Bd(k:Kd)(xs:↑U):Option (Kd×U):=(pO xs).bind λks=>if ⇑ks<64/\ks.Nodup/\fB k xs=cb then bD (.own,.lst ((dz ks).map λi=>xs.getD i .Mc)) else b6
abbrev nI(k:Kd)(xs:↑U):Option (Kd×U):=match strsOf xs with
 |some ss=>if ⇑ss<64 then bD (.own,.lst ((aD ss).map .str)) else b6
 |none=>Bd k xs
abbrev HF:Kd×U->Option (Kd×U)
 |(k,.lst xs)=>nI k xs
 |(_,.J' ks _)=>if ⇑ks<64 then bD (.own,.lst ((aD ks).map .str)) else b6
 |(_,.NI ks _)=>if ⇑ks<64 then bD (.own,.lst ((aD ks).map .str)) else b6
 |(_,.tup xs)=>(strsOf xs).bind λss=>if ⇑ss<64 then bD (.own,.lst ((aD ss).map .str)) else b6
 |_=>b6
abbrev HG:Kd×U->Option (Kd×U)
 |(k,.lst xs)=>if fB k xs=cb then bD (.own,.lst xs) else b6
 |(k,.tup xs)=>if fB k xs=cb then bD (.own,.lst xs) else b6
 |_=>b6
abbrev HH:Kd×U->Option (Kd×U)
 |(k,.lst xs)=>bD (kE k,.tup xs)
 |(k,.tup xs)=>bD (kE k,.tup xs)
 |_=>b6
abbrev Be:Kd×U->Option (Kd×U)
 |(_,.int i)=>if i.natAbs.log2<1920 then bD (.loc,.str (toString i)) else b6
 |_=>b6
abbrev HI:Kd×U->Option (Kd×U)
 |(_,.str x)=>if ⇑(Μ x)<=dt then bD (.loc,.str (Μ x)) else b6
 |(_,.lst xs)=>xi (.lst xs)
 |(_,.tup xs)=>xi (.tup xs)
 |_=>b6
abbrev zh(a:Bool):↑(Kd×U)->Option (Kd×U)
 |[(_,.int i),(_,.int j)]=>bD (.loc,.int (if a=cb then(if j<i then j else i) else(if j>i then j else i)))
 |_=>b6
abbrev HJ:Kd×U->Option (Kd×U)
 |(_,.lst xs)=>(nF xs).map λbs=>(.loc,.bl (bs.all id))
 |_=>b6
abbrev Uq:U->Bool
 |.str _=>cb
 |.int _=>cb
 |_=>cK
abbrev nJ:↑U->Option (↑(Str×U))
 |[]=>bD []
 |.tup [.str x,y]::us=>if Uq y=cb then(nJ us).map ((x,y)::·) else b6
 |_::_=>b6
abbrev HK:Kd×U->Option (Kd×U)
 |(_,.lst xs)=>(nJ xs).bind λps=>if (ps.map (·.1)).Nodup then bD (.own,.J' (ps.map (·.1)) (ps.map (·.2))) else b6
 |_=>b6
abbrev HL:Kd×U->Option (Kd×U)
 |(_,.lst xs)=>(intsOf xs).map λa=>(.loc,.int a.sum)
 |_=>b6
abbrev HM:Kd×U->Option (Kd×U)
 |(_,.bl b)=>bD (.loc,.int (if b then 1 else 0))
 |_=>b6
abbrev Nm(f:Bf)(rs:↑(Kd×U)):Option (Kd×U):=match f with
 |.len=>eR (λx=>(HE x.2).map λ(n:Nat)=>(Kd.loc,U.int (n:Int))) rs
 |.sorted=>eR HF rs
 |.list=>eR HG rs
 |.tuple=>eR HH rs
 |.str=>eR Be rs
 |.repr=>eR HI rs
 |.int=>eR HM rs
 |.max=>zh cK rs
 |.min=>zh cb rs
 |.all=>eR HJ rs
 |.dict=>eR HK rs
 |.sum=>eR HL rs
 |_=>b6
abbrev iC:U->Option ↑Str
 |.lst xs=>(strsOf xs).bind λss=>if ⇑ss+1<Q9 then bD (aU ss) else b6
 |.tup xs=>(strsOf xs).bind λss=>if ⇑ss+1<Q9 then bD (aU ss) else b6
 |_=>b6
abbrev nK:↑U->Option ↑iS
 |[]=>bD []
 |u::us=>(rowOf u).bind λr=>(nK us).map (r::·)
abbrev HN:U->Option (Kd×U)
 |.lst xs=>(nK xs).bind λks=>if ⇑ks<=64/\ks.Nodup then bD (.loc,.int ⇑ks) else b6
 |_=>b6
abbrev tK(x:Kd×U):Option (Kd×U):=match iC x.2 with
 |some ss=>bD (.loc,.int ⇑ss)
 |none=>HN x.2
abbrev HP:Kd×U->Option (Kd×U)
 |(k,.lst xs)=>if fB k xs=cb then bD (.own,.lst xs.reverse) else b6
 |_=>b6
abbrev tL(f:B2)(rs:↑(Kd×U)):Option (Kd×U):=match f with
 |.Ph=>b6
 |.Ow=>eR HP rs
 |.sset=>eR (λx=>(iC x.2).bind λss=>if ⇑ss<64 then bD (.own,.lst ((aD ss).map .str)) else b6) rs
 |.iQ=>eR tK rs
abbrev Ur(f:Str->Option (Kd×U)):U->Option (Kd×U)
 |.str b=>f b
 |_=>b6
def gM(h:Ur f u≈r):∃b,u=.str b/\f b≈r:=by
 cases u with
 |str b=>show#[b,rfl,h]
 |_=>cases h
abbrev JZ(a:Str)(xs:↑U):Option (Kd×U):=(strsOf xs).bind λss=>if Å a ss=cb then bD (.loc,.str (Q2 a ss)) else b6
abbrev LH(a:Str):U->Option (Kd×U)
 |.lst xs=>JZ a xs
 |.tup xs=>JZ a xs
 |_=>b6
abbrev LJ:Mf->Str->U->Option (Kd×U)
 |.split,a=>Ur λb=>if (⇑b==0)=cK/\⇑a+2<=dt then bD (.own,.lst ((RG a b).map .str)) else b6
 |.join,a=>LH a
 |.endswith,a=>Ur λb=>bD (.loc,.bl (ϻ a b))
 |.partition,a=>Ur λb=>if (⇑b==0)=cK/\⇑a<=dt then bD (.loc,.tup [.str (td a b).1,.str (td a b).2.1,.str (td a b).2.2]) else b6
abbrev jH(m:Mf)(u:U)(rs:↑(Kd×U)):Option (Kd×U):=Ur (λa=>eR (λx=>LJ m a x.2) rs) u
abbrev LK:Kd×U->Option (↑(Kd×U))
 |(k,.lst xs)=>bD (xs.map λu=>(kE k,u))
 |(k,.tup xs)=>bD (xs.map λu=>(kE k,u))
 |(_,.str x)=>bD (x.cps.toList.map λc=>(.loc,.str #[#v[c]]))
 |(_,.NI ks _)=>bD (ks.map λx=>(.loc,.str x))
 |_=>b6
abbrev Bg:Kd×U->Option (↑(Kd×U))
 |(_,.int n)=>if n<2 ^ 62/\-(2 ^ 62)<n then bD ((fS n.toNat).map λi:Nat=>(Kd.loc,U.int (0+(i:Int)))) else b6
 |_=>b6
abbrev HQ:↑(Kd×U)->Option (↑(Kd×U))
 |[(_,.int lo),(_,.int hi)]=>if hi<2 ^ 62/\-(2 ^ 62)<lo/\lo<2 ^ 62/\-(2 ^ 62)<hi then bD ((fS (hi - lo).toNat).map λi:Nat=>(Kd.loc,U.int (lo+(i:Int)))) else b6
 |_=>b6
abbrev J0:Kd×U->Option (↑(Kd×U))
 |(k,.lst xs)=>bD (xs.zipIdx.map λp=>(kE k,.tup [.int p.2,p.1]))
 |(k,.tup xs)=>bD (xs.zipIdx.map λp=>(kE k,.tup [.int p.2,p.1]))
 |_=>b6
abbrev HR:↑(Kd×U)->Option (↑(Kd×U))
 |[(k,.lst xs),(k',.tup a)]=>bD ((xs.zip a).map λp=>(kT k k',.tup [p.1,p.2]))
 |_=>b6
abbrev jb(d:↑Str×↑U):↑(Kd×U):=(d.1.zip d.2).map λp=>(Kd.loc,U.tup [.str p.1,p.2])
abbrev HS:Kd×U->Option (↑(Kd×U))
 |(.own,.J' ks us)=>bD (jb (ks,us))
 |_=>b6
abbrev Nn(ik:Ik)(rs:↑(Kd×U)):Option (↑(Kd×U)):=match ik with
 |.seq=>eR LK rs
 |.ML=>eR Bg rs
 |.QG=>HQ rs
 |.QH=>eR J0 rs
 |.zip=>HR rs
 |.S4=>eR HS rs
 |_=>b6
abbrev Ew(ps:↑(Str×Int)):↑(Str×Int):=(dz (ps.map (·.1))).map λi=>ps.getD i (rr,0)
abbrev zi(p:Str×Int):U:=.tup [.str p.1,.int p.2]
abbrev Bh:U->Option (Kd×U)
 |.J' ks us=>(intsOf us).bind λa=>if ⇑ks<64/\ks.Nodup/\⇑ks=⇑a then bD (.own,.lst ((Ew (ks.zip a)).map zi)) else b6
 |_=>b6
abbrev tM(ln:Bool)(a b:↑Str):Option (Kd×U):=if ⇑a<64/\⇑b<64 then bD (if ln=cb then(.loc,.int (⇑(a.filter λx=>dV (x∉b)):Nat)) else(.own,.lst ((aD (a.filter λx=>dV (x∉b))).map .str))) else b6
abbrev zj:U->Option Bool
 |.bl b=>bD b
 |.lst xs=>bD !xs.isEmpty
 |.tup xs=>bD !xs.isEmpty
 |.str x=>if ⇑x<=dt then bD ((⇑x:Int) != 0) else b6
 |_=>b6
abbrev lift:Kd×U->M U
 |(.own,u)=>pure u
 |(.loc,u)=>pure u
 |(.any,u)=>if Mr u=cb then pure u else M.fail
 |(.bor j,_)=>λst=>match st[j]? with
  |some (bD (.own,u))=>bD (.ok u,st.set j (bD (.loc,u)))
  |_=>b6
 |(.io,_)=>M.fail
 |(.F',_)=>M.fail
abbrev dP:↑(Kd×U)->M ↑U
 |[]=>pure []
 |r::rs=>do let u <-lift r;let us <-dP rs;pure (u::us)
abbrev gE(i:Nat):Kd×U->M Unit
 |(.bor j,_)=>λst=>match st[j]? with
  |some (bD (.own,u))=>bD (.ok (),(st.set j (bD (.loc,u))).set i (bD (.loc,u)))
  |_=>b6
 |(.io,_)=>M.fail
 |(.F',_)=>M.fail
 |(k,u)=>λst=>bD (.ok (),st.set i (bD (k,u)))
def bB:↑(Kd×U)->aK->Prop
 |[],_=>True
 |(.bor j,u)::rs,st=>(∃k:Kd,k.root=cb/\st[j]?≈bD (k,u))/\bB rs st
 |_::rs,st=>bB rs st
open Classical in
abbrev aR(rs:↑(Kd×U)):M Unit:=λst=>if bB rs st then bD (.ok (),st) else b6
@[reducible]noncomputable def Tab:=Str->↑U->Option (Ex (Kd×U))
abbrev pP(Γ:Tab)(f:Str)(us:↑U):M (Kd×U):=λst=>match Γ f us with
 |some (.ok (.any,_))=>b6
 |none=>b6
 |some r=>bD (r,st)
abbrev Bi(i:Nat):M (Kd×U):=λst=>match st[i]? with
 |some (bD (k,.lst us))=>if k.root=cb then(match us[⇑us - 1]? with|some u=>bD (.ok (.loc,u),st.set i (bD (k,.lst us.dropLast)))|none=>b6) else b6
 |_=>b6
abbrev LL(i:Nat):U->M (Kd×U)
 |.int j=>λst=>match st[i]? with
  |some (bD (k,.lst us))=>if k.root=cb/\0<=j/\j<1000000 then(match us[j.toNat]? with|some u=>bD (.ok (.loc,u),st.set i (bD (k,.lst (us.eraseIdx j.toNat))))|none=>b6) else b6
  |_=>b6
 |_=>M.fail
abbrev HU:Kd×U->M (Kd×U)
 |(.own,.J' ks us)=>pure (.loc,.NI ks us)
 |_=>M.fail
abbrev dY(i:Nat):M (Kd×U):=λst=>match st[i]? with
 |some (bD (.F',_))=>b6
 |some (bD (k,u))=>bD (.ok (if k.root=cb then .bor i else k,u),st)
 |_=>b6
abbrev jI(i:Nat):M (↑Str×↑U):=λst=>match st[i]? with
 |some (bD (.F',.J' ks us))=>bD (.ok (ks,us),st)
 |_=>b6
abbrev lM(x:Kd×U):M Str:=match x.2 with
 |.str y=>pure y
 |_=>M.fail
abbrev XF(neg:Bool)(y:Str)(ks:↑Str):Bool:=if neg=cb then !dV (y∈ks) else dV (y∈ks)
abbrev Bj(i:Nat):M (Kd×U):=λst=>match st[i]? with
 |some (bD (.F',.J' ks us))=>bD (.ok (.bor i,.J' ks us),st.set i (bD (.own,.J' ks us)))
 |_=>dY i st
abbrev tN(i:Nat):M (↑Str×↑U):=λst=>match st[i]? with
 |some (bD (.F',.J' ks us))=>bD (.ok (ks,us),st.set i b6)
 |_=>b6
abbrev Gh(i:Nat):M Unit:=λst=>bD (.ok (),st.set i (bD (.F',.J' [] [])))
abbrev nL(i:Nat)(y:Str):Kd×U->M Unit
 |(.own,.lst us)=>λst=>match st[i]? with
  |some (bD (.F',.J' ks vs))=>if y∉ks/\⇑ks<dt then bD (.ok (),st.set i (bD (.F',.J' (ks++[y]) (vs++[.lst us])))) else b6
  |_=>b6
 |_=>M.fail
abbrev kl:↑Str->↑U->Str->U->↑U
 |k::ks,v::vs,y,u=>if k=y then u::vs else v::kl ks vs y u
 |_,vs,_,_=>vs
abbrev nM(i:Nat)(y:Str)(u:U):M Unit:=λst=>match st[i]? with
 |some (bD (.F',.J' ks vs))=>match cu ks vs y with
  |some (.lst xs)=>if ⇑xs<dt then bD (.ok (),st.set i (bD (.F',.J' ks (kl ks vs y (.lst (xs++[u])))))) else b6
  |_=>b6
 |_=>b6
abbrev XG:U->M Unit
 |.J' _ _=>pure ()
 |_=>M.fail
abbrev Ey(x:Kd×U)(y:Str)(u:U):Option (Kd×U):=match x with
 |(k,.J' ks us)=>bD (match cu ks us y with|some v=>(kE k,v)|none=>(.loc,u))
 |_=>b6
abbrev tP(i:Nat):M ↑U:=λst=>match st[i]? with
 |some (bD (k,.lst us))=>if k.root=cb then bD (.ok us,st) else b6
 |_=>b6
abbrev zk(x:Kd×U):M Int:=match x.2 with
 |.int j=>pure j
 |_=>M.fail
abbrev tQ(us:↑U)(j:Int):Option Int:=if 0<=j then(match us[j.toNat]? with|some (.int o)=>bD o|_=>b6) else b6
abbrev Bl(sub:Bool)(o w:Int):Int:=if sub=cb then o - w else o+w
abbrev LM:U->Option U
 |.lst us=>bD (.lst us.reverse)
 |_=>b6
abbrev sets:↑Nat->↑(Kd×U)->M Unit
 |[],[]=>pure ()
 |i::is,r::rs=>do gE i r;sets is rs
 |_,_=>M.fail
abbrev dZ(t:Bool)(is:↑Nat)(r:Kd×U):M Unit:=match t,is,r with
 |false,[i],r=>gE i r
 |true,is,(k,.tup xs)=>sets is (xs.map λu=>(kE k,u))
 |_,_,_=>M.fail
abbrev inScope{α:Type}(k:Nat)(m:M α):M α:=λst=>match m (hZ k b6++st) with
 |none=>b6
 |some (r,st')=>bD (r,st'.drop k)
abbrev bO(k:Nat)(t:Bool)(cond:M Bool)(elt:M (Kd×U))(src:↑(Kd×U)):↑(Kd×U)->↑U->M ↑U
 |[],a=>do aR src;pure a
 |x::xs,a=>do
  aR src
  let r <-inScope k (dZ t (fS k) x >>= λ_=>cond >>= λb=>if b=cb then(elt >>= λr=>lift r >>= λu=>pure (bD u)) else pure b6)
  match r with
  |some u=>if ⇑a<dt then bO k t cond elt src xs (a++[u]) else M.fail
  |none=>bO k t cond elt src xs a
abbrev tS:U->P4->Option Bool
 |.int _,T=>bD (dV (T=.int))
 |.lst _,T=>if T=.list then bD cb else b6
 |.tup _,T=>if T=.tuple then bD cb else b6
 |.str _,T=>if T=.str then bD cb else b6
 |_,_=>b6
abbrev LN:Kd×U->Option (Kd×U)
 |(_,.int i)=>bD (.loc,.int (-i))
 |_=>b6
abbrev HV(x:Kd×U):M (Option Int):=match x.2 with
 |.int i=>pure (bD i)
 |_=>M.fail
abbrev Us:U->M Unit
 |.lst _=>pure ()
 |_=>M.fail
section
variable(Γ:Tab)
mutual
noncomputable def ev:E->M (Kd×U)
 |.var i=>dY i
 |.cst u=>pure (.loc,u)
 |.N8 _ u=>pure (.loc,u)
 |.bin g a b=>do
  let x <-ev a
  let y <-ev b
  aR [x,y]
  M.Mw (Oe g x y)
 |.cmp g a b=>do
  let x <-ev a
  let y <-ev b
  aR [x,y]
  let c <-M.Mw (bJ g x.2 y.2)
  pure (.loc,.bl c)
 |.P5 _ _ _ _ _=>M.fail
 |.and es=>nN es
 |.or _=>M.fail
 |.not a=>do
  let x <-ev a
  match x.2 with
  |.bl c=>pure (.loc,.bl !c)
  |_=>M.fail
 |.ite c a b=>do
  let p <-Mn c
  if p=cb then ev a else ev b
 |.tup es=>do
  let rs <-cA es
  aR rs
  let us <-dP rs
  if ⇑us<=dt then pure (.loc,.tup us) else M.fail
 |.lst es=>do
  let rs <-cA es
  aR rs
  let us <-dP rs
  if ⇑us<=dt then pure (.own,.lst us) else M.fail
 |.Nl r=>pure (.own,if r=cb then .M9 [] else .J' [] [])
 |.idx a b=>do
  let x <-ev a
  let y <-ev b
  aR [x,y]
  M.Mw (fC x y.2)
 |.Pj a lo hi=>do
  let x <-ev a
  let l <-R5 lo
  let h <-R5 hi
  aR [x]
  M.Mw (oZ x l h)
 |.bi f es=>do
  let rs <-cA es
  aR rs
  M.Mw (Nm f rs)
 |.Pk f es=>do
  let rs <-cA es
  aR rs
  M.Mw (tL f rs)
 |.N9 m a es=>do
  let x <-ev a
  let rs <-cA es
  aR (x::rs)
  M.Mw (jH m x.2 rs)
 |.call f es=>do
  let rs <-cA es
  aR rs
  pP Γ f (rs.map (·.2))
 |.comp k t ik src cond e=>do
  let rs <-cA src
  aR rs
  let xs <-M.Mw (Nn ik rs)
  let us <-bO k t (aQ cond) (ev e) rs xs []
  pure (.own,.lst us)
 |.neg a=>do
  let x <-ev a
  M.Mw (LN x)
 |.bad=>M.fail
 |.inD _ _ _=>M.fail
 |.S5 i=>Bj i
 |.Ox i k d=>do
  let x <-dY i
  XG x.2
  let y <-ev k
  let y <-lM y
  let z <-ev d
  let u <-lift z
  let x <-dY i
  M.Mw (Ey x y u)
 |.S6 i=>do
  let x <-dY i
  M.Mw (Bh x.2)
 |.S7 a=>ev a >>= HU
 |.pop i=>Bi i
 |.QI i e=>do
  let x <-dY i
  Us x.2
  let y <-ev e
  LL i y.2
 |.R3 ln a b=>do
  let x <-ev a
  let j <-M.Mw (iC x.2)
  let y <-ev b
  let n <-M.Mw (iC y.2)
  M.Mw (tM ln j n)
 |.fst es=>M.fail
 |.Pn a T=>do
  let x <-ev a
  let b <-M.Mw (tS x.2 T)
  pure (.loc,.bl b)
noncomputable def cA:↑E->M (↑(Kd×U))
 |[]=>pure []
 |e::es=>do let r <-ev e;let rs <-cA es;pure (r::rs)
noncomputable def R5:↑E->M (Option Int)
 |[]=>pure b6
 |[e]=>do let x <-ev e;HV x
 |_=>M.fail
noncomputable def nN:↑E->M (Kd×U)
 |[]=>M.fail
 |[e]=>ev e
 |e::es=>do
  let x <-ev e
  match x.2 with
  |.bl cb=>nN es
  |.bl cK=>pure (.loc,.bl cK)
  |_=>M.fail
noncomputable def Mn:E->M Bool
 |.and es=>aQ es
 |.or es=>gN es
 |.not a=>do let b <-Mn a;pure !b
 |.cmp e a b=>do
  let x <-ev a
  let y <-ev b
  aR [x,y]
  M.Mw (bJ e x.2 y.2)
 |.var i=>do let x <-dY i;M.Mw (zj x.2)
 |.bi f es=>do
  let rs <-cA es
  aR rs
  let r <-M.Mw (Nm f rs)
  M.Mw (zj r.2)
 |.call f es=>do
  let rs <-cA es
  aR rs
  let r <-pP Γ f (rs.map (·.2))
  M.Mw (zj r.2)
 |.P5 o1 o2 a b c=>do
  let x <-ev a
  let y <-ev b
  aR [x,y]
  let p <-M.Mw (bJ o1 x.2 y.2)
  if p=cb then do
   let z <-ev c
   aR [y,z]
   M.Mw (bJ o2 y.2 z.2)
  else pure cK
 |.inD neg a i=>do
  let x <-ev a
  let y <-lM x
  let d <-jI i
  pure (XF neg y d.1)
 |.Pn a T=>do
  let x <-ev a
  M.Mw (tS x.2 T)
 |_=>M.fail
noncomputable def aQ:↑E->M Bool
 |[]=>pure cb
 |[e]=>Mn e
 |e::es=>do let b <-Mn e;if b=cb then aQ es else pure cK
noncomputable def gN:↑E->M Bool
 |[]=>pure cK
 |[e]=>Mn e
 |e::es=>do let b <-Mn e;if b=cb then pure cb else gN es
end
inductive Fl where|nx|rt (k:Kd) (u:U)|bk|ct
abbrev retS:Kd×U->M Fl
 |(.own,u)=>pure (.rt .own u)
 |(.loc,u)=>pure (.rt .loc u)
 |(.any,u)=>if Mr u=cb then pure (.rt .loc u) else pure (.rt .any u)
 |(.bor j,_)=>λst=>match st[j]? with
  |some (bD (.own,u))=>bD (.ok (.rt .own u),st.set j b6)
  |_=>b6
 |(.io,_)=>M.fail
 |(.F',_)=>M.fail
abbrev forM(t:Bool)(is:↑Nat)(body:M Fl)(src:↑(Kd×U)):↑(Kd×U)->M Fl
 |[]=>do aR src;pure .nx
 |x::xs=>do
  aR src
  dZ t is x
  let f <-body
  match f with
  |.nx=>forM t is body src xs
  |.ct=>forM t is body src xs
  |.bk=>pure .nx
  |.rt k u=>pure (.rt k u)
abbrev km(c:M Bool)(body:M Fl):Nat->M Fl
 |0=>M.fail
 |n+1=>do
  let b <-c
  if b=cb then do
   let f <-body
   match f with
   |.nx=>km c body n
   |.ct=>km c body n
   |.bk=>pure .nx
   |.rt k u=>pure (.rt k u)
  else pure .nx
abbrev modS(i:Nat)(f:U->Option U):M Unit:=λst=>match st[i]? with
 |some (bD (k,u))=>if k.root=cb then match f u with
   |some u'=>bD (.ok (),st.set i (bD (k,u')))
   |none=>b6
  else b6
 |_=>b6
abbrev Ez(u:U):U->Option U
 |.lst xs=>if ⇑xs<dt then bD (.lst (xs++[u])) else b6
 |_=>b6
abbrev o_:Kd×U->U->Option U
 |(k,.lst a),.lst xs=>if ⇑xs+⇑a<=dt/\fB k a=cb then bD (.lst (xs++a)) else b6
 |(k,.tup a),.lst xs=>if ⇑xs+⇑a<=dt/\fB k a=cb then bD (.lst (xs++a)) else b6
 |_,_=>b6
abbrev d0(x u:U):U->Option U
 |.J' ks vs=>match x with
  |.str y=>if ⇑ks<dt then bD (.J' (dput ks vs y u).1 (dput ks vs y u).2) else b6
  |_=>b6
 |.M9 ks=>match rowOf x,u with
  |some r,.bl cb=>if r∉ks/\⇑ks<=1000 then bD (.M9 (ks++[r])) else b6
  |_,_=>b6
 |.lst xs=>match x with
  |.int i=>(PM ⇑xs i).map λj=>.lst (xs.set j u)
  |_=>b6
 |_=>b6
abbrev Bm:↑U->U->Option U
 |[u,x]=>d0 x u
 |_=>λ_=>b6
abbrev fuel:Nat:=1000000000000
mutual
noncomputable def XH:S->Nat->Bool
 |.set i _,j=>dV (j≠i)
 |.Oy is _,j=>dV (j∉is)
 |.ite _ a b,j=>NV a j&&NV b j
 |.Mi _ is _ _ body,j=>dV (j∉is)&&NV body j
 |.QK _ body,j=>NV body j
 |.put _ _ _,_=>cb
 |.app _ _,_=>cb
 |.ext _ _,_=>cb
 |.bad,_=>cb
 |.newD i,j=>dV (j≠i)
 |.putD _ _ _,_=>cb
 |.NR _ _ _,_=>cb
 |.aug _ _ _ _,_=>cb
 |.Vv _,_=>cb
 |.exp _,_=>cb
 |.ret _,_=>cb
 |.OA _ _,_=>cb
 |.QJ,_=>cb
 |.brk,_=>cb
 |.cnt,_=>cb
 |.Vw,_=>cb
 |.Uo _,_=>cb
noncomputable def NV:↑S->Nat->Bool
 |[],_=>cb
 |s::ss,j=>XH s j&&NV ss j
end
abbrev xj(rs:↑(Kd×U))(is:↑Nat)(body:↑S):Bool:=rs.all λr=>match r.1 with
 |.bor j=>dV (j∉is)&&NV body j
 |_=>cb
mutual
noncomputable def exec:S->M Fl
 |.set i e=>do let r <-ev Γ e;gE i r;pure .nx
 |.Oy is e=>do let r <-ev Γ e;dZ cb is r;pure .nx
 |.put i k v=>do
  let r <-ev Γ v
  let _ <-dY i
  let x <-ev Γ k
  let us <-dP [r,x]
  modS i (Bm us)
  pure .nx
 |.app i e=>do
  let x <-dY i
  Us x.2
  let r <-ev Γ e
  let u <-lift r
  modS i (Ez u)
  pure .nx
 |.ext i e=>do
  let x <-dY i
  Us x.2
  let r <-ev Γ e
  modS i (o_ r)
  pure .nx
 |.bad=>M.fail
 |.newD i=>do Gh i;pure .nx
 |.putD i k v=>do
  let r <-ev Γ v
  let d <-jI i
  let x <-ev Γ k
  let y <-lM x
  nL i y r
  pure .nx
 |.NR i k v=>do
  let _ <-jI i
  let x <-ev Γ k
  let y <-lM x
  let d <-jI i
  if y∈d.1 then do
   let r <-ev Γ v
   let u <-lift r
   nM i y u
   pure .nx
  else M.fail
 |.aug sub i k v=>do
  let _ <-tP i
  let y <-ev Γ k
  let j <-zk y
  let us <-tP i
  let o <-M.Mw (tQ us j)
  let z <-ev Γ v
  let w <-zk z
  modS i (d0 (.int j) (.int (Bl sub o w)))
  pure .nx
 |.Vv i=>do
  modS i LM
  pure .nx
 |.exp e=>do let _ <-ev Γ e;pure .nx
 |.ret e=>do let r <-ev Γ e;retS r
 |.OA i e=>do
  let d <-tN i
  let us <-bO 2 cb (pure cb) (ev Γ e) [] (jb d) []
  retS (.own,.lst us)
 |.QJ=>pure (.rt .loc .Mc)
 |.ite c a b=>do let p <-Mn Γ c;if p=cb then execs a else execs b
 |.Mi t is ik src body=>do
  let rs <-cA Γ src
  aR rs
  let xs <-M.Mw (Nn ik rs)
  if xj rs is body=cb then forM t is (execs body) rs xs else M.fail
 |.QK c body=>km (Mn Γ c) (execs body) fuel
 |.brk=>pure .bk
 |.cnt=>pure .ct
 |.Vw=>pure .nx
 |.Uo _=>M.fail
noncomputable def execs:↑S->M Fl
 |[]=>pure .nx
 |s::ss=>do
  let f <-exec s
  match f with
  |.nx=>execs ss
  |f=>pure f
end
end
structure Fn where
 name:Str
 np:Nat
 ns:Nat
 body:↑S
abbrev start(us:↑U)(n:Nat):aK:=us.map (λu=>bD (if Mr u=cb then Kd.loc else Kd.any,u))++hZ (n - ⇑us) b6
abbrev bt(Γ:Tab)(fn:Fn)(us:↑U):Option (Ex (Kd×U)):=if ⇑us=fn.np then match execs Γ fn.body (start us fn.ns) with
  |some (.ok (.rt .own u),_)=>bD (.ok (.own,u))
  |some (.ok (.rt .loc u),_)=>bD (.ok (.loc,u))
  |some (.ok (.rt .any u),_)=>bD (.ok (.any,u))
  |some (.ok .nx,_)=>bD (.ok (.loc,.Mc))
  |some (.exc c,_)=>bD (.exc c)
  |_=>b6
 else b6
abbrev fh(is:↑Nat)(us:↑U)(n:Nat):aK:=(us.zipIdx.map λp=>bD (if p.2∈is then Kd.io else if Mr p.1=cb then Kd.loc else Kd.any,p.1))++hZ (n - ⇑us) b6
abbrev Ut:↑Nat->aK->Option ↑U
 |[],_=>bD []
 |i::is,st=>match st[i]? with
  |some (bD (.io,u))=>(Ut is st).map (u::·)
  |_=>b6
abbrev ZL:Fl->Option (Kd×U)
 |.rt .own u=>bD (.own,u)
 |.rt .loc u=>bD (.loc,u)
 |.nx=>bD (.loc,.Mc)
 |_=>b6
abbrev Bn(Γ:Tab)(fn:Fn)(is:↑Nat)(body:↑S)(us:↑U):Option (Ex (Kd×U)):=if ⇑us=fn.np then match execs Γ body (fh is us fn.ns) with
  |some (.ok f,st)=>(ZL f).bind λr=>(Ut is st).map λws=>.ok (r.1,.tup (r.2::ws))
  |_=>b6
 else b6
abbrev Fn.io(fn:Fn):Option (↑Nat×↑S):=match fn.body with
 |.Uo is::body=>bD (is,body)
 |_=>b6
abbrev pd(Γ:Tab)(fn:Fn)(us:↑U):Option (Ex (Kd×U)):=match fn.io with
 |some (is,body)=>Bn Γ fn is body us
 |none=>bt Γ fn us
abbrev Ml(P:↑Fn):Nat->Tab
 |0=>λ_ _=>b6
 |d+1=>λf us=>match P.find? λfn=>dV (fn.name=f) with
  |some fn=>pd (Ml P d) fn us
  |none=>b6
end TM
namespace TM
open PySem L2 PyProof.Rows
structure Me where
 fn:Fn
 i:Nat
 N:↑Str
 a:k7
 c:k7
 m:hY
 cr:Obj
abbrev Me.fd(top:Nat->T')(m:Me):ß:=W.fnOf m.fn.name m.fn.name (hV (top m.i)) (c8 (top m.i)) (bc (top m.i)) .none .none .none m.m b6 (.ref m.c) .none
abbrev Me.fo(top:Nat->T')(m:Me):Obj:=#[.type "function",b6,.func (m.fd top),#v[]]
@[reducible]noncomputable def Gx:=Obj
abbrev adr(ms:↑Me):↑k7:=3::ms.flatMap λm=>[m.c,m.a]
abbrev OC(top:Nat->T')(g:Gx)(ms:↑Me):W.Frag:=(3,g)::ms.flatMap λm=>[(m.c,m.cr),(m.a,m.fo top)]
def xT(top)(g:Gx)(ms):adr ms=(OC top g ms).map (·.1):=by
 unfold adr OC;rw[gr,List.map_flatMap];rfl
abbrev co(n:Str)(k l c:Nat)(r s:k7)(x y z:hY)(a b t:Nat):Obj:=#[.type "code",b6,.fields #v[.str n k,.str n (k+1),.str "/claim/cut.py" (k+2),.int l 0,.int c 0,.int 0 0,.int 0 0,.int 3 0,.ref r,.bool cb,.int t 0,.ref s,.none,x,y,z,.int a 0,.int l 0,.str "/claim/cut.py" b],#v[]]
abbrev ge(P:Ū)(x:Str)(k:Nat)(v:hY):DictEntry:=#[PyData.keyHash P x,.str x k,v]
end TM
namespace TM
open PySem L2
@[reducible]noncomputable def cI(i:Int):E:=E.cst (U.int i)
abbrev zB:Fn:=#["_law_mix",2,3,[.set 2 (.bin .add (.bin .add (.bin .mul (.bin .add (.bin .mod (.var 0) (.bin .pow (cI 10) (cI 15))) (cI 1)) (cI 48271)) (.bin .mul (.bin .mul (.var 1) (.var 1)) (cI 16807))) (.bin .mul (.var 1) (cI 7919))),.ret (.bin .mod (.bin .mul (.bin .mod (.var 2) (cI 2147483647)) (cI 69621)) (cI 2147483629))]]
abbrev x6:Fn:=#["_law_cell",2,3,[.ite (.cmp .lt (.var 1) (.bi .len [.var 0])) [.ret (.idx (.var 0) (.var 1))] [],.set 2 (cI 0),.ite (.cmp .gt (.bi .len [.var 0]) (cI 0)) [.set 2 (.idx (.var 0) (.bin .mod (.var 1) (.bi .len [.var 0])))] [],.ret (.bin .add (.bin .mul (cI 2) (.call "_law_mix" [.var 2,.var 1])) (cI 1))]]
abbrev rO:Fn:=#["_law_drawn",2,5,[.set 2 (.lst []),.set 3 (.bin .Ov (.var 0) (cI 2)),.Mi cK [4] .ML [.var 1] [.ite (.cmp .eq (.bin .mod (.var 0) (cI 2)) (cI 0)) [.app 2 (.bin .mod (.var 3) (cI 64)),.set 3 (.bin .Ov (.var 3) (cI 64))] [.app 2 (.bin .mod (.bin .Ov (.call "_law_mix" [.var 0,.var 4]) (cI 7)) (cI 4096))]],.ret (.var 2)]]
end TM
namespace TM
open PySem L2 Mu
abbrev fNames:Fn:=#["_law_names",3,5,[.set 3 (.lst []),.Mi cK [4] .ML [.var 2] [.app 3 (.call "_law_name" [.call "_law_drawn" [.call "_law_cell" [.var 0,.bin .add (.var 1) (.var 4)],(cI 12)],.var 3])],.ret (.var 3)]]
abbrev ly:Fn:=#["_law_told",2,6,[.set 2 (.bi .len [.var 1]),.ite (.and [.cmp .gt (.bin .mod (.idx (.var 0) (cI 2)) (cI 3)) (cI 0),.cmp .gt (.bin .mod (.idx (.var 0) (cI 0)) (.bi .len [.var 1])) (cI 0)]) [.set 2 (.bin .mod (.idx (.var 0) (cI 0)) (.bi .len [.var 1]))] [],.set 3 (.lst []),.Mi cK [4] .ML [.idx (.lst [(cI 0),(cI 0),(cI 1),(cI 1),(cI 1),(cI 2),(cI 2),(cI 2),(cI 3),(cI 8)]) (.bin .mod (.idx (.var 0) (cI 1)) (cI 10))] [.set 5 (.idx (.var 1) (.bin .mod (.idx (.var 0) (.bin .add (cI 3) (.var 4))) (.var 2))),.ite (.cmp .L6 (.var 5) (.var 3)) [.app 3 (.var 5)] []],.ret (.bi .tuple [.var 3])]]
abbrev Cm:Fn:=#["_law_book",4,10,[.set 4 (.lst []),.set 5 (.Nl cb),.Mi cK [6] .ML [.var 3] [.set 7 (.call "_law_drawn" [.call "_law_cell" [.var 0,.bin .add (.var 1) (.var 6)],(cI 11)]),.set 8 (.tup [.idx (.var 2) (.bin .mod (.idx (.var 7) (cI 0)) (.bi .len [.var 2])),.call "_law_told" [.var 7,.var 2]]),.set 9 (.tup [.idx (.var 8) (cI 0),.bi .tuple [.bi .sorted [.idx (.var 8) (cI 1)]]]),.ite (.cmp .L6 (.var 9) (.var 5)) [.put 5 (.var 9) (.cst (.bl cb)),.app 4 (.var 8)] []],.ret (.bi .tuple [.var 4])]]
abbrev Cq:Fn:=#["_law_made",1,3,[.set 1 (.call "_law_drawn" [.call "_law_cell" [.var 0,(cI 0)],(cI 4)]),.set 2 (.call "_law_names" [.var 0,(cI 1),.bin .add (cI 1) (.bin .mod (.idx (.var 1) (cI 0)) (cI 14))]),.ret (.call "_law_book" [.var 0,(cI 20),.var 2,.bin .mod (.idx (.var 1) (cI 1)) (cI 41)])]]
abbrev rZ:Fn:=#["words_of",1,3,[.set 1 (.lst []),.Mi cK [2] .seq [.var 0] [.app 1 (.idx (.var 2) (cI 0)),.ext 1 (.idx (.var 2) (cI 1))],.ret (.Pk .sset [.var 1])]]
end TM
namespace KL
open PySem L2 TM
abbrev dG:Fn:=#["gathered",1,4,[.newD 1,.Mi cb [2,3] .seq [.var 0] [.ite (.inD cb (.var 2) 1) [.putD 1 (.var 2) (.lst [])] [],.NR 1 (.var 2) (.var 3)],.ret (.S5 1)]]
abbrev bA:Fn:=#["places_that_tell",1,4,[.set 1 (.lst []),.Mi cb [2,3] .QH [.var 0] [.ext 1 (.comp 1 cK .seq [.idx (.var 3) (cI 1)] [] (.tup [.var 0,.var 3]))],.ret (.call "gathered" [.var 1])]]
abbrev cZ:Fn:=#["new_steps",3,6,[.set 3 (.Nl cK),.Mi cK [4] .seq [.var 1] [.set 5 (.idx (.idx (.var 0) (.var 4)) (cI 0)),.ite (.and [.cmp .L6 (.var 5) (.var 2),.cmp .L6 (.var 5) (.var 3)]) [.put 3 (.var 5) (.var 4)] []],.ret (.S6 3)]]
abbrev bG:Fn:=#["steps_in_rounds",1,10,[.set 1 (.call "places_that_tell" [.var 0]),.set 2 (.comp 1 cK .seq [.var 0] [] (.bi .len [.idx (.var 0) (cI 1)])),.set 3 (.Nl cK),.set 4 (.lst []),.set 5 (.comp 2 cb .QH [.var 2] [.cmp .eq (.var 1) (cI 0)] (.var 0)),.QK (.cmp .ne (.var 5) (.lst [])) [.set 6 (.call "new_steps" [.var 0,.var 5,.var 3]),.set 5 (.lst []),.Mi cb [7,8] .seq [.var 6] [.put 3 (.var 7) (.cst (.bl cb)),.Mi cK [9] .seq [.Ox 1 (.var 7) (.lst [])] [.aug cb 2 (.var 9) (cI 1),.ite (.cmp .eq (.idx (.var 2) (.var 9)) (cI 0)) [.app 5 (.var 9)] []]],.ite (.cmp .ne (.var 6) (.lst [])) [.app 4 (.var 6)] []],.ret (.var 4)]]
abbrev gw:Fn:=#["order",1,3,[.set 1 (.lst []),.Mi cK [2] .seq [.call "steps_in_rounds" [.var 0]] [.ext 1 (.var 2)],.ret (.var 1)]]
abbrev fO:Fn:=#["learnt",1,1,[.ret (.bi .sorted [.comp 2 cb .seq [.call "order" [.var 0]] [] (.var 0)])]]
end KL
namespace TM
open PySem L2 Mu
abbrev KY:↑S:=[.ite (.and [.cmp .L6 (.var 3) (.var 1),.bi .all [.comp 1 cK .seq [.var 4] [] (.cmp .isin (.var 0) (.var 2))]]) [.put 1 (.var 3) (.cst (.bl cb)),.set 2 (.cst (.bl cb))] []]
abbrev Jc:↑S:=[.set 2 (.cst (.bl cK)),.Mi cb [3,4] .seq [.var 0] KY]
end TM
namespace KK
open PySem L2 TM Mu
abbrev yi:Fn:=#["not_learnt",1,1,[.ret (.R3 cK (.call "words_of" [.var 0]) (.call "learnt" [.var 0]))]]
end KK
namespace TM
open PySem L2 Mu
abbrev yo:Fn:=#["row_price",2,2,[.ret (.bin .add (cI 1) (.bi .sum [.comp 1 cK .seq [.idx (.var 0) (cI 1)] [] (.idx (.idx (.var 2) (.var 0)) (cI 0))]))]]
noncomputable def CU : ↑S :=
        [.ite (.bi .all [.comp 1 cK .seq [.idx (.var 4) (cI 1)] [] (.cmp .isin (.var 0) (.var 2))])
          [.set 5 (.call "row_price" [.var 4,.var 1]),
          .ite (.or [.cmp .L6 (.idx (.var 4) (cI 0)) (.var 1),.cmp .lt (.var 5) (.idx (.idx (.var 1) (.idx (.var 4) (cI 0))) (cI 0))])
            [.put 1 (.idx (.var 4) (cI 0)) (.tup [.var 5,.var 3]),
            .set 2 (.cst (.bl true))]
            []]
          []]
abbrev CV:↑S :=
   [.set 2 (.cst (.bl cK)),
   .Mi cb [3,4] .QH [(.var 0)] CU]
abbrev FP:Fn:=#["prices_and_places",1,6,[.set 1 (.Nl cK),.set 2 (.cst (.bl cb)),.QK (.var 2) CV,.ret (.var 1)]]
abbrev iA:Fn:=#["prices",1,1,[.ret (.bi .sorted [.comp 2 cb .S4 [.call "prices_and_places" [.var 0]] [] (.tup [.var 0,.idx (.var 1) (cI 0)])])]]
abbrev kS:Fn:=#["best_rows",1,1,[.ret (.bi .sorted [.comp 2 cb .S4 [.call "prices_and_places" [.var 0]] [] (.tup [.var 0,.idx (.var 1) (cI 1)])])]]
end TM
namespace TM
open PySem L2 Mu
abbrev C3:Fn:=#["refuse_unknown",2,2,[.ite (.cmp .gt (.R3 cb (.var 1) (.call "words_of" [.var 0])) (cI 0)) [.bad] []]]
abbrev C4:Fn:=#["refuse_unlearnt",2,2,[.ite (.cmp .L6 (.var 1) (.call "learnt" [.var 0])) [.bad] []]]
abbrev wm:↑S :=
   [.set 5 (.idx (.var 2) (.pop 4)),
   .app 3 (.var 5),
   .ext 4 (.idx (.idx (.var 0) (.var 5)) (cI 1))]
abbrev C7:Fn:=#["reading",2,6,[.exp (.call "refuse_unknown" [.var 0,.lst [.var 1]]),.exp (.call "refuse_unlearnt" [.var 0,.var 1]),.ite (.cmp .gt (.idx (.bi .dict [.call "prices" [.var 0]]) (.var 1)) (.N8 "DEAREST_READ" (.int 2000))) [.bad] [],.set 2 (.bi .dict [.call "best_rows" [.var 0]]),.set 3 (.lst []),.set 4 (.lst [.var 1]),.QK (.cmp .ne (.var 4) (.lst [])) wm,.ret (.Pk .Ow [.var 3])]]
end TM
namespace TM
open KK
abbrev C8:Fn:=#["_law_learnt",1,5,[.set 1 (.Nl cK),.set 2 (.cst (.bl cb)),.QK (.var 2) Jc,.ret (.bi .sorted [.var 1])]]
abbrev GF:Fn:=#["_law_words",1,3,[.set 1 (.comp 1 cK .seq [.var 0] [] (.idx (.var 0) (cI 0))),.Mi cK [2] .seq [.var 0] [.ext 1 (.idx (.var 2) (cI 1))],.ret (.Pk .sset [.var 1])]]
abbrev KZ:↑S:=[.ite (.or [.cmp .L6 (.var 8) (.var 7),.cmp .L6 (.var 8) (.var 2)]) [.ret (.cst (.bl cK))] []]
abbrev YC:↑S :=
   [.set 6 (.comp 1 cK .seq [.var 0] [.cmp .eq (.idx (.var 0) (cI 0)) (.var 5)] (.idx (.var 0) (cI 1))),
   .ite (.cmp .ne (.bi .len [.var 5]) (.bi .len [.var 6]))
    [.ret (.cst (.bl cK))]
    [],
   .Mi cb [7,8] .zip [(.var 6),(.var 5)] KZ]
abbrev YD:Fn:=#["_law_knot_right",2,9,[.set 2 (.comp 1 cK .seq [.var 1] [] (.idx (.var 0) (cI 0))),.set 3 (.call "_law_words" [.var 0]),.ite (.or [.cmp .ne (.var 2) (.Pk .sset [.var 2]),.not (.bi .all [.comp 1 cK .seq [.var 2] [] (.cmp .isin (.var 0) (.var 4))])]) [.ret (.cst (.bl cK))] [],.Mi cb [4,5] .seq [.var 1] YC,.ret (.cst (.bl cb))]]
abbrev bSr:↑S :=
   [.ite (.or [.cmp .isin (.var 3) (.var 2),.cmp .lt (.var 4) (cI 0),.cmp .ge (.var 4) (.bi .len [.var 0]),.cmp .ne (.idx (.idx (.var 0) (.var 4)) (cI 0)) (.var 3)])
    [.ret (.cst (.bl cK))]
    [],
   .ite (.not (.bi .all [.comp 1 cK .seq [.idx (.idx (.var 0) (.var 4)) (cI 1)] [] (.cmp .isin (.var 0) (.var 3))]))
    [.ret (.cst (.bl cK))]
    [],
   .put 2 (.var 3) (.cst (.bl cb))]
abbrev fSr:Fn:=#["_law_steps_right",2,5,[.set 2 (.Nl cK),.Mi cb [3,4] .seq [.var 1] bSr,.ret (.cst (.bl cb))]]
end TM
namespace K
open PySem L2 TM
abbrev top(i:Nat):T':=PySem.Challenge.pw_primer_k90_whole_from_a_text.main.body.getD i (.Pass #[0,0,0,0])
abbrev kU:Fn:=#["is_stem",1,1,[.ite (.or [.cmp .eq (.var 0) (.cst (.str "")),.cmp .gt (.bi .len [.var 0]) (.N8 "LONGEST_STEM" (.int 8))]) [.ret (.cst (.bl cK))] [],.ret (.bi .all [.comp 1 cK .seq [.var 0] [] (.cmp .isin (.var 0) (.N8 "LETTERS" (.str "abcdefghijklmnopqrstuvwxyz")))])]]
abbrev dH:Fn:=#["is_later_sense",1,1,[.ret (.cmp .isin (.var 0) (.comp 1 cK .QG [.bin .add (.N8 "FIRST_SENSE" (.int 1)) (cI 1),.bin .add (.N8 "LAST_SENSE" (.int 99)) (cI 1)] [] (.bi .str [.var 0])))]]
abbrev kW:Fn:=#["is_word",1,1,[.ite (.cmp .L6 (.cst (.str "/")) (.var 0)) [.ret (.call "is_stem" [.var 0])] [],.ret (.and [.call "is_stem" [.call "stem_of" [.var 0]],.call "is_later_sense" [.call "number_of" [.var 0]]])]]
abbrev qh:Fn:=#["stem_of",1,1,[.ret (.idx (.N9 .partition (.var 0) [.cst (.str "/")]) (cI 0))]]
abbrev lA:Fn:=#["number_of",1,1,[.ret (.idx (.N9 .partition (.var 0) [.cst (.str "/")]) (cI 2))]]
abbrev oD:Fn:=#["is_row",1,2,[.set 1 (.idx (.var 0) (cI 1)),.ite (.or [.cmp .gt (.bi .len [.var 1]) (.N8 "MOST_TOLD" (.int 8)),.cmp .lt (.Pk .iQ [.var 1]) (.bi .len [.var 1])]) [.ret (.cst (.bl cK))] [],.ret (.and [.call "is_word" [.idx (.var 0) (cI 0)],.bi .all [.comp 1 cK .seq [.var 1] [] (.call "is_word" [.var 0])]])]]
abbrev dr:Fn:=#["in_one_order",1,1,[.ret (.tup [.idx (.var 0) (cI 0),.bi .tuple [.bi .sorted [.idx (.var 0) (cI 1)]]])]]
abbrev dJ:Fn:=#["has_alike_rows",1,1,[.ret (.cmp .lt (.Pk .iQ [.comp 1 cK .seq [.var 0] [] (.call "in_one_order" [.var 0])]) (.bi .len [.var 0]))]]
abbrev wt:Fn:=#["fits",1,1,[.ite (.cmp .gt (.bi .len [.var 0]) (.N8 "MOST_ROWS" (.int 60))) [.ret (.cst (.bl cK))] [],.ret (.and [.bi .all [.comp 1 cK .seq [.var 0] [] (.call "is_row" [.var 0])],.not (.call "has_alike_rows" [.var 0])])]]
abbrev oE:Fn:=#["fitted",1,1,[.ite (.not (.call "fits" [.var 0])) [.bad] [],.ret (.var 0)]]
noncomputable abbrev oF:Fn:=TM.rZ
noncomputable abbrev dG:Fn:=KL.dG
noncomputable abbrev fP:Fn:=TM.C3
abbrev wu:Fn:=#["read",1,1,[.ite (.not (.Pn (.var 0) .str)) [.bad] [],.ite (.cmp .eq (.var 0) (.cst (.str ""))) [.ret (.tup [])] [],.ret (.call "fitted" [.bi .tuple [.comp 1 cK .seq [.N9 .split (.var 0) [.cst (.str "\n")]] [] (.call "read_row" [.var 0])]])]]
abbrev jo:Fn:=#["read_row",1,2,[.set 1 (.N9 .split (.var 0) [.cst (.str " ")]),.ite (.or [.cmp .lt (.bi .len [.var 1]) (cI 3),.not (.call "is_word" [.idx (.var 1) (cI 0)]),.cmp .ne (.idx (.var 1) (cI 1)) (.cst (.str "="))]) [.bad] [],.ret (.tup [.idx (.var 1) (cI 0),.call "read_told" [.Pj (.var 1) [(cI 2)] []]])]]
abbrev gZ:Fn:=#["read_told",1,1,[.ite (.cmp .eq (.var 0) (.lst [.N8 "PICTURE_SIGN" (.str "*")])) [.ret (.tup [])] [],.ite (.not (.bi .all [.comp 1 cK .seq [.var 0] [] (.call "is_word" [.var 0])])) [.bad] [],.ret (.bi .tuple [.var 0])]]
noncomputable abbrev bA:Fn:=KL.bA
noncomputable abbrev cZ:Fn:=KL.cZ
noncomputable abbrev bG:Fn:=KL.bG
noncomputable abbrev gw:Fn:=KL.gw
noncomputable abbrev fO:Fn:=KL.fO
noncomputable abbrev j3:Fn:=KK.yi
noncomputable abbrev fb:Fn:=TM.C4
abbrev Dc:Fn:=#["knot",1,4,[.newD 1,.Mi cK [2] .seq [.call "not_learnt" [.var 0]] [.putD 1 (.var 2) (.lst [])],.Mi cK [3] .seq [.var 0] [.ite (.inD cK (.idx (.var 3) (cI 0)) 1) [.NR 1 (.idx (.var 3) (cI 0)) (.idx (.comp 1 cK .seq [.idx (.var 3) (cI 1)] [.inD cK (.var 0) 2] (.var 0)) (cI 0))] []],.OA 1 (.tup [.var 0,.bi .tuple [.var 1]])]]
noncomputable abbrev lC:Fn:=TM.yo
noncomputable abbrev d6:Fn:=TM.FP
noncomputable abbrev uJ:Fn:=TM.iA
noncomputable abbrev lD:Fn:=TM.kS
noncomputable abbrev qi:Fn:=TM.C7
noncomputable abbrev qj:Fn:=TM.zB
noncomputable abbrev oG:Fn:=TM.x6
noncomputable abbrev lE:Fn:=TM.rO
abbrev oH:Fn:=#["_law_name",2,6,[.set 2 (.cst (.str "abcdefghijklmnopqrstuvwxyz")),.set 3 (.N9 .join (.cst (.str "")) [.comp 1 cK .ML [.bin .add (cI 1) (.bin .mod (.idx (.var 0) (cI 0)) (cI 8))] [] (.idx (.var 3) (.bin .mod (.idx (.var 1) (.bin .add (cI 4) (.var 0))) (cI 26)))]),.ite (.cmp .gt (.bi .len [.var 1]) (cI 0)) [.set 4 (.idx (.N9 .split (.idx (.var 1) (.bin .mod (.idx (.var 0) (cI 1)) (.bi .len [.var 1]))) [.cst (.str "/")]) (cI 0)),.ite (.cmp .eq (.bin .mod (.idx (.var 0) (cI 2)) (cI 4)) (cI 1)) [.set 3 (.Pj (.bin .add (.var 4) (.var 3)) [] [(cI 8)])] [],.ite (.cmp .eq (.bin .mod (.idx (.var 0) (cI 2)) (cI 4)) (cI 2)) [.set 3 (.bin .add (.bin .add (.var 4) (.cst (.str "/"))) (.bi .str [.bin .add (cI 2) (.bin .mod (.idx (.var 0) (cI 3)) (cI 98))]))] []] [],.set 5 (.bin .add (.lst [.var 3]) (.comp 1 cK .ML [(cI 40)] [] (.bin .add (.idx (.var 3) (.bin .Ov (.var 0) (cI 26))) (.idx (.var 3) (.bin .mod (.var 0) (cI 26)))))),.ret (.idx (.comp 1 cK .seq [.var 5] [.cmp .L6 (.var 0) (.var 2)] (.var 0)) (cI 0))]]
noncomputable abbrev lF:Fn:=TM.fNames
noncomputable abbrev oI:Fn:=TM.ly
noncomputable abbrev oJ:Fn:=TM.Cm
noncomputable abbrev oK:Fn:=TM.Cq
noncomputable abbrev j4:Fn:=TM.C8
noncomputable abbrev lG:Fn:=TM.GF
noncomputable abbrev fc:Fn:=TM.fSr
noncomputable abbrev fQ:Fn:=TM.YD
abbrev loB:↑TM.S:=[.app 1 (.bin .add (.bin .add (.var 2) (.cst (.str " = "))) (.N9 .join (.cst (.str " ")) [.bin .add (.bi .list [.var 3]) (.bin .mul (.lst [.cst (.str "*")]) (.bi .int [.cmp .eq (.var 3) (.tup [])]))]))]
abbrev jq:Fn:=#["_law_text",1,4,[.set 1 (.lst []),.Mi cb [2,3] .seq [.var 0] loB,.ret (.N9 .join (.cst (.str "\n")) [.var 1])]]
abbrev K3:↑TM.S:=[.Oy [4,5] (.idx (.var 0) (.var 3)),.ite (.bi .all [.comp 1 cK .seq [.var 5] [] (.cmp .isin (.var 0) (.var 2))]) [.ite (.cmp .gt (.idx (.var 1) (.var 4)) (.bin .add (cI 1) (.bi .sum [.comp 1 cK .seq [.var 5] [] (.idx (.var 2) (.var 0))]))) [.ret (.cst (.bl cK))] []] []]
abbrev K4:↑TM.S:=[.set 3 (.idx (.var 2) (.var 4)),.ite (.or [.cmp .lt (.var 3) (cI 0),.cmp .ge (.var 3) (.bi .len [.var 0]),.cmp .ne (.idx (.idx (.var 0) (.var 3)) (cI 0)) (.var 4)]) [.ret (.cst (.bl cK))] [],.set 5 (.idx (.idx (.var 0) (.var 3)) (cI 1)),.ite (.or [.not (.bi .all [.comp 1 cK .seq [.var 5] [] (.cmp .isin (.var 0) (.var 2))]),.cmp .ne (.idx (.var 1) (.var 4)) (.bin .add (cI 1) (.bi .sum [.comp 1 cK .seq [.var 5] [] (.idx (.var 2) (.var 0))]))]) [.ret (.cst (.bl cK))] []]
abbrev cj:Fn:=#["_law_prices_right",3,6,[.Mi cK [3] .ML [.bi .len [.var 0]] K3,.ite (.cmp .ne (.bi .sorted [.var 2]) (.bi .sorted [.var 1])) [.ret (.cst (.bl cK))] [],.Mi cK [4] .seq [.var 2] K4,.ret (.cst (.bl cb))]]
abbrev YE:↑TM.S:=[.ite (.or [.cmp .lt (.var 3) (cI 0),.cmp .ge (.var 3) (.bi .len [.var 0])]) [.ret (.cst .Mc)] [],.Oy [4,5] (.idx (.var 0) (.var 3)),.set 6 (.bin .sub (.bi .len [.var 2]) (.bi .len [.var 5])),.ite (.or [.cmp .lt (.var 6) (cI 0),.cmp .ne (.bi .tuple [.Pj (.var 2) [.var 6] []]) (.var 5)]) [.ret (.cst .Mc)] [],.set 2 (.bin .add (.Pj (.var 2) [] [.var 6]) (.lst [.var 4]))]
abbrev gy:Fn:=#["_law_pile",2,7,[.set 2 (.lst []),.Mi cK [3] .seq [.var 1] YE,.ret (.var 2)]]
abbrev K5:↑TM.S:=[.ite (.and [.cmp .eq (.var 9) (.var 7),.bi .all [.comp 1 cK .seq [.var 10] [] (.cmp .isin (.var 0) (.var 5))]]) [.app 8 (.bin .add (cI 1) (.bi .sum [.comp 1 cK .seq [.var 10] [] (.idx (.var 6) (.var 0))]))] []]
abbrev bDl:↑TM.S:=[.set 7 (.idx (.idx (.var 2) (.var 6)) (cI 0)),.set 8 (.lst []),.Mi cb [9,10] .seq [.var 1] K5,.put 5 (.var 7) (.idx (.var 8) (.bin .mod (.idx (.var 0) (.bin .mod (.var 6) (.bi .len [.var 0]))) (.bi .len [.var 8]))),.put 4 (.var 7) (.cst (.bl cb))]
abbrev dM:Fn:=#["_law_drawn_long",4,11,[.set 4 (.Nl cK),.set 5 (.Nl cK),.Mi cK [6] .ML [.bi .len [.var 2]] bDl,.ret (.idx (.var 5) (.var 3))]]
abbrev bPo:↑TM.S:=[.ite (.or [.not (.Pn (.var 1) .tuple),.cmp .ne (.bi .len [.var 1]) (cI 2),.not (.Pn (.idx (.var 1) (cI 1)) .int),.Pn (.idx (.var 1) (cI 1)) .bool]) [.ret (.cst .Mc)] []]
abbrev eQ:Fn:=#["_law_pairs_of",1,2,[.ite (.or [.not (.Pn (.var 0) .list),.cmp .ne (.var 0) (.bi .sorted [.var 0]),.cmp .lt (.bi .len [.bi .dict [.var 0]]) (.bi .len [.var 0])]) [.ret (.cst .Mc)] [],.Mi cK [1] .seq [.var 0] bPo,.ret (.bi .dict [.var 0])]]
abbrev VN:↑TM.S:=[.set 10 (.idx (.var 5) (.bin .mod (.idx (.var 8) (.var 9)) (.bi .len [.var 5]))),.ite (.cmp .gt (.idx (.var 6) (.var 10)) (.call "_law_drawn_long" [.var 8,.var 2,.var 3,.var 10])) [.ret (.cst (.bl cK))] [],.ite (.cmp .le (.idx (.var 6) (.var 10)) (cI 2000)) [.set 11 (.call "reading" [.var 2,.var 10]),.ite (.or [.cmp .ne (.bi .len [.var 11]) (.idx (.var 6) (.var 10)),.cmp .ne (.call "_law_pile" [.var 2,.var 11]) (.lst [.var 10])]) [.ret (.cst (.bl cK))] []] []]
abbrev Dd:Fn:=#["law",1,12,[.set 1 (.call "_law_made" [.var 0]),.set 2 (.call "read" [.call "_law_text" [.var 1]]),.ite (.cmp .ne (.bi .repr [.var 2]) (.bi .repr [.var 1])) [.ret (.cst (.bl cK))] [],.set 3 (.call "order" [.var 2]),.set 4 (.call "knot" [.var 2]),.set 5 (.bi .sorted [.comp 1 cK .seq [.var 3] [] (.idx (.var 0) (cI 0))]),.ite (.or [.not (.call "_law_steps_right" [.var 2,.var 3]),.not (.call "_law_knot_right" [.var 2,.var 4]),.cmp .ne (.var 5) (.call "_law_learnt" [.var 2])]) [.ret (.cst (.bl cK))] [],.ite (.cmp .ne (.bi .sorted [.bin .add (.var 5) (.comp 1 cK .seq [.var 4] [] (.idx (.var 0) (cI 0)))]) (.call "_law_words" [.var 2])) [.ret (.cst (.bl cK))] [],.set 6 (.call "_law_pairs_of" [.call "prices" [.var 2]]),.set 7 (.S7 (.call "_law_pairs_of" [.call "best_rows" [.var 2]])),.ite (.or [.cmp .is (.var 6) (.cst .Mc),.cmp .is (.var 7) (.cst .Mc),.cmp .ne (.bi .sorted [.var 6]) (.var 5),.not (.call "_law_prices_right" [.var 2,.var 6,.var 7])]) [.ret (.cst (.bl cK))] [],.set 8 (.call "_law_drawn" [.call "_law_cell" [.var 0,(cI 19)],(cI 40)]),.Mi cK [9] .ML [.bi .min [(cI 5),.bi .len [.var 5]]] VN,.ret (.cst (.bl cb))]]
abbrev prog:↑Fn:=[kU,dH,kW,qh,lA,oD,dr,dJ,wt,oE,oF,dG,fP,wu,jo,gZ,bA,cZ,bG,gw,fO,j3,fb,Dc,lC,d6,uJ,lD,qi,qj,oG,lE,oH,lF,oI,oJ,oK,j4,lG,fc,fQ,jq,cj,gy,dM,eQ,Dd]
end K
namespace K
open PySem L2 TM PySem.W PyProof.Rows
abbrev m0:hY:=.str "primer.words" 287
abbrev m1:hY:=.str "primer.books" 330
abbrev m2:hY:=.str "primer.reader" 395
abbrev m3:hY:=.str "primer.learning" 419
abbrev m4:hY:=.str "primer.knots" 475
abbrev m5:hY:=.str "primer.prices" 483
abbrev m6:hY:=.str "primer.readings" 509
abbrev m7:hY:=.str "law_primer_k90_whole_from_a_text" 525
abbrev ml:Me:=#[Dd,69,["_law_script","_law_drawn_here","_law_book_here","_law_steps","_law_pairs","_law_known","_law_costs","_law_best","_law_bits","_law_k","_law_word","_law_places"],370,369,m7,co "law" 677 324 1 366 367 .none .none (.ref 368) 680 681 181]
abbrev ms:↑Me:=[⟨kU,12,["text"],92,91,m0,co "is_stem" 297 19 1 88 89 .none .none (.ref 90) 300 301 181⟩,
 ⟨dH,13,["text"],97,96,m0,co "is_later_sense" 303 23 1 93 94 .none .none (.ref 95) 306 307 181⟩,
 ⟨kW,14,["text"],104,103,m0,co "is_word" 309 25 1 98 99 (.ref 100) (.ref 101) (.ref 102) 313 314 181⟩,
 ⟨qh,15,["word"],111,110,m0,co "stem_of" 316 29 1 105 106 (.ref 107) (.ref 108) (.ref 109) 320 321 181⟩,
 ⟨lA,16,["word"],118,117,m0,co "number_of" 323 31 1 112 113 (.ref 114) (.ref 115) (.ref 116) 327 328 181⟩,
 ⟨oD,20,["row","told"],123,122,m1,co "is_row" 336 36 1 119 120 .none .none (.ref 121) 339 340 181⟩,
 ⟨dr,21,["row"],130,129,m1,co "in_one_order" 342 41 1 124 125 (.ref 126) (.ref 127) (.ref 128) 346 347 181⟩,
 ⟨dJ,22,["book"],135,134,m1,co "has_alike_rows" 349 43 1 131 132 .none .none (.ref 133) 352 353 181⟩,
 ⟨wt,23,["book"],140,139,m1,co "fits" 355 45 1 136 137 .none .none (.ref 138) 358 359 181⟩,
 ⟨oE,24,["book"],147,146,m1,co "fitted" 361 49 1 141 142 (.ref 143) (.ref 144) (.ref 145) 365 366 181⟩,
 ⟨oF,25,["book","words","row"],154,153,m1,co "words_of" 368 53 1 148 149 (.ref 150) (.ref 151) (.ref 152) 374 375 181⟩,
 ⟨dG,26,["pairs","found","key","value"],161,160,m1,co "gathered" 377 59 1 155 156 (.ref 157) (.ref 158) (.ref 159) 384 385 181⟩,
 ⟨fP,27,["book","words"],168,167,m1,co "refuse_unknown" 387 66 2 162 163 (.ref 164) (.ref 165) (.ref 166) 392 393 181⟩,
 ⟨wu,30,["text"],173,172,m2,co "read" 399 71 1 169 170 .none .none (.ref 171) 402 403 181⟩,
 ⟨jo,31,["line","parts"],180,179,m2,co "read_row" 405 77 1 174 175 (.ref 176) (.ref 177) (.ref 178) 410 411 181⟩,
 ⟨gZ,32,["parts"],185,184,m2,co "read_told" 413 82 1 181 182 .none .none (.ref 183) 416 417 181⟩,
 ⟨bA,34,["book","pairs","place","row"],190,189,m3,co "places_that_tell" 421 89 1 186 187 .none .none (.ref 188) 424 425 181⟩,
 ⟨cZ,35,["book","places","known","steps","place","word"],197,196,m3,co "new_steps" 427 94 3 191 192 (.ref 193) (.ref 194) (.ref 195) 436 437 181⟩,
 ⟨bG,36,["book","tellers","missing","known","found","ready","steps","word","place","teller"],202,201,m3,co "steps_in_rounds" 439 101 1 198 199 .none .none (.ref 200) 442 443 181⟩,
 ⟨gw,37,["book","found","steps"],209,208,m3,co "order" 445 119 1 203 204 (.ref 205) (.ref 206) (.ref 207) 451 452 181⟩,
 ⟨fO,38,["book"],214,213,m3,co "learnt" 454 124 1 210 211 .none .none (.ref 212) 457 458 181⟩,
 ⟨j3,39,["book"],221,220,m3,co "not_learnt" 460 126 1 215 216 (.ref 217) (.ref 218) (.ref 219) 464 465 181⟩,
 ⟨fb,40,["book","word"],228,227,m3,co "refuse_unlearnt" 467 128 2 222 223 (.ref 224) (.ref 225) (.ref 226) 472 473 181⟩,
 ⟨Dc,42,["book","blocks","word","row"],233,232,m4,co "knot" 477 132 1 229 230 .none .none (.ref 231) 480 481 181⟩,
 ⟨lC,44,["row","found"],238,237,m5,co "row_price" 485 141 2 234 235 .none .none (.ref 236) 488 489 181⟩,
 ⟨d6,45,["book","found","fallen","place","row","price"],243,242,m5,co "prices_and_places" 491 143 1 239 240 .none .none (.ref 241) 494 495 181⟩,
 ⟨uJ,46,["book"],248,247,m5,co "prices" 497 155 1 244 245 .none .none (.ref 246) 500 501 181⟩,
 ⟨lD,47,["book"],253,252,m5,co "best_rows" 503 157 1 249 250 .none .none (.ref 251) 506 507 181⟩,
 ⟨qi,50,["book","word","places","backward","waiting","place"],260,259,m6,co "reading" 513 161 2 254 255 (.ref 256) (.ref 257) (.ref 258) 522 523 181⟩,
 ⟨qj,52,["_law_cell_here","_law_k","_law_by"],267,266,m7,co "_law_mix" 527 175 2 261 262 (.ref 263) (.ref 264) (.ref 265) 533 534 181⟩,
 ⟨oG,53,["_law_script","_law_k","_law_seed"],274,273,m7,co "_law_cell" 536 178 2 268 269 (.ref 270) (.ref 271) (.ref 272) 542 543 181⟩,
 ⟨lE,54,["_law_cell_here","_law_many","_law_found","_law_left","_law_k"],281,280,m7,co "_law_drawn" 545 185 2 275 276 (.ref 277) (.ref 278) (.ref 279) 553 554 181⟩,
 ⟨oH,55,["_law_drawn_here","_law_names_here","_law_letters","_law_name_here","_law_stem","_law_spare"],286,285,m7,co "_law_name" 556 195 2 282 283 .none .none (.ref 284) 559 560 181⟩,
 ⟨lF,56,["_law_script","_law_base","_law_many","_law_names_here","_law_k"],293,292,m7,co "_law_names" 562 206 3 287 288 (.ref 289) (.ref 290) (.ref 291) 570 571 181⟩,
 ⟨oI,57,["_law_drawn_here","_law_names_here","_law_top","_law_told_here","_law_k","_law_one"],300,299,m7,co "_law_told" 573 211 2 294 295 (.ref 296) (.ref 297) (.ref 298) 582 583 181⟩,
 ⟨oJ,58,["_law_script","_law_base","_law_names_here","_law_many","_law_rows","_law_met","_law_k","_law_drawn_here","_law_row","_law_key"],307,306,m7,co "_law_book" 585 221 4 301 302 (.ref 303) (.ref 304) (.ref 305) 598 599 181⟩,
 ⟨oK,59,["_law_script","_law_drawn_here","_law_names_here"],314,313,m7,co "_law_made" 601 232 1 308 309 (.ref 310) (.ref 311) (.ref 312) 607 608 181⟩,
 ⟨j4,60,["_law_book_here","_law_known","_law_going","_law_word","_law_told_here"],319,318,m7,co "_law_learnt" 610 236 1 315 316 .none .none (.ref 317) 613 614 181⟩,
 ⟨lG,61,["_law_book_here","_law_words_here","_law_row"],324,323,m7,co "_law_words" 616 246 1 320 321 .none .none (.ref 322) 619 620 181⟩,
 ⟨fc,62,["_law_book_here","_law_steps","_law_known","_law_word","_law_place"],329,328,m7,co "_law_steps_right" 622 251 2 325 326 .none .none (.ref 327) 625 626 181⟩,
 ⟨fQ,63,["_law_book_here","_law_pairs","_law_held","_law_words_here","_law_word","_law_blocks","_law_rows","_law_told_here","_law_block"],334,333,m7,co "_law_knot_right" 628 260 2 330 331 .none .none (.ref 332) 631 632 181⟩,
 ⟨jq,64,["_law_book_here","_law_rows","_law_word","_law_told_here"],341,340,m7,co "_law_text" 634 273 1 335 336 (.ref 337) (.ref 338) (.ref 339) 641 642 181⟩,
 ⟨cj,65,["_law_book_here","_law_costs","_law_best","_law_place","_law_word","_law_told_here"],346,345,m7,co "_law_prices_right" 644 278 3 342 343 .none .none (.ref 344) 647 648 181⟩,
 ⟨gy,66,["_law_book_here","_law_places","_law_pile_here","_law_place","_law_word","_law_told_here","_law_cut"],353,352,m7,co "_law_pile" 650 294 2 347 348 (.ref 349) (.ref 350) (.ref 351) 660 661 181⟩,
 ⟨dM,67,["_law_drawn_here","_law_book_here","_law_steps","_law_word","_law_ahead","_law_longs","_law_k","_law_here","_law_some","_law_name_here","_law_told_here"],358,357,m7,co "_law_drawn_long" 663 305 4 354 355 .none .none (.ref 356) 666 667 181⟩,
 ⟨eQ,68,["_law_found","_law_pair"],365,364,m7,co "_law_pairs_of" 669 317 1 359 360 (.ref 361) (.ref 362) (.ref 363) 674 675 181⟩,
 ml]
abbrev gg(P:Ū):Obj:=#[.type "dict",b6,.dict #v[ge P "__name__" 165 (.str "law_primer_k90_whole_from_a_text" 525),ge P "__doc__" 166 .none,ge P "__package__" 167 .none,ge P "__loader__" 168 (.builtin "__main__.__loader__#opaque"),ge P "__spec__" 169 .none,ge P "__annotations__" 170 (.ref 6),ge P "__builtins__" 171 (.ref 4),ge P "__file__" 173 (.str "/claim/cut.py" 172),ge P "__cached__" 174 .none,ge P "PrimerError" 206 (.ref 24),ge P "NoText" 222 (.ref 37),ge P "Unfit" 238 (.ref 49),ge P "Unknown" 254 (.ref 61),ge P "Unlearnt" 270 (.ref 73),ge P "TooMany" 286 (.ref 85),ge P "LETTERS" 290 (.str "abcdefghijklmnopqrstuvwxyz" 289),ge P "LONGEST_STEM" 292 (.int 8 291),ge P "FIRST_SENSE" 294 (.int 1 293),ge P "LAST_SENSE" 296 (.int 99 295),ge P "is_stem" 302 (.ref 92),ge P "is_later_sense" 308 (.ref 97),ge P "is_word" 315 (.ref 104),ge P "stem_of" 322 (.ref 111),ge P "number_of" 329 (.ref 118),ge P "MOST_TOLD" 333 (.int 8 332),ge P "MOST_ROWS" 335 (.int 60 334),ge P "is_row" 341 (.ref 123),ge P "in_one_order" 348 (.ref 130),ge P "has_alike_rows" 354 (.ref 135),ge P "fits" 360 (.ref 140),ge P "fitted" 367 (.ref 147),ge P "words_of" 376 (.ref 154),ge P "gathered" 386 (.ref 161),ge P "refuse_unknown" 394 (.ref 168),ge P "PICTURE_SIGN" 398 (.str "*" 397),ge P "read" 404 (.ref 173),ge P "read_row" 412 (.ref 180),ge P "read_told" 418 (.ref 185),ge P "places_that_tell" 426 (.ref 190),ge P "new_steps" 438 (.ref 197),ge P "steps_in_rounds" 444 (.ref 202),ge P "order" 453 (.ref 209),ge P "learnt" 459 (.ref 214),ge P "not_learnt" 466 (.ref 221),ge P "refuse_unlearnt" 474 (.ref 228),ge P "knot" 482 (.ref 233),ge P "row_price" 490 (.ref 238),ge P "prices_and_places" 496 (.ref 243),ge P "prices" 502 (.ref 248),ge P "best_rows" 508 (.ref 253),ge P "DEAREST_READ" 512 (.int 2000 511),ge P "reading" 524 (.ref 260),ge P "_law_mix" 535 (.ref 267),ge P "_law_cell" 544 (.ref 274),ge P "_law_drawn" 555 (.ref 281),ge P "_law_name" 561 (.ref 286),ge P "_law_names" 572 (.ref 293),ge P "_law_told" 584 (.ref 300),ge P "_law_book" 600 (.ref 307),ge P "_law_made" 609 (.ref 314),ge P "_law_learnt" 615 (.ref 319),ge P "_law_words" 621 (.ref 324),ge P "_law_steps_right" 627 (.ref 329),ge P "_law_knot_right" 633 (.ref 334),ge P "_law_text" 643 (.ref 341),ge P "_law_prices_right" 649 (.ref 346),ge P "_law_pile" 662 (.ref 353),ge P "_law_drawn_long" 668 (.ref 358),ge P "_law_pairs_of" 676 (.ref 365),ge P "law" 682 (.ref 370)] 70,#v[]]
abbrev hk:Hook:=kHook (λP=>OC top (gg P) ms) (adr ms) λP=>xT top (gg P) ms
def Tc(w):(oe w).map hk.obs≈hk.val w:=by kernel_rfl
end K
namespace TM
open PySem L2
section
variable{X:Cx}{pins:List (k7×Obj)}{σ:St}{H:Hp}{s:k9}{C:Ct}{S:k7->Prop}
def xk(I:Inv X pins σ H s)(h:Mz X.K H a vs):∃its,Vals vs its/\s.heap.IsList a its.toArray/\⇑vs<=dt:=by
 have(its,r,p,z):=I.list h;show#[its,r,p.isList,z]
inductive MR(s:k9):Nat->U->hY->Prop where
 |Mc {n:Nat}:MR s n .Mc .none
 |bl {n:Nat} {b:Bool}:MR s n (.bl b) (.bool b)
 |int {n:Nat} {i:Int} {t:Tok}:MR s n (.int i) (.int i t)
 |str {n:Nat} {y:Str} {t:Tok}:MR s n (.str y) (.str y t)
 |tup {n:Nat} {us:↑U} {its:↑hY} {a:k7}:⇑us=⇑its->(∀j (hj:j<⇑its),MR s n (us.getD j .Mc) its[j])->cX us us=cb->s.heap.IsTuple a its.toArray->MR s (n+1) (.tup us) (.ref a)
 |lst {n:Nat} {us:↑U} {its:↑hY} {a:k7}:⇑us=⇑its->(∀j (hj:j<⇑its),MR s n (us.getD j .Mc) its[j])->cX us us=cb->s.heap.IsList a its.toArray->MR s (n+1) (.lst us) (.ref a)
def MR.self(h:MR s n u x):cq u u=cb:=by
 cases h<;>first|assumption|simp[cq]
theorem MR.EA(f:∀u v x,M8 n u=cb->Rep C S H u v->RelV v x->MR s n u x):∀{us}{vs}{its},gf n us=cb->ai C S H us vs->Vals vs its->⇑us=⇑its/\(∀j a,MR s n (us.getD j .Mc) its[j])/\cX us us=cb
 |[],_,_,_,h,r=>by cases h;cases r;show#[rfl,λj a=>(nomatch a),rfl]
 |u::us,_,_,e,h,r=>by
  have(v,vs,rfl,b,d):=h;simp only[gf,et]at e;cases r with
  |cons c g =>
   have(l,k,y):=MR.EA f e.2 d g;show#[by simp[l],λj a=>?_,by rw[cX,(f _ _ _ e.1 b c).self,y];rfl];cases j with
   |zero=>show f _ _ _ e.1 b c
   |succ j=>show k j ⋯
def MR.of(I:Inv X pins σ H s)(d:C.K=X.K):∀n u v x,M8 n u=cb->Rep C S H u v->RelV v x->MR s n u x:=by
 intro n;induction n with
 |zero=>intro u v x e h r;cases u<;>first|(simp[M8]at e;done)|(subst h;first|(constructor)|(have(t,rfl):=r;constructor))
 |succ n f =>
  intro u v x e h r;cases u with
  |tup us =>
   have(a,vs,rfl,b,c):=h;cases r;have(its,rv,p,_):=I.tuple (d▸b);have(l,k,y):=MR.EA f (by assumption) c rv;show .tup l k y p
  |lst us =>
   have(a,vs,rfl,b,c):=h;cases r;have(its,rv,p,_):=xk I (d▸b.sq);have(l,k,y):=MR.EA f (by simpa[M8] using e) c rv;show .lst l k y p
  |_=>first|(simp[M8]at e;done)|(subst h;first|(constructor)|(have(t,rfl):=r;constructor))
def MR.inj:∀{n}{u w}{x},MR s n u x->MR s n w x->u=w:=by
 intro n;induction n with
 |zero=>intro u w x h h';cases h<;>cases h'<;>rfl
 |succ n q =>
  have go:∀{us ws:↑U} {its its':↑_} {a} {o o'} {m f},⇑us=⇑its->(∀j r,MR s n (us.getD j .Mc) its[j])->⇑ws=⇑its'->(∀j r,MR s n (ws.getD j .Mc) its'[j])->s.heap.get? a≈o->o.data=.seq its.toArray m->s.heap.get? a≈o'->o'.data=.seq its'.toArray f->us=ws:=by
   intro us ws its its' a o o' m f l k c k' e d g d';have:its=its':=⋯
   subst this;show PH ⋯ λj t v=>?_;have:=q (k j ⋯) (k' j ⋯);simpa[t,v] using this
  intro u w x h h';cases h with
  |tup l k y p =>
   cases h' with
   |tup c k' i b=>have(o,e,_,m,d):=p;have(o',g,_,f,d'):=b;rw[go l k c k' e d g d']
   |lst c k' i b=>show absurd rfl (ĩ b p)
  |lst l k y p =>
   cases h' with
   |lst c k' i b=>have(o,e,_,m,d):=p;have(o',g,_,f,d'):=b;rw[go l k c k' e d g d']
   |tup c k' i b=>show absurd rfl (ĩ p b)
  |_=>cases h';rfl
theorem kq:∀{us ws},⇑us≠⇑ws->cX us ws=cK
 |[],[],h=>absurd rfl h
 |[],_::_,_=>rfl
 |_::_,[],_=>rfl
 |u::us,w::ws,h=>by
  rw[cX,kq   (λe=>h (by simp[e])),VU]
theorem gO:∀{us ws},⇑us=⇑ws->cX us ws=(fS ⇑us).all λj=>cq (us.getD j .Mc) (ws.getD j .Mc)
 |[],[],_=>rfl
 |[],_::_,h=>by simp at h
 |_::_,[],h=>by simp at h
 |u::us,w::ws,h=>by
  have h':=by simpa using h
  rw[cX,gO h',nz,Y_,List.all_cons,List.all_map];rfl
def J1{its its':↑hY}(b:⇑us=⇑its)(c:⇑ws=⇑its'):cX us ws=((fS (min its.toArray.size its'.toArray.size)).all (λj=>cq (us.getD j .Mc) (ws.getD j .Mc))&&its.toArray.size==its'.toArray.size):=by
 simp only[ri];by_cases a:⇑us=⇑ws
 .rw[gO a,show min _ _=⇑us by lia,show(⇑its==⇑its')=cb by grind,ϥ]
 .rw[kq a,show(⇑its==⇑its')=cK by grind,VU]
def xl(b:MR s n u y)(h:ő A s y x k)(hs:y=x->k=cb):YV A s y x k:=λprog w E Q a=>by
 show qI ?_;show wpAny_ite_split (λc=>?_) (λ_=>?_)
 .rw[hs (eq_of_beq c)]at a;show b5 (Qt (cL a))
 .cases b<;>show b5 (h prog w E _ (Q5 a))
def XI(q:∀m,m+1=n->∀{u w}{x f}{A},MR s m u x->MR s m w f->A.units+m<MJ->YV A s x f (cq u w))(h:MR s n u x)(h':MR s n w f)(t:A.units+n<MJ):ő A s x f (cq u w)/\ϝ A s x f (!cq u w):=by
 have a:A.units<MJ:=⋯
 have go:∀{m:Nat} {us ws:↑U} {its its':↑hY},m+1=n->(∀j (r:j<⇑its),MR s m (us.getD j .Mc) its[j])->(∀j (r:j<⇑its'),MR s m (ws.getD j .Mc) its'[j])->∀j (g:j<its.toArray.size) (i:j<its'.toArray.size),YV A.in1 s its.toArray[j] its'.toArray[j] (cq (us.getD j .Mc) (ws.getD j .Mc)):=λ{m us ws its its'} e k k' j g i=>q m e (k j g) (k' j i) (by grind);cases h with
 |Mc =>
  cases h' with
  |Mc=>show#[.none_none,.none_none]
  |bl=>show#[.none_bool _,.none_bool _]
  |int=>show#[.none_int _ _,.none_int _ _]
  |str=>show#[.none_str _ _,.none_str _ _]
  |tup c k' d b=>show#[.none_tuple b a,.none_tuple b a]
  |lst c k' d b=>show#[.none_list b a,.none_list b a]
 |bl =>
  cases h' with
  |Mc=>show#[.bool_none _,.bool_none _]
  |bl=>show#[.bool_bool _ _,.bool_bool _ _]
  |int=>show#[.bool_int _ _ _,.bool_int _ _ _]
  |str=>show#[.bool_str _ _ _,.bool_str _ _ _]
  |tup c k' d b=>show#[.bool_tuple _ b a,.bool_tuple _ b a]
  |lst c k' d b=>show#[.bool_list _ b a,.bool_list _ b a]
 |int =>
  cases h' with
  |Mc=>show#[.int_none _ _,.int_none _ _]
  |bl=>show#[.int_bool _ _ _,.int_bool _ _ _]
  |int=>show#[.int_int _ _ _ _,.int_int _ _ _ _]
  |str=>show#[.int_str _ _ _ _,.int_str _ _ _ _]
  |tup c k' d b=>show#[.int_tuple _ _ b a,.int_tuple _ _ b a]
  |lst c k' d b=>show#[.int_list _ _ b a,.int_list _ _ b a]
 |str =>
  cases h' with
  |Mc=>show#[.str_none _ _,.str_none _ _]
  |bl=>show#[.str_bool _ _ _,.str_bool _ _ _]
  |int=>show#[.str_int _ _ _ _,.str_int _ _ _ _]
  |str=>show#[.str_str _ _ _ _,.str_str _ _ _ _]
  |tup c k' d b=>show#[.str_tuple _ _ b a,.str_tuple _ _ b a]
  |lst c k' d b=>show#[.str_list _ _ b a,.str_list _ _ b a]
 |tup l k y p =>
  cases h' with
  |Mc=>show#[.tuple_none p a,.tuple_none p a]
  |bl=>show#[.tuple_bool _ p a,.tuple_bool _ p a]
  |int=>show#[.tuple_int _ _ p a,.tuple_int _ _ p a]
  |str=>show#[.tuple_str _ _ p a,.tuple_str _ _ p a]
  |tup c k' d b=>rw[show cq (.tup _) (.tup _)=_ from J1 l c];show#[.tuples p b a (go rfl k k'),.tuples p b a (go rfl k k')]
  |lst c k' d b=>show#[.tuple_list p b a,.tuple_list p b a]
 |lst l k y p =>
  cases h' with
  |Mc=>show#[.list_none p a,.list_none p a]
  |bl=>show#[.list_bool _ p a,.list_bool _ p a]
  |int=>show#[.list_int _ _ p a,.list_int _ _ p a]
  |str=>show#[.list_str _ _ p a,.list_str _ _ p a]
  |tup c k' d b=>show#[.list_tuple p b a,.list_tuple p b a]
  |lst c k' d b =>
   rename_i us _ _ ws _ _;by_cases o:⇑us=⇑ws
   .rw[show cq (.lst us) (.lst ws)=_ from gO o,l,<-ri];show#[.lists p b ⋯ a (go rfl k k'),.lists p b ⋯ a (go rfl k k')]
   .rw[show cq (.lst us) (.lst ws)=cK from kq o];show#[.lists_lengths p b ⋯ a,.lists_lengths p b ⋯ a]
def J2:∀{n}{u w}{x a}{A},MR s n u x->MR s n w a->A.units+n<MJ->YV A s x a (cq u w):=by
 intro n;induction n with
 |zero=>intro u w x a A h h' b;show xl h (XI (λm e=>by cases e) h h' b).1 λe=>by subst e;rw[h.inj h'];show h'.self
 |succ n c=>intro u w x a A h h' b;show xl h (XI (λm e=>by cases e;show c) h h' b).1 λe=>by subst e;rw[h.inj h'];show h'.self
def J3(h:MR s n u x)(h':MR s n w a)(b:A.units+n<MJ):ő A s x a (cq u w)/\ϝ A s x a (!cq u w):=XI (λm e=>by show J2) h h' b
end
end TM
namespace TM
open PySem L2 PyProof.Rows
inductive Md(C:Ct)(m:M (Kd×U))(σ:L2.St)(H:Hp)(Q:VK):Prop
 |mk:∀c0:Cf,c0.σ=σ->c0.H=H->Ok C c0->(W m c0.st λr st'=>∀c v,c.σ=σ->c.st=st'->Ok C c->Nx c0 c->aW C c0 c r.1 r.2 v->Q v c.H)->Md C m σ H Q
inductive Np(C:Ct)(m:M Bool)(σ:L2.St)(H:Hp)(Q:Bool->Hp->Prop):Prop
 |mk:∀c0:Cf,c0.σ=σ->c0.H=H->Ok C c0->(W m c0.st λb st'=>∀c,c.σ=σ->c.st=st'->Ok C c->Nx c0 c->Q b c.H)->Np C m σ H Q
def eX(C:Ct)(c0 c:Cf):↑(Kd×U)->↑V->Prop
 |[],vs=>vs=[]
 |r::rs,vs=>∃v t,vs=v::t/\gL C c0 c r.1 r.2 v/\eX C c0 c rs t/\(r.1=.own->∀(i:Nat) a b,rs[i]?≈a->t[i]?≈b->a.1=.own->b≠v)
inductive NB(C:Ct)(m:M (↑(Kd×U)))(σ:L2.St)(H:Hp)(Q:↑V->Hp->Prop):Prop
 |mk:∀c0:Cf,c0.σ=σ->c0.H=H->Ok C c0->(W m c0.st λrs st'=>∀c vs,c.σ=σ->c.st=st'->Ok C c->Nx c0 c->eX C c0 c rs vs->Q vs c.H)->NB C m σ H Q
def PE.weak(h:PE X e t)(i:∀σ H Q,t' σ H Q->t σ H Q):PE X e t':=λa s σ H Q I q=>h a s σ H Q I (i σ H Q q)
def PT.weak(h:PT X e t)(i:∀σ H Q,t' σ H Q->t σ H Q):PT X e t':=λa s σ H Q I q=>h a s σ H Q I (i σ H Q q)
def cF{st}:W (aR rs) st Q↔bB rs st/\Q () st:=by
 constructor
 .rintro⟨a,st',e,h⟩;unfold aR at e
  grind
 .rintro⟨c,b⟩;show#[(),st,by unfold aR;simp_all,b]
def ie{st}:bB (r::rs) st↔bB [r] st/\bB rs st:=by
 have(k,u):=r;cases k<;>simp[bB]
def gL.t(h:gL C c0 c k u v)(s:bB [(k,u)] c.st):aW C c0 c k u v:=by
 cases k with
 |bor j=>show#[s.1,h]
 |_=>show h
structure Uu(C:Ct)(c0 c:Cf)(x y:Kd×U)(vx vy:V):Prop where
 hσ:c.σ=c0.σ
 ok:Ok C c
 nx:Nx c0 c
 rx:aW C c0 c x.1 x.2 vx
 ry:aW C c0 c y.1 y.2 vy
 ne:x.1=.own->y.1=.own->vy≠vx
def rg(h:gL C c0 c1 k u v)(h':gL C c1 c k' u' b):k=.own->k'=.own->b≠v:=by
 rintro rfl rfl e;have(r,d,_,_,_,f):=h;have(i,g,a,_):=h';have(o,ho,_):=f.some;subst d;rw[g]at e;cases e;rw[ho]at a;cases a
def two{k:Kd×U->Kd×U->M β}{m}{f:hY->hY->Sem α}{B:hY->hY->α->k9->Prop}(Q:PE X a (Md C T))(Y:PE X b (Md C D))(I:Inv X d c0.σ c0.H s)(ok:Ok C c0)
  (h:W (T >>= λx=>D >>= λy=>aR [x,y] >>= λ_=>k x y) c0.st m)
  (hf:∀x y c e g v u n,Uu C c0 c x y e g->Inv X d c.σ c.H n->RelV e v->RelV g u->W (k x y) c.st m->(fx (gj X.prog X.w) X.A) (f v u) (B v u) X.xe n) :
  (fx (gj X.prog X.w) X.A) (K1 a X.env) (λv s₁=>(fx (gj X.prog X.w) X.A) (K1 b X.env) (λu s₂=>(fx (gj X.prog X.w) X.A) (f v u) (B v u) X.xe s₂) X.xe s₁) X.xe s:=by
 rw[ah]at h;show Mb (Q d s _ c0.H (λe G=>∃x c1,c1.H=G/\c1.σ=c0.σ/\Ok C c1/\Nx c0 c1/\aW C c0 c1 x.1 x.2 e/\W (D >>= λy=>aR [x,y] >>= λ_=>k x y) c1.st m) I ⟨c0,rfl,rfl,ok,h.mono λx st1 z c1 e o e2 p q r=>#[x,c1,rfl,o,p,q,r,by simp_all]⟩) ?_;rintro v s1 ⟨e,G,I1,rv,x,c1,rfl,o,p,q,r,z⟩;rw[ah]at z;show Mb (Y d s1 _ c1.H (λg J=>∃y i,i.H=J/\Uu C c0 i x y e g/\W (k x y) i.st m) I1 ⟨c1,o,rfl,p,z.mono λy st2 j i g L e4 Ms N O=>?_⟩) ?_
 .rw[ah,cF]at j;subst e4;rw[ie]at j;show#[y,i,rfl,#[L,Ms,q.trans N,(r.w.on p N (L.trans o.symm)).t j.1.1,(O.from q),rg r.w O.w],j.2]
 .rintro u n ⟨g,J,I2,ru,y,i,rfl,l,j⟩;have hs:=l.hσ;show hf x y i e g v u n l ⋯ rv ru j
structure QL(C:Ct)(c0 c:Cf)(x:Kd×U)(vx:V):Prop where
 hσ:c.σ=c0.σ
 ok:Ok C c
 nx:Nx c0 c
 rx:aW C c0 c x.1 x.2 vx
def one{k:Kd×U->M β}{e}{f:hY->Sem α}{g}(n:PE X a (Md C o))(I:Inv X b c0.σ c0.H s)(ok:Ok C c0)
  (h:W (o >>= λx=>k x) c0.st e)
  (p:∀x c d v i,QL C c0 c x d->Inv X b c.σ c.H i->RelV d v->W (k x) c.st e->(fx (gj X.prog X.w) X.A) (f v) g X.xe i) :
  (fx (gj X.prog X.w) X.A) (K1 a X.env) (λv q=>(fx (gj X.prog X.w) X.A) (f v) g X.xe q) X.xe s:=by
 rw[ah]at h;show Mb (n b s _ c0.H (λd j=>∃x c1,c1.H=j/\QL C c0 c1 x d/\W (k x) c1.st e) I ⟨c0,rfl,rfl,ok,h.mono λx st1 l c1 d r B t u y=>#[x,c1,rfl,#[r,t,u,y],by simp_all]⟩) ?_;rintro v s1 ⟨d,j,z,rv,x,c1,rfl,m,l⟩;show p x c1 d v s1 m (by rw[m.hσ];show z) rv l
abbrev cG(C:Ct)(c0:Cf)(Q:VK)(r:Kd×U)(st':aK):Prop:=∀c v,c.σ=c0.σ->c.st=st'->Ok C c->Nx c0 c->aW C c0 c r.1 r.2 v->Q v c.H
def cG.flat(h:cG C c0 Q (.loc,u) c.st)(a:c.σ=c0.σ)(ok:Ok C c)(n:Nx c0 c)(r:Rep C c.S c.H u v):Q v c.H:=h c v a rfl ok n r
def cG.list(h:cG C c0 Q (.own,.lst us) c.st)(a:c.σ=c0.σ)(ok:Ok C c)(n:Nx c0 c)(r:ai C c.S c.H us vs)(p)(b:c.H p=b6):Q (.ref p) (upd c.H p (.lst vs)):=by
 have(d,e,f):=ok.newList n b r;show h {c with H:=upd c.H p _} _ a rfl d e f
def cG.tup(h:cG C c0 Q (.loc,.tup us) c.st)(a:c.σ=c0.σ)(ok:Ok C c)(n:Nx c0 c)(r:ai C c.S c.H us vs)(p)(b:c.H p=b6):Q (.ref p) (upd c.H p (.tup vs)):=by
 have(d,e,f):=ok.HD n b r;show h {c with H:=upd c.H p _} _ a rfl d e f
def cG.tupK(h:cG C c0 Q (kE k,.tup us) c.st)(b:c.σ=c0.σ)(ok:Ok C c)(n:Nx c0 c)(r:ai C (SK C c k) c.H us vs)(p)(d:c.H p=b6):Q (.ref p) (upd c.H p (.tup vs)):=by
 have(e,a):=ok.lay  d;show h {c with H:=upd c.H p _} _ b rfl e (n.trans a) (aW.item ?_);cases k<;>show#[p,vs,rfl,MA.of av,by first|show r.mv (ok.Qo a)|show r.mv (ok.mv a)]
def da(h:fB k us=cb)(r:ai C (SK C c k) c.H us vs):ai C c.S c.H us vs:=by
 cases k with
 |any=>show r.Mr (by assumption)
 |_=>show r
def HW(k k'):∀a,SK C c k a->SK C c (kT k k') a:=by
 intro a h;cases k<;>cases k'<;>first|show h|show .inr h
def EB(k k'):∀a,SK C c k' a->SK C c (kT k k') a:=by
 intro a h;cases k<;>cases k'<;>first|show h|show .inr h
def J4(k k'):kE (kT k k')=kT k k':=by cases k<;>cases k'<;>rfl
def EC:NG X (WM .Add) (λx y H Q=>∃l b xs zs,x=.ref l/\y=.ref b/\Mz X.K H l xs/\Mz X.K H b zs/\⇑xs+⇑zs<=dt/\∀p,H p=b6->Q (.ref p) (upd H p (.lst (xs++zs)))):=by
 intro d s σ H x y v u Q I o t h;have(l,b,xs,zs,rfl,rfl,w,A,hz,q):=h;cases o;cases t;have(its,r,B,z):=I.list w;have(e,f,C,N):=I.list A;have hl:=⇑r;have O8:=⇑f;have((cls,dd,data,D),ho,g,n,i):=B.isList;have((j,c,data2,G),k,m,J,a):=C.isList;simp only at g i m a;subst g i m a;show concat_meets #[_,ho,rfl] #[_,k,rfl] noFill_list_add seq_list_add F.slot_list_add F.entry_list_add (F.args_list_add_2 _ _)
   (list_addW l b _ _ n J dd c D G ⋯) #[ho,k,?_]
 have L:its.toArray++e.toArray=(its++e).toArray:=⋯
 rw[L];show#[.ref _,_,I.JP  (r.append f) (by rw[ko];lia),rfl,q _ I.fresh]
section
variable{X:Cx}{C:Ct}{pins:List (k7×Obj)}{s:k9}{c0 c:Cf}{Q:VK}
abbrev Vu.op:Vu->Φ
 |.add=>.Add|.sub=>.Sub|.mul=>.Mult|.Ov=>.FloorDiv|.mod=>.Mod|.pow=>.Pow
theorem xm{S}(h:ai C S H us vs):∀k,ai C S H (hZ k us).flatten (hZ k vs).flatten
 |0=>rfl
 |k+1=>by
  show h.append (xm h k)
def ED:NG X (WM .Mult) (λx y H Q=>∃l k xs,x=.ref l/\y=.int k/\Rd H l (.lst xs)/\-(2 ^ 63)<=k/\k<2 ^ 63/\⇑xs * k.toNat<=dt/\∀p,H p=b6->Q (.ref p) (upd H p (.lst (hZ k.toNat xs).flatten))):=by
 intro pins s σ H x y v u Q I d f h;have(l,k,xs,rfl,rfl,g,i,j,hz,q):=h;cases d;have(t,rfl):=f;have(z,its,n,r,e):=g.ok I.L7;have hl:=⇑r;have b:its.toArray.size * k.toNat<=dt:=⋯
 have o:¬its.toArray.size * k.toNat>(2 ^ 63 - 1) / 8:=by
  have:dt<=(2 ^ 63 - 1) / 8:=⋯
  lia
 have w:¬(!aal k)=cb:=by
  rw[fitsIndex_both i j];simp
 have A:¬OT (its.toArray.size * k.toNat)=cb:=by
  rw[sH b];simp
 have B:List.foldl (λD G=>D++G) #v[] (hZ (if its.toArray.isEmpty=cb then 0 else k.toNat) its.toArray)=(hZ k.toNat its).flatten.toArray:=by
  have J:=λm=>by
   have:=foldl_rep its m []
   assumption
  rw[J];cases its with
  |nil=>simp
  |cons a N=>rfl
 show wpAny_binaryOp_repeat_ref (T:="list") (U:="int") ⋯ #[_,e,rfl] (λL=>ĸ L k t) noFill_list_mul F.fills_int_mul ϱ repeat_list F.slot_int_index.lookup
  (SV ϱ (ĸ s k t) F.entry_int_rmul (F.args_int_rmul_2 _ _) (int___rmul___int_list k t l its.toArray n)
   ⟨e,rfl,⟨_,e,rfl⟩,SV F.slot_list_mul ⟨_,e,rfl⟩ F.entry_list_mul (F.args_list_mul_2 _ _) (AutoListH.list___mul___list_int_3 l its.toArray n k t w o A) ⟨e,?_⟩⟩)
 rw[B];show#[.ref _,_,I.JP  (r.rep k.toNat) (by rw[len_rep,aae];show hz),rfl,q _ I.fresh]
def fE(h:rf f a b≈r):∃i j o,a=.int i/\b=.int j/\f i j≈o/\r=(.loc,.int o):=by
 unfold rf at h;split at h
 .rw[eu]at h;have(o,e,rfl):=h;show#[_,_,o,rfl,rfl,e,rfl]
 .cases h
def HX(L:C.K=X.K)(t:Uu C c0 c x y f g)(I:Inv X pins c.σ c.H s)(k:RelV f v)(l:RelV g u)(h:Oe N x y≈r)(q:cG C c0 Q r c.st):
  (fx (gj X.prog X.w) X.A) (WM N.op v u) (EP X pins c.σ Q) X.xe s:=by
 have(m,ok,n,z,B,_):=t;cases N with
 |add =>
  have h:ze x y≈r:=h;unfold ze at h;split at h
  .have ex:=z.int ok;have d:=B.int ok;cases h;show fU pins s c.σ c.H f g v u Q I k l #[_,_,ex,d,q.flat m ok n rfl]
  .have ex:=z.str ok;have d:=B.str ok;split at h
   .cases h;show uS pins s c.σ c.H f g v u Q I k l #[_,_,ex,d,by assumption,q.flat m ok n rfl]
   .cases h
  .have(a,vs,ex,G,D):=z.list ok;have(b,ws,d,T,O):=B.list ok;split at h
   .rename_i hh;cases h;show EC pins s c.σ c.H f g v u Q I k l #[a,b,vs,ws,ex,d,L▸G,L▸T,by rw[<-D.len,<-O.len];show hh.1,λp J=>q.list m ok n ((da hh.2.1 D).append (da hh.2.2 O)) p J]
   .cases h
  .cases h
 |sub =>
  have(i,j,o,ex,d,e,rfl):=fE h;have ex:=(ex▸z).int ok;have d:=(d▸B).int ok;cases e;show mH pins s c.σ c.H f g v u Q I k l #[_,_,ex,d,q.flat m ok n rfl]
 |mul =>
  by_cases hl:xh x.2=cb
  .have h:(if xh x.2=cb then Er x y.2 else rf zf x.2 y.2)≈r:=h;rw[if_pos hl]at h;have(k',uy):=y;unfold Er at h;split at h
   .rename_i Vx n0 Y S8 h0;subst Y;have(a,ex,_,_,_,vs,G,D):=z;have d:=B.int ok;split at h
    .rename_i hh;cases h;show ED pins s c.σ c.H f g v u Q I k l #[a,_,vs,ex,d,.inl G,hh.1,hh.2.1,by rw[<-D.len];show hh.2.2,λp J=>q.list m ok n (xm D _) p J]
    .cases h
   .cases h
  have h:(if xh x.2=cb then Er x y.2 else rf zf x.2 y.2)≈r:=h;rw[if_neg hl]at h;have(i,j,o,ex,d,e,rfl):=fE h;have ex:=(ex▸z).int ok;have d:=(d▸B).int ok;unfold zf at e;split at e
  .cases e;show qt pins s c.σ c.H f g v u Q I k l #[_,_,ex,d,by assumption,q.flat m ok n rfl]
  .cases e
 |Ov =>
  have(i,j,o,ex,d,e,rfl):=fE h;have ex:=(ex▸z).int ok;have d:=(d▸B).int ok;unfold Es at e;split at e
  .cases e;show DJ pins s c.σ c.H f g v u Q I k l #[_,_,ex,d,by assumption,q.flat m ok n rfl]
  .cases e
 |mod =>
  have(i,j,o,ex,d,e,rfl):=fE h;have ex:=(ex▸z).int ok;have d:=(d▸B).int ok;unfold Et at e;split at e
  .cases e;show cS pins s c.σ c.H f g v u Q I k l #[_,_,ex,d,by assumption,q.flat m ok n rfl]
  .cases e
 |pow =>
  have(i,j,o,ex,d,e,rfl):=fE h;have ex:=(ex▸z).int ok;have d:=(d▸B).int ok;unfold Eu at e;split at e
  .cases e;show qu pins s c.σ c.H f g v u Q I k l #[_,_,ex,d,by assumption,q.flat m ok n rfl]
  .cases e
def EE(d:C.K=X.K)(f:PE X a (Md C g))(i:PE X b (Md C j)):PE X (.BinOp a k.op b pos) (Md C (g >>= λx=>j >>= λy=>aR [x,y] >>= λ_=>M.Mw (Oe k x y))):=by
 rintro pins s σ H Q I ⟨c0,rfl,rfl,ok,h⟩;show wpAny_BinOp (two f i I ok h λx y c o p v u A t l m n w=>?_);have(r,e,q):=bW.mp w;show Mb (HX d t l m n e q) λ_ _ z=>by rw[t.hσ]at z;show z
abbrev Um.op:Um->CmpOp
 |.eq=>.Eq|.ne=>.NotEq|.lt=>.Lt|.le=>.LtE|.gt=>.Gt|.ge=>.GtE|.isin=>.In|.L6=>.NotIn|.is=>.Is|.XE=>.IsNot
def J5{neg:Bool}(I:Inv X pins c.σ c.H s)(g:C.K=X.K)(J:X.A.units+60<MJ){S}(n:Rep C S c.H x m)(o:RelV m v)(r:ai C S c.H i vs)
  (ha:Mz C.K c.H a vs\/MA C.K c.H a vs) (t:M8 50 x=cb) (u:gf 50 i=cb) {Q} (q:Q (.bool (if neg then !(i.any λy=>cq y x) else i.any λy=>cq y x)) s) :
  (fx (gj X.prog X.w) X.A) (RW (if neg then .NotIn else .In) v (.ref a)) Q X.xe s:=by
 have z:=MR.of I g 50 x m v t n o;have go:∀its ,Vals vs its->∃e,(∀y,y∈its.toArray->YV X.A.in1 s y v (e y))/\its.toArray.any e=i.any λy=>cq y x:=by
  intro its rv;have(l,k,_):=MR.EA (MR.of I g 50) u r rv
  classical
  have q:∀j (b:j<⇑its),dV (∃w,MR s 50 w its[j]/\cq w x=cb)=cq _ x:=λj b=>by
   rw[Sb,decide_eq_true_iff];show#[λ⟨w,d,f⟩=>by rw[<-d.inj (k j b)];show f,λh=>#[_,k j b,h]]
  show#[λy=>dV (∃w,MR s 50 w y/\cq w x=cb),λy L=>?_,?_]
  .have(j,b,e):=Xt (show y∈its by simp_all);subst e;change YV _ _ _ _ (decide _);rw[q j b];show J2 (k j b) z (by grind)
  .rw[Sb];simp only[List.any_toArray,ø];constructor
   .rintro⟨y,B,h⟩;have(j,b,rfl):=Xt B;rw[q j b]at h;show#[_,Wr (l▸b),by simpa[l▸b] using h]
   .rintro⟨w,D,G⟩;have(j,b,rfl):=Xt D;show#[_,Wr (l▸b),by rw[q j (l▸b)];simpa[b] using G]
 rcases ha with ha|ha
 .have(its,rv,p,_):=xk I (g▸ha);have(e,d,f):=go its rv;cases neg with
  |false=>show SeqAt.in_listAt e p d (by rw[f];show q)
  |true=>show SeqAt.notIn_listAt e p d (by rw[f];show q)
 .rw[g]at ha;have(its,rv,p,_):=I.tuple ha;have(e,d,f):=go its rv;cases neg with
  |false=>show SeqAt.in_tupleAt e p d (by rw[f];show q)
  |true=>show SeqAt.notIn_tupleAt e p d (by rw[f];show q)
end
theorem bX:∀{us}{ss},strsOf us≈ss->us=ss.map .str
 |[],ss,h=>by cases h;rfl
 |.str x::us,ss,h=>by
  simp only[strsOf,eu]at h;have(t,a,rfl):=h;rw[bX a];rfl
 |.Mc::_,_,h=>by cases h
 |.bl _::_,_,h=>by cases h
 |.int _::_,_,h=>by cases h
 |.tup _::_,_,h=>by cases h
 |.lst _::_,_,h=>by cases h
 |.J' _ _::_,_,h=>by cases h
 |.NI _ _::_,_,h=>by cases h
 |.M9 _::_,_,h=>by cases h
theorem gP:∀{us}{a},intsOf us≈a->us=a.map .int
 |[],a,h=>by cases h;rfl
 |u::us,a,h=>by
  cases u<;>first|(cases h)|skip
  have h':(intsOf us).map _≈a:=h;rw[eu]at h';have(ms,e,rfl):=h';rw[gP e];rfl
theorem ai.ints{S}:∀{a:↑Int}{vs},ai C S H (a.map .int) vs->vs=a.map V.int
 |[],vs,h=>h
 |n::a,vs,h=>by
  have(v,r,rfl,b,c):=h;rw[ai.ints c];have:=b;rw[this];rfl
theorem nO:∀{us}{ss},nF us≈ss->us=ss.map .bl
 |[],ss,h=>by cases h;rfl
 |.bl x::us,ss,h=>by
  simp only[nF,eu]at h;have(t,a,rfl):=h;rw[nO a];rfl
 |.Mc::_,_,h=>by cases h
 |.str _::_,_,h=>by cases h
 |.int _::_,_,h=>by cases h
 |.tup _::_,_,h=>by cases h
 |.lst _::_,_,h=>by cases h
 |.J' _ _::_,_,h=>by cases h
 |.NI _ _::_,_,h=>by cases h
 |.M9 _::_,_,h=>by cases h
theorem ai.ZN{S}:∀{xs:↑Bool}{vs},ai C S H (xs.map .bl) vs->vs=xs.map V.bl
 |[],vs,h=>h
 |x::xs,vs,h=>by
  have(v,r,rfl,a,b):=h;rw[ai.ZN b];have:=a;rw[this];rfl
abbrev J6(r:iS):U:=.tup [.str r.1,.tup (r.2.map .str)]
def jc(h:rowOf u≈r):u=J6 r:=by
 unfold rowOf at h;split at h
 .rw[eu]at h;have(ss,a,rfl):=h;rw[bX a];rfl
 .cases h
abbrev HY(X:Cx)(a:↑(k7×Obj))(c:Cf)(b:Bool)(v:hY)(d:k9):Prop:=v=.bool b/\Inv X a c.σ c.H d
def d9(o:NG X f r)(I:Inv X a c.σ c.H s)(g:RelV d v)(i:RelV e u)(h:r d e c.H λx H'=>x=.bl b/\H'=c.H):
  (fx (gj X.prog X.w) X.A) (f v u) (HY X a c b) X.xe s :=
 Mb (o a s c.σ c.H d e v u _ I g i h) λw n j=>by
  have(z,H',k,r,l,m):=j;subst l m;show#[r,k]
inductive ZO(C:Ct)(c:Cf)(k:Kd)(ks:↑Str)(us:↑U)(v:V):Prop
 |mk:∀a kvs,v=.ref a->c.H a≈.dK kvs->kvs.map (·.1)=ks.map mA->ai C (SK C c k) c.H us (kvs.map (·.2))->ZO C c k ks us v
def aW.dict(ok:Ok C c)(h:aW C c0 c k (.J' ks us) v):ZO C c k ks us v:=by
 cases k with
 |own=>have(r,e,_,_,_,kvs,b,d,f):=h;show#[r,kvs,e,b,d,f]
 |bor j=>have(r,e,_,_,_,kvs,b,d,f):=ok.rootOf h.1 h.2;show#[r,kvs,e,b,d,f]
 |io=>show h.elim
 |F'=>show h.elim
 |_=>have(a,e,_,kvs,b,d,f):=h;show#[a,kvs,e,b,d,f]
def aW.xn(ok:Ok C c)(h:aW C c0 c k (.NI ks us) v):∃a o kvs,v=.ref a/\c.H a≈.MN o (.dK kvs)/\kvs.map (·.1)=ks.map mA/\ai C (SK C c k) c.H us (kvs.map (·.2)):=by
 cases k with
 |own=>have(r,e,_,_,_,h):=h;show h.elim
 |bor j=>have(r,e,_,_,_,h):=ok.rootOf h.1 h.2;show h.elim
 |io=>show h.elim
 |F'=>show h.elim
 |_=>have(a,e,o,kvs,b,d,f):=h;show#[a,o,kvs,e,b,d,f]
def aW.xg(ok:Ok C c)(h:aW C c0 c k (.M9 ks) v):∃a,v=.ref a/\gz C.P C.w C.K c.H a ks:=by
 cases k with
 |own=>have(r,e,_,_,_,h):=h;show#[r,e,h]
 |bor j=>have(r,e,_,_,_,h):=ok.rootOf h.1 h.2;show#[r,e,h]
 |io=>show h.elim
 |F'=>show h.elim
 |_=>have(a,e,_,h):=h;show#[a,e,h]
theorem cH{S}:∀{ks}{us}{kvs:↑(Key×V)},kvs.map (·.1)=ks.map mA->ai C S H us (kvs.map (·.2)) ->
  (∀u,cu ks us x≈u->∃v,eF kvs (mA x)≈v/\Rep C S H u v)/\(eF kvs (mA x)).isSome=dV (x∈ks)
 |[],us,kvs,a,b=>by
  have:=by simpa using a
  subst this;show#[λu h=>by cases us<;>simp[cu]at h,by rfl]
 |k::ks,us,[],a,b=>by simp at a
 |k::ks,[],p::kvs,a,b=>by simp[ai]at b
 |k::ks,j::us,p::kvs,a,b=>by
  have(v,r,e,d,f):=b;cases e;rw[gr,gr,UC]at a;have(g,i):=cH  a.2 f;by_cases hk:k=x
  .subst hk;show#[λu h=>?_,?_]
   .simp[cu]at h;subst h;show#[p.2,fi a.1,d]
   .rw[fi a.1];simp
  .have c:¬p.1=mA x:=⋯
   show#[λu h=>?_,?_]
   .simp[cu,hk]at h;have(v,e,q):=g u h;show#[v,by rw[fj c];show e,q]
   .rw[fj c,i];simp[ve hk]
def HZ(e:X.A.units+3<MJ):NG X (RW .In) (λx y H Q=>∃k d ks,fw X.K H x k/\y=.ref d/\gz X.prog X.w X.K H d ks/\Q (.bl (dV (k∈ks))) H):=by
 intro c s σ H x y v u Q I f g h;have(k,d,ks,(a,b,rfl,i,j),rfl,(xs,l,m,n),q):=h;cases f;cases g;have(o,dd):=mQ I l n;show wpAny_in_heap e (jy I #[a,b,rfl,i,j]) o dd ?_;show#[_,H,I.tok _,by rw[iT,m];rfl,q]
def Rep.row{S}(h:Rep C S H (J6 r) v):fw C.K H v r:=by
 have(a,vs,e,d,o,p,f,g,q,s,i,j,k):=h;cases k;have l:=g;have(b,ws,m,n,c):=j;rw[ai.strs]at c;subst f i l m c;show#[a,b,e,d,n]
def Rep.nE{S:k7->Prop}(h:Rep C S H u v):dV (v=.Mc)=nE u:=by
 cases u with
 |Mc=>have:v=.Mc:=h;subst this;rfl
 |bl b=>have:v=.bl b:=h;subst this;rfl
 |int b=>have:v=.int b:=h;subst this;rfl
 |str b=>have:v=.str b:=h;subst this;rfl
 |tup us=>have(a,vs,rfl,_):=h;rfl
 |lst us=>have(a,vs,rfl,_):=h;rfl
 |_=>have(a,rfl,_):=h;rfl
def ig{c}(h:zg f a b≈c):∃i j,a=.int i/\b=.int j/\f i j=c:=by
 unfold zg at h;split at h
 .cases h;show#[_,_,rfl,rfl,rfl]
 .cases h
def Bo(hP:C.P=X.prog)(hw:C.w=X.w)(D:C.K=X.K)(hu:X.A.units+60<MJ)(t:Uu C c0 c x y Q vy)(I:Inv X q c.σ c.H s)(d:RelV Q v)(f:RelV vy u)(h:bJ op x.2 y.2≈b):
  (fx (gj X.prog X.w) X.A) (RW op.op v u) (HY X q c b) X.xe s:=by
 have(hσ,ok,n,m,l,_):=t;have(kx,O):=x;have(ky,J):=y
 dsimp only at h m l
 have has:∀neg:Bool,∀L,Bc O J≈L->(fx (gj X.prog X.w) X.A) (RW (if neg then .NotIn else .In) v u) (HY X q c (if neg then !L else L)) X.xe s:=by
  intro neg L h;have N:=m.read ok;have T:=l.read ok;unfold Bc at h;split at h
  .have(a,vs,rfl,g,p):=T;cases f;unfold R4 at h;split at h
   .rename_i hh;cases h;show J5 I D hu N d p (.inl g.sq) hh.1 hh.2 #[by cases neg<;>rfl,I]
   .cases h
  .have(a,vs,rfl,g,p):=T;cases f;unfold R4 at h;split at h
   .rename_i hh;cases h;show J5 I D hu N d p (.inr g) hh.1 hh.2 #[by cases neg<;>rfl,I]
   .cases h
  .cases h;have ex:Q=_:=N;have ey:vy=_:=T;cases neg with
   |false=>show d9 yJ I d f #[_,_,ex,ey,rfl,rfl]
   |true=>show d9 qA I d f #[_,_,ex,ey,rfl,rfl]
  .cases h;have ex:Q=_:=N;have(a,kvs,rfl,g,p,B):=l.dict ok;cases f;subst ex;have hs:=λz =>(cH (x:=z) p B).2;cases neg with
   |false=>show He ⋯ I (fm.k (k:=mA _) g) d λY G=>#[by rw[hs];rfl,G]
   |true=>show qD ⋯ I (fm.k (k:=mA _) g) d λY G=>#[by rw[hs];rfl,G]
  .cases h;have ex:Q=_:=N;have(a,o,kvs,rfl,g,p,B):=l.xn ok;cases f;subst ex;have hs:=λz =>(cH (x:=z) p B).2;cases neg with
   |false=>show He ⋯ I (.inl #[kvs,mA _,.inr #[o,g],rfl,rfl]) d λY G=>#[by rw[hs];rfl,G]
   |true=>show qD ⋯ I (.inl #[kvs,mA _,.inr #[o,g],rfl,rfl]) d λY G=>#[by rw[hs];rfl,G]
  .rw[eu]at h;have(r,g,p):=h;have e:=jc g;subst e;have hr:=N.row;have(a,ea,B):=l.xg ok;rw[D]at hr B;rw[hP,hw]at B;subst p;cases neg with
   |false=>show d9 (HZ ⋯) I d f #[r,a,_,hr,ea,B,rfl,rfl]
   |true=>show d9 (yU ⋯) I d f #[r,a,_,hr,ea,B,rfl,rfl]
  .cases h
 have ZP:∀{r},(if M8 50 O=cb/\M8 50 J=cb then bD r else b6)≈b->(M8 50 O=cb/\M8 50 J=cb)/\r=b:=λh=>by
  split at h
  .rename_i hh;cases h;show#[hh,rfl]
  .cases h
 cases op with
 |eq =>
  have(hh,rfl):=ZP h;show(J3 (n:=50) (.of I D _ _ _ _ hh.1 (m.read ok) d) (.of I D _ _ _ _ hh.2 (l.read ok) f) ⋯).1 _ _ _ _ #[rfl,I]
 |ne =>
  have(hh,rfl):=ZP h;show(J3 (n:=50) (.of I D _ _ _ _ hh.1 (m.read ok) d) (.of I D _ _ _ _ hh.2 (l.read ok) f) ⋯).2 _ _ _ _ #[rfl,I]
 |lt=>have(i,j,rfl,rfl,rfl):=ig h;show d9 JF I d f #[_,_,m.int ok,l.int ok,rfl,rfl]
 |le=>have(i,j,rfl,rfl,rfl):=ig h;show d9 JG I d f #[_,_,m.int ok,l.int ok,rfl,rfl]
 |gt=>have(i,j,rfl,rfl,rfl):=ig h;show d9 JH I d f #[_,_,m.int ok,l.int ok,rfl,rfl]
 |ge=>have(i,j,rfl,rfl,rfl):=ig h;show d9 JI I d f #[_,_,m.int ok,l.int ok,rfl,rfl]
 |isin=>show has cK b h
 |L6 =>
  have(L,g,rfl):=eu.mp (show(Bc O J).map (!·)≈b from h);show has cb L g
 |is =>
  have h:(if nE J=cb then bD (nE O) else b6)≈b:=h;split at h
  .rename_i hn;cases h;cases J with
   |Mc=>show d9 G4 I d f #[l.Mc ok,by rw[(m.read ok).nE],rfl]
   |_=>cases hn
  .cases h
 |_=>cases h
def EF(g:C.P=X.prog)(i:C.w=X.w)(j:C.K=X.K)(k:X.A.units+60<MJ)(l:PE X a (Md C m))(n:PE X b (Md C o))(p:Xx d.op b=cK):
  PE X (.Compare a [d.op] [b] pos) (Md C (m >>= λx=>o >>= λy=>aR [x,y] >>= λ_=>M.Mw (bJ d x.2 y.2) >>= λc=>pure (.loc,.bl c))):=by
 rintro f s σ H Q I ⟨c0,rfl,rfl,ok,h⟩;show wpAny_Compare1 (two l n I ok h λx y c N O v u T t B D G w=>?_) p;rw[ah]at w;have(r,e,q):=bW.mp w;rw[ak]at q;show Mb (Bo g i j k t B D G e) λz Y J=>?_;have(e,L):=J;subst e;show#[.bl r,c.H,by rw[<-t.hσ];show L,rfl,q c _ t.hσ rfl t.ok t.nx rfl]
def EG(g:C.P=X.prog)(i:C.w=X.w)(j:C.K=X.K)(k:X.A.units+60<MJ)(l:PE X a (Md C m))(n:PE X b (Md C o))(p:Xx d.op b=cK):
  PT X (.Compare a [d.op] [b] pos) (Np C (m >>= λx=>o >>= λy=>aR [x,y] >>= λ_=>M.Mw (bJ d x.2 y.2))):=by
 rintro f s σ H Q I ⟨c0,rfl,rfl,ok,h⟩;show ż (two   l n I ok h λx y c N O v u T t B D G w=>?_) p;have(r,e,q):=bW.mp w;show Mb (Bo g i j k t B D G e) λz Y J=>?_;have(e,L):=J;subst e;show Q5 #[c.H,by rw[<-t.hσ];show L,q c t.hσ rfl t.ok t.nx]
abbrev J7(C:Ct)(c0:Cf)(Q:Bool->Hp->Prop)(b:Bool)(st':aK):Prop:=∀c,c.σ=c0.σ->c.st=st'->Ok C c->Nx c0 c->Q b c.H
def H9(a:c1.σ=c0.σ)(ok:Ok C c1)(n:Nx c0 c1)(h:W m c1.st (cG C c0 Q)):Md C m c0.σ c1.H Q :=
 #[c1,a,rfl,ok,h.mono λr st b c v d e f g i=>b c v d e f (n.trans g) (i.from n)]
def Bp(a:c1.σ=c0.σ)(ok:Ok C c1)(n:Nx c0 c1)(h:W m c1.st (J7 C c0 Q)):Np C m c0.σ c1.H Q :=
 #[c1,a,rfl,ok,h.mono λr st b c d e f g=>b c d e f (n.trans g)]
def aZ(ok:Ok C c0)(h:W (a >>= k) c0.st b)
  (hz:∀x c v,QL C c0 c x v->W (k x) c.st b->Z v c.H):Md C a c0.σ c0.H Z:=by
 rw[ah]at h;show#[c0,rfl,rfl,ok,h.mono λx st1 j c1 d e l f g i=>hz x c1 d #[e,f,g,i] ⋯]
def gQ(ok:Ok C c0)(h:W (a >>= k) c0.st d)
  (hz:∀b c,c.σ=c0.σ->Ok C c->Nx c0 c->W (k b) c.st d->Z b c.H):Np C a c0.σ c0.H Z:=by
 rw[ah]at h;show#[c0,rfl,rfl,ok,h.mono λx st1 i c1 e j f g=>hz x c1 e f g ⋯]
abbrev J8(m:M (Kd×U))(x:Kd×U):M (Kd×U):=match x.2 with
 |.bl cb=>m
 |.bl cK=>pure (.loc,.bl cK)
 |_=>M.fail
abbrev J9(x:Kd×U):M (Kd×U):=match x.2 with
 |.bl c=>pure (.loc,.bl !c)
 |_=>M.fail
def snd_and(i:PE X a (Md C j))(l:PE X (.BoolOp .And (b::d) pos) (Md C m)):PE X (.BoolOp .And (a::b::d) pos) (Md C (j >>= J8 m)):=by
 show PE.weak (GS i l) ?_;rintro σ H Q ⟨c0,rfl,rfl,ok,h⟩;show aZ ok h λx c v t w=>?_;have(k,u):=x;have(g,f,n,r):=t;unfold J8 at w;split at w
 .rename_i e;subst e;show#[cb,r.bl f,by show H9 g f n w]
 .rename_i e;subst e;rw[ak]at w;show#[_,r.bl f,by show w c _ g rfl f n rfl]
 .show(bF.mp w).elim
def EH(d:PE X a (Md C f)):PE X (.UnaryOp .Not a pos) (Md C (f >>= J9)):=by
 show PE.weak (GU d) ?_;rintro σ H Q ⟨c0,rfl,rfl,ok,h⟩;show aZ ok h λx c v t w=>?_;have(k,u):=x;have(g,b,n,r):=t;unfold J9 at w;split at w
 .rename_i e;subst e;rw[ak]at w;show#[_,r.bl b,w c _ g rfl b n rfl]
 .show(bF.mp w).elim
def EI(d:PT X a (Np C e)):PT X (.UnaryOp .Not a pos) (Np C (e >>= λb=>pure !b)):=by
 show PT.weak (GQ d) ?_;rintro σ H Q ⟨c0,rfl,rfl,ok,h⟩;show gQ ok h λp c f g n w=>?_;rw[ak]at w;show w c f rfl g n
def EJ(i:PT X a (Np C j))(k:PW X (.BoolOp .And (b::d) pos) (Np C l)):PW X (.BoolOp .And (a::b::d) pos) (Np C (j >>= λp=>if p=cb then l else pure cK)):=by
 have h0:=GP i k;rintro m e s σ H Q I ⟨c0,rfl,rfl,ok,h⟩;show h0 m e s _ c0.H Q I (gQ ok h λp c f g n w=>?_);cases p with
 |true=>show Bp f g n w
 |false=>rw[if_neg qp]at w ⊢;rw[ak]at w;show w c f rfl g n
def H_(i:PT X a (Np C j))(k:PW X (.BoolOp .Or (b::d) pos) (Np C l)):PW X (.BoolOp .Or (a::b::d) pos) (Np C (j >>= λp=>if p=cb then pure cb else l)):=by
 have h0:=Js i k;rintro m e s σ H Q I ⟨c0,rfl,rfl,ok,h⟩;show h0 m e s _ c0.H Q I (gQ ok h λp c f g n w=>?_);cases p with
 |true=>rw[if_pos rfl]at w ⊢;rw[ak]at w;show w c f rfl g n
 |false=>show Bp f g n w
def xo{us:↑α}{vs:↑β}(h:⇑us=⇑vs):(!us.isEmpty)=!vs.isEmpty:=by
 grind
def lX(j:PE X a (Md C l))(i:C.K=X.K)(m:∀b,isTrue a X.env b=(do let v <-b;İ a.pos;Sm [v] (truthy v))):PT X a (Np C (l >>= λx=>M.Mw (zj x.2))):=by
 show PT.weak (Ag j m) ?_;rintro σ H Q ⟨c0,rfl,rfl,ok,h⟩;show aZ ok h λx c v t w=>?_;have(k,u):=x;have(o,d,n,r):=t;have(p,e,q):=bW.mp w
 dsimp only at e r
 show#[p,?_,q c o rfl d n];unfold zj at e;split at e
 .cases e;rw[r.bl d];rfl
 .cases e;have(a,vs,rfl,f,g):=r.list d;show .inl #[vs,i▸f,xo g.len]
 .cases e;have(a,vs,rfl,f,g):=r.tuple d;rw[i]at f;show .inr (.inl #[vs,f,xo g.len])
 .split at e
  .cases e;rw[r.str d];show#[⋯,rfl]
  .cases e
 .cases e
def eX.from(n:Nx c0 c1):eX C c1 c rs vs->eX C c0 c rs vs:=by
 intro h;induction rs generalizing vs with
 |nil=>show h
 |cons r rs a=>have(v,t,e,b,d,f):=h;show#[v,t,e,b.from n,a d,f]
def eX.get{i:Nat}(h:eX C c0 c rs vs)(e:rs[i]?≈r)(d:vs[i]?≈v):gL C c0 c r.1 r.2 v:=by
 induction rs generalizing vs i with
 |nil=>simp at e
 |cons f rs a =>
  have(g,t,rfl,j,b,k):=h;cases i with
  |zero=>simp_all
  |succ i=>show a b (by simpa using e) (by assumption)
def EK:PA X [] (NB C (pure [])):=by
 rintro pos a s σ H Q I ⟨c0,rfl,rfl,ok,h⟩;rw[ak]at h;show mK pos a s _ c0.H Q I (h c0 [] rfl rfl ok (Nx.refl c0) rfl)
def Br(g:PE X e (Md C m))(j:PA X es (NB C ms))(hs:mn (e::es) X.env=(cK,K1 e X.env)::mn es X.env):PA X (e::es) (NB C (m >>= λr=>ms >>= λrs=>pure (r::rs))):=by
 rintro pos a s σ H Q I ⟨c0,rfl,rfl,ok,h⟩;show hJ g j hs pos a s _ c0.H Q I (aZ ok h λr c1 v t w=>?_);rw[ah]at w;show#[c1,t.hσ,rfl,t.ok,w.mono λrs st2 b k vs c l n d f=>?_];rw[ak]at b;show b k _ c l n (t.nx.trans d) #[v,vs,rfl,t.rx.w.on t.ok d (c.trans t.hσ.symm),f.from t.nx,λhk i u x o p q=>?_];show rg t.rx.w (f.get o p) hk q
structure Po(C:Ct)(c0 c:Cf)(rs:↑(Kd×U))(vs:↑V):Prop where
 hσ:c.σ=c0.σ
 ok:Ok C c
 nx:Nx c0 c
 rep:eX C c0 c rs vs
 QM:bB rs c.st
def args{k:↑(Kd×U)->M β}{b}(f:PA X es (NB C ms))(I:Inv X a c0.σ c0.H s)(ok:Ok C c0)(h:W (ms >>= λrs=>aR rs >>= λ_=>k rs) c0.st b)(pos:Pos):
  (fx (gj X.prog X.w) X.A) (spliced (RN pos (mn es X.env))) (λus s1=>∃rs c vs,Po C c0 c rs vs/\Inv X a c.σ c.H s1/\Vals vs us/\W (k rs) c.st b) X.xe s:=by
 rw[ah]at h;show Mb (f pos a s _ c0.H (λvs e=>∃rs c,c.H=e/\Po C c0 c rs vs/\W (k rs) c.st b) I ⟨c0,rfl,rfl,ok,h.mono λrs st1 d c1 vs g i j l m=>?_⟩) ?_
 .rw[ah,cF]at d;subst i;show#[rs,c1,rfl,#[g,j,l,m,d.1],d.2]
 .rintro us s1 ⟨vs,e,n,rv,rs,c1,rfl,t,w⟩;show#[rs,c1,vs,t,by rw[t.hσ];show n,rv,w]
def Po.one(t:Po C c0 c [r] vs):∃v,vs=[v]/\aW C c0 c r.1 r.2 v:=by
 have(v,t',rfl,a,b,_):=t.rep;cases b;show#[v,rfl,a.t t.QM]
def Po.two(t:Po C c0 c [r,b] vs):∃v a,vs=[v,a]/\aW C c0 c r.1 r.2 v/\aW C c0 c b.1 b.2 a:=by
 have(v,t',rfl,d,(a,e,rfl,f,g,_),_):=t.rep;cases g;have hs:=ie.mp t.QM;show#[v,a,rfl,d.t hs.1,f.t hs.2]
def Ok.share(ok:Ok C c)(h0:C.H₀ r=b6)(f:∃o,c.H r≈o)(hl:⇑st'=⇑c.st)
  (b:∀i k u,st'[i]?≈bD (k,u)->XB C (λa=>c.S a\/a=r) c.H c.σ i k u/\(k.root=cb->c.st[i]?≈bD (k,u))) (g:PD C {c with S:=λa=>c.S a\/a=r,st:=st' }) :
  Ok C {c with S:=λa=>c.S a\/a=r,st:=st' }:=by
 show#[ok.same,λa z=>?_,ok.par,ok.io,by rw[hl];show ok.len,λi k u e=>(b i k u e).1,λi j k k' u u' h hk d l m n p=>?_,g]
 .rcases z with z|rfl
  .show ok.NJ a z
  .show#[h0,f]
 .show ok.inj i j k k' u u' h hk d ((b i k u l).2 hk) ((b j k' u' m).2 d) n p
def Ok.Ic(m:Ok C c0)(ok:Ok C c)(n:Nx c0 c)(h0:c0.H r=b6)(d:¬c.R r)(p:dX C c.S c.H r u):
  Ok C {c with S:=λa=>c.S a\/a=r}/\Nx c0 {c with S:=λa=>c.S a\/a=r}:=by
 have(o,ho,_):=p.some;show#[ok.share  (m.kh h0).1 #[o,ho] rfl (λi k u e=>#[?_,λ_=>e]) (ok.dd.hs (.up λa=>.inl) λj a z=>#[λq=>q.elim (ok.root (.inr #[j,z])).1 λe=>d (.inr #[j,e▸z]),λo q=>q]),#[#[n.keep,n.there,n.roots,λa z=>.inl (n.sub a z),λa z=>?_],n.dk]]
 .have(v,f,g):=ok.sl i k u e;have b:Mv c.S c.H (λa=>c.S a\/a=r) c.H:=.up λa=>.inl;show#[v,f,g.mv b (.up λa z=>z.imp id .inl) λhk t h=>#[?_,λo q=>q]];have(w,l,s,_):=g.rt hk;rw[h]at l;cases l;rintro(z|rfl)
  .show s z
  .show d (.inl #[i,k,u,hk,e,by rw[f,h]])
 .rcases z with z|rfl
  .show n.new a z
  .show .inr (.inr h0)
def Ok.Bs(ok:Ok C c)(n:Nx c0 c)(h:c.st[j]?≈bD (.own,u))(l:c.σ[j]?≈bD (.ref r)):
  Ok C {c with S:=λa=>c.S a\/a=r,st:=c.st.set j (bD (.loc,u))}/\Nx c0 {c with S:=λa=>c.S a\/a=r,st:=c.st.set j (bD (.loc,u))}/\Rep C (λa=>c.S a\/a=r) c.H u (.ref r):=by
 have(Q,b,f,m,T,Y,D,y):=ok.sl j _ _ h;rw[l]at b;cases b;cases m;have A:Rep C (λa=>c.S a\/a=r) c.H u (.ref r):=y.rep (λa=>.inl) (.inr rfl);have(o,ho,_):=y.some;have p:j<⇑c.st:=(eH.mp h).1;have s:∀i k u',(c.st.set j (bD (.loc,u)))[i]?≈bD (k,u')->i≠j->c.st[i]?≈bD (k,u'):=λi k u' e G=>by rw[mx (ve G)]at e;show e
 have I:c.R1 r:=#[j,.own,u,rfl,h,l]
 have t:∀(i:Nat) u',(c.st.set j (bD (.loc,u)))[i]?≈bD (.F',u')->c.st[i]?≈bD (.F',u'):=λi u' e=>by
  by_cases d:i=j
  .subst d;rw[hH p]at e;cases e
  .show s i .F' u' e d
 have b1:∀a,{c with S:=λa=>c.S a\/a=r,st:=c.st.set j (bD (.loc,u))}.R1 a->c.R1 a:=λa J=>by
  have(i,k,u',hk,e,L):=J;by_cases d:i=j
  .subst d;rw[hH p]at e;cases e;cases hk
  .show#[i,k,u',hk,s i k u' e d,L]
 have N:PD C {c with S:=λa=>c.S a\/a=r,st:=c.st.set j (bD (.loc,u))}:=ok.dd.of rfl (λi u' e=>#[t i u' e,rfl]) (λa z=>.inl (b1 a z)) (.up λa=>.inl) λi a z=>#[λq=>q.elim (ok.root (.inr #[i,z])).1 λe=>ok.dd.d1 i a z (e▸I),λo q=>q]
 show#[ok.share (st':=c.st.set j (bD (.loc,u))) D #[o,ho] ⋯ (λi k u' e=>?_) N,#[#[n.keep,n.there,λa z=>?_,λa z=>.inl (n.sub a z),λa z=>?_],λa ⟨i,u',f,b,g,w⟩=>n.dk a #[i,u',f,t i u' b,g,w]],A]
 .by_cases d:i=j
  .subst d;rw[hH p]at e;cases e;show#[#[.ref r,l,A],λz=>nomatch z]
  .have x:=s i k u' e d;have(v,b,g):=ok.sl i k u' x;show#[#[v,b,g.mv (.up λa=>.inl) (.up λa z=>z.imp id .inl) λhk f m=>#[?_,λo q=>q]],λ_=>x];have(R6,B,O,_):=g.rt hk;rw[m]at B;cases B;rintro(z|rfl)
   .show O z
   .show d (ok.inj i j k .own u' u f hk rfl x h (by rw[b,m]) l)
 .rcases z with z|⟨i,u',f,b,g,w⟩
  .show n.roots a (.inl (b1 a z))
  .show n.roots a (.inr #[i,u',f,t i u' b,g,w])
 .rcases z with z|rfl
  .show n.new a z
  .rcases n.roots a (.inl #[j,.own,u,rfl,h,l]) with z|z
   .show .inr (.inl z)
   .show .inr (.inr z)
inductive ZQ(C:Ct)(c0 c:Cf)(r:Kd×U)(v:V)(Ma:U->aK->Prop):Prop
 |mk:∀(S':k7->Prop) (st':aK) (u:U),(∀a,c.S a->S' a)->Ok C {c with S:=S',st:=st' }->Nx c0 {c with S:=S',st:=st' }->Rep C S' c.H u v->Ma u st'->(∀a,S' a->c.S a\/v=.ref a/\(r.1=.own\/c.R a))->(∀a,({c with S:=S',st:=st' }:Cf).R a->c.R a)->ZQ C c0 c r v Ma
def jJ(A:Ok C c0)(ok:Ok C c)(n:Nx c0 c)(b:gL C c0 c r.1 r.2 v)(h:W (lift r) c.st B):ZQ C c0 c r v B:=by
 have(k,u):=r;cases k with
 |own =>
  rw[show lift (.own,u)=pure u from rfl,ak]at h;have(r,e,D,L,G,s):=b;have(g,l):=Ok.Ic A ok n D G s;show#[_,c.st,u,λa=>.inl,g,l,by rw[e];show s.rep (λa=>.inl) (.inr rfl),h,λa z=>?_,λa z=>z];rcases z with z|rfl
  .show .inl z
  .show .inr #[e,.inl rfl]
 |loc =>
  rw[show lift (.loc,u)=pure u from rfl,ak]at h;show#[c.S,c.st,u,λa=>id,ok,n,b,h,λa z=>.inl z,λa z=>z]
 |any =>
  rw[show lift (.any,u)=if Mr u=cb then pure u else M.fail from rfl]at h;split at h
  .rw[ak]at h;show#[c.S,c.st,u,λa=>id,ok,n,Rep.Mr ⋯ b,h,λa z=>.inl z,λa z=>z]
  .show(bF.mp h).elim
 |bor j =>
  have(x,st',e,H):=h;rw[show lift (.bor j,u) c.st=match c.st[j]? with|some (bD (.own,u))=>bD _|_=>b6 from rfl]at e;split at e
  .rename_i w d;cases e;have(N,t,r,I,_):=ok.sl j _ _ d;have m:=b;rw[m]at t;cases t;subst I;have(g,l,o):=ok.Bs n d m;show#[_,_,_,λa=>.inl,g,l,o,H,λa z=>?_,λa z=>?_]
   .rcases z with z|rfl
    .show .inl z
    .show .inr #[rfl,.inr (.inl #[j,.own,_,rfl,d,m])]
   .rcases z with⟨i,k,u',hk,e,p⟩|⟨i,u',J,e,p,q⟩
    rotate_left 1
    .by_cases f:i=j
     .subst f;have y:i<⇑c.st:=(eH.mp d).1;simp_all
     .rw[mx (ve f)]at e;show .inr #[i,u',J,e,p,q]
    by_cases f:i=j
    .subst f;have y:i<⇑c.st:=(eH.mp d).1;rw[hH y]at e;cases e;cases hk
    .rw[mx (ve f)]at e;show .inl #[i,k,u',hk,e,p]
  .cases e
 |_=>show b.elim
inductive ZR(C:Ct)(c0 c:Cf)(vs:↑V)(Ma:↑U->aK->Prop):Prop
 |mk:∀(S':k7->Prop) (st':aK) (us:↑U),(∀a,c.S a->S' a)->Ok C {c with S:=S',st:=st' }->Nx c0 {c with S:=S',st:=st' }->ai C S' c.H us vs->Ma us st'->ZR C c0 c vs Ma
theorem jK:∀{rs}{vs}{c}{f},Ok C c0->Ok C c->Nx c0 c->eX C c0 c rs vs->W (dP rs) c.st f->ZR C c0 c vs f
 |[],vs,c,f,m,ok,n,p,h=>by
  rw[show dP []=pure [] from rfl,ak]at h;show#[c.S,c.st,[],λa=>id,ok,n,p,h]
 |r::rs,vs,c,f,m,ok,n,p,h=>by
  have(v,t,rfl,I,J,L):=p;rw[show dP (r::rs)=lift r >>= λu=>dP rs >>= λus=>pure (u::us) from rfl,ah]at h;have(N,st1,u,s1,O,Q,b,x,T,Y):=jJ m ok n I h;rw[ah]at x;have Ux:=by
   have s:∀l w,eX C c0 c l w->(r.1=.own->∀(i:Nat) g j,l[i]?≈g->w[i]?≈j->g.1=.own->j≠v)->eX C c0 {c with S:=N,st:=st1} l w:=by
    intro l;induction l with
    |nil=>intro w q _;show q
    |cons r2 l ih =>
     intro w q y;have(A,B,rfl,k,q2,q3):=q;show#[A,B,rfl,?_,ih B q2 (λhk i g j e1 e2 MW=>y hk (i+1) g j (by assumption) (by assumption) MW),q3];have(k2,u2):=r2;cases k2 with
     |own =>
      have(a,e,p1,p2,D,p4):=k;show#[a,e,p1,λz=>?_,λz=>D (Y a z),p4.mv (.up s1) λo q=>q];rcases T a z with z|⟨z,z'|z'⟩
      .show p2 z
      .show y z' 0 _ A rfl rfl rfl (e.trans z.symm)
      .show D z'
     |loc=>show Rep.mv (.up s1) k
     |any=>show Rep.mv (.up λa z=>z.imp id (s1 a)) k
     |_=>show k
   show s rs t J L
  have(S2,st2,us,G,Ms,n2,d,H):=jK  m O Q Ux x;rw[ak]at H;show#[S2,st2,u::us,λa z=>G a (s1 a z),Ms,n2,#[v,t,rfl,b.mv (.up G),d],H]
def EL(i:PA X es (NB C ms)):PE X (.Tuple es p pos) (Md C (ms >>= λrs=>aR rs >>= λ_=>dP rs >>= λus=>if ⇑us<=dt then pure (.loc,.tup us) else M.fail)):=by
 rintro a s σ H Q I ⟨c0,rfl,rfl,ok,h⟩;show wpAny_Tuple_spliced (Mb (args i I ok h pos) λus s1 j=>?_);have(rs,c,vs,t,g,rv,w):=j;rw[ah]at w;have(S',st',ws,k,l,m,d,f):=jK ok t.ok t.nx t.rep w;split at f
 .rename_i hz;rw[ak]at f;have hl:⇑vs<=dt:=by rw[<-d.len];show hz
  show#[by rw[<-⇑rv];show hl,?_];have n:=g.L7.fresh (gi _);have o:Inv X a c0.σ c.H s1:=by rw[<-t.hσ];show g
  show#[.ref _,upd c.H _ (.tup vs),o.laid  (λb u e=>cc _ e) (gi _) ⟨hl,us,rv,IsTup.new _ _⟩,rfl,?_];show cG.tup (c:={c with S:=S',st:=st' }) f t.hσ l m d _ n
 .show(bF.mp f).elim
def EM(i:PA X es (NB C ms)):PE X (.List es pos) (Md C (ms >>= λrs=>aR rs >>= λ_=>dP rs >>= λus=>if ⇑us<=dt then pure (.own,.lst us) else M.fail)):=by
 rintro a s σ H Q I ⟨c0,rfl,rfl,ok,h⟩;show wpAny_List_spliced (Mb (args i I ok h pos) λus s1 j=>?_);have(rs,c,vs,t,g,rv,w):=j;rw[ah]at w;have(S',st',ws,k,l,m,d,f):=jK ok t.ok t.nx t.rep w;split at f
 .rename_i hz;rw[ak]at f;have hl:⇑vs<=dt:=by rw[<-d.len];show hz
  show#[by rw[<-⇑rv];show hl,?_];have n:=g.L7.fresh (gi _);have o:Inv X a c0.σ c.H s1:=by rw[<-t.hσ];show g
  show#[.ref _,upd c.H _ (.lst vs),o.laid  (λb u e=>cc _ e) (gi _) ⟨hl,us,0,rv,eW _ rfl⟩,rfl,?_];show cG.list (c:={c with S:=S',st:=st' }) f t.hσ l m d _ n
 .show(bF.mp f).elim
def rh(c:X.N[i]?≈x)(d:N5 X.env.scope x)(f:(x==("__debug__":Str))=cK)(g:(x==("__classdict__":Str))=cK):PE X (.Name x pos) (Md C (dY i)):=by
 show PE.weak (cR c d f g) ?_;rintro σ H Q ⟨c0,rfl,rfl,ok,r,st',e,h⟩;unfold dY at e;split at e
 .cases e
 .rename_i k u l hs;cases e;have(v,b,a):=ok.sl i k u hs;show#[v,b,h c0 v rfl rfl ok (Nx.refl c0) ?_];by_cases hk:k.root=cb
  .rw[if_pos hk];show#[#[k,hk,hs],b]
  .cases k with
   |loc=>show a
   |any=>show a
   |bor j=>show a.elim
   |F'=>show(l rfl).elim
   |_=>show absurd rfl hk
 .cases e
def jL(h:PE X e (tC v))(r:∀S H,Rep C S H u v):PE X e (Md C (pure (.loc,u))):=by
 show PE.weak h ?_;rintro σ H Q ⟨c0,rfl,rfl,ok,h⟩;rw[ak]at h;show h c0 v rfl rfl ok (Nx.refl c0) (r _ _)
def cG.root(h:cG C c0 Q (.own,u) c.st)(b:c.σ=c0.σ)(ok:Ok C c)(n:Nx c0 c)(p)(a:c.H p=b6)(r:dX C c.S (upd c.H p o) p u):Q (.ref p) (upd c.H p o):=by
 have(d,e):=ok.lay  a;have(h0,f,i,j,g):=ok.kh a;show h {c with H:=upd c.H p o} _ b rfl d (n.trans e) ⟨p,rfl,n.none a,f,g,r⟩
def Bt(d:C.P=X.prog)(b:C.w=X.w)(r):PE X (.Dict [] [] pos) (Md C (pure (.own,if r=cb then .M9 [] else .J' [] []))):=by
 cases r with
 |false =>
  show PE.weak sJ ?_;rintro σ H Q ⟨c0,rfl,rfl,ok,h⟩ p a;rw[ak]at h;show cG.root h rfl ok (Nx.refl c0) p a #[[],av,rfl,rfl]
 |true =>
  show PE.weak D0 ?_;rintro σ H Q ⟨c0,rfl,rfl,ok,h⟩ p a;rw[ak]at h;show cG.root h rfl ok (Nx.refl c0) p a #[[],?_,rfl,λx c=>by cases c];rw[b];show av
def ai.MB{S:k7->Prop}(h:ai C S H us vs)(e:MB us i≈u):∃v,L2.MB vs i≈v/\Rep C S H u v:=by
 unfold L2.MB at e ⊢;rw[h.len]at e;cases q:PM _ i with
 |none=>simp_all
 |some j =>
  rw[q]at e;show h.get e
def Ie(hK:C.K=X.K)(hu:X.A.units+60<MJ)(hs:qy b)(t:Uu C c0 c x y J L)(I:Inv X d c.σ c.H s)(z:RelV J v)(B:RelV L u)(h:fC x y.2≈r)(q:cG C c0 Q r c.st):
  (fx (gj X.prog X.w) X.A) (subscriptTail a b v u) (EP X d c.σ Q) X.xe s:=by
 obtain⟨D,ok,n,G,p,-⟩:=t;have(ky,uy):=y
 dsimp only at h p
 unfold fC at h;split at h
 .rename_i k xs i;rw[eu]at h;have(w,e,rfl):=h;have(a',vs,ex,f,j):=G.list ok;have(vw,l,m):=j.MB e;show DO a b d s c.σ c.H J L v u Q I z B #[a',vs,i,vw,ex,p.int ok,hK▸f,l,q c vw D rfl ok n (aW.item m)] (hs _ _)
 .rename_i k xs i;rw[eu]at h;have(w,e,rfl):=h;have(a',vs,ex,f,j):=G.tuple ok;have(vw,l,m):=j.MB e;rw[hK]at f;show c7 a b d s c.σ c.H J L v u Q I z B #[a',vs,i,vw,ex,p.int ok,f,l,q c vw D rfl ok n (aW.item m)] (hs _ _)
 .split at h
  .rw[eu]at h;have(w,e,rfl):=h;show mL a b d s c.σ c.H J L v u Q I z B #[_,_,w,G.str ok,p.int ok,by assumption,e,q c _ D rfl ok n rfl] (hs _ _)
  .cases h
 .rename_i k ks us x;rw[eu]at h;have(w,e,rfl):=h;have(a',kvs,ex,f,j,N):=G.dict ok;have(vw,l,m):=(cH (x:=x) j N).1 w e;have O:=p.str ok;subst ex O;cases z;have g:fm c.H a' (.str x) (bD vw):=by rw[<-l];show fm.k (k:=mA x) f
  show ξ (ops:=[.ref a',u]) (gG I g) F.slot_dict_getitem.lookup (ka ⋯ I g B λw' s3 T Y=>#[vw,c.H,T,Y,q c vw D rfl ok n (aW.item m)]) (hs _ _)
 .rename_i k ks us x;rw[eu]at h;have(w,e,rfl):=h;have(a',o,kvs,ex,f,j,N):=G.xn ok;have(vw,l,m):=(cH (x:=x) j N).1 w e;have O:=p.str ok;subst ex O;cases z;have g:fm c.H a' (.str x) (bD vw):=by rw[<-l];show .inl #[kvs,mA x,.inr #[o,f],rfl,rfl]
  show ξ (ops:=[.ref a',u]) (gG I g) F.slot_dict_getitem.lookup (ka ⋯ I g B λw' s3 T Y=>#[vw,c.H,T,Y,q c vw D rfl ok n (aW.item m)]) (hs _ _)
 .cases h
def EN(f:C.K=X.K)(g:X.A.units+60<MJ)(hs:qy b)(i:PE X a (Md C j))(k:PE X b (Md C l)):PE X (.Subscript a b pos) (Md C (j >>= λx=>l >>= λy=>aR [x,y] >>= λ_=>M.Mw (fC x y.2))):=by
 rintro d s σ H Q I ⟨c0,rfl,rfl,ok,h⟩;show ϟ (two i k I ok h λx y c p B v u D t m n o w=>?_);have(r,e,q):=bW.mp w;show Mb (Ie f g hs t m n o e q) λ_ _ z=>by rw[t.hσ]at z;show z
def ai.cut{S}(h:ai C S H us vs)(lo hi):ai C S H (TM.cut us lo hi) (Aj vs lo hi):=by
 unfold TM.cut Aj;rw[h.len];show(h.drop _).take _
section
variable{X:Cx}{C:Ct}{pins:List (k7×Obj)}{s:k9}{c0 c c1:Cf}
variable{a b d e:p7}{es:List p7}{m ma mb md:M (Kd×U)}{ms:M (List (Kd×U))}{ta tb:M Bool}{pos p p2:Pos}
abbrev tO(C:Ct)(m:M (Option Int)):TO:=λσ H Q=>∃c0:Cf,c0.σ=σ/\c0.H=H/\Ok C c0/\W m c0.st λi st'=>∀c,c.σ=σ->c.st=st'->Ok C c->Nx c0 c->Q i c.H
def zl:PO X b6 (tO C (pure b6)):=by
 rintro pins s σ H Q I ⟨c0,rfl,rfl,ok,h⟩;rw[ak]at h;show DM pins s _ c0.H Q I (h c0 rfl rfl ok (Nx.refl c0))
def zm(f:PE X a (Md C ma)):PO X (bD a) (tO C (ma >>= HV)):=by
 rintro pins s σ H Q I ⟨c0,rfl,rfl,ok,h⟩;show DN f pins s _ c0.H Q I (aZ ok h λx c v t w=>?_);have(k,u):=x;unfold HV at w;split at w
 .rename_i i e;subst e;rw[ak]at w;show#[i,t.rx.int t.ok,w c t.hσ rfl t.ok t.nx]
 .show(bF.mp w).elim
def Ig{lo hi}(j:C.K=X.K)(f:c.σ=c0.σ)(ok:Ok C c)(n:Nx c0 c)(g:aW C c0 c x.1 x.2 i)(h:oZ x lo hi≈r)(q:cG C c0 Q r c.st):
  JO X.K i lo hi c.H Q\/JT i lo hi c.H Q:=by
 unfold oZ at h;split at h
 .split at h
  .rename_i hh;cases h;have(a',vs,ex,k,l):=g.list ok;show .inl #[a',vs,ex,j▸k,λp o=>q.list f ok n ((da hh l).cut lo hi) p o]
  .cases h
 .split at h
  .cases h;show .inr #[_,g.str ok,⋯,q.flat f ok n rfl]
  .cases h
 .cases h
def EO{lo hi}(k:C.K=X.K)(n:PE X a (Md C ma))(hl:PO X lo (tO C ml))(hh:PO X hi (tO C o)):
  PE X (.Subscript a (.Slice lo hi b6 p2) pos) (Md C (ma >>= λx=>ml >>= λl=>o >>= λh=>aR [x] >>= λ_=>M.Mw (oZ x l h))):=by
 show PE.weak (Ai (QY.or DP Hn) n hl hh) ?_;rintro σ H Q ⟨c0,rfl,rfl,ok,h⟩;show aZ ok h λx c v t w=>?_;rw[ah]at w;show#[c,t.hσ,rfl,t.ok,w.mono λl st2 g u y z A B=>?_];subst z;rw[ah]at g;show#[u,y,rfl,A,g.mono λJ st3 f L i D G I=>?_];subst D;rw[ah,cF]at f;have(r,e,q):=bW.mp f.2;have j:=B.trans I;show Ig k i G (t.nx.trans j) ((t.rx.w.on t.ok j (i.trans t.hσ.symm)).t f.1) e q
end
section
variable{X:Cx}{C:Ct}{pins:List (k7×Obj)}{s:k9}{c0 c c1:Cf}
variable{a b d e:p7}{es:List p7}{m ma mb md:M (Kd×U)}{ms:M (List (Kd×U))}{ta tb:M Bool}{pos p p2:Pos}
abbrev Bf.val:Bf->hY
 |.len=>.builtin "len"|.sorted=>.builtin "sorted"|.repr=>.builtin "repr"|.max=>.builtin "max"|.min=>.builtin "min"|.all=>.builtin "all"|.any=>.builtin "any"
 |.list=>.type "list"|.tuple=>.type "tuple"|.str=>.type "str"|.int=>.type "int"
 |.dict=>.type "dict"
 |.sum=>.builtin "sum"
abbrev Bf.name:Bf->Str
 |.len=>"len"|.sorted=>"sorted"|.repr=>"repr"|.max=>"max"|.min=>"min"|.all=>"all"|.any=>"any"
 |.list=>"list"|.tuple=>"tuple"|.str=>"str"|.int=>"int"
 |.dict=>"dict"
 |.sum=>"sum"
def call_of(g:eE X f r)(I:Inv X pins c.σ c.H s)(rv:Vals vs us)(h:r vs c.H Q):(fx (gj X.prog X.w) X.A) (TN f us) (EP X pins c.σ Q) X.xe s:=g pins s c.σ c.H vs us Q I rv h
mutual
theorem xp{S:k7->Prop}(g:C.K=X.K)(I:Inv X pins c.σ c.H s):∀(u:U) (v:V) (f:hY) (d:ũ),Rep C S c.H u v->RelV v f->fD u≈d->∃as,Reads s.heap f d as
 |.Mc,v,f,d,h,r,e=>by cases h;cases r;cases e;show#[_,.none]
 |.bl b,v,f,d,h,r,e=>by cases h;cases r;cases e;show#[_,.bool b]
 |.int i,v,f,d,h,r,e=>by cases h;have(t,rfl):=r;cases e;show#[_,.int i t]
 |.str x,v,f,d,h,r,e=>by cases h;have(t,rfl):=r;cases e;show#[_,.str x t]
 |.tup us,v,f,d,h,r,e=>by
  have(a,vs,rfl,j,k):=h;cases r;simp only[fD,eu]at e;have(ds,l,rfl):=e;rw[g]at j;have(its,rv,(o,ho,q,n,w),_):=I.tuple j;have(as,y):=rj g I us vs its ds k rv l;show#[as,.tuple ho q w (by simpa using y)]
 |.lst us,v,f,d,h,r,e=>by
  have(a,vs,rfl,j,k):=h;cases r;simp only[fD,eu]at e;have(ds,l,rfl):=e;have z:=j.sq;rw[g]at z;have(its,rv,A,_):=I.list z;have(o,ho,q,n,w):=A.isList;have(as,y):=rj g I us vs its ds k rv l;show#[a::as,.list ho q w (by simpa using y)]
 |.J' _ _,v,f,d,h,r,e=>by simp[fD]at e
 |.NI _ _,v,f,d,h,r,e=>by simp[fD]at e
 |.M9 _,v,f,d,h,r,e=>by simp[fD]at e
theorem rj{S:k7->Prop}(f:C.K=X.K)(I:Inv X pins c.σ c.H s):∀(us:↑U) (vs:↑V) (vals:↑hY) (ds:↑ũ),ai C S c.H us vs->Vals vs vals->nG us≈ds->∃as,ReadsAll s.heap vals ds as
 |[],vs,vals,ds,h,r,e=>by
  cases h;cases r;cases e;show#[_,.nil]
 |u::us,vs,vals,ds,h,r,e=>by
  have(v,g,rfl,i,j):=h;cases r with
  |cons k l =>
   simp only[nG,l',eu]at e;have(d,n,o,q,rfl):=e;have(as,t):=xp f I u v _ d i k n;have(bs,w):=rj f I us g _ o j l q;show#[as++bs,.cons t w]
end
mutual
theorem nP:∀(u:U) (d:ũ),fD u≈d->d.hasDict=cK
 |.Mc,d,e=>by cases e;rfl
 |.bl b,d,e=>by cases e;rfl
 |.int i,d,e=>by cases e;rfl
 |.str x,d,e=>by cases e;rfl
 |.tup us,d,e=>by
  simp only[fD,eu]at e;have(ds,f,rfl):=e;simpa only[Ž] using gR us ds f
 |.lst us,d,e=>by
  simp only[fD,eu]at e;have(ds,f,rfl):=e;simpa only[Ž] using gR us ds f
 |.J' _ _,d,e=>by simp[fD]at e
 |.NI _ _,d,e=>by simp[fD]at e
 |.M9 _,d,e=>by simp[fD]at e
theorem gR:∀(us:↑U) (ds:↑ũ),nG us≈ds->Œ ds=cK
 |[],ds,e=>by cases e;rfl
 |u::us,ds,e=>by
  simp only[nG,l',eu]at e;have(d,f,g,h,rfl):=e;simp only[Œ,nP u d f,gR us g h,Bool.or_self]
end
def xq{S}(j:C.K=X.K)(k:X.A.guards≈[])(x:X.A.units+60<MJ)(I:Inv X pins c.σ c.H s)(rv:Vals [v] us)(g:Rep C S c.H u v)(h:xi u≈r)(q:cG C c0 Q r c.st)(l:c.σ=c0.σ)(ok:Ok C c)(n:Nx c0 c):
  (fx (gj X.prog X.w) X.A) (TN (.builtin "repr") us) (EP X pins c.σ Q) X.xe s:=by
 have(f,rfl,i):=vals1 rv;unfold xi at h;rw[l']at h;have(d,e,h):=h;split at h
 .rename_i hz;cases h;have(as,o):=xp j I u v f d g i e;have t:∃a,f=.ref a:=by
   cases u with
   |tup us=>have(a,vs,rfl,_):=g;cases i;show#[a,rfl]
   |lst us=>have(a,vs,rfl,_):=g;cases i;show#[a,rfl]
   |_=>simp[Gg]at hz
  have(a,rfl):=t;show repr_of_reads' o hz.1 (PyData.noDict_hsm (nP u d e)) k ⋯ (λ_ _ z=>z) (λh' u' y hk=>?_) hz.2.2.1;show#[.str _,c.H,I.kept hk,#[_,rfl],q.flat l ok n rfl]
 .cases h
abbrev Uz:U->V
 |.str x=>.str x
 |.int n=>.int n
 |_=>.ref 0
def ER{S}(h:Uq u=cb):Rep C S H u (Uz u):=by
 cases u<;>first|rfl|cases h
theorem ai.ZT{S}:∀{ps:↑(Str×U)},(∀p∈ps,Uq p.2=cb)->ai C S H (ps.map (·.2)) (ps.map λp=>Uz p.2)
 |[],_=>rfl
 |p::ps,h=>#[_,_,rfl,ER (h p ⋯),ai.ZT λq f=>h q (by simp[f])]
theorem ai.ZU{S}(f:C.K=X.K):∀{us}{ps}{vs},nJ us≈ps->ai C S H us vs->(∀p∈ps,Uq p.2=cb)/\∃as:↑k7,vs=as.map V.ref/\⇑as=⇑ps/\∀(j:Nat) a p,as[j]?≈a->ps[j]?≈p->MA X.K H a [.str p.1,Uz p.2]
 |[],ps,vs,e,h=>by
  cases e;cases h;simp
 |u::us,ps,vs,e,h=>by
  have(v,r,rfl,n,o):=h;unfold nJ at e;split at e
  .simp_all
  .rename_i x y us' q;cases q;split at e
   .rename_i g;rw[eu]at e;have(N,e,rfl):=e;have(t,as,rfl,w,z):=ai.ZU f e o;have(a,ws,rfl,i,A):=n;have(O,Q,rfl,B,D):=A;have(G,T,rfl,I,J):=D;cases B;cases J;have L:G=Uz y:=by
     cases y<;>first|show I|cases g
    subst L;rw[f]at i;show#[λp hp=>?_,a::as,rfl,by simp[w],λj b p k l=>?_]
    .rcases f6.mp hp with rfl|hp
     .show g
     .show t p hp
    .cases j with
     |zero=>simp at k l;subst k l;show i
     |succ j=>show z j b p (by assumption) (by assumption)
   .cases e
  .cases e
theorem ai.xr{S:k7->Prop}{f:α->U}{g:α->V}:∀{l:↑α},(∀x∈l,Rep C S H (f x) (g x))->ai C S H (l.map f) (l.map g)
 |[],_=>rfl
 |x::l,h=>#[g x,_,rfl,h x ⋯,ai.xr λy i=>h y (by simp[i])]
theorem ai.ZV{S}(f:C.K=X.K):∀{us}{ks}{vs},pO us≈ks->ai C S H us vs->∃as:↑k7,vs=as.map V.ref/\⇑as=⇑ks/\∀(j:Nat) a k,as[j]?≈a->ks[j]?≈k->∃b,MA X.K H a [.str k,.int b]
 |[],ks,vs,e,h=>by
  cases e;cases h;simp
 |u::us,ks,vs,e,h=>by
  have(v,r,rfl,n,o):=h;unfold pO at e;split at e
  .simp_all
  .rename_i x nn us' q;cases q;rw[eu]at e;have(G,e,rfl):=e;have(as,rfl,t,w):=ai.ZV f e o;have(a,ws,rfl,g,y):=n;have(I,J,rfl,z,A):=y;have(L,N,rfl,B,D):=A;cases z;cases D;cases B;rw[f]at g;show#[a::as,rfl,by simp[t],λj c p i l=>?_];cases j with
   |zero=>simp at i l;subst i l;show#[_,g]
   |succ j=>show w j c p (by assumption) (by assumption)
  .cases e
def br(h:eR f rs≈r):∃x,rs=[x]/\f x≈r:=by
 unfold eR at h;split at h
 .show#[_,rfl,h]
 .cases h
def Gi(J:X.calm=cb)(B:C.K=X.K)(Rf:X.A.guards≈[])(QO:X.A.units+60<MJ)(t:Po C c0 c rs vs)(I:Inv X pins c.σ c.H s)(rv:Vals vs us)(h:Nm f rs≈r)(q:cG C c0 Q r c.st):
  (fx (gj X.prog X.w) X.A) (TN f.val us) (EP X pins c.σ Q) X.xe s:=by
 have z:=t.hσ;have ok:=t.ok;have n:=t.nx;cases f with
 |len =>
  have(x,rfl,hz):=br (f:=λx=>(HE x.2).map λ(n:Nat)=>(Kd.loc,U.int (n:Int))) h;clear h;have h:=hz;clear hz;rw[eu]at h;have(k,e,rfl):=h;have(v,rfl,g):=t.one;have(kx,N):=x;unfold HE at e;split at e
  .rename_i xs D;have D:N=.lst xs:=D;subst D;cases e;have(a',ws,ex,l,y):=g.list ok;rw[y.len]at q;show call_of jr I rv #[a',ws,by rw[ex],.inl (B▸l),q.flat z ok n rfl]
  .rename_i xs D;have D:N=.tup xs:=D;subst D;cases e;have(a',ws,ex,l,y):=g.tuple ok;rw[B]at l;rw[y.len]at q;show call_of jr I rv #[a',ws,by rw[ex],.inr l,q.flat z ok n rfl]
  .rename_i xs D;have D:N=.str xs:=D;subst D;split at e
   .cases e;show call_of qB I rv #[_,by rw[g.str ok],by assumption,q.flat z ok n rfl]
   .cases e
  .rename_i ks us D;have D:N=.J' ks us:=D;subst D;cases e;have(a',kvs,ex,l,y,_):=g.dict ok;have OW:⇑ks=⇑kvs:=by rw[<-df (f:=(·.1)) (as:=kvs),y,df]
   rw[OW]at q;show call_of tE I rv #[a',kvs,by rw[ex],l,q.flat z ok n rfl]
  .cases e
 |sorted =>
  have(x,rfl,hz):=br (f:=HF) h;clear h;have h:=hz;clear hz;have(v,rfl,g):=t.one;unfold HF at h;split at h
  .have(a',ws,ex,l,y):=g.list ok;unfold nI at h;split at h
   .rename_i ss e;have L:=bX e;subst L;rw[ai.strs]at y;subst y;split at h
    .cases h;show call_of lb I rv #[a',ss,by rw[ex],.inl (B▸l),by assumption,λp G=>q.list z ok n (ai.strs.mpr rfl) p G]
    .cases h
   .unfold Bd at h;have(ks,e,h):=l'.mp h;split at h
    .rename_i hh;cases h;subst ex;have(u,rfl,Y):=vals1 rv;cases Y;have(as,rfl,hl,ht):=ai.ZV B e y;have O:=da hh.2.2 y;show vg I (B▸l) hl ht hh.2.1 ⋯ λp G=>q.list z ok n (ai.xr λi hi=>?_) p G;have MX:i<⇑as:=by
      have:=tj.mp ((bS _).mem_iff.mp hi);lia
     have WJ:=O.len;rw[df]at WJ;have(w,hw,ab):=O.get (nC (show i < _ by lia));have e1:w=V.ref (as.getD i 0):=by
      have:(as.map V.ref)[i]?≈V.ref (as.getD i 0):=by simp[Ry,MX]
      simp_all
     rw[<-e1,<-Ō];show ab
    .cases h
  .have(a',kvs,ex,l,y,_):=g.dict ok;split at h
   .cases h;show call_of (fA J) I rv #[a',kvs,_,by rw[ex],Rd.of l,y,by assumption,λp G=>q.list z ok n (ai.strs.mpr rfl) p G]
   .cases h
  .have(a',o,kvs,ex,l,y,_):=g.xn ok;split at h
   .cases h;show call_of (fA J) I rv #[a',kvs,_,by rw[ex],.inr #[o,l],y,by assumption,λp G=>q.list z ok n (ai.strs.mpr rfl) p G]
   .cases h
  .rw[l']at h;have(ss,e,h):=h;have L:=bX e;subst L;have(a',ws,ex,l,y):=g.tuple ok;rw[B]at l;rw[ai.strs]at y;subst y;split at h
   .cases h;show call_of lb I rv #[a',ss,by rw[ex],.inr l,by assumption,λp G=>q.list z ok n (ai.strs.mpr rfl) p G]
   .cases h
  .cases h
 |list =>
  have(x,rfl,hz):=br (f:=HG) h;clear h;have h:=hz;clear hz;have(v,rfl,g):=t.one;unfold HG at h;split at h
  .have(a',ws,ex,l,y):=g.list ok;split at h
   .cases h;show call_of js I rv #[a',ws,by rw[ex],.inl (B▸l),λp G=>q.list z ok n (da (by assumption) y) p G]
   .cases h
  .have(a',ws,ex,l,y):=g.tuple ok;rw[B]at l;split at h
   .cases h;show call_of js I rv #[a',ws,by rw[ex],.inr l,λp G=>q.list z ok n (da (by assumption) y) p G]
   .cases h
  .cases h
 |tuple =>
  have(x,rfl,hz):=br (f:=HH) h;clear h;have h:=hz;clear hz;have(v,rfl,g):=t.one;unfold HH at h;split at h
  .have(a',ws,ex,l,y):=g.list ok;cases h;show call_of iF I rv #[a',ws,by rw[ex],.inl #[B▸l,λp G=>q.tupK z ok n y p G]]
  .have(a',ws,ex,l,y):=g.tuple ok;have P7:=l;rw[B]at P7;cases h;show call_of iF I rv #[a',ws,by rw[ex],.inr #[P7,q c (.ref a') z rfl ok n (aW.item #[a',ws,rfl,l,y])]]
  .cases h
 |str =>
  have(x,rfl,hz):=br (f:=Be) h;clear h;have h:=hz;clear hz;have(v,rfl,g):=t.one;unfold Be at h;split at h
  .split at h
   .cases h;show call_of qv I rv #[_,by rw[g.int ok],by assumption,q.flat z ok n rfl]
   .cases h
  .cases h
 |int =>
  have(x,rfl,hz):=br (f:=HM) h;clear h;have(v,rfl,g):=t.one;unfold HM at hz;split at hz
  .cases hz;show call_of yM I rv (.inr #[_,by rw[g.bl ok],q.flat z ok n rfl])
  .cases hz
 |repr =>
  have(x,rfl,hz):=br (f:=HI) h;clear h;have h:=hz;clear hz;have(v,rfl,g):=t.one;unfold HI at h;split at h
  .split at h
   .cases h;show call_of oY I rv #[_,by rw[g.str ok],by assumption,q.flat z ok n rfl]
   .cases h
  .show xq B Rf QO I rv (g.read ok) h q z ok n
  .show xq B Rf QO I rv (g.read ok) h q z ok n
  .cases h
 |max =>
  have h:zh cK rs≈r:=h;unfold zh at h;split at h
  .have(v,v',rfl,g,ty):=t.two;cases h;show call_of (yK J) I rv #[_,_,by rw[g.int ok,ty.int ok],q.flat z ok n rfl]
  .cases h
 |min =>
  have h:zh cb rs≈r:=h;unfold zh at h;split at h
  .have(v,v',rfl,g,ty):=t.two;cases h;show call_of (yL J) I rv #[_,_,by rw[g.int ok,ty.int ok],q.flat z ok n rfl]
  .cases h
 |all =>
  have(x,rfl,hz):=br (f:=HJ) h;clear h;have h:=hz;clear hz;have(v,rfl,g):=t.one;unfold HJ at h;split at h
  .rw[eu]at h;have(bs,e,rfl):=h;have L:=nO e;subst L;have(a',ws,ex,l,y):=g.list ok;have:=y.ZN;subst this;show call_of (Ax J) I rv #[a',bs,by rw[ex],B▸l,q.flat z ok n rfl]
  .cases h
 |sum =>
  have(x,rfl,hz):=br (f:=HL) h;clear h;have h:=hz;clear hz;have(v,rfl,g):=t.one;unfold HL at h;split at h
  .rw[eu]at h;have(ns,e,rfl):=h;have L:=gP e;subst L;have(a',ws,ex,l,y):=g.list ok;have O:=ai.ints y;subst O;show call_of (AZ J) I rv #[a',ns,by rw[ex],B▸l,q.flat z ok n rfl]
  .cases h
 |dict =>
  have(x,rfl,hz):=br (f:=HK) h;clear h;have h:=hz;clear hz;have(v,rfl,g):=t.one;have(u,rfl,Y):=vals1 rv;unfold HK at h;split at h
  .have(ps,e,h):=l'.mp h;have(a',ws,ex,l,y):=g.list ok;subst ex;cases Y;have(hf,as,rfl,hl,ht):=ai.ZU B e y;split at h
   .cases h;show Eh (ps:=ps.map λp=>(p.1,Uz p.2)) J I (B▸l) ⋯ (λj a p e1 T=>by
     rw[hU,eu]at T;have(p0,T,rfl):=T;show ht j a p0 e1 T) (by rw[fR];assumption) λd hd=>q.root z ok n d hd #[_,av,by simp,by rw[fR,fR];show ai.ZT hf]
   .cases h
  .cases h
 |_=>cases h
def ES{id}(g:X.calm=cb)(i:C.K=X.K)(j:X.A.guards≈[])(k:X.A.units+60<MJ)(l:f.val=.builtin id)(n:Gl X x)(o:X.mg x=b6)(u:I0 x≈.builtin id)(v:x≠"__name__")(y:(x==("__debug__":Str))=cK)
  (B:PA X (e::es) (NB C ms)) (D:mn (e::es) X.env=(cK,K1 e X.env)::mn es X.env) (G:(RN pos (mn es X.env)).any (·.1)=cK) :
  PE X (.Call (.Name x p) (e::es) [] pos) (Md C (ms >>= λrs=>aR rs >>= λ_=>M.Mw (Nm f rs))):=by
 rintro pins s σ H Q I ⟨c0,rfl,rfl,ok,h⟩;show MI (c6 I n o u ?_ v y);show ZS (Mb (args B I ok h pos) λus s1 ⟨rs,c,vs,t,J,rv,w⟩=>?_) D G;have(r,e,q):=bW.mp w;have z:=Gi g i j k t J rv e q;rw[l,t.hσ]at z;show z
def ET(g:X.calm=cb)(i:C.K=X.K)(j:X.A.guards≈[])(k:X.A.units+60<MJ)(l:f.val=.type T)(n:Gl X x)(o:X.mg x=b6)(u:I0 x≈.type T)(v:x≠"__name__")(y:(x==("__debug__":Str))=cK)
  (B:PA X (e::es) (NB C ms)) (D:mn (e::es) X.env=(cK,K1 e X.env)::mn es X.env) (G:(RN pos (mn es X.env)).any (·.1)=cK) :
  PE X (.Call (.Name x p) (e::es) [] pos) (Md C (ms >>= λrs=>aR rs >>= λ_=>M.Mw (Nm f rs))):=by
 rintro pins s σ H Q I ⟨c0,rfl,rfl,ok,h⟩;show MI (c6 I n o u ?_ v y);show N3 (Mb (args B I ok h pos) λus s1 ⟨rs,c,vs,t,J,rv,w⟩=>?_) D G;have(r,e,q):=bW.mp w;have z:=Gi g i j k t J rv e q;rw[l,t.hσ]at z;show z
abbrev P4.name:P4->Str
 |.str=>"str"|.list=>"list"|.tuple=>"tuple"|.int=>"int"|.bool=>"bool"
abbrev P4.nm:P4->String
 |.str=>"str"|.list=>"list"|.tuple=>"tuple"|.int=>"int"|.bool=>"bool"
def EU(T:P4):I0 T.name≈.type T.nm/\T.name≠"__name__"/\(T.name==("__debug__":Str))=cK:=by
 cases T<;>show#[by rfl,by decide +kernel,by rfl]
def jM(T:P4):ϗ (.type T.nm)=pure (.type "type"):=by cases T<;>kernel_rfl
def sub_int(T:P4):å (.type "int") (.type T.nm)=pure (dV (T=.int)):=by cases T<;>(rw[UR];rfl)
def ne_int{T:P4}(h:¬T=.int):(Qv "int"==Qv T.nm)=cK:=by cases T<;>first|show absurd rfl h|decide
def Ih{b}(z:C.K=X.K)(t:QL C c0 c x v)(I:Inv X pins c.σ c.H s)(rv:RelV v l)(h:tS x.2 T≈b)(q:∀g,Q (.bool b) {s with toks:=g}):
  (fx (gj X.prog X.w) X.A) (TN (.builtin "isinstance") [l,.type T.nm]) Q X.xe s:=by
 have(k,u):=x;have(G,ok,n,r):=t;have j:Q _ s:=q s.toks
 dsimp only at h r
 unfold tS at h;split at h
 .cases h;have e:v=_:=r.int ok;subst e;have(g,rfl):=rv;by_cases f:T=.int
  .subst f;show Ru (ĸ s _ g) (jM .int) (sub_int .int) j
  .rw[decide_eq_false f]at q;show call_isinstance (isinstance_false_int (ne_int f) (jM T) (by rw[sub_int,decide_eq_false f])) (q _)
 .have(f,e):=D'.mp h;cases e;subst f;have(a',ws,rfl,i,B):=r.list ok;cases rv;rw[z]at i;have(its,_,D,_):=I.list i;have(o,ho,y,_):=D.isList;show Ru #[o,ho,y] (jM .list) (by rw[UR];rfl) j
 .have(f,e):=D'.mp h;cases e;subst f;have(a',ws,rfl,i,B):=r.tuple ok;cases rv;rw[z]at i;have(its,_,(o,ho,y,_),_):=I.tuple i;show Ru #[o,ho,y] (jM .tuple) (by rw[UR];kernel_rfl) j
 .have(f,e):=D'.mp h;cases e;subst f;have e:v=_:=r.str ok;subst e;have(g,rfl):=rv;show Ru (VV s _ g) (jM .str) (by rw[UR];kernel_rfl) j
 .cases h
def xu(j:C.K=X.K)(k:Gl X "isinstance")(l:X.mg "isinstance"=b6)(n:Gl X T.name)(o:X.mg T.name=b6)(q:PE X a (Md C ma))(hs:mn [a,.Name T.name p2] X.env=(cK,K1 a X.env)::mn [.Name T.name p2] X.env):
  PE X (.Call (.Name "isinstance" p) [a,.Name T.name p2] [] pos) (Md C (ma >>= λx=>M.Mw (tS x.2 T) >>= λb=>pure (.loc,.bl b))):=by
 rintro pins s σ H Q I ⟨c0,rfl,rfl,ok,h⟩;have(r,u,y):=EU T;show MI (c6 I k l (show I0 _≈_ by rfl) ?_ (by decide +kernel) (by decide +kernel));show ZS (Mb (hJ q (hJ (DB (v:=.ty T.nm) n o r rfl u y) mK) hs pos pins s c0.σ c0.H (λvs H'=>∃x c v b,QL C c0 c x v/\c.H=H'/\vs=[v,.ty T.nm]/\tS x.2 T≈b/\cG C c0 Q (.loc,.bl b) c.st) I ?_) λus s1 ⟨vs,L,i,A,x,c,v,b,t,e,B,D,w⟩=>?_) hs (by rfl)
 .show aZ ok h λx c v t w=>?_;rw[ah]at w;have(b,e,w):=bW.mp w;rw[ak]at w;show#[x,c,v,b,t,rfl,rfl,e,w]
 .subst e B;have(N,O,rfl,f,g):=vals2 A;cases g;have G:Inv X pins c.σ c.H s1:=by rw[t.hσ];show i
  have z:=Ih (Q:=EP X pins c0.σ Q) j t G f D λJ=>#[.bl b,c.H,i.tok J,rfl,w c _ t.hσ rfl t.ok t.nx rfl]
  show z
@[reducible]noncomputable def QP(P:vl)(w:OE)(K:W.Frag)(H:Hp)(f:k7->Prop):Ct:=#[P,w,K,H,f,λ_=>False]
structure Back(C:Ct)(H H':Hp)(S':k7->Prop)(k:Kd)(u:U)(v:V):Prop where
 same:Hc H H'
 new:∀a,S' a->H a=b6/\∃o,H' a≈o
 own:k=.own->∃r,v=.ref r/\H r=b6/\¬S' r/\dX C S' H' r u
 loc:k=.loc->Rep C S' H' u v
 any:k=.any->Rep C (PS C S') H' u v
abbrev spT(P:vl)(w:OE)(K:W.Frag)(F:↑U->Option (Ex (Kd×U)))(g:Nat):Sp:=λvs H Q _=>⇑vs=g/\∃us k u f,F us≈.ok (k,u)/\(k=.own\/k=.loc\/k=.any)/\(∀a,f a->Pf H a) /\
 ai (QP P w K H f) f H us vs/\∀v H' S',Back (QP P w K H f) H H' S' k u v->Q v H'
def Po.read(t:Po C c0 c rs vs):ai C (Pf c.H) c.H (rs.map (·.2)) vs:=by
 have f:∀(l:↑_) (w:↑V),eX C c0 c l w->bB l c.st->ai C (Pf c.H) c.H (l.map (·.2)) w:=by
  intro l;induction l with
  |nil=>intro w h _;show h
  |cons r l g =>
   intro w h hs;have(v,t',rfl,i,j,_):=h;rw[ie]at hs;show#[v,t',rfl,(i.t hs.1).read t.ok,g t' j hs.2]
 show f rs vs t.rep t.QM
def Back.here(hk:k=.own\/k=.loc)(g:c.σ=c0.σ)(ok:Ok C c)(n:Nx c0 c)(q:i.Eqv C)(h:Back i c.H H' S' k u v)(w:cG C c0 Q (k,u) c.st):Q v H':=by
 have(j,l):=ok.grow (S':=λa=>c.S a\/S' a) h.same (λa z=>z.imp id λz=>h.new a z) λa=>.inl;have t:=n.trans l;show w {c with H:=H',S:=λa=>c.S a\/S' a} v g rfl j t ?_;rcases hk with rfl|rfl
 .have(r,e,f,x,y):=h.own rfl;have(D,A,G,I,B):=ok.kh f;show#[r,e,n.none f,λz=>z.elim A x,B,(y.cg q).mv (.up λa=>.inr) λo q=>q]
 .show((h.loc rfl).cg q).mv (.up λa=>.inr)
def Bu(o:C.P=X.prog)(x:C.w=X.w)(y:C.K=X.K)(N:Γ f=F)(hk:∀us k u,F us≈.ok (k,u)->(k=.own\/k=.loc\/k=.any)/\⇑us=B)
  (G:oP X.prog X.w X.K X.mg X.base Qc k fa O ps (spT X.prog X.w X.K F B)) (T:iP k X.A) (Y:Gl X f) (hm:X.mg f≈.ref fa) (Xp:W.keepIn X.K (.ref fa)=cb) (i:Binds X.K O ps [])
  (RE:(f==("__debug__":Str))=cK) (ha:PA X (e::es) (NB C ms)) (he:mn (e::es) X.env=(cK,K1 e X.env)::mn es X.env) (My:(RN pos (mn es X.env)).any (·.1)=cK) :
  PE X (.Call (.Name f p) (e::es) [] pos) (Md C (ms >>= λrs=>aR rs >>= λ_=>pP Γ f (rs.map (·.2)))):=by
 rintro pins s σ H Q I ⟨c0,rfl,rfl,ok,h⟩;show MI (wF I Y hm ?_ RE);show W.callWith_K (h₀:=X.base) I.ok.mod.VQ Xp (Mb (args ha I ok h pos) λus s1 ⟨rs,c,vs,t,D,rv,w⟩=>#[D.Sw,?_]) he My;have(r,st',g,q):=w;unfold pP at g;rw[N]at g;cases j:F (rs.map (·.2)) with
 |none=>simp_all
 |some r' =>
  rw[j]at g;split at g
  .cases g
  .simp_all
  rename_i XW e3;cases e3;cases g;have(l,u):=r;have(J,k2):=hk _ _ _ j;have k1:l=.own\/l=.loc:=by
   rcases J with z|z|z
   .show .inl z
   .show .inr z
   .subst z;show(XW u rfl).elim
  have n:C.Eqv (QP X.prog X.w X.K c.H (Pf c.H)):=#[o,x,y]
  have XX:(QP X.prog X.w X.K c.H (Pf c.H)).Eqv C:=#[o.symm,x.symm,y.symm]
  have L:=t.read;have NO:spT X.prog X.w X.K F B vs c.H (λv H'=>Q v H') E0:=#[by rw[<-L.len];show k2,rs.map (·.2),l,u,Pf c.H,j,J,λ_ z=>z,L.cg n,λv H' S' i=>i.here k1 t.hσ t.ok t.nx XX q]
  have z:=G6 (Q:=Q) G T i .nil JQ D rv ⋯;rw[t.hσ]at z;show z
end
abbrev Mf.id:Mf->String
 |.split=>"str.split"|.join=>"str.join"|.partition=>"str.partition"|.endswith=>"str.endswith"
abbrev Mf.name:Mf->Str
 |.split=>"split"|.join=>"join"|.partition=>"partition"|.endswith=>"endswith"
def Bw(h:jH f u rs≈r):∃x,u=.str x:=by
 obtain⟨b,e,-⟩:=gM h;show#[b,e]
def Ii(L:C.K=X.K)(t:Po C c0 c (x::rs) (k::vs))(I:Inv X d c.σ c.H s)(m:RelV k v)(rv:Vals vs us)(h:jH f x.2 rs≈r)(q:cG C c0 Q r c.st):
  (fx (gj X.prog X.w) X.A) (TN (.builtin f.id) (v::us)) (EP X d c.σ Q) X.xe s:=by
 have o:=t.hσ;have ok:=t.ok;have n:=t.nx;have(kx,ux):=x;have hs:=ie.mp t.QM;obtain⟨v0,Vy,N,y,z,-⟩:=t.rep;cases N;have O:=y.t hs.1;have one:∀{r:Kd×U},eX C c0 c [r] vs->bB [r] c.st->∃v,vs=[v]/\aW C c0 c r.1 r.2 v:=λ{r} h s=>by
  have(v,t',rfl,y,z,_):=h;cases z;show#[v,rfl,y.t s]
 have(a,T,g):=gM h;subst T;have((ky,Y),er,j):=br g;subst er;have(w,rfl,l):=one z hs.2;have ex:=O.str ok
 dsimp only at j l
 cases f with
 |split =>
  have(b,rfl,i):=gM j;have(hh,e):=D'.mp i;cases e;show Aw d s c.σ c.H k [w] v us Q I m rv #[_,_,ex,by rw[l.str ok],hh.1,hh.2,λp B=>q.list o ok n (ai.strs.mpr rfl) p B]
 |join =>
  cases Y with
  |lst xs =>
   have(ss,e,i):=l'.mp j;have D:=bX e;subst D;have(hh,e):=D'.mp i;cases e;have(a',ws,G,J,u):=l.list ok;rw[ai.strs]at u;subst u;show DX d s c.σ c.H k [w] v us Q I m rv #[_,a',ss,ex,by rw[G],L▸J,hh,q.flat o ok n rfl]
  |tup xs =>
   have(ss,e,i):=l'.mp j;have D:=bX e;subst D;have(hh,e):=D'.mp i;cases e;have(a',ws,G,J,u):=l.tuple ok;rw[ai.strs]at u;subst u;show Bb d s c.σ c.H k [w] v us Q I m rv #[_,a',ss,ex,by rw[G],L▸J,hh,q.flat o ok n rfl]
  |_=>cases j
 |endswith =>
  have(b,rfl,i):=gM j;cases i;show sP d s c.σ c.H k [w] v us Q I m rv #[_,_,ex,by rw[l.str ok],q.flat o ok n rfl]
 |partition =>
  have(b,rfl,i):=gM j;have(hh,e):=D'.mp i;cases e;show qL d s c.σ c.H k [w] v us Q I m rv #[_,_,ex,by rw[l.str ok],hh.1,hh.2,λp B=>?_];show q.tup o ok n #[_,_,rfl,rfl,_,_,rfl,rfl,_,_,rfl,rfl,rfl] p B
def EV(L:C.K=X.K)(slot:Slot "str" name f.id)(N:ϗ (.builtin f.id)=pure (.type "method_descriptor"))(ho:PE X o (Md C m))(O:PA X (e::es) (NB C ms))
  (T:Ug o name X.env (K1 o X.env)=K1 o X.env)
  (Y:((RN d (mn (e::es) X.env)).all (λx=>!x.1)&&(XO d (TV [] X.env)).all (λx=>x.1.isSome)
   && dV (⇑(e::es)+⇑([]:↑Uw)+(if ([]:↑Uw).isEmpty then 0 else 1)<30))=cb)
  (Mk:(g.endLine==d.line)=cb) (hs:mn (e::es) X.env=(cK,K1 e X.env)::mn es X.env) (NC:(RN d (mn es X.env)).any (·.1)=cK) :
  PE X (.Call (.Attribute o name g) (e::es) [] d) (Md C (m >>= λx=>ms >>= λrs=>aR (x::rs) >>= λ_=>M.Mw (jH f x.2 rs))):=by
 rintro a s σ H Q I ⟨c0,rfl,rfl,ok,h⟩;show ţ T Y Mk rfl (Mb (ho a s c0.σ c0.H (λj p=>∃x c1,c1.H=p/\QL C c0 c1 x j/\W (ms >>= λrs=>aR (x::rs) >>= λ_=>M.Mw (jH f x.2 rs)) c1.st (cG C c0 Q)) I (aZ ok h λx c v t w=>#[x,c,rfl,t,w])) ?_);rintro v s1 ⟨j,p,u,y,x,c1,rfl,t,w⟩;have R7:∃z,x.2=.str z:=by
  rw[ah]at w;have(rs,st2,_,w):=w;rw[ah]at w;have(_,st3,_,w):=w;have(r,e,_):=bW.mp w;show Bw e
 have(z,hz):=R7;have A:=t.rx;rw[hz]at A;have ev:=A.str t.ok;have ty:U2 X.K "str" j c1.H:=by rw[ev];rfl
 have(h1,h2):=qC u y ty;show#["str",f.id,F.plainAttrs_str,slot,N,h1,h2,?_];rw[ah]at w;have B:=O d a s1 c0.σ c1.H (λvs D=>∃rs b,b.H=D/\Po C c0 b (x::rs) _/\W (M.Mw (jH f x.2 rs)) b.st _) u ⟨c1,t.hσ,rfl,t.ok,w.mono λrs st2 l b vs G e4 Ms J k=>by
  rw[ah,cF]at l;subst e4;show#[rs,b,rfl,#[G,Ms,t.nx.trans J,#[j,vs,rfl,t.rx.w.on t.ok J (G.trans t.hσ.symm),k.from t.nx,λhk i r' v' e5 e6 MW=>rg t.rx.w (k.get e5 e6) hk MW],l.1],l.2]⟩
 rw[hs]at B ⊢;show MH (by assumption) (Ub ?_);show Mb B ?_;rintro us s2 ⟨vs,D,I2,k,rs,b,rfl,n,w2⟩;have(r,e,q):=bW.mp w2;have z:=Ii L n (by rw[n.hσ];show I2) y k e q;rw[n.hσ]at z;show z
section
variable{X:Cx}{C:Ct}{pins:List (k7×Obj)}{s:k9}{c0 c c1:Cf}
variable{e:p7}{es:List p7}{ms:M (List (Kd×U))}{pos p p2 pos2:Pos}
abbrev B2.out:B2->hY
 |.Ph=>.type "tuple"|.Ow=>.type "list"|.sset=>.builtin "sorted"|.iQ=>.builtin "len"
abbrev B2.XY:B2->hY
 |.Ph=>.type "reversed"|.Ow=>.type "reversed"|.sset=>.type "set"|.iQ=>.type "set"
abbrev B2.rm:B2->Str
 |.Ph=>"tuple"|.Ow=>"list"|.sset=>"sorted"|.iQ=>"len"
abbrev B2.kr:B2->Str
 |.Ph=>"reversed"|.Ow=>"reversed"|.sset=>"set"|.iQ=>"set"
theorem ai.rev{S}:∀{us}{vs},ai C S H us vs->ai C S H us.reverse vs.reverse
 |[],vs,h=>by cases h;rfl
 |u::us,vs,h=>by
  have(v,r,rfl,a,b):=h;rw[Ys,Ys];show(ai.rev b).append #[v,[],rfl,a,rfl]
def ku(i:C.K=X.K)(ok:Ok C c)(j:aW C c0 c k u v)(h:iC u≈ss):∃a b,v=.ref a/\(Mz X.K c.H a (b.map V.str)\/MA X.K c.H a (b.map V.str))/\⇑b+1<Q9/\ss=aU b:=by
 unfold iC at h;split at h
 .rw[l']at h;have(b,e,h):=h;have g:=bX e;subst g;have(a',ws,ex,f,d):=j.list ok;rw[ai.strs]at d;subst d;split at h
  .cases h;show#[a',b,ex,.inl (i▸f),⋯,rfl]
  .cases h
 .rw[l']at h;have(b,e,h):=h;have g:=bX e;subst g;have(a',ws,ex,f,d):=j.tuple ok;rw[ai.strs]at d;subst d;rw[i]at f;split at h
  .cases h;show#[a',b,ex,.inr f,by assumption,rfl]
  .cases h
 .cases h
theorem tT{S}:∀{xs}{ks}{vs},nK xs≈ks->ai C S H xs vs->∃ws:↑(iS×k7),ks=ws.map (·.1)/\vs=ws.map (λq=>V.ref q.2)/\∀q∈ws,fw C.K H (.ref q.2) q.1
 |[],ks,vs,e,h=>by cases e;cases h;show#[[],rfl,rfl,λq hq=>by cases hq]
 |u::us,ks,vs,e,h=>by
  rw[nK,l']at e;have(r,d,e):=e;have(o,f,rfl):=eu.mp e;have g:=jc d;subst g;have(v,t,rfl,i,j):=h;have(ws,rfl,rfl,k):=tT f j;have l:=Rep.row i;have(a,b,rfl,m,n):=l;show#[(r,a)::ws,rfl,rfl,λq hq=>?_];rcases f6.mp hq with rfl|hq
  .show#[a,b,rfl,m,n]
  .show k q hq
def Ij(i:X.calm=cb)(B:X.A.units+60<MJ)(j:C.K=X.K)(t:Po C c0 c rs vs)(I:Inv X pins c.σ c.H s)(rv:Vals vs us)(h:tL f rs≈r)(q:cG C c0 Q r c.st):
  (fx (gj X.prog X.w) X.A) (TN f.XY us) (λv s1=>(fx (gj X.prog X.w) X.A) (TN f.out [v]) (EP X pins c.σ Q) X.xe s1) X.xe s:=by
 have o:=t.hσ;have ok:=t.ok;have n:=t.nx;cases f with
 |Ph=>cases h
 |Ow =>
  have(x,rfl,hz):=br (f:=HP) h;clear h;have h:=hz;clear hz;have(v,rfl,g):=t.one;unfold HP at h;split at h
  .have(a',ws,ex,a,b):=g.list ok;rw[j]at a;subst ex;have(u,rfl,d):=vals1 rv;cases d;split at h
   .cases h;show AV i I a λl hl=>q.list o ok n (da (by assumption) b).rev l hl
   .cases h
  .cases h
 |sset =>
  have(x,rfl,hz):=br (f:=λx=>(iC x.2).bind λss=>if ⇑ss<64 then bD (Kd.own,U.lst ((aD ss).map .str)) else b6) h;clear h;have h:=hz;clear hz;have(ss,e,h):=l'.mp h;have(v,rfl,g):=t.one;have(a',D,rfl,a,b,rfl):=ku j ok g e;have(u,rfl,d):=vals1 rv;cases d;split at h
  .cases h;show jD i I a b λS h' z k m=>iJ i m k (by assumption) λl hl=>q.list o ok n (ai.strs.mpr rfl) l hl
  .cases h
 |iQ =>
  have(x,rfl,hz):=br (f:=tK) h;clear h;have(L,G):=x;have(v,rfl,g):=t.one;unfold tK at hz;split at hz
  .rename_i ss e;cases hz;have(a',D,rfl,a,b,rfl):=ku j ok g e;have(u,rfl,d):=vals1 rv;cases d;show jD i I a b λS h' z k m=>mZ m k (q.flat o ok n rfl)
  .have hz:HN G≈r:=hz;unfold HN at hz;split at hz
   .rw[l']at hz;have(ks,e,hz):=hz;split at hz
    .cases hz;have(a',N,rfl,a,b):=g.list ok;have(ws,rfl,rfl,J):=tT e b;have(u,rfl,d):=vals1 rv;cases d;have y:⇑(ws.map (·.1))<=64/\(ws.map (·.1)).Nodup:=by assumption
     show tI i B I (j▸a) (λq y=>j▸J q y) (by simpa using y.1) y.2 λS h' z k m=>tJ m k (q.flat o ok n rfl)
    .cases hz
   .cases hz
def xv:∀f:B2,I0 f.rm≈f.out/\I0 f.kr≈f.XY/\f.rm≠"__name__"/\f.kr≠"__name__"/\(f.rm==("__debug__":Str))=cK/\(f.kr==("__debug__":Str))=cK:=by
 intro f;cases f<;>show#[by decide +kernel,by decide +kernel,by decide +kernel,by decide +kernel,by decide +kernel,by rfl]
def Il(f:B2):∃T,f.XY=.type T:=by cases f<;>show#[_,rfl]
def Im(f:B2):(∃T,f.out=.type T)\/∃T,f.out=.builtin T:=by cases f<;>first|show .inl ⟨_,rfl⟩|show .inr ⟨_,rfl⟩
def xw{M}{E}(h:fx M A t (λv a=>fx M A (TN (.type T) [v]) Q E a) E s):fx M A (callWith pos (.type T) [] [(cK,t)] []) Q E s :=
 PySem.callWith_type rfl (Ub (U3 (vu h (λ_ _ b=>X' b) λ_ _ e=>e)))
def rn{M}{E}(h:fx M A t (λv a=>fx M A (TN (.builtin T) [v]) Q E a) E s):fx M A (callWith pos (.builtin T) [] [(cK,t)] []) Q E s :=
 MH rfl (Ub (U3 (vu h (λ_ _ b=>X' b) λ_ _ e=>e)))
def Bx(b:X.calm=cb)(d:X.A.units+60<MJ)(g:C.K=X.K)(i:Gl X f.kr)(j:X.mg f.kr=b6)
  (k:PA X (e::es) (NB C ms)) (l:mn (e::es) X.env=(cK,K1 e X.env)::mn es X.env) (m:(RN pos2 (mn es X.env)).any (·.1)=cK)
  (I:Inv X pins c0.σ c0.H s) (ok:Ok C c0) (h:W (ms >>= λrs=>aR rs >>= λ_=>M.Mw (tL f rs)) c0.st (cG C c0 Q)) :
  (fx (gj X.prog X.w) X.A) (K1 (.Call (.Name f.kr p2) (e::es) [] pos2) X.env) (λv s1=>(fx (gj X.prog X.w) X.A) (TN f.out [v]) (EP X pins c0.σ Q) X.xe s1) X.xe s:=by
 have(b1,n,b3,b4,B,o):=xv f;show MI (c6 I i j n ?_ b4 o);have a :=
  Mb (args k I ok h pos2) λus s1 u=>by
   have(rs,c,vs,t,x,rv,w):=u;have(r,e,q):=bW.mp w;have z:=Ij b d g t x rv e q;rw[t.hσ]at z;show z
 have(T,y):=Il f;rw[y]at a ⊢;show N3 a l m
def EW(d:X.calm=cb)(g:X.A.units+60<MJ)(i:C.K=X.K)(j:Gl X f.rm)(k:X.mg f.rm=b6)(l:Gl X f.kr)(m:X.mg f.kr=b6)
  (n:PA X (e::es) (NB C ms)) (o:mn (e::es) X.env=(cK,K1 e X.env)::mn es X.env) (q:(RN pos2 (mn es X.env)).any (·.1)=cK) :
  PE X (.Call (.Name f.rm p) [.Call (.Name f.kr p2) (e::es) [] pos2] [] pos) (Md C (ms >>= λrs=>aR rs >>= λ_=>M.Mw (tL f rs))):=by
 rintro pins s σ H Q I ⟨c0,rfl,rfl,ok,h⟩;have(b1,v,b3,b4,r,w):=xv f;show MI (c6 I j k b1 ?_ b3 r);have a:=Bx (p2:=p2) (pos2:=pos2) d g i l m n o q I ok h;have t:RN pos (mn [.Call (.Name f.kr p2) (e::es) [] pos2] X.env)=[(cK,K1 _ X.env)]:=rfl;have u:XO pos (TV [] X.env)=[]:=rfl;rw[t,u];rcases Im f with⟨T,b⟩|⟨T,b⟩
 .rw[b]at a ⊢;show xw a
 .rw[b]at a ⊢;show rn a
end
section
variable{X:Cx}{C:Ct}{pins:List (k7×Obj)}{s:k9}{c0 c c1:Cf}
variable{a b d e o tg:p7}{es:List p7}{m ma mb md:M (Kd×U)}{ms:M (List (Kd×U))}{ta tb:M Bool}{pos p p2 apos A':Pos}
abbrev lj(rs:↑(Kd×U))(c f:Cf):Prop:=∀j u,(Kd.bor j,u)∈rs->f.σ[j]?=c.σ[j]?
abbrev Walk(C:Ct)(c:Cf)(rs:↑(Kd×U))(xs:↑(Kd×U))(J:It):Prop:=∀f,Ok C f->Ns c f->lj rs c f->bB rs f.st ->
 (∀(i:Nat) r,xs[i]?≈r->(r.1=.loc\/r.1=.any)/\J.go i f.H/\∀x H',J.UZ i f.H x H'->∃g:Cf,g.H=H'/\g.σ=f.σ/\g.st=f.st/\Ok C g/\Nx f g/\aW C f g r.1 r.2 x) /\
 ∀i:Nat,⇑xs<=i->J.stop i f.H
abbrev Pp(C:Ct)(ik:Ik)(ms:M (↑(Kd×U))):TI:=λσ H R=>∃c0:Cf,c0.σ=σ/\c0.H=H/\Ok C c0/\W (ms >>= λrs=>aR rs >>= λ_=>M.Mw (Nn ik rs) >>= λxs=>pure (rs,xs)) c0.st λq st' =>
 ∀c J,c.σ=σ->c.st=st'->Ok C c->Nx c0 c->bB q.1 c.st->Walk C c q.1 q.2 J->R J c.H
def aW.walk(ok:Ok C c)(n:Ns c f)(g:lj [r] c f)(hs:bB [r] f.st)(h:aW C c0 c r.1 r.2 v):aW C c0 f r.1 r.2 v :=
 (h.w.ZI ok n λj e=>g j r.2 (by rw[<-e];simp)).t hs
def By(k):kE k=.loc\/kE k=.any:=by cases k<;>simp[kE]
def zo(z:C.K=X.K)(ok:Ok C c)(h:aW C c0 c k (.lst us) (.ref a')):Walk C c [(k,.lst us)] (us.map λu=>(kE k,u)) (V2 X.K a'):=by
 intro l q n A hs;have h':=aW.walk  ok n A hs h;have(D,vs,e,f,t):=h'.list q;cases e;rw[z]at f;show#[λi r w=>?_,λi hi=>#[vs,f,by rw[<-t.len];simp_all]];rw[hU,eu]at w;have(u,B,rfl):=w;have(v,y,g):=t.get B;show#[By k,#[vs,v,f,y],λx H' j=>?_];have(e,j):=j;subst e;have:=j vs f;rw[y]at this;cases this;show#[l,rfl,rfl,rfl,q,Nx.refl l,aW.item g]
def vm(z:C.K=X.K)(ok:Ok C c)(h:aW C c0 c k (.tup us) (.ref a')):Walk C c [(k,.tup us)] (us.map λu=>(kE k,u)) (V3 X.K a'):=by
 intro l q n A hs;have h':=aW.walk  ok n A hs h;have(D,vs,e,f,t):=h'.tuple q;cases e;rw[z]at f;show#[λi r w=>?_,λi hi=>#[vs,f,by rw[<-t.len];simp_all]];rw[hU,eu]at w;have(u,B,rfl):=w;have(v,y,g):=t.get B;show#[By k,#[vs,v,f,y],λx H' j=>?_];have(e,j):=j;subst e;have:=j vs f;rw[y]at this;cases this;show#[l,rfl,rfl,rfl,q,Nx.refl l,aW.item g]
def jE:Walk C c [(k,.str x)] (x.cps.toList.map λch=>(.loc,.str #[#v[ch]])) (WG x):=by
 intro f l n t hs;show#[λi r g=>?_,λi hi=>by change ⇑x.cps.toList<=i;simp_all];rw[hU,eu]at g;have(ch,h,rfl):=g;show#[.inl rfl,(eH.mp h).1,λy H' q=>?_];have(e,u,j,rfl):=q;subst e;rw[h]at j;cases j;show#[f,rfl,rfl,rfl,l,Nx.refl f,rfl]
def zp{o}(ok:Ok C c)(g:c.H a'≈.MN o (.dK kvs))(h:kvs.map (·.1)=ks.map mA):Walk C c [(k,.NI ks us)] (ks.map λx=>(.loc,.str x)) (Xu a' o kvs):=by
 intro j v n G hs;have w:¬c.R a':=λz=>by
  have(_,_,_,I,e,A):=ok.root z;rw[g]at e;cases e;show A ttt
 have l:=n.keep _ _ g w;have hl:⇑kvs=⇑ks:=by simpa using congrArg K2 h
 show#[λi r q=>?_,λi hi=>#[l,by rw[hl];simpa using hi]];rw[hU,eu]at q;have(x,t,rfl):=q;have hi:i<⇑ks:=(eH.mp t).1;show#[.inl rfl,#[l,⋯],λy H' f=>?_];have(e,f):=f;subst e;have u:(kvs.map (·.1))[i]?≈mA x:=by rw[h,hU,t];rfl
 rw[hU,eu]at u;have((J,L),B,D):=u;cases D;show#[j,rfl,rfl,rfl,v,Nx.refl j,f _ _ B]
def nQ{lo}:Walk C c rs ((fS n).map λi:Nat=>(Kd.loc,U.int (lo+(i:Int)))) (To lo n):=by
 intro g k nx q hs;show#[λi r h=>?_,λi hi=>by change n<=i;simp_all];rw[hU,eu]at h;have(j,f,rfl):=h;have hi:=by simpa using(eH.mp f).1
 rw[ŕ hi]at f;cases f;show#[.inl rfl,hi,λy H' l=>?_];have(e,rfl):=l;subst e;show#[g,rfl,rfl,rfl,k,Nx.refl g,rfl]
def Io(q:C.K=X.K)(t:PE X a (Md C ma)):PI X tg a (Pp C .seq (ma >>= λr=>pure [] >>= λrs=>pure (r::rs))):=by
 rintro pins s σ H R I ⟨c0,rfl,rfl,ok,h⟩;rw[ah,ah]at h;have(r,st1,w,h):=h;rw[ah,ak,ak,ah,cF,ah]at h;have(y,h):=h;have(xs,l,h):=bW.mp h;rw[ak]at h;have(k,u):=r;cases u with
 |lst us =>
  cases l;show DH t pins s c0.σ c0.H R I #[c0,rfl,rfl,ok,_,st1,w,λc v i hs g n f=>?_];have(a',vs,rfl,j,z):=f.list g;subst hs;show#[a',rfl,#[vs,q▸j],h c _ i rfl g n y (zo q g f)]
 |tup us =>
  cases l;show G1 t pins s c0.σ c0.H R I #[c0,rfl,rfl,ok,_,st1,w,λc v i hs g n f=>?_];have(a',vs,rfl,j,z):=f.tuple g;subst hs;have A:=j;rw[q]at A;show#[a',rfl,#[vs,A],h c _ i rfl g n y (vm q g f)]
 |NI ks us =>
  cases l;show Ei t pins s c0.σ c0.H R I #[c0,rfl,rfl,ok,_,st1,w,λc v i hs g n f=>?_];have(a',o,kvs,rfl,j,z,B):=f.xn g;subst hs;show#[a',o,kvs,rfl,j,h c _ i rfl g n y (zp g j z)]
 |str x =>
  cases l;show Hm t pins s c0.σ c0.H R I #[c0,rfl,rfl,ok,_,st1,w,λc v i hs g n f=>?_];subst hs;show#[_,f.str g,h c _ i rfl g n y jE]
 |_=>cases l
def rp{k:↑(Kd×U)->M β}{g}(ok:Ok C c0)(h:W (ms >>= λrs=>aR rs >>= λ_=>k rs) c0.st g)
  (hz:∀rs c vs,Po C c0 c rs vs->W (k rs) c.st g->Z vs c.H):NB C ms c0.σ c0.H Z:=by
 rw[ah]at h;show#[c0,rfl,rfl,ok,h.mono λrs st1 f c1 vs i j l n q=>?_];rw[ah,cF]at f;subst j;show hz rs c1 vs #[i,l,n,q,f.1] f.2
def EX(g:Gl X "range")(i:X.mg "range"=b6)(hs:mn [a] X.env=[(cK,K1 a X.env)])(j:PA X [a] (NB C ms)):PI X tg (.Call (.Name "range" p) [a] [] pos) (Pp C .ML ms):=by
 rintro pins s σ H R I ⟨c0,rfl,rfl,ok,h⟩;show yG g i j hs pins s _ c0.H R I (rp ok h λrs c vs t w=>?_);rw[ah]at w;have(xs,f,w):=bW.mp w;rw[ak]at w;have(x,rfl,hz):=br  f;clear f;have f:=hz;clear hz;have(v,rfl,k):=t.one;unfold Bg at f;split at f
 .split at f
  .cases f;show#[_,by rw[k.int t.ok],⋯,⋯,w c _ t.hσ rfl t.ok t.nx t.QM nQ]
  .cases f
 .cases f
def EY(g:Gl X "range")(i:X.mg "range"=b6)(hs:mn [a,b] X.env=[(cK,K1 a X.env),(cK,K1 b X.env)])(j:mn [b] X.env=[(cK,K1 b X.env)])(k:PA X [a,b] (NB C ms)):PI X tg (.Call (.Name "range" p) [a,b] [] pos) (Pp C .QG ms):=by
 rintro pins s σ H R I ⟨c0,rfl,rfl,ok,h⟩;show yH g i k hs j pins s _ c0.H R I (rp ok h λrs c vs t w=>?_);rw[ah]at w;have(xs,f,w):=bW.mp w;rw[ak]at w;have f:HQ rs≈xs:=f;unfold HQ at f;split at f
 .split at f
  .cases f;have(v,q,rfl,l,n):=t.two;show#[_,_,by rw[l.int t.ok,n.int t.ok],⋯,w c _ t.hσ rfl t.ok t.nx t.QM nQ]
  .cases f
 .cases f
def tU{k}{us}{h}{a':k7}{w}(G:∀f,Ok C f->Ns c f->lj [(k,h)] c f->bB [(k,h)] f.st->∃vs,w f.H vs/\ai C (SK C f k) f.H us vs):Walk C c [(k,h)] (us.zipIdx.map λp=>(kE k,.tup [.int p.2,p.1])) (SQ w):=by
 intro f g n I hs;have(vs,j,y):=G f g n I hs;show#[λi r z=>?_,λi hi=>#[vs,j,by rw[<-y.len];simp_all]];rw[hU,eu]at z;have(p,A,rfl):=z;rw[ZZ,eu]at A;have(u,J,rfl):=A;have(v,B,l):=y.get J;show#[By k,#[vs,v,j,B],λx H' q=>?_];have(p,L,rfl,q):=q;have N:=q vs v j B;subst N;have(O,t):=g.lay  L;show#[{f with H:=upd f.H p _},rfl,rfl,rfl,O,t,aW.item ?_];have D:ai C (SK C f k) f.H [.int (0+i:Nat),u] [.int i,v]:=by
  rw[UJ];show#[_,_,rfl,rfl,_,_,rfl,l,rfl]
 cases k<;>show#[p,_,rfl,MA.of av,by first|show D.mv (g.Qo t)|show D.mv (g.mv t)]
def Ip{es}{y}{ps}(j:C.K=X.K)(z:Gl X "enumerate")(A:X.mg "enumerate"=b6)(hs:mn [a] X.env=[(cK,K1 a X.env)])(B:PA X [a] (NB C ms)):PI X (.Tuple es y ps) (.Call (.Name "enumerate" p) [a] [] pos) (Pp C .QH ms):=by
 rintro pins s σ H R I ⟨c0,rfl,rfl,ok,h⟩;show Ea z A B hs pins s _ c0.H R I (rp ok h λrs c vs t w=>?_);rw[ah]at w;have(xs,g,w):=bW.mp w;rw[ak]at w;have(x,rfl,hz):=br  g;clear g;have g:=hz;clear hz;have(v,rfl,k):=t.one;unfold J0 at g;split at g
 .cases g;have(a',ws,l,f,i):=k.list t.ok;subst l;show#[a',rfl,.inl #[#[ws,j▸f],w c _ t.hσ rfl t.ok t.nx t.QM ?_]];show tU (a':=a') λD q n r u=>?_;have(G,vs,e,f,i):=(aW.walk t.ok n r u k).list q;cases e;show#[vs,j▸f,i]
 .cases g;have(a',ws,l,f,i):=k.tuple t.ok;subst l;rw[j]at f;show#[a',rfl,.inr #[#[ws,f],w c _ t.hσ rfl t.ok t.nx t.QM ?_]];show tU (a':=a') λD q n r u=>?_;have(G,vs,e,f,i):=(aW.walk t.ok n r u k).tuple q;cases e;rw[j]at f;show#[vs,f,i]
 .cases g
def Bz(I:∀f,Ok C f->Ns c f->lj [(k,.lst us),(k',.tup ws)] c f->bB [(k,.lst us),(k',.tup ws)] f.st->∃vs xs,Mz X.K f.H a' vs/\MA X.K f.H J xs/\ai C (SK C f k) f.H us vs/\ai C (SK C f k') f.H ws xs):
  Walk C c [(k,.lst us),(k',.tup ws)] ((us.zip ws).map λp=>(kT k k',.tup [p.1,p.2])) (Xb (λH xs=>Mz X.K H a' xs) λH L=>MA X.K H J L):=by
 intro f j n N hs;have(vs,xs,s1,l,y,A):=I f j n N hs;show#[λi r B=>?_,λi hi=>#[vs,xs,s1,l,?_]]
 .rw[hU,eu]at B;have(p,O,rfl):=B;have(Q,T):=Ye.mp O;have(v,D,g):=y.get Q;have(w,G,h):=A.get T;show#[by cases k<;>cases k'<;>simp[kT,isAny],#[vs,xs,v,w,s1,l,D,G],λx H' t=>?_];have(q,Y,rfl,t):=t;have PN:=t vs xs v w s1 l D G;subst PN;have(Ms,u):=j.lay (o:=.tup [v,w]) Y;show#[{f with H:=upd f.H q (.tup [v,w])},rfl,rfl,rfl,Ms,u,?_];have a1:ai C (SK C f k) f.H [p.1] [v]:=#[_,_,rfl,g,rfl]
  have a2:ai C (SK C f k') f.H [p.2] [w]:=#[_,_,rfl,h,rfl]
  have m:ai C (SK C f (kT k k')) f.H [p.1,p.2] [v,w]:=(a1.mv (.up (HW k k'))).append (a2.mv (.up (EB k k')));have z:aW C f {f with H:=upd f.H q (.tup [v,w])} (kE (kT k k')) (.tup [p.1,p.2]) (.ref q):=aW.item (by
   generalize kT k k'=k0 at m;cases k0<;>show#[q,_,rfl,MA.of av,by first|show m.mv (j.Qo u)|show m.mv (j.mv u)])
  rw[J4]at z;show z
 .have e1:=y.len;have e2:=A.len;rw[df,Zf]at hi;lia
def tV{st}(h:bB [x,y] st):bB [x] st/\bB [y] st:=by
 have(k,u):=x;have(k',u'):=y;cases k<;>cases k'<;>first|show⟨h.1,h.2⟩|show⟨⟨h.1,ttt⟩,h.2⟩|show⟨trivial,h⟩|show#[_,_]
def Iq(i:C.K=X.K)(A:Gl X "zip")(B:X.mg "zip"=b6)(D:mn (a::[b]) X.env=(cK,K1 a X.env)::mn [b] X.env)(G:(RN pos (mn [b] X.env)).any (·.1)=cK)(J:PA X [a,b] (NB C ms)):PI X (.Tuple es kx ps) (.Call (.Name "zip" p) [a,b] [] pos) (Pp C .zip ms):=by
 rintro pins s σ H R I ⟨c0,rfl,rfl,ok,h⟩;show Hu A B J D G pins s _ c0.H R I (rp ok h λrs c vs t w=>?_);rw[ah]at w;have(xs,f,w):=bW.mp w;rw[ak]at w;have f:HR rs≈xs:=f;unfold HR at f;split at f
 .cases f;have(v,v',rfl,k,l):=t.two;have(a',L,N,O,h2):=k.list t.ok;have(Q,T,Y,q,h4):=l.tuple t.ok;subst N Y;rw[i]at q;show#[a',Q,rfl,#[L,i▸O],#[T,q],w c _ t.hσ rfl t.ok t.nx t.QM ?_];show Bz λc' r n x y=>?_;have(a2,vs,e,g1,g2):=(aW.walk t.ok n (λj u g=>x j u (by simp at g ⊢;show .inl g)) (tV y).1 k).list r;cases e;have(a3,MD,e,z,g4):=(aW.walk t.ok n (λj u g=>x j u (by simp at g ⊢;show .inr g)) (tV y).2 l).tuple r;cases e;rw[i]at z;show#[vs,MD,i▸g1,z,g2,g4]
 .cases f
def Ok.put(ok:Ok C c)(n:Nx c0 c)(hi:i<⇑c.σ)(hk:k=.own\/k=.loc\/k=.any)(Nq:Ok C c0)(h:aW C c0 c k u v):
  Ok C {c with σ:=c.σ.set i (bD v),st:=c.st.set i (bD (k,u))}/\Nx c0 {c with σ:=c.σ.set i (bD v),st:=c.st.set i (bD (k,u))}:=by
 have Y:i<⇑c.st:=by rw[ok.len];show hi
 have Mx:∀j k' u',(c.st.set i (bD (k,u)))[j]?≈bD (k',u')->j≠i->c.st[j]?≈bD (k',u'):=λj k' u' e ne=>by rw[mx (ve ne)]at e;show e
 have Of:∀j B,(c.σ.set i (bD v))[j]?≈bD B->j≠i->c.σ[j]?≈bD B:=λj B e ne=>by rw[mx (ve ne)]at e;show e
 have sl:ja C c.S c.H k u v:=by
  rcases hk with rfl|rfl|rfl
  .have(r,e,D,N,x,O):=h;have(z0,z1,Q,z3,z4):=Nq.kh D;show#[r,e,N,Q,z0,O]
  .show h
  .show h
 have R8:∀j k' u' r,k'.root=cb->(c.st.set i (bD (k,u)))[j]?≈bD (k',u')->(c.σ.set i (bD v))[j]?≈bD (.ref r)->j=i/\k=.own/\v=.ref r\/j≠i/\c.st[j]?≈bD (k',u')/\c.σ[j]?≈bD (.ref r):=λj k' u' r G f g=>by
  by_cases l:j=i
  .subst l;rw[hH Y]at f;rw[hH hi]at g;cases f;cases g;rcases hk with rfl|rfl|rfl
   .show .inl #[rfl,rfl,rfl]
   .cases G
   .cases G
  .show .inr #[l,Mx j k' u' f l,Of j _ g l]
 have dD:∀(j:Nat) u',(c.st.set i (bD (k,u)))[j]?≈bD (.F',u')->c.st[j]?≈bD (.F',u')/\(c.σ.set i (bD v))[j]?=c.σ[j]?:=λj u' e=>by
  by_cases l:j=i
  .subst l;rw[hH Y]at e;cases e;rcases hk with hk|hk|hk<;>cases hk
  .show#[Mx j .F' u' e l,mx (ve l)]
 have b1:∀a,{c with σ:=c.σ.set i (bD v),st:=c.st.set i (bD (k,u))}.R1 a->c.R1 a\/k=.own/\v=.ref a:=λa Mg=>by
  have(j,k',u',G,f,g):=Mg;rcases R8 j k' u' a G f g with⟨T,t,w⟩|⟨T,t,w⟩
  .show .inr #[t,w]
  .show .inl #[j,k',u',G,t,w]
 have P6:PD C {c with σ:=c.σ.set i (bD v),st:=c.st.set i (bD (k,u))}:=ok.dd.of rfl dD (λa z=>(b1 a z).imp id λ⟨I,J⟩ j z'=>by
  subst I;have(y,e,_,_,x,_):=h;rw[J]at e;cases e;show x (.inr #[j,z'])) (.up λ_ z=>z) λj a z=>#[(ok.root (.inr #[j,z])).1,λo q=>q]
 show#[#[ok.same,ok.NJ,ok.par,ok.io,by simp[ok.len],λj k' u' e=>?_,λj1 j2 k1 k2 u1 u2 r R9 Ux f g L e4=>?_,P6],#[#[n.keep,n.there,λa z=>?_,n.sub,n.new],λa ⟨j,u',y,f,g,L⟩=>let ⟨I,J⟩:=dD j u' f;n.dk a #[j,u',y,I,J▸g,L]]]
 .by_cases l:j=i
  .subst l;rw[hH Y]at e;cases e;show#[v,by rw[hH hi],sl]
  .have(B,f,g):=ok.sl j k' u' (Mx j k' u' e l);show#[B,by rw[mx (ve l)];show f,g]
 .have z1:=R8 j1 k1 u1 r R9 f L;have Q:=R8 j2 k2 u2 r Ux g e4;rcases z1 with⟨T,t,w⟩|⟨T,t,w⟩
  .rcases Q with⟨b1,A,b3⟩|⟨b1,A,b3⟩
   .show T.trans b1.symm
   .subst t;have(y,e,D,N,x,O):=h;rw[w]at e;cases e;show(x (.inl #[j2,k2,u2,Ux,A,b3])).elim
  .rcases Q with⟨b1,A,b3⟩|⟨b1,A,b3⟩
   .subst A;have(y,e,D,N,x,O):=h;rw[b3]at e;cases e;show(x (.inl #[j1,k1,u1,R9,t,w])).elim
   .show ok.inj j1 j2 k1 k2 u1 u2 r R9 Ux t A w b3
 .rcases z with z|⟨j,u',y,f,g,L⟩
  .rcases b1 a z with z|⟨t,w⟩
   .show n.roots a (.inl z)
   .subst t;have(y,e,D,N,x,O):=h;rw[w]at e;cases e;show .inr D
  .have(I,J):=dD j u' f;show n.roots a (.inr #[j,u',y,I,J▸g,L])
def xx(y:Ok C c0)(ok:Ok C c)(n:Nx c0 c)(hi:i<⇑c.σ)(q:aW C c0 c r.1 r.2 v)(h:W (gE i r) c.st G):
  ∃t,t.σ=c.σ.set i (bD v)/\t.H=c.H/\Ok C t/\Nx c0 t/\G () t.st:=by
 have(k,u):=r;cases k with
 |own =>
  have(x,st',e,f):=h;cases e;have(g,l):=ok.put n hi (.inl rfl) y q;show#[{c with σ:=c.σ.set i (bD v),st:=c.st.set i _},rfl,rfl,g,l,f]
 |loc =>
  have(x,st',e,f):=h;cases e;have(g,l):=ok.put n hi (.inr (.inl rfl)) y q;show#[{c with σ:=c.σ.set i (bD v),st:=c.st.set i _},rfl,rfl,g,l,f]
 |any =>
  have(x,st',e,f):=h;cases e;have(g,l):=ok.put n hi (.inr (.inr rfl)) y q;show#[{c with σ:=c.σ.set i (bD v),st:=c.st.set i _},rfl,rfl,g,l,f]
 |bor j =>
  have(x,st',e,f):=h;rw[show gE i (.bor j,u) c.st=match c.st[j]? with|some (bD (.own,u))=>bD _|_=>b6 from rfl]at e;split at e
  .rename_i w A;cases e;have(N,B,r,I,_):=ok.sl j _ _ A;have D:=q.2;rw[D]at B;cases B;subst I;have(J,L,z):=ok.Bs n A D;have(g,l):=Ok.put  J L  (u:=w)  hi (.inr (.inl rfl)) y z;show#[{S:=λa=>c.S a\/a=r,H:=c.H,σ:=c.σ.set i _,st:=(c.st.set j _).set i _,kid:=c.kid},rfl,rfl,g,l,f]
  .cases e
 |_=>show q.elim
end
def Ok.LO(x:Ok C c0)(ok:Ok C c)(n:Nx c0 c)(h0:c0.H r=b6)(d:¬c.S r)(m:¬c.R r)(L:∃o,c.H r≈o/\¬Tp o):
  Ok C {c with H:=upd c.H r o' }/\Nx c0 {c with H:=upd c.H r o' }:=by
 have(N,_,A,O,_):=x.kh h0;have B:¬PS C c.S r:=λz=>z.elim A d;have b:∀a o2,a≠r->c.H a≈o2->(upd c.H r o') a≈o2:=λa o2 D e=>by rw[aj D];show e
 have g:∀S ,¬S r->Mv S c.H S (upd c.H r o'):=λS d=>#[λa z=>z,λa h e Q=>b a h (λz=>by simp_all) e,λa h z e=>b a h (λy=>by simp_all) e]
 have p:∀{a:k7} {o2:HO},c0.H a≈o2->a≠r:=λe z=>by simp_all
 have l:∀a,(∃o2,c.H a≈o2)->∃o2,(upd c.H r o') a≈o2:=λa G=>by
  have(o2,e):=G;by_cases q:a=r
  .subst q;show#[o',av]
  .show#[o2,b a o2 q e]
 show#[#[λa o2 e z=>b a o2 (λy=>by simp_all) (ok.same a o2 e z),λa z=>#[(ok.NJ a z).1,l a (ok.NJ a z).2],ok.par,λa z=>#[(ok.io a z).1,l a (ok.io a z).2],ok.len,λi k u e=>?_,ok.inj,ok.dd.hs (g _ d) λj a z=>#[(ok.root (.inr #[j,z])).1,λo2 e=>b a o2 (λy=>by subst y;show m (.inr #[j,z])) e]],?_]
 .have(v,s,f):=ok.sl i k u e;show#[v,s,f.mv (g _ d) (g _ B) λhk I t=>?_];have(T,w,J,_):=f.rt hk;rw[t]at w;cases w;show#[J,λo2 f=>b I o2 (λy=>by subst y;show m (.inl #[i,k,u,hk,e,by rw[s,t]])) f]
 .show#[#[λa o2 e z=>b a o2 (p e) (n.keep a o2 e z),λa o2 e=>l a (n.there a o2 e),n.roots,n.sub,n.new],λa z=>#[(n.dk a z).1,λo2 e=>b a o2 (p e) ((n.dk a z).2 o2 e)]]
def BA(s:c.H r≈.MN o (.dK kvs))(t:¬c.R r)(ok:Ok C c)(hk:kvs.map (·.1)=ks.map mA)(u:ai C c.S c.H us (kvs.map (·.2))):Walk C c [(.own,.J' ks us)] (jb (ks,us)) (Ue r o kvs):=by
 intro a j n J hs;have k:=n.keep r _ s t;have l:=u.mv (ok.mv n);have L:⇑kvs=⇑ks:=by rw[<-df (f:=(·.1)),hk,df]
 have N:⇑us=⇑kvs:=by rw[l.len,df]
 have O:⇑(jb (ks,us))=⇑kvs:=by
  unfold jb;simp_all
 show#[λi q b=>?_,λi hi=>#[k,⋯]];unfold jb at b;rw[hU,eu]at b;have(p,w,rfl):=b;have(y,z):=Ye.mp w;have(v,d,e):=l.get z;have hi:i<⇑kvs:=by
  grind
 have A:kvs[i]?≈(mA p.1,v):=by
  rw[hU,nC hi]at d;have g:(kvs.map (·.1))[i]?=(ks.map mA)[i]?:=by rw[hk]
  rw[hU,hU,nC hi,y]at g;rw[nC hi];simp only[WW,US]at g d;rw[<-g,<-d]
 show#[.inl rfl,#[k,hi],λx H' h=>?_];have(q,B,rfl,h):=h;have D:=h _ _ A;subst D;have(G,m):=j.lay (o:=.tup [kV (mA p.1),v]) B;show#[{a with H:=upd a.H q (.tup [kV (mA p.1),v])},rfl,rfl,rfl,G,m,?_];have I:ai C a.S a.H [.str p.1,p.2] [kV (mA p.1),v]:=#[_,_,rfl,rfl,_,_,rfl,e,rfl]
 show#[q,_,rfl,MA.of av,I.mv (j.mv m)]
def Ir(m:Ug a "items" X.env (K1 a X.env)=K1 a X.env)(p:(b.endLine==q.line)=cb)(t:PE X a (Md C u)):
  PI X (.Tuple es kx ps) (.Call (.Attribute a "items" b) [] [] q) (Pp C .S4 (u >>= λr=>pure [] >>= λrs=>pure (r::rs))):=by
 rintro d s σ H R I ⟨c0,rfl,rfl,ok,h⟩;rw[ah,ah]at h;have(r,st1,w,h):=h;rw[ah,ak,ak,ah,cF,ah]at h;have(x,h):=h;have(xs,A,h):=bW.mp h;rw[ak]at h;have hz:HS r≈xs:=A;unfold HS at hz;split at hz
 rotate_left
 .cases hz
 rename_i ks us;cases hz;show zc t m p d s c0.σ c0.H R I #[c0,rfl,rfl,ok,_,st1,w,λc v B hs j n f=>?_];obtain⟨a',D,G,J,k⟩:∃a',v=.ref a'/\c0.H a'=b6/\¬c.S a'/\¬c.R a':=by
  have(r,g,L,N,O,_):=f;show#[r,g,L,N,O]
 have(a2,kvs,g,i,Q,T):=f.dict j;subst g;cases D;subst hs;show#[a',kvs,rfl,i,λo=>?_];have(l,Y):=Ok.LO  ok j n G J k #[_,i,λz=>z];show h {c with H:=upd c.H a' (.MN o (.dK kvs))} _ B rfl l Y x (BA (r:=a') (o:=o) (kvs:=kvs) av k l Q ?_);show ai.mv #[λa z=>z,λa ob e tp=>?_,λa ob z e=>?_] T
 .have:a≠a':=λy=>by subst y;rw[i]at e;cases e;show tp
  change upd c.H a' _ a=_;rw[aj this];show e
 .have:a≠a':=λy=>by simp_all
  change upd c.H a' _ a=_;rw[aj this];show e
abbrev tG(C:Ct)(t:Bool)(is:↑Nat):TG:=λv σ H Q=>∃c0 c r,c.σ=σ/\c.H=H/\Ok C c0/\Ok C c/\Nx c0 c/\aW C c0 c r.1 r.2 v/\W (dZ t is r) c.st λ_ st' =>
 ∀a,a.st=st'->Ok C a->Nx c0 a->(∀j,j∉is->a.σ[j]?=c.σ[j]?)->⇑a.σ=⇑c.σ->Q a.σ a.H
structure vn(X:Cx)(e:p7)(i:Nat):Prop where
 is:∃x pos,e=.Name x pos/\X.N[i]?≈x/\Loc X.env.scope x/\(X.fn x=cb\/X.env.scope.names.lookup x≈.local)
def Iu(g:X.N.Nodup)(h:vn X e i):PG X e (tG C cK [i]):=by
 have(x,pos,rfl,d,k,l):=h.is;rintro a s σ H v u Q I rv ⟨c0,c,r,rfl,rfl,m,ok,n,b,w⟩;have hi:i<⇑c.σ:=by rw[I.len];show(eH.mp d).1
 have(o,f,p,t,y,q):=xx (r:=r) m ok n hi b w;show wH g d k l a s c.σ c.H v u Q I rv ?_;have z:=q o rfl t y (λj A=>by rw[f,mx (by intro z;simp_all)]) ⋯;rw[f,p]at z;show z
abbrev X2:↑Nat->Sz
 |[]=>Jy
 |i::is=>F9 (wG i) (X2 is)
inductive gh(X:Cx):↑p7->↑Nat->Prop where
 |nil:gh X [] []
 |cons {e:p7} {es:↑p7} {i:Nat} {is:↑Nat} (h:vn X e i) (t:gh X es is):gh X (e::es) (i::is)
def zq(a:X.N.Nodup)(h:gh X es is):Tj X es (X2 is):=by
 induction h with
 |nil=>show DF
 |cons h t b =>
  have(x,pos,rfl,c,d,e):=h.is;show Ab (wH a c d e) b rfl
def vp(h:gh X es is):⇑(V0 es X.env)=⇑is/\(V0 es X.env).findIdx? (·.1)=b6:=by
 induction h with
 |nil=>show#[rfl,rfl]
 |cons h t a =>
  have(x,pos,rfl,b,c,d):=h.is;show#[?_,?_]
  .change(_::_).length=_;simp[a.1]
  .change Ģ _ (_::_)=b6;rw[List.findIdx?_cons,a.2];rfl
theorem xy(hk:kE k=k)(g:Ok C c0):∀{is}{us}{vs}{c}{d}{Q},Ok C c->Nx c0 c->(∀i∈is,i<⇑c.σ)->ai C (SK C c k) c.H us vs->W (sets is (us.map λu=>(k,u))) c.st d ->
  (∀b,d () b.st->Ok C b->Nx c0 b->(∀j,j∉is->b.σ[j]?=c.σ[j]?)->⇑b.σ=⇑c.σ->Q b.σ b.H)->X2 is vs c.σ c.H Q
 |[],[],vs,c,d,Q,ok,n,hi,a,w,q=>by
  rw[show sets [] _=pure () from rfl,ak]at w;show#[a,q c w ok n (λ_ _=>rfl) rfl]
 |[],u::us,vs,c,d,Q,ok,n,hi,a,w,q=>(bF.mp w).elim
 |i::is,[],vs,c,d,Q,ok,n,hi,a,w,q=>(bF.mp w).elim
 |i::is,u::us,vs,c,d,Q,ok,n,hi,a,w,q=>by
  rw[show sets _ _=gE i (k,u) >>= λ_=>sets is _ from rfl,ah]at w;have(v,r,rfl,h,A):=a;have l:k=.own\/k=.loc\/k=.any:=by cases k<;>simp[kE]at hk<;>simp
  have rt:aW C c0 c k u v:=by rw[<-hk];show aW.item h
  have(m,o):=ok.put n (hi i ⋯) l g rt;have es:gE i (k,u)=λst=>bD (.ok (),st.set i (bD (k,u))):=by cases k<;>simp[kE]at hk<;>rfl
  have(_,st',e,s):=w;rw[es]at e;cases e;show#[v,r,rfl,xy  hk g m o (λj f=>by simpa using hi j (by simp[f])) (by assumption) s λb p t x y hl=>?_];show q b p t x (λj f=>?_) ⋯;rw[y j (λz=>f (by simp[z])),mx (λz=>f (by simp[z]))]
def J_(j:X.calm=cb)(m:C.K=X.K)(o:X.N.Nodup)(h:gh X es is)(hl:∀i∈is,i<⇑X.N):PG X (.Tuple es O pos) (tG C cb is):=by
 rintro a s σ H v u Q I rv ⟨c0,c,r,rfl,rfl,q,ok,n,d,w⟩;have(t,y):=vp h;show GW j (zq o h) t y a s c.σ c.H v u Q I rv ?_;have(k,z):=r;cases z with
 |tup us =>
  have(a',vs,rfl,f,g):=d.tuple ok;rw[m]at f;have b:=by
   have e:∀(is:↑Nat) (l:↑_) (st:aK) (P:Unit->aK->Prop),W (sets is l) st P->⇑l=⇑is:=by
    intro is;induction is with
    |nil=>intro l st P w;cases l with
     |nil=>rfl
     |cons _ _=>show(bF.mp w).elim
    |cons i is A=>intro l st P w;cases l with
     |nil=>show(bF.mp w).elim
     |cons x l =>
      rw[show sets _ _=gE i x >>= λ_=>sets is l from rfl,ah]at w;have(_,_,_,w):=w;rw[nz,nz,A l _ _ w]
   simpa using e _ _ _ _ w
  show#[a',vs,rfl,f,by rw[<-g.len,b],?_];show xy  (by cases k<;>rfl) q ok n (λi hi=>by rw[I.len];show hl i hi) (by cases k<;>show g) w λB p D G J L=>p B rfl D G J L
 |_=>cases is<;>show(bF.mp w).elim
section
variable{X:Cx}{C:Ct}{pins:List (k7×Obj)}{s:k9}{c0 c c1:Cf}
variable{a b d e o tg iter elt:p7}{es ifs:List p7}{m ma mb md me:M (Kd×U)}{ms:M (List (Kd×U))}{ta tb tc:M Bool}{pos p p2 apos A':Pos}
def zr{m:M α}{st}{Q}:W (inScope k m) st Q↔W m (hZ k b6++st) λa st'=>Q a (st'.drop k):=by
 constructor
 .rintro⟨a,st',e,h⟩;unfold inScope at e;cases q:m (hZ k b6++st) with
  |none=>simp_all
  |some r=>have(g,f):=r;rw[q]at e;cases e;show#[a,f,q,h]
 .rintro⟨a,st',e,h⟩;show#[a,_,by unfold inScope;rw[e],h]
abbrev Cf.ext(k:Nat)(c:Cf):Cf:={c with σ:=hZ k b6++c.σ,st:=hZ k b6++c.st,kid:=λj=>c.kid (j - k)}
abbrev Cf.cut(k:Nat)(c:Cf):Cf:={c with σ:=c.σ.drop k,st:=c.st.drop k,kid:=λj=>c.kid (k+j)}
def ij(h:(hZ k b6++l)[j]?≈bD x):∃i,j=k+i/\l[i]?≈bD x:=by
 by_cases f:j<k
 .rw[vr ⋯]at h;simp_all
 .show#[j - k,⋯,?_];rw[sx ⋯]at h;simpa using h
def gk:(hZ k b6++l)[k+i]?=l[i]?:=by
 rw[sx ⋯];simp
def BB:(c.ext k).R1 r↔c.R1 r:=by
 constructor
 .rintro⟨j,g,u,h,l,f⟩;have(i,rfl,e):=ij l;rw[Cf.ext,gk]at f;show#[i,g,u,h,e,f]
 .rintro⟨i,g,u,h,l,f⟩;show#[_,g,u,h,by rw[Cf.ext,gk];show l,by rw[Cf.ext,gk];show f]
def nS{a}(h:(c.ext k).RD j a):∃i,j=k+i/\c.RD i a:=by
 have(u,r,g,f,l):=h;have(i,rfl,e):=ij g;rw[Cf.ext,gk]at f;show#[i,rfl,u,r,e,f,?_];have:(c.ext k).kid (k+i)=c.kid i:=by change c.kid _=_;simp
 simp_all
def Ka(h:(c.ext k).R r):c.R r:=by
 rcases h with h|⟨j,h⟩
 .show .inl (BB.mp h)
 .have(i,_,h):=nS h;show .inr #[i,h]
def Ok.ext(k)(ok:Ok C c):Ok C (c.ext k)/\Nx c (c.ext k):=by
 show#[#[ok.same,ok.NJ,ok.par,ok.io,by simp[Cf.ext,ok.len],λj B u e=>?_,λi j k1 k2 u u' r D G g f x A=>?_,#[λj u r g f=>?_,λi j a l n=>?_,λj a l n=>?_]],#[#[λ_ _ h _=>h,λ_ o h=>#[o,h],λa h=>.inl (Ka h),λ_ h=>h,λ_ h=>.inl h],λa ⟨j,z⟩=>let ⟨i,_,y⟩:=nS z;⟨⟨i,y⟩,λ_ e=>e⟩]]
 .have(i,rfl,H):=ij e;have(v,g,f):=ok.sl i B u H;show#[v,by rw[Cf.ext,gk];show g,f]
 .have(q,rfl,I):=ij g;have(t,rfl,J):=ij f;rw[Cf.ext,gk]at x A;rw[ok.inj q t k1 k2 u u' r D G I J x A]
 .have(i,rfl,e):=ij g;rw[Cf.ext,gk]at f;have:(c.ext k).kid (k+i)=c.kid i:=by change c.kid _=_;simp
  rw[this];show ok.dd.kd i u r e f
 .have(q,rfl,w):=nS l;have(t,rfl,L):=nS n;rw[ok.dd.dj q t a w L]
 .have(i,rfl,w):=nS l;show ok.dd.d1 i a w (BB.mp n)
def BC{a}(h:(c.cut k).R1 a):c.R1 a:=by
 have(j,i,u,l,f,g):=h;rw[Cf.cut,PF]at f g;show#[_,i,u,l,f,g]
def nU{a}(h:(c.cut k).RD j a):c.RD (k+j) a:=by
 have(u,r,f,g,i):=h;rw[Cf.cut,PF]at f g;show#[u,r,f,g,i]
def Ok.cut(k)(ok:Ok C c):Ok C (c.cut k)/\Nx c (c.cut k):=by
 show#[#[ok.same,ok.NJ,ok.par,ok.io,by simp[Cf.cut,ok.len],λj w u e=>?_,λi j k1 k2 u u' r x y f g q t=>?_,#[λj u r f g=>?_,λi j a l n=>?_,λj a l n=>ok.dd.d1 _ a (nU l) (BC n)]],#[#[λ_ _ h _=>h,λ_ o h=>#[o,h],λa h=>.inl (h.elim (λz=>.inl (BC z)) λ⟨j,z⟩=>.inr #[_,nU z]),λ_ h=>h,λ_ h=>.inl h],λa ⟨j,z⟩=>#[#[_,nU z],λ_ e=>e]]]
 .rw[Cf.cut,PF]at e;have(v,f,g):=ok.sl _ w u e;show#[v,by rw[Cf.cut,PF];show f,g]
 .rw[Cf.cut,PF]at f g q t;have:=ok.inj _ _ k1 k2 u u' r x y f g q t;lia
 .rw[Cf.cut,PF]at f g;show ok.dd.kd _ u r f g
 .have:=ok.dd.dj _ _ a (nU l) (nU n);lia
def EZ(h:∀j,j∉fS k->g[j]?=(hZ k b6++σ)[j]?)(hl:⇑g=⇑(hZ k (b6:Option V)++σ)):∃f,⇑f=k/\g=f++σ:=by
 show#[g.take k,by simp_all,?_];apply ź;intro j;by_cases i:j<k
 .rw[vr ⋯,List.getElem?_take,if_pos i]
 .rw[h j ⋯,sx ⋯,sx ⋯];simp_all
def pQ(e1:c1.σ=c0.σ)(Mh:Ok C c1)(n1:Nx c0 c1)(hw:Walk C c1 rs xs J)(h3:W (bO k t tc me rs xs []) c1.st λus st'=>W (pure (Kd.own,U.lst us)) st' (cG C c0 Q)):
  wL k J (tG C t (fS k)) (Np C tc) (Md C me) Q c0.σ c1.H:=by
 show#[λi m ys H=>∃c f,c.H=H/\c.σ=c0.σ/\Ok C c/\Nx c1 c/\m=⇑xs - i/\i<=⇑xs/\ai C c.S c.H f ys/\⇑f<=dt/\W (bO k t tc me rs (xs.drop i) f) c.st λus st'=>W (pure (Kd.own,U.lst us)) st' (cG C c0 Q),#[⇑xs,c1,[],rfl,e1,Mh,Nx.refl c1,by simp,lx _,rfl,lx _,by assumption],?_];rintro i m ys H ⟨c,f,rfl,G,q,y,rfl,hi,h,A,w⟩;show#[by rw[<-h.len];lia,?_];have g:lj rs c1 c:=λj u _=>by rw[G,e1]
 by_cases Mm:i<⇑xs
 .right
  rw[UO Mm]at w;rw[show bO k t tc me rs (xs[i]::xs.drop (i+1)) f=aR rs >>= λ_=>inScope k (dZ t (fS k) xs[i] >>= λ_=>tc >>= λb=>if b=cb then(me >>= λr=>lift r >>= λu=>pure (bD u)) else pure b6) >>= λr=>match r with|some u=>if ⇑f<dt then bO k t tc me rs (xs.drop (i+1)) (f++[u]) else M.fail|none=>bO k t tc me rs (xs.drop (i+1)) f from rfl,ah,cF]at w;have(P9,w):=w;have(I,_):=hw c q y g P9;have(UA,Ta,Vz):=I i xs[i] ⋯;show#[Ta,λNU H'=>∃c f,c.H=H'/\c.σ=c0.σ/\Ok C c/\Nx c1 c/\ai C c.S c.H f NU/\⇑f<=dt/\W (bO k t tc me rs (xs.drop (i+1)) f) c.st λus st'=>W (pure (Kd.own,U.lst us)) st' (cG C c0 Q),λNU H' ⟨c',M5,z1,z2,z3,z4,z5,z6,z7⟩=>#[⇑xs - (i+1),⋯,c',M5,z1,z2,z3,z4,rfl,Mm,z5,z6,z7],λx H' hy=>?_];have(l,rfl,e4,e5,Ms,n2,rt):=Vz x H' hy;rw[ah,zr,ah]at w;have(ZW,nx):=Ms.ext k;have L:aW C (l.ext k) (l.ext k) xs[i].1 xs[i].2 x:=by
   rcases UA with z|z
   .rw[z]at rt ⊢;show rt
   .rw[z]at rt ⊢;show rt
  have eσ:(l.ext k).σ=hZ k b6++c0.σ:=by rw[Cf.ext];change hZ k b6++l.σ=_;rw[e4,G]
  show#[l.ext k,l.ext k,xs[i],eσ,rfl,ZW,ZW,Nx.refl _,L,?_];have Ud:(l.ext k).st=hZ k b6++c.st:=by rw[Cf.ext];change hZ k b6++l.st=_;rw[e5]
  rw[Ud];show w.mono λ_ st3 w3 c3 e6 OB n3 UB Tc=>?_;subst e6;rw[eσ]at UB Tc;have(N,O,T):=EZ UB Tc;show#[N,O,T,?_];have ZX:Nx c c3:=(n2.trans nx).trans n3;rw[ah]at w3;show#[c3,rfl,rfl,OB,w3.mono λb SF n D e7 e8 Y n4=>?_];subst e8;cases b with
  |false =>
   rw[if_neg qp]at n ⊢;rw[ak]at n;have(X3,nk):=Y.cut k;have nn:Nx c (D.cut k):=(ZX.trans n4).trans nk;show#[D.cut k,f,rfl,?_,X3,y.trans nn,h.mv (q.mv nn),A,n];change D.σ.drop k=_;rw[e7,T,ÿ O]
  |true =>
   rw[if_pos rfl]at n ⊢;rw[ah]at n;show#[D,e7,rfl,Y,n.mono λr Px w5 c5 v e9 ab ac n5 al=>?_];subst ab;rw[ah]at w5;have(S',st',u,sS,am,n6,X4,B,_,_):=jJ Y ac n5 al.w w5;rw[ak]at B
   dsimp only at B
   split at B
   .rename_i hz;have(X3,nk):=am.cut k;have nn:Nx c (Cf.cut k {c5 with S:=S',st:=st' }):=((ZX.trans n4).trans n6).trans nk;show#[Cf.cut k {c5 with S:=S',st:=st' },f++[u],rfl,?_,X3,y.trans nn,(h.mv (q.mv nn)).snoc X4,by rw[ko];show hz,B];change c5.σ.drop k=_;rw[e9,T,ÿ O]
   .show(bF.mp B).elim
 .left
  have MX:i=⇑xs:=⋯
  subst MX;rw[Ζ,show bO k t tc me rs [] f=aR rs >>= λ_=>pure f from rfl,ah,cF,ak,ak]at w;have(_,I):=hw c q y g w.1;show#[I _ (gi _),λp hp=>cG.list w.2 G q (n1.trans y) h p hp]
def pR(ok:Ok C c0)
  (h:W (ms >>= λrs=>aR rs >>= λ_=>M.Mw (Nn ik rs) >>= λxs=>bO k t tc me rs xs [] >>= λus=>pure (Kd.own,U.lst us)) c0.st (cG C c0 Q)) :
  Au k (Pp C ik ms) (tG C t (fS k)) (Np C tc) (Md C me) c0.σ c0.H Q:=by
 rw[ah]at h;show#[c0,rfl,rfl,ok,?_];rw[ah];show h.mono λrs st1 f=>?_;rw[ah,cF]at f ⊢;show#[f.1,?_];have g:=f.2;rw[ah]at g ⊢;show g.mono λxs st2 i=>?_;rw[ak];intro c1 J j l n q u r;rw[ah]at i;subst l;show pQ j n q r i
def BD(S:cT X N own scope)(f:X.calm=cb)(hi:PI X tg iter (Pp C ik ms))
  (g:∀D s H ex,PG (Nb X N scope D s H ex) tg (tG C t (fS ⇑own))) (i:∀D s H ex,Qe (Nb X N scope D s H ex) ifs (Np C tc)) (j:∀D s H ex,PE (Nb X N scope D s H ex) elt (Md C me))
  (hs:∀x,Sq iter X.env x=pure x) :
  PE X (.ListComp elt [⟨tg,iter,ifs,0⟩] scope pos) (Md C (ms >>= λrs=>aR rs >>= λ_=>M.Mw (Nn ik rs) >>= λxs=>bO ⇑own t tc me rs xs [] >>= λus=>pure (.own,.lst us))):=by
 show PE.weak (wM S f hi g i j hs) ?_;rintro σ H Q ⟨c0,rfl,rfl,ok,h⟩;show pR ok h
end
section
variable{a b d e o tg iter elt:p7}{es ifs:List p7}{m ma mb md me:M (Kd×U)}{ms:M (List (Kd×U))}{ta tb tc:M Bool}{pos p p2 apos A':Pos}{st:T'}{rest body:List T'}{f g mm:M Fl}{ns VA:Nat->Bool}
def Iv(C:Ct)(c:Cf):Kd->U->V->Prop
 |.own,u,v=>∃r,v=.ref r/\C.H₀ r=b6/\¬c.S r/\¬c.R r/\dX C c.S c.H r u
 |.loc,u,v=>Rep C c.S c.H u v
 |.any,u,v=>Rep C (PS C c.S) c.H u v
 |_,_,_=>False
abbrev Fin(C:Ct)(D:Ends)(f:Fl)(c:Cf):Prop:=match f with
 |.nx=>D.nx c.σ c.H
 |.bk=>D.bk c.σ c.H
 |.ct=>D.ct c.σ c.H
 |.rt k u=>∀v,Iv C c k u v->D.rt v c.H
abbrev Kept(ns:Nat->Bool)(c h:Cf):Prop:=(∀j,ns j=cb->h.σ[j]?=c.σ[j]?)/\⇑h.σ=⇑c.σ
def Kept.refl:Kept ns c c:=#[λ_ _=>rfl,rfl]
def Kept.trans(h:Kept ns c i)(h':Kept ns i k):Kept ns c k:=#[λj z=>(h'.1 j z).trans (h.1 j z),h'.2.trans h.2]
def Kept.le(i:∀j,VA j=cb->ns j=cb)(h:Kept ns c k):Kept VA c k:=#[λj z=>h.1 j (i j z),h.2]
def Kept.of(h:i.σ=c.σ):Kept ns c i:=#[λj z=>by rw[h],by rw[h]]
abbrev pS(C:Ct)(c0:Cf)(ns:Nat->Bool)(D:Ends)(f:Fl)(st':aK):Prop:=∀c,c.st=st'->Ok C c->Ns c0 c->Kept ns c0 c->Fin C D f c
inductive Na(C:Ct)(ns:Nat->Bool)(m:M Fl)(D:Ends)(σ:L2.St)(H:Hp):Prop
 |mk:∀c0:Cf,c0.σ=σ->c0.H=H->Ok C c0->W m c0.st (pS C c0 ns D)->Na C ns m D σ H
def BE(ok:Ok C c1)(n:Ns c0 c1)(k:Kept ns c0 c1)(h:W mm c1.st (pS C c0 ns D)):Na C ns mm D c1.σ c1.H :=
 #[c1,rfl,rfl,ok,h.mono λf st c i e j l k2=>c i e j (n.trans l) (k.trans k2)]
def PS.weak(h:L2.PS X st t)(i:∀D σ H,t' D σ H->t D σ H):L2.PS X st t':=λc s σ H D I q=>h c s σ H D I (i D σ H q)
def Nh.weak(h:Nh X rest t)(i:∀D σ H,t' D σ H->t D σ H):Nh X rest t':=λc s σ H D I q=>h c s σ H D I (i D σ H q)
def rq(i:∀j,VA j=cb->ns j=cb)(h:Na C VA mm D σ H):Na C ns mm D σ H :=
 let ⟨c0,c,k,ok,w⟩:=h;⟨c0,c,k,ok,w.mono λf st l n e q r k2=>l n e q r (k2.le i)⟩
def Kb:Nh X [] (Na C ns (pure .nx)):=by
 show Nh.weak DE ?_;rintro D σ H ⟨c0,rfl,rfl,ok,h⟩;rw[ak]at h;show h c0 rfl ok (Ns.refl c0) Kept.refl
abbrev E1(m:M Fl)(f:Fl):M Fl:=match f with
 |.nx=>m
 |f=>pure f
def Iw(j:L2.PS X st (Na C ns f))(l:Nh X rest (Na C ns g)):Nh X (st::rest) (Na C ns (f >>= E1 g)):=by
 show Nh.weak (z_ j l) ?_;rintro D σ H ⟨c0,rfl,rfl,ok,h⟩;rw[ah]at h;show#[c0,rfl,rfl,ok,h.mono λn st1 w c1 e c i k1=>?_];subst e;cases n with
 |nx=>show BE c i k1 w
 |bk=>rw[show E1 g .bk=pure .bk from rfl,ak]at w;show w c1 rfl c i k1
 |ct=>rw[show E1 g .ct=pure .ct from rfl,ak]at w;show w c1 rfl c i k1
 |rt k u=>rw[show E1 g _=pure _ from rfl,ak]at w;show w c1 rfl c i k1
def Kc(i:PE X a (Md C ma))(hs:Xl a b6 pos.line X.env=pure cK):L2.PS X (.Expr a pos) (Na C ns (ma >>= λ_=>pure .nx)):=by
 show PS.weak (lR i hs) ?_;rintro D σ H ⟨c0,rfl,rfl,ok,h⟩;show aZ ok h λx c v t w=>?_;rw[ak]at w;have:=w c rfl t.ok t.nx (Kept.of t.hσ);rw[<-t.hσ];show this
def BF(ok:Ok C c0)(t:QL C c0 c x v)(w:W (retS x) c.st (pS C c0 ns D)):D.rt v c.H:=by
 have(k,u):=x;have(G,l,n,r):=t;cases k with
 |own =>
  rw[show retS (.own,u)=pure (.rt .own u) from rfl,ak]at w;have(B,e,h1,h2,h3,h4):=r;show w c rfl l n (Kept.of G) v #[B,e,(ok.kh h1).1,h2,h3,h4]
 |loc =>
  rw[show retS (.loc,u)=pure (.rt .loc u) from rfl,ak]at w;show w c rfl l n (Kept.of G) v r
 |any =>
  rw[show retS (.any,u)=if Mr u=cb then pure (.rt .loc u) else pure (.rt .any u) from rfl]at w;split at w
  .rw[ak]at w;show w c rfl l n (Kept.of G) v (Rep.Mr ⋯ r)
  .rw[ak]at w;show w c rfl l n (Kept.of G) v r
 |bor j =>
  have(fl,st',e,w):=w;rw[show retS (.bor j,u) c.st=match c.st[j]? with|some (bD (.own,u))=>bD _|_=>b6 from rfl]at e;split at e
  .rename_i u' J;cases e;have QN:j<⇑c.st:=(eH.mp J).1;have A:∀(i:Nat) k u',(c.st.set j b6)[i]?≈bD (k,u')->i≠j/\c.st[i]?≈bD (k,u'):=λi k u' e=>by
    by_cases Q:i=j
    .simp_all
    .rw[mx (ve Q)]at e;show#[Q,e]
   have(v',s,B,er,q1,q2,q3,q4):=l.sl j _ _ J;have L:c.σ[j]?≈bD v:=r.2;rw[L]at s;cases s;subst er;have T:∀a,({c with st:=c.st.set j b6}:Cf).R1 a->c.R1 a:=λa ⟨i,k,h,hk,s,y⟩=>#[i,k,h,hk,(A i k h s).2,y]
   have hR:∀a,({c with st:=c.st.set j b6}:Cf).R a->c.R a:=λa z=>z.elim (λz=>.inl (T a z)) λ⟨i,h,N,s,y,I⟩=>.inr #[i,h,N,(A i .F' h s).2,y,I];have P6:PD C {c with st:=c.st.set j b6}:=l.dd.of rfl (λi h e=>#[(A i .F' h e).2,rfl]) (λa z=>.inl (T a z)) (.up λ_ z=>z) λi a z=>#[(l.root (.inr #[i,z])).1,λo q=>q]
   have O:Ok C {c with st:=c.st.set j b6}:=#[l.same,l.NJ,l.par,l.io,by simp[l.len],λi k h e=>l.sl i k h (A i k h e).2,λi Y k k' u1 h r hk MW s y I e4=>l.inj i Y k k' u1 h r hk MW (A i k u1 s).2 (A Y k' h y).2 I e4,P6]
   have nn:Ns c0 {c with st:=c.st.set j b6}:=#[n.keep,n.there,λa z=>n.roots a (hR a z),n.sub,n.new]
   show w _ rfl O nn (Kept.of G) (.ref B) #[B,rfl,q3,q1,λz=>?_,q4]
   .rcases z with⟨i,k,h,hk,s,y⟩|⟨i,h,N,s,y,I⟩
    .have(ne,M6):=A i k h s;show ne (l.inj i j k .own h _ B hk rfl M6 J y L)
    .show l.dd.d1 i B #[h,N,(A i .F' h s).2,y,I] #[j,.own,_,rfl,J,L]
  .cases e
 |_=>show r.elim
def Ke(i:PE X a (Md C ma)):L2.PS X (.Return (bD a) pos) (Na C ns (ma >>= retS)):=by
 show PS.weak (Aa i) ?_;rintro D σ H ⟨c0,rfl,rfl,ok,h⟩;show aZ ok h λx c v t w=>BF ok t w
end
def tW(e:∀j,f j=cb->j≠i)(g:Ok C c0)(t:QL C c0 c r v)(hi:i<⇑c.σ)(w:W (gE i r >>= λ_=>(pure .nx:M Fl)) c.st (pS C c0 f D)):D.nx (c0.σ.set i (bD v)) c.H:=by
 rw[ah]at w;have(b,a,h,k,l,q):=xx  g t.ok t.nx hi t.rx w;rw[ak]at q;have z:=q b rfl k l #[λj m=>by rw[a,t.hσ,mx (ve (e j m))],by rw[a,t.hσ];simp];have d:D.nx _ b.H:=z;rw[a,h,t.hσ]at d;show d
def Gj(e:∀j,f j=cb->j≠i)(g:X.N.Nodup)(hi:X.N[i]?≈x)(k:Loc X.env.scope x)(l:X.fn x=cb\/X.env.scope.names.lookup x≈.local)(m:PE X a (Md C n))
  (hs:Xl a (bD (.Name x b)) pos.line X.env=pure cK):L2.PS X (.Assign [.Name x b] a pos) (Na C f (n >>= λr=>gE i r >>= λ_=>pure .nx)):=by
 rintro d s σ H D I ⟨c0,rfl,rfl,ok,h⟩;have o:i<⇑c0.σ:=by rw[I.len];show(eH.mp hi).1
 show Ad g hi k m hs l d s _ c0.H D I (aZ ok h λr c v t w=>tW e ok t (by rw[t.hσ];lia) w)
def Iy(g:∀j,k j=cb->j≠i)(S:cT X N own scope)(l:X.calm=cb)(m:X.N.Nodup)(f:X.N[i]?≈y)(o:X.env.scope.names.lookup y≈.local)
  (hi:PI X e a (Pp C ik ms)) (p:∀D s H ex,PG (Nb X N scope D s H ex) e (tG C t (fS ⇑own))) (q:∀D s H ex,Qe (Nb X N scope D s H ex) b (Np C u)) (z:∀D s H ex,PE (Nb X N scope D s H ex) elt (Md C A))
  (B:Xl (.ListComp elt [⟨e,a,b,0⟩] scope pos) (bD (.Name y G)) J.line X.env=pure cb) (hs:∀x,Sq a X.env x=pure x) :
  L2.PS X (.Assign [.Name y G] (.ListComp elt [⟨e,a,b,0⟩] scope pos) J)
   (Na C k ((ms >>= λrs=>aR rs >>= λ_=>M.Mw (Nn ik rs) >>= λxs=>bO ⇑own t u A rs xs [] >>= λus=>pure (.own,.lst us)) >>= λr=>gE i r >>= λ_=>pure .nx)):=by
 rintro d s σ H D I ⟨c0,rfl,rfl,ok,h⟩;have T:i<⇑c0.σ:=by rw[I.len];show(eH.mp f).1
 show DW S l m f o hi p q z B hs d s _ c0.H D I ?_;rw[ah]at h;show pR ok (h.mono λr st1 w c v L O Q n rt=>?_);subst O;show tW g ok #[L,Q,n,rt] ⋯ w
def IA(f:∀j,g j=cb->j∉is)(i:PE X a (Md C k))(l:PG X b (tG C cb is))(hs:Za [b] a pos.line X.env=pure cK)(m:ð [b] a X.env=pure b6)(n:(V0 [b] X.env).map (·.2)=[YA b X.env]):
  L2.PS X (.Assign [b] a pos) (Na C g (k >>= λr=>dZ cb is r >>= λ_=>pure .nx)):=by
 show PS.weak (uO i l hs m n) ?_;rintro D σ H ⟨c0,rfl,rfl,ok,h⟩;show aZ ok h λr c v t w=>?_;rw[ah]at w;show#[c0,c,r,t.hσ,rfl,ok,t.ok,t.nx,t.rx,w.mono λ_ st1 d o e p q s hl=>?_];subst e;rw[ak]at d;show d o rfl p q #[λj u=>by rw[s j (f j u),t.hσ],by rw[hl,t.hσ]]
def Kf(i:PT X a (Np C j))(k:Nh X l (Na C b f))(m:Nh X o (Na C b g)):L2.PS X (.If a l o pos) (Na C b (j >>= λp=>if p=cb then f else g)):=by
 show PS.weak (Jx i k m) ?_;rintro D σ H ⟨c0,rfl,rfl,ok,h⟩;show gQ ok h λp c d q n w=>?_;have e:=d.symm;rw[e];cases p with
 |_=>show BE q n (Kept.of d) w
def Kg(G:Ę (gj X.prog X.w) X.A X.env X.xe)(I:PT X a (Np C q))(J:Nh X body (Na C d f)):L2.PS X (.While a body [] pos) (Na C d (km q f n)):=by
 show PS.weak (Ae G I J) ?_;rintro D σ H ⟨c0,rfl,rfl,ok,h⟩;show#[λm r H'=>∃c,c.H=H'/\c.σ=r/\Ok C c/\Ns c0 c/\Kept d c0 c/\W (km q f m) c.st _,#[n,c0,rfl,rfl,ok,Ns.refl c0,Kept.refl,h],?_];rintro m r H' ⟨c,rfl,rfl,L,s,t,w⟩;cases m with
 |zero=>show(bF.mp w).elim
 |succ m =>
  show gQ L w λp i u v x b=>?_;have k2:Kept d c i:=Kept.of u;rw[<-u];cases p with
  |false =>
   rw[if_neg qp]at b ⊢;rw[ak]at b;show b i rfl v (s.trans x) (t.trans k2)
  |true =>
   rw[if_pos rfl]at b ⊢;show#[λy B=>∃c,c.H=B/\c.σ=y/\Ok C c/\Ns c0 c/\Kept d c0 c/\W _ c.st _,λy B z=>#[m,ρ m,z],?_];rw[ah]at b;show#[i,rfl,rfl,v,b.mono λN st3 g j e k O Q=>?_];subst e;have l:=(s.trans x).trans O;have o:=(t.trans k2).trans Q;cases N with
   |nx=>show#[j,rfl,rfl,k,l,o,g]
   |ct=>show#[j,rfl,rfl,k,l,o,g]
   |_=>rw[ak]at g;show g j rfl k l o
def Kh(hp:Ę (gj X.prog X.w) X.A X.env X.xe)(hc:X.calm=cb)(hi:PI X tg a (Pp C ik ms))(hg:PG X tg (tG C t is))(hb:Nh X body (Na C (NV r) f))(hs:∀x,Sq a X.env x=pure x)
  (ND:∀j,b j=cb->j∉is/\NV r j=cb) :
  L2.PS X (.For tg a body [] pos) (Na C b (ms >>= λrs=>aR rs >>= λ_=>M.Mw (Nn ik rs) >>= λxs=>if xj rs is r=cb then forM t is f rs xs else M.fail)):=by
 show PS.weak (G2 hp hc hi hg hb hs) ?_;rintro D σ H ⟨c0,rfl,rfl,ok,h⟩;rw[ah]at h;show#[c0,rfl,rfl,ok,?_];rw[ah];show h.mono λrs st1 s=>?_;rw[ah,cF]at s ⊢;show#[s.1,?_];have h2:=s.2;rw[ah]at h2 ⊢;show h2.mono λxs st2 h3=>?_;rw[ak];intro c1 J e1 e2 Mh n1 L8 v;subst e2
 dsimp only at L8 v
 split at h3
 .rename_i Sa;have X7:∀j u,(Kd.bor j,u)∈rs->j∉is/\NV r j=cb:=λj u n=>by
   have:=nH.mp Sa _ n;simpa using this
  show#[λi m g H'=>∃c,c.H=H'/\c.σ=g/\Ok C c/\Ns c1 c/\Kept b c0 c/\lj rs c1 c/\m=⇑xs - i/\i<=⇑xs/\W (forM t is f rs (xs.drop i)) c.st (pS C c0 b D),
   #[⇑xs,c1,rfl,e1,Mh,Ns.refl c1,Kept.of e1,λ_ _ _=>rfl,by simp,lx _,by assumption],?_]
  rintro i m g H' ⟨c,rfl,rfl,y,o,kc,B,rfl,MX,w⟩;by_cases Mm:i<⇑xs
  .right
   rw[UO Mm,show forM t is f rs (xs[i]::xs.drop (i+1))=aR rs >>= λ_=>dZ t is xs[i] >>= λ_=>f >>= λf'=>match f' with|.nx=>forM t is f rs (xs.drop (i+1))|.ct=>forM t is f rs (xs.drop (i+1))|.bk=>pure .nx|.rt k u=>pure (.rt k u) from rfl,ah,cF]at w;have(P9,w):=w;have(G,_):=v c y o B P9;have(UA,Ta,Vz):=G i xs[i] ⋯;show#[Ta,λg H'=>∃c,c.H=H'/\c.σ=g/\Ok C c/\Ns c1 c/\Kept b c0 c/\lj rs c1 c/\W _ c.st (pS C c0 b D),λg H' ⟨c',z1,z2,z3,z4,z5,z6,z7⟩=>#[⇑xs - (i+1),⋯,c',z1,z2,z3,z4,z5,z6,rfl,Mm,z7],λx H' hy=>?_];have(l,rfl,p,e5,Ms,n2,rt):=Vz x H' hy;rw[ah]at w;have I:aW C l l xs[i].1 xs[i].2 x:=by
    rcases UA with z|z
    .rw[z]at rt ⊢;show rt
    .rw[z]at rt ⊢;show rt
   show#[l,l,xs[i],p,rfl,Ms,Ms,Nx.refl l,I,?_];rw[e5];show w.mono λ_ st3 w3 c3 e6 OB n3 Z0 Tc=>?_;subst e6;rw[ah]at w3;show#[c3,rfl,rfl,OB,w3.mono λfl SF q d e L n4 N=>?_];subst e;have O:Ns c1 d:=((o.trans n2.toNs).trans n3.toNs).trans n4;have Q:Kept b c0 d:=by
    show kc.trans #[λj hj=>?_,by rw[N.2,Tc,p]];have(T,Y):=ND j hj;rw[N.1 j Y,Z0 j T,p]
   have Z1:lj rs c1 d:=λj u n=>by
    have(T,Y):=X7 j u n;rw[N.1 j Y,Z0 j T,p];show B j u n
   cases fl with
   |nx=>show#[d,rfl,rfl,L,O,Q,Z1,q]
   |ct=>show#[d,rfl,rfl,L,O,Q,Z1,q]
   |_=>rw[ak]at q;show q d rfl L (n1.toNs.trans O) Q
  .left
   have ab:i=⇑xs:=⋯
   subst ab;rw[Ζ,show forM t is f rs []=aR rs >>= λ_=>pure .nx from rfl,ah,cF,ak]at w;have(_,G):=v c y o B w.1;show#[G _ (gi _),w.2 c rfl y (n1.toNs.trans o) kc]
 .show(bF.mp h3).elim
def Ok.mod(ok:Ok C c)(n:Ns c0 c)(hk:k.root=cb)(hi:c.st[i]?≈bD (k,u))(A:c.σ[i]?≈bD (.ref r))(MF:∀a,a≠r->H' a=c.H a)(T:∃o,H' r≈o)
  (new:Mv c.S c.H c.S H'->dX C c.S H' r u'):Ok C {c with H:=H',st:=c.st.set i (bD (k,u'))}/\Ns c0 {c with H:=H',st:=c.st.set i (bD (k,u'))}:=by
 have Y:c.R1 r:=#[i,k,u,hk,hi,A]
 have hR:c.R r:=.inl Y;have(D,q2,q3,o,ho,ab):=ok.root hR;have Nw:i<⇑c.st:=(eH.mp hi).1;have h:∀{a} {o'},a≠r->c.H a≈o'->H' a≈o':=λG e=>by rw[MF _ G];show e
 have B:Mv c.S c.H c.S H':=#[λ_ z=>z,λa o' e t=>h (λz=>by simp_all) e,λa o' z e=>h (λl=>D (l▸z)) e]
 have Qo:Mv (PS C c.S) c.H (PS C c.S) H':=#[λ_ z=>z,B.S3,λa o' z e=>h (λl=>by subst l;show z.elim q2 D) e]
 have I:∀j k' w,(c.st.set i (bD (k,u')))[j]?≈bD (k',w)->j≠i->c.st[j]?≈bD (k',w):=λj k' w e G=>by rw[mx (ve G)]at e;show e
 have b:∀(j:Nat) k' w,k'.root=cb->(c.st.set i (bD (k,u')))[j]?≈bD (k',w)->∃J,c.st[j]?≈bD (k',J):=λj k' w _ e=>by
  by_cases m:j=i
  .simp_all
  .show#[w,I j k' w e m]
 have b1:∀a,{c with H:=H',st:=c.st.set i (bD (k,u'))}.R1 a->c.R1 a:=λa Mg=>by
  have(j,k',w,d,f,g):=Mg;have(J,L):=b j k' w d f;show#[j,k',J,d,L,g]
 have dD:∀(j:Nat) w,(c.st.set i (bD (k,u')))[j]?≈bD (.F',w)->c.st[j]?≈bD (.F',w):=λj w e=>by
  by_cases m:j=i
  .subst m;rw[hH Nw]at e;cases e;cases hk
  .show I j .F' w e m
 have P6:PD C {c with H:=H',st:=c.st.set i (bD (k,u'))}:=ok.dd.of rfl (λj w e=>#[dD j w e,rfl]) (λa z=>.inl (b1 a z)) B λj a z=>#[(ok.root (.inr #[j,z])).1,λo' e=>h (λl=>ok.dd.d1 j a z (l▸Y)) e]
 show#[#[λa o' e z=>?_,λa z=>?_,ok.par,λa z=>?_,by simp[ok.len],λj k' w e=>?_,λj1 j2 k1 k2 w1 w2 p d q f g N e4=>?_,P6],n.trans #[λa o' e z=>h (λl=>z (l▸hR)) e,λa o' e=>?_,λa z=>?_,λ_ z=>z,λ_ z=>.inl z]]
 .have d:=ok.same a o' e z;show h (λl=>?_) d;simp_all
 .have(d,o',q):=ok.NJ a z;show#[d,o',h (λl=>D (l▸z)) q]
 .have(d,o',q):=ok.io a z;show#[d,?_];by_cases x:a=r
  .subst x;show T
  .show#[o',h x q]
 .by_cases m:j=i
  .subst m;rw[hH Nw]at e;cases e;have(v,f,g):=ok.sl j _ _ hi;rw[A]at f;cases f;show#[.ref r,A,?_];have nr:=new B;cases k with
   |own=>have(p,s,y,O,Q,_):=g;cases s;show#[r,rfl,y,O,Q,nr]
   |io=>have(p,s,y,O,Q,_):=g;cases s;show#[r,rfl,y,O,Q,nr]
   |_=>cases hk
  .have e0:=I j k' w e m;have(v,f,g):=ok.sl j k' w e0;show#[v,f,g.mv B Qo λMW p s=>?_];have(R6,Ng,y,_):=g.rt MW;rw[s]at Ng;cases Ng;show#[y,λo' e=>h (λz=>?_) e];subst z;show m (ok.inj j i k' k w u p MW hk e0 hi (by rw[f,s]) A)
 .have(VB,L):=b j1 k1 w1 d f;have(Z2,a2):=b j2 k2 w2 q g;show ok.inj j1 j2 k1 k2 VB Z2 p d q L a2 N e4
 .by_cases x:a=r
  .subst x;show T
  .show#[o',h x e]
 .rcases z with z|⟨j,w,p,f,g,N⟩
  .show .inl (.inl (b1 a z))
  .show .inl (.inr #[j,w,p,dD j w f,g,N])
inductive Z3(i:Nat)(f:U->Option U)(st:aK)(Q:Unit->aK->Prop):Prop
 |mk:∀k u u',k.root=cb->st[i]?≈bD (k,u)->f u≈u'->Q () (st.set i (bD (k,u')))->Z3 i f st Q
def il{f}{st}(h:W (modS i f) st Q):Z3 i f st Q:=by
 have(_,st',e,q):=h;unfold modS at e;split at e
 .rename_i k u hs;split at e
  .rename_i hk;cases a:f u with
   |none=>simp_all
   |some u'=>rw[a]at e;cases e;show#[k,u,u',hk,hs,a,q]
  .cases e
 .cases e
inductive Z4(i:Nat)(st:aK)(Q:Kd×U->aK->Prop):Prop
 |mk:∀k u,k≠.F'->st[i]?≈bD (k,u)->Q (if k.root=cb then .bor i else k,u) st->Z4 i st Q
def eB{st}(h:W (dY i) st Q):Z4 i st Q:=by
 have(r,st',e,q):=h;unfold dY at e;split at e
 .cases e
 .rename_i k u a hs;cases e;show#[k,u,λz=>a z,hs,q]
 .cases e
def Ki(T:C.K=X.K)(Y:X.N[i]?≈x)(hv:N5 X.env.scope x)(hd:(x==("__debug__":Str))=cK)(MO:(x==("__classdict__":Str))=cK)(ha:PE X a (Md C ma))
  (Nf:((RN g (mn [a] X.env)).all (λx=>!x.1)&&(XO g (TV [] X.env)).all (λx=>x.1.isSome)
   && dV ([a].length+⇑([]:↑Uw)+(if ([]:↑Uw).isEmpty then 0 else 1)<30))=cb)
  (Mk:(d.endLine==g.line)=cb) (o:mn [a] X.env=[(cK,K1 a X.env)]) :
  L2.PS X (.Expr (.Call (.Attribute (.Name x px) "append" d) [a] [] g) pos) (Na C ns (dY i >>= λx=>Us x.2 >>= λ_=>ma >>= λr=>lift r >>= λu=>modS i (Ez u) >>= λ_=>pure .nx)):=by
 show PS.weak (lR (Ak F.plainAttrs_list F.slot_list_append F.type_list_append pv (cR Y hv hd MO) (hJ ha mK o) rfl Nf Mk o rfl)) ?_;rintro D σ H ⟨c0,rfl,rfl,ok,h⟩;rw[ah]at h;have(b,p,QQ,s,h):=eB h;have(y,l,m):=ok.sl i b p s;show#[y,l,?_];cases p with
 |lst Vx =>
  have X_:aW C c0 c0 (if b.root=cb then .bor i else b) (.lst Vx) y:=by
   by_cases hk:b.root=cb
   .rw[if_pos hk];show#[#[b,hk,s],l]
   .cases b with
    |loc=>show m
    |any=>show m
    |bor j=>show m.elim
    |F'=>show(QQ rfl).elim
    |_=>show absurd rfl hk
  have(A,Vy,n,Rz,_):=X_.list ok;show#[by rw[n];show .inl #[rfl,Vy,T▸Rz],?_];show aZ ok h λr c v t w=>?_;rw[ah]at w;have(S',st',u,sS,B,n1,e,G,_,_):=jJ ok t.ok t.nx t.rx.w w;rw[ah]at G;have(k,u1,u2,hk,hs,f,q):=il G;have I:c.σ[i]?≈bD (.ref A):=by rw[t.hσ,l,n]
  cases u1 with
  |lst J =>
   simp only[Ez]at f;split at f
   .rename_i hz;cases f;have(v',e1,e2):=B.sl i k (.lst J) hs;have L:=e1;rw[I]at L;cases L;have(r',er,_,_,_,ws,hw,O):=e2.rt hk;cases er;have P8:=hw;show#[A,ws,v,n,rfl,P8,by rw[<-O.len];show hz,?_];rw[ak]at q;have(Ms,n2):=Ok.mod   (u':=.lst (J++[u])) B n1.toNs hk hs I (λa ne=>aj ne) ⟨_,av⟩ λQ=>#[ws++[v],av,(O.mv Q).snoc (e.mv Q)]
    have z:=q _ rfl Ms n2 (Kept.of t.hσ);rw[<-t.hσ];show z
   .cases f
  |_=>cases f
 |_=>rw[ah]at h;show(bF.mp h).elim
def Kj(A:C.K=X.K)(hN:X.N[i]?≈x)(hv:N5 X.env.scope x)(hd:(x==("__debug__":Str))=cK)(MO:(x==("__classdict__":Str))=cK)(ha:PE X a (Md C ma))
  (Nf:((RN l (mn [a] X.env)).all (λx=>!x.1)&&(XO l (TV [] X.env)).all (λx=>x.1.isSome)
   && dV ([a].length+⇑([]:↑Uw)+(if ([]:↑Uw).isEmpty then 0 else 1)<30))=cb)
  (Mk:(g.endLine==l.line)=cb) (B:mn [a] X.env=[(cK,K1 a X.env)]) :
  L2.PS X (.Expr (.Call (.Attribute (.Name x px) "extend" g) [a] [] l) pos) (Na C ns (dY i >>= λx=>Us x.2 >>= λ_=>ma >>= λr=>modS i (o_ r) >>= λ_=>pure .nx)):=by
 show PS.weak (lR (Ak F.plainAttrs_list F.slot_list_extend F.type_list_extend vd (cR hN hv hd MO) (hJ ha mK B) rfl Nf Mk B rfl)) ?_;rintro D σ H ⟨c0,rfl,rfl,ok,h⟩;rw[ah]at h;have(f,G,QQ,I,h):=eB h;have(J,m,n):=ok.sl i f G I;show#[J,m,?_];cases G with
 |lst Vx =>
  have X_:aW C c0 c0 (if f.root=cb then .bor i else f) (.lst Vx) J:=by
   by_cases hk:f.root=cb
   .rw[if_pos hk];show#[#[f,hk,I],m]
   .cases f with
    |loc=>show n
    |any=>show n
    |bor j=>show n.elim
    |F'=>show(QQ rfl).elim
    |_=>show absurd rfl hk
  have(L,Vy,o,Rz,_):=X_.list ok;show#[by rw[o];show .inl #[rfl,Vy,A▸Rz],?_];show aZ ok h λr c v t w=>?_;rw[ah]at w;have(k,p,u2,hk,hs,d,q):=il w;have O:c.σ[i]?≈bD (.ref L):=by rw[t.hσ,m,o]
  have(rk,ru):=r;have s:∃e zs b vs,p=.lst e/\v=.ref b/\(Mz C.K c.H b vs\/MA C.K c.H b vs)/\ai C c.S c.H zs vs/\⇑e+⇑zs<=dt/\u2=.lst (e++zs):=by
   cases ru with
   |lst zs =>
    cases p with
    |lst e =>
     simp only[o_]at d;split at d
     .rename_i hz;cases d;have(b,vs,ev,u,y):=t.rx.list t.ok;show#[_,_,b,vs,rfl,ev,.inl u,da hz.2 y,hz.1,rfl]
     .cases d
    |_=>simp[o_]at d
   |tup zs =>
    cases p with
    |lst e =>
     simp only[o_]at d;split at d
     .rename_i hz;cases d;have(b,vs,ev,u,y):=t.rx.tuple t.ok;show#[_,_,b,vs,rfl,ev,.inr u,da hz.2 y,hz.1,rfl]
     .cases d
    |_=>simp[o_]at d
   |_=>simp[o_]at d
  have(e,zs,b,vs,rfl,rfl,hB,hz,hl,rfl):=s;have(v',Q,e2):=t.ok.sl i k (.lst e) hs;rw[O]at Q;cases Q;have(r',er,_,_,_,ws,hw,T):=e2.rt hk;cases er;show#[L,b,ws,vs,o,rfl,hw,A▸hB,by rw[<-T.len,<-hz.len];show hl,?_];rw[ak]at q;have(Ms,n2):=Ok.mod (c:=c)  (u':=.lst _) t.ok t.nx.toNs hk hs O (λa ne=>aj ne) ⟨_,av⟩ λY=>#[ws++vs,av,(T.mv Y).append (hz.mv Y)]
  have z:=q _ rfl Ms n2 (Kept.of t.hσ);rw[<-t.hσ];show z
 |_=>show(bF.mp h).elim
def mF.or(h:mF X t)(h':mF X t'):mF X (λo i v H Q=>t o i v H Q\/t' o i v H Q):=λa s σ H o i v b c u Q I d e f q =>
 q.elim (h a s σ H o i v b c u Q I d e f) (h' a s σ H o i v b c u Q I d e f)
def set_dict(c:X.A.units+1<MJ):mF X (λo i v H Q=>∃a H',o=.ref a/\yR H a i v H'/\Q H'):=by
 rintro b s σ H o i v h j u Q I d e rv ⟨a,H',rfl,g,q⟩;cases d;show yS c I g e rv λk f=>#[H',f,q]
def BG{S}{kvs:↑(Key×V)}(a:kvs.map (·.1)=ks.map mA)(c:ai C S H us (kvs.map (·.2)))(f:Rep C S H u v):
  (putK kvs (mA y) v).map (·.1)=(dput ks us y u).1.map mA/\ai C S H (dput ks us y u).2 ((putK kvs (mA y) v).map (·.2)):=by
 have d:(kvs.any λkv=>dV (kv.1=mA y))=dV (y∈ks):=by
  rw[jt];show(cH (x:=y) a c).2
 unfold putK dput;rw[d];by_cases b:y∈ks
 .rw[if_pos (by simpa using b),if_pos b];constructor
  .rw[fR];rw[<-a];apply tA;intro p _;change(if p.1=mA y then(p.1,v) else p).1=p.1;split<;>rfl
  .clear d b;induction kvs generalizing ks us with
   |nil =>
    have:ks=[]:=by simpa using a.symm
    subst this;simp[ai]
   |cons p kvs g =>
    cases ks with
    |nil=>simp at a
    |cons k ks =>
     cases us with
     |nil=>simp[ai]at c
     |cons i us =>
      rw[gr,gr,UC]at a;have(j,l,e,m,h):=c;rw[gr]at e;cases e;rw[gr,Ù,gr,gr];show#[_,_,rfl,?_,g a.2 h];by_cases hk:k=y
      .simp_all
      simp_all
 .rw[if_neg (by simpa using b),if_neg b];show#[by simp_all,by rw[mh];show c.snoc f]
def Kk(hP:C.P=X.prog)(hw:C.w=X.w)(hK:C.K=X.K)(hu:X.A.units+60<MJ)(hN:X.N[i]?≈x)(hv:N5 X.env.scope x)(hd:(x==("__debug__":Str))=cK)(MO:(x==("__classdict__":Str))=cK)
  (ha:PE X a (Md C ma)) (hb:PE X b (Md C mb)) (hs:Za [.Subscript (.Name x I) b p] a pos.line X.env=pure cK) (QR:ð [.Subscript (.Name x I) b p] a X.env=pure b6)
  (has:∀v,YA (.Subscript (.Name x I) b p) X.env v=(do
   let J <-Sm [v] (K1 (.Name x I) X.env)
   let Q <-Sm [v,J] (K1 b X.env)
   İ p
   Sm [v,J,Q] (Z_ J Q v)
   ą [v,J,Q] [])) :
  L2.PS X (.Assign [.Subscript (.Name x I) b p] a pos) (Na C ns (ma >>= λr=>dY i >>= λ_=>mb >>= λx=>dP [r,x] >>= λus=>modS i (Bm us) >>= λ_=>pure .nx)):=by
 show PS.weak (uO ha (Ac (cR hN hv hd MO) hb (mF.or (mF.or set_list (set_dict (X:=X) ⋯)) (D3 (X:=X) ⋯)) has) hs QR rfl) ?_;rintro D σ H ⟨c0,rfl,rfl,ok,h⟩;show aZ ok h λr c v t w=>?_;rw[ah]at w;have(k0,u0,QQ,Nu,w):=eB w;have(v0,e0,OZ):=t.ok.sl i k0 u0 Nu;show#[v0,by rw[<-t.hσ];show e0,?_];rw[ah]at w;show#[c,t.hσ,rfl,t.ok,w.mono λy st2 w2 g s L e4 Ms n2 r2=>?_];subst e4;rw[ah]at w2;have Ya:=t.nx.trans n2;have T:eX C c0 g [r,y] [v,s]:=#[v,[s],rfl,t.rx.w.on t.ok n2 (L.trans t.hσ.symm),#[s,[],rfl,(r2.w).from t.nx,rfl,λ_ i r' Y e _=>by simp at e],λhk i r' Y e5 e6 MW=>by
  cases i with
  |zero=>simp at e5 e6;subst e5 e6;show rg t.rx.w r2.w hk MW
  |succ i=>simp at e5]
 have(S',st',us,sS,Mh,n1,m,w1):=jK ok Ms Ya T w2;rw[ah]at w1;have(k,O,u2,hk,NZ,d,q):=il w1;rw[ak]at q;have hσ:g.σ[i]?≈bD v0:=by rw[L,<-t.hσ];show e0
 have(Y,e1,e2):=Mh.sl i k O NZ;have M6:g.σ[i]?≈bD Y:=e1;rw[hσ]at M6;cases M6;have(l,er,z1,z2,z3,f):=e2.rt hk;subst er;have ab:{g with S:=S',st:=st' }.σ[i]?≈bD (.ref l):=hσ;obtain⟨VB,ws,ew,Z5,Z2,al,am,Yb,ac⟩:∃u ws,us=[u,ws]/\Rep C S' g.H u v/\∃(_:Unit) (_:Unit),True/\Rep C S' g.H ws s/\True:=by
  cases us with
  |nil=>simp[ai]at m
  |cons u us =>
   have(_,_,e,q1,q2):=m;cases e;cases us with
   |nil=>simp[ai]at q2
   |cons u' us =>
    have(_,_,e,q3,q4):=q2;cases e;cases us with
    |nil=>show#[u,u',rfl,q1,(),(),ttt,q3,ttt]
    |cons _ _=>have(_,_,e,_):=q4;cases e
 subst ew;rw[show Bm [VB,ws] O=d0 ws VB O from rfl]at d;have n:∀{H'} ,(∀a,a≠l->H' a=g.H a)->(∃o,H' l≈o)->(Mv S' g.H S' H'->dX C S' H' l u2)->D.nx c0.σ H':=λ{H'} MF hr new=>by
  have(OB,n3):=Ok.mod (c:={g with S:=S',st:=st' }) (H':=H') (u':=u2) Mh n1.toNs hk NZ ab MF hr new;have z:=q _ rfl OB n3 (Kept.of L);rw[<-L];show z
 cases O with
 |lst xs =>
  cases ws with
  |int j =>
   simp only[d0,eu]at d;have(j',hj,rfl):=d;have(vs,h1,B):=f;have ey:s=.int j:=Yb;show .inl (.inl #[l,vs,j,j',rfl,ey,h1,by rw[<-B.len];show hj,?_]);show n (λa ne=>aj ne) ⟨_,av⟩ λG=>#[vs.set j' v,av,(B.mv G).set j' (Z5.mv G)]
  |_=>simp[d0]at d
 |J' ks vs =>
  cases ws with
  |str y' =>
   simp only[d0]at d;split at d
   .rename_i hz;cases d;have(kvs,h1,B,h3):=f;have ey:s=.str y':=Yb;subst ey;have hl:⇑kvs=⇑ks:=by have:=congrArg K2 B;simpa using this
    show .inl (.inr #[l,_,rfl,yR.k (k:=mA y') h1 ⋯,?_]);show n (λa ne=>aj ne) ⟨_,av⟩ λG=>?_;have(g1,g2):=BG (y:=y') B h3 Z5;show#[_,av,g1,g2.mv G]
   .cases d
  |_=>simp[d0]at d
 |M9 ks =>
  simp only[d0]at d;split at d
  .rename_i r0 OU;split at d
   .rename_i hh;cases d;have er:=jc OU;subst er;have MS:=Yb.row;have Rg:gz C.P C.w C.K g.H l ks:=f;rw[hK]at MS;rw[hP,hw,hK]at Rg;show .inr #[l,r0,ks,rfl,MS,Rg,hh.1,hh.2,λH' hR MF=>?_];have(xs,hx,_):=id hR;show n MF #[_,hx] λG=>?_;change gz C.P C.w C.K H' l _;simp_all
   .cases d
  .cases d
 |_=>simp[d0]at d
def Ok.slot(ok:Ok C c)(d:k≠.F')(hs:c.st[i]?≈bD (k,u)):∃v,c.σ[i]?≈bD v/\aW C c c (if k.root=cb then .bor i else k) u v:=by
 have(e,b,a):=ok.sl i k u hs;show#[e,b,?_];by_cases hk:k.root=cb
 .rw[if_pos hk];show#[#[k,hk,hs],b]
 .cases k with
  |loc=>show a
  |any=>show a
  |bor j=>show a.elim
  |F'=>show(d rfl).elim
  |_=>show absurd rfl hk
def Ok.Kl(ok:Ok C c)(n:Ns c0 c)(hi:c.st[i]?≈bD (.F',u))(A:c.σ[i]?≈bD (.ref r))(MF:∀a,¬c.RD i a->H' a=c.H a)(N:∀a o,c.H a≈o->∃o',H' a≈o')
  (new:Mv c.S c.H c.S H'->cw C c.S H' r as' u') (has:∀a∈as',a∈c.kid i\/(¬c.R a/\c0.H a=b6)) :
  Ok C {c with H:=H',st:=c.st.set i (bD (.F',u')),kid:=λj=>if j=i then as' else c.kid j}/\Ns c0 {c with H:=H',st:=c.st.set i (bD (.F',u')),kid:=λj=>if j=i then as' else c.kid j}:=by
 have O:i<⇑c.st:=(eH.mp hi).1;have rt:∀{a},c.RD i a->¬c.S a/\¬C.Pe a/\(C.H₀ a=b6\/C.IO a)/\∃o,c.H a≈o/\¬Tp o:=λz=>ok.root (.inr #[i,z]);have h0:∀{a},c.RD i a->C.H₀ a=b6\/C.IO a:=λ⟨u1,r1,f,b,e3⟩=>(cw.fr (ok.dd.kd i u1 r1 f b) _ (f6.mpr e3)).2.2;have p:∀{a:k7} {o:HO},¬c.RD i a->c.H a≈o->H' a≈o:=λz e=>by rw[MF _ z];show e
 have L:Mv c.S c.H c.S H':=#[λ_ z=>z,λa o e t=>p (λz=>by
  have(_,_,_,o',h,nt):=rt z;rw[e]at h;cases h;show nt t) e,λa o z e=>p (λl=>(rt l).1 z) e]
 have Qo:Mv (PS C c.S) c.H (PS C c.S) H':=#[λ_ z=>z,L.S3,λa o z e=>p (λl=>z.elim (rt l).2.1 (rt l).1) e]
 have B:∀(j:Nat) k w,(c.st.set i (bD (.F',u')))[j]?≈bD (k,w)->j≠i->c.st[j]?≈bD (k,w):=λj k w e ne=>by rw[mx (ve ne)]at e;show e
 have Q:∀(j:Nat) k w,k.root=cb->(c.st.set i (bD (.F',u')))[j]?≈bD (k,w)->c.st[j]?≈bD (k,w):=λj k w hk e=>by
  by_cases d:j=i
  .subst d;rw[hH O]at e;cases e;cases hk
  .show B j k w e d
 have b1:∀a,({c with H:=H',st:=c.st.set i (bD (.F',u')),kid:=λj=>if j=i then as' else c.kid j}:Cf).R1 a->c.R1 a:=λa ⟨j,k,w,hk,f,b⟩=>#[j,k,w,hk,Q j k w hk f,b]
 have D:∀j a,({c with H:=H',st:=c.st.set i (bD (.F',u')),kid:=λj=>if j=i then as' else c.kid j}:Cf).RD j a->c.RD j a\/(j=i/\¬c.R a/\c0.H a=b6):=λj a Mg=>by
  have(w,g,f,b,e3):=Mg;by_cases d:j=i
  .subst d;have G:c.σ[j]?≈bD (.ref g):=b;rw[A]at G;cases G;rcases e3 with rfl|e3
   .show .inl #[u,_,hi,A,.inl rfl]
   .have T:a∈as':=by simpa using e3
    rcases has a T with z|z
    .show .inl #[u,_,hi,A,.inr z]
    .show .inr #[rfl,z]
  .have T:a=g\/a∈c.kid j:=by simpa[d] using e3
   show .inl #[w,g,B j _ w f d,b,T]
 show#[#[λa o e z=>p (λl=>(h0 l).elim (λy=>by rw[y]at e;cases e) z) (ok.same a o e z),λa z=>?_,ok.par,λa z=>?_,by simp[ok.len],λj k w e=>?_,λs q k1 k2 w1 w2 g h1 h2 f b e3 e4=>ok.inj s q k1 k2 w1 w2 g h1 h2 (Q s k1 w1 h1 f) (Q q k2 w2 h2 b) e3 e4,#[λj w g f b=>?_,λs q a I J=>?_,λj a I J=>?_]],#[λa o e z=>?_,λa o e=>?_,λa z=>?_,n.sub,n.new]]
 .have(Y,o,q2):=ok.NJ a z;show#[Y,N a o q2]
 .have(Y,o,q2):=ok.io a z;show#[Y,N a o q2]
 .by_cases d:j=i
  .subst d;rw[hH O]at e;cases e;show#[.ref r,A,r,rfl]
  .have(v,f,b):=ok.sl j k w (B j k w e d);show#[v,f,b.mv L Qo λhk g er=>?_];have(R6,Ng,I,_):=b.rt hk;rw[er]at Ng;cases Ng;show#[I,λo h=>p (λz=>ok.dd.d1 i g z #[j,k,w,hk,B j k w e d,by rw[f,er]]) h]
 .by_cases d:j=i
  .subst d;rw[hH O]at f;cases f;have G:c.σ[j]?≈bD (.ref g):=b;rw[A]at G;cases G;have z:=new L;simpa using z
  .have M6:=B j _ w f d;have MW:(if j=i then as' else c.kid j)=c.kid j:=if_neg d;change cw C c.S H' g (if j=i then as' else c.kid j) w;rw[MW];show cw.mv L (λa ha=>#[(ok.root (.inr #[j,w,g,M6,b,f6.mp ha])).1,λo h=>p (λz=>d (ok.dd.dj j i a #[w,g,M6,b,f6.mp ha] z)) h]) (ok.dd.kd j w g M6 b)
 .rcases D s a I with m|⟨rfl,m,_⟩
  .rcases D q a J with x|⟨rfl,x,_⟩
   .show ok.dd.dj s q a m x
   .show(x (.inr #[s,m])).elim
  .rcases D q a J with x|⟨rfl,x,_⟩
   .show(m (.inr #[q,x])).elim
   .rfl
 .rcases D j a I with m|⟨rfl,m,_⟩
  .show ok.dd.d1 j a m (b1 a J)
  .show m (.inl (b1 a J))
 .show p (λl=>by
   rcases n.roots a (.inr #[i,l]) with y|y
   .show z y
   .rw[e]at y;cases y) (n.keep a o e z)
 .have(o',h):=n.there a o e;show N a o' h
 .rcases z with z|⟨j,z⟩
  .show n.roots a (.inl (b1 a z))
  .rcases D j a z with y|⟨_,_,y⟩
   .show n.roots a (.inr #[j,y])
   .show .inr y
def Ok.newD(ok:Ok C c)(x:c.H p=b6)(hi:i<⇑c.σ):
  Ok C {c with H:=upd c.H p (.dK []),σ:=c.σ.set i (bD (.ref p)),st:=c.st.set i (bD (.F',.J' [] [])),kid:=λj=>if j=i then [] else c.kid j}/\Ns c {c with H:=upd c.H p (.dK []),σ:=c.σ.set i (bD (.ref p)),st:=c.st.set i (bD (.F',.J' [] [])),kid:=λj=>if j=i then [] else c.kid j}:=by
 have(m,O):=ok.lay (o:=.dK []) x;have(q1,q2,q3,q4,A):=ok.kh x;have B:i<⇑c.st:=by rw[ok.len];show hi
 have t:∀(j:Nat) k w,(c.st.set i (bD (.F',.J' [] [])))[j]?≈bD (k,w)->j≠i->c.st[j]?≈bD (k,w):=λj k w e D=>by rw[mx (ve D)]at e;show e
 have n:∀(j:Nat),j≠i->(c.σ.set i (bD (.ref p)))[j]?=c.σ[j]?:=λj D=>mx (ve D);have G:∀(j:Nat) k w,k.root=cb->(c.st.set i (bD (.F',.J' [] [])))[j]?≈bD (k,w)->j≠i/\c.st[j]?≈bD (k,w):=λj k w hk e=>by
  by_cases b:j=i
  .subst b;rw[hH B]at e;cases e;cases hk
  .show#[b,t j k w e b]
 have b1:∀a,({c with H:=upd c.H p (.dK []),σ:=c.σ.set i (bD (.ref p)),st:=c.st.set i (bD (.F',.J' [] [])),kid:=λj=>if j=i then [] else c.kid j}:Cf).R1 a->c.R1 a:=λa I=>by
  have(j,k,w,hk,d,f):=I;have(b,J):=G j k w hk d;show#[j,k,w,hk,J,by rw[<-n j b];show f]
 have q:∀j a,({c with H:=upd c.H p (.dK []),σ:=c.σ.set i (bD (.ref p)),st:=c.st.set i (bD (.F',.J' [] [])),kid:=λj=>if j=i then [] else c.kid j}:Cf).RD j a->(j≠i/\c.RD j a)\/(j=i/\a=p):=λj a I=>by
  have(w,g,d,f,e3):=I;by_cases b:j=i
  .subst b;have r:(c.σ.set j (bD (.ref p)))[j]?≈bD (.ref g):=f;rw[hH hi]at r;cases r;rcases e3 with rfl|e3
   .show .inr #[rfl,rfl]
   .simp at e3
  .have Qm:a=g\/a∈c.kid j:=by simpa[b] using e3
   show .inl #[b,w,g,t j _ w d b,by rw[<-n j b];show f,Qm]
 show#[#[m.same,m.NJ,m.par,m.io,by simp[ok.len],λj k w e=>?_,λl h k1 k2 Q T g Y h2 d f e3 e4=>?_,#[λj w g d f=>?_,λl h a L s=>?_,λj a L s=>?_]],#[O.keep,O.there,λa z=>?_,λ_ z=>z,λ_ z=>.inl z]]
 .by_cases b:j=i
  .subst b;rw[hH B]at e;cases e;show#[.ref p,hH hi,p,rfl]
  .have(v,d,f):=m.sl j k w (t j k w e b);show#[v,(n j b).trans d,f]
 .have(PB,a1):=G l k1 Q Y d;have(QD,a2):=G h k2 T h2 f;show ok.inj l h k1 k2 Q T g Y h2 a1 a2 ((n l PB).symm.trans e3) ((n h QD).symm.trans e4)
 .by_cases b:j=i
  .subst b;rw[hH B]at d;cases d;have r:(c.σ.set j (bD (.ref p)))[j]?≈bD (.ref g):=f;rw[hH hi]at r;cases r;change cw C c.S (upd c.H p (.dK [])) p (if j=j then [] else c.kid j) (.J' [] []);rw[if_pos rfl];show#[[],av,rfl,rfl,by simp,λa ha=>by rw[nc.mp ha];show#[q2,q3,q1],rfl]
  .have J:=t j _ w d b;have z:=m.dd.kd j w g J ((n j b).symm.trans f);change cw C c.S (upd c.H p (.dK [])) g (if j=i then [] else c.kid j) w;rw[if_neg b];show z
 .rcases q l a L with⟨_,u⟩|⟨rfl,rfl⟩
  .rcases q h a s with⟨_,N⟩|⟨rfl,rfl⟩
   .show ok.dd.dj l h a u N
   .show(A (.inr #[l,u])).elim
  .rcases q h a s with⟨_,N⟩|⟨rfl,_⟩
   .show(A (.inr #[h,N])).elim
   .rfl
 .rcases q j a L with⟨_,u⟩|⟨rfl,rfl⟩
  .show ok.dd.d1 j a u (b1 a s)
  .show A (.inl (b1 a s))
 .rcases z with z|⟨j,z⟩
  .show .inl (.inl (b1 a z))
  .rcases q j a z with⟨_,y⟩|⟨_,rfl⟩
   .show .inl (.inr #[j,y])
   .show .inr x
theorem dO.rep{S S'}(hs:∀a,S a->S' a):∀{us}{as},(∀a∈as,S' a)->dO C S H us as->ai C S' H us (as.map V.ref)
 |[],as,_,h=>by cases h;rfl
 |u::us,as,c,h=>by
  have(a,as',i,vs,rfl,rfl,d,e,f):=h;show#[_,_,rfl,#[a,vs,rfl,.inl #[c a ⋯,.inl d],e.mv (.up hs)],dO.rep hs (λb g=>c b (by simp[g])) f]
def Ok.Km(ok:Ok C c)(n:Nx c0 c)(B:∃ks us,u=.J' ks us)(hi:c.st[i]?≈bD (.F',u))(p:c.σ[i]?≈bD (.ref r)):
  Ok C {c with S:=λa=>c.S a\/a∈c.kid i,st:=c.st.set i (bD (.own,u))}/\Nx c0 {c with S:=λa=>c.S a\/a∈c.kid i,st:=c.st.set i (bD (.own,u))}:=by
 have O:i<⇑c.st:=(eH.mp hi).1;have(ks,us,B):=B;have Q:=ok.dd.kd i u r hi p;have fr:=cw.XD (B▸Q);have mem:∀a,(a=r\/a∈c.kid i)->c.RD i a:=λa z=>#[u,r,hi,p,z]
 have up:Mv c.S c.H (λa=>c.S a\/a∈c.kid i) c.H:=.up λa=>.inl;have T:Mv (PS C c.S) c.H (PS C λa=>c.S a\/a∈c.kid i) c.H:=.up λa z=>z.imp id .inl;have Yd:r∉c.kid i/\dX C (λa=>c.S a\/a∈c.kid i) c.H r u:=by
  subst B;have(kvs,D,G,h3,h4,h5,h6):=Q;show#[(qb.mp h4).1,kvs,D,G,?_];rw[h3];show h6.rep (λa=>.inl) λa I=>.inr I
 have m:∀(j:Nat) k w,(c.st.set i (bD (.own,u)))[j]?≈bD (k,w)->j≠i->c.st[j]?≈bD (k,w):=λj k w e ne=>by rw[mx (ve ne)]at e;show e
 have b1:∀a,({c with S:=λa=>c.S a\/a∈c.kid i,st:=c.st.set i (bD (.own,u))}:Cf).R1 a->c.R1 a\/a=r:=λa Y=>by
  have(j,k,w,hk,d,f):=Y;by_cases b:j=i
  .subst b;have NQ:c.σ[j]?≈bD (.ref a):=f;rw[p]at NQ;cases NQ;show .inr rfl
  .show .inl #[j,k,w,hk,m j k w d b,f]
 have s:∀j a,({c with S:=λa=>c.S a\/a∈c.kid i,st:=c.st.set i (bD (.own,u))}:Cf).RD j a->j≠i/\c.RD j a:=λj a Y=>by
  have(w,g,d,f,t):=Y;by_cases b:j=i
  .subst b;rw[hH O]at d;cases d
  .show#[b,w,g,m j _ w d b,f,t]
 show#[#[ok.same,λa z=>?_,ok.par,ok.io,by simp[ok.len],λj k w e=>?_,λl h k1 k2 J L g D G d f t e4=>?_,#[λj w g d f=>?_,λl h a x z2=>ok.dd.dj l h a (s l a x).2 (s h a z2).2,λj a x z2=>?_]],#[#[n.keep,n.there,λa z=>?_,λa z=>.inl (n.sub a z),λa z=>?_],λa ⟨j,z⟩=>n.dk a #[j,(s j a z).2]]]
 .rcases z with z|z
  .show ok.NJ a z
  .have(o,ho,_):=cw.there Q a (ke _ z);show#[(fr a (ke _ z)).2.2,o,ho]
 .by_cases b:j=i
  .subst b;rw[hH O]at e;cases e;have(q1,q2,q3):=fr r (kj ..);show#[.ref r,p,r,rfl,λz=>z.elim q1 Yd.1,q2,q3,Yd.2]
  .have(v,d,f):=ok.sl j k w (m j k w e b);show#[v,d,f.mv up T λhk g er=>?_];have(R6,Ng,x,_):=f.rt hk;rw[er]at Ng;cases Ng;show#[λz=>z.elim x λz=>ok.dd.d1 i g (mem g (.inr z)) #[j,k,w,hk,m j k w e b,by rw[d,er]],λo q=>q]
 .by_cases N:l=i
  .by_cases A:h=i
   .rw[N,A]
   .subst N;have Qm:c.σ[l]?≈bD (.ref g):=t;rw[p]at Qm;cases Qm;show(ok.dd.d1 l r (mem r (.inl rfl)) #[h,k2,L,G,m h k2 L f A,e4]).elim
  .by_cases A:h=i
   .subst A;have Z6:c.σ[h]?≈bD (.ref g):=e4;rw[p]at Z6;cases Z6;show(ok.dd.d1 h r (mem r (.inl rfl)) #[l,k1,J,D,m l k1 J d N,t]).elim
   .show ok.inj l h k1 k2 J L g D G (m l k1 J d N) (m h k2 L f A) t e4
 .by_cases b:j=i
  .subst b;rw[hH O]at d;cases d
  .have M6:=m j _ w d b;show cw.mv up (λa I=>#[λz=>z.elim (ok.root (.inr #[j,w,g,M6,f,f6.mp I])).1 λz=>b (ok.dd.dj j i a #[w,g,M6,f,f6.mp I] (mem a (.inr z))),λo q=>q]) (ok.dd.kd j w g M6 f)
 .have(b,y):=s j a x;rcases b1 a z2 with z|z
  .show ok.dd.d1 j a y z
  .subst z;show b (ok.dd.dj j i a y (mem a (.inl rfl)))
 .rcases z with z|⟨j,z⟩
  .rcases b1 a z with z|rfl
   .show n.roots a (.inl z)
   .show n.roots a (.inr #[i,mem a (.inl rfl)])
  .show n.roots a (.inr #[j,(s j a z).2])
 .rcases z with z|z
  .show n.new a z
  .rcases n.roots a (.inr #[i,mem a (.inr z)]) with y|y
   .show .inr (.inl y)
   .show .inr (.inr y)
def E2(d:X.N[i]?≈x)(f:N5 X.env.scope x)(g:(x==("__debug__":Str))=cK)(j:(x==("__classdict__":Str))=cK):PE X (.Name x pos) (Md C (Bj i)):=by
 have k:=rh (C:=C) (pos:=pos) d f g j;rintro b s σ H Q I ⟨c0,rfl,rfl,ok,r,st',e,h⟩;unfold Bj at e;split at e
 .rename_i ks us hs;cases e;have(v,c,o,rfl):=ok.sl i _ _ hs;have(l,m):=ok.Km (Nx.refl c0) #[_,_,rfl] hs c;have n:=(eH.mp hs).1;show cR d f g j b s _ c0.H Q I #[_,c,h {c0 with S:=λa=>c0.S a\/a∈c0.kid i,st:=c0.st.set i _} _ rfl rfl l m ⟨⟨.own,rfl,hH n⟩,c⟩]
 .show k b s _ c0.H Q I #[c0,rfl,rfl,ok,r,st',e,h]
def ip{st}(h:W (jI i) st Q):∃ks us,st[i]?≈bD (.F',.J' ks us)/\Q (ks,us) st:=by
 have(r,st',e,q):=h;unfold jI at e;split at e
 .rename_i ks us hs;cases e;show#[ks,us,hs,q]
 .cases e
def iq{st}(h:W (lM x) st Q):∃y,x.2=.str y/\Q y st:=by
 unfold lM at h;split at h
 .rename_i y e;rw[ak]at h;show#[y,e,h]
 .show(bF.mp h).elim
inductive Z7(C:Ct)(c:Cf)(i:Nat)(ks:↑Str)(us:↑U):Prop
 |mk:∀(r:k7) (kvs:↑(Key×V)),c.σ[i]?≈bD (.ref r)->c.H r≈.dK kvs->kvs.map (·.1)=ks.map mA->kvs.map (·.2)=(c.kid i).map V.ref->(r::c.kid i).Nodup->dO C c.S c.H us (c.kid i)->(∀y:Str,(eF kvs (mA y)).isSome=dV (y∈ks))->(∀(y:Str) (u:U),cu ks us y≈u->∃v,eF kvs (mA y)≈v/\Rep C (λa=>c.S a\/a∈c.kid i) c.H u v)->Z7 C c i ks us
def Ok.J'(ok:Ok C c)(hi:c.st[i]?≈bD (.F',.J' ks us)):Z7 C c i ks us:=by
 have(v,e,r,rfl):=ok.sl i _ _ hi;have(kvs,h,b,d,j,l,f):=ok.dd.kd i _ r hi e;have g:ai C (λa=>c.S a\/a∈c.kid i) c.H us (kvs.map (·.2)):=by rw[d];show f.rep (λa=>.inl) λa k=>.inr k
 show#[r,kvs,e,h,b,d,j,f,λy=>(cH  b g).2,λy=>(cH  b g).1]
def tX{k:Str->↑Str×↑U->M β}{b}{Z:V->V->Hp->Prop}(ok:Ok C c0)(h:W (l >>= λx=>lM x >>= λy=>jI i >>= λd=>k y d) c0.st b)
  (hz:∀c y ks us r kvs,c.σ=c0.σ->Ok C c->Nx c0 c->c.H r≈.dK kvs->(eF kvs (mA y)).isSome=dV (y∈ks)->W (k y (ks,us)) c.st b->Z (.str y) (.ref r) c.H) :
  Md C l c0.σ c0.H λv m=>∃f,c0.σ[i]?≈bD f/\Z v f m:=by
 show#[c0,rfl,rfl,ok,?_];rw[ah]at h;show W.mono h λx st' w c v g hs a n r=>?_;subst hs;have(t,u):=x;rw[ah]at w;have(y,e,j):=iq w;clear w;subst e;have ev:=r.str a;subst ev;rw[ah]at j;have(ks,us,hs,w):=ip j;have(o,kvs,p,q,_,_,_,_,s,_):=a.J' hs;show#[_,by rw[<-g];show p,hz c y ks us o kvs g a n q (s y) w]
abbrev IB(neg:Bool):CmpOp:=if neg=cb then .NotIn else .In
def IC(c:∀j,d j=cb->j≠i)(f:X.N.Nodup)(hi:X.N[i]?≈x)(g:Loc X.env.scope x)(k:X.fn x=cb\/X.env.scope.names.lookup x≈.local)
  (hs:Xl (.Dict [] [] p) (bD (.Name x a)) pos.line X.env=pure cK):L2.PS X (.Assign [.Name x a] (.Dict [] [] p) pos) (Na C d (Gh i >>= λ_=>pure .nx)):=by
 rintro b s σ H D I ⟨c0,rfl,rfl,ok,h⟩;have l:i<⇑c0.σ:=by rw[I.len];show(eH.mp hi).1
 show Ad f hi g sJ hs k b s _ c0.H D I λq m=>?_;have(n,o):=ok.newD m l;rw[ah]at h;have(_,st',e,w):=h;cases e;rw[ak]at w;show w _ rfl n o #[λj r=>mx (ve (c j r)),by simp]
def E3(v:X.A.units+60<MJ)(l:X.N[i]?≈x)(m:N5 X.env.scope x)(o:(x==("__debug__":Str))=cK)(p:(x==("__classdict__":Str))=cK)(q:PE X a (Md C u))(t:Xx (IB neg) (.Name x p2)=cK):
  PT X (.Compare a [IB neg] [.Name x p2] pos) (Np C (u >>= λx=>lM x >>= λy=>jI i >>= λd=>pure (XF neg y d.1))):=by
 rintro b s σ H Q I ⟨c0,rfl,rfl,ok,h⟩;cases neg with
 |false =>
  show zZ (Hh ⋯ q (cR l m o p)) t b s _ c0.H Q I (tX  ok h λc y ks us r kvs e f n g j w=>?_);rw[ak]at w;show#[r,_,rfl,fm.k (k:=mA y) g,?_];rw[j];show#[_,rfl,w c e rfl f n]
 |true =>
  show zZ (yT ⋯ q (cR l m o p)) t b s _ c0.H Q I (tX  ok h λc y ks us r kvs e f n g j w=>?_);rw[ak]at w;show#[r,_,rfl,fm.k (k:=mA y) g,?_];rw[j];show#[_,rfl,w c e rfl f n]
theorem dO.snoc{S}{a}(b:H a≈.lst vs)(c:ai C S H d vs):∀{us}{as},dO C S H us as->dO C S H (us++[.lst d]) (as++[a])
 |[],as,h=>by cases h;show#[a,[],d,vs,rfl,rfl,b,c,rfl]
 |u::us,as,h=>by
  have(a',as',f,g,rfl,e,i,j,k):=h;show#[a',_,f,g,rfl,e,i,j,dO.snoc b c k]
def vq{st}(h:W (nL i y r) st Q):∃us ks vs,r=(.own,.lst us)/\st[i]?≈bD (.F',.J' ks vs)/\y∉ks/\⇑ks<dt/\Q () (st.set i (bD (.F',.J' (ks++[y]) (vs++[.lst us])))):=by
 have(k,u):=r;cases k<;>cases u<;>first|show(bF.mp h).elim|skip
 rename_i us;have(_,st',e,q):=h;unfold nL at e
 dsimp only at e
 split at e
 .rename_i ks vs hs;split at e
  .rename_i hz;cases e;show#[us,ks,vs,rfl,hs,hz.1,hz.2,q]
  .cases e
 .cases e
def ID{i}{x}{j}(hu:X.A.units+60<MJ)(hN:X.N[i]?≈x)(hv:N5 X.env.scope x)(hd:(x==("__debug__":Str))=cK)(MO:(x==("__classdict__":Str))=cK)
  (ha:PE X a (Md C ma)) (B:PE X b (Md C mb)) (hs:Za [.Subscript (.Name x j) b p] a pos.line X.env=pure cK) (QR:ð [.Subscript (.Name x j) b p] a X.env=pure b6)
  (has:∀v,YA (.Subscript (.Name x j) b p) X.env v=(do
   let n <-Sm [v] (K1 (.Name x j) X.env)
   let G <-Sm [v,n] (K1 b X.env)
   İ p
   Sm [v,n,G] (Z_ n G v)
   ą [v,n,G] [])) :
  L2.PS X (.Assign [.Subscript (.Name x j) b p] a pos) (Na C ns (ma >>= λr=>jI i >>= λ_=>mb >>= λx=>lM x >>= λy=>nL i y r >>= λ_=>pure .nx)):=by
 show PS.weak (uO ha (Ac (cR hN hv hd MO) B (set_dict (X:=X) ⋯) has) hs QR rfl) ?_;rintro D σ H ⟨c0,rfl,rfl,ok,h⟩;show aZ ok h λr c v t w=>?_;rw[ah]at w;have(Rh,Yf,Nu,w):=ip w;have(O,Sd,Q,g0,_):=t.ok.J' Nu;show#[.ref O,by rw[<-t.hσ];show Q,?_];rw[ah]at w;show#[c,t.hσ,rfl,t.ok,w.mono λy st2 T I vy s e4 u Y r2=>?_];subst e4;rw[ah]at T;have(ky,uy):=y;have(y,ey,w3):=iq T
 dsimp only at ey r2
 subst ey;have ev:vy=.str y:=r2.str u;subst ev;rw[ah]at w3;have(us,ks,vs,J,f,Vb,l,q):=vq w3;subst J;rw[ak]at q;have(m,kvs,d,g1,g2,g3,g4,g5,g6,_):=u.J' f;have J:m=O:=by rw[s,<-t.hσ,Q]at d;cases d;rfl
 subst J;have(g,rfl,k1,k2,k3,MD,k4,k5):=t.rx.w.on t.ok Y.toNs (s.trans t.hσ.symm);have Ya:=t.nx.trans Y;have hl:⇑kvs=⇑ks:=by have:=congrArg K2 g2;simpa using this
 have P_:eF kvs (mA y)=b6:=by
  have:=g6 y;rw[decide_eq_false Vb]at this;cases hq:eF kvs (mA y) with
  |none=>rfl
  |some _=>rw[hq]at this;cases this
 show#[m,_,rfl,yR.k (k:=mA y) g1 (by rw[hl];show l),?_];rw[Am _ P_];have Yd:g∉I.kid i:=λz=>k3 (.inr #[i,_,_,f,d,.inr z]);have L:g≠m:=λz=>k3 (.inr #[i,_,_,f,d,.inl z]);have rd:=u.dd.kd i _ _ f d;have fr:=cw.XD rd;have(OB,n3):=Ok.Kl (H':=upd I.H m (.dK (kvs++[(mA y,.ref g)]))) (u':=.J' (ks++[y]) (vs++[.lst us])) (as':=I.kid i++[g]) u Ya.toNs f d
  (λa ne=>aj λz=>ne #[_,_,f,d,.inl z]) (λa o e=>by
   by_cases hz:a=m
   .subst hz;show#[_,av]
   .rw[aj hz];show#[o,e])
  (λmv=>by
   show#[_,av,by simp_all,by rw[mh,g3,mh];rfl,?_,λa ha=>?_,?_]
   .rw[<-ö,pb];show#[g4,by simp,λa ha b B=>by
     have:b=g:=by simpa using B
     subst this;rintro rfl;simp_all]
   .rw[<-ö]at ha;rcases ki.mp ha with ha|ha
    .show fr a ha
    .have:a=g:=by simpa using ha
     subst this;have(z1,_,z3,_):=ok.kh k1;show#[k2,z3,z1]
   .show dO.snoc (by rw[aj L];show k4) (k5.mv mv) (dO.mv mv (λa ha o e=>by
     rw[aj (λz=>(qb.mp g4).1 (by rw[<-z];show ha))];show e) g5))
  (λa ha=>by
   rcases ki.mp ha with ha|ha
   .show .inl ha
   simp_all)
 have z:=q _ rfl OB n3 (Kept.of s);rw[<-s];show z
theorem dO.at{S}:∀{ks}{us}{as}{kvs:↑(Key×V)}{u},kvs.map (·.1)=ks.map mA->kvs.map (·.2)=as.map V.ref->as.Nodup->dO C S H us as->cu ks us y≈u ->
  ∃a ws f,eF kvs (mA y)≈.ref a/\a∈as/\u=.lst f/\H a≈.lst ws/\ai C S H f ws/\∀H' c d,Mv S H S H'->H' a≈.lst d->ai C S H' c d->(∀b∈as,b≠a->H' b=H b)->dO C S H' (kl ks us y (.lst c)) as
 |[],us,as,kvs,u,_,_,_,_,h=>by cases us<;>cases h
 |k::ks,[],as,kvs,u,_,_,_,_,h=>by cases h
 |k::ks,Q::us,as,kvs,u,g,n,i,hk,h=>by
  have(a,as',f,ws,rfl,rfl,w,x,A):=hk;cases kvs with
  |nil=>simp at g
  |cons p kvs =>
   rw[gr,gr,UC]at g n;rw[qb]at i;by_cases q:k=y
   .subst q;simp only[cu]at h;cases h;show#[a,ws,f,by rw[fi g.1,n.1],by simp,rfl,w,x,λH' c d j r s l=>?_];simp only[kl];show#[a,as',c,d,rfl,rfl,r,s,dO.mv j (λb m o e=>by rw[l b (by simp[m]) (λz=>i.1 (z▸m))];show e) A]
   .simp only[cu,if_neg q]at h;have(B,t,v,G,D,I,J,L,N):=dO.at g.2 n.2 i.2 A h;show#[B,t,v,?_,by simp[D],I,J,L,λH' c d j r s l=>?_]
    .rw[fj ⋯];show G
    .simp only[kl,if_neg q];have O:a≠B:=λz=>i.1 (z▸D);show#[a,as',f,ws,rfl,rfl,by rw[l a ⋯ O];show w,x.mv j,N H' c d j r s λb m=>l b (by simp[m])]
def vt{st}(h:W (nM i y u) st Q):∃ks vs xs,st[i]?≈bD (.F',.J' ks vs)/\cu ks vs y≈.lst xs/\⇑xs<dt/\Q () (st.set i (bD (.F',.J' ks (kl ks vs y (.lst (xs++[u])))))):=by
 have(_,st',e,q):=h;unfold nM at e;split at e
 .rename_i ks vs hs;split at e
  .rename_i xs a;split at e
   .rename_i hz;cases e;show#[ks,vs,xs,hs,a,hz,q]
   .cases e
  .cases e
 .cases e
abbrev BH(C:Ct)(m:M (Kd×U)):TE:=λσ H Q=>∃c0:Cf,c0.σ=σ/\c0.H=H/\Ok C c0/\W m c0.st λr st'=>∀c v,c.σ=σ->c.st=st'->Ok C c->Nx c0 c->(∀a o,c0.H a≈o->c.H a≈o)->aW C c0 c r.1 r.2 v->Q v c.H
def zt(ok:Ok C c0)(h:W (b >>= k) c0.st d)
  (hz:∀x c v,QL C c0 c x v->(∀a o,c0.H a≈o->c.H a≈o)->W (k x) c.st d->Z v c.H):BH C b c0.σ c0.H Z:=by
 rw[ah]at h;show#[c0,rfl,rfl,ok,h.mono λx st1 m c1 e f n g i j l=>hz x c1 e #[f,g,i,l] j ⋯]
def BI(c:X.N[i]?≈x)(d:N5 X.env.scope x)(f:(x==("__debug__":Str))=cK)(g:(x==("__classdict__":Str))=cK):PE X (.Name x pos) (BH C (dY i)):=by
 show PE.weak (cR c d f g) ?_;rintro σ H Q ⟨c0,rfl,rfl,ok,r,st',e,h⟩;unfold dY at e;split at e
 .cases e
 .rename_i k u l hs;cases e;have(v,b,a):=ok.sl i k u hs;show#[v,b,h c0 v rfl rfl ok (Nx.refl c0) (λ_ _ z=>z) ?_];by_cases hk:k.root=cb
  .rw[if_pos hk];show#[#[k,hk,hs],b]
  .cases k with
   |loc=>show a
   |any=>show a
   |bor j=>show a.elim
   |F'=>show(l rfl).elim
   |_=>show absurd rfl hk
 .cases e
def jN(h:PE X e (tC v))(r:∀S H,Rep C S H u v):PE X e (BH C (pure (.loc,u))):=by
 show PE.weak h ?_;rintro σ H Q ⟨c0,rfl,rfl,ok,h⟩;rw[ak]at h;show h c0 v rfl rfl ok (Nx.refl c0) (λ_ _ z=>z) (r _ _)
def IE(hK:C.K=X.K)(hu:X.A.units+60<MJ)(hN:X.N[i]?≈x)(hv:N5 X.env.scope x)(hd:(x==("__debug__":Str))=cK)(MO:(x==("__classdict__":Str))=cK)(G:PE X a (Md C ma))(hb:PE X b (Md C mb))(Oc:Hg b)
  (Nf:((RN I (mn [a] X.env)).all (λx=>!x.1)&&(XO I (TV [] X.env)).all (λx=>x.1.isSome)
   && dV ([a].length+⇑([]:↑Uw)+(if ([]:↑Uw).isEmpty then 0 else 1)<30))=cb)
  (Mk:(j.endLine==I.line)=cb) (L8:mn [a] X.env=[(cK,K1 a X.env)]) :
  L2.PS X (.Expr (.Call (.Attribute (.Subscript (.Name x px) b p) "append" j) [a] [] I) pos) (Na C ns (jI i >>= λ_=>mb >>= λx=>lM x >>= λy=>jI i >>= λd=>if y∈d.1 then(ma >>= λr=>lift r >>= λu=>nM i y u >>= λ_=>pure .nx) else M.fail)):=by
 show PS.weak (lR (Ak F.plainAttrs_list F.slot_list_append F.type_list_append pv (DU ⋯ (cR hN hv hd MO) hb Oc) (hJ G mK L8) rfl Nf Mk L8 rfl)) ?_;rintro D σ H ⟨c0,rfl,rfl,ok,h⟩;rw[ah]at h;have(Rh,Yf,Nu,h):=ip h;have(r0,Sd,J,g0,_):=ok.J' Nu;show#[.ref r0,J,?_];show aZ ok h λry c vy t w=>?_;rw[ah]at w;have(ky,uy):=ry;have(y,ey,w1):=iq w
 dsimp only at ey
 subst ey;have ev:vy=.str y:=t.rx.str t.ok;subst ev;rw[ah]at w1;have(ks,us,hs,l):=ip w1
 dsimp only at l
 by_cases L:y∈ks
 case neg=>rw[if_neg L]at l;show(bF.mp l).elim
 rw[if_pos L]at l;have(O,kvs,f1,g1,g2,g3,g4,g5,g6,_):=t.ok.J' hs;have Q:O=r0:=by rw[t.hσ,J]at f1;cases f1;rfl
 subst Q;have Ri:=g6 y;rw[decide_eq_true L]at Ri;have(v0,s):=Yc.mp Ri;have M3:v0∈(c.kid i).map V.ref:=by
  rw[<-g3];unfold eF at s;have(q,hq,rfl):=eu.mp s;show Xs (List.mem_of_find?_eq_some hq)
 have(f,T,rfl):=hW.mp M3;have(Y,Yg):=g5.mem T;show#[O,.ref f,rfl,by rw[<-s];show fm.k (k:=mA y) g1,Or.inl #[rfl,Y,.inl (.inl Yg)],?_];rw[<-t.hσ];show aZ t.ok l λr g v t' w3=>?_;rw[ah]at w3;have(S',st',u,sS,Mh,n1,m,w4,_,_):=jJ t.ok t'.ok t'.nx t'.rx.w w3;rw[ah]at w4;have(S_,MD,xs,n,hx,hz,q):=vt w4;rw[ak]at q;have(B,Se,k1,k2,k3,k4,k5,k6,_,_):=Mh.J' n;have Z8:g.σ[i]?≈bD (.ref B):=k1;have Q:B=O:=by rw[t'.hσ,t.hσ,J]at Z8;cases Z8;rfl
 subst Q;have ac:g.H B≈.dK Se:=k2;have Yh:Se=kvs:=by have:=(n1.dk _ #[i,_,_,n,k1,.inl rfl]).2 _ g1;rw[show _=_ from k2]at this;cases this;rfl
 subst Yh;have nd:=(qb.mp k5).2;have(a2,ws,ys,l1,l2,l3,l4,l5,l6):=dO.at k3 k4 nd k6 hx;cases l3;rw[s]at l1;cases l1;have ab:g.H f≈.lst ws:=l4;show#[f,ws,v,rfl,rfl,ab,by rw[<-l5.len];show hz,?_];have MF:f≠B:=λz=>(qb.mp k5).1 (z▸l2);have(Ms,n2):=Ok.Kl (c:={g with S:=S',st:=st' }) (H':=upd g.H f (.lst (ws++[v]))) (u':=.J' S_ (kl S_ MD y (.lst (xs++[u])))) (as':=g.kid i) Mh (t.nx.trans n1).toNs n k1
  (λa ne=>aj λz=>ne #[_,_,n,k1,.inr (z▸l2)]) (λa o e=>by
   by_cases hz:a=f
   .subst hz;show#[_,av]
   .rw[aj hz];show#[o,e])
  (λmv=>#[Se,by rw[aj (ve MF)];show k2,k3,k4,k5,cw.XD (Mh.dd.kd i _ _ n k1),l6 _ _ _ mv av ((l5.mv mv).snoc (m.mv mv)) λb _ ne=>aj ne])
  (λa G=>.inl G)
 have z:=q _ rfl Ms n2 (Kept.of (t'.hσ.trans t.hσ));rw[<-t'.hσ];show z
def BJ{st}(h:W (XG u) st Q):∃ks us,u=.J' ks us/\Q () st:=by
 cases u<;>first|show(bF.mp h).elim|skip
 show#[_,_,rfl,ak.mp h]
def pT{st}(h:W (zk x) st Q):∃j,x.2=.int j/\Q j st:=by
 unfold zk at h;split at h
 .rename_i y e;rw[ak]at h;show#[y,e,h]
 .show(bF.mp h).elim
def pU{st}(h:W (tP i) st Q):∃k us,k.root=cb/\st[i]?≈bD (k,.lst us)/\Q us st:=by
 have(r,st',e,q):=h;unfold tP at e;split at e
 .rename_i k us hs;split at e
  .rename_i hk;cases e;show#[k,_,hk,hs,q]
  .cases e
 .cases e
theorem tY:∀{ks}{us},y∈ks->⇑ks=⇑us->cu ks us y=b6->False
 |[],us,h,_,_=>by cases h
 |k::ks,[],_,h,_=>by simp at h
 |k::ks,u::us,h,hl,e=>by
  by_cases hk:k=y
  .simp[cu,hk]at e
  .simp only[cu,if_neg hk]at e;rcases f6.mp h with h|h
   .show hk h.symm
   .show tY h (by simpa using hl) e
def BK{i}{x}{G}(hu:X.A.units+60<MJ)(hN:X.N[i]?≈x)(hv:N5 X.env.scope x)(hd:(x==("__debug__":Str))=cK)(MO:(x==("__classdict__":Str))=cK)
  (ha:PE X a (Md C ma)) (hb:PE X b (Md C mb)) (hm:M2 X (.Name x G) "get" e a b A') :
  PE X (.Call (.Attribute (.Name x G) "get" e) [a,b] [] A') (Md C (dY i >>= λx=>XG x.2 >>= λ_=>ma >>= λy=>lM y >>= λy=>mb >>= λz=>lift z >>= λu=>dY i >>= λx=>M.Mw (Ey x y u))):=by
 rintro f s σ H Q I ⟨c0,rfl,rfl,ok,h⟩;show Ap ⋯ (cR hN hv hd MO) ha hb hm f s c0.σ c0.H Q I ?_;rw[ah]at h;have(k0,u0,Yi,Nu,h):=eB h;have(v0,J,t0):=ok.slot Yi Nu;rw[ah]at h;have(Rh,Yf,L,h'):=BJ h
 dsimp only at L
 subst L;have(p,Sd,rfl,g0,_):=t0.dict ok;show#[.ref p,J,p,rfl,.inl #[Sd,.inl g0],?_];show aZ ok h' λry c vy t w=>?_;rw[ah]at w;have(ky,uy):=ry;have(y,O,w1):=iq w
 dsimp only at O
 subst O;have ev:vy=.str y:=t.rx.str t.ok;subst ev;rw[<-t.hσ];show aZ t.ok w1 λz g vz j T=>?_;rw[ah]at T;have(S',st',u,sS,B,n1,l,Y,_,_):=jJ t.ok j.ok j.nx j.rx.w T;rw[ah]at Y;have(k,u1,D,NZ,w5):=eB Y;have(r,d,q):=bW.mp w5;have(v1,e1,t1):=B.slot D NZ;have M6:g.σ[i]?≈bD v1:=e1;rw[j.hσ,t.hσ,J]at M6;cases M6;cases u1<;>first|(simp only[Ey]at d;cases d;done)|skip
 rename_i ks us;have(a1,kvs,ea,g1,g2,g3):=t1.dict B;cases ea;have VD:g.H p≈.dK kvs:=g1;show#[_,fm.k (k:=mA y) VD,?_];simp only[Ey]at d;have(l1,l2):=cH (x:=y) g2 g3;have m:∀v:V,aW C c0 {g with S:=S',st:=st' } r.1 r.2 v->Q v g.H:=λv z=>q {g with S:=S',st:=st' } v (j.hσ.trans t.hσ) rfl B (t.nx.trans n1) z;cases o:cu ks us y with
 |some w =>
  rw[o]at d;cases d;have(v,ev,rv):=l1 w o;rw[ev];show m v ?_;show aW.item (k:=if k.root=cb then .bor i else k) rv
 |none =>
  rw[o]at d;cases d;have P_:eF kvs (mA y)=b6:=by
   cases hq:eF kvs (mA y) with
   |none=>rfl
   |some v =>
    exfalso
    rw[hq]at l2;have hy:y∈ks:=⋯
    have n:⇑ks=⇑us:=by have h1:=congrArg K2 g2;have h2:=g3.len;simp at h1 h2;lia
    show tY hy n o
  rw[P_];show m vz l
def BL:JA X (λo i H Q=>∃p xs j v,o=.ref p/\i=.int j/\H p≈.lst xs/\0<=j/\xs[j.toNat]?≈v/\Q v H):=by
 rintro a s σ H o i k l Q I c d ⟨p,xs,j,v,rfl,rfl,e,h0,b,q⟩;cases c;have(t,rfl):=d;have(its,r,f,hz):=I.list (.inl (.inl e));have(w,g,h):=r.get b;have m:=fV;have n:=(eH.mp b).1;show wpAny_getItem_list f.isList h0 ⋯ (by simpa using g) #[v,H,I,h,q]
def E4:UY X (if sub=cb then .Sub else .Add) (VZ (Bl sub)):=by
 cases sub with
 |true=>show GZ
 |false=>show GY
def Ko(hN:X.N[i]?≈x)(hv:N5 X.env.scope x)(hd:(x==("__debug__":Str))=cK)(MO:(x==("__classdict__":Str))=cK)
  (ha:PE X a (BH C ma)) (hb:PE X b (Md C mb))
  (has:∀g l new,augStore b g l new=(do Sm [new,g,l] (Z_ g l new);ą [new,g,l] [];pure .next)) :
  L2.PS X (.AugAssign (.Subscript (.Name x px) b p) (if sub=cb then .Sub else .Add) a pos) (Na C ns (tP i >>= λ_=>mb >>= λy=>zk y >>= λj=>tP i >>= λus=>M.Mw (tQ us j) >>= λo=>ma >>= λz=>zk z >>= λw=>modS i (d0 (.int j) (.int (Bl sub o w))) >>= λ_=>pure .nx)):=by
 show PS.weak (DG (cR hN hv hd MO) hb BL ha E4 set_list has) ?_;rintro D σ H ⟨c0,rfl,rfl,ok,h⟩;rw[ah]at h;have(k0,Yf,Ra,Nu,h):=pU h;have(v0,n,OZ):=ok.sl i _ _ Nu;have(e,rfl,_,_,_,_):=OZ.rt Ra;show#[.ref e,n,?_];show aZ ok h λry c vy t w=>?_;rw[ah]at w;have(ky,uy):=ry;have(j,I,J):=pT w
 dsimp only at I
 subst I;have ev:vy=.int j:=t.rx.int t.ok;subst ev;rw[ah]at J;have(k1,ab,Xe,NZ,L):=pU J;rw[ah]at L;have(o,ho,w3):=bW.mp L;have(v1,O,r):=t.ok.sl i _ _ NZ;have(a1,rfl,_,_,_,UD):=r.rt Xe;rw[t.hσ,n]at O;cases O;have(vs,Q,g2):=UD;unfold tQ at ho;split at ho
 case isFalse=>cases ho
 rename_i Py;split at ho
 case h_2=>cases ho
 rename_i o' Yj;cases ho;have(vo,s,u):=g2.get Yj;have v:vo=.int o:=u;subst v;show#[e,vs,j,_,rfl,rfl,Q,Py,s,?_];rw[<-t.hσ];show zt t.ok w3 λz A vz d all2 T=>?_;rw[ah]at T;have(kz,uz):=z;have(w,Y,w5):=pT T
 dsimp only at Y
 subst Y;have ev:vz=.int w:=d.rx.int d.ok;subst ev;show#[o,w,rfl,rfl,?_];rw[ah]at w5;have(k,u1,u2,hk,MZ,f,q):=il w5;rw[ak]at q;have(v2,B,XJ):=d.ok.sl i _ _ MZ;have(a2,rfl,_,_,_,UE):=XJ.rt hk;have G:=B;rw[d.hσ,t.hσ,n]at B;cases B;have VD:A.H e≈.lst vs:=all2 _ _ Q;cases u1 with
 |lst xs =>
  simp only[d0,eu]at f;have(m,Ww,rfl):=f;have(ac,l1,l2):=UE;rw[VD]at l1;cases l1;show#[e,vs,j,m,rfl,rfl,VD,by rw[<-l2.len];lia,?_];have(OB,n3):=Ok.mod (c:=A) (H':=upd A.H e (.lst (vs.set m (.int (Bl sub o w))))) (u':=.lst (xs.set m (.int (Bl sub o w)))) d.ok (t.nx.trans d.nx).toNs hk MZ G (λa ne=>aj ne) ⟨_,av⟩ λmv=>#[_,av,(l2.mv mv).set m rfl]
  have z:=q _ rfl OB n3 (Kept.of (d.hσ.trans t.hσ));rw[<-d.hσ];show z
 |J' ks vs=>simp[d0]at f
 |M9 ks=>simp[d0,rowOf]at f
 |_=>simp[d0]at f
def E5{ks:↑Str}(c:kvs.map (·.1)=ks.map mA)(d:kvs.map (·.2)=e.map V.int):kvs=(ks.zip e).map λp=>((mA p.1:Key),V.int p.2):=by
 induction kvs generalizing ks e with
 |nil =>
  simp_all
 |cons kv kvs f =>
  cases ks with
  |nil=>cases c
  |cons k ks =>
   cases e with
   |nil=>cases d
   |cons n e =>
    have(a,b):=kv;simp only[gr,UC]at c d;have(rfl,c):=c;have(rfl,d):=d;rw[f c d];rfl
theorem ai.of_map{S:k7->Prop}{f:α->U}{g:α->V}:∀{l:↑α},(∀x∈l,Rep C S H (f x) (g x))->ai C S H (l.map f) (l.map g)
 |[],_=>rfl
 |x::l,h=>#[g x,_,rfl,h x ⋯,ai.of_map λy a=>h y (by simp[a])]
def E6(hc:X.calm=cb)(hK:C.K=X.K)(hg:Gl X "sorted")(hm:X.mg "sorted"=b6)(hN:X.N[i]?≈x)(hv:N5 X.env.scope x)(hd:(x==("__debug__":Str))=cK)(MO:(x==("__classdict__":Str))=cK)(Mk:(b.endLine==m.line)=cb):
  PE X (.Call (.Name "sorted" p) [.Call (.Attribute (.Name x n) "items" b) [] [] m] [] pos) (Md C (dY i >>= λx=>M.Mw (Bh x.2))):=by
 rintro g s σ H Q I ⟨c0,rfl,rfl,ok,h⟩;show MI (c6 I hg hm (show I0 "sorted"≈.builtin "sorted" by decide +kernel) ?_ (by decide +kernel) (by decide +kernel));rw[ah]at h;have(k0,u0,Yi,Nu,h):=eB h;have(v0,e0,t0):=ok.slot Yi Nu;have(r,f,l):=bW.mp h
 dsimp only at f
 unfold Bh at f;split at f
 rotate_left
 .cases f
 rename_i ks us;rw[l']at f;have(c,en,f):=f;split at f
 rotate_left
 .cases f
 rename_i Yk;cases f;have(Ol,L_,G):=Yk;have(d,kvs,rfl,J,Ra,O):=t0.dict ok;rw[gP en]at O;have Yh:=E5 Ra (ai.ints O);subst Yh;have ek:((ks.zip c).map (·.1))=ks:=Δ ⋯;have k:(fx (gj X.prog X.w) X.A) (K1 (.Call (.Attribute (.Name x n) "items" b) [] [] m) X.env) (λv s1=>(fx (gj X.prog X.w) X.A) (TN (.builtin "sorted") [v]) (EP X g c0.σ Q) X.xe s1) X.xe s:=by
  show Wg rfl Mk (Mb (cR hN hv hd MO g s c0.σ c0.H (λv Y=>v=.ref d/\Y=c0.H) I ⟨_,e0,rfl,rfl⟩) λv s1 Yl=>?_);have(x1,Y,I1,r1,z1,z2):=Yl;subst z1 z2;cases(show v=gs d from r1);have(h1,h2):=qC (T:="dict") I1 (x:=.ref d) rfl (.inr (.inr (.inl #[rfl,.inl #[_,J]])));show#["dict","dict.items",F.plainAttrs_dict,F.slot_dict_items,F.type_dict_items,h1,h2,MH rfl (PySem.evalArgs_none (q9 hc I1 J (by rw[ek];show L_) (by rw[Zf];lia) λas L hl nd Qd hL=>?_))];have q:c0.H L=b6:=Qd L ⋯;have t:(as.zip ((ks.zip c).map Qk)).map (·.1)=as:=Δ (by rw[df];lia);have u:∀p∈as.zip ((ks.zip c).map Qk),p.1∈as:=λp B=>(W9 B).1;have same:Hc c0.H (upd (lK c0.H (as.zip ((ks.zip c).map Qk))) L (.lst ((dz ((ks.zip c).map (·.1))).map λi=>V.ref (as.getD i 0)))):=λa o e=>by
   have n1:a≠L:=λy=>by rw[y,q]at e;cases e
   rw[aj n1,nj λp B y=>?_]
   .show e
   .have:=Qd p.1 (by simp[u p B]);rw[y,e]at this;cases this
  have(Mj,n'):=ok.grow (S':=c0.S) same (λa z=>.inl z) λa z=>z;have(q1,q2,q3,q4,q5):=ok.kh q;show l {c0 with H:=upd (lK c0.H (as.zip ((ks.zip c).map Qk))) L (.lst ((dz ((ks.zip c).map (·.1))).map λi=>V.ref (as.getD i 0))),S:=c0.S} _ rfl rfl Mj n' ⟨L,rfl,q,q2,q5,_,av,?_⟩;change ai C c0.S _ ((Ew (ks.zip c)).map zi) _;unfold Ew;rw[fR];show ai.of_map λj hj=>?_;have Ww:j<⇑(ks.zip c):=by
   have:=tj.mp ((bS _).mem_iff.mp hj);rw[df]at this;show this
  have Xj:j<⇑as:=⋯
  have e1:(ks.zip c).getD j (rr,0)=(ks.zip c)[j]:=(Ō _).symm;have e2:as.getD j 0=as[j]:=by simp[Ry,Xj]
  change Rep C c0.S _ (zi ((ks.zip c).getD j (rr,0))) (V.ref (as.getD j 0));rw[e1,e2];show#[as[j],Qk (ks.zip c)[j],rfl,MA.of ?_,#[_,_,rfl,rfl,_,_,rfl,rfl,rfl]];have MF:as[j]≠L:=λy=>hL (by rw[<-y];simp);show(aj MF).trans (w_ (by rw[t];show nd) (vs:=Qk (ks.zip c)[j]) ?_);show Qj.mpr #[j,by rw[Zf,df];lia,?_];simp
 have eb:RN pos (mn [.Call (.Attribute (.Name x n) "items" b) [] [] m] X.env)=[(cK,K1 (.Call (.Attribute (.Name x n) "items" b) [] [] m) X.env)]:=rfl;have D:XO pos (TV [] X.env)=[]:=rfl;rw[eb,D];show rn k
def xA(f:X.calm=cb)(g:C.K=X.K)(i:Gl X "set")(j:X.mg "set"=b6)(m:PE X a (Md C n))(hs:mn [a] X.env=[(cK,K1 a X.env)])(I:Inv X b c0.σ c0.H s)(ok:Ok C c0)
  (h:W (n >>= λx=>M.Mw (iC x.2) >>= k) c0.st r)
  (u:∀S o s1 D c,c.σ=c0.σ->Ok C c->Nx c0 c->s1.heap.get? S≈o->ba X.prog X.w s1.heap S (aJ X.w) D->Inv X ((S,o)::b) c.σ c.H s1->W (k D) c.st r->(∀q∈b,q.1≠S)->Q (.ref S) s1) :
  (fx (gj X.prog X.w) X.A) (K1 (.Call (.Name "set" p) [a] [] pos) X.env) Q X.xe s:=by
 show MI (c6 I i j (show I0 _≈.type "set" by decide +kernel) ?_ (by decide +kernel) (by rfl));have y:RN pos (mn [a] X.env)=[(cK,K1 a X.env)]:=by rw[hs];rfl
 rw[y];show xw (one m I ok h λx c T v Y t d rv w=>?_);rw[ah]at w;have(D,e,w):=bW.mp w;have(l,ys,rfl,B,G,rfl):=ku g t.ok t.rx e;cases rv;show u_ f d B G λS o s1 hsz J L N=>u S o s1 _ c t.hσ t.ok t.nx J L N w λq O z=>by
  have:=fz (d.pin q (p6 _ O)).1;rw[z]at this;show absurd (lg this hsz) (uk _)
def E7(t:X.calm=cb)(O:C.K=X.K)(T:Gl X (if ln=cb then "len" else "sorted"))(Y:X.mg (if ln=cb then "len" else "sorted")=b6)(hg:Gl X "set")(hm:X.mg "set"=b6)(ha:PE X a (Md C ma))(hb:PE X b (Md C mb))(u:mn [a] X.env=[(cK,K1 a X.env)])(OR:mn [b] X.env=[(cK,K1 b X.env)]):
  PE X (.Call (.Name (if ln=cb then "len" else "sorted") p) [.BinOp (.Call (.Name "set" p1) [a] [] UG) .Sub (.Call (.Name "set" p2) [b] [] pos2) g] [] pos)
   (Md C (ma >>= λx=>M.Mw (iC x.2) >>= λd1=>mb >>= λy=>M.Mw (iC y.2) >>= λd2=>M.Mw (tM ln d1 d2))):=by
 rintro i s σ H Q I ⟨c0,rfl,rfl,ok,h⟩;have d:(fx (gj X.prog X.w) X.A) (K1 (.BinOp (.Call (.Name "set" p1) [a] [] UG) .Sub (.Call (.Name "set" p2) [b] [] pos2) g) X.env) (λv s1=>(fx (gj X.prog X.w) X.A) (TN (.builtin (if ln=cb then "len" else "sorted")) [v]) (EP X i c0.σ Q) X.xe s1) X.xe s:=by
  show wpAny_BinOp (xA t O hg hm ha u I ok h λn o1 s1 D1 c1 z Mh B OP PZ I1 w1 SJ=>?_);show xA t O hg hm hb OR I1 Mh w1 λS2 o2 D D2 k G Ms J Qh Qi L w2 Q0=>?_;have(r,m,j):=bW.mp w2;have ab:=(L.pin (n,o1) (p6 _ ⋯)).1;have Ym:ba X.prog X.w D.heap n (aJ X.w) D1:=PZ.at λo e=>by simp_all
  have MF:n≠S2:=Q0 (n,o1) ⋯;have nx:Nx c0 k:=B.trans J;have N:k.σ=c0.σ:=G.trans z;have I3:Inv X i k.σ k.H D:=L.eS λq hq=>L.pin q (p6 _ (by simp[hq]));unfold tM at m;split at m
  rotate_left
  .cases m
  rename_i f;show L2.D_ MF Ym Qi f.1 f.2 λh' hk hR=>?_;have I4:=I3.kept (t':=D.toks) hk;rw[<-N];cases ln with
  |true =>
   cases m;show mZ I4 hR (cG.flat (c:=k) j N Ms nx rfl)
  |false =>
   cases m;show iJ t I4 hR (á (B' _ _) f.1) λl hl=>cG.list (c:=k) j N Ms nx (ai.strs.mpr rfl) l hl
 have eb:RN pos (mn [.BinOp (.Call (.Name "set" p1) [a] [] UG) .Sub (.Call (.Name "set" p2) [b] [] pos2) g] X.env)=[(cK,K1 _ X.env)]:=rfl;have ek:XO pos (TV [] X.env)=[]:=rfl;cases ln with
 |true =>
  show MI (c6 I T Y (show I0 "len"≈.builtin "len" by decide +kernel) ?_ (by decide +kernel) (by decide +kernel));rw[eb,ek];show rn d
 |false =>
  show MI (c6 I T Y (show I0 "sorted"≈.builtin "sorted" by decide +kernel) ?_ (by decide +kernel) (by decide +kernel));rw[eb,ek];show rn d
def Ok.Kp(ok:Ok C c)(hi:c.st[i]?≈bD (.own,u))(m:c.σ[i]?≈bD (.ref r)):Ok C {c with H:=upd c.H r o',st:=c.st.set i b6}/\Ns c {c with H:=upd c.H r o',st:=c.st.set i b6}/\¬({c with H:=upd c.H r o',st:=c.st.set i b6}:Cf).R r:=by
 have T:i<⇑c.st:=(eH.mp hi).1;have s:c.R1 r:=#[i,.own,u,rfl,hi,m]
 have(n,Y,z3,o,z4,z5):=ok.root (.inl s);have h0:C.H₀ r=b6:=by
  have(v,d,g,p,_,_,q,_):=ok.sl i _ _ hi;rw[m]at d;cases d;cases p;show q
 have h:∀(j:Nat) k w,(c.st.set i b6)[j]?≈bD (k,w)->j≠i/\c.st[j]?≈bD (k,w):=λj k w e=>by
  by_cases t:j=i
  .subst t;rw[hH T]at e;cases e
  .rw[mx (ve t)]at e;show#[t,e]
 have b1:∀a,({c with H:=upd c.H r o',st:=c.st.set i b6}:Cf).R1 a->c.R1 a/\a≠r:=λa Mg=>by
  have(j,k,w,hk,d,f):=Mg;have(x,I):=h j k w d;show#[#[j,k,w,hk,I,f],λz=>?_];subst z;show x (ok.inj j i k .own w u a hk rfl I hi f m)
 have J:∀j a,({c with H:=upd c.H r o',st:=c.st.set i b6}:Cf).RD j a->c.RD j a:=λj a ⟨w,g,d,f,A⟩=>#[w,g,(h j _ w d).2,f,A]
 have L:∀j a,c.RD j a->a≠r:=λj a z e=>by subst e;show ok.dd.d1 j a z s
 have B:∀S:k7->Prop,¬S r->Mv S c.H S (upd c.H r o'):=λS hS=>#[λa z=>z,λa b e tp=>by
  have:a≠r:=λz=>by subst z;rw[z4]at e;cases e;show z5 tp
  rw[aj this];show e,λa b z e=>by
  have:a≠r:=λy=>by subst y;show hS z
  rw[aj this];show e]
 have hP:¬PS C c.S r:=λz=>z.elim Y n;show#[#[λa b e NA=>?_,λa z=>?_,ok.par,λa z=>?_,by simp[ok.len],λj k w e=>?_,λj1 j2 k1 k2 w1 w2 g h1 h2 d f A e4=>ok.inj j1 j2 k1 k2 w1 w2 g h1 h2 (h _ _ _ d).2 (h _ _ _ f).2 A e4,?_],#[λa b e hR=>?_,λa b e=>?_,λa z=>?_,λa z=>z,λa z=>.inl z],λz=>?_]
 .have:a≠r:=λy=>by subst y;rw[h0]at e;cases e
  change upd c.H r o' a=_;rw[aj this];show ok.same a b e NA
 .have(l,b,D):=ok.NJ a z;have:a≠r:=λy=>by subst y;show n z
  show#[l,b,by change upd c.H r o' a=_;rw[aj this];show D]
 .have((b,l),G,D):=ok.io a z;have:a≠r:=λy=>by subst y;rw[h0]at l;cases l
  show#[#[b,l],G,by change upd c.H r o' a=_;rw[aj this];show D]
 .have(x,N):=h j k w e;have(v,d,f):=ok.sl j k w N;show#[v,d,f.mv (B _ n) (B _ hP) λhk g p=>?_];have(R6,O,y1,_):=f.rt hk;rw[p]at O;cases O;have:g≠r:=λy=>by subst y;show x (ok.inj j i k .own w u g hk rfl N hi (by rw[d,p]) m)
  show#[y1,λb q=>by change upd c.H r o' g=_;rw[aj this];show q]
 .show ok.dd.of rfl (λj w e=>#[(h j _ w e).2,rfl]) (λa z=>.inl (b1 a z).1) (B _ n) λj a z=>#[(ok.root (.inr #[j,z])).1,λb q=>by change upd c.H r o' a=_;rw[aj (L j a z)];show q]
 .have:a≠r:=λy=>by subst y;show hR (.inl s)
  change upd c.H r o' a=_;rw[aj this];show e
 .by_cases Q:a=r
  .subst Q;show#[o',av]
  .show#[b,by change upd c.H r o' a=_;rw[aj Q];show e]
 .rcases z with z|⟨j,z⟩
  .show .inl (.inl (b1 a z).1)
  .show .inl (.inr #[j,J j a z])
 .rcases z with z|⟨j,z⟩
  .show(b1 r z).2 rfl
  .show L j r (J j r z) rfl
def BM(s:c.H r≈.MN o (.dK kvs))(t:¬c.R r)(ok:Ok C c)(hk:kvs.map (·.1)=ks.map mA)(u:ai C c.S c.H us (kvs.map (·.2))):Walk C c [] (jb (ks,us)) (Ue r o kvs):=by
 intro a j n J hs;have k:=n.keep r _ s t;have l:=u.mv (ok.mv n);have L:⇑kvs=⇑ks:=by rw[<-df (f:=(·.1)),hk,df]
 have N:⇑us=⇑kvs:=by rw[l.len,df]
 have O:⇑(jb (ks,us))=⇑kvs:=by
  unfold jb;simp_all
 show#[λi q b=>?_,λi hi=>#[k,⋯]];unfold jb at b;rw[hU,eu]at b;have(p,w,rfl):=b;have(y,z):=Ye.mp w;have(v,d,e):=l.get z;have hi:i<⇑kvs:=by
  grind
 have A:kvs[i]?≈(mA p.1,v):=by
  rw[hU,nC hi]at d;have g:(kvs.map (·.1))[i]?=(ks.map mA)[i]?:=by rw[hk]
  rw[hU,hU,nC hi,y]at g;rw[nC hi];simp only[WW,US]at g d;rw[<-g,<-d]
 show#[.inl rfl,#[k,hi],λx H' h=>?_];have(q,B,rfl,h):=h;have D:=h _ _ A;subst D;have(G,m):=j.lay  B;show#[{a with H:=upd a.H q _},rfl,rfl,rfl,G,m,?_];have I:ai C a.S a.H [.str p.1,p.2] [kV (mA p.1),v]:=#[_,_,rfl,rfl,_,_,rfl,e,rfl]
 show#[q,_,rfl,MA.of av,I.mv (j.mv m)]
def IF(B:X.N[i]?≈x)(G:N5 X.env.scope x)(J:(x==("__debug__":Str))=cK)(L:(x==("__classdict__":Str))=cK)(O:(g.endLine==T.line)=cb)
  (S:cT X N own scope) (Y:X.calm=cb) (hl:⇑own=2) (hg:∀D s H ex,PG (Nb X N scope D s H ex) (.Tuple es kx ps) (tG C cb (fS ⇑own))) (he:∀D s H ex,PE (Nb X N scope D s H ex) elt (Md C me)) :
  L2.PS X (.Return (bD (.ListComp elt [⟨.Tuple es kx ps,.Call (.Attribute (.Name x px) "items" g) [] [] T,[],0⟩] scope pos)) t) (Na C ns (tN i >>= λd=>bO 2 cb (pure cb) me [] (jb d) [] >>= λus=>retS (.own,.lst us))):=by
 show PS.weak (Aa (HA (wM S Y (A9 B G J L O) hg (λD s H ex=>show Qe _ [] (Np C (pure cb)) from λj s σ H Q I ⟨c0,f,e2,ok,w⟩=>qK j s σ H Q I (by subst f e2;rw[ak]at w;show w c0 rfl rfl ok (Nx.refl c0))) he))) ?_;rintro D σ H ⟨c0,rfl,rfl,ok,h⟩;rw[ah]at h;have(d,st',e,h):=h;unfold tN at e;split at e
 rotate_left
 .cases e
 rename_i ks us hi;cases e;have(v,f,r,er):=ok.sl i _ _ hi;subst er;have(kvs,A,g2,g3,g4,g5,g6):=ok.dd.kd i _ r hi f;show#[r,kvs,A,λo=>?_];have(Mh,n1):=Ok.Km ok (Nx.refl c0) #[_,_,rfl] hi f;have Nw:i<⇑c0.st:=(eH.mp hi).1;have(Ms,n2,nR):=Ok.Kp (o':=.MN o (.dK kvs)) Mh (i:=i) (u:=.J' ks us) (r:=r) ⋯ f;let b:Cf:={S:=λa=>c0.S a\/a∈c0.kid i,H:=upd c0.H r (.MN o (.dK kvs)),σ:=c0.σ,st:=c0.st.set i b6,kid:=c0.kid}
 have Ud:(c0.st.set i (bD (Kd.own,U.J' ks us))).set i b6=c0.st.set i b6:=⋯
 have k:({ ({c0 with S:=λa=>c0.S a\/a∈c0.kid i,st:=c0.st.set i (bD (.own,.J' ks us))}:Cf) with H:=upd c0.H r (.MN o (.dK kvs)),st:=(c0.st.set i (bD (Kd.own,U.J' ks us))).set i b6}:Cf)=b:=by rw[Ud]
 have l:Ok C b:=k▸Ms;have m:Ns c0 b:=n1.toNs.trans (k▸n2);have p:¬b.R r:=k▸nR;have Ny:ai C b.S b.H us (kvs.map (·.2)):=by
  rw[g3];have:=(dO.rep (S':=b.S) (λa=>.inl) (λa ha=>.inr ha) g6).mv (show Mv b.S c0.H b.S b.H from#[λa z=>z,λa ob q tp=>?_,λa ob z q=>?_])
  .lia
  .have:a≠r:=λy=>by subst y;rw[A]at q;cases q;show tp
   change upd c0.H r _ a=_;rw[aj this];show q
  .have:a≠r:=λy=>by
    subst y;rcases z with z|z
    .show(g5 a ⋯).1 z
    simp_all
   change upd c0.H r _ a=_;rw[aj this];show q
 show#[r,o,kvs,f,av,?_];rw[hl];show pQ (c0:=b) (c1:=b) (rs:=[]) (xs:=jb (ks,us)) rfl l (Nx.refl b) (BM av p l g2 Ny) ?_;rw[ah]at h;show h.mono λvs st2 w=>?_;rw[show retS (.own,.lst vs)=pure (.rt .own (.lst vs)) from rfl,ak]at w;rw[ak];intro c v hσ L8 Mq n rt;have(r0,e,h1,h2,h3,h4):=rt;show w c L8 Mq (m.trans n.toNs) (Kept.of hσ) v #[r0,e,(l.kh h1).1,h2,h3,h4]
section
variable{X:Cx}{C:Ct}{a:p7}{ma:M (Kd×U)}{apos A':Pos}{i:Nat}{x:Str}{px:Pos}
def Ok.Kq(ok:Ok C c)(hk:k.root=cb)(hs:c.st[i]?≈bD (k,.lst us)):∃a vs,c.σ[i]?≈bD (.ref a)/\c.H a≈.lst vs/\ai C c.S c.H us vs:=by
 have(v,b,d):=ok.sl i k _ hs;have(r,rfl,_,_,_,vs,e,f):=d.rt hk;show#[r,vs,b,e,f]
def Ok.out(ok:Ok C c)(n:Nx c0 c)(p:c.σ=c0.σ)(hk:k.root=cb)(hs:c.st[i]?≈bD (k,.lst us))(f:c.σ[i]?≈bD (.ref r))(q:ai C c.S c.H us' b)(s:Rep C c.S c.H u v)(w:cG C c0 Q (.loc,u) (c.st.set i (bD (k,.lst us')))):Q v (upd c.H r (.lst b)):=by
 have g:Mv c.S c.H c.S (upd c.H r (.lst b)):=by
  have(v',d,h):=ok.sl i k _ hs;rw[f]at d;cases d;have(m,y,h1,_,_,A):=h.rt hk;cases y;have(o,ho,B):=A.some;show#[λ_ z=>z,λa o' e t=>by rw[aj (λz=>by simp_all)];show e,λa o' z e=>by rw[aj (λz'=>by simp_all)];show e]
 have(D,G):=ok.mod  (u':=.lst us') n.toNs hk hs f (λa I=>aj I) ⟨_,av⟩ λJ=>#[b,av,q.mv J]
 have L:∀a,({c with H:=upd c.H r (.lst b),st:=c.st.set i (bD (k,.lst us'))}:Cf).Vt a->c0.Vt a/\∀o,c0.H a≈o->upd c.H r (.lst b) a≈o:=λa N=>by
  have(j,u',m,d,h,O):=N;have T:j≠i:=λz=>by
   subst z;rw[hH (eH.mp hs).1]at d;cases d;cases hk
  have Y:c.st[j]?≈bD (.F',u'):=by rw[<-d];show(mx (ve T)).symm
  have l:c.RD j a:=#[u',m,Y,h,O]
  have Xg:a≠r:=λz=>ok.dd.d1 j a l (z▸⟨i,k,_,hk,hs,f⟩);show#[(n.dk a #[j,l]).1,λo e=>by rw[aj Xg];show(n.dk a #[j,l]).2 o e]
 show w {c with H:=upd c.H r (.lst b),st:=c.st.set i _} v p rfl D ⟨G,L⟩ (s.mv g)
def E8(f:X.N[i]?≈x)(g:N5 X.env.scope x)(j:(x==("__debug__":Str))=cK)(l:(x==("__classdict__":Str))=cK)(m:(apos.endLine==A'.line)=cb)(n:C.K=X.K):
  PE X (.Call (.Attribute (.Name x px) "pop" apos) [] [] A') (Md C (Bi i)):=by
 show PE.weak (G8 F.plainAttrs_list F.slot_list_pop F.type_list_pop G_ (cR f g j l) rfl m) ?_;rintro σ H Q ⟨c0,rfl,rfl,ok,h⟩;have(r,st',e,w):=h;unfold Bi at e;split at e
 .rename_i k us hs;split at e
  .rename_i hk;split at e
   .rename_i u o;cases e;have(p,vs,c,d,b):=ok.Kq hk hs;have(v,q,s):=b.get o;have hl:=b.len;show#[_,c,.inl #[rfl,vs,n▸Mz.of d],p,vs,v,rfl,rfl,d,by rw[<-hl];show q,?_];show ok.out (Nx.refl c0) rfl hk hs c ?_ s w;rw[Ł,Ł,hl];show b.take _
   .cases e
  .cases e
 .cases e
end
@[reducible]noncomputable def Sg(P:vl)(w:OE)(K:W.Frag)(H:Hp)(a IO:k7->Prop):Ct:=#[P,w,K,H,a,IO]
structure Gk(C:Ct)(H H':Hp)(S':k7->Prop)(is:↑Nat)(vs:↑V)(ws:↑U)(k:Kd)(u:U)(v:V):Prop where
 same:∀a o,H a≈o->¬C.IO a->H' a≈o
 new:∀a,S' a->H a=b6/\∃o,H' a≈o
 own:k=.own->∃r,v=.ref r/\H r=b6/\¬S' r/\dX C S' H' r u
 loc:k=.loc->Rep C S' H' u v
 len:⇑ws=⇑is
 Pq:∀(n i:Nat) (r:k7) (w:U),is[n]?≈i->vs[i]?≈.ref r->ws[n]?≈w->dX C S' H' r w
structure Kr(C:Ct)(H:Hp)(is:↑Nat)(us:↑U)(vs:↑V):Prop where
 len:⇑us=⇑vs
 par:∀a,C.Pe a->Pf H a/\¬C.IO a
 iod:∀a,C.IO a->Pf H a
 io:∀(i:Nat) (u:U),i∈is->us[i]?≈u->∃r,vs[i]?≈.ref r/\C.IO r/\dX C (λ_=>False) H r u
 any:∀(i:Nat) (u:U),i∉is->us[i]?≈u->∃v,vs[i]?≈v/\Rep C C.Pe H u v
 inj:∀(i j:Nat) (r:k7),i∈is->j∈is->vs[i]?≈.ref r->vs[j]?≈.ref r->i=j
 Pq:∀a,C.IO a->∃i∈is,vs[i]?≈.ref a
abbrev spI(P:vl)(w:OE)(K:W.Frag)(F:↑U->Option (Ex (Kd×U)))(b:Nat)(is:↑Nat):Sp:=λvs H Q _=>⇑vs=b/\∃us k u ws a IO,F us≈.ok (k,.tup (u::ws))/\(k=.own\/k=.loc)/\Kr (Sg P w K H a IO) H is us vs /\
 ∀v H' S',Gk (Sg P w K H a IO) H H' S' is vs ws k u v->Q v H'
section
variable{X:Cx}{C:Ct}{pins:List (k7×Obj)}{s:k9}{c0 c c1:Cf}{ns:Nat->Bool}{a:p7}{ma:M (Kd×U)}
def Ok.LP(A:Ok C c0)(ok:Ok C c)(n:Nx c0 c)(h0:c0.H r=b6)(d:¬c.S r)(m:¬c.R r)(N:∃o,c.H r≈o/\¬Tp o):
  Ok C {c with H:=upd c.H r o' }/\Nx c0 {c with H:=upd c.H r o' }:=by
 have(O,_,B,Q,_):=A.kh h0;have D:¬PS C c.S r:=λz=>z.elim B d;have b:∀a o2,a≠r->c.H a≈o2->(upd c.H r o') a≈o2:=λa o2 G e=>by rw[aj G];show e
 have g:∀S ,¬S r->Mv S c.H S _:=λS d=>#[λa z=>z,λa h e T=>b a h (λz=>by simp_all) e,λa h z e=>b a h (λy=>by simp_all) e]
 have p:∀{a:k7} {o2:HO},c0.H a≈o2->a≠r:=λe z=>by simp_all
 have l:∀a,(∃o2,c.H a≈o2)->∃o2,(upd c.H r o') a≈o2:=λa I=>by
  have(o2,e):=I;by_cases q:a=r
  .subst q;show#[o',av]
  .show#[o2,b a o2 q e]
 show#[#[λa o2 e z=>b a o2 (λy=>by simp_all) (ok.same a o2 e z),λa z=>#[(ok.NJ a z).1,l a (ok.NJ a z).2],ok.par,λa z=>#[(ok.io a z).1,l a (ok.io a z).2],ok.len,λi k u e=>?_,ok.inj,ok.dd.hs (g _ d) λj a z=>#[(ok.root (.inr #[j,z])).1,λo2 e=>b a o2 (λy=>by subst y;show m (.inr #[j,z])) e]],?_]
 .have(v,t,f):=ok.sl i k u e;show#[v,t,f.mv (g _ d) (g _ D) λhk J w=>?_];have(Y,x,L,_):=f.rt hk;rw[w]at x;cases x;show#[L,λo2 f=>b J o2 (λy=>by subst y;show m (.inl #[i,k,u,hk,e,by rw[t,w]])) f]
 .show#[#[λa o2 e z=>b a o2 (p e) (n.keep a o2 e z),λa o2 e=>l a (n.there a o2 e),n.roots,n.sub,n.new],λa z=>#[(n.dk a z).1,λo2 e=>b a o2 (p e) ((n.dk a z).2 o2 e)]]
def E9(b:¬c.S r)(d:c.H r≈.dK kvs)(f:kvs.map (·.1)=ks.map mA)(g:ai C c.S c.H us (kvs.map (·.2))):
  Rep C c.S (upd c.H r (.MN o (.dK kvs))) (.NI ks us) (.ref r):=by
 show#[r,rfl,o,kvs,av,f,ai.mv #[λa z=>z,λa h e i=>?_,λa h z e=>?_] g]
 .have:a≠r:=λy=>by subst y;rw[d]at e;cases e;show i
  rw[aj this];show e
 .have:a≠r:=λy=>by subst y;show b z
  rw[aj this];show e
def E_(i:PE X a (Md C ma)):PE X a (Md C (ma >>= HU)):=by
 show PE.weak (HB i) ?_;rintro σ H Q ⟨c0,rfl,rfl,ok,h⟩;show aZ ok h λx c v t w=>?_;have(j,e,n,f):=t;have(k,u):=x;cases k with
 |own =>
  cases u with
  |J' ks us =>
   rw[show HU _=pure _ from rfl,ak]at w;obtain⟨r,rfl,l,g,m,_⟩:∃r,v=.ref r/\c0.H r=b6/\¬c.S r/\¬c.R r/\True:=by
    have(r,b,p,q,y,_):=f;show#[r,b,p,q,y,ttt]
   have(I,kvs,b,d,A,B):=f.dict e;cases b;show#[r,kvs,rfl,d,λo=>?_];have(D,G):=Ok.LP  ok e n l g m #[_,d,λz=>z];show w {c with H:=upd c.H r _} _ j rfl D G (E9 g d A B)
  |_=>show(bF.mp w).elim
 |_=>show(bF.mp w).elim
end
structure Ck where
 fns:↑Str
 gl:↑(Str×U)
 Pq:↑(Str×↑Nat)
abbrev rA:U->U->Bool
 |.int i,.int j=>dV (i=j)
 |.str x,.str y=>dV (x=y)
 |.bl a,.bl b=>a==b
 |.Mc,.Mc=>cb
 |_,_=>cK
def cJ(h:rA u v=cb):u=v:=by
 cases u<;>cases v<;>simp[rA]at h<;>subst_vars<;>rfl
abbrev noStar:p7->Bool
 |.Starred _ _=>cK
 |_=>cb
abbrev eY:p7->Bool
 |.Slice _ _ _ _=>cK
 |_=>cb
abbrev vv:p7->Bool
 |.Set _ _ _=>cK
 |_=>cb
abbrev rB:p7->Bool
 |.Call (.Name _ _) [] [] _=>cK
 |_=>cb
abbrev d_:p7->Bool
 |.ListComp _ _ _ _=>cK
 |.SetComp _ _ _ _=>cK
 |.DictComp _ _ _ _ _=>cK
 |_=>cb
abbrev IG:p7->Bool
 |.Tuple _ _ _=>cK
 |_=>cb
abbrev N2(a:TH)(x:Str):Bool:=dV (a.names.lookup x≈.globalImplicit)
abbrev jd(a:TH)(x:Str):Bool:=dV (a.names.lookup x≈.local)||decide (a.names.lookup x≈.cell)||decide (a.names.lookup x≈.free)
abbrev rC(a:TH)(x:Str):Bool:=dV (a.names.lookup x≈.local)||decide (a.names.lookup x≈.cell)
abbrev Ks(a:TH)(x:Str):Bool:=dV (a.names.lookup x≈.local)
abbrev cv(x:Str):Bool:=!(x==("__debug__":Str))&&!(x==("__classdict__":Str))
abbrev xB(N:↑Str)(a:TH)(fa:Str->Bool)(i:Nat):p7->Bool
 |.Name x _=>dV (N[i]?≈x)&&rC a x&&(fa x||Ks a x)
 |_=>cK
abbrev rD(N:↑Str)(a:TH)(fa:Str->Bool):↑Nat->↑p7->Bool
 |[],[]=>cb
 |i::is,e::es=>xB N a fa i e&&rD N a fa is es
 |_,_=>cK
abbrev dv:p7->↑Str
 |.Name x _=>[x]
 |.Tuple es _ _=>es.filterMap fun|.Name x _=>bD x|_=>b6
 |_=>[]
abbrev hide(a N:↑Str):↑Str:=match a.filter λx=>dV (x∈N) with
 |[]=>N
 |[x]=>N.set (N.idxOf x) "."
 |x::y::_=>(N.set (N.idxOf x) ".").set (N.idxOf y) ".."
abbrev Sh(t:Bool)(N:↑Str)(a:TH)(fa:Str->Bool)(is:↑Nat):p7->Bool
 |.Name x p=>!t&&(match is with|[i]=>xB N a fa i (.Name x p)|_=>cK)
 |.Tuple es _ _=>t&&rD N a fa is es&&is.all λi=>dV (i<⇑N)
 |_=>cK
abbrev isTup:p7->Bool
 |.Tuple _ _ _=>cb
 |_=>cK
abbrev gS(e:p7):Option (Str×↑p7):=match e with
 |.Call f as a _=>match f with
  |.Name x _=>if a.isEmpty=cb then bD (x,as) else b6
  |_=>b6
 |_=>b6
def dQ(h:gS e≈(x,as)):∃p q,e=.Call (.Name x p) as [] q:=by
 unfold gS at h;split at h
 .split at h
  .simp_all
  .cases h
 .cases h
abbrev BN(e:p7):Option p7:=match e with
 |.Call f as b q=>match f with
  |.Attribute a m p=>if b.isEmpty=cb/\as.isEmpty=cb/\m="items"/\(p.endLine==q.line)=cb/\((gS a).any λz=>!z.2.isEmpty)=cb then bD a else b6
  |_=>b6
 |_=>b6
def vA(h:BN e≈a):∃x p b as q p2 c,a=.Call (.Name x p) (b::as) [] q/\e=.Call (.Attribute a "items" p2) [] [] c/\(p2.endLine==c.line)=cb:=by
 unfold BN at h;split at h
 .split at h
  .split at h
   .rename_i hk;have(d,f,g,i,j):=hk;rw[Rx]at d f;cases h;subst d f g;cases k:gS a with
    |none=>simp_all
    |some z =>
     have(x,as):=z;have(p,q,rfl):=dQ k;cases as with
     |nil=>cases j
     |cons b as=>show#[_,_,_,_,_,_,_,rfl,rfl,i]
   .cases h
  .cases h
 .cases h
abbrev gT(b:TH)(c:p7)(ik:Ik)(e:p7):Option ↑p7:=match ik with
 |.seq=>bD [e]
 |.ML=>(gS e).bind λp=>if p.1="range"/\N2 b p.1=cb/\⇑p.2=1 then bD p.2 else b6
 |.QG=>(gS e).bind λp=>if p.1="range"/\N2 b p.1=cb/\⇑p.2=2 then bD p.2 else b6
 |.QH=>(gS e).bind λp=>if p.1="enumerate"/\N2 b p.1=cb/\⇑p.2=1/\isTup c=cb then bD p.2 else b6
 |.zip=>(gS e).bind λp=>if p.1="zip"/\N2 b p.1=cb/\⇑p.2=2/\isTup c=cb then bD p.2 else b6
 |.S4=>(BN e).bind λa=>if isTup c=cb then bD [a] else b6
 |_=>b6
abbrev simple:Bf->Bool:=λ_=>cb
abbrev BO(scope a:TH):TH:={scope with names:=scope.names.map λ(n,k)=>if (k==R0&&a.kind==.function&&a.names.lookup n==bD .cell)=cb then(n,.cell) else(n,k)}
abbrev bq(e:p7)(k:Str->Bool):Bool:=match e with|.Name x _=>k x|_=>cK
def aO(h:bq e k=cb):∃x p,e=.Name x p/\k x=cb:=by
 unfold bq at h;split at h
 .show#[_,_,rfl,h]
 .cases h
def cm{P:p7->Prop}(h:bq e k=cb)(a:∀x p,k x=cb->P (.Name x p)):P e:=by
 unfold bq at h;split at h
 .show a _ _ h
 .cases h
abbrev dR{α:Type}(l:↑α)(k:α->Bool):Bool:=match l with|[a]=>k a|_=>cK
def eJ(h:dR l k=cb):∃a,l=[a]/\k a=cb:=by
 unfold dR at h;split at h
 .show#[_,rfl,h]
 grind
def eZ{l}{k}{P:↑α->Prop}(h:dR l k=cb)(b:∀a,k a=cb->P ([a])):P l:=by
 unfold dR at h;split at h
 .show b _ h
 .cases h
abbrev dA(e:p7)(k:p7->↑p7->Pos->Bool):Bool:=match e with|.Call f as a p=>a.isEmpty&&k f as p|_=>cK
def tZ(h:dA e k=cb):∃f as p,e=.Call f as [] p/\k f as p=cb:=by
 unfold dA at h;split at h
 .rw[et,Rx]at h;have(rfl,h):=h;show#[_,_,_,rfl,h]
 .cases h
def bT{P:p7->Prop}(h:dA e k=cb)(a:∀f as p,k f as p=cb->P (.Call f as [] p)):P e:=by
 have(f,as,p,rfl,z):=tZ h;show a _ _ _ z
abbrev vB(e:p7)(k:p7->Str->Pos->Bool):Bool:=match e with|.Attribute o m p=>k o m p|_=>cK
def BP{P:p7->Prop}(h:vB e k=cb)(a:∀o m p,k o m p=cb->P (.Attribute o m p)):P e:=by
 unfold vB at h;split at h
 .show a _ _ _ h
 .cases h
abbrev xC(e:p7)(k:p7->Φ->p7->Bool):Bool:=match e with|.BinOp a c b _=>k a c b|_=>cK
def xD{P:p7->Prop}(h:xC e k=cb)(d:∀a c b p,k a c b=cb->P (.BinOp a c b p)):P e:=by
 unfold xC at h;split at h
 .show d _ _ _ _ h
 .cases h
abbrev t5(e:p7)(k:p7->CmpOp->p7->Bool):Bool:=match e with|.Compare a ops bs _=>dR ops λc=>dR bs λb=>k a c b|_=>cK
def vC(h:t5 e k=cb):∃a c b p,e=.Compare a [c] [b] p/\k a c b=cb:=by
 unfold t5 at h;split at h
 .have(c,rfl,d):=eJ h;have(b,rfl,f):=eJ d;show#[_,_,_,_,rfl,f]
 .cases h
def rE{P:p7->Prop}(h:t5 e k=cb)(d:∀a c b p,k a c b=cb->P (.Compare a [c] [b] p)):P e:=by
 have(a,c,b,p,rfl,z):=vC h;show d _ _ _ _ z
abbrev gn(e:p7)(k:p7->Str->Pos->↑p7->Pos->Bool):Bool:=dA e λf as b=>vB f λo m a=>k o m a as b
def dS{P:p7->Prop}(h:gn e k=cb)(c:∀o m a as b,k o m a as b=cb->P (.Call (.Attribute o m a) as [] b)):P e:=by
 apply bT h;intro f as p h;apply BP h;intro o m q h;show c _ _ _ _ _ h
abbrev ll(e:p7)(k:p7->p7->Bool):Bool:=match e with|.Subscript a b _=>k a b|_=>cK
def ir{P:p7->Prop}(h:ll e k=cb)(c:∀a b p,k a b=cb->P (.Subscript a b p)):P e:=by
 unfold ll at h;split at h
 .show c _ _ _ h
 .cases h
abbrev pln:E->Bool
 |.var _=>cb
 |.cst _=>cb
 |_=>cK
abbrev xE{α:Type}(l:↑α)(k:α->α->Bool):Bool:=match l with|[a,b]=>k a b|_=>cK
def rF{l}{k}{P:↑α->Prop}(h:xE l k=cb)(c:∀a b,k a b=cb->P ([a,b])):P l:=by
 unfold xE at h;split at h
 .show c _ _ h
 .cases h
abbrev BQ(e:p7)(k:Const->Bool):Bool:=match e with|.Constant c _ _=>k c|_=>cK
def xF{P:p7->Prop}(h:BQ e k=cb)(a:∀c q p,k c=cb->P (.Constant c q p)):P e:=by
 unfold BQ at h;split at h
 .show a _ _ _ h
 .cases h
abbrev LQ:Const->Option U
 |.int j=>bD (.int j)
 |.str y=>bD (.str y)
 |.bool y=>bD (.bl y)
 |.none=>bD .Mc
 |_=>b6
abbrev LR(u:U)(c:Const):Bool:=match LQ c with|some v=>rA u v|none=>cK
abbrev BR(e:p7)(a:BoolOp)(k:↑p7->Bool):Bool:=match e with|.BoolOp o es _=>dV (o=a)&&k es|_=>cK
def zu(h:BR e a k=cb):∃es p,e=.BoolOp a es p/\k es=cb:=by
 unfold BR at h;split at h
 .rw[et,decide_eq_true_eq]at h;have(rfl,h):=h;show#[_,_,rfl,h]
 .cases h
def vD{P:p7->Prop}(h:BR e a k=cb)(b:∀es p,k es=cb->P (.BoolOp a es p)):P e:=by
 have(es,p,rfl,z):=zu h;show b _ _ z
abbrev Fb(e:p7)(b:UnaryOp)(k:p7->Bool):Bool:=match e with|.UnaryOp o a _=>dV (o=b)&&k a|_=>cK
def zv(h:Fb e b k=cb):∃a p,e=.UnaryOp b a p/\k a=cb:=by
 unfold Fb at h;split at h
 .rw[et,decide_eq_true_eq]at h;have(rfl,h):=h;show#[_,_,rfl,h]
 .cases h
def BS{P:p7->Prop}(h:Fb e b k=cb)(c:∀a p,k a=cb->P (.UnaryOp b a p)):P e:=by
 have(a,p,rfl,z):=zv h;show c _ _ z
abbrev pV(e:p7)(k:↑p7->Bool):Bool:=match e with|.Tuple l _ _=>k l|_=>cK
def vE(h:pV e k=cb):∃l q p,e=.Tuple l q p/\k l=cb:=by
 unfold pV at h;split at h
 .show#[_,_,_,rfl,h]
 .cases h
def Fc{P:p7->Prop}(h:pV e k=cb)(a:∀l q p,k l=cb->P (.Tuple l q p)):P e:=by
 unfold pV at h;split at h
 .show a _ _ _ h
 .cases h
abbrev BU(e:p7)(k:↑p7->Bool):Bool:=match e with|.List l _=>k l|_=>cK
def Fd{P:p7->Prop}(h:BU e k=cb)(a:∀l p,k l=cb->P (.List l p)):P e:=by
 unfold BU at h;split at h
 .show a _ _ h
 .cases h
abbrev BV(e:p7):Bool:=match e with|.Dict a b _=>a.isEmpty&&b.isEmpty|_=>cK
def pW(h:BV e=cb):∃p,e=.Dict [] [] p:=by
 unfold BV at h;split at h
 .simp_all
 .cases h
def IH{P:p7->Prop}(h:BV e=cb)(a:∀p,P (.Dict [] [] p)):P e:=by
 have(p,rfl):=pW h;show a _
abbrev xG(e:p7)(k:Option p7->Option p7->Bool):Bool:=match e with|.Slice a b c _=>c.isNone&&k a b|_=>cK
def vF(h:xG e k=cb):∃a b p,e=.Slice a b b6 p/\k a b=cb:=by
 unfold xG at h;split at h
 .rw[et,XS]at h;have(rfl,h):=h;show#[_,_,_,rfl,h]
 .cases h
def Fe{P:p7->Prop}(h:xG e k=cb)(c:∀a b p,k a b=cb->P (.Slice a b b6 p)):P e:=by
 have(a,b,p,rfl,z):=vF h;show c _ _ _ z
abbrev Ff(e:p7)(k:p7->p7->p7->↑p7->TH->Bool):Bool:=match e with|.ListComp elt a b _=>dR a λg=>dV (g.is_async=0)&&k elt g.target g.iter g.ifs b|_=>cK
def kA(h:Ff e k=cb):∃elt d a b f p,e=.ListComp elt [⟨d,a,b,0⟩] f p/\k elt d a b f=cb:=by
 unfold Ff at h;split at h
 .have((d,a,b,z),rfl,c):=eJ h;rw[et,decide_eq_true_eq]at c;have(rfl,c):=c;show#[_,_,_,_,_,_,rfl,c]
 .cases h
def II{P:p7->Prop}(h:Ff e k=cb)(f:∀elt c a b d p,k elt c a b d=cb->P (.ListComp elt [⟨c,a,b,0⟩] d p)):P e:=by
 have(elt,c,a,b,d,p,rfl,z):=kA h;show f _ _ _ _ _ _ z
mutual
noncomputable def bP(k:Ck):E->↑Str->TH->p7->Bool
 |.var i,N,g,h=>bq h λx=>dV (N[i]?≈x)&&jd g x&&cv x
 |.cst u,N,g,h=>BQ h λc=>LR u c
 |.N8 x u,N,g,h=>bq h λy=>dV (x=y)&&N2 g x&&cv x&&k.gl.any λp=>dV (p.1=x)&&rA p.2 u
 |.bin B a b,N,g,h=>xC h λa' z q=>dV (B.op=z)&&bP k a N g a'&&bP k b N g q
 |.cmp B a b,N,g,h=>t5 h λa' z q=>dV (B.op=z)&&!Xx z q&&bP k a N g a'&&bP k b N g q
 |.P5 _ _ _ _ _,_,_,_=>cK
 |.and es,N,g,h=>BR h .And λs=>bb k es N g s
 |.or es,N,g,h=>BR h .Or λs=>bb k es N g s
 |.not a,N,g,h=>Fb h .Not λa'=>bP k a N g a'
 |.ite _ _ _,_,_,_=>cK
 |.neg _,_,_,_=>cK
 |.bad,_,_,_=>cb
 |.pop i,N,g,h=>gn h λo m j as A=>bq o λx=>as.isEmpty&&dV (m="pop")&&dV (N[i]?≈x)&&jd g x&&cv x&&(j.endLine==A.line)
 |.QI _ _,_,_,_=>cK
 |.inD neg a i,N,g,h=>t5 h λa' z q=>bq q λx=>dV (IB neg=z)&&!Xx z q&&dV (N[i]?≈x)&&jd g x&&cv x&&bP k a N g a'
 |.S5 i,N,g,h=>bq h λx=>dV (N[i]?≈x)&&jd g x&&cv x
 |.Ox i a b,N,g,h=>gn h λo m j as A=>bq o λx=>xE as λa' q=>dV (m="get")&&dV (N[i]?≈x)&&jd g x&&cv x&&(j.endLine==A.line)&&noStar a'&&noStar q&&bP k a N g a'&&bP k b N g q
 |.S6 i,N,g,h=>dA h λf' as _=>bq f' λf=>dR as λc=>gn c λo m j bs A=>bq o λx=>bs.isEmpty&&dV (f="sorted")&&N2 g f&&dV (m="items")&&dV (N[i]?≈x)&&jd g x&&cv x&&(j.endLine==A.line)
 |.R3 ln a b,N,g,h=>dA h λf' as _=>bq f' λf=>dR as λd=>xC d λl B r=>dA l λG H _=>bq G λI=>dR H λa'=>dA r λJ L _=>bq J λO=>dR L λq =>
  dV (f=(if ln=cb then("len":Str) else "sorted"))&&dV (I="set")&&dV (O="set")&&dV (B=.Sub)&&N2 g f&&N2 g "set"&&noStar a'&&noStar q&&bP k a N g a'&&bP k b N g q
 |.fst es,N,g,h=>cK
 |.Pn a T,N,g,h=>dA h λf' as _=>bq f' λx=>xE as λa' q=>bq q λy=>dV (x="isinstance")&&dV (y=T.name)&&N2 g x&&N2 g y&&noStar a'&&bP k a N g a'
 |.tup es,N,g,h=>pV h λs=>bb k es N g s
 |.lst es,N,g,h=>BU h λs=>bb k es N g s
 |.Nl _,N,g,h=>BV h
 |.idx a b,N,g,h=>ll h λa' q=>eY q&&bP k a N g a'&&bP k b N g q
 |.Pj a lo hi,N,g,h=>ll h λa' q=>xG q λD Q=>bP k a N g a'&&vG k lo N g D&&vG k hi N g Q
 |.bi f es,N,g,h=>dA h λf' s _=>bq f' λx=>dV (x=f.name)&&simple f&&N2 g x&&!s.isEmpty&&bb k es N g s
 |.Pk f es,N,g,h=>dA h λf' as _=>bq f' λx=>dR as λc=>dA c λg' s _=>bq g' λy=>dV (x=f.rm)&&dV (y=f.kr)&&N2 g x&&N2 g y&&!s.isEmpty&&bb k es N g s
 |.N9 m a es,N,g,h=>gn h λo name j s A=>dV (name=m.name)&&rB o&&(j.endLine==A.line)&&!s.isEmpty&&dV (⇑s<20)&&bP k a N g o&&bb k es N g s
 |.call f es,N,g,h=>dA h λf' s _=>bq f' λx=>dV (x=f)&&dV (f∈k.fns)&&N2 g x&&cv x&&!s.isEmpty&&bb k es N g s
 |.S7 a,N,g,h=>bP k a N g h
 |.comp n t ik src cond e,N,g,h=>Ff h λelt v w C scope =>
   dV (⇑(dv v)=n)&&DY (dv v++hide (dv v) N) (dv v) scope g.names&&Sh t (dv v++hide (dv v) N) (BO scope g) (λx=>dV (scope.names.lookup x≈.cell)) (fS n) v&&vv w &&
   (match gT g v ik w with
    |some as=>bb k src N g as
    |none=>cK) &&
   dV (⇑C<=1)&&bb k cond (dv v++hide (dv v) N) (BO scope g) C&&bP k e (dv v++hide (dv v) N) (BO scope g) elt
noncomputable def bb(k:Ck):↑E->↑Str->TH->↑p7->Bool
 |[],_,_,a=>a.isEmpty
 |e::es,N,b,a=>match a with
  |e'::a=>noStar e'&&bP k e N b e'&&bb k es N b a
  |[]=>cK
noncomputable def vG(k:Ck):↑E->↑Str->TH->Option p7->Bool
 |[],_,_,o=>o.isNone
 |[e],N,a,o=>match o with
  |some b=>bP k e N a b
  |none=>cK
 |_::_::_,_,_,_=>cK
end
abbrev bU:↑Str:=["len","sorted","repr","max","min","all","any","list","tuple","str","int","range","enumerate","zip","reversed","set","dict","sum","isinstance","bool"]
structure Fg(P:vl)(w:OE)(K:W.Frag)(mg:Str->Option hY)(base:Qy)(d:Nat)(F:↑U->Option (Ex (Kd×U)))(f:Str):Prop where
 ex:∃(np:Nat) (fa:k7) (fd:ß) (ps:↑Str),oP P w K mg base Qc d fa fd ps (spT P w K F np)/\mg f≈.ref fa/\W.keepIn K (.ref fa)=cb/\Binds K fd ps []/\∀us k u,F us≈.ok (k,u)->(k=.own\/k=.loc\/k=.any)/\⇑us=np
structure Fh(P:vl)(w:OE)(K:W.Frag)(mg:Str->Option hY)(base:Qy)(d:Nat)(F:↑U->Option (Ex (Kd×U)))(f:Str)(is:↑Nat):Prop where
 ex:∃(np:Nat) (fa:k7) (fd:ß) (ps:↑Str),oP P w K mg base Qc d fa fd ps (spI P w K F np is)/\mg f≈.ref fa/\W.keepIn K (.ref fa)=cb/\Binds K fd ps []/\∀us r,F us≈.ok r->⇑us=np
structure Ios(ck:Ck)(Γ:Tab)(P:vl)(w:OE)(K:W.Frag)(mg:Str->Option hY)(base:Qy)(d:Nat):Prop where
 f:∀p∈ck.Pq,Fh P w K mg base d (Γ p.1) p.1 p.2
structure Gd(ck:Ck)(Γ:Tab)(C:Ct)(d:Nat)(X:Cx):Prop where
 P:C.P=X.prog
 w:C.w=X.w
 K:C.K=X.K
 u:X.A.units+60<MJ
 calm:X.calm=cb
 room:iP d X.A
 blt:∀x∈bU,X.mg x=b6
 fns:∀f∈ck.fns,Fg X.prog X.w X.K X.mg X.base d (Γ f) f
 Pt:∀p∈ck.gl,∃val v,X.mg p.1≈val/\RelV v val/\∀S H,Rep C S H p.2 v
 Pq:Ios ck Γ X.prog X.w X.K X.mg X.base d
def Gd.cx(g:Gd ck Γ C d X)(N)(a)(D)(s)(H)(ex):Gd ck Γ C d (Nb X N a D s H ex) :=
 #[g.P,g.w,g.K,g.u,g.calm,g.room,g.blt,g.fns,g.Pt,g.Pq]
def cV(h:jd a x=cb):N5 a x:=by
 unfold jd at h;simp only[Vj,decide_eq_true_eq]at h;rcases h with(h|h)|h
 .show .inl h
 .show .inr (.inl h)
 .show .inr (.inr h)
def bo(h:cv x=cb):(x==("__debug__":Str))=cK/\(x==("__classdict__":Str))=cK:=by
 unfold cv at h;simpa using h
def bC(h:noStar e=cb):mn (e::es) env=(cK,K1 e env)::mn es env:=by
 cases e<;>first|rfl|cases h
def t6(h:eY e=cb):qy e:=by
 intro o i;cases e<;>first|rfl|cases h
def vH(h:vv e=cb):∀x,Sq e env x=pure x:=by
 intro x;cases e<;>first|rfl|cases h
def lY(h:rB o=cb):Ug o name env a=a:=by
 cases o with
 |Call f as ks p =>
  cases f with
  |Name x q=>cases as with
   |nil=>cases ks with
    |nil=>cases h
    |cons _ _=>rfl
   |cons _ _=>rfl
  |_=>rfl
 |_=>rfl
def cf(h:∀e∈es,noStar e=cb):(RN pos (mn es env)).any (·.1)=cK/\(RN pos (mn es env)).all (λx=>!x.1)=cb:=by
 induction es with
 |nil=>show#[rfl,rfl]
 |cons e es a =>
  rw[bC (h e ⋯)];have:=a λb c=>h b (by simp[c])
  assumption
def eC(h:bb k es N c a=cb):∀e∈a,noStar e=cb:=by
 induction es generalizing a with
 |nil =>
  cases a with
  |nil=>intro e he;cases he
  |cons _ _=>simp[bb]at h
 |cons x es b =>
  cases a with
  |nil=>intro e he;cases he
  |cons d a =>
   simp only[bb,et]at h;intro e he;rcases f6.mp he with rfl|he
   .show h.1.1
   .show b h.2 e he
def pX(a:∀x,fa x=cb->X.fn x=cb)(h:xB X.N X.env.scope fa i e=cb):vn X e i:=by
 cases e with
 |Name x p =>
  simp only[xB,et,decide_eq_true_eq,rC,Vj,Ks]at h;show#[x,p,rfl,h.1.1,?_,?_]
  .rcases h.1.2 with z|z
   .show .inl z
   .show .inr z
  .rcases h.2 with z|z
   .show .inl (a x z)
   .show .inr z
 |_=>cases h
theorem nV(a:∀x,fa x=cb->X.fn x=cb):∀{is}{es},rD X.N X.env.scope fa is es=cb->gh X es is
 |[],[],_=>.nil
 |[],_::_,h=>by cases h
 |_::_,[],h=>by cases h
 |i::is,e::es,h=>by
  simp only[rD,et]at h;show .cons (pX a h.1) (nV a h.2)
def t7(d:X.calm=cb)(e:C.K=X.K)(a:X.N.Nodup)(b:∀x,fa x=cb->X.fn x=cb)(h:Sh t X.N X.env.scope fa is c=cb):PG X c (tG C t is):=by
 cases c with
 |Name x p =>
  simp only[Sh,et,Sf]at h;have(rfl,h):=h;cases is with
  |nil=>cases h
  |cons i is=>cases is with
   |nil=>show Iu a (pX b h)
   |cons _ _=>cases h
 |Tuple es k p =>
  simp only[Sh,et,nH,decide_eq_true_eq]at h;have((rfl,f),g):=h;show J_ d e a (nV b f) g
 |_=>cases h
def kB(a N):ff ((a++hide a N).drop ⇑a) N:=by
 rw[ÿ rfl];unfold hide;split
 .show .refl N
 .show(ff.refl N).set _ (.inl rfl)
 .show((ff.refl N).set _ (.inl rfl)).set _ (.inr rfl)
abbrev Bf.isB:Bf->Bool
 |.sum=>cb
 |.len=>cb|.sorted=>cb|.repr=>cb|.max=>cb|.min=>cb|.all=>cb|.any=>cb|_=>cK
abbrev Bf.id:Bf->String
 |.len=>"len"|.sorted=>"sorted"|.repr=>"repr"|.max=>"max"|.min=>"min"|.all=>"all"|.any=>"any"
 |.list=>"list"|.tuple=>"tuple"|.str=>"str"|.int=>"int"
 |.dict=>"dict"
 |.sum=>"sum"
def Fi:∀f,simple f=cb->I0 f.name≈f.val/\f.name∈bU/\f.name≠"__name__"/\(f.name==("__debug__":Str))=cK:=by
 intro f h;cases f<;>first|show⟨by decide +kernel,by decide +kernel,by decide +kernel,by rfl⟩|(done)
def IJ:∀f,simple f=cb->(f.val=.builtin f.id\/f.val=.type f.id):=by
 intro f h;cases f<;>first|show .inl rfl|show .inr rfl|(done)
def IK:∀f:B2,f.rm∈bU/\f.kr∈bU:=by
 intro f;cases f<;>show#[by decide +kernel,by decide +kernel]
def Fj:∀f:Mf,Slot "str" f.name f.id/\ϗ (.builtin f.id)=pure (.type "method_descriptor"):=by
 intro f;cases f with
 |split=>show#[F.slot_str_split,F.type_str_split]
 |join=>show#[F.slot_str_join,F.type_str_join]
 |partition=>show#[F.slot_str_partition,F.type_str_partition]
 |endswith=>show#[F.slot_str_endswith,F.type_str_endswith]
def dU(h:N2 X.env.scope x=cb):Gl X x:=by
 change X.env.kindOf x≈_;show of_decide_eq_true h
def Fm:("enumerate":Str)∈bU:=by decide +kernel
def t8:("isinstance":Str)∈bU:=by decide +kernel
def BW(T:P4):T.name∈bU:=by cases T<;>decide +kernel
def xH:("range":Str)∈bU:=by decide +kernel
def Gm(g:Gd ck Γ C d X)(h:gT X.env.scope n ik l≈as)(o:PA X as (NB C (cA Γ src)))(s:∀a,as=[a]->∃e,src=[e]/\PE X a (Md C (ev Γ e)))(k:∀e∈as,noStar e=cb):PI X n l (Pp C ik (cA Γ src)):=by
 unfold gT at h;split at h
 .cases h;have(e,rfl,r):=s _ rfl;show Io g.K r
 .rw[l']at h;have((x,bs),i,h):=h;split at h
  .rename_i hh;cases h;have(c,f,hl):=hh
   dsimp only at c f hl
   subst c;have(p,q,rfl):=dQ i;have(b,rfl):=Ĵ.mp hl;show EX (dU f) (g.blt _ xH) (bC (k _ ⋯)) o
  .cases h
 .rw[l']at h;have((x,bs),i,h):=h;split at h
  .rename_i hh;cases h;have(c,f,hl):=hh
   dsimp only at c f hl
   subst c;have(p,q,rfl):=dQ i;obtain⟨b,j,rfl⟩:∃b j,bs=[b,j]:=by match bs,hl with|[b,j],_=>show#[b,j,rfl]
   have s1:=bC (env:=X.env) (es:=[]) (k _ (ke _ kj));show EY (dU f) (g.blt _ xH) (by rw[bC (k _ kj),s1];rfl) s1 o
  .cases h
 .rw[l']at h;have((x,bs),i,h):=h;split at h
  .rename_i hh;cases h;have(c,f,hl,m):=hh
   dsimp only at c f hl
   subst c;have(p,q,rfl):=dQ i;have(b,rfl):=Ĵ.mp hl;cases n with
   |Tuple es t ps=>show Ip g.K (dU f) (g.blt _ Fm) (bC (k _ ⋯)) o
   |_=>cases m
  .cases h
 .rw[l']at h;have((x,bs),i,h):=h;split at h
  .rename_i hh;cases h;have(c,f,hl,m):=hh
   dsimp only at c f hl
   subst c;have(p,q,rfl):=dQ i;obtain⟨b,j,rfl⟩:∃b j,bs=[b,j]:=by match bs,hl with|[b,j],_=>show#[b,j,rfl]
   have s1:=bC (env:=X.env) (es:=[]) (k _ (ke _ kj));cases n with
   |Tuple es t ps=>show Iq g.K (dU f) (g.blt _ (by decide +kernel)) (bC (k _ kj)) (by rw[s1];rfl) o
   |_=>cases m
  .cases h
 .rw[l']at h;have(a,i,h):=h;split at h
  .rename_i m;cases h;have(e,rfl,r):=s _ rfl;have(x,p,b,bs,q,p2,u,rfl,rfl,hl):=vA i;cases n with
   |Tuple es t ps=>show Ir rfl hl r
   |_=>cases m
  .cases h
 .cases h
def Gn{a:M α}{b:α->M β}{c:α->M γ}{g:γ->M δ}{st}{Q}(w:W (a >>= λx=>b x >>= λ_=>c x >>= g) st Q):W ((a >>= λx=>b x >>= λ_=>c x) >>= g) st Q:=by
 simp only[ah]at w ⊢;show w
def bK:PT X e (Np C M.fail):=λa s σ H Q I ⟨_,_,_,_,w⟩=>(bF.mp w).elim
def nW:PE X e (Md C M.fail):=λa s σ H Q I ⟨_,_,_,_,w⟩=>(bF.mp w).elim
def PT.eqv(h:PT X e (Np C m))(i:∀st Q,W a st Q->W m st Q):PT X e (Np C a):=PT.weak h λσ H Q ⟨c0,b,c,ok,w⟩=>#[c0,b,c,ok,i _ _ w]
def Kt(g:Gd ck Γ C d X)(b:PA X a (NB C (cA Γ es)))
  (h:(dV (x=f.name)&&simple f&&N2 X.env.scope x&&!a.isEmpty&&bb ck es X.N X.env.scope a)=cb):PE X (.Call (.Name x p) a [] pos) (Md C (ev Γ (.bi f es))):=by
 simp only[et,decide_eq_true_eq]at h;obtain⟨⟨⟨⟨rfl,c⟩,i⟩,n⟩,o⟩:=h;have(b1,j,b3,b4):=Fi f c;have k:=eC o;cases a with
 |nil=>cases n
 |cons q l =>
  have st:=bC (env:=X.env) (es:=l) (k q ⋯);have m:=(cf (pos:=pos) (env:=X.env) (es:=l) λe r=>k e (by simp[r])).1;rcases IJ f c with hv|hv
  .show ES g.calm g.K g.room.gd g.u hv (dU i) (g.blt _ j) (by rw[b1,hv]) b3 b4 b st m
  .show ET g.calm g.K g.room.gd g.u hv (dU i) (g.blt _ j) (by rw[b1,hv]) b3 b4 b st m
def Ku(g:Gd ck Γ C d X)(i:PA X a (NB C (cA Γ es)))
  (h:(dV (x=f.rm)&&dV (y=f.kr)&&N2 X.env.scope x&&N2 X.env.scope y&&!a.isEmpty&&bb ck es X.N X.env.scope a)=cb):PE X (.Call (.Name x p) [.Call (.Name y p2) a [] pos2] [] pos) (Md C (ev Γ (.Pk f es))):=by
 simp only[et,decide_eq_true_eq]at h;obtain⟨⟨⟨⟨⟨rfl,rfl⟩,j⟩,k⟩,l⟩,m⟩:=h;have(b1,n):=IK f;have b:=eC m;cases a with
 |nil=>cases l
 |cons o c =>
  have st:=bC (env:=X.env) (es:=c) (b o ⋯);have q:=(cf (pos:=pos2) (env:=X.env) (es:=c) λe r=>b e (by simp[r])).1;show EW g.calm g.u g.K (dU j) (g.blt _ b1) (dU k) (g.blt _ n) i st q
def Kv(g:Gd ck Γ C d X)(l:PE X o (Md C (ev Γ a)))(n:PA X b (NB C (cA Γ es)))
  (h:(dV (name=m.name)&&rB o&&(c.endLine==f.line)&&!b.isEmpty&&dV (⇑b<20)&&bP ck a X.N X.env.scope o&&bb ck es X.N X.env.scope b)=cb):PE X (.Call (.Attribute o name c) b [] f) (Md C (ev Γ (.N9 m a es))):=by
 simp only[et,decide_eq_true_eq]at h;obtain⟨⟨⟨⟨⟨⟨rfl,p⟩,q⟩,r⟩,s⟩,y⟩,t⟩:=h;have i:=eC t;have(s1,u):=Fj m;cases b with
 |nil=>cases r
 |cons k j =>
  have st:=bC (env:=X.env) (es:=j) (i k ⋯);have v:=(cf (pos:=f) (env:=X.env) (es:=j) λe w=>i e (by simp[w])).1;have x:=(cf (pos:=f) (env:=X.env)  i).2;show EV g.K s1 u l n (lY p) ?_ q st v;rw[x];have:⇑(k::j)+⇑([]:↑Uw)+(if ([]:↑Uw).isEmpty=cb then 0 else 1)<30:=by simp at s ⊢;lia
  simp only[decide_eq_true this];rfl
def BX(g:Gd ck Γ C d X)(i:PA X a (NB C (cA Γ es)))
  (h:(dV (x=f)&&dV (f∈ck.fns)&&N2 X.env.scope x&&cv x&&!a.isEmpty&&bb ck es X.N X.env.scope a)=cb):PE X (.Call (.Name x p) a [] pos) (Md C (ev Γ (.call f es))):=by
 simp only[et,decide_eq_true_eq]at h;obtain⟨⟨⟨⟨⟨rfl,j⟩,k⟩,l⟩,m⟩,n⟩:=h;have b:=eC n;have(z,fa,A,ps,o,q,r,s,t):=(g.fns _ j).ex;cases a with
 |nil=>cases m
 |cons u c =>
  have st:=bC (env:=X.env) (es:=c) (b u ⋯);have v:=(cf (pos:=pos) (env:=X.env) (es:=c) λe y=>b e (by simp[y])).1;show Bu g.P g.w g.K rfl t o g.room (dU k) q r s (bo l).1 i st v
def fF(h:(b&&bb k es N a c)=cb):bb k es N a c=cb:=(Qq.mp h).2
mutual
theorem bR:∀(e:E) (X:Cx) (k:p7),Gd ck Γ C d X->bP ck e X.N X.env.scope k=cb->PE X k (Md C (ev Γ e))
 |.var i,X,k,g,h=>by
  apply cm h;intro x G q;clear h;have h:=q;simp only[et,decide_eq_true_eq]at h;have(L,O):=bo h.2;show rh h.1.1 (cV h.1.2) L O
 |.cst u,X,k,g,h=>by
  apply xF h;intro c q0 G q;cases c with
  |int j=>have:=cJ q;subst this;show jL zW λ_ _=>rfl
  |str y=>have:=cJ q;subst this;show jL zY λ_ _=>rfl
  |bool y=>have:=cJ q;subst this;show jL F8 λ_ _=>rfl
  |none=>have:=cJ q;subst this;show jL zX λ_ _=>rfl
  |_=>cases q
 |.N8 x u,X,k,g,h=>by
  apply cm h;intro y G q;clear h;have h:=q;simp only[et,decide_eq_true_eq,ø]at h;obtain⟨⟨⟨rfl,J⟩,Y⟩,p,hp,e1,e2⟩:=h;have:=cJ e2;subst this e1;have(an,v,q1,q2,q3):=g.Pt p hp;show jL (DA (dU J) q1 q2 (bo Y).1) q3
 |.bin op a b,X,k,g,h=>by
  apply xD h;intro a' P' b' G q;clear h;have h:=q;simp only[et,decide_eq_true_eq]at h;have((rfl,J),Y):=h;show EE g.K (bR a X _ g J) (bR b X _ g Y)
 |.cmp op a b,X,k,g,h=>by
  apply rE h;intro a' P' b' G A;have h:=A;simp only[et,decide_eq_true_eq,Sf]at h;obtain⟨⟨⟨rfl,h0⟩,J⟩,Y⟩:=h;show EF g.P g.w g.K g.u (bR a X _ g J) (bR b X _ g Y) h0
 |.P5 o1 o2 a b c,X,k,g,h=>absurd (show cK=cb from h) qp
 |.and es,X,k,g,h=>by
  apply vD h;intro G' G q;clear h;have h:=q;show BY es X _ g h
 |.or es,X,k,g,h=>nW
 |.not a,X,k,g,h=>by
  apply BS h;intro a' G q;clear h;have h:=q;show EH (bR a X _ g h)
 |.neg a,X,k,g,h=>absurd (show cK=cb from h) qp
 |.bad,X,k,g,h=>nW
 |.pop i,X,k,g,h=>by
  apply dS h;intro o m ab as A' A;apply cm A;intro x px B;simp only[et,decide_eq_true_eq,Rx]at B;obtain⟨⟨⟨⟨⟨rfl,rfl⟩,J⟩,Y⟩,L⟩,O⟩:=B;have(q1,q2):=bo L;show E8 J (cV Y) q1 q2 O g.K
 |.QI i a,X,k,g,h=>absurd (show cK=cb from h) qp
 |.inD neg a i,X,k,g,h=>nW
 |.S5 i,X,k,g,h=>by
  have(x,G,rfl,q):=aO h;clear h;have h:=q;simp only[et,decide_eq_true_eq]at h;have(L,O):=bo h.2;show E2 h.1.1 (cV h.1.2) L O
 |.Ox i a b,X,k,g,h=>by
  apply dS h;intro o m ab as A' A;have(x,px,rfl,B):=aO A;apply rF B;intro a' b' z3;clear h A;have B:=z3;simp only[et,decide_eq_true_eq]at B;obtain⟨⟨⟨⟨⟨⟨⟨⟨rfl,J⟩,Y⟩,L⟩,O⟩,h5⟩,h6⟩,h7⟩,h8⟩:=B;have(q1,q2):=bo L;have sa:=cf (pos:=A') (env:=X.env) (es:=[a',b']) λe he=>by
   rcases f6.mp he with rfl|he
   .show h5
   .simp at he;subst he;show h6
  show BK g.u J (cV Y) q1 q2 (bR a X _ g h7) (bR b X _ g h8) #[rfl,by rw[sa.2];rfl,O,by rw[bC h5,bC h6];rfl]
 |.S6 i,X,k,g,h=>by
  apply bT h;intro f' as _ A;have(f,_,rfl,B):=aO A;apply eZ B;intro c z3;apply dS z3;intro o m ab bs A' z4;have(x,px,rfl,z5):=aO z4;simp only[et,decide_eq_true_eq,Rx]at z5;obtain⟨⟨⟨⟨⟨⟨⟨rfl,rfl⟩,J⟩,rfl⟩,L⟩,O⟩,h5⟩,h6⟩:=z5;have(q1,q2):=bo h5;show E6 g.calm g.K (dU J) (g.blt _ (by decide +kernel)) L (cV O) q1 q2 h6
 |.R3 ln a b,X,k,g,h=>by
  apply bT h;intro _ _ _ q;have(_,_,rfl,A):=aO q;apply eZ A;intro _ B;apply xD B;intro _ _ _ _ z3;apply bT z3;intro _ _ _ z4;have(_,_,rfl,z5):=aO z4;apply eZ z5;intro _ z6;apply bT z6;intro _ _ _ z7;have(_,_,rfl,z8):=aO z7;apply eZ z8;intro _ z9;simp only[et,decide_eq_true_eq]at z9;obtain⟨⟨⟨⟨⟨⟨⟨⟨⟨rfl,rfl⟩,rfl⟩,rfl⟩,J⟩,Y⟩,L⟩,O⟩,h5⟩,h6⟩:=z9;show E7 (ln:=ln) g.calm g.K (dU J) (g.blt _ (by cases ln<;>decide +kernel)) (dU Y) (g.blt _ (by decide +kernel)) (bR a X _ g h5) (bR b X _ g h6) (bC L) (bC O)
 |.fst es,X,k,g,h=>nW
 |.Pn a T,X,k,g,h=>by
  apply bT h;intro f' as G A;have(x,p1,rfl,B):=aO A;clear h A;apply rF B;intro a' b' z4;have(y,p2,rfl,z3):=aO z4;have h:=z3;simp only[et,decide_eq_true_eq]at h;obtain⟨⟨⟨⟨⟨rfl,rfl⟩,J⟩,Y⟩,L⟩,O⟩:=h;show xu g.K (dU J) (g.blt _ t8) (dU Y) (g.blt _ (BW T)) (bR a X _ g O) (bC L)
 |.ite c a b,X,k,g,h=>absurd (show cK=cb from h) qp
 |.tup es,X,k,g,h=>by
  apply Fc h;intro l q0 G q;clear h;have h:=q;show EL (nX es X _ g h)
 |.lst es,X,k,g,h=>by
  apply Fd h;intro l G q;clear h;have h:=q;show EM (nX es X _ g h)
 |.Nl r,X,k,g,h=>by
  apply IH h;intro G;show Bt g.P g.w r
 |.idx a b,X,k,g,h=>by
  apply ir h;intro a' b' G q;clear h;have h:=q;simp only[et]at h;show EN g.K g.u (t6 h.1.1) (bR a X _ g h.1.2) (bR b X _ g h.2)
 |.Pj a lo hi,X,k,g,h=>by
  apply ir h;intro a' b' G A;apply Fe A;intro ap MX p1 q;clear h A;simp only[et]at q;show EO g.K (bR a X _ g q.1.1) (Kw lo X _ g q.1.2) (Kw hi X _ g q.2)
 |.bi f es,X,k,g,h=>by
  apply bT h;intro f' as G A;have(x,p1,rfl,B):=aO A;have h:=B;show Kt g (nX es X _ g (fF h)) h
 |.Pk f es,X,k,g,h=>by
  apply bT h;intro f' as G A;have(x,p1,rfl,B):=aO A;apply eZ B;intro c z3;apply bT z3;intro g' as' p2 z4;have(y,p3,rfl,z5):=aO z4;have h:=z5;show Ku g (nX es X _ g (fF h)) h
 |.N9 m a es,X,k,g,h=>by
  apply dS h;intro o name ab as A' A;have h:=A;have h':=h;simp only[et]at h';show Kv g (bR a X _ g h'.1.2) (nX es X _ g (fF h)) h
 |.call f es,X,k,g,h=>by
  apply bT h;intro f' as G A;have(x,p1,rfl,B):=aO A;have h:=B;show BX g (nX es X _ g (fF h)) h
 |.S7 a,X,k,g,h=>E_ (bR a X _ g h)
 |.comp n t ik src cond e,X,k,g,h=>by
  apply II h;intro elt tg ac am scope G q;clear h;have h:=q;simp only[et,decide_eq_true_eq]at h;obtain⟨⟨⟨⟨⟨⟨⟨J,Y⟩,L⟩,O⟩,h5⟩,h6⟩,h7⟩,h8⟩:=h;subst J;have S:=uY (X:=X) rfl (kB _ _) Y;split at h5
  .rename_i as has;have L8:=eC h5;have hI:PI X tg ac (Pp C ik (cA Γ src)):=Gm g has (nX src X _ g h5) (λa e=>by
    subst e;cases src with
    |nil=>simp[bb]at h5
    |cons e1 MM =>
     cases MM with
     |nil =>
      simp only[bb,et]at h5;show#[e1,rfl,bR e1 X _ g h5.1.2]
     |cons _ _=>simp[bb]at h5) L8
   show BD S g.calm hI (λD s H ex=>t7 (fa:=λx=>dV (scope.names.lookup x≈.cell)) g.calm g.K S.nd (λ_ z=>z) L)
    (λD s H ex=>by
     cases am with
     |nil =>
      cases cond with
      |nil=>show λal s σ H Q I ⟨c0,e1,e2,ok,w⟩=>qK al s σ H Q I (by subst e1 e2;rw[show aQ Γ []=pure cb from rfl,ak]at w;show w c0 rfl rfl ok (Nx.refl c0))
      |cons _ _=>simp[bb]at h7
     |cons c1 cs =>
      cases cs with
      |nil =>
       cases cond with
       |nil=>simp[bb]at h7
       |cons e1 MM =>
        cases MM with
        |nil =>
         simp only[bb,et]at h7;show wK (rG e1 (Nb X _ scope D s H ex) c1 (g.cx _ _ _ _ _ _) h7.1.2)
        |cons _ _=>simp[bb]at h7
      |cons _ _=>simp at h6)
    (λD s H ex=>bR e (Nb X _ scope D s H ex) elt (g.cx _ _ _ _ _ _) h8) (vH O)
  .cases h5
theorem nX:∀(es:↑E) (X:Cx) (a:↑p7),Gd ck Γ C d X->bb ck es X.N X.env.scope a=cb->PA X a (NB C (cA Γ es))
 |[],X,a,g,h=>by
  cases a with
  |nil=>show EK
  |cons _ _=>simp[bb]at h
 |e::es,X,a,g,h=>by
  cases a with
  |nil=>simp[bb]at h
  |cons b a =>
   simp only[bb,et]at h;show Br (bR e X b g h.1.2) (nX es X a g h.2) (bC h.1.1)
theorem Kw:∀(es:↑E) (X:Cx) (o:Option p7),Gd ck Γ C d X->vG ck es X.N X.env.scope o=cb->PO X o (tO C (R5 Γ es))
 |[],X,o,g,h=>by
  cases o with
  |none=>show zl
  |some _=>simp[vG]at h
 |[e],X,o,g,h=>by
  cases o with
  |none=>simp[vG]at h
  |some a=>simp only[vG]at h;show zm (bR e X a g h)
 |_::_::_,X,o,g,h=>by simp[vG]at h
theorem BY:∀(es:↑E) (X:Cx) (a:↑p7),Gd ck Γ C d X->bb ck es X.N X.env.scope a=cb->∀{pos},PE X (.BoolOp .And a pos) (Md C (nN Γ es))
 |[],X,a,g,h,pos=>nW
 |[e],X,a,g,h,pos=>by
  cases a with
  |nil=>simp[bb]at h
  |cons b a =>
   cases a with
   |nil=>simp only[bb,et]at h;show GR (bR e X b g h.1.2)
   |cons _ _=>simp[bb]at h
 |e::c::es,X,a,g,h,pos=>by
  cases a with
  |nil=>simp[bb]at h
  |cons b a =>
   have h':noStar b=cb/\bP ck e X.N X.env.scope b=cb/\bb ck (c::es) X.N X.env.scope a=cb:=by
    rw[bb]at h;simp only[et]at h;show#[h.1.1,h.1.2,h.2]
   cases a with
   |nil=>have:=h'.2.2;simp[bb]at this
   |cons f i=>show snd_and (bR e X b g h'.2.1) (BY (c::es) X _ g h'.2.2)
theorem rG:∀(e:E) (X:Cx) (j:p7),Gd ck Γ C d X->bP ck e X.N X.env.scope j=cb->PT X j (Np C (Mn Γ e))
 |.and es,X,j,g,h=>by
  apply vD h;intro D o k;clear h;have h:=k;show(xI es X _ g h).pt
 |.or es,X,j,g,h=>by
  apply vD h;intro D o k;clear h;have h:=k;show(BZ es X _ g h).pt
 |.not a,X,j,g,h=>by
  apply BS h;intro a' o k;clear h;have h:=k;show EI (rG a X _ g h)
 |.cmp G a b,X,j,g,h=>by
  apply rE h;intro a' H B o l;have h:=l;simp only[et,decide_eq_true_eq,Sf]at h;obtain⟨⟨⟨rfl,h0⟩,q⟩,s⟩:=h;show EG g.P g.w g.K g.u (bR a X _ g q) (bR b X _ g s) h0
 |.P5 o1 o2 a b c,X,j,g,h=>absurd (show cK=cb from h) qp
 |.var i,X,j,g,h=>by
  have(x,o,rfl,k):=aO h;simp only[et,decide_eq_true_eq]at k;have(v,z):=bo k.2;show lX (rh k.1.1 (cV k.1.2) v z) g.K λ_=>rfl
 |.idx a b,X,j,g,h=>bK
 |.bi f es,X,j,g,h=>by
  apply bT h;intro f' as o l;have(x,A,rfl,p):=aO l;have h:=p;show PT.eqv (lX (Kt g (nX es X _ g (fF h)) h) g.K λ_=>rfl) λst Q w=>Gn w
 |.Pk f es,X,j,g,h=>bK
 |.N9 m a es,X,j,g,h=>bK
 |.call f es,X,j,g,h=>by
  apply bT h;intro f' as o l;have(x,A,rfl,p):=aO l;have h:=p;show PT.eqv (lX (BX g (nX es X _ g (fF h)) h) g.K λ_=>rfl) λst Q w=>Gn w
 |.cst u,X,j,g,h=>bK
 |.fst es,X,j,g,h=>bK
 |.N8 x u,X,j,g,h=>bK
 |.neg a,X,j,g,h=>bK
 |.Pn a T,X,j,g,h=>by
  apply bT h;intro f' as o l;have(x,A,rfl,p):=aO l;clear h l;apply rF p;intro a' B I;have(y,p2,rfl,J):=aO I;have h:=J;simp only[et,decide_eq_true_eq]at h;obtain⟨⟨⟨⟨⟨rfl,rfl⟩,q⟩,s⟩,v⟩,z⟩:=h;show PT.eqv (lX (xu g.K (dU q) (g.blt _ t8) (dU s) (g.blt _ (BW T)) (bR a X _ g z) (bC v)) g.K λ_=>rfl) λst Q w=>?_;have w:W (ev Γ a >>= λx=>M.Mw (tS x.2 T)) st Q:=w;simp only[ah]at w ⊢;show W.mono w λx s1 L=>?_;have(b,e,O):=bW.mp L;show bW.mpr #[b,e,ak.mpr (bW.mpr #[b,rfl,O])]
 |.bad,X,j,g,h=>bK
 |.pop i,X,j,g,h=>bK
 |.QI i a,X,j,g,h=>bK
 |.inD neg a i,X,j,g,h=>by
  apply rE h;intro a' H B o l;have(x,A,rfl,p):=aO l;have h:=p;simp only[et,decide_eq_true_eq,Sf]at h;obtain⟨⟨⟨⟨⟨rfl,h0⟩,q⟩,s⟩,v⟩,z⟩:=h;have(Y,q2):=bo v;show E3 g.u q (cV s) Y q2 (bR a X _ g z) h0
 |.S5 i,X,j,g,h=>bK
 |.R3 ln a b,X,j,g,h=>bK
 |.S6 i,X,j,g,h=>bK
 |.S7 a,X,j,g,h=>bK
 |.Ox i a b,X,j,g,h=>bK
 |.bin G a b,X,j,g,h=>bK
 |.ite c a b,X,j,g,h=>bK
 |.tup es,X,j,g,h=>bK
 |.lst es,X,j,g,h=>bK
 |.Nl r,X,j,g,h=>bK
 |.Pj a lo hi,X,j,g,h=>bK
 |.comp n t ik src cond e,X,j,g,h=>bK
theorem xI:∀(es:↑E) (X:Cx) (a:↑p7),Gd ck Γ C d X->bb ck es X.N X.env.scope a=cb->∀{pos},PW X (.BoolOp .And a pos) (Np C (aQ Γ es))
 |[],X,a,g,h,pos=>by
  cases a with
  |nil =>
   rintro i c s σ H Q I ⟨c0,rfl,rfl,ok,w⟩;rw[show aQ Γ []=pure cb from rfl,ak]at w;show isTrue_and_nil #[c0.H,I,w c0 rfl rfl ok (Nx.refl c0)]
  |cons _ _=>simp[bb]at h
 |[e],X,a,g,h,pos=>by
  cases a with
  |nil=>simp[bb]at h
  |cons b a =>
   cases a with
   |nil=>simp only[bb,et]at h;show DC (rG e X b g h.1.2)
   |cons _ _=>simp[bb]at h
 |e::f::es,X,a,g,h,pos=>by
  cases a with
  |nil=>simp[bb]at h
  |cons b a =>
   have h':noStar b=cb/\bP ck e X.N X.env.scope b=cb/\bb ck (f::es) X.N X.env.scope a=cb:=by
    rw[bb]at h;simp only[et]at h;show#[h.1.1,h.1.2,h.2]
   cases a with
   |nil=>have:=h'.2.2;simp[bb]at this
   |cons j k=>show EJ (rG e X b g h'.2.1) (xI (f::es) X _ g h'.2.2)
theorem BZ:∀(es:↑E) (X:Cx) (a:↑p7),Gd ck Γ C d X->bb ck es X.N X.env.scope a=cb->∀{pos},PW X (.BoolOp .Or a pos) (Np C (gN Γ es))
 |[],X,a,g,h,pos=>by
  cases a with
  |nil =>
   rintro i c s σ H Q I ⟨c0,rfl,rfl,ok,w⟩;rw[show gN Γ []=pure cK from rfl,ak]at w;show isTrue_or_nil #[c0.H,I,w c0 rfl rfl ok (Nx.refl c0)]
  |cons _ _=>simp[bb]at h
 |[e],X,a,g,h,pos=>by
  cases a with
  |nil=>simp[bb]at h
  |cons b a =>
   cases a with
   |nil=>simp only[bb,et]at h;show GO (rG e X b g h.1.2)
   |cons _ _=>simp[bb]at h
 |e::f::es,X,a,g,h,pos=>by
  cases a with
  |nil=>simp[bb]at h
  |cons b a =>
   have h':noStar b=cb/\bP ck e X.N X.env.scope b=cb/\bb ck (f::es) X.N X.env.scope a=cb:=by
    rw[bb]at h;simp only[et]at h;show#[h.1.1,h.1.2,h.2]
   cases a with
   |nil=>have:=h'.2.2;simp[bb]at this
   |cons j k=>show H_ (rG e X b g h'.2.1) (BZ (f::es) X _ g h'.2.2)
end
def LS(g:Gd ck Γ C d X)(b:pln e=cb)(h:bP ck e X.N X.env.scope f=cb):PE X f (BH C (ev Γ e)):=by
 cases e with
 |var i =>
  apply cm h;intro x k a;simp only[et,decide_eq_true_eq]at a;have(l,m):=bo a.2;show BI a.1.1 (cV a.1.2) l m
 |cst u =>
  apply xF h;intro c n k a;cases c with
  |int j=>have:=cJ a;subst this;show jN zW λ_ _=>rfl
  |str y=>have:=cJ a;subst this;show jN zY λ_ _=>rfl
  |bool y=>have:=cJ a;subst this;show jN F8 λ_ _=>rfl
  |none=>have:=cJ a;subst this;show jN zX λ_ _=>rfl
  |_=>cases a
 |_=>cases b
abbrev UH(b:TH)(x:Str)(a:Nat):p7->Bool
 |.ListComp elt gens s pos=>dV (b.names.lookup x≈.local)&&(a==pos.line)&&!(s.names.any λ(n,k)=>n==x&&(k==.local||k==.cell))
 |_=>cK
abbrev pY(s:T')(k:p7->Bool):Bool:=match s with|.Expr e _=>k e|_=>cK
def lZ{P:T'->Prop}(h:pY s k=cb)(a:∀e p,k e=cb->P (.Expr e p)):P s:=by
 unfold pY at h;split at h
 .show a _ _ h
 .cases h
abbrev lp(s:T')(k:p7->p7->Bool):Bool:=match s with|.Assign ts v _=>dR ts λt=>k t v|_=>cK
def vI(h:lp s k=cb):∃t v p,s=.Assign [t] v p/\k t v=cb:=by
 unfold lp at h;split at h
 .have(t,rfl,a):=eJ h;show#[_,_,_,rfl,h]
 .cases h
def jO{P:T'->Prop}(h:lp s k=cb)(a:∀t v p,k t v=cb->P (.Assign [t] v p)):P s:=by
 have(t,v,p,rfl,z):=vI h;show a _ _ _ z
abbrev rJ(e:p7)(k:p7->p7->p7->TH->Bool):Bool:=match e with
 |.ListComp elt gens scope _=>dR gens λg=>match g with
  |⟨b,a,[],0⟩=>k elt b a scope
  |_=>cK
 |_=>cK
def t9(h:rJ e k=cb):∃elt c a scope p,e=.ListComp elt [⟨c,a,[],0⟩] scope p/\k elt c a scope=cb:=by
 unfold rJ at h;split at h
 .have(g,rfl,b):=eJ h;split at b
  .show#[_,_,_,_,_,rfl,b]
  .cases b
 .cases h
def B0{P:p7->Prop}(h:rJ e k=cb)(c:∀elt b a scope p,k elt b a scope=cb->P (.ListComp elt [⟨b,a,[],0⟩] scope p)):P e:=by
 have(elt,b,a,scope,p,rfl,z):=t9 h;show c _ _ _ _ _ z
abbrev IL(e:p7)(k:Str->Pos->Bool):Bool:=match e with|.Name x p=>k x p|_=>cK
def IM{P:p7->Prop}(h:IL e k=cb)(a:∀x p,k x p=cb->P (.Name x p)):P e:=by
 unfold IL at h;split at h
 .show a _ _ h
 .cases h
abbrev B1(s:T')(k:p7->Φ->p7->Bool):Bool:=match s with|.AugAssign t a b _=>k t a b|_=>cK
def Fo{P:T'->Prop}(h:B1 s k=cb)(c:∀t a b p,k t a b=cb->P (.AugAssign t a b p)):P s:=by
 unfold B1 at h;split at h
 .show c _ _ _ _ h
 .cases h
abbrev xJ(s:T')(k:Option p7->Bool):Bool:=match s with|.Return v _=>k v|_=>cK
def xK{P:T'->Prop}(h:xJ s k=cb)(a:∀v p,k v=cb->P (.Return v p)):P s:=by
 unfold xJ at h;split at h
 .show a _ _ h
 .cases h
abbrev Fp(v:Option p7)(k:p7->Bool):Bool:=match v with|some e=>k e|none=>cK
def zw(h:Fp v k=cb):∃e,v≈e/\k e=cb:=by
 cases v with
 |none=>cases h
 |some e=>show#[e,rfl,h]
def B3{P:Option p7->Prop}(h:Fp v k=cb)(a:∀e,k e=cb->P (bD e)):P v:=by
 have(e,rfl,z):=zw h;show a _ z
abbrev B4(s:T')(k:p7->↑T'->↑T'->Bool):Bool:=match s with|.If c a b _=>k c a b|_=>cK
def Fq{P:T'->Prop}(h:B4 s k=cb)(d:∀c a b p,k c a b=cb->P (.If c a b p)):P s:=by
 unfold B4 at h;split at h
 .show d _ _ _ _ h
 .cases h
abbrev xM(s:T')(k:p7->p7->↑T'->Bool):Bool:=match s with|.For t i b o _=>o.isEmpty&&k t i b|_=>cK
def vJ(h:xM s k=cb):∃t i b p,s=.For t i b [] p/\k t i b=cb:=by
 unfold xM at h;split at h
 .rw[et,Rx]at h;have(rfl,h):=h;show#[_,_,_,_,rfl,h]
 .cases h
def Fs{P:T'->Prop}(h:xM s k=cb)(a:∀t i b p,k t i b=cb->P (.For t i b [] p)):P s:=by
 have(t,i,b,p,rfl,z):=vJ h;show a _ _ _ _ z
abbrev Ft(s:T')(k:p7->↑T'->Bool):Bool:=match s with|.While c b o _=>o.isEmpty&&k c b|_=>cK
def zx(h:Ft s k=cb):∃c b p,s=.While c b [] p/\k c b=cb:=by
 unfold Ft at h;split at h
 .rw[et,Rx]at h;have(rfl,h):=h;show#[_,_,_,rfl,h]
 .cases h
def IQ{P:T'->Prop}(h:Ft s k=cb)(a:∀c b p,k c b=cb->P (.While c b [] p)):P s:=by
 have(c,b,p,rfl,z):=zx h;show a _ _ _ z
mutual
noncomputable def Kx(k:Ck):S->↑Str->TH->T'->Bool
 |.set i e,N,d,s=>lp s λt v=>IL t λx p=>dV (N[i]?≈x)&&rC d x&&dV (d.kind=.function)&&bP k e N d v&&(d_ v||UH d x p.line v||(match v with|.ListComp _ _ _ _=>cb|_=>cK))&&(match e with|.comp _ _ _ _ _ _=>cb|_=>d_ v)
 |.Oy is e,N,d,s=>lp s λt v=>pV t λ_=>Sh cb N d (λ_=>cb) is t&&d_ v&&IG v&&bP k e N d v
 |.put i a b,N,d,s=>lp s λt j=>ll t λo a'=>bq o λx=>dV (N[i]?≈x)&&jd d x&&cv x&&d_ j&&eY a'&&bP k a N d a'&&bP k b N d j
 |.app i e,N,d,s=>pY s λc=>gn c λo m f as l=>bq o λx=>dR as λa=>dV (m="append")&&dV (N[i]?≈x)&&jd d x&&cv x&&(f.endLine==l.line)&&noStar a&&bP k e N d a
 |.ext i e,N,d,s=>pY s λc=>gn c λo m f as l=>bq o λx=>dR as λa=>dV (m="extend")&&dV (N[i]?≈x)&&jd d x&&cv x&&(f.endLine==l.line)&&noStar a&&bP k e N d a
 |.bad,_,_,_=>cb
 |.newD i,N,d,s=>lp s λt v=>bq t λx=>BV v&&dV (N[i]?≈x)&&rC d x
 |.putD i a b,N,d,s=>lp s λt j=>ll t λo a'=>bq o λx=>dV (N[i]?≈x)&&jd d x&&cv x&&d_ j&&eY a'&&bP k a N d a'&&bP k b N d j
 |.NR i a e,N,d,s=>pY s λc=>gn c λo m f as l=>ll o λo' a'=>bq o' λx=>dR as λb=>dV (m="append")&&dV (N[i]?≈x)&&jd d x&&cv x&&eY a'&&(f.endLine==l.line)&&noStar b&&bP k a N d a'&&bP k e N d b
 |.aug sub i a e,N,d,s=>B1 s λt u b=>ll t λo a'=>bq o λx=>dV (u=if sub=cb then .Sub else .Add)&&dV (N[i]?≈x)&&jd d x&&cv x&&eY a'&&bP k a N d a'&&bP k e N d b&&pln e
 |.Vv _,_,_,_=>cK
 |.exp e,N,d,s=>pY s λn=>d_ n&&bP k e N d n
 |.ret e,N,d,s=>xJ s λv=>Fp v λn=>bP k e N d n
 |.OA i e,N,d,s=>xJ s λw=>Fp w λv=>rJ v λelt h g scope=>gn g λo m f as l=>bq o λx=>as.isEmpty&&dV (m="items")&&dV (N[i]?≈x)&&jd d x&&cv x&&(f.endLine==l.line)&&isTup h&&dV (⇑(dv h)=2) &&
   DY (dv h++hide (dv h) N) (dv h) scope d.names&&Sh cb (dv h++hide (dv h) N) (BO scope d) (λ_=>cK) (fS 2) h&&bP k e (dv h++hide (dv h) N) (BO scope d) elt
 |.QJ,_,_,_=>cK
 |.ite c a b,N,d,s=>B4 s λq a' j=>bP k c N d q&&eM k a N d a'&&eM k b N d j
 |.Mi t is ik src body,N,d,s=>xM s λh g r=>Sh t N d (λ_=>cb) is h&&vv g&&(match gT d h ik g with
    |some as=>bb k src N d as
    |none=>cK)&&eM k body N d r
 |.QK c body,N,d,s=>Ft s λq r=>bP k c N d q&&eM k body N d r
 |.brk,_,_,_=>cK
 |.cnt,_,_,_=>cK
 |.Uo _,_,_,_=>cK
 |.Vw,_,_,_=>cK
noncomputable def eM(k:Ck):↑S->↑Str->TH->↑T'->Bool
 |[],_,_,a=>a.isEmpty
 |s::ss,N,b,a=>match a with
  |s'::a=>Kx k s N b s'&&eM k ss N b a
  |[]=>cK
end
section
variable{ck:Ck}{Γ:Tab}{C:Ct}{d:Nat}{X:Cx}
def vK(h:rC a x=cb):Loc a x:=by
 unfold rC at h;simp only[Vj,decide_eq_true_eq]at h;show h
def jP(h:d_ v=cb):Xl v t a env=pure cK:=by
 cases v<;>first|rfl|cases h
def rK(h:d_ v=cb):Za [t] v a env=pure cK:=by
 show jP h
def Fu(h:eY i=cb):∀a b new,augStore i a b new=(do Sm [new,a,b] (Z_ a b new);ą [new,a,b] [];pure .next):=by
 intro a b new;cases i<;>first|rfl|cases h
def xN(h:eY i=cb):∀v,YA (.Subscript o i p) env v=(do
   let a <-Sm [v] (K1 o env)
   let b <-Sm [v,a] (K1 i env)
   İ p
   Sm [v,a,b] (Z_ a b v)
   ą [v,a,b] []):=by
 intro v;cases i<;>first|rfl|cases h
structure Gs(ck:Ck)(Γ:Tab)(C:Ct)(d:Nat)(X:Cx):Prop where
 gd:Gd ck Γ C d X
 nd:X.N.Nodup
 fn:∀x,X.fn x=cb
 po:Ę (gj X.prog X.w) X.A X.env X.xe
 kd:X.env.scope.kind=.function
def xO(g:Gd ck Γ C d X)(h:(match gT X.env.scope f ik b with|some as=>bb ck src X.N X.env.scope as|none=>cK)=cb):PI X f b (Pp C ik (cA Γ src)):=by
 split at h
 .rename_i as has;show Gm g has (nX src X _ g h) (λa e=>by
   subst e;cases src with
   |nil=>simp[bb]at h
   |cons c i =>
    cases i with
    |nil =>
     simp only[bb,et]at h;show#[c,rfl,bR c X _ g h.1.2]
    |cons _ _=>simp[bb]at h) (eC h)
 .cases h
def nY{pos p a:Pos}(hk:X.env.scope.kind=.function):Xl (.ListComp elt gens s pos) (bD (.Name x p)) a.line X.env=pure (UH X.env.scope x p.line (.ListComp elt gens s pos)):=by
 have b:X.env.blockKind=.function:=by
  unfold Env.blockKind;rw[hk];rfl
 change pure (X.env.blockKind==.function&&X.env.kindOf x==bD _&&p.line==pos.line&&!(s.names.any λ(n,k)=>n==x&&(k==.local||k==.cell)))=_;unfold UH;have:(X.env.kindOf x==bD NameKind.local)=dV (X.env.scope.names.lookup x≈.local):=by
  unfold Env.kindOf;rw[Sb];simp
 simp_all
def IS{src cond}(G:Gs ck Γ C d X)(hi:X.N[i]?≈x)(A:rC X.env.scope x=cb)
  (h:bP ck (.comp n t ik src cond e) X.N X.env.scope (.ListComp elt [⟨B,a,b,0⟩] scope pos)=cb) (o) (q:∀j,o j=cb->j≠i) :
  L2.PS X (.Assign [.Name x p] (.ListComp elt [⟨B,a,b,0⟩] scope pos) O6) (Na C o (ev Γ (.comp n t ik src cond e) >>= λr=>gE i r >>= λ_=>pure .nx)):=by
 have g:=G.gd;have u:=bR _ X _ g h;cases k:UH _ x p.line _ with
 |false=>show Gj q G.nd hi (vK A) (.inl (G.fn x)) u (by rw[nY G.kd,k])
 |true =>
  have hl:=by
   simp only[UH,et,decide_eq_true_eq]at k;show k.1.1
  have(v,J,l,y,Yn,p',L,h0):=kA h;cases L;clear h u;simp only[et,decide_eq_true_eq]at h0;obtain⟨⟨⟨⟨⟨⟨⟨O,T⟩,Y⟩,h4⟩,h5⟩,h6⟩,c⟩,h8⟩:=h0;subst O;have S:=uY  rfl (kB _ _) T;show Iy q S g.calm G.nd hi hl (xO g h5) (λD s H ex=>t7  g.calm g.K S.nd (λ_ z=>z) Y)
   (λD s H ex=>by
    cases b with
    |nil =>
     cases cond with
     |nil=>show λf s σ H Q I ⟨c0,m,e2,ok,w⟩=>qK f s σ H Q I (by subst m e2;rw[show aQ Γ []=pure cb from rfl,ak]at w;show w c0 rfl rfl ok (Nx.refl c0))
     |cons _ _=>simp[bb]at c
    |cons c1 cs =>
     cases cs with
     |nil =>
      cases cond with
      |nil=>simp[bb]at c
      |cons m MM =>
       cases MM with
       |nil =>
        simp only[bb,et]at c;show wK (rG m _ c1 (g.cx _ _ _ _ _ _) c.1.2)
       |cons _ _=>simp[bb]at c
     |cons _ _=>simp at h6)
   (λD s H ex=>bR e _ elt (g.cx _ _ _ _ _ _) h8) (by rw[nY G.kd,k]) (vH h4)
mutual
theorem LU:∀(s:S) (X:Cx) (f:T'),Gs ck Γ C d X->Kx ck s X.N X.env.scope f=cb->L2.PS X f (Na C (XH s) (exec Γ s))
 |.set i e,X,f,G,h=>by
  apply jO h;intro t v p1 k;apply IM k;intro x p l;clear h k;have h:=l;simp only[et,decide_eq_true_eq]at h;obtain⟨⟨⟨⟨⟨r,y⟩,B⟩,q⟩,J⟩,A⟩:=h;have ND:∀j,XH (.set i e) j=cb->j≠i:=λj O=>of_decide_eq_true (show dV (j≠i)=cb from O);by_cases hc:d_ v=cb
  .show Gj ND G.nd r (vK y) (.inl (G.fn x)) (bR e X v G.gd q) (jP hc)
  .cases e with
   |comp n t ik src cond e =>
    have(elt,tg,ac,am,scope,p3,rfl,_):=kA q;show IS G r y q _ ND
   |_=>show absurd A hc
 |.Oy is e,X,f,G,h=>by
  apply jO h;intro t v p1 k;have(es,kk,p,rfl,l):=vE k;clear h k;have h:=l;simp only[et]at h;obtain⟨⟨⟨r,y⟩,B⟩,q⟩:=h;show IA (λj O=>of_decide_eq_true (show dV (j∉is)=cb from O)) (bR e X v G.gd q) (t7 (fa:=λ_=>cb) G.gd.calm G.gd.K G.nd (λx _=>G.fn x) r) (rK y) ?_ rfl;cases v<;>first|rfl|cases B
 |.put i a b,X,f,G,h=>by
  apply jO h;intro t v p k;apply ir k;intro o a' p1 l;apply cm l;intro x px L;simp only[et,decide_eq_true_eq]at L;obtain⟨⟨⟨⟨⟨⟨r,y⟩,B⟩,q⟩,J⟩,A⟩,h7⟩:=L;have(Q,T):=bo B;show Kk G.gd.P G.gd.w G.gd.K G.gd.u r (cV y) Q T (bR b X _ G.gd h7) (bR a X _ G.gd A) (rK q) rfl (xN J)
 |.app i e,X,f,G,h=>by
  apply lZ h;intro c p0 k;apply dS k;intro o m ab as A' l;apply cm l;intro x px L;apply eZ L;intro a z4;simp only[et,decide_eq_true_eq]at z4;obtain⟨⟨⟨⟨⟨⟨rfl,r⟩,y⟩,B⟩,q⟩,J⟩,A⟩:=z4;have(Q,T):=bo B;have st:=bC (env:=X.env) (es:=[]) J;have sa:=(cf (pos:=A') (env:=X.env) (es:=[a]) λe he=>by simp at he;subst he;show J).2;show Ki G.gd.K r (cV y) Q T (bR e X _ G.gd A) ?_ q st;rw[sa];rfl
 |.ext i e,X,f,G,h=>by
  apply lZ h;intro c p0 k;apply dS k;intro o m ab as A' l;apply cm l;intro x px L;apply eZ L;intro a z4;simp only[et,decide_eq_true_eq]at z4;obtain⟨⟨⟨⟨⟨⟨rfl,r⟩,y⟩,B⟩,q⟩,J⟩,A⟩:=z4;have(Q,T):=bo B;have st:=bC (env:=X.env) (es:=[]) J;have sa:=(cf (pos:=A') (env:=X.env) (es:=[a]) λe he=>by simp at he;subst he;show J).2;show Kj G.gd.K r (cV y) Q T (bR e X _ G.gd A) ?_ q st;rw[sa];rfl
 |.bad,X,f,G,h=>λal sh σ H D I ⟨_,_,_,_,w⟩=>(bF.mp w).elim
 |.newD i,X,f,G,h=>by
  apply jO h;intro t v p1 k;apply cm k;intro x p l;clear h k;have h:=l;simp only[et,decide_eq_true_eq]at h;have(p2,rfl):=pW h.1.1;show IC (λj O=>of_decide_eq_true (show dV (j≠i)=cb from O)) G.nd h.1.2 (vK h.2) (.inl (G.fn _)) (jP rfl)
 |.putD i a b,X,f,G,h=>by
  apply jO h;intro t v p k;apply ir k;intro o a' p1 l;apply cm l;intro x px L;simp only[et,decide_eq_true_eq]at L;obtain⟨⟨⟨⟨⟨⟨r,y⟩,B⟩,q⟩,J⟩,A⟩,h7⟩:=L;have(Q,T):=bo B;show ID G.gd.u r (cV y) Q T (bR b X _ G.gd h7) (bR a X _ G.gd A) (rK q) rfl (xN J)
 |.NR i a e,X,f,G,h=>by
  apply lZ h;intro c p0 k;apply dS k;intro o m ab as A' l;apply ir l;intro o' a' p1 L;apply cm L;intro x px z4;apply eZ z4;intro b z5;simp only[et,decide_eq_true_eq]at z5;obtain⟨⟨⟨⟨⟨⟨⟨⟨rfl,r⟩,y⟩,B⟩,q⟩,J⟩,A⟩,h7⟩,h8⟩:=z5;have ha:=bR e X _ G.gd h8;have(Q,T):=bo B;have st:=bC (env:=X.env) (es:=[]) A;have sa:=(cf (pos:=A') (env:=X.env) (es:=[b]) λe he=>by simp at he;subst he;show A).2;show IE G.gd.K G.gd.u r (cV y) Q T ha (bR a X _ G.gd h7) (t6 q) ?_ J st;rw[sa];rfl
 |.aug sub i a e,X,f,G,h=>by
  apply Fo h;intro t op b p Y;clear h;have h:=Y;apply ir h;intro o a' p1 k;apply cm k;intro x px l;simp only[et,decide_eq_true_eq]at l;obtain⟨⟨⟨⟨⟨⟨⟨rfl,r⟩,y⟩,B⟩,q⟩,J⟩,A⟩,h7⟩:=l;have ha:=LS (C:=C) (Γ:=Γ) (d:=d) (ck:=ck) G.gd h7 A;have(Q,T):=bo B;show Ko r (cV y) Q T ha (bR a X _ G.gd J) (Fu q)
 |.Vv i,X,f,G,h=>absurd (show cK=cb from h) qp
 |.exp e,X,f,G,h=>by
  apply lZ h;intro e' p Y;clear h;have h:=Y;simp only[et]at h;show Kc (bR e X _ G.gd h.2) (jP h.1)
 |.ret e,X,f,G,h=>by
  apply xK h;intro v p Y;apply B3 Y;intro e' k;clear h Y;have h:=k;show Ke (bR e X _ G.gd h)
 |.OA i e,X,f,G,h=>by
  have g:=G.gd;apply xK h;intro v0 p0 y0;apply B3 y0;intro v y1;clear h y0;have h:=y1;apply B0 h;intro elt tg ac scope p k;apply dS k;intro o m ab as A' l;apply cm l;intro x px L;simp only[et,decide_eq_true_eq,Rx]at L;obtain⟨⟨⟨⟨⟨⟨⟨⟨⟨⟨rfl,rfl⟩,r⟩,y⟩,B⟩,q⟩,J⟩,A⟩,h7⟩,h8⟩,h9⟩:=L;cases tg with
  |Tuple es kx ps =>
   have(Q,T):=bo B;have S:=uY (X:=X) rfl (kB _ _) h7;rw[<-A]at h8;show IF r (cV y) Q T q S g.calm A (λD s H ex=>t7 (fa:=λ_=>cK) g.calm g.K S.nd (λ_ z=>nomatch z) h8) (λD s H ex=>bR e _ _ (g.cx _ _ _ _ _ _) h9)
  |_=>cases J
 |.QJ,X,f,G,h=>absurd (show cK=cb from h) qp
 |.ite c a b,X,f,G,h=>by
  apply Fq h;intro c' a' b' p Y;clear h;have h:=Y;simp only[et]at h;have ha:=nZ a X _ G h.1.2;have hb:=nZ b X _ G h.2;show Kf (rG c X _ G.gd h.1.1) (Nh.weak ha λD σ H z=>rq (λj O=>(Qq.mp (show(NV a j&&NV b j)=cb from O)).1) z) (Nh.weak hb λD σ H z=>rq (λj O=>(Qq.mp (show(NV a j&&NV b j)=cb from O)).2) z)
 |.Mi t is ik src body,X,f,G,h=>by
  apply Fs h;intro tg ac Og p Y;clear h;have h:=Y;rw[et,et,et]at h;show Kh G.po G.gd.calm (xO G.gd h.1.2) (t7 (fa:=λ_=>cb) G.gd.calm G.gd.K G.nd (λx _=>G.fn x) h.1.1.1) (nZ body X _ G h.2) (vH h.1.1.2) λj O=>by have O:(dV (j∉is)&&NV body j)=cb:=O;simpa using O
 |.QK c body,X,f,G,h=>by
  apply IQ h;intro c' Og p Y;clear h;have h:=Y;simp only[et]at h;show Kg G.po (rG c X _ G.gd h.1) (nZ body X _ G h.2)
 |.brk,X,f,G,h=>absurd (show cK=cb from h) qp
 |.cnt,X,f,G,h=>absurd (show cK=cb from h) qp
 |.Uo is,X,f,G,h=>absurd (show cK=cb from h) qp
 |.Vw,X,f,G,h=>absurd (show cK=cb from h) qp
theorem nZ:∀(ss:↑S) (X:Cx) (a:↑T'),Gs ck Γ C d X->eM ck ss X.N X.env.scope a=cb->Nh X a (Na C (NV ss) (execs Γ ss))
 |[],X,a,G,h=>by
  cases a with
  |nil=>show Kb
  |cons _ _=>simp[eM]at h
 |s::ss,X,a,G,h=>by
  cases a with
  |nil=>simp[eM]at h
  |cons c a =>
   simp only[eM,et]at h;have e:=LU s X c G h.1;have f:=nZ ss X a G h.2;show Iw (PS.weak e λD σ H z=>rq (λj b=>by simp only[NV,et]at b;show b.1) z) (Nh.weak f λD σ H z=>rq (λj b=>by simp only[NV,et]at b;show b.2) z)
end
end
section
variable{ck:Ck}{Γ:Tab}{d:Nat}{P:vl}{w:OE}{K:PySem.W.Frag}{mg:Str->Option hY}{base:Qy}
def kC{n i:Nat}(h:(start us n)[i]?≈bD (k,u)):us[i]?≈u/\k=if Mr u=cb then .loc else .any:=by
 unfold start at h;by_cases hi:i<⇑us
 .rw[vr ⋯,hU]at h;rw[nC hi]at h ⊢;simp only[WW,US,Α]at h;have(a,b):=h;subst b;show#[rfl,a.symm]
 .rw[sx ⋯,SA]at h;simp_all
def dB{i:Nat}(h:vs[i]?≈v):(L2.start N vs)[i]?≈bD v:=by
 unfold L2.start;have hi:=(eH.mp h).1;rw[vr ⋯,hU,h];rfl
def B5(p:∀a,c a->Pf H a)(h:ai (QP P w K H c) c H us vs)(q:⇑N=n):Ok (QP P w K H c) ⟨λ_=>False,H,L2.start N vs,start us n,λ_=>[]⟩:=by
 have f:∀(j:Nat) u,(start us n)[j]?≠bD (bD (.F',u)):=λj u e=>by
  have:=(kC e).2;split at this<;>cases this
 show#[λa o e _=>e,λa z=>z.elim,λa z=>#[p a z,λz=>z],λa z=>z.elim,?_,λi k u e=>?_,λi j k k' u u' r hk t g m x y=>?_,#[λj u r e _=>(f j u e).elim,λi j a ⟨u,_,e,_,_⟩=>(f i u e).elim,λj a ⟨u,_,e,_,_⟩=>(f j u e).elim]]
 .have:=h.len;simp[start,L2.start,q];lia
 .have(g,m):=kC e;have(v,ev,b):=h.get g;show#[v,dB ev,?_];subst m;by_cases l:Mr u=cb
  .rw[if_pos l];show Rep.Mr l b
  .rw[if_neg l];show Rep.mv (.up λa z=>.inl z) b
 .have(_,s):=kC g;subst s;split at hk<;>cases hk
def rL(h:bt Γ fn us≈.ok (k,u)):⇑us=fn.np/\((k=.own\/k=.loc\/k=.any)/\(∃st',execs Γ fn.body (start us fn.ns)≈(.ok (.rt k u),st'))\/(k=.loc/\u=.Mc/\∃st',execs Γ fn.body (start us fn.ns)≈(.ok .nx,st'))):=by
 unfold bt at h;split at h
 .rename_i hl;show#[hl,?_];split at h
  .rename_i e;cases h;show .inl #[.inl rfl,_,e]
  .rename_i e;cases h;show .inl #[.inr (.inl rfl),_,e]
  .rename_i e;cases h;show .inl #[.inr (.inr rfl),_,e]
  .rename_i e;cases h;show .inr #[rfl,rfl,_,e]
  .cases h
  .cases h
 .cases h
def Gp{st}(F:QZ K fn.name j st f D)(S:eT N ps (bc st))(I:⇑N=fn.ns)(J:⇑ps=fn.np)
  (L:eM ck fn.body N (bc st) (c8 st)=cb) (l:∀x∈bU,mg x=b6) (m:∀g∈ck.fns,Fg P w K mg base d (Γ g) g)
  (O:∀p∈ck.gl,∃b v,mg p.1≈b/\RelV v b/\∀C S H,Rep C S H p.2 v) (T:∀p∈ck.Pq,Fh P w K mg base d (Γ p.1) p.1 p.2):oP P w K mg base Qc (d+1) f D ps (spT P w K (bt Γ fn) fn.np):=by
 show F.ok S (λvs H Q E h=>h.1.trans J.symm) (λY A outer s H vs Q E B h=>?_);have(hl,us,k,u,q,Mo,hk,t,y,i):=h;have QO:=B.un;have G:Gs ck Γ (QP P w K H q) d (sE Qc P w K mg base N j _ f Y A outer s H E).Sy :=
  #[#[rfl,rfl,rfl,by change(A.deeper _).units+60<MJ;lia,rfl,B,l,m,λp hp=>let ⟨b,v,q1,q2,q3⟩:=O p hp;⟨b,v,q1,q2,q3 _⟩,#[T]],S.nd,λ_=>rfl,ņ,S.kind]
 show#[_,nZ _ _ _ G L,_,rfl,rfl,B5 t y I,?_];have(_,Yo):=rL Mo;have mk:∀c,Ok (QP P w K H q) c->∀v,Iv _ c k u v->Back (QP P w K H q) H c.H c.S k u v:=λc ok v r=>by
  show#[λa o e=>ok.same a o e λz=>z,λa z=>ok.NJ a z,λe=>?_,λe=>?_,λe=>?_]
  .subst e;have(r0,e,h1,h2,h3,h4):=r;show#[r0,e,h1,h2,h4]
  .subst e;show r
  .subst e;show r
 rcases Yo with⟨_,st',e⟩|⟨rfl,rfl,st',e⟩
 .show#[_,st',e,λc ec ok n kp v r=>i v c.H c.S (mk c ok v r)]
 .show#[_,st',e,λc ec ok n kp=>i .Mc c.H c.S (mk c ok .Mc rfl)]
def je(h:(fh is us n)[i]?≈bD (k,u)):us[i]?≈u/\k=if i∈is then .io else if Mr u=cb then .loc else .any:=by
 unfold fh at h;by_cases hi:i<⇑us
 .rw[vr ⋯,hU,ZZ]at h;rw[nC hi]at h ⊢;simp only[WW,US,Α,UJ]at h;have(a,b):=h;subst b;show#[rfl,a.symm]
 .rw[sx ⋯,SA]at h;simp_all
def zy(a:Kr C C.H₀ is us vs)(s:⇑N=n):Ok C #[λ_=>False,C.H₀,L2.start N vs,fh is us n,λ_=>[]]:=by
 have g:∀(j:Nat) u,(fh is us n)[j]?≠bD (bD (.F',u)):=λj u e=>by
  have:=(je e).2;split at this
  .grind
  .split at this<;>cases this
 have rt:∀j k u,k.root=cb->(fh is us n)[j]?≈bD (k,u)->j∈is/\us[j]?≈u:=λj k u hk e=>by
  have(f,b):=je e;show#[?_,f];by_cases z:j∈is
  .show z
  .rw[if_neg z]at b;subst b;split at hk<;>cases hk
 show#[λa o e _=>e,λa z=>z.elim,λx z=>a.par x z,λx z=>#[a.iod x z,a.iod x z],?_,λi k u e=>?_,λi j k k' u u' r hk t f b l m=>?_,#[λj u r e _=>(g j u e).elim,λi j a ⟨u,_,e,_,_⟩=>(g i u e).elim,λj a ⟨u,_,e,_,_⟩=>(g j u e).elim]]
 .have:=a.len;simp[fh,L2.start,s];lia
 .have(f,b):=je e;by_cases z:i∈is
  .rw[if_pos z]at b;subst b;have(r,b1,c,b3):=a.io i u z f;show#[_,dB b1,r,rfl,λz=>z,λz=>(a.par r z).2 c,c,b3]
  .rw[if_neg z]at b;have(v,b1,c):=a.any i u z f;show#[v,dB b1,?_];subst b;by_cases h:Mr u=cb
   .rw[if_pos h];show Rep.Mr h c
   .rw[if_neg h];show Rep.mv (.up λa z=>.inl z) c
 .have(p,y):=rt i k u hk f;have(q,A):=rt j k' u' t b;have(B,b1,_):=a.io i u p y;have(D,c,_):=a.io j u' q A;rw[dB b1]at l;rw[dB c]at m;cases l;cases m;show a.inj i j _ p q b1 c
theorem xP:∀{is}{st}{ws},Ut is st≈ws->⇑ws=⇑is/\∀(n i:Nat),is[n]?≈i->∃w,ws[n]?≈w/\st[i]?≈bD (.io,w)
 |[],_,_,h=>by cases h;show#[rfl,λn i e=>by simp at e]
 |i::is,st,ws,h=>by
  unfold Ut at h;split at h
  .rename_i u c;rw[eu]at h;have(f,h,rfl):=h;have(a,b):=xP h;show#[by simp[a],λn j e=>?_];cases n with
   |zero=>simp at e;subst e;show#[u,rfl,c]
   |succ n=>simp_all
  .cases h
def xQ(h:Bn Γ fn is body us≈.ok r):⇑us=fn.np/\∃f st k u ws,execs Γ body (fh is us fn.ns)≈(.ok f,st)/\ZL f≈(k,u)/\Ut is st≈ws/\r=(k,.tup (u::ws)):=by
 unfold Bn at h;split at h
 .rename_i hl;show#[hl,?_];split at h
  .rename_i f st e;have((k,u),a,h):=l'.mp h;rw[eu]at h;have(ws,b,c):=h;cases c;show#[f,st,k,u,ws,e,a,b,rfl]
  .cases h
 .cases h
def IT{st}(F:QZ K fn.name j st f fd)(S:eT N ps (bc st))(hN:⇑N=fn.ns)(Om:⇑ps=fn.np)(ND:∀i∈is,NV body i=cb)
  (Sj:eM ck body N (bc st) (c8 st)=cb) (y:∀x∈bU,mg x=b6) (B:∀g∈ck.fns,Fg P w K mg base d (Γ g) g)
  (Pt:∀p∈ck.gl,∃b v,mg p.1≈b/\RelV v b/\∀C S H,Rep C S H p.2 v) (Pq:∀p∈ck.Pq,Fh P w K mg base d (Γ p.1) p.1 p.2):oP P w K mg base Qc (d+1) f fd ps (spI P w K (Bn Γ fn is body) fn.np is):=by
 show F.ok S (λvs H Q E h=>h.1.trans Om.symm) (λJ A outer s H vs Q E L h=>?_);have(hl,us,k,u,ws,m,IO,Mo,hk,D,l):=h;have QO:=L.un;have G:Gs ck Γ (Sg P w K H m IO) d (sE Qc P w K mg base N j (bc st) f J A outer s H E).Sy :=
  #[#[rfl,rfl,rfl,by change(A.deeper (à j (bc st) ↥s f J)).units+60<MJ;lia,rfl,L,y,B,λp hp=>let ⟨b,v,q1,q2,q3⟩:=Pt p hp;⟨b,v,q1,q2,q3 _⟩,#[Pq]],S.nd,λ_=>rfl,ņ,S.kind]
 show#[_,nZ body _ _ G Sj,#[λ_=>False,H,L2.start N vs,fh is us fn.ns,λ_=>[]],rfl,rfl,zy (C:=Sg P w K H m IO) D hN,?_];have(_,O,st',k',u',Qp,e,o,e2,e3):=xQ Mo;cases e3;have(l1,l2):=xP e2;have mk:∀c,c.st=st'->Ok (Sg P w K H m IO) c->Kept (NV body) #[λ_=>False,H,L2.start N vs,fh is us fn.ns,λ_=>[]] c->∀v,Iv (Sg P w K H m IO) c k u v->Gk (Sg P w K H m IO) H c.H c.S is vs ws k u v:=λc q ok t v r=>by
  show#[ok.same,λa z=>ok.NJ a z,λe=>?_,λe=>?_,l1,λn i r w T g2 g3=>?_]
  .subst e;have(r0,e,h1,h2,h3,h4):=r;show#[r0,e,h1,h2,h4]
  .subst e;show r
  .have(w',Y,z2):=l2 n i T;rw[g3]at Y;cases Y;rw[<-q]at z2;have(v',I,r',y2,_,_,_,y3):=ok.sl i _ _ z2;have hi:i∈is:=k8 T;rw[t.1 i (ND i hi)]at I;rw[show(L2.start N vs)[i]?≈bD (.ref r) from dB g2]at I;cases I;cases y2;show y3
 show#[O,st',e,λc q ok n t=>?_];cases O with
 |nx=>cases o;show l .Mc c.H c.S (mk c q ok t .Mc rfl)
 |rt k0 u0=>cases k0<;>first|(cases o;done)|(cases o;show λv r=>l v c.H c.S (mk c q ok t v r))
 |_=>cases o
abbrev Fn.bd(fn:Fn):↑S:=match fn.io with|some (_,b)=>b|none=>fn.body
abbrev VE(fn:Fn):Bool:=match fn.io with|some (is,b)=>is.all λi=>NV b i|none=>cb
abbrev VF(ck:Ck)(Pg:↑Fn):Bool:=ck.fns.all (λg=>Pg.any λfn=>dV (fn.name=g)&&fn.io.isNone)&&ck.Pq.all λp=>Pg.any λfn=>dV (fn.name=p.1)&&dV (fn.io.map (·.1)≈p.2)
structure Ld(ck:Ck)(K:W.Frag)(mg:Str->Option hY)(fn:Fn):Prop where
 ex:∃(qual:Str) (st:T') (f:k7) (fd:ß) (N ps:↑Str),QZ K fn.name qual st f fd/\mg fn.name≈.ref f/\Binds K fd ps []/\eT N ps (bc st)/\⇑N=fn.ns/\⇑ps=fn.np/\eM ck fn.bd N (bc st) (c8 st)=cb/\VE fn=cb
def Fv{Pg:↑Fn}(a:(Pg.map (·.name)).Nodup)(h:fn∈Pg):Pg.find? (λg=>dV (g.name=fn.name))≈fn:=by
 induction Pg with
 |nil=>cases h
 |cons g Pg b =>
  rw[gr,qb]at a;rcases f6.mp h with rfl|h
  .simp
  .rw[List.find?_cons];have:dV (g.name=fn.name)=cK:=by
    apply decide_eq_false;intro z;show a.1 (z▸Xs h)
   rw[this];show b a.2 h
def vL(a:(Pg.map (·.name)).Nodup)(h:fn∈Pg):Ml Pg (d+1) fn.name=pd (Ml Pg d) fn:=by
 funext us
 change(match Pg.find? λg=>decide _ with|some fn=>pd _ fn us|none=>b6)=_;rw[Fv a h]
def pZ(h:fn.io=b6):pd Γ fn=bt Γ fn:=by unfold pd;rw[h]
def zA(h:fn.io≈(is,b)):pd Γ fn=Bn Γ fn is b:=by unfold pd;rw[h]
def xR(O:(Pg.map (·.name)).Nodup)(o:VF ck Pg=cb)(q:∀x∈bU,mg x=b6)(T:∀p∈ck.gl,∃t v,mg p.1≈t/\RelV v t/\∀C S H,Rep C S H p.2 v)
  (ld:∀fn∈Pg,Ld ck K mg fn):∀d,(∀g∈ck.fns,Fg P w K mg base d (Ml Pg d g) g)/\∀p∈ck.Pq,Fh P w K mg base d (Ml Pg d p.1) p.1 p.2:=by
 simp only[VF,et,nH,ø,decide_eq_true_eq]at o;intro d;induction d with
 |zero =>
  show#[λg I=>?_,λp J=>?_]
  .have(fn,i,rfl,_):=o.1 g I;have(a,st,f,j,N,ps,F,l,m,S,B,n,_):=(ld fn i).ex;show#[_,f,j,ps,#[λvs H Q E h=>h.1.trans n.symm,λA outer s H args us vs Q E _ _ _ _ h=>by have(_,us,k,u,_,e,_):=h;cases e],l,F.kp,m,λus k u e=>by cases e]
  .have(fn,i,e,_):=o.2 p J;have(a,st,f,j,N,ps,F,l,m,S,B,n,_):=(ld fn i).ex;show#[fn.np,f,j,ps,#[λvs H Q E h=>h.1.trans n.symm,λA outer s H args us vs Q E _ _ _ _ h=>by have(_,us,k,u,_,_,_,e,_):=h;cases e],e▸l,F.kp,m,λus k e=>by cases e]
 |succ d G =>
  show#[λg I=>?_,λp J=>?_]
  .have(fn,i,rfl,c):=o.1 g I;rw[XS]at c;have(a,st,f,j,N,ps,F,l,m,S,B,n,D,_):=(ld fn i).ex;rw[vL O i,pZ c];rw[show fn.bd=fn.body by unfold Fn.bd;rw[c]]at D;show#[_,f,j,ps,Gp F S B n D q G.1 T G.2,l,F.kp,m,λus k u e=>?_];have(h1,h2):=rL e;show#[?_,h1];rcases h2 with⟨z,_⟩|⟨z,_⟩
   .show z
   .show .inr (.inl z)
  .have(fn,i,e,c):=o.2 p J;rw[eu]at c;have((is,b),c,Y):=c;have(x,y):=p
   dsimp only at e Y
   subst e Y;have(a,st,f,j,N,ps,F,l,m,S,B,n,D,L):=(ld fn i).ex;rw[vL O i,zA c];rw[show fn.bd=b by unfold Fn.bd;rw[c]]at D;unfold VE at L;rw[c]at L;show#[fn.np,f,j,ps,IT F S B n (nH.mp L) D q G.1 T G.2,l,F.kp,m,λus r e=>(xQ e).1]
end
abbrev Fw(a:↑Int):U:=.lst (a.map .int)
theorem p_{S}:∀(a:↑Int),ai C S H (a.map .int) (a.map V.int)
 |[]=>rfl
 |n::a=>#[_,_,rfl,rfl,p_ a]
def vM(h:Mz C.K H a (b.map V.int)):Rep C (Pf H) H (Fw b) (.ref a):=by
 show#[a,_,rfl,?_,p_ b];rcases h with(h|⟨o,h⟩)|h
 .show .inl #[#[_,h],.inl h]
 .show .inl #[#[_,h],.inr #[o,h]]
 .show .inr h
theorem t_:∀{l:↑α},(∀a∈l,f a=g a)->l.filterMap f=l.filterMap g
 |[],_=>rfl
 |a::l,h=>by rw[Sr,Sr,h a ⋯,t_ λb c=>h b (by simp[c])]
theorem xS:∀(l:↑Str) (us:↑hY),l.Nodup->⇑us=⇑l->l.filterMap (λn=>((l.zip us).lookup n).map (n,·))=l.zip us
 |[],_,_,_=>rfl
 |a::l,[],_,h=>nomatch h
 |a::l,u::us,b,h=>by
  rw[qb]at b;have c:=xS l us b.2 (by simpa using h);simp only[Ù,Sr,KX,beq_self_eq_true,WW];congr 1
  conv=>rhs;rw[<-c]
  show t_ λn d=>?_;have:(n==a)=cK:=by
   rw[beq_eq_false_iff_ne];rintro rfl;simp_all
  rw[this]
def B6(l:↑Str)(us:↑hY)(h:⇑us=⇑l):l.filter (λn=>((l.zip us).lookup n).isNone)=[]:=by
 rw[Y'];intro n hn;induction l generalizing us with
 |nil=>cases hn
 |cons a l b =>
  cases us with
  |nil=>cases h
  |cons u us =>
   simp only[Ù,KX];cases e:n==a with
   |true=>simp
   |false =>
    rcases f6.mp hn with rfl|hn
    .simp at e
    .show b us (by simpa using h) hn
def B7{kV a b c ct}(d:(as.map (·.arg)).Nodup)(hl:⇑us=⇑(as.map (·.arg))):
  bindArgs (W.fnOf x q #[[],as,b6,[],[],b6,[]] body scope .none kV a b m c ct) #[us,[]]=pure ((as.map (·.arg)).zip us):=by
 have e:=xS _ us d hl;have f:=B6 _ us hl;change(if _ then _ else _)=_;rw[if_neg (by simp[hl])];have g:∀k ,¬(!(((as.map (·.arg)).take k).filter λn=>(((as.map (·.arg)).zip us).lookup n).isNone).isEmpty)=cb:=λk=>by
  rw[Y'.mpr λn h=>Y'.mp f n (Ŋ h)];show qp
 show(if_neg (g _)).trans ?_;have hz:∀(l:↑Str) i j,(l.drop i).zip ((b6.getD #v[]:Array hY).toList.drop j)=[]:=λl i j=>by simp
 show Eq.trans (congrArg (λz=>Bind.bind (ϴ z _ _) _) (hz _ _ _)) ?_;show congrArg (pure:↑(Str×hY)->Sem (↑(Str×hY))) ((congrArg (List.filterMap _) (Ot _)).trans e)
abbrev IU(v:Option (Option hY))(a:k7):Bool:=match v with|some (bD (.ref b))=>dV (b=a)|_=>cK
def Fx(h:IU v a=cb):v≈bD (.ref a):=by
 unfold IU at h;split at h
 .rw[of_decide_eq_true h]
 .cases h
abbrev nn(o:Option (Option hY)):Bool:=match o with|some b6=>cb|_=>cK
def Ky(h:nn o=cb):o≈b6:=by
 unfold nn at h;split at h
 .rfl
 .cases h
abbrev Kz(p:Arguments)(ps:↑Str):Bool:=p.posonlyargs.isEmpty&&p.vararg.isNone&&p.kwonlyargs.isEmpty&&p.kw_defaults.isEmpty&&p.kwarg.isNone&&p.defaults.isEmpty&&dV (p.args.map (·.arg)=ps)
abbrev scB(N:↑Str)(b:Nat)(a:TH):Bool:=dV (a.kind=.function)&&dV (a.isCoroutine=cK)&&dV (a.isGenerator=cK)&&decide N.Nodup&&(N.take b).all (rC a)&&a.names.all (λy=>dV (y.2≠.free))
abbrev mOk(ck:Ck)(top:Nat->T')(K:W.Frag)(m:Me):Bool:=W.codeIn K (.ref m.c) m.fn.name&&W.keepIn K (.ref m.a)&&IU (W.nsIn K O_ m.fn.name) m.a&&Kz (hV (top m.i)) (m.N.take m.fn.np) &&
 scB m.N m.fn.np (bc (top m.i))&&dV (⇑m.N=m.fn.ns)&&dV (m.fn.np<=m.fn.ns)&&(eM ck m.fn.bd m.N (bc (top m.i)) (c8 (top m.i))&&VE m.fn)
abbrev glK(K:W.Frag)(p:Str×U):Bool:=match p.2,W.nsIn K O_ p.1 with
 |.int i,bD (bD (.int j _))=>dV (i=j)
 |.str i,bD (bD (.str j _))=>dV (i=j)
 |_,_=>cK
abbrev Rj(ck:Ck)(top:Nat->T')(K:W.Frag)(ms:↑Me):Bool:=ms.all (mOk ck top K)&&bU.all (λy=>nn (W.nsIn K O_ y))&&ck.gl.all (glK K)&&dV (K.map (·.1)).Nodup
def KA{K:W.Frag}(b:(K.map (·.1)).Nodup)(h:(a,o)∈K):K.lookup a≈o:=by
 induction K with
 |nil=>cases h
 |cons p K c =>
  rw[gr,qb]at b;rw[KX];rcases f6.mp h with rfl|h
  .simp
  .have:(a==p.1)=cK:=by
    rw[beq_eq_false_iff_ne];rintro rfl;show b.1 (hW.mpr #[_,h,rfl])
   rw[this];show c b.2 h
def Gq(c:Rj ck top (OC top g ms) ms=cb)(h:m∈ms):QZ (OC top g ms) m.fn.name m.fn.name (top m.i) m.a (m.fd top)/\W.nsIn (OC top g ms) O_ m.fn.name≈bD (.ref m.a) /\
  (∀us,⇑us=⇑(m.N.take m.fn.np)->bindArgs (m.fd top) #[us,[]]=pure ((m.N.take m.fn.np).zip us))/\eT m.N (m.N.take m.fn.np) (bc (top m.i))/\⇑m.N=m.fn.ns/\⇑(m.N.take m.fn.np)=m.fn.np/\(eM ck m.fn.bd m.N (bc (top m.i)) (c8 (top m.i))=cb/\VE m.fn=cb):=by
 simp only[Rj,et,decide_eq_true_eq]at c;have z:=nH.mp c.1.1.1 m h;simp only[mOk,et,decide_eq_true_eq]at z;obtain⟨⟨⟨⟨⟨⟨⟨l,n⟩,o⟩,b⟩,f⟩,p⟩,A⟩,q⟩:=z;simp only[scB,et,decide_eq_true_eq]at f;obtain⟨⟨⟨⟨⟨s1,r⟩,s⟩,j⟩,t⟩,u⟩:=f;have d:(OC top g ms).lookup m.a≈m.fo top:=KA c.2 (f6.mpr (.inr (List.mem_flatMap.mpr #[m,h,by simp])));have hl:⇑(m.N.take m.fn.np)=m.fn.np:=⋯
 show#[Hb d l n,Fx o,λus k=>?_,#[s1,r,s,j,by rw[hl],λx v=>?_,λy w=>?_],p,hl,q]
 .unfold Me.fd;revert b;cases hV _ with
  |mk B as C D G H I =>
   intro b;simp only[Kz,et,Rx,XS,decide_eq_true_eq]at b;obtain⟨⟨⟨⟨⟨⟨rfl,rfl⟩,rfl⟩,rfl⟩,rfl⟩,rfl⟩,e⟩:=b;rw[<-e]at k ⊢;show B7 (by rw[e];show(ŷ _ _).nodup j) k
 .have:=nH.mp t x v;simpa[rC] using this
 .have:=nH.mp u y w;simpa using this
def KC{h}{mg}(i:Rj ck top (OC top g ms) ms=cb)(X:(OC top g ms).In h)(G:h.Ns O_ mg){m}(hi:m∈ms):Ld ck (OC top g ms) mg m.fn :=
 let ⟨a,b,c,d,e,f,k⟩:=Gq i hi
 ⟨_,_,_,_,_,_,a,W.mg_of X G b,.all c,d,e,f,k⟩
def IV(d:Rj ck top (OC top g ms) ms=cb)(X:(OC top g ms).In h)(G:h.Ns O_ mg):∀p∈ck.gl,∃a v,mg p.1≈a/\RelV v a/\∀C S H,Rep C S H p.2 v:=by
 intro p e;simp only[Rj,et]at d;have z:=nH.mp d.1.2 p e;unfold glK at z;split at z
 .rename_i i j k b c;obtain rfl:=of_decide_eq_true z;show#[_,.int i,W.mg_of X G c,#[_,rfl],λ_ _ _=>by rw[b];rfl]
 .rename_i i j k b c;obtain rfl:=of_decide_eq_true z;show#[_,.str i,W.mg_of X G c,#[_,rfl],λ_ _ _=>by rw[b];rfl]
 .cases z
def walk{l:W.OpenLaw}{K:Ū->W.Frag}
  (B:l.most≈63) (D:d.params.defaults=[]) (I:iP (dp+1) Â) (J:∀w h,L w h->(K w.params).In h)
  (m:(Pg.map (·.name)).Nodup) (A:VF ck Pg=cb) (O:fn.io=b6) (Q:fn∈Pg) (Qa:fn.name=d.name)
  (F:∀(w:OE) mg fa h,(K w.params).In h->h.Ns O_ mg->mg d.name≈.ref fa ->
   (∀y∈bU,mg y=b6)/\(∀p∈ck.gl,∃i v,mg p.1≈i/\RelV v i/\∀C S H,Rep C S H p.2 v)/\(∀g∈Pg,Ld ck (K w.params) mg g) /\
   ∃c st j N,QZ (K w.params) fn.name c st fa j/\eT N [x] (bc st)/\⇑N=fn.ns/\1=fn.np/\eM ck fn.body N (bc st) (c8 st)=cb/\∀s u,ŭ s j #[[u],[]] [(x,u)])
  (T:∀k,⇑k<=63->Ml Pg (dp+1) fn.name [Fw k]≈.ok (.loc,.bl cb)) :
  W.WalkO q n XP L l.row.toRowW d [] (λf vs=>PySem.call f vs) :=
 L2.DR      B ⋯ D I J
  (λw mg fa h Y G Tu=>by
   have(e,o,ld,c,st,j,N,F1,S,hN,Om,hc,hb):=F w mg fa h Y G Tu;show#[j,hb,λbase _ _=>Gp F1 S hN Om hc e (xR m A e o ld dp).1 o (xR m A e o ld dp).2])
  (λw H a k hl _ hS=>by
   have t:=T k hl;rw[vL m Q,pZ O]at t;have r:=(rL t).1.symm;show#[r.symm,_,.loc,_,_,t,.inr (.inl rfl),λ_ z=>z,#[_,_,rfl,vM hS,rfl],λv H' S' b=>b.loc rfl])
  λ_ _ _ _ _ z=>z
def walk2{l:W.OpenLaw}{g:Ū->Obj}
  (A:l.most≈63) (B:d.params.defaults=[]) (C:iP (dp+1) Â) (o:ms.map (·.fn)=Pg) (D:(Pg.map (·.name)).Nodup) (H:VF ck Pg=cb) (p:m.fn.io=b6) (r:m∈ms) (t:m.fn.name=d.name) (I:m.N.take m.fn.np=[x])
  (ok:∀P,Rj ck top (OC top (g P) ms) ms=cb) (T:∀v,⇑v<=63->Ml Pg (dp+1) m.fn.name [Fw v]≈.ok (.loc,.bl cb)) :
  W.WalkO q j L (W.kHook (λP=>OC top (g P) ms) (adr ms) λP=>xT top (g P) ms).says l.row.toRowW d [] (λf vs=>PySem.call f vs) :=
 walk A B C (λw h Y=>W.kIn_of Y) D H p (o▸hW.mpr #[m,r,rfl]) t (λw mg fa h X G z=>by
  have hk:=ok w.params;have(a,b,c,e,f,k,n):=Gq hk r;rw[<-t,W.mg_of X G b]at z;cases z;rw[I]at c e k;show#[λy i=>W.mg_none_of X G (Ky ?_),IV hk X G,λy i=>?_,_,_,_,_,a,e,f,k,by have:=n.1;rw[show m.fn.bd=m.fn.body by unfold Fn.bd;rw[p]]at this;lia,λs u=>.of_eq (c [u] rfl)]
  .simp only[Rj,et]at hk;show nH.mp hk.1.1.2 y i
  .rw[<-o]at i;have(O,J,rfl):=hW.mp i;show KC hk X G J) T
end TM
namespace TM
open PySem L2
@[reducible]noncomputable def oL(xs:↑U):Kd×U:=(Kd.own,U.lst xs)
@[reducible]noncomputable def lI(i:Int):Kd×U:=(Kd.loc,U.int i)
@[reducible]noncomputable def lS(x:Str):Kd×U:=(Kd.loc,U.str x)
@[reducible]noncomputable def lT(xs:↑U):Kd×U:=(Kd.loc,U.tup xs)
@[reducible]noncomputable def aL(xs:↑U):Kd×U:=(Kd.any,U.lst xs)
@[reducible]noncomputable def lB(b:Bool):Kd×U:=(Kd.loc,U.bl b)
@[reducible]noncomputable def Sl:=Option (Kd×U)
abbrev Run(m:M α)(st:aK)(a:α)(st':aK):Prop:=m st≈(.ok a,st')
def ag(c:Run m st a st1)(d:Run (f a) st1 b st2):Run (m >>= f) st b st2:=by
 change M.bind m f st=_;unfold M.bind;rw[c];show d
def bu:Run (pure a:M α) st a st:=rfl
def cY(h:o≈a):Run (M.Mw o) st a st:=by subst h;rfl
def bH(h:bB rs st):Run (aR rs) st () st:=by change aR rs st=_;unfold aR;simp_all
abbrev kv(i:Nat)(k:Kd):Kd:=if k.root=cb then .bor i else k
def iL(h:st[i]?≈bD (k,u))(hk:k≠.F':=by intro z;cases z):Run (dY i) st (kv i k,u) st:=by
 change dY i st=_;unfold dY;rw[h];cases k<;>first|rfl|show absurd rfl hk
def ae(h:st[i]?≈bD (.loc,u)):Run (ev Γ (.var i)) st (.loc,u) st:=iL h
def ay(h:st[i]?≈bD (.any,u)):Run (ev Γ (.var i)) st (.any,u) st:=iL h
def au(h:st[i]?≈bD (.own,u)):Run (ev Γ (.var i)) st (.bor i,u) st:=iL h
def aq:Run (ev Γ (.cst u)) st (.loc,u) st:=rfl
def lq:Run (ev Γ (.N8 x u)) st (.loc,u) st:=rfl
def cP(c:Run (ev Γ a) st x st1)(d:Run (ev Γ b) st1 y st2)(e:bB [x,y] st2)(f:Oe g x y≈r):Run (ev Γ (.bin g a b)) st r st2 :=
 ag c (ag d (ag (bH e) (cY f)))
def gU(d:Run (ev Γ a) st x st1)(e:Run (ev Γ b) st1 y st2)(f:bB [x,y] st2)(g:bJ h x.2 y.2≈c):Run (ev Γ (.cmp h a b)) st (lB c) st2 :=
 ag d (ag e (ag (bH f) (ag (cY g) bu)))
def aF(c:Run (ev Γ a) st x st1)(d:Run (ev Γ b) st1 y st2)(e:bB [x,y] st2)(f:fC x y.2≈r):Run (ev Γ (.idx a b)) st r st2 :=
 ag c (ag d (ag (bH e) (cY f)))
def xU:Run (R5 Γ []) st b6 st:=rfl
def xV(h:Run (ev Γ e) st (k,.int i) st1):Run (R5 Γ [e]) st (bD i) st1:=ag h rfl
def xW(b:Run (ev Γ a) st x st1)(c:Run (R5 Γ lo) st1 l st2)(d:Run (R5 Γ hi) st2 h st3)(e:bB [x] st3)(f:oZ x l h≈r):Run (ev Γ (.Pj a lo hi)) st r st3 :=
 ag b (ag c (ag d (ag (bH e) (cY f))))
def af:Run (cA Γ []) st [] st:=rfl
def aa(a:Run (ev Γ e) st r st1)(b:Run (cA Γ es) st1 rs st2):Run (cA Γ (e::es)) st (r::rs) st2:=ag a (ag b bu)
def bp(a:Run (cA Γ es) st rs st1)(b:bB rs st1)(c:Nm f rs≈r):Run (ev Γ (.bi f es)) st r st1:=ag a (ag (bH b) (cY c))
def qa(a:Run (cA Γ es) st rs st1)(b:bB rs st1)(c:tL f rs≈r):Run (ev Γ (.Pk f es)) st r st1:=ag a (ag (bH b) (cY c))
def lr(h0:Run (ev Γ a) st x st1)(b:Run (cA Γ es) st1 rs st2)(c:bB (x::rs) st2)(d:jH m x.2 rs≈r):Run (ev Γ (.N9 m a es)) st r st2:=ag h0 (ag b (ag (bH c) (cY d)))
def xX(h:Γ f us≈.ok r)(a:isAny r.1=cK):Run (pP Γ f us) st r st:=by
 have(k,u):=r;unfold pP;rw[h];cases k<;>first|rfl|cases a
def aB(a:Run (cA Γ es) st rs st1)(b:bB rs st1)(c:Γ f (rs.map (·.2))≈.ok r)(d:isAny r.1=cK:=by show rfl):Run (ev Γ (.call f es)) st r st1:=ag a (ag (bH b) (xX c d))
def fG(a:Run (cA Γ es) st rs st1)(b:bB rs st1)(c:Run (dP rs) st1 us st2)(d:⇑us<=dt):Run (ev Γ (.tup es)) st (lT us) st2:=by
 show ag a (ag (bH b) (ag c ?_));rw[if_pos d];rfl
def bY(a:Run (cA Γ es) st rs st1)(b:bB rs st1)(c:Run (dP rs) st1 us st2)(d:⇑us<=dt):Run (ev Γ (.lst es)) st (oL us) st2:=by
 show ag a (ag (bH b) (ag c ?_));rw[if_pos d];rfl
def gV:Run (ev Γ (.Nl r)) st (.own,if r=cb then .M9 [] else .J' [] []) st:=rfl
def B8:Run (lift (.own,u)) st u st:=rfl
def aG:Run (lift (.loc,u)) st u st:=rfl
def gW(h:Mr u=cb):Run (lift (.any,u)) st u st:=by
 change(if Mr u=cb then pure u else M.fail) st=_;rw[if_pos h];rfl
def aN:Run (dP []) st [] st:=rfl
def aC(a:Run (lift r) st u st1)(b:Run (dP rs) st1 us st2):Run (dP (r::rs)) st (u::us) st2:=ag a (ag b bu)
def vN(h:Run (ev Γ e) st r st1):Run (nN Γ [e]) st r st1:=h
def vO(h:Run (ev Γ e) st (k,.bl p) st1)(a:if p=cb then Run (nN Γ (b::es)) st1 r st2 else st2=st1/\r=(lB cK)):Run (nN Γ (e::b::es)) st r st2:=by
 show ag h ?_;cases p with
 |true=>show a
 |false=>have(rfl,rfl):=a;show bu
def B9(h:Run (nN Γ es) st r st1):Run (ev Γ (.and es)) st r st1:=h
def aM(d:Run (ev Γ a) st x st1)(e:Run (ev Γ b) st1 y st2)(f:bB [x,y] st2)(g:bJ h x.2 y.2≈c):Run (Mn Γ (.cmp h a b)) st c st2:=ag d (ag e (ag (bH f) (cY g)))
def fH(h:Run (Mn Γ a) st c st1):Run (Mn Γ (.not a)) st (!c) st1:=ag h bu
def qc(h:Run (aQ Γ es) st c st1):Run (Mn Γ (.and es)) st c st1:=h
def iD(h:Run (gN Γ es) st c st1):Run (Mn Γ (.or es)) st c st1:=h
def cB:Run (aQ Γ []) st cb st:=rfl
def gp(h:Run (Mn Γ e) st c st1):Run (aQ Γ [e]) st c st1:=h
def vP(h:Run (Mn Γ e) st cb st1)(a:Run (aQ Γ (b::es)) st1 c st2):Run (aQ Γ (e::b::es)) st c st2:=ag h a
def B_(h:Run (Mn Γ e) st cK st1):Run (aQ Γ (e::a::es)) st cK st1:=ag h bu
def d5(h:Run (Mn Γ e) st c st1):Run (gN Γ [e]) st c st1:=h
def KD(h:Run (Mn Γ e) st cb st1):Run (gN Γ (e::a::es)) st cb st1:=ag h bu
def bZ(h:Run (Mn Γ e) st cK st1)(a:Run (gN Γ (b::es)) st1 c st2):Run (gN Γ (e::b::es)) st c st2:=ag h a
def bh:Run (gE i (.own,u)) st () (st.set i (bD (.own,u))):=rfl
def aX:Run (gE i (.loc,u)) st () (st.set i (bD (.loc,u))):=rfl
def iM:Run (gE i (.any,u)) st () (st.set i (bD (.any,u))):=rfl
def KG(a:Run (ev Γ e) st r st1)(b:Run (gE i r) st1 () st2):Run (exec Γ (.set i e)) st .nx st2:=ag a (ag b bu)
def KH(h0:∃k' us',st[i]?≈bD (k',.lst us')/\k'≠.F')(b:Run (ev Γ e) st r st1)(c:Run (lift r) st1 u st2)(d:st2[i]?≈bD (k,.lst us))(hk:k.root=cb)(hl:⇑us<dt):
  Run (exec Γ (.app i e)) st .nx (st2.set i (bD (k,.lst (us++[u])))):=by
 have(k',us',h0,f):=h0;show ag (iL h0 f) (ag   rfl (ag b (ag c (ag (a:=()) ?_ bu))));change modS i _ st2=_;unfold modS;rw[d];simp only[hk,if_true];have e:Ez u (.lst us)≈.lst (us++[u]):=by change(if ⇑us<dt then _ else _)=_;simp_all
 rw[e]
def KI(a:Run (ev Γ e) st r st1)(b:Run (retS r) st1 f st2):Run (exec Γ (.ret e)) st f st2:=ag a b
def eN:Run (retS (.own,u)) st (.rt .own u) st:=rfl
def cy:Run (retS (.loc,u)) st (.rt .loc u) st:=rfl
def Gr(h:Mr u=cb):Run (retS (.any,u)) st (.rt .loc u) st:=by
 change(if Mr u=cb then(pure _:M Fl) else pure _) st=_;rw[if_pos h];rfl
def n9(h:st[j]?≈bD (.own,u)):Run (retS (.bor j,a)) st (.rt .own u) (st.set j b6):=by
 change(match st[j]? with|some (bD (.own,u))=>bD _|_=>b6)=_;rw[h]
def rM(d:Run (Mn Γ c) st cb st1)(e:Run (execs Γ a) st1 f st2):Run (exec Γ (.ite c a b)) st f st2:=ag d e
def vQ(d:Run (Mn Γ c) st cK st1)(e:Run (execs Γ b) st1 f st2):Run (exec Γ (.ite c a b)) st f st2:=ag d e
def ao:Run (execs Γ []) st .nx st:=rfl
def gF(a:Run (exec Γ s) st .nx st1)(b:Run (execs Γ ss) st1 f st2):Run (execs Γ (s::ss)) st f st2:=ag a b
def Ca(a:Run (exec Γ s) st (.rt k u) st1):Run (execs Γ (s::ss)) st (.rt k u) st1:=ag a bu
def aA(a:Run (ev Γ e) st r st1)(b:Run (gE i r) st1 () st2)(c:Run (execs Γ ss) st2 f st3):Run (execs Γ (.set i e::ss)) st f st3:=gF (KG a b) c
def jQ(h0:st[i]?≈bD (k',.lst us'))(a:Run (ev Γ e) st r st1)(b:Run (lift r) st1 u st2)(c:st2[i]?≈bD (k,.lst us))(hk:k.root=cb)(hl:⇑us<dt)
  (d:Run (execs Γ ss) (st2.set i (bD (k,.lst (us++[u])))) f st3) (g:k'≠.F':=by intro z;cases z):Run (execs Γ (.app i e::ss)) st f st3:=gF (KH #[_,_,h0,g] a b c hk hl) d
def bf(a:Run (ev Γ e) st r st1)(b:Run (retS r) st1 (.rt k u) st2):Run (execs Γ (.ret e::ss)) st (.rt k u) st2:=Ca (KI a b)
def dc(d:Run (Mn Γ c) st cb st1)(e:Run (execs Γ a) st1 .nx st2)(g:Run (execs Γ ss) st2 f st3):Run (execs Γ (.ite c a b::ss)) st f st3:=gF (rM d e) g
def aV(d:Run (Mn Γ c) st cK st1)(e:Run (execs Γ b) st1 .nx st2)(g:Run (execs Γ ss) st2 f st3):Run (execs Γ (.ite c a b::ss)) st f st3:=gF (vQ d e) g
def rN(d:Run (Mn Γ c) st cb st1)(e:Run (execs Γ a) st1 (.rt k u) st2):Run (execs Γ (.ite c a b::ss)) st (.rt k u) st2:=Ca (rM d e)
def KJ(a:Run (cA Γ src) st rs st1)(b:bB rs st1)(c:Nn ik rs≈xs)(d:xj rs is body=cb)(e:Run (forM t is (execs Γ body) rs xs) st1 f st2):
  Run (exec Γ (.Mi t is ik src body)) st f st2:=by
 show ag a (ag (bH b) (ag (cY c) ?_));rw[if_pos d];show e
def bV(a:Run (cA Γ src) st rs st1)(b:bB rs st1)(c:Nn ik rs≈xs)(d:xj rs is body=cb)(e:Run (forM t is (execs Γ body) rs xs) st1 .nx st2)(g:Run (execs Γ ss) st2 f st3):
  Run (execs Γ (.Mi t is ik src body::ss)) st f st3:=gF (KJ a b c d e) g
def xY(h:bB rs st):Run (forM t is body rs []) st .nx st:=ag (bH h) bu
def Fy(h:bB rs st)(a:Run (dZ t is x) st () st1)(b:Run body st1 .nx st2)(c:Run (forM t is body rs xs) st2 f st3):Run (forM t is body rs (x::xs)) st f st3:=ag (bH h) (ag a (ag b c))
theorem ua(I:↑(Kd×U)->aK->Prop)(hs:∀xs st,I xs st->bB rs st)(Κ:∀x xs st,I (x::xs) st->∃st1 st2,Run (dZ t is x) st () st1/\Run body st1 .nx st2/\I xs st2):
  ∀xs st,I xs st->∃st',Run (forM t is body rs xs) st .nx st'/\I [] st'
 |[],st,h=>#[st,xY (hs _ _ h),h]
 |x::xs,st,h=>by
  have(s1,a,b,c,d):=Κ x xs st h;have(e,f,g):=ua I hs Κ xs a d;show#[e,Fy (hs _ _ h) b c f,g]
def dC(h:Run (gE i r) st () st1):Run (dZ cK [i] r) st () st1:=h
def aw(a:⇑us=fn.np)(hk:k=.own\/k=.loc)(hs:start us fn.ns=st0)(h:Run (execs Γ fn.body) st0 (.rt k u) st):bt Γ fn us≈.ok (k,u):=by
 subst hs;unfold bt;rw[if_pos a,h];rcases hk with rfl|rfl<;>rfl
def ub{cond}(h:bB src st):Run (bO k t cond elt src [] a) st a st:=ag (bH h) bu
def n_{cond}(h:bB src st)(e:Run (dZ t (fS k) x) (hZ k b6++st) () s1)(f:Run cond s1 cb g)(i:Run elt g r j)(l:Run (lift r) j u d)
  (hl:⇑c<dt) (m:Run (bO k t cond elt src xs (c++[u])) (d.drop k) us st2):Run (bO k t cond elt src (x::xs) c) st us st2:=by
 show ag (bH h) (ag (a:=bD u) (st1:=d.drop k) ?_ ?_)
 .change inScope k _ st=_;unfold inScope;have hh:Run (dZ t _ x >>= λ_=>cond >>= λb=>if b=cb then(elt >>= λr=>lift r >>= λu=>pure (bD u)) else pure b6) _ _ d :=
   ag e (ag f (ag i (ag  l rfl)))
  rw[hh]
 simp_all
def vR{cond}(h:bB src st)(e:Run (dZ t (fS k) x) (hZ k b6++st) () s1)(f:Run cond s1 cK d)
  (g:Run (bO k t cond elt src xs c) (d.drop k) us st2):Run (bO k t cond elt src (x::xs) c) st us st2:=by
 show ag (bH h) (ag (a:=b6)  ?_ g);change inScope k _ st=_;unfold inScope;have hh:Run (dZ t _ x >>= λ_=>cond >>= λb=>if b=cb then(elt >>= λr=>lift r >>= λu=>pure (bD u)) else pure b6) _ b6 d :=
  ag e (ag f (rfl))
 rw[hh]
def bx{src cond}(a:Run (cA Γ src) st rs st1)(b:bB rs st1)(c:Nn ik rs≈xs)(d:Run (bO k t (aQ Γ cond) (ev Γ e) rs xs []) st1 us st2):Run (ev Γ (.comp k t ik src cond e)) st (oL us) st2 :=
 ag a (ag (bH b) (ag (cY c) (ag d bu)))
theorem Cb{cond}(h:bB src st)(g)(b:Kd×U->Kd):∀xs a,⇑a+⇑xs<=dt ->
  (∀x∈xs,x.1=.loc\/x.1=.any)->(∀x∈xs,Run cond (bD x::st) cb (bD x::st)/\Run elt (bD x::st) (b x,g x) (bD x::st)/\Run (lift (b x,g x)) (bD x::st) (g x) (bD x::st))->Run (bO 1 cK cond elt src xs a) st (a++xs.map g) st
 |[],a,_,_,_=>by rw[Tr,Ot];show ub h
 |x::xs,a,hl,hk,d=>by
  have(e,f,i):=d x ⋯;rw[nz]at hl;show n_     h ?_ e f i ⋯ ?_
  .have(k,u):=x;rcases hk _ (kj ..) with z|z<;>(cases z;rfl)
  .have:=Cb h g b xs (a++[g x]) (by grind) (λy c=>hk y (by simp[c])) λy c=>d y (by simp[c]);simp_all
theorem og{cond}(h:bB src st)(p)(g)(c:Kd×U->Kd):∀xs a,⇑a+⇑xs<=dt ->
  (∀x∈xs,x.1=.loc\/x.1=.any)->(∀x∈xs,Run cond (bD x::st) (p x) (bD x::st)/\Run elt (bD x::st) (c x,g x) (bD x::st)/\Run (lift (c x,g x)) (bD x::st) (g x) (bD x::st))->Run (bO 1 cK cond elt src xs a) st (a++(xs.filter p).map g) st
 |[],a,_,_,_=>by rw[þ,Tr,Ot];show ub h
 |x::xs,a,hl,hk,e=>by
  have(d,j,l):=e x ⋯;rw[nz]at hl;have f:Run (dZ cK (fS 1) x) (hZ 1 b6++st) () (bD x::st):=by
   have(k,u):=x;rcases hk _ (kj ..) with z|z<;>(cases z;rfl)
  cases i:p x with
  |true =>
   rw[i]at d;show n_     h f d j l ⋯ ?_;have:=og h p g c xs (a++[g x]) (by grind) (λy b=>hk y (by simp[b])) λy b=>e y (by simp[b]);simp_all
  |false =>
   rw[i]at d;show vR   h f d ?_;have:=og h p g c xs a ⋯ (λy b=>hk y (by simp[b])) λy b=>e y (by simp[b]);simp_all
def KN(h:st[i]?≈bD (k,.lst us))(hk:k.root=cb)(a:us[⇑us - 1]?≈u):Run (ev Γ (.pop i)) st (.loc,u) (st.set i (bD (k,.lst us.dropLast))):=by
 change Bi i st=_;unfold Bi;simp_all
abbrev MC(Pg:↑Fn)(f:Str)(fn:Fn):Prop:=(Pg.find? λg=>dV (g.name=f))≈fn
def aP(h:MC Pg f fn)(us)(a:fn.io=b6:=by rfl):Ml Pg (d+1) f us=bt (Ml Pg d) fn us:=by
 change(match Pg.find? λg=>decide _ with|some fn=>pd _ fn us|none=>b6)=_;rw[h];change pd _ _ _=_;unfold pd;rw[a]
def cS(h:0<j):Oe .mod (k,.int i) (k',.int j)≈lI (i % j):=by change(Et i j).map _=_;rw[Et,if_pos h];rfl
def Cc(h:0<j/\j<1073741824):Oe .Ov (k,.int i) (k',.int j)≈lI (i / j):=by change(Es i j).map _=_;rw[Es,if_pos h];rfl
def qt(h:(-(2 ^ 64)<i/\i<2 ^ 64)\/(-(2 ^ 64)<j/\j<2 ^ 64)):Oe .mul (k,.int i) (k',.int j)≈lI (i * j):=by change(zf i j).map _=_;rw[zf,if_pos h];rfl
def qu(h:0<=j/\j<=1000000/\i.natAbs<2 ^ 64):Oe .pow (k,.int i) (k',.int j)≈lI (i ^ j.toNat):=by change(Eu i j).map _=_;rw[Eu,if_pos h];rfl
def fU:Oe .add (k,.int i) (k',.int j)≈lI (i+j):=rfl
def mH:Oe .sub (k,.int i) (k',.int j)≈lI (i - j):=rfl
def a9(h:MB xs i≈u):fC (k,.lst xs) (.int i)≈(kE k,u):=by change(MB xs i).map _=_;rw[h];rfl
def c7(h:MB xs i≈u):fC (k,.tup xs) (.int i)≈(kE k,u):=by change(MB xs i).map _=_;rw[h];rfl
def xZ:Kd.own≠Kd.F':=⋯
end TM
local macro_rules
 |`(tactic| sizeOf_list_dec)=>`(tactic| first|exact TM.ao|apply TM.aA|apply TM.jQ|apply TM.bf|exact TM.aq|exact TM.ae rfl|exact TM.ay rfl|exact TM.au rfl|apply TM.cP|apply TM.gU|apply TM.aF|apply TM.bp|apply TM.aB|apply TM.lr|apply TM.aM|exact TM.af|apply TM.aa|apply TM.fG|apply TM.bY|exact TM.aN|apply TM.aC|exact TM.aG|exact TM.B8|(first|exact trivial|exact⟨⟨_,rfl,rfl⟩,trivial⟩|exact#[#[_,rfl,rfl],#[_,rfl,rfl],trivial])|exact TM.fU|exact TM.mH|exact TM.cS (by first|lia|decide)|exact TM.Cc (by first|lia|decide)|exact TM.qt (by first|lia|decide)|exact TM.qu (by decide)|exact TM.aX|exact TM.bh|exact TM.iM|exact TM.cy|exact TM.eN|exact TM.n9 rfl|exact lx _|exact rfl|exact TM.xZ)
namespace TM
open PySem L2
abbrev vT(c k:Int):Int:=((c % 10 ^ 15+1) * 48271+k * k * 16807+k * 7919) % 2147483647 * 69621 % 2147483629
def Fz(h0:0<=k)(a:k<2 ^ 63):bt Γ zB [.int c,.int k]≈.ok (lI (vT c k)):=by
 apply aw  rfl (.inr rfl) rfl
 repeat' sizeOf_list_dec
abbrev Cd(Γ:Tab):Prop:=∀c k:Int,0<=k->k<2 ^ 63->Γ "_law_mix" [.int c,.int k]≈.ok (lI (vT c k))
def gX(h:dV (i<j)=c):bJ .lt (.int i) (.int j)≈c:=by subst h;rfl
def gC(h:dV (j<i)=c):bJ .gt (.int i) (.int j)≈c:=by subst h;rfl
def kD(h:(i==j)=c):bJ .eq (.int i) (.int j)≈c:=by subst h;rfl
def dN:Nm .len [(k,.lst xs)]≈lI (⇑xs:Nat):=rfl
def de:Nm .len [(k,.tup xs)]≈lI (⇑xs:Nat):=rfl
abbrev Gu(a:↑Int)(k:Nat):Int:=if k<⇑a then(a[k]?).getD 0 else 2 * vT ((a[k % ⇑a]?).getD 0) k+1
def Ce(g:Cd Γ){k:Nat}(hk:k<2 ^ 62):bt Γ x6 [.lst (a.map .int),.int k]≈.ok (lI (Gu a k)):=by
 have d:∀c,Γ "_law_mix" [.int c,.int k]≈.ok (lI (vT c k)):=λc=>g c k ⋯ ⋯;unfold Gu;by_cases h:k<⇑a
 .rw[if_pos h];have b:MB (a.map U.int) k≈.int ((a[k]?).getD 0):=b7 (by simp[h]);apply aw (st0:=[bD (aL (a.map .int)),bD (lI k),b6]) rfl (.inr rfl) rfl;apply rN
  all_goals repeat' (first|show gX (by simp[h])|show a9 b|show Gr rfl|sizeOf_list_dec)
 .rw[if_neg h];have f:bJ .lt (.int k) (.int (⇑(a.map U.int):Nat))≈cK:=gX ⋯;by_cases hz:0<⇑a
  .have hi:k % ⇑a<⇑a:=X6 _ hz;have b:MB (a.map U.int) ((k:Int) % (⇑(a.map U.int):Nat))≈.int ((a[k % ⇑a]?).getD 0):=by
    show b7 (by simp[hi])
   have i:(0:Int)<⇑(a.map U.int):=⋯
   apply aw (st0:=[bD (aL (a.map .int)),bD (lI k),b6]) rfl (.inr rfl) rfl;apply aV
   all_goals repeat' (first|show f|sizeOf_list_dec)
   apply dc
   all_goals repeat' (first|show gC ⋯|show cS i|show a9 b|show d _|sizeOf_list_dec)
  .have e:a=[]:=Tg ⋯;subst e;apply aw (st0:=[bD (aL ([].map .int)),bD (lI k),b6]) rfl (.inr rfl) rfl;apply aV
   all_goals repeat' (first|show f|sizeOf_list_dec)
   apply aV
   all_goals repeat' (first|show d _|sizeOf_list_dec)
def uc(x):Nn .ML [x]=Bg x:=rfl
def kF(h:n<2 ^ 62):Nn .ML [(k,.int (n:Nat))]≈((fS n).map λi:Nat=>(lI (0+(i:Int)))):=by
 rw[uc,Bg,if_pos ⋯,Wd]
abbrev fJ(n:Nat)(xs:↑(Kd×U)):Prop:=∃i,i<=n/\xs=((fS n).drop i).map λi:Nat=>(lI (0+(i:Int)))
def fJ.cons(h:fJ n (x::xs)):∃i,i<n/\x=(lI (i:Nat))/\fJ n xs/\i+⇑xs+1=n:=by
 have(i,hi,e):=h;by_cases a:i<n
 .rw[UO (by simpa using a)]at e;cases e;show#[i,a,by simp,#[_,a,rfl],by simp;lia]
 .rw[ĵ (by grind)]at e;cases e
def fJ.all(n):fJ n ((fS n).map λi:Nat=>(lI (0+(i:Int)))):=#[0,lx _,rfl]
def zC(p:Cd Γ)(v:n<1000):∃ds:↑Int,⇑ds=n/\(∀d∈ds,0<=d)/\bt Γ rO [.int c,.int n]≈.ok (oL (ds.map .int)):=by
 have hsz:1000<=dt:=⋯
 let I:↑(Kd×U)->aK->Prop:=λxs st=>∃(ds:↑Int) (us:↑U) (left:Int) (o:Sl),st=[bD (lI c),bD (lI n),bD (oL us),bD (lI left),o]/\us=ds.map .int/\(∀d∈ds,0<=d)/\⇑ds+⇑xs=n/\fJ n xs;have a:=ua (t:=cK) (is:=[4]) (body:=execs Γ [.ite (.cmp .eq (.bin .mod (.var 0) (cI 2)) (cI 0))
    [.app 2 (.bin .mod (.var 3) (cI 64)),
    .set 3 (.bin .Ov (.var 3) (cI 64))]
    [.app 2 (.bin .mod (.bin .Ov (.call "_law_mix" [(.var 0),(.var 4)]) (cI 7)) (cI 4096))]]) (rs:=[(lI n)]) I (λ_ _ _=>ttt) (λx xs st q=>by
  have(ds,us,left,o,e,b,h0,hl,r):=q;subst e;have f:⇑us=⇑ds:=by rw[b];simp
  have(i,hi,rfl,j,l):=r.cons;have s:Γ "_law_mix" [.int c,.int i]≈.ok (lI (vT c i)):=p c i ⋯ ⋯;rw[nz]at hl;by_cases m:c % 2=0
  .show#[[bD (lI c),bD (lI n),bD (oL us),bD (lI left),bD (lI i)],[bD (lI c),bD (lI n),bD (oL (us++[.int (left % 64)])),bD (lI (left / 64)),bD (lI i)],aX,?_,#[ds++[left % 64],_,left / 64,_,rfl,by simp[b],?_,by simp;lia,j]]
   .apply dc
    all_goals repeat' (first|show kD (by simp[m])|show(by rw[f];lia)|sizeOf_list_dec)
   .intro d g;rcases ki.mp g with z|z
    .show h0 d z
    .rw[nc.mp z];lia
  .show#[[bD (lI c),bD (lI n),bD (oL us),bD (lI left),bD (lI i)],[bD (lI c),bD (lI n),bD (oL (us++[.int (vT c i / 7 % 4096)])),bD (lI left),bD (lI i)],aX,?_,#[ds++[vT c i / 7 % 4096],_,left,_,rfl,by simp[b],?_,by simp;lia,j]]
   .apply aV
    all_goals repeat' (first|show kD (by simp[m])|show s|show(by rw[f];lia)|sizeOf_list_dec)
   .intro d g;rcases ki.mp g with z|z
    .show h0 d z
    .rw[nc.mp z];lia)
 have(st',u,ds,us,left,o,e,b,h0,hl,_):=a ((fS n).map λi:Nat=>(lI (0+i))) [bD (lI c),bD (lI n),bD (oL []),bD (lI (c / 2)),b6] ⟨[],[],c / 2,b6,rfl,rfl,by simp,by simp,fJ.all n⟩;subst e b;show#[ds,by simpa using hl,h0,?_];apply aw (st0:=[bD (lI c),bD (lI n),b6,b6,b6]) rfl (.inl rfl) rfl
 repeat' sizeOf_list_dec
 have h:=kF (k:=.loc) (n:=n) ⋯;refine' bV (rs:=[(lI n)]) (st1:=[bD (lI c),bD (lI n),bD (oL []),bD (lI (c / 2)),b6]) _ ttt h rfl u _
 all_goals repeat' sizeOf_list_dec
end TM
namespace Mu
open PySem L2
abbrev bI(l:↑Nat):Prop:=eU l=cb\/∃a b k,l=a++47::b/\eU a=cb/\2<=k/\k<=99/\((iB k).cps.toList)=b
def len_list(x:Str):⇑x=⇑x.cps.toList:=by rfl
def kG(h0:0<=k)(a:k<=99):⇑(iB k)<=2:=by
 have(m,rfl):=Y4 h0;have b:m<100:=⋯
 clear h0 a;revert m;decide +kernel
def bI.len(h:bI l):1<=⇑l/\⇑l<=11:=by
 rcases h with h|⟨a,b,k,rfl,h,e,c,d⟩
 .have:=(bM l).mp h;lia
 .have:=(bM a).mp h;have hl:=kG  ⋯ c;rw[len_list,d]at hl;simp;lia
def bI.LV(h:bI (x.cps.toList)):∃y r,RG x Ga=y::r/\eU (y.cps.toList)=cb:=by
 rcases h with h|⟨a,b,k,e,h,_⟩
 .show#[x,[],uV (ju h),h]
 .have(r,c):=Ar e (ju h) ⋯;show#[_,r,c,⋯]
theorem gD:∀(ps:↑Str) a,(ps.foldl (λa p=>a++rr.cps++p.cps) a).toList=a.toList++(ps.map λp=>(p.cps.toList)).flatten
 |[],a=>by simp
 |p::ps,a=>by
  rw[Zl,gD ps];have:rr.cps=#v[]:=rfl;simp[this]
def join_list(ts):((Q2 rr ts).cps.toList)=(ts.map λp=>(p.cps.toList)).flatten:=by
 cases ts with
 |nil=>rfl
 |cons t ts =>
  change(ts.foldl _ t.cps).toList=_;rw[gD];simp
abbrev one(c:Nat):Str:=#[#v[c]]
def join_ones(a):((Q2 rr (a.map one)).cps.toList)=a:=by
 rw[join_list,fR];induction a with
 |nil=>rfl
 |cons c a b=>rw[gr,VP,b];rfl
def ud(a:↑Nat)(h:⇑a<=100):Å rr (a.map one)=cb:=by
 unfold Å;have e:=PySem.StrLaws.joinTotal rr (a.map one);have b:⇑rr=0:=rfl;have es:((a.map one).map (·.length)).sum=⇑a:=by
  rw[fR];clear h e;induction a with
  |nil=>rfl
  |cons c a d=>rw[gr,Yy,d];change 1+⇑a=⇑a+1;lia
 rw[e,b,es];have f:⇑a+⇑(a.map one) * 0<=100:=⋯
 revert f;generalize ⇑a+⇑(a.map one) * 0=m;revert m;decide
def IW(x)(j:Nat):((PySem.StrLaws.sliceText x b6 (bD (j:Int))).cps.toList)=x.cps.toList.take j:=by
 by_cases h:j<=⇑x.cps.toList
 .rw[PySem.StrLaws.sliceText_to  ⟨⋯,⋯⟩];simp
 .have e:PySem.StrLaws.sliceText x b6 (bD j)=PySem.StrLaws.sliceText x b6 (bD ⇑x):=by
   unfold PySem.StrLaws.sliceText;have hl:=len_list x;have:PySem.Builtin.Str.strSliceIndices b6 (bD j) 1 ⇑x=PySem.Builtin.Str.strSliceIndices b6 (bD ⇑x) 1 ⇑x:=by
    have a:¬((j:Int)<0):=⋯
    have b:¬((⇑x:Int)<0):=⋯
    have c:min (j:Int) ⇑x=⇑x:=⋯
    simp[PySem.Builtin.Str.strSliceIndices,a,b,c]
   rw[this]
  have hl:=len_list x;rw[e,PySem.StrLaws.sliceText_to  ⟨⋯,⋯⟩,đ,OL   ⋯];rw[OL ⋯]
def zD(d:eU a=cb)(e:∀c∈b,low c=cb):eU ((a++b).take 8)=cb:=by
 have h:=(bM a).mp d;show(bM _).mpr #[by grind,by grind,λc f=>?_];have g:=Ŋ f;rcases ki.mp g with m|m
 .show h.2.2 c m
 .have:=e c m;simp[low]at this;lia
def lu(a:∀c∈b,low c=cb)(d:1<=⇑b)(e:⇑b<=8):eU b=cb :=
 (bM b).mpr #[d,e,λc f=>by have:=a c f;simp[low]at this;lia]
abbrev small:Str:="abcdefghijklmnopqrstuvwxyz"
def vU:(small.cps.toList)=(fS 26).map (97+·):=by rfl
def oh(h0:0<=k)(a:k<26):MB (small.cps.toList) k≈(97+k.toNat):=by
 have(j,rfl):=Y4 h0;show b7 ?_;rw[vU,hU,ŕ ⋯];rfl
def vV(h:j<26):low (97+j)=cb:=by simp[low];lia
abbrev ue(k:Nat):Str:=#[#v[97+k / 26,97+k % 26]]
def vW(h:k<40):eU ((ue k).cps.toList)=cb:=by
 show lu (λc a=>?_) (by change 1<=2;decide) (by change 2<=8;decide);have b:=by simpa[ue] using a
 rcases b with rfl|rfl
 .show vV ⋯
 .show vV ⋯
theorem fK [DecidableEq α]:∀{l m:↑α},l.Nodup->(∀x∈l,x∈m)->⇑l<=⇑m
 |[],_,_,_=>lx _
 |x::l,m,b,h=>by
  have(c,d):=qb.mp b;have e:=h x kj;have f:=fK   d λy a=>(W6 (by rintro rfl;show c a)).mpr (h y (ke _ a))
  grind
abbrev dE:↑Str:=(fS 40).map ue
def rP:dE.Nodup:=by
 decide +kernel
def vX(names:↑Str)(h:⇑names<40):∃x∈dE,x∉names:=by
 apply ON;intro a;have:=λx b=>ON λc=>a #[x,b,c];have:=fK rP this;simp[dE]at this;lia
end Mu
namespace TM
open PySem L2 Mu
def rQ(h0:0<=z)(h:z<2 ^ 62):Nn .ML [(k,.int z)]≈((fS z.toNat).map λi:Nat=>(lI (0+(i:Int)))):=by
 rw[uc,Bg,if_pos ⋯]
def mL(a:⇑x<=dt)(h:MB (x.cps.toList) i≈c):fC (k,.str x) (.int i)≈lS (Mu.one c):=by
 simp only[fC];rw[if_pos a,h];rfl
def oi:⇑small<=dt:=⋯
def cM{ds:↑Int}{i}(h:i<⇑ds):MB (ds.map U.int) (i:Int)≈.int ((ds[i]?).getD 0):=b7 (by simp[h])
theorem cN:∀ss,strsOf (ss.map U.str)≈ss
 |[]=>rfl
 |s::ss=>by change(strsOf _).map _=_;rw[cN ss];rfl
abbrev rR(a:E):Fn:=#["_law_name",2,6,[.set 2 (.cst (.str "abcdefghijklmnopqrstuvwxyz")),.set 3 (.N9 .join (.cst (.str "")) [.comp 1 cK .ML [.bin .add (cI 1) (.bin .mod (.idx (.var 0) (cI 0)) (cI 8))] [] (.idx (.var 3) (.bin .mod (.idx (.var 1) (.bin .add (cI 4) (.var 0))) (cI 26)))]),.ite (.cmp .gt (.bi .len [.var 1]) (cI 0)) [.set 4 (.idx (.N9 .split (.idx (.var 1) (.bin .mod (.idx (.var 0) (cI 1)) (.bi .len [.var 1]))) [.cst (.str "/")]) (cI 0)),.ite (.cmp .eq (.bin .mod (.idx (.var 0) (cI 2)) (cI 4)) (cI 1)) [.set 3 (.Pj (.bin .add (.var 4) (.var 3)) [] [(cI 8)])] [],.ite (.cmp .eq (.bin .mod (.idx (.var 0) (cI 2)) (cI 4)) (cI 2)) [.set 3 (.bin .add (.bin .add (.var 4) (.cst (.str "/"))) (.bi .str [.bin .add (cI 2) (.bin .mod (.idx (.var 0) (cI 3)) a)]))] []] [],.set 5 (.bin .add (.lst [.var 3]) (.comp 1 cK .ML [(cI 40)] [] (.bin .add (.idx (.var 3) (.bin .Ov (.var 0) (cI 26))) (.idx (.var 3) (.bin .mod (.var 0) (cI 26)))))),.ret (.idx (.comp 1 cK .seq [.var 5] [.cmp .L6 (.var 0) (.var 2)] (.var 0)) (cI 0))]]
abbrev FA(a:E):Prop:=∀(Γ:Tab) (ds:↑Int),12<=⇑ds->(∀d∈ds,0<=d)->∃m:Int,0<m/\m<=98/\∀o1 o2 o3 o4 o5,Run (ev Γ a) [bD (aL (ds.map .int)),o1,o2,o3,o4,o5] (lI m) [bD (aL (ds.map .int)),o1,o2,o3,o4,o5]
@[reducible]noncomputable def KO:E:=cI 98
def FC:FA KO:=λ_ _ _ _=>#[98,by decide,by decide,λ_ _ _ _ _=>aq]
section
variable{Γ:Tab}{ds:List Int}
abbrev dd(ds:↑Int)(i:Nat):Int:=(ds[i]?).getD 0
def fL(h0:∀d∈ds,0<=d)(i):0<=dd ds i:=by
 unfold dd;cases e:ds[i]? with
 |none=>simp
 |some d=>show h0 d (k8 e)
def rS(o:12<=⇑ds)(h0:∀d∈ds,0<=d):∃b:↑Nat,(∀c∈b,low c=cb)/\1<=⇑b/\⇑b<=8 /\
  Run (ev Γ (.comp 1 cK .ML [.bin .add (cI 1) (.bin .mod (.idx (.var 0) (cI 0)) (cI 8))] [] (.idx (.var 3) (.bin .mod (.idx (.var 1) (.bin .add (cI 4) (.var 0))) (cI 26)))))
   [bD (aL (ds.map .int)),o1,bD (lS small),o3,o4,o5] (oL ((b.map Mu.one).map .str)) [bD (aL (ds.map .int)),o1,bD (lS small),o3,o4,o5]:=by
 have hz:=fL h0 0;let n:=(1+dd ds 0 % 8).toNat;have g:n<=8/\1<=n:=by change(1+dd ds 0 % 8).toNat<=8/\1<=(1+dd ds 0 % 8).toNat;lia
 let f:Nat->Nat:=λi=>97+(dd ds (4+i) % 26).toNat;show#[(fS n).map f,?_,by simp;show g.2,by simp;show g.1,?_]
 .intro c l;have(i,_,rfl):=hW.mp l;have:=fL h0 (4+i);show vV ⋯
 .have a:Run (bO 1 cK (aQ Γ []) (ev Γ (.idx (.var 3) (.bin .mod (.idx (.var 1) (.bin .add (cI 4) (.var 0))) (cI 26)))) [(lI (1+dd ds 0 % 8))] ((fS n).map λi:Nat=>(lI (0+i))) [])
    [bD (aL (ds.map .int)),o1,bD (lS small),o3,o4,o5] ([]++((fS n).map λi:Nat=>(lI (0+i))).map λx=>match x.2 with|.int j=>.str (Mu.one (97+(dd ds (4+j.toNat) % 26).toNat))|u=>u) [bD (aL (ds.map .int)),o1,bD (lS small),o3,o4,o5]:=by
   have p:8<=dt:=⋯
   show Cb (by show ttt) _ (λ_=>.loc) _ _ ⋯ (λx a=>?_) (λx a=>?_)
   .have(i,_,rfl):=hW.mp a;show .inl rfl
   .have(i,hi,rfl):=hW.mp a;have q:i<n:=by simpa using hi
    have h:MB (ds.map U.int) (4+(0+i))≈.int (dd ds (4+i)):=by
     rw[show(4+(0+i))=((4+i:Nat):Int) by lia];show cM ⋯
    have r:=fL h0 (4+i);have hs:=oh (k:=dd ds (4+i) % 26) ⋯ ⋯;show#[cB,?_,aG];simp only[Zm,Wd];rw[Zm]at h
    repeat' (first|show a9 h|show mL oi hs|sizeOf_list_dec)
  have e:((fS n).map f).map Mu.one=(fS n).map λi=>Mu.one (97+(dd ds (4+i) % 26).toNat):=by rw[fR];rfl
  rw[e];have m:([]++((fS n).map λi:Nat=>(lI (0+i))).map λx=>match x.2 with|.int j=>U.str (Mu.one (97+(dd ds (4+j.toNat) % 26).toNat))|u=>u)=((fS n).map λi=>Mu.one (97+(dd ds (4+i) % 26).toNat)).map U.str:=by
   simp
  rw[m]at a;show bx (rs:=[(lI (1+dd ds 0 % 8))]) ?_ ttt (rQ ⋯ ⋯) a
  repeat' (first|show a9 (cM (i:=0) ⋯)|sizeOf_list_dec)
def jR(h:⇑x+⇑y<=dt):Oe .add (k,.str x) (k',.str y)≈lS (x++y):=by
 simp only[Oe,ze];simp_all
theorem eD:∀(ss:↑Str) n,gf n (ss.map U.str)=cb
 |[],n=>by rfl
 |s::ss,n=>by simp only[gr,gf,eD ss n];rfl
theorem uf(x):∀(ss:↑Str),((ss.map U.str).any λy=>cq y (.str x))=dV (x∈ss)
 |[]=>by simp
 |s::ss=>by
  rw[gr,Ϣ,uf x ss];have:cq (.str s) (.str x)=dV (x=s):=by
   simp only[cq]
   grind
  simp_all
def FD(x)(ss:↑Str):R4 (.str x) (ss.map U.str)≈dV (x∈ss):=by
 unfold R4;rw[if_pos #[by rfl,eD ss 50],uf]
def fM{x}{ss:↑Str}:bJ .L6 (.str x) (.lst (ss.map U.str))≈dV (x∉ss):=by
 change(R4 _ _).map _=_;rw[FD];simp
def ug:Run (ev Γ (.comp 1 cK .ML [(cI 40)] [] (.bin .add (.idx (.var 3) (.bin .Ov (.var 0) (cI 26))) (.idx (.var 3) (.bin .mod (.var 0) (cI 26))))))
   [o0,o1,bD (lS small),o3,o4,o5] (oL (dE.map .str)) [o0,o1,bD (lS small),o3,o4,o5]:=by
 have f:100<=dt:=⋯
 have a:Run (bO 1 cK (aQ Γ []) (ev Γ (.bin .add (.idx (.var 3) (.bin .Ov (.var 0) (cI 26))) (.idx (.var 3) (.bin .mod (.var 0) (cI 26))))) [(lI 40)] ((fS 40).map λi:Nat=>(lI (0+i))) [])
   [o0,o1,bD (lS small),o3,o4,o5] ([]++((fS 40).map λi:Nat=>(lI (0+i))).map λx=>match x.2 with|.int j=>.str (ue j.toNat)|u=>u) [o0,o1,bD (lS small),o3,o4,o5]:=by
  show Cb (by show ttt) _ (λ_=>.loc) _ _ ⋯ (λx a=>?_) (λx a=>?_)
  .have(i,_,rfl):=hW.mp a;show .inl rfl
  .have(i,hi,rfl):=hW.mp a;have g:i<40:=⋯
   show#[cB,?_,aG];simp;have b:=oh (k:=i / 26) ⋯ ⋯;have c:=oh (k:=i % 26) ⋯ ⋯;have d:((i:Int) / 26).toNat=i / 26:=⋯
   rw[d]at b
   repeat' (first|show mL oi b|show mL oi c|show ad|sizeOf_list_dec)
 have e:([]++((fS 40).map λi:Nat=>(lI (0+i))).map λx=>match x.2 with|.int j=>U.str (ue j.toNat)|u=>u)=dE.map U.str:=by
  rfl
 rw[e]at a;show bx (rs:=[(lI 40)]) (by repeat' sizeOf_list_dec) ttt (rQ ⋯ ⋯) a
def zE{names ts:↑Str}(hl:⇑ts<=1000):Run (ev Γ (.comp 1 cK .seq [.var 5] [.cmp .L6 (.var 0) (.var 2)] (.var 0)))
   [o0,bD (aL (names.map .str)),o2,o3,o4,bD (oL (ts.map .str))] (oL ((ts.filter λx=>dV (x∉names)).map .str)) [o0,bD (aL (names.map .str)),o2,o3,o4,bD (oL (ts.map .str))]:=by
 have c:1000<=dt:=⋯
 have a:=og (cond:=aQ Γ [.cmp .L6 (.var 0) (.var 2)]) (elt:=ev Γ (.var 0)) (src:=[(.bor 5,.lst (ts.map .str))]) (st:=[o0,bD (aL _),o2,o3,o4,bD _]) #[#[.own,rfl,rfl],ttt]
  (λx=>match x.2 with|.str y=>dV (y∉names)|_=>cK) (λx=>x.2) (λ_=>.loc) ((ts.map U.str).map λu=>(kE (.bor 5),u)) [] (by grind) (λx a=>by have(u,_,rfl):=hW.mp a;show .inl rfl) (λx a=>by
   have(u,b,rfl):=hW.mp a;have(y,_,rfl):=hW.mp b;show#[gp ?_,ae rfl,aG]
   repeat' (first|show fM|sizeOf_list_dec))
 have e:([]++(((ts.map U.str).map λu=>(kE (.bor 5),u)).filter λx=>match x.2 with|.str y=>dV (y∉names)|_=>cK).map λx=>x.2)=(ts.filter λx=>dV (x∉names)).map U.str:=by
  rw[χ,χ,fR,fR];rfl
 rw[e]at a;show bx (rs:=[(.bor 5,.lst _)]) (by repeat' sizeOf_list_dec) #[#[.own,rfl,rfl],ttt] rfl a
end
section
variable{Γ:Tab}{ds:List Int}
def zF{names:↑Str}(g:⇑names<40)(m:bI (a.cps.toList)):∃x st',bI (x.cps.toList)/\x∉names /\
  Run (execs Γ [.set 5 (.bin .add (.lst [.var 3]) (.comp 1 cK .ML [(cI 40)] [] (.bin .add (.idx (.var 3) (.bin .Ov (.var 0) (cI 26))) (.idx (.var 3) (.bin .mod (.var 0) (cI 26)))))),
  .ret (.idx (.comp 1 cK .seq [(.var 5)] [(.cmp .L6 (.var 0) (.var 2))] (.var 0)) (cI 0))]) [o0,bD (aL (names.map .str)),bD (lS small),bD (lS a),o4,b6] (.rt .loc (.str x)) st':=by
 have n:1000<=dt:=⋯
 have(y,o,i):=vX names g;have j:(a::dE).filter (λx=>dV (x∉names))≠[]:=λz=>by
  simp_all
 cases e:(a::dE).filter _ with
 |nil=>show absurd e j
 |cons x d =>
  have l:x∈(a::dE).filter (λx=>dV (x∉names)):=by rw[e];simp
  have(b,c):=DD.mp l;have f:=zE (Γ:=Γ) (names:=names) (ts:=a::dE) (by simp[dE]) (o0:=o0) (o2:=bD (lS small)) (o3:=bD (lS a)) (o4:=o4);rw[e]at f;have ad:Oe .add (oL [.str a]) (oL (dE.map U.str))≈oL ((a::dE).map U.str):=by
   rfl
  show#[x,[o0,bD (aL (names.map .str)),bD (lS small),bD (lS a),o4,bD (oL ((a::dE).map .str))],?_,by simpa using c,?_]
  .rcases f6.mp b with rfl|h
   .lia
   .have(k,hk,rfl):=hW.mp h;show .inl (vW ⋯)
  .show aA  (cP  (bY (aa (ae rfl) af) ∅ (aC aG aN) (by grind)) ug ttt ad) bh ?_;show bf (aF f aq ttt (a9 (by show b7 rfl))) cy
def Cg(UI:FA o)(J:12<=⇑ds)(h0:∀d∈ds,0<=d){names:↑Str}(hn:⇑names<40)(hw:∀x∈names,bI (x.cps.toList)):
  ∃x,bI (x.cps.toList)/\x∉names/\bt Γ (rR o) [.lst (ds.map .int),.lst (names.map .str)]≈.ok (lS x):=by
 have(m,L,ac,p):=UI Γ ds J h0;have h8:1000<=dt:=⋯
 have(b,N,q,k,UK):=rS (Γ:=Γ) J h0 (o1:=bD (aL (names.map .str))) (o3:=b6) (o4:=b6) (o5:=b6);have UL:jH .join (.str "") [(oL ((b.map Mu.one).map U.str))]≈lS (Q2 rr (b.map Mu.one)):=by
  change(strsOf ((b.map Mu.one).map U.str)).bind _=_;rw[cN];change(if Å rr (b.map Mu.one)=cb then _ else _)=_;rw[if_pos (ud b ⋯)];rfl
 let a:Str:=Q2 rr (b.map Mu.one);have s:(a.cps.toList)=b:=join_ones b;have O:eU (a.cps.toList)=cb:=by rw[s];show lu N q k
 have t:⇑a<=8:=by rw[len_list,s];show k
 have e:∀{f:Fl} {st':aK} ss,Run (execs Γ ss) [bD (aL (ds.map .int)),bD (aL (names.map .str)),bD (lS small),bD (lS a),b6,b6] f st' ->
   Run (execs Γ (.set 2 (.cst (.str "abcdefghijklmnopqrstuvwxyz"))::.set 3 (.N9 .join (.cst (.str "")) [.comp 1 cK .ML [.bin .add (cI 1) (.bin .mod (.idx (.var 0) (cI 0)) (cI 8))] [] (.idx (.var 3) (.bin .mod (.idx (.var 1) (.bin .add (cI 4) (.var 0))) (cI 26)))])::ss))
    [bD (aL (ds.map .int)),bD (aL (names.map .str)),b6,b6,b6,b6] f st':=λss h=>aA (r:=(lS small)) aq aX (aA (lr aq (aa UK af) ∅ UL) aX h)
 have l:∀(g:Str) (o4:Sl),bI (g.cps.toList)->∃x st',bI (x.cps.toList)/\x∉names/\Run (execs Γ [.set 5 (.bin .add (.lst [.var 3]) (.comp 1 cK .ML [(cI 40)] [] (.bin .add (.idx (.var 3) (.bin .Ov (.var 0) (cI 26))) (.idx (.var 3) (.bin .mod (.var 0) (cI 26)))))),
  .ret (.idx (.comp 1 cK .seq [(.var 5)] [(.cmp .L6 (.var 0) (.var 2))] (.var 0)) (cI 0))]) [bD (aL (ds.map .int)),bD (aL (names.map .str)),bD (lS small),bD (lS g),o4,b6] (.rt .loc (.str x)) st':=λg o4 u=>zF hn u
 by_cases hz:0<⇑names
 .
  have hi:(dd ds 1).toNat % ⇑names<⇑names:=X6 _ hz;let j:=names[(dd ds 1).toNat % ⇑names]'hi;have Q:bI (j.cps.toList):=hw _ (Wr hi);have(y,r,NO,v):=Q.LV;have Vz:⇑y<=8:=by rw[len_list];show((bM _).mp v).2.1
  have Yq:⇑j<=11:=by rw[len_list];show Q.len.2
  have T9:=fL h0 1;have M0:MB (names.map U.str) (dd ds 1 % (⇑(names.map U.str):Nat))≈.str j:=by
   rw[df,show dd ds 1 % (⇑names:Nat)=(((dd ds 1).toNat % ⇑names:Nat):Int) by rw[Int.natCast_emod,XN T9]];show b7 (by simp[hi];rfl)
  have Sk:jH .split (.str j) [(lS "/")]≈oL ((y::r).map U.str):=by
   change(if (ė "/"==0)=cK/\⇑j+2<=dt then bD (oL ((RG j "/").map .str)) else b6)=_;rw[if_pos #[by decide,⋯],show("/":Str)=Ga from rfl,NO]
  have hp:(0:Int)<(⇑(names.map U.str):Nat):=⋯
  have Yr:fC (oL ((y::r).map U.str)) (.int 0)≈lS y:=a9 (by change MB _ ((0:Nat):Int)=_;show b7 rfl);have al:=fL h0 2;have RU:=fL h0 3;have i1:MB (ds.map U.int) 1≈.int (dd ds 1):=cM (i:=1) ⋯;have T:MB (ds.map U.int) 2≈.int (dd ds 2):=cM (i:=2) ⋯;have i3:MB (ds.map U.int) 3≈.int (dd ds 3):=cM (i:=3) ⋯;have go:∀g:Str,bI (g.cps.toList)->Run (execs Γ [.ite (.cmp .eq (.bin .mod (.idx (.var 0) (cI 2)) (cI 4)) (cI 1))
    [.set 3 (.Pj (.bin .add (.var 4) (.var 3)) [] [(cI 8)])]
    [],
   .ite (.cmp .eq (.bin .mod (.idx (.var 0) (cI 2)) (cI 4)) (cI 2))
    [.set 3 (.bin .add (.bin .add (.var 4) (.cst (.str "/"))) (.bi .str [.bin .add (cI 2) (.bin .mod (.idx (.var 0) (cI 3)) o)]))]
    []]) [bD (aL (ds.map .int)),bD (aL (names.map .str)),bD (lS small),bD (lS a),bD (lS y),b6] .nx [bD (aL (ds.map .int)),bD (aL (names.map .str)),bD (lS small),bD (lS g),bD (lS y),b6] ->
    ∃x,bI (x.cps.toList)/\x∉names/\bt Γ (rR o) [.lst (ds.map .int),.lst (names.map .str)]≈.ok (lS x):=λg u hr=>by
   have(x,st',w,z,A):=l g (bD (lS y)) u;show#[x,w,z,aw (st0:=[bD (aL (ds.map .int)),bD (aL (names.map .str)),b6,b6,b6,b6]) rfl (.inr rfl) rfl (e _ (dc (st1:=[bD (aL (ds.map .int)),bD (aL (names.map .str)),bD (lS small),bD (lS a),b6,b6]) ?_ (aA (r:=(lS y)) (st1:=[bD (aL (ds.map .int)),bD (aL (names.map .str)),bD (lS small),bD (lS a),b6,b6]) ?_ aX hr) A))]
   .repeat' (first|show gC ⋯|sizeOf_list_dec)
   .repeat' (first|show cS hp|show a9 M0|show a9 i1|show Sk|show Yr|sizeOf_list_dec)
  have B:∀{c:Bool} {o3 o4:Sl},(dd ds 2 % 4==1)=c->Run (Mn Γ (.cmp .eq (.bin .mod (.idx (.var 0) (cI 2)) (cI 4)) (cI 1))) [bD (aL (ds.map .int)),bD (aL (names.map .str)),bD (lS small),o3,o4,b6] c [bD (aL (ds.map .int)),bD (aL (names.map .str)),bD (lS small),o3,o4,b6]:=λC=>by
   repeat' (first|show a9 T|show kD C|sizeOf_list_dec)
  have D:∀{c:Bool} {o3 o4:Sl},(dd ds 2 % 4==2)=c->Run (Mn Γ (.cmp .eq (.bin .mod (.idx (.var 0) (cI 2)) (cI 4)) (cI 2))) [bD (aL (ds.map .int)),bD (aL (names.map .str)),bD (lS small),o3,o4,b6] c [bD (aL (ds.map .int)),bD (aL (names.map .str)),bD (lS small),o3,o4,b6]:=λC=>by
   repeat' (first|show a9 T|show kD C|sizeOf_list_dec)
  by_cases G:dd ds 2 % 4=1
  .have H:⇑y+⇑a<=dt:=⋯
   have Oc:oZ (lS (y++a)) b6 (bD 8)≈lS (PySem.StrLaws.sliceText (y++a) b6 (bD 8)):=by
    simp only[oZ];rw[if_pos (by rw[len_list];change(y.cps++a.cps).toList.length<=_;rw[Ê,ko,<-len_list,<-len_list];lia)]
   show go (PySem.StrLaws.sliceText (y++a) b6 (bD 8)) (.inl ?_) ?_
   .have:=IW (y++a) 8;rw[show((8:Nat):Int)=8 from rfl]at this;rw[this];change eU ((y.cps++a.cps).toList.take 8)=cb;rw[Ê];show zD v (by rw[s];show N)
   .show dc (B (by simp[G])) (aA (xW (cP (ae rfl) (ae rfl) ttt (jR H)) xU (xV aq) ttt Oc) aX ao) (aV (D (by simp[G])) ao ao)
  .by_cases I:dd ds 2 % 4=2
   .have XZ:=č (dd ds 3) (show m≠0 by lia);have S9:=ã (dd ds 3) L;have Ra:0<=2+dd ds 3 % m:=⋯
    have n:2+dd ds 3 % m<=99:=⋯
    have Y:=kG Ra n;have R7:Nm .str [(lI (2+dd ds 3 % m))]≈lS (iB (2+dd ds 3 % m)):=by
     simp only[Nm,eR,Be];rw[if_pos (by
      have:(2+dd ds 3 % m).natAbs<2 ^ 7:=⋯
      have h2:(2+dd ds 3 % m).natAbs≠0:=⋯
      have:=(Nat.log2_lt h2).mpr this;lia)]
     rfl
    have ab:⇑(y++"/")=⇑y+1:=by rw[len_list,len_list];change(y.cps++_).toList.length=_;rw[Ê,ko];rfl
    have Yt:Run (ev Γ (.bin .add (cI 2) (.bin .mod (.idx (.var 0) (cI 3)) o))) [bD (aL (ds.map .int)),bD (aL (names.map .str)),bD (lS small),bD (lS a),bD (lS y),b6] (lI (2+dd ds 3 % m)) [bD (aL (ds.map .int)),bD (aL (names.map .str)),bD (lS small),bD (lS a),bD (lS y),b6]:=cP aq (cP (aF (ay rfl) aq ttt (a9 i3)) (p _ _ _ _ _) ttt (cS L)) ttt fU;show go (y++"/"++iB (2+dd ds 3 % m)) (.inr #[(y.cps.toList),((iB (2+dd ds 3 % m)).cps.toList),2+dd ds 3 % m,?_,v,⋯,n,rfl]) ?_
    .change((y.cps++#v[47])++(iB _).cps).toList=_;simp
    .show aV (B (by simp[I])) ao (dc (D (by simp[I])) (aA (cP (cP (ae rfl) aq ttt (jR (by change ⇑y+1<=dt;lia))) (bp (aa Yt af) ttt R7) ttt (jR ⋯)) aX ao) ao)
   .show go a (.inl O) ?_;show aV (B (by simp[G])) ao (aV (D (by simp[I])) ao ao)
 .have(x,st',w,z,A):=l a b6 (.inl O);show#[x,w,z,aw (st0:=[bD (aL (ds.map .int)),bD (aL (names.map .str)),b6,b6,b6,b6]) rfl (.inr rfl) rfl (e _ (aV (st1:=[bD (aL (ds.map .int)),bD (aL (names.map .str)),bD (lS small),bD (lS a),b6,b6]) ?_ ao A))]
  repeat' (first|show gC (decide_eq_false (by simp only[df];lia))|sizeOf_list_dec)
end
abbrev oj(Γ:Tab):Prop:=∀(a:↑Int) (k:Nat),k<2 ^ 62->∃z,Γ "_law_cell" [.lst (a.map .int),.int (k:Nat)]≈.ok (lI z)
abbrev jS(Γ:Tab):Prop:=∀(c:Int) (n:Nat),n<1000->∃ds:↑Int,⇑ds=n/\(∀d∈ds,0<=d)/\Γ "_law_drawn" [.int c,.int (n:Nat)]≈.ok (oL (ds.map .int))
abbrev Ci(Γ:Tab):Prop:=∀(ds:↑Int) (names:↑Str),12<=⇑ds->(∀d∈ds,0<=d)->⇑names<40->(∀x∈names,bI (x.cps.toList))->∃x,bI (x.cps.toList)/\x∉names/\Γ "_law_name" [.lst (ds.map .int),.lst (names.map .str)]≈.ok (lS x)
theorem zG(hc:oj Γ)(hd:jS Γ)(hn:Ci Γ){ns:List Int}(hb:b<1000)(hm:m<40):
    ∃names:List Str,names.length=m/\names.Nodup/\(∀x∈names,bI x.cps.toList)/\bt Γ fNames [.lst (ns.map .int),.int (b:Nat),.int (m:Nat)]=bD (.ok (oL (names.map .str))):=by
  have hsz:(1000:Nat)<=dt:=by decide
  let I:List (Kd×U)->aK->Prop:=λxs st=>∃(names:List Str) (us:List U) (o:Sl),st=[bD (aL (ns.map .int)),bD (lI (b:Nat)),bD (lI (m:Nat)),bD (oL us),o]/\us=names.map .str/\names.Nodup/\(∀x∈names,bI x.cps.toList)/\names.length+xs.length=m/\fJ m xs;have loop:=ua (t:=cK) (is:=[4]) (body:=execs Γ [.app 3 (.call "_law_name" [.call "_law_drawn" [.call "_law_cell" [.var 0,.bin .add (.var 1) (.var 4)],(cI 12)],.var 3])]) (rs:=[(lI (m:Nat))]) I (λ_ _ _=>trivial) (λx xs st Mg=>by
    obtain⟨names,us,o,e,e2,L_,hw,hl,hr⟩:=Mg;subst e;obtain⟨i,hi,rfl,MY,hlen⟩:=hr.cons;rw[nz]at hl;obtain⟨z,hz⟩:=hc ns (b+i) ⋯;rw[ϐ]at hz;obtain⟨ds,d1,d2,d3⟩:=hd z 12 ⋯;obtain⟨x,x1,x2,x3⟩:=hn ds names ⋯ d2 ⋯ hw;rw[<-e2]at x3;refine⟨[bD (aL (ns.map .int)),bD (lI (b:Nat)),bD (lI (m:Nat)),bD (oL us),bD (lI (i:Nat))],[bD (aL (ns.map .int)),bD (lI (b:Nat)),bD (lI (m:Nat)),bD (oL (us++[.str x])),bD (lI (i:Nat))],aX,?_,⟨names++[x],_,_,rfl,by simp[e2],?_,?_,by simp;lia,MY⟩⟩
    · repeat' (first|exact hz|exact d3|exact x3|exact(by rw[e2,df];lia)|sizeOf_list_dec)
    · rw[pb]
      exact ⟨L_, by simp, fun y hy w P8 => by have : w = x := by simpa using P8
                                              subst this;rintro rfl;exact x2 hy⟩
    · intro y hy
      rcases ki.mp hy with h|h
      · exact hw y h
      · rw[nc.mp h];exact x1)
  obtain⟨st',Mo,names,us,o,e,e2,L_,hw,hl,_⟩:=loop ((fS m).map λi:Nat=>(lI (0+(i:Int)))) [bD (aL (ns.map .int)),bD (lI (b:Nat)),bD (lI (m:Nat)),bD (oL []),b6] ⟨[],[],b6,rfl,rfl,by simp,by simp,by simp,fJ.all m⟩;subst e e2;refine⟨names,by simpa using hl,L_,hw,?_⟩;apply aw (st0:=[bD (aL (ns.map .int)),bD (lI (b:Nat)),bD (lI m),b6,b6]) rfl (.inl rfl) rfl
  repeat' sizeOf_list_dec
  have hit:=kF (k:=.loc) (n:=m) ⋯;refine' bV (rs:=[(lI m)]) (st1:=[bD (aL (ns.map .int)),bD (lI b),bD (lI m),bD (oL []),b6]) _ trivial hit rfl Mo _
  all_goals repeat' sizeOf_list_dec
theorem LW:∀j:Nat,j<10->∃q,q<=8/\MB [U.int 0,.int 0,.int 1,.int 1,.int 1,.int 2,.int 2,.int 2,.int 3,.int 8] (j:Int)≈.int (q:Nat)
 |0,_=>⟨0,⋯,rfl⟩|1,_=>⟨0,⋯,rfl⟩|2,_=>⟨1,⋯,rfl⟩|3,_=>⟨1,⋯,rfl⟩|4,_=>#[1,⋯,rfl]
 |5,_=>⟨2,⋯,rfl⟩|6,_=>⟨2,⋯,rfl⟩|7,_=>⟨2,⋯,rfl⟩|8,_=>⟨3,⋯,rfl⟩|9,_=>#[8,⋯,rfl]
 |n+10,h=>absurd h ⋯
def vY(hz:0<=z)(a:0<t)(hl:t<=⇑xs):∃x∈xs,MB xs (z % t)≈x:=by
 have b:=č z (by lia:t≠0);have e:=ã z a;have(j,c):=Y4 b;have d:j<⇑xs:=⋯
 show#[_,Wr d,?_];rw[c];show b7 ⋯
def rT{xs:↑Str}{z t:Int}(hz:0<=z)(a:0<t)(hl:t<=⇑xs):∃x∈xs,MB (xs.map U.str) (z % t)≈.str x:=by
 have(u,b,e):=vY (xs:=xs.map _) hz a ⋯;have(x,c,rfl):=hW.mp b;show#[x,c,e]
def Cj{Γ}{ds:↑Int}{names:↑Str}(hd:11<=⇑ds)(h0:∀d∈ds,0<=d)(hn:0<⇑names):
  ∃told:↑Str,⇑told<=8/\told.Nodup/\(∀x∈told,x∈names)/\bt Γ ly [.lst (ds.map .int),.lst (names.map .str)]≈.ok (lT (told.map .str)):=by
 have hsz:(1000:Nat)<=dt:=⋯
 have D:MB (ds.map U.int) 0≈.int (dd ds 0):=cM (i:=0) ⋯;have Q:MB (ds.map U.int) 1≈.int (dd ds 1):=cM (i:=1) ⋯;have T:MB (ds.map U.int) 2≈.int (dd ds 2):=cM (i:=2) ⋯;have n0:=fL h0 0;have n1:=fL h0 1;have n2:=fL h0 2;have j:(0:Int)<(⇑(names.map U.str):Nat):=⋯
 have hL:(⇑(names.map U.str):Int)=⇑names:=⋯
 have RB:=ã (dd ds 0) j;have XZ:=č (dd ds 0) (by lia:(⇑(names.map U.str):Int)≠0);let B:=λ(t:Int) (us:↑U) (o4 o5:Sl)=>([bD (aL (ds.map .int)),bD (aL (names.map .str)),bD (lI t),bD (oL us),o4,o5]:aK)
 have Y:(dd ds 1 % 10).toNat<10:=⋯
 have(q,hq,G):=LW _ Y;rw[XN ⋯]at G;have l:∀t:Int,0<t->t<=⇑names->∃told:↑Str,⇑told<=8/\told.Nodup/\(∀x∈told,x∈names)/\∃st',Run (execs Γ (ly.body.drop 2)) [bD (aL (ds.map .int)),bD (aL (names.map .str)),bD (lI t),b6,b6,b6] (.rt .loc (.tup (told.map .str))) st':=λt m s=>by
  let I:↑(Kd×U)->aK->Prop:=λxs st=>∃(told:↑Str) (us:↑U) (o4 o5:Sl),st=B t us o4 o5/\us=told.map .str/\told.Nodup/\(∀x∈told,x∈names)/\⇑told+⇑xs<=q/\fJ q xs;have o:=ua (t:=cK) (is:=[4]) (body:=execs Γ [.set 5 (.idx (.var 1) (.bin .mod (.idx (.var 0) (.bin .add (cI 3) (.var 4))) (.var 2))),
   .ite (.cmp .L6 (.var 5) (.var 3))
    [.app 3 (.var 5)]
    []]) (rs:=[(lI (q:Nat))]) I (λ_ _ _=>ttt) (λx xs st Mg=>by
   have(told,us,o4,o5,e,b,u,v,hl,hr):=Mg;subst e;have(i,hi,rfl,H,J):=hr.cons;rw[nz]at hl;have ik:MB (ds.map U.int) (3+(i:Int))≈.int (dd ds (3+i)):=by
    rw[show(3+(i:Int))=((3+i:Nat):Int) by lia];show cM ⋯
   have(x,hx,p):=rT (xs:=names) (fL h0 (3+i)) m s;have L:bJ .L6 (.str x) (.lst us)≈dV (x∉told):=by rw[b];show fM
   by_cases N:x∈told
   .show#[B t us (bD (lI (i:Nat))) o5,B t us (bD (lI (i:Nat))) (bD (.any,.str x)),aX,?_,#[told,us,_,_,rfl,b,u,v,⋯,H]];show aA (r:=(.any,.str x)) (st1:=B t us (bD (lI (i:Nat))) o5) ?_ iM (aV (st1:=B t us (bD (lI (i:Nat))) (bD (.any,.str x))) ?_ ao ao)
    .repeat' (first|show a9 ik|show cS m|show a9 p|sizeOf_list_dec)
    .have:bJ .L6 (.str x) (.lst us)≈cK:=by rw[L];simp[N]
     repeat' (first|show this|sizeOf_list_dec)
   .show#[B t us (bD (lI (i:Nat))) o5,B t (us++[.str x]) (bD (lI (i:Nat))) (bD (.any,.str x)),aX,?_,#[told++[x],_,_,_,rfl,by simp[b],?_,?_,by simp;lia,H]]
    .show aA (r:=(.any,.str x)) (st1:=B t us (bD (lI (i:Nat))) o5) ?_ iM (dc (st1:=B t us (bD (lI (i:Nat))) (bD (.any,.str x))) (st2:=B t (us++[.str x]) (bD (lI (i:Nat))) (bD (.any,.str x))) ?_ ?_ ao)
     .repeat' (first|show a9 ik|show cS m|show a9 p|sizeOf_list_dec)
     .have:bJ .L6 (.str x) (.lst us)≈cb:=by rw[L];simp[N]
      repeat' (first|show this|sizeOf_list_dec)
     .repeat' (first|show gW rfl|show(by rw[b,df];lia)|sizeOf_list_dec)
    .rw[pb]
     grind
    grind)
  have(st',Mo,told,us,o4,o5,e,b,u,v,hl,_):=o ((fS q).map λi:Nat=>(lI (0+(i:Int)))) (B t [] b6 b6) ⟨[],[],b6,b6,rfl,rfl,by simp,by simp,by simp,fJ.all q⟩;subst e b;show#[told,by simp at hl;lia,u,v,?_];have w:=kF (k:=.loc) (n:=q) ⋯;show#[B t (told.map .str) o4 o5,aA (r:=(oL [])) (bY af ttt aN (lx _)) bh (bV (rs:=[(lI (q:Nat))]) (st1:=B t [] b6 b6) ?_ ttt w rfl Mo ?_)]
  .show aa (aF (x:=(oL [U.int 0,.int 0,.int 1,.int 1,.int 1,.int 2,.int 2,.int 2,.int 3,.int 8])) (y:=(lI (dd ds 1 % 10))) (st1:=B t [] b6 b6) ?_ ?_ ttt (a9 G)) af
   .repeat' (first|show by decide|sizeOf_list_dec)
   .repeat' (first|show a9 Q|sizeOf_list_dec)
  .repeat' sizeOf_list_dec
 have a:∀t:Int,0<t->t<=⇑names->(∀{f:Fl} {st':aK},Run (execs Γ (ly.body.drop 2)) [bD (aL (ds.map .int)),bD (aL (names.map .str)),bD (lI t),b6,b6,b6] f st'->Run (execs Γ ly.body) [bD (aL (ds.map .int)),bD (aL (names.map .str)),b6,b6,b6,b6] f st') ->
   ∃told:↑Str,⇑told<=8/\told.Nodup/\(∀x∈told,x∈names)/\bt Γ ly [.lst (ds.map .int),.lst (names.map .str)]≈.ok (lT (told.map .str)):=λt m s hh=>by
  have(told,a1,a2,a3,st',a4):=l t m s;show#[told,a1,a2,a3,aw (st0:=[bD (aL (ds.map .int)),bD (aL (names.map .str)),b6,b6,b6,b6]) rfl (.inr rfl) rfl (hh a4)]
 let g:aK:=[bD (aL (ds.map .int)),bD (aL (names.map .str)),bD (lI (⇑(names.map U.str):Nat)),b6,b6,b6]
 have z:∀{c:Bool},dV (0<dd ds 2 % 3)=c->Run (Mn Γ (.cmp .gt (.bin .mod (.idx (.var 0) (cI 2)) (cI 3)) (cI 0))) g c g:=λh=>by repeat' (first|show a9 T|show gC h|sizeOf_list_dec)
 have O:∀{c:Bool},dV (0<dd ds 0 % (⇑(names.map U.str):Nat))=c->Run (Mn Γ (.cmp .gt (.bin .mod (.idx (.var 0) (cI 0)) (.bi .len [.var 1])) (cI 0))) g c g:=λh=>by repeat' (first|show a9 D|show cS j|show gC h|sizeOf_list_dec)
 have A:Run (ev Γ (.bi .len [.var 1])) [bD (aL (ds.map .int)),bD (aL (names.map .str)),b6,b6,b6,b6] (lI (⇑(names.map U.str):Nat)) [bD (aL (ds.map .int)),bD (aL (names.map .str)),b6,b6,b6,b6]:=by repeat' sizeOf_list_dec
 have s3:Run (ev Γ (.bin .mod (.idx (.var 0) (cI 0)) (.bi .len [.var 1]))) g (lI (dd ds 0 % (⇑(names.map U.str):Nat))) g:=by repeat' (first|show a9 D|show cS j|sizeOf_list_dec)
 by_cases c1:0<dd ds 2 % 3
 .by_cases C:0<dd ds 0 % (⇑(names.map U.str):Nat)
  .show a (dd ds 0 % (⇑(names.map U.str):Nat)) C ⋯ λh=>aA A aX (dc (qc (vP (z (decide_eq_true c1)) (gp (O (decide_eq_true C))))) (aA s3 aX ao) h)
  .show a (⇑(names.map U.str):Nat) j ⋯ λh=>aA A aX (aV (qc (vP (z (decide_eq_true c1)) (gp (O (decide_eq_false C))))) ao h)
 .show a (⇑(names.map U.str):Nat) j ⋯ λh=>aA A aX (aV (qc (B_ (z (decide_eq_false c1)))) ao h)
def lz(e:Run (ev Γ g) st rv st1)(h:st1[i]?≈bD (k',u'))(j:Run (ev Γ l) st1 rk st2)(m:Run (dP [rv,rk]) st2 [b,c] st3)(n:st3[i]?≈bD (k,d))(hk:k.root=cb)(o:d0 c b d≈p)
  (q:Run (execs Γ ss) (st3.set i (bD (k,p))) f r) (s:k'≠.F':=by intro z;cases z):Run (execs Γ (.put i l g::ss)) st f r:=by
 show gF (ag e (ag (iL h s) (ag j (ag m (ag (a:=())  ?_ bu))))) q;change modS i _ st3=_;unfold modS;rw[n];simp only[hk];change(match d0 c b d with|some u'=>_|none=>b6)=_;rw[o]
@[reducible]noncomputable def Row:=Str×↑Str
abbrev K'(r:Row):U:=.tup [.str r.1,.tup (r.2.map .str)]
@[reducible]noncomputable def tR(rs:↑Row):U:=U.tup (rs.map K')
abbrev keyOf(r:Row):Row:=(r.1,aD r.2)
def kH(r):rowOf (K' r)≈r:=by
 change(strsOf _).map _=_;rw[cN];rfl
def sorted_strs(h:⇑ss<64):Nm .sorted [(k,.tup (ss.map .str))]≈oL ((aD ss).map .str):=by
 change(strsOf _).bind _=_;rw[cN];simp_all
abbrev Cn(Γ:Tab):Prop:=∀(ds:↑Int) (names:↑Str),11<=⇑ds->(∀d∈ds,0<=d)->0<⇑names ->
 ∃told:↑Str,⇑told<=8/\told.Nodup/\(∀x∈told,x∈names)/\Γ "_law_told" [.lst (ds.map .int),.lst (names.map .str)]≈.ok (lT (told.map .str))
structure fN(names:↑Str)(r:Row):Prop where
 word:r.1∈names
 NF:⇑r.2<=8
 once:r.2.Nodup
 told:∀x∈r.2,x∈names
theorem Co(hc:oj Γ)(hd:jS Γ)(ht:Cn Γ){ns:List Int}(hn:0<names.length)(hb:b<1000)(hm:m<1000):
    ∃rows,rows.length<=m/\(rows.map keyOf).Nodup/\(∀r∈rows,fN names r)/\bt Γ Cm [.lst (ns.map .int),.int (b:Nat),.lst (names.map .str),.int (m:Nat)]=bD (.ok (.loc,tR rows)):=by
  have hsz:(1000:Nat)<=dt:=by decide
  let B:=λ(us:List U) ks (o6 o7 o8 o9:Sl)=>([bD (aL (ns.map .int)),bD (lI (b:Nat)),bD (aL (names.map .str)),bD (lI (m:Nat)),bD (oL us),bD (.own,.M9 ks),o6,o7,o8,o9]:aK)
  let I:List (Kd×U)->aK->Prop:=λxs st=>∃(rows:List Row) (us:List U) (ks:List iS) (o6 o7 o8 o9:Sl),st=B us ks o6 o7 o8 o9/\us=rows.map K'/\ks=rows.map keyOf/\ks.Nodup/\(∀r∈rows,fN names r)/\rows.length+xs.length<=m/\fJ m xs;have hp:(0:Int)<((names.map U.str).length:Nat):=by simp;lia
  have loop:=ua (t:=cK) (is:=[6]) (body:=execs Γ [.set 7 (.call "_law_drawn" [.call "_law_cell" [.var 0,.bin .add (.var 1) (.var 6)],(cI 11)]),
      .set 8 (.tup [.idx (.var 2) (.bin .mod (.idx (.var 7) (cI 0)) (.bi .len [.var 2])),.call "_law_told" [.var 7,.var 2]]),
      .set 9 (.tup [.idx (.var 8) (cI 0),.bi .tuple [.bi .sorted [.idx (.var 8) (cI 1)]]]),
      .ite (.cmp .L6 (.var 9) (.var 5))
        [.put 5 (.var 9) (.cst (.bl cb)),
        .app 4 (.var 8)]
        []]) (rs:=[(lI (m:Nat))]) I (λ_ _ _=>trivial) (λx xs st Mg=>by
    obtain⟨rows,us,ks,o6,o7,o8,o9,e,e2,e3,L_,hw,hl,hr⟩:=Mg;subst e;obtain⟨i,hi,rfl,MY,hlen⟩:=hr.cons;rw[nz]at hl;obtain⟨z,hz⟩:=hc ns (b+i) ⋯;rw[ϐ]at hz;obtain⟨ds,d1,d2,d3⟩:=hd z 11 ⋯;obtain⟨told,t1,t2,t3,t4⟩:=ht ds names ⋯ d2 hn;have i0:MB (ds.map U.int) 0=bD (.int (dd ds 0)):=cM (i:=0) ⋯;obtain⟨nm,QS,XW⟩:=rT (xs:=names) (t:=((names.map U.str).length:Nat)) (fL d2 0) hp (by simp);have MS:fN names (nm,told):=⟨QS,t1,t2,t3⟩
    have j0:fC (.loc,K' (nm,told)) (.int 0)=bD (lS nm):=rfl;have j1:fC (.loc,K' (nm,told)) (.int 1)=bD (lT (told.map .str)):=rfl;have Qn:=sorted_strs (k:=.loc) (ss:=told) ⋯;let i6:Sl:=bD (lI (i:Nat));let i7:Sl:=bD (oL (ds.map .int));let i8:Sl:=bD (.loc,K' (nm,told));let i9:Sl:=bD (.loc,K' (keyOf (nm,told)));have g7:Run (ev Γ (.call "_law_drawn" [.call "_law_cell" [.var 0,.bin .add (.var 1) (.var 6)],(cI 11)])) (B us ks i6 o7 o8 o9) (oL (ds.map .int)) (B us ks i6 o7 o8 o9):=by repeat' (first|exact hz|exact d3|sizeOf_list_dec)
    have g8:Run (ev Γ (.tup [.idx (.var 2) (.bin .mod (.idx (.var 7) (cI 0)) (.bi .len [.var 2])),.call "_law_told" [.var 7,.var 2]])) (B us ks i6 i7 o8 o9) (.loc,K' (nm,told)) (B us ks i6 i7 o8 o9):=by
      repeat' (first|exact a9 i0|exact cS hp|exact a9 XW|exact t4|exact gW rfl|exact(by decide:(2:Nat)<=dt)|sizeOf_list_dec)
    have g9:Run (ev Γ (.tup [.idx (.var 8) (cI 0),.bi .tuple [.bi .sorted [.idx (.var 8) (cI 1)]]])) (B us ks i6 i7 i8 o9) (.loc,K' (keyOf (nm,told))) (B us ks i6 i7 i8 o9):=by
      repeat' (first|exact j0|exact j1|exact Qn|exact(by decide:(2:Nat)<=dt)|sizeOf_list_dec)
    have UM:bJ .L6 (K' (keyOf (nm,told))) (.M9 ks)=bD (dV (keyOf (nm,told)∉ks)):=by
      show(((rowOf (K' (keyOf (nm,told)))).map λr=>dV (r∈ks))).map (!·)=_;rw[kH];simp
    by_cases M4:keyOf (nm,told)∈ks
    · refine⟨B us ks i6 o7 o8 o9,B us ks i6 i7 i8 i9,aX,aA g7 bh (aA g8 aX (aA g9 aX (aV ?_ ao ao))),⟨rows,us,ks,_,_,_,_,rfl,e2,e3,L_,hw,⋯,MY⟩⟩
      have:bJ .L6 (K' (keyOf (nm,told))) (.M9 ks)=bD cK:=by rw[UM];simp[M4]
      exact aM (ae rfl) (au rfl) ⟨⟨.own,rfl,rfl⟩,trivial⟩ this
    · refine⟨B us ks i6 o7 o8 o9,B (us++[K' (nm,told)]) (ks++[keyOf (nm,told)]) i6 i7 i8 i9,aX,aA g7 bh (aA g8 aX (aA g9 aX (dc (st1:=B us ks i6 i7 i8 i9) (st2:=B (us++[K' (nm,told)]) (ks++[keyOf (nm,told)]) i6 i7 i8 i9) ?_ ?_ ao))),⟨rows++[(nm,told)],_,_,_,_,_,_,rfl,by simp[e2],by simp[e3],?_,?_,by simp;lia,MY⟩⟩
      · have:bJ .L6 (K' (keyOf (nm,told))) (.M9 ks)=bD cb:=by rw[UM];simp[M4]
        exact aM (ae rfl) (au rfl) ⟨⟨.own,rfl,rfl⟩,trivial⟩ this
      · have Yu:d0 (K' (keyOf (nm,told))) (.bl cb) (.M9 ks)=bD (.M9 (ks++[keyOf (nm,told)])):=by
          show(match rowOf (K' (keyOf (nm,told))),U.bl cb with|some r,.bl cb=>if r∉ks/\ks.length<=1000 then bD (U.M9 (ks++[r])) else b6|_,_=>b6)=_;rw[kH];show(if keyOf (nm,told)∉ks/\ks.length<=1000 then _ else _)=_;rw[if_pos ⟨M4,by grind⟩]
        exact lz (st1:=B us ks i6 i7 i8 i9) (st2:=B us ks i6 i7 i8 i9) (st3:=B us ks i6 i7 i8 i9) (k:=.own) (k':=.own) aq rfl (ae rfl) (aC aG (aC aG aN)) rfl rfl Yu
          (jQ (st1:=B us (ks++[keyOf (nm,told)]) i6 i7 i8 i9) (st2:=B us (ks++[keyOf (nm,told)]) i6 i7 i8 i9) (k:=.own) (k':=.own) (us:=us) (us':=us) rfl (ae rfl) aG rfl rfl (by rw[e2,df];lia) ao)
      · rw[pb]
        exact ⟨L_, by simp, fun y hy w P8 => by have : w = keyOf (nm, told) := by simpa using P8
                                                subst this;rintro rfl;exact M4 hy⟩
      · intro y hy
        rcases ki.mp hy with h|h
        · exact hw y h
        simp_all)
  obtain⟨st',Mo,rows,us,ks,o6,o7,o8,o9,e,e2,e3,L_,hw,hl,_⟩:=loop ((fS m).map λi:Nat=>(lI (0+(i:Int)))) (B [] [] b6 b6 b6 b6) ⟨[],[],[],b6,b6,b6,b6,rfl,rfl,rfl,by simp,by simp,by simp,fJ.all m⟩;subst e e2 e3;refine⟨rows,by simpa using hl,L_,hw,?_⟩;have hit:=kF (k:=.loc) (n:=m) ⋯;exact aw (st0:=[bD (aL (ns.map .int)),bD (lI (b:Nat)),bD (aL (names.map .str)),bD (lI (m:Nat)),b6,b6,b6,b6,b6,b6]) rfl (.inr rfl) rfl
    (aA (r:=(oL [])) (bY af trivial aN (lx _)) bh (aA (r:=(.own,.M9 [])) gV bh (bV (rs:=[(lI (m:Nat))]) (st1:=B [] [] b6 b6 b6 b6) (aa (ae rfl) af) trivial hit rfl Mo
      (bf (bp (aa (au rfl) af) ⟨⟨.own,rfl,rfl⟩,trivial⟩ rfl) cy))))
abbrev rU(Γ:Tab):Prop:=∀(a:↑Int) (b m:Nat),b<1000->m<40->∃names:↑Str,⇑names=m/\names.Nodup/\(∀x∈names,bI (x.cps.toList))/\Γ "_law_names" [.lst (a.map .int),.int (b:Nat),.int (m:Nat)]≈.ok (oL (names.map .str))
abbrev Cp(Γ:Tab):Prop:=∀(a:↑Int) (names:↑Str) (b m:Nat),0<⇑names->b<1000->m<1000 ->
 ∃rows:↑Row,⇑rows<=m/\(rows.map keyOf).Nodup/\(∀r∈rows,fN names r)/\Γ "_law_book" [.lst (a.map .int),.int (b:Nat),.lst (names.map .str),.int (m:Nat)]≈.ok (.loc,tR rows)
def Cr(c:oj Γ)(d:jS Γ)(e:rU Γ)(f:Cp Γ)(a:↑Int):∃names rows,0<⇑names/\⇑names<=14/\names.Nodup/\(∀x∈names,bI (x.cps.toList)) /\
  ⇑rows<=40/\(rows.map keyOf).Nodup/\(∀r∈rows,fN names r)/\bt Γ Cq [.lst (a.map .int)]≈.ok (.loc,tR rows):=by
 have(z,hz):=c a 0 ⋯;have(ds,o,g,h):=d z 4 ⋯;have j:MB (ds.map U.int) 0≈.int (dd ds 0):=cM (i:=0) ⋯;have k:MB (ds.map U.int) 1≈.int (dd ds 1):=cM (i:=1) ⋯;have p:=fL g 0;have(names,q,l,m,b):=e a 1 (1+dd ds 0 % 14).toNat ⋯ ⋯;rw[XN ⋯]at b;have(rows,b1,n,b3,b4):=f a names 20 (dd ds 1 % 41).toNat ⋯ ⋯ ⋯;rw[XN ⋯]at b4;show#[names,rows,⋯,⋯,l,m,⋯,n,b3,?_];apply aw  rfl (.inr rfl) rfl
 repeat' (first|show hz|show h|show a9 j|show a9 k|show b|show b4|sizeOf_list_dec)
def Gv(h:MC Pg "_law_mix" zB):Cd (Ml Pg (d+1)):=λc k h0 a=>by rw[aP h];show Fz h0 a
def kI(h:MC Pg "_law_mix" zB)(a:MC Pg "_law_cell" x6):oj (Ml Pg (d+2)):=λb k hk=>#[_,by rw[aP a];show Ce (Gv h) hk]
def drawnOk(h:MC Pg "_law_mix" zB)(f:MC Pg "_law_drawn" rO):jS (Ml Pg (d+2)):=λc n g=>by
 have(ds,a,b,e):=zC (Gv  h)  g;show#[ds,a,b,by rw[aP f];show e]
def IX(f:FA g)(h:MC Pg "_law_name" (rR g)):Ci (Ml Pg (d+1)):=λds names a b c e=>by
 have(x,p,q,r):=Cg  f a b c e;show#[x,p,q,by rw[aP h];show r]
def IY(h:MC Pg "_law_told" ly):Cn (Ml Pg (d+1)):=λds names a b c=>by
 have(x,p,q,r,s):=Cj  a b c;show#[x,p,q,r,by rw[aP h];show s]
structure dg(md:E)(Pg:↑Fn):Prop where
 mix:MC Pg "_law_mix" zB
 cell:MC Pg "_law_cell" x6
 drawn:MC Pg "_law_drawn" rO
 name:MC Pg "_law_name" (rR md)
 names:MC Pg "_law_names" fNames
 told:MC Pg "_law_told" ly
 book:MC Pg "_law_book" Cm
def dg.kI(M:dg a Pg):oj (Ml Pg (d+2)):=TM.kI M.mix M.cell
def dg.drawnOk(M:dg a Pg):jS (Ml Pg (d+2)):=TM.drawnOk M.mix M.drawn
def dg.Cs(a:FA c)(M:dg c Pg):rU (Ml Pg (d+3)):=λg b m e f=>by
 have(names,p,q,r,s):=zG  M.kI M.drawnOk (TM.IX a M.name)  e f;show#[_,p,q,r,by rw[aP M.names];show s]
@[reducible]noncomputable def Cu(Pg:↑Fn):Prop:=dg KO Pg
def dg.namesOk(M:Cu Pg):rU (Ml Pg (d+3)):=dg.Cs FC M
def dg.IZ(M:dg f Pg):Cp (Ml Pg (d+3)):=λg names b m a c e=>by
 have(rows,p,q,r,s):=Co  M.kI M.drawnOk (TM.IY M.told)  a c e;show#[rows,p,q,r,by rw[aP M.book];show s]
def qd(h:Run (execs Γ (a++ss)) st f st2):(∃s1,Run (execs Γ a) st .nx s1/\Run (execs Γ ss) s1 f st2)\/(Run (execs Γ a) st f st2/\f≠.nx):=by
 induction a generalizing st with
 |nil=>show .inl #[st,ao,h]
 |cons s a i =>
  have h':M.bind _ _ st≈_:=h;unfold M.bind at h';cases e:exec Γ s st with
  |none=>simp_all
  |some p =>
   have(x,s1):=p;rw[e]at h';cases x with
   |exc c=>cases h'
   |ok g =>
    cases g with
    |nx =>
     rcases i h' with⟨j,b,d⟩|⟨b,d⟩
     .show .inl #[j,gF e b,d]
     .show .inr #[gF e b,d]
    |rt k u=>cases h';show .inr #[Ca e,λz=>nomatch z]
    |_=>cases h';show .inr #[ag (e) bu,λz=>nomatch z]
def KP(a:Run (exec Γ s) st f st1)(b:f≠.nx):Run (execs Γ (s::ss)) st f st1:=by
 cases f with
 |nx=>show absurd rfl b
 |rt k u=>show Ca a
 |_=>show ag a bu
def eO(g:Run (Mn Γ c) st p st1)(h:p=cb->Run (execs Γ (a++ss)) st1 f st2)(i:p=cK->Run (execs Γ (b++ss)) st1 f st2):Run (execs Γ (.ite c a b::ss)) st f st2:=by
 cases p with
 |true =>
  rcases qd (h rfl) with⟨s1,d,e⟩|⟨d,e⟩
  .show gF (rM g d) e
  .show KP (rM g d) e
 |false =>
  rcases qd (i rfl) with⟨s1,d,e⟩|⟨d,e⟩
  .show gF (vQ g d) e
  .show KP (vQ g d) e
def KQ(h:Run (Mn Γ e) st p st)(a:p=cK->Run (gN Γ (b::es)) st q st):Run (gN Γ (e::b::es)) st (p||q) st:=by
 cases p with
 |true=>show KD h
 |false=>show bZ h (a rfl)
def vZ(h:Run (Mn Γ e) st p st)(a:p=cb->Run (aQ Γ (b::es)) st q st):Run (aQ Γ (e::b::es)) st (p&&q) st:=by
 cases p with
 |true=>show vP h (a rfl)
 |false=>show B_ h
theorem cC{cond:M Bool}(h:bB src st)(k:Kd)(hk:k=.loc\/k=.any)(enc g:α->U)(c:Kd)(d:∀y,Run cond (bD (k,enc y)::st) cb (bD (k,enc y)::st)):∀(b:↑α) (a:↑U),⇑a+⇑b<=dt ->
  (∀y∈b,Run elt (bD (k,enc y)::st) (c,g y) (bD (k,enc y)::st)/\Run (lift (c,g y)) (bD (k,enc y)::st) (g y) (bD (k,enc y)::st))->Run (bO 1 cK cond elt src (b.map λy=>(k,enc y)) a) st (a++b.map g) st
 |[],a,_,_=>by rw[Tr,Tr,Ot];show ub h
 |y::b,a,hl,e=>by
  have(f,i):=e y ⋯;rw[nz]at hl;show n_     h ?_ (d y) f i ⋯ ?_
  .rcases hk with rfl|rfl
   .show dC aX
   .show dC iM
  .have:=cC h k hk enc g c d b (a++[g y]) ⋯ λz hz=>e z (by simp[hz]);simp_all
theorem rV{cond:M Bool}(h:bB src st)(k:Kd)(hk:k=.loc\/k=.any)(enc g:α->U)(p:α->Bool)(c:Kd):∀(b:↑α) (a:↑U),⇑a+⇑b<=dt ->
  (∀y∈b,Run cond (bD (k,enc y)::st) (p y) (bD (k,enc y)::st)/\(p y=cb->Run elt (bD (k,enc y)::st) (c,g y) (bD (k,enc y)::st)/\Run (lift (c,g y)) (bD (k,enc y)::st) (g y) (bD (k,enc y)::st)))->Run (bO 1 cK cond elt src (b.map λy=>(k,enc y)) a) st (a++(b.filter p).map g) st
 |[],a,_,_=>by rw[Tr,þ,Tr,Ot];show ub h
 |y::b,a,hl,e=>by
  have(d,f):=e y ⋯;rw[nz]at hl;have j:Run (dZ cK (fS 1) (k,enc y)) (hZ 1 b6++st) () (bD (k,enc y)::st):=by
   rcases hk with rfl|rfl
   .show dC aX
   .show dC iM
  cases i:p y with
  |true =>
   rw[i]at d;have(l,m):=f i;show n_     h j d l m ⋯ ?_;have:=rV h k hk enc g p c b (a++[g y]) ⋯ λz hz=>e z (by simp[hz]);simp_all
  |false =>
   rw[i]at d;show vR   h j d ?_;have:=rV h k hk enc g p c b a ⋯ λz hz=>e z (by simp[hz]);simp_all
theorem bL(it:α->Kd×U)(I:↑α->↑α->aK->Prop)(hs:∀d r st,I d r st->bB rs st)
  (Κ:∀d y r st,I d (y::r) st->∃st1 st2,Run (dZ t is (it y)) st () st1/\Run body st1 .nx st2/\I (d++[y]) r st2):∀(r d:↑α) (st:aK),I d r st->∃st',Run (forM t is body rs (r.map it)) st .nx st'/\I (d++r) [] st'
 |[],d,st,h=>#[st,xY (hs _ _ _ h),by simp_all]
 |y::r,d,st,h=>by
  have(s1,a,b,c,e):=Κ d y r st h;have(f,g,i):=bL it I hs Κ r _ a e;show#[f,Fy (hs _ _ _ h) b c g,by simp_all]
def om(a:Run (cA Γ es) st rs st1)(c:bB rs st1)(d:Γ f (rs.map (·.2))≈.ok r)(e:zj r.2≈b)(g:isAny r.1=cK:=by show rfl):Run (Mn Γ (.call f es)) st b st1:=ag a (ag (bH c) (ag (xX d g) (cY e)))
def jf(h:Run (ev Γ (.bi f es)) st (k,.bl b) st1):Run (Mn Γ (.bi f es)) st b st1:=by
 have h':=h;obtain⟨rs,s1,e,i,c,g,r,d,j,l⟩:∃rs s1,cA Γ es st≈_/\∃a c,aR rs s1≈_/\∃r d,M.Mw _ c≈_/\(r,d)=((k,U.bl b),st1):=by
  have w:W (cA Γ es >>= λrs=>aR rs >>= λ_=>M.Mw _) st λr s=>(r,s)=((k,U.bl b),st1):=#[_,_,h',rfl]
  rw[ah]at w;have(rs,s1,e,w):=w;rw[ah]at w;have(a,c,i,w):=w;have(r,d,g,w):=w;show#[rs,s1,e,a,c,i,r,d,g,w]
 cases l;show ag e (ag  g (ag j (cY rfl)))
def uh(h0:st[i]?≈bD (k',.lst us'))(b:Run (ev Γ e) st r st1)(g:st1[i]?≈bD (k,.lst us))(hk:k.root=cb)(h:o_ r (.lst us)≈.lst zs)
  (c:Run (execs Γ ss) (st1.set i (bD (k,.lst zs))) f st3) (d:k'≠.F':=by intro z;cases z):Run (execs Γ (.ext i e::ss)) st f st3:=by
 show gF (ag (iL h0 d) (ag   rfl (ag b (ag (a:=())  ?_ bu)))) c;change modS i _ st1=_;unfold modS;simp_all
def rW(h:⇑xs+⇑a<=dt)(hs:fB k a=cb):o_ (k,.tup a) (.lst xs)≈.lst (xs++a):=by
 change(if ⇑xs+⇑a<=dt/\fB k a=cb then _ else _)=_;rw[if_pos #[h,hs]]
def x8(h:⇑xs+⇑a<=dt)(hs:fB k a=cb):o_ (k,.lst a) (.lst xs)≈.lst (xs++a):=by
 change(if ⇑xs+⇑a<=dt/\fB k a=cb then _ else _)=_;rw[if_pos #[h,hs]]
theorem kJ:∀ss:↑Str,gb (ss.map U.str)=cb
 |[]=>by rfl
 |s::ss=>by simp[gb,Mr,kJ ss]
def l0(r):Mr (K' r)=cb:=by simp[K',Mr,gb,kJ]
theorem aI:∀rs:↑Row,gb (rs.map K')=cb
 |[]=>by rfl
 |r::rs=>by simp[gb,l0,aI rs]
theorem oo:∀(a b:↑Str),cX (a.map U.str) (b.map U.str)=dV (a=b)
 |[],[]=>by rfl
 |[],_::_=>by simp[cX]
 |_::_,[]=>by simp[cX]
 |x::a,y::b=>by
  rw[gr,gr,cX,oo a b];simp only[cq];by_cases h:x=y
  .subst h;simp
  .simp[h]
def dF(ss:↑Str)(n):M8 (n+1) (.lst (ss.map U.str))=cb:=by simp[M8,eD]
def ui{a b:↑Str}:bJ .eq (.lst (a.map U.str)) (.lst (b.map U.str))≈dV (a=b):=by
 simp only[bJ];rw[if_pos #[dF a 49,dF b 49]];simp only[cq,oo]
def l7:bJ .eq (.str a) (.str b)≈dV (a=b):=by
 rfl
def FE(f:α->β)(xs)(lo hi):cut (xs.map f) lo hi=(cut xs lo hi).map f:=by simp[cut]
def x9(h:fB k (ss.map U.str)=cb):oZ (k,.lst (ss.map .str)) lo hi≈oL ((cut ss lo hi).map .str):=by
 simp only[oZ];rw[if_pos h,FE]
def oq(h:⇑a<4000)(b:⇑(aU a)<64):tL .sset [(k,.lst (a.map .str))]≈oL ((aD (aU a)).map .str):=by
 have e:iC (.lst (a.map U.str))≈aU a:=by
  change(strsOf _).bind _=_;rw[cN];change(if ⇑a+1<Q9 then _ else _)=_;rw[if_pos (by change ⇑a+1<4096;lia)]
 change(iC _).bind _=_;simp_all
abbrev kK(rows:↑Row):↑Str:=rows.map (·.1)++(rows.map (·.2)).flatten
def rX(h:∀r∈rows,fN names r):∀x∈kK rows,x∈names:=by
 intro x hx;rcases ki.mp hx with hx|hx
 .have(r,a,rfl):=hW.mp hx;show(h r a).word
 .have(l,hl,hx):=YP.mp hx;have(r,a,rfl):=hW.mp hl;show(h r a).told x hx
def uj{rows:↑Row}(h:∀r∈rows,⇑r.2<=n):(rows.map (·.2)).flatten.length<=n * ⇑rows:=by
 induction rows with
 |nil=>simp
 |cons r rows a =>
  have b:=h r ⋯;have c:=a λs hs=>h s (by simp[hs]);simp only[gr,VP,ko,nz,Nat.mul_add];lia
def ot(l):(aD (aU l)).Nodup:=(aS _).nodup_iff.mpr (b9 l)
def I_(l)(x):x∈aD (aU l)↔x∈l:=by rw[(aS _).mem_iff,b_]
def v5{l names:↑Str}(h:∀x∈l,x∈names):⇑(aU l)<=⇑names:=fK (b9 l) λx a=>h x ((b_ l x).mp a)
def zH(hl:⇑rows<=1000)(h:st[i]?≈bD (.loc,tR rows)):Run (ev Γ (.comp 1 cK .seq [.var i] [] (.idx (.var 0) (cI 0)))) st (oL ((rows.map (·.1)).map .str)) st:=by
 have hsz:1000<=dt:=⋯
 have a:=cC (cond:=aQ Γ []) (elt:=ev Γ (.idx (.var 0) (cI 0))) (src:=[(.loc,tR rows)]) (st:=st) ttt .loc (.inl rfl) K' _ .loc (λ_=>cB) rows [] ⋯
  (λr _=>#[aF  (ae rfl) aq ttt rfl,aG])
 have e:(rows.map K').map (λu=>(kE .loc,u))=rows.map λr=>(Kd.loc,K' r):=by rw[fR];rfl
 rw[fR];show bx  (aa (ae h) af) ttt (by change bD _=_;rw[e]) a
def um(c:Run (ev Γ a) st x st1)(d:tS x.2 T≈b):Run (Mn Γ (.Pn a T)) st b st1:=ag c (cY d)
def uo(h:⇑xs+⇑a<=dt)(b:fB k xs=cb)(c:fB k' a=cb):Oe .add (k,.lst xs) (k',.lst a)≈oL (xs++a):=by
 simp only[Oe,ze];rw[if_pos #[h,b,c]]
def gq(x y:Str):((x++y).cps.toList)=(x.cps.toList)++(y.cps.toList):=by
 change(x.cps++y.cps).toList=_;simp
def str_len(x y:Str):⇑(x++y)=⇑x+⇑y:=by rw[len_list,len_list,len_list,gq,ko]
def eV{x y:Str}(h:(x.cps.toList)=(y.cps.toList)):x=y:=by
 obtain⟨a⟩:=x;simp_all
abbrev dh(rows:↑Row):↑Str:=(rows.map λr=>r.1::r.2).flatten
abbrev a_(rows:↑Row):↑Str:=aD (aU (dh rows))
def ur(d)(y):dh (d++[y])=dh d++[y.1]++y.2:=by simp[dh]
def jg:x∈dh rows↔∃r∈rows,x=r.1\/x∈r.2:=by
 simp only[dh,YP,hW];constructor
 .rintro⟨l,⟨r,a,rfl⟩,b⟩;show#[r,a,f6.mp b]
 .rintro⟨r,a,b⟩;show#[_,#[r,a,rfl],f6.mpr b]
def jT(h:∀r∈rows,fN names r):∀x∈dh rows,x∈names:=by
 intro x hx;have(r,a,hx):=jg.mp hx;rcases hx with rfl|hx
 .show(h r a).word
 .show(h r a).told x hx
def ou(h:∀r∈rows,⇑r.2<=8):⇑(dh rows)<=9 * ⇑rows:=by
 induction rows with
 |nil=>simp[dh]
 |cons r rows a =>
  have c:=h r ⋯;have b:=a λs hs=>h s (by simp[hs]);simp only[dh,gr,VP,ko,nz]at b ⊢;lia
def jh:x∈a_ rows↔x∈dh rows:=I_ _ _
def rY(rows):(a_ rows).Nodup:=ot _
def gu(h:∀r∈rows,fN names r):⇑(a_ rows)<=⇑names:=by
 change(aD _).length<=_;rw[cE];show v5 (jT h)
def jU(hl:⇑rows<=120)(c:∀r∈rows,fN names r)(p:⇑names<64):bt Γ rZ [tR rows]≈.ok (oL ((a_ rows).map .str)):=by
 have hsz:(4000:Nat)<=dt:=⋯
 have f:TM.start [tR rows] 3=[bD (.loc,tR rows),b6,b6]:=by simp[TM.start,Mr,aI]
 have a:=λr h=>(c r h).NF;have(st',g,_,o2,e):=bL (t:=cK) (is:=[2]) (body:=execs Γ [.app 1 (.idx (.var 2) (cI 0)),.ext 1 (.idx (.var 2) (cI 1))]) (rs:=[(.loc,tR rows)]) (λr:Row=>(Kd.loc,K' r))
  (λd r st=>d++r=rows/\∃o2,st=[bD (.loc,tR rows),bD (oL ((dh d).map .str)),o2]) (λ_ _ _ _=>ttt) (λd y r st i=>by
   have(b,o2,e):=i;subst e;have j:y∈rows:=by rw[<-b];simp
   have l:=ou (rows:=d) λs hs=>a s (by rw[<-b];simp[hs]);have m:⇑d<=120:=by grind
   have n:=a y j;show#[_,[bD (.loc,tR rows),bD (oL ((dh d).map .str++[.str y.1]++y.2.map .str)),bD (.loc,K' y)],dC aX,?_,by rw[<-b];simp,bD (.loc,K' y),?_]
   .show jQ (k:=.own) (k':=.own)  rfl (aF (x:=(.loc,K' y)) (ae rfl) aq ttt rfl) aG rfl rfl (by grind)
     (uh (k:=.own) rfl (aF (x:=(.loc,K' y)) (ae rfl) aq ttt rfl) rfl rfl (rW ⋯ rfl) ao)
   .rw[ur];simp) rows [] _ ⟨rfl,b6,rfl⟩
 subst e;have o:(rows.map K').map (λu=>(kE .loc,u))=rows.map λr=>(Kd.loc,K' r):=by rw[fR];rfl
 have q:=ou a;have m:=v5 (jT c);show aw rfl (.inl rfl) f (aA (r:=(oL [])) (bY af ttt aN (lx _)) bh (bV  (aa (ae rfl) af) ttt rfl rfl (by rw[o];show g) (bf (qa (aa (au rfl) af) ∅ (oq ⋯ ⋯)) eN)))
def x_(h:⇑ks<1000):d0 (.str x) u (.J' ks us)≈.J' (dput ks us x u).1 (dput ks us x u).2:=by
 have hsz:1000<=dt:=⋯
 change(if ⇑ks<dt then _ else _)=_
 grind
end TM
namespace Od
section
variable{W:Type}[DecidableEq W]{rows:List (W×List W)}
abbrev gY(rows:↑(W×↑W))(C:W->Prop):Prop:=∀r∈rows,(∀x∈r.2,C x)->C r.1
abbrev OD(rows:↑(W×↑W))(K:↑W):Prop:=∀C:W->Prop,gY rows C->∀x∈K,C x
def same(a:K.Nodup)(b:L.Nodup)(sK:OD rows K)(c:OD rows L)(d:gY rows (·∈K))(e:gY rows (·∈L)):K.Perm L :=
 (RM a b).mpr λx=>#[λh=>sK _ e x h,λh=>c _ d x h]
abbrev told(rows:↑(W×↑W))(p:Nat):↑W:=match rows[p]? with
 |some r=>r.2
 |none=>[]
def l8(h:rows[p]?≈r):told rows p=r.2:=by unfold told;rw[h]
abbrev v7(K l:↑W):Nat:=⇑(l.filter λx=>dV (x∉K))
abbrev cnt(rows:↑(W×↑W))(K:↑W)(p:Nat):Nat:=v7 K (told rows p)
def zI{K l:↑W}:v7 K l=0↔∀x∈l,x∈K:=by
 unfold v7;simp
theorem uu(a:w∉K):∀{l:↑W},l.Nodup->v7 (K++[w]) l+(if w∈l then 1 else 0)=v7 K l
 |[],_=>rfl
 |x::l,h=>by
  have(g,b):=qb.mp h;have c:=uu a b;unfold v7 at c ⊢;by_cases e:x=w
  .simp_all
  .have d:w≠x:=λz=>e z.symm;have f:(if w∈x::l then 1 else 0)=if w∈l then 1 else 0:=by simp[d]
   rw[f];by_cases i:x∈K
   .simp_all
   grind
abbrev Once(rows:↑(W×↑W)):Prop:=∀r∈rows,r.2.Nodup
def Once.told(h:Once rows)(p:Nat):(told rows p).Nodup:=by
 unfold Od.told;split
 .rename_i r e;show h r (k8 e)
 simp
def uw:cnt rows K p=0↔∀x∈told rows p,x∈K:=zI
def r_(h:Once rows)(a:w∉K)(p):cnt rows (K++[w]) p+(if w∈told rows p then 1 else 0)=cnt rows K p:=uu a (h.told p)
abbrev MT(rows:↑(W×↑W))(n:Nat)(w:W):↑Nat:=(fS n).filter λp=>dV (w∈told rows p)
def zJ(n)(w):(MT rows n w).Nodup:=ģ QW ó
def jV:p∈MT rows n w↔p<n/\w∈told rows p:=by simp[MT]
abbrev aY(ps:↑(W×Nat))(w:W):↑Nat:=(ps.filter λp=>dV (p.1=w)).map (·.2)
theorem uA:∀{l:↑W},l.Nodup->aY (l.map λx=>(x,n)) w=if w∈l then [n] else []
 |[],_=>rfl
 |x::l,h=>by
  have(c,a):=qb.mp h;have b:=uA (n:=n) (w:=w) a;unfold aY at b ⊢;rw[gr,Ws]
  grind
def Cv(a b)(w:W):aY (a++b) w=aY a w++aY b w:=by simp[aY]
def zK(h:Once rows)(a:rows[n]?≈r)(b:∀w,aY ps w=MT rows n w)(w):aY (ps++r.2.map λx=>(x,n)) w=MT rows (n+1) w:=by
 rw[Cv,b w,uA (h r (k8 a))];unfold MT;rw[υ,X0];rw[Ws,l8 a];simp
structure RI(rows:↑(W×↑W))(K0 K:↑W)(R:↑Nat):Prop where
 UN:∀t∈R,t<⇑rows/\cnt rows K t=0
 all:∀t,t<⇑rows->cnt rows K t=0->cnt rows K0 t=0\/t∈R
def RI.start(K):RI rows K K []:=#[by simp,λt _ h=>.inl h]
def RI.step(h:Once rows)(x:RI rows e K R)(c:w∉K):RI rows e (K++[w]) (R++(MT rows ⇑rows w).filter λt=>dV (cnt rows K t=1)):=by
 show#[λt ht=>?_,λt ht h0=>?_]
 .have a:=r_ h c t;rcases ki.mp ht with ht|ht
  .have(d,f):=x.UN t ht;simp_all
  .have(d,f):=DD.mp ht;have(g,i):=jV.mp d;simp_all
 .have a:=r_ h c t;by_cases b:w∈told rows t
  .rw[if_pos b]at a;show .inr (ki.mpr (.inr (DD.mpr #[jV.mpr #[ht,b],by grind])))
  .rw[if_neg b]at a;rcases x.all t ht ⋯ with z|z
   .show .inl z
   .show .inr (ki.mpr (.inl z))
structure NS(rows:↑(W×↑W))(K:↑W)(d:↑Nat)(ps:↑(W×Nat)):Prop where
 ok:∀s∈ps,s.2∈d/\s.1∉K/\∃r,rows[s.2]?≈r/\r.1=s.1
 once:(ps.map (·.1)).Nodup
 all:∀p∈d,∀r,rows[p]?≈r->r.1∈K\/r.1∈ps.map (·.1)
def NS.start(K):NS rows K [] []:=#[by simp,by simp,by simp]
def NS.skip(x:NS rows K d ps)(g:rows[p]?≈r)(h:r.1∈K\/r.1∈ps.map (·.1)):NS rows K (d++[p]) ps :=
 #[λs hs=>let ⟨a,b,c⟩:=x.ok s hs;⟨by simp[a],b,c⟩,x.once,λq hq e f=>by
  rcases ki.mp hq with hq|hq
  .show x.all q hq e f
  simp_all]
def NS.take(x:NS rows K d ps)(k:rows[p]?≈r)(l:r.1∉K)(f:r.1∉ps.map (·.1)):NS rows K (d++[p]) (ps++[(r.1,p)]):=by
 show#[λs hs=>?_,?_,λq hq g h=>?_]
 .rcases ki.mp hs with hs|hs
  .have(a,b,c):=x.ok s hs;show#[by simp[a],b,c]
  simp_all
 .rw[mh,pb];show#[x.once,by simp,λa i b j e=>?_];have:=by simpa using j
  subst this;show f (e▸i)
 .rcases ki.mp hq with hq|hq
  .rcases x.all q hq g h with z|z
   .show .inl z
   .show .inr (by simp only[mh,ki];show .inl z)
  simp_all
def NS.perm(x:NS rows K d ps)(h:a.Perm ps):NS rows K d a :=
 #[λs hs=>x.ok s (h.mem_iff.mp hs),(h.map _).nodup_iff.mpr x.once,λp b r c=>(x.all p b r c).imp id λz=>(h.map _).mem_iff.mpr z]
def vS(rows:↑(W×↑W)):↑W->↑(W×Nat)->Prop
 |_,[]=>True
 |K,s::ss=>(s.1∉K/\∃r,rows[s.2]?≈r/\r.1=s.1/\∀x∈r.2,x∈K)/\vS rows (K++[s.1]) ss
theorem Cw:∀{a b}{K},vS rows K a->vS rows (K++a.map (·.1)) b->vS rows K (a++b)
 |[],b,K,_,h=>by simp_all
 |s::a,b,K,c,d=>#[c.1,Cw c.2 ⋯]
theorem Cy:∀{ss}{K},(∀s∈ss,s.1∉K/\∃r,rows[s.2]?≈r/\r.1=s.1/\∀x∈r.2,x∈K)->(ss.map (·.1)).Nodup->vS rows K ss
 |[],K,_,_=>trivial
 |s::ss,K,h,a=>by
  have b:=by
   rw[gr]at a;show qb.mp a
  show#[h s ⋯,Cy (λt c=>?_) b.2];have(d,r,e,f,g):=h t (by simp[c]);show#[λz=>?_,r,e,f,λx i=>by simp[g x i]];rcases ki.mp z with z|z
  .show d z
  .have:=by simpa using z
   show b.1 (this▸hW.mpr #[t,c,rfl])
theorem ox:∀{ss}{K},vS rows K ss->K.Nodup->(K++ss.map (·.1)).Nodup
 |[],K,_,h=>by simp_all
 |s::ss,K,h,c=>by
  have:(K++[s.1]).Nodup:=by
   rw[pb];show#[c,by simp,λa d b f e=>?_];have:=by simpa using f
   subst this;show h.1.1 (e▸d)
  have:=ox h.2 this;simp_all
theorem Cz:∀{ss}{K},vS rows K ss->OD rows K->OD rows (K++ss.map (·.1))
 |[],K,_,h=>by simp_all
 |s::ss,K,h,b=>by
  have c:OD rows (K++[s.1]):=λC a x hx=>by
   rcases ki.mp hx with hx|hx
   .show b C a x hx
   .have:=by simpa using hx
    subst this;have(_,r,d,e,f):=h.1;rw[<-e];show a r (k8 d) λy g=>b C a y (f y g)
  have:=Cz h.2 c;simp_all
theorem uB:∀{ss}{K},vS rows K ss->∀x∈ss.map (·.1),x∈rows.map (·.1)
 |[],K,_,x,hx=>by simp at hx
 |s::ss,K,h,x,hx=>by
  rcases f6.mp hx with rfl|hx
  .have(_,r,a,b,c):=h.1;show hW.mpr #[r,k8 a,b]
  .show uB h.2 x hx
structure LI(rows:↑(W×↑W))(L9:↑(W×Nat))(R:↑Nat):Prop where
 ok:vS rows [] L9
 UN:∀t∈R,t<⇑rows/\cnt rows (L9.map (·.1)) t=0
 all:∀t r,rows[t]?≈r->cnt rows (L9.map (·.1)) t=0->t∈R\/r.1∈L9.map (·.1)
def LI.step(x:LI rows a R)(n:NS rows (a.map (·.1)) R st)(y:RI rows (a.map (·.1)) (a.map (·.1)++st.map (·.1)) d):LI rows (a++st) d:=by
 have em:(a++st).map (·.1)=a.map _++st.map _:=mh;show#[Cw x.ok (Cy (λs hs=>?_) n.once),λt e=>by rw[em];show y.UN t e,λt r b h0=>?_]
 .have(f,h,r,c,g):=n.ok s hs;have hz:=(x.UN _ f).2;rw[uw,l8 c]at hz;show#[by assumption,r,c,g,by assumption]
 .rw[em]at h0 ⊢;rcases y.all t (eH.mp b).1 h0 with z|z
  .rcases x.all t r b z with z|z
   .rcases n.all t z r b with z|z
    .show .inr (ki.mpr (.inl z))
    .show .inr (ki.mpr (.inr z))
   .show .inr (ki.mpr (.inl z))
  .show .inl z
def LI.nd(x:LI rows a R):(a.map (·.1)).Nodup:=by simpa using ox x.ok .nil
def LI.sn(x:LI rows a R):OD rows (a.map (·.1)):=by simpa using Cz x.ok λ_ _ _ h=>absurd h Su
def LI.wd(x:LI rows a R):∀y∈a.map (·.1),y∈rows.map (·.1):=uB x.ok
def LI.closed(x:LI rows b []):gY rows (·∈b.map (·.1)):=λr c h=>by
 have(t,a):=ŀ.mp c;rcases x.all t r a (by rw[uw,l8 a];show h) with z|z
 .cases z
 lia
def ya{K L:↑W}(h:K.Nodup)(s:∀x∈K,x∈L):⇑K<=⇑L:=by
 induction K generalizing L with
 |nil=>simp
 |cons a K c =>
  have(d,f):=qb.mp h;have:=c  f λx b=>by
   have g:x≠a:=λe=>d (e▸b);show(W6 g).mpr (s x (by simp[b]))
  grind
end
end Od
namespace TM
open PySem L2 Mu
def KR(h:st[j]?≈bD (.own,u)):Run (lift (.bor j,a)) st u (st.set j (bD (.loc,u))):=by
 change(match st[j]? with|some (bD (.own,u))=>bD _|_=>b6)=_;rw[h]
def yb(h:Run c st cK st1):Run (km c body (n+1)) st .nx st1:=ag h bu
def v8(h:Run c st cb st1)(a:Run body st1 .nx st2)(b:Run (km c body n) st2 f st3):Run (km c body (n+1)) st f st3:=ag h (ag a b)
def yc(h:Run (km (Mn Γ c) (execs Γ body) fuel) st .nx st1)(a:Run (execs Γ ss) st1 f st2):Run (execs Γ (.QK c body::ss)) st f st2:=gF h a
def e_(hk:k=.loc\/k=.any):Run (dZ cb [i,j] (k,.tup [a,b])) st () ((st.set i (bD (k,a))).set j (bD (k,b))):=by
 rcases hk with rfl|rfl<;>rfl
def CA(h:Run (execs Γ ss) (st.set i (bD (.F',.J' [] []))) f st1):Run (execs Γ (.newD i::ss)) st f st1:=gF (ag   rfl bu) h
def sd(h:st[i]?≈bD (.F',.J' ks us)):Run (jI i) st (ks,us) st:=by
 change jI i st=_;unfold jI;rw[h]
def v9:Run (lM (k,.str y)) st y st:=rfl
def FF(a:st[i]?≈bD (.F',.J' ks us))(b:y∉ks)(c:⇑ks<dt):Run (nL i y (oL xs)) st () (st.set i (bD (.F',.J' (ks++[y]) (us++[.lst xs])))):=by
 change nL i y _ st=_;unfold nL;simp_all
def FG(h0:st[i]?≈bD (.F',.J' ks us))(a:cu ks us y≈.lst xs)(b:⇑xs<dt):Run (nM i y u) st () (st.set i (bD (.F',.J' ks (kl ks us y (.lst (xs++[u])))))):=by
 change nM i y u st=_;unfold nM;simp_all
def CB(b:Run (ev Γ a) st (k,.str y) st1)(c:st1[i]?≈bD (.F',.J' ks us)):Run (Mn Γ (.inD neg a i)) st (XF neg y ks) st1 :=
 ag b (ag v9 (ag (sd c) bu))
def CC(b:Run (ev Γ c) st (oL xs) st1)(a:st1[i]?≈bD (.F',.J' ks us))(d:Run (ev Γ e) st1 (k,.str y) st1)(g:y∉ks)(h:⇑ks<dt)
  (j:Run (execs Γ ss) (st1.set i (bD (.F',.J' (ks++[y]) (us++[.lst xs])))) f st3):Run (execs Γ (.putD i e c::ss)) st f st3:=by
 show gF ?_ j;show ag b (ag (sd a) (ag d (ag v9 (ag (FF a g h) bu))))
def CD(h0:st[i]?≈bD (.F',.J' ks us))(a:Run (ev Γ b) st (k,.str y) st)(c:y∈ks)(d:Run (ev Γ e) st r st)(g:Run (lift r) st u st)(h:cu ks us y≈.lst xs)(j:⇑xs<dt)
  (l:Run (execs Γ ss) (st.set i (bD (.F',.J' ks (kl ks us y (.lst (xs++[u])))))) f st3):Run (execs Γ (.NR i b e::ss)) st f st3:=by
 show gF ?_ l;show ag (sd h0) (ag a (ag v9 (ag (sd h0) ?_)));rw[if_pos c];show ag d (ag g (ag (FG h0 h j) bu))
def KS(h:st[i]?≈bD (.F',.J' ks us)):Run (ev Γ (.S5 i)) st (.bor i,.J' ks us) (st.set i (bD (.own,.J' ks us))):=by
 change Bj i st=_;unfold Bj;rw[h]
def Ja(h0:st[i]?≈bD (.own,.J' ks us))(c:Run (ev Γ a) st (k,.str y) st)(d:Run (ev Γ b) st z st)(e:Run (lift z) st u st)(f:(match cu ks us y with|some v=>(Kd.loc,v)|none=>(.loc,u))=r):
  Run (ev Γ (.Ox i a b)) st r st:=by
 show ag (iL h0) (ag   rfl (ag c (ag   rfl (ag d (ag e (ag (iL h0) (cY ?_)))))));subst f;rfl
def KU(h0:st[i]?≈bD (oL us))(b:Run (ev Γ c) st (k1,.int (j:Nat)) st)(d:us[j]?≈.int o)(e:Run (ev Γ g) st (k2,.int w) st)
  (h:Run (execs Γ ss) (st.set i (bD (oL (us.set j (.int (o - w)))))) f st3):Run (execs Γ (.aug cb i c g::ss)) st f st3:=by
 have hl:tP i st≈(.ok us,st):=by unfold tP;rw[h0];rfl
 have l:=(eH.mp d).1;have hi:tQ us j≈o:=by
  unfold tQ;simp_all
 have k:PM ⇑us j≈j:=by
  unfold PM;simp_all
 show gF (ag   hl (ag b (ag   rfl (ag   hl (ag (cY hi) (ag e (ag   rfl (ag (a:=())  ?_ bu)))))))) h;change modS i _ st=_;unfold modS;rw[h0];simp only[d0];rw[k];rfl
def KW(h0:st[i]?≈bD (.own,u))(a:Bh u≈r):Run (ev Γ (.S6 i)) st r st:=ag (iL h0) (cY a)
def CF(a:Run (ev Γ e) st r st1)(b:Run (dZ cb is r) st1 () st2)(c:Run (execs Γ ss) st2 f st3):Run (execs Γ (.Oy is e::ss)) st f st3:=gF (ag a (ag b bu)) c
theorem di(f)(y):∀ks,cu ks (ks.map f) y=if y∈ks then bD (f y) else b6
 |[]=>rfl
 |k::ks=>by
  change(if k=y then bD _ else cu ks _ y)=_;by_cases e:k=y
  .simp_all
  .rw[if_neg e,di f y ks]
   grind
theorem oy(f)(y)(u):∀ks,ks.Nodup->kl ks (ks.map f) y u=ks.map λk=>if k=y then u else f k
 |[],_=>rfl
 |k::ks,h=>by
  have(a,b):=qb.mp h;rw[gr,gr];change(if k=y then u::ks.map f else f k::kl ks _ y u)=_;by_cases e:k=y
  .subst e;rw[if_pos rfl,if_pos rfl];congr 1
   show tA λz hz=>?_;have c:z≠k:=λq=>a ⋯;simp_all
  .rw[if_neg e,if_neg e,oy f y u ks b]
abbrev stN(s:Str×Nat):U:=.tup [.str s.1,.int (s.2:Nat)]
theorem qe(f:α->Int):∀(b:↑α),intsOf (b.map λa=>U.int (f a))≈b.map f
 |[]=>rfl
 |n::b=>by change(intsOf _).map _=_;rw[qe f b];rfl
def FH(h:⇑ps<64)(c:(ps.map (·.1)).Nodup):∃a:↑(Str×Nat),a.Perm ps/\Bh (.J' (ps.map (·.1)) (ps.map λp=>.int (p.2:Nat)))≈oL (a.map stN):=by
 have hi:=qe (λp =>p.2) ps;have hz:(ps.map (·.1)).zip (ps.map λp =>(p.2:Int))=ps.map λp=>(p.1,(p.2:Int)):=by
  rw[Ϡ]
 let P:=dz ((ps.map λp=>(p.1,(p.2:Int))).map (·.1));have b:P.Perm (fS ⇑ps):=by
  have:=bS ((ps.map λp=>(p.1,(p.2:Int))).map (·.1));simpa[P] using this
 show#[P.map λi=>ps.getD i (rr,0),?_,?_]
 .show(b.map _).trans ?_;have:(fS ⇑ps).map (λi=>ps.getD i (rr,0))=ps:=by
   apply PH
   .simp
   .intro i g d;simp[Ry,d]
  rw[this]
 .change(intsOf (ps.map λp=>U.int p.2)).bind _=_;rw[hi];change(if ⇑(ps.map (·.1))<64/\(ps.map (·.1)).Nodup/\⇑(ps.map (·.1))=⇑(ps.map λp =>(p.2:Int)) then _ else _)=_;rw[if_pos #[by simp_all,c,by simp],hz];congr 3
  change(Ew _).map zi=_;change(P.map λi=>(ps.map λp=>(p.1,p.2)).getD i (rr,0)).map zi=_;rw[fR,fR];show tA λi e=>?_;have f:i<⇑ps:=tj.mp (b.mem_iff.mp e);simp[Ry,f,zi,stN]
def Gw(h:dV (i<=j)=c):bJ .le (.int i) (.int j)≈c:=by subst h;rfl
def CG(h:dV (j<=i)=c):bJ .ge (.int i) (.int j)≈c:=by subst h;rfl
def kL:bJ .isin (.str x) (.J' ks vs)≈dV (x∈ks):=rfl
def iu:bJ .L6 (.str x) (.J' ks vs)≈!dV (x∈ks):=rfl
def Gy{ss:↑Str}:bJ .isin (.str x) (.lst (ss.map U.str))≈dV (x∈ss):=by
 have h:=@fM x ss;have e:bJ .L6 _ (.lst _)=(bJ .isin (.str x) (.lst (ss.map U.str))).map _:=rfl;simp_all
def Jb:bJ .ne (.str a) (.str b)≈!dV (a=b):=by
 rfl
def l9(bs:↑Bool):Nm .all [(k,.lst (bs.map .bl))]≈lB (bs.all id):=by
 change(nF _).map _=_;have:∀bs ,nF (bs.map U.bl)≈bs:=λbs=>by
  induction bs with
  |nil=>rfl
  |cons b bs a=>change(nF _).map _=_;rw[a];rfl
 rw[this];rfl
mutual
theorem qf:∀(n:Nat) (u:U),M8 n u=cb->cq u u=cb
 |_,.Mc,_=>rfl
 |_,.bl b,_=>by simp[cq]
 |_,.int i,_=>by simp[cq]
 |_,.str x,_=>by simp[cq]
 |0,.tup xs,h=>by simp[M8]at h
 |0,.lst xs,h=>by simp[M8]at h
 |n+1,.tup xs,h=>by rw[cq];show ji n xs (by simpa[M8] using h)
 |n+1,.lst xs,h=>by rw[cq];show ji n xs (by simpa[M8] using h)
 |_,.J' _ _,h=>by simp[M8]at h
 |_,.M9 _,h=>by simp[M8]at h
theorem ji:∀(n:Nat) (us:↑U),gf n us=cb->cX us us=cb
 |_,[],_=>rfl
 |n,u::us,h=>by
  have h':M8 n u=cb/\gf n us=cb:=by simpa[gf] using h
  rw[cX,qf n u h'.1,ji n us h'.2];rfl
end
def cO(h:M8 50 u=cb):bJ .ne u u≈cK:=by
 simp only[bJ];rw[if_pos #[h,h],qf 50 u h];rfl
def iw{told known:↑Str}(hk:k=.loc\/k=.any)(hl:⇑told<=1000)(hs:Run (ev Γ src) st (lT (told.map .str)) st)(hj:st[j]?≈bD (k,w)\/st[j]?≈bD (.own,w))(a:∀x,bJ .isin (.str x) w≈dV (x∈known)):
  Run (ev Γ (.bi .all [.comp 1 cK .seq [src] [] (.cmp .isin (.var 0) (.var (j+1)))])) st (lB (told.all λx=>dV (x∈known))) st:=by
 have hsz:1000<=dt:=⋯
 have b:=cC (cond:=aQ Γ []) (elt:=ev Γ (.cmp _ (.var 0) (.var (j+1)))) (src:=[(lT (told.map .str))])  ttt .loc (.inl rfl) U.str (λx=>.bl (dV (x∈known))) .loc (λ_=>cB) told [] (by grind)
  (λy _=>#[by
   rcases hj with hj|hj
   .rcases hk with rfl|rfl
    .show gU (ae rfl) (ae (by simpa using hj)) ttt (a y)
    .show gU (ae rfl) (ay (by simpa using hj)) ttt (a y)
   .show gU (ae rfl) (au (by assumption)) #[#[.own,rfl,by assumption],ttt] (a y),aG])
 have e:(told.map U.str).map (λu=>(kE .loc,u))=told.map λr=>(lS r):=by rw[fR];rfl
 have c:(told.map λx=>U.bl (dV (x∈known)))=(told.map λx=>dV (x∈known)).map U.bl:=by rw[fR];rfl
 rw[c]at b;have d:(told.all λx=>dV (x∈known))=((told.map λx=>dV (x∈known)).all id):=⋯
 rw[d];show bp (aa (bx  (aa hs af) ttt (by change bD _=_;rw[e]) b) af) ttt (l9 _)
def yd(h:⇑ks<1000)(a:x∉ks):d0 (.str x) u (.J' ks us)≈.J' (ks++[x]) (us++[u]):=by
 rw[x_ h];unfold dput;rw[if_neg a]
def oz(h:M8 50 (.lst us)=cb):bJ .ne (.lst us) (.lst [])≈!us.isEmpty:=by
 simp only[bJ];rw[if_pos #[h,by rfl]];cases us with
 |nil=>simp[cq,cX]
 |cons u us=>rfl
theorem qg(f:α->Int):∀(l:↑α) (n:Nat),gf n (l.map λa=>U.int (f a))=cb
 |[],n=>by rfl
 |a::l,n=>by rw[gr,gf,qg f l n];rfl
theorem uC:∀(ss:↑(Str×Nat)) n,gf (n+1) (ss.map stN)=cb
 |[],n=>by rfl
 |s::ss,n=>by rw[gr,gf,uC ss n];rfl
theorem gv{cond:M Bool}(h:bB src st)(a b g:α->U)(p:α->Bool):∀(d:↑α) (c:↑U),⇑c+⇑d<=dt ->
  (∀y∈d,Run cond (bD (.loc,a y)::bD (.loc,b y)::st) (p y) (bD (.loc,a y)::bD (.loc,b y)::st)/\Run elt (bD (.loc,a y)::bD (.loc,b y)::st) (.loc,g y) (bD (.loc,a y)::bD (.loc,b y)::st)) ->
  Run (bO 2 cb cond elt src (d.map λy=>(lT [a y,b y])) c) st (c++(d.filter p).map g) st
 |[],c,_,_=>by rw[Tr,þ,Tr,Ot];show ub h
 |y::d,c,hl,f=>by
  have(e,k):=f y ⋯;rw[nz]at hl;have i:Run (dZ cb (fS 2) (lT [a y,b y])) (hZ 2 b6++st) () _:=e_ (.inl rfl);cases j:p y with
  |true =>
   rw[j]at e;show n_     h i e k aG ⋯ ?_;have:=gv h a b g p d (c++[g y]) ⋯ λz hz=>f z (by simp[hz]);simp_all
  |false =>
   rw[j]at e;show vR   h i e ?_;have:=gv h a b g p d c ⋯ λz hz=>f z (by simp[hz]);simp_all
def set_range(n:Nat)(f:Nat->α)(t:Nat)(v:α):((fS n).map f).set t v=(fS n).map λp=>if p=t then v else f p:=by
 apply PH
 .simp
 .intro i a b;simp only[List.getElem_set,List.getElem_map,List.getElem_range]
  grind
def jW{rows:↑Row}{t:Nat}(h:rows[t]?≈r):MB (rows.map K') (t:Int)≈K' r:=b7 (by simp[h])
def Gz(c:Run (ev Γ a) st x st1)(d:iC x.2≈e)(f:Run (ev Γ b) st1 y st2)(g:iC y.2≈h)(i:tM ln e h≈r):Run (ev Γ (.R3 ln a b)) st r st2 :=
 ag c (ag (cY d) (ag f (ag (cY g) (cY i))))
def ix(h:⇑ss<4000):iC (.lst (ss.map .str))≈aU ss:=by
 change(strsOf _).bind _=_;rw[cN];change(if ⇑ss+1<Q9 then _ else _)=_;rw[if_pos (by change ⇑ss+1<4096;lia)]
def uD(c:l.Perm m)(hs:m.Pairwise (λa b=>N6 a b=cb)):aD l=m:=eh ((aS l).trans c) (c9 l) hs
def CH(h:∀x,x∈a↔x∈b):aD (aU a)=aD (aU b) :=
 cW ((RM (b9 a) (b9 b)).mpr λx=>by rw[b_,b_,h x])
end TM
namespace KL
open PySem L2 TM
end KL
namespace KL
open PySem L2 TM Mu Od
abbrev cQ(f:Str->↑Nat)(k:Str):U:=.lst ((f k).map λt:Nat=>U.int (t:Nat))
def kM(d)(y)(k:Str):aY (d++[y]) k=if y.1=k then aY d k++[y.2] else aY d k:=by
 by_cases e:y.1=k
 .simp[aY,e]
 .simp[aY,e]
def CI(d)(k:Str):⇑(aY d k)<=⇑d:=by
 unfold aY;rw[df];show B' _ _
def se(hl:⇑ps<=1000):∃ks,(∀w,w∉ks->aY ps w=[])/\bt Γ dG [.lst (ps.map stN)]≈.ok (.own,.J' ks (ks.map (cQ (aY ps)))):=by
 have hsz:2000<=dt:=⋯
 have A:TM.start [.lst (ps.map stN)] 4=[bD (aL (ps.map stN)),b6,b6,b6]:=rfl;let S:=λks us o2 o3=>[bD (aL (ps.map stN)),bD (.F',.J' ks us),o2,o3]
 let body:↑TM.S:=[.ite (.inD cb (.var 2) 1)
    [.putD 1 (.var 2) (.lst [])]
    [],
   .NR 1 (.var 2) (.var 3)]
 have(st',B,n,ks,o2,o3,e,f,hk,C):=bL (t:=cb) (is:=[2,3]) (body:=execs Γ body) (rs:=[(aL (ps.map stN))]) (λp =>(Kd.any,stN p))
  (λd r st=>d++r=ps/\∃ks o2 o3,st=S ks (ks.map (cQ (aY d))) o2 o3/\ks.Nodup/\(∀w,w∉ks->aY d w=[])/\⇑ks<=⇑d) (λ_ _ _ _=>ttt) (λd y r st D=>by
   have(n,ks,o2,o3,e,f,hk,C):=D;subst e;have H:⇑d<1000:=by grind
   let g:Sl:=bD (.any,.str y.1);let i:Sl:=bD (.any,.int y.2);have I:=CI d y.1;have j:∀ks,ks.Nodup->y.1∈ks->Run (execs Γ [.NR 1 (.var 2) (.var 3)]) (S ks (ks.map (cQ (aY d))) g i) .nx (S ks (ks.map (cQ (aY (d++[y])))) g i):=λks f c=>by
    have G:cu ks (ks.map (cQ (aY d))) y.1≈.lst ((aY d y.1).map λt:Nat=>U.int t):=by rw[di,if_pos c];rfl
    have hs:kl ks (ks.map (cQ (aY d))) y.1 (.lst ((aY d y.1).map (λt:Nat=>U.int t)++[.int y.2]))=ks.map (cQ (aY (d++[y]))):=by
     rw[oy _ _ _ _ f];show tA λk hk=>?_;unfold cQ;rw[kM];by_cases e:y.1=k
     .subst e;rw[if_pos rfl,if_pos rfl];simp
     .rw[if_neg e,if_neg (ve e)]
    rw[<-hs];show CD (k:=.any) (r:=(.any,.int y.2)) rfl (ay rfl) c (ay rfl) (gW rfl) G (by rw[df];lia) ao
   have l:Run (Mn Γ (.inD cb (.var 2) 1)) (S ks (ks.map (cQ (aY d))) g i) (!dV (y.1∈ks)) (S ks (ks.map (cQ (aY d))) g i):=CB (neg:=cb) (k:=.any) (ay rfl) rfl;have q:Run (dZ cb [2,3] (.any,stN y)) (S ks (ks.map (cQ (aY d))) o2 o3) () (S ks (ks.map (cQ (aY d))) g i):=e_ (.inr rfl);by_cases c:y.1∈ks
   .rw[decide_eq_true c]at l;show#[_,_,q,eO l (λh=>by cases h) λ_=>j ks f c,by rw[<-n];simp,ks,_,_,rfl,f,λw m=>?_,by simp;lia];have o:y.1≠w:=λz=>m (by rw[<-z];show c);rw[kM,if_neg o];show hk w m
   .rw[decide_eq_false c]at l;have s:(ks++[y.1]).Nodup:=by
     rw[pb];show#[f,by simp,λa J b L e=>?_];simp_all
    have em:ks.map (cQ (aY d))++[.lst []]=(ks++[y.1]).map (cQ (aY d)):=by
     rw[mh];congr 1
     change _=[cQ (aY d) y.1]
     unfold cQ;rw[hk y.1 c];rfl
    have v:=j (ks++[y.1]) s ⋯;rw[<-em]at v;show#[_,_,q,eO l (λ_=>CC (k:=.any) (xs:=[]) (bY af ttt aN (lx _)) rfl (ay rfl) c ⋯ v) λh=>(by cases h),by rw[<-n];simp,ks++[y.1],_,_,rfl,s,λw m=>?_,by simp;lia];have x:w∉ks/\w≠y.1:=by simpa using m
    rw[kM,if_neg (ve x.2)];show hk w x.1) ps [] (S [] [] b6 b6) ⟨rfl,[],b6,b6,rfl,.nil,λ_ _=>rfl,gi _⟩
 subst e;rw[oa]at *;show#[ks,hk,?_];have e:(ps.map stN).map (λu=>(kE .any,u))=ps.map λp=>(Kd.any,stN p):=by rw[fR];rfl
 show aw rfl (.inl rfl) A (CA (bV (rs:=[(aL (ps.map stN))]) (st1:=S [] [] b6 b6) (aa (ay rfl) af) ttt rfl rfl (by rw[e];show B) (bf (KS rfl) (n9 rfl))))
abbrev GA(Γ:Tab):Prop:=∀ps:↑(Str×Nat),⇑ps<=1000->∃ks:↑Str,(∀w,w∉ks->aY ps w=[])/\Γ "gathered" [.lst (ps.map stN)]≈.ok (.own,.J' ks (ks.map (cQ (aY ps))))
def v_(s:GA Γ)(v:Once rows)(z:∀r∈rows,⇑r.2<=8)(J:⇑rows<=120):
  ∃ks,(∀w,w∉ks->MT rows ⇑rows w=[])/\bt Γ bA [tR rows]≈.ok (.own,.J' ks (ks.map (cQ (MT rows ⇑rows)))):=by
 have hsz:2000<=dt:=⋯
 have A:TM.start [tR rows] 4=[bD (.loc,tR rows),b6,b6,b6]:=by simp[TM.start,Mr,aI]
 let S:=λ(ps:↑(Str×Nat)) o2 o3=>[bD (.loc,tR rows),bD (oL (ps.map stN)),o2,o3]
 let body:↑TM.S:=[.ext 1 (.comp 1 cK .seq [.idx (.var 3) (cI 1)] [] (.tup [.var 0,.var 3]))]
 have(st',B,h,ps,o2,o3,e,g,l):=bL (t:=cb) (is:=[2,3]) (body:=execs Γ body) (rs:=[(.loc,tR rows)]) (λp =>(lT [.int p.2,K' p.1]))
  (λd r st=>d++r=rows.zipIdx/\∃(ps:↑(Str×Nat)) (o2 o3:Sl),st=S ps o2 o3/\(∀w,aY ps w=MT rows ⇑d w)/\⇑ps<=8 * ⇑d) (λ_ _ _ _=>ttt) (λd y r st C=>by
   have(h,ps,o2,o3,e,g,l):=C;subst e;have(f,i):=y;have m:(rows.zipIdx)[⇑d]?≈(f,i):=by rw[<-h];simp
   rw[ZZ,eu]at m;have(a,n,e):=m;have D:a=f:=congrArg ď e;have o:0+⇑d=i:=congrArg Prod.snd e;rw[UJ]at o;subst D o;have L:⇑d<120:=by grind
   have G:=z a (k8 n);let b:Sl:=bD (lI ⇑d);let c:Sl:=bD (.loc,K' a);have q:=cC (cond:=aQ Γ []) (elt:=ev Γ (.tup [.var 0,.var 3])) (src:=[(lT (a.2.map .str))]) (st:=S ps b c) ttt .loc (.inl rfl) U.str (λx=>stN (x,⇑d)) .loc (λ_=>cB) a.2 [] ⋯
    (λy _=>#[fG (aa (ae rfl) (aa (ae rfl) af)) ttt (aC aG (aC aG aN)) (by change 2<=dt;lia),aG])
   rw[oa]at q;have e:(a.2.map U.str).map (λu=>(kE .loc,u))=a.2.map λr=>(lS r):=by rw[fR];rfl
   have H:Run (ev Γ (.comp 1 cK .seq [.idx (.var 3) (cI 1)] [] (.tup [.var 0,.var 3]))) (S ps b c) _ (S ps b c) :=
    bx (rs:=[(lT (a.2.map .str))]) (aa (aF (x:=(.loc,K' a)) (ae rfl) aq ttt rfl) af) ttt (by change bD _=_;rw[e]) q
   have em:ps.map stN++(a.2.map λx=>stN (x,⇑d))=(ps++a.2.map λx=>(x,⇑d)).map stN:=⋯
   show#[S ps b c,S (ps++a.2.map λx=>(x,⇑d)) b c,e_ (.inl rfl),?_,by rw[<-h];simp,_,_,_,rfl,λw=>?_,by simp;lia]
   .change Run _ _ _ [bD (.loc,tR rows),bD _,b,c];rw[<-em];show uh (k:=.own) (k':=.own) rfl H rfl rfl (x8 (by rw[df,df];lia) rfl) ao
   .rw[ko];show zK v n g w) rows.zipIdx [] (S [] b6 b6) ⟨rfl,[],b6,b6,rfl,λw=>by rfl,by simp⟩
 subst e;rw[oa,List.length_zipIdx]at g l;have j:Nn .QH [(.loc,tR rows)]≈(rows.zipIdx.map λp =>(lT [.int p.2,K' p.1])):=by
  change bD _=_;rw[τ,fR];rfl
 have(ks,k1,k2):=s ps ⋯;have I:aY ps=MT rows ⇑rows:=funext g;rw[I]at k1 k2;show#[ks,k1,?_];show aw rfl (.inl rfl) A (aA (r:=(oL [])) (bY af ttt aN (lx _)) bh (bV (rs:=[(.loc,tR rows)]) (st1:=S [] b6 b6) (aa (ae rfl) af) ttt j rfl B
  (bf (aB (aa (au rfl) af) ∅ k2) eN)))
def pe{names:↑Str}(y:∀r∈rows,r.1∈names)(T:⇑names<64)(z:∀t∈R,t<⇑rows):
  ∃st,NS rows b R st/\bt Γ cZ [tR rows,.lst (R.map λt:Nat=>.int (t:Nat)),.J' b vs]≈.ok (oL (st.map stN)):=by
 have hsz:2000<=dt:=⋯
 have A:TM.start [tR rows,.lst (R.map λt:Nat=>.int t),.J' b vs] 6=[bD (.loc,tR rows),bD (aL (R.map λt:Nat=>.int t)),bD (.any,.J' b vs),b6,b6,b6]:=by simp[TM.start,Mr,aI]
 let S:=λ(ps:↑(Str×Nat)) (o4 o5:Sl)=>[bD (.loc,tR rows),bD (aL (R.map λt:Nat=>.int (t:Nat))),bD (.any,.J' b vs),bD (.own,.J' (ps.map (·.1)) (ps.map λp=>.int (p.2:Nat))),o4,o5]
 let body:↑TM.S:=[.set 5 (.idx (.idx (.var 0) (.var 4)) (cI 0)),
   .ite (.and [.cmp .L6 (.var 5) (.var 2),.cmp .L6 (.var 5) (.var 3)])
    [.put 3 (.var 5) (.var 4)]
    []]
 have q:∀{d} {ps},NS rows b d ps->⇑ps<=⇑names:=λ{d ps} x=>by
  have:=ya x.once (L:=names) λw B=>by
   have(s,hs,rfl):=hW.mp B;have(_,_,r,c,f):=x.ok s hs;rw[<-f];show y r (k8 c)
  simpa using this
 have(st',C,l,ps,o4,o5,e,x):=bL (t:=cK) (is:=[4]) (body:=execs Γ body) (rs:=[(aL (R.map λt:Nat=>.int (t:Nat)))]) (λt:Nat=>(Kd.any,U.int t))
  (λd r st=>d++r=R/\∃(ps:↑(Str×Nat)) (o4 o5:Sl),st=S ps o4 o5/\NS rows b d ps) (λ_ _ _ _=>ttt) (λd t r st D=>by
   have(l,ps,o4,o5,e,x):=D;subst e;have G:t<⇑rows:=z t (by rw[<-l];simp);have m:rows[t]?≈rows[t]:=by simp[G]
   generalize rows[t]=a at m;let g:Sl:=bD (.any,.int t);let n:Sl:=bD (lS a.1);have H:=q x;have j:Run (Mn Γ (.and [.cmp .L6 (.var 5) (.var 2),.cmp .L6 (.var 5) (.var 3)])) (S ps g n) (!dV (a.1∈b)&&!dV (a.1∈ps.map (·.1))) (S ps g n) :=
    qc (vZ (aM (ae rfl) (ay rfl) ttt iu) λ_=>gp (aM (ae rfl) (au rfl) ∅ iu))
   have i:∀{v},Run (execs Γ [.ite (.and [.cmp .L6 (.var 5) (.var 2),.cmp .L6 (.var 5) (.var 3)])
    [.put 3 (.var 5) (.var 4)]
    []]) (S ps g n) .nx v->Run (execs Γ body) (S ps g o5) .nx v:=λh =>
    aA (r:=(lS a.1)) (aF (x:=(.loc,K' a)) (aF (ae rfl) (ay rfl) ttt (c7 (jW m))) aq ttt rfl) aX h
   have o:Run (dZ cK [4] (.any,.int t)) (S ps o4 o5) () (S ps g o5):=dC iM;by_cases c:a.1∈b
   .rw[decide_eq_true c]at j;show#[_,_,o,i (eO j (λh=>by cases h) λ_=>ao),by rw[<-l];simp,ps,_,_,rfl,x.skip m (.inl c)]
   .by_cases f:a.1∈ps.map (·.1)
    .rw[decide_eq_false c,decide_eq_true f]at j;show#[_,_,o,i (eO j (λh=>by cases h) λ_=>ao),by rw[<-l];simp,ps,_,_,rfl,x.skip m (.inr f)]
    .rw[decide_eq_false c,decide_eq_false f]at j;show#[_,S (ps++[(a.1,t)]) g n,o,i (eO j (λ_=>?_) λh=>by cases h),by rw[<-l];simp,_,_,_,rfl,x.take m c f];have I:(ps++[(a.1,t)]).map (·.1)=ps.map (·.1)++[a.1]:=⋯
     have J:((ps++[(a.1,t)]).map λp=>U.int p.2)=(ps.map λp=>U.int p.2)++[.int t]:=⋯
     change Run _ _ _ [bD (.loc,tR rows),bD (aL (R.map λt:Nat=>.int (t:Nat))),bD (.any,.J' b vs),bD (.own,.J' ((ps++[(a.1,t)]).map (·.1)) ((ps++[(a.1,t)]).map λp=>.int (p.2:Nat))),g,n];rw[I,J];show lz (k:=.own) (rv:=(.any,.int (t:Nat))) (rk:=(lS a.1)) (ay rfl) rfl (ae rfl) (aC (gW rfl) (aC aG aN)) rfl rfl (yd (by rw[df];lia) f) ao) R [] (S [] b6 b6) ⟨rfl,[],b6,b6,rfl,NS.start b⟩
 subst e;rw[oa]at x;have H:=q x;have(N,O,Q):=FH (ps:=ps) ⋯ x.once;show#[N,x.perm O,?_];have e:(R.map λt:Nat=>U.int (t:Nat)).map (λu=>(kE .any,u))=R.map λt=>(Kd.any,U.int (t:Nat)):=by rw[fR];rfl
 show aw rfl (.inl rfl) A (aA (r:=(.own,.J' [] [])) gV bh (bV (rs:=[(aL (R.map λt:Nat=>.int t))]) (st1:=S [] b6 b6) (aa (ay rfl) af) ttt rfl rfl (by rw[e];show C) (bf (KW rfl Q) eN)))
abbrev mi(rows:↑Row)(a:↑Str)(d:↑Nat)(p:Nat):Int:=(cnt rows a p:Int) - (if p∈d then 1 else 0)
abbrev cn(rows:↑Row)(f:Nat->Int):↑U:=(fS ⇑rows).map λp=>U.int (f p)
abbrev gx(R:↑Nat):↑U:=R.map λt:Nat=>U.int (t:Nat)
def FI(rows)(a):cn rows (mi rows a [])=cn rows λp=>(cnt rows a p:Int):=by
 rfl
def FJ(b:Once rows)(c:w∉a):cn rows (mi rows a (MT rows ⇑rows w))=cn rows λp=>(cnt rows (a++[w]) p:Int):=by
 unfold cn mi;show tA λp d=>?_;have e:=tj.mp d;have f:=r_ b c p;by_cases h:w∈told rows p
 .rw[if_pos (jV.mpr #[e,h])];rw[if_pos h]at f
  grind
 .rw[if_neg λz=>h (jV.mp z).2];simp_all
def CJ(b:t∉d):(cn rows (mi rows a d)).set t (.int (mi rows a d t - 1))=cn rows (mi rows a (d++[t])):=by
 unfold cn;rw[set_range];show tA λp _=>?_;unfold mi;by_cases e:p=t
 .simp_all
 simp_all
def CK(h:t<⇑rows):(cn rows f)[t]?≈.int (f t):=by simp[cn,h]
abbrev ye:↑TM.S:=[.aug cb 2 (.var 9) (cI 1),.ite (.cmp .eq (.idx (.var 2) (.var 9)) (cI 0)) [.app 5 (.var 9)] []]
def uE(A:Once rows)(J:⇑rows<=120)(B:w∉a)(L:⇑R<=14400)(c)(C:∀st,bB src st):∃n,
  Run (forM cK [9] (execs Γ ye) src ((MT rows ⇑rows w).map λt:Nat=>(lI (t:Nat))))
   [b0,b1,bD (oL (cn rows λp=>(cnt rows a p:Int))),b3,b4,bD (oL (gx R)),o6,o7,o8,c] .nx
   [b0,b1,bD (oL (cn rows λp=>(cnt rows (a++[w]) p:Int))),b3,b4,bD (oL (gx (R++(MT rows ⇑rows w).filter λt=>dV (cnt rows a t=1)))),o6,o7,o8,n]:=by
 have hsz:20000<=dt:=⋯
 let S:=λms R c=>([b0,b1,bD (oL ms),b3,b4,bD (oL (gx R)),o6,o7,o8,c]:aK)
 have(st',o,g,n,e):=bL (t:=cK) (is:=[9]) (body:=execs Γ ye) (rs:=src) (λt:Nat=>(lI t))
  (λd r st=>d++r=MT rows ⇑rows w/\∃c,st=S (cn rows (mi rows a d)) (R++d.filter λt=>dV (cnt rows a t=1)) c) (λ_ _ st _=>C st) (λd t r st D=>by
   have(g,c,e):=D;subst e;have G:t∈MT rows ⇑rows w:=by rw[<-g];simp
   have s:t<⇑rows:=(jV.mp G).1;have u:=zJ (rows:=rows) ⇑rows w;have q:t∉d:=λz=>by
    rw[<-g,pb]at u;show u.2.2 t z t ⋯ rfl
   have N:⇑d<=120:=by
    have O:=congrArg K2 g;have Q:⇑(MT rows ⇑rows w)<=⇑(fS ⇑rows):=B' _ _
    grind
   let f:Sl:=bD (lI t);let b:=R++d.filter λt=>dV (cnt rows a t=1);have T:⇑b<=14520:=by
    grind
   have H:MB (cn rows (mi rows a (d++[t]))) t≈.int (mi rows a (d++[t]) t):=b7 (CK s);have I:mi rows a (d++[t]) t=cnt rows a t - 1:=by unfold mi;simp
   have l:Run (Mn Γ (.cmp .eq (.idx (.var 2) (.var 9)) (cI 0))) (S (cn rows (mi rows a (d++[t]))) b f) (dV (cnt rows a t=1)) (S (cn rows (mi rows a (d++[t]))) b f) :=
    aM (aF (x:=(.bor 2,.lst (cn rows (mi rows a (d++[t]))))) (au rfl) (ae rfl) ∅ (a9 H)) aq ttt (kD (by
     rw[I,Sb];simp;lia))
   have i:∀{v},Run (execs Γ [.ite (.cmp .eq (.idx (.var 2) (.var 9)) (cI 0))
      [.app 5 (.var 9)]
      []]) (S (cn rows (mi rows a (d++[t]))) b f) .nx v->Run (execs Γ ye) (S (cn rows (mi rows a d)) b f) .nx v:=λh=>by
    show KU (us:=cn rows (mi rows a d)) (k1:=.loc) (k2:=.loc) (j:=t) (w:=1) rfl (ae rfl) (CK s) aq ?_;rw[CJ q];show h
   have y:Run (dZ cK [9] (lI t)) (S (cn rows (mi rows a d)) b c) () (S (cn rows (mi rows a d)) b f):=dC aX;cases m:dV (cnt rows a t=1) with
   |false =>
    rw[m]at l;show#[_,_,y,i (eO l (λh=>by cases h) λ_=>ao),by rw[<-g];simp,f,?_];rw[X0,Ws,m];simp[S,b]
   |true =>
    rw[m]at l;show#[_,S (cn rows (mi rows a (d++[t]))) (b++[t]) f,y,i (eO l (λ_=>?_) λh=>by cases h),by rw[<-g];simp,f,?_]
    .have em:gx (b++[t])=gx b++[.int t]:=by simp[gx]
     change Run _ _ _ [b0,b1,bD (oL (cn rows (mi rows a (d++[t])))),b3,b4,bD (oL (gx (b++[t]))),o6,o7,o8,f];rw[em];show jQ (k:=.own) (k':=.own) (r:=(lI t)) rfl (ae rfl) aG rfl rfl (by unfold gx;grind) ao
    .rw[X0,Ws,m];simp[S,b]) (MT rows ⇑rows w) [] (S (cn rows (mi rows a [])) R c) ⟨rfl,c,by simp⟩
 subst e;rw[oa]at o;rw[FI,FJ A B]at o;show#[n,o]
abbrev CL:↑TM.S:=[.put 3 (.var 7) (.cst (.bl cb)),.Mi cK [9] .seq [.Ox 1 (.var 7) (.lst [])] ye]
def zL(q:Once rows)(B:⇑rows<=120)(C:∀w,w∉ks->MT rows ⇑rows w=[])(y:(a++st.map (·.1)).Nodup)(hl:⇑a+⇑st<=120)(vs)(o7 o8 b):∃i R j l c,
  RI rows a (a++st.map (·.1)) R/\(st=[]->R=[])/\Run (forM cb [7,8] (execs Γ CL) [(.bor 6,.lst (st.map stN))] (st.map λs=>(Kd.loc,stN s)))
   [b0,bD (.own,.J' ks (ks.map (cQ (MT rows ⇑rows)))),bD (oL (cn rows λp=>(cnt rows a p:Int))),bD (.own,.J' a vs),b4,bD (oL []),bD (oL (st.map stN)),o7,o8,b] .nx
   [b0,bD (.own,.J' ks (ks.map (cQ (MT rows ⇑rows)))),bD (oL (cn rows λp=>(cnt rows (a++st.map (·.1)) p:Int))),bD (.own,.J' (a++st.map (·.1)) i),b4,bD (oL (gx R)),bD (oL (st.map stN)),j,l,c]:=by
 let S:=λK vs R (o7 o8 b:Sl)=>([b0,bD (.own,.J' ks (ks.map (cQ (MT rows ⇑rows)))),bD (oL (cn rows λp=>cnt rows K p)),bD (.own,.J' K vs),b4,bD (oL (gx R)),bD (oL (st.map stN)),o7,o8,b]:aK)
 have(st',D,m,i,R,j,l,c,e,x,G,A):=bL (t:=cb) (is:=[7,8]) (body:=execs Γ CL) (rs:=[(.bor 6,.lst (st.map stN))]) (λs =>(Kd.loc,stN s))
  (λd r n=>d++r=st/\∃vs R o7 o8 b,n=S (a++d.map (·.1)) vs R o7 o8 b/\RI rows a (a++d.map (·.1)) R/\⇑R<=120 * ⇑d/\(d=[]->R=[])) (λ_ _ n ⟨_,vs,R,o7,o8,b,e,_⟩=>by subst e;show∅) (λd s r n H=>by
   have(m,vs,R,o7,o8,b,e,x,G,A):=H;subst e;have(w,p):=s;have Q:⇑d<⇑st:=by grind
   have o:w∉a++d.map (·.1):=λz=>by
    rw[<-m,mh,<-T5,pb]at y;show y.2.2 w z w ⋯ rfl
   let f:Sl:=bD (lS w);let g:Sl:=bD (lI p);have(c,I):=uE (Γ:=Γ) q B o (R:=R) ⋯ (b0:=b0) (b1:=bD (.own,.J' ks (ks.map (cQ (MT rows ⇑rows))))) (b3:=bD (.own,.J' (a++d.map (·.1)++[w]) (vs++[.bl cb]))) (b4:=b4) (o6:=bD (oL (st.map stN))) (o7:=f) (o8:=g) b (src:=[(.loc,cQ (MT rows ⇑rows) w)]) (λ_=>ttt);have em:a++(d++[(w,p)]).map (·.1)=a++d.map (·.1)++[w]:=⋯
   have J:⇑(a++d.map (·.1))<1000:=by rw[ko,df];lia
   have L:(match cu ks (ks.map (cQ (MT rows ⇑rows))) w with|some v=>(Kd.loc,v)|none=>(.loc,U.lst []))=(.loc,cQ (MT rows ⇑rows) w):=by
    rw[di];by_cases h:w∈ks
    .rw[if_pos h]
    .rw[if_neg h];unfold cQ;rw[C w h];rfl
   have N:((MT rows ⇑rows w).map λt:Nat=>U.int t).map (λu=>(kE .loc,u))=(MT rows ⇑rows w).map λt=>(lI (t:Nat)):=by rw[fR];rfl
   show#[S (a++d.map (·.1)) vs R f g b,S (a++d.map (·.1)++[w]) (vs++[.bl cb]) (R++(MT rows ⇑rows w).filter λt=>dV (cnt rows (a++d.map (·.1)) t=1)) f g c,e_ (.inl rfl),?_,by rw[<-m];simp,vs++[.bl cb],_,f,g,c,by rw[em],?_,?_,λz=>by simp at z]
   .show lz (k:=.own) (rv:=(lB cb)) (rk:=(lS w)) aq rfl (ae rfl) (aC aG (aC aG aN)) rfl rfl (yd J o) ?_;show bV (rs:=[(.loc,cQ (MT rows ⇑rows) w)]) (aa (Ja (k:=.loc) (z:=(oL [])) (u:=.lst []) rfl (ae rfl) (bY af ttt aN (lx _)) B8 L) af) ttt (by change bD (YT (λu=>(kE .loc,u)) _)=_;rw[N]) rfl I ao
   .rw[em];show x.step q o
   .have:⇑((MT rows ⇑rows w).filter λt=>dV (cnt rows (a++d.map (·.1)) t=1))<=120:=by
     show H8 (B' _ _) ?_;have O:⇑(MT rows ⇑rows w)<=⇑(fS ⇑rows):=B' _ _;simp at O;lia
    grind) st [] (S a vs [] o7 o8 b) ⟨rfl,vs,[],o7,o8,b,by simp[S],by simpa using RI.start a,by simp,λ_=>rfl⟩
 subst e;show#[i,R,j,l,c,by simpa using x,λz=>A (by simpa using z),by simpa[S,gx] using D]
abbrev jj(Mp:↑(↑(Str×Nat))):↑U:=Mp.map λl=>U.lst (l.map stN)
abbrev CM:↑TM.S:=[.set 6 (.call "new_steps" [.var 0,.var 5,.var 3]),.set 5 (.lst []),.Mi cb [7,8] .seq [.var 6] CL,.ite (.cmp .ne (.var 6) (.lst [])) [.app 4 (.var 6)] []]
abbrev CN(Γ:Tab)(rows:↑Row):Prop:=∀(R:↑Nat) (a:↑Str) (vs:↑U),(∀t∈R,t<⇑rows)->∃st:↑(Str×Nat),NS rows a R st/\Γ "new_steps" [tR rows,.lst (gx R),.J' a vs]≈.ok (oL (st.map stN))
theorem kN(D:Once rows)(G:⇑rows<=120)(H:CN Γ rows)(I:∀w,w∉ks->MT rows ⇑rows w=[]):∀f c Mp R vs o6 o7 o8 g,
  LI rows c R->Mp.flatten=c->⇑Mp<=⇑c->(⇑rows - ⇑c)+(if R=[] then 1 else 2)<=f ->
  ∃UP J st',LI rows UP []/\J.flatten=UP/\⇑J<=120/\st'[4]?≈bD (oL (jj J)) /\
   Run (km (Mn Γ (.cmp .ne (.var 5) (.lst []))) (execs Γ CM) f) [bD (.loc,tR rows),bD (.own,.J' ks (ks.map (cQ (MT rows ⇑rows)))),bD (oL (cn rows λp=>(cnt rows (c.map (·.1)) p:Int))),bD (.own,.J' (c.map (·.1)) vs),bD (oL (jj Mp)),bD (oL (gx R)),o6,o7,o8,g] .nx st'
 |0,c,Mp,R,vs,o6,o7,o8,g,_,_,_,h=>by split at h<;>lia
 |f+1,c,Mp,R,vs,o6,o7,o8,g,x,N,Vd,h=>by
  have hsz:(20000:Nat)<=dt:=⋯
  have NF:∀{s} {d},LI rows s d->⇑s<=⇑rows:=λ{s d} x=>by
   have:=ya x.nd x.wd;simpa using this
  have Nf:=NF x;let S:=λK (vs:↑U) Mp R (o6 o7 o8 g:Sl)=>([bD (.loc,tR rows),bD (.own,.J' ks (ks.map (cQ (MT rows ⇑rows)))),bD (oL (cn rows λp=>(cnt rows K p:Int))),bD (.own,.J' K vs),bD (oL (jj Mp)),bD (oL (gx R)),o6,o7,o8,g]:aK)
  have O:∀R:↑Nat,M8 50 (.lst (gx R))=cb:=λR=>by change gf 49 _=cb;show qg (λt:Nat=>((t:Nat):Int)) R 49
  have A:Run (Mn Γ (.cmp .ne (.var 5) (.lst []))) (S (c.map (·.1)) vs Mp R o6 o7 o8 g) (!(gx R).isEmpty) (S (c.map (·.1)) vs Mp R o6 o7 o8 g) :=
   aM (au rfl) (bY af ttt aN (lx _)) ∅ (oz (O R))
  by_cases Q:R=[]
  .subst Q;show#[c,Mp,_,x,N,⋯,rfl,yb A]
  .rw[if_neg Q]at h;have T:(!(gx R).isEmpty)=cb:=by
    cases R with
    |nil=>show absurd rfl Q
    |cons a l=>rfl
   rw[T]at A;have(st,n,L8):=H R (c.map (·.1)) vs λt ht=>(x.UN t ht).1;have L_:(c.map (·.1)++st.map (·.1)).Nodup:=by
    rw[pb];show#[x.nd,n.once,λa ha b q e=>?_];have(s,hs,rfl):=hW.mp q;show(n.ok s hs).2.1 (e▸ha)
   have al:⇑c+⇑st<=⇑rows:=by
    have:=ya L_ (L:=rows.map (·.1)) λy hy=>by
     rcases ki.mp hy with hy|hy
     .show x.wd y hy
     .have(s,hs,rfl):=hW.mp hy;have(_,_,r,q1,q2):=n.ok s hs;show hW.mpr #[r,k8 q1,q2]
    simpa using this
   let v:Sl:=bD (oL (st.map stN));have(i,d,j,m,o,y,SU,Yw):=zL (Γ:=Γ) D G I L_ (by rw[df];lia) (b0:=bD (.loc,tR rows)) (b4:=bD (oL (jj Mp))) vs o7 o8 g;have Y:=x.step n y;have em:(c++st).map (·.1)=c.map (·.1)++st.map (·.1):=mh;have ab:M8 50 (.lst (st.map stN))=cb:=by change gf 49 _=cb;show uC st 48
   have B:Run (Mn Γ (.cmp .ne (.var 6) (.lst []))) (S (c.map (·.1)++st.map (·.1)) i Mp d v j m o) (!(st.map stN).isEmpty) (S (c.map (·.1)++st.map (·.1)) i Mp d v j m o) :=
    aM (au rfl) (bY af ttt aN (lx _)) ∅ (oz ab)
   have e1:(st.map stN).map (λu=>(kE (.bor 6),u))=st.map λs=>(Kd.loc,stN s):=by rw[fR];rfl
   have z:∀{Oh:aK},Run (execs Γ [.ite (.cmp .ne (.var 6) (.lst []))
    [.app 4 (.var 6)]
    []]) (S (c.map (·.1)++st.map (·.1)) i Mp d v j m o) .nx Oh->Run (execs Γ CM) (S (c.map (·.1)) vs Mp R o6 o7 o8 g) .nx Oh:=λh=>by
    show aA (r:=(oL (st.map stN))) (aB (aa (ae rfl) (aa (au rfl) (aa (au rfl) af))) #[#[.own,rfl,rfl],#[.own,rfl,rfl],ttt] L8) bh ?_;show aA (r:=(oL [])) (bY af ttt aN (lx _)) bh ?_;show bV (rs:=[(.bor 6,.lst (st.map stN))]) (aa (au rfl) af) ∅ (by change bD (YT (λu=>(kE (.bor 6),u)) _)=_;rw[e1]) rfl Yw h
   by_cases Nu:st=[]
   .have ac:=SU Nu;subst Nu;rw[show(!([].map stN).isEmpty)=cK from rfl]at B;have ee:c++[]=c:=Ot _;rw[ee]at Y;have q:=z (eO B (λh=>by cases h) λ_=>ao);have(Sn,So,st2,z1,z2,z3,z4,C):=kN D G H I f c Mp d i v j m o Y N Vd (by rw[if_pos ac];lia);show#[Sn,So,st2,z1,z2,z3,z4,v8 A q ?_];have e3:c.map (·.1)++([]:↑(Str×Nat)).map (·.1)=c.map (·.1):=⋯
    change Run _ (S (c.map (·.1)++([]:↑(Str×Nat)).map (·.1)) i Mp d v j m o) _ _;rw[e3];show C
   .have Yx:(!(st.map stN).isEmpty)=cb:=by
     simp_all
    rw[Yx]at B;have am:0<⇑st:=List.length_pos_iff.mpr Nu;have ef:jj (Mp++[st])=jj Mp++[.lst (st.map stN)]:=by simp[jj]
    have q:Run (execs Γ CM) (S (c.map (·.1)) vs Mp R o6 o7 o8 g) .nx (S (c.map (·.1)++st.map (·.1)) i (Mp++[st]) d (bD (.loc,.lst (st.map stN))) j m o):=by
     show z (eO B (λ_=>?_) λh=>by cases h);change Run _ _ _ [bD (.loc,tR rows),bD (.own,.J' ks (ks.map (cQ (MT rows ⇑rows)))),bD (oL (cn rows λp=>(cnt rows (c.map (·.1)++st.map (·.1)) p:Int))),bD (.own,.J' (c.map (·.1)++st.map (·.1)) i),bD (oL (jj (Mp++[st]))),bD (oL (gx d)),bD (.loc,.lst (st.map stN)),j,m,o];rw[ef];show jQ (k:=.own) (k':=.own) (r:=(.bor 6,.lst (st.map stN))) (u:=.lst (st.map stN)) rfl (au rfl) (KR rfl) rfl rfl (by unfold jj;rw[df];lia) ao
    have(Sn,So,st2,z1,z2,z3,z4,C):=kN D G H I f (c++st) (Mp++[st]) d i (bD (.loc,.lst (st.map stN))) j m o Y (by rw[Ŗ,N];simp) (by grind) (by rw[ko];split<;>lia);show#[Sn,So,st2,z1,z2,z3,z4,v8 A q ?_];rw[em]at C;show C
abbrev GB(Γ:Tab)(rows:↑Row):Prop:=∃ks:↑Str,(∀w,w∉ks->MT rows ⇑rows w=[])/\Γ "places_that_tell" [tR rows]≈.ok (.own,.J' ks (ks.map (cQ (MT rows ⇑rows))))
def iE(o:Once rows)(q:⇑rows<=120)(s:GB Γ rows)(v:CN Γ rows):∃d Mp,LI rows d []/\Mp.flatten=d/\⇑Mp<=120/\bt Γ bG [tR rows]≈.ok (oL (jj Mp)):=by
 have hsz:20000<=dt:=⋯
 have(ks,w,z):=s;have A:TM.start [tR rows] 10=[bD (.loc,tR rows),b6,b6,b6,b6,b6,b6,b6,b6,b6]:=by simp[TM.start,Mr,aI]
 let f:Sl:=bD (.loc,tR rows);let g:Sl:=bD (.own,.J' ks (ks.map (cQ (MT rows ⇑rows))));let B:Sl:=bD (oL (cn rows λp=>cnt rows [] p));have C:Run (ev Γ (.comp 1 cK .seq [.var 0] [] (.bi .len [.idx (.var 0) (cI 1)]))) [f,g,b6,b6,b6,b6,b6,b6,b6,b6] (oL (cn rows λp=>cnt rows [] p)) [f,g,b6,b6,b6,b6,b6,b6,b6,b6]:=by
  have c:=cC (cond:=aQ Γ []) (elt:=ev Γ (.bi .len [.idx (.var 0) (cI 1)])) (src:=[(.loc,tR rows)]) (st:=[f,g,b6,b6,b6,b6,b6,b6,b6,b6]) ttt .loc (.inl rfl) K' (λr=>.int ⇑r.2) .loc (λ_=>cB) rows [] ⋯
   (λy _=>#[bp (aa (aF (x:=(.loc,K' y)) (ae rfl) aq ttt rfl) af) ttt (by rw[de,df]),aG])
  rw[oa]at c;have e:(rows.map K').map (λu=>(kE .loc,u))=rows.map λr=>(Kd.loc,K' r):=by rw[fR];rfl
  have D:(rows.map λr=>U.int ⇑r.2)=cn rows λp=>cnt rows [] p:=by
   unfold cn;apply PH
   .simp
   .intro i h j;have hi:i<⇑rows:=⋯
    have m:told rows i=rows[i].2:=l8 ⋯;have G:cnt rows [] i=rows[i].2.length:=by unfold cnt v7;simp_all
    simp[G]
  rw[D]at c;show bx (rs:=[(.loc,tR rows)]) (aa (ae rfl) af) ttt (by change bD _=_;rw[e]) c
 let k:=(fS ⇑rows).filter λp=>dV (cnt rows [] p=0);let l:aK:=[f,g,B,bD (.own,.J' [] []),bD (oL []),b6,b6,b6,b6,b6]
 have H:Run (ev Γ (.comp 2 cb .QH [.var 2] [.cmp .eq (.var 1) (cI 0)] (.var 0))) l (oL (gx k)) l:=by
  have c:=gv (st:=l) (cond:=aQ Γ [.cmp .eq (.var 1) (cI 0)]) (elt:=ev Γ (.var 0)) (src:=[(.bor 2,.lst (cn rows λp=>cnt rows [] p))]) ⟨⟨.own,rfl,rfl⟩,ttt⟩ (λp:Nat=>U.int p) (λp =>U.int (cnt rows [] p:Int)) (λp =>U.int p) (λp=>dV (cnt rows [] p=0)) (fS ⇑rows) [] ⋯
   (λy _=>#[gp (aM (ae rfl) aq ttt (kD (by rw[Sb];simp))),ae rfl])
  rw[oa]at c;have e:((cn rows λp=>cnt rows [] p).zipIdx.map λp=>(kE (.bor 2),U.tup [.int p.2,p.1]))=(fS ⇑rows).map λp:Nat=>(lT [.int p,.int (cnt rows [] p:Int)]):=by
   unfold cn;apply PH
   .simp
   .intro i h j;simp[kE]
  show bx  (aa (au rfl) af) ∅ (by change bD _=_;rw[e]) c
 have I:LI rows [] k:=#[trivial,λt m=>by
  have(a,b):=DD.mp m;simp_all,λt r h j=>.inl (DD.mpr #[tj.mpr (eH.mp h).1,by simpa using j])]
 have(d,Mp,st',J,L,N,n,O):=kN o q v w fuel [] [] k [] b6 b6 b6 b6 I rfl (gi _) (by unfold fuel;split<;>simp<;>lia);show#[d,Mp,J,L,N,?_];show aw rfl (.inl rfl) A (aA  (aB (aa (ae rfl) af) ttt z) bh (aA C bh (aA (r:=(.own,.J' [] [])) gV bh (aA (r:=(oL [])) (bY af ttt aN (lx _)) bh (aA H bh (yc O (bf (au n) (n9 n))))))))
def zM(hs:Γ "steps_in_rounds" [tR rows]≈.ok (oL (jj Mp)))(b:Mp.flatten=c)(hl:⇑c<=120):bt Γ gw [tR rows]≈.ok (oL (c.map stN)):=by
 have hsz:20000<=dt:=⋯
 have f:TM.start [tR rows] 3=[bD (.loc,tR rows),b6,b6]:=by simp[TM.start,Mr,aI]
 let S:=λ(l:↑(Str×Nat)) o2=>[bD (.loc,tR rows),bD (oL (l.map stN)),o2]
 have(st',g,a,o2,e):=bL (t:=cK) (is:=[2]) (body:=execs Γ [.ext 1 (.var 2)]) (rs:=[(oL (jj Mp))]) (λl =>(Kd.loc,U.lst (l.map stN)))
  (λd r st=>d++r=Mp/\∃o2,st=S d.flatten o2) (λ_ _ _ _=>ttt) (λd y r st h=>by
   have(a,o2,e):=h;subst e;have i:⇑d.flatten+⇑y<=120:=by
    have:=congrArg (λl =>⇑l.flatten) a;simp only[Ŗ,VP,ko,b]at this;lia
   show#[S d.flatten (bD (.loc,.lst (y.map stN))),S (d++[y]).flatten (bD (.loc,.lst (y.map stN))),dC aX,?_,by rw[<-a];simp,_,rfl];have em:(d++[y]).flatten.map stN=d.flatten.map stN++y.map stN:=⋯
   change Run _ _ _ [bD (.loc,tR rows),bD (oL ((d++[y]).flatten.map stN)),bD (.loc,.lst (y.map stN))];rw[em];show uh (k:=.own) (k':=.own) rfl (ae rfl) rfl rfl (x8 (by rw[df,df];lia) rfl) ao) Mp [] (S [] b6) ⟨rfl,b6,rfl⟩
 subst e;have e:(jj Mp).map (λu=>(kE .own,u))=Mp.map λl=>(Kd.loc,U.lst (l.map stN)):=by unfold jj;rw[fR];rfl
 have h0:=aw (Γ:=Γ) (fn:=gw) rfl (.inl rfl) f (aA (r:=(oL [])) (bY af ttt aN (lx _)) bh (bV (rs:=[(oL (jj Mp))]) (st1:=S [] b6) (aa (aB (aa (ae rfl) af) ttt hs) af) ttt rfl rfl (by rw[e];show g) (bf (au rfl) (n9 rfl))));rw[oa,b]at h0;show h0
def jk(h:⇑ss<64):Nm .sorted [(k,.lst (ss.map .str))]≈oL ((aD ss).map .str):=by
 change nI k _=_;unfold nI;rw[cN];simp_all
def wa{a:↑(Str×Nat)}(hl:⇑a<64)(ho:Γ "order" [tR rows]≈.ok (oL (a.map stN))):bt Γ fO [tR rows]≈.ok (oL ((aD (a.map (·.1))).map .str)):=by
 have hsz:20000<=dt:=⋯
 have c:TM.start [tR rows] 1=[bD (.loc,tR rows)]:=by simp[TM.start,Mr,aI]
 have b:=gv (st:=[bD (.loc,tR rows)]) (cond:=aQ Γ []) (elt:=ev Γ (.var 0)) (src:=[(oL (a.map stN))]) ttt _ (λs=>U.int s.2) (λs=>U.str s.1) _ a [] (by grind) (λy _=>#[cB,ae rfl]);rw[Nd.mpr (λ_ _=>rfl)]at b;have e:(a.map stN).map (λu=>(kE .own,u))=a.map λs=>(lT [.str s.1,.int s.2]):=by rw[fR];rfl
 have d:(a.map λs=>U.str s.1)=(a.map (·.1)).map U.str:=by rw[fR];rfl
 rw[d]at b;show aw rfl (.inl rfl) c (bf (bp (aa (bx  (aa (aB (aa (ae rfl) af) ttt ho) af) ttt (by change bD _=_;rw[e]) b) af) ttt (jk ⋯)) eN)
structure VI(prog:↑Fn):Prop where
 g:MC prog "gathered" dG
 p:MC prog "places_that_tell" bA
 n:MC prog "new_steps" cZ
 s:MC prog "steps_in_rounds" bG
 o:MC prog "order" gw
 l:MC prog "learnt" fO
structure Kn(rows:↑Row)(K:↑Str):Prop where
 nd:K.Nodup
 sn:OD rows K
 cl:gY rows (·∈K)
def Kn.perm(a:Kn rows K)(b:Kn rows L):K.Perm L:=same a.nd b.nd a.sn b.sn a.cl b.cl
def Kn.of(s:LI rows a []):Kn rows (a.map (·.1)):=#[s.nd,s.sn,s.closed]
def yf(L:VI prog)(n)(d:∀r∈rows,fN names r)(y:⇑names<=24)(z:⇑rows<=120):∃c,LI rows c []/\⇑c<=24/\Ml prog (n+4) "order" [tR rows]≈.ok (oL (c.map stN)):=by
 have i:=λr h=>(d r h).NF;have e:=λr h=>(d r h).once;have f:=λr h=>(d r h).word;have j:GA (Ml prog (n+1)):=λps hl=>by
  have(ks,a,b):=se  hl;show#[ks,a,(aP L.g _).trans b]
 have k:GB (Ml prog (n+2)) rows:=by
  have(ks,a,b):=v_ j e i ⋯;show#[ks,a,(aP L.p _).trans b]
 have l:CN (Ml prog (n+2)) rows:=λR A vs m=>by
  have(st,a,b):=pe  f ⋯ m;show#[st,a,(aP L.n _).trans b]
 have(c,Mp,s1,q,B,t):=iE e ⋯ k l;have u:=(aP L.s _).trans t;have v:⇑c<=24:=by
  have:=ya (Kn.of s1).nd  λx w=>by
   have(r,a,b):=hW.mp (s1.wd x w);show b▸f r a
  rw[df]at this;lia
 show#[c,s1,v,(aP L.o _).trans (zM u q ⋯)]
def yg(L:VI prog)(n)(a:∀r∈rows,fN names r)(b:⇑names<=24)(c:⇑rows<=120)(d:Kn rows K):Ml prog (n+5) "learnt" [tR rows]≈.ok (oL ((aD K).map .str)):=by
 have(g,s1,h,f):=yf L n a b c;have e:=cW ((Kn.of s1).perm d);rw[<-e];show(aP L.l _).trans (wa ⋯ f)
end KL
namespace TM
open PySem L2 Mu
def kO(h:st[i]?≈bD (lB b)):Run (Mn Γ (.var i)) st b st:=ag (iL h) (cY rfl)
def GC(a:Run (ev Γ e) st r st1)(b:Run (execs Γ ss) st1 f st2):Run (execs Γ (.exp e::ss)) st f st2:=gF (ag a bu) b
abbrev cp(ws:↑Str)(r:Row):Prop:=r.1∈ws/\r.2.Nodup/\(∀y∈r.2,y∈ws)/\⇑r.2<=8
abbrev du(ks:↑Str)(x:Str):↑Str:=if x∈ks then ks else ks++[x]
def CO:dput ks (ks.map f) x u=(du ks x,(du ks x).map λk=>if k=x then u else f k):=by
 unfold dput du;by_cases h:x∈ks
 .rw[if_pos h,if_pos h];congr 1
  clear h;induction ks with
  |nil=>rfl
  |cons k ks a=>simp_all
 .rw[if_neg h,if_neg h];congr 1
  rw[mh,Ú,if_pos rfl];congr 1
  show tA λk hk=>?_;rw[if_neg (λe:k=x=>h (e▸hk))]
def wb(h:ks.Nodup):(du ks x).Nodup:=by
 unfold du;split
 .show h
 .rename_i d;show pb.mpr #[h,by simp,λa f c b=>by rw[nc]at b;subst b;show λe=>d (e▸f)]
def dn:y∈du ks x↔y∈ks\/y=x:=by
 unfold du;split
 .simp_all
 .simp
def sf(h:⇑ks<1000):d0 (.str x) u (.J' ks (ks.map f))≈.J' (du ks x) ((du ks x).map λk=>if k=x then u else f k):=by
 rw[x_ h,CO]
def jX(h:x∈ks):cu ks (ks.map f) x≈f x:=by
 induction ks with
 |nil=>cases h
 |cons k ks a =>
  rw[gr];unfold cu;by_cases e:k=x
  .rw[if_pos e,e]
  .rw[if_neg e];show a ((f6.mp h).resolve_left λz=>e z.symm)
abbrev lN(ks:↑Str):U:=.J' ks (ks.map λ_=>.bl cb)
def sg(h:⇑ks<1000):d0 (.str x) (.bl cb) (lN ks)≈lN (du ks x):=by
 unfold lN;rw[sf h];simp
abbrev si(ws ks:↑Str):Prop:=ks.Nodup/\∀x∈ks,x∈ws
def si.ins(h:si ws ks)(a:x∈ws):si ws (du ks x):=#[wb h.1,λy b=>(dn.mp b).elim (h.2 y) λe=>e▸a]
def si.len(h:si ws ks):⇑ks<=⇑ws:=fK h.1 h.2
def sj:Nn .seq [(k,tR rs)]≈(rs.map λr=>(kE k,K' r)):=by
 change bD _=_;rw[fR];rfl
def wc(h:(!(i==j))=c):bJ .ne (.int i) (.int j)≈c:=by subst h;rfl
def FK{a b:↑Str}:bJ .ne (.lst (a.map U.str)) (.lst (b.map U.str))≈!dV (a=b):=by
 have h:=@ui a b;simp only[bJ]at h ⊢;split at h
 .rename_i hh;rw[if_pos hh,Qb h]
 .cases h
def jm(rs):(bD (if Mr (tR rs)=cb then Kd.loc else Kd.any,tR rs):Sl)≈(.loc,tR rs):=by
 rw[if_pos (by change gb (rs.map K')=cb;show aI rs)]
def cp.ok(h:cp ws r):fN ws r:=#[h.1,h.2.2.2,h.2.1,h.2.2.1]
structure Bq(ws:↑Str)(rs:↑Row):Prop where
 wl:⇑ws<=24
 rl:⇑rs<=84
 ok:∀r∈rs,cp ws r
end TM
namespace TM
open PySem L2 Mu Od
def oA(hk:k=.loc\/k=.any)(h:st[i]?≈bD (k,u)):Run (ev Γ (.var i)) st (k,u) st:=by
 rcases hk with rfl|rfl
 .show ae h
 .show ay h
def V_K(hk:k=.loc\/k=.any)(h:Mr u=cb):Run (lift (k,u)) st u st:=by
 rcases hk with rfl|rfl
 .show aG
 .show gW h
def kP(hk:k=.loc\/k=.any)(h:bB rs st):bB ((k,u)::rs) st:=by rcases hk with rfl|rfl<;>show h
def LX(hk:k=.loc\/k=.any):kE k=k:=by rcases hk with rfl|rfl<;>rfl
def CP{told known:↑Str}(hk:k=.loc\/k=.any)(hl:⇑told<=1000)(hs:Run (ev Γ src) st (k,.tup (told.map .str)) st)(b:st[j]?≈bD (.own,w))(c:∀x,bJ .isin (.str x) w≈dV (x∈known)):
  Run (ev Γ (.bi .all [.comp 1 cK .seq [src] [] (.cmp .isin (.var 0) (.var (j+1)))])) st (lB (told.all λx=>dV (x∈known))) st:=by
 have hsz:1000<=dt:=⋯
 have a:=cC (cond:=aQ Γ []) (elt:=ev Γ (.cmp _ (.var 0) (.var (j+1)))) (src:=[(k,.tup (told.map .str))])  (kP hk ttt) k hk _ _ .loc (λ_=>cB) told [] ⋯
  (λy _=>#[gU (oA hk rfl) (au (by simpa using b)) (kP hk #[#[.own,rfl,by assumption],ttt]) (c y),aG])
 have e:(told.map U.str).map (λu=>(kE k,u))=told.map λr=>(k,U.str r):=by rw[fR,LX hk];rfl
 have d:(told.map λx=>U.bl (dV (x∈known)))=(told.map λx=>dV (x∈known)).map U.bl:=by rw[fR];rfl
 rw[d]at a;have f:(told.all λx=>dV (x∈known))=((told.map λx=>dV (x∈known)).all id):=⋯
 rw[f];show bp (aa (bx  (aa hs af) (kP hk ttt) (by change bD _=_;rw[e]) a) af) ttt (l9 _)
inductive Bv(rs:↑Row):Kd->U->Prop
 |tup:Bv rs .loc (tR rs)
 |lst:Bv rs .any (.lst (rs.map K'))
def Bv.kd{W}(h:Bv rs k W):k=.loc\/k=.any:=by cases h<;>simp
def Bv.it{W}(h:Bv rs k W):Nn .seq [(k,W)]≈(rs.map λr=>(k,K' r)):=by
 cases h
 .show sj
 .change bD _=_;rw[fR];rfl
def Bv.bg{W}(h:Bv rs k W):(bD (if Mr W=cb then Kd.loc else Kd.any,W):Sl)≈(k,W):=by
 cases h
 .show jm rs
 .rfl
abbrev lO(k:Kd)(W:U)(K:↑Str)(b:Bool)(o3 o4:Sl):aK:=[bD (k,W),bD (.own,lN K),bD (lB b),o3,o4]
structure Rk(ws:↑Str)(rs:↑Row)(K:↑Str):Prop where
 ks:si ws K
 snd:OD rs K
def Rk.add(x:Rk ws rs K)(b:r∈rs)(c:r.1∈ws)(d:∀y∈r.2,y∈K):Rk ws rs (du K r.1) :=
 #[x.ks.ins c,λC a y f=>(dn.mp f).elim (x.snd C a y) λe=>e▸a r b λz hz=>x.snd C a z (d z hz)]
def FL{W}(u:Bv rs k W)(I:⇑ws<=40)(v:∀r∈rs,cp ws r)(x:Rk ws rs c):
  ∃f b n o,Run (execs Γ Jc) (lO k W c b0 o3 o4) .nx (lO k W f b n o)/\Rk ws rs f/\(b=cb->⇑c<⇑f)/\(b=cK->f=c/\gY rs (·∈c)):=by
 have hk:=u.kd;have(st1,B,_,f,b,n,o,rfl,g,p,i):=bL (t:=cb) (is:=[3,4]) (body:=execs Γ KY) (rs:=[(k,W)]) (λr =>(k,K' r))
  (λd r st=>d++r=rs/\∃K b o3 o4,st=lO k W K b o3 o4/\Rk ws rs K/\(b=cb->⇑c<⇑K)/\(b=cK->K=c/\∀r∈d,(∀y∈r.2,y∈c)->r.1∈c)) (λ_ _ _ _=>kP hk ttt) (λd a r st C=>by
   have(q,K,b,o3,o4,e,g,p,i):=C;subst e;have s:a∈rs:=by rw[<-q];simp
   have J:=(v a s).2.2.2;have L:=g.ks.len;have m:Run (Mn Γ (.and [.cmp .L6 (.var 3) (.var 1),.bi .all [.comp 1 cK .seq [.var 4] [] (.cmp .isin (.var 0) (.var 2))]])) (lO k W K b (bD (k,.str a.1)) (bD (k,.tup (a.2.map .str)))) (!dV (a.1∈K)&&a.2.all λy=>dV (y∈K)) (lO k W K b (bD (k,.str a.1)) (bD (k,.tup (a.2.map .str)))) :=
    qc (vZ (aM (oA hk rfl) (au rfl) (kP hk ∅) iu) λ_=>gp (jf (CP (j:=1) (w:=lN K) hk ⋯ (oA hk rfl) rfl λ_=>kL)))
   have z:Run (dZ cb [3,4] (k,K' a)) (lO k W K b o3 o4) () (lO k W K b (bD (k,.str a.1)) (bD (k,.tup (a.2.map .str)))):=e_ hk;cases l:(!dV (a.1∈K)&&a.2.all λy=>dV (y∈K)) with
   |false =>
    rw[l]at m;show#[_,_,z,aV m ao ao,by rw[<-q];simp,K,b,_,_,rfl,g,p,λA=>#[(i A).1,λD MY hz=>?_]];rcases ki.mp MY with MY|MY
    .show(i A).2 D MY hz
    grind
   |true =>
    rw[l]at m;simp only[et,Sf,decide_eq_false_iff_not,nH,decide_eq_true_eq]at l;have G:du K a.1=K++[a.1]:=by unfold du;rw[if_neg l.1]
    show#[_,lO k W (du K a.1) cb (bD (k,.str a.1)) (bD (k,.tup (a.2.map .str))),z,dc m (lz (k:=.own) (k':=.own) aq rfl (oA hk rfl) (aC aG (aC (V_K hk rfl) aN)) rfl rfl (sg ⋯) (aA aq aX ao)) ao,by rw[<-q];simp,du K a.1,cb,_,_,rfl,g.add s (v a s).1 l.2,λ_=>?_,λh=>by cases h];rw[G,ko,RO]
    grind) rs [] (lO k W c cK o3 o4) ⟨rfl,c,cK,o3,o4,rfl,x,(λh=>by cases h),λ_=>#[rfl,λr H=>by cases H]⟩
 rw[oa]at i;show#[f,b,n,o,aA aq aX (bV (rs:=[(k,W)]) (st1:=lO k W c cK o3 o4) (aa (oA hk rfl) af) (kP hk ttt) u.it (by rcases hk with rfl|rfl<;>rfl) B ao),g,p,i]
theorem yh{W}(j:Bv rs k W)(l:⇑ws<=40)(m:∀r∈rs,cp ws r):
  ∀f c o3 o4,Rk ws rs c->64 - ⇑c<f->∃a d g,Run (km (Mn Γ (.var 2)) (execs Γ Jc) (f+1)) (lO k W c cb o3 o4) .nx (lO k W a cK d g)/\Rk ws rs a/\gY rs (·∈a)
 |0,_,_,_,_,h=>by lia
 |f+1,c,o3,o4,x,h=>by
  have(a,b,d,g,n,i,o,p):=FL  j l m x;cases b with
  |false =>
   have(e,q):=p rfl;subst e;show#[a,d,g,v8 (kO rfl) n (yb (kO rfl)),i,q]
  |true =>
   have:=o rfl;have:=i.ks.len;have(s,t,u,v,w,y):=yh j l m f a d g i ⋯;show#[s,t,u,v8 (kO rfl) n v,w,y]
end TM
namespace TM
open PySem L2 Mu
def Jd(h0:st[i]?≈bD (.F',.J' ks us))(a:Run (bO 2 cb (pure cb) (ev Γ e) [] (jb (ks,us)) []) (st.set i b6) vs st1):Run (execs Γ (.OA i e::ss)) st (.rt .own (.lst vs)) st1:=by
 show Ca (ag   ?_ (ag a rfl));change tN i st=_;unfold tN;rw[h0]
end TM
namespace KK
open PySem L2 TM Mu Od
abbrev GD:↑TM.S:=[.ite (.inD cK (.idx (.var 3) (cI 0)) 1) [.NR 1 (.idx (.var 3) (cI 0)) (.idx (.comp 1 cK .seq [.idx (.var 3) (cI 1)] [.inD cK (.var 0) 2] (.var 0)) (cI 0))] []]
abbrev CQ:Fn:=#["knot",1,4,[.newD 1,.Mi cK [2] .seq [.call "not_learnt" [.var 0]] [.putD 1 (.var 2) (.lst [])],.Mi cK [3] .seq [.var 0] GD,.OA 1 (.tup [.var 0,.bi .tuple [.var 1]])]]
abbrev Pu(rows:↑Row)(K:↑Str):↑Str:=(a_ rows).filter λx=>dV (x∉K)
def l_:x∈Pu rows K↔x∈dh rows/\x∉K:=by
 unfold Pu;rw[DD,jh];simp
def kQ(rows)(K):(Pu rows K).Nodup:=(rY rows).sublist QW
abbrev pick(Z:↑Str)(l:↑Str):Str:=((l.filter λx=>dV (x∈Z)).head?).getD ""
abbrev Oi(Z:↑Str)(d:↑Row)(k:Str):↑Str:=(d.filter λr=>dV (r.1=k)).map λr=>pick Z r.2
abbrev dq(Z:↑Str)(d:↑Row)(k:Str):U:=.lst ((Oi Z d k).map .str)
abbrev cD(Z:↑Str)(rows:↑Row):↑Row:=Z.map λk=>(k,Oi Z rows k)
def oB(f:⇑K<64)(g:⇑(a_ rows)<64)(a:Γ "words_of" [tR rows]≈.ok (oL ((a_ rows).map .str)))(b:Γ "learnt" [tR rows]≈.ok (oL ((aD K).map .str))):
  bt Γ yi [tR rows]≈.ok (oL ((Pu rows K).map .str)):=by
 have c:TM.start [tR rows] 1=[bD (.loc,tR rows)]:=by simp[TM.start,Mr,aI]
 have h:=eG (a_ rows);have d:=eG (aD K);rw[cE]at d;have hs:tM cK (aU (a_ rows)) (aU (aD K))≈oL ((Pu rows K).map .str):=by
  unfold tM;rw[if_pos #[⋯,⋯],if_neg qp];have e:aD ((aU (a_ rows)).filter λx=>dV (x∉aU (aD K)))=Pu rows K:=by
   show uD ?_ ((c9 _).sublist QW);show(RM ((b9 _).sublist QW) (kQ rows K)).mpr λx=>?_;unfold Pu;rw[DD,DD];simp only[b_,(aS K).mem_iff]
  rw[e]
 show aw rfl (.inl rfl) c (bf (Gz (aB (aa (ae rfl) af) ttt a) (ix ⋯) (aB (aa (ae rfl) af) ttt b) (ix (by rw[cE];lia)) hs) eN)
def uF(Z)(d)(r)(k):Oi Z (d++[r]) k=if r.1=k then Oi Z d k++[pick Z r.2] else Oi Z d k:=by
 unfold Oi;by_cases e:r.1=k
 .simp_all
 simp_all
def FN(Z)(d)(k):⇑(Oi Z d k)<=⇑d:=by
 unfold Oi;rw[df];show B' _ _
def CS(hr:⇑rows<=120)(D:∀r∈rows,⇑r.2<=8)(n:Z.Nodup)(hl:⇑Z<64)(G:∀r∈rows,r.1∈Z->∃x∈r.2,x∈Z)(H:Γ "not_learnt" [tR rows]≈.ok (oL (Z.map .str))):
  bt Γ CQ [tR rows]≈.ok (oL ((cD Z rows).map K')):=by
 have hsz:20000<=dt:=⋯
 let j:Sl:=bD (.loc,tR rows);have I:TM.start [tR rows] 4=[j,b6,b6,b6]:=by simp[TM.start,Mr,aI,j]
 let S:=λks us o2 o3=>[j,bD (.F',.J' ks us),o2,o3]
 have(st1,s,_,o2,e):=bL (t:=cK) (is:=[2]) (body:=execs Γ [.putD 1 (.var 2) (.lst [])]) (rs:=[(oL (Z.map .str))]) (λw =>(lS w))
  (λd r st=>d++r=Z/\∃o2,st=S d (d.map (dq Z [])) o2 b6) (λ_ _ _ _=>ttt) (λd w r st o=>by
   have(f,o2,e):=o;subst e;have J:w∉d:=λz=>by
    rw[<-f,pb]at n;show n.2.2 w z w ⋯ rfl
   have L:⇑d<64:=by have:=congrArg K2 f;simp at this;lia
   have em:(d++[w]).map (dq Z [])=d.map (dq Z [])++[.lst []]:=by rw[mh];rfl
   show#[S d (d.map (dq Z [])) (bD (lS w)) b6,S (d++[w]) ((d++[w]).map (dq Z [])) (bD (lS w)) b6,dC aX,?_,by rw[<-f];simp,_,rfl];rw[em];show CC (k:=.loc) (xs:=[]) (bY af ttt aN (lx _)) rfl (ae rfl) J ⋯ ao) Z [] (S [] [] b6 b6) ⟨rfl,b6,rfl⟩
 subst e;rw[oa]at s;let body:↑TM.S:=GD;have(st2,v,_,o3,e):=bL (t:=cK) (is:=[3]) (body:=execs Γ body) (rs:=[(.loc,tR rows)]) (λr =>(Kd.loc,K' r))
  (λd r st=>d++r=rows/\∃o3,st=S Z (Z.map (dq Z d)) o2 o3) (λ_ _ _ _=>ttt) (λd b r st o=>by
   have(f,o3,e):=o;subst e;have L:⇑d<120:=by have:=congrArg K2 f;simp at this;lia
   have A:b∈rows:=by rw[<-f];simp
   have N:=D b A;let c:Option (Kd×TM.U):=bD (.loc,K' b);have B:Run (ev Γ (.idx (.var 3) (cI 0))) (S Z (Z.map (dq Z d)) o2 c) (lS b.1) (S Z (Z.map (dq Z d)) o2 c):=aF (x:=(.loc,K' b)) (ae rfl) aq ttt rfl;have m:Run (Mn Γ (.inD cK (.idx (.var 3) (cI 0)) 1)) (S Z (Z.map (dq Z d)) o2 c) (dV (b.1∈Z)) (S Z (Z.map (dq Z d)) o2 c):=CB (neg:=cK) (k:=.loc) B rfl;have C:Run (dZ cK [3] (.loc,K' b)) (S Z (Z.map (dq Z d)) o2 o3) () (S Z (Z.map (dq Z d)) o2 c):=dC aX;by_cases g:b.1∈Z
   .rw[decide_eq_true g]at m;have i:=rV (cond:=aQ Γ [.inD cK (.var 0) 2]) (elt:=ev Γ (.var 0)) (src:=[(lT (b.2.map .str))]) (st:=S Z (Z.map (dq Z d)) o2 c) ttt .loc (.inl rfl) U.str U.str (λx=>dV (x∈Z)) .loc b.2 [] ⋯
     (λy _=>#[gp (CB (neg:=cK) (k:=.loc) (ae rfl) rfl),λ_=>#[ae rfl,aG]])
    rw[oa]at i;have q:(b.2.map U.str).map (λu=>(kE .loc,u))=b.2.map λx=>(lS x):=by rw[fR];rfl
    have O:=bx (Γ:=Γ) (ik:=.seq) (rs:=[(lT (b.2.map .str))]) (st:=S Z (Z.map (dq Z d)) o2 c) (src:=[.idx (.var 3) (cI 1)]) (aa (aF (x:=(.loc,K' b)) (ae rfl) aq ttt rfl) af) ttt (by change bD (YT (λu=>(kE .loc,u)) _)=_;rw[q]) i;have Q:MB ((b.2.filter λx=>dV (x∈Z)).map U.str) 0≈.str (pick Z b.2):=by
     have(x,T,Y):=G b A g;show b7 ?_;unfold pick;cases hf:b.2.filter λx=>dV (x∈Z) with
     |nil =>
      simp_all
     |cons a l=>rfl
    have hg:cu Z (Z.map (dq Z d)) b.1≈.lst ((Oi Z d b.1).map .str):=by rw[di,if_pos g];rfl
    have hs:kl Z (Z.map (dq Z d)) b.1 (.lst ((Oi Z d b.1).map .str++[.str (pick Z b.2)]))=Z.map (dq Z (d++[b])):=by
     rw[oy _ _ _ _ n];show tA λk hk=>?_;unfold dq;rw[uF];by_cases e:b.1=k
     .subst e;rw[if_pos rfl,if_pos rfl];simp
     .rw[if_neg e,if_neg (ve e)]
    have ab:=FN Z d b.1;show#[_,S Z (Z.map (dq Z (d++[b]))) o2 c,C,eO m (λ_=>?_) (λh=>by cases h),by rw[<-f];simp,_,rfl];rw[<-hs];show CD (k:=.loc) (r:=(lS (pick Z b.2))) rfl B g (aF O aq ttt (a9 (k:=.own) Q)) aG hg (by rw[df];lia) ao
   .rw[decide_eq_false g]at m;have em:Z.map (dq Z (d++[b]))=Z.map (dq Z d):=tA λk hk=>by
     unfold dq;rw[uF,if_neg (show ¬b.1=k from λz=>g (z▸hk))]
    show#[_,S Z (Z.map (dq Z d)) o2 c,C,eO m (λh=>by cases h) (λ_=>ao),by rw[<-f];simp,c,by rw[em]]) rows [] (S Z (Z.map (dq Z [])) o2 b6) ⟨rfl,b6,rfl⟩
 subst e;rw[oa]at v;have i:=gv (st:=[j,b6,o2,o3]) (cond:=pure cb) (elt:=ev Γ (.tup [.var 0,.bi .tuple [.var 1]])) (src:=[]) ttt (λk:Str=>U.str k) (λk=>dq Z rows k) (λk=>K' (k,Oi Z rows k)) (λ_=>cb) Z [] ⋯
  (λy _=>#[bu,fG (aa (ae rfl) (aa (bp (aa (ae rfl) af) ttt (r:=(lT ((Oi Z rows y).map .str))) rfl) af)) ttt (aC aG (aC aG aN)) (by change 2<=dt;lia)])
 rw[oa,Nd.mpr (λ_ _=>rfl)]at i;have ei:jb (Z,Z.map (dq Z rows))=Z.map λk=>(lT [.str k,dq Z rows k]):=by
  have:∀l:↑Str,(l.zip (l.map (dq Z rows))).map (λp=>(lT [.str p.1,p.2]))=l.map λk=>(lT [.str k,dq Z rows k]):=λl=>by
   induction l with
   |nil=>rfl
   |cons a l ih=>simp_all
  show this Z
 have ek:(cD Z rows).map K'=Z.map λk=>K' (k,Oi Z rows k):=by unfold cD;rw[fR];rfl
 rw[ek];have q:(Z.map U.str).map (λu=>(kE .own,u))=Z.map λw=>(lS w):=by rw[fR];rfl
 have e2:(rows.map K').map (λu=>(kE .loc,u))=rows.map λr=>(Kd.loc,K' r):=by rw[fR];rfl
 show aw rfl (.inl rfl) I (CA (bV (rs:=[(oL (Z.map .str))]) (st1:=S [] [] b6 b6) (aa (aB (aa (ae rfl) af) ttt H) af) ttt (by change bD (YT (λu=>(kE .own,u)) _)=_;rw[q]) rfl s
  (bV (rs:=[(.loc,tR rows)]) (aa (ae rfl) af) ttt (by change bD (YT (λu=>(kE .loc,u)) _)=_;rw[e2]) rfl v (Jd rfl (by rw[ei];show i)))))
end KK
namespace TM
open PySem L2 Mu
section
variable{α:Type}[DecidableEq α]{c:α->Int}
theorem iy:∀{ks:↑α},x∈ks->(ks.map c).sum=c x+((ks.erase x).map c).sum
 |k::ks,h=>by
  by_cases e:k=x
  .simp_all
  .rw[List.erase_cons_tail (by simp[e]),gr,gr,Yy,Yy,iy ((f6.mp h).resolve_left λz=>e z.symm)];lia
theorem sk:∀{ks:↑α},(∀k∈ks,0<=c k)->0<=(ks.map c).sum
 |[],_=>by simp
 |k::ks,h=>by
  have b:=h k ⋯;have d:=sk (ks:=ks) λy a=>h y (by simp[a])
  grind
theorem yj:∀{ts ks:↑α},ts.Nodup->(∀x∈ts,x∈ks)->(∀k∈ks,0<=c k)->(ts.map c).sum<=(ks.map c).sum
 |[],ks,_,_,h=>by simpa using sk h
 |x::ts,ks,a,hs,h=>by
  rw[qb]at a;have d:=yj  (ks:=ks.erase x) a.2 (λy b=>(W6 (λe=>a.1 ⋯)).mpr (hs y (by simp[b]))) λk hk=>h k (List.mem_of_mem_erase hk);rw[iy (hs x ⋯),gr,Yy];lia
abbrev upd(c:α->Int)(x:α)(p:Int):α->Int:=λk=>if k=x then p else c k
def yk{ks:↑α}(h:x∉ks):(ks.map (upd c x p)).sum=(ks.map c).sum:=by
 congr 1
 show tA λk hk=>?_;unfold upd;rw[if_neg (λe:k=x=>h (e▸hk))]
def FO{ks:↑α}(a:ks.Nodup)(h:x∈ks):(ks.map (upd c x p)).sum+c x=(ks.map c).sum+p:=by
 rw[iy  h,iy  h,yk a.not_mem_erase];unfold upd
 grind
end
@[reducible]noncomputable def N4:=↑Str×(Str->Int)
abbrev MU(s:N4)(r:Row):Int:=1+(r.2.map s.2).sum
abbrev may(s:N4)(r:Row):Bool:=r.2.all λx=>dV (x∈s.1)
abbrev OF(s:N4)(r:Row):Bool:=!dV (r.1∈s.1)||decide (MU s r<s.2 r.1)
abbrev OG(s:N4)(r:Row):N4:=if (may s r&&OF s r)=cb then(du s.1 r.1,upd s.2 r.1 (MU s r)) else s
abbrev Oj:↑Row->N4×Bool->N4×Bool
 |[],s=>s
 |r::rs,(s,b)=>Oj rs (OG s r,b||(may s r&&OF s r))
abbrev lim(rs:↑Row):Nat->N4->N4
 |0,s=>s
 |n+1,s=>if (Oj rs (s,cK)).2=cb then lim rs n (Oj rs (s,cK)).1 else(Oj rs (s,cK)).1
abbrev jY(ws:↑Str)(s:N4):Prop:=si ws s.1/\(∀k∈s.1,1<=s.2 k)/\(s.1.map s.2).sum<2 ^ ⇑s.1
abbrev mu(s:N4):Int:=(24 - (⇑s.1:Nat)) * 2 ^ 24+(s.1.map s.2).sum
def CT(a:⇑ws<=24)(h:jY ws s):0<=mu s:=by
 have b:=h.1.len;have d:=sk (c:=s.2)  λk hk=>by have:=h.2.1 k hk;lia
 unfold mu;lia
def yl(B:⇑ws<=24)(h:jY ws s)(g:cp ws r):jY ws (OG s r)/\mu (OG s r)<=mu s/\((may s r&&OF s r)=cb->mu (OG s r)<mu s):=by
 unfold OG;split
 .rename_i d;rw[et]at d;have(t,i):=d;have(hk,j,hs):=h;have l:∀x∈r.2,x∈s.1:=λx a=>by have:=nH.mp t x a;simpa using this
  have m:∀k∈s.1,0<=s.2 k:=λk hk=>by have:=j k hk;lia
  have C:MU s r<=1+(s.1.map s.2).sum:=by
   have:=yj (c:=s.2) g.2.1 l m;unfold MU;lia
  have u:1<=MU s r:=by
   have:=sk (c:=s.2) (ks:=r.2) λk hk=>m k (l k hk);unfold MU;lia
  have b:=hk.ins g.1;have f:∀k∈du s.1 r.1,1<=upd s.2 r.1 (MU s r) k:=λk hk=>by
   unfold upd;split
   .show u
   .rename_i v;show j k ((dn.mp hk).resolve_right v)
  have n:=b.len;by_cases a:r.1∈s.1
  .have e:du s.1 r.1=s.1:=by unfold du;rw[if_pos a]
   have D:MU s r<s.2 r.1:=by
    unfold OF at i;simpa[a] using i
   have o:=FO (c:=s.2) (p:=MU s r) hk.1 a;rw[e]at b f ⊢;have q:(s.1.map (upd s.2 r.1 (MU s r))).sum<(s.1.map s.2).sum:=⋯
   show#[#[b,f,by grind],?_,λ_=>?_]<;>(unfold mu;dsimp only;lia)
  .have e:du s.1 r.1=s.1++[r.1]:=by unfold du;rw[if_neg a]
   have o:((s.1++[r.1]).map (upd s.2 r.1 (MU s r))).sum=(s.1.map s.2).sum+MU s r:=by
    rw[mh,ý,yk a,Ú,Š];unfold upd;rw[if_pos rfl]
   rw[e]at b f n ⊢;rw[ko,RO]at n;have w:(2:Int) ^ (⇑s.1+1)=2 * 2 ^ ⇑s.1:=by rw[Int.pow_succ];lia
   have y:(2:Int) ^ ⇑s.1<=2 ^ 23:=by
    have A:2 ^ ⇑s.1<=2 ^ 23:=Nat.pow_le_pow_right ⋯ ⋯;have G:=Int.ofNat_le.mpr A
    assumption
   show#[#[b,f,?_],?_,λ_=>?_]
   .change((s.1++[r.1]).map (upd s.2 r.1 (MU s r))).sum<2 ^ ⇑(s.1++[r.1]);rw[o,ko,RO,w];lia
   .unfold mu
    grind
   .unfold mu
    grind
 .rename_i d;show#[h,É _,λz=>absurd z d]
theorem mf(a:⇑ws<=24):∀rs s b,(∀r∈rs,cp ws r)->jY ws s->jY ws (Oj rs (s,b)).1/\mu (Oj rs (s,b)).1<=mu s/\((Oj rs (s,b)).2=cb->b=cb\/mu (Oj rs (s,b)).1<mu s)
 |[],s,b,_,h=>#[h,É _,.inl]
 |r::rs,s,b,c,h=>by
  have(f,d,g):=yl a h (c r ⋯);have(b1,e,b3):=mf a rs _ _ (λy i=>c y (by simp[i])) f;show#[b1,ł e d,λz=>?_];rcases b3 z with z|z
  .rw[Vj]at z;rcases z with z|z
   .show .inl z
   .show .inr (Int.lt_of_le_of_lt e (g z))
  .show .inr (Int.lt_of_lt_of_le z d)
theorem iz(a:⇑ws<=24)(b:∀r∈rs,cp ws r):∀n s,jY ws s->jY ws (lim rs n s)
 |0,s,h=>h
 |n+1,s,h=>by
  unfold lim;have:=(mf a rs s cK b h).1;split
  .show iz a b n _ this
  lia
def ym{ss:↑Str}:Nn .seq [(k,.tup (ss.map .str))]≈(ss.map λx=>(kE k,U.str x)):=by
 change bD _=_;rw[fR];rfl
theorem yn(f:α->Int):∀(b:↑α),intsOf (b.map λa=>U.int (f a))≈b.map f
 |[]=>rfl
 |n::b=>by change(intsOf _).map _=_;rw[yn f b];rfl
def sum_ints(f:α->Int)(l:↑α):Nm .sum [(k,.lst (l.map λa=>U.int (f a)))]≈(.loc,.int (l.map f).sum):=by
 change(intsOf _).map _=_;rw[yn];rfl
abbrev s0:N4:=([],λ_=>0)
def jn(ws):jY ws s0:=#[#[VL,λx h=>(by cases h)],λk h=>(by cases h),by decide]
abbrev pD(s:N4)(a:Str->Int):U:=.J' s.1 (s.1.map λk=>.tup [.int (s.2 k),.int (a k)])
abbrev kR(Γ:Tab):Prop:=∀(s:N4) (a:Str->Int) (r:Row),(∀x∈r.2,x∈s.1)->⇑r.2<=8->Γ "row_price" [K' r,pD s a]≈.ok (lI (MU s r))
def CW(a:∀x∈r.2,x∈s.1)(f:⇑r.2<=8):bt Γ yo [K' r,pD s b]≈.ok (lI (MU s r)):=by
 have c:1000<=dt:=⋯
 have d:=cC (cond:=aQ Γ []) (elt:=ev Γ (.idx (.idx (.var 2) (.var 0)) (cI 0))) (src:=[(lT (r.2.map .str))]) (st:=[bD (.loc,K' r),bD (.any,pD s b)]) ttt .loc (.inl rfl) U.str _ .any (λ_=>cB) r.2 [] (by grind)
  (λy e=>#[aF (x:=(.any,.tup _)) (aF (ay rfl) (ae rfl) ttt (by change(cu s.1 _ y).map _=_;rw[jX (a y e)];rfl)) aq ttt rfl,gW rfl])
 show aw  rfl (.inr rfl) ?_ (bf (cP aq (bp (aa (bx (rs:=[(lT _)]) (aa (aF (ae rfl) aq ttt rfl) af) ttt ym d) af) ttt (sum_ints _ _)) ttt fU) cy);change [bD _,bD _]=_;rw[if_pos (l0 r),if_neg (by change ¬(cK=cb);decide)]
def sm(h:MC Pg "row_price" yo):kR (Ml Pg (d+1)):=λs c r a b=>by
 rw[aP h];show CW a b
abbrev NK(rs:↑Row)(s:N4)(a:Str->Int):Prop:=∀k∈s.1,∃(i:Nat) (r:Row),a k=(i:Int)/\rs[i]?≈r/\r.1=k/\(∀x∈r.2,x∈s.1)/\MU s r<=s.2 k
theorem we{c a:α->Int}:∀{ts:↑α},(∀x∈ts,a x<=c x)->(ts.map a).sum<=(ts.map c).sum
 |[],_=>É _
 |x::ts,h=>by
  have d:=h x ⋯;have e:=we (ts:=ts) λy b=>h y (by simp[b])
  grind
def NK.step{i:Nat}(h:NK rs s f)(hi:rs[i]?≈r)(g:may s r=cb)(l:OF s r=cb):NK rs (du s.1 r.1,upd s.2 r.1 (MU s r)) (upd f r.1 (i:Int)):=by
 have b:∀x∈r.2,x∈s.1:=λx a=>by have:=nH.mp g x a;simpa using this
 have m:∀x∈s.1,upd s.2 r.1 (MU s r) x<=s.2 x:=λx a=>by
  unfold upd;split
  .rename_i e;subst e;unfold OF at l
   grind
  simp
 have c:∀q ,(∀x∈q.2,x∈s.1)->MU (du s.1 r.1,upd s.2 r.1 (MU s r)) q<=MU s q:=λq n=>by
  have:=we (ts:=q.2) λx a=>m x (n x a);unfold MU at this ⊢
  dsimp only
  lia
 intro k hk;by_cases e:k=r.1
 .subst e;show#[i,r,by unfold upd;rw[if_pos rfl],hi,rfl,λx a=>dn.mpr (.inl (b x a)),ł (c r b) ?_];change MU s r<=upd s.2 r.1 (MU s r) r.1;unfold upd;simp
 .have(j,q,t,o,p,d,u):=h k ((dn.mp hk).resolve_right e);show#[j,q,by unfold upd;simp_all,o,p,λx a=>dn.mpr (.inl (d x a)),ł (c q d) ?_];change MU s q<=upd s.2 r.1 (MU s r) k;unfold upd;simp_all
def NK.start(rs)(a):NK rs s0 a:=λk hk=>by cases hk
abbrev lP(rs:↑Row)(s:N4)(a:Str->Int)(b:Bool)(o3 o4 o5:Sl):aK:=[bD (.loc,tR rs),bD (.own,pD s a),bD (lB b),o3,o4,o5]
def FQ(q:kR Γ){n:Nat}(G:⇑ws<=24)(hs:jY ws s)(t:cp ws r)(u:rs[n]?≈r)(g:NK rs s a):
  ∃m v,Run (execs Γ CU) (lP rs s a b (bD (lI (n:Int))) (bD (.loc,K' r)) o5) .nx (lP rs (OG s r) m (b||(may s r&&OF s r)) (bD (lI (n:Int))) (bD (.loc,K' r)) v)/\NK rs (OG s r) m:=by
 generalize h:n=p;have z:1000<=dt:=⋯
 have A:=t.2.2.2;have hl:=hs.1.len;have i:fC (.loc,K' r) (.int 0)≈lS r.1:=rfl;have B:fC (.loc,K' r) (.int 1)≈lT (r.2.map .str):=rfl;have c:=jf (iw (Γ:=Γ) (st:=lP rs s a b (bD (lI p)) (bD (.loc,K' r)) o5) (src:=.idx (.var 4) (cI 1)) (j:=1) (told:=r.2) (known:=s.1) (k:=.loc) (w:=pD s a) (.inl rfl) ⋯ (aF (ae rfl) aq ttt B) (.inr rfl) λx=>kL);unfold OG;cases d:may s r with
 |false =>
  rw[show(r.2.all λx=>dV (x∈s.1))=cK from d]at c;rw[if_neg ⋯,ϒ,Ó];show#[a,o5,aV c ao ao,g]
 |true =>
  rw[show(r.2.all λx=>dV (x∈s.1))=cb from d]at c;have C:∀x∈r.2,x∈s.1:=λx D=>by have:=nH.mp d x D;simp_all
  have o:Run (ev Γ (.call "row_price" [.var 4,.var 1])) (lP rs s a b (bD (lI p)) (bD (.loc,K' r)) o5) (lI (MU s r)) (lP rs s a b (bD (lI p)) (bD (.loc,K' r)) o5):=aB (aa (ae rfl) (aa (au rfl) af)) ∅ (q s a r C A);have f:Run (Mn Γ (.or [.cmp .L6 (.idx (.var 4) (cI 0)) (.var 1),.cmp .lt (.var 5) (.idx (.idx (.var 1) (.idx (.var 4) (cI 0))) (cI 0))])) (lP rs s a b (bD (lI p)) (bD (.loc,K' r)) (bD (lI (MU s r)))) (OF s r) (lP rs s a b (bD (lI p)) (bD (.loc,K' r)) (bD (lI (MU s r)))) :=
   iD (KQ (aM (aF (ae rfl) aq ttt i) (au rfl) ∅ iu) λH=>d5 (aM (y:=(lI (s.2 r.1))) (ae rfl) (aF (x:=(lT [.int (s.2 r.1),.int (a r.1)])) (aF (au rfl) (aF (ae rfl) aq ttt i) ∅ (by change(cu s.1 (s.1.map λk=>U.tup [.int (s.2 k),.int (a k)]) r.1).map _=_;rw[jX ⋯];rfl)) aq ttt rfl) ttt (gX rfl)))
  cases l:OF s r with
  |false =>
   rw[l]at f;rw[if_neg ⋯,VU,Ó];show#[a,_,dc c (aA o aX (aV f ao ao)) ao,g]
  |true =>
   rw[l]at f;rw[if_pos ⋯,ϥ,Bool.or_true];have e:d0 (.str r.1) (.tup [.int (MU s r),.int p]) (pD s a)≈pD (du s.1 r.1,upd s.2 r.1 (MU s r)) (upd a r.1 p):=by
    unfold pD;rw[sf ⋯];congr 3
    funext k
    change _=U.tup [.int (upd s.2 r.1 (MU s r) k),.int (upd a r.1 p k)];unfold upd;split<;>rfl
   show#[upd a r.1 p,bD (lI (MU s r)),dc c (aA o aX (dc f (lz (k:=.own) (k':=.own) (fG (aa (ae rfl) (aa (ae rfl) af)) ttt (aC aG (aC aG aN)) (by change 2<=dt;lia)) rfl (aF (ae rfl) aq ttt i) (aC aG (aC aG aN)) rfl rfl e (aA aq aX ao)) ao)) ao,h▸g.step u d l]
def FR:Nn .QH [(.loc,tR rs)]≈(rs.zipIdx.map λp:Row×Nat=>(lT [.int (p.2:Nat),K' p.1])):=by
 change bD _=_;rw[τ,fR];rfl
theorem yp(l:kR Γ)(g:⇑ws<=24):∀e n s f b o3 o4 o5,(∀r∈e,cp ws r)->(∀i r,e[i]?≈r->rs[n+i]?≈r)->jY ws s->NK rs s f ->
  ∃m u v h,Run (forM cb [3,4] (execs Γ CU) [(.loc,tR rs)] ((e.zipIdx n).map λp:Row×Nat=>(lT [.int (p.2:Nat),K' p.1]))) (lP rs s f b o3 o4 o5) .nx (lP rs (Oj e (s,b)).1 m (Oj e (s,b)).2 u v h)/\NK rs (Oj e (s,b)).1 m
 |[],n,s,f,b,o3,o4,o5,_,_,_,j=>#[f,o3,o4,o5,xY ttt,j]
 |r::e,n,s,f,b,o3,o4,o5,k,o,hs,j=>by
  have(w,h,q,x):=FQ l      g hs (k r ⋯) (by simpa using o 0 r rfl) j;have(z,a,c,d,A,B):=yp l g e _ _ w _ _ _ h (λy t=>k y (by simp[t])) (λi y t=>by rw[Nat.add_assoc,Nat.add_comm 1 i];show o _ y (by assumption)) (yl g hs (k r ⋯)).1 x;show#[z,a,c,d,Fy ttt (e_ (.inl rfl)) q A,B]
theorem yq(m:kR Γ)(b:⇑ws<=24)(k:∀r∈rs,cp ws r):∀(f:Nat) s e o3 o4 o5,jY ws s->NK rs s e->mu s+1<f ->
  ∃n t u v,Run (km (Mn Γ (.var 2)) (execs Γ CV) f) (lP rs s e cb o3 o4 o5) .nx (lP rs (lim rs f s) n cK t u v)/\NK rs (lim rs f s) n
 |0,s,_,_,_,_,hs,_,w=>by have:=CT b hs;lia
 |f+1,s,e,o3,o4,o5,hs,x,w=>by
  have(o,a,c,d,q,p):=yp m  b rs 0 s e _ o3 o4 o5 k (λi r h=>by simp_all) hs x;have(y,G,z):=mf b rs s _ k hs;have j:Run (execs Γ CV) (lP rs s e cb o3 o4 o5) .nx _:=aA aq aX (bV  (aa (ae rfl) af) ttt FR rfl q ao);unfold lim;have m0:=CT b hs;cases l:(Oj rs _).2 with
  |true =>
   rw[l]at j;have H:=(z l).resolve_left ⋯;have(A,a',B,d',C,D):=yq m b k f _ o a c d y p ⋯;show#[A,a',B,d',v8 (kO rfl) j C,D]
  |false =>
   rw[l]at j;obtain⟨f,rfl⟩:∃g,f=g+1:=#[f - 1,⋯]
   show#[o,a,c,d,v8 (kO rfl) j (yb (kO rfl)),p]
abbrev jZ(Γ:Tab):Prop:=∀(ws:↑Str) (rs:↑Row),⇑ws<=24->(∀r∈rs,cp ws r)->∃a,Γ "prices_and_places" [tR rs]≈.ok (.own,pD (lim rs fuel s0) a)/\NK rs (lim rs fuel s0) a
def FT(e:kR Γ)(f:⇑ws<=24)(g:∀r∈rs,cp ws r):∃b,bt Γ FP [tR rs]≈.ok (.own,pD (lim rs fuel s0) b)/\NK rs (lim rs fuel s0) b:=by
 have(b,a,c,d,q,h):=yq e f g fuel s0 (λ_=>0) b6 b6 b6 (jn ws) (NK.start rs _) ⋯;show#[b,aw (st0:=[bD _,b6,b6,b6,b6,b6]) rfl (.inl rfl) ?_ (aA (gV) bh (aA  aq aX (yc q (bf (au rfl) (n9 rfl))))),h];change [bD _,b6,b6,b6,b6,b6]=_;rw[if_pos (by show aI rs)]
def yr(a:kR (Ml Pg d))(h:MC Pg "prices_and_places" FP):jZ (Ml Pg (d+1)):=λws rs b c=>by
 have(f,e,g):=FT a b c;show#[f,by rw[aP h];show e,g]
abbrev M'(c:Str->Int)(x:Str):U:=.tup [.str x,.int (c x)]
theorem mj(c):∀ks,pO (ks.map (M' c))≈ks
 |[]=>rfl
 |k::ks=>by
  change(pO _).map _=_;rw[mj c ks];rfl
def yt(c)(hl:⇑ks<64)(a:ks.Nodup):∃b:↑Str,b.Perm ks/\Nm .sorted [(oL (ks.map (M' c)))]≈oL (b.map (M' c)):=by
 cases ks with
 |nil =>
  have e:=ϡ.mp (aS []);show#[[],U4 _,?_];change(if ⇑([]:↑Str)<64 then bD _ else b6)=_;rw[e];rfl
 |cons f g =>
  generalize h:f::g=ks at hl a;have e:(fS ⇑ks).map (λi=>ks.getD i rr)=ks:=by
   apply PH
   .simp
   .intro i m j;simp[Ry,j]
  have d:=(bS ks).map λi=>ks.getD i rr;rw[e]at d;show#[_,d,?_];have k:strsOf (ks.map (M' c))=b6:=by subst h;rfl
  change nI .own _=_;unfold nI;rw[k];unfold Bd;rw[mj];change(if _ then _ else _)=_;rw[if_pos #[hl,a,rfl],fR];congr 3
  apply tA;intro i hi;have l:=tj.mp ((bS _).mem_iff.mp hi);simp[Ry,l]
def mq:Nn .S4 [(.own,pD s a)]≈(s.1.map λk=>(lT [.str k,.tup [.int (s.2 k),.int (a k)]])):=by
 change bD _=_;unfold jb;generalize s.1=l;induction l with
 |nil=>rfl
 |cons k l b=>simp_all
abbrev yu(Γ:Tab):Prop:=∀(ws:↑Str) (rs:↑Row),⇑ws<=24->(∀r∈rs,cp ws r)->∃ks:↑Str,ks.Perm (lim rs fuel s0).1/\Γ "prices" [tR rs]≈.ok (oL (ks.map (M' (lim rs fuel s0).2)))
def uG(g:jZ Γ)(b:⇑ws<=24)(c:∀r∈rs,cp ws r):∃ks:↑Str,ks.Perm (lim rs fuel s0).1/\bt Γ iA [tR rs]≈.ok (oL (ks.map (M' (lim rs fuel s0).2))):=by
 have h:1000<=dt:=⋯
 have(d,e,_):=g ws rs b c;have a:=iz b c fuel s0 (jn ws);generalize lim rs fuel s0=s at e a;have hl:=a.1.len;have f:=gv (st:=[bD (.loc,tR rs)]) (cond:=aQ Γ []) (elt:=ev Γ (.tup [.var 0,.idx (.var 1) (cI 0)])) (src:=[(.own,pD s d)]) ttt _ (λk=>.tup [.int (s.2 k),.int (d k)]) (M' s.2) _ s.1 [] (by grind)
  (λy _=>#[cB,fG (aa (ae rfl) (aa (aF (ae rfl) aq ttt rfl) af)) ttt (aC aG (aC aG aN)) (by change 2<=dt;lia)])
 rw[Nd.mpr λ_ _=>rfl]at f;have(ks,i,es):=yt s.2  ⋯ a.1.1;show#[ks,i,aw  rfl (.inl rfl) ?_ (bf (bp (aa (bx  (aa (aB (aa (ae rfl) af) ttt e) af) ttt mq f) af) ttt es) eN)];change [bD _]=_;rw[if_pos (by show aI rs)]
def FU(a:jZ (Ml Pg d))(h:MC Pg "prices" iA):yu (Ml Pg (d+1)):=λws rs b c=>by
 have(ks,f,e):=uG a b c;show#[ks,f,by rw[aP h];show e]
abbrev Qr(rs:↑Row)(s:N4):Prop:=∀r∈rs,(may s r&&OF s r)=cK
theorem yw:∀rs s b,(Oj rs (s,b)).2=cK->b=cK/\Qr rs s/\(Oj rs (s,b)).1=s
 |[],s,b,h=>#[h,λr d=>(by cases d),rfl]
 |r::rs,s,b,h=>by
  have(f,a,g):=yw rs (OG s r) (b||(may s r&&OF s r)) h;have(i,c):=Bool.or_eq_false_iff.mp f;have e:OG s r=s:=by unfold OG;rw[if_neg (by simp[c])]
  rw[e]at a;show#[i,λq hq=>?_,?_]
  .rcases f6.mp hq with rfl|hq
   .show c
   .show a q hq
  .change(Oj rs (OG s r,b||(may s r&&OF s r))).1=s;rw[g,e]
theorem yx(a:⇑ws<=24)(b:∀r∈rs,cp ws r):∀(n:Nat) s,jY ws s->mu s+1<n->Qr rs (lim rs n s)
 |0,s,h,d=>by have:=CT a h;lia
 |n+1,s,h,d=>by
  have(e,j,f):=mf a rs s cK b h;unfold lim;cases c:(Oj rs (s,cK)).2 with
  |true =>
   rw[if_pos rfl];have:=(f c).resolve_left ⋯;show yx a b n _ e ⋯
  |false =>
   rw[if_neg ⋯];have(_,g,i):=yw rs s cK c;rw[i];show g
def NK.best(h:NK rs s c)(hs:Qr rs s)(hk:k∈s.1):∃(i:Nat) (r:Row),c k=(i:Int)/\rs[i]?≈r/\r.1=k/\(∀x∈r.2,x∈s.1)/\s.2 k=MU s r:=by
 have(i,r,d,a,e,b,f):=h k hk;show#[i,r,d,a,e,b,Int.le_antisymm ?_ f];have g:=hs r (k8 a);have l:may s r=cb:=nH.mpr λx j=>by simpa using b x j
 unfold OF at g;simp_all
abbrev CY(Γ:Tab):Prop:=∀(ws:↑Str) (rs:↑Row),⇑ws<=24->(∀r∈rs,cp ws r)->∃(a:Str->Int) (ks:↑Str),ks.Perm (lim rs fuel s0).1/\Γ "best_rows" [tR rs]≈.ok (oL (ks.map (M' a)))/\NK rs (lim rs fuel s0) a
def wg(h:jZ Γ)(c:⇑ws<=24)(d:∀r∈rs,cp ws r):∃(a:Str->Int) (ks:↑Str),ks.Perm (lim rs fuel s0).1/\bt Γ kS [tR rs]≈.ok (oL (ks.map (M' a)))/\NK rs (lim rs fuel s0) a:=by
 have i:1000<=dt:=⋯
 have(a,e,f):=h ws rs c d;have b:=iz c d fuel s0 (jn ws);generalize lim rs fuel s0=s at e b f ⊢;have hl:=b.1.len;have g:=gv (st:=[bD (.loc,tR rs)]) (cond:=aQ Γ []) (elt:=ev Γ (.tup [.var 0,.idx (.var 1) (cI 1)])) (src:=[(.own,pD s a)]) ttt (λk =>U.str k) (λk=>.tup [.int (s.2 k),.int (a k)]) (M' a) (λ_=>cb) s.1 [] ⋯
  (λy _=>#[cB,fG (aa (ae rfl) (aa (aF (ae rfl) aq ttt rfl) af)) ttt (aC aG (aC aG aN)) (by change 2<=dt;lia)])
 rw[oa,show s.1.filter (λ_=>cb)=s.1 from Nd.mpr λ_ _=>rfl]at g;have(ks,j,es):=yt a (ks:=s.1) ⋯ b.1.1;show#[a,ks,j,aw (st0:=[bD (.loc,tR rs)]) rfl (.inl rfl) ?_ (bf (bp (aa (bx (rs:=[(.own,pD s a)]) (aa (aB (aa (ae rfl) af) ttt e) af) ttt mq g) af) ttt es) eN),f];change [bD (if Mr (tR rs)=cb then Kd.loc else Kd.any,tR rs)]=_;rw[if_pos (by change gb (rs.map K')=cb;show aI rs)]
def Je(a:jZ (Ml Pg d))(h:MC Pg "best_rows" kS):CY (Ml Pg (d+1)):=λws rs b c=>by
 have(f,ks,g,e,i):=wg a b c;show#[f,ks,g,by rw[aP h];show e,i]
def so(c)(hl:⇑ks<64)(a:ks.Nodup):Nm .sorted [(oL (ks.map (M' c)))]≈oL ((aD ks).map (M' c)):=by
 change nI .own _=_;cases ks with
 |nil =>
  have e:=ϡ.mp (aS []);change(if ⇑([]:↑Str)<64 then bD _ else b6)=_;rw[e];rfl
 |cons b d =>
  generalize f:b::d=ks at hl a;have g:strsOf (ks.map (M' c))=b6:=by subst f;rfl
  unfold nI;rw[g];unfold Bd;rw[mj];change(if _ then _ else _)=_;rw[if_pos #[hl,a,rfl],<-zb a,fR];congr 3
  apply tA;intro i hi;have h:=tj.mp ((bS _).mem_iff.mp hi);simp[Ry,h]
abbrev CZ(Γ:Tab):Prop:=∀(ws:↑Str) (rs:↑Row),⇑ws<=24->(∀r∈rs,cp ws r)->Γ "prices" [tR rs]≈.ok (oL ((aD (lim rs fuel s0).1).map (M' (lim rs fuel s0).2)))
def wj(g:jZ Γ)(b:⇑ws<=24)(c:∀r∈rs,cp ws r):bt Γ iA [tR rs]≈.ok (oL ((aD (lim rs fuel s0).1).map (M' (lim rs fuel s0).2))):=by
 have h:1000<=dt:=⋯
 have(d,e,_):=g ws rs b c;have a:=iz b c fuel s0 (jn ws);generalize lim rs fuel s0=s at e a;have hl:=a.1.len;have f:=gv (st:=[bD (.loc,tR rs)]) (cond:=aQ Γ []) (elt:=ev Γ (.tup [.var 0,.idx (.var 1) (cI 0)])) (src:=[(.own,pD s d)]) ttt _ (λk=>.tup [.int (s.2 k),.int (d k)]) (M' s.2) _ s.1 [] (by grind)
  (λy _=>#[cB,fG (aa (ae rfl) (aa (aF (ae rfl) aq ttt rfl) af)) ttt (aC aG (aC aG aN)) (by change 2<=dt;lia)])
 rw[Nd.mpr λ_ _=>rfl]at f;show aw  rfl (.inl rfl) ?_ (bf (bp (aa (bx  (aa (aB (aa (ae rfl) af) ttt e) af) ttt mq f) af) ttt (so s.2 ⋯ a.1.1)) eN);change [bD _]=_;rw[if_pos (by show aI rs)]
def C0(a:jZ (Ml Pg d))(h:MC Pg "prices" iA):CZ (Ml Pg (d+1)):=λws rs b c=>by
 rw[aP h];show wj a b c
abbrev FV(Γ:Tab):Prop:=∀(ws:↑Str) (rs:↑Row),⇑ws<=24->(∀r∈rs,cp ws r)->∃a,Γ "best_rows" [tR rs]≈.ok (oL ((aD (lim rs fuel s0).1).map (M' a)))/\NK rs (lim rs fuel s0) a
def zN(g:jZ Γ)(c:⇑ws<=24)(d:∀r∈rs,cp ws r):∃a,bt Γ kS [tR rs]≈.ok (oL ((aD (lim rs fuel s0).1).map (M' a)))/\NK rs (lim rs fuel s0) a:=by
 have h:1000<=dt:=⋯
 have(a,e,i):=g ws rs c d;show#[a,?_,i];have b:=iz c d fuel s0 (jn ws);generalize lim rs fuel s0=s at e b;have hl:=b.1.len;have f:=gv (st:=[bD (.loc,tR rs)]) (cond:=aQ Γ []) (elt:=ev Γ (.tup [.var 0,.idx (.var 1) (cI 1)])) (src:=[(.own,pD s a)]) ttt _ (λk=>.tup [.int (s.2 k),.int _]) (M' a) _ s.1 [] (by grind)
  (λy _=>#[cB,fG (aa (ae rfl) (aa (aF (ae rfl) aq ttt rfl) af)) ttt (aC aG (aC aG aN)) (by change 2<=dt;lia)])
 rw[Nd.mpr λ_ _=>rfl]at f;show aw  rfl (.inl rfl) ?_ (bf (bp (aa (bx  (aa (aB (aa (ae rfl) af) ttt e) af) ttt mq f) af) ttt (so a ⋯ b.1.1)) eN);change [bD _]=_;rw[if_pos (by show aI rs)]
def FW(a:jZ (Ml Pg d))(h:MC Pg "best_rows" kS):FV (Ml Pg (d+1)):=λws rs b c=>by
 have(f,e,i):=zN a b c;show#[f,by rw[aP h];show e,i]
end TM
namespace TM
open PySem L2 Mu Od
def FX(c:r∈rs)(h:OD rs s.1):OD rs (OG s r).1:=by
 unfold OG;split
 .rename_i d;have e:may s r=cb:=(Qq.mp d).1;intro C a x b;rcases dn.mp b with b|rfl
  .show h C a x b
  .show a r c λy f=>h C a y (by have:=nH.mp e y f;simpa using this)
 .show h
theorem yy:∀a s b,(∀r∈a,r∈rs)->OD rs s.1->OD rs (Oj a (s,b)).1.1
 |[],s,b,_,h=>h
 |r::a,s,b,c,h=>yy a (OG s r) _ (λy hz=>c y (by simp[hz])) (FX (c r ⋯) h)
theorem yz:∀n s,OD rs s.1->OD rs (lim rs n s).1
 |0,s,h=>h
 |n+1,s,h=>by
  unfold lim;have:=yy rs s cK (λ_ z=>z) h;split
  .show yz n _ this
  .show this
def Qr.closed(h:Qr rs s):gY rs (·∈s.1):=λr a b=>by
 have c:=h r a;have e:may s r=cb:=nH.mpr λx d=>by simpa using b x d
 unfold OF at c;simp_all
def Qr.le(h:Qr rs s)(a:r∈rs)(b:∀x∈r.2,x∈s.1):s.2 r.1<=MU s r:=by
 have c:=h r a;have e:may s r=cb:=nH.mpr λx d=>by simpa using b x d
 unfold OF at c;simp_all
inductive Wk(rs:↑Row):↑Str->↑Nat->↑Str->Prop where
 |nil {P:↑Str}:Wk rs P [] P
 |cons {P Q:↑Str} {p:Nat} {ps:↑Nat} {r:Row} (h:rs[p]?≈r) (t:Wk rs (P++[r.1]) ps Q):Wk rs (P++r.2) (p::ps) Q
def C1(a b:↑α):cut (a++b) (bD (⇑a:Nat)) b6=b:=by
 have c:HT.NT ⇑(a++b) 0 (bD ((⇑a:Nat):Int))=⇑a:=by rw[HT.qw];simp
 have d:HT.NT ⇑(a++b) ⇑(a++b) b6=⇑(a++b):=rfl;unfold cut;rw[c,d,List.drop_left,OL ⋯]
def C2(a b:↑α):cut (a++b) b6 (bD (⇑a:Nat))=a:=by
 have c:HT.NT ⇑(a++b) ⇑(a++b) (bD ((⇑a:Nat):Int))=⇑a:=by rw[HT.qw];simp
 have d:HT.NT ⇑(a++b) 0 b6=0:=rfl;unfold cut;rw[c,d,đ,Nat.sub_zero,List.take_left]
def FY{a b:↑Str}(h:⇑a+⇑b<=200000):Oe .add (oL (a.map .str)) (oL (b.map .str))≈oL ((a++b).map .str):=by
 have hsz:(200000:Nat)<=dt:=⋯
 simp only[Oe,ze];rw[if_pos #[by simp;lia,rfl,rfl],mh]
def uH(a:⇑us=fn.np)(hs:start us fn.ns=st0)(h:Run (execs Γ fn.body) st0 .nx st):bt Γ fn us≈.ok (.loc,.Mc):=by
 subst hs;unfold bt;rw[if_pos a,h]
structure Bk(ws:↑Str)(rs:↑Row)(s:N4):Prop where
 wl:⇑ws<=24
 rl:⇑rs<=84
 ok:∀r∈rs,cp ws r
 inv:jY ws s
 VM:Qr rs s
 snd:OD rs s.1
def Bk.of(a:⇑ws<=24)(b:⇑rs<=84)(ok:∀r∈rs,cp ws r):Bk ws rs (lim rs fuel s0) :=
 #[a,b,ok,iz a ok fuel s0 (jn ws),yx a ok fuel s0 (jn ws) (by unfold fuel;decide),yz fuel s0 λC _ x c=>(by cases c)]
def Bk.kn(h:Bk ws rs s):KL.Kn rs s.1:=#[h.inv.1.1,h.snd,h.VM.closed]
def Bk.heads(h:Bk ws rs s)(a:x∈s.1):x∈rs.map (·.1):=h.snd _ (λr b _=>Xs b) x a
def Bk.words(h:Bk ws rs s)(a:x∈s.1):x∈a_ rs:=by
 rw[jh];have(r,b,rfl):=hW.mp (h.heads a);show YP.mpr #[_,Xs b,by simp]
def C5(h:Bk ws rs s)(a:w∈a_ rs)(b:Γ "words_of" [tR rs]≈.ok (oL ((a_ rs).map .str))):bt Γ C3 [tR rs,.lst [.str w]]≈.ok (.loc,.Mc):=by
 have d:=gu λr c=>(h.ok r c).ok;have hl:=h.wl;have f:=eG (a_ rs);have hs:tM cb (aU [w]) (aU (a_ rs))≈lI 0:=by
  have e:aU [w]=[w]:=by rfl
  unfold tM;rw[e,if_pos #[by simp,⋯],if_pos rfl,Ws,if_neg (by simp[b_,a])];rfl
 show uH (st0:=[bD _,bD (aL [.str w])]) rfl ?_ (aV (aM (Gz (ay rfl) (ix (ss:=[w]) ⋯) (aB (aa (ae rfl) af) ttt b) (ix ⋯) hs) aq ttt (gC rfl)) ao ao);change [bD _,bD (Kd.any,_)]=_;rw[if_pos (by show aI rs)]
def C6(a:w∈K)(hl:Γ "learnt" [tR rs]≈.ok (oL ((aD K).map .str))):bt Γ C4 [tR rs,.str w]≈.ok (.loc,.Mc):=by
 show uH (st0:=[bD _,bD (lS w)]) rfl ?_ (aV (aM (ae rfl) (aB (aa (ae rfl) af) ttt hl) ttt (fM.trans (by simp[(aS K).mem_iff,a]))) ao ao);change [bD _,bD (Kd.loc,_)]=_;rw[if_pos (by show aI rs)]
def mr(c)(h:ks.Nodup):Nm .dict [(k,.lst (ks.map (M' c)))]≈(.own,.J' ks (ks.map λx=>.int (c x))):=by
 have e:∀ks:↑Str,nJ (ks.map (M' c))≈(ks.map λx=>(x,U.int (c x))):=λks=>by
  induction ks with
  |nil=>rfl
  |cons x ks a =>
   change(if Uq _=cb then(nJ _).map _ else b6)=_;rw[a];rfl
 change(nJ _).bind _=_;rw[e];change(if ((ks.map λx=>(x,U.int _)).map _).Nodup then bD _ else b6)=_;have b:(ks.map λx=>(x,U.int (c x))).map (·.1)=ks:=by rw[fR];show ϳ _
 rw[b,if_pos h,fR];rfl
abbrev oC(rs:↑Row)(w:Str)(ks:↑Str)(a:Str->Int)(B:↑Nat)(W:↑Str)(o5:Sl):aK:=[bD (.loc,tR rs),bD (lS w),bD (.own,.J' ks (ks.map λx=>.int (a x))),bD (oL (B.map λp:Nat=>.int (p:Int))),bD (oL (W.map .str)),o5]
theorem sr(h:jY ws s):∀{W:↑Str},(∀x∈W,x∈s.1)->(⇑W:Int)<=(W.map s.2).sum
 |[],_=>by simp
 |x::W,a=>by
  have:=sr h (W:=W) λy b=>a y (by simp[b]);have c:=h.2.1 x (a x ⋯)
  grind
theorem uI(h:Bk ws rs s)(o:NK rs s a)(q:∀x,x∈ks↔x∈s.1):∀(f:Nat) (W:↑Str) B o5,(∀x∈W,x∈s.1)->(W.map s.2).sum+1<f->(W.map s.2).sum+⇑B<=2000->Wk rs W B.reverse [w] ->
  ∃b d,Run (km (Mn Γ (.cmp .ne (.var 4) (.lst []))) (execs Γ wm) f) (oC rs w ks a B W o5) .nx (oC rs w ks a b [] d)/\Wk rs [] b.reverse [w]/\(⇑b:Int)=(W.map s.2).sum+⇑B
 |0,W,B,o5,c,A,_,_=>by have:=sr h.inv c;lia
 |f+1,W,B,o5,c,A,hl,t=>by
  have C:10000<=dt:=⋯
  have D:=sr h.inv c;have g:Run (Mn Γ (.cmp .ne (.var 4) (.lst []))) (oC rs w ks a B W o5) (!W.isEmpty) (oC rs w ks a B W o5):=aM (au rfl) (bY af ttt aN (lx _)) ∅ (by rw[oz (dF _ 49)];simp);by_cases j:W=[]
  .subst j;show#[B,o5,yb g,t,by simp]
  .have e:=List.dropLast_concat_getLast j;generalize W.dropLast=V at e;generalize W.getLast j=x at e;subst e;have v:x∈s.1:=c x ⋯;have(i,r,G,l,H,I,J):=o.best h.VM v;have L:=(h.ok r (k8 l)).2.2.2;have Y:((V++r.2).map s.2).sum+1=((V++[x]).map s.2).sum:=by
    rw[mh,ý,mh,ý,Ú,Š,J];unfold MU;lia
   have m:∀y∈V++r.2,y∈s.1:=λy hy=>by
    rcases ki.mp hy with hy|hy
    .show c y (by simp[hy])
    .show I y hy
   rw[ko,RO]at D;have N:Run (execs Γ wm) (oC rs w ks a B (V++[x]) o5) .nx (oC rs w ks a (B++[i]) (V++r.2) (bD (lI i))):=by
    have O:Run (ev Γ (.idx (.var 2) (.pop 4))) (oC rs w ks a B (V++[x]) o5) (lI i) (oC rs w ks a B V o5):=by
     have z:=KN (Γ:=Γ) (st:=oC rs w ks a B (V++[x]) o5) (i:=4) (k:=.own) (us:=(V++[x]).map .str) (u:=.str x) rfl rfl ⋯;rw[show((V++[x]).map U.str).dropLast=V.map U.str by simp]at z;show aF (au rfl) z ∅ ?_;change(cu ks (ks.map λx=>U.int (a x)) x).map _=_;rw[jX ((q x).mpr v),G];rfl
    show aA O aX (jQ (k:=.own) (k':=.own) rfl (ae rfl) aG rfl rfl (by rw[df];lia) ?_);show uh (k:=.own) (k':=.own) (zs:=(V++r.2).map .str) rfl (aF (aF (ae rfl) (ae rfl) ttt (c7 (k:=.loc) (jW l))) aq ttt (rfl)) rfl rfl ?_ ?_
    .rw[rW (by rw[df,df];lia) rfl,mh]
    .rw[show(B.map λp:Nat=>U.int p)++[U.int i]=(B++[i]).map λp:Nat=>U.int p by simp];show ao
   have n:Wk rs (V++r.2) (B++[i]).reverse [w]:=by
    rw[List.reverse_append,List.reverse_singleton,List.singleton_append];show .cons l (by rw[H];show t)
   have(b,d,Q,k2,T):=uI h o (w:=w) q f (V++r.2) (B++[i]) (bD (lI i)) m ⋯ (by rw[ko,RO];lia) n;show#[b,d,v8 ?_ N Q,k2,by rw[ko,RO]at T;lia];rw[show(!(V++[x]).isEmpty)=cb by simp]at g;show g
abbrev Jf(Γ:Tab):Prop:=∀(ws:↑Str) (rs:↑Row) (w:Str),Bk ws rs (lim rs fuel s0)->w∈(lim rs fuel s0).1->(lim rs fuel s0).2 w<=2000->∃ps:↑Nat,Γ "reading" [tR rs,.str w]≈.ok (oL (ps.map λp:Nat=>.int (p:Int)))/\Wk rs [] ps [w]/\(⇑ps:Int)=(lim rs fuel s0).2 w
def run_read(g:yu Γ)(i:CY Γ)(h:Bk ws rs (lim rs fuel s0))(a:w∈(lim rs fuel s0).1)(j:(lim rs fuel s0).2 w<=2000)(k:Γ "refuse_unknown" [tR rs,.lst [.str w]]≈.ok (.loc,.Mc))(l:Γ "refuse_unlearnt" [tR rs,.str w]≈.ok (.loc,.Mc)):
  ∃ps,bt Γ C7 [tR rs,.str w]≈.ok (oL (ps.map λp:Nat=>.int (p:Int)))/\Wk rs [] ps [w]/\(⇑ps:Int)=(lim rs fuel s0).2 w:=by
 have m:10000<=dt:=⋯
 have(k1,b,d):=g ws rs h.wl h.ok;have(c,k2,p2,e,f):=i ws rs h.wl h.ok;generalize lim rs fuel s0=s at h a j d e f b p2;have n:k1.Nodup:=b.nodup_iff.mpr h.inv.1.1;have o:k2.Nodup:=p2.nodup_iff.mpr h.inv.1.1;have r:∀x,x∈k2↔x∈s.1:=λx=>p2.mem_iff;have t:=h.inv.2.1 w a;have(B,o5,q,u,hl):=uI (Γ:=Γ) h f (w:=w) r fuel [w] [] b6 (λx y=>by simp_all) (by simp;unfold fuel;lia) ⋯ .nil;show#[B.reverse,?_,u,by simp_all];have v:Run (ev Γ (.idx (.bi .dict [.call "prices" [.var 0]]) (.var 1))) [bD (.loc,tR rs),bD (lS w),b6,b6,b6,b6] (lI (s.2 w)) _ :=
  aF (bp (aa (aB (aa (ae rfl) af) ttt d) af) ttt (mr s.2 n)) (ae rfl) ttt (by change(cu k1 (k1.map λx=>U.int (s.2 x)) w).map _=_;rw[jX (b.mem_iff.mpr a)];rfl)
 show aw (st0:=[bD (.loc,tR rs),bD (lS w),b6,b6,b6,b6]) rfl (.inl rfl) ?_ ?_ (st:=oC rs w k2 c B [] o5)
 .change [bD _,bD (lS w),b6,b6,b6,b6]=_;rw[if_pos (by change gb (rs.map K')=cb;show aI rs)]
 show GC (aB (aa (ae rfl) (aa (bY (aa (ae rfl) af) ttt (aC aG aN) (by change 1<=dt;lia)) af)) ttt k) (GC (aB (aa (ae rfl) (aa (ae rfl) af)) ttt l) ?_);show aV (aM v lq ttt (gC ⋯)) ao ?_;show aA (bp (aa (aB (aa (ae rfl) af) ttt e) af) ttt (mr c o)) bh (aA (bY af ttt aN (lx _)) bh (aA (st2:=oC rs w k2 c [] [w] b6) (bY (aa (ae rfl) af) ttt (aC aG aN) (by change 1<=dt;lia)) bh (yc q (bf (qa (aa (au rfl) af) ∅ ?_) eN))));change(if fB (.bor 3) (B.map λp:Nat=>U.int p)=cb then bD _ else b6)=_;rw[if_pos (show fB (.bor 3) (B.map λp:Nat=>U.int p)=cb from rfl),List.map_reverse]
structure Rdr(prog:↑Fn):Prop where
 l:KL.VI prog
 w:MC prog "words_of" rZ
 u:MC prog "refuse_unknown" C3
 r:MC prog "refuse_unlearnt" C4
 q:MC prog "row_price" yo
 t:MC prog "prices_and_places" FP
 c:MC prog "prices" iA
 b:MC prog "best_rows" kS
 d:MC prog "reading" C7
def Jg(R:Rdr prog)(n):Jf (Ml prog (n+7)):=λws rs w h a g=>by
 have i:Ml prog (n+5) _ _≈_:=(aP R.w _).trans (jU (by have:=h.rl;lia) (λr f=>(h.ok r f).ok) (by have:=h.wl;lia));have j:=(aP R.u _).trans (C5 h (h.words a) i);have k:=KL.yg R.l n (λr f=>(h.ok r f).ok) h.wl (by have:=h.rl;lia) h.kn;have m:=(aP R.r _).trans (C6 a k);have(ps,e,r):=run_read (FU (yr (sm R.q) R.t) R.c) (Je (yr (sm R.q) R.t) R.b) h a g j m;show#[ps,(aP R.d _).trans e,r]
def Kn.held(c:KL.Kn rs K):∀r∈rs,r.1∈KK.Pu rs K->∃x∈r.2,x∈KK.Pu rs K:=λr h hz=>by
 apply ON;intro d;show(KK.l_.mp hz).2 (c.cl r h λx b=>?_);apply ON;intro a;show d #[x,b,KK.l_.mpr #[jg.mpr #[r,h,.inr b],a]]
def yA(a:Bq ws rs)(K):⇑(KK.Pu rs K)<=24:=by
 have c:⇑(KK.Pu rs K)<=⇑(a_ rs):=B' _ _;have d:=gu λr b=>(a.ok r b).ok;have:=a.wl;lia
def Jh(L:KL.VI Pg)(d:MC Pg "words_of" rZ)(e:MC Pg "not_learnt" KK.yi)(hk:MC Pg "knot" KK.CQ)(n)(a:Bq ws rs)(c:KL.Kn rs K)(f:⇑K<=24):Ml Pg (n+7) "knot" [tR rs]≈.ok (oL ((KK.cD (KK.Pu rs K) rs).map K')):=by
 have k:=gu λr b=>(a.ok r b).ok;have l:=a.wl;have g:=a.rl;have i:Ml Pg (n+5) _ _≈_:=(aP d _).trans (jU ⋯ (λr b=>(a.ok r b).ok) ⋯);have j:=(aP e _).trans (KK.oB ⋯ ⋯ i (KL.yg L n (λr b=>(a.ok r b).ok) a.wl ⋯ c));show(aP hk _).trans (KK.CS ⋯ (λr h=>(a.ok r h).2.2.2) (KK.kQ _ _) (by have:=yA a K;lia) (Kn.held c) j)
theorem wo:∀{a b}{y}{K:↑Str},vS rs K (a++y::b)->∃r,rs[y.2]?≈r/\r.1=y.1/\∀x∈r.2,x∈K++a.map (·.1)
 |[],b,y,K,h=>by
  have(_,r,c,d,e):=h.1;show#[r,c,d,by simpa using e]
 |s::a,b,y,K,h=>by
  have(r,c,d,e):=wo  h.2;show#[r,c,d,by simpa using e]
section
open KK
def LY(h:MC Pg "_law_learnt" C8){W}(a:Bv rs k W)(e:⇑ws<=40)(b:∀r∈rs,cp ws r):∃K,Ml Pg (d+1) "_law_learnt" [W]≈.ok (oL ((aD K).map .str))/\si ws K/\KL.Kn rs K:=by
 have(K,f,g,q,x,c):=yh  a ⋯ b 999999999999 [] b6 b6 #[#[.nil,λ_ h=>absurd h Su],λ_ _ _ h=>absurd h Su] ⋯;have i:=x.ks.len;have hs:Nm .sorted [(.bor 1,lN K)]≈oL ((aD K).map .str):=by
  change(if ⇑K<64 then bD _ else b6)=_;rw[if_pos ⋯]
 show#[K,(aP h _).trans (aw rfl (.inl rfl)  (congrArg (λx =>[x,b6,b6,b6,b6]) a.bg) (aA gV bh (aA aq aX (yc q (bf (bp (aa (au rfl) af) ∅ hs) eN))))),x.ks,x.ks.1,x.snd,c]
def C9(a:⇑rows<=120)(j:∀r∈rows,fN names r)(G:⇑names<64):bt Γ GF [tR rows]≈.ok (oL ((a_ rows).map .str)):=by
 have hsz:4000<=dt:=⋯
 let b:Sl:=bD (.loc,tR rows);have o:TM.start [tR rows] 3=[b,b6,b6]:=by simp[TM.start,Mr,aI,b]
 let S:=λ(ws:↑Str) o2=>[b,bD (oL (ws.map .str)),o2]
 let H:=rows.map (·.1);have I:⇑H<=120:=by change(rows.map (·.1)).length<=120;simpa using a
 have f:∀r∈rows,⇑r.2<=8:=λr h=>(j r h).NF;have(st',g,_,o2,e):=bL (t:=cK) (is:=[2]) (body:=execs Γ [.ext 1 (.idx (.var 2) (cI 1))]) (rs:=[(.loc,tR rows)]) (λr =>(Kd.loc,K' r))
  (λd r st=>d++r=rows/\∃o2,st=S (H++(d.map (·.2)).flatten) o2) (λ_ _ _ _=>ttt) (λd y r st p=>by
   have(c,o2,e):=p;subst e;have q:y∈rows:=by rw[<-c];simp
   have v:=uj (rows:=d) (n:=8) λs hs=>f s (by rw[<-c];simp[hs]);have J:⇑d<=120:=by have:=congrArg K2 c;simp at this;lia
   have w:=f y q;show#[S (H++(d.map (·.2)).flatten) (bD (.loc,K' y)),S (H++((d++[y]).map (·.2)).flatten) (bD (.loc,K' y)),dC aX,?_,by rw[<-c];simp,bD (.loc,K' y),rfl];have z:(H++((d++[y]).map (·.2)).flatten).map U.str=(H++(d.map (·.2)).flatten).map U.str++y.2.map U.str:=⋯
   change Run _ _ _ [b,bD (oL ((H++((d++[y]).map (·.2)).flatten).map .str)),bD (.loc,K' y)];rw[z];show uh (k:=.own) (k':=.own) rfl (aF (x:=(.loc,K' y)) (ae rfl) aq ttt rfl) rfl rfl (rW (by grind) rfl) ao) rows [] (S H b6) ⟨rfl,b6,by simp⟩
 subst e;rw[oa]at g;have A:H++(rows.map (·.2)).flatten=kK rows:=rfl;rw[A]at g;have i:⇑(kK rows)<4000:=by
  have:=uj f
  grind
 have B:⇑(aU (kK rows))<64:=by have:=v5 (rX j);lia
 have C:aD (aU (kK rows))=a_ rows:=CH λx=>by
  rw[jg];simp only[kK,ki,hW,YP];constructor
  .rintro(⟨r,a,rfl⟩|⟨l,⟨r,a,rfl⟩,hx⟩)
   .show#[r,a,.inl rfl]
   .show#[r,a,.inr hx]
  .rintro⟨r,a,rfl|hx⟩
   .show .inl #[r,a,rfl]
   .show .inr #[_,#[r,a,rfl],hx]
 have D:(rows.map K').map (λu=>(kE .loc,u))=rows.map λr=>(Kd.loc,K' r):=by rw[fR];rfl
 have m:=oq (k:=.bor 1) i B;rw[C]at m;show aw rfl (.inl rfl) o (aA (zH ⋯ rfl) bh (bV (rs:=[(.loc,tR rows)]) (aa (ae rfl) af) ttt rfl rfl (by rw[D];show g) (bf (qa (aa (au rfl) af) ∅ m) eN)))
def wq{ss:↑Str}:bJ .L6 (.str x) (.tup (ss.map U.str))≈dV (x∉ss):=@fM x ss
def C_(h:∃x∈l,x∈Z):pick Z l∈l/\pick Z l∈Z:=by
 have(x,e,f):=h;unfold pick;cases b:l.filter λx=>dV (x∈Z) with
 |nil =>
  simp_all
 |cons a t =>
  have:a∈l.filter λx=>dV (x∈Z):=by rw[b];show kj
  have(c,d):=DD.mp this;show#[c,of_decide_eq_true d]
abbrev lQ(rs P:↑Row)(Z V:↑Str)(o4 o5 o6 o7 o8:Sl):aK:=[bD (.loc,tR rs),bD (aL (P.map K')),bD (oL (Z.map .str)),bD (oL (V.map .str)),o4,o5,o6,o7,o8]
abbrev toU(l:↑Str):U:=.tup (l.map .str)
def FZ{Z V}(c:⇑rs<=120)(hk:k∈Z)(s:∀r∈rs,r.1∈Z->∃x∈r.2,x∈Z):
  ∃u f g,Run (execs Γ YC) (lQ rs P Z V (bD (.any,.str k)) (bD (.any,.tup ((Oi Z rs k).map .str))) o6 o7 o8) .nx (lQ rs P Z V (bD (.any,.str k)) (bD (.any,.tup ((Oi Z rs k).map .str))) u f g):=by
 have hsz:1000<=dt:=⋯
 have j:=B' (λr =>dV (r.1=k)) rs;rw[show Oi Z rs k=(rs.filter λr=>dV (r.1=k)).map λr=>pick Z r.2 from rfl];have n:∀r∈rs.filter λr=>dV (r.1=k),pick Z r.2∈r.2/\pick Z r.2∈Z:=λr c=>by
  have(a,b):=DD.mp c;show C_ (s r a (of_decide_eq_true b▸hk))
 have l:=rV (cond:=aQ Γ [.cmp .eq (.idx (.var 0) (cI 0)) (.var 5)]) (elt:=ev Γ (.idx (.var 0) (cI 1))) (src:=[(.loc,tR rs)]) (st:=lQ rs P Z V (bD (.any,.str k)) (bD (.any,.tup (((rs.filter λr=>dV (r.1=k)).map λr=>pick Z r.2).map .str))) o6 o7 o8) ttt .loc (.inl rfl) K' (λr=>toU r.2) (λr=>dV (r.1=k)) .loc rs [] (by grind)
  (λy _=>#[gp (aM (x:=(lS y.1)) (aF (ae rfl) aq ttt (c7 rfl)) (ay rfl) ttt l7),λ_=>#[aF (ae rfl) aq ttt (c7 rfl),aG]])
 rw[oa]at l;have o:=bx (rs:=[(.loc,tR rs)]) (aa (ae (i:=0) rfl) af) ttt sj l;generalize (rs.filter λr=>dV (r.1=k))=F at n j l o;let S:=lQ rs P Z V (bD (.any,.str k)) (bD (.any,.tup ((F.map λr=>pick Z r.2).map .str))) (bD (oL (F.map λr=>toU r.2)));have m:Nn .zip [(.bor 6,.lst (F.map λr=>toU r.2)),(.any,.tup ((F.map λr=>pick Z r.2).map .str))]≈(F.map λr=>(Kd.any,U.tup [toU r.2,.str (pick Z r.2)])):=by
  change bD _=_;rw[fR,Ϡ,fR];rfl
 have(st',v,f,g,rfl,_):=bL (rs:=[(.bor 6,.lst (F.map λr=>toU r.2)),(.any,.tup ((F.map λr=>pick Z r.2).map .str))]) (t:=cb) (is:=[7,8]) (body:=execs Γ KZ) _ (λd q st=>∃o7 o8,st=S o7 o8/\∀r∈q,r∈F)
  (λ_ _ _ ⟨o7,o8,e,_⟩=>by subst e;show∅) (λd y q st w=>by
   have(o7,o8,e,p):=w;subst e;have(m1,m2):=n y (p y ⋯);show#[S (bD (.any,toU y.2)) (bD (.any,.str (pick Z y.2))),S (bD (.any,toU y.2)) (bD (.any,.str (pick Z y.2))),e_ (.inr rfl),aV (iD (bZ (aM (ay rfl) (ay rfl) ttt (wq.trans ⋯)) (d5 (aM (ay rfl) (au rfl) ∅ (fM.trans ⋯))))) ao ao,_,_,rfl,λr c=>p r (by simp[c])]) F [] (S o7 o8) ⟨_,_,rfl,λ_ h=>h⟩
 show#[_,f,g,aA (st2:=S o7 o8) o bh (aV (aM (bp (aa (ay rfl) af) ttt de) (bp (aa (au rfl) af) ∅ dN) ttt (wc ⋯)) ao (bV (aa (au rfl) (aa (ay rfl) af)) ∅ m rfl v ao))]
def LZ(h:MC Pg "_law_knot_right" YD)(a:Bq ws rs)(p:Ml Pg d "_law_words" [tR rs]≈.ok (oL ((a_ rs).map .str)))(b:Z.Sublist (a_ rs))(s:∀r∈rs,r.1∈Z->∃x∈r.2,x∈Z):Ml Pg (d+1) "_law_knot_right" [tR rs,.lst ((cD Z rs).map K')]≈.ok (lB cb):=by
 have hsz:1000<=dt:=⋯
 have v:=a.rl;have G:⇑(a_ rs)<=24:=by have:=gu λr i=>(a.ok r i).ok;have:=a.wl;lia
 have w:⇑Z<=24:=by have:=b.length_le;lia
 have j:Z.Nodup:=b.nodup (ot _);have l:aD (aU Z)=Z:=eh ((aS _).trans ((RM (b9 _) j).mpr λx=>by rw[b_])) (c9 _) ((c9 _).sublist b);have H:⇑(aU Z)<=⇑Z:=fK (b9 _) λx f=>by simpa[b_] using f
 have I:⇑(cD Z rs)=⇑Z:=by unfold cD;rw[df]
 have f:=cC (cond:=aQ (Ml Pg d) []) (elt:=ev (Ml Pg d) (.idx (.var 0) (cI 0))) (src:=[(aL ((cD Z rs).map K'))]) (st:=[bD (.loc,tR rs),bD (aL ((cD Z rs).map K')),b6,b6,b6,b6,b6,b6,b6]) ttt .any (.inr rfl) K' (λr=>.str r.1) .any (λ_=>cB) (cD Z rs) [] ⋯
  (λy _=>#[aF (ay rfl) aq ttt (c7 rfl),gW rfl])
 rw[oa,show((cD Z rs).map λr=>U.str r.1)=Z.map U.str by unfold cD;rw[fR];rfl]at f;have m:((cD Z rs).map K').map (λu=>(kE .any,u))=(cD Z rs).map λr=>(Kd.any,K' r):=by rw[fR];rfl
 have(st',z,o4,o5,o6,o7,o8,rfl,_):=bL (rs:=[(aL ((cD Z rs).map K'))]) (t:=cb) (is:=[4,5]) (body:=execs (Ml Pg d) YC) (λr =>(Kd.any,K' r)) (λd q st=>∃o4 o5 o6 o7 o8,st=lQ rs (cD Z rs) Z (a_ rs) o4 o5 o6 o7 o8/\∀r∈q,r∈cD Z rs)
  (λ_ _ _ _=>ttt) (λd' y q st A=>by
   have(o4,o5,o6,o7,o8,e,n):=A;subst e;have(k,hk,rfl):=hW.mp (n y ⋯);have(J,L,N,r):=FZ (Γ:=Ml Pg d) (rs:=rs) (Z:=Z) (V:=a_ rs) (P:=cD Z rs) (k:=k) (o6:=o6) (o7:=o7) (o8:=o8) ⋯ hk s;show#[lQ rs (cD Z rs) Z (a_ rs) (bD (.any,.str k)) (bD (.any,.tup ((Oi Z rs k).map .str))) o6 o7 o8,_,e_ (.inr rfl),r,_,_,_,_,_,rfl,λr i=>n r (by simp[i])]) (cD Z rs) [] (lQ rs (cD Z rs) Z (a_ rs) b6 b6 b6 b6 b6) ⟨b6,b6,b6,b6,b6,rfl,λ_ h=>h⟩
 have B:bJ .ne (.lst (Z.map U.str)) (.lst ((aD (aU Z)).map U.str))≈cK:=by rw[FK,l];simp
 have g:bB [(.bor 2,.lst (Z.map .str))] (lQ rs (cD Z rs) Z (a_ rs) b6 b6 b6 b6 b6):=∅
 have C:Run (ev (Ml Pg d) (.bi .all [.comp 1 cK .seq [.var 2] [] (.cmp .isin (.var 0) (.var 4))])) (lQ rs (cD Z rs) Z (a_ rs) b6 b6 b6 b6 b6) (lB cb) (lQ rs (cD Z rs) Z (a_ rs) b6 b6 b6 b6 b6):=by
  have o:=cC (cond:=aQ (Ml Pg d) []) (elt:=ev (Ml Pg d) (.cmp .isin (.var 0) (.var 4))) (src:=[(.bor 2,.lst (Z.map .str))]) (st:=lQ rs (cD Z rs) Z (a_ rs) b6 b6 b6 b6 b6) g .loc (.inl rfl) U.str (λ_=>.bl cb) .loc (λ_=>cB) Z [] ⋯
   (λy D=>#[gU (ae rfl) (au rfl) ∅ (Gy.trans (by rw[decide_eq_true (b.subset D)])),aG])
  rw[oa,show(Z.map λ_=>U.bl cb)=(Z.map λ_=>cb).map U.bl by rw[fR];rfl]at o;have a:=l9 (k:=.own) (Z.map λ_=>cb);rw[show((Z.map λ_=>cb).all id)=cb by simp]at a;show bp (aa (bx (rs:=[(.bor 2,.lst (Z.map .str))]) (aa (au rfl) af) g (by change bD ((Z.map U.str).map λu=>(kE (.bor 2),u))=_;rw[fR];rfl) o) af) ttt a
 show(aP h _).trans (aw rfl (.inr rfl) (st0:=[bD (.loc,tR rs),bD (aL ((cD Z rs).map K')),b6,b6,b6,b6,b6,b6,b6]) (congrArg (λx =>[x,bD (aL ((cD Z rs).map K')),b6,b6,b6,b6,b6,b6,b6]) (jm rs)) (aA (st2:=[bD (.loc,tR rs),bD (aL ((cD Z rs).map K')),bD (oL (Z.map .str)),b6,b6,b6,b6,b6,b6]) (bx (rs:=[(aL ((cD Z rs).map K'))]) (aa (ay rfl) af) ttt (by change bD (YT (λu=>(kE .any,u)) _)=_;rw[m]) f) bh (aA (st2:=lQ rs (cD Z rs) Z (a_ rs) b6 b6 b6 b6 b6) (aB (aa (ae rfl) af) ttt p) bh (aV (iD (bZ (aM (au rfl) (qa (aa (au rfl) af) g (oq ⋯ ⋯)) g B) (d5 (fH (c:=cb) (jf C))))) ao (bV (rs:=[(aL ((cD Z rs).map K'))]) (aa (ay rfl) af) ttt (by change bD (YT (λu=>(kE .any,u)) _)=_;rw[m]) rfl z (bf aq cy))))))
abbrev Ji(rs:↑Row)(B:↑(Str×Nat))(K:↑Str)(o3 o4:Sl):aK:=[bD (.loc,tR rs),bD (aL (B.map stN)),bD (.own,lN K),o3,o4]
def Jj(o:∀r∈rs,⇑r.2<=8)(h:vS rs [] B)(hl:⇑B<=24):bt Γ fSr [tR rs,.lst (B.map stN)]≈.ok (lB cb):=by
 have hsz:1000<=dt:=⋯
 have(st',p,f,o3,o4,e):=bL (rs:=[(aL (B.map stN))]) (t:=cb) (is:=[3,4]) (body:=execs Γ bSr) (λs =>(Kd.any,stN s)) (λd q st=>d++q=B/\∃o3 o4,st=Ji rs B (d.map (·.1)) o3 o4) (λ_ _ _ _=>ttt) (λd y q st v=>by
  have(f,o3,o4,e):=v;subst e;have(r,g,L,i):=wo (a:=d) (b:=q) (y:=y) (by rw[f];show h);rw[oa]at i;have l:y.1∉d.map (·.1):=by
   have:=ox h .nil;rw[oa,<-f,mh,gr]at this;show λz=>(pb.mp this).2.2 _ z _ kj rfl
  have N:⇑d<24:=by have:=congrArg K2 f;simp at this;lia
  have A:y.2<⇑rs:=(eH.mp g).1;have O:=o r (k8 g);let C:Sl:=bD (.any,.str y.1);let D:Sl:=bD (.any,.int y.2);let S:=Ji rs B (d.map (·.1)) C D;have G:(rs.map K')[y.2]?≈K' r:=by rw[hU,g];rfl
  have m:Run (ev Γ (.idx (.var 0) (.var 4))) S (.loc,K' r) S:=aF (ae rfl) (ay rfl) ttt (c7 (b7 G));have H:Run (Mn Γ (.or [.cmp .isin (.var 3) (.var 2),.cmp .lt (.var 4) (cI 0),.cmp .ge (.var 4) (.bi .len [.var 0]),.cmp .ne (.idx (.idx (.var 0) (.var 4)) (cI 0)) (.var 3)])) S cK S :=
   iD (bZ (aM (ay rfl) (au rfl) ∅ (kL.trans (by rw[decide_eq_false l]))) (bZ (aM (ay rfl) aq ttt (gX (decide_eq_false ⋯))) (bZ (aM (ay rfl) (bp (aa (ae rfl) af) ttt de) ttt (CG (decide_eq_false (by rw[df];lia))))
    (d5 (aM (aF m aq ttt (c7 (u:=.str r.1) rfl)) (ay rfl) ttt (Jb.trans ⋯))))))
  have n:Run (ev Γ (.bi .all [.comp 1 cK .seq [.idx (.idx (.var 0) (.var 4)) (cI 1)] [] (.cmp .isin (.var 0) (.var 3))])) S (lB (r.2.all λx=>dV (x∈d.map (·.1)))) S :=
   iw (j:=2) (k:=.loc) (w:=lN (d.map (·.1))) (.inl rfl) ⋯ (aF m aq ttt (c7 (u:=.tup (r.2.map .str)) rfl)) (.inr rfl) λ_=>kL
  rw[show(r.2.all λx=>dV (x∈d.map (·.1)))=cb from nH.mpr λx I=>decide_eq_true (i x I)]at n;have J:d0 (.str y.1) (.bl cb) (lN (d.map (·.1)))≈lN ((d++[y]).map (·.1)):=by
   rw[sg (by rw[df];lia)];unfold du;rw[if_neg l];simp
  show#[S,_,e_ (.inr rfl),aV H ao (aV (fH (c:=cb) (jf n)) ao (lz (k:=.own) (k':=.own) aq rfl (ay rfl) (aC aG (aC (gW rfl) aN)) rfl rfl J ao)),by simp_all,_,_,rfl]) B [] (Ji rs B [] b6 b6) ⟨rfl,b6,b6,rfl⟩
 subst e;show aw (st0:=[bD (.loc,tR rs),bD (aL (B.map stN)),b6,b6,b6]) rfl (.inr rfl) (congrArg (λx =>[x,bD (aL (B.map stN)),b6,b6,b6]) (jm rs)) (aA gV bh (bV (rs:=[(aL (B.map stN))]) (aa (ay rfl) af) ttt (by change bD ((B.map stN).map λu=>(kE .any,u))=_;rw[fR];rfl) rfl p (bf aq cy)))
end
end TM
namespace K
open PySem L2 TM
abbrev ck:Ck:=#[prog.map (·.name),[("DEAREST_READ",(.int 2000)),("FIRST_SENSE",(.int 1)),("LAST_SENSE",(.int 99)),("LETTERS",(.str "abcdefghijklmnopqrstuvwxyz")),("LONGEST_STEM",(.int 8)),("MOST_ROWS",(.int 60)),("MOST_TOLD",(.int 8)),("PICTURE_SIGN",(.str "*"))],prog.filterMap λf=>f.io.map λp=>(f.name,p.1)]
end K
namespace TM
open PySem L2 Mu
def word_short{x:Str}(h:bI (x.cps.toList)):⇑x<=20/\∀c∈(x.cps.toList),c<16 ^ 8:=by
 have f:∀n:_root_.Fin 100,∀c∈((iB n).cps.toList),c<16 ^ 8:=by decide +kernel
 rw[len_list];rcases h with h|⟨a,b,k,e,h,k2,g,i⟩
 .have(j,l,d):=(bM _).mp h
  grind
 .have(j,l,d):=(bM _).mp h;have hl:=kG  ⋯ g;rw[len_list,i]at hl;rw[e];show#[by grind,λc hc=>?_];rcases ki.mp hc with hc|hc
  .have:=d c hc;lia
  .rcases f6.mp hc with rfl|hc
   .decide
   .have:=f #[k.toNat,⋯] c
    grind
abbrev Rp(n b:Nat)(u:U):Prop:=∃d,fD u≈d/\d.showable=cb/\d.depth<=n/\d.leavesShort 8=cb/\d.bulk<=b
def De(h:⇑x<=20/\∀c∈(x.cps.toList),c<16 ^ 8):Rp 0 20 (.str x):=by
 show#[_,rfl,by rfl,by simp[Ö],?_,?_]
 .simp only[PyData.leavesShort,nH,decide_eq_true_eq];show h.2
 .show h.1
theorem wx:∀{us},(∀u∈us,Rp n b u)->∃ds,nG us≈ds/\Ņ ds=cb/\Ũ ds<=n/\Ī 8 ds=cb/\ž ds<=(b+1) * ⇑us
 |[],_=>#[[],rfl,rfl,lx _,rfl,lx _]
 |u::us,h=>by
  have(ds,e,a,i,c,j):=wx λv g=>h v (ke _ g);have(d,f,b1,k,b3,b4):=h u kj;show#[d::ds,?_,?_,?_,?_,?_]
  .change(fD u).bind _=_;simp_all
  .simp only[Ņ,a,b1,Ĥ]
  .simp only[Ũ];lia
  .simp only[Ī,c,b3,Ĥ]
  .simp only[ž,nz,Nat.mul_add];lia
def Df(h:∀u∈us,Rp n b u):Rp (n+1) ((b+1) * ⇑us) (.tup us):=by
 have(ds,e,a,c,d,f):=wx h;show#[.tuple ds,?_,by assumption,by simp only[Ö];lia,by assumption,by assumption];change(nG us).map _=_;rw[e];rfl
def Dg(h:Rp n b u)(a:n<=m)(e:b<=c):Rp m c u:=by
 have(d,f,b1,g,b3,b4):=h;show#[d,f,b1,⋯,b3,⋯]
def Jk(l)(h:∀u∈us,Rp n b u)(a:n<=40)(c:(b+1) * ⇑us<=2 ^ 20):∃s,∀k,Nm .repr [(k,if l=cb then .lst us else .tup us)]≈lS s:=by
 have(ds,e,d,f,g,i):=wx h;cases l with
 |false =>
  show#[(PyData.tuple ds).shown,λk=>?_];change(fD _).bind _=_;have e:fD (.tup us)≈.tuple ds:=by change(nG _).map _=_;rw[e];rfl
  rw[e];change(if _/\_/\_/\_ then _ else _)=_;rw[if_pos #[by assumption,by simp only[Ö];lia,ğ (B:=8) ⋯ ⋯ (by assumption) (by simp only[Ϟ];lia),rfl]]
 |true =>
  show#[(PyData.list ds).shown,λk=>?_];change(fD _).bind _=_;have e:fD (.lst us)≈.list ds:=by change(nG _).map _=_;rw[e];rfl
  rw[e];change(if _/\_/\_/\_ then _ else _)=_;rw[if_pos #[by assumption,by simp only[Ö];lia,ğ (B:=8) ⋯ ⋯ (by assumption) (by simp only[Ϟ];lia),rfl]]
def Jl(e:⇑r.2<=8)(a:bI (r.1.cps.toList))(c:∀x∈r.2,bI (x.cps.toList)):Rp 2 400 (K' r):=by
 have h:Rp 1 168 _:=Dg (Df   λu hu=>by
  have(x,d,rfl):=hW.mp hu;show De (word_short (c x d))) (gi _) (by grind)
 show Dg (Df  (b:=168)  λu hu=>?_) (gi _) ⋯;rcases f6.mp hu with rfl|hu
 .show Dg (De (word_short a)) ⋯ ⋯
 simp_all
abbrev jl(c:Nat):↑Str->↑Nat
 |[]=>[]
 |[x]=>(x.cps.toList)
 |x::y::r=>(x.cps.toList)++c::jl c (y::r)
def fe(c):∀xs,((Q2 #[#v[c]] xs).cps.toList)=jl c xs:=by
 have h:∀xs ,((Ő _ xs).cps.toList)=jl c xs:=λxs=>by
  match xs with
  |[]=>rfl
  |[x]=>rfl
  |x::y::r =>
   have a:=fe.go c (y::r);change(x++⟨#v[c]⟩++Ő _ _).cps.toList=_;rw[gq,gq,a,T5];rfl
 intro xs;change(Ġ _ xs).cps.toList=_;rw[Ğ];show h xs
where go c:∀xs ,((Ő _ xs).cps.toList)=jl c xs
 |[]=>rfl
 |[x]=>rfl
 |x::y::r=>by
  change(x++⟨#v[c]⟩++Ő _ _).cps.toList=_;rw[gq,gq,go c _,T5];rfl
theorem Dh:∀{xs a},xs≠[]->a≠[]->(∀x∈xs,c∉(x.cps.toList))->(∀y∈a,c∉(y.cps.toList))->jl c xs=jl c a->xs=a
 |[],_,h,_,_,_,_=>absurd rfl h
 |_::_,[],_,h,_,_,_=>absurd rfl h
 |[x],[y],_,_,_,_,e=>by rw[TM.eV (e)]
 |[x],y::z::r,_,_,b,_,e=>by
  have e:(x.cps.toList)=(y.cps.toList)++c::jl c _:=e;show absurd (by rw[e];simp) (b x ⋯)
 |x::z::r,[y],_,_,_,d,e=>by
  have e:(x.cps.toList)++c::jl c _=(y.cps.toList):=e;show absurd (by rw[<-e];simp) (d y ⋯)
 |x::z::r,y::k::l,_,_,b,d,e=>by
  have(f,g):=qF e (b x ⋯) (d y ⋯);rw[TM.eV f,Dh (õ _ _) (õ _ _) (λx i=>b x (ke _ i)) (λy j=>d y (ke _ j)) g]
def oM(h:xs≠[])(a:∀x∈xs,(x.cps.toList)≠[])(b:∀x∈xs,c∉(x.cps.toList)):RG (Q2 #[#v[c]] xs) ⟨#v[c]⟩=xs:=by
 have d:=StrLaws.join_split (Q2 #[#v[c]] xs) #[#v[c]];have e:jl c (RG (Q2 #[#v[c]] xs) #[#v[c]])=jl c xs:=by
  rw[<-fe.go,d,fe]
 show Dh (λz=>?_) h (StrLaws.split_free _ c) b e;rw[z]at e;cases xs with
 |nil=>show h rfl
 |cons x r =>
  cases r with
  |nil=>show a x ⋯ e.symm
  |cons y r=>show absurd e.symm (by change (x.cps.toList)++c::_≠[];simp)
def F0(x)(c):Up #[#v[c]] x=dV (c∈(x.cps.toList)):=PySem.StrLaws.found_one x c
def su{x:Str}(h:bI (x.cps.toList)):∀c∈(x.cps.toList),47<=c:=by
 have d:∀n:_root_.Fin 100,∀c∈((iB n).cps.toList),47<=c:=by decide +kernel
 rcases h with h|⟨a,b,k,e,h,k2,j,l⟩
 .have(f,g,i):=(bM _).mp h
  grind
 .have(f,g,i):=(bM _).mp h;rw[e];intro c hc;rcases ki.mp hc with hc|hc
  .grind
  .rcases f6.mp hc with rfl|hc
   .decide
   .have:=d #[k.toNat,⋯] c
    grind
def F2(h0:0<=i)(a:i<=99):Nm .str [(k,.int i)]≈lS (iB i):=by
 simp only[Nm,eR,Be];rw[if_pos (by
  by_cases hz:i.natAbs=0
  .rw[hz];decide
  .have:i.natAbs<2 ^ 7:=⋯
   have:=(Nat.log2_lt hz).mpr this;lia)]
 rfl
theorem uK:∀rs,nK (rs.map K')≈rs
 |[]=>rfl
 |r::rs=>by
  rw[gr,nK,kH,uK rs];rfl
def zO{rs:↑Row}(h:rs.Nodup)(hl:⇑rs<=64):tL .iQ [(k,.lst (rs.map K'))]≈lI (⇑rs:Nat):=by
 cases rs with
 |nil=>rfl
 |cons r rs =>
  change(nK _).bind _=_;rw[uK];show if_pos #[hl,h]
def zP{ss:↑Str}(h:ss.Nodup)(hl:⇑ss<=100):tL .iQ [(k,.tup (ss.map .str))]≈lI (⇑ss:Nat):=by
 change tK _=_;unfold tK;have e:iC (.tup (ss.map U.str))≈aU ss:=by
  change(strsOf _).bind _=_;rw[cN];change(if ⇑ss+1<Q9 then _ else _)=_;rw[if_pos (by change ⇑ss+1<4096;lia)]
 rw[e];have b:=eG ss;have c:=fK h λx a=>(b_ ss x).mpr a
 grind
end TM
namespace K
open PySem L2 TM Mu
def L0(h:Run (ev Γ a) st (k,.bl c) st1):Run (ev Γ (.not a)) st (lB !c) st1:=ag h bu
def Jm{bs:↑Bool}(h:∀b∈bs,b=cb):Nm .all [(k,.lst (bs.map .bl))]≈lB cb:=by
 rw[l9];congr 3
 rw[nH];show h
def Di(h:eU (x.cps.toList)=cb):bt Γ kU [.str x]≈.ok (lB cb):=by
 have hsz:1000<=dt:=⋯
 have(a,j,b):=(bM _).mp h;have hl:⇑x<=8:=by assumption
 have d:x≠"":=λz=>by rw[z]at a;show absurd a ⋯
 let S:aK:=[bD (lS x)]
 have e:Run (Mn Γ (.or [.cmp .eq (.var 0) (.cst (.str "")),.cmp .gt (.bi .len [.var 0]) (.N8 "LONGEST_STEM" (.int 8))])) S cK S:=by
  show iD (bZ (aM (ae rfl) aq ttt ?_) (d5 (aM (bp (rs:=[(lS x)]) (r:=(lI ⇑x)) (aa (ae rfl) af) ttt ?_) lq ttt (gC (decide_eq_false ⋯)))))
  .rw[l7,decide_eq_false d]
  .change(if ⇑x<=dt then bD ⇑x else b6).map _=_
   grind
 have f:=cC (cond:=aQ Γ []) (elt:=ev Γ (.cmp .isin (.var 0) (.N8 "LETTERS" (.str "abcdefghijklmnopqrstuvwxyz")))) (src:=[(lS x)]) (st:=S) ttt .loc (.inl rfl) (λc =>U.str #[#v[c]]) (λ_=>U.bl cb) .loc (λ_=>cB) (x.cps.toList) [] (by grind)
  (λc g=>#[gU (c:=cb) (ae rfl) lq ttt (by
   change bD _=_;have:=uU "abcdefghijklmnopqrstuvwxyz" (by rfl) c;rw[show Up #[#v[c]] "abcdefghijklmnopqrstuvwxyz"=low c from this];have:=b c g;simp[low,this.1,this.2]),aG])
 have i:=by
  have:=Jm (k:=.own) (bs:=x.cps.toList.map λ_=>cb) ⋯;rw[fR]at this;show this
 show aw rfl (.inr rfl) (rfl) (eO e (λz=>by cases z) λ_=>bf (bp (aa (bx (rs:=[(lS x)]) (aa (ae rfl) af) ttt rfl f) af) ttt i) cy)
def zQ(b:2<=k)(c:k<=99):bt Γ dH [.str (iB k)]≈.ok (lB cb):=by
 have hsz:1000<=dt:=⋯
 let S:aK:=[bD (lS (iB k))]
 have a:=cC (cond:=aQ Γ []) (elt:=ev Γ (.bi .str [.var 0])) (src:=[(lI (1+1)),(lI (99+1))]) (st:=S) ttt .loc (.inl rfl) (λi:Nat=>U.int (2+i)) _ .loc (λ_=>cB) (fS 98) [] (by grind)
  (λi hi=>#[bp (aa (ae rfl) af) ttt (F2 ⋯ (by grind)),aG])
 rw[oa]at a;have e:((fS 98).map λi:Nat=>U.str (iB (2+i)))=((fS 98).map λi:Nat=>iB (2+i)).map U.str:=by rfl
 rw[e]at a;show aw rfl (.inr rfl) (rfl) (bf (gU  (ae rfl) (bx  (aa (cP lq aq ttt fU) (aa (cP lq aq ttt fU) af)) ttt rfl a) ttt ?_) cy);rw[Gy,decide_eq_true];show hW.mpr #[(k - 2).toNat,tj.mpr ⋯,by grind]
def Dj(a:fn=⟨fn.name,1,1,[.ret (.idx (.N9 .partition (.var 0) [.cst (.str "/")]) (cI n))]⟩)(hl:⇑x<=1000)(h:MB [U.str (td x "/").1,.str (td x "/").2.1,.str (td x "/").2.2] n≈.str y):bt Γ fn [.str x]≈.ok (lS y):=by
 have hsz:1000<=dt:=⋯
 have b:jH .partition (.str x) [(lS "/")]≈lT [.str (td x "/").1,.str (td x "/").2.1,.str (td x "/").2.2]:=by
  change(if (ė "/"==0)=cK/\⇑x<=dt then _ else _)=_;rw[if_pos #[by decide,⋯]]
 rw[a];show aw (st0:=[bD (lS x)]) rfl (.inr rfl) rfl (bf (aF (lr (ae rfl) (aa aq af) ttt b) aq ttt (c7 h)) cy)
abbrev j5(Γ:Tab):Prop:=∀x:Str,bI (x.cps.toList)->Γ "is_word" [.str x]≈.ok (lB cb)
def Dk(f:∀x,eU (x.cps.toList)=cb->Γ "is_stem" [.str x]≈.ok (lB cb))(i:∀k,2<=k->k<=99->Γ "is_later_sense" [.str (iB k)]≈.ok (lB cb))
    (hs:∀x y,⇑x<=1000->(td x "/").1=y->Γ "stem_of" [.str x]≈.ok (lS y)) (d:∀x y,⇑x<=1000->(td x "/").2.2=y->Γ "number_of" [.str x]≈.ok (lS y))
 (h:bI (x.cps.toList)):bt Γ kW [.str x]≈.ok (lB cb):=by
  have hl:⇑x<=11:=by rw[len_list];show h.len.2
  let S:aK:=[bD (lS x)]
  have c:Run (Mn Γ (.cmp .L6 (.cst (.str "/")) (.var 0))) S (!dV (47∈(x.cps.toList))) S:=aM aq (ae rfl) ttt (by
    change(bD (Up "/" x)).map _=_;rw[show Up "/" x=dV (47∈(x.cps.toList)) from F0 x 47];rfl)
  rcases h with h|⟨a,b,k,e,h,k2,j,q⟩
  . have d:47∉(x.cps.toList):=ju h
    rw[decide_eq_false d]at c;show aw rfl (.inr rfl) (show TM.start [.str x] 1=S from rfl) (rN c (bf (aB (aa (ae rfl) af) ttt (f x h)) cy))
  . rw[decide_eq_true (by rw[e];simp)]at c
    have g:=Mu.DV e (ju h);have l:⟨b.toArray⟩=iB k:=TM.eV ⋯;have m:=f #[a.toArray] (by simpa using h);have n:=hs x #[a.toArray] ⋯ (by rw[show("/":Str)=⟨#v[47]⟩ from rfl,g]);have o:=d x (iB k) ⋯ (by rw[show("/":Str)=⟨#v[47]⟩ from rfl,g];show l);show aw rfl (.inr rfl) (show TM.start [.str x] 1=S from rfl) (eO c (λz=>by cases z) λ_=>bf (B9 (vO (p:=cb) (aB (aa (aB (aa (ae rfl) af) ttt n) af) ttt m) (by rw[if_pos rfl];show vN (aB (aa (aB (aa (ae rfl) af) ttt o) af) ttt (i k k2 j))))) cy)
def qk(c:j5 Γ){ss:↑Str}(hs:∀x∈ss,bI (x.cps.toList))(hl:⇑ss<=1000)(h:Run (ev Γ e) st (k,u) st)(d:bB [(k,u)] st)(hk:k'=.loc\/k'=.any)(b:Nn .seq [(k,u)]≈(ss.map λx=>(k',U.str x))):Run (ev Γ (.bi .all [.comp 1 cK .seq [e] [] (.call "is_word" [.var 0])])) st (lB cb) st:=by
 have hsz:1000<=dt:=⋯
 have a:=cC (cond:=aQ Γ []) (elt:=ev Γ (.call _ [.var 0]))   d k' hk _ (λ_=>U.bl cb) .loc (λ_=>cB) ss [] (by grind)
  (λx a=>by
   rcases hk with rfl|rfl
   .show#[aB (aa (ae rfl) af) ttt (c x (hs x a)),aG]
   .show#[aB (aa (ay rfl) af) ttt (c x (hs x a)),aG])
 have f:=by
  have:=Jm (k:=.own) (bs:=ss.map λ_=>cb) ⋯;rw[fR]at this;show this
 show bp (aa (bx  (aa h af) d b a) af) ttt f
def F3(a:j5 Γ)(i:⇑r.2<=8)(c:r.2.Nodup)(d:bI (r.1.cps.toList))(e:∀x∈r.2,bI (x.cps.toList)):bt Γ oD [K' r]≈.ok (lB cb):=by
 have f:TM.start [K' r] 2=[bD (.loc,K' r),b6]:=by simp[TM.start,l0]
 let S:aK:=[bD (.loc,K' r),bD (lT (r.2.map .str))]
 have g:Run (Mn Γ (.or [.cmp .gt (.bi .len [.var 1]) (.N8 "MOST_TOLD" (.int 8)),.cmp .lt (.Pk .iQ [.var 1]) (.bi .len [.var 1])])) S cK S:=by
  have b:Run (ev Γ (.bi .len [.var 1])) S (lI ⇑r.2) S:=by
   have h:=bp (Γ:=Γ) (st:=S)  (es:=[.var 1]) (aa (ae rfl) af) ttt (de);simp_all
  show iD (bZ (aM b lq ttt (gC (decide_eq_false ⋯))) (d5 (aM (qa (aa (ae rfl) af) ttt (zP c ⋯)) b ttt (gX (decide_eq_false ⋯)))))
 show aw rfl (.inr rfl) f (aA (aF  (ae rfl) aq ttt rfl) aX (eO g (λz=>by cases z) λ_ =>
  bf (B9 (vO  (aB (aa (aF  (ae rfl) aq ttt rfl) af) ttt (a r.1 d)) (by show vN (qk a e ⋯ (ae rfl) ttt (.inl rfl) (by change bD _=_;rw[fR];rfl))))) cy))
def F4(h:⇑r.2<64):bt Γ dr [K' r]≈.ok (.loc,K' (keyOf r)):=by
 have a:=sorted_strs (k:=.loc) (ss:=r.2) h;have j0:fC (.loc,K' r) (.int 0)≈lS r.1:=rfl;have b:fC (.loc,K' r) (.int 1)≈lT (r.2.map .str):=rfl;apply aw (st0:=[bD (.loc,K' r)]) rfl (.inr rfl) (by simp[TM.start,l0,dr])
 repeat' (first|show j0|show b|show a|show(by decide:2<=dt)|sizeOf_list_dec)
def wy(ho:∀r,⇑r.2<64->Γ "in_one_order" [K' r]≈.ok (.loc,K' (keyOf r)))(b:∀r∈rows,⇑r.2<=8)(hl:⇑rows<=64)(hk:(rows.map keyOf).Nodup):bt Γ dJ [tR rows]≈.ok (lB cK):=by
 have hsz:1000<=dt:=⋯
 let S:aK:=[bD (.loc,tR rows)]
 have c:TM.start [tR rows] 1=S:=by simp[TM.start,Mr,aI,S]
 have a:=cC (cond:=aQ Γ []) (elt:=ev Γ (.call "in_one_order" [.var 0])) (src:=[(.loc,tR rows)]) (st:=S) ttt .loc (.inl rfl) K' (λr=>K' (keyOf r)) .loc (λ_=>cB) rows [] ⋯
  (λr d=>#[aB (aa (ae rfl) af) ttt (ho r (by have:=b r d;lia)),aG])
 rw[oa]at a;have e:(rows.map λr=>K' (keyOf r))=(rows.map keyOf).map K':=by rw[fR];rfl
 rw[e]at a;have g:=zO (k:=.own) hk (by rw[df];show hl);have i:Run (ev Γ (.bi .len [.var 0])) S (lI ⇑rows) S:=by
  have h:=bp (Γ:=Γ) (st:=S) (f:=.len) (es:=[.var 0]) (aa (ae rfl) af) ttt (de (xs:=rows.map K'));rw[df]at h;show h
 have j:Nn .seq [(.loc,tR rows)]≈(rows.map λr=>(Kd.loc,K' r)):=by change bD _=_;rw[fR];rfl
 show aw rfl (.inr rfl) c (bf (gU (qa (aa (bx (rs:=[(.loc,tR rows)]) (aa (ae rfl) af) ttt j a) af) ttt g) i ttt (gX (by rw[df];simp))) cy)
def Dl(b:∀r∈rows,Γ "is_row" [K' r]≈.ok (lB cb))(d:Γ "has_alike_rows" [tR rows]≈.ok (lB cK))(hl:⇑rows<=60):bt Γ wt [tR rows]≈.ok (lB cb):=by
 have hsz:1000<=dt:=⋯
 let S:aK:=[bD (.loc,tR rows)]
 have e:TM.start [tR rows] 1=S:=by simp[TM.start,Mr,aI,S]
 have a:=cC (cond:=aQ Γ []) (elt:=ev Γ (.call "is_row" [.var 0])) (src:=[(.loc,tR rows)]) (st:=S) ttt .loc (.inl rfl) K' (λ_=>U.bl cb) .loc (λ_=>cB) rows [] ⋯
  (λr h=>#[aB (aa (ae rfl) af) ttt (b r h),aG])
 rw[oa]at a;have f:Nm .all [(oL (rows.map λ_=>U.bl cb))]≈lB cb:=by
  have:=Jm (k:=.own) (bs:=rows.map λ_=>cb) ⋯;rw[fR]at this;show this
 have g:Nn .seq [(.loc,tR rows)]≈(rows.map λr=>(Kd.loc,K' r)):=by change bD _=_;rw[fR];rfl
 have i:Run (Mn Γ (.cmp .gt (.bi .len [.var 0]) (.N8 "MOST_ROWS" (.int 60)))) S cK S:=aM (bp (aa (ae rfl) af) ttt de) lq ttt (gC (decide_eq_false (by rw[df];lia)));show aw rfl (.inr rfl) e (eO i (λz=>by cases z) λ_=>bf (B9 (vO (p:=cb) (bp (aa (bx (rs:=[(.loc,tR rows)]) (aa (ae rfl) af) ttt g a) af) ttt f) (by rw[if_pos rfl];show vN (L0 (c:=cK) (aB (aa (ae rfl) af) ttt d))))) cy)
def wz(a:Γ "fits" [tR rows]≈.ok (lB cb)):bt Γ oE [tR rows]≈.ok (.loc,tR rows):=by
 let S:aK:=[bD (.loc,tR rows)]
 have b:TM.start [tR rows] 1=S:=by simp[TM.start,Mr,aI,S]
 show aw rfl (.inr rfl) b (eO (fH (c:=cb) (om (aa (ae rfl) af) ttt a rfl)) (λz=>by cases z) λ_=>bf (ae rfl) cy)
end K
namespace TM
open PySem L2 Mu
theorem yB:∀{ss:↑Str},(∀x∈ss,⇑x<=n)->(ss.map (·.length)).sum<=n * ⇑ss
 |[],_=>lx _
 |x::ss,h=>by
  have:=yB λy a=>h y (ke _ a);have:=h x kj;rw[gr,Yy,nz,Nat.mul_succ];lia
def mw(h:∀x∈ss,⇑x<=n)(hs:⇑sep=1)(hl:(n+1) * ⇑ss<=1000000):Å sep ss=cb/\⇑(Q2 sep ss)<=(n+1) * ⇑ss:=by
 have a:=yB h;show#[aao (by grind),?_];change(Ġ sep ss).length<=_;rw[Ğ];have:=StrLaws.join_length_le sep ss
 grind
def uL(h:Å sep ss=cb):jH .join (.str sep) [(k,.lst (ss.map .str))]≈lS (Q2 sep ss):=by
 change(strsOf (ss.map U.str)).bind _=_;rw[cN];change(if Å sep ss=cb then _ else _)=_;rw[if_pos h]
def ql(hs:⇑sep=1)(hl:⇑x<=1000000)(e:RG x sep=ss):jH .split (.str x) [(k,.str sep)]≈oL (ss.map .str):=by
 change(if (⇑sep==0)=cK/\⇑x+2<=dt then bD _ else b6)=_;have hz:1000002<=dt:=⋯
 rw[if_pos #[by rw[hs];rfl,⋯],e]
def zR:bJ .eq (.tup (ss.map U.str)) (.tup [])≈dV (ss=[]):=by
 simp only[bJ];rw[if_pos #[by simp[M8,eD],by simp[M8,gf]]];cases ss<;>simp[cq,cX]
abbrev tl(r:Row):↑Str:=if r.2=[] then [("*":Str)] else r.2
abbrev bw(r:Row):Str:=r.1++(" = ":Str)++Q2 " " (tl r)
structure RowW(r:Row):Prop where
 NF:⇑r.2<=8
 once:r.2.Nodup
 w1:bI (r.1.cps.toList)
 w2:∀x∈r.2,bI (x.cps.toList)
def g_(h:RowW r):1<=⇑(tl r)/\⇑(tl r)<=8:=by
 unfold tl;split
 .simp
 .rename_i z;show#[Ŵ λe=>z (Tg e),h.NF]
def Dm(h:RowW r):∀x∈tl r,(x.cps.toList)≠[]/\⇑x<=11/\∀c∈(x.cps.toList),42<=c:=by
 intro x a;unfold tl at a;split at a
 .rw[nc.mp a];show#[by decide +kernel,by decide +kernel,by decide +kernel]
 .have b:=h.w2 x a;have:=b.len;show#[λz=>by simp_all,by show this.2,λc d=>by have:=su b c d;lia]
def j6(h:RowW r):∀x∈r.1::("=":Str)::tl r,(x.cps.toList)≠[]/\⇑x<=11/\∀c∈(x.cps.toList),42<=c:=by
 intro x hx;rcases f6.mp hx with rfl|hx
 .have:=h.w1.len;show#[λz=>by simp_all,by show this.2,λc a=>by have:=su h.w1 c a;lia]
 .rcases f6.mp hx with rfl|hx
  .show#[by decide +kernel,by decide +kernel,by decide +kernel]
  .show Dm h x hx
def qm(h:RowW r):bw r=Q2 #[#v[32]] (r.1::("=":Str)::tl r):=by
 show TM.eV ?_;have e:((Q2 " " (tl r)).cps.toList)=jl 32 _:=fe 32 _;rw[bw,gq,gq,e,fe];have hl:=(g_ h).1;cases q:tl r with
 |nil=>simp_all
 |cons y a =>
  rw[T5];rfl
def wA(h:RowW r):RG (bw r) #[#v[32]]=r.1::("=":Str)::tl r:=by
 rw[qm h];show oM (õ _ _) (λx a=>(j6 h x a).1) λx a b=>by have:=(j6 h x a).2.2 32 b;lia
theorem Dn:∀{xs},d∈jl c xs->d=c\/∃x∈xs,d∈(x.cps.toList)
 |[],h=>by cases h
 |[x],h=>.inr #[x,by simp,h]
 |x::y::r,h=>by
  rcases ki.mp h with h|h
  .show .inr #[x,by simp,h]
  .rcases f6.mp h with h|h
   .show .inl h
   .rcases Dn h with h|⟨z,a,b⟩
    .show .inl h
    .show .inr #[z,ke _ a,b]
def j7(h:RowW r):((bw r).cps.toList)≠[]/\⇑(bw r)<=120/\∀c∈((bw r).cps.toList),32<=c:=by
 have e:=mw (sep:=#[#v[32]])   (λx f=>(j6 h x f).2.1) rfl (by have:=(g_ h).2;grind);rw[qm h];show#[λz=>?_,H8 e.2 (by have:=(g_ h).2;grind),λc d=>?_]
 .rw[fe]at z;show absurd z (by change (r.1.cps.toList)++32::_≠[];simp)
 .rw[fe]at d;rcases Dn d with rfl|⟨x,a,b⟩
  .simp
  .have:=(j6 h x a).2.2 c b;lia
abbrev textOf(rows:↑Row):Str:=Q2 #[#v[10]] (rows.map bw)
def uM(h:∀r∈rows,RowW r)(hl:⇑rows<=60):Å ⟨#v[10]⟩ (rows.map bw)=cb/\⇑(textOf rows)<=10000:=by
 have a:=mw (sep:=#[#v[10]])   (λx b=>by
  have(r,c,rfl):=hW.mp b;show(j7 (h r c)).2.1) rfl (by grind)
 show#[a.1,H8 a.2 (by grind)]
def wB(h:∀r∈rows,RowW r)(c:rows≠[]):RG (textOf rows) ⟨#v[10]⟩=rows.map bw:=by
 show oM (by simpa using c) (λx a=>?_) λx a d=>?_
 .have(r,b,rfl):=hW.mp a;show(j7 (h r b)).1
 .have(r,b,rfl):=hW.mp a;have:=(j7 (h r b)).2.2 10 d;lia
def F5(h:∀r∈rows,RowW r)(a:rows≠[]):textOf rows≠"":=λz=>by
 have hz:((textOf rows).cps.toList)=[]:=by rw[z];rfl
 cases rows with
 |nil=>show a rfl
 |cons r rs =>
  have:((textOf (r::rs)).cps.toList)=jl 10 _:=fe 10 _;rw[this]at hz;have hl:=(j7 (h r ⋯)).1;cases rs with
  |nil=>show hl hz
  |cons s rs=>show absurd hz (by change(bw r).cps.toList++10::_≠[];simp)
end TM
namespace K
open PySem L2 TM Mu
def uN:bJ .ne (.str a) (.str a)≈cK:=cO rfl
def Dp(ss:↑Str):Mr (.tup (ss.map U.str))=cb:=by simp[Mr,kJ]
def zS(d:j5 Γ)(h:RowW r):bt Γ gZ [.lst ((tl r).map .str)]≈.ok (lT (r.2.map .str)):=by
 let S:aK:=[bD (aL ((tl r).map .str))]
 have c:TM.start [.lst _] 1=S:=rfl;have b:Run (Mn Γ (.cmp .eq (.var 0) (.lst [.N8 "PICTURE_SIGN" (.str "*")]))) S _ S :=
  aM (y:=(oL ([("*":Str)].map .str))) (ay rfl) (bY (aa lq af) ttt (aC aG aN) ⋯) ttt ui
 by_cases e:r.2=[]
 .have a:tl r=[("*":Str)]:=by unfold tl;rw[if_pos e]
  rw[decide_eq_true a]at b;rw[e];show aw rfl (.inr rfl) c (rN b (bf (fG af ttt aN (lx _)) cy))
 .have a:tl r=r.2:=by unfold tl;rw[if_neg e]
  have f:tl r≠[("*":Str)]:=λz=>by
   have g:("*":Str)∈r.2:=by rw[<-a,z];simp
   show absurd (su (h.w2 _ g) 42 (by decide +kernel)) ⋯
  rw[decide_eq_false f]at b;have i:∀x∈tl r,bI (x.cps.toList):=by rw[a];show h.w2
  have j:=qk d (st:=S) (e:=.var 0)    i (by have:=(g_ h).2;lia) (ay rfl) ttt (.inr rfl) (by change bD _=_;rw[fR];rfl);rw[<-a];show aw rfl (.inr rfl) c (eO b (λz=>by cases z) λ_=>eO (fH  (jf j)) (λz=>by cases z) λ_=>bf (bp  (aa (ay rfl) af) ttt rfl) (Gr (Dp (tl r))))
def Dq(b:j5 Γ)(h:RowW r)(d:Γ "read_told" [.lst ((tl r).map .str)]≈.ok (lT (r.2.map .str))):bt Γ jo [.str (bw r)]≈.ok (.loc,K' r):=by
 have hsz:1000<=dt:=⋯
 let L:=r.1::"="::tl r;let S:aK:=[bD (lS (bw r)),bD (oL (L.map .str))]
 have e:jH .split (.str (bw r)) [(lS " ")]≈oL (L.map .str):=ql rfl (by have:=(j7 h).2.1;lia) (wA h);have f:MB (L.map U.str) 0≈.str r.1:=by show b7 rfl
 have g:MB (L.map U.str) 1≈.str "=":=by change MB _ 1=_;show b7 rfl
 have a:Run (ev Γ (.idx (.var 1) (cI 0))) S (lS r.1) S:=aF (au rfl) aq ∅ (a9 f);have i:Run (Mn Γ (.or [.cmp .lt (.bi .len [.var 1]) (cI 3),.not _,.cmp .ne (.idx (.var 1) (cI 1)) (.cst (.str "="))])) S cK S :=
  iD (bZ (aM (bp (aa (au rfl) af) ∅ dN) aq ttt (gX (decide_eq_false (by
   have:=(g_ h).1;rw[df]
   grind)))) (bZ (fH (c:=cb) (om (aa a af) ttt (b r.1 h.w1) rfl)) (d5 (aM (aF (au rfl) aq ∅ (a9 g)) aq ttt uN))))
 have j:oZ (.bor 1,.lst (L.map .str)) (bD 2) b6≈oL ((tl r).map .str):=by
  change bD (oL (cut (L.map U.str) (bD (2:Nat)) b6))=_;unfold cut;rw[HT.qw,HT.Ah,OL ⋯];rfl
 show aw rfl (.inr rfl) (rfl) (aA (lr (ae rfl) (aa aq af) ttt e) bh (eO i (λz=>by cases z) λ_ =>
  bf (fG (aa a (aa (aB (aa (xW (au rfl) (xV aq) xU ∅ j) af) ttt d) af)) ttt (aC aG (aC aG aN)) (by change 2<=dt;lia)) cy))
def run_read(h:∀r∈rows,RowW r)(hl:⇑rows<=60)(d:∀r∈rows,Γ "read_row" [.str (bw r)]≈.ok (.loc,K' r))(f:Γ "fitted" [tR rows]≈.ok (.loc,tR rows)):bt Γ wu [.str (textOf rows)]≈.ok (.loc,tR rows):=by
 have hsz:1000<=dt:=⋯
 let S:aK:=[bD (lS (textOf rows))]
 have b:Run (Mn Γ (.not (.Pn (.var 0) .str))) S cK S:=fH (c:=cb) (um (ae rfl) rfl);have a:Run (Mn Γ (.cmp .eq (.var 0) (.cst (.str "")))) S (dV (textOf rows="")) S:=aM (ae rfl) aq ttt l7;by_cases e:rows=[]
 .subst e;show aw rfl (.inr rfl) (rfl) (eO b (λz=>by cases z) λ_=>rN a (bf (fG af ttt aN (lx _)) cy))
 .rw[decide_eq_false (F5 h e)]at a;have g:jH .split (.str (textOf rows)) [(lS "\n")]≈_:=ql rfl (by have:=(uM h hl).2;lia) (wB h e);have i:=cC (cond:=aQ Γ []) (elt:=ev Γ (.call "read_row" [.var 0])) (src:=[(oL ((rows.map bw).map .str))]) (st:=S) ttt .loc (.inl rfl) (λr=>U.str (bw r)) K' .loc (λ_=>cB) rows [] (by grind)
   (λr j=>#[aB (aa (ae rfl) af) ttt (d r j),aG])
  have k:Nn .seq [(oL ((rows.map bw).map .str))]≈(rows.map λr=>(lS (bw r))):=by change bD _=_;rw[fR,fR];rfl
  show aw rfl (.inr rfl) (rfl) (eO b (λz=>by cases z) λ_=>eO a (λz=>by cases z) λ_=>bf (aB (aa (bp  (aa (bx  (aa (lr (ae rfl) (aa aq af) ttt g) af) ttt k i) af) ttt rfl) af) ttt f) cy)
def L4(h:RowW r)(c:Run (ev Γ a) st (lS r.1) st)(d:Run (ev Γ b) st (lS (Q2 " " (tl r))) st):Run (ev Γ (.bin .add (.bin .add a (.cst (.str " = "))) b)) st (lS (bw r)) st:=by
 have hsz:1000<=dt:=⋯
 have f:=mw (sep:=" ")   (λx e=>(Dm h x e).2.1) rfl (by have:=(g_ h).2;lia);have g:=(g_ h).2;have i:⇑r.1<=11:=by show h.w1.len.2
 have j:⇑(" = ":Str)=3:=by rfl
 show cP (cP c aq ttt (jR ⋯)) d ttt (jR (by rw[str_len];lia))
def Dr(h:∀r∈rows,RowW r)(hl:⇑rows<=60):bt Γ jq [tR rows]≈.ok (lS (textOf rows)):=by
 have hsz:1000<=dt:=⋯
 let a:Sl:=bD (.loc,tR rows);have l:TM.start [tR rows] 4=[a,b6,b6,b6]:=by simp[TM.start,Mr,aI,a]
 let S:=λ(m:↑Str) o3 o4=>[a,bD (oL (m.map .str)),o3,o4]
 have(st',run,_,o3,o4,e):=bL (t:=cb) (is:=[2,3]) (body:=execs Γ loB) (rs:=[(.loc,tR rows)]) (λr =>(Kd.loc,K' r))
  (λd r st=>d++r=rows/\∃o3 o4,st=S (d.map bw) o3 o4) (λ_ _ _ _=>ttt) (λd r j st o=>by
   have(p,o3,o4,e):=o;subst e;have g:r∈rows:=by rw[<-p];simp
   have B:⇑d<=60:=by grind
   have b:=h r g;let c:Sl:=bD (lS r.1);let f:Sl:=bD (lT (r.2.map .str));have q:=mw (sep:=" ") (n:=11) (ss:=tl r) (λx s=>(Dm b x s).2.1) rfl (by have:=(g_ b).2;lia);let T:=S (d.map bw) c f;have v:Run (ev Γ (.bi .int [.cmp .eq (.var 3) (.tup [])])) T (lI (if dV (r.2=[])=cb then 1 else 0)) T:=bp (aa (gU (ae rfl) (fG af ttt aN (lx _)) ttt zR) af) ttt rfl;have w:Run (ev Γ (.bin .mul (.lst [.cst (.str "*")]) (.bi .int [.cmp .eq (.var 3) (.tup [])]))) T (oL ((if r.2=[] then [("*":Str)] else []).map .str)) T:=by
    show cP (bY (aa aq af) ttt (aC aG aN) (by grind)) v ttt ?_;by_cases e:r.2=[]
    .rw[decide_eq_true e,if_pos rfl,if_pos e];rfl
    .rw[decide_eq_false e,if_neg qp,if_neg e];rfl
   have y:Run (ev Γ (.bin .add (.bi .list [.var 3]) (.bin .mul (.lst [.cst (.str "*")]) (.bi .int [.cmp .eq (.var 3) (.tup [])])))) T (oL ((tl r).map .str)) T:=by
    show cP (bp (r:=(oL (r.2.map .str))) (aa (ae rfl) af) ttt rfl) w ttt ?_;have C:=b.NF;rw[uo (by grind) rfl rfl,<-mh];congr 4
    unfold tl;by_cases e:r.2=[]
    .simp_all
    simp_all
   have z:=L4 b (ae (i:=2) (st:=T) rfl) (lr (Γ:=Γ) (aq (u:=.str " ")) (aa y af) ttt (uL q.1));have em:((d++[r]).map bw).map U.str=(d.map bw).map U.str++[.str (bw r)]:=⋯
   show#[T,S ((d++[r]).map bw) c f,e_ (.inl rfl),?_,by simp_all,c,f,rfl];change Run _ _ _ [a,bD (oL (((d++[r]).map bw).map .str)),c,f];rw[em];show jQ (k:=.own) (k':=.own) (r:=(lS (bw r))) (us:=(d.map bw).map .str) rfl z aG rfl rfl (by grind) ao) rows [] (S [] b6 b6) ⟨rfl,b6,b6,rfl⟩
 subst e;rw[oa]at run;have A:Nn .seq [(.loc,tR rows)]≈(rows.map λr=>(Kd.loc,K' r)):=by change bD _=_;rw[fR];rfl
 show aw rfl (.inr rfl) l (aA (r:=(oL [])) (bY af ttt aN (lx _)) bh (bV (rs:=[(.loc,tR rows)]) (st1:=S [] b6 b6) (aa (ae rfl) af) ttt A rfl run (bf (lr aq (aa (au rfl) af) ∅ (uL (uM h hl).1)) cy)))
section
variable{Γ:Tab}{c:Str->Int}{ks:List Str}
def F6:gb (ks.map (M' c))=cb:=by
 induction ks with
 |nil=>rfl
 |cons k ks a=>assumption
def F7:M8 50 (.lst (ks.map (M' c)))=cb:=by
 induction ks with
 |nil=>rfl
 |cons k ks a=>assumption
def wC(a:ks.Nodup)(hl:⇑ks<64)(hs:aD ks=ks):Nm .sorted [(aL (ks.map (M' c)))]≈oL (ks.map (M' c)):=by
 have h:=so c hl a;rw[hs]at h;rw[<-h];cases ks with
 |nil=>rfl
 |cons b d =>
  generalize e:b::d=ks at hl a;have f:strsOf (ks.map (M' c))=b6:=by subst e;rfl
  change nI .any _=nI .own _;unfold nI;rw[f];unfold Bd;rw[mj];change(if _ then _ else _)=(if _ then _ else _)
  rw[if_pos #[hl,a,by simp[fB,F6]],if_pos #[hl,a,rfl]]
def Jn(b:ks.Nodup)(hl:⇑ks<64)(hs:aD ks=ks):bt Γ eQ [.lst (ks.map (M' c))]≈.ok (.own,.J' ks (ks.map λx=>.int (c x))):=by
 let S:=λo =>[bD (aL (ks.map (M' c))),o]
 have(st',run,o,e):=bL (t:=cK) (is:=[1]) (body:=execs Γ bPo) (rs:=[(aL _)]) _ (λ_ _ st=>∃o,st=S o) (λ_ _ _ _=>ttt) (λd x r st g=>by
  have(o,e):=g;subst e;let a:Sl:=bD (.any,M' c x);have f:Run (ev Γ (.idx (.var 1) (cI 1))) (S a) _ (S a):=aF (ay rfl) aq ttt rfl;show#[S a,S a,dC iM,aV (iD (bZ (fH (c:=cb) (um (ay rfl) rfl)) (bZ (aM (bp (aa (ay rfl) af) ttt de) aq ttt rfl) (bZ (fH (c:=cb) (um f rfl)) (d5 (um f rfl)))))) ao ao,a,rfl]) ks [] (S b6) ⟨b6,rfl⟩
 subst e;have h:Nn .seq [(aL (ks.map (M' c)))]≈(ks.map λx=>(Kd.any,M' c x)):=by change bD _=_;rw[fR];rfl
 have i:TM.start [.lst _] 2=S b6:=rfl;have j:Run (Mn Γ (.or [.not (.Pn (.var 0) .list),.cmp .ne (.var 0) (.bi .sorted [.var 0]),.cmp .lt (.bi .len [.bi .dict [.var 0]]) (.bi .len [.var 0])])) (S b6) cK (S b6) :=
  iD (bZ (fH (c:=cb) (um (ay rfl) rfl)) (bZ (aM (ay rfl) (bp (aa (ay rfl) af) ttt (wC b hl hs)) ttt (cO F7)) (d5 (aM (bp  (aa (bp (aa (ay rfl) af) ttt (mr c b)) af) ttt rfl) (bp (aa (ay rfl) af) ttt dN) ttt (gX ⋯)))))
 show aw rfl (.inl rfl) i (aV j ao (bV  (st1:=S b6) (aa (ay rfl) af) ttt h rfl run (bf (bp (aa (ay rfl) af) ttt (mr c b)) eN)))
end
abbrev dI(c:Str->Int)(ks:↑Str):U:=.J' ks (ks.map λx=>.int (c x))
abbrev fI(c:Str->Int)(ks:↑Str):U:=.NI ks (ks.map λx=>.int (c x))
theorem Ds(c:Str->Int):∀ks:↑Str,gb (ks.map λx=>U.int (c x))=cb
 |[]=>rfl
 |_::ks=>by rw[gr,gb,Ds c ks];rfl
def K6(h:x∈ks):fC (.loc,fI c ks) (.str x)≈lI (c x):=by
 change(cu ks _ x).map _=_;rw[di,if_pos h];rfl
def Dt(h:x∈ks):fC (.any,dI c ks) (.str x)≈(.any,.int (c x)):=by
 change(cu ks _ x).map _=_;rw[di,if_pos h];rfl
def GG{told:↑Str}(hl:⇑told<=1000)(hi:st[i]?≈bD (lT (told.map .str)))(a:∀x∈told,Run (ev Γ (.idx (.var (j+1)) (.var 0))) (bD (lS x)::st) (k,.int (c x)) (bD (lS x)::st)/\Run (lift (k,.int (c x))) (bD (lS x)::st) (.int (c x)) (bD (lS x)::st)):
  Run (ev Γ (.bin .add (cI 1) (.bi .sum [.comp 1 cK .seq [.var i] [] (.idx (.var (j+1)) (.var 0))]))) st (lI (1+(told.map c).sum)) st:=by
 have b:1000<=dt:=⋯
 have d:=cC (cond:=aQ Γ []) (src:=[(lT (told.map .str))])  ttt .loc (.inl rfl) _ _ k (λ_=>cB) told [] ⋯ a;show cP aq (bp (aa (bx  (aa (ae hi) af) ttt ym d) af) ttt (sum_ints _ _)) ttt fU
def Du{told:↑Str}(hl:⇑told<=1000)(a:∀x∈told,x∈ks)(hi:st[i]?≈bD (lT (told.map .str)))(d:st[j]?≈bD (.any,dI c ks)):
  Run (ev Γ (.bin .add (cI 1) (.bi .sum [.comp 1 cK .seq [.var i] [] (.idx (.var (j+1)) (.var 0))]))) st (lI (1+(told.map c).sum)) st :=
 GG hl hi λy b=>#[aF (ay  (by assumption)) (ae rfl) ttt (Dt (a y b)),gW rfl]
def Jo(hr:⇑rs<=84)(C:∀r∈rs,⇑r.2<=8)(g:∀x,x∈ks↔x∈s.1)(D:⇑ks<64)(hs:Qr rs s)(I:NK rs s b):bt Γ cj [tR rs,dI s.2 ks,fI b ks]≈.ok (lB cb):=by
 let S:=λ(o3 o4 o5:Sl)=>[bD (.loc,tR rs),bD (.any,dI s.2 ks),bD (.loc,fI b ks),o3,o4,o5]
 have G:∀{told:↑Str} {o3 o4:Sl},⇑told<=8->Run (Mn Γ (.bi .all [.comp 1 cK .seq [.var 5] [] (.cmp .isin (.var 0) (.var 2))])) (S o3 o4 (bD (lT (told.map .str)))) (told.all λx=>dV (x∈ks)) (S o3 o4 (bD (lT (told.map .str)))):=λ{told o3 o4} h=>jf (iw (Γ:=Γ) (st:=S o3 o4 (bD (lT (told.map .str)))) (src:=.var 5) (j:=1) (told:=told) (known:=ks) (k:=.any) (w:=dI s.2 ks) (.inr rfl) ⋯ (ae rfl) (.inl rfl) λx=>kL);have(st1,J,_,o3,o4,o5,e):=bL (t:=cK) (is:=[3]) (body:=execs Γ K3) (rs:=[(lI (⇑rs:Nat))]) (λi:Nat=>(lI (0+(i:Int)))) (λd r st=>d++r=fS ⇑rs/\∃o3 o4 o5,st=S o3 o4 o5) (λ_ _ _ _=>ttt) (λd i r st o=>by
  have(p,o3,o4,o5,e):=o;subst e;have hi:i<⇑rs:=tj.mp (by rw[<-p];simp);obtain⟨q,H⟩:∃q,rs[i]?≈q:=#[_,nC hi]
  have l:=k8 H;let T:=S (bD (lI (0+(i:Int)))) (bD (lS q.1)) (bD (lT (q.2.map .str)));have m:Run (ev Γ (.idx (.var 0) (.var 3))) (S (bD (lI (0+(i:Int)))) o4 o5) (.loc,K' q) (S (bD (lI (0+(i:Int)))) o4 o5):=aF (ae rfl) (ae rfl) ttt (c7 (k:=.loc) (by rw[Zm];show jW H));have n:=G (o3:=bD (lI (0+(i:Int)))) (o4:=bD (lS q.1)) (C q l);show#[_,T,aX,CF m (e_ (.inl rfl)) ?_,by simp_all,_,_,_,rfl];show eO n (λz=>?_) λ_=>ao;have f:∀x∈q.2,x∈ks:=λx a=>by simpa using nH.mp z x a
  have u:=hs.le l λx a=>(g x).mp (f x a);have L:q.1∈ks:=(g _).mpr (hs.closed q l λx a=>(g x).mp (f x a));show aV (aM (aF (ay rfl) (ae rfl) ttt (Dt L)) (Du (st:=T) (i:=5) (j:=1) (by grind) f rfl rfl) ttt (gC (by simpa[MU] using u))) ao ao) (fS ⇑rs) [] (S b6 b6 b6) ⟨rfl,b6,b6,b6,rfl⟩
 subst e;have(st2,N,_,p3,p4,p5,e):=bL (t:=cK) (is:=[4]) (body:=execs Γ K4) (rs:=[(.loc,fI b ks)]) (λx:Str=>(lS x)) (λd r st=>d++r=ks/\∃o3 o4 o5,st=S o3 o4 o5) (λ_ _ _ _=>ttt) (λd x r st o=>by
  have(p,o3,o4,o5,e):=o;subst e;have a:x∈ks:=by rw[<-p];simp
  have(i,q,O,v,Q,Y,h5):=I.best hs ((g x).mp a);have hi:i<⇑rs:=(eH.mp v).1;have l:=k8 v;let T:=λo5=>S (bD (lI i)) (bD (lS x)) o5;have g0:Run (ev Γ (.idx (.var 2) (.var 4))) (S o3 (bD (lS x)) o5) (lI i) (S o3 (bD (lS x)) o5):=by
   have:=K6 (c:=b) a;rw[O]at this;show aF (ae rfl) (ae rfl) ttt this
  have m:∀o5,Run (ev Γ (.idx (.var 0) (.var 3))) (T o5) (.loc,K' q) (T o5):=λo5=>aF (ae rfl) (ae rfl) ttt (c7 (k:=.loc) (jW v));have n:=G (o3:=bD (lI i)) (o4:=bD (lS x)) (C q l);have f:∀y∈q.2,y∈ks:=λy A=>(g y).mpr (Y y A);rw[nH.mpr λy A=>decide_eq_true (f y A)]at n;show#[_,T (bD (lT (q.2.map .str))),aX,aA g0 aX (aV (iD (bZ (aM (ae rfl) aq ttt (gX ⋯)) (bZ (aM (ae rfl) (bp (aa (ae rfl) af) ttt de) ttt (CG (by simpa using hi))) (d5 (aM (aF (m _) aq ttt rfl) (ae rfl) ttt (by rw[Q];show cO rfl)))))) ao (aA (aF (m _) aq ttt rfl) aX (aV (iD (bZ (fH (c:=cb) n) (d5 (aM (aF (ay rfl) (ae rfl) ttt (Dt a)) (Du (st:=T (bD (lT (q.2.map .str)))) (i:=5) (j:=1) (by grind) f rfl rfl) ttt (wc (by simp[h5,MU])))))) ao ao))),by simp_all,_,_,_,rfl]) ks [] (S o3 o4 o5) ⟨rfl,o3,o4,o5,rfl⟩
 subst e;have L8:TM.start [tR rs,dI s.2 ks,fI b ks] 6=S b6 b6 b6:=by
  simp[TM.start,Mr,aI,dI,fI,S,Ds]
 have YF:∀c ,Nm .sorted [(.any,dI c ks)]≈oL ((aD ks).map .str):=λc=>by
  change(if ⇑ks<64 then bD (oL ((aD ks).map .str)) else b6)=_;rw[if_pos D]
 have B:Nm .sorted [(.loc,fI b ks)]≈oL ((aD ks).map .str):=by
  change(if ⇑ks<64 then bD (oL ((aD ks).map .str)) else b6)=_;rw[if_pos D]
 have ei:Nn .seq [(.loc,fI b ks)]≈(ks.map λx=>(lS x)):=rfl;show aw rfl (.inr rfl) L8 (bV (rs:=[(lI ⇑rs)]) (st1:=S b6 b6 b6) (aa (bp (aa (ae rfl) af) ttt (by rw[de,df])) af) ttt (kF ⋯) rfl J (aV (aM (bp (aa (ae rfl) af) ttt B) (bp (aa (ay rfl) af) ttt (YF s.2)) ttt (cO (by simp[M8,eD]))) ao (bV (rs:=[(.loc,fI b ks)]) (st1:=S o3 o4 o5) (aa (ae rfl) af) ttt ei rfl N (bf aq cy))))
abbrev zT(rs:↑Row)(a:↑U)(P:↑Str)(o3 o4 o5 o6:Sl):aK:=[bD (.loc,tR rs),bD (aL a),bD (oL (P.map .str)),o3,o4,o5,o6]
def Dv{p:Nat}(h:rs[p]?≈r)(hl:⇑P+⇑r.2<100000):
  ∃e f g,Run (execs Γ YE) (zT rs d (P++r.2) (bD (.any,.int (p:Int))) o4 o5 o6) .nx (zT rs d (P++[r.1]) (bD (.any,.int (p:Int))) e f g):=by
 have i:200000<=dt:=⋯
 have o:=(eH.mp h).1;let S:Sl->aK:=λo6=>zT rs d (P++r.2) (bD (.any,.int p)) (bD (lS r.1)) (bD (lT (r.2.map .str))) o6;have j:Run (ev Γ (.idx (.var 0) (.var 3))) (zT rs d (P++r.2) _ o4 o5 o6) (.loc,K' r) _:=aF (ae rfl) (ay rfl) ttt (c7 (k:=.loc) (jW h));have l:Run (ev Γ (.bin .sub (.bi .len [.var 2]) (.bi .len [.var 5]))) (S o6) (lI ⇑P) (S o6):=cP (bp (aa (au rfl) af) ∅ dN) (bp (aa (ae rfl) af) ttt de) ttt (by rw[TM.mH];simp);have m:Run (ev Γ (.bi .tuple [.Pj (.var 2) [.var 6] []])) (S (bD (lI ⇑P))) (lT (r.2.map .str)) (S (bD (lI ⇑P))):=by
  have:=x9 (k:=.bor 2) (ss:=P++r.2) (lo:=bD ⇑P) (hi:=b6) rfl;rw[C1]at this;show bp (aa (xW (au rfl) (xV (ae rfl)) xU ∅ this) af) ttt rfl
 have n:Run (ev Γ (.bin .add (.Pj (.var 2) [] [.var 6]) (.lst [.var 4]))) (S (bD (lI ⇑P))) (oL ((P++[r.1]).map .str)) (S (bD (lI ⇑P))):=by
  have:=x9 (k:=.bor 2) (ss:=P++r.2) (lo:=b6) (hi:=bD ⇑P) rfl;rw[C2]at this;show cP (xW (au rfl) xU (xV (ae rfl)) ∅ this) (bY (aa (ae rfl) af) ttt (aC aG aN) (by change 1<=dt;lia)) ttt (FY (a:=P) (b:=[r.1]) ⋯)
 show#[bD (lS r.1),bD (lT (r.2.map .str)),bD (lI ⇑P),?_];show aV (iD (bZ (aM (ay rfl) aq ttt (gX ⋯)) (d5 (aM (ay rfl) (bp (aa (ae rfl) af) ttt de) ttt (CG ⋯))))) ao ?_;show CF j (e_ (.inl rfl)) (aA  l aX ?_);show aV (iD (bZ (aM (c:=cK) (ae rfl) aq ttt (gX ⋯)) (d5 (aM (c:=cK)  m (ae rfl) ttt (cO (by simp[M8,eD])))))) ao ?_;show aA n bh ao
def Dw(b:Wk rs P ps Q):∀o3 o4 o5 o6,⇑P+⇑ps<100000->∃c d e f,Run (forM cK [3] (execs Γ YE) [(aL a)] (ps.map λp:Nat=>(Kd.any,U.int (p:Int)))) (zT rs a P o3 o4 o5 o6) .nx (zT rs a Q c d e f):=by
 induction b with
 |nil=>show λo3 o4 o5 o6 _=>#[o3,o4,o5,o6,xY ttt]
 |cons h t g =>
  rename_i P Q p ps r;intro o3 o4 o5 o6 hl;rw[ko,nz]at hl;have(i,j,k,q):=Dv   (P:=P)    h ⋯;have(b3,b4,l,m,n):=g _ i j k ⋯;show#[b3,b4,l,m,Fy ttt (dC iM) q n]
def Dx(a:Wk rs [] ps [w])(hl:⇑ps<50000):bt Γ gy [tR rs,.lst (ps.map λp:Nat=>.int (p:Int))]≈.ok (oL [.str w]):=by
 have(o3,o4,o5,o6,q):=Dw   a b6 b6 b6 b6 (by grind);show aw (st0:=[bD _,bD _,b6,b6,b6,b6,b6]) rfl (.inl rfl) ?_ (aA  (bY af ttt aN (lx _)) bh (bV  (aa (ay rfl) af) ttt (by change bD _=_;rw[fR];rfl) rfl q (bf (au rfl) (n9 rfl))));change [bD _,bD (Kd.any,_),b6,b6,b6,b6,b6]=_;rw[if_pos (by show aI rs)]
section
variable{Γ:Tab}{rs:List Row}{s:N4}{ds:List Int}{L9:List (Str×Nat)}
def Jp(hr:⇑rs<=84)(h8:∀r∈rs,⇑r.2<=8)(hs:Qr rs s)(Oc:⇑s.1<64)(m:Od.vS rs [] L9)(al:⇑L9<64)(hd:0<⇑ds)(h0:∀d∈ds,0<=d)(hw:w∈L9.map (·.1)):
  ∃n,s.2 w<=n/\bt Γ dM [.lst (ds.map .int),tR rs,.lst (L9.map stN),.str w]≈.ok (lI n):=by
 have am:1000<=dt:=⋯
 let S:=λks c o6 o7 o8 f g=>[bD (aL (ds.map .int)),bD (.loc,tR rs),bD (aL (L9.map stN)),bD (lS w),bD (.own,lN ks),bD (.own,dI c ks),o6,o7,o8,f,g]
 have(st1,Nr,_,ks,c,o6,o7,o8,f,g,e,A,G,hk):=bL (t:=cK) (is:=[6]) (body:=execs Γ bDl) (rs:=[(lI ⇑L9)]) (λp =>(lI (0+p.2))) (λd r st=>d++r=L9.zipIdx/\∃ks c o6 o7 o8 f g,st=S ks c o6 o7 o8 f g/\si s.1 ks/\(∀x∈ks,s.2 x<=c x)/\∀x∈(d.map (·.1)).map (·.1),x∈ks) (λ_ _ _ _=>ttt) (λd p r st N=>by
  have(O,ks,c,o6,o7,o8,f,g,e,A,G,hk):=N;subst e;have e2:(d++p::r).map (·.1)=L9:=by rw[O];simp
  rw[mh,gr]at e2;have hp:L9[p.2]?≈p.1:=List.mem_zipIdx_iff_getElem?.mp (by rw[<-O];simp);have(q,q1,q2,q3):=wo (a:=d.map (·.1)) (b:=r.map (·.1)) (y:=p.1) (by rw[e2];show m);have B:∀y∈q.2,y∈ks:=λy h=>hk y (by simpa using q3 y h);have Rn:=k8 q1;have Q:=hs.closed q Rn λy h=>A.2 y (B y h);have N7:=A.len;let Y:Sl:=bD (lI (0+p.2));let i7:Sl:=bD (.any,.str q.1);let T:=S ks c Y i7;have(st2,Pw,_,us,L,p9,ab,e,o,hL,H,hn):=bL (t:=cb) (is:=[9,10]) (body:=execs Γ K5) (rs:=[(.loc,tR rs)]) (λr:Row=>(Kd.loc,K' r)) (λd r st=>d++r=rs/\∃us L f g,st=T (bD (oL us)) f g/\us=L.map .int/\⇑L<=⇑d/\(∀v∈L,s.2 q.1<=v)/\(q∈d->0<⇑L)) (λ_ _ _ _=>ttt) (λd y r st N=>by
   have(I,us,L,f,g,e,o,hL,H,hn):=N;subst e;have l:y∈rs:=by rw[<-I];simp
   have N7:⇑d<=⇑rs:=by rw[<-I];simp
   have an:=h8 y l;let V:=T (bD (oL us)) (bD (lS y.1)) (bD (lT (y.2.map .str)));have J:Run (Mn Γ (.and [.cmp .eq (.var 9) (.var 7),.bi .all [.comp 1 cK .seq [.var 10] [] (.cmp .isin (.var 0) (.var 5))]])) V (dV (y.1=q.1)&&y.2.all λz=>dV (z∈ks)) V:=qc (vZ (aM (ae rfl) (ay rfl) ttt l7) λ_=>gp (jf (iw (j:=4) (known:=ks) (k:=.any) (w:=lN ks) (.inr rfl) ⋯ (ae rfl) (.inr rfl) λ_=>kL)));by_cases C:y.1=q.1/\∀z∈y.2,z∈ks
   .have ht:=C.2;rw[show(dV (y.1=q.1)&&y.2.all λz=>dV (z∈ks))=cb by simpa using C]at J;have m:s.2 q.1<=1+(y.2.map c).sum:=by
     have h1:=hs.le l λz hz=>A.2 z (ht z hz);have h2:=we λz hz=>G z (ht z hz);rw[C.1]at h1;unfold MU at h1;lia
    show#[V,_,e_ (.inl rfl),dc J (jQ (k:=.own) (k':=.own) rfl (GG (st:=V) (i:=10) (j:=5) (k:=.loc) (c:=c) ⋯ rfl λz hz=>#[aF (au rfl) (ae rfl) ∅ (by change(cu ks (ks.map λk=>U.int (c k)) z).map _=_;rw[di,if_pos (ht z hz)];rfl),aG]) aG rfl rfl (by grind) ao) ao,by rw[<-I];simp,us++[.int (1+(y.2.map c).sum)],L++[1+(y.2.map c).sum],_,_,rfl,by simp[o],by simpa using hL,λv h=>?_,λ_=>by simp];rcases ki.mp h with h|h
    .show H v h
    .show nc.mp h▸m
   .rw[show(dV (y.1=q.1)&&y.2.all λz=>dV (z∈ks))=cK by simpa using C]at J;show#[V,V,e_ (.inl rfl),aV J ao ao,by rw[<-I];simp,us,L,_,_,rfl,o,by simp;lia,H,λz=>?_];rcases ki.mp z with h|h
    .show hn h
    .show absurd (nc.mp h▸⟨rfl,B⟩) C) rs [] (T (bD (oL [])) f g) ⟨rfl,[],[],_,_,rfl,rfl,gi _,by simp,by simp⟩
  subst e;have QV:=hn Rn;have(z,hz,ez):=vY (xs:=ds.map U.int) (z:=0+p.2) (t:=⇑(ds.map U.int)) ⋯ (by simpa using hd) (É _);have(z,SS,rfl):=hW.mp hz;have(v,m,ev):=vY (xs:=us) (z:=z) (t:=⇑us) (h0 z SS) (by rw[o,df];lia) (É _);rw[o]at m;have(v,ac,rfl):=hW.mp m;have e5:d0 (.str q.1) (.int v) (dI c ks)≈dI (TM.upd c q.1 v) (du ks q.1):=by
   unfold dI;rw[sf ⋯];congr 3
   funext k
   unfold TM.upd;split<;>rfl
  show#[S ks c Y o7 o8 f g,S (du ks q.1) (TM.upd c q.1 v) Y i7 (bD (oL us)) p9 ab,aX,aA (r:=(.any,.str q.1)) (aF (aF (ay rfl) (ae rfl) ttt (a9 (u:=stN p.1) (by rw[Zm];show b7 (by simp[hp])))) aq ttt (by rw[q2];rfl)) iM (aA (bY af ttt aN (lx _)) bh (bV (st1:=T (bD (oL [])) f g) (rs:=[(.loc,tR rs)]) (aa (ae rfl) af) ttt sj rfl Pw (lz (k:=.own) (k':=.own) (aF (au rfl) (cP (aF (ay rfl) (cP (ae rfl) (bp (aa (ay rfl) af) ttt dN) ttt (cS (by simpa using hd))) ttt (a9 ez)) (bp (aa (au rfl) af) ∅ dN) ttt (cS (by rw[o,df];lia))) ∅ (a9 ev)) rfl (ay rfl) (aC aG (aC (gW rfl) aN)) rfl rfl e5 (lz (k:=.own) (k':=.own) aq rfl (ay rfl) (aC aG (aC (gW rfl) aN)) rfl rfl (sg ⋯) ao)))),by rw[<-O];simp,_,_,_,_,_,_,_,rfl,A.ins Q,λy l=>?_,λy l=>dn.mpr ?_]
  .unfold TM.upd;by_cases e:y=q.1
   .rw[if_pos e,e];show H v ac
   .rw[if_neg e];show G y ((dn.mp l).resolve_right e)
  .rw[mh,mh]at l;rcases ki.mp l with h|h
   .show .inl (hk y h)
   .show .inr ((nc.mp h).trans q2.symm)) L9.zipIdx [] (S [] (λ_=>0) b6 b6 b6 b6 b6) ⟨rfl,[],_,_,_,_,_,_,rfl,⟨.nil,by simp⟩,by simp,by simp⟩
 subst e;have D:w∈ks:=hk w (by simpa using hw);have L8:TM.start [.lst (ds.map .int),tR rs,.lst (L9.map stN),.str w] 11=[bD (aL (ds.map .int)),bD (.loc,tR rs),bD (aL (L9.map stN)),bD (lS w),b6,b6,b6,b6,b6,b6,b6]:=by simp[TM.start,Mr,aI]
 show#[c w,G w D,aw rfl (.inr rfl) L8 (aA gV bh (aA gV bh (bV (rs:=[(lI ⇑L9)]) (st1:=S [] (λ_=>0) b6 b6 b6 b6 b6) (aa (bp (aa (ay rfl) af) ttt (by rw[dN,df])) af) ttt (by rw[kF ⋯,List.range_eq_range',<-List.zipIdx_map_snd 0 L9,fR];rfl) rfl Nr (bf (aF (au rfl) (ae rfl) ∅ (by change(cu ks (ks.map λk=>U.int (c k)) w).map _=_;rw[di,if_pos D];rfl)) cy))))]
end
end K
namespace K
open PySem L2 TM Mu Od
def Mp(h:MC prog x f)(q:bt (Ml prog d) f us=r)(a:f.io=b6:=by rfl):Ml prog (d+1) x us=r:=(aP h _ a).trans q
def makers:Cu prog:=#[rfl,rfl,rfl,rfl,rfl,rfl,rfl]
def Qs:Rdr prog:=#[#[rfl,rfl,rfl,rfl,rfl,rfl],rfl,rfl,rfl,rfl,rfl,rfl,rfl,rfl]
def oN(d):j5 (Ml prog (d+2)):=λx h=>Mp  rfl (Dk (λx c=>Mp rfl (Di c)) (λk a b=>Mp rfl (zQ a b))
 (λx y hl e=>Mp  rfl (Dj rfl hl (by rw[<-e];rfl))) (λx y hl e=>Mp  rfl (Dj rfl hl (by rw[<-e];rfl))) h)
def Dy(d)(h:∀r∈rows,RowW r)(hl:⇑rows<=60)(hk:(rows.map keyOf).Nodup):Ml prog (d+6) "read" [.str (textOf rows)]≈.ok (.loc,tR rows) :=
 Mp rfl (run_read h hl (λr a=>Mp rfl (Dq (oN _) (h r a) (Mp rfl (zS (oN _) (h r a))))) (Mp rfl (wz (Mp rfl (Dl (λr a=>Mp rfl (F3 (oN d) (h r a).NF (h r a).once (h r a).w1 (h r a).w2)) (Mp rfl (wy (λr a=>Mp rfl (F4 a)) (λr a=>(h r a).NF) ⋯ hk)) hl)))))
def hds{enc:α->U}{g:α->Str}{l:↑α}(hl:⇑l<=1000)(a:∀y,fC (.loc,enc y) (.int 0)≈lS (g y))(hi:st[i]?≈bD (oL (l.map enc))):Run (ev Γ (.comp 1 cK .seq [.var i] [] (.idx (.var 0) (cI 0)))) st (oL ((l.map g).map .str)) st:=by
 have b:1000<=dt:=⋯
 have hs:bB [(.bor i,.lst _)] st:=#[#[.own,rfl,hi],ttt]
 have c:=cC (cond:=aQ Γ []) (elt:=ev Γ (.idx (.var 0) _)) hs .loc (.inl rfl) enc _ .loc (λ_=>cB) l [] ⋯ (λy _=>#[aF (ae rfl) aq ttt (a y),aG]);rw[fR];show bx (aa (au hi) af) hs (by change bD _=_;rw[fR];rfl) c
def Jq(h:Run (ev Γ e) st (.own,.J' ks us) st1):Run (ev Γ (.S7 e)) st (.loc,.NI ks us) st1:=ag h bu
def pure(D)(ND:⇑D<=63):Ml prog 9 "law" [Fw D]≈.ok (lB cb):=by
 have al:(1000:Nat)<=dt:=⋯
 have(names,rs,a1,a2,a3,a4,a5,a6,v,a8):=Cr (Γ:=Ml prog 7) makers.kI makers.drawnOk makers.namesOk makers.IZ D;have o:Bq names rs:=#[⋯,⋯,λr a=>#[(v r a).word,(v r a).once,(v r a).told,(v r a).NF]]
 have H:∀r∈rs,⇑r.2<=8:=λr a=>(v r a).NF;have A:∀r∈rs,RowW r:=λr a=>#[H r a,(v r a).once,a4 _ (v r a).word,λx Q=>a4 x ((v r a).told x Q)]
 have(tx,I):=Jk (n:=2) (b:=400) (us:=rs.map K') cK (λu hu=>by
  have(r,a,rfl):=hW.mp hu;show Jl (H r a) (A r a).w1 (A r a).w2) ⋯ (by rw[df];lia)
 have(J,o1,o2,o3):=KL.yf Qs.l 4 v o.wl ⋯;have(K,k1,k2,k3):=LY (d:=7) (show MC prog "_law_learnt" C8 from rfl) Bv.tup ⋯ o.ok;have C:=KL.Kn.of o1;have j:=Bk.of o.wl o.rl o.ok;have e3:=C0 (d:=7) (yr (sm Qs.q) Qs.t) Qs.c names rs o.wl o.ok;have(pl,e4,My):=FW (d:=7) (yr (sm Qs.q) Qs.t) Qs.b names rs o.wl o.ok;have Rz:=λw=>Jg Qs 1 names rs w j;generalize lim rs fuel s0=s at j e3 e4 My Rz;let R:=rs.map K';let Z:=KK.Pu rs (J.map (·.1));have PQ:∀d,Ml prog (d+1) "_law_words" [.tup R]≈.ok (oL ((a_ rs).map .str)):=λd=>Mp rfl (C9 ⋯ v ⋯);have am:=j.inv.1.len;have e5:=Jh Qs.l Qs.w (show MC prog "not_learnt" KK.yi from rfl) (show MC prog "knot" KK.CQ from rfl) 1 o C (by rw[df];show o2);have e7:=LZ (d:=7) (Z:=Z) (show MC prog "_law_knot_right" YD from rfl) o (PQ 6) QW (Kn.held C);have Qf:aD (aD s.1++Z)=a_ rs:=by
  show uD ((RM (pb.mpr #[(aS _).nodup_iff.mpr j.inv.1.1,KK.kQ _ _,λx Q y hy e=>?_]) (ot _)).mpr λx=>?_) (c9 _)
  .subst e;show(KK.l_.mp hy).2 ((j.kn.perm C).mem_iff.mp ((aS _).mem_iff.mp Q))
  .rw[ki,(aS _).mem_iff,KK.l_,<-jh,(j.kn.perm C).mem_iff];by_cases h:x∈J.map (·.1)
   .show#[λ_=>j.words ((j.kn.perm C).mem_iff.mpr h),λ_=>.inl h]
   .show#[λz=>(z.resolve_left h).1,λz=>.inr #[z,h]]
 rw[cW (k3.perm j.kn)]at k1;have YF:aD (J.map (·.1))=aD s.1:=cW (C.perm j.kn);have Y:∀x,x∈aD s.1↔x∈s.1:=λx=>(aS _).mem_iff;have L_:(aD s.1).Nodup:=(aS _).nodup_iff.mpr j.inv.1.1;have OW:⇑(aD s.1)<=24:=by rw[(aS _).length_eq];lia
 have L:aD (aD s.1)=aD s.1:=cW (aS _);generalize aD s.1=ks at *;have(z,hz):=makers.kI D 19 ⋯;have(ds,d1,d2,d3):=makers.drawnOk z 40 ⋯;let T:=λ(o3 o4 o5 o6 o7 o8 G B f:Sl)=>[bD (aL (D.map .int)),bD (lT R),bD (lT R),o3,o4,o5,o6,o7,o8,G,B,f]
 let i3:Sl:=bD (oL (J.map stN));let i4:Sl:=bD (oL ((KK.cD Z rs).map K'));let i5:Sl:=bD (oL (ks.map .str));let S:=T i3 i4 i5 (bD (.own,dI s.2 ks)) (bD (.loc,fI pl ks)) (bD (oL (ds.map .int)));have Yr:∀{x:Str} {i:Nat},x∈ks->fC (.bor i,dI s.2 ks) (.str x)≈lI (s.2 x):=λ{x i} h=>by
  change(cu ks (ks.map λk=>U.int (s.2 k)) x).map _=_;rw[di,if_pos h];rfl
 obtain⟨m,em,hm⟩:∃m:Int,(if ((⇑ks:Nat):Int)<5 then((⇑ks:Nat):Int) else 5)=m/\0<=m/\m<=5/\m<=⇑ks:=#[_,rfl,by split<;>lia]
 have(st1,Nr,_,G,B,f,e):=bL (t:=cK) (is:=[9]) (body:=execs (Ml prog 8) VN) (rs:=[(lI m)]) (λi:Nat=>(lI (0+(i:Int)))) (λd r st=>d++r=fS m.toNat/\∃G B f,st=S G B f) (λ_ _ _ _=>ttt) (λd i r st Mg=>by
  have(hd,G,B,f,e):=Mg;subst e;have hi:=tj.mp (show i∈fS _ by rw[<-hd];simp);have i8:MB (ds.map U.int) (0+(i:Int))≈.int (dd ds i):=by rw[Zm];show cM ⋯
  have(w,A,e):=rT (xs:=ks) (z:=dd ds i) (t:=(⇑(ks.map U.str):Nat)) (fL d2 i) (by rw[df];lia) ⋯;have(n,hn,en):=Jp (Γ:=Ml prog 7) (w:=w) ⋯ H j.VM ⋯ o1.ok ⋯ (ds:=ds) ⋯ d2 ((C.perm j.kn).mem_iff.mpr ((Y w).mp A));let V:=λf=>S (bD (lI (0+(i:Int)))) (bD (lS w)) f;have O:∀f,Run (ev (Ml prog 8) (.idx (.var 6) (.var 10))) (V f) (lI (s.2 w)) (V f):=λf=>aF (au rfl) (ae rfl) ∅ (Yr A);show#[S (bD (lI (0+(i:Int)))) B f,?_];have N:∀{st':aK},Run (execs (Ml prog 8) (VN.drop 2)) (V f) .nx st'->Run (execs (Ml prog 8) VN) (S (bD (lI (0+(i:Int)))) B f) .nx st':=λh=>aA (aF (au rfl) (cP (aF (au rfl) (ae rfl) ∅ (a9 i8)) (bp (aa (au rfl) af) ∅ dN) ttt (cS (by rw[df];lia))) ∅ (a9 e)) aX (aV (aM (O _) (aB (aa (au rfl) (aa (ae rfl) (aa (au rfl) (aa (ae rfl) af)))) ∅ (Mp rfl en)) ttt (gC (decide_eq_false ⋯))) ao h);by_cases hc:s.2 w<=2000
  .have(ps,r1,r2,r3):=Rz w ((Y w).mp A) hc;have hp:=Mp (show MC prog "_law_pile" gy from rfl) (Dx (Γ:=Ml prog 7) r2 ⋯);show#[_,aX,N (dc (aM (O _) aq ttt (Gw (decide_eq_true hc))) (aA (st2:=V (bD (oL (ps.map λp:Nat=>.int p)))) (aB (aa (ae rfl) (aa (ae rfl) af)) ttt r1) bh (aV (iD (bZ (aM (bp (aa (au rfl) af) ∅ dN) (O _) ttt (wc (by simp[r3]))) (d5 (aM (aB (aa (ae rfl) (aa (au rfl) af)) ∅ hp) (bY (aa (ae rfl) af) ttt (aC aG aN) (by change 1<=dt;lia)) ttt (cO rfl))))) ao ao)) ao),by rw[<-hd];simp,_,_,_,rfl]
  .show#[_,aX,N (aV (aM (O _) aq ttt (Gw (decide_eq_false hc))) ao ao),by rw[<-hd];simp,_,_,_,rfl]) (fS _) [] (S b6 b6 b6) ⟨rfl,b6,b6,b6,rfl⟩
 subst e;have po:∀c ,Ml prog 8 "_law_pairs_of" [.lst (ks.map (M' c))]≈.ok (.own,dI c ks):=λc=>Mp rfl (Jn L_ ⋯ L);have Qg:=Mp (show MC prog "_law_prices_right" cj from rfl) (Jo (Γ:=Ml prog 7) ⋯ H Y ⋯ j.VM My);have ab:Ml prog 8 "_law_steps_right" [.tup R,.lst (J.map stN)]≈.ok (lB cb):=Mp rfl (Jj H o1.ok o2);show Mp (show MC prog "law" Dd from rfl) (aw (st:=S G B f) (st0:=[bD (aL (D.map .int)),b6,b6,b6,b6,b6,b6,b6,b6,b6,b6,b6]) rfl (.inr rfl) rfl ?_);show aA (aB (aa (ay rfl) af) ttt (Mp (show MC prog "_law_made" Cq from rfl) a8)) aX (aA (aB (aa (aB (aa (ae rfl) af) ttt (Mp rfl (Dr A ⋯))) af) ttt (Dy 2 A ⋯ a6)) aX (aV (aM (bp (aa (ae rfl) af) ttt (I _)) (bp (aa (ae rfl) af) ttt (I _)) ttt uN) ao ?_));show aA (aB (aa (ae rfl) af) ttt o3) bh (aA (aB (aa (ae rfl) af) ttt e5) bh (aA (st2:=T i3 i4 i5 b6 b6 b6 b6 b6 b6) (bp (aa (hds (g:=(·.1)) ⋯ (λ_=>rfl) rfl) af) ttt (by rw[KL.jk (by rw[df];lia),YF])) bh ?_));show aV (iD (bZ (fH (c:=cb) (om (aa (ae rfl) (aa (au rfl) af)) ∅ ab rfl)) (bZ (fH (c:=cb) (om (aa (ae rfl) (aa (au rfl) af)) ∅ e7 rfl)) (d5 (aM (au rfl) (aB (aa (ae rfl) af) ttt k1) ∅ (cO (dF _ 49))))))) ao ?_;have ac:(KK.cD Z rs).map (·.1)=Z:=by unfold KK.cD;rw[fR];show ϳ _
 have an:⇑Z<=24:=yA o _;show aV (aM (x:=(oL ((a_ rs).map .str))) (bp (aa (cP (r:=(oL (ks.map .str++Z.map .str))) (au rfl) (hds (i:=4) (g:=(·.1)) (enc:=K') (l:=KK.cD Z rs) (by grind) (λ_=>rfl) rfl) ∅ (by rw[ac];show uo ⋯ rfl rfl)) af) ttt (by rw[<-mh,KL.jk (by rw[ko];lia),Qf])) (aB (aa (ae rfl) af) ttt (PQ 7)) ttt (cO (dF _ 49))) ao ?_;show aA (aB (aa (aB (aa (ae rfl) af) ttt e3) af) ttt (po _)) bh (aA (Jq (aB (aa (aB (aa (ae rfl) af) ttt e4) af) ttt (po _))) aX ?_);show aV (iD (bZ (aM (au rfl) aq ∅ rfl) (bZ (aM (ae rfl) aq ttt rfl) (bZ (aM (bp (aa (au rfl) af) ∅ (show Nm .sorted [(.bor 6,dI s.2 ks)]≈oL (ks.map .str) from(if_pos (show ⇑ks<64 by lia)).trans (by rw[L]))) (au rfl) ∅ (cO (dF _ 49))) (d5 (fH (c:=cb) (om (aa (ae rfl) (aa (au rfl) (aa (ae rfl) af))) ∅ Qg rfl))))))) ao ?_;show aA (st2:=S b6 b6 b6) (aB (aa (aB (aa (ay rfl) (aa aq af)) ttt hz) (aa aq af)) ttt d3) bh (bV (rs:=[(lI m)]) (aa (bp (aa aq (aa (bp (aa (au rfl) af) ∅ dN) af)) ttt (by rw[df,<-em];rfl)) af) ttt (rQ ⋯ ⋯) rfl Nr (bf aq cy))
end K
namespace K
open PySem L2 TM PySem.W PyProof.Rows
def hl:LeftO PySem.Challenge.rw_primer_k90_whole_from_a_text.row.prog vw loo xt hk.obs hk.val 4000:=λw=>by
 have(s,e,a):=eu.mp (OO w);have b:=O8 w;have c:=Tc w;rw[e]at b c;change(oe w).map _=_;rw[e];show congrArg bD (æ (æ a (Qb b)) (Qb c))
def hs:PySem.Challenge.rw_primer_k90_whole_from_a_text.wellSaid=cb:=by kernel_rfl
def ho(P:Ū):Rj ck top (OC top (gg P) ms) ms=cb:=by kernel_rfl
end K
open PySem PySem.W PyProof.Rows K
theorem PySem.Challenge.cw_primer_k90_whole_from_a_text_holds : PySem.Challenge.rw_primer_k90_whole_from_a_text.Holds := by
 w_on
 refine holds_law hs λz => ?_;refine holds_open hl hk.of hk.keeps (λs e => xl_of s (Qq.mp e).1) XL.keeps rfl rfl rfl (λs e => recFacts_of (Qq.mp e).2) rfl z (by kernel_rfl) ⟨rfl, rfl, rfl, rfl, rfl, by decide +kernel⟩ ?hw ?a
 (case hw => w_witness2)
 exact TM.walk2 (l := PySem.Challenge.rw_primer_k90_whole_from_a_text) (Pg := prog) (ck := ck) (dp := 8) (x := "_law_script") (m := ml) rfl rfl ⟨rfl, by decide, by decide, rfl⟩ rfl (by decide +kernel) (by decide +kernel) rfl (ŀ.mpr ⟨46, rfl⟩) rfl rfl ho K.pure
