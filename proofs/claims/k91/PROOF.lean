import PyProof.Rows.All
import Wide.All
import OpenK.AllK
import Wide.FinOn
import Lean
import PyProof.EqAt
import PyProof.EqKinds
import PyProof.TupleCall
import PyProof.StrLawsChain
import PyProof.StrLawsFirst
import PyProof.Rows.StrNews2
import OpenK.AllK
import PySem.SetOps
import PyProof.ZipIter
import OpenK.AllK
import PyProof.DictItems
import OpenK.AllK
import PyProof.AttrMissHeap
import OpenK.AllK
import PyProof.ReprBulk
import PySem.Challenge.RW_primer_k91_whole_musts
set_option Elab.async false
set_option linter.all false
set_option bootstrap.genMatcherCode false
set_option maxRecDepth 100000
set_option maxHeartbeats 4000000
set_option genInjectivity false
set_option genSizeOf false
set_option autoImplicit true
set_option relaxedAutoImplicit true
open Option renaming some->a0,none->bD,map_eq_some_iff->ez,bind_eq_some_iff->nT,map_some->Tw,isNone_iff_eq_none->U1,isSome_map->Vt,isSome_iff_exists->VF,map_eq_none_iff->Wd,isSome_some->ĕ
open PySem renaming wpAny_bind->a5,wpAny_pure->cL,sizeLine->dt,Value->dV,wpAny->eW,Addr->gi,Shared->gj,model->hJ,starEach->mh,wpAny_setState_of->qs,Expr->ro,wpAny_holding->tv,Program->B',wpAny_call_entry->D',wpAny_mono->HT,bootBuiltins->H8,rawInt->I0,World->JT,wpAny_seqItems->KX,wpAny_Call_Name_kw->K1,mainGlobals->K2,eval->K6,cLine->K7,wpAny_isInstance->LA,wpAny_newObj_type->LN,Heap->Mt,sysModules->Mx,scanBound->MB,codeAny_builtin->MZ,backTo->M3,wpAny_rule->Nb,wpAny_field->Nz,wpAny_truthy_bool->N4,wpAny_callSpecial?_slot->N6,NameKind->Oo,Builtin->OB,wpAny_specialOf->OW,cellsFrom->OY,holding->O3,foldedSetIterable->O6,Around->PV,Scope->P0,wpAny_setField->Qb,compareOp->Qg,keywordEach->Qz,wpAny_setField_rec->QE,wpAny_pyIter_tuple->QH,call->QI,wpAny_passesOwn->QL,Stmt->QO,builtinLookup_eq_fast->Q_,SetTable->RZ,plainId_quiet->SM,attributeBase->SN,Keyword->SW,tupleKind_room_in1->S9,pyNext->Ta,IsPair->Tb,wpAny_getItem_str_slice->Tc,wpAny_Call_method0_late->Td,wpAny_pyIter_list->Tr,tupleKeyHash->Ts,isSubtype_type->Tt,codeAny->Tu,wpAny_askSetting->Ul,swapsWith->Uo,call_meets->Uv,assignEach->Uz,behindInMarks->UB,binaryOp->UP,backToKw->UQ,wpAny_updateSeq->Vd,typeLookup_type->Ve,wpAny_setEntries_of->Vy,wpAny_typeOf->VH,pushCells->V1,FuncData->Wc,swapsWithSole->Ww,assign->Wx,wpAny_forIn_list->WS,typeLookup->Xo,typeIs_str->Xq,setItem->XE,relabel->XF,codeAny_mono->XG,callerA->XH,call_meetsIn->XI,builtinsNs->XJ,wpAny_loadPart'->X1,post_val_or_str->X2,letOwnedTupleGo->X6,isSubtype_tuple_tuple->X',wpAny_updateSeq_pair->Yt,isSubtype_stop->Yu,firstArgMember->YC,atKey->YD,IsZip->YI,tupleKind->YT,notedBy->Y1,wpAny_onRaise->Zi,wpAny_newList->Zj,wpAny_attempt->Zk,wpAny_tupleItemsOf->ZW,wpAny_storeSet_of->Â,wpAny_setEpoch_of->Ã,wpAny_pyIter_enum->Ä,valueAt->Å,sub_set_self->Æ,setNext->Ç,setField->È,release->É,getItem->Ë,fits_of_scanBound->Ì,compEnvC->Í,wpAny_eqBool_str->Û,wpAny_eqBool_int->Ü,pickOrder->Ý,meets_dict_items->Þ,isSubtype->ß,PassesOwn->á,wpAny_of_eq->ã,wpAny_letGo->ä,unsupported->å,subscripted->æ,wpAny_execs_nil->ì,pushCells_keeps->í,standAt->ó,wpAny_runValue->ú,relayAll->û,raiseNew->ü,pyIter->ý,newFunctionEnv->þ,field->ÿ,entryFor_alias->Ā,entryFor->ā,IsTupleKey->Ă,wpAny_standAt->Ě,wpAny_comprehension_free->ě,swappedStores->Ĝ,strValues->Ħ,seqItems?->ħ,eqIsQuiet->Ĩ,bindL->ĩ,bindC->Ī,wpAny_Call_method_late->İ,setNextDrawn->ı,newExc->Ĳ,collect->ĳ,PyData->ĸ,Params->Ĺ,IsEnum->ĺ,BindsTo->ļ,wpAny_nextOf_list_end->ň,wpAny_isTrue_Compare1->ŉ,wpAny_pyIter_revIter->Ŕ,wpAny_alloc->ŕ,step->Ŗ,sizeLine_eq->ŗ,seqIndex_of->Ř,rule->ř,codeAny_extend_loopS->Ś,Operator->ŝ,GenState->Ş,wpAny_setItem_heap->ź,wpAny_pyIter_items->Ż,wpAny_load->ż,wpAny_Name->Ž,typeOf->ž,stored->ſ,setsByText->Α,isInstance->Β,getattributeRaised->Δ,checkCount->Ε,WalksS->Ζ,JoinOk->Ι,wpAny_pyIter_slot->Ο,wpAny_assign_Name->Ρ,spliced->Τ,newList->Υ,eqIsQuiet_byValue->Φ,ItemsOf->η,Draws->μ,wpAny_setScan_of->ν,wpAny_pyIter_zip->ξ,wpAny_Dict_empty->ο,updateSeq->π,setDiscardHashed->ρ,entryFor_of_tree->ς,codeAny_of_tree->ύ,wpAny_newTuple->ϖ,truthy->ϗ,table->Ϙ,recursionLimit->ϙ,numbered_texts->Ϛ,newTuple->ϛ,callType_codes->Ϝ,bindArgs->ϝ,augStore->Ϟ,argsOk->ϟ,again->Ϡ
open Bool renaming true->b5,false->cb,and_eq_true->du,false_ne_true->k9,false_eq_true->sL,and_eq_true_iff->Ke,not_eq_true'->LB,eq_iff_iff->Ma,not_true->Oh,or_eq_true->Sn,and_false->U_,or_false->V_,and_true->Yl,false_and->Ú,or_eq_false_iff->ę,not_false->Ź,true_and->Ν,and_self->Ξ
open PySem.Heap renaming get?_push_of_some->b6,lt_size->fS,get?_push_size->f6,SameBut->sx,get?_update_self->H0,get?_update_other->P6,size_push->Q3,get?_update_ne->RU,ExtBut->ē,size_update->Ō,IsTuple->θ
open List renaming length_map->cK,getElem?_eq_some_iff->et,map_cons->eH,map_map->fx,mem_cons->fR,getElem?_set_self->gs,range->hH,nil_append->hY,mem_append->hZ,getElem?_map->i5,length_append->ke,mem_singleton->kj,size_toArray->ko,mem_cons_self->k7,mem_map->k8,mem_of_getElem?->lg,replicate->lx,length_cons->mx,getElem?_set_ne->mA,map_append->nc,mem_cons_of_mem->nC,mem_filter->oa,all_eq_true->oT,getElem?_eq_getElem->pb,nodup_cons->p6,length_filter_le->qb,mem_append_right->qP,nodup_append->ri,lookup_cons->rr,not_mem_nil->rz,map_congr_left->tj,getElem?_append_right->tr,filter_cons->vl,length_singleton->wh,getElem?_append_left->w6,length->DD,mem_range->Jl,append_nil->Jq,filter_sublist->JM,map_reverse->Kq,isEmpty_iff->KC,map_nil->LV,getD->M0,getElem?_replicate->Nf,mem_map_of_mem->NP,filter_eq_self->NQ,length_take->Ol,ext_getElem->Om,perm_ext_iff_of_nodup->Ot,getElem?_drop->Oy,filter_nil->OD,filterMap_cons->Po,mem_reverse->Pr,zip_cons_cons->P7,take_of_length_le->Qa,find?_cons->Qu,sum_cons->Qx,length_range->QJ,drop_eq_getElem_cons->RT,length_reverse->RX,length_zip->Sj,filter_append->Sq,filter_cons_of_pos->SA,filter_cons_of_neg->SG,filter_eq_nil_iff->SX,length_replicate->Tg,getElem?_eq_none->Ti,getElem_mem->Tj,map->Tz,of_mem_zip->T7,forIn_cons->T9,getElem_of_mem->UA,all_map->UE,pairwise_cons->U6,nodup_nil->U7,forIn_nil->U9,getElem?_zip_eq_some->VG,reverse_cons->VU,flatten_cons->VZ,mem_flatten->We,length_eq_zero_iff->Wf,getElem?_cons_succ->Wh,eraseIdx_cons_succ->Wi,any_eq_true->Wj,length_pos_of_mem->Wu,length_eq_one_iff->Wv,length_nil->WA,foldl_cons->WB,mem_iff_getElem?->WK,reverse_reverse->W7,mem_iff_getElem->Xe,mem_erase_of_ne->Xg,mem_append_left->Xj,getElem?_zipIdx->Xk,any_cons->Yk,map_singleton->Yn,findIdx?_eq_some_iff_getElem->YK,getElem_inj->Zz,eq_nil_of_length_eq_zero->Z3,sum_append->À,drop_left'->Á,findIdx?_eq_none_iff->â,sublist_append_left->ç,length_erase_of_mem->è,getElem?_take_of_lt->é,findIdx?->ê,drop_eq_nil_of_le->ù,getElem?_reverse->ĉ,dropLast_eq_take->Ċ,mem_of_mem_take->Ė,length_eraseIdx->ė,getElem_eq_getD->Ę,reverse_append->ġ,getElem?_range->Ģ,flatten_append->ģ,sum_singleton->ĭ,mem_filterMap->Į,take_sublist->Ń,filter_congr->ń,ext_getElem?->Ņ,append_assoc->ņ,zipIdx_cons->ŏ,map_fst_zip->Ő,getElem_map->ő,drop_length->Œ,cons_append->œ,zipIdx_nil->Ŧ,zipIdx_map->ŧ,range_succ->Ũ,length_set->ũ,filter_map->Ū,lt_irrefl->ŵ,drop_zero->Ŷ,zip_map'->Λ,perm_nil->Μ,map_id->ϊ
open Decidable renaming decide->df
open Nat renaming ne_of_lt->gr,le_refl->i4,lt_of_lt_of_le->l',zero_le->nH,ne_of_gt->va,lt_irrefl->ve,le_trans->K',lt_succ_of_lt->Ng,le_succ->Oi,le_of_lt->OE,zero_add->Rt,lt_trans->RC,lt_succ_self->RO,mod_lt->Wy,lt_of_le_of_lt->YJ,add_sub_cancel_left->ø,succ_pos->ć,le_of_eq->Ĉ,not_lt_of_lt->ť,add_zero->ω
open PySem.Value renaming ref->hU,none->qp,str->ux,type->Ly,isStrOf->N',bool->UR,int->Y7,isStrOf_shape->ď,builtin->ů,isInt->Ω
open Array renaming length_toList->ki,getElem?_toList->vu,forIn_toList->P5,getElem?_eq_getElem->Rm,toList_append->Uh,size_map->UT,getD->Ym,size_append->YM,toList->ò,toList_extract->č,toArray_toList->Ď,toList_push->į,toList_inj->Ň
open Sum renaming inr->nz,inl->Y5
open PySem.Obj renaming mapSeq->td,data_mapFields->Qi,putSet->Sz,isFreed_of_fields->WW,cls_mapFields->Zd,mapFields->ε
open PySem.Builtin.SmallTypes renaming nextOf->ti,ownedTupleIsFree->MY,ownedTupleHandOut->U0
open Option.some renaming inj->tA,injEq->R0
open Classical renaming byContradiction->uk,skolem->Č
open Ne renaming symm->uv
open PySem.Str renaming empty->vr,ofString->Ro,length->à
open PySem.Builtin.List renaming listExtendWith->y4,listTooLong->Oq,listSameRef->QK,listLengthHint->Yh,listItems->Zl,listUpdate->ϐ
open PySem.SetTable.layClean renaming free->JD
open PyProof.Rows renaming seqObj->JZ,callWith_type1->LC,size_push'->MA,StrsAre->Tv,callWith_builtin1->W6,envOfC->XY,AllBare->XZ,subscriptTail->Zm,listUpdate_at->Zy,entry_list_sort->ñ,sortedHeap_old->ă,sortedHeap->Ą,slot_list_sort->ą,args_list_sort->Ć,sortedHeap_at->Ġ,subscriptTail_builtinR->Ľ,plain_sorted->ľ,listItems_at->Ŀ,entry_sorted->ŀ,args_sorted1->Ł,IntsAre->ł,seqEpoch_at->ţ,kind_sorted->Ť,Subscript_->Κ,wpAny_notIn_heap->χ,slot_str_getitem->ψ,get?_update_seq->ϓ,call_isinstance_yes->ϔ,tail_any->ϡ,keyKind'->Ϣ,isTrue_and_nil->ϣ
open PySem.Calls renaming callWith_builtin->Kj,evalArgs_plain->QV,spliced_cons->R',call_function_entry->Vr,spliced_nil->VE,Name_function_global->Ò
open PySem.Heap.SameBut renaming update->Mu,refl->MK
open PySem.Builtin.Tuple renaming tupleHashOf->Mw,tupleItemsOf->τ
open PySem.Around renaming under_plainId->M6
open PySem.Builtin.Frozenset renaming isAnySet->M',difference->Se,sizeOf->Tf,differenceUpdate->VP,unchanged->WH,copyOf->XM,baseOf->XN,addrOf->XO,slot1->X7,updateFrom->Š,slot0->š,newClass->Ţ
open PySem.NameKind renaming free->NA,cell->NO
open PySem.SetTable renaming sizeAbove->Og,below->OV,grown->QB,bits->Ra,eraseAt->SS,turns->T4,layClean->US,fits->UW,laid->WV,runEnd->Y2,relaid->Y4,fill->Z_,orStandIn->õ,fresh->ī,leap->Ĵ,drop->ĵ
open PySem.W renaming kas_sort->OC,kas_ask->Ï,kat_cons->ś,kat_yes->Χ
open List.Perm renaming refl->OO,swap->Ĥ,cons->ĥ
open Int renaming toNat_natCast->OU,toNat_of_nonneg->UG,eq_ofNat_of_zero_le->Wt,zero_add->WG,le_refl->X0,emod_lt_of_pos->YL,emod_nonneg->Õ,le_trans->ċ,natCast_pow->ŷ,natCast_add->Ÿ
open PySem.Builtin.Str renaming occurrences->Qn,partsBetween->QY,strKind->Ö
open PyProof.Rows.F renaming plain_set_update_loop->Qt,entry_set_update_loop->V6
open LT renaming lt->Q1
open False renaming elim->Q2
open PySem.AutoSeq1 renaming wpAny_loadPart'->Rg,sub_tuple_tuple->Z',sub_tuple_list->Ó,sub_list_tuple->Ô,sub_list_list->Ø,idx_int->Ĕ
open List.cons renaming injEq->Ri
open ForInStep renaming yield->Rj
open PySem.Txt renaming split->SJ,join->Zc
open List.Sublist renaming refl->TR
open True renaming intro->UU
open PySem.Shared renaming TypeIs->VD,heap->ô
open PySem.SeqAt renaming EqAt->Wm,ne_of_list_tuple->î,RcAt->ĝ,RcNeAt->Η
open ToString renaming toString->WN
open PySem.Data renaming fields->W5,cell->ð
open Sum.inr renaming inj->YP
open PySem.F renaming args_str_split_2->Zg,entry_str_split->Z1,slot_str_split->Ñ,args_list_extend_2->Ļ,entry_list_extend->ō,slot_list_extend->ş
open PySem.Builtin.Dict renaming updateFrom->Zh,selfAndRest->ϑ,pairItems->ϒ
open PySem.pickOrder renaming go->Ê
open PySem.Walks renaming list->Î
open PySem.SetTable.below renaming go->Ð
open Prod renaming ext->Ù,fst->Ŵ
open List.Nodup renaming sublist->ë
open PySem.PyData renaming leavesShortAll->ï,showableAll->Đ,leavesShort->đ,hasDictAll->Ğ,showable->Ķ,depthAll->ķ,hasDict->Ŋ,bulkAll->ŋ,depth->Ű,bulk->Θ
open PySem.Heap.DictOf renaming new->ö
open PySem.PassesOwn renaming never->Ē
open PySem.Draws renaming list->ğ
open PySem.Code renaming quiet_builtin->Ĭ
open Prod.mk renaming injEq->Ŏ
open PySem.W.KatTups renaming cons->Ŝ,nil->Ů
open LE renaming le->ū
open ForIn renaming forIn->Ŭ
open PySem.W.Looks renaming of_pure->ŭ
open PySem.ItemsOf renaming nil->ű
open PyProof.Rows.LSm renaming range_all->Ų,kept_iter->ų
open PySem.W.WShape renaming has->Ψ
open PySem.Moved renaming trans->ζ
open PySem.Heap.IsSliceOf renaming new->ι
open PySem.Builtin.Range renaming rangeSize->υ
open List.Pairwise renaming nil->ϋ,map->ό
open PySem.W.WData renaming int->ώ
open PySem.Heap.DictOfH renaming new->Ϗ
open PyProof.Rows.IsTup renaming new->ϕ
abbrev Ϥ:=@decide_eq_true_eq
abbrev ϥ:=@if_pos
abbrev Ϧ:=@if_neg
abbrev ϧ:=@decide_eq_false
abbrev Ϩ:=@decide_eq_true
abbrev ϩ:=@congrArg
abbrev Ϫ:=@of_decide_eq_true
abbrev ϫ:=@beq_eq_false_iff_ne
abbrev Ϭ:=@decide_eq_true_iff
local macro_rules|`(def $a:declId $b* : $t :=$v)=>`(theorem $a:declId $b* : $t :=$v)
local macro_rules|`(abbrev $a:declId $b:optDeclSig $c:declVal)=>`(noncomputable def $a:declId $b:optDeclSig $c:declVal)
local macro_rules|`(tactic|show $t)=>`(tactic|refine $t)
local macro_rules|`(tactic|have⟨$a⟩:=$t)=>do let p<-`(Lean.Parser.Tactic.rcasesPatLo|$(⟨a⟩):ident);`(tactic|obtain⟨$p⟩:=$t)
local macro_rules|`(tactic|have($a,$b,*):=$t)=>do let g:=fun(x:Lean.Term)=>if x.raw.isIdent then`(Lean.Parser.Tactic.rcasesPatLo|$(⟨x⟩):ident)else`(Lean.Parser.Tactic.rcasesPatLo|_);let p<-(#[a]++b.getElems).mapM fun x=>match x with|`(($c,$d,*))=>do let q<-(#[c]++d.getElems).mapM g;`(Lean.Parser.Tactic.rcasesPatLo|⟨$q,*⟩)|_=>g ⟨x⟩;`(tactic|obtain⟨$p,*⟩:=$t)
local macro_rules|`(⋯)=>`(by lia)
local macro_rules|`(∅)=>`(by(first|exact trivial|exact⟨⟨_,rfl,rfl⟩,trivial⟩|exact⟨⟨_,rfl,rfl⟩,⟨_,rfl,rfl⟩,trivial⟩))
local macro_rules|`(#[$a,*])=>`(⟨$a,*⟩)
local macro_rules|`(#v[$a,*])=>`(List.toArray [$a,*])
namespace L2
open PySem PySem.Spec PyProof.Rows
@[reducible]def Key:=Sum Int Str
abbrev jX:Key->dV->Bool
 |.inl k,v=>Ω k v
 |.inr x,v=>N' x v
abbrev HX(w:JT):Key->Int
 |.inl k=>hashInt k
 |.inr x=>hashStr w x
theorem bq:∀{k:Key}{v:dV},jX k v=b5->(∃i t,k=Y5 i/\v=Y7 i t)\/(∃x t,k=nz x/\v=ux x t)
 |.inl i,v,h=>by
  have(t,e):=Value.isInt_shape (k:=i) (v:=v) h;show .inl #[i,t,rfl,e]
 |.inr x,v,h=>by
  have(t,e):=ď (x:=x) (v:=v) h;show .inr #[x,t,rfl,e]
def wN(i:Int)(t:Tok):jX (.inl i) (.int i t)=b5:=by simp[jX,Ω]
def wO(x:Str)(t:Tok):jX (.inr x) (.str x t)=b5:=by simp[jX,N']
def DV(a b:Int):df ((Y5 a:Key)=Y5 b)=(a==b):=by
 by_cases e:a=b
 .subst e;simp
 .have h:¬(Y5 a:Key)=Y5 b:=λq=>e (Sum.inl.inj q);rw[ϧ h];show(ϫ.mpr e).symm
def DW(a b:Str):df ((nz a:Key)=nz b)=df (a=b):=by
 by_cases e:a=b
 .subst e;simp
 .have h:¬(nz a:Key)=nz b:=λq=>e (YP q);rw[ϧ h,ϧ e]
def DX(a:Int)(b:Str):df ((Y5 a:Key)=nz b)=cb:=ϧ (λq=>nomatch q)
def DY(a:Str)(b:Int):df ((nz a:Key)=Y5 b)=cb:=ϧ (λq=>nomatch q)
abbrev aG(prog:B')(w:JT):PySem.KeyKind prog w Key where
 is:=jX
 hash:=HX w
 inj:=λv a b g f=>by
  rcases bq g with⟨i,t,rfl,rfl⟩|⟨x,t,rfl,rfl⟩
  .rcases bq f with⟨j,u,rfl,e⟩|⟨y,u,rfl,e⟩
   .injection e with c _;rw[c]
   .show nomatch e
  .rcases bq f with⟨j,u,rfl,e⟩|⟨y,u,rfl,e⟩
   .show nomatch e
   .injection e with c _;rw[c]
 byValue:=λk v h=>by
  rcases bq h with⟨i,t,rfl,rfl⟩|⟨x,t,rfl,rfl⟩<;>rfl
 pyHash:=λd h=>by
  rcases bq d with⟨i,t,rfl,rfl⟩|⟨x,t,rfl,rfl⟩
  .show wpAny_pyHash_int h
  .show wpAny_pyHash_str h
 eqBool:=λl d h=>by
  rcases bq l with⟨i,t,rfl,rfl⟩|⟨x,t,rfl,rfl⟩
  .rcases bq d with⟨j,u,rfl,rfl⟩|⟨y,u,rfl,rfl⟩
   .rw[DV]at h;show Ü h
   .rw[DX]at h;show SeqAt.EqAt.int_str i t y u _ _ _ _ h
  .rcases bq d with⟨j,u,rfl,rfl⟩|⟨y,u,rfl,rfl⟩
   .rw[DY]at h;show SeqAt.EqAt.str_int x t j u _ _ _ _ h
   .rw[DW]at h;show Û h
 «strs»:=λk x t v h=>by
  rcases bq h with⟨i,u,rfl,e⟩|⟨y,u,rfl,e⟩
  .show nomatch e
  .injection e with c _
   subst c;cases v<;>rfl
def qH(prog:B')(w:JT)(i:Int)(t:Tok):(aG prog w).is (.inl i) (.int i t)=b5:=wN i t
def qJ(prog:B')(w:JT)(x:Str)(t:Tok):(aG prog w).is (.inr x) (.str x t)=b5:=wO x t
inductive V where
 |Jp|bl (b:Bool)|int (i:Int)|str (x:Str)|Rp (b:Array UInt8)|Rq (b:UInt64)|ref (a:gi)|ty (n:String)
 deriving DecidableEq
def RelV:V->dV->Prop
 |.Jp,u=>u=qp
 |.bl b,u=>u=UR b
 |.int i,u=>∃t,u=Y7 i t
 |.str x,u=>∃t,u=ux x t
 |.Rp b,u=>∃t,u=Value.bytes b t
 |.Rq b,u=>∃t,u=Value.float b t
 |.ref a,u=>u=hU a
 |.ty n,u=>u=Ly n
@[reducible]def Vals:List V->List dV->Prop:=Paired RelV
def Vals.length(r:Vals xs us):xs.length=us.length:=Paired.length r
theorem Vals.get:∀{xs:List V}{us:List dV}{i:Nat}{x:V},Vals xs us->xs[i]?=a0 x->∃u,us[i]?=a0 u/\RelV x u
 |_,_,_,_,.nil,e=>by simp at e
 |_,_,0,_,.cons r _,e=>by simp at e;subst e;show#[_,rfl,r]
 |_,_,i+1,x,.cons _ t,e=>by
  have(u,a,b):=Vals.get (i:=i) (x:=x) t (by simpa using e);show#[u,by simpa using a,b]
theorem Vals.set(r:RelV x u):∀{xs:List V}{us:List dV} (i:Nat),Vals xs us->Vals (xs.set i x) (us.set i u)
 |_,_,_,.nil=>.nil
 |_,_,0,.cons _ t=>.cons r t
 |_,_,i+1,.cons q t=>.cons q (Vals.set r i t)
theorem Vals.append:∀{xs a:List V}{us ws:List dV},Vals xs us->Vals a ws->Vals (xs++a) (us++ws)
 |_,_,_,_,.nil,s=>s
 |_,_,_,_,.cons r t,s=>.cons r (Vals.append t s)
def kA:Option V->Option dV->Prop
 |some v,a0 u=>RelV v u
 |none,bD=>True
 |_,_=>False
abbrev KV{κ:Type}:List (κ×V)->List (κ×dV)->Prop:=Paired λ(p:κ×V) (q:κ×dV)=>p.1=q.1/\RelV p.2 q.2
abbrev kV:Key->V
 |.inl i=>.int i
 |.inr x=>.str x
inductive HO where
 |lst (xs:List V)
 |tup (xs:List V)
 |dK (kvs:List (Key×V))|dT (kvs:List (List Key×V))
 |set (S:Int->Bool) (n:Nat)
 |ins (C dx:gi) (fs:List (Str×V))
 |own (x:gi)
 |xd (fs:List (Str×V))
 |met (f x:gi)
 |Sy (lo hi:Int)
 |J_ (o:Obj) (u:HO)
 |N_ (ps:Array dV)
 |ext (φ:Mt->Prop)
@[reducible]def Hp:=gi->Option HO
abbrev upd(H:Hp)(a:gi)(o:HO):Hp:=λb=>if b=a then a0 o else H b
def aw:upd H a o a=a0 o:=by unfold upd;rw[ϥ rfl]
def aj(h:b≠a):upd H a o b=H b:=by unfold upd;rw[Ϧ h]
def Ba:upd (upd H a o) a u=upd H a u:=by
 funext b;unfold upd;split<;>rfl
def ye{H:Hp}(h:H a=a0 o)(h':H b=a0 u)(d:o≠u):a≠b:=by
 intro e;subst e;rw[h]at h';show d (tA h')
def bM{H:Hp}(h:H a=a0 o)(h':H b=bD):a≠b:=by
 intro e;subst e;rw[h]at h';cases h'
section
variable(P:B')(w:JT)
def bF(H:Hp)(h:Mt)(a:gi):HO->Prop
 |.lst xs=>xs.length<=dt/\∃(its:List dV) (n:Nat),Vals xs its/\h.get? a=a0 {cls:=.type "list",data:=.seq its.toArray n}
 |.tup xs=>xs.length<=dt/\∃its:List dV,Vals xs its/\IsTup h a its.toArray
 |.dK kvs=>kvs.length<=dt/\(a==Mx)=cb/\∃vs,KV kvs vs/\h.DictOf (aG P w) a vs
 |.dT kvs=>kvs.length<=dt/\(a==Mx)=cb/\∃xs:List (List Key×gi×dV),
   Paired (λ(p:List Key×V) (q:List Key×gi×dV)=>p.1=q.1/\H q.2.1=a0 (.tup (p.1.map kV))/\RelV p.2 q.2.2) kvs xs /\
   ∃o es ep,h.get? a=a0 o/\o.ExactDict/\o.data=.dict es ep/\es.toList=xs.map (entryOfKey (YT (aG P w)))/\(xs.map (·.1)).Nodup
 |.set S n=>h.SetOf (intKind P w) a S n
 |.ins C d c=>H d=a0 (.own a)/\c.length<=1000/\d≠a/\h.get? a=a0 (PySem.W.instObj C d) /\
   ∃b,h.Ns1 d b/\(∀f,kA (c.lookup f) (b f))/\PySem.Within b (c.map (·.1))
 |.own _=>∃o,h.get? a=a0 o
 |.xd c=>∃b,h.Ns1 a b/\∀f,kA (c.lookup f) (b f)
 |.Sy lo i=>∃t u v,h.get? a=a0 {cls:=.type "range",data:=.fields #v[.int lo t,.int i u,.int 1 v]}
 |.J_ o u=>h.get? a=a0 o/\bF H h a u
 |.N_ ps=>h.get? a=a0 {cls:=.none,data:=.fields ps}
 |.met f x=>h.get? a=a0 (PySem.W.methodObj (.ref f) (.ref x))
 |.ext φ=>φ h/\(∃o,h.get? a=a0 o)/\∀e g:Mt,φ e->(∀o,e.get? a=a0 o->g.get? a=a0 o)->φ g
abbrev Kc(H:Hp)(h:Mt):Prop:=∀a o,H a=a0 o->bF P w H h a o
end
section
def bF.lt(x:bF P w H h a o):a<h.objs.size:=by
 cases o with
 |lst xs=>have(_,_,_,_,e):=x;show fS e
 |tup xs=>have(_,_,_,p):=x;show p.lt
 |set S n=>have(o,_,_,_,e,_):=x;show fS e
 |ins C c b=>have(_,_,_,e,_):=x;show fS e
 |own y=>have(_,e):=x;show fS e
 |xd b=>have(_,(_,_,_,e,_),_):=x;show fS e
 |Sy lo d=>have(_,_,_,e):=x;show fS e
 |J_ g u=>have(e,_):=x;show fS e
 |N_ ps=>show fS (show h.get? a=a0 _ from x)
 |met f y=>show fS (show h.get? a=a0 _ from x)
 |ext φ=>have(_,(_,e),_):=x;show fS e
 |_=>have(_,_,_,_,o,_,_,e,_):=x;show fS e
theorem Paired.DZ:∀{c:List α}{d:List β},Paired F c d->(∀a b,F a b->G a b)->Paired G c d
 |_,_,.nil,_=>.nil
 |_,_,.cons r t,f=>.cons (f _ _ r) (Paired.DZ t f)
def bF.ia(x:bF P w H h a o)(k:∀b u,(b=a\/H b=a0 (.own a))->h.get? b=a0 u->h'.get? b=a0 u)
  (ho:∀b,H b=a0 (.own a)->H' b=a0 (.own a)) (l:∀b xs,H b=a0 (.tup xs)->H' b=a0 (.tup xs)):bF P w H' h' a o:=by
 induction o with
 |lst xs=>have(z,its,n,r,e):=x;show#[z,its,n,r,k _ _ (.inl rfl) e]
 |tup xs=>have(z,its,r,g,e,c):=x;show#[z,its,r,g,k _ _ (.inl rfl) e,c]
 |dK kvs=>have(z,y,vs,r,g,es,ep,e,c):=x;show#[z,y,vs,r,g,es,ep,k _ _ (.inl rfl) e,c]
 |dT kvs =>
  have(z,y,xs,r,g,es,ep,e,c):=x;show#[z,y,xs,Paired.DZ r λp q z=>#[z.1,l _ _ z.2.1,z.2.2],g,es,ep,k _ _ (.inl rfl) e,c]
 |set S n=>have(g,es,ep,t,e,c):=x;show#[g,es,ep,t,k _ _ (.inl rfl) e,c]
 |ins C D m =>
  have(d,z,s,e,i,(j,es,ep,A,c),r):=x;show#[ho _ d,z,s,k _ _ (.inl rfl) e,i,#[j,es,ep,k _ _ (.inr d) A,c],r]
 |own y=>have(g,e):=x;show#[g,k _ _ (.inl rfl) e]
 |xd m=>have(i,(j,es,ep,e,c),r):=x;show#[i,#[j,es,ep,k _ _ (.inl rfl) e,c],r]
 |Sy lo G=>have(t,u,v,e):=x;show#[t,u,v,k _ _ (.inl rfl) e]
 |J_ g u B=>have(e,q):=x;show#[k _ _ (.inl rfl) e,B q]
 |N_ ps =>
  have e:h.get? a=a0 {cls:=.none,data:=.fields ps}:=x;change h'.get? a=a0 {cls:=.none,data:=.fields ps};show k a _ (.inl rfl) e
 |met f y =>
  have e:h.get? a=a0 (PySem.W.methodObj (.ref f) (.ref y)):=x;change h'.get? a=a0 (PySem.W.methodObj (.ref f) (.ref y));show k a _ (.inl rfl) e
 |ext φ=>have(p,(o,e),st):=x;show#[st _ _ p λo q=>k _ _ (.inl rfl) q,#[o,k _ _ (.inl rfl) e],st]
def Kc.lt(x:Kc P w H h)(e:H a=a0 o):a<h.objs.size:=(x a o e).lt
def Kc.fresh(x:Kc P w H h)(e:h.objs.size<=a):H a=bD:=by
 cases q:H a with
 |none=>rfl
 |some u=>show absurd (l' (x.lt q) e) (ve _)
def Kc.kept(x:Kc P w H h)(k:∀b u,h.get? b=a0 u->h'.get? b=a0 u):Kc P w H h':=λa o e =>
 (x a o e).ia (λb u _ q=>k b u q) (λ_ q=>q) λ_ _ q=>q
def Kc.laid(x:Kc P w H h)(k:∀b u,h.get? b=a0 u->h'.get? b=a0 u)(g:h.objs.size<=a)(new:bF P w (upd H a o) h' a o):Kc P w (upd H a o) h':=λb u e=>by
 have d:=x.fresh g;by_cases f:b=a
 .subst f;rw[aw]at e;cases e;show new
 .rw[aj f]at e;show(x b u e).ia (λc v _ q=>k c v q) (λc q=>by rw[aj (bM q d)];show q) λc xs q=>by rw[aj (bM q d)];show q
end
abbrev Rd(H:Hp)(a:gi)(u:HO):Prop:=H a=a0 u\/∃o,H a=a0 (.J_ o u)
def Rd.ok(r:Rd H a u)(x:Kc P w H h):bF P w H h a u:=by
 rcases r with r|⟨o,r⟩
 .show x a u r
 .have(_,q):=x a _ r;show q
def PZ:Option HO->Prop
 |some (.lst _)=>True
 |some (.dK _)=>True
 |some (.dT _)=>True
 |some (.set _ _)=>True
 |some (.ins _ _ _)=>True
 |some (.ext _)=>True
 |_=>False
section
def Kc.write(j:Kc P w H h)(mu:PZ (H x))(f:e=x\/H e=a0 (.own x))(k:∀b u,b≠e->h.get? b=a0 u->h'.get? b=a0 u)(l:∃u,h'.get? e=a0 u)
  (new:bF P w (upd H x o') h' x o'):Kc P w (upd H x o') h':=λb u q=>by
 have g:∀c y,H c=a0 (.own y)->c≠x:=λc y r z=>by subst z;rw[r]at mu;show mu
 have m:∀c xs,H c=a0 (.tup xs)->c≠x:=λc xs r z=>by subst z;rw[r]at mu;show mu
 by_cases a:b=x
 .subst a;rw[aw]at q;cases q;show new
 .rw[aj a]at q;by_cases d:b=e
  .have i:H b=a0 (.own x):=by
    rcases f with z|z
    .show absurd (d.trans z) a
    .rw[d];show z
   rw[q]at i;cases i;have(v,n):=l;show#[v,by rw[d];show n]
  .show(j b u q).ia (λc v hc r=>k c v ?_ r) (λc r=>by rw[aj (g c b r)];show r) λc xs r=>by rw[aj (m c xs r)];show r
   rcases hc with rfl|hc
   .show d
   .rintro rfl;rcases f with z|z
    .show g c b hc z
    .rw[hc]at z;cases z;show a rfl
end
structure Un(fs ex:List gi)(H H':Hp)(h h':Mt):Prop where
 keep:∀b o,h.get? b=a0 o->H b=bD->b∉fs->b∉ex->h'.get? b=a0 o
 slot:∀b o,h.get? b=a0 o->H b=bD->b∈fs->b∉ex->∃sl,h'.get? b=a0 {o with slots:=sl}
 free:∀b o,h.get? b=a0 o->H b=bD->b∉ex->H' b=bD
 there:∀b o,h.get? b=a0 o->b∉ex->∃o',h'.get? b=a0 o'
 iu:∀b xs,H b=a0 (.tup xs)->H' b=a0 (.tup xs)
 KN:∀b o u,H b=a0 (.J_ o u)->H' b=a0 (.J_ o u)
 K3:∀b ps,H b=a0 (.N_ ps)->∃more,H' b=a0 (.N_ (ps++more))
section
def Un.any(u:Un e ex H i h f)(q:h.get? b=a0 a)(n:H b=bD)(c:b∉ex):∃g,f.get? b=a0 {a with slots:=g}:=by
 by_cases d:b∈e
 .show u.slot b a q n d c
 .show#[a.slots,u.keep b a q n d c]
def Un.kept(k:∀b u,h.get? b=a0 u->h'.get? b=a0 u):Un c ex H H h h' :=
 #[λb a q _ _ _=>k b a q,λb a q _ _ _=>#[a.slots,k b a q],λ_ _ _ n _=>n,λb a q _=>#[a,k b a q],λ_ _ q=>q,λ_ _ _ q=>q,λ_ ps q=>#[#v[],by rw[q];simp]]
def Un.refl:Un a ex H H h h:=Un.kept λ_ _ q=>q
def Un.laid(k:∀b u,h.get? b=a0 u->h'.get? b=a0 u)(d:h.objs.size<=a)(c:H a=bD):Un e ex H (upd H a o) h h' where
 keep:=λb u q _ _ _=>k b u q
 slot:=λb u q _ _ _=>#[u.slots,k b u q]
 free:=λb u q n _=>by rw[aj (gr (l' (fS q) d))];show n
 there:=λb u q _=>#[u,k b u q]
 iu:=λb xs q=>by rw[aj (bM q c)];show q
 KN:=λb u xs q=>by rw[aj (bM q c)];show q
 K3:=λb ps q=>#[#v[],by rw[aj (bM q c),q];simp]
def Un.write(mu:PZ (H x))(g:e=x\/H e=a0 (.own x))(k:∀b u,b≠e->h.get? b=a0 u->h'.get? b=a0 u)(i:∃u,h'.get? e=a0 u):Un l ex H (upd H x o) h h':=by
 have c:∀b,H b=bD->b≠x:=λb n z=>by subst z;rw[n]at mu;show mu
 have d:∀b,H b=bD->b≠e:=λb n z=>by
  subst z;rcases g with r|r
  .show c b n r
  .rw[n]at r;cases r
 have a:∀b u,H b=a0 u->¬PZ (a0 u)->b≠x:=λb u q j z=>by subst z;rw[q]at mu;show j mu
 show#[λb u q n _ _=>k b u (d b n) q,λb u q n _ _=>#[u.slots,k b u (d b n) q],λb u q n _=>by rw[aj (c b n)];show n,λb u q _=>?_,
  λb xs q=>by rw[aj (a b _ q λz=>z)];show q,λb u xs q=>by rw[aj (a b _ q λz=>z)];show q,λb ps q=>#[#v[],by rw[aj (a b _ q λz=>z),q];simp]]
 by_cases f:b=e
 .subst f;show i
 .show#[u,k b u f q]
end
abbrev Rr(h:Mt)(H:Hp):List gi:=(hH h.objs.size).filter λa=>(H a).isSome
abbrev oZ(h:Mt)(H:Hp):Mt:=PySem.W.hideAll h (Rr h H)
def wQ(h:Mt)(H:Hp):(oZ h H).objs.size=h.objs.size:=PySem.W.hideAll_size _ _
def yf(e:h.get? b=a0 o)(n:H b=bD):(oZ h H).get? b=a0 o :=
 PySem.W.hideAll_get _ e λa=>by
  have q:(H b).isSome=b5:=(oa.mp a).2;rw[n]at q;simp at q
def Bb(e:(oZ h H).get? b=a0 o):h.get? b=a0 o/\H b=bD:=by
 have a:h.get? b=a0 o:=PySem.W.of_hideAll (Rr h H) e;show#[a,?_];cases q:H b with
 |none=>rfl
 |some x =>
  have c:b∈Rr h H:=oa.mpr #[Jl.mpr (fS a),by simp[q]];have z:(oZ h H).get? b=bD:=PySem.W.hideAll_none (Rr h H) c;rw[z]at e;cases e
structure Mod(K:PySem.W.Frag)(mg:Str->Option dV)(base:Mt):Prop where
 SD:K.In base
 glob:base.Ns K2 mg
 blt:∃mb,base.Ns XJ mb/\∀x:Str,x≠"__name__"->mb x=H8 x
 nolimit:base.NoLimit
structure Cx where
 prog:B'
 w:JT
 K:PySem.W.Frag
 mg:Str->Option dV
 base:Mt
 A:PV
 N:List Str
 s₀:gj
 H₀:Hp
 env:Env
 outer:List Env
 stack:List Env
 ex:List gi
 fn:Str->Bool
 calm:Bool
 pn:List (gi×Obj)
 xe:dV->gj->Prop
abbrev LP(l:List Env):List gi:=l.filterMap (·.frame)
noncomputable abbrev Cx.fs(X:Cx):List gi:=LP X.outer
abbrev K4(a:P0)(x:Str):Prop:=a.names.lookup x=a0 .local\/a.names.lookup x=a0 .cell\/a.names.lookup x=a0 .free
abbrev Loc(a:P0)(x:Str):Prop:=a.names.lookup x=a0 .local\/a.names.lookup x=a0 .cell
abbrev Look(env:Env)(h:Mt)(m:Str->Option dV)(x:Str)(u:dV):Prop :=
 (env.kindOf x=a0 .local/\m x=a0 u)\/((env.kindOf x=a0 .cell\/env.kindOf x=a0 .free)/\∃c,env.cells.lookup x=a0 c/\h.IsCell c (a0 u))
structure Cx.Ok(X:Cx):Prop where
 mod:Mod X.K X.mg X.base
 kind:X.env.scope.kind=.function
 glob:X.env.globals=K2
 blt:X.env.builtins=XJ
 above:X.s₀.heap.objs.size<=X.env.locals
 inj:∀x y c,X.env.cells.lookup x=a0 c->X.env.cells.lookup y=a0 c->x=y
 has:∀x,(X.env.kindOf x=a0 .cell\/X.env.kindOf x=a0 .free)->∃c,X.env.cells.lookup x=a0 c
 P4:∀x c,X.fn x=b5->X.env.cells.lookup x=a0 c->X.s₀.heap.objs.size<=c
 hd:X.calm=b5->X.A.handled=bD
 frames:X.A.frames=a0 X.stack
 Oc:X.stack=X.outer\/(X.stack=X.env::X.outer/\X.env.frame=a0 X.env.locals)
 VO:∀b∈X.ex,b≠X.env.locals/\∀x c,X.env.cells.lookup x=a0 c->c≠b
 bs:∀b o,X.base.get? b=a0 o->X.s₀.heap.get? b=a0 o/\X.H₀ b=bD
 Ny:X.base.objs.size<=X.s₀.heap.objs.size
 My:∀b o,X.base.get? b=a0 o->b∉X.ex
 Na:∀b∈X.ex,b∉X.fs
 la:X.s₀.heap.FunFrames X.base X.outer
 O8:∀b∈X.fs,X.H₀ b=bD
structure Inv(X:Cx)(pins:List (gi×Obj))(σ:List (Option V))(H:Hp)(s:gj):Prop where
 ok:X.Ok
 os:s.os=X.s₀.os
 bare:XZ s.gens
 base:Un X.fs X.ex X.H₀ H X.s₀.heap s.heap
 loc:∃m,s.heap.Ns X.env.locals m/\∀(i:Nat) (x:Str) (v:V),X.N[i]?=a0 x->σ[i]?=a0 (a0 v)->K4 X.env.scope x->∃u,RelV v u/\Look X.env s.heap m x u
 cell:∀x c,X.env.cells.lookup x=a0 c->∃v,s.heap.IsCell c v
 free:H X.env.locals=bD
 JX:∀x c,X.env.cells.lookup x=a0 c->H c=bD
 pin:∀p∈X.pn++pins,s.heap.get? p.1=a0 p.2/\H p.1=bD/\p.1≠X.env.locals/\p.1∉X.fs/\∀v,p.2.data≠.cell v
 Jg:Kc X.prog X.w H s.heap
 len:σ.length=X.N.length
section
variable{X:Cx}{pins:List (gi×Obj)}{σ:List (Option V)}{H H':Hp}{s:gj}{h':Mt}
def Cx.Ok.HY(a:X.Ok)(e:X.base.get? b=a0 o):b∉X.fs:=λc=>by
 have:=(a.la.mem c).1;rw[e]at this;cases this
def Inv.bs(I:Inv X pins σ H s):∀b o,X.base.get? b=a0 o->s.heap.get? b=a0 o/\H b=bD:=λb o e =>
 #[I.base.keep b o (I.ok.bs b o e).1 (I.ok.bs b o e).2 (I.ok.HY e) (I.ok.My b o e),I.base.free b o (I.ok.bs b o e).1 (I.ok.bs b o e).2 (I.ok.My b o e)]
def Inv.bk(I:Inv X pins σ H s):∀b o,X.base.get? b=a0 o->s.heap.get? b=a0 o:=λb o e=>(I.bs b o e).1
def Inv.mod(I:Inv X pins σ H s):Mod X.K X.mg X.base:=I.ok.mod
def Inv.O9(I:Inv X pins σ H s):X.K.In s.heap:=I.ok.mod.SD.keeps I.bk
def Inv.lt(I:Inv X pins σ H s):X.env.locals<s.heap.objs.size:=let ⟨_,a,_⟩:=I.loc;a.lt
def Inv.sz(I:Inv X pins σ H s):X.s₀.heap.objs.size<=s.heap.objs.size:=K' I.ok.above (OE I.lt)
def Inv.D0(I:Inv X pins σ H s)(h:s.heap.objs.size<=a):a∉X.fs:=λb=>by
 have(_,o,ho,_):=I.ok.la.mem b;show absurd (l' (fS ho) (K' I.sz h)) (ve _)
def Inv.Oe(I:Inv X pins σ H s):∀x c,X.env.cells.lookup x=a0 c->c≠X.env.locals:=λx c e z=>by
 have(v,o,ho,a):=I.cell x c e;have(m,(o',es,ep,b,d,_),_):=I.loc;rw[z,b]at ho;cases ho;rw[d]at a;cases a
def Inv.la(I:Inv X pins σ H s):s.heap.FunFrames X.base X.outer:=by
 have all:∀(l:List Env),(∀b∈LP l,b∈X.fs)->X.s₀.heap.FunFrames X.base l->s.heap.FunFrames X.base l:=by
  intro l;induction l with
  |nil=>intro _ _;trivial
  |cons env r f =>
   intro hs hl;have(hk,(L,o,a,g,ho,h),i):=hl;have c:L∈X.fs:=hs L (by unfold LP;rw[Po,a];show k7);have(j,e):=I.base.slot L o ho (I.ok.O8 L c) c λz=>I.ok.Na L z c;show#[hk,#[L,_,a,g,e,h],f (λb d=>hs b (by unfold LP;rw[Po,a];show nC _ d)) i]
 show all X.outer (λ_ d=>d) I.ok.la
def Inv.stack(I:Inv X pins σ H s):s.heap.FunFrames X.base X.stack:=by
 rcases I.ok.Oc with e|⟨e,a⟩
 .rw[e];show I.la
 .rw[e];have(m,b,_):=I.loc;show .cons (by rw[I.ok.kind];decide) a b ?_ I.la;show Heap.get?_none_of_le (K' I.ok.Ny I.ok.above)
def Inv.lb(I:Inv X pins σ H s):∀b∈LP X.stack,b∈X.env.locals::X.fs:=λb a=>by
 rcases I.ok.Oc with e|⟨e,c⟩
 .rw[e]at a;show nC _ a
 .rw[e]at a;unfold LP at a;rw[Po,c]at a;show a
def Inv.uJ(I:Inv X pins σ H s):∀b∈LP X.stack,H b=bD:=λb hb=>by
 rcases fR.mp (I.lb b hb) with e|hb
 .rw[e];show I.free
 .have(_,o,ho,_):=I.ok.la.mem hb;show I.base.free b o ho (I.ok.O8 b hb) λz=>I.ok.Na b z hb
def Inv.step{ch:List gi}(I:Inv X pins σ H s)
  (j:∀b∈ch,(b∈X.ex\/X.s₀.heap.objs.size<=b)/\b≠X.env.locals/\(∀x c,X.env.cells.lookup x=a0 c->c≠b)/\∀p∈X.pn++pins,p.1≠b)
  (keep:∀b o,b≠X.env.locals->b∉X.fs->b∉ch->s.heap.get? b=a0 o->H b=bD->h'.get? b=a0 o)
  (slot:∀b o,b≠X.env.locals->b∈X.fs->b∉ch->s.heap.get? b=a0 o->H b=bD->∃C,h'.get? b=a0 {o with slots:=C}) (free:∀b o,b∉ch->s.heap.get? b=a0 o->H b=bD->H' b=bD)
  (there:∀b o,b∉ch->s.heap.get? b=a0 o->∃o',h'.get? b=a0 o')
  (iu:∀b xs,H b=a0 (.tup xs)->H' b=a0 (.tup xs)) (KN:∀b o u,H b=a0 (.J_ o u)->H' b=a0 (.J_ o u)) (K3:∀b ps,H b=a0 (.N_ ps)->∃t,H' b=a0 (.N_ (ps++t)))
  (ns:∀m,s.heap.Ns X.env.locals m->h'.Ns X.env.locals m) (Q:Kc X.prog X.w H' h') (T:XZ g') :
  Inv X pins σ H' {s with heap:=h',gens:=g',drawn:=d',toks:=t' }:=by
 have G:∀b o,X.s₀.heap.get? b=a0 o->b≠X.env.locals:=λb o e=>gr (l' (fS e) I.ok.above);have B:∀b o,X.s₀.heap.get? b=a0 o->b∉X.ex->b∉ch:=λb o e a h=>by
  rcases(j b h).1 with z|z
  .show a z
  .show absurd (l' (fS e) z) (ve _)
 have f:∀x c,X.env.cells.lookup x=a0 c->∀v,s.heap.IsCell c v->h'.IsCell c v:=λx c e v Y=>by
  have(o,ho,D):=Y;have y:c∉ch:=λz=>(j c z).2.2.1 x c e rfl;by_cases J:c∈X.fs
  .have(C,q):=slot c o (I.Oe x c e) J y ho (I.JX x c e);show#[_,q,D]
  .show#[o,keep c o (I.Oe x c e) J y ho (I.JX x c e),D]
 show#[I.ok,I.os,T,#[λb o e n h a=>?_,λb o e n h a=>?_,λb o e n a=>?_,λb o e a=>?_,λb xs e=>iu b xs (I.base.iu b xs e),λb o xs e=>KN b o xs (I.base.KN b o xs e),λb ps e=>?_],?_,λx c e=>?_,?_,λx c e=>?_,λp L=>?_,Q,I.len]
 .show keep b o (G b o e) h (B b o e a) (I.base.keep b o e n h a) (I.base.free b o e n a)
 .have(C,g):=I.base.slot b o e n h a;have(XC,A):=slot b _ (G b o e) h (B b o e a) g (I.base.free b o e n a);show#[XC,A]
 .have(o',g):=I.base.there b o e a;show free b o' (B b o e a) g (I.base.free b o e n a)
 .have(o',g):=I.base.there b o e a;show there b o' (B b o e a) g
 .have(m1,g):=I.base.K3 b ps e;have(m2,A):=K3 b _ g;show#[m1++m2,by rw[A,Array.append_assoc]]
 .have(m,hn,hl):=I.loc;show#[m,ns m hn,λi x v g A e3=>?_];have(u,r,l):=hl i x v g A e3;show#[u,r,?_];rcases l with l|⟨k,c,e,z⟩
  .show .inl l
  .show .inr #[k,c,e,f x c e _ z]
 .have(v,z):=I.cell x c e;show#[v,f x c e v z]
 .have(m,(o,_,_,ho,_),_):=I.loc;show free _ o (λz=>(j _ z).2.1 rfl) ho I.free
 .have(v,o,ho,D):=I.cell x c e;show free c o (λz=>(j c z).2.2.1 x c e rfl) ho (I.JX x c e)
 .have(e,n,N,O,d):=I.pin p L;have y:p.1∉ch:=λz=>(j p.1 z).2.2.2 p L rfl;show#[keep p.1 p.2 N O y e n,free p.1 p.2 y e n,N,O,d]
def Inv.un(I:Inv X pins σ H s)(u:Un X.fs [] H H' s.heap h')(d:Kc X.prog X.w H' h'):Inv X pins σ H' {s with heap:=h',toks:=t' }:=by
 have(m,(o,es,ep,ho,r),_):=id I.loc;have(k,f):=u.any ho I.free (by simp);show I.step (g':=s.gens) (d':=s.drawn) (ch:=[]) (λ_ z=>nomatch z) (λb o _ a _ e n=>u.keep b o e n a (by simp)) (λb o _ a _ e n=>u.slot b o e n a (by simp)) (λb o _ e n=>u.free b o e n (by simp)) (λb o _ e=>u.there b o e (by simp)) u.iu u.KN u.K3 (λl g=>by
  have(o',h,i,c,j):=g;rw[ho]at c;cases c;show#[_,h,i,f,j]) d I.bare
def Inv.call(I:Inv X pins σ H s)(u:Un (LP X.stack) ch H H' s.heap h')(h:Kc X.prog X.w H' h')(i:XZ g')
  (f:∀b∈ch,(b∈X.ex\/X.s₀.heap.objs.size<=b)/\b≠X.env.locals/\(∀x c,X.env.cells.lookup x=a0 c->c≠b)/\∀p∈X.pn++pins,p.1≠b) :
  Inv X pins σ H' {s with heap:=h',gens:=g',drawn:=d',toks:=t' }:=by
 have(m,(o,es,ep,ho,r),_):=id I.loc;have(v,d):=u.any ho I.free λz=>(f _ z).2.1 rfl;show I.step (ch:=ch) f (λb o d j a e n=>u.keep b o e n (λz=>(fR.mp (I.lb b z)).elim d j) a) (λb o _ _ a e n=>u.any e n a) (λb o a e n=>u.free b o e n a) (λb o a e=>u.there b o e a) u.iu u.KN u.K3 (λy k=>by
  have(o',l,q,g,t):=k;rw[ho]at g;cases g;show#[_,l,q,d,t]) h i
def Inv.turned(I:Inv X pins σ H s)(k:∀b o,b≠it->s.heap.get? b=a0 o->h'.get? b=a0 o)(g:H it=bD)(d:it≠X.env.locals)
  (h:it∈X.ex\/X.s₀.heap.objs.size<=it) (i:∀x c,X.env.cells.lookup x=a0 c->c≠it) (j:∀p∈X.pn++pins,p.1≠it):Inv X pins σ H {s with heap:=h',toks:=t' }:=by
 have f:∀b u,H b=a0 u->b≠it:=λb u e z=>by rw[z,g]at e;cases e
 show I.step (g':=s.gens) (d':=s.drawn) (ch:=[it]) (λb l=>?_) (λb o _ _ a e _=>k b o (λz=>a (by simp[z])) e) (λb o _ _ a e _=>#[o.slots,k b o (λz=>a (by simp[z])) e]) (λ_ _ _ _ n=>n)
  (λb o a e=>#[o,k b o (λz=>a (by simp[z])) e]) (λ_ _ e=>e) (λ_ _ _ e=>e) (λb ps e=>#[#v[],by rw[e];simp]) (λm t=>?_) (λb u e=>?_) I.bare
 .have e:b=it:=by simpa using l
  subst e;show#[h,d,i,j]
 .have(o,es,ep,ho,r):=t;show#[o,es,ep,k _ o (uv d) ho,r]
 .show(I.Jg b u e).ia (λc v a q=>k c v ?_ q) (λ_ q=>q) λ_ _ q=>q;rcases a with z|z
  .rw[z];show f b u e
  .show f c _ z
def Inv.tok(I:Inv X pins σ H s)(t:Nat):Inv X pins σ H {s with toks:=t}:=I.un (h':=s.heap) (t':=t) Un.refl I.Jg
def Inv.kept(I:Inv X pins σ H s)(k:∀b u,s.heap.get? b=a0 u->h'.get? b=a0 u):Inv X pins σ H {s with heap:=h',toks:=t' }:=I.un (Un.kept k) (I.Jg.kept k)
def Inv.laid(I:Inv X pins σ H s)(k:∀b u,s.heap.get? b=a0 u->h'.get? b=a0 u)(c:s.heap.objs.size<=a)(new:bF X.prog X.w (upd H a o) h' a o):
  Inv X pins σ (upd H a o) {s with heap:=h',toks:=t' }:=I.un (Un.laid k c (I.Jg.fresh c)) (I.Jg.laid k c new)
def Inv.write(I:Inv X pins σ H s)(mu:PZ (H x))(a:e=x\/H e=a0 (.own x))(k:∀b u,b≠e->s.heap.get? b=a0 u->h'.get? b=a0 u)(c:∃u,h'.get? e=a0 u)
  (new:bF X.prog X.w (upd H x o) h' x o):Inv X pins σ (upd H x o) {s with heap:=h',toks:=t' }:=I.un (Un.write mu a k c) (I.Jg.write mu a k c new)
def Inv.weak(I:Inv X pins σ H s)(hl:a.length=σ.length)(w:∀(i:Nat) v,a[i]?=a0 (a0 v)->σ[i]?=a0 (a0 v)):Inv X pins a H s :=
 #[I.ok,I.os,I.bare,I.base,let ⟨m,b,c⟩:=I.loc;⟨m,b,λi x v d e f=>c i x v d (w i v e) f⟩,I.cell,I.free,I.JX,I.pin,I.Jg,hl.trans I.len]
def Inv.d_(I:Inv X pins σ H s)(h:∀p∈a,s.heap.get? p.1=a0 p.2/\H p.1=bD/\p.1≠X.env.locals/\p.1∉X.fs/\∀v,p.2.data≠.cell v):Inv X a σ H s :=
 #[I.ok,I.os,I.bare,I.base,I.loc,I.cell,I.free,I.JX,λp b=>(hZ.mp b).elim (λz=>I.pin p (Xj _ z)) (h p),I.Jg,I.len]
def lj{N:List Str}(c:N.Nodup){i j:Nat}(a:N[i]?=a0 x)(b:N[j]?=a0 x):i=j:=by
 have(f,d):=et.mp a;have(g,e):=et.mp b;show(Zz c).mp (d.trans e.symm)
def nI(I:Inv X pins σ H s)(hN:X.N.Nodup)(D:X.N[i]?=a0 x)(l:Loc X.env.scope x)(r:RelV v u)
  (h:∀s',Inv X pins (σ.set i (a0 v)) H s'->(∃a,sx a s.heap s'.heap/\(a=X.env.locals\/X.env.cells.lookup x=a0 a))->Q () s') (hf:X.fn x=b5\/X.env.scope.names.lookup x=a0 .local:=by first|show .inl rfl|show .inr rfl|assumption):eW M A (storeName X.env x u) Q E s:=by
 have(m,O,hl):=id I.loc;have SE:(X.env.scope.kind==.class||(X.env.scope.kind==.module&&X.env.locals != X.env.globals))=cb:=by rw[I.ok.kind];rfl
 have VQ:i < σ.length:=by rw[I.len];show(et.mp D).1
 have T:=I.Oe;have f:∀{a:gi} {h':Mt},(∃o,s.heap.get? a=a0 o/\H a=bD)->sx a s.heap h'->Kc X.prog X.w H h':=λ{a h'} ha hs b ob e=>by
  have(_,_,JF):=ha;show(I.Jg b ob e).ia (λc G hc q=>(hs.2 c ?_).trans q) (λ_ q=>q) λ_ _ q=>q;rintro rfl;rcases hc with rfl|hc
  .rw[JF]at e;cases e
  .rw[JF]at hc;cases hc
 rcases l with hk|hk
 .show wpAny_storeName_local hk O (λh' Of hs=>?_) SE;have(oL,_,_,L4,_):=id O;show h _ #[I.ok,I.os,I.bare,#[λb o e n B l=>?_,λb o e n B l=>?_,I.base.free,λb o e l=>?_,I.base.iu,I.base.KN,I.base.K3],#[_,Of,λj y Y g t e3=>?_],λy c e=>?_,I.free,I.JX,λp hp=>?_,f #[oL,L4,I.free] hs,by simpa using I.len] ⟨_,hs,.inl rfl⟩
  .show(hs.2 b (gr (l' (fS e) I.ok.above))).trans (I.base.keep b o e n B l)
  .have(sl,g):=I.base.slot b o e n B l;show#[sl,(hs.2 b (gr (l' (fS e) I.ok.above))).trans g]
  .have(o',g):=I.base.there b o e l;show#[o',(hs.2 b (gr (l' (fS e) I.ok.above))).trans g]
  .by_cases C:j=i
   .subst C;rw[D]at g;cases g;rw[gs VQ]at t;cases t;show#[u,r,.inl #[hk,by simp]]
   .rw[mA (uv C)]at t;have(u',r',q):=hl j y Y g t e3;show#[u',r',?_];rcases q with⟨k,e⟩|⟨k,c,e,z⟩
    .show .inl #[k,?_];have:y≠x:=λe=>C (lj hN g (e▸D));simp[this,e]
    .show .inr #[k,c,e,z.sameBut hs (T y c e)]
  .have(G,z):=I.cell y c e;show#[G,z.sameBut hs (T y c e)]
  .have(e,n,J,nf,d):=I.pin p hp;show#[(hs.2 p.1 J).trans e,n,J,nf,d]
 .have Lw:X.fn x=b5:=by
   rcases hf with z|z
   .show z
   .rw[z]at hk;cases hk
  have(c,hc):=I.ok.has x (.inl hk);have(G,z):=I.cell x c hc;show wpAny_storeName_cell I.ok.kind hk hc z (λh' M1 hs=>?_);have(oc,VR,SF):=id z;show h {s with heap:=h' } ⟨I.ok,I.os,I.bare,⟨λb o e n B l=>?_,λb o e n B l=>?_,I.base.free,λb o e l=>?_,I.base.iu,I.base.KN,I.base.K3⟩,⟨m,O.sameBut hs (uv (T x c hc)),λj y Y g t e3=>?_⟩,λy L e=>?_,I.free,I.JX,λp hp=>?_,f ⟨oc,VR,I.JX x c hc⟩ hs,by simpa using I.len⟩ ⟨c,hs,.inr hc⟩
  .show(hs.2 b (gr (l' (fS e) (I.ok.P4 x c Lw hc)))).trans (I.base.keep b o e n B l)
  .have(sl,g):=I.base.slot b o e n B l;show#[sl,(hs.2 b (gr (l' (fS e) (I.ok.P4 x c Lw hc)))).trans g]
  .have(o',g):=I.base.there b o e l;show#[o',(hs.2 b (gr (l' (fS e) (I.ok.P4 x c Lw hc)))).trans g]
  .by_cases C:j=i
   .subst C;rw[D]at g;cases g;rw[gs VQ]at t;cases t;show#[u,r,.inr #[.inl hk,c,hc,M1]]
   .rw[mA (uv C)]at t;have(u',r',q):=hl j y Y g t e3;show#[u',r',?_];rcases q with q|⟨k,L,e,z'⟩
    .show .inl q
    .show .inr #[k,L,e,z'.sameBut hs ?_];rintro rfl;show C (lj hN g (I.ok.inj _ _ _ e hc▸D))
  .by_cases VS:L=c
   .subst VS;show#[_,M1]
   .have(w2,z2):=I.cell y L e;show#[w2,z2.sameBut hs VS]
  .have(e,n,J,nf,d):=I.pin p hp;show#[(hs.2 p.1 ?_).trans e,n,J,nf,d];intro q;rw[q,VR]at e;have q':oc=p.2:=tA e;show d G (by rw[<-q'];show SF)
def qK(I:Inv X pins σ H s)(a:X.N.Nodup)(b:X.N[i]?=a0 x)(c:Loc X.env.scope x)(r:RelV v u)
  (h:∀s',Inv X pins (σ.set i (a0 v)) H s'->Q () s') (d:X.fn x=b5\/X.env.scope.names.lookup x=a0 .local:=by first|show .inl rfl|show .inr rfl|assumption):eW M A (storeName X.env x u) Q E s :=
 nI I a b c r (λs' e _=>h s' e) d
def Inv.Gg(I:Inv X pins σ H s)(ho:s'.os=s.os)(u:Un (LP X.stack) ch H H' s.heap s'.heap)(a:Kc X.prog X.w H' s'.heap)(d:XZ s'.gens)
  (f:∀b∈ch,(b∈X.ex\/X.s₀.heap.objs.size<=b)/\b≠X.env.locals/\(∀x c,X.env.cells.lookup x=a0 c->c≠b)/\∀p∈X.pn++pins,p.1≠b):Inv X pins σ H' s':=by
 have(h',g',d',t',o'):=s';have e:o'=s.os:=ho;subst e;show I.call (g':=g') (t':=t') (d':=d') u a d f
end
@[reducible]def XK:=dV->Option gi->Hp->Prop
@[reducible]def St:=List (Option V)
@[reducible]def VK:=V->Hp->Prop
@[reducible]def TE:=St->Hp->VK->Prop
@[reducible]def TT:=St->Hp->(Bool->Hp->Prop)->Prop
@[reducible]def TA:=St->Hp->(List V->Hp->Prop)->Prop
structure Ends where
 nx:St->Hp->Prop
 rt:VK
 bk:St->Hp->Prop:=λ_ _=>False
 ct:St->Hp->Prop:=λ_ _=>False
@[reducible]def TS:=Ends->St->Hp->Prop
abbrev EP(X:Cx)(a:List (gi×Obj))(σ:St)(Q:VK)(u:dV)(s':gj):Prop:=∃v H',Inv X a σ H' s'/\RelV v u/\Q v H'
abbrev TP(X:Cx)(a:List (gi×Obj))(σ:St)(Q:Bool->Hp->Prop)(b:Bool)(s':gj):Prop:=∃H',Inv X a σ H' s'/\Q b H'
abbrev AP(X:Cx)(a:List (gi×Obj))(σ:St)(Q:List V->Hp->Prop)(us:List dV)(s':gj):Prop:=∃vs H',Inv X a σ H' s'/\Vals vs us/\Q vs H'
abbrev SP(X:Cx)(a:List (gi×Obj))(D:Ends)(f:Flow)(s':gj):Prop :=
 match f with
 |.next=>∃b H',Inv X a b H' s'/\D.nx b H'
 |.brk=>∃b H',Inv X a b H' s'/\D.bk b H'
 |.cont=>∃b H',Inv X a b H' s'/\D.ct b H'
 |.ret u=>∃v b H',Inv X a b H' s'/\RelV v u/\D.rt v H'
abbrev PE(X:Cx)(e:ro)(t:TE):Prop :=
 ∀(a:List (gi×Obj)) (s:gj) (σ:St) (H:Hp) (Q:VK),Inv X a σ H s->t σ H Q->eW (hJ X.prog X.w) X.A (K6 e X.env) (EP X a σ Q) X.xe s
abbrev PT(X:Cx)(e:ro)(t:TT):Prop :=
 ∀(a:List (gi×Obj)) (s:gj) (σ:St) (H:Hp) (Q:Bool->Hp->Prop),Inv X a σ H s->t σ H Q->eW (hJ X.prog X.w) X.A (isTrue e X.env (K6 e X.env)) (TP X a σ Q) X.xe s
abbrev PW(X:Cx)(e:ro)(t:TT):Prop :=
 ∀(b:Sem dV) (a:List (gi×Obj)) (s:gj) (σ:St) (H:Hp) (Q:Bool->Hp->Prop),Inv X a σ H s->t σ H Q->eW (hJ X.prog X.w) X.A (isTrue e X.env b) (TP X a σ Q) X.xe s
def PW.pt(h:PW X e t):PT X e t:=h _
abbrev PA(X:Cx)(es:List ro)(t:TA):Prop :=
 ∀(pos:Pos) (a:List (gi×Obj)) (s:gj) (σ:St) (H:Hp) (Q:List V->Hp->Prop),Inv X a σ H s->t σ H Q->eW (hJ X.prog X.w) X.A (Τ (M3 pos (mh es X.env))) (AP X a σ Q) X.xe s
abbrev PS(X:Cx)(st:QO)(t:TS):Prop :=
 ∀(a:List (gi×Obj)) (s:gj) (σ:St) (H:Hp) (D:Ends),Inv X a σ H s->t D σ H->eW (hJ X.prog X.w) X.A (exec st X.env) (SP X a D) X.xe s
abbrev Kl(X:Cx)(st:List QO)(t:TS):Prop :=
 ∀(a:List (gi×Obj)) (s:gj) (σ:St) (H:Hp) (D:Ends),Inv X a σ H s->t D σ H->eW (hJ X.prog X.w) X.A (execs st X.env) (SP X a D) X.xe s
def Jj(h:eW M A t Q E s)(b:∀a s,Q a s->Q' a s):eW M A t Q' E s:=HT h b λ_ _ x=>x
section
abbrev HZ(i:Nat):TE:=λσ H Q=>∃v,σ[i]?=a0 (a0 v)/\Q v H
abbrev tC(v:V):TE:=λ_ H Q=>Q v H
def cD(j:X.N[i]?=a0 x)(k:K4 X.env.scope x)(d:(x==("__debug__":Str))=cb:=by decide)(n:(x==("__classdict__":Str))=cb:=by decide):PE X (.Name x pos) (HZ i):=by
 intro b s σ H Q I h;have(v,e,h):=h;have(m,o,hl):=I.loc;have(u,r,l):=hl i x v j e k;have a:EP X b σ Q u s:=#[v,H,I,r,h]
 rcases l with⟨hk,p⟩|⟨hk,c,f,g⟩
 .show Ž (wpAny_loadName_local I.ok.kind hk o p a) d
 .rcases hk with hk|hk
  .show Ž (wpAny_loadName_cell I.ok.kind hk f g a) d
  .show Ž (wpAny_loadName_free I.ok.kind hk f g a n) d
def yg:PE X (.Constant (.int i) j pos) (tC (.int i)):=λ_ _ _ H _ I h=>wpAny_Constant_int #[.int i,H,I.tok _,#[_,rfl],h]
def yh:PE X (.Constant (.bool b) j pos) (tC (.bl b)):=λ_ _ _ H _ I h=>Constant_bool #[.bl b,H,I,rfl,h]
def yi:PE X (.Constant .none j pos) (tC .Jp):=λ_ _ _ H _ I h=>Constant_none #[.Jp,H,I,rfl,h]
def yj:PE X (.Constant (.str x) j pos) (tC (.str x)):=λ_ _ _ H _ I h=>Calls.Constant_str #[.str x,H,I.tok _,#[_,rfl],h]
abbrev Gl(X:Cx)(x:Str):Prop:=X.env.kindOf x=a0 .globalImplicit
def uK(I:Inv X a σ H s)(b:Gl X x)(c:X.mg x=a0 u)(h:Q u s)
  (d:(x==("__debug__":Str))=cb:=by decide):eW (hJ X.prog X.w) X.A (K6 (.Name x pos) X.env) Q E s :=
 Ò I.ok.kind b (Calls.loadGlobal_global (by rw[I.ok.glob];show I.mod.glob.keeps I.bk) c h) d
def cU(I:Inv X a σ H s)(b:Gl X x)(c:X.mg x=bD)(d:H8 x=a0 u)(h:Q u s)
  (e:x≠"__name__":=by decide) (f:(x==("__debug__":Str))=cb:=by decide):eW (hJ X.prog X.w) X.A (K6 (.Name x pos) X.env) Q E s:=by
 have(j,g,i):=I.mod.blt;show Ò I.ok.kind b (Calls.loadGlobal_builtin (by rw[I.ok.glob];show I.mod.glob.keeps I.bk) c (by rw[I.ok.blt];show g.keeps I.bk) ((i x e).trans d) h) f
def Bc(a:Gl X x)(b:X.mg x=a0 u)(r:RelV v u)(c:(x==("__debug__":Str))=cb:=by decide):PE X (.Name x pos) (tC v) :=
 λ_ _ _ H _ I h=>uK I a b #[v,H,I,r,h] c
def Bd(a:Gl X x)(b:X.mg x=bD)(c:H8 x=a0 u)(r:RelV v u)(d:x≠"__name__":=by decide)(e:(x==("__debug__":Str))=cb:=by decide):PE X (.Name x pos) (tC v) :=
 λ_ _ _ H _ I h=>cU I a b c #[v,H,I,r,h] d e
abbrev PC(X:Cx)(op:CmpOp)(a b:ro)(t:TE):Prop :=
 ∀(c:List (gi×Obj)) (s:gj) (σ:St) (H:Hp) (Q:VK),Inv X c σ H s->t σ H Q ->
  eW (hJ X.prog X.w) X.A (K6 a X.env) (λv d=>eW (hJ X.prog X.w) X.A (K6 b X.env) (λu e=>eW (hJ X.prog X.w) X.A (Qg op v u) (EP X c σ Q) X.xe e) X.xe d) X.xe s
abbrev tB(t:TE):TT:=λσ H Q=>t σ H λx a=>∃c,x=.bl c/\Q c a
def yk(h:PC X op a b t)(f:UB op b=cb:=by first|show n _ (by decide) (by decide)|rfl):PT X (.Compare a [op] [b] pos) (tB t):=by
 intro e s σ H Q I g;show ŉ (Jj (h e s σ H _ I g) λv s1 f=>Jj f λu s2 i=>Jj i λc s3 ⟨x,j,k,l,m⟩=>?_) f;have(d,rfl,q):=m;cases l;show N4 #[j,k,q]
abbrev H9(t u:TT):TT:=λσ H Q=>t σ H λc a=>if c=b5 then u σ a Q else Q cb a
abbrev XD(t u:TT):TT:=λσ H Q=>t σ H λc a=>if c=b5 then Q b5 a else u σ a Q
abbrev H_(t:TT):TT:=λσ H Q=>t σ H λc a=>Q (!c) a
def Be(d:PT X a f):PW X (.BoolOp .And [a] pos) f:=by
 intro g b s σ H Q I h;show isTrue_and (Jj (d b s σ H Q I h) λc s1 e=>?_);cases c with
 |true=>show ϣ e
 |false=>show e
def D3(d:PT X a f):PW X (.BoolOp .Or [a] pos) f:=by
 intro g b s σ H Q I h;show isTrue_or (Jj (d b s σ H Q I h) λc s1 e=>?_);cases c with
 |false=>show isTrue_or_nil e
 |true=>show e
def D4(j:PT X a k)(l:PW X (.BoolOp .And (b::e) pos) m):PW X (.BoolOp .And (a::b::e) pos) (H9 k m):=by
 intro n d s σ H Q I h;show isTrue_and (Jj (j d s σ H _ I h) λc s1 o=>?_);have(f,g,i):=o;cases c with
 |true=>show l n d s1 σ f Q g i
 |false=>show#[f,g,i]
def Gh(j:PT X a k)(l:PW X (.BoolOp .Or (b::e) pos) m):PW X (.BoolOp .Or (a::b::e) pos) (XD k m):=by
 intro n d s σ H Q I h;show isTrue_or (Jj (j d s σ H _ I h) λc s1 o=>?_);have(f,g,i):=o;cases c with
 |true=>show#[f,g,i]
 |false=>show l n d s1 σ f Q g i
def D5(d:PT X a e):PT X (.UnaryOp .Not a pos) (H_ e):=by
 intro b s σ H Q I h;show isTrue_not (d b s σ H (λc f=>Q (!c) f) I h)
abbrev Gi(b d:TE):TE:=λσ H Q=>b σ H λx a=>∃c,x=.bl c/\if c=b5 then d σ a Q else Q (.bl cb) a
abbrev Gj(a:TE):TE:=λσ H Q=>a σ H λx b=>∃c,x=.bl c/\Q (.bl (!c)) b
def D6(h:PE X a t):PE X (.BoolOp op [a] pos) t:=λb s σ H Q I c=>BoolOp_one (h b s σ H Q I c)
def D7(j:PE X a k)(l:PE X (.BoolOp .And (b::e) pos) m):PE X (.BoolOp .And (a::b::e) pos) (Gi k m):=by
 intro d s σ H Q I h;show BoolOp_and (Jj (j d s σ H _ I h) λv s1 n=>?_);have(x,g,i,o,f):=n;have(c,rfl,f):=f;cases o;show N4 ?_;cases c with
 |true=>show l d s1 σ g Q i f
 |false=>show#[.bl cb,g,i,rfl,f]
def D8(e:PE X a f):PE X (.UnaryOp .Not a pos) (Gj f):=by
 intro b s σ H Q I h;show UnaryOp_ (Jj (e b s σ H _ I h) λv s1 g=>?_);have(x,i,j,k,d):=g;have(c,rfl,d):=d;cases k;show not_of (N4 #[.bl (!c),i,j,rfl,d])
end
abbrev JG(K:PySem.W.Frag)(H:Hp)(a:gi)(xs:List V):Prop :=
 Rd H a (.lst xs) \/
  ∃(o:Obj) (its:Array dV) (n:Nat),K.lookup a=a0 o/\o.cls=.type "list"/\o.dict=bD/\o.data=.seq its n/\its.size<=dt/\Vals xs its.toList
abbrev JH(K:PySem.W.Frag)(H:Hp)(a:gi)(xs:List V):Prop :=
 Rd H a (.tup xs) \/
  ∃(o:Obj) (its:Array dV) (n:Nat),K.lookup a=a0 o/\o.cls=.type "tuple"/\o.data=.seq its n/\its.size<=dt/\Vals xs its.toList
abbrev Ic:dV->Option V
 |.none=>a0 .Jp
 |.bool b=>a0 (.bl b)
 |.int i _=>a0 (.int i)
 |.str x _=>a0 (.str x)
 |.bytes b _=>a0 (.Rp b)
 |.float b _=>a0 (.Rq b)
 |.ref a=>a0 (.ref a)
 |.type n=>a0 (.ty n)
 |_=>bD
def RelV.abs(r:RelV x u):Ic u=a0 x:=by
 cases x with
 |Jp=>cases r;rfl
 |bl _=>cases r;rfl
 |ref _=>cases r;rfl
 |ty _=>cases r;rfl
 |_=>have(t,rfl):=r;rfl
def RelV.inj(r:RelV x u)(q:RelV y u):x=y:=tA (r.abs.symm.trans q.abs)
theorem Vals.inj:∀{xs a:List V}{us:List dV},Vals xs us->Vals a us->xs=a
 |_,_,_,.nil,.nil=>rfl
 |_,_,_,.cons r t,.cons b t'=>by rw[r.inj b,Vals.inj t t']
section
def JG.of{K:PySem.W.Frag}(h:H a=a0 (.lst xs)):JG K H a xs:=.inl (.inl h)
def JH.of{K:PySem.W.Frag}(h:H a=a0 (.tup xs)):JH K H a xs:=.inl (.inl h)
def Inv.list(I:Inv X b σ H s)(h:JG X.K H a xs):∃its:List dV,Vals xs its/\PlainL s.heap a its.toArray/\xs.length<=dt:=by
 rcases h with h|⟨o,its,n,hk,c,d,hs,hz,r⟩
 .have(z,its,n,r,e):=h.ok I.Jg;show#[its,r,#[_,n,e,rfl,rfl,rfl],z]
 .show#[its.toList,r,#[o,n,I.O9 a o hk,c,d,by simpa using hs],?_];have e:=r.length;simp only[ki]at e;lia
def Inv.tuple(I:Inv X b σ H s)(h:JH X.K H a xs):∃its:List dV,Vals xs its/\IsTup s.heap a its.toArray/\xs.length<=dt:=by
 rcases h with h|⟨o,its,n,hk,c,hs,hz,r⟩
 .have(z,its,r,p):=h.ok I.Jg;show#[its,r,p,z]
 .show#[its.toList,r,#[o,I.O9 a o hk,c,n,by simpa using hs],?_];have e:=r.length;simp only[ki]at e;lia
def Inv.iG(I:Inv X b σ H s)(h:JG X.K H a xs)(h':JG X.K H a f):xs=f:=by
 have(its,r,(o,n,e,_,_,d),_):=I.list h;have(its',g,(o',j,c,_,_,d'),_):=I.list h';rw[e]at c;cases c;rw[d]at d';injection d' with i _
 have:its=its':=by simpa using ϩ ò i
 subst this;show r.inj g
def Inv.ju(I:Inv X b σ H s)(h:JH X.K H a xs)(h':JH X.K H a f):xs=f:=by
 have(its,r,(o,e,_,n,d),_):=I.tuple h;have(its',g,(o',c,_,j,d'),_):=I.tuple h';rw[e]at c;cases c;rw[d]at d';injection d' with i _
 have:its=its':=by simpa using ϩ ò i
 subst this;show r.inj g
end
@[reducible]def Cx.nh(X:Cx)(E:dV->gj->Prop):Cx:={X with xe:=E}
@[reducible]def Cx.O_(X:Cx):Cx:=X.nh λ_ _=>False
def Cx.Ok.nh{X:Cx}(a:X.Ok)(E:dV->gj->Prop):(X.nh E).Ok :=
 #[a.mod,a.kind,a.glob,a.blt,a.above,a.inj,a.has,a.P4,a.hd,a.frames,a.Oc,a.VO,a.bs,a.Ny,a.My,a.Na,a.la,a.O8]
def Cx.Ok.jv{X:Cx}(a:(X.nh E).Ok):X.Ok :=
 #[a.mod,a.kind,a.glob,a.blt,a.above,a.inj,a.has,a.P4,a.hd,a.frames,a.Oc,a.VO,a.bs,a.Ny,a.My,a.Na,a.la,a.O8]
section
def Inv.nh(I:Inv X a σ H s)(E:dV->gj->Prop):Inv (X.nh E) a σ H s:=#[I.ok.nh E,I.os,I.bare,I.base,I.loc,I.cell,I.free,I.JX,I.pin,I.Jg,I.len]
def Inv.jv(I:Inv (X.nh E) a σ H s):Inv X a σ H s:=#[I.ok.jv,I.os,I.bare,I.base,I.loc,I.cell,I.free,I.JX,I.pin,I.Jg,I.len]
def SP.jv(h:SP (X.nh E) a D f s'):SP X a D f s':=by
 cases f with
 |ret u=>have(v,b,H',I,r,q):=h;show#[v,b,H',I.jv,r,q]
 |_=>have(b,H',I,q):=h;show#[b,H',I.jv,q]
def Kl.O_{st:List QO}(h:Kl X.O_ st t):Kl X st t:=λa s σ H D I b =>
 HT (h a s σ H D (I.nh _) b) (λ_ _ q=>q.jv) λ_ _ z=>Q2 z
end
section
variable{X:Cx}{st:QO}{rest:List QO}{t u:TS}{e:ro}{te:TE}{pos:Pos}
abbrev Gk:TS:=λD σ H=>D.nx σ H
abbrev Ie(t u:TS):TS:=λD σ H=>t {D with nx:=u D} σ H
def Bg:Kl X [] Gk:=λ_ _ σ H _ I h=>ì #[σ,H,I,h]
def yl(b:PS X st t)(c:Kl X rest u):Kl X (st::rest) (Ie t u):=by
 intro a s σ H D I h;show wpAny_execs_cons (Jj (b a s σ H {D with nx:=u D} I h) λf s1 q=>?_);cases f with
 |next =>
  have(d,H',g,q):=q;show c a s1 d H' D g q
 |_=>show q
def Inv.quiet(I:Inv X a σ H s):interactive X.env=cb:=by simp[interactive,I.ok.kind]
abbrev Gm(te:TE):TS:=λD σ H=>te σ H λ_ a=>D.nx σ a
def kJ(b:PE X e te)(hs:Uo e bD pos.line X.env=pure cb:=by rfl):PS X (.Expr e pos) (Gm te):=by
 intro a s σ H D I h;show wpAny_Expr_any (Jj (b a s σ H _ I h) λv s1 ⟨x,c,d,g,f⟩=>#[σ,c,d,f]) I.quiet hs
abbrev Ig(te:TE):TS:=λD σ H=>te σ H D.rt
def ym(b:PE X e te):PS X (.Return (a0 e) pos) (Ig te):=by
 intro a s σ H D I h;show wpAny_Return_some (Jj (b a s σ H _ I h) λv s1 ⟨x,c,d,f,g⟩=>#[x,σ,c,d,f,g])
abbrev Ih(c:TT)(t u:TS):TS:=λD σ H=>c σ H λb a=>if b=b5 then t D σ a else u D σ a
def Gn(k:PT X c l)(m:Kl X a t)(n:Kl X b u):PS X (.If c a b pos) (Ih l t u):=by
 intro f s σ H D I h;show wpAny_If (Jj (k f s σ H _ I h) λd s1 o=>?_);have(g,i,j):=o;cases d with
 |true=>show m f s1 σ g D i j
 |false=>show n f s1 σ g D i j
end
@[reducible]def TG:=V->St->Hp->(St->Hp->Prop)->Prop
@[reducible]def O':=List V->St->Hp->(St->Hp->Prop)->Prop
abbrev PG(X:Cx)(a:ro)(t:TG):Prop :=
 ∀(b:List (gi×Obj)) (s:gj) (σ:St) (H:Hp) (v:V) (u:dV) (Q:St->Hp->Prop),Inv X b σ H s->RelV v u->t v σ H Q ->
  eW (hJ X.prog X.w) X.A (Wx a X.env u) (λ_ s'=>∃c H',Inv X b c H' s'/\Q c H') X.xe s
abbrev P8(X:Cx)(ts:List ro)(t:O'):Prop :=
 ∀(a:List (gi×Obj)) (s:gj) (σ:St) (H:Hp) (vs:List V) (us:List dV) (Q:St->Hp->Prop),Inv X a σ H s->Vals vs us->t vs σ H Q ->
  eW (hJ X.prog X.w) X.A (assignInOrder ((Uz ts X.env).map (·.2)) us) (λ_ s'=>∃b H',Inv X a b H' s'/\Q b H') X.xe s
@[reducible]def D9:=V->V->V->Hp->(Hp->Prop)->Prop
abbrev ll(X:Cx)(t:D9):Prop :=
 ∀(a:List (gi×Obj)) (s:gj) (σ:St) (H:Hp) (o i v:V) (b c u:dV) (Q:Hp->Prop),Inv X a σ H s->RelV o b->RelV i c->RelV v u->t o i v H Q ->
  eW (hJ X.prog X.w) X.A (XE b c u) (λ_ s'=>∃H',Inv X a σ H' s'/\Q H') X.xe s
@[reducible]def SH:=V->V->Hp->VK->Prop
abbrev Ru(X:Cx)(op:ŝ)(t:SH):Prop :=
 ∀(a:List (gi×Obj)) (s:gj) (σ:St) (H:Hp) (x y:V) (v u:dV) (Q:VK),Inv X a σ H s->RelV x v->RelV y u->t x y H Q ->
  eW (hJ X.prog X.w) X.A (inplaceOp op v u) (EP X a σ Q) X.xe s
section
abbrev uL(i:Nat):TG:=λv σ H Q=>Q (σ.set i (a0 v)) H
def uM(b:X.N.Nodup)(c:X.N[i]?=a0 x)(d:Loc X.env.scope x)(e:X.fn x=b5\/X.env.scope.names.lookup x=a0 .local:=by first|show .inl rfl|show .inr rfl|assumption):PG X (.Name x pos) (uL i):=by
 intro a s σ H v u Q I r h;show Ρ (qK I b c d r (λs' f=>#[_,H,f,h]) e)
abbrev Gp:O':=λvs σ H Q=>vs=[]/\Q σ H
abbrev Dq(t:TG)(u:O'):O':=λvs σ H Q=>∃v r,vs=v::r/\t v σ H λa H'=>u r a H' Q
def Bh:P8 X [] Gp:=by
 intro a s σ H vs us Q I r h;have(e,h):=h;subst e;cases r;show assignInOrder_nil #[σ,H,I,h]
def yn(b:PG X e t)(c:P8 X es u)
  (hs:(Uz (e::es) X.env).map (·.2)=Wx e X.env::(Uz es X.env).map (·.2):=by rfl):P8 X (e::es) (Dq t u):=by
 intro a s σ H vs us Q I r h;have(v,m,d,h):=h;subst d;cases r with
 |cons r f =>
  rw[hs];show assignInOrder_cons (Jj (b a s σ H _ _ _ I r h) λ_ s1 g=>?_);have(i,j,k,l):=g;show c a s1 i j _ _ Q k f l
abbrev Ii(K:PySem.W.Frag)(n:Nat)(t:O'):TG:=λv σ H Q=>∃a xs,v=.ref a/\JH K H a xs/\xs.length=n/\t xs σ H Q
def D_(f:X.calm=b5)(h:P8 X es t)
  (g:(Uz es X.env).length=n:=by rfl) (i:(Uz es X.env).findIdx? (·.1)=bD:=by rfl):PG X (.Tuple es k pos) (Ii X.K n t):=by
 intro c s σ H v u Q I r d;have(a,xs,j,l,hl,d):=d;subst j;cases r;have(its,rv,m,hz):=I.tuple l;show assign_Tuple_tuple (I.ok.hd f) m (by simp[g,<-hl,rv.length]) i λh' p=>?_;have q:Inv X c σ H {s with heap:=h' }:=I.kept (t':=s.toks) λb o e=>p b o (gr (fS e)) e;show h c _ σ H xs _ Q q (by simpa using rv) d
abbrev Ij(a b:TE)(t:D9):TG:=λv σ H Q=>a σ H λo c=>b σ c λi d=>t o i v d λe=>Q σ e
def yo(ho:PE X o d)(e:PE X i f)(hs:ll X t)
  (g:∀v,Wx (.Subscript o i pos) X.env v=(do
   let b <-O3 [v] (K6 o X.env)
   let c <-O3 [v,b] (K6 i X.env)
   ó pos
   O3 [v,b,c] (XE b c v)
   É [v,b,c] []):=by intro _;rfl):PG X (.Subscript o i pos) (Ij d f t):=by
 intro a s σ H v u Q I r h;rw[g];show a5 (tv (Jj (ho a s σ H _ I h) λb s1 j=>?_));have(x,k,l,m,n):=j;show a5 (tv (Jj (e a s1 σ k _ l n) λc s2 p=>?_));have(y,q,w,z,A):=p;show a5 (Ě (a5 (tv (Jj (hs a s2 σ q x y v b c u _ w m z r A) λ_ s3 B=>?_))));have(C,D,G):=B;show wpAny_release #[σ,C,D,G]
abbrev Ea(a:TE)(g:TG):TS:=λD σ H=>a σ H λx b=>g x σ b D.nx
def yp(c:PE X e d)(f:PG X b g)(hs:Ww [b] e pos.line X.env=pure cb:=by rfl)(i:Ĝ [b] e X.env=pure bD:=by rfl)
  (j:(Uz [b] X.env).map (·.2)=[Wx b X.env]:=by rfl):PS X (.Assign [b] e pos) (Ea d g):=by
 intro a s σ H D I h;show wpAny_Assign_stores (Jj (c a s σ H _ I h) λv s1 ⟨x,k,l,m,n⟩=>?_) hs i;rw[j];show Jj (f a s1 σ k x v _ l m n) λ_ s2 q=>q
def yq(c:X.N.Nodup)(d:X.N[i]?=a0 x)(f:Loc X.env.scope x)(g:PE X e j)(hs:Uo e (a0 (.Name x a)) pos.line X.env=pure cb:=by rfl)(k:X.fn x=b5\/X.env.scope.names.lookup x=a0 .local:=by first|show .inl rfl|show .inr rfl|assumption):
  PS X (.Assign [.Name x a] e pos) (Ea j (uL i)):=by
 intro b s σ H D I h;show wpAny_Assign_Name (Jj (g b s σ H _ I h) λv s1 ⟨y,l,m,n,o⟩=>?_) hs;show qK m c d f n (λs2 p=>#[_,l,p,o]) k
abbrev Gq(a b c:TE)(d:V->V->Hp->VK->Prop)(e:SH)(f:D9):TS:=λD σ H=>a σ H λo g=>b σ g λi h=>d o i h λx j=>c σ j λy k=>e x y k λz l=>f o i z l λm=>D.nx σ m
abbrev Gr(X:Cx)(t:V->V->Hp->VK->Prop):Prop :=
 ∀(a:List (gi×Obj)) (s:gj) (σ:St) (H:Hp) (o i:V) (b c:dV) (Q:VK),Inv X a σ H s->RelV o b->RelV i c->t o i H Q ->
  eW (hJ X.prog X.w) X.A (Ë b c) (EP X a σ Q) X.xe s
def Bi(ho:PE X o l)(m:PE X i n)(p:Gr X q)(r:PE X e t)(u:Ru X op w)(hs:ll X x)
  (y:∀b c new,Ϟ i b c new=(do O3 [new,b,c] (XE b c new);É [new,b,c] [];pure .next):=by intros;rfl):PS X (.AugAssign (.Subscript o i XQ) op e pos) (Gq l n t q w x):=by
 intro a s σ H D I h;show wpAny_AugAssign_SubscriptAny (Jj (ho a s σ H _ I h) λb s1 ⟨f,z,A,g,B⟩=>?_) y;show Jj (m a s1 σ z _ A B) λc s2 C=>?_;have(j,G,J,k,L):=C;show Jj (p a s2 σ G f j b c _ J g k L) λd s3 N=>?_;have(O,Q,T,Y,q3):=N;show Jj (r a s3 σ Q _ T q3) λv s4 SO=>?_;have(x4,H4,I4,r4,q4):=SO;show Jj (u a s4 σ H4 O x4 d v _ I4 Y r4 q4) λnew s5 SQ=>?_;have(x5,H5,I5,r5,q5):=SQ;show Jj (hs a s5 σ H5 f j x5 b c new _ I5 g k r5 q5) λ_ s6 ⟨H6,I6,q6⟩=>#[σ,H6,I6,q6]
abbrev SR(f:Int->Int->Int):SH:=λx y H Q=>∃i j,x=.int i/\y=.int j/\Q (.int (f i j)) H
def Eb:Ru X .Add (SR λi j=>i+j):=by
 intro a s σ H x y v u Q I b c h;have(i,j,d,e,q):=h;subst d;subst e;have(t,rfl):=b;have(t',rfl):=c;show iadd_int #[.int _,H,I.tok _,#[_,rfl],q]
def Ec:Ru X .Sub (SR λi j=>i - j):=by
 intro a s σ H x y v u Q I b c h;have(i,j,d,e,q):=h;subst d;subst e;have(t,rfl):=b;have(t',rfl):=c;show isub_int #[.int _,H,I.tok _,#[_,rfl],q]
end
section
abbrev Ed(c:TT)(f:TS):TS:=λD σ H=>∃W:Nat->St->Hp->Prop,(∃m,W m σ H)/\∀m σ H,W m σ H ->
 c σ H λb a=>if b=b5 then ∃N:St->Hp->Prop,(∀d H',N d H'->∃e,e<m/\W e d H')/\f {D with nx:=N,ct:=N,bk:=D.nx} σ a else D.nx σ a
def yr(r:á (hJ X.prog X.w) X.A X.env X.xe)(z:PT X c B)(C:Kl X body G):PS X (.While c body [] pos) (Ed B G):=by
 intro a s σ H D I h;have(W,(m0,J),d):=h;show wpAny_While (codeAny_whileLoop (λn s'=>∃t H',Inv X a t H' s'/\W n t H') ?_ m0 ⟨σ,H,I,J⟩);rintro n s1 ⟨i,u,L,O⟩;show QL r (Jj (z a s1 i u _ L (d n i u O)) λb s2 Q=>?_);have(v,x,j):=Q;cases b with
 |true =>
  have(N,y,j):=j;rw[ϥ rfl];show QL r (Jj (C a s2 i v _ x j) λf s3 k=>?_);cases f with
  |next =>
   have(e,g,l,m):=k;have(o,p,q):=y e g m;show#[o,p,e,g,l,q]
  |cont =>
   have(e,g,l,m):=k;have(o,p,q):=y e g m;show#[o,p,e,g,l,q]
  |_=>show k
 |false =>
  rw[Ϧ k9];show ì #[i,v,x,j]
end
structure It where
 go:Nat->Hp->Prop
 Rv:Nat->Hp->V->Hp->Prop
 stop:Nat->Hp->Prop
abbrev iH(X:Cx)(a:List (gi×Obj))(H:Hp)(b:gi):Prop :=
 H b=bD/\b≠X.env.locals/\b∉X.fs/\(b∈X.ex\/X.s₀.heap.objs.size<=b)/\(∀x c,X.env.cells.lookup x=a0 c->c≠b)/\∀p∈X.pn++a,p.1≠b
def Inv.qL(I:Inv X a σ H s)(d:s.heap.objs.size<=b)(f:H' b=bD):iH X a H' b:=by
 show#[f,va (l' I.lt d),I.D0 d,.inr (K' I.sz d),λx c e z=>?_,λp g z=>?_]
 .have(v,q):=I.cell x c e;show absurd (l' q.lt (by rw[z];show d)) (ve _)
 .show absurd (l' (fS (I.pin p g).1) (by rw[z];show d)) (ve _)
structure Turn(P:B')(w:JT)(K:PySem.W.Frag)(tg:ro)(J:It)(fp:List gi)(it:gi)(tn:Nat->Mt->Prop):Prop where
 mem:it∈fp
 obj:∀i h,tn i h->∀b∈fp,∃o,h.get? b=a0 o/\∀v,o.data≠.cell v
 keep:∀i h h',tn i h->(∀b∈fp,∀o,h.get? b=a0 o->h'.get? b=a0 o)->tn i h'
 item:∀(X:Cx),X.prog=P->X.w=w->X.K=K->X.calm=b5->∀(i:Nat) (pins:List (gi×Obj)) (s:gj) (σ:St) (H:Hp) (E:dV->gj->Prop),Inv X pins σ H s->(∀b∈fp,iH X pins H b)->tn i s.heap->J.go i H ->
  eW (hJ P w) X.A (Ta (.ref it)) (λr s1=>∃u,r=a0 u /\
   eW (hJ P w) X.A (X6 tg (.ref it) u) (λ_ s2=>∃x H',Inv X pins σ H' s2/\RelV x u/\J.Rv i H x H'/\tn (i+1) s2.heap/\∀b∈fp,H' b=bD) E s1) E s
 done:∀(X:Cx),X.prog=P->X.w=w->X.K=K->X.calm=b5->∀(i:Nat) (pins:List (gi×Obj)) (s:gj) (σ:St) (H:Hp) (E:dV->gj->Prop),Inv X pins σ H s->(∀b∈fp,iH X pins H b)->tn i s.heap->J.stop i H ->
  eW (hJ P w) X.A (Ta (.ref it)) (λr s1=>r=bD/\Inv X pins σ H s1) E s
 self:∀(A:PV) (i:Nat) (s:gj) (Q:dV->gj->Prop) (E:dV->gj->Prop),tn i s.heap->Q (.ref it) s->eW (hJ P w) A (ý (.ref it)) Q E s
@[reducible]def TI:=St->Hp->(It->Hp->Prop)->Prop
abbrev VT(X:Cx)(a:List (gi×Obj))(σ:St)(e:ro)(R:It->Hp->Prop)(f:dV)(s2:gj):Prop :=
 ∃(it:gi) (c:List gi) (d:Nat->Mt->Prop) (J:It) (H':Hp),f=.ref it/\Inv X a σ H' s2/\Turn X.prog X.w X.K e J c it d/\d 0 s2.heap/\(∀b∈c,iH X a H' b)/\R J H'
abbrev PI(X:Cx)(c b:ro)(d:TI):Prop :=
 ∀(a:List (gi×Obj)) (s:gj) (σ:St) (H:Hp) (R:It->Hp->Prop),Inv X a σ H s->d σ H R ->
  eW (hJ X.prog X.w) X.A (K6 b X.env) (λv s1=>eW (hJ X.prog X.w) X.A (ý v) (VT X a σ c R) X.xe s1) X.xe s
def uN(ho:s.heap.get? it=a0 o)(b:o.cls=.type n)(c:o.data=.fields vs)
    (d:["enumerate","zip","dict_itemiterator","dict_reverseitemiterator","odict_iterator","itertools.zip_longest","itertools.pairwise"].contains n=cb) (a:Q () s):eW M A (X6 e (.ref it) u) Q E s:=by
  unfold X6;cases e<;>first
    | show cL a
    | (cases u<;>first
        | show cL a
        | (show a5 (ż ho ?_)
           rw[b,c];change eW M A (if (["enumerate","zip","dict_itemiterator","dict_reverseitemiterator","odict_iterator","itertools.zip_longest","itertools.pairwise"].contains n&&vs[0]?==a0 (I0 _))=b5 then _ else _) Q E s;rw[Ϧ (by intro h;rw[d,Ú]at h;cases h)];show cL a))
abbrev SU(K:PySem.W.Frag)(a:gi):It :=
 #[λi H=>∃xs x,JG K H a xs/\xs[i]?=a0 x,λi H x H'=>H'=H/\∀xs,JG K H a xs->xs[i]?=a0 x,λi H=>∃xs,JG K H a xs/\xs.length<=i]
abbrev SV(K:PySem.W.Frag)(a:gi):It :=
 #[λi H=>∃xs x,JH K H a xs/\xs[i]?=a0 x,λi H x H'=>H'=H/\∀xs,JH K H a xs->xs[i]?=a0 x,λi H=>∃xs,JH K H a xs/\xs.length<=i]
abbrev Rx(lo:Int)(n:Nat):It:=#[λi _=>i<n,λi H x H'=>H'=H/\x=.int (lo+i),λi _=>n<=i]
def wR{K:PySem.W.Frag}(a it:gi):Turn P w K tg (SU K a) [it] it (λi h=>h.IsListIter it a i) where
 mem:=by simp
 obj:=λi h st b g=>by
  have e:b=it:=by simpa using g
  subst e;have(o,e,c,d):=st;show#[o,e,λv z=>by rw[d]at z;cases z]
 keep:=λi h h' st k=>st.at λo e=>k it (by simp) o e
 item:=by
  intro X m n q G i f s σ H E I j st r;subst m n q;have(xs,x,l,t):=r;have(its,rv,p,hz):=I.list l;have(u,J,L):=rv.get t;have(y,A,N,B,C,D):=j it (by simp);show wpAny_pyNext_list_item st p.isList (x:=u) (by simpa using J) λh' st' O=>?_;have Q:Inv X f σ H {s with heap:=h' }:=I.turned (t':=s.toks) (λb o g e=>(O.2 b g).trans e) y A B C D;have(o,e,c,d):=id st';show#[u,rfl,uN (s:={s with heap:=h' }) e c d (by decide) ⟨x,H,Q,L,⟨rfl,λys T=>by rw[I.iG T l];show t⟩,st',λb g=>(j b g).1⟩]
 done:=by
  intro X m n q G i f s σ H E I j st r;subst m n q;have(xs,l,t):=r;have(its,rv,p,hz):=I.list l;have(y,A,N,B,C,D):=j it (by simp);have hl:=rv.length;show wpAny_pyNext_list_end (I.ok.hd G) st p.isList (by simp;lia) λh' Y=>#[rfl,I.turned (t':=s.toks) (λb o g e=>Y b o g e) y A B C D]
 self:=λ_ _ _ _ _ st h=>wpAny_pyIter_listiter st h
def sH{K:PySem.W.Frag}(a it:gi):Turn P w K tg (SV K a) [it] it (λi h=>h.IsTupleIter it a i) where
 mem:=by simp
 obj:=λi h st b g=>by
  have e:b=it:=by simpa using g
  subst e;have(o,e,c,d):=st;show#[o,e,λv z=>by rw[d]at z;cases z]
 keep:=λi h h' st k=>st.at λo e=>k it (by simp) o e
 item:=by
  intro X m n q G i f s σ H E I j st r;subst m n q;have(xs,x,l,t):=r;have(its,rv,p,hz):=I.tuple l;have(u,J,L):=rv.get t;have(y,A,N,B,C,D):=j it (by simp);show wpAny_pyNext_tuple_item st (show s.heap.IsTuple a its.toArray from p) (x:=u) (by simpa using J) λh' st' O=>?_;have Q:Inv X f σ H {s with heap:=h' }:=I.turned (t':=s.toks) (λb o g e=>(O.2 b g).trans e) y A B C D;have(o,e,c,d):=id st';show#[u,rfl,uN (s:={s with heap:=h' }) e c d (by decide) ⟨x,H,Q,L,⟨rfl,λys T=>by rw[I.ju T l];show t⟩,st',λb g=>(j b g).1⟩]
 done:=by
  intro X m n q G i f s σ H E I j st r;subst m n q;have(xs,l,t):=r;have(its,rv,p,hz):=I.tuple l;have(y,A,N,B,C,D):=j it (by simp);have hl:=rv.length;show wpAny_pyNext_tuple_end (I.ok.hd G) st (show s.heap.IsTuple a its.toArray from p) (by simp;lia) λh' Y=>#[rfl,I.turned (t':=s.toks) (λb o g e=>Y b o g e) y A B C D]
 self:=λ_ _ _ _ _ st h=>wpAny_pyIter_tupleiter st h
def sI{K:PySem.W.Frag}(it:gi)(lo:Int)(n:Nat):Turn P w K L (Rx lo n) [it] it (λi h=>IsRangeIter h it (lo+(i:Nat) * 1) ((n:Int) - (i:Nat)) 1) where
 mem:=by simp
 obj:=λi h st b c=>by
  have e:b=it:=by simpa using c
  subst e;show#[_,st,λv z=>by
   have A:W5 _=ð v:=z;cases A]
 keep:=λi h h' st k=>k it (by simp) _ st
 item:=by
  intro X f g j l i a s σ H E I d st m;subst f g j;have(p,q,B,r,u,x):=d it (by simp);have W:=Walks.range (prog:=X.prog) (w:=X.w) (I.ok.hd l) it lo 1 n;show W.item i s _ _ m st λv h' y C st' D=>?_;have(t,rfl):=C;have G:Inv X a σ H {s with heap:=h',toks:=y}:=I.turned (λb o c e=>D b o (by simpa using c) e) p q r u x;show#[_,rfl,uN (s:={s with heap:=h',toks:=y}) (n:="range_iterator") st' rfl rfl (by decide) ⟨.int (lo+i),H,G,⟨t,?_⟩,⟨rfl,rfl⟩,st',λb c=>(d b c).1⟩];rw[Int.mul_one]
 done:=by
  intro X f g j l i a s σ H E I d st m;subst f g j;have(p,q,B,r,u,x):=d it (by simp);show wpAny_pyNext_range_end (I.ok.hd l) st (by have:n<=i:=m;lia) λh' J=>#[rfl,I.turned (t':=s.toks) (λb o c e=>J b o c e) p q r u x]
 self:=λ_ _ _ _ _ st h=>wpAny_pyIter_rangeiter st h
section
abbrev Gu(K:PySem.W.Frag)(c:TE):TI:=λσ H R=>c σ H λx b=>∃a,x=.ref a/\(∃xs,JG K b a xs)/\R (SU K a) b
abbrev Il(K:PySem.W.Frag)(c:TE):TI:=λσ H R=>c σ H λx b=>∃a,x=.ref a/\(∃xs,JH K b a xs)/\R (SV K a) b
def Bj(hl:PE X l f):PI X r l (Gu X.K f):=by
 intro c s σ H R I h;show Jj (hl c s σ H _ I h) λv s1 g=>?_;have(x,i,d,j,k):=g;have(a,e,(xs,m),q):=k;subst e;cases j;have(its,rv,p,hz):=d.list m;show Tr p.isList ?_;show#[s1.heap.objs.size,[s1.heap.objs.size],_,_,i,rfl,d.kept (t':=s1.toks) λb o e=>b6 _ e,wR a _,#[_,f6 _ rfl,rfl,rfl],λb n=>?_,q];have e:b=s1.heap.objs.size:=by simpa using n
 subst e;show d.qL (i4 _) (d.Jg.fresh (i4 _))
def Ee(hl:PE X l f):PI X r l (Il X.K f):=by
 intro c s σ H R I h;show Jj (hl c s σ H _ I h) λv s1 g=>?_;have(x,i,d,j,k):=g;have(a,e,(xs,m),q):=k;subst e;cases j;have(its,rv,p,hz):=d.tuple m;show QH (show s1.heap.IsTuple a its.toArray from p) ?_;show#[s1.heap.objs.size,[s1.heap.objs.size],_,_,i,rfl,d.kept (t':=s1.toks) λb o e=>b6 _ e,sH a _,#[_,f6 _ rfl,rfl,rfl],λb n=>?_,q];have e:b=s1.heap.objs.size:=by simpa using n
 subst e;show d.qL (i4 _) (d.Jg.fresh (i4 _))
def yt{lo a:Int}(I:Inv X c σ H s)(g:-(2 ^ 62)<=lo)(h:lo<2 ^ 62)(i:-(2 ^ 62)<=a)(j:a<2 ^ 62)
  (q:R (Rx lo (a - lo).toNat) H):eW (hJ X.prog X.w) X.A (ý (.ref s.heap.objs.size)) (VT X c σ n R) E {s with heap:=s.heap.push {cls:=.type "range",data:=.fields #v[.int lo t,.int a u,.int 1 v]},toks:=f}:=by
 show wpAny_pyIter_range (IsRange.new ..) (small_one g h i j) ?_;have d:Inv X c σ H {s with heap:=s.heap.push {cls:=.type "range",data:=.fields #v[.int lo t,.int a u,.int 1 v]},toks:=f}:=I.kept λb o e=>b6 _ e;show#[(s.heap.push {cls:=.type "range",data:=.fields #v[.int lo t,.int a u,.int 1 v]}).objs.size,[(s.heap.push {cls:=.type "range",data:=.fields #v[.int lo t,.int a u,.int 1 v]}).objs.size],_,_,H,rfl,
  d.kept (t':=f) λb o e=>b6 _ e,sI _ lo (a - lo).toNat,?_,λb k=>?_,q]
 .have l:lo+((0:Nat):Int) * 1=lo:=by simp
  have m:(((a - lo).toNat:Nat):Int) - ((0:Nat):Int)=υ lo a 1:=by rw[rangeSize_one];split<;>lia
  change IsRangeIter _ _ (lo+((0:Nat):Int) * 1) ((((a - lo).toNat:Nat):Int) - ((0:Nat):Int)) 1;rw[l,m];show f6 _ rfl
 .have e:b=(s.heap.push {cls:=.type "range",data:=.fields #v[.int lo t,.int a u,.int 1 v]}).objs.size:=by simpa using k
  subst e;show d.qL (i4 _) (d.Jg.fresh (i4 _))
abbrev Gv(a:TA):TI:=λσ H R=>a σ H λvs b=>∃j:Int,vs=[.int j]/\-(2 ^ 62)<=j/\j<2 ^ 62/\R (Rx 0 j.toNat) b
def wU(d:Gl X "range")(f:X.mg "range"=bD)(g:PA X [a] i)(hs:mh [a] X.env=[(cb,K6 a X.env)]:=by rfl):PI X o (.Call (.Name "range" p) [a] [] pos) (Gv i):=by
 intro b s σ H R I h;show Call_ (cU I d f boot_range (LC (Jj (g pos b s σ H _ I h) λus s1 ⟨vs,u,k,l,c⟩=>?_) hs rfl));have(j,e,c,m,q):=c;subst e;cases l with
 |cons r n =>
  cases n;have(t,rfl):=r;show call_range_1 (yt k ⋯ ⋯ c m (by simpa using q))
abbrev Im(c:TI)(g:TG)(d:TS):TS:=λD σ H=>c σ H λJ e=>∃W:Nat->Nat->St->Hp->Prop,(∃m,W 0 m σ e)/\∀i m σ H,W i m σ H ->
 (J.stop i H/\D.nx σ H)\/(J.go i H/\∃N:St->Hp->Prop,(∀a H',N a H'->∃b,b<m/\W (i+1) b a H')/\∀x H',J.Rv i H x H'->g x σ H' λf h=>d {D with nx:=N,ct:=N,bk:=D.nx} f h)
abbrev lp(a:List gi)(h:Mt):List (gi×Obj):=a.filterMap λb=>(h.get? b).map λo=>(b,o)
def fc(a:b∈c)(e:h.get? b=a0 o):(b,o)∈lp c h:=Į.mpr #[b,a,by rw[e];rfl]
def wV(a:p∈lp c h):p.1∈c/\h.get? p.1=a0 p.2:=by
 have(b,d,e):=Į.mp a;cases q:h.get? b with
 |none=>rw[q]at e;cases e
 |some o =>
  rw[q]at e;have f:(b,o)=p:=tA e;subst f;show#[d,q]
def Inv.pinned(I:Inv X a σ H s)(h:∀b∈c,iH X a H b)(ho:∀b∈c,∃o,s.heap.get? b=a0 o/\∀v,o.data≠.cell v):Inv X (a++lp c s.heap) σ H s :=
 I.d_ λp i=>(hZ.mp i).elim (λz=>I.pin p (qP _ z)) λz=>by
  have(f,e):=wV z;have(j,k,l,_):=h p.1 f;have(o,g,d):=ho p.1 f;rw[e]at g;cases g;show#[e,j,k,l,d]
def Inv.lq(I:Inv X (a++pl) σ H s):Inv X a σ H s:=I.d_ λp b=>I.pin p (qP _ (Xj _ b))
def Ef(t:á (hJ X.prog X.w) X.A X.env X.xe)(hc:X.calm=b5)(hi:PI X tg p wi)(hg:PG X tg g)(c:Kl X body tb)
  (hs:∀x,O6 p X.env x=pure x:=by intro _;rfl):PS X (.For tg p body [] pos) (Im wi g tb):=by
 intro a s σ H D I h;show wpAny_For (Jj (hi a s σ H _ I h) λv s1 h1=>Jj h1 λRw s2 h2=>?_) hs;have(it,y,tn,J,H2,e,I2,T,st2,f2,W,(m0,w0),z):=h2;subst e;have O:∀{H':Hp},(∀b∈y,H' b=bD)->∀b∈y,iH X a H' b:=λhn b c=>#[hn b c,(f2 b c).2]
 show codeAny_forLoop_any (λn s'=>∃i B H',Inv X a B H' s'/\tn i s'.heap/\(∀b∈y,H' b=bD)/\W i n B H') ?_ m0 ⟨0,σ,H2,I2,st2,λb c=>(f2 b c).1,w0⟩;rintro n s3 ⟨i,C,L,I3,st3,P9,w3⟩;rcases z i n C L w3 with⟨G,qn⟩|⟨go,N,hN,Ŗ⟩
 .show QL t (Jj (T.done X rfl rfl rfl hc i a s3 C L X.xe I3 (O P9) st3 G) λr s4 SY=>?_);have(Q,I4):=SY;subst Q;show ì #[C,L,I4,qn]
 .show QL t (Jj (T.item X rfl rfl rfl hc i a s3 C L X.xe I3 (O P9) st3 go) λr s4 S3=>?_);have(u,Q,h4):=S3;subst Q;show QL t (Jj h4 λ_ s5 S4=>?_);have(x,H5,I5,r5,y5,Y,S5):=S4;have S6:=I5.pinned (O S5) (T.obj _ _ Y);show QL t (Jj (hg _ s5 C H5 x u _ S6 r5 (Ŗ x H5 y5)) λ_ s6 S7=>?_);have(σ6,H6,I6,q6):=S7;show QL t (Jj (c _ s6 σ6 H6 _ I6 q6) λf s7 q=>?_);have Ϡ:∀{j:St} {k:Hp},Inv X (a++lp y s5.heap) j k s7->N j k->∃m,m<n/\∃i B H',Inv X a B H' s7/\tn i s7.heap/\(∀b∈y,H' b=bD)/\W i m B H':=λ{j k} l n7=>by
   have(m',hm,w7):=hN j k n7;show#[m',hm,i+1,j,k,l.lq,T.keep _ _ _ Y λb c o e=>(l.pin (b,o) (qP _ (qP _ (fc c e)))).1,λb c=>?_,w7];have(o,e,d):=T.obj _ _ Y b c;show(l.pin (b,o) (qP _ (qP _ (fc c e)))).2.1
  cases f with
  |brk=>have(j,k,l,q):=q;show#[j,k,l.lq,q]
  |ret v=>have(x7,j,k,l,r7,q):=q;show#[x7,j,k,l.lq,r7,q]
  |_=>have(j,k,l,n7):=q;show Ϡ l n7
end
@[reducible]def R2:=V->V->Hp->VK->Prop
abbrev K_(X:Cx)(f:dV->dV->Sem dV)(r:R2):Prop :=
 ∀(a:List (gi×Obj)) (s:gj) (σ:St) (H:Hp) (x y:V) (v u:dV) (Q:VK),Inv X a σ H s->RelV x v->RelV y u->r x y H Q ->
  eW (hJ X.prog X.w) X.A (f v u) (EP X a σ Q) X.xe s
abbrev S8(X:Cx)(f:dV->Sem dV)(r:V->Hp->VK->Prop):Prop :=
 ∀(a:List (gi×Obj)) (s:gj) (σ:St) (H:Hp) (x:V) (v:dV) (Q:VK),Inv X a σ H s->RelV x v->r x H Q ->
  eW (hJ X.prog X.w) X.A (f v) (EP X a σ Q) X.xe s
abbrev gT(X:Cx)(f:dV)(r:List V->Hp->VK->Prop):Prop :=
 ∀(a:List (gi×Obj)) (s:gj) (σ:St) (H:Hp) (xs:List V) (us:List dV) (Q:VK),Inv X a σ H s->Vals xs us->r xs H Q ->
  eW (hJ X.prog X.w) X.A (QI f us) (EP X a σ Q) X.xe s
abbrev Io(X:Cx)(r:V->Hp->(Bool->Hp->Prop)->Prop):Prop :=
 ∀(a:List (gi×Obj)) (s:gj) (σ:St) (H:Hp) (x:V) (v:dV) (Q:Bool->Hp->Prop),Inv X a σ H s->RelV x v->r x H Q ->
  eW (hJ X.prog X.w) X.A (ϗ v) (TP X a σ Q) X.xe s
abbrev XR(r:V->Hp->VK->Prop)(a:TE):TE:=λσ H Q=>a σ H λx b=>r x b Q
abbrev rI(C:Int->Int->Prop)(g:Int->Int->V):R2:=λx y H Q=>∃i j,x=.int i/\y=.int j/\C i j/\Q (g i j) H
abbrev NB(g:Int->Int->V):R2:=λx y H Q=>∃i j,x=.int i/\y=.int j/\Q (g i j) H
abbrev rU(g:Int->V):V->Hp->VK->Prop:=λx H Q=>∃i,x=.int i/\Q (g i) H
section
def Gw(ho:S8 X (unaryOp op) r)(c:PE X a d):PE X (.UnaryOp op a pos) (XR r d):=by
 intro b s σ H Q I h;show UnaryOp_ (Jj (c b s σ H _ I h) λv s1 ⟨x,e,f,g,i⟩=>ho b s1 σ e x v Q f g i)
def Ry{g:Int->Int->Int}
  (ř:∀(i j:Int) (t u:Tok) (s:gj) (Q:dV->gj->Prop) (E:dV->gj->Prop),C i j->Q (.int (g i j) s.toks) {s with toks:=s.toks+1}->eW (hJ X.prog X.w) X.A (f (.int i t) (.int j u)) Q E s) :
  K_ X f (rI C λi j=>.int (g i j)):=by
 intro a s σ H x y v u Q I b c h;have(i,j,rfl,rfl,d,q):=h;have(t,rfl):=b;have(t',rfl):=c;show ř i j t t' s _ _ d #[.int (g i j),H,I.tok _,#[_,rfl],q]
def Gy{g:Int->Int->Int}
  (ř:∀(i j:Int) (t u:Tok) (s:gj) (Q:dV->gj->Prop) (E:dV->gj->Prop),Q (.int (g i j) s.toks) {s with toks:=s.toks+1}->eW (hJ X.prog X.w) X.A (f (.int i t) (.int j u)) Q E s) :
  K_ X f (NB λi j=>.int (g i j)):=by
 intro a s σ H x y v u Q I b c h;have(i,j,rfl,rfl,q):=h;have(t,rfl):=b;have(t',rfl):=c;show ř i j t t' s _ _ #[.int (g i j),H,I.tok _,#[_,rfl],q]
def Bl{g:Int->Int->Bool}
  (ř:∀(i j:Int) (t u:Tok) (s:gj) (Q:dV->gj->Prop) (E:dV->gj->Prop),Q (.bool (g i j)) s->eW (hJ X.prog X.w) X.A (f (.int i t) (.int j u)) Q E s) :
  K_ X f (NB λi j=>.bl (g i j)):=by
 intro a s σ H x y v u Q I b c h;have(i,j,rfl,rfl,q):=h;have(t,rfl):=b;have(t',rfl):=c;show ř i j t t' s _ _ #[.bl (g i j),H,I,rfl,q]
abbrev Ip(i j:Int):Prop:=0<j/\j<1073741824
abbrev Iq(i j:Int):Prop:=0<=j/\j<=1000000/\i.natAbs<2 ^ 64
abbrev Eg(i j:Int):Prop:=(-(2 ^ 64)<i/\i<2 ^ 64)\/(-(2 ^ 64)<j/\j<2 ^ 64)
def Eg.ok(h:Eg i j):IntMulOk i j:=by
 rcases h with⟨a,b⟩|⟨a,b⟩
 .show .of_left (intBits_le_64 a b)
 .show .of_right (intBits_le_64 a b)
def ib:K_ X (UP .Add) (NB λi j=>.int (i+j)):=Gy λ_ _ _ _ _ _ _ q=>add_int q
def sJ:K_ X (UP .Sub) (NB λi j=>.int (i - j)):=Gy λ_ _ _ _ _ _ _ q=>sub_int q
def o_:K_ X (UP .Mult) (rI Eg λi j=>.int (i * j)):=Ry λ_ _ _ _ _ _ _ a q=>mul_int q a.ok
def Bm:K_ X (UP .FloorDiv) (rI Ip λi j=>.int (i / j)):=Ry λi j _ _ _ _ _ a q=>by
 have b:(0:Int)<j:=a.1;have c:j<1073741824:=a.2;show floordiv_int ⋯ (by rw[Int.fdiv_eq_ediv_of_nonneg i ⋯];show q) (.inl (PyProof.noPylong_small ⋯))
def cV:K_ X (UP .Mod) (rI (λ_ j=>0<j) λi j=>.int (i % j)):=Ry λi j _ _ _ _ _ a q=>by
 have b:(0:Int)<j:=a;show mod_int' ⋯ (by rw[Int.fmod_eq_emod_of_nonneg i ⋯];show q)
def pd:K_ X (UP .Pow) (rI Iq λi j=>.int (i ^ j.toNat)):=Ry λ_ _ _ _ _ _ _ a q=>pow_int_small a.1 a.2.1 a.2.2 q
def XS{g:Int->Int}
  (ř:∀(i:Int) (t:Tok) (s:gj) (Q:dV->gj->Prop) (E:dV->gj->Prop),Q (.int (g i) s.toks) {s with toks:=s.toks+1}->eW (hJ X.prog X.w) X.A (f (.int i t)) Q E s) :
  S8 X f (rU λi=>.int (g i)):=by
 intro a s σ H x v Q I b h;have(i,rfl,q):=h;have(t,rfl):=b;show ř i t s _ _ #[.int (g i),H,I.tok _,#[_,rfl],q]
def Eh:S8 X (unaryOp .USub) (rU λi=>.int (-i)):=XS λ_ _ _ _ _ q=>neg_int q
end
section
def Gz:K_ X (Qg .Lt) (NB λi j=>.bl (df (i<j))):=Bl λ_ _ _ _ _ _ _ q=>lt_int q
def GA:K_ X (Qg .LtE) (NB λi j=>.bl (df (i<=j))):=Bl λ_ _ _ _ _ _ _ q=>le_int q
def GB:K_ X (Qg .Gt) (NB λi j=>.bl (df (j<i))):=Bl λ_ _ _ _ _ _ _ q=>gt_int q
def GC:K_ X (Qg .GtE) (NB λi j=>.bl (df (j<=i))):=Bl λ_ _ _ _ _ _ _ q=>ge_int q
abbrev GD(K:PySem.W.Frag)(x:V)(H:Hp)(k:Bool):Prop :=
 match x with
 |.Jp=>k=cb
 |.bl b=>k=b
 |.int i=>k=(i != 0)
 |.str y=>y.length<=dt/\k=((y.length:Int) != 0)
 |.Rp y=>y.size<=dt/\k=((y.size:Int) != 0)
 |.ref p=>(∃xs,JG K H p xs/\k=!xs.isEmpty)\/(∃xs,JH K H p xs/\k=!xs.isEmpty)\/∃kvs,H p=a0 (.dK kvs)/\k=!kvs.isEmpty
 |_=>False
def sM(r:KV kvs vs):(!vs.isEmpty)=!kvs.isEmpty:=by
 cases r<;>rfl
def lr(r:Vals xs its):(!its.toArray.isEmpty)=!xs.isEmpty:=by
 cases r<;>simp
def fe:(dt:Nat)<2 ^ 63:=by rw[ŗ];decide
def Ei:Io X (λx H Q=>∃k,GD X.K x H k/\Q k H):=by
 intro g s σ H x v Q I d h;have(k,e,q):=h;have hl:=fe;have hs:dt=16777216:=ŗ;cases x with
 |Jp =>
  cases d;have a:k=cb:=e;subst a;show truthy_none #[H,I,q]
 |bl b =>
  cases d;have a:k=b:=e;subst a;show N4 #[H,I,q]
 |int i =>
  have(t,rfl):=d;have a:k=(i != 0):=e;subst a;show PySem.P.truthy_int #[H,I,q]
 |str y =>
  have(t,rfl):=d;obtain⟨j,a⟩:y.length<=dt/\k=((y.length:Int) != 0):=e;subst a;show PySem.P.truthy_str ⋯ #[H,I.tok _,q]
 |Rp y =>
  have(t,rfl):=d;obtain⟨j,a⟩:y.size<=dt/\k=((y.size:Int) != 0):=e;subst a;show PySem.W.truthy_bytes ⋯ #[H,I.tok _,q]
 |ref p =>
  cases d;have a:(∃xs,JG X.K H p xs/\k=!xs.isEmpty)\/(∃xs,JH X.K H p xs/\k=!xs.isEmpty)\/∃kvs,H p=a0 (.dK kvs)/\k=!kvs.isEmpty:=e;rcases a with⟨xs,f,a⟩|⟨xs,f,a⟩|⟨kvs,f,a⟩
  .subst a;have(its,r,pl,hz):=I.list f;have c:=r.length;show wpAny_truthy_list pl.isList (by simp only[ko];lia) #[H,I.tok _,by rw[lr r];show q]
  .subst a;have(its,r,pl,hz):=I.tuple f;have c:=r.length;show truthy_tuple pl (by simp only[ko];lia) #[H,I.tok _,by rw[lr r];show q]
  .subst a;obtain⟨hz,l,vs,r,m⟩:kvs.length<=dt/\(p==Mx)=cb/\∃vs,KV kvs vs/\s.heap.DictOf (aG X.prog X.w) p vs:=I.Jg p _ f;have c:kvs.length=vs.length:=Paired.length r;show wpAny_truthy_dict l m ⋯ #[H,I.tok _,by rw[sM r];show q]
 |_=>show(show False from e).elim
def yu(d:PE X a e)(f:∀b,isTrue a X.env b=(do let v <-b;ó a.pos;O3 [v] (ϗ v))):
  PT X a (λσ H Q=>e σ H λx H'=>∃k,GD X.K x H' k/\Q k H'):=by
 intro c s σ H Q I h;show isTrue_plain (Jj (d c s σ H _ I h) λv s1 ⟨x,g,i,j,l⟩=>Ei c s1 σ g x v Q i j l) (f _)
def sN:K_ X (UP .Add) (λx y H Q=>∃i j,x=.str i/\y=.str j/\i.length+j.length<=dt/\Q (.str (i++j)) H):=by
 intro a s σ H x y v u Q I b c h;have(i,j,rfl,rfl,hz,q):=h;have(t,rfl):=b;have(t',rfl):=c;show add_str (λt' d=>#[.str (i++j),H,I.tok _,#[_,rfl],q]) hz
def vals1(r:Vals [x] us):∃u,us=[u]/\RelV x u:=by
 cases r with
 |cons a b=>cases b;show#[_,rfl,a]
def vals2(r:Vals [x,y] us):∃u a,us=[u,a]/\RelV x u/\RelV y a:=by
 cases r with
 |cons b c =>
  cases c with
  |cons d e=>cases e;show#[_,_,rfl,b,d]
def pe:gT X (.type "str") (λxs H Q=>∃i,xs=[.int i]/\i.natAbs.log2<1920/\Q (.str (WN i)) H):=by
 intro a s σ H xs us Q I r h;have(i,rfl,hz,q):=h;have(u,rfl,t,rfl):=vals1 r;show PySem.P.str_of_int hz #[.str _,H,I.tok _,#[_,rfl],q]
end
section
end
def kA.some_of(r:kA (a0 v) o):∃u,o=a0 u/\RelV v u:=by
 cases o with
 |none=>show(show False from r).elim
 |some u=>show#[u,rfl,r]
section
end
structure XT(K:PySem.W.Frag)(C:gi):Prop where
 pg:PySem.W.plainGet K C vr=b5
 hd:PySem.W.hasDictIn K C=b5
 po:PySem.W.plainOver K C=b5
 sa:PySem.W.findIn K (.ref C) "__setattr__"=a0 (a0 (.builtin "object.__setattr__"))
section
end
section
end
section
inductive lu(K:PySem.W.Frag)(H:Hp):V->dV->Prop where
 |Jp:lu K H .Jp (.type "NoneType")
 |bl (x:Bool):lu K H (.bl x) (.type "bool")
 |int (i:Int):lu K H (.int i) (.type "int")
 |str (x:Str):lu K H (.str x) (.type "str")
 |Rq (x:UInt64):lu K H (.Rq x) (.type "float")
 |lst {a:gi} {xs:List V} (e:H a=a0 (.lst xs)):lu K H (.ref a) (.type "list")
 |J_ {a:gi} {o:Obj} {xs:List V} (e:H a=a0 (.J_ o (.lst xs))):lu K H (.ref a) (.type "list")
 |tup {a:gi} {xs:List V} (e:H a=a0 (.tup xs)):lu K H (.ref a) (.type "tuple")
 |dK {a:gi} {kvs:List (Key×V)} (e:H a=a0 (.dK kvs)):lu K H (.ref a) (.type "dict")
 |dT {a:gi} {kvs:List (List Key×V)} (e:H a=a0 (.dT kvs)):lu K H (.ref a) (.type "dict")
 |ins {a C dx:gi} {fs:List (Str×V)} (e:H a=a0 (.ins C dx fs)) (cl:XT K C) (ha:PySem.W.findIn K (.ref C) "__class__"=a0 (a0 (.builtin "object.__class__")))
   (hn:PySem.W.specialIn K (.builtin "object.__class__") "__get__"=a0 (a0 (.builtin "getset_descriptor.__get__"))) (XU:PySem.W.takesIn K (.builtin "object.__class__")=a0 b5)
   (hm:PySem.W.mroIn K C (.type "object")=a0 b5):lu K H (.ref a) (.ref C)
end
structure ic(k:Nat)(A:PV):Prop where
 hd:A.handled=bD
 dp:A.depth+3 * k+5<ϙ
 un:A.units+16 * k+200<K7
 gd:A.guards=a0 []
def ic.deeper(r:ic (k+1) A)(env:Env):ic k (A.deeper env) :=
 #[r.hd,by have:=r.dp;change A.depth+1+3 * k+5 < _;lia,by have:=r.un;change A.units+3+16 * k+200 < _;lia,r.gd]
def ic.depth(r:ic k A):A.depth<ϙ:=by have:=r.dp;lia
abbrev Ir:TA:=λ_ H Q=>Q [] H
abbrev GF(a:TE)(b:TA):TA:=λσ H Q=>a σ H λx c=>b σ c λxs d=>Q (x::xs) d
section
def ly:PA X [] Ir:=λ_ _ _ _ H Q I h=>VE #[[],H,I,.nil,h]
def gz(b:PE X e c)(d:PA X es t)(hs:mh (e::es) X.env=(cb,K6 e X.env)::mh es X.env:=by rfl):PA X (e::es) (GF c t):=by
 intro pos a s σ H Q I h;rw[hs];change eW _ _ (Τ ((cb,K6 e X.env)::M3 pos (mh es X.env))) _ _ s;show R' (Jj (b a s σ H _ I h) λu s1 f=>?_);have(x,g,i,j,k):=f;show Jj (d pos a s1 σ g _ i k) λus s2 ⟨xs,l,m,n,o⟩=>#[x::xs,l,m,.cons j n,o]
end
@[reducible]def Sp:=List V->Hp->VK->XK->Prop
@[reducible]def Pa:=List Env->Hp->gj->XK->dV->gj->Prop
structure Bn(P:B')(w:JT)(K:PySem.W.Frag)(mg:Str->Option dV)(base:Mt)(A:PV)(outer:List Env)(s:gj)(H:Hp):Prop where
 frames:A.frames=a0 outer
 mod:Mod K mg base
 bs:∀b o,base.get? b=a0 o->s.heap.get? b=a0 o/\H b=bD
 Ny:base.objs.size<=s.heap.objs.size
 la:s.heap.FunFrames base outer
 O8:∀b∈LP outer,H b=bD
 Jg:Kc P w H s.heap
 bare:XZ s.gens
abbrev CE(outer:List Env)(P:B')(w:JT)(H:Hp)(s:gj)(Q:VK)(u:dV)(s':gj):Prop :=
 ∃v H',s'.os=s.os/\XZ s'.gens/\Un (LP outer) [] H H' s.heap s'.heap/\Kc P w H' s'.heap/\RelV v u/\Q v H'
abbrev CR(CX:Pa)(outer:List Env)(P:B')(w:JT)(H:Hp)(s:gj)(Q:VK)(E:XK)(r:Result)(s':gj):Prop :=
 match r with
 |.ok (.ret u)=>CE outer P w H s Q u s'
 |.ok _=>False
 |.error e=>CX outer H s E e s'
structure ni(P:B')(w:JT)(K:PySem.W.Frag)(mg:Str->Option dV)(base:Mt)(CX:Pa)(k:Nat)(f:gi)(fd:Wc)(ps:List Str)(sp:Sp):Prop where
 len:∀vs H Q E,sp vs H Q E->vs.length=ps.length
 run:∀(A:PV) (outer:List Env) (s:gj) (H:Hp) (args:Args) (us:List dV) (vs:List V) (Q:VK) (E:XK),ic k A->Bn P w K mg base A outer s H->ļ s fd args (ps.zip us)->Vals vs us->sp vs H Q E ->
  Tu (hJ P w) A (.call (.ref f) args) (CR CX outer P w H s Q E) s
section
def Inv.Iu(I:Inv X a σ H s):Bn X.prog X.w X.K X.mg X.base X.A X.stack s H :=
 #[I.ok.frames,I.ok.mod,I.bs,K' I.ok.Ny I.sz,I.stack,I.uJ,I.Jg,I.bare]
def Inv.after(I:Inv X a σ H s)(h:CE X.stack X.prog X.w H s Q u s'):EP X a σ Q u s':=by
 have(v,H',os,c,e,f,r,q):=h;have(hh,g,d,t,i):=s';obtain rfl:i=s.os:=os;show#[v,H',I.call (h':=hh) (g':=g) (d':=d) (t':=t) (ch:=[]) e f c (λb z=>absurd z (by simp)),r,q]
end
abbrev Binds(K:PySem.W.Frag)(b:Wc)(ps:List Str)(a:List dV):Prop :=
 ∀(s:gj) (us:List dV),K.In s.heap->(us++a).length=ps.length->ļ s b #[us,[]] (ps.zip (us++a))
def Binds.all{K:PySem.W.Frag}(h:∀us:List dV,us.length=ps.length->ϝ a #[us,[]]=pure (ps.zip us)):Binds K a ps []:=λs us _ hl=>by
 rw[Jq]at hl ⊢;show .of_eq (h us hl)
abbrev Passes(CX:Pa)(X:Cx)(E:XK):Prop:=∀(a:List (gi×Obj)) (σ:St) (H:Hp) (s:gj) (e:dV) (s':gj),Inv X a σ H s->CX X.stack H s E e s'->X.xe e s'
section
def Ej(F:ni X.prog X.w X.K X.mg X.base CX k f i ps sp)(j:ic k X.A)(l:Binds X.K i ps b)(m:Vals c b)(n:Passes CX X E)
  (I:Inv X a σ H s) (r:Vals vs us) (h:sp (vs++c) H Q E):eW (hJ X.prog X.w) X.A (QI (.ref f) us) (EP X a σ Q) X.xe s:=by
 have g:Vals (vs++c) (us++b):=r.append m;have hl:(us++b).length=ps.length:=by rw[<-g.length];show F.len _ _ _ _ h
 show wpAny_call (XG (F.run X.A X.stack s H #[us,[]] (us++b) (vs++c) Q E j I.Iu (l s us I.O9 hl) g h) λr s' d=>?_);cases r with
 |error e=>show n a σ H s e s' I d
 |ok o =>
  cases o with
  |ret u=>show I.after d
  |_=>show Q2 d
end
section
end
structure eh(N P:List Str)(sc:P0):Prop where
 kind:sc.kind=.function
 co:sc.isCoroutine=cb
 gen:sc.isGenerator=cb
 nd:N.Nodup
 pre:N.take P.length=P
 par:∀x∈P,sc.names.lookup x=a0 .local\/sc.names.lookup x=a0 .cell
 Oj:∀y∈sc.names,y.2≠.free
theorem nJ{kindOf:Str->Option Oo}:∀{a:List (Str×dV)}{m:Str->Option dV},(∀v,(x,v)∉a)->ĩ kindOf a m x=m x
 |[],_,_=>rfl
 |(n,v)::r,m,h=>by
  unfold ĩ;rw[nJ λw b=>h w (nC _ b)];split
  .have:x≠n:=by rintro rfl;show h v k7
   simp[this]
  .rfl
theorem nK{kindOf:Str->Option Oo}:∀{a:List (Str×dV)}{m:Str->Option dV},(∀v,(x,v)∉a)->Ī kindOf a m x=m x
 |[],_,_=>rfl
 |(n,v)::r,m,h=>by
  unfold Ī;rw[nK λw b=>h w (nC _ b)];split
  .rfl
  .have:x≠n:=by rintro rfl;show h v k7
   simp[this]
theorem nL{kindOf:Str->Option Oo}:∀{P:List Str}{vs:List dV}{i:Nat}{m:Str->Option dV},P.Nodup->P[i]?=a0 x->vs[i]?=a0 v->kindOf x=a0 .local ->
  ĩ kindOf (P.zip vs) m x=a0 v
 |[],_,_,_,_,h,_,_=>by simp at h
 |_::_,[],_,_,_,_,h,_=>by simp at h
 |p::P,w::vs,0,m,c,a,b,hk=>by
  simp at a b;subst a;subst b;change ĩ kindOf ((p,w)::P.zip vs) m p=_;unfold ĩ;rw[nJ λv d=>(p6.mp c).1 (T7 d).1,ϥ hk];simp
 |p::P,w::vs,i+1,m,c,a,b,hk=>by
  change ĩ kindOf ((p,w)::P.zip vs) m x=_;unfold ĩ;show nL (i:=i) (p6.mp c).2 (by simpa using a) (by simpa using b) hk
theorem nM{kindOf:Str->Option Oo}:∀{P:List Str}{vs:List dV}{i:Nat}{m:Str->Option dV},P.Nodup->P[i]?=a0 x->vs[i]?=a0 v->kindOf x≠a0 .local ->
  Ī kindOf (P.zip vs) m x=a0 v
 |[],_,_,_,_,h,_,_=>by simp at h
 |_::_,[],_,_,_,_,h,_=>by simp at h
 |p::P,w::vs,0,m,c,a,b,hk=>by
  simp at a b;subst a;subst b;change Ī kindOf ((p,w)::P.zip vs) m p=_;unfold Ī;rw[nK λv d=>(p6.mp c).1 (T7 d).1,Ϧ hk];simp
 |p::P,w::vs,i+1,m,c,a,b,hk=>by
  change Ī kindOf ((p,w)::P.zip vs) m x=_;unfold Ī;show nM (i:=i) (p6.mp c).2 (by simpa using a) (by simpa using b) hk
abbrev start(N:List Str)(vs:List V):St:=vs.map a0++lx (N.length - vs.length) bD
abbrev qM(CX:Pa)(P:B')(w:JT)(K:PySem.W.Frag)(mg:Str->Option dV)(base:Mt)(N:List Str)(a:Str)(scope:P0)(f:gi)(b:dV)(A:PV)(outer:List Env)(s:gj)(H:Hp)(E:XK):Cx where
 prog:=P
 w:=w
 K:=K
 mg:=mg
 base:=base
 A:=A.deeper (XY a scope s.heap.objs.size f b)
 N:=N
 s₀:=s
 H₀:=H
 env:=XY a scope s.heap.objs.size f b
 outer:=outer
 stack:=XY a scope s.heap.objs.size f b::outer
 ex:=[]
 calm:=b5
 fn:=λ_=>b5
 pn:=[]
 xe:=λe s'=>eW (hJ P w) (A.deeper (XY a scope s.heap.objs.size f b)) (leaving (XY a scope s.heap.objs.size f b) e) (λ_ c=>CX outer H s E e c) (λd c=>CX outer H s E d c) s'
def qN{a:P0}(h:a.names.lookup x=a0 .cell):∃c,(OY n a.names []).lookup x=a0 c:=by
 have q:=PySem.W.cellsFrom_some a.names n [] (.inl h);show VF.mp q
def wW{K:PySem.W.Frag}
  (S:eh N ps scope) (G:A.handled=bD) (j:Bn P w K mg base A outer s H) (hl:vs.length=ps.length) (r:Vals vs us)
  (x:InCallC s s.heap.objs.size (ĩ (XY g scope s.heap.objs.size f t).kindOf (ps.zip us) λ_=>bD) (OY (s.heap.objs.size+1) scope.names []) (Ī (XY g scope s.heap.objs.size f t).kindOf (ps.zip us) λ_=>bD) s1) :
  Inv (qM CX P w K mg base N g scope f t A outer s H E) [] (start N vs) H s1:=by
 have J:ps.length<=N.length:=by have:=ϩ DD S.pre;rw[Ol]at this;lia
 have(m,L,rfl,hk):=x.done;have B:∀b:gi,b∉(qM CX P w K mg base N g scope f t A outer s H E).ex:=λb z=>absurd (show b∈([]:List gi) from z) (by simp);show#[#[j.mod,S.kind,rfl,rfl,i4 _,λy z c m d=>?_,λy hy=>?_,λy c _ h=>?_,λ_=>G,Around.frames_deeper j.frames,.inr #[rfl,rfl],λb z=>absurd z (B b),j.bs,j.Ny,λb _ _=>B b,λb z=>absurd z (B b),j.la,j.O8],
  rfl,j.bare,Un.kept hk,#[_,x.toInCall.ns,λi y v m d O=>?_],λy c h=>#[_,x.cell y c h],j.Jg.fresh (i4 _),λy c h=>?_,λp l=>absurd (show p∈([]:List (gi×Obj)) from l) (by simp),j.Jg.kept hk,?_]
 .show name_of_addr x.apart (PySem.mem_of_lookup m) (PySem.mem_of_lookup d)
 .have hy:scope.names.lookup y=a0 .cell\/scope.names.lookup y=a0 .free:=hy;rcases hy with hy|hy
  .show qN hy
  .show absurd rfl (S.Oj _ (PySem.mem_of_lookup hy))
 .show OE (x.above y c (PySem.mem_of_lookup h))
 .have o:i<vs.length:=by
   unfold start at d;by_cases o:i<vs.length
   .show o
   .rw[tr (by simpa using o)]at d;rw[Nf]at d;split at d<;>cases d
  have I:vs[i]?=a0 v:=by
   unfold start at d;rw[w6 (by simpa using o),i5]at d;cases e:vs[i]? with
   |none=>rw[e]at d;cases d
   |some a=>rw[e]at d;cases d;rfl
  have(u,C,rv):=r.get I;have l:ps[i]?=a0 y:=by
   rw[<-S.pre,é ⋯];show m
  have D:ps.Nodup:=by rw[<-S.pre];show S.nd.sublist (Ń _ _)
  show#[u,rv,?_];rcases S.par y (lg l) with k|k
  .show .inl #[k,nL D l C k]
  .have(c,e):=qN (n:=s.heap.objs.size+1) k;show .inr #[.inl k,c,e,?_];have q:=x.cell y c e;rw[nM D l C (by change scope.names.lookup y≠_;rw[k];decide)]at q;show q
 .show j.Jg.fresh (OE (x.above y c (PySem.mem_of_lookup h)))
 .unfold start;change _=N.length;rw[ke,cK,Tg];lia
def GG{K:PySem.W.Frag}{p kV g z d ct D:dV}
 (lk:K.lookup f=a0 #[D,od,.func (PySem.W.fnOf name a c body scope p kV g z G d ct),Pb]) (L:PySem.W.codeIn K d a=b5) (S:eh N ps scope)
    (h:∀vs H Q E,sp vs H Q E->vs.length=ps.length)
    (O:∀(A:PV) (outer:List Env) (s:gj) (H:Hp) (vs:List V) (Q:VK) (E:XK),ic k (A.deeper (XY a scope s.heap.objs.size f d))->sp vs H Q E ->
      ∃t,Kl (qM CX P w K mg base N a scope f d A outer s H E) body t/\t {nx:=λ_ H'=>Q .Jp H',rt:=Q} (start N vs) H) :
    ni P w K mg base CX (k+1) f (PySem.W.fnOf name a c body scope p kV g z G d ct) ps sp:=by
  show#[h,λA outer s H args us vs Q E m i T r B=>?_];have hl:=h _ _ _ _ B;have C:K.In s.heap:=i.mod.SD.keeps λb o e=>(i.bs b o e).1;have lim:s.heap.NoLimit:=i.mod.nolimit.keeps λb o e=>(i.bs b o e).1;have Y:∀y∈ps.zip us,scope.names.lookup y.1=a0 .local\/(scope.names.lookup y.1=a0 .cell/\((OY (s.heap.objs.size+1) scope.names []).lookup y.1).isSome=b5):=λ⟨n,v⟩ hy=>by
    rcases S.par n (T7 hy).1 with q|q
    . show .inl q
    . show .inr #[q,PySem.W.cellsFrom_some _ _ _ (.inl q)]
  show codeAny_call_function m.depth (C _ _ lk) rfl S.co S.gen rfl (PySem.W.codeRec_of C L) (T _ _ _ _ ?_);show wpAny_newFunctionEnv_cells S.kind Y λenv he s1 x=>?_;subst he;show#[lim.keeps x.toInCall.keep,codeAny_func ?_];have(t,ht,hq):=O A outer s H vs Q E (m.deeper _) B;have I:Inv (qM CX P w K mg base N a scope f d A outer s H E) [] (start N vs) H s1:=wW S m.hd i hl r x;show HT (ht [] s1 (start N vs) H _ I hq) (λfl s' hs=>?_) λe s' hs=>hs;have j:∀{l:St} {H':Hp} {v:V} {u:dV},Inv (qM CX P w K mg base N a scope f d A outer s H E) [] l H' s'->RelV v u->Q v H'->CE outer P w H s Q u s' :=
    λ{l H' v u} J rv q=>#[v,H',J.os,J.bare,J.base,J.Jg,rv,q]
  cases fl with
  | ret u =>
    have(v,l,H',J,rv,q):=hs;show j J rv q
  | next =>
    have(l,H',J,q):=hs;show j (v:=V.Jp) (u:=qp) J rfl q
  | brk =>
    have(_,_,_,q):=hs;show Q2 q
  | cont =>
    have(_,_,_,q):=hs;show Q2 q
section
end
end L2
namespace HT
open PySem PyProof.Rows
section
open PySem.SeqAt
open PySem.AutoSeq1 (wpAny_loadPart')
open PySem.MeetsSeq PySem.MeetsSeq2 PySem.MeetsSeq3
end
section
end
end HT
namespace L2
open PySem PySem.Spec PyProof.Rows
@[reducible]def TO:=St->Hp->(Option Int->Hp->Prop)->Prop
abbrev PO(X:Cx)(e:Option ro)(t:TO):Prop :=
 ∀(a:List (gi×Obj)) (s:gj) (σ:St) (H:Hp) (Q:Option Int->Hp->Prop),Inv X a σ H s->t σ H Q ->
  eW (hJ X.prog X.w) X.A (evalPart e X.env) (λu s'=>∃o H',Inv X a σ H' s'/\IsPart u o/\Q o H') X.xe s
abbrev Bo:TO:=λ_ H Q=>Q bD H
abbrev GH(t:TE):TO:=λσ H Q=>t σ H λx a=>∃i,x=.int i/\Q (a0 i) a
section
variable{X:Cx}{e:ro}{te:TE}{lo hi:Option ro}{tl th:TO}{pos p2:Pos}
def Bp:PO X bD Bo:=by
 intro a s σ H Q I h;rw[evalPart_none];show cL #[bD,H,I,.none,h]
def Br(h:PE X e te):PO X (a0 e) (GH te):=by
 intro a s σ H Q I b;rw[evalPart_some];show Jj (h a s σ H _ I b) λu s1 c=>?_;have(x,d,f,g,j):=c;have(i,rfl,q):=j;have(t,rfl):=g;show#[a0 i,d,f,.int i t,q]
abbrev VW(X:Cx)(r:V->Option Int->Option Int->Hp->VK->Prop):Prop :=
 ∀(a:List (gi×Obj)) (s:gj) (σ:St) (H:Hp) (x:V) (v b c:dV) (lo hi:Option Int) (d:gi) (Q:VK),Inv X a σ H s->RelV x v->s.heap.IsSliceOf d b c .none->IsPart b lo->IsPart c hi->r x lo hi H Q ->
  ∃T id,Xo (.type T) "__getitem__"=pure (a0 (.builtin id))/\s.TypeIs v T/\eW (hJ X.prog X.w) X.A (Ë v (.ref d)) (EP X a σ Q) X.xe s
abbrev XW(r:V->Option Int->Option Int->Hp->VK->Prop)(te:TE)(tl th:TO):TE:=λσ H Q=>te σ H λx a=>tl σ a λl b=>th σ b λu c=>r x l u c Q
def yw(g:VW X r)(i:PE X e te)(hl:PO X lo tl)(j:PO X hi th):PE X (.Subscript e (.Slice lo hi bD p2) pos) (XW r te tl th):=by
 intro a s σ H Q I h;show Κ (Jj (i a s σ H _ I h) λv s1 k=>?_);have(x,m,n,o,p):=k;show wpAny_Slice (Jj (hl a s1 σ m _ n p) λc s2 ⟨l,t,y,pl,z⟩=>Jj (j a s2 σ t _ y z) λd s3 B=>?_);have(u,f,C,D,G):=B;rw[evalPart_none];show cL ?_;have J:Inv X a σ f {s3 with heap:=s3.heap.push {cls:=.type "slice",data:=.fields #v[c,d,.none]}}:=C.kept (t':=s3.toks) λb Y q=>b6 _ q;have(T,id,L,N,O):=g a {s3 with heap:=s3.heap.push {cls:=.type "slice",data:=.fields #v[c,d,.none]}} σ f x v c d l u s3.heap.objs.size Q J o (ι ..) pl D G;change eW (hJ X.prog X.w) X.A (Zm e (.Slice lo hi bD p2) v (.ref s3.heap.objs.size)) (EP X a σ Q) X.xe {s3 with heap:=s3.heap.push {cls:=.type "slice",data:=.fields #v[c,d,.none]}};show ϡ (ops:=[.ref s3.heap.objs.size,v]) N L O (by with_unfolding_all rfl)
end
abbrev Mp(n:Nat)(i:Int):Option Nat:=if 0<=i then(if i<n then a0 i.toNat else bD) else if -(n:Int)<=i then a0 (i+n).toNat else bD
abbrev JK{α:Type}(xs:List α)(i:Int):Option α:=(Mp xs.length i).bind λj=>xs[j]?
def uO{n:Nat}(h:Mp n i=a0 j):seqIndex? i n=a0 j/\j<n/\-(n:Int)<=i/\i<n:=by
 unfold Mp at h;by_cases b:0<=i
 .rw[ϥ b]at h;by_cases a:i<n
  .rw[ϥ a]at h;have e:i.toNat=j:=tA h;show#[by rw[Ř b a,e],⋯,⋯,a]
  .rw[Ϧ a]at h;cases h
 .rw[Ϧ b]at h;by_cases a:-(n:Int)<=i
  .rw[ϥ a]at h;have e:(i+n).toNat=j:=tA h;show#[by rw[seqIndex_neg ⋯ a,e],⋯,a,⋯]
  .rw[Ϧ a]at h;cases h
def pf(h:JK xs i=a0 v):∃j,seqIndex? i xs.length=a0 j/\xs[j]?=a0 v/\j<xs.length/\-(xs.length:Int)<=i/\i<xs.length:=by
 unfold JK at h;cases e:Mp xs.length i with
 |none=>rw[e]at h;cases h
 |some j =>
  rw[e]at h;have(a,b,c,d):=uO e;show#[j,a,h,b,c,d]
def bQ{j:Nat}(h:xs[j]?=a0 v):JK xs (j:Int)=a0 v:=by
 have a:j<xs.length:=(et.mp h).1;have e:Mp xs.length (j:Int)=a0 j:=by
  unfold Mp;rw[ϥ ⋯,ϥ ⋯];simp
 unfold JK;rw[e];show h
abbrev ph(b:ro):Prop:=∀o i,æ b cb o i=operate [o,i] (Ë o i)
abbrev Te(X:Cx)(r:R2):Prop :=
 ∀(c a:ro) (b:List (gi×Obj)) (s:gj) (σ:St) (H:Hp) (x y:V) (v u:dV) (Q:VK),Inv X b σ H s->RelV x v->RelV y u->r x y H Q ->
  æ a cb v u=operate [v,u] (Ë v u)->eW (hJ X.prog X.w) X.A (Zm c a v u) (EP X b σ Q) X.xe s
abbrev Rz(X:Cx)(id:String)(r:V->List V->Hp->VK->Prop):Prop :=
 ∀(a:List (gi×Obj)) (s:gj) (σ:St) (H:Hp) (x:V) (xs:List V) (v:dV) (us:List dV) (Q:VK),Inv X a σ H s->RelV x v->Vals xs us->r x xs H Q ->
  eW (hJ X.prog X.w) X.A (QI (.builtin id) (v::us)) (EP X a σ Q) X.xe s
section
abbrev Iv(K:PySem.W.Frag):R2:=λx y H Q=>∃p xs i v,x=.ref p/\y=.int i/\JG K H p xs/\JK xs i=a0 v/\Q v H
abbrev Iw(K:PySem.W.Frag):R2:=λx y H Q=>∃p xs i v,x=.ref p/\y=.int i/\JH K H p xs/\JK xs i=a0 v/\Q v H
abbrev Iy:R2:=λx y H Q=>∃z i c,x=.str z/\y=.int i/\z.length<=dt/\JK z.cps.toList i=a0 c/\Q (.str #[#v[c]]) H
def Bs:Te X (Iv X.K):=by
 intro d f a s σ H x y v u Q I m n h hs;have(p,xs,i,z,rfl,rfl,A,B,q):=h;cases m;have(t,rfl):=n;have(its,r,pl,hz):=I.list A;have(j,c,C,L,D,G):=pf B;have(w,k,J):=r.get C;have hl:=r.length;have N:=fe;have b:EP X a σ Q w s:=#[z,H,I,J,q]
 by_cases l:0<=i
 .have g:i.toNat=j:=by
   rw[Ř l G]at c;show tA c
  show item_listR pl.isList l ⋯ (by rw[g];simpa using k) b hs
 .have g:(i+(its.toArray.size:Int)).toNat=j:=by
   rw[seqIndex_neg ⋯ D]at c;rw[ko,<-hl];show tA c
  show Ľ (x:=w) pl.isList.typeIs slot_list_getitem.lookup
   (wpAny_getItem_list_neg (Q:=λr s'=>r=w/\EP X a σ Q r s') pl.isList ⋯ (by rw[ko]<;>lia) ⋯ (by rw[g];simpa using k) ⟨rfl,b⟩) hs
def bc:Te X (Iw X.K):=by
 intro b c a s σ H x y v u Q I f g h hs;have(p,xs,i,z,rfl,rfl,k,l,q):=h;cases f;have(t,rfl):=g;have(its,r,pl,hz):=I.tuple k;have(j,m,n,C,D,G):=pf l;have(w,A,B):=r.get n;have hl:=r.length;have J:=fe;have d:EP X a σ Q w s:=#[z,H,I,B,q]
 show Ľ (x:=w) pl.typeIs slot_tuple_getitem.lookup
  (getItem_tuple (j:=j) (Q:=λr s'=>r=w/\EP X a σ Q r s') pl ⋯ ⋯ (by rw[ko,<-hl];show m) (by simpa using A) ⟨rfl,d⟩) hs
def lz:Te X Iy:=by
 intro a b d s σ H x y v u Q I g k h hs;have(z,i,c,rfl,rfl,hz,l,q):=h;have(t,rfl):=g;have(t',rfl):=k;have(j,f,m,B,n,p):=pf l;have hl:z.cps.toList.length=z.length:=by simp[à]
 rw[hl]at f n p;have C:=fe;show ϡ (Xq s z t) ψ.lookup (getItem_str (c:=c) (by
  have w:df (i < -(2 ^ 63:Int))=cb:=ϧ ⋯;have A:df (i >= 2 ^ 63)=cb:=ϧ ⋯;rw[w,A,V_]) (by rw[f];simpa using m) ⟨.str ⟨#v[c]⟩,H,I.tok _,⟨_,rfl⟩,q⟩) hs
def sO(its:List dV)(n j:Nat)(u:dV):td (·.setIfInBounds j u) {cls:=.type "list",data:=.seq its.toArray n}={cls:=.type "list",data:=.seq (its.set j u).toArray n}:=by
 simp[td]
def Inv.lst(I:Inv X a σ H s)(h:H p=a0 (.lst xs)):
  ∃(its:List dV) (n:Nat),Vals xs its/\s.heap.get? p=a0 {cls:=.type "list",data:=.seq its.toArray n}/\xs.length<=dt:=by
 have(z,its,n,r,e):=I.Jg p _ h;show#[its,n,r,e,z]
def Inv.Ek{its its':List dV}(I:Inv X a σ H s)(h:H p=a0 (.lst xs))
  (ho:s.heap.get? p=a0 {cls:=.type "list",data:=.seq its.toArray n}) (c:f {cls:=.type "list",data:=.seq its.toArray n}={cls:=.type "list",data:=.seq its'.toArray d }) (r:Vals g its') (hz:g.length<=dt) (t:Nat) :
  Inv X a σ (upd H p (.lst g)) {s with heap:=s.heap.update p f,toks:=t}:=by
 have e:(s.heap.update p f).get? p=a0 {cls:=.type "list",data:=.seq its'.toArray d }:=by
  rw[H0 f ho (by rw[c]<;>rfl),c]
 show I.write (x:=p) (e:=p) (by rw[h];trivial) (.inl rfl) (λb u i q=>(P6 _ _ (uv i)).trans q) ⟨_,e⟩ ?_;show#[hz,its',d,r,e]
abbrev GI:V->V->V->Hp->(Hp->Prop)->Prop:=λo i v H Q=>∃p xs k j,o=.ref p/\i=.int k/\H p=a0 (.lst xs)/\Mp xs.length k=a0 j/\Q (upd H p (.lst (xs.set j v)))
def set_list:ll X GI:=by
 intro a s σ H o i v y z u Q I m w rv h;have(p,xs,k,j,rfl,rfl,c,x,q):=h;cases m;have(t,rfl):=w;have(its,n,r,ho,hz):=I.lst c;have(b,A,d,f):=uO x;have hl:=r.length;have B:=fe;have g:Inv X a σ (upd H p (.lst (xs.set j v))) {s with heap:=s.heap.update p (td (·.setIfInBounds j u))} :=
  I.Ek c ho (sO its n j u) (r.set rv j) (by rw[ũ];show hz) s.toks
 by_cases l:0<=k
 .have hk:k.toNat=j:=by
   rw[Ř l f]at b;show tA b
  show PySem.W.ki_setAt ho l ⋯ (by rw[ko,<-hl];show f) (by rw[hk];show#[_,g,q])
 .have hk:(k+(its.toArray.size:Int)).toNat=j:=by
   rw[seqIndex_neg ⋯ d]at b;rw[ko,<-hl];show tA b
  show PySem.W.ki_setBack ho ⋯ (by rw[ko,<-hl];show d) ⋯ (by rw[hk];show#[_,g,q])
def iI:gT X (.builtin "len") (λxs H Q=>∃p b,xs=[.ref p]/\(JG X.K H p b\/JH X.K H p b)/\Q (.int b.length) H):=by
 intro d s σ H xs us Q I r h;have(p,b,rfl,hq,q):=h;have(u,rfl,f):=vals1 r;cases f;have g:=fe;rcases hq with hq|hq
 .have(its,c,pl,hz):=I.list hq;have a:=c.length;show Calls.call_len_list pl.isList (by simp only[ko]<;>lia) #[.int b.length,H,I.tok _,#[s.toks+1,by rw[ko,a]],q]
 .have(its,c,pl,hz):=I.tuple hq;have a:=c.length;show len_tuple pl (by simp only[ko]<;>lia) #[.int b.length,H,I.tok _,#[s.toks+1,by rw[ko,a]],q]
def pj:gT X (.builtin "len") (λxs H Q=>∃z,xs=[.str z]/\z.length<=dt/\Q (.int z.length) H):=by
 intro a s σ H xs us Q I r h;have(z,rfl,hz,q):=h;have(u,rfl,t,rfl):=vals1 r;have b:=fe;show len_str ⋯ #[.int z.length,H,I.tok _,#[_,rfl],q]
def gU:gT X (.type "tuple") (λxs H Q=>∃p c,xs=[.ref p]/\((JG X.K H p c/\∀l,H l=bD->Q (.ref l) (upd H l (.tup c)))\/(JH X.K H p c/\Q (.ref p) H))):=by
 intro a s σ H xs us Q I r h;have(p,c,rfl,h):=h;have(u,rfl,j):=vals1 r;cases j;rcases h with⟨d,q⟩|⟨d,q⟩
 .have(its,f,pl,hz):=I.list d;have g:=f.length;show call_tuple_list pl.isList (λh' k=>?_) (by simp only[ko]<;>lia);have i:Inv X a σ H {s with heap:=h' }:=I.kept (t':=s.toks) k;have m:Inv X a σ (upd H h'.objs.size (.tup c)) {s with heap:=h'.push {cls:=.type "tuple",data:=.seq its.toArray}} :=
   i.laid (t':=s.toks) (λb o e=>b6 _ e) (i4 _) (show bF X.prog X.w _ _ _ (.tup c) from#[hz,its,f,ϕ _ _])
  show#[.ref h'.objs.size,_,m,rfl,q _ (i.Jg.fresh (i4 _))]
 .have(its,f,pl,hz):=I.tuple d;show call_tuple_same pl #[.ref p,H,I,rfl,q]
abbrev RA(K:PySem.W.Frag)(T:String)(x:V)(H:Hp):Prop:=match x with
 |.str _=>T="str"
 |.int _=>T="int"
 |.ref p=>(T="list"/\∃xs,JG K H p xs)\/(T="tuple"/\∃o,K.lookup p=a0 o/\o.cls=.type "tuple"/\o.dict=bD) \/
   (T="dict"/\((∃kvs,H p=a0 (.dK kvs))\/∃kvs,H p=a0 (.dT kvs)))\/(T="set"/\∃S n,H p=a0 (.set S n))
 |_=>False
def pk(I:Inv X g σ H s)(r:RelV x v)(b:RA X.K T x H):
  s.TypeIs v T/\∀a,v=.ref a->∃h,s.heap.get? a=a0 h/\h.dict=bD:=by
 cases x with
 |str z =>
  have(t,rfl):=r;cases(show T="str" from b);show#[Xq s z t,λ_ e=>nomatch e]
 |int i =>
  have(t,rfl):=r;cases(show T="int" from b);show#[typeIs_int s i t,λ_ e=>nomatch e]
 |ref p =>
  cases r;rcases b with⟨rfl,xs,j⟩|⟨rfl,o,hk,k,d⟩|⟨rfl,hk⟩|⟨rfl,S,n,hk⟩
  .have(its,_,pl,_):=I.list j;show#[pl.isList.typeIs,λa e=>?_];cases e;have(o,n,e,c,d,_):=pl;show#[o,e,d]
  .show#[#[o,I.O9 p o hk,k],λa e=>?_];cases e;show#[o,I.O9 _ o hk,d]
  .have z:∃o,s.heap.get? p=a0 o/\o.ExactDict:=by
    rcases hk with⟨kvs,hk⟩|⟨kvs,hk⟩
    .have(_,_,_,_,o,_,_,e,ex,_):=I.Jg p _ hk;show#[o,e,ex]
    .have(_,_,_,_,o,_,_,e,ex,_):=I.Jg p _ hk;show#[o,e,ex]
   have(o,e,ex):=z;show#[#[o,e,ex.1],λa f=>?_];cases f;show#[o,e,ex.2.1]
  .have(o,_,_,_,e,ex,_):=I.Jg p _ hk;show#[#[o,e,ex.1],λa f=>?_];cases f;show#[o,e,ex.2.1]
 |_=>show Q2 b
abbrev IA(K:PySem.W.Frag)(T:String)(r:V->List V->Hp->VK->Prop)(to:TE):TE:=λσ H Q=>to σ H λx a=>RA K T x a/\r x [] a Q
abbrev XX(K:PySem.W.Frag)(T:String)(r:V->List V->Hp->VK->Prop)(to:TE)(t:TA):TE:=λσ H Q=>to σ H λx a=>RA K T x a/\t σ a λxs b=>r x xs b Q
variable{o e:ro}{es:List ro}{to:TE}{t:TA}{name:Str}{apos F':Pos}{T id:String}{r:V->List V->Hp->VK->Prop}
def El(d:PlainAttrs T)(slot:Slot T name id)(f:ž (.builtin id)=pure (.type "method_descriptor"))(g:Rz X id r)(ho:PE X o to)
  (i:SN o name X.env (K6 o X.env)=K6 o X.env:=by rfl) (j:(apos.endLine==F'.line)=b5:=by rfl):PE X (.Call (.Attribute o name apos) [] [] F') (IA X.K T r to):=by
 intro a s σ H Q I h;show Td i j (Jj (ho a s σ H _ I h) λv s1 k=>?_);have(x,l,b,c,m,n):=k;have(p,q):=pk b c m;show#[T,id,d,slot,f,p,q,Kj rfl (PySem.evalArgs_none (g a s1 σ l x [] v [] Q b c .nil n))]
def yx(f:PlainAttrs T)(slot:Slot T name id)(g:ž (.builtin id)=pure (.type "method_descriptor"))(i:Rz X id r)(ho:PE X o to)(j:PA X (e::es) t)
  (k:SN o name X.env (K6 o X.env)=K6 o X.env:=by rfl)
  (l:((M3 F' (mh (e::es) X.env)).all (λx=>!x.1)&&(UQ F' (Qz [] X.env)).all (λx=>x.1.isSome)
   && df ((e::es).length+([]:List SW).length+(if ([]:List SW).isEmpty then 0 else 1)<30))=b5:=by rfl)
  (m:(apos.endLine==F'.line)=b5:=by rfl) (hs:mh (e::es) X.env=(cb,K6 e X.env)::mh es X.env:=by rfl) (n:(M3 F' (mh es X.env)).any (·.1)=cb:=by rfl) :
  PE X (.Call (.Attribute o name apos) (e::es) [] F') (XX X.K T r to t):=by
 intro a s σ H Q I h;show İ k l m rfl (Jj (ho a s σ H _ I h) λv s1 p=>?_);have(x,q,b,c,u,w):=p;have(y,z):=pk b c u;show#[T,id,f,slot,g,y,z,?_];have d:=j F' a s1 σ q _ b w;rw[hs]at d ⊢;show Kj (by change(cb||(M3 F' (mh es X.env)).any (·.1))=cb;rw[n]<;>rfl) (QV ?_);show Jj d λus s2 ⟨vs,A,B,C,D⟩=>i a s2 σ A x vs v us Q B c C D
end
abbrev Th(X:Cx)(id:String)(r:V->List V->Hp->VK->Prop):Prop :=
 ∀(a:List (gi×Obj)) (s:gj) (σ:St) (H:Hp) (x:V) (xs:List V) (v:dV) (us:List dV) (Q:VK),Inv X a σ H s->RelV x v->Vals xs us->r x xs H Q ->
  eW (hJ X.prog X.w) X.A (QI (.builtin id) (v::us)) (EP X a σ Q) X.xe s
theorem Vals.one:∀{x:V}{us:List dV},Vals [x] us->∃u,us=[u]/\RelV x u
 |_,_,.cons r .nil=>#[_,rfl,r]
theorem Vals.zero:∀{us:List dV},Vals [] us->us=[]
 |_,.nil=>rfl
def Vals.dropLast(h:Vals xs us):Vals xs.dropLast us.dropLast:=by
 induction h with
 |nil=>show .nil
 |cons r t a =>
  cases t with
  |nil=>show .nil
  |cons q t'=>show .cons r a
def Vals.reverse(h:Vals xs us):Vals xs.reverse us.reverse:=by
 induction h with
 |nil=>show .nil
 |cons r t a=>rw[VU,VU];show Vals.append a (.cons r .nil)
def sP(l:List α):l.eraseIdx (l.length - 1)=l.dropLast:=by
 induction l with
 |nil=>rfl
 |cons a r c =>
  cases r with
  |nil=>rfl
  |cons b r =>
   have e:(a::b::r).length - 1=((b::r).length - 1)+1:=by
    have d:(a::b::r).length=r.length+2:=rfl;have f:(b::r).length=r.length+1:=rfl;lia
   rw[e,Wi,c]
   all_goals rfl
section
def Inv.pq{its its':List dV}(I:Inv X a σ H s)(c:H l=a0 (.lst xs))
  (e:s.heap.get? l=a0 {cls:=.type "list",data:=.seq its.toArray n}) (d:f its.toArray=its'.toArray) (g:Vals b its') (hz:b.length<=dt) :
  Inv X a σ (upd H l (.lst b)) {s with heap:=s.heap.update l (td f),toks:=t' }:=by
 have q:=PySem.IsL.update e f;rw[d]at q;show I.write (x:=l) (e:=l) (by rw[c];show trivial) (.inl rfl) (λj u h i=>(P6 s.heap (td f) (uv h)).trans i) ⟨_,q⟩ ?_;show#[hz,its',_,g,q]
def Inv.IB(I:Inv X a σ H s)(c:Vals b its)(hz:b.length<=dt):
  Inv X a σ (upd H s.heap.objs.size (.lst b)) {s with heap:=s.heap.push {cls:=.type "list",data:=.seq its.toArray},toks:=t' } :=
 I.laid (λ_ _ q=>b6 _ q) (i4 _) ⟨hz,its,0,c,f6 _ rfl⟩
def Inv.fresh(I:Inv X a σ H s):H s.heap.objs.size=bD:=I.Jg.fresh (i4 _)
def Inv.Em(I:Inv X a σ H s)(b:H l=a0 (.lst xs)):xs.length<=dt/\∃(its:List dV) (n:Nat),Vals xs its/\xs.length=its.length/\s.heap.get? l=a0 {cls:=.type "list",data:=.seq its.toArray n}:=by
 have(z,its,n,r,e):=I.Jg l _ b;show#[z,its,n,r,r.length,e]
def yy(h:n<=dt):Oq n=cb:=by
 unfold Oq;show ϧ ⋯
end
section
abbrev Bt:V->List V->Hp->VK->Prop:=λx vs H Q=>∃l xs y,x=.ref l/\vs=[y]/\H l=a0 (.lst xs)/\xs.length<dt/\Q .Jp (upd H l (.lst (xs++[y])))
def nN:Th X "list.append" Bt:=by
 intro a s σ H x vs v us Q I c rv h;have(l,xs,y,rfl,rfl,b,hz,q):=h;cases c;have(u,rfl,d):=rv.one;have(z,its,n,r,hl,e):=I.Em b;show Uv F.slot_list_append #[_,e,rfl] F.entry_list_append (F.args_list_append_2 _ _) (PySem.list_append l its.toArray n u (by rw[ko];lia)) #[e,?_];show#[.Jp,_,I.pq (its':=its++[u]) b e (by simp) (r.append (.cons d .nil)) ?_,rfl,q];rw[ke,wh];lia
abbrev IC:V->List V->Hp->VK->Prop:=λx vs H Q=>∃l xs y,x=.ref l/\vs=[]/\H l=a0 (.lst xs)/\xs[xs.length - 1]?=a0 y/\Q y (upd H l (.lst xs.dropLast))
def En:Th X "list.pop" IC:=by
 intro a s σ H x vs v us Q I c rv h;have(l,xs,y,rfl,rfl,b,d,q):=h;cases c;have f:=rv.zero;subst f;have(z,its,n,r,hl,e):=I.Em b;have(u,g,i):=r.get d;have j:its.toArray[its.toArray.size - 1]?=a0 u:=by
  change its.toArray[its.length - 1]?=a0 u;rw[<-vu,<-hl];show g
 show Uv F.slot_list_pop #[_,e,rfl] F.entry_list_pop (F.args_list_pop_1 _) (MeetsSeq.list_pop_last l its.toArray n u j (by rw[ko];lia)) #[e,?_];show#[y,_,I.pq (its':=its.dropLast) b e ?_ r.dropLast ?_,i,q]
 .change its.toArray.eraseIdxIfInBounds (its.toArray.size - 1)=its.dropLast.toArray;rw[ko,List.eraseIdxIfInBounds_toArray,sP]
 .rw[List.length_dropLast];lia
end
section
set_option maxRecDepth 100000 in
end
section
end
end L2
namespace VX
open PySem PySem.W PySem.Calls PyProof.Rows
def kB:∀(ns:List Int) (vs:List dV),WellAll P h vs (ns.map ώ)->ł vs ns:=by
 intro ns;induction ns with
 |nil =>
  intro vs w;rw[LV]at w;cases w;show .nil
 |cons n ns c =>
  intro vs w;rw[eH]at w;cases w with
  |cons a b =>
   cases a;show .cons _ _ (c _ b)
def wX{l:OpenLaw}(i:l.most=a0 n)
  (f:l.row.toRowW.claim.pre args=b5) (j:WellAll P h vals args) :
  ∃a vs ns,vals=[hU a]/\args=[WData.list (ns.map ώ)]/\h.get? a=a0 {cls:=.type "list",data:=.seq vs.toArray}/\ł vs ns/\ns.length<=n:=by
 have k:WShape.hasAll [] args [.list .int]=b5:=(pre_splitW f).1;have g:l.pre.holds [] {args:=args}=b5:=(pre_splitW f).2;have(d,r,rfl,m,o):=hasAllW_cons k;obtain rfl:=hasAllW_nil o;have(xs,rfl,p):=hasW_list m;have(ns,rfl):=items_int p;have b:ns.length<=n:=by
  unfold OpenLaw.pre at g;have c:(WTm.not (.lt (.lit (.int (n:Int))) (.len (.arg 0)))).holds [] {args:=[.list (ns.map .int)]}=b5:=by
   have c:=(holds_andW g).1;rw[i]at c;show c
  have e:=condW_of c (w_not (w_lt w_lit (w_len_list (w_arg rfl))));rw[cK]at e;show Nat.le_of_not_lt λq=>?_;have s:(n:Int)<((ns.length:Nat):Int):=by lia
  first
   |(rw[Ϩ s]at e;show absurd e (by decide))
   |(simp at e;lia)
 cases j with
 |cons t u =>
  cases u;cases t with
  |list ho v=>show#[_,_,ns,rfl,rfl,ho,kB ns _ v,b]
def wY(l:OpenLaw)(args:List WData):l.row.toRowW.claim.post args (.bool b5) args=b5 :=
 postW_of (r:=l.row.toRowW) (X:=(b5==b5))
  (show Ψ [] (.bool b5) .bool=b5 by first|rfl|decide|simp[Ψ,WShape.arms,WShape.armsAll])
  (show(WTm.eq .res (.lit (.bool b5))).value [] {args:=args,res:=a0 (.bool b5),after:=args}=a0 (.bool (b5==b5)) from w_eq_bool (w_res rfl) w_lit) rfl
def qO{l:OpenLaw}
  (p:l.most=a0 n) (s:d.params.defaults=[])
  (QI:∀(w:JT) (s₀ b:gj) (mg j:Str->Option dV) (fa:gi) (o:Obj) (k i c:dV) (a:gi) (vs:List dV) (ns:List Int),
   Ground q e [] t w s₀ mg j b.heap->u w b.heap ->
   b.heap.get? fa=a0 o->o.data=.func (docDef d.name d.params d.body d.scope k i c)->b.heap.CodeRec i d.name->mg d.name=a0 (.ref fa) ->
   b.heap.get? a=a0 {cls:=.type "list",data:=.seq vs.toArray}->ł vs ns->ns.length<=n->b.gens=#v[] ->
   Tu (hJ l.prog w) XH (.call (.ref fa) #[[.ref a],[]]) (λr s'=>r=.ok (.ret (.bool b5))/\OldK b.heap s'.heap/\s'.os=b.os/\XZ s'.gens) b) :
  WalkO q e t u l.row.toRowW d [] (λf vs=>PySem.call f vs):=by
 intro w s₀ b mg j G Y fa o k i c v kV ho x y m z A args vals as B Q T C D;obtain rfl:v=.none:=Dflts.none m s;obtain rfl:kV=.none:=Dflts.noKw m;have(a,vs,ns,rfl,rfl,H,g,h):=wX p B C;show enter_call (XG (QI w s₀ b mg j fa o k i c a vs ns G Y ho (fd_plain x) y z H g h A) λr s' I=>?_);have(rfl,J,L,N):=I;show#[.inl #[.bool b5,.bool b5,[],rfl,λ_=>rfl,.bool b5,wY l _,λ_=>#[ϋ,λ_ O=>(nomatch O)]],J,L,N]
section
end
end VX
namespace L2
open PySem PySem.Spec PyProof.Rows
theorem nO:∀{vs:List dV}{ns:List Int},ł vs ns->Vals (ns.map V.int) vs
 |_,_,.nil=>.nil
 |_,_,.cons n t h=>.cons #[t,rfl] (nO h)
abbrev Eo(H:Hp):Prop:=∀b,H b=bD\/∃o xs,H b=a0 (.J_ o (.lst xs))
def yz{K:PySem.W.Frag}
  (y:K.In c.heap) (A:c.heap.Ns K2 mg) (f:c.heap.Ns XJ B) (O:∀x:Str,x≠"__name__"->B x=H8 x) (Q:c.heap.NoLimit) (T:c.gens=#v[])
  (l:c.heap.get? a=a0 {cls:=.type "list",data:=.seq vs.toArray}) (C:ł vs ns) (hl:ns.length<=dt) (Y:ic k XH)
  (F:∀base:Mt,K.In base->base.Ns K2 mg->ni P w K mg base CX k fa fd [x] sp) (Qd:∀(s:gj) (u:dV),ļ s fd #[[u],[]] [(x,u)])
  (Lb:∀H:Hp,Eo H->JG K H a (ns.map V.int)->sp [.ref a] H (λv _=>v=.bl b5) λ_ _ _=>False)
  (Tn:∀H e s',CX [] H c (λ_ _ _=>False) e s'->False) :
  Tu (hJ P w) XH (.call (.ref fa) #[[.ref a],[]]) (λr s'=>r=.ok (.ret (.bool b5))/\OldK c.heap s'.heap/\s'.os=c.os/\XZ s'.gens) c:=by
 have rv:=nO C;have To:=C.length;have g:∀H:Hp,Eo H->JG K H a (ns.map V.int)->Kc P w H c.heap->(∀b,H b≠bD->b=a)->(H a≠bD->K.lookup a=bD) ->
   Tu (hJ P w) XH (.call (.ref fa) #[[.ref a],[]]) (λr s'=>r=.ok (.ret (.bool b5))/\OldK c.heap s'.heap/\s'.os=c.os/\XZ s'.gens) c:=by
  intro H D hS G I hK;have kQ:∀{b:gi} {o:Obj},c.heap.get? b=a0 o->H b=bD->(oZ c.heap H).get? b=a0 o:=λe n=>yf e n;have P':∀{b:gi} {o:Obj} {es:Array DictEntry} {ep:Nat},c.heap.get? b=a0 o->o.data=.dict es ep->H b=bD:=λ{b o es ep} e d=>by
   cases q:H b with
   |none=>rfl
   |some u =>
    have t:b=a:=I b (by rw[q];simp);subst t;rw[l]at e;cases e;have d':Data.seq vs.toArray _=Data.dict es ep:=d;cases d'
  have p:∀{b:gi} {m:Str->Option dV},c.heap.Ns b m->(oZ c.heap H).Ns b m:=λ{b m} ⟨o,es,ep,e,d,r⟩=>#[o,es,ep,kQ e (P' e d),d,r]
  have J:K.In (oZ c.heap H):=λb o e=>kQ (y b o e) (by
   cases q:H b with
   |none=>rfl
   |some u =>
    have t:b=a:=I b (by rw[q];simp);subst t;rw[hK (by rw[q];simp)]at e;cases e)
  have hM:Mod K mg (oZ c.heap H):=#[J,p A,#[B,p f,O],let ⟨mc,h1,h2⟩:=Q;⟨mc,p h1,h2⟩]
  have e0:Bn P w K mg (oZ c.heap H) XH [] c H:=#[rfl,hM,λb o e=>Bb e,Ĉ (wQ _ _),trivial,λb f=>absurd (show b∈([]:List gi) from f) (by simp),G,.of_eq T]
  show XG ((F _ J (p A)).run XH [] c H #[[.ref a],[]] [.ref a] [.ref a] _ _ Y e0 (Qd c (.ref a)) (.cons rfl .nil) (Lb H D hS)) λr s' h=>?_;cases r with
  |error e=>show(Tn H e s' h).elim
  |ok fl =>
   cases fl with
   |ret u =>
    have(v,H',os,i,L,Tq,r',q):=h;have q':v=.bl b5:=q;subst q';obtain rfl:u=UR b5:=r';show#[rfl,OldK.of_keep λb o e=>?_,os,i];cases q:H b with
    |none=>show L.keep b o e q (by intro z;show absurd (show b∈([]:List gi) from z) (by simp)) (by simp)
    |some u =>
     rcases D b with z|⟨ob,xs,z⟩
     .rw[q]at z;cases z
     .have z2:=L.KN b ob _ z;have(N,_):=G b _ z;have(e2,_):=Tq b _ z2;rw[e]at N;cases N;show e2
   |_=>show Q2 h
 cases hk:K.lookup a with
 |some o =>
  have e:=y a o hk;rw[l]at e;cases e;show g (λ_=>bD) (λ_=>.inl rfl) (.inr #[_,vs.toArray,_,hk,rfl,rfl,rfl,by rw[ko,To];show hl,by simpa using rv]) (λb u z=>by have j:(bD:Option HO)=a0 u:=z;cases j) (λb z=>absurd rfl z) λz=>absurd rfl z
 |none =>
  show g (λb=>if b=a then a0 (.J_ {cls:=.type "list",data:=.seq vs.toArray} (.lst (ns.map V.int))) else bD) (λb=>?_) (.inl (.inr #[{cls:=.type "list",data:=.seq vs.toArray},ϥ rfl])) (λb u z=>?_) (λb z=>?_) λ_=>hk
  .by_cases f:b=a
   .show .inr #[_,_,ϥ f]
   .show .inl (Ϧ f)
  .by_cases f:b=a
   .have j:=(ϥ f).symm.trans z;cases j;subst f;show#[l,by rw[cK];show hl,vs,_,rv,l]
   .have j:=(Ϧ f).symm.trans z;cases j
  .by_cases f:b=a
   .show f
   .show absurd (Ϧ f) z
def Bu{l:PySem.W.OpenLaw}{K:Ĺ->PySem.W.Frag}{CX:JT->Pa}{sp:JT->Sp}
  (r:l.most=a0 n) (t:n<=dt) (y:d.params.defaults=[]) (z:ic k XH)
  (A:∀(w:JT) (h:Mt),B w h->(K w.params).In h)
  (F:∀(w:JT) (mg:Str->Option dV) (fa:gi) (h:Mt),(K w.params).In h->h.Ns K2 mg->mg d.name=a0 (.ref fa) ->
   ∃j:Wc,(∀(s:gj) (u:dV),ļ s j #[[u],[]] [(x,u)]) /\
    ∀base:Mt,(K w.params).In base->base.Ns K2 mg->ni l.prog w (K w.params) mg base (CX w) k fa j [x] (sp w))
  (C:∀(w:JT) (H:Hp) (a:gi) (ns:List Int),ns.length<=n->Eo H->JG (K w.params) H a (ns.map V.int)->sp w [.ref a] H (λv _=>v=.bl b5) λ_ _ _=>False)
  (D:∀(w:JT) (H:Hp) (s:gj) (e:dV) (s':gj),CX w [] H s (λ_ _ _=>False) e s'->False) :
  PySem.W.WalkO q m XP B l.row.toRowW d [] (λf vs=>PySem.call f vs):=by
 show VX.qO r y λw s₀ I mg mb fa o pm cd J a vs ns G Y ho hd JP L N i c O=>?_;have p:=A w _ Y;have(j,Q,hF):=F w mg fa _ p G.T.g L;show yz p G.T.g G.T.b G.T.builtins G.T.nolimit O N i (K' c t) z hF Q (λH hO hS=>C w H a ns c hO hS) λH e s'=>D w H I e s'
abbrev gA(s:QO):Arguments:=match s with
 |.FunctionDef _ a _ _ _ _ _ _ _ _=>a
 |_=>{posonlyargs:=[],args:=[],vararg:=bD,kwonlyargs:=[],kw_defaults:=[],kwarg:=bD,defaults:=[]}
abbrev cW(s:QO):List QO:=match s with
 |.FunctionDef _ _ b _ _ _ _ _ _ _=>b
 |_=>[]
abbrev aV(s:QO):P0:=match s with
 |.FunctionDef _ _ _ _ _ _ a _ _ _=>a
 |_=>{kind:=.function,names:=[],isGenerator:=cb,isCoroutine:=cb}
@[reducible]def ME:Pa:=λ_ _ _ _ _ _=>False
@[reducible]def E0:XK:=λ_ _ _=>False
def GJ:Passes ME X E0:=λ_ _ _ _ _ _ _ h=>h.elim
structure NC(K:PySem.W.Frag)(x qual:Str)(st:QO)(f:gi)(fd:Wc):Prop where
 ex:∃(oc:dV) (od:Option gi) (kV doc pm:dV) (an:Option gi) (Km ct:dV) (Pb:Array (Option dV)),
  fd=PySem.W.fnOf x qual (gA st) (cW st) (aV st) .none kV doc pm an Km ct/\K.lookup f=a0 #[oc,od,.func fd,Pb]/\PySem.W.codeIn K Km qual=b5
 kp:PySem.W.keepIn K (.ref f)=b5
section
variable{P:B'}{w:JT}{K:PySem.W.Frag}{mg:Str->Option dV}{base:Mt}
def NC.ok{st:QO}(F:NC K x a st f d)(S:eh N ps (aV st))(c:∀vs H Q E,sp vs H Q E->vs.length=ps.length)
  (e:∀(b:dV) (A:PV) (outer:List Env) (s:gj) (H:Hp) (vs:List V) (Q:VK) (E:XK),ic k (A.deeper (XY a (aV st) s.heap.objs.size f b))->sp vs H Q E ->
   ∃t,Kl (qM ME P w K mg base N a (aV st) f b A outer s H E).O_ (cW st) t/\t {nx:=λ_ H'=>Q .Jp H',rt:=Q} (start N vs) H):ni P w K mg base ME (k+1) f d ps sp:=by
 have(m,n,kV,g,o,p,b,ct,r,rfl,lk,i):=F.ex;show GG lk i S c λA outer s H vs Q E j l=>?_;have(t,h,q):=e b A outer s H vs Q E j l;show#[t,h.O_,q]
def Ep{st:QO}{kV b e d ct:dV}(l:K.lookup f=a0 #[h,i,.func (PySem.W.fnOf x a (gA st) (cW st) (aV st) .none kV b e g d ct),j])
  (c:PySem.W.codeIn K d a=b5) (k:PySem.W.keepIn K (.ref f)=b5):NC K x a st f (PySem.W.fnOf x a (gA st) (cW st) (aV st) .none kV b e g d ct):=#[#[h,i,kV,b,e,g,d,ct,j,rfl,l,c],k]
end
def wZ(h:n<=1000):n<dt:=YJ h (by decide)
section
end
abbrev Er(H H':Hp):Prop:=∀b o,H b=a0 o->H' b=a0 o
section
variable{κ:Type}[DecidableEq κ]
abbrev dM(kvs:List (κ×V))(k:κ):Option V:=(kvs.find? λkv=>df (kv.1=k)).map (·.2)
abbrev putK(kvs:List (κ×V))(k:κ)(v:V):List (κ×V) :=
 if (kvs.any λkv=>df (kv.1=k))=b5 then kvs.map (λkv=>if kv.1=k then(kv.1,v) else kv) else kvs++[(k,v)]
def eL{p:κ×V}{k:κ}(e:p.1=k):dM (p::r) k=a0 p.2:=by simp[dM,Qu,e]
def eN{p:κ×V}{k:κ}(e:¬p.1=k):dM (p::r) k=dM r k:=by simp[dM,Qu,e]
theorem iJ(k:κ):∀kvs:List (κ×V),(kvs.any λkv=>df (kv.1=k))=(dM kvs k).isSome
 |[]=>rfl
 |p::r=>by
  rw[Yk];by_cases e:p.1=k
  .simp only[eL e,Ϩ e,Bool.true_or,ĕ]
  .rw[eN e,ϧ e,Bool.false_or];show iJ k r
def fP(kvs:List (κ×V))(k:κ)(v:V):(putK kvs k v).length<=kvs.length+1:=by
 unfold putK;split
 .rw[cK];lia
 .rw[ke,mx,WA];lia
def yA{k:κ}(v:V)(h:dM kvs k=bD):putK kvs k v=kvs++[(k,v)]:=by
 unfold putK;rw[iJ,h];show Ϧ (by decide)
def kA.eO(r:kA o u):o.isSome=u.isSome:=by
 cases o with
 |none=>cases u with
  |none=>rfl
  |some _=>show(show False from r).elim
 |some _=>cases u with
  |none=>show(show False from r).elim
  |some _=>rfl
def kA.getD(r:kA o u)(rd:RelV d d'):RelV (o.getD d) (u.getD d'):=by
 cases o with
 |none=>cases u with
  |none=>show rd
  |some _=>show(show False from r).elim
 |some _=>cases u with
  |none=>show(show False from r).elim
  |some _=>show r
def KV.val(r:KV kvs vs)(k:κ):kA (dM kvs k) (Å vs k):=by
 unfold KV at r;induction r with
 |nil=>show UU
 |@cons p q ps a h t f =>
  have(d,g):=h;by_cases e:p.1=k
  .have c:q.1=k:=d.symm.trans e;have b:Å (q::a) k=a0 q.2:=by simp[Å,Qu,c]
   rw[eL e,b];show g
  .have c:¬q.1=k:=λz=>e (d.trans z);have b:Å (q::a) k=Å a k:=by simp[Å,Qu,c]
   rw[eN e,b];show f
def KV.any(r:KV kvs vs)(k:κ):(kvs.any λkv=>df (kv.1=k))=vs.any λkv=>df (kv.1=k):=by
 unfold KV at r;induction r with
 |nil=>rfl
 |cons h t a=>rw[Yk,Yk,a,h.1]
def KV.Es(r:KV kvs vs)(k:κ)(b:RelV y u):
  KV (kvs.map λkv=>if kv.1=k then(kv.1,y) else kv) (vs.map λkv=>if kv.1=k then(kv.1,u) else kv):=by
 unfold KV at r ⊢;induction r with
 |nil=>show .nil
 |@cons p q ps f h t c =>
  rw[eH,eH];show .cons ?_ c;have(a,d):=h;by_cases e:p.1=k
  .rw[ϥ e,ϥ (a.symm.trans e)];show#[a,b]
  .rw[Ϧ e,Ϧ (λz=>e (a.trans z))];show#[a,d]
def KV.put(r:KV kvs vs)(k:κ)(a:RelV y u):KV (putK kvs k y) (ſ vs k u):=by
 unfold putK ſ;rw[r.any k];by_cases e:(vs.any λkv=>df (kv.1=k))=b5
 .rw[ϥ e,ϥ e];show r.Es k a
 .rw[Ϧ e,Ϧ e];show Paired.snoc r #[rfl,a]
def KV.length(r:KV kvs vs):kvs.length=vs.length:=Paired.length r
end
def lA(r:RelV (kV k) u):(aG P w).is k u=b5:=by
 cases k with
 |inl i=>have(t,e):=(show ∃t,u=Y7 i t from r);subst e;show qH P w i t
 |inr x=>have(t,e):=(show ∃t,u=ux x t from r);subst e;show qJ P w x t
theorem nP:∀{ks:List Key}{us:List dV},Vals (ks.map kV) us->ItemsAre (aG P w) ks us
 |[],_,r=>by rw[LV]at r;cases r;show .nil
 |k::ks,_,r=>by
  rw[eH]at r;cases r with
  |cons h t=>show .cons (lA h) (nP t)
@[reducible]def KT(H:Hp):List (List Key×V)->List (List Key×gi×dV)->Prop:=Paired λp q=>p.1=q.1/\H q.2.1=a0 (.tup (p.1.map kV))/\RelV p.2 q.2.2
def KT.val(r:KT H kvs xs)(k:List Key):kA (dM kvs k) ((YD xs k).map (·.2)):=by
 induction r with
 |nil=>show UU
 |@cons p q ps a h t f =>
  have(d,_,g):=h;by_cases e:p.1=k
  .have c:q.1=k:=d.symm.trans e;have b:YD (q::a) k=a0 q.2:=by simp[YD,Qu,c]
   rw[eL e,b];show g
  .have c:¬q.1=k:=λz=>e (d.trans z);have b:YD (q::a) k=YD a k:=by simp[YD,Qu,c]
   rw[eN e,b];show f
def KT.Es(r:KT H kvs xs)(k:List Key)(c:RelV y u):
  KT H (kvs.map λkv=>if kv.1=k then(kv.1,y) else kv) (xs.map (putAt k u)):=by
 induction r with
 |nil=>show .nil
 |@cons p q ps g h t d =>
  rw[eH,eH];show .cons ?_ d;have(a,b,f):=h;unfold putAt;by_cases e:p.1=k
  .rw[ϥ e,ϥ (a.symm.trans e)];show#[a,b,c]
  .rw[Ϧ e,Ϧ (λz=>e (a.trans z))];show#[a,b,f]
def KT.put(r:KT H kvs xs)(k:List Key)(c:H b=a0 (.tup (k.map kV)))(a:RelV y u):
  KT H (putK kvs k y) (storedH xs k b u):=by
 have e:(kvs.any λkv=>df (kv.1=k))=(YD xs k).isSome:=by
  rw[iJ,(r.val k).eO,Vt]
 unfold putK storedH;rw[e];by_cases q:(YD xs k).isSome=b5
 .rw[ϥ q,ϥ q];show r.Es k a
 .rw[Ϧ q,Ϧ q];show Paired.snoc r #[rfl,c,a]
def KT.keeps(r:KT H kvs xs)(c:∀b a,H b=a0 (.tup a)->H' b=a0 (.tup a)):KT H' kvs xs :=
 Paired.DZ r λ_ _ z=>#[z.1,c _ _ z.2.1,z.2.2]
section
def Dr(b:Kc P w H h)(e:Rd H a u):bF P w H h a u:=e.ok b
def lB(b:Kc P w H h)(e:Rd H a (.dK kvs)):kvs.length<=dt/\(a==Mx)=cb/\∃vs,KV kvs vs/\h.DictOf (aG P w) a vs :=
 show bF P w H h a (.dK kvs) from Dr b e
def qQ(b:Kc P w H h)(e:H a=a0 (.dK kvs)):kvs.length<=dt/\(a==Mx)=cb/\∃vs,KV kvs vs/\h.DictOf (aG P w) a vs:=lB b (.inl e)
def jw(b:Kc P w H h)(e:H a=a0 (.tup (ks.map kV))):(YT (aG P w)).is h ks a:=by
 have(_,its,r,o,c,d,n,f):=(show bF P w H h a (.tup (ks.map kV)) from b a _ e)
 show#[o,its.toArray,n,c,d,f,by simpa using nP r]
def lC(b:Kc P w H h)(e:Rd H a (.dT kvs)):kvs.length<=dt/\(a==Mx)=cb /\
  ∃xs,KT H kvs xs/\h.DictOfH (YT (aG P w)) a xs:=by
 have(z,y,xs,r,o,es,ep,d,f,g,i,j):=(show bF P w H h a (.dT kvs) from Dr b e)
 show#[z,y,xs,r,o,es,ep,d,f,g,i,λx hx=>?_,j];have all:∀{l:List (List Key×V)} {m:List (List Key×gi×dV)},KT H l m->∀x∈m,(YT (aG P w)).is h x.1 x.2.1:=by
  intro l m q;induction q with
  |nil=>intro x hx;show nomatch hx
  |@cons p q ps n c t k =>
   intro x hx;rcases fR.mp hx with e|hx
   .subst e;show jw b (by rw[<-c.1];show c.2.1)
   .show k x hx
 show all r x hx
def GK(b:Kc P w H h)(e:H a=a0 (.dT kvs)):kvs.length<=dt/\(a==Mx)=cb /\
  ∃xs,KT H kvs xs/\h.DictOfH (YT (aG P w)) a xs:=lC b (.inl e)
end
abbrev eG(H:Hp)(a:gi)(y:V)(r:Option V):Prop :=
 (∃kvs k,Rd H a (.dK kvs)/\y=kV k/\r=dM kvs k)\/∃kvs k b,Rd H a (.dT kvs)/\y=.ref b/\H b=a0 (.tup (k.map kV))/\r=dM kvs k
abbrev w9(H:Hp)(a:gi)(y v:V)(H':Hp):Prop :=
 (∃kvs k,H a=a0 (.dK kvs)/\y=kV k/\kvs.length<dt/\H'=upd H a (.dK (putK kvs k v))) \/
 ∃kvs k b,H a=a0 (.dT kvs)/\y=.ref b/\H b=a0 (.tup (k.map kV))/\kvs.length<dt/\H'=upd H a (.dT (putK kvs k v))
def eG.k{H:Hp}{a:gi}{kvs:List (Key×V)}{k:Key}(e:H a=a0 (.dK kvs)):eG H a (kV k) (dM kvs k):=.inl #[kvs,k,.inl e,rfl,rfl]
def w9.k{H:Hp}{a:gi}{kvs:List (Key×V)}{k:Key}{v:V}(e:H a=a0 (.dK kvs))(hl:kvs.length<dt):w9 H a (kV k) v (upd H a (.dK (putK kvs k v))):=.inl #[kvs,k,e,rfl,hl,rfl]
section
def Inv.big(I:Inv X a σ H s):Mx<s.heap.objs.size:=by
 have h:K2<s.heap.objs.size:=(I.mod.glob.keeps I.bk).lt;show RC (by decide) h
def nQ(q:A.units+1<K7)(I:Inv X f σ H s)(g:eG H a y (a0 v))(n:RelV y u)(h:∀d s',Inv X f σ H s'->RelV v d->Q d s'):
  eW (hJ X.prog X.w) A (Ë (.ref a) u) Q E s:=by
 rcases g with⟨kvs,k,e,i,l⟩|⟨kvs,k,b,e,i,r,l⟩
 .subst i;have(z,t,vs,c,dd):=lB I.Jg e;have(d,j,m):=kA.some_of (v:=v) (o:=Å vs k) (by rw[l];show c.val k);show wpAny_getItem_of (lA n) dd.mapOf j (h d _ (I.tok _) m)
 .subst i;cases(show u=hU b from n);have(z,t,xs,c,dd):=lC I.Jg e;have(d,j,m):=kA.some_of (v:=v) (o:=(YD xs k).map (·.2)) (by rw[l];show c.val k);have(p,x,B):=ez.mp j;show wpAny_getItem_heap (S9 q) (jw I.Jg r) dd x ?_;rw[B];show h d _ (I.tok _) m
def GL(m:A.units+1<K7)(I:Inv X d σ H s)(g:eG H a y o)(j:RelV y u)(h:∀s',Inv X d σ H s'->Q (.bool o.isSome) s'):
  eW (hJ X.prog X.w) A (Qg .In u (.ref a)) Q E s:=by
 rcases g with⟨kvs,k,e,f,l⟩|⟨kvs,k,b,e,f,n,l⟩
 .subst f;have(z,i,vs,c,dd):=lB I.Jg e;show wpAny_in_of (lA j) i dd.mapOf ?_;rw[<-(c.val k).eO,<-l];show h _ (I.tok _)
 .subst f;cases(show u=hU b from j);have(z,i,xs,c,dd):=lC I.Jg e;show wpAny_in_heap (S9 m) (jw I.Jg n) i dd ?_;have q:=(c.val k).eO;rw[Vt]at q;rw[<-q,<-l];show h _ (I.tok _)
def uP(m:A.units+1<K7)(I:Inv X d σ H s)(g:eG H a y o)(j:RelV y u)(h:∀s',Inv X d σ H s'->Q (.bool (!o.isSome)) s'):
  eW (hJ X.prog X.w) A (Qg .NotIn u (.ref a)) Q E s:=by
 rcases g with⟨kvs,k,e,f,l⟩|⟨kvs,k,b,e,f,n,l⟩
 .subst f;have(z,i,vs,c,dd):=lB I.Jg e;show wpAny_notIn_of (lA j) i dd.mapOf ?_;rw[<-(c.val k).eO,<-l];show h _ (I.tok _)
 .subst f;cases(show u=hU b from j);have(z,i,xs,c,dd):=lC I.Jg e;show χ (S9 m) (jw I.Jg n) i dd ?_;have q:=(c.val k).eO;rw[Vt]at q;rw[<-q,<-l];show h _ (I.tok _)
def pv(I:Inv X c σ H s)(mu:PZ (H a))(hs:sx a s.heap h')(f:∃q,h'.get? a=a0 q)(new:bF X.prog X.w (upd H a d) h' a d):
  Inv X c σ (upd H a d) {s with heap:=h',toks:=t' } :=
 I.write (x:=a) (e:=a) mu (.inl rfl) (λb q g z=>(hs.2 b g).trans z) f new
def yB(z:kvs.length<=dt)(c:(a==Mx)=cb)(b:KV kvs vs)(dd:h'.DictOf (aG P w) a vs):
  bF P w H' h' a (.dK kvs):=#[z,c,vs,b,dd]
def w_(B:A.units+1<K7)(I:Inv X f σ H s)(g:w9 H a y v H')(p:RelV y u)(rv:RelV v r)(h:∀s',Inv X f σ H' s'->Q () s'):
  eW (hJ X.prog X.w) A (XE (.ref a) u r) Q E s:=by
 rcases g with⟨kvs,k,e,m,l,n⟩|⟨kvs,k,b,e,m,t,l,n⟩
 .subst m n;have(z,o,vs,d,dd):=qQ I.Jg e;have hz:vs.length<=dt:=by rw[<-d.length];show z
  have hl:(putK kvs k v).length<=dt:=by have:=fP kvs k v;lia
  show wpAny_setItem_pairs (hsz:=hz) (lA p) dd λh' i hs=>h _ ?_;have C:∃q,h'.get? a=a0 q:=let ⟨q,_,_,j,_⟩:=i;⟨q,j⟩;show pv I (by rw[e];show UU) hs C (yB hl o (d.put k rv) i)
 .subst m n;cases(show u=hU b from p);have(z,o,xs,d,dd):=GK I.Jg e;have hz:xs.length<=dt:=by rw[<-Paired.length d];show z
  have hl:(putK kvs k v).length<=dt:=by have:=fP kvs k v;lia
  show ź (hsz:=hz) (S9 B) (jw I.Jg t) dd λh' i hs=>h _ ?_;have(q,es,ep,j,D,G,J,_,L):=i;show pv I (by rw[e];show UU) hs #[q,j] #[hl,o,_,(d.put k t rv).keeps λc N x=>?_,q,es,ep,j,D,G,J,L];rw[aj (ye x e (λz=>nomatch z))];show x
end
section
end
abbrev Et(i:ro):Prop:=∀a b,æ i cb a b=operate [a,b] (Ë a b)
def Bw{T id:String}
  (hl:Xo (.type T) "__getitem__"=pure (a0 (.builtin id))) (hs:Et a)
  (h:eW (hJ prog w) A (K6 b env) (λo f=>eW (hJ prog w) A (K6 a env) (λi d=>d.TypeIs o T/\eW (hJ prog w) A (Ë o i) Q E d) E f) E s) :
  eW (hJ prog w) A (K6 (.Subscript b a pos) env) Q E s:=by
 show Κ (HT h (λo f k=>HT k (λi d e=>?_) λ_ _ x=>x) λ_ _ x=>x);have(g,e):=e;unfold Zm;show a5 ?_;rw[getitemInPython_of_ne g.not_modules];show a5 (OW g hl ?_);have c:eW (hJ prog w) A (æ a cb o i) (λr j=>eW (hJ prog w) A (letTemporaryGo b o r >>= λ_=>pure r) Q E j) E d:=by
  rw[hs o i];show wpAny_operating (HT e (λr j l=>a5 (wpAny_letTemporaryGo (cL l))) λ_ _ x=>x)
 first
  |show cL (a5 c)
  |show a5 (cL (a5 c))
  |show a5 c
def jY(I:Inv X c σ H s)(g:eG H a y o):s.TypeIs (.ref a) "dict":=by
 rcases g with⟨kvs,k,e,_,_⟩|⟨kvs,k,b,e,_,_,_⟩
 .have(_,_,vs,_,dd):=lB I.Jg e;show dd.typeIs
 .have(_,_,xs,_,dd):=lC I.Jg e;show dd.typeIs
abbrev GN(c d:TE):TE:=λσ H Q=>c σ H λx e=>d σ e λy b=>∃a v,x=.ref a/\eG b a y (a0 v)/\Q v b
abbrev ID(c d:TE):TE:=λσ H Q=>c σ H λy e=>d σ e λx b=>∃a o,x=.ref a/\eG b a y o/\Q (.bl o.isSome) b
abbrev Bx(c d:TE):TE:=λσ H Q=>c σ H λy e=>d σ e λx b=>∃a o,x=.ref a/\eG b a y o/\Q (.bl (!o.isSome)) b
section
def By(d:X.A.units+1<K7)(ho:PE X o e)(f:PE X i j)(hs:Et i):PE X (.Subscript o i pos) (GN e j):=by
 intro b s σ H Q I h;show Bw PySem.F.slot_dict_getitem.lookup hs (Jj (ho b s σ H _ I h) λu s1 ⟨x,k,l,m,n⟩=>Jj (f b s1 σ k _ l n) λB s2 p=>?_);have(y,q,c,r,a,v,ex,g,t):=p;subst ex;obtain rfl:u=hU a:=m;show#[jY c g,nQ d c g r λC s3 w z=>#[v,q,w,z,t]]
def Eu(c:X.A.units+1<K7)(d:PE X i e)(ho:PE X o f):PC X .In i o (ID e f):=by
 intro b s σ H Q I h;show Jj (d b s σ H _ I h) λz s1 ⟨y,j,k,l,m⟩=>Jj (ho b s1 σ j _ k m) λu s2 n=>?_;have(x,p,q,r,a,t,ex,g,v):=n;subst ex;obtain rfl:u=hU a:=r;show GL c q g l λs3 w=>#[.bl t.isSome,p,w,rfl,v]
def xa(c:X.A.units+1<K7)(d:PE X i e)(ho:PE X o f):PC X .NotIn i o (Bx e f):=by
 intro b s σ H Q I h;show Jj (d b s σ H _ I h) λz s1 ⟨y,j,k,l,m⟩=>Jj (ho b s1 σ j _ k m) λu s2 n=>?_;have(x,p,q,r,a,t,ex,g,v):=n;subst ex;obtain rfl:u=hU a:=r;show uP c q g l λs3 w=>#[.bl (!t.isSome),p,w,rfl,v]
end
def qR(h:Mt)(a:Mx<h.objs.size):bF P w H (h.push {cls:=.type "dict",data:=.dict #v[]}) h.objs.size (.dK []) :=
 #[nH _,ϫ.mpr (uv (gr a)),[],.nil,ö h]
abbrev Ew:TE:=λ_ H Q=>∀p,H p=bD->Q (.ref p) (upd H p (.dK []))
section
def qS:PE X (.Dict [] [] pos) Ew:=λb s σ H Q I h =>
 ο #[.ref s.heap.objs.size,_,I.laid (a:=s.heap.objs.size) (o:=.dK []) (t':=s.toks) (λ_ _ q=>b6 _ q) (i4 _) (qR s.heap I.big),rfl,h _ (I.Jg.fresh (i4 _))]
end
def sQ:List (TE×TE)->St->Hp->(List (V×V)->Hp->Prop)->Prop
 |[],_,H,Q=>Q [] H
 |(a,b)::r,σ,H,Q=>a σ H λx c=>b σ c λy d=>sQ r σ d λps e=>Q ((x,y)::ps) e
@[reducible]def VV:List (V×V)->List (dV×dV)->Prop:=Paired λp q=>RelV p.1 q.1/\RelV p.2 q.2
abbrev RE(X:Cx)(pos:Pos)(c:List (Option ro))(a:List ro)(d:List (TE×TE)):Prop :=
 ∀(b:List (gi×Obj)) (s:gj) (σ:St) (H:Hp) (Q:List (V×V)->Hp->Prop),Inv X b σ H s->sQ d σ H Q ->
  eW (hJ X.prog X.w) X.A (evalPairs (pairTrees c a X.env pos)) (λvs s'=>∃ps H',Inv X b σ H' s'/\VV ps vs/\Q ps H') X.xe s
def Bz:RE X pos [] [] []:=λa s σ H Q I h=>pairTrees_nil_walk #[[],H,I,.nil,h]
def yC(hk:PE X k c)(d:PE X v e)(f:RE X pos ks vs g):
  RE X pos (a0 k::ks) (v::vs) ((c,e)::g):=λa s σ H Q I h =>
 pairTrees_cons_walk (Jj (hk a s σ H _ I h) λu s1 ⟨x,i,j,l,m⟩=>Jj (d a s1 σ i _ j m) λz s2 ⟨y,n,o,p,q⟩ =>
  Jj (f a s2 σ n _ o q) λws s3 ⟨ps,r,t,b,w⟩=>#[(x,y)::ps,r,t,.cons #[l,p] b,w])
abbrev lD(kvs a:List (Key×V)):List (Key×V):=a.foldl (λb kv=>putK b kv.1 kv.2) kvs
def KV.merge:∀{a:List (Key×V)}{rs:List (Key×dV)}{kvs:List (Key×V)}{vs:List (Key×dV)},KV a rs->KV kvs vs->KV (lD kvs a) (merged vs rs):=by
 intro a rs kvs vs r;unfold KV at r;induction r generalizing kvs vs with
 |nil=>intro q;show q
 |@cons p q ps d h t b =>
  intro c;have e:KV (putK kvs p.1 p.2) (ſ vs q.1 q.2):=by
   have:=c.put p.1 h.2;rw[<-h.1];show this
  show b e
theorem gV:∀(a kvs:List (Key×V)),(lD kvs a).length<=kvs.length+a.length
 |[],kvs=>by change kvs.length<=kvs.length+0;lia
 |p::r,kvs=>by
  have b:=gV r (putK kvs p.1 p.2);have c:=fP kvs p.1 p.2;change(lD (putK kvs p.1 p.2) r).length<=_;rw[mx];lia
theorem lE:∀{kvs:List (Key×V)}{ws:List (dV×dV)},VV (kvs.map λkv=>(kV kv.1,kv.2)) ws->∃rs,Carries (aG P w) ws rs/\KV kvs rs
 |[],_,r=>by rw[LV]at r;cases r;show#[[],UU,.nil]
 |p::kvs,_,r=>by
  rw[eH]at r;cases r with
  |@cons a b as e h t =>
   have(rs,c,q):=lE (P:=P) (w:=w) t;have(b1,d):=b;show#[(p.1,d)::rs,#[lA h.1,rfl,c],.cons #[rfl,h.2] q]
abbrev GO(b:List (TE×TE)):TE:=λσ H Q=>∀p,H p=bD->sQ b σ (upd H p (.dK [])) λps a=>a p=a0 (.dK [])/\∃kvs:List (Key×V),ps=kvs.map (λkv=>(kV kv.1,kv.2))/\kvs.length<=15/\Q (.ref p) (upd a p (.dK (lD [] kvs)))
def BA(h:RE X pos b d k)(l:b.all (·.isSome)=b5)(hl:b.length=d.length)(m:b≠[])
  (n:b.length<=15):PE X (.Dict b d pos) (GO k):=by
 intro f s σ H Q I q;have p:=I.Jg.fresh (i4 s.heap.objs.size);have r:=I.laid (a:=s.heap.objs.size) (o:=.dK []) (h':=s.heap.push {cls:=.type "dict",data:=.dict #v[]}) (t':=s.toks) (λ_ _ q=>b6 _ q) (i4 _) (qR s.heap I.big);show wpAny_Dict_walk (knd:=aG X.prog X.w) l hl m n (Jj (h f _ σ _ _ r (q _ p)) λws s2 t=>?_);have(ps,C,i,g,e,kvs,ep,lk,u):=t;subst ep;have(rs,c,rk):=lE (P:=X.prog) (w:=X.w) g;have(z,v,D,x,dd):=qQ i.Jg e;cases x;show#[rs,c,dd,λh' j hs=>#[.ref s.heap.objs.size,_,?_,rfl,u]];have hz:(lD [] kvs).length<=dt:=by
  have y:=gV kvs [];rw[WA]at y;rw[ŗ];lia
 have A:∃q,h'.get? s.heap.objs.size=a0 q:=let ⟨q,_,_,B,_⟩:=j;⟨q,B⟩;show pv i (by rw[e];show UU) hs A (yB hz v (rk.merge .nil) j)
structure M2(X:Cx)(o:ro)(m:Str)(apos:Pos)(e f:ro)(F':Pos):Prop where
 base:SN o m X.env (K6 o X.env)=K6 o X.env
 MF:((M3 F' (mh [e,f] X.env)).all (λx=>!x.1)&&(UQ F' (Qz [] X.env)).all (λx=>x.1.isSome)
  && df (([e,f]:List ro).length+([]:List SW).length+(if ([]:List SW).isEmpty then 0 else 1)<30))=b5
 line:(apos.endLine==F'.line)=b5
 trees:M3 F' (mh [e,f] X.env)=[(cb,K6 e X.env),(cb,K6 f X.env)]
abbrev V0(H:Hp)(a:gi):Prop:=(∃kvs,Rd H a (.dK kvs))\/∃kvs,Rd H a (.dT kvs)
def Ey(I:Inv X i σ H s)(d:V0 H a):
  s.TypeIs (.ref a) "dict"/\(∀b,hU a=.ref b->∃c,s.heap.get? b=a0 c/\c.dict=bD)/\(a==Mx)=cb:=by
 rcases d with⟨kvs,e⟩|⟨kvs,e⟩
 .have(_,f,vs,_,dd):=lB I.Jg e;show#[dd.typeIs,λb q=>?_,f];cases q;have(c,_,_,g,h,_):=dd;show#[c,g,h.2.1]
 .have(_,f,xs,_,dd):=lC I.Jg e;show#[dd.typeIs,λb q=>?_,f];cases q;have(c,_,_,g,h,_):=dd;show#[c,g,h.2.1]
section
def Ez(p:A.units+1<K7)(I:Inv X f σ H s)(g:eG H a y o)(m:RelV y u)(rd:RelV d r)(h:∀n s',Inv X f σ H s'->RelV (o.getD d) n->Q n s'):
  eW (hJ X.prog X.w) A (QI (.builtin "dict.get") [.ref a,u,r]) Q E s:=by
 rcases g with⟨kvs,k,e,i,l⟩|⟨kvs,k,b,e,i,q,l⟩
 .subst i;have(z,j,vs,c,dd):=lB I.Jg e;show XI PySem.F.slot_dict_get dd.typeIs PySem.F.entry_dict_get (PySem.F.args_dict_get_3 _ _ _) (meets_dict_get_default (aG X.prog X.w) a (lA m) j r) #[_,dd.mapOf,h _ _ (I.tok _) ?_];rw[l];show(c.val k).getD rd
 .subst i;cases(show u=hU b from m);have(z,j,xs,c,dd):=lC I.Jg e;show XI PySem.F.slot_dict_get dd.typeIs PySem.F.entry_dict_get (PySem.F.args_dict_get_3 _ _ _) (meetsH_dict_get_default (YT (aG X.prog X.w)) a b j r) #[S9 p,k,xs,jw I.Jg q,dd,h _ _ (I.tok _) ?_];rw[l];show(c.val k).getD rd
end
abbrev EA(d e f:TE):TE:=λσ H Q=>d σ H λx b=>∃a,x=.ref a/\V0 b a/\e σ b λy g=>f σ g λz c=>∃o,eG c a y o/\Q (o.getD z) c
section
def yD(j:X.A.units+1<K7)(ho:PE X o k)(l:PE X e n)(p:PE X f q)(m:M2 X o "get" c e f r):PE X (.Call (.Attribute o "get" c) [e,f] [] r) (EA k n q):=by
 intro b s σ H Q I h;show wpAny_Call_method m.base m.MF m.line PySem.F.plainAttrs_dict PySem.F.slot_dict_get PySem.F.type_dict_get (Jj (ho b s σ H _ I h) λu s1 t=>?_);have(x,v,i,w,a,ex,d,B):=t;subst ex;obtain rfl:u=hU a:=w;have(C,D,_):=Ey i d;show#[C,D,?_];rw[m.trees];show Kj rfl (QV (R' (Jj (l b s1 σ v _ i B) λiv s2 ⟨y,G,J,L,N⟩ =>
  R' (Jj (p b s2 σ G _ J N) λfv s3 ⟨z,O,T,Y,ov,g,q3⟩=>VE ?_))))
 show Ez j T g L Y λw' s4 I4 Lx=>#[_,O,I4,Lx,q3]
end
section
end
section
end
end L2
namespace JB
open PySem PySem.Builtin.Str PySem.StrLaws
abbrev low(c:Nat):Bool:=df (97<=c)&&df (c<=122)
abbrev fE(l:List Nat):Bool:=df (1<=l.length)&&df (l.length<=8)&&l.all low
def cv(l:List Nat):fE l=b5↔1<=l.length/\l.length<=8/\∀c∈l,97<=c/\c<=122:=by
 simp[fE,low,oT,and_assoc]
def qT(h:fE l=b5):47∉l:=λm=>by
 have:=((cv l).mp h).2.2 47 m;lia
def BB{x y:Str}(h:x.cps.toList=y.cps.toList):x=y:=by
 cases x;cases y;congr
 show Ň.mp h
def pw(x:Str)(c i:Nat):At x #[#v[c]] x.length i↔x.cps.toList[i]?=a0 c:=subAt_one x c i
def EB(h:x.cps.toList=a++c::b)(j:c∉a)(d:Nat)(hl:1<=d):∃r,Qn x #[#v[c]] 0 x.length d=a.length::r:=by
 have f:x.cps.toList[a.length]?=a0 c:=by rw[h];simp
 rcases occ_head x ⟨#v[c]⟩ d hl with⟨_,k⟩|⟨i,r,e,l,m⟩
 .show absurd ((pw x c a.length).mpr f) (k _)
 .have g:=(pw x c i).mp l;have:i=a.length:=by
   rcases Nat.lt_trichotomy i a.length with z|z|z
   .exfalso
    rw[h,w6 z]at g;show j (lg g)
   .show z
   .show absurd ((pw x c a.length).mpr f) (m _ z)
  subst this;show#[r,e]
def sR(h:c∉x.cps.toList):SJ x #[#v[c]]=[x]:=by
 unfold SJ;split
 .rfl
 .rw[ϥ];rcases occ_head x ⟨#v[c]⟩ (x.length+1) ⋯ with⟨e,_⟩|⟨i,r,e,a,_⟩
  .rw[e];rfl
  .show absurd (lg ((pw x c i).mp a)) h
def qU(c:Nat)(h:c<256)(x:Str):¬(PySem.Builtin.Str.strKind x<PySem.Builtin.Str.strKind #[#v[c]]):=by
 have e:PySem.Builtin.Str.strKind ⟨#v[c]⟩=1:=by simp[PySem.Builtin.Str.strKind,h]
 rw[e];unfold PySem.Builtin.Str.strKind;split
 .lia
 .split<;>lia
def yE(h:x.cps.toList=a++c::b)(d:c∉a)(f:c<256):∃r,SJ x #[#v[c]]=⟨a.toArray⟩::r:=by
 have(r,e):=EB h d (x.length+1) ⋯;have g:(⟨#v[c]⟩:Str).length=1:=rfl;have k:x.length=a.length+1+b.length:=by
  have:=ϩ DD h;simp[à]at this ⊢;lia
 unfold SJ;rw[Ϧ (by
  have i:¬(x.length<(⟨#v[c]⟩:Str).length):=by rw[g];lia
  have j:=qU c f x;simp[i,j]),Ϧ (by rw[e];simp),partsBetween_eq,e]
 show#[_,ϩ (·::_) ?_];apply BB;rw[strSub_toList,h];simp
abbrev sT(i:Int):Str:=Ro (WN i)
abbrev Ds:Str:=#[#v[47]]
end JB
namespace L2
open PySem PySem.Spec PyProof.Rows
abbrev bK(env:Env):List (Str×Oo)->List (Str×gi)->List (Str×gi)
 |[],b=>b
 |(n,k)::r,b=>bK env r (if k==.free then(match env.cells.lookup n with|some a=>(n,a)::b|none=>b) else b)
def eQ(h:∀y∈scope.names,y.2=.free->∃a,env.cells.lookup y.1=a0 a):closureFor scope env=pure (bK env scope.names []):=by
 unfold closureFor;generalize scope.names=names at h
 suffices H:∀b,(Ŭ names b (λ(x:Str×Oo) (r:List (Str×gi))=>if (x.2==NA)=b5 then do let a <-cellOf env x.1;pure (Rj ((x.1,a)::r)) else pure (Rj r)):Sem (List (Str×gi)))=pure (bK env names b) by
  have:=H [];show ϩ (λ(m:Sem (List (Str×gi)))=>m >>= pure) this
 induction names with
 |nil=>intro b;rfl
 |cons y r d =>
  intro b;have(n,k):=y;rw[T9];have c:=d λy e=>h y (nC _ e);by_cases hk:(k==NA)=b5
  .have(a,f):=h (n,k) k7 (by simpa using hk);have g:env.cells.lookup n=a0 a:=f;simp only[hk,if_true,cellOf,g,bK];show c _
  .simp only[hk,if_false,bK];show c _
theorem ff:∀(names:List (Str×Oo)) (b:List (Str×gi)),(∀n c,b.lookup n=a0 c->env.cells.lookup n=a0 c)->∀n c,(bK env names b).lookup n=a0 c->env.cells.lookup n=a0 c
 |[],_,h=>h
 |(m,k)::r,b,h=>by
  unfold bK;show ff r _ λn c e=>?_;by_cases hk:(k==NA)=b5
  .rw[ϥ hk]at e;cases q:env.cells.lookup m with
   |none=>rw[q]at e;show h n c e
   |some a =>
    rw[q]at e;simp only[rr]at e;cases d:n==m with
    |true =>
     rw[d]at e;have f:n=m:=by simpa using d
     subst f;simp only at e;rw[q];show e
    |false=>rw[d]at e;show h n c e
  .rw[Ϧ hk]at e;show h n c e
theorem jZ(d:env.cells.lookup n=a0 a):∀(names:List (Str×Oo)) (c:List (Str×gi)),c.lookup n=a0 a->(bK env names c).lookup n=a0 a
 |[],_,h=>h
 |(m,k)::r,c,h=>by
  unfold bK;show jZ d r _ ?_;by_cases hk:(k==NA)=b5
  .rw[ϥ hk];cases q:env.cells.lookup m with
   |none=>show h
   |some b =>
    simp only[rr];cases e:n==m with
    |true =>
     have f:n=m:=by simpa using e
     subst f;rw[d]at q;cases q;rfl
    |false=>show h
  .rw[Ϧ hk];show h
theorem ie(b:env.cells.lookup n=a0 a):∀(names:List (Str×Oo)) (c:List (Str×gi)),(n,NA)∈names->(bK env names c).lookup n=a0 a
 |[],_,h=>by cases h
 |(m,k)::r,c,h=>by
  unfold bK;rcases fR.mp h with e|e
  .cases e;show jZ b r _ ?_;rw[ϥ (by decide),b];simp[rr]
  .show ie b r _ e
theorem bW{env:Env}:∀{names:List (Str×Oo)}{x:Str}{k:Oo},
  (names.map λ(n,k)=>if (k==NA&&env.scope.kind==.function&&env.kindOf n==a0 .cell) then(n,NO) else(n,k)).lookup x=a0 k ->
  names.lookup x=a0 k\/(k=.cell/\names.lookup x=a0 .free)
 |[],_,_,h=>by simp at h
 |(n,e)::r,x,k,h=>by
  have f:=@bW env r x k;rw[eH]at h;by_cases b:(e==NA&&env.scope.kind==.function&&env.kindOf n==a0 .cell)=b5
  .simp only[ϥ b,rr]at h;cases a:x==n with
   |true =>
    rw[a]at h;have g:e=.free:=by
     have:=(Ke.mp (Ke.mp b).1).1;simpa using this
    show .inr #[by simpa using h.symm,by simp[rr,a,g]]
   |false =>
    rw[a]at h;rcases f h with z|⟨c,d⟩
    .show .inl (by simp[rr,a,z])
    .show .inr #[c,by simp[rr,a,d]]
  .simp only[Ϧ b,rr]at h;cases a:x==n with
   |true=>rw[a]at h;show .inl (by simpa[rr,a] using h)
   |false =>
    rw[a]at h;rcases f h with z|⟨c,d⟩
    .show .inl (by simp[rr,a,z])
    .show .inr #[c,by simp[rr,a,d]]
theorem j3:∀(names:List (Str×Oo)) (b:List (Str×gi)),(bK env names b).lookup x=a0 c->(x,NA)∈names\/b.lookup x=a0 c
 |[],_,h=>.inr h
 |(m,k)::r,b,h=>by
  unfold bK at h;rcases j3 r _ h with z|z
  .show .inl (nC _ z)
  .by_cases hk:(k==NA)=b5
   .rw[ϥ hk]at z;cases q:env.cells.lookup m with
    |none=>rw[q]at z;show .inr z
    |some a =>
     rw[q]at z;simp only[rr]at z;cases d:x==m with
     |true =>
      have e:x=m:=by simpa using d
      have f:k=.free:=by simpa using hk
      subst e f;show .inl k7
     |false=>rw[d]at z;show .inr z
   .rw[Ϧ hk]at z;show .inr z
theorem iK:∀(names:List (Str×Oo)) (n:Nat) (a:List (Str×gi)),(OY n names a).lookup x=a0 c->((x,NO)∈names/\@ū Nat _ n c)\/a.lookup x=a0 c
 |[],_,_,h=>.inr h
 |(y,k)::r,n,a,h=>by
  unfold OY at h;by_cases hk:(k==NO)=b5
  .rw[ϥ hk]at h;have f:k=.cell:=by simpa using hk
   subst f;rcases iK r (n+1) _ h with⟨b,d⟩|z
   .show .inl #[nC _ b,Nat.le_of_succ_le d]
   .simp only[rr]at z;cases e:x==y with
    |true =>
     rw[e]at z;have g:x=y:=by simpa using e
     subst g;cases z;show .inl #[k7,i4 _]
    |false=>rw[e]at z;show .inr z
  .rw[Ϧ hk]at h;rcases iK r n a h with⟨b,d⟩|z
   .show .inl #[nC _ b,d]
   .show .inr z
theorem pz:∀(names:List (Str×Oo)) (n:Nat) (a:List (Str×gi)),(x,NO)∉names->(OY n names a).lookup x=a.lookup x
 |[],_,_,_=>rfl
 |(y,k)::r,n,a,h=>by
  unfold OY;have b:(x,NO)∉r:=λz=>h (nC _ z);by_cases hk:(k==NO)=b5
  .rw[ϥ hk,pz r _ _ b];have c:k=.cell:=by simpa using hk
   subst c;simp only[rr];cases d:x==y with
   |true =>
    have e:x=y:=by simpa using d
    subst e;show absurd k7 h
   |false=>rfl
  .rw[Ϧ hk,pz r _ _ b]
theorem sU:∀(names:List (Str×Oo)) (n:Nat) (a:List (Str×gi)),(∀(z:Str) (d:gi),a.lookup z=a0 d->@Q1 Nat _ d n)->(∀(u v:Str) (d:gi),a.lookup u=a0 d->a.lookup v=a0 d->u=v) ->
  (OY n names a).lookup x=a0 c->(OY n names a).lookup y=a0 c->x=y
 |[],_,_,_,g,b,f=>g x y c b f
 |(h,k)::r,n,a,hl,g,b,f=>by
  unfold OY at b f;by_cases hk:(k==NO)=b5
  .rw[ϥ hk]at b f;have lk:∀(z:Str) (d:gi),List.lookup z ((h,(n:gi))::a)=a0 d->(z=h/\d=n)\/a.lookup z=a0 d:=λz d e=>by
    simp only[rr]at e;cases i:z==h with
    |true=>rw[i]at e;cases e;show .inl #[by simpa using i,rfl]
    |false=>rw[i]at e;show .inr e
   show sU r (n+1) _ (λz d e=>?_) (λu v d j l=>?_) b f
   .rcases lk z d e with⟨_,q⟩|q
    .rw[q];show RO _
    .show Ng (hl z d q)
   .rcases lk u d j with⟨m,o⟩|q<;>rcases lk v d l with⟨s,p2⟩|p
    .rw[m,s]
    .rw[o]at p;show absurd (hl v n p) (ve _)
    .rw[p2]at q;show absurd (hl u n q) (ve _)
    .show g u v d q p
  .rw[Ϧ hk]at b f;show sU r n a hl g b f
theorem pA:∀(names:List (Str×Oo)) (h:Mt) (a:List (Str×gi)),(OY h.objs.size names a).lookup x=a0 c->(V1 h names).IsCell c bD\/a.lookup x=a0 c
 |[],_,_,e=>.inr e
 |(y,k)::r,h,a,e=>by
  unfold OY at e;unfold V1;by_cases hk:(k==NO)=b5
  .rw[ϥ hk]at e ⊢;have hs:h.objs.size+1=(h.push {cls:=.type "cell",data:=.cell bD}).objs.size:=by rw[Q3]
   rw[hs]at e;rcases pA r _ _ e with z|z
   .show .inl z
   .simp only[rr]at z;cases b:x==y with
    |true =>
     rw[b]at z;cases z;show .inl #[_,í r _ _ _ (f6 _ rfl),rfl]
    |false=>rw[b]at z;show .inr z
  .rw[Ϧ hk]at e ⊢;show pA r h a e
abbrev Mq(X:Cx)(scope:P0)(C:gi):List (Str×gi):=OY (C+1) scope.names (bK X.env scope.names [])
abbrev Ka(X:Cx)(N:List Str)(scope:P0)(C:gi)(s:gj)(H:Hp)(ex:List gi):Cx where
 prog:=X.prog
 w:=X.w
 K:=X.K
 mg:=X.mg
 base:=X.base
 A:=X.A
 N:=N
 s₀:=s
 H₀:=H
 env:=Í scope (Mq X scope C) C X.env
 outer:=X.stack
 stack:=X.stack
 ex:=ex
 fn:=λx=>df (scope.names.lookup x=a0 .cell)
 calm:=X.calm
 pn:=[]
 xe:=λ_ _=>False
abbrev eI(D N:List Str):Prop:=D.length=N.length/\∀(i:Nat) (y:Str),D[i]?=a0 y->N[i]?=a0 y\/y="."\/y=".."
def eI.refl(N:List Str):eI N N:=#[rfl,λ_ _ h=>.inl h]
def eI.set{D N:List Str}(h:eI D N)(j:Nat){m:Str}(b:m="."\/m=".."):eI (D.set j m) N:=by
 show#[by rw[ũ];show h.1,λi y e=>?_];by_cases a:j=i
 .subst a;rw[List.getElem?_set,ϥ rfl]at e;split at e
  .cases e;show .inr b
  .cases e
 .rw[mA a]at e;show h.2 i y e
structure cO(X:Cx)(N own:List Str)(scope:P0):Prop where
 kind:scope.kind=.function
 uq:∀y∈scope.names,scope.names.lookup y.1=a0 y.2
 cl:∀y∈scope.names,y.2=.cell->y.1∈own
 nd:N.Nodup
 pre:N.take own.length=own
 loc:∀y∈scope.names,y.2=.local->y.1∈own\/y.1=".0"
 X3:(".0":Str)∉N
 tail:eI (N.drop own.length) X.N
 free:∀y∈scope.names,y.2=.free->X.env.scope.names.lookup y.1=a0 .cell\/X.env.scope.names.lookup y.1=a0 .free
 dot:∀y∈scope.names,y.1≠"."/\y.1≠".."
def mem_lookup{names:List (Str×Oo)}(h:names.lookup x=a0 k):(x,k)∈names:=PySem.mem_of_lookup h
def cO.names(S:cO X N a scope):∀y∈scope.names,y.2=.local->scope.names.lookup y.1=a0 .local:=λy b e=>e▸S.uq y b
def cO.no(S:cO X N a scope)(h:scope.names.lookup x=a0 .free):(x,NO)∉scope.names:=λz=>by
 have:=S.uq _ z;rw[h]at this;cases this
def cO.cells(S:cO X N c scope)(b:X.Ok):∀y∈scope.names,y.2=.free->∃a,X.env.cells.lookup y.1=a0 a:=λy d e=>by
 rcases S.free y d e with z|z
 .show b.has y.1 (.inl z)
 .show b.has y.1 (.inr z)
def yF(S:cO X N f scope)(I:Inv X D σ H s)
  (B:s.heap.objs.size<=C) (L5:∀x c,(Mq X scope C).lookup x=a0 c->s4.heap.IsCell c bD\/(bK X.env scope.names []).lookup x=a0 c) (Tx:s4.os=s.os) (hg:s4.gens=s.gens) (keep:∀b o,s.heap.get? b=a0 o->s4.heap.get? b=a0 o) (ns:∃m,s4.heap.Ns C m)
  (g:∀b∈ex,iH X D H b/\b<s.heap.objs.size):Inv (Ka X N scope C s H ex) [] (lx f.length bD++σ) H s4:=by
 have(m0,Qf):=ns;have sub:=ff (env:=X.env) scope.names [] (λn c e=>by simp at e);have X4:∀(x:Str) (c:gi),(bK X.env scope.names []).lookup x=a0 c->c<s.heap.objs.size:=λx c e=>by
  have(v,o,ho,_):=I.cell x c (sub x c e);show fS ho
 have L:∀(x:Str) (c:gi),(Mq X scope C).lookup x=a0 c->C<c\/(bK X.env scope.names []).lookup x=a0 c:=λx c e=>(iK _ _ _ e).imp (λz=>z.2) id;have Y:∀b∈ex,b<C:=λb t=>l' (g b t).2 B;have tl:f.length<=N.length:=by have:=ϩ DD S.pre;rw[Ol]at this;lia
 show#[#[I.ok.mod,?_,I.ok.glob,I.ok.blt,B,λx y c w A=>sU _ _ _ (λz d e=>Ng (l' (X4 z d e) B)) (λu v d G e2=>I.ok.inj u v d (sub u d G) (sub v d e2)) w A,λx hx=>?_,λx c h e=>?_,I.ok.hd,I.ok.frames,.inl rfl,λb t=>#[gr (Y b t),λx c e=>?_],λb o e=>I.bs b o e,?_,λb o e t=>?_,λb t=>?_,I.stack,I.uJ],
  Tx,(by rw[hg];show I.bare),Un.kept keep,#[m0,Qf,λi y v w A h3=>?_],λx c e=>?_,I.Jg.fresh B,λx c e=>?_,λp hp=>absurd (show p∈([]:List (gi×Obj)) from hp) (by simp),I.Jg.kept keep,?_]
 .change(XF scope X.env).kind=.function;show S.kind
 .
  have ND:(XF scope X.env).names.lookup x=a0 .cell\/(XF scope X.env).names.lookup x=a0 .free:=hx;have JF:scope.names.lookup x=a0 .cell\/scope.names.lookup x=a0 .free:=by
   rcases ND with z|z
   .rcases bW z with q|⟨_,q⟩
    .show .inl q
    .show .inr q
   .rcases bW z with q|⟨q,_⟩
    .show .inr q
    .cases q
  rcases JF with JF|JF
  .show VF.mp (PySem.W.cellsFrom_some scope.names (C+1) _ (.inl JF))
  .have(a,ha):=S.cells I.ok (x,.free) (mem_lookup JF) rfl;show#[a,(pz _ _ _ (S.no JF)).trans (ie ha scope.names [] (mem_lookup JF))]
 .have h':scope.names.lookup x=a0 .cell:=Ϫ h;rcases L x c e with z|z
  .show K' B (OE z)
  .rcases j3 _ _ z with z|z
   .have:=S.uq _ z;rw[h']at this;cases this
   .simp at z
 .rcases L x c e with z|z
  .show λq=>absurd (RC (Y b t) z) (by rw[q];show ve _)
  .show(g b t).1.2.2.2.2.1 x c (sub x c z)
 .show K' I.ok.Ny I.sz
 .have(f0,f1,f2,f3,f4,f5):=(g b t).1;rcases f3 with z|z
  .show I.ok.My b o e z
  .show absurd (l' (fS e) (K' I.ok.Ny z)) (ve _)
 .intro JO;have(f0,f1,f2,f3,f4,f5):=(g b t).1;rcases fR.mp (I.lb b JO) with z|z
  .show f1 z
  .show f2 z
 .
  have O:f.length<=i:=by
   by_cases O:i<f.length
   .rw[w6 (by simpa using O),Nf]at A;split at A<;>cases A
   .lia
  rw[tr (by simpa using O),Tg]at A;have X5:(N.drop f.length)[i - f.length]?=a0 y:=by
   rw[Oy];have e:f.length+(i - f.length)=i:=by lia
   rw[e];show w
  have V2:(XF scope X.env).names.lookup y=a0 .local\/(XF scope X.env).names.lookup y=a0 .cell\/(XF scope X.env).names.lookup y=a0 .free:=h3;have NF:∀y:Str,y∈f->N[i]?=a0 y->False:=λy Q w=>by
   have(j,hj,ej):=UA Q;have RF:N[j]?=a0 y:=by
    have G:(N.take f.length)[j]?=a0 y:=by rw[S.pre,pb hj,ej]
    rw[é hj]at G;show G
   have:=lj S.nd RF w;lia
  have JF:scope.names.lookup y=a0 .free:=by
   rcases V2 with z|z|z
   .rcases bW z with q|⟨q,_⟩
    .exfalso
     have Q:y∈f:=by
      rcases S.loc (y,.local) (mem_lookup q) rfl with z|z
      .show z
      .have z':y=".0":=z;show absurd (lg w) (by rw[z'];show S.X3)
     show NF y Q w
    .cases q
   .rcases bW z with q|⟨_,q⟩
    .show(NF y (S.cl _ (mem_lookup q) rfl) w).elim
    .show q
   .rcases bW z with q|⟨q,_⟩
    .show q
    .cases q
  have hX:X.N[i - f.length]?=a0 y:=by
   rcases S.tail.2 _ _ X5 with e|e|e
   .show e
   .show absurd e (S.dot _ (mem_lookup JF)).1
   .show absurd e (S.dot _ (mem_lookup JF)).2
  have(m,hn,hl):=I.loc;have hv:X.env.scope.names.lookup y=a0 .cell\/X.env.scope.names.lookup y=a0 .free:=S.free (y,.free) (mem_lookup JF) rfl;have(u,r,l):=hl _ y v hX A (.inr hv);show#[u,r,?_];rcases l with⟨k,_⟩|⟨k,c,e,z⟩
  .have k':X.env.scope.names.lookup y=a0 .local:=k;rcases hv with q|q<;>(rw[k']at q;cases q)
  .have hk:(XF scope X.env).names.lookup y=a0 .cell\/(XF scope X.env).names.lookup y=a0 .free:=by
    rcases V2 with q|q|q
    .rcases bW q with J|⟨J,_⟩
     .rw[JF]at J;cases J
     .cases J
    .show .inl q
    .show .inr q
   have(o,ho,T):=z;show .inr #[hk,c,(pz _ _ _ (S.no JF)).trans (ie e scope.names [] (mem_lookup JF)),o,keep c o ho,T]
 .rcases L5 x c e with z|z
  .show#[_,z]
  .have(v,o,ho,T):=I.cell x c (sub x c z);show#[v,o,keep c o ho,T]
 .rcases L x c e with z|z
  .show I.Jg.fresh (K' B (OE z))
  .show I.JX x c (sub x c z)
 .rw[ke,Tg,I.len];have e:N.length=f.length+(N.drop f.length).length:=by rw[List.length_drop];lia
  change _=N.length;rw[e,S.tail.1]
def qV(I:Inv X f σ H s)
  (d:Inv (Ka X N scope C s H ex) Q T l s4) (w:s.heap.objs.size<=D) (x:s.heap.objs.size<=C) (y:D≠C) (h:l D=bD) (rv:Vals p its) (pl:s4.heap.PlainList D its.toArray) (hl:p.length<=dt)
  (i:sx C s4.heap h') (m:∀b∈ex,iH X f H b):Inv X f σ (upd l D (.lst p)) {s4 with heap:=h' }:=by
 have r:l C=bD:=d.free;have lt:∀{b:gi} {o:Obj},s.heap.get? b=a0 o->b≠C/\b≠D:=λe=>#[gr (l' (fS e) x),gr (l' (fS e) w)]
 show I.Gg (s':={s4 with heap:=h' }) (ch:=ex) d.os ⟨λb o e n j g=>?_,λb o e n j g=>?_,λb o e n g=>?_,λb o e g=>?_,λb xs e=>?_,λb o u e=>?_,λb ps e=>?_⟩ (λa o e=>?_) d.bare λb j=>?_
 .show(i.2 b (lt e).1).trans (d.base.keep b o e n j g)
 .have(A,q):=d.base.slot b o e n j g;show#[A,(i.2 b (lt e).1).trans q]
 .rw[aj (lt e).2];show d.base.free b o e n g
 .have(o',q):=d.base.there b o e g;show#[o',(i.2 b (lt e).1).trans q]
 .have q:=d.base.iu b xs e;rw[aj (bM q h)];show q
 .have q:=d.base.KN b o u e;rw[aj (bM q h)];show q
 .have(k,q):=d.base.K3 b ps e;show#[k,by rw[aj (bM q h)];show q]
 .by_cases t:a=D
  .subst t;rw[aw]at e;cases e;have(n,q):=pl;show#[hl,its,n,rv,(i.2 _ y).trans q]
  .rw[aj t]at e;show(d.Jg a o e).ia (λc v B q=>(i.2 c ?_).trans q) (λc q=>?_) λc xs q=>?_
   .rintro rfl;rcases B with z|z
    .rw[<-z,r]at e;cases e
    .rw[r]at z;cases z
   .rw[aj (bM q h)];show q
   .rw[aj (bM q h)];show q
 .have(Y,G,f2,J,L,O):=m b j;show#[J,G,L,O]
section
def pB(I:Nat->gj->Prop)
  (b:∀n s,I n s->eW (hJ prog w) A (Ta it) (λr d=>match r with
   |none=>R (.ok .next) d
   |some v=>eW (hJ prog w) A (X6 a it v) (λ_ d=>eW (hJ prog w) A (Wx a env v) (λ_ k =>
     eW (hJ prog w) A (Ŭ f b5 λc r=>if r=b5 then do let ok <-isTrue c env (K6 c env);pure (Rj ok) else pure (Rj r)) (λok j =>
      if ok=b5 then eW (hJ prog w) A (K6 elt env) (λx l =>
       eW (hJ prog w) A (QI (.builtin "list.append") [g,x]) (λ_ o=>∃m,m<n/\I m o) (Y1 (hJ prog w) A env λe s'=>R (.error e) s') l) (Y1 (hJ prog w) A env λe s'=>R (.error e) s') j
      else ∃m,m<n/\I m j) (Y1 (hJ prog w) A env λe s'=>R (.error e) s') k) (Y1 (hJ prog w) A env λe s'=>R (.error e) s') d) (Y1 (hJ prog w) A env λe s'=>R (.error e) s') d) (Y1 (hJ prog w) A env λe s'=>R (.error e) s') s)
  (n:Nat) (h:I n s) :
  Tu (hJ prog w) A (.compLoop (.ListComp elt [⟨a,i,f,0⟩] scope pos) 0 it g env) R s:=by
 show codeAny_loop rfl I (λn s t=>?_) n h;change eW _ A ((compTurn (.ListComp elt [⟨a,i,f,0⟩] scope pos) 0 it g env).onRaise (λx=>do noteFrame x env;theTreesLotGoes x)) _ _ s;show wpAny_noted ?_;rw[compTurn_list];show a5 (Ě (a5 (HT (b n s t) (λr d p=>?_) λ_ _ h'=>h')));cases r with
 |none=>show cL p
 |some v =>
  show a5 (HT p (λ_ u y=>?_) λ_ _ h'=>h');show a5 (HT y (λ_ k z=>a5 (HT z (λok j q=>?_) λ_ _ h'=>h')) λ_ _ h'=>h');cases ok with
  |false=>show cL #[rfl,q]
  |true =>
   show a5 (a5 (HT q (λx l B=>a5 (HT B (λ_ o C=>cL (cL #[rfl,C])) λ_ _ h'=>h')) λ_ _ h'=>h'))
end
abbrev M4(X:Cx)(b:List ro)(t:TT):Prop :=
 ∀(a:List (gi×Obj)) (s:gj) (σ:St) (H:Hp) (Q:Bool->Hp->Prop),Inv X a σ H s->t σ H Q ->
  eW (hJ X.prog X.w) X.A (Ŭ b b5 λc r=>if r=b5 then do let d <-isTrue c X.env (K6 c X.env);pure (Rj d) else pure (Rj r)) (TP X a σ Q) X.xe s
abbrev IE:TT:=λ_ H Q=>Q b5 H
def pC:M4 X [] IE:=λ_ _ _ H _ I h=>wpAny_tests_nil #[H,I,h]
def uQ(h:PT X c t):M4 X [c] t:=λa s σ H Q I q=>wpAny_tests_one (h a s σ H Q I q)
abbrev uR(k:Nat)(J:It)(g:TG)(l:TT)(n:TE)(Q:VK)(σ:St)(o:Hp):Prop :=
  ∃W:Nat->Nat->List V->Hp->Prop,(∃m,W 0 m [] o)/\∀i m a H,W i m a H->a.length<=dt /\
    ((J.stop i H/\∀p,H p=bD->Q (.ref p) (upd H p (.lst a))) \/
     (J.go i H/\∃d:List V->Hp->Prop,(∀f H',d f H'->∃h,h<m/\W (i+1) h f H')/\∀x H',J.Rv i H x H'->g x (lx k bD++σ) H' λe q=>∃c:St,c.length=k/\e=c++σ /\
        l e q λb j=>if b=b5 then n e j λy r=>d (a++[y]) r else d a j))
abbrev yG(k:Nat)(a:TI)(g:TG)(b:TT)(c:TE):TE:=λσ H Q=>a σ H λJ d=>uR k J g b c Q σ d
section
def yH
  (S:cO X N t scope) (hc:X.calm=b5) (hg:∀C s H ex,PG (Ka X N scope C s H ex) tg g) (hf:∀C s H ex,M4 (Ka X N scope C s H ex) al tt) (he:∀C s H ex,PE (Ka X N scope C s H ex) elt te)
  (I:Inv X am σ H s) (T:Turn X.prog X.w X.K tg J B it tn) (st:tn 0 s.heap) (f2:∀b∈B,iH X am H b) (W:uR t.length J g tt te Q σ H)
  (hD:@Eq Nat D s.heap.objs.size) (hC:@Eq Nat C (s.heap.objs.size+1)) (L5:∀x c,(Mq X scope C).lookup x=a0 c->s4.heap.IsCell c bD\/(bK X.env scope.names []).lookup x=a0 c) (Tx:s4.os=s.os) (X8:s4.gens=s.gens) (keep:∀b o,s.heap.get? b=a0 o->s4.heap.get? b=a0 o) (ns:∃m,s4.heap.Ns C m) (pl:s4.heap.PlainList D #v[])
  (an:∀s5 O L its,Inv (Ka X N scope C s H B) [] (lx t.length bD++σ) O s5->O D=bD->Vals L its->s5.heap.PlainList D its.toArray->L.length<=dt->(∀p,O p=bD->Q (.ref p) (upd O p (.lst L)))->R (.ok .next) s5) :
  Tu (hJ X.prog X.w) X.A (.compStart (.ListComp elt [⟨tg,ap,al,0⟩] scope pos) 0 (.ref it) (.ref D) (Í scope (Mq X scope C) C X.env)) R s4:=by
 have MG:∀b∈B,@Q1 Nat _ b s.heap.objs.size:=λb h=>by
  have(o,e,_):=T.obj 0 s.heap st b h;show fS e
 have I4:Inv (Ka X N scope C s H B) [] (lx t.length bD++σ) H s4:=yF S I ⋯ L5 Tx X8 keep ns λb h=>#[f2 b h,MG b h]
 have Pd:tn 0 s4.heap:=T.keep 0 s.heap s4.heap st λb _ o e=>keep b o e;have nD:H D=bD:=I.Jg.fresh ⋯;have(W,(m0,w0),Ŗ):=W;generalize k:Ka X N scope C s H B=f at I4 an;have eP:f.prog=X.prog:=by rw[<-k];rfl
 have ew:f.w=X.w:=by rw[<-k];rfl
 have eK:f.K=X.K:=by rw[<-k];rfl
 have ec:f.calm=b5:=by rw[<-k];show hc
 have eA:f.A=X.A:=by rw[<-k];rfl
 have ee:f.env=Í scope (Mq X scope C) C X.env:=by rw[<-k];rfl
 have TB:f.xe=λ_ _=>False:=by rw[<-k];rfl
 have el:f.env.locals=C:=by rw[ee];rfl
 have TC:PG f tg g:=by rw[<-k];show hg _ _ _ _
 have TF:M4 f al tt:=by rw[<-k];show hf _ _ _ _
 have TH:PE f elt te:=by rw[<-k];show he _ _ _ _
 have s0:f.s₀=s:=by rw[<-k];rfl
 have Qh:f.pn=[]:=by rw[<-k];rfl
 have TJ:∀{H':Hp} {o:Obj},(∀b∈B,H' b=bD)->∀b∈B,iH f [(D,o)] H' b:=λ{H' o} hn b h=>by
  have ex:f.ex=B:=by rw[<-k];rfl
  show#[hn b h,?_,?_,.inl (by rw[ex];show h),λx c e=>?_,λp G=>?_]
  .rw[el];have:=MG b h;show gr (by change @Q1 Nat _ b C;lia)
  .have e1:f.fs=LP X.stack:=by rw[<-k];rfl
   rw[e1];intro z;have(f0,f1,X9,f3,f4,f5):=f2 b h;rcases fR.mp (I.lb b z) with q|q
   .show f1 q
   .show X9 q
  .have e1:f.env.cells=Mq X scope C:=by rw[ee];rfl
   rw[e1]at e;rcases iK _ _ _ e with z|z
   .have:=MG b h;have:=z.2;show va (by change @Q1 Nat _ b c;lia)
   .show(f2 b h).2.2.2.2.1 x c (ff scope.names [] (λn c e=>by simp at e) x c z)
  .rw[Qh,hY]at G;have:p=(D,o):=by simpa using G
   subst this;have:=MG b h;show va (by change @Q1 Nat _ b D;lia)
 have TK:∀{σ':St} {H':Hp} {s':gj} {o:Obj},Inv f [] σ' H' s'->H' D=bD->s'.heap.get? D=a0 o->(∀v,o.data≠.cell v)->Inv f [(D,o)] σ' H' s':=λ{σ' H' s' o} I' n e d =>
  I'.d_ λp G=>by
   have:p=(D,o):=by simpa using G
   subst this;show#[e,n,?_,?_,d]
   .rw[el];show gr (by change @Q1 Nat _ D C;lia)
   .have e1:f.fs=LP X.stack:=by rw[<-k];rfl
    rw[e1];intro z;have zz:(D:gi)∈LP X.stack:=z;rcases fR.mp (I.lb D zz) with q|q
    .have:=I.lt;rw[<-q]at this;show absurd this (by change ¬@Q1 Nat _ D s.heap.objs.size;lia)
    .show I.D0 (a:=D) ⋯ q
 have start:∀s':gj,s'=s4->Tu (hJ X.prog X.w) X.A (.compLoop (.ListComp elt [⟨tg,ap,al,0⟩] scope pos) 0 (.ref it) (.ref D) (Í scope (Mq X scope C) C X.env)) R s':=by
  rintro s' rfl;show pB (λn s'=>∃i L its H',Inv f [] (lx t.length bD++σ) H' s'/\tn i s'.heap/\(∀b∈B,H' b=bD)/\H' D=bD/\Vals L its/\s'.heap.PlainList D its.toArray/\W i n L H') ?_ m0
   ⟨0,[],[],H,I4,Pd,λb h=>(f2 b h).1,nD,.nil,pl,w0⟩
  rintro n s3 ⟨i,L,its,H3,I3,st3,P9,V3,RG,⟨nn,X_⟩,w3⟩;have(Y,LQ):=Ŗ i n L H3 w3;have IP:=TK I3 V3 X_ (λv z=>by have z':Data.seq _ _=ð v:=z;cases z');rcases LQ with⟨ar,qn⟩|⟨go,NN,V4,as⟩
  .have d:=T.done f eP ew eK ec i _ s3 _ H3 (Y1 (hJ X.prog X.w) X.A (Í scope (Mq X scope C) C X.env) λe s'=>R (.error e) s') IP (TJ P9) st3 ar;rw[eA]at d;show Jj d λr s4 TL=>?_;have(hr,I5):=TL;subst hr;have e5:=(I5.pin (D,({cls:=.type "list",data:=.seq its.toArray nn}:Obj)) (by rw[Qh];simp)).1;show an s4 H3 L its (I5.d_ λp G=>by cases G) V3 RG ⟨nn,e5⟩ Y qn
  .have d:=T.item f eP ew eK ec i _ s3 _ H3 (Y1 (hJ X.prog X.w) X.A (Í scope (Mq X scope C) C X.env) λe s'=>R (.error e) s') IP (TJ P9) st3 go;rw[eA]at d;show Jj d λr s4 TN=>?_;have(u,hr,h4):=TN;subst hr;show Jj h4 λ_ s5 TQ=>?_;have(x,O,I5,r5,y5,Mo,S5):=TQ;have az:O D=bD:=(I5.pin (D,({cls:=.type "list",data:=.seq its.toArray nn}:Obj)) (by rw[Qh];simp)).2.1;have S6:=I5.pinned (TJ S5) (T.obj _ _ Mo);have a6:=TC _ s5 _ O x u _ S6 r5 (as x O y5);rw[eP,ew,eA,ee,TB]at a6;show HT a6 (λ_ s6 ⟨σ6,H6,I6,q6⟩=>?_) λ_ _ z=>Q2 z;have(ow,ax,rfl,q6):=q6;have a7:=TF _ s6 _ H6 _ I6 q6;rw[eP,ew,eA,ee,TB]at a7;show HT a7 (λb s7 ⟨H7,I7,q7⟩=>?_) λ_ _ z=>Q2 z;have ab:∀{s8:gj} {l:Hp} {KR:List V} {its':List dV} {nn':Nat},Inv f [] (ow++σ) l s8->tn (i+1) s8.heap->(∀b∈B,l b=bD)->l D=bD->Vals KR its'->s8.heap.PlainList D its'.toArray->(∃m',m'<n/\W (i+1) m' KR l) ->
     ∃m,m<n/\∃i L its H',Inv f [] (lx t.length bD++σ) H' s8/\tn i s8.heap/\(∀b∈B,H' b=bD)/\H' D=bD/\Vals L its/\s8.heap.PlainList D its.toArray/\W i m L H':=λ{s8 l KR its' nn'} I8 Ya Yb n8 Yc Yd w8=>by
    have(m',hm,w8):=w8;show#[m',hm,i+1,KR,its',l,I8.weak (by simp[ax]) (λj v e=>?_),Ya,Yb,n8,Yc,Yd,w8];by_cases hj:j<t.length
    .rw[w6 (by simpa using hj),Nf]at e;split at e<;>cases e
    .rw[tr (by simpa using(Nat.not_lt.mp hj)),Tg]at e;rw[tr ⋯,ax];show e
   have ac:∀{σ':St} {l:Hp} {s8:gj},Inv f ([(D,({cls:=.type "list",data:=.seq its.toArray nn}:Obj))]++lp B s5.heap) σ' l s8->s8.heap.get? D=a0 {cls:=.type "list",data:=.seq its.toArray nn}/\l D=bD/\tn (i+1) s8.heap/\∀b∈B,l b=bD:=λ{σ' l s8} I8=>by
    have p1:=I8.pin (D,({cls:=.type "list",data:=.seq its.toArray nn}:Obj)) (by rw[Qh];simp);show#[p1.1,p1.2.1,T.keep _ _ _ Mo λb h o e=>(I8.pin (b,o) (qP _ (qP _ (fc h e)))).1,λb h=>?_];have(o,e,d):=T.obj _ _ Mo b h;show(I8.pin (b,o) (qP _ (qP _ (fc h e)))).2.1
   cases b with
   |false =>
    rw[Ϧ k9]at q7 ⊢;have(p1,p2,p3,p4):=ac I7;show ab (nn':=0) (I7.d_ λp G=>by cases G) p3 p4 p2 RG ⟨nn,p1⟩ (V4 _ _ q7)
   |true =>
    rw[ϥ rfl]at q7 ⊢;have a8:=TH _ s7 _ H7 _ I7 q7;rw[eP,ew,eA,ee,TB]at a8;show HT a8 (λy s8 ⟨yv,l,I8,r8,q8⟩=>?_) λ_ _ z=>Q2 z;have(p1,p2,p3,p4):=ac I8;have hsz:its.toArray.size<=dt:=by rw[ko,<-RG.length];show Y
    show wpAny_list_append_plain (hsz:=hsz) #[nn,p1] λh9 Ye V5=>?_;have Yf:Inv f [] (ow++σ) l s8:=I8.d_ λp G=>by cases G
    have RH:∀x c,f.env.cells.lookup x=a0 c->c≠D:=λx c e=>by
     have e1:f.env.cells=Mq X scope C:=by rw[ee];rfl
     rw[e1]at e;rcases iK _ _ _ e with z|z
     .have:=z.2;show va (by change @Q1 Nat _ D c;lia)
     .have(v,z):=I.cell x c (ff scope.names [] (λn c e=>by simp at e) x c z);have:@Q1 Nat _ c s.heap.objs.size:=z.lt;show gr (by change @Q1 Nat _ c D;lia)
    have I9:Inv f [] (ow++σ) l {s8 with heap:=h9,toks:=s8.toks}:=Yf.turned (it:=D) (λb o h e=>(V5.2 b h).trans e) p2 (by rw[el];show gr (by change @Q1 Nat _ D C;lia)) (.inr (by rw[s0];change @ū Nat _ s.heap.objs.size D;lia)) RH (λp G=>by rw[Qh]at G;cases G);have Yg:(its++[y]).toArray=its.toArray.push y:=by simp
    show ab (nn':=0) (s8:={s8 with heap:=h9,toks:=s8.toks}) I9 (T.keep _ _ _ p3 λb h o e=>(V5.2 b ?_).trans e) p4 p2 (RG.append (.cons r8 .nil)) (by rw[Yg];show Ye) (V4 _ _ q8);have:=MG b h;show gr (by change @Q1 Nat _ b D;lia)
 show codeAny_compStart_list (start _ rfl) (T.self _ _ _ _ _ Pd (start _ rfl))
def sV
  (f:Q (newEnv scope s.heap.objs.size b (OY (s.heap.objs.size+1) scope.names cl) d bD .none (a0 c) a) {s with heap:=V1 (s.heap.push {cls:=.type "dict",data:=.dict #v[]}) scope.names}) :
  eW M A (þ scope b cl [] d bD .none (a0 c) a) Q E s:=by
 simp only[þ,ĕ,if_true];show a5 (ŕ ?_);show a5 (wpAny_layCells _ (λname kind e=>by cases g:kind==NO<;>simp[g]) _ _ _ _ ?_);rw[show({s with heap:=s.heap.push {cls:=.type "dict",data:=.dict #v[]}}:gj).heap.objs.size=s.heap.objs.size+1 from Q3 ..];show a5 ?_;rw[U9];show cL (cL f)
def lF{RR:dV->gi->Result->gj->Prop}
    (S:cO X N f scope) (B:X.calm=b5) (G:∀C s H ex,PG (Ka X N scope C s H ex) r g) (L:∀C s H ex,M4 (Ka X N scope C s H ex) l O) (Y:∀C s H ex,PE (Ka X N scope C s H ex) elt te)
 (I:Inv X h σ H s) (T:Turn X.prog X.w X.K r J t it tn) (st:tn 0 s.heap) (f2:∀b∈t,iH X h H b) (W:uR f.length J g O te Q σ H)
    (m:∀D C i d j its,@Eq Nat D s.heap.objs.size->@Eq Nat C (s.heap.objs.size+1)->Inv (Ka X N scope C s H t) [] (lx f.length bD++σ) d i->d D=bD->Vals j its->i.heap.PlainList D its.toArray->j.length<=dt->(∀p,d p=bD->Q (.ref p) (upd d p (.lst j)))->RR (.ref D) C (.ok .next) i) :
    eW (hJ X.prog X.w) X.A (Υ []) (λk s₃=>eW (hJ X.prog X.w) X.A (þ scope X.env.globals (bK X.env scope.names []) [] X.env.qual bD .none (a0 X.env)) (λu s₄ =>
      Tu (hJ X.prog X.w) X.A (.compStart (.ListComp elt [⟨r,v,l,0⟩] scope pos) 0 (.ref it) k {u with scope:=XF scope X.env}) (RR k u.locals) s₄) E s₃) E s:=by
  show LN (sV ?_)
  dsimp only
  generalize n:s.heap.push {cls:=.type "list",dict:=bD,data:=.seq ([]:List dV).toArray}=a;have y:a.objs.size=s.heap.objs.size+1:=by rw[<-n,Q3]
  have z:∀b o,a.get? b=a0 o->(V1 (a.push {cls:=.type "dict",data:=.dict #v[]}) scope.names).get? b=a0 o:=λb o e=>í _ _ b o (b6 _ e);have q:∀b o,s.heap.get? b=a0 o->(V1 (a.push {cls:=.type "dict",data:=.dict #v[]}) scope.names).get? b=a0 o:=λb o e=>z b o (n▸b6 _ e);have J9:(V1 (a.push {cls:=.type "dict",data:=.dict #v[]}) scope.names).PlainList s.heap.objs.size #v[]:=#[_,z _ _ (n▸f6 _ rfl)]
  have L5:∀x c,(Mq X scope a.objs.size).lookup x=a0 c->(V1 (a.push {cls:=.type "dict",data:=.dict #v[]}) scope.names).IsCell c bD\/(bK X.env scope.names []).lookup x=a0 c:=λx c e=>by
    show pA scope.names (a.push {cls:=.type "dict",data:=.dict #v[]}) _ ?_;rw[Q3];show e
  show yH (s:=s) (s4:={s with heap:=V1 (a.push {cls:=.type "dict",data:=.dict #v[]}) scope.names}) (C:=a.objs.size) (D:=s.heap.objs.size) S B G L Y I T st f2 W rfl y L5 rfl rfl q ⟨_,(Heap.Ns.new a (.type "dict")).keeps (í _ _)⟩ J9
    λi d j its I5 n5 Qj Qk Ql q5=>m _ _ i d j its rfl y I5 n5 Qj Qk Ql q5
def uS(S:cO X N c scope)(n:X.calm=b5)(o:PI X i a p)(q:∀C s H ex,PG (Ka X N scope C s H ex) i g)(r:∀C s H ex,M4 (Ka X N scope C s H ex) d t)(u:∀C s H ex,PE (Ka X N scope C s H ex) elt y)
  (hs:∀x,O6 a X.env x=pure x:=by intro _;rfl):PE X (.ListComp elt [⟨i,a,d,0⟩] scope pos) (yG c.length p g t y):=by
 intro b s σ H Q I h;rw[eval_ListComp];show ě (use:=bD) (cl:=bK X.env scope.names []) rfl hs (eQ (S.cells I.ok)) S.kind S.names ?_;show Jj (o b s σ H _ I h) λv s1 z=>Jj z λRw s2 B=>?_;have(it,fp,tn,J,H2,e,j,T,st2,k,W):=B;subst e;show lF (RR:=λf C=>compPost (hJ X.prog X.w) X.A X.xe bD (EP X b σ Q) f C) S n q r u j T st2 k W ?_;intro D C s5 H5 ys its G hC l m L O Y q5;have(m5,TU,_):=l.loc;show#[m5,TU,λh' sb=>#[.ref D,_,qV j l (Ĉ G.symm) (by change @ū Nat _ s2.heap.objs.size C;lia) (gr (by change @Q1 Nat _ D C;lia)) m L O Y sb k,rfl,q5 D m]]
def BC(S:cO X N r scope)(hc:X.calm=b5)(hN:X.N.Nodup)(RJ:X.N[i]?=a0 y)(L:X.env.scope.names.lookup y=a0 .local)
  (hi:PI X n d wi) (hg:∀C s H ex,PG (Ka X N scope C s H ex) n g) (hf:∀C s H ex,M4 (Ka X N scope C s H ex) k tt) (he:∀C s H ex,PE (Ka X N scope C s H ex) elt te)
  (NG:Uo (.ListComp elt [⟨n,d,k,0⟩] scope pos) (a0 (.Name y m)) L6.line X.env=pure b5:=by rfl)
  (hs:∀x,O6 d X.env x=pure x:=by intro _;rfl):PS X (.Assign [.Name y m] (.ListComp elt [⟨n,d,k,0⟩] scope pos) L6) (Ea (yG r.length wi g tt te) (uL i)):=by
 intro f s σ H D I h;rw[exec_Assign_Name_used _ _ _ _ NG];show a5 (Ě (a5 ?_));change eW _ X.A (do let _ <-comprehension (.ListComp elt [⟨n,d,k,0⟩] scope pos) scope X.env _ (Υ []) cb (K6 d X.env) (a0 (Wx (.Name y m) X.env))) _ _ s;show a5 (HT (ě (use:=a0 (Wx (.Name y m) X.env)) (cl:=bK X.env scope.names []) (Q:=λ_ s'=>SP X f D .next s') rfl hs (eQ (S.cells I.ok)) S.kind S.names ?_) (λ_ s' hq=>cL (cL hq)) λ_ _ e=>e);show Jj (hi f s σ H _ I h) λv s1 h1=>Jj h1 λRw s2 h2=>?_;have(it,fp,tn,J,H2,e,l,T,st2,O,W):=h2;subst e;show lF (RR:=λt C=>compPost (hJ X.prog X.w) X.A X.xe (a0 (Wx (.Name y m) X.env)) (λ_ s'=>SP X f D .next s') t C) S hc hg hf he l T st2 O W ?_;intro j C q u Y its hD hC G n5 Qj Qk Ql q5;have(m5,TU,_):=G.loc;have Yi:u C=bD:=G.free;have B:Inv X f σ (upd u j (.lst Y)) {q with heap:=q.heap}:=qV l G (Ĉ hD.symm) (by change @ū Nat _ s2.heap.objs.size C;lia) (gr (by change @Q1 Nat _ j C;lia)) n5 Qj Qk Ql (MK ..) O;change eW _ X.A (Wx (.Name y m) X.env (.ref j)) _ _ q;show Ρ (nI (s:=q) B hN RJ (.inl L) (show RelV (.ref j) (.ref j) from rfl) (λs6 I6 ⟨a,sb,ha⟩=>?_) (.inr L));have RH:@Q1 Nat _ X.env.locals C:=by have:@Q1 Nat _ X.env.locals s2.heap.objs.size:=l.lt;lia
 have MH:∀x c,X.env.cells.lookup x=a0 c->c≠C:=λx c e=>by
  have(v,z):=l.cell x c e;have:@Q1 Nat _ c s2.heap.objs.size:=z.lt;show gr (by change @Q1 Nat _ c C;lia)
 have Yj:C≠a:=by
  rcases ha with z|z
  .rw[z];show va RH
  .show(MH _ _ z).symm
 show#[m5,TU.sameBut sb Yj,λh' Qm=>?_];show#[σ.set i (a0 (.ref j)),upd u j (.lst Y),I6.turned (it:=C) (t':=s6.toks) (λb o hb e=>(Qm.2 b hb).trans e) ?_ (va RH) (.inr (by have:@ū Nat _ X.s₀.heap.objs.size s2.heap.objs.size:=l.sz;change @ū Nat _ X.s₀.heap.objs.size C;lia)) MH (λp hp=>?_),q5 j n5]
 .rw[aj (va (by change @Q1 Nat _ j C;lia))];show Yi
 .have:@Q1 Nat _ p.1 s2.heap.objs.size:=fS (l.pin p hp).1;show gr (by change @Q1 Nat _ p.1 C;lia)
end
section
end
section
abbrev GP:V->Option Int->Option Int->Hp->VK->Prop:=λx lo a H Q=>∃z,x=.str z/\z.length<=dt/\Q (.str (PySem.StrLaws.sliceText z lo a)) H
def nj(x:Str)(lo a:Option Int)(hz:x.length<=dt):(PySem.StrLaws.sliceText x lo a).length<=dt:=K' (Txt.slice_le x lo a) hz
def EC:VW X GP:=by
 intro b s σ H x v m n lo c o Q I g hs pl e h;have(z,rfl,hz,q):=h;have(t,rfl):=g;show#["str",_,ψ.lookup,Xq _ _ _,?_];have a:(PySem.StrLaws.sliceText z lo c).length<=dt/\∀t' k,EP X b σ Q (.str (PySem.StrLaws.sliceText z lo c) t') {s with toks:=k}:=#[nj z lo c hz,λt' k=>#[.str _,H,I.tok k,#[_,rfl],q]]
 cases pl with
 |none =>
  cases e with
  |none=>show Tc (l:=bD) (u:=bD) (st:=bD) hs rfl (X2 a)
  |int j d=>show Tc (l:=bD) (u:=a0 (j,d)) (st:=bD) hs rfl (X2 a)
 |int i f =>
  cases e with
  |none=>show Tc (l:=a0 (i,f)) (u:=bD) (st:=bD) hs rfl (X2 a)
  |int j d=>show Tc (l:=a0 (i,f)) (u:=a0 (j,d)) (st:=bD) hs rfl (X2 a)
theorem nS:∀(l:List (Str×Tok)),Vals (l.map λp=>V.str p.1) (Ħ l)
 |[]=>.nil
 |(x,t)::r=>.cons #[t,rfl] (nS r)
theorem iL:∀{a:List Str}{its:List dV},Vals (a.map V.str) its->∃l:List (Str×Tok),its=Ħ l/\l.map (·.1)=a
 |[],_,.nil=>#[[],rfl,rfl]
 |y::a,_,.cons r t=>by
  have(b,rfl):=r;have(l,rfl,e):=iL t;show#[(y,b)::l,rfl,by rw[eH,e]]
def yI:Rz X "str.split" (λx xs H Q=>∃a b,x=.str a/\xs=[.str b]/\(b.length==0)=cb/\a.length+2<=dt /\
  ∀p,H p=bD->Q (.ref p) (upd H p (.lst ((SJ a b).map V.str)))):=by
 intro g s σ H x xs v us Q I j rs h;have(x,y,rfl,rfl,i,hz,q):=h;have(t,rfl):=j;have(r,rfl,u,rfl):=vals1 rs;have d:H s.heap.objs.size=bD:=I.Jg.fresh (i4 _);have m:=q _ d;have c:∀(l:List (Str×Tok)) (k:Nat),l.length<=dt->l.map (·.1)=SJ x y->EP X g σ Q (.ref s.heap.objs.size) {s with toks:=k,heap:=s.heap.push {cls:=.type "list",data:=.seq (Ħ l).toArray}}:=λl k hl e =>
  #[.ref s.heap.objs.size,_,I.laid (t':=k) (o:=.lst ((SJ x y).map V.str)) (λb u e=>b6 _ e) (i4 _)
   ⟨by rw[<-e,cK,cK];show hl,Ħ l,_,by rw[<-e,fx];show nS l,f6 _ rfl⟩,rfl,m]
 have one:1<=dt:=by decide
 cases f:(df (x.length<y.length)||decide (Ö x<Ö y))
 .cases d:(Qn x y 0 x.length (x.length+1)).isEmpty
  .have n:(QY x (Qn x y 0 x.length (x.length+1)) y.length).length<=dt:=by
    have:=PySem.StrLaws.occ_length_le x y 0 x.length (x.length+1);simp only[QY,cK,Sj,mx,ke];lia
   show Uv Ñ (Xq _ _ _) Z1 (Zg _ _) (meets_str_split_sep x y t u f i d ⋯ n) ?_;change wants _ _ _ {s with toks:=_,heap:=s.heap.push {cls:=.type "list",data:=.seq (strsFrom s.toks (QY x (Qn x y 0 x.length (x.length+1)) y.length)).toArray}};rw[strsFrom_eq];show c (numbered s.toks _) _ ?_ ((Ϛ _ _).trans ((Ϧ (ne_true_of_eq_false f)).trans (Ϧ (ne_true_of_eq_false d))).symm);have e:=ϩ DD (Ϛ s.toks (QY x (Qn x y 0 x.length (x.length+1)) y.length));rw[cK]at e;lia
  .show Uv Ñ (Xq _ _ _) Z1 (Zg _ _) (meets_str_split_not_found x y t u f i d)
    (c [(x,t)] _ one ((Ϧ (ne_true_of_eq_false f)).trans (ϥ d)).symm)
 .show Uv Ñ (Xq _ _ _) Z1 (Zg _ _) (meets_str_split_cannot_occur x y t u f)
   (c [(x,t)] _ one (ϥ f).symm)
def BD:Rz X "str.join" (λx xs H Q=>∃a p b,x=.str a/\xs=[.ref p]/\JG X.K H p (b.map V.str)/\Ι a b=b5/\Q (.str (Zc a b)) H):=by
 intro c s σ H x xs v us Q I d rs h;have(a,p,b,rfl,rfl,f,g,q):=h;have(t,rfl):=d;have(u,rfl,r):=vals1 rs;cases r;have(its,rv,pl,hz):=I.list f;have(l,rfl,e):=iL rv;show SC.join pl.isList e g λt' k=>#[.str _,H,I.tok k,#[_,rfl],q]
theorem j4:∀{a:List Bool}{its:List dV},Vals (a.map V.bl) its->its=a.map UR
 |[],_,.nil=>rfl
 |b::a,_,.cons r t=>by
  cases r;rw[j4 t];rfl
def yJ:X.calm=b5->gT X (.builtin "all") (λxs H Q=>∃(p:gi) (a:List Bool),xs=[.ref p]/\JG X.K H p (a.map V.bl)/\Q (.bl (a.all id)) H):=by
 intro g d s σ H xs us Q I rs h;have(p,a,rfl,j,q):=h;have(u,rfl,r):=vals1 rs;cases r;have(its,rv,pl,hz):=I.list j;have e:=j4 rv;subst e;have k:p<s.heap.objs.size:=by have(_,_,e,_):=pl;show fS e
 show call_all_walk (Tr pl.isList ?_);show#[s.heap.objs.size,[s.heap.objs.size,p],[s.heap.objs.size],(a.map UR).toArray.size,_,_,λi=>(a[i]?).getD b5,rfl,Î (A:=X.A.in1) (I.ok.hd g) _ p (gr k) (a.map UR).toArray,
  #[#[_,f6 _ rfl,rfl,rfl],pl.isList.push _],λi v s' Q' n l f=>?_,λh' m hk=>?_]
 .have c:(a.map UR)[i]?=a0 v:=by simpa using l
  rw[i5]at c;cases e:a[i]? with
  |none=>rw[e]at c;cases c
  |some b =>
   rw[e]at c;cases c;simp only[e,Option.getD_some]at f;show N4 f
 .have e:((hH (a.map UR).toArray.size).all λi=>(a[i]?).getD b5)=a.all id:=by
   rw[ko,cK];show Ų a
  rw[e];show#[.bl _,H,I.kept (t':=m) (ų hk),rfl,q]
end
section
end
abbrev BE(N a:List Str)(scope:P0)(out:List (Str×Oo)):Bool :=
 df (scope.kind=.function)&&scope.names.all (λy=>df (scope.names.lookup y.1=a0 y.2))&&scope.names.all (λy=>df (y.2≠.cell)||decide (y.1∈a))&&decide N.Nodup&&df (N.take a.length=a) &&
 scope.names.all (λy=>df (y.2≠.local)||decide (y.1∈a)||decide (y.1=".0"))&&df ((".0":Str)∉N)&&scope.names.all (λy=>df (y.2≠.free)||decide (out.lookup y.1=a0 .cell)||decide (out.lookup y.1=a0 .free))&&scope.names.all (λy=>df (y.1≠".")&&df (y.1≠".."))
def sW(c:X.env.scope.names=out)(d:eI (N.drop a.length) X.N)(h:BE N a scope out=b5):cO X N a scope:=by
 unfold BE at h;simp only[du,oT,Sn,Ϥ]at h;obtain⟨⟨⟨⟨⟨⟨⟨⟨f,g⟩,i⟩,j⟩,k⟩,l⟩,m⟩,n⟩,o⟩:=h;show#[f,g,λy b e=>?_,j,k,λy b e=>?_,m,d,λy b e=>?_,o]
 .rcases i y b with z|z
  .show absurd e z
  .show z
 .rcases l y b with(z|z)|z
  .show absurd e z
  .show .inl z
  .show .inr z
 .rw[c];rcases n y b with(z|z)|z
  .show absurd e z
  .show .inl z
  .show .inr z
section
abbrev bA(prog:B')(w:JT)(h:Mt)(k:Str×List Str)(a:gi):Prop :=
 ∃o n t b,h.get? a=a0 o/\o.cls=.type "tuple"/\o.data=.seq #v[.str k.1 t,.ref b] n/\Ă (PySem.strKind prog w) h k.2 b
def bA.typeIs{s:gj}(x:bA prog w s.heap k a):s.TypeIs (.ref a) "tuple":=let ⟨o,_,_,_,ho,b,_⟩:=x;⟨o,ho,b⟩
def bA.inj(e:bA prog w h x a)(f:bA prog w h y a):x=y:=by
 have(o,n,t,b,ho,_,g,i):=e;have(o',p,t',q,j,_,c,k):=f;obtain rfl:o=o':=tA (ho.symm.trans j);rw[g]at c;injection c with d _
 simp only[Array.mk.injEq,Ri,Value.str.injEq,Value.ref.injEq,and_true]at d;have((l,_),m):=d;subst m;show Ù l (i.inj k)
def bA.keeps(x:bA prog w h k a)(ho:h.get? d=a0 o)(e:o.data=.dict es ep)(hs:sx d h h'):bA prog w h' k a:=by
 have(o',n,t,b,f,g,c,i):=x;have j:a≠d:=by
  rintro rfl;obtain rfl:o'=o:=tA (f.symm.trans ho);rw[e]at c;show nomatch c
 show#[o',n,t,b,(hs.2 a j).trans f,g,c,i.keeps ho e hs]
abbrev pE(prog:B')(w:JT)(k:Str×List Str):Int:=reduceHash (Mw [(PySem.strKind prog w).hash k.1,Ts (PySem.strKind prog w) k.2])
abbrev yK(prog:B')(w:JT)(hh:Mt)(v:dV)(n:Int)(d:Nat):Prop :=
 ∀{A:PV} {E:dV->gj->Prop} {s:gj} {Q:Int->gj->Prop},s.heap=hh->A.units<K7->Q n {s with toks:=s.toks+d}->eW (hJ prog w) A (pyHash v) Q E s
def sX(x:Str)(t:Tok):yK prog w hh (.str x t) ((PySem.strKind prog w).hash x) 1:=λ_ _ h=>(PySem.strKind prog w).pyHash (by simp[PySem.strKind,N']) h
def pF(hk:Ă (PySem.strKind prog w) hh ks b):yK prog w hh (.ref b) (Ts (PySem.strKind prog w) ks) (ks.length+1):=λe a h=>by
 subst e;show wpAny_pyHash_tuple a hk h
def jx(j:A.units+1<K7)(hk:bA prog w s.heap k a)(h:Q (pE prog w k) {s with toks:=s.toks+(k.2.length+3)}):
  eW (hJ prog w) A (pyHash (.ref a)) Q E s:=by
 have f:=hk.typeIs;have(o,n,t,b,ho,_,m,p):=hk;unfold pyHash
 first|unfold pyHashByItsType|skip
 first|show a5 (wpAny_cRoomFor_or (.inr ⋯) ?_)|skip
 show a5 (OW f PySem.F.slot_tuple_hash.lookup ?_);change eW _ _ (if (a0 (ů "tuple.__hash__")==a0 qp)=b5 then _ else _) Q E s;rw[Ϧ (by rw[beq_builtin_none];show k9)];show a5 (OW f PySem.F.slot_tuple_hash.lookup ?_);change eW _ _ (callSpecialIfBoundUnlessNone? (.ref a) "__hash__" _ >>= _) Q E s;show a5 (wpAny_callSpecialIfBoundUnlessNone?_slot f PySem.F.slot_tuple_hash (D' PySem.F.slot_tuple_hash f PySem.F.entry_tuple_hash ?_ (PySem.F.args_tuple_hash_1 _)));change eW _ _ (τ (.ref a) >>= _) _ _ s;show a5 (ZW ho m ?_);show a5 ?_;rw[<-P5];show WS _
  (λc (d:Array Int) s'=>(c=[ux k.1 t,hU b]/\d=#v[]/\s'=s)\/(c=[hU b]/\d.toList=[(PySem.strKind prog w).hash k.1]/\s'={s with toks:=s.toks+1}) \/
   (c=[]/\d.toList=[(PySem.strKind prog w).hash k.1,Ts (PySem.strKind prog w) k.2]/\s'={s with toks:=s.toks+1+(k.2.length+1)}))
  _ ?_ ?_ _ _ (.inl #[rfl,rfl,rfl])
 .rintro x c d s' (⟨e,rfl,rfl⟩|⟨e,g,rfl⟩|⟨e,_,_⟩)
  .cases e;show a5 (sX k.1 t (hh:=s'.heap) rfl (by change A.units+1<K7;show j) ?_)
   first
    |show cL (.inr (.inl #[rfl,rfl,rfl]))
    |show a5 (cL (cL (.inr (.inl #[rfl,rfl,rfl]))))
  .cases e;show a5 (pF p rfl (by change A.units+1<K7;show j) ?_)
   first
    |show cL (.inr (.inr #[rfl,by simp[g],rfl]))
    |show a5 (cL (cL (.inr (.inr #[rfl,by simp[g],rfl]))))
  .cases e
 .rintro d s' (⟨e,_,_⟩|⟨e,_,_⟩|⟨_,g,rfl⟩)
  .cases e
  .cases e
  .change eW _ _ (retInt (Mw d.toList)) _ _ _;rw[g];show wpAny_ret_mkInt ?_;have l:s.toks+1+(k.2.length+1)+1=s.toks+(k.2.length+3):=by lia
   change eW _ _ (if (df (-(2:Int) ^ 63<=Mw [(PySem.strKind prog w).hash k.1,Ts (PySem.strKind prog w) k.2])&&df (Mw [(PySem.strKind prog w).hash k.1,Ts (PySem.strKind prog w) k.2]<2 ^ 63))=b5 then _ else _) Q E _;unfold pE reduceHash at h;by_cases i:(df (-(2:Int) ^ 63<=Mw [(PySem.strKind prog w).hash k.1,Ts (PySem.strKind prog w) k.2])&&df (Mw [(PySem.strKind prog w).hash k.1,Ts (PySem.strKind prog w) k.2]<2 ^ 63))=b5
   .rw[ϥ i];rw[ϥ i]at h;show cL (by rw[l];show h)
   .rw[Ϧ i];rw[Ϧ i]at h;show a5 (Nb (cL (by rw[l];show h)))
def qW(j:A.units<K7)(k:bA prog w s.heap x a)(f:bA prog w s.heap y b)(h:P (.done (.ret (.bool (df (x=y))))) s):
  eW (hJ prog w) A (OB.«tuple.__eq__» ⟨[.ref a,.ref b],[]⟩) P E s:=by
 have l:=f.typeIs;have(G,H,m,g,n,_,o,p):=k;have(I,J,q,i,t,_,B,C):=f;change eW _ _ (Β (.ref b) (.type "tuple") >>= _) _ _ s;show a5 (LA l X' ?_);simp only[Oh,sL,if_false];show a5 (ZW n o ?_);show a5 (ZW t B ?_);show a5 ?_;show WS _
  (λc r s'=>r.1=bD/\s'=s/\((c=[(ux x.1 m,ux y.1 q),(hU g,hU i)])\/(c=[(hU g,hU i)]/\x.1=y.1)\/(c=[]/\x=y)))
  _ ?_ ?_ _ _ #[rfl,rfl,.inl rfl]
 .rintro⟨u,v⟩ c r s' ⟨d,rfl,(e|⟨e,D⟩|⟨e,_⟩)⟩
  .cases e;show a5 ((PySem.strKind prog w).eqBool (a:=x.1) (b:=y.1) (by simp[PySem.strKind,N']) (by simp[PySem.strKind,N']) ?_);by_cases hk:x.1=y.1
   .rw[Ϩ hk];simp only[Oh,sL,if_false];show cL #[rfl,rfl,.inr (.inl #[by first|rfl|trivial,hk])]
   .rw[ϧ hk];simp only[Ź,if_true];rw[ϧ (λz=>hk (by rw[z]))]at h;show a5 (cL (cL (cL h)))
  .cases e;show a5 (wpAny_eqBool_tuple j p C ?_);by_cases hk:x.2=y.2
   .rw[Ϩ hk];simp only[Oh,sL,if_false];show cL #[rfl,rfl,.inr (.inr #[by first|rfl|trivial,Ù D hk])]
   .rw[ϧ hk];simp only[Ź,if_true];rw[ϧ (λz=>hk (by rw[z]))]at h;show a5 (cL (cL (cL h)))
  .cases e
 .rintro⟨L,N⟩ s' ⟨d,rfl,(e|⟨e,_⟩|⟨_,rfl⟩)⟩
  .cases e
  .cases e
  .simp only at d;subst d;show cL ?_;rw[Ϩ rfl]at h;show h
def jy(g:A.units+2<K7)(c:bA prog w s.heap x a)(d:bA prog w s.heap y b)(h:Q (df (x=y)) s):
  eW (hJ prog w) A (eqBool (.ref a) (.ref b)) Q E s:=by
 unfold eqBool
 try with_reducible show tv ?_
 change eW _ _ (if (hU a==hU b)=b5 then _ else _) Q E s;by_cases f:(hU a==hU b)=b5
 .rw[ϥ f];have e:a=b:=by have:=eq_of_beq f;injection this
  subst e;obtain rfl:=c.inj d;show a5 (Nb (cL (by simpa using h)))
 .rw[Ϧ f];show a5 (wpAny_richCompare_same_room (op:=.Eq) c.typeIs d.typeIs PySem.F.slot_tuple_eq
   (D' PySem.F.slot_tuple_eq c.typeIs PySem.F.entry_tuple_eq (qW (by first|(change A.units+1<K7;lia)|(change A.units<K7;lia)|(change A.units+1+1<K7;lia)) c d ⟨_,rfl,(λe=>nomatch e),N4 h⟩) (PySem.F.args_tuple_eq_2 _ _)) ⋯)
def iM(hk:Ă (PySem.strKind prog w) s.heap ks a)(h:Q b5 s):eW (hJ prog w) A (Ĩ (n+1) (.ref a)) Q E s:=by
 have e:=hk.typeIs;have(o,c,k,ho,_,g,i):=hk;unfold Ĩ;show a5 (OW e PySem.F.slot_tuple_eq.lookup ?_);change eW _ _ (Β (.ref a) (.type "tuple") >>= _) _ _ s;show a5 (LA e X' ?_);simp only[Oh,sL,if_false];show a5 (KX ho g ?_);show a5 ?_;change eW _ _ (Ŭ c _ _) _ _ s;rw[<-P5];show WS _ (λb r s'=>r.1=bD/\s'=s/\∀v∈b,carriedByValue v=b5) _ ?_ ?_ _ _ ⟨rfl,rfl,i.byValue⟩
 .rintro v b r s' ⟨d,rfl,f⟩;rw[Φ _ (f v k7)];show a5 (cL ?_);simp only[Oh,sL,if_false];show cL #[rfl,rfl,λu j=>f u (nC _ j)]
 .rintro⟨l,m⟩ s' ⟨d,rfl,_⟩;simp only at d;subst d;show cL h
def kC(hk:bA prog w s.heap k a)(h:Q b5 s):eW (hJ prog w) A (Ĩ 8 (.ref a)) Q E s:=by
 have f:=hk.typeIs;have(o,n,t,b,ho,_,g,i):=hk;unfold Ĩ;show a5 (OW f PySem.F.slot_tuple_eq.lookup ?_);change eW _ _ (Β (.ref a) (.type "tuple") >>= _) _ _ s;show a5 (LA f X' ?_);simp only[Oh,sL,if_false];show a5 (KX ho g ?_);show a5 ?_;rw[<-P5];show WS _ (λc r s'=>r.1=bD/\s'=s/\(c=[ux k.1 t,hU b]\/c=[hU b]\/c=[])) _ ?_ ?_ _ _ ⟨rfl,rfl,.inl rfl⟩
 .rintro v c r s' ⟨d,rfl,(e|e|e)⟩
  .cases e;rw[Φ _ rfl];show a5 (cL ?_);simp only[Oh,sL,if_false];show cL #[rfl,rfl,.inr (.inl (by first|rfl|trivial))]
  .cases e;show a5 (iM i ?_);simp only[Oh,sL,if_false];show cL #[rfl,rfl,.inr (.inr (by first|rfl|trivial))]
  .cases e
 .rintro⟨j,l⟩ s' ⟨d,rfl,_⟩;simp only at d;subst d;show cL h
end
abbrev iN(prog:B')(w:JT):HeapKind prog w (Str×List Str) where
 is:=bA prog w
 hash:=pE prog w
 draws:=λk=>k.2.length+3
 room:=λA=>A.units+2<K7
 inj:=λa b=>a.inj b
 keeps:=λx ho d hs=>x.keeps ho d hs
 pyHash:=λc hk h=>jx ⋯ hk h
 eqBool:=λc a b h=>jy c a b h
 quiet:=λhk h=>kC hk h
@[reducible]def nq:=Str×List Str
abbrev fQ(K:PySem.W.Frag)(H:Hp)(v:V)(k:nq):Prop:=∃a b,v=.ref a/\JH K H a [.str k.1,.ref b]/\JH K H b (k.2.map V.str)
abbrev j5(P:B')(w:JT)(d:gi)(xs:List (nq×gi×dV)):HO:=.ext λh=>(d==Mx)=cb/\∃o es ep,h.get? d=a0 o/\o.ExactDict/\o.data=.dict es ep/\es.toList=xs.map (entryOfKey (iN P w))/\(xs.map (·.1)).Nodup
abbrev fF(P:B')(w:JT)(K:PySem.W.Frag)(H:Hp)(d:gi)(ks:List nq):Prop:=∃xs,H d=a0 (j5 P w d xs)/\xs.map (·.1)=ks/\∀x∈xs,fQ K H (.ref x.2.1) x.1
theorem lG:∀{ks:List Str}{its:List dV},Vals (ks.map V.str) its->ItemsAre (PySem.strKind P w) ks its
 |[],_,.nil=>.nil
 |k::ks,_,.cons r t=>by
  have(a,rfl):=r;show .cons (by simp[PySem.strKind,N']) (lG t)
def BF(I:Inv X a σ H s)(e:JH X.K H b (ks.map V.str)):Ă (PySem.strKind X.prog X.w) s.heap ks b:=by
 have(its,r,(o,c,d,n,f),_):=I.tuple e;show#[o,its.toArray,n,c,d,f,by simpa using lG r]
def kK(I:Inv X d σ H s)(e:fQ X.K H (.ref a) k):bA X.prog X.w s.heap k a:=by
 have(a',b,q,f,g):=e;cases q;have(its,r,(o,h,i,n,j),_):=I.tuple f;cases r with
 |cons l c =>
  cases c with
  |cons c m =>
   cases m;have(t,rfl):=l;cases c;show#[o,n,t,b,h,i,j,BF I g]
section
def Inv.IF(I:Inv X a σ H s):Mx<s.heap.objs.size:=by
 have(o,es,ep,ho,_):=I.mod.glob;have b:@Q1 Nat _ K2 s.heap.objs.size:=fS (I.bk _ _ ho);have(e,(o',f,g,c,_),_):=I.mod.blt;have d:@Q1 Nat _ XJ s.heap.objs.size:=fS (I.bk _ _ c);revert b d;change @Q1 Nat _ K2 s.heap.objs.size->@Q1 Nat _ XJ s.heap.objs.size->@Q1 Nat _ Mx s.heap.objs.size;unfold K2 XJ Mx;lia
def lH(I:Inv X a σ H s)(h:H d=a0 (j5 X.prog X.w d xs))(hk:∀x∈xs,fQ X.K H (.ref x.2.1) x.1):(d==Mx)=cb/\s.heap.DictOfH (iN X.prog X.w) d xs:=by
 have((b,o,es,ep,c,e,f,g,i),_):=I.Jg d _ h;show#[b,o,es,ep,c,e,f,g,λx j=>kK I (hk x j),i]
def Dt(b:(d==Mx)=cb)(x:h.DictOfH (iN P w) d xs):bF P w H' h d (j5 P w d xs):=by
 have(o,es,ep,a,c,e,f,_,g):=x;show#[#[b,o,es,ep,a,c,e,f,g],#[o,a],λq a ⟨i,o,es,ep,j,l,m,n,p⟩ k=>#[i,o,es,ep,k _ j,l,m,n,p]]
def BG:PE X (.Dict [] [] pos) (λ_ H Q=>∀p,H p=bD->Q (.ref p) (upd H p (j5 X.prog X.w p []))):=λb s σ H Q I h =>
 ο #[.ref s.heap.objs.size,_,I.laid (a:=s.heap.objs.size) (o:=j5 X.prog X.w s.heap.objs.size []) (t':=s.toks) (λ_ _ q=>b6 _ q) (i4 _)
  (Dt (ϫ.mpr (uv (gr I.IF))) (Ϗ s.heap)),rfl,h _ (I.Jg.fresh (i4 _))]
def ig(k:nq):(YD xs k).isSome=df (k∈xs.map (·.1)):=by
 unfold YD;rw[Vt,Ma,List.find?_isSome,Ϥ,k8];constructor
 .rintro⟨x,a,e⟩;show#[x,a,Ϫ e]
 .rintro⟨x,a,e⟩;show#[x,a,Ϩ e]
def xb(o:X.A.units+3<K7):K_ X (Qg .NotIn) (λx y H Q=>∃k d ks,fQ X.K H x k/\y=.ref d/\fF X.prog X.w X.K H d ks/\Q (.bl (!df (k∈ks))) H):=by
 intro c s σ H x y v u Q I f g h;have(k,d,ks,e,rfl,(xs,i,j,l),q):=h;cases g;have(a,b,rfl,p,r):=id e;cases f;have(m,n):=lH I i l;show χ (knd:=iN X.prog X.w) (k:=k) (by change X.A.units+1+2<K7;lia) (kK I e) m n ?_;rw[ig,j];show#[.bl _,H,I.tok _,rfl,q]
def BH(hu:X.A.units+3<K7):ll X (λo i v H Q=>∃d k ks,o=.ref d/\fQ X.K H i k/\fF X.prog X.w X.K H d ks/\k∉ks/\ks.length<=1000/\∀H',fF X.prog X.w X.K H' d (ks++[k])->(∀b,b≠d->H' b=H b)->Q H'):=by
 intro p s σ H o i v ov iv u Q I t B rv h;have(d,k,ks,rfl,f,(xs,c,g,r),C,hl,q):=h;cases t;have(a,b,rfl,e1,e2):=id f;cases B;have(D,G):=lH I c r;have J:xs.length<=dt:=by
  have:=ϩ DD g;rw[cK]at this;rw[this];show OE (wZ hl)
 show ź (hsz:=J) (knd:=iN X.prog X.w) (k:=k) (by change X.A.units+1+2<K7;lia) (kK I f) G λh' j L=>?_;have N:YD xs k=bD:=by
  have:=ig (xs:=xs) k;rw[g,ϧ C]at this;cases e:YD xs k with
  |none=>rfl
  |some _=>rw[e]at this;cases this
 rw[storedH_new N]at j;have(o',Jd,Mz,O,_):=id j;show#[upd H d (j5 X.prog X.w d (xs++[(k,a,u)])),I.write (x:=d) (e:=d) (by rw[c];show UU) (.inl rfl) (λb q l z=>(L.2 b l).trans z) ⟨o',O⟩ (Dt D j),q _ #[_,aw,by rw[nc,g];rfl,λx T=>?_] λb l=>aj l];have kT:∀{a':gi} {n:List V},JH X.K H a' n->JH X.K (upd H d (j5 X.prog X.w d (xs++[(k,a,u)]))) a' n:=λ{a' n} z=>by
  rcases z with(z|⟨o,z⟩)|z
  .show .inl (.inl (by rw[aj (ye z c (λz=>nomatch z))];show z))
  .show .inl (.inr #[o,by rw[aj (ye z c (λz=>nomatch z))];show z])
  .show .inr z
 have keep:∀{y:V} {k':nq},fQ X.K H y k'->fQ X.K (upd H d (j5 X.prog X.w d (xs++[(k,a,u)]))) y k':=λ{y k'} ⟨a',Y,z1,z2,z3⟩=>#[a',Y,z1,kT z2,kT z3]
 rcases hZ.mp T with m|m
 .show keep (r x m)
 .have:x=(k,a,u):=by simpa using m
  subst this;show keep f
end
abbrev Lc(a b:Str):Bool:=!df (b.cps.toList<a.cps.toList)
def kL(a b:Str):Lc a b=b5↔a.cps.toList<=b.cps.toList:=by
 simp only[Lc,LB,decide_eq_false_iff_not];show List.not_lt
def nU(a b c:Str)(d:Lc a b=b5)(e:Lc b c=b5):Lc a c=b5:=by
 rw[kL]at d e ⊢;show List.le_trans d e
def xc(a b:Str):(Lc a b||Lc b a)=b5:=by
 rw[Sn,kL,kL];show List.le_total _ _
def yL{x y:Str}(h:x.cps.toList=y.cps.toList):x=y:=by
 cases x;cases y;congr
 show Ň.mp h
def pG(c:Lc a b=b5)(d:Lc b a=b5):a=b:=by
 rw[kL]at c d;show yL (List.le_antisymm c d)
abbrev aC(l:List Str):List Str:=l.mergeSort Lc
def aY(l:List Str):(aC l).Perm l:=List.mergeSort_perm l Lc
def cX(l:List Str):(aC l).Pairwise (λa b=>Lc a b=b5):=List.pairwise_mergeSort nU xc l
theorem iO:∀(l:List Str) (p:Str),risingS p l=b5->(p::l).Pairwise (λa b=>Lc a b=b5)
 |[],p,_=>by simp
 |x::r,p,h=>by
  have h':(!ltCps x.cps.toList p.cps.toList&&risingS x r)=b5:=h;have(c,g):=Ke.mp h';have d:=iO r x g;have f:Lc p x=b5:=by rw[ltCps_eq]at c;show c
  show U6.mpr #[λy i=>?_,d];rcases fR.mp i with e|e
  .rw[e];show f
  .show nU _ _ _ f ((U6.mp d).1 y e)
def pH(h:sortedS l=b5):l.Pairwise (λa b=>Lc a b=b5):=by
 cases l with
 |nil=>show .nil
 |cons x r=>show iO r x h
theorem dQ:∀{l m:List Str},l.Perm m->l.Pairwise (λa b=>Lc a b=b5)->m.Pairwise (λa b=>Lc a b=b5)->l=m
 |[],m,c,_,_=>(List.Perm.nil_eq c)
 |x::l,m,c,d,f=>by
  cases m with
  |nil=>show absurd c.length_eq (by simp)
  |cons y m =>
   have(g,h):=U6.mp d;have(b1,i):=U6.mp f;have j:x=y:=by
    have m1:x∈y::m:=c.mem_iff.mp k7;have m2:y∈x::l:=c.mem_iff.mpr k7;rcases fR.mp m1 with e|e
    .show e
    .rcases fR.mp m2 with e'|e'
     .show e'.symm
     .show pG (g y e') (b1 x e)
   subst j;rw[dQ (List.Perm.cons_inv c) h i]
def yM(a:l.Perm m)(hs:sortedS l=b5):l=aC m:=dQ (a.trans (aY m).symm) (pH hs) (cX m)
def fT(a:l.Perm m):aC l=aC m:=dQ ((aY l).trans (a.trans (aY m).symm)) (cX l) (cX m)
def bX(l:List Str):(aC l).length=l.length:=(aY l).length_eq
section
theorem cP:∀{a:List Str}{its:List dV},Vals (a.map V.str) its->Tv its a
 |[],_,.nil=>.nil
 |y::a,_,.cons r t=>by
  have(b,rfl):=r;show .cons y b (cP t)
theorem dN:∀{its:List dV}{a:List Str},Tv its a->Vals (a.map V.str) its
 |_,_,.nil=>.nil
 |_,_,.cons x t h=>.cons #[t,rfl] (dN h)
theorem fg(hc:eW (hJ prog w) A.in1 (ĳ x) (λvs s1=>∃ss,Tv vs ss/\vs.length<64 /\
      ∀(h':Mt) (JL:List dV) (e:Nat),(∀b o,s1.heap.get? b=a0 o->h'.get? b=a0 o)->h'.get? s1.heap.objs.size=a0 (JZ "list" JL.toArray e)->Tv JL (aC ss)->Q (.ref s1.heap.objs.size) {s1 with heap:=h' }) E s) :
    eW (hJ prog w) A (QI (.builtin "sorted") [x]) Q E s:=by
  refine Vr Ť ľ ŀ (Ł _) ?_;unfold OB.«sorted»;refine a5 (m:=Ε "sorted" 1 1 _) (cL ?_);refine a5 (HT hc (λvs s1 h1=>?_) λ_ _ e=>e);obtain⟨ss,hS,Li,h⟩:=h1
  refine wpAny_bind (wpAny_newList ?_ (by have : (64 : Nat) ≤ sizeLine := by decide
                                          lia))
  have L4:(s1.heap.push (JZ "list" vs.toArray 0)).get? s1.heap.objs.size=a0 (JZ "list" vs.toArray 0):=f6 _ rfl;show eW _ _ _ _ _ {s1 with heap:=s1.heap.push (JZ "list" vs.toArray 0)};refine a5 (tv (D' ą ⟨_,L4,rfl⟩ ñ (list_sort_treeK strKind_oneLt L4 hS.keysOf (λv₁ v₂ rest e=>keyKind_strs (by rw[<-e];exact hS)) Li λst' a1 a2=>⟨_,rfl,?_⟩) (Ć _)));obtain⟨Lz,b1,b2,b3⟩:=sorted_out_str hS a1 a2;obtain⟨e,he⟩:=Ġ (out:=(arrOf st').map (·.2)) L4;rw[yM b2 b3]at b1;refine cL ⟨_,rfl,h _ ((arrOf st').map (·.2)).toList e (λb o q=>?_) (by rw[Ď];exact he) b1⟩;have Jr:b<s1.heap.objs.size:=fS q;show(Ą (s1.heap.push (JZ "list" vs.toArray 0)) s1.heap.objs.size vs ((arrOf st').map (·.2))).get? b=a0 o;rw[ă (gr Jr) (by rw[MA];exact Ng Jr)];exact b6 _ q
def nu(hl:IsTup s.heap l vs.toArray)
  (h:Q vs {s with heap:=(s.heap.push (JZ "list" #v[] 0)).update s.heap.objs.size (td (·++vs.toArray))}) (hsz:vs.length<=dt) :
  eW (hJ prog w) A (ĳ (.ref l)) Q E s:=by
 have(o,ho,b,n,c):=id hl;unfold ĳ;show a5 (ú (MZ entry_proto_collect' ?_));change eW _ _ (do Ϡ (.builtin "list.__iadd__" ⟨[<-Υ [],.ref l],[]⟩)) _ _ s;show a5 (Zj (cL #[Ĭ _ (by decide +kernel),MZ entry_list_iadd' ?_]));change eW _ _ (y4 (.ref s.heap.objs.size) (.ref l) (.ref s.heap.objs.size)) _ _ {s with heap:=s.heap.push (JZ "list" #v[] 0)};unfold y4;have a:(s.heap.push (JZ "list" #v[] 0)).get? l=a0 o:=b6 _ ho;show a5 (VH (T:="tuple") #[o,a,b] ?_);have d:(Ly "tuple"==Ly "tuple")=b5:=by rfl
 rw[ϥ (by rw[d];simp)];show a5 (Ŀ a c ?_);show a5 (Ŀ (xs:=#v[]) (n:=0) (f6 _ rfl) rfl ?_);rw[Ϧ (by simp)];show a5 (Zy (xs:=#v[]) (n:=0) (f6 _ rfl) rfl ?_ (nH _) (by change(#v[]++vs.toArray).size<=dt+1;simp only[YM,ko,WA];lia));show cL ?_;change eW (hJ prog w) A (do
   let o <-load s.heap.objs.size
   match o.data with
   |.seq xs _=>pure xs.toList
   |_=>å "internal:collect") Q E {s with heap:=(s.heap.push (JZ "list" #v[] 0)).update s.heap.objs.size (td (·++vs.toArray))}
 show a5 (ż (ϓ (f6 _ rfl) _) ?_);change eW _ _ (pure ((#v[]:Array dV)++vs.toArray).toList) Q E _;rw[show((#v[]:Array dV)++vs.toArray).toList=vs by simp];show cL h
end
section
def gW{h:Mt}{vs:List dV}(e:h.get? b=a0 o):((h.push (JZ "list" #v[] 0)).update h.objs.size (td (·++vs.toArray))).get? b=a0 o:=by
 rw[RU _ _ _ _ (gr (fS e))];show b6 _ e
def qX(I:Inv X a σ H s)(k1:∀b o,s.heap.get? b=a0 o->s1.heap.get? b=a0 o)(h:∃d c,s1={s with heap:=d,toks:=c})
  (hk:∀b o,s1.heap.get? b=a0 o->h'.get? b=a0 o) (i:h'.get? s1.heap.objs.size=a0 (JZ "list" f.toArray e)) (j:Tv f (aC ss)) (hsz:s.heap.objs.size<=s1.heap.objs.size) (hl:ss.length<=dt)
  (q:∀p,H p=bD->Q (.ref p) (upd H p (.lst ((aC ss).map V.str)))):EP X a σ Q (.ref s1.heap.objs.size) {s1 with heap:=h' }:=by
 have(d,c,rfl):=h;have g:Inv X a σ H {s with heap:=d,toks:=c}:=I.kept (t':=c) k1;show#[.ref d.objs.size,_,g.laid (t':=c) (o:=.lst ((aC ss).map V.str)) hk (i4 _) #[by rw[cK,bX];show hl,f,e,dN j,i],rfl,q _ (g.Jg.fresh (i4 _))]
def j6:gT X (.builtin "sorted") (λxs H Q=>∃(p:gi) (a:List Str),xs=[.ref p]/\(JG X.K H p (a.map V.str)\/JH X.K H p (a.map V.str))/\a.length<64/\∀q,H q=bD->Q (.ref q) (upd H q (.lst ((aC a).map V.str)))):=by
 intro d s σ H xs us Q I rs h;have(p,a,rfl,hq,j,q):=h;have(u,rfl,r):=vals1 rs;cases r;have hl:a.length<=dt:=OE (l' j (by decide));have f:∀(its:List dV),Vals (a.map V.str) its->∀(h':Mt) (c:List dV) (e:Nat),(∀b o,((s.heap.push (JZ "list" #v[] 0)).update s.heap.objs.size (td (·++its.toArray))).get? b=a0 o->h'.get? b=a0 o) ->
   h'.get? ((s.heap.push (JZ "list" #v[] 0)).update s.heap.objs.size (td (·++its.toArray))).objs.size=a0 (JZ "list" c.toArray e)->Tv c (aC a) ->
   EP X d σ Q (.ref ((s.heap.push (JZ "list" #v[] 0)).update s.heap.objs.size (td (·++its.toArray))).objs.size) {s with heap:=h' }:=λits rv h' c e hk g i =>
  qX (s1:={s with heap:=(s.heap.push (JZ "list" #v[] 0)).update s.heap.objs.size (td (·++its.toArray))}) I (λb o z=>gW z) ⟨_,s.toks,rfl⟩ hk g i (by change s.heap.objs.size<=((s.heap.push (JZ "list" #v[] 0)).update s.heap.objs.size (td (·++its.toArray))).objs.size;rw[Ō,MA];show Oi _) hl q
 rcases hq with hq|hq
 .have(its,rv,pl,hz):=I.list hq;have k:its.length=a.length:=by rw[<-rv.length,cK]
  show fg (collect_list pl.isList #[a,cP rv,⋯,λh' c e hk g i=>f its rv h' c e hk g i] ⋯)
 .have(its,rv,pl,hz):=I.tuple hq;have k:its.length=a.length:=by rw[<-rv.length,cK]
  show fg (nu pl #[a,cP rv,⋯,λh' c e hk g i=>f its rv h' c e hk g i] ⋯)
end
@[reducible]def sK(P:B')(w:JT):=PySem.strKind P w
abbrev aU(P:B')(w:JT)(h:Mt)(a:gi)(led:Bool)(D:List Str):Prop :=
 ∃(L:List (Str×Tok)) (es:Array (Int×dV)) (ep:Nat) (t:RZ),h.get? a=a0 {cls:=.type "set",dict:=bD,data:=.set es ep t}/\es.toList=L.map (λp=>((sK P w).hash p.1,ux p.1 p.2)) /\
  (L.map (·.1)).Perm D/\D.Nodup/\t.fits es.size=b5/\es.size<MB/\t.led=led/\(es.size=0\/t.plain=cb)
section
def lI{L:List (Str×Tok)}:ElemsOf (sK prog w) (L.map λp=>((sK prog w).hash p.1,ux p.1 p.2)):=by
 intro e a;have(p,_,rfl):=k8.mp a;show#[#[p.1,by simp[PySem.strKind,N'],rfl],rfl]
def gX(x y:Str)(t:Tok):(sK prog w).is x (.str y t)=df (x=y):=by
 rw[Ma];simp[PySem.strKind,N'];show#[λh=>h.symm,λh=>h.symm]
def sY(t:RZ)(es:Array (Int×dV))(h:Int)(x:dV):(layNew t es h x).2.1.led=t.led:=by
 unfold layNew;split
 .change(õ (t.put _).1 _).led=t.led;unfold õ;split<;>rfl
 .rfl
def pI(t:RZ)(es:Array (Int×dV))(n:Nat):(û t es n).2.1.led=t.led:=by
 unfold û;split
 .rename_i t' b a;have:t'.led=t.led:=by
   unfold Y4 WV at a;cases c:US (Og n - 1) (es.map (·.1)) with
   |none=>rw[c]at a;cases a
   |some o=>rw[c]at a;cases a;rfl
  dsimp only
  split
  .show this
  .rfl
 .rfl
def lJ(t:RZ)(es:Array (Int×dV))(n:Nat)(h:t.plain=cb):(û t es n).2.1.plain=cb:=by
 unfold û;split
 .rename_i t' b a;have:t'.plain=t.plain:=by
   unfold Y4 WV at a;cases c:US (Og n - 1) (es.map (·.1)) with
   |none=>rw[c]at a;cases a
   |some o=>rw[c]at a;cases a;rfl
  dsimp only
  split
  .rw[this];show h
  .rfl
 .rfl
def c9(h:l.Perm (L.map λp=>((sK prog w).hash p.1,ux p.1 p.2))):∃L':List (Str×Tok),l=L'.map (λp=>((sK prog w).hash p.1,ux p.1 p.2))/\L'.Perm L:=by
 have all:∀e∈l,∃p:Str×Tok,e=((sK prog w).hash p.1,ux p.1 p.2):=λe a=>by
  have(p,_,rfl):=k8.mp (h.mem_iff.mp a);show#[p,rfl]
 have ex:∀l:List (Int×dV),(∀e∈l,∃p:Str×Tok,e=((sK prog w).hash p.1,ux p.1 p.2))->∃L':List (Str×Tok),l=L'.map (λp=>((sK prog w).hash p.1,ux p.1 p.2)):=by
  intro l;induction l with
  |nil=>intro _;show#[[],rfl]
  |cons e l c =>
   intro b;have(p,rfl):=b e k7;have(L',rfl):=c λe a=>b e (nC _ a);show#[p::L',rfl]
 have(L',rfl):=ex l all;show#[L',rfl,?_];have g:(L'.map λp=>((sK prog w).hash p.1,ux p.1 p.2)).map (λe=>match e.2 with|.str x t=>(x,t)|_=>(vr,0))=L':=by
  rw[fx];show ϊ _
 have d:(L.map λp=>((sK prog w).hash p.1,ux p.1 p.2)).map (λe=>match e.2 with|.str x t=>(x,t)|_=>(vr,0))=L:=by
  rw[fx];show ϊ _
 have:=h.map (λe=>match e.2 with|.str x t=>(x,t)|_=>(vr,0));rw[g,d]at this;show this
theorem lK(hS:aU prog w s.heap a led D)(NI:D.length+1<MB)
    (h:∀h',sx a s.heap h'->aU prog w h' a led (if x∈D then D else D++[x])->Q (df (x∉D)) {s with heap:=h' }) :
    eW (hJ prog w) A (setAddHashed a (.str x tk) ((sK prog w).hash x)) Q E s:=by
  obtain⟨L,es,ep,t,ho,J3,Jh,Jk,hf,hb,J5,JN⟩:=hS;have Ov:(sK prog w).is x (.str x tk)=b5:=by rw[gX];simp
  have Qo:ElemsOf (sK prog w) es.toList:=by rw[J3];exact lI
  have hlen:es.size=D.length:=by rw[<-ki,J3,cK,<-cK (f:=Ŵ) (as:=L),Jh.length_eq]
  unfold setAddHashed setAddHashedIn;refine tv (a5 (qs ho rfl hf ?_))
  dsimp only
  rw[byScan_of (knd:=sK prog w) rfl hb Qo];simp only[↓reduceIte];unfold setAddByScan;refine a5 ?_;refine a5 (Nb ?_);refine a5 (ν (knd:=sK prog w) Ov ho rfl hf Qo ?_);have mem_iff:(∃e∈es.toList,(sK prog w).is x e.2=b5)↔x∈D:=by
    rw[J3,<-Jh.mem_iff,k8];constructor
    · rintro⟨e,he,hi⟩
      obtain⟨p,hp,rfl⟩:=k8.mp he;rw[gX,Ϥ]at hi;exact⟨p,hp,hi.symm⟩
    · rintro⟨p,hp,e⟩
      exact⟨_,k8.mpr ⟨p,hp,rfl⟩,by rw[gX];simp[e]⟩
  cases hr:ê (λe=>(sK prog w).is x e.2) es.toList with
  | some j =>
    dsimp only
    obtain⟨hj,RK,_⟩:=YK.mp hr;have hx:x∈D:=mem_iff.mp ⟨es.toList[j],Tj hj,RK⟩;refine cL (cL ?_);have e:s={s with heap:=s.heap}:=by cases s;rfl
    have:=h s.heap (MK a s.heap) (by rw[ϥ hx];exact⟨L,es,ep,t,ho,J3,Jh,Jk,hf,hb,J5,JN⟩);rw[ϧ (λz=>z hx)]at this;rw[e];exact this
  | none =>
    dsimp only
    have hx:x∉D:=λhx=>by
      obtain⟨e,he,hp⟩:=mem_iff.mpr hx;have:=â.mp hr e he;rw[hp]at this;exact Bool.noConfusion this
    have Yo:∀(b:Bool) {s₁:gj} {Q':Unit->gj->Prop},Q' () s₁->eW (hJ prog w) A (match b with|true=>ř "set.scan.the-table-gave-way"|false=>pure ()) Q' E s₁ :=
      λb s₁ Q' hq=>by cases b<;>first|exact cL hq|exact Nb hq
    have Pf:=layNew_perm t es ((sK prog w).hash x) (.str x tk);have LR:=layNew_fits t es ((sK prog w).hash x) (.str x tk);have LS:=sY t es ((sK prog w).hash x) (.str x tk);generalize hL:layNew t es ((sK prog w).hash x) (.str x tk)=NL at Pf LR LS ⊢;obtain⟨JU,t1,MI,Yp⟩:=NL
    dsimp only at Pf LR LS ⊢
    rw[į,J3,show [((sK prog w).hash x,ux x tk)]=[(x,tk)].map (λp=>((sK prog w).hash p.1,ux p.1 p.2)) from rfl,<-nc]at Pf;obtain⟨L1,e1,Yq⟩:=c9 Pf;have Lj:JU.size=D.length+1:=by rw[<-ki,Pf.length_eq,cK,ke,<-hlen,<-ki,J3,cK];rfl
    have V7:JU.size<MB:=by lia
    have NJ:(L1.map (·.1)).Perm (D++[x]):=(Yq.map _).trans (by rw[nc];exact Jh.append_right _);have V8:(D++[x]).Nodup:=by
      rw[ri]
      exact ⟨Jk, by simp, fun y hy z hz => by have : z = x := by simpa using hz
                                              subst this;rintro rfl;exact hx hy⟩
    refine a5 (Yo _ ?_);have L8:∀h',sx a s.heap h'->aU prog w h' a led (D++[x])->Q b5 {s with heap:=h' }:=λh' sb hs=>by
      have:=h h' sb (by rw[Ϧ hx];exact hs);rw[Ϩ hx]at this;exact this
    have tail:∀(g:Bool->Sem Unit),(∀(b:Bool) (s₁:gj) (Q':Unit->gj->Prop),Q' () s₁->eW (hJ prog w) A (g b) Q' E s₁)->∀(R:Option Bool->gj->Prop),(∀h',sx a s.heap h'->aU prog w h' a led (D++[x])->R (a0 b5) {s with heap:=h' })->∀t2:RZ,t2.fits JU.size=b5->t2.led=led->t2.plain=cb->eW (hJ prog w) A (do
        storeSet a JU t2
        if (!MI&&t2.tooFull)=true then do
            g (relayAll t2 JU (SetTable.grown JU.size)).2.2
            storeSet a (relayAll t2 JU (SetTable.grown JU.size)).1 (relayAll t2 JU (SetTable.grown JU.size)).2.1
            pure (some true)
          else pure (a0 b5)) R E s:=by
      intro g hg R hR t2 Yr L9 Nc;refine a5 (Â ho rfl ?_ (Ì V7));have M5:(s.heap.update a (Sz JU t2)).get? a=a0 {cls:=.type "set",dict:=bD,data:=.set JU (ep+1) t2}:=by
        have:=H0 (Sz JU t2) ho rfl;exact this
      have Qp:=Mu s.heap a (Sz JU t2);split
      · have hp:=relayAll_perm t2 JU (QB JU.size)
        have L_:=relayAll_fits t2 JU (QB JU.size);have TY:=pI t2 JU (QB JU.size);have MJ:=lJ t2 JU (QB JU.size) Nc;generalize TZ:û t2 JU (QB JU.size)=Rl at hp L_ TY MJ ⊢;obtain⟨NK,t3,V9⟩:=Rl
        dsimp only at hp L_ TY MJ ⊢
        rw[e1]at hp;obtain⟨L2,e2,Ys⟩:=c9 hp;have hsz:NK.size=JU.size:=by rw[<-ki,hp.length_eq,<-e1,ki]
        refine a5 (hg _ _ _ ?_);refine a5 (Â M5 rfl ?_ (Ì ⋯));have NM:((s.heap.update a (Sz JU t2)).update a (Sz NK t3)).get? a=a0 {cls:=.type "set",dict:=bD,data:=.set NK (ep+1+1) t3}:=H0 (Sz NK t3) M5 rfl;refine cL (hR _ (Qp.trans (Mu _ a _)) ⟨L2,NK,_,t3,NM,e2,(Ys.map _).trans NJ,V8,L_,⋯,TY.trans L9,.inr MJ⟩)
      · exact cL (hR _ Qp ⟨L1,JU,_,t2,M5,e1,NJ,V8,Yr,V7,L9,.inr Nc⟩)
    split
    · rename_i hp
      refine a5 ?_;rw[hashByValue_scannable 8 rfl];refine cL ?_;have ep:(if plainKind (ux x tk)=b5 then t1 else {t1 with plain:=cb})={t1 with plain:=cb}:=rfl;rw[ep];refine tail _ ?_ _ ?_ {t1 with plain:=cb} (SetTable.fits_plain_off LR) (LS.trans J5) rfl
      · intro b s₁ Q' hq;cases b<;>first|exact cL hq|exact Nb hq
      · intro h' Nd KS;dsimp only;exact cL (L8 h' Nd KS)
    · rename_i hp
      refine a5 (cL ?_);simp only[↓reduceIte];refine tail _ ?_ _ ?_ t1 LR (LS.trans J5) (Bool.eq_false_iff.mpr hp)
      · intro b s₁ Q' hq;cases b<;>first|exact cL hq|exact Nb hq
      · intro h' Nd KS;dsimp only;exact cL (L8 h' Nd KS)
end
abbrev iP(D:List Str)(x:Str):List Str:=if x∈D then D else D++[x]
abbrev aE(l:List Str):List Str:=l.foldl iP []
theorem sZ(h:D.Nodup):(iP D x).Nodup:=by
  unfold iP;split
  · exact h
  · rename_i hx
    rw[ri]
    exact ⟨h, by simp, fun y hy z hz => by have : z = x := by simpa using hz
                                           subst this;rintro rfl;exact hx hy⟩
theorem fh:∀(l D:List Str),D.Nodup->(l.foldl iP D).Nodup/\(∀x,x∈l.foldl iP D↔x∈D\/x∈l)/\(l.foldl iP D).length<=D.length+l.length
 |[],D,h=>#[h,by simp,by simp]
 |y::l,D,h=>by
  have(a,b,f):=fh l (iP D y) (sZ h);have c:∀x,x∈iP D y↔x∈D\/x=y:=λx=>by
   unfold iP;split
   .rename_i d;show#[.inl,λz=>z.elim id (λe=>e▸d)]
   .simp
  have hl:(iP D y).length<=D.length+1:=by
   unfold iP;split
   .lia
   .simp
  show#[a,λx=>?_,by rw[WB,mx];lia];rw[WB,b,c,fR,or_assoc]
def bY(l:List Str):(aE l).Nodup:=(fh l [] U7).1
def bH(l:List Str)(x:Str):x∈aE l↔x∈l:=by rw[aE,(fh l [] U7).2.1];simp
def dW(l:List Str):(aE l).length<=l.length:=by have:=(fh l [] U7).2.2;simpa[aE] using this
def qY(l:List Str)(x:Str):aE (l++[x])=iP (aE l) x:=by unfold aE;rw[List.foldl_append];rfl
section
variable{prog:B'}{w:JT}{A:PV}{R:Result->gj->Prop}{I:gi}{fp wr:List gi}{G:Array Ş->Array Ş->Prop}{n:Nat}{P:Nat->dV->Prop}{St:Nat->gj->Prop}
def jz(W:Ζ prog w A.in1 I fp wr G n P St)(S:gi)(m:S∉fp)(led:Bool)
  (c:List Str) (hn:c.length=n) (y:∀i v,P i v->∃x t,c[i]?=a0 x/\v=.str x t) (d:n+1<MB) :
  ∀(k i:Nat) (s:gj),n - i=k->i<=n->St i s->aU prog w s.heap S led (aE (c.take i)) ->
   (∀s',Moved (S::wr) G s s'->aU prog w s'.heap S led (aE c)->R (.ok (.ret .none)) s') ->
   Tu (hJ prog w) A (.builtin "set.update.loop" ⟨[.ref S,.ref I],[]⟩) R s:=by
 have p:S∉wr:=λh=>m (W.sub _ h);have q:∀b∈wr,b∈S::wr:=λb d=>nC _ d;intro k;induction k with
 |zero =>
  intro i s hk z j g l;have B:i=n:=by lia
  subst B;show MZ V6 ?_;rw[M6 Qt _];change eW _ A.in1 (Ta (.ref I) >>= _) _ _ s;show a5 (W.done s _ _ j λs' f=>?_);change eW _ A.in1 (ret qp) _ _ s';rw[Qa ⋯]at g;show cL (l s' (f.mono q) (by
   have(L,es,ep,t,ho,a):=g;show#[L,es,ep,t,f.heap S _ p ho,a]))
 |succ k C =>
  intro i s hk z j g l;have r:i<n:=by lia
  show MZ V6 ?_;rw[M6 Qt _];change eW _ A.in1 (Ta (.ref I) >>= _) _ _ s;show a5 (W.item i s _ _ r j λv s' D H f=>?_);have(x,t,J,rfl):=y i v D;have N:aU prog w s'.heap S led (aE (c.take i)):=by
   have(L,es,ep,O,ho,a):=g;show#[L,es,ep,O,f.heap S _ p ho,a]
  change eW _ A.in1 (O3 [ux x t] (setAdd S (.str x t)) >>= _) _ _ s';show a5 (tv ?_);unfold setAdd;show tv ?_;show a5 ((sK prog w).pyHash (k:=x) (by rw[gX];simp) ?_);have Q:(aE (c.take i)).length+1<MB:=by have:=dW (c.take i);rw[Ol]at this;lia
  show lK (s:={s' with toks:=s'.toks+1}) N Q λh' u T=>?_;have Y:aU prog w h' S led (aE (c.take (i+1))):=by
   rw[List.take_add_one,J];change aU prog w h' S led (aE (c.take i++[x]));rw[qY];show T
  show cL #[SM Qt _,C (i+1) _ ⋯ r (W.frame _ s' _ _ H (Oi _) λb d o e=>?_) Y λP_ T1 T2=>?_]
  .rw[u.2 b (λh:b=S=>m (by rw[<-h];show d))];show e
  .show l P_ (ζ W.gtrans ((f.mono q).then_heap (Oi _) λb o d e=>?_) T1) T2;rw[u.2 b (λh:b=S=>d (by rw[h];show k7))];show e
end
section
def nv(a:dV)
  (h:Q₁ (.ref s.heap.objs.size) {s with heap:=s.heap.push {cls:=.type "set",dict:=bD,data:=.set #v[] 0 (.fresh 0 0 (!w.params.followText "set-order"))}}) :
  Tu (hJ prog w) A (.call (.builtin "set.__new__") #[[.type "set",a],[]]) (wants Q₁ E) s:=by
 show ύ ?_;change eW _ A.in1 (do checkBuiltinCall "set.__new__" ⟨[.type "set",a],[]⟩;Ϡ (.builtin "set.__new__" ⟨[.type "set",a],[]⟩)) _ _ s;show a5 (ã (PySem.F.newCall_set_1 a) (cL #[SM PySem.F.plain_set_new _,MZ PySem.F.entry_set_new ?_]));rw[M6 PySem.F.plain_set_new _];unfold OB.«set.__new__» Ţ;have b:=Æ;have(c,g,d,e,os):=s
 dsimp only
 wp_walk
 show Ul (cL ?_)
 dsimp only
 simp only[newObj];show a5 (ŕ (cL ?_));show cL h
def ij(b:h.get? a=a0 {cls:=.type "set",dict:=bD,data:=.set #v[] 0 (.fresh 0 0 led)}):aU prog w h a led [] :=
 #[[],#v[],0,_,b,rfl,.nil,U7,rfl,by unfold MB;decide,rfl,.inl rfl]
end
def sub_tuple_set:ß (.type "tuple") (.type "set")=pure cb:=by rw[Tt];kernel_rfl
def sub_tuple_frozenset:ß (.type "tuple") (.type "frozenset")=pure cb:=by rw[Tt];kernel_rfl
section
@[reducible]def aJ(w:JT):Bool:=!w.params.followText "set-order"
@[reducible]def s9(led:Bool):Obj:={cls:=.type "set",dict:=bD,data:=.set #v[] 0 (.fresh 0 0 led)}
def iQ
  (L:s.TypeIs (.ref l) T) (Yv:ß (.type T) (.type "set")=pure cb) (Yw:ß (.type T) (.type "frozenset")=pure cb) (JI:(Ly T==Ly "dict")=cb)
  (N:a.length+1<MB)
  (k:∀(s1:gj) (B:PV) (Q':dV->gj->Prop),B.handled=A.handled->(∀b o,s.heap.get? b=a0 o->s1.heap.get? b=a0 o)->s.heap.objs.size<s1.heap.objs.size ->
   (∀I m n G P St d,Ζ prog w B.in1 I m n G a.length P St->(∀g g',G g g'->g'=g)->s.heap.objs.size∉m->(∀b∈n,s.heap.objs.size<b)->(∀i v,P i v->∃x t,a[i]?=a0 x/\v=.str x t)->St 0 {s1 with heap:=d}->(∀b o,s1.heap.get? b=a0 o->d.get? b=a0 o)->Q' (.ref I) {s1 with heap:=d})->eW (hJ prog w) B (ý (.ref l)) Q' E s1)
  (h:∀(h':Mt) (f:Nat),aU prog w h' s.heap.objs.size (aJ w) (aE a)->(∀b o,b<s.heap.objs.size->s.heap.get? b=a0 o->h'.get? b=a0 o)->Q (.ref s.heap.objs.size) {s with heap:=h',toks:=f}) :
  eW (hJ prog w) A (QI (.type "set") [.ref l]) Q E s:=by
 have(c,tl,Yx):=PySem.F.called_set.mro;have V':=PySem.F.called_set.made;have Mb:=PySem.F.called_set.sub;show wpAny_call (ύ ?_);change eW _ _ (callAny (.type "set") _) _ _ _;show cL #[Ĭ _ (by decide +kernel),MZ PySem.F.entry_type_call ?_];rw[Around.under_plain (weight_type_call_type "set" [.ref l] []) rfl];have d:=PySem.F.called_set.notType;have h2:=PySem.F.called_set.canCreate;have O:=PySem.F.typeCall_set_1 (.ref l)
 repeat (any_goals (first|assumption|wp_step))
 show XG (nv (.ref l) (E:=E) (Q₁:=λobj C=>obj=.ref s.heap.objs.size/\C={s with heap:=s.heap.push (s9 (aJ w))}) ⟨rfl,rfl⟩) λr C p=>?_;cases r with
 |error e=>show p
 |ok Y =>
  cases Y with
  |ret obj =>
   have(rfl,rfl):=p;have D:(s.heap.push (s9 (aJ w))).get? s.heap.objs.size=a0 (s9 (aJ w)):=f6 _ rfl;have hT:VD {s with heap:=s.heap.push (s9 (aJ w))} (.ref s.heap.objs.size) "set":=#[_,D,rfl]
   have ab:=PySem.F.called_set.init.lookup;have T3:=PySem.F.called_set.init.bind (.ref s.heap.objs.size)
   repeat (any_goals (first|assumption|wp_step))
   show XG (codeAny_call_builtin (R:=wants (λr H=>r=.none/\∃h' f,H={s with heap:=h',toks:=f} /\
     aU prog w h' s.heap.objs.size (aJ w) (aE a) /\
     (∀b o,b<s.heap.objs.size->s.heap.get? b=a0 o->h'.get? b=a0 o)) E) PySem.F.called_set.init.plain PySem.F.entry_set_init (check_set_init_1 hT ?_)) λr₂ H q=>?_
   .have(ol,Qq,J):=L;have(Yy,Qr,Qs,Ox):=ol;simp only at J;subst J;have T5:(s.heap.push (s9 (aJ w))).get? l=a0 {cls:=.type T,dict:=Qr,data:=Qs,slots:=Ox}:=b6 _ Qq;have Wa:VD {s with heap:=s.heap.push (s9 (aJ w))} (.ref l) T:=#[_,T5,rfl]
    unfold OB.«set.__init__» noKeywords Š;generalize Yz:ý=PI
    wp_walk
    subst Yz;show k {s with heap:=s.heap.push (s9 (aJ w))} _ _ rfl (λb o e=>b6 _ e) (by rw[MA];show RO _) λI m n G P St d W hG hf YA Ow Jo hk=>?_;show a5 (ú ?_);show jz W s.heap.objs.size hf (aJ w) a rfl Ow N (a.length - 0) 0 _ ⋯ (nH _) Jo (ij (hk _ _ D)) ?_;intro s' j u;have(h',g',d',RL,S_):=s';have eg:g'=s.gens:=hG _ _ j.gens;have ed:d'=s.drawn:=j.drawn;have eo:S_=s.os:=j.os;subst eg;subst ed;subst eo;change eW _ _ _ _ _ _;show cL ?_;change eW _ _ (ret qp) _ _ _;show cL #[rfl,h',RL,rfl,u,λb o y e=>?_];show j.heap b o (λz=>by
     rcases fR.mp z with z|z
     .rw[z]at y;show ve _ y
     .show absurd (YA b z) (ť y)) (hk _ _ (b6 _ e))
   .cases r₂ with
    |error e=>show q
    |ok YB =>
     cases YB with
     |ret r =>
      have(rfl,h',f,rfl,u,J4):=q
      repeat (any_goals (first|assumption|wp_step))
      show h _ _ u J4
     |_=>show q.elim
  |_=>show p.elim
end
section
theorem pJ:∀{vs:List dV}{ss:List Str},Tv vs ss->∀(i:Nat) (v:dV),vs[i]?=a0 v->∃x t,ss[i]?=a0 x/\v=.str x t
 |_,_,.nil,i,v,h=>by simp at h
 |_,_,.cons x t h,0,v,e=>by simp at e;show#[x,t,rfl,e.symm]
 |_,_,.cons x t h,i+1,v,e=>by rw[Wh]at e;rw[Wh];show pJ h i v e
theorem iR:∀{vs:List dV}{ss:List Str},Tv vs ss->vs.length=ss.length
 |_,_,.nil=>rfl
 |_,_,.cons x t h=>by simp[iR h]
def uT(a:n≠S)(b:n≠l):n∉[S,l]:=by simp[a,b]
def fU(hh:A.handled=bD)(hl:s.heap.IsList l vs.toArray)(f:Tv vs a)(c:a.length+1<MB)
  (h:∀(h':Mt) (j:Nat),aU prog w h' s.heap.objs.size (aJ w) (aE a)->(∀b o,b<s.heap.objs.size->s.heap.get? b=a0 o->h'.get? b=a0 o)->Q (.ref s.heap.objs.size) {s with heap:=h',toks:=j}) :
  eW (hJ prog w) A (QI (.type "set") [.ref l]) Q E s:=by
 have g:l<s.heap.objs.size:=let ⟨o,ho,_⟩:=hl;fS ho;show iQ hl.typeIs PySem.F.sub_list_set PySem.F.sub_list_frozenset (by decide) c (λs1 B Q' k hk d m=>?_) h;have LS:s1.heap.IsList l vs.toArray:=let ⟨o,ho,r⟩:=hl;⟨o,hk _ _ ho,r⟩;show Tr LS ?_;have n:l≠s1.heap.objs.size:=gr (RC g d);have W:=(Î (prog:=prog) (w:=w) (A:=B.in1) (by simp[k,hh]) s1.heap.objs.size l n vs.toArray).toS;have p:vs.toArray.size=a.length:=by simp[iR f]
 rw[p]at W;show m _ _ _ _ _ _ _ W (λ_ _ e=>e) (uT (gr d) (va g)) (λb c=>by rw[kj.mp c];show d) (λi v q=>pJ f i v (by simpa using q)) ⟨⟨_,f6 _ rfl,rfl,rfl⟩,LS.push _⟩ λb o e=>b6 _ e
def gY(hh:A.handled=bD)(hl:s.heap.IsTuple l vs.toArray)(f:Tv vs a)(c:a.length+1<MB)
  (h:∀(h':Mt) (j:Nat),aU prog w h' s.heap.objs.size (aJ w) (aE a)->(∀b o,b<s.heap.objs.size->s.heap.get? b=a0 o->h'.get? b=a0 o)->Q (.ref s.heap.objs.size) {s with heap:=h',toks:=j}) :
  eW (hJ prog w) A (QI (.type "set") [.ref l]) Q E s:=by
 have g:l<s.heap.objs.size:=let ⟨o,ho,_⟩:=hl;fS ho;show iQ hl.typeIs sub_tuple_set sub_tuple_frozenset (by decide) c (λs1 B Q' k hk d m=>?_) h;have LS:s1.heap.IsTuple l vs.toArray:=let ⟨o,ho,r⟩:=hl;⟨o,hk _ _ ho,r⟩;show QH LS ?_;have n:l≠s1.heap.objs.size:=gr (RC g d);have W:=(Walks.tuple (prog:=prog) (w:=w) (A:=B.in1) (by simp[k,hh]) s1.heap.objs.size l n vs.toArray).toS;have p:vs.toArray.size=a.length:=by simp[iR f]
 rw[p]at W;show m _ _ _ _ _ _ _ W (λ_ _ e=>e) (uT (gr d) (va g)) (λb c=>by rw[kj.mp c];show d) (λi v q=>pJ f i v (by simpa using q)) ⟨⟨_,f6 _ rfl,rfl,rfl⟩,let ⟨o,ho,r⟩:=LS;⟨o,b6 _ ho,r⟩⟩ λb o e=>b6 _ e
def pK(a:n≠0)(h:∀i<n,Q i {s with drawn:=s.drawn.bump src}):eW M A (choose src n) Q E s:=λΓ p b=>by
 change Sem.wp M Γ (.choose src n .pure) _ _ p s;rw[Sem.wp_choose];show#[a,h _ (Wy _ (Nat.pos_of_ne_zero a))]
theorem il:∀{xs:List α}{i:Nat}{x:α},xs[i]?=a0 x->(x::xs.eraseIdx i).Perm xs
 |[],i,x,h=>by simp at h
 |y::a,0,x,h=>by simp at h;subst h;show .refl _
 |y::a,i+1,x,h=>by
  rw[Wh]at h;rw[Wi];show(Ĥ y x _).trans ((il h).cons y)
theorem gZ:∀(n:Nat) (xs:List α) (s:gj) (Q:List α->gj->Prop),xs.length=n->(∀a d,a.Perm xs->Q a {s with drawn:=d})->eW M A (drawOrder n xs) Q E s
 |0,xs,s,Q,b,h=>by
  have:xs=[]:=Wf.mp b;subst this;show cL (h [] s.drawn (.refl _))
 |n+1,[],s,Q,b,h=>by simp at b
 |n+1,y::a,s,Q,b,h=>by
  change eW M A (choose .order (y::a).length >>= _) Q E s;show a5 (pK (by simp) λi c=>?_);have e:(y::a)[i]?=a0 ((y::a)[i]'c):=pb c;have f:=il e;generalize (y::a)[i]'c=x at e f;simp only[e];show a5 (gZ n _ _ _ (by have:=f.length_eq;simp at this b ⊢;lia) λzs d hz=>?_);show cL (h (x::zs) d ((hz.cons x).trans f))
theorem j7(next:Nat->Nat):∀(fuel k:Nat) (left:List α) (out:Array α),left.length=fuel->(Ê next fuel k left out).toList.Perm (out.toList++left)
 |0,k,left,out,hl=>by
  have:left=[]:=Wf.mp hl;subst this;simp[Ê]
 |fuel+1,k,left,out,hl=>by
  unfold Ê;have a:next k % left.length<left.length:=Wy _ ⋯;have e:left[next k % left.length]?=a0 (left[next k % left.length]'a):=pb a;have b:=il e;generalize left[next k % left.length]'a=x at e b;simp only[e];show(j7 next fuel _ _ _ (by have:=b.length_eq;simp at this;lia)).trans ?_;rw[į,ņ];show(b.append_left _)
def dX(next:Nat->Nat)(xs:Array α):(Ý next xs).toList.Perm xs.toList:=by
 have:=j7 next xs.size 0 xs.toList #v[] (by simp);simpa[Ý] using this
end
namespace SI
def qZ:Manifest.owners.lookup (String.ofList ['r','o','t','a','r','e','t','i','_','t','e','s'].reverse)=a0 Manifest.sig_set_iterator:=by kernel_rfl
def slot_next:Slot "set_iterator" "__next__" "set_iterator.__next__" :=
 .of (owner:="set_iterator") (n:="__next__") (by rw[Ve,Q_];kernel_rfl) (by decide +kernel) (by decide +kernel) (by decide +kernel)
  (by first|show .inl (by decide +kernel)|show .inr (by decide +kernel)) (by rw[Tt];kernel_rfl)
def entry_next:ā Ϙ "set_iterator.__next__"=a0 OB.«set_iterator.__next__»:=ς (by kernel_rfl)
def args_next(a:dV):ϟ "set_iterator.__next__" ⟨[a],[]⟩:=by
 unfold ϟ;rw[signature?_of (id:="set_iterator.__next__") (n:=['_','_','t','x','e','n','_','_']) (o:=['r','o','t','a','r','e','t','i','_','t','e','s']) (by kernel_rfl) qZ];kernel_rfl
def nV:Slot "set_iterator" "__iter__" "set_iterator.__iter__" :=
 .of (owner:="set_iterator") (n:="__iter__") (by rw[Ve,Q_];kernel_rfl) (by decide +kernel) (by decide +kernel) (by decide +kernel)
  (by first|show .inl (by decide +kernel)|show .inr (by decide +kernel)) (by rw[Tt];kernel_rfl)
def xf(a:dV):ϟ "set_iterator.__iter__" ⟨[a],[]⟩:=by
 unfold ϟ;rw[signature?_of (id:="set_iterator.__iter__") (n:=['_','_','r','e','t','i','_','_']) (o:=['r','o','t','a','r','e','t','i','_','t','e','s']) (by kernel_rfl) qZ];kernel_rfl
def s_:ā Ϙ "set_iterator.__iter__"=a0 OB.«dict_keyiterator.__iter__» :=
 Ā (id':="dict_keyiterator.__iter__") (by kernel_rfl) (by first|rfl|decide +kernel|(unfold String.splitOn;simp +decide [String.splitOnAux])) (by decide +kernel) (by kernel_rfl)
def lL:ā Ϙ "set.__iter__"=a0 OB.«frozenset.__iter__» :=
 Ā (id':="frozenset.__iter__") (by kernel_rfl) rfl (by decide +kernel) (by kernel_rfl)
end SI
section
variable{prog:B'}{w:JT}{A:PV}{E:dV->gj->Prop}{s:gj}
abbrev ip(h:Mt)(I:gi)(first:dV)(i:Nat)(S:gi)(n ep:Nat):Prop:=∃o,h.get? I=a0 o/\o.cls=.type "set_iterator"/\o.data=.fields #v[first,I0 i,.ref S,I0 n,I0 ep]
def ip.typeIs(x:ip s.heap I f i S n ep):s.TypeIs (.ref I) "set_iterator":=let ⟨o,ho,a,_⟩:=x;⟨o,ho,a⟩
def BI(a:ip s.heap I f i S n ep)(h:Q (.ref I) s):eW (hJ prog w) A (ý (.ref I)) Q E s:=by
 show Ο a.typeIs SI.nV (D' SI.nV a.typeIs SI.s_ ?_ (SI.xf _));change eW _ _ (ret (.ref I)) _ _ s;show cL #[_,rfl,"set_iterator",_,a.typeIs,SI.slot_next.lookup,h]
def cQ(h:Q (M.w.params.followText "set-order") s):eW M A Α Q E s:=by
 unfold Α;show a5 (Ul (cL h))
end
end L2
namespace L2
open PySem PySem.Spec PyProof.Rows
section
variable{prog:B'}{w:JT}{A:PV}{E:dV->gj->Prop}{s:gj}
@[reducible]def pL(es:Array (Int×dV))(ep:Nat)(t:RZ):Obj:={cls:=.type "set",dict:=bD,data:=.set es ep t}
def q_{I:gi}{B:PV}{Q:Option dV->gj->Prop}{c:Mt}{k:dV->Sem (Option dV)}(hh:B.handled=bD)
  (d:∀h',(∀b o,c.get? b=a0 o->h'.get? b=a0 o)->∀e,VD {s with heap:=h' } e "StopIteration"->E e {s with heap:=h' }) {Q':Fin->gj->Prop} :
  eW (hJ prog w) B (Ĳ (.type "StopIteration") [] >>= λe=>(ü e:Sem Fin)) Q' E {s with heap:=c}:=by
 show a5 ?_;simp only[Ĳ,ϛ];show a5 (LN ?_ (by size_fits));show a5 (m:=YC _ _) (ã (a:=qp) (by first|rfl|(simp only[YC];rfl)) ?_);show LN ?_ (by size_fits);simp only[ü];show a5 (wpAny_handled ?_);rw[hh];show a5 (cL (wpAny_throw ?_));show d _ (λb o e=>b6 _ (b6 _ e)) _ ⟨_,f6 _ rfl,rfl⟩
def uU{I S:gi}{first:dV}{i ep:Nat}{es:Array (Int×dV)}{t:RZ}(d:ip s.heap I first i S es.size ep)(ho:s.heap.get? S=a0 (pL es ep t))(j:t.fits es.size=b5)
  (k:∀(Q':Fin->gj->Prop) (h:dV->gj->Prop) ,(∀v s',Q (a0 v) s'->Q' (.done (.ret v)) s')->(∀e s',s'.TypeIs e "StopIteration"->Q bD s'->h e s') ->
   eW (hJ prog w) A.in1 (if let .int slot _:=first then(do
     match <-Ç S slot.toNat i ep with
     |some (x,next) =>
      È (.ref I) 0 (I0 next)
      È (.ref I) 1 (I0 ((i:Int)+1))
      ret x
     |none=>È (.ref I) 2 .none;ü (<-Ĳ (.type "StopIteration") []))
    else(do
     let a0 c <-ħ first|unsupported "internal:set_iterator"
     match c[i]? with
     |some (.int f _) =>
      let x <-ı S f.toNat ep
      È (.ref I) 1 (I0 ((i:Int)+1))
      ret x
     |some _=>å "internal:set_iterator"
     |none=>È (.ref I) 0 (I0 0);È (.ref I) 2 .none;ü (<-Ĳ (.type "StopIteration") []))) Q' h s):eW (hJ prog w) A (Ta (.ref I)) Q E s:=by
 have(o,l,n,m):=id d;unfold Ta;show a5 (Zk (N6 (name:=Ro "__next__") d.typeIs SI.slot_next
  (D' SI.slot_next d.typeIs SI.entry_next ?_ (SI.args_next _))))
 unfold OB.«set_iterator.__next__»;show a5 (ã (a:=(hU I,[])) rfl ?_)
 try dsimp only
 show a5 (wpAny_fieldsOf l m ?_)
 try dsimp only
 show a5 (Vy ho rfl j ?_);rw[Ϧ (by simp)];show HT (k (λg s'=>∃r,g=.done (.ret r)/\Q (a0 r) s') (λe s'=>s'.TypeIs e "StopIteration"/\Q bD s') (λv s' q=>#[v,rfl,q]) λe s' z q=>#[z,q]) ?_ ?_
 .rintro g s' ⟨r,rfl,q⟩;show#[r,rfl,cL q]
 .rintro e s' ⟨z,q⟩;show a5 (LA (T:="StopIteration") (b:=b5) z Yu ?_);show cL q
end
section
def uV{I S:gi}{f f':dV}{i n ep:Nat}{h:Mt}{o:Obj}(b:h.get? I=a0 o)(c:o.cls=.type "set_iterator")(a:o.data=.fields #v[f,I0 i,.ref S,I0 n,I0 ep]):
  ip (h.update I (ε (·.setIfInBounds 1 (I0 ((i:Int)+1))))) I f (i+1) S n ep :=
 #[_,H0 _ b (WW (Qi a _)),(Zd ..).trans c,by rw[Qi a];simp]
def ra{h:Mt}(b:h.get? I=a0 o)(c:o.cls=.type "set_iterator")(a:o.data=.fields #v[f,I0 i,.ref S,I0 n,I0 ep]):
  ∃o',(h.update I (ε (·.setIfInBounds 0 f'))).get? I=a0 o'/\o'.cls=.type "set_iterator"/\o'.data=.fields #v[f',I0 i,.ref S,I0 n,I0 ep] :=
 #[_,H0 _ b (WW (Qi a _)),(Zd ..).trans c,by rw[Qi a];simp]
def yN{I S:gi}{slot i ep:Nat}{es:Array (Int×dV)}{t:RZ}{Q:Option dV->gj->Prop}(a:ip s.heap I (I0 slot) i S es.size ep)(ho:s.heap.get? S=a0 (pL es ep t))(j:t.fits es.size=b5)(hh:A.handled=bD)
  {r:Option (dV×Nat)} (l:∀(B:PV) (f:dV->gj->Prop) (Q':Option (dV×Nat)->gj->Prop),Q' r s->eW (hJ prog w) B (Ç S slot i ep) Q' f s)
  (m:∀x nx,r=a0 (x,nx)->∀h',ip h' I (I0 nx) (i+1) S es.size ep->sx I s.heap h'->Q (a0 x) {s with heap:=h' })
  (n:r=bD->∀h',(∀b o,b≠I->s.heap.get? b=a0 o->h'.get? b=a0 o)->Q bD {s with heap:=h' }):eW (hJ prog w) A (Ta (.ref I)) Q E s:=by
 show uU a ho j λQ' f q u=>?_;have(o,c,v,d):=id a;change eW _ _ (Ç S slot i ep >>= _) _ _ s;show a5 (l _ _ _ ?_);cases r with
 |some p =>
  have(x,nx):=p
  dsimp only
  show a5 (Qb c d (by simp) ?_);have(o',g,y,h):=ra (f':=I0 nx) c v d;show a5 (Qb (s:={s with heap:=_}) g h (by simp) ?_);show cL (q _ _ (m x nx rfl _ (uV (f':=I0 nx) g y h) ((Mu ..).trans (Mu ..))))
 |none =>
  dsimp only
  show a5 (Qb c d (by simp) ?_);show q_ (I:=I) (k:=λ_=>pure bD) (Q:=λ_ _=>True) (s:=s) (by simpa using hh) λh' hk e z=>u e _ z (n rfl h' λb C D G=>hk b C ?_);rw[RU _ _ _ _ D];show G
def ED{I S T:gi}{i ep:Nat}{es:Array (Int×dV)}{t:RZ}{pl:List Nat}{Q:Option dV->gj->Prop}(a:ip s.heap I (.ref T) i S es.size ep)(ho:s.heap.get? S=a0 (pL es ep t))(l:t.fits es.size=b5)(hh:A.handled=bD)
  (q:s.heap.IsTuple T ((pl.map λ(j:Nat)=>I0 j).toArray))
  (r:∀(j:Nat) (e:Int×dV),pl[i]?=a0 j->es[j]?=a0 e->∀h',ip h' I (.ref T) (i+1) S es.size ep->sx I s.heap h'->Q (a0 e.2) {s with heap:=h' })
  (u:∀j∈pl,j<es.size)
  (v:pl[i]?=bD->∀h',(∀b o,b≠I->s.heap.get? b=a0 o->h'.get? b=a0 o)->Q bD {s with heap:=h' }):eW (hJ prog w) A (Ta (.ref I)) Q E s:=by
 show uU a ho l λQ' N x y=>?_;have(o,c,m,d):=id a;have(O,z,B,Y,C):=q;change eW _ _ (ħ (.ref T) >>= _) _ _ s;show a5 (KX z C ?_);cases e:pl[i]? with
 |some j =>
  have f:(pl.map λ(j:Nat)=>I0 j).toArray[i]?=a0 (I0 j):=by simp[e]
  simp only[f];have g:j<es.size:=u j (lg e);have h:es[j]?=a0 (es[j]'g):=by simp[g]
  change eW _ _ (ı S (j:Int).toNat ep >>= _) _ _ s;unfold ı;rw[OU];show a5 (a5 (qs ho rfl l ?_))
  dsimp only
  rw[Ϧ (by simp)];generalize es[j]'g=p at h;simp only[h];show cL ?_;show a5 (Qb c d (by simp) ?_);show cL (x _ _ (r j p e h _ (uV (f':=.ref T) c m d) (Mu ..)))
 |none =>
  have f:(pl.map λ(j:Nat)=>I0 j).toArray[i]?=bD:=by simp at e ⊢;show e
  simp only[f];show a5 (Qb c d (by simp) ?_);have(o',D,e2,G):=ra (f':=I0 0) c m d;show a5 (Qb (s:={s with heap:=_}) D G (by simp) ?_);show q_ (I:=I) (k:=λ_=>pure bD) (Q:=λ_ _=>True) (s:=s) (by simpa using hh) λh' hk ex H=>y ex _ H (v e h' λb J n L=>hk b J ?_);rw[RU _ _ _ _ n,RU _ _ _ _ n];show L
end
section
def ip.at(x:ip h I f i S n ep)(e:∀o,h.get? I=a0 o->h'.get? I=a0 o):ip h' I f i S n ep:=let ⟨o,ho,r⟩:=x;⟨o,e _ ho,r⟩
def lM(hh:A.handled=bD)(n:S≠I)(r:t.fits es.size=b5)(T:gi)(p:T≠I)(c:List dV)(k:c.length=es.size)
  (first:Nat->dV) (a:Mt->Prop) (l:∀h h',a h->(∀o,h.get? T=a0 o->h'.get? T=a0 o)->a h')
  (m:∀(s:gj) (i:Nat) (E:dV->gj->Prop) (Q:Option dV->gj->Prop),i<=es.size->a s.heap->ip s.heap I (first i) i S es.size ep->s.heap.get? S=a0 (pL es ep t) ->
   (∀x,c[i]?=a0 x->∀h',ip h' I (first (i+1)) (i+1) S es.size ep->sx I s.heap h'->Q (a0 x) {s with heap:=h' }) ->
   (c[i]?=bD->∀h',(∀b o,b≠I->s.heap.get? b=a0 o->h'.get? b=a0 o)->Q bD {s with heap:=h' })->eW (hJ prog w) A (Ta (.ref I)) Q E s) :
  Walks prog w A I [I,S,T] [I] es.size (λi v=>c[i]?=a0 v) (λi h=>i<=es.size/\ip h I (first i) i S es.size ep/\h.get? S=a0 (pL es ep t)/\a h) where
 sub:=λb d=>by rw[kj.mp d];simp
 frame:=λi h h' x hk=>#[x.1,x.2.1.at λo e=>hk I (by simp) o e,hk S (by simp) _ x.2.2.1,l h h' x.2.2.2 λo e=>hk T (by simp) o e]
 item:=λi s Q E q x f=>by
  show m s i E Q x.1 x.2.2.2 x.2.1 x.2.2.1 (λv g h' j hs=>?_) λz=>absurd z (by simp;lia);show f v h' s.toks g #[q,j,?_,l _ h' x.2.2.2 λo e=>?_] λb o d e=>?_
  .rw[hs.2 S n];show x.2.2.1
  .rw[hs.2 T p];show e
  .rw[hs.2 b λz=>d (by simp[z])];show e
 done:=λs Q E x f=>by
  show m s es.size E Q x.1 x.2.2.2 x.2.1 x.2.2.1 (λv g=>absurd g (by rw[Ti ⋯];simp)) λ_ h' hk=>f h' s.toks λb o d e=>hk b o (λz=>d (by simp[z])) e
 self:=λi s Q E x f=>BI x.2.1 f
def pM(ho:s.heap.get? S=a0 (pL es ep t))(a:t.fits es.size=b5)(h:Q (!w.params.followText "set-order"&&(!t.plain&&df (es.size>1))) s):eW (hJ prog w) A (setDrawn S) Q E s:=by
 unfold setDrawn;show a5 (qs ho rfl a ?_)
 dsimp only
 show a5 (cQ (cL h))
def pN(a:w.params.followText "set-order"=b5)(ho:s.heap.get? S=a0 (pL es ep t))(b:t.fits es.size=b5)
  (h:Q ((Ý (w.params.setOrder S ep) es)[i]?.map λe=>(e.2,0)) s):eW (hJ prog w) A (Ç S 0 i ep) Q E s:=by
 unfold Ç;show a5 (qs ho rfl b ?_)
 dsimp only
 show a5 (cQ ?_);change eW _ _ (if (w.params.followText "set-order")=b5 then _ else _) _ _ s;rw[ϥ a];rw[Ϧ (by simp)];unfold setWalk;show a5 (a5 (qs ho rfl b ?_))
 dsimp only
 show a5 (cQ ?_);change eW _ _ (if (w.params.followText "set-order")=b5 then _ else _) _ _ s;rw[ϥ a];show a5 (Ul (cL ?_));show cL h
theorem rb(hw:w.params.followText "set-order"=cb)(ho:s.heap.get? S=a0 (pL es ep t))(hf:t.fits es.size=b5)(hl:t.led=b5)(h1:es.size<=1)
    (h:Q (match es[OV t.place slot]?,t.place[OV t.place slot]? with|some (_,x),a0 j=>a0 (x,j+1)|_,_=>bD) s):eW (hJ prog w) A (Ç S slot i ep) Q E s:=by
  unfold Ç;refine a5 (qs ho rfl hf ?_)
  dsimp only
  refine a5 (cQ ?_);show eW _ _ (if (w.params.followText "set-order")=b5 then _ else _) _ _ s;rw[Ϧ (by rw[hw];simp)];show eW _ _ (if (!t.plain&&df (es.size>1))=b5 then _ else _) _ _ s
  rw [if_neg (by have : decide (es.size > 1) = false := decide_eq_false (by lia)
                 rw[this];simp)]
  show eW _ _ ((if (!t.led&&!es.isEmpty)=b5 then _ else _) >>= _) _ _ s;rw[Ϧ (by rw[hl];simp)];exact a5 (cL (cL h))
def rf(es:Array (Int×dV))(pl:Array Nat)(i:Nat)(b:es.size<=1)(c:pl.size=es.size)(a:i<=es.size):
  (match es[OV pl (if i=0 then 0 else(pl[0]?).getD 0+1)]?,pl[OV pl (if i=0 then 0 else(pl[0]?).getD 0+1)]? with|some (_,x),a0 j=>a0 (x,j+1)|_,_=>bD)=es[i]?.map λe=>(e.2,(pl[0]?).getD 0+1):=by
 have⟨es⟩:=es;have⟨pl⟩:=pl
 match es,pl,b,c,a with
 |[],[],_,_,a=>simp
 |[e],[p],_,_,a =>
  match i,a with
  |0,_ =>
   have:OV #v[p] 0=0:=by simp[OV,Ð]
   simp[this]
  |1,_ =>
   have:OV #v[p] (p+1)=1:=by simp[OV,Ð]
   simp[this]
  |n+2,h=>simp at h
 |[],_::_,_,h,_=>simp at h
 |[_],[],_,h,_=>simp at h
 |[_],_::_::_,_,h,_=>simp at h
 |_::_::_,_,h,_,_=>simp at h
def yO(hh:B.handled=bD)(hS:aU prog w s.heap S (aJ w) D)
  (h:∀(I:gi) (fp:List gi) (n:Nat) (P:Nat->dV->Prop) (St:Nat->Mt->Prop) (c:List Str) (h':Mt) (d':Drawn),Walks prog w B I fp [I] n P St->c.Perm D->n=c.length->(∀i v,P i v->∃x O,c[i]?=a0 x/\v=.str x O)->s.heap.objs.size<=I->(∀b∈fp,b=S\/s.heap.objs.size<=b)->St 0 h' ->
   (∀b o,s.heap.get? b=a0 o->h'.get? b=a0 o)->Q (.ref I) {s with heap:=h',drawn:=d' }):eW (hJ prog w) A (ý (.ref S)) Q E s:=by
 have(L,es,ep,t,ho,J3,T,Jk,a,d,J5,JN):=hS;have Wb:s.TypeIs (.ref S) "set":=#[_,ho,rfl]
 have Y:S<s.heap.objs.size:=fS ho;show Ο Wb PySem.F.slot_set_iter (D' PySem.F.slot_set_iter Wb SI.lL ?_ (PySem.F.args_set_iter_1 _));unfold OB.«frozenset.__iter__» š slotArgs;simp only[List.isEmpty_nil,Oh,sL,↓reduceIte,bind_assoc,WA,bne_self_eq_false];unfold XO Tf;show a5 (cL ?_)
 try dsimp only
 show a5 (cL ?_);show a5 (a5 (Vy ho rfl a (cL ?_)));have RM:D.length=es.size:=by rw[<-T.length_eq,cK,<-ki,J3,cK]
 have f:∀(l:List (Int×dV)),l.Perm es.toList->∃c:List Str,c.Perm D/\c.length=es.size/\∀(i:Nat) (v:dV),(l.map (·.2))[i]?=a0 v->∃(x:Str) (O:Tok),c[i]?=a0 x/\v=ux x O:=by
  intro l hl;rw[J3]at hl;have(L',e',p'):=c9 hl;show#[L'.map (·.1),(p'.map _).trans T,by rw[((p'.map _).trans T).length_eq,RM],λi v C=>?_];subst e';rw[fx,i5]at C;rw[i5];cases q:L'[i]? with
  |none=>rw[q]at C;simp at C
  |some p=>rw[q]at C;simp at C;show#[p.1,p.2,rfl,C.symm]
 show a5 (pM ho a ?_);cases hw:w.params.followText "set-order" with
 |true =>
  simp only[Oh,Ú,sL,↓reduceIte];show a5 (cL ?_);show a5 (a5 (qs ho rfl a (cL ?_)));show a5 (LN ?_);have m:S≠s.heap.objs.size:=gr Y;have(c,G,H,J):=f (Ý (w.params.setOrder S ep) es).toList (dX _ _);have W:=lM (prog:=prog) (w:=w) (A:=B) (I:=s.heap.objs.size) (S:=S) (es:=es) (ep:=ep) (t:=t) hh m a S m ((Ý (w.params.setOrder S ep) es).toList.map (·.2)) (by rw[cK,(dX _ _).length_eq,ki]) (λ_=>I0 0) (λ_=>True) (λ_ _ _ _=>trivial)
   (λs i E Q _ _ g u k1 k2=>yN (slot:=0) g u a hh (λB E' Q' q=>pN hw u a q) (λx nx e h' N hs=>by
    rw[ez]at e;have(p,y,e2):=e;cases e2;show k1 _ (by rw[i5,vu,y];rfl) h' N hs) (λe=>k2 (by rw[i5,vu,Wd];rwa [Wd]at e)))
  show cL #[_,rfl,"set_iterator",_,#[_,f6 _ rfl,rfl],SI.slot_next.lookup,?_];show h _ _ _ _ _ c _ s.drawn W G H.symm J (i4 _) (λb d=>by
   simp only[fR,rz,or_false]at d;rcases d with rfl|rfl|rfl
   .show .inr (i4 _)
   .show .inl rfl
   .show .inl rfl) ⟨nH _,⟨_,f6 _ rfl,rfl,rfl⟩,b6 _ ho,trivial⟩ λb o e=>b6 _ e
 |false =>
  by_cases hsz:es.size>1
  .have J':t.plain=cb:=by
    rcases JN with z|z
    .lia
    .show z
   have y:(!cb&&(!t.plain&&df (es.size>1)))=b5:=by rw[J',Ϩ hsz];rfl
   rw[y];simp only[↓reduceIte];show a5 (gZ _ _ _ _ QJ λpl d' hp=>?_);simp only[ϛ];have Nc:∀j∈pl,j<es.size:=λj hj=>by have:=hp.mem_iff.mp hj;simpa using this
   have Qv:pl.length=es.size:=by rw[hp.length_eq];simp
   show a5 (LN ?_ (by
    change(pl.map λ(j:Nat)=>I0 j).toArray.size<=_;have:es.size<4096:=d;simp only[ko,cK,Qv];have:(4096:Nat)<=dt:=by decide
    lia))
   have Le:(s.heap.push {cls:=.type "tuple",data:=.seq (pl.map λ(j:Nat)=>I0 j).toArray}).get? S=a0 (pL es ep t):=b6 _ ho;show a5 (a5 (qs (s:={s with heap:=_,drawn:=d' }) Le rfl a (cL ?_)));show a5 (LN ?_);have YE:s.heap.objs.size≠(s.heap.push {cls:=.type "tuple",data:=.seq (pl.map λ(j:Nat)=>I0 j).toArray}).objs.size:=by rw[MA];show gr (RO _)
   have m:S≠(s.heap.push {cls:=.type "tuple",data:=.seq (pl.map λ(j:Nat)=>I0 j).toArray}).objs.size:=by rw[MA];show gr (Ng Y)
   have OA:(pl.map λj=>(es[j]?).getD (0,qp)).Perm es.toList:=by
    show(hp.map _).trans ?_;have:(hH es.size).map (λj=>(es[j]?).getD (0,qp))=es.toList:=by
     apply Om
     .simp
     .intro i h1 h2;simp at h1 ⊢;simp[h1]
    rw[this]
   have(c,G,H,J):=f _ OA;have W:=lM (prog:=prog) (w:=w) (A:=B) (I:=(s.heap.push {cls:=.type "tuple",data:=.seq (pl.map λ(j:Nat)=>I0 j).toArray}).objs.size) (S:=S) (es:=es) (ep:=ep) (t:=t) hh m a s.heap.objs.size YE ((pl.map λj=>(es[j]?).getD (0,qp)).map (·.2)) (by simp[Qv]) (λ_=>.ref s.heap.objs.size) (λh=>h.IsTuple s.heap.objs.size (pl.map λ(j:Nat)=>I0 j).toArray) (λh h' ⟨o,ho,r⟩ k=>#[o,k _ ho,r])
    (λs' i E Q _ LU g u k1 k2=>ED g u a hh LU (λj e ej ee h' N hs=>k1 _ (by rw[i5,i5,ej];simp[ee]) h' N hs) Nc (λe=>k2 (by rw[i5,i5,e];rfl)))
   show cL #[_,rfl,"set_iterator",_,#[_,f6 _ rfl,rfl],SI.slot_next.lookup,?_];show h _ _ _ _ _ c _ d' W G H.symm J (by rw[MA];show Oi _) (λb d=>?_) ⟨nH _,⟨_,f6 _ rfl,rfl,rfl⟩,b6 _ Le,⟨_,b6 _ (f6 _ rfl),rfl,_,rfl⟩⟩ λb o e=>b6 _ (b6 _ e);rw[MA]at d;simp only[fR,rz,or_false]at d;rcases d with rfl|rfl|rfl
   .show .inr (Oi _)
   .show .inl rfl
   .show .inr (i4 _)
  .have y:(!cb&&(!t.plain&&df (es.size>1)))=cb:=by rw[ϧ hsz];simp
   rw[y];simp only[sL,↓reduceIte];show a5 (cL ?_);show a5 (a5 (qs ho rfl a (cL ?_)));show a5 (LN ?_);have m:S≠s.heap.objs.size:=gr Y;have YF:t.led=b5:=by rw[J5];change(!w.params.followText "set-order")=b5;rw[hw];rfl
   have(c,G,H,J):=f es.toList (.refl _);have Lu:t.place.size=es.size:=by
    unfold UW at a;simp only[du,beq_iff_eq]at a;show a.1
   have W:=lM (prog:=prog) (w:=w) (A:=B) (I:=s.heap.objs.size) (S:=S) (es:=es) (ep:=ep) (t:=t) hh m a S m (es.toList.map (·.2)) (by simp) (λi=>I0 ((if i=0 then 0 else(t.place[0]?).getD 0+1:Nat):Nat)) (λ_=>True) (λ_ _ _ _=>trivial)
    (λs' i E Q hi _ g u k1 k2=>yN (slot:=if i=0 then 0 else(t.place[0]?).getD 0+1) g u a hh (λB E' Q' q=>rb hw u a YF ⋯ q) (λx nx e h' N hs=>by
     rw[rf es t.place i ⋯ Lu hi,ez]at e;have(p,y,e2):=e;cases e2;show k1 _ (by rw[i5,vu,y];rfl) h' ?_ hs;rw[Ϧ (Nat.succ_ne_zero i)];show N) (λe=>by
     rw[rf es t.place i ⋯ Lu hi,Wd]at e;show k2 (by rw[i5,vu,e];rfl)))
   show cL #[_,rfl,"set_iterator",_,#[_,f6 _ rfl,rfl],SI.slot_next.lookup,?_];show h _ _ _ _ _ c _ s.drawn W G H.symm J (i4 _) (λb d=>by
    simp only[fR,rz,or_false]at d;rcases d with rfl|rfl|rfl
    .show .inr (i4 _)
    .show .inl rfl
    .show .inl rfl) ⟨nH _,⟨_,f6 _ rfl,rfl,rfl⟩,b6 _ ho,trivial⟩ λb o e=>b6 _ e
end
def rg:Xo (.type "set") "__len__"=pure (a0 (.builtin "set.__len__")):=by rw[Ve,Q_];kernel_rfl
section
theorem lN:∀{vs:List dV}{a:List Str},vs.length=a.length->(∀(i:Nat) (v:dV),vs[i]?=a0 v->∃x t,a[i]?=a0 x/\v=.str x t)->Tv vs a
 |[],[],_,_=>.nil
 |[],_::_,h,_=>by simp at h
 |_::_,[],h,_=>by simp at h
 |v::vs,y::a,h,k=>by
  have(x,t,b,c):=k 0 v rfl;cases b;subst c;show .cons y t (lN (by simpa using h) λi w d=>k (i+1) w d)
def rh(hh:A.handled=bD)(N:aU prog w s.heap S (aJ w) D)(O:D.length<=dt)
  (T:∀(vs:List dV) (d:List Str) (h':Mt) (d':Drawn) (j:Nat),d.Perm D->Tv vs d->s.heap.objs.size<=h'.objs.size->s.toks<=j->(∀b o,s.heap.get? b=a0 o->h'.get? b=a0 o)->Q vs {s with heap:=h',drawn:=d',toks:=j}) :
  eW (hJ prog w) A (ĳ (.ref S)) Q E s:=by
 have(L,es,ep,t,ho,c):=id N;have Y:S<s.heap.objs.size:=fS ho;unfold ĳ;show a5 (ú (MZ PySem.F.entry_proto_collect ?_));rw[M6 PySem.F.plain_proto_collect _];change eW _ A.in1 (Υ [] >>= λl=>Ϡ (.builtin "list.__iadd__" ⟨[l,.ref S],[]⟩)) _ _ s;show a5 (LN ?_);show cL #[SM PySem.F.plain_list_iadd _,MZ PySem.F.entry_list_iadd ?_];rw[M6 PySem.F.plain_list_iadd _];have g:(s.heap.push {cls:=.type "list",data:=.seq ([]:List dV).toArray}).get? S=a0 {cls:=.type "set",dict:=bD,data:=.set es ep t}:=b6 _ ho;have hT:VD {s with heap:=s.heap.push {cls:=.type "list",data:=.seq ([]:List dV).toArray}} (.ref S) "set":=#[_,g,rfl]
 change eW _ A.in1 (y4 (.ref s.heap.objs.size) (.ref S) (.ref s.heap.objs.size)) _ _ _;unfold y4;show a5 (VH hT ?_);have k:s.heap.objs.size≠S:=va Y;have h1:QK (.ref s.heap.objs.size) (.ref S)=cb:=by simp[QK,k]
 have h2:(Ly "set"==Ly "list")=cb:=by decide
 have h3:(Ly "set"==Ly "tuple")=cb:=by decide
 simp only[h1,h2,h3,V_,sL,if_false];show a5 (yO (B:=A.in1) (by simpa using hh) #[L,es,ep,t,g,c] ?_);intro I fp n P St d h' d' W m p hP q T6 Jo hk;have h:VD {s with heap:=h',drawn:=d' } (.ref S) "set":=#[_,hk _ _ g,rfl]
 show a5 (tv ?_);unfold Yh;show a5 (OW h rg ?_);have Lb:splitId "set.__len__"=a0 ("set","__len__"):=by decide +kernel
 dsimp only
 rw[Lb]
 dsimp only
 show a5 (LA h Æ ?_);rw[Ϧ (by decide)];rw[ϥ (by decide +kernel)];show a5 (VH h ?_);show cL ?_;rw[ϥ (by decide +kernel)];have r:s.heap.objs.size∉fp:=λa=>by
  rcases T6 _ a with z|z
  .show k z
  .rw[MA]at z;show absurd z (Nat.not_succ_le_self _)
 have u:h'.get? s.heap.objs.size=a0 {cls:=.type "list",data:=.seq ([]:List dV).toArray}:=hk _ _ (f6 _ rfl);show a5 (Nb ?_);show a5 ?_;change eW _ A.in1 (π s.heap.objs.size (·.push .none) >>= λ_=>π s.heap.objs.size (·.pop)) _ _ _;show a5 (Vd u rfl ?_);have x:=H0 (td (·.push qp)) u rfl;show Vd x rfl ?_;have YG:=H0 (td (·.pop)) x rfl;have y:∀b o,b≠s.heap.objs.size->h'.get? b=a0 o->((h'.update s.heap.objs.size (td (·.push qp))).update s.heap.objs.size (td (·.pop))).get? b=a0 o :=
  λb o f e=>(P6 _ _ (uv f)).trans ((P6 _ _ (uv f)).trans e)
 show cL #[SM PySem.F.plain_extend_loop _,Ś W.toS (by rw[p,m.length_eq];show O) _ r _ n 0 _ _ _ rfl (nH _) (W.frame 0 h' _ Jo λb f o e=>y b o (λz=>r (z▸f)) e) YG (ű P) λs' J6 c' a C G=>?_];change eW _ A (load s.heap.objs.size >>= _) _ _ s';show a5 (ż C ?_);have(L7,g2,H,T8,YH):=s';have eg:g2=s.gens:=a.gens;have ed:H=d':=a.drawn;have eo:YH=s.os:=a.os;subst eg;subst ed;subst eo;show cL (T _ d L7 H T8 m (lN (by rw[ki,G.1,p]) λi v hv=>hP i v (G.2 i v (by rwa [vu]at hv))) (OE (fS C)) a.toks λb o e=>?_);have J:b≠s.heap.objs.size:=λz=>by rw[z]at e;show absurd (fS e) (ve _)
 show a.heap b o (λz=>?_) (y b o J (hk _ _ (b6 _ e)));rcases fR.mp z with z|z
 .show J z
 .rw[kj.mp z]at e;have:=fS e;rw[MA]at q;show absurd (l' this (K' (Oi _) q)) (ve _)
end
section
def Inv.drawn(I:Inv X a σ H s)(d:Drawn):Inv X a σ H {s with drawn:=d}:=#[I.ok,I.os,I.bare,I.base,I.loc,I.cell,I.free,I.JX,I.pin,I.Jg,I.len]
def pO(i:X.calm=b5)(I:Inv X c σ H s)(hq:JG X.K H p (d.map V.str)\/JH X.K H p (d.map V.str))(g:d.length+1<MB)
  (h:∀(S:gi) (h':Mt) (a:Nat),aU X.prog X.w h' S (aJ X.w) (aE d)->Inv X c σ H {s with heap:=h',toks:=a}->Q (.ref S) {s with heap:=h',toks:=a}) :
  eW (hJ X.prog X.w) X.A (QI (.type "set") [.ref p]) Q X.xe s:=by
 have hh:X.A.handled=bD:=I.ok.hd i;rcases hq with hq|hq
 .have(its,rv,pl,hz):=I.list hq;show fU hh pl.isList (cP rv) g λh' a f k=>h _ h' a f (I.kept λb o e=>k b o (fS e) e)
 .have(its,rv,pl,hz):=I.tuple hq;show gY hh pl (cP rv) g λh' a f k=>h _ h' a f (I.kept λb o e=>k b o (fS e) e)
def g_(i:X.calm=b5)(I:Inv X a σ H s)(j:aU X.prog X.w s.heap S (aJ X.w) D)(d:D.length<64)
  (q:∀p,H p=bD->Q (.ref p) (upd H p (.lst ((aC D).map V.str)))):eW (hJ X.prog X.w) X.A (QI (.builtin "sorted") [.ref S]) (EP X a σ Q) X.xe s:=by
 have hh:X.A.handled=bD:=I.ok.hd i;have hl:D.length<=dt:=OE (l' d (by decide));show fg (rh (A:=X.A.in1) (by simpa using hh) j hl λvs k h' d' b f g hsz n hk=>#[k,g,by rw[iR g,f.length_eq];show d,λr l e k2 c s2=>?_]);rw[fT f]at s2;have m:Inv X a σ H {s with heap:=h',toks:=b}:=I.kept (t':=b) hk;have h:Inv X a σ H {s with heap:=h',drawn:=d',toks:=b}:=m.drawn d';show#[.ref h'.objs.size,_,h.laid (t':=b) (o:=.lst ((aC D).map V.str)) k2 (i4 _) #[by rw[cK,bX];show hl,l,e,dN s2,c],rfl,q _ (h.Jg.fresh (i4 _))]
def tf(I:Inv X a σ H s)(c:aU X.prog X.w s.heap S (aJ X.w) D)
  (q:Q (.int D.length) H):eW (hJ X.prog X.w) X.A (QI (.builtin "len") [.ref S]) (EP X a σ Q) X.xe s:=by
 have(L,es,ep,t,ho,d,g,j,h,i,k,l):=c;have b:es.size=D.length:=by rw[<-ki,d,cK,<-cK (f:=Ŵ) (as:=L),g.length_eq]
 have m:es.size<4096:=i;show call_len_set ho #[rfl,rfl,rfl] rfl h ⋯ ?_;show#[.int es.size,_,I.kept (t':=s.toks+1+1) (λ_ _ e=>e),#[_,rfl],by rw[b];show q]
end
end L2
namespace L2
open PySem
abbrev dY(mask:Nat):Nat->Nat×Nat->Nat×Nat
 |0,q=>q
 |t+1,q=>dY mask t (Ĵ mask q.1 q.2)
theorem nW(mask:Nat):∀(a b:Nat) (q:Nat×Nat),dY mask (a+b) q=dY mask b (dY mask a q)
 |0,b,q=>by rw[Rt];rfl
 |a+1,b,q=>by rw[show a+1+b=(a+b)+1 by lia];show nW mask a b _
theorem nX(mask:Nat):∀(t:Nat) (q:Nat×Nat),(dY mask t q).2=q.2 / 32 ^ t
 |0,q=>by simp[dY]
 |t+1,q=>by
  change(dY mask t (Ĵ mask q.1 q.2)).2=_;rw[nX mask t];change q.2 / 32 / 32 ^ t=_;rw[Nat.div_div_eq_div_mul,Nat.pow_succ,Nat.mul_comm]
theorem rj(mask:Nat):∀(t:Nat) (q:Nat×Nat),q.1<mask+1->(dY mask t q).1<mask+1
 |0,q,h=>h
 |t+1,q,h=>rj mask t _ (Wy _ (ć _))
abbrev MM(m:Nat):Nat->Nat->Nat
 |0,i=>i
 |t+1,i=>MM m t ((i * 5+1) % m)
theorem nY(mask:Nat):∀(t i:Nat),dY mask t (i,0)=(MM (mask+1) t i,0)
 |0,i=>rfl
 |t+1,i=>by
  change dY mask t ((i * 5+1+0 / 32) % (mask+1),0 / 32)=(MM (mask+1) t ((i * 5+1) % (mask+1)),0)
  rw[Nat.zero_div,ω];show nY mask t _
theorem kM(m:Nat):∀(a b i:Nat),MM m (a+b) i=MM m b (MM m a i)
 |0,b,i=>by rw[Rt];rfl
 |a+1,b,i=>by rw[show a+1+b=(a+b)+1 by lia];show kM m a b _
abbrev xg(m:Nat):Nat->Nat->List Nat
 |0,_=>[]
 |t+1,i=>i::xg m t ((i * 5+1) % m)
theorem uW(m:Nat):∀(n i t:Nat),t<n->(xg m n i)[t]?=a0 (MM m t i)
 |0,_,_,h=>by lia
 |n+1,i,0,_=>rfl
 |n+1,i,t+1,h=>by
  change(xg m n ((i * 5+1) % m))[t]?=_;show uW m n _ t ⋯
theorem rm(m:Nat):∀(n i:Nat),(xg m n i).length=n
 |0,_=>rfl
 |n+1,i=>by change(xg m n _).length+1=_;rw[rm m n]
abbrev Full(m:Nat):Bool:=(hH m).all (λj=>(xg m m 0).contains j)&&(MM m m 0==0)
def Du:Full 8=b5:=by decide +kernel
def yP:Full 16=b5:=by decide +kernel
def yQ:Full 32=b5:=by decide +kernel
def yR:Full 64=b5:=by decide +kernel
def uX:Full 128=b5:=by decide +kernel
def xh(h:Full m=b5)(l:i<m)(n:j<m):∃t,t<m/\MM m t i=j:=by
 unfold Full at h;rw[du,oT]at h;have(o,d):=h;have d:MM m m 0=0:=by simpa using d
 have get:∀k,k<m->∃a,a<m/\MM m a 0=k:=λk hk=>by
  have:=o k (Jl.mpr hk);rw[List.contains_iff_mem]at this;have(a,c):=WK.mp this;have e:a<m:=by have:=(et.mp c).1;rw[rm]at this;show this
  rw[uW m m 0 a e]at c;show#[a,e,by simpa using c]
 have(a,c,f):=get i l;have(b,p,g):=get j n;by_cases q:a<=b
 .show#[b - a,⋯,by rw[<-f,<-kM,show a+(b - a)=b by lia,g]]
 .show#[m - a+b,⋯,?_];rw[<-f,<-kM,show a+(m - a+b)=m+b by lia,kM,d,g]
theorem nZ:∀(f i p:Nat),JD mask owner f i p=bD->∀t,t<f->(owner.getD (dY mask t (i,p)).1 (a0 0)).isNone=cb
 |0,_,_,_,t,h=>by lia
 |f+1,i,p,h,t,b=>by
  unfold JD at h;cases a:(hH (Y2 mask i+1 - i)).find? (λk=>(owner.getD (i+k) (a0 0)).isNone) with
  |some k=>rw[a]at h;cases h
  |none =>
   rw[a]at h;cases t with
   |zero =>
    have:=List.find?_eq_none.mp a 0 (Jl.mpr (by unfold Y2;split<;>lia));rw[ω]at this;change(owner.getD i (a0 0)).isNone=cb;cases e:(owner.getD i (a0 0)).isNone with
    |false=>rfl
    |true=>show absurd e this
   |succ t=>show nZ f _ _ h t ⋯
theorem n9:∀(f i p j:Nat),JD mask owner f i p=a0 j->owner[j]?=a0 bD
 |0,_,_,_,h=>by cases h
 |f+1,i,p,j,h=>by
  unfold JD at h;cases b:(hH (Y2 mask i+1 - i)).find? (λk=>(owner.getD (i+k) (a0 0)).isNone) with
  |some k =>
   rw[b]at h;cases h;have a:=List.find?_some b;have c:i+k<owner.size:=by
    show uk λz=>?_;have:owner.getD (i+k) (a0 0)=a0 0:=by simp[Ym,z]
    rw[this]at a;cases a
   have d:owner.getD (i+k) (a0 0)=owner[i+k]:=by simp[Ym,c]
   rw[d]at a;rw[Rm c];cases e:owner[i+k] with
   |none=>rfl
   |some _=>rw[e]at a;cases a
  |none =>
   rw[b]at h;show n9 f _ _ j h
def BJ(c:Full (mask+1)=b5){j0:Nat}(a:owner[j0]?=a0 bD)(hsz:owner.size=mask+1)(d:i<mask+1)(f:p<2 ^ 64):∃j,JD mask owner (T4 mask) i p=a0 j/\owner[j]?=a0 bD:=by
 cases e:JD mask owner (T4 mask) i p with
 |some j=>show#[j,rfl,n9 _ _ _ _ e]
 |none =>
  have g:j0<mask+1:=by rw[<-hsz];show(Array.getElem?_eq_some_iff.mp a).1
  have h:(dY mask 13 (i,p)).2=0:=by
   rw[nX];show Nat.div_eq_of_lt (RC f (by decide))
  have(t,n,k):=xh c (rj mask 13 (i,p) d) g;have l:dY mask (13+t) (i,p)=(j0,0):=by
   rw[nW,show dY mask 13 (i,p)=((dY mask 13 (i,p)).1,0) from Ù rfl h,nY,k]
  have:=nZ _ _ _ e (13+t) (by unfold T4;lia);rw[l]at this;have m:owner.getD j0 (a0 0)=bD:=by
   have b:j0<owner.size:=by lia
   rw[Rm b]at a;simp[Ym,b];show tA a
  rw[m]at this;cases this
abbrev vals(L:List (Option Nat)):List Nat:=L.filterMap id
theorem rn:∀{L:List (Option Nat)}{j:Nat},L[j]?=a0 bD->(vals (L.set j (a0 k))).Perm (k::vals L)
 |[],j,h=>by simp at h
 |x::L,0,h=>by
  have:x=bD:=by simpa using h
  subst this;show OO _
 |x::L,j+1,h=>by
  have a:=rn (k:=k) (L:=L) (j:=j) (by simpa using h);cases x with
  |none=>show a
  |some y =>
   change(y::vals (L.set j (a0 k))).Perm (k::y::vals L);show(ĥ y a).trans (Ĥ k y _)
theorem n_:∀{L:List (Option Nat)},(vals L).length<L.length->∃j:Nat,L[j]?=a0 bD
 |[],h=>by simp at h
 |none::L,_=>#[0,rfl]
 |some y::L,h=>by
  have(j,a):=n_ (L:=L) (by
   have:(vals L).length+1<L.length+1:=h;lia)
  show#[j+1,by simpa using a]
theorem yS(f:Full (mask+1)=b5):∀(hs:List Int) (owner:Array (Option Nat)) (k:Nat),owner.size=mask+1->(vals owner.toList).Perm (hH k)->k+hs.length<=mask ->
  ∃c,hs.foldl (λd h=>do
   let (owner,k) <-d
   let j <-JD mask owner (T4 mask) (Ra h % (mask+1)) (Ra h)
   pure (owner.setIfInBounds j (a0 k),k+1)) (a0 (owner,k))=a0 (c,k+hs.length)/\c.size=mask+1/\(vals c.toList).Perm (hH (k+hs.length))
 |[],owner,k,a,b,_=>#[owner,rfl,a,b]
 |h::hs,owner,k,a,b,g=>by
  rw[mx]at g;have(j0,l):=n_ (L:=owner.toList) (by rw[b.length_eq,QJ,ki];lia);have(j,e,m):=BJ f (owner:=owner) (j0:=j0) (by rw[<-vu];show l) a (i:=Ra h % (mask+1)) (p:=Ra h) (Wy _ (ć _)) (by unfold Ra;lia);have n:owner.toList[j]?=a0 bD:=by rw[vu];show m
  have o:(vals (owner.setIfInBounds j (a0 k)).toList).Perm (hH (k+1)):=by
   rw[Array.toList_setIfInBounds,Ũ];show(rn n).trans ((ĥ k b).trans (List.perm_append_singleton k _).symm)
  have(o',q,r,s):=yS f hs (owner.setIfInBounds j (a0 k)) (k+1) (by rw[Array.size_setIfInBounds];show a) o ⋯;show#[o',?_,r,by rw[show k+(h::hs).length=k+1+hs.length by simp;lia];show s];rw[WB,show k+(h::hs).length=k+1+hs.length by simp;lia,<-q];congr 1
  change(JD mask owner (T4 mask) (Ra h % (mask+1)) (Ra h)).bind _=_;rw[e];rfl
def tm(L:List (Option Nat)):(hH L.length).filterMap (λj=>L.getD j bD)=vals L:=by
 have h:(hH L.length).map (λj=>L.getD j bD)=L:=by
  apply Om
  .simp
  .intro i b a;simp[M0,a]
 have a:vals ((hH L.length).map (λj=>L.getD j bD))=vals L:=ϩ vals h;unfold vals at a;rw[List.filterMap_map]at a;show a
def uY{led plain:Bool}(e:Full (mask+1)=b5)(f:hs.size<=mask):∃t a,WV mask finger moves led plain hs=a0 (t,a)/\t.fits hs.size=b5/\t.led=led/\t.plain=plain/\t.mask=mask/\t.dummies=#v[]/\a.toList.Perm (hH hs.size):=by
 have(owner,c,g,b):=yS e hs.toList (Array.replicate (mask+1) bD) 0 (by simp) (by
  have:∀n:Nat,vals (lx n bD)=[]:=λn=>by
   induction n with
   |zero=>rfl
   |succ n h=>rw[List.replicate_succ];show h
  rw[Array.toList_replicate,this];show OO _) (by rw[ki];lia)
 rw[Rt,ki]at c b;have i:US mask hs=a0 owner:=by
  unfold US;rw[<-Array.foldl_toList];rw[c];rfl
 have k:((hH (mask+1)).filterMap λj=>owner.getD j bD)=vals owner.toList:=by
  rw[<-tm,ki,g];congr 1
  funext j
  simp only[Array.getD_eq_getD_getElem?,List.getD_eq_getElem?_getD,vu]
 have d:(((hH (mask+1)).filterMap λj=>(owner.getD j bD).map (j,·)).map (·.2))=vals owner.toList:=by
  rw[<-k,List.map_filterMap];congr 1
  funext j
  cases owner.getD j bD<;>rfl
 have hl:((hH (mask+1)).filterMap λj=>(owner.getD j bD).map (j,·)).length=hs.size:=by
  have:=ϩ DD d;rw[cK,b.length_eq,QJ]at this;show this
 show#[_,_,by unfold WV;rw[i];rfl,?_,rfl,rfl,rfl,rfl,?_]
 .unfold UW Z_;simp only[ko,cK,hl];simp;show f
 .change(((hH (mask+1)).filterMap λj=>(owner.getD j bD).map (j,·)).map (·.2)).Perm _;rw[d];show b
end L2
namespace L2
open PySem PySem.Spec PyProof.Rows
abbrev EE(P:B')(w:JT)(p:Str×Tok):Int×dV:=((sK P w).hash p.1,ux p.1 p.2)
section
def aU.perm(b:aU prog w h a led D)(p:D.Perm c):aU prog w h a led c :=
 let ⟨L,es,ep,t,d,e,f,g,i⟩:=b;⟨L,es,ep,t,d,e,f.trans p,p.nodup_iff.mp g,i⟩
def aU.at(b:aU prog w h a led D)(k:∀o,h.get? a=a0 o->h'.get? a=a0 o):aU prog w h' a led D :=
 let ⟨L,es,ep,t,c,d⟩:=b;⟨L,es,ep,t,k _ c,d⟩
def aU.sz{h:Mt}{a:gi}{led:Bool}{D:List Str}{L:List (Str×Tok)}{es:Array (Int×dV)}(b:es.toList=L.map (λp=>((sK prog w).hash p.1,ux p.1 p.2)))(c:(L.map (·.1)).Perm D):es.size=D.length:=by
 rw[<-ki,b,cK,<-c.length_eq,cK]
def aU.of(g:aU prog w h a led D):h.SetOf (sK prog w) a (λx=>df (x∈D)) D.length:=by
 have(L,es,ep,t,ho,b,d,l,i,j,m,n):=g;show#[_,es,ep,t,ho,#[rfl,rfl,rfl],rfl,by rw[b];show lI,λx=>?_,j,i,aU.sz (h:=h) (a:=a) (led:=led) b d];rw[Ϥ,b,<-d.mem_iff,k8];constructor
 .rintro⟨p,c,e⟩;show#[_,k8.mpr #[p,c,rfl],by rw[gX];simp[e]]
 .rintro⟨e,k,f⟩;have(p,c,rfl):=k8.mp k;rw[gX,Ϥ]at f;show#[p,c,f.symm]
def rp(b:aU prog w s.heap a led D)(h:∀r:Option Nat,r.isSome=df (x∈D)->Q r s):
  eW (hJ prog w) A (setFind a (.str x c) ((sK prog w).hash x)) Q E s :=
 wpAny_setFind_of (knd:=sK prog w) (by rw[gX];simp) rfl b.of h
def eR{L':List (Str×Tok)}(ho:s.heap.get? a=a0 {cls:=.type "set",dict:=bD,data:=.set es ep t})(f:b.toList=L'.map (λp=>((sK prog w).hash p.1,ux p.1 p.2)))(g:(L'.map (·.1)).Perm c)(i:c.Nodup)
  (j:t'.fits b.size=b5) (d:b.size<MB) (hl:t'.led=led) (k:b.size=0\/t'.plain=cb) (h:∀h',sx a s.heap h'->h'.get? a=a0 {cls:=.type "set",dict:=bD,data:=.set b (ep+1) t' }->aU prog w h' a led c->Q () {s with heap:=h' }) :
  eW (hJ prog w) A (storeSet a b t') Q E s:=by
 show Â ho rfl ?_ (Ì d);have e:(s.heap.update a (Sz b t')).get? a=a0 {cls:=.type "set",dict:=bD,data:=.set b (ep+1) t' }:=H0 (Sz b t') ho rfl;show h _ (Mu s.heap a (Sz b t')) e #[L',b,ep+1,t',e,f,g,i,j,d,hl,k]
def fi(xs:Array α)(i:Nat):(SS xs i).toList=xs.toList.eraseIdx i:=by
 unfold SS;rw[Uh,č,č,List.eraseIdx_eq_take_drop_succ];simp[List.extract];rw[Qa (by simp)]
def xi{t:RZ}(h:t.fits n=b5)(e:i<n):(t.drop i).fits (n - 1)=b5:=by
 simp only[UW,du,beq_iff_eq,Ϥ]at h;have(f,b):=h;have a:i<t.place.size:=by lia
 have c:(SS t.place i).size=t.place.size - 1:=by
  rw[<-ki,fi,ė,ϥ (by simpa using a),ki]
 have d:∀p x,(SetTable.insertAt t.dummies p x).size=t.dummies.size+1:=λp x=>by
  have:=(SetTable.insertAt_perm t.dummies p x).length_eq;rw[ki,ki,Array.size_push]at this;show this
 unfold ĵ;rw[Rm a];simp only[UW,Z_,du,beq_iff_eq,Ϥ,c,d]at b ⊢;constructor<;>lia
def yT(t:RZ)(i:Nat):(t.drop i).led=t.led/\(t.drop i).plain=t.plain:=by
 unfold ĵ;split<;>show#[rfl,rfl]
theorem erase_filter:∀{l:List Str}{j:Nat}{x:Str},l.Nodup->l[j]?=a0 x->l.eraseIdx j=l.filter λy=>df (y≠x)
 |[],j,x,_,h=>by simp at h
 |y::l,0,x,a,h=>by
  have(b,c):=p6.mp a;have:y=x:=by simpa using h
  subst this;rw[List.eraseIdx_cons_zero,SG (by simp)];show(NQ.mpr λz hz=>by
   have:z≠y:=λe=>b (e▸hz);simpa using this).symm
 |y::l,j+1,x,a,h=>by
  have(b,c):=p6.mp a;have d:l[j]?=a0 x:=by simpa using h
  have:y≠x:=λe=>b (e▸lg d);rw[Wi,erase_filter c d,SA (by simpa using this)]
theorem fV(f:α->β):∀(l:List α) (j:Nat),(l.map f).eraseIdx j=(l.eraseIdx j).map f
 |[],_=>rfl
 |x::l,0=>rfl
 |x::l,j+1=>by
  change f x::(l.map f).eraseIdx j=f x::(l.eraseIdx j).map f;rw[fV f l j]
def rq{a:gi}{led:Bool}{D:List Str}{x:Str}{k:Tok}{Q:Bool->gj->Prop}(l:aU prog w s.heap a led D)(h:∀b h',sx a s.heap h'->aU prog w h' a led (D.filter λy=>df (y≠x))->Q b {s with heap:=h' }):
  eW (hJ prog w) A (ρ a (.str x k) ((sK prog w).hash x)) Q E s:=by
 have u:=l;have(L,es,ep,t,ho,c,d,m,f,v,B,C):=l;have G:(sK prog w).is x (.str x k)=b5:=by rw[gX];simp
 have n:ElemsOf (sK prog w) es.toList:=by rw[c];show lI
 have hsz:=aU.sz (h:=s.heap) (a:=a) (led:=led) c d;unfold ρ setFind setFindIn;show a5 (a5 (qs ho rfl f ?_))
 dsimp only
 rw[byScan_of (knd:=sK prog w) rfl v n];simp only[↓reduceIte];show a5 (Nb ?_);show a5 (ν (knd:=sK prog w) G ho rfl f n ?_);cases o:ê (λe=>(sK prog w).is x e.2) es.toList with
 |none =>
  dsimp only
  show cL (cL ?_);have g:x∉D:=λg=>by
   rw[<-d.mem_iff,k8]at g;have(p,H,e):=g;have I:((sK prog w).hash p.1,ux p.1 p.2)∈es.toList:=by rw[c];show k8.mpr #[p,H,rfl]
   have:=â.mp o _ I;rw[gX,decide_eq_false_iff_not]at this;show this e.symm
  have e:D.filter (λy=>df (y≠x))=D:=NQ.mpr λz hz=>by
   have:z≠x:=λe=>g (e▸hz);simpa using this
  have J:s={s with heap:=s.heap}:=by cases s;rfl
  rw[J];show h cb s.heap (MK a s.heap) (by rw[e];show u)
 |some j =>
  dsimp only
  have(i,q,_):=YK.mp o;rw[Rt];show cL ?_
  dsimp only
  show a5 (qs ho rfl f ?_)
  dsimp only
  have N:j<L.length:=by rw[c,cK]at i;show i
  have O:j<es.size:=by simpa using i
  have T:L[j].1=x:=by
   have e:es.toList[j]=((sK prog w).hash L[j].1,ux L[j].1 L[j].2):=by simp[c]
   rw[e,gX,Ϥ]at q;show q.symm
  have Y:(L.map (·.1)).Nodup:=d.nodup_iff.mpr m;have YN:(L.eraseIdx j).map (·.1)=(L.map (·.1)).filter λy=>df (y≠x):=by
   rw[<-erase_filter Y (j:=j) (by simp[N,T]),fV]
  have T_:(SS es j).toList=(L.eraseIdx j).map (λp=>((sK prog w).hash p.1,ux p.1 p.2)):=by
   rw[fi,c,fV]
  have r:(SS es j).size=es.size - 1:=by rw[<-ki,fi,ė,ϥ i,ki]
  have(d1,d2):=yT t j;show a5 (eR (t':=t.drop j) (led:=led) ho T_ (by rw[YN];show d.filter _) (ë JM m) (by rw[r];show xi f O) (by rw[r];lia) (d1.trans B) (.inr (d2.trans (C.resolve_left ⋯))) λh' sb hg Kb=>?_);show a5 (wpAny_point ?_);show cL (h b5 h' sb Kb)
end
def BK:Full 256=b5:=by decide +kernel
section
def iS{es:Array (Int×dV)}{a:Array Nat}(h:a.toList.Perm (hH es.size)):(a.filterMap (es[·]?)).toList.Perm es.toList:=by
 rw[Array.toList_filterMap];show(h.filterMap _).trans (by rw[filterMap_getElem?_range])
def og{L:List (Str×Tok)}(ho:s.heap.get? a=a0 {cls:=.type "set",dict:=bD,data:=.set es ep t})(n:es.toList=L.map (λp=>((sK prog w).hash p.1,ux p.1 p.2)))(o:(L.map (·.1)).Perm D)(q:D.Nodup)
  (r:t.fits es.size=b5) (u:es.size<MB) (i:t.led=led) (v:es.size=0\/t.plain=cb) (j:Og c=m+1) (x:Full (m+1)=b5) (y:es.size<=m) (z:m<1000)
  (h:∀h' (d:Array (Int×dV)) (t':RZ) (B:Nat),sx a s.heap h'->h'.get? a=a0 {cls:=.type "set",dict:=bD,data:=.set d B t' }->aU prog w h' a led D->t'.fits d.size=b5->t'.mask=m->t'.dummies=#v[]->t'.led=led->d.size=es.size->Q () {s with heap:=h' }) :
  eW (hJ prog w) A (setRelay a c) Q E s:=by
 have C:(2000:Nat)<=dt:=by decide
 have(t',b,G,f,k,H,I,J,l):=uY (mask:=m) (finger:=t.finger) (moves:=t.movedTo m) (led:=t.led) (plain:=t.plain) (hs:=es.map (·.1)) x (by rw[UT];show y);rw[UT]at f l;have e:t.relaid (es.map (·.1)) c=a0 (t',b):=by
  unfold Y4;rw[j,Nat.add_sub_cancel];show G
 unfold setRelay;show a5 (qs ho rfl r ?_)
 dsimp only
 rw[Ϧ (by rw[j];lia)];show a5 ?_;rw[e];change eW (hJ prog w) A (if ((b.filterMap (es[·]?)).size != es.size)=b5 then((å "internal:set-table-lost-an-element":Sem Unit) >>= λ_=>pure (b.filterMap (es[·]?),t')) else pure (b.filterMap (es[·]?),t')) _ E s;have g:=iS l;have hsz:(b.filterMap (es[·]?)).size=es.size:=by rw[<-ki,g.length_eq,ki]
 rw[Ϧ (by rw[hsz];simp)];show cL ?_;rw[n]at g;have(L',N,O):=c9 g;show eR (led:=led) ho N ((O.map _).trans o) q (by rw[hsz];show f) (by rw[hsz];show u) (k.trans i) (by rw[hsz,H];show v) λh' T Y hs=>h h' _ t' _ T Y hs (by rw[hsz];show f) I J (k.trans i) hsz
def yU(b:5<=n)(a:n<64):∃m,Og (2 * n)=m+1/\Full (m+1)=b5/\n<=m/\m<1000:=by
 have:∀n:_root_.Fin 64,Og (2 * n.val)=(if n.val<4 then 8 else if n.val<8 then 16 else if n.val<16 then 32 else if n.val<32 then 64 else 128):=by decide +kernel
 have e:=this #[n,a]
 dsimp only at e
 rw[e,Ϧ ⋯];split
 .show#[15,rfl,yP,⋯,⋯]
 .split
  .show#[31,rfl,yQ,⋯,⋯]
  .split
   .show#[63,rfl,yR,⋯,⋯]
   .show#[127,rfl,uX,⋯,⋯]
def xj(a:n<64):∃m,Og (QB n)=m+1/\Full (m+1)=b5/\n<=m/\m<1000:=by
 have:∀n:_root_.Fin 64,Og (QB n.val)=(if n.val<2 then 8 else if n.val<4 then 16 else if n.val<8 then 32 else if n.val<16 then 64 else if n.val<32 then 128 else 256):=by decide +kernel
 have e:=this #[n,a]
 dsimp only at e
 rw[e];split
 .show#[7,rfl,Du,⋯,⋯]
 .split
  .show#[15,rfl,yP,⋯,⋯]
  .split
   .show#[31,rfl,yQ,⋯,⋯]
   .split
    .show#[63,rfl,yR,⋯,⋯]
    .split
     .show#[127,rfl,uX,⋯,⋯]
     .show#[255,rfl,BK,⋯,⋯]
def yV{a:gi}{led:Bool}{D:List Str}{Q:Unit->gj->Prop}(b:aU prog w s.heap a led D)(p:D.length<64)(h:∀h',sx a s.heap h'->aU prog w h' a led D->Q () {s with heap:=h' }):
  eW (hJ prog w) A (setTidy a) Q E s:=by
 have f:=b;have(L,es,ep,t,ho,c,d,g,e,i,j,k):=b;have hsz:=aU.sz (h:=s.heap) (a:=a) (led:=led) c d;unfold setTidy;show a5 (qs ho rfl e ?_)
 dsimp only
 split
 .have(m,m1,m2,m3,m4):=xj (n:=es.size) ⋯;show og ho c d g e i j k m1 m2 m3 m4 λh' _ _ _ l _ hs _ _ _ _ _=>h h' l hs
 .have o:s={s with heap:=s.heap}:=by cases s;rfl
  show cL ?_;rw[o];show h s.heap (MK a s.heap) f
def xk{a b:gi}{es:Array (Int×dV)}{D:List Str}{Q:Unit->gj->Prop}(v:a≠b)(ho:s.heap.get? a=a0 {cls:=.type "set",dict:=bD,data:=.set #v[] 0 (.fresh 0 0 (aJ w))})(x:aU prog w s.heap b (aJ w) D)(Li:D.length<64)
  (h:∀h',sx a s.heap h'->aU prog w h' a (aJ w) D->Q () {s with heap:=h' }):eW (hJ prog w) A (setMerge a b) Q E s:=by
 have Pj:=x;have(L,d,YO,f,y,l,n,B,C,G,Qy,T'):=x;have hsz:=aU.sz (h:=s.heap) (a:=b) (led:=aJ w) l n;have o:(ī 0 0 (aJ w)).fits (#v[]:Array (Int×dV)).size=b5:=rfl;unfold setMerge;rw[Ϧ (by simpa using v)];show a5 (qs y rfl C ?_)
 dsimp only
 split
 .rename_i Ua;have hD:D=[]:=by
   have:d.size=0:=by simpa using Ua
   show Z3 ⋯
  subst hD;have p:s={s with heap:=s.heap}:=by cases s;rfl
  show cL ?_;rw[p];show h s.heap (MK a s.heap) (ij ho)
 .rename_i JI;have Ub:d.size≠0:=λz=>JI (by simpa using z);show a5 ?_;unfold setRoomFor;show a5 (qs ho rfl o ?_)
  dsimp only
  show HT (Q:=λ_ s1=>∃(g:Mt) (ts:RZ) (H:Nat) (k:Array (Int×dV)),s1={s with heap:=g}/\k.size=0/\sx a s.heap g/\g.get? a=a0 {cls:=.type "set",dict:=bD,data:=.set k H ts}/\ts.fits k.size=b5/\Full (ts.mask+1)=b5/\d.size<=ts.mask/\ts.dummies=#v[]/\ts.led=aJ w) ?_ (λ_ s1 ⟨g,ts,H,k,e,z,i,j,I,hF,q,Uc,hl⟩=>?_) λ_ _ e=>e
  .unfold SetTable.roomFor;by_cases h5:5<=d.size
   .rw[ϥ (by change(0+d.size) * 5 >= 7 * 3;lia)]
    dsimp only
    have(m,m1,m2,m3,m4):=yU h5 ⋯;have ew:((ī 0 0 (aJ w)).place.size+d.size) * 2=2 * d.size:=by change(0+d.size) * 2=_;lia
    rw[ew];show og (L:=[]) (D:=[]) (led:=aJ w) ho rfl (OO _) .nil o (by decide) rfl (.inl rfl) m1 m2 (by change 0<=m;lia) m4 λh' Jd t' Mz i j _ TF J hd hl hz=>#[h',t',Mz,Jd,rfl,hz,i,j,TF,by rw[J];show m2,by rw[J];show m3,hd,hl]
   .rw[Ϧ (by change ¬(0+d.size) * 5 >= 7 * 3;lia)]
    dsimp only
    have p:s={s with heap:=s.heap}:=by cases s;rfl
    show cL #[s.heap,_,0,#v[],p,rfl,MK a s.heap,ho,o,Du,by change d.size<=7;lia,rfl,rfl]
  .subst e;show a5 (qs j rfl I ?_)
   dsimp only
   have Ud:ts.place.size=0:=by
    simp only[UW,du,beq_iff_eq]at I;lia
   have QA:ts.road f=if ts.mask==f.mask&&f.dummies.isEmpty then .slotForSlot else .clean:=by
    unfold SetTable.road Z_;rw[Ud,Uc];rfl
   have YQ:g.get? b=a0 {cls:=.type "set",dict:=bD,data:=.set d YO f}:=(i.2 b (uv v)).trans y;have N:(ts.plain&&f.plain)=cb:=by rw[T'.resolve_left Ub,U_]
   have O:(ts.led&&f.led)=aJ w:=by rw[hl,Qy,Ξ]
   rw[QA];by_cases T:(ts.mask==f.mask&&f.dummies.isEmpty)=b5
   .rw[ϥ T]
    dsimp only
    show eR (s:={s with heap:=g}) (led:=aJ w) (L':=L) (t':={f with finger:=ts.finger,led:=ts.led&&f.led,moves:=ts.moves,plain:=ts.plain&&f.plain}) j l n B C G O (.inr N) λh' r _ hs=>h h' (i.trans r) hs
   .rw[Ϧ T]
    dsimp only
    have(t',c,q1,Y,q3,q4,q5,q6,q7):=uY (mask:=ts.mask) (finger:=ts.finger) (moves:=ts.moves) (led:=ts.led&&f.led) (plain:=ts.plain&&f.plain) (hs:=d.map (·.1)) hF (by rw[UT];show q);rw[UT]at Y q7;show a5 ?_;rw[q1];change eW (hJ prog w) A (if ((c.filterMap (d[·]?)).size != d.size)=b5 then((å "internal:set-table-lost-an-element":Sem Unit) >>= λ_=>pure (c.filterMap (d[·]?),t')) else pure (c.filterMap (d[·]?),t')) _ E _;have t:=iS q7;have u:(c.filterMap (d[·]?)).size=d.size:=by rw[<-ki,t.length_eq,ki]
    rw[Ϧ (by rw[u];simp)];show cL ?_;rw[l]at t;have(L',e',p'):=c9 t;show eR (s:={s with heap:=g}) (led:=aJ w) j e' ((p'.map _).trans n) B (by rw[u];show Y) (by rw[u];show G) (q3.trans O) (.inr (q4.trans N)) λh' r _ hs=>h h' (i.trans r) hs
end
section
theorem iq:∀{l:List α},(∀x∈l,∀Q':ForInStep β->gj->Prop,Q' (.yield b) s->eW M A (body x b) Q' E s)->Q b s->eW M A (Ŭ l b body) Q E s
 |[],_,h=>by rw[U9];show cL h
 |x::l,a,h=>by
  rw[T9];show a5 (a x (by simp) _ (iq (λy c=>a y (by simp[c])) h))
def xl(hs:∀b∈sets,∃led D,aU prog w s.heap b led D)(h:Q b5 s):eW (hJ prog w) A (setsQuiet sets) Q E s:=by
 unfold setsQuiet;show a5 (iq (λb c Q' d=>?_) (cL h));have(led,D,L,es,ep,t,f,g,k,l,i,m,n,o):=hs b c;show a5 (Vy f rfl i ?_);rw[<-P5];show a5 (iq (λe a q j=>?_) (cL d));rw[g]at a;have(p,_,rfl):=k8.mp a;show cL j
def rA(l:aU prog w s.heap a (aJ w) D)(ho:∀b∈others,∃led B,aU prog w s.heap b led B)(m:∀r,f=a0 r->aU prog w s.heap r (aJ w) [])
  (h:∀(es:Array (Int×dV)) (L:List (Str×Tok)) (h':Mt),es.toList=L.map (EE prog w)->(L.map (·.1)).Perm D->(f=bD->h'=s.heap)->(∀r,f=a0 r->sx r s.heap h'/\aU prog w h' r (aJ w) [])->Q es {s with heap:=h' }) :
  eW (hJ prog w) A (setWalkUnseen a others f) Q E s:=by
 have C:=l;have(L,es,ep,t,j,n,o,Jk,k,hb,G,H):=l;have I:s={s with heap:=s.heap}:=by cases s;rfl
 have c:∀(d:Array (Int×dV)),d.toList.Perm es.toList->Q d s:=λd p=>by
  rw[n]at p;have(L',J,N):=c9 p;rw[I];show h d L' s.heap J ((N.map _).trans o) (λ_=>rfl) λr e=>#[MK r s.heap,m r e]
 unfold setWalkUnseen;show a5 (qs j rfl k ?_)
 dsimp only
 show a5 (cQ ?_);cases g:w.params.followText "set-order" with
 |true =>
  rw[ϥ (by change(w.params.followText "set-order"||t.led&&t.plain||decide (es.size<=1))=b5;rw[g];rfl)];unfold setWalk;show a5 (qs j rfl k ?_)
  dsimp only
  show a5 (cQ ?_);rw[ϥ (by show g)];show a5 (Ul ?_);show cL (c _ (dX _ _))
 |false =>
  by_cases q:es.size<=1
  .rw[ϥ (by rw[Ϩ q];simp)];unfold setWalk;show a5 (qs j rfl k ?_)
   dsimp only
   show a5 (cQ ?_);rw[Ϧ (by change ¬w.params.followText "set-order"=b5;rw[g];simp)];change eW _ _ (if (!t.plain&&df (es.size>1))=b5 then _ else _) _ _ s;rw[Ϧ (by rw[ϧ (show ¬es.size>1 by lia)];simp)];change eW _ _ ((if (!t.led&&df (es.size>1))=b5 then _ else _) >>= _) _ _ s;rw[Ϧ (by rw[ϧ (show ¬es.size>1 by lia)];simp)];show a5 (cL (cL (c es (OO _))))
  .have O:t.plain=cb:=H.resolve_left ⋯;rw[Ϧ (by change ¬(w.params.followText "set-order"||t.led&&t.plain||decide (es.size<=1))=b5;rw[g,O,ϧ q];simp)];show a5 (xl (λb JO=>by
    rcases fR.mp JO with rfl|JO
    .show#[_,_,C]
    .show ho b JO) ?_)
   rw[Ϧ (by simp)];show a5 (Nb ?_);cases f with
   |none=>show cL (c es (OO _))
   |some r =>
    dsimp only
    have(Lr,T,Y,i,u,v,x,Ue,y,YR,QD,YS):=m r rfl;show a5 (qs u rfl y ?_)
    dsimp only
    have Lk:T.size=0:=by
     have:=aU.sz (h:=s.heap) (a:=r) (led:=aJ w) v x;simpa using this
    split
    .show a5 (eR (t':={i with led:=i.led&&t.led,plain:=i.plain&&t.plain}) (led:=aJ w) u v x Ue y YR (by change(i.led&&t.led)=_;rw[QD,G,Ξ]) (.inl Lk) λh' sb _ hs=>?_);show cL (h es L h' n o (λz=>nomatch z) λr' e=>by cases e;show#[sb,hs])
    .show cL (c es (OO _))
end
section
variable{prog:B'}{w:JT}{A:PV}{E:dV->gj->Prop}{s:gj}
theorem jA(J:List (Str×Tok)->gj->Prop)(a:∀d p r s,d++p::r=L->J d s->∀Q':ForInStep PUnit->gj->Prop,(∀s',J (d++[p]) s'->Q' (.yield #[]) s')->eW M A (body (EE prog w p) #[]) Q' E s)(b:∀s',J L s'->Q #[] s'):
  ∀(r d:List (Str×Tok)) (s:gj),d++r=L->J d s->eW M A (Ŭ (r.map (EE prog w)) #[] body) Q E s
 |[],d,s,e,h=>by
  rw[Jq]at e;subst e;rw[LV,U9];show cL (b s h)
 |p::r,d,s,e,h=>by
  rw[eH,T9];show a5 (a d p r s e h _ λs' h'=>jA J a b r (d++[p]) s' (by rw[<-e];simp) h')
def aU.ty(h:aU prog w s.heap a led D):s.TypeIs (.ref a) "set":=let ⟨_,_,_,_,ho,_⟩:=h;⟨_,ho,rfl⟩
def gB(b:aU prog w s.heap a led D)(h:Q b5 s):eW (hJ prog w) A (M' (.ref a)) Q E s:=by
 unfold M';show a5 (LA b.ty Æ ?_);show cL h
def iT{a:gi}{led:Bool}{D:List Str}{Q:Nat->gj->Prop}(b:aU prog w s.heap a led D)(h:Q D.length s):eW (hJ prog w) A (Tf a) Q E s:=by
 have(L,es,ep,t,ho,c,d,f,e,_):=b;unfold Tf;show a5 (Vy ho rfl e (cL ?_));rw[aU.sz (h:=s.heap) (a:=a) (led:=led) c d];show h
def rB(b:aU prog w s.heap a led D)(h:Q (.type "set") s):eW (hJ prog w) A (XN a) Q E s:=by
 unfold XN;show a5 (LA b.ty Æ ?_);show cL h
def uZ(h:Q (.ref s.heap.objs.size) {s with heap:=s.heap.push {cls:=.type "set",dict:=bD,data:=.set #v[] 0 (.fresh 0 0 (aJ w))}}):eW (hJ prog w) A (newSet (.type "set")) Q E s:=by
 unfold newSet Α;show a5 (a5 (Ul (cL ?_)))
 dsimp only
 simp only[newObj];show a5 (ŕ (cL h))
def yW{a:gi}{D:List Str}{Q:dV->gj->Prop}(b:aU prog w s.heap a (aJ w) D)(c:D.length<64)(h:∀h',sx s.heap.objs.size (s.heap.push {cls:=.type "set",dict:=bD,data:=.set #v[] 0 (.fresh 0 0 (aJ w))}) h'->aU prog w h' s.heap.objs.size (aJ w) D->Q (.ref s.heap.objs.size) {s with heap:=h' }):
  eW (hJ prog w) A (XM a) Q E s:=by
 unfold XM;show a5 (rB b (a5 (uZ ?_)));show a5 (cL ?_);have d:s.heap.objs.size≠a:=λe=>by have(_,_,_,_,ho,_):=b;show ve _ (e▸fS ho)
 show a5 (xk (es:=#v[]) (s:={s with heap:=s.heap.push {cls:=.type "set",dict:=bD,data:=.set #v[] 0 (.fresh 0 0 (aJ w))}}) d (f6 _ rfl) (b.at λo e=>b6 _ e) c λh' f hs=>?_);show cL (h h' f hs)
def lO{id:String}(ho:s.heap.get? a=a0 {cls:=.type "set",dict:=bD,data:=.set es ep t})(b:t.fits es.size=b5)(h:Q () s):eW (hJ prog w) A (WH id a ep) Q E s:=by
 unfold WH;show a5 (Ã ho rfl b ?_);rw[Ϧ (by simp)];show cL h
def yX{id:String}(v:a≠b)(o:aU prog w s.heap a (aJ w) g)(j:aU prog w s.heap b (aJ w) q)(B:g.length<64)(i:q.length<=g.length)
  (h:∀h',sx a s.heap h'->aU prog w h' a (aJ w) (g.filter λx=>df (x∉q))->Q () {s with heap:=h' }):eW (hJ prog w) A (VP id a (.ref b)) Q E s:=by
 unfold VP;rw[Ϧ (by simpa using uv v)];show a5 (gB j ?_);rw[ϥ rfl];show a5 (cL ?_);show a5 (iT j (a5 (iT o ?_)));rw[Ϧ ⋯];have(L2,O,C,T,y,D,G,Y,z,VY,Wl,YU):=_root_.id j;show a5 (Ã y rfl z ?_);show a5 (tv ?_);show a5 (rA j (others:=[a]) (f:=bD) (λc H=>by rw[kj.mp H];show#[_,_,o]) (λr e=>nomatch e) λes L h0 I J t _=>?_);have t:=t rfl;subst t;rw[<-P5,I];show a5 (jA (prog:=prog) (w:=w) (L:=L) (λd s'=>∃h',s'={s with heap:=h' }/\sx a s.heap h'/\aU prog w h' a (aJ w) (g.filter λx=>df (x∉d.map (·.1)))) (λd p r s' ed ⟨h',u,k,l⟩ Q' N=>?_) (λs' ⟨h',u,k,l⟩=>?_) L [] _ rfl ⟨s.heap,by cases s;rfl,MK a s.heap,by rw[NQ.mpr λx _=>by simp];show o⟩)
 .subst u;show a5 (tv (rq (s:={s with heap:=h' }) l λb' i m n=>?_));show a5 (lO (s:={s with heap:=i}) (((k.trans m).2 b (uv v)).trans y) z ?_);show cL (N _ #[i,rfl,k.trans m,?_]);rw[List.filter_filter]at n;have e:(g.filter λx=>df (x≠p.1)&&df (x∉d.map (·.1)))=g.filter λx=>df (x∉(d++[p]).map (·.1)):=by
   show ń λx _=>?_;rw[Ma];simp[not_or,and_comm]
  rw[<-e];show n
 .subst u;show cL ?_;have e:(g.filter λx=>df (x∉L.map (·.1)))=g.filter λx=>df (x∉q):=by
   show ń λx _=>?_;rw[Ma];simp only[Ϥ];rw[J.mem_iff]
  rw[e]at l;show yV (s:={s with heap:=h' }) l (YJ (qb _ _) B) λi m n=>h i (k.trans m) n
def yY{id:String}(Lh:a≠b)(l:aU prog w s.heap a (aJ w) m)(j:aU prog w s.heap b (aJ w) g)(D:m.length<64)(k:g.length<64)
  (h:∀h',(∀c o,s.heap.get? c=a0 o->h'.get? c=a0 o)->aU prog w h' s.heap.objs.size (aJ w) (m.filter λx=>df (x∉g))->Q (.ref s.heap.objs.size) {s with heap:=h' }):eW (hJ prog w) A (Se id a (.ref b)) Q E s:=by
 have keep:∀h',sx s.heap.objs.size (s.heap.push {cls:=.type "set",dict:=bD,data:=.set #v[] 0 (.fresh 0 0 (aJ w))}) h'->∀c o,s.heap.get? c=a0 o->h'.get? c=a0 o:=λh' i c o e =>
  (i.2 c (gr (fS e))).trans (b6 _ e)
 have G:a<s.heap.objs.size:=by have(_,_,_,_,ho,_):=l;show fS ho
 have v:b<s.heap.objs.size:=by have(_,_,_,_,ho,_):=j;show fS ho
 unfold Se
 dsimp only
 show a5 (gB j ?_);rw[Ϧ (by simp)];show a5 (cL ?_);rw[Ϧ (by simp),ϥ rfl];show a5 (iT j (a5 (iT l ?_)));by_cases H:m.length / 4>g.length
 .rw[ϥ H];show a5 (Nb ?_);show a5 (yW l D λh' i hs=>?_);show a5 (cL ?_);show a5 (tv (yX (s:={s with heap:=h' }) (va v) hs (j.at λo e=>keep h' i b o e) D ⋯ λk n t=>?_));show cL (h k (keep k (i.trans n)) t)
 .rw[Ϧ H];show a5 (rB l (a5 (uZ ?_)));show a5 (cL ?_);have I:=l.at (h':=s.heap.push {cls:=.type "set",dict:=bD,data:=.set #v[] 0 (.fresh 0 0 (aJ w))}) λo e=>b6 _ e;have Wa:=j.at (h':=s.heap.push {cls:=.type "set",dict:=bD,data:=.set #v[] 0 (.fresh 0 0 (aJ w))}) λo e=>b6 _ e;have J:aU prog w (s.heap.push {cls:=.type "set",dict:=bD,data:=.set #v[] 0 (.fresh 0 0 (aJ w))}) s.heap.objs.size (aJ w) []:=ij (f6 _ rfl);have(La,ea,YV,ta,N,Wn,ab,Ug,y,ac,Wo,YW):=_root_.id I;show a5 (Ã N rfl y ?_);show a5 (tv ?_);rw[ϥ rfl];show a5 (rA (s:={s with heap:=s.heap.push {cls:=.type "set",dict:=bD,data:=.set #v[] 0 (.fresh 0 0 (aJ w))}}) I (others:=[b,s.heap.objs.size]) (f:=a0 s.heap.objs.size) (λc hc=>by
   rcases fR.mp hc with rfl|hc
   .show#[_,_,Wa]
   .rw[kj.mp hc];show#[_,_,J]) (λr e=>by cases e;show J) λes L h0 he B _ e0=>?_)
  have(YX,RP):=e0 _ rfl;rw[<-P5,he];have YY:L.length=m.length:=by rw[<-B.length_eq,cK]
  show a5 (jA (prog:=prog) (w:=w) (L:=L) (λd s'=>∃h',s'={s with heap:=h' }/\sx s.heap.objs.size (s.heap.push {cls:=.type "set",dict:=bD,data:=.set #v[] 0 (.fresh 0 0 (aJ w))}) h'/\aU prog w h' s.heap.objs.size (aJ w) ((d.map (·.1)).filter λx=>df (x∉g))) (λd p r s' O ⟨h',C,i,u⟩ Q' T=>?_) (λs' ⟨h',C,i,u⟩=>?_) L [] _ rfl ⟨h0,rfl,YX,RP⟩)
  .subst C;have Y:(L.map (·.1)).Nodup:=B.nodup_iff.mpr Ug;have YZ:p.1∉d.map (·.1):=λz=>by
    rw[<-O,nc,ri]at Y;show Y.2.2 p.1 z p.1 (by simp) rfl
   have Y0:aU prog w h' b (aJ w) g:=j.at λo e=>keep h' i b o e;have Wq:h'.get? a=a0 {cls:=.type "set",dict:=bD,data:=.set ea YV ta}:=(i.2 a (gr G)).trans N;have Lf:d.length<64:=by have:=ϩ DD O;simp at this;lia
   show a5 (tv ?_);rw[ϥ rfl];show a5 (rp (s:={s with heap:=h' }) Y0 λr hr=>?_);show a5 (cL ?_);have em:((d++[p]).map (·.1)).filter (λx=>df (x∉g))=(d.map (·.1)).filter (λx=>df (x∉g))++if p.1∈g then [] else [p.1]:=by
    rw[nc,Sq];congr 1
    by_cases z:p.1∈g<;>simp[z]
   by_cases z:p.1∈g
   .rw[Ϧ (by rw[hr,Ϩ z];simp)];show cL ?_;show a5 (lO (s:={s with heap:=h' }) Wq y ?_);show cL (T _ #[h',rfl,i,?_]);rw[em,ϥ z,Jq];show u
   .rw[ϥ (by rw[hr,ϧ z];rfl)];show a5 (lK (s:={s with heap:=h' }) u (by
     have:((d.map (·.1)).filter λx=>df (x∉g)).length<=d.length:=K' (qb _ _) (by simp);have Nd:MB=4096:=rfl;lia) λk n t=>?_)
    show cL ?_;show a5 (lO (s:={s with heap:=k}) ((n.2 a (gr G)).trans Wq) y ?_);show cL (T _ #[k,rfl,i.trans n,?_]);rw[em,Ϧ z];rw[Ϧ (λq=>YZ (oa.mp q).1)]at t;show t
  .subst C;show cL ?_;show cL (h h' (keep h' i) (u.perm ?_));show B.filter _
end
def ny:ā Ϙ "set.__sub__"=a0 OB.«frozenset.__sub__» :=
 Ā (id':="frozenset.__sub__") (by kernel_rfl) rfl (by decide +kernel) (by kernel_rfl)
section
def BL(n:a≠b)(g:aU prog w s.heap a (aJ w) j)(i:aU prog w s.heap b (aJ w) k)(p:j.length<64)(q:k.length<64)
  (h:∀h',(∀c o,s.heap.get? c=a0 o->h'.get? c=a0 o)->aU prog w h' s.heap.objs.size (aJ w) (j.filter λx=>df (x∉k))->Q (.ref s.heap.objs.size) {s with heap:=h' }):eW (hJ prog w) A (UP .Sub (.ref a) (.ref b)) Q E s:=by
 show wpAny_binaryOp_same (T:="set") g.ty i.ty PySem.F.fills_set_sub PySem.F.slot_set_sub (D' PySem.F.slot_set_sub g.ty ny ?_ (PySem.F.args_set_sub_2 _ _));unfold OB.«frozenset.__sub__»;change eW (hJ prog w) _ (do
  let x <-X7 "__sub__" ⟨[.ref a,.ref b],[]⟩
  match x with
  |(self,f) =>
   match if cb=b5 then(f,self) else(self,f) with
   |(l,r)=>do
    let c <-M' l <&&> M' r
    if (!c)=b5 then do
      ř (WN "frozenset."++WN "__sub__"++WN ".declined")
      ret Value.notImplemented
     else do
      let d <-XO l
      let e <-Se (WN "frozenset."++WN "__sub__") d r
      ret e) _ _ _
 show a5 (m:=X7 "__sub__" ⟨[.ref a,.ref b],[]⟩) (cL (a:=(hU a,hU b)) ?_)
 dsimp only
 show a5 (a5 (gB g ?_));change eW _ _ (M' (.ref b)) _ _ _;show gB i ?_;rw[Ϧ (by simp)];show a5 (cL ?_);show a5 (yY n g i p q λh' hk hs=>?_);show cL #[_,rfl,(λz=>by cases z),h h' hk hs]
end
section
def tq(l:X.calm=b5)(I:Inv X a σ H s)(hq:JG X.K H p (g.map V.str)\/JH X.K H p (g.map V.str))(i:g.length+1<MB)
  (h:∀(S:gi) (o:Obj) (s1:gj),s.heap.objs.size<=S->s1.heap.get? S=a0 o->aU X.prog X.w s1.heap S (aJ X.w) (aE g)->Inv X ((S,o)::a) σ H s1->Q (.ref S) s1) :
  eW (hJ X.prog X.w) X.A (QI (.type "set") [.ref p]) Q X.xe s:=by
 have hh:X.A.handled=bD:=I.ok.hd l;have f:∀(h':Mt) (c:Nat),aU X.prog X.w h' s.heap.objs.size (aJ X.w) (aE g)->(∀b o,b<s.heap.objs.size->s.heap.get? b=a0 o->h'.get? b=a0 o)->Q (.ref s.heap.objs.size) {s with heap:=h',toks:=c}:=λh' c d k=>by
  have(L,es,ep,t,ho,r):=_root_.id d;have j:Inv X a σ H {s with heap:=h',toks:=c}:=I.kept λb o e=>k b o (fS e) e;show h _ _ _ (i4 _) ho d (j.d_ λq hq=>?_);rcases fR.mp hq with rfl|hq
  .show#[ho,I.Jg.fresh (i4 _),va I.lt,I.D0 (i4 _),λv z=>nomatch z]
  .show j.pin q (qP _ hq)
 rcases hq with hq|hq
 .have(its,rv,pl,hz):=I.list hq;show fU hh pl.isList (cP rv) i λh' c d k=>f h' c d k
 .have(its,rv,pl,hz):=I.tuple hq;show gY hh pl (cP rv) i λh' c d k=>f h' c d k
end
def tu:Xo (.type "list_reverseiterator") "__len__"=pure bD:=by rw[Ve,Q_];kernel_rfl
def yZ:Xo (.type "list_reverseiterator") "__length_hint__"=pure (a0 (.builtin "list_reverseiterator.__length_hint__")):=by rw[Ve,Q_];kernel_rfl
def pP:ß (.type "list_reverseiterator") (.type "list_reverseiterator")=pure b5:=by rw[Tt];kernel_rfl
section
variable{I:gi}{fp wr:List gi}{G:Array Ş->Array Ş->Prop}{n:Nat}{P:Nat->dV->Prop}{St:Nat->gj->Prop}
def tw(W:Ζ prog w A.in1 I fp wr G n P St)(c:∀i s,St i s->s.TypeIs (.ref I) "list_reverseiterator")(S:gi)(res:dV)(j:Nat)(a:St 0 s)(h:S∉fp)(k:I∈fp)
  (l:s.heap.get? S=a0 {cls:=.type "list",data:=.seq #v[] j})
  (m:∀s' d b,Moved (S::wr) G s s'->s'.heap.get? S=a0 {cls:=.type "list",dict:=bD,data:=.seq d b,slots:=#v[]}->η P d n->R (.ok (.ret res)) s') (o:n<=dt) :
  eW (hJ prog w) A.in1 (y4 (.ref S) (.ref I) res)
   (λg s'=>match g with|.done f=>R (.ok f) s'|.again b=>b.quiet=b5/\Tu (hJ prog w) A b R s') (λe s'=>R (.error e) s') s:=by
 have p:S≠I:=λe=>h (e▸k);unfold y4;show a5 (VH (c 0 _ a) ?_);have q:QK (.ref S) (.ref I)=cb:=by simp[QK,p]
 have r:(Ly "list_reverseiterator"==Ly "list")=cb:=by decide
 have t:(Ly "list_reverseiterator"==Ly "tuple")=cb:=by decide
 simp only[q,r,t,V_,sL,if_false];show a5 (W.self 0 _ _ _ a ?_);show a5 (tv ?_);unfold Yh;show a5 (OW (c 0 _ a) tu ?_);change eW _ A.in1 (specialOf (hU I) (Ro "__length_hint__") >>= _) _ _ _;show a5 (OW (c 0 _ a) yZ ?_);have u:splitId "list_reverseiterator.__length_hint__"=a0 ("list_reverseiterator","__length_hint__"):=by decide +kernel
 dsimp only
 rw[u]
 dsimp only
 show a5 (LA (c 0 _ a) pP ?_);rw[Ϧ (by decide)];rw[ϥ (by decide +kernel)];rw[Ϧ (by decide +kernel)];show cL ?_;rw[Ϧ (by decide +kernel)];show cL #[SM PySem.F.plain_extend_loop _,Ś W o _ h _ n 0 _ _ _ rfl (nH _) a l (ű P) λs' d b v x y=>?_];show m s' d b v x y
def nA(W:Ζ prog w A.in1 I fp wr G n P St)(p:∀i s,St i s->s.TypeIs (.ref I) "list_reverseiterator")(S:gi)(q:St 0 s)(l:S∉fp)(r:I∈fp)
  (g:s.heap.get? S=a0 {cls:=.type "list",data:=.seq #v[]})
  (t:∀s' d a,Moved (S::wr) G s s'->s'.heap.get? S=a0 {cls:=.type "list",dict:=bD,data:=.seq d a,slots:=#v[]}->η P d n->R (.ok (.ret .none)) s') (u:n<=dt) :
  eW (hJ prog w) A.in1 (OB.«list.__init__» ⟨[.ref S,.ref I],[]⟩)
   (λj s'=>match j with|.done f=>R (.ok f) s'|.again a=>a.quiet=b5/\Tu (hJ prog w) A a R s') (λe s'=>R (.error e) s') s:=by
 change eW _ A.in1 (do let k <-Zl (.ref S);ϐ (.ref S) (λ_=>#v[]);letGo k.toList.reverse;y4 (.ref S) (.ref I) .none) _ _ s;show a5 ?_;unfold Zl;show a5 (KX g rfl (cL ?_));change eW _ A.in1 (π S (λ_=>#v[]) >>= λ_=>letGo (#v[]:Array dV).toList.reverse >>= λ_=>y4 (.ref S) (.ref I) .none) _ _ s;show a5 (Vd g rfl ?_);have v:=H0 (td (λ_=>(#v[]:Array dV))) g rfl;have m:∀b o,b≠S->s.heap.get? b=a0 o->(s.heap.update S (td (λ_=>(#v[]:Array dV)))).get? b=a0 o :=
  λb o c e=>(P6 _ _ (uv c)).trans e
 show a5 (ä ?_);show tw W p S .none _ (W.frame 0 s _ s.toks q (i4 _) λb c o e=>m b o (λh=>l (h▸c)) e) l r v (λs' d a x y z=>?_) u;show t s' d a (ζ W.gtrans ((Moved.refl W.grefl).then_heap (i4 _) λb o c e=>m b o (λh=>c (h▸k7)) e) x) y z
def rC(W:Ζ prog w A.in1.in1 I fp wr G n P St)(h:∀i s,St i s->s.TypeIs (.ref I) "list_reverseiterator")(j:St 0 s)(k:∀b∈fp,b<s.heap.objs.size)(l:I∈fp)
  (m:∀s' a c,Moved (s.heap.objs.size::wr) G {s with heap:=s.heap.push {cls:=.type "list",data:=.seq #v[]}} s' ->
   s'.heap.get? s.heap.objs.size=a0 {cls:=.type "list",dict:=bD,data:=.seq a c,slots:=#v[]}->η P a n->Q (.ref s.heap.objs.size) s') (p:n<=dt) :
  eW (hJ prog w) A (QI (.type "list") [.ref I]) Q E s:=by
 have q:s.heap.objs.size∉fp:=λd=>ve _ (k _ d);show Ϝ (Q₁:=λobj f=>obj=.ref s.heap.objs.size/\f={s with heap:=s.heap.push {cls:=.type "list",data:=.seq #v[]}}) PySem.F.called_list (PySem.F.typeCall_list_1 _) PySem.F.entry_list_init
  (code_list_new _ #[rfl,rfl]) λobj f r=>?_
 have(rfl,rfl):=r;have g:(s.heap.push {cls:=.type "list",data:=.seq #v[]}).get? s.heap.objs.size=a0 {cls:=.type "list",data:=.seq #v[]}:=f6 _ rfl;show#[#[_,g,rfl],PySem.F.args_list_init_2 _ _,nA W h _ (W.frame 0 s _ s.toks j (i4 _) λb _ o e=>b6 _ e) q l g (λs' a c d t u=>?_) p];show#[rfl,m s' a c d t u]
open AutoSeq1 (wpAny_loadPart') in
end
section
def iU(a:s.heap.IsTupleIter it l i)
  (hl:s.heap.IsTuple l b) (d:b[i]?=a0 x)
  (e:∀h',h'.IsTupleIter it l (i+1)->sx it s.heap h'->Q x {s with heap:=h' }) :
  eW (hJ prog w) A (ti (.ref it)) Q E s:=by
 have(o,ho,f,c):=id a;have(j,g,_,k,h):=hl;unfold ti;show a5 (N6 (name:=Ro "__next__") a.typeIs PySem.F.slot_tuple_iterator_next
  (D' PySem.F.slot_tuple_iterator_next a.typeIs PySem.F.entry_tuple_iterator_next ?_ (PySem.F.args_tuple_iterator_next_1 _)))
 change eW _ _ (ÿ (.ref it) 0 >>= _) _ _ s;show a5 (Nz ho c (x:=.ref l) rfl ?_);change eW _ _ (if (hU l==qp)=b5 then _ else _) _ _ s;rw[Ϧ (show ¬((hU l==qp)=b5) from k9)];change eW _ _ (ÿ (.ref it) 1 >>= _) _ _ s;show a5 (Nz ho c (x:=.int i 0) rfl ?_);change eW _ _ (ħ (.ref l) >>= _) _ _ s;show a5 (KX g h ?_);simp only[OU,d];show a5 (Qb ho c (by simp) (cL #[x,rfl,cL (e _ ?_ (Mu ..))]));show#[_,H0 _ ho (WW (Qi c _)),(Zd ..).trans f,by
  rw[Qi c];simp[I0]]
def c_(hh:A.handled=bD)
  (b:s.heap.IsTupleIter it l i) (hl:s.heap.IsTuple l c) (f:c[i]?=bD)
  (g:∀h' e,ē it s.heap h'->(∃o,h'.get? e=a0 o/\o.cls=.type "StopIteration")->E (.ref e) {s with heap:=h' }) :
  eW (hJ prog w) A (ti (.ref it)) Q E s:=by
 have(o,ho,k,d):=id b;have(n,h,_,p,j):=hl;unfold ti;show a5 (N6 (name:=Ro "__next__") b.typeIs PySem.F.slot_tuple_iterator_next
  (D' PySem.F.slot_tuple_iterator_next b.typeIs PySem.F.entry_tuple_iterator_next ?_ (PySem.F.args_tuple_iterator_next_1 _)))
 change eW _ _ (ÿ (.ref it) 0 >>= _) _ _ s;show a5 (Nz ho d (x:=.ref l) rfl ?_);change eW _ _ (if (hU l==qp)=b5 then _ else _) _ _ s;rw[Ϧ (show ¬((hU l==qp)=b5) from k9)];change eW _ _ (ÿ (.ref it) 1 >>= _) _ _ s;show a5 (Nz ho d (x:=.int i 0) rfl ?_);change eW _ _ (ħ (.ref l) >>= _) _ _ s;show a5 (KX h j ?_);simp only[OU,f];show a5 (Nb (a5 (Qb ho d (by simp) ?_)));change eW _ _ (Ĳ (.type "StopIteration") [] >>= _) _ _ _;show a5 ?_;simp only[Ĳ,ϛ];show a5 (LN ?_ (by size_fits));show a5 (m:=YC _ _) (ã (a:=qp) (by first|rfl|(simp only[YC];rfl)) ?_);show LN ?_ (by size_fits);simp only[ü];show a5 (wpAny_handled ?_)
 first|rw[show A.in1.handled=bD from hh]|rw[hh]
 show a5 (cL (wpAny_throw ?_));show g _ _ (((Mu ..).extBut.push _).push _) #[_,f6 _ rfl,rfl]
end
def fW(hh:A.handled=bD)(it l:gi)(d:l≠it)(a:Array dV):
  μ prog w A it [it,l] a.size (λi v=>a[i]?=a0 v) (λi h=>h.IsTupleIter it l i/\h.IsTuple l a) where
 live:=λ_ _ st=>let ⟨o,ho,_⟩:=st.1;⟨o,ho⟩
 frame:=λ_ _ _ st hk=>#[st.1.at λo e=>hk it (by simp) o e,let ⟨o,ho,r⟩:=st.2;⟨o,hk l (by simp) o ho,r⟩]
 item:=λi s Q E b st f=>by
  show iU st.1 st.2 (x:=a[i]) (by simp[b]) λh' g c=>?_;show f _ h' s.toks (by simp[b]) #[g,let ⟨o,ho,r⟩:=st.2;⟨o,(c.2 l d).trans ho,r⟩] c
 done:=λs Q E st j=>c_ hh st.1 st.2 (by simp) j
open AutoSeq1 (wpAny_loadPart') in
def lP(l:gi)(a:Array dV)(n:Nat)(e:Option gi)(f:Array (Option dV)):
  Meets (OB.«enumerate.__new__» ⟨[.type "enumerate",.ref l],[]⟩) (λ_ R s=>s.heap.get? l=a0 {cls:=.type "tuple",dict:=e,data:=.seq a n,slots:=f} /\
   R (.ok (.ret (.ref (s.heap.push {cls:=.type "tuple_iterator",data:=.fields #v[.ref l,.int 0 0]}).objs.size)))
    {s with heap:=(s.heap.push {cls:=.type "tuple_iterator",data:=.fields #v[.ref l,.int 0 0]}).push {cls:=.type "enumerate",data:=.fields #v[.none,.bool cb,.ref s.heap.objs.size,I0 0,.none,.none]}}) :=
 .of_wp λprog w A R s h=>by
  have(i,g,d,j,os):=s;have(hl,h):=h;have k:=sub_enumerate;have b:θ (ô #[i,g,d,j,os]) l a:=#[_,hl,rfl,n,rfl]
  wp_walk using X1 hl
  show wpAny_stack_any λst=>cL ?_;split
  .rename_i c _ _ _ _ _;cases(c==Ly "enumerate")
   .wp_walk using X1 hl,QH b
    show#[_,rfl,h]
   .wp_walk using X1 hl,QH b
    show#[_,rfl,h]
  .wp_walk using X1 hl,QH b
   show#[_,rfl,h]
section
def fX(g:s.heap.IsTuple l a)
  (h:∀h',ĺ h' (s.heap.objs.size+1) s.heap.objs.size 0 .none->h'.IsTupleIter s.heap.objs.size l 0->h'.objs.size=s.heap.objs.size+2 ->
   (∀b o,s.heap.get? b=a0 o->h'.get? b=a0 o)->Q (.ref (s.heap.objs.size+1)) {s with heap:=h' }) :
  eW (hJ prog w) A (QI (.type "enumerate") [.ref l]) Q E s:=by
 have((c,i,j,k),hl,d,n,e):=g
 replace d:c=.type "tuple":=d
 replace e:j=.seq a n:=e
 subst d e;show callType_new PySem.F.called_enumerate (by decide) (PySem.F.typeCall_enumerate_1 _) (PySem.F.newCall_enumerate_1 _) (λobj=>PySem.F.args_object_init_2 obj _) PySem.F.entry_enumerate_new
  (lP l a n i k) #[hl,?_]
 have hz:(s.heap.push {cls:=.type "tuple_iterator",data:=.fields #v[.ref l,.int 0 0]}).objs.size=s.heap.objs.size+1:=Q3 ..;change _/\_;rw[hz];have f:ĺ ((s.heap.push {cls:=.type "tuple_iterator",data:=.fields #v[.ref l,.int 0 0]}).push
   {cls:=.type "enumerate",data:=.fields #v[.none,.bool cb,.ref s.heap.objs.size,I0 0,.none,.none]}) (s.heap.objs.size+1) s.heap.objs.size 0 .none:=by
  have:=f6 (s.heap.push {cls:=.type "tuple_iterator",data:=.fields #v[.ref l,.int 0 0]})
   (o:={cls:=.type "enumerate",data:=.fields #v[.none,.bool cb,.ref s.heap.objs.size,I0 0,.none,.none]}) rfl
  rw[hz]at this;show this
 show#[#[_,f,rfl],h _ f #[_,b6 _ (f6 _ rfl),rfl,rfl] (by rw[Q3,hz]) λb o x=>b6 _ (b6 _ x)]
end
end L2
namespace L2
open PySem PySem.Spec PyProof.Rows
section
def Inv.kN{ch:List gi}(I:Inv X a σ H s)(f:∀b∈ch,iH X a H b)(k:∀b o,b∉ch->s.heap.get? b=a0 o->h'.get? b=a0 o):Inv X a σ H {s with heap:=h',toks:=t' }:=by
 have g:∀b u,H b=a0 u->b∉ch:=λb u e z=>by rw[(f b z).1]at e;cases e
 show I.step (g':=s.gens) (d':=s.drawn) (ch:=ch) (λb h=>?_) (λb o _ _ d e _=>k b o d e) (λb o _ _ d e _=>#[o.slots,k b o d e]) (λ_ _ _ _ n=>n)
  (λb o d e=>#[o,k b o d e]) (λ_ _ e=>e) (λ_ _ _ e=>e) (λb ps e=>#[#v[],by rw[e];simp]) (λm i=>?_) (λb u e=>?_) I.bare
 .have(w,j,x,l,p,t):=f b h;show#[l,j,p,t]
 .have(o,es,ep,ho,r):=i;show#[o,es,ep,k _ o (λz=>(f _ z).2.1 rfl) ho,r]
 .show(I.Jg b u e).ia (λc v d q=>k c v ?_ q) (λ_ q=>q) λ_ _ q=>q;rcases d with z|z
  .rw[z];show g b u e
  .show g c _ z
def Inv.ir{ch:List gi}(I:Inv X a σ H s)(h:∀b∈ch,iH X a H b)(k:∀b o,b∉ch->s.heap.get? b=a0 o->h'.get? b=a0 o)(i:s.heap.objs.size<=T)(new:bF X.prog X.w (upd H T o) h' T o):
  Inv X a σ (upd H T o) {s with heap:=h',toks:=t' }:=by
 have j:Inv X a σ H {s with heap:=h',toks:=t' }:=I.kN h k;have l:H T=bD:=I.Jg.fresh i;have p:∀b o,s.heap.get? b=a0 o->b≠T:=λb o e z=>by rw[z]at e;show absurd (l' (fS e) i) (ve _)
 have d:∀b u,H b=a0 u->b≠T:=λb u e z=>by rw[z,l]at e;cases e
 show I.step (g':=s.gens) (d':=s.drawn) (ch:=ch) (λb g=>?_) (λb o _ _ f e _=>k b o f e) (λb o _ _ f e _=>#[o.slots,k b o f e]) (λb o _ e n=>by rw[aj (p b o e)];show n)
  (λb o f e=>#[o,k b o f e]) (λb _ e=>by rw[aj (d b _ e)];show e) (λb _ _ e=>by rw[aj (d b _ e)];show e) (λb ps e=>#[#v[],by rw[aj (d b _ e),e];simp]) (λm t=>?_) (λb u e=>?_) I.bare
 .have(C,x,D,y,A,B):=h b g;show#[y,x,A,B]
 .have(o,es,ep,ho,r):=t;show#[o,es,ep,k _ o (λz=>(h _ z).2.1 rfl) ho,r]
 .by_cases g:b=T
  .subst g;rw[aw]at e;cases e;show new
  .rw[aj g]at e;show(j.Jg b u e).ia (λc v _ q=>q) (λc q=>by rw[aj (d c _ q)];show q) λc xs q=>by rw[aj (d c _ q)];show q
end
abbrev Pk(a:Hp->List V->Prop):It :=
 #[λi H=>∃xs x,a H xs/\xs[i]?=a0 x,λi H x H'=>∃p,H p=bD/\x=.ref p/\∀xs v,a H xs->xs[i]?=a0 v->H'=upd H p (.tup [.int i,v]),λi H=>∃xs,a H xs/\xs.length<=i]
def oh{K:PySem.W.Frag}(n:Hp->List V->Prop)(a e it:gi)(N:e≠it)(At:Nat->Mt->Prop)(r:Mt->Array dV->Prop)
  (Ko:∀i h h',At i h->(∀o,h.get? it=a0 o->h'.get? it=a0 o)->At i h') (Wr:∀i h,At i h->∃o,h.get? it=a0 o/\∀v,o.data≠.cell v)
  (Pl:∀(X:Cx) (d:List (gi×Obj)) (s:gj) (σ:St) (H:Hp) (xs:List V),X.K=K->Inv X d σ H s->n H xs->∃its:List dV,Vals xs its/\r s.heap its.toArray)
  (Ui:∀(X:Cx) (d:List (gi×Obj)) (s:gj) (σ:St) (H:Hp) (xs t:List V),X.K=K->Inv X d σ H s->n H xs->n H t->xs=t)
  (Wn:∀h c i f,r h c->ĺ h e it i f->e≠a)
  (hD:∀(A:PV) (c:Array dV),A.handled=bD->μ P w A it [it,a] c.size (λi v=>c[i]?=a0 v) (λi h=>At i h/\r h c))
  (L8:∀(A:PV) (s:gj) (i:Nat) (c:Array dV) (Q:dV->gj->Prop) (E:dV->gj->Prop),A.handled=bD->At i s.heap->r s.heap c->c[i]?=bD ->
   (∀h' x,ē it s.heap h'->(∃o,h'.get? x=a0 o/\o.cls=.type "StopIteration")->E (.ref x) {s with heap:=h' })->eW (hJ P w) A (ti (.ref it)) Q E s) :
  Turn P w K (.Tuple es kx ps) (Pk n) [e,it] e (λi h=>(∃f,ĺ h e it i f)/\At i h) where
 mem:=by simp
 obj:=λi h st b g=>by
  have((f,j),hl):=st;rcases fR.mp g with z|z
  .rw[z];show#[_,j,λv z=>by
    have z':W5 _=ð v:=z;cases z']
  .rw[kj.mp z];show Wr i h hl
 keep:=λi h h' ⟨⟨f,j⟩,hl⟩ k=>#[#[f,k e (by simp) _ j],Ko i h h' hl λo q=>k it (by simp) o q]
 item:=by
  intro X O Y B hc i d s σ H E I C ⟨⟨f,j⟩,hl⟩ hg;subst O Y;have(xs,x,G,hx):=hg;have(its,rv,p):=Pl X d s σ H xs B I G;have(u,hu,ru):=rv.get hx;have Jr:i<its.toArray.size:=by simpa using(et.mp hu).1
  have D:=hD X.A.in1 its.toArray (by simpa using I.ok.hd hc);have Uj:=Wn _ _ _ _ p j;show wpAny_pyNext_enum_itemD D j #[hl,p] Jr N (by simp[N,Uj]) λy h1 l J ho st1 L hsz hk=>?_;have ey:y=u:=by
   have:its.toArray[i]?=a0 u:=by simpa using hu
   rw[this]at J;cases J;rfl
  subst ey;show#[_,rfl,wpAny_letOwnedTupleGo_enum (s:={s with heap:=h1,toks:=l+1}) ho λm RQ J7=>?_];have Ws:e<s.heap.objs.size:=fS j;have QF:m.get? s.heap.objs.size=a0 {cls:=.type "tuple",data:=.seq #v[.int i l,y]}:=(J7.2 _ (va Ws)).trans L;have k2:∀b o,b∉[e,it]->s.heap.get? b=a0 o->m.get? b=a0 o:=λb o g q=>by
   simp only[fR,rz,or_false,not_or]at g;show(J7.2 b g.1).trans (hk b o g.1 g.2 q)
  have I2:Inv X d σ (upd H s.heap.objs.size (.tup [.int i,x])) {s with heap:=m,toks:=l+1}:=I.ir C k2 (i4 _)
   (show bF X.prog X.w _ m _ (.tup [.int i,x]) from#[by change 2<=dt;decide,[.int i l,y],.cons #[l,rfl] (.cons ru .nil),#[_,QF,rfl,_,rfl]])
  show#[.ref s.heap.objs.size,_,I2,rfl,#[_,I.Jg.fresh (i4 _),rfl,λt v J hv=>?_],#[#[_,RQ],Ko (i+1) h1 m st1.1 λo q=>(J7.2 it (uv N)).trans q],λb g=>?_]
  .have:=Ui X d s σ H t xs B I J G;subst this;rw[hx]at hv;cases hv;rfl
  .have JO:b≠s.heap.objs.size:=by
    rcases fR.mp g with z|z
    .rw[z];show gr Ws
    .rw[kj.mp z];have(o,q,_):=Wr i _ hl;show gr (fS q)
   rw[aj JO];show(C b g).1
 done:=by
  intro X O Y B hc i d s σ H E I C ⟨⟨f,j⟩,hl⟩ hg;subst O Y;have(xs,G,hx):=hg;have(its,rv,p):=Pl X d s σ H xs B I G;have ab:=rv.length;have L:s.TypeIs (.ref e) "enumerate":=#[_,j,rfl]
  unfold Ta;show a5 (Zk (N6 (name:=Ro "__next__") L PySem.F.slot_enumerate_next
   (D' PySem.F.slot_enumerate_next L PySem.F.entry_enumerate_next ?_ (PySem.F.args_enumerate_next_1 _))))
  change eW _ _ (ÿ (.ref e) 2 >>= _) _ _ _;show a5 (Nz j rfl (x:=.ref it) rfl ?_);show a5 (L8 _ _ i its.toArray _ _ (by simpa using I.ok.hd hc) hl p (by simp;lia) λh' x TH ND=>?_);have(o,ho,L5):=ND;show a5 (LA (T:="StopIteration") (b:=b5) #[o,ho,L5] Yu ?_);show cL #[rfl,I.kN (t':=s.toks) (ch:=[it]) (λb g=>C b (nC _ g)) λb o g q=>TH b o (λz=>g (by simp[z])) q]
 self:=λA i s Q E ⟨⟨f,j⟩,hl⟩ h=>Ä j h
section
variable{X:Cx}{es:List ro}{kx:Nat}{ps p pos:Pos}
def xm:H8 "enumerate"=a0 (.type "enumerate"):=by decide +kernel
abbrev IG(K:PySem.W.Frag)(c:TA):TI:=λσ H R=>c σ H λvs b=>∃a,vs=[.ref a]/\((∃xs,JG K b a xs)/\R (Pk λH xs=>JG K H a xs) b\/(∃xs,JH K b a xs)/\R (Pk λH xs=>JH K H a xs) b)
def EF(a e it:gi)(n:e≠it)(q:a≠it):Turn X.prog X.w X.K (.Tuple es kx ps) (Pk λH xs=>JG X.K H a xs) [e,it] e (λi h=>(∃c,ĺ h e it i c)/\h.IsListIter it a i):=by
 show oh _ a e it n (λi h=>h.IsListIter it a i) (λh b=>h.IsList a b) (λi h h' x k=>x.at k) (λi h ⟨o,ho,j,r⟩=>#[o,ho,λv z=>by rw[r]at z;cases z])
  (λY d s σ H xs g I l=>?_) (λY d s σ H xs C g I f m=>?_) (λh b i c ⟨o,ho,j,_⟩ t z=>?_) (λA b hh=>ğ hh it a q b) (λA s i b Q E hh hl u f y=>ň hh hl u f y)
 .rw[<-g]at l;have(its,rv,p,hz):=I.list l;show#[its,rv,p.isList]
 .rw[<-g]at f m;show I.iG f m
 .rw[<-z,t]at ho;cases ho;have B:Ly "enumerate"=Ly "list":=j;show absurd B (by decide)
def EG(a e it:gi)(n:e≠it)(q:a≠it):Turn X.prog X.w X.K (.Tuple es kx ps) (Pk λH xs=>JH X.K H a xs) [e,it] e (λi h=>(∃c,ĺ h e it i c)/\h.IsTupleIter it a i):=by
 show oh _ a e it n (λi h=>h.IsTupleIter it a i) (λh b=>h.IsTuple a b) (λi h h' x k=>x.at k) (λi h ⟨o,ho,j,r⟩=>#[o,ho,λv z=>by rw[r]at z;cases z])
  (λY d s σ H xs g I l=>?_) (λY d s σ H xs C g I f m=>?_) (λh b i c ⟨o,ho,j,_⟩ t z=>?_) (λA b hh=>fW hh it a q b) (λA s i b Q E hh hl u f y=>c_ hh hl u f y)
 .rw[<-g]at l;have(its,rv,p,hz):=I.tuple l;show#[its,rv,p]
 .rw[<-g]at f m;show I.ju f m
 .rw[<-z,t]at ho;cases ho;have B:Ly "enumerate"=Ly "tuple":=j;show absurd B (by decide)
def BM(n:Gl X "enumerate")(t:X.mg "enumerate"=bD)(v:PA X [a] w)(hs:mh [a] X.env=[(cb,K6 a X.env)]):PI X (.Tuple es kx ps) (.Call (.Name "enumerate" p) [a] [] pos) (IG X.K w):=by
 intro c s σ H R I h;show Call_ (cU I n t xm (LC (Jj (v pos c s σ H _ I h) λus s1 ⟨vs,j,d,x,y⟩=>?_) hs rfl));have(a',e,q):=y;subst e;have(u,rfl,r):=vals1 x;cases r;have f:s1.heap.objs.size+1≠s1.heap.objs.size:=Nat.succ_ne_self _;have g:∀(h':Mt),(∀b∈[s1.heap.objs.size+1,s1.heap.objs.size],iH X c j b):=λh' b A=>by
  have m:s1.heap.objs.size<=b:=by
   rcases fR.mp A with z|z
   .rw[z];show Oi _
   .rw[kj.mp z];show i4 _
  show d.qL m (d.Jg.fresh m)
 rcases q with⟨⟨xs,k⟩,q⟩|⟨⟨xs,k⟩,q⟩
 .have(its,rv,p,hz):=d.list k;have l:a'<s1.heap.objs.size:=let ⟨o,ho,_⟩:=p.isList;fS ho;show call_enumerate_list p.isList λh' i hl hsz hk=>?_;show Ä i #[_,[s1.heap.objs.size+1,s1.heap.objs.size],_,_,j,rfl,d.kept (t':=s1.toks) hk,EF a' _ _ f (gr l),#[#[_,i],hl],g h',q]
 .have(its,rv,p,hz):=d.tuple k;have l:a'<s1.heap.objs.size:=let ⟨o,ho,_⟩:=p;fS ho;show fX p λh' i hl hsz hk=>?_;show Ä i #[_,[s1.heap.objs.size+1,s1.heap.objs.size],_,_,j,rfl,d.kept (t':=s1.toks) hk,EG a' _ _ f (gr l),#[#[_,i],hl],g h',q]
end
def BN{its:List dV}(h:η (λi v=>its.toArray[its.toArray.size - 1 - i]?=a0 v) a its.toArray.size):a.toList=its.reverse:=by
 apply Ņ;intro i;have hs:a.size=its.length:=by have:=h.1;simpa using this
 by_cases c:i<its.length
 .have b:i<a.size:=by lia
  have:=h.2 i (a[i]'b) (by simp[b]);rw[vu,Rm b,ĉ c];simpa using this.symm
 .rw[Ti (by rw[ki];lia),Ti (by rw[RX];lia)]
section
def rD(g:X.calm=b5)(I:Inv X d σ H s)(j:JG X.K H a xs)
  (h:∀its,Vals xs its->xs.length<=dt->∀(R:gi) (c:Mt),R=s.heap.objs.size->c.objs.size=s.heap.objs.size+1->(∀b o,s.heap.get? b=a0 o->c.get? b=a0 o)->(∀B:PV,B.handled=X.A.handled ->
   Walks X.prog X.w B R [R,a] [R] its.toArray.size (λi v=>its.toArray[its.toArray.size - 1 - i]?=a0 v) (λi h=>i<=its.toArray.size/\h.IsRevIter R a ((its.toArray.size:Int) - 1 - (i:Int))/\h.IsList a its.toArray)) ->
   c.IsRevIter R a ((its.toArray.size:Int) - 1 - ((0:Nat):Int))->c.IsList a its.toArray->a<s.heap.objs.size->Q (.ref R) {s with heap:=c}):eW (hJ X.prog X.w) X.A (QI (.type "reversed") [.ref a]) Q X.xe s:=by
 have(its,rv,p,hz):=I.list j;have f:a<s.heap.objs.size:=let ⟨o,ho,_⟩:=p.isList;fS ho;show call_reversed_list p.isList (h its rv hz _ _ rfl (by rw[MA]) (λb o e=>b6 _ e) (λB k=>Walks.listRev (by rw[k];show I.ok.hd g) _ a (gr f) its.toArray) ?_ (p.isList.push _) f);show#[_,f6 _ rfl,rfl,?_];change W5 _=W5 _;congr 3
 simp
def y6(p:X.calm=b5)(I:Inv X c σ H s)(r:JG X.K H a xs)(q:∀l,H l=bD->Q (.ref l) (upd H l (.lst xs.reverse))):
  eW (hJ X.prog X.w) X.A (QI (.type "reversed") [.ref a]) (λv s1=>eW (hJ X.prog X.w) X.A (QI (.type "list") [v]) (EP X c σ Q) X.xe s1) X.xe s:=by
 show rD p I r λits rv hz R d j hsz hk t u hl x=>?_;have Y:its.length=xs.length:=rv.length.symm;show rC (s:={s with heap:=d}) (t X.A.in1.in1 rfl).toS (λi s st=>st.2.1.typeIs) ⟨nH _,u,hl⟩ (λb f=>?_) (by simp) (λs' h k g y B=>?_) (by simp;lia)
 .change b<d.objs.size;rw[hsz];rcases fR.mp f with z|z
  .rw[z,j];show RO _
  .rw[kj.mp z];show Ng x
 .have(m,C,D,G,o2):=s';have J:C=s.gens:=g.gens;have L:D=s.drawn:=g.drawn;have N:o2=s.os:=g.os;subst J L N;have k2:∀b o,s.heap.get? b=a0 o->m.get? b=a0 o:=λb o e=>g.heap b o (λz=>by
   have f:=fS e;rcases fR.mp z with z|z
   .rw[z]at f;have n:d.objs.size<s.heap.objs.size:=f;rw[hsz]at n;show absurd n (ť (RO _))
   .rw[kj.mp z,j]at e;show absurd (fS e) (ve _)) (b6 _ (hk b o e))
  have O:=BN B;show#[.ref d.objs.size,_,I.laid (t':=G) (o:=.lst xs.reverse) k2 (by rw[hsz];show Oi _) #[by rw[RX];show hz,its.reverse,k,rv.reverse,?_],rfl,q _ (I.Jg.fresh (by rw[hsz];show Oi _))];have T:m.get? d.objs.size=a0 {cls:=.type "list",dict:=bD,data:=.seq h k,slots:=#v[]}:=y;rw[T,<-O,Ď]
end
abbrev Uk(K:PySem.W.Frag)(a:gi)(n:Nat):It :=
 #[λi H=>i<n/\∃xs,JG K H a xs/\xs.length=n,λi H x H'=>H'=H/\∀xs,JG K H a xs->xs[n - 1 - i]?=a0 x,λi _=>n<=i]
def y7{K:PySem.W.Frag}(a it:gi)(n:Nat):Turn P w K tg (Uk K a n) [it] it (λi h=>i<=n/\h.IsRevIter it a ((n:Int) - 1 - (i:Nat))) where
 mem:=by simp
 obj:=λi h st b g=>by
  have e:b=it:=by simpa using g
  subst e;have(_,o,e,c,d):=st;show#[o,e,λv z=>by rw[d]at z;cases z]
 keep:=λi h h' st k=>#[st.1,st.2.at λo e=>k it (by simp) o e]
 item:=by
  intro X l m q D i f s σ H E I j st r;subst l m q;have(L,xs,G,hn):=r;have(its,rv,p,hz):=I.list G;have J:n - 1 - i<xs.length:=by lia
  have(u,N,O):=rv.get (pb J);have(t,y,Q,A,B,C):=j it (by simp);have st2:s.heap.IsRevIter it a ((n - 1 - i:Nat):Int):=by rw[show((n - 1 - i:Nat):Int)=(n:Int) - 1 - (i:Nat) by lia];show st.2
  show wpAny_pyNext_rev_item st2 p.isList (x:=u) (by simpa using N) λh' st' T=>?_;have Y:Inv X f σ H {s with heap:=h' }:=I.turned (t':=s.toks) (λb o g e=>(T.2 b g).trans e) t y A B C;have(o,e,c,d):=id st';show#[u,rfl,uN (s:={s with heap:=h' }) e c d (by decide) ⟨_,H,Y,O,⟨rfl,λys hy=>by rw[I.iG hy G];show pb J⟩,⟨⋯,by rw[show(n:Int) - 1 - ((i+1:Nat):Int)=((n - 1 - i:Nat):Int) - 1 by lia];show st'⟩,λb g=>(j b g).1⟩]
 done:=by
  intro X l m q D i f s σ H E I j st r;subst l m q;have L:n<=i:=r;have(t,y,Q,A,B,C):=j it (by simp);have st2:s.heap.IsRevIter it a (-1):=by rw[show(-1:Int)=(n:Int) - 1 - (i:Nat) by have:=st.1;lia];show st.2
  show wpAny_pyNext_rev_end (I.ok.hd D) st2 λh' eb=>#[rfl,I.turned (t':=s.toks) (λb o g e=>eb b o g e) t y A B C]
 self:=λ_ _ _ _ _ st h=>Ŕ st.2 h
section
def xn:H8 "reversed"=a0 (.type "reversed"):=by decide +kernel
abbrev IH(K:PySem.W.Frag)(c:TA):TI:=λσ H R=>c σ H λvs b=>∃a xs,vs=[.ref a]/\JG K b a xs/\R (Uk K a xs.length) b
def EH(j:X.calm=b5)(k:Gl X "reversed")(l:X.mg "reversed"=bD)(m:PA X [a] n)(hs:mh [a] X.env=[(cb,K6 a X.env)]):PI X A (.Call (.Name "reversed" p) [a] [] pos) (IH X.K n):=by
 intro c s σ H R I h;show Call_ (cU I k l xn (LC (Jj (m pos c s σ H _ I h) λus s1 ⟨vs,o,d,t,v⟩=>?_) hs rfl));have(a',xs,e,w,q):=v;subst e;have(u,rfl,r):=vals1 t;cases r;show rD j d w λits rv hz g B x hsz hk C f hl D=>?_;have y:its.toArray.size=xs.length:=by simpa using rv.length.symm
 rw[y]at f;show Ŕ f #[_,[g],_,_,o,rfl,d.kept (t':=s1.toks) hk,y7 a' g xs.length,#[nH _,f],λb z=>?_,q];have i:s1.heap.objs.size<=b:=by rw[kj.mp z,x];show i4 _
 show d.qL i (d.Jg.fresh i)
end
structure QG(z TI TO i1 i2:gi)(f1 f2:List gi):Prop where
 Iz:TI≠z
 Oz:TO≠z
 az:i1≠z
 bz:i2≠z
 IO:TI≠TO
 Ia:TI≠i1
 Ib:TI≠i2
 Oa:TO≠i1
 Ob:TO≠i2
 ab:i1≠i2
 z1:z∉f1
 z2:z∉f2
 O1:TO∉f1
 O2:TO∉f2
 b1:i2∉f1
 a2:i1∉f2
abbrev Dv(prog:B')(w:JT)(A:PV)(it:gi)(St:Mt->Prop):Prop:=∀(s:gj) (Q:dV->gj->Prop) (E:dV->gj->Prop),St s.heap->(∀h' e,ē it s.heap h'->(∃o,h'.get? e=a0 o/\o.cls=.type "StopIteration")->E (.ref e) {s with heap:=h' })->eW (hJ prog w) A (ti (.ref it)) Q E s
section
variable{prog:B'}{w:JT}{A:PV}{E:dV->gj->Prop}{s:gj}{z TI TO i1 i2:gi}{f1 f2:List gi}{n1 n2 i:Nat}{P1 P2:Nat->dV->Prop}{S1 S2:Nat->Mt->Prop}
def y8(m:μ prog w A.in1 i1 f1 n1 P1 S1)(n:μ prog w A.in1 i2 f2 n2 P2 S2)(Z:QG z TI TO i1 i2 f1 f2)(hz:YI s.heap z TI TO .none)(Md:Tb s.heap TI (.ref i1) (.ref i2))(Mr:Tb s.heap TO a b)
  (t1:S1 i s.heap) (t2:S2 i s.heap) (l1:i<n1) (l2:i<n2)
  (hQ:∀x y h' tk,P1 i x->P2 i y->YI h' z TI TO (I0 s.heap.objs.size)->Tb h' TO x y->S1 (i+1) h'->S2 (i+1) h'->Tb h' s.heap.objs.size x y ->
   (∀c o,c≠z->c≠TO->c≠i1->c≠i2->s.heap.get? c=a0 o->h'.get? c=a0 o)->Q (a0 (.ref s.heap.objs.size)) {s with heap:=h',toks:=tk}):eW (hJ prog w) A (Ta (.ref z)) Q E s:=by
 have H:s.TypeIs (.ref z) "zip":=#[_,hz,rfl]
 have h:∀{f:List gi} {c:gi},c∉f->∀b∈f,b≠c:=λhc b d e=>hc (e▸d);unfold Ta;show a5 (Zk (N6 (name:=Ro "__next__") H PySem.F.slot_zip_next (D' PySem.F.slot_zip_next H PySem.F.entry_zip_next ?_ (PySem.F.args_zip_next_1 _))));change eW _ _ (ÿ (.ref z) 2 >>= _) _ _ _;show a5 (Nz hz rfl (x:=.bool cb) rfl ?_);change eW _ _ (ÿ (.ref z) 3 >>= _) _ _ _;show a5 (Nz hz rfl (x:=.ref TI) rfl (a5 (KX Md rfl ?_)));change eW _ _ (MY (.ref z) >>= _) _ _ _;show a5 ?_;unfold MY;show a5 (Nz hz rfl (x:=.none) rfl (cL ?_));simp only[if_true];show a5 (Nb (a5 (Nz hz rfl (x:=.ref TO) rfl (a5 (QE hz (by simp) λg1 v k1=>a5 ?_)))))
 replace v:YI g1 z TI TO .ellipsis:=v
 simp only[ŏ,Ŧ,T9,U9];show a5 (a5 (Zi ?_));change eW _ _ (ti (.ref i1) >>= _) _ _ _;show a5 (m.item i _ _ _ l1 (m.frame i _ _ t1 λb d o e=>k1.extBut b o (h Z.z1 b d) e) λx g2 T8 px u1 k2=>cL ?_);have I:Tb g2 TO a b:=k2.extBut _ _ Z.Oa (k1.extBut _ _ Z.Oz Mr);show a5 (KX I rfl (a5 (Yt I λg3 B j=>a5 (ä (cL ?_)))))
 replace B:Tb g3 TO x b:=B
 show a5 (a5 (Zi ?_));change eW _ _ (ti (.ref i2) >>= _) _ _ _;show a5 (n.item i _ _ _ l2 (n.frame i _ _ t2 λb d o e=>j.extBut b o (h Z.O2 b d) (k2.extBut b o (h Z.a2 b d) (k1.extBut b o (h Z.z2 b d) e))) λy g4 ab py u2 k=>cL ?_);have J:Tb g4 TO x b:=k.extBut _ _ Z.Ob B;show a5 (KX J rfl (a5 (Yt J λg p l=>a5 (ä (cL (cL ?_))))))
 replace p:Tb g TO x y:=p
 show a5 (KX p rfl (a5 (ϖ ?_)));have hsz:g.objs.size=s.heap.objs.size:=by rw[l.1,k.1,j.1,k2.1,k1.1]
 have L:YI g z TI TO .ellipsis:=l.extBut _ _ Z.Oz.symm (k.extBut _ _ Z.bz.symm (j.extBut _ _ Z.Oz.symm (k2.extBut _ _ Z.az.symm v)));have kk:∀c o,c≠z->c≠TO->c≠i1->c≠i2->s.heap.get? c=a0 o->g.get? c=a0 o:=λc o c1 q C D e =>
  l.extBut _ _ q (k.extBut _ _ D (j.extBut _ _ q (k2.extBut _ _ C (k1.extBut _ _ c1 e))))
 have v1:S1 (i+1) g:=m.frame _ _ _ u1 λb d o e=>l.extBut b o (h Z.O1 b d) (k.extBut b o (h Z.b1 b d) (j.extBut b o (h Z.O1 b d) e));have v2:S2 (i+1) g:=n.frame _ _ _ u2 λb d o e=>l.extBut b o (h Z.O2 b d) e;have N:z<g.objs.size:=fS L;change eW _ _ (U0 (.ref z) (.ref g.objs.size) >>= _) _ _ _;show a5 ?_;unfold U0;have Y3:YI (g.push {cls:=.type "tuple",data:=.seq #v[x,y]}) z TI TO .ellipsis:=b6 _ L;show a5 (QE Y3 (by simp) λg7 G O=>?_)
 replace G:YI g7 z TI TO (I0 g.objs.size):=G
 show QE G (by simp) λr t T=>?_
 replace t:YI r z TI TO (I0 g.objs.size):=t
 have u:∀c o,c≠z->g.get? c=a0 o->r.get? c=a0 o:=λc o c1 e=>T.extBut _ _ c1 (O.extBut _ _ c1 (b6 _ e));have Y:Tb r g.objs.size x y:=T.extBut _ _ (va N) (O.extBut _ _ (va N) (f6 _ rfl));rw[hsz]at t Y;show cL #[_,rfl,?_];change eW _ _ (pure (a0 (hU g.objs.size))) _ _ _;rw[hsz];show cL (hQ x y r _ px py t (u _ _ Z.Oz p) (m.frame _ _ _ v1 λb d o e=>u b o (h Z.z1 b d) e) (n.frame _ _ _ v2 λb d o e=>u b o (h Z.z2 b d) e) Y λc o c1 q C D e=>u c o c1 (kk c o c1 q C D e))
def y9(hh:A.handled=bD)(q:μ prog w A.in1 i1 f1 n1 P1 S1)(G:μ prog w A.in1 i2 f2 n2 P2 S2)(Z:QG z TI TO i1 i2 f1 f2)(hz:YI s.heap z TI TO .none)(H:Tb s.heap TI (.ref i1) (.ref i2))(I:Tb s.heap TO a b)
  (J:S1 i s.heap) (L:S2 i s.heap) (N:Dv prog w A.in1 i1 (S1 i)\/i<n1/\Dv prog w A.in1 i2 (S2 i))
  (r:∀h' O,(∀c o,c≠z->c≠TO->c≠i1->c≠i2->s.heap.get? c=a0 o->h'.get? c=a0 o)->Q bD {s with heap:=h',toks:=O}):eW (hJ prog w) A (Ta (.ref z)) Q E s:=by
 have t:s.TypeIs (.ref z) "zip":=#[_,hz,rfl]
 have k:∀{f:List gi} {c:gi},c∉f->∀b∈f,b≠c:=λY b d e=>Y (e▸d);unfold Ta;show a5 (Zk (N6 (name:=Ro "__next__") t PySem.F.slot_zip_next (D' PySem.F.slot_zip_next t PySem.F.entry_zip_next ?_ (PySem.F.args_zip_next_1 _))));change eW _ _ (ÿ (.ref z) 2 >>= _) _ _ _;show a5 (Nz hz rfl (x:=.bool cb) rfl ?_);change eW _ _ (ÿ (.ref z) 3 >>= _) _ _ _;show a5 (Nz hz rfl (x:=.ref TI) rfl (a5 (KX H rfl ?_)));change eW _ _ (MY (.ref z) >>= _) _ _ _;show a5 ?_;unfold MY;show a5 (Nz hz rfl (x:=.none) rfl (cL ?_));simp only[if_true];show a5 (Nb (a5 (Nz hz rfl (x:=.ref TO) rfl (a5 (QE hz (by simp) λg1 l k1=>a5 ?_)))))
 replace l:YI g1 z TI TO .ellipsis:=l
 simp only[ŏ,Ŧ,T9,U9];show a5 (a5 (Zi ?_));change eW _ _ (ti (.ref i1) >>= _) _ _ _;have u:=q.frame i _ _ J λb d o e=>k1.extBut b o (k Z.z1 b d) e;rcases N with e1|⟨l1,e2⟩
 .show a5 (e1 _ _ _ u λm e k2 Um=>?_);have(oe,g,j):=Um;have v:YI m z TI TO .ellipsis:=k2 _ _ Z.az.symm l;have n:e≠z:=λx=>by subst x;rw[v]at g;cases g;simp at j
  show QE v (by simp) λg3 _ h=>?_;show a5 (LA (T:="StopIteration") (b:=b5) #[oe,h.extBut _ _ n g,j] Yu ?_);show cL (r _ _ λc o c1 _ p _ x=>h.extBut _ _ c1 (k2 _ _ p (k1.extBut _ _ c1 x)))
 .show a5 (q.item i _ _ _ l1 u λx m T8 px u1 k2=>cL ?_);have y:Tb m TO a b:=k2.extBut _ _ Z.Oa (k1.extBut _ _ Z.Oz I);show a5 (KX y rfl (a5 (Yt y λg3 RS h=>a5 (ä (cL ?_)))));show a5 (a5 (Zi ?_));change eW _ _ (ti (.ref i2) >>= _) _ _ _;show a5 (e2 _ _ _ (G.frame i _ _ L λb d o e=>h.extBut b o (k Z.O2 b d) (k2.extBut b o (k Z.a2 b d) (k1.extBut b o (k Z.z2 b d) e))) λg4 e B Up=>?_);have(oe,g,j):=Up;have C:YI g4 z TI TO .ellipsis:=B _ _ Z.bz.symm (h.extBut _ _ Z.Oz.symm (k2.extBut _ _ Z.az.symm l));have n:e≠z:=λx=>by subst x;rw[C]at g;cases g;simp at j
  show QE C (by simp) λg5 _ D=>?_;show a5 (LA (T:="StopIteration") (b:=b5) #[oe,D.extBut _ _ n g,j] Yu ?_);show cL (r _ _ λc o c1 c2 p c4 x=>D.extBut _ _ c1 (B _ _ c4 (h.extBut _ _ c2 (k2.extBut _ _ p (k1.extBut _ _ c1 x)))))
end
abbrev Uq(b SB:Hp->List V->Prop):It :=
 #[λi H=>∃xs a x y,b H xs/\SB H a/\xs[i]?=a0 x/\a[i]?=a0 y,λi H v H'=>∃p,H p=bD/\v=.ref p/\∀xs a x y,b H xs->SB H a->xs[i]?=a0 x->a[i]?=a0 y->H'=upd H p (.tup [x,y]),λi H=>∃xs a,b H xs/\SB H a/\(xs.length<=i\/i<xs.length/\a.length<=i)]
section
def y_{K:PySem.W.Frag}{a b z TI TO f j:gi}(Z:QG z TI TO f j [f,a] [j,b])(Wz:a≠f)(T3:b≠j):Turn P w K (.Tuple es kx ps) (Uq (λH xs=>JG K H a xs) λH T=>JH K H b T) [z,TI,TO,f,j] z
  (λi h=>YI h z TI TO .none/\Tb h TI (.ref f) (.ref j)/\(∃u v,Tb h TO u v)/\h.IsListIter f a i/\h.IsTupleIter j b i) where
 mem:=by simp
 obj:=λi h ⟨hz,l,⟨u,v,m⟩,⟨o1,Le,_,Pn⟩,⟨o2,MN,_,ab⟩⟩ c d=>by
  simp only[fR,rz,or_false]at d;rcases d with rfl|rfl|rfl|rfl|rfl
  .show#[_,hz,λv e=>by cases e]
  .show#[_,l,λv e=>by cases e]
  .show#[_,m,λv e=>by cases e]
  .show#[_,Le,λv e=>by rw[Pn]at e;cases e]
  .show#[_,MN,λv e=>by rw[ab]at e;cases e]
 keep:=λi h h' ⟨hz,l,⟨u,v,m⟩,q,r⟩ k=>#[k z (by simp) _ hz,k TI (by simp) _ l,#[u,v,k TO (by simp) _ m],q.at λo e=>k f (by simp) o e,r.at λo e=>k j (by simp) o e]
 item:=by
  intro Y hP hw J d i n s σ H E I L ⟨hz,l,⟨u,v,m⟩,q,r⟩ ⟨xs,T,x,y,t,B,hx,hy⟩;rw[<-J]at t B;have(D,r1,p1,_):=I.list t;have(G,r2,p2,_):=I.tuple B;have(x0,NR,rx):=r1.get hx;have(y0,RW,ry):=r2.get hy;have l1:i<D.toArray.size:=by simpa using(et.mp NR).1
  have l2:i<G.toArray.size:=by simpa using(et.mp RW).1
  have p:Y.A.handled=bD:=I.ok.hd d;subst hP hw;show y8 (ğ (A:=Y.A.in1) p f a Wz D.toArray) (fW (A:=Y.A.in1) p j b T3 G.toArray) Z hz l m #[q,p1.isList] #[r,p2] l1 l2 λx1 y1 g N px py NT Ur t1 t2 hT k=>?_;have ex:x1=x0:=by
   have:D.toArray[i]?=a0 x0:=by simpa using NR
   rw[this]at px;cases px;rfl
  have ey:y1=y0:=by
   have:G.toArray[i]?=a0 y0:=by simpa using RW
   rw[this]at py;cases py;rfl
  subst ex ey;show#[_,rfl,wpAny_letOwnedTupleGo_zip (s:={s with heap:=g,toks:=N}) NT λO RV C=>?_];have lt:∀{c:gi} {o:Obj},s.heap.get? c=a0 o->c≠s.heap.objs.size:=λe=>gr (fS e);have Us:Tb g TI (.ref f) (.ref j):=k _ _ Z.Iz Z.IO Z.Ia Z.Ib l;have QF:O.get? s.heap.objs.size=a0 {cls:=.type "tuple",data:=.seq #v[x1,y1]}:=(C.2 _ (lt hz).symm).trans hT;have k2:∀c o,c∉[z,TI,TO,f,j]->s.heap.get? c=a0 o->O.get? c=a0 o:=λc o d e=>by
   simp only[fR,rz,or_false,not_or]at d;show(C.2 c d.1).trans (k c o d.1 d.2.2.1 d.2.2.2.1 d.2.2.2.2 e)
  have I2:Inv Y n σ (upd H s.heap.objs.size (.tup [x,y])) {s with heap:=O,toks:=N}:=I.ir L k2 (i4 _)
   (show bF Y.prog Y.w _ O _ (.tup [x,y]) from#[by change 2<=dt;decide,[x1,y1],.cons rx (.cons ry .nil),#[_,QF,rfl,_,rfl]])
  show#[.ref s.heap.objs.size,_,I2,rfl,#[_,I.Jg.fresh (i4 _),rfl,λac KR x' y' a1 a2 a3 a4=>?_],#[RV,(C.2 _ Z.Iz).trans Us,#[_,_,(C.2 _ Z.Oz).trans Ur],t1.1.at λo e=>(C.2 _ Z.az).trans e,t2.1.at λo e=>(C.2 _ Z.bz).trans e],λc d=>?_]
  .rw[<-J]at a1 a2;have:=I.iG a1 t;subst this;have:=I.ju a2 B;subst this;rw[hx]at a3;rw[hy]at a4;cases a3;cases a4;rfl
  .have JI:c≠s.heap.objs.size:=by
    simp only[fR,rz,or_false]at d;rcases d with rfl|rfl|rfl|rfl|rfl
    .show lt hz
    .show lt l
    .show lt m
    .have(o,e,_):=q;show lt e
    .have(o,e,_):=r;show lt e
   rw[aj JI];show(L c d).1
 done:=by
  intro Y hP hw J d i n s σ H E I L ⟨hz,l,⟨u,v,m⟩,q,r⟩ ⟨xs,T,t,B,L8⟩;rw[<-J]at t B;have(D,r1,p1,_):=I.list t;have(G,r2,p2,_):=I.tuple B;have e1:=r1.length;have e2:=r2.length;have p:Y.A.handled=bD:=I.ok.hd d;subst hP hw;show y9 p (ğ (A:=Y.A.in1) p f a Wz D.toArray) (fW (A:=Y.A.in1) p j b T3 G.toArray) Z hz l m #[q,p1.isList] #[r,p2] ?_ λg N k=>?_
  .rcases L8 with h|⟨h,h'⟩
   .show .inl λs Q E st hE=>ň p st.1 st.2 (by simp;lia) hE
   .show .inr #[by simp;lia,λs Q E st hE=>c_ p st.1 st.2 (by simp;lia) hE]
  .show#[rfl,I.kN (t':=N) (ch:=[z,TI,TO,f,j]) L λc o d e=>by
    simp only[fR,rz,or_false,not_or]at d;show k c o d.1 d.2.2.1 d.2.2.2.1 d.2.2.2.2 e]
 self:=λA i s Q E ⟨hz,_⟩ h=>ξ hz h
def boot_zip:H8 "zip"=a0 (.type "zip"):=by decide +kernel
abbrev II(K:PySem.W.Frag)(e:TA):TI:=λσ H R=>e σ H λvs c=>∃a b,vs=[.ref a,.ref b]/\(∃xs,JG K c a xs)/\(∃d,JH K c b d)/\R (Uq (λH xs=>JG K H a xs) λH d=>JH K H b d) c
def BO(a b:gi)(xs c:Array dV):
  Meets (OB.«zip.__new__» ⟨[.type "zip",.ref a,.ref b],[]⟩) (λ_ R s=>s.heap.IsList a xs/\s.heap.IsTuple b c /\
   R (.ok (.ret (.ref (s.heap.objs.size+4)))) {s with heap:=((((s.heap.push {cls:=.type "list_iterator",data:=.fields #v[.ref a,.int 0 0]}).push {cls:=.type "tuple_iterator",data:=.fields #v[.ref b,.int 0 0]}).push {cls:=.type "tuple",data:=.seq #v[.ref s.heap.objs.size,.ref (s.heap.objs.size+1)]}).push {cls:=.type "tuple",data:=.seq #v[.none,.none]}).push {cls:=.type "zip",data:=.fields #v[.none,.bool cb,.bool cb,.ref (s.heap.objs.size+2),.ref (s.heap.objs.size+3)]}}) :=
 .of_wp λprog w A R s h=>by
  have(e,g,d,f,os):=s;have(LS,L9,h):=h;have k:=sub_zip;have i:Heap.IsList (ô #[e,g,d,f,os]) a xs:=LS;have j:θ (ô #[e.push {cls:=.type "list_iterator",data:=.fields #v[.ref a,.int 0 0]},g,d,f,os]) b c:=let ⟨o,ho,r⟩:=L9;⟨o,b6 _ ho,r⟩
  wp_walk using Tr i,QH j
  simp only[Q3];show#[_,rfl,h]
def gC{c x y:Nat}(a:x<c\/c<x)(b:y<c):c∉[x,y]:=λh=>by
 rcases fR.mp h with e|h
 .lia
 .have:=kj.mp h;lia
def BP{n a b:Nat}(c:a<n)(d:b<n):QG (n+4) (n+2) (n+3) n (n+1) [n,a] [n+1,b] :=
 #[gr ⋯,gr ⋯,gr ⋯,gr ⋯,gr ⋯,va ⋯,va ⋯,va ⋯,va ⋯,gr ⋯,
  gC ⋯ ⋯,gC ⋯ ⋯,gC ⋯ ⋯,gC ⋯ ⋯,gC ⋯ ⋯,gC ⋯ ⋯]
def BQ(h:b∈[n+4,n+2,n+3,n,n+1]):n<=b:=by
 simp only[fR,rz,or_false]at h;lia
def EI(y:Gl X "zip")(z:X.mg "zip"=bD)(A:PA X [a,b] B)(C:mh (a::[b]) X.env=(cb,K6 a X.env)::mh [b] X.env)(D:(M3 pos (mh [b] X.env)).any (·.1)=cb):PI X (.Tuple es kx ps) (.Call (.Name "zip" p) [a,b] [] pos) (II X.K B):=by
 intro j s σ H R I h;show Call_ (cU I y z boot_zip (LC (Jj (A pos j s σ H _ I h) λus s1 ⟨vs,G,k,J,L⟩=>?_) C D));have(l,m,rfl,(xs,N),(ys,O),q):=L;have(u1,u2,rfl,Q,T):=vals2 J;cases Q;cases T;have(Y,v1,u,_):=k.list N;have(OF,v2,p2,_):=k.tuple O;have v:l<s1.heap.objs.size:=let ⟨o,ho,_⟩:=u.isList;fS ho;have w:m<s1.heap.objs.size:=let ⟨o,ho,_⟩:=p2;fS ho;show callType_new PySem.F.called_zip (by decide) (PySem.F.typeCall_zip_2 _ _) (PySem.F.newCall_zip_2 _ _) (λobj=>PySem.F.args_object_init_3 obj _ _) PySem.F.entry_zip_new (BO l m Y.toArray OF.toArray) ⟨u.isList,p2,?_⟩;generalize i:((((s1.heap.push {cls:=.type "list_iterator",data:=.fields #v[.ref l,.int 0 0]}).push {cls:=.type "tuple_iterator",data:=.fields #v[.ref m,.int 0 0]}).push {cls:=.type "tuple",data:=.seq #v[.ref s1.heap.objs.size,.ref (s1.heap.objs.size+1)]}).push {cls:=.type "tuple",data:=.seq #v[.none,.none]}).push {cls:=.type "zip",data:=.fields #v[.none,.bool cb,.bool cb,.ref (s1.heap.objs.size+2),.ref (s1.heap.objs.size+3)]}=g;have r:∀(h:Mt) (o:Obj),(h.push o).objs.size=h.objs.size+1:=λh o=>MA ..;have d:∀(h:Mt) (o:Obj) (n:Nat),h.objs.size=n->o.isFreed=cb->(h.push o).get? n=a0 o:=λh o n e f=>by subst e;show f6 _ f
 have t:YI g (s1.heap.objs.size+4) (s1.heap.objs.size+2) (s1.heap.objs.size+3) .none:=by subst i;show d _ _ _ (by simp[r]) rfl
 have g4:Tb g (s1.heap.objs.size+3) .none .none:=by subst i;show b6 _ (d _ _ _ (by simp[r]) rfl)
 have g3:Tb g (s1.heap.objs.size+2) (.ref s1.heap.objs.size) (.ref (s1.heap.objs.size+1)):=by subst i;show b6 _ (b6 _ (d _ _ _ (by simp[r]) rfl))
 have g2:g.IsTupleIter (s1.heap.objs.size+1) m 0:=by subst i;show#[_,b6 _ (b6 _ (b6 _ (d _ _ _ (by simp[r]) rfl))),rfl,rfl]
 have g1:g.IsListIter s1.heap.objs.size l 0:=by subst i;show#[_,b6 _ (b6 _ (b6 _ (b6 _ (d _ _ _ rfl rfl)))),rfl,rfl]
 have kk:∀c o,s1.heap.get? c=a0 o->g.get? c=a0 o:=λc o e=>by subst i;show b6 _ (b6 _ (b6 _ (b6 _ (b6 _ e))))
 have Z:QG (s1.heap.objs.size+4) (s1.heap.objs.size+2) (s1.heap.objs.size+3) s1.heap.objs.size (s1.heap.objs.size+1) [s1.heap.objs.size,l] [s1.heap.objs.size+1,m]:=BP v w;show#[#[_,t,rfl],ξ t #[_,[s1.heap.objs.size+4,s1.heap.objs.size+2,s1.heap.objs.size+3,s1.heap.objs.size,s1.heap.objs.size+1],_,_,G,rfl,k.kept (t':=s1.toks) kk,y_ Z (gr v) (gr (Ng w)),#[t,g3,#[_,_,g4],g1,g2],λb hb=>?_,q]];have x:s1.heap.objs.size<=b:=BQ hb;show k.qL x (k.Jg.fresh x)
end
def xo(l:gi)(a:Array dV)(n:Nat)(b:gi)(c:Array dV)(e:Nat)(dd:Option gi)(f:Array (Option dV))(o:¬(!a.isEmpty&&Oq (a.size+c.size))=b5)(i:a.size<=dt)(j:a.size+c.size<=dt+1):
  Meets (OB.«list.extend» ⟨[.ref l,.ref b],[]⟩) (λ_ R s=>s.heap.get? l=a0 {cls:=.type "list",dict:=bD,data:=.seq a n,slots:=#v[]}/\s.heap.get? b=a0 {cls:=.type "list",dict:=dd,data:=.seq c e,slots:=f}/\R (.ok (.ret qp)) {s with heap:=s.heap.update l (td λx=>x++c),toks:=s.toks}) :=
 .of_wp λprog w A R s h=>by
  have(p,g,d,q,os):=s;have(hl,k,h):=h;have r:=Ĕ;have t:=Z';have u:=Ø;have v:=Ó;have y:=Ô;
  have m:(a++c).size<=dt+1:=by rw[YM];show j
  wp_walk using(Vd hl rfl (hz:=i) (_hz':=m)),Rg hl,Rg k;show#[_,rfl,h]
def xp(l:gi)(a:Array dV)(n:Nat)(b:gi)(c:Array dV)(e:Nat)(dd:Option gi)(f:Array (Option dV))(o:¬(!a.isEmpty&&Oq (a.size+c.size))=b5)(i:a.size<=dt)(j:a.size+c.size<=dt+1):
  Meets (OB.«list.extend» ⟨[.ref l,.ref b],[]⟩) (λ_ R s=>s.heap.get? l=a0 {cls:=.type "list",dict:=bD,data:=.seq a n,slots:=#v[]}/\s.heap.get? b=a0 {cls:=.type "tuple",dict:=dd,data:=.seq c e,slots:=f}/\R (.ok (.ret qp)) {s with heap:=s.heap.update l (td λx=>x++c),toks:=s.toks}) :=
 .of_wp λprog w A R s h=>by
  have(p,g,d,q,os):=s;have(hl,k,h):=h;have r:=Ĕ;have t:=Z';have u:=Ø;have v:=Ó;have y:=Ô;
  have m:(a++c).size<=dt+1:=by rw[YM];show j
  wp_walk using(Vd hl rfl (hz:=i) (_hz':=m)),Rg hl,Rg k;show#[_,rfl,h]
section
def tD:Th X "list.extend" (λx vs H Q=>∃l b xs zs,x=.ref l/\vs=[.ref b]/\H l=a0 (.lst xs)/\(JG X.K H b zs\/JH X.K H b zs)/\xs.length+zs.length<=dt/\Q .Jp (upd H l (.lst (xs++zs)))):=by
 intro d s σ H x vs v us Q I t rv h;have(l,b,xs,zs,rfl,rfl,o,hB,hz,q):=h;cases t;have(u,rfl,w):=rv.one;cases w;have(z,its,n,r,hl,e):=I.Em o;have f:∀a:List dV,Vals zs a->EP X d σ Q qp {s with heap:=s.heap.update l (td λx=>x++a.toArray),toks:=s.toks}:=λa c=>by
  show#[.Jp,_,I.pq (its':=its++a) o e (by simp) (r.append c) ?_,rfl,q];rw[ke];lia
 have j:∀a:List dV,zs.length=a.length->its.toArray.size+a.toArray.size<=dt:=λa h=>by rw[ko,ko];lia
 have p:∀a:List dV,zs.length=a.length->¬(!its.toArray.isEmpty&&Oq (its.toArray.size+a.toArray.size))=b5:=λa h=>by
  rw[yy (j a h),U_];show k9
 rcases hB with hB|hB
 .have(a,c,pl,_):=I.list hB;have((cls,dd,data,k),ho,g,m,i):=pl.isList;simp only at g i;subst g i;have L9:=c.length;have y:=j a L9;show Uv ş #[_,e,rfl] ō (Ļ _ _) (xo l its.toArray n b a.toArray m dd k (p a L9) ⋯ ⋯) #[e,ho,f a c]
 .have(a,c,pl,_):=I.tuple hB;have((cls,dd,data,k),ho,g,m,i):=pl;simp only at g i;subst g i;have L9:=c.length;have y:=j a L9;show Uv ş #[_,e,rfl] ō (Ļ _ _) (xp l its.toArray n b a.toArray m dd k (p a L9) ⋯ ⋯) #[e,ho,f a c]
end
end L2
namespace L2
open PySem PySem.W PyProof.Rows
section
def xq{vs:List (Key×dV)}(hk:vs.map (·.1)=ks.map nz)(hl:a.length=vs.length)(h:∀(j:Nat) (v:dV),a[j]?=a0 v->∃k x,vs[j]?=a0 (k,x)/\(aG P w).is k v=b5):Tv a ks:=by
 induction a generalizing ks vs with
 |nil =>
  cases vs with
  |nil=>cases ks with
   |nil=>show .nil
   |cons _ _=>cases hk
  |cons _ _=>cases hl
 |cons v a c =>
  cases vs with
  |nil=>cases hl
  |cons p vs =>
   cases ks with
   |nil=>cases hk
   |cons k ks =>
    simp only[eH,Ri]at hk;have(k',x,b,d):=h 0 v rfl;simp only[List.getElem?_cons_zero,R0]at b;subst b;have f:k'=nz k:=hk.1;subst f;rcases bq (show jX (nz k) v=b5 from d) with⟨i,t,e,rfl⟩|⟨y,t,e,rfl⟩
    .cases e
    .cases e;show .cons _ _ (c hk.2 (by simpa using hl) λj u g=>h (j+1) u (by simpa using g))
def jB:X.calm=b5->gT X (.builtin "sorted") (λxs H Q=>∃(d:gi) (kvs:List (Key×V)) (ks:List Str),xs=[.ref d]/\H d=a0 (.dK kvs)/\kvs.map (·.1)=ks.map nz/\ks.length<64/\∀q,H q=bD->Q (.ref q) (upd H q (.lst ((aC ks).map V.str)))):=by
 intro l a s σ H xs us Q I rs h;have(d,kvs,ks,rfl,e,hk,G,q):=h;have(u,rfl,r):=vals1 rs;cases r;have(hz,lo,vs,kv,dd):=qQ I.Jg e;have b:vs.length=kvs.length:=(Paired.length kv).symm;have m:kvs.length=ks.length:=by rw[<-cK (f:=(·.1)),hk,cK]
 have n:vs.map (·.1)=ks.map nz:=by
  rw[<-hk];clear dd b hk m e q hz;induction kv with
  |nil=>rfl
  |cons r _ p=>rw[eH,eH,p,r.1]
 have(o,es,ep,t):=id dd;have x:(64:Nat)<=dt:=by decide
 show fg (kdu_collect (A:=X.A.in1) (kdl_dict (knd:=aG X.prog X.w) (kvs:=vs) (ep:=ep) lo) (I.ok.hd l) #[o,es,t] ⋯ λh' c y z g=>#[ks,xq n (by rw[ki];show g.1) (λj v B=>g.2 j v (by rw[<-vu];show B)),by rw[ki,g.1];lia,λJ C D k2 i s2=>?_]);have k:Inv X a σ H {s with heap:=h',toks:=c}:=I.kept (t':=c) z;show#[.ref h'.objs.size,_,k.laid (t':=c) (o:=.lst ((aC ks).map V.str)) k2 (i4 _) #[by rw[cK,bX];lia,C,D,dN s2,i],rfl,q _ (k.Jg.fresh (i4 _))]
end
section
def Dw:gT X (.builtin "len") (λxs H Q=>∃(d:gi) (kvs:List (Key×V)),xs=[.ref d]/\H d=a0 (.dK kvs)/\Q (.int kvs.length) H):=by
 intro b s σ H xs us Q I rs h;have(d,kvs,rfl,e,q):=h;have(u,rfl,r):=vals1 rs;cases r;have(hz,lo,vs,kv,dd):=qQ I.Jg e;have a:vs.length=kvs.length:=(Paired.length kv).symm;have c:=fe;show call_len_dict lo dd ⋯ #[.int kvs.length,H,I.tok _,#[_,by rw[a]],q]
end
section
theorem lQ:∀{ns:List Int}{its:List dV},Vals (ns.map V.int) its->∃ps:List (Int×Tok),its=ps.map (λp=>Y7 p.1 p.2)/\ps.map (·.1)=ns
 |[],_,h=>by cases h;show#[[],rfl,rfl]
 |n::ns,_,h=>by
  cases h with
  |cons r t =>
   have(a,rfl):=r;have(ps,rfl,rfl):=lQ t;show#[(n,a)::ps,rfl,rfl]
def za:X.calm=b5->gT X (.builtin "sum") (λxs H Q=>∃(p:gi) (ns:List Int),xs=[.ref p]/\JG X.K H p (ns.map V.int)/\Q (.int ns.sum) H):=by
 intro b a s σ H xs us Q I rs h;have(p,ns,rfl,c,q):=h;have(u,rfl,r):=vals1 rs;cases r;have(its,rv,pl,hz):=I.list c;have(ps,rfl,rfl):=lQ rv;have e:(ps.map λp=>Y7 p.1 p.2).toArray=intItems ps.toArray:=by simp[intItems]
 show sum_intListG (xs:=ps.toArray) (I.ok.hd b) (by rw[<-e];show pl.isList) λh' d t' hk=>?_;rw[preSum_eq,Qa (by simp)];show#[.int _,H,I.kept (t':=d) hk,#[t',rfl],q]
end
abbrev fL{α:Type}(lt:Nat->Nat->Bool):KasT α->α
 |.ret x=>x
 |.ask i j k=>fL lt (k (lt i j))
def Ks{α:Type}(n:Nat)(P:α->Prop):KasT α->Prop
 |.ret x=>P x
 |.ask i j k=>i<n/\j<n/\∀b,Ks n P (k b)
theorem Ks.Pp{P:α->Prop}{Q:β->Prop}{f:α->KasT β}(a:∀x,P x->Ks n Q (f x)):∀{t:KasT α},Ks n P t->Ks n Q (t.bind f)
 |.ret x,h=>a x h
 |.ask i j k,h=>#[h.1,h.2.1,λb=>Ks.Pp a (h.2.2 b)]
theorem Ks.got:∀{t:KasT α},Ks n P t->P (fL lt t)
 |.ret _,h=>h
 |.ask i j k,h=>Ks.got (t:=k (lt i j)) (h.2.2 _)
theorem Ks.wp(b:∀i j,i<n->j<n->∀C:Bool->gj->Prop,C (lt i j) s->a i j C s):
  ∀{t:KasT α},Ks n P t->Q (fL lt t) s->t.kasWp a Q s
 |.ret _,_,q=>q
 |.ask i j k,h,q=>b i j h.1 h.2.1 _ (Ks.wp b (t:=k (lt i j)) (h.2.2 _) q)
abbrev Pm(n:Nat)(p:Array Nat):Prop:=p.toList.Perm (hH n)
section
variable{n:Nat}(hn:0<n)
include hn
def Pm.at(h:Pm n p)(i:Nat):p.getD i 0<n:=by
 by_cases a:i<p.size
 .have:p.getD i 0=p[i]:=by simp[Ym,a]
  rw[this];have b:p[i]∈p.toList:=by simp
  show Jl.mp (h.mem_iff.mp b)
 .have:p.getD i 0=0:=by simp[Ym,a]
  rw[this];show hn
omit hn in
def Pm.rev(h:Pm n p)(i j:Nat):Pm n (kas_rev p i j):=(mirror_perm p i j _).toList.trans h
omit hn in
def Pm.Y6(h:Pm n p)(i j:Nat):Pm n (bubble p i j):=(bubble_perm p i j).toList.trans h
theorem tE(h:Pm n p):∀(f m:Nat),Ks n (λ_=>True) (kas_asc p f m)
 |0,m=>trivial
 |f+1,m=>#[h.at hn _,h.at hn _,λb=>by
  cases b
  .show tE h f (m+1)
  .show trivial]
theorem kO:∀(f:Nat) (p:Array Nat) (m q:Nat),Pm n p->Ks n (λr=>Pm n r.1) (kas_desc f p m q)
 |0,p,m,q,h=>h
 |f+1,p,m,q,h=>#[h.at hn _,h.at hn _,λb=>by
  cases b
  .show#[h.at hn _,h.at hn _,λb=>by
    cases b
    .show kO f p (m+1) (q+1) h
    .show h]
  .change Ks n _ (if q>0 then _ else _);split
   .show kO f _ _ _ (h.rev _ _)
   .show kO f _ _ _ h]
def u3(h:Pm n p)(m r:Nat):Ks n (λx=>Pm n x.2) (kas_tail3 m r p):=by
 unfold kas_tail3;show Ks.Pp (λx _=>?_) (tE hn (h.rev _ _) _ _);show h.rev _ _
def u4(h:Pm n p)(m r:Nat):Ks n (λx=>Pm n x.2) (kas_descPart m r p):=by
 unfold kas_descPart;show Ks.Pp (λx a=>?_) (kO hn _ _ _ _ h);split
 .show u3 hn (a.rev _ _) _ _
 .show u3 hn a _ _
def zb(h:Pm n p)(r:Nat):Ks n (λx=>Pm n x.2) (kas_count r p):=by
 unfold kas_count;show Ks.Pp (λm _=>?_) (tE hn h _ _);split
 .show h
 .split
  .show#[h.at hn _,h.at hn _,λb=>by
    cases b
    .show u4 hn (h.rev _ _) _ _
    .show h]
  .show u4 hn h _ _
theorem lR(h:Pm n p)(k:Nat):∀(f l r:Nat),Ks n (λ_=>True) (kas_place p k f l r)
 |0,l,r=>trivial
 |f+1,l,r=>by
  unfold kas_place;split
  .show trivial
  .show#[h.at hn _,h.at hn _,λb=>by
    cases b
    .show lR h k f _ _
    .show lR h k f _ _]
theorem zc:∀(f:Nat) (p:Array Nat) (k:Nat),Pm n p->Ks n (Pm n) (kas_bin f p k)
 |0,p,k,h=>h
 |f+1,p,k,h=>Ks.Pp (λl _=>zc f _ _ (h.Y6 _ _)) (lR hn h _ _ _ _)
def u5:Ks n (Pm n) (OC n):=by
 unfold OC;show Ks.Pp (λx a=>?_) (zb hn (p:=List.toArray (hH n)) (by unfold Pm;simp) n);split
 .show zc hn _ _ _ a
 .show a
end
def lS(lt:Nat->Nat->Bool)(n:Nat):(fL lt (OC n)).toList.Perm (hH n):=by
 cases n with
 |zero=>show OO _
 |succ n=>show(u5 (ć n)).got
section
def oi(ho:s.heap.get? a=a0 (JZ "list" vs.toArray n))(l:vs.length<64)
  (m:2<=vs.length->∀s1:gj,(∀b o,b≠a->s.heap.get? b=a0 o->s1.heap.get? b=a0 o)->eW (hJ prog w) A (Ϣ vs.toArray) (λκ s'=>s'=s1/\∀i j,i<vs.length->j<vs.length->∀C:Bool->gj->Prop,C (lt i j) s1->Ï prog w A κ vs i j C s1) (λ_ _=>False) s1)
  (h:P (.done (.ret .none)) {s with heap:=Ą s.heap a vs (((fL lt (OC vs.length)).toList.map λi=>vs.getD i qp).toArray)}) :
  eW (hJ prog w) A (OB.«list.sort» ⟨[.ref a],[]⟩) P E s:=by
 have N:a<s.heap.objs.size:=fS ho;have u:(64:Nat)<=dt:=by decide
 rw[list_sort_plain];show a5 (Ŀ ho rfl (a5 (Zy ho rfl ?_ (by rw[ko];lia) (nH _))));obtain⟨k,q⟩:∃k,(s.heap.update a (td λ_=>(#v[]:Array dV))).get? a=a0 (JZ "list" #v[] k):=#[_,ϓ ho λ_=>#v[]]
 show a5 (ţ q rfl (a5 (ϖ (a5 (Zj (tv ?_) (nH _))) (by change vs.length<=_;lia))));have d:(((s.heap.update a (td λ_=>(#v[]:Array dV))).push (JZ "tuple" vs.toArray 0)).push (JZ "list" #v[] 0)).get? a=a0 (JZ "list" #v[] k):=b6 _ (b6 _ q);have f:∀b o,b≠a->s.heap.get? b=a0 o->(((s.heap.update a (td λ_=>(#v[]:Array dV))).push (JZ "tuple" vs.toArray 0)).push (JZ "list" #v[] 0)).get? b=a0 o:=λb o y e =>
  b6 _ (b6 _ (by rw[RU _ _ _ _ y];show e))
 change eW (hJ prog w) A _ P E {s with heap:=((s.heap.update a (td λ_=>(#v[]:Array dV))).push (JZ "tuple" vs.toArray 0)).push (JZ "list" #v[] 0)}
 dsimp only
 have r:((fL lt (OC vs.length)).toList.map λi=>vs.getD i qp).length=vs.length:=by rw[cK,(lS lt _).length_eq,QJ]
 by_cases c:vs.toArray.size<2
 .rw[ϥ c,ϥ c];show a5 (cL ?_);rw[StateT.run_pure];show a5 (cL ?_);have z:((fL lt (OC vs.length)).toList.map λi=>vs.getD i qp).toArray=(vs.toArray.zip vs.toArray).map (·.2):=by
   have g:=lS lt vs.length;clear h m r f d ho l
   match vs,c,g with
   |[],_,g=>rw[show(fL lt (OC ([]:List dV).length)).toList=[] from Μ.mp g];simp
   |[v],_,g=>rw[show(fL lt (OC [v].length)).toList=[0] from List.perm_singleton.mp g];simp
   |_::_::_,c,_=>simp at c;lia
  rw[z]at h
  dsimp only
  show a5 (ţ d rfl (a5 (Zy d rfl ?_ (nH _) (by rw[UT];change(pairsOf vs).size<=_;rw[pairsOf_size];lia))));simp only[bne_self_eq_false,sL,if_false];show cL h
 .rw[Ϧ c,Ϧ c];have t:2<=vs.length:=by rw[ko]at c;lia
  show a5 (HT (m t _ f) (λκ s0 hk=>?_) λ_ _ x=>x.elim);have(rfl,hk):=hk;show a5 (HT (kat_run (κ:=κ) (ks:=vs) (vs:=vs) (G:=λp s'=>p=fL lt (OC vs.length)/\s'={s with heap:=((s.heap.update a (td λ_=>(#v[]:Array dV))).push (JZ "tuple" vs.toArray 0)).push (JZ "list" #v[] 0)})
   (Q:=λst' s'=>∃p:Array Nat,arrOf st'=p.map (kas_item (vs.toArray.zip vs.toArray))/\failedOf st'=bD/\p=fL lt (OC vs.length)/\s'={s with heap:=((s.heap.update a (td λ_=>(#v[]:Array dV))).push (JZ "tuple" vs.toArray 0)).push (JZ "list" #v[] 0)})
   rfl t l (λp st' s' O B D H=>#[p,B,D,H]) (Ks.wp hk (u5 ⋯) #[rfl,rfl])) ?_ λ_ _ e=>e)
  rintro⟨⟨⟩,st'⟩ s' ⟨p,I,J,rfl,rfl⟩
  dsimp only
  have L:=kat_snds rfl I;rw[L,J];show a5 (ţ d rfl (a5 (Zy d rfl ?_ (nH _) (by rw[ko,r];lia))));simp only[bne_self_eq_false,sL,if_false];show cL h
end
@[reducible]def BR:=Str×Int
abbrev LD(ks:List Str)(i j:Nat):Bool:=df ((ks.getD i vr).cps.toList<(ks.getD j vr).cps.toList)
abbrev eS(ks:List Str):List Nat:=(fL (LD ks) (OC ks.length)).toList
def cw(ks:List Str):(eS ks).Perm (hH ks.length):=lS _ _
abbrev GQ(x:Str)(n:Int)(t u:Tok):Obj:={cls:=.type "tuple",data:=.seq #v[.str x t,.int n u]}
abbrev fG(h:Mt)(as:List gi)(ps:List BR):Prop:=as.length=ps.length/\∀(j:Nat) (a:gi),as[j]?=a0 a->∃p t u,ps[j]?=a0 p/\h.get? a=a0 (GQ p.1 p.2 t u)
def fG.keeps(x:fG h as ps)(k:∀b o,b∈as->h.get? b=a0 o->h'.get? b=a0 o):fG h' as ps :=
 #[x.1,λj a e=>let ⟨p,t,u,c,d⟩:=x.2 j a e;⟨p,t,u,c,k a _ (lg e) d⟩]
def fG.tail(x:fG h (a::as) (p::ps)):fG h as ps :=
 #[by have:=x.1;simpa using this,λj b e=>by
  have(q,t,u,c,d):=x.2 (j+1) b (by simpa using e);show#[q,t,u,by simpa using c,d]]
theorem fG.iu:∀{as:List gi}{ps:List BR},fG h as ps->∃b:List dV,KatTups h (as.map hU) b/\b.length=as.length/\∀v∈b,∃x t,v=ux x t
 |[],_,_=>#[[],Ů,rfl,by simp]
 |a::as,[],x=>by have:=x.1;simp at this
 |a::as,p::ps,x=>by
  have(b,c,d,e):=fG.iu x.tail;have(q,t,u,g,f):=x.2 0 a rfl;show#[.str q.1 t::b,Ŝ f rfl rfl rfl c,by simp[d],λv hv=>?_];rcases fR.mp hv with rfl|hv
  .show#[_,_,rfl]
  .show e v hv
theorem oj:∀{l:List α}{m:List β}{i:Nat}{x:α},Paired F l m->l[i]?=a0 x->∃y,m[i]?=a0 y/\F x y
 |_,_,_,_,.nil,e=>by simp at e
 |_,_,0,_,.cons r _,e=>by simp at e;subst e;show#[_,rfl,r]
 |_,_,i+1,x,.cons _ t,e=>by
  have(u,a,b):=oj (i:=i) (x:=x) t (by simpa using e);show#[u,by simpa using a,b]
section
def EJ(x:fG s.heap as ps)(g:(ps.map (·.1)).Nodup)(e:i<as.length)(f:j<as.length)(q:C (LD (ps.map (·.1)) i j) s):
  Ï prog w A (tuples' b5) (as.map hU) i j C s:=by
 have(p,t,u,d,k):=x.2 i as[i] (by simp[e]);have(a,t',u',c,l):=x.2 j as[j] (by simp[f]);have hl:=x.1;have m:i<ps.length:=by lia
 have n:j<ps.length:=by lia
 have o:(as.map hU).getD i qp=.ref as[i]:=by simp[M0,e]
 have r:(as.map hU).getD j qp=.ref as[j]:=by simp[M0,f]
 have v:(ps.map (·.1)).getD i vr=p.1:=by simp[M0,d]
 have y:(ps.map (·.1)).getD j vr=a.1:=by simp[M0,c]
 unfold Ï;rw[o,r];show kat_lt (b:=b5) k rfl l rfl ?_;unfold LD at q;rw[v,y]at q;change KatLex prog w A b5 (df (2<2)) C [(.str p.1 t,.str a.1 t'),(.int p.2 u,.int a.2 u')] 0 s;show ś (Û ?_);by_cases h:p.1=a.1
 .have z:i=j:=by
   have B:(ps.map (·.1))[i]'(by simpa using m)=(ps.map (·.1))[j]'(by simpa using n):=by
    have(_,D):=et.mp d;have(_,G):=et.mp c;simp[D,G,h]
   show(Zz g).mp B
  subst z;rw[d]at c;cases c;rw[Ϩ rfl];show Χ (ś (Ü ?_));rw[show(p.2==p.2)=b5 by simp];show Χ (kat_nil ?_);have:df (p.1.cps.toList<p.1.cps.toList)=cb:=ϧ (ŵ _);rw[this]at q;show q
 .rw[ϧ h];show kat_no (oneLt_str q)
def EK(x:fG s.heap as ps)(c:(ps.map (·.1)).Nodup)(g:2<=as.length):
  eW (hJ prog w) A (Ϣ (as.map hU).toArray) (λκ s'=>s'=s/\∀i j,i<(as.map hU).length->j<(as.map hU).length->∀C:Bool->gj->Prop,C (LD (ps.map (·.1)) i j) s->Ï prog w A κ (as.map hU) i j C s) (λ_ _=>False) s:=by
 have(h,d,k,e):=x.iu;show kat_kind (T:=.type "str") d ⋯ (λv f=>?_) rfl ⟨rfl,λi j a b C q=>?_⟩
 .have(y,t,rfl):=e v f;show ŭ rfl
 .rw[cK]at a b;show EJ x c a b q
end
abbrev kD(H:Hp):List (gi×List V)->Hp
 |[]=>H
 |(a,vs)::r=>upd (kD H r) a (.tup vs)
theorem lT:∀{l:List (gi×List V)}{b:gi}{o:HO},kD H l b=a0 o->(∃vs,(b,vs)∈l/\o=.tup vs)\/H b=a0 o
 |[],b,o,h=>.inr h
 |(a,vs)::r,b,o,h=>by
  by_cases c:b=a
  .subst c;rw[kD,aw]at h;cases h;show .inl #[vs,by simp,rfl]
  .rw[kD,aj c]at h;rcases lT h with⟨ws,d,e⟩|q
   .show .inl #[ws,by simp[d],e]
   .show .inr q
theorem lU:∀{l:List (gi×List V)}{b:gi},(∀p∈l,p.1≠b)->kD H l b=H b
 |[],b,_=>rfl
 |(a,vs)::r,b,h=>by
  rw[kD,aj (uv (h _ k7))];show lU λp c=>h p (by simp[c])
theorem u6:∀{l:List (gi×List V)}{b:gi}{vs:List V},(l.map (·.1)).Nodup->(b,vs)∈l->kD H l b=a0 (.tup vs)
 |(a,ws)::r,b,vs,d,h=>by
  have c:a∉r.map (·.1)/\(r.map (·.1)).Nodup:=by simpa using d
  rcases fR.mp h with h|h
  .cases h;show aw
  .have:b≠a:=λz=>c.1 (by rw[<-z];show k8.mpr #[_,h,rfl]);rw[kD,aj this];show u6 c.2 h
section
def Inv.many(I:Inv X a σ H s)(k:∀b u,s.heap.get? b=a0 u->h'.get? b=a0 u)(d:∀b o,H b=a0 o->H' b=a0 o)
  (f:∀b o,H' b=a0 o->H b=a0 o\/(s.heap.objs.size<=b/\bF X.prog X.w H' h' b o)):Inv X a σ H' {s with heap:=h',toks:=t' }:=by
 show I.un #[λb u q _ _ _=>k b u q,λb u q _ _ _=>#[u.slots,k b u q],λb u q n _=>?_,λb u q _=>#[u,k b u q],λb xs q=>d b _ q,λb u xs q=>d b _ q,λb ps q=>#[#v[],by rw[d b _ q];simp]] λb o e=>?_
 .cases e:H' b with
  |none=>rfl
  |some o =>
   rcases f b o e with z|⟨z,_⟩
   .rw[n]at z;cases z
   .show absurd (l' (fS q) z) (ve _)
 .rcases f b o e with z|⟨_,z⟩
  .show(I.Jg b o z).ia (λc v _ q=>k c v q) (λc q=>d c _ q) λc xs q=>d c _ q
  .show z
abbrev M7(p:BR):List V:=[.str p.1,.int p.2]
def pQ{ps:List BR}(hc:X.calm=b5)(I:Inv X g σ H s)(e:H d=a0 (.dK (ps.map λp=>((nz p.1:Key),V.int p.2))))(Jk:(ps.map (·.1)).Nodup)(Li:ps.length<64)
  (q:∀(as:List gi) (L:gi),as.length=ps.length->as.Nodup->(∀a∈L::as,H a=bD)->L∉as->Q (.ref L) (upd (kD H (as.zip (ps.map M7))) L (.lst ((eS (ps.map (·.1))).map λi=>V.ref (as.getD i 0))))) :
  eW (hJ X.prog X.w) X.A (QI (.builtin "dict.items") [.ref d]) (λv s1=>eW (hJ X.prog X.w) X.A (QI (.builtin "sorted") [v]) (EP X g σ Q) X.xe s1) X.xe s:=by
 have ab:(64:Nat)<=dt:=by decide
 have(hz,lo,vs,kv,dd):=qQ I.Jg e;have C:vs.length=ps.length:=by
  have:=Paired.length kv;simpa using this.symm
 have(o,es,ep,r):=id dd;show XI PySem.F.slot_dict_items (show s.TypeIs (.ref d) "dict" from#[o,r.1,r.2.1.1]) PySem.F.entry_dict_items (PySem.F.args_dict_items_1 _) (Þ (aG X.prog X.w) d lo) #[#[vs,dd],?_];change eW (hJ X.prog X.w) X.A (QI (.builtin "sorted") [.ref s.heap.objs.size]) (EP X g σ Q) X.xe {s with heap:=s.heap.push {cls:=.type "dict_items",data:=.fields #v[.ref d]}};have k1:∀b u,s.heap.get? b=a0 u->(s.heap.push {cls:=.type "dict_items",data:=.fields #v[.ref d]}).get? b=a0 u:=λb u z=>b6 _ z;have ac:(s.heap.push {cls:=.type "dict_items",data:=.fields #v[.ref d]}).DictOf (aG X.prog X.w) d vs:=#[o,es,ep,k1 _ _ r.1,r.2]
 have Ko:(s.heap.push {cls:=.type "dict_items",data:=.fields #v[.ref d]}).DictAt (aG X.prog X.w) d vs ep:=#[o,es,k1 _ _ r.1,r.2]
 show Vr Ť ľ ŀ (Ł _) ?_;unfold OB.«sorted»;show a5 (m:=Ε "sorted" 1 1 _) (cL ?_);show a5 (kdx_collect (A:=X.A.in1) (knd:=aG X.prog X.w) (kvs:=vs) (ep:=ep) (I.ok.hd hc) #[_,f6 _ rfl,rfl,rfl] Ko ⋯ λc tk as hk hl D=>?_);have G:as.length=ps.length:=hl.trans C;have f:∀a∈as,s.heap.objs.size<=a:=λa ha=>by
  have:=D.above a ha;have z:(s.heap.push {cls:=.type "dict_items",data:=.fields #v[.ref d]}).objs.size=s.heap.objs.size+1:=MA ..;have WC:(s.heap.push {cls:=.type "dict_items",data:=.fields #v[.ref d]}).objs.size<a:=this;lia
 have pa:fG c as ps:=#[G,λj a ea=>by
  have(N,k,x,O,T,e3):=D.pairs j a ea;have B:j<ps.length:=by rw[<-G];show(et.mp ea).1
  have(y,ey,r1,r2):=oj kv (i:=j) (x:=((nz ps[j].1:Key),V.int ps[j].2)) (by simp[B]);rw[O]at ey;cases ey;obtain⟨tx,rfl⟩:∃t,x=.int ps[j].2 t:=r2;have Y8:k=nz ps[j].1:=r1.symm;subst Y8;have(t,rfl):=ď (x:=ps[j].1) (v:=N) T;show#[ps[j],t,tx,by simp[B],e3]]
 have nd:as.Nodup:=D.rise.imp λh=>gr h;show a5 (Zj ?_ (by rw[cK];lia));have Y:(c.push (JZ "list" (as.map hU).toArray 0)).get? c.objs.size=a0 (JZ "list" (as.map hU).toArray 0):=f6 _ rfl;change eW _ _ _ _ _ {s with heap:=c.push (JZ "list" (as.map hU).toArray 0),toks:=tk};have RY:∀a∈as,a<c.objs.size:=λa ha=>D.there ha;show a5 (tv (D' ą #[_,Y,rfl] ñ (oi (lt:=LD (ps.map (·.1))) Y (by rw[cK];lia) (λh2 s1 ks=>?_) ⟨_,rfl,?_⟩) (Ć _)))
 .show EK (pa.keeps λb o J z=>ks b o (gr (RY b J)) (b6 _ z)) Jk (by rw[cK]at h2;show h2)
 .have(ee,he):=Ġ (out:=((fL (LD (ps.map (·.1))) (OC (as.map hU).length)).toList.map λi=>(as.map hU).getD i qp).toArray) Y;have n:∀b o,c.get? b=a0 o->(Ą (c.push (JZ "list" (as.map hU).toArray 0)) c.objs.size (as.map hU) ((fL (LD (ps.map (·.1))) (OC (as.map hU).length)).toList.map λi=>(as.map hU).getD i qp).toArray).get? b=a0 o:=λb o z=>by
   have Jr:b<c.objs.size:=fS z;rw[ă (gr Jr) (by rw[MA];show Ng Jr)];show b6 _ z
  have Lj:s.heap.objs.size<=c.objs.size:=OE (fS (hk _ _ (f6 _ rfl)));have eP:((fL (LD (ps.map (·.1))) (OC (as.map hU).length)).toList)=eS (ps.map (·.1)):=by
   unfold eS;rw[cK,cK,G]
  have Pq:H c.objs.size=bD:=I.Jg.fresh Lj;have Y9:c.objs.size∉as:=λz=>ve _ (RY _ z);have WD:∀a∈as,H a=bD:=λa ha=>I.Jg.fresh (f a ha);have Ux:∀{b:gi} {ws:List V},(b,ws)∈as.zip (ps.map M7)->b∈as:=λz=>(T7 z).1;show cL #[_,rfl,.ref c.objs.size,upd (kD H (as.zip (ps.map M7))) c.objs.size (.lst ((eS (ps.map (·.1))).map λi=>V.ref (as.getD i 0))),?_,rfl,q as _ G nd (λa ha=>?_) Y9]
  .show I.many (λb u z=>n b u (hk b u (k1 b u z))) (λb o z=>?_) λb o z=>?_
   .have n1:b≠c.objs.size:=λy=>by rw[y,Pq]at z;cases z
    rw[aj n1,lU λp hp y=>?_]
    .show z
    .have:=WD p.1 (Ux (b:=p.1) (ws:=p.2) hp);rw[y,z]at this;cases this
   .by_cases J:b=c.objs.size
    .subst J;rw[aw]at z;cases z;show .inr #[Lj,by rw[cK,(cw _).length_eq,QJ,cK];lia,(eS (ps.map (·.1))).map λi=>(as.map hU).getD i qp,ee,?_,?_]
     .have JV:∀i∈eS (ps.map (·.1)),i<as.length:=λi hi=>by
       have:=Jl.mp ((cw _).mem_iff.mp hi);rw[cK]at this;lia
      generalize eS (ps.map (·.1))=l at JV;induction l with
      |nil=>show .nil
      |cons i l ih =>
       show .cons ?_ (ih λj B=>JV j (by simp[B]));have hi:=JV i (by simp);change RelV (.ref (as.getD i 0)) ((as.map hU).getD i qp);have:(as.map hU).getD i qp=.ref (as.getD i 0):=by simp[M0,hi]
       rw[this];rfl
     .rw[<-eP];show he
    .rw[aj J]at z;rcases lT z with⟨ws,z1,rfl⟩|z1
     .have(j,B,ej):=Xe.mp z1;have Uy:j<as.length:=by simp at B;lia
      have Uw:j<ps.length:=by lia
      have Y_:as[j]=b/\M7 ps[j]=ws:=by simpa using ej
      have(rfl,rfl):=Y_;have(p,t,u,O,T):=pa.2 j as[j] (by simp[Uy]);have:p=ps[j]:=by simpa[Uw] using O.symm
      subst this;show .inr #[f _ (by simp),by change 2<=dt;lia,[.str ps[j].1 t,.int ps[j].2 u],.cons #[t,rfl] (.cons #[u,rfl] .nil),_,n _ _ T,rfl,0,rfl]
     .show .inl z1
  .rcases fR.mp ha with rfl|ha
   .show Pq
   .show WD a ha
end
abbrev fH(h:Mt)(as:List gi)(ks:List Str):Prop:=as.length=ks.length/\∀(j:Nat) (a:gi),as[j]?=a0 a->∃k t o n b u,ks[j]?=a0 k/\h.get? a=a0 o/\o.cls=.type "tuple"/\o.data=.seq #v[.str k t,.int b u] n
def fH.keeps(x:fH h as ks)(k:∀b o,b∈as->h.get? b=a0 o->h'.get? b=a0 o):fH h' as ks :=
 #[x.1,λj a e=>let ⟨c,t,o,n,b,u,d,f,g⟩:=x.2 j a e;⟨c,t,o,n,b,u,d,k a o (lg e) f,g⟩]
def fH.tail(x:fH h (a::as) (k::ks)):fH h as ks :=
 #[by have:=x.1;simpa using this,λj b e=>by
  have(d,t,o,n,c,u,f,g):=x.2 (j+1) b (by simpa using e);show#[d,t,o,n,c,u,by simpa using f,g]]
theorem fH.iu:∀{as:List gi}{ks:List Str},fH h as ks->∃c:List dV,KatTups h (as.map hU) c/\c.length=as.length/\∀v∈c,∃x t,v=ux x t
 |[],_,_=>#[[],Ů,rfl,by simp]
 |a::as,[],x=>by have:=x.1;simp at this
 |a::as,k::ks,x=>by
  have(c,d,e,f):=fH.iu x.tail;have(g,t,o,n,b,u,m,i,j,l):=x.2 0 a rfl;show#[.str g t::c,Ŝ i j l rfl d,by simp[e],λv hv=>?_];rcases fR.mp hv with rfl|hv
  .show#[_,_,rfl]
  .show f v hv
section
def EL(x:fH s.heap as ks)(z:ks.Nodup)(g:i<as.length)(k:j<as.length)(q:C (LD ks i j) s):
  Ï prog w A (tuples' b5) (as.map hU) i j C s:=by
 have(p,t,o,n,b,u,l,m,_,r):=x.2 i as[i] (by simp[g]);have(d,t',o',O,v,u',y,e,_,c):=x.2 j as[j] (by simp[k]);have B:(as.map hU).getD i qp=.ref as[i]:=by simp[M0,g]
 have D:(as.map hU).getD j qp=.ref as[j]:=by simp[M0,k]
 have G:ks.getD i vr=p:=by simp[M0,l]
 have H:ks.getD j vr=d:=by simp[M0,y]
 unfold Ï;rw[B,D];show kat_lt (b:=b5) m r e c ?_;unfold LD at q;rw[G,H]at q;change KatLex prog w A b5 (df (2<2)) C [(.str p t,.str d t'),(.int b u,.int v u')] 0 s;show ś (Û ?_);by_cases h:p=d
 .have I:i=j:=by
   have(Q,J):=et.mp l;have(T,L):=et.mp y;show(Zz z).mp (by rw[J,L,h])
  subst I;rw[m]at e;cases e;rw[r]at c;injection c with c _
  have f:b=v/\u=u':=by
   have:=ϩ (λa:Array dV=>a[1]?) c;simpa using this
  have(f,N):=f;subst f N;subst h;rw[Ϩ rfl];show Χ (ś (Ü ?_));rw[show(b==b)=b5 by simp];show Χ (kat_nil ?_);have:df (p.cps.toList<p.cps.toList)=cb:=ϧ (ŵ _);rw[this]at q;show q
 .rw[ϧ h];show kat_no (oneLt_str q)
def EM(x:fH s.heap as ks)(c:ks.Nodup)(g:2<=as.length):
  eW (hJ prog w) A (Ϣ (as.map hU).toArray) (λκ s'=>s'=s/\∀i j,i<(as.map hU).length->j<(as.map hU).length->∀C:Bool->gj->Prop,C (LD ks i j) s->Ï prog w A κ (as.map hU) i j C s) (λ_ _=>False) s:=by
 have(h,d,k,e):=x.iu;show kat_kind (T:=.type "str") d ⋯ (λv f=>?_) rfl ⟨rfl,λi j a b C q=>?_⟩
 .have(y,t,rfl):=e v f;show ŭ rfl
 .rw[cK]at a b;show EL x c a b q
end
section
def tF{as:List gi}(I:Inv X d σ H s)(e:JG X.K H L (as.map V.ref))(hl:as.length=ks.length)
  (T:∀(j:Nat) a k,as[j]?=a0 a->ks[j]?=a0 k->∃b,JH X.K H a [.str k,.int b]) (Y:ks.Nodup) (Li:as.length<64)
  (q:∀L',H L'=bD->Q (.ref L') (upd H L' (.lst ((eS ks).map λi=>V.ref (as.getD i 0))))) :
  eW (hJ X.prog X.w) X.A (QI (.builtin "sorted") [.ref L]) (EP X d σ Q) X.xe s:=by
 have ab:(64:Nat)<=dt:=by decide
 have(its,rv,pl,hz):=I.list e;have OG:its=as.map hU:=by
  have:∀(as:List gi) (its:List dV),Vals (as.map V.ref) its->its=as.map hU:=λas=>by
   induction as with
   |nil=>intro its h;cases h;rfl
   |cons a as x =>
    intro its h;cases h with
    |cons r t=>rw[x _ t];cases r;rfl
  show this as its rv
 subst OG;have J:fH s.heap as ks:=#[hl,λj a p=>by
  have c:j<ks.length:=by rw[<-hl];show(et.mp p).1
  have(b,y):=T j a ks[j] p (by simp[c]);have(us,r,(o,h1,v,n,h3),_):=I.tuple y;cases r with
  |cons r1 B =>
   cases B with
   |cons B r3 =>
    cases r3;have(t,rfl):=r1;have(u,rfl):=B;show#[_,t,o,n,b,u,by simp[c],h1,v,h3]]
 show Vr Ť ľ ŀ (Ł _) ?_;unfold OB.«sorted»;show a5 (m:=Ε "sorted" 1 1 _) (cL ?_);show a5 (collect_list pl.isList ?_ (by simp;lia));generalize N:(s.heap.push (JZ "list" #v[] 0)).update s.heap.objs.size (td (·++(as.map hU).toArray))=g;have k1:∀b o,s.heap.get? b=a0 o->g.get? b=a0 o:=λb o z=>by subst N;show gW z
 have hsz:s.heap.objs.size<=g.objs.size:=by subst N;rw[Ō,MA];show Oi _
 have RY:∀a∈as,a<g.objs.size:=λa ha=>by
  have(j,c,p):=Xe.mp ha;have(_,_,o,_,_,_,_,z,_):=J.2 j a (by simp[c,p]);show l' (fS z) hsz
 show a5 (Zj ?_ (by rw[cK];lia));have C:(g.push (JZ "list" (as.map hU).toArray 0)).get? g.objs.size=a0 (JZ "list" (as.map hU).toArray 0):=f6 _ rfl;change eW _ _ _ _ _ {s with heap:=g.push (JZ "list" (as.map hU).toArray 0)};show a5 (tv (D' ą #[_,C,rfl] ñ (oi (lt:=LD ks) C (by rw[cK];lia) (λv s1 kp=>?_) ⟨_,rfl,?_⟩) (Ć _)))
 .show EM (J.keeps λb o y z=>kp b o (gr (RY b y)) (b6 _ (k1 b o z))) Y (by rw[cK]at v;show v)
 .have(ee,he):=Ġ (out:=((fL (LD ks) (OC (as.map hU).length)).toList.map λi=>(as.map hU).getD i qp).toArray) C;have f:∀b o,g.get? b=a0 o->(Ą (g.push (JZ "list" (as.map hU).toArray 0)) g.objs.size (as.map hU) ((fL (LD ks) (OC (as.map hU).length)).toList.map λi=>(as.map hU).getD i qp).toArray).get? b=a0 o:=λb o z=>by
   have O:b<g.objs.size:=fS z;rw[ă (gr O) (by rw[MA];show Ng O)];show b6 _ z
  have eP:((fL (LD ks) (OC (as.map hU).length)).toList)=eS ks:=by
   unfold eS;rw[cK,hl]
  have D:∀i∈eS ks,i<as.length:=λi G=>by
   have:=Jl.mp ((cw _).mem_iff.mp G);lia
  show cL #[_,rfl,.ref g.objs.size,_,I.laid (t':=s.toks) (o:=.lst ((eS ks).map λi=>V.ref (as.getD i 0))) (λb u z=>f b u (k1 b u z)) hsz ⟨?_,(eS ks).map λi=>(as.map hU).getD i qp,ee,?_,by rw[<-eP];show he⟩,rfl,q _ (I.Jg.fresh hsz)]
  .rw[cK,(cw _).length_eq,QJ];lia
  .generalize eS ks=l at D;induction l with
   |nil=>show .nil
   |cons i l x =>
    show .cons ?_ (x λj c=>D j (by simp[c]));have G:=D i (by simp);change RelV (.ref (as.getD i 0)) ((as.map hU).getD i qp);have:(as.map hU).getD i qp=.ref (as.getD i 0):=by simp[M0,G]
    rw[this];rfl
end
section
def pR:Xo (.type "list") "keys"=pure bD:=am_miss_of_fast (by decide +kernel)
theorem pS(hx:s.heap.get? a=a0 {cls:=.type "list",dict:=bD,data:=.seq xs k,slots:=sl})(hA:A.handled=bD)
    (h:∀h' tk,(∀b ob,s.heap.get? b=a0 ob->h'.get? b=a0 ob)->Q bD {s with heap:=h',toks:=tk}):eW (hJ prog w) A (getAttr? (.ref a) "keys") Q E s:=by
  obtain⟨hp,g,d,tk,os⟩:=s;have hT:∀RL,(⟨hp,g,d,RL,os⟩:gj).TypeIs (.ref a) "list":=λ_=>⟨_,hx,rfl⟩
  have f1:=sub_AttributeError;have f3:=PySem.F.slot_list_getattribute.lookup;have f4:=PySem.F.slot_list_getattribute.bind (.ref a);have f5:=am_list_getattr_none;have big:(1000:Nat)<=dt:=by decide
  have hk : (("keys" : Str)).length + 100 ≤ sizeLine := by have : ("keys" : Str).length = 4 := by decide
                                                           lia
  unfold getAttr? getAttrBy? getAttrBy
  repeat (any_goals (first|assumption|exact hT _|((with_reducible show eW _ _ (QI (ů "list.__getattribute__") _ _) _ _ _);refine Uv PySem.F.slot_list_getattribute (hT _) am_entry_list_getattribute (PySem.F.args_list_getattribute_2 _ _) (meets_getattribute_miss_list a xs k sl "keys" _ pR (by decide) hk) ⟨hx,hA,λh' RL e ND=>?_⟩)|wp_step))
  obtain⟨t',u',he⟩:=ND.there;show eW _ _ (Δ _ _ _ _ _ _ _) _ _ _;unfold Δ
  repeat (any_goals (first|assumption|wp_step))
  exact h _ _ ND.keeps
def fY:ā Ϙ "dict.update.loop"=a0 OB.«dict.update.loop»:=ς (by kernel_rfl)
def cY:plainId "dict.update.loop"=b5:=by decide +kernel
abbrev BS(prog:B')(w:JT)(d I:gi)(its:Array dV)(ps:List (Key×dV))(h:Mt):Prop:=∀(j:Nat) p,ps[j]?=a0 p->∃a o e b,its[j]?=a0 (.ref a)/\a≠d/\a≠I/\h.get? a=a0 o/\o.cls=.type "tuple"/\o.data=.seq #v[b,p.2] e/\(aG prog w).is p.1 b=b5
def BS.keep(x:BS prog w d I its ps h)(k:∀b o,b≠d->b≠I->h.get? b=a0 o->h'.get? b=a0 o):BS prog w d I its ps h':=λj p e=>by
 have(a,o,n,c,i,f,g,l,m):=x j p e;show#[a,o,n,c,i,f,g,k a o f g l,m]
def zd(hh:A.handled=bD)(J:ax≠I)(y:d≠I)(TV:ax≠d)(hz:ps.length<=dt)(hl:its.size=ps.length):
  ∀(k i:Nat) (s:gj) (c:List (Key×dV)),ps.length - i=k->i<=ps.length->s.heap.IsListIter I ax i->s.heap.IsList ax its->c.length<=i->BS prog w d I its ps s.heap->s.heap.DictOf (aG prog w) d c->(c.map (·.1)++(ps.drop i).map (·.1)).Nodup ->
  (∀h' q,h'.DictOf (aG prog w) d (c++ps.drop i)->(∀b o,b≠d->b≠I->s.heap.get? b=a0 o->h'.get? b=a0 o)->R (.ok (.ret res)) {s with heap:=h',toks:=q}) ->
  Tu (hJ prog w) A (.builtin "dict.update.loop" ⟨[.ref d,.ref I,I0 i,res],[]⟩) R s:=by
 intro k;induction k with
 |zero =>
  intro i s c hk hi g B Y' L C j l;have JV:i=its.size:=by lia
  subst JV;show MZ fY ?_;rw[M6 cY _];change eW _ A.in1 (Ta (.ref I) >>= _) _ _ s;show a5 ((Î (A:=A.in1) hh I ax J its).done s _ _ #[g,B] λh' q D=>?_);have e0:ps.drop its.size=[]:=ù ⋯;rw[e0,Jq]at l;have h:∀b o,b≠I->s.heap.get? b=a0 o->h'.get? b=a0 o:=λb o f e=>D b o (by simpa using f) e;show a5 (cL (cL (l h' q ?_ λb o _ f e=>h b o f e)));have(o,es,ep,ho,r):=C;show#[o,es,ep,h d o y ho,r]
 |succ k ih =>
  intro i s c hk hi g B Y' L C j l;have t:i<ps.length:=by lia
  obtain⟨p,N⟩:∃p,ps[i]?=a0 p:=#[ps[i],by simp[t]]
  show MZ fY ?_;rw[M6 cY _];change eW _ A.in1 (Ta (.ref I) >>= _) _ _ s;show a5 ((Î (A:=A.in1) hh I ax J its).item i s _ _ ⋯ #[g,B] λv h' q hP O D=>?_);have h:∀b o,b≠I->s.heap.get? b=a0 o->h'.get? b=a0 o:=λb o f e=>D b o (by simpa using f) e;have Kk:h'.DictOf (aG prog w) d c:=by
   have(o,es,ep,ho,r):=C;show#[o,es,ep,h d o y ho,r]
  have Q:=L.keep (h':=h') λb o _ f e=>h b o f e;have(a,o,e,m,e1,e2,e3,Y,e5,e6,e7):=Q i p N;have NH:its[i]?=a0 v:=hP;rw[e1]at NH;cases NH;show a5 (tv (a5 (wpAny_tryCatch ?_)));unfold ϒ;show a5 (VH (T:="tuple") #[o,Y,e5] ?_);rw[ϥ (by decide)];show a5 (KX Y e6 (cL ?_));change eW _ _ (O3 [m,p.2] (dictSet d m p.2)) _ _ _;have G:ps.drop i=p::ps.drop (i+1):=by
   rw[RT t];have:ps[i]=p:=by simpa[t] using N
   rw[this]
  have MO:p.1∉c.map (·.1):=λz=>by
   rw[G,eH,ri]at j;show j.2.2 _ z _ (by simp) rfl
  have QM:ſ c p.1 p.2=c++[p]:=by
   unfold ſ;rw[Ϧ λz=>by
    have(x,hx,e):=Wj.mp z;show MO (k8.mpr #[x,hx,by simpa using e])]
  show tv (wpAny_dictSet_pairs (hsz:=by lia) e7 Kk λH n J7=>?_);rw[QM]at n;have u:∀b o,b≠d->h'.get? b=a0 o->H.get? b=a0 o:=λb o f e=>(J7.2 b f).trans e;have Mg:H.IsListIter I ax (i+1):=by
   have(z,_):=O;show z.at λo e=>u _ o (uv y) e
  have UC:H.IsList ax its:=by
   have(_,z):=O;show z.at λo e=>u _ o TV e
  rw[G,eH]at j;rw[G]at l;show cL #[SM cY _,ih (i+1) _ (c++[p]) ⋯ t Mg UC (by simp;lia) (Q.keep λb o f _ e=>u b o f e) n (by simpa using j) λh3 Za WE k3=>l h3 Za (by simpa using WE) λb o f JO e=>k3 b o f JO (u b o f (h b o JO e))]
end
theorem ze{h:Mt}:∀{as:List gi}{ps:List (Str×V)},as.length=ps.length->(∀(j:Nat) a p,as[j]?=a0 a->ps[j]?=a0 p->∃(o:Obj) (n:Nat) (t:Tok) (v:dV),h.get? a=a0 o/\o.cls=.type "tuple"/\o.data=.seq #v[.str p.1 t,v] n/\RelV p.2 v) ->
  ∃vs:List (Key×dV),vs.length=ps.length/\vs.map (·.1)=ps.map (λp=>(nz p.1:Key))/\KV (ps.map λp=>((nz p.1:Key),p.2)) vs/\∀(j:Nat) q,vs[j]?=a0 q->∃a p o n t,as[j]?=a0 a/\ps[j]?=a0 p/\q.1=nz p.1/\h.get? a=a0 o/\o.cls=.type "tuple"/\o.data=.seq #v[.str p.1 t,q.2] n
 |[],[],_,_=>#[[],rfl,rfl,.nil,by simp]
 |[],_::_,h,_=>by simp at h
 |_::_,[],h,_=>by simp at h
 |a::as,p::ps,hl,f=>by
  have(vs,g,i,k,l):=ze (as:=as) (ps:=ps) (by simpa using hl) λj b q c d=>f (j+1) b q (by simpa using c) (by simpa using d);have(o,n,t,v,c,d,m,r):=f 0 a p rfl rfl;show#[(nz p.1,v)::vs,by simp[g],by simp[i],.cons #[rfl,r] k,λj q e=>?_];cases j with
  |zero =>
   simp at e;subst e;show#[a,p,o,n,t,rfl,rfl,rfl,c,d,m]
  |succ j =>
   have(a',s,o',u,t',w,x,z):=l j q (by simpa using e);show#[a',s,o',u,t',by simpa using w,by simpa using x,z]
section
def BU{as:List gi}{ps:List (Str×V)}(hc:X.calm=b5)(I:Inv X c σ H s)(e:JG X.K H L (as.map V.ref))(hl:as.length=ps.length)(ht:∀(j:Nat) a p,as[j]?=a0 a->ps[j]?=a0 p->JH X.K H a [.str p.1,p.2])(Jk:(ps.map (·.1)).Nodup)
  (q:∀d,H d=bD->Q (.ref d) (upd H d (.dK (ps.map λp=>((nz p.1:Key),p.2))))) :
  eW (hJ X.prog X.w) X.A (QI (.type "dict") [.ref L]) (EP X c σ Q) X.xe s:=by
 have(its,rv,pl,hz):=I.list e;rw[cK]at hz;have Kp:its.length=ps.length:=by rw[<-rv.length,cK,hl]
 have OG:its=as.map hU:=by
  have:∀(as:List gi) (its:List dV),Vals (as.map V.ref) its->its=as.map hU:=λas=>by
   induction as with
   |nil=>intro its h;cases h;rfl
   |cons a as ih =>
    intro its h;cases h with
    |cons r t=>rw[ih _ t];cases r;rfl
  show this as its rv
 subst OG;have(o,n,ho,C,D,G):=pl;have(oc,od,ab,Pb):=o;simp only at C D G;subst C D G;have(vs,v1,v2,v3,v4):=ze (h:=s.heap) hl λj a p e1 e2=>by
  have(us,r,(o,i,h2,n,h3),_):=I.tuple (ht j a p e1 e2);cases r with
  |cons r1 y =>
   cases y with
   |cons y r3 =>
    cases r3;have(t,rfl):=r1;show#[o,n,t,_,i,h2,h3,y]
 have J:X.A.handled=bD:=I.ok.hd hc;have N:L<s.heap.objs.size:=fS ho;show Ϝ (Q₁:=λobj O=>obj=.ref s.heap.objs.size/\O={s with heap:=s.heap.push {cls:=.type "dict",data:=.dict #v[]}}) PySem.F.kt_called_dict (PySem.F.kt_typeCall_dict_1 _) PySem.F.entry_dict_init (kt_code_dict_new _ #[rfl,rfl]) ?_;rintro obj O ⟨rfl,rfl⟩;have B:(s.heap.push {cls:=.type "dict",data:=.dict #v[]}).DictOf (aG X.prog X.w) s.heap.objs.size []:=ö s.heap;have k:∀b u,s.heap.get? b=a0 u->(s.heap.push {cls:=.type "dict",data:=.dict #v[]}).get? b=a0 u:=λb u z=>b6 _ z;show#[B.typeIs,PySem.F.args_dict_init_2 _ _,?_];unfold OB.«dict.__init__»;show a5 ?_;unfold ϑ;show a5 (wpAny_notOrdered_dict B.typeIs ?_);change eW _ _ (pure (s.heap.objs.size,[hU L])) _ _ _;show cL ?_;change eW _ _ (Zh "dict.__init__" s.heap.objs.size (.ref L) [] .none) _ _ _;unfold Zh;show a5 (VH (T:="list") #[_,k _ _ ho,rfl] ?_);rw[ϥ (by decide)];show a5 (pS (k _ _ ho) J λi ac k1=>?_);have Y:=k1 _ _ (k _ _ ho);have Pn:i.DictOf (aG X.prog X.w) s.heap.objs.size []:=by
  have(o,es,ep,ho,r):=B;show#[o,es,ep,k1 _ _ ho,r]
 have v:s.heap.objs.size<i.objs.size:=by
  have(o,es,ep,ho,r):=Pn;show fS ho
 show a5 (Nb (a5 (Tr #[_,Y,rfl,n,rfl] ?_)));show cL #[SM cY _,zd (A:=X.A.in1) (ax:=L) (I:=i.objs.size) (d:=s.heap.objs.size) (its:=(as.map hU).toArray) (ps:=vs) J (gr (RC N v)) (gr v) (gr N) ⋯ (by simp;lia) vs.length 0 _ [] ⋯ (nH _) #[_,f6 _ rfl,rfl,rfl] #[_,b6 _ Y,rfl,n,rfl] (i4 _) (λj q hq=>?_) (Pn.push _) (by rw[LV,hY,Ŷ,v2];show(fx (f:=λp:Str×V=>p.1) (g:=λx=>(nz x:Key))▸(ό _ (λa b Lh z=>Lh (by injection z)) Jk)) ) λh' tk Kk kp=>?_]
 .have(a,p,o,m,t,z1,z2,z3,z4,z5,z6):=v4 j q hq;have l:=fS z4;show#[a,o,m,.str p.1 t,by simp[z1],gr l,gr (RC l v),b6 _ (k1 _ _ (k _ _ z4)),z5,z6,?_];rw[z3];change N' p.1 (.str p.1 t)=b5;simp[N']
 .show#[rfl,.ref s.heap.objs.size,upd H s.heap.objs.size (.dK (ps.map λp=>((nz p.1:Key),p.2))),I.laid (a:=s.heap.objs.size) (λb u z=>?_) (i4 _) ⟨by rw[cK];lia,?_,vs,v3,?_⟩,rfl,q _ (I.Jg.fresh (i4 _))]
  .have l:=fS z;show kp b u (gr l) (gr (RC l v)) (b6 _ (k1 _ _ (k _ _ z)))
  .show ϫ.mpr (va I.big)
  .simpa using Kk
end
section
def Inv.freeze(I:Inv X a σ H s)(c:H r=a0 (.dK kvs))(ho:s.heap.get? r=a0 o):Inv X a σ (upd H r (.J_ o (.dK kvs))) s:=by
 have d:∀b u,H b=a0 u->u≠.dK kvs->b≠r:=λb u e n z=>by subst z;rw[c]at e;cases e;show n rfl
 show I.write (t':=s.toks) (x:=r) (e:=r) (by rw[c];trivial) (.inl rfl) (λb u _ q=>q) ⟨o,ho⟩ ⟨ho,(I.Jg r _ c).ia (λ_ _ _ q=>q) (λb q=>by rw[aj (d b _ q (λz=>by cases z))];show q) λb xs q=>by rw[aj (d b _ q (λz=>by cases z))];show q⟩
def EN(h:PE X e c):PE X e (λσ H Q=>∃r kvs,H r=a0 (.dK kvs)/\∀o,c σ (upd H r (.J_ o (.dK kvs))) Q):=by
 intro a s σ H Q I ⟨r,kvs,b,d⟩;have(_,_,vs,_,o,es,ep,ho,_):=(show bF X.prog X.w H s.heap r (.dK kvs) from I.Jg r _ b)
 show h a s σ _ Q (I.freeze b ho) (d o)
end
abbrev QN(r:gi)(o:Obj)(kvs:List (Key×V)):It :=
 #[λi H=>H r=a0 (.J_ o (.dK kvs))/\i<kvs.length,λi H x H'=>∃p,H p=bD/\x=.ref p/\∀k v,kvs[i]?=a0 (k,v)->H'=upd H p (.tup [kV k,v]),λi H=>H r=a0 (.J_ o (.dK kvs))/\kvs.length<=i]
def EO(h:(aG P w).is k u=b5):RelV (kV k) u:=by
 rcases bq (show jX k u=b5 from h) with⟨i,t,rfl,rfl⟩|⟨y,t,rfl,rfl⟩
 .show#[t,rfl]
 .show#[t,rfl]
theorem Dx:∀{kvs:List (Key×V)}{vs:List (Key×dV)},KV kvs vs->∀(i:Nat) (h:i<kvs.length) (h':i<vs.length),kvs[i].1=vs[i].1/\RelV kvs[i].2 vs[i].2
 |_,_,.cons a _,0,_,_=>a
 |_,_,.cons _ b,i+1,h,h'=>Dx b i (by simpa using h) (by simpa using h')
def lV{K:PySem.W.Frag}(l:o.data=.dict L ep):
  Turn P w K (.Tuple es kx ps) (QN r o kvs) [it] it (λi h=>∃d e,IsItemIter h it r i kvs.length ep d e) where
 mem:=by simp
 obj:=λi h ⟨d,e,st⟩ b a=>by
  rw[kj.mp a];show#[_,st,λv z=>by
    have z':W5 _=ð v:=z;cases z']
 keep:=λi h h' ⟨d,e,st⟩ k=>#[d,e,k it (by simp) _ st]
 item:=by
  intro X t u hK N i c s σ H E I m ⟨d,e,st⟩ x;subst t u;have(y,B):=x;have(ho,z1,z2,vs,kv,o',Zb,Mz,f,C,g,D):=(show bF X.prog X.w H s.heap r (.J_ o (.dK kvs)) from I.Jg r _ y)
  rw[ho]at f;cases f;rw[l]at g;cases g;have hl:vs.length=kvs.length:=(Paired.length kv).symm;have G:s.heap.DictAt (aG X.prog X.w) r vs ep:=#[o,L,ho,C,l,D]
  obtain⟨q,hq,e1,e2⟩:∃q,vs[i]?=a0 q/\kvs[i].1=q.1/\RelV kvs[i].2 q.2:=by
   have O:i<vs.length:=by lia
   show#[vs[i],by simp[O],?_];show Dx kv i B O
  rw[<-hl]at st;show wpAny_pyNext_items_item st G (k:=q.1) (v:=q.2) hq λj h1 hk J hT hsz UD=>#[_,rfl,wpAny_letOwnedTupleGo_items (s:={s with heap:=h1}) J λn T Y=>?_]
  have Jr:it<s.heap.objs.size:=fS st;have QF:n.get? s.heap.objs.size=a0 {cls:=.type "tuple",data:=.seq #v[j,q.2]}:=(Y.2 _ (va Jr)).trans hT;have k2:∀b o,b∉[it]->s.heap.get? b=a0 o->n.get? b=a0 o:=λb o a q=>by
   have p:b≠it:=λz=>a (by simp[z]);show(Y.2 b p).trans (UD b o p q)
  have I2:Inv X c σ (upd H s.heap.objs.size (.tup [kV kvs[i].1,kvs[i].2])) {s with heap:=n,toks:=s.toks}:=I.ir m k2 (i4 _)
   (show bF X.prog X.w _ n _ (.tup [kV kvs[i].1,kvs[i].2]) from#[by change 2<=dt;decide,[j,q.2],.cons (by rw[e1];show EO hk) (.cons e2 .nil),#[_,QF,rfl,_,rfl]])
  show#[.ref s.heap.objs.size,_,I2,rfl,#[_,I.Jg.fresh (i4 _),rfl,λk v Pu=>?_],#[_,_,by rw[hl]at T;show T],λb a=>?_]
  .rw[pb B]at Pu;rw[tA Pu]
  .have p:b≠s.heap.objs.size:=by rw[kj.mp a];show gr Jr
   rw[aj p];show(m b a).1
 done:=by
  intro X t u hK N i c s σ H E I m ⟨d,e,st⟩ x;subst t u;have(y,B):=x;have(ho,z1,z2,vs,kv,o',Zb,Mz,f,C,g,D):=(show bF X.prog X.w H s.heap r (.J_ o (.dK kvs)) from I.Jg r _ y)
  rw[ho]at f;cases f;rw[l]at g;cases g;have hl:vs.length=kvs.length:=(Paired.length kv).symm;have G:s.heap.DictAt (aG X.prog X.w) r vs ep:=#[o,L,ho,C,l,D]
  rw[<-hl]at st;show wpAny_pyNext_items_end (by simpa using I.ok.hd N) st G (Ti ⋯) λh' ND=>#[rfl,I.kN (t':=s.toks) m λb o a q=>ND b o (λz=>a (by simp[z])) q]
 self:=λA i s Q E ⟨d,e,st⟩ h=>kcp_self st h
section
abbrev IJ(i:Nat):TI:=λσ H R=>∃r o kvs,σ[i]?=a0 (a0 (.ref r))/\H r=a0 (.J_ o (.dK kvs))/\R (QN r o kvs) H
def zf(t:X.N[i]?=a0 x)(y:K4 X.env.scope x)(A:(x==("__debug__":Str))=cb)(B:(x==("__classdict__":Str))=cb)(C:(c.endLine==D.line)=b5):
  PI X (.Tuple es kx ps) (.Call (.Attribute (.Name x px) "items" c) [] [] D) (IJ i):=by
 intro d s σ H R I ⟨r,o,kvs,hs,G,J⟩;show Td rfl C (Jj (cD t y A B d s σ H (λv g=>v=.ref r/\g=H) I ⟨_,hs,rfl,rfl⟩) λv s1 L=>?_);have(x1,g,h,O,m,Q):=L;subst m Q;cases(show v=hU r from O);have(ho,m,lo,vs,kv,o',k,ep,n,f,j,l):=(show bF X.prog X.w g s1.heap r (.J_ o (.dK kvs)) from h.Jg r _ G)
 rw[ho]at n;cases n;have hl:vs.length=kvs.length:=(Paired.length kv).symm;have hm:s1.heap.DictAt (aG X.prog X.w) r vs ep:=#[o,k,ho,f,j,l]
 have p:s1.TypeIs (.ref r) "dict":=#[o,ho,f.1]
 show#["dict","dict.items",PySem.F.plainAttrs_dict,PySem.F.slot_dict_items,PySem.F.type_dict_items,p,λa e=>#[o,by cases e;show ho,f.2.1],Kj rfl (PySem.evalArgs_none (XI PySem.F.slot_dict_items p PySem.F.entry_dict_items (PySem.F.args_dict_items_1 _) (Þ (aG X.prog X.w) r lo) #[#[vs,o,k,ep,ho,f,j,l],?_]))];have k1:∀b u,s1.heap.get? b=a0 u->(s1.heap.push {cls:=.type "dict_items",data:=.fields #v[.ref r]}).get? b=a0 u:=λb u z=>b6 _ z;have T:(s1.heap.push {cls:=.type "dict_items",data:=.fields #v[.ref r]}).DictAt (aG X.prog X.w) r vs ep:=#[o,k,k1 _ _ ho,f,j,l]
 show Ż (s:={s1 with heap:=s1.heap.push {cls:=.type "dict_items",data:=.fields #v[.ref r]}}) ⟨_,f6 _ rfl,rfl,rfl⟩ T ?_;have hsz:(s1.heap.push {cls:=.type "dict_items",data:=.fields #v[.ref r]}).objs.size=s1.heap.objs.size+1:=MA ..;have Y:=h.kept (t':=s1.toks) (h':=(s1.heap.push {cls:=.type "dict_items",data:=.fields #v[.ref r]}).push {cls:=.type "dict_itemiterator",data:=.fields #v[.none,.bool cb,.ref r,.int 0 0,.int vs.length 0,.int ep 0,.none,.none]}) λb u z=>b6 _ (k1 b u z);show#[_,[_],_,_,g,rfl,Y,lV (kvs:=kvs) j,#[.none,.none,by rw[<-hl];show f6 _ rfl],λb hb=>?_,J];rw[kj.mp hb];have q:s1.heap.objs.size<=(s1.heap.push {cls:=.type "dict_items",data:=.fields #v[.ref r]}).objs.size:=by rw[hsz];show Oi _
 show h.qL q (h.Jg.fresh q)
end
section
abbrev GR(b:TE):TI:=λσ H R=>b σ H λv a=>∃r kvs,v=.ref r/\a r=a0 (.dK kvs)/\∀o,R (QN r o kvs) (upd a r (.J_ o (.dK kvs)))
def xr(A:PE X e B)(C:SN e "items" X.env (K6 e X.env)=K6 e X.env)(D:(c.endLine==G.line)=b5):
  PI X (.Tuple es kx ps) (.Call (.Attribute e "items" c) [] [] G) (GR B):=by
 intro d s σ H R I J;show Td C D (Jj (A d s σ H _ I J) λv s1 L=>?_);have(x1,m,n,N,r,kvs,p,q,h):=L;subst p;cases(show v=hU r from N);have(_,_,_,_,o,_,_,O,_):=(show bF X.prog X.w m s1.heap r (.dK kvs) from n.Jg r _ q)
 have f:=n.freeze q O;have h:=h o;generalize Q:upd m r (.J_ o (.dK kvs))=j at f h;have T:j r=a0 (.J_ o (.dK kvs)):=by rw[<-Q];show aw
 have(ho,p,lo,vs,kv,o',k,ep,t,g,i,l):=(show bF X.prog X.w j s1.heap r (.J_ o (.dK kvs)) from f.Jg r _ T)
 rw[ho]at t;cases t;have hl:vs.length=kvs.length:=(Paired.length kv).symm;have hm:s1.heap.DictAt (aG X.prog X.w) r vs ep:=#[o,k,ho,g,i,l]
 have x:s1.TypeIs (.ref r) "dict":=#[o,ho,g.1]
 show#["dict","dict.items",PySem.F.plainAttrs_dict,PySem.F.slot_dict_items,PySem.F.type_dict_items,x,λa e=>#[o,by cases e;show ho,g.2.1],Kj rfl (PySem.evalArgs_none (XI PySem.F.slot_dict_items x PySem.F.entry_dict_items (PySem.F.args_dict_items_1 _) (Þ (aG X.prog X.w) r lo) #[#[vs,o,k,ep,ho,g,i,l],?_]))];have k1:∀b u,s1.heap.get? b=a0 u->(s1.heap.push {cls:=.type "dict_items",data:=.fields #v[.ref r]}).get? b=a0 u:=λb u z=>b6 _ z;have Y:(s1.heap.push {cls:=.type "dict_items",data:=.fields #v[.ref r]}).DictAt (aG X.prog X.w) r vs ep:=#[o,k,k1 _ _ ho,g,i,l]
 show Ż (s:={s1 with heap:=s1.heap.push {cls:=.type "dict_items",data:=.fields #v[.ref r]}}) ⟨_,f6 _ rfl,rfl,rfl⟩ Y ?_;have hsz:(s1.heap.push {cls:=.type "dict_items",data:=.fields #v[.ref r]}).objs.size=s1.heap.objs.size+1:=MA ..;have I2:=f.kept (t':=s1.toks) (h':=(s1.heap.push {cls:=.type "dict_items",data:=.fields #v[.ref r]}).push {cls:=.type "dict_itemiterator",data:=.fields #v[.none,.bool cb,.ref r,.int 0 0,.int vs.length 0,.int ep 0,.none,.none]}) λb u z=>b6 _ (k1 b u z);show#[_,[_],_,_,j,rfl,I2,lV (kvs:=kvs) i,#[.none,.none,by rw[<-hl];show f6 _ rfl],λb hb=>?_,h];rw[kj.mp hb];have y:s1.heap.objs.size<=(s1.heap.push {cls:=.type "dict_items",data:=.fields #v[.ref r]}).objs.size:=by rw[hsz];show Oi _
 show f.qL y (f.Jg.fresh y)
end
end L2
namespace TM
open PySem L2
inductive U where
 |Jp|bl (b:Bool)|int (i:Int)|str (x:Str)
 |tup (xs:List U)|lst (xs:List U)
 |Jc (ks:List Str) (vs:List U)|J8 (ks:List nq)
mutual
noncomputable def Jy:U->Bool
 |.tup xs=>dZ xs
 |.lst _=>cb
 |.Jc _ _=>cb
 |.J8 _=>cb
 |.Jp=>b5|.bl _=>b5|.int _=>b5|.str _=>b5
noncomputable def dZ:List U->Bool
 |[]=>b5
 |u::us=>Jy u&&dZ us
end
inductive Kd where|own|io|loc|any|bor (j:Nat)|G'
deriving DecidableEq
abbrev Kd.root:Kd->Bool
 |.own=>b5
 |.io=>b5
 |_=>cb
@[reducible]def aB:=List (Option (Kd×U))
structure Ct where
 P:B'
 w:JT
 K:PySem.W.Frag
 H₀:Hp
 LX:gi->Prop
 IO:gi->Prop
abbrev KL(K:PySem.W.Frag)(a:gi)(xs:List V):Prop :=
 ∃(o:Obj) (its:Array dV) (n:Nat),K.lookup a=a0 o/\o.cls=.type "list"/\o.dict=bD/\o.data=.seq its n/\its.size<=dt/\Vals xs its.toList
abbrev QP(K:PySem.W.Frag)(S:gi->Prop)(H:Hp)(a:gi)(vs:List V):Prop:=(S a/\Rd H a (.lst vs))\/KL K a vs
def QP.sq(h:QP K S H a vs):JG K H a vs:=h.elim (λz=>.inl z.2) .inr
abbrev NU(H:Hp)(R:List V->Prop)(a:gi)(ks:List Str):Prop:=∃kvs:List (Key×V),H a=a0 (.dK kvs)/\kvs.map (·.1)=ks.map nz/\R (kvs.map (·.2))
section
variable(C:Ct)(S:gi->Prop)(H:Hp)
mutual
def Rep:U->V->Prop
 |.Jp,v=>v=.Jp
 |.bl b,v=>v=.bl b
 |.int i,v=>v=.int i
 |.str x,v=>v=.str x
 |.tup us,v=>∃a vs,v=.ref a/\JH C.K H a vs/\ai us vs
 |.lst us,v=>∃a vs,v=.ref a/\QP C.K S H a vs/\ai us vs
 |.Jc ks us,v=>∃a,v=.ref a/\S a/\NU H (ai us) a ks
 |.J8 ks,v=>∃a,v=.ref a/\S a/\fF C.P C.w C.K H a ks
def ai:List U->List V->Prop
 |[],vs=>vs=[]
 |u::us,vs=>∃v r,vs=v::r/\Rep u v/\ai us r
end
end
def Tp:HO->Prop
 |.tup _=>True
 |.J_ _ (.tup _)=>True
 |_=>False
structure Mv(S:gi->Prop)(H:Hp)(S':gi->Prop)(H':Hp):Prop where
 sub:∀a,S a->S' a
 QQ:∀a o,H a=a0 o->Tp o->H' a=a0 o
 R3:∀a o,S a->H a=a0 o->H' a=a0 o
def Mv.UH(m:Mv S H S' H')(h:JH K H a vs):JH K H' a vs:=by
 rcases h with(h|⟨o,h⟩)|h
 .show .inl (.inl (m.QQ a _ h trivial))
 .show .inl (.inr #[o,m.QQ a _ h trivial])
 .show .inr h
def Mv.Ze(m:Mv S H S' H')(h:QP K S H a vs):QP K S' H' a vs:=by
 rcases h with⟨s,h|⟨o,h⟩⟩|h
 .show .inl #[m.sub a s,.inl (m.R3 a _ s h)]
 .show .inl #[m.sub a s,.inr #[o,m.R3 a _ s h]]
 .show .inr h
def Mv.row(m:Mv S H S' H')(h:fQ K H v r):fQ K H' v r :=
 let ⟨a,b,e,c,d⟩:=h;⟨a,b,e,m.UH c,m.UH d⟩
def NU.mv(b:∀o,H a=a0 o->H' a=a0 o)(c:∀vs,R vs->d vs)(h:NU H R a ks):NU H' d a ks :=
 let ⟨kvs,e,f,g⟩:=h;⟨kvs,b _ e,f,c _ g⟩
def Mv.u7(m:Mv S H S' H')(b:∀o,H a=a0 o->H' a=a0 o)(h:fF P w K H a ks):fF P w K H' a ks :=
 let ⟨xs,c,d,e⟩:=h;⟨xs,b _ c,d,λx f=>m.row (e x f)⟩
section
mutual
theorem Rep.NV(m:Mv S H S' H'):∀(u:U) (v:V),Rep C S H u v->Rep C S' H' u v
 |.Jp,_,h=>h
 |.bl _,_,h=>h
 |.int _,_,h=>h
 |.str _,_,h=>h
 |.tup us,v,h=>by
  have(a,vs,e,b,c):=h;show#[a,vs,e,m.UH b,ai.NV m us vs c]
 |.lst us,v,h=>by
  have(a,vs,e,b,c):=h;show#[a,vs,e,m.Ze b,ai.NV m us vs c]
 |.Jc ks us,v,h=>by
  have(a,e,b,c):=h;show#[a,e,m.sub a b,c.mv (λo q=>m.R3 a o b q) λvs q=>ai.NV m us vs q]
 |.J8 ks,v,h=>by
  have(a,e,b,c):=h;show#[a,e,m.sub a b,m.u7 (λo q=>m.R3 a o b q) c]
theorem ai.NV(m:Mv S H S' H'):∀(us:List U) (vs:List V),ai C S H us vs->ai C S' H' us vs
 |[],_,h=>h
 |u::us,vs,h=>by
  have(v,r,e,a,b):=h;show#[v,r,e,Rep.NV m u v a,ai.NV m us r b]
end
mutual
theorem Rep.xu:∀(u:U) (v:V),Jy u=b5->Rep C S H u v->Rep C S' H u v
 |.Jp,_,_,h=>h
 |.bl _,_,_,h=>h
 |.int _,_,_,h=>h
 |.str _,_,_,h=>h
 |.tup us,v,i,h=>by
  have(a,vs,e,b,c):=h;show#[a,vs,e,b,ai.xu us vs (by simpa[TM.Jy] using i) c]
 |.lst us,v,i,h=>by simp[TM.Jy]at i
 |.Jc ks us,v,i,h=>by simp[TM.Jy]at i
 |.J8 ks,v,i,h=>by simp[TM.Jy]at i
theorem ai.xu:∀(us:List U) (vs:List V),dZ us=b5->ai C S H us vs->ai C S' H us vs
 |[],_,_,h=>h
 |u::us,vs,i,h=>by
  have(v,r,e,b,c):=h;have a:TM.Jy u=b5/\dZ us=b5:=by simpa[dZ] using i
  show#[v,r,e,Rep.xu u v a.1 b,ai.xu us r a.2 c]
end
def Rep.mv(m:Mv S H S' H')(h:Rep C S H u v):Rep C S' H' u v:=Rep.NV m u v h
def ai.mv(m:Mv S H S' H')(h:ai C S H us vs):ai C S' H' us vs:=ai.NV m us vs h
def Rep.Jy(i:TM.Jy u=b5)(h:Rep C S H u v):Rep C S' H u v:=Rep.xu u v i h
def ai.Jy(i:dZ us=b5)(h:ai C S H us vs):ai C S' H us vs:=ai.xu us vs i h
def Mv.up(sub:∀a,S a->S' a):Mv S H S' H:=#[sub,λ_ _ h _=>h,λ_ _ _ h=>h]
theorem ai.len:∀{us:List U}{vs:List V},ai C S H us vs->us.length=vs.length
 |[],_,h=>by cases h;rfl
 |u::us,vs,h=>by
  have(v,r,rfl,_,a):=h;rw[mx,mx,ai.len a]
theorem ai.get:∀{us:List U}{vs:List V}{i:Nat}{u:U},ai C S H us vs->us[i]?=a0 u->∃v,vs[i]?=a0 v/\Rep C S H u v
 |[],_,_,_,_,e=>by simp at e
 |u::us,vs,0,w,h,e=>by
  have(v,r,rfl,a,_):=h;simp at e;subst e;show#[v,rfl,a]
 |u::us,vs,i+1,w,h,e=>by
  have(v,r,rfl,_,b):=h;have(c,d,h'):=ai.get (i:=i) (u:=w) b (by simpa using e);show#[c,by simpa using d,h']
theorem ai.append:∀{us ws:List U}{vs a:List V},ai C S H us vs->ai C S H ws a->ai C S H (us++ws) (vs++a)
 |[],_,_,_,h,h'=>by cases h;show h'
 |u::us,ws,vs,a,h,h'=>by
  have(v,r,rfl,b,c):=h;show#[v,r++a,rfl,b,c.append h']
theorem ai.take:∀{us:List U}{vs:List V} (n:Nat),ai C S H us vs->ai C S H (us.take n) (vs.take n)
 |_,_,0,_=>by simp[ai]
 |[],_,n+1,h=>by cases h;simp[ai]
 |u::us,vs,n+1,h=>by
  have(v,r,rfl,a,b):=h;show#[v,r.take n,rfl,a,b.take n]
theorem ai.set:∀{us:List U}{vs:List V} (n:Nat) {u:U}{v:V},ai C S H us vs->Rep C S H u v->ai C S H (us.set n u) (vs.set n v)
 |[],_,n,_,_,h,_=>by cases h;simp[ai]
 |u::us,vs,0,_,_,h,h'=>by
  have(v,r,rfl,b,a):=h;show#[_,r,rfl,h',a]
 |u::us,vs,n+1,_,_,h,h'=>by
  have(v,r,rfl,b,a):=h;show#[v,_,rfl,b,a.set n h']
def ai.snoc(h:ai C S H us vs)(h':Rep C S H u v):ai C S H (us++[u]) (vs++[v]):=h.append #[v,[],rfl,h',rfl]
theorem ai.strs:∀{xs:List Str}{vs:List V},ai C S H (xs.map .str) vs↔vs=xs.map V.str
 |[],vs=>by simp[ai]
 |x::xs,vs=>by
  constructor
  .rintro⟨v,r,rfl,a,b⟩;rw[ai.strs.mp b];have:v=.str x:=a;rw[this];rfl
  .rintro rfl;show#[_,_,rfl,rfl,ai.strs.mpr rfl]
end
structure Ct.Eqv(C C':Ct):Prop where
 P:C.P=C'.P
 w:C.w=C'.w
 K:C.K=C'.K
section
mutual
theorem Rep.NW(q:C.Eqv d):∀(u:U) (v:V),Rep C S H u v->Rep d S H u v
 |.Jp,_,h=>h
 |.bl _,_,h=>h
 |.int _,_,h=>h
 |.str _,_,h=>h
 |.tup us,v,h=>by
  have(a,vs,e,b,c):=h;show#[a,vs,e,q.K▸b,ai.NW q us vs c]
 |.lst us,v,h=>by
  have(a,vs,e,b,c):=h;show#[a,vs,e,q.K▸b,ai.NW q us vs c]
 |.Jc ks us,v,h=>by
  have(a,e,b,c):=h;show#[a,e,b,c.mv (λ_ q=>q) λvs z=>ai.NW q us vs z]
 |.J8 ks,v,h=>by
  have(a,e,b,c):=h;show#[a,e,b,by rw[<-q.P,<-q.w,<-q.K];show c]
theorem ai.NW(q:C.Eqv a):∀(us:List U) (vs:List V),ai C S H us vs->ai a S H us vs
 |[],_,h=>h
 |u::us,vs,h=>by
  have(v,r,e,b,c):=h;show#[v,r,e,Rep.NW q u v b,ai.NW q us r c]
end
def Rep.cg(q:C.Eqv a)(h:Rep C S H u v):Rep a S H u v:=Rep.NW q u v h
def ai.cg(q:C.Eqv a)(h:ai C S H us vs):ai a S H us vs:=ai.NW q us vs h
end
def dv(C:Ct)(S:gi->Prop)(H:Hp)(r:gi):U->Prop
 |.lst us=>∃vs,H r=a0 (.lst vs)/\ai C S H us vs
 |.Jc ks us=>NU H (ai C S H us) r ks
 |.J8 ks=>fF C.P C.w C.K H r ks
 |_=>False
def dv.mv(m:Mv S H S' H')(a:∀o,H r=a0 o->H' r=a0 o)(h:dv C S H r u):dv C S' H' r u:=by
 cases u with
 |lst us=>have(vs,b,c):=h;show#[vs,a _ b,c.mv m]
 |Jc ks us=>show NU.mv a (λvs q=>q.mv m) h
 |J8 ks=>show m.u7 a h
 |_=>show h
def dv.rep(hs:∀a,S a->S' a)(b:S' r)(h:dv C S H r u):Rep C S' H u (.ref r):=by
 cases u with
 |lst us=>have(vs,c,d):=h;show#[r,vs,rfl,.inl #[b,.inl c],d.mv (.up hs)]
 |Jc ks us=>show#[r,rfl,b,NU.mv (λ_ q=>q) (λvs q=>q.mv (.up hs)) h]
 |J8 ks=>show#[r,rfl,b,h]
 |_=>show h.elim
def dv.cg(q:C.Eqv a)(h:dv C S H r u):dv a S H r u:=by
 cases u with
 |lst us=>have(vs,b,c):=h;show#[vs,b,c.cg q]
 |Jc ks us=>show NU.mv (λ_ q=>q) (λvs z=>z.cg q) h
 |J8 ks=>change fF _ _ _ _ _ _;rw[<-q.P,<-q.w,<-q.K];show h
 |_=>show h
def dv.some(h:dv C S H r u):∃o,H r=a0 o/\¬Tp o:=by
 cases u with
 |lst us=>have(vs,a,_):=h;show#[_,a,λz=>z]
 |Jc ks us=>have(kvs,a,_):=h;show#[_,a,λz=>z]
 |J8 ks=>have(xs,a,_):=h;show#[_,a,λz=>z]
 |_=>show h.elim
structure Cf where
 S:gi->Prop
 H:Hp
 σ:St
 st:aB
 kid:Nat->List gi
abbrev Cf.R1(c:Cf)(a:gi):Prop:=∃(j:Nat) (k:Kd) (u:U),k.root=b5/\c.st[j]?=a0 (a0 (k,u))/\c.σ[j]?=a0 (a0 (.ref a))
abbrev Cf.RD(c:Cf)(j:Nat)(a:gi):Prop:=∃(u:U) (r:gi),c.st[j]?=a0 (a0 (.G',u))/\c.σ[j]?=a0 (a0 (.ref r))/\(a=r\/a∈c.kid j)
abbrev Cf.R(c:Cf)(a:gi):Prop:=c.R1 a\/∃j,c.RD j a
abbrev Cf.R4(c:Cf)(a:gi):Prop:=∃j,c.RD j a
abbrev PS(C:Ct)(S:gi->Prop):gi->Prop:=λa=>C.LX a\/S a
def fZ(C:Ct)(S:gi->Prop)(H:Hp):Kd->U->V->Prop
 |.own,u,v=>∃r,v=.ref r/\¬S r/\¬C.LX r/\C.H₀ r=bD/\dv C S H r u
 |.io,u,v=>∃r,v=.ref r/\¬S r/\¬C.LX r/\C.IO r/\dv C S H r u
 |.loc,u,v=>Rep C S H u v
 |.any,u,v=>Rep C (PS C S) H u v
 |.bor _,_,_=>False
 |.G',_,v=>∃r,v=.ref r
def dw(C:Ct)(S:gi->Prop)(H:Hp):List U->List gi->Prop
 |[],as=>as=[]
 |u::us,as=>∃a as' b vs,as=a::as'/\u=.lst b/\H a=a0 (.lst vs)/\ai C S H b vs/\dw C S H us as'
def cf(C:Ct)(S:gi->Prop)(H:Hp)(r:gi)(as:List gi):U->Prop
 |.Jc ks us=>∃kvs:List (Key×V),H r=a0 (.dK kvs)/\kvs.map (·.1)=ks.map nz/\kvs.map (·.2)=as.map V.ref/\(r::as).Nodup/\(∀a∈r::as,¬S a/\¬C.LX a/\C.H₀ a=bD)/\dw C S H us as
 |_=>False
structure Ms(C:Ct)(c:Cf):Prop where
 kd:∀(j:Nat) (u:U) (r:gi),c.st[j]?=a0 (a0 (.G',u))->c.σ[j]?=a0 (a0 (.ref r))->cf C c.S c.H r (c.kid j) u
 dj:∀(i j:Nat) (a:gi),c.RD i a->c.RD j a->i=j
 d1:∀(j:Nat) (a:gi),c.RD j a->¬c.R1 a
structure Ok(C:Ct)(c:Cf):Prop where
 same:∀a o,C.H₀ a=a0 o->¬C.IO a->c.H a=a0 o
 KU:∀a,c.S a->C.H₀ a=bD/\∃o,c.H a=a0 o
 par:∀a,C.LX a->(∃o,C.H₀ a=a0 o)/\¬C.IO a
 io:∀a,C.IO a->(∃o,C.H₀ a=a0 o)/\∃o,c.H a=a0 o
 len:c.st.length=c.σ.length
 sl:∀(i:Nat) (k:Kd) (u:U),c.st[i]?=a0 (a0 (k,u))->∃v,c.σ[i]?=a0 (a0 v)/\fZ C c.S c.H k u v
 inj:∀(i j:Nat) (k k':Kd) (u u':U) (r:gi),k.root=b5->k'.root=b5->c.st[i]?=a0 (a0 (k,u))->c.st[j]?=a0 (a0 (k',u'))->c.σ[i]?=a0 (a0 (.ref r))->c.σ[j]?=a0 (a0 (.ref r))->i=j
 dd:Ms C c
structure Ns(c c':Cf):Prop where
 keep:∀a o,c.H a=a0 o->¬c.R a->c'.H a=a0 o
 there:∀a o,c.H a=a0 o->∃o',c'.H a=a0 o'
 roots:∀a,c'.R a->c.R a\/c.H a=bD
 sub:∀a,c.S a->c'.S a
 new:∀a,c'.S a->c.S a\/c.R a\/c.H a=bD
section
def Ns.refl(c:Cf):Ns c c:=#[λ_ _ h _=>h,λ_ o h=>#[o,h],λ_ h=>.inl h,λ_ h=>h,λ_ h=>.inl h]
def Ns.none(n:Ns c b)(h:b.H a=.none):c.H a=.none:=by
 cases e:c.H a with
 |none=>rfl
 |some o=>have(o',q):=n.there a o e;rw[h]at q;cases q
def Ns.trans(m:Ns c d)(n:Ns d e):Ns c e where
 keep:=λa o h b=>by
  show n.keep a o (m.keep a o h b) λz=>?_;rcases m.roots a z with z|z
  .show b z
  .rw[h]at z;cases z
 there:=λa o h=>let ⟨o',h'⟩:=m.there a o h;n.there a o' h'
 roots:=λa h=>by
  rcases n.roots a h with z|z
  .show m.roots a z
  .show .inr (m.none z)
 sub:=λa h=>n.sub a (m.sub a h)
 new:=λa h=>by
  rcases n.new a h with z|z|z
  .show m.new a z
  .rcases m.roots a z with z|z
   .show .inr (.inl z)
   .show .inr (.inr z)
  .show .inr (.inr (m.none z))
def fZ.rt(hk:k.root=b5)(h:fZ C S H k u v):∃r,v=.ref r/\¬S r/\¬C.LX r/\(C.H₀ r=bD\/C.IO r)/\dv C S H r u:=by
 cases k with
 |own=>have(r,a,b,c,d,e):=h;show#[r,a,b,c,.inl d,e]
 |io=>have(r,a,b,c,d,e):=h;show#[r,a,b,c,.inr d,e]
 |_=>cases hk
theorem dw.mem:∀{us:List U}{as:List gi}{a:gi},dw C S H us as->a∈as->∃vs,H a=a0 (.lst vs)
 |[],as,a,h,ha=>by cases h;cases ha
 |u::us,as,a,h,ha=>by
  have(a',as',d,vs,rfl,_,b,_,c):=h;rcases fR.mp ha with rfl|ha
  .show#[vs,b]
  .show dw.mem c ha
theorem dw.mv(m:Mv S H S' H'):∀{us:List U}{as:List gi},(∀a∈as,∀o,H a=a0 o->H' a=a0 o)->dw C S H us as->dw C S' H' us as
 |[],as,_,h=>h
 |u::us,as,b,h=>by
  have(a,as',c,vs,rfl,e,d,f,g):=h;show#[a,as',c,vs,rfl,e,b a (by simp) _ d,f.mv m,dw.mv m (λa i=>b a (by simp[i])) g]
def cf.fr(h:cf C S H r as u):∀a∈r::as,¬S a/\¬C.LX a/\(C.H₀ a=bD\/C.IO a):=by
 cases u<;>first|show h.elim|(have(kvs,_,_,_,_,b,_):=h;show λa c=>let ⟨p,q,r⟩:=b a c;⟨p,q,.inl r⟩)
def cf.UI(h:cf C S H r as (.Jc ks us)):∀a∈r::as,¬S a/\¬C.LX a/\C.H₀ a=bD:=by
 have(kvs,_,_,_,_,b,_):=h;show b
def cf.there(h:cf C S H r as u):∀a∈r::as,∃o,H a=a0 o/\¬Tp o:=by
 cases u<;>first|show h.elim|skip
 have(kvs,b,_,_,_,_,c):=h;intro a ha;rcases fR.mp ha with rfl|ha
 .show#[_,b,λz=>z]
 .have(vs,e):=c.mem ha;show#[_,e,λz=>z]
def cf.mv(m:Mv S H S' H')(c:∀a∈r::as,¬S' a/\∀o,H a=a0 o->H' a=a0 o)(h:cf C S H r as u):cf C S' H' r as u:=by
 cases u<;>first|show h.elim|skip
 have(kvs,d,e,f,g,i,j):=h;show#[kvs,(c r (by simp)).2 _ d,e,f,g,λa b=>#[(c a b).1,(i a b).2],j.mv m λa b=>(c a (by simp[b])).2]
def Ms.of(d:Ms C c)(hk:e.kid=c.kid)(p:∀(j:Nat) (u:U),e.st[j]?=a0 (a0 (.G',u))->c.st[j]?=a0 (a0 (.G',u))/\e.σ[j]?=c.σ[j]?)(s:∀a,e.R1 a->c.R1 a\/∀j,¬c.RD j a)
  (m:Mv c.S c.H e.S e.H) (t:∀j a,c.RD j a->¬e.S a/\∀o,c.H a=a0 o->e.H a=a0 o):Ms C e:=by
 have b:∀j a,e.RD j a->c.RD j a:=λj a v=>by
  have(u,r,k,f,q):=v;have(g,l):=p j u k;rw[l]at f;rw[hk]at q;show#[u,r,g,f,q]
 show#[λj u r k f=>?_,λi j a h n=>d.dj i j a (b i a h) (b j a n),λj a h n=>?_]
 .have(g,l):=p j u k;rw[l]at f;rw[hk];show cf.mv m (λa w=>t j a #[u,r,g,f,fR.mp w]) (d.kd j u r g f)
 .rcases s a n with z|z
  .show d.d1 j a (b j a h) z
  .show z j (b j a h)
def Ms.hs(d:Ms C c)(m:Mv c.S c.H S' H')(b:∀j a,c.RD j a->¬S' a/\∀o,c.H a=a0 o->H' a=a0 o):Ms C {c with H:=H',S:=S' } :=
 d.of rfl (λ_ _ e=>#[e,rfl]) (λ_ z=>.inl z) m b
def Ok.root(f:Ok C c)(h:c.R r):¬c.S r/\¬C.LX r/\(C.H₀ r=bD\/C.IO r)/\∃o,c.H r=a0 o/\¬Tp o:=by
 rcases h with⟨j,k,u,hk,b,d⟩|⟨j,u,g,b,d,a⟩
 .have(v,e,hs):=f.sl j _ _ b;have(g,ev,a,l,m,n):=hs.rt hk;rw[d]at e;cases e;cases ev;show#[a,l,m,n.some]
 .have i:=f.dd.kd j u g b d;have(p,q,s):=cf.fr i r (fR.mpr a);show#[p,q,s,cf.there i r (fR.mpr a)]
def Ok.mv(b:Ok C c)(n:Ns c d):Mv c.S c.H d.S d.H:=#[n.sub,λa o h t=>n.keep a o h λz=>by
  have(_,_,_,o',h',e):=b.root z;rw[h]at h';cases h';show e t,λa o s h=>n.keep a o h λz=>(b.root z).1 s]
def Ok.M8(b:Ok C c)(n:Ns c d):Mv (PS C c.S) c.H (PS C d.S) d.H:=#[λa h=>h.imp id (n.sub a),(b.mv n).QQ,λa o s h=>n.keep a o h λz=>by
  rcases s with s|s
  .show(b.root z).2.1 s
  .show(b.root z).1 s]
def Ok.kF(a:Ok C c)(h:c.H p=bD):C.H₀ p=bD/\¬c.S p/\¬C.LX p/\¬C.IO p/\¬c.R p:=by
 have b:¬C.IO p:=λz=>by have(_,o,q):=a.io p z;rw[h]at q;cases q
 have d:C.H₀ p=bD:=by
  cases e:C.H₀ p with
  |none=>rfl
  |some o=>have:=a.same p o e b;rw[h]at this;cases this
 show#[d,λz=>?_,λz=>?_,b,λz=>?_]
 .have(_,o,q):=a.KU p z;rw[h]at q;cases q
 .have((o,q),_):=a.par p z;rw[d]at q;cases q
 .have(_,_,_,o,q,_):=a.root z;rw[h]at q;cases q
def fZ.mv(m:Mv S H S' H')(i:Mv (PS C S) H (PS C S') H')(g:k.root=b5->∀r,v=.ref r->¬S' r/\∀o,H r=a0 o->H' r=a0 o)(h:fZ C S H k u v):fZ C S' H' k u v:=by
 cases k with
 |own =>
  have(r,e,l,a,b,c):=h;have(d,f):=g rfl r e;show#[r,e,d,a,b,c.mv m f]
 |io =>
  have(r,e,l,a,b,c):=h;have(d,f):=g rfl r e;show#[r,e,d,a,b,c.mv m f]
 |loc=>show Rep.mv m h
 |any=>show Rep.mv i h
 |bor j=>show h.elim
 |G'=>show h
structure Nx(c c':Cf):Prop extends Ns c c' where
 dk:∀a,c'.R4 a->c.R4 a/\∀o,c.H a=a0 o->c'.H a=a0 o
instance {c a:Cf}:Coe (Nx c a) (Ns c a):=#[Nx.toNs]
def Nx.refl(c:Cf):Nx c c:=#[.refl c,λ_ h=>#[h,λ_ e=>e]]
def Nx.trans(m:Nx c b)(n:Nx b d):Nx c d:=#[m.toNs.trans n.toNs,λa h=>#[(m.dk a (n.dk a h).1).1,λo e=>(n.dk a h).2 o ((m.dk a (n.dk a h).1).2 o e)]]
def Nx.none(n:Nx c b)(h:b.H a=.none):c.H a=.none:=n.toNs.none h
def Ok.lay(b:Ok C c)(h:c.H p=bD):Ok C {c with H:=upd c.H p o}/\Nx c {c with H:=upd c.H p o}:=by
 have l:∀{a:gi} {o':HO},c.H a=a0 o'->a≠p:=λe z=>by subst z;rw[h]at e;cases e
 have d:∀a o',c.H a=a0 o'->(upd c.H p o) a=a0 o':=λa o' e=>by rw[aj (l e)];show e
 have nx:Nx c {c with H:=upd c.H p o}:=#[#[λa o' e _=>d a o' e,λa o' e=>#[o',d a o' e],λa z=>.inl z,λ_ z=>z,λ_ z=>.inl z],λa h=>#[h,d a]]
 show#[#[λa o' e z=>d a o' (b.same a o' e z),λa z=>#[(b.KU a z).1,let ⟨o',q⟩:=(b.KU a z).2;⟨o',d a o' q⟩],b.par,λa z=>#[(b.io a z).1,let ⟨o',q⟩:=(b.io a z).2;⟨o',d a o' q⟩],b.len,λi k u e=>?_,b.inj,b.dd.hs (b.mv nx.toNs) λj a z=>#[(b.root (.inr #[j,z])).1,λo' e=>d a o' e]],nx];have(v,m,f):=b.sl i k u e;show#[v,m,f.mv (b.mv nx.toNs) (b.M8 nx.toNs) λhk r n=>?_];have(t,g,s,_):=f.rt hk;rw[n]at g;cases g;show#[s,λo' e=>d r o' e]
def Ok.grow(b:Ok C c)(hs:Er c.H H')(g:∀a,S' a->c.S a\/(c.H a=bD/\∃o,H' a=a0 o))(s:∀a,c.S a->S' a):Ok C {c with H:=H',S:=S' }/\Nx c {c with H:=H',S:=S' }:=by
 have nx:Nx c {c with H:=H',S:=S' }:=#[#[λa o' e _=>hs a o' e,λa o' e=>#[o',hs a o' e],λa z=>.inl z,s,λa z=>(g a z).imp id λq=>.inr q.1],λa h=>#[h,hs a]]
 show#[#[λa o' e z=>hs a o' (b.same a o' e z),λa z=>?_,b.par,λa z=>#[(b.io a z).1,let ⟨o',q⟩:=(b.io a z).2;⟨o',hs a o' q⟩],b.len,λi k u e=>?_,b.inj,b.dd.hs (b.mv nx.toNs) λj a z=>#[λd=>?_,λo' e=>hs a o' e]],nx]
 rotate_left 2
 .have(f,_,_,o,l,_):=b.root (.inr #[j,z]);rcases g a d with d|⟨d,_⟩
  .show f d
  .rw[l]at d;cases d
 .rcases g a z with q|⟨f,m⟩
  .show#[(b.KU a q).1,let ⟨o',q⟩:=(b.KU a q).2;⟨o',hs a o' q⟩]
  .show#[(b.kF f).1,m]
 .have(v,t,n):=b.sl i k u e;show#[v,t,n.mv (b.mv nx.toNs) (b.M8 nx.toNs) λhk r w=>?_];have(x,p,f,m,y,l):=n.rt hk;rw[w]at p;cases p;have(o,ho,_):=l.some;show#[λz=>?_,λo' e=>hs r o' e];rcases g r z with z|⟨z,_⟩
  .show f z
  .rw[z]at ho;cases ho
def aP(C:Ct)(c0 c:Cf):Kd->U->V->Prop
 |.own,u,v=>∃r,v=.ref r/\c0.H r=bD/\¬c.S r/\¬c.R r/\dv C c.S c.H r u
 |.loc,u,v=>Rep C c.S c.H u v
 |.any,u,v=>Rep C (PS C c.S) c.H u v
 |.bor j,u,v=>(∃k:Kd,k.root=b5/\c.st[j]?=a0 (a0 (k,u)))/\c.σ[j]?=a0 (a0 v)
 |.io,_,_=>False
 |.G',_,_=>False
def f7(C:Ct)(c0 c:Cf):Kd->U->V->Prop
 |.own,u,v=>∃r,v=.ref r/\c0.H r=bD/\¬c.S r/\¬c.R r/\dv C c.S c.H r u
 |.loc,u,v=>Rep C c.S c.H u v
 |.any,u,v=>Rep C (PS C c.S) c.H u v
 |.bor j,u,v=>c.σ[j]?=a0 (a0 v)
 |.io,_,_=>False
 |.G',_,_=>False
def aP.w(h:aP C c0 c k u v):f7 C c0 c k u v:=by
 cases k with
 |bor j=>show h.2
 |_=>show h
def f7.WI(a:Ok C c)(n:Ns c b)(g:∀j,k=.bor j->b.σ[j]?=c.σ[j]?)(h:f7 C c0 c k u v):f7 C c0 b k u v:=by
 cases k with
 |own =>
  have(r,e,i,l,d,f):=h;have(o,ho,_):=f.some;show#[r,e,i,λz=>?_,λz=>?_,f.mv (a.mv n) λo q=>n.keep r o q d]
  .rcases n.new r z with z|z|z
   .show l z
   .show d z
   .rw[z]at ho;cases ho
  .rcases n.roots r z with z|z
   .show d z
   .rw[z]at ho;cases ho
 |loc=>show Rep.mv (a.mv n) h
 |any=>show Rep.mv (a.M8 n) h
 |bor j=>change b.σ[j]?=_;rw[g j rfl];show h
 |_=>show h
def f7.on(b:Ok C c)(n:Ns c a)(d:a.σ=c.σ)(h:f7 C c0 c k u v):f7 C c0 a k u v:=h.WI b n λj _=>by rw[d]
def f7.from(n:Ns c0 c1)(h:f7 C c1 c k u v):f7 C c0 c k u v:=by
 cases k with
 |own=>have(r,e,a,b):=h;show#[r,e,n.none a,b]
 |_=>show h
def aP.from(n:Ns c0 c1)(h:aP C c1 c k u v):aP C c0 c k u v:=by
 cases k with
 |own=>have(r,e,a,b):=h;show#[r,e,n.none a,b]
 |_=>show h
def SK(C:Ct)(c:Cf):Kd->gi->Prop
 |.any=>PS C c.S
 |_=>c.S
abbrev kE:Kd->Kd
 |.any=>.any
 |_=>.loc
def Ok.rootOf(b:Ok C c){j:Nat}(h:∃k:Kd,k.root=b5/\c.st[j]?=a0 (a0 (k,u)))(e:c.σ[j]?=a0 (a0 v)):∃r,v=.ref r/\¬c.S r/\¬C.LX r/\(C.H₀ r=bD\/C.IO r)/\dv C c.S c.H r u:=by
 have(k,hk,h):=h;have(f,a,d):=b.sl j _ _ h;rw[e]at a;cases a;show d.rt hk
def aP.list(f:Ok C c)(h:aP C c0 c k (.lst us) v):∃a vs,v=.ref a/\JG C.K c.H a vs/\ai C (SK C c k) c.H us vs:=by
 cases k with
 |own=>have(r,e,_,_,_,vs,b,d):=h;show#[r,vs,e,JG.of b,d]
 |bor j=>have(r,e,_,_,_,vs,b,d):=f.rootOf h.1 h.2;show#[r,vs,e,JG.of b,d]
 |io=>show h.elim
 |G'=>show h.elim
 |_=>have(a,vs,e,b,d):=h;show#[a,vs,e,b.sq,d]
def aP.tuple(b:Ok C c)(h:aP C c0 c k (.tup us) v):∃a vs,v=.ref a/\JH C.K c.H a vs/\ai C (SK C c k) c.H us vs:=by
 cases k with
 |own=>have(r,e,_,_,_,h):=h;show h.elim
 |bor j=>have(r,e,_,_,_,h):=b.rootOf h.1 h.2;show h.elim
 |io=>show h.elim
 |G'=>show h.elim
 |_=>have(a,vs,e,d,f):=h;show#[a,vs,e,d,f]
def aP.flat(b:Ok C c)(a:Jy u=b5)(h:aP C c0 c k u v):Rep C c.S c.H u v:=by
 cases k with
 |own=>have(r,e,_,_,_,h):=h;cases u<;>simp[Jy]at a<;>show h.elim
 |loc=>show h
 |any=>show Rep.Jy a h
 |bor j=>have(r,e,_,_,_,h):=b.rootOf h.1 h.2;cases u<;>simp[Jy]at a<;>show h.elim
 |_=>show h.elim
def aP.int(a:Ok C c)(h:aP C c0 c k (.int i) v):v=.int i:=h.flat a rfl
def aP.str(a:Ok C c)(h:aP C c0 c k (.str x) v):v=.str x:=h.flat a rfl
def aP.bl(a:Ok C c)(h:aP C c0 c k (.bl b) v):v=.bl b:=h.flat a rfl
def aP.item(h:Rep C (SK C c k) c.H u v):aP C c0 c (kE k) u v:=by
 cases k<;>show h
abbrev LY(H:Hp):gi->Prop:=λa=>∃o,H a=a0 o
def Ok.BV(b:Ok C c):∀a,c.S a->LY c.H a:=λa h=>(b.KU a h).2
def Ok.IK(b:Ok C c):∀a,PS C c.S a->LY c.H a:=λa h=>by
 rcases h with h|h
 .have((o,e),n):=b.par a h;show#[o,b.same a o e n]
 .show b.BV a h
def aP.read(a:Ok C c)(h:aP C c0 c k u v):Rep C (LY c.H) c.H u v:=by
 cases k with
 |own =>
  have(r,e,_,_,_,b):=h;rw[e];have(o,ho,_):=b.some;show b.rep a.BV #[o,ho]
 |loc=>show Rep.mv (.up a.BV) h
 |any=>show Rep.mv (.up a.IK) h
 |bor j =>
  have(r,e,_,_,_,b):=a.rootOf h.1 h.2;rw[e];have(o,ho,_):=b.some;show b.rep a.BV #[o,ho]
 |_=>show h.elim
def Ok.newList(a:Ok C c)(n:Nx c0 c)(h:c.H p=bD)(d:ai C c.S c.H us vs):
  Ok C {c with H:=upd c.H p (.lst vs)}/\Nx c0 {c with H:=upd c.H p (.lst vs)}/\aP C c0 {c with H:=upd c.H p (.lst vs)} .own (.lst us) (.ref p):=by
 have(e,b):=a.lay (o:=.lst vs) h;have(i,f,j,k,g):=a.kF h;show#[e,n.trans b,p,rfl,n.none h,f,g,vs,aw,d.mv (a.mv b.toNs)]
def Ok.ER(a:Ok C c)(n:Nx c0 c)(h:c.H p=bD)(d:ai C c.S c.H us vs):
  Ok C {c with H:=upd c.H p (.tup vs)}/\Nx c0 {c with H:=upd c.H p (.tup vs)}/\aP C c0 {c with H:=upd c.H p (.tup vs)} .loc (.tup us) (.ref p):=by
 have(e,b):=a.lay (o:=.tup vs) h;show#[e,n.trans b,p,vs,rfl,JH.of aw,d.mv (a.mv b.toNs)]
end
inductive Ex(α:Type) where|ok (a:α)|exc (c:Str)
abbrev M(α:Type):=aB->Option (Ex α×aB)
namespace M
abbrev pure(a:α):M α:=λst=>a0 (.ok a,st)
abbrev fail:M α:=λ_=>bD
abbrev bind(m:M α)(f:α->M β):M β:=λst=>match m st with
 |none=>bD
 |some (.ok a,st')=>f a st'
 |some (.exc c,st')=>a0 (.exc c,st')
abbrev JA(o:Option α):M α:=λst=>match o with
 |none=>bD
 |some a=>a0 (.ok a,st)
end M
noncomputable instance:Monad M:={pure:=M.pure,bind:=M.bind}
abbrev W{α:Type}(m:M α)(st:aB)(Q:α->aB->Prop):Prop:=∃a st',m st=a0 (.ok a,st')/\Q a st'
section
def ak:W (pure a) st Q↔Q a st:=by
 constructor
 .rintro⟨b,st',e,h⟩;cases e;show h
 .intro h;show#[a,st,rfl,h]
def ah:W (m >>= f) st Q↔W m st λa st'=>W (f a) st' Q:=by
 constructor
 .rintro⟨b,st',e,h⟩;have d:M.bind m f st=a0 (.ok b,st'):=e;unfold M.bind at d;cases q:m st with
  |none=>rw[q]at d;cases d
  |some r =>
   have(r,s1):=r;rw[q]at d;cases r with
   |ok a=>show#[a,s1,q,b,st',d,h]
   |exc c=>cases d
 .rintro⟨a,s1,q,b,st',e,h⟩;show#[b,st',?_,h];change M.bind m f st=_;unfold M.bind;rw[q];show e
def bR:W (M.JA o) st Q↔∃a,o=a0 a/\Q a st:=by
 cases o with
 |none=>show#[λ⟨_,_,e,_⟩=>(by cases e),λ⟨_,e,_⟩=>(by cases e)]
 |some a=>show#[λ⟨_,_,e,h⟩=>(by cases e;show#[a,rfl,h]),λ⟨_,e,h⟩=>(by cases e;show#[a,st,rfl,h])]
def bB:W (M.fail:M α) st Q↔False:=#[λ⟨_,_,e,_⟩=>(by cases e),Q2]
def W.mono(h:W m st Q)(i:∀a s,Q a s->Q' a s):W m st Q':=let ⟨a,s,e,q⟩:=h;⟨a,s,e,i a s q⟩
end
inductive R5 where|add|sub|mul|LF|mod|pow
deriving DecidableEq
inductive QR where|eq|ne|lt|le|gt|ge|isin|Je|is|UJ
deriving DecidableEq
inductive Bf where|len|sorted|list|tuple|str|int|repr|max|min|all|any
 |dict
 |sum
deriving DecidableEq
inductive B2 where|MP|Ll|sset|pq
deriving DecidableEq
inductive Mf where|split|join|partition|endswith
deriving DecidableEq
inductive Ni where|tuple
deriving DecidableEq
inductive Ik where|seq|JQ|Zf|Nj|zip|rev
 |Pw
deriving DecidableEq
inductive E where
 |var (i:Nat)
 |cst (u:U)
 |Px (x:Str) (u:U)
 |bin (op:R5) (a b:E)
 |cmp (op:QR) (a b:E)
 |MQ (o1 o2:QR) (a b c:E)
 |and (es:List E)|or (es:List E)|not (a:E)
 |ite (c a b:E)
 |tup (es:List E)|lst (es:List E)|KD (r:Bool)
 |idx (a b:E)
 |NX (a:E) (lo hi:List E)
 |bi (f:Bf) (es:List E)
 |MR (f:B2) (es:List E)
 |MS (m:Mf) (a:E) (es:List E)
 |call (f:Str) (es:List E)
 |comp (k:Nat) (t:Bool) (ik:Ik) (src:List E) (cond:List E) (e:E)
 |neg (a:E)|bad|NY (a:E) (T:Ni)|fst (es:List E)|inD (neg:Bool) (a:E) (i:Nat)|Py (i:Nat)|LG (i:Nat) (k d:E)|Pz (i:Nat)|OH (ln:Bool) (a b:E)
 |pop (i:Nat)|Nk (i:Nat) (e:E)
 |PB (i:Nat)
inductive S where
 |set (i:Nat) (e:E)
 |Nl (is:List Nat) (e:E)
 |put (i:Nat) (k v:E)
 |app (i:Nat) (e:E)|ext (i:Nat) (e:E)|bad|newD (i:Nat)|putD (i:Nat) (k v:E)|KP (i:Nat) (k v:E)|aug (sub:Bool) (i:Nat) (k v:E)|R6 (i:Nat)
 |exp (e:E)
 |ret (e:E)|Nm
 |LJ (i:Nat) (e:E)
 |ite (c:E) (a b:List S)
 |Jw (t:Bool) (is:List Nat) (ik:Ik) (src:List E) (body:List S)
 |Nn (c:E) (body:List S)
 |brk|cnt|R7
 |QS (is:List Nat)
abbrev isAny:Kd->Bool
 |.any=>b5
 |_=>cb
abbrev fM(k:Kd)(xs:List U):Bool:=!isAny k||dZ xs
abbrev kT(k k':Kd):Kd:=if isAny k||isAny k' then .any else .loc
abbrev zg:Kd×U->Kd×U->Option (Kd×U)
 |(_,.int i),(_,.int j)=>a0 (.loc,.int (i+j))
 |(_,.str x),(_,.str y)=>if x.length+y.length<=dt then a0 (.loc,.str (x++y)) else bD
 |(k,.lst xs),(k',.lst a)=>if xs.length+a.length<=dt/\fM k xs=b5/\fM k' a=b5 then a0 (.own,.lst (xs++a)) else bD
 |_,_=>bD
abbrev tH(f:Int->Int->Option Int):U->U->Option (Kd×U)
 |.int i,.int j=>(f i j).map λn=>(.loc,.int n)
 |_,_=>bD
abbrev BW(i j:Int):Option Int:=if ((-(2 ^ 64)<i/\i<2 ^ 64)\/(-(2 ^ 64)<j/\j<2 ^ 64)) then a0 (i * j) else bD
abbrev BX(i j:Int):Option Int:=if 0<j/\j<1073741824 then a0 (i / j) else bD
abbrev BY(i j:Int):Option Int:=if 0<j then a0 (i % j) else bD
abbrev BZ(i j:Int):Option Int:=if 0<=j/\j<=1000000/\i.natAbs<2 ^ 64 then a0 (i ^ j.toNat) else bD
abbrev LZ(op:R5)(x y:Kd×U):Option (Kd×U):=match op with
 |.add=>zg x y
 |.sub=>tH (λi j=>a0 (i - j)) x.2 y.2
 |.mul=>tH BW x.2 y.2
 |.LF=>tH BX x.2 y.2
 |.mod=>tH BY x.2 y.2
 |.pow=>tH BZ x.2 y.2
mutual
noncomputable def JY:Nat->U->Bool
 |_,.Jc _ _=>cb
 |_,.J8 _=>cb
 |0,.tup _=>cb
 |0,.lst _=>cb
 |n+1,.tup xs=>cZ n xs
 |n+1,.lst xs=>cZ n xs
 |_,.Jp=>b5|_,.bl _=>b5|_,.int _=>b5|_,.str _=>b5
noncomputable def cZ:Nat->List U->Bool
 |_,[]=>b5
 |n,u::us=>JY n u&&cZ n us
end
mutual
noncomputable def b9:U->U->Bool
 |.Jp,.Jp=>b5
 |.bl a,.bl b=>a==b
 |.bl a,.int b=>(if a then 1 else 0)==b
 |.int a,.bl b=>a==(if b then 1 else 0)
 |.int a,.int b=>a==b
 |.str a,.str b=>a==b
 |.tup xs,.tup c=>cI xs c
 |.lst xs,.lst c=>cI xs c
 |_,_=>cb
noncomputable def cI:List U->List U->Bool
 |[],[]=>b5
 |u::us,w::ws=>b9 u w&&cI us ws
 |_,_=>cb
end
abbrev OI(x:U)(a:List U):Option Bool:=if JY 50 x=b5/\cZ 50 a=b5 then a0 (a.any λy=>b9 y x) else bD
abbrev strsOf:List U->Option (List Str)
 |[]=>a0 []
 |.str x::us=>(strsOf us).map (x::·)
 |_::_=>bD
abbrev rowOf:U->Option nq
 |.tup [.str x,.tup a]=>(strsOf a).map λss=>(x,ss)
 |_=>bD
abbrev zh:U->U->Option Bool
 |x,.lst a=>OI x a
 |x,.tup a=>OI x a
 |.str x,.Jc ks _=>a0 (df (x∈ks))
 |x,.J8 ks=>(rowOf x).map λr=>df (r∈ks)
 |_,_=>bD
abbrev cJ:List Str->List U->Str->Option U
 |y::ks,u::us,x=>if y=x then a0 u else cJ ks us x
 |_,_,_=>bD
abbrev dput(ks:List Str)(us:List U)(x:Str)(u:U):List Str×List U :=
 if x∈ks then(ks,(ks.zip us).map λp=>if p.1=x then u else p.2) else(ks++[x],us++[u])
abbrev xv(f:Int->Int->Bool):U->U->Option Bool
 |.int i,.int j=>a0 (f i j)
 |_,_=>bD
abbrev bC:QR->U->U->Option Bool
 |.eq,a,b=>if JY 50 a=b5/\JY 50 b=b5 then a0 (b9 a b) else bD
 |.ne,a,b=>if JY 50 a=b5/\JY 50 b=b5 then a0 (!b9 a b) else bD
 |.lt,a,b=>xv (λi j=>df (i<j)) a b
 |.le,a,b=>xv (λi j=>df (i<=j)) a b
 |.gt,a,b=>xv (λi j=>df (j<i)) a b
 |.ge,a,b=>xv (λi j=>df (j<=i)) a b
 |.isin,a,b=>zh a b
 |.Je,a,b=>(zh a b).map (!·)
 |_,_,_=>bD
abbrev lW:List U->Option (List Bool)
 |[]=>a0 []
 |.bl x::us=>(lW us).map (x::·)
 |_::_=>bD
abbrev iw:Kd×U->U->Option (Kd×U)
 |(k,.lst xs),.int i=>(JK xs i).map λu=>(kE k,u)
 |(k,.tup xs),.int i=>(JK xs i).map λu=>(kE k,u)
 |(_,.str x),.int i=>if x.length<=dt then(JK x.cps.toList i).map λc=>(.loc,.str #[#v[c]]) else bD
 |(k,.Jc ks us),.str x=>(cJ ks us x).map λu=>(kE k,u)
 |_,_=>bD
abbrev tI:Kd×U->Option Int->Option Int->Option (Kd×U)
 |(_,.str x),lo,a=>if x.length<=dt then a0 (.loc,.str (PySem.StrLaws.sliceText x lo a)) else bD
 |_,_,_=>bD
abbrev ES:U->Option Nat
 |.lst xs=>a0 xs.length
 |.tup xs=>a0 xs.length
 |.str x=>if x.length<=dt then a0 x.length else bD
 |_=>bD
mutual
noncomputable def ix:U->Option ĸ
 |.Jp=>a0 .none
 |.bl b=>a0 (.bool b)
 |.int i=>a0 (.int i)
 |.str x=>a0 (.str x)
 |.tup us=>(nB us).map .tuple
 |.lst us=>(nB us).map .list
 |.Jc _ _=>bD
 |.J8 _=>bD
noncomputable def nB:List U->Option (List ĸ)
 |[]=>a0 []
 |u::us=>(ix u).bind λd=>(nB us).map (d::·)
end
abbrev Dy:U->Bool
 |.tup _=>b5
 |.lst _=>b5
 |_=>cb
abbrev u9(u:U):Option (Kd×U):=(ix u).bind λd=>if d.showable=b5/\d.depth<=50/\d.shown.length<=dt/\Dy u=b5 then a0 (.loc,.str d.shown) else bD
abbrev fN{β:Type}(f:Kd×U->Option β):List (Kd×U)->Option β
 |[x]=>f x
 |_=>bD
abbrev intsOf:List U->Option (List Int)
 |[]=>a0 []
 |.int x::us=>(intsOf us).map (x::·)
 |_::_=>bD
abbrev om:List U->Option (List Str)
 |[]=>a0 []
 |.tup [.str x,.int _]::us=>(om us).map (x::·)
 |_::_=>bD
abbrev B0(k:Kd)(xs:List U):Option (Kd×U):=(om xs).bind λks=>if ks.length<64/\ks.Nodup/\fM k xs=b5 then a0 (.own,.lst ((eS ks).map λi=>xs.getD i .Jp)) else bD
abbrev xw(k:Kd)(xs:List U):Option (Kd×U):=match strsOf xs with
 |some ss=>if ss.length<64 then a0 (.own,.lst ((aC ss).map .str)) else bD
 |none=>B0 k xs
abbrev ET:Kd×U->Option (Kd×U)
 |(k,.lst xs)=>xw k xs
 |(_,.Jc ks _)=>if ks.length<64 then a0 (.own,.lst ((aC ks).map .str)) else bD
 |(_,.tup xs)=>(strsOf xs).bind λss=>if ss.length<64 then a0 (.own,.lst ((aC ss).map .str)) else bD
 |_=>bD
abbrev EU:Kd×U->Option (Kd×U)
 |(k,.lst xs)=>a0 (kE k,.tup xs)
 |(k,.tup xs)=>a0 (kE k,.tup xs)
 |_=>bD
abbrev B1:Kd×U->Option (Kd×U)
 |(_,.int i)=>if i.natAbs.log2<1920 then a0 (.loc,.str (WN i)) else bD
 |_=>bD
abbrev EV:Kd×U->Option (Kd×U)
 |(_,.lst xs)=>u9 (.lst xs)
 |(_,.tup xs)=>u9 (.tup xs)
 |_=>bD
abbrev EW:Kd×U->Option (Kd×U)
 |(_,.lst xs)=>(lW xs).map λa=>(.loc,.bl (a.all id))
 |_=>bD
abbrev PD:U->Bool
 |.str _=>b5
 |.int _=>b5
 |_=>cb
abbrev lX:List U->Option (List (Str×U))
 |[]=>a0 []
 |.tup [.str x,y]::us=>if PD y=b5 then(lX us).map ((x,y)::·) else bD
 |_::_=>bD
abbrev EX:Kd×U->Option (Kd×U)
 |(_,.lst xs)=>(lX xs).bind λps=>if (ps.map (·.1)).Nodup then a0 (.own,.Jc (ps.map (·.1)) (ps.map (·.2))) else bD
 |_=>bD
abbrev EY:Kd×U->Option (Kd×U)
 |(_,.lst xs)=>(intsOf xs).map λns=>(.loc,.int ns.sum)
 |_=>bD
abbrev KG(f:Bf)(rs:List (Kd×U)):Option (Kd×U):=match f with
 |.len=>fN (λx=>(ES x.2).map λ(n:Nat)=>(Kd.loc,U.int (n:Int))) rs
 |.sorted=>fN ET rs
 |.tuple=>fN EU rs
 |.str=>fN B1 rs
 |.repr=>fN EV rs
 |.all=>fN EW rs
 |.dict=>fN EX rs
 |.sum=>fN EY rs
 |_=>bD
abbrev iV:U->Option (List Str)
 |.lst xs=>(strsOf xs).bind λss=>if ss.length+1<MB then a0 (aE ss) else bD
 |.tup xs=>(strsOf xs).bind λss=>if ss.length+1<MB then a0 (aE ss) else bD
 |_=>bD
abbrev EZ:Kd×U->Option (Kd×U)
 |(k,.lst xs)=>if fM k xs=b5 then a0 (.own,.lst xs.reverse) else bD
 |_=>bD
abbrev xx(f:B2)(rs:List (Kd×U)):Option (Kd×U):=match f with
 |.MP=>bD
 |.Ll=>fN EZ rs
 |.sset=>fN (λx=>(iV x.2).bind λss=>if ss.length<64 then a0 (.own,.lst ((aC ss).map .str)) else bD) rs
 |.pq=>bD
abbrev lY:Mf->U->List (Kd×U)->Option (Kd×U)
 |.split,.str a,[(_,.str b)]=>if (b.length==0)=cb/\a.length+2<=dt then a0 (.own,.lst ((SJ a b).map .str)) else bD
 |.join,.str a,[(_,.lst xs)]=>(strsOf xs).bind λss=>if Ι a ss=b5 then a0 (.loc,.str (Zc a ss)) else bD
 |_,_,_=>bD
abbrev IL:Kd×U->Option (List (Kd×U))
 |(k,.lst xs)=>a0 (xs.map λu=>(kE k,u))
 |(k,.tup xs)=>a0 (xs.map λu=>(kE k,u))
 |_=>bD
abbrev xy:Kd×U->Option (List (Kd×U))
 |(_,.int n)=>if n<2 ^ 62/\-(2 ^ 62)<n then a0 ((hH n.toNat).map λi:Nat=>(Kd.loc,U.int (0+(i:Int)))) else bD
 |_=>bD
abbrev E1:Kd×U->Option (List (Kd×U))
 |(k,.lst xs)=>a0 (xs.zipIdx.map λp=>(kE k,.tup [.int p.2,p.1]))
 |(k,.tup xs)=>a0 (xs.zipIdx.map λp=>(kE k,.tup [.int p.2,p.1]))
 |_=>bD
abbrev E2:List (Kd×U)->Option (List (Kd×U))
 |[(k,.lst xs),(k',.tup a)]=>a0 ((xs.zip a).map λp=>(kT k k',.tup [p.1,p.2]))
 |_=>bD
abbrev gP(d:List Str×List U):List (Kd×U):=(d.1.zip d.2).map λp=>(Kd.loc,U.tup [.str p.1,p.2])
abbrev E3:Kd×U->Option (List (Kd×U))
 |(.own,.Jc ks us)=>a0 (gP (ks,us))
 |_=>bD
abbrev E4:Kd×U->Option (List (Kd×U))
 |(k,.lst xs)=>a0 (xs.reverse.map λu=>(kE k,u))
 |_=>bD
abbrev KQ(ik:Ik)(rs:List (Kd×U)):Option (List (Kd×U)):=match ik with
 |.seq=>fN IL rs
 |.JQ=>fN xy rs
 |.Nj=>fN E1 rs
 |.zip=>E2 rs
 |.Pw=>fN E3 rs
 |.rev=>fN E4 rs
 |_=>bD
abbrev B3(ps:List (Str×Int)):List (Str×Int):=(eS (ps.map (·.1))).map λi=>ps.getD i (vr,0)
abbrev xA(p:Str×Int):U:=.tup [.str p.1,.int p.2]
abbrev zi:U->Option (Kd×U)
 |.Jc ks us=>(intsOf us).bind λns=>if ks.length<64/\ks.Nodup/\ks.length=ns.length then a0 (.own,.lst ((B3 (ks.zip ns)).map xA)) else bD
 |_=>bD
abbrev nE(ln:Bool)(a b:List Str):Option (Kd×U):=if a.length<64/\b.length<64 then a0 (if ln=b5 then(.loc,.int ((a.filter λx=>df (x∉b)).length:Nat)) else(.own,.lst ((aC (a.filter λx=>df (x∉b))).map .str))) else bD
abbrev xB:U->Option Bool
 |.bl b=>a0 b
 |.lst xs=>a0 !xs.isEmpty
 |.tup xs=>a0 !xs.isEmpty
 |.str x=>if x.length<=dt then a0 ((x.length:Int) != 0) else bD
 |_=>bD
abbrev lift:Kd×U->M U
 |(.own,u)=>pure u
 |(.loc,u)=>pure u
 |(.any,u)=>if Jy u=b5 then pure u else M.fail
 |(.bor j,_)=>λst=>match st[j]? with
  |some (a0 (.own,u))=>a0 (.ok u,st.set j (a0 (.loc,u)))
  |_=>bD
 |(.io,_)=>M.fail
 |(.G',_)=>M.fail
abbrev dy:List (Kd×U)->M (List U)
 |[]=>pure []
 |r::rs=>do let u <-lift r;let us <-dy rs;pure (u::us)
abbrev fO(i:Nat):Kd×U->M Unit
 |(.bor j,_)=>λst=>match st[j]? with
  |some (a0 (.own,u))=>a0 (.ok (),(st.set j (a0 (.loc,u))).set i (a0 (.loc,u)))
  |_=>bD
 |(.io,_)=>M.fail
 |(.G',_)=>M.fail
 |(k,u)=>λst=>a0 (.ok (),st.set i (a0 (k,u)))
def bt:List (Kd×U)->aB->Prop
 |[],_=>True
 |(.bor j,u)::rs,st=>(∃k:Kd,k.root=b5/\st[j]?=a0 (a0 (k,u)))/\bt rs st
 |_::rs,st=>bt rs st
open Classical in
abbrev aM(rs:List (Kd×U)):M Unit:=λst=>if bt rs st then a0 (.ok (),st) else bD
@[reducible]def Tab:=Str->List U->Option (Ex (Kd×U))
abbrev lZ(Γ:Tab)(f:Str)(us:List U):M (Kd×U):=λst=>match Γ f us with
 |some (.ok (.any,_))=>bD
 |none=>bD
 |some r=>a0 (r,st)
abbrev zj(i:Nat):M (Kd×U):=λst=>match st[i]? with
 |some (a0 (k,.lst us))=>if k.root=b5 then(match us[us.length - 1]? with|some u=>a0 (.ok (.loc,u),st.set i (a0 (k,.lst us.dropLast)))|none=>bD) else bD
 |_=>bD
abbrev IM(i:Nat):U->M (Kd×U)
 |.int j=>λst=>match st[i]? with
  |some (a0 (k,.lst us))=>if k.root=b5/\0<=j/\j<1000000 then(match us[j.toNat]? with|some u=>a0 (.ok (.loc,u),st.set i (a0 (k,.lst (us.eraseIdx j.toNat))))|none=>bD) else bD
  |_=>bD
 |_=>M.fail
abbrev dF(i:Nat):M (Kd×U):=λst=>match st[i]? with
 |some (a0 (.G',_))=>bD
 |some (a0 (k,u))=>a0 (.ok (if k.root=b5 then .bor i else k,u),st)
 |_=>bD
abbrev iW(i:Nat):M (List Str×List U):=λst=>match st[i]? with
 |some (a0 (.G',.Jc ks us))=>a0 (.ok (ks,us),st)
 |_=>bD
abbrev kG(x:Kd×U):M Str:=match x.2 with
 |.str y=>pure y
 |_=>M.fail
abbrev UK(neg:Bool)(y:Str)(ks:List Str):Bool:=if neg=b5 then !df (y∈ks) else df (y∈ks)
abbrev zk(i:Nat):M (Kd×U):=λst=>match st[i]? with
 |some (a0 (.G',.Jc ks us))=>a0 (.ok (.bor i,.Jc ks us),st.set i (a0 (.own,.Jc ks us)))
 |_=>dF i st
abbrev rE(i:Nat):M (List Str×List U):=λst=>match st[i]? with
 |some (a0 (.G',.Jc ks us))=>a0 (.ok (ks,us),st.set i bD)
 |_=>bD
abbrev Dz(i:Nat):M Unit:=λst=>a0 (.ok (),st.set i (a0 (.G',.Jc [] [])))
abbrev l0(i:Nat)(y:Str):Kd×U->M Unit
 |(.own,.lst us)=>λst=>match st[i]? with
  |some (a0 (.G',.Jc ks vs))=>if y∉ks/\ks.length<dt then a0 (.ok (),st.set i (a0 (.G',.Jc (ks++[y]) (vs++[.lst us])))) else bD
  |_=>bD
 |_=>M.fail
abbrev jC:List Str->List U->Str->U->List U
 |k::ks,v::vs,y,u=>if k=y then u::vs else v::jC ks vs y u
 |_,vs,_,_=>vs
abbrev l7(i:Nat)(y:Str)(u:U):M Unit:=λst=>match st[i]? with
 |some (a0 (.G',.Jc ks vs))=>match cJ ks vs y with
  |some (.lst xs)=>if xs.length<dt then a0 (.ok (),st.set i (a0 (.G',.Jc ks (jC ks vs y (.lst (xs++[u])))))) else bD
  |_=>bD
 |_=>bD
abbrev UL:U->M Unit
 |.Jc _ _=>pure ()
 |_=>M.fail
abbrev B4(x:Kd×U)(y:Str)(u:U):Option (Kd×U):=match x with
 |(k,.Jc ks us)=>a0 (match cJ ks us y with|some v=>(kE k,v)|none=>(.loc,u))
 |_=>bD
abbrev rF(i:Nat):M (List U):=λst=>match st[i]? with
 |some (a0 (k,.lst us))=>if k.root=b5 then a0 (.ok us,st) else bD
 |_=>bD
abbrev xC(x:Kd×U):M Int:=match x.2 with
 |.int j=>pure j
 |_=>M.fail
abbrev rG(us:List U)(j:Int):Option Int:=if 0<=j then(match us[j.toNat]? with|some (.int o)=>a0 o|_=>bD) else bD
abbrev xD(sub:Bool)(o w:Int):Int:=if sub=b5 then o - w else o+w
abbrev IQ:U->Option U
 |.lst us=>a0 (.lst us.reverse)
 |_=>bD
abbrev sets:List Nat->List (Kd×U)->M Unit
 |[],[]=>pure ()
 |i::is,r::rs=>do fO i r;sets is rs
 |_,_=>M.fail
abbrev dO(t:Bool)(is:List Nat)(r:Kd×U):M Unit:=match t,is,r with
 |false,[i],r=>fO i r
 |true,is,(k,.tup xs)=>sets is (xs.map λu=>(kE k,u))
 |_,_,_=>M.fail
abbrev inScope{α:Type}(k:Nat)(m:M α):M α:=λst=>match m (lx k bD++st) with
 |none=>bD
 |some (r,st')=>a0 (r,st'.drop k)
abbrev bJ(k:Nat)(t:Bool)(cond:M Bool)(elt:M (Kd×U))(src:List (Kd×U)):List (Kd×U)->List U->M (List U)
 |[],a=>do aM src;pure a
 |x::xs,a=>do
  aM src
  let r <-inScope k (dO t (hH k) x >>= λ_=>cond >>= λb=>if b=b5 then(elt >>= λr=>lift r >>= λu=>pure (a0 u)) else pure bD)
  match r with
  |some u=>if a.length<dt then bJ k t cond elt src xs (a++[u]) else M.fail
  |none=>bJ k t cond elt src xs a
abbrev rH:U->Ni->Option Bool
 |.tup _,_=>a0 b5
 |_,_=>bD
abbrev B5:Kd×U->Option (Kd×U)
 |(_,.int i)=>a0 (.loc,.int (-i))
 |_=>bD
abbrev E5(x:Kd×U):M (Option Int):=match x.2 with
 |.int i=>pure (a0 i)
 |_=>M.fail
abbrev OJ:U->M Unit
 |.lst _=>pure ()
 |_=>M.fail
section
variable(Γ:Tab)
abbrev zl(i:Nat):M (Kd×U):=λst=>match st[i]? with
 |some (a0 (.loc,.str y))=>a0 (.ok (.own,.Jc [y] [.bl b5]),st)
 |_=>bD
mutual
noncomputable def ev:E->M (Kd×U)
 |.var i=>dF i
 |.cst u=>pure (.loc,u)
 |.Px _ u=>pure (.loc,u)
 |.bin op a b=>do
  let x <-ev a
  let y <-ev b
  aM [x,y]
  M.JA (LZ op x y)
 |.cmp op a b=>do
  let x <-ev a
  let y <-ev b
  aM [x,y]
  let c <-M.JA (bC op x.2 y.2)
  pure (.loc,.bl c)
 |.MQ _ _ _ _ _=>M.fail
 |.and es=>iX es
 |.or _=>M.fail
 |.not a=>do
  let x <-ev a
  match x.2 with
  |.bl c=>pure (.loc,.bl !c)
  |_=>M.fail
 |.ite c a b=>do
  let p <-Jx c
  if p=b5 then ev a else ev b
 |.tup es=>do
  let rs <-b_ es
  aM rs
  let us <-dy rs
  if us.length<=dt then pure (.loc,.tup us) else M.fail
 |.lst es=>do
  let rs <-b_ es
  aM rs
  let us <-dy rs
  if us.length<=dt then pure (.own,.lst us) else M.fail
 |.KD r=>pure (.own,if r=b5 then .J8 [] else .Jc [] [])
 |.idx a b=>do
  let x <-ev a
  let y <-ev b
  aM [x,y]
  M.JA (iw x y.2)
 |.NX a lo g=>do
  let x <-ev a
  let l <-OK lo
  let h <-OK g
  aM [x]
  M.JA (tI x l h)
 |.bi f es=>do
  let rs <-b_ es
  aM rs
  M.JA (KG f rs)
 |.MR f es=>do
  let rs <-b_ es
  aM rs
  M.JA (xx f rs)
 |.MS m a es=>do
  let x <-ev a
  let rs <-b_ es
  aM (x::rs)
  M.JA (lY m x.2 rs)
 |.call f es=>do
  let rs <-b_ es
  aM rs
  lZ Γ f (rs.map (·.2))
 |.comp k t ik src cond e=>do
  let rs <-b_ src
  aM rs
  let xs <-M.JA (KQ ik rs)
  let us <-bJ k t (aN cond) (ev e) rs xs []
  pure (.own,.lst us)
 |.neg a=>do
  let x <-ev a
  M.JA (B5 x)
 |.bad=>M.fail
 |.inD _ _ _=>M.fail
 |.Py i=>zk i
 |.LG i k d=>do
  let x <-dF i
  UL x.2
  let y <-ev k
  let y <-kG y
  let z <-ev d
  let u <-lift z
  let x <-dF i
  M.JA (B4 x y u)
 |.Pz i=>do
  let x <-dF i
  M.JA (zi x.2)
 |.PB i=>zl i
 |.pop i=>zj i
 |.Nk i e=>do
  let x <-dF i
  OJ x.2
  let y <-ev e
  IM i y.2
 |.OH ln a b=>do
  let x <-ev a
  let j <-M.JA (iV x.2)
  let y <-ev b
  let n <-M.JA (iV y.2)
  M.JA (nE ln j n)
 |.fst es=>M.fail
 |.NY a T=>do
  let x <-ev a
  let b <-M.JA (rH x.2 T)
  pure (.loc,.bl b)
noncomputable def b_:List E->M (List (Kd×U))
 |[]=>pure []
 |e::es=>do let r <-ev e;let rs <-b_ es;pure (r::rs)
noncomputable def OK:List E->M (Option Int)
 |[]=>pure bD
 |[e]=>do let x <-ev e;E5 x
 |_=>M.fail
noncomputable def iX:List E->M (Kd×U)
 |[]=>M.fail
 |[e]=>ev e
 |e::es=>do
  let x <-ev e
  match x.2 with
  |.bl b5=>iX es
  |.bl cb=>pure (.loc,.bl cb)
  |_=>M.fail
noncomputable def Jx:E->M Bool
 |.and es=>aN es
 |.or es=>f9 es
 |.not a=>do let b <-Jx a;pure !b
 |.cmp op a b=>do
  let x <-ev a
  let y <-ev b
  aM [x,y]
  M.JA (bC op x.2 y.2)
 |.var i=>do let x <-dF i;M.JA (xB x.2)
 |.bi f es=>do
  let rs <-b_ es
  aM rs
  let r <-M.JA (KG f rs)
  M.JA (xB r.2)
 |.call f es=>do
  let rs <-b_ es
  aM rs
  let r <-lZ Γ f (rs.map (·.2))
  M.JA (xB r.2)
 |.MQ o1 o2 a b c=>do
  let x <-ev a
  let y <-ev b
  aM [x,y]
  let p <-M.JA (bC o1 x.2 y.2)
  if p=b5 then do
   let z <-ev c
   aM [y,z]
   M.JA (bC o2 y.2 z.2)
  else pure cb
 |.inD neg a i=>do
  let x <-ev a
  let y <-kG x
  let d <-iW i
  pure (UK neg y d.1)
 |.NY a T=>do
  let x <-ev a
  M.JA (rH x.2 T)
 |_=>M.fail
noncomputable def aN:List E->M Bool
 |[]=>pure b5
 |[e]=>Jx e
 |e::es=>do let b <-Jx e;if b=b5 then aN es else pure cb
noncomputable def f9:List E->M Bool
 |[]=>pure cb
 |[e]=>Jx e
 |e::es=>do let b <-Jx e;if b=b5 then pure b5 else f9 es
end
inductive Fl where|nx|rt (k:Kd) (u:U)|bk|ct
abbrev retS:Kd×U->M Fl
 |(.own,u)=>pure (.rt .own u)
 |(.loc,u)=>pure (.rt .loc u)
 |(.any,u)=>if Jy u=b5 then pure (.rt .loc u) else pure (.rt .any u)
 |(.bor j,_)=>λst=>match st[j]? with
  |some (a0 (.own,u))=>a0 (.ok (.rt .own u),st.set j bD)
  |_=>bD
 |(.io,_)=>M.fail
 |(.G',_)=>M.fail
abbrev forM(t:Bool)(is:List Nat)(body:M Fl)(src:List (Kd×U)):List (Kd×U)->M Fl
 |[]=>do aM src;pure .nx
 |x::xs=>do
  aM src
  dO t is x
  let f <-body
  match f with
  |.nx=>forM t is body src xs
  |.ct=>forM t is body src xs
  |.bk=>pure .nx
  |.rt k u=>pure (.rt k u)
abbrev f_(c:M Bool)(body:M Fl):Nat->M Fl
 |0=>M.fail
 |n+1=>do
  let b <-c
  if b=b5 then do
   let f <-body
   match f with
   |.nx=>f_ c body n
   |.ct=>f_ c body n
   |.bk=>pure .nx
   |.rt k u=>pure (.rt k u)
  else pure .nx
abbrev modS(i:Nat)(f:U->Option U):M Unit:=λst=>match st[i]? with
 |some (a0 (k,u))=>if k.root=b5 then match f u with
   |some u'=>a0 (.ok (),st.set i (a0 (k,u')))
   |none=>bD
  else bD
 |_=>bD
abbrev zm(u:U):U->Option U
 |.lst xs=>if xs.length<dt then a0 (.lst (xs++[u])) else bD
 |_=>bD
abbrev l8:Kd×U->U->Option U
 |(k,.lst a),.lst xs=>if xs.length+a.length<=dt/\fM k a=b5 then a0 (.lst (xs++a)) else bD
 |(k,.tup a),.lst xs=>if xs.length+a.length<=dt/\fM k a=b5 then a0 (.lst (xs++a)) else bD
 |_,_=>bD
abbrev dG(x u:U):U->Option U
 |.Jc ks vs=>match x with
  |.str y=>if ks.length<dt then a0 (.Jc (dput ks vs y u).1 (dput ks vs y u).2) else bD
  |_=>bD
 |.J8 ks=>match rowOf x,u with
  |some r,.bl b5=>if r∉ks/\ks.length<=1000 then a0 (.J8 (ks++[r])) else bD
  |_,_=>bD
 |.lst xs=>match x with
  |.int i=>(Mp xs.length i).map λj=>.lst (xs.set j u)
  |_=>bD
 |_=>bD
abbrev u_:List U->U->Option U
 |[u,x]=>dG x u
 |_=>λ_=>bD
abbrev fuel:Nat:=1000000000000
mutual
noncomputable def UM:S->Nat->Bool
 |.set i _,j=>df (j≠i)
 |.Nl is _,j=>df (j∉is)
 |.ite _ a b,j=>KW a j&&KW b j
 |.Jw _ is _ _ body,j=>df (j∉is)&&KW body j
 |.Nn _ body,j=>KW body j
 |.put _ _ _,_=>b5
 |.app _ _,_=>b5
 |.ext _ _,_=>b5
 |.bad,_=>b5
 |.newD i,j=>df (j≠i)
 |.putD _ _ _,_=>b5
 |.KP _ _ _,_=>b5
 |.aug _ _ _ _,_=>b5
 |.R6 _,_=>b5
 |.exp _,_=>b5
 |.ret _,_=>b5
 |.LJ _ _,_=>b5
 |.Nm,_=>b5
 |.brk,_=>b5
 |.cnt,_=>b5
 |.R7,_=>b5
 |.QS _,_=>b5
noncomputable def KW:List S->Nat->Bool
 |[],_=>b5
 |s::ss,j=>UM s j&&KW ss j
end
abbrev vb(rs:List (Kd×U))(is:List Nat)(body:List S):Bool:=rs.all λr=>match r.1 with
 |.bor j=>df (j∉is)&&KW body j
 |_=>b5
mutual
noncomputable def exec:S->M Fl
 |.set i e=>do let r <-ev Γ e;fO i r;pure .nx
 |.Nl is e=>do let r <-ev Γ e;dO b5 is r;pure .nx
 |.put i k v=>do
  let r <-ev Γ v
  let _ <-dF i
  let x <-ev Γ k
  let us <-dy [r,x]
  modS i (u_ us)
  pure .nx
 |.app i e=>do
  let x <-dF i
  OJ x.2
  let r <-ev Γ e
  let u <-lift r
  modS i (zm u)
  pure .nx
 |.ext i e=>do
  let x <-dF i
  OJ x.2
  let r <-ev Γ e
  modS i (l8 r)
  pure .nx
 |.bad=>M.fail
 |.newD i=>do Dz i;pure .nx
 |.putD i k v=>do
  let r <-ev Γ v
  let d <-iW i
  let x <-ev Γ k
  let y <-kG x
  l0 i y r
  pure .nx
 |.KP i k v=>do
  let _ <-iW i
  let x <-ev Γ k
  let y <-kG x
  let d <-iW i
  if y∈d.1 then do
   let r <-ev Γ v
   let u <-lift r
   l7 i y u
   pure .nx
  else M.fail
 |.aug sub i k v=>do
  let _ <-rF i
  let y <-ev Γ k
  let j <-xC y
  let us <-rF i
  let o <-M.JA (rG us j)
  let z <-ev Γ v
  let w <-xC z
  modS i (dG (.int j) (.int (xD sub o w)))
  pure .nx
 |.R6 i=>do
  modS i IQ
  pure .nx
 |.exp e=>do let _ <-ev Γ e;pure .nx
 |.ret e=>do let r <-ev Γ e;retS r
 |.LJ i e=>do
  let d <-rE i
  let us <-bJ 2 b5 (pure b5) (ev Γ e) [] (gP d) []
  retS (.own,.lst us)
 |.Nm=>pure (.rt .loc .Jp)
 |.ite c a b=>do let p <-Jx Γ c;if p=b5 then execs a else execs b
 |.Jw t is ik src body=>do
  let rs <-b_ Γ src
  aM rs
  let xs <-M.JA (KQ ik rs)
  if vb rs is body=b5 then forM t is (execs body) rs xs else M.fail
 |.Nn c body=>f_ (Jx Γ c) (execs body) fuel
 |.brk=>pure .bk
 |.cnt=>pure .ct
 |.R7=>pure .nx
 |.QS _=>M.fail
noncomputable def execs:List S->M Fl
 |[]=>pure .nx
 |s::ss=>do
  let f <-exec s
  match f with
  |.nx=>execs ss
  |f=>pure f
end
end
structure Fn where
 name:Str
 np:Nat
 ns:Nat
 body:List S
abbrev start(us:List U)(n:Nat):aB:=us.map (λu=>a0 (if Jy u=b5 then Kd.loc else Kd.any,u))++lx (n - us.length) bD
abbrev bN(Γ:Tab)(fn:Fn)(us:List U):Option (Ex (Kd×U)):=if us.length=fn.np then match execs Γ fn.body (start us fn.ns) with
  |some (.ok (.rt .own u),_)=>a0 (.ok (.own,u))
  |some (.ok (.rt .loc u),_)=>a0 (.ok (.loc,u))
  |some (.ok (.rt .any u),_)=>a0 (.ok (.any,u))
  |some (.ok .nx,_)=>a0 (.ok (.loc,.Jp))
  |some (.exc c,_)=>a0 (.exc c)
  |_=>bD
 else bD
abbrev eJ(is:List Nat)(us:List U)(n:Nat):aB:=(us.zipIdx.map λp=>a0 (if p.2∈is then Kd.io else if Jy p.1=b5 then Kd.loc else Kd.any,p.1))++lx (n - us.length) bD
abbrev QT:List Nat->aB->Option (List U)
 |[],_=>a0 []
 |i::is,st=>match st[i]? with
  |some (a0 (.io,u))=>(QT is st).map (u::·)
  |_=>bD
abbrev WJ:Fl->Option (Kd×U)
 |.rt .own u=>a0 (.own,u)
 |.rt .loc u=>a0 (.loc,u)
 |.nx=>a0 (.loc,.Jp)
 |_=>bD
abbrev zo(Γ:Tab)(fn:Fn)(is:List Nat)(body:List S)(us:List U):Option (Ex (Kd×U)):=if us.length=fn.np then match execs Γ body (eJ is us fn.ns) with
  |some (.ok f,st)=>(WJ f).bind λr=>(QT is st).map λws=>.ok (r.1,.tup (r.2::ws))
  |_=>bD
 else bD
abbrev Fn.io(fn:Fn):Option (List Nat×List S):=match fn.body with
 |.QS is::body=>a0 (is,body)
 |_=>bD
abbrev nF(Γ:Tab)(fn:Fn)(us:List U):Option (Ex (Kd×U)):=match fn.io with
 |some (is,body)=>zo Γ fn is body us
 |none=>bN Γ fn us
abbrev Ji(P:List Fn):Nat->Tab
 |0=>λ_ _=>bD
 |d+1=>λf us=>match P.find? λfn=>df (fn.name=f) with
  |some fn=>nF (Ji P d) fn us
  |none=>bD
end TM
namespace TM
open PySem L2
section
variable{X:Cx}{pins:List (gi×Obj)}{σ:St}{H:Hp}{s:gj}{C:Ct}{S:gi->Prop}
def vc(I:Inv X pins σ H s)(h:JG X.K H a vs):∃its:List dV,Vals vs its/\s.heap.IsList a its.toArray/\vs.length<=dt:=by
 have(its,r,p,z):=I.list h;show#[its,r,p.isList,z]
inductive JW(s:gj):Nat->U->dV->Prop where
 |Jp {n:Nat}:JW s n .Jp .none
 |bl {n:Nat} {b:Bool}:JW s n (.bl b) (.bool b)
 |int {n:Nat} {i:Int} {t:Tok}:JW s n (.int i) (.int i t)
 |str {n:Nat} {y:Str} {t:Tok}:JW s n (.str y) (.str y t)
 |tup {n:Nat} {us:List U} {its:List dV} {a:gi}:us.length=its.length->(∀j (hj:j<its.length),JW s n (us.getD j .Jp) its[j])->cI us us=b5->s.heap.IsTuple a its.toArray->JW s (n+1) (.tup us) (.ref a)
 |lst {n:Nat} {us:List U} {its:List dV} {a:gi}:us.length=its.length->(∀j (hj:j<its.length),JW s n (us.getD j .Jp) its[j])->cI us us=b5->s.heap.IsList a its.toArray->JW s (n+1) (.lst us) (.ref a)
def JW.self(h:JW s n u x):b9 u u=b5:=by
 cases h<;>first|assumption|simp[b9]
theorem JW.B6(f:∀u v x,JY n u=b5->Rep C S H u v->RelV v x->JW s n u x):∀{us:List U}{vs:List V}{its:List dV},cZ n us=b5->ai C S H us vs->Vals vs its->us.length=its.length/\(∀j (a:j<its.length),JW s n (us.getD j .Jp) its[j])/\cI us us=b5
 |[],_,_,_,h,r=>by cases h;cases r;show#[rfl,λj a=>(nomatch a),rfl]
 |u::us,_,_,e,h,r=>by
  have(v,vs,rfl,b,d):=h;simp only[cZ,du]at e;cases r with
  |cons c g =>
   have(l,k,y):=JW.B6 f e.2 d g;show#[by simp[l],λj a=>?_,by rw[cI,(f _ _ _ e.1 b c).self,y];rfl];cases j with
   |zero=>show f _ _ _ e.1 b c
   |succ j=>show k j (by simpa using a)
def JW.of(I:Inv X pins σ H s)(d:C.K=X.K):∀(n:Nat) (u:U) (v:V) (x:dV),JY n u=b5->Rep C S H u v->RelV v x->JW s n u x:=by
 intro n;induction n with
 |zero=>intro u v x e h r;cases u<;>first|(simp[JY]at e;done)|(simp only[Rep]at h;subst h;first|(cases r;constructor)|(have(t,rfl):=r;constructor))
 |succ n f =>
  intro u v x e h r;cases u with
  |tup us =>
   have(a,vs,rfl,b,c):=h;cases r;have(its,rv,p,_):=I.tuple (d▸b);have(l,k,y):=JW.B6 f (by simpa[JY] using e) c rv;show .tup l k y p
  |lst us =>
   have(a,vs,rfl,b,c):=h;cases r;have(its,rv,p,_):=vc I (d▸b.sq);have(l,k,y):=JW.B6 f (by simpa[JY] using e) c rv;show .lst l k y p
  |_=>first|(simp[JY]at e;done)|(simp only[Rep]at h;subst h;first|(cases r;constructor)|(have(t,rfl):=r;constructor))
def JW.inj:∀{n:Nat}{u w:U}{x:dV},JW s n u x->JW s n w x->u=w:=by
 intro n;induction n with
 |zero=>intro u w x h h';cases h<;>cases h'<;>rfl
 |succ n q =>
  have go:∀{us ws:List U} {its its':List dV} {a:gi} {o o':Obj} {m g:Nat},us.length=its.length->(∀j (r:j<its.length),JW s n (us.getD j .Jp) its[j])->ws.length=its'.length->(∀j (r:j<its'.length),JW s n (ws.getD j .Jp) its'[j])->s.heap.get? a=a0 o->o.data=.seq its.toArray m->s.heap.get? a=a0 o'->o'.data=.seq its'.toArray g->us=ws:=by
   intro us ws its its' a o o' m g l k c k' e d f d';rw[e]at f;cases f;rw[d]at d';injection d' with t _
   have:its=its':=by simpa using ϩ ò t
   subst this;show Om ⋯ λj v z=>?_;have:=q (k j ⋯) (k' j ⋯);simpa[v,z] using this
  intro u w x h h';cases h with
  |tup l k y p =>
   cases h' with
   |tup c k' i b=>have(o,e,_,m,d):=p;have(o',f,_,g,d'):=b;rw[go l k c k' e d f d']
   |lst c k' i b=>show absurd rfl (î b p)
  |lst l k y p =>
   cases h' with
   |lst c k' i b=>have(o,e,_,m,d):=p;have(o',f,_,g,d'):=b;rw[go l k c k' e d f d']
   |tup c k' i b=>show absurd rfl (î p b)
  |_=>cases h';rfl
theorem jD:∀{us ws:List U},us.length≠ws.length->cI us ws=cb
 |[],[],h=>absurd rfl h
 |[],_::_,_=>rfl
 |_::_,[],_=>rfl
 |u::us,w::ws,h=>by
  rw[cI,jD (us:=us) (ws:=ws) (λe=>h (by simp[e])),U_]
theorem gb:∀{us ws:List U},us.length=ws.length->cI us ws=(hH us.length).all λj=>b9 (us.getD j .Jp) (ws.getD j .Jp)
 |[],[],_=>rfl
 |[],_::_,h=>by simp at h
 |_::_,[],h=>by simp at h
 |u::us,w::ws,h=>by
  have h':us.length=ws.length:=by simpa using h
  rw[cI,gb h',mx,List.range_succ_eq_map,List.all_cons,UE];rfl
def GS{its its':List dV}(b:us.length=its.length)(c:ws.length=its'.length):cI us ws=((hH (min its.toArray.size its'.toArray.size)).all (λj=>b9 (us.getD j .Jp) (ws.getD j .Jp))&&its.toArray.size==its'.toArray.size):=by
 simp only[ko];by_cases a:us.length=ws.length
 .rw[gb a,show min its.length its'.length=us.length by lia,show(its.length==its'.length)=b5 by simp;lia,Yl]
 .rw[jD a,show(its.length==its'.length)=cb by simp;lia,U_]
def vd(b:JW s n u y)(h:ĝ A s y x k)(hs:y=x->k=b5):Wm A s y x k:=λprog w E Q a=>by
 unfold eqBool;show tv ?_;show wpAny_ite_split (λc=>?_) (λ_=>?_)
 .rw[hs (eq_of_beq c)]at a;show a5 (Nb (cL a))
 .cases b<;>show a5 (h prog w E _ (N4 a))
def UN(q:∀m,m+1=n->∀{u w:U}{x f:dV}{A:PV},JW s m u x->JW s m w f->A.units+m<K7->Wm A s x f (b9 u w))(h:JW s n u x)(h':JW s n w f)(t:A.units+n<K7):ĝ A s x f (b9 u w)/\Η A s x f (!b9 u w):=by
 have a:A.units<K7:=by lia
 have go:∀{m:Nat} {us ws:List U} {its its':List dV},m+1=n->(∀j (r:j<its.length),JW s m (us.getD j .Jp) its[j])->(∀j (r:j<its'.length),JW s m (ws.getD j .Jp) its'[j])->∀j (g:j<its.toArray.size) (i:j<its'.toArray.size),Wm A.in1 s its.toArray[j] its'.toArray[j] (b9 (us.getD j .Jp) (ws.getD j .Jp)):=λ{m us ws its its'} e k k' j g i=>q m e (k j g) (k' j i) (by change A.units+1+m < _;lia);cases h with
 |Jp =>
  cases h' with
  |Jp=>show#[.none_none,.none_none]
  |bl=>show#[.none_bool _,.none_bool _]
  |int=>show#[.none_int _ _,.none_int _ _]
  |str=>show#[.none_str _ _,.none_str _ _]
  |tup c k' d b=>show#[.none_tuple b a,.none_tuple b a]
  |lst c k' d b=>show#[.none_list b a,.none_list b a]
 |bl =>
  cases h' with
  |Jp=>show#[.bool_none _,.bool_none _]
  |bl=>show#[.bool_bool _ _,.bool_bool _ _]
  |int=>show#[.bool_int _ _ _,.bool_int _ _ _]
  |str=>show#[.bool_str _ _ _,.bool_str _ _ _]
  |tup c k' d b=>show#[.bool_tuple _ b a,.bool_tuple _ b a]
  |lst c k' d b=>show#[.bool_list _ b a,.bool_list _ b a]
 |int =>
  cases h' with
  |Jp=>show#[.int_none _ _,.int_none _ _]
  |bl=>show#[.int_bool _ _ _,.int_bool _ _ _]
  |int=>show#[.int_int _ _ _ _,.int_int _ _ _ _]
  |str=>show#[.int_str _ _ _ _,.int_str _ _ _ _]
  |tup c k' d b=>show#[.int_tuple _ _ b a,.int_tuple _ _ b a]
  |lst c k' d b=>show#[.int_list _ _ b a,.int_list _ _ b a]
 |str =>
  cases h' with
  |Jp=>show#[.str_none _ _,.str_none _ _]
  |bl=>show#[.str_bool _ _ _,.str_bool _ _ _]
  |int=>show#[.str_int _ _ _ _,.str_int _ _ _ _]
  |str=>show#[.str_str _ _ _ _,.str_str _ _ _ _]
  |tup c k' d b=>show#[.str_tuple _ _ b a,.str_tuple _ _ b a]
  |lst c k' d b=>show#[.str_list _ _ b a,.str_list _ _ b a]
 |tup l k y p =>
  cases h' with
  |Jp=>show#[.tuple_none p a,.tuple_none p a]
  |bl=>show#[.tuple_bool _ p a,.tuple_bool _ p a]
  |int=>show#[.tuple_int _ _ p a,.tuple_int _ _ p a]
  |str=>show#[.tuple_str _ _ p a,.tuple_str _ _ p a]
  |tup c k' d b=>rw[show b9 (.tup _) (.tup _)=_ from GS l c];show#[.tuples p b a (go rfl k k'),.tuples p b a (go rfl k k')]
  |lst c k' d b=>show#[.tuple_list p b a,.tuple_list p b a]
 |lst l k y p =>
  cases h' with
  |Jp=>show#[.list_none p a,.list_none p a]
  |bl=>show#[.list_bool _ p a,.list_bool _ p a]
  |int=>show#[.list_int _ _ p a,.list_int _ _ p a]
  |str=>show#[.list_str _ _ p a,.list_str _ _ p a]
  |tup c k' d b=>show#[.list_tuple p b a,.list_tuple p b a]
  |lst c k' d b =>
   rename_i us _ _ ws _ _;by_cases o:us.length=ws.length
   .rw[show b9 (.lst us) (.lst ws)=_ from gb o,l,<-ko];show#[.lists p b (by simp;lia) a (go rfl k k'),.lists p b (by simp;lia) a (go rfl k k')]
   .rw[show b9 (.lst us) (.lst ws)=cb from jD o];show#[.lists_lengths p b (by simp;lia) a,.lists_lengths p b (by simp;lia) a]
def GU:∀{n:Nat}{u w:U}{x a:dV}{A:PV},JW s n u x->JW s n w a->A.units+n<K7->Wm A s x a (b9 u w):=by
 intro n;induction n with
 |zero=>intro u w x a A h h' b;show vd h (UN (λm e=>by cases e) h h' b).1 λe=>by subst e;rw[h.inj h'];show h'.self
 |succ n c=>intro u w x a A h h' b;show vd h (UN (λm e=>by cases e;show c) h h' b).1 λe=>by subst e;rw[h.inj h'];show h'.self
def GV(h:JW s n u x)(h':JW s n w a)(b:A.units+n<K7):ĝ A s x a (b9 u w)/\Η A s x a (!b9 u w):=UN (λm e=>by cases e;show GU) h h' b
end
end TM
namespace TM
open PySem L2 PyProof.Rows
abbrev Jm(C:Ct)(m:M (Kd×U)):TE:=λσ H Q=>∃c0:Cf,c0.σ=σ/\c0.H=H/\Ok C c0/\W m c0.st λr st'=>∀c v,c.σ=σ->c.st=st'->Ok C c->Nx c0 c->aP C c0 c r.1 r.2 v->Q v c.H
abbrev Ku(C:Ct)(m:M Bool):TT:=λσ H Q=>∃c0:Cf,c0.σ=σ/\c0.H=H/\Ok C c0/\W m c0.st λb st'=>∀c,c.σ=σ->c.st=st'->Ok C c->Nx c0 c->Q b c.H
def d0(C:Ct)(c0 c:Cf):List (Kd×U)->List V->Prop
 |[],vs=>vs=[]
 |r::rs,vs=>∃v t,vs=v::t/\f7 C c0 c r.1 r.2 v/\d0 C c0 c rs t/\(r.1=.own->∀(i:Nat) a b,rs[i]?=a0 a->t[i]?=a0 b->a.1=.own->b≠v)
abbrev KH(C:Ct)(m:M (List (Kd×U))):TA:=λσ H Q=>∃c0:Cf,c0.σ=σ/\c0.H=H/\Ok C c0/\W m c0.st λrs st'=>∀c vs,c.σ=σ->c.st=st'->Ok C c->Nx c0 c->d0 C c0 c rs vs->Q vs c.H
section
def PE.weak(h:PE X e t)(i:∀σ H Q,t' σ H Q->t σ H Q):PE X e t':=λa s σ H Q I q=>h a s σ H Q I (i σ H Q q)
def PT.weak(h:PT X e t)(i:∀σ H Q,t' σ H Q->t σ H Q):PT X e t':=λa s σ H Q I q=>h a s σ H Q I (i σ H Q q)
def cy{st:aB}:W (aM rs) st Q↔bt rs st/\Q () st:=by
 constructor
 .rintro⟨a,st',e,h⟩;unfold aM at e;split at e
  .cases e;show#[by assumption,h]
  .cases e
 .rintro⟨b,c⟩;show#[(),st,by unfold aM;rw[ϥ b],c]
def gD{st:aB}:bt (r::rs) st↔bt [r] st/\bt rs st:=by
 have(k,u):=r;cases k<;>simp[bt]
def f7.t(h:f7 C c0 c k u v)(s:bt [(k,u)] c.st):aP C c0 c k u v:=by
 cases k with
 |bor j=>show#[s.1,h]
 |_=>show h
structure QU(C:Ct)(c0 c:Cf)(x y:Kd×U)(vx vy:V):Prop where
 hσ:c.σ=c0.σ
 ok:Ok C c
 nx:Nx c0 c
 rx:aP C c0 c x.1 x.2 vx
 ry:aP C c0 c y.1 y.2 vy
 ne:x.1=.own->y.1=.own->vy≠vx
def pT(h:f7 C c0 c1 k u v)(h':f7 C c1 c k' u' b):k=.own->k'=.own->b≠v:=by
 rintro rfl rfl e;have(r,d,_,_,_,f):=h;have(i,g,a,_):=h';have(o,ho,_):=f.some;subst d;rw[g]at e;cases e;rw[ho]at a;cases a
def two{k:Kd×U->Kd×U->M β}{m:β->aB->Prop}{f:dV->dV->Sem α}{Q':dV->dV->α->gj->Prop}(N:PE X a (Jm C O))(Q:PE X b (Jm C z))(I:Inv X d c0.σ c0.H s)(T:Ok C c0)
  (h:W (O >>= λx=>z >>= λy=>aM [x,y] >>= λ_=>k x y) c0.st m)
  (Y:∀x y c e i v u s2,QU C c0 c x y e i->Inv X d c.σ c.H s2->RelV e v->RelV i u->W (k x y) c.st m->eW (hJ X.prog X.w) X.A (f v u) (Q' v u) X.xe s2) :
  eW (hJ X.prog X.w) X.A (K6 a X.env) (λv s₁=>eW (hJ X.prog X.w) X.A (K6 b X.env) (λu s₂=>eW (hJ X.prog X.w) X.A (f v u) (Q' v u) X.xe s₂) X.xe s₁) X.xe s:=by
 rw[ah]at h;show Jj (N d s c0.σ c0.H (λe B=>∃x c1,c1.H=B/\c1.σ=c0.σ/\Ok C c1/\Nx c0 c1/\aP C c0 c1 x.1 x.2 e/\W (z >>= λy=>aM [x,y] >>= λ_=>k x y) c1.st m) I ⟨c0,rfl,rfl,T,h.mono λx st1 n c1 e o e2 p q r=>#[x,c1,rfl,o,p,q,r,by rw[e2];show n]⟩) ?_;rintro v s1 ⟨e,B,I1,rv,x,c1,rfl,o,p,q,r,n⟩;rw[ah]at n;show Jj (Q d s1 c0.σ c1.H (λi D=>∃y g,g.H=D/\QU C c0 g x y e i/\W (k x y) g.st m) I1 ⟨c1,o,rfl,p,n.mono λy st2 j g i G e4 JC J L=>?_⟩) ?_
 .rw[ah,cy]at j;subst e4;rw[gD]at j;show#[y,g,rfl,#[G,JC,q.trans J,(r.w.on p J (G.trans o.symm)).t j.1.1,(L.from q),pT r.w L.w],j.2]
 .rintro u s2 ⟨i,D,I2,ru,y,g,rfl,l,j⟩;have hs:g.σ=c0.σ:=l.hσ;show Y x y g e i v u s2 l (by rw[hs];show I2) rv ru j
structure Np(C:Ct)(c0 c:Cf)(x:Kd×U)(vx:V):Prop where
 hσ:c.σ=c0.σ
 ok:Ok C c
 nx:Nx c0 c
 rx:aP C c0 c x.1 x.2 vx
def one{k:Kd×U->M β}{e:β->aB->Prop}{f:dV->Sem α}{Q':α->gj->Prop}(l:PE X a (Jm C m))(I:Inv X b c0.σ c0.H s)(n:Ok C c0)
  (h:W (m >>= λx=>k x) c0.st e)
  (o:∀x c d v s2,Np C c0 c x d->Inv X b c.σ c.H s2->RelV d v->W (k x) c.st e->eW (hJ X.prog X.w) X.A (f v) Q' X.xe s2) :
  eW (hJ X.prog X.w) X.A (K6 a X.env) (λv p=>eW (hJ X.prog X.w) X.A (f v) Q' X.xe p) X.xe s:=by
 rw[ah]at h;show Jj (l b s c0.σ c0.H (λd i=>∃x c1,c1.H=i/\Np C c0 c1 x d/\W (k x) c1.st e) I ⟨c0,rfl,rfl,n,h.mono λx st1 g c1 d q r t u y=>#[x,c1,rfl,#[q,t,u,y],by rw[r];show g]⟩) ?_;rintro v s1 ⟨d,i,z,rv,x,c1,rfl,j,g⟩;show o x c1 d v s1 j (by rw[j.hσ];show z) rv g
abbrev cn(C:Ct)(c0:Cf)(Q:VK)(r:Kd×U)(st':aB):Prop:=∀c v,c.σ=c0.σ->c.st=st'->Ok C c->Nx c0 c->aP C c0 c r.1 r.2 v->Q v c.H
section
def cn.flat(h:cn C c0 Q (.loc,u) c.st)(a:c.σ=c0.σ)(b:Ok C c)(n:Nx c0 c)(r:Rep C c.S c.H u v):Q v c.H:=h c v a rfl b n r
def cn.list(h:cn C c0 Q (.own,.lst us) c.st)(a:c.σ=c0.σ)(b:Ok C c)(n:Nx c0 c)(r:ai C c.S c.H us vs)(p:gi)(d:c.H p=bD):Q (.ref p) (upd c.H p (.lst vs)):=by
 have(e,f,g):=b.newList n d r;show h {c with H:=upd c.H p (.lst vs)} _ a rfl e f g
def cn.tup(h:cn C c0 Q (.loc,.tup us) c.st)(a:c.σ=c0.σ)(b:Ok C c)(n:Nx c0 c)(r:ai C c.S c.H us vs)(p:gi)(d:c.H p=bD):Q (.ref p) (upd c.H p (.tup vs)):=by
 have(e,f,g):=b.ER n d r;show h {c with H:=upd c.H p (.tup vs)} _ a rfl e f g
def cn.tupK(h:cn C c0 Q (kE k,.tup us) c.st)(d:c.σ=c0.σ)(a:Ok C c)(n:Nx c0 c)(r:ai C (SK C c k) c.H us vs)(p:gi)(e:c.H p=bD):Q (.ref p) (upd c.H p (.tup vs)):=by
 have(f,b):=a.lay (o:=.tup vs) e;show h {c with H:=upd c.H p (.tup vs)} _ d rfl f (n.trans b) (aP.item ?_);cases k<;>show#[p,vs,rfl,JH.of aw,by first|show r.mv (a.M8 b)|show r.mv (a.mv b)]
def eT(h:fM k us=b5)(r:ai C (SK C c k) c.H us vs):ai C c.S c.H us vs:=by
 cases k with
 |any=>show r.Jy (by simpa[fM,isAny] using h)
 |_=>show r
end
def E6(k k':Kd):∀a,SK C c k a->SK C c (kT k k') a:=by
 intro a h;cases k<;>cases k'<;>first|show h|show .inr h
def B7(k k':Kd):∀a,SK C c k' a->SK C c (kT k k') a:=by
 intro a h;cases k<;>cases k'<;>first|show h|show .inr h
def GW(k k':Kd):kE (kT k k')=kT k k':=by cases k<;>cases k'<;>rfl
def B8:K_ X (UP .Add) (λx y H Q=>∃l b xs zs,x=.ref l/\y=.ref b/\JG X.K H l xs/\JG X.K H b zs/\xs.length+zs.length<=dt/\∀p,H p=bD->Q (.ref p) (upd H p (.lst (xs++zs)))):=by
 intro d s σ H x y v u Q I k m h;have(l,b,xs,zs,rfl,rfl,o,t,hz,q):=h;cases k;cases m;have(its,r,pl,z):=I.list o;have(c,e,w,J):=I.list t;have hl:=r.length;have L9:=e.length;have((cls,dd,data,A),ho,f,n,g):=pl.isList;have((L,B,data2,C),i,j,D,a):=w.isList;simp only at f g j a;subst f g j a;show concat_meets #[_,ho,rfl] #[_,i,rfl] noFill_list_add seq_list_add PySem.F.slot_list_add PySem.F.entry_list_add (PySem.F.args_list_add_2 _ _)
   (list_addW l b its.toArray c.toArray n D dd B A C (by rw[ko,ko];lia)) #[ho,i,?_]
 have G:its.toArray++c.toArray=(its++c).toArray:=by simp
 rw[G];show#[.ref _,_,I.IB (t':=s.toks) (r.append e) (by rw[ke];lia),rfl,q _ I.fresh]
end
section
variable{X:Cx}{C:Ct}{pins:List (gi×Obj)}{s:gj}{c0 c:Cf}{Q:VK}
abbrev R5.op:R5->ŝ
 |.add=>.Add|.sub=>.Sub|.mul=>.Mult|.LF=>.FloorDiv|.mod=>.Mod|.pow=>.Pow
def eU(h:tH f a b=a0 r):∃i j o,a=.int i/\b=.int j/\f i j=a0 o/\r=(.loc,.int o):=by
 unfold tH at h;split at h
 .rw[ez]at h;have(o,e,rfl):=h;show#[_,_,o,rfl,rfl,e,rfl]
 .cases h
def E7(G:C.K=X.K)(t:QU C c0 c x y g k)(I:Inv X pins c.σ c.H s)(l:RelV g v)(m:RelV k u)(h:LZ op x y=a0 r)(q:cn C c0 Q r c.st):
  eW (hJ X.prog X.w) X.A (UP op.op v u) (EP X pins c.σ Q) X.xe s:=by
 have(z,e,n,B,D,_):=t;cases op with
 |add =>
  have h:zg x y=a0 r:=h;unfold zg at h;split at h
  .have ex:=B.int e;have d:=D.int e;cases h;show ib pins s c.σ c.H g k v u Q I l m #[_,_,ex,d,q.flat z e n rfl]
  .have ex:=B.str e;have d:=D.str e;split at h
   .cases h;show sN pins s c.σ c.H g k v u Q I l m #[_,_,ex,d,by assumption,q.flat z e n rfl]
   .cases h
  .have(a,vs,ex,N,J):=B.list e;have(b,ws,d,O,L):=D.list e;split at h
   .rename_i hh;cases h;show B8 pins s c.σ c.H g k v u Q I l m #[a,b,vs,ws,ex,d,G▸N,G▸O,by rw[<-J.len,<-L.len];show hh.1,λp T=>q.list z e n ((eT hh.2.1 J).append (eT hh.2.2 L)) p T]
   .cases h
  .cases h
 |sub =>
  have(i,j,o,ex,d,f,rfl):=eU h;have ex:=(ex▸B).int e;have d:=(d▸D).int e;cases f;show sJ pins s c.σ c.H g k v u Q I l m #[_,_,ex,d,q.flat z e n rfl]
 |mul =>
  have(i,j,o,ex,d,f,rfl):=eU h;have ex:=(ex▸B).int e;have d:=(d▸D).int e;unfold BW at f;split at f
  .cases f;show o_ pins s c.σ c.H g k v u Q I l m #[_,_,ex,d,by assumption,q.flat z e n rfl]
  .cases f
 |LF =>
  have(i,j,o,ex,d,f,rfl):=eU h;have ex:=(ex▸B).int e;have d:=(d▸D).int e;unfold BX at f;split at f
  .cases f;show Bm pins s c.σ c.H g k v u Q I l m #[_,_,ex,d,by assumption,q.flat z e n rfl]
  .cases f
 |mod =>
  have(i,j,o,ex,d,f,rfl):=eU h;have ex:=(ex▸B).int e;have d:=(d▸D).int e;unfold BY at f;split at f
  .cases f;show cV pins s c.σ c.H g k v u Q I l m #[_,_,ex,d,by assumption,q.flat z e n rfl]
  .cases f
 |pow =>
  have(i,j,o,ex,d,f,rfl):=eU h;have ex:=(ex▸B).int e;have d:=(d▸D).int e;unfold BZ at f;split at f
  .cases f;show pd pins s c.σ c.H g k v u Q I l m #[_,_,ex,d,by assumption,q.flat z e n rfl]
  .cases f
def B9(d:C.K=X.K)(f:PE X a (Jm C g))(i:PE X b (Jm C j)):PE X (.BinOp a op.op b pos) (Jm C (g >>= λx=>j >>= λy=>aM [x,y] >>= λ_=>M.JA (LZ op x y))):=by
 rintro pins s σ H Q I ⟨c0,rfl,rfl,k,h⟩;show wpAny_BinOp (two f i I k h λx y c o p v u s2 t l m n w=>?_);have(r,e,q):=bR.mp w;show Jj (E7 d t l m n e q) λ_ _ z=>by rw[t.hσ]at z;show z
abbrev QR.op:QR->CmpOp
 |.eq=>.Eq|.ne=>.NotEq|.lt=>.Lt|.le=>.LtE|.gt=>.Gt|.ge=>.GtE|.isin=>.In|.Je=>.NotIn|.is=>.Is|.UJ=>.IsNot
def GX{neg:Bool}(I:Inv X pins c.σ c.H s)(i:C.K=X.K)(L:X.A.units+60<K7){S:gi->Prop}(n:Rep C S c.H x m)(o:RelV m v)(r:ai C S c.H g vs)
  (ha:JG C.K c.H a vs\/JH C.K c.H a vs) (t:JY 50 x=b5) (u:cZ 50 g=b5) {Q:dV->gj->Prop} (q:Q (.bool (if neg then !(g.any λy=>b9 y x) else g.any λy=>b9 y x)) s) :
  eW (hJ X.prog X.w) X.A (Qg (if neg then .NotIn else .In) v (.ref a)) Q X.xe s:=by
 have z:=JW.of I i 50 x m v t n o;have go:∀its:List dV,Vals vs its->∃e:dV->Bool,(∀y,y∈its.toArray->Wm X.A.in1 s y v (e y))/\its.toArray.any e=g.any λy=>b9 y x:=by
  intro its rv;have(l,k,_):=JW.B6 (JW.of I i 50) u r rv
  classical
  have q:∀j (b:j<its.length),df (∃w,JW s 50 w its[j]/\b9 w x=b5)=b9 (g.getD j .Jp) x:=λj b=>by
   rw[Ma,Ϭ];show#[λ⟨w,d,f⟩=>by rw[<-d.inj (k j b)];show f,λh=>#[_,k j b,h]]
  show#[λy=>df (∃w,JW s 50 w y/\b9 w x=b5),λy B=>?_,?_]
  .have(j,b,e):=UA (show y∈its by simpa using B);subst e;change Wm _ _ _ _ (decide _);rw[q j b];show GU (k j b) z (by change X.A.units+1+50 < _;lia)
  .rw[Ma];simp only[List.any_toArray,Wj];constructor
   .rintro⟨y,D,h⟩;have(j,b,rfl):=UA D;rw[q j b]at h;show#[_,Tj (l▸b),by simpa[l▸b] using h]
   .rintro⟨w,G,J⟩;have(j,b,rfl):=UA G;show#[_,Tj (l▸b),by rw[q j (l▸b)];simpa[b] using J]
 rcases ha with ha|ha
 .have(its,rv,p,_):=vc I (i▸ha);have(e,d,f):=go its rv;cases neg with
  |false=>show SeqAt.in_listAt e p d (by rw[f];show q)
  |true=>show SeqAt.notIn_listAt e p d (by rw[f];show q)
 .rw[i]at ha;have(its,rv,p,_):=I.tuple ha;have(e,d,f):=go its rv;cases neg with
  |false=>show SeqAt.in_tupleAt e p d (by rw[f];show q)
  |true=>show SeqAt.notIn_tupleAt e p d (by rw[f];show q)
end
section
theorem cp:∀{us:List U}{ss:List Str},strsOf us=a0 ss->us=ss.map .str
 |[],ss,h=>by cases h;rfl
 |.str x::us,ss,h=>by
  simp only[strsOf,ez]at h;have(t,a,rfl):=h;rw[cp a];rfl
 |.Jp::_,_,h=>by cases h
 |.bl _::_,_,h=>by cases h
 |.int _::_,_,h=>by cases h
 |.tup _::_,_,h=>by cases h
 |.lst _::_,_,h=>by cases h
 |.Jc _ _::_,_,h=>by cases h
 |.J8 _::_,_,h=>by cases h
theorem gf:∀{us:List U}{ns:List Int},intsOf us=a0 ns->us=ns.map .int
 |[],ns,h=>by cases h;rfl
 |u::us,ns,h=>by
  cases u<;>first|(cases h;done)|skip
  rename_i x;have h':(intsOf us).map (x::·)=a0 ns:=h;rw[ez]at h';have(ms,e,rfl):=h';rw[gf e];rfl
theorem ai.ints{S:gi->Prop}:∀{ns:List Int}{vs:List V},ai C S H (ns.map .int) vs->vs=ns.map V.int
 |[],vs,h=>h
 |n::ns,vs,h=>by
  have(v,r,rfl,a,b):=h;rw[ai.ints b];have:v=.int n:=a;rw[this];rfl
theorem l9:∀{us:List U}{ss:List Bool},lW us=a0 ss->us=ss.map .bl
 |[],ss,h=>by cases h;rfl
 |.bl x::us,ss,h=>by
  simp only[lW,ez]at h;have(t,a,rfl):=h;rw[l9 a];rfl
 |.Jp::_,_,h=>by cases h
 |.str _::_,_,h=>by cases h
 |.int _::_,_,h=>by cases h
 |.tup _::_,_,h=>by cases h
 |.lst _::_,_,h=>by cases h
 |.Jc _ _::_,_,h=>by cases h
 |.J8 _::_,_,h=>by cases h
theorem ai.WL{S:gi->Prop}:∀{xs:List Bool}{vs:List V},ai C S H (xs.map .bl) vs->vs=xs.map V.bl
 |[],vs,h=>h
 |x::xs,vs,h=>by
  have(v,r,rfl,a,b):=h;rw[ai.WL b];have:v=.bl x:=a;rw[this];rfl
abbrev GY(r:nq):U:=.tup [.str r.1,.tup (r.2.map .str)]
def l_(h:rowOf u=a0 r):u=GY r:=by
 unfold rowOf at h;split at h
 .rw[ez]at h;have(ss,a,rfl):=h;rw[cp a];rfl
 .cases h
abbrev E8(X:Cx)(a:List (gi×Obj))(c:Cf)(b:Bool)(v:dV)(s':gj):Prop:=v=.bool b/\Inv X a c.σ c.H s'
def gE(o:K_ X f r)(I:Inv X a c.σ c.H s)(g:RelV d v)(i:RelV e u)(h:r d e c.H λx H'=>x=.bl b/\H'=c.H):
  eW (hJ X.prog X.w) X.A (f v u) (E8 X a c b) X.xe s :=
 Jj (o a s c.σ c.H d e v u _ I g i h) λw s' j=>by
  have(z,H',k,r,l,m):=j;subst l m;show#[r,k]
def aP.dict(g:Ok C c)(h:aP C c0 c k (.Jc ks us) v):∃a kvs,v=.ref a/\c.H a=a0 (.dK kvs)/\kvs.map (·.1)=ks.map nz/\ai C (SK C c k) c.H us (kvs.map (·.2)):=by
 cases k with
 |own=>have(r,e,_,_,_,kvs,b,d,f):=h;show#[r,kvs,e,b,d,f]
 |bor j=>have(r,e,_,_,_,kvs,b,d,f):=g.rootOf h.1 h.2;show#[r,kvs,e,b,d,f]
 |io=>show h.elim
 |G'=>show h.elim
 |_=>have(a,e,_,kvs,b,d,f):=h;show#[a,kvs,e,b,d,f]
def aP.u7(b:Ok C c)(h:aP C c0 c k (.J8 ks) v):∃a,v=.ref a/\fF C.P C.w C.K c.H a ks:=by
 cases k with
 |own=>have(r,e,_,_,_,h):=h;show#[r,e,h]
 |bor j=>have(r,e,_,_,_,h):=b.rootOf h.1 h.2;show#[r,e,h]
 |io=>show h.elim
 |G'=>show h.elim
 |_=>have(a,e,_,h):=h;show#[a,e,h]
theorem da{S:gi->Prop}:∀{ks:List Str}{us:List U}{kvs:List (Key×V)},kvs.map (·.1)=ks.map nz->ai C S H us (kvs.map (·.2)) ->
  (∀u,cJ ks us x=a0 u->∃v,dM kvs (nz x)=a0 v/\Rep C S H u v)/\(dM kvs (nz x)).isSome=df (x∈ks)
 |[],us,kvs,a,b=>by
  have:kvs=[]:=by simpa using a
  subst this;show#[λu h=>by cases us<;>simp[cJ]at h,by simp[dM]]
 |k::ks,us,[],a,b=>by simp at a
 |k::ks,[],p::kvs,a,b=>by simp[ai]at b
 |k::ks,j::us,p::kvs,a,b=>by
  have(v,r,e,d,f):=b;rw[eH]at e;cases e;rw[eH,eH,Ri]at a;have(g,i):=da (x:=x) a.2 f;by_cases hk:k=x
  .subst hk;show#[λu h=>?_,?_]
   .simp[cJ]at h;subst h;show#[p.2,eL a.1,d]
   .rw[eL a.1];simp
  .have c:¬p.1=nz x:=by rw[a.1];intro z;show hk (YP z)
   show#[λu h=>?_,?_]
   .simp[cJ,hk]at h;have(v,e,q):=g u h;show#[v,by rw[eN c];show e,q]
   .rw[eN c,i];simp[uv hk]
def E9(e:X.A.units+3<K7):K_ X (Qg .In) (λx y H Q=>∃k d ks,fQ X.K H x k/\y=.ref d/\fF X.prog X.w X.K H d ks/\Q (.bl (df (k∈ks))) H):=by
 intro c s σ H x y v u Q I f g h;have(k,d,ks,(a,b,rfl,i,j),rfl,(xs,l,m,n),q):=h;cases f;cases g;have(o,dd):=lH I l n;show wpAny_in_heap e (kK I #[a,b,rfl,i,j]) o dd ?_;show#[.bl (df (k∈ks)),H,I.tok _,by rw[ig,m];rfl,q]
def Rep.row{S:gi->Prop}(h:Rep C S H (GY r) v):fQ C.K H v r:=by
 have(a,vs,e,d,f,p,g,i,q,s,j,k,l):=h;cases l;have m:f=.str r.1:=i;have(b,ws,n,o,c):=k;rw[ai.strs]at c;subst g j m n c;show#[a,b,e,d,o]
def gF{c:Bool}(h:xv f a b=a0 c):∃i j,a=.int i/\b=.int j/\f i j=c:=by
 unfold xv at h;split at h
 .cases h;show#[_,_,rfl,rfl,rfl]
 .cases h
def zp(hP:C.P=X.prog)(hw:C.w=X.w)(q:C.K=X.K)(Y:X.A.units+60<K7)(t:QU C c0 c x y vx vy)(I:Inv X o c.σ c.H s)(f:RelV vx v)(g:RelV vy u)(h:bC op x.2 y.2=a0 b):
  eW (hJ X.prog X.w) X.A (Qg op.op v u) (E8 X o c b) X.xe s:=by
 have(hσ,d,n,p,l,_):=t;have(kx,L):=x;have(ky,N):=y
 dsimp only at h p l
 have J:∀neg:Bool,∀D,zh L N=a0 D->eW (hJ X.prog X.w) X.A (Qg (if neg then .NotIn else .In) v u) (E8 X o c (if neg then !D else D)) X.xe s:=by
  intro neg D h;have O:=p.read d;have my:=l.read d;unfold zh at h;split at h
  .have(a,vs,rfl,m,B):=my;cases g;unfold OI at h;split at h
   .rename_i hh;cases h;show GX I q Y O f B (.inl m.sq) hh.1 hh.2 #[by cases neg<;>rfl,I]
   .cases h
  .have(a,vs,rfl,m,B):=my;cases g;unfold OI at h;split at h
   .rename_i hh;cases h;show GX I q Y O f B (.inr m) hh.1 hh.2 #[by cases neg<;>rfl,I]
   .cases h
  .cases h;have ex:vx=_:=O;have(a,kvs,rfl,m,B,G):=l.dict d;cases g;subst ex;have hs:=λz:Str=>(da (x:=z) B G).2;cases neg with
   |false=>show GL ⋯ I (eG.k (k:=nz _) m) f λs' Q=>#[by rw[hs];rfl,Q]
   |true=>show uP ⋯ I (eG.k (k:=nz _) m) f λs' Q=>#[by rw[hs];rfl,Q]
  .rw[ez]at h;have(r,m,B):=h;have e:=l_ m;subst e;have T:=O.row;have(a,ea,G):=l.u7 d;rw[q]at T G;rw[hP,hw]at G;subst B;cases neg with
   |false=>show gE (E9 ⋯) I f g #[r,a,_,T,ea,G,rfl,rfl]
   |true=>show gE (xb ⋯) I f g #[r,a,_,T,ea,G,rfl,rfl]
  .cases h
 have WM:∀{r:Bool},(if JY 50 L=b5/\JY 50 N=b5 then a0 r else bD)=a0 b->(JY 50 L=b5/\JY 50 N=b5)/\r=b:=λh=>by
  split at h
  .rename_i hh;cases h;show#[hh,rfl]
  .cases h
 cases op with
 |eq =>
  have(hh,rfl):=WM h;show(GV (n:=50) (.of I q _ _ _ _ hh.1 (p.read d) f) (.of I q _ _ _ _ hh.2 (l.read d) g) ⋯).1 _ _ _ _ #[rfl,I]
 |ne =>
  have(hh,rfl):=WM h;show(GV (n:=50) (.of I q _ _ _ _ hh.1 (p.read d) f) (.of I q _ _ _ _ hh.2 (l.read d) g) ⋯).2 _ _ _ _ #[rfl,I]
 |lt=>have(i,j,rfl,rfl,rfl):=gF h;show gE Gz I f g #[_,_,p.int d,l.int d,rfl,rfl]
 |le=>have(i,j,rfl,rfl,rfl):=gF h;show gE GA I f g #[_,_,p.int d,l.int d,rfl,rfl]
 |gt=>have(i,j,rfl,rfl,rfl):=gF h;show gE GB I f g #[_,_,p.int d,l.int d,rfl,rfl]
 |ge=>have(i,j,rfl,rfl,rfl):=gF h;show gE GC I f g #[_,_,p.int d,l.int d,rfl,rfl]
 |isin=>show J cb b h
 |Je =>
  have(D,m,rfl):=ez.mp (show(zh L N).map (!·)=a0 b from h);show J b5 D m
 |_=>cases h
def B_(f:C.P=X.prog)(g:C.w=X.w)(i:C.K=X.K)(j:X.A.units+60<K7)(k:PE X a (Jm C l))(m:PE X b (Jm C n))(o:UB op.op b=cb):
  PE X (.Compare a [op.op] [b] pos) (Jm C (l >>= λx=>n >>= λy=>aM [x,y] >>= λ_=>M.JA (bC op x.2 y.2) >>= λc=>pure (.loc,.bl c))):=by
 rintro d s σ H Q I ⟨c0,rfl,rfl,p,h⟩;show wpAny_Compare1 (two k m I p h λx y c N O v u s2 t B D G w=>?_) o;rw[ah]at w;have(r,e,q):=bR.mp w;rw[ak]at q;show Jj (zp f g i j t B D G e) λz s' J=>?_;have(e,L):=J;subst e;show#[.bl r,c.H,by rw[<-t.hσ];show L,rfl,q c (.bl r) t.hσ rfl t.ok t.nx rfl]
def Ca(g:C.P=X.prog)(i:C.w=X.w)(j:C.K=X.K)(k:X.A.units+60<K7)(l:PE X a (Jm C m))(n:PE X b (Jm C o))(p:UB op.op b=cb):
  PT X (.Compare a [op.op] [b] pos) (Ku C (m >>= λx=>o >>= λy=>aM [x,y] >>= λ_=>M.JA (bC op x.2 y.2))):=by
 rintro d s σ H Q I ⟨c0,rfl,rfl,B,h⟩;show ŉ (two (f:=λv u=>Qg op.op v u) (Q':=λ_ _ c s=>eW (hJ X.prog X.w) X.A (ϗ c) (TP X d c0.σ Q) X.xe s) l n I B h λx y c O T v u s2 t D G J w=>?_) p;have(r,e,q):=bR.mp w;show Jj (zp g i j k t D G J e) λz s' L=>?_;have(e,N):=L;subst e;show N4 #[c.H,by rw[<-t.hσ];show N,q c t.hσ rfl t.ok t.nx]
end
section
abbrev GZ(C:Ct)(c0:Cf)(Q:Bool->Hp->Prop)(b:Bool)(st':aB):Prop:=∀c,c.σ=c0.σ->c.st=st'->Ok C c->Nx c0 c->Q b c.H
def E_(a:c1.σ=c0.σ)(b:Ok C c1)(n:Nx c0 c1)(h:W m c1.st (cn C c0 Q)):Jm C m c0.σ c1.H Q :=
 #[c1,a,rfl,b,h.mono λr st c d v e f g i j=>c d v e f g (n.trans i) (j.from n)]
def zq(a:c1.σ=c0.σ)(b:Ok C c1)(n:Nx c0 c1)(h:W m c1.st (GZ C c0 Q)):Ku C m c0.σ c1.H Q :=
 #[c1,a,rfl,b,h.mono λr st c d e f g i=>c d e f g (n.trans i)]
def ba(a:Ok C c0)(h:W (b >>= k) c0.st d)
  (hz:∀x c v,Np C c0 c x v->W (k x) c.st d->Z v c.H):Jm C b c0.σ c0.H Z:=by
 rw[ah]at h;show#[c0,rfl,rfl,a,h.mono λx st1 e c1 f g i j l m=>hz x c1 f #[g,j,l,m] (by rw[i];show e)]
def gh(a:Ok C c0)(h:W (d >>= k) c0.st e)
  (hz:∀b c,c.σ=c0.σ->Ok C c->Nx c0 c->W (k b) c.st e->Z b c.H):Ku C d c0.σ c0.H Z:=by
 rw[ah]at h;show#[c0,rfl,rfl,a,h.mono λx st1 f c1 g i j l=>hz x c1 g j l (by rw[i];show f)]
abbrev G0(m:M (Kd×U))(x:Kd×U):M (Kd×U):=match x.2 with
 |.bl b5=>m
 |.bl cb=>pure (.loc,.bl cb)
 |_=>M.fail
abbrev G1(x:Kd×U):M (Kd×U):=match x.2 with
 |.bl c=>pure (.loc,.bl !c)
 |_=>M.fail
def snd_and(i:PE X a (Jm C j))(l:PE X (.BoolOp .And (b::d) pos) (Jm C m)):PE X (.BoolOp .And (a::b::d) pos) (Jm C (j >>= G0 m)):=by
 show PE.weak (D7 i l) ?_;rintro σ H Q ⟨c0,rfl,rfl,o,h⟩;show ba o h λx c v t w=>?_;have(k,u):=x;have(g,f,n,r):=t;unfold G0 at w;split at w
 .rename_i e
  dsimp only at e r
  subst e;show#[b5,r.bl f,by rw[ϥ rfl];show E_ g f n w]
 .rename_i e
  dsimp only at e r
  subst e;rw[ak]at w;show#[cb,r.bl f,by rw[Ϧ k9];show w c (.bl cb) g rfl f n rfl]
 .show(bB.mp w).elim
def Cb(d:PE X a (Jm C f)):PE X (.UnaryOp .Not a pos) (Jm C (f >>= G1)):=by
 show PE.weak (D8 d) ?_;rintro σ H Q ⟨c0,rfl,rfl,g,h⟩;show ba g h λx c v t w=>?_;have(k,u):=x;have(i,b,n,r):=t;unfold G1 at w;split at w
 .rename_i e
  dsimp only at e r
  subst e;rw[ak]at w;show#[_,r.bl b,w c (.bl _) i rfl b n rfl]
 .show(bB.mp w).elim
def Cc(d:PE X a (Jm C f)):PE X (.UnaryOp .USub a pos) (Jm C (f >>= λx=>M.JA (B5 x))):=by
 show PE.weak (Gw Eh d) ?_;rintro σ H Q ⟨c0,rfl,rfl,g,h⟩;show ba g h λx c v t w=>?_;have(k,u):=x;have(i,b,n,r):=t;have(j,e,w):=bR.mp w;unfold B5 at e;split at e
 .rename_i q;cases q;cases e;show#[_,r.int b,w c (.int _) i rfl b n rfl]
 .cases e
def Cd(d:PT X a (Ku C e)):PT X (.UnaryOp .Not a pos) (Ku C (e >>= λb=>pure !b)):=by
 show PT.weak (D5 d) ?_;rintro σ H Q ⟨c0,rfl,rfl,f,h⟩;show gh f h λp c g i n w=>?_;rw[ak]at w;show w c g rfl i n
def Ce(i:PT X a (Ku C j))(k:PW X (.BoolOp .And (b::d) pos) (Ku C l)):PW X (.BoolOp .And (a::b::d) pos) (Ku C (j >>= λp=>if p=b5 then l else pure cb)):=by
 have m:=D4 i k;rintro o e s σ H Q I ⟨c0,rfl,rfl,q,h⟩;show m o e s c0.σ c0.H Q I (gh q h λp c f g n w=>?_);cases p with
 |true=>rw[ϥ rfl]at w ⊢;show zq f g n w
 |false=>rw[Ϧ k9]at w ⊢;rw[ak]at w;show w c f rfl g n
def Fb(i:PT X a (Ku C j))(k:PW X (.BoolOp .Or (b::d) pos) (Ku C l)):PW X (.BoolOp .Or (a::b::d) pos) (Ku C (j >>= λp=>if p=b5 then pure b5 else l)):=by
 have m:=Gh i k;rintro o e s σ H Q I ⟨c0,rfl,rfl,q,h⟩;show m o e s c0.σ c0.H Q I (gh q h λp c f g n w=>?_);cases p with
 |true=>rw[ϥ rfl]at w ⊢;rw[ak]at w;show w c f rfl g n
 |false=>rw[Ϧ k9]at w ⊢;show zq f g n w
def vf{us:List α}{vs:List β}(h:us.length=vs.length):(!us.isEmpty)=!vs.isEmpty:=by
 cases us<;>cases vs<;>simp_all
def kP(j:PE X a (Jm C l))(i:C.K=X.K)(m:∀b,isTrue a X.env b=(do let v <-b;ó a.pos;O3 [v] (ϗ v))):PT X a (Ku C (l >>= λx=>M.JA (xB x.2))):=by
 show PT.weak (yu j m) ?_;rintro σ H Q ⟨c0,rfl,rfl,o,h⟩;show ba o h λx c v t w=>?_;have(k,u):=x;have(s,d,n,r):=t;have(p,e,q):=bR.mp w
 dsimp only at e r
 show#[p,?_,q c s rfl d n];unfold xB at e;split at e
 .cases e;rw[r.bl d];rfl
 .cases e;have(a,vs,rfl,f,g):=r.list d;show .inl #[vs,i▸f,vf g.len]
 .cases e;have(a,vs,rfl,f,g):=r.tuple d;rw[i]at f;show .inr (.inl #[vs,f,vf g.len])
 .split at e
  .cases e;rw[r.str d];show#[by assumption,rfl]
  .cases e
 .cases e
end
section
def d0.from(n:Nx c0 c1):d0 C c1 c rs vs->d0 C c0 c rs vs:=by
 intro h;induction rs generalizing vs with
 |nil=>show h
 |cons r rs a=>have(v,t,e,b,d,f):=h;show#[v,t,e,b.from n,a d,f]
def d0.get{i:Nat}(h:d0 C c0 c rs vs)(e:rs[i]?=a0 r)(a:vs[i]?=a0 v):f7 C c0 c r.1 r.2 v:=by
 induction rs generalizing vs i with
 |nil=>simp at e
 |cons g rs b =>
  have(j,t,rfl,d,f,k):=h;cases i with
  |zero=>simp at e a;subst e a;show d
  |succ i=>show b f (by simpa using e) (by simpa using a)
def Cg:PA X [] (KH C (pure [])):=by
 rintro pos a s σ H Q I ⟨c0,rfl,rfl,b,h⟩;rw[ak]at h;show ly pos a s c0.σ c0.H Q I (h c0 [] rfl rfl b (Nx.refl c0) rfl)
def zr(g:PE X e (Jm C m))(j:PA X es (KH C ms))(hs:mh (e::es) X.env=(cb,K6 e X.env)::mh es X.env):PA X (e::es) (KH C (m >>= λr=>ms >>= λrs=>pure (r::rs))):=by
 rintro pos a s σ H Q I ⟨c0,rfl,rfl,k,h⟩;show gz g j hs pos a s c0.σ c0.H Q I (ba k h λr c1 v t w=>?_);rw[ah]at w;show#[c1,t.hσ,rfl,t.ok,w.mono λrs st2 b l vs c n o d f=>?_];rw[ak]at b;show b l (v::vs) c n o (t.nx.trans d) #[v,vs,rfl,t.rx.w.on t.ok d (c.trans t.hσ.symm),f.from t.nx,λhk i x y p q u=>?_];show pT t.rx.w (f.get p q) hk u
structure Mh(C:Ct)(c0 c:Cf)(rs:List (Kd×U))(vs:List V):Prop where
 hσ:c.σ=c0.σ
 ok:Ok C c
 nx:Nx c0 c
 rep:d0 C c0 c rs vs
 Nq:bt rs c.st
def args{k:List (Kd×U)->M β}{b:β->aB->Prop}(f:PA X es (KH C ms))(I:Inv X a c0.σ c0.H s)(g:Ok C c0)(h:W (ms >>= λrs=>aM rs >>= λ_=>k rs) c0.st b)(pos:Pos):
  eW (hJ X.prog X.w) X.A (Τ (M3 pos (mh es X.env))) (λus s1=>∃rs c vs,Mh C c0 c rs vs/\Inv X a c.σ c.H s1/\Vals vs us/\W (k rs) c.st b) X.xe s:=by
 rw[ah]at h;show Jj (f pos a s c0.σ c0.H (λvs e=>∃rs c,c.H=e/\Mh C c0 c rs vs/\W (k rs) c.st b) I ⟨c0,rfl,rfl,g,h.mono λrs st1 d c1 vs i j l m n=>?_⟩) ?_
 .rw[ah,cy]at d;subst j;show#[rs,c1,rfl,#[i,l,m,n,d.1],d.2]
 .rintro us s1 ⟨vs,e,o,rv,rs,c1,rfl,t,w⟩;show#[rs,c1,vs,t,by rw[t.hσ];show o,rv,w]
def Mh.one(t:Mh C c0 c [r] vs):∃v,vs=[v]/\aP C c0 c r.1 r.2 v:=by
 have(v,t',rfl,a,b,_):=t.rep;cases b;show#[v,rfl,a.t t.Nq]
def Mh.two(t:Mh C c0 c [r,b] vs):∃v a,vs=[v,a]/\aP C c0 c r.1 r.2 v/\aP C c0 c b.1 b.2 a:=by
 have(v,t',rfl,d,(a,e,rfl,f,g,_),_):=t.rep;cases g;have hs:=gD.mp t.Nq;show#[v,a,rfl,d.t hs.1,f.t hs.2]
def Ok.share(b:Ok C c)(g:C.H₀ r=bD)(h:∃o,c.H r=a0 o)(hl:st'.length=c.st.length)
  (d:∀(i:Nat) k u,st'[i]?=a0 (a0 (k,u))->(∃v,c.σ[i]?=a0 (a0 v)/\fZ C (λa=>c.S a\/a=r) c.H k u v)/\(k.root=b5->c.st[i]?=a0 (a0 (k,u)))) (l:Ms C {c with S:=λa=>c.S a\/a=r,st:=st' }) :
  Ok C {c with S:=λa=>c.S a\/a=r,st:=st' }:=by
 show#[b.same,λa z=>?_,b.par,b.io,by rw[show({c with S:=λa=>c.S a\/a=r,st:=st' }:Cf).st.length=st'.length from rfl,hl];show b.len,λi k u e=>(d i k u e).1,λi j k k' u u' m hk f n p q s=>?_,l]
 .rcases z with z|rfl
  .show b.KU a z
  .show#[g,h]
 .show b.inj i j k k' u u' m hk f ((d i k u n).2 hk) ((d j k' u' p).2 f) q s
def Ok.Fc(p:Ok C c0)(b:Ok C c)(n:Nx c0 c)(d:c0.H r=bD)(f:¬c.R r)(s:dv C c.S c.H r u):
  Ok C {c with S:=λa=>c.S a\/a=r}/\Nx c0 {c with S:=λa=>c.S a\/a=r}:=by
 have(o,ho,_):=s.some;show#[b.share (st':=c.st) (p.kF d).1 #[o,ho] rfl (λi k u e=>#[?_,λ_=>e]) (b.dd.hs (.up λa=>.inl) λj a z=>#[λq=>q.elim (b.root (.inr #[j,z])).1 λe=>f (.inr #[j,e▸z]),λo q=>q]),#[#[n.keep,n.there,n.roots,λa z=>.inl (n.sub a z),λa z=>?_],n.dk]]
 .have(v,g,h):=b.sl i k u e;have t:Mv c.S c.H (λa=>c.S a\/a=r) c.H:=.up λa=>.inl;show#[v,g,h.mv t (.up λa z=>z.imp id .inl) λhk x l=>#[?_,λo q=>q]];have(y,m,w,_):=h.rt hk;rw[l]at m;cases m;rintro(z|rfl)
  .show w z
  .show f (.inl #[i,k,u,hk,e,by rw[g,l]])
 .rcases z with z|rfl
  .show n.new a z
  .show .inr (.inr d)
def Ok.zt(f:Ok C c)(n:Nx c0 c)(l:c.st[j]?=a0 (a0 (.own,u)))(m:c.σ[j]?=a0 (a0 (.ref r))):
  Ok C {c with S:=λa=>c.S a\/a=r,st:=c.st.set j (a0 (.loc,u))}/\Nx c0 {c with S:=λa=>c.S a\/a=r,st:=c.st.set j (a0 (.loc,u))}/\Rep C (λa=>c.S a\/a=r) c.H u (.ref r):=by
 have(T,b,g,p,Y,q2,G,A):=f.sl j _ _ l;rw[m]at b;cases b;cases p;have B:Rep C (λa=>c.S a\/a=r) c.H u (.ref r):=A.rep (λa=>.inl) (.inr rfl);have(o,ho,_):=A.some;have s:j<c.st.length:=(et.mp l).1;have t:∀(i:Nat) k u',(c.st.set j (a0 (.loc,u)))[i]?=a0 (a0 (k,u'))->i≠j->c.st[i]?=a0 (a0 (k,u')):=λi k u' e I=>by rw[mA (uv I)]at e;show e
 have J:c.R1 r:=#[j,.own,u,rfl,l,m]
 have w:∀(i:Nat) (u':U),(c.st.set j (a0 (.loc,u)))[i]?=a0 (a0 (.G',u'))->c.st[i]?=a0 (a0 (.G',u')):=λi u' e=>by
  by_cases d:i=j
  .subst d;rw[gs s]at e;cases e
  .show t i .G' u' e d
 have b1:∀a,({c with S:=λa=>c.S a\/a=r,st:=c.st.set j (a0 (.loc,u))}:Cf).R1 a->c.R1 a:=λa L=>by
  have(i,k,u',hk,e,N):=L;by_cases d:i=j
  .subst d;rw[gs s]at e;cases e;cases hk
  .show#[i,k,u',hk,t i k u' e d,N]
 have O:Ms C {c with S:=λa=>c.S a\/a=r,st:=c.st.set j (a0 (.loc,u))}:=f.dd.of rfl (λi u' e=>#[w i u' e,rfl]) (λa z=>.inl (b1 a z)) (.up λa=>.inl) λi a z=>#[λq=>q.elim (f.root (.inr #[i,z])).1 λe=>f.dd.d1 i a z (e▸J),λo q=>q]
 show#[f.share (st':=c.st.set j (a0 (.loc,u))) G #[o,ho] (by simp) (λi k u' e=>?_) O,#[#[n.keep,n.there,λa z=>?_,λa z=>.inl (n.sub a z),λa z=>?_],λa ⟨i,u',g,b,h,x⟩=>n.dk a #[i,u',g,w i u' b,h,x]],B]
 .by_cases d:i=j
  .subst d;rw[gs s]at e;cases e;show#[#[.ref r,m,B],λz=>nomatch z]
  .have y:=t i k u' e d;have(v,b,h):=f.sl i k u' y;show#[#[v,b,h.mv (.up λa=>.inl) (.up λa z=>z.imp id .inl) λhk g p=>#[?_,λo q=>q]],λ_=>y];have(PF,D,Q,_):=h.rt hk;rw[p]at D;cases D;rintro(z|rfl)
   .show Q z
   .show d (f.inj i j k .own u' u g hk rfl y l (by rw[b,p]) m)
 .rcases z with z|⟨i,u',g,b,h,x⟩
  .show n.roots a (.inl (b1 a z))
  .show n.roots a (.inr #[i,u',g,w i u' b,h,x])
 .rcases z with z|rfl
  .show n.new a z
  .rcases n.roots a (.inl #[j,.own,u,rfl,l,m]) with z|z
   .show .inr (.inl z)
   .show .inr (.inr z)
def iY(A:Ok C c0)(b:Ok C c)(n:Nx c0 c)(d:f7 C c0 c r.1 r.2 v)(h:W (lift r) c.st B):
  ∃(S':gi->Prop) (st':aB) (u:U),(∀a,c.S a->S' a)/\Ok C {c with S:=S',st:=st' }/\Nx c0 {c with S:=S',st:=st' }/\Rep C S' c.H u v/\B u st' /\
   (∀a,S' a->c.S a\/v=.ref a/\(r.1=.own\/c.R a))/\∀a,({c with S:=S',st:=st' }:Cf).R a->c.R a:=by
 have(k,u):=r;cases k with
 |own =>
  rw[show lift (.own,u)=pure u from rfl,ak]at h;have(r,e,D,O,G,t):=d;have(l,m):=Ok.Fc A b n D G t;show#[_,c.st,u,λa=>.inl,l,m,by rw[e];show t.rep (λa=>.inl) (.inr rfl),h,λa z=>?_,λa z=>z];rcases z with z|rfl
  .show .inl z
  .show .inr #[e,.inl rfl]
 |loc =>
  rw[show lift (.loc,u)=pure u from rfl,ak]at h;show#[c.S,c.st,u,λa=>id,b,n,d,h,λa z=>.inl z,λa z=>z]
 |any =>
  rw[show lift (.any,u)=if Jy u=b5 then pure u else M.fail from rfl]at h;split at h
  .rw[ak]at h;show#[c.S,c.st,u,λa=>id,b,n,Rep.Jy (by assumption) d,h,λa z=>.inl z,λa z=>z]
  .show(bB.mp h).elim
 |bor j =>
  have(x,st',e,I):=h;rw[show lift (.bor j,u) c.st=match c.st[j]? with|some (a0 (.own,u))=>a0 (Ex.ok u,c.st.set j (a0 (.loc,u)))|_=>bD from rfl]at e;split at e
  .rename_i w f;cases e;have(Q,y,r,J,_):=b.sl j _ _ f;have o:c.σ[j]?=a0 (a0 v):=d;rw[o]at y;cases y;subst J;have(l,m,p):=b.zt n f o;show#[_,_,_,λa=>.inl,l,m,p,I,λa z=>?_,λa z=>?_]
   .rcases z with z|rfl
    .show .inl z
    .show .inr #[rfl,.inr (.inl #[j,.own,_,rfl,f,o])]
   .rcases z with⟨i,k,u',hk,e,q⟩|⟨i,u',L,e,q,N⟩
    rotate_left 1
    .by_cases g:i=j
     .subst g;have s:i<c.st.length:=(et.mp f).1;rw[gs s]at e;cases e
     .rw[mA (uv g)]at e;show .inr #[i,u',L,e,q,N]
    by_cases g:i=j
    .subst g;have s:i<c.st.length:=(et.mp f).1;rw[gs s]at e;cases e;cases hk
    .rw[mA (uv g)]at e;show .inl #[i,k,u',hk,e,q]
  .cases e
 |_=>show d.elim
theorem iZ:∀{rs:List (Kd×U)}{vs:List V}{c:Cf}{f:List U->aB->Prop},Ok C c0->Ok C c->Nx c0 c->d0 C c0 c rs vs->W (dy rs) c.st f ->
  ∃(S':gi->Prop) (st':aB) (us:List U),(∀a,c.S a->S' a)/\Ok C {c with S:=S',st:=st' }/\Nx c0 {c with S:=S',st:=st' }/\ai C S' c.H us vs/\f us st'
 |[],vs,c,f,m,p,n,s,h=>by
  rw[show dy []=pure [] from rfl,ak]at h;show#[c.S,c.st,[],λa=>id,p,n,s,h]
 |r::rs,vs,c,f,m,p,n,s,h=>by
  have(v,t,rfl,L,N,O):=s;rw[show dy (r::rs)=lift r >>= λu=>dy rs >>= λus=>pure (u::us) from rfl,ah]at h;have(x,st1,u,s1,Q,T,b,y,Y,Mc):=iY m p n L h;rw[ah]at y;have QX:d0 C c0 {c with S:=x,st:=st1} rs t:=by
   clear h y;have A:∀(l:List (Kd×U)) (w:List V),d0 C c0 c l w->(r.1=.own->∀(i:Nat) g j,l[i]?=a0 g->w[i]?=a0 j->g.1=.own->j≠v)->d0 C c0 {c with S:=x,st:=st1} l w:=by
    intro l;induction l with
    |nil=>intro w q _;show q
    |cons r2 l ih =>
     intro w q B;have(D,G,rfl,k,q2,q3):=q;show#[D,G,rfl,?_,ih G q2 (λhk i g j e1 e2 J4=>B hk (i+1) g j (by simpa using e1) (by simpa using e2) J4),q3];have(k2,u2):=r2;cases k2 with
     |own =>
      have(a,e,p1,p2,I,p4):=k;show#[a,e,p1,λz=>?_,λz=>I (Mc a z),p4.mv (.up s1) λo q=>q];rcases Y a z with z|⟨z,z'|z'⟩
      .show p2 z
      .show B z' 0 _ D rfl rfl rfl (e.trans z.symm)
      .show I z'
     |loc=>show Rep.mv (.up s1) k
     |any=>show Rep.mv (.up λa z=>z.imp id (s1 a)) k
     |_=>show k
   show A rs t N O
  have(S2,st2,us,s2,JC,n2,d,J):=iZ (c:={c with S:=x,st:=st1}) m Q T QX y;rw[ak]at J;show#[S2,st2,u::us,λa z=>s2 a (s1 a z),JC,n2,#[v,t,rfl,b.mv (.up s2),d],J]
def Ci(j:PA X es (KH C ms)):PE X (.Tuple es p pos) (Jm C (ms >>= λrs=>aM rs >>= λ_=>dy rs >>= λus=>if us.length<=dt then pure (.loc,.tup us) else M.fail)):=by
 rintro a s σ H Q I ⟨c0,rfl,rfl,g,h⟩;show wpAny_Tuple_spliced (Jj (args j I g h pos) λus s1 k=>?_);have(rs,c,vs,t,i,rv,w):=k;rw[ah]at w;have(S',st',ws,q,l,m,d,f):=iZ g t.ok t.nx t.rep w;split at f
 .rename_i hz;rw[ak]at f;have hl:vs.length<=dt:=by rw[<-d.len];show hz
  show#[by rw[<-rv.length];show hl,?_];have n:c.H s1.heap.objs.size=bD:=i.Jg.fresh (i4 _);have o:Inv X a c0.σ c.H s1:=by rw[<-t.hσ];show i
  show#[.ref s1.heap.objs.size,upd c.H s1.heap.objs.size (.tup vs),o.laid (t':=s1.toks) (λb u e=>b6 _ e) (i4 _) ⟨hl,us,rv,ϕ _ _⟩,rfl,?_];show cn.tup (c:={c with S:=S',st:=st' }) f t.hσ l m d _ n
 .show(bB.mp f).elim
def Cj(j:PA X es (KH C ms)):PE X (.List es pos) (Jm C (ms >>= λrs=>aM rs >>= λ_=>dy rs >>= λus=>if us.length<=dt then pure (.own,.lst us) else M.fail)):=by
 rintro a s σ H Q I ⟨c0,rfl,rfl,g,h⟩;show wpAny_List_spliced (Jj (args j I g h pos) λus s1 k=>?_);have(rs,c,vs,t,i,rv,w):=k;rw[ah]at w;have(S',st',ws,p,l,m,d,f):=iZ g t.ok t.nx t.rep w;split at f
 .rename_i hz;rw[ak]at f;have hl:vs.length<=dt:=by rw[<-d.len];show hz
  show#[by rw[<-rv.length];show hl,?_];have n:c.H s1.heap.objs.size=bD:=i.Jg.fresh (i4 _);have o:Inv X a c0.σ c.H s1:=by rw[<-t.hσ];show i
  show#[.ref s1.heap.objs.size,upd c.H s1.heap.objs.size (.lst vs),o.laid (t':=s1.toks) (λb u e=>b6 _ e) (i4 _) ⟨hl,us,0,rv,f6 _ rfl⟩,rfl,?_];show cn.list (c:={c with S:=S',st:=st' }) f t.hσ l m d _ n
 .show(bB.mp f).elim
end
section
def pU(d:X.N[i]?=a0 x)(f:K4 X.env.scope x)(g:(x==("__debug__":Str))=cb)(l:(x==("__classdict__":Str))=cb):PE X (.Name x pos) (Jm C (dF i)):=by
 show PE.weak (cD d f g l) ?_;rintro σ H Q ⟨c0,rfl,rfl,b,r,st',e,h⟩;unfold dF at e;split at e
 .cases e
 .rename_i k u m hs;cases e;have(v,c,a):=b.sl i k u hs;show#[v,c,h c0 v rfl rfl b (Nx.refl c0) ?_];by_cases hk:k.root=b5
  .rw[ϥ hk];show#[#[k,hk,hs],c]
  .rw[Ϧ hk];cases k with
   |loc=>show a
   |any=>show a
   |bor j=>show a.elim
   |G'=>show(m rfl).elim
   |_=>show absurd rfl hk
 .cases e
def i_(h:PE X e (tC v))(r:∀S H,Rep C S H u v):PE X e (Jm C (pure (.loc,u))):=by
 show PE.weak h ?_;rintro σ H Q ⟨c0,rfl,rfl,a,h⟩;rw[ak]at h;show h c0 v rfl rfl a (Nx.refl c0) (r _ _)
def cn.root(h:cn C c0 Q (.own,u) c.st)(d:c.σ=c0.σ)(b:Ok C c)(n:Nx c0 c)(p:gi)(a:c.H p=bD)(r:dv C c.S (upd c.H p o) p u):Q (.ref p) (upd c.H p o):=by
 have(e,f):=b.lay (o:=o) a;have(j,g,k,l,i):=b.kF a;show h {c with H:=upd c.H p o} _ d rfl e (n.trans f) ⟨p,rfl,n.none a,g,i,r⟩
def zu(c:C.P=X.prog)(d:C.w=X.w)(r:Bool):PE X (.Dict [] [] pos) (Jm C (pure (.own,if r=b5 then .J8 [] else .Jc [] []))):=by
 cases r with
 |false =>
  show PE.weak qS ?_;rintro σ H Q ⟨c0,rfl,rfl,a,h⟩ p b;rw[ak,Ϧ k9]at h;show cn.root h rfl a (Nx.refl c0) p b #[[],aw,rfl,rfl]
 |true =>
  show PE.weak BG ?_;rintro σ H Q ⟨c0,rfl,rfl,a,h⟩ p b;rw[ak,ϥ rfl]at h;show cn.root h rfl a (Nx.refl c0) p b #[[],?_,rfl,λx e=>by cases e];rw[c,d];show aw
def Cm(f:X.N[i]?=a0 x)(g:K4 X.env.scope x)(j:(x==("__debug__":Str))=cb)(k:(x==("__classdict__":Str))=cb):PE X (.Dict [a0 (.Name x n)] [.Constant (.bool b5) q p2] pos) (Jm C (zl i)):=by
 show PE.weak (BA (yC (cD f g j k) (yh (b:=b5)) Bz) rfl rfl (by simp) (by simp)) ?_;rintro σ H Q ⟨c0,rfl,rfl,d,r,st',e,h⟩ p l;unfold zl at e;split at e
 .rename_i y hs;cases e;have(v,m,a):=d.sl i _ _ hs;have a:v=.str y:=a;subst a;show#[_,m,aw,[(nz y,.bl b5)],rfl,by simp,?_];rw[Ba];show cn.root (u:=.Jc [y] [.bl b5]) (c:=c0) h rfl d (Nx.refl c0) p l #[[(nz y,.bl b5)],aw,rfl,#[_,_,rfl,rfl,rfl]]
 .cases e
def ai.JK{S:gi->Prop}(h:ai C S H us vs)(e:JK us i=a0 u):∃v,L2.JK vs i=a0 v/\Rep C S H u v:=by
 unfold L2.JK at e ⊢;rw[h.len]at e;cases q:Mp vs.length i with
 |none=>rw[q]at e;cases e
 |some j =>
  rw[q]at e;show h.get e
def Fd(N:C.K=X.K)(hu:X.A.units+60<K7)(hs:ph b)(t:QU C c0 c x y z B)(I:Inv X d c.σ c.H s)(D:RelV z v)(G:RelV B u)(h:iw x y.2=a0 r)(q:cn C c0 Q r c.st):
  eW (hJ X.prog X.w) X.A (Zm a b v u) (EP X d c.σ Q) X.xe s:=by
 obtain⟨J,f,n,L,l,-⟩:=t;have(ky,uy):=y
 dsimp only at h l
 unfold iw at h;split at h
 .rename_i k xs i;rw[ez]at h;have(w,e,rfl):=h;have(a',vs,ex,j,m):=L.list f;have(vw,o,p):=m.JK e;show Bs a b d s c.σ c.H z B v u Q I D G #[a',vs,i,vw,ex,l.int f,N▸j,o,q c vw J rfl f n (aP.item p)] (hs _ _)
 .rename_i k xs i;rw[ez]at h;have(w,e,rfl):=h;have(a',vs,ex,j,m):=L.tuple f;have(vw,o,p):=m.JK e;rw[N]at j;show bc a b d s c.σ c.H z B v u Q I D G #[a',vs,i,vw,ex,l.int f,j,o,q c vw J rfl f n (aP.item p)] (hs _ _)
 .split at h
  .rw[ez]at h;have(w,e,rfl):=h;show lz a b d s c.σ c.H z B v u Q I D G #[_,_,w,L.str f,l.int f,by assumption,e,q c _ J rfl f n rfl] (hs _ _)
  .cases h
 .rename_i k ks us x;rw[ez]at h;have(w,e,rfl):=h;have(a',kvs,ex,j,m,O):=L.dict f;have(vw,o,p):=(da (x:=x) m O).1 w e;have T:=l.str f;subst ex T;cases D;have g:eG c.H a' (.str x) (a0 vw):=by rw[<-o];show eG.k (k:=nz x) j
  show ϡ (ops:=[.ref a',u]) (jY I g) PySem.F.slot_dict_getitem.lookup (nQ ⋯ I g G λw' s3 Y Lx=>#[vw,c.H,Y,Lx,q c vw J rfl f n (aP.item p)]) (hs _ _)
 .cases h
def Cn(f:C.K=X.K)(g:X.A.units+60<K7)(hs:ph b)(i:PE X a (Jm C j))(k:PE X b (Jm C l)):PE X (.Subscript a b pos) (Jm C (j >>= λx=>l >>= λy=>aM [x,y] >>= λ_=>M.JA (iw x y.2))):=by
 rintro d s σ H Q I ⟨c0,rfl,rfl,m,h⟩;show Κ (two i k I m h λx y c B D v u s2 t n o p w=>?_);have(r,e,q):=bR.mp w;show Jj (Fd f g hs t n o p e q) λ_ _ z=>by rw[t.hσ]at z;show z
end
section
end
section
variable{X:Cx}{C:Ct}{pins:List (gi×Obj)}{s:gj}{c0 c c1:Cf}
variable{a b d e:ro}{es:List ro}{m ma mb md:M (Kd×U)}{ms:M (List (Kd×U))}{ta tb:M Bool}{pos p p2:Pos}
abbrev tO(C:Ct)(m:M (Option Int)):TO:=λσ H Q=>∃c0:Cf,c0.σ=σ/\c0.H=H/\Ok C c0/\W m c0.st λi st'=>∀c,c.σ=σ->c.st=st'->Ok C c->Nx c0 c->Q i c.H
def xE:PO X bD (tO C (pure bD)):=by
 rintro pins s σ H Q I ⟨c0,rfl,rfl,f,h⟩;rw[ak]at h;show Bp pins s c0.σ c0.H Q I (h c0 rfl rfl f (Nx.refl c0))
def xF(f:PE X a (Jm C ma)):PO X (a0 a) (tO C (ma >>= E5)):=by
 rintro pins s σ H Q I ⟨c0,rfl,rfl,g,h⟩;show Br f pins s c0.σ c0.H Q I (ba g h λx c v t w=>?_);have(k,u):=x;unfold E5 at w;split at w
 .rename_i i e
  dsimp only at e
  subst e;rw[ak]at w;show#[i,t.rx.int t.ok,w c t.hσ rfl t.ok t.nx]
 .show(bB.mp w).elim
def Fe{lo f:Option Int}(l:C.K=X.K)(i:c.σ=c0.σ)(g:Ok C c)(n:Nx c0 c)(j:aP C c0 c x.1 x.2 k)(h:tI x lo f=a0 r)(q:cn C c0 Q r c.st):GP k lo f c.H Q:=by
 unfold tI at h;split at h
 .split at h
  .cases h;show#[_,j.str g,by assumption,q.flat i g n rfl]
  .cases h
 .cases h
def Co{lo g:Option ro}(n:C.K=X.K)(o:PE X a (Jm C ma))(hl:PO X lo (tO C ml))(hh:PO X g (tO C u)):
  PE X (.Subscript a (.Slice lo g bD p2) pos) (Jm C (ma >>= λx=>ml >>= λl=>u >>= λh=>aM [x] >>= λ_=>M.JA (tI x l h))):=by
 show PE.weak (yw EC o hl hh) ?_;rintro σ H Q ⟨c0,rfl,rfl,y,h⟩;show ba y h λx c v t w=>?_;rw[ah]at w;show#[c,t.hσ,rfl,t.ok,w.mono λl st2 i z A B D G=>?_];subst B;rw[ah]at i;show#[z,A,rfl,D,i.mono λO st3 f I j J L N=>?_];subst J;rw[ah,cy]at f;have(r,e,q):=bR.mp f.2;have k:Nx c I:=G.trans N;show Fe n j L (t.nx.trans k) ((t.rx.w.on t.ok k (j.trans t.hσ.symm)).t f.1) e q
end
section
variable{X:Cx}{C:Ct}{pins:List (gi×Obj)}{s:gj}{c0 c c1:Cf}
variable{a b d e:ro}{es:List ro}{m ma mb md:M (Kd×U)}{ms:M (List (Kd×U))}{ta tb:M Bool}{pos p p2:Pos}
abbrev Bf.val:Bf->dV
 |.len=>.builtin "len"|.sorted=>.builtin "sorted"|.repr=>.builtin "repr"|.max=>.builtin "max"|.min=>.builtin "min"|.all=>.builtin "all"|.any=>.builtin "any"
 |.list=>.type "list"|.tuple=>.type "tuple"|.str=>.type "str"|.int=>.type "int"
 |.dict=>.type "dict"
 |.sum=>.builtin "sum"
abbrev Bf.name:Bf->Str
 |.len=>"len"|.sorted=>"sorted"|.repr=>"repr"|.max=>"max"|.min=>"min"|.all=>"all"|.any=>"any"
 |.list=>"list"|.tuple=>"tuple"|.str=>"str"|.int=>"int"
 |.dict=>"dict"
 |.sum=>"sum"
def call_of(g:gT X f r)(I:Inv X pins c.σ c.H s)(rv:Vals vs us)(h:r vs c.H Q):eW (hJ X.prog X.w) X.A (QI f us) (EP X pins c.σ Q) X.xe s:=g pins s c.σ c.H vs us Q I rv h
mutual
theorem vg{S:gi->Prop}(g:C.K=X.K)(I:Inv X pins c.σ c.H s):∀(u:U) (v:V) (f:dV) (d:ĸ),Rep C S c.H u v->RelV v f->ix u=a0 d->∃as,Reads s.heap f d as
 |.Jp,v,f,d,h,r,e=>by cases h;cases r;cases e;show#[_,.none]
 |.bl b,v,f,d,h,r,e=>by cases h;cases r;cases e;show#[_,.bool b]
 |.int i,v,f,d,h,r,e=>by cases h;have(t,rfl):=r;cases e;show#[_,.int i t]
 |.str x,v,f,d,h,r,e=>by cases h;have(t,rfl):=r;cases e;show#[_,.str x t]
 |.tup us,v,f,d,h,r,e=>by
  have(a,vs,rfl,j,k):=h;cases r;simp only[ix,ez]at e;have(l,q,rfl):=e;rw[g]at j;have(its,rv,(o,ho,w,n,y),_):=I.tuple j;have(as,z):=pV g I us vs its l k rv q;show#[as,.tuple ho w y (by simpa using z)]
 |.lst us,v,f,d,h,r,e=>by
  have(a,vs,rfl,j,k):=h;cases r;simp only[ix,ez]at e;have(l,q,rfl):=e;have A:=j.sq;rw[g]at A;have(its,rv,pl,_):=I.list A;have(o,ho,w,n,y):=pl.isList;have(as,z):=pV g I us vs its l k rv q;show#[a::as,.list ho w y (by simpa using z)]
 |.Jc _ _,v,f,d,h,r,e=>by simp[ix]at e
 |.J8 _,v,f,d,h,r,e=>by simp[ix]at e
theorem pV{S:gi->Prop}(g:C.K=X.K)(I:Inv X pins c.σ c.H s):∀(us:List U) (vs:List V) (vals:List dV) (f:List ĸ),ai C S c.H us vs->Vals vs vals->nB us=a0 f->∃as,ReadsAll s.heap vals f as
 |[],vs,vals,f,h,r,e=>by
  cases h;cases r;cases e;show#[_,.nil]
 |u::us,vs,vals,f,h,r,e=>by
  have(v,i,rfl,j,k):=h;cases r with
  |cons l n =>
   simp only[nB,nT,ez]at e;have(d,o,q,t,rfl):=e;have(as,w):=vg g I u v _ d j l o;have(x,y):=pV g I us i _ q k n t;show#[as++x,.cons w y]
end
mutual
theorem mf:∀(u:U) (d:ĸ),ix u=a0 d->d.hasDict=cb
 |.Jp,d,e=>by cases e;rfl
 |.bl b,d,e=>by cases e;rfl
 |.int i,d,e=>by cases e;rfl
 |.str x,d,e=>by cases e;rfl
 |.tup us,d,e=>by
  simp only[ix,ez]at e;have(f,g,rfl):=e;simpa only[Ŋ] using gk us f g
 |.lst us,d,e=>by
  simp only[ix,ez]at e;have(f,g,rfl):=e;simpa only[Ŋ] using gk us f g
 |.Jc _ _,d,e=>by simp[ix]at e
 |.J8 _,d,e=>by simp[ix]at e
theorem gk:∀(us:List U) (f:List ĸ),nB us=a0 f->Ğ f=cb
 |[],f,e=>by cases e;rfl
 |u::us,f,e=>by
  simp only[nB,nT,ez]at e;have(d,g,h,i,rfl):=e;simp only[Ğ,mf u d g,gk us h i,Bool.or_self]
end
def vh{S:gi->Prop}(j:C.K=X.K)(k:X.A.guards=a0 [])(y:X.A.units+60<K7)(I:Inv X pins c.σ c.H s)(rv:Vals [v] us)(g:Rep C S c.H u v)(h:u9 u=a0 r)(q:cn C c0 Q r c.st)(l:c.σ=c0.σ)(o:Ok C c)(n:Nx c0 c):
  eW (hJ X.prog X.w) X.A (QI (.builtin "repr") us) (EP X pins c.σ Q) X.xe s:=by
 have(f,rfl,i):=vals1 rv;unfold u9 at h;rw[nT]at h;have(d,e,h):=h;split at h
 .rename_i hz;cases h;have(as,t):=vg j I u v f d g i e;have x:∃a,f=.ref a:=by
   cases u with
   |tup us=>have(a,vs,rfl,_):=g;cases i;show#[a,rfl]
   |lst us=>have(a,vs,rfl,_):=g;cases i;show#[a,rfl]
   |_=>simp[Dy]at hz
  have(a,rfl):=x;show repr_of_reads' t hz.1 (PyData.noDict_hsm (mf u d e)) k (by have:=hz.2.1;lia) (λ_ _ z=>z) (λh' u' B hk=>?_) hz.2.2.1;show#[.str d.shown,c.H,I.kept hk,#[_,rfl],q.flat l o n rfl]
 .cases h
abbrev QZ:U->V
 |.str x=>.str x
 |.int n=>.int n
 |_=>.ref 0
def Cp{S:gi->Prop}(h:PD u=b5):Rep C S H u (QZ u):=by
 cases u<;>first|rfl|cases h
theorem ai.WO{S:gi->Prop}:∀{ps:List (Str×U)},(∀p∈ps,PD p.2=b5)->ai C S H (ps.map (·.2)) (ps.map λp=>QZ p.2)
 |[],_=>rfl
 |p::ps,h=>#[_,_,rfl,Cp (h p (by simp)),ai.WO λq f=>h q (by simp[f])]
theorem ai.WQ{S:gi->Prop}(k:C.K=X.K):∀{us:List U}{ps:List (Str×U)}{vs:List V},lX us=a0 ps->ai C S H us vs->(∀p∈ps,PD p.2=b5)/\∃as:List gi,vs=as.map V.ref/\as.length=ps.length/\∀(j:Nat) a p,as[j]?=a0 a->ps[j]?=a0 p->JH X.K H a [.str p.1,QZ p.2]
 |[],ps,vs,e,h=>by
  cases e;cases h;show#[by simp,[],rfl,rfl,by simp]
 |u::us,ps,vs,e,h=>by
  have(v,r,rfl,o,q):=h;unfold lX at e;split at e
  .rename_i f;cases f
  .rename_i x y us' f;cases f;split at e
   .rename_i l;rw[ez]at e;have(N,e,rfl):=e;have(t,as,rfl,w,z):=ai.WQ k e q;have(a,ws,rfl,n,A):=o;have(O,Q,rfl,B,D):=A;have(G,T,rfl,I,J):=D;cases B;cases J;have L:G=QZ y:=by
     cases y<;>first|show I|cases l
    subst L;rw[k]at n;show#[λp hp=>?_,a::as,rfl,by simp[w],λj b p g i=>?_]
    .rcases fR.mp hp with rfl|hp
     .show l
     .show t p hp
    .cases j with
     |zero=>simp at g i;subst g i;show n
     |succ j=>show z j b p (by simpa using g) (by simpa using i)
   .cases e
  .cases e
theorem ai.vi{S:gi->Prop}{f:α->U}{g:α->V}:∀{l:List α},(∀x∈l,Rep C S H (f x) (g x))->ai C S H (l.map f) (l.map g)
 |[],_=>rfl
 |x::l,h=>#[g x,l.map g,rfl,h x (by simp),ai.vi λy i=>h y (by simp[i])]
theorem ai.WR{S:gi->Prop}(l:C.K=X.K):∀{us:List U}{ks:List Str}{vs:List V},om us=a0 ks->ai C S H us vs->∃as:List gi,vs=as.map V.ref/\as.length=ks.length/\∀(j:Nat) a k,as[j]?=a0 a->ks[j]?=a0 k->∃b,JH X.K H a [.str k,.int b]
 |[],ks,vs,e,h=>by
  cases e;cases h;show#[[],rfl,rfl,by simp]
 |u::us,ks,vs,e,h=>by
  have(v,r,rfl,o,q):=h;unfold om at e;split at e
  .rename_i f;cases f
  .rename_i x nn us' f;cases f;rw[ez]at e;have(G,e,rfl):=e;have(as,rfl,t,w):=ai.WR l e q;have(a,ws,rfl,n,y):=o;have(I,J,rfl,z,A):=y;have(L,N,rfl,B,D):=A;cases z;cases D;cases B;rw[l]at n;show#[a::as,rfl,by simp[t],λj c p g i=>?_];cases j with
   |zero=>simp at g i;subst g i;show#[_,n]
   |succ j=>show w j c p (by simpa using g) (by simpa using i)
  .cases e
def bG(h:fN f rs=a0 r):∃x,rs=[x]/\f x=a0 r:=by
 unfold fN at h;split at h
 .show#[_,rfl,h]
 .cases h
def DA(L:X.calm=b5)(B:C.K=X.K)(N0:X.A.guards=a0 [])(Nr:X.A.units+60<K7)(t:Mh C c0 c rs vs)(I:Inv X pins c.σ c.H s)(rv:Vals vs us)(h:KG f rs=a0 r)(q:cn C c0 Q r c.st):
  eW (hJ X.prog X.w) X.A (QI f.val us) (EP X pins c.σ Q) X.xe s:=by
 have z:=t.hσ;have g:=t.ok;have n:=t.nx;cases f with
 |len =>
  have(x,rfl,hz):=bG (f:=λx=>(ES x.2).map λ(n:Nat)=>(Kd.loc,U.int (n:Int))) h;clear h;have h:=hz;clear hz;rw[ez]at h;have(k,e,rfl):=h;have(v,rfl,y):=t.one;have(kx,T):=x;unfold ES at e;split at e
  .rename_i xs D;have D:T=.lst xs:=D;subst D;cases e;have(a',ws,ex,l,o):=y.list g;rw[o.len]at q;show call_of iI I rv #[a',ws,by rw[ex],.inl (B▸l),q.flat z g n rfl]
  .rename_i xs D;have D:T=.tup xs:=D;subst D;cases e;have(a',ws,ex,l,o):=y.tuple g;rw[B]at l;rw[o.len]at q;show call_of iI I rv #[a',ws,by rw[ex],.inr l,q.flat z g n rfl]
  .rename_i xs D;have D:T=.str xs:=D;subst D;split at e
   .cases e;show call_of pj I rv #[_,by rw[y.str g],by assumption,q.flat z g n rfl]
   .cases e
  .cases e
 |sorted =>
  have(x,rfl,hz):=bG (f:=ET) h;clear h;have h:=hz;clear hz;have(v,rfl,y):=t.one;unfold ET at h;split at h
  .have(a',ws,ex,l,o):=y.list g;unfold xw at h;split at h
   .rename_i ss e;have J:=cp e;subst J;rw[ai.strs]at o;subst o;split at h
    .cases h;show call_of j6 I rv #[a',ss,by rw[ex],.inl (B▸l),by assumption,λp G=>q.list z g n (ai.strs.mpr rfl) p G]
    .cases h
   .unfold B0 at h;have(ks,e,h):=nT.mp h;split at h
    .rename_i hh;cases h;subst ex;have(u,rfl,Y):=vals1 rv;cases Y;have(as,rfl,hl,ht):=ai.WR B e o;have N:=eT hh.2.2 o;show tF I (B▸l) hl ht hh.2.1 ⋯ λp G=>q.list z g n (ai.vi λi hi=>?_) p G;have Kh:i<as.length:=by
      have:=Jl.mp ((cw _).mem_iff.mp hi);lia
     have TX:=N.len;rw[cK]at TX;have(w,hw,ab):=N.get (pb (show i < _ by lia));have e1:w=V.ref (as.getD i 0):=by
      have:(as.map V.ref)[i]?=a0 (V.ref (as.getD i 0)):=by simp[M0,Kh]
      rw[this]at hw;cases hw;rfl
     rw[<-e1,<-Ę];show ab
    .cases h
  .have(a',kvs,ex,l,o,_):=y.dict g;split at h
   .cases h;show call_of (jB L) I rv #[a',kvs,_,by rw[ex],l,o,by assumption,λp G=>q.list z g n (ai.strs.mpr rfl) p G]
   .cases h
  .rw[nT]at h;have(ss,e,h):=h;have J:=cp e;subst J;have(a',ws,ex,l,o):=y.tuple g;rw[B]at l;rw[ai.strs]at o;subst o;split at h
   .cases h;show call_of j6 I rv #[a',ss,by rw[ex],.inr l,by assumption,λp G=>q.list z g n (ai.strs.mpr rfl) p G]
   .cases h
  .cases h
 |tuple =>
  have(x,rfl,hz):=bG (f:=EU) h;clear h;have h:=hz;clear hz;have(v,rfl,y):=t.one;unfold EU at h;split at h
  .have(a',ws,ex,l,o):=y.list g;cases h;show call_of gU I rv #[a',ws,by rw[ex],.inl #[B▸l,λp G=>q.tupK z g n o p G]]
  .have(a',ws,ex,l,o):=y.tuple g;have NZ:=l;rw[B]at NZ;cases h;show call_of gU I rv #[a',ws,by rw[ex],.inr #[NZ,q c (.ref a') z rfl g n (aP.item #[a',ws,rfl,l,o])]]
  .cases h
 |str =>
  have(x,rfl,hz):=bG (f:=B1) h;clear h;have h:=hz;clear hz;have(v,rfl,y):=t.one;unfold B1 at h;split at h
  .split at h
   .cases h;show call_of pe I rv #[_,by rw[y.int g],by assumption,q.flat z g n rfl]
   .cases h
  .cases h
 |repr =>
  have(x,rfl,hz):=bG (f:=EV) h;clear h;have h:=hz;clear hz;have(v,rfl,y):=t.one;unfold EV at h;split at h
  .show vh B N0 Nr I rv (y.read g) h q z g n
  .show vh B N0 Nr I rv (y.read g) h q z g n
  .cases h
 |all =>
  have(x,rfl,hz):=bG (f:=EW) h;clear h;have h:=hz;clear hz;have(v,rfl,y):=t.one;unfold EW at h;split at h
  .rw[ez]at h;have(bs,e,rfl):=h;have J:=l9 e;subst J;have(a',ws,ex,l,o):=y.list g;have:=o.WL;subst this;show call_of (yJ L) I rv #[a',bs,by rw[ex],B▸l,q.flat z g n rfl]
  .cases h
 |sum =>
  have(x,rfl,hz):=bG (f:=EY) h;clear h;have h:=hz;clear hz;have(v,rfl,y):=t.one;unfold EY at h;split at h
  .rw[ez]at h;have(ns,e,rfl):=h;have J:=gf e;subst J;have(a',ws,ex,l,o):=y.list g;have N:=ai.ints o;subst N;show call_of (za L) I rv #[a',ns,by rw[ex],B▸l,q.flat z g n rfl]
  .cases h
 |dict =>
  have(x,rfl,hz):=bG (f:=EX) h;clear h;have h:=hz;clear hz;have(v,rfl,y):=t.one;have(u,rfl,Y):=vals1 rv;unfold EX at h;split at h
  .have(ps,e,h):=nT.mp h;have(a',ws,ex,l,o):=y.list g;subst ex;cases Y;have(hf,as,rfl,hl,ht):=ai.WQ B e o;split at h
   .cases h;show BU (ps:=ps.map λp=>(p.1,QZ p.2)) L I (B▸l) (by rw[cK];show hl) (λj a p e1 O=>by
     rw[i5,ez]at O;have(p0,O,rfl):=O;show ht j a p0 e1 O) (by rw[fx];assumption) λd hd=>q.root z g n d hd #[_,aw,by rw[fx,fx,fx];rfl,by rw[fx,fx];show ai.WO hf]
   .cases h
  .cases h
 |_=>cases h
def Cq{id:String}(g:X.calm=b5)(i:C.K=X.K)(j:X.A.guards=a0 [])(k:X.A.units+60<K7)(l:f.val=.builtin id)(n:Gl X x)(o:X.mg x=bD)(u:H8 x=a0 (.builtin id))(v:x≠"__name__")(y:(x==("__debug__":Str))=cb)
  (B:PA X (e::es) (KH C ms)) (D:mh (e::es) X.env=(cb,K6 e X.env)::mh es X.env) (G:(M3 pos (mh es X.env)).any (·.1)=cb) :
  PE X (.Call (.Name x p) (e::es) [] pos) (Jm C (ms >>= λrs=>aM rs >>= λ_=>M.JA (KG f rs))):=by
 rintro pins s σ H Q I ⟨c0,rfl,rfl,J,h⟩;show K1 (cU I n o u ?_ v y);show W6 (Jj (args B I J h pos) λus s1 ⟨rs,c,vs,t,L,rv,w⟩=>?_) D G;have(r,e,q):=bR.mp w;have z:=DA g i j k t L rv e q;rw[l,t.hσ]at z;show z
def Cr(g:X.calm=b5)(i:C.K=X.K)(j:X.A.guards=a0 [])(k:X.A.units+60<K7)(l:f.val=.type T)(n:Gl X x)(o:X.mg x=bD)(u:H8 x=a0 (.type T))(v:x≠"__name__")(y:(x==("__debug__":Str))=cb)
  (B:PA X (e::es) (KH C ms)) (D:mh (e::es) X.env=(cb,K6 e X.env)::mh es X.env) (G:(M3 pos (mh es X.env)).any (·.1)=cb) :
  PE X (.Call (.Name x p) (e::es) [] pos) (Jm C (ms >>= λrs=>aM rs >>= λ_=>M.JA (KG f rs))):=by
 rintro pins s σ H Q I ⟨c0,rfl,rfl,J,h⟩;show K1 (cU I n o u ?_ v y);show LC (Jj (args B I J h pos) λus s1 ⟨rs,c,vs,t,L,rv,w⟩=>?_) D G;have(r,e,q):=bR.mp w;have z:=DA g i j k t L rv e q;rw[l,t.hσ]at z;show z
abbrev Ni.name(_:Ni):Str:="tuple"
abbrev Ni.nm(_:Ni):String:="tuple"
def Cs(T:Ni):H8 T.name=a0 (.type T.nm)/\T.name≠"__name__"/\(T.name==("__debug__":Str))=cb:=by
 cases T<;>show#[by decide +kernel,by decide +kernel,by decide +kernel]
def Cu(T:Ni):ž (.type T.nm)=pure (.type "type"):=by cases T<;>kernel_rfl
def Ff{b:Bool}(i:C.K=X.K)(t:Np C c0 c x v)(I:Inv X pins c.σ c.H s)(rv:RelV v f)(h:rH x.2 T=a0 b)(q:∀j,Q (.bool b) {s with toks:=j}):
  eW (hJ X.prog X.w) X.A (QI (.builtin "isinstance") [f,.type T.nm]) Q X.xe s:=by
 have(k,u):=x;have(B,l,n,r):=t;have y:Q (.bool b) s:=q s.toks
 dsimp only at h r
 unfold rH at h;split at h
 .cases h;have(a',ws,rfl,g,D):=r.tuple l;cases rv;rw[i]at g;have(its,_,(o,ho,z,_),_):=I.tuple g;show ϔ #[o,ho,z] (Cu T) (by rw[Tt];cases T;kernel_rfl) y
 .cases h
def vj(g:C.K=X.K)(i:Gl X "isinstance")(j:X.mg "isinstance"=bD)(k:Gl X T.name)(l:X.mg T.name=bD)(n:PE X a (Jm C ma))(hs:mh [a,.Name T.name p2] X.env=(cb,K6 a X.env)::mh [.Name T.name p2] X.env):
  PE X (.Call (.Name "isinstance" p) [a,.Name T.name p2] [] pos) (Jm C (ma >>= λx=>M.JA (rH x.2 T) >>= λb=>pure (.loc,.bl b))):=by
 rintro pins s σ H Q I ⟨c0,rfl,rfl,o,h⟩;have(q,r,u):=Cs T;show K1 (cU I i j (show H8 "isinstance"=a0 (.builtin "isinstance") by decide +kernel) ?_ (by decide +kernel) (by decide +kernel));show W6 (Jj (gz n (gz (Bd (v:=.ty T.nm) k l q rfl r u) ly) hs pos pins s c0.σ c0.H (λvs H'=>∃x c v b,Np C c0 c x v/\c.H=H'/\vs=[v,.ty T.nm]/\rH x.2 T=a0 b/\cn C c0 Q (.loc,.bl b) c.st) I ?_) λus s1 ⟨vs,N,f,y,x,c,v,b,t,e,A,B,w⟩=>?_) hs (by rfl)
 .show ba o h λx c v t w=>?_;rw[ah]at w;have(b,e,w):=bR.mp w;rw[ak]at w;show#[x,c,v,b,t,rfl,rfl,e,w]
 .subst e A;have(O,Y,rfl,D,G):=vals2 y;cases G;have J:Inv X pins c.σ c.H s1:=by rw[t.hσ];show f
  have z:=Ff (Q:=EP X pins c0.σ Q) g t J D B λL=>#[.bl b,c.H,f.tok L,rfl,w c (.bl b) t.hσ rfl t.ok t.nx rfl]
  show z
@[reducible]def M_(P:B')(w:JT)(K:PySem.W.Frag)(H:Hp)(f:gi->Prop):Ct:=#[P,w,K,H,f,λ_=>False]
structure Back(C:Ct)(H H':Hp)(S':gi->Prop)(k:Kd)(u:U)(v:V):Prop where
 same:Er H H'
 new:∀a,S' a->H a=bD/\∃o,H' a=a0 o
 own:k=.own->∃r,v=.ref r/\H r=bD/\¬S' r/\dv C S' H' r u
 loc:k=.loc->Rep C S' H' u v
 any:k=.any->Rep C (PS C S') H' u v
abbrev spT(P:B')(w:JT)(K:PySem.W.Frag)(F:List U->Option (Ex (Kd×U)))(g:Nat):Sp:=λvs H Q _=>vs.length=g/\∃us k u f,F us=a0 (.ok (k,u))/\(k=.own\/k=.loc\/k=.any)/\(∀a,f a->LY H a) /\
 ai (M_ P w K H f) f H us vs/\∀v H' S',Back (M_ P w K H f) H H' S' k u v->Q v H'
def Mh.read(t:Mh C c0 c rs vs):ai C (LY c.H) c.H (rs.map (·.2)) vs:=by
 have f:∀(l:List (Kd×U)) (w:List V),d0 C c0 c l w->bt l c.st->ai C (LY c.H) c.H (l.map (·.2)) w:=by
  intro l;induction l with
  |nil=>intro w h _;show h
  |cons r l g =>
   intro w h hs;have(v,t',rfl,i,j,_):=h;rw[gD]at hs;show#[v,t',rfl,(i.t hs.1).read t.ok,g t' j hs.2]
 show f rs vs t.rep t.Nq
def Back.here(hk:k=.own\/k=.loc)(i:c.σ=c0.σ)(f:Ok C c)(n:Nx c0 c)(q:j.Eqv C)(h:Back j c.H H' S' k u v)(w:cn C c0 Q (k,u) c.st):Q v H':=by
 have(l,t):=f.grow (S':=λa=>c.S a\/S' a) h.same (λa z=>z.imp id λz=>h.new a z) λa=>.inl;have x:=n.trans t;show w {c with H:=H',S:=λa=>c.S a\/S' a} v i rfl l x ?_;rcases hk with rfl|rfl
 .have(r,e,g,y,A):=h.own rfl;have(G,B,I,J,D):=f.kF g;show#[r,e,n.none g,λz=>z.elim B y,D,(A.cg q).mv (.up λa=>.inr) λo q=>q]
 .show((h.loc rfl).cg q).mv (.up λa=>.inr)
def zv(o:C.P=X.prog)(x:C.w=X.w)(y:C.K=X.K)(L:Γ f=F)(hk:∀us k u,F us=a0 (.ok (k,u))->(k=.own\/k=.loc\/k=.any)/\us.length=B)
  (G:ni X.prog X.w X.K X.mg X.base ME k fa N ps (spT X.prog X.w X.K F B)) (O:ic k X.A) (T:Gl X f) (Y:X.mg f=a0 (.ref fa)) (UD:PySem.W.keepIn X.K (.ref fa)=b5) (j:Binds X.K N ps [])
  (Ou:(f==("__debug__":Str))=cb) (ha:PA X (e::es) (KH C ms)) (he:mh (e::es) X.env=(cb,K6 e X.env)::mh es X.env) (JN:(M3 pos (mh es X.env)).any (·.1)=cb) :
  PE X (.Call (.Name f p) (e::es) [] pos) (Jm C (ms >>= λrs=>aM rs >>= λ_=>lZ Γ f (rs.map (·.2)))):=by
 rintro pins s σ H Q I ⟨c0,rfl,rfl,ok,h⟩;show K1 (uK I T Y ?_ Ou);show PySem.W.callWith_K (h₀:=X.base) I.ok.mod.SD UD (Jj (args ha I ok h pos) λus s1 ⟨rs,c,vs,t,D,rv,w⟩=>#[D.O9,?_]) he JN;have(r,st',g,q):=w;unfold lZ at g;rw[L]at g;cases i:F (rs.map (·.2)) with
 |none=>rw[i]at g;cases g
 |some r' =>
  rw[i]at g;split at g
  .cases g
  .rename_i z;cases z
  rename_i UX e3;cases e3;cases g;have(l,u):=r;have(J,k2):=hk _ _ _ i;have k1:l=.own\/l=.loc:=by
   rcases J with z|z|z
   .show .inl z
   .show .inr z
   .subst z;show(UX u rfl).elim
  have n:C.Eqv (M_ X.prog X.w X.K c.H (LY c.H)):=#[o,x,y]
  have UY:(M_ X.prog X.w X.K c.H (LY c.H)).Eqv C:=#[o.symm,x.symm,y.symm]
  have rd:=t.read;have Lb:spT X.prog X.w X.K F B vs c.H (λv H'=>Q v H') E0:=#[by rw[<-rd.len];show k2,rs.map (·.2),l,u,LY c.H,i,J,λ_ z=>z,rd.cg n,λv H' S' j=>j.here k1 t.hσ t.ok t.nx UY q]
  have z:=Ej (Q:=Q) G O j .nil GJ D rv (by rw[Jq];show Lb);rw[t.hσ]at z;show z
end
section
abbrev Mf.id:Mf->String
 |.split=>"str.split"|.join=>"str.join"|.partition=>"str.partition"|.endswith=>"str.endswith"
abbrev Mf.name:Mf->Str
 |.split=>"split"|.join=>"join"|.partition=>"partition"|.endswith=>"endswith"
def zw(h:lY f u rs=a0 r):∃x,u=.str x:=by
 unfold lY at h;split at h
 .show#[_,rfl]
 .show#[_,rfl]
 .cases h
def Fg(u:C.K=X.K)(t:Mh C c0 c (x::rs) (d::vs))(I:Inv X a c.σ c.H s)(k:RelV d v)(rv:Vals vs us)(h:lY f x.2 rs=a0 r)(q:cn C c0 Q r c.st):
  eW (hJ X.prog X.w) X.A (QI (.builtin f.id) (v::us)) (EP X a c.σ Q) X.xe s:=by
 have l:=t.hσ;have b:=t.ok;have n:=t.nx;have(y,z):=x;have hs:=gD.mp t.Nq;obtain⟨L,N,B,i,g,-⟩:=t.rep;cases B;have m:aP C c0 c y z d:=i.t hs.1;have one:∀{r:Kd×U},d0 C c0 c [r] vs->bt [r] c.st->∃v,vs=[v]/\aP C c0 c r.1 r.2 v:=λ{r} h s=>by
  have(v,t',rfl,i,g,_):=h;cases g;show#[v,rfl,i.t s]
 dsimp only at h
 unfold lY at h;split at h
 .have(w,rfl,j):=one g hs.2;split at h
  .rename_i hh;cases h;show yI a s c.σ c.H d [w] v us Q I k rv #[_,_,m.str b,by rw[j.str b],hh.1,hh.2,λp D=>q.list l b n (ai.strs.mpr rfl) p D]
  .cases h
 .rw[nT]at h;have(ss,e,h):=h;have G:=cp e;subst G;have(w,rfl,j):=one g hs.2;have(a',ws,ex,J,o):=j.list b;rw[ai.strs]at o;subst o;split at h
  .cases h;show BD a s c.σ c.H d [w] v us Q I k rv #[_,a',ss,m.str b,by rw[ex],u▸J,by assumption,q.flat l b n rfl]
  .cases h
 .cases h
def Cv(L:C.K=X.K)(slot:Slot "str" name f.id)(N:ž (.builtin f.id)=pure (.type "method_descriptor"))(ho:PE X o (Jm C m))(O:PA X (e::es) (KH C ms))
  (T:SN o name X.env (K6 o X.env)=K6 o X.env)
  (Y:((M3 b (mh (e::es) X.env)).all (λx=>!x.1)&&(UQ b (Qz [] X.env)).all (λx=>x.1.isSome)
   && df ((e::es).length+([]:List SW).length+(if ([]:List SW).isEmpty then 0 else 1)<30))=b5)
  (Jt:(g.endLine==b.line)=b5) (hs:mh (e::es) X.env=(cb,K6 e X.env)::mh es X.env) (J':(M3 b (mh es X.env)).any (·.1)=cb) :
  PE X (.Call (.Attribute o name g) (e::es) [] b) (Jm C (m >>= λx=>ms >>= λrs=>aM (x::rs) >>= λ_=>M.JA (lY f x.2 rs))):=by
 rintro a s σ H Q I ⟨c0,rfl,rfl,ok,h⟩;show İ T Y Jt rfl (Jj (ho a s c0.σ c0.H (λj p=>∃x c1,c1.H=p/\Np C c0 c1 x j/\W (ms >>= λrs=>aM (x::rs) >>= λ_=>M.JA (lY f x.2 rs)) c1.st (cn C c0 Q)) I (ba ok h λx c v t w=>#[x,c,rfl,t,w])) ?_);rintro v s1 ⟨j,p,u,y,x,c1,rfl,t,w⟩;have OL:∃z,x.2=.str z:=by
  rw[ah]at w;have(rs,st2,_,w):=w;rw[ah]at w;have(_,st3,_,w):=w;have(r,e,_):=bR.mp w;show zw e
 have(z,hz):=OL;have A:=t.rx;rw[hz]at A;have ev:=A.str t.ok;have ty:RA X.K "str" j c1.H:=by rw[ev];rfl
 have(h1,h2):=pk u y ty;show#["str",f.id,PySem.F.plainAttrs_str,slot,N,h1,h2,?_];rw[ah]at w;have B:=O b a s1 c0.σ c1.H (λvs D=>∃rs d,d.H=D/\Mh C c0 d (x::rs) (j::vs)/\W (M.JA (lY f x.2 rs)) d.st (cn C c0 Q)) u ⟨c1,t.hσ,rfl,t.ok,w.mono λrs st2 l d vs G e4 JC J k=>by
  rw[ah,cy]at l;subst e4;show#[rs,d,rfl,#[G,JC,t.nx.trans J,#[j,vs,rfl,t.rx.w.on t.ok J (G.trans t.hσ.symm),k.from t.nx,λhk i r' v' e5 e6 J4=>pT t.rx.w (k.get e5 e6) hk J4],l.1],l.2]⟩
 rw[hs]at B ⊢;show Kj (by change(cb||(M3 b (mh es X.env)).any (·.1))=cb;rw[J']<;>rfl) (QV ?_);show Jj B ?_;rintro us s2 ⟨vs,D,I2,k,rs,d,rfl,n,w2⟩;have(r,e,q):=bR.mp w2;have z:=Fg L n (by rw[n.hσ];show I2) y k e q;rw[n.hσ]at z;show z
end
section
variable{X:Cx}{C:Ct}{pins:List (gi×Obj)}{s:gj}{c0 c c1:Cf}
variable{e:ro}{es:List ro}{ms:M (List (Kd×U))}{pos p p2 pos2:Pos}
abbrev B2.out:B2->dV
 |.MP=>.type "tuple"|.Ll=>.type "list"|.sset=>.builtin "sorted"|.pq=>.builtin "len"
abbrev B2.R8:B2->dV
 |.MP=>.type "reversed"|.Ll=>.type "reversed"|.sset=>.type "set"|.pq=>.type "set"
abbrev B2.pW:B2->Str
 |.MP=>"tuple"|.Ll=>"list"|.sset=>"sorted"|.pq=>"len"
abbrev B2.ja:B2->Str
 |.MP=>"reversed"|.Ll=>"reversed"|.sset=>"set"|.pq=>"set"
theorem ai.rev{S:gi->Prop}:∀{us:List U}{vs:List V},ai C S H us vs->ai C S H us.reverse vs.reverse
 |[],vs,h=>by cases h;show rfl
 |u::us,vs,h=>by
  have(v,r,rfl,a,b):=h;rw[VU,VU];show(ai.rev b).append #[v,[],rfl,a,rfl]
def oo(i:C.K=X.K)(j:Ok C c)(l:aP C c0 c k u v)(h:iV u=a0 ss):∃a b,v=.ref a/\(JG X.K c.H a (b.map V.str)\/JH X.K c.H a (b.map V.str))/\b.length+1<MB/\ss=aE b:=by
 unfold iV at h;split at h
 .rw[nT]at h;have(b,e,h):=h;have g:=cp e;subst g;have(a',ws,ex,f,d):=l.list j;rw[ai.strs]at d;subst d;split at h
  .cases h;show#[a',b,ex,.inl (i▸f),by assumption,rfl]
  .cases h
 .rw[nT]at h;have(b,e,h):=h;have g:=cp e;subst g;have(a',ws,ex,f,d):=l.tuple j;rw[ai.strs]at d;subst d;rw[i]at f;split at h
  .cases h;show#[a',b,ex,.inr f,by assumption,rfl]
  .cases h
 .cases h
def Fh(d:X.calm=b5)(k:C.K=X.K)(t:Mh C c0 c rs vs)(I:Inv X pins c.σ c.H s)(rv:Vals vs us)(h:xx f rs=a0 r)(q:cn C c0 Q r c.st):
  eW (hJ X.prog X.w) X.A (QI f.R8 us) (λv s1=>eW (hJ X.prog X.w) X.A (QI f.out [v]) (EP X pins c.σ Q) X.xe s1) X.xe s:=by
 have m:=t.hσ;have a:=t.ok;have n:=t.nx;cases f with
 |Ll =>
  have(x,rfl,hz):=bG (f:=EZ) h;clear h;have h:=hz;clear hz;have(v,rfl,g):=t.one;unfold EZ at h;split at h
  .have(a',ws,ex,b,i):=g.list a;rw[k]at b;subst ex;have(u,rfl,j):=vals1 rv;cases j;split at h
   .cases h;show y6 d I b λl hl=>q.list m a n (eT (by assumption) i).rev l hl
   .cases h
  .cases h
 |sset =>
  have(x,rfl,hz):=bG (f:=λx=>(iV x.2).bind λss=>if ss.length<64 then a0 (Kd.own,U.lst ((aC ss).map .str)) else bD) h;clear h;have h:=hz;clear hz;have(ss,e,h):=nT.mp h;have(v,rfl,g):=t.one;have(a',z,rfl,b,i,rfl):=oo k a g e;have(u,rfl,j):=vals1 rv;cases j;split at h
  .cases h;show pO d I b i λS h' B o y=>g_ d y o (by assumption) λl hl=>q.list m a n (ai.strs.mpr rfl) l hl
  .cases h
 |_=>cases h
def vk:∀f:B2,H8 f.pW=a0 f.out/\H8 f.ja=a0 f.R8/\f.pW≠"__name__"/\f.ja≠"__name__"/\(f.pW==("__debug__":Str))=cb/\(f.ja==("__debug__":Str))=cb:=by
 intro f;cases f<;>show#[by decide +kernel,by decide +kernel,by decide +kernel,by decide +kernel,by decide +kernel,by decide +kernel]
def Fi(f:B2):∃T,f.R8=.type T:=by cases f<;>show#[_,rfl]
def Fj(f:B2):(∃T,f.out=.type T)\/∃T,f.out=.builtin T:=by cases f<;>first|show .inl ⟨_,rfl⟩|show .inr ⟨_,rfl⟩
def vm{M:Model}{E:dV->gj->Prop}(h:eW M A t (λv a=>eW M A (QI (.type T) [v]) Q E a) E s):eW M A (callWith pos (.type T) [] [(cb,t)] []) Q E s :=
 PySem.callWith_type rfl (QV (R' (HT h (λ_ _ b=>VE b) λ_ _ e=>e)))
def pX{M:Model}{E:dV->gj->Prop}(h:eW M A t (λv a=>eW M A (QI (.builtin T) [v]) Q E a) E s):eW M A (callWith pos (.builtin T) [] [(cb,t)] []) Q E s :=
 Kj rfl (QV (R' (HT h (λ_ _ b=>VE b) λ_ _ e=>e)))
def zx(b:X.calm=b5)(d:C.K=X.K)(g:Gl X f.ja)(i:X.mg f.ja=bD)
  (j:PA X (e::es) (KH C ms)) (k:mh (e::es) X.env=(cb,K6 e X.env)::mh es X.env) (l:(M3 pos2 (mh es X.env)).any (·.1)=cb)
  (I:Inv X pins c0.σ c0.H s) (m:Ok C c0) (h:W (ms >>= λrs=>aM rs >>= λ_=>M.JA (xx f rs)) c0.st (cn C c0 Q)) :
  eW (hJ X.prog X.w) X.A (K6 (.Call (.Name f.ja p2) (e::es) [] pos2) X.env) (λv s1=>eW (hJ X.prog X.w) X.A (QI f.out [v]) (EP X pins c0.σ Q) X.xe s1) X.xe s:=by
 have(b1,n,b3,b4,B,o):=vk f;show K1 (cU I g i n ?_ b4 o);have a:eW (hJ X.prog X.w) X.A (Τ (M3 pos2 (mh (e::es) X.env))) (λus s1=>eW (hJ X.prog X.w) X.A (QI f.R8 us) (λv s1=>eW (hJ X.prog X.w) X.A (QI f.out [v]) (EP X pins c0.σ Q) X.xe s1) X.xe s1) X.xe s :=
  Jj (args j I m h pos2) λus s1 u=>by
   have(rs,c,vs,t,x,rv,w):=u;have(r,e,q):=bR.mp w;have z:=Fh b d t x rv e q;rw[t.hσ]at z;show z
 have(T,y):=Fi f;rw[y]at a ⊢;show LC a k l
def Cw(d:X.calm=b5)(g:C.K=X.K)(i:Gl X f.pW)(j:X.mg f.pW=bD)(k:Gl X f.ja)(l:X.mg f.ja=bD)
  (m:PA X (e::es) (KH C ms)) (n:mh (e::es) X.env=(cb,K6 e X.env)::mh es X.env) (o:(M3 pos2 (mh es X.env)).any (·.1)=cb) :
  PE X (.Call (.Name f.pW p) [.Call (.Name f.ja p2) (e::es) [] pos2] [] pos) (Jm C (ms >>= λrs=>aM rs >>= λ_=>M.JA (xx f rs))):=by
 rintro pins s σ H Q I ⟨c0,rfl,rfl,q,h⟩;have(b1,v,b3,b4,r,w):=vk f;show K1 (cU I i j b1 ?_ b3 r);have a:=zx (p2:=p2) (pos2:=pos2) d g k l m n o I q h;have t:M3 pos (mh [.Call (.Name f.ja p2) (e::es) [] pos2] X.env)=[(cb,K6 (.Call (.Name f.ja p2) (e::es) [] pos2) X.env)]:=rfl;have u:UQ pos (Qz [] X.env)=[]:=rfl;rw[t,u];rcases Fj f with⟨T,b⟩|⟨T,b⟩
 .rw[b]at a ⊢;show vm a
 .rw[b]at a ⊢;show pX a
end
section
variable{X:Cx}{C:Ct}{pins:List (gi×Obj)}{s:gj}{c0 c c1:Cf}
variable{a b d e o tg:ro}{es:List ro}{m ma mb md:M (Kd×U)}{ms:M (List (Kd×U))}{ta tb:M Bool}{pos p p2 apos F':Pos}
abbrev j8(rs:List (Kd×U))(c f:Cf):Prop:=∀j u,(Kd.bor j,u)∈rs->f.σ[j]?=c.σ[j]?
abbrev Walk(C:Ct)(c:Cf)(rs:List (Kd×U))(xs:List (Kd×U))(J:It):Prop:=∀f,Ok C f->Ns c f->j8 rs c f->bt rs f.st ->
 (∀(i:Nat) r,xs[i]?=a0 r->(r.1=.loc\/r.1=.any)/\J.go i f.H/\∀x H',J.Rv i f.H x H'->∃g:Cf,g.H=H'/\g.σ=f.σ/\g.st=f.st/\Ok C g/\Nx f g/\aP C f g r.1 r.2 x) /\
 ∀i:Nat,xs.length<=i->J.stop i f.H
abbrev Mj(C:Ct)(ik:Ik)(ms:M (List (Kd×U))):TI:=λσ H R=>∃c0:Cf,c0.σ=σ/\c0.H=H/\Ok C c0/\W (ms >>= λrs=>aM rs >>= λ_=>M.JA (KQ ik rs) >>= λxs=>pure (rs,xs)) c0.st λq st' =>
 ∀c J,c.σ=σ->c.st=st'->Ok C c->Nx c0 c->bt q.1 c.st->Walk C c q.1 q.2 J->R J c.H
def aP.walk(g:Ok C c)(n:Ns c f)(i:j8 [r] c f)(hs:bt [r] f.st)(h:aP C c0 c r.1 r.2 v):aP C c0 f r.1 r.2 v :=
 (h.w.WI g n λj e=>i j r.2 (by rw[<-e];simp)).t hs
def vn(k:Kd):kE k=.loc\/kE k=.any:=by cases k<;>simp[kE]
def xG(z:C.K=X.K)(A:Ok C c)(h:aP C c0 c k (.lst us) (.ref a')):Walk C c [(k,.lst us)] (us.map λu=>(kE k,u)) (SU X.K a'):=by
 intro l q n B hs;have h':=aP.walk (r:=(k,.lst us)) A n B hs h;have(H,vs,e,f,t):=h'.list q;cases e;rw[z]at f;show#[λi r w=>?_,λi D=>#[vs,f,by rw[<-t.len];simpa using D]];rw[i5,ez]at w;have(u,G,rfl):=w;have(v,y,g):=t.get G;show#[vn k,#[vs,v,f,y],λx H' j=>?_];have(e,j):=j;subst e;have:=j vs f;rw[y]at this;cases this;show#[l,rfl,rfl,rfl,q,Nx.refl l,aP.item g]
def tJ(z:C.K=X.K)(A:Ok C c)(h:aP C c0 c k (.tup us) (.ref a')):Walk C c [(k,.tup us)] (us.map λu=>(kE k,u)) (SV X.K a'):=by
 intro l q n B hs;have h':=aP.walk (r:=(k,.tup us)) A n B hs h;have(H,vs,e,f,t):=h'.tuple q;cases e;rw[z]at f;show#[λi r w=>?_,λi D=>#[vs,f,by rw[<-t.len];simpa using D]];rw[i5,ez]at w;have(u,G,rfl):=w;have(v,y,g):=t.get G;show#[vn k,#[vs,v,f,y],λx H' j=>?_];have(e,j):=j;subst e;have:=j vs f;rw[y]at this;cases this;show#[l,rfl,rfl,rfl,q,Nx.refl l,aP.item g]
def tK{lo:Int}:Walk C c rs ((hH n).map λi:Nat=>(Kd.loc,U.int (lo+(i:Int)))) (Rx lo n):=by
 intro h l nx t hs;show#[λi r k=>?_,λi f=>by change n<=i;simpa using f];rw[i5,ez]at k;have(j,g,rfl):=k;have f:i<n:=by simpa using(et.mp g).1
 rw[Ģ f]at g;cases g;show#[.inl rfl,f,λy H' q=>?_];have(e,rfl):=q;subst e;show#[h,rfl,rfl,rfl,l,Nx.refl h,rfl]
def Fm(i:C.K=X.K)(t:PE X a (Jm C ma)):PI X tg a (Mj C .seq (ma >>= λr=>pure [] >>= λrs=>pure (r::rs))):=by
 rintro pins s σ H R I ⟨c0,rfl,rfl,w,h⟩;rw[ah,ah]at h;have(r,st1,x,h):=h;rw[ah,ak,ak,ah,cy,ah]at h;have(y,h):=h;have(xs,j,h):=bR.mp h;rw[ak]at h;have(k,u):=r;cases u with
 |lst us =>
  cases j;show Bj t pins s c0.σ c0.H R I #[c0,rfl,rfl,w,_,st1,x,λc v l hs g n f=>?_];have(a',vs,rfl,q,A):=f.list g;subst hs;show#[a',rfl,#[vs,i▸q],h c _ l rfl g n y (xG i g f)]
 |tup us =>
  cases j;show Ee t pins s c0.σ c0.H R I #[c0,rfl,rfl,w,_,st1,x,λc v l hs g n f=>?_];have(a',vs,rfl,q,A):=f.tuple g;subst hs;have z:=q;rw[i]at z;show#[a',rfl,#[vs,z],h c _ l rfl g n y (tJ i g f)]
 |_=>cases j
def pY{k:List (Kd×U)->M β}{g:β->aB->Prop}(i:Ok C c0)(h:W (ms >>= λrs=>aM rs >>= λ_=>k rs) c0.st g)
  (hz:∀rs c vs,Mh C c0 c rs vs->W (k rs) c.st g->Z vs c.H):KH C ms c0.σ c0.H Z:=by
 rw[ah]at h;show#[c0,rfl,rfl,i,h.mono λrs st1 f c1 vs j l n q r=>?_];rw[ah,cy]at f;subst l;show hz rs c1 vs #[j,n,q,r,f.1] f.2
def Cy(i:Gl X "range")(j:X.mg "range"=bD)(hs:mh [a] X.env=[(cb,K6 a X.env)])(k:PA X [a] (KH C ms)):PI X tg (.Call (.Name "range" p) [a] [] pos) (Mj C .JQ ms):=by
 rintro pins s σ H R I ⟨c0,rfl,rfl,l,h⟩;show wU i j k hs pins s c0.σ c0.H R I (pY l h λrs c vs t w=>?_);rw[ah]at w;have(xs,g,w):=bR.mp w;rw[ak]at w;have(x,rfl,hz):=bG (f:=xy) g;clear g;have g:=hz;clear hz;have(v,rfl,n):=t.one;unfold xy at g;split at g
 .split at g
  .rename_i hh;cases g;show#[_,by rw[n.int t.ok],⋯,⋯,w c _ t.hσ rfl t.ok t.nx t.Nq tK]
  .cases g
 .cases g
def rJ{k:Kd}{us:List U}{h:U}{a':gi}{w:Hp->List V->Prop}(G:∀f,Ok C f->Ns c f->j8 [(k,h)] c f->bt [(k,h)] f.st->∃vs,w f.H vs/\ai C (SK C f k) f.H us vs):Walk C c [(k,h)] (us.zipIdx.map λp=>(kE k,.tup [.int p.2,p.1])) (Pk w):=by
 intro f g n I hs;have(vs,j,y):=G f g n I hs;show#[λi r z=>?_,λi J=>#[vs,j,by rw[<-y.len];simpa using J]];rw[i5,ez]at z;have(p,A,rfl):=z;rw[Xk,ez]at A;have(u,L,rfl):=A;have(v,B,l):=y.get L;show#[vn k,#[vs,v,j,B],λx H' q=>?_];have(p,N,rfl,q):=q;have O:=q vs v j B;subst O;have(Q,t):=g.lay (o:=.tup [.int i,v]) N;show#[{f with H:=upd f.H p (.tup [.int i,v])},rfl,rfl,rfl,Q,t,aP.item ?_];have D:ai C (SK C f k) f.H [.int ((0+i:Nat):Int),u] [.int (i:Int),v]:=by
  rw[Rt];show#[_,_,rfl,rfl,_,_,rfl,l,rfl]
 cases k<;>show#[p,_,rfl,JH.of aw,by first|show D.mv (g.M8 t)|show D.mv (g.mv t)]
def Fo{es:List ro}{z:Nat}{ps:Pos}(k:C.K=X.K)(A:Gl X "enumerate")(B:X.mg "enumerate"=bD)(hs:mh [a] X.env=[(cb,K6 a X.env)])(D:PA X [a] (KH C ms)):PI X (.Tuple es z ps) (.Call (.Name "enumerate" p) [a] [] pos) (Mj C .Nj ms):=by
 rintro pins s σ H R I ⟨c0,rfl,rfl,G,h⟩;show BM A B D hs pins s c0.σ c0.H R I (pY G h λrs c vs t w=>?_);rw[ah]at w;have(xs,i,w):=bR.mp w;rw[ak]at w;have(x,rfl,hz):=bG (f:=E1) i;clear i;have i:=hz;clear hz;have(v,rfl,l):=t.one;unfold E1 at i;split at i
 .cases i;have(a',ws,q,g,j):=l.list t.ok;subst q;show#[a',rfl,.inl #[#[ws,k▸g],w c _ t.hσ rfl t.ok t.nx t.Nq ?_]];show rJ (a':=a') λJ r n u y=>?_;have(L,vs,e,g,j):=(aP.walk t.ok n u y l).list r;cases e;show#[vs,k▸g,j]
 .cases i;have(a',ws,q,g,j):=l.tuple t.ok;subst q;rw[k]at g;show#[a',rfl,.inr #[#[ws,g],w c _ t.hσ rfl t.ok t.nx t.Nq ?_]];show rJ (a':=a') λJ r n u y=>?_;have(L,vs,e,g,j):=(aP.walk t.ok n u y l).tuple r;cases e;rw[k]at g;show#[vs,g,j]
 .cases i
def zy(G:∀f,Ok C f->Ns c f->j8 [(k,.lst us),(k',.tup ws)] c f->bt [(k,.lst us),(k',.tup ws)] f.st->∃vs xs,JG X.K f.H a' vs/\JH X.K f.H I xs/\ai C (SK C f k) f.H us vs/\ai C (SK C f k') f.H ws xs):
  Walk C c [(k,.lst us),(k',.tup ws)] ((us.zip ws).map λp=>(kT k k',.tup [p.1,p.2])) (Uq (λH xs=>JG X.K H a' xs) λH J=>JH X.K H I J):=by
 intro f j n L hs;have(vs,xs,s1,s2,u,y):=G f j n L hs;show#[λi r A=>?_,λi N=>#[vs,xs,s1,s2,?_]]
 .rw[i5,ez]at A;have(p,O,rfl):=A;have(Q,T):=VG.mp O;have(v,B,g):=u.get Q;have(w,D,h):=y.get T;show#[by cases k<;>cases k'<;>simp[kT,isAny],#[vs,xs,v,w,s1,s2,B,D],λx H' l=>?_];have(q,Y,rfl,l):=l;have MC:=l vs xs v w s1 s2 B D;subst MC;have(JC,t):=j.lay (o:=.tup [v,w]) Y;show#[{f with H:=upd f.H q (.tup [v,w])},rfl,rfl,rfl,JC,t,?_];have a1:ai C (SK C f k) f.H [p.1] [v]:=#[_,_,rfl,g,rfl]
  have a2:ai C (SK C f k') f.H [p.2] [w]:=#[_,_,rfl,h,rfl]
  have m:ai C (SK C f (kT k k')) f.H [p.1,p.2] [v,w]:=(a1.mv (.up (E6 k k'))).append (a2.mv (.up (B7 k k')));have z:aP C f {f with H:=upd f.H q (.tup [v,w])} (kE (kT k k')) (.tup [p.1,p.2]) (.ref q):=aP.item (by
   generalize kT k k'=k0 at m;cases k0<;>show#[q,_,rfl,JH.of aw,by first|show m.mv (j.M8 t)|show m.mv (j.mv t)])
  rw[GW]at z;show z
 .have e1:=u.len;have e2:=y.len;rw[cK,Sj]at N;lia
def rK{st:aB}(h:bt [x,y] st):bt [x] st/\bt [y] st:=by
 have(k,u):=x;have(k',u'):=y;cases k<;>cases k'<;>first|show⟨h.1,h.2⟩|show⟨⟨h.1,trivial⟩,h.2⟩|show⟨trivial,h⟩|show#[#[h.1,trivial],trivial]
def Fp(i:C.K=X.K)(A:Gl X "zip")(B:X.mg "zip"=bD)(D:mh (a::[b]) X.env=(cb,K6 a X.env)::mh [b] X.env)(G:(M3 pos (mh [b] X.env)).any (·.1)=cb)(J:PA X [a,b] (KH C ms)):PI X (.Tuple es kx ps) (.Call (.Name "zip" p) [a,b] [] pos) (Mj C .zip ms):=by
 rintro pins s σ H R I ⟨c0,rfl,rfl,L,h⟩;show EI A B J D G pins s c0.σ c0.H R I (pY L h λrs c vs t w=>?_);rw[ah]at w;have(xs,f,w):=bR.mp w;rw[ak]at w;have f:E2 rs=a0 xs:=f;unfold E2 at f;split at f
 .cases f;have(v,v',rfl,k,l):=t.two;have(a',N,O,Q,h2):=k.list t.ok;have(T,Y,e3,q,h4):=l.tuple t.ok;subst O e3;rw[i]at q;show#[a',T,rfl,#[N,i▸Q],#[Y,q],w c _ t.hσ rfl t.ok t.nx t.Nq ?_];show zy λc' r n x y=>?_;have(a2,vs,e,g1,g2):=(aP.walk t.ok n (λj u g=>x j u (by simp at g ⊢;show .inl g)) (rK y).1 k).list r;cases e;have(a3,JL,e,z,g4):=(aP.walk t.ok n (λj u g=>x j u (by simp at g ⊢;show .inr g)) (rK y).2 l).tuple r;cases e;rw[i]at z;show#[vs,JL,i▸g1,z,g2,g4]
 .cases f
def zA{vs:List V}(A:C.K=X.K)(B:Ok C c)(h:aP C c0 c k (.lst us) (.ref a'))(hl:us.length=vs.length):Walk C c [(k,.lst us)] (us.reverse.map λu=>(kE k,u)) (Uk X.K a' vs.length):=by
 intro t w n D hs;have h':=aP.walk (r:=(k,.lst us)) B n D hs h;have(H,ws,e,f,y):=h'.list w;cases e;rw[A]at f;have I:=y.len;show#[λi r z=>?_,λi g=>by change vs.length<=i;rw[<-hl];simpa using g];rw[i5,ez]at z;have(u,j,rfl):=z;have g:i<us.length:=by simpa using(et.mp j).1
 rw[ĉ g,hl]at j;have(v,G,l):=y.get j;show#[vn k,#[⋯,ws,f,⋯],λx H' q=>?_];have(e,q):=q;subst e;have:=q ws f;rw[G]at this;cases this;show#[t,rfl,rfl,rfl,w,Nx.refl t,aP.item l]
def Fq(k:X.calm=b5)(i:C.K=X.K)(l:Gl X "reversed")(n:X.mg "reversed"=bD)(hs:mh [a] X.env=[(cb,K6 a X.env)])(q:PA X [a] (KH C ms)):PI X tg (.Call (.Name "reversed" p) [a] [] pos) (Mj C .rev ms):=by
 rintro pins s σ H R I ⟨c0,rfl,rfl,r,h⟩;show EH k l n q hs pins s c0.σ c0.H R I (pY r h λrs c vs t w=>?_);rw[ah]at w;have(xs,g,w):=bR.mp w;rw[ak]at w;have(x,rfl,hz):=bG (f:=E4) g;clear g;have g:=hz;clear hz;have(v,rfl,j):=t.one;unfold E4 at g;split at g
 .cases g;have(a',ws,u,y,z):=j.list t.ok;subst u;show#[a',ws,rfl,i▸y,w c _ t.hσ rfl t.ok t.nx t.Nq (zA i t.ok j z.len)]
 .cases g
def Ok.put(t:Ok C c)(n:Nx c0 c)(hi:i<c.σ.length)(hk:k=.own\/k=.loc\/k=.any)(Ky:Ok C c0)(h:aP C c0 c k u v):
  Ok C {c with σ:=c.σ.set i (a0 v),st:=c.st.set i (a0 (k,u))}/\Nx c0 {c with σ:=c.σ.set i (a0 v),st:=c.st.set i (a0 (k,u))}:=by
 have Kh:i<c.st.length:=by rw[t.len];show hi
 have JE:∀(j:Nat) k' u',(c.st.set i (a0 (k,u)))[j]?=a0 (a0 (k',u'))->j≠i->c.st[j]?=a0 (a0 (k',u')):=λj k' u' e ne=>by rw[mA (uv ne)]at e;show e
 have Lm:∀(j:Nat) D,(c.σ.set i (a0 v))[j]?=a0 (a0 D)->j≠i->c.σ[j]?=a0 (a0 D):=λj D e ne=>by rw[mA (uv ne)]at e;show e
 have sl:fZ C c.S c.H k u v:=by
  rcases hk with rfl|rfl|rfl
  .have(r,e,G,O,y,Q):=h;have(z0,z1,T,z3,z4):=Ky.kF G;show#[r,e,O,T,z0,Q]
  .show h
  .show h
 have OM:∀(j:Nat) k' u' r,k'.root=b5->(c.st.set i (a0 (k,u)))[j]?=a0 (a0 (k',u'))->(c.σ.set i (a0 v))[j]?=a0 (a0 (.ref r))->j=i/\k=.own/\v=.ref r\/j≠i/\c.st[j]?=a0 (a0 (k',u'))/\c.σ[j]?=a0 (a0 (.ref r)):=λj k' u' r I f g=>by
  by_cases l:j=i
  .subst l;rw[gs Kh]at f;rw[gs hi]at g;cases f;cases g;rcases hk with rfl|rfl|rfl
   .show .inl #[rfl,rfl,rfl]
   .cases I
   .cases I
  .show .inr #[l,JE j k' u' f l,Lm j _ g l]
 have dD:∀(j:Nat) (u':U),(c.st.set i (a0 (k,u)))[j]?=a0 (a0 (.G',u'))->c.st[j]?=a0 (a0 (.G',u'))/\(c.σ.set i (a0 v))[j]?=c.σ[j]?:=λj u' e=>by
  by_cases l:j=i
  .subst l;rw[gs Kh]at e;cases e;rcases hk with hk|hk|hk<;>cases hk
  .show#[JE j .G' u' e l,mA (uv l)]
 have b1:∀a,({c with σ:=c.σ.set i (a0 v),st:=c.st.set i (a0 (k,u))}:Cf).R1 a->c.R1 a\/k=.own/\v=.ref a:=λa Js=>by
  have(j,k',u',I,f,g):=Js;rcases OM j k' u' a I f g with⟨Y,w,x⟩|⟨Y,w,x⟩
  .show .inr #[w,x]
  .show .inl #[j,k',u',I,w,x]
 have MT:Ms C {c with σ:=c.σ.set i (a0 v),st:=c.st.set i (a0 (k,u))}:=t.dd.of rfl dD (λa z=>(b1 a z).imp id λ⟨J,L⟩ j z'=>by
  subst J;have(A,e,_,_,y,_):=h;rw[L]at e;cases e;show y (.inr #[j,z'])) (.up λ_ z=>z) λj a z=>#[(t.root (.inr #[j,z])).1,λo q=>q]
 show#[#[t.same,t.KU,t.par,t.io,by simp[t.len],λj k' u' e=>?_,λj1 j2 k1 k2 u1 u2 r ON QX f g N e4=>?_,MT],#[#[n.keep,n.there,λa z=>?_,n.sub,n.new],λa ⟨j,u',A,f,g,N⟩=>let ⟨J,L⟩:=dD j u' f;n.dk a #[j,u',A,J,L▸g,N]]]
 .by_cases l:j=i
  .subst l;rw[gs Kh]at e;cases e;show#[v,by rw[gs hi],sl]
  .have(D,f,g):=t.sl j k' u' (JE j k' u' e l);show#[D,by rw[mA (uv l)];show f,g]
 .have z1:=OM j1 k1 u1 r ON f N;have T:=OM j2 k2 u2 r QX g e4;rcases z1 with⟨Y,w,x⟩|⟨Y,w,x⟩
  .rcases T with⟨b1,B,b3⟩|⟨b1,B,b3⟩
   .show Y.trans b1.symm
   .subst w;have(A,e,G,O,y,Q):=h;rw[x]at e;cases e;show(y (.inl #[j2,k2,u2,QX,B,b3])).elim
  .rcases T with⟨b1,B,b3⟩|⟨b1,B,b3⟩
   .subst B;have(A,e,G,O,y,Q):=h;rw[b3]at e;cases e;show(y (.inl #[j1,k1,u1,ON,w,x])).elim
   .show t.inj j1 j2 k1 k2 u1 u2 r ON QX w B x b3
 .rcases z with z|⟨j,u',A,f,g,N⟩
  .rcases b1 a z with z|⟨w,x⟩
   .show n.roots a (.inl z)
   .subst w;have(A,e,G,O,y,Q):=h;rw[x]at e;cases e;show .inr G
  .have(J,L):=dD j u' f;show n.roots a (.inr #[j,u',A,J,L▸g,N])
def vp(z:Ok C c0)(q:Ok C c)(n:Nx c0 c)(A:i<c.σ.length)(t:aP C c0 c r.1 r.2 v)(h:W (fO i r) c.st J):
  ∃y,y.σ=c.σ.set i (a0 v)/\y.H=c.H/\Ok C y/\Nx c0 y/\J () y.st:=by
 have(k,u):=r;cases k with
 |own =>
  have(x,st',e,f):=h;cases e;have(g,l):=q.put n A (.inl rfl) z t;show#[{c with σ:=c.σ.set i (a0 v),st:=c.st.set i (a0 (.own,u))},rfl,rfl,g,l,f]
 |loc =>
  have(x,st',e,f):=h;cases e;have(g,l):=q.put n A (.inr (.inl rfl)) z t;show#[{c with σ:=c.σ.set i (a0 v),st:=c.st.set i (a0 (.loc,u))},rfl,rfl,g,l,f]
 |any =>
  have(x,st',e,f):=h;cases e;have(g,l):=q.put n A (.inr (.inr rfl)) z t;show#[{c with σ:=c.σ.set i (a0 v),st:=c.st.set i (a0 (.any,u))},rfl,rfl,g,l,f]
 |bor j =>
  have(x,st',e,f):=h;rw[show fO i (.bor j,u) c.st=match c.st[j]? with|some (a0 (.own,u))=>a0 (Ex.ok (),(c.st.set j (a0 (.loc,u))).set i (a0 (.loc,u)))|_=>bD from rfl]at e;split at e
  .rename_i w D;cases e;have(Q,G,r,L,_):=q.sl j _ _ D;have I:c.σ[j]?=a0 (a0 v):=t.2;rw[I]at G;cases G;subst L;have(N,O,B):=q.zt n D I;have(g,l):=Ok.put (c:={c with S:=λa=>c.S a\/a=r,st:=c.st.set j (a0 (.loc,w))}) N O (k:=.loc) (u:=w) (v:=.ref r) A (.inr (.inl rfl)) z B;show#[{S:=λa=>c.S a\/a=r,H:=c.H,σ:=c.σ.set i (a0 (.ref r)),st:=(c.st.set j (a0 (.loc,w))).set i (a0 (.loc,w)),kid:=c.kid},rfl,rfl,g,l,f]
  .cases e
 |_=>show t.elim
end
section
def Ok.IS(B:Ok C c0)(b:Ok C c)(n:Nx c0 c)(p:c0.H r=bD)(f:¬c.S r)(q:¬c.R r)(D:∃o,c.H r=a0 o/\¬Tp o):
  Ok C {c with H:=upd c.H r o' }/\Nx c0 {c with H:=upd c.H r o' }:=by
 have(o,ho,G):=D;have(I,_,J,qI,_):=B.kF p;have L:¬PS C c.S r:=λz=>z.elim J f;have d:∀a o2,a≠r->c.H a=a0 o2->(upd c.H r o') a=a0 o2:=λa o2 N e=>by rw[aj N];show e
 have h:∀S:gi->Prop,¬S r->Mv S c.H S (upd c.H r o'):=λS f=>#[λa z=>z,λa l e O=>d a l (λz=>by subst z;rw[ho]at e;cases e;show G O) e,λa l z e=>d a l (λy=>by subst y;show f z) e]
 have s:∀{a:gi} {o2:HO},c0.H a=a0 o2->a≠r:=λe z=>by subst z;rw[p]at e;cases e
 have m:∀a,(∃o2,c.H a=a0 o2)->∃o2,(upd c.H r o') a=a0 o2:=λa Q=>by
  have(o2,e):=Q;by_cases t:a=r
  .subst t;show#[o',aw]
  .show#[o2,d a o2 t e]
 show#[#[λa o2 e z=>d a o2 (λy=>by subst y;rw[I]at e;cases e) (b.same a o2 e z),λa z=>#[(b.KU a z).1,m a (b.KU a z).2],b.par,λa z=>#[(b.io a z).1,m a (b.io a z).2],b.len,λi k u e=>?_,b.inj,b.dd.hs (h _ f) λj a z=>#[(b.root (.inr #[j,z])).1,λo2 e=>d a o2 (λy=>by subst y;show q (.inr #[j,z])) e]],?_]
 .have(v,w,g):=b.sl i k u e;show#[v,w,g.mv (h _ f) (h _ L) λhk T x=>?_];have(PF,A,Y,_):=g.rt hk;rw[x]at A;cases A;show#[Y,λo2 g=>d T o2 (λy=>by subst y;show q (.inl #[i,k,u,hk,e,by rw[w,x]])) g]
 .show#[#[λa o2 e z=>d a o2 (s e) (n.keep a o2 e z),λa o2 e=>m a (n.there a o2 e),n.roots,n.sub,n.new],λa z=>#[(n.dk a z).1,λo2 e=>d a o2 (s e) ((n.dk a z).2 o2 e)]]
def zB(u:c.H r=a0 (.J_ o (.dK kvs)))(w:¬c.R r)(y:Ok C c)(hk:kvs.map (·.1)=ks.map nz)(z:ai C c.S c.H us (kvs.map (·.2))):Walk C c [(.own,.Jc ks us)] (gP (ks,us)) (QN r o kvs):=by
 intro b k n N hs;have l:=n.keep r _ u w;have m:=z.mv (y.mv n);have O:kvs.length=ks.length:=by rw[<-cK (f:=(·.1)),hk,cK]
 have Q:us.length=kvs.length:=by rw[m.len,cK]
 have T:(gP (ks,us)).length=kvs.length:=by
  unfold gP;rw[cK,Sj];change min ks.length us.length=_;lia
 show#[λi q d=>?_,λi a=>#[l,⋯]];unfold gP at d;rw[i5,ez]at d;have(p,A,rfl):=d;have(s,B):=VG.mp A;have(v,e,g):=m.get B;have a:i<kvs.length:=by
  have:i<ks.length:=(et.mp s).1;lia
 have D:kvs[i]?=a0 (nz p.1,v):=by
  rw[i5,pb a]at e;have h:(kvs.map (·.1))[i]?=(ks.map nz)[i]?:=by rw[hk]
  rw[i5,i5,pb a,s]at h;rw[pb a];simp only[Tw,R0]at h e;rw[<-h,<-e]
 show#[.inl rfl,#[l,a],λx H' j=>?_];have(q,G,rfl,j):=j;have I:=j _ _ D;subst I;have(J,t):=k.lay (o:=.tup [kV (nz p.1),v]) G;show#[{b with H:=upd b.H q (.tup [kV (nz p.1),v])},rfl,rfl,rfl,J,t,?_];have L:ai C b.S b.H [.str p.1,p.2] [kV (nz p.1),v]:=#[_,_,rfl,rfl,_,_,rfl,g,rfl]
 show#[q,_,rfl,JH.of aw,L.mv (k.mv t)]
def Fs(q:SN a "items" X.env (K6 a X.env)=K6 a X.env)(t:(b.endLine==u.line)=b5)(w:PE X a (Jm C x)):
  PI X (.Tuple es kx ps) (.Call (.Attribute a "items" b) [] [] u) (Mj C .Pw (x >>= λr=>pure [] >>= λrs=>pure (r::rs))):=by
 rintro d s σ H R I ⟨c0,rfl,rfl,j,h⟩;rw[ah,ah]at h;have(r,st1,A,h):=h;rw[ah,ak,ak,ah,cy,ah]at h;have(B,h):=h;have(xs,D,h):=bR.mp h;rw[ak]at h;have hz:E3 r=a0 xs:=D;unfold E3 at hz;split at hz
 rotate_left
 .cases hz
 rename_i ks us;cases hz;show xr w q t d s c0.σ c0.H R I #[c0,rfl,rfl,j,_,st1,A,λc v G hs k n f=>?_];obtain⟨a',J,L,l,m⟩:∃a',v=.ref a'/\c0.H a'=bD/\¬c.S a'/\¬c.R a':=by
  have(r,g,N,O,Q,_):=f;show#[r,g,N,O,Q]
 have(a2,kvs,g,i,T,Y):=f.dict k;subst g;cases J;subst hs;show#[a',kvs,rfl,i,λo=>?_];have(p,n2):=Ok.IS (o':=.J_ o (.dK kvs)) j k n L l m #[_,i,λz=>z];show h {c with H:=upd c.H a' (.J_ o (.dK kvs))} _ G rfl p n2 B (zB (r:=a') (o:=o) (kvs:=kvs) aw m p T ?_);show ai.mv #[λa z=>z,λa ob e tp=>?_,λa ob z e=>?_] Y
 .have:a≠a':=λy=>by subst y;rw[i]at e;cases e;show tp
  change upd c.H a' _ a=_;rw[aj this];show e
 .have:a≠a':=λy=>by subst y;show l z
  change upd c.H a' _ a=_;rw[aj this];show e
end
section
abbrev tG(C:Ct)(t:Bool)(is:List Nat):TG:=λv σ H Q=>∃c0 c r,c.σ=σ/\c.H=H/\Ok C c0/\Ok C c/\Nx c0 c/\aP C c0 c r.1 r.2 v/\W (dO t is r) c.st λ_ st' =>
 ∀a,a.st=st'->Ok C a->Nx c0 a->(∀j,j∉is->a.σ[j]?=c.σ[j]?)->a.σ.length=c.σ.length->Q a.σ a.H
structure tL(X:Cx)(e:ro)(i:Nat):Prop where
 is:∃x pos,e=.Name x pos/\X.N[i]?=a0 x/\Loc X.env.scope x/\(X.fn x=b5\/X.env.scope.names.lookup x=a0 .local)
def Ft(g:X.N.Nodup)(h:tL X e i):PG X e (tG C cb [i]):=by
 have(x,pos,rfl,f,k,l):=h.is;rintro a s σ H v u Q I rv ⟨c0,c,r,rfl,rfl,m,o,n,b,w⟩;have p:i<c.σ.length:=by rw[I.len];show(et.mp f).1
 have(t,d,y,A,B,q):=vp (r:=r) m o n p b w;show uM g f k l a s c.σ c.H v u Q I rv ?_;have z:=q t rfl A B (λj D=>by rw[d,mA (by intro z;show D (by simp[z]))]) (by rw[d];simp);rw[d,y]at z;show z
abbrev U2:List Nat->O'
 |[]=>Gp
 |i::is=>Dq (uL i) (U2 is)
inductive fj(X:Cx):List ro->List Nat->Prop where
 |nil:fj X [] []
 |cons {e:ro} {es:List ro} {i:Nat} {is:List Nat} (h:tL X e i) (t:fj X es is):fj X (e::es) (i::is)
def xH(a:X.N.Nodup)(h:fj X es is):P8 X es (U2 is):=by
 induction h with
 |nil=>show Bh
 |cons h t b =>
  have(x,pos,rfl,c,d,e):=h.is;show yn (uM a c d e) b rfl
def tM(h:fj X es is):(Uz es X.env).length=is.length/\(Uz es X.env).findIdx? (·.1)=bD:=by
 induction h with
 |nil=>show#[rfl,rfl]
 |cons h t a =>
  have(x,pos,rfl,b,c,d):=h.is;show#[?_,?_]
  .change(_::_).length=_;simp[a.1]
  .change ê _ (_::_)=bD;rw[List.findIdx?_cons,Ϧ (by simp),a.2];rfl
theorem vq(hk:kE k=k)(h:Ok C c0):∀{is:List Nat}{us:List U}{vs:List V}{c:Cf}{d:Unit->aB->Prop}{Q:L2.St->Hp->Prop},Ok C c->Nx c0 c->(∀i∈is,i<c.σ.length)->ai C (SK C c k) c.H us vs->W (sets is (us.map λu=>(k,u))) c.st d ->
  (∀b,d () b.st->Ok C b->Nx c0 b->(∀j,j∉is->b.σ[j]?=c.σ[j]?)->b.σ.length=c.σ.length->Q b.σ b.H)->U2 is vs c.σ c.H Q
 |[],[],vs,c,d,Q,ok,n,f,a,w,q=>by
  rw[show sets [] (Tz (λu=>(k,u)) [])=pure () from rfl,ak]at w;show#[a,q c w ok n (λ_ _=>rfl) rfl]
 |[],u::us,vs,c,d,Q,ok,n,f,a,w,q=>(bB.mp w).elim
 |i::is,[],vs,c,d,Q,ok,n,f,a,w,q=>(bB.mp w).elim
 |i::is,u::us,vs,c,d,Q,ok,n,f,a,w,q=>by
  rw[show sets (i::is) (Tz (λu=>(k,u)) (u::us))=fO i (k,u) >>= λ_=>sets is (us.map λu=>(k,u)) from rfl,ah]at w;have(v,r,rfl,l,m):=a;have o:k=.own\/k=.loc\/k=.any:=by cases k<;>simp[kE]at hk<;>simp
  have D:k≠.own:=by cases k<;>simp[kE]at hk<;>simp
  have rt:aP C c0 c k u v:=by rw[<-hk];show aP.item l
  have(s,t):=ok.put n (f i (by simp)) o h rt;have es:fO i (k,u)=λst=>a0 (.ok (),st.set i (a0 (k,u))):=by cases k<;>simp[kE]at hk<;>rfl
  have(_,st',e,x):=w;rw[es]at e;cases e;show#[v,r,rfl,vq (c:={c with σ:=c.σ.set i (a0 v),st:=c.st.set i (a0 (k,u))}) hk h s t (λj g=>by simpa using f j (by simp[g])) (by cases k<;>show m) x λb p y A B hl=>?_];show q b p y A (λj g=>?_) (by rw[hl];simp);rw[B j (λz=>g (by simp[z])),mA (λz=>g (by simp[z]))]
def G2(m:X.calm=b5)(o:C.K=X.K)(q:X.N.Nodup)(h:fj X es is)(hl:∀i∈is,i<X.N.length):PG X (.Tuple es Y pos) (tG C b5 is):=by
 rintro a s σ H v u Q I rv ⟨c0,c,r,rfl,rfl,t,f,n,d,w⟩;have(y,z):=tM h;show D_ m (xH q h) y z a s c.σ c.H v u Q I rv ?_;have(k,A):=r;cases A with
 |tup us =>
  rw[show dO b5 is (k,.tup us)=sets is (us.map λu=>(kE k,u)) from by cases is<;>rfl]at w;have(a',vs,rfl,g,j):=d.tuple f;rw[o]at g;have b:us.length=is.length:=by
   have e:∀(is:List Nat) (l:List (Kd×U)) (st:aB) (P:Unit->aB->Prop),W (sets is l) st P->l.length=is.length:=by
    intro is;induction is with
    |nil=>intro l st P w;cases l with
     |nil=>rfl
     |cons _ _=>show(bB.mp w).elim
    |cons i is B=>intro l st P w;cases l with
     |nil=>show(bB.mp w).elim
     |cons x l =>
      rw[show sets (i::is) (x::l)=fO i x >>= λ_=>sets is l from rfl,ah]at w;have(_,_,_,w):=w;rw[mx,mx,B l _ _ w]
   simpa using e _ _ _ _ w
  show#[a',vs,rfl,g,by rw[<-j.len,b],?_];show vq (k:=kE k) (by cases k<;>rfl) t f n (λi D=>by rw[I.len];show hl i D) (by cases k<;>show j) w λG p J L O T=>p G rfl J L O T
 |_=>cases is<;>show(bB.mp w).elim
end
section
variable{X:Cx}{C:Ct}{pins:List (gi×Obj)}{s:gj}{c0 c c1:Cf}
variable{a b d e o tg iter elt:ro}{es ifs:List ro}{m ma mb md me:M (Kd×U)}{ms:M (List (Kd×U))}{ta tb tc:M Bool}{pos p p2 apos F':Pos}
def xI{m:M α}{st:aB}{Q:α->aB->Prop}:W (inScope k m) st Q↔W m (lx k bD++st) λa st'=>Q a (st'.drop k):=by
 constructor
 .rintro⟨a,st',e,h⟩;unfold inScope at e;cases q:m (lx k bD++st) with
  |none=>rw[q]at e;cases e
  |some r=>have(g,f):=r;rw[q]at e;cases e;show#[a,f,q,h]
 .rintro⟨a,st',e,h⟩;show#[a,st'.drop k,by unfold inScope;rw[e],h]
abbrev Cf.ext(k:Nat)(c:Cf):Cf:={c with σ:=lx k bD++c.σ,st:=lx k bD++c.st,kid:=λj=>c.kid (j - k)}
abbrev Cf.cut(k:Nat)(c:Cf):Cf:={c with σ:=c.σ.drop k,st:=c.st.drop k,kid:=λj=>c.kid (k+j)}
def gG(h:(lx k bD++l)[j]?=a0 (a0 x)):∃i,j=k+i/\l[i]?=a0 (a0 x):=by
 by_cases f:j<k
 .rw[w6 (by simpa using f)]at h;rw[Nf]at h;rw[ϥ f]at h;cases h
 .show#[j - k,⋯,?_];rw[tr (by simp;lia)]at h;simpa using h
def fk:(lx k bD++l)[k+i]?=l[i]?:=by
 rw[tr (by simp)];simp
def zC:(c.ext k).R1 r↔c.R1 r:=by
 constructor
 .rintro⟨j,g,u,h,l,f⟩;have(i,rfl,e):=gG l;rw[Cf.ext,fk]at f;show#[i,g,u,h,e,f]
 .rintro⟨i,g,u,h,l,f⟩;show#[k+i,g,u,h,by rw[Cf.ext,fk];show l,by rw[Cf.ext,fk];show f]
def mj{a:gi}(h:(c.ext k).RD j a):∃i,j=k+i/\c.RD i a:=by
 have(u,r,l,f,g):=h;have(i,rfl,e):=gG l;rw[Cf.ext,fk]at f;show#[i,rfl,u,r,e,f,?_];have:(c.ext k).kid (k+i)=c.kid i:=by change c.kid (k+i - k)=_;rw[ø]
 rw[this]at g;show g
def G3(h:(c.ext k).R r):c.R r:=by
 rcases h with h|⟨j,h⟩
 .show .inl (zC.mp h)
 .have(i,_,h):=mj h;show .inr #[i,h]
def Ok.ext(k:Nat)(f:Ok C c):Ok C (c.ext k)/\Nx c (c.ext k):=by
 show#[#[f.same,f.KU,f.par,f.io,by simp[Cf.ext,f.len],λj D u e=>?_,λi j k1 k2 u u' r G H l g A B=>?_,#[λj u r l g=>?_,λi j a n q=>?_,λj a n q=>?_]],#[#[λ_ _ h _=>h,λ_ o h=>#[o,h],λa h=>.inl (G3 h),λ_ h=>h,λ_ h=>.inl h],λa ⟨j,z⟩=>let ⟨i,_,y⟩:=mj z;⟨⟨i,y⟩,λ_ e=>e⟩]]
 .have(i,rfl,I):=gG e;have(v,l,g):=f.sl i D u I;show#[v,by rw[Cf.ext,fk];show l,g]
 .have(t,rfl,J):=gG l;have(w,rfl,L):=gG g;rw[Cf.ext,fk]at A B;rw[f.inj t w k1 k2 u u' r G H J L A B]
 .have(i,rfl,e):=gG l;rw[Cf.ext,fk]at g;have:(c.ext k).kid (k+i)=c.kid i:=by change c.kid (k+i - k)=_;rw[ø]
  rw[this];show f.dd.kd i u r e g
 .have(t,rfl,x):=mj n;have(w,rfl,N):=mj q;rw[f.dd.dj t w a x N]
 .have(i,rfl,x):=mj n;show f.dd.d1 i a x (zC.mp q)
def zD{a:gi}(h:(c.cut k).R1 a):c.R1 a:=by
 have(j,i,u,l,f,g):=h;rw[Cf.cut,Oy]at f g;show#[k+j,i,u,l,f,g]
def mn{a:gi}(h:(c.cut k).RD j a):c.RD (k+j) a:=by
 have(u,r,f,g,i):=h;rw[Cf.cut,Oy]at f g;show#[u,r,f,g,i]
def Ok.cut(k:Nat)(f:Ok C c):Ok C (c.cut k)/\Nx c (c.cut k):=by
 show#[#[f.same,f.KU,f.par,f.io,by simp[Cf.cut,f.len],λj x u e=>?_,λi j k1 k2 u u' r y A g l t w=>?_,#[λj u r g l=>?_,λi j a n q=>?_,λj a n q=>f.dd.d1 _ a (mn n) (zD q)]],#[#[λ_ _ h _=>h,λ_ o h=>#[o,h],λa h=>.inl (h.elim (λz=>.inl (zD z)) λ⟨j,z⟩=>.inr #[k+j,mn z]),λ_ h=>h,λ_ h=>.inl h],λa ⟨j,z⟩=>#[#[_,mn z],λ_ e=>e]]]
 .rw[Cf.cut,Oy]at e;have(v,g,l):=f.sl _ x u e;show#[v,by rw[Cf.cut,Oy];show g,l]
 .rw[Cf.cut,Oy]at g l t w;have:=f.inj _ _ k1 k2 u u' r y A g l t w;lia
 .rw[Cf.cut,Oy]at g l;show f.dd.kd _ u r g l
 .have:=f.dd.dj _ _ a (mn n) (mn q);lia
def Cz(h:∀j,j∉hH k->g[j]?=(lx k bD++σ)[j]?)(hl:g.length=(lx k (bD:Option V)++σ).length):∃f:L2.St,f.length=k/\g=f++σ:=by
 show#[g.take k,by rw[Ol,hl];simp,?_];apply Ņ;intro j;by_cases i:j<k
 .rw[w6 (by rw[Ol,hl];simp;lia),List.getElem?_take,ϥ i]
 .rw[h j (by simpa using i),tr (by simp;lia),tr (by rw[Ol,hl];simp;lia)];congr 1
  rw[Ol,hl];simp
def oq(e1:c1.σ=c0.σ)(Jn:Ok C c1)(n1:Nx c0 c1)(hw:Walk C c1 rs xs J)(h3:W (bJ k t tc me rs xs []) c1.st λus st'=>W (pure (Kd.own,U.lst us)) st' (cn C c0 Q)):
  uR k J (tG C t (hH k)) (Ku C tc) (Jm C me) Q c0.σ c1.H:=by
 show#[λi m ys H=>∃c f,c.H=H/\c.σ=c0.σ/\Ok C c/\Nx c1 c/\m=xs.length - i/\i<=xs.length/\ai C c.S c.H f ys/\f.length<=dt/\W (bJ k t tc me rs (xs.drop i) f) c.st λus st'=>W (pure (Kd.own,U.lst us)) st' (cn C c0 Q),#[xs.length,c1,[],rfl,e1,Jn,Nx.refl c1,by simp,nH _,rfl,nH _,by simpa using h3],?_];rintro i m ys H ⟨c,f,rfl,G,y,A,rfl,hi,h,l,w⟩;show#[by rw[<-h.len];show l,?_];have g:j8 rs c1 c:=λj u _=>by rw[G,e1]
 by_cases I:i<xs.length
 .right
  rw[RT I]at w;rw[show bJ k t tc me rs (xs[i]::xs.drop (i+1)) f=aM rs >>= λ_=>inScope k (dO t (hH k) xs[i] >>= λ_=>tc >>= λb=>if b=b5 then(me >>= λr=>lift r >>= λu=>pure (a0 u)) else pure bD) >>= λr=>match r with|some u=>if f.length<dt then bJ k t tc me rs (xs.drop (i+1)) (f++[u]) else M.fail|none=>bJ k t tc me rs (xs.drop (i+1)) f from rfl,ah,cy]at w;have(MU,w):=w;have(L,_):=hw c y A g MU;have(U3,PK,R9):=L i xs[i] (by simp[I]);show#[PK,λKR H'=>∃c f,c.H=H'/\c.σ=c0.σ/\Ok C c/\Nx c1 c/\ai C c.S c.H f KR/\f.length<=dt/\W (bJ k t tc me rs (xs.drop (i+1)) f) c.st λus st'=>W (pure (Kd.own,U.lst us)) st' (cn C c0 Q),λKR H' ⟨c',J6,z1,z2,z3,z4,z5,z6,z7⟩=>#[xs.length - (i+1),⋯,c',J6,z1,z2,z3,z4,rfl,I,z5,z6,z7],λx H' hy=>?_];have(n,rfl,e4,e5,JC,n2,rt):=R9 x H' hy;rw[ah,xI,ah]at w;have(WT,nx):=JC.ext k;have Zn:aP C (n.ext k) (n.ext k) xs[i].1 xs[i].2 x:=by
   rcases U3 with z|z
   .rw[z]at rt ⊢;show rt
   .rw[z]at rt ⊢;show rt
  have eσ:(n.ext k).σ=lx k bD++c0.σ:=by rw[Cf.ext];change lx k bD++n.σ=_;rw[e4,G]
  show#[n.ext k,n.ext k,xs[i],eσ,rfl,WT,WT,Nx.refl _,Zn,?_];have QM:(n.ext k).st=lx k bD++c.st:=by rw[Cf.ext];change lx k bD++n.st=_;rw[e5]
  rw[QM];show w.mono λ_ st3 w3 c3 e6 LK n3 Q0 PL=>?_;subst e6;rw[eσ]at Q0 PL;have(N,O,T):=Cz Q0 PL;show#[N,O,T,?_];have WU:Nx c c3:=(n2.trans nx).trans n3;rw[ah]at w3;show#[c3,rfl,rfl,LK,w3.mono λb Pd q D e7 e8 Y n4=>?_];subst e8;cases b with
  |false =>
   rw[Ϧ k9]at q ⊢;rw[ak]at q;have(U4,nk):=Y.cut k;have nn:Nx c (D.cut k):=(WU.trans n4).trans nk;show#[D.cut k,f,rfl,?_,U4,A.trans nn,h.mv (y.mv nn),l,q];change D.σ.drop k=_;rw[e7,T,Á O]
  |true =>
   rw[ϥ rfl]at q ⊢;rw[ah]at q;show#[D,e7,rfl,Y,q.mono λr Mo w5 c5 v e9 Zo Zp n5 Zq=>?_];subst Zo;rw[ah]at w5;have(S',st',u,sS,Zr,n6,U5,B,_,_):=iY Y Zp n5 Zq.w w5;rw[ak]at B
   dsimp only at B
   split at B
   .rename_i hz;have(U4,nk):=Zr.cut k;have nn:Nx c (Cf.cut k {c5 with S:=S',st:=st' }):=((WU.trans n4).trans n6).trans nk;show#[Cf.cut k {c5 with S:=S',st:=st' },f++[u],rfl,?_,U4,A.trans nn,(h.mv (y.mv nn)).snoc U5,by rw[ke];show hz,B];change c5.σ.drop k=_;rw[e9,T,Á O]
   .show(bB.mp B).elim
 .left
  have Kh:i=xs.length:=by lia
  subst Kh;rw[Œ,show bJ k t tc me rs [] f=aM rs >>= λ_=>pure f from rfl,ah,cy,ak,ak]at w;have(_,L):=hw c y A g w.1;show#[L _ (i4 _),λp hp=>cn.list w.2 G y (n1.trans A) h p hp]
def ot(l:Ok C c0)
  (h:W (ms >>= λrs=>aM rs >>= λ_=>M.JA (KQ ik rs) >>= λxs=>bJ k t tc me rs xs [] >>= λus=>pure (Kd.own,U.lst us)) c0.st (cn C c0 Q)) :
  yG k (Mj C ik ms) (tG C t (hH k)) (Ku C tc) (Jm C me) c0.σ c0.H Q:=by
 rw[ah]at h;show#[c0,rfl,rfl,l,?_];rw[ah];show h.mono λrs st1 f=>?_;rw[ah,cy]at f ⊢;show#[f.1,?_];have g:=f.2;rw[ah]at g ⊢;show g.mono λxs st2 i=>?_;rw[ak];intro c1 J n q r u v j;rw[ah]at i;subst q
 dsimp only at v j
 show oq n r u j i
def zE(S:cO X N own scope)(f:X.calm=b5)(g:PI X tg iter (Mj C ik ms))
  (i:∀D s H ex,PG (Ka X N scope D s H ex) tg (tG C t (hH own.length))) (j:∀D s H ex,M4 (Ka X N scope D s H ex) ifs (Ku C tc)) (k:∀D s H ex,PE (Ka X N scope D s H ex) elt (Jm C me))
  (hs:∀x,O6 iter X.env x=pure x) :
  PE X (.ListComp elt [⟨tg,iter,ifs,0⟩] scope pos) (Jm C (ms >>= λrs=>aM rs >>= λ_=>M.JA (KQ ik rs) >>= λxs=>bJ own.length t tc me rs xs [] >>= λus=>pure (.own,.lst us))):=by
 show PE.weak (uS S f g i j k hs) ?_;rintro σ H Q ⟨c0,rfl,rfl,l,h⟩;show ot l h
end
section
variable{a b d e o tg iter elt:ro}{es ifs:List ro}{m ma mb md me:M (Kd×U)}{ms:M (List (Kd×U))}{ta tb tc:M Bool}{pos p p2 apos F':Pos}{st:QO}{rest body:List QO}{f g mm:M Fl}{ns R_:Nat->Bool}
def Fu(C:Ct)(c:Cf):Kd->U->V->Prop
 |.own,u,v=>∃r,v=.ref r/\C.H₀ r=bD/\¬c.S r/\¬c.R r/\dv C c.S c.H r u
 |.loc,u,v=>Rep C c.S c.H u v
 |.any,u,v=>Rep C (PS C c.S) c.H u v
 |_,_,_=>False
abbrev Fin(C:Ct)(D:Ends)(f:Fl)(c:Cf):Prop:=match f with
 |.nx=>D.nx c.σ c.H
 |.bk=>D.bk c.σ c.H
 |.ct=>D.ct c.σ c.H
 |.rt k u=>∀v,Fu C c k u v->D.rt v c.H
abbrev Kept(ns:Nat->Bool)(c h:Cf):Prop:=(∀j,ns j=b5->h.σ[j]?=c.σ[j]?)/\h.σ.length=c.σ.length
def Kept.refl:Kept ns c c:=#[λ_ _=>rfl,rfl]
def Kept.trans(h:Kept ns c i)(h':Kept ns i k):Kept ns c k:=#[λj z=>(h'.1 j z).trans (h.1 j z),h'.2.trans h.2]
def Kept.le(i:∀j,R_ j=b5->ns j=b5)(h:Kept ns c k):Kept R_ c k:=#[λj z=>h.1 j (i j z),h.2]
def Kept.of(h:i.σ=c.σ):Kept ns c i:=#[λj z=>by rw[h],by rw[h]]
abbrev j9(C:Ct)(c0:Cf)(ns:Nat->Bool)(D:Ends)(f:Fl)(st':aB):Prop:=∀c,c.st=st'->Ok C c->Ns c0 c->Kept ns c0 c->Fin C D f c
abbrev Ki(C:Ct)(ns:Nat->Bool)(m:M Fl):TS:=λD σ H=>∃c0:Cf,c0.σ=σ/\c0.H=H/\Ok C c0/\W m c0.st (j9 C c0 ns D)
def tN(c:Ok C c1)(n:Ns c0 c1)(k:Kept ns c0 c1)(h:W mm c1.st (j9 C c0 ns D)):Ki C ns mm D c1.σ c1.H :=
 #[c1,rfl,rfl,c,h.mono λf st i j e l q k2=>i j e l (n.trans q) (k.trans k2)]
def PS.weak(h:L2.PS X st t)(i:∀D σ H,t' D σ H->t D σ H):L2.PS X st t':=λc s σ H D I q=>h c s σ H D I (i D σ H q)
def Kl.weak(h:Kl X rest t)(i:∀D σ H,t' D σ H->t D σ H):Kl X rest t':=λc s σ H D I q=>h c s σ H D I (i D σ H q)
def pZ(i:∀j,R_ j=b5->ns j=b5)(h:Ki C R_ mm D σ H):Ki C ns mm D σ H :=
 let ⟨c0,c,k,l,w⟩:=h;⟨c0,c,k,l,w.mono λf st n q e r s k2=>n q e r s (k2.le i)⟩
def G4:Kl X [] (Ki C ns (pure .nx)):=by
 show Kl.weak Bg ?_;rintro D σ H ⟨c0,rfl,rfl,c,h⟩;rw[ak]at h;show h c0 rfl c (Ns.refl c0) Kept.refl
abbrev CA(m:M Fl)(f:Fl):M Fl:=match f with
 |.nx=>m
 |f=>pure f
def Fv(j:L2.PS X st (Ki C ns f))(l:Kl X rest (Ki C ns g)):Kl X (st::rest) (Ki C ns (f >>= CA g)):=by
 show Kl.weak (yl j l) ?_;rintro D σ H ⟨c0,rfl,rfl,n,h⟩;rw[ah]at h;show#[c0,rfl,rfl,n,h.mono λq st1 w c1 e c i k1=>?_];subst e;cases q with
 |nx=>show tN c i k1 w
 |bk=>rw[show CA g .bk=pure .bk from rfl,ak]at w;show w c1 rfl c i k1
 |ct=>rw[show CA g .ct=pure .ct from rfl,ak]at w;show w c1 rfl c i k1
 |rt k u=>rw[show CA g (.rt k u)=pure (.rt k u) from rfl,ak]at w;show w c1 rfl c i k1
def G5(i:PE X a (Jm C ma))(hs:Uo a bD pos.line X.env=pure cb):L2.PS X (.Expr a pos) (Ki C ns (ma >>= λ_=>pure .nx)):=by
 show PS.weak (kJ i hs) ?_;rintro D σ H ⟨c0,rfl,rfl,j,h⟩;show ba j h λx c v t w=>?_;rw[ak]at w;have:=w c rfl t.ok t.nx (Kept.of t.hσ);rw[<-t.hσ];show this
def zF(ok:Ok C c0)(t:Np C c0 c x v)(w:W (retS x) c.st (j9 C c0 ns D)):D.rt v c.H:=by
 have(k,u):=x;have(G,l,n,r):=t;cases k with
 |own =>
  rw[show retS (.own,u)=pure (.rt .own u) from rfl,ak]at w;have(B,e,h1,h2,h3,h4):=r;show w c rfl l n (Kept.of G) v #[B,e,(ok.kF h1).1,h2,h3,h4]
 |loc =>
  rw[show retS (.loc,u)=pure (.rt .loc u) from rfl,ak]at w;show w c rfl l n (Kept.of G) v r
 |any =>
  rw[show retS (.any,u)=if Jy u=b5 then pure (.rt .loc u) else pure (.rt .any u) from rfl]at w;split at w
  .rw[ak]at w;show w c rfl l n (Kept.of G) v (Rep.Jy (by assumption) r)
  .rw[ak]at w;show w c rfl l n (Kept.of G) v r
 |bor j =>
  have(fl,st',e,w):=w;rw[show retS (.bor j,u) c.st=match c.st[j]? with|some (a0 (.own,u))=>a0 (Ex.ok (Fl.rt .own u),c.st.set j bD)|_=>bD from rfl]at e;split at e
  .rename_i u' J;cases e;have Mi:j<c.st.length:=(et.mp J).1;have A:∀(i:Nat) k u',(c.st.set j bD)[i]?=a0 (a0 (k,u'))->i≠j/\c.st[i]?=a0 (a0 (k,u')):=λi k u' e=>by
    by_cases L:i=j
    .subst L;rw[gs Mi]at e;cases e
    .rw[mA (uv L)]at e;show#[L,e]
   have(v',s,B,er,q1,q2,q3,q4):=l.sl j _ _ J;have N:c.σ[j]?=a0 (a0 v):=r.2;rw[N]at s;cases s;subst er;have Q:∀a,({c with st:=c.st.set j bD}:Cf).R1 a->c.R1 a:=λa ⟨i,k,h,hk,s,y⟩=>#[i,k,h,hk,(A i k h s).2,y]
   have hR:∀a,({c with st:=c.st.set j bD}:Cf).R a->c.R a:=λa z=>z.elim (λz=>.inl (Q a z)) λ⟨i,h,O,s,y,I⟩=>.inr #[i,h,O,(A i .G' h s).2,y,I];have MT:Ms C {c with st:=c.st.set j bD}:=l.dd.of rfl (λi h e=>#[(A i .G' h e).2,rfl]) (λa z=>.inl (Q a z)) (.up λ_ z=>z) λi a z=>#[(l.root (.inr #[i,z])).1,λo q=>q]
   have Zs:Ok C {c with st:=c.st.set j bD}:=#[l.same,l.KU,l.par,l.io,by simp[l.len],λi k h e=>l.sl i k h (A i k h e).2,λi T k k' Y h r hk J4 s y I e4=>l.inj i T k k' Y h r hk J4 (A i k Y s).2 (A T k' h y).2 I e4,MT]
   have nn:Ns c0 {c with st:=c.st.set j bD}:=#[n.keep,n.there,λa z=>n.roots a (hR a z),n.sub,n.new]
   show w {c with st:=c.st.set j bD} rfl Zs nn (Kept.of G) (.ref B) ⟨B,rfl,q3,q1,λz=>?_,q4⟩
   .rcases z with⟨i,k,h,hk,s,y⟩|⟨i,h,O,s,y,I⟩
    .have(ne,J0):=A i k h s;show ne (l.inj i j k .own h _ B hk rfl J0 J y N)
    .show l.dd.d1 i B #[h,O,(A i .G' h s).2,y,I] #[j,.own,_,rfl,J,N]
  .cases e
 |_=>show r.elim
def G6(j:PE X a (Jm C ma)):L2.PS X (.Return (a0 a) pos) (Ki C ns (ma >>= retS)):=by
 show PS.weak (ym j) ?_;rintro D σ H ⟨c0,rfl,rfl,i,h⟩;show ba i h λx c v t w=>zF i t w
end
section
def rL(e:∀j,ns j=b5->j≠i)(f:Ok C c0)(t:Np C c0 c r v)(g:i<c.σ.length)(w:W (fO i r >>= λ_=>(pure .nx:M Fl)) c.st (j9 C c0 ns D)):D.nx (c0.σ.set i (a0 v)) c.H:=by
 rw[ah]at w;have(a,b,h,k,l,q):=vp (r:=r) f t.ok t.nx g t.rx w;rw[ak]at q;have z:=q a rfl k l #[λj m=>by rw[b,t.hσ,mA (uv (e j m))],by rw[b,t.hσ];simp];have d:D.nx a.σ a.H:=z;rw[b,h,t.hσ]at d;show d
def DB(g:∀j,ns j=b5->j≠i)(k:X.N.Nodup)(e:X.N[i]?=a0 x)(l:Loc X.env.scope x)(m:X.fn x=b5\/X.env.scope.names.lookup x=a0 .local)(n:PE X a (Jm C o))
  (hs:Uo a (a0 (.Name x b)) pos.line X.env=pure cb):L2.PS X (.Assign [.Name x b] a pos) (Ki C ns (o >>= λr=>fO i r >>= λ_=>pure .nx)):=by
 rintro d s σ H D I ⟨c0,rfl,rfl,f,h⟩;have p:i<c0.σ.length:=by rw[I.len];show(et.mp e).1
 show yq k e l n hs m d s c0.σ c0.H D I (ba f h λr c v t w=>rL g f t (by rw[t.hσ];show p) w)
def Fw(l:∀j,ns j=b5->j≠i)(S:cO X N own scope)(m:X.calm=b5)(o:X.N.Nodup)(f:X.N[i]?=a0 y)(p:X.env.scope.names.lookup y=a0 .local)
  (q:PI X e a (Mj C ik ms)) (u:∀D s H ex,PG (Ka X N scope D s H ex) e (tG C t (hH own.length))) (z:∀D s H ex,M4 (Ka X N scope D s H ex) b (Ku C A)) (B:∀D s H ex,PE (Ka X N scope D s H ex) elt (Jm C G))
  (J:Uo (.ListComp elt [⟨e,a,b,0⟩] scope pos) (a0 (.Name y L)) O.line X.env=pure b5) (hs:∀x,O6 a X.env x=pure x) :
  L2.PS X (.Assign [.Name y L] (.ListComp elt [⟨e,a,b,0⟩] scope pos) O)
   (Ki C ns ((ms >>= λrs=>aM rs >>= λ_=>M.JA (KQ ik rs) >>= λxs=>bJ own.length t A G rs xs [] >>= λus=>pure (.own,.lst us)) >>= λr=>fO i r >>= λ_=>pure .nx)):=by
 rintro d s σ H D I ⟨c0,rfl,rfl,g,h⟩;have Q:i<c0.σ.length:=by rw[I.len];show(et.mp f).1
 show BC S m o f p q u z B J hs d s c0.σ c0.H D I ?_;rw[ah]at h;show ot g (h.mono λr st1 w c v k T Y n rt=>?_);subst T;show rL l g #[k,Y,n,rt] (by rw[k];show Q) w
def G7(i:PT X a (Ku C j))(k:Kl X l (Ki C ns f))(m:Kl X o (Ki C ns g)):L2.PS X (.If a l o pos) (Ki C ns (j >>= λp=>if p=b5 then f else g)):=by
 show PS.weak (Gn i k m) ?_;rintro D σ H ⟨c0,rfl,rfl,q,h⟩;show gh q h λp c b d n w=>?_;have e:c0.σ=c.σ:=b.symm;rw[e];cases p with
 |true=>rw[ϥ rfl]at w ⊢;show tN d n (Kept.of b) w
 |false=>rw[Ϧ k9]at w ⊢;show tN d n (Kept.of b) w
def G8(J:á (hJ X.prog X.w) X.A X.env X.xe)(L:PT X a (Ku C d))(N:Kl X body (Ki C ns f)):L2.PS X (.While a body [] pos) (Ki C ns (f_ d f n)):=by
 show PS.weak (yr J L N) ?_;rintro D σ H ⟨c0,rfl,rfl,O,h⟩;show#[λm s H'=>∃c,c.H=H'/\c.σ=s/\Ok C c/\Ns c0 c/\Kept ns c0 c/\W (f_ d f m) c.st (j9 C c0 ns D),#[n,c0,rfl,rfl,O,Ns.refl c0,Kept.refl,h],?_];rintro m s H' ⟨c,rfl,rfl,Q,t,v,w⟩;cases m with
 |zero=>show(bB.mp w).elim
 |succ m =>
  rw[show f_ d f (m+1)=d >>= λb=>if b=b5 then(f >>= λf'=>match f' with|.nx=>f_ d f m|.ct=>f_ d f m|.bk=>pure .nx|.rt k u=>pure (.rt k u)) else pure .nx from rfl]at w;show gh Q w λp j x y B g=>?_;have k2:Kept ns c j:=Kept.of x;rw[<-x];cases p with
  |false =>
   rw[Ϧ k9]at g ⊢;rw[ak]at g;show g j rfl y (t.trans B) (v.trans k2)
  |true =>
   rw[ϥ rfl]at g ⊢;show#[λG I=>∃c,c.H=I/\c.σ=G/\Ok C c/\Ns c0 c/\Kept ns c0 c/\W (f_ d f m) c.st (j9 C c0 ns D),λG I z=>#[m,RO m,z],?_];rw[ah]at g;show#[j,rfl,rfl,y,g.mono λT st3 i l e o Y k3=>?_];subst e;have q:=(t.trans B).trans Y;have r:=(v.trans k2).trans k3;cases T with
   |nx=>show#[l,rfl,rfl,o,q,r,i]
   |ct=>show#[l,rfl,rfl,o,q,r,i]
   |_=>rw[ak]at i;show i l rfl o q r
def G9(hp:á (hJ X.prog X.w) X.A X.env X.xe)(hc:X.calm=b5)(hi:PI X tg a (Mj C ik ms))(hg:PG X tg (tG C t is))(hb:Kl X body (Ki C (KW q) f))(hs:∀x,O6 a X.env x=pure x)
  (KO:∀j,ns j=b5->j∉is/\KW q j=b5) :
  L2.PS X (.For tg a body [] pos) (Ki C ns (ms >>= λrs=>aM rs >>= λ_=>M.JA (KQ ik rs) >>= λxs=>if vb rs is q=b5 then forM t is f rs xs else M.fail)):=by
 show PS.weak (Ef hp hc hi hg hb hs) ?_;rintro D σ H ⟨c0,rfl,rfl,ok,h⟩;rw[ah]at h;show#[c0,rfl,rfl,ok,?_];rw[ah];show h.mono λrs st1 r=>?_;rw[ah,cy]at r ⊢;show#[r.1,?_];have h2:=r.2;rw[ah]at h2 ⊢;show h2.mono λxs st2 s=>?_;rw[ak];intro c1 J e1 e2 Jn n1 Jo v;subst e2
 dsimp only at Jo v
 split at s
 .rename_i OP;have U8:∀j u,(Kd.bor j,u)∈rs->j∉is/\KW q j=b5:=λj u l=>by
   have:=oT.mp OP _ l;simpa using this
  show#[λi m d H'=>∃c,c.H=H'/\c.σ=d/\Ok C c/\Ns c1 c/\Kept ns c0 c/\j8 rs c1 c/\m=xs.length - i/\i<=xs.length/\W (forM t is f rs (xs.drop i)) c.st (j9 C c0 ns D),
   #[xs.length,c1,rfl,e1,Jn,Ns.refl c1,Kept.of e1,λ_ _ _=>rfl,by simp,nH _,by simpa using s],?_]
  rintro i m d H' ⟨c,rfl,rfl,y,n,kc,B,rfl,Kh,w⟩;by_cases G:i<xs.length
  .right
   rw[RT G,show forM t is f rs (xs[i]::xs.drop (i+1))=aM rs >>= λ_=>dO t is xs[i] >>= λ_=>f >>= λf'=>match f' with|.nx=>forM t is f rs (xs.drop (i+1))|.ct=>forM t is f rs (xs.drop (i+1))|.bk=>pure .nx|.rt k u=>pure (.rt k u) from rfl,ah,cy]at w;have(MU,w):=w;have(I,_):=v c y n B MU;have(U3,PK,R9):=I i xs[i] (by simp[G]);show#[PK,λd H'=>∃c,c.H=H'/\c.σ=d/\Ok C c/\Ns c1 c/\Kept ns c0 c/\j8 rs c1 c/\W (forM t is f rs (xs.drop (i+1))) c.st (j9 C c0 ns D),λd H' ⟨c',z1,z2,z3,z4,z5,z6,z7⟩=>#[xs.length - (i+1),⋯,c',z1,z2,z3,z4,z5,z6,rfl,G,z7],λx H' hy=>?_];have(g,rfl,o,e5,JC,n2,rt):=R9 x H' hy;rw[ah]at w;have Zt:aP C g g xs[i].1 xs[i].2 x:=by
    rcases U3 with z|z
    .rw[z]at rt ⊢;show rt
    .rw[z]at rt ⊢;show rt
   show#[g,g,xs[i],o,rfl,JC,JC,Nx.refl g,Zt,?_];rw[e5];show w.mono λ_ st3 w3 c3 e6 LK n3 WX PL=>?_;subst e6;rw[ah]at w3;show#[c3,rfl,rfl,LK,w3.mono λfl Pd p b e L n4 N=>?_];subst e;have O:Ns c1 b:=((n.trans n2.toNs).trans n3.toNs).trans n4;have Q:Kept ns c0 b:=by
    show kc.trans #[λj hj=>?_,by rw[N.2,PL,o]];have(T,Y):=KO j hj;rw[N.1 j Y,WX j T,o]
   have WY:j8 rs c1 b:=λj u l=>by
    have(T,Y):=U8 j u l;rw[N.1 j Y,WX j T,o];show B j u l
   cases fl with
   |nx=>show#[b,rfl,rfl,L,O,Q,WY,p]
   |ct=>show#[b,rfl,rfl,L,O,Q,WY,p]
   |_=>rw[ak]at p;show p b rfl L (n1.toNs.trans O) Q
  .left
   have Zu:i=xs.length:=by lia
   subst Zu;rw[Œ,show forM t is f rs []=aM rs >>= λ_=>pure .nx from rfl,ah,cy,ak]at w;have(_,I):=v c y n B w.1;show#[I _ (i4 _),w.2 c rfl y (n1.toNs.trans n) kc]
 .show(bB.mp s).elim
end
section
def Ok.mod(b:Ok C c)(n:Ns c0 c)(hk:k.root=b5)(y:c.st[i]?=a0 (a0 (k,u)))(D:c.σ[i]?=a0 (a0 (.ref r)))(JI:∀a,a≠r->H' a=c.H a)(hr:∃o,H' r=a0 o)
  (new:Mv c.S c.H c.S H'->dv C c.S H' r u'):Ok C {c with H:=H',st:=c.st.set i (a0 (k,u'))}/\Ns c0 {c with H:=H',st:=c.st.set i (a0 (k,u'))}:=by
 have Mc:c.R1 r:=#[i,k,u,hk,y,D]
 have hR:c.R r:=.inl Mc;have(I,q2,q3,o,ho,U'):=b.root hR;have J:i<c.st.length:=(et.mp y).1;have m:∀{a:gi} {o':HO},a≠r->c.H a=a0 o'->H' a=a0 o':=λL e=>by rw[JI _ L];show e
 have G:Mv c.S c.H c.S H':=#[λ_ z=>z,λa o' e t=>m (λz=>by subst z;rw[ho]at e;cases e;show U' t) e,λa o' z e=>m (λd=>I (d▸z)) e]
 have M8:Mv (PS C c.S) c.H (PS C c.S) H':=#[λ_ z=>z,G.QQ,λa o' z e=>m (λd=>by subst d;show z.elim q2 I) e]
 have N:∀(j:Nat) k' w,(c.st.set i (a0 (k,u')))[j]?=a0 (a0 (k',w))->j≠i->c.st[j]?=a0 (a0 (k',w)):=λj k' w e L=>by rw[mA (uv L)]at e;show e
 have f:∀(j:Nat) k' w,k'.root=b5->(c.st.set i (a0 (k,u')))[j]?=a0 (a0 (k',w))->∃O,c.st[j]?=a0 (a0 (k',O)):=λj k' w _ e=>by
  by_cases p:j=i
  .subst p;rw[gs J]at e;cases e;show#[u,y]
  .show#[w,N j k' w e p]
 have b1:∀a,({c with H:=H',st:=c.st.set i (a0 (k,u'))}:Cf).R1 a->c.R1 a:=λa Js=>by
  have(j,k',w,g,h,l):=Js;have(O,Q):=f j k' w g h;show#[j,k',O,g,Q,l]
 have dD:∀(j:Nat) (w:U),(c.st.set i (a0 (k,u')))[j]?=a0 (a0 (.G',w))->c.st[j]?=a0 (a0 (.G',w)):=λj w e=>by
  by_cases p:j=i
  .subst p;rw[gs J]at e;cases e;cases hk
  .show N j .G' w e p
 have MT:Ms C {c with H:=H',st:=c.st.set i (a0 (k,u'))}:=b.dd.of rfl (λj w e=>#[dD j w e,rfl]) (λa z=>.inl (b1 a z)) G λj a z=>#[(b.root (.inr #[j,z])).1,λo' e=>m (λd=>b.dd.d1 j a z (d▸Mc)) e]
 show#[#[λa o' e z=>?_,λa z=>?_,b.par,λa z=>?_,by simp[b.len],λj k' w e=>?_,λj1 j2 k1 k2 w1 w2 q g s h l T e4=>?_,MT],n.trans #[λa o' e z=>m (λd=>z (d▸hR)) e,λa o' e=>?_,λa z=>?_,λ_ z=>z,λ_ z=>.inl z]]
 .have g:=b.same a o' e z;show m (λd=>?_) g;subst d;rcases q3 with q3|q3
  .rw[e]at q3;cases q3
  .show z q3
 .have(g,o',s):=b.KU a z;show#[g,o',m (λd=>I (d▸z)) s]
 .have(g,o',s):=b.io a z;show#[g,?_];by_cases A:a=r
  .subst A;show hr
  .show#[o',m A s]
 .by_cases p:j=i
  .subst p;rw[gs J]at e;cases e;have(v,h,l):=b.sl j _ _ y;rw[D]at h;cases h;show#[.ref r,D,?_];have nr:=new G;cases k with
   |own=>have(q,x,B,Y,z3,_):=l;cases x;show#[r,rfl,B,Y,z3,nr]
   |io=>have(q,x,B,Y,z3,_):=l;cases x;show#[r,rfl,B,Y,z3,nr]
   |_=>cases hk
  .have e0:=N j k' w e p;have(v,h,l):=b.sl j k' w e0;show#[v,h,l.mv G M8 λJ4 q x=>?_];have(PF,Kt,B,_):=l.rt J4;rw[x]at Kt;cases Kt;show#[B,λo' e=>m (λz=>?_) e];subst z;show p (b.inj j i k' k w u q J4 hk e0 y (by rw[h,x]) D)
 .have(Sa,Q):=f j1 k1 w1 g h;have(WZ,a2):=f j2 k2 w2 s l;show b.inj j1 j2 k1 k2 Sa WZ q g s Q a2 T e4
 .by_cases A:a=r
  .subst A;show hr
  .show#[o',m A e]
 .rcases z with z|⟨j,w,q,h,l,T⟩
  .show .inl (.inl (b1 a z))
  .show .inl (.inr #[j,w,q,dD j w h,l,T])
def gH{f:U->Option U}{st:aB}(h:W (modS i f) st Q):∃k u u',k.root=b5/\st[i]?=a0 (a0 (k,u))/\f u=a0 u'/\Q () (st.set i (a0 (k,u'))):=by
 have(_,st',e,q):=h;unfold modS at e;split at e
 .rename_i k u hs;split at e
  .rename_i hk;cases a:f u with
   |none=>rw[a]at e;cases e
   |some u'=>rw[a]at e;cases e;show#[k,u,u',hk,hs,a,q]
  .cases e
 .cases e
def dR{st:aB}(h:W (dF i) st Q):∃k u,k≠.G'/\st[i]?=a0 (a0 (k,u))/\Q (if k.root=b5 then .bor i else k,u) st:=by
 have(r,st',e,q):=h;unfold dF at e;split at e
 .cases e
 .rename_i k u a hs;cases e;show#[k,u,λz=>a z,hs,q]
 .cases e
def G_(hK:C.K=X.K)(hN:X.N[i]?=a0 x)(hv:K4 X.env.scope x)(hd:(x==("__debug__":Str))=cb)(JP:(x==("__classdict__":Str))=cb)(ha:PE X a (Jm C ma))
  (Kx:((M3 m (mh [a] X.env)).all (λx=>!x.1)&&(UQ m (Qz [] X.env)).all (λx=>x.1.isSome)
   && df ([a].length+([]:List SW).length+(if ([]:List SW).isEmpty then 0 else 1)<30))=b5)
  (Jt:(d.endLine==m.line)=b5) (s:mh [a] X.env=[(cb,K6 a X.env)]) :
  L2.PS X (.Expr (.Call (.Attribute (.Name x px) "append" d) [a] [] m) pos) (Ki C ns (dF i >>= λx=>OJ x.2 >>= λ_=>ma >>= λr=>lift r >>= λu=>modS i (zm u) >>= λ_=>pure .nx)):=by
 show PS.weak (kJ (yx PySem.F.plainAttrs_list PySem.F.slot_list_append PySem.F.type_list_append nN (cD hN hv hd JP) (gz ha ly s) rfl Kx Jt s rfl)) ?_;rintro D σ H ⟨c0,rfl,rfl,g,h⟩;rw[ah]at h;have(b,y,Nt,A,h):=dR h;have(B,n,o):=g.sl i b y A;show#[B,n,?_];cases y with
 |lst G =>
  rw[ah,show OJ (U.lst G)=pure () from rfl,ak]at h;have Va:aP C c0 c0 (if b.root=b5 then .bor i else b) (.lst G) B:=by
   by_cases hk:b.root=b5
   .rw[ϥ hk];show#[#[b,hk,A],n]
   .rw[Ϧ hk];cases b with
    |loc=>show o
    |any=>show o
    |bor j=>show o.elim
    |G'=>show(Nt rfl).elim
    |_=>show absurd rfl hk
  have(l,Qe,p,RB,_):=Va.list g;show#[by rw[p];show .inl #[rfl,Qe,hK▸RB],?_];show ba g h λr c v t w=>?_;rw[ah]at w;have(S',st',u,sS,I,n1,e,J,_,_):=iY g t.ok t.nx t.rx.w w;rw[ah]at J;have(k,u1,u2,hk,hs,f,q):=gH J;have L:c.σ[i]?=a0 (a0 (.ref l)):=by rw[t.hσ,n,p]
  cases u1 with
  |lst O =>
   simp only[zm]at f;split at f
   .rename_i hz;cases f;have(v',e1,e2):=I.sl i k (.lst O) hs;have Q:c.σ[i]?=a0 (a0 v'):=e1;rw[L]at Q;cases Q;have(r',er,_,_,_,ws,hw,T):=e2.rt hk;cases er;have Mk:c.H l=a0 (.lst ws):=hw;show#[l,ws,v,p,rfl,Mk,by rw[<-T.len];show hz,?_];rw[ak]at q;have(JC,n2):=Ok.mod (c:={c with S:=S',st:=st' }) (H':=upd c.H l (.lst (ws++[v]))) (u':=.lst (O++[u])) I n1.toNs hk hs L (λa ne=>aj ne) ⟨_,aw⟩ λY=>#[ws++[v],aw,(T.mv Y).snoc (e.mv Y)]
    have z:=q _ rfl JC n2 (Kept.of t.hσ);rw[<-t.hσ];show z
   .cases f
  |_=>cases f
 |_=>rw[ah]at h;show(bB.mp h).elim
def Ha(G:C.K=X.K)(hN:X.N[i]?=a0 x)(hv:K4 X.env.scope x)(hd:(x==("__debug__":Str))=cb)(JP:(x==("__classdict__":Str))=cb)(ha:PE X a (Jm C ma))
  (Kx:((M3 l (mh [a] X.env)).all (λx=>!x.1)&&(UQ l (Qz [] X.env)).all (λx=>x.1.isSome)
   && df ([a].length+([]:List SW).length+(if ([]:List SW).isEmpty then 0 else 1)<30))=b5)
  (Jt:(g.endLine==l.line)=b5) (I:mh [a] X.env=[(cb,K6 a X.env)]) :
  L2.PS X (.Expr (.Call (.Attribute (.Name x px) "extend" g) [a] [] l) pos) (Ki C ns (dF i >>= λx=>OJ x.2 >>= λ_=>ma >>= λr=>modS i (l8 r) >>= λ_=>pure .nx)):=by
 show PS.weak (kJ (yx PySem.F.plainAttrs_list PySem.F.slot_list_extend PySem.F.type_list_extend tD (cD hN hv hd JP) (gz ha ly I) rfl Kx Jt I rfl)) ?_;rintro D σ H ⟨c0,rfl,rfl,m,h⟩;rw[ah]at h;have(f,J,Nt,L,h):=dR h;have(O,n,o):=m.sl i f J L;show#[O,n,?_];cases J with
 |lst Q =>
  rw[ah,show OJ (U.lst Q)=pure () from rfl,ak]at h;have Va:aP C c0 c0 (if f.root=b5 then .bor i else f) (.lst Q) O:=by
   by_cases hk:f.root=b5
   .rw[ϥ hk];show#[#[f,hk,L],n]
   .rw[Ϧ hk];cases f with
    |loc=>show o
    |any=>show o
    |bor j=>show o.elim
    |G'=>show(Nt rfl).elim
    |_=>show absurd rfl hk
  have(p,Qe,s,RB,_):=Va.list m;show#[by rw[s];show .inl #[rfl,Qe,G▸RB],?_];show ba m h λr c v t w=>?_;rw[ah]at w;have(k,u,u2,hk,hs,d,q):=gH w;have T:c.σ[i]?=a0 (a0 (.ref p)):=by rw[t.hσ,n,s]
  have(rk,ru):=r;have y:∃e zs b vs,u=.lst e/\v=.ref b/\(JG C.K c.H b vs\/JH C.K c.H b vs)/\ai C c.S c.H zs vs/\e.length+zs.length<=dt/\u2=.lst (e++zs):=by
   cases ru with
   |lst zs =>
    cases u with
    |lst e =>
     simp only[l8]at d;split at d
     .rename_i hz;cases d;have(b,vs,ev,A,B):=t.rx.list t.ok;show#[_,_,b,vs,rfl,ev,.inl A,eT hz.2 B,hz.1,rfl]
     .cases d
    |_=>simp[l8]at d
   |tup zs =>
    cases u with
    |lst e =>
     simp only[l8]at d;split at d
     .rename_i hz;cases d;have(b,vs,ev,A,B):=t.rx.tuple t.ok;show#[_,_,b,vs,rfl,ev,.inr A,eT hz.2 B,hz.1,rfl]
     .cases d
    |_=>simp[l8]at d
   |_=>simp[l8]at d
  have(e,zs,b,vs,rfl,rfl,hB,hz,hl,rfl):=y;have(v',Y,e2):=t.ok.sl i k (.lst e) hs;rw[T]at Y;cases Y;have(r',er,_,_,_,ws,hw,Kz):=e2.rt hk;cases er;show#[p,b,ws,vs,s,rfl,hw,G▸hB,by rw[<-Kz.len,<-hz.len];show hl,?_];rw[ak]at q;have(JC,n2):=Ok.mod (c:=c) (H':=upd c.H p (.lst (ws++vs))) (u':=.lst (e++zs)) t.ok t.nx.toNs hk hs T (λa ne=>aj ne) ⟨_,aw⟩ λmv=>#[ws++vs,aw,(Kz.mv mv).append (hz.mv mv)]
  have z:=q _ rfl JC n2 (Kept.of t.hσ);rw[<-t.hσ];show z
 |_=>rw[ah]at h;show(bB.mp h).elim
def ll.or(h:ll X t)(h':ll X t'):ll X (λo i v H Q=>t o i v H Q\/t' o i v H Q):=λa s σ H o i v b c u Q I d e f q =>
 q.elim (h a s σ H o i v b c u Q I d e f) (h' a s σ H o i v b c u Q I d e f)
def set_dict(c:X.A.units+1<K7):ll X (λo i v H Q=>∃a H',o=.ref a/\w9 H a i v H'/\Q H'):=by
 rintro b s σ H o i v h j u Q I d e rv ⟨a,H',rfl,g,q⟩;cases d;show w_ c I g e rv λs' f=>#[H',f,q]
def zG{S:gi->Prop}{kvs:List (Key×V)}(a:kvs.map (·.1)=ks.map nz)(c:ai C S H us (kvs.map (·.2)))(d:Rep C S H u v):
  (putK kvs (nz y) v).map (·.1)=(dput ks us y u).1.map nz/\ai C S H (dput ks us y u).2 ((putK kvs (nz y) v).map (·.2)):=by
 have e:(kvs.any λkv=>df (kv.1=(nz y:Key)))=df (y∈ks):=by
  rw[iJ];show(da (x:=y) a c).2
 unfold putK dput;rw[e];by_cases b:y∈ks
 .rw[ϥ (by simpa using b),ϥ b];constructor
  .rw[fx];rw[<-a];apply tj;intro p _;change(if p.1=nz y then(p.1,v) else p).1=p.1;split<;>rfl
  .clear e b;induction kvs generalizing ks us with
   |nil =>
    have:ks=[]:=by simpa using a.symm
    subst this;simp[ai]
   |cons p kvs g =>
    cases ks with
    |nil=>simp at a
    |cons k ks =>
     cases us with
     |nil=>simp[ai]at c
     |cons j us =>
      rw[eH,eH,Ri]at a;have(l,m,f,h,i):=c;rw[eH]at f;cases f;rw[eH,P7,eH,eH];show#[_,_,rfl,?_,g a.2 i];by_cases hk:k=y
      .rw[ϥ (by show hk),ϥ (by rw[a.1,hk])];show d
      .rw[Ϧ (by show hk),Ϧ (by rw[a.1];intro z;show hk (YP z))];show h
 .rw[Ϧ (by simpa using b),Ϧ b];show#[by rw[nc,a,nc];rfl,by rw[nc];show c.snoc d]
def Hb(hP:C.P=X.prog)(hw:C.w=X.w)(Q:C.K=X.K)(hu:X.A.units+60<K7)(hN:X.N[i]?=a0 x)(hv:K4 X.env.scope x)(hd:(x==("__debug__":Str))=cb)(JP:(x==("__classdict__":Str))=cb)
  (ha:PE X a (Jm C ma)) (hb:PE X b (Jm C mb)) (hs:Ww [.Subscript (.Name x I) b p] a pos.line X.env=pure cb) (OQ:Ĝ [.Subscript (.Name x I) b p] a X.env=pure bD)
  (T:∀v,Wx (.Subscript (.Name x I) b p) X.env v=(do
   let J <-O3 [v] (K6 (.Name x I) X.env)
   let Y <-O3 [v,J] (K6 b X.env)
   ó p
   O3 [v,J,Y] (XE J Y v)
   É [v,J,Y] [])) :
  L2.PS X (.Assign [.Subscript (.Name x I) b p] a pos) (Ki C ns (ma >>= λr=>dF i >>= λ_=>mb >>= λx=>dy [r,x] >>= λus=>modS i (u_ us) >>= λ_=>pure .nx)):=by
 show PS.weak (yp ha (yo (cD hN hv hd JP) hb (ll.or (ll.or set_list (set_dict (X:=X) ⋯)) (BH (X:=X) ⋯)) T) hs OQ rfl) ?_;rintro D σ H ⟨c0,rfl,rfl,ok,h⟩;show ba ok h λr c v t w=>?_;rw[ah]at w;have(k0,u0,Nt,Kr,w):=dR w;have(v0,e0,L0):=t.ok.sl i k0 u0 Kr;show#[v0,by rw[<-t.hσ];show e0,?_];rw[ah]at w;show#[c,t.hσ,rfl,t.ok,w.mono λy st2 w2 g s L e4 JC n2 r2=>?_];subst e4;rw[ah]at w2;have Vb:=t.nx.trans n2;have ab:d0 C c0 g [r,y] [v,s]:=#[v,[s],rfl,t.rx.w.on t.ok n2 (L.trans t.hσ.symm),#[s,[],rfl,(r2.w).from t.nx,rfl,λ_ i r' v' e _=>by simp at e],λhk i r' v' e5 e6 J4=>by
  cases i with
  |zero=>simp at e5 e6;subst e5 e6;show pT t.rx.w r2.w hk J4
  |succ i=>simp at e5]
 have(S',st',us,sS,Jn,n1,m,w1):=iZ ok JC Vb ab w2;rw[ah]at w1;have(k,O,u2,hk,K5,d,q):=gH w1;rw[ak]at q;have hσ:g.σ[i]?=a0 (a0 v0):=by rw[L,<-t.hσ];show e0
 have(v',e1,e2):=Jn.sl i k O K5;have J0:g.σ[i]?=a0 (a0 v'):=e1;rw[hσ]at J0;cases J0;have(l,er,z1,z2,z3,f):=e2.rt hk;subst er;have Zv:({g with S:=S',st:=st' }:Cf).σ[i]?=a0 (a0 (.ref l)):=hσ;obtain⟨Sa,ws,ew,W0,WZ,ac,al,Vc,Zw⟩:∃u ws,us=[u,ws]/\Rep C S' g.H u v/\∃(_:Unit) (_:Unit),True/\Rep C S' g.H ws s/\True:=by
  cases us with
  |nil=>simp[ai]at m
  |cons u us =>
   have(_,_,e,q1,q2):=m;cases e;cases us with
   |nil=>simp[ai]at q2
   |cons u' us =>
    have(_,_,e,q3,q4):=q2;cases e;cases us with
    |nil=>show#[u,u',rfl,q1,(),(),trivial,q3,trivial]
    |cons _ _=>have(_,_,e,_):=q4;cases e
 subst ew;rw[show u_ [Sa,ws] O=dG ws Sa O from rfl]at d;have n:∀{H':Hp} ,(∀a,a≠l->H' a=g.H a)->(∃o,H' l=a0 o)->(Mv S' g.H S' H'->dv C S' H' l u2)->D.nx c0.σ H':=λ{H'} JI hr new=>by
  have(LK,n3):=Ok.mod (c:={g with S:=S',st:=st' }) (H':=H') (u':=u2) Jn n1.toNs hk K5 Zv JI hr new;have z:=q _ rfl LK n3 (Kept.of L);rw[<-L];show z
 cases O with
 |lst xs =>
  cases ws with
  |int j =>
   simp only[dG,ez]at d;have(j',hj,rfl):=d;have(vs,h1,B):=f;have ey:s=.int j:=Vc;show .inl (.inl #[l,vs,j,j',rfl,ey,h1,by rw[<-B.len];show hj,?_]);show n (λa ne=>aj ne) ⟨_,aw⟩ λG=>#[vs.set j' v,aw,(B.mv G).set j' (W0.mv G)]
  |_=>simp[dG]at d
 |Jc ks vs =>
  cases ws with
  |str y' =>
   simp only[dG]at d;split at d
   .rename_i hz;cases d;have(kvs,h1,B,h3):=f;have ey:s=.str y':=Vc;subst ey;have hl:kvs.length=ks.length:=by have:=ϩ DD B;simpa using this
    show .inl (.inr #[l,_,rfl,w9.k (k:=nz y') h1 (by rw[hl];show hz),?_]);show n (λa ne=>aj ne) ⟨_,aw⟩ λG=>?_;have(g1,g2):=zG (y:=y') B h3 W0;show#[_,aw,g1,g2.mv G]
   .cases d
  |_=>simp[dG]at d
 |J8 ks =>
  simp only[dG]at d;split at d
  .rename_i r0 Lk;split at d
   .rename_i hh;cases d;have er:=l_ Lk;subst er;have JR:=Vc.row;have N1:fF C.P C.w C.K g.H l ks:=f;rw[Q]at JR;rw[hP,hw,Q]at N1;show .inr #[l,r0,ks,rfl,JR,N1,hh.1,hh.2,λH' hR JI=>?_];have(xs,hx,_):=id hR;show n JI #[_,hx] λG=>?_;change fF C.P C.w C.K H' l _;rw[hP,hw,Q];show hR
   .cases d
  .cases d
 |_=>simp[dG]at d
def Ok.slot(d:Ok C c)(e:k≠.G')(hs:c.st[i]?=a0 (a0 (k,u))):∃v,c.σ[i]?=a0 (a0 v)/\aP C c c (if k.root=b5 then .bor i else k) u v:=by
 have(f,b,a):=d.sl i k u hs;show#[f,b,?_];by_cases hk:k.root=b5
 .rw[ϥ hk];show#[#[k,hk,hs],b]
 .rw[Ϧ hk];cases k with
  |loc=>show a
  |any=>show a
  |bor j=>show a.elim
  |G'=>show(e rfl).elim
  |_=>show absurd rfl hk
end
section
def Ok.Hc(d:Ok C c)(n:Ns c0 c)(O:c.st[i]?=a0 (a0 (.G',u)))(B:c.σ[i]?=a0 (a0 (.ref r)))(JI:∀a,¬c.RD i a->H' a=c.H a)(Q:∀a o,c.H a=a0 o->∃o',H' a=a0 o')
  (new:Mv c.S c.H c.S H'->cf C c.S H' r as' u') (T:∀a∈as',a∈c.kid i\/(¬c.R a/\c0.H a=bD)) :
  Ok C {c with H:=H',st:=c.st.set i (a0 (.G',u')),kid:=λj=>if j=i then as' else c.kid j}/\Ns c0 {c with H:=H',st:=c.st.set i (a0 (.G',u')),kid:=λj=>if j=i then as' else c.kid j}:=by
 have Y:i<c.st.length:=(et.mp O).1;have rt:∀{a},c.RD i a->¬c.S a/\¬C.LX a/\(C.H₀ a=bD\/C.IO a)/\∃o,c.H a=a0 o/\¬Tp o:=λz=>d.root (.inr #[i,z]);have h0:∀{a},c.RD i a->C.H₀ a=bD\/C.IO a:=λ⟨u1,r1,g,b,e3⟩=>(cf.fr (d.dd.kd i u1 r1 g b) _ (fR.mpr e3)).2.2;have q:∀{a:gi} {o:HO},¬c.RD i a->c.H a=a0 o->H' a=a0 o:=λz e=>by rw[JI _ z];show e
 have N:Mv c.S c.H c.S H':=#[λ_ z=>z,λa o e t=>q (λz=>by
  have(_,_,_,o',l,nt):=rt z;rw[e]at l;cases l;show nt t) e,λa o z e=>q (λm=>(rt m).1 z) e]
 have M8:Mv (PS C c.S) c.H (PS C c.S) H':=#[λ_ z=>z,N.QQ,λa o z e=>q (λm=>z.elim (rt m).2.1 (rt m).1) e]
 have D:∀(j:Nat) k w,(c.st.set i (a0 (.G',u')))[j]?=a0 (a0 (k,w))->j≠i->c.st[j]?=a0 (a0 (k,w)):=λj k w e ne=>by rw[mA (uv ne)]at e;show e
 have OR:∀(j:Nat) k w,k.root=b5->(c.st.set i (a0 (.G',u')))[j]?=a0 (a0 (k,w))->c.st[j]?=a0 (a0 (k,w)):=λj k w hk e=>by
  by_cases f:j=i
  .subst f;rw[gs Y]at e;cases e;cases hk
  .show D j k w e f
 have b1:∀a,({c with H:=H',st:=c.st.set i (a0 (.G',u')),kid:=λj=>if j=i then as' else c.kid j}:Cf).R1 a->c.R1 a:=λa ⟨j,k,w,hk,g,b⟩=>#[j,k,w,hk,OR j k w hk g,b]
 have G:∀j a,({c with H:=H',st:=c.st.set i (a0 (.G',u')),kid:=λj=>if j=i then as' else c.kid j}:Cf).RD j a->c.RD j a\/(j=i/\¬c.R a/\c0.H a=bD):=λj a Js=>by
  have(w,h,g,b,e3):=Js;by_cases f:j=i
  .subst f;have I:c.σ[j]?=a0 (a0 (.ref h)):=b;rw[B]at I;cases I;rcases e3 with rfl|e3
   .show .inl #[u,_,O,B,.inl rfl]
   .have LW:a∈as':=by simpa using e3
    rcases T a LW with z|z
    .show .inl #[u,_,O,B,.inr z]
    .show .inr #[rfl,z]
  .have LW:a=h\/a∈c.kid j:=by simpa[f] using e3
   show .inl #[w,h,D j _ w g f,b,LW]
 show#[#[λa o e z=>q (λm=>(h0 m).elim (λy=>by rw[y]at e;cases e) z) (d.same a o e z),λa z=>?_,d.par,λa z=>?_,by simp[d.len],λj k w e=>?_,λx s k1 k2 w1 w2 h h1 h2 g b e3 e4=>d.inj x s k1 k2 w1 w2 h h1 h2 (OR x k1 w1 h1 g) (OR s k2 w2 h2 b) e3 e4,#[λj w h g b=>?_,λx s a J L=>?_,λj a J L=>?_]],#[λa o e z=>?_,λa o e=>?_,λa z=>?_,n.sub,n.new]]
 .have(q1,o,q2):=d.KU a z;show#[q1,Q a o q2]
 .have(q1,o,q2):=d.io a z;show#[q1,Q a o q2]
 .by_cases f:j=i
  .subst f;rw[gs Y]at e;cases e;show#[.ref r,B,r,rfl]
  .have(v,g,b):=d.sl j k w (D j k w e f);show#[v,g,b.mv N M8 λhk h er=>?_];have(PF,Kt,J,_):=b.rt hk;rw[er]at Kt;cases Kt;show#[J,λo l=>q (λz=>d.dd.d1 i h z #[j,k,w,hk,D j k w e f,by rw[g,er]]) l]
 .by_cases f:j=i
  .subst f;rw[gs Y]at g;cases g;have I:c.σ[j]?=a0 (a0 (.ref h)):=b;rw[B]at I;cases I;have z:=new N;simpa using z
  .have J0:=D j _ w g f;have J4:(if j=i then as' else c.kid j)=c.kid j:=Ϧ f;change cf C c.S H' h (if j=i then as' else c.kid j) w;rw[J4];show cf.mv N (λa ha=>#[(d.root (.inr #[j,w,h,J0,b,fR.mp ha])).1,λo l=>q (λz=>f (d.dd.dj j i a #[w,h,J0,b,fR.mp ha] z)) l]) (d.dd.kd j w h J0 b)
 .rcases G x a J with p|⟨rfl,p,_⟩
  .rcases G s a L with A|⟨rfl,A,_⟩
   .show d.dd.dj x s a p A
   .show(A (.inr #[x,p])).elim
  .rcases G s a L with A|⟨rfl,A,_⟩
   .show(p (.inr #[s,A])).elim
   .rfl
 .rcases G j a J with p|⟨rfl,p,_⟩
  .show d.dd.d1 j a p (b1 a L)
  .show p (.inl (b1 a L))
 .show q (λm=>by
   rcases n.roots a (.inr #[i,m]) with y|y
   .show z y
   .rw[e]at y;cases y) (n.keep a o e z)
 .have(o',l):=n.there a o e;show Q a o' l
 .rcases z with z|⟨j,z⟩
  .show n.roots a (.inl (b1 a z))
  .rcases G j a z with y|⟨_,_,y⟩
   .show n.roots a (.inr #[j,y])
   .show .inr y
def Ok.newD(l:Ok C c)(B:c.H p=bD)(u:i<c.σ.length):
  Ok C {c with H:=upd c.H p (.dK []),σ:=c.σ.set i (a0 (.ref p)),st:=c.st.set i (a0 (.G',.Jc [] [])),kid:=λj=>if j=i then [] else c.kid j}/\Ns c {c with H:=upd c.H p (.dK []),σ:=c.σ.set i (a0 (.ref p)),st:=c.st.set i (a0 (.G',.Jc [] [])),kid:=λj=>if j=i then [] else c.kid j}:=by
 have(n,T):=l.lay (o:=.dK []) B;have(q1,q2,q3,q4,D):=l.kF B;have G:i<c.st.length:=by rw[l.len];show u
 have x:∀(j:Nat) k w,(c.st.set i (a0 (.G',.Jc [] [])))[j]?=a0 (a0 (k,w))->j≠i->c.st[j]?=a0 (a0 (k,w)):=λj k w e I=>by rw[mA (uv I)]at e;show e
 have q:∀(j:Nat),j≠i->(c.σ.set i (a0 (.ref p)))[j]?=c.σ[j]?:=λj I=>mA (uv I);have J:∀(j:Nat) k w,k.root=b5->(c.st.set i (a0 (.G',.Jc [] [])))[j]?=a0 (a0 (k,w))->j≠i/\c.st[j]?=a0 (a0 (k,w)):=λj k w hk e=>by
  by_cases b:j=i
  .subst b;rw[gs G]at e;cases e;cases hk
  .show#[b,x j k w e b]
 have b1:∀a,({c with H:=upd c.H p (.dK []),σ:=c.σ.set i (a0 (.ref p)),st:=c.st.set i (a0 (.G',.Jc [] [])),kid:=λj=>if j=i then [] else c.kid j}:Cf).R1 a->c.R1 a:=λa L=>by
  have(j,k,w,hk,d,f):=L;have(b,N):=J j k w hk d;show#[j,k,w,hk,N,by rw[<-q j b];show f]
 have r:∀j a,({c with H:=upd c.H p (.dK []),σ:=c.σ.set i (a0 (.ref p)),st:=c.st.set i (a0 (.G',.Jc [] [])),kid:=λj=>if j=i then [] else c.kid j}:Cf).RD j a->(j≠i/\c.RD j a)\/(j=i/\a=p):=λj a L=>by
  have(w,g,d,f,e3):=L;by_cases b:j=i
  .subst b;have s:(c.σ.set j (a0 (.ref p)))[j]?=a0 (a0 (.ref g)):=f;rw[gs u]at s;cases s;rcases e3 with rfl|e3
   .show .inr #[rfl,rfl]
   .simp at e3
  .have LW:a=g\/a∈c.kid j:=by simpa[b] using e3
   show .inl #[b,w,g,x j _ w d b,by rw[<-q j b];show f,LW]
 show#[#[n.same,n.KU,n.par,n.io,by simp[l.len],λj k w e=>?_,λm h k1 k2 Y w2 g h1 h2 d f e3 e4=>?_,#[λj w g d f=>?_,λm h a O t=>?_,λj a O t=>?_]],#[T.keep,T.there,λa z=>?_,λ_ z=>z,λ_ z=>.inl z]]
 .by_cases b:j=i
  .subst b;rw[gs G]at e;cases e;show#[.ref p,gs u,p,rfl]
  .have(v,d,f):=n.sl j k w (x j k w e b);show#[v,(q j b).trans d,f]
 .have(PM,a1):=J m k1 Y h1 d;have(OS,a2):=J h k2 w2 h2 f;show l.inj m h k1 k2 Y w2 g h1 h2 a1 a2 ((q m PM).symm.trans e3) ((q h OS).symm.trans e4)
 .by_cases b:j=i
  .subst b;rw[gs G]at d;cases d;have s:(c.σ.set j (a0 (.ref p)))[j]?=a0 (a0 (.ref g)):=f;rw[gs u]at s;cases s;change cf C c.S (upd c.H p (.dK [])) p (if j=j then [] else c.kid j) (.Jc [] []);rw[ϥ rfl];show#[[],aw,rfl,rfl,by simp,λa ha=>by rw[kj.mp ha];show#[q2,q3,q1],rfl]
  .have N:=x j _ w d b;have z:=n.dd.kd j w g N ((q j b).symm.trans f);change cf C c.S (upd c.H p (.dK [])) g (if j=i then [] else c.kid j) w;rw[Ϧ b];show z
 .rcases r m a O with⟨_,A⟩|⟨rfl,rfl⟩
  .rcases r h a t with⟨_,Q⟩|⟨rfl,rfl⟩
   .show l.dd.dj m h a A Q
   .show(D (.inr #[m,A])).elim
  .rcases r h a t with⟨_,Q⟩|⟨rfl,_⟩
   .show(D (.inr #[h,Q])).elim
   .rfl
 .rcases r j a O with⟨_,A⟩|⟨rfl,rfl⟩
  .show l.dd.d1 j a A (b1 a t)
  .show D (.inl (b1 a t))
 .rcases z with z|⟨j,z⟩
  .show .inl (.inl (b1 a z))
  .rcases r j a z with⟨_,y⟩|⟨_,rfl⟩
   .show .inl (.inr #[j,y])
   .show .inr B
end
section
theorem dw.rep{S S':gi->Prop}(hs:∀a,S a->S' a):∀{us:List U}{as:List gi},(∀a∈as,S' a)->dw C S H us as->ai C S' H us (as.map V.ref)
 |[],as,_,h=>by cases h;show rfl
 |u::us,as,c,h=>by
  have(a,as',i,vs,rfl,rfl,d,e,f):=h;show#[.ref a,as'.map V.ref,rfl,#[a,vs,rfl,.inl #[c a (by simp),.inl d],e.mv (.up hs)],dw.rep hs (λb g=>c b (by simp[g])) f]
def Ok.Hd(b:Ok C c)(n:Nx c0 c)(D:∃ks us,u=.Jc ks us)(Q:c.st[i]?=a0 (a0 (.G',u)))(s:c.σ[i]?=a0 (a0 (.ref r))):
  Ok C {c with S:=λa=>c.S a\/a∈c.kid i,st:=c.st.set i (a0 (.own,u))}/\Nx c0 {c with S:=λa=>c.S a\/a∈c.kid i,st:=c.st.set i (a0 (.own,u))}:=by
 have T:i<c.st.length:=(et.mp Q).1;have(ks,us,D):=D;have rd:=b.dd.kd i u r Q s;have fr:=cf.UI (D▸rd);have mem:∀a,(a=r\/a∈c.kid i)->c.RD i a:=λa z=>#[u,r,Q,s,z]
 have up:Mv c.S c.H (λa=>c.S a\/a∈c.kid i) c.H:=.up λa=>.inl;have Zx:Mv (PS C c.S) c.H (PS C λa=>c.S a\/a∈c.kid i) c.H:=.up λa z=>z.imp id .inl;have Sb:r∉c.kid i/\dv C (λa=>c.S a\/a∈c.kid i) c.H r u:=by
  subst D;have(kvs,G,I,h3,h4,h5,h6):=rd;show#[(p6.mp h4).1,kvs,G,I,?_];rw[h3];show h6.rep (λa=>.inl) λa J=>.inr J
 have p:∀(j:Nat) k w,(c.st.set i (a0 (.own,u)))[j]?=a0 (a0 (k,w))->j≠i->c.st[j]?=a0 (a0 (k,w)):=λj k w e ne=>by rw[mA (uv ne)]at e;show e
 have b1:∀a,({c with S:=λa=>c.S a\/a∈c.kid i,st:=c.st.set i (a0 (.own,u))}:Cf).R1 a->c.R1 a\/a=r:=λa Y=>by
  have(j,k,w,hk,f,g):=Y;by_cases d:j=i
  .subst d;have KI:c.σ[j]?=a0 (a0 (.ref a)):=g;rw[s]at KI;cases KI;show .inr rfl
  .show .inl #[j,k,w,hk,p j k w f d,g]
 have t:∀j a,({c with S:=λa=>c.S a\/a∈c.kid i,st:=c.st.set i (a0 (.own,u))}:Cf).RD j a->j≠i/\c.RD j a:=λj a Y=>by
  have(w,h,f,g,x):=Y;by_cases d:j=i
  .subst d;rw[gs T]at f;cases f
  .show#[d,w,h,p j _ w f d,g,x]
 show#[#[b.same,λa z=>?_,b.par,b.io,by simp[b.len],λj k w e=>?_,λm l k1 k2 L N h G I f g x e4=>?_,#[λj w h f g=>?_,λm l a A z2=>b.dd.dj m l a (t m a A).2 (t l a z2).2,λj a A z2=>?_]],#[#[n.keep,n.there,λa z=>?_,λa z=>.inl (n.sub a z),λa z=>?_],λa ⟨j,z⟩=>n.dk a #[j,(t j a z).2]]]
 .rcases z with z|z
  .show b.KU a z
  .have(o,ho,_):=cf.there rd a (nC _ z);show#[(fr a (nC _ z)).2.2,o,ho]
 .by_cases d:j=i
  .subst d;rw[gs T]at e;cases e;have(q1,q2,q3):=fr r (k7 ..);show#[.ref r,s,r,rfl,λz=>z.elim q1 Sb.1,q2,q3,Sb.2]
  .have(v,f,g):=b.sl j k w (p j k w e d);show#[v,f,g.mv up Zx λhk h er=>?_];have(PF,Kt,A,_):=g.rt hk;rw[er]at Kt;cases Kt;show#[λz=>z.elim A λz=>b.dd.d1 i h (mem h (.inr z)) #[j,k,w,hk,p j k w e d,by rw[f,er]],λo q=>q]
 .by_cases O:m=i
  .by_cases B:l=i
   .rw[O,B]
   .subst O;have LW:c.σ[m]?=a0 (a0 (.ref h)):=x;rw[s]at LW;cases LW;show(b.dd.d1 m r (mem r (.inl rfl)) #[l,k2,N,I,p l k2 N g B,e4]).elim
  .by_cases B:l=i
   .subst B;have W2:c.σ[l]?=a0 (a0 (.ref h)):=e4;rw[s]at W2;cases W2;show(b.dd.d1 l r (mem r (.inl rfl)) #[m,k1,L,G,p m k1 L f O,x]).elim
   .show b.inj m l k1 k2 L N h G I (p m k1 L f O) (p l k2 N g B) x e4
 .by_cases d:j=i
  .subst d;rw[gs T]at f;cases f
  .have J0:=p j _ w f d;show cf.mv up (λa J=>#[λz=>z.elim (b.root (.inr #[j,w,h,J0,g,fR.mp J])).1 λz=>d (b.dd.dj j i a #[w,h,J0,g,fR.mp J] (mem a (.inr z))),λo q=>q]) (b.dd.kd j w h J0 g)
 .have(d,y):=t j a A;rcases b1 a z2 with z|z
  .show b.dd.d1 j a y z
  .subst z;show d (b.dd.dj j i a y (mem a (.inl rfl)))
 .rcases z with z|⟨j,z⟩
  .rcases b1 a z with z|rfl
   .show n.roots a (.inl z)
   .show n.roots a (.inr #[i,mem a (.inl rfl)])
  .show n.roots a (.inr #[j,(t j a z).2])
 .rcases z with z|z
  .show n.new a z
  .rcases n.roots a (.inr #[i,mem a (.inr z)]) with y|y
   .show .inr (.inl y)
   .show .inr (.inr y)
def CB(f:X.N[i]?=a0 x)(g:K4 X.env.scope x)(j:(x==("__debug__":Str))=cb)(k:(x==("__classdict__":Str))=cb):PE X (.Name x pos) (Jm C (zk i)):=by
 have m:=pU (C:=C) (pos:=pos) f g j k;rintro b s σ H Q I ⟨c0,rfl,rfl,c,r,st',e,h⟩;unfold zk at e;split at e
 .rename_i ks us hs;cases e;have(v,d,l,rfl):=c.sl i _ _ hs;have(n,o):=c.Hd (Nx.refl c0) #[_,_,rfl] hs d;have p:i<c0.st.length:=(et.mp hs).1;show cD f g j k b s c0.σ c0.H Q I #[.ref l,d,h {c0 with S:=λa=>c0.S a\/a∈c0.kid i,st:=c0.st.set i (a0 (.own,.Jc ks us))} (.ref l) rfl rfl n o ⟨⟨.own,rfl,gs p⟩,d⟩]
 .show m b s c0.σ c0.H Q I #[c0,rfl,rfl,c,r,st',e,h]
end
section
def gI{st:aB}(h:W (iW i) st Q):∃ks us,st[i]?=a0 (a0 (.G',.Jc ks us))/\Q (ks,us) st:=by
 have(r,st',e,q):=h;unfold iW at e;split at e
 .rename_i ks us hs;cases e;show#[ks,us,hs,q]
 .cases e
def gJ{st:aB}(h:W (kG x) st Q):∃y,x.2=.str y/\Q y st:=by
 unfold kG at h;split at h
 .rename_i y e;rw[ak]at h;show#[y,e,h]
 .show(bB.mp h).elim
def Ok.Jc(d:Ok C c)(f:c.st[i]?=a0 (a0 (.G',.Jc ks us))):∃(r:gi) (kvs:List (Key×V)),c.σ[i]?=a0 (a0 (.ref r))/\c.H r=a0 (.dK kvs)/\kvs.map (·.1)=ks.map nz/\kvs.map (·.2)=(c.kid i).map V.ref /\
  (r::c.kid i).Nodup/\dw C c.S c.H us (c.kid i)/\(∀y:Str,(dM kvs (nz y)).isSome=df (y∈ks))/\∀(y:Str) (u:U),cJ ks us y=a0 u->∃v,dM kvs (nz y)=a0 v/\Rep C (λa=>c.S a\/a∈c.kid i) c.H u v:=by
 have(v,e,r,rfl):=d.sl i _ _ f;have(kvs,k,b,g,l,n,h):=d.dd.kd i _ r f e;have j:ai C (λa=>c.S a\/a∈c.kid i) c.H us (kvs.map (·.2)):=by rw[g];show h.rep (λa=>.inl) λa m=>.inr m
 show#[r,kvs,e,k,b,g,l,h,λy=>(da (x:=y) b j).2,λy=>(da (x:=y) b j).1]
def rM{k:Str->List Str×List U->M β}{b:β->aB->Prop}{Z:V->V->Hp->Prop}(m:Ok C c0)(h:W (o >>= λx=>kG x >>= λy=>iW i >>= λd=>k y d) c0.st b)
  (hz:∀(c:Cf) (y:Str) (ks:List Str) (us:List U) (r:gi) (kvs:List (Key×V)),c.σ=c0.σ->Ok C c->Nx c0 c->c.H r=a0 (.dK kvs)->(dM kvs (nz y)).isSome=df (y∈ks)->W (k y (ks,us)) c.st b->Z (.str y) (.ref r) c.H) :
  Jm C o c0.σ c0.H λv p=>∃f,c0.σ[i]?=a0 (a0 f)/\Z v f p:=by
 show#[c0,rfl,rfl,m,?_];rw[ah]at h;show W.mono h λx st' w c v g hs a n r=>?_;subst hs;have(u,z):=x;rw[ah]at w;have(y,e,j):=gJ w;clear w
 dsimp only at e r
 subst e;have ev:v=.str y:=r.str a;subst ev;rw[ah]at j;have(ks,us,hs,w):=gI j;have(l,kvs,q,s,_,_,_,_,t,_):=a.Jc hs;show#[.ref l,by rw[<-g];show q,hz c y ks us l kvs g a n s (t y) w]
abbrev Fx(neg:Bool):CmpOp:=if neg=b5 then .NotIn else .In
def Fy(d:∀j,ns j=b5->j≠i)(f:X.N.Nodup)(c:X.N[i]?=a0 x)(g:Loc X.env.scope x)(k:X.fn x=b5\/X.env.scope.names.lookup x=a0 .local)
  (hs:Uo (.Dict [] [] p) (a0 (.Name x a)) pos.line X.env=pure cb):L2.PS X (.Assign [.Name x a] (.Dict [] [] p) pos) (Ki C ns (Dz i >>= λ_=>pure .nx)):=by
 rintro b s σ H D I ⟨c0,rfl,rfl,l,h⟩;have m:i<c0.σ.length:=by rw[I.len];show(et.mp c).1
 show yq f c g qS hs k b s c0.σ c0.H D I λq n=>?_;have(o,r):=l.newD n m;rw[ah]at h;have(_,st',e,w):=h;cases e;rw[ak]at w;show w _ rfl o r #[λj t=>mA (uv (d j t)),by simp]
end
section
def CC(G:X.A.units+60<K7)(p:X.N[i]?=a0 x)(q:K4 X.env.scope x)(t:(x==("__debug__":Str))=cb)(u:(x==("__classdict__":Str))=cb)(v:PE X a (Jm C D))(z:UB (Fx neg) (.Name x p2)=cb):
  PT X (.Compare a [Fx neg] [.Name x p2] pos) (Ku C (D >>= λx=>kG x >>= λy=>iW i >>= λd=>pure (UK neg y d.1))):=by
 rintro e s σ H Q I ⟨c0,rfl,rfl,B,h⟩;cases neg with
 |false =>
  show yk (Eu ⋯ v (cD p q t u)) z e s c0.σ c0.H Q I (rM (Z:=λy x f=>∃a o,x=V.ref a/\eG f a y o/\∃b,V.bl o.isSome=.bl b/\Q b f) B h λc y ks us r kvs g j n l m w=>?_);rw[ak]at w;show#[r,_,rfl,eG.k (k:=nz y) l,?_];rw[m];show#[_,rfl,w c g rfl j n]
 |true =>
  show yk (xa ⋯ v (cD p q t u)) z e s c0.σ c0.H Q I (rM (Z:=λy x f=>∃a o,x=V.ref a/\eG f a y o/\∃b,V.bl (!o.isSome)=.bl b/\Q b f) B h λc y ks us r kvs g j n l m w=>?_);rw[ak]at w;show#[r,_,rfl,eG.k (k:=nz y) l,?_];rw[m];show#[_,rfl,w c g rfl j n]
theorem dw.snoc{S:gi->Prop}{a:gi}(b:H a=a0 (.lst vs))(c:ai C S H d vs):∀{us:List U}{as:List gi},dw C S H us as->dw C S H (us++[.lst d]) (as++[a])
 |[],as,h=>by cases h;show#[a,[],d,vs,rfl,rfl,b,c,rfl]
 |u::us,as,h=>by
  have(a',as',f,g,rfl,e,i,j,k):=h;show#[a',as'++[a],f,g,rfl,e,i,j,dw.snoc b c k]
def tP{st:aB}(h:W (l0 i y r) st Q):∃us ks vs,r=(.own,.lst us)/\st[i]?=a0 (a0 (.G',.Jc ks vs))/\y∉ks/\ks.length<dt/\Q () (st.set i (a0 (.G',.Jc (ks++[y]) (vs++[.lst us])))):=by
 have(k,u):=r;cases k<;>cases u<;>first|show(bB.mp h).elim|skip
 rename_i us;have(_,st',e,q):=h;unfold l0 at e
 dsimp only at e
 split at e
 .rename_i ks vs hs;split at e
  .rename_i hz;cases e;show#[us,ks,vs,rfl,hs,hz.1,hz.2,q]
  .cases e
 .cases e
def Fz{i:Nat}{x:Str}{j:Pos}(hu:X.A.units+60<K7)(hN:X.N[i]?=a0 x)(hv:K4 X.env.scope x)(hd:(x==("__debug__":Str))=cb)(JP:(x==("__classdict__":Str))=cb)
  (ha:PE X a (Jm C ma)) (B:PE X b (Jm C mb)) (hs:Ww [.Subscript (.Name x j) b p] a pos.line X.env=pure cb) (OQ:Ĝ [.Subscript (.Name x j) b p] a X.env=pure bD)
  (G:∀v,Wx (.Subscript (.Name x j) b p) X.env v=(do
   let n <-O3 [v] (K6 (.Name x j) X.env)
   let I <-O3 [v,n] (K6 b X.env)
   ó p
   O3 [v,n,I] (XE n I v)
   É [v,n,I] [])) :
  L2.PS X (.Assign [.Subscript (.Name x j) b p] a pos) (Ki C ns (ma >>= λr=>iW i >>= λ_=>mb >>= λx=>kG x >>= λy=>l0 i y r >>= λ_=>pure .nx)):=by
 show PS.weak (yp ha (yo (cD hN hv hd JP) B (set_dict (X:=X) ⋯) G) hs OQ rfl) ?_;rintro D σ H ⟨c0,rfl,rfl,Q,h⟩;show ba Q h λr c v t w=>?_;rw[ah]at w;have(Sd,Vf,Kr,w):=gI w;have(T,OT,Y,g0,_):=t.ok.Jc Kr;show#[.ref T,by rw[<-t.hσ];show Y,?_];rw[ah]at w;show#[c,t.hσ,rfl,t.ok,w.mono λy st2 w2 J vy s e4 u n2 r2=>?_];subst e4;rw[ah]at w2;have(ky,uy):=y;have(y,ey,w3):=gJ w2
 dsimp only at ey r2
 subst ey;have ev:vy=.str y:=r2.str u;subst ev;rw[ah]at w3;have(us,ks,vs,L,g,RN,l,q):=tP w3;subst L;rw[ak]at q;have(m,kvs,d,g1,g2,g3,g4,g5,g6,_):=u.Jc g;have L:m=T:=by rw[s,<-t.hσ,Y]at d;cases d;rfl
 subst L;have(f,rfl,k1,k2,O,JL,k4,k5):=t.rx.w.on t.ok n2.toNs (s.trans t.hσ.symm);have Vb:=t.nx.trans n2;have hl:kvs.length=ks.length:=by have:=ϩ DD g2;simpa using this
 have MV:dM kvs (nz y)=bD:=by
  have:=g6 y;rw[ϧ RN]at this;cases hq:dM kvs (nz y) with
  |none=>rfl
  |some _=>rw[hq]at this;cases this
 show#[m,_,rfl,w9.k (k:=nz y) g1 (by rw[hl];show l),?_];rw[yA _ MV];have Sb:f∉J.kid i:=λz=>O (.inr #[i,_,_,g,d,.inr z]);have W3:f≠m:=λz=>O (.inr #[i,_,_,g,d,.inl z]);have rd:=u.dd.kd i _ _ g d;have fr:=cf.UI rd;have(LK,n3):=Ok.Hc (H':=upd J.H m (.dK (kvs++[(nz y,.ref f)]))) (u':=.Jc (ks++[y]) (vs++[.lst us])) (as':=J.kid i++[f]) u Vb.toNs g d
  (λa ne=>aj λz=>ne #[_,_,g,d,.inl z]) (λa o e=>by
   by_cases hz:a=m
   .subst hz;show#[_,aw]
   .rw[aj hz];show#[o,e])
  (λmv=>by
   show#[_,aw,by rw[nc,g2,nc];rfl,by rw[nc,g3,nc];rfl,?_,λa ha=>?_,?_]
   .rw[<-œ,ri];show#[g4,by simp,λa ha b B=>by
     have:b=f:=by simpa using B
     subst this;rintro rfl;rcases fR.mp ha with z|z
     .show W3 z
     .show Sb z]
   .rw[<-œ]at ha;rcases hZ.mp ha with ha|ha
    .show fr a ha
    .have:a=f:=by simpa using ha
     subst this;have(z1,_,z3,_):=Q.kF k1;show#[k2,z3,z1]
   .show dw.snoc (by rw[aj W3];show k4) (k5.mv mv) (dw.mv mv (λa ha o e=>by
     rw[aj (λz=>(p6.mp g4).1 (by rw[<-z];show ha))];show e) g5))
  (λa ha=>by
   rcases hZ.mp ha with ha|ha
   .show .inl ha
   .have:a=f:=by simpa using ha
    subst this;show .inr #[O,k1])
 have z:=q _ rfl LK n3 (Kept.of s);rw[<-s];show z
theorem dw.at{S:gi->Prop}:∀{ks:List Str}{us:List U}{as:List gi}{kvs:List (Key×V)}{u:U},kvs.map (·.1)=ks.map nz->kvs.map (·.2)=as.map V.ref->as.Nodup->dw C S H us as->cJ ks us y=a0 u ->
  ∃a ws f,dM kvs (nz y)=a0 (.ref a)/\a∈as/\u=.lst f/\H a=a0 (.lst ws)/\ai C S H f ws/\∀(H':Hp) (c:List U) (d:List V),Mv S H S H'->H' a=a0 (.lst d)->ai C S H' c d->(∀b∈as,b≠a->H' b=H b)->dw C S H' (jC ks us y (.lst c)) as
 |[],us,as,kvs,u,_,_,_,_,h=>by cases us<;>cases h
 |k::ks,[],as,kvs,u,_,_,_,_,h=>by cases h
 |k::ks,Q::us,as,kvs,u,g,q,i,hk,h=>by
  have(a,as',f,ws,rfl,rfl,t,v,w):=hk;cases kvs with
  |nil=>simp at g
  |cons p kvs =>
   rw[eH,eH,Ri]at g q;rw[p6]at i;by_cases j:k=y
   .subst j;simp only[cJ,if_true]at h;cases h;show#[a,ws,f,by rw[eL g.1,q.1],by simp,rfl,t,v,λH' c d l r s m=>?_];simp only[jC,if_true];show#[a,as',c,d,rfl,rfl,r,s,dw.mv l (λb n o e=>by rw[m b (by simp[n]) (λz=>i.1 (z▸n))];show e) w]
   .simp only[cJ,Ϧ j]at h;have(x,B,D,G,A,I,J,L,N):=dw.at g.2 q.2 i.2 w h;show#[x,B,D,?_,by simp[A],I,J,L,λH' c d l r s m=>?_]
    .rw[eN (by rw[g.1];intro z;show j (YP z))];show G
    .simp only[jC,Ϧ j];have O:a≠x:=λz=>i.1 (z▸A);show#[a,as',f,ws,rfl,rfl,by rw[m a (by simp) O];show t,v.mv l,N H' c d l r s λb n=>m b (by simp[n])]
def tQ{st:aB}(h:W (l7 i y u) st Q):∃ks vs xs,st[i]?=a0 (a0 (.G',.Jc ks vs))/\cJ ks vs y=a0 (.lst xs)/\xs.length<dt/\Q () (st.set i (a0 (.G',.Jc ks (jC ks vs y (.lst (xs++[u])))))):=by
 have(_,st',e,q):=h;unfold l7 at e;split at e
 .rename_i ks vs hs;split at e
  .rename_i xs a;split at e
   .rename_i hz;cases e;show#[ks,vs,xs,hs,a,hz,q]
   .cases e
  .cases e
 .cases e
abbrev zH(C:Ct)(m:M (Kd×U)):TE:=λσ H Q=>∃c0:Cf,c0.σ=σ/\c0.H=H/\Ok C c0/\W m c0.st λr st'=>∀c v,c.σ=σ->c.st=st'->Ok C c->Nx c0 c->(∀a o,c0.H a=a0 o->c.H a=a0 o)->aP C c0 c r.1 r.2 v->Q v c.H
def xJ(b:Ok C c0)(h:W (d >>= k) c0.st e)
  (hz:∀x c v,Np C c0 c x v->(∀a o,c0.H a=a0 o->c.H a=a0 o)->W (k x) c.st e->Z v c.H):zH C d c0.σ c0.H Z:=by
 rw[ah]at h;show#[c0,rfl,rfl,b,h.mono λx st1 f c1 g i j l m n p=>hz x c1 g #[i,l,m,p] n (by rw[j];show f)]
def zI(d:X.N[i]?=a0 x)(f:K4 X.env.scope x)(g:(x==("__debug__":Str))=cb)(l:(x==("__classdict__":Str))=cb):PE X (.Name x pos) (zH C (dF i)):=by
 show PE.weak (cD d f g l) ?_;rintro σ H Q ⟨c0,rfl,rfl,b,r,st',e,h⟩;unfold dF at e;split at e
 .cases e
 .rename_i k u m hs;cases e;have(v,c,a):=b.sl i k u hs;show#[v,c,h c0 v rfl rfl b (Nx.refl c0) (λ_ _ z=>z) ?_];by_cases hk:k.root=b5
  .rw[ϥ hk];show#[#[k,hk,hs],c]
  .rw[Ϧ hk];cases k with
   |loc=>show a
   |any=>show a
   |bor j=>show a.elim
   |G'=>show(m rfl).elim
   |_=>show absurd rfl hk
 .cases e
def jb(h:PE X e (tC v))(r:∀S H,Rep C S H u v):PE X e (zH C (pure (.loc,u))):=by
 show PE.weak h ?_;rintro σ H Q ⟨c0,rfl,rfl,a,h⟩;rw[ak]at h;show h c0 v rfl rfl a (Nx.refl c0) (λ_ _ z=>z) (r _ _)
def FA(hK:C.K=X.K)(hu:X.A.units+60<K7)(hN:X.N[i]?=a0 x)(hv:K4 X.env.scope x)(hd:(x==("__debug__":Str))=cb)(JP:(x==("__classdict__":Str))=cb)(G:PE X a (Jm C ma))(hb:PE X b (Jm C mb))(Q4:Et b)
  (Kx:((M3 I (mh [a] X.env)).all (λx=>!x.1)&&(UQ I (Qz [] X.env)).all (λx=>x.1.isSome)
   && df ([a].length+([]:List SW).length+(if ([]:List SW).isEmpty then 0 else 1)<30))=b5)
  (Jt:(j.endLine==I.line)=b5) (Jo:mh [a] X.env=[(cb,K6 a X.env)]) :
  L2.PS X (.Expr (.Call (.Attribute (.Subscript (.Name x px) b p) "append" j) [a] [] I) pos) (Ki C ns (iW i >>= λ_=>mb >>= λx=>kG x >>= λy=>iW i >>= λd=>if y∈d.1 then(ma >>= λr=>lift r >>= λu=>l7 i y u >>= λ_=>pure .nx) else M.fail)):=by
 show PS.weak (kJ (yx PySem.F.plainAttrs_list PySem.F.slot_list_append PySem.F.type_list_append nN (By ⋯ (cD hN hv hd JP) hb Q4) (gz G ly Jo) rfl Kx Jt Jo rfl)) ?_;rintro D σ H ⟨c0,rfl,rfl,ok,h⟩;rw[ah]at h;have(Sd,Vf,Kr,h):=gI h;have(r0,OT,J,g0,_):=ok.Jc Kr;show#[.ref r0,J,?_];show ba ok h λry c vy t w=>?_;rw[ah]at w;have(ky,uy):=ry;have(y,ey,w1):=gJ w
 dsimp only at ey
 subst ey;have ev:vy=.str y:=t.rx.str t.ok;subst ev;rw[ah]at w1;have(ks,us,hs,l):=gI w1
 dsimp only at l
 by_cases L:y∈ks
 case neg=>rw[Ϧ L]at l;show(bB.mp l).elim
 rw[ϥ L]at l;have(O,kvs,f1,g1,g2,g3,g4,g5,g6,_):=t.ok.Jc hs;have Q:O=r0:=by rw[t.hσ,J]at f1;cases f1;rfl
 subst Q;have N2:=g6 y;rw[Ϩ L]at N2;have(v0,s):=VF.mp N2;have Kg:v0∈(c.kid i).map V.ref:=by
  rw[<-g3];unfold dM at s;have(q,hq,rfl):=ez.mp s;show NP (List.mem_of_find?_eq_some hq)
 have(f,ZA,rfl):=k8.mp Kg;have(ZC,Vg):=g5.mem ZA;show#[O,.ref f,rfl,by rw[<-s];show eG.k (k:=nz y) g1,Or.inl #[rfl,ZC,.inl (.inl Vg)],?_];rw[<-t.hσ];show ba t.ok l λr g v t' w3=>?_;rw[ah]at w3;have(S',st',u,sS,T,n1,m,w4,_,_):=iY t.ok t'.ok t'.nx t'.rx.w w3;rw[ah]at w4;have(Q5,JL,xs,n,hx,hz,q):=tQ w4;rw[ak]at q;have(B,Y,k1,k2,k3,k4,k5,k6,_,_):=T.Jc n;have W4:g.σ[i]?=a0 (a0 (.ref B)):=k1;have Q:B=O:=by rw[t'.hσ,t.hσ,J]at W4;cases W4;rfl
 subst Q;have ab:g.H B=a0 (.dK Y):=k2;have Vh:Y=kvs:=by have:=(n1.dk _ #[i,_,_,n,k1,.inl rfl]).2 _ g1;rw[show _=_ from k2]at this;cases this;rfl
 subst Vh;have nd:=(p6.mp k5).2;have(a2,ws,ys,l1,l2,l3,l4,l5,l6):=dw.at k3 k4 nd k6 hx;cases l3;rw[s]at l1;cases l1;have ZD:g.H f=a0 (.lst ws):=l4;show#[f,ws,v,rfl,rfl,ZD,by rw[<-l5.len];show hz,?_];have JI:f≠B:=λz=>(p6.mp k5).1 (z▸l2);have(JC,n2):=Ok.Hc (c:={g with S:=S',st:=st' }) (H':=upd g.H f (.lst (ws++[v]))) (u':=.Jc Q5 (jC Q5 JL y (.lst (xs++[u])))) (as':=g.kid i) T (t.nx.trans n1).toNs n k1
  (λa ne=>aj λz=>ne #[_,_,n,k1,.inr (z▸l2)]) (λa o e=>by
   by_cases hz:a=f
   .subst hz;show#[_,aw]
   .rw[aj hz];show#[o,e])
  (λmv=>#[Y,by rw[aj (uv JI)];show k2,k3,k4,k5,cf.UI (T.dd.kd i _ _ n k1),l6 _ _ _ mv aw ((l5.mv mv).snoc (m.mv mv)) λb _ ne=>aj ne])
  (λa G=>.inl G)
 have z:=q _ rfl JC n2 (Kept.of (t'.hσ.trans t.hσ));rw[<-t'.hσ];show z
end
section
def zJ{st:aB}(h:W (UL u) st Q):∃ks us,u=.Jc ks us/\Q () st:=by
 cases u<;>first|show(bB.mp h).elim|skip
 show#[_,_,rfl,ak.mp h]
def ou{st:aB}(h:W (xC x) st Q):∃j,x.2=.int j/\Q j st:=by
 unfold xC at h;split at h
 .rename_i y e;rw[ak]at h;show#[y,e,h]
 .show(bB.mp h).elim
def ox{st:aB}(h:W (rF i) st Q):∃k us,k.root=b5/\st[i]?=a0 (a0 (k,.lst us))/\Q us st:=by
 have(r,st',e,q):=h;unfold rF at e;split at e
 .rename_i k us hs;split at e
  .rename_i hk;cases e;show#[k,_,hk,hs,q]
  .cases e
 .cases e
theorem rN:∀{ks:List Str}{us:List U},y∈ks->ks.length=us.length->cJ ks us y=bD->False
 |[],us,h,_,_=>by cases h
 |k::ks,[],_,h,_=>by simp at h
 |k::ks,u::us,h,hl,e=>by
  by_cases hk:k=y
  .simp[cJ,hk]at e
  .simp only[cJ,Ϧ hk]at e;rcases fR.mp h with h|h
   .show hk h.symm
   .show rN h (by simpa using hl) e
def zK{i:Nat}{x:Str}{G:Pos}(hu:X.A.units+60<K7)(hN:X.N[i]?=a0 x)(hv:K4 X.env.scope x)(hd:(x==("__debug__":Str))=cb)(JP:(x==("__classdict__":Str))=cb)
  (ha:PE X a (Jm C ma)) (hb:PE X b (Jm C mb)) (hm:M2 X (.Name x G) "get" e a b F') :
  PE X (.Call (.Attribute (.Name x G) "get" e) [a,b] [] F') (Jm C (dF i >>= λx=>UL x.2 >>= λ_=>ma >>= λy=>kG y >>= λy=>mb >>= λz=>lift z >>= λu=>dF i >>= λx=>M.JA (B4 x y u))):=by
 rintro f s σ H Q I ⟨c0,rfl,rfl,p,h⟩;show yD ⋯ (cD hN hv hd JP) ha hb hm f s c0.σ c0.H Q I ?_;rw[ah]at h;have(k0,u0,Vi,Kr,h):=dR h;have(v0,J,t0):=p.slot Vi Kr;rw[ah]at h;have(Sd,Vf,L,h'):=zJ h
 dsimp only at L
 subst L;have(B,OT,rfl,g0,_):=t0.dict p;show#[.ref B,J,B,rfl,.inl #[OT,.inl g0],?_];show ba p h' λry c vy t w=>?_;rw[ah]at w;have(ky,uy):=ry;have(y,O,w1):=gJ w
 dsimp only at O
 subst O;have ev:vy=.str y:=t.rx.str t.ok;subst ev;rw[<-t.hσ];show ba t.ok w1 λz g vz j T=>?_;rw[ah]at T;have(S',st',u,sS,D,n1,l,Y,_,_):=iY t.ok j.ok j.nx j.rx.w T;rw[ah]at Y;have(k,u1,ZE,K5,w5):=dR Y;have(r,d,q):=bR.mp w5;have(v1,e1,t1):=D.slot ZE K5;have J0:g.σ[i]?=a0 (a0 v1):=e1;rw[j.hσ,t.hσ,J]at J0;cases J0;cases u1<;>first|(simp only[B4]at d;cases d;done)|skip
 rename_i ks us;have(a1,kvs,ea,g1,g2,g3):=t1.dict D;cases ea;have Sf:g.H B=a0 (.dK kvs):=g1;show#[_,eG.k (k:=nz y) Sf,?_];simp only[B4]at d;have(l1,l2):=da (x:=y) g2 g3;have m:∀v:V,aP C c0 {g with S:=S',st:=st' } r.1 r.2 v->Q v g.H:=λv z=>q {g with S:=S',st:=st' } v (j.hσ.trans t.hσ) rfl D (t.nx.trans n1) z;cases o:cJ ks us y with
 |some w =>
  rw[o]at d;cases d;have(v,ev,rv):=l1 w o;rw[ev];show m v ?_;show aP.item (k:=if k.root=b5 then .bor i else k) rv
 |none =>
  rw[o]at d;cases d;have MV:dM kvs (nz y)=bD:=by
   cases hq:dM kvs (nz y) with
   |none=>rfl
   |some v =>
    exfalso
    rw[hq]at l2;have hy:y∈ks:=by simpa using l2.symm
    have n:ks.length=us.length:=by have h1:=ϩ DD g2;have h2:=g3.len;simp at h1 h2;lia
    show rN hy n o
  rw[MV];show m vz l
def zL:Gr X (λo i H Q=>∃p xs j v,o=.ref p/\i=.int j/\H p=a0 (.lst xs)/\0<=j/\xs[j.toNat]?=a0 v/\Q v H):=by
 rintro a s σ H o i k l Q I c d ⟨p,xs,j,v,rfl,rfl,e,f,b,q⟩;cases c;have(t,rfl):=d;have(its,r,pl,hz):=I.list (.inl (.inl e));have(w,g,h):=r.get b;have hl:=r.length;have m:=fe;have n:=(et.mp b).1;show wpAny_getItem_list pl.isList f ⋯ (by simpa using g) #[v,H,I,h,q]
def CD:Ru X (if sub=b5 then .Sub else .Add) (SR (xD sub)):=by
 cases sub with
 |true=>show Ec
 |false=>show Eb
def He(hN:X.N[i]?=a0 x)(hv:K4 X.env.scope x)(hd:(x==("__debug__":Str))=cb)(JP:(x==("__classdict__":Str))=cb)
  (ha:PE X a (zH C ma)) (hb:PE X b (Jm C mb))
  (n:∀g l new,Ϟ b g l new=(do O3 [new,g,l] (XE g l new);É [new,g,l] [];pure .next)) :
  L2.PS X (.AugAssign (.Subscript (.Name x px) b p) (if sub=b5 then .Sub else .Add) a pos) (Ki C ns (rF i >>= λ_=>mb >>= λy=>xC y >>= λj=>rF i >>= λus=>M.JA (rG us j) >>= λo=>ma >>= λz=>xC z >>= λw=>modS i (dG (.int j) (.int (xD sub o w))) >>= λ_=>pure .nx)):=by
 show PS.weak (Bi (cD hN hv hd JP) hb zL ha CD set_list n) ?_;rintro D σ H ⟨c0,rfl,rfl,v,h⟩;rw[ah]at h;have(k0,Vf,Q6,Kr,h):=ox h;have(v0,r,L0):=v.sl i _ _ Kr;have(e,rfl,_,_,_,_):=L0.rt Q6;show#[.ref e,r,?_];show ba v h λry c vy t w=>?_;rw[ah]at w;have(ky,uy):=ry;have(j,A,B):=ou w
 dsimp only at A
 subst A;have ev:vy=.int j:=t.rx.int t.ok;subst ev;rw[ah]at B;have(k1,ab,Ut,K5,G):=ox B;rw[ah]at G;have(o,ho,w3):=bR.mp G;have(v1,I,ZF):=t.ok.sl i _ _ K5;have(a1,rfl,_,_,_,Q7):=ZF.rt Ut;rw[t.hσ,r]at I;cases I;have(vs,J,g2):=Q7;unfold rG at ho;split at ho
 case isFalse=>cases ho
 rename_i Qw;split at ho
 case h_2=>cases ho
 rename_i o' Vj;cases ho;have(vo,ZG,ZH):=g2.get Vj;have ZI:vo=.int o:=ZH;subst ZI;show#[e,vs,j,_,rfl,rfl,J,Qw,ZG,?_];rw[<-t.hσ];show xJ t.ok w3 λz s vz d all2 L=>?_;rw[ah]at L;have(kz,uz):=z;have(w,O,Q):=ou L
 dsimp only at O
 subst O;have ev:vz=.int w:=d.rx.int d.ok;subst ev;show#[o,w,rfl,rfl,?_];rw[ah]at Q;have(k,u1,u2,hk,T,f,q):=gH Q;rw[ak]at q;have(v2,u,UO):=d.ok.sl i _ _ T;have(a2,rfl,_,_,_,Q8):=UO.rt hk;have ZJ:=u;rw[d.hσ,t.hσ,r]at u;cases u;have Y:s.H e=a0 (.lst vs):=all2 _ _ J;cases u1 with
 |lst xs =>
  simp only[dG,ez]at f;have(m,RF,rfl):=f;have(ac,l1,l2):=Q8;rw[Y]at l1;cases l1;show#[e,vs,j,m,rfl,rfl,Y,by rw[<-l2.len];show RF,?_];have(LK,n3):=Ok.mod (c:=s) (H':=upd s.H e (.lst (vs.set m (.int (xD sub o w))))) (u':=.lst (xs.set m (.int (xD sub o w)))) d.ok (t.nx.trans d.nx).toNs hk T ZJ (λa ne=>aj ne) ⟨_,aw⟩ λmv=>#[_,aw,(l2.mv mv).set m rfl]
  have z:=q _ rfl LK n3 (Kept.of (d.hσ.trans t.hσ));rw[<-d.hσ];show z
 |Jc ks vs=>simp[dG]at f
 |J8 ks=>simp[dG,rowOf]at f
 |_=>simp[dG]at f
end
section
def CF{ks:List Str}(c:kvs.map (·.1)=ks.map nz)(d:kvs.map (·.2)=ns.map V.int):kvs=(ks.zip ns).map λp=>((nz p.1:Key),V.int p.2):=by
 induction kvs generalizing ks ns with
 |nil =>
  cases ks with
  |nil=>rfl
  |cons _ _=>cases c
 |cons kv kvs e =>
  cases ks with
  |nil=>cases c
  |cons k ks =>
   cases ns with
   |nil=>cases d
   |cons n ns =>
    have(a,b):=kv;simp only[eH,Ri]at c d;have(rfl,c):=c;have(rfl,d):=d;rw[e c d];rfl
theorem ai.of_map{S:gi->Prop}{f:α->U}{g:α->V}:∀{l:List α},(∀x∈l,Rep C S H (f x) (g x))->ai C S H (l.map f) (l.map g)
 |[],_=>rfl
 |x::l,h=>#[g x,l.map g,rfl,h x (by simp),ai.of_map λy a=>h y (by simp[a])]
def CG(Y:X.calm=b5)(hK:C.K=X.K)(hg:Gl X "sorted")(hm:X.mg "sorted"=bD)(hN:X.N[i]?=a0 x)(hv:K4 X.env.scope x)(hd:(x==("__debug__":Str))=cb)(JP:(x==("__classdict__":Str))=cb)(Jt:(b.endLine==l.line)=b5):
  PE X (.Call (.Name "sorted" p) [.Call (.Attribute (.Name x n) "items" b) [] [] l] [] pos) (Jm C (dF i >>= λx=>M.JA (zi x.2))):=by
 rintro f s σ H Q I ⟨c0,rfl,rfl,m,h⟩;show K1 (cU I hg hm (show H8 "sorted"=a0 (.builtin "sorted") by decide +kernel) ?_ (by decide +kernel) (by decide +kernel));rw[ah]at h;have(k0,u0,Vi,Kr,h):=dR h;have(v0,e0,t0):=m.slot Vi Kr;have(r,c,k):=bR.mp h
 dsimp only at c
 unfold zi at c;split at c
 rotate_left
 .cases c
 rename_i ks us;rw[nT]at c;have(ns,en,c):=c;split at c
 rotate_left
 .cases c
 rename_i Vk;cases c;have(Li,Jk,u):=Vk;have(d,kvs,rfl,B,Q6,D):=t0.dict m;rw[gf en]at D;have Vh:=CF Q6 (ai.ints D);subst Vh;have ek:((ks.zip ns).map (·.1))=ks:=Ő ⋯;have g:eW (hJ X.prog X.w) X.A (K6 (.Call (.Attribute (.Name x n) "items" b) [] [] l) X.env) (λv s1=>eW (hJ X.prog X.w) X.A (QI (.builtin "sorted") [v]) (EP X f c0.σ Q) X.xe s1) X.xe s:=by
  show Td rfl Jt (Jj (cD hN hv hd JP f s c0.σ c0.H (λv G=>v=.ref d/\G=c0.H) I ⟨_,e0,rfl,rfl⟩) λv s1 Vl=>?_);have(x1,G,J,r1,z1,z2):=Vl;subst z1 z2;cases(show v=hU d from r1);have(h1,h2):=pk (T:="dict") J (x:=.ref d) rfl (.inr (.inr (.inl #[rfl,.inl #[_,B]])));show#["dict","dict.items",PySem.F.plainAttrs_dict,PySem.F.slot_dict_items,PySem.F.type_dict_items,h1,h2,Kj rfl (PySem.evalArgs_none (pQ Y J B (by rw[ek];show Jk) (by rw[Sj];lia) λas L hl nd O hL=>?_))];have q:c0.H L=bD:=O L (by simp);have ZK:(as.zip ((ks.zip ns).map M7)).map (·.1)=as:=Ő (by rw[cK];lia);have ZL:∀p∈as.zip ((ks.zip ns).map M7),p.1∈as:=λp t=>(T7 t).1;have same:Er c0.H (upd (kD c0.H (as.zip ((ks.zip ns).map M7))) L (.lst ((eS ((ks.zip ns).map (·.1))).map λi=>V.ref (as.getD i 0)))):=λa o e=>by
   have n1:a≠L:=λy=>by rw[y,q]at e;cases e
   rw[aj n1,lU λp t y=>?_]
   .show e
   .have:=O p.1 (by simp[ZL p t]);rw[y,e]at this;cases this
  have(Ju,n'):=m.grow (S':=c0.S) same (λa z=>.inl z) λa z=>z;have(q1,q2,q3,q4,q5):=m.kF q;show k {c0 with H:=upd (kD c0.H (as.zip ((ks.zip ns).map M7))) L (.lst ((eS ((ks.zip ns).map (·.1))).map λi=>V.ref (as.getD i 0))),S:=c0.S} _ rfl rfl Ju n' ⟨L,rfl,q,q2,q5,_,aw,?_⟩;change ai C c0.S _ ((B3 (ks.zip ns)).map xA) _;unfold B3;rw[fx];show ai.of_map λj hj=>?_;have RF:j<(ks.zip ns).length:=by
   have:=Jl.mp ((cw _).mem_iff.mp hj);rw[cK]at this;show this
  have Uy:j<as.length:=by lia
  have e1:(ks.zip ns).getD j (vr,0)=(ks.zip ns)[j]:=(Ę _).symm;have e2:as.getD j 0=as[j]:=by simp[M0,Uy]
  change Rep C c0.S _ (xA ((ks.zip ns).getD j (vr,0))) (V.ref (as.getD j 0));rw[e1,e2];show#[as[j],M7 (ks.zip ns)[j],rfl,JH.of ?_,#[_,_,rfl,rfl,_,_,rfl,rfl,rfl]];have JI:as[j]≠L:=λy=>hL (by rw[<-y];simp);show(aj JI).trans (u6 (by rw[ZK];show nd) (vs:=M7 (ks.zip ns)[j]) ?_);show Xe.mpr #[j,by rw[Sj,cK];lia,?_];rw[List.getElem_zip,ő]
 have eb:M3 pos (mh [.Call (.Attribute (.Name x n) "items" b) [] [] l] X.env)=[(cb,K6 (.Call (.Attribute (.Name x n) "items" b) [] [] l) X.env)]:=rfl;have ZM:UQ pos (Qz [] X.env)=[]:=rfl;rw[eb,ZM];show pX g
end
section
def vt(f:X.calm=b5)(g:C.K=X.K)(i:Gl X "set")(j:X.mg "set"=bD)(m:PE X a (Jm C n))(hs:mh [a] X.env=[(cb,K6 a X.env)])(I:Inv X b c0.σ c0.H s)(r:Ok C c0)
  (h:W (n >>= λx=>M.JA (iV x.2) >>= k) c0.st u)
  (y:∀(S:gi) (o:Obj) (s1:gj) (D:List Str) (c:Cf),c.σ=c0.σ->Ok C c->Nx c0 c->s1.heap.get? S=a0 o->aU X.prog X.w s1.heap S (aJ X.w) D->Inv X ((S,o)::b) c.σ c.H s1->W (k D) c.st u->(∀q∈b,q.1≠S)->Q (.ref S) s1) :
  eW (hJ X.prog X.w) X.A (K6 (.Call (.Name "set" p) [a] [] pos) X.env) Q X.xe s:=by
 show K1 (cU I i j (show H8 "set"=a0 (.type "set") by decide +kernel) ?_ (by decide +kernel) (by decide +kernel));have B:M3 pos (mh [a] X.env)=[(cb,K6 a X.env)]:=by rw[hs];rfl
 have G:UQ pos (Qz [] X.env)=[]:=rfl;rw[B,G];show vm (one m I r h λx c vx v s2 t d rv w=>?_);rw[ah]at w;have(D,e,w):=bR.mp w;have(l,ys,rfl,J,L,rfl):=oo g t.ok t.rx e;cases rv;show tq f d J L λS o s1 hsz N O T=>y S o s1 _ c t.hσ t.ok t.nx N O T w λq Y z=>by
  have:=fS (d.pin q (qP _ Y)).1;rw[z]at this;show absurd (l' this hsz) (ve _)
def CH(t:X.calm=b5)(G:C.K=X.K)(J:Gl X (if ln=b5 then "len" else "sorted"))(L:X.mg (if ln=b5 then "len" else "sorted")=bD)(N:Gl X "set")(O:X.mg "set"=bD)(ha:PE X a (Jm C ma))(hb:PE X b (Jm C mb))(ZN:mh [a] X.env=[(cb,K6 a X.env)])(Nd:mh [b] X.env=[(cb,K6 b X.env)]):
  PE X (.Call (.Name (if ln=b5 then "len" else "sorted") p) [.BinOp (.Call (.Name "set" u) [a] [] z) .Sub (.Call (.Name "set" p2) [b] [] pos2) d] [] pos)
   (Jm C (ma >>= λx=>M.JA (iV x.2) >>= λd1=>mb >>= λy=>M.JA (iV y.2) >>= λd2=>M.JA (nE ln d1 d2))):=by
 rintro f s σ H Q I ⟨c0,rfl,rfl,ok,h⟩;have g:eW (hJ X.prog X.w) X.A (K6 (.BinOp (.Call (.Name "set" u) [a] [] z) .Sub (.Call (.Name "set" p2) [b] [] pos2) d) X.env) (λv s1=>eW (hJ X.prog X.w) X.A (QI (.builtin (if ln=b5 then "len" else "sorted")) [v]) (EP X f c0.σ Q) X.xe s1) X.xe s:=by
  show wpAny_BinOp (vt t G N O ha ZN I ok h λn o1 s1 D1 c1 ZO Jn ZP M5 ML I1 w1 Pf=>?_);show vt t G N O hb Nd I1 Jn w1 λS2 o2 s2 D2 j ZQ T ZR NM Ph B w2 Pc=>?_;have(r,m,k):=bR.mp w2;have Vm:=(B.pin (n,o1) (qP _ (by simp))).1;have Vn:aU X.prog X.w s2.heap n (aJ X.w) D1:=ML.at λo e=>by rw[M5]at e;cases e;show Vm
  have JI:n≠S2:=Pc (n,o1) (by simp);have nx:Nx c0 j:=ZP.trans ZR;have D:j.σ=c0.σ:=ZQ.trans ZO;have I3:Inv X f j.σ j.H s2:=B.d_ λq hq=>B.pin q (qP _ (by simp[hq]));unfold nE at m;split at m
  rotate_left
  .cases m
  rename_i i;show L2.BL JI Vn Ph i.1 i.2 λh' hk Y=>?_;have I4:Inv X f j.σ j.H {s2 with heap:=h' }:=I3.kept (t':=s2.toks) hk;rw[<-D];cases ln with
  |true =>
   cases m;show tf I4 Y (cn.flat (c:=j) k D T nx rfl)
  |false =>
   cases m;show g_ t I4 Y (YJ (qb _ _) i.1) λl hl=>cn.list (c:=j) k D T nx (ai.strs.mpr rfl) l hl
 have eb:M3 pos (mh [.BinOp (.Call (.Name "set" u) [a] [] z) .Sub (.Call (.Name "set" p2) [b] [] pos2) d] X.env)=[(cb,K6 (.BinOp (.Call (.Name "set" u) [a] [] z) .Sub (.Call (.Name "set" p2) [b] [] pos2) d) X.env)]:=rfl;have ek:UQ pos (Qz [] X.env)=[]:=rfl;cases ln with
 |true =>
  show K1 (cU I J L (show H8 "len"=a0 (.builtin "len") by decide +kernel) ?_ (by decide +kernel) (by decide +kernel));rw[eb,ek];show pX g
 |false =>
  show K1 (cU I J L (show H8 "sorted"=a0 (.builtin "sorted") by decide +kernel) ?_ (by decide +kernel) (by decide +kernel));rw[eb,ek];show pX g
end
section
def Ok.Hf(b:Ok C c)(m:c.st[i]?=a0 (a0 (.own,u)))(p:c.σ[i]?=a0 (a0 (.ref r))):Ok C {c with H:=upd c.H r o',st:=c.st.set i bD}/\Ns c {c with H:=upd c.H r o',st:=c.st.set i bD}/\¬({c with H:=upd c.H r o',st:=c.st.set i bD}:Cf).R r:=by
 have Kp:i<c.st.length:=(et.mp m).1;have x:c.R1 r:=#[i,.own,u,rfl,m,p]
 have(s,z2,z3,o,z4,z5):=b.root (.inl x);have J:C.H₀ r=bD:=by
  have(v,f,h,t,_,_,q,_):=b.sl i _ _ m;rw[p]at f;cases f;cases t;show q
 have l:∀(j:Nat) k w,(c.st.set i bD)[j]?=a0 (a0 (k,w))->j≠i/\c.st[j]?=a0 (a0 (k,w)):=λj k w e=>by
  by_cases A:j=i
  .subst A;rw[gs Kp]at e;cases e
  .rw[mA (uv A)]at e;show#[A,e]
 have b1:∀a,({c with H:=upd c.H r o',st:=c.st.set i bD}:Cf).R1 a->c.R1 a/\a≠r:=λa Js=>by
  have(j,k,w,hk,f,g):=Js;have(B,L):=l j k w f;show#[#[j,k,w,hk,L,g],λz=>?_];subst z;show B (b.inj j i k .own w u a hk rfl L m g p)
 have N:∀j a,({c with H:=upd c.H r o',st:=c.st.set i bD}:Cf).RD j a->c.RD j a:=λj a ⟨w,h,f,g,D⟩=>#[w,h,(l j _ w f).2,g,D]
 have O:∀j a,c.RD j a->a≠r:=λj a z e=>by subst e;show b.dd.d1 j a z x
 have G:∀S:gi->Prop,¬S r->Mv S c.H S (upd c.H r o'):=λS hS=>#[λa z=>z,λa d e tp=>by
  have:a≠r:=λz=>by subst z;rw[z4]at e;cases e;show z5 tp
  rw[aj this];show e,λa d z e=>by
  have:a≠r:=λy=>by subst y;show hS z
  rw[aj this];show e]
 have hP:¬PS C c.S r:=λz=>z.elim z2 s;show#[#[λa d e KJ=>?_,λa z=>?_,b.par,λa z=>?_,by simp[b.len],λj k w e=>?_,λj1 j2 k1 k2 w1 w2 h h1 h2 f g D e4=>b.inj j1 j2 k1 k2 w1 w2 h h1 h2 (l _ _ _ f).2 (l _ _ _ g).2 D e4,?_],#[λa d e hR=>?_,λa d e=>?_,λa z=>?_,λa z=>z,λa z=>.inl z],λz=>?_]
 .have:a≠r:=λy=>by subst y;rw[J]at e;cases e
  change upd c.H r o' a=_;rw[aj this];show b.same a d e KJ
 .have(n,d,I):=b.KU a z;have:a≠r:=λy=>by subst y;show s z
  show#[n,d,by change upd c.H r o' a=_;rw[aj this];show I]
 .have((d,n),ZS,I):=b.io a z;have:a≠r:=λy=>by subst y;rw[J]at n;cases n
  show#[#[d,n],ZS,by change upd c.H r o' a=_;rw[aj this];show I]
 .have(B,Q):=l j k w e;have(v,f,g):=b.sl j k w Q;show#[v,f,g.mv (G _ s) (G _ hP) λhk h t=>?_];have(PF,T,y1,_):=g.rt hk;rw[t]at T;cases T;have:h≠r:=λy=>by subst y;show B (b.inj j i k .own w u h hk rfl Q m (by rw[f,t]) p)
  show#[y1,λd q=>by change upd c.H r o' h=_;rw[aj this];show q]
 .show b.dd.of rfl (λj w e=>#[(l j _ w e).2,rfl]) (λa z=>.inl (b1 a z).1) (G _ s) λj a z=>#[(b.root (.inr #[j,z])).1,λd q=>by change upd c.H r o' a=_;rw[aj (O j a z)];show q]
 .have:a≠r:=λy=>by subst y;show hR (.inl x)
  change upd c.H r o' a=_;rw[aj this];show e
 .by_cases Y:a=r
  .subst Y;show#[o',aw]
  .show#[d,by change upd c.H r o' a=_;rw[aj Y];show e]
 .rcases z with z|⟨j,z⟩
  .show .inl (.inl (b1 a z).1)
  .show .inl (.inr #[j,N j a z])
 .rcases z with z|⟨j,z⟩
  .show(b1 r z).2 rfl
  .show O j r (N j r z) rfl
def zM(u:c.H r=a0 (.J_ o (.dK kvs)))(w:¬c.R r)(y:Ok C c)(hk:kvs.map (·.1)=ks.map nz)(z:ai C c.S c.H us (kvs.map (·.2))):Walk C c [] (gP (ks,us)) (QN r o kvs):=by
 intro b k n N hs;have l:=n.keep r _ u w;have m:=z.mv (y.mv n);have O:kvs.length=ks.length:=by rw[<-cK (f:=(·.1)),hk,cK]
 have Q:us.length=kvs.length:=by rw[m.len,cK]
 have T:(gP (ks,us)).length=kvs.length:=by
  unfold gP;rw[cK,Sj];change min ks.length us.length=_;lia
 show#[λi q d=>?_,λi a=>#[l,⋯]];unfold gP at d;rw[i5,ez]at d;have(p,A,rfl):=d;have(s,B):=VG.mp A;have(v,e,g):=m.get B;have a:i<kvs.length:=by
  have:i<ks.length:=(et.mp s).1;lia
 have D:kvs[i]?=a0 (nz p.1,v):=by
  rw[i5,pb a]at e;have h:(kvs.map (·.1))[i]?=(ks.map nz)[i]?:=by rw[hk]
  rw[i5,i5,pb a,s]at h;rw[pb a];simp only[Tw,R0]at h e;rw[<-h,<-e]
 show#[.inl rfl,#[l,a],λx H' j=>?_];have(q,G,rfl,j):=j;have I:=j _ _ D;subst I;have(J,t):=k.lay (o:=.tup [kV (nz p.1),v]) G;show#[{b with H:=upd b.H q (.tup [kV (nz p.1),v])},rfl,rfl,rfl,J,t,?_];have L:ai C b.S b.H [.str p.1,p.2] [kV (nz p.1),v]:=#[_,_,rfl,rfl,_,_,rfl,g,rfl]
 show#[q,_,rfl,JH.of aw,L.mv (k.mv t)]
def FC(A:X.N[i]?=a0 x)(B:K4 X.env.scope x)(G:(x==("__debug__":Str))=cb)(J:(x==("__classdict__":Str))=cb)(L:(g.endLine==O.line)=b5)
  (S:cO X N own scope) (T:X.calm=b5) (hl:own.length=2) (Y:∀D s H ex,PG (Ka X N scope D s H ex) (.Tuple es kx ps) (tG C b5 (hH own.length))) (he:∀D s H ex,PE (Ka X N scope D s H ex) elt (Jm C me)) :
  L2.PS X (.Return (a0 (.ListComp elt [⟨.Tuple es kx ps,.Call (.Attribute (.Name x px) "items" g) [] [] O,[],0⟩] scope pos)) ZT) (Ki C ns (rE i >>= λd=>bJ 2 b5 (pure b5) me [] (gP d) [] >>= λus=>retS (.own,.lst us))):=by
 show PS.weak (ym (EN (uS S T (zf A B G J L) Y (λD s H ex=>show M4 _ [] (Ku C (pure b5)) from λj s σ H Q I ⟨c0,f,e2,k,w⟩=>pC j s σ H Q I (by subst f e2;rw[ak]at w;show w c0 rfl rfl k (Nx.refl c0))) he))) ?_;rintro D σ H ⟨c0,rfl,rfl,k,h⟩;rw[ah]at h;have(d,st',e,h):=h;unfold rE at e;split at e
 rotate_left
 .cases e
 rename_i ks us l;cases e;have(v,f,r,er):=k.sl i _ _ l;subst er;have(kvs,t,g2,g3,g4,g5,g6):=k.dd.kd i _ r l f;show#[r,kvs,t,λo=>?_];have(Jn,n1):=Ok.Hd k (Nx.refl c0) #[_,_,rfl] l f;have Kp:i<c0.st.length:=(et.mp l).1;have(JC,n2,nR):=Ok.Hf (o':=.J_ o (.dK kvs)) Jn (i:=i) (u:=.Jc ks us) (r:=r) (by change(c0.st.set i _)[i]?=_;rw[gs Kp]) f;let b:Cf:={S:=λa=>c0.S a\/a∈c0.kid i,H:=upd c0.H r (.J_ o (.dK kvs)),σ:=c0.σ,st:=c0.st.set i bD,kid:=c0.kid}
 have QM:(c0.st.set i (a0 (Kd.own,U.Jc ks us))).set i bD=c0.st.set i bD:=by rw[List.set_set]
 have m:({ ({c0 with S:=λa=>c0.S a\/a∈c0.kid i,st:=c0.st.set i (a0 (.own,.Jc ks us))}:Cf) with H:=upd c0.H r (.J_ o (.dK kvs)),st:=(c0.st.set i (a0 (Kd.own,U.Jc ks us))).set i bD}:Cf)=b:=by rw[QM]
 have p:Ok C b:=m▸JC;have ZU:Ns c0 b:=n1.toNs.trans (m▸n2);have ZV:¬b.R r:=m▸nR;have Kz:ai C b.S b.H us (kvs.map (·.2)):=by
  rw[g3];have:=(dw.rep (S':=b.S) (λa=>.inl) (λa ha=>.inr ha) g6).mv (show Mv b.S c0.H b.S b.H from#[λa z=>z,λa ob q tp=>?_,λa ob z q=>?_])
  .show this
  .have:a≠r:=λy=>by subst y;rw[t]at q;cases q;show tp
   change upd c0.H r _ a=_;rw[aj this];show q
  .have:a≠r:=λy=>by
    subst y;rcases z with z|z
    .show(g5 a (by simp)).1 z
    .show(p6.mp g4).1 z
   change upd c0.H r _ a=_;rw[aj this];show q
 show#[r,o,kvs,f,aw,?_];rw[hl];show oq (c0:=b) (c1:=b) (rs:=[]) (xs:=gP (ks,us)) rfl p (Nx.refl b) (zM aw ZV p g2 Kz) ?_;rw[ah]at h;show h.mono λvs st2 w=>?_;rw[show retS (.own,.lst vs)=pure (.rt .own (.lst vs)) from rfl,ak]at w;rw[ak];intro c v hσ Jo JJ n rt;have(r0,e,h1,h2,h3,h4):=rt;show w c Jo JJ (ZU.trans n.toNs) (Kept.of hσ) v #[r0,e,(p.kF h1).1,h2,h3,h4]
end
section
variable{X:Cx}{C:Ct}{a:ro}{ma:M (Kd×U)}{apos F':Pos}{i:Nat}{x:Str}{px:Pos}
def Ok.Hg(b:Ok C c)(hk:k.root=b5)(hs:c.st[i]?=a0 (a0 (k,.lst us))):∃a vs,c.σ[i]?=a0 (a0 (.ref a))/\c.H a=a0 (.lst vs)/\ai C c.S c.H us vs:=by
 have(v,d,e):=b.sl i k _ hs;have(r,rfl,_,_,_,vs,f,g):=e.rt hk;show#[r,vs,d,f,g]
def Ok.out(f:Ok C c)(n:Nx c0 c)(p:c.σ=c0.σ)(hk:k.root=b5)(hs:c.st[i]?=a0 (a0 (k,.lst us)))(g:c.σ[i]?=a0 (a0 (.ref r)))(q:ai C c.S c.H us' b)(s:Rep C c.S c.H u v)(w:cn C c0 Q (.loc,u) (c.st.set i (a0 (k,.lst us')))):Q v (upd c.H r (.lst b)):=by
 have y:Mv c.S c.H c.S (upd c.H r (.lst b)):=by
  have(v',d,h):=f.sl i k _ hs;rw[g]at d;cases d;have(m,A,B,_,_,D):=h.rt hk;cases A;have(o,ho,G):=D.some;show#[λ_ z=>z,λa o' e t=>by rw[aj (λz=>by subst z;rw[ho]at e;cases e;show G t)];show e,λa o' z e=>by rw[aj (λI=>by subst I;show B z)];show e]
 have(J,L):=f.mod (H':=upd c.H r (.lst b)) (u':=.lst us') n.toNs hk hs g (λa N=>aj N) ⟨_,aw⟩ λO=>#[b,aw,q.mv O]
 have T:∀a,({c with H:=upd c.H r (.lst b),st:=c.st.set i (a0 (k,.lst us'))}:Cf).R4 a->c0.R4 a/\∀o,c0.H a=a0 o->upd c.H r (.lst b) a=a0 o:=λa Y=>by
  have(j,u',m,d,h,e3):=Y;have hj:j≠i:=λz=>by
   subst z;rw[gs (et.mp hs).1]at d;cases d;cases hk
  have J0:c.st[j]?=a0 (a0 (.G',u')):=by rw[<-d];show(mA (uv hj)).symm
  have l:c.RD j a:=#[u',m,J0,h,e3]
  have Uu:a≠r:=λz=>f.dd.d1 j a l (z▸⟨i,k,_,hk,hs,g⟩);show#[(n.dk a #[j,l]).1,λo e=>by rw[aj Uu];show(n.dk a #[j,l]).2 o e]
 show w {c with H:=upd c.H r (.lst b),st:=c.st.set i (a0 (k,.lst us'))} v p rfl J ⟨L,T⟩ (s.mv y)
def CI(g:X.N[i]?=a0 x)(j:K4 X.env.scope x)(l:(x==("__debug__":Str))=cb)(m:(x==("__classdict__":Str))=cb)(n:(apos.endLine==F'.line)=b5)(o:C.K=X.K):
  PE X (.Call (.Attribute (.Name x px) "pop" apos) [] [] F') (Jm C (zj i)):=by
 show PE.weak (El PySem.F.plainAttrs_list PySem.F.slot_list_pop PySem.F.type_list_pop En (cD g j l m) rfl n) ?_;rintro σ H Q ⟨c0,rfl,rfl,c,h⟩;have(r,st',e,w):=h;unfold zj at e;split at e
 .rename_i k us hs;split at e
  .rename_i hk;split at e
   .rename_i u q;cases e;have(p,vs,d,f,b):=c.Hg hk hs;have(v,s,t):=b.get q;have hl:=b.len;show#[_,d,.inl #[rfl,vs,o▸JG.of f],p,vs,v,rfl,rfl,f,by rw[<-hl];show s,?_];show c.out (Nx.refl c0) rfl hk hs d ?_ t w;rw[Ċ,Ċ,hl];show b.take _
   .cases e
  .cases e
 .cases e
end
@[reducible]def OX(P:B')(w:JT)(K:PySem.W.Frag)(H:Hp)(a IO:gi->Prop):Ct:=#[P,w,K,H,a,IO]
structure DC(C:Ct)(H H':Hp)(S':gi->Prop)(is:List Nat)(vs:List V)(ws:List U)(k:Kd)(u:U)(v:V):Prop where
 same:∀a o,H a=a0 o->¬C.IO a->H' a=a0 o
 new:∀a,S' a->H a=bD/\∃o,H' a=a0 o
 own:k=.own->∃r,v=.ref r/\H r=bD/\¬S' r/\dv C S' H' r u
 loc:k=.loc->Rep C S' H' u v
 len:ws.length=is.length
 Ml:∀(n i:Nat) (r:gi) (w:U),is[n]?=a0 i->vs[i]?=a0 (.ref r)->ws[n]?=a0 w->dv C S' H' r w
structure Hh(C:Ct)(H:Hp)(is:List Nat)(us:List U)(vs:List V):Prop where
 len:us.length=vs.length
 par:∀a,C.LX a->LY H a/\¬C.IO a
 W8:∀a,C.IO a->LY H a
 io:∀(i:Nat) (u:U),i∈is->us[i]?=a0 u->∃r,vs[i]?=a0 (.ref r)/\C.IO r/\dv C (λ_=>False) H r u
 any:∀(i:Nat) (u:U),i∉is->us[i]?=a0 u->∃v,vs[i]?=a0 v/\Rep C C.LX H u v
 inj:∀(i j:Nat) (r:gi),i∈is->j∈is->vs[i]?=a0 (.ref r)->vs[j]?=a0 (.ref r)->i=j
 Ml:∀a,C.IO a->∃i∈is,vs[i]?=a0 (.ref a)
abbrev W9(P:B')(w:JT)(K:PySem.W.Frag)(F:List U->Option (Ex (Kd×U)))(b:Nat)(is:List Nat):Sp:=λvs H Q _=>vs.length=b/\∃us k u ws a IO,F us=a0 (.ok (k,.tup (u::ws)))/\(k=.own\/k=.loc)/\Hh (OX P w K H a IO) H is us vs /\
 ∀v H' S',DC (OX P w K H a IO) H H' S' is vs ws k u v->Q v H'
section
end
section
end
structure Ck where
 fns:List Str
 gl:List (Str×U)
 Ml:List (Str×List Nat)
abbrev p5:U->U->Bool
 |.int i,.int j=>df (i=j)
 |.str x,.str y=>df (x=y)
 |.bl a,.bl b=>a==b
 |.Jp,.Jp=>b5
 |_,_=>cb
def cz(h:p5 u v=b5):u=v:=by
 cases u<;>cases v<;>simp[p5]at h<;>subst_vars<;>rfl
abbrev noStar:ro->Bool
 |.Starred _ _=>cb
 |_=>b5
abbrev eB:ro->Bool
 |.Slice _ _ _ _=>cb
 |_=>b5
abbrev tR:ro->Bool
 |.Set _ _ _=>cb
 |_=>b5
abbrev p_:ro->Bool
 |.Call (.Name _ _) [] [] _=>cb
 |_=>b5
abbrev eC:ro->Bool
 |.ListComp _ _ _ _=>cb
 |.SetComp _ _ _ _=>cb
 |.DictComp _ _ _ _ _=>cb
 |_=>b5
abbrev KY(a:P0)(x:Str):Bool:=df (a.names.lookup x=a0 .globalImplicit)
abbrev gQ(a:P0)(x:Str):Bool:=df (a.names.lookup x=a0 .local)||decide (a.names.lookup x=a0 .cell)||decide (a.names.lookup x=a0 .free)
abbrev qa(a:P0)(x:Str):Bool:=df (a.names.lookup x=a0 .local)||decide (a.names.lookup x=a0 .cell)
abbrev Hi(a:P0)(x:Str):Bool:=df (a.names.lookup x=a0 .local)
abbrev bZ(x:Str):Bool:=!(x==("__debug__":Str))&&!(x==("__classdict__":Str))
abbrev vv(N:List Str)(a:P0)(fa:Str->Bool)(i:Nat):ro->Bool
 |.Name x _=>df (N[i]?=a0 x)&&qa a x&&(fa x||Hi a x)
 |_=>cb
abbrev qc(N:List Str)(a:P0)(fa:Str->Bool):List Nat->List ro->Bool
 |[],[]=>b5
 |i::is,e::es=>vv N a fa i e&&qc N a fa is es
 |_,_=>cb
abbrev c8:ro->List Str
 |.Name x _=>[x]
 |.Tuple es _ _=>es.filterMap fun|.Name x _=>a0 x|_=>bD
 |_=>[]
abbrev hide(a N:List Str):List Str:=match a.filter λx=>df (x∈N) with
 |[]=>N
 |[x]=>N.set (N.idxOf x) "."
 |x::y::_=>(N.set (N.idxOf x) ".").set (N.idxOf y) ".."
abbrev PN(t:Bool)(N:List Str)(a:P0)(fa:Str->Bool)(is:List Nat):ro->Bool
 |.Name x p=>!t&&(match is with|[i]=>vv N a fa i (.Name x p)|_=>cb)
 |.Tuple es _ _=>t&&qc N a fa is es&&is.all λi=>df (i<N.length)
 |_=>cb
abbrev isTup:ro->Bool
 |.Tuple _ _ _=>b5
 |_=>cb
abbrev gm(e:ro):Option (Str×List ro):=match e with
 |.Call f as a _=>match f with
  |.Name x _=>if a.isEmpty=b5 then a0 (x,as) else bD
  |_=>bD
 |_=>bD
def dz(h:gm e=a0 (x,as)):∃p q,e=.Call (.Name x p) as [] q:=by
 unfold gm at h;split at h
 .split at h
  .split at h
   .rename_i hk;rw[KC]at hk;cases h;subst hk;show#[_,_,rfl]
   .cases h
  .cases h
 .cases h
abbrev zN(e:ro):Option ro:=match e with
 |.Call f as b q=>match f with
  |.Attribute a m p=>if b.isEmpty=b5/\as.isEmpty=b5/\m="items"/\(p.endLine==q.line)=b5/\((gm a).any λz=>!z.2.isEmpty)=b5 then a0 a else bD
  |_=>bD
 |_=>bD
def tS(h:zN e=a0 a):∃x p b as q p2 f,a=.Call (.Name x p) (b::as) [] q/\e=.Call (.Attribute a "items" p2) [] [] f/\(p2.endLine==f.line)=b5:=by
 unfold zN at h;split at h
 .split at h
  .split at h
   .rename_i hk;have(g,i,j,k,c):=hk;rw[KC]at g i;cases h;subst g i j;cases d:gm a with
    |none=>rw[d]at c;cases c
    |some z =>
     rw[d]at c;have(x,as):=z;have(p,q,rfl):=dz d;cases as with
     |nil=>cases c
     |cons b as=>show#[_,_,_,_,_,_,_,rfl,rfl,k]
   .cases h
  .cases h
 .cases h
abbrev gn(b:P0)(c:ro)(ik:Ik)(e:ro):Option (List ro):=match ik with
 |.seq=>a0 [e]
 |.JQ=>(gm e).bind λp=>if p.1="range"/\KY b p.1=b5/\p.2.length=1 then a0 p.2 else bD
 |.Nj=>(gm e).bind λp=>if p.1="enumerate"/\KY b p.1=b5/\p.2.length=1/\isTup c=b5 then a0 p.2 else bD
 |.zip=>(gm e).bind λp=>if p.1="zip"/\KY b p.1=b5/\p.2.length=2/\isTup c=b5 then a0 p.2 else bD
 |.rev=>(gm e).bind λp=>if p.1="reversed"/\KY b p.1=b5/\p.2.length=1 then a0 p.2 else bD
 |.Pw=>(zN e).bind λa=>if isTup c=b5 then a0 [a] else bD
 |_=>bD
abbrev simple:Bf->Bool:=λ_=>b5
abbrev zO(scope a:P0):P0:={scope with names:=scope.names.map λ(n,k)=>if (k==NA&&a.kind==.function&&a.names.lookup n==a0 .cell)=b5 then(n,.cell) else(n,k)}
abbrev bj(e:ro)(k:Str->Bool):Bool:=match e with|.Name x _=>k x|_=>cb
def ao(h:bj e k=b5):∃x p,e=.Name x p/\k x=b5:=by
 unfold bj at h;split at h
 .show#[_,_,rfl,h]
 .cases h
abbrev dA{α:Type}(l:List α)(k:α->Bool):Bool:=match l with|[a]=>k a|_=>cb
def bf(h:dA l k=b5):∃a,l=[a]/\k a=b5:=by
 unfold dA at h;split at h
 .show#[_,rfl,h]
 .cases h
abbrev dH(e:ro)(k:ro->List ro->Pos->Bool):Bool:=match e with|.Call f as a p=>a.isEmpty&&k f as p|_=>cb
def bh(h:dH e k=b5):∃f as p,e=.Call f as [] p/\k f as p=b5:=by
 unfold dH at h;split at h
 .rename_i f as a p;rw[du,KC]at h;have(rfl,h):=h;show#[_,_,_,rfl,h]
 .cases h
abbrev tT(e:ro)(k:ro->Str->Pos->Bool):Bool:=match e with|.Attribute o m p=>k o m p|_=>cb
def rO(h:tT e k=b5):∃o m p,e=.Attribute o m p/\k o m p=b5:=by
 unfold tT at h;split at h
 .show#[_,_,_,rfl,h]
 .cases h
abbrev vA(e:ro)(k:ro->ŝ->ro->Bool):Bool:=match e with|.BinOp a op b _=>k a op b|_=>cb
def mq(h:vA e k=b5):∃a op b p,e=.BinOp a op b p/\k a op b=b5:=by
 unfold vA at h;split at h
 .show#[_,_,_,_,rfl,h]
 .cases h
abbrev vB(e:ro)(k:ro->CmpOp->ro->Bool):Bool:=match e with|.Compare a ops c _=>dA ops λop=>dA c λb=>k a op b|_=>cb
def iy(h:vB e k=b5):∃a op b p,e=.Compare a [op] [b] p/\k a op b=b5:=by
 unfold vB at h;split at h
 .have(op,rfl,c):=bf h;have(b,rfl,d):=bf c;show#[_,_,_,_,rfl,d]
 .cases h
abbrev fm(e:ro)(k:ro->Str->Pos->List ro->Pos->Bool):Bool:=dH e λf as b=>tT f λo m a=>k o m a as b
def bV(h:fm e k=b5):∃o m a as b,e=.Call (.Attribute o m a) as [] b/\k o m a as b=b5:=by
 have(f,as,p,rfl,h):=bh h;have(o,m,q,rfl,h):=rO h;show#[_,_,_,_,_,rfl,h]
abbrev j_(e:ro)(k:ro->ro->Bool):Bool:=match e with|.Subscript a b _=>k a b|_=>cb
def dc(h:j_ e k=b5):∃a b p,e=.Subscript a b p/\k a b=b5:=by
 unfold j_ at h;split at h
 .show#[_,_,_,rfl,h]
 .cases h
abbrev W_:E->Bool
 |.var _=>b5
 |.cst _=>b5
 |_=>cb
abbrev vC{α:Type}(l:List α)(k:α->α->Bool):Bool:=match l with|[a,b]=>k a b|_=>cb
def iz(h:vC l k=b5):∃a b,l=[a,b]/\k a b=b5:=by
 unfold vC at h;split at h
 .show#[_,_,rfl,h]
 .cases h
abbrev vD(e:ro)(k:Const->Bool):Bool:=match e with|.Constant c _ _=>k c|_=>cb
def iA(h:vD e k=b5):∃c q p,e=.Constant c q p/\k c=b5:=by
 unfold vD at h;split at h
 .show#[_,_,_,rfl,h]
 .cases h
abbrev IT:Const->Option U
 |.int j=>a0 (.int j)
 |.str y=>a0 (.str y)
 |.bool y=>a0 (.bl y)
 |.none=>a0 .Jp
 |_=>bD
abbrev IU(u:U)(c:Const):Bool:=match IT c with|some v=>p5 u v|none=>cb
abbrev CJ(e:ro)(op:BoolOp)(k:List ro->Bool):Bool:=match e with|.BoolOp o es _=>df (o=op)&&k es|_=>cb
def jE(h:CJ e op k=b5):∃es p,e=.BoolOp op es p/\k es=b5:=by
 unfold CJ at h;split at h
 .rw[du,Ϥ]at h;have(rfl,h):=h;show#[_,_,rfl,h]
 .cases h
abbrev CK(e:ro)(op:UnaryOp)(k:ro->Bool):Bool:=match e with|.UnaryOp o a _=>df (o=op)&&k a|_=>cb
def jF(h:CK e op k=b5):∃a p,e=.UnaryOp op a p/\k a=b5:=by
 unfold CK at h;split at h
 .rw[du,Ϥ]at h;have(rfl,h):=h;show#[_,_,rfl,h]
 .cases h
abbrev zP(e:ro)(k:List ro->Bool):Bool:=match e with|.Tuple l _ _=>k l|_=>cb
def tU(h:zP e k=b5):∃l q p,e=.Tuple l q p/\k l=b5:=by
 unfold zP at h;split at h
 .show#[_,_,_,rfl,h]
 .cases h
abbrev zQ(e:ro)(k:List ro->Bool):Bool:=match e with|.List l _=>k l|_=>cb
def tV(h:zQ e k=b5):∃l p,e=.List l p/\k l=b5:=by
 unfold zQ at h;split at h
 .show#[_,_,rfl,h]
 .cases h
abbrev CL(e:ro):Bool:=match e with|.Dict a b _=>a.isEmpty&&b.isEmpty|_=>cb
def oy(h:CL e=b5):∃p,e=.Dict [] [] p:=by
 unfold CL at h;split at h
 .rw[du,KC,KC]at h;have(rfl,rfl):=h;show#[_,rfl]
 .cases h
abbrev FD(e:ro)(k:ro->ro->Bool):Bool:=match e with|.Dict ks vs _=>dA ks (λx=>match x with|some a=>dA vs (k a)|none=>cb)|_=>cb
def xK(h:FD e k=b5):∃a b p,e=.Dict [a0 a] [b] p/\k a b=b5:=by
 unfold FD at h;split at h
 .have(x,rfl,z):=bf h;split at z
  .have(b,rfl,z):=bf z;show#[_,_,_,rfl,z]
  .cases z
 .cases h
abbrev zR(e:ro)(k:Option ro->Option ro->Bool):Bool:=match e with|.Slice a b c _=>c.isNone&&k a b|_=>cb
def tW(h:zR e k=b5):∃a b p,e=.Slice a b bD p/\k a b=b5:=by
 unfold zR at h;split at h
 .rw[du,U1]at h;have(rfl,h):=h;show#[_,_,_,rfl,h]
 .cases h
abbrev FE(e:ro)(k:ro->ro->ro->List ro->P0->Bool):Bool:=match e with|.ListComp elt a b _=>dA a λg=>df (g.is_async=0)&&k elt g.target g.iter g.ifs b|_=>cb
def jG(h:FE e k=b5):∃elt d a b f p,e=.ListComp elt [⟨d,a,b,0⟩] f p/\k elt d a b f=b5:=by
 unfold FE at h;split at h
 .have((d,a,b,z),rfl,c):=bf h;rw[du,Ϥ]at c;have(rfl,c):=c;show#[_,_,_,_,_,_,rfl,c]
 .cases h
mutual
noncomputable def bO(k:Ck):E->List Str->P0->ro->Bool
 |.var i,N,g,h=>bj h λx=>df (N[i]?=a0 x)&&gQ g x&&bZ x
 |.cst u,N,g,h=>vD h λc=>IU u c
 |.Px x u,N,g,h=>bj h λy=>df (x=y)&&KY g x&&bZ x&&k.gl.any λp=>df (p.1=x)&&p5 p.2 u
 |.bin op a b,N,g,h=>vA h λa' z q=>df (op.op=z)&&bO k a N g a'&&bO k b N g q
 |.cmp op a b,N,g,h=>vB h λa' z q=>df (op.op=z)&&!UB z q&&bO k a N g a'&&bO k b N g q
 |.MQ _ _ _ _ _,_,_,_=>cb
 |.and es,N,g,h=>CJ h .And λs=>a9 k es N g s
 |.or es,N,g,h=>CJ h .Or λs=>a9 k es N g s
 |.not a,N,g,h=>CK h .Not λa'=>bO k a N g a'
 |.ite _ _ _,_,_,_=>cb
 |.neg a,N,g,h=>CK h .USub λa'=>bO k a N g a'
 |.bad,_,_,_=>b5
 |.PB i,N,g,h=>FD h λa' q=>bj a' λx=>vD q λc=>df (c=.bool b5)&&df (N[i]?=a0 x)&&gQ g x&&bZ x
 |.pop i,N,g,h=>fm h λo m j as A=>bj o λx=>as.isEmpty&&df (m="pop")&&df (N[i]?=a0 x)&&gQ g x&&bZ x&&(j.endLine==A.line)
 |.Nk _ _,_,_,_=>cb
 |.inD neg a i,N,g,h=>vB h λa' z q=>bj q λx=>df (Fx neg=z)&&!UB z q&&df (N[i]?=a0 x)&&gQ g x&&bZ x&&bO k a N g a'
 |.Py i,N,g,h=>bj h λx=>df (N[i]?=a0 x)&&gQ g x&&bZ x
 |.LG i a b,N,g,h=>fm h λo m j as A=>bj o λx=>vC as λa' q=>df (m="get")&&df (N[i]?=a0 x)&&gQ g x&&bZ x&&(j.endLine==A.line)&&noStar a'&&noStar q&&bO k a N g a'&&bO k b N g q
 |.Pz i,N,g,h=>dH h λf' as _=>bj f' λf=>dA as λc=>fm c λo m j C A=>bj o λx=>C.isEmpty&&df (f="sorted")&&KY g f&&df (m="items")&&df (N[i]?=a0 x)&&gQ g x&&bZ x&&(j.endLine==A.line)
 |.OH ln a b,N,g,h=>dH h λf' as _=>bj f' λf=>dA as λd=>vA d λl op r=>dH l λD G _=>bj D λH=>dA G λa'=>dH r λI J _=>bj I λL=>dA J λq =>
  df (f=(if ln=b5 then("len":Str) else "sorted"))&&df (H="set")&&df (L="set")&&df (op=.Sub)&&KY g f&&KY g "set"&&noStar a'&&noStar q&&bO k a N g a'&&bO k b N g q
 |.fst es,N,g,h=>cb
 |.NY a T,N,g,h=>dH h λf' as _=>bj f' λx=>vC as λa' q=>bj q λy=>df (x="isinstance")&&df (y=T.name)&&KY g x&&KY g y&&noStar a'&&bO k a N g a'
 |.tup es,N,g,h=>zP h λs=>a9 k es N g s
 |.lst es,N,g,h=>zQ h λs=>a9 k es N g s
 |.KD _,N,g,h=>CL h
 |.idx a b,N,g,h=>j_ h λa' q=>eB q&&bO k a N g a'&&bO k b N g q
 |.NX a lo O,N,g,h=>j_ h λa' q=>zR q λQ Y=>bO k a N g a'&&tX k lo N g Q&&tX k O N g Y
 |.bi f es,N,g,h=>dH h λf' s _=>bj f' λx=>df (x=f.name)&&simple f&&KY g x&&!s.isEmpty&&a9 k es N g s
 |.MR f es,N,g,h=>dH h λf' as _=>bj f' λx=>dA as λc=>dH c λg' s _=>bj g' λy=>df (x=f.pW)&&df (y=f.ja)&&KY g x&&KY g y&&!s.isEmpty&&a9 k es N g s
 |.MS m a es,N,g,h=>fm h λo name j s A=>df (name=m.name)&&p_ o&&(j.endLine==A.line)&&!s.isEmpty&&df (s.length<20)&&bO k a N g o&&a9 k es N g s
 |.call f es,N,g,h=>dH h λf' s _=>bj f' λx=>df (x=f)&&df (f∈k.fns)&&KY g x&&bZ x&&!s.isEmpty&&a9 k es N g s
 |.comp n t ik src cond e,N,g,h=>FE h λelt v w B scope =>
   df ((c8 v).length=n)&&BE (c8 v++hide (c8 v) N) (c8 v) scope g.names&&PN t (c8 v++hide (c8 v) N) (zO scope g) (λx=>df (scope.names.lookup x=a0 .cell)) (hH n) v&&tR w &&
   (match gn g v ik w with
    |some as=>a9 k src N g as
    |none=>cb) &&
   df (B.length<=1)&&a9 k cond (c8 v++hide (c8 v) N) (zO scope g) B&&bO k e (c8 v++hide (c8 v) N) (zO scope g) elt
noncomputable def a9(k:Ck):List E->List Str->P0->List ro->Bool
 |[],_,_,a=>a.isEmpty
 |e::es,N,b,a=>match a with
  |e'::a=>noStar e'&&bO k e N b e'&&a9 k es N b a
  |[]=>cb
noncomputable def tX(k:Ck):List E->List Str->P0->Option ro->Bool
 |[],_,_,o=>o.isNone
 |[e],N,a,o=>match o with
  |some b=>bO k e N a b
  |none=>cb
 |_::_::_,_,_,_=>cb
end
abbrev bS:List Str:=["len","sorted","repr","max","min","all","any","list","tuple","str","int","range","enumerate","zip","reversed","set","dict","sum","isinstance","bool"]
structure CM(P:B')(w:JT)(K:PySem.W.Frag)(mg:Str->Option dV)(base:Mt)(d:Nat)(F:List U->Option (Ex (Kd×U)))(f:Str):Prop where
 ex:∃(np:Nat) (fa:gi) (fd:Wc) (ps:List Str),ni P w K mg base ME d fa fd ps (spT P w K F np)/\mg f=a0 (.ref fa)/\PySem.W.keepIn K (.ref fa)=b5/\Binds K fd ps []/\∀us k u,F us=a0 (.ok (k,u))->(k=.own\/k=.loc\/k=.any)/\us.length=np
structure CN(P:B')(w:JT)(K:PySem.W.Frag)(mg:Str->Option dV)(base:Mt)(d:Nat)(F:List U->Option (Ex (Kd×U)))(f:Str)(is:List Nat):Prop where
 ex:∃(np:Nat) (fa:gi) (fd:Wc) (ps:List Str),ni P w K mg base ME d fa fd ps (W9 P w K F np is)/\mg f=a0 (.ref fa)/\PySem.W.keepIn K (.ref fa)=b5/\Binds K fd ps []/\∀us r,F us=a0 (.ok r)->us.length=np
structure ZX(ck:Ck)(Γ:Tab)(P:B')(w:JT)(K:PySem.W.Frag)(mg:Str->Option dV)(base:Mt)(d:Nat):Prop where
 f:∀p∈ck.Ml,CN P w K mg base d (Γ p.1) p.1 p.2
structure Gd(ck:Ck)(Γ:Tab)(C:Ct)(d:Nat)(X:Cx):Prop where
 P:C.P=X.prog
 w:C.w=X.w
 K:C.K=X.K
 u:X.A.units+60<K7
 calm:X.calm=b5
 room:ic d X.A
 blt:∀x∈bS,X.mg x=bD
 fns:∀f∈ck.fns,CM X.prog X.w X.K X.mg X.base d (Γ f) f
 Mm:∀p∈ck.gl,∃val v,X.mg p.1=a0 val/\RelV v val/\∀S H,Rep C S H p.2 v
 Ml:ZX ck Γ X.prog X.w X.K X.mg X.base d
def Gd.cx(g:Gd ck Γ C d X)(N:List Str)(a:P0)(D:gi)(s:gj)(H:Hp)(ex:List gi):Gd ck Γ C d (Ka X N a D s H ex) :=
 #[g.P,g.w,g.K,g.u,g.calm,g.room,g.blt,g.fns,g.Mm,g.Ml]
def cE(h:gQ a x=b5):K4 a x:=by
 unfold gQ at h;simp only[Sn,Ϥ]at h;rcases h with(h|h)|h
 .show .inl h
 .show .inr (.inl h)
 .show .inr (.inr h)
def aW(h:bZ x=b5):(x==("__debug__":Str))=cb/\(x==("__classdict__":Str))=cb:=by
 unfold bZ at h;simpa using h
def bu(h:noStar e=b5):mh (e::es) env=(cb,K6 e env)::mh es env:=by
 cases e<;>first|rfl|cases h
def rP(h:eB e=b5):ph e:=by
 intro o i;cases e<;>first|rfl|cases h
def tY(h:tR e=b5):∀x,O6 e env x=pure x:=by
 intro x;cases e<;>first|rfl|cases h
def kQ(h:p_ o=b5):SN o name env a=a:=by
 cases o with
 |Call f as ks p =>
  cases f with
  |Name x q=>cases as with
   |nil=>cases ks with
    |nil=>cases h
    |cons _ _=>rfl
   |cons _ _=>rfl
  |_=>rfl
 |_=>rfl
def b7(h:∀e∈es,noStar e=b5):(M3 pos (mh es env)).any (·.1)=cb/\(M3 pos (mh es env)).all (λx=>!x.1)=b5:=by
 induction es with
 |nil=>show#[rfl,rfl]
 |cons e es a =>
  rw[bu (h e (by simp))];have:=a λb c=>h b (by simp[c]);constructor
  .change(cb||(M3 pos (mh es env)).any (·.1))=cb;rw[this.1];rfl
  .change(!cb&&(M3 pos (mh es env)).all (λx=>!x.1))=b5;rw[this.2];rfl
def dS(h:a9 k es N c a=b5):∀e∈a,noStar e=b5:=by
 induction es generalizing a with
 |nil =>
  cases a with
  |nil=>intro e he;cases he
  |cons _ _=>simp[a9]at h
 |cons x es b =>
  cases a with
  |nil=>intro e he;cases he
  |cons d a =>
   simp only[a9,du]at h;intro e he;rcases fR.mp he with rfl|he
   .show h.1.1
   .show b h.2 e he
def oz(a:∀x,fa x=b5->X.fn x=b5)(h:vv X.N X.env.scope fa i e=b5):tL X e i:=by
 cases e with
 |Name x p =>
  simp only[vv,du,Ϥ,qa,Sn,Hi]at h;show#[x,p,rfl,h.1.1,?_,?_]
  .rcases h.1.2 with z|z
   .show .inl z
   .show .inr z
  .rcases h.2 with z|z
   .show .inl (a x z)
   .show .inr z
 |_=>cases h
theorem mr(a:∀x,fa x=b5->X.fn x=b5):∀{is:List Nat}{es:List ro},qc X.N X.env.scope fa is es=b5->fj X es is
 |[],[],_=>.nil
 |[],_::_,h=>by cases h
 |_::_,[],h=>by cases h
 |i::is,e::es,h=>by
  simp only[qc,du]at h;show .cons (oz a h.1) (mr a h.2)
def vE(d:X.calm=b5)(e:C.K=X.K)(a:X.N.Nodup)(b:∀x,fa x=b5->X.fn x=b5)(h:PN t X.N X.env.scope fa is c=b5):PG X c (tG C t is):=by
 cases c with
 |Name x p =>
  simp only[PN,du,LB]at h;have(rfl,h):=h;cases is with
  |nil=>cases h
  |cons i is=>cases is with
   |nil=>show Ft a (oz b h)
   |cons _ _=>cases h
 |Tuple es k p =>
  simp only[PN,du,oT,Ϥ]at h;have((rfl,f),g):=h;show G2 d e a (mr b f) g
 |_=>cases h
def jH(a N:List Str):eI ((a++hide a N).drop a.length) N:=by
 rw[Á rfl];unfold hide;split
 .show .refl N
 .show(eI.refl N).set _ (.inl rfl)
 .show((eI.refl N).set _ (.inl rfl)).set _ (.inr rfl)
abbrev Bf.isB:Bf->Bool
 |.sum=>b5
 |.len=>b5|.sorted=>b5|.repr=>b5|.max=>b5|.min=>b5|.all=>b5|.any=>b5|_=>cb
abbrev Bf.id:Bf->String
 |.len=>"len"|.sorted=>"sorted"|.repr=>"repr"|.max=>"max"|.min=>"min"|.all=>"all"|.any=>"any"
 |.list=>"list"|.tuple=>"tuple"|.str=>"str"|.int=>"int"
 |.dict=>"dict"
 |.sum=>"sum"
def CO:∀f:Bf,simple f=b5->H8 f.name=a0 f.val/\f.name∈bS/\f.name≠"__name__"/\(f.name==("__debug__":Str))=cb:=by
 intro f h;cases f<;>first|show⟨by decide +kernel,by decide +kernel,by decide +kernel,by decide +kernel⟩|(cases h;done)
def FF:∀f:Bf,simple f=b5->(f.val=.builtin f.id\/f.val=.type f.id):=by
 intro f h;cases f<;>first|show .inl rfl|show .inr rfl|(cases h;done)
def FG:∀f:B2,f.pW∈bS/\f.ja∈bS:=by
 intro f;cases f<;>show#[by decide +kernel,by decide +kernel]
def CP:∀f:Mf,Slot "str" f.name f.id/\ž (.builtin f.id)=pure (.type "method_descriptor"):=by
 intro f;cases f with
 |split=>show#[PySem.F.slot_str_split,PySem.F.type_str_split]
 |join=>show#[PySem.F.slot_str_join,PySem.F.type_str_join]
 |partition=>show#[PySem.F.slot_str_partition,PySem.F.type_str_partition]
 |endswith=>show#[PySem.F.slot_str_endswith,PySem.F.type_str_endswith]
section
def dB(h:KY X.env.scope x=b5):Gl X x:=by
 unfold KY at h;change X.env.kindOf x=a0 .globalImplicit;show Ϫ h
def CQ:("enumerate":Str)∈bS:=by decide +kernel
def rQ:("isinstance":Str)∈bS:=by decide +kernel
def zS(T:Ni):T.name∈bS:=by cases T<;>decide +kernel
def CS:("range":Str)∈bS:=by decide +kernel
def DE(g:Gd ck Γ C d X)(h:gn X.env.scope n ik k=a0 as)(o:PA X as (KH C (b_ Γ src)))(t:∀a,as=[a]->∃e,src=[e]/\PE X a (Jm C (ev Γ e)))(l:∀e∈as,noStar e=b5):PI X n k (Mj C ik (b_ Γ src)):=by
 unfold gn at h;split at h
 .cases h;have(e,rfl,s):=t _ rfl;show Fm g.K s
 .rw[nT]at h;have((x,j),i,h):=h;split at h
  .rename_i hh;cases h;have(c,f,hl):=hh
   dsimp only at c f hl
   subst c;have(p,q,rfl):=dz i;have(b,rfl):=Wv.mp hl;show Cy (dB f) (g.blt _ CS) (bu (l _ (by simp))) o
  .cases h
 .rw[nT]at h;have((x,j),i,h):=h;split at h
  .rename_i hh;cases h;have(c,f,hl,m):=hh
   dsimp only at c f hl
   subst c;have(p,q,rfl):=dz i;have(b,rfl):=Wv.mp hl;cases n with
   |Tuple es u ps=>show Fo g.K (dB f) (g.blt _ CQ) (bu (l _ (by simp))) o
   |_=>cases m
  .cases h
 .rw[nT]at h;have((x,j),i,h):=h;split at h
  .rename_i hh;cases h;have(c,f,hl,m):=hh
   dsimp only at c f hl
   subst c;have(p,q,rfl):=dz i;obtain⟨b,r,rfl⟩:∃b r,j=[b,r]:=by match j,hl with|[b,r],_=>show#[b,r,rfl]
   have s1:=bu (env:=X.env) (es:=[]) (l _ (show _∈[_,_] from nC _ k7));cases n with
   |Tuple es u ps=>show Fp g.K (dB f) (g.blt _ (by decide +kernel)) (bu (l _ k7)) (by rw[s1];rfl) o
   |_=>cases m
  .cases h
 .rw[nT]at h;have((x,j),i,h):=h;split at h
  .rename_i hh;cases h;have(c,f,hl):=hh
   dsimp only at c f hl
   subst c;have(p,q,rfl):=dz i;have(b,rfl):=Wv.mp hl;show Fq g.calm g.K (dB f) (g.blt _ (by decide +kernel)) (bu (l _ (by simp))) o
  .cases h
 .rw[nT]at h;have(a,i,h):=h;split at h
  .rename_i m;cases h;have(e,rfl,s):=t _ rfl;have(x,p,b,j,q,p2,v,rfl,rfl,hl):=tS i;cases n with
   |Tuple es u ps=>show Fs rfl hl s
   |_=>cases m
  .cases h
 .cases h
def DF{a:M α}{b:α->M β}{c:α->M γ}{g:γ->M δ}{st:aB}{Q:δ->aB->Prop}(w:W (a >>= λx=>b x >>= λ_=>c x >>= g) st Q):W ((a >>= λx=>b x >>= λ_=>c x) >>= g) st Q:=by
 simp only[ah]at w ⊢;show w
def bL:PT X e (Ku C M.fail):=λa s σ H Q I ⟨_,_,_,_,w⟩=>(bB.mp w).elim
def mw:PE X e (Jm C M.fail):=λa s σ H Q I ⟨_,_,_,_,w⟩=>(bB.mp w).elim
def PT.eqv(h:PT X e (Ku C m))(i:∀st Q,W a st Q->W m st Q):PT X e (Ku C a):=PT.weak h λσ H Q ⟨c0,b,c,d,w⟩=>#[c0,b,c,d,i _ _ w]
def Hj(g:Gd ck Γ C d X)(b:PA X a (KH C (b_ Γ es)))
  (h:(df (x=f.name)&&simple f&&KY X.env.scope x&&!a.isEmpty&&a9 ck es X.N X.env.scope a)=b5):PE X (.Call (.Name x p) a [] pos) (Jm C (ev Γ (.bi f es))):=by
 simp only[du,Ϥ,LB]at h;obtain⟨⟨⟨⟨rfl,c⟩,i⟩,n⟩,o⟩:=h;have(b1,j,b3,b4):=CO f c;have k:=dS o;cases a with
 |nil=>cases n
 |cons q l =>
  have st:=bu (env:=X.env) (es:=l) (k q (by simp));have m:=(b7 (pos:=pos) (env:=X.env) (es:=l) λe r=>k e (by simp[r])).1;rcases FF f c with hv|hv
  .show Cq g.calm g.K g.room.gd g.u hv (dB i) (g.blt _ j) (by rw[b1,hv]) b3 b4 b st m
  .show Cr g.calm g.K g.room.gd g.u hv (dB i) (g.blt _ j) (by rw[b1,hv]) b3 b4 b st m
def Hk(g:Gd ck Γ C d X)(i:PA X a (KH C (b_ Γ es)))
  (h:(df (x=f.pW)&&df (y=f.ja)&&KY X.env.scope x&&KY X.env.scope y&&!a.isEmpty&&a9 ck es X.N X.env.scope a)=b5):PE X (.Call (.Name x p) [.Call (.Name y p2) a [] pos2] [] pos) (Jm C (ev Γ (.MR f es))):=by
 simp only[du,Ϥ,LB]at h;obtain⟨⟨⟨⟨⟨rfl,rfl⟩,j⟩,k⟩,l⟩,m⟩:=h;have(b1,n):=FG f;have b:=dS m;cases a with
 |nil=>cases l
 |cons o c =>
  have st:=bu (env:=X.env) (es:=c) (b o (by simp));have q:=(b7 (pos:=pos2) (env:=X.env) (es:=c) λe r=>b e (by simp[r])).1;show Cw g.calm g.K (dB j) (g.blt _ b1) (dB k) (g.blt _ n) i st q
def Hl(g:Gd ck Γ C d X)(l:PE X o (Jm C (ev Γ a)))(n:PA X b (KH C (b_ Γ es)))
  (h:(df (name=m.name)&&p_ o&&(c.endLine==i.line)&&!b.isEmpty&&df (b.length<20)&&bO ck a X.N X.env.scope o&&a9 ck es X.N X.env.scope b)=b5):PE X (.Call (.Attribute o name c) b [] i) (Jm C (ev Γ (.MS m a es))):=by
 simp only[du,Ϥ,LB]at h;obtain⟨⟨⟨⟨⟨⟨rfl,p⟩,q⟩,r⟩,s⟩,x⟩,t⟩:=h;have j:=dS t;have(s1,s2):=CP m;cases b with
 |nil=>cases r
 |cons k f =>
  have st:=bu (env:=X.env) (es:=f) (j k (by simp));have u:=(b7 (pos:=i) (env:=X.env) (es:=f) λe v=>j e (by simp[v])).1;have w:=(b7 (pos:=i) (env:=X.env) (es:=k::f) j).2;show Cv g.K s1 s2 l n (kQ p) ?_ q st u;rw[w];have:(k::f).length+([]:List SW).length+(if ([]:List SW).isEmpty=b5 then 0 else 1)<30:=by simp at s ⊢;lia
  simp only[Ϩ this];rfl
def zT(g:Gd ck Γ C d X)(i:PA X a (KH C (b_ Γ es)))
  (h:(df (x=f)&&df (f∈ck.fns)&&KY X.env.scope x&&bZ x&&!a.isEmpty&&a9 ck es X.N X.env.scope a)=b5):PE X (.Call (.Name x p) a [] pos) (Jm C (ev Γ (.call f es))):=by
 simp only[du,Ϥ,LB]at h;obtain⟨⟨⟨⟨⟨rfl,j⟩,k⟩,l⟩,m⟩,n⟩:=h;have b:=dS n;have(z,fa,A,ps,o,q,r,s,t):=(g.fns _ j).ex;cases a with
 |nil=>cases m
 |cons u c =>
  have st:=bu (env:=X.env) (es:=c) (b u (by simp));have v:=(b7 (pos:=pos) (env:=X.env) (es:=c) λe y=>b e (by simp[y])).1;show zv g.P g.w g.K rfl t o g.room (dB k) q r s (aW l).1 i st v
def eV(h:(b&&a9 k es N a c)=b5):a9 k es N a c=b5:=(Ke.mp h).2
mutual
theorem bT:∀(e:E) (X:Cx) (k:ro),Gd ck Γ C d X->bO ck e X.N X.env.scope k=b5->PE X k (Jm C (ev Γ e))
 |.var i,X,k,g,h=>by
  have(x,L,rfl,A):=ao h;clear h;have h:=A;simp only[du,Ϥ]at h;have(O,h4):=aW h.2;show pU h.1.1 (cE h.1.2) O h4
 |.cst u,X,k,g,h=>by
  have(c,q0,L,rfl,A):=iA h;cases c with
  |int j=>have:=cz A;subst this;show i_ yg λ_ _=>rfl
  |str y=>have:=cz A;subst this;show i_ yj λ_ _=>rfl
  |bool y=>have:=cz A;subst this;show i_ yh λ_ _=>rfl
  |none=>have:=cz A;subst this;show i_ yi λ_ _=>rfl
  |_=>cases A
 |.Px x u,X,k,g,h=>by
  have(y,L,rfl,A):=ao h;clear h;have h:=A;simp only[du,Ϥ,Wj]at h;obtain⟨⟨⟨rfl,J⟩,Y⟩,p,hp,e1,e2⟩:=h;have:=cz e2;subst this e1;have(ap,v,q1,q2,q3):=g.Mm p hp;show i_ (Bc (dB J) q1 q2 (aW Y).1) q3
 |.bin op a b,X,k,g,h=>by
  have(a',MW,b',L,rfl,A):=mq h;clear h;have h:=A;simp only[du,Ϥ]at h;have((rfl,J),Y):=h;show B9 g.K (bT a X _ g J) (bT b X _ g Y)
 |.cmp op a b,X,k,g,h=>by
  have(a',MW,b',L,rfl,B):=iy h;have h:=B;simp only[du,Ϥ,LB]at h;obtain⟨⟨⟨rfl,h0⟩,J⟩,Y⟩:=h;show B_ g.P g.w g.K g.u (bT a X _ g J) (bT b X _ g Y) h0
 |.MQ o1 o2 a b c,X,k,g,h=>absurd (show cb=b5 from h) k9
 |.and es,X,k,g,h=>by
  have(Jd,L,rfl,A):=jE h;clear h;have h:=A;show zU es X _ g h
 |.or es,X,k,g,h=>mw
 |.not a,X,k,g,h=>by
  have(a',L,rfl,A):=jF h;clear h;have h:=A;show Cb (bT a X _ g h)
 |.neg a,X,k,g,h=>by
  have(a',L,rfl,A):=jF h;clear h;have h:=A;show Cc (bT a X _ g h)
 |.bad,X,k,g,h=>mw
 |.PB i,X,k,g,h=>by
  have(a',b',p,rfl,B):=xK h;have(x,px,rfl,G):=ao B;have(c,q,p2,rfl,z3):=iA G;clear h B G;simp only[du,Ϥ]at z3;obtain⟨⟨⟨rfl,J⟩,Y⟩,O⟩:=z3;show Cm J (cE Y) (aW O).1 (aW O).2
 |.pop i,X,k,g,h=>by
  have(o,m,ab,as,F',rfl,B):=bV h;have(x,px,rfl,G):=ao B;simp only[du,Ϥ,KC]at G;obtain⟨⟨⟨⟨⟨rfl,rfl⟩,J⟩,Y⟩,O⟩,h4⟩:=G;have(q1,q2):=aW O;show CI J (cE Y) q1 q2 h4 g.K
 |.Nk i a,X,k,g,h=>absurd (show cb=b5 from h) k9
 |.inD neg a i,X,k,g,h=>mw
 |.Py i,X,k,g,h=>by
  have(x,L,rfl,A):=ao h;clear h;have h:=A;simp only[du,Ϥ]at h;have(O,h4):=aW h.2;show CB h.1.1 (cE h.1.2) O h4
 |.LG i a b,X,k,g,h=>by
  have(o,m,ab,as,F',rfl,B):=bV h;have(x,px,rfl,G):=ao B;have(a',b',rfl,z3):=iz G;clear h B;have G:=z3;simp only[du,Ϥ]at G;obtain⟨⟨⟨⟨⟨⟨⟨⟨rfl,J⟩,Y⟩,O⟩,h4⟩,h5⟩,h6⟩,h7⟩,h8⟩:=G;have(q1,q2):=aW O;have sa:=b7 (pos:=F') (env:=X.env) (es:=[a',b']) λe he=>by
   rcases fR.mp he with rfl|he
   .show h5
   .simp at he;subst he;show h6
  show zK g.u J (cE Y) q1 q2 (bT a X _ g h7) (bT b X _ g h8) #[rfl,by rw[sa.2];rfl,h4,by rw[bu h5,bu h6];rfl]
 |.Pz i,X,k,g,h=>by
  have(f',as,_,rfl,B):=bh h;have(f,_,rfl,G):=ao B;have(c,rfl,z3):=bf G;have(o,m,ab,bs,F',rfl,z4):=bV z3;have(x,px,rfl,z5):=ao z4;simp only[du,Ϥ,KC]at z5;obtain⟨⟨⟨⟨⟨⟨⟨rfl,rfl⟩,J⟩,rfl⟩,O⟩,h4⟩,h5⟩,h6⟩:=z5;have(q1,q2):=aW h5;show CG g.calm g.K (dB J) (g.blt _ (by decide +kernel)) O (cE h4) q1 q2 h6
 |.OH ln a b,X,k,g,h=>by
  have(_,_,_,rfl,A):=bh h;have(_,_,rfl,B):=ao A;have(_,rfl,G):=bf B;have(_,_,_,_,rfl,z3):=mq G;have(_,_,_,rfl,z4):=bh z3;have(_,_,rfl,z5):=ao z4;have(_,rfl,z6):=bf z5;have(_,_,_,rfl,z7):=bh z6;have(_,_,rfl,z8):=ao z7;have(_,rfl,z9):=bf z8;simp only[du,Ϥ]at z9;obtain⟨⟨⟨⟨⟨⟨⟨⟨⟨rfl,rfl⟩,rfl⟩,rfl⟩,J⟩,Y⟩,O⟩,h4⟩,h5⟩,h6⟩:=z9;show CH (ln:=ln) g.calm g.K (dB J) (g.blt _ (by cases ln<;>decide +kernel)) (dB Y) (g.blt _ (by decide +kernel)) (bT a X _ g h5) (bT b X _ g h6) (bu O) (bu h4)
 |.fst es,X,k,g,h=>mw
 |.NY a T,X,k,g,h=>by
  have(f',as,L,rfl,B):=bh h;have(x,p1,rfl,G):=ao B;clear h B;have(a',b',rfl,z4):=iz G;have(y,p2,rfl,z3):=ao z4;have h:=z3;simp only[du,Ϥ]at h;obtain⟨⟨⟨⟨⟨rfl,rfl⟩,J⟩,Y⟩,O⟩,h4⟩:=h;show vj g.K (dB J) (g.blt _ rQ) (dB Y) (g.blt _ (zS T)) (bT a X _ g h4) (bu O)
 |.ite c a b,X,k,g,h=>absurd (show cb=b5 from h) k9
 |.tup es,X,k,g,h=>by
  have(l,q0,L,rfl,A):=tU h;clear h;have h:=A;show Ci (mz es X _ g h)
 |.lst es,X,k,g,h=>by
  have(l,L,rfl,A):=tV h;clear h;have h:=A;show Cj (mz es X _ g h)
 |.KD r,X,k,g,h=>by
  have(L,rfl):=oy h;show zu g.P g.w r
 |.idx a b,X,k,g,h=>by
  have(a',b',L,rfl,A):=dc h;clear h;have h:=A;simp only[du]at h;show Cn g.K g.u (rP h.1.1) (bT a X _ g h.1.2) (bT b X _ g h.2)
 |.NX a lo hi,X,k,g,h=>by
  have(a',b',L,rfl,B):=dc h;have(W',Kh,p1,rfl,A):=tW B;clear h B;simp only[du]at A;show Co g.K (bT a X _ g A.1.1) (Hm lo X _ g A.1.2) (Hm hi X _ g A.2)
 |.bi f es,X,k,g,h=>by
  have(f',as,L,rfl,B):=bh h;have(x,p1,rfl,G):=ao B;have h:=G;show Hj g (mz es X _ g (eV h)) h
 |.MR f es,X,k,g,h=>by
  have(f',as,L,rfl,B):=bh h;have(x,p1,rfl,G):=ao B;have(c,rfl,z3):=bf G;have(g',as',p2,rfl,z4):=bh z3;have(y,p3,rfl,z5):=ao z4;have h:=z5;show Hk g (mz es X _ g (eV h)) h
 |.MS m a es,X,k,g,h=>by
  have(o,name,ab,as,F',rfl,B):=bV h;have h:=B;have h':=h;simp only[du]at h';show Hl g (bT a X _ g h'.1.2) (mz es X _ g (eV h)) h
 |.call f es,X,k,g,h=>by
  have(f',as,L,rfl,B):=bh h;have(x,p1,rfl,G):=ao B;have h:=G;show zT g (mz es X _ g (eV h)) h
 |.comp n t ik src cond e,X,k,g,h=>by
  have(elt,tg,ac,am,scope,L,rfl,A):=jG h;clear h;have h:=A;simp only[du,Ϥ]at h;obtain⟨⟨⟨⟨⟨⟨⟨J,Y⟩,O⟩,h4⟩,h5⟩,h6⟩,h7⟩,h8⟩:=h;subst J;have S:=sW (X:=X) rfl (jH _ _) Y;split at h5
  .rename_i as an;have Jo:=dS h5;have hI:PI X tg ac (Mj C ik (b_ Γ src)):=DE g an (mz src X _ g h5) (λa e=>by
    subst e;cases src with
    |nil=>simp[a9]at h5
    |cons e1 JU =>
     cases JU with
     |nil =>
      simp only[a9,du]at h5;show#[e1,rfl,bT e1 X _ g h5.1.2]
     |cons _ _=>simp[a9]at h5) Jo
   show zE S g.calm hI (λD s H ex=>vE (fa:=λx=>df (scope.names.lookup x=a0 .cell)) g.calm g.K S.nd (λ_ z=>z) O)
    (λD s H ex=>by
     cases am with
     |nil =>
      cases cond with
      |nil=>show λal s σ H Q I ⟨c0,e1,e2,ok,w⟩=>pC al s σ H Q I (by subst e1 e2;rw[show aN Γ []=pure b5 from rfl,ak]at w;show w c0 rfl rfl ok (Nx.refl c0))
      |cons _ _=>simp[a9]at h7
     |cons c1 cs =>
      cases cs with
      |nil =>
       cases cond with
       |nil=>simp[a9]at h7
       |cons e1 JU =>
        cases JU with
        |nil =>
         simp only[a9,du]at h7;show uQ (qd e1 (Ka X _ scope D s H ex) c1 (g.cx _ _ _ _ _ _) h7.1.2)
        |cons _ _=>simp[a9]at h7
      |cons _ _=>simp at h6)
    (λD s H ex=>bT e (Ka X _ scope D s H ex) elt (g.cx _ _ _ _ _ _) h8) (tY h4)
  .cases h5
theorem mz:∀(es:List E) (X:Cx) (a:List ro),Gd ck Γ C d X->a9 ck es X.N X.env.scope a=b5->PA X a (KH C (b_ Γ es))
 |[],X,a,g,h=>by
  cases a with
  |nil=>show Cg
  |cons _ _=>simp[a9]at h
 |e::es,X,a,g,h=>by
  cases a with
  |nil=>simp[a9]at h
  |cons b a =>
   simp only[a9,du]at h;show zr (bT e X b g h.1.2) (mz es X a g h.2) (bu h.1.1)
theorem Hm:∀(es:List E) (X:Cx) (o:Option ro),Gd ck Γ C d X->tX ck es X.N X.env.scope o=b5->PO X o (tO C (OK Γ es))
 |[],X,o,g,h=>by
  cases o with
  |none=>show xE
  |some _=>simp[tX]at h
 |[e],X,o,g,h=>by
  cases o with
  |none=>simp[tX]at h
  |some a=>simp only[tX]at h;show xF (bT e X a g h)
 |_::_::_,X,o,g,h=>by simp[tX]at h
theorem zU:∀(es:List E) (X:Cx) (a:List ro),Gd ck Γ C d X->a9 ck es X.N X.env.scope a=b5->∀{pos},PE X (.BoolOp .And a pos) (Jm C (iX Γ es))
 |[],X,a,g,h,pos=>mw
 |[e],X,a,g,h,pos=>by
  cases a with
  |nil=>simp[a9]at h
  |cons b a =>
   cases a with
   |nil=>simp only[a9,du]at h;show D6 (bT e X b g h.1.2)
   |cons _ _=>simp[a9]at h
 |e::c::es,X,a,g,h,pos=>by
  cases a with
  |nil=>simp[a9]at h
  |cons b a =>
   have h':noStar b=b5/\bO ck e X.N X.env.scope b=b5/\a9 ck (c::es) X.N X.env.scope a=b5:=by
    rw[a9]at h;simp only[du]at h;show#[h.1.1,h.1.2,h.2]
   cases a with
   |nil=>have:=h'.2.2;simp[a9]at this
   |cons f i=>show snd_and (bT e X b g h'.2.1) (zU (c::es) X _ g h'.2.2)
theorem qd:∀(e:E) (X:Cx) (j:ro),Gd ck Γ C d X->bO ck e X.N X.env.scope j=b5->PT X j (Ku C (Jx Γ e))
 |.and es,X,j,g,h=>by
  have(G,o,rfl,k):=jE h;clear h;have h:=k;show(vF es X _ g h).pt
 |.or es,X,j,g,h=>by
  have(G,o,rfl,k):=jE h;clear h;have h:=k;show(zV es X _ g h).pt
 |.not a,X,j,g,h=>by
  have(a',o,rfl,k):=jF h;clear h;have h:=k;show Cd (qd a X _ g h)
 |.cmp op a b,X,j,g,h=>by
  have(a',H,D,o,rfl,l):=iy h;have h:=l;simp only[du,Ϥ,LB]at h;obtain⟨⟨⟨rfl,A⟩,q⟩,s⟩:=h;show Ca g.P g.w g.K g.u (bT a X _ g q) (bT b X _ g s) A
 |.MQ o1 o2 a b c,X,j,g,h=>absurd (show cb=b5 from h) k9
 |.var i,X,j,g,h=>by
  have(x,o,rfl,k):=ao h;simp only[du,Ϥ]at k;have(v,z):=aW k.2;show kP (pU k.1.1 (cE k.1.2) v z) g.K λ_=>rfl
 |.idx a b,X,j,g,h=>bL
 |.bi f es,X,j,g,h=>by
  have(f',as,o,rfl,l):=bh h;have(x,B,rfl,p):=ao l;have h:=p;show PT.eqv (kP (Hj g (mz es X _ g (eV h)) h) g.K λ_=>rfl) λst Q w=>DF w
 |.MR f es,X,j,g,h=>bL
 |.MS m a es,X,j,g,h=>bL
 |.call f es,X,j,g,h=>by
  have(f',as,o,rfl,l):=bh h;have(x,B,rfl,p):=ao l;have h:=p;show PT.eqv (kP (zT g (mz es X _ g (eV h)) h) g.K λ_=>rfl) λst Q w=>DF w
 |.cst u,X,j,g,h=>bL
 |.fst es,X,j,g,h=>bL
 |.Px x u,X,j,g,h=>bL
 |.neg a,X,j,g,h=>bL
 |.NY a T,X,j,g,h=>by
  have(f',as,o,rfl,l):=bh h;have(x,B,rfl,p):=ao l;clear h l;have(a',D,rfl,I):=iz p;have(y,p2,rfl,J):=ao I;have h:=J;simp only[du,Ϥ]at h;obtain⟨⟨⟨⟨⟨rfl,rfl⟩,q⟩,s⟩,v⟩,z⟩:=h;show PT.eqv (kP (vj g.K (dB q) (g.blt _ rQ) (dB s) (g.blt _ (zS T)) (bT a X _ g z) (bu v)) g.K λ_=>rfl) λst Q w=>?_;have w:W (ev Γ a >>= λx=>M.JA (rH x.2 T)) st Q:=w;simp only[ah]at w ⊢;show W.mono w λx s1 L=>?_;have(b,e,O):=bR.mp L;show bR.mpr #[b,e,ak.mpr (bR.mpr #[b,rfl,O])]
 |.bad,X,j,g,h=>bL
 |.PB i,X,j,g,h=>bL
 |.pop i,X,j,g,h=>bL
 |.Nk i a,X,j,g,h=>bL
 |.inD neg a i,X,j,g,h=>by
  have(a',H,D,o,rfl,l):=iy h;have(x,B,rfl,p):=ao l;have h:=p;simp only[du,Ϥ,LB]at h;obtain⟨⟨⟨⟨⟨rfl,A⟩,q⟩,s⟩,v⟩,z⟩:=h;have(Y,q2):=aW v;show CC g.u q (cE s) Y q2 (bT a X _ g z) A
 |.Py i,X,j,g,h=>bL
 |.OH ln a b,X,j,g,h=>bL
 |.Pz i,X,j,g,h=>bL
 |.LG i a b,X,j,g,h=>bL
 |.bin op a b,X,j,g,h=>bL
 |.ite c a b,X,j,g,h=>bL
 |.tup es,X,j,g,h=>bL
 |.lst es,X,j,g,h=>bL
 |.KD r,X,j,g,h=>bL
 |.NX a lo hi,X,j,g,h=>bL
 |.comp n t ik src cond e,X,j,g,h=>bL
theorem vF:∀(es:List E) (X:Cx) (a:List ro),Gd ck Γ C d X->a9 ck es X.N X.env.scope a=b5->∀{pos},PW X (.BoolOp .And a pos) (Ku C (aN Γ es))
 |[],X,a,g,h,pos=>by
  cases a with
  |nil =>
   rintro j c s σ H Q I ⟨c0,rfl,rfl,i,w⟩;rw[show aN Γ []=pure b5 from rfl,ak]at w;show ϣ #[c0.H,I,w c0 rfl rfl i (Nx.refl c0)]
  |cons _ _=>simp[a9]at h
 |[e],X,a,g,h,pos=>by
  cases a with
  |nil=>simp[a9]at h
  |cons b a =>
   cases a with
   |nil=>simp only[a9,du]at h;show Be (qd e X b g h.1.2)
   |cons _ _=>simp[a9]at h
 |e::f::es,X,a,g,h,pos=>by
  cases a with
  |nil=>simp[a9]at h
  |cons b a =>
   have h':noStar b=b5/\bO ck e X.N X.env.scope b=b5/\a9 ck (f::es) X.N X.env.scope a=b5:=by
    rw[a9]at h;simp only[du]at h;show#[h.1.1,h.1.2,h.2]
   cases a with
   |nil=>have:=h'.2.2;simp[a9]at this
   |cons k l=>show Ce (qd e X b g h'.2.1) (vF (f::es) X _ g h'.2.2)
theorem zV:∀(es:List E) (X:Cx) (a:List ro),Gd ck Γ C d X->a9 ck es X.N X.env.scope a=b5->∀{pos},PW X (.BoolOp .Or a pos) (Ku C (f9 Γ es))
 |[],X,a,g,h,pos=>by
  cases a with
  |nil =>
   rintro j c s σ H Q I ⟨c0,rfl,rfl,i,w⟩;rw[show f9 Γ []=pure cb from rfl,ak]at w;show isTrue_or_nil #[c0.H,I,w c0 rfl rfl i (Nx.refl c0)]
  |cons _ _=>simp[a9]at h
 |[e],X,a,g,h,pos=>by
  cases a with
  |nil=>simp[a9]at h
  |cons b a =>
   cases a with
   |nil=>simp only[a9,du]at h;show D3 (qd e X b g h.1.2)
   |cons _ _=>simp[a9]at h
 |e::f::es,X,a,g,h,pos=>by
  cases a with
  |nil=>simp[a9]at h
  |cons b a =>
   have h':noStar b=b5/\bO ck e X.N X.env.scope b=b5/\a9 ck (f::es) X.N X.env.scope a=b5:=by
    rw[a9]at h;simp only[du]at h;show#[h.1.1,h.1.2,h.2]
   cases a with
   |nil=>have:=h'.2.2;simp[a9]at this
   |cons k l=>show Fb (qd e X b g h'.2.1) (zV (f::es) X _ g h'.2.2)
end
def IV(g:Gd ck Γ C d X)(b:W_ e=b5)(h:bO ck e X.N X.env.scope f=b5):PE X f (zH C (ev Γ e)):=by
 cases e with
 |var i =>
  have(x,k,rfl,a):=ao h;simp only[du,Ϥ]at a;have(l,m):=aW a.2;show zI a.1.1 (cE a.1.2) l m
 |cst u =>
  have(c,n,k,rfl,a):=iA h;cases c with
  |int j=>have:=cz a;subst this;show jb yg λ_ _=>rfl
  |str y=>have:=cz a;subst this;show jb yj λ_ _=>rfl
  |bool y=>have:=cz a;subst this;show jb yh λ_ _=>rfl
  |none=>have:=cz a;subst this;show jb yi λ_ _=>rfl
  |_=>cases a
 |_=>cases b
end
abbrev Q9(b:P0)(x:Str)(a:Nat):ro->Bool
 |.ListComp elt gens s pos=>df (b.names.lookup x=a0 .local)&&(a==pos.line)&&!(s.names.any λ(n,k)=>n==x&&(k==.local||k==.cell))
 |_=>cb
abbrev oA(s:QO)(k:ro->Bool):Bool:=match s with|.Expr e _=>k e|_=>cb
def fq(h:oA s k=b5):∃e p,s=.Expr e p/\k e=b5:=by
 unfold oA at h;split at h
 .show#[_,_,rfl,h]
 .cases h
abbrev oB(s:QO)(k:ro->ro->Bool):Bool:=match s with|.Assign ts v _=>dA ts λt=>k t v|_=>cb
def ft(h:oB s k=b5):∃t v p,s=.Assign [t] v p/\k t v=b5:=by
 unfold oB at h;split at h
 .have(t,rfl,a):=bf h;show#[_,_,_,rfl,h]
 .cases h
abbrev tZ(e:ro)(k:ro->ro->ro->P0->Bool):Bool:=match e with
 |.ListComp elt gens scope _=>dA gens λg=>match g with
  |⟨b,a,[],0⟩=>k elt b a scope
  |_=>cb
 |_=>cb
def rR(h:tZ e k=b5):∃elt c a scope p,e=.ListComp elt [⟨c,a,[],0⟩] scope p/\k elt c a scope=b5:=by
 unfold tZ at h;split at h
 .have(g,rfl,b):=bf h;split at b
  .show#[_,_,_,_,_,rfl,b]
  .cases b
 .cases h
abbrev FH(e:ro)(k:Str->Pos->Bool):Bool:=match e with|.Name x p=>k x p|_=>cb
def xM(h:FH e k=b5):∃x p,e=.Name x p/\k x p=b5:=by
 unfold FH at h;split at h
 .show#[_,_,rfl,h]
 .cases h
abbrev zW(s:QO)(k:ro->ŝ->ro->Bool):Bool:=match s with|.AugAssign t op b _=>k t op b|_=>cb
def t6(h:zW s k=b5):∃t op b p,s=.AugAssign t op b p/\k t op b=b5:=by
 unfold zW at h;split at h
 .show#[_,_,_,_,rfl,h]
 .cases h
abbrev vG(s:QO)(k:Option ro->Bool):Bool:=match s with|.Return v _=>k v|_=>cb
def mB(h:vG s k=b5):∃v p,s=.Return v p/\k v=b5:=by
 unfold vG at h;split at h
 .show#[_,_,rfl,h]
 .cases h
abbrev FI(v:Option ro)(k:ro->Bool):Bool:=match v with|some e=>k e|none=>cb
def oC(h:FI v k=b5):∃e,v=a0 e/\k e=b5:=by
 cases v with
 |none=>cases h
 |some e=>show#[e,rfl,h]
abbrev zX(s:QO)(k:ro->List QO->List QO->Bool):Bool:=match s with|.If c a b _=>k c a b|_=>cb
def t7(h:zX s k=b5):∃c a b p,s=.If c a b p/\k c a b=b5:=by
 unfold zX at h;split at h
 .show#[_,_,_,_,rfl,h]
 .cases h
abbrev zY(s:QO)(k:ro->ro->List QO->Bool):Bool:=match s with|.For t i b o _=>o.isEmpty&&k t i b|_=>cb
def t8(h:zY s k=b5):∃t i b p,s=.For t i b [] p/\k t i b=b5:=by
 unfold zY at h;split at h
 .rw[du,KC]at h;have(rfl,h):=h;show#[_,_,_,_,rfl,h]
 .cases h
abbrev FJ(s:QO)(k:ro->List QO->Bool):Bool:=match s with|.While c b o _=>o.isEmpty&&k c b|_=>cb
def xN(h:FJ s k=b5):∃c b p,s=.While c b [] p/\k c b=b5:=by
 unfold FJ at h;split at h
 .rw[du,KC]at h;have(rfl,h):=h;show#[_,_,_,rfl,h]
 .cases h
mutual
noncomputable def Hn(k:Ck):S->List Str->P0->QO->Bool
 |.set i e,N,d,s=>oB s λt v=>FH t λx p=>df (N[i]?=a0 x)&&qa d x&&df (d.kind=.function)&&bO k e N d v&&(eC v||Q9 d x p.line v||(match v with|.ListComp _ _ _ _=>b5|_=>cb))&&(match e with|.comp _ _ _ _ _ _=>b5|_=>eC v)
 |.Nl _ _,_,_,_=>cb
 |.put i a b,N,d,s=>oB s λt j=>j_ t λo a'=>bj o λx=>df (N[i]?=a0 x)&&gQ d x&&bZ x&&eC j&&eB a'&&bO k a N d a'&&bO k b N d j
 |.app i e,N,d,s=>oA s λc=>fm c λo m f as l=>bj o λx=>dA as λa=>df (m="append")&&df (N[i]?=a0 x)&&gQ d x&&bZ x&&(f.endLine==l.line)&&noStar a&&bO k e N d a
 |.ext i e,N,d,s=>oA s λc=>fm c λo m f as l=>bj o λx=>dA as λa=>df (m="extend")&&df (N[i]?=a0 x)&&gQ d x&&bZ x&&(f.endLine==l.line)&&noStar a&&bO k e N d a
 |.bad,_,_,_=>b5
 |.newD i,N,d,s=>oB s λt v=>bj t λx=>CL v&&df (N[i]?=a0 x)&&qa d x
 |.putD i a b,N,d,s=>oB s λt j=>j_ t λo a'=>bj o λx=>df (N[i]?=a0 x)&&gQ d x&&bZ x&&eC j&&eB a'&&bO k a N d a'&&bO k b N d j
 |.KP i a e,N,d,s=>oA s λc=>fm c λo m f as l=>j_ o λo' a'=>bj o' λx=>dA as λb=>df (m="append")&&df (N[i]?=a0 x)&&gQ d x&&bZ x&&eB a'&&(f.endLine==l.line)&&noStar b&&bO k a N d a'&&bO k e N d b
 |.aug sub i a e,N,d,s=>zW s λt op b=>j_ t λo a'=>bj o λx=>df (op=if sub=b5 then .Sub else .Add)&&df (N[i]?=a0 x)&&gQ d x&&bZ x&&eB a'&&bO k a N d a'&&bO k e N d b&&W_ e
 |.R6 _,_,_,_=>cb
 |.exp e,N,d,s=>oA s λn=>eC n&&bO k e N d n
 |.ret e,N,d,s=>vG s λv=>FI v λn=>bO k e N d n
 |.LJ i e,N,d,s=>vG s λu=>FI u λv=>tZ v λelt h g scope=>fm g λo m f as l=>bj o λx=>as.isEmpty&&df (m="items")&&df (N[i]?=a0 x)&&gQ d x&&bZ x&&(f.endLine==l.line)&&isTup h&&df ((c8 h).length=2) &&
   BE (c8 h++hide (c8 h) N) (c8 h) scope d.names&&PN b5 (c8 h++hide (c8 h) N) (zO scope d) (λ_=>cb) (hH 2) h&&bO k e (c8 h++hide (c8 h) N) (zO scope d) elt
 |.Nm,_,_,_=>cb
 |.ite c a b,N,d,s=>zX s λq a' j=>bO k c N d q&&d4 k a N d a'&&d4 k b N d j
 |.Jw t is ik src body,N,d,s=>zY s λh g r=>PN t N d (λ_=>b5) is h&&tR g&&(match gn d h ik g with
    |some as=>a9 k src N d as
    |none=>cb)&&d4 k body N d r
 |.Nn c body,N,d,s=>FJ s λq r=>bO k c N d q&&d4 k body N d r
 |.brk,_,_,_=>cb
 |.cnt,_,_,_=>cb
 |.QS _,_,_,_=>cb
 |.R7,_,_,_=>cb
noncomputable def d4(k:Ck):List S->List Str->P0->List QO->Bool
 |[],_,_,a=>a.isEmpty
 |s::ss,N,b,a=>match a with
  |s'::a=>Hn k s N b s'&&d4 k ss N b a
  |[]=>cb
end
section
variable{ck:Ck}{Γ:Tab}{C:Ct}{d:Nat}{X:Cx}
def t9(h:qa a x=b5):Loc a x:=by
 unfold qa at h;simp only[Sn,Ϥ]at h;show h
def jc(h:eC v=b5):Uo v t a env=pure cb:=by
 cases v<;>first|rfl|cases h
def vH(h:eC v=b5):Ww [t] v a env=pure cb:=by
 rw[Ww];show jc h
def CT(h:eB i=b5):∀a b new,Ϟ i a b new=(do O3 [new,a,b] (XE a b new);É [new,a,b] [];pure .next):=by
 intro a b new;cases i<;>first|rfl|cases h
def vI(h:eB i=b5):∀v,Wx (.Subscript o i p) env v=(do
   let a <-O3 [v] (K6 o env)
   let b <-O3 [v,a] (K6 i env)
   ó p
   O3 [v,a,b] (XE a b v)
   É [v,a,b] []):=by
 intro v;cases i<;>first|rfl|cases h
structure Gs(ck:Ck)(Γ:Tab)(C:Ct)(d:Nat)(X:Cx):Prop where
 gd:Gd ck Γ C d X
 nd:X.N.Nodup
 fn:∀x,X.fn x=b5
 po:á (hJ X.prog X.w) X.A X.env X.xe
 kd:X.env.scope.kind=.function
def vJ(g:Gd ck Γ C d X)(h:(match gn X.env.scope i ik b with|some as=>a9 ck src X.N X.env.scope as|none=>cb)=b5):PI X i b (Mj C ik (b_ Γ src)):=by
 split at h
 .rename_i as c;show DE g c (mz src X _ g h) (λa e=>by
   subst e;cases src with
   |nil=>simp[a9]at h
   |cons f j =>
    cases j with
    |nil =>
     simp only[a9,du]at h;show#[f,rfl,bT f X _ g h.1.2]
    |cons _ _=>simp[a9]at h) (dS h)
 .cases h
def mC{pos p a:Pos}(hk:X.env.scope.kind=.function):Uo (.ListComp elt gens s pos) (a0 (.Name x p)) a.line X.env=pure (Q9 X.env.scope x p.line (.ListComp elt gens s pos)):=by
 have b:X.env.blockKind=.function:=by
  unfold Env.blockKind;rw[hk];rfl
 change(pure (X.env.blockKind==.function&&X.env.kindOf x==a0 .local&&p.line==pos.line&&!(s.names.any λ(n,k)=>n==x&&(k==.local||k==.cell))):Sem Bool)=_;rw[b];unfold Q9;congr 1
 have:(X.env.kindOf x==a0 NameKind.local)=df (X.env.scope.names.lookup x=a0 .local):=by
  unfold Env.kindOf;rw[Ma];simp
 rw[this];rfl
def FK{src cond:List E}(G:Gs ck Γ C d X)(m:X.N[i]?=a0 x)(y:qa X.env.scope x=b5)
  (h:bO ck (.comp n t ik src cond e) X.N X.env.scope (.ListComp elt [⟨o,a,b,0⟩] scope pos)=b5) (ns:Nat->Bool) (q:∀j,ns j=b5->j≠i) :
  L2.PS X (.Assign [.Name x p] (.ListComp elt [⟨o,a,b,0⟩] scope pos) L6) (Ki C ns (ev Γ (.comp n t ik src cond e) >>= λr=>fO i r >>= λ_=>pure .nx)):=by
 have g:=G.gd;have u:=bT (.comp n t ik src cond e) X _ g h;cases k:Q9 X.env.scope x p.line (.ListComp elt [⟨o,a,b,0⟩] scope pos) with
 |false=>show DB q G.nd m (t9 y) (.inl (G.fn x)) u (by rw[mC G.kd,k])
 |true =>
  have hl:X.env.scope.names.lookup x=a0 .local:=by
   simp only[Q9,du,Ϥ]at k;show k.1.1
  have(ZY,A,Xa,ZZ,Vo,p',B,v):=jG h;cases B;clear h u;simp only[du,Ϥ]at v;obtain⟨⟨⟨⟨⟨⟨⟨J,L⟩,O⟩,T⟩,Y⟩,h6⟩,c⟩,h8⟩:=v;subst J;have S:=sW (X:=X) rfl (jH _ _) L;show Fw q S g.calm G.nd m hl (vJ g Y) (λD s H ex=>vE (fa:=λx=>df (scope.names.lookup x=a0 .cell)) g.calm g.K S.nd (λ_ z=>z) O)
   (λD s H ex=>by
    cases b with
    |nil =>
     cases cond with
     |nil=>show λf s σ H Q I ⟨c0,l,e2,ok,w⟩=>pC f s σ H Q I (by subst l e2;rw[show aN Γ []=pure b5 from rfl,ak]at w;show w c0 rfl rfl ok (Nx.refl c0))
     |cons _ _=>simp[a9]at c
    |cons c1 cs =>
     cases cs with
     |nil =>
      cases cond with
      |nil=>simp[a9]at c
      |cons l JU =>
       cases JU with
       |nil =>
        simp only[a9,du]at c;show uQ (qd l (Ka X _ scope D s H ex) c1 (g.cx _ _ _ _ _ _) c.1.2)
       |cons _ _=>simp[a9]at c
     |cons _ _=>simp at h6)
   (λD s H ex=>bT e (Ka X _ scope D s H ex) elt (g.cx _ _ _ _ _ _) h8) (by rw[mC G.kd,k]) (tY T)
mutual
theorem IW:∀(s:S) (X:Cx) (s':QO),Gs ck Γ C d X->Hn ck s X.N X.env.scope s'=b5->L2.PS X s' (Ki C (UM s) (exec Γ s))
 |.set i e,X,s',G,h=>by
  have(t,v,p1,rfl,f):=ft h;have(x,p,rfl,k):=xM f;clear h f;have h:=k;simp only[du,Ϥ]at h;obtain⟨⟨⟨⟨⟨r,y⟩,B⟩,l⟩,A⟩,q⟩:=h;have KO:∀j,UM (.set i e) j=b5->j≠i:=λj T=>Ϫ (show df (j≠i)=b5 from T);by_cases hc:eC v=b5
  .show DB KO G.nd r (t9 y) (.inl (G.fn x)) (bT e X v G.gd l) (jc hc)
  .cases e with
   |comp n t ik src cond e =>
    have(elt,tg,ab,al,scope,p3,rfl,_):=jG l;show FK G r y l _ KO
   |_=>show absurd q hc
 |.Nl is e,X,s',G,h=>absurd (show cb=b5 from h) k9
 |.put i a b,X,s',G,h=>by
  have(t,v,p,rfl,f):=ft h;have(o,a',p1,rfl,k):=dc f;have(x,px,rfl,J):=ao k;simp only[du,Ϥ]at J;obtain⟨⟨⟨⟨⟨⟨r,y⟩,B⟩,l⟩,A⟩,q⟩,h7⟩:=J;have(L,O):=aW B;show Hb G.gd.P G.gd.w G.gd.K G.gd.u r (cE y) L O (bT b X _ G.gd h7) (bT a X _ G.gd q) (vH l) rfl (vI A)
 |.app i e,X,s',G,h=>by
  have(c,p0,rfl,f):=fq h;have(o,m,Y,as,F',rfl,k):=bV f;have(x,px,rfl,J):=ao k;have(a,rfl,z4):=bf J;simp only[du,Ϥ]at z4;obtain⟨⟨⟨⟨⟨⟨rfl,r⟩,y⟩,B⟩,l⟩,A⟩,q⟩:=z4;have(L,O):=aW B;have st:=bu (env:=X.env) (es:=[]) A;have sa:=(b7 (pos:=F') (env:=X.env) (es:=[a]) λe he=>by simp at he;subst he;show A).2;show G_ G.gd.K r (cE y) L O (bT e X _ G.gd q) ?_ l st;rw[sa];rfl
 |.ext i e,X,s',G,h=>by
  have(c,p0,rfl,f):=fq h;have(o,m,Y,as,F',rfl,k):=bV f;have(x,px,rfl,J):=ao k;have(a,rfl,z4):=bf J;simp only[du,Ϥ]at z4;obtain⟨⟨⟨⟨⟨⟨rfl,r⟩,y⟩,B⟩,l⟩,A⟩,q⟩:=z4;have(L,O):=aW B;have st:=bu (env:=X.env) (es:=[]) A;have sa:=(b7 (pos:=F') (env:=X.env) (es:=[a]) λe he=>by simp at he;subst he;show A).2;show Ha G.gd.K r (cE y) L O (bT e X _ G.gd q) ?_ l st;rw[sa];rfl
 |.bad,X,s',G,h=>λac sh σ H D I ⟨_,_,_,_,w⟩=>(bB.mp w).elim
 |.newD i,X,s',G,h=>by
  have(t,v,p1,rfl,f):=ft h;have(x,p,rfl,k):=ao f;clear h f;have h:=k;simp only[du,Ϥ]at h;have(p2,rfl):=oy h.1.1;show Fy (λj T=>Ϫ (show df (j≠i)=b5 from T)) G.nd h.1.2 (t9 h.2) (.inl (G.fn _)) (jc rfl)
 |.putD i a b,X,s',G,h=>by
  have(t,v,p,rfl,f):=ft h;have(o,a',p1,rfl,k):=dc f;have(x,px,rfl,J):=ao k;simp only[du,Ϥ]at J;obtain⟨⟨⟨⟨⟨⟨r,y⟩,B⟩,l⟩,A⟩,q⟩,h7⟩:=J;have(L,O):=aW B;show Fz G.gd.u r (cE y) L O (bT b X _ G.gd h7) (bT a X _ G.gd q) (vH l) rfl (vI A)
 |.KP i a e,X,s',G,h=>by
  have(c,p0,rfl,f):=fq h;have(o,m,Y,as,F',rfl,k):=bV f;have(o',a',p1,rfl,J):=dc k;have(x,px,rfl,z4):=ao J;have(b,rfl,z5):=bf z4;simp only[du,Ϥ]at z5;obtain⟨⟨⟨⟨⟨⟨⟨⟨rfl,r⟩,y⟩,B⟩,l⟩,A⟩,q⟩,h7⟩,h8⟩:=z5;have ha:=bT e X _ G.gd h8;have(L,O):=aW B;have st:=bu (env:=X.env) (es:=[]) q;have sa:=(b7 (pos:=F') (env:=X.env) (es:=[b]) λe he=>by simp at he;subst he;show q).2;show FA G.gd.K G.gd.u r (cE y) L O ha (bT a X _ G.gd h7) (rP l) ?_ A st;rw[sa];rfl
 |.aug sub i a e,X,s',G,h=>by
  have(t,op,b,p,rfl,Q):=t6 h;clear h;have h:=Q;have(o,a',p1,rfl,f):=dc h;have(x,px,rfl,k):=ao f;simp only[du,Ϥ]at k;obtain⟨⟨⟨⟨⟨⟨⟨rfl,r⟩,y⟩,B⟩,l⟩,A⟩,q⟩,h7⟩:=k;have ha:=IV (C:=C) (Γ:=Γ) (d:=d) (ck:=ck) G.gd h7 q;have(L,O):=aW B;show He r (cE y) L O ha (bT a X _ G.gd A) (CT l)
 |.R6 i,X,s',G,h=>absurd (show cb=b5 from h) k9
 |.exp e,X,s',G,h=>by
  have(e',p,rfl,Q):=fq h;clear h;have h:=Q;simp only[du]at h;show G5 (bT e X _ G.gd h.2) (jc h.1)
 |.ret e,X,s',G,h=>by
  have(v,p,rfl,Q):=mB h;have(e',rfl,f):=oC Q;clear h Q;have h:=f;show G6 (bT e X _ G.gd h)
 |.LJ i e,X,s',G,h=>by
  have g:=G.gd;have(v0,p0,rfl,y0):=mB h;have(v,rfl,y1):=oC y0;clear h y0;have h:=y1;have(elt,tg,ab,scope,p,rfl,f):=rR h;have(o,m,Y,as,F',rfl,k):=bV f;have(x,px,rfl,J):=ao k;simp only[du,Ϥ,KC]at J;obtain⟨⟨⟨⟨⟨⟨⟨⟨⟨⟨rfl,rfl⟩,r⟩,y⟩,B⟩,l⟩,A⟩,q⟩,h7⟩,h8⟩,h9⟩:=J;cases tg with
  |Tuple es kx ps =>
   have(L,O):=aW B;have S:=sW (X:=X) rfl (jH _ _) h7;rw[<-q]at h8;show FC r (cE y) L O l S g.calm q (λD s H ex=>vE (fa:=λ_=>cb) g.calm g.K S.nd (λ_ z=>nomatch z) h8) (λD s H ex=>bT e _ _ (g.cx _ _ _ _ _ _) h9)
  |_=>cases A
 |.Nm,X,s',G,h=>absurd (show cb=b5 from h) k9
 |.ite c a b,X,s',G,h=>by
  have(c',a',b',p,rfl,Q):=t7 h;clear h;have h:=Q;simp only[du]at h;have ha:=mD a X _ G h.1.2;have hb:=mD b X _ G h.2;show G7 (qd c X _ G.gd h.1.1) (Kl.weak ha λD σ H z=>pZ (λj T=>(Ke.mp (show(KW a j&&KW b j)=b5 from T)).1) z) (Kl.weak hb λD σ H z=>pZ (λj T=>(Ke.mp (show(KW a j&&KW b j)=b5 from T)).2) z)
 |.Jw t is ik src body,X,s',G,h=>by
  have(tg,ab,Lo,p,rfl,Q):=t8 h;clear h;have h:=Q;rw[du,du,du]at h;show G9 G.po G.gd.calm (vJ G.gd h.1.2) (vE (fa:=λ_=>b5) G.gd.calm G.gd.K G.nd (λx _=>G.fn x) h.1.1.1) (mD body X _ G h.2) (tY h.1.1.2) λj T=>by have T:(df (j∉is)&&KW body j)=b5:=T;simpa using T
 |.Nn c body,X,s',G,h=>by
  have(c',Lo,p,rfl,Q):=xN h;clear h;have h:=Q;simp only[du]at h;show G8 G.po (qd c X _ G.gd h.1) (mD body X _ G h.2)
 |.brk,X,s',G,h=>absurd (show cb=b5 from h) k9
 |.cnt,X,s',G,h=>absurd (show cb=b5 from h) k9
 |.QS is,X,s',G,h=>absurd (show cb=b5 from h) k9
 |.R7,X,s',G,h=>absurd (show cb=b5 from h) k9
theorem mD:∀(ss:List S) (X:Cx) (a:List QO),Gs ck Γ C d X->d4 ck ss X.N X.env.scope a=b5->Kl X a (Ki C (KW ss) (execs Γ ss))
 |[],X,a,G,h=>by
  cases a with
  |nil=>show G4
  |cons _ _=>simp[d4]at h
 |s::ss,X,a,G,h=>by
  cases a with
  |nil=>simp[d4]at h
  |cons s' a =>
   simp only[d4,du]at h;have c:=IW s X s' G h.1;have e:=mD ss X a G h.2;show Fv (PS.weak c λD σ H z=>pZ (λj b=>by simp only[KW,du]at b;show b.1) z) (Kl.weak e λD σ H z=>pZ (λj b=>by simp only[KW,du]at b;show b.2) z)
end
end
section
variable{ck:Ck}{Γ:Tab}{d:Nat}{P:B'}{w:JT}{K:PySem.W.Frag}{mg:Str->Option dV}{base:Mt}
def jI{n i:Nat}(h:(start us n)[i]?=a0 (a0 (k,u))):us[i]?=a0 u/\k=if Jy u=b5 then .loc else .any:=by
 unfold start at h;by_cases a:i<us.length
 .rw[w6 (by simpa using a),i5]at h;rw[pb a]at h ⊢;simp only[Tw,R0,Ŏ]at h;have(b,c):=h;subst c;show#[rfl,b.symm]
 .rw[tr (by simp;lia),Nf]at h;split at h<;>cases h
def de{i:Nat}(h:vs[i]?=a0 v):(L2.start N vs)[i]?=a0 (a0 v):=by
 unfold L2.start;have a:i<vs.length:=(et.mp h).1;rw[w6 (by simpa using a),i5,h];rfl
def zZ(p:∀a,c a->LY H a)(h:ai (M_ P w K H c) c H us vs)(q:N.length=n):Ok (M_ P w K H c) ⟨λ_=>False,H,L2.start N vs,start us n,λ_=>[]⟩:=by
 have f:∀(j:Nat) (u:U),(start us n)[j]?≠a0 (a0 (.G',u)):=λj u e=>by
  have:=(jI e).2;split at this<;>cases this
 show#[λa o e _=>e,λa z=>z.elim,λa z=>#[p a z,λz=>z],λa z=>z.elim,?_,λi k u e=>?_,λi j k k' u u' r hk t g m x y=>?_,#[λj u r e _=>(f j u e).elim,λi j a ⟨u,_,e,_⟩=>(f i u e).elim,λj a ⟨u,_,e,_⟩=>(f j u e).elim]]
 .have:=h.len;simp[start,L2.start,q];lia
 .have(g,m):=jI e;have(v,ev,b):=h.get g;show#[v,de ev,?_];subst m;by_cases l:Jy u=b5
  .rw[ϥ l];show Rep.Jy l b
  .rw[Ϧ l];show Rep.mv (.up λa z=>.inl z) b
 .have(_,s):=jI g;subst s;split at hk<;>cases hk
def qe(h:bN Γ fn us=a0 (.ok (k,u))):us.length=fn.np/\((k=.own\/k=.loc\/k=.any)/\(∃st',execs Γ fn.body (start us fn.ns)=a0 (.ok (.rt k u),st'))\/(k=.loc/\u=.Jp/\∃st',execs Γ fn.body (start us fn.ns)=a0 (.ok .nx,st'))):=by
 unfold bN at h;split at h
 .rename_i hl;show#[hl,?_];split at h
  .rename_i e;cases h;show .inl #[.inl rfl,_,e]
  .rename_i e;cases h;show .inl #[.inr (.inl rfl),_,e]
  .rename_i e;cases h;show .inl #[.inr (.inr rfl),_,e]
  .rename_i e;cases h;show .inr #[rfl,rfl,_,e]
  .cases h
  .cases h
 .cases h
def DG{st:QO}(F:NC K fn.name i st f J)(S:eh N ps (aV st))(L:N.length=fn.ns)(O:ps.length=fn.np)
  (T:d4 ck fn.body N (aV st) (cW st)=b5) (q:∀x∈bS,mg x=bD) (t:∀g∈ck.fns,CM P w K mg base d (Γ g) g)
  (Y:∀p∈ck.gl,∃b v,mg p.1=a0 b/\RelV v b/\∀(C:Ct) S H,Rep C S H p.2 v) (Ml:∀p∈ck.Ml,CN P w K mg base d (Γ p.1) p.1 p.2):ni P w K mg base ME (d+1) f J ps (spT P w K (bN Γ fn) fn.np):=by
 show F.ok S (λvs H Q E h=>h.1.trans O.symm) (λB A outer s H vs Q E D h=>?_);have(hl,us,k,u,m,Jz,hk,Z0,y,j):=h;have Nr:=D.un;have G:Gs ck Γ (M_ P w K H m) d (qM ME P w K mg base N i (aV st) f B A outer s H E).O_ :=
  #[#[rfl,rfl,rfl,by change(A.deeper (XY i (aV st) s.heap.objs.size f B)).units+60<K7;lia,rfl,D,q,t,λp hp=>let ⟨b,v,q1,q2,q3⟩:=Y p hp;⟨b,v,q1,q2,q3 _⟩,#[Ml]],S.nd,λ_=>rfl,Ē,S.kind]
 show#[_,mD fn.body _ _ G T,#[λ_=>False,H,L2.start N vs,start us fn.ns,λ_=>[]],rfl,rfl,zZ Z0 y L,?_];have(_,Vp):=qe Jz;have I:∀(c:Cf),Ok (M_ P w K H m) c->∀v,Fu (M_ P w K H m) c k u v->Back (M_ P w K H m) H c.H c.S k u v:=λc l v r=>by
  show#[λa o e=>l.same a o e λz=>z,λa z=>l.KU a z,λe=>?_,λe=>?_,λe=>?_]
  .subst e;have(r0,e,h1,h2,h3,h4):=r;show#[r0,e,h1,h2,h4]
  .subst e;show r
  .subst e;show r
 rcases Vp with⟨_,st',e⟩|⟨rfl,rfl,st',e⟩
 .show#[_,st',e,λc ec l n kp v r=>j v c.H c.S (I c l v r)]
 .show#[_,st',e,λc ec l n kp=>j .Jp c.H c.S (I c l .Jp rfl)]
def iB(h:(eJ is us n)[i]?=a0 (a0 (k,u))):us[i]?=a0 u/\k=if i∈is then .io else if Jy u=b5 then .loc else .any:=by
 unfold eJ at h;by_cases a:i<us.length
 .rw[w6 (by simpa using a),i5,Xk]at h;rw[pb a]at h ⊢;simp only[Tw,R0,Ŏ,Rt]at h;have(b,c):=h;subst c;show#[rfl,b.symm]
 .rw[tr (by simp;lia),Nf]at h;split at h<;>cases h
def xO(a:Hh C C.H₀ is us vs)(s:N.length=n):Ok C #[λ_=>False,C.H₀,L2.start N vs,eJ is us n,λ_=>[]]:=by
 have g:∀(j:Nat) (u:U),(eJ is us n)[j]?≠a0 (a0 (.G',u)):=λj u e=>by
  have:=(iB e).2;split at this
  .cases this
  .split at this<;>cases this
 have rt:∀(j:Nat) (k:Kd) (u:U),k.root=b5->(eJ is us n)[j]?=a0 (a0 (k,u))->j∈is/\us[j]?=a0 u:=λj k u hk e=>by
  have(f,b):=iB e;show#[?_,f];by_cases z:j∈is
  .show z
  .rw[Ϧ z]at b;subst b;split at hk<;>cases hk
 show#[λa o e _=>e,λa z=>z.elim,λx z=>a.par x z,λx z=>#[a.W8 x z,a.W8 x z],?_,λi k u e=>?_,λi j k k' u u' r hk t f b l m=>?_,#[λj u r e _=>(g j u e).elim,λi j a ⟨u,_,e,_⟩=>(g i u e).elim,λj a ⟨u,_,e,_⟩=>(g j u e).elim]]
 .have:=a.len;simp[eJ,L2.start,s];lia
 .have(f,b):=iB e;by_cases z:i∈is
  .rw[ϥ z]at b;subst b;have(r,b1,c,b3):=a.io i u z f;show#[_,de b1,r,rfl,λz=>z,λz=>(a.par r z).2 c,c,b3]
  .rw[Ϧ z]at b;have(v,b1,c):=a.any i u z f;show#[v,de b1,?_];subst b;by_cases h:Jy u=b5
   .rw[ϥ h];show Rep.Jy h c
   .rw[Ϧ h];show Rep.mv (.up λa z=>.inl z) c
 .have(p,y):=rt i k u hk f;have(q,A):=rt j k' u' t b;have(B,b1,_):=a.io i u p y;have(D,c,_):=a.io j u' q A;rw[de b1]at l;rw[de c]at m;cases l;cases m;show a.inj i j _ p q b1 c
theorem vK:∀{is:List Nat}{st:aB}{ws:List U},QT is st=a0 ws->ws.length=is.length/\∀(n i:Nat),is[n]?=a0 i->∃w,ws[n]?=a0 w/\st[i]?=a0 (a0 (.io,w))
 |[],_,_,h=>by cases h;show#[rfl,λn i e=>by simp at e]
 |i::is,st,ws,h=>by
  unfold QT at h;split at h
  .rename_i u c;rw[ez]at h;have(k,h,rfl):=h;have(a,b):=vK h;show#[by simp[a],λn j e=>?_];cases n with
   |zero=>simp at e;subst e;show#[u,rfl,c]
   |succ n=>have(w,f,g):=b n j (by simpa using e);show#[w,by simpa using f,g]
  .cases h
def vL(h:zo Γ fn is body us=a0 (.ok r)):us.length=fn.np/\∃f st k u ws,execs Γ body (eJ is us fn.ns)=a0 (.ok f,st)/\WJ f=a0 (k,u)/\QT is st=a0 ws/\r=(k,.tup (u::ws)):=by
 unfold zo at h;split at h
 .rename_i hl;show#[hl,?_];split at h
  .rename_i f st e;have((k,u),a,h):=nT.mp h;rw[ez]at h;have(ws,b,c):=h;cases c;show#[f,st,k,u,ws,e,a,b,rfl]
  .cases h
 .cases h
def FL{st:QO}(F:NC K fn.name j st f fd)(S:eh N ps (aV st))(hN:N.length=fn.ns)(Lu:ps.length=fn.np)(KO:∀i∈is,KW body i=b5)
  (OZ:d4 ck body N (aV st) (cW st)=b5) (B:∀x∈bS,mg x=bD) (D:∀g∈ck.fns,CM P w K mg base d (Γ g) g)
  (Mm:∀p∈ck.gl,∃b v,mg p.1=a0 b/\RelV v b/\∀(C:Ct) S H,Rep C S H p.2 v) (Ml:∀p∈ck.Ml,CN P w K mg base d (Γ p.1) p.1 p.2):ni P w K mg base ME (d+1) f fd ps (W9 P w K (zo Γ fn is body) fn.np is):=by
 show F.ok S (λvs H Q E h=>h.1.trans Lu.symm) (λL A outer s H vs Q E O h=>?_);have(hl,us,k,u,ws,o,IO,Jz,hk,I,l):=h;have Nr:=O.un;have G:Gs ck Γ (OX P w K H o IO) d (qM ME P w K mg base N j (aV st) f L A outer s H E).O_ :=
  #[#[rfl,rfl,rfl,by change(A.deeper (XY j (aV st) s.heap.objs.size f L)).units+60<K7;lia,rfl,O,B,D,λp hp=>let ⟨b,v,q1,q2,q3⟩:=Mm p hp;⟨b,v,q1,q2,q3 _⟩,#[Ml]],S.nd,λ_=>rfl,Ē,S.kind]
 show#[_,mD body _ _ G OZ,#[λ_=>False,H,L2.start N vs,eJ is us fn.ns,λ_=>[]],rfl,rfl,xO (C:=OX P w K H o IO) I hN,?_];have(_,T,st',k',u',M9,e,q,e2,e3):=vL Jz;cases e3;have(l1,l2):=vK e2;have Y:∀(c:Cf),c.st=st'->Ok (OX P w K H o IO) c->Kept (KW body) #[λ_=>False,H,L2.start N vs,eJ is us fn.ns,λ_=>[]] c->∀v,Fu (OX P w K H o IO) c k u v->DC (OX P w K H o IO) H c.H c.S is vs ws k u v:=λc t m y v r=>by
  show#[m.same,λa z=>m.KU a z,λe=>?_,λe=>?_,l1,λn i r w g1 g2 g3=>?_]
  .subst e;have(r0,e,h1,h2,h3,h4):=r;show#[r0,e,h1,h2,h4]
  .subst e;show r
  .have(w',z1,z2):=l2 n i g1;rw[g3]at z1;cases z1;rw[<-t]at z2;have(v',J,r',y2,_,_,_,y3):=m.sl i _ _ z2;have hi:i∈is:=lg g1;rw[y.1 i (KO i hi)]at J;rw[show(L2.start N vs)[i]?=a0 (a0 (.ref r)) from de g2]at J;cases J;cases y2;show y3
 show#[T,st',e,λc t m n y=>?_];cases T with
 |nx=>cases q;show l .Jp c.H c.S (Y c t m y .Jp rfl)
 |rt k0 u0=>cases k0<;>first|(cases q;done)|(cases q;show λv r=>l v c.H c.S (Y c t m y v r))
 |_=>cases q
abbrev Fn.bd(fn:Fn):List S:=match fn.io with|some (_,b)=>b|none=>fn.body
abbrev Sg(fn:Fn):Bool:=match fn.io with|some (is,b)=>is.all λi=>KW b i|none=>b5
abbrev Sh(ck:Ck)(Pg:List Fn):Bool:=ck.fns.all (λg=>Pg.any λfn=>df (fn.name=g)&&fn.io.isNone)&&ck.Ml.all λp=>Pg.any λfn=>df (fn.name=p.1)&&df (fn.io.map (·.1)=a0 p.2)
structure Ld(ck:Ck)(K:PySem.W.Frag)(mg:Str->Option dV)(fn:Fn):Prop where
 ex:∃(qual:Str) (st:QO) (f:gi) (fd:Wc) (N ps:List Str),NC K fn.name qual st f fd/\mg fn.name=a0 (.ref f)/\Binds K fd ps []/\eh N ps (aV st)/\N.length=fn.ns/\ps.length=fn.np/\d4 ck fn.bd N (aV st) (cW st)=b5/\Sg fn=b5
def CU{Pg:List Fn}(a:(Pg.map (·.name)).Nodup)(h:fn∈Pg):Pg.find? (λg=>df (g.name=fn.name))=a0 fn:=by
 induction Pg with
 |nil=>cases h
 |cons g Pg b =>
  rw[eH,p6]at a;rcases fR.mp h with rfl|h
  .simp
  .rw[Qu];have:df (g.name=fn.name)=cb:=by
    apply ϧ;intro z;show a.1 (z▸NP h)
   rw[this];show b a.2 h
def t_(a:(Pg.map (·.name)).Nodup)(h:fn∈Pg):Ji Pg (d+1) fn.name=nF (Ji Pg d) fn:=by
 funext us
 change(match Pg.find? λg=>df (g.name=fn.name) with|some fn=>nF (Ji Pg d) fn us|none=>bD)=_;rw[CU a h]
def oD(h:fn.io=bD):nF Γ fn=bN Γ fn:=by funext us;unfold nF;rw[h]
def xP(h:fn.io=a0 (is,b)):nF Γ fn=zo Γ fn is b:=by funext us;unfold nF;rw[h]
def vM(O:(Pg.map (·.name)).Nodup)(o:Sh ck Pg=b5)(q:∀x∈bS,mg x=bD)(T:∀p∈ck.gl,∃t v,mg p.1=a0 t/\RelV v t/\∀(C:Ct) S H,Rep C S H p.2 v)
  (ld:∀fn∈Pg,Ld ck K mg fn):∀d,(∀g∈ck.fns,CM P w K mg base d (Ji Pg d g) g)/\∀p∈ck.Ml,CN P w K mg base d (Ji Pg d p.1) p.1 p.2:=by
 simp only[Sh,du,oT,Wj,Ϥ]at o;intro d;induction d with
 |zero =>
  show#[λg I=>?_,λp J=>?_]
  .have(fn,i,rfl,_):=o.1 g I;have(a,st,f,j,N,ps,F,l,m,S,B,n,_):=(ld fn i).ex;show#[fn.np,f,j,ps,#[λvs H Q E h=>h.1.trans n.symm,λA outer s H args us vs Q E _ _ _ _ h=>by have(_,us,k,u,_,e,_):=h;cases e],l,F.kp,m,λus k u e=>by cases e]
  .have(fn,i,e,_):=o.2 p J;have(a,st,f,j,N,ps,F,l,m,S,B,n,_):=(ld fn i).ex;show#[fn.np,f,j,ps,#[λvs H Q E h=>h.1.trans n.symm,λA outer s H args us vs Q E _ _ _ _ h=>by have(_,us,k,u,_,_,_,e,_):=h;cases e],e▸l,F.kp,m,λus k e=>by cases e]
 |succ d G =>
  show#[λg I=>?_,λp J=>?_]
  .have(fn,i,rfl,c):=o.1 g I;rw[U1]at c;have(a,st,f,j,N,ps,F,l,m,S,B,n,D,_):=(ld fn i).ex;rw[t_ O i,oD c];rw[show fn.bd=fn.body by unfold Fn.bd;rw[c]]at D;show#[fn.np,f,j,ps,DG F S B n D q G.1 T G.2,l,F.kp,m,λus k u e=>?_];have(h1,h2):=qe e;show#[?_,h1];rcases h2 with⟨z,_⟩|⟨z,_⟩
   .show z
   .show .inr (.inl z)
  .have(fn,i,e,c):=o.2 p J;rw[ez]at c;have((is,b),c,Y):=c;have(x,y):=p
   dsimp only at e Y
   subst e Y;have(a,st,f,j,N,ps,F,l,m,S,B,n,D,L):=(ld fn i).ex;rw[t_ O i,xP c];rw[show fn.bd=b by unfold Fn.bd;rw[c]]at D;unfold Sg at L;rw[c]at L;show#[fn.np,f,j,ps,FL F S B n (oT.mp L) D q G.1 T G.2,l,F.kp,m,λus r e=>(vL e).1]
end
abbrev z_(ns:List Int):U:=.lst (ns.map .int)
theorem oE{S:gi->Prop}:∀(ns:List Int),ai C S H (ns.map .int) (ns.map V.int)
 |[]=>rfl
 |n::ns=>#[_,_,rfl,rfl,oE ns]
def ua(h:JG C.K H a (ns.map V.int)):Rep C (LY H) H (z_ ns) (.ref a):=by
 show#[a,_,rfl,?_,oE ns];rcases h with(h|⟨o,h⟩)|h
 .show .inl #[#[_,h],.inl h]
 .show .inl #[#[_,h],.inr #[o,h]]
 .show .inr h
theorem rS:∀{l:List α},(∀a∈l,f a=g a)->l.filterMap f=l.filterMap g
 |[],_=>rfl
 |a::l,h=>by rw[Po,Po,h a (by simp),rS λb c=>h b (by simp[c])]
theorem vN:∀(l:List Str) (us:List dV),l.Nodup->us.length=l.length->l.filterMap (λn=>((l.zip us).lookup n).map (n,·))=l.zip us
 |[],_,_,_=>rfl
 |a::l,[],_,h=>nomatch h
 |a::l,u::us,b,h=>by
  rw[p6]at b;have c:=vN l us b.2 (by simpa using h);simp only[P7,Po,rr,beq_self_eq_true,Tw];congr 1
  conv=>rhs;rw[<-c]
  show rS λn d=>?_;have:(n==a)=cb:=by
   rw[ϫ];rintro rfl;show b.1 d
  rw[this]
def Aa(l:List Str)(us:List dV)(h:us.length=l.length):l.filter (λn=>((l.zip us).lookup n).isNone)=[]:=by
 rw[SX];intro n hn;induction l generalizing us with
 |nil=>cases hn
 |cons a l b =>
  cases us with
  |nil=>cases h
  |cons u us =>
   simp only[P7,rr];cases e:n==a with
   |true=>simp
   |false =>
    rcases fR.mp hn with rfl|hn
    .simp at e
    .show b us (by simpa using h) hn
def Ab{kV a b c ct:dV}(d:(as.map (·.arg)).Nodup)(hl:us.length=(as.map (·.arg)).length):
  ϝ (PySem.W.fnOf x q #[[],as,bD,[],[],bD,[]] body scope .none kV a b m c ct) #[us,[]]=pure ((as.map (·.arg)).zip us):=by
 have e:=vN _ us d hl;have f:=Aa _ us hl;change(if _ then _ else _)=_;rw[Ϧ (by simp[hl])];have g:∀k:Nat,¬(!(((as.map (·.arg)).take k).filter λn=>(((as.map (·.arg)).zip us).lookup n).isNone).isEmpty)=b5:=λk=>by
  rw[SX.mpr λn h=>SX.mp f n (Ė h)];show k9
 show(Ϧ (g _)).trans ?_;have hz:∀(l:List Str) (i j:Nat),(l.drop i).zip ((bD.getD #v[]:Array dV).toList.drop j)=[]:=λl i j=>by rw[show(bD.getD #v[]:Array dV).toList=[] from rfl,List.drop_nil,List.zip_nil_right]
 show Eq.trans (ϩ (λz=>Bind.bind (Ŭ z _ _) _) (hz _ _ _)) ?_;show ϩ (pure:List (Str×dV)->Sem (List (Str×dV))) ((ϩ (List.filterMap _) (Jq _)).trans e)
structure Me where
 fn:Fn
 i:Nat
 N:List Str
 a:gi
 c:gi
 m:dV
 cr:Obj
abbrev Me.fd(top:Nat->QO)(m:Me):Wc:=PySem.W.fnOf m.fn.name m.fn.name (gA (top m.i)) (cW (top m.i)) (aV (top m.i)) .none .none .none m.m bD (.ref m.c) .none
abbrev Me.fo(top:Nat->QO)(m:Me):Obj:=#[.type "function",bD,.func (m.fd top),#v[]]
@[reducible]def Gx:=Obj
abbrev adr(ms:List Me):List gi:=3::ms.flatMap λm=>[m.c,m.a]
abbrev LL(top:Nat->QO)(g:Gx)(ms:List Me):PySem.W.Frag:=(3,g)::ms.flatMap λm=>[(m.c,m.cr),(m.a,m.fo top)]
def vO(top:Nat->QO)(g:Gx)(ms:List Me):adr ms=(LL top g ms).map (·.1):=by
 unfold adr LL;rw[eH,List.map_flatMap];rfl
abbrev FN(v:Option (Option dV))(a:gi):Bool:=match v with|some (a0 (.ref b))=>df (b=a)|_=>cb
def CV(h:FN v a=b5):v=a0 (a0 (.ref a)):=by
 unfold FN at h;split at h
 .rw[Ϫ h]
 .cases h
abbrev nn(o:Option (Option dV)):Bool:=match o with|some bD=>b5|_=>cb
def Ho(h:nn o=b5):o=a0 bD:=by
 unfold nn at h;split at h
 .rfl
 .cases h
abbrev Hq(p:Arguments)(ps:List Str):Bool:=p.posonlyargs.isEmpty&&p.vararg.isNone&&p.kwonlyargs.isEmpty&&p.kw_defaults.isEmpty&&p.kwarg.isNone&&p.defaults.isEmpty&&df (p.args.map (·.arg)=ps)
abbrev Xb(N:List Str)(b:Nat)(a:P0):Bool:=df (a.kind=.function)&&df (a.isCoroutine=cb)&&df (a.isGenerator=cb)&&decide N.Nodup&&(N.take b).all (qa a)&&a.names.all (λy=>df (y.2≠.free))
abbrev Xc(ck:Ck)(top:Nat->QO)(K:PySem.W.Frag)(m:Me):Bool:=PySem.W.codeIn K (.ref m.c) m.fn.name&&PySem.W.keepIn K (.ref m.a)&&FN (PySem.W.nsIn K K2 m.fn.name) m.a&&Hq (gA (top m.i)) (m.N.take m.fn.np) &&
 Xb m.N m.fn.np (aV (top m.i))&&df (m.N.length=m.fn.ns)&&df (m.fn.np<=m.fn.ns)&&(d4 ck m.fn.bd m.N (aV (top m.i)) (cW (top m.i))&&Sg m.fn)
abbrev Xd(K:PySem.W.Frag)(p:Str×U):Bool:=match p.2,PySem.W.nsIn K K2 p.1 with
 |.int i,a0 (a0 (.int j _))=>df (i=j)
 |.str i,a0 (a0 (.str j _))=>df (i=j)
 |_,_=>cb
abbrev N3(ck:Ck)(top:Nat->QO)(K:PySem.W.Frag)(ms:List Me):Bool:=ms.all (Xc ck top K)&&bS.all (λy=>nn (PySem.W.nsIn K K2 y))&&ck.gl.all (Xd K)&&df (K.map (·.1)).Nodup
def Hr{K:PySem.W.Frag}(b:(K.map (·.1)).Nodup)(h:(a,o)∈K):K.lookup a=a0 o:=by
 induction K with
 |nil=>cases h
 |cons p K c =>
  rw[eH,p6]at b;rw[rr];rcases fR.mp h with rfl|h
  .simp
  .have:(a==p.1)=cb:=by
    rw[ϫ];rintro rfl;show b.1 (k8.mpr #[_,h,rfl])
   rw[this];show c b.2 h
section
def DH(c:N3 ck top (LL top g ms) ms=b5)(h:m∈ms):NC (LL top g ms) m.fn.name m.fn.name (top m.i) m.a (m.fd top)/\PySem.W.nsIn (LL top g ms) K2 m.fn.name=a0 (a0 (.ref m.a)) /\
  (∀us:List dV,us.length=(m.N.take m.fn.np).length->ϝ (m.fd top) #[us,[]]=pure ((m.N.take m.fn.np).zip us))/\eh m.N (m.N.take m.fn.np) (aV (top m.i))/\m.N.length=m.fn.ns/\(m.N.take m.fn.np).length=m.fn.np/\(d4 ck m.fn.bd m.N (aV (top m.i)) (cW (top m.i))=b5/\Sg m.fn=b5):=by
 simp only[N3,du,Ϥ]at c;have z:=oT.mp c.1.1.1 m h;simp only[Xc,du,Ϥ]at z;obtain⟨⟨⟨⟨⟨⟨⟨j,k⟩,l⟩,b⟩,d⟩,n⟩,u⟩,o⟩:=z;simp only[Xb,du,Ϥ]at d;obtain⟨⟨⟨⟨⟨s1,s2⟩,s3⟩,s4⟩,p⟩,q⟩:=d;have r:(LL top g ms).lookup m.a=a0 (m.fo top):=Hr c.2 (fR.mpr (.inr (List.mem_flatMap.mpr #[m,h,by simp])));have hl:(m.N.take m.fn.np).length=m.fn.np:=by rw[Ol];lia
 show#[Ep r j k,CV l,λus f=>?_,#[s1,s2,s3,s4,by rw[hl],λx s=>?_,λy t=>?_],n,hl,o]
 .unfold Me.fd;revert b;cases gA (top m.i) with
  |mk v as w A B C D =>
   intro b;simp only[Hq,du,KC,U1,Ϥ]at b;obtain⟨⟨⟨⟨⟨⟨rfl,rfl⟩,rfl⟩,rfl⟩,rfl⟩,rfl⟩,e⟩:=b;rw[<-e]at f ⊢;show Ab (by rw[e];show(Ń _ _).nodup s4) f
 .have:=oT.mp p x s;simpa[qa] using this
 .have:=oT.mp q y t;simpa using this
def Hs{h:Mt}{mg:Str->Option dV}(i:N3 ck top (LL top g ms) ms=b5)(X:(LL top g ms).In h)(G:h.Ns K2 mg){m:Me}(j:m∈ms):Ld ck (LL top g ms) mg m.fn :=
 let ⟨a,b,c,d,e,f,k⟩:=DH i j
 ⟨_,_,_,_,_,_,a,PySem.W.mg_of X G b,.all c,d,e,f,k⟩
def FO(d:N3 ck top (LL top g ms) ms=b5)(X:(LL top g ms).In h)(G:h.Ns K2 mg):∀p∈ck.gl,∃a v,mg p.1=a0 a/\RelV v a/\∀(C:Ct) S H,Rep C S H p.2 v:=by
 intro p e;simp only[N3,du,Ϥ]at d;have z:=oT.mp d.1.2 p e;unfold Xd at z;split at z
 .rename_i i j k b c;obtain rfl:=Ϫ z;show#[_,.int i,PySem.W.mg_of X G c,#[_,rfl],λ_ _ _=>by rw[b];rfl]
 .rename_i i j k b c;obtain rfl:=Ϫ z;show#[_,.str i,PySem.W.mg_of X G c,#[_,rfl],λ_ _ _=>by rw[b];rfl]
 .cases z
end
def walk{l:PySem.W.OpenLaw}{K:Ĺ->PySem.W.Frag}
  (B:l.most=a0 63) (D:d.params.defaults=[]) (I:ic (dp+1) XH) (J:∀(w:JT) (h:Mt),L w h->(K w.params).In h)
  (m:(Pg.map (·.name)).Nodup) (A:Sh ck Pg=b5) (O:fn.io=bD) (Q:fn∈Pg) (MX:fn.name=d.name)
  (F:∀(w:JT) (mg:Str->Option dV) (fa:gi) (h:Mt),(K w.params).In h->h.Ns K2 mg->mg d.name=a0 (.ref fa) ->
   (∀y∈bS,mg y=bD)/\(∀p∈ck.gl,∃i v,mg p.1=a0 i/\RelV v i/\∀(C:Ct) S H,Rep C S H p.2 v)/\(∀g∈Pg,Ld ck (K w.params) mg g) /\
   ∃(c:Str) (st:QO) (j:Wc) (N:List Str),NC (K w.params) fn.name c st fa j/\eh N [x] (aV st)/\N.length=fn.ns/\1=fn.np/\d4 ck fn.body N (aV st) (cW st)=b5/\∀(s:gj) (u:dV),ļ s j #[[u],[]] [(x,u)])
  (T:∀ns:List Int,ns.length<=63->Ji Pg (dp+1) fn.name [z_ ns]=a0 (.ok (.loc,.bl b5))) :
  PySem.W.WalkO q o XP L l.row.toRowW d [] (λf vs=>PySem.call f vs) :=
 L2.Bu (n:=63) (k:=dp+1) (x:=x) (CX:=λ_=>ME) (sp:=λw=>spT l.prog w (K w.params) (bN (Ji Pg dp) fn) fn.np) B (by decide) D I J
  (λw mg fa h Y G Qc=>by
   have(e,r,ld,c,st,j,N,F1,S,hN,Lu,hc,hb):=F w mg fa h Y G Qc;show#[j,hb,λbase _ _=>DG F1 S hN Lu hc e (vM m A e r ld dp).1 r (vM m A e r ld dp).2])
  (λw H a ns hl _ hS=>by
   have t:=T ns hl;rw[t_ m Q,oD O]at t;have Z2:fn.np=1:=(qe t).1.symm;show#[Z2.symm,[z_ ns],.loc,.bl b5,LY H,t,.inr (.inl rfl),λ_ z=>z,#[_,_,rfl,ua hS,rfl],λv H' S' b=>b.loc rfl])
  λ_ _ _ _ _ z=>z
def walk2{l:PySem.W.OpenLaw}{g:Ĺ->Obj}
  (z:l.most=a0 63) (A:d.params.defaults=[]) (B:ic (dp+1) XH) (o:ms.map (·.fn)=Pg) (C:(Pg.map (·.name)).Nodup) (D:Sh ck Pg=b5) (p:m.fn.io=bD) (r:m∈ms) (t:m.fn.name=d.name) (H:m.N.take m.fn.np=[x])
  (ok:∀P,N3 ck top (LL top (g P) ms) ms=b5) (T:∀ns:List Int,ns.length<=63->Ji Pg (dp+1) m.fn.name [z_ ns]=a0 (.ok (.loc,.bl b5))) :
  PySem.W.WalkO q j J (PySem.W.kHook (λP=>LL top (g P) ms) (adr ms) λP=>vO top (g P) ms).says l.row.toRowW d [] (λf vs=>PySem.call f vs) :=
 walk z A B (λw h Y=>PySem.W.kIn_of Y) C D p (o▸k8.mpr #[m,r,rfl]) t (λw mg fa h X G v=>by
  have hk:=ok w.params;have(a,b,c,e,f,k,n):=DH hk r;rw[<-t,PySem.W.mg_of X G b]at v;cases v;rw[H]at c e k;show#[λy i=>PySem.W.mg_none_of X G (Ho ?_),FO hk X G,λy i=>?_,_,_,_,_,a,e,f,k,by have:=n.1;rw[show m.fn.bd=m.fn.body by unfold Fn.bd;rw[p]]at this;show this,λs u=>.of_eq (c [u] rfl)]
  .simp only[N3,du]at hk;show oT.mp hk.1.1.2 y i
  .rw[<-o]at i;have(L,I,rfl):=k8.mp i;show Hs hk X G I) T
abbrev co(n:Str)(k l c:Nat)(r s:gi)(x y z:dV)(a b t:Nat):Obj:=#[.type "code",bD,.fields #v[.str n k,.str n (k+1),.str "/claim/cut.py" (k+2),.int l 0,.int c 0,.int 0 0,.int 0 0,.int 3 0,.ref r,.bool b5,.int t 0,.ref s,.none,x,y,z,.int a 0,.int l 0,.str "/claim/cut.py" b],#v[]]
abbrev ge(P:Ĺ)(x:Str)(k:Nat)(v:dV):DictEntry:=#[PyData.keyHash P x,.str x k,v]
end TM
namespace TM
open PySem L2
section
abbrev Run(m:M α)(st:aB)(a:α)(st':aB):Prop:=m st=a0 (.ok a,st')
def af(c:Run m st a st1)(d:Run (f a) st1 b st2):Run (m >>= f) st b st2:=by
 change M.bind m f st=_;unfold M.bind;rw[show m st=_ from c];show d
def bo:Run (pure a:M α) st a st:=rfl
def cM(h:o=a0 a):Run (M.JA o) st a st:=by subst h;rfl
def bE(h:bt rs st):Run (aM rs) st () st:=by change aM rs st=_;unfold aM;rw[ϥ h]
abbrev kv(i:Nat)(k:Kd):Kd:=if k.root=b5 then .bor i else k
def hV(h:st[i]?=a0 (a0 (k,u)))(hk:k≠.G':=by intro z;cases z):Run (dF i) st (kv i k,u) st:=by
 change dF i st=_;unfold dF;rw[h];cases k<;>first|rfl|show absurd rfl hk
def ae(h:st[i]?=a0 (a0 (.loc,u))):Run (ev Γ (.var i)) st (.loc,u) st:=hV h
def aQ(h:st[i]?=a0 (a0 (.any,u))):Run (ev Γ (.var i)) st (.any,u) st:=hV h
def aA(h:st[i]?=a0 (a0 (.own,u))):Run (ev Γ (.var i)) st (.bor i,u) st:=hV h
def au:Run (ev Γ (.cst u)) st (.loc,u) st:=rfl
def Ht:Run (ev Γ (.Px x u)) st (.loc,u) st:=rfl
def fI(c:Run (ev Γ a) st x st1)(d:Run (ev Γ b) st1 y st2)(e:bt [x,y] st2)(f:LZ op x y=a0 r):Run (ev Γ (.bin op a b)) st r st2 :=
 af c (af d (af (bE e) (cM f)))
def d5(d:Run (ev Γ a) st x st1)(e:Run (ev Γ b) st1 y st2)(f:bt [x,y] st2)(g:bC op x.2 y.2=a0 c):Run (ev Γ (.cmp op a b)) st (.loc,.bl c) st2 :=
 af d (af e (af (bE f) (af (cM g) bo)))
def aF(c:Run (ev Γ a) st x st1)(d:Run (ev Γ b) st1 y st2)(e:bt [x,y] st2)(f:iw x y.2=a0 r):Run (ev Γ (.idx a b)) st r st2 :=
 af c (af d (af (bE e) (cM f)))
def Hu:Run (OK Γ []) st bD st:=rfl
def Hv(h:Run (ev Γ e) st (k,.int i) st1):Run (OK Γ [e]) st (a0 i) st1:=af h rfl
def Hw(b:Run (ev Γ a) st x st1)(c:Run (OK Γ lo) st1 l st2)(d:Run (OK Γ e) st2 h st3)(f:bt [x] st3)(g:tI x l h=a0 r):Run (ev Γ (.NX a lo e)) st r st3 :=
 af b (af c (af d (af (bE f) (cM g))))
def ag:Run (b_ Γ []) st [] st:=rfl
def aa(a:Run (ev Γ e) st r st1)(b:Run (b_ Γ es) st1 rs st2):Run (b_ Γ (e::es)) st (r::rs) st2:=af a (af b bo)
def cA(a:Run (b_ Γ es) st rs st1)(b:bt rs st1)(c:KG f rs=a0 r):Run (ev Γ (.bi f es)) st r st1:=af a (af (bE b) (cM c))
def oF(a:Run (b_ Γ es) st rs st1)(b:bt rs st1)(c:xx f rs=a0 r):Run (ev Γ (.MR f es)) st r st1:=af a (af (bE b) (cM c))
def Ac(b:Run (ev Γ a) st x st1)(c:Run (b_ Γ es) st1 rs st2)(d:bt (x::rs) st2)(e:lY m x.2 rs=a0 r):Run (ev Γ (.MS m a es)) st r st2:=af b (af c (af (bE d) (cM e)))
def vP(h:Γ f us=a0 (.ok r))(a:isAny r.1=cb):Run (lZ Γ f us) st r st:=by
 have(k,u):=r;change lZ Γ f us st=_;unfold lZ;rw[h];cases k<;>first|rfl|cases a
def aH(a:Run (b_ Γ es) st rs st1)(b:bt rs st1)(c:Γ f (rs.map (·.2))=a0 (.ok r))(d:isAny r.1=cb:=by show rfl):Run (ev Γ (.call f es)) st r st1:=af a (af (bE b) (vP c d))
def jd(a:Run (b_ Γ es) st rs st1)(b:bt rs st1)(c:Run (dy rs) st1 us st2)(d:us.length<=dt):Run (ev Γ (.tup es)) st (.loc,.tup us) st2:=by
 show af a (af (bE b) (af c ?_));rw[ϥ d];show bo
def cj(a:Run (b_ Γ es) st rs st1)(b:bt rs st1)(c:Run (dy rs) st1 us st2)(d:us.length<=dt):Run (ev Γ (.lst es)) st (.own,.lst us) st2:=by
 show af a (af (bE b) (af c ?_));rw[ϥ d];show bo
def jJ:Run (ev Γ (.KD r)) st (.own,if r=b5 then .J8 [] else .Jc [] []) st:=rfl
def vQ:Run (lift (.own,u)) st u st:=rfl
def aL:Run (lift (.loc,u)) st u st:=rfl
def je(h:Jy u=b5):Run (lift (.any,u)) st u st:=by
 change(if Jy u=b5 then(pure u:M U) else M.fail) st=_;rw[ϥ h];rfl
def aS:Run (dy []) st [] st:=rfl
def aK(a:Run (lift r) st u st1)(b:Run (dy rs) st1 us st2):Run (dy (r::rs)) st (u::us) st2:=af a (af b bo)
def Ad(h:Run (ev Γ e) st r st1):Run (iX Γ [e]) st r st1:=h
def FP(h:Run (ev Γ e) st (k,.bl p) st1)(a:if p=b5 then Run (iX Γ (b::es)) st1 r st2 else st2=st1/\r=(.loc,.bl cb)):Run (iX Γ (e::b::es)) st r st2:=by
 show af h ?_;cases p with
 |true=>show a
 |false=>have(rfl,rfl):=a;show bo
def DI(h:Run (iX Γ es) st r st1):Run (ev Γ (.and es)) st r st1:=h
def aX(d:Run (ev Γ a) st x st1)(e:Run (ev Γ b) st1 y st2)(f:bt [x,y] st2)(g:bC op x.2 y.2=a0 c):Run (Jx Γ (.cmp op a b)) st c st2:=af d (af e (af (bE f) (cM g)))
def oG(h:Run (Jx Γ a) st c st1):Run (Jx Γ (.not a)) st (!c) st1:=af h bo
def ka(h:Run (aN Γ es) st c st1):Run (Jx Γ (.and es)) st c st1:=h
def xQ(h:Run (f9 Γ es) st c st1):Run (Jx Γ (.or es)) st c st1:=h
def dC:Run (aN Γ []) st b5 st:=rfl
def cR(h:Run (Jx Γ e) st c st1):Run (aN Γ [e]) st c st1:=h
def qf(h:Run (Jx Γ e) st b5 st1)(a:Run (aN Γ (b::es)) st1 c st2):Run (aN Γ (e::b::es)) st c st2:=af h a
def ub(h:Run (Jx Γ e) st cb st1):Run (aN Γ (e::a::es)) st cb st1:=af h bo
def oH(h:Run (Jx Γ e) st c st1):Run (f9 Γ [e]) st c st1:=h
def Hx(h:Run (Jx Γ e) st b5 st1):Run (f9 Γ (e::a::es)) st b5 st1:=af h bo
def jf(h:Run (Jx Γ e) st cb st1)(a:Run (f9 Γ (b::es)) st1 c st2):Run (f9 Γ (e::b::es)) st c st2:=af h a
def aZ:Run (fO i (.own,u)) st () (st.set i (a0 (.own,u))):=rfl
def aO:Run (fO i (.loc,u)) st () (st.set i (a0 (.loc,u))):=rfl
def mE:Run (fO i (.any,u)) st () (st.set i (a0 (.any,u))):=rfl
def Hy(a:Run (ev Γ e) st r st1)(b:Run (fO i r) st1 () st2):Run (exec Γ (.set i e)) st .nx st2:=af a (af b bo)
def Hz(b:∃k' us',st[i]?=a0 (a0 (k',.lst us'))/\k'≠.G')(c:Run (ev Γ e) st r st1)(d:Run (lift r) st1 u st2)(f:st2[i]?=a0 (a0 (k,.lst us)))(hk:k.root=b5)(hl:us.length<dt):
  Run (exec Γ (.app i e)) st .nx (st2.set i (a0 (k,.lst (us++[u])))):=by
 have(k',us',b,g):=b;show af (hV b g) (af (a:=()) (st1:=st) rfl (af c (af d (af (a:=()) ?_ bo))));change modS i (zm u) st2=_;unfold modS;rw[f];simp only[hk,if_true];have e:zm u (.lst us)=a0 (.lst (us++[u])):=by change(if us.length<dt then _ else _)=_;rw[ϥ hl]
 rw[e]
def HA(a:Run (ev Γ e) st r st1)(b:Run (retS r) st1 f st2):Run (exec Γ (.ret e)) st f st2:=af a b
def d6:Run (retS (.own,u)) st (.rt .own u) st:=rfl
def eD:Run (retS (.loc,u)) st (.rt .loc u) st:=rfl
def HB(h:Jy u=b5):Run (retS (.any,u)) st (.rt .loc u) st:=by
 change(if Jy u=b5 then(pure (Fl.rt .loc u):M Fl) else pure (.rt .any u)) st=_;rw[ϥ h];rfl
def oI(h:st[j]?=a0 (a0 (.own,u))):Run (retS (.bor j,a)) st (.rt .own u) (st.set j bD):=by
 change(match st[j]? with|some (a0 (.own,u))=>a0 (Ex.ok (Fl.rt .own u),st.set j bD)|_=>bD)=_;rw[h]
def qg(d:Run (Jx Γ c) st b5 st1)(e:Run (execs Γ a) st1 f st2):Run (exec Γ (.ite c a b)) st f st2:=af d e
def uc(d:Run (Jx Γ c) st cb st1)(e:Run (execs Γ b) st1 f st2):Run (exec Γ (.ite c a b)) st f st2:=af d e
def aq:Run (execs Γ []) st .nx st:=rfl
def gq(a:Run (exec Γ s) st .nx st1)(b:Run (execs Γ ss) st1 f st2):Run (execs Γ (s::ss)) st f st2:=af a b
def Ae(a:Run (exec Γ s) st (.rt k u) st1):Run (execs Γ (s::ss)) st (.rt k u) st1:=af a bo
def aD(a:Run (ev Γ e) st r st1)(b:Run (fO i r) st1 () st2)(c:Run (execs Γ ss) st2 f st3):Run (execs Γ (.set i e::ss)) st f st3:=gq (Hy a b) c
def jg(a:st[i]?=a0 (a0 (k',.lst us')))(b:Run (ev Γ e) st r st1)(c:Run (lift r) st1 u st2)(d:st2[i]?=a0 (a0 (k,.lst us)))(hk:k.root=b5)(hl:us.length<dt)
  (g:Run (execs Γ ss) (st2.set i (a0 (k,.lst (us++[u])))) f st3) (h:k'≠.G':=by intro z;cases z):Run (execs Γ (.app i e::ss)) st f st3:=gq (Hz #[_,_,a,h] b c d hk hl) g
def bI(a:Run (ev Γ e) st r st1)(b:Run (retS r) st1 (.rt k u) st2):Run (execs Γ (.ret e::ss)) st (.rt k u) st2:=Ae (HA a b)
def cF(d:Run (Jx Γ c) st b5 st1)(e:Run (execs Γ a) st1 .nx st2)(g:Run (execs Γ ss) st2 f st3):Run (execs Γ (.ite c a b::ss)) st f st3:=gq (qg d e) g
def aR(d:Run (Jx Γ c) st cb st1)(e:Run (execs Γ b) st1 .nx st2)(g:Run (execs Γ ss) st2 f st3):Run (execs Γ (.ite c a b::ss)) st f st3:=gq (uc d e) g
def ud(d:Run (Jx Γ c) st b5 st1)(e:Run (execs Γ a) st1 (.rt k u) st2):Run (execs Γ (.ite c a b::ss)) st (.rt k u) st2:=Ae (qg d e)
def HC(a:Run (b_ Γ src) st rs st1)(b:bt rs st1)(c:KQ ik rs=a0 xs)(d:vb rs is body=b5)(e:Run (forM t is (execs Γ body) rs xs) st1 f st2):
  Run (exec Γ (.Jw t is ik src body)) st f st2:=by
 show af a (af (bE b) (af (cM c) ?_));rw[ϥ d];show e
def cm(a:Run (b_ Γ src) st rs st1)(b:bt rs st1)(c:KQ ik rs=a0 xs)(d:vb rs is body=b5)(e:Run (forM t is (execs Γ body) rs xs) st1 .nx st2)(g:Run (execs Γ ss) st2 f st3):
  Run (execs Γ (.Jw t is ik src body::ss)) st f st3:=gq (HC a b c d e) g
def Af(h:bt rs st):Run (forM t is body rs []) st .nx st:=af (bE h) bo
def FQ(h:bt rs st)(a:Run (dO t is x) st () st1)(b:Run body st1 .nx st2)(c:Run (forM t is body rs xs) st2 f st3):Run (forM t is body rs (x::xs)) st f st3:=af (bE h) (af a (af b c))
theorem rT(I:List (Kd×U)->aB->Prop)(hs:∀xs st,I xs st->bt rs st)(Ŗ:∀x xs st,I (x::xs) st->∃st1 st2,Run (dO t is x) st () st1/\Run body st1 .nx st2/\I xs st2):
  ∀(xs:List (Kd×U)) (st:aB),I xs st->∃st',Run (forM t is body rs xs) st .nx st'/\I [] st'
 |[],st,h=>#[st,Af (hs _ _ h),h]
 |x::xs,st,h=>by
  have(s1,s2,a,b,c):=Ŗ x xs st h;have(s3,d,e):=rT I hs Ŗ xs s2 c;show#[s3,FQ (hs _ _ h) a b d,e]
def dg(h:Run (fO i r) st () st1):Run (dO cb [i] r) st () st1:=h
def aI(a:us.length=fn.np)(hk:k=.own\/k=.loc)(hs:start us fn.ns=st0)(h:Run (execs Γ fn.body) st0 (.rt k u) st):bN Γ fn us=a0 (.ok (k,u)):=by
 subst hs;unfold bN;rw[ϥ a,show execs Γ fn.body (start us fn.ns)=_ from h];rcases hk with rfl|rfl<;>rfl
def rV{cond:M Bool}(h:bt src st):Run (bJ k t cond elt src [] a) st a st:=af (bE h) bo
def mF{cond:M Bool}(h:bt src st)(d:Run (dO t (hH k) x) (lx k bD++st) () s1)(e:Run cond s1 b5 s2)(g:Run elt s2 r s3)(i:Run (lift r) s3 u s4)
  (hl:c.length<dt) (j:Run (bJ k t cond elt src xs (c++[u])) (s4.drop k) us st2):Run (bJ k t cond elt src (x::xs) c) st us st2:=by
 show af (bE h) (af (a:=a0 u) (st1:=s4.drop k) ?_ ?_)
 .change inScope k _ st=_;unfold inScope;have hh:Run (dO t (hH k) x >>= λ_=>cond >>= λb=>if b=b5 then(elt >>= λr=>lift r >>= λu=>pure (a0 u)) else pure bD) (lx k bD++st) (a0 u) s4 :=
   af d (af e (show Run (elt >>= λr=>lift r >>= λu=>pure (a0 u)) s2 (a0 u) s4 from af g (af (f:=λu=>pure (a0 u)) i rfl)))
  rw[show _=_ from hh]
 .change Run (if c.length<dt then bJ k t cond elt src xs (c++[u]) else M.fail) _ _ _;rw[ϥ hl];show j
def ue{cond:M Bool}(h:bt src st)(d:Run (dO t (hH k) x) (lx k bD++st) () s1)(e:Run cond s1 cb s2)
  (f:Run (bJ k t cond elt src xs c) (s2.drop k) us st2):Run (bJ k t cond elt src (x::xs) c) st us st2:=by
 show af (bE h) (af (a:=bD) (st1:=s2.drop k) ?_ f);change inScope k _ st=_;unfold inScope;have hh:Run (dO t (hH k) x >>= λ_=>cond >>= λb=>if b=b5 then(elt >>= λr=>lift r >>= λu=>pure (a0 u)) else pure bD) (lx k bD++st) bD s2 :=
  af d (af e (show Run (pure bD:M (Option U)) s2 bD s2 from rfl))
 rw[show _=_ from hh]
def br{src cond:List E}(a:Run (b_ Γ src) st rs st1)(b:bt rs st1)(c:KQ ik rs=a0 xs)(d:Run (bJ k t (aN Γ cond) (ev Γ e) rs xs []) st1 us st2):Run (ev Γ (.comp k t ik src cond e)) st (.own,.lst us) st2 :=
 af a (af (bE b) (af (cM c) (af d bo)))
theorem Ag{cond:M Bool}(h:bt src st)(g:Kd×U->U)(b:Kd×U->Kd):∀(xs:List (Kd×U)) (a:List U),a.length+xs.length<=dt ->
  (∀x∈xs,x.1=.loc\/x.1=.any)->(∀x∈xs,Run cond (a0 x::st) b5 (a0 x::st)/\Run elt (a0 x::st) (b x,g x) (a0 x::st)/\Run (lift (b x,g x)) (a0 x::st) (g x) (a0 x::st))->Run (bJ 1 cb cond elt src xs a) st (a++xs.map g) st
 |[],a,_,_,_=>by rw[LV,Jq];show rV h
 |x::xs,a,hl,hk,d=>by
  have(e,f,i):=d x (by simp);rw[mx]at hl;show mF (s1:=a0 x::st) (s2:=a0 x::st) (s3:=a0 x::st) (s4:=a0 x::st) h ?_ e f i ⋯ ?_
  .have(k,u):=x;rcases hk _ (k7 ..) with z|z<;>(cases z;rfl)
  .have:=Ag h g b xs (a++[g x]) (by simp;lia) (λy c=>hk y (by simp[c])) λy c=>d y (by simp[c]);rw[eH];simpa using this
theorem mG{cond:M Bool}(h:bt src st)(p:Kd×U->Bool)(g:Kd×U->U)(c:Kd×U->Kd):∀(xs:List (Kd×U)) (a:List U),a.length+xs.length<=dt ->
  (∀x∈xs,x.1=.loc\/x.1=.any)->(∀x∈xs,Run cond (a0 x::st) (p x) (a0 x::st)/\Run elt (a0 x::st) (c x,g x) (a0 x::st)/\Run (lift (c x,g x)) (a0 x::st) (g x) (a0 x::st))->Run (bJ 1 cb cond elt src xs a) st (a++(xs.filter p).map g) st
 |[],a,_,_,_=>by rw[OD,LV,Jq];show rV h
 |x::xs,a,hl,hk,f=>by
  have(d,j,l):=f x (by simp);rw[mx]at hl;have i:Run (dO cb (hH 1) x) (lx 1 bD++st) () (a0 x::st):=by
   have(k,u):=x;rcases hk _ (k7 ..) with z|z<;>(cases z;rfl)
  cases e:p x with
  |true =>
   rw[e]at d;show mF (s1:=a0 x::st) (s2:=a0 x::st) (s3:=a0 x::st) (s4:=a0 x::st) h i d j l ⋯ ?_;have:=mG h p g c xs (a++[g x]) (by simp;lia) (λy b=>hk y (by simp[b])) λy b=>f y (by simp[b]);rw[vl,ϥ e,eH];simpa using this
  |false =>
   rw[e]at d;show ue (s1:=a0 x::st) (s2:=a0 x::st) h i d ?_;have:=mG h p g c xs a ⋯ (λy b=>hk y (by simp[b])) λy b=>f y (by simp[b]);rw[vl,Ϧ (by simp[e])];show this
end
section
def HD(h:st[i]?=a0 (a0 (k,.lst us)))(hk:k.root=b5)(a:us[us.length - 1]?=a0 u):Run (ev Γ (.pop i)) st (.loc,u) (st.set i (a0 (k,.lst us.dropLast))):=by
 change zj i st=_;unfold zj;rw[h];change(if _ then _ else _)=_;rw[ϥ hk,a]
end
abbrev Jv(Pg:List Fn)(f:Str)(fn:Fn):Prop:=(Pg.find? λg=>df (g.name=f))=a0 fn
section
def ay(h:Jv Pg f fn)(us:List U)(a:fn.io=bD:=by rfl):Ji Pg (d+1) f us=bN (Ji Pg d) fn us:=by
 change(match Pg.find? λg=>df (g.name=f) with|some fn=>nF (Ji Pg d) fn us|none=>bD)=_;rw[show _=a0 fn from h];change nF _ _ _=_;unfold nF;rw[a]
end
def cV(h:0<j):LZ .mod (k,.int i) (k',.int j)=a0 (.loc,.int (i % j)):=by change(BY i j).map _=_;rw[BY,ϥ h];rfl
def Ah(h:0<j/\j<1073741824):LZ .LF (k,.int i) (k',.int j)=a0 (.loc,.int (i / j)):=by change(BX i j).map _=_;rw[BX,ϥ h];rfl
def o_(h:(-(2 ^ 64)<i/\i<2 ^ 64)\/(-(2 ^ 64)<j/\j<2 ^ 64)):LZ .mul (k,.int i) (k',.int j)=a0 (.loc,.int (i * j)):=by change(BW i j).map _=_;rw[BW,ϥ h];rfl
def pd(h:0<=j/\j<=1000000/\i.natAbs<2 ^ 64):LZ .pow (k,.int i) (k',.int j)=a0 (.loc,.int (i ^ j.toNat)):=by change(BZ i j).map _=_;rw[BZ,ϥ h];rfl
def ib:LZ .add (k,.int i) (k',.int j)=a0 (.loc,.int (i+j)):=rfl
def bb(h:JK xs i=a0 u):iw (k,.lst xs) (.int i)=a0 (kE k,u):=by change(JK xs i).map _=_;rw[h];rfl
def bc(h:JK xs i=a0 u):iw (k,.tup xs) (.int i)=a0 (kE k,u):=by change(JK xs i).map _=_;rw[h];rfl
def vR:Kd.own≠Kd.G':=by decide
local macro_rules
 |`(tactic| sizeOf_list_dec)=>`(tactic| first|exact aq|apply aD|apply jg|apply bI|exact au|exact ae rfl|exact aQ rfl|exact aA rfl|apply fI|apply d5|apply aF|apply cA|apply aH|apply Ac|apply aX|exact ag|apply aa|apply jd|apply cj|exact aS|apply aK|exact aL|exact vQ|(first|exact trivial|exact⟨⟨_,rfl,rfl⟩,trivial⟩|exact#[#[_,rfl,rfl],#[_,rfl,rfl],trivial])|exact ib|exact sJ|exact cV (by first|lia|decide)|exact Ah (by first|lia|decide)|exact o_ (by first|lia|decide)|exact pd (by decide)|exact aO|exact aZ|exact mE|exact eD|exact d6|exact oI rfl|exact nH _|exact rfl|exact vR)
abbrev uf(c k:Int):Int:=((c % 10 ^ 15+1) * 48271+k * k * 16807+k * 7919) % 2147483647 * 69621 % 2147483629
abbrev xR:Fn:=#["_law_mix",2,3,[.set 2 (.bin .add (.bin .add (.bin .mul (.bin .add (.bin .mod (.var 0) (.bin .pow (.cst (.int 10)) (.cst (.int 15)))) (.cst (.int 1))) (.cst (.int 48271))) (.bin .mul (.bin .mul (.var 1) (.var 1)) (.cst (.int 16807)))) (.bin .mul (.var 1) (.cst (.int 7919)))),.ret (.bin .mod (.bin .mul (.bin .mod (.var 2) (.cst (.int 2147483647))) (.cst (.int 69621))) (.cst (.int 2147483629)))]]
def CW(a:0<=k)(b:k<2 ^ 63):bN Γ xR [.int c,.int k]=a0 (.ok (.loc,.int (uf c k))):=by
 apply aI (st0:=[a0 (.loc,.int c),a0 (.loc,.int k),bD]) rfl (.inr rfl) rfl
 repeat' sizeOf_list_dec
abbrev vT:Fn:=#["_law_cell",2,3,[.ite (.cmp .lt (.var 1) (.bi .len [.var 0])) [.ret (.idx (.var 0) (.var 1))] [],.set 2 (.cst (.int 0)),.ite (.cmp .gt (.bi .len [.var 0]) (.cst (.int 0))) [.set 2 (.idx (.var 0) (.bin .mod (.var 1) (.bi .len [.var 0])))] [],.ret (.bin .add (.bin .mul (.cst (.int 2)) (.call "_law_mix" [.var 2,.var 1])) (.cst (.int 1)))]]
abbrev Ai(Γ:Tab):Prop:=∀c k:Int,0<=k->k<2 ^ 63->Γ "_law_mix" [.int c,.int k]=a0 (.ok (.loc,.int (uf c k)))
def vU(h:df (i<j)=c):bC .lt (.int i) (.int j)=a0 c:=by subst h;rfl
def fJ(h:df (j<i)=c):bC .gt (.int i) (.int j)=a0 c:=by subst h;rfl
def jK(h:(i==j)=c):bC .eq (.int i) (.int j)=a0 c:=by subst h;rfl
def fw:KG .len [(k,.lst xs)]=a0 (.loc,.int (xs.length:Nat)):=rfl
def kR:KG .len [(k,.tup xs)]=a0 (.loc,.int (xs.length:Nat)):=rfl
abbrev DJ(ns:List Int)(k:Nat):Int:=if k<ns.length then(ns[k]?).getD 0 else 2 * uf ((ns[k % ns.length]?).getD 0) k+1
def Aj(f:Ai Γ){k:Nat}(hk:k<2 ^ 62):bN Γ vT [.lst (ns.map .int),.int k]=a0 (.ok (.loc,.int (DJ ns k))):=by
 have b:∀c,Γ "_law_mix" [.int c,.int k]=a0 (.ok (.loc,.int (uf c k))):=λc=>f c k ⋯ ⋯;unfold DJ;by_cases h:k<ns.length
 .rw[ϥ h];have a:JK (ns.map U.int) (k:Int)=a0 (.int ((ns[k]?).getD 0)):=bQ (by simp[h]);apply aI (st0:=[a0 (.any,.lst (ns.map .int)),a0 (.loc,.int k),bD]) rfl (.inr rfl) rfl;apply ud
  all_goals repeat' (first|show vU (by simp[h])|show bb a|show HB rfl|sizeOf_list_dec)
 .rw[Ϧ h];have d:bC .lt (.int k) (.int ((ns.map U.int).length:Nat))=a0 cb:=vU (by simp;lia);by_cases hz:0<ns.length
  .have g:k % ns.length<ns.length:=Wy _ hz;have a:JK (ns.map U.int) ((k:Int) % ((ns.map U.int).length:Nat))=a0 (.int ((ns[k % ns.length]?).getD 0)):=by
    rw[cK,show(k:Int) % (ns.length:Nat)=((k % ns.length:Nat):Int) by lia];show bQ (by simp[g])
   have i:(0:Int)<((ns.map U.int).length:Nat):=by simp;lia
   apply aI (st0:=[a0 (.any,.lst (ns.map .int)),a0 (.loc,.int k),bD]) rfl (.inr rfl) rfl;apply aR
   all_goals repeat' (first|show d|sizeOf_list_dec)
   apply cF
   all_goals repeat' (first|show fJ (by simp;lia)|show cV i|show bb a|show b _|sizeOf_list_dec)
  .have e:ns=[]:=Z3 ⋯;subst e;apply aI (st0:=[a0 (.any,.lst ([].map .int)),a0 (.loc,.int k),bD]) rfl (.inr rfl) rfl;apply aR
   all_goals repeat' (first|show d|sizeOf_list_dec)
   apply aR
   all_goals repeat' (first|show b _|sizeOf_list_dec)
abbrev qh:Fn:=#["_law_drawn",2,5,[.set 2 (.lst []),.set 3 (.bin .LF (.var 0) (.cst (.int 2))),.Jw cb [4] .JQ [.var 1] [.ite (.cmp .eq (.bin .mod (.var 0) (.cst (.int 2))) (.cst (.int 0))) [.app 2 (.bin .mod (.var 3) (.cst (.int 64))),.set 3 (.bin .LF (.var 3) (.cst (.int 64)))] [.app 2 (.bin .mod (.bin .LF (.call "_law_mix" [.var 0,.var 4]) (.cst (.int 7))) (.cst (.int 4096)))]],.ret (.var 2)]]
def rW(x:Kd×U):KQ .JQ [x]=xy x:=rfl
def qi(h:n<2 ^ 62):KQ .JQ [(k,.int (n:Nat))]=a0 ((hH n).map λi:Nat=>(Kd.loc,U.int (0+(i:Int)))):=by
 rw[rW,xy,ϥ ⋯,OU]
abbrev eX(n:Nat)(xs:List (Kd×U)):Prop:=∃i,i<=n/\xs=((hH n).drop i).map λi:Nat=>(Kd.loc,U.int (0+(i:Int)))
def eX.cons(h:eX n (x::xs)):∃i:Nat,i<n/\x=(.loc,.int (i:Nat))/\eX n xs/\i+xs.length+1=n:=by
 have(i,b,e):=h;by_cases a:i<n
 .rw[RT (by simpa using a),eH]at e;cases e;show#[i,a,by simp,#[i+1,a,rfl],by simp;lia]
 .rw[ù (by simp;lia)]at e;cases e
def eX.all(n:Nat):eX n ((hH n).map λi:Nat=>(Kd.loc,U.int (0+(i:Int)))):=#[0,nH _,rfl]
def xS(r:Ai Γ)(y:n<1000):∃a:List Int,a.length=n/\(∀d∈a,0<=d)/\bN Γ qh [.int c,.int n]=a0 (.ok (.own,.lst (a.map .int))):=by
 have hsz:(1000:Nat)<=dt:=by decide
 let I:List (Kd×U)->aB->Prop:=λxs st=>∃(a:List Int) (us:List U) (left:Int) (o:Option (Kd×U)),st=[a0 (.loc,.int c),a0 (.loc,.int n),a0 (.own,.lst us),a0 (.loc,.int left),o]/\us=a.map .int/\(∀d∈a,0<=d)/\a.length+xs.length=n/\eX n xs;have b:=rT (t:=cb) (is:=[4]) (body:=execs Γ [.ite (.cmp .eq (.bin .mod (.var 0) (.cst (.int 2))) (.cst (.int 0)))
    [.app 2 (.bin .mod (.var 3) (.cst (.int 64))),
    .set 3 (.bin .LF (.var 3) (.cst (.int 64)))]
    [.app 2 (.bin .mod (.bin .LF (.call "_law_mix" [(.var 0),(.var 4)]) (.cst (.int 7))) (.cst (.int 4096)))]]) (rs:=[(.loc,.int n)]) I (λ_ _ _=>trivial) (λx xs st s=>by
  have(a,us,left,o,e,f,g,hl,u):=s;subst e;have l:us.length=a.length:=by rw[f];simp
  have(i,A,rfl,m,p):=u.cons;have v:Γ "_law_mix" [.int c,.int i]=a0 (.ok (.loc,.int (uf c i))):=r c i ⋯ ⋯;rw[mx]at hl;by_cases q:c % 2=0
  .show#[[a0 (.loc,.int c),a0 (.loc,.int n),a0 (.own,.lst us),a0 (.loc,.int left),a0 (.loc,.int i)],[a0 (.loc,.int c),a0 (.loc,.int n),a0 (.own,.lst (us++[.int (left % 64)])),a0 (.loc,.int (left / 64)),a0 (.loc,.int i)],aO,?_,#[a++[left % 64],_,left / 64,_,rfl,by simp[f],?_,by simp;lia,m]]
   .apply cF
    all_goals repeat' (first|show jK (by simp[q])|show(by rw[l];lia)|sizeOf_list_dec)
   .intro d h;rcases hZ.mp h with z|z
    .show g d z
    .rw[kj.mp z];lia
  .show#[[a0 (.loc,.int c),a0 (.loc,.int n),a0 (.own,.lst us),a0 (.loc,.int left),a0 (.loc,.int i)],[a0 (.loc,.int c),a0 (.loc,.int n),a0 (.own,.lst (us++[.int (uf c i / 7 % 4096)])),a0 (.loc,.int left),a0 (.loc,.int i)],aO,?_,#[a++[uf c i / 7 % 4096],_,left,_,rfl,by simp[f],?_,by simp;lia,m]]
   .apply aR
    all_goals repeat' (first|show jK (by simp[q])|show v|show(by rw[l];lia)|sizeOf_list_dec)
   .intro d h;rcases hZ.mp h with z|z
    .show g d z
    .rw[kj.mp z];lia)
 have(st',w,a,us,left,o,e,f,g,hl,_):=b ((hH n).map λi:Nat=>(Kd.loc,U.int (0+(i:Int)))) [a0 (.loc,.int c),a0 (.loc,.int n),a0 (.own,.lst []),a0 (.loc,.int (c / 2)),bD] ⟨[],[],c / 2,bD,rfl,rfl,by simp,by simp,eX.all n⟩;subst e f;show#[a,by simpa using hl,g,?_];apply aI (st0:=[a0 (.loc,.int c),a0 (.loc,.int n),bD,bD,bD]) rfl (.inl rfl) rfl
 repeat' sizeOf_list_dec
 have j:=qi (k:=.loc) (n:=n) ⋯;refine' cm (rs:=[(.loc,.int n)]) (st1:=[a0 (.loc,.int c),a0 (.loc,.int n),a0 (.own,.lst []),a0 (.loc,.int (c / 2)),bD]) _ trivial j rfl w _
 all_goals repeat' sizeOf_list_dec
end TM
local macro_rules
 |`(tactic| sizeOf_list_dec)=>`(tactic| first|exact TM.aq|apply TM.aD|apply TM.jg|apply TM.bI|exact TM.au|exact TM.ae rfl|exact TM.aQ rfl|exact TM.aA rfl|apply TM.fI|apply TM.d5|apply TM.aF|apply TM.cA|apply TM.aH|apply TM.Ac|apply TM.aX|exact TM.ag|apply TM.aa|apply TM.jd|apply TM.cj|exact TM.aS|apply TM.aK|exact TM.aL|exact TM.vQ|(first|exact trivial|exact⟨⟨_,rfl,rfl⟩,trivial⟩|exact#[#[_,rfl,rfl],#[_,rfl,rfl],trivial])|exact TM.ib|exact TM.sJ|exact TM.cV (by first|lia|decide)|exact TM.Ah (by first|lia|decide)|exact TM.o_ (by first|lia|decide)|exact TM.pd (by decide)|exact TM.aO|exact TM.aZ|exact TM.mE|exact TM.eD|exact TM.d6|exact TM.oI rfl|exact nH _|exact rfl|exact TM.vR)
namespace JB
open PySem L2
abbrev cq(l:List Nat):Prop:=fE l=b5\/∃a b k,l=a++47::b/\fE a=b5/\2<=k/\k<=99/\(sT k).cps.toList=b
def len_list(x:Str):x.length=x.cps.toList.length:=by simp[à]
def jL(a:0<=k)(b:k<=99):(sT k).length<=2:=by
 have(m,rfl):=Wt a;have c:m<100:=by lia
 clear a b;revert m;decide +kernel
def cq.len(h:cq l):1<=l.length/\l.length<=11:=by
 rcases h with h|⟨a,b,k,rfl,h,e,c,d⟩
 .have:=(cv l).mp h;lia
 .have:=(cv a).mp h;have hl:=jL (k:=k) ⋯ c;rw[len_list,d]at hl;simp;lia
def cq.IX(h:cq x.cps.toList):∃y r,SJ x Ds=y::r/\fE y.cps.toList=b5:=by
 rcases h with h|⟨a,b,k,e,h,_⟩
 .show#[x,[],sR (qT h),h]
 .have(r,c):=yE e (qT h) (by decide);show#[_,r,c,by simpa using h]
theorem fK:∀(ps:List Str) (a:Array Nat),(ps.foldl (λa p=>a++vr.cps++p.cps) a).toList=a.toList++(ps.map λp=>p.cps.toList).flatten
 |[],a=>by simp
 |p::ps,a=>by
  rw[WB,fK ps];have:vr.cps=#v[]:=rfl;simp[this]
def join_list(ts:List Str):(Zc vr ts).cps.toList=(ts.map λp=>p.cps.toList).flatten:=by
 cases ts with
 |nil=>rfl
 |cons t ts =>
  change(ts.foldl (λa p=>a++vr.cps++p.cps) t.cps).toList=_;rw[fK];simp
abbrev one(c:Nat):Str:=#[#v[c]]
def join_ones(a:List Nat):(Zc vr (a.map one)).cps.toList=a:=by
 rw[join_list,fx];induction a with
 |nil=>rfl
 |cons c a b=>rw[eH,VZ,b];rfl
def rX(a:List Nat)(h:a.length<=100):Ι vr (a.map one)=b5:=by
 unfold Ι;have e:=PySem.StrLaws.joinTotal vr (a.map one);have b:vr.length=0:=rfl;have es:((a.map one).map (·.length)).sum=a.length:=by
  rw[fx];clear h e;induction a with
  |nil=>rfl
  |cons c a d=>rw[eH,Qx,d];change 1+a.length=a.length+1;lia
 rw[e,b,es];have f:a.length+(a.map one).length * 0<=100:=by lia
 revert f;generalize a.length+(a.map one).length * 0=m;revert m;decide
def FR(x:Str)(j:Nat):(PySem.StrLaws.sliceText x bD (a0 (j:Int))).cps.toList=x.cps.toList.take j:=by
 by_cases h:j<=x.cps.toList.length
 .rw[PySem.StrLaws.sliceText_to (x:=x) #[⋯,⋯]];simp
 .have e:PySem.StrLaws.sliceText x bD (a0 (j:Int))=PySem.StrLaws.sliceText x bD (a0 (x.length:Int)):=by
   unfold PySem.StrLaws.sliceText;have hl:=len_list x;have:PySem.Builtin.Str.strSliceIndices bD (a0 (j:Int)) 1 x.length=PySem.Builtin.Str.strSliceIndices bD (a0 (x.length:Int)) 1 x.length:=by
    have a:¬((j:Int)<0):=by lia
    have b:¬((x.length:Int)<0):=by lia
    have c:min (j:Int) (x.length:Int)=x.length:=by lia
    simp[PySem.Builtin.Str.strSliceIndices,a,b,c]
   rw[this]
  have hl:=len_list x;rw[e,PySem.StrLaws.sliceText_to (x:=x) #[⋯,⋯],Ŷ,Qa (l:=x.cps.toList) (i:=j) ⋯];change(x.cps.toList.take ((x.length:Int) - 0).toNat).toArray.toList=_;rw[Qa ⋯]
def xT(d:fE a=b5)(e:∀c∈b,low c=b5):fE ((a++b).take 8)=b5:=by
 have h:=(cv a).mp d;show(cv _).mpr #[by simp;lia,by simp;lia,λc f=>?_];have g:=Ė f;rcases hZ.mp g with m|m
 .show h.2.2 c m
 .have:=e c m;simp[low]at this;lia
def kb(a:∀c∈b,low c=b5)(d:1<=b.length)(e:b.length<=8):fE b=b5 :=
 (cv b).mpr #[d,e,λc f=>by have:=a c f;simp[low]at this;lia]
abbrev small:Str:="abcdefghijklmnopqrstuvwxyz"
def ug:small.cps.toList=(hH 26).map (97+·):=by decide +kernel
def mH(a:0<=k)(b:k<26):JK small.cps.toList k=a0 (97+k.toNat):=by
 have(j,rfl):=Wt a;show bQ ?_;rw[ug,i5,Ģ ⋯];rfl
def uh(h:j<26):low (97+j)=b5:=by simp[low];lia
abbrev oJ(k:Nat):Str:=#[#v[97+k / 26,97+k % 26]]
def ui(h:k<40):fE (oJ k).cps.toList=b5:=by
 show kb (λc a=>?_) (by change 1<=2;decide) (by change 2<=8;decide);have b:c=97+k / 26\/c=97+k % 26:=by simpa[oJ] using a
 rcases b with rfl|rfl
 .show uh ⋯
 .show uh ⋯
theorem d7 [DecidableEq α]:∀{l m:List α},l.Nodup->(∀x∈l,x∈m)->l.length<=m.length
 |[],_,_,_=>nH _
 |x::l,m,c,h=>by
  have(d,e):=p6.mp c;have a:=h x k7;have f:=d7 (l:=l) (m:=m.erase x) e λy b=>(Xg (by rintro rfl;show d b)).mpr (h y (nC _ b));rw[è a]at f;have:0<m.length:=Wu a;rw[mx];lia
abbrev cc:List Str:=(hH 40).map oJ
def qj:cc.Nodup:=by
 decide +kernel
def uj(names:List Str)(h:names.length<40):∃x∈cc,x∉names:=by
 apply uk;intro a;have:∀x∈cc,x∈names:=λx b=>uk λc=>a #[x,b,c];have:=d7 qj this;simp[cc]at this;lia
end JB
namespace TM
open PySem L2 JB
def qk(a:0<=z)(h:z<2 ^ 62):KQ .JQ [(k,.int z)]=a0 ((hH z.toNat).map λi:Nat=>(Kd.loc,U.int (0+(i:Int)))):=by
 rw[rW,xy,ϥ ⋯]
def lz(a:x.length<=dt)(h:JK x.cps.toList i=a0 c):iw (k,.str x) (.int i)=a0 (.loc,.str (JB.one c)):=by
 simp only[iw];rw[ϥ a,h];rfl
def mI:small.length<=dt:=by decide
def cB{a:List Int}{i:Nat}(h:i<a.length):JK (a.map U.int) (i:Int)=a0 (.int ((a[i]?).getD 0)):=bQ (by simp[h])
theorem dh:∀(ss:List Str),strsOf (ss.map U.str)=a0 ss
 |[]=>rfl
 |s::ss=>by change(strsOf (ss.map U.str)).map (s::·)=_;rw[dh ss];rfl
abbrev ql(a:E):Fn:=#["_law_name",2,6,[.set 2 (.cst (.str "abcdefghijklmnopqrstuvwxyz")),.set 3 (.MS .join (.cst (.str "")) [.comp 1 cb .JQ [.bin .add (.cst (.int 1)) (.bin .mod (.idx (.var 0) (.cst (.int 0))) (.cst (.int 8)))] [] (.idx (.var 3) (.bin .mod (.idx (.var 1) (.bin .add (.cst (.int 4)) (.var 0))) (.cst (.int 26))))]),.ite (.cmp .gt (.bi .len [.var 1]) (.cst (.int 0))) [.set 4 (.idx (.MS .split (.idx (.var 1) (.bin .mod (.idx (.var 0) (.cst (.int 1))) (.bi .len [.var 1]))) [.cst (.str "/")]) (.cst (.int 0))),.ite (.cmp .eq (.bin .mod (.idx (.var 0) (.cst (.int 2))) (.cst (.int 4))) (.cst (.int 1))) [.set 3 (.NX (.bin .add (.var 4) (.var 3)) [] [.cst (.int 8)])] [],.ite (.cmp .eq (.bin .mod (.idx (.var 0) (.cst (.int 2))) (.cst (.int 4))) (.cst (.int 2))) [.set 3 (.bin .add (.bin .add (.var 4) (.cst (.str "/"))) (.bi .str [.bin .add (.cst (.int 2)) (.bin .mod (.idx (.var 0) (.cst (.int 3))) a)]))] []] [],.set 5 (.bin .add (.lst [.var 3]) (.comp 1 cb .JQ [.cst (.int 40)] [] (.bin .add (.idx (.var 3) (.bin .LF (.var 0) (.cst (.int 26)))) (.idx (.var 3) (.bin .mod (.var 0) (.cst (.int 26))))))),.ret (.idx (.comp 1 cb .seq [.var 5] [.cmp .Je (.var 0) (.var 2)] (.var 0)) (.cst (.int 0)))]]
abbrev CY(b:E):Prop:=∀(Γ:Tab) (a:List Int),12<=a.length->(∀d∈a,0<=d)->∃m:Int,0<m/\m<=98/\∀o1 o2 o3 o4 o5,Run (ev Γ b) [a0 (.any,.lst (a.map .int)),o1,o2,o3,o4,o5] (.loc,.int m) [a0 (.any,.lst (a.map .int)),o1,o2,o3,o4,o5]
@[reducible]def HE:E:=.cst (.int 98)
def CZ:CY HE:=λ_ _ _ _=>#[98,by decide,by decide,λ_ _ _ _ _=>au]
section
variable{Γ:Tab}{ds:List Int}
abbrev dd(ds:List Int)(i:Nat):Int:=(ds[i]?).getD 0
def d8(a:∀d∈ds,0<=d)(i:Nat):0<=dd ds i:=by
 unfold dd;cases e:ds[i]? with
 |none=>simp
 |some d=>show a d (lg e)
def qm(q:12<=ds.length)(g:∀d∈ds,0<=d):∃b:List Nat,(∀c∈b,low c=b5)/\1<=b.length/\b.length<=8 /\
  Run (ev Γ (.comp 1 cb .JQ [.bin .add (.cst (.int 1)) (.bin .mod (.idx (.var 0) (.cst (.int 0))) (.cst (.int 8)))] [] (.idx (.var 3) (.bin .mod (.idx (.var 1) (.bin .add (.cst (.int 4)) (.var 0))) (.cst (.int 26))))))
   [a0 (.any,.lst (ds.map .int)),o1,a0 (.loc,.str small),o3,o4,o5] (.own,.lst ((b.map JB.one).map .str)) [a0 (.any,.lst (ds.map .int)),o1,a0 (.loc,.str small),o3,o4,o5]:=by
 have hz:=d8 g 0;let n:=(1+dd ds 0 % 8).toNat;have h:n<=8/\1<=n:=by change(1+dd ds 0 % 8).toNat<=8/\1<=(1+dd ds 0 % 8).toNat;lia
 let f:Nat->Nat:=λi=>97+(dd ds (4+i) % 26).toNat;show#[(hH n).map f,?_,by simp;show h.2,by simp;show h.1,?_]
 .intro c m;have(i,_,rfl):=k8.mp m;have:=d8 g (4+i);show uh ⋯
 .have a:Run (bJ 1 cb (aN Γ []) (ev Γ (.idx (.var 3) (.bin .mod (.idx (.var 1) (.bin .add (.cst (.int 4)) (.var 0))) (.cst (.int 26))))) [(.loc,.int (1+dd ds 0 % 8))] ((hH n).map λi:Nat=>(Kd.loc,U.int (0+(i:Int)))) [])
    [a0 (.any,.lst (ds.map .int)),o1,a0 (.loc,.str small),o3,o4,o5] ([]++((hH n).map λi:Nat=>(Kd.loc,U.int (0+(i:Int)))).map λx=>match x.2 with|.int j=>.str (JB.one (97+(dd ds (4+j.toNat) % 26).toNat))|u=>u) [a0 (.any,.lst (ds.map .int)),o1,a0 (.loc,.str small),o3,o4,o5]:=by
   have r:(8:Nat)<=dt:=by decide
   show Ag (by show trivial) _ (λ_=>.loc) _ _ (by simp;lia) (λx a=>?_) (λx a=>?_)
   .have(i,_,rfl):=k8.mp a;show .inl rfl
   .have(i,o,rfl):=k8.mp a;have s:i<n:=by simpa using o
    have l:JK (ds.map U.int) (4+(0+(i:Int)))=a0 (.int (dd ds (4+i))):=by
     rw[show(4+(0+(i:Int)))=((4+i:Nat):Int) by lia];show cB ⋯
    have t:=d8 g (4+i);have hs:=mH (k:=dd ds (4+i) % 26) ⋯ ⋯;show#[dC,?_,aL];simp only[WG,OU];rw[WG]at l
    repeat' (first|show bb l|show lz mI hs|sizeOf_list_dec)
  have e:((hH n).map f).map JB.one=(hH n).map λi=>JB.one (97+(dd ds (4+i) % 26).toNat):=by rw[fx];rfl
  rw[e];have p:([]++((hH n).map λi:Nat=>(Kd.loc,U.int (0+(i:Int)))).map λx=>match x.2 with|.int j=>U.str (JB.one (97+(dd ds (4+j.toNat) % 26).toNat))|u=>u)=((hH n).map λi=>JB.one (97+(dd ds (4+i) % 26).toNat)).map U.str:=by
   rw[hY,fx,fx];apply tj;intro i _;simp
  rw[p]at a;show br (rs:=[(.loc,.int (1+dd ds 0 % 8))]) ?_ trivial (qk ⋯ ⋯) a
  repeat' (first|show bb (cB (i:=0) ⋯)|sizeOf_list_dec)
def kS(h:x.length+y.length<=dt):LZ .add (k,.str x) (k',.str y)=a0 (.loc,.str (x++y)):=by
 simp only[LZ,zg];rw[ϥ h]
theorem gK:∀(ss:List Str) (n:Nat),cZ n (ss.map U.str)=b5
 |[],n=>by simp[cZ]
 |s::ss,n=>by simp only[eH,cZ,gK ss n,Yl];cases n<;>rfl
theorem rY(x:Str):∀(ss:List Str),((ss.map U.str).any λy=>b9 y (.str x))=df (x∈ss)
 |[]=>by simp
 |s::ss=>by
  rw[eH,Yk,rY x ss];have:b9 (.str s) (.str x)=df (x=s):=by
   simp only[b9];by_cases h:x=s
   .subst h;simp
   .have h':s≠x:=λz=>h z.symm;simp[h,h']
  rw[this,Ma];simp
def C0(x:Str)(ss:List Str):OI (.str x) (ss.map U.str)=a0 (df (x∈ss)):=by
 unfold OI;rw[ϥ #[by rfl,gK ss 50],rY]
def dE{x:Str}{ss:List Str}:bC .Je (.str x) (.lst (ss.map U.str))=a0 (df (x∉ss)):=by
 change(OI (.str x) (ss.map U.str)).map (!·)=_;rw[C0];simp
def rZ:Run (ev Γ (.comp 1 cb .JQ [.cst (.int 40)] [] (.bin .add (.idx (.var 3) (.bin .LF (.var 0) (.cst (.int 26)))) (.idx (.var 3) (.bin .mod (.var 0) (.cst (.int 26)))))))
   [o0,o1,a0 (.loc,.str small),o3,o4,o5] (.own,.lst (cc.map .str)) [o0,o1,a0 (.loc,.str small),o3,o4,o5]:=by
 have g:(100:Nat)<=dt:=by decide
 have a:Run (bJ 1 cb (aN Γ []) (ev Γ (.bin .add (.idx (.var 3) (.bin .LF (.var 0) (.cst (.int 26)))) (.idx (.var 3) (.bin .mod (.var 0) (.cst (.int 26)))))) [(.loc,.int 40)] ((hH 40).map λi:Nat=>(Kd.loc,U.int (0+(i:Int)))) [])
   [o0,o1,a0 (.loc,.str small),o3,o4,o5] ([]++((hH 40).map λi:Nat=>(Kd.loc,U.int (0+(i:Int)))).map λx=>match x.2 with|.int j=>.str (oJ j.toNat)|u=>u) [o0,o1,a0 (.loc,.str small),o3,o4,o5]:=by
  show Ag (by show trivial) _ (λ_=>.loc) _ _ (by simp;lia) (λx a=>?_) (λx a=>?_)
  .have(i,_,rfl):=k8.mp a;show .inl rfl
  .have(i,e,rfl):=k8.mp a;have h:i<40:=by simpa using e
   show#[dC,?_,aL];simp only[WG,OU];have c:=mH (k:=(i:Int) / 26) ⋯ ⋯;have d:=mH (k:=(i:Int) % 26) ⋯ ⋯;have f:((i:Int) / 26).toNat=i / 26:=by lia
   have b:((i:Int) % 26).toNat=i % 26:=by lia
   rw[f]at c;rw[b]at d;have ad:LZ .add (.loc,.str (JB.one (97+i / 26))) (.loc,.str (JB.one (97+i % 26)))=a0 (.loc,.str (oJ i)):=by
    have:=kS (k:=.loc) (k':=.loc) (x:=JB.one (97+i / 26)) (y:=JB.one (97+i % 26)) (by change 1+1<=dt;lia);rw[this];rfl
   repeat' (first|show lz mI c|show lz mI d|show ad|sizeOf_list_dec)
 have b:([]++((hH 40).map λi:Nat=>(Kd.loc,U.int (0+(i:Int)))).map λx=>match x.2 with|.int j=>U.str (oJ j.toNat)|u=>u)=cc.map U.str:=by
  rw[hY,fx,cc,fx];apply tj;intro i _;simp
 rw[b]at a;show br (rs:=[(.loc,.int 40)]) (by repeat' sizeOf_list_dec) trivial (qk ⋯ ⋯) a
def xU{names ts:List Str}(hl:ts.length<=1000):Run (ev Γ (.comp 1 cb .seq [.var 5] [.cmp .Je (.var 0) (.var 2)] (.var 0)))
   [o0,a0 (.any,.lst (names.map .str)),o2,o3,o4,a0 (.own,.lst (ts.map .str))] (.own,.lst ((ts.filter λx=>df (x∉names)).map .str)) [o0,a0 (.any,.lst (names.map .str)),o2,o3,o4,a0 (.own,.lst (ts.map .str))]:=by
 have c:(1000:Nat)<=dt:=by decide
 have a:=mG (cond:=aN Γ [.cmp .Je (.var 0) (.var 2)]) (elt:=ev Γ (.var 0)) (src:=[(.bor 5,.lst (ts.map .str))]) (st:=[o0,a0 (.any,.lst (names.map .str)),o2,o3,o4,a0 (.own,.lst (ts.map .str))]) #[#[.own,rfl,rfl],trivial]
  (λx=>match x.2 with|.str y=>df (y∉names)|_=>cb) (λx=>x.2) (λ_=>.loc) ((ts.map U.str).map λu=>(kE (.bor 5),u)) [] (by simp;lia) (λx a=>by have(u,_,rfl):=k8.mp a;show .inl rfl) (λx a=>by
   have(u,b,rfl):=k8.mp a;have(y,_,rfl):=k8.mp b;show#[cR ?_,ae rfl,aL]
   repeat' (first|show dE|sizeOf_list_dec))
 have e:([]++(((ts.map U.str).map λu=>(kE (.bor 5),u)).filter λx=>match x.2 with|.str y=>df (y∉names)|_=>cb).map λx=>x.2)=(ts.filter λx=>df (x∉names)).map U.str:=by
  rw[hY,Ū,Ū,fx,fx];rfl
 rw[e]at a;show br (rs:=[(.bor 5,.lst (ts.map .str))]) (by repeat' sizeOf_list_dec) #[#[.own,rfl,rfl],trivial] rfl a
end
section
variable{Γ:Tab}{ds:List Int}
def xV{names:List Str}(d:names.length<40)(f:cq a.cps.toList):∃x st',cq x.cps.toList/\x∉names /\
  Run (execs Γ [.set 5 (.bin .add (.lst [.var 3]) (.comp 1 cb .JQ [.cst (.int 40)] [] (.bin .add (.idx (.var 3) (.bin .LF (.var 0) (.cst (.int 26)))) (.idx (.var 3) (.bin .mod (.var 0) (.cst (.int 26))))))),
  .ret (.idx (.comp 1 cb .seq [(.var 5)] [(.cmp .Je (.var 0) (.var 2))] (.var 0)) (.cst (.int 0)))]) [o0,a0 (.any,.lst (names.map .str)),a0 (.loc,.str small),a0 (.loc,.str a),o4,bD] (.rt .loc (.str x)) st':=by
 have o:(1000:Nat)<=dt:=by decide
 have(y,g,i):=uj names d;have j:(a::cc).filter (λx=>df (x∉names))≠[]:=λz=>by
  have:y∈(a::cc).filter (λx=>df (x∉names)):=oa.mpr #[nC _ g,by simpa using i];rw[z]at this;cases this
 cases e:(a::cc).filter (λx=>df (x∉names)) with
 |nil=>show absurd e j
 |cons x b =>
  have l:x∈(a::cc).filter (λx=>df (x∉names)):=by rw[e];simp
  have(m,n):=oa.mp l;have c:=xU (Γ:=Γ) (names:=names) (ts:=a::cc) (by simp[cc]) (o0:=o0) (o2:=a0 (.loc,.str small)) (o3:=a0 (.loc,.str a)) (o4:=o4);rw[e]at c;have ad:LZ .add (.own,.lst [.str a]) (.own,.lst (cc.map U.str))=a0 (.own,.lst ((a::cc).map U.str)):=by
   simp only[LZ,zg];rw[ϥ #[by simp[cc];lia,rfl,rfl]];rfl
  show#[x,[o0,a0 (.any,.lst (names.map .str)),a0 (.loc,.str small),a0 (.loc,.str a),o4,a0 (.own,.lst ((a::cc).map .str))],?_,by simpa using n,?_]
  .rcases fR.mp m with rfl|h
   .show f
   .have(k,hk,rfl):=k8.mp h;show .inl (ui (by simpa using hk))
  .show aD (st2:=[o0,a0 (.any,.lst (names.map .str)),a0 (.loc,.str small),a0 (.loc,.str a),o4,a0 (.own,.lst ((a::cc).map .str))]) (fI (x:=(.own,.lst [.str a])) (cj (aa (ae rfl) ag) ∅ (aK aL aS) (by change 1<=dt;lia)) rZ trivial ad) aZ ?_;show bI (aF c au trivial (bb (by change JK _ ((0:Nat):Int)=_;show bQ rfl))) eD
def Ak(Q:CY n)(D:12<=ds.length)(k:∀d∈ds,0<=d){names:List Str}(T:names.length<40)(Y:∀x∈names,cq x.cps.toList):
  ∃x,cq x.cps.toList/\x∉names/\bN Γ (ql n) [.lst (ds.map .int),.lst (names.map .str)]=a0 (.ok (.loc,.str x)):=by
 have(m,G,ab,Z4):=Q Γ ds D k;have h8:(1000:Nat)<=dt:=by decide
 have(b,H,Z5,I,Rb):=qm (Γ:=Γ) D k (o1:=a0 (.any,.lst (names.map .str))) (o3:=bD) (o4:=bD) (o5:=bD);have Rc:lY .join (.str "") [(.own,.lst ((b.map JB.one).map U.str))]=a0 (.loc,.str (Zc vr (b.map JB.one))):=by
  change(strsOf ((b.map JB.one).map U.str)).bind _=_;rw[dh];change(if Ι vr (b.map JB.one)=b5 then _ else _)=_;rw[ϥ (rX b ⋯)];rfl
 let a:Str:=Zc vr (b.map JB.one);have o:a.cps.toList=b:=join_ones b;have J:fE a.cps.toList=b5:=by rw[o];show kb H Z5 I
 have Xf:a.length<=8:=by rw[len_list,o];show I
 have e:∀{f:Fl} {st':aB} (ss:List S),Run (execs Γ ss) [a0 (.any,.lst (ds.map .int)),a0 (.any,.lst (names.map .str)),a0 (.loc,.str small),a0 (.loc,.str a),bD,bD] f st' ->
   Run (execs Γ (.set 2 (.cst (.str "abcdefghijklmnopqrstuvwxyz"))::.set 3 (.MS .join (.cst (.str "")) [.comp 1 cb .JQ [.bin .add (.cst (.int 1)) (.bin .mod (.idx (.var 0) (.cst (.int 0))) (.cst (.int 8)))] [] (.idx (.var 3) (.bin .mod (.idx (.var 1) (.bin .add (.cst (.int 4)) (.var 0))) (.cst (.int 26))))])::ss))
    [a0 (.any,.lst (ds.map .int)),a0 (.any,.lst (names.map .str)),bD,bD,bD,bD] f st':=λss h=>aD (r:=(.loc,.str small)) au aO (aD (Ac au (aa Rb ag) ∅ Rc) aO h)
 have l:∀(g:Str) (o4:Option (Kd×U)),cq g.cps.toList->∃x st',cq x.cps.toList/\x∉names/\Run (execs Γ [.set 5 (.bin .add (.lst [.var 3]) (.comp 1 cb .JQ [.cst (.int 40)] [] (.bin .add (.idx (.var 3) (.bin .LF (.var 0) (.cst (.int 26)))) (.idx (.var 3) (.bin .mod (.var 0) (.cst (.int 26))))))),
  .ret (.idx (.comp 1 cb .seq [(.var 5)] [(.cmp .Je (.var 0) (.var 2))] (.var 0)) (.cst (.int 0)))]) [a0 (.any,.lst (ds.map .int)),a0 (.any,.lst (names.map .str)),a0 (.loc,.str small),a0 (.loc,.str g),o4,bD] (.rt .loc (.str x)) st':=λg o4 p=>xV T p
 by_cases hz:0<names.length
 .
  have q:(dd ds 1).toNat % names.length<names.length:=Wy _ hz;let j:=names[(dd ds 1).toNat % names.length]'q;have L:cq j.cps.toList:=Y _ (Tj q);have(y,r,Lb,s):=L.IX;have R9:y.length<=8:=by rw[len_list];show((cv _).mp s).2.1
  have Vs:j.length<=11:=by rw[len_list];show L.len.2
  have Pn:=d8 k 1;have Ko:JK (names.map U.str) (dd ds 1 % ((names.map U.str).length:Nat))=a0 (.str j):=by
   rw[cK,show dd ds 1 % (names.length:Nat)=(((dd ds 1).toNat % names.length:Nat):Int) by rw[Int.natCast_emod,UG Pn]];show bQ (by simp[q];rfl)
  have O0:lY .split (.str j) [(.loc,.str "/")]=a0 (.own,.lst ((y::r).map U.str)):=by
   change(if (à "/"==0)=cb/\j.length+2<=dt then a0 (Kd.own,U.lst ((SJ j "/").map .str)) else bD)=_;rw[ϥ #[by decide,⋯],show("/":Str)=Ds from rfl,Lb]
  have hp:(0:Int)<((names.map U.str).length:Nat):=by simp;lia
  have Z6:iw (.own,.lst ((y::r).map U.str)) (.int 0)=a0 (.loc,.str y):=bb (by change JK _ ((0:Nat):Int)=_;show bQ rfl);have ac:=d8 k 2;have WE:=d8 k 3;have i1:JK (ds.map U.int) 1=a0 (.int (dd ds 1)):=cB (i:=1) ⋯;have N:JK (ds.map U.int) 2=a0 (.int (dd ds 2)):=cB (i:=2) ⋯;have i3:JK (ds.map U.int) 3=a0 (.int (dd ds 3)):=cB (i:=3) ⋯;have go:∀g:Str,cq g.cps.toList->Run (execs Γ [.ite (.cmp .eq (.bin .mod (.idx (.var 0) (.cst (.int 2))) (.cst (.int 4))) (.cst (.int 1)))
    [.set 3 (.NX (.bin .add (.var 4) (.var 3)) [] [.cst (.int 8)])]
    [],
   .ite (.cmp .eq (.bin .mod (.idx (.var 0) (.cst (.int 2))) (.cst (.int 4))) (.cst (.int 2)))
    [.set 3 (.bin .add (.bin .add (.var 4) (.cst (.str "/"))) (.bi .str [.bin .add (.cst (.int 2)) (.bin .mod (.idx (.var 0) (.cst (.int 3))) n)]))]
    []]) [a0 (.any,.lst (ds.map .int)),a0 (.any,.lst (names.map .str)),a0 (.loc,.str small),a0 (.loc,.str a),a0 (.loc,.str y),bD] .nx [a0 (.any,.lst (ds.map .int)),a0 (.any,.lst (names.map .str)),a0 (.loc,.str small),a0 (.loc,.str g),a0 (.loc,.str y),bD] ->
    ∃x,cq x.cps.toList/\x∉names/\bN Γ (ql n) [.lst (ds.map .int),.lst (names.map .str)]=a0 (.ok (.loc,.str x)):=λg p hr=>by
   have(x,st',t,u,v):=l g (a0 (.loc,.str y)) p;show#[x,t,u,aI (st0:=[a0 (.any,.lst (ds.map .int)),a0 (.any,.lst (names.map .str)),bD,bD,bD,bD]) rfl (.inr rfl) rfl (e _ (cF (st1:=[a0 (.any,.lst (ds.map .int)),a0 (.any,.lst (names.map .str)),a0 (.loc,.str small),a0 (.loc,.str a),bD,bD]) ?_ (aD (r:=(.loc,.str y)) (st1:=[a0 (.any,.lst (ds.map .int)),a0 (.any,.lst (names.map .str)),a0 (.loc,.str small),a0 (.loc,.str a),bD,bD]) ?_ aO hr) v))]
   .repeat' (first|show fJ (by simp;lia)|sizeOf_list_dec)
   .repeat' (first|show cV hp|show bb Ko|show bb i1|show O0|show Z6|sizeOf_list_dec)
  have w:∀{c:Bool} {o3 o4:Option (Kd×U)},(dd ds 2 % 4==1)=c->Run (Jx Γ (.cmp .eq (.bin .mod (.idx (.var 0) (.cst (.int 2))) (.cst (.int 4))) (.cst (.int 1)))) [a0 (.any,.lst (ds.map .int)),a0 (.any,.lst (names.map .str)),a0 (.loc,.str small),o3,o4,bD] c [a0 (.any,.lst (ds.map .int)),a0 (.any,.lst (names.map .str)),a0 (.loc,.str small),o3,o4,bD]:=λz=>by
   repeat' (first|show bb N|show jK z|sizeOf_list_dec)
  have A:∀{c:Bool} {o3 o4:Option (Kd×U)},(dd ds 2 % 4==2)=c->Run (Jx Γ (.cmp .eq (.bin .mod (.idx (.var 0) (.cst (.int 2))) (.cst (.int 4))) (.cst (.int 2)))) [a0 (.any,.lst (ds.map .int)),a0 (.any,.lst (names.map .str)),a0 (.loc,.str small),o3,o4,bD] c [a0 (.any,.lst (ds.map .int)),a0 (.any,.lst (names.map .str)),a0 (.loc,.str small),o3,o4,bD]:=λz=>by
   repeat' (first|show bb N|show jK z|sizeOf_list_dec)
  by_cases B:dd ds 2 % 4=1
  .have Z7:y.length+a.length<=dt:=by lia
   have Q4:tI (.loc,.str (y++a)) bD (a0 8)=a0 (.loc,.str (PySem.StrLaws.sliceText (y++a) bD (a0 8))):=by
    simp only[tI];rw[ϥ (by rw[len_list];change(y.cps++a.cps).toList.length<=_;rw[Uh,ke,<-len_list,<-len_list];lia)]
   show go (PySem.StrLaws.sliceText (y++a) bD (a0 8)) (.inl ?_) ?_
   .have:=FR (y++a) 8;rw[show((8:Nat):Int)=8 from rfl]at this;rw[this];change fE ((y.cps++a.cps).toList.take 8)=b5;rw[Uh];show xT s (by rw[o];show H)
   .show cF (w (by simp[B])) (aD (Hw (fI (ae rfl) (ae rfl) trivial (kS Z7)) Hu (Hv au) trivial Q4) aO aq) (aR (A (by simp[B])) aq aq)
  .by_cases C:dd ds 2 % 4=2
   .have UZ:=Õ (dd ds 3) (show m≠0 by lia);have PH:=YL (dd ds 3) G;have Q6:0<=2+dd ds 3 % m:=by lia
    have O:2+dd ds 3 % m<=99:=by lia
    have Z8:=jL Q6 O;have OL:KG .str [(.loc,.int (2+dd ds 3 % m))]=a0 (.loc,.str (sT (2+dd ds 3 % m))):=by
     simp only[KG,fN,B1];rw[ϥ (by
      have:(2+dd ds 3 % m).natAbs<2 ^ 7:=by lia
      have h2:(2+dd ds 3 % m).natAbs≠0:=by lia
      have:=(Nat.log2_lt h2).mpr this;lia)]
     rfl
    have Vu:(y++("/":Str)).length=y.length+1:=by rw[len_list,len_list];change(y.cps++_).toList.length=_;rw[Uh,ke];rfl
    have Vv:Run (ev Γ (.bin .add (.cst (.int 2)) (.bin .mod (.idx (.var 0) (.cst (.int 3))) n))) [a0 (.any,.lst (ds.map .int)),a0 (.any,.lst (names.map .str)),a0 (.loc,.str small),a0 (.loc,.str a),a0 (.loc,.str y),bD] (.loc,.int (2+dd ds 3 % m)) [a0 (.any,.lst (ds.map .int)),a0 (.any,.lst (names.map .str)),a0 (.loc,.str small),a0 (.loc,.str a),a0 (.loc,.str y),bD]:=fI au (fI (aF (aQ rfl) au trivial (bb i3)) (Z4 _ _ _ _ _) trivial (cV G)) trivial ib;show go (y++"/"++sT (2+dd ds 3 % m)) (.inr #[y.cps.toList,(sT (2+dd ds 3 % m)).cps.toList,2+dd ds 3 % m,?_,s,⋯,O,rfl]) ?_
    .change((y.cps++#v[47])++(sT _).cps).toList=_;simp
    .show aR (w (by simp[C])) aq (cF (A (by simp[C])) (aD (fI (fI (ae rfl) au trivial (kS (by change y.length+1<=dt;lia))) (cA (aa Vv ag) trivial OL) trivial (kS (by rw[Vu];lia))) aO aq) aq)
   .show go a (.inl J) ?_;show aR (w (by simp[B])) aq (aR (A (by simp[C])) aq aq)
 .have(x,st',t,u,v):=l a bD (.inl J);show#[x,t,u,aI (st0:=[a0 (.any,.lst (ds.map .int)),a0 (.any,.lst (names.map .str)),bD,bD,bD,bD]) rfl (.inr rfl) rfl (e _ (aR (st1:=[a0 (.any,.lst (ds.map .int)),a0 (.any,.lst (names.map .str)),a0 (.loc,.str small),a0 (.loc,.str a),bD,bD]) ?_ aq v))]
  repeat' (first|show fJ (ϧ (by simp only[cK];lia))|sizeOf_list_dec)
end
abbrev jM(Γ:Tab):Prop:=∀(ns:List Int) (k:Nat),k<2 ^ 62->∃z,Γ "_law_cell" [.lst (ns.map .int),.int (k:Nat)]=a0 (.ok (.loc,.int z))
abbrev gL(Γ:Tab):Prop:=∀(c:Int) (n:Nat),n<1000->∃a:List Int,a.length=n/\(∀d∈a,0<=d)/\Γ "_law_drawn" [.int c,.int (n:Nat)]=a0 (.ok (.own,.lst (a.map .int)))
abbrev Al(Γ:Tab):Prop:=∀(a:List Int) (names:List Str),12<=a.length->(∀d∈a,0<=d)->names.length<40->(∀x∈names,cq x.cps.toList)->∃x,cq x.cps.toList/\x∉names/\Γ "_law_name" [.lst (a.map .int),.lst (names.map .str)]=a0 (.ok (.loc,.str x))
abbrev fNames:Fn:=#["_law_names",3,5,[.set 3 (.lst []),.Jw cb [4] .JQ [.var 2] [.app 3 (.call "_law_name" [.call "_law_drawn" [.call "_law_cell" [.var 0,.bin .add (.var 1) (.var 4)],.cst (.int 12)],.var 3])],.ret (.var 3)]]
theorem xW(hc:jM Γ)(hd:gL Γ)(hn:Al Γ){ns:List Int}(hb:b<1000)(hm:m<40):
    ∃names:List Str,names.length=m/\names.Nodup/\(∀x∈names,cq x.cps.toList)/\bN Γ fNames [.lst (ns.map .int),.int (b:Nat),.int (m:Nat)]=a0 (.ok (.own,.lst (names.map .str))):=by
  have hsz:(1000:Nat)<=dt:=by decide
  let I:List (Kd×U)->aB->Prop:=λxs st=>∃(names:List Str) (us:List U) (o:Option (Kd×U)),st=[a0 (.any,.lst (ns.map .int)),a0 (.loc,.int (b:Nat)),a0 (.loc,.int (m:Nat)),a0 (.own,.lst us),o]/\us=names.map .str/\names.Nodup/\(∀x∈names,cq x.cps.toList)/\names.length+xs.length=m/\eX m xs;have loop:=rT (t:=cb) (is:=[4]) (body:=execs Γ [.app 3 (.call "_law_name" [.call "_law_drawn" [.call "_law_cell" [.var 0,.bin .add (.var 1) (.var 4)],.cst (.int 12)],.var 3])]) (rs:=[(.loc,.int (m:Nat))]) I (λ_ _ _=>trivial) (λx xs st Js=>by
    obtain⟨names,us,o,e,e2,Jk,hw,hl,hr⟩:=Js;subst e;obtain⟨i,hi,rfl,J1,hlen⟩:=hr.cons;rw[mx]at hl;obtain⟨z,hz⟩:=hc ns (b+i) ⋯;rw[Ÿ]at hz;obtain⟨ds,d1,d2,d3⟩:=hd z 12 ⋯;obtain⟨x,x1,x2,x3⟩:=hn ds names ⋯ d2 ⋯ hw;rw[<-e2]at x3;refine⟨[a0 (.any,.lst (ns.map .int)),a0 (.loc,.int (b:Nat)),a0 (.loc,.int (m:Nat)),a0 (.own,.lst us),a0 (.loc,.int (i:Nat))],[a0 (.any,.lst (ns.map .int)),a0 (.loc,.int (b:Nat)),a0 (.loc,.int (m:Nat)),a0 (.own,.lst (us++[.str x])),a0 (.loc,.int (i:Nat))],aO,?_,⟨names++[x],_,_,rfl,by simp[e2],?_,?_,by simp;lia,J1⟩⟩
    · repeat' (first|exact hz|exact d3|exact x3|exact(by rw[e2,cK];lia)|sizeOf_list_dec)
    · rw[ri]
      exact ⟨Jk, by simp, fun y hy w Mk => by have : w = x := by simpa using Mk
                                              subst this;rintro rfl;exact x2 hy⟩
    · intro y hy
      rcases hZ.mp hy with h|h
      · exact hw y h
      · rw[kj.mp h];exact x1)
  obtain⟨st',Jz,names,us,o,e,e2,Jk,hw,hl,_⟩:=loop ((hH m).map λi:Nat=>(Kd.loc,U.int (0+(i:Int)))) [a0 (.any,.lst (ns.map .int)),a0 (.loc,.int (b:Nat)),a0 (.loc,.int (m:Nat)),a0 (.own,.lst []),bD] ⟨[],[],bD,rfl,rfl,by simp,by simp,by simp,eX.all m⟩;subst e e2;refine⟨names,by simpa using hl,Jk,hw,?_⟩;apply aI (st0:=[a0 (.any,.lst (ns.map .int)),a0 (.loc,.int (b:Nat)),a0 (.loc,.int (m:Nat)),bD,bD]) rfl (.inl rfl) rfl
  repeat' sizeOf_list_dec
  have hit:=qi (k:=.loc) (n:=m) ⋯;refine' cm (rs:=[(.loc,.int (m:Nat))]) (st1:=[a0 (.any,.lst (ns.map .int)),a0 (.loc,.int (b:Nat)),a0 (.loc,.int (m:Nat)),a0 (.own,.lst []),bD]) _ trivial hit rfl Jz _
  all_goals repeat' sizeOf_list_dec
abbrev kf:Fn:=#["_law_told",2,6,[.set 2 (.bi .len [.var 1]),.ite (.and [.cmp .gt (.bin .mod (.idx (.var 0) (.cst (.int 2))) (.cst (.int 3))) (.cst (.int 0)),.cmp .gt (.bin .mod (.idx (.var 0) (.cst (.int 0))) (.bi .len [.var 1])) (.cst (.int 0))]) [.set 2 (.bin .mod (.idx (.var 0) (.cst (.int 0))) (.bi .len [.var 1]))] [],.set 3 (.lst []),.Jw cb [4] .JQ [.idx (.lst [.cst (.int 0),.cst (.int 0),.cst (.int 1),.cst (.int 1),.cst (.int 1),.cst (.int 2),.cst (.int 2),.cst (.int 2),.cst (.int 3),.cst (.int 8)]) (.bin .mod (.idx (.var 0) (.cst (.int 1))) (.cst (.int 10)))] [.set 5 (.idx (.var 1) (.bin .mod (.idx (.var 0) (.bin .add (.cst (.int 3)) (.var 4))) (.var 2))),.ite (.cmp .Je (.var 5) (.var 3)) [.app 3 (.var 5)] []],.ret (.bi .tuple [.var 3])]]
theorem IY:∀j:Nat,j<10->∃q:Nat,q<=8/\JK [U.int 0,.int 0,.int 1,.int 1,.int 1,.int 2,.int 2,.int 2,.int 3,.int 8] (j:Int)=a0 (.int (q:Nat))
 |0,_=>⟨0,⋯,rfl⟩|1,_=>⟨0,⋯,rfl⟩|2,_=>⟨1,⋯,rfl⟩|3,_=>⟨1,⋯,rfl⟩|4,_=>#[1,⋯,rfl]
 |5,_=>⟨2,⋯,rfl⟩|6,_=>⟨2,⋯,rfl⟩|7,_=>⟨2,⋯,rfl⟩|8,_=>⟨3,⋯,rfl⟩|9,_=>#[8,⋯,rfl]
 |n+10,h=>absurd h ⋯
def FT(hz:0<=z)(b:0<t)(hl:t<=xs.length):∃x∈xs,JK xs (z % t)=a0 x:=by
 have c:=Õ z (by lia:t≠0);have e:=YL z b;have(j,d):=Wt c;have a:j<xs.length:=by lia
 show#[xs[j]'a,Tj a,?_];rw[d];show bQ (by simp[a])
def kU{xs:List Str}{z t:Int}(hz:0<=z)(a:0<t)(hl:t<=xs.length):∃x∈xs,JK (xs.map U.str) (z % t)=a0 (.str x):=by
 have(u,b,e):=FT (xs:=xs.map U.str) hz a (by simpa using hl);have(x,c,rfl):=k8.mp b;show#[x,c,e]
theorem Am{Γ:Tab}{ds:List Int}{names:List Str}(hd:11<=ds.length)(h0:∀d∈ds,0<=d)(hn:0<names.length):
    ∃told:List Str,told.length<=8/\told.Nodup/\(∀x∈told,x∈names)/\bN Γ kf [.lst (ds.map .int),.lst (names.map .str)]=a0 (.ok (.loc,.tup (told.map .str))):=by
  have hsz:(1000:Nat)<=dt:=by decide
  have i0:JK (ds.map U.int) 0=a0 (.int (dd ds 0)):=cB (i:=0) ⋯;have i1:JK (ds.map U.int) 1=a0 (.int (dd ds 1)):=cB (i:=1) ⋯;have i2:JK (ds.map U.int) 2=a0 (.int (dd ds 2)):=cB (i:=2) ⋯;have n0:=d8 h0 0;have n1:=d8 h0 1;have n2:=d8 h0 2;have hp:(0:Int)<((names.map U.str).length:Nat):=by simp;lia
  have hL:((names.map U.str).length:Int)=names.length:=by simp
  have Qf:=YL (dd ds 0) hp;have UZ:=Õ (dd ds 0) (by lia:((names.map U.str).length:Int)≠0);let B:=λ(t:Int) (us:List U) (o4 o5:Option (Kd×U))=>([a0 (.any,.lst (ds.map .int)),a0 (.any,.lst (names.map .str)),a0 (.loc,.int t),a0 (.own,.lst us),o4,o5]:aB)
  have hj:(dd ds 1 % 10).toNat<10:=by lia
  obtain⟨q,hq,Ko⟩:=IY _ hj;rw[UG ⋯]at Ko;have main:∀t:Int,0<t->t<=names.length->∃told:List Str,told.length<=8/\told.Nodup/\(∀x∈told,x∈names)/\∃st',Run (execs Γ (kf.body.drop 2)) [a0 (.any,.lst (ds.map .int)),a0 (.any,.lst (names.map .str)),a0 (.loc,.int t),bD,bD,bD] (.rt .loc (.tup (told.map .str))) st':=λt ht Si=>by
    let I:List (Kd×U)->aB->Prop:=λxs st=>∃(told:List Str) (us:List U) (o4 o5:Option (Kd×U)),st=B t us o4 o5/\us=told.map .str/\told.Nodup/\(∀x∈told,x∈names)/\told.length+xs.length<=q/\eX q xs;have loop:=rT (t:=cb) (is:=[4]) (body:=execs Γ [.set 5 (.idx (.var 1) (.bin .mod (.idx (.var 0) (.bin .add (.cst (.int 3)) (.var 4))) (.var 2))),
      .ite (.cmp .Je (.var 5) (.var 3))
        [.app 3 (.var 5)]
        []]) (rs:=[(.loc,.int (q:Nat))]) I (λ_ _ _=>trivial) (λx xs st Js=>by
      obtain⟨told,us,o4,o5,e,e2,Jk,hw,hl,hr⟩:=Js;subst e;obtain⟨i,hi,rfl,J1,hlen⟩:=hr.cons;rw[mx]at hl;have ik:JK (ds.map U.int) (3+(i:Int))=a0 (.int (dd ds (3+i))):=by
        rw[show(3+(i:Int))=((3+i:Nat):Int) by lia];exact cB ⋯
      obtain⟨x,hx,Xh⟩:=kU (xs:=names) (d8 h0 (3+i)) ht Si;have PJ:bC .Je (.str x) (.lst us)=a0 (df (x∉told)):=by rw[e2];exact dE
      by_cases JV:x∈told
      · refine⟨B t us (a0 (.loc,.int (i:Nat))) o5,B t us (a0 (.loc,.int (i:Nat))) (a0 (.any,.str x)),aO,?_,⟨told,us,_,_,rfl,e2,Jk,hw,⋯,J1⟩⟩
        refine aD (r:=(.any,.str x)) (st1:=B t us (a0 (.loc,.int (i:Nat))) o5) ?_ mE (aR (st1:=B t us (a0 (.loc,.int (i:Nat))) (a0 (.any,.str x))) ?_ aq aq)
        · repeat' (first|exact bb ik|exact cV ht|exact bb Xh|sizeOf_list_dec)
        · have:bC .Je (.str x) (.lst us)=a0 cb:=by rw[PJ];simp[JV]
          repeat' (first|exact this|sizeOf_list_dec)
      · refine⟨B t us (a0 (.loc,.int (i:Nat))) o5,B t (us++[.str x]) (a0 (.loc,.int (i:Nat))) (a0 (.any,.str x)),aO,?_,⟨told++[x],_,_,_,rfl,by simp[e2],?_,?_,by simp;lia,J1⟩⟩
        · refine aD (r:=(.any,.str x)) (st1:=B t us (a0 (.loc,.int (i:Nat))) o5) ?_ mE (cF (st1:=B t us (a0 (.loc,.int (i:Nat))) (a0 (.any,.str x))) (st2:=B t (us++[.str x]) (a0 (.loc,.int (i:Nat))) (a0 (.any,.str x))) ?_ ?_ aq)
          · repeat' (first|exact bb ik|exact cV ht|exact bb Xh|sizeOf_list_dec)
          · have:bC .Je (.str x) (.lst us)=some true:=by rw[PJ];simp[JV]
            repeat' (first|exact this|sizeOf_list_dec)
          · repeat' (first|exact je rfl|exact(by rw[e2,cK];lia)|sizeOf_list_dec)
        · rw[ri]
          exact ⟨Jk, by simp, fun y hy w Mk => by have : w = x := by simpa using Mk
                                                  subst this;rintro rfl;exact JV hy⟩
        · intro y hy
          rcases hZ.mp hy with h|h
          · exact hw y h
          · rw[kj.mp h];exact hx)
    obtain⟨st',Jz,told,us,o4,o5,e,e2,Jk,hw,hl,_⟩:=loop ((hH q).map λi:Nat=>(Kd.loc,U.int (0+(i:Int)))) (B t [] bD bD) ⟨[],[],bD,bD,rfl,rfl,by simp,by simp,by simp,eX.all q⟩;subst e e2;refine⟨told,by simp at hl;lia,Jk,hw,?_⟩;have hit:=qi (k:=.loc) (n:=q) ⋯;refine⟨B t (told.map .str) o4 o5,aD (r:=(.own,.lst [])) (cj ag trivial aS (nH _)) aZ (cm (rs:=[(.loc,.int (q:Nat))]) (st1:=B t [] bD bD) ?_ trivial hit rfl Jz ?_)⟩
    · refine aa (aF (x:=(.own,.lst [U.int 0,.int 0,.int 1,.int 1,.int 1,.int 2,.int 2,.int 2,.int 3,.int 8])) (y:=(.loc,.int (dd ds 1 % 10))) (st1:=B t [] bD bD) ?_ ?_ trivial (bb Ko)) ag
      · repeat' (first|exact(by decide:(10:Nat)<=dt)|sizeOf_list_dec)
      · repeat' (first|exact bb i1|sizeOf_list_dec)
    · repeat' sizeOf_list_dec
  have fin:∀t:Int,0<t->t<=names.length->(∀{f:Fl} {st':aB},Run (execs Γ (kf.body.drop 2)) [a0 (.any,.lst (ds.map .int)),a0 (.any,.lst (names.map .str)),a0 (.loc,.int t),bD,bD,bD] f st'->Run (execs Γ kf.body) [a0 (.any,.lst (ds.map .int)),a0 (.any,.lst (names.map .str)),bD,bD,bD,bD] f st') ->
      ∃told:List Str,told.length<=8/\told.Nodup/\(∀x∈told,x∈names)/\bN Γ kf [.lst (ds.map .int),.lst (names.map .str)]=a0 (.ok (.loc,.tup (told.map .str))):=λt ht Si hh=>by
    obtain⟨told,a1,a2,a3,st',a4⟩:=main t ht Si;exact⟨told,a1,a2,a3,aI (st0:=[a0 (.any,.lst (ds.map .int)),a0 (.any,.lst (names.map .str)),bD,bD,bD,bD]) rfl (.inr rfl) rfl (hh a4)⟩
  let S0:aB:=[a0 (.any,.lst (ds.map .int)),a0 (.any,.lst (names.map .str)),a0 (.loc,.int ((names.map U.str).length:Nat)),bD,bD,bD]
  have q1:∀{c:Bool},df (0<dd ds 2 % 3)=c->Run (Jx Γ (.cmp .gt (.bin .mod (.idx (.var 0) (.cst (.int 2))) (.cst (.int 3))) (.cst (.int 0)))) S0 c S0:=λh=>by repeat' (first|exact bb i2|exact fJ h|sizeOf_list_dec)
  have q2:∀{c:Bool},df (0<dd ds 0 % ((names.map U.str).length:Nat))=c->Run (Jx Γ (.cmp .gt (.bin .mod (.idx (.var 0) (.cst (.int 0))) (.bi .len [.var 1])) (.cst (.int 0)))) S0 c S0:=λh=>by repeat' (first|exact bb i0|exact cV hp|exact fJ h|sizeOf_list_dec)
  have s2:Run (ev Γ (.bi .len [.var 1])) [a0 (.any,.lst (ds.map .int)),a0 (.any,.lst (names.map .str)),bD,bD,bD,bD] (.loc,.int ((names.map U.str).length:Nat)) [a0 (.any,.lst (ds.map .int)),a0 (.any,.lst (names.map .str)),bD,bD,bD,bD]:=by repeat' sizeOf_list_dec
  have s3:Run (ev Γ (.bin .mod (.idx (.var 0) (.cst (.int 0))) (.bi .len [.var 1]))) S0 (.loc,.int (dd ds 0 % ((names.map U.str).length:Nat))) S0:=by repeat' (first|exact bb i0|exact cV hp|sizeOf_list_dec)
  by_cases c1:0<dd ds 2 % 3
  · by_cases c2:0<dd ds 0 % ((names.map U.str).length:Nat)
    · exact fin (dd ds 0 % ((names.map U.str).length:Nat)) c2 ⋯ λh=>aD s2 aO (cF (ka (qf (q1 (Ϩ c1)) (cR (q2 (Ϩ c2))))) (aD s3 aO aq) h)
    · exact fin ((names.map U.str).length:Nat) hp ⋯ λh=>aD s2 aO (aR (ka (qf (q1 (Ϩ c1)) (cR (q2 (ϧ c2))))) aq h)
  · exact fin ((names.map U.str).length:Nat) hp ⋯ λh=>aD s2 aO (aR (ka (ub (q1 (ϧ c1)))) aq h)
def mJ(g:Run (ev Γ h) st rv st1)(j:st1[i]?=a0 (a0 (k',u')))(l:Run (ev Γ m) st1 rk st2)(n:Run (dy [rv,rk]) st2 [b,c] st3)(o:st3[i]?=a0 (a0 (k,d)))(hk:k.root=b5)(p:dG c b d=a0 e)
  (q:Run (execs Γ ss) (st3.set i (a0 (k,e))) f r) (s:k'≠.G':=by intro z;cases z):Run (execs Γ (.put i m h::ss)) st f r:=by
 show gq (af g (af (hV j s) (af l (af n (af (a:=()) (st1:=st3.set i (a0 (k,e))) ?_ bo))))) q;change modS i (u_ [b,c]) st3=_;unfold modS;rw[o];simp only[hk,if_true];change(match dG c b d with|some u'=>_|none=>bD)=_;rw[p]
@[reducible]def Row:=Str×List Str
abbrev A'(r:Row):U:=.tup [.str r.1,.tup (r.2.map .str)]
abbrev keyOf(r:Row):Row:=(r.1,aC r.2)
def oK(r:Row):rowOf (A' r)=a0 r:=by
 change(strsOf (r.2.map U.str)).map _=_;rw[dh];rfl
def sorted_strs(h:ss.length<64):KG .sorted [(k,.tup (ss.map .str))]=a0 (.own,.lst ((aC ss).map .str)):=by
 change(strsOf (ss.map U.str)).bind _=_;rw[dh];change(if ss.length<64 then _ else _)=_;rw[ϥ h]
abbrev An:Fn:=#["_law_book",4,10,[.set 4 (.lst []),.set 5 (.KD b5),.Jw cb [6] .JQ [.var 3] [.set 7 (.call "_law_drawn" [.call "_law_cell" [.var 0,.bin .add (.var 1) (.var 6)],.cst (.int 11)]),.set 8 (.tup [.idx (.var 2) (.bin .mod (.idx (.var 7) (.cst (.int 0))) (.bi .len [.var 2])),.call "_law_told" [.var 7,.var 2]]),.set 9 (.tup [.idx (.var 8) (.cst (.int 0)),.bi .tuple [.bi .sorted [.idx (.var 8) (.cst (.int 1))]]]),.ite (.cmp .Je (.var 9) (.var 5)) [.put 5 (.var 9) (.cst (.bl b5)),.app 4 (.var 8)] []],.ret (.bi .tuple [.var 4])]]
abbrev Ao(Γ:Tab):Prop:=∀(a:List Int) (names:List Str),11<=a.length->(∀d∈a,0<=d)->0<names.length ->
 ∃told:List Str,told.length<=8/\told.Nodup/\(∀x∈told,x∈names)/\Γ "_law_told" [.lst (a.map .int),.lst (names.map .str)]=a0 (.ok (.loc,.tup (told.map .str)))
structure eY(names:List Str)(r:Row):Prop where
 word:r.1∈names
 MF:r.2.length<=8
 once:r.2.Nodup
 told:∀x∈r.2,x∈names
theorem Ap(hc:jM Γ)(hd:gL Γ)(ht:Ao Γ){ns:List Int}(hn:0<names.length)(hb:b<1000)(hm:m<1000):
    ∃rows:List Row,rows.length<=m/\(rows.map keyOf).Nodup/\(∀r∈rows,eY names r)/\bN Γ An [.lst (ns.map .int),.int (b:Nat),.lst (names.map .str),.int (m:Nat)]=a0 (.ok (.loc,.tup (rows.map A'))):=by
  have hsz:(1000:Nat)<=dt:=by decide
  let B:=λ(us:List U) (ks:List nq) (o6 o7 o8 o9:Option (Kd×U))=>([a0 (.any,.lst (ns.map .int)),a0 (.loc,.int (b:Nat)),a0 (.any,.lst (names.map .str)),a0 (.loc,.int (m:Nat)),a0 (.own,.lst us),a0 (.own,.J8 ks),o6,o7,o8,o9]:aB)
  let I:List (Kd×U)->aB->Prop:=λxs st=>∃(rows:List Row) (us:List U) (ks:List nq) (o6 o7 o8 o9:Option (Kd×U)),st=B us ks o6 o7 o8 o9/\us=rows.map A'/\ks=rows.map keyOf/\ks.Nodup/\(∀r∈rows,eY names r)/\rows.length+xs.length<=m/\eX m xs;have hp:(0:Int)<((names.map U.str).length:Nat):=by simp;lia
  have loop:=rT (t:=cb) (is:=[6]) (body:=execs Γ [.set 7 (.call "_law_drawn" [.call "_law_cell" [.var 0,.bin .add (.var 1) (.var 6)],.cst (.int 11)]),
      .set 8 (.tup [.idx (.var 2) (.bin .mod (.idx (.var 7) (.cst (.int 0))) (.bi .len [.var 2])),.call "_law_told" [.var 7,.var 2]]),
      .set 9 (.tup [.idx (.var 8) (.cst (.int 0)),.bi .tuple [.bi .sorted [.idx (.var 8) (.cst (.int 1))]]]),
      .ite (.cmp .Je (.var 9) (.var 5))
        [.put 5 (.var 9) (.cst (.bl b5)),
        .app 4 (.var 8)]
        []]) (rs:=[(.loc,.int (m:Nat))]) I (λ_ _ _=>trivial) (λx xs st Js=>by
    obtain⟨rows,us,ks,o6,o7,o8,o9,e,e2,e3,Jk,hw,hl,hr⟩:=Js;subst e;obtain⟨i,hi,rfl,J1,hlen⟩:=hr.cons;rw[mx]at hl;obtain⟨z,hz⟩:=hc ns (b+i) ⋯;rw[Ÿ]at hz;obtain⟨ds,d1,d2,d3⟩:=hd z 11 ⋯;obtain⟨told,t1,t2,t3,t4⟩:=ht ds names ⋯ d2 hn;have i0:JK (ds.map U.int) 0=a0 (.int (dd ds 0)):=cB (i:=0) ⋯;obtain⟨nm,Nu,UX⟩:=kU (xs:=names) (t:=((names.map U.str).length:Nat)) (d8 d2 0) hp (by simp);have JR:eY names (nm,told):=⟨Nu,t1,t2,t3⟩
    have j0:iw (.loc,A' (nm,told)) (.int 0)=a0 (.loc,.str nm):=rfl;have j1:iw (.loc,A' (nm,told)) (.int 1)=a0 (.loc,.tup (told.map .str)):=rfl;have Z9:=sorted_strs (k:=.loc) (ss:=told) ⋯;let i6:Option (Kd×U):=a0 (.loc,.int (i:Nat));let i7:Option (Kd×U):=a0 (.own,.lst (ds.map .int));let i8:Option (Kd×U):=a0 (.loc,A' (nm,told));let i9:Option (Kd×U):=a0 (.loc,A' (keyOf (nm,told)));have g7:Run (ev Γ (.call "_law_drawn" [.call "_law_cell" [.var 0,.bin .add (.var 1) (.var 6)],.cst (.int 11)])) (B us ks i6 o7 o8 o9) (.own,.lst (ds.map .int)) (B us ks i6 o7 o8 o9):=by repeat' (first|exact hz|exact d3|sizeOf_list_dec)
    have g8:Run (ev Γ (.tup [.idx (.var 2) (.bin .mod (.idx (.var 7) (.cst (.int 0))) (.bi .len [.var 2])),.call "_law_told" [.var 7,.var 2]])) (B us ks i6 i7 o8 o9) (.loc,A' (nm,told)) (B us ks i6 i7 o8 o9):=by
      repeat' (first|exact bb i0|exact cV hp|exact bb UX|exact t4|exact je rfl|exact(by decide:(2:Nat)<=dt)|sizeOf_list_dec)
    have g9:Run (ev Γ (.tup [.idx (.var 8) (.cst (.int 0)),.bi .tuple [.bi .sorted [.idx (.var 8) (.cst (.int 1))]]])) (B us ks i6 i7 i8 o9) (.loc,A' (keyOf (nm,told))) (B us ks i6 i7 i8 o9):=by
      repeat' (first|exact j0|exact j1|exact Z9|exact(by decide:(2:Nat)<=dt)|sizeOf_list_dec)
    have PJ:bC .Je (A' (keyOf (nm,told))) (.J8 ks)=a0 (df (keyOf (nm,told)∉ks)):=by
      show(((rowOf (A' (keyOf (nm,told)))).map λr=>df (r∈ks))).map (!·)=_;rw[oK];simp
    by_cases JV:keyOf (nm,told)∈ks
    · refine⟨B us ks i6 o7 o8 o9,B us ks i6 i7 i8 i9,aO,aD g7 aZ (aD g8 aO (aD g9 aO (aR ?_ aq aq))),⟨rows,us,ks,_,_,_,_,rfl,e2,e3,Jk,hw,⋯,J1⟩⟩
      have:bC .Je (A' (keyOf (nm,told))) (.J8 ks)=a0 cb:=by rw[PJ];simp[JV]
      exact aX (ae rfl) (aA rfl) ⟨⟨.own,rfl,rfl⟩,trivial⟩ this
    · refine⟨B us ks i6 o7 o8 o9,B (us++[A' (nm,told)]) (ks++[keyOf (nm,told)]) i6 i7 i8 i9,aO,aD g7 aZ (aD g8 aO (aD g9 aO (cF (st1:=B us ks i6 i7 i8 i9) (st2:=B (us++[A' (nm,told)]) (ks++[keyOf (nm,told)]) i6 i7 i8 i9) ?_ ?_ aq))),⟨rows++[(nm,told)],_,_,_,_,_,_,rfl,by simp[e2],by simp[e3],?_,?_,by simp;lia,J1⟩⟩
      · have:bC .Je (A' (keyOf (nm,told))) (.J8 ks)=a0 b5:=by rw[PJ];simp[JV]
        exact aX (ae rfl) (aA rfl) ⟨⟨.own,rfl,rfl⟩,trivial⟩ this
      · have Vw:dG (A' (keyOf (nm,told))) (.bl b5) (.J8 ks)=a0 (.J8 (ks++[keyOf (nm,told)])):=by
          show(match rowOf (A' (keyOf (nm,told))),U.bl b5 with|some r,.bl b5=>if r∉ks/\ks.length<=1000 then a0 (U.J8 (ks++[r])) else bD|_,_=>bD)=_;rw[oK];show(if keyOf (nm,told)∉ks/\ks.length<=1000 then _ else _)=_;rw[ϥ ⟨JV,by rw[e3,cK];lia⟩]
        exact mJ (st1:=B us ks i6 i7 i8 i9) (st2:=B us ks i6 i7 i8 i9) (st3:=B us ks i6 i7 i8 i9) (k:=.own) (k':=.own) au rfl (ae rfl) (aK aL (aK aL aS)) rfl rfl Vw
          (jg (st1:=B us (ks++[keyOf (nm,told)]) i6 i7 i8 i9) (st2:=B us (ks++[keyOf (nm,told)]) i6 i7 i8 i9) (k:=.own) (k':=.own) (us:=us) (us':=us) rfl (ae rfl) aL rfl rfl (by rw[e2,cK];lia) aq)
      · rw[ri]
        exact ⟨Jk, by simp, fun y hy w Mk => by have : w = keyOf (nm, told) := by simpa using Mk
                                                subst this;rintro rfl;exact JV hy⟩
      · intro y hy
        rcases hZ.mp hy with h|h
        · exact hw y h
        · rw[kj.mp h];exact JR)
  obtain⟨st',Jz,rows,us,ks,o6,o7,o8,o9,e,e2,e3,Jk,hw,hl,_⟩:=loop ((hH m).map λi:Nat=>(Kd.loc,U.int (0+(i:Int)))) (B [] [] bD bD bD bD) ⟨[],[],[],bD,bD,bD,bD,rfl,rfl,rfl,by simp,by simp,by simp,eX.all m⟩;subst e e2 e3;refine⟨rows,by simpa using hl,Jk,hw,?_⟩;have hit:=qi (k:=.loc) (n:=m) ⋯;exact aI (st0:=[a0 (.any,.lst (ns.map .int)),a0 (.loc,.int (b:Nat)),a0 (.any,.lst (names.map .str)),a0 (.loc,.int (m:Nat)),bD,bD,bD,bD,bD,bD]) rfl (.inr rfl) rfl
    (aD (r:=(.own,.lst [])) (cj ag trivial aS (nH _)) aZ (aD (r:=(.own,.J8 [])) jJ aZ (cm (rs:=[(.loc,.int (m:Nat))]) (st1:=B [] [] bD bD bD bD) (aa (ae rfl) ag) trivial hit rfl Jz
      (bI (cA (aa (aA rfl) ag) ⟨⟨.own,rfl,rfl⟩,trivial⟩ rfl) eD))))
abbrev qo(Γ:Tab):Prop:=∀(ns:List Int) (b m:Nat),b<1000->m<40->∃names:List Str,names.length=m/\names.Nodup/\(∀x∈names,cq x.cps.toList)/\Γ "_law_names" [.lst (ns.map .int),.int (b:Nat),.int (m:Nat)]=a0 (.ok (.own,.lst (names.map .str)))
abbrev Aq(Γ:Tab):Prop:=∀(ns:List Int) (names:List Str) (b m:Nat),0<names.length->b<1000->m<1000 ->
 ∃rows:List Row,rows.length<=m/\(rows.map keyOf).Nodup/\(∀r∈rows,eY names r)/\Γ "_law_book" [.lst (ns.map .int),.int (b:Nat),.lst (names.map .str),.int (m:Nat)]=a0 (.ok (.loc,.tup (rows.map A')))
abbrev Ar:Fn:=#["_law_made",1,3,[.set 1 (.call "_law_drawn" [.call "_law_cell" [.var 0,.cst (.int 0)],.cst (.int 4)]),.set 2 (.call "_law_names" [.var 0,.cst (.int 1),.bin .add (.cst (.int 1)) (.bin .mod (.idx (.var 1) (.cst (.int 0))) (.cst (.int 14)))]),.ret (.call "_law_book" [.var 0,.cst (.int 20),.var 2,.bin .mod (.idx (.var 1) (.cst (.int 1))) (.cst (.int 41))])]]
def As(d:jM Γ)(e:gL Γ)(f:qo Γ)(g:Aq Γ)(ns:List Int):∃(names:List Str) (rows:List Row),0<names.length/\names.length<=14/\names.Nodup/\(∀x∈names,cq x.cps.toList) /\
  rows.length<=40/\(rows.map keyOf).Nodup/\(∀r∈rows,eY names r)/\bN Γ Ar [.lst (ns.map .int)]=a0 (.ok (.loc,.tup (rows.map A'))):=by
 have(z,hz):=d ns 0 ⋯;have(a,o,b,h):=e z 4 ⋯;have j:JK (a.map U.int) 0=a0 (.int (dd a 0)):=cB (i:=0) ⋯;have k:JK (a.map U.int) 1=a0 (.int (dd a 1)):=cB (i:=1) ⋯;have p:=d8 b 0;have q:=d8 b 1;have(names,s,l,m,c):=f ns 1 (1+dd a 0 % 14).toNat ⋯ ⋯;rw[UG ⋯]at c;have(rows,b1,n,b3,b4):=g ns names 20 (dd a 1 % 41).toNat ⋯ ⋯ ⋯;rw[UG ⋯]at b4;show#[names,rows,⋯,⋯,l,m,⋯,n,b3,?_];apply aI (st0:=[a0 (.any,.lst (ns.map .int)),bD,bD]) rfl (.inr rfl) rfl
 repeat' (first|show hz|show h|show bb j|show bb k|show c|show b4|sizeOf_list_dec)
section
def DK(h:Jv Pg "_law_mix" xR):Ai (Ji Pg (d+1)):=λc k a b=>by rw[ay h];show CW a b
def jN(h:Jv Pg "_law_mix" xR)(a:Jv Pg "_law_cell" vT):jM (Ji Pg (d+2)):=λns k hk=>#[_,by rw[ay a];show Aj (DK h) hk]
def drawnOk(h:Jv Pg "_law_mix" xR)(f:Jv Pg "_law_drawn" qh):gL (Ji Pg (d+2)):=λc n g=>by
 have(i,a,b,e):=xS (DK (d:=d) h) (c:=c) g;show#[i,a,b,by rw[ay f];show e]
def FU(f:CY g)(h:Jv Pg "_law_name" (ql g)):Al (Ji Pg (d+1)):=λi names a b c e=>by
 have(x,p,q,r):=Ak (Γ:=Ji Pg d) f a b c e;show#[x,p,q,by rw[ay h];show r]
def FV(h:Jv Pg "_law_told" kf):Ao (Ji Pg (d+1)):=λe names a b c=>by
 have(x,p,q,r,s):=Am (Γ:=Ji Pg d) a b c;show#[x,p,q,r,by rw[ay h];show s]
structure c6(md:E)(Pg:List Fn):Prop where
 mix:Jv Pg "_law_mix" xR
 cell:Jv Pg "_law_cell" vT
 drawn:Jv Pg "_law_drawn" qh
 name:Jv Pg "_law_name" (ql md)
 names:Jv Pg "_law_names" fNames
 told:Jv Pg "_law_told" kf
 book:Jv Pg "_law_book" An
def c6.jN(M:c6 a Pg):jM (Ji Pg (d+2)):=TM.jN M.mix M.cell
def c6.drawnOk(M:c6 a Pg):gL (Ji Pg (d+2)):=TM.drawnOk M.mix M.drawn
def c6.Au(a:CY c)(M:c6 c Pg):qo (Ji Pg (d+3)):=λns b m e f=>by
 have(names,p,q,r,s):=xW (Γ:=Ji Pg (d+2)) M.jN M.drawnOk (TM.FU a M.name) (ns:=ns) e f;show#[names,p,q,r,by rw[ay M.names];show s]
@[reducible]def Av(Pg:List Fn):Prop:=c6 HE Pg
def c6.namesOk(M:Av Pg):qo (Ji Pg (d+3)):=c6.Au CZ M
def c6.FW(M:c6 f Pg):Aq (Ji Pg (d+3)):=λns names b m a c e=>by
 have(rows,p,q,r,s):=Ap (Γ:=Ji Pg (d+2)) M.jN M.drawnOk (TM.FV M.told) (ns:=ns) a c e;show#[rows,p,q,r,by rw[ay M.book];show s]
end
section
def oM(h:Run (execs Γ (a++ss)) st f st2):(∃s1,Run (execs Γ a) st .nx s1/\Run (execs Γ ss) s1 f st2)\/(Run (execs Γ a) st f st2/\f≠.nx):=by
 induction a generalizing st with
 |nil=>show .inl #[st,aq,h]
 |cons s a i =>
  have h':M.bind (exec Γ s) (λf=>match f with|.nx=>execs Γ (a++ss)|f=>pure f) st=a0 (.ok f,st2):=h;unfold M.bind at h';cases e:exec Γ s st with
  |none=>rw[e]at h';cases h'
  |some p =>
   have(x,s1):=p;rw[e]at h';cases x with
   |exc c=>cases h'
   |ok g =>
    cases g with
    |nx =>
     rcases i h' with⟨s2,b,d⟩|⟨b,d⟩
     .show .inl #[s2,gq e b,d]
     .show .inr #[gq e b,d]
    |rt k u=>cases h';show .inr #[Ae e,λz=>nomatch z]
    |bk=>cases h';show .inr #[af (show Run (exec Γ s) st Fl.bk _ from e) bo,λz=>nomatch z]
    |ct=>cases h';show .inr #[af (show Run (exec Γ s) st Fl.ct _ from e) bo,λz=>nomatch z]
def HF(a:Run (exec Γ s) st f st1)(b:f≠.nx):Run (execs Γ (s::ss)) st f st1:=by
 cases f with
 |nx=>show absurd rfl b
 |rt k u=>show Ae a
 |_=>show af a bo
def mK(g:Run (Jx Γ c) st p st1)(h:p=b5->Run (execs Γ (a++ss)) st1 f st2)(i:p=cb->Run (execs Γ (b++ss)) st1 f st2):Run (execs Γ (.ite c a b::ss)) st f st2:=by
 cases p with
 |true =>
  rcases oM (h rfl) with⟨s1,d,e⟩|⟨d,e⟩
  .show gq (qg g d) e
  .show HF (qg g d) e
 |false =>
  rcases oM (i rfl) with⟨s1,d,e⟩|⟨d,e⟩
  .show gq (uc g d) e
  .show HF (uc g d) e
def qq(h:Run (ev Γ e) st (k,.bl p) st)(a:p=b5->Run (iX Γ (b::es)) st (.loc,.bl q) st):Run (iX Γ (e::b::es)) st (.loc,.bl (p&&q)) st:=by
 show FP h ?_;cases p with
 |true=>rw[ϥ rfl];show a rfl
 |false=>rw[Ϧ k9];show#[rfl,rfl]
def HG(h:Run (Jx Γ e) st p st)(a:p=cb->Run (f9 Γ (b::es)) st q st):Run (f9 Γ (e::b::es)) st (p||q) st:=by
 cases p with
 |true=>show Hx h
 |false=>show jf h (a rfl)
def um(h:Run (Jx Γ e) st p st)(a:p=b5->Run (aN Γ (b::es)) st q st):Run (aN Γ (e::b::es)) st (p&&q) st:=by
 cases p with
 |true=>show qf h (a rfl)
 |false=>show ub h
theorem di{cond:M Bool}(h:bt src st)(k:Kd)(hk:k=.loc\/k=.any)(a g:α->U)(d:Kd)(e:∀y,Run cond (a0 (k,a y)::st) b5 (a0 (k,a y)::st)):∀(c:List α) (b:List U),b.length+c.length<=dt ->
  (∀y∈c,Run elt (a0 (k,a y)::st) (d,g y) (a0 (k,a y)::st)/\Run (lift (d,g y)) (a0 (k,a y)::st) (g y) (a0 (k,a y)::st))->Run (bJ 1 cb cond elt src (c.map λy=>(k,a y)) b) st (b++c.map g) st
 |[],b,_,_=>by rw[LV,LV,Jq];show rV h
 |y::c,b,hl,f=>by
  have(i,j):=f y (by simp);rw[mx]at hl;show mF (s1:=a0 (k,a y)::st) (s2:=a0 (k,a y)::st) (s3:=a0 (k,a y)::st) (s4:=a0 (k,a y)::st) h ?_ (e y) i j ⋯ ?_
  .rcases hk with rfl|rfl
   .show dg aO
   .show dg mE
  .have:=di h k hk a g d e c (b++[g y]) (by simp;lia) λz hz=>f z (by simp[hz]);rw[eH];simpa using this
theorem fy{cond:M Bool}(h:bt src st)(k:Kd)(hk:k=.loc\/k=.any)(a g:α->U)(p:α->Bool)(e:Kd):∀(c:List α) (b:List U),b.length+c.length<=dt ->
  (∀y∈c,Run cond (a0 (k,a y)::st) (p y) (a0 (k,a y)::st)/\(p y=b5->Run elt (a0 (k,a y)::st) (e,g y) (a0 (k,a y)::st)/\Run (lift (e,g y)) (a0 (k,a y)::st) (g y) (a0 (k,a y)::st)))->Run (bJ 1 cb cond elt src (c.map λy=>(k,a y)) b) st (b++(c.filter p).map g) st
 |[],b,_,_=>by rw[LV,OD,LV,Jq];show rV h
 |y::c,b,hl,i=>by
  have(f,l):=i y (by simp);rw[mx]at hl;have j:Run (dO cb (hH 1) (k,a y)) (lx 1 bD++st) () (a0 (k,a y)::st):=by
   rcases hk with rfl|rfl
   .show dg aO
   .show dg mE
  cases d:p y with
  |true =>
   rw[d]at f;have(m,n):=l d;show mF (s1:=a0 (k,a y)::st) (s2:=a0 (k,a y)::st) (s3:=a0 (k,a y)::st) (s4:=a0 (k,a y)::st) h j f m n ⋯ ?_;have:=fy h k hk a g p e c (b++[g y]) (by simp;lia) λz hz=>i z (by simp[hz]);rw[vl,ϥ d,eH];simpa using this
  |false =>
   rw[d]at f;show ue (s1:=a0 (k,a y)::st) (s2:=a0 (k,a y)::st) h j f ?_;have:=fy h k hk a g p e c b ⋯ λz hz=>i z (by simp[hz]);rw[vl,Ϧ (by simp[d])];show this
theorem b8(it:α->Kd×U)(I:List α->List α->aB->Prop)(hs:∀d r st,I d r st->bt rs st)
  (Ŗ:∀d y r st,I d (y::r) st->∃st1 st2,Run (dO t is (it y)) st () st1/\Run body st1 .nx st2/\I (d++[y]) r st2):∀(r d:List α) (st:aB),I d r st->∃st',Run (forM t is body rs (r.map it)) st .nx st'/\I (d++r) [] st'
 |[],d,st,h=>#[st,Af (hs _ _ _ h),by rw[Jq];show h]
 |y::r,d,st,h=>by
  have(s1,s2,a,b,c):=Ŗ d y r st h;have(s3,e,f):=b8 it I hs Ŗ r (d++[y]) s2 c;show#[s3,FQ (hs _ _ _ h) a b e,by simpa using f]
def FX(a:Run (b_ Γ es) st rs st1)(c:bt rs st1)(d:Γ f (rs.map (·.2))=a0 (.ok r))(e:xB r.2=a0 b)(g:isAny r.1=cb:=by show rfl):Run (Jx Γ (.call f es)) st b st1:=af a (af (bE c) (af (vP d g) (cM e)))
def jO(h:Run (ev Γ (.bi f es)) st (k,.bl b) st1):Run (Jx Γ (.bi f es)) st b st1:=by
 have h':(b_ Γ es >>= λrs=>aM rs >>= λ_=>M.JA (KG f rs)) st=a0 (.ok (k,.bl b),st1):=h;obtain⟨rs,s1,c,d,s2,e,r,s3,g,i⟩:∃rs s1,b_ Γ es st=a0 (.ok rs,s1)/\∃(a:Unit) (s2:aB),aM rs s1=a0 (.ok a,s2)/\∃r s3,M.JA (KG f rs) s2=a0 (.ok r,s3)/\(r,s3)=((k,U.bl b),st1):=by
  have w:W (b_ Γ es >>= λrs=>aM rs >>= λ_=>M.JA (KG f rs)) st λr s=>(r,s)=((k,U.bl b),st1):=#[_,_,h',rfl]
  rw[ah]at w;have(rs,s1,c,w):=w;rw[ah]at w;have(a,s2,d,w):=w;have(r,s3,e,w):=w;show#[rs,s1,c,a,s2,d,r,s3,e,w]
 cases i;show af c (af (a:=d) e (af g (cM rfl)))
def HH(b:Run (ev Γ a) st x st1)(c:B5 x=a0 r):Run (ev Γ (.neg a)) st r st1:=af b (cM c)
def r6(b:st[i]?=a0 (a0 (k',.lst us')))(c:Run (ev Γ e) st r st1)(d:st1[i]?=a0 (a0 (k,.lst us)))(hk:k.root=b5)(g:l8 r (.lst us)=a0 (.lst zs))
  (h:Run (execs Γ ss) (st1.set i (a0 (k,.lst zs))) f st3) (j:k'≠.G':=by intro z;cases z):Run (execs Γ (.ext i e::ss)) st f st3:=by
 show gq (af (hV b j) (af (a:=()) (st1:=st) rfl (af c (af (a:=()) (st1:=st1.set i (a0 (k,.lst zs))) ?_ bo)))) h;change modS i (l8 r) st1=_;unfold modS;rw[d];simp only[hk,if_true];rw[g]
end
def qr(h:xs.length+a.length<=dt)(hs:fM k a=b5):l8 (k,.tup a) (.lst xs)=a0 (.lst (xs++a)):=by
 change(if xs.length+a.length<=dt/\fM k a=b5 then _ else _)=_;rw[ϥ #[h,hs]]
def vV(h:xs.length+a.length<=dt)(hs:fM k a=b5):l8 (k,.lst a) (.lst xs)=a0 (.lst (xs++a)):=by
 change(if xs.length+a.length<=dt/\fM k a=b5 then _ else _)=_;rw[ϥ #[h,hs]]
theorem oN:∀ss:List Str,dZ (ss.map U.str)=b5
 |[]=>by simp[dZ]
 |s::ss=>by simp[dZ,Jy,oN ss]
def vW(r:Row):Jy (A' r)=b5:=by simp[A',Jy,dZ,oN]
theorem a_:∀rs:List Row,dZ (rs.map A')=b5
 |[]=>by simp[dZ]
 |r::rs=>by simp[dZ,vW,a_ rs]
theorem mL:∀(a b:List Str),cI (a.map U.str) (b.map U.str)=df (a=b)
 |[],[]=>by simp[cI]
 |[],_::_=>by simp[cI]
 |_::_,[]=>by simp[cI]
 |x::a,y::b=>by
  rw[eH,eH,cI,mL a b];simp only[b9];by_cases h:x=y
  .subst h;simp
  .simp[h]
def iC(ss:List Str)(n:Nat):JY (n+1) (.lst (ss.map U.str))=b5:=by simp[JY,gK]
def Aw{a b:List Str}:bC .eq (.lst (a.map U.str)) (.lst (b.map U.str))=a0 (df (a=b)):=by
 simp only[bC];rw[ϥ #[iC a 49,iC b 49]];simp only[b9,mL]
def fz:bC .eq (.str a) (.str b)=a0 (df (a=b)):=by
 simp only[bC];rw[ϥ #[rfl,rfl]];simp only[b9];by_cases h:a=b
 .subst h;simp
 .simp[h]
def mM(h:a.length<4000)(b:(aE a).length<64):xx .sset [(k,.lst (a.map .str))]=a0 (.own,.lst ((aC (aE a)).map .str)):=by
 have e:iV (.lst (a.map U.str))=a0 (aE a):=by
  change(strsOf (a.map U.str)).bind _=_;rw[dh];change(if a.length+1<MB then _ else _)=_;rw[ϥ (by change a.length+1<4096;lia)]
 change(iV (.lst (a.map U.str))).bind _=_;rw[e];change(if (aE a).length<64 then _ else _)=_;rw[ϥ b]
abbrev jP(rows:List Row):List Str:=rows.map (·.1)++(rows.map (·.2)).flatten
def qt(h:∀r∈rows,eY names r):∀x∈jP rows,x∈names:=by
 intro x hx;rcases hZ.mp hx with hx|hx
 .have(r,a,rfl):=k8.mp hx;show(h r a).word
 .have(l,hl,hx):=We.mp hx;have(r,a,rfl):=k8.mp hl;show(h r a).told x hx
def r9{rows:List Row}(h:∀r∈rows,r.2.length<=n):(rows.map (·.2)).flatten.length<=n * rows.length:=by
 induction rows with
 |nil=>simp
 |cons r rows a =>
  have b:=h r (by simp);have c:=a λs hs=>h s (by simp[hs]);simp only[eH,VZ,ke,mx,Nat.mul_add];lia
def r_(l:List Str):(aC (aE l)).Nodup:=(aY _).nodup_iff.mpr (bY l)
def FY(l:List Str)(x:Str):x∈aC (aE l)↔x∈l:=by rw[(aY _).mem_iff,bH]
def uo{l names:List Str}(h:∀x∈l,x∈names):(aE l).length<=names.length:=d7 (bY l) λx a=>h x ((bH l x).mp a)
section
def xX{rows:List Row}(hl:rows.length<=1000)(h:st[i]?=a0 (a0 (.loc,.tup (rows.map A')))):Run (ev Γ (.comp 1 cb .seq [.var i] [] (.idx (.var 0) (.cst (.int 0))))) st (.own,.lst ((rows.map (·.1)).map .str)) st:=by
 have hsz:(1000:Nat)<=dt:=by decide
 have a:=di (cond:=aN Γ []) (elt:=ev Γ (.idx (.var 0) (.cst (.int 0)))) (src:=[(.loc,.tup (rows.map A'))]) (st:=st) trivial .loc (.inl rfl) A' (λr=>.str r.1) .loc (λ_=>dC) rows [] (by simp;lia)
  (λr _=>#[aF (x:=(.loc,A' r)) (ae rfl) au trivial rfl,aL])
 rw[hY]at a;have e:(rows.map A').map (λu=>(kE .loc,u))=rows.map λr=>(Kd.loc,A' r):=by rw[fx];rfl
 rw[fx];show br (rs:=[(.loc,.tup (rows.map A'))]) (aa (ae h) ag) trivial (by change a0 _=_;rw[e]) a
end
section
def HI(c:Run (ev Γ a) st x st1)(d:rH x.2 T=a0 b):Run (Jx Γ (.NY a T)) st b st1:=af c (cM d)
end
abbrev cu(rows:List Row):List Str:=(rows.map λr=>r.1::r.2).flatten
abbrev av(rows:List Row):List Str:=aC (aE (cu rows))
def sd(d:List Row)(y:Row):cu (d++[y])=cu d++[y.1]++y.2:=by simp[cu]
def dm:x∈cu rows↔∃r∈rows,x=r.1\/x∈r.2:=by
 simp only[cu,We,k8];constructor
 .rintro⟨l,⟨r,a,rfl⟩,b⟩;show#[r,a,fR.mp b]
 .rintro⟨r,a,b⟩;show#[_,#[r,a,rfl],fR.mpr b]
def jh(h:∀r∈rows,eY names r):∀x∈cu rows,x∈names:=by
 intro x hx;have(r,a,hx):=dm.mp hx;rcases hx with rfl|hx
 .show(h r a).word
 .show(h r a).told x hx
def mN(h:∀r∈rows,r.2.length<=8):(cu rows).length<=9 * rows.length:=by
 induction rows with
 |nil=>simp[cu]
 |cons r rows a =>
  have c:=h r (by simp);have b:=a λs hs=>h s (by simp[hs]);simp only[cu,eH,VZ,ke,mx]at b ⊢;lia
def fA:x∈av rows↔x∈cu rows:=FY _ _
def fB(rows:List Row):(av rows).Nodup:=r_ _
def cS(h:∀r∈rows,eY names r):(av rows).length<=names.length:=by
 change(aC (aE (cu rows))).length<=_;rw[bX];show uo (jh h)
abbrev mO:Fn:=#["words_of",1,3,[.set 1 (.lst []),.Jw cb [2] .seq [.var 0] [.app 1 (.idx (.var 2) (.cst (.int 0))),.ext 1 (.idx (.var 2) (.cst (.int 1)))],.ret (.MR .sset [.var 1])]]
def dP(hl:rows.length<=120)(c:∀r∈rows,eY names r)(o:names.length<64):bN Γ mO [.tup (rows.map A')]=a0 (.ok (.own,.lst ((av rows).map .str))):=by
 have hsz:(4000:Nat)<=dt:=by decide
 have f:TM.start [.tup (rows.map A')] 3=[a0 (.loc,.tup (rows.map A')),bD,bD]:=by simp[TM.start,Jy,a_]
 have b:∀r∈rows,r.2.length<=8:=λr h=>(c r h).MF;have(st',g,_,o2,e):=b8 (t:=cb) (is:=[2]) (body:=execs Γ [.app 1 (.idx (.var 2) (.cst (.int 0))),.ext 1 (.idx (.var 2) (.cst (.int 1)))]) (rs:=[(.loc,.tup (rows.map A'))]) (λr:Row=>(Kd.loc,A' r))
  (λd r st=>d++r=rows/\∃o2,st=[a0 (.loc,.tup (rows.map A')),a0 (.own,.lst ((cu d).map .str)),o2]) (λ_ _ _ _=>trivial) (λd y r st i=>by
   have(a,o2,e):=i;subst e;have j:y∈rows:=by rw[<-a];simp
   have p:=mN (rows:=d) λs hs=>b s (by rw[<-a];simp[hs]);have l:d.length<=120:=by have:=ϩ DD a;simp at this;lia
   have m:=b y j;show#[[a0 (.loc,.tup (rows.map A')),a0 (.own,.lst ((cu d).map .str)),a0 (.loc,A' y)],[a0 (.loc,.tup (rows.map A')),a0 (.own,.lst ((cu d).map .str++[.str y.1]++y.2.map .str)),a0 (.loc,A' y)],dg aO,?_,by rw[<-a];simp,a0 (.loc,A' y),?_]
   .show jg (k:=.own) (k':=.own) (r:=(.loc,.str y.1)) rfl (aF (x:=(.loc,A' y)) (ae rfl) au trivial rfl) aL rfl rfl (by rw[cK];lia)
     (r6 (k:=.own) rfl (aF (x:=(.loc,A' y)) (ae rfl) au trivial rfl) rfl rfl (qr (by simp;lia) rfl) aq)
   .rw[sd];simp) rows [] [a0 (.loc,.tup (rows.map A')),a0 (.own,.lst []),bD] ⟨rfl,bD,rfl⟩
 subst e;have n:(rows.map A').map (λu=>(kE .loc,u))=rows.map λr=>(Kd.loc,A' r):=by rw[fx];rfl
 have q:=mN b;have l:=uo (jh c);show aI rfl (.inl rfl) f (aD (r:=(.own,.lst [])) (cj ag trivial aS (nH _)) aZ (cm (rs:=[(.loc,.tup (rows.map A'))]) (aa (ae rfl) ag) trivial rfl rfl (by rw[n];show g) (bI (oF (aa (aA rfl) ag) #[#[.own,rfl,rfl],trivial] (mM ⋯ ⋯)) d6)))
def vX(h:ks.length<1000):dG (.str x) u (.Jc ks us)=a0 (.Jc (dput ks us x u).1 (dput ks us x u).2):=by
 have hsz:(1000:Nat)<=dt:=by decide
 change(if ks.length<dt then _ else _)=_;rw[ϥ ⋯]
end TM
namespace Od
section
variable{W:Type}[DecidableEq W]{rows:List (W×List W)}
abbrev dI(rows:List (W×List W))(C:W->Prop):Prop:=∀r∈rows,(∀x∈r.2,C x)->C r.1
abbrev LM(rows:List (W×List W))(K:List W):Prop:=∀C:W->Prop,dI rows C->∀x∈K,C x
def same(a:K.Nodup)(b:L.Nodup)(sK:LM rows K)(c:LM rows L)(d:dI rows (·∈K))(e:dI rows (·∈L)):K.Perm L :=
 (Ot a b).mpr λx=>#[λh=>sK _ e x h,λh=>c _ d x h]
abbrev told(rows:List (W×List W))(p:Nat):List W:=match rows[p]? with
 |some r=>r.2
 |none=>[]
def kW(h:rows[p]?=a0 r):told rows p=r.2:=by unfold told;rw[h]
abbrev ur(K l:List W):Nat:=(l.filter λx=>df (x∉K)).length
abbrev cnt(rows:List (W×List W))(K:List W)(p:Nat):Nat:=ur K (told rows p)
def xY{K l:List W}:ur K l=0↔∀x∈l,x∈K:=by
 unfold ur;rw[Wf,SX];constructor
 .intro h x a;have:=h x a;simpa using this
 .intro h x a;simpa using h x a
theorem se(f:w∉K):∀{l:List W},l.Nodup->ur (K++[w]) l+(if w∈l then 1 else 0)=ur K l
 |[],_=>rfl
 |x::l,h=>by
  have(g,i):=p6.mp h;have d:=se f i;unfold ur at d ⊢;by_cases e:x=w
  .subst e;have a:df (x∉K++[x])≠b5:=by simp
   have b:df (x∉K)=b5:=Ϩ f;rw[SG (p:=λy=>df (y∉K++[x])) a,SA (p:=λy=>df (y∉K)) b,mx,ϥ (k7 ..)];rw[Ϧ g]at d;lia
  .have j:w≠x:=λz=>e z.symm;have k:(if w∈x::l then 1 else 0)=if w∈l then 1 else 0:=by simp[j]
   rw[k];by_cases c:x∈K
   .have a:df (x∉K++[w])≠b5:=by simp[c]
    have b:df (x∉K)≠b5:=by simp[c]
    rw[SG (p:=λy=>df (y∉K++[w])) a,SG (p:=λy=>df (y∉K)) b];show d
   .have a:df (x∉K++[w])=b5:=by simp[c,e]
    have b:df (x∉K)=b5:=by simp[c]
    rw[SA (p:=λy=>df (y∉K++[w])) a,SA (p:=λy=>df (y∉K)) b,mx,mx];lia
abbrev Once(rows:List (W×List W)):Prop:=∀r∈rows,r.2.Nodup
def Once.told(h:Once rows)(p:Nat):(told rows p).Nodup:=by
 unfold Od.told;split
 .rename_i r e;show h r (lg e)
 .show .nil
def sf:cnt rows K p=0↔∀x∈told rows p,x∈K:=xY
def qu(h:Once rows)(a:w∉K)(p:Nat):cnt rows (K++[w]) p+(if w∈told rows p then 1 else 0)=cnt rows K p:=se a (h.told p)
abbrev JS(rows:List (W×List W))(n:Nat)(w:W):List Nat:=(hH n).filter λp=>df (w∈told rows p)
def xZ(n:Nat)(w:W):(JS rows n w).Nodup:=ë JM List.nodup_range
def ji:p∈JS rows n w↔p<n/\w∈told rows p:=by simp[JS]
abbrev aT(ps:List (W×Nat))(w:W):List Nat:=(ps.filter λp=>df (p.1=w)).map (·.2)
theorem sg:∀{l:List W},l.Nodup->aT (l.map λx=>(x,n)) w=if w∈l then [n] else []
 |[],_=>rfl
 |x::l,h=>by
  have(b,c):=p6.mp h;have a:=sg (n:=n) (w:=w) c;unfold aT at a ⊢;rw[eH,vl];by_cases e:x=w
  .subst e;rw[Ϧ b]at a;rw[ϥ (by simp),eH,a,ϥ (by simp)]
  .rw[Ϧ (by simpa using e),a];have d:w≠x:=λz=>e z.symm;simp[d]
def si(a b:List (W×Nat))(w:W):aT (a++b) w=aT a w++aT b w:=by simp[aT]
def x6(h:Once rows)(a:rows[n]?=a0 r)(b:∀w,aT ps w=JS rows n w)(w:W):aT (ps++r.2.map λx=>(x,n)) w=JS rows (n+1) w:=by
 rw[si,b w,sg (h r (lg a))];unfold JS;rw[Ũ,Sq];congr 1
 rw[vl,OD,kW a];by_cases e:w∈r.2<;>simp[e]
structure RI(rows:List (W×List W))(K0 K:List W)(R:List Nat):Prop where
 Rf:∀t∈R,t<rows.length/\cnt rows K t=0
 all:∀t,t<rows.length->cnt rows K t=0->cnt rows K0 t=0\/t∈R
def RI.start(K:List W):RI rows K K []:=#[by simp,λt _ h=>.inl h]
def RI.step(h:Once rows)(x:RI rows K0 K R)(d:w∉K):RI rows K0 (K++[w]) (R++(JS rows rows.length w).filter λt=>df (cnt rows K t=1)):=by
 show#[λt ht=>?_,λt ht i=>?_]
 .have a:=qu h d t;rcases hZ.mp ht with ht|ht
  .have(b,e):=x.Rf t ht;show#[b,⋯]
  .have(b,e):=oa.mp ht;have(f,g):=ji.mp b;rw[ϥ g]at a;have:cnt rows K t=1:=by simpa using e
   show#[f,⋯]
 .have a:=qu h d t;by_cases c:w∈told rows t
  .rw[ϥ c]at a;show .inr (hZ.mpr (.inr (oa.mpr #[ji.mpr #[ht,c],by simp;lia])))
  .rw[Ϧ c]at a;rcases x.all t ht ⋯ with z|z
   .show .inl z
   .show .inr (hZ.mpr (.inl z))
structure NS(rows:List (W×List W))(K:List W)(d:List Nat)(ps:List (W×Nat)):Prop where
 ok:∀s∈ps,s.2∈d/\s.1∉K/\∃r,rows[s.2]?=a0 r/\r.1=s.1
 once:(ps.map (·.1)).Nodup
 all:∀p∈d,∀r,rows[p]?=a0 r->r.1∈K\/r.1∈ps.map (·.1)
def NS.start(K:List W):NS rows K [] []:=#[by simp,by simp,by simp]
def NS.skip(x:NS rows K d ps)(f:rows[p]?=a0 r)(h:r.1∈K\/r.1∈ps.map (·.1)):NS rows K (d++[p]) ps :=
 #[λs hs=>let ⟨a,b,c⟩:=x.ok s hs;⟨by simp[a],b,c⟩,x.once,λq hq g e=>by
  rcases hZ.mp hq with hq|hq
  .show x.all q hq g e
  .have:q=p:=by simpa using hq
   subst this;rw[f]at e;cases e;show h]
def NS.take(x:NS rows K d ps)(g:rows[p]?=a0 r)(h:r.1∉K)(i:r.1∉ps.map (·.1)):NS rows K (d++[p]) (ps++[(r.1,p)]):=by
 show#[λs hs=>?_,?_,λq hq j f=>?_]
 .rcases hZ.mp hs with hs|hs
  .have(a,b,c):=x.ok s hs;show#[by simp[a],b,c]
  .have:s=(r.1,p):=by simpa using hs
   subst this;show#[by simp,h,r,g,rfl]
 .rw[nc,ri];show#[x.once,by simp,λa k b l e=>?_];have:b=r.1:=by simpa using l
  subst this;show i (e▸k)
 .rcases hZ.mp hq with hq|hq
  .rcases x.all q hq j f with z|z
   .show .inl z
   .show .inr (by simp only[nc,hZ];show .inl z)
  .have:q=p:=by simpa using hq
   subst this;rw[g]at f;cases f;show .inr (by simp)
def NS.perm(x:NS rows K d ps)(h:a.Perm ps):NS rows K d a :=
 #[λs hs=>x.ok s (h.mem_iff.mp hs),(h.map _).nodup_iff.mpr x.once,λp b r c=>(x.all p b r c).imp id λz=>(h.map _).mem_iff.mpr z]
def vS(rows:List (W×List W)):List W->List (W×Nat)->Prop
 |_,[]=>True
 |K,s::ss=>(s.1∉K/\∃r,rows[s.2]?=a0 r/\r.1=s.1/\∀x∈r.2,x∈K)/\vS rows (K++[s.1]) ss
theorem Ax:∀{a b:List (W×Nat)}{K:List W},vS rows K a->vS rows (K++a.map (·.1)) b->vS rows K (a++b)
 |[],b,K,_,h=>by simpa using h
 |s::a,b,K,c,d=>#[c.1,Ax c.2 (by simpa using d)]
theorem Ay:∀{ss:List (W×Nat)}{K:List W},(∀s∈ss,s.1∉K/\∃r,rows[s.2]?=a0 r/\r.1=s.1/\∀x∈r.2,x∈K)->(ss.map (·.1)).Nodup->vS rows K ss
 |[],K,_,_=>trivial
 |s::ss,K,h,a=>by
  have b:s.1∉ss.map (·.1)/\(ss.map (·.1)).Nodup:=by
   rw[eH]at a;show p6.mp a
  show#[h s (by simp),Ay (λt c=>?_) b.2];have(d,r,e,f,g):=h t (by simp[c]);show#[λz=>?_,r,e,f,λx i=>by simp[g x i]];rcases hZ.mp z with z|z
  .show d z
  .have:t.1=s.1:=by simpa using z
   show b.1 (this▸k8.mpr #[t,c,rfl])
theorem jk:∀{ss:List (W×Nat)}{K:List W},vS rows K ss->K.Nodup->(K++ss.map (·.1)).Nodup
 |[],K,_,h=>by simpa using h
 |s::ss,K,h,c=>by
  have:(K++[s.1]).Nodup:=by
   rw[ri];show#[c,by simp,λa d b f e=>?_];have:b=s.1:=by simpa using f
   subst this;show h.1.1 (e▸d)
  have:=jk h.2 this;simpa using this
theorem Az:∀{ss:List (W×Nat)}{K:List W},vS rows K ss->LM rows K->LM rows (K++ss.map (·.1))
 |[],K,_,h=>by simpa using h
 |s::ss,K,h,b=>by
  have c:LM rows (K++[s.1]):=λC a x hx=>by
   rcases hZ.mp hx with hx|hx
   .show b C a x hx
   .have:x=s.1:=by simpa using hx
    subst this;have(_,r,d,e,f):=h.1;rw[<-e];show a r (lg d) λy g=>b C a y (f y g)
  have:=Az h.2 c;simpa using this
theorem sj:∀{ss:List (W×Nat)}{K:List W},vS rows K ss->∀x∈ss.map (·.1),x∈rows.map (·.1)
 |[],K,_,x,hx=>by simp at hx
 |s::ss,K,h,x,hx=>by
  rw[eH]at hx;rcases fR.mp hx with rfl|hx
  .have(_,r,a,b,c):=h.1;show k8.mpr #[r,lg a,b]
  .show sj h.2 x hx
structure LI(rows:List (W×List W))(Jf:List (W×Nat))(R:List Nat):Prop where
 ok:vS rows [] Jf
 Rf:∀t∈R,t<rows.length/\cnt rows (Jf.map (·.1)) t=0
 all:∀t r,rows[t]?=a0 r->cnt rows (Jf.map (·.1)) t=0->t∈R\/r.1∈Jf.map (·.1)
def LI.step(x:LI rows a R)(n:NS rows (a.map (·.1)) R st)(y:RI rows (a.map (·.1)) (a.map (·.1)++st.map (·.1)) e):LI rows (a++st) e:=by
 have em:(a++st).map (·.1)=a.map (·.1)++st.map (·.1):=nc;show#[Ax x.ok (Ay (λs hs=>?_) n.once),λt f=>by rw[em];show y.Rf t f,λt r b c=>?_]
 .have(g,h,r,d,i):=n.ok s hs;have hz:=(x.Rf _ g).2;rw[sf,kW d]at hz;show#[by simpa using h,r,d,i,by simpa using hz]
 .rw[em]at c ⊢;rcases y.all t (et.mp b).1 c with z|z
  .rcases x.all t r b z with z|z
   .rcases n.all t z r b with z|z
    .show .inr (hZ.mpr (.inl z))
    .show .inr (hZ.mpr (.inr z))
   .show .inr (hZ.mpr (.inl z))
  .show .inl z
def LI.nd(x:LI rows a R):(a.map (·.1)).Nodup:=by simpa using jk x.ok .nil
def LI.sn(x:LI rows a R):LM rows (a.map (·.1)):=by simpa using Az x.ok λ_ _ _ h=>absurd h rz
def LI.wd(x:LI rows a R):∀y∈a.map (·.1),y∈rows.map (·.1):=sj x.ok
def LI.closed(x:LI rows b []):dI rows (·∈b.map (·.1)):=λr c h=>by
 have(t,a):=WK.mp c;rcases x.all t r a (by rw[sf,kW a];show h) with z|z
 .cases z
 .show z
def vY{K L:List W}(h:K.Nodup)(s:∀x∈K,x∈L):K.length<=L.length:=by
 induction K generalizing L with
 |nil=>simp
 |cons a K d =>
  have(f,g):=p6.mp h;have b:a∈L:=s a (by simp);have:=d (L:=L.erase a) g λx c=>by
   have i:x≠a:=λe=>f (e▸c);show(Xg i).mpr (s x (by simp[c]))
  rw[è b]at this;have:0<L.length:=Wu b;rw[mx];lia
end
end Od
namespace TM
open PySem L2 JB
section
def DL(h:st[j]?=a0 (a0 (.own,u))):Run (lift (.bor j,a)) st u (st.set j (a0 (.loc,u))):=by
 change(match st[j]? with|some (a0 (.own,u))=>a0 (Ex.ok u,st.set j (a0 (.loc,u)))|_=>bD)=_;rw[h]
def vZ(h:Run c st cb st1):Run (f_ c body (n+1)) st .nx st1:=af h bo
def uu(h:Run c st b5 st1)(a:Run body st1 .nx st2)(b:Run (f_ c body n) st2 f st3):Run (f_ c body (n+1)) st f st3:=af h (af a b)
def v5(h:Run (f_ (Jx Γ c) (execs Γ body) fuel) st .nx st1)(a:Run (execs Γ ss) st1 f st2):Run (execs Γ (.Nn c body::ss)) st f st2:=gq h a
def jl(hk:k=.loc\/k=.any):Run (dO b5 [i,j] (k,.tup [a,b])) st () ((st.set i (a0 (k,a))).set j (a0 (k,b))):=by
 rcases hk with rfl|rfl<;>rfl
def AA(h:Run (execs Γ ss) (st.set i (a0 (.G',.Jc [] []))) f st1):Run (execs Γ (.newD i::ss)) st f st1:=gq (af (a:=()) (st1:=st.set i (a0 (.G',.Jc [] []))) rfl bo) h
def qv(h:st[i]?=a0 (a0 (.G',.Jc ks us))):Run (iW i) st (ks,us) st:=by
 change iW i st=_;unfold iW;rw[h]
def uw:Run (kG (k,.str y)) st y st:=rfl
def C1(a:st[i]?=a0 (a0 (.G',.Jc ks us)))(b:y∉ks)(c:ks.length<dt):Run (l0 i y (.own,.lst xs)) st () (st.set i (a0 (.G',.Jc (ks++[y]) (us++[.lst xs])))):=by
 change l0 i y (.own,.lst xs) st=_;unfold l0
 dsimp only
 rw[a]
 dsimp only
 rw[ϥ #[b,c]]
def C2(a:st[i]?=a0 (a0 (.G',.Jc ks us)))(b:cJ ks us y=a0 (.lst xs))(c:xs.length<dt):Run (l7 i y u) st () (st.set i (a0 (.G',.Jc ks (jC ks us y (.lst (xs++[u])))))):=by
 change l7 i y u st=_;unfold l7;rw[a]
 dsimp only
 rw[b]
 dsimp only
 rw[ϥ c]
def AB(b:Run (ev Γ a) st (k,.str y) st1)(c:st1[i]?=a0 (a0 (.G',.Jc ks us))):Run (Jx Γ (.inD neg a i)) st (UK neg y ks) st1 :=
 af b (af uw (af (qv c) bo))
def AD(b:Run (ev Γ c) st (.own,.lst xs) st1)(a:st1[i]?=a0 (a0 (.G',.Jc ks us)))(d:Run (ev Γ e) st1 (k,.str y) st1)(g:y∉ks)(h:ks.length<dt)
  (j:Run (execs Γ ss) (st1.set i (a0 (.G',.Jc (ks++[y]) (us++[.lst xs])))) f st3):Run (execs Γ (.putD i e c::ss)) st f st3:=by
 show gq ?_ j;show af b (af (qv a) (af d (af uw (af (C1 a g h) bo))))
def AE(a:st[i]?=a0 (a0 (.G',.Jc ks us)))(b:Run (ev Γ c) st (k,.str y) st)(d:y∈ks)(e:Run (ev Γ g) st r st)(h:Run (lift r) st u st)(j:cJ ks us y=a0 (.lst xs))(l:xs.length<dt)
  (m:Run (execs Γ ss) (st.set i (a0 (.G',.Jc ks (jC ks us y (.lst (xs++[u])))))) f st3):Run (execs Γ (.KP i c g::ss)) st f st3:=by
 show gq ?_ m;show af (qv a) (af b (af uw (af (qv a) ?_)));rw[ϥ d];show af e (af h (af (C2 a j l) bo))
def HJ(h:st[i]?=a0 (a0 (.G',.Jc ks us))):Run (ev Γ (.Py i)) st (.bor i,.Jc ks us) (st.set i (a0 (.own,.Jc ks us))):=by
 change zk i st=_;unfold zk;rw[h]
def FZ(c:st[i]?=a0 (a0 (.own,.Jc ks us)))(d:Run (ev Γ a) st (k,.str y) st)(e:Run (ev Γ b) st z st)(f:Run (lift z) st u st)(g:(match cJ ks us y with|some v=>(Kd.loc,v)|none=>(.loc,u))=r):
  Run (ev Γ (.LG i a b)) st r st:=by
 show af (hV c) (af (a:=()) (st1:=st) rfl (af d (af (a:=y) (st1:=st) rfl (af e (af f (af (hV c) (cM ?_)))))));subst g;rfl
def HK(b:st[i]?=a0 (a0 (.own,.lst us)))(d:Run (ev Γ e) st (k1,.int (j:Nat)) st)(c:us[j]?=a0 (.int o))(g:Run (ev Γ h) st (k2,.int w) st)
  (k:Run (execs Γ ss) (st.set i (a0 (.own,.lst (us.set j (.int (o - w)))))) f st3):Run (execs Γ (.aug b5 i e h::ss)) st f st3:=by
 have hl:rF i st=a0 (.ok us,st):=by unfold rF;rw[b];rfl
 have l:j<us.length:=(et.mp c).1;have m:rG us (j:Nat)=a0 o:=by
  unfold rG;rw[ϥ ⋯,OU,c]
 have n:Mp us.length (j:Nat)=a0 j:=by
  unfold Mp;rw[ϥ ⋯]
  first|(rw[ϥ ⋯];simp)|simp[l]
 show gq (af (a:=us) (st1:=st) hl (af d (af (a:=(j:Int)) (st1:=st) rfl (af (a:=us) (st1:=st) hl (af (cM m) (af g (af (a:=w) (st1:=st) rfl (af (a:=()) (st1:=st.set i (a0 (.own,.lst (us.set j (.int (o - w)))))) ?_ bo)))))))) k;change modS i (dG (.int (j:Nat)) (.int (xD b5 o w))) st=_;unfold modS;rw[b];simp only[Kd.root,if_true,dG];rw[n];rfl
def HL(a:st[i]?=a0 (a0 (.own,u)))(b:zi u=a0 r):Run (ev Γ (.Pz i)) st r st:=af (hV a) (cM b)
end
theorem jm(f:Str->U)(y:Str):∀ks:List Str,cJ ks (ks.map f) y=if y∈ks then a0 (f y) else bD
 |[]=>rfl
 |k::ks=>by
  rw[eH];change(if k=y then a0 (f k) else cJ ks (ks.map f) y)=_;by_cases e:k=y
  .subst e;rw[ϥ rfl,ϥ (by simp)]
  .rw[Ϧ e,jm f y ks];have:(y∈k::ks)↔y∈ks:=by simp[uv e]
   by_cases h:y∈ks
   .rw[ϥ h,ϥ (this.mpr h)]
   .rw[Ϧ h,Ϧ λz=>h (this.mp z)]
theorem mP(f:Str->U)(y:Str)(u:U):∀ks:List Str,ks.Nodup->jC ks (ks.map f) y u=ks.map λk=>if k=y then u else f k
 |[],_=>rfl
 |k::ks,h=>by
  have(b,c):=p6.mp h;rw[eH,eH];change(if k=y then u::ks.map f else f k::jC ks (ks.map f) y u)=_;by_cases e:k=y
  .subst e;rw[ϥ rfl,ϥ rfl];congr 1
   show tj λz hz=>?_;have a:z≠k:=λq=>b (by rw[<-q];show hz);rw[Ϧ a]
  .rw[Ϧ e,Ϧ e,mP f y u ks c]
abbrev stN(s:Str×Nat):U:=.tup [.str s.1,.int (s.2:Nat)]
theorem oO(f:α->Int):∀(ns:List α),intsOf (ns.map λa=>U.int (f a))=a0 (ns.map f)
 |[]=>rfl
 |n::ns=>by change(intsOf (ns.map λa=>U.int (f a))).map _=_;rw[oO f ns];rfl
def C3(h:ps.length<64)(c:(ps.map (·.1)).Nodup):∃a:List (Str×Nat),a.Perm ps/\zi (.Jc (ps.map (·.1)) (ps.map λp=>.int (p.2:Nat)))=a0 (.own,.lst (a.map stN)):=by
 have d:=oO (λp:Str×Nat=>((p.2:Nat):Int)) ps;have hz:(ps.map (·.1)).zip (ps.map λp:Str×Nat=>((p.2:Nat):Int))=ps.map λp=>(p.1,((p.2:Nat):Int)):=by
  rw[Λ]
 let P:=eS ((ps.map λp=>(p.1,((p.2:Nat):Int))).map (·.1));have b:P.Perm (hH ps.length):=by
  have:=cw ((ps.map λp=>(p.1,((p.2:Nat):Int))).map (·.1));simpa[P] using this
 show#[P.map λi=>ps.getD i (vr,0),?_,?_]
 .show(b.map _).trans ?_;have:(hH ps.length).map (λi=>ps.getD i (vr,0))=ps:=by
   apply Om
   .simp
   .intro i j e;simp[M0,e]
  rw[this]
 .change(intsOf (ps.map λp=>U.int (p.2:Nat))).bind _=_;rw[d];change(if (ps.map (·.1)).length<64/\(ps.map (·.1)).Nodup/\(ps.map (·.1)).length=(ps.map λp:Str×Nat=>((p.2:Nat):Int)).length then _ else _)=_;rw[ϥ #[by simpa using h,c,by simp],hz];congr 3
  change(B3 _).map xA=_;change(P.map λi=>(ps.map λp=>(p.1,((p.2:Nat):Int))).getD i (vr,0)).map xA=_;rw[fx,fx];show tj λi f=>?_;have g:i<ps.length:=Jl.mp (b.mem_iff.mp f);simp[M0,g,xA,stN]
def HM(h:df (i<=j)=c):bC .le (.int i) (.int j)=a0 c:=by subst h;rfl
def HN(h:df (j<=i)=c):bC .ge (.int i) (.int j)=a0 c:=by subst h;rfl
def jQ:bC .isin (.str x) (.Jc ks vs)=a0 (df (x∈ks)):=rfl
def gM:bC .Je (.str x) (.Jc ks vs)=a0 (!df (x∈ks)):=rfl
def sk{ss:List Str}:bC .isin (.str x) (.lst (ss.map U.str))=a0 (df (x∈ss)):=by
 have h:=@dE x ss;have e:bC .Je (.str x) (.lst (ss.map U.str))=(bC .isin (.str x) (.lst (ss.map U.str))).map (!·):=rfl;rw[e,ez]at h;have(b,a,c):=h;rw[a];congr 1
 cases b<;>simp_all
def mQ:bC .ne (.str a) (.str b)=a0 (!df (a=b)):=by
 have:bC .ne (.str a) (.str b)=(bC .eq (.str a) (.str b)).map (!·):=by
  simp only[bC];rw[ϥ #[rfl,rfl],ϥ #[rfl,rfl]];rfl
 rw[this,fz];rfl
def jn(a:List Bool):KG .all [(k,.lst (a.map .bl))]=a0 (.loc,.bl (a.all id)):=by
 change(lW (a.map U.bl)).map _=_;have:∀a:List Bool,lW (a.map U.bl)=a0 a:=λa=>by
  induction a with
  |nil=>rfl
  |cons b a c=>change(lW (a.map U.bl)).map _=_;rw[c];rfl
 rw[this];rfl
mutual
theorem oP:∀(n:Nat) (u:U),JY n u=b5->b9 u u=b5
 |_,.Jp,_=>rfl
 |_,.bl b,_=>by simp[b9]
 |_,.int i,_=>by simp[b9]
 |_,.str x,_=>by simp[b9]
 |0,.tup xs,h=>by simp[JY]at h
 |0,.lst xs,h=>by simp[JY]at h
 |n+1,.tup xs,h=>by rw[b9];show iD n xs (by simpa[JY] using h)
 |n+1,.lst xs,h=>by rw[b9];show iD n xs (by simpa[JY] using h)
 |_,.Jc _ _,h=>by simp[JY]at h
 |_,.J8 _,h=>by simp[JY]at h
theorem iD:∀(n:Nat) (us:List U),cZ n us=b5->cI us us=b5
 |_,[],_=>rfl
 |n,u::us,h=>by
  have h':JY n u=b5/\cZ n us=b5:=by simpa[cZ] using h
  rw[cI,oP n u h'.1,iD n us h'.2];rfl
end
section
def oQ{told known:List Str}(hk:k=.loc\/k=.any)(hl:told.length<=1000)(hs:Run (ev Γ src) st (.loc,.tup (told.map .str)) st)(hj:st[j]?=a0 (a0 (k,w))\/st[j]?=a0 (a0 (.own,w)))(a:∀x:Str,bC .isin (.str x) w=a0 (df (x∈known))):
  Run (ev Γ (.bi .all [.comp 1 cb .seq [src] [] (.cmp .isin (.var 0) (.var (j+1)))])) st (.loc,.bl (told.all λx=>df (x∈known))) st:=by
 have hsz:(1000:Nat)<=dt:=by decide
 have b:=di (cond:=aN Γ []) (elt:=ev Γ (.cmp .isin (.var 0) (.var (j+1)))) (src:=[(.loc,.tup (told.map .str))]) (st:=st) trivial .loc (.inl rfl) U.str (λx=>.bl (df (x∈known))) .loc (λ_=>dC) told [] (by simp;lia)
  (λy _=>#[by
   rcases hj with hj|hj
   .rcases hk with rfl|rfl
    .show d5 (ae rfl) (ae (by simpa using hj)) trivial (a y)
    .show d5 (ae rfl) (aQ (by simpa using hj)) trivial (a y)
   .show d5 (ae rfl) (aA (by simpa using hj)) #[#[.own,rfl,by simpa using hj],trivial] (a y),aL])
 rw[hY]at b;have e:(told.map U.str).map (λu=>(kE .loc,u))=told.map λr=>(Kd.loc,U.str r):=by rw[fx];rfl
 have c:(told.map λx=>U.bl (df (x∈known)))=(told.map λx=>df (x∈known)).map U.bl:=by rw[fx];rfl
 rw[c]at b;have d:(told.all λx=>df (x∈known))=((told.map λx=>df (x∈known)).all id):=by rw[UE];rfl
 rw[d];show cA (aa (br (rs:=[(.loc,.tup (told.map .str))]) (aa hs ag) trivial (by change a0 _=_;rw[e]) b) ag) trivial (jn _)
end
def v7(h:ks.length<1000)(a:x∉ks):dG (.str x) u (.Jc ks us)=a0 (.Jc (ks++[x]) (us++[u])):=by
 rw[vX h];unfold dput;rw[Ϧ a]
def mR(h:JY 50 (.lst us)=b5):bC .ne (.lst us) (.lst [])=a0 (!us.isEmpty):=by
 simp only[bC];rw[ϥ #[h,by simp[JY,cZ]]];cases us with
 |_=>simp[b9,cI]
theorem oR(f:α->Int):∀(l:List α) (n:Nat),cZ n (l.map λa=>U.int (f a))=b5
 |[],n=>by simp[cZ]
 |a::l,n=>by rw[eH,cZ,oR f l n];simp[JY]
theorem mS:∀(ss:List (Str×Nat)) (n:Nat),cZ (n+1) (ss.map stN)=b5
 |[],n=>by simp[cZ]
 |s::ss,n=>by rw[eH,cZ,mS ss n];simp[stN,JY,cZ]
theorem iE{cond:M Bool}(h:bt src st)(a b g:α->U)(p:α->Bool):∀(d:List α) (c:List U),c.length+d.length<=dt ->
  (∀y∈d,Run cond (a0 (.loc,a y)::a0 (.loc,b y)::st) (p y) (a0 (.loc,a y)::a0 (.loc,b y)::st)/\Run elt (a0 (.loc,a y)::a0 (.loc,b y)::st) (.loc,g y) (a0 (.loc,a y)::a0 (.loc,b y)::st)) ->
  Run (bJ 2 b5 cond elt src (d.map λy=>(Kd.loc,U.tup [a y,b y])) c) st (c++(d.filter p).map g) st
 |[],c,_,_=>by rw[LV,OD,LV,Jq];show rV h
 |y::d,c,hl,i=>by
  have(e,k):=i y (by simp);rw[mx]at hl;have j:Run (dO b5 (hH 2) (.loc,.tup [a y,b y])) (lx 2 bD++st) () (a0 (.loc,a y)::a0 (.loc,b y)::st):=jl (.inl rfl);cases f:p y with
  |true =>
   rw[f]at e;show mF (s1:=a0 (.loc,a y)::a0 (.loc,b y)::st) (s2:=a0 (.loc,a y)::a0 (.loc,b y)::st) (s3:=a0 (.loc,a y)::a0 (.loc,b y)::st) (s4:=a0 (.loc,a y)::a0 (.loc,b y)::st) h j e k aL ⋯ ?_;have:=iE h a b g p d (c++[g y]) (by simp;lia) λz hz=>i z (by simp[hz]);rw[vl,ϥ f,eH];simpa using this
  |false =>
   rw[f]at e;show ue (s1:=a0 (.loc,a y)::a0 (.loc,b y)::st) (s2:=a0 (.loc,a y)::a0 (.loc,b y)::st) h j e ?_;have:=iE h a b g p d c ⋯ λz hz=>i z (by simp[hz]);rw[vl,Ϧ (by simp[f])];show this
def set_range(n:Nat)(f:Nat->α)(t:Nat)(v:α):((hH n).map f).set t v=(hH n).map λp=>if p=t then v else f p:=by
 apply Om
 .simp
 .intro i a b;simp only[List.getElem_set,ő,List.getElem_range];by_cases e:t=i
  .subst e;simp
  .rw[Ϧ e,Ϧ (uv e)]
def v8{rows:List Row}{t:Nat}(h:rows[t]?=a0 r):JK (rows.map A') (t:Int)=a0 (A' r):=bQ (by simp[h])
section
def AF(c:Run (ev Γ a) st x st1)(d:iV x.2=a0 e)(f:Run (ev Γ b) st1 y st2)(g:iV y.2=a0 h)(i:nE ln e h=a0 r):Run (ev Γ (.OH ln a b)) st r st2 :=
 af c (af (cM d) (af f (af (cM g) (cM i))))
end
def dU(h:ss.length<4000):iV (.lst (ss.map .str))=a0 (aE ss):=by
 change(strsOf (ss.map U.str)).bind _=_;rw[dh];change(if ss.length+1<MB then _ else _)=_;rw[ϥ (by change ss.length+1<4096;lia)]
abbrev Xi(ss:List Str):Str:=(PyData.list (ss.map .str)).shown
theorem oS:∀ss:List Str,nB (ss.map .str)=a0 (ss.map .str)
 |[]=>rfl
 |s::ss=>by
  change(ix (.str s)).bind (λd=>(nB (ss.map .str)).map (d::·))=_;rw[oS ss];rfl
def x9(hl:ss.length<=100)(b:∀x∈ss,x.length<=20/\∀c∈x.cps.toList,c<16 ^ 8):KG .repr [(k,.lst (ss.map .str))]=a0 (.loc,.str (Xi ss)):=by
 have hs:∀ss:List Str,Đ (ss.map .str)=b5:=λss=>by
  induction ss with
  |nil=>rfl
  |cons s ss a=>simp[Đ,Ķ,a]
 have d:∀ss:List Str,ķ (ss.map .str)=0:=λss=>by
  induction ss with
  |nil=>rfl
  |cons s ss a=>simp[ķ,Ű,a]
 have f:∀ss:List Str,(∀x∈ss,x.length<=20/\∀c∈x.cps.toList,c<16 ^ 8)->ï 8 (ss.map .str)=b5/\ŋ (ss.map .str)<=21 * ss.length:=λss h=>by
  induction ss with
  |nil=>show#[rfl,i4 _]
  |cons s ss a =>
   have(g,n):=a λx i=>h x (by simp[i]);have(j,l):=h s (by simp);show#[?_,?_]
   .simp only[eH,ï,đ,g,Yl,oT,Ϥ];show l
   .simp only[eH,ŋ,Θ,mx];have:s.cps.size<=20:=j;lia
 have(m,o):=f ss b;change(ix (.lst (ss.map .str))).bind _=_;have e:ix (.lst (ss.map .str))=a0 (.list (ss.map .str)):=by change(nB _).map _=_;rw[oS];rfl
 rw[e];change(if _/\_/\_/\_ then _ else _)=_;rw[ϥ #[by simp[Ķ,hs],by simp[Ű,d],PyData.shown_fits_bulk (B:=8) ⋯ ⋯ (by simp only[đ];show m) (by simp only[Θ];lia),rfl]];rfl
def AG(c:l.Perm m)(hs:m.Pairwise (λa b=>Lc a b=b5)):aC l=m:=dQ ((aY l).trans c) (cX l) hs
def AH(h:∀x,x∈a↔x∈b):aC (aE a)=aC (aE b) :=
 fT ((Ot (bY a) (bY b)).mpr λx=>by rw[bH,bH,h x])
end TM
namespace KL
open PySem L2 TM
abbrev dn:Fn:=#["gathered",1,4,[.newD 1,.Jw b5 [2,3] .seq [.var 0] [.ite (.inD b5 (.var 2) 1) [.putD 1 (.var 2) (.lst [])] [],.KP 1 (.var 2) (.var 3)],.ret (.Py 1)]]
abbrev bp:Fn:=#["places_that_tell",1,4,[.set 1 (.lst []),.Jw b5 [2,3] .Nj [.var 0] [.ext 1 (.comp 1 cb .seq [.idx (.var 3) (.cst (.int 1))] [] (.tup [.var 0,.var 3]))],.ret (.call "gathered" [.var 1])]]
abbrev cT:Fn:=#["new_steps",3,6,[.set 3 (.KD cb),.Jw cb [4] .seq [.var 1] [.set 5 (.idx (.idx (.var 0) (.var 4)) (.cst (.int 0))),.ite (.and [.cmp .Je (.var 5) (.var 2),.cmp .Je (.var 5) (.var 3)]) [.put 3 (.var 5) (.var 4)] []],.ret (.Pz 3)]]
abbrev bw:Fn:=#["steps_in_rounds",1,10,[.set 1 (.call "places_that_tell" [.var 0]),.set 2 (.comp 1 cb .seq [.var 0] [] (.bi .len [.idx (.var 0) (.cst (.int 1))])),.set 3 (.KD cb),.set 4 (.lst []),.set 5 (.comp 2 b5 .Nj [.var 2] [.cmp .eq (.var 1) (.cst (.int 0))] (.var 0)),.Nn (.cmp .ne (.var 5) (.lst [])) [.set 6 (.call "new_steps" [.var 0,.var 5,.var 3]),.set 5 (.lst []),.Jw b5 [7,8] .seq [.var 6] [.put 3 (.var 7) (.cst (.bl b5)),.Jw cb [9] .seq [.LG 1 (.var 7) (.lst [])] [.aug b5 2 (.var 9) (.cst (.int 1)),.ite (.cmp .eq (.idx (.var 2) (.var 9)) (.cst (.int 0))) [.app 5 (.var 9)] []]],.ite (.cmp .ne (.var 6) (.lst [])) [.app 4 (.var 6)] []],.ret (.var 4)]]
abbrev fC:Fn:=#["order",1,3,[.set 1 (.lst []),.Jw cb [2] .seq [.call "steps_in_rounds" [.var 0]] [.ext 1 (.var 2)],.ret (.var 1)]]
abbrev eZ:Fn:=#["learnt",1,1,[.ret (.bi .sorted [.comp 2 b5 .seq [.call "order" [.var 0]] [] (.var 0)])]]
end KL
namespace KL
open PySem L2 TM JB Od
abbrev cG(f:Str->List Nat)(k:Str):U:=.lst ((f k).map λt:Nat=>U.int (t:Nat))
def jR(d:List (Str×Nat))(y:Str×Nat)(k:Str):aT (d++[y]) k=if y.1=k then aT d k++[y.2] else aT d k:=by
 rw[si];by_cases e:y.1=k
 .rw[ϥ e];simp[aT,e]
 .rw[Ϧ e];simp[aT,e]
def AI(d:List (Str×Nat))(k:Str):(aT d k).length<=d.length:=by
 unfold aT;rw[cK];show qb _ _
section
def qw(hl:ps.length<=1000):∃ks:List Str,(∀w,w∉ks->aT ps w=[])/\bN Γ dn [.lst (ps.map stN)]=a0 (.ok (.own,.Jc ks (ks.map (cG (aT ps))))):=by
 have hsz:(2000:Nat)<=dt:=by decide
 have x:TM.start [.lst (ps.map stN)] 4=[a0 (.any,.lst (ps.map stN)),bD,bD,bD]:=rfl;let S:=λ(ks:List Str) (us:List U) (o2 o3:Option (Kd×U))=>([a0 (.any,.lst (ps.map stN)),a0 (.G',.Jc ks us),o2,o3]:aB)
 let body:List TM.S:=[.ite (.inD b5 (.var 2) 1)
    [.putD 1 (.var 2) (.lst [])]
    [],
   .KP 1 (.var 2) (.var 3)]
 have(st',A,l,ks,o2,o3,e,f,hk,B):=b8 (t:=b5) (is:=[2,3]) (body:=execs Γ body) (rs:=[(.any,.lst (ps.map stN))]) (λp:Str×Nat=>(Kd.any,stN p))
  (λd r st=>d++r=ps/\∃(ks:List Str) (o2 o3:Option (Kd×U)),st=S ks (ks.map (cG (aT d))) o2 o3/\ks.Nodup/\(∀w,w∉ks->aT d w=[])/\ks.length<=d.length) (λ_ _ _ _=>trivial) (λd y r st C=>by
   have(l,ks,o2,o3,e,f,hk,B):=C;subst e;have J:d.length<1000:=by have:=ϩ DD l;simp at this;lia
   let g:Option (Kd×U):=a0 (.any,.str y.1);let i:Option (Kd×U):=a0 (.any,.int (y.2:Nat));have L:=AI d y.1;have j:∀(ks:List Str),ks.Nodup->y.1∈ks->Run (execs Γ [.KP 1 (.var 2) (.var 3)]) (S ks (ks.map (cG (aT d))) g i) .nx (S ks (ks.map (cG (aT (d++[y])))) g i):=λks f c=>by
    have D:cJ ks (ks.map (cG (aT d))) y.1=a0 (.lst ((aT d y.1).map λt:Nat=>U.int (t:Nat))):=by rw[jm,ϥ c];rfl
    have hs:jC ks (ks.map (cG (aT d))) y.1 (.lst ((aT d y.1).map (λt:Nat=>U.int (t:Nat))++[.int (y.2:Nat)]))=ks.map (cG (aT (d++[y]))):=by
     rw[mP _ _ _ _ f];show tj λk hk=>?_;unfold cG;rw[jR];by_cases e:y.1=k
     .subst e;rw[ϥ rfl,ϥ rfl];simp
     .rw[Ϧ e,Ϧ (uv e)]
    rw[<-hs];show AE (k:=.any) (r:=(.any,.int (y.2:Nat))) rfl (aQ rfl) c (aQ rfl) (je rfl) D (by rw[cK];lia) aq
   have m:Run (Jx Γ (.inD b5 (.var 2) 1)) (S ks (ks.map (cG (aT d))) g i) (!df (y.1∈ks)) (S ks (ks.map (cG (aT d))) g i):=AB (neg:=b5) (k:=.any) (aQ rfl) rfl;have o:Run (dO b5 [2,3] (.any,stN y)) (S ks (ks.map (cG (aT d))) o2 o3) () (S ks (ks.map (cG (aT d))) g i):=jl (.inr rfl);by_cases c:y.1∈ks
   .rw[Ϩ c]at m;show#[_,_,o,mK m (λh=>by cases h) λ_=>j ks f c,by rw[<-l];simp,ks,_,_,rfl,f,λw n=>?_,by simp;lia];have G:y.1≠w:=λz=>n (by rw[<-z];show c);rw[jR,Ϧ G];show hk w n
   .rw[ϧ c]at m;have q:(ks++[y.1]).Nodup:=by
     rw[ri];show#[f,by simp,λa H b I e=>?_];have:b=y.1:=by simpa using I
     subst this;show c (e▸H)
    have em:ks.map (cG (aT d))++[.lst []]=(ks++[y.1]).map (cG (aT d)):=by
     rw[nc];congr 1
     change _=[cG (aT d) y.1]
     unfold cG;rw[hk y.1 c];rfl
    have s:=j (ks++[y.1]) q (by simp);rw[<-em]at s;show#[_,_,o,mK m (λ_=>AD (k:=.any) (xs:=[]) (cj ag trivial aS (nH _)) rfl (aQ rfl) c ⋯ s) λh=>(by cases h),by rw[<-l];simp,ks++[y.1],_,_,rfl,q,λw n=>?_,by simp;lia];have v:w∉ks/\w≠y.1:=by simpa using n
    rw[jR,Ϧ (uv v.2)];show hk w v.1) ps [] (S [] [] bD bD) ⟨rfl,[],bD,bD,rfl,.nil,λ_ _=>rfl,i4 _⟩
 subst e;rw[hY]at *;show#[ks,hk,?_];have e:(ps.map stN).map (λu=>(kE .any,u))=ps.map λp=>(Kd.any,stN p):=by rw[fx];rfl
 show aI rfl (.inl rfl) x (AA (cm (rs:=[(.any,.lst (ps.map stN))]) (st1:=S [] [] bD bD) (aa (aQ rfl) ag) trivial rfl rfl (by rw[e];show A) (bI (HJ rfl) (oI rfl))))
abbrev DM(Γ:Tab):Prop:=∀ps:List (Str×Nat),ps.length<=1000->∃ks:List Str,(∀w,w∉ks->aT ps w=[])/\Γ "gathered" [.lst (ps.map stN)]=a0 (.ok (.own,.Jc ks (ks.map (cG (aT ps)))))
def uA(s:DM Γ)(v:Once rows)(z:∀r∈rows,r.2.length<=8)(J:rows.length<=120):
  ∃ks:List Str,(∀w,w∉ks->JS rows rows.length w=[])/\bN Γ bp [.tup (rows.map A')]=a0 (.ok (.own,.Jc ks (ks.map (cG (JS rows rows.length))))):=by
 have hsz:(2000:Nat)<=dt:=by decide
 have A:TM.start [.tup (rows.map A')] 4=[a0 (.loc,.tup (rows.map A')),bD,bD,bD]:=by simp[TM.start,Jy,a_]
 let S:=λ(ps:List (Str×Nat)) (o2 o3:Option (Kd×U))=>([a0 (.loc,.tup (rows.map A')),a0 (.own,.lst (ps.map stN)),o2,o3]:aB)
 let body:List TM.S:=[.ext 1 (.comp 1 cb .seq [.idx (.var 3) (.cst (.int 1))] [] (.tup [.var 0,.var 3]))]
 have(st',B,g,ps,o2,o3,e,h,l):=b8 (t:=b5) (is:=[2,3]) (body:=execs Γ body) (rs:=[(.loc,.tup (rows.map A'))]) (λp:Row×Nat=>(Kd.loc,U.tup [.int (p.2:Nat),A' p.1]))
  (λd r st=>d++r=rows.zipIdx/\∃(ps:List (Str×Nat)) (o2 o3:Option (Kd×U)),st=S ps o2 o3/\(∀w,aT ps w=JS rows d.length w)/\ps.length<=8 * d.length) (λ_ _ _ _=>trivial) (λd y r st C=>by
   have(g,ps,o2,o3,e,h,l):=C;subst e;have(f,i):=y;have m:(rows.zipIdx)[d.length]?=a0 (f,i):=by rw[<-g];simp
   rw[Xk,ez]at m;have(a,n,e):=m;have D:a=f:=ϩ Ŵ e;have o:0+d.length=i:=ϩ Prod.snd e;rw[Rt]at o;subst D o;have L:d.length<120:=by have:=ϩ DD g;simp at this;lia
   have G:=z a (lg n);let b:Option (Kd×U):=a0 (.loc,.int (d.length:Nat));let c:Option (Kd×U):=a0 (.loc,A' a);have q:=di (cond:=aN Γ []) (elt:=ev Γ (.tup [.var 0,.var 3])) (src:=[(.loc,.tup (a.2.map .str))]) (st:=S ps b c) trivial .loc (.inl rfl) U.str (λx=>stN (x,d.length)) .loc (λ_=>dC) a.2 [] (by simp;lia)
    (λy _=>#[jd (aa (ae rfl) (aa (ae rfl) ag)) trivial (aK aL (aK aL aS)) (by change 2<=dt;lia),aL])
   rw[hY]at q;have e:(a.2.map U.str).map (λu=>(kE .loc,u))=a.2.map λr=>(Kd.loc,U.str r):=by rw[fx];rfl
   have H:Run (ev Γ (.comp 1 cb .seq [.idx (.var 3) (.cst (.int 1))] [] (.tup [.var 0,.var 3]))) (S ps b c) (.own,.lst (a.2.map λx=>stN (x,d.length))) (S ps b c) :=
    br (rs:=[(.loc,.tup (a.2.map .str))]) (aa (aF (x:=(.loc,A' a)) (ae rfl) au trivial rfl) ag) trivial (by change a0 _=_;rw[e]) q
   have em:ps.map stN++(a.2.map λx=>stN (x,d.length))=(ps++a.2.map λx=>(x,d.length)).map stN:=by simp
   show#[S ps b c,S (ps++a.2.map λx=>(x,d.length)) b c,jl (.inl rfl),?_,by rw[<-g];simp,_,_,_,rfl,λw=>?_,by simp;lia]
   .change Run _ _ _ [a0 (.loc,.tup (rows.map A')),a0 (.own,.lst ((ps++a.2.map λx=>(x,d.length)).map stN)),b,c];rw[<-em];show r6 (k:=.own) (k':=.own) rfl H rfl rfl (vV (by rw[cK,cK];lia) rfl) aq
   .rw[ke];show x6 v n h w) rows.zipIdx [] (S [] bD bD) ⟨rfl,[],bD,bD,rfl,λw=>by simp[aT,JS],by simp⟩
 subst e;rw[hY,List.length_zipIdx]at h l;have j:KQ .Nj [(.loc,.tup (rows.map A'))]=a0 (rows.zipIdx.map λp:Row×Nat=>(Kd.loc,U.tup [.int (p.2:Nat),A' p.1])):=by
  change a0 ((rows.map A').zipIdx.map λp=>(kE .loc,U.tup [.int p.2,p.1]))=_;rw[ŧ,fx];rfl
 have(ks,k1,k2):=s ps ⋯;have I:aT ps=JS rows rows.length:=funext h;rw[I]at k1 k2;show#[ks,k1,?_];show aI rfl (.inl rfl) A (aD (r:=(.own,.lst [])) (cj ag trivial aS (nH _)) aZ (cm (rs:=[(.loc,.tup (rows.map A'))]) (st1:=S [] bD bD) (aa (ae rfl) ag) trivial j rfl B
  (bI (aH (aa (aA rfl) ag) #[#[.own,rfl,rfl],trivial] k2) d6)))
def nG{names:List Str}(v:∀r∈rows,r.1∈names)(Q:names.length<64)(y:∀t∈R,t<rows.length):
  ∃st:List (Str×Nat),NS rows K0 R st/\bN Γ cT [.tup (rows.map A'),.lst (R.map λt:Nat=>.int (t:Nat)),.Jc K0 vs]=a0 (.ok (.own,.lst (st.map stN))):=by
 have hsz:(2000:Nat)<=dt:=by decide
 have z:TM.start [.tup (rows.map A'),.lst (R.map λt:Nat=>.int (t:Nat)),.Jc K0 vs] 6=[a0 (.loc,.tup (rows.map A')),a0 (.any,.lst (R.map λt:Nat=>.int (t:Nat))),a0 (.any,.Jc K0 vs),bD,bD,bD]:=by simp[TM.start,Jy,a_]
 let S:=λ(ps:List (Str×Nat)) (o4 o5:Option (Kd×U))=>([a0 (.loc,.tup (rows.map A')),a0 (.any,.lst (R.map λt:Nat=>.int (t:Nat))),a0 (.any,.Jc K0 vs),a0 (.own,.Jc (ps.map (·.1)) (ps.map λp=>.int (p.2:Nat))),o4,o5]:aB)
 let body:List TM.S:=[.set 5 (.idx (.idx (.var 0) (.var 4)) (.cst (.int 0))),
   .ite (.and [.cmp .Je (.var 5) (.var 2),.cmp .Je (.var 5) (.var 3)])
    [.put 3 (.var 5) (.var 4)]
    []]
 have o:∀{d:List Nat} {ps:List (Str×Nat)},NS rows K0 d ps->ps.length<=names.length:=λ{d ps} x=>by
  have:=vY x.once (L:=names) λw A=>by
   have(s,hs,rfl):=k8.mp A;have(_,_,r,b,c):=x.ok s hs;rw[<-c];show v r (lg b)
  simpa using this
 have(st',B,j,ps,o4,o5,e,x):=b8 (t:=cb) (is:=[4]) (body:=execs Γ body) (rs:=[(.any,.lst (R.map λt:Nat=>.int (t:Nat)))]) (λt:Nat=>(Kd.any,U.int (t:Nat)))
  (λd r st=>d++r=R/\∃(ps:List (Str×Nat)) (o4 o5:Option (Kd×U)),st=S ps o4 o5/\NS rows K0 d ps) (λ_ _ _ _=>trivial) (λd t r st C=>by
   have(j,ps,o4,o5,e,x):=C;subst e;have D:t<rows.length:=y t (by rw[<-j];simp);have l:rows[t]?=a0 rows[t]:=by simp[D]
   generalize rows[t]=a at l;let f:Option (Kd×U):=a0 (.any,.int (t:Nat));let m:Option (Kd×U):=a0 (.loc,.str a.1);have G:=o x;have i:Run (Jx Γ (.and [.cmp .Je (.var 5) (.var 2),.cmp .Je (.var 5) (.var 3)])) (S ps f m) (!df (a.1∈K0)&&!df (a.1∈ps.map (·.1))) (S ps f m) :=
    ka (um (aX (ae rfl) (aQ rfl) trivial gM) λ_=>cR (aX (ae rfl) (aA rfl) #[#[.own,rfl,rfl],trivial] gM))
   have g:∀{q:aB},Run (execs Γ [.ite (.and [.cmp .Je (.var 5) (.var 2),.cmp .Je (.var 5) (.var 3)])
    [.put 3 (.var 5) (.var 4)]
    []]) (S ps f m) .nx q->Run (execs Γ body) (S ps f o5) .nx q:=λh =>
    aD (r:=(.loc,.str a.1)) (aF (x:=(.loc,A' a)) (aF (ae rfl) (aQ rfl) trivial (bc (v8 l))) au trivial rfl) aO h
   have n:Run (dO cb [4] (.any,.int (t:Nat))) (S ps o4 o5) () (S ps f o5):=dg mE;by_cases b:a.1∈K0
   .rw[Ϩ b]at i;show#[_,_,n,g (mK i (λh=>by cases h) λ_=>aq),by rw[<-j];simp,ps,_,_,rfl,x.skip l (.inl b)]
   .by_cases c:a.1∈ps.map (·.1)
    .rw[ϧ b,Ϩ c]at i;show#[_,_,n,g (mK i (λh=>by cases h) λ_=>aq),by rw[<-j];simp,ps,_,_,rfl,x.skip l (.inr c)]
    .rw[ϧ b,ϧ c]at i;show#[_,S (ps++[(a.1,t)]) f m,n,g (mK i (λ_=>?_) λh=>by cases h),by rw[<-j];simp,_,_,_,rfl,x.take l b c];have H:(ps++[(a.1,t)]).map (·.1)=ps.map (·.1)++[a.1]:=by simp
     have I:((ps++[(a.1,t)]).map λp=>U.int (p.2:Nat))=(ps.map λp=>U.int (p.2:Nat))++[.int (t:Nat)]:=by simp
     change Run _ _ _ [a0 (.loc,.tup (rows.map A')),a0 (.any,.lst (R.map λt:Nat=>.int (t:Nat))),a0 (.any,.Jc K0 vs),a0 (.own,.Jc ((ps++[(a.1,t)]).map (·.1)) ((ps++[(a.1,t)]).map λp=>.int (p.2:Nat))),f,m];rw[H,I];show mJ (k:=.own) (rv:=(.any,.int (t:Nat))) (rk:=(.loc,.str a.1)) (aQ rfl) rfl (ae rfl) (aK (je rfl) (aK aL aS)) rfl rfl (v7 (by rw[cK];lia) c) aq) R [] (S [] bD bD) ⟨rfl,[],bD,bD,rfl,NS.start K0⟩
 subst e;rw[hY]at x;have G:=o x;have(J,N,O):=C3 (ps:=ps) ⋯ x.once;show#[J,x.perm N,?_];have e:(R.map λt:Nat=>U.int (t:Nat)).map (λu=>(kE .any,u))=R.map λt=>(Kd.any,U.int (t:Nat)):=by rw[fx];rfl
 show aI rfl (.inl rfl) z (aD (r:=(.own,.Jc [] [])) jJ aZ (cm (rs:=[(.any,.lst (R.map λt:Nat=>.int (t:Nat)))]) (st1:=S [] bD bD) (aa (aQ rfl) ag) trivial rfl rfl (by rw[e];show B) (bI (HL rfl O) d6)))
end
abbrev mi(rows:List Row)(K0:List Str)(d:List Nat)(p:Nat):Int:=(cnt rows K0 p:Int) - (if p∈d then 1 else 0)
abbrev bU(rows:List Row)(f:Nat->Int):List U:=(hH rows.length).map λp=>U.int (f p)
abbrev fD(R:List Nat):List U:=R.map λt:Nat=>U.int (t:Nat)
def C4(rows:List Row)(K0:List Str):bU rows (mi rows K0 [])=bU rows λp=>(cnt rows K0 p:Int):=by
 unfold bU mi;show tj λp _=>?_;simp
def C5(b:Once rows)(c:w∉K0):bU rows (mi rows K0 (JS rows rows.length w))=bU rows λp=>(cnt rows (K0++[w]) p:Int):=by
 unfold bU mi;show tj λp d=>?_;have e:=Jl.mp d;have a:=qu b c p;by_cases h:w∈told rows p
 .rw[ϥ (ji.mpr #[e,h])];rw[ϥ h]at a;change U.int ((cnt rows K0 p:Int) - 1)=U.int (cnt rows (K0++[w]) p:Int);congr 1
  lia
 .rw[Ϧ λz=>h (ji.mp z).2];rw[Ϧ h]at a;change U.int ((cnt rows K0 p:Int) - 0)=U.int (cnt rows (K0++[w]) p:Int);congr 1
  lia
def AJ(a:t∉d):(bU rows (mi rows K0 d)).set t (.int (mi rows K0 d t - 1))=bU rows (mi rows K0 (d++[t])):=by
 unfold bU;rw[set_range];show tj λp _=>?_;unfold mi;by_cases e:p=t
 .subst e;rw[ϥ rfl,Ϧ a,ϥ (by simp)];rw[show((cnt rows K0 p:Int) - 0 - 1)=(cnt rows K0 p:Int) - 1 by lia]
 .rw[Ϧ e];have:(p∈d++[t])↔p∈d:=by simp[e]
  simp only[this]
def AK(h:t<rows.length):(bU rows f)[t]?=a0 (.int (f t)):=by simp[bU,h]
section
variable{Γ:Tab}{rows:List Row}
abbrev v9:List TM.S:=[.aug b5 2 (.var 9) (.cst (.int 1)),.ite (.cmp .eq (.idx (.var 2) (.var 9)) (.cst (.int 0))) [.app 5 (.var 9)] []]
def sm(v:Once rows)(J:rows.length<=120)(y:w∉K0)(L:R.length<=14400)(o9:Option (Kd×U))(A:∀st,bt src st):∃l:Option (Kd×U),
  Run (forM cb [9] (execs Γ v9) src ((JS rows rows.length w).map λt:Nat=>(Kd.loc,U.int (t:Nat))))
   [b0,b1,a0 (.own,.lst (bU rows λp=>(cnt rows K0 p:Int))),b3,b4,a0 (.own,.lst (fD R)),o6,o7,o8,o9] .nx
   [b0,b1,a0 (.own,.lst (bU rows λp=>(cnt rows (K0++[w]) p:Int))),b3,b4,a0 (.own,.lst (fD (R++(JS rows rows.length w).filter λt=>df (cnt rows K0 t=1)))),o6,o7,o8,l]:=by
 have hsz:(20000:Nat)<=dt:=by decide
 let S:=λ(ms:List U) (R:List Nat) (o9:Option (Kd×U))=>([b0,b1,a0 (.own,.lst ms),b3,b4,a0 (.own,.lst (fD R)),o6,o7,o8,o9]:aB)
 have(st',m,c,l,e):=b8 (t:=cb) (is:=[9]) (body:=execs Γ v9) (rs:=src) (λt:Nat=>(Kd.loc,U.int (t:Nat)))
  (λd r st=>d++r=JS rows rows.length w/\∃o9:Option (Kd×U),st=S (bU rows (mi rows K0 d)) (R++d.filter λt=>df (cnt rows K0 t=1)) o9) (λ_ _ st _=>A st) (λd t r st B=>by
   have(c,o9,e):=B;subst e;have C:t∈JS rows rows.length w:=by rw[<-c];simp
   have o:t<rows.length:=(ji.mp C).1;have q:=xZ (rows:=rows) rows.length w;have n:t∉d:=λz=>by
    rw[<-c,ri]at q;show q.2.2 t z t (by simp) rfl
   have N:d.length<=120:=by
    have D:=ϩ DD c;have G:(JS rows rows.length w).length<=(hH rows.length).length:=qb _ _;simp at D G;lia
   let b:Option (Kd×U):=a0 (.loc,.int (t:Nat));let a:=R++d.filter λt=>df (cnt rows K0 t=1);have O:a.length<=14520:=by
    have:(d.filter λt=>df (cnt rows K0 t=1)).length<=d.length:=qb _ _;change(R++_).length<=_;rw[ke];lia
   have H:JK (bU rows (mi rows K0 (d++[t]))) (t:Int)=a0 (.int (mi rows K0 (d++[t]) t)):=bQ (AK o);have I:mi rows K0 (d++[t]) t=(cnt rows K0 t:Int) - 1:=by unfold mi;rw[ϥ (by simp)]
   have g:Run (Jx Γ (.cmp .eq (.idx (.var 2) (.var 9)) (.cst (.int 0)))) (S (bU rows (mi rows K0 (d++[t]))) a b) (df (cnt rows K0 t=1)) (S (bU rows (mi rows K0 (d++[t]))) a b) :=
    aX (aF (x:=(.bor 2,.lst (bU rows (mi rows K0 (d++[t]))))) (aA rfl) (ae rfl) #[#[.own,rfl,rfl],trivial] (bb H)) au trivial (jK (by
     rw[I,Ma];simp;lia))
   have f:∀{s:aB},Run (execs Γ [.ite (.cmp .eq (.idx (.var 2) (.var 9)) (.cst (.int 0)))
      [.app 5 (.var 9)]
      []]) (S (bU rows (mi rows K0 (d++[t]))) a b) .nx s->Run (execs Γ v9) (S (bU rows (mi rows K0 d)) a b) .nx s:=λh=>by
    show HK (us:=bU rows (mi rows K0 d)) (k1:=.loc) (k2:=.loc) (j:=t) (w:=1) rfl (ae rfl) (AK o) au ?_;rw[AJ n];show h
   have u:Run (dO cb [9] (.loc,.int (t:Nat))) (S (bU rows (mi rows K0 d)) a o9) () (S (bU rows (mi rows K0 d)) a b):=dg aO;cases i:df (cnt rows K0 t=1) with
   |false =>
    rw[i]at g;show#[_,_,u,f (mK g (λh=>by cases h) λ_=>aq),by rw[<-c];simp,b,?_];rw[Sq,vl,i];simp[S,a]
   |true =>
    rw[i]at g;show#[_,S (bU rows (mi rows K0 (d++[t]))) (a++[t]) b,u,f (mK g (λ_=>?_) λh=>by cases h),by rw[<-c];simp,b,?_]
    .have em:fD (a++[t])=fD a++[.int (t:Nat)]:=by simp[fD]
     change Run _ _ _ [b0,b1,a0 (.own,.lst (bU rows (mi rows K0 (d++[t])))),b3,b4,a0 (.own,.lst (fD (a++[t]))),o6,o7,o8,b];rw[em];show jg (k:=.own) (k':=.own) (r:=(.loc,.int (t:Nat))) rfl (ae rfl) aL rfl rfl (by unfold fD;rw[cK];lia) aq
    .rw[Sq,vl,i];simp[S,a]) (JS rows rows.length w) [] (S (bU rows (mi rows K0 [])) R o9) ⟨rfl,o9,by simp⟩
 subst e;rw[hY]at m;rw[C4,C5 v y]at m;show#[l,m]
abbrev AL:List TM.S:=[.put 3 (.var 7) (.cst (.bl b5)),.Jw cb [9] .seq [.LG 1 (.var 7) (.lst [])] v9]
def x_(n:Once rows)(y:rows.length<=120)(A:∀w,w∉ks->JS rows rows.length w=[])(o:(K0++st.map (·.1)).Nodup)(hl:K0.length+st.length<=120)(vs:List U)(o7 o8 o9:Option (Kd×U)):∃(g:List U) (R:List Nat) (i j a:Option (Kd×U)),
  RI rows K0 (K0++st.map (·.1)) R/\(st=[]->R=[])/\Run (forM b5 [7,8] (execs Γ AL) [(.bor 6,.lst (st.map stN))] (st.map λs=>(Kd.loc,stN s)))
   [b0,a0 (.own,.Jc ks (ks.map (cG (JS rows rows.length)))),a0 (.own,.lst (bU rows λp=>(cnt rows K0 p:Int))),a0 (.own,.Jc K0 vs),b4,a0 (.own,.lst []),a0 (.own,.lst (st.map stN)),o7,o8,o9] .nx
   [b0,a0 (.own,.Jc ks (ks.map (cG (JS rows rows.length)))),a0 (.own,.lst (bU rows λp=>(cnt rows (K0++st.map (·.1)) p:Int))),a0 (.own,.Jc (K0++st.map (·.1)) g),b4,a0 (.own,.lst (fD R)),a0 (.own,.lst (st.map stN)),i,j,a]:=by
 let S:=λ(K:List Str) (vs:List U) (R:List Nat) (o7 o8 o9:Option (Kd×U))=>([b0,a0 (.own,.Jc ks (ks.map (cG (JS rows rows.length)))),a0 (.own,.lst (bU rows λp=>(cnt rows K p:Int))),a0 (.own,.Jc K vs),b4,a0 (.own,.lst (fD R)),a0 (.own,.lst (st.map stN)),o7,o8,o9]:aB)
 have(st',B,b,g,R,i,j,a,e,x,C,q):=b8 (t:=b5) (is:=[7,8]) (body:=execs Γ AL) (rs:=[(.bor 6,.lst (st.map stN))]) (λs:Str×Nat=>(Kd.loc,stN s))
  (λd r l=>d++r=st/\∃(vs:List U) (R:List Nat) (o7 o8 o9:Option (Kd×U)),l=S (K0++d.map (·.1)) vs R o7 o8 o9/\RI rows K0 (K0++d.map (·.1)) R/\R.length<=120 * d.length/\(d=[]->R=[])) (λ_ _ l ⟨_,vs,R,o7,o8,o9,e,_⟩=>by subst e;show#[#[.own,rfl,rfl],trivial]) (λd s r l D=>by
   have(b,vs,R,o7,o8,o9,e,x,C,q):=D;subst e;have(w,p):=s;have N:d.length<st.length:=by have:=ϩ DD b;simp at this;lia
   have m:w∉K0++d.map (·.1):=λz=>by
    rw[<-b,nc,<-ņ,ri]at o;show o.2.2 w z w (by simp) rfl
   let c:Option (Kd×U):=a0 (.loc,.str w);let f:Option (Kd×U):=a0 (.loc,.int (p:Nat));have(a,G):=sm (Γ:=Γ) n y m (R:=R) ⋯ (b0:=b0) (b1:=a0 (.own,.Jc ks (ks.map (cG (JS rows rows.length))))) (b3:=a0 (.own,.Jc (K0++d.map (·.1)++[w]) (vs++[.bl b5]))) (b4:=b4) (o6:=a0 (.own,.lst (st.map stN))) (o7:=c) (o8:=f) o9 (src:=[(.loc,cG (JS rows rows.length) w)]) (λ_=>trivial);have em:K0++(d++[(w,p)]).map (·.1)=K0++d.map (·.1)++[w]:=by simp
   have H:(K0++d.map (·.1)).length<1000:=by rw[ke,cK];lia
   have I:(match cJ ks (ks.map (cG (JS rows rows.length))) w with|some v=>(Kd.loc,v)|none=>(.loc,U.lst []))=(.loc,cG (JS rows rows.length) w):=by
    rw[jm];by_cases h:w∈ks
    .rw[ϥ h]
    .rw[Ϧ h];unfold cG;rw[A w h];rfl
   have J:((JS rows rows.length w).map λt:Nat=>U.int (t:Nat)).map (λu=>(kE .loc,u))=(JS rows rows.length w).map λt=>(Kd.loc,U.int (t:Nat)):=by rw[fx];rfl
   show#[S (K0++d.map (·.1)) vs R c f o9,S (K0++d.map (·.1)++[w]) (vs++[.bl b5]) (R++(JS rows rows.length w).filter λt=>df (cnt rows (K0++d.map (·.1)) t=1)) c f a,jl (.inl rfl),?_,by rw[<-b];simp,vs++[.bl b5],_,c,f,a,by rw[em],?_,?_,λz=>by simp at z]
   .show mJ (k:=.own) (rv:=(.loc,.bl b5)) (rk:=(.loc,.str w)) au rfl (ae rfl) (aK aL (aK aL aS)) rfl rfl (v7 H m) ?_;show cm (rs:=[(.loc,cG (JS rows rows.length) w)]) (aa (FZ (k:=.loc) (z:=(.own,.lst [])) (u:=.lst []) rfl (ae rfl) (cj ag trivial aS (nH _)) vQ I) ag) trivial (by change a0 (Tz (λu=>(kE .loc,u)) _)=_;rw[J]) rfl G aq
   .rw[em];show x.step n m
   .have:((JS rows rows.length w).filter λt=>df (cnt rows (K0++d.map (·.1)) t=1)).length<=120:=by
     show K' (qb _ _) ?_;have L:(JS rows rows.length w).length<=(hH rows.length).length:=qb _ _;simp at L;lia
    rw[ke,ke,wh];lia) st [] (S K0 vs [] o7 o8 o9) ⟨rfl,vs,[],o7,o8,o9,by simp[S],by simpa using RI.start K0,by simp,λ_=>rfl⟩
 subst e;show#[g,R,i,j,a,by simpa using x,λz=>q (by simpa using z),by simpa[S,fD] using B]
abbrev gR(a:List (List (Str×Nat))):List U:=a.map λl=>U.lst (l.map stN)
abbrev AM:List TM.S:=[.set 6 (.call "new_steps" [.var 0,.var 5,.var 3]),.set 5 (.lst []),.Jw b5 [7,8] .seq [.var 6] AL,.ite (.cmp .ne (.var 6) (.lst [])) [.app 4 (.var 6)] []]
abbrev AN(Γ:Tab)(rows:List Row):Prop:=∀(R:List Nat) (K0:List Str) (vs:List U),(∀t∈R,t<rows.length)->∃st:List (Str×Nat),NS rows K0 R st/\Γ "new_steps" [.tup (rows.map A'),.lst (fD R),.Jc K0 vs]=a0 (.ok (.own,.lst (st.map stN)))
theorem jS(G:Once rows)(H:rows.length<=120)(I:AN Γ rows)(J:∀w,w∉ks->JS rows rows.length w=[]):∀(f:Nat) (c:List (Str×Nat)) (d:List (List (Str×Nat))) (R:List Nat) (vs:List U) (o6 o7 o8 o9:Option (Kd×U)),
  LI rows c R->d.flatten=c->d.length<=c.length->(rows.length - c.length)+(if R=[] then 1 else 2)<=f ->
  ∃(Rh:List (Str×Nat)) (N:List (List (Str×Nat))) (st':aB),LI rows Rh []/\N.flatten=Rh/\N.length<=120/\st'[4]?=a0 (a0 (.own,.lst (gR N))) /\
   Run (f_ (Jx Γ (.cmp .ne (.var 5) (.lst []))) (execs Γ AM) f) [a0 (.loc,.tup (rows.map A')),a0 (.own,.Jc ks (ks.map (cG (JS rows rows.length)))),a0 (.own,.lst (bU rows λp=>(cnt rows (c.map (·.1)) p:Int))),a0 (.own,.Jc (c.map (·.1)) vs),a0 (.own,.lst (gR d)),a0 (.own,.lst (fD R)),o6,o7,o8,o9] .nx st'
 |0,c,d,R,vs,o6,o7,o8,o9,_,_,_,h=>by split at h<;>lia
 |f+1,c,d,R,vs,o6,o7,o8,o9,x,O,QC,h=>by
  have hsz:(20000:Nat)<=dt:=by decide
  have MF:∀{s:List (Str×Nat)} {g:List Nat},LI rows s g->s.length<=rows.length:=λ{s g} x=>by
   have:=vY x.nd x.wd;simpa using this
  have Kx:=MF x;let S:=λ(K:List Str) (vs:List U) (d:List (List (Str×Nat))) (R:List Nat) (o6 o7 o8 o9:Option (Kd×U))=>([a0 (.loc,.tup (rows.map A')),a0 (.own,.Jc ks (ks.map (cG (JS rows rows.length)))),a0 (.own,.lst (bU rows λp=>(cnt rows K p:Int))),a0 (.own,.Jc K vs),a0 (.own,.lst (gR d)),a0 (.own,.lst (fD R)),o6,o7,o8,o9]:aB)
  have Q:∀R:List Nat,JY 50 (.lst (fD R))=b5:=λR=>by change cZ 49 _=b5;show oR (λt:Nat=>((t:Nat):Int)) R 49
  have A:Run (Jx Γ (.cmp .ne (.var 5) (.lst []))) (S (c.map (·.1)) vs d R o6 o7 o8 o9) (!(fD R).isEmpty) (S (c.map (·.1)) vs d R o6 o7 o8 o9) :=
   aX (aA rfl) (cj ag trivial aS (nH _)) #[#[.own,rfl,rfl],trivial] (mR (Q R))
  by_cases T:R=[]
  .subst T;show#[c,d,_,x,O,⋯,rfl,vZ A]
  .rw[Ϧ T]at h;have Y:(!(fD R).isEmpty)=b5:=by
    cases R with
    |nil=>show absurd rfl T
    |cons a l=>rfl
   rw[Y]at A;have(st,n,Jo):=I R (c.map (·.1)) vs λt ht=>(x.Rf t ht).1;have Jk:(c.map (·.1)++st.map (·.1)).Nodup:=by
    rw[ri];show#[x.nd,n.once,λa ha b q e=>?_];have(s,hs,rfl):=k8.mp q;show(n.ok s hs).2.1 (e▸ha)
   have al:c.length+st.length<=rows.length:=by
    have:=vY Jk (L:=rows.map (·.1)) λy hy=>by
     rcases hZ.mp hy with hy|hy
     .show x.wd y hy
     .have(s,hs,rfl):=k8.mp hy;have(_,_,r,q1,q2):=n.ok s hs;show k8.mpr #[r,lg q1,q2]
    simpa using this
   let v:Option (Kd×U):=a0 (.own,.lst (st.map stN));have(i,g,j,m,o,y,RW,Vz):=x_ (Γ:=Γ) G H J Jk (by rw[cK];lia) (b0:=a0 (.loc,.tup (rows.map A'))) (b4:=a0 (.own,.lst (gR d))) vs o7 o8 o9;have x':=x.step n y;have em:(c++st).map (·.1)=c.map (·.1)++st.map (·.1):=nc;have ab:JY 50 (.lst (st.map stN))=b5:=by change cZ 49 _=b5;show mS st 48
   have B:Run (Jx Γ (.cmp .ne (.var 6) (.lst []))) (S (c.map (·.1)++st.map (·.1)) i d g v j m o) (!(st.map stN).isEmpty) (S (c.map (·.1)++st.map (·.1)) i d g v j m o) :=
    aX (aA rfl) (cj ag trivial aS (nH _)) #[#[.own,rfl,rfl],trivial] (mR ab)
   have e1:(st.map stN).map (λu=>(kE (.bor 6),u))=st.map λs=>(Kd.loc,stN s):=by rw[fx];rfl
   have z:∀{Lp:aB},Run (execs Γ [.ite (.cmp .ne (.var 6) (.lst []))
    [.app 4 (.var 6)]
    []]) (S (c.map (·.1)++st.map (·.1)) i d g v j m o) .nx Lp->Run (execs Γ AM) (S (c.map (·.1)) vs d R o6 o7 o8 o9) .nx Lp:=λh=>by
    show aD (r:=(.own,.lst (st.map stN))) (aH (aa (ae rfl) (aa (aA rfl) (aa (aA rfl) ag))) #[#[.own,rfl,rfl],#[.own,rfl,rfl],trivial] Jo) aZ ?_;show aD (r:=(.own,.lst [])) (cj ag trivial aS (nH _)) aZ ?_;show cm (rs:=[(.bor 6,.lst (st.map stN))]) (aa (aA rfl) ag) #[#[.own,rfl,rfl],trivial] (by change a0 (Tz (λu=>(kE (.bor 6),u)) _)=_;rw[e1]) rfl Vz h
   by_cases C:st=[]
   .have ac:=RW C;subst C;rw[show(!(([]:List (Str×Nat)).map stN).isEmpty)=cb from rfl]at B;have ee:c++[]=c:=Jq _;rw[ee]at x';have q:=z (mK B (λh=>by cases h) λ_=>aq);have(O4,O5,st2,z1,z2,z3,z4,D):=jS G H I J f c d g i v j m o x' O QC (by rw[ϥ ac];lia);show#[O4,O5,st2,z1,z2,z3,z4,uu A q ?_];have e3:c.map (·.1)++([]:List (Str×Nat)).map (·.1)=c.map (·.1):=by simp
    change Run _ (S (c.map (·.1)++([]:List (Str×Nat)).map (·.1)) i d g v j m o) _ _;rw[e3];show D
   .have VA:(!(st.map stN).isEmpty)=b5:=by
     cases st with
     |nil=>show absurd rfl C
     |cons a l=>rfl
    rw[VA]at B;have am:0<st.length:=List.length_pos_iff.mpr C;have ef:gR (d++[st])=gR d++[.lst (st.map stN)]:=by simp[gR]
    have q:Run (execs Γ AM) (S (c.map (·.1)) vs d R o6 o7 o8 o9) .nx (S (c.map (·.1)++st.map (·.1)) i (d++[st]) g (a0 (.loc,.lst (st.map stN))) j m o):=by
     show z (mK B (λ_=>?_) λh=>by cases h);change Run _ _ _ [a0 (.loc,.tup (rows.map A')),a0 (.own,.Jc ks (ks.map (cG (JS rows rows.length)))),a0 (.own,.lst (bU rows λp=>(cnt rows (c.map (·.1)++st.map (·.1)) p:Int))),a0 (.own,.Jc (c.map (·.1)++st.map (·.1)) i),a0 (.own,.lst (gR (d++[st]))),a0 (.own,.lst (fD g)),a0 (.loc,.lst (st.map stN)),j,m,o];rw[ef];show jg (k:=.own) (k':=.own) (r:=(.bor 6,.lst (st.map stN))) (u:=.lst (st.map stN)) rfl (aA rfl) (DL rfl) rfl rfl (by unfold gR;rw[cK];lia) aq
    have(O4,O5,st2,z1,z2,z3,z4,D):=jS G H I J f (c++st) (d++[st]) g i (a0 (.loc,.lst (st.map stN))) j m o x' (by rw[ģ,O];simp) (by rw[ke,ke,wh];lia) (by rw[ke];split<;>lia);show#[O4,O5,st2,z1,z2,z3,z4,uu A q ?_];rw[em]at D;show D
abbrev DN(Γ:Tab)(rows:List Row):Prop:=∃ks:List Str,(∀w,w∉ks->JS rows rows.length w=[])/\Γ "places_that_tell" [.tup (rows.map A')]=a0 (.ok (.own,.Jc ks (ks.map (cG (JS rows rows.length)))))
def gS(q:Once rows)(s:rows.length<=120)(v:DN Γ rows)(w:AN Γ rows):∃(f:List (Str×Nat)) (d:List (List (Str×Nat))),LI rows f []/\d.flatten=f/\d.length<=120/\bN Γ bw [.tup (rows.map A')]=a0 (.ok (.own,.lst (gR d))):=by
 have hsz:(20000:Nat)<=dt:=by decide
 have(ks,z,A):=v;have B:TM.start [.tup (rows.map A')] 10=[a0 (.loc,.tup (rows.map A')),bD,bD,bD,bD,bD,bD,bD,bD,bD]:=by simp[TM.start,Jy,a_]
 let g:Option (Kd×U):=a0 (.loc,.tup (rows.map A'));let h:Option (Kd×U):=a0 (.own,.Jc ks (ks.map (cG (JS rows rows.length))));let C:Option (Kd×U):=a0 (.own,.lst (bU rows λp=>(cnt rows [] p:Int)));have D:Run (ev Γ (.comp 1 cb .seq [.var 0] [] (.bi .len [.idx (.var 0) (.cst (.int 1))]))) [g,h,bD,bD,bD,bD,bD,bD,bD,bD] (.own,.lst (bU rows λp=>(cnt rows [] p:Int))) [g,h,bD,bD,bD,bD,bD,bD,bD,bD]:=by
  have c:=di (cond:=aN Γ []) (elt:=ev Γ (.bi .len [.idx (.var 0) (.cst (.int 1))])) (src:=[(.loc,.tup (rows.map A'))]) (st:=[g,h,bD,bD,bD,bD,bD,bD,bD,bD]) trivial .loc (.inl rfl) A' (λr=>.int (r.2.length:Nat)) .loc (λ_=>dC) rows [] (by simp;lia)
   (λy _=>#[cA (aa (aF (x:=(.loc,A' y)) (ae rfl) au trivial rfl) ag) trivial (by rw[kR,cK]),aL])
  rw[hY]at c;have e:(rows.map A').map (λu=>(kE .loc,u))=rows.map λr=>(Kd.loc,A' r):=by rw[fx];rfl
  have G:(rows.map λr=>U.int (r.2.length:Nat))=bU rows λp=>(cnt rows [] p:Int):=by
   unfold bU;apply Om
   .simp
   .intro i j k;have H:i<rows.length:=by simpa using j
    have l:told rows i=rows[i].2:=kW (by simp[H]);have I:cnt rows [] i=rows[i].2.length:=by unfold cnt ur;rw[l];simp
    simp[I]
  rw[G]at c;show br (rs:=[(.loc,.tup (rows.map A'))]) (aa (ae rfl) ag) trivial (by change a0 _=_;rw[e]) c
 let m:=(hH rows.length).filter λp=>df (cnt rows [] p=0);let n:aB:=[g,h,C,a0 (.own,.Jc [] []),a0 (.own,.lst []),bD,bD,bD,bD,bD]
 have J:Run (ev Γ (.comp 2 b5 .Nj [.var 2] [.cmp .eq (.var 1) (.cst (.int 0))] (.var 0))) n (.own,.lst (fD m)) n:=by
  have c:=iE (st:=n) (cond:=aN Γ [.cmp .eq (.var 1) (.cst (.int 0))]) (elt:=ev Γ (.var 0)) (src:=[(.bor 2,.lst (bU rows λp=>(cnt rows [] p:Int)))]) ⟨⟨.own,rfl,rfl⟩,trivial⟩ (λp:Nat=>U.int (p:Nat)) (λp:Nat=>U.int (cnt rows [] p:Int)) (λp:Nat=>U.int (p:Nat)) (λp=>df (cnt rows [] p=0)) (hH rows.length) [] (by simp;lia)
   (λy _=>#[cR (aX (ae rfl) au trivial (jK (by rw[Ma];simp))),ae rfl])
  rw[hY]at c;have e:((bU rows λp=>(cnt rows [] p:Int)).zipIdx.map λp=>(kE (.bor 2),U.tup [.int p.2,p.1]))=(hH rows.length).map λp:Nat=>(Kd.loc,U.tup [.int (p:Nat),.int (cnt rows [] p:Int)]):=by
   unfold bU;apply Om
   .simp
   .intro i j k;simp[kE]
  show br (rs:=[(.bor 2,.lst (bU rows λp=>(cnt rows [] p:Int)))]) (aa (aA rfl) ag) ⟨⟨.own,rfl,rfl⟩,trivial⟩ (by change a0 _=_;rw[e]) c
 have L:LI rows [] m:=#[trivial,λt l=>by
  have(a,b):=oa.mp l;show#[Jl.mp a,by simpa using b],λt r j k=>.inl (oa.mpr #[Jl.mpr (et.mp j).1,by simpa using k])]
 have(f,d,st',N,O,Q,o,T):=jS q s w z fuel [] [] m [] bD bD bD bD L rfl (i4 _) (by unfold fuel;split<;>simp<;>lia);show#[f,d,N,O,Q,?_];show aI rfl (.inl rfl) B (aD (r:=(.own,.Jc ks (ks.map (cG (JS rows rows.length))))) (aH (aa (ae rfl) ag) trivial A) aZ (aD D aZ (aD (r:=(.own,.Jc [] [])) jJ aZ (aD (r:=(.own,.lst [])) (cj ag trivial aS (nH _)) aZ (aD J aZ (v5 T (bI (aA o) (oI o))))))))
def ya(hs:Γ "steps_in_rounds" [.tup (rows.map A')]=a0 (.ok (.own,.lst (gR a))))(c:a.flatten=f)(hl:f.length<=120):bN Γ fC [.tup (rows.map A')]=a0 (.ok (.own,.lst (f.map stN))):=by
 have hsz:(20000:Nat)<=dt:=by decide
 have h:TM.start [.tup (rows.map A')] 3=[a0 (.loc,.tup (rows.map A')),bD,bD]:=by simp[TM.start,Jy,a_]
 let S:=λ(l:List (Str×Nat)) (o2:Option (Kd×U))=>([a0 (.loc,.tup (rows.map A')),a0 (.own,.lst (l.map stN)),o2]:aB)
 have(st',i,b,o2,e):=b8 (t:=cb) (is:=[2]) (body:=execs Γ [.ext 1 (.var 2)]) (rs:=[(.own,.lst (gR a))]) (λl:List (Str×Nat)=>(Kd.loc,U.lst (l.map stN)))
  (λd r st=>d++r=a/\∃o2:Option (Kd×U),st=S d.flatten o2) (λ_ _ _ _=>trivial) (λd y r st j=>by
   have(b,o2,e):=j;subst e;have m:d.flatten.length+y.length<=120:=by
    have:=ϩ (λl:List (List (Str×Nat))=>l.flatten.length) b;simp only[ģ,VZ,ke,c]at this;lia
   show#[S d.flatten (a0 (.loc,.lst (y.map stN))),S (d++[y]).flatten (a0 (.loc,.lst (y.map stN))),dg aO,?_,by rw[<-b];simp,_,rfl];have em:(d++[y]).flatten.map stN=d.flatten.map stN++y.map stN:=by simp
   change Run _ _ _ [a0 (.loc,.tup (rows.map A')),a0 (.own,.lst ((d++[y]).flatten.map stN)),a0 (.loc,.lst (y.map stN))];rw[em];show r6 (k:=.own) (k':=.own) rfl (ae rfl) rfl rfl (vV (by rw[cK,cK];lia) rfl) aq) a [] (S [] bD) ⟨rfl,bD,rfl⟩
 subst e;have e:(gR a).map (λu=>(kE .own,u))=a.map λl=>(Kd.loc,U.lst (l.map stN)):=by unfold gR;rw[fx];rfl
 have g:=aI (Γ:=Γ) (fn:=fC) rfl (.inl rfl) h (aD (r:=(.own,.lst [])) (cj ag trivial aS (nH _)) aZ (cm (rs:=[(.own,.lst (gR a))]) (st1:=S [] bD) (aa (aH (aa (ae rfl) ag) trivial hs) ag) trivial rfl rfl (by rw[e];show i) (bI (aA rfl) (oI rfl))));rw[hY,c]at g;show g
end
section
variable{Γ:Tab}{rows:List Row}{names:List Str}
def mT(h:ss.length<64):KG .sorted [(k,.lst (ss.map .str))]=a0 (.own,.lst ((aC ss).map .str)):=by
 change xw k (ss.map .str)=_;unfold xw;rw[dh];change(if ss.length<64 then _ else _)=_;rw[ϥ h]
def uB{a:List (Str×Nat)}(hl:a.length<64)(ho:Γ "order" [.tup (rows.map A')]=a0 (.ok (.own,.lst (a.map stN)))):bN Γ eZ [.tup (rows.map A')]=a0 (.ok (.own,.lst ((aC (a.map (·.1))).map .str))):=by
 have hsz:(20000:Nat)<=dt:=by decide
 have c:TM.start [.tup (rows.map A')] 1=[a0 (.loc,.tup (rows.map A'))]:=by simp[TM.start,Jy,a_]
 have b:=iE (st:=[a0 (.loc,.tup (rows.map A'))]) (cond:=aN Γ []) (elt:=ev Γ (.var 0)) (src:=[(.own,.lst (a.map stN))]) trivial (λs:Str×Nat=>U.str s.1) (λs=>U.int (s.2:Nat)) (λs=>U.str s.1) (λ_=>b5) a [] (by simp;lia) (λy _=>#[dC,ae rfl]);rw[hY,NQ.mpr (λ_ _=>rfl)]at b;have e:(a.map stN).map (λu=>(kE .own,u))=a.map λs=>(Kd.loc,U.tup [.str s.1,.int (s.2:Nat)]):=by rw[fx];rfl
 have d:(a.map λs=>U.str s.1)=(a.map (·.1)).map U.str:=by rw[fx];rfl
 rw[d]at b;show aI rfl (.inl rfl) c (bI (cA (aa (br (rs:=[(.own,.lst (a.map stN))]) (aa (aH (aa (ae rfl) ag) trivial ho) ag) trivial (by change a0 (Tz (λu=>(kE .own,u)) _)=_;rw[e]) b) ag) trivial (mT (by rw[cK];show hl))) d6)
structure PQ(prog:List Fn):Prop where
 g:Jv prog "gathered" dn
 p:Jv prog "places_that_tell" bp
 n:Jv prog "new_steps" cT
 s:Jv prog "steps_in_rounds" bw
 o:Jv prog "order" fC
 l:Jv prog "learnt" eZ
structure Kn(rows:List Row)(K:List Str):Prop where
 nd:K.Nodup
 sn:LM rows K
 cl:dI rows (·∈K)
def Kn.perm(a:Kn rows K)(b:Kn rows L):K.Perm L:=same a.nd b.nd a.sn b.sn a.cl b.cl
def Kn.of(s:LI rows a []):Kn rows (a.map (·.1)):=#[s.nd,s.sn,s.closed]
def qx(L:PQ prog)(n:Nat)(d:∀r∈rows,eY names r)(y:names.length<=24)(e:rows.length<=120):∃c:List (Str×Nat),LI rows c []/\c.length<=24/\Ji prog (n+4) "order" [.tup (rows.map A')]=a0 (.ok (.own,.lst (c.map stN))):=by
 have j:∀r∈rows,r.2.length<=8:=λr h=>(d r h).MF;have f:Once rows:=λr h=>(d r h).once;have i:∀r∈rows,r.1∈names:=λr h=>(d r h).word;have k:DM (Ji prog (n+1)):=λps hl=>by
  have(ks,a,b):=qw (Γ:=Ji prog n) hl;show#[ks,a,(ay L.g _).trans b]
 have l:DN (Ji prog (n+2)) rows:=by
  have(ks,a,b):=uA k f j e;show#[ks,a,(ay L.p _).trans b]
 have m:AN (Ji prog (n+2)) rows:=λR K0 vs q=>by
  have(st,a,b):=nG (Γ:=Ji prog (n+1)) i ⋯ q (K0:=K0) (vs:=vs);show#[st,a,(ay L.n _).trans b]
 have(c,t,s1,s2,s3,s4):=gS f e l m;have u:Ji prog (n+3) "steps_in_rounds" [.tup (rows.map A')]=a0 (.ok (.own,.lst (gR t))):=(ay L.s _).trans s4;have v:c.length<=24:=by
  have:=vY (Kn.of s1).nd (L:=names) λx w=>by
   have(r,a,b):=k8.mp (s1.wd x w);show b▸i r a
  rw[cK]at this;lia
 show#[c,s1,v,(ay L.o _).trans (ya u s2 ⋯)]
def qy(L:PQ prog)(n:Nat)(a:∀r∈rows,eY names r)(b:names.length<=24)(c:rows.length<=120)(d:Kn rows K):Ji prog (n+5) "learnt" [.tup (rows.map A')]=a0 (.ok (.own,.lst ((aC K).map .str))):=by
 have(f,s1,s2,s3):=qx L n a b c;have e:aC (f.map (·.1))=aC K:=fT ((Kn.of s1).perm d);rw[<-e];show(ay L.l _).trans (uB ⋯ s3)
end
end KL
namespace TM
open PySem L2 JB
section
def jT(h:st[i]?=a0 (a0 (.loc,.bl b))):Run (Jx Γ (.var i)) st b st:=af (hV h) (cM rfl)
def oU(a:Run (ev Γ e) st r st1)(b:Run (execs Γ ss) st1 f st2):Run (execs Γ (.exp e::ss)) st f st2:=gq (af a bo) b
abbrev cC(ws:List Str)(r:Row):Prop:=r.1∈ws/\r.2.Nodup/\(∀y∈r.2,y∈ws)/\r.2.length<=8
abbrev dq(ks:List Str)(x:Str):List Str:=if x∈ks then ks else ks++[x]
def AO:dput ks (ks.map f) x u=(dq ks x,(dq ks x).map λk=>if k=x then u else f k):=by
 unfold dput dq;by_cases h:x∈ks
 .rw[ϥ h,ϥ h];congr 1
  clear h;induction ks with
  |nil=>rfl
  |cons k ks a=>rw[eH,P7,eH,eH,a]
 .rw[Ϧ h,Ϧ h];congr 1
  rw[nc,Yn,ϥ rfl];congr 1
  show tj λk hk=>?_;rw[Ϧ (λe:k=x=>h (e▸hk))]
def uC(h:ks.Nodup):(dq ks x).Nodup:=by
 unfold dq;split
 .show h
 .rename_i d;show ri.mpr #[h,by simp,λa f c b=>by rw[kj]at b;subst b;show λe=>d (e▸f)]
def cN:y∈dq ks x↔y∈ks\/y=x:=by
 unfold dq;split
 .rename_i h;show#[.inl,λz=>z.elim id λe=>e▸h]
 .simp
def v_(h:ks.length<1000):dG (.str x) u (.Jc ks (ks.map f))=a0 (.Jc (dq ks x) ((dq ks x).map λk=>if k=x then u else f k)):=by
 rw[vX h,AO]
def gu(h:x∈ks):cJ ks (ks.map f) x=a0 (f x):=by
 induction ks with
 |nil=>cases h
 |cons k ks a =>
  rw[eH];unfold cJ;by_cases e:k=x
  .rw[ϥ e,e]
  .rw[Ϧ e];show a ((fR.mp h).resolve_left λz=>e z.symm)
abbrev jU(ks:List Str):U:=.Jc ks (ks.map λ_=>.bl b5)
def qz(h:ks.length<1000):dG (.str x) (.bl b5) (jU ks)=a0 (jU (dq ks x)):=by
 unfold jU;rw[v_ h];congr 3
 funext k
 split<;>rfl
abbrev iF(ws ks:List Str):Prop:=ks.Nodup/\∀x∈ks,x∈ws
def iF.ins(h:iF ws ks)(a:x∈ws):iF ws (dq ks x):=#[uC h.1,λy b=>(cN.mp b).elim (h.2 y) λe=>e▸a]
def iF.len(h:iF ws ks):ks.length<=ws.length:=d7 h.1 h.2
def qA{rs:List Row}:KQ .seq [(k,.tup (rs.map A'))]=a0 (rs.map λr=>(kE k,A' r)):=by
 change a0 ((rs.map A').map λu=>(kE k,u))=_;rw[fx];rfl
def AQ(h:(!(i==j))=c):bC .ne (.int i) (.int j)=a0 c:=by subst h;rfl
end
section
def C6{a b:List Str}:bC .ne (.lst (a.map U.str)) (.lst (b.map U.str))=a0 (!df (a=b)):=by
 have h:=@Aw a b;simp only[bC]at h ⊢;split at h
 .rename_i hh;rw[ϥ hh,tA h]
 .cases h
def dr(rs:List Row):(a0 (if Jy (.tup (rs.map A'))=b5 then Kd.loc else Kd.any,U.tup (rs.map A')):Option (Kd×U))=a0 (.loc,.tup (rs.map A')):=by
 rw[ϥ (by change dZ (rs.map A')=b5;show a_ rs)]
def so{ss:List Str}:KQ .seq [(k,.tup (ss.map .str))]=a0 (ss.map λx=>(kE k,U.str x)):=by
 change a0 ((ss.map U.str).map λu=>(kE k,u))=_;rw[fx];rfl
def cC.ok(h:cC ws r):eY ws r:=#[h.1,h.2.2.2,h.2.1,h.2.2.1]
structure Bq(ws:List Str)(rs:List Row):Prop where
 wl:ws.length<=24
 rl:rs.length<=84
 ok:∀r∈rs,cC ws r
end
end TM
namespace TM
open PySem L2 JB Od
section
def jV(hk:k=.loc\/k=.any)(h:st[i]?=a0 (a0 (k,u))):Run (ev Γ (.var i)) st (k,u) st:=by
 rcases hk with rfl|rfl
 .show ae h
 .show aQ h
def V_K(hk:k=.loc\/k=.any)(h:Jy u=b5):Run (lift (k,u)) st u st:=by
 rcases hk with rfl|rfl
 .show aL
 .show je h
def gv(hk:k=.loc\/k=.any)(h:bt rs st):bt ((k,u)::rs) st:=by rcases hk with rfl|rfl<;>show h
def IZ(hk:k=.loc\/k=.any):kE k=k:=by rcases hk with rfl|rfl<;>rfl
def AR{told known:List Str}(hk:k=.loc\/k=.any)(hl:told.length<=1000)(hs:Run (ev Γ src) st (k,.tup (told.map .str)) st)(b:st[j]?=a0 (a0 (.own,w)))(c:∀x:Str,bC .isin (.str x) w=a0 (df (x∈known))):
  Run (ev Γ (.bi .all [.comp 1 cb .seq [src] [] (.cmp .isin (.var 0) (.var (j+1)))])) st (.loc,.bl (told.all λx=>df (x∈known))) st:=by
 have hsz:(1000:Nat)<=dt:=by decide
 have a:=di (cond:=aN Γ []) (elt:=ev Γ (.cmp .isin (.var 0) (.var (j+1)))) (src:=[(k,.tup (told.map .str))]) (st:=st) (gv hk trivial) k hk U.str (λx=>.bl (df (x∈known))) .loc (λ_=>dC) told [] (by simp;lia)
  (λy _=>#[d5 (jV hk rfl) (aA (by simpa using b)) (gv hk #[#[.own,rfl,by simpa using b],trivial]) (c y),aL])
 rw[hY]at a;have e:(told.map U.str).map (λu=>(kE k,u))=told.map λr=>(k,U.str r):=by rw[fx,IZ hk];rfl
 have d:(told.map λx=>U.bl (df (x∈known)))=(told.map λx=>df (x∈known)).map U.bl:=by rw[fx];rfl
 rw[d]at a;have f:(told.all λx=>df (x∈known))=((told.map λx=>df (x∈known)).all id):=by rw[UE];rfl
 rw[f];show cA (aa (br (rs:=[(k,.tup (told.map .str))]) (aa hs ag) (gv hk trivial) (by change a0 _=_;rw[e]) a) ag) trivial (jn _)
abbrev HP:List S:=[.ite (.and [.cmp .Je (.var 3) (.var 1),.bi .all [.comp 1 cb .seq [.var 4] [] (.cmp .isin (.var 0) (.var 2))]]) [.put 1 (.var 3) (.cst (.bl b5)),.set 2 (.cst (.bl b5))] []]
abbrev F0:List S:=[.set 2 (.cst (.bl cb)),.Jw b5 [3,4] .seq [.var 0] HP]
inductive Bv(rs:List Row):Kd->U->Prop
 |tup:Bv rs .loc (.tup (rs.map A'))
 |lst:Bv rs .any (.lst (rs.map A'))
def Bv.kd{W:U}(h:Bv rs k W):k=.loc\/k=.any:=by cases h<;>simp
def Bv.it{W:U}(h:Bv rs k W):KQ .seq [(k,W)]=a0 (rs.map λr=>(k,A' r)):=by
 cases h
 .show qA
 .change a0 ((rs.map A').map λu=>(kE .any,u))=_;rw[fx];rfl
def Bv.bg{W:U}(h:Bv rs k W):(a0 (if Jy W=b5 then Kd.loc else Kd.any,W):Option (Kd×U))=a0 (k,W):=by
 cases h
 .show dr rs
 .rfl
abbrev kH(k:Kd)(W:U)(K:List Str)(b:Bool)(o3 o4:Option (Kd×U)):aB:=[a0 (k,W),a0 (.own,jU K),a0 (.loc,.bl b),o3,o4]
structure N5(ws:List Str)(rs:List Row)(K:List Str):Prop where
 ks:iF ws K
 snd:LM rs K
def N5.add(x:N5 ws rs K)(b:r∈rs)(c:r.1∈ws)(d:∀y∈r.2,y∈K):N5 ws rs (dq K r.1) :=
 #[x.ks.ins c,λC a y f=>(cN.mp f).elim (x.snd C a y) λe=>e▸a r b λz hz=>x.snd C a z (d z hz)]
def C7{W:U}(v:Bv rs k W)(I:ws.length<=40)(z:∀r∈rs,cC ws r)(x:N5 ws rs K0):
  ∃(g:List Str) (b:Bool) (o p:Option (Kd×U)),Run (execs Γ F0) (kH k W K0 b0 o3 o4) .nx (kH k W g b o p)/\N5 ws rs g/\(b=b5->K0.length<g.length)/\(b=cb->g=K0/\dI rs (·∈K0)):=by
 have hk:=v.kd;have(st1,C,_,g,b,o,p,rfl,i,l,c):=b8 (t:=b5) (is:=[3,4]) (body:=execs Γ HP) (rs:=[(k,W)]) (λr:Row=>(k,A' r))
  (λd r st=>d++r=rs/\∃(K:List Str) (b:Bool) (o3 o4:Option (Kd×U)),st=kH k W K b o3 o4/\N5 ws rs K/\(b=b5->K0.length<K.length)/\(b=cb->K=K0/\∀r∈d,(∀y∈r.2,y∈K0)->r.1∈K0)) (λ_ _ _ _=>gv hk trivial) (λd a r st D=>by
   have(q,K,b,o3,o4,e,i,l,c):=D;subst e;have s:a∈rs:=by rw[<-q];simp
   have J:=(z a s).2.2.2;have L:=i.ks.len;have m:Run (Jx Γ (.and [.cmp .Je (.var 3) (.var 1),.bi .all [.comp 1 cb .seq [.var 4] [] (.cmp .isin (.var 0) (.var 2))]])) (kH k W K b (a0 (k,.str a.1)) (a0 (k,.tup (a.2.map .str)))) (!df (a.1∈K)&&a.2.all λy=>df (y∈K)) (kH k W K b (a0 (k,.str a.1)) (a0 (k,.tup (a.2.map .str)))) :=
    ka (um (aX (jV hk rfl) (aA rfl) (gv hk #[#[.own,rfl,rfl],trivial]) gM) λ_=>cR (jO (AR (j:=1) (w:=jU K) hk ⋯ (jV hk rfl) rfl λ_=>jQ)))
   have A:Run (dO b5 [3,4] (k,A' a)) (kH k W K b o3 o4) () (kH k W K b (a0 (k,.str a.1)) (a0 (k,.tup (a.2.map .str)))):=jl hk;cases f:(!df (a.1∈K)&&a.2.all λy=>df (y∈K)) with
   |false =>
    rw[f]at m;show#[_,_,A,aR m aq aq,by rw[<-q];simp,K,b,_,_,rfl,i,l,λu=>#[(c u).1,λn J1 hz=>?_]];rcases hZ.mp J1 with J1|J1
    .show(c u).2 n J1 hz
    .rw[kj]at J1;subst J1;rw[<-(c u).1]at hz ⊢;by_cases B:n.1∈K
     .show B
     .have:(!df (n.1∈K)&&n.2.all λy=>df (y∈K))=b5:=by
       rw[ϧ B];simpa using hz
      rw[this]at f;cases f
   |true =>
    rw[f]at m;simp only[du,LB,decide_eq_false_iff_not,oT,Ϥ]at f;have G:dq K a.1=K++[a.1]:=by unfold dq;rw[Ϧ f.1]
    show#[_,kH k W (dq K a.1) b5 (a0 (k,.str a.1)) (a0 (k,.tup (a.2.map .str))),A,cF m (mJ (k:=.own) (k':=.own) au rfl (jV hk rfl) (aK aL (aK (V_K hk rfl) aS)) rfl rfl (qz ⋯) (aD au aO aq)) aq,by rw[<-q];simp,dq K a.1,b5,_,_,rfl,i.add s (z a s).1 f.2,λ_=>?_,λh=>by cases h];rw[G,ke,wh];cases b with
    |true=>have:=l rfl;lia
    |false=>rw[(c rfl).1];lia) rs [] (kH k W K0 cb o3 o4) ⟨rfl,K0,cb,o3,o4,rfl,x,(λh=>by cases h),λ_=>#[rfl,λr H=>by cases H]⟩
 rw[hY]at c;show#[g,b,o,p,aD au aO (cm (rs:=[(k,W)]) (st1:=kH k W K0 cb o3 o4) (aa (jV hk rfl) ag) (gv hk trivial) v.it (by rcases hk with rfl|rfl<;>rfl) C aq),i,l,c]
theorem qB{W:U}(i:Bv rs k W)(j:ws.length<=40)(l:∀r∈rs,cC ws r):
  ∀(f:Nat) (K0:List Str) (o3 o4:Option (Kd×U)),N5 ws rs K0->64 - K0.length<f->∃(a:List Str) (c d:Option (Kd×U)),Run (f_ (Jx Γ (.var 2)) (execs Γ F0) (f+1)) (kH k W K0 b5 o3 o4) .nx (kH k W a cb c d)/\N5 ws rs a/\dI rs (·∈a)
 |0,_,_,_,_,h=>by lia
 |f+1,K0,o3,o4,x,h=>by
  have(a,b,c,d,m,g,n,o):=C7 (Γ:=Γ) i j l x (b0:=b5) (o3:=o3) (o4:=o4);cases b with
  |false =>
   have(e,p):=o rfl;subst e;show#[a,c,d,uu (jT rfl) m (vZ (jT rfl)),g,p]
  |true =>
   have:=n rfl;have:=g.ks.len;have(q,s,t,u,v,w):=qB i j l f a c d g ⋯;show#[q,s,t,uu (jT rfl) m u,v,w]
abbrev Ln(rs:List Row)(x:Str):Prop:=∀C:Str->Prop,dI rs C->C x
def Kn.mem(h:KL.Kn rs K):x∈K↔Ln rs x:=#[λa C b=>h.sn C b x a,λhl=>hl _ h.cl]
def Kn.some(c:ws.length<=24)(a:∀r∈rs,cC ws r):∃K,KL.Kn rs K/\iF ws K:=by
 have(K,d,e,q,x,b):=qB (Γ:=λ_ _=>bD) (Bv.tup (rs:=rs)) ⋯ a 999999999999 [] bD bD ⟨⟨.nil,λ_ h=>absurd h rz⟩,λ_ _ _ h=>absurd h rz⟩ (by simp);show#[K,#[x.ks.1,x.snd,b],x.ks]
end
abbrev wo(rs:List Row)(o:Str):List Row:=rs.filter λr=>!df (r.1=o)
def cH:r∈wo rs o↔r∈rs/\r.1≠o:=by unfold wo;rw[oa];simp
def Bq.wo(h:Bq ws rs)(o:Str):Bq ws (wo rs o):=#[h.wl,K' (qb _ _) h.rl,λr a=>h.ok r (cH.mp a).1]
section
def AS(hl:rs.length<=1000)(hk:k=.loc\/k=.any)(b:st[i]?=a0 (a0 (.loc,.tup (rs.map A'))))(c:st[j]?=a0 (a0 (k,.str o))):
  Run (ev Γ (.comp 1 cb .seq [.var i] [.cmp .ne (.idx (.var 0) (.cst (.int 0))) (.var (j+1))] (.var 0))) st (.own,.lst ((wo rs o).map A')) st:=by
 have hsz:(1000:Nat)<=dt:=by decide
 have a:=fy (cond:=aN Γ [.cmp .ne (.idx (.var 0) (.cst (.int 0))) (.var (j+1))]) (elt:=ev Γ (.var 0)) (src:=[(.loc,.tup (rs.map A'))]) (st:=st) trivial .loc (.inl rfl) A' A' (λr=>!df (r.1=o)) .loc rs [] (by simp;lia)
  (λy _=>#[cR (aX (x:=(.loc,.str y.1)) (aF (ae rfl) au trivial (bc rfl)) (jV (k:=k) hk (by simpa using c)) (gv (.inl rfl) (gv hk trivial)) mQ),λ_=>#[ae rfl,aL]])
 rw[hY]at a;show br (rs:=[(.loc,.tup (rs.map A'))]) (aa (ae b) ag) trivial qA a
abbrev PR:Fn:=#["without",2,2,[.ret (.bi .tuple [.comp 1 cb .seq [.var 0] [.cmp .ne (.idx (.var 0) (.cst (.int 0))) (.var 2)] (.var 0)])]]
def wa:KG .tuple [(k,.lst us)]=a0 (kE k,.tup us):=rfl
def gw{rs:List Row}(n:Nat):start [.tup (rs.map A'),.str w] (n+2)=a0 (.loc,.tup (rs.map A'))::a0 (.loc,.str w)::lx n bD:=by
 change a0 (if Jy (.tup (rs.map A'))=b5 then Kd.loc else Kd.any,U.tup (rs.map A'))::a0 (Kd.loc,U.str w)::lx (n+2 - 2) bD=_;rw[dr];rfl
def F2(h:Jv Pg "without" PR)(hl:rs.length<=1000)(o:Str):Ji Pg (d+1) "without" [.tup (rs.map A'),.str o]=a0 (.ok (.loc,.tup ((wo rs o).map A'))) :=
 (ay h _).trans (aI rfl (.inr rfl) (gw 0) (bI (cA (aa (AS (j:=1) (k:=.loc) hl (.inl rfl) rfl rfl) ag) trivial wa) eD))
abbrev F3:List S:=[.put 3 (.var 5) (.cst (.bl b5))]
abbrev VB:List S:=[.ite (.cmp .isin (.idx (.var 4) (.cst (.int 0))) (.var 3)) [.app 2 (.var 4),.Jw cb [5] .seq [.idx (.idx (.var 0) (.idx (.var 4) (.cst (.int 1)))) (.cst (.int 1))] F3] []]
abbrev Sk:Fn:=#["order_up_to",2,6,[.set 2 (.lst []),.set 3 (.PB 1),.Jw cb [4] .rev [.call "order" [.var 0]] VB,.ret (.MR .Ll [.var 2])]]
def DO(h:st[i]?=a0 (a0 (.loc,.str y))):Run (ev Γ (.PB i)) st (.own,.Jc [y] [.bl b5]) st:=by
 change zl i st=_;unfold zl;rw[h]
theorem qC:∀{a b:List (Str×Nat)}{y:Str×Nat}{K:List Str},vS rs K (a++y::b)->∃r,rs[y.2]?=a0 r/\r.1=y.1/\∀x∈r.2,x∈K++a.map (·.1)
 |[],b,y,K,h=>by
  have(_,r,c,d,e):=h.1;show#[r,c,d,by simpa using e]
 |s::a,b,y,K,h=>by
  have(r,c,d,e):=qC (a:=a) h.2;show#[r,c,d,by simpa using e]
abbrev d9(rs:List Row)(w:Str)(bk:List (Str×Nat))(a:List Str)(o4 o5:Option (Kd×U)):aB:=[a0 (.loc,.tup (rs.map A')),a0 (.loc,.str w),a0 (.own,.lst (bk.map stN)),a0 (.own,jU a),o4,o5]
def wb{b ts:List Str}(o:ws.length<=24)(hk:iF ws b)(l:∀x∈ts,x∈ws):
  ∃a c,Run (forM cb [5] (execs Γ F3) [(.loc,.tup (ts.map .str))] (ts.map λx=>(Kd.loc,U.str x))) (d9 rs w bk b o4 o5) .nx (d9 rs w bk a o4 c)/\iF ws a/\(∀x∈b,x∈a)/\∀x∈ts,x∈a:=by
 have(st',m,a,c,rfl,f,g,h,_):=b8 (rs:=[(.loc,.tup (ts.map .str))]) (t:=cb) (is:=[5]) (body:=execs Γ F3) (λx:Str=>(Kd.loc,U.str x)) (λd q st=>∃a c,st=d9 rs w bk a o4 c/\iF ws a/\(∀x∈b,x∈a)/\(∀x∈d,x∈a)/\∀x∈q,x∈ws)
  (λ_ _ _ _=>trivial) (λd y q st n=>by
   have(i,o5,rfl,f,g,h,j):=n;have p:=f.len;show#[d9 rs w bk i o4 (a0 (.loc,.str y)),_,aO,mJ (k:=.own) (k':=.own) au rfl (ae rfl) (aK aL (aK aL aS)) rfl rfl (qz ⋯) aq,dq i y,_,rfl,f.ins (j y (by simp)),λx e=>cN.mpr (.inl (g x e)),λx e=>?_,λx e=>j x (by simp[e])];rcases hZ.mp e with q|q
   .show cN.mpr (.inl (h x q))
   .rw[kj]at q;show cN.mpr (.inr q)) ts [] (d9 rs w bk b o4 o5) ⟨b,o5,rfl,hk,λ_ q=>q,λ_ q=>absurd q rz,l⟩
 show#[a,c,m,f,g,h]
structure UpI(ws:List Str)(rs:List Row)(w:Str)(bk:List (Str×Nat))(wn:List Str)(d q:List (Str×Nat)):Prop where
 sl:bk.Sublist d
 ks:iF ws wn
 jj:∀(o:Str) (C:Str->Prop),o∉bk.map (·.1)->dI (wo rs o) C->(∀x∈wn,x∈q.map (·.1)->C x)->C w
def F4(G:Bq ws rs)(L:vS rs [] f)(hl:f.length<=24)(N:w∈ws)(p:w∈f.map (·.1))(ho:Γ "order" [.tup (rs.map A')]=a0 (.ok (.own,.lst (f.map stN)))):
  ∃B:List (Str×Nat),bN Γ Sk [.tup (rs.map A'),.str w]=a0 (.ok (.own,.lst (B.map stN)))/\B.Sublist f/\∀o,o∉B.map (·.1)->Ln (wo rs o) w:=by
 have hsz:(1000:Nat)<=dt:=by decide
 have O:=G.wl;have(st',v,l,bk,c,o4,o5,rfl,g):=b8 (rs:=[(.own,.lst (f.map stN))]) (t:=cb) (is:=[4]) (body:=execs Γ VB) (λs:Str×Nat=>(Kd.loc,stN s)) (λd q st=>d++q=f.reverse/\∃bk c o4 o5,st=d9 rs w bk c o4 o5/\UpI ws rs w bk c d q)
  (λ_ _ _ _=>trivial) (λd y q st Q=>by
   have(l,bk,c,o4,o5,e,g):=Q;subst e;have es:f=q.reverse++y::d.reverse:=by rw[<-W7 f,<-l];simp
   have(r,H,I,T):=qC (a:=q.reverse) (b:=d.reverse) (y:=y) (by rw[<-es];show L);have J:r∈rs:=lg H;have Lf:d.length<24:=by have:=ϩ DD l;simp at this;lia
   have Y:=g.sl.length_le;have m:Run (Jx Γ (.cmp .isin (.idx (.var 4) (.cst (.int 0))) (.var 3))) (d9 rs w bk c (a0 (.loc,stN y)) o5) (df (y.1∈c)) (d9 rs w bk c (a0 (.loc,stN y)) o5):=aX (x:=(.loc,.str y.1)) (aF (ae rfl) au trivial (bc rfl)) (aA rfl) ∅ jQ;show#[d9 rs w bk c (a0 (.loc,stN y)) o5,?_];by_cases A:y.1∈c
   .rw[Ϩ A]at m;have(LO,K8,v,k1,k2,k3):=wb (Γ:=Γ) (rs:=rs) (w:=w) (bk:=bk++[y]) (ts:=r.2) (o4:=a0 (.loc,stN y)) (o5:=o5) O g.ks (G.ok r J).2.2.1;show#[_,aO,cF m (jg (k:=.own) (k':=.own) (st1:=d9 rs w bk c (a0 (.loc,stN y)) o5) (st2:=d9 rs w bk c (a0 (.loc,stN y)) o5) rfl (ae rfl) aL rfl rfl (by rw[cK];lia) (cm (rs:=[(.loc,.tup (r.2.map .str))]) (st1:=d9 rs w (bk++[y]) c (a0 (.loc,stN y)) o5) ?_ trivial so rfl v aq)) aq,by rw[<-l];simp,bk++[y],LO,_,_,rfl,g.sl.append (TR _),k1,λo C ho i j=>?_]
    .have e:((bk.map stN)++[stN y]:List U)=(bk++[y]).map stN:=by simp
     have Lk:(rs.map A')[y.2]?=a0 (A' r):=by rw[i5,H];rfl
     change Run _ [a0 (.loc,.tup (rs.map A')),a0 (.loc,.str w),a0 (.own,.lst ((bk.map stN)++[stN y])),a0 (.own,jU c),a0 (.loc,stN y),o5] _ _;rw[e];show aa (aF (aF (ae rfl) (aF (ae rfl) au trivial (bc rfl)) trivial (bc (bQ Lk))) au trivial (bc rfl)) ag
    .rw[nc,hZ,not_or]at ho;have D:r.1≠o:=λe=>ho.2 (by rw[<-e,I];simp);show g.jj o C ho.1 i λx n Mn=>?_;rw[eH]at Mn;rcases fR.mp Mn with e|Mn
     .subst e;rw[<-I];show i r (cH.mpr #[J,D]) λz hz=>j z (k3 z hz) ?_;have:=T z hz;rw[hY,Kq]at this;show Pr.mp this
     .show j x (k2 x n) Mn
   .rw[ϧ A]at m;show#[_,aO,aR m aq aq,by rw[<-l];simp,bk,c,_,_,rfl,g.sl.trans (ç _ _),g.ks,λo C ho i j=>g.jj o C ho i λx n Mn=>?_];rw[eH]at Mn;rcases fR.mp Mn with e|Mn
    .show absurd (e▸n) A
    .show j x n Mn) f.reverse [] (d9 rs w [] [w] bD bD) ⟨rfl,[],[w],bD,bD,rfl,TR _,⟨by simp,by simpa using N⟩,λo C _ _ j=>j w (by simp) (by rw[Kq];show Pr.mpr p)⟩
 have Y:=g.sl.length_le;show#[bk.reverse,aI rfl (.inl rfl) (gw 4) (aD (cj ag trivial aS (nH _)) aZ (aD (DO rfl) aZ (cm (rs:=[(.own,.lst (f.map stN))]) (st1:=d9 rs w [] [w] bD bD) (aa (aH (aa (ae rfl) ag) trivial ho) ag) trivial ?_ rfl v (bI (oF (aa (aA rfl) ag) ∅ ?_) d6)))),?_,λo ho C i=>g.jj o C (by rw[Kq]at ho;show λz=>ho (Pr.mpr z)) i λx _ h=>absurd h rz]
 .change a0 ((f.map stN).reverse.map λu=>(kE .own,u))=_;rw[<-Kq,fx];rfl
 .change(if fM (.bor 2) (bk.map stN)=b5 then a0 (Kd.own,U.lst (bk.map stN).reverse) else bD)=_;rw[ϥ (show fM (.bor 2) (bk.map stN)=b5 from rfl),Kq]
 .have:=g.sl;rw[hY]at this;have:=this.reverse
  rwa [W7]at this
end
section
abbrev DP(Γ:Tab):Prop:=∀(ws:List Str) (rs:List Row) (K:List Str),Bq ws rs->KL.Kn rs K->Γ "learnt" [.tup (rs.map A')]=a0 (.ok (.own,.lst ((aC K).map .str)))
def AU(L:KL.PQ Pg)(n:Nat):DP (Ji Pg (n+5)):=λws rs K a b=>KL.qy L n (λr c=>(a.ok r c).ok) a.wl (by have:=a.rl;lia) b
structure Sm(rs:List Row)(w:Str)(M:List Str):Prop where
 nd:M.Nodup
 iff:∀o,o∈M↔(Ln rs o/\o≠w)/\¬Ln (wo rs o) w
end
end TM
namespace TM
open PySem L2 JB
section
def F5(b:st[i]?=a0 (a0 (.G',.Jc ks us)))(c:Run (bJ 2 b5 (pure b5) (ev Γ e) [] (gP (ks,us)) []) (st.set i bD) vs st1):Run (execs Γ (.LJ i e::ss)) st (.rt .own (.lst vs)) st1:=by
 show Ae (af (a:=(ks,us)) (st1:=st.set i bD) ?_ (af c rfl));change rE i st=_;unfold rE;rw[b]
end
end TM
namespace KK
open PySem L2 TM JB Od
abbrev wc:Fn:=#["not_learnt",1,1,[.ret (.OH cb (.call "words_of" [.var 0]) (.call "learnt" [.var 0]))]]
abbrev DQ:List TM.S:=[.ite (.inD cb (.idx (.var 3) (.cst (.int 0))) 1) [.KP 1 (.idx (.var 3) (.cst (.int 0))) (.idx (.comp 1 cb .seq [.idx (.var 3) (.cst (.int 1))] [.inD cb (.var 0) 2] (.var 0)) (.cst (.int 0)))] []]
abbrev AV:Fn:=#["knot",1,4,[.newD 1,.Jw cb [2] .seq [.call "not_learnt" [.var 0]] [.putD 1 (.var 2) (.lst [])],.Jw cb [3] .seq [.var 0] DQ,.LJ 1 (.tup [.var 0,.bi .tuple [.var 1]])]]
abbrev Kv(rows:List Row)(K:List Str):List Str:=(av rows).filter λx=>df (x∉K)
def kX:x∈Kv rows K↔x∈cu rows/\x∉K:=by
 unfold Kv;rw[oa,fA];simp
def oV(rows:List Row)(K:List Str):(Kv rows K).Nodup:=(fB rows).sublist JM
abbrev pick(Z:List Str)(l:List Str):Str:=((l.filter λx=>df (x∈Z)).head?).getD ""
abbrev Lq(Z:List Str)(d:List Row)(k:Str):List Str:=(d.filter λr=>df (r.1=k)).map λr=>pick Z r.2
abbrev c7(Z:List Str)(d:List Row)(k:Str):U:=.lst ((Lq Z d k).map .str)
abbrev bP(Z:List Str)(rows:List Row):List Row:=Z.map λk=>(k,Lq Z rows k)
section
def mU(f:K.length<64)(g:(av rows).length<64)(a:Γ "words_of" [.tup (rows.map A')]=a0 (.ok (.own,.lst ((av rows).map .str))))(b:Γ "learnt" [.tup (rows.map A')]=a0 (.ok (.own,.lst ((aC K).map .str)))):
  bN Γ wc [.tup (rows.map A')]=a0 (.ok (.own,.lst ((Kv rows K).map .str))):=by
 have c:TM.start [.tup (rows.map A')] 1=[a0 (.loc,.tup (rows.map A'))]:=by simp[TM.start,Jy,a_]
 have h:=dW (av rows);have d:=dW (aC K);rw[bX]at d;have hs:nE cb (aE (av rows)) (aE (aC K))=a0 (.own,.lst ((Kv rows K).map .str)):=by
  unfold nE;rw[ϥ #[⋯,⋯],Ϧ k9];have e:aC ((aE (av rows)).filter λx=>df (x∉aE (aC K)))=Kv rows K:=by
   show AG ?_ ((cX _).sublist JM);show(Ot ((bY _).sublist JM) (oV rows K)).mpr λx=>?_;unfold Kv;rw[oa,oa,bH];simp only[Ϥ,bH,(aY K).mem_iff]
  rw[e]
 show aI rfl (.inl rfl) c (bI (AF (aH (aa (ae rfl) ag) trivial a) (dU ⋯) (aH (aa (ae rfl) ag) trivial b) (dU (by rw[bX];lia)) hs) d6)
def sr(Z:List Str)(d:List Row)(r:Row)(k:Str):Lq Z (d++[r]) k=if r.1=k then Lq Z d k++[pick Z r.2] else Lq Z d k:=by
 unfold Lq;rw[Sq,nc,vl,OD];by_cases e:r.1=k
 .rw[ϥ e,ϥ (Ϩ e)];rfl
 .rw[Ϧ e,Ϧ (by simpa using e)];simp
def C8(Z:List Str)(d:List Row)(k:Str):(Lq Z d k).length<=d.length:=by
 unfold Lq;rw[cK];show qb _ _
def AW(hr:rows.length<=120)(D:∀r∈rows,r.2.length<=8)(n:Z.Nodup)(hl:Z.length<64)(G:∀r∈rows,r.1∈Z->∃x∈r.2,x∈Z)(H:Γ "not_learnt" [.tup (rows.map A')]=a0 (.ok (.own,.lst (Z.map .str)))):
  bN Γ AV [.tup (rows.map A')]=a0 (.ok (.own,.lst ((bP Z rows).map A'))):=by
 have hsz:(20000:Nat)<=dt:=by decide
 let j:Option (Kd×U):=a0 (.loc,.tup (rows.map A'));have I:TM.start [.tup (rows.map A')] 4=[j,bD,bD,bD]:=by simp[TM.start,Jy,a_,j]
 let S:=λ(ks:List Str) (us:List TM.U) (o2 o3:Option (Kd×TM.U))=>([j,a0 (.G',.Jc ks us),o2,o3]:aB)
 have(st1,s,_,o2,e):=b8 (t:=cb) (is:=[2]) (body:=execs Γ [.putD 1 (.var 2) (.lst [])]) (rs:=[(.own,.lst (Z.map .str))]) (λw:Str=>(Kd.loc,U.str w))
  (λd r st=>d++r=Z/\∃o2,st=S d (d.map (c7 Z [])) o2 bD) (λ_ _ _ _=>trivial) (λd w r st o=>by
   have(f,o2,e):=o;subst e;have J:w∉d:=λz=>by
    rw[<-f,ri]at n;show n.2.2 w z w (by simp) rfl
   have L:d.length<64:=by have:=ϩ DD f;simp at this;lia
   have em:(d++[w]).map (c7 Z [])=d.map (c7 Z [])++[.lst []]:=by rw[nc];rfl
   show#[S d (d.map (c7 Z [])) (a0 (.loc,.str w)) bD,S (d++[w]) ((d++[w]).map (c7 Z [])) (a0 (.loc,.str w)) bD,dg aO,?_,by rw[<-f];simp,_,rfl];rw[em];show AD (k:=.loc) (xs:=[]) (cj ag trivial aS (nH _)) rfl (ae rfl) J ⋯ aq) Z [] (S [] [] bD bD) ⟨rfl,bD,rfl⟩
 subst e;rw[hY]at s;let body:List TM.S:=DQ;have(st2,v,_,o3,e):=b8 (t:=cb) (is:=[3]) (body:=execs Γ body) (rs:=[(.loc,.tup (rows.map A'))]) (λr:Row=>(Kd.loc,A' r))
  (λd r st=>d++r=rows/\∃o3,st=S Z (Z.map (c7 Z d)) o2 o3) (λ_ _ _ _=>trivial) (λd b r st o=>by
   have(f,o3,e):=o;subst e;have L:d.length<120:=by have:=ϩ DD f;simp at this;lia
   have A:b∈rows:=by rw[<-f];simp
   have N:=D b A;let c:Option (Kd×TM.U):=a0 (.loc,A' b);have B:Run (ev Γ (.idx (.var 3) (.cst (.int 0)))) (S Z (Z.map (c7 Z d)) o2 c) (.loc,.str b.1) (S Z (Z.map (c7 Z d)) o2 c):=aF (x:=(.loc,A' b)) (ae rfl) au trivial rfl;have m:Run (Jx Γ (.inD cb (.idx (.var 3) (.cst (.int 0))) 1)) (S Z (Z.map (c7 Z d)) o2 c) (df (b.1∈Z)) (S Z (Z.map (c7 Z d)) o2 c):=AB (neg:=cb) (k:=.loc) B rfl;have C:Run (dO cb [3] (.loc,A' b)) (S Z (Z.map (c7 Z d)) o2 o3) () (S Z (Z.map (c7 Z d)) o2 c):=dg aO;by_cases g:b.1∈Z
   .rw[Ϩ g]at m;have i:=fy (cond:=aN Γ [.inD cb (.var 0) 2]) (elt:=ev Γ (.var 0)) (src:=[(.loc,.tup (b.2.map .str))]) (st:=S Z (Z.map (c7 Z d)) o2 c) trivial .loc (.inl rfl) U.str U.str (λx=>df (x∈Z)) .loc b.2 [] (by simp;lia)
     (λy _=>#[cR (AB (neg:=cb) (k:=.loc) (ae rfl) rfl),λ_=>#[ae rfl,aL]])
    rw[hY]at i;have q:(b.2.map U.str).map (λu=>(kE .loc,u))=b.2.map λx=>(Kd.loc,U.str x):=by rw[fx];rfl
    have O:=br (Γ:=Γ) (ik:=.seq) (rs:=[(.loc,.tup (b.2.map .str))]) (st:=S Z (Z.map (c7 Z d)) o2 c) (src:=[.idx (.var 3) (.cst (.int 1))]) (aa (aF (x:=(.loc,A' b)) (ae rfl) au trivial rfl) ag) trivial (by change a0 (Tz (λu=>(kE .loc,u)) _)=_;rw[q]) i;have Q:JK ((b.2.filter λx=>df (x∈Z)).map U.str) ((0:Nat):Int)=a0 (.str (pick Z b.2)):=by
     have(x,T,Y):=G b A g;show bQ ?_;unfold pick;cases hf:b.2.filter λx=>df (x∈Z) with
     |nil =>
      have:x∈b.2.filter λx=>df (x∈Z):=oa.mpr #[T,Ϩ Y];rw[hf]at this;cases this
     |cons a l=>rfl
    have hg:cJ Z (Z.map (c7 Z d)) b.1=a0 (.lst ((Lq Z d b.1).map .str)):=by rw[jm,ϥ g];rfl
    have hs:jC Z (Z.map (c7 Z d)) b.1 (.lst ((Lq Z d b.1).map .str++[.str (pick Z b.2)]))=Z.map (c7 Z (d++[b])):=by
     rw[mP _ _ _ _ n];show tj λk hk=>?_;unfold c7;rw[sr];by_cases e:b.1=k
     .subst e;rw[ϥ rfl,ϥ rfl];simp
     .rw[Ϧ e,Ϧ (uv e)]
    have L3:=C8 Z d b.1;show#[_,S Z (Z.map (c7 Z (d++[b]))) o2 c,C,mK m (λ_=>?_) (λh=>by cases h),by rw[<-f];simp,_,rfl];rw[<-hs];show AE (k:=.loc) (r:=(.loc,.str (pick Z b.2))) rfl B g (aF O au trivial (bb (k:=.own) Q)) aL hg (by rw[cK];lia) aq
   .rw[ϧ g]at m;have em:Z.map (c7 Z (d++[b]))=Z.map (c7 Z d):=tj λk hk=>by
     unfold c7;rw[sr,Ϧ (show ¬b.1=k from λz=>g (z▸hk))]
    show#[_,S Z (Z.map (c7 Z d)) o2 c,C,mK m (λh=>by cases h) (λ_=>aq),by rw[<-f];simp,c,by rw[em]]) rows [] (S Z (Z.map (c7 Z [])) o2 bD) ⟨rfl,bD,rfl⟩
 subst e;rw[hY]at v;have i:=iE (st:=[j,bD,o2,o3]) (cond:=pure b5) (elt:=ev Γ (.tup [.var 0,.bi .tuple [.var 1]])) (src:=[]) trivial (λk:Str=>U.str k) (λk=>c7 Z rows k) (λk=>A' (k,Lq Z rows k)) (λ_=>b5) Z [] (by simp;lia)
  (λy _=>#[bo,jd (aa (ae rfl) (aa (cA (aa (ae rfl) ag) trivial (r:=(.loc,.tup ((Lq Z rows y).map .str))) rfl) ag)) trivial (aK aL (aK aL aS)) (by change 2<=dt;lia)])
 rw[hY,NQ.mpr (λ_ _=>rfl)]at i;have ei:gP (Z,Z.map (c7 Z rows))=Z.map λk=>(Kd.loc,U.tup [.str k,c7 Z rows k]):=by
  have:∀l:List Str,(l.zip (l.map (c7 Z rows))).map (λp=>(Kd.loc,U.tup [.str p.1,p.2]))=l.map λk=>(Kd.loc,U.tup [.str k,c7 Z rows k]):=λl=>by
   induction l with
   |nil=>rfl
   |cons a l ih=>rw[eH,P7,eH,ih];rfl
  show this Z
 have ek:(bP Z rows).map A'=Z.map λk=>A' (k,Lq Z rows k):=by unfold bP;rw[fx];rfl
 rw[ek];have q:(Z.map U.str).map (λu=>(kE .own,u))=Z.map λw=>(Kd.loc,U.str w):=by rw[fx];rfl
 have e2:(rows.map A').map (λu=>(kE .loc,u))=rows.map λr=>(Kd.loc,A' r):=by rw[fx];rfl
 show aI rfl (.inl rfl) I (AA (cm (rs:=[(.own,.lst (Z.map .str))]) (st1:=S [] [] bD bD) (aa (aH (aa (ae rfl) ag) trivial H) ag) trivial (by change a0 (Tz (λu=>(kE .own,u)) _)=_;rw[q]) rfl s
  (cm (rs:=[(.loc,.tup (rows.map A'))]) (aa (ae rfl) ag) trivial (by change a0 (Tz (λu=>(kE .loc,u)) _)=_;rw[e2]) rfl v (F5 rfl (by rw[ei];show i)))))
end
end KK
namespace TM
open PySem L2 JB Od
section
theorem su:∀{l:List (Str×Nat)}{K:List Str},vS rs K l->∀t∈l,t.1∉K
 |[],_,_,_,h=>absurd h rz
 |s::l,K,h,t,ht=>by
  rcases fR.mp ht with rfl|ht
  .show h.1.1
  .show λz=>su h.2 t ht (hZ.mpr (.inl z))
theorem we:∀{l:List (Str×Nat)}{K a:List Str},vS rs K l->(∀x∈K,x∈a)->(∀s∈l,s.1∉a)->vS rs a l
 |[],_,_,_,_,_=>trivial
 |s::l,K,a,h,hk,b=>by
  have((i,r,e,f,g),c):=h;show#[#[b s (by simp),r,e,f,λx hx=>hk x (g x hx)],we c (λx hx=>?_) λt d hx=>?_]
  .rcases hZ.mp hx with hx|hx
   .show hZ.mpr (.inl (hk x hx))
   .show hZ.mpr (.inr hx)
  .rcases hZ.mp hx with hx|hx
   .show b t (by simp[d]) hx
   .show su c t d (hZ.mpr (.inr hx))
structure UpJ(ws:List Str)(rs:List Row)(w:Str)(bk:List (Str×Nat))(wn:List Str)(d q:List (Str×Nat)):Prop where
 sl:bk.Sublist d
 ks:iF ws wn
 vs:vS rs ((q.map (·.1)).filter λx=>df (x∈wn)) bk.reverse
 hd:(bk=[]/\wn=[w]/\w∉d.map (·.1))\/∃p l,bk=(w,p)::l
def C9(C:Bq ws rs)(D:vS rs [] g)(hl:g.length<=24)(N:w∈ws)(ho:Γ "order" [.tup (rs.map A')]=a0 (.ok (.own,.lst (g.map stN)))):
  ∃B:List (Str×Nat),bN Γ Sk [.tup (rs.map A'),.str w]=a0 (.ok (.own,.lst (B.map stN)))/\B.length<=24/\vS rs [] B/\((w∈g.map (·.1)/\∃p l,B=l++[(w,p)])\/(w∉g.map (·.1)/\B=[])):=by
 have hsz:(1000:Nat)<=dt:=by decide
 have O:=C.wl;have G:(g.reverse.map (·.1)).Nodup:=by rw[Kq];show(List.reverse_perm _).nodup_iff.mpr (by simpa using jk D .nil)
 have(st',n,i,bk,f,o4,o5,rfl,c):=b8 (rs:=[(.own,.lst (g.map stN))]) (t:=cb) (is:=[4]) (body:=execs Γ VB) (λs:Str×Nat=>(Kd.loc,stN s)) (λd q st=>d++q=g.reverse/\∃bk f o4 o5,st=d9 rs w bk f o4 o5/\UpJ ws rs w bk f d q)
  (λ_ _ _ _=>trivial) (λd y q st Q=>by
   have(i,bk,f,o4,o5,e,c):=Q;subst e;have es:g=q.reverse++y::d.reverse:=by rw[<-W7 g,<-i];simp
   have(r,o,T,Y):=qC (a:=q.reverse) (b:=d.reverse) (y:=y) (by rw[<-es];show D);have v:∀x∈r.2,x∈q.map (·.1):=λx hx=>by have:=Y x hx;rw[hY,Kq]at this;show Pr.mp this
   have Sl:r∈rs:=lg o;have Lf:d.length<24:=by have:=ϩ DD i;simp at this;lia
   have H:=c.sl.length_le;rw[<-i,nc,eH,ri]at G;have(_,n2,I):=G;have(n4,_):=p6.mp n2;have Wg:∀s∈bk.reverse,s.1∈d.map (·.1):=λs hs=>NP (c.sl.subset (Pr.mp hs));have m:Run (Jx Γ (.cmp .isin (.idx (.var 4) (.cst (.int 0))) (.var 3))) (d9 rs w bk f (a0 (.loc,stN y)) o5) (df (y.1∈f)) (d9 rs w bk f (a0 (.loc,stN y)) o5):=aX (x:=(.loc,.str y.1)) (aF (ae rfl) au trivial (bc rfl)) (aA rfl) ∅ jQ;show#[d9 rs w bk f (a0 (.loc,stN y)) o5,?_];by_cases j:y.1∈f
   .rw[Ϩ j]at m;have(LO,K8,n,k1,k2,k3):=wb (Γ:=Γ) (rs:=rs) (w:=w) (bk:=bk++[y]) (ts:=r.2) (o4:=a0 (.loc,stN y)) (o5:=o5) O c.ks (C.ok r Sl).2.2.1;show#[_,aO,cF m (jg (k:=.own) (k':=.own) (st1:=d9 rs w bk f (a0 (.loc,stN y)) o5) (st2:=d9 rs w bk f (a0 (.loc,stN y)) o5) rfl (ae rfl) aL rfl rfl (by rw[cK];lia) (cm (rs:=[(.loc,.tup (r.2.map .str))]) (st1:=d9 rs w (bk++[y]) f (a0 (.loc,stN y)) o5) ?_ trivial so rfl n aq)) aq,by rw[<-i];simp,bk++[y],LO,_,_,rfl,c.sl.append (TR _),k1,?_,?_]
    .have e:((bk.map stN)++[stN y]:List U)=(bk++[y]).map stN:=by simp
     have Lk:(rs.map A')[y.2]?=a0 (A' r):=by rw[i5,o];rfl
     change Run _ [a0 (.loc,.tup (rs.map A')),a0 (.loc,.str w),a0 (.own,.lst ((bk.map stN)++[stN y])),a0 (.own,jU f),a0 (.loc,stN y),o5] _ _;rw[e];show aa (aF (aF (ae rfl) (aF (ae rfl) au trivial (bc rfl)) trivial (bc (bQ Lk))) au trivial (bc rfl)) ag
    .rw[ġ];show#[#[λz=>n4 (oa.mp z).1,r,o,T,λx hx=>oa.mpr #[v x hx,Ϩ (k3 x hx)]],we c.vs (λx hx=>?_) λs hs hx=>?_]
     .have(a,b):=oa.mp hx;rw[eH]at a;rcases fR.mp a with a|a
      .show hZ.mpr (.inr (by rw[a];simp))
      .show hZ.mpr (.inl (oa.mpr #[a,Ϩ (k2 x (Ϫ b))]))
     .have J:=Wg s hs;rcases hZ.mp hx with hx|hx
      .show I _ J _ (nC _ (oa.mp hx).1) rfl
      .show I _ J _ k7 (by simpa using hx)
    .rcases c.hd with⟨rfl,rfl,_⟩|⟨p,l,rfl⟩
     .have Vx:y.1=w:=by simpa using j
      show .inr #[y.2,[],by rw[<-Vx];rfl]
     .show .inr #[p,l++[y],rfl]
   .rw[ϧ j]at m;show#[_,aO,aR m aq aq,by rw[<-i];simp,bk,f,_,_,rfl,c.sl.trans (ç _ _),c.ks,?_,?_]
    .have:=c.vs;rw[eH,vl,Ϧ (by simpa using j)]at this;show this
    .rcases c.hd with⟨rfl,rfl,A⟩|h
     .show .inl #[rfl,rfl,λz=>?_];rw[nc]at z;rcases hZ.mp z with z|z
      .show A z
      .show j (by simpa using(kj.mp z).symm)
     .show .inr h) g.reverse [] (d9 rs w [] [w] bD bD) ⟨rfl,[],[w],bD,bD,rfl,TR _,⟨by simp,by simpa using N⟩,trivial,.inl ⟨rfl,rfl,by simp⟩⟩
 have H:=c.sl.length_le;rw[hY,RX]at H;have L:=c.vs;rw[LV,OD]at L;show#[bk.reverse,aI rfl (.inl rfl) (gw 4) (aD (cj ag trivial aS (nH _)) aZ (aD (DO rfl) aZ (cm (rs:=[(.own,.lst (g.map stN))]) (st1:=d9 rs w [] [w] bD bD) (aa (aH (aa (ae rfl) ag) trivial ho) ag) trivial ?_ rfl n (bI (oF (aa (aA rfl) ag) ∅ ?_) d6)))),by rw[RX];lia,L,?_]
 .change a0 ((g.map stN).reverse.map λu=>(kE .own,u))=_;rw[<-Kq,fx];rfl
 .change(if fM (.bor 2) (bk.map stN)=b5 then a0 (Kd.own,U.lst (bk.map stN).reverse) else bD)=_;rw[ϥ (show fM (.bor 2) (bk.map stN)=b5 from rfl),Kq]
 .rcases c.hd with⟨rfl,_,A⟩|⟨p,l,rfl⟩
  .show .inr #[λz=>A ?_,rfl];rw[hY,Kq];show Pr.mpr z
  .show .inl #[?_,p,l.reverse,by simp];have:=c.sl.subset (k7 (a:=(w,p)) (l:=l));rw[hY]at this;show k8.mpr #[_,Pr.mp this,rfl]
end
section
def Kn.held(c:KL.Kn rs K):∀r∈rs,r.1∈KK.Kv rs K->∃x∈r.2,x∈KK.Kv rs K:=λr h hz=>by
 apply uk;intro d;show(KK.kX.mp hz).2 (c.cl r h λx b=>?_);apply uk;intro a;show d #[x,b,KK.kX.mpr #[dm.mpr #[r,h,.inr b],a]]
def wg(a:Bq ws rs)(K:List Str):(KK.Kv rs K).length<=24:=by
 have c:(KK.Kv rs K).length<=(av rs).length:=qb _ _;have d:=cS λr b=>(a.ok r b).ok;have:=a.wl;lia
def F6(L:KL.PQ Pg)(d:Jv Pg "words_of" mO)(e:Jv Pg "not_learnt" KK.wc)(hk:Jv Pg "knot" KK.AV)(n:Nat)(a:Bq ws rs)(c:KL.Kn rs K)(f:K.length<=24):Ji Pg (n+7) "knot" [.tup (rs.map A')]=a0 (.ok (.own,.lst ((KK.bP (KK.Kv rs K) rs).map A'))):=by
 have j:=cS λr b=>(a.ok r b).ok;have k:=a.wl;have l:=a.rl;have g:Ji Pg (n+5) "words_of" [.tup (rs.map A')]=a0 (.ok (.own,.lst ((av rs).map .str))):=(ay d _).trans (dP ⋯ (λr b=>(a.ok r b).ok) ⋯);have i:Ji Pg (n+6) "not_learnt" [.tup (rs.map A')]=a0 (.ok (.own,.lst ((KK.Kv rs K).map .str))):=(ay e _).trans (KK.mU ⋯ ⋯ g (KL.qy L n (λr b=>(a.ok r b).ok) a.wl ⋯ c));show(ay hk _).trans (KK.AW ⋯ (λr h=>(a.ok r h).2.2.2) (KK.oV _ _) (by have:=wg a K;lia) (Kn.held c) i)
inductive Nv(rs:List Row)(w o:Str):U->Prop
 |free {B l:List (Str×Nat)} {p:Nat}:vS (wo rs o) [] B->B.length<=24->B=l++[(w,p)]->Nv rs w o (.tup [.str "free",.lst (B.map stN)])
 |O7 {K:List Str}:KL.Kn (wo rs o) K->w∈KK.Kv (wo rs o) K->Nv rs w o (.tup [.str "must",.lst ((KK.bP (KK.Kv (wo rs o) K) (wo rs o)).map A')])
def AX(h:JY 50 (.lst us)=b5):bC .eq (.lst us) (.lst [])=a0 us.isEmpty:=by
 simp only[bC];rw[ϥ #[h,by simp[JY,cZ]]];cases us with
 |_=>simp[b9,cI]
def yb{rs:List Row}(n:Nat):start [.tup (rs.map A'),.str w,.str o] (n+3)=a0 (.loc,.tup (rs.map A'))::a0 (.loc,.str w)::a0 (.loc,.str o)::lx n bD:=by
 change a0 (if Jy (.tup (rs.map A'))=b5 then Kd.loc else Kd.any,U.tup (rs.map A'))::a0 (Kd.loc,U.str w)::a0 (Kd.loc,U.str o)::lx (n+3 - 3) bD=_;rw[dr];rfl
end
end TM
namespace TM
open PySem L2 JB
section
variable{α:Type}[DecidableEq α]{c:α->Int}
theorem gN:∀{ks:List α},x∈ks->(ks.map c).sum=c x+((ks.erase x).map c).sum
 |k::ks,h=>by
  by_cases e:k=x
  .subst e;simp
  .rw[List.erase_cons_tail (by simp[e]),eH,eH,Qx,Qx,gN ((fR.mp h).resolve_left λz=>e z.symm)];lia
theorem qD:∀{ks:List α},(∀k∈ks,0<=c k)->0<=(ks.map c).sum
 |[],_=>by simp
 |k::ks,h=>by
  have b:=h k (by simp);have d:=qD (ks:=ks) λy a=>h y (by simp[a]);rw[eH,Qx];lia
theorem wj:∀{ts ks:List α},ts.Nodup->(∀x∈ts,x∈ks)->(∀k∈ks,0<=c k)->(ts.map c).sum<=(ks.map c).sum
 |[],ks,_,_,h=>by simpa using qD h
 |x::ts,ks,a,hs,h=>by
  rw[p6]at a;have d:=wj (ts:=ts) (ks:=ks.erase x) a.2 (λy b=>(Xg (λe=>a.1 (by subst e;show b))).mpr (hs y (by simp[b]))) λk hk=>h k (List.mem_of_mem_erase hk);rw[gN (hs x (by simp)),eH,Qx];lia
abbrev upd(c:α->Int)(x:α)(p:Int):α->Int:=λk=>if k=x then p else c k
def wm{ks:List α}(h:x∉ks):(ks.map (upd c x p)).sum=(ks.map c).sum:=by
 congr 1
 show tj λk hk=>?_;unfold upd;rw[Ϧ (λe:k=x=>h (e▸hk))]
def C_{ks:List α}(a:ks.Nodup)(h:x∈ks):(ks.map (upd c x p)).sum+c x=(ks.map c).sum+p:=by
 rw[gN (c:=upd c x p) h,gN (c:=c) h,wm a.not_mem_erase];unfold upd;rw[ϥ rfl];lia
end
@[reducible]def Kw:=List Str×(Str->Int)
abbrev J2(s:Kw)(r:Row):Int:=1+(r.2.map s.2).sum
abbrev may(s:Kw)(r:Row):Bool:=r.2.all λx=>df (x∈s.1)
abbrev Lv(s:Kw)(r:Row):Bool:=!df (r.1∈s.1)||decide (J2 s r<s.2 r.1)
abbrev Ls(s:Kw)(r:Row):Kw:=if (may s r&&Lv s r)=b5 then(dq s.1 r.1,upd s.2 r.1 (J2 s r)) else s
abbrev KZ:List Row->Kw×Bool->Kw×Bool
 |[],s=>s
 |r::rs,(s,b)=>KZ rs (Ls s r,b||(may s r&&Lv s r))
abbrev lim(rs:List Row):Nat->Kw->Kw
 |0,s=>s
 |n+1,s=>if (KZ rs (s,cb)).2=b5 then lim rs n (KZ rs (s,cb)).1 else(KZ rs (s,cb)).1
abbrev jo(ws:List Str)(s:Kw):Prop:=iF ws s.1/\(∀k∈s.1,1<=s.2 k)/\(s.1.map s.2).sum<2 ^ s.1.length
abbrev mu(s:Kw):Int:=(24 - (s.1.length:Nat)) * 2 ^ 24+(s.1.map s.2).sum
def AY(a:ws.length<=24)(h:jo ws s):0<=mu s:=by
 have b:=h.1.len;have d:=qD (c:=s.2) (ks:=s.1) λk hk=>by have:=h.2.1 k hk;lia
 unfold mu;lia
def wq(C:ws.length<=24)(h:jo ws s)(i:cC ws r):jo ws (Ls s r)/\mu (Ls s r)<=mu s/\((may s r&&Lv s r)=b5->mu (Ls s r)<mu s):=by
 unfold Ls;split
 .rename_i d;rw[du]at d;have(u,j):=d;have(hk,l,hs):=h;have m:∀x∈r.2,x∈s.1:=λx a=>by have:=oT.mp u x a;simpa using this
  have n:∀k∈s.1,0<=s.2 k:=λk hk=>by have:=l k hk;lia
  have D:J2 s r<=1+(s.1.map s.2).sum:=by
   have:=wj (c:=s.2) i.2.1 m n;unfold J2;lia
  have v:1<=J2 s r:=by
   have:=qD (c:=s.2) (ks:=r.2) λk hk=>n k (m k hk);unfold J2;lia
  have b:=hk.ins i.1;have f:∀k∈dq s.1 r.1,1<=upd s.2 r.1 (J2 s r) k:=λk hk=>by
   unfold upd;split
   .show v
   .rename_i w;show l k ((cN.mp hk).resolve_right w)
  have o:=b.len;by_cases a:r.1∈s.1
  .have e:dq s.1 r.1=s.1:=by unfold dq;rw[ϥ a]
   have G:J2 s r<s.2 r.1:=by
    unfold Lv at j;simpa[a] using j
   have g:=C_ (c:=s.2) (p:=J2 s r) hk.1 a;rw[e]at b f ⊢;have q:(s.1.map (upd s.2 r.1 (J2 s r))).sum<(s.1.map s.2).sum:=by lia
   show#[#[b,f,by change(s.1.map (upd s.2 r.1 (J2 s r))).sum<2 ^ s.1.length;lia],?_,λ_=>?_]<;>(unfold mu;dsimp only;lia)
  .have e:dq s.1 r.1=s.1++[r.1]:=by unfold dq;rw[Ϧ a]
   have g:((s.1++[r.1]).map (upd s.2 r.1 (J2 s r))).sum=(s.1.map s.2).sum+J2 s r:=by
    rw[nc,À,wm a,Yn,ĭ];unfold upd;rw[ϥ rfl]
   rw[e]at b f o ⊢;rw[ke,wh]at o;have y:(2:Int) ^ (s.1.length+1)=2 * 2 ^ s.1.length:=by rw[Int.pow_succ];lia
   have A:(2:Int) ^ s.1.length<=2 ^ 23:=by
    have B:(2:Nat) ^ s.1.length<=2 ^ 23:=Nat.pow_le_pow_right ⋯ ⋯;have t:=Int.ofNat_le.mpr B;rw[ŷ,ŷ]at t;show t
   show#[#[b,f,?_],?_,λ_=>?_]
   .change((s.1++[r.1]).map (upd s.2 r.1 (J2 s r))).sum<2 ^ (s.1++[r.1]).length;rw[g,ke,wh,y];lia
   .unfold mu
    dsimp only
    rw[g,ke,wh];lia
   .unfold mu
    dsimp only
    rw[g,ke,wh];lia
 .rename_i d;show#[h,X0 _,λz=>absurd z d]
theorem kY(a:ws.length<=24):∀(rs:List Row) (s:Kw) (b:Bool),(∀r∈rs,cC ws r)->jo ws s->jo ws (KZ rs (s,b)).1/\mu (KZ rs (s,b)).1<=mu s/\((KZ rs (s,b)).2=b5->b=b5\/mu (KZ rs (s,b)).1<mu s)
 |[],s,b,_,h=>#[h,X0 _,.inl]
 |r::rs,s,b,c,h=>by
  have(f,d,g):=wq a h (c r (by simp));have(b1,e,b3):=kY a rs (Ls s r) (b||(may s r&&Lv s r)) (λy i=>c y (by simp[i])) f;show#[b1,ċ e d,λz=>?_];rcases b3 z with z|z
  .rw[Sn]at z;rcases z with z|z
   .show .inl z
   .show .inr (Int.lt_of_le_of_lt e (g z))
  .show .inr (Int.lt_of_lt_of_le z d)
theorem kZ(a:ws.length<=24)(b:∀r∈rs,cC ws r):∀(n:Nat) (s:Kw),jo ws s->jo ws (lim rs n s)
 |0,s,h=>h
 |n+1,s,h=>by
  unfold lim;have:=(kY a rs s cb b h).1;split
  .show kZ a b n _ this
  .show this
def Dc{ss:List Str}:KQ .seq [(k,.tup (ss.map .str))]=a0 (ss.map λx=>(kE k,U.str x)):=by
 change a0 ((ss.map U.str).map λu=>(kE k,u))=_;rw[fx];rfl
theorem wt(f:α->Int):∀(ns:List α),intsOf (ns.map λa=>U.int (f a))=a0 (ns.map f)
 |[]=>rfl
 |n::ns=>by change(intsOf (ns.map λa=>U.int (f a))).map _=_;rw[wt f ns];rfl
def sum_ints(f:α->Int)(l:List α):KG .sum [(k,.lst (l.map λa=>U.int (f a)))]=a0 (.loc,.int (l.map f).sum):=by
 change(intsOf (l.map λa=>U.int (f a))).map _=_;rw[wt];rfl
abbrev s0:Kw:=([],λ_=>0)
def mV(ws:List Str):jo ws s0:=#[#[U7,λx h=>(by cases h)],λk h=>(by cases h),by decide]
abbrev wu:Fn:=#["row_price",2,2,[.ret (.bin .add (.cst (.int 1)) (.bi .sum [.comp 1 cb .seq [.idx (.var 0) (.cst (.int 1))] [] (.idx (.idx (.var 2) (.var 0)) (.cst (.int 0)))]))]]
noncomputable def AZ : List S :=
        [.ite (.bi .all [.comp 1 cb .seq [.idx (.var 4) (.cst (.int 1))] [] (.cmp .isin (.var 0) (.var 2))])
          [.set 5 (.call "row_price" [.var 4,.var 1]),
          .ite (.or [.cmp .Je (.idx (.var 4) (.cst (.int 0))) (.var 1),.cmp .lt (.var 5) (.idx (.idx (.var 1) (.idx (.var 4) (.cst (.int 0)))) (.cst (.int 0)))])
            [.put 1 (.idx (.var 4) (.cst (.int 0))) (.tup [.var 5,.var 3]),
            .set 2 (.cst (.bl true))]
            []]
          []]
abbrev A0:List S :=
   [.set 2 (.cst (.bl cb)),
   .Jw b5 [3,4] .Nj [(.var 0)] AZ]
abbrev Dd:Fn:=#["prices_and_places",1,6,[.set 1 (.KD cb),.set 2 (.cst (.bl b5)),.Nn (.var 2) A0,.ret (.var 1)]]
abbrev pD(s:Kw)(pl:Str->Int):U:=.Jc s.1 (s.1.map λk=>.tup [.int (s.2 k),.int (pl k)])
abbrev jW(Γ:Tab):Prop:=∀(s:Kw) (pl:Str->Int) (r:Row),(∀x∈r.2,x∈s.1)->r.2.length<=8->Γ "row_price" [A' r,pD s pl]=a0 (.ok (.loc,.int (J2 s r)))
def A1(b:∀x∈r.2,x∈s.1)(e:r.2.length<=8):bN Γ wu [A' r,pD s pl]=a0 (.ok (.loc,.int (J2 s r))):=by
 have c:(1000:Nat)<=dt:=by decide
 have a:=di (cond:=aN Γ []) (elt:=ev Γ (.idx (.idx (.var 2) (.var 0)) (.cst (.int 0)))) (src:=[(.loc,.tup (r.2.map .str))]) (st:=[a0 (.loc,A' r),a0 (.any,pD s pl)]) trivial .loc (.inl rfl) U.str (λx=>.int (s.2 x)) .any (λ_=>dC) r.2 [] (by simp;lia)
  (λy d=>#[aF (x:=(.any,.tup [.int (s.2 y),.int (pl y)])) (aF (aQ rfl) (ae rfl) trivial (by change(cJ s.1 (s.1.map λk=>U.tup [.int (s.2 k),.int (pl k)]) y).map _=_;rw[gu (b y d)];rfl)) au trivial rfl,je rfl])
 rw[hY]at a;show aI (st0:=[a0 (.loc,A' r),a0 (.any,pD s pl)]) rfl (.inr rfl) ?_ (bI (fI au (cA (aa (br (rs:=[(.loc,.tup (r.2.map .str))]) (aa (aF (ae rfl) au trivial rfl) ag) trivial Dc a) ag) trivial (sum_ints _ _)) trivial ib) eD);change [a0 (if Jy (A' r)=b5 then Kd.loc else Kd.any,A' r),a0 (if Jy (pD s pl)=b5 then Kd.loc else Kd.any,pD s pl)]=_;rw[ϥ (vW r),Ϧ (by change ¬(cb=b5);decide)]
def uD(h:Jv Pg "row_price" wu):jW (Ji Pg (d+1)):=λs pl r a b=>by
 rw[ay h];show A1 a b
abbrev K9(rs:List Row)(s:Kw)(pl:Str->Int):Prop:=∀k∈s.1,∃(i:Nat) (r:Row),pl k=(i:Int)/\rs[i]?=a0 r/\r.1=k/\(∀x∈r.2,x∈s.1)/\J2 s r<=s.2 k
theorem A2{c a:α->Int}:∀{ts:List α},(∀x∈ts,a x<=c x)->(ts.map a).sum<=(ts.map c).sum
 |[],_=>X0 _
 |x::ts,h=>by
  have d:=h x (by simp);have e:=A2 (ts:=ts) λy b=>h y (by simp[b]);rw[eH,eH,Qx,Qx];lia
def K9.step{i:Nat}(h:K9 rs s pl)(g:rs[i]?=a0 r)(l:may s r=b5)(b:Lv s r=b5):K9 rs (dq s.1 r.1,upd s.2 r.1 (J2 s r)) (upd pl r.1 (i:Int)):=by
 have c:∀x∈r.2,x∈s.1:=λx a=>by have:=oT.mp l x a;simpa using this
 have m:∀x∈s.1,upd s.2 r.1 (J2 s r) x<=s.2 x:=λx a=>by
  unfold upd;split
  .rename_i e;subst e;unfold Lv at b;have:J2 s r<s.2 r.1:=by simpa[a] using b
   lia
  .show X0 _
 have d:∀q:Row,(∀x∈q.2,x∈s.1)->J2 (dq s.1 r.1,upd s.2 r.1 (J2 s r)) q<=J2 s q:=λq n=>by
  have:=A2 (ts:=q.2) λx a=>m x (n x a);unfold J2 at this ⊢
  dsimp only
  lia
 intro k hk;by_cases e:k=r.1
 .subst e;show#[i,r,by unfold upd;rw[ϥ rfl],g,rfl,λx a=>cN.mpr (.inl (c x a)),ċ (d r c) ?_];change J2 s r<=upd s.2 r.1 (J2 s r) r.1;unfold upd;rw[ϥ rfl];show X0 _
 .have(j,q,o,p,t,f,u):=h k ((cN.mp hk).resolve_right e);show#[j,q,by unfold upd;rw[Ϧ e];show o,p,t,λx a=>cN.mpr (.inl (f x a)),ċ (d q f) ?_];change J2 s q<=upd s.2 r.1 (J2 s r) k;unfold upd;rw[Ϧ e];show u
def K9.start(rs:List Row)(pl:Str->Int):K9 rs s0 pl:=λk hk=>by cases hk
abbrev jq(rs:List Row)(s:Kw)(pl:Str->Int)(b:Bool)(o3 o4 o5:Option (Kd×U)):aB:=[a0 (.loc,.tup (rs.map A')),a0 (.own,pD s pl),a0 (.loc,.bl b),o3,o4,o5]
def De(o:jW Γ){n:Nat}(G:ws.length<=24)(hs:jo ws s)(q:cC ws r)(t:rs[n]?=a0 r)(f:K9 rs s pl):
  ∃l u,Run (execs Γ AZ) (jq rs s pl b (a0 (.loc,.int (n:Int))) (a0 (.loc,A' r)) o5) .nx (jq rs (Ls s r) l (b||(may s r&&Lv s r)) (a0 (.loc,.int (n:Int))) (a0 (.loc,A' r)) u)/\K9 rs (Ls s r) l:=by
 generalize g:(n:Int)=p;have v:(1000:Nat)<=dt:=by decide
 have z:=q.2.2.2;have hl:=hs.1.len;have h:iw (.loc,A' r) (.int 0)=a0 (.loc,.str r.1):=rfl;have A:iw (.loc,A' r) (.int 1)=a0 (.loc,.tup (r.2.map .str)):=rfl;have a:=jO (oQ (Γ:=Γ) (st:=jq rs s pl b (a0 (.loc,.int p)) (a0 (.loc,A' r)) o5) (src:=.idx (.var 4) (.cst (.int 1))) (j:=1) (told:=r.2) (known:=s.1) (k:=.loc) (w:=pD s pl) (.inl rfl) ⋯ (aF (ae rfl) au trivial A) (.inr rfl) λx=>jQ);unfold Ls;cases c:may s r with
 |false =>
  rw[show(r.2.all λx=>df (x∈s.1))=cb from c]at a;rw[Ϧ (by simp),Ú,V_];show#[pl,o5,aR a aq aq,f]
 |true =>
  rw[show(r.2.all λx=>df (x∈s.1))=b5 from c]at a;have B:∀x∈r.2,x∈s.1:=λx C=>by have:=oT.mp c x C;simpa using this
  have m:Run (ev Γ (.call "row_price" [.var 4,.var 1])) (jq rs s pl b (a0 (.loc,.int p)) (a0 (.loc,A' r)) o5) (.loc,.int (J2 s r)) (jq rs s pl b (a0 (.loc,.int p)) (a0 (.loc,A' r)) o5):=aH (aa (ae rfl) (aa (aA rfl) ag)) ∅ (o s pl r B z);have d:Run (Jx Γ (.or [.cmp .Je (.idx (.var 4) (.cst (.int 0))) (.var 1),.cmp .lt (.var 5) (.idx (.idx (.var 1) (.idx (.var 4) (.cst (.int 0)))) (.cst (.int 0)))])) (jq rs s pl b (a0 (.loc,.int p)) (a0 (.loc,A' r)) (a0 (.loc,.int (J2 s r)))) (Lv s r) (jq rs s pl b (a0 (.loc,.int p)) (a0 (.loc,A' r)) (a0 (.loc,.int (J2 s r)))) :=
   xQ (HG (aX (aF (ae rfl) au trivial h) (aA rfl) ∅ gM) λD=>oH (aX (y:=(.loc,.int (s.2 r.1))) (ae rfl) (aF (x:=(.loc,.tup [.int (s.2 r.1),.int (pl r.1)])) (aF (aA rfl) (aF (ae rfl) au trivial h) ∅ (by change(cJ s.1 (s.1.map λk=>U.tup [.int (s.2 k),.int (pl k)]) r.1).map _=_;rw[gu (by simpa using D)];rfl)) au trivial rfl) trivial (vU rfl)))
  cases i:Lv s r with
  |false =>
   rw[i]at d;rw[Ϧ (by simp),U_,V_];show#[pl,_,cF a (aD m aO (aR d aq aq)) aq,f]
  |true =>
   rw[i]at d;rw[ϥ (by simp),Yl,Bool.or_true];have e:dG (.str r.1) (.tup [.int (J2 s r),.int p]) (pD s pl)=a0 (pD (dq s.1 r.1,upd s.2 r.1 (J2 s r)) (upd pl r.1 p)):=by
    unfold pD;rw[v_ ⋯];congr 3
    funext k
    change _=U.tup [.int (upd s.2 r.1 (J2 s r) k),.int (upd pl r.1 p k)];unfold upd;split<;>rfl
   show#[upd pl r.1 p,a0 (.loc,.int (J2 s r)),cF a (aD m aO (cF d (mJ (k:=.own) (k':=.own) (jd (aa (ae rfl) (aa (ae rfl) ag)) trivial (aK aL (aK aL aS)) (by change 2<=dt;lia)) rfl (aF (ae rfl) au trivial h) (aK aL (aK aL aS)) rfl rfl e (aD au aO aq)) aq)) aq,g▸f.step t c i]
def Df{rs:List Row}:KQ .Nj [(.loc,.tup (rs.map A'))]=a0 (rs.zipIdx.map λp:Row×Nat=>(Kd.loc,U.tup [.int (p.2:Nat),A' p.1])):=by
 change a0 ((rs.map A').zipIdx.map λp=>(kE .loc,U.tup [.int p.2,p.1]))=_;rw[ŧ,fx];rfl
theorem wx(l:jW Γ)(f:ws.length<=24):∀(e:List Row) (n:Nat) (s:Kw) (pl:Str->Int) (b:Bool) (o3 o4 o5:Option (Kd×U)),(∀r∈e,cC ws r)->(∀(i:Nat) (r:Row),e[i]?=a0 r->rs[n+i]?=a0 r)->jo ws s->K9 rs s pl ->
  ∃m t u g,Run (forM b5 [3,4] (execs Γ AZ) [(.loc,.tup (rs.map A'))] ((e.zipIdx n).map λp:Row×Nat=>(Kd.loc,U.tup [.int (p.2:Nat),A' p.1]))) (jq rs s pl b o3 o4 o5) .nx (jq rs (KZ e (s,b)).1 m (KZ e (s,b)).2 t u g)/\K9 rs (KZ e (s,b)).1 m
 |[],n,s,pl,b,o3,o4,o5,_,_,_,h=>#[pl,o3,o4,o5,Af trivial,h]
 |r::e,n,s,pl,b,o3,o4,o5,j,o,hs,h=>by
  have(v,g,q,w):=De l (rs:=rs) (pl:=pl) (b:=b) (n:=n) (o5:=o5) f hs (j r (by simp)) (by simpa using o 0 r rfl) h;have(x,a,c,d,z,A):=wx l f e (n+1) (Ls s r) v (b||(may s r&&Lv s r)) (a0 (.loc,.int (n:Int))) (a0 (.loc,A' r)) g (λy k=>j y (by simp[k])) (λi y k=>by rw[Nat.add_assoc,Nat.add_comm 1 i];show o (i+1) y (by simpa using k)) (wq f hs (j r (by simp))).1 w;show#[x,a,c,d,FQ trivial (jl (.inl rfl)) q z,A]
theorem wy(m:jW Γ)(b:ws.length<=24)(j:∀r∈rs,cC ws r):∀(f:Nat) (s:Kw) (pl:Str->Int) (o3 o4 o5:Option (Kd×U)),jo ws s->K9 rs s pl->mu s+1<f ->
  ∃n p t u,Run (f_ (Jx Γ (.var 2)) (execs Γ A0) f) (jq rs s pl b5 o3 o4 o5) .nx (jq rs (lim rs f s) n cb p t u)/\K9 rs (lim rs f s) n
 |0,s,_,_,_,_,hs,_,v=>by have:=AY b hs;lia
 |f+1,s,pl,o3,o4,o5,hs,w,v=>by
  have(k,a,c,d,q,o):=wx m (rs:=rs) b rs 0 s pl cb o3 o4 o5 j (λi r h=>by rw[Rt];show h) hs w;have(x,D,y):=kY b rs s cb j hs;have e:Run (execs Γ A0) (jq rs s pl b5 o3 o4 o5) .nx (jq rs (KZ rs (s,cb)).1 k (KZ rs (s,cb)).2 a c d):=aD au aO (cm (rs:=[(.loc,.tup (rs.map A'))]) (aa (ae rfl) ag) trivial Df rfl q aq);unfold lim;have m0:=AY b hs;cases l:(KZ rs (s,cb)).2 with
  |true =>
   rw[l]at e;rw[ϥ rfl];have G:=(y l).resolve_left (by simp);have(z,a',A,d',B,C):=wy m b j f (KZ rs (s,cb)).1 k a c d x o ⋯;show#[z,a',A,d',uu (jT rfl) e B,C]
  |false =>
   rw[l]at e;rw[Ϧ (by simp)];obtain⟨f,rfl⟩:∃g,f=g+1:=#[f - 1,⋯]
   show#[k,a,c,d,uu (jT rfl) e (vZ (jT rfl)),o]
abbrev sv(Γ:Tab):Prop:=∀(ws:List Str) (rs:List Row),ws.length<=24->(∀r∈rs,cC ws r)->∃pl,Γ "prices_and_places" [.tup (rs.map A')]=a0 (.ok (.own,pD (lim rs fuel s0) pl))/\K9 rs (lim rs fuel s0) pl
def Dg(b:jW Γ)(e:ws.length<=24)(f:∀r∈rs,cC ws r):∃pl,bN Γ Dd [.tup (rs.map A')]=a0 (.ok (.own,pD (lim rs fuel s0) pl))/\K9 rs (lim rs fuel s0) pl:=by
 have(pl,a,c,d,q,g):=wy b e f fuel s0 (λ_=>0) bD bD bD (mV ws) (K9.start rs _) (by unfold fuel;decide);show#[pl,aI (st0:=[a0 (.loc,.tup (rs.map A')),bD,bD,bD,bD,bD]) rfl (.inl rfl) ?_ (aD (jJ) aZ (aD (st2:=jq rs s0 (λ_=>0) b5 bD bD bD) au aO (v5 q (bI (aA rfl) (oI rfl))))),g];change [a0 (if Jy (.tup (rs.map A'))=b5 then Kd.loc else Kd.any,U.tup (rs.map A')),bD,bD,bD,bD,bD]=_;rw[ϥ (by change dZ (rs.map A')=b5;show a_ rs)]
def A3(a:jW (Ji Pg d))(h:Jv Pg "prices_and_places" Dd):sv (Ji Pg (d+1)):=λws rs b c=>by
 have(pl,e,f):=Dg a b c;show#[pl,by rw[ay h];show e,f]
abbrev k_:Fn:=#["prices",1,1,[.ret (.bi .sorted [.comp 2 b5 .Pw [.call "prices_and_places" [.var 0]] [] (.tup [.var 0,.idx (.var 1) (.cst (.int 0))])])]]
abbrev Lg(c:Str->Int)(x:Str):U:=.tup [.str x,.int (c x)]
theorem wz(c:Str->Int):∀ks:List Str,om (ks.map (Lg c))=a0 ks
 |[]=>rfl
 |k::ks=>by
  change(om (ks.map (Lg c))).map _=_;rw[wz c ks];rfl
def wA(c:Str->Int)(hl:ks.length<64)(a:ks.Nodup):∃b:List Str,b.Perm ks/\KG .sorted [(.own,.lst (ks.map (Lg c)))]=a0 (.own,.lst (b.map (Lg c))):=by
 cases ks with
 |nil =>
  have e:aC []=[]:=Μ.mp (aY []);show#[[],OO _,?_];change(if ([]:List Str).length<64 then a0 (Kd.own,U.lst ((aC []).map U.str)) else bD)=_;rw[e];rfl
 |cons f g =>
  generalize h:f::g=ks at hl a;have e:(hH ks.length).map (λi=>ks.getD i vr)=ks:=by
   apply Om
   .simp
   .intro i n j;simp[M0,j]
  have d:=(cw ks).map λi=>ks.getD i vr;rw[e]at d;show#[_,d,?_];have k:strsOf (ks.map (Lg c))=bD:=by subst h;rfl
  change xw .own (ks.map (Lg c))=_;unfold xw;rw[k];change B0 .own (ks.map (Lg c))=_;unfold B0;rw[wz];change(if _ then _ else _)=_;rw[ϥ #[hl,a,rfl],fx];congr 3
  apply tj;intro i l;have m:i<ks.length:=Jl.mp ((cw _).mem_iff.mp l);simp[M0,m]
def wB:KQ .Pw [(.own,pD s pl)]=a0 (s.1.map λk=>(Kd.loc,U.tup [.str k,.tup [.int (s.2 k),.int (pl k)]])):=by
 change a0 (gP (s.1,s.1.map λk=>U.tup [.int (s.2 k),.int (pl k)]))=_;unfold gP;congr 1
 dsimp only
 generalize s.1=l;induction l with
 |nil=>rfl
 |cons k l a=>rw[eH,P7,eH,a,eH]
abbrev wC(Γ:Tab):Prop:=∀(ws:List Str) (rs:List Row),ws.length<=24->(∀r∈rs,cC ws r)->∃ks:List Str,ks.Perm (lim rs fuel s0).1/\Γ "prices" [.tup (rs.map A')]=a0 (.ok (.own,.lst (ks.map (Lg (lim rs fuel s0).2))))
def sy(f:sv Γ)(b:ws.length<=24)(c:∀r∈rs,cC ws r):∃ks:List Str,ks.Perm (lim rs fuel s0).1/\bN Γ k_ [.tup (rs.map A')]=a0 (.ok (.own,.lst (ks.map (Lg (lim rs fuel s0).2)))):=by
 have g:(1000:Nat)<=dt:=by decide
 have(pl,e,_):=f ws rs b c;have a:=kZ b c fuel s0 (mV ws);generalize lim rs fuel s0=s at e a;have hl:=a.1.len;have d:=iE (st:=[a0 (.loc,.tup (rs.map A'))]) (cond:=aN Γ []) (elt:=ev Γ (.tup [.var 0,.idx (.var 1) (.cst (.int 0))])) (src:=[(.own,pD s pl)]) trivial (λk:Str=>U.str k) (λk=>.tup [.int (s.2 k),.int (pl k)]) (Lg s.2) (λ_=>b5) s.1 [] (by simp;lia)
  (λy _=>#[dC,jd (aa (ae rfl) (aa (aF (ae rfl) au trivial rfl) ag)) trivial (aK aL (aK aL aS)) (by change 2<=dt;lia)])
 rw[hY,show s.1.filter (λ_=>b5)=s.1 from NQ.mpr λ_ _=>rfl]at d;have(ks,h,es):=wA s.2 (ks:=s.1) ⋯ a.1.1;show#[ks,h,aI (st0:=[a0 (.loc,.tup (rs.map A'))]) rfl (.inl rfl) ?_ (bI (cA (aa (br (rs:=[(.own,pD s pl)]) (aa (aH (aa (ae rfl) ag) trivial e) ag) trivial wB d) ag) trivial es) d6)];change [a0 (if Jy (.tup (rs.map A'))=b5 then Kd.loc else Kd.any,U.tup (rs.map A'))]=_;rw[ϥ (by change dZ (rs.map A')=b5;show a_ rs)]
def wD(a:sv (Ji Pg d))(h:Jv Pg "prices" k_):wC (Ji Pg (d+1)):=λws rs b c=>by
 have(ks,f,e):=sy a b c;show#[ks,f,by rw[ay h];show e]
abbrev PU(rs:List Row)(s:Kw):Prop:=∀r∈rs,(may s r&&Lv s r)=cb
theorem wF:∀(rs:List Row) (s:Kw) (b:Bool),(KZ rs (s,b)).2=cb->b=cb/\PU rs s/\(KZ rs (s,b)).1=s
 |[],s,b,h=>#[h,λr d=>(by cases d),rfl]
 |r::rs,s,b,h=>by
  have(f,a,g):=wF rs (Ls s r) (b||(may s r&&Lv s r)) h;have(i,c):=ę.mp f;have e:Ls s r=s:=by unfold Ls;rw[Ϧ (by simp[c])]
  rw[e]at a;show#[i,λq hq=>?_,?_]
  .rcases fR.mp hq with rfl|hq
   .show c
   .show a q hq
  .change(KZ rs (Ls s r,b||(may s r&&Lv s r))).1=s;rw[g,e]
theorem wG(a:ws.length<=24)(b:∀r∈rs,cC ws r):∀(n:Nat) (s:Kw),jo ws s->mu s+1<n->PU rs (lim rs n s)
 |0,s,h,d=>by have:=AY a h;lia
 |n+1,s,h,d=>by
  have(e,j,f):=kY a rs s cb b h;unfold lim;cases c:(KZ rs (s,cb)).2 with
  |true =>
   rw[ϥ rfl];have:=(f c).resolve_left (by simp);show wG a b n _ e ⋯
  |false =>
   rw[Ϧ (by simp)];have(_,g,i):=wF rs s cb c;rw[i];show g
def K9.best(h:K9 rs s pl)(hs:PU rs s)(hk:k∈s.1):∃(i:Nat) (r:Row),pl k=(i:Int)/\rs[i]?=a0 r/\r.1=k/\(∀x∈r.2,x∈s.1)/\s.2 k=J2 s r:=by
 have(i,r,e,b,c,d,f):=h k hk;show#[i,r,e,b,c,d,Int.le_antisymm ?_ f];have a:=hs r (lg b);have g:may s r=b5:=oT.mpr λx j=>by simpa using d x j
 rw[g,Ν]at a;unfold Lv at a;rw[c]at a;simp[hk]at a;show a
abbrev qE:Fn:=#["best_rows",1,1,[.ret (.bi .sorted [.comp 2 b5 .Pw [.call "prices_and_places" [.var 0]] [] (.tup [.var 0,.idx (.var 1) (.cst (.int 1))])])]]
abbrev A4(Γ:Tab):Prop:=∀(ws:List Str) (rs:List Row),ws.length<=24->(∀r∈rs,cC ws r)->∃(pl:Str->Int) (ks:List Str),ks.Perm (lim rs fuel s0).1/\Γ "best_rows" [.tup (rs.map A')]=a0 (.ok (.own,.lst (ks.map (Lg pl))))/\K9 rs (lim rs fuel s0) pl
def uE(g:sv Γ)(b:ws.length<=24)(c:∀r∈rs,cC ws r):∃(pl:Str->Int) (ks:List Str),ks.Perm (lim rs fuel s0).1/\bN Γ qE [.tup (rs.map A')]=a0 (.ok (.own,.lst (ks.map (Lg pl))))/\K9 rs (lim rs fuel s0) pl:=by
 have h:(1000:Nat)<=dt:=by decide
 have(pl,e,d):=g ws rs b c;have a:=kZ b c fuel s0 (mV ws);generalize lim rs fuel s0=s at e a d ⊢;have hl:=a.1.len;have f:=iE (st:=[a0 (.loc,.tup (rs.map A'))]) (cond:=aN Γ []) (elt:=ev Γ (.tup [.var 0,.idx (.var 1) (.cst (.int 1))])) (src:=[(.own,pD s pl)]) trivial (λk:Str=>U.str k) (λk=>.tup [.int (s.2 k),.int (pl k)]) (Lg pl) (λ_=>b5) s.1 [] (by simp;lia)
  (λy _=>#[dC,jd (aa (ae rfl) (aa (aF (ae rfl) au trivial rfl) ag)) trivial (aK aL (aK aL aS)) (by change 2<=dt;lia)])
 rw[hY,show s.1.filter (λ_=>b5)=s.1 from NQ.mpr λ_ _=>rfl]at f;have(ks,i,es):=wA pl (ks:=s.1) ⋯ a.1.1;show#[pl,ks,i,aI (st0:=[a0 (.loc,.tup (rs.map A'))]) rfl (.inl rfl) ?_ (bI (cA (aa (br (rs:=[(.own,pD s pl)]) (aa (aH (aa (ae rfl) ag) trivial e) ag) trivial wB f) ag) trivial es) d6),d];change [a0 (if Jy (.tup (rs.map A'))=b5 then Kd.loc else Kd.any,U.tup (rs.map A'))]=_;rw[ϥ (by change dZ (rs.map A')=b5;show a_ rs)]
def F7(a:sv (Ji Pg d))(h:Jv Pg "best_rows" qE):A4 (Ji Pg (d+1)):=λws rs b c=>by
 have(pl,ks,f,e,i):=uE a b c;show#[pl,ks,f,by rw[ay h];show e,i]
end TM
namespace TM
open PySem L2 JB Od
def Dh(c:r∈rs)(h:LM rs s.1):LM rs (Ls s r).1:=by
 unfold Ls;split
 .rename_i d;have e:may s r=b5:=(Ke.mp d).1;intro C a x b;rcases cN.mp b with b|rfl
  .show h C a x b
  .show a r c λy f=>h C a y (by have:=oT.mp e y f;simpa using this)
 .show h
theorem wH:∀(a:List Row) (s:Kw) (b:Bool),(∀r∈a,r∈rs)->LM rs s.1->LM rs (KZ a (s,b)).1.1
 |[],s,b,_,h=>h
 |r::a,s,b,c,h=>wH a (Ls s r) _ (λy hz=>c y (by simp[hz])) (Dh (c r (by simp)) h)
theorem wI:∀(n:Nat) (s:Kw),LM rs s.1->LM rs (lim rs n s).1
 |0,s,h=>h
 |n+1,s,h=>by
  unfold lim;have:=wH rs s cb (λ_ z=>z) h;split
  .show wI n _ this
  .show this
def PU.closed(h:PU rs s):dI rs (·∈s.1):=λr b c=>by
 have a:=h r b;have d:may s r=b5:=oT.mpr λx e=>by simpa using c x e
 rw[d,Ν]at a;unfold Lv at a;have:=(ę.mp a).1;simpa using this
inductive Wk(rs:List Row):List Str->List Nat->List Str->Prop where
 |nil {P:List Str}:Wk rs P [] P
 |cons {P Q:List Str} {p:Nat} {ps:List Nat} {r:Row} (h:rs[p]?=a0 r) (t:Wk rs (P++[r.1]) ps Q):Wk rs (P++r.2) (p::ps) Q
abbrev sA:Fn:=#["refuse_unknown",2,2,[.ite (.cmp .gt (.OH b5 (.var 1) (.call "words_of" [.var 0])) (.cst (.int 0))) [.bad] []]]
abbrev wJ:Fn:=#["refuse_unlearnt",2,2,[.ite (.cmp .Je (.var 1) (.call "learnt" [.var 0])) [.bad] []]]
def mW(a:us.length=fn.np)(hs:start us fn.ns=st0)(h:Run (execs Γ fn.body) st0 .nx st):bN Γ fn us=a0 (.ok (.loc,.Jp)):=by
 subst hs;unfold bN;rw[ϥ a,show execs Γ fn.body (start us fn.ns)=_ from h]
structure Bk(ws:List Str)(rs:List Row)(s:Kw):Prop where
 wl:ws.length<=24
 rl:rs.length<=84
 ok:∀r∈rs,cC ws r
 inv:jo ws s
 Xl:PU rs s
 snd:LM rs s.1
def Bk.of(a:ws.length<=24)(c:rs.length<=84)(b:∀r∈rs,cC ws r):Bk ws rs (lim rs fuel s0) :=
 #[a,c,b,kZ a b fuel s0 (mV ws),wG a b fuel s0 (mV ws) (by unfold fuel;decide),wI fuel s0 λC _ x d=>(by cases d)]
def Bk.kn(h:Bk ws rs s):KL.Kn rs s.1:=#[h.inv.1.1,h.snd,h.Xl.closed]
def Bk.heads(h:Bk ws rs s)(a:x∈s.1):x∈rs.map (·.1):=h.snd (λx=>x∈rs.map (·.1)) (λr b _=>NP b) x a
def Bk.words(h:Bk ws rs s)(a:x∈s.1):x∈av rs:=by
 rw[fA];have(r,b,rfl):=k8.mp (h.heads a);unfold cu;show We.mpr #[_,NP b,by simp]
def sC(h:Bk ws rs s)(a:w∈av rs)(b:Γ "words_of" [.tup (rs.map A')]=a0 (.ok (.own,.lst ((av rs).map .str)))):bN Γ sA [.tup (rs.map A'),.lst [.str w]]=a0 (.ok (.loc,.Jp)):=by
 have d:=cS λr c=>(h.ok r c).ok;have hl:=h.wl;have f:=dW (av rs);have hs:nE b5 (aE [w]) (aE (av rs))=a0 (.loc,.int (0:Nat)):=by
  have e:aE [w]=[w]:=by simp[aE,iP]
  unfold nE;rw[e,ϥ #[by simp,⋯],ϥ rfl,vl,Ϧ (by simp[bH,a]),OD];rfl
 show mW (st0:=[a0 (.loc,.tup (rs.map A')),a0 (.any,.lst [.str w])]) rfl ?_ (aR (aX (AF (aQ rfl) (dU (ss:=[w]) (by simp)) (aH (aa (ae rfl) ag) trivial b) (dU ⋯) hs) au trivial (fJ rfl)) aq aq);change [a0 (if Jy (.tup (rs.map A'))=b5 then Kd.loc else Kd.any,U.tup (rs.map A')),a0 (Kd.any,_)]=_;rw[ϥ (by change dZ (rs.map A')=b5;show a_ rs)]
def mX{rs:List Row}(a:w∈K)(hl:Γ "learnt" [.tup (rs.map A')]=a0 (.ok (.own,.lst ((aC K).map .str)))):bN Γ wJ [.tup (rs.map A'),.str w]=a0 (.ok (.loc,.Jp)):=by
 show mW (st0:=[a0 (.loc,.tup (rs.map A')),a0 (.loc,.str w)]) rfl ?_ (aR (aX (ae rfl) (aH (aa (ae rfl) ag) trivial hl) trivial (dE.trans (by rw[ϧ];simp[(aY K).mem_iff,a]))) aq aq);change [a0 (if Jy (.tup (rs.map A'))=b5 then Kd.loc else Kd.any,U.tup (rs.map A')),a0 (Kd.loc,_)]=_;rw[ϥ (by change dZ (rs.map A')=b5;show a_ rs)]
abbrev uF:List S :=
   [.set 5 (.idx (.var 2) (.pop 4)),
   .app 3 (.var 5),
   .ext 4 (.idx (.idx (.var 0) (.var 5)) (.cst (.int 1)))]
abbrev A5:Fn:=#["reading",2,6,[.exp (.call "refuse_unknown" [.var 0,.lst [.var 1]]),.exp (.call "refuse_unlearnt" [.var 0,.var 1]),.ite (.cmp .gt (.idx (.bi .dict [.call "prices" [.var 0]]) (.var 1)) (.Px "DEAREST_READ" (.int 2000))) [.bad] [],.set 2 (.bi .dict [.call "best_rows" [.var 0]]),.set 3 (.lst []),.set 4 (.lst [.var 1]),.Nn (.cmp .ne (.var 4) (.lst [])) uF,.ret (.MR .Ll [.var 3])]]
def qF(c:Str->Int)(h:ks.Nodup):KG .dict [(k,.lst (ks.map (Lg c)))]=a0 (.own,.Jc ks (ks.map λx=>.int (c x))):=by
 have e:∀ks:List Str,lX (ks.map (Lg c))=a0 (ks.map λx=>(x,U.int (c x))):=λks=>by
  induction ks with
  |nil=>rfl
  |cons x ks a =>
   change(if PD (U.int (c x))=b5 then(lX (ks.map (Lg c))).map ((x,U.int (c x))::·) else bD)=_;rw[ϥ (show PD (U.int (c x))=b5 from rfl),a];rfl
 change(lX (ks.map (Lg c))).bind _=_;rw[e];change(if ((ks.map λx=>(x,U.int (c x))).map (·.1)).Nodup then a0 (Kd.own,U.Jc ((ks.map λx=>(x,U.int (c x))).map (·.1)) ((ks.map λx=>(x,U.int (c x))).map (·.2))) else bD)=_;have b:(ks.map λx=>(x,U.int (c x))).map (·.1)=ks:=by rw[fx];show List.map_id' _
 rw[b,ϥ h,fx];rfl
abbrev mY(rs:List Row)(w:Str)(ks:List Str)(pl:Str->Int)(B:List Nat)(W:List Str)(o5:Option (Kd×U)):aB:=[a0 (.loc,.tup (rs.map A')),a0 (.loc,.str w),a0 (.own,.Jc ks (ks.map λx=>.int (pl x))),a0 (.own,.lst (B.map λp:Nat=>.int (p:Int))),a0 (.own,.lst (W.map .str)),o5]
theorem qG(h:jo ws s):∀{W:List Str},(∀x∈W,x∈s.1)->(W.length:Int)<=(W.map s.2).sum
 |[],_=>by simp
 |x::W,a=>by
  have:=qG h (W:=W) λy b=>a y (by simp[b]);have c:=h.2.1 x (a x (by simp));rw[eH,Qx,mx];lia
theorem sD(h:Bk ws rs s)(n:K9 rs s pl)(o:∀x,x∈ks↔x∈s.1):∀(f:Nat) (W:List Str) (B:List Nat) (o5:Option (Kd×U)),(∀x∈W,x∈s.1)->(W.map s.2).sum+1<f->(W.map s.2).sum+B.length<=2000->Wk rs W B.reverse [w] ->
  ∃a c,Run (f_ (Jx Γ (.cmp .ne (.var 4) (.lst []))) (execs Γ uF) f) (mY rs w ks pl B W o5) .nx (mY rs w ks pl a [] c)/\Wk rs [] a.reverse [w]/\(a.length:Int)=(W.map s.2).sum+B.length
 |0,W,B,o5,b,z,_,_=>by have:=qG h.inv b;lia
 |f+1,W,B,o5,b,z,hl,q=>by
  have A:(10000:Nat)<=dt:=by decide
  have C:=qG h.inv b;have d:Run (Jx Γ (.cmp .ne (.var 4) (.lst []))) (mY rs w ks pl B W o5) (!W.isEmpty) (mY rs w ks pl B W o5):=aX (aA rfl) (cj ag trivial aS (nH _)) ∅ (by rw[mR (iC _ 49)];simp);by_cases g:W=[]
  .subst g;show#[B,o5,vZ d,q,by simp]
  .have e:=List.dropLast_concat_getLast g;generalize W.dropLast=V at e;generalize W.getLast g=x at e;subst e;have t:x∈s.1:=b x (by simp);have(i,r,D,j,G,H,I):=n.best h.Xl t;have J:=(h.ok r (lg j)).2.2.2;have T:((V++r.2).map s.2).sum+1=((V++[x]).map s.2).sum:=by
    rw[nc,À,nc,À,Yn,ĭ,I];unfold J2;lia
   have l:∀y∈V++r.2,y∈s.1:=λy hy=>by
    rcases hZ.mp hy with hy|hy
    .show b y (by simp[hy])
    .show H y hy
   rw[ke,wh]at C;have L:Run (execs Γ uF) (mY rs w ks pl B (V++[x]) o5) .nx (mY rs w ks pl (B++[i]) (V++r.2) (a0 (.loc,.int (i:Int)))):=by
    have N:Run (ev Γ (.idx (.var 2) (.pop 4))) (mY rs w ks pl B (V++[x]) o5) (.loc,.int (i:Int)) (mY rs w ks pl B V o5):=by
     have v:=HD (Γ:=Γ) (st:=mY rs w ks pl B (V++[x]) o5) (i:=4) (k:=.own) (us:=(V++[x]).map .str) (u:=.str x) rfl rfl (by simp);rw[show((V++[x]).map U.str).dropLast=V.map U.str by simp]at v;show aF (aA rfl) v ∅ ?_;change(cJ ks (ks.map λx=>U.int (pl x)) x).map _=_;rw[gu ((o x).mpr t),D];rfl
    show aD N aO (jg (k:=.own) (k':=.own) rfl (ae rfl) aL rfl rfl (by rw[cK];lia) ?_);show r6 (k:=.own) (k':=.own) (zs:=(V++r.2).map .str) rfl (aF (aF (ae rfl) (ae rfl) trivial (bc (k:=.loc) (v8 j))) au trivial (show iw (.loc,A' r) (.int 1)=a0 (.loc,.tup (r.2.map .str)) from rfl)) rfl rfl ?_ ?_
    .rw[qr (by rw[cK,cK];lia) rfl,nc]
    .rw[show(B.map λp:Nat=>U.int (p:Int))++[U.int (i:Int)]=(B++[i]).map λp:Nat=>U.int (p:Int) by simp];show aq
   have m:Wk rs (V++r.2) (B++[i]).reverse [w]:=by
    rw[ġ,List.reverse_singleton,List.singleton_append];show .cons j (by rw[G];show q)
   have(a,c,O,k2,Q):=sD h n (w:=w) o f (V++r.2) (B++[i]) (a0 (.loc,.int (i:Int))) l ⋯ (by rw[ke,wh];lia) m;show#[a,c,uu ?_ L O,k2,by rw[ke,wh]at Q;lia];rw[show(!(V++[x]).isEmpty)=b5 by simp]at d;show d
abbrev A6(Γ:Tab):Prop:=∀(ws:List Str) (rs:List Row) (w:Str),Bk ws rs (lim rs fuel s0)->w∈(lim rs fuel s0).1->(lim rs fuel s0).2 w<=2000->∃ps:List Nat,Γ "reading" [.tup (rs.map A'),.str w]=a0 (.ok (.own,.lst (ps.map λp:Nat=>.int (p:Int))))/\Wk rs [] ps [w]/\(ps.length:Int)=(lim rs fuel s0).2 w
def run_read(g:wC Γ)(i:A4 Γ)(h:Bk ws rs (lim rs fuel s0))(a:w∈(lim rs fuel s0).1)(j:(lim rs fuel s0).2 w<=2000)(k:Γ "refuse_unknown" [.tup (rs.map A'),.lst [.str w]]=a0 (.ok (.loc,.Jp)))(l:Γ "refuse_unlearnt" [.tup (rs.map A'),.str w]=a0 (.ok (.loc,.Jp))):
  ∃ps:List Nat,bN Γ A5 [.tup (rs.map A'),.str w]=a0 (.ok (.own,.lst (ps.map λp:Nat=>.int (p:Int))))/\Wk rs [] ps [w]/\(ps.length:Int)=(lim rs fuel s0).2 w:=by
 have m:(10000:Nat)<=dt:=by decide
 have(k1,b,c):=g ws rs h.wl h.ok;have(pl,k2,p2,d,e):=i ws rs h.wl h.ok;generalize lim rs fuel s0=s at h a j c d e b p2;have n:k1.Nodup:=b.nodup_iff.mpr h.inv.1.1;have o:k2.Nodup:=p2.nodup_iff.mpr h.inv.1.1;have r:∀x,x∈k2↔x∈s.1:=λx=>p2.mem_iff;have t:=h.inv.2.1 w a;have(B,o5,q,u,hl):=sD (Γ:=Γ) h e (w:=w) r fuel [w] [] bD (λx f=>by rw[kj]at f;subst f;show a) (by simp;unfold fuel;lia) (by simp;lia) .nil;show#[B.reverse,?_,u,by rw[RX];simpa using hl];have v:Run (ev Γ (.idx (.bi .dict [.call "prices" [.var 0]]) (.var 1))) [a0 (.loc,.tup (rs.map A')),a0 (.loc,.str w),bD,bD,bD,bD] (.loc,.int (s.2 w)) [a0 (.loc,.tup (rs.map A')),a0 (.loc,.str w),bD,bD,bD,bD] :=
  aF (cA (aa (aH (aa (ae rfl) ag) trivial c) ag) trivial (qF s.2 n)) (ae rfl) trivial (by change(cJ k1 (k1.map λx=>U.int (s.2 x)) w).map _=_;rw[gu (b.mem_iff.mpr a)];rfl)
 show aI (st0:=[a0 (.loc,.tup (rs.map A')),a0 (.loc,.str w),bD,bD,bD,bD]) rfl (.inl rfl) ?_ ?_ (st:=mY rs w k2 pl B [] o5)
 .change [a0 (if Jy (.tup (rs.map A'))=b5 then Kd.loc else Kd.any,U.tup (rs.map A')),a0 (Kd.loc,U.str w),bD,bD,bD,bD]=_;rw[ϥ (by change dZ (rs.map A')=b5;show a_ rs)]
 show oU (aH (aa (ae rfl) (aa (cj (aa (ae rfl) ag) trivial (aK aL aS) (by change 1<=dt;lia)) ag)) trivial k) (oU (aH (aa (ae rfl) (aa (ae rfl) ag)) trivial l) ?_);show aR (aX v Ht trivial (fJ (by simp;lia))) aq ?_;show aD (cA (aa (aH (aa (ae rfl) ag) trivial d) ag) trivial (qF pl o)) aZ (aD (cj ag trivial aS (nH _)) aZ (aD (st2:=mY rs w k2 pl [] [w] bD) (cj (aa (ae rfl) ag) trivial (aK aL aS) (by change 1<=dt;lia)) aZ (v5 q (bI (oF (aa (aA rfl) ag) ∅ ?_) d6))));change(if fM (.bor 3) (B.map λp:Nat=>U.int (p:Int))=b5 then a0 (Kd.own,U.lst (B.map λp:Nat=>U.int (p:Int)).reverse) else bD)=_;rw[ϥ (show fM (.bor 3) (B.map λp:Nat=>U.int (p:Int))=b5 from rfl),Kq]
structure Xm(prog:List Fn):Prop where
 l:KL.PQ prog
 w:Jv prog "words_of" mO
 u:Jv prog "refuse_unknown" sA
 r:Jv prog "refuse_unlearnt" wJ
 q:Jv prog "row_price" wu
 t:Jv prog "prices_and_places" Dd
 c:Jv prog "prices" k_
 b:Jv prog "best_rows" qE
 d:Jv prog "reading" A5
def F8(R:Xm prog)(n:Nat):A6 (Ji prog (n+7)):=λws rs w h a g=>by
 have i:Ji prog (n+5) "words_of" [.tup (rs.map A')]=a0 (.ok (.own,.lst ((av rs).map .str))):=(ay R.w _).trans (dP (by have:=h.rl;lia) (λr f=>(h.ok r f).ok) (by have:=h.wl;lia));have j:Ji prog (n+6) "refuse_unknown" [.tup (rs.map A'),.lst [.str w]]=a0 (.ok (.loc,.Jp)):=(ay R.u _).trans (sC h (h.words a) i);have k:=KL.qy R.l n (λr f=>(h.ok r f).ok) h.wl (by have:=h.rl;lia) h.kn;have m:Ji prog (n+6) "refuse_unlearnt" [.tup (rs.map A'),.str w]=a0 (.ok (.loc,.Jp)):=(ay R.r _).trans (mX a k);have(ps,e,r):=run_read (wD (A3 (uD R.q) R.t) R.c) (F7 (A3 (uD R.q) R.t) R.b) h a g j m;show#[ps,(ay R.d _).trans e,r]
section
def gO(a:Bq ws rs)(h:x∈av rs):x∈ws:=by
 have(r,b,e):=dm.mp (fA.mp h);rcases e with rfl|e
 .show(a.ok r b).1
 .show(a.ok r b).2.2.1 _ e
def Ln.word(h:Ln rs x):x∈av rs:=h (·∈av rs) λr a _=>fA.mpr (dm.mpr #[r,a,.inl rfl])
def yc(a:Bq ws rs)(b:w≠o)(c:w∈av rs)(ho:o∈av rs)(d:Γ "words_of" [.tup (rs.map A')]=a0 (.ok (.own,.lst ((av rs).map .str)))):bN Γ sA [.tup (rs.map A'),.lst [.str w,.str o]]=a0 (.ok (.loc,.Jp)):=by
 have g:=cS λr f=>(a.ok r f).ok;have hl:=a.wl;have h:=dW (av rs);have hs:nE b5 (aE [w,o]) (aE (av rs))=a0 (.loc,.int (0:Nat)):=by
  have e:aE [w,o]=[w,o]:=by simp[aE,iP,b,uv b]
  unfold nE;rw[e,ϥ #[by simp,⋯],ϥ rfl,vl,Ϧ (by simp[bH,c]),vl,Ϧ (by simp[bH,ho]),OD];rfl
 show mW (st0:=[a0 (.loc,.tup (rs.map A')),a0 (.any,.lst [.str w,.str o])]) rfl ?_ (aR (aX (AF (aQ rfl) (dU (ss:=[w,o]) (by simp)) (aH (aa (ae rfl) ag) trivial d) (dU ⋯) hs) au trivial (fJ rfl)) aq aq);change [a0 (if Jy (.tup (rs.map A'))=b5 then Kd.loc else Kd.any,U.tup (rs.map A')),a0 (Kd.any,_)]=_;rw[ϥ (by change dZ (rs.map A')=b5;show a_ rs)]
abbrev A7:Fn:=#["musts",2,3,[.exp (.call "refuse_unknown" [.var 0,.lst [.var 1]]),.exp (.call "refuse_unlearnt" [.var 0,.var 1]),.set 2 (.comp 1 cb .seq [.call "order_up_to" [.var 0,.var 1]] [.cmp .ne (.idx (.var 0) (.cst (.int 0))) (.var 2)] (.idx (.var 0) (.cst (.int 0)))),.ret (.bi .sorted [.comp 1 cb .seq [.var 2] [.cmp .Je (.var 2) (.call "learnt" [.call "without" [.var 1,.var 0]])] (.var 0)])]]
def F9(h:Jv Pg "musts" A7)(f:Bq ws rs)(G:KL.Kn rs K)(H:w∈K)
  (p:Ji Pg d "refuse_unknown" [.tup (rs.map A'),.lst [.str w]]=a0 (.ok (.loc,.Jp))) (q:Ji Pg d "refuse_unlearnt" [.tup (rs.map A'),.str w]=a0 (.ok (.loc,.Jp))) (r:DP (Ji Pg d)) (t:∀o,Ji Pg d "without" [.tup (rs.map A'),.str o]=a0 (.ok (.loc,.tup ((wo rs o).map A'))))
  {B g:List (Str×Nat)} (v:Ji Pg d "order_up_to" [.tup (rs.map A'),.str w]=a0 (.ok (.own,.lst (B.map stN)))) (hs:LI rs g []) (i:B.Sublist g) (hl:g.length<=24) (A:∀o,o∉B.map (·.1)->Ln (wo rs o) w) :
  ∃M,Sm rs w M/\Ji Pg (d+1) "musts" [.tup (rs.map A'),.str w]=a0 (.ok (.own,.lst ((aC M).map .str))):=by
 have hsz:(1000:Nat)<=dt:=by decide
 have I:=i.length_le;have j:=fy (cond:=aN (Ji Pg d) [.cmp .ne (.idx (.var 0) (.cst (.int 0))) (.var 2)]) (elt:=ev (Ji Pg d) (.idx (.var 0) (.cst (.int 0)))) (src:=[(.own,.lst (B.map stN))]) (st:=[a0 (.loc,.tup (rs.map A')),a0 (.loc,.str w),bD]) trivial .loc (.inl rfl) stN (λs=>.str s.1) (λs=>!df (s.1=w)) .loc B [] (by simp;lia)
  (λy _=>#[cR (aX (x:=(.loc,.str y.1)) (aF (ae rfl) au trivial (bc rfl)) (ae rfl) trivial mQ),λ_=>#[aF (ae rfl) au trivial (bc rfl),aL]])
 rw[hY,show((B.filter λs=>!df (s.1=w)).map λs=>U.str s.1)=((B.filter λs=>!df (s.1=w)).map (·.1)).map U.str by rw[fx];rfl]at j;have k:∀o,o∈(B.filter λs=>!df (s.1=w)).map (·.1)↔o∈B.map (·.1)/\o≠w:=λo=>by
  constructor
  .intro ho;have(s,hs,rfl):=k8.mp ho;have(a,b):=oa.mp hs;show#[NP a,by simpa using b]
  .rintro⟨ho,C⟩;have(s,hs,rfl):=k8.mp ho;show NP (oa.mpr #[hs,by simpa using C])
 have l:((B.filter λs=>!df (s.1=w)).map (·.1)).Nodup:=((JM.trans i).map _).nodup hs.nd;have D:((B.filter λs=>!df (s.1=w)).map (·.1)).length<=24:=by have:=qb (λs:Str×Nat=>!df (s.1=w)) B;rw[cK];lia
 generalize (B.filter λs=>!df (s.1=w)).map (·.1)=O at j k l D;have(e,m):=Č.mp λo=>Kn.some f.wl (f.wo o).ok;have n:=fy (cond:=aN (Ji Pg d) [.cmp .Je (.var 2) (.call "learnt" [.call "without" [.var 1,.var 0]])]) (elt:=ev (Ji Pg d) (.var 0)) (src:=[(.bor 2,.lst (O.map .str))]) (st:=[a0 (.loc,.tup (rs.map A')),a0 (.loc,.str w),a0 (.own,.lst (O.map .str))]) ∅ .loc (.inl rfl) U.str U.str (λo=>df (w∉aC (e o))) .loc O [] (by simp;lia)
  (λy _=>#[cR (aX (ae rfl) (aH (aa (aH (aa (ae rfl) (aa (ae rfl) ag)) trivial (t y)) ag) trivial (r ws (wo rs y) (e y) (f.wo y) (m y).1)) trivial dE),λ_=>#[ae rfl,aL]])
 rw[hY]at n;have J:=qb (λo=>df (w∉aC (e o))) O;show#[O.filter λo=>df (w∉aC (e o)),#[JM.nodup l,λo=>?_],(ay h _).trans (aI rfl (.inl rfl) (gw 1) (oU (aH (aa (ae rfl) (aa (cj (aa (ae rfl) ag) trivial (aK aL aS) (by change 1<=dt;lia)) ag)) trivial p) (oU (aH (aa (ae rfl) (aa (ae rfl) ag)) trivial q) (aD (br (rs:=[(.own,.lst (B.map stN))]) (aa (aH (aa (ae rfl) (aa (ae rfl) ag)) trivial v) ag) trivial ?_ j) aZ (bI (cA (aa (br (rs:=[(.bor 2,.lst (O.map .str))]) (aa (aA rfl) ag) ∅ ?_ n) ag) trivial (KL.mT ⋯)) d6)))))]
 .rw[oa,k o,Ϭ,(aY _).mem_iff,Kn.mem (m o).1];constructor
  .rintro⟨⟨a,b⟩,c⟩;show#[#[(Kn.mem (KL.Kn.of hs)).mp ((i.map (·.1)).subset a),b],c]
  .rintro⟨⟨a,b⟩,c⟩;show#[#[uk λz=>c (A o z),b],c]
 .change a0 ((B.map stN).map λu=>(kE .own,u))=_;rw[fx];rfl
 .change a0 ((O.map U.str).map λu=>(kE (.bor 2),u))=_;rw[fx];rfl
abbrev DR:Fn:=#["free_or_must",3,5,[.exp (.call "refuse_unknown" [.var 0,.lst [.var 1,.var 2]]),.exp (.call "refuse_unlearnt" [.var 0,.var 1]),.set 3 (.call "without" [.var 0,.var 2]),.set 4 (.call "order_up_to" [.var 3,.var 1]),.ite (.cmp .eq (.var 4) (.lst [])) [.ret (.tup [.cst (.str "must"),.call "knot" [.var 3]])] [],.ret (.tup [.cst (.str "free"),.var 4])]]
structure So(Pg:List Fn):Prop where
 L:KL.PQ Pg
 w:Jv Pg "words_of" mO
 x:Jv Pg "refuse_unknown" sA
 n:Jv Pg "refuse_unlearnt" wJ
 o:Jv Pg "without" PR
 u:Jv Pg "order_up_to" Sk
 l:Jv Pg "not_learnt" KK.wc
 t:Jv Pg "knot" KK.AV
 m:Jv Pg "free_or_must" DR
 s:Jv Pg "musts" A7
def F_(H:So Pg)(n:Nat)(c:Bq ws rs)(j:w≠o)(k:w∈av rs)(ho:o∈av rs)(q:Ln rs w)
  (s:Ji Pg (n+7) "refuse_unknown" [.tup (rs.map A'),.lst [.str w,.str o]]=a0 (.ok (.loc,.Jp))) (v:Ji Pg (n+7) "refuse_unlearnt" [.tup (rs.map A'),.str w]=a0 (.ok (.loc,.Jp))):∃u,Ji Pg (n+8) "free_or_must" [.tup (rs.map A'),.str w,.str o]=a0 (.ok (.loc,u))/\Nv rs w o u:=by
 have hsz:(1000:Nat)<=dt:=by decide
 have a:=c.wo o;have y:=gO c k;have(z,s1,s2,s3):=KL.qx H.L (n+2) (λr b=>(a.ok r b).ok) a.wl (by have:=a.rl;lia);have(B,e,b1,A,b3):=C9 (Γ:=Ji Pg (n+6)) a s1.ok s2 y s3;have d:=KL.Kn.of s1;have g:=F6 H.L H.w H.l H.t n a d (by rw[cK];lia);have C:∀r,Run (b_ (Ji Pg (n+7)) [.var 0,.lst [.var 1,.var 2]]) (a0 (.loc,.tup (rs.map A'))::a0 (.loc,.str w)::a0 (.loc,.str o)::r) [(.loc,.tup (rs.map A')),(.own,.lst [.str w,.str o])] (a0 (.loc,.tup (rs.map A'))::a0 (.loc,.str w)::a0 (.loc,.str o)::r):=λr=>aa (ae rfl) (aa (cj (aa (ae rfl) (aa (ae rfl) ag)) trivial (aK aL (aK aL aS)) (by change 2<=dt;lia)) ag);have f:Run (Jx (Ji Pg (n+7)) (.cmp .eq (.var 4) (.lst []))) [a0 (.loc,.tup (rs.map A')),a0 (.loc,.str w),a0 (.loc,.str o),a0 (.loc,.tup ((wo rs o).map A')),a0 (.own,.lst (B.map stN))] (B.map stN).isEmpty [a0 (.loc,.tup (rs.map A')),a0 (.loc,.str w),a0 (.loc,.str o),a0 (.loc,.tup ((wo rs o).map A')),a0 (.own,.lst (B.map stN))] :=
  aX (aA rfl) (cj ag trivial aS (nH _)) ∅ (AX (by change cZ 49 (B.map stN)=b5;show mS B 48))
 have go:∀{u:U} {st':aB},Run (execs (Ji Pg (n+7)) [.ite (.cmp .eq (.var 4) (.lst [])) [.ret (.tup [.cst (.str "must"),.call "knot" [.var 3]])] [],.ret (.tup [.cst (.str "free"),.var 4])]) [a0 (.loc,.tup (rs.map A')),a0 (.loc,.str w),a0 (.loc,.str o),a0 (.loc,.tup ((wo rs o).map A')),a0 (.own,.lst (B.map stN))] (.rt .loc u) st'->Ji Pg (n+8) "free_or_must" [.tup (rs.map A'),.str w,.str o]=a0 (.ok (.loc,u)):=λh =>
  (ay H.m _).trans (aI rfl (.inr rfl) (yb 2) (oU (aH (C _) trivial s) (oU (aH (aa (ae rfl) (aa (ae rfl) ag)) trivial v) (aD (aH (aa (ae rfl) (aa (ae rfl) ag)) trivial (F2 H.o (by have:=c.rl;lia) o)) aO (aD (aH (aa (ae rfl) (aa (ae rfl) ag)) trivial ((ay H.u _).trans e)) aZ h)))))
 rcases b3 with⟨_,p,l,rfl⟩|⟨i,rfl⟩
 .rw[show(((l++[(w,p)]).map stN).isEmpty)=cb by simp]at f;show#[_,go (aR f aq (bI (jd (rs:=[(.loc,.str "free"),(.bor 4,.lst ((l++[(w,p)]).map stN))]) (aa au (aa (aA rfl) ag)) ∅ (aK aL (aK (DL rfl) aS)) (by change 2<=dt;lia)) eD)),.free A b1 rfl]
 .generalize z.map (·.1)=K at d g i;show#[_,go (ud f (bI (jd (rs:=[(.loc,.str "must"),(.own,.lst ((KK.bP (KK.Kv (wo rs o) K) (wo rs o)).map A'))]) (aa au (aa (aH (aa (ae rfl) ag) trivial g) ag)) trivial (aK aL (aK vQ aS)) (by change 2<=dt;lia)) eD)),.O7 d (KK.kX.mpr #[?_,i])];obtain⟨r,b,e⟩:∃r∈rs,r.1=w:=q (λx=>∃r∈rs,r.1=x) λr b _=>#[r,b,rfl]
  show dm.mpr #[r,cH.mpr #[b,by rw[e];show j],.inl e.symm]
def I_(H:So Pg)(n:Nat)(a:Bq ws rs)(c:w≠o)(ho:o∈av rs)(b:Ln rs w):∃u,Ji Pg (n+8) "free_or_must" [.tup (rs.map A'),.str w,.str o]=a0 (.ok (.loc,u))/\Nv rs w o u:=by
 have(K,d,_):=Kn.some a.wl a.ok;have e:Ji Pg (n+6) "words_of" [.tup (rs.map A')]=a0 (.ok (.own,.lst ((av rs).map .str))):=(ay H.w _).trans (dP (by have:=a.rl;lia) (λr f=>(a.ok r f).ok) (by have:=a.wl;lia));show F_ H n a c b.word ho b ((ay H.x _).trans (yc a c b.word ho e)) ((ay H.n _).trans (mX ((Kn.mem d).mpr b) (AU H.L (n+1) ws rs K a d)))
def Ja(H:So Pg)(n:Nat)(a:Bq ws rs)(b:Ln rs w):∃M,Sm rs w M/\Ji Pg (n+7) "musts" [.tup (rs.map A'),.str w]=a0 (.ok (.own,.lst ((aC M).map .str))):=by
 have(f,s1,s2,s3):=KL.qx H.L (n+1) (λr c=>(a.ok r c).ok) a.wl (by have:=a.rl;lia);have d:=KL.Kn.of s1;have g:=gO a b.word;have hk:w∈f.map (·.1):=(Kn.mem d).mpr b;have h:Ji Pg (n+5) "words_of" [.tup (rs.map A')]=a0 (.ok (.own,.lst ((av rs).map .str))):=(ay H.w _).trans (dP (by have:=a.rl;lia) (λr c=>(a.ok r c).ok) (by have:=a.wl;lia));have(B,e,b1,i):=F4 (Γ:=Ji Pg (n+5)) a s1.ok s2 g hk s3;show F9 H.s a d hk ((ay H.x _).trans (sC (Bk.of a.wl a.rl a.ok) b.word h)) ((ay H.n _).trans (mX hk (AU H.L n ws rs _ a d))) (AU H.L (n+1)) (λo=>F2 H.o (by have:=a.rl;lia) o) ((ay H.u _).trans e) s1 b1 s2 i
end
section
def Ln.mono(h:Ln rs x)(hs:∀r∈rs,r∈a):Ln a x:=λC b=>h C λr c d=>b r (hs r c) d
def Ln.closed:dI rs (Ln rs):=λr b c C a=>a r b λx d=>c x d C a
def A8(ho:¬Ln rs o)(e:Ln rs w):Ln (wo rs o) w:=λC f=>(e (λx=>Ln rs x/\C x) λr b c=>by
 have d:Ln rs r.1:=Ln.closed r b λx a=>(c x a).1;show#[d,f r (cH.mpr #[b,λz=>ho (z▸d)]) λx a=>(c x a).2]).2
def Ga(j:x≠w)(k:Ln rs x)(q:Ln rs w):Ln (wo rs w) x\/Ln (wo rs x) w:=by
 apply uk;intro e;have f:¬Ln (wo rs w) x:=λz=>e (.inl z);have l:¬Ln (wo rs x) w:=λz=>e (.inr z);have g:∀z,Ln (wo (wo rs w) x) z->Ln (wo rs w) z:=λz h=>h.mono λr a=>(cH.mp a).1;have m:∀z,Ln (wo (wo rs w) x) z->Ln (wo rs x) z:=λz h=>h.mono λr a=>by
  have(n,o):=cH.mp a;show cH.mpr #[(cH.mp n).1,o]
 have p:dI rs (Ln (wo (wo rs w) x)):=λr a c=>by
  by_cases b:r.1=x
  .show absurd (b▸Ln.closed (rs:=wo rs w) r (cH.mpr #[a,by rw[b];show j]) λy d=>g y (c y d)) f
  .by_cases i:r.1=w
   .show absurd (i▸Ln.closed (rs:=wo rs x) r (cH.mpr #[a,b]) λy d=>m y (c y d)) l
   .show Ln.closed r (cH.mpr #[cH.mpr #[a,i],b]) c
 show f (g x (k _ p))
def uG(g:Ln rs x)(i:Ln rs w)(c:x≠w)(d:¬Ln (wo rs x) w)(f:¬Ln (wo rs y) x):y≠w/\¬Ln (wo rs y) w:=by
 show#[λe=>?_,λh=>d ?_]
 .subst e;show(Ga c g i).elim f d
 .show(A8 f h).mono λr j=>by
   have(a,b):=cH.mp j;show cH.mpr #[(cH.mp a).1,b]
def Wk.HQ(k:Wk rs P ps Q)(a:∀x∈P,Ln (wo rs o) x)(ho:∀p∈ps,∀r,rs[p]?=a0 r->r.1≠o):∀x∈Q,Ln (wo rs o) x:=by
 induction k with
 |nil=>show a
 |@cons P Q p ps r h t b =>
  show b (λx hx=>?_) λq c=>ho q (nC _ c);rcases hZ.mp hx with hx|hx
  .show a x (Xj _ hx)
  .rw[kj.mp hx];show Ln.closed r (cH.mpr #[lg h,ho p k7 r h]) λy d=>a y (qP _ d)
theorem DS:∀{B:List (Str×Nat)}{K:List Str},vS rs K B->(∀x∈K,Ln rs x)->∀s∈B,Ln rs s.1
 |[],_,_,_,s,h=>absurd h rz
 |t::B,K,⟨⟨_,r,c,d,e⟩,f⟩,a,s,hs=>by
  have b:Ln rs t.1:=d▸Ln.closed r (lg c) λx hx=>a x (e x hx);rcases fR.mp hs with rfl|hs
  .show b
  .show DS f (λx hx=>?_) s hs;rcases hZ.mp hx with hx|hx
   .show a x hx
   .rw[kj.mp hx];show b
def Gb{ws M d:List Str}(i:Bq ws rs)(g:Ln rs w)(e:Sm rs w M)(f:d.Sublist (av rs))(h:∀o,o∈d↔(o∈av rs/\o≠w)/\¬Ln (wo rs o) w):aC M=d :=
 dQ ((aY M).trans ((Ot e.nd (f.nodup (fB rs))).mpr λo=>by
  rw[e.iff,h];show#[λ⟨⟨a,b⟩,c⟩=>#[#[a.word,b],c],λ⟨⟨a,b⟩,c⟩=>#[#[uk λz=>c (A8 z g),b],c]])) (cX M) ((cX _).sublist f)
end
end TM
namespace TM
open PySem L2 JB Od KK
section
abbrev wK:Fn:=#["_law_learnt",1,5,[.set 1 (.KD cb),.set 2 (.cst (.bl b5)),.Nn (.var 2) F0,.ret (.bi .sorted [.var 1])]]
def HR(h:Jv Pg "_law_learnt" wK){W:U}(a:Bv rs k W)(e:ws.length<=40)(b:∀r∈rs,cC ws r):∃K,Ji Pg (d+1) "_law_learnt" [W]=a0 (.ok (.own,.lst ((aC K).map .str)))/\iF ws K/\KL.Kn rs K:=by
 have(K,f,g,q,x,c):=qB (Γ:=Ji Pg d) a ⋯ b 999999999999 [] bD bD #[#[.nil,λ_ h=>absurd h rz],λ_ _ _ h=>absurd h rz] (by simp);have i:=x.ks.len;have hs:KG .sorted [(.bor 1,jU K)]=a0 (.own,.lst ((aC K).map .str)):=by
  change(if K.length<64 then a0 (Kd.own,U.lst ((aC K).map .str)) else bD)=_;rw[ϥ ⋯]
 show#[K,(ay h _).trans (aI rfl (.inl rfl) (st0:=[a0 (k,W),bD,bD,bD,bD]) (ϩ (λx:Option (Kd×U)=>[x,bD,bD,bD,bD]) a.bg) (aD jJ aZ (aD au aO (v5 q (bI (cA (aa (aA rfl) ag) #[#[.own,rfl,rfl],trivial] hs) d6))))),x.ks,x.ks.1,x.snd,c]
abbrev sE:Fn:=#["_law_words",1,3,[.set 1 (.comp 1 cb .seq [.var 0] [] (.idx (.var 0) (.cst (.int 0)))),.Jw cb [2] .seq [.var 0] [.ext 1 (.idx (.var 2) (.cst (.int 1)))],.ret (.MR .sset [.var 1])]]
def sF(a:rows.length<=120)(j:∀r∈rows,eY names r)(D:names.length<64):bN Γ sE [.tup (rows.map A')]=a0 (.ok (.own,.lst ((av rows).map .str))):=by
 have hsz:(4000:Nat)<=dt:=by decide
 let b:Option (Kd×U):=a0 (.loc,.tup (rows.map A'));have o:TM.start [.tup (rows.map A')] 3=[b,bD,bD]:=by simp[TM.start,Jy,a_,b]
 let S:=λ(ws:List Str) (o2:Option (Kd×U))=>([b,a0 (.own,.lst (ws.map .str)),o2]:aB)
 let H:=rows.map (·.1);have G:H.length<=120:=by change(rows.map (·.1)).length<=120;simpa using a
 have f:∀r∈rows,r.2.length<=8:=λr h=>(j r h).MF;have(st',g,_,o2,e):=b8 (t:=cb) (is:=[2]) (body:=execs Γ [.ext 1 (.idx (.var 2) (.cst (.int 1)))]) (rs:=[(.loc,.tup (rows.map A'))]) (λr:Row=>(Kd.loc,A' r))
  (λd r st=>d++r=rows/\∃o2,st=S (H++(d.map (·.2)).flatten) o2) (λ_ _ _ _=>trivial) (λd y r st p=>by
   have(c,o2,e):=p;subst e;have q:y∈rows:=by rw[<-c];simp
   have I:=r9 (rows:=d) (n:=8) λs hs=>f s (by rw[<-c];simp[hs]);have J:d.length<=120:=by have:=ϩ DD c;simp at this;lia
   have v:=f y q;show#[S (H++(d.map (·.2)).flatten) (a0 (.loc,A' y)),S (H++((d++[y]).map (·.2)).flatten) (a0 (.loc,A' y)),dg aO,?_,by rw[<-c];simp,a0 (.loc,A' y),rfl];have w:(H++((d++[y]).map (·.2)).flatten).map U.str=(H++(d.map (·.2)).flatten).map U.str++y.2.map U.str:=by simp
   change Run _ _ _ [b,a0 (.own,.lst ((H++((d++[y]).map (·.2)).flatten).map .str)),a0 (.loc,A' y)];rw[w];show r6 (k:=.own) (k':=.own) rfl (aF (x:=(.loc,A' y)) (ae rfl) au trivial rfl) rfl rfl (qr (by rw[cK,cK,ke];lia) rfl) aq) rows [] (S H bD) ⟨rfl,bD,by simp⟩
 subst e;rw[hY]at g;have z:H++(rows.map (·.2)).flatten=jP rows:=rfl;rw[z]at g;have i:(jP rows).length<4000:=by
  have:=r9 f;change(H++(rows.map (·.2)).flatten).length<4000;rw[ke];lia
 have A:(aE (jP rows)).length<64:=by have:=uo (qt j);lia
 have B:aC (aE (jP rows))=av rows:=AH λx=>by
  rw[dm];simp only[jP,hZ,k8,We];constructor
  .rintro(⟨r,a,rfl⟩|⟨l,⟨r,a,rfl⟩,hx⟩)
   .show#[r,a,.inl rfl]
   .show#[r,a,.inr hx]
  .rintro⟨r,a,rfl|hx⟩
   .show .inl #[r,a,rfl]
   .show .inr #[_,#[r,a,rfl],hx]
 have C:(rows.map A').map (λu=>(kE .loc,u))=rows.map λr=>(Kd.loc,A' r):=by rw[fx];rfl
 have m:=mM (k:=.bor 1) i A;rw[B]at m;show aI rfl (.inl rfl) o (aD (xX ⋯ rfl) aZ (cm (rs:=[(.loc,.tup (rows.map A'))]) (aa (ae rfl) ag) trivial rfl rfl (by rw[C];show g) (bI (oF (aa (aA rfl) ag) #[#[.own,rfl,rfl],trivial] m) d6)))
def uH{ss:List Str}:bC .Je (.str x) (.tup (ss.map U.str))=a0 (df (x∉ss)):=@dE x ss
def A9(h:∃x∈l,x∈Z):pick Z l∈l/\pick Z l∈Z:=by
 have(x,c,d):=h;unfold pick;cases b:l.filter λx=>df (x∈Z) with
 |nil =>
  have:x∈l.filter λx=>df (x∈Z):=oa.mpr #[c,Ϩ d];rw[b]at this;cases this
 |cons a t =>
  have:a∈l.filter λx=>df (x∈Z):=by rw[b];show k7
  have(e,f):=oa.mp this;show#[e,Ϫ f]
abbrev HS:List S:=[.ite (.or [.cmp .Je (.var 8) (.var 7),.cmp .Je (.var 8) (.var 2)]) [.ret (.cst (.bl cb))] []]
abbrev VI:List S :=
   [.set 6 (.comp 1 cb .seq [.var 0] [.cmp .eq (.idx (.var 0) (.cst (.int 0))) (.var 5)] (.idx (.var 0) (.cst (.int 1)))),
   .ite (.cmp .ne (.bi .len [.var 5]) (.bi .len [.var 6]))
    [.ret (.cst (.bl cb))]
    [],
   .Jw b5 [7,8] .zip [(.var 6),(.var 5)] HS]
abbrev Sr:Fn:=#["_law_knot_right",2,9,[.set 2 (.comp 1 cb .seq [.var 1] [] (.idx (.var 0) (.cst (.int 0)))),.set 3 (.call "_law_words" [.var 0]),.ite (.or [.cmp .ne (.var 2) (.MR .sset [.var 2]),.not (.bi .all [.comp 1 cb .seq [.var 2] [] (.cmp .isin (.var 0) (.var 4))])]) [.ret (.cst (.bl cb))] [],.Jw b5 [4,5] .seq [.var 1] VI,.ret (.cst (.bl b5))]]
abbrev kI(rs P:List Row)(Z V:List Str)(o4 o5 o6 o7 o8:Option (Kd×U)):aB:=[a0 (.loc,.tup (rs.map A')),a0 (.any,.lst (P.map A')),a0 (.own,.lst (Z.map .str)),a0 (.own,.lst (V.map .str)),o4,o5,o6,o7,o8]
abbrev toU(l:List Str):U:=.tup (l.map .str)
def Di{Z V:List Str}(c:rs.length<=120)(hk:k∈Z)(s:∀r∈rs,r.1∈Z->∃x∈r.2,x∈Z):
  ∃u f g,Run (execs Γ VI) (kI rs P Z V (a0 (.any,.str k)) (a0 (.any,.tup ((Lq Z rs k).map .str))) o6 o7 o8) .nx (kI rs P Z V (a0 (.any,.str k)) (a0 (.any,.tup ((Lq Z rs k).map .str))) u f g):=by
 have hsz:(1000:Nat)<=dt:=by decide
 have j:=qb (λr:Row=>df (r.1=k)) rs;rw[show Lq Z rs k=(rs.filter λr=>df (r.1=k)).map λr=>pick Z r.2 from rfl];have n:∀r∈rs.filter λr=>df (r.1=k),pick Z r.2∈r.2/\pick Z r.2∈Z:=λr c=>by
  have(a,b):=oa.mp c;show A9 (s r a (Ϫ b▸hk))
 have l:=fy (cond:=aN Γ [.cmp .eq (.idx (.var 0) (.cst (.int 0))) (.var 5)]) (elt:=ev Γ (.idx (.var 0) (.cst (.int 1)))) (src:=[(.loc,.tup (rs.map A'))]) (st:=kI rs P Z V (a0 (.any,.str k)) (a0 (.any,.tup (((rs.filter λr=>df (r.1=k)).map λr=>pick Z r.2).map .str))) o6 o7 o8) trivial .loc (.inl rfl) A' (λr=>toU r.2) (λr=>df (r.1=k)) .loc rs [] (by simp;lia)
  (λy _=>#[cR (aX (x:=(.loc,.str y.1)) (aF (ae rfl) au trivial (bc rfl)) (aQ rfl) trivial fz),λ_=>#[aF (ae rfl) au trivial (bc rfl),aL]])
 rw[hY]at l;have o:=br (rs:=[(.loc,.tup (rs.map A'))]) (aa (ae (i:=0) rfl) ag) trivial qA l;generalize (rs.filter λr=>df (r.1=k))=F at n j l o;let S:=kI rs P Z V (a0 (.any,.str k)) (a0 (.any,.tup ((F.map λr=>pick Z r.2).map .str))) (a0 (.own,.lst (F.map λr=>toU r.2)));have m:KQ .zip [(.bor 6,.lst (F.map λr=>toU r.2)),(.any,.tup ((F.map λr=>pick Z r.2).map .str))]=a0 (F.map λr=>(Kd.any,U.tup [toU r.2,.str (pick Z r.2)])):=by
  change a0 (((F.map λr=>toU r.2).zip ((F.map λr=>pick Z r.2).map U.str)).map λq=>(Kd.any,U.tup [q.1,q.2]))=_;rw[fx,Λ,fx];rfl
 have(st',v,f,g,rfl,_):=b8 (rs:=[(.bor 6,.lst (F.map λr=>toU r.2)),(.any,.tup ((F.map λr=>pick Z r.2).map .str))]) (t:=b5) (is:=[7,8]) (body:=execs Γ HS) (λr:Row=>(Kd.any,U.tup [toU r.2,.str (pick Z r.2)])) (λd q st=>∃o7 o8,st=S o7 o8/\∀r∈q,r∈F)
  (λ_ _ _ ⟨o7,o8,e,_⟩=>by subst e;show#[#[.own,rfl,rfl],trivial]) (λd y q st w=>by
   have(o7,o8,e,p):=w;subst e;have(m1,m2):=n y (p y (by simp));show#[S (a0 (.any,toU y.2)) (a0 (.any,.str (pick Z y.2))),S (a0 (.any,toU y.2)) (a0 (.any,.str (pick Z y.2))),jl (.inr rfl),aR (xQ (jf (aX (aQ rfl) (aQ rfl) trivial (uH.trans (by rw[ϧ (not_not_intro m1)]))) (oH (aX (aQ rfl) (aA rfl) #[#[.own,rfl,rfl],trivial] (dE.trans (by rw[ϧ (not_not_intro m2)])))))) aq aq,_,_,rfl,λr c=>p r (by simp[c])]) F [] (S o7 o8) ⟨_,_,rfl,λ_ h=>h⟩
 show#[_,f,g,aD (st2:=S o7 o8) o aZ (aR (aX (cA (aa (aQ rfl) ag) trivial kR) (cA (aa (aA rfl) ag) #[#[.own,rfl,rfl],trivial] fw) trivial (AQ (by simp))) aq (cm (aa (aA rfl) (aa (aQ rfl) ag)) #[#[.own,rfl,rfl],trivial] m rfl v aq))]
def Jb(h:Jv Pg "_law_knot_right" Sr)(a:Bq ws rs)(p:Ji Pg d "_law_words" [.tup (rs.map A')]=a0 (.ok (.own,.lst ((av rs).map .str))))(b:Z.Sublist (av rs))(s:∀r∈rs,r.1∈Z->∃x∈r.2,x∈Z):Ji Pg (d+1) "_law_knot_right" [.tup (rs.map A'),.lst ((bP Z rs).map A')]=a0 (.ok (.loc,.bl b5)):=by
 have hsz:(1000:Nat)<=dt:=by decide
 have D:=a.rl;have G:(av rs).length<=24:=by have:=cS λr i=>(a.ok r i).ok;have:=a.wl;lia
 have v:Z.length<=24:=by have:=b.length_le;lia
 have j:Z.Nodup:=b.nodup (r_ _);have l:aC (aE Z)=Z:=dQ ((aY _).trans ((Ot (bY _) j).mpr λx=>by rw[bH])) (cX _) ((cX _).sublist b);have H:(aE Z).length<=Z.length:=d7 (bY _) λx f=>by simpa[bH] using f
 have I:(bP Z rs).length=Z.length:=by unfold bP;rw[cK]
 have f:=di (cond:=aN (Ji Pg d) []) (elt:=ev (Ji Pg d) (.idx (.var 0) (.cst (.int 0)))) (src:=[(.any,.lst ((bP Z rs).map A'))]) (st:=[a0 (.loc,.tup (rs.map A')),a0 (.any,.lst ((bP Z rs).map A')),bD,bD,bD,bD,bD,bD,bD]) trivial .any (.inr rfl) A' (λr=>.str r.1) .any (λ_=>dC) (bP Z rs) [] (by simp;lia)
  (λy _=>#[aF (aQ rfl) au trivial (bc rfl),je rfl])
 rw[hY,show((bP Z rs).map λr=>U.str r.1)=Z.map U.str by unfold bP;rw[fx];rfl]at f;have m:((bP Z rs).map A').map (λu=>(kE .any,u))=(bP Z rs).map λr=>(Kd.any,A' r):=by rw[fx];rfl
 have(st',w,o4,o5,o6,o7,o8,rfl,_):=b8 (rs:=[(.any,.lst ((bP Z rs).map A'))]) (t:=b5) (is:=[4,5]) (body:=execs (Ji Pg d) VI) (λr:Row=>(Kd.any,A' r)) (λd q st=>∃o4 o5 o6 o7 o8,st=kI rs (bP Z rs) Z (av rs) o4 o5 o6 o7 o8/\∀r∈q,r∈bP Z rs)
  (λ_ _ _ _=>trivial) (λd' y q st z=>by
   have(o4,o5,o6,o7,o8,e,n):=z;subst e;have(k,hk,rfl):=k8.mp (n y (by simp));have(J,L,N,r):=Di (Γ:=Ji Pg d) (rs:=rs) (Z:=Z) (V:=av rs) (P:=bP Z rs) (k:=k) (o6:=o6) (o7:=o7) (o8:=o8) ⋯ hk s;show#[kI rs (bP Z rs) Z (av rs) (a0 (.any,.str k)) (a0 (.any,.tup ((Lq Z rs k).map .str))) o6 o7 o8,_,jl (.inr rfl),r,_,_,_,_,_,rfl,λr i=>n r (by simp[i])]) (bP Z rs) [] (kI rs (bP Z rs) Z (av rs) bD bD bD bD bD) ⟨bD,bD,bD,bD,bD,rfl,λ_ h=>h⟩
 have A:bC .ne (.lst (Z.map U.str)) (.lst ((aC (aE Z)).map U.str))=a0 cb:=by rw[C6,l];simp
 have g:bt [(.bor 2,.lst (Z.map .str))] (kI rs (bP Z rs) Z (av rs) bD bD bD bD bD):=#[#[.own,rfl,rfl],trivial]
 have B:Run (ev (Ji Pg d) (.bi .all [.comp 1 cb .seq [.var 2] [] (.cmp .isin (.var 0) (.var 4))])) (kI rs (bP Z rs) Z (av rs) bD bD bD bD bD) (.loc,.bl b5) (kI rs (bP Z rs) Z (av rs) bD bD bD bD bD):=by
  have o:=di (cond:=aN (Ji Pg d) []) (elt:=ev (Ji Pg d) (.cmp .isin (.var 0) (.var 4))) (src:=[(.bor 2,.lst (Z.map .str))]) (st:=kI rs (bP Z rs) Z (av rs) bD bD bD bD bD) g .loc (.inl rfl) U.str (λ_=>.bl b5) .loc (λ_=>dC) Z [] (by simp;lia)
   (λy C=>#[d5 (ae rfl) (aA rfl) #[#[.own,rfl,rfl],trivial] (sk.trans (by rw[Ϩ (b.subset C)])),aL])
  rw[hY,show(Z.map λ_=>U.bl b5)=(Z.map λ_=>b5).map U.bl by rw[fx];rfl]at o;have a:=jn (k:=.own) (Z.map λ_=>b5);rw[show((Z.map λ_=>b5).all id)=b5 by rw[UE];show oT.mpr λ_ _=>rfl]at a;show cA (aa (br (rs:=[(.bor 2,.lst (Z.map .str))]) (aa (aA rfl) ag) g (by change a0 ((Z.map U.str).map λu=>(kE (.bor 2),u))=_;rw[fx];rfl) o) ag) trivial a
 show(ay h _).trans (aI rfl (.inr rfl) (st0:=[a0 (.loc,.tup (rs.map A')),a0 (.any,.lst ((bP Z rs).map A')),bD,bD,bD,bD,bD,bD,bD]) (ϩ (λx:Option (Kd×U)=>[x,a0 (Kd.any,U.lst ((bP Z rs).map A')),bD,bD,bD,bD,bD,bD,bD]) (dr rs)) (aD (st2:=[a0 (.loc,.tup (rs.map A')),a0 (.any,.lst ((bP Z rs).map A')),a0 (.own,.lst (Z.map .str)),bD,bD,bD,bD,bD,bD]) (br (rs:=[(.any,.lst ((bP Z rs).map A'))]) (aa (aQ rfl) ag) trivial (by change a0 (Tz (λu=>(kE .any,u)) _)=_;rw[m]) f) aZ (aD (st2:=kI rs (bP Z rs) Z (av rs) bD bD bD bD bD) (aH (aa (ae rfl) ag) trivial p) aZ (aR (xQ (jf (aX (aA rfl) (oF (aa (aA rfl) ag) g (mM ⋯ ⋯)) g A) (oH (oG (c:=b5) (jO B))))) aq (cm (rs:=[(.any,.lst ((bP Z rs).map A'))]) (aa (aQ rfl) ag) trivial (by change a0 (Tz (λu=>(kE .any,u)) _)=_;rw[m]) rfl w (bI au eD))))))
abbrev Dj:Fn:=#["_law_struck",2,2,PR.body]
def DT(h:Jv Pg "_law_struck" Dj)(hl:rs.length<=1000)(o:Str):Ji Pg (d+1) "_law_struck" [.tup (rs.map A'),.str o]=a0 (.ok (.loc,.tup ((wo rs o).map A'))) :=
 (ay h _).trans (aI rfl (.inr rfl) (gw 0) (bI (cA (aa (AS hl (.inl rfl) rfl rfl) ag) trivial wa) eD))
abbrev Xr:List S :=
   [.ite (.or [.cmp .isin (.var 3) (.var 2),.cmp .lt (.var 4) (.cst (.int 0)),.cmp .ge (.var 4) (.bi .len [.var 0]),.cmp .ne (.idx (.idx (.var 0) (.var 4)) (.cst (.int 0))) (.var 3)])
    [.ret (.cst (.bl cb))]
    [],
   .ite (.not (.bi .all [.comp 1 cb .seq [.idx (.idx (.var 0) (.var 4)) (.cst (.int 1))] [] (.cmp .isin (.var 0) (.var 3))]))
    [.ret (.cst (.bl cb))]
    [],
   .put 2 (.var 3) (.cst (.bl b5))]
abbrev Ss:Fn:=#["_law_steps_right",2,5,[.set 2 (.KD cb),.Jw b5 [3,4] .seq [.var 1] Xr,.ret (.cst (.bl b5))]]
abbrev Ge(rs:List Row)(B:List (Str×Nat))(K:List Str)(o3 o4:Option (Kd×U)):aB:=[a0 (.loc,.tup (rs.map A')),a0 (.any,.lst (B.map stN)),a0 (.own,jU K),o3,o4]
def Gf(o:∀r∈rs,r.2.length<=8)(h:vS rs [] B)(hl:B.length<=24):bN Γ Ss [.tup (rs.map A'),.lst (B.map stN)]=a0 (.ok (.loc,.bl b5)):=by
 have hsz:(1000:Nat)<=dt:=by decide
 have(st',p,f,o3,o4,e):=b8 (rs:=[(.any,.lst (B.map stN))]) (t:=b5) (is:=[3,4]) (body:=execs Γ Xr) (λs:Str×Nat=>(Kd.any,stN s)) (λd q st=>d++q=B/\∃o3 o4,st=Ge rs B (d.map (·.1)) o3 o4) (λ_ _ _ _=>trivial) (λd y q st v=>by
  have(f,o3,o4,e):=v;subst e;have(r,g,A,i):=qC (a:=d) (b:=q) (y:=y) (by rw[f];show h);rw[hY]at i;have l:y.1∉d.map (·.1):=by
   have:=jk h .nil;rw[hY,<-f,nc,eH]at this;show λz=>(ri.mp this).2.2 _ z _ k7 rfl
  have L:d.length<24:=by have:=ϩ DD f;simp at this;lia
  have N:y.2<rs.length:=(et.mp g).1;have O:=o r (lg g);let C:Option (Kd×U):=a0 (.any,.str y.1);let D:Option (Kd×U):=a0 (.any,.int (y.2:Nat));let S:=Ge rs B (d.map (·.1)) C D;have G:(rs.map A')[y.2]?=a0 (A' r):=by rw[i5,g];rfl
  have m:Run (ev Γ (.idx (.var 0) (.var 4))) S (.loc,A' r) S:=aF (ae rfl) (aQ rfl) trivial (bc (bQ G));have H:Run (Jx Γ (.or [.cmp .isin (.var 3) (.var 2),.cmp .lt (.var 4) (.cst (.int 0)),.cmp .ge (.var 4) (.bi .len [.var 0]),.cmp .ne (.idx (.idx (.var 0) (.var 4)) (.cst (.int 0))) (.var 3)])) S cb S :=
   xQ (jf (aX (aQ rfl) (aA rfl) #[#[.own,rfl,rfl],trivial] (jQ.trans (by rw[ϧ l]))) (jf (aX (aQ rfl) au trivial (vU (ϧ ⋯))) (jf (aX (aQ rfl) (cA (aa (ae rfl) ag) trivial kR) trivial (HN (ϧ (by rw[cK];lia))))
    (oH (aX (aF m au trivial (bc (u:=.str r.1) rfl)) (aQ rfl) trivial (mQ.trans (by rw[A];simp)))))))
  have n:Run (ev Γ (.bi .all [.comp 1 cb .seq [.idx (.idx (.var 0) (.var 4)) (.cst (.int 1))] [] (.cmp .isin (.var 0) (.var 3))])) S (.loc,.bl (r.2.all λx=>df (x∈d.map (·.1)))) S :=
   oQ (j:=2) (k:=.loc) (w:=jU (d.map (·.1))) (.inl rfl) ⋯ (aF m au trivial (bc (u:=.tup (r.2.map .str)) rfl)) (.inr rfl) λ_=>jQ
  rw[show(r.2.all λx=>df (x∈d.map (·.1)))=b5 from oT.mpr λx I=>Ϩ (i x I)]at n;have J:dG (.str y.1) (.bl b5) (jU (d.map (·.1)))=a0 (jU ((d++[y]).map (·.1))):=by
   rw[qz (by rw[cK];lia)];unfold dq;rw[Ϧ l];simp
  show#[S,_,jl (.inr rfl),aR H aq (aR (oG (c:=b5) (jO n)) aq (mJ (k:=.own) (k':=.own) au rfl (aQ rfl) (aK aL (aK (je rfl) aS)) rfl rfl J aq)),by rw[<-f];simp,_,_,rfl]) B [] (Ge rs B [] bD bD) ⟨rfl,bD,bD,rfl⟩
 subst e;show aI (st0:=[a0 (.loc,.tup (rs.map A')),a0 (.any,.lst (B.map stN)),bD,bD,bD]) rfl (.inr rfl) (ϩ (λx:Option (Kd×U)=>[x,a0 (Kd.any,U.lst (B.map stN)),bD,bD,bD]) (dr rs)) (aD jJ aZ (cm (rs:=[(.any,.lst (B.map stN))]) (aa (aQ rfl) ag) trivial (by change a0 ((B.map stN).map λu=>(kE .any,u))=_;rw[fx];rfl) rfl p (bI au eD)))
end
section
def Dk(xs:List α)(x:α):JK (xs++[x]) (-1)=a0 x:=by
 unfold JK Mp;rw[Ϧ ⋯,ϥ (by simp;lia)];change(xs++[x])[_]?=_;rw[show(-1+((xs++[x]).length:Nat):Int).toNat=xs.length by simp;lia];simp
theorem wL(n:Nat):∀rs:List Row,cZ (n+2) (rs.map A')=b5
 |[]=>by simp[cZ]
 |r::rs=>by rw[eH,cZ,wL n rs];simp[A',JY,cZ];show gK _ _
def Dl(rs:List Row):bC .ne (.tup (rs.map A')) (.tup (rs.map A'))=a0 cb:=by
 have h:JY 50 (.tup (rs.map A'))=b5:=by rw[JY];show wL 47 rs
 simp only[bC];rw[ϥ #[h,h],oP 50 _ h];rfl
abbrev Dm:Fn:=#["_law_shown",4,5,[.set 4 (.call "_law_struck" [.var 0,.var 2]),.ite (.or [.cmp .ne (.call "without" [.var 0,.var 2]) (.var 4),.not (.NY (.var 3) .tuple),.cmp .ne (.bi .len [.var 3]) (.cst (.int 2))]) [.ret (.cst (.bl cb))] [],.ite (.cmp .eq (.idx (.var 3) (.cst (.int 0))) (.cst (.str "free"))) [.ret (.and [.cmp .gt (.bi .len [.idx (.var 3) (.cst (.int 1))]) (.cst (.int 0)),.call "_law_steps_right" [.var 4,.idx (.var 3) (.cst (.int 1))],.cmp .eq (.idx (.idx (.idx (.var 3) (.cst (.int 1))) (.neg (.cst (.int 1)))) (.cst (.int 0))) (.var 1)])] [],.ret (.and [.cmp .eq (.idx (.var 3) (.cst (.int 0))) (.cst (.str "must")),.call "_law_knot_right" [.var 4,.idx (.var 3) (.cst (.int 1))],.cmp .isin (.var 1) (.comp 1 cb .seq [.idx (.var 3) (.cst (.int 1))] [] (.idx (.var 0) (.cst (.int 0))))])]]
def HU(h:Jv Pg "_law_shown" Dm)(H:Jv Pg "_law_struck" Dj)(I:Jv Pg "without" PR)(J:Jv Pg "_law_steps_right" Ss)(s:Jv Pg "_law_knot_right" Sr)(v:Jv Pg "_law_words" sE)(A:Bq ws rs)(L:Nv rs w o u):
  Ji Pg (d+3) "_law_shown" [.tup (rs.map A'),.str w,.str o,u]=a0 (.ok (.loc,.bl b5)):=by
 have N:(1000:Nat)<=dt:=by decide
 have VC:=A.rl;have b:=A.wo o;let f:Option (Kd×U):=a0 (.loc,.tup (rs.map A'));let g:Option (Kd×U):=a0 (.loc,.str w);let i:Option (Kd×U):=a0 (.loc,.str o);let k:Option (Kd×U):=a0 (.loc,.tup ((wo rs o).map A'));have go:∀(x y:U),u=.tup [x,y]->Jy y=cb->(∀S,S=[f,g,i,a0 (.any,u),k]->∃S',Run (execs (Ji Pg (d+2)) (Dm.body.drop 2)) S (.rt .loc (.bl b5)) S')->Ji Pg (d+3) "_law_shown" [.tup (rs.map A'),.str w,.str o,u]=a0 (.ok (.loc,.bl b5)):=λx y e O hz=>by
  subst e;have(S',a):=hz _ rfl;have st0:start [.tup (rs.map A'),.str w,.str o,.tup [x,y]] 5=[f,g,i,a0 (.any,.tup [x,y]),bD]:=by
   change [a0 (if Jy (.tup (rs.map A'))=b5 then Kd.loc else Kd.any,U.tup (rs.map A')),a0 (Kd.loc,U.str w),a0 (Kd.loc,U.str o),a0 (if Jy (.tup [x,y])=b5 then Kd.loc else Kd.any,U.tup [x,y]),bD]=_;rw[dr,Ϧ (by simp[Jy,dZ,O])]
  let S:aB:=[f,g,i,a0 (.any,.tup [x,y]),k]
  have t:Run (Jx (Ji Pg (d+2)) (.or [.cmp .ne (.call "without" [.var 0,.var 2]) (.var 4),.not (.NY (.var 3) .tuple),.cmp .ne (.bi .len [.var 3]) (.cst (.int 2))])) S cb S :=
   xQ (jf (aX (aH (aa (ae rfl) (aa (ae rfl) ag)) trivial (F2 I ⋯ o)) (ae rfl) trivial (Dl _)) (jf (oG (c:=b5) (HI (aQ rfl) rfl)) (oH (aX (cA (aa (aQ rfl) ag) trivial kR) au trivial (AQ rfl)))))
  show(ay h _).trans (aI rfl (.inr rfl) st0 (aD (aH (aa (ae rfl) (aa (ae rfl) ag)) trivial (DT H ⋯ o)) aO (aR t aq a)))
 have m:∀{u:U} {S:aB},S=[f,g,i,a0 (.any,u),k]->Run (ev (Ji Pg (d+2)) (.var 3)) S (.any,u) S:=λe=>by subst e;show aQ rfl
 have C:∀{u:U} {S:aB},S=[f,g,i,a0 (.any,u),k]->Run (ev (Ji Pg (d+2)) (.var 4)) S (.loc,.tup ((wo rs o).map A')) S:=λe=>by subst e;show ae rfl
 have D:∀{u:U} {S:aB},S=[f,g,i,a0 (.any,u),k]->Run (ev (Ji Pg (d+2)) (.var 1)) S (.loc,.str w) S:=λe=>by subst e;show ae rfl
 cases L with
 |@free B l p Q hl e =>
  show go _ _ rfl rfl λS a=>#[S,?_]
  subst e;have j:Run (ev (Ji Pg (d+2)) (.idx (.var 3) (.cst (.int 1)))) S (.any,.lst ((l++[(w,p)]).map stN)) S:=aF (m a) au trivial (bc rfl);have z:Run (Jx (Ji Pg (d+2)) (.cmp .eq (.idx (.var 3) (.cst (.int 0))) (.cst (.str "free")))) S b5 S:=aX (aF (m a) au trivial (bc (u:=.str "free") rfl)) au trivial (fz.trans (by rw[Ϩ rfl]));have T:Run (ev (Ji Pg (d+2)) (.idx (.idx (.idx (.var 3) (.cst (.int 1))) (.neg (.cst (.int 1)))) (.cst (.int 0)))) S (.any,.str w) S :=
   aF (aF j (HH au rfl) trivial (bb (by rw[nc];show Dk _ _))) au trivial (bc rfl)
  show ud z (bI (DI (qq (p:=b5) (q:=b5) (d5 (cA (aa j ag) trivial fw) au trivial (fJ (by simp))) λ_=>qq (p:=b5) (q:=b5) (aH (aa (C a) (aa j ag)) trivial ((ay J _).trans (Gf (λr n=>(b.ok r n).2.2.2) Q hl))) λ_=>Ad (d5 T (D a) trivial (fz.trans (by rw[Ϩ rfl]))))) eD)
 |@O7 K Y hw =>
  show go _ _ rfl rfl λS a=>#[S,?_]
  have Vq:=wg b K;have Nh:(bP (Kv (wo rs o) K) (wo rs o)).length=(Kv (wo rs o) K).length:=by unfold bP;rw[cK]
  have j:Run (ev (Ji Pg (d+2)) (.idx (.var 3) (.cst (.int 1)))) S (.any,.lst ((bP (Kv (wo rs o) K) (wo rs o)).map A')) S:=aF (m a) au trivial (bc rfl);have z:Run (Jx (Ji Pg (d+2)) (.cmp .eq (.idx (.var 3) (.cst (.int 0))) (.cst (.str "free")))) S cb S:=aX (aF (m a) au trivial (bc (u:=.str "must") rfl)) au trivial (fz.trans (by rw[ϧ (by decide +kernel)]));have MD:=cS λr n=>(b.ok r n).ok;have hA:Ji Pg (d+1) "_law_words" [.tup ((wo rs o).map A')]=a0 (.ok (.own,.lst ((av (wo rs o)).map .str))):=(ay v _).trans (sF (by have:=b.rl;lia) (λr n=>(b.ok r n).ok) (by have:=b.wl;lia));have kr:=Jb (d:=d+1) s b hA (Z:=Kv (wo rs o) K) JM (Kn.held Y);have G:=di (cond:=aN (Ji Pg (d+2)) []) (elt:=ev (Ji Pg (d+2)) (.idx (.var 0) (.cst (.int 0)))) (src:=[(.any,.lst ((bP (Kv (wo rs o) K) (wo rs o)).map A'))]) (st:=S) trivial .any (.inr rfl) A' (λr=>.str r.1) .any (λ_=>dC) (bP (Kv (wo rs o) K) (wo rs o)) [] (by simp;lia)
   (λy _=>#[aF (aQ rfl) au trivial (bc rfl),je rfl])
  rw[hY,show((bP (Kv (wo rs o) K) (wo rs o)).map λr=>U.str r.1)=(Kv (wo rs o) K).map U.str by unfold bP;rw[fx];rfl]at G;have gc:=br (ik:=.seq) (rs:=[(.any,.lst ((bP (Kv (wo rs o) K) (wo rs o)).map A'))]) (aa j ag) trivial (by change a0 (((bP (Kv (wo rs o) K) (wo rs o)).map A').map λu=>(kE .any,u))=_;rw[fx];rfl) G;show aR z aq (bI (DI (qq (p:=b5) (q:=b5) (d5 (aF (m a) au trivial (bc (u:=.str "must") rfl)) au trivial (fz.trans (by rw[Ϩ rfl]))) λ_=>qq (p:=b5) (q:=b5) (aH (aa (C a) (aa j ag)) trivial kr) λ_=>Ad (d5 (D a) gc trivial (sk.trans (by rw[Ϩ hw]))))) eD)
end
def word_short{x:Str}(h:cq x.cps.toList):x.length<=20/\∀c∈x.cps.toList,c<16 ^ 8:=by
 have g:∀n:_root_.Fin 100,∀c∈(sT ((n:Nat):Int)).cps.toList,c<16 ^ 8:=by decide +kernel
 rw[len_list];rcases h with h|⟨a,b,k,e,h,k2,i,f⟩
 .have(j,l,d):=(cv _).mp h;show#[⋯,λc hc=>by have:=d c hc;lia]
 .have(j,l,d):=(cv _).mp h;have hl:=jL (k:=k) ⋯ i;rw[len_list,f]at hl;rw[e];show#[by simp;lia,λc hc=>?_];rcases hZ.mp hc with hc|hc
  .have:=d c hc;lia
  .rcases fR.mp hc with rfl|hc
   .decide
   .rw[<-f]at hc;have:=g #[k.toNat,⋯] c;have m:(((k.toNat:Nat)):Int)=k:=by lia
    rw[show(((⟨k.toNat,⋯⟩:_root_.Fin 100):Nat):Int)=k from m]at this;show this hc
section
def Dn:bC .ne (.bl a) (.bl b)=a0 (!(a==b)):=rfl
noncomputable def HV : List S :=
        [.set 7 (.idx (.var 2) (.bin .mod (.idx (.var 4) (.var 6)) (.bi .len [.var 2]))),
        .set 8 (.comp 1 cb .seq [.var 3] [.cmp .ne (.var 0) (.var 8)] (.var 0)),
        .set 9 (.idx (.var 8) (.bin .mod (.idx (.var 4) (.bin .add (.cst (.int 8)) (.var 6))) (.bi .len [.var 8]))),
        .set 10 (.call "free_or_must" [.var 1,.var 7,.var 9]),
        .set 11 (.comp 1 cb .seq [.var 8] [.cmp .Je (.var 8) (.call "_law_learnt" [.call "_law_struck" [.var 2,.var 0]])] (.var 0)),
        .ite (.or [.not (.call "_law_shown" [.var 1,.var 7,.var 9,.var 10]),.cmp .ne (.cmp .eq (.idx (.var 10) (.cst (.int 0))) (.cst (.str "must"))) (.cmp .isin (.var 9) (.var 11))])
          [.ret (.cst (.bl cb))]
          [],
        .ite (.cmp .ne (.bi .repr [.call "musts" [.var 1,.var 7]]) (.bi .repr [.var 11]))
          [.ret (.cst (.bl cb))]
          [],
        .ite (.cmp .le (.idx (.var 5) (.var 7)) (.cst (.int 2000)))
          [.set 12 (.comp 1 cb .seq [.call "reading" [.var 1,.var 7]] [] (.idx (.idx (.var 2) (.var 0)) (.cst (.int 0)))),
          .ite (.not (.bi .all [.comp 1 false .seq [.var 11] [] (.cmp .isin (.var 0) (.var 13))]))
            [.ret (.cst (.bl false))]
            []]
          [],
        .ite (.and [.cmp .gt (.bi .len [.var 11]) (.cst (.int 0)),.not (.bi .all [.comp 1 cb .seq [.call "musts" [.var 1,.idx (.var 11) (.cst (.int 0))]] [] (.cmp .isin (.var 0) (.var 12))])])
          [.ret (.cst (.bl cb))]
          []]
abbrev HW:List S :=
   [.ite (.and [.cmp .gt (.bi .len [.var 2]) (.cst (.int 0)),.cmp .gt (.bi .len [.var 3]) (.cst (.int 1))]) HV []]
abbrev uI:Fn:=#["law",1,13,[.set 1 (.call "_law_made" [.var 0]),.set 2 (.call "_law_learnt" [.var 1]),.set 3 (.call "_law_words" [.var 1]),.set 4 (.call "_law_drawn" [.call "_law_cell" [.var 0,.cst (.int 19)],.cst (.int 16)]),.set 5 (.bi .dict [.call "prices" [.var 1]]),.Jw cb [6] .JQ [.cst (.int 8)] HW,.ret (.cst (.bl b5))]]
structure LH(Γ:Tab)(ws:List Str)(rs:List Row):Prop where
 Xs:∀w o:Str,w≠o->o∈av rs->Ln rs w->∃u,Γ "free_or_must" [.tup (rs.map A'),.str w,.str o]=a0 (.ok (.loc,u))/\Nv rs w o u
 VJ:∀w:Str,Ln rs w->∃M,Sm rs w M/\Γ "musts" [.tup (rs.map A'),.str w]=a0 (.ok (.own,.lst ((aC M).map .str)))
 Xt:∀o:Str,∃K,Γ "_law_learnt" [.tup ((wo rs o).map A')]=a0 (.ok (.own,.lst ((aC K).map .str)))/\iF ws K/\KL.Kn (wo rs o) K
 Oc:∀o:Str,Γ "_law_struck" [.tup (rs.map A'),.str o]=a0 (.ok (.loc,.tup ((wo rs o).map A')))
 Xu:∀(w o:Str) (u:U),Nv rs w o u->Γ "_law_shown" [.tup (rs.map A'),.str w,.str o,u]=a0 (.ok (.loc,.bl b5))
 rd:A6 Γ
def Nv.hd(h:Nv rs w o u):∃(c:Str) (y:U),u=.tup [.str c,y]/\((df (c="must"))=b5↔¬Ln (wo rs o) w):=by
 cases h with
 |@free B l p a hl e =>
  show#["free",_,rfl,?_];rw[ϧ (by decide +kernel)];show#[(λz=>by cases z),(λz=>absurd ?_ z)];show DS a (λx b=>by cases b) (w,p) (by rw[e];simp)
 |@O7 K d f =>
  show#["must",_,rfl,?_];rw[Ϩ rfl];show#[λ_ z=>(kX.mp f).2 ((Kn.mem d).mpr z),λ_=>rfl]
abbrev Sv(ns a:List Int)(rs:List Row)(K W ks:List Str)(c:Str->Int)(o6 o7 o8 o9 o10 o11 o12:Option (Kd×U)):aB :=
 [a0 (.any,.lst (ns.map .int)),a0 (.loc,.tup (rs.map A')),a0 (.own,.lst (K.map .str)),a0 (.own,.lst (W.map .str)),a0 (.own,.lst (a.map .int)),a0 (.own,.Jc ks (ks.map λx=>.int (c x))),o6,o7,o8,o9,o10,o11,o12]
def Dp{k:Nat}(H:LH Γ ws rs)(D:Bq ws rs)(hW:∀x∈ws,cq x.cps.toList)(hK:KL.Kn rs K)(Xv:K.length<=24)(KA:ks.Perm (lim rs fuel s0).1)(L:16<=f.length)(h0:∀d∈f,0<=d)(hk:k<8)(h1:0<(aC K).length)(h2:1<(av rs).length):
  ∃q7 q8 q9 N7 N8 N9,Run (execs Γ HV) (Sv ns f rs (aC K) (av rs) ks (lim rs fuel s0).2 (a0 (.loc,.int (0+(k:Int)))) o7 o8 o9 o10 o11 o12) .nx (Sv ns f rs (aC K) (av rs) ks (lim rs fuel s0).2 (a0 (.loc,.int (0+(k:Int)))) q7 q8 q9 N7 N8 N9):=by
 have ar:(10000:Nat)<=dt:=by decide
 have wl:=D.wl;have rl:=D.rl;have MD:(av rs).length<=ws.length:=cS λr N=>(D.ok r N).ok;have B:=Bk.of D.wl D.rl D.ok;have bx:∀i:Nat,i<16->JK (f.map U.int) (i:Int)=a0 (.int (dd f i)):=λi hi=>cB (i:=i) ⋯;have(w,hw,ab):=kU (xs:=aC K) (z:=dd f k) (t:=(((aC K).map U.str).length:Nat)) (d8 h0 k) (by rw[cK];lia) (by rw[cK];lia);have Xn:w∈K:=(aY K).mem_iff.mp hw;have T:Ln rs w:=(Kn.mem hK).mp Xn;let O:List Str:=(av rs).filter λx=>!df (x=w);have VL:∀x,x∈O↔x∈av rs/\x≠w:=λx=>by change x∈(av rs).filter _↔_;rw[oa];simp
 have Xp:O.length<=24:=by have:O.length<=(av rs).length:=qb _ _;lia
 have as:0<O.length:=by
  have Y:=fB rs;have:∃x∈av rs,x≠w:=by
   match A:av rs,h2,Y with
   |a::b::l,_,Y =>
    by_cases e:a=w
    .show#[b,by simp,λz=>?_];rw[e,z]at Y;show(p6.mp Y).1 k7
    .show#[a,by simp,e]
   |[_],h2,_=>simp at h2
   |[],h2,_=>simp at h2
  have(x,a,b):=this;show Wu ((VL x).mpr #[a,b])
 have(o,ho,Pe):=kU (xs:=O) (z:=dd f (8+k)) (t:=((O.map U.str).length:Nat)) (d8 h0 (8+k)) (by rw[cK];lia) (by rw[cK];lia);have(Le,MN):=(VL o).mp ho;have(u,eu,fu):=H.Xs w o (uv MN) Le T;have(c,y,rfl,ac):=fu.hd;have(Kf,Rk):=Č.mp H.Xt;let g:List Str:=O.filter λx=>df (w∉aC (Kf x));have PX:∀x,x∈g↔(x∈av rs/\x≠w)/\¬Ln (wo rs x) w:=λx=>by
  change x∈O.filter _↔_;rw[oa,VL,Ϭ,(aY _).mem_iff,Kn.mem (Rk x).2.2]
 have Lf:g.length<=24:=by have:g.length<=O.length:=qb _ _;lia
 have al:∀x∈g,cq x.cps.toList:=λx A=>hW x (gO D ((PX x).mp A).1.1);have(M,hM,em):=H.VJ w T;have eM:aC M=g:=Gb D T hM (JM.trans JM) PX;rw[eM]at em;have Su:∀k:Kd,KG .repr [(k,.lst (g.map .str))]=a0 (.loc,.str (Xi g)):=λk=>x9 ⋯ λx A=>word_short (al x A);let S:=Sv ns f rs (aC K) (av rs) ks (lim rs fuel s0).2 (a0 (.loc,.int (0+(k:Int))));let s:Option (Kd×U):=a0 (.loc,.str w);let C:Option (Kd×U):=a0 (.own,.lst (O.map .str));let G:Option (Kd×U):=a0 (.loc,.str o);let PY:Option (Kd×U):=a0 (.loc,.tup [.str c,y]);let VM:Option (Kd×U):=a0 (.own,.lst (g.map .str));have g7:Run (ev Γ (.idx (.var 2) (.bin .mod (.idx (.var 4) (.var 6)) (.bi .len [.var 2])))) (S o7 o8 o9 o10 o11 o12) (.loc,.str w) (S o7 o8 o9 o10 o11 o12) :=
  aF (aA rfl) (fI (aF (aA rfl) (ae rfl) #[#[.own,rfl,rfl],trivial] (bb (by rw[WG];show bx k ⋯))) (cA (aa (aA rfl) ag) #[#[.own,rfl,rfl],trivial] fw) trivial (cV (by rw[cK];lia))) #[#[.own,rfl,rfl],trivial] (bb ab)
 have x8:=fy (cond:=aN Γ [.cmp .ne (.var 0) (.var 8)]) (elt:=ev Γ (.var 0)) (src:=[(.bor 3,.lst ((av rs).map .str))]) (st:=S s o8 o9 o10 o11 o12) #[#[.own,rfl,rfl],trivial] .loc (.inl rfl) U.str U.str (λx=>!df (x=w)) .loc (av rs) [] (by simp;lia)
  (λy _=>#[cR (aX (ae rfl) (ae rfl) trivial mQ),λ_=>#[ae rfl,aL]])
 rw[hY]at x8;have g8:Run (ev Γ (.comp 1 cb .seq [.var 3] [.cmp .ne (.var 0) (.var 8)] (.var 0))) (S s o8 o9 o10 o11 o12) (.own,.lst (O.map .str)) (S s o8 o9 o10 o11 o12):=br (rs:=[(.bor 3,.lst ((av rs).map .str))]) (aa (aA rfl) ag) #[#[.own,rfl,rfl],trivial] (by change a0 _=_;rw[fx];rfl) x8;have g9:Run (ev Γ (.idx (.var 8) (.bin .mod (.idx (.var 4) (.bin .add (.cst (.int 8)) (.var 6))) (.bi .len [.var 8])))) (S s C o9 o10 o11 o12) (.loc,.str o) (S s C o9 o10 o11 o12) :=
  aF (aA rfl) (fI (aF (aA rfl) (fI au (ae rfl) trivial ib) #[#[.own,rfl,rfl],trivial] (bb (by rw[WG,show(8+(k:Int))=((8+k:Nat):Int) by lia];show bx (8+k) ⋯))) (cA (aa (aA rfl) ag) #[#[.own,rfl,rfl],trivial] fw) trivial (cV (by rw[cK];lia))) #[#[.own,rfl,rfl],trivial] (bb Pe)
 have Xw:Run (ev Γ (.call "free_or_must" [.var 1,.var 7,.var 9])) (S s C G o10 o11 o12) (.loc,.tup [.str c,y]) (S s C G o10 o11 o12):=aH (aa (ae rfl) (aa (ae rfl) (aa (ae rfl) ag))) trivial eu;have Xx:=fy (cond:=aN Γ [.cmp .Je (.var 8) (.call "_law_learnt" [.call "_law_struck" [.var 2,.var 0]])]) (elt:=ev Γ (.var 0)) (src:=[(.bor 8,.lst (O.map .str))]) (st:=S s C G PY o11 o12) #[#[.own,rfl,rfl],trivial] .loc (.inl rfl) U.str U.str (λx=>df (w∉aC (Kf x))) .loc O [] (by simp;lia)
  (λx _=>#[cR (aX (ae rfl) (aH (aa (aH (aa (ae rfl) (aa (ae rfl) ag)) trivial (H.Oc x)) ag) trivial (Rk x).1) trivial dE),λ_=>#[ae rfl,aL]])
 rw[hY]at Xx;have Xy:Run (ev Γ (.comp 1 cb .seq [.var 8] [.cmp .Je (.var 8) (.call "_law_learnt" [.call "_law_struck" [.var 2,.var 0]])] (.var 0))) (S s C G PY o11 o12) (.own,.lst (g.map .str)) (S s C G PY o11 o12):=br (rs:=[(.bor 8,.lst (O.map .str))]) (aa (aA rfl) ag) #[#[.own,rfl,rfl],trivial] (by change a0 _=_;rw[fx];rfl) Xx;let n:=S s C G PY VM;have Pt:df (o∈g)=df (c="must"):=by
  rw[Ma,ac,Ϭ,PX];show#[λq=>q.2,λq=>#[#[Le,MN],q]]
 have t1:Run (Jx Γ (.or [.not (.call "_law_shown" [.var 1,.var 7,.var 9,.var 10]),.cmp .ne (.cmp .eq (.idx (.var 10) (.cst (.int 0))) (.cst (.str "must"))) (.cmp .isin (.var 9) (.var 11))])) (n o12) cb (n o12) :=
  xQ (jf (oG (c:=b5) (FX (aa (ae rfl) (aa (ae rfl) (aa (ae rfl) (aa (ae rfl) ag)))) trivial (H.Xu w o _ fu) rfl)) (oH (aX (d5 (aF (ae rfl) au trivial (bc (u:=.str c) rfl)) au trivial fz) (d5 (ae rfl) (aA rfl) #[#[.own,rfl,rfl],trivial] sk) trivial (Dn.trans (by rw[Pt];simp)))))
 have t2:Run (Jx Γ (.cmp .ne (.bi .repr [.call "musts" [.var 1,.var 7]]) (.bi .repr [.var 11]))) (n o12) cb (n o12) :=
  aX (cA (aa (aH (aa (ae rfl) (aa (ae rfl) ag)) trivial em) ag) trivial (Su _)) (cA (aa (aA rfl) ag) #[#[.own,rfl,rfl],trivial] (Su _)) trivial (mQ.trans (by simp))
 have t4:∀I,Run (Jx Γ (.and [.cmp .gt (.bi .len [.var 11]) (.cst (.int 0)),.not (.bi .all [.comp 1 cb .seq [.call "musts" [.var 1,.idx (.var 11) (.cst (.int 0))]] [] (.cmp .isin (.var 0) (.var 12))])])) (n I) cb (n I):=λI=>by
  have tl:Run (Jx Γ (.cmp .gt (.bi .len [.var 11]) (.cst (.int 0)))) (n I) (df (0<g.length)) (n I):=aX (cA (aa (aA rfl) ag) #[#[.own,rfl,rfl],trivial] fw) au trivial (fJ (by simp));cases Sw:g with
  |nil =>
   rw[Sw]at tl;show ka (ub tl)
  |cons x l =>
   rw[Ϩ (by rw[Sw];simp)]at tl;have A:=(PX x).mp (by rw[Sw];show k7);have Xz:Ln rs x:=uk λz=>A.2 (A8 z T);have(M2,VN,am):=H.VJ x Xz;have ap:M2.length<=24:=by have:=d7 VN.nd (m:=ws) λz hz=>gO D ((VN.iff z).mp hz).1.1.word;lia
   have JV:∀z∈aC M2,z∈g:=λz hz=>by
    have NT:=(VN.iff z).mp ((aY M2).mem_iff.mp hz);have(a,b):=uG Xz T A.1.2 A.2 NT.2;show(PX z).mpr #[#[NT.1.1.word,a],b]
   have hc:=di (cond:=aN Γ []) (elt:=ev Γ (.cmp .isin (.var 0) (.var 12))) (src:=[(.own,.lst ((aC M2).map .str))]) (st:=n I) trivial .loc (.inl rfl) U.str (λ_=>.bl b5) .loc (λ_=>dC) (aC M2) [] (by rw[bX];simp;lia)
    (λz hz=>#[d5 (ae rfl) (aA rfl) #[#[.own,rfl,rfl],trivial] (sk.trans (by rw[Ϩ (JV z hz)])),aL])
   rw[hY,show((aC M2).map λ_=>U.bl b5)=((aC M2).map λ_=>b5).map U.bl by rw[fx];rfl]at hc;have L:=jn (k:=.own) ((aC M2).map λ_=>b5);rw[show(((aC M2).map λ_=>b5).all id)=b5 by rw[UE];show oT.mpr λ_ _=>rfl]at L;have gx:Run (ev Γ (.idx (.var 11) (.cst (.int 0)))) (n I) (.loc,.str x) (n I):=aF (aA rfl) au #[#[.own,rfl,rfl],trivial] (bb (show JK (g.map U.str) 0=a0 (.str x) by rw[Sw];show bQ (j:=0) rfl));show ka (qf tl (cR (oG (c:=b5) (jO (cA (aa (br (rs:=[(.own,.lst ((aC M2).map .str))]) (aa (aH (aa (ae rfl) (aa gx ag)) trivial am) ag) trivial (by change a0 _=_;rw[fx];rfl) hc) ag) trivial L)))))
 have Rn:w∈(lim rs fuel s0).1:=(Kn.mem B.kn).mpr T;have gp:Run (ev Γ (.idx (.var 5) (.var 7))) (n o12) (.loc,.int ((lim rs fuel s0).2 w)) (n o12) :=
  aF (aA rfl) (ae rfl) #[#[.own,rfl,rfl],trivial] (by change(cJ ks (ks.map λx=>U.int ((lim rs fuel s0).2 x)) w).map _=_;rw[gu (KA.mem_iff.mpr Rn)];rfl)
 have t3:Run (Jx Γ (.cmp .le (.idx (.var 5) (.var 7)) (.cst (.int 2000)))) (n o12) (df ((lim rs fuel s0).2 w<=2000)) (n o12):=aX gp au trivial (HM rfl);by_cases hc:(lim rs fuel s0).2 w<=2000
 .rw[Ϩ hc]at t3;have(ps,er,wk,pl):=H.rd ws rs w B Rn hc;have JN:ps.length<=2000:=by lia
  have MJ:∀p∈ps,∃r,rs[p]?=a0 r:=by
   have:∀{P Q:List Str} {ps:List Nat},Wk rs P ps Q->∀p∈ps,∃r,rs[p]?=a0 r:=λk=>by
    induction k with
    |nil=>intro p hp;cases hp
    |cons h t ih=>intro p hp;rcases fR.mp hp with rfl|hp;show#[_,h];show ih p hp
   show this wk
  let J:Nat->Str:=λp=>((rs[p]?).map λr:Row=>r.1).getD "";have XA:=di (cond:=aN Γ []) (elt:=ev Γ (.idx (.idx (.var 2) (.var 0)) (.cst (.int 0)))) (src:=[(.own,.lst (ps.map λp:Nat=>.int (p:Int)))]) (st:=n o12) trivial .loc (.inl rfl) (λp:Nat=>U.int (p:Int)) (λp=>.str (J p)) .loc (λ_=>dC) ps [] (by simp;lia)
   (λp hp=>by
    have(r,N):=MJ p hp;have Lk:(rs.map A')[p]?=a0 (A' r):=by rw[i5,N];rfl
    have e:J p=r.1:=by change((rs[p]?).map λr:Row=>r.1).getD ""=_;rw[N];rfl
    rw[e];show#[aF (aF (ae rfl) (ae rfl) trivial (bc (bQ Lk))) au trivial (bc rfl),aL])
  rw[hY,show(ps.map λp=>U.str (J p))=(ps.map J).map U.str by rw[fx];rfl]at XA;have an:Run (ev Γ (.comp 1 cb .seq [.call "reading" [.var 1,.var 7]] [] (.idx (.idx (.var 2) (.var 0)) (.cst (.int 0))))) (n o12) (.own,.lst ((ps.map J).map .str)) (n o12) :=
   br (rs:=[(.own,.lst (ps.map λp:Nat=>.int (p:Int)))]) (aa (aH (aa (ae rfl) (aa (ae rfl) ag)) trivial er) ag) trivial (by change a0 _=_;rw[fx];rfl) XA
  let v:Option (Kd×U):=a0 (.own,.lst ((ps.map J).map .str));have JV:∀z∈g,z∈ps.map J:=λz hz=>uk λY=>by
   show((PX z).mp hz).2 (Wk.HQ wk (λx A=>by cases A) (λp hp r N e=>Y ?_) w k7);show k8.mpr #[p,hp,by change((rs[p]?).map λr:Row=>r.1).getD ""=_;rw[N];show e]
  have QW:=di (cond:=aN Γ []) (elt:=ev Γ (.cmp .isin (.var 0) (.var 13))) (src:=[(.bor 11,.lst (g.map .str))]) (st:=n v) #[#[.own,rfl,rfl],trivial] .loc (.inl rfl) U.str (λ_=>.bl b5) .loc (λ_=>dC) g [] (by simp;lia)
   (λz hz=>#[d5 (ae rfl) (aA rfl) #[#[.own,rfl,rfl],trivial] (sk.trans (by rw[Ϩ (JV z hz)])),aL])
  rw[hY,show(g.map λ_=>U.bl b5)=(g.map λ_=>b5).map U.bl by rw[fx];rfl]at QW;have L:=jn (k:=.own) (g.map λ_=>b5);rw[show((g.map λ_=>b5).all id)=b5 by rw[UE];show oT.mpr λ_ _=>rfl]at L;have t5:Run (Jx Γ (.not (.bi .all [.comp 1 cb .seq [.var 11] [] (.cmp .isin (.var 0) (.var 13))]))) (n v) cb (n v) :=
   oG (c:=b5) (jO (cA (aa (br (rs:=[(.bor 11,.lst (g.map .str))]) (aa (aA rfl) ag) #[#[.own,rfl,rfl],trivial] (by change a0 _=_;rw[fx];rfl) QW) ag) trivial L))
  show#[s,C,G,PY,VM,v,aD g7 aO (aD g8 aZ (aD g9 aO (aD Xw aO (aD Xy aZ (aR t1 aq (aR t2 aq (cF t3 (aD an aZ (aR t5 aq aq)) (aR (t4 v) aq aq))))))))]
 .rw[ϧ hc]at t3;show#[s,C,G,PY,VM,o12,aD g7 aO (aD g8 aZ (aD g9 aO (aD Xw aO (aD Xy aZ (aR t1 aq (aR t2 aq (aR t3 aq (aR (t4 o12) aq aq))))))))]
def yd{ns a:List Int}{K ks:List Str}(H:LH Γ ws rs)(m:Bq ws rs)(w:∀x∈ws,cq x.cps.toList)(y:KL.Kn rs K)(A:K.length<=24)(u:ks.Perm (lim rs fuel s0).1)(Y:a.length=16)(B:∀d∈a,0<=d)
  (C:Γ "_law_made" [.lst (ns.map .int)]=a0 (.ok (.loc,.tup (rs.map A')))) (hl:Γ "_law_learnt" [.tup (rs.map A')]=a0 (.ok (.own,.lst ((aC K).map .str)))) (D:Γ "_law_words" [.tup (rs.map A')]=a0 (.ok (.own,.lst ((av rs).map .str))))
  (G:Γ "_law_cell" [.lst (ns.map .int),.int 19]=a0 (.ok (.loc,.int z))) (I:Γ "_law_drawn" [.int z,.int 16]=a0 (.ok (.own,.lst (a.map .int)))) (J:Γ "prices" [.tup (rs.map A')]=a0 (.ok (.own,.lst (ks.map (Lg (lim rs fuel s0).2))))) :
  bN Γ uI [.lst (ns.map .int)]=a0 (.ok (.loc,.bl b5)):=by
 have L:ks.Nodup:=u.nodup_iff.mpr (Bk.of m.wl m.rl m.ok).inv.1.1;let S:=Sv ns a rs (aC K) (av rs) ks (lim rs fuel s0).2;have(st',N,_,o,b,c,f,g,h,j,e):=b8 (t:=cb) (is:=[6]) (body:=execs Γ HW) (rs:=[(.loc,.int 8)]) (λi:Nat=>(Kd.loc,U.int (0+(i:Int))))
  (λd r st=>d++r=hH 8/\∃o b c f g h j,st=S o b c f g h j) (λ_ _ _ _=>trivial) (λd k r st O=>by
   have(p,o,b,c,f,g,h,j,e):=O;subst e;have s:k<8:=by
    have:k∈hH 8:=by rw[<-p];simp
    show Jl.mp this
   let v:Option (Kd×U):=a0 (.loc,.int (0+(k:Int)));have n:Run (Jx Γ (.and [.cmp .gt (.bi .len [.var 2]) (.cst (.int 0)),.cmp .gt (.bi .len [.var 3]) (.cst (.int 1))])) (S v b c f g h j) (df (0<(aC K).length)&&df (1<(av rs).length)) (S v b c f g h j) :=
    ka (um (aX (cA (aa (aA rfl) ag) #[#[.own,rfl,rfl],trivial] fw) au trivial (fJ (by simp))) λ_=>cR (aX (cA (aa (aA rfl) ag) #[#[.own,rfl,rfl],trivial] fw) au trivial (fJ (by simp;lia))))
   cases l:(df (0<(aC K).length)&&df (1<(av rs).length)) with
   |false =>
    rw[l]at n;show#[_,_,dg aO,aR n aq aq,by rw[<-p];simp,_,_,_,_,_,_,_,rfl]
   |true =>
    rw[l]at n;rw[du,Ϭ,Ϭ]at l;have(p7,p8,p9,Q,T,Nw,q):=Dp (Γ:=Γ) (ns:=ns) (o7:=b) (o8:=c) (o9:=f) (o10:=g) (o11:=h) (o12:=j) H m w y A u ⋯ B s l.1 l.2;show#[_,_,dg aO,cF n q aq,by rw[<-p];simp,_,_,_,_,_,_,_,rfl]) (hH 8) [] (S bD bD bD bD bD bD bD) ⟨rfl,bD,bD,bD,bD,bD,bD,bD,rfl⟩
 subst e;show aI (st0:=[a0 (.any,.lst (ns.map .int)),bD,bD,bD,bD,bD,bD,bD,bD,bD,bD,bD,bD]) rfl (.inr rfl) rfl (aD (aH (aa (aQ rfl) ag) trivial C) aO (aD (aH (aa (ae rfl) ag) trivial hl) aZ (aD (aH (aa (ae rfl) ag) trivial D) aZ
  (aD (aH (aa (aH (aa (aQ rfl) (aa au ag)) trivial G) (aa au ag)) trivial I) aZ (aD (cA (aa (aH (aa (ae rfl) ag) trivial J) ag) trivial (qF (lim rs fuel s0).2 L)) aZ
   (cm (rs:=[(.loc,.int 8)]) (aa au ag) trivial (qk (z:=8) ⋯ ⋯) rfl N (bI au eD)))))))
end
end TM
namespace K
open PySem L2 TM
abbrev top(i:Nat):QO:=PySem.Challenge.pw_primer_k91_whole_musts.main.body.getD i (.Pass #[0,0,0,0])
noncomputable abbrev mZ:Fn:=TM.mO
noncomputable abbrev dn:Fn:=KL.dn
noncomputable abbrev e_:Fn:=TM.sA
noncomputable abbrev bp:Fn:=KL.bp
noncomputable abbrev cT:Fn:=KL.cT
noncomputable abbrev bw:Fn:=KL.bw
noncomputable abbrev fC:Fn:=KL.fC
noncomputable abbrev eZ:Fn:=KL.eZ
noncomputable abbrev jr:Fn:=KK.wc
noncomputable abbrev eE:Fn:=TM.wJ
abbrev A_:Fn:=#["knot",1,4,[.newD 1,.Jw cb [2] .seq [.call "not_learnt" [.var 0]] [.putD 1 (.var 2) (.lst [])],.Jw cb [3] .seq [.var 0] [.ite (.inD cb (.idx (.var 3) (.cst (.int 0))) 1) [.KP 1 (.idx (.var 3) (.cst (.int 0))) (.idx (.comp 1 cb .seq [.idx (.var 3) (.cst (.int 1))] [.inD cb (.var 0) 2] (.var 0)) (.cst (.int 0)))] []],.LJ 1 (.tup [.var 0,.bi .tuple [.var 1]])]]
noncomputable abbrev oW:Fn:=TM.PR
noncomputable abbrev h_:Fn:=TM.Sk
noncomputable abbrev wM:Fn:=TM.A7
noncomputable abbrev gy:Fn:=TM.DR
noncomputable abbrev kg:Fn:=TM.wu
noncomputable abbrev dJ:Fn:=TM.Dd
noncomputable abbrev sG:Fn:=TM.k_
noncomputable abbrev kh:Fn:=TM.qE
noncomputable abbrev oX:Fn:=TM.A5
noncomputable abbrev oY:Fn:=TM.xR
noncomputable abbrev m7:Fn:=TM.vT
noncomputable abbrev kl:Fn:=TM.qh
abbrev m8:Fn:=#["_law_name",2,6,[.set 2 (.cst (.str "abcdefghijklmnopqrstuvwxyz")),.set 3 (.MS .join (.cst (.str "")) [.comp 1 cb .JQ [.bin .add (.cst (.int 1)) (.bin .mod (.idx (.var 0) (.cst (.int 0))) (.cst (.int 8)))] [] (.idx (.var 3) (.bin .mod (.idx (.var 1) (.bin .add (.cst (.int 4)) (.var 0))) (.cst (.int 26))))]),.ite (.cmp .gt (.bi .len [.var 1]) (.cst (.int 0))) [.set 4 (.idx (.MS .split (.idx (.var 1) (.bin .mod (.idx (.var 0) (.cst (.int 1))) (.bi .len [.var 1]))) [.cst (.str "/")]) (.cst (.int 0))),.ite (.cmp .eq (.bin .mod (.idx (.var 0) (.cst (.int 2))) (.cst (.int 4))) (.cst (.int 1))) [.set 3 (.NX (.bin .add (.var 4) (.var 3)) [] [.cst (.int 8)])] [],.ite (.cmp .eq (.bin .mod (.idx (.var 0) (.cst (.int 2))) (.cst (.int 4))) (.cst (.int 2))) [.set 3 (.bin .add (.bin .add (.var 4) (.cst (.str "/"))) (.bi .str [.bin .add (.cst (.int 2)) (.bin .mod (.idx (.var 0) (.cst (.int 3))) (.cst (.int 98)))]))] []] [],.set 5 (.bin .add (.lst [.var 3]) (.comp 1 cb .JQ [.cst (.int 40)] [] (.bin .add (.idx (.var 3) (.bin .LF (.var 0) (.cst (.int 26)))) (.idx (.var 3) (.bin .mod (.var 0) (.cst (.int 26))))))),.ret (.idx (.comp 1 cb .seq [.var 5] [.cmp .Je (.var 0) (.var 2)] (.var 0)) (.cst (.int 0)))]]
noncomputable abbrev km:Fn:=TM.fNames
noncomputable abbrev m9:Fn:=TM.kf
noncomputable abbrev m_:Fn:=TM.An
noncomputable abbrev ng:Fn:=TM.Ar
noncomputable abbrev js:Fn:=TM.wK
noncomputable abbrev kq:Fn:=TM.sE
noncomputable abbrev eF:Fn:=TM.Ss
noncomputable abbrev fb:Fn:=TM.Sr
abbrev jt:Fn:=#["_law_struck",2,2,[.ret (.bi .tuple [.comp 1 cb .seq [.var 0] [.cmp .ne (.idx (.var 0) (.cst (.int 0))) (.var 2)] (.var 0)])]]
noncomputable abbrev ku:Fn:=TM.Dm
noncomputable abbrev DU:Fn:=TM.uI
abbrev prog:List Fn:=[mZ,dn,e_,bp,cT,bw,fC,eZ,jr,eE,A_,oW,h_,wM,gy,kg,dJ,sG,kh,oX,oY,m7,kl,m8,km,m9,m_,ng,js,kq,eF,fb,jt,ku,DU]
abbrev ck:Ck:=#[prog.map (·.name),[("DEAREST_READ",(.int 2000))],prog.filterMap λf=>f.io.map λp=>(f.name,p.1)]
end K
namespace K
open PySem L2 TM JB Od
def makers:Av prog:=#[rfl,rfl,rfl,rfl,rfl,rfl,rfl]
def Sx:Xm prog:=#[#[rfl,rfl,rfl,rfl,rfl,rfl],rfl,rfl,rfl,rfl,rfl,rfl,rfl,rfl]
def XB:So prog:=#[#[rfl,rfl,rfl,rfl,rfl,rfl],rfl,rfl,rfl,rfl,rfl,rfl,rfl,rfl,rfl]
def lh(a:Bq ws rs):LH (Ji prog 8) ws rs where
 Xs:=λw o b c d=>I_ XB 0 a b c d
 VJ:=λw h=>Ja XB 1 a h
 Xt:=λo=>HR (show Jv prog "_law_learnt" wK from rfl) Bv.tup (by have:=a.wl;lia) (a.wo o).ok
 Oc:=λo=>DT (show Jv prog "_law_struck" Dj from rfl) (by have:=a.rl;lia) o
 Xu:=λw o u h=>HU (show Jv prog "_law_shown" Dm from rfl) (show Jv prog "_law_struck" Dj from rfl) (show Jv prog "without" PR from rfl) (show Jv prog "_law_steps_right" Ss from rfl) (show Jv prog "_law_knot_right" Sr from rfl) (show Jv prog "_law_words" sE from rfl) a h
 rd:=F8 Sx 1
def pure(ns:List Int)(n:ns.length<=63):Ji prog 9 "law" [z_ ns]=a0 (.ok (.loc,.bl b5)):=by
 have(names,rows,o,p,s,f,u,v,a,g):=As (Γ:=Ji prog 7) makers.jN makers.drawnOk makers.namesOk makers.FW ns;have b:Bq names rows:=#[⋯,⋯,λr e=>#[(a r e).word,(a r e).once,(a r e).told,(a r e).MF]]
 have(z,hz):=(makers.jN:jM (Ji prog 8)) ns 19 ⋯;have(w,h,i,j):=(makers.drawnOk:gL (Ji prog 8)) z 16 ⋯;have(K,k1,k2,k):=HR (d:=7) (show Jv prog "_law_learnt" wK from rfl) Bv.tup ⋯ b.ok;have(ks,l,p2):=wD (d:=7) (A3 (uD Sx.q) Sx.t) Sx.c names rows b.wl b.ok;have hl:K.length<=24:=by have:=d7 k2.1 (m:=names) k2.2;lia
 show(ay (show Jv prog "law" uI from rfl) _).trans (yd (lh b) b f k hl l h i ((ay (show Jv prog "_law_made" Ar from rfl) _).trans g) k1
  ((ay (show Jv prog "_law_words" sE from rfl) _).trans (sF ⋯ a ⋯)) hz j p2)
end K
namespace K
open PySem L2 TM PySem.W PyProof.Rows
abbrev m0:dV:=.str "primer.books" 255
abbrev m1:dV:=.str "primer.learning" 284
abbrev m2:dV:=.str "primer.knots" 340
abbrev m3:dV:=.str "primer.musts" 348
abbrev m4:dV:=.str "primer.prices" 385
abbrev m5:dV:=.str "primer.readings" 411
abbrev m6:dV:=.str "law_primer_k91_whole_musts" 427
abbrev ml:Me:=#[DU,47,["_law_script","_law_book_here","_law_known","_law_words_here","_law_bits","_law_costs","_law_k","_law_word","_law_others","_law_other","_law_found","_law_due","_law_heads"],272,271,m6,co "law" 548 246 1 268 269 .none .none (.ref 270) 551 552 181]
abbrev ms:List Me:=[⟨mZ,6,["book","words","row"],70,69,m0,co "words_of" 257 11 1 64 65 (.ref 66) (.ref 67) (.ref 68) 263 264 181⟩,
 ⟨dn,7,["pairs","found","key","value"],77,76,m0,co "gathered" 266 17 1 71 72 (.ref 73) (.ref 74) (.ref 75) 273 274 181⟩,
 ⟨e_,8,["book","words"],84,83,m0,co "refuse_unknown" 276 24 2 78 79 (.ref 80) (.ref 81) (.ref 82) 281 282 181⟩,
 ⟨bp,10,["book","pairs","place","row"],89,88,m1,co "places_that_tell" 286 28 1 85 86 .none .none (.ref 87) 289 290 181⟩,
 ⟨cT,11,["book","places","known","steps","place","word"],96,95,m1,co "new_steps" 292 33 3 90 91 (.ref 92) (.ref 93) (.ref 94) 301 302 181⟩,
 ⟨bw,12,["book","tellers","missing","known","found","ready","steps","word","place","teller"],101,100,m1,co "steps_in_rounds" 304 40 1 97 98 .none .none (.ref 99) 307 308 181⟩,
 ⟨fC,13,["book","found","steps"],108,107,m1,co "order" 310 58 1 102 103 (.ref 104) (.ref 105) (.ref 106) 316 317 181⟩,
 ⟨eZ,14,["book"],113,112,m1,co "learnt" 319 63 1 109 110 .none .none (.ref 111) 322 323 181⟩,
 ⟨jr,15,["book"],120,119,m1,co "not_learnt" 325 65 1 114 115 (.ref 116) (.ref 117) (.ref 118) 329 330 181⟩,
 ⟨eE,16,["book","word"],127,126,m1,co "refuse_unlearnt" 332 67 2 121 122 (.ref 123) (.ref 124) (.ref 125) 337 338 181⟩,
 ⟨A_,18,["book","blocks","word","row"],132,131,m2,co "knot" 342 71 1 128 129 .none .none (.ref 130) 345 346 181⟩,
 ⟨oW,20,["book","word"],137,136,m3,co "without" 350 80 2 133 134 .none .none (.ref 135) 353 354 181⟩,
 ⟨h_,21,["book","word","backward","wanted","step","each"],144,143,m3,co "order_up_to" 356 82 2 138 139 (.ref 140) (.ref 141) (.ref 142) 365 366 181⟩,
 ⟨wM,22,["book","word","others"],149,148,m3,co "musts" 368 91 2 145 146 .none .none (.ref 147) 371 372 181⟩,
 ⟨gy,23,["book","word","other","rest","steps"],156,155,m3,co "free_or_must" 374 96 3 150 151 (.ref 152) (.ref 153) (.ref 154) 382 383 181⟩,
 ⟨kg,25,["row","found"],161,160,m4,co "row_price" 387 105 2 157 158 .none .none (.ref 159) 390 391 181⟩,
 ⟨dJ,26,["book","found","fallen","place","row","price"],166,165,m4,co "prices_and_places" 393 107 1 162 163 .none .none (.ref 164) 396 397 181⟩,
 ⟨sG,27,["book"],171,170,m4,co "prices" 399 119 1 167 168 .none .none (.ref 169) 402 403 181⟩,
 ⟨kh,28,["book"],176,175,m4,co "best_rows" 405 121 1 172 173 .none .none (.ref 174) 408 409 181⟩,
 ⟨oX,31,["book","word","places","backward","waiting","place"],183,182,m5,co "reading" 415 125 2 177 178 (.ref 179) (.ref 180) (.ref 181) 424 425 181⟩,
 ⟨oY,33,["_law_cell_here","_law_k","_law_by"],190,189,m6,co "_law_mix" 429 139 2 184 185 (.ref 186) (.ref 187) (.ref 188) 435 436 181⟩,
 ⟨m7,34,["_law_script","_law_k","_law_seed"],197,196,m6,co "_law_cell" 438 142 2 191 192 (.ref 193) (.ref 194) (.ref 195) 444 445 181⟩,
 ⟨kl,35,["_law_cell_here","_law_many","_law_found","_law_left","_law_k"],204,203,m6,co "_law_drawn" 447 149 2 198 199 (.ref 200) (.ref 201) (.ref 202) 455 456 181⟩,
 ⟨m8,36,["_law_drawn_here","_law_names_here","_law_letters","_law_name_here","_law_stem","_law_spare"],209,208,m6,co "_law_name" 458 159 2 205 206 .none .none (.ref 207) 461 462 181⟩,
 ⟨km,37,["_law_script","_law_base","_law_many","_law_names_here","_law_k"],216,215,m6,co "_law_names" 464 170 3 210 211 (.ref 212) (.ref 213) (.ref 214) 472 473 181⟩,
 ⟨m9,38,["_law_drawn_here","_law_names_here","_law_top","_law_told_here","_law_k","_law_one"],223,222,m6,co "_law_told" 475 175 2 217 218 (.ref 219) (.ref 220) (.ref 221) 484 485 181⟩,
 ⟨m_,39,["_law_script","_law_base","_law_names_here","_law_many","_law_rows","_law_met","_law_k","_law_drawn_here","_law_row","_law_key"],230,229,m6,co "_law_book" 487 185 4 224 225 (.ref 226) (.ref 227) (.ref 228) 500 501 181⟩,
 ⟨ng,40,["_law_script","_law_drawn_here","_law_names_here"],237,236,m6,co "_law_made" 503 196 1 231 232 (.ref 233) (.ref 234) (.ref 235) 509 510 181⟩,
 ⟨js,41,["_law_book_here","_law_known","_law_going","_law_word","_law_told_here"],242,241,m6,co "_law_learnt" 512 200 1 238 239 .none .none (.ref 240) 515 516 181⟩,
 ⟨kq,42,["_law_book_here","_law_words_here","_law_row"],247,246,m6,co "_law_words" 518 210 1 243 244 .none .none (.ref 245) 521 522 181⟩,
 ⟨eF,43,["_law_book_here","_law_steps","_law_known","_law_word","_law_place"],252,251,m6,co "_law_steps_right" 524 215 2 248 249 .none .none (.ref 250) 527 528 181⟩,
 ⟨fb,44,["_law_book_here","_law_pairs","_law_held","_law_words_here","_law_word","_law_blocks","_law_rows","_law_told_here","_law_block"],257,256,m6,co "_law_knot_right" 530 224 2 253 254 .none .none (.ref 255) 533 534 181⟩,
 ⟨jt,45,["_law_book_here","_law_word"],262,261,m6,co "_law_struck" 536 237 2 258 259 .none .none (.ref 260) 539 540 181⟩,
 ⟨ku,46,["_law_book_here","_law_word","_law_other","_law_found","_law_rest"],267,266,m6,co "_law_shown" 542 239 4 263 264 .none .none (.ref 265) 545 546 181⟩,
 ml]
abbrev gg(P:Ĺ):Obj:=#[.type "dict",bD,.dict #v[ge P "__name__" 165 (.str "law_primer_k91_whole_musts" 427),ge P "__doc__" 166 .none,ge P "__package__" 167 .none,ge P "__loader__" 168 (.builtin "__main__.__loader__#opaque"),ge P "__spec__" 169 .none,ge P "__annotations__" 170 (.ref 6),ge P "__builtins__" 171 (.ref 4),ge P "__file__" 173 (.str "/claim/cut.py" 172),ge P "__cached__" 174 .none,ge P "PrimerError" 206 (.ref 24),ge P "Unknown" 222 (.ref 37),ge P "Unlearnt" 238 (.ref 49),ge P "TooMany" 254 (.ref 61),ge P "words_of" 265 (.ref 70),ge P "gathered" 275 (.ref 77),ge P "refuse_unknown" 283 (.ref 84),ge P "places_that_tell" 291 (.ref 89),ge P "new_steps" 303 (.ref 96),ge P "steps_in_rounds" 309 (.ref 101),ge P "order" 318 (.ref 108),ge P "learnt" 324 (.ref 113),ge P "not_learnt" 331 (.ref 120),ge P "refuse_unlearnt" 339 (.ref 127),ge P "knot" 347 (.ref 132),ge P "without" 355 (.ref 137),ge P "order_up_to" 367 (.ref 144),ge P "musts" 373 (.ref 149),ge P "free_or_must" 384 (.ref 156),ge P "row_price" 392 (.ref 161),ge P "prices_and_places" 398 (.ref 166),ge P "prices" 404 (.ref 171),ge P "best_rows" 410 (.ref 176),ge P "DEAREST_READ" 414 (.int 2000 413),ge P "reading" 426 (.ref 183),ge P "_law_mix" 437 (.ref 190),ge P "_law_cell" 446 (.ref 197),ge P "_law_drawn" 457 (.ref 204),ge P "_law_name" 463 (.ref 209),ge P "_law_names" 474 (.ref 216),ge P "_law_told" 486 (.ref 223),ge P "_law_book" 502 (.ref 230),ge P "_law_made" 511 (.ref 237),ge P "_law_learnt" 517 (.ref 242),ge P "_law_words" 523 (.ref 247),ge P "_law_steps_right" 529 (.ref 252),ge P "_law_knot_right" 535 (.ref 257),ge P "_law_struck" 541 (.ref 262),ge P "_law_shown" 547 (.ref 267),ge P "law" 553 (.ref 272)] 49,#v[]]
abbrev vw:B':=view PySem.Challenge.pw_primer_k91_whole_musts [6,7,8,10,11,12,13,14,15,16,18,20,21,22,23,25,26,27,28,31,33,34,35,36,37,38,39,40,41,42,43,44,45,46,47]
abbrev hk:Hook:=kHook (λP=>LL top (gg P) ms) (adr ms) λP=>vO top (gg P) ms
abbrev lo:List Str:=["PrimerError","Unknown","Unlearnt","TooMany","DEAREST_READ"]
noncomputable abbrev xt(s:gj):Bool:=xlAt vw [] s&&recOk (RowW.records PySem.Challenge.rw_primer_k91_whole_musts.row.toRowW) s
noncomputable abbrev oe(w:JT):Option gj:=openEnds treeTable PySem.Challenge.rw_primer_k91_whole_musts.row.prog w 4000
noncomputable abbrev os(s:gj):=openSeen vw lo (importedModules PySem.Challenge.rw_primer_k91_whole_musts.row.prog.main.body) xt b5 s
def LS(w:JT):(oe w).map (λs=>(os s).1)=a0 (openGood vw lo).1:=by kernel_rfl
def L9(w:JT):(oe w).map (λs=>(os s).2)=a0 (openGood vw lo).2:=by kernel_rfl
def PL(w:JT):(oe w).map hk.obs=a0 (hk.val w):=by kernel_rfl
def hl:LeftO PySem.Challenge.rw_primer_k91_whole_musts.row.prog vw lo xt hk.obs hk.val 4000:=λw=>by
 have(s,e,a):=ez.mp (LS w);have b:=L9 w;have c:=PL w;rw[e]at b c;change(oe w).map _=_;rw[e];show ϩ a0 (Ù (Ù a (tA b)) (tA c))
def hs:PySem.Challenge.rw_primer_k91_whole_musts.wellSaid=b5:=by kernel_rfl
def ho(P:Ĺ):N3 ck top (LL top (gg P) ms) ms=b5:=by kernel_rfl
end K
open PySem PySem.W PyProof.Rows K
theorem PySem.Challenge.cw_primer_k91_whole_musts_holds : PySem.Challenge.rw_primer_k91_whole_musts.Holds := by
 w_on
 refine holds_law hs λz => ?_;refine holds_open hl hk.of hk.keeps (λs e => xl_of s (Ke.mp e).1) XL.keeps rfl rfl rfl (λs e => recFacts_of (Ke.mp e).2) rfl z (by kernel_rfl) ⟨rfl, rfl, rfl, rfl, rfl, by decide +kernel⟩ ?hw ?a
 (case hw => w_witness2)
 exact TM.walk2 (l := PySem.Challenge.rw_primer_k91_whole_musts) (Pg := prog) (ck := ck) (dp := 8) (x := "_law_script") (m := ml) rfl rfl ⟨rfl, by decide, by decide, rfl⟩ rfl (by decide +kernel) (by decide +kernel) rfl (WK.mpr ⟨34, rfl⟩) rfl rfl ho K.pure
