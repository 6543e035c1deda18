import PyProof.Rows.All
import Wide.All
import OpenK.AllK
import Wide.FinOn
import Lean
import PyProof.EqAt
import PyProof.EqKinds
import PyProof.TupleCall
import PyProof.StrLawsChain
import PyProof.StrLawsFirst
import PyProof.Rows.StrNews2
import OpenK.AllK
import PyProof.DictItems
import OpenK.AllK
import PyProof.StationsW
import PyProof.ExcBaseAll.ValueError
import PyProof.RulesAs
import PyProof.NsDelKeeps
import OpenK.AllK
import PyProof.ExcArgsOwn
import PyProof.ExcAttrAll.ValueError
import PyProof.IsiBase
import PyProof.ReprBulk
import PySem.Challenge.RW_primer_k53_shelves_refused
set_option Elab.async false
set_option linter.all false
set_option bootstrap.genMatcherCode false
set_option maxRecDepth 100000
set_option maxHeartbeats 4000000
set_option genInjectivity false
set_option genSizeOf false
set_option autoImplicit true
set_option relaxedAutoImplicit true
open Option renaming some->a5,none->bD,map_eq_some_iff->gi,bind_eq_some_iff->r3,isNone_iff_eq_none->RU,isSome_iff_exists->R0,isSome_map->UQ,map_some->Wg,isSome_some->Zi,getD_none->Ì
open Bool renaming true->a8,and_eq_true->bF,false->bL,false_ne_true->i7,not_eq_true'->nC,eq_iff_iff->oT,and_eq_true_iff->rl,or_eq_true->OS,and_false->T9,false_eq_true->UT,and_true->X0,or_eq_false_iff->Zy,or_false->đ,false_or->Ē
open PySem renaming wpAny_bind->bR,sizeLine->b6,Value->cK,wpAny_pure->c6,Addr->df,Shared->dt,wpAny->du,model->d5,starEach->gj,mainGlobals->hQ,Expr->lx,wpAny_mono->mu,eval->tj,wpAny_Call_Name_kw->tp,Program->tr,backTo->uv,World->ux,wpAny_call_entry->ve,bootBuiltins->vl,wpAny_newObj_type->wh,wpAny_holding->x4,wpAny_field->C0,wpAny_callSpecial?_slot->DD,keywordEach->Es,Around->Ke,Heap->K2,holding->K9,Scope->Lg,wpAny_truthy_bool->Lp,cellsFrom->LF,Stmt->LX,cLine->L',NameKind->Mb,builtinLookup_eq_fast->MW,wpAny_execs_nil->Nd,scanBound->Nf,codeAny_builtin->Nh,wpAny_of_eq->Nl,foldedSetIterable->Nz,backToKw->Oc,sysModules->OX,codeAny->OY,Keyword->O1,Builtin->O3,wpAny_passesOwn->O5,compareOp->Pc,attributeBase->Pn,call->PB,wpAny_rule->PD,isSubtype_type->PF,swapsWith->PL,codeAny_mono->PM,binaryOp->P',wpAny_specialOf->Qn,typeLookup_type->Qt,wpAny_pyIter_tuple->Qv,tupleKind_room_in1->QB,assignEach->QC,wpAny_getItem_str_slice->QE,wpAny_loadPart_at->QR,FuncData->QV,rawInt->Ra,call_meets->Ro,swapsWithSole->RE,behindInMarks->RG,sliceBounds->RM,wpAny_updateSeq->RW,standAt->R6,getItem->R',pushCells->Sl,wpAny_setField->SI,typeLookup->SN,typeIs_str->S4,assign->S5,notedBy->Td,wpAny_attempt->Th,pyNext->Ti,plainId_quiet->Tj,wpAny_isInstance->TN,wpAny_execs_cons->TR,isSubtype->TU,getMethod->TV,compEnvC->TX,checkBuiltinCall->TY,wpAny_typeOf->Uc,setItem->Ud,relabel->Ue,callerA->Ug,wpAny_loadPart'->Us,post_val_or_str->Uv,letOwnedTupleGo->Uy,wpAny_isTrue_Compare1->UB,firstArgMember->UU,codeAny_call_builtin->UW,callWith->UX,Params->U0,IsPart->U5,GenState->U6,tupleKind->Vf,swappedStores->VT,wpAny_call->Wz,wpAny_pyIter_list->WO,wpAny_pyIter_enum->WT,valueAt->WV,release->WW,concat_meets->W8,noFill_tuple_add->Xz,PassesOwn->XO,subscripted->XU,pushCells_keeps->X1,codeAny_of_tree->X3,BindsTo->Ya,wpAny_seqItems->Yg,wpAny_newFunctionEnv_cells->Yh,wpAny_Expr_any->Yi,relayAll->Ym,recursionLimit->Yn,pyIter->YI,newFunctionEnv->YJ,bindL->YK,bindC->YP,atKey->YV,SetTable->YX,wpAny_standAt->Zz,wpAny_newList->ZP,wpAny_comprehension_free->ZQ,signature?_of->ZR,seq_tuple_add->ZZ,wpAny_Call_method0_late->Ê,strValues->Ë,wpAny_Call_method_late->Í,typeOf->Î,spliced->Ï,call_meetsIn->Ð,argsOk->Ñ,IsEnum->Õ,codeAny_call_function->ß,step->ê,sizeLine_eq->ë,seqIndex_of->ì,codeAny_extend_loopS->í,Operator->ï,wpAny_Tuple_spliced->ü,wpAny_Name->Ą,wpAny_List_spliced->ą,rule->Ć,builtinsNs->ć,WalksS->Ĉ,JoinOk->ċ,wpAny_storeSet_of->ē,wpAny_sequenceKey->Ĕ,wpAny_assign_Name->ĕ,slot_list_getitem->Ė,fits_of_scanBound->ė,ItemsOf->Ğ,wpAny_eqBool_str->ġ,wpAny_eqBool_int->Ģ,updateSeq->ģ,seqIndex?->Ĥ,entryFor_of_tree->ĥ,Slot->Ĩ,wpAny_ite_split->Ķ,wpAny_runValue->ľ,wpAny_loadPart->Ŀ,truthy->ŀ,numbered_texts->Ł,isSubtype_stop->ł,field->Ń,entryFor->ń,callType_codes->Ņ,bindArgs->ņ,augStore->Ň,again->ň
open Decidable renaming decide->b7
open List renaming length_map->b8,getElem?_eq_some_iff->cL,getElem?_set_self->c4,range->dV,mem_cons->d4,map_cons->d6,size_toArray->d8,mem_cons_of_mem->fx,mem_append->f6,getElem?_set_ne->f7,mem_cons_self->gs,length_append->hH,mem_singleton->hY,length_cons->i4,map_map->i6,all_eq_true->i8,replicate->ke,map_append->kj,nil_append->ko,mem_map->ku,getElem?_append_right->k9,getElem?_append_left->mh,lookup_cons->mx,length_take->my,nodup_append->nc,getElem?_map->n9,append_nil->oD,mem_range->p7,mem_of_getElem?->ri,nodup_cons->rr,mem_append_right->r6,isEmpty_iff->sP,map_congr_left->tA,length->vr,getElem?_drop->w6,getElem?_replicate->z8,filter_cons->Cd,filterMap_cons->Hf,mem_filter->H8,length_singleton->JY,take_of_length_le->LQ,filter_eq_nil_iff->LS,lookup->L5,getElem_mem->L9,drop_eq_getElem_cons->Mw,getD->MM,map_nil->MZ,getElem?_take_of_lt->Nc,any_eq_true->NI,find?_cons->OQ,length_replicate->OT,length_filter_le->OW,mem_append_left->Po,ext_getElem->Pr,of_mem_zip->PN,mem_filterMap->PR,getElem?_cons_succ->PV,mem_of_mem_take->Q5,foldl_cons->Q_,mem_map_of_mem->Rr,getElem_of_mem->Rz,pairwise_cons->RV,reverse_cons->Sf,getElem?_eq_getElem->Sy,map->S6,length_drop->S7,filter_cons_of_pos->S8,filter_cons_of_neg->S9,length_eq_one_iff->Tg,length_nil->Ts,filter_nil->Tv,drop_left'->Tw,take_append_drop->TL,mem_iff_getElem->T6,getElem?_zipIdx->T8,any_cons->UK,zip_cons_cons->UR,filter_append->US,take_succ_eq_append_getElem->Vl,take_sublist->Vm,length_range->Vu,all_map->Vz,isEmpty_map->Wn,cons_append->Wq,eq_nil_of_length_eq_zero->WH,length_zip->WM,countP_eq_length_filter->WN,nodup_nil->Xu,drop_zero->Xw,length_erase_of_mem->XZ,length_pos_of_mem->Ye,drop_of_length_le->Yf,mem_iff_getElem?->Y0,getElem?_eq_none->Y1,dropLast_eq_take->Y5,mem_erase_of_ne->Zj,length_reverse->Å,length_pos_iff->Æ,getElem?_range->Ç,flatten_append->È,flatten_cons->Ü,ext_getElem?->Ý,any_eq_false->Þ,not_mem_nil->ä,map_fst_zip->å,getElem_map->æ,getElem_inj->ç,drop_subset->è,drop_length->é,take_left'->ö,range_succ->ø,length_set->ù,filter_map->ú,perm_nil->ď,findIdx?->Đ,map_id->Ĳ
open PySem.Heap renaming get?_push_of_some->cb,get?_push_size->d7,lt_size->gc,get?_update_self->uk,SameBut->LM,size_push->NH,get?_update_other->N7,ExtBut->WE,get?_update_ne->Ä
open Nat renaming le_refl->ez,ne_of_lt->ix,lt_of_lt_of_le->i9,zero_le->ki,lt_irrefl->tv,le_trans->va,ne_of_gt->M7,lt_succ_self->NQ,le_of_lt->Oy,add_sub_cancel_left->P0,lt_succ_of_lt->QD,le_succ->Q8,min_eq_left->Rq,zero_add->VM,lt_trans->VO,le_of_eq->VR,not_lt_of_lt->ô,min_eq_right->õ,sub_zero->į,sub_self->İ,le_total->ı,log2_lt->ļ,mod_lt->Œ
open PySem.Value renaming ref->il,none->pb,str->E',type->J7,bool->QK,builtin->Sa,isStrOf->Uz,int->XW,isStrOf_shape->Za,isInt->ě,float->Ĝ,bytes->ĝ
open PySem.Txt renaming partition->lg,split->PZ,join->VB,endswith->ħ
open PySem.PyData renaming keyHash->mN
open Sum renaming inr->nH,inl->VA
open Ne renaming symm->nT
open PySem.Obj renaming mapSeq->ro,data_mapFields->Ox,putSet->To,isFreed_of_fields->T1,cls_mapFields->à
open PyProof.Rows renaming slot_tuple_getitem->rz,seqObj->y0,callWith_type1->K1,callWith_builtin1->Ms,envOfC->RX,StrsAre->Se,AllBare->Tf,size_push'->Uj,subscriptTail->V5,listUpdate_at->V7,IsTup->V8,subscriptTail_builtinR->Ù,listItems_at->Ú,IntsAre->Û,seqEpoch_at->ó,entry_tuple_getitem->ÿ,sortedHeap->Č,args_tuple_getitem->č,Subscript_->Ď,slot_str_getitem->ĭ,len_tuple->Į,get?_update_seq->ĺ,entry_list_sort->Ļ,sortedHeap_old->ō,slot_list_sort->Ŏ,slicePart_none->ŏ,isTrue_and_nil->Ő,args_list_sort->ő
open PySem.Str renaming empty->sx,ofString->Oe,length->Tn
open Array renaming length_toList->sL,getElem?_toList->TB,toList_append->Ur,size_append->U8,toList_inj->VS,getElem?_eq_getElem->Xx,toList->X5,toArray_toList->Y7,append_assoc->É,getD->ĵ
open PySem.Builtin.Str renaming occurrences->td,partsBetween->Pb,strKind->Xs
open Option.some renaming inj->ti,injEq->T5
open PySem.Builtin.List renaming listExtendWith->vu,listTooLong->H4,listLengthHint->KX,listSameRef->Vi,listItems->V1,listUpdate->ĸ,listFitsIndex->Ĺ
open False renaming elim->wk
open PySem.Heap.SameBut renaming update->KS,refl->XQ
open PySem.Builtin.SmallTypes renaming nextOf->K3
open PySem.NameKind renaming free->Lj,cell->Lm
open PySem.Calls renaming callWith_builtin->Ln,evalArgs_plain->MA,spliced_cons->NY,spliced_nil->Qc,Name_function_global->Xc,call_function_entry->Xr
open Int renaming toNat_natCast->M9,toNat_of_nonneg->NK,emod_nonneg->RC,zero_add->RQ,eq_ofNat_of_zero_le->Ta,emod_lt_of_pos->U7
open PySem.Builtin.Slice renaming slicePlaces->Oz,sliceAdjust->QW,sliceApplied->UJ,slicePartIndex->Ī,sliceFields->ī
open PyProof.Rows.F renaming plain_set_update_loop->OB,entry_set_update_loop->Sq
open PySem.Builtin.Tuple renaming tupleExact->O2,tupleItemsOf->UD
open PySem.W renaming kas_sort->O',nsIn->Ò,looks_findIn->Ó,Frag->ĉ,kas_ask->Ę,Looks->Ě,subIn->ŉ,findIn->Ŋ
open PySem.AutoSeq1 renaming wpAny_loadPart'->Pq,sub_tuple_tuple->WL,sub_tuple_list->Xo,sub_list_tuple->Xq,sub_list_list->Xt,idx_int->Zh
open ForInStep renaming yield->Pw
open LT renaming lt->QJ
open List.cons renaming injEq->QL
open PySem.Around renaming under_plainId->QO,under->UP,frames_deeper->Yb
open PySem.SetTable renaming grown->Q9,sizeAbove->X9,orStandIn->X_,layClean->YW,relaid->Á,laid->Ô
open PySem.SeqAt renaming EqAt->S_,ne_of_list_tuple->X4,RcAt->Â,RcNeAt->Ċ
open True renaming intro->Tb
open PySem.F renaming typeOf_object_class->Uh,args_str_split_2->VE,entry_str_split->WG,slot_str_split->W_,slot_gs_get->YY,excBase_ValueError->Ö,args_list_extend_2->Ø,entry_list_extend->á,slot_list_extend->ð,attr_ValueError->þ
open PySem.Code renaming quiet_builtin->UL,isFrame->Vg,frames->Zg,isGuard->Ġ
open Sum.inr renaming inj->U9
open Prod renaming ext->Vj,fst->ă
open PySem.Moved renaming trans->VX,refl->Ã
open Classical renaming byContradiction->Wv
open PyProof.Rows.IsTup renaming new->XY
open PySem.PassesOwn renaming leaving->X'
open Iff renaming rfl->Y6
open PySem.StrLaws renaming strSub_toList->À
open PySem.Data renaming cell->â,fields->ĩ
open Prod.mk renaming injEq->ã,inj->Ă
open PySem.Shared renaming TypeIs->î
open PySem.Builtin.Frozenset renaming updateFrom->ñ,newClass->ò
open LE renaming le->û
open PySem.ItemsOf renaming nil->ý
open PyProof.Rows.LSm renaming range_all->Ā,kept_iter->ā
open PySem.W.WShape renaming has->ę
open PySem.Heap.IsSliceOf renaming new->ğ
open PySem.Walks renaming list->Ħ
open PySem.Builtin.Range renaming rangeSize->Ĭ
open List.Pairwise renaming nil->ĳ
open LawfulBEq renaming eq_of_beq->Ĵ
open PySem.W.WData renaming int->ķ
open ToString renaming toString->Ľ
open PySem.W.Looks renaming ld->ŋ
open PySem.Heap.DictOf renaming new->Ō
abbrev œ:=@decide_eq_true_eq
abbrev Ŕ:=@if_pos
abbrev ŕ:=@if_neg
abbrev Ŗ:=@decide_eq_false
abbrev ŗ:=@decide_eq_true
abbrev Ř:=@beq_eq_false_iff_ne
abbrev ř:=@of_decide_eq_true
abbrev Ś:=@congrArg
abbrev ś:=@decide_eq_false_iff_not
local macro_rules|`(def $a:declId $b* : $t :=$v)=>`(theorem $a:declId $b* : $t :=$v)
local macro_rules|`(abbrev $a:declId $b:optDeclSig $c:declVal)=>`(noncomputable def $a:declId $b:optDeclSig $c:declVal)
local macro_rules|`(tactic|show $t)=>`(tactic|refine $t)
local macro_rules|`(tactic|have⟨$a⟩:=$t)=>do let p<-`(Lean.Parser.Tactic.rcasesPatLo|$(⟨a⟩):ident);`(tactic|obtain⟨$p⟩:=$t)
local macro_rules|`(tactic|have($a,$b,*):=$t)=>do let g:=fun(x:Lean.Term)=>if x.raw.isIdent then`(Lean.Parser.Tactic.rcasesPatLo|$(⟨x⟩):ident)else`(Lean.Parser.Tactic.rcasesPatLo|_);let p<-(#[a]++b.getElems).mapM fun x=>match x with|`(($c,$d,*))=>do let q<-(#[c]++d.getElems).mapM g;`(Lean.Parser.Tactic.rcasesPatLo|⟨$q,*⟩)|_=>g ⟨x⟩;`(tactic|obtain⟨$p,*⟩:=$t)
local macro_rules|`(⋯)=>`(by lia)
local macro_rules|`(#[$a,*])=>`(⟨$a,*⟩)
local macro_rules|`(#v[$a,*])=>`(List.toArray [$a,*])
local macro_rules|`(~~~$x)=>`(($x).heap.objs.size)
local macro_rules|`(‹$x›)=>`(du (d5 ($x).prog ($x).w) ($x).A)
local macro_rules|`(∅)=>`(⟨⟨.own,rfl,rfl⟩,trivial⟩)
namespace K
open PySem PySem.W PyProof.Rows
abbrev vw:tr:=view PySem.Challenge.pw_primer_k53_shelves_refused [15,16,17,18,19,23,24,25,26,28,29,30,31,32,34,35,37000,37001,37002,37003,37004,37005,37006,37007,37008,38,39,40,41,42,43,44,45,46,47,48,49,50,51,52]
abbrev loo:List Str:=["PrimerError","NoText","Unfit","Unknown","Unlearnt","TooMany","Lacking","NoRow","NoDeed","LETTERS","LONGEST_STEM","FIRST_SENSE","LAST_SENSE","MOST_TOLD","MOST_ROWS","Shelf"]
noncomputable abbrev xt(s:dt):Bool:=xlAt vw [] s&&recOk (RowW.records PySem.Challenge.rw_primer_k53_shelves_refused.row.toRowW) s
noncomputable abbrev oe(w:ux):Option dt:=openEnds treeTable PySem.Challenge.rw_primer_k53_shelves_refused.row.prog w 4000
noncomputable abbrev os(s:dt):=openSeen vw loo (importedModules PySem.Challenge.rw_primer_k53_shelves_refused.row.prog.main.body) xt a8 s
def M6(w:ux):(oe w).map (λs=>(os s).1)=a5 (openGood vw loo).1:=by kernel_rfl
def Mz(w:ux):(oe w).map (λs=>(os s).2)=a5 (openGood vw loo).2:=by kernel_rfl
end K
namespace L2
open PySem PySem.Spec PyProof.Rows
@[reducible]noncomputable def Key:=Sum Int Str
abbrev lF:Key->cK->Bool
 |.inl k,v=>ě k v
 |.inr x,v=>Uz x v
abbrev IE(w:ux):Key->Int
 |.inl k=>hashInt k
 |.inr x=>hashStr w x
theorem bx:∀{k:Key}{v:cK},lF k v=a8->(∃i t,k=VA i/\v=XW i t)\/(∃x t,k=nH x/\v=E' x t)
 |.inl i,v,h=>by
  have(t,e):=Value.isInt_shape (k:=i) (v:=v) h;show .inl #[i,t,rfl,e]
 |.inr x,v,h=>by
  have(t,e):=Za (x:=x) (v:=v) h;show .inr #[x,t,rfl,e]
def vX(i:Int)(t:Tok):lF (.inl i) (.int i t)=a8:=by simp[lF,ě]
def vY(x:Str)(t:Tok):lF (.inr x) (.str x t)=a8:=by simp[lF,Uz]
def DW(a b:Int):b7 ((VA a:Key)=VA b)=(a==b):=by
 by_cases e:a=b
 .subst e;simp
 .have h:¬(VA a:Key)=VA b:=λq=>e (Sum.inl.inj q);rw[Ŗ h];show(Ř.mpr e).symm
def DX(a b:Str):b7 ((nH a:Key)=nH b)=b7 (a=b):=by
 by_cases e:a=b
 .subst e;simp
 .have h:¬(nH a:Key)=nH b:=λq=>e (U9 q);rw[Ŗ h,Ŗ e]
def DY(a:Int)(b:Str):b7 ((VA a:Key)=nH b)=bL:=Ŗ (λq=>nomatch q)
def DZ(a:Str)(b:Int):b7 ((nH a:Key)=VA b)=bL:=Ŗ (λq=>nomatch q)
abbrev bc(prog:tr)(w:ux):PySem.KeyKind prog w Key where
 is:=lF
 hash:=IE w
 inj:=λv a b g f=>by
  rcases bx g with⟨i,t,rfl,rfl⟩|⟨x,t,rfl,rfl⟩
  .rcases bx f with⟨j,u,rfl,e⟩|⟨y,u,rfl,e⟩
   .injection e with c _;rw[c]
   .show nomatch e
  .rcases bx f with⟨j,u,rfl,e⟩|⟨y,u,rfl,e⟩
   .show nomatch e
   .injection e with c _;rw[c]
 byValue:=λk v h=>by
  rcases bx h with⟨i,t,rfl,rfl⟩|⟨x,t,rfl,rfl⟩<;>rfl
 pyHash:=λd h=>by
  rcases bx d with⟨i,t,rfl,rfl⟩|⟨x,t,rfl,rfl⟩
  .show wpAny_pyHash_int h
  .show wpAny_pyHash_str h
 eqBool:=λl d h=>by
  rcases bx l with⟨i,t,rfl,rfl⟩|⟨x,t,rfl,rfl⟩
  .rcases bx d with⟨j,u,rfl,rfl⟩|⟨y,u,rfl,rfl⟩
   .rw[DW]at h;show Ģ h
   .rw[DY]at h;show SeqAt.EqAt.int_str i t y u _ _ _ _ h
  .rcases bx d with⟨j,u,rfl,rfl⟩|⟨y,u,rfl,rfl⟩
   .rw[DZ]at h;show SeqAt.EqAt.str_int x t j u _ _ _ _ h
   .rw[DX]at h;show ġ h
 «strs»:=λk x t v h=>by
  rcases bx h with⟨i,u,rfl,e⟩|⟨y,u,rfl,e⟩
  .show nomatch e
  .injection e with c _
   subst c;cases v<;>rfl
def qA(prog:tr)(w:ux)(i:Int)(t:Tok):(bc prog w).is (.inl i) (.int i t)=a8:=vX i t
def qB(prog:tr)(w:ux)(x:Str)(t:Tok):(bc prog w).is (.inr x) (.str x t)=a8:=vY x t
inductive V where
 |JN|bl (b:Bool)|int (i:Int)|str (x:Str)|Qy (b:Array UInt8)|Qz (b:UInt64)|ref (a:df)|ty (n:String)
 deriving DecidableEq
def RelV:V->cK->Prop
 |.JN,u=>u=pb
 |.bl b,u=>u=QK b
 |.int i,u=>∃t,u=XW i t
 |.str x,u=>∃t,u=E' x t
 |.Qy b,u=>∃t,u=ĝ b t
 |.Qz b,u=>∃t,u=Ĝ b t
 |.ref a,u=>u=il a
 |.ty n,u=>u=J7 n
@[reducible]noncomputable def Vals:List V->List cK->Prop:=Paired RelV
def Vals.length(r:Vals xs us):xs.length=us.length:=Paired.length r
theorem Vals.get:∀{xs:List V}{us:List cK}{i:Nat}{x:V},Vals xs us->xs[i]?=a5 x->∃u,us[i]?=a5 u/\RelV x u
 |_,_,_,_,.nil,e=>by simp at e
 |_,_,0,_,.cons r _,e=>by simp at e;subst e;show#[_,rfl,r]
 |_,_,i+1,x,.cons _ t,e=>by
  have(u,a,b):=Vals.get (i:=i) (x:=x) t (by simpa using e);show#[u,by simpa using a,b]
theorem Vals.set(r:RelV x u):∀{xs:List V}{us:List cK} (i:Nat),Vals xs us->Vals (xs.set i x) (us.set i u)
 |_,_,_,.nil=>.nil
 |_,_,0,.cons _ t=>.cons r t
 |_,_,i+1,.cons q t=>.cons q (Vals.set r i t)
theorem Vals.append:∀{xs ys:List V}{us ws:List cK},Vals xs us->Vals ys ws->Vals (xs++ys) (us++ws)
 |_,_,_,_,.nil,s=>s
 |_,_,_,_,.cons r t,s=>.cons r (Vals.append t s)
theorem Vals.take:∀{xs:List V}{us:List cK} (n:Nat),Vals xs us->Vals (xs.take n) (us.take n)
 |_,_,0,_=>.nil
 |_,_,_+1,.nil=>.nil
 |_,_,n+1,.cons r t=>.cons r (Vals.take n t)
theorem Vals.drop:∀{xs:List V}{us:List cK} (n:Nat),Vals xs us->Vals (xs.drop n) (us.drop n)
 |_,_,0,r=>r
 |_,_,_+1,.nil=>.nil
 |_,_,n+1,.cons _ t=>Vals.drop n t
def gp:Option V->Option cK->Prop
 |some v,a5 u=>RelV v u
 |none,bD=>True
 |_,_=>False
abbrev KV{κ:Type}:List (κ×V)->List (κ×cK)->Prop:=Paired λ(p:κ×V) (q:κ×cK)=>p.1=q.1/\RelV p.2 q.2
abbrev kV:Key->V
 |.inl i=>.int i
 |.inr x=>.str x
inductive HO where
 |lst (xs:List V)
 |tup (xs:List V)
 |dK (kvs:List (Key×V))|dT (kvs:List (List Key×V))
 |set (S:Int->Bool) (n:Nat)
 |ins (C dx:df) (fs:List (Str×V))
 |own (x:df)
 |xd (fs:List (Str×V))
 |met (f x:df)
 |R3 (lo hi:Int)
 |Lr (o:Obj) (u:HO)
 |Ow (ps:Array cK)
 |ext (φ:K2->Prop)
@[reducible]noncomputable def Hp:=df->Option HO
abbrev upd(H:Hp)(a:df)(o:HO):Hp:=λb=>if b=a then a5 o else H b
def ar:upd H a o a=a5 o:=by unfold upd;rw[Ŕ rfl]
def aj(h:b≠a):upd H a o b=H b:=by unfold upd;rw[ŕ h]
def GL{H:Hp}(h:H a=a5 o)(h':H b=a5 u)(d:o≠u):a≠b:=by
 intro e;subst e;rw[h]at h';show d (ti h')
def aX{H:Hp}(h:H a=a5 o)(h':H b=bD):a≠b:=by
 intro e;subst e;rw[h]at h';cases h'
section
variable(P:tr)(w:ux)
def bO(H:Hp)(h:K2)(a:df):HO->Prop
 |.lst xs=>xs.length<=b6/\∃(c:List cK) (n:Nat),Vals xs c/\h.get? a=a5 {cls:=.type "list",data:=.seq c.toArray n}
 |.tup xs=>xs.length<=b6/\∃c:List cK,Vals xs c/\V8 h a c.toArray
 |.dK kvs=>kvs.length<=b6/\(a==OX)=bL/\∃vs,KV kvs vs/\h.DictOf (bc P w) a vs
 |.dT kvs=>kvs.length<=b6/\(a==OX)=bL/\∃xs:List (List Key×df×cK),
   Paired (λ(p:List Key×V) (q:List Key×df×cK)=>p.1=q.1/\H q.2.1=a5 (.tup (p.1.map kV))/\RelV p.2 q.2.2) kvs xs /\
   ∃o es ep,h.get? a=a5 o/\o.ExactDict/\o.data=.dict es ep/\es.toList=xs.map (entryOfKey (Vf (bc P w)))/\(xs.map (·.1)).Nodup
 |.set S n=>h.SetOf (intKind P w) a S n
 |.ins C e d=>H e=a5 (.own a)/\d.length<=1000/\e≠a/\h.get? a=a5 (PySem.W.instObj C e) /\
   ∃b,h.Ns1 e b/\(∀f,gp (d.lookup f) (b f))/\PySem.Within b (d.map (·.1))
 |.own _=>∃o,h.get? a=a5 o
 |.xd d=>∃b,h.Ns1 a b/\∀f,gp (d.lookup f) (b f)
 |.R3 lo hi=>∃t u v,h.get? a=a5 {cls:=.type "range",data:=.fields #v[.int lo t,.int hi u,.int 1 v]}
 |.Lr o u=>h.get? a=a5 o/\bO H h a u
 |.Ow ps=>h.get? a=a5 {cls:=.none,data:=.fields ps}
 |.met f x=>h.get? a=a5 (PySem.W.methodObj (.ref f) (.ref x))
 |.ext φ=>φ h/\(∃o,h.get? a=a5 o)/\∀g i:K2,φ g->(∀o,g.get? a=a5 o->i.get? a=a5 o)->φ i
abbrev KH(H:Hp)(h:K2):Prop:=∀a o,H a=a5 o->bO P w H h a o
end
section
def bO.lt(x:bO P w H h a o):a<h.objs.size:=by
 cases o with
 |lst xs=>have(_,_,_,_,e):=x;show gc e
 |tup xs=>have(_,_,_,p):=x;show p.lt
 |set S n=>have(o,_,_,_,e,_):=x;show gc e
 |ins C c b=>have(_,_,_,e,_):=x;show gc e
 |own y=>have(_,e):=x;show gc e
 |xd b=>have(_,(_,_,_,e,_),_):=x;show gc e
 |R3 lo hi=>have(_,_,_,e):=x;show gc e
 |Lr d u=>have(e,_):=x;show gc e
 |Ow ps=>show gc (show h.get? a=a5 _ from x)
 |met f y=>show gc (show h.get? a=a5 _ from x)
 |ext φ=>have(_,(_,e),_):=x;show gc e
 |_=>have(_,_,_,_,o,_,_,e,_):=x;show gc e
theorem Paired.D0:∀{c:List α}{d:List β},Paired F c d->(∀a b,F a b->G a b)->Paired G c d
 |_,_,.nil,_=>.nil
 |_,_,.cons r t,f=>.cons (f _ _ r) (Paired.D0 t f)
def bO.kY(x:bO P w H h a o)(k:∀b u,(b=a\/H b=a5 (.own a))->h.get? b=a5 u->h'.get? b=a5 u)
  (ho:∀b,H b=a5 (.own a)->H' b=a5 (.own a)) (m:∀b xs,H b=a5 (.tup xs)->H' b=a5 (.tup xs)):bO P w H' h' a o:=by
 induction o with
 |lst xs=>have(z,i,n,r,e):=x;show#[z,i,n,r,k _ _ (.inl rfl) e]
 |tup xs=>have(z,i,r,g,e,c):=x;show#[z,i,r,g,k _ _ (.inl rfl) e,c]
 |dK kvs=>have(z,y,vs,r,g,es,ep,e,c):=x;show#[z,y,vs,r,g,es,ep,k _ _ (.inl rfl) e,c]
 |dT kvs =>
  have(z,y,xs,r,g,es,ep,e,c):=x;show#[z,y,xs,Paired.D0 r λp q z=>#[z.1,m _ _ z.2.1,z.2.2],g,es,ep,k _ _ (.inl rfl) e,c]
 |set S n=>have(g,es,ep,t,e,c):=x;show#[g,es,ep,t,k _ _ (.inl rfl) e,c]
 |ins C D s =>
  have(d,z,ne,e,j,(l,es,ep,A,c),r):=x;show#[ho _ d,z,ne,k _ _ (.inl rfl) e,j,#[l,es,ep,k _ _ (.inr d) A,c],r]
 |own y=>have(g,e):=x;show#[g,k _ _ (.inl rfl) e]
 |xd s=>have(j,(l,es,ep,e,c),r):=x;show#[j,#[l,es,ep,k _ _ (.inl rfl) e,c],r]
 |R3 lo hi=>have(t,u,v,e):=x;show#[t,u,v,k _ _ (.inl rfl) e]
 |Lr g u B=>have(e,q):=x;show#[k _ _ (.inl rfl) e,B q]
 |Ow ps =>
  have e:h.get? a=a5 {cls:=.none,data:=.fields ps}:=x;change h'.get? a=a5 {cls:=.none,data:=.fields ps};show k a _ (.inl rfl) e
 |met f y =>
  have e:h.get? a=a5 (PySem.W.methodObj (.ref f) (.ref y)):=x;change h'.get? a=a5 (PySem.W.methodObj (.ref f) (.ref y));show k a _ (.inl rfl) e
 |ext φ=>have(p,(o,e),st):=x;show#[st _ _ p λo q=>k _ _ (.inl rfl) q,#[o,k _ _ (.inl rfl) e],st]
def KH.lt(x:KH P w H h)(e:H a=a5 o):a<h.objs.size:=(x a o e).lt
def KH.fresh(x:KH P w H h)(e:h.objs.size<=a):H a=bD:=by
 cases q:H a with
 |none=>rfl
 |some u=>show absurd (i9 (x.lt q) e) (tv _)
def KH.kept(x:KH P w H h)(k:∀b u,h.get? b=a5 u->h'.get? b=a5 u):KH P w H h':=λa o e =>
 (x a o e).kY (λb u _ q=>k b u q) (λ_ q=>q) λ_ _ q=>q
def KH.laid(x:KH P w H h)(k:∀b u,h.get? b=a5 u->h'.get? b=a5 u)(g:h.objs.size<=a)(new:bO P w (upd H a o) h' a o):KH P w (upd H a o) h':=λb u e=>by
 have d:=x.fresh g;by_cases f:b=a
 .subst f;rw[ar]at e;cases e;show new
 .rw[aj f]at e;show(x b u e).kY (λc v _ q=>k c v q) (λc q=>by rw[aj (aX q d)];show q) λc xs q=>by rw[aj (aX q d)];show q
end
abbrev Rd(H:Hp)(a:df)(u:HO):Prop:=H a=a5 u\/∃o,H a=a5 (.Lr o u)
def Rd.ok(r:Rd H a u)(x:KH P w H h):bO P w H h a u:=by
 rcases r with r|⟨o,r⟩
 .show x a u r
 .have(_,q):=x a _ r;show q
def QA:Option HO->Prop
 |some (.lst _)=>True
 |some (.dK _)=>True
 |some (.dT _)=>True
 |some (.set _ _)=>True
 |some (.ins _ _ _)=>True
 |some (.ext _)=>True
 |_=>False
section
def KH.write(l:KH P w H h)(a:QA (H x))(g:e=x\/H e=a5 (.own x))(k:∀b u,b≠e->h.get? b=a5 u->h'.get? b=a5 u)(m:∃u,h'.get? e=a5 u)
  (new:bO P w (upd H x o') h' x o'):KH P w (upd H x o') h':=λb u q=>by
 have i:∀c y,H c=a5 (.own y)->c≠x:=λc y r z=>by subst z;rw[r]at a;show a
 have n:∀c xs,H c=a5 (.tup xs)->c≠x:=λc xs r z=>by subst z;rw[r]at a;show a
 by_cases d:b=x
 .subst d;rw[ar]at q;cases q;show new
 .rw[aj d]at q;by_cases f:b=e
  .have j:H b=a5 (.own x):=by
    rcases g with z|z
    .show absurd (f.trans z) d
    .rw[f];show z
   rw[q]at j;cases j;have(v,o):=m;show#[v,by rw[f];show o]
  .show(l b u q).kY (λc v hc r=>k c v ?_ r) (λc r=>by rw[aj (i c b r)];show r) λc xs r=>by rw[aj (n c xs r)];show r
   rcases hc with rfl|hc
   .show f
   .rintro rfl;rcases g with z|z
    .show i c b hc z
    .rw[hc]at z;cases z;show d rfl
end
structure Un(fs ex:List df)(H H':Hp)(h h':K2):Prop where
 keep:∀b o,h.get? b=a5 o->H b=bD->b∉fs->b∉ex->h'.get? b=a5 o
 slot:∀b o,h.get? b=a5 o->H b=bD->b∈fs->b∉ex->∃sl,h'.get? b=a5 {o with slots:=sl}
 free:∀b o,h.get? b=a5 o->H b=bD->b∉ex->H' b=bD
 there:∀b o,h.get? b=a5 o->b∉ex->∃o',h'.get? b=a5 o'
 gE:∀b xs,H b=a5 (.tup xs)->H' b=a5 (.tup xs)
 KI:∀b o u,H b=a5 (.Lr o u)->H' b=a5 (.Lr o u)
 KY:∀b ps,H b=a5 (.Ow ps)->∃more,H' b=a5 (.Ow (ps++more))
section
def Un.any(u:Un e ex H i h f)(q:h.get? b=a5 a)(n:H b=bD)(c:b∉ex):∃g,f.get? b=a5 {a with slots:=g}:=by
 by_cases d:b∈e
 .show u.slot b a q n d c
 .show#[a.slots,u.keep b a q n d c]
def Un.kept(k:∀b u,h.get? b=a5 u->h'.get? b=a5 u):Un c ex H H h h' :=
 #[λb a q _ _ _=>k b a q,λb a q _ _ _=>#[a.slots,k b a q],λ_ _ _ n _=>n,λb a q _=>#[a,k b a q],λ_ _ q=>q,λ_ _ _ q=>q,λ_ ps q=>#[#v[],by rw[q];simp]]
def Un.refl:Un a ex H H h h:=Un.kept λ_ _ q=>q
def Un.laid(k:∀b u,h.get? b=a5 u->h'.get? b=a5 u)(d:h.objs.size<=a)(c:H a=bD):Un e ex H (upd H a o) h h' where
 keep:=λb u q _ _ _=>k b u q
 slot:=λb u q _ _ _=>#[u.slots,k b u q]
 free:=λb u q n _=>by rw[aj (ix (i9 (gc q) d))];show n
 there:=λb u q _=>#[u,k b u q]
 gE:=λb xs q=>by rw[aj (aX q c)];show q
 KI:=λb u xs q=>by rw[aj (aX q c)];show q
 KY:=λb ps q=>#[#v[],by rw[aj (aX q c),q];simp]
def Un.write(a:QA (H x))(i:e=x\/H e=a5 (.own x))(k:∀b u,b≠e->h.get? b=a5 u->h'.get? b=a5 u)(j:∃u,h'.get? e=a5 u):Un l ex H (upd H x o) h h':=by
 have d:∀b,H b=bD->b≠x:=λb n z=>by subst z;rw[n]at a;show a
 have f:∀b,H b=bD->b≠e:=λb n z=>by
  subst z;rcases i with r|r
  .show d b n r
  .rw[n]at r;cases r
 have c:∀b u,H b=a5 u->¬QA (a5 u)->b≠x:=λb u q nm z=>by subst z;rw[q]at a;show nm a
 show#[λb u q n _ _=>k b u (f b n) q,λb u q n _ _=>#[u.slots,k b u (f b n) q],λb u q n _=>by rw[aj (d b n)];show n,λb u q _=>?_,
  λb xs q=>by rw[aj (c b _ q λz=>z)];show q,λb u xs q=>by rw[aj (c b _ q λz=>z)];show q,λb ps q=>#[#v[],by rw[aj (c b _ q λz=>z),q];simp]]
 by_cases g:b=e
 .subst g;show j
 .show#[u,k b u g q]
end
abbrev R4(h:K2)(H:Hp):List df:=(dV h.objs.size).filter λa=>(H a).isSome
abbrev oQ(h:K2)(H:Hp):K2:=PySem.W.hideAll h (R4 h H)
def vZ(h:K2)(H:Hp):(oQ h H).objs.size=h.objs.size:=PySem.W.hideAll_size _ _
def xN(e:h.get? b=a5 o)(n:H b=bD):(oQ h H).get? b=a5 o :=
 PySem.W.hideAll_get _ e λa=>by
  have q:(H b).isSome=a8:=(H8.mp a).2;rw[n]at q;simp at q
def A3(e:(oQ h H).get? b=a5 o):h.get? b=a5 o/\H b=bD:=by
 have a:h.get? b=a5 o:=PySem.W.of_hideAll (R4 h H) e;show#[a,?_];cases q:H b with
 |none=>rfl
 |some x =>
  have c:b∈R4 h H:=H8.mpr #[p7.mpr (gc a),by simp[q]];have z:(oQ h H).get? b=bD:=PySem.W.hideAll_none (R4 h H) c;rw[z]at e;cases e
structure Mod(K:PySem.W.Frag)(mg:Str->Option cK)(base:K2):Prop where
 N2:K.In base
 glob:base.Ns hQ mg
 blt:∃mb,base.Ns ć mb/\∀x:Str,x≠"__name__"->mb x=vl x
 nolimit:base.NoLimit
structure Cx where
 prog:tr
 w:ux
 K:PySem.W.Frag
 mg:Str->Option cK
 base:K2
 A:Ke
 N:List Str
 s₀:dt
 H₀:Hp
 env:Env
 outer:List Env
 stack:List Env
 ex:List df
 fn:Str->Bool
 calm:Bool
 pn:List (df×Obj)
 xe:cK->dt->Prop
abbrev Kj(l:List Env):List df:=l.filterMap (·.frame)
noncomputable abbrev Cx.fs(X:Cx):List df:=Kj X.outer
abbrev KA(a:Lg)(x:Str):Prop:=a.names.lookup x=a5 .local\/a.names.lookup x=a5 .cell\/a.names.lookup x=a5 .free
abbrev Loc(a:Lg)(x:Str):Prop:=a.names.lookup x=a5 .local\/a.names.lookup x=a5 .cell
abbrev Look(env:Env)(h:K2)(m:Str->Option cK)(x:Str)(u:cK):Prop :=
 (env.kindOf x=a5 .local/\m x=a5 u)\/((env.kindOf x=a5 .cell\/env.kindOf x=a5 .free)/\∃c,env.cells.lookup x=a5 c/\h.IsCell c (a5 u))
structure Cx.Ok(X:Cx):Prop where
 mod:Mod X.K X.mg X.base
 kind:X.env.scope.kind=.function
 glob:X.env.globals=hQ
 blt:X.env.builtins=ć
 above:X.s₀.heap.objs.size<=X.env.locals
 inj:∀x y c,X.env.cells.lookup x=a5 c->X.env.cells.lookup y=a5 c->x=y
 has:∀x,(X.env.kindOf x=a5 .cell\/X.env.kindOf x=a5 .free)->∃c,X.env.cells.lookup x=a5 c
 OU:∀x c,X.fn x=a8->X.env.cells.lookup x=a5 c->X.s₀.heap.objs.size<=c
 hd:X.calm=a8->X.A.handled=bD
 frames:X.A.frames=a5 X.stack
 PU:X.stack=X.outer\/(X.stack=X.env::X.outer/\X.env.frame=a5 X.env.locals)
 R5:∀b∈X.ex,b≠X.env.locals/\∀x c,X.env.cells.lookup x=a5 c->c≠b
 bs:∀b o,X.base.get? b=a5 o->X.s₀.heap.get? b=a5 o/\X.H₀ b=bD
 M3:X.base.objs.size<=X.s₀.heap.objs.size
 Md:∀b o,X.base.get? b=a5 o->b∉X.ex
 MI:∀b∈X.ex,b∉X.fs
 iO:X.s₀.heap.FunFrames X.base X.outer
 NG:∀b∈X.fs,X.H₀ b=bD
structure Inv(X:Cx)(pins:List (df×Obj))(σ:List (Option V))(H:Hp)(s:dt):Prop where
 ok:X.Ok
 os:s.os=X.s₀.os
 bare:Tf s.gens
 base:Un X.fs X.ex X.H₀ H X.s₀.heap s.heap
 loc:∃m,s.heap.Ns X.env.locals m/\∀(i:Nat) (x:Str) (v:V),X.N[i]?=a5 x->σ[i]?=a5 (a5 v)->KA X.env.scope x->∃u,RelV v u/\Look X.env s.heap m x u
 cell:∀x c,X.env.cells.lookup x=a5 c->∃v,s.heap.IsCell c v
 free:H X.env.locals=bD
 J5:∀x c,X.env.cells.lookup x=a5 c->H c=bD
 pin:∀p∈X.pn++pins,s.heap.get? p.1=a5 p.2/\H p.1=bD/\p.1≠X.env.locals/\p.1∉X.fs/\∀v,p.2.data≠.cell v
 JE:KH X.prog X.w H s.heap
 len:σ.length=X.N.length
section
variable{X:Cx}{pins:List (df×Obj)}{σ:List (Option V)}{H H':Hp}{s:dt}{h':K2}
def Cx.Ok.IF(a:X.Ok)(e:X.base.get? b=a5 o):b∉X.fs:=λc=>by
 have:=(a.iO.mem c).1;rw[e]at this;cases this
def Inv.bs(I:Inv X pins σ H s):∀b o,X.base.get? b=a5 o->s.heap.get? b=a5 o/\H b=bD:=λb o e =>
 #[I.base.keep b o (I.ok.bs b o e).1 (I.ok.bs b o e).2 (I.ok.IF e) (I.ok.Md b o e),I.base.free b o (I.ok.bs b o e).1 (I.ok.bs b o e).2 (I.ok.Md b o e)]
def Inv.bk(I:Inv X pins σ H s):∀b o,X.base.get? b=a5 o->s.heap.get? b=a5 o:=λb o e=>(I.bs b o e).1
def Inv.mod(I:Inv X pins σ H s):Mod X.K X.mg X.base:=I.ok.mod
def Inv.Li(I:Inv X pins σ H s):X.K.In s.heap:=I.ok.mod.N2.keeps I.bk
def Inv.lt(I:Inv X pins σ H s):X.env.locals<(~~~s):=let ⟨_,a,_⟩:=I.loc;a.lt
def Inv.sz(I:Inv X pins σ H s):X.s₀.heap.objs.size<=(~~~s):=va I.ok.above (Oy I.lt)
def Inv.GO(I:Inv X pins σ H s)(h:(~~~s)<=a):a∉X.fs:=λb=>by
 have(_,o,ho,_):=I.ok.iO.mem b;show absurd (i9 (gc ho) (va I.sz h)) (tv _)
def Inv.Ni(I:Inv X pins σ H s):∀x c,X.env.cells.lookup x=a5 c->c≠X.env.locals:=λx c e z=>by
 have(v,o,ho,a):=I.cell x c e;have(m,(o',es,ep,b,d,_),_):=I.loc;rw[z,b]at ho;cases ho;rw[d]at a;cases a
def Inv.iO(I:Inv X pins σ H s):s.heap.FunFrames X.base X.outer:=by
 have all:∀(l:List Env),(∀b∈Kj l,b∈X.fs)->X.s₀.heap.FunFrames X.base l->s.heap.FunFrames X.base l:=by
  intro l;induction l with
  |nil=>intro _ _;trivial
  |cons env r f =>
   intro hs hl;have(hk,(L,o,a,g,ho,h),i):=hl;have c:L∈X.fs:=hs L (by unfold Kj;rw[Hf,a];show gs);have(j,e):=I.base.slot L o ho (I.ok.NG L c) c λz=>I.ok.MI L z c;show#[hk,#[L,_,a,g,e,h],f (λb d=>hs b (by unfold Kj;rw[Hf,a];show fx _ d)) i]
 show all X.outer (λ_ d=>d) I.ok.iO
def Inv.stack(I:Inv X pins σ H s):s.heap.FunFrames X.base X.stack:=by
 rcases I.ok.PU with e|⟨e,a⟩
 .rw[e];show I.iO
 .rw[e];have(m,b,_):=I.loc;show .cons (by rw[I.ok.kind];decide) a b ?_ I.iO;show Heap.get?_none_of_le (va I.ok.M3 I.ok.above)
def Inv.lG(I:Inv X pins σ H s):∀b∈Kj X.stack,b∈X.env.locals::X.fs:=λb a=>by
 rcases I.ok.PU with e|⟨e,c⟩
 .rw[e]at a;show fx _ a
 .rw[e]at a;unfold Kj at a;rw[Hf,c]at a;show a
def Inv.jf(I:Inv X pins σ H s):∀b∈Kj X.stack,H b=bD:=λb hb=>by
 rcases d4.mp (I.lG b hb) with e|hb
 .rw[e];show I.free
 .have(_,o,ho,_):=I.ok.iO.mem hb;show I.base.free b o ho (I.ok.NG b hb) λz=>I.ok.MI b z hb
def Inv.step{ch:List df}(I:Inv X pins σ H s)
  (j:∀b∈ch,(b∈X.ex\/X.s₀.heap.objs.size<=b)/\b≠X.env.locals/\(∀x c,X.env.cells.lookup x=a5 c->c≠b)/\∀p∈X.pn++pins,p.1≠b)
  (keep:∀b o,b≠X.env.locals->b∉X.fs->b∉ch->s.heap.get? b=a5 o->H b=bD->h'.get? b=a5 o)
  (slot:∀b o,b≠X.env.locals->b∈X.fs->b∉ch->s.heap.get? b=a5 o->H b=bD->∃C,h'.get? b=a5 {o with slots:=C}) (free:∀b o,b∉ch->s.heap.get? b=a5 o->H b=bD->H' b=bD)
  (there:∀b o,b∉ch->s.heap.get? b=a5 o->∃o',h'.get? b=a5 o')
  (gE:∀b xs,H b=a5 (.tup xs)->H' b=a5 (.tup xs)) (KI:∀b o u,H b=a5 (.Lr o u)->H' b=a5 (.Lr o u)) (KY:∀b ps,H b=a5 (.Ow ps)->∃t,H' b=a5 (.Ow (ps++t)))
  (ns:∀m,s.heap.Ns X.env.locals m->h'.Ns X.env.locals m) (N:KH X.prog X.w H' h') (O:Tf g') :
  Inv X pins σ H' {s with heap:=h',gens:=g',drawn:=d',toks:=t' }:=by
 have G:∀b o,X.s₀.heap.get? b=a5 o->b≠X.env.locals:=λb o e=>ix (i9 (gc e) I.ok.above);have B:∀b o,X.s₀.heap.get? b=a5 o->b∉X.ex->b∉ch:=λb o e a h=>by
  rcases(j b h).1 with z|z
  .show a z
  .show absurd (i9 (gc e) z) (tv _)
 have f:∀x c,X.env.cells.lookup x=a5 c->∀v,s.heap.IsCell c v->h'.IsCell c v:=λx c e v Q=>by
  have(o,ho,D):=Q;have y:c∉ch:=λz=>(j c z).2.2.1 x c e rfl;by_cases J:c∈X.fs
  .have(C,q):=slot c o (I.Ni x c e) J y ho (I.J5 x c e);show#[_,q,D]
  .show#[o,keep c o (I.Ni x c e) J y ho (I.J5 x c e),D]
 show#[I.ok,I.os,O,#[λb o e n h a=>?_,λb o e n h a=>?_,λb o e n a=>?_,λb o e a=>?_,λb xs e=>gE b xs (I.base.gE b xs e),λb o xs e=>KI b o xs (I.base.KI b o xs e),λb ps e=>?_],?_,λx c e=>?_,?_,λx c e=>?_,λp L=>?_,N,I.len]
 .show keep b o (G b o e) h (B b o e a) (I.base.keep b o e n h a) (I.base.free b o e n a)
 .have(C,g):=I.base.slot b o e n h a;have(T,A):=slot b _ (G b o e) h (B b o e a) g (I.base.free b o e n a);show#[T,A]
 .have(o',g):=I.base.there b o e a;show free b o' (B b o e a) g (I.base.free b o e n a)
 .have(o',g):=I.base.there b o e a;show there b o' (B b o e a) g
 .have(m1,g):=I.base.KY b ps e;have(m2,A):=KY b _ g;show#[m1++m2,by rw[A,É]]
 .have(m,Y,hl):=I.loc;show#[m,ns m Y,λi x v g A e3=>?_];have(u,r,l):=hl i x v g A e3;show#[u,r,?_];rcases l with l|⟨k,c,e,z⟩
  .show .inl l
  .show .inr #[k,c,e,f x c e _ z]
 .have(v,z):=I.cell x c e;show#[v,f x c e v z]
 .have(m,(o,_,_,ho,_),_):=I.loc;show free _ o (λz=>(j _ z).2.1 rfl) ho I.free
 .have(v,o,ho,D):=I.cell x c e;show free c o (λz=>(j c z).2.2.1 x c e rfl) ho (I.J5 x c e)
 .have(e,n,ne,nf,d):=I.pin p L;have y:p.1∉ch:=λz=>(j p.1 z).2.2.2 p L rfl;show#[keep p.1 p.2 ne nf y e n,free p.1 p.2 y e n,ne,nf,d]
def Inv.un(I:Inv X pins σ H s)(u:Un X.fs [] H H' s.heap h')(d:KH X.prog X.w H' h'):Inv X pins σ H' {s with heap:=h',toks:=t' }:=by
 have(m,(o,es,ep,ho,r),_):=id I.loc;have(k,f):=u.any ho I.free (by simp);show I.step (g':=s.gens) (d':=s.drawn) (ch:=[]) (λ_ z=>nomatch z) (λb o _ a _ e n=>u.keep b o e n a (by simp)) (λb o _ a _ e n=>u.slot b o e n a (by simp)) (λb o _ e n=>u.free b o e n (by simp)) (λb o _ e=>u.there b o e (by simp)) u.gE u.KI u.KY (λl g=>by
  have(o',h,i,c,j):=g;rw[ho]at c;cases c;show#[_,h,i,f,j]) d I.bare
def Inv.call(I:Inv X pins σ H s)(u:Un (Kj X.stack) ch H H' s.heap h')(h:KH X.prog X.w H' h')(i:Tf g')
  (f:∀b∈ch,(b∈X.ex\/X.s₀.heap.objs.size<=b)/\b≠X.env.locals/\(∀x c,X.env.cells.lookup x=a5 c->c≠b)/\∀p∈X.pn++pins,p.1≠b) :
  Inv X pins σ H' {s with heap:=h',gens:=g',drawn:=d',toks:=t' }:=by
 have(m,(o,es,ep,ho,r),_):=id I.loc;have(v,d):=u.any ho I.free λz=>(f _ z).2.1 rfl;show I.step (ch:=ch) f (λb o d j a e n=>u.keep b o e n (λz=>(d4.mp (I.lG b z)).elim d j) a) (λb o _ _ a e n=>u.any e n a) (λb o a e n=>u.free b o e n a) (λb o a e=>u.there b o e a) u.gE u.KI u.KY (λy k=>by
  have(o',l,q,g,t):=k;rw[ho]at g;cases g;show#[_,l,q,d,t]) h i
def Inv.turned(I:Inv X pins σ H s)(k:∀b o,b≠it->s.heap.get? b=a5 o->h'.get? b=a5 o)(g:H it=bD)(d:it≠X.env.locals)
  (h:it∈X.ex\/X.s₀.heap.objs.size<=it) (i:∀x c,X.env.cells.lookup x=a5 c->c≠it) (j:∀p∈X.pn++pins,p.1≠it):Inv X pins σ H {s with heap:=h',toks:=t' }:=by
 have f:∀b u,H b=a5 u->b≠it:=λb u e z=>by rw[z,g]at e;cases e
 show I.step (g':=s.gens) (d':=s.drawn) (ch:=[it]) (λb l=>?_) (λb o _ _ a e _=>k b o (λz=>a (by simp[z])) e) (λb o _ _ a e _=>#[o.slots,k b o (λz=>a (by simp[z])) e]) (λ_ _ _ _ n=>n)
  (λb o a e=>#[o,k b o (λz=>a (by simp[z])) e]) (λ_ _ e=>e) (λ_ _ _ e=>e) (λb ps e=>#[#v[],by rw[e];simp]) (λm t=>?_) (λb u e=>?_) I.bare
 .have e:b=it:=by simpa using l
  subst e;show#[h,d,i,j]
 .have(o,es,ep,ho,r):=t;show#[o,es,ep,k _ o (nT d) ho,r]
 .show(I.JE b u e).kY (λc v a q=>k c v ?_ q) (λ_ q=>q) λ_ _ q=>q;rcases a with z|z
  .rw[z];show f b u e
  .show f c _ z
def Inv.tok(I:Inv X pins σ H s)(t:Nat):Inv X pins σ H {s with toks:=t}:=I.un (h':=s.heap) (t':=t) Un.refl I.JE
def Inv.kept(I:Inv X pins σ H s)(k:∀b u,s.heap.get? b=a5 u->h'.get? b=a5 u):Inv X pins σ H {s with heap:=h',toks:=t' }:=I.un (Un.kept k) (I.JE.kept k)
def Inv.laid(I:Inv X pins σ H s)(k:∀b u,s.heap.get? b=a5 u->h'.get? b=a5 u)(c:(~~~s)<=a)(new:bO X.prog X.w (upd H a o) h' a o):
  Inv X pins σ (upd H a o) {s with heap:=h',toks:=t' }:=I.un (Un.laid k c (I.JE.fresh c)) (I.JE.laid k c new)
def Inv.write(I:Inv X pins σ H s)(a:QA (H x))(c:e=x\/H e=a5 (.own x))(k:∀b u,b≠e->s.heap.get? b=a5 u->h'.get? b=a5 u)(d:∃u,h'.get? e=a5 u)
  (new:bO X.prog X.w (upd H x o) h' x o):Inv X pins σ (upd H x o) {s with heap:=h',toks:=t' }:=I.un (Un.write a c k d) (I.JE.write a c k d new)
def Inv.weak(I:Inv X pins σ H s)(hl:a.length=σ.length)(w:∀(i:Nat) v,a[i]?=a5 (a5 v)->σ[i]?=a5 (a5 v)):Inv X pins a H s :=
 #[I.ok,I.os,I.bare,I.base,let ⟨m,b,c⟩:=I.loc;⟨m,b,λi x v d e f=>c i x v d (w i v e) f⟩,I.cell,I.free,I.J5,I.pin,I.JE,hl.trans I.len]
def Inv.hJ(I:Inv X pins σ H s)(h:∀p∈a,s.heap.get? p.1=a5 p.2/\H p.1=bD/\p.1≠X.env.locals/\p.1∉X.fs/\∀v,p.2.data≠.cell v):Inv X a σ H s :=
 #[I.ok,I.os,I.bare,I.base,I.loc,I.cell,I.free,I.J5,λp b=>(f6.mp b).elim (λz=>I.pin p (Po _ z)) (h p),I.JE,I.len]
def jg{N:List Str}(c:N.Nodup){i j:Nat}(a:N[i]?=a5 x)(b:N[j]?=a5 x):i=j:=by
 have(f,d):=cL.mp a;have(g,e):=cL.mp b;show(ç c).mp (d.trans e.symm)
def nW(I:Inv X pins σ H s)(hN:X.N.Nodup)(hi:X.N[i]?=a5 x)(l:Loc X.env.scope x)(r:RelV v u)
  (h:∀s',Inv X pins (σ.set i (a5 v)) H s'->(∃a,LM a s.heap s'.heap/\(a=X.env.locals\/X.env.cells.lookup x=a5 a))->Q () s') (hf:X.fn x=a8\/X.env.scope.names.lookup x=a5 .local:=by first|show .inl rfl|show .inr rfl|assumption):du M A (storeName X.env x u) Q E s:=by
 have(m,J,hl):=id I.loc;have OV:(X.env.scope.kind==.class||(X.env.scope.kind==.module&&X.env.locals != X.env.globals))=bL:=by rw[I.ok.kind];rfl
 have Wh:i < σ.length:=by rw[I.len];show(cL.mp hi).1
 have L:=I.Ni;have f:∀{a:df} {h':K2},(∃o,s.heap.get? a=a5 o/\H a=bD)->LM a s.heap h'->KH X.prog X.w H h':=λ{a h'} ha hs b ob e=>by
  have(_,_,J6):=ha;show(I.JE b ob e).kY (λc D hc q=>(hs.2 c ?_).trans q) (λ_ q=>q) λ_ _ q=>q;rintro rfl;rcases hc with rfl|hc
  .rw[J6]at e;cases e
  .rw[J6]at hc;cases hc
 rcases l with hk|hk
 .show wpAny_storeName_local hk J (λh' PX hs=>?_) OV;have(oL,_,_,N3,_):=id J;show h _ #[I.ok,I.os,I.bare,#[λb o e n B l=>?_,λb o e n B l=>?_,I.base.free,λb o e l=>?_,I.base.gE,I.base.KI,I.base.KY],#[_,PX,λj y v' g t O=>?_],λy c e=>?_,I.free,I.J5,λp T=>?_,f #[oL,N3,I.free] hs,by simpa using I.len] ⟨_,hs,.inl rfl⟩
  .show(hs.2 b (ix (i9 (gc e) I.ok.above))).trans (I.base.keep b o e n B l)
  .have(Y,g):=I.base.slot b o e n B l;show#[Y,(hs.2 b (ix (i9 (gc e) I.ok.above))).trans g]
  .have(o',g):=I.base.there b o e l;show#[o',(hs.2 b (ix (i9 (gc e) I.ok.above))).trans g]
  .by_cases C:j=i
   .subst C;rw[hi]at g;cases g;rw[c4 Wh]at t;cases t;show#[u,r,.inl #[hk,by simp]]
   .rw[f7 (nT C)]at t;have(u',r',q):=hl j y v' g t O;show#[u',r',?_];rcases q with⟨k,e⟩|⟨k,c,e,z⟩
    .show .inl #[k,?_];have:y≠x:=λe=>C (jg hN g (e▸hi));simp[this,e]
    .show .inr #[k,c,e,z.sameBut hs (L y c e)]
  .have(D,z):=I.cell y c e;show#[D,z.sameBut hs (L y c e)]
  .have(e,n,ne,nf,d):=I.pin p T;show#[(hs.2 p.1 ne).trans e,n,ne,nf,d]
 .have MJ:X.fn x=a8:=by
   rcases hf with z|z
   .show z
   .rw[z]at hk;cases hk
  have(c,hc):=I.ok.has x (.inl hk);have(D,z):=I.cell x c hc;show wpAny_storeName_cell I.ok.kind hk hc z (λh' NJ hs=>?_);have(oc,Wi,Tc):=id z;show h {s with heap:=h' } ⟨I.ok,I.os,I.bare,⟨λb o e n B l=>?_,λb o e n B l=>?_,I.base.free,λb o e l=>?_,I.base.gE,I.base.KI,I.base.KY⟩,⟨m,J.sameBut hs (nT (L x c hc)),λj y v' g t O=>?_⟩,λy G e=>?_,I.free,I.J5,λp T=>?_,f ⟨oc,Wi,I.J5 x c hc⟩ hs,by simpa using I.len⟩ ⟨c,hs,.inr hc⟩
  .show(hs.2 b (ix (i9 (gc e) (I.ok.OU x c MJ hc)))).trans (I.base.keep b o e n B l)
  .have(Y,g):=I.base.slot b o e n B l;show#[Y,(hs.2 b (ix (i9 (gc e) (I.ok.OU x c MJ hc)))).trans g]
  .have(o',g):=I.base.there b o e l;show#[o',(hs.2 b (ix (i9 (gc e) (I.ok.OU x c MJ hc)))).trans g]
  .by_cases C:j=i
   .subst C;rw[hi]at g;cases g;rw[c4 Wh]at t;cases t;show#[u,r,.inr #[.inl hk,c,hc,NJ]]
   .rw[f7 (nT C)]at t;have(u',r',q):=hl j y v' g t O;show#[u',r',?_];rcases q with q|⟨k,G,e,z'⟩
    .show .inl q
    .show .inr #[k,G,e,z'.sameBut hs ?_];rintro rfl;show C (jg hN g (I.ok.inj _ _ _ e hc▸hi))
  .by_cases Wj:G=c
   .subst Wj;show#[_,NJ]
   .have(w2,z2):=I.cell y G e;show#[w2,z2.sameBut hs Wj]
  .have(e,n,ne,nf,d):=I.pin p T;show#[(hs.2 p.1 ?_).trans e,n,ne,nf,d];intro q;rw[q,Wi]at e;have q':oc=p.2:=ti e;show d D (by rw[<-q'];show Tc)
def lH(I:Inv X pins σ H s)(a:X.N.Nodup)(hi:X.N[i]?=a5 x)(b:Loc X.env.scope x)(r:RelV v u)
  (h:∀s',Inv X pins (σ.set i (a5 v)) H s'->Q () s') (c:X.fn x=a8\/X.env.scope.names.lookup x=a5 .local:=by first|show .inl rfl|show .inr rfl|assumption):du M A (storeName X.env x u) Q E s :=
 nW I a hi b r (λs' d _=>h s' d) c
def Inv.Dn(I:Inv X pins σ H s)(ho:s'.os=s.os)(u:Un (Kj X.stack) ch H H' s.heap s'.heap)(a:KH X.prog X.w H' s'.heap)(d:Tf s'.gens)
  (f:∀b∈ch,(b∈X.ex\/X.s₀.heap.objs.size<=b)/\b≠X.env.locals/\(∀x c,X.env.cells.lookup x=a5 c->c≠b)/\∀p∈X.pn++pins,p.1≠b):Inv X pins σ H' s':=by
 have(h',g',d',t',o'):=s';have e:o'=s.os:=ho;subst e;show I.call (g':=g') (t':=t') (d':=d') u a d f
end
@[reducible]noncomputable def XK:=cK->Option df->Hp->Prop
@[reducible]noncomputable def St:=List (Option V)
@[reducible]noncomputable def VK:=V->Hp->Prop
@[reducible]noncomputable def TE:=St->Hp->VK->Prop
@[reducible]noncomputable def TT:=St->Hp->(Bool->Hp->Prop)->Prop
@[reducible]noncomputable def TA:=St->Hp->(List V->Hp->Prop)->Prop
structure Ends where
 nx:St->Hp->Prop
 rt:VK
 bk:St->Hp->Prop:=λ_ _=>False
 ct:St->Hp->Prop:=λ_ _=>False
@[reducible]noncomputable def TS:=Ends->St->Hp->Prop
abbrev EP(X:Cx)(a:List (df×Obj))(σ:St)(Q:VK)(u:cK)(s':dt):Prop:=∃v H',Inv X a σ H' s'/\RelV v u/\Q v H'
abbrev TP(X:Cx)(a:List (df×Obj))(σ:St)(Q:Bool->Hp->Prop)(b:Bool)(s':dt):Prop:=∃H',Inv X a σ H' s'/\Q b H'
abbrev AP(X:Cx)(a:List (df×Obj))(σ:St)(Q:List V->Hp->Prop)(us:List cK)(s':dt):Prop:=∃vs H',Inv X a σ H' s'/\Vals vs us/\Q vs H'
abbrev SP(X:Cx)(a:List (df×Obj))(D:Ends)(f:Flow)(s':dt):Prop :=
 match f with
 |.next=>∃b H',Inv X a b H' s'/\D.nx b H'
 |.brk=>∃b H',Inv X a b H' s'/\D.bk b H'
 |.cont=>∃b H',Inv X a b H' s'/\D.ct b H'
 |.ret u=>∃v b H',Inv X a b H' s'/\RelV v u/\D.rt v H'
abbrev PE(X:Cx)(e:lx)(t:TE):Prop :=
 ∀(a:List (df×Obj)) (s:dt) (σ:St) (H:Hp) (Q:VK),Inv X a σ H s->t σ H Q->‹X› (tj e X.env) (EP X a σ Q) X.xe s
abbrev PT(X:Cx)(e:lx)(t:TT):Prop :=
 ∀(a:List (df×Obj)) (s:dt) (σ:St) (H:Hp) (Q:Bool->Hp->Prop),Inv X a σ H s->t σ H Q->‹X› (isTrue e X.env (tj e X.env)) (TP X a σ Q) X.xe s
abbrev PW(X:Cx)(e:lx)(t:TT):Prop :=
 ∀(b:Sem cK) (a:List (df×Obj)) (s:dt) (σ:St) (H:Hp) (Q:Bool->Hp->Prop),Inv X a σ H s->t σ H Q->‹X› (isTrue e X.env b) (TP X a σ Q) X.xe s
def PW.pt(h:PW X e t):PT X e t:=h _
abbrev PA(X:Cx)(es:List lx)(t:TA):Prop :=
 ∀(pos:Pos) (a:List (df×Obj)) (s:dt) (σ:St) (H:Hp) (Q:List V->Hp->Prop),Inv X a σ H s->t σ H Q->‹X› (Ï (uv pos (gj es X.env))) (AP X a σ Q) X.xe s
abbrev PS(X:Cx)(st:LX)(t:TS):Prop :=
 ∀(a:List (df×Obj)) (s:dt) (σ:St) (H:Hp) (D:Ends),Inv X a σ H s->t D σ H->‹X› (exec st X.env) (SP X a D) X.xe s
abbrev KZ(X:Cx)(st:List LX)(t:TS):Prop :=
 ∀(a:List (df×Obj)) (s:dt) (σ:St) (H:Hp) (D:Ends),Inv X a σ H s->t D σ H->‹X› (execs st X.env) (SP X a D) X.xe s
def JJ(h:du M A t Q E s)(b:∀a s,Q a s->Q' a s):du M A t Q' E s:=mu h b λ_ _ x=>x
section
def bin(g:PE X a i)(j:PE X b tb){R:V->V->Hp->Prop}(I:Inv X c σ H s)(h:i σ H λx e=>tb σ e λy d=>R x y d)
 {Q:α->dt->Prop} {f:cK->cK->Sem α}
    (k:∀v u s2 x y d,Inv X c σ d s2->RelV x v->RelV y u->R x y d->‹X› (f v u) Q X.xe s2) :
    ‹X› (tj a X.env) (λv l=>‹X› (tj b X.env) (λu m=>‹X› (f v u) Q X.xe m) X.xe l) X.xe s:=by
  show JJ (g c s σ H _ I h) λv s1 n=>?_;have(x,e,o,r1,p):=n;show JJ (j c s1 σ e _ o p) λu s2 q=>?_;have(y,d,r,r2,t):=q;show k v u s2 x y d r r1 r2 t
abbrev D1(i:Nat):TE:=λσ H Q=>∃v,σ[i]?=a5 (a5 v)/\Q v H
abbrev tC(v:V):TE:=λ_ H Q=>Q v H
def bf(j:X.N[i]?=a5 x)(k:KA X.env.scope x)(d:(x==("__debug__":Str))=bL:=by decide)(n:(x==("__classdict__":Str))=bL:=by decide):PE X (.Name x pos) (D1 i):=by
 intro b s σ H Q I h;have(v,e,h):=h;have(m,o,hl):=I.loc;have(u,r,l):=hl i x v j e k;have a:EP X b σ Q u s:=#[v,H,I,r,h]
 rcases l with⟨hk,p⟩|⟨hk,c,f,g⟩
 .show Ą (wpAny_loadName_local I.ok.kind hk o p a) d
 .rcases hk with hk|hk
  .show Ą (wpAny_loadName_cell I.ok.kind hk f g a) d
  .show Ą (wpAny_loadName_free I.ok.kind hk f g a n) d
def xO:PE X (.Constant (.int i) j pos) (tC (.int i)):=λ_ _ _ H _ I h=>wpAny_Constant_int #[.int i,H,I.tok _,#[_,rfl],h]
def Dp:PE X (.Constant (.bool b) j pos) (tC (.bl b)):=λ_ _ _ H _ I h=>Constant_bool #[.bl b,H,I,rfl,h]
def xP:PE X (.Constant .none j pos) (tC .JN):=λ_ _ _ H _ I h=>Constant_none #[.JN,H,I,rfl,h]
def xQ:PE X (.Constant (.str x) j pos) (tC (.str x)):=λ_ _ _ H _ I h=>Calls.Constant_str #[.str x,H,I.tok _,#[_,rfl],h]
abbrev Gl(X:Cx)(x:Str):Prop:=X.env.kindOf x=a5 .globalImplicit
def eQ(I:Inv X a σ H s)(b:Gl X x)(c:X.mg x=a5 u)(h:Q u s)
  (d:(x==("__debug__":Str))=bL:=by decide):‹X› (tj (.Name x pos) X.env) Q E s :=
 Xc I.ok.kind b (Calls.loadGlobal_global (by rw[I.ok.glob];show I.mod.glob.keeps I.bk) c h) d
def dN(I:Inv X a σ H s)(b:Gl X x)(c:X.mg x=bD)(d:vl x=a5 u)(h:Q u s)
  (e:x≠"__name__":=by decide) (f:(x==("__debug__":Str))=bL:=by decide):‹X› (tj (.Name x pos) X.env) Q E s:=by
 have(j,g,i):=I.mod.blt;show Xc I.ok.kind b (Calls.loadGlobal_builtin (by rw[I.ok.glob];show I.mod.glob.keeps I.bk) c (by rw[I.ok.blt];show g.keeps I.bk) ((i x e).trans d) h) f
def A4(a:Gl X x)(b:X.mg x=a5 u)(r:RelV v u)(c:(x==("__debug__":Str))=bL:=by decide):PE X (.Name x pos) (tC v) :=
 λ_ _ _ H _ I h=>eQ I a b #[v,H,I,r,h] c
def A5(a:Gl X x)(b:X.mg x=bD)(c:vl x=a5 u)(r:RelV v u)(d:x≠"__name__":=by decide)(e:(x==("__debug__":Str))=bL:=by decide):PE X (.Name x pos) (tC v) :=
 λ_ _ _ H _ I h=>dN I a b c #[v,H,I,r,h] d e
abbrev PC(X:Cx)(op:CmpOp)(a b:lx)(t:TE):Prop :=
 ∀(c:List (df×Obj)) (s:dt) (σ:St) (H:Hp) (Q:VK),Inv X c σ H s->t σ H Q ->
  ‹X› (tj a X.env) (λv d=>‹X› (tj b X.env) (λu e=>‹X› (Pc op v u) (EP X c σ Q) X.xe e) X.xe d) X.xe s
abbrev tB(t:TE):TT:=λσ H Q=>t σ H λx a=>∃c,x=.bl c/\Q c a
def xR(h:PC X op a b t)(f:RG op b=bL:=by first|show m _ (by decide) (by decide)|rfl):PT X (.Compare a [op] [b] pos) (tB t):=by
 intro e s σ H Q I g;show UB (JJ (h e s σ H _ I g) λv s1 f=>JJ f λu s2 i=>JJ i λc s3 ⟨x,j,k,r1,l⟩=>?_) f;have(d,rfl,q):=l;cases r1;show Lp #[j,k,q]
abbrev IG(t u:TT):TT:=λσ H Q=>t σ H λc a=>if c=a8 then u σ a Q else Q bL a
abbrev XX(t u:TT):TT:=λσ H Q=>t σ H λc a=>if c=a8 then Q a8 a else u σ a Q
abbrev IH(t:TT):TT:=λσ H Q=>t σ H λc a=>Q (!c) a
def A6(d:PT X a f):PW X (.BoolOp .And [a] pos) f:=by
 intro g b s σ H Q I h;show isTrue_and (JJ (d b s σ H Q I h) λc s1 e=>?_);cases c with
 |true=>show Ő e
 |false=>show e
def D2(d:PT X a f):PW X (.BoolOp .Or [a] pos) f:=by
 intro g b s σ H Q I h;show isTrue_or (JJ (d b s σ H Q I h) λc s1 e=>?_);cases c with
 |false=>show isTrue_or_nil e
 |true=>show e
def D3(j:PT X a k)(l:PW X (.BoolOp .And (b::e) pos) m):PW X (.BoolOp .And (a::b::e) pos) (IG k m):=by
 intro n d s σ H Q I h;show isTrue_and (JJ (j d s σ H _ I h) λc s1 o=>?_);have(f,g,i):=o;cases c with
 |true=>show l n d s1 σ f Q g i
 |false=>show#[f,g,i]
def GP(j:PT X a k)(l:PW X (.BoolOp .Or (b::e) pos) m):PW X (.BoolOp .Or (a::b::e) pos) (XX k m):=by
 intro n d s σ H Q I h;show isTrue_or (JJ (j d s σ H _ I h) λc s1 o=>?_);have(f,g,i):=o;cases c with
 |true=>show#[f,g,i]
 |false=>show l n d s1 σ f Q g i
def D4(d:PT X a e):PT X (.UnaryOp .Not a pos) (IH e):=by
 intro b s σ H Q I h;show isTrue_not (d b s σ H (λc f=>Q (!c) f) I h)
abbrev GQ(b tb:TE):TE:=λσ H Q=>b σ H λx a=>∃c,x=.bl c/\if c=a8 then tb σ a Q else Q (.bl bL) a
abbrev GR(a:TE):TE:=λσ H Q=>a σ H λx b=>∃c,x=.bl c/\Q (.bl (!c)) b
def D5(h:PE X a t):PE X (.BoolOp op [a] pos) t:=λb s σ H Q I c=>BoolOp_one (h b s σ H Q I c)
def D6(j:PE X a k)(l:PE X (.BoolOp .And (b::e) pos) tb):PE X (.BoolOp .And (a::b::e) pos) (GQ k tb):=by
 intro d s σ H Q I h;show BoolOp_and (JJ (j d s σ H _ I h) λv s1 m=>?_);have(x,g,i,r1,f):=m;have(c,rfl,f):=f;cases r1;show Lp ?_;cases c with
 |true=>show l d s1 σ g Q i f
 |false=>show#[.bl bL,g,i,rfl,f]
def D7(e:PE X a f):PE X (.UnaryOp .Not a pos) (GR f):=by
 intro b s σ H Q I h;show UnaryOp_ (JJ (e b s σ H _ I h) λv s1 g=>?_);have(x,i,j,r1,d):=g;have(c,rfl,d):=d;cases r1;show not_of (Lp #[.bl (!c),i,j,rfl,d])
abbrev X2(t:TT)(b tb:TE):TE:=λσ H Q=>t σ H λc a=>if c=a8 then b σ a Q else tb σ a Q
def xS(j:PT X c k)(l:PE X a m)(n:PE X b tb):PE X (.IfExp c a b pos) (X2 k m tb):=by
 intro e s σ H Q I h;show wpAny_IfExp (JJ (j e s σ H _ I h) λd s1 o=>?_);have(f,g,i):=o;cases d with
 |true=>show l e s1 σ f Q g i
 |false=>show n e s1 σ f Q g i
end
abbrev Kh(K:PySem.W.Frag)(H:Hp)(a:df)(xs:List V):Prop :=
 Rd H a (.lst xs) \/
  ∃(o:Obj) (b:Array cK) (n:Nat),K.lookup a=a5 o/\o.cls=.type "list"/\o.dict=bD/\o.data=.seq b n/\b.size<=b6/\Vals xs b.toList
abbrev Ki(K:PySem.W.Frag)(H:Hp)(a:df)(xs:List V):Prop :=
 Rd H a (.tup xs) \/
  ∃(o:Obj) (b:Array cK) (n:Nat),K.lookup a=a5 o/\o.cls=.type "tuple"/\o.data=.seq b n/\b.size<=b6/\Vals xs b.toList
abbrev II:cK->Option V
 |.none=>a5 .JN
 |.bool b=>a5 (.bl b)
 |.int i _=>a5 (.int i)
 |.str x _=>a5 (.str x)
 |.bytes b _=>a5 (.Qy b)
 |.float b _=>a5 (.Qz b)
 |.ref a=>a5 (.ref a)
 |.type n=>a5 (.ty n)
 |_=>bD
def RelV.abs(r:RelV x u):II u=a5 x:=by
 cases x with
 |JN=>cases r;rfl
 |bl _=>cases r;rfl
 |ref _=>cases r;rfl
 |ty _=>cases r;rfl
 |_=>have(t,rfl):=r;rfl
def RelV.inj(r:RelV x u)(q:RelV y u):x=y:=ti (r.abs.symm.trans q.abs)
theorem Vals.inj:∀{xs ys:List V}{us:List cK},Vals xs us->Vals ys us->xs=ys
 |_,_,_,.nil,.nil=>rfl
 |_,_,_,.cons r t,.cons a t'=>by rw[r.inj a,Vals.inj t t']
section
def Kh.of{K:PySem.W.Frag}(h:H a=a5 (.lst xs)):Kh K H a xs:=.inl (.inl h)
def Ki.of{K:PySem.W.Frag}(h:H a=a5 (.tup xs)):Ki K H a xs:=.inl (.inl h)
def Inv.list(I:Inv X c σ H s)(h:Kh X.K H a xs):∃b:List cK,Vals xs b/\PlainL s.heap a b.toArray/\xs.length<=b6:=by
 rcases h with h|⟨o,b,n,hk,d,f,hs,hz,r⟩
 .have(z,b,n,r,e):=h.ok I.JE;show#[b,r,#[_,n,e,rfl,rfl,rfl],z]
 .show#[b.toList,r,#[o,n,I.Li a o hk,d,f,by simpa using hs],?_];have e:=r.length;simp only[sL]at e;lia
def Inv.tuple(I:Inv X c σ H s)(h:Ki X.K H a xs):∃b:List cK,Vals xs b/\V8 s.heap a b.toArray/\xs.length<=b6:=by
 rcases h with h|⟨o,b,n,hk,d,hs,hz,r⟩
 .have(z,b,r,p):=h.ok I.JE;show#[b,r,p,z]
 .show#[b.toList,r,#[o,I.Li a o hk,d,n,by simpa using hs],?_];have e:=r.length;simp only[sL]at e;lia
def Inv.qC(I:Inv X b σ H s)(h:Kh X.K H a xs)(h':Kh X.K H a ys):xs=ys:=by
 have(f,r,(o,n,e,_,_,d),_):=I.list h;have(its',g,(o',j,c,_,_,d'),_):=I.list h';rw[e]at c;cases c;rw[d]at d';injection d' with i _
 have:f=its':=by simpa using Ś X5 i
 subst this;show r.inj g
def Inv.nX(I:Inv X b σ H s)(h:Ki X.K H a xs)(h':Ki X.K H a ys):xs=ys:=by
 have(f,r,(o,e,_,n,d),_):=I.tuple h;have(its',g,(o',c,_,j,d'),_):=I.tuple h';rw[e]at c;cases c;rw[d]at d';injection d' with i _
 have:f=its':=by simpa using Ś X5 i
 subst this;show r.inj g
end
@[reducible]noncomputable def Cx.jP(X:Cx)(E:cK->dt->Prop):Cx:={X with xe:=E}
@[reducible]noncomputable def Cx.L_(X:Cx):Cx:=X.jP λ_ _=>False
def Cx.Ok.jP{X:Cx}(a:X.Ok)(E:cK->dt->Prop):(X.jP E).Ok :=
 #[a.mod,a.kind,a.glob,a.blt,a.above,a.inj,a.has,a.OU,a.hd,a.frames,a.PU,a.R5,a.bs,a.M3,a.Md,a.MI,a.iO,a.NG]
def Cx.Ok.eV{X:Cx}(a:(X.jP E).Ok):X.Ok :=
 #[a.mod,a.kind,a.glob,a.blt,a.above,a.inj,a.has,a.OU,a.hd,a.frames,a.PU,a.R5,a.bs,a.M3,a.Md,a.MI,a.iO,a.NG]
section
def Inv.jP(I:Inv X a σ H s)(E:cK->dt->Prop):Inv (X.jP E) a σ H s:=#[I.ok.jP E,I.os,I.bare,I.base,I.loc,I.cell,I.free,I.J5,I.pin,I.JE,I.len]
def Inv.eV(I:Inv (X.jP E) a σ H s):Inv X a σ H s:=#[I.ok.eV,I.os,I.bare,I.base,I.loc,I.cell,I.free,I.J5,I.pin,I.JE,I.len]
def SP.eV(h:SP (X.jP E) a D f s'):SP X a D f s':=by
 cases f with
 |ret u=>have(v,b,H',I,r,q):=h;show#[v,b,H',I.eV,r,q]
 |_=>have(b,H',I,q):=h;show#[b,H',I.eV,q]
def KZ.L_{st:List LX}(h:KZ X.L_ st t):KZ X st t:=λa s σ H D I b =>
 mu (h a s σ H D (I.jP _) b) (λ_ _ q=>q.eV) λ_ _ z=>wk z
end
section
variable{X:Cx}{st:LX}{rest:List LX}{t u:TS}{e:lx}{te:TE}{pos:Pos}
abbrev GS:TS:=λD σ H=>D.nx σ H
abbrev IJ(t u:TS):TS:=λD σ H=>t {D with nx:=u D} σ H
def ll:KZ X [] GS:=λ_ _ σ H _ I h=>Nd #[σ,H,I,h]
def gw(b:PS X st t)(c:KZ X rest u):KZ X (st::rest) (IJ t u):=by
 intro a s σ H D I h;show TR (JJ (b a s σ H {D with nx:=u D} I h) λf s1 q=>?_);cases f with
 |next =>
  have(d,H',g,q):=q;show c a s1 d H' D g q
 |_=>show q
def Inv.quiet(I:Inv X a σ H s):interactive X.env=bL:=by simp[interactive,I.ok.kind]
abbrev Dq(te:TE):TS:=λD σ H=>te σ H λ_ a=>D.nx σ a
def jh(b:PE X e te)(hs:PL e bD pos.line X.env=pure bL:=by rfl):PS X (.Expr e pos) (Dq te):=by
 intro a s σ H D I h;show Yi (JJ (b a s σ H _ I h) λv s1 ⟨x,c,d,r1,f⟩=>#[σ,c,d,f]) I.quiet hs
abbrev IK(te:TE):TS:=λD σ H=>te σ H D.rt
def xT(b:PE X e te):PS X (.Return (a5 e) pos) (IK te):=by
 intro a s σ H D I h;show wpAny_Return_some (JJ (b a s σ H _ I h) λv s1 ⟨x,c,d,r1,f⟩=>#[x,σ,c,d,r1,f])
abbrev IL(c:TT)(t u:TS):TS:=λD σ H=>c σ H λb a=>if b=a8 then t D σ a else u D σ a
def GU(k:PT X c l)(m:KZ X a t)(n:KZ X b u):PS X (.If c a b pos) (IL l t u):=by
 intro f s σ H D I h;show wpAny_If (JJ (k f s σ H _ I h) λd s1 o=>?_);have(g,i,j):=o;cases d with
 |true=>show m f s1 σ g D i j
 |false=>show n f s1 σ g D i j
end
@[reducible]noncomputable def TG:=V->St->Hp->(St->Hp->Prop)->Prop
@[reducible]noncomputable def PY:=List V->St->Hp->(St->Hp->Prop)->Prop
abbrev PG(X:Cx)(a:lx)(t:TG):Prop :=
 ∀(b:List (df×Obj)) (s:dt) (σ:St) (H:Hp) (v:V) (u:cK) (Q:St->Hp->Prop),Inv X b σ H s->RelV v u->t v σ H Q ->
  ‹X› (S5 a X.env u) (λ_ s'=>∃c H',Inv X b c H' s'/\Q c H') X.xe s
abbrev QF(X:Cx)(ts:List lx)(t:PY):Prop :=
 ∀(a:List (df×Obj)) (s:dt) (σ:St) (H:Hp) (vs:List V) (us:List cK) (Q:St->Hp->Prop),Inv X a σ H s->Vals vs us->t vs σ H Q ->
  ‹X› (assignInOrder ((QC ts X.env).map (·.2)) us) (λ_ s'=>∃b H',Inv X a b H' s'/\Q b H') X.xe s
@[reducible]noncomputable def D8:=V->V->V->Hp->(Hp->Prop)->Prop
abbrev oR(X:Cx)(t:D8):Prop :=
 ∀(a:List (df×Obj)) (s:dt) (σ:St) (H:Hp) (o i v:V) (b c u:cK) (Q:Hp->Prop),Inv X a σ H s->RelV o b->RelV i c->RelV v u->t o i v H Q ->
  ‹X› (Ud b c u) (λ_ s'=>∃H',Inv X a σ H' s'/\Q H') X.xe s
@[reducible]noncomputable def Te:=V->V->Hp->VK->Prop
abbrev R7(X:Cx)(op:ï)(t:Te):Prop :=
 ∀(a:List (df×Obj)) (s:dt) (σ:St) (H:Hp) (x y:V) (v u:cK) (Q:VK),Inv X a σ H s->RelV x v->RelV y u->t x y H Q ->
  ‹X› (inplaceOp op v u) (EP X a σ Q) X.xe s
section
abbrev uJ(i:Nat):TG:=λv σ H Q=>Q (σ.set i (a5 v)) H
def uK(b:X.N.Nodup)(hi:X.N[i]?=a5 x)(c:Loc X.env.scope x)(d:X.fn x=a8\/X.env.scope.names.lookup x=a5 .local:=by first|show .inl rfl|show .inr rfl|assumption):PG X (.Name x pos) (uJ i):=by
 intro a s σ H v u Q I r h;show ĕ (lH I b hi c r (λs' e=>#[_,H,e,h]) d)
abbrev GV:PY:=λvs σ H Q=>vs=[]/\Q σ H
abbrev Dr(t:TG)(u:PY):PY:=λvs σ H Q=>∃v r,vs=v::r/\t v σ H λa H'=>u r a H' Q
def A7:QF X [] GV:=by
 intro a s σ H vs us Q I r h;have(e,h):=h;subst e;cases r;show assignInOrder_nil #[σ,H,I,h]
def xU(b:PG X e t)(c:QF X es u)
  (hs:(QC (e::es) X.env).map (·.2)=S5 e X.env::(QC es X.env).map (·.2):=by rfl):QF X (e::es) (Dr t u):=by
 intro a s σ H vs us Q I r h;have(v,m,d,h):=h;subst d;cases r with
 |cons r f =>
  rw[hs];show assignInOrder_cons (JJ (b a s σ H _ _ _ I r h) λ_ s1 g=>?_);have(i,j,k,l):=g;show c a s1 i j _ _ Q k f l
abbrev IM(K:PySem.W.Frag)(n:Nat)(t:PY):TG:=λv σ H Q=>∃a xs,v=.ref a/\Ki K H a xs/\xs.length=n/\t xs σ H Q
def D9(f:X.calm=a8)(h:QF X es t)
  (g:(QC es X.env).length=n:=by rfl) (i:(QC es X.env).findIdx? (·.1)=bD:=by rfl):PG X (.Tuple es k pos) (IM X.K n t):=by
 intro c s σ H v u Q I r d;have(a,xs,j,l,hl,d):=d;subst j;cases r;have(w,rv,m,hz):=I.tuple l;show assign_Tuple_tuple (I.ok.hd f) m (by simp[g,<-hl,rv.length]) i λh' p=>?_;have q:Inv X c σ H {s with heap:=h' }:=I.kept (t':=s.toks) λb o e=>p b o (ix (gc e)) e;show h c _ σ H xs _ Q q (by simpa using rv) d
abbrev IQ(a b:TE)(t:D8):TG:=λv σ H Q=>a σ H λo c=>b σ c λi d=>t o i v d λe=>Q σ e
def xV(ho:PE X o d)(hi:PE X i e)(hs:oR X t)
  (f:∀v,S5 (.Subscript o i pos) X.env v=(do
   let b <-K9 [v] (tj o X.env)
   let c <-K9 [v,b] (tj i X.env)
   R6 pos
   K9 [v,b,c] (Ud b c v)
   WW [v,b,c] []):=by intro _;rfl):PG X (.Subscript o i pos) (IQ d e t):=by
 intro a s σ H v u Q I r h;rw[f];show bR (x4 (JJ (ho a s σ H _ I h) λb s1 g=>?_));have(x,j,k,r1,l):=g;show bR (x4 (JJ (hi a s1 σ j _ k l) λc s2 m=>?_));have(y,n,p,r2,q):=m;show bR (Zz (bR (x4 (JJ (hs a s2 σ n x y v b c u _ p r1 r2 r q) λ_ s3 w=>?_))));have(z,A,B):=w;show wpAny_release #[σ,z,A,B]
abbrev D_(te:TE)(g:TG):TS:=λD σ H=>te σ H λx a=>g x σ a D.nx
def r9(c:PE X e te)(d:PG X b g)(hs:RE [b] e pos.line X.env=pure bL:=by rfl)(f:VT [b] e X.env=pure bD:=by rfl)
  (i:(QC [b] X.env).map (·.2)=[S5 b X.env]:=by rfl):PS X (.Assign [b] e pos) (D_ te g):=by
 intro a s σ H D I h;show wpAny_Assign_stores (JJ (c a s σ H _ I h) λv s1 ⟨x,j,k,r1,l⟩=>?_) hs f;rw[i];show JJ (d a s1 σ j x v _ k r1 l) λ_ s2 q=>q
def oS(b:X.N.Nodup)(hi:X.N[i]?=a5 x)(c:Loc X.env.scope x)(d:PE X e te)(hs:PL e (a5 (.Name x pos')) pos.line X.env=pure bL:=by rfl)(f:X.fn x=a8\/X.env.scope.names.lookup x=a5 .local:=by first|show .inl rfl|show .inr rfl|assumption):
  PS X (.Assign [.Name x pos'] e pos) (D_ te (uJ i)):=by
 intro a s σ H D I h;show wpAny_Assign_Name (JJ (d a s σ H _ I h) λv s1 ⟨y,g,j,r1,k⟩=>?_) hs;show lH j b hi c r1 (λs2 l=>#[_,g,l,k]) f
abbrev GW(a b te:TE)(c:V->V->Hp->VK->Prop)(d:Te)(e:D8):TS:=λD σ H=>a σ H λo f=>b σ f λi g=>c o i g λx h=>te σ h λy j=>d x y j λz k=>e o i z k λl=>D.nx σ l
abbrev GX(X:Cx)(t:V->V->Hp->VK->Prop):Prop :=
 ∀(a:List (df×Obj)) (s:dt) (σ:St) (H:Hp) (o i:V) (b c:cK) (Q:VK),Inv X a σ H s->RelV o b->RelV i c->t o i H Q ->
  ‹X› (R' b c) (EP X a σ Q) X.xe s
def A8(ho:PE X o j)(hi:PE X i k)(l:GX X m)(n:PE X e te)(p:R7 X op q)(hs:oR X r)
  (t:∀b c new,Ň i b c new=(do K9 [new,b,c] (Ud b c new);WW [new,b,c] [];pure .next):=by intros;rfl):PS X (.AugAssign (.Subscript o i X6) op e pos) (GW j k te m q r):=by
 intro a s σ H D I h;show wpAny_AugAssign_SubscriptAny (JJ (ho a s σ H _ I h) λb s1 ⟨f,u,w,r1,x⟩=>?_) t;show JJ (hi a s1 σ u _ w x) λc s2 y=>?_;have(g,z,A,r2,B):=y;show JJ (l a s2 σ z f g b c _ A r1 r2 B) λd s3 C=>?_;have(G,J,L,N,O):=C;show JJ (n a s3 σ J _ L O) λv s4 Q=>?_;have(T,Y,I4,r4,q4):=Q;show JJ (p a s4 σ Y G T d v _ I4 N r4 q4) λnew s5 Tq=>?_;have(x5,H5,I5,r5,q5):=Tq;show JJ (hs a s5 σ H5 f g x5 b c new _ I5 r1 r2 r5 q5) λ_ s6 ⟨H6,I6,q6⟩=>#[σ,H6,I6,q6]
abbrev Tr(f:Int->Int->Int):Te:=λx y H Q=>∃i j,x=.int i/\y=.int j/\Q (.int (f i j)) H
def Ea:R7 X .Add (Tr λi j=>i+j):=by
 intro a s σ H x y v u Q I r1 r2 h;have(i,j,b,c,q):=h;subst b;subst c;have(t,rfl):=r1;have(t',rfl):=r2;show iadd_int #[.int _,H,I.tok _,#[_,rfl],q]
def Eb:R7 X .Sub (Tr λi j=>i - j):=by
 intro a s σ H x y v u Q I r1 r2 h;have(i,j,b,c,q):=h;subst b;subst c;have(t,rfl):=r1;have(t',rfl):=r2;show isub_int #[.int _,H,I.tok _,#[_,rfl],q]
end
section
abbrev Ec(c:TT)(tb:TS):TS:=λD σ H=>∃W:Nat->St->Hp->Prop,(∃m,W m σ H)/\∀m σ H,W m σ H ->
 c σ H λb a=>if b=a8 then ∃N:St->Hp->Prop,(∀d H',N d H'->∃e,e<m/\W e d H')/\tb {D with nx:=N,ct:=N,bk:=D.nx} σ a else D.nx σ a
def xW(r:XO (d5 X.prog X.w) X.A X.env X.xe)(z:PT X c B)(C:KZ X body tb):PS X (.While c body [] pos) (Ec B tb):=by
 intro a s σ H D I h;have(W,(m0,G),d):=h;show wpAny_While (codeAny_whileLoop (λn s'=>∃t H',Inv X a t H' s'/\W n t H') ?_ m0 ⟨σ,H,I,G⟩);rintro n s1 ⟨i,u,J,L⟩;show O5 r (JJ (z a s1 i u _ J (d n i u L)) λb s2 O=>?_);have(v,x,j):=O;cases b with
 |true =>
  have(N,y,j):=j;rw[Ŕ rfl];show O5 r (JJ (C a s2 i v _ x j) λf s3 k=>?_);cases f with
  |next =>
   have(e,g,l,m):=k;have(o,p,q):=y e g m;show#[o,p,e,g,l,q]
  |cont =>
   have(e,g,l,m):=k;have(o,p,q):=y e g m;show#[o,p,e,g,l,q]
  |_=>show k
 |false =>
  rw[ŕ i7];show Nd #[i,v,x,j]
end
structure It where
 go:Nat->Hp->Prop
 R8:Nat->Hp->V->Hp->Prop
 stop:Nat->Hp->Prop
abbrev iP(X:Cx)(a:List (df×Obj))(H:Hp)(b:df):Prop :=
 H b=bD/\b≠X.env.locals/\b∉X.fs/\(b∈X.ex\/X.s₀.heap.objs.size<=b)/\(∀x c,X.env.cells.lookup x=a5 c->c≠b)/\∀p∈X.pn++a,p.1≠b
def Inv.xX(I:Inv X a σ H s)(d:(~~~s)<=b)(f:H' b=bD):iP X a H' b:=by
 show#[f,M7 (i9 I.lt d),I.GO d,.inr (va I.sz d),λx c e z=>?_,λp g z=>?_]
 .have(v,q):=I.cell x c e;show absurd (i9 q.lt (by rw[z];show d)) (tv _)
 .show absurd (i9 (gc (I.pin p g).1) (by rw[z];show d)) (tv _)
structure Turn(P:tr)(w:ux)(K:PySem.W.Frag)(tg:lx)(J:It)(fp:List df)(it:df)(tn:Nat->K2->Prop):Prop where
 mem:it∈fp
 obj:∀i h,tn i h->∀b∈fp,∃o,h.get? b=a5 o/\∀v,o.data≠.cell v
 keep:∀i h h',tn i h->(∀b∈fp,∀o,h.get? b=a5 o->h'.get? b=a5 o)->tn i h'
 item:∀(X:Cx),X.prog=P->X.w=w->X.K=K->X.calm=a8->∀(i:Nat) (pins:List (df×Obj)) (s:dt) (σ:St) (H:Hp) (E:cK->dt->Prop),Inv X pins σ H s->(∀b∈fp,iP X pins H b)->tn i s.heap->J.go i H ->
  du (d5 P w) X.A (Ti (.ref it)) (λr s1=>∃u,r=a5 u /\
   du (d5 P w) X.A (Uy tg (.ref it) u) (λ_ s2=>∃x H',Inv X pins σ H' s2/\RelV x u/\J.R8 i H x H'/\tn (i+1) s2.heap/\∀b∈fp,H' b=bD) E s1) E s
 done:∀(X:Cx),X.prog=P->X.w=w->X.K=K->X.calm=a8->∀(i:Nat) (pins:List (df×Obj)) (s:dt) (σ:St) (H:Hp) (E:cK->dt->Prop),Inv X pins σ H s->(∀b∈fp,iP X pins H b)->tn i s.heap->J.stop i H ->
  du (d5 P w) X.A (Ti (.ref it)) (λr s1=>r=bD/\Inv X pins σ H s1) E s
 self:∀(A:Ke) (i:Nat) (s:dt) (Q:cK->dt->Prop) (E:cK->dt->Prop),tn i s.heap->Q (.ref it) s->du (d5 P w) A (YI (.ref it)) Q E s
@[reducible]noncomputable def TI:=St->Hp->(It->Hp->Prop)->Prop
abbrev Wk(X:Cx)(a:List (df×Obj))(σ:St)(e:lx)(R:It->Hp->Prop)(f:cK)(s2:dt):Prop :=
 ∃(it:df) (c:List df) (d:Nat->K2->Prop) (J:It) (H':Hp),f=.ref it/\Inv X a σ H' s2/\Turn X.prog X.w X.K e J c it d/\d 0 s2.heap/\(∀b∈c,iP X a H' b)/\R J H'
abbrev PI(X:Cx)(c b:lx)(d:TI):Prop :=
 ∀(a:List (df×Obj)) (s:dt) (σ:St) (H:Hp) (R:It->Hp->Prop),Inv X a σ H s->d σ H R ->
  ‹X› (tj b X.env) (λv s1=>‹X› (YI v) (Wk X a σ c R) X.xe s1) X.xe s
def uL(ho:s.heap.get? it=a5 o)(b:o.cls=.type n)(c:o.data=.fields vs)
    (d:["enumerate","zip","dict_itemiterator","dict_reverseitemiterator","odict_iterator","itertools.zip_longest","itertools.pairwise"].contains n=bL) (a:Q () s):du M A (Uy e (.ref it) u) Q E s:=by
  unfold Uy;cases e<;>first
    | show c6 a
    | (cases u<;>first
        | show c6 a
        | (show bR (wpAny_load ho ?_)
           rw[b,c];change du M A (if (["enumerate","zip","dict_itemiterator","dict_reverseitemiterator","odict_iterator","itertools.zip_longest","itertools.pairwise"].contains n&&vs[0]?==a5 (Ra _))=a8 then _ else _) Q E s;rw[ŕ (by intro h;rw[d,Bool.false_and]at h;cases h)];show c6 a))
abbrev Tt(K:PySem.W.Frag)(a:df):It :=
 #[λi H=>∃xs x,Kh K H a xs/\xs[i]?=a5 x,λi H x H'=>H'=H/\∀xs,Kh K H a xs->xs[i]?=a5 x,λi H=>∃xs,Kh K H a xs/\xs.length<=i]
abbrev Tu(K:PySem.W.Frag)(a:df):It :=
 #[λi H=>∃xs x,Ki K H a xs/\xs[i]?=a5 x,λi H x H'=>H'=H/\∀xs,Ki K H a xs->xs[i]?=a5 x,λi H=>∃xs,Ki K H a xs/\xs.length<=i]
abbrev QG(lo:Int)(n:Nat):It:=#[λi _=>i<n,λi H x H'=>H'=H/\x=.int (lo+i),λi _=>n<=i]
def v3{K:PySem.W.Frag}(a it:df):Turn P w K tg (Tt K a) [it] it (λi h=>h.IsListIter it a i) where
 mem:=by simp
 obj:=λi h st b g=>by
  have e:b=it:=by simpa using g
  subst e;have(o,e,c,d):=st;show#[o,e,λv z=>by rw[d]at z;cases z]
 keep:=λi h h' st k=>st.at λo e=>k it (by simp) o e
 item:=by
  intro X m n q G i f s σ H E I j st r;subst m n q;have(xs,x,l,t):=r;have(J,rv,p,hz):=I.list l;have(u,L,N):=rv.get t;have(y,A,O,B,C,D):=j it (by simp);show wpAny_pyNext_list_item st p.isList (x:=u) (by simpa using L) λh' st' Q=>?_;have T:Inv X f σ H {s with heap:=h' }:=I.turned (t':=s.toks) (λb o g e=>(Q.2 b g).trans e) y A B C D;have(o,e,c,d):=id st';show#[u,rfl,uL (s:={s with heap:=h' }) e c d (by decide) ⟨x,H,T,N,⟨rfl,λys Y=>by rw[I.qC Y l];show t⟩,st',λb g=>(j b g).1⟩]
 done:=by
  intro X m n q G i f s σ H E I j st r;subst m n q;have(xs,l,t):=r;have(J,rv,p,hz):=I.list l;have(y,A,O,B,C,D):=j it (by simp);have hl:=rv.length;show wpAny_pyNext_list_end (I.ok.hd G) st p.isList (by simp;lia) λh' eb=>#[rfl,I.turned (t':=s.toks) (λb o g e=>eb b o g e) y A B C D]
 self:=λ_ _ _ _ _ st h=>wpAny_pyIter_listiter st h
def r_{K:PySem.W.Frag}(a it:df):Turn P w K tg (Tu K a) [it] it (λi h=>h.IsTupleIter it a i) where
 mem:=by simp
 obj:=λi h st b g=>by
  have e:b=it:=by simpa using g
  subst e;have(o,e,c,d):=st;show#[o,e,λv z=>by rw[d]at z;cases z]
 keep:=λi h h' st k=>st.at λo e=>k it (by simp) o e
 item:=by
  intro X m n q J i f s σ H E I j st r;subst m n q;have(xs,x,l,t):=r;have(y,rv,p,hz):=I.tuple l;have(u,L,N):=rv.get t;have(A,B,O,C,D,G):=j it (by simp);show wpAny_pyNext_tuple_item st (show s.heap.IsTuple a y.toArray from p) (x:=u) (by simpa using L) λh' st' Q=>?_;have T:Inv X f σ H {s with heap:=h' }:=I.turned (t':=s.toks) (λb o g e=>(Q.2 b g).trans e) A B C D G;have(o,e,c,d):=id st';show#[u,rfl,uL (s:={s with heap:=h' }) e c d (by decide) ⟨x,H,T,N,⟨rfl,λys Y=>by rw[I.nX Y l];show t⟩,st',λb g=>(j b g).1⟩]
 done:=by
  intro X m n q J i f s σ H E I j st r;subst m n q;have(xs,l,t):=r;have(y,rv,p,hz):=I.tuple l;have(A,B,O,C,D,G):=j it (by simp);have hl:=rv.length;show wpAny_pyNext_tuple_end (I.ok.hd J) st (show s.heap.IsTuple a y.toArray from p) (by simp;lia) λh' eb=>#[rfl,I.turned (t':=s.toks) (λb o g e=>eb b o g e) A B C D G]
 self:=λ_ _ _ _ _ st h=>wpAny_pyIter_tupleiter st h
def se{K:PySem.W.Frag}(it:df)(lo:Int)(n:Nat):Turn P w K J (QG lo n) [it] it (λi h=>IsRangeIter h it (lo+(i:Nat) * 1) ((n:Int) - (i:Nat)) 1) where
 mem:=by simp
 obj:=λi h st b c=>by
  have e:b=it:=by simpa using c
  subst e;show#[_,st,λv z=>by
   have A:ĩ _=â v:=z;cases A]
 keep:=λi h h' st k=>k it (by simp) _ st
 item:=by
  intro X f g j l i a s σ H E I d st m;subst f g j;have(p,q,B,r,u,x):=d it (by simp);have W:=Walks.range (prog:=X.prog) (w:=X.w) (I.ok.hd l) it lo 1 n;show W.item i s _ _ m st λv h' y C st' D=>?_;have(t,rfl):=C;have G:Inv X a σ H {s with heap:=h',toks:=y}:=I.turned (λb o c e=>D b o (by simpa using c) e) p q r u x;show#[_,rfl,uL (s:={s with heap:=h',toks:=y}) (n:="range_iterator") st' rfl rfl (by decide) ⟨.int (lo+i),H,G,⟨t,?_⟩,⟨rfl,rfl⟩,st',λb c=>(d b c).1⟩];rw[Int.mul_one]
 done:=by
  intro X f g j l i a s σ H E I d st m;subst f g j;have(p,q,B,r,u,x):=d it (by simp);show wpAny_pyNext_range_end (I.ok.hd l) st (by have:n<=i:=m;lia) λh' eb=>#[rfl,I.turned (t':=s.toks) (λb o c e=>eb b o c e) p q r u x]
 self:=λ_ _ _ _ _ st h=>wpAny_pyIter_rangeiter st h
section
abbrev GY(K:PySem.W.Frag)(c:TE):TI:=λσ H R=>c σ H λx b=>∃a,x=.ref a/\(∃xs,Kh K b a xs)/\R (Tt K a) b
abbrev IS(K:PySem.W.Frag)(c:TE):TI:=λσ H R=>c σ H λx b=>∃a,x=.ref a/\(∃xs,Ki K b a xs)/\R (Tu K a) b
def A9(hl:PE X l f):PI X n l (GY X.K f):=by
 intro c s σ H R I h;show JJ (hl c s σ H _ I h) λv s1 g=>?_;have(x,i,d,r1,j):=g;have(a,e,(xs,k),q):=j;subst e;cases r1;have(r,rv,p,hz):=d.list k;show WO p.isList ?_;show#[(~~~s1),[(~~~s1)],_,_,i,rfl,d.kept (t':=s1.toks) λb o e=>cb _ e,v3 a _,#[_,d7 _ rfl,rfl,rfl],λb m=>?_,q];have e:b=(~~~s1):=by simpa using m
 subst e;show d.xX (ez _) (d.JE.fresh (ez _))
def Ed(hl:PE X l f):PI X r l (IS X.K f):=by
 intro c s σ H R I h;show JJ (hl c s σ H _ I h) λv s1 g=>?_;have(x,i,d,r1,j):=g;have(a,e,(xs,k),q):=j;subst e;cases r1;have(m,rv,p,hz):=d.tuple k;show Qv (show s1.heap.IsTuple a m.toArray from p) ?_;show#[(~~~s1),[(~~~s1)],_,_,i,rfl,d.kept (t':=s1.toks) λb o e=>cb _ e,r_ a _,#[_,d7 _ rfl,rfl,rfl],λb n=>?_,q];have e:b=(~~~s1):=by simpa using n
 subst e;show d.xX (ez _) (d.JE.fresh (ez _))
def qD{lo hi:Int}(I:Inv X a σ H s)(f:-(2 ^ 62)<=lo)(g:lo<2 ^ 62)(h:-(2 ^ 62)<=hi)(i:hi<2 ^ 62)
  (q:R (QG lo (hi - lo).toNat) H):‹X› (YI (.ref (~~~s))) (Wk X a σ m R) E {s with heap:=s.heap.push {cls:=.type "range",data:=.fields #v[.int lo t,.int hi u,.int 1 v]},toks:=d}:=by
 show wpAny_pyIter_range (IsRange.new ..) (small_one f g h i) ?_;have c:Inv X a σ H {s with heap:=s.heap.push {cls:=.type "range",data:=.fields #v[.int lo t,.int hi u,.int 1 v]},toks:=d}:=I.kept λb o e=>cb _ e;show#[(s.heap.push {cls:=.type "range",data:=.fields #v[.int lo t,.int hi u,.int 1 v]}).objs.size,[(s.heap.push {cls:=.type "range",data:=.fields #v[.int lo t,.int hi u,.int 1 v]}).objs.size],_,_,H,rfl,
  c.kept (t':=d) λb o e=>cb _ e,se _ lo (hi - lo).toNat,?_,λb j=>?_,q]
 .have k:lo+((0:Nat):Int) * 1=lo:=by simp
  have l:(((hi - lo).toNat:Nat):Int) - ((0:Nat):Int)=Ĭ lo hi 1:=by rw[rangeSize_one];split<;>lia
  change IsRangeIter _ _ (lo+((0:Nat):Int) * 1) ((((hi - lo).toNat:Nat):Int) - ((0:Nat):Int)) 1;rw[k,l];show d7 _ rfl
 .have e:b=(s.heap.push {cls:=.type "range",data:=.fields #v[.int lo t,.int hi u,.int 1 v]}).objs.size:=by simpa using j
  subst e;show c.xX (ez _) (c.JE.fresh (ez _))
abbrev GZ(a:TA):TI:=λσ H R=>a σ H λvs b=>∃j:Int,vs=[.int j]/\-(2 ^ 62)<=j/\j<2 ^ 62/\R (QG 0 j.toNat) b
abbrev G0(a:TA):TI:=λσ H R=>a σ H λvs b=>∃i j:Int,vs=[.int i,.int j]/\(-(2 ^ 62)<=i/\i<2 ^ 62/\-(2 ^ 62)<=j/\j<2 ^ 62)/\R (QG i (j - i).toNat) b
def v5(d:Gl X "range")(f:X.mg "range"=bD)(g:PA X [a] i)(hs:gj [a] X.env=[(bL,tj a X.env)]:=by rfl):PI X n (.Call (.Name "range" p) [a] [] pos) (GZ i):=by
 intro b s σ H R I h;show Call_ (dN I d f boot_range (K1 (JJ (g pos b s σ H _ I h) λus s1 ⟨vs,o,k,r1,c⟩=>?_) hs rfl));have(j,e,c,l,q):=c;subst e;cases r1 with
 |cons r m =>
  cases m;have(t,rfl):=r;show call_range_1 (qD k ⋯ ⋯ c l (by simpa using q))
def v7(k:Gl X "range")(l:X.mg "range"=bD)(m:PA X [a,b] n)(hs:gj [a,b] X.env=[(bL,tj a X.env),(bL,tj b X.env)]:=by rfl)(g:gj [b] X.env=[(bL,tj b X.env)]:=by rfl):
  PI X y (.Call (.Name "range" p) [a,b] [] pos) (G0 n):=by
 intro c s σ H R I h;show Call_ (dN I k l boot_range (K1 (JJ (m pos c s σ H _ I h) λus s1 ⟨vs,z,o,r1,d⟩=>?_) (by rw[hs,g]) (by rw[g];rfl)));have(i,j,e,(d,u,v,w),q):=d;subst e;cases r1 with
 |cons r f =>
  cases f with
  |cons x f =>
   cases f;have(t,rfl):=r;have(t',rfl):=x;show call_range_2 (qD o d u v w q)
abbrev IT(c:TI)(g:TG)(tb:TS):TS:=λD σ H=>c σ H λJ d=>∃W:Nat->Nat->St->Hp->Prop,(∃m,W 0 m σ d)/\∀i m σ H,W i m σ H ->
 (J.stop i H/\D.nx σ H)\/(J.go i H/\∃N:St->Hp->Prop,(∀a H',N a H'->∃b,b<m/\W (i+1) b a H')/\∀x H',J.R8 i H x H'->g x σ H' λe f=>tb {D with nx:=N,ct:=N,bk:=D.nx} e f)
abbrev lI(a:List df)(h:K2):List (df×Obj):=a.filterMap λb=>(h.get? b).map λo=>(b,o)
def fF(a:b∈c)(e:h.get? b=a5 o):(b,o)∈lI c h:=PR.mpr #[b,a,by rw[e];rfl]
def v8(a:p∈lI c h):p.1∈c/\h.get? p.1=a5 p.2:=by
 have(b,d,e):=PR.mp a;cases q:h.get? b with
 |none=>rw[q]at e;cases e
 |some o =>
  rw[q]at e;have f:(b,o)=p:=ti e;subst f;show#[d,q]
def Inv.pinned(I:Inv X a σ H s)(h:∀b∈c,iP X a H b)(ho:∀b∈c,∃o,s.heap.get? b=a5 o/\∀v,o.data≠.cell v):Inv X (a++lI c s.heap) σ H s :=
 I.hJ λp i=>(f6.mp i).elim (λz=>I.pin p (r6 _ z)) λz=>by
  have(f,e):=v8 z;have(j,k,l,_):=h p.1 f;have(o,g,d):=ho p.1 f;rw[e]at g;cases g;show#[e,j,k,l,d]
def Inv.lJ(I:Inv X (a++pl) σ H s):Inv X a σ H s:=I.hJ λp b=>I.pin p (r6 _ (Po _ b))
def Ee(t:XO (d5 X.prog X.w) X.A X.env X.xe)(hc:X.calm=a8)(hi:PI X tg p wi)(hg:PG X tg g)(c:KZ X body tb)
  (hs:∀x,Nz p X.env x=pure x:=by intro _;rfl):PS X (.For tg p body [] pos) (IT wi g tb):=by
 intro a s σ H D I h;show wpAny_For (JJ (hi a s σ H _ I h) λv s1 h1=>JJ h1 λR9 s2 h2=>?_) hs;have(it,y,tn,J,H2,e,I2,T,st2,f2,W,(m0,w0),z):=h2;subst e;have O:∀{H':Hp},(∀b∈y,H' b=bD)->∀b∈y,iP X a H' b:=λhn b c=>#[hn b c,(f2 b c).2]
 show codeAny_forLoop_any (λn s'=>∃i B H',Inv X a B H' s'/\tn i s'.heap/\(∀b∈y,H' b=bD)/\W i n B H') ?_ m0 ⟨0,σ,H2,I2,st2,λb c=>(f2 b c).1,w0⟩;rintro n s3 ⟨i,C,L,I3,Kc,QH,w3⟩;rcases z i n C L w3 with⟨G,qn⟩|⟨go,N,hN,ê⟩
 .show O5 t (JJ (T.done X rfl rfl rfl hc i a s3 C L X.xe I3 (O QH) Kc G) λr s4 Tx=>?_);have(Q,I4):=Tx;subst Q;show Nd #[C,L,I4,qn]
 .show O5 t (JJ (T.item X rfl rfl rfl hc i a s3 C L X.xe I3 (O QH) Kc go) λr s4 Tz=>?_);have(u,Q,h4):=Tz;subst Q;show O5 t (JJ h4 λ_ s5 TC=>?_);have(x,H5,I5,r5,y5,Y,TF):=TC;have TH:=I5.pinned (O TF) (T.obj _ _ Y);show O5 t (JJ (hg _ s5 C H5 x u _ TH r5 (ê x H5 y5)) λ_ s6 TJ=>?_);have(σ6,H6,I6,q6):=TJ;show O5 t (JJ (c _ s6 σ6 H6 _ I6 q6) λf s7 q=>?_);have ň:∀{j:St} {k:Hp},Inv X (a++lI y s5.heap) j k s7->N j k->∃m,m<n/\∃i B H',Inv X a B H' s7/\tn i s7.heap/\(∀b∈y,H' b=bD)/\W i m B H':=λ{j k} l n7=>by
   have(m',hm,w7):=hN j k n7;show#[m',hm,i+1,j,k,l.lJ,T.keep _ _ _ Y λb c o e=>(l.pin (b,o) (r6 _ (r6 _ (fF c e)))).1,λb c=>?_,w7];have(o,e,d):=T.obj _ _ Y b c;show(l.pin (b,o) (r6 _ (r6 _ (fF c e)))).2.1
  cases f with
  |brk=>have(j,k,l,q):=q;show#[j,k,l.lJ,q]
  |ret v=>have(x7,j,k,l,r7,q):=q;show#[x7,j,k,l.lJ,r7,q]
  |_=>have(j,k,l,n7):=q;show ň l n7
end
@[reducible]noncomputable def R2:=V->V->Hp->VK->Prop
abbrev LC(X:Cx)(f:cK->cK->Sem cK)(r:R2):Prop :=
 ∀(a:List (df×Obj)) (s:dt) (σ:St) (H:Hp) (x y:V) (v u:cK) (Q:VK),Inv X a σ H s->RelV x v->RelV y u->r x y H Q ->
  ‹X› (f v u) (EP X a σ Q) X.xe s
abbrev TK(X:Cx)(f:cK->Sem cK)(r:V->Hp->VK->Prop):Prop :=
 ∀(a:List (df×Obj)) (s:dt) (σ:St) (H:Hp) (x:V) (v:cK) (Q:VK),Inv X a σ H s->RelV x v->r x H Q ->
  ‹X› (f v) (EP X a σ Q) X.xe s
abbrev iG(X:Cx)(f:cK)(r:List V->Hp->VK->Prop):Prop :=
 ∀(a:List (df×Obj)) (s:dt) (σ:St) (H:Hp) (xs:List V) (us:List cK) (Q:VK),Inv X a σ H s->Vals xs us->r xs H Q ->
  ‹X› (PB f us) (EP X a σ Q) X.xe s
abbrev IU(X:Cx)(r:V->Hp->(Bool->Hp->Prop)->Prop):Prop :=
 ∀(a:List (df×Obj)) (s:dt) (σ:St) (H:Hp) (x:V) (v:cK) (Q:Bool->Hp->Prop),Inv X a σ H s->RelV x v->r x H Q ->
  ‹X› (ŀ v) (TP X a σ Q) X.xe s
abbrev X7(r:V->Hp->VK->Prop)(a:TE):TE:=λσ H Q=>a σ H λx b=>r x b Q
abbrev rI(C:Int->Int->Prop)(g:Int->Int->V):R2:=λx y H Q=>∃i j,x=.int i/\y=.int j/\C i j/\Q (g i j) H
abbrev OZ(g:Int->Int->V):R2:=λx y H Q=>∃i j,x=.int i/\y=.int j/\Q (g i j) H
abbrev rU(g:Int->V):V->Hp->VK->Prop:=λx H Q=>∃i,x=.int i/\Q (g i) H
section
def G1(ho:TK X (unaryOp op) r)(c:PE X a d):PE X (.UnaryOp op a pos) (X7 r d):=by
 intro b s σ H Q I h;show UnaryOp_ (JJ (c b s σ H _ I h) λv s1 ⟨x,e,f,r1,g⟩=>ho b s1 σ e x v Q f r1 g)
def R_{g:Int->Int->Int}
  (Ć:∀(i j:Int) (t u:Tok) (s:dt) (Q:cK->dt->Prop) (E:cK->dt->Prop),C i j->Q (.int (g i j) s.toks) {s with toks:=s.toks+1}->‹X› (f (.int i t) (.int j u)) Q E s) :
  LC X f (rI C λi j=>.int (g i j)):=by
 intro a s σ H x y v u Q I b c h;have(i,j,rfl,rfl,d,q):=h;have(t,rfl):=b;have(t',rfl):=c;show Ć i j t t' s _ _ d #[.int (g i j),H,I.tok _,#[_,rfl],q]
def G2{g:Int->Int->Int}
  (Ć:∀(i j:Int) (t u:Tok) (s:dt) (Q:cK->dt->Prop) (E:cK->dt->Prop),Q (.int (g i j) s.toks) {s with toks:=s.toks+1}->‹X› (f (.int i t) (.int j u)) Q E s) :
  LC X f (OZ λi j=>.int (g i j)):=by
 intro a s σ H x y v u Q I b c h;have(i,j,rfl,rfl,q):=h;have(t,rfl):=b;have(t',rfl):=c;show Ć i j t t' s _ _ #[.int (g i j),H,I.tok _,#[_,rfl],q]
def Ef{g:Int->Int->Bool}
  (Ć:∀(i j:Int) (t u:Tok) (s:dt) (Q:cK->dt->Prop) (E:cK->dt->Prop),Q (.bool (g i j)) s->‹X› (f (.int i t) (.int j u)) Q E s) :
  LC X f (OZ λi j=>.bl (g i j)):=by
 intro a s σ H x y v u Q I b c h;have(i,j,rfl,rfl,q):=h;have(t,rfl):=b;have(t',rfl):=c;show Ć i j t t' s _ _ #[.bl (g i j),H,I,rfl,q]
abbrev IV(i j:Int):Prop:=0<j/\j<1073741824
abbrev IW(i j:Int):Prop:=0<=j/\j<=1000000/\i.natAbs<2 ^ 64
abbrev Eg(i j:Int):Prop:=(-(2 ^ 64)<i/\i<2 ^ 64)\/(-(2 ^ 64)<j/\j<2 ^ 64)
def Eg.ok(h:Eg i j):IntMulOk i j:=by
 rcases h with⟨a,b⟩|⟨a,b⟩
 .show .of_left (intBits_le_64 a b)
 .show .of_right (intBits_le_64 a b)
def dr:LC X (P' .Add) (OZ λi j=>.int (i+j)):=G2 λ_ _ _ _ _ _ _ q=>add_int q
def sg:LC X (P' .Sub) (OZ λi j=>.int (i - j)):=G2 λ_ _ _ _ _ _ _ q=>sub_int q
def oU:LC X (P' .Mult) (rI Eg λi j=>.int (i * j)):=R_ λ_ _ _ _ _ _ _ a q=>mul_int q a.ok
def A_:LC X (P' .FloorDiv) (rI IV λi j=>.int (i / j)):=R_ λi j _ _ _ _ _ a q=>by
 have b:(0:Int)<j:=a.1;have c:j<1073741824:=a.2;show floordiv_int ⋯ (by rw[Int.fdiv_eq_ediv_of_nonneg i ⋯];show q) (.inl (PyProof.noPylong_small ⋯))
def bE:LC X (P' .Mod) (rI (λ_ j=>0<j) λi j=>.int (i % j)):=R_ λi j _ _ _ _ _ a q=>by
 have b:(0:Int)<j:=a;show mod_int' ⋯ (by rw[Int.fmod_eq_emod_of_nonneg i ⋯];show q)
def oV:LC X (P' .Pow) (rI IW λi j=>.int (i ^ j.toNat)):=R_ λ_ _ _ _ _ _ _ a q=>pow_int_small a.1 a.2.1 a.2.2 q
def X8{g:Int->Int}
  (Ć:∀(i:Int) (t:Tok) (s:dt) (Q:cK->dt->Prop) (E:cK->dt->Prop),Q (.int (g i) s.toks) {s with toks:=s.toks+1}->‹X› (f (.int i t)) Q E s) :
  TK X f (rU λi=>.int (g i)):=by
 intro a s σ H x v Q I b h;have(i,rfl,q):=h;have(t,rfl):=b;show Ć i t s _ _ #[.int (g i),H,I.tok _,#[_,rfl],q]
def Eh:TK X (unaryOp .USub) (rU λi=>.int (-i)):=X8 λ_ _ _ _ _ q=>neg_int q
end
section
def Ei(I:Inv X a σ H s)(q:Q (.bl k) H)(e:k=k'):EP X a σ Q (.bool k') s:=by
 subst e;show#[.bl k,H,I,rfl,q]
def G3:LC X (Pc .Lt) (OZ λi j=>.bl (b7 (i<j))):=Ef λ_ _ _ _ _ _ _ q=>lt_int q
def G4:LC X (Pc .Gt) (OZ λi j=>.bl (b7 (j<i))):=Ef λ_ _ _ _ _ _ _ q=>gt_int q
def G5:LC X (Pc .GtE) (OZ λi j=>.bl (b7 (j<=i))):=Ef λ_ _ _ _ _ _ _ q=>ge_int q
def v9:LC X (Pc .In) (λx y H Q=>∃i j,x=.str i/\y=.str j/\Q (.bl (!(td j i 0 j.length 1).isEmpty)) H):=by
 intro a s σ H x y v u Q I b c h;have(i,j,rfl,rfl,q):=h;have(t,rfl):=b;have(t',rfl):=c;show in_str (Ei I q rfl)
abbrev G6(K:PySem.W.Frag)(x:V)(H:Hp)(k:Bool):Prop :=
 match x with
 |.JN=>k=bL
 |.bl b=>k=b
 |.int i=>k=(i != 0)
 |.str y=>y.length<=b6/\k=((y.length:Int) != 0)
 |.Qy y=>y.size<=b6/\k=((y.size:Int) != 0)
 |.ref p=>(∃xs,Kh K H p xs/\k=!xs.isEmpty)\/(∃xs,Ki K H p xs/\k=!xs.isEmpty)\/∃kvs,H p=a5 (.dK kvs)/\k=!kvs.isEmpty
 |_=>False
def si(r:KV kvs vs):(!vs.isEmpty)=!kvs.isEmpty:=by
 cases r<;>rfl
def lK(r:Vals xs a):(!a.toArray.isEmpty)=!xs.isEmpty:=by
 cases r<;>simp
def gz:(b6:Nat)<2 ^ 63:=by rw[ë];decide
def Ej:IU X (λx H Q=>∃k,G6 X.K x H k/\Q k H):=by
 intro g s σ H x v Q I d h;have(k,e,q):=h;have hl:=gz;have hs:b6=16777216:=ë;cases x with
 |JN =>
  cases d;have a:k=bL:=e;subst a;show truthy_none #[H,I,q]
 |bl b =>
  cases d;have a:k=b:=e;subst a;show Lp #[H,I,q]
 |int i =>
  have(t,rfl):=d;have a:k=(i != 0):=e;subst a;show PySem.P.truthy_int #[H,I,q]
 |str y =>
  have(t,rfl):=d;obtain⟨j,a⟩:y.length<=b6/\k=((y.length:Int) != 0):=e;subst a;show PySem.P.truthy_str ⋯ #[H,I.tok _,q]
 |Qy y =>
  have(t,rfl):=d;obtain⟨j,a⟩:y.size<=b6/\k=((y.size:Int) != 0):=e;subst a;show PySem.W.truthy_bytes ⋯ #[H,I.tok _,q]
 |ref p =>
  cases d;have a:(∃xs,Kh X.K H p xs/\k=!xs.isEmpty)\/(∃xs,Ki X.K H p xs/\k=!xs.isEmpty)\/∃kvs,H p=a5 (.dK kvs)/\k=!kvs.isEmpty:=e;rcases a with⟨xs,f,a⟩|⟨xs,f,a⟩|⟨kvs,f,a⟩
  .subst a;have(l,r,pl,hz):=I.list f;have c:=r.length;show wpAny_truthy_list pl.isList (by simp only[d8];lia) #[H,I.tok _,by rw[lK r];show q]
  .subst a;have(l,r,pl,hz):=I.tuple f;have c:=r.length;show truthy_tuple pl (by simp only[d8];lia) #[H,I.tok _,by rw[lK r];show q]
  .subst a;obtain⟨hz,n,vs,r,m⟩:kvs.length<=b6/\(p==OX)=bL/\∃vs,KV kvs vs/\s.heap.DictOf (bc X.prog X.w) p vs:=I.JE p _ f;have c:kvs.length=vs.length:=Paired.length r;show wpAny_truthy_dict n m ⋯ #[H,I.tok _,by rw[si r];show q]
 |_=>show(show False from e).elim
def xY(d:PE X a e)(f:∀b,isTrue a X.env b=(do let v <-b;R6 a.pos;K9 [v] (ŀ v))):
  PT X a (λσ H Q=>e σ H λx H'=>∃k,G6 X.K x H' k/\Q k H'):=by
 intro c s σ H Q I h;show isTrue_plain (JJ (d c s σ H _ I h) λv s1 ⟨x,g,i,r1,j⟩=>Ej c s1 σ g x v Q i r1 j) (f _)
def sj:LC X (P' .Add) (λx y H Q=>∃i j,x=.str i/\y=.str j/\i.length+j.length<=b6/\Q (.str (i++j)) H):=by
 intro a s σ H x y v u Q I b c h;have(i,j,rfl,rfl,hz,q):=h;have(t,rfl):=b;have(t',rfl):=c;show add_str (λt' d=>#[.str (i++j),H,I.tok _,#[_,rfl],q]) hz
def vals1(r:Vals [x] us):∃u,us=[u]/\RelV x u:=by
 cases r with
 |cons r1 r2=>cases r2;show#[_,rfl,r1]
def vals2(r:Vals [x,y] us):∃u a,us=[u,a]/\RelV x u/\RelV y a:=by
 cases r with
 |cons r1 r2 =>
  cases r2 with
  |cons b c=>cases c;show#[_,_,rfl,r1,b]
def oW:iG X (.type "str") (λxs H Q=>∃i,xs=[.int i]/\i.natAbs.log2<1920/\Q (.str (Ľ i)) H):=by
 intro a s σ H xs us Q I r h;have(i,rfl,hz,q):=h;have(u,rfl,t,rfl):=vals1 r;show PySem.P.str_of_int hz #[.str _,H,I.tok _,#[_,rfl],q]
end
structure so(h:K2)(x dx C:df)(mA:Str->Option cK):Prop where
 obj:h.get? x=a5 (PySem.W.instObj C dx)
 ns:h.Ns1 dx mA
 ne:dx≠x
def v_{h:K2}(n:h.Ns1 c d):∃b,h.get? c=a5 b/\∀name,PySem.W.lookIn name b=a5 (d name):=by
 have(o,es,ep,ho,f,hk,_,g):=n;show#[o,ho,λname=>?_];have e:=g name;unfold nsFind findBy at e;rw[<-Array.find?_toList]at e;unfold PySem.W.lookIn;rw[f]
 dsimp only
 split
 .rename_i y q;rw[q]at e;show Ś a5 e
 .rename_i q;rw[q]at e;have a:es.toList.any (·.refKey)=bL:=by
   rw[Þ];intro y i;have(z,t,j):=hk y (Array.mem_toList_iff.mp i);simp[DictEntry.refKey,j]
  have a':¬es.toList.any (·.refKey)=a8:=by rw[a];show i7
  rw[ŕ a'];show Ś a5 e
def so.look(I:so h x b C c):∃a,PySem.W.InstAt h x (PySem.W.instObj C b) C (a5 a)/\∀name,PySem.W.lookIn name a=a5 (c name) :=
 let ⟨a,ho,hl⟩:=v_ I.ns
 ⟨a,⟨I.obj,rfl,rfl,ho⟩,hl⟩
section
variable{prog:tr}{w:ux}{A:Ke}{E:cK->dt->Prop}{s:dt}{K:PySem.W.Frag}{x dx C f:df}{mA:Str->Option cK}{name:Str}{v:cK}
def get_map(X:K.In s.heap)(I:so s.heap x dx C mA)(b:PySem.W.plainGet K C name=a8)(c:PySem.W.hasDictIn K C=a8)
  (d:PySem.W.findIn K (.ref C) name=a5 bD) (e:mA name=a5 v) (g:PySem.W.handedIn v=a8) (h:Q v {s with toks:=s.toks+1}) :
  du (d5 prog w) A (getAttr (.ref x) name a) Q E s:=by
 have(i,J,hl):=I.look;show PySem.W.get_value X J (PySem.W.plainGet_of b).1 (PySem.W.findObj_own c d rfl (by rw[hl,e])) g h
def xZ(X:K.In s.heap)(I:so s.heap x dx C mA)(a:PySem.W.plainGet K C name=a8)
  (b:PySem.W.findIn K (.ref C) name=a5 (a5 (.ref f))) (c:PySem.W.isFn K (.ref f)=a8) (d:mA name=bD) (h:Q (.ref f,[.ref x]) s) :
  du (d5 prog w) A (TV (.ref x) name pl) Q E s:=by
 have(e,J,hl):=I.look;show PySem.W.method_fn X J (PySem.W.plainGet_of a).1 (PySem.W.plainGet_of a).2 b (beq_iff_eq.mp c) (by change(PySem.W.lookIn name e).map (·.isSome)=a5 bL;rw[hl,d];rfl) h
def Ba(X:K.In s.heap)(I:so s.heap x dx C mA)
  (hs:PySem.W.findIn K (.ref C) "__setattr__"=a5 (a5 (.builtin "object.__setattr__"))) (e:PySem.W.plainOver K C=a8) (g:PySem.W.takerIn K C name=a5 bD) (i:PySem.W.hasDictIn K C=a8)
  (j:PySem.Within mA ns) (hsz:ns.length<=b6)
  (h:∀h',so h' x dx C (λy=>if y=name then a5 v else mA y)->LM dx s.heap h'->Q () {s with heap:=h',toks:=s.toks+2}) :
  du (d5 prog w) A (setAttr (.ref x) name v) Q E s:=by
 have(u,J,hl):=I.look;show PySem.W.set_plain X J hs (PySem.W.osa_open (s:={s with toks:=s.toks+1}) (r:=bD) X J e g λb=>?_);have(z,k,l):=PySem.W.any_some i;have m:s.heap.get? x=a5 ⟨.ref C,a5 dx,.plain,#v[]⟩:=I.obj;show bR (c6 (bR (bR (Ŀ m (bR (PySem.W.Looks.here (s:={s with toks:=s.toks+1}) (PySem.W.looks_clsIn X k) ?_))))));rw[l];show c6 (a:=a5 dx) (bR (c6 (bR ?_)));show wpAny_nsSet1 (s:={s with toks:=s.toks+1}) I.ns λh' c d=>?_;have(B,n,o,p,q,t):=c.count (PySem.Within.cons name v j);show bR (wpAny_lookBehind p (by rw[q];show pastItsLine_dict (va t (by rw[i4];lia))) ?_);show c6 (h _ #[(d.2 _ (nT I.ne)).trans I.obj,c,I.ne] d)
def x6(X:K.In s.heap)(b:PySem.W.makesIn K C=a8)
  (hi:PySem.W.findIn K (.ref C) "__init__"=a5 (a5 (.ref f))) (c:PySem.W.typeIn K (.ref f)=a5 (.type "function"))
  (h:OY (d5 prog w) (A.under (.builtin "type.__call__" ⟨.ref C::vs,a⟩)) (.call (.ref f) #[.ref ((~~~s)+1)::vs,a]) (PySem.W.InitBack ((~~~s)+1) R)
   {s with heap:=(s.heap.push PySem.W.emptyDict).push (PySem.W.instObj C (~~~s))}) :
  OY (d5 prog w) A (.call (.ref C) #[vs,a]) R s:=by
 have(e,g,d,t,os):=s;show PySem.W.make_core (PySem.W.makes_of X b) (PySem.W.looks_findIn X hi) (λself=>PySem.W.bind_fn X self c) (.inl rfl) h
end
abbrev eW(f:Str)(v:V):List (Str×V)->List (Str×V)
 |[]=>[(f,v)]
 |(g,x)::r=>if g=f then(g,v)::r else(g,x)::eW f v r
theorem kB(f g:Str)(v:V):∀b:List (Str×V),(eW f v b).lookup g=if g=f then a5 v else b.lookup g
 |[]=>by
  change L5 g [(f,v)]=_;by_cases h:g=f
  .have a:(g==f)=a8:=beq_iff_eq.mpr h;simp only[L5,a,Ŕ h]
  .have a:(g==f)=bL:=Ř.mpr h;simp only[L5,a,ŕ h]
 |(k,x)::r=>by
  have c:=kB f g v r;rw[show eW f v ((k,x)::r)=(if k=f then(k,v)::r else(k,x)::eW f v r) from rfl];by_cases hk:k=f
  .rw[Ŕ hk];by_cases h:g=k
   .have a:(g==k)=a8:=beq_iff_eq.mpr h;simp only[L5,a,Ŕ (h.trans hk)]
   .have a:(g==k)=bL:=Ř.mpr h;simp only[L5,a,ŕ (λe:g=f=>h (e.trans hk.symm))]
  .rw[ŕ hk];by_cases h:g=k
   .have a:(g==k)=a8:=beq_iff_eq.mpr h;simp only[L5,a,ŕ (λe:g=f=>hk (h.symm.trans e))]
   .have a:(g==k)=bL:=Ř.mpr h;simp only[L5,a];show c
theorem jQ(f:Str)(v:V):∀a:List (Str×V),f∈(eW f v a).map (·.1)/\∀g,g∈a.map (·.1)->g∈(eW f v a).map (·.1)
 |[]=>#[by simp[eW],λg h=>by simp at h]
 |(k,x)::r=>by
  have(b,c):=jQ f v r;rw[show eW f v ((k,x)::r)=(if k=f then(k,v)::r else(k,x)::eW f v r) from rfl];by_cases hk:k=f
  .rw[Ŕ hk];subst hk;show#[by simp,λg h=>by simpa using h]
  .rw[ŕ hk];show#[?_,λg h=>?_]
   .rw[d6];show fx _ b
   .rw[d6]at h ⊢;rcases d4.mp h with e|e
    .show d4.mpr (.inl e)
    .show fx _ (c g e)
theorem kC(f:Str)(v:V):∀a:List (Str×V),(eW f v a).length<=a.length+1
 |[]=>by simp[eW]
 |(k,x)::r=>by
  have b:=kC f v r;rw[show eW f v ((k,x)::r)=(if k=f then(k,v)::r else(k,x)::eW f v r) from rfl];by_cases hk:k=f
  .rw[Ŕ hk,i4,i4];lia
  .rw[ŕ hk,i4,i4];lia
def gp.some_of(r:gp (a5 v) o):∃u,o=a5 u/\RelV v u:=by
 cases o with
 |none=>show(show False from r).elim
 |some u=>show#[u,rfl,r]
def gp.none_of(r:gp bD o):o=bD:=by
 cases o with
 |none=>rfl
 |some u=>show(show False from r).elim
def wa(r:RelV v u):PySem.W.handedIn u=a8:=by
 cases v with
 |JN=>cases(show u=pb from r);rfl
 |bl b=>cases(show u=QK b from r);rfl
 |int i=>have(t,e):=(show ∃t,u=XW i t from r);cases e;rfl
 |str x=>have(t,e):=(show ∃t,u=E' x t from r);cases e;rfl
 |Qy b=>have(t,e):=(show ∃t,u=ĝ b t from r);cases e;rfl
 |Qz b=>have(t,e):=(show ∃t,u=Ĝ b t from r);cases e;rfl
 |ref a=>cases(show u=il a from r);rfl
 |ty n=>cases(show u=J7 n from r);rfl
section
def oX(i:KH P w H h)(e:H a=a5 (.ins C g c)):∃b,so h a g C b/\(∀f,gp (c.lookup f) (b f))/\PySem.Within b (c.map (·.1))/\c.length<=1000/\H g=a5 (.own a):=by
 have(d,z,ne,j,b,n,r,q):=(show bO P w H h a (.ins C g c) from i a _ e)
 show#[b,#[j,n,ne],r,q,z,d]
end
structure N4(K:PySem.W.Frag)(C:df):Prop where
 pg:PySem.W.plainGet K C sx=a8
 hd:PySem.W.hasDictIn K C=a8
 po:PySem.W.plainOver K C=a8
 sa:PySem.W.findIn K (.ref C) "__setattr__"=a5 (a5 (.builtin "object.__setattr__"))
def N4.get{K:PySem.W.Frag}(c:N4 K C)(f:Str):PySem.W.plainGet K C f=a8:=c.pg
abbrev gA(K:PySem.W.Frag)(C:df)(f:Str):Prop:=PySem.W.findIn K (.ref C) f=a5 bD
def gA.G7{K:PySem.W.Frag}(n:gA K C f):PySem.W.takerIn K C f=a5 bD:=by
 unfold PySem.W.takerIn;rw[show PySem.W.findIn K (.ref C) f=a5 bD from n];rfl
structure Meth(K:PySem.W.Frag)(C:df)(m:Str)(f:df):Prop where
 at_:PySem.W.findIn K (.ref C) m=a5 (a5 (.ref f))
 fn:PySem.W.isFn K (.ref f)=a8
 kp:PySem.W.keepIn K (.ref f)=a8
section
def sr(I:Inv X d σ H s)(e:H a=a5 (.ins C m i))(c:N4 X.K C)(n:gA X.K C f)(l:i.lookup f=a5 v)
  (h:∀u s',Inv X d σ H s'->RelV v u->Q u s'):du (d5 X.prog X.w) A (getAttr (.ref a) f b) Q E s:=by
 have(j,O,r,_,_,_):=oX I.JE e;have(u,k,g):=gp.some_of (v:=v) (o:=j f) (by rw[<-l];show r f);show get_map I.Li O (c.get f) c.hd n k (wa g) (h u _ (I.tok _) g)
def fG(I:Inv X b σ H s)(e:H a=a5 (.ins C j d))(c:N4 X.K C)(k:Meth X.K C m g)(l:d.lookup m=bD)
  (h:Q (.ref g,[.ref a]) s):du (d5 X.prog X.w) A (TV (.ref a) m pl) Q E s:=by
 have(f,O,r,_,_,_):=oX I.JE e;have i:f m=bD:=gp.none_of (by rw[<-l];show r m);show xZ I.Li O (c.get m) k.at_ k.fn i h
def sv(I:Inv X i σ H s)(e:H a=a5 (.ins C j d))(c:N4 X.K C)(n:gA X.K C f)(hl:d.length<1000)(p:RelV y u)
  (h:∀s',Inv X i σ (upd H a (.ins C j (eW f y d))) s'->Q () s'):du (d5 X.prog X.w) A (setAttr (.ref a) f u) Q E s:=by
 have(l,O,r,m,_,ho):=oX I.JE e;have hz:(d.map (·.1)).length<=b6:=by rw[b8,ë];lia
 show Ba I.Li O c.sa c.po n.G7 c.hd m hz λh' k t=>h _ ?_;have v:∃o,h'.get? j=a5 o:=let ⟨o,_,_,B,_⟩:=k.ns;⟨o,B⟩;show I.write (x:=a) (e:=j) (by rw[e];show Tb) (.inr ho) (λb q D z=>(t.2 b D).trans z) v ?_;show#[by rw[aj O.ne];show ho,?_,O.ne,k.obj,_,k.ns,λg=>?_,λg G=>?_]
 .have:=kC f y d;lia
 .change gp ((eW f y d).lookup g) (if g=f then a5 u else l g);rw[kB];by_cases q:g=f
  .rw[Ŕ q,Ŕ q];show p
  .rw[ŕ q,ŕ q];show r g
 .by_cases q:g=f
  .rw[q];show(jQ f y d).1
  .show(jQ f y d).2 g (m g λz=>G ?_);change(if g=f then a5 u else l g)=bD;rw[ŕ q];show z
def Inv.made(I:Inv X c σ H s):Inv X c σ (upd (upd H (~~~s) (.own ((~~~s)+1))) ((~~~s)+1) (.ins C (~~~s) []))
  {s with heap:=(s.heap.push PySem.W.emptyDict).push (PySem.W.instObj C (~~~s))}:=by
 have d:(s.heap.push PySem.W.emptyDict).get? (~~~s)=a5 PySem.W.emptyDict:=d7 s.heap rfl;have f:((s.heap.push PySem.W.emptyDict).push (PySem.W.instObj C (~~~s))).get? ((~~~s)+1)=a5 (PySem.W.instObj C (~~~s)):=by
  have:=d7 (s.heap.push PySem.W.emptyDict) (o:=PySem.W.instObj C (~~~s)) rfl
  rwa [NH]at this
 have g:(s.heap.push PySem.W.emptyDict).Ns (~~~s) (λ_=>bD):=#[PySem.W.emptyDict,#v[],_,d,rfl,(λe h=>absurd h (by simp)),λ_=>rfl]
 have i:=I.laid (a:=(~~~s)) (o:=.own ((~~~s)+1)) (h':=s.heap.push PySem.W.emptyDict) (t':=s.toks) (λb u q=>cb _ q) (ez _) ⟨_,d⟩;show i.laid (a:=(~~~s)+1) (o:=.ins C (~~~s) []) (t':=s.toks) (λb u q=>cb _ q) (VR (NH _ _)) ?_;have ne:(~~~s)≠(~~~s)+1:=ix (NQ _);show#[by rw[aj ne,ar],ki _,ne,f,λ_=>bD,(Heap.Ns1.of_empty g).at λo q=>cb _ q,λ_=>Tb,λy j=>absurd rfl j]
def Bb(a:Pn e f env (tj e env)=tj e env)
  (h:du (d5 prog w) A (tj e env) (λo b=>du (d5 prog w) A (getAttr o f a8) Q E b) E s):du (d5 prog w) A (tj (.Attribute e f pos) env) Q E s :=
 Attribute_any_ h (by rw[arm_eval_Attribute,a])
end
abbrev Ek(K:PySem.W.Frag)(d:TE)(f:Str):TE:=λσ H Q=>d σ H λx b=>∃a C e c v,x=.ref a/\b a=a5 (.ins C e c)/\N4 K C/\gA K C f/\c.lookup f=a5 v/\Q v b
abbrev IX(K:PySem.W.Frag)(e g:TE)(f:Str):TS:=λD σ H=>g σ H λy h=>e σ h λx c=>∃a C d b,x=.ref a/\c a=a5 (.ins C d b)/\N4 K C/\gA K C f/\b.length<1000 /\
 D.nx σ (upd c a (.ins C d (eW f y b)))
section
def sy(d:PE X e g)(i:Pn e f X.env (tj e X.env)=tj e X.env):PE X (.Attribute e f pos) (Ek X.K g f):=by
 intro b s σ H Q I h;show Bb i (JJ (d b s σ H _ I h) λu s1 j=>?_);have(x,k,m,o,a,C,t,w,v,ex,ea,c,n,l,q):=j;subst ex;obtain rfl:u=il a:=o;show sr m ea c n l λu' s2 p r=>#[v,k,p,r,q]
def sA(e:PE X o g)(i:PE X b j)(hs:PL b (a5 (.Attribute o f pos')) pos.line X.env=pure bL):PS X (.Assign [.Attribute o f pos'] b pos) (IX X.K g j f):=by
 intro d s σ H D I h;show plainObj_wpAny_Assign_Attribute (JJ (i d s σ H _ I h) λu s1 ⟨y,k,m,p,q⟩=>JJ (e d s1 σ k _ m q) λr s2 ⟨x,A,t,v,a,C,B,G,ex,ea,c,n,l,w⟩=>?_) hs;subst ex;obtain rfl:r=il a:=v;show sv t ea c n l p λs3 z=>#[σ,_,z,w]
end
section
inductive lL(K:PySem.W.Frag)(H:Hp):V->cK->Prop where
 |JN:lL K H .JN (.type "NoneType")
 |bl (x:Bool):lL K H (.bl x) (.type "bool")
 |int (i:Int):lL K H (.int i) (.type "int")
 |str (x:Str):lL K H (.str x) (.type "str")
 |Qz (x:UInt64):lL K H (.Qz x) (.type "float")
 |lst {a:df} {xs:List V} (e:H a=a5 (.lst xs)):lL K H (.ref a) (.type "list")
 |Lr {a:df} {o:Obj} {xs:List V} (e:H a=a5 (.Lr o (.lst xs))):lL K H (.ref a) (.type "list")
 |tup {a:df} {xs:List V} (e:H a=a5 (.tup xs)):lL K H (.ref a) (.type "tuple")
 |dK {a:df} {kvs:List (Key×V)} (e:H a=a5 (.dK kvs)):lL K H (.ref a) (.type "dict")
 |dT {a:df} {kvs:List (List Key×V)} (e:H a=a5 (.dT kvs)):lL K H (.ref a) (.type "dict")
 |ins {a C dx:df} {fs:List (Str×V)} (e:H a=a5 (.ins C dx fs)) (cl:N4 K C) (ha:PySem.W.findIn K (.ref C) "__class__"=a5 (a5 (.builtin "object.__class__")))
   (hn:PySem.W.specialIn K (.builtin "object.__class__") "__get__"=a5 (a5 (.builtin "getset_descriptor.__get__"))) (QI:PySem.W.takesIn K (.builtin "object.__class__")=a5 a8)
   (hm:PySem.W.mroIn K C (.type "object")=a5 a8):lL K H (.ref a) (.ref C)
end
structure cF(k:Nat)(A:Ke):Prop where
 hd:A.handled=bD
 dp:A.depth+3 * k+5<Yn
 un:A.units+16 * k+200<L'
 gd:A.guards=a5 []
def cF.mono(r:cF k A)(h:j<=k):cF j A:=#[r.hd,by have:=r.dp;lia,by have:=r.un;lia,r.gd]
def cF.deeper(r:cF (k+1) A)(env:Env):cF k (A.deeper env) :=
 #[r.hd,by have:=r.dp;change A.depth+1+3 * k+5 < _;lia,by have:=r.un;change A.units+3+16 * k+200 < _;lia,r.gd]
def sC{A:Ke}:(A.under (.builtin "type.__call__" ⟨.ref C::us,a⟩)).depth=A.depth+1:=by
 first|rfl|simp[UP,Code.weight,Code.isCreation,Ġ,Code.isCaller,Zg,Vg,guardIds]
def sD{A:Ke}:(A.under (.builtin "type.__call__" ⟨.ref C::us,a⟩)).units=A.units+1:=by
 first|rfl|simp[UP,Code.cUnits,Zg,Vg]
def cF.make(r:cF (k+1) A)(C:df)(us:List cK)(a:List (Str×cK)):cF k (A.under (.builtin "type.__call__" ⟨.ref C::us,a⟩)) :=
 #[r.hd,by have:=r.dp;rw[sC];lia,by have:=r.un;rw[sD];lia,by first|show r.gd|(simp[UP,Ġ,Zg,Vg,guardIds];show r.gd)|(change _=_;show r.gd)]
def cF.depth(r:cF k A):A.depth<Yn:=by have:=r.dp;lia
abbrev El:TA:=λ_ H Q=>Q [] H
abbrev Dt(a:TE)(b:TA):TA:=λσ H Q=>a σ H λx c=>b σ c λxs d=>Q (x::xs) d
section
def c8:PA X [] El:=λ_ _ _ _ H Q I h=>Qc #[[],H,I,.nil,h]
def bM(b:PE X e te)(c:PA X es t)(hs:gj (e::es) X.env=(bL,tj e X.env)::gj es X.env:=by rfl):PA X (e::es) (Dt te t):=by
 intro pos a s σ H Q I h;rw[hs];change du _ _ (Ï ((bL,tj e X.env)::uv pos (gj es X.env))) _ _ s;show NY (JJ (b a s σ H _ I h) λu s1 d=>?_);have(x,f,g,r1,i):=d;show JJ (c pos a s1 σ f _ g i) λus s2 ⟨xs,j,k,r2,l⟩=>#[x::xs,j,k,.cons r1 r2,l]
abbrev IY(t:TA):TE:=λσ H Q=>t σ H λxs a=>xs.length<=b6/\∀p,a p=bD->Q (.ref p) (upd a p (.tup xs))
abbrev IZ(t:TA):TE:=λσ H Q=>t σ H λxs a=>xs.length<=b6/\∀p,a p=bD->Q (.ref p) (upd a p (.lst xs))
def x8(h:PA X es t):PE X (.Tuple es i pos) (IY t):=by
 intro a s σ H Q I f;show ü (JJ (h pos a s σ H _ I f) λus s1 ⟨xs,c,d,r,z,q⟩=>#[by rw[<-r.length];show z,?_]);have g:c (~~~s1)=bD:=d.JE.fresh (ez _);show#[.ref (~~~s1),upd c (~~~s1) (.tup xs),d.laid (t':=s1.toks) (λb u e=>cb _ e) (ez _) ?_,rfl,q _ g];show#[z,us,r,#[_,d7 _ rfl,rfl,_,rfl]]
def sE(h:PA X es t):PE X (.List es pos) (IZ t):=by
 intro a s σ H Q I f;show ą (JJ (h pos a s σ H _ I f) λus s1 ⟨xs,c,d,r,z,q⟩=>#[by rw[<-r.length];show z,?_]);have g:c (~~~s1)=bD:=d.JE.fresh (ez _);show#[.ref (~~~s1),upd c (~~~s1) (.lst xs),d.laid (t':=s1.toks) (λb u e=>cb _ e) (ez _) ?_,rfl,q _ g];show#[z,us,0,r,d7 _ rfl]
end
@[reducible]noncomputable def Sp:=List V->Hp->VK->XK->Prop
@[reducible]noncomputable def N5:=List Env->Hp->dt->XK->cK->dt->Prop
structure oY(P:tr)(w:ux)(K:PySem.W.Frag)(mg:Str->Option cK)(base:K2)(A:Ke)(outer:List Env)(s:dt)(H:Hp):Prop where
 frames:A.frames=a5 outer
 mod:Mod K mg base
 bs:∀b o,base.get? b=a5 o->s.heap.get? b=a5 o/\H b=bD
 M3:base.objs.size<=(~~~s)
 iO:s.heap.FunFrames base outer
 NG:∀b∈Kj outer,H b=bD
 JE:KH P w H s.heap
 bare:Tf s.gens
abbrev CE(outer:List Env)(P:tr)(w:ux)(H:Hp)(s:dt)(Q:VK)(u:cK)(s':dt):Prop :=
 ∃v H',s'.os=s.os/\Tf s'.gens/\Un (Kj outer) [] H H' s.heap s'.heap/\KH P w H' s'.heap/\RelV v u/\Q v H'
abbrev CR(CX:N5)(outer:List Env)(P:tr)(w:ux)(H:Hp)(s:dt)(Q:VK)(E:XK)(r:Result)(s':dt):Prop :=
 match r with
 |.ok (.ret u)=>CE outer P w H s Q u s'
 |.ok _=>False
 |.error e=>CX outer H s E e s'
structure eO(P:tr)(w:ux)(K:PySem.W.Frag)(mg:Str->Option cK)(base:K2)(CX:N5)(k:Nat)(f:df)(fd:QV)(ps:List Str)(sp:Sp):Prop where
 len:∀vs H Q E,sp vs H Q E->vs.length=ps.length
 run:∀(A:Ke) (outer:List Env) (s:dt) (H:Hp) (args:Args) (us:List cK) (vs:List V) (Q:VK) (E:XK),cF k A->oY P w K mg base A outer s H->Ya s fd args (ps.zip us)->Vals vs us->sp vs H Q E ->
  OY (d5 P w) A (.call (.ref f) args) (CR CX outer P w H s Q E) s
def oY.make{K:PySem.W.Frag}(e:oY P w K mg base A outer s H)(C:df)(us:List cK)(a:List (Str×cK)):
  oY P w K mg base (A.under (.builtin "type.__call__" ⟨.ref C::us,a⟩)) outer s H:=#[by first|show e.frames|(simpa[UP,Code.envs,Vg,pushEnvs] using e.frames),e.mod,e.bs,e.M3,e.iO,e.NG,e.JE,e.bare]
section
def Inv.Bc(I:Inv X a σ H s):oY X.prog X.w X.K X.mg X.base X.A X.stack s H :=
 #[I.ok.frames,I.ok.mod,I.bs,va I.ok.M3 I.sz,I.stack,I.jf,I.JE,I.bare]
def Inv.after(I:Inv X a σ H s)(h:CE X.stack X.prog X.w H s Q u s'):EP X a σ Q u s':=by
 have(v,H',os,c,e,f,r,q):=h;have(i,g,d,t,j):=s';obtain rfl:j=s.os:=os;show#[v,H',I.call (h':=i) (g':=g) (d':=d) (t':=t) (ch:=[]) e f c (λb z=>absurd z (by simp)),r,q]
end
abbrev G8(C:df)(sp:Sp)(c:List V)(E:XK)(t:TA):TE:=λσ H Q=>t σ H λvs b=>∀x a,b x=bD->b a=bD->a≠x ->
 sp (.ref x::(vs++c)) (upd (upd b a (.own x)) x (.ins C a [])) (λv d=>v=.JN/\Q (.ref x) d) E
abbrev Binds(K:PySem.W.Frag)(a:QV)(ps:List Str)(ds:List cK):Prop :=
 ∀(s:dt) (us:List cK),K.In s.heap->(us++ds).length=ps.length->Ya s a #[us,[]] (ps.zip (us++ds))
def Binds.all{K:PySem.W.Frag}(h:∀us:List cK,us.length=ps.length->ņ a #[us,[]]=pure (ps.zip us)):Binds K a ps []:=λs us _ hl=>by
 rw[oD]at hl ⊢;show .of_eq (h us hl)
abbrev Passes(CX:N5)(X:Cx)(E:XK):Prop:=∀(a:List (df×Obj)) (σ:St) (H:Hp) (s:dt) (e:cK) (s':dt),Inv X a σ H s->CX X.stack H s E e s'->X.xe e s'
section
def oZ(F:eO X.prog X.w X.K X.mg X.base CX k f d ps sp)(g:cF k X.A)(i:Binds X.K d ps ds)(j:Vals b ds)(l:Passes CX X E)
  (I:Inv X a σ H s) (r:Vals vs us) (h:sp (vs++b) H Q E):‹X› (PB (.ref f) us) (EP X a σ Q) X.xe s:=by
 have r2:Vals (vs++b) (us++ds):=r.append j;have hl:(us++ds).length=ps.length:=by rw[<-r2.length];show F.len _ _ _ _ h
 show Wz (PM (F.run X.A X.stack s H #[us,[]] (us++ds) (vs++b) Q E g I.Bc (i s us I.Li hl) r2 h) λr s' c=>?_);cases r with
 |error e=>show l a σ H s e s' I c
 |ok m =>
  cases m with
  |ret u=>show I.after c
  |_=>show wk c
structure Mk(K:PySem.W.Frag)(C f:df):Prop where
 makes:PySem.W.makesIn K C=a8
 init:PySem.W.findIn K (.ref C) "__init__"=a5 (a5 (.ref f))
 fn:PySem.W.isFn K (.ref f)=a8
 kp:PySem.W.keepIn K (.ref C)=a8
def x9(M:Mk X.K C f)(F:eO X.prog X.w X.K X.mg X.base CX k f j ps sp)(l:cF (k+1) X.A)(m:Binds X.K j ps ds)(n:Vals g ds)
  (o:Passes CX X E) (I:Inv X a σ H s) (r:Vals vs us)
  (h:∀x b,H x=bD->H b=bD->b≠x->sp (.ref x::(vs++g)) (upd (upd H b (.own x)) x (.ins C b [])) (λv p=>v=.JN/\Q (.ref x) p) E) :
  ‹X› (PB (.ref C) us) (EP X a σ Q) X.xe s:=by
 have i:=h ((~~~s)+1) (~~~s) (I.JE.fresh (Q8 _)) (I.JE.fresh (ez _)) (ix (NQ _));have c:=Inv.made (C:=C) I;have r2:Vals (V.ref ((~~~s)+1)::(vs++g)) (il ((~~~s)+1)::(us++ds)):=.cons rfl (r.append n);have hl:(il ((~~~s)+1)::us++ds).length=ps.length:=by
  have e:=r2.length;rw[F.len _ _ _ _ i]at e;show e.symm
 show Wz (x6 (f:=f) I.Li M.makes M.init (beq_iff_eq.mp M.fn) (PM (F.run _ X.stack _ _ #[il ((~~~s)+1)::us,[]] (il ((~~~s)+1)::(us++ds)) _ _ E (l.make C us [])
  (c.Bc.make C us []) (m _ (il ((~~~s)+1)::us) c.Li hl) r2 i) λr s' d=>?_))
 cases r with
 |error e=>show o a σ _ _ e s' c d
 |ok q =>
  cases q with
  |ret u =>
   have(v,H',t,rv,ev,y):=c.after d;subst ev;show#[rv,#[V.ref ((~~~s)+1),H',t,rfl,y]]
  |_=>show wk d
def x_(M:Mk X.K C f)(F:eO X.prog X.w X.K X.mg X.base CX k f b ps sp)(c:cF (k+1) X.A)(d:Gl X x)(e:X.mg x=a5 (.ref C))(g:Binds X.K b ps ds)(i:Vals j ds)(l:Passes CX X E)
  (m:(x==("__debug__":Str))=bL:=by decide):PE X (.Call (.Name x p) [] [] pos) (G8 C sp j E El):=by
 intro a s σ H Q I h;show tp (eQ I d e ?_ m);show PySem.W.callWith_K0 I.Li M.kp (x9 (us:=[]) M F c g i l I .nil h)
end
section
end
structure c9(N P:List Str)(sc:Lg):Prop where
 kind:sc.kind=.function
 co:sc.isCoroutine=bL
 gen:sc.isGenerator=bL
 nd:N.Nodup
 pre:N.take P.length=P
 par:∀x∈P,sc.names.lookup x=a5 .local\/sc.names.lookup x=a5 .cell
 Nj:∀y∈sc.names,y.2≠.free
theorem nY{kindOf:Str->Option Mb}:∀{a:List (Str×cK)}{m:Str->Option cK},(∀v,(x,v)∉a)->YK kindOf a m x=m x
 |[],_,_=>rfl
 |(n,v)::r,m,h=>by
  unfold YK;rw[nY λw b=>h w (fx _ b)];split
  .have:x≠n:=by rintro rfl;show h v gs
   simp[this]
  .rfl
theorem nZ{kindOf:Str->Option Mb}:∀{a:List (Str×cK)}{m:Str->Option cK},(∀v,(x,v)∉a)->YP kindOf a m x=m x
 |[],_,_=>rfl
 |(n,v)::r,m,h=>by
  unfold YP;rw[nZ λw b=>h w (fx _ b)];split
  .rfl
  .have:x≠n:=by rintro rfl;show h v gs
   simp[this]
theorem jR{kindOf:Str->Option Mb}:∀{P:List Str}{vs:List cK}{i:Nat}{m:Str->Option cK},P.Nodup->P[i]?=a5 x->vs[i]?=a5 v->kindOf x=a5 .local ->
  YK kindOf (P.zip vs) m x=a5 v
 |[],_,_,_,_,h,_,_=>by simp at h
 |_::_,[],_,_,_,_,h,_=>by simp at h
 |p::P,w::vs,0,m,c,a,b,hk=>by
  simp at a b;subst a;subst b;change YK kindOf ((p,w)::P.zip vs) m p=_;unfold YK;rw[nY λv d=>(rr.mp c).1 (PN d).1,Ŕ hk];simp
 |p::P,w::vs,i+1,m,c,a,b,hk=>by
  change YK kindOf ((p,w)::P.zip vs) m x=_;unfold YK;show jR (i:=i) (rr.mp c).2 (by simpa using a) (by simpa using b) hk
theorem jS{kindOf:Str->Option Mb}:∀{P:List Str}{vs:List cK}{i:Nat}{m:Str->Option cK},P.Nodup->P[i]?=a5 x->vs[i]?=a5 v->kindOf x≠a5 .local ->
  YP kindOf (P.zip vs) m x=a5 v
 |[],_,_,_,_,h,_,_=>by simp at h
 |_::_,[],_,_,_,_,h,_=>by simp at h
 |p::P,w::vs,0,m,c,a,b,hk=>by
  simp at a b;subst a;subst b;change YP kindOf ((p,w)::P.zip vs) m p=_;unfold YP;rw[nZ λv d=>(rr.mp c).1 (PN d).1,ŕ hk];simp
 |p::P,w::vs,i+1,m,c,a,b,hk=>by
  change YP kindOf ((p,w)::P.zip vs) m x=_;unfold YP;show jS (i:=i) (rr.mp c).2 (by simpa using a) (by simpa using b) hk
abbrev start(N:List Str)(vs:List V):St:=vs.map a5++ke (N.length - vs.length) bD
abbrev o_(CX:N5)(P:tr)(w:ux)(K:PySem.W.Frag)(mg:Str->Option cK)(base:K2)(N:List Str)(a:Str)(scope:Lg)(f:df)(b:cK)(A:Ke)(outer:List Env)(s:dt)(H:Hp)(E:XK):Cx where
 prog:=P
 w:=w
 K:=K
 mg:=mg
 base:=base
 A:=A.deeper (RX a scope (~~~s) f b)
 N:=N
 s₀:=s
 H₀:=H
 env:=RX a scope (~~~s) f b
 outer:=outer
 stack:=RX a scope (~~~s) f b::outer
 ex:=[]
 calm:=a8
 fn:=λ_=>a8
 pn:=[]
 xe:=λe s'=>du (d5 P w) (A.deeper (RX a scope (~~~s) f b)) (leaving (RX a scope (~~~s) f b) e) (λ_ c=>CX outer H s E e c) (λd c=>CX outer H s E d c) s'
def ji{a:Lg}(h:a.names.lookup x=a5 .cell):∃c,(LF n a.names []).lookup x=a5 c:=by
 have q:=PySem.W.cellsFrom_some a.names n [] (.inl h);show R0.mp q
def wc{K:PySem.W.Frag}
  (S:c9 N ps scope) (D:A.handled=bD) (j:oY P w K mg base A outer s H) (hl:vs.length=ps.length) (r:Vals vs us)
  (x:InCallC s (~~~s) (YK (RX g scope (~~~s) f o).kindOf (ps.zip us) λ_=>bD) (LF ((~~~s)+1) scope.names []) (YP (RX g scope (~~~s) f o).kindOf (ps.zip us) λ_=>bD) s1) :
  Inv (o_ CX P w K mg base N g scope f o A outer s H E) [] (start N vs) H s1:=by
 have I:ps.length<=N.length:=by have:=Ś vr S.pre;rw[my]at this;lia
 have(m,J,rfl,hk):=x.done;have t:∀b:df,b∉(o_ CX P w K mg base N g scope f o A outer s H E).ex:=λb z=>absurd (show b∈([]:List df) from z) (by simp);show#[#[j.mod,S.kind,rfl,rfl,ez _,λy z c m d=>?_,λy hy=>?_,λy c _ h=>?_,λ_=>D,Yb j.frames,.inr #[rfl,rfl],λb z=>absurd z (t b),j.bs,j.M3,λb _ _=>t b,λb z=>absurd z (t b),j.iO,j.NG],
  rfl,j.bare,Un.kept hk,#[_,x.toInCall.ns,λi y v m d L=>?_],λy c h=>#[_,x.cell y c h],j.JE.fresh (ez _),λy c h=>?_,λp l=>absurd (show p∈([]:List (df×Obj)) from l) (by simp),j.JE.kept hk,?_]
 .show name_of_addr x.apart (PySem.mem_of_lookup m) (PySem.mem_of_lookup d)
 .have hy:scope.names.lookup y=a5 .cell\/scope.names.lookup y=a5 .free:=hy;rcases hy with hy|hy
  .show ji hy
  .show absurd rfl (S.Nj _ (PySem.mem_of_lookup hy))
 .show Oy (x.above y c (PySem.mem_of_lookup h))
 .have hi:i<vs.length:=by
   unfold start at d;by_cases hi:i<vs.length
   .show hi
   .rw[k9 (by simpa using hi)]at d;rw[z8]at d;split at d<;>cases d
  have G:vs[i]?=a5 v:=by
   unfold start at d;rw[mh (by simpa using hi),n9]at d;cases e:vs[i]? with
   |none=>rw[e]at d;cases d
   |some a=>rw[e]at d;cases d;rfl
  have(u,B,rv):=r.get G;have l:ps[i]?=a5 y:=by
   rw[<-S.pre,Nc ⋯];show m
  have C:ps.Nodup:=by rw[<-S.pre];show S.nd.sublist (Vm _ _)
  show#[u,rv,?_];rcases S.par y (ri l) with k|k
  .show .inl #[k,jR C l B k]
  .have(c,e):=ji (n:=(~~~s)+1) k;show .inr #[.inl k,c,e,?_];have q:=x.cell y c e;rw[jS C l B (by change scope.names.lookup y≠_;rw[k];decide)]at q;show q
 .show j.JE.fresh (Oy (x.above y c (PySem.mem_of_lookup h)))
 .unfold start;change _=N.length;rw[hH,b8,OT];lia
def ya{K:PySem.W.Frag}{z kV g B d ct G:cK}
 (lk:K.lookup f=a5 #[G,od,.func (PySem.W.fnOf name a c body scope z kV g B L d ct),NM]) (O:PySem.W.codeIn K d a=a8) (S:c9 N ps scope)
    (h:∀vs H Q E,sp vs H Q E->vs.length=ps.length)
    (T:∀(A:Ke) (outer:List Env) (s:dt) (H:Hp) (vs:List V) (Q:VK) (E:XK),cF k (A.deeper (RX a scope (~~~s) f d))->sp vs H Q E ->
      ∃t,KZ (o_ CX P w K mg base N a scope f d A outer s H E) body t/\t {nx:=λ_ H'=>Q .JN H',rt:=Q} (start N vs) H) :
    eO P w K mg base CX (k+1) f (PySem.W.fnOf name a c body scope z kV g B L d ct) ps sp:=by
  show#[h,λA outer s H args us vs Q E m i Y r C=>?_];have hl:=h _ _ _ _ C;have D:K.In s.heap:=i.mod.N2.keeps λb o e=>(i.bs b o e).1;have p:s.heap.NoLimit:=i.mod.nolimit.keeps λb o e=>(i.bs b o e).1;have Nk:∀y∈ps.zip us,scope.names.lookup y.1=a5 .local\/(scope.names.lookup y.1=a5 .cell/\((LF ((~~~s)+1) scope.names []).lookup y.1).isSome=a8):=λ⟨n,v⟩ hy=>by
    rcases S.par n (PN hy).1 with q|q
    . show .inl q
    . show .inr #[q,PySem.W.cellsFrom_some _ _ _ (.inl q)]
  show ß m.depth (D _ _ lk) rfl S.co S.gen rfl (PySem.W.codeRec_of D O) (Y _ _ _ _ ?_);show Yh S.kind Nk λenv he s1 x=>?_;subst he;show#[p.keeps x.toInCall.keep,codeAny_func ?_];have(t,ht,hq):=T A outer s H vs Q E (m.deeper _) C;have I:Inv (o_ CX P w K mg base N a scope f d A outer s H E) [] (start N vs) H s1:=wc S m.hd i hl r x;show mu (ht [] s1 (start N vs) H _ I hq) (λfl s' hs=>?_) λe s' hs=>hs;have j:∀{l:St} {H':Hp} {v:V} {u:cK},Inv (o_ CX P w K mg base N a scope f d A outer s H E) [] l H' s'->RelV v u->Q v H'->CE outer P w H s Q u s' :=
    λ{l H' v u} J rv q=>#[v,H',J.os,J.bare,J.base,J.JE,rv,q]
  cases fl with
  | ret u =>
    have(v,l,H',J,rv,q):=hs;show j J rv q
  | next =>
    have(l,H',J,q):=hs;show j (v:=V.JN) (u:=pb) J rfl q
  | brk =>
    have(_,_,_,q):=hs;show wk q
  | cont =>
    have(_,_,_,q):=hs;show wk q
section
variable{X:Cx}{x:Str}{p pos:Pos}{e:lx}{es:List lx}{t:TA}{id T:String}{r:List V->Hp->VK->Prop}
abbrev Yc(r:List V->Hp->VK->Prop)(t:TA):TE:=λσ H Q=>t σ H λvs a=>r vs a Q
def yb(b:iG X (.builtin id) r)(c:Gl X x)(d:X.mg x=bD)(f:vl x=a5 (.builtin id))(g:PA X (e::es) t)(i:x≠"__name__":=by decide)(j:(x==("__debug__":Str))=bL:=by decide)
  (k:gj (e::es) X.env=(bL,tj e X.env)::gj es X.env:=by rfl) (l:(uv pos (gj es X.env)).any (·.1)=bL:=by rfl):PE X (.Call (.Name x p) (e::es) [] pos) (Yc r t):=by
 intro a s σ H Q I h;show tp (dN I c d f ?_ i j);show Ms (JJ (g pos a s σ H _ I h) λus s1 ⟨vs,m,n,r1,o⟩=>b a s1 σ m vs us Q n r1 o) k l
end
end L2
namespace HT
open PySem PyProof.Rows
section
open PySem.SeqAt
open PySem.AutoSeq1 (wpAny_loadPart')
open PySem.MeetsSeq PySem.MeetsSeq2 PySem.MeetsSeq3
end
section
def Bd(o:V8 s.heap t vs.toArray)(p:V8 s.heap b ws.toArray)(f:vs≠[])
  (q:ws=[]->Q (.ref t) s) (r:ws≠[]->Q (.ref (~~~s)) {s with heap:=s.heap.push {cls:=.type "tuple",data:=.seq (vs++ws).toArray}})
  (hsz:vs.length+ws.length<=b6):du (d5 prog w) A (P' .Add (.ref t) (.ref b)) Q E s:=by
 have((cls,dd,data,g),ho,h,n,i):=id o;have((u,j,data2,k),c,l,m,a):=id p;simp only at h i l a;subst h i l a;have e:vs.toArray++ws.toArray=(vs++ws).toArray:=by simp
 by_cases d:ws=[]
 .show W8 #[_,ho,rfl] #[_,c,rfl] Xz ZZ PySem.F.slot_tuple_add PySem.F.entry_tuple_add (PySem.F.args_tuple_add_2 _ _)
   (tuple_addW1 t b vs.toArray ws.toArray n m dd j g k (by simpa using f) (by simp[d])) #[ho,c,q d]
 .show W8 #[_,ho,rfl] #[_,c,rfl] Xz ZZ PySem.F.slot_tuple_add PySem.F.entry_tuple_add (PySem.F.args_tuple_add_2 _ _)
   (tuple_addW2 t b vs.toArray ws.toArray n m dd j g k (by simpa using f) (by simpa using d) (by rw[d8,d8];show hsz)) #[ho,c,?_]
  rw[e];show r d
abbrev JS(n d:Nat):Option Int->Nat
 |none=>d
 |some v=>if v<0 then(v+(n:Int)).toNat else min v.toNat n
def uM(n d k:Nat):JS n d (a5 (k:Int))=min k n:=by
 change(if (k:Int)<0 then((k:Int)+(n:Int)).toNat else min (k:Int).toNat n)=min k n;rw[ŕ ⋯,M9]
def Em(n d:Nat)(b:d<=n)(o:Option Int):JS n d o<=n:=by
 cases o with
 |none=>show b
 |some v =>
  change(if v<0 then(v+(n:Int)).toNat else min v.toNat n)<=n;by_cases a:v<0
  .rw[Ŕ a];lia
  .rw[ŕ a];show Nat.min_le_right _ _
def uN(v:Int)(n d:Nat):(if v<0 then max (v+(n:Int)) 0 else min v (n:Int))=((JS n d (a5 v):Nat):Int):=by
 change(if v<0 then max (v+(n:Int)) 0 else min v (n:Int))=(((if v<0 then(v+(n:Int)).toNat else min v.toNat n):Nat):Int)
 by_cases a:v<0
 .simp only[Ŕ a];lia
 .simp only[ŕ a];lia
def sF(lo hi:Option Int)(n:Nat):QW lo hi 1 (n:Int)=(((JS n 0 lo:Nat):Int),((JS n n hi:Nat):Int)):=by
 have a:¬((1:Int)<0):=by lia
 unfold QW;simp only[a,if_false];show Vj ?_ ?_
 .cases lo with
  |none=>rfl
  |some v=>show uN v n 0
 .cases hi with
  |none=>rfl
  |some v=>show uN v n n
def sG(i j:Nat):Oz (i:Int) (j:Int) 1=j - i:=by
 unfold Oz;have a:(1:Int)>0:=by lia
 simp only[a,if_true,Int.ediv_one];split<;>lia
def lM(p:U5 v o)(h:Q o s):du (d5 prog w) A (Ī v) Q E s:=by
 cases p with
 |none=>show ŏ h
 |int i t=>show slicePart_int h
def fe{lo hi:Option Int}{n:Nat}(hs:s.heap.IsSliceOf e c d .none)(pl:U5 c lo)(f:U5 d hi)
  (h:Q (((JS n 0 lo:Nat):Int),1,JS n n hi - JS n 0 lo) s):du (d5 prog w) A (UJ (.ref e) (pure (n:Int))) Q E s:=by
 have(os,a,g,b):=id hs;unfold UJ ī;show bR (bR (C0 a b (x:=c) rfl (bR (C0 a b (x:=d) rfl (bR (C0 a b (x:=.none) rfl (c6 ?_)))))));show bR (ŏ ?_);change du _ _ (if ((1:Int)==0)=a8 then _ else _) _ _ s;rw[ŕ (by decide)];show bR (lM pl (bR (lM f (bR (c6 ?_)))));change du _ _ (match QW lo hi 1 (n:Int) with|(lo,hi)=>pure (lo,(1:Int),Oz lo hi 1)) _ _ s;rw[sF lo hi n];change du _ _ (pure (((JS n 0 lo:Nat):Int),(1:Int),Oz ((JS n 0 lo:Nat):Int) ((JS n n hi:Nat):Int) 1)) _ _ s;rw[sG];show c6 h
def yc(xs:Array cK)(i k:Nat):((dV k).filterMap λ(m:Nat)=>xs[((i:Int)+(m:Int) * 1).toNat]?).toArray=((xs.toList.drop i).take k).toArray:=by
 have e:(λ(m:Nat)=>xs[((i:Int)+(m:Int) * 1).toNat]?)=λm=>xs[i+m]?:=by
  funext m
  have:((i:Int)+(m:Int) * 1).toNat=i+m:=by lia
  rw[this]
 rw[e];have:=pick_run xs i k;rw[List.filterMap_map]at this;have a:((λx=>xs[x]?) ∘ λx=>i+x)=λm=>xs[i+m]?:=rfl;rw[a]at this;rw[this]
def jj{lo hi:Option Int}(b:V8 s.heap t a)(hs:s.heap.IsSliceOf d e f .none)(pl:U5 e lo)(g:U5 f hi)
  (i:¬(JS a.size 0 lo=0/\JS a.size a.size hi=a.size))
  (h:Q (.ref (~~~s)) {s with heap:=s.heap.push {cls:=.type "tuple",data:=.seq ((a.toList.drop (JS a.size 0 lo)).take (JS a.size a.size hi - JS a.size 0 lo)).toArray}})
  (hsz:a.size<=b6):du (d5 prog w) A (R' (.ref t) (.ref d)) Q E s:=by
 have c:sizeOk (.seq ((a.toList.drop (JS a.size 0 lo)).take (JS a.size a.size hi - JS a.size 0 lo)).toArray):=by
  change((a.toList.drop (JS a.size 0 lo)).take (JS a.size a.size hi - JS a.size 0 lo)).toArray.size<=b6;rw[d8,my,S7,sL];lia
 have o:JS a.size a.size hi<=a.size:=Em _ _ (ez _) hi;have(os,j,k,p):=id hs;have l:s.TypeIs (.ref d) "slice":=#[os,j,k]
 unfold R'
 try with_reducible show x4 ?_
 first|show bR (c6 ?_)|skip
 show bR (Ĕ b.typeIs (by decide) ?_);show bR (DD (name:=Oe "__getitem__") b.typeIs rz
  (ve rz b.typeIs ÿ ?_ (č _ _)))
 change du _ _ (UD (.ref t) >>= _) _ _ s;show bR (tupleItemsOf_ b ?_);show bR (Uc l ?_);rw[Ŕ (by decide)];show bR (fe hs pl g ?_);have n:¬((((JS a.size 0 lo:Nat):Int)==0&&(1:Int)==1&&(JS a.size a.size hi - JS a.size 0 lo)==a.size)=a8):=by
  intro q;rw[bF,bF]at q;have r:((JS a.size 0 lo:Nat):Int)=0:=Ĵ q.1.1;have u:JS a.size a.size hi - JS a.size 0 lo=a.size:=Ĵ q.2;show i #[⋯,⋯]
 change du _ _ (if (((JS a.size 0 lo:Nat):Int)==0&&(1:Int)==1&&(JS a.size a.size hi - JS a.size 0 lo)==a.size)=a8 then _ else _) _ _ s;rw[ŕ n,yc]
 first
  |show bR (m:=O2 _) (wh (c6 #[_,rfl,c6 h]) c)
  |show bR (m:=O2 _) (wh (bR (c6 (c6 #[_,rfl,c6 h]))) c)
  |show bR (bR (m:=O2 _) (wh (c6 (c6 #[_,rfl,c6 h])) c))
  |show bR (bR (m:=O2 _) (wh (c6 #[_,rfl,c6 h]) c))
end
end HT
namespace L2
open PySem PySem.Spec PyProof.Rows
@[reducible]noncomputable def TO:=St->Hp->(Option Int->Hp->Prop)->Prop
abbrev PO(X:Cx)(e:Option lx)(t:TO):Prop :=
 ∀(a:List (df×Obj)) (s:dt) (σ:St) (H:Hp) (Q:Option Int->Hp->Prop),Inv X a σ H s->t σ H Q ->
  ‹X› (evalPart e X.env) (λu s'=>∃o H',Inv X a σ H' s'/\U5 u o/\Q o H') X.xe s
abbrev Be:TO:=λ_ H Q=>Q bD H
abbrev G9(t:TE):TO:=λσ H Q=>t σ H λx a=>∃i,x=.int i/\Q (a5 i) a
section
variable{X:Cx}{e:lx}{te:TE}{lo hi:Option lx}{tl th:TO}{pos p2:Pos}
def Bg:PO X bD Be:=by
 intro a s σ H Q I h;rw[evalPart_none];show c6 #[bD,H,I,.none,h]
def Bh(h:PE X e te):PO X (a5 e) (G9 te):=by
 intro a s σ H Q I b;rw[evalPart_some];show JJ (h a s σ H _ I b) λu s1 c=>?_;have(x,d,f,r1,g):=c;have(i,rfl,q):=g;have(t,rfl):=r1;show#[a5 i,d,f,.int i t,q]
abbrev NO(X:Cx)(r:V->Option Int->Option Int->Hp->VK->Prop):Prop :=
 ∀(a:List (df×Obj)) (s:dt) (σ:St) (H:Hp) (x:V) (v b c:cK) (lo hi:Option Int) (d:df) (Q:VK),Inv X a σ H s->RelV x v->s.heap.IsSliceOf d b c .none->U5 b lo->U5 c hi->r x lo hi H Q ->
  ∃T id,SN (.type T) "__getitem__"=pure (a5 (.builtin id))/\s.TypeIs v T/\‹X› (R' v (.ref d)) (EP X a σ Q) X.xe s
def NO.or(h:NO X r)(h':NO X i):NO X (λx lo hi H Q=>r x lo hi H Q\/i x lo hi H Q):=by
 intro a s σ H x v b c lo hi d Q I f hs pl g q;rcases q with q|q
 .show h a s σ H x v b c lo hi d Q I f hs pl g q
 .show h' a s σ H x v b c lo hi d Q I f hs pl g q
abbrev Yd(r:V->Option Int->Option Int->Hp->VK->Prop)(te:TE)(tl th:TO):TE:=λσ H Q=>te σ H λx a=>tl σ a λl b=>th σ b λu c=>r x l u c Q
def yd(g:NO X r)(i:PE X e te)(hl:PO X lo tl)(j:PO X hi th):PE X (.Subscript e (.Slice lo hi bD p2) pos) (Yd r te tl th):=by
 intro a s σ H Q I h;show Ď (JJ (i a s σ H _ I h) λv s1 k=>?_);have(x,m,n,r1,o):=k;show wpAny_Slice (JJ (hl a s1 σ m _ n o) λc s2 ⟨l,p,t,pl,y⟩=>JJ (j a s2 σ p _ t y) λd s3 z=>?_);have(u,f,B,C,D):=z;rw[evalPart_none];show c6 ?_;have G:Inv X a σ f {s3 with heap:=s3.heap.push {cls:=.type "slice",data:=.fields #v[c,d,.none]}}:=B.kept (t':=s3.toks) λb O q=>cb _ q;have(T,id,J,L,N):=g a {s3 with heap:=s3.heap.push {cls:=.type "slice",data:=.fields #v[c,d,.none]}} σ f x v c d l u (~~~s3) Q G r1 (ğ ..) pl C D;change ‹X› (V5 e (.Slice lo hi bD p2) v (.ref (~~~s3))) (EP X a σ Q) X.xe {s3 with heap:=s3.heap.push {cls:=.type "slice",data:=.fields #v[c,d,.none]}};show tail_any (ops:=[.ref (~~~s3),v]) L J N (by with_unfolding_all rfl)
abbrev qE(xs:List V)(lo hi:Option Int):List V:=(xs.drop (HT.JS xs.length 0 lo)).take (HT.JS xs.length xs.length hi - HT.JS xs.length 0 lo)
def kD(xs:List V)(lo hi:Option Int):(qE xs lo hi).length<=xs.length:=by
 unfold qE;rw[my,S7];lia
abbrev G_(K:PySem.W.Frag):V->Option Int->Option Int->Hp->VK->Prop:=λx lo hi H Q=>∃a xs,x=.ref a/\Ki K H a xs /\
 ¬(HT.JS xs.length 0 lo=0/\HT.JS xs.length xs.length hi=xs.length)/\∀p,H p=bD->Q (.ref p) (upd H p (.tup (qE xs lo hi)))
def En:NO X (G_ X.K):=by
 intro d s σ H x v m n lo hi p Q I g hs pl i h;have(a,xs,rfl,j,k,q):=h;cases g;have(l,r,f,hz):=I.tuple j;have c:l.toArray.size=xs.length:=by rw[d8];show r.length.symm
 show#["tuple",_,rz.lookup,f.typeIs,?_];show HT.jj f hs pl i (by rw[c];show k) ?_ (by rw[c];show hz);rw[c];show#[.ref (~~~s),_,I.laid (t':=s.toks) (o:=.tup (qE xs lo hi)) (λb t q=>cb _ q) (ez _) ?_,rfl,q _ (I.JE.fresh (ez _))];show#[va (kD xs lo hi) hz,_,(r.drop (HT.JS xs.length 0 lo)).take (HT.JS xs.length xs.length hi - HT.JS xs.length 0 lo),XY _ _]
abbrev Ha(K:PySem.W.Frag):R2:=λx y H Q=>∃a b xs ys,x=.ref a/\y=.ref b/\Ki K H a xs/\Ki K H b ys/\xs≠[]/\xs.length+ys.length<=b6 /\
 (ys=[]->Q (.ref a) H)/\(ys≠[]->∀p,H p=bD->Q (.ref p) (upd H p (.tup (xs++ys))))
def Vals.pd(r:Vals xs us):us=[]↔xs=[]:=by
 cases r with
 |_=>simp
def Bi:LC X (P' .Add) (Ha X.K):=by
 intro c s σ H x y v u Q I d f h;have(a,b,xs,ys,rfl,rfl,g,i,j,hz,k,l):=h;cases d;cases f;have(m,r1,p1,_):=I.tuple g;have(n,r2,p2,_):=I.tuple i;show HT.Bd p1 p2 (λz=>j (r1.pd.mp z)) (λz=>#[.ref a,H,I,rfl,k (r2.pd.mp z)]) (λz=>?_) (by rw[<-r1.length,<-r2.length];show hz);show#[.ref (~~~s),_,I.laid (t':=s.toks) (o:=.tup (xs++ys)) (λb p q=>cb _ q) (ez _) ?_,rfl,l (λw=>z (r2.pd.mpr w)) _ (I.JE.fresh (ez _))];show#[by rw[hH];show hz,_,r1.append r2,XY _ _]
end
abbrev M5(n:Nat)(i:Int):Option Nat:=if 0<=i then(if i<n then a5 i.toNat else bD) else if -(n:Int)<=i then a5 (i+n).toNat else bD
abbrev J_{α:Type}(xs:List α)(i:Int):Option α:=(M5 xs.length i).bind λj=>xs[j]?
def uO{n:Nat}(h:M5 n i=a5 j):Ĥ i n=a5 j/\j<n/\-(n:Int)<=i/\i<n:=by
 unfold M5 at h;by_cases b:0<=i
 .rw[Ŕ b]at h;by_cases a:i<n
  .rw[Ŕ a]at h;have e:i.toNat=j:=ti h;show#[by rw[ì b a,e],⋯,⋯,a]
  .rw[ŕ a]at h;cases h
 .rw[ŕ b]at h;by_cases a:-(n:Int)<=i
  .rw[Ŕ a]at h;have e:(i+n).toNat=j:=ti h;show#[by rw[seqIndex_neg ⋯ a,e],⋯,a,⋯]
  .rw[ŕ a]at h;cases h
def pe(h:J_ xs i=a5 v):∃j,Ĥ i xs.length=a5 j/\xs[j]?=a5 v/\j<xs.length/\-(xs.length:Int)<=i/\i<xs.length:=by
 unfold J_ at h;cases e:M5 xs.length i with
 |none=>rw[e]at h;cases h
 |some j =>
  rw[e]at h;have(a,b,c,d):=uO e;show#[j,a,h,b,c,d]
def bH{j:Nat}(h:xs[j]?=a5 v):J_ xs (j:Int)=a5 v:=by
 have a:j<xs.length:=(cL.mp h).1;have e:M5 xs.length (j:Int)=a5 j:=by
  unfold M5;rw[Ŕ ⋯,Ŕ ⋯];simp
 unfold J_;rw[e];show h
abbrev pf(b:lx):Prop:=∀o i,XU b bL o i=operate [o,i] (R' o i)
abbrev TZ(X:Cx)(r:R2):Prop :=
 ∀(c a:lx) (b:List (df×Obj)) (s:dt) (σ:St) (H:Hp) (x y:V) (v u:cK) (Q:VK),Inv X b σ H s->RelV x v->RelV y u->r x y H Q ->
  XU a bL v u=operate [v,u] (R' v u)->‹X› (V5 c a v u) (EP X b σ Q) X.xe s
abbrev P2(X:Cx)(id:String)(r:V->List V->Hp->VK->Prop):Prop :=
 ∀(a:List (df×Obj)) (s:dt) (σ:St) (H:Hp) (x:V) (xs:List V) (v:cK) (us:List cK) (Q:VK),Inv X a σ H s->RelV x v->Vals xs us->r x xs H Q ->
  ‹X› (PB (.builtin id) (v::us)) (EP X a σ Q) X.xe s
section
abbrev I0(K:PySem.W.Frag):R2:=λx y H Q=>∃p xs i v,x=.ref p/\y=.int i/\Kh K H p xs/\J_ xs i=a5 v/\Q v H
abbrev I_(K:PySem.W.Frag):R2:=λx y H Q=>∃p xs i v,x=.ref p/\y=.int i/\Ki K H p xs/\J_ xs i=a5 v/\Q v H
abbrev Ja:R2:=λx y H Q=>∃z i c,x=.str z/\y=.int i/\z.length<=b6/\J_ z.cps.toList i=a5 c/\Q (.str #[#v[c]]) H
def Bj:TZ X (I0 X.K):=by
 intro d f a s σ H x y v u Q I m n h hs;have(p,xs,i,z,rfl,rfl,A,B,q):=h;cases m;have(t,rfl):=n;have(C,r,pl,hz):=I.list A;have(j,c,D,N,G,J):=pe B;have(w,k,L):=r.get D;have hl:=r.length;have O:=gz;have b:EP X a σ Q w s:=#[z,H,I,L,q]
 by_cases l:0<=i
 .have g:i.toNat=j:=by
   rw[ì l J]at c;show ti c
  show item_listR pl.isList l ⋯ (by rw[g];simpa using k) b hs
 .have g:(i+(C.toArray.size:Int)).toNat=j:=by
   rw[seqIndex_neg ⋯ G]at c;rw[d8,<-hl];show ti c
  show Ù (x:=w) pl.isList.typeIs Ė.lookup
   (wpAny_getItem_list_neg (Q:=λr s'=>r=w/\EP X a σ Q r s') pl.isList ⋯ (by rw[d8]<;>lia) ⋯ (by rw[g];simpa using k) ⟨rfl,b⟩) hs
def ph:TZ X (I_ X.K):=by
 intro b c a s σ H x y v u Q I f g h hs;have(p,xs,i,z,rfl,rfl,k,l,q):=h;cases f;have(t,rfl):=g;have(C,r,pl,hz):=I.tuple k;have(j,m,n,D,G,J):=pe l;have(w,A,B):=r.get n;have hl:=r.length;have L:=gz;have d:EP X a σ Q w s:=#[z,H,I,B,q]
 show Ù (x:=w) pl.typeIs rz.lookup
  (getItem_tuple (j:=j) (Q:=λr s'=>r=w/\EP X a σ Q r s') pl ⋯ ⋯ (by rw[d8,<-hl];show m) (by simpa using A) ⟨rfl,d⟩) hs
def jT:TZ X Ja:=by
 intro a b d s σ H x y v u Q I g k h hs;have(z,i,c,rfl,rfl,hz,l,q):=h;have(t,rfl):=g;have(t',rfl):=k;have(j,f,m,B,n,p):=pe l;have hl:z.cps.toList.length=z.length:=by simp[Tn]
 rw[hl]at f n p;have C:=gz;show tail_any (S4 s z t) ĭ.lookup (getItem_str (c:=c) (by
  have w:b7 (i < -(2 ^ 63:Int))=bL:=Ŗ ⋯;have A:b7 (i >= 2 ^ 63)=bL:=Ŗ ⋯;rw[w,A,đ]) (by rw[f];simpa using m) ⟨.str ⟨#v[c]⟩,H,I.tok _,⟨_,rfl⟩,q⟩) hs
def sH(a:List cK)(n j:Nat)(u:cK):ro (·.setIfInBounds j u) {cls:=.type "list",data:=.seq a.toArray n}={cls:=.type "list",data:=.seq (a.set j u).toArray n}:=by
 simp[ro]
def Inv.lst(I:Inv X b σ H s)(h:H p=a5 (.lst xs)):
  ∃(a:List cK) (n:Nat),Vals xs a/\s.heap.get? p=a5 {cls:=.type "list",data:=.seq a.toArray n}/\xs.length<=b6:=by
 have(z,a,n,r,e):=I.JE p _ h;show#[a,n,r,e,z]
def Inv.Eo{c its':List cK}(I:Inv X a σ H s)(h:H p=a5 (.lst xs))
  (ho:s.heap.get? p=a5 {cls:=.type "list",data:=.seq c.toArray n}) (d:f {cls:=.type "list",data:=.seq c.toArray n}={cls:=.type "list",data:=.seq its'.toArray g }) (r:Vals ys its') (hz:ys.length<=b6) (t:Nat) :
  Inv X a σ (upd H p (.lst ys)) {s with heap:=s.heap.update p f,toks:=t}:=by
 have e:(s.heap.update p f).get? p=a5 {cls:=.type "list",data:=.seq its'.toArray g }:=by
  rw[uk f ho (by rw[d]<;>rfl),d]
 show I.write (x:=p) (e:=p) (by rw[h];trivial) (.inl rfl) (λb u i q=>(N7 _ _ (nT i)).trans q) ⟨_,e⟩ ?_;show#[hz,its',g,r,e]
abbrev Hb:V->V->V->Hp->(Hp->Prop)->Prop:=λo i v H Q=>∃p xs k j,o=.ref p/\i=.int k/\H p=a5 (.lst xs)/\M5 xs.length k=a5 j/\Q (upd H p (.lst (xs.set j v)))
def set_list:oR X Hb:=by
 intro a s σ H o i v z A u Q I w x rv h;have(p,xs,k,j,rfl,rfl,c,y,q):=h;cases w;have(t,rfl):=x;have(d,n,r,ho,hz):=I.lst c;have(b,B,f,g):=uO y;have hl:=r.length;have C:=gz;have l:Inv X a σ (upd H p (.lst (xs.set j v))) {s with heap:=s.heap.update p (ro (·.setIfInBounds j u))} :=
  I.Eo c ho (sH d n j u) (r.set rv j) (by rw[ù];show hz) s.toks
 by_cases m:0<=k
 .have hk:k.toNat=j:=by
   rw[ì m g]at b;show ti b
  show PySem.W.ki_setAt ho m ⋯ (by rw[d8,<-hl];show g) (by rw[hk];show#[_,l,q])
 .have hk:(k+(d.toArray.size:Int)).toNat=j:=by
   rw[seqIndex_neg ⋯ f]at b;rw[d8,<-hl];show ti b
  show PySem.W.ki_setBack ho ⋯ (by rw[d8,<-hl];show f) ⋯ (by rw[hk];show#[_,l,q])
def pj(lo hi:Option Int)(n:Nat):(RM lo hi bD n).1=((HT.JS n 0 lo:Nat):Int)/\(RM lo hi bD n).2.1=((HT.JS n n hi:Nat):Int)/\(RM lo hi bD n).2.2=1:=by
 show#[?_,?_,rfl]
 .cases lo with
  |none=>simp[RM,HT.JS]
  |some i =>
   simp only[RM,HT.JS,Ì,show(1:Int)>0 by decide,if_true];by_cases h:i<0
   .simp only[h,if_true]<;>lia
   .simp only[h,if_false]<;>lia
 .cases hi with
  |none=>simp[RM,HT.JS]
  |some i =>
   simp only[RM,HT.JS,Ì,show(1:Int)>0 by decide,if_true];by_cases h:i<0
   .simp only[h,if_true]<;>lia
   .simp only[h,if_false]<;>lia
def nG(a:List cK)(lo hi:Option Int):slicePick a.toArray lo hi bD=((a.drop (HT.JS a.length 0 lo)).take (HT.JS a.length a.length hi - HT.JS a.length 0 lo)).toArray:=by
 have(b,c,d):=pj lo hi a.toArray.size;unfold slicePick;rw[b,c,d];simp only[sliceRange_one,pick_run,d8]<;>rfl
abbrev Hc(K:PySem.W.Frag):V->Option Int->Option Int->Hp->VK->Prop:=λx lo hi H Q=>∃a xs,x=.ref a/\Kh K H a xs/\∀p,H p=bD->Q (.ref p) (upd H p (.lst (qE xs lo hi)))
def Bl:NO X (Hc X.K):=by
 intro d s σ H x v k l lo hi m Q I g hs pl i h;have(a,xs,rfl,j,q):=h;cases g;have(n,r,f,hz):=I.list j;have c:=r.length;show#["list",_,Ė.lookup,f.isList.typeIs,?_];show wpAny_getItem_list_slice f.isList hs pl i .none (by simp) ?_ (by rw[d8]<;>lia);rw[nG,<-c];show#[.ref (~~~s),_,I.laid (t':=s.toks) (o:=.lst (qE xs lo hi)) (λb p q=>cb _ q) (ez _) ?_,rfl,q _ (I.JE.fresh (ez _))];show#[va (kD xs lo hi) hz,_,0,(r.drop (HT.JS xs.length 0 lo)).take (HT.JS xs.length xs.length hi - HT.JS xs.length 0 lo),d7 _ rfl]
def pk:LC X (Pc .NotIn) (λx y H Q=>∃i j,x=.str i/\y=.str j/\Q (.bl (!(!(td j i 0 j.length 1).isEmpty))) H):=by
 intro a s σ H x y v u Q I b c h;have(i,j,rfl,rfl,q):=h;have(t,rfl):=b;have(t',rfl):=c;show notIn_str #[.bl _,H,I,rfl,q]
def fH:iG X (.builtin "len") (λxs H Q=>∃p ys,xs=[.ref p]/\(Kh X.K H p ys\/Ki X.K H p ys)/\Q (.int ys.length) H):=by
 intro c s σ H xs us Q I r h;have(p,ys,rfl,hq,q):=h;have(u,rfl,d):=vals1 r;cases d;have g:=gz;rcases hq with hq|hq
 .have(f,b,pl,hz):=I.list hq;have a:=b.length;show Calls.call_len_list pl.isList (by simp only[d8]<;>lia) #[.int ys.length,H,I.tok _,#[s.toks+1,by rw[d8,a]],q]
 .have(f,b,pl,hz):=I.tuple hq;have a:=b.length;show Į pl (by simp only[d8]<;>lia) #[.int ys.length,H,I.tok _,#[s.toks+1,by rw[d8,a]],q]
def pq:iG X (.builtin "len") (λxs H Q=>∃z,xs=[.str z]/\z.length<=b6/\Q (.int z.length) H):=by
 intro a s σ H xs us Q I r h;have(z,rfl,hz,q):=h;have(u,rfl,t,rfl):=vals1 r;have b:=gz;show len_str ⋯ #[.int z.length,H,I.tok _,#[_,rfl],q]
def jk:iG X (.type "list") (λxs H Q=>∃p ys,xs=[.ref p]/\(Kh X.K H p ys\/Ki X.K H p ys)/\∀l,H l=bD->Q (.ref l) (upd H l (.lst ys))):=by
 intro f s σ H xs us Q I r h;have(p,ys,rfl,hq,q):=h;have(u,rfl,v):=vals1 r;cases v;have g:∀(a:List cK),Vals ys a->ys.length<=b6->∀(h':K2) (c:Nat),(∀b o',s.heap.get? b=a5 o'->h'.get? b=a5 o') ->
   h'.get? (~~~s)=a5 {cls:=.type "list",dict:=bD,data:=.seq a.toArray c,slots:=#v[]}->EP X f σ Q (.ref (~~~s)) {s with heap:=h' }:=λa d hz h' c i e =>
  #[.ref (~~~s),_,I.laid (t':=s.toks) i (ez _) (show bO X.prog X.w _ h' _ (.lst ys) from#[hz,a,c,d,e]),rfl,q _ (I.JE.fresh (ez _))]
 rcases hq with hq|hq
 .have(a,d,pl,hz):=I.list hq;have j:=d.length;have(o,ho,k,n,m):=pl.isList;show call_list_seq p (.inl rfl) ho k m (λh' c i e=>g a d hz h' c i e) (by simp only[d8]<;>lia)
 .have(a,d,pl,hz):=I.tuple hq;have j:=d.length;have(o,ho,k,n,m):=pl;show call_list_seq p (.inr rfl) ho k m (λh' c i e=>g a d hz h' c i e) (by simp only[d8]<;>lia)
def iH:iG X (.type "tuple") (λxs H Q=>∃p ys,xs=[.ref p]/\((Kh X.K H p ys/\∀l,H l=bD->Q (.ref l) (upd H l (.tup ys)))\/(Ki X.K H p ys/\Q (.ref p) H))):=by
 intro a s σ H xs us Q I r h;have(p,ys,rfl,h):=h;have(u,rfl,j):=vals1 r;cases j;rcases h with⟨c,q⟩|⟨c,q⟩
 .have(d,f,pl,hz):=I.list c;have g:=f.length;show call_tuple_list pl.isList (λh' k=>?_) (by simp only[d8]<;>lia);have i:Inv X a σ H {s with heap:=h' }:=I.kept (t':=s.toks) k;have m:Inv X a σ (upd H h'.objs.size (.tup ys)) {s with heap:=h'.push {cls:=.type "tuple",data:=.seq d.toArray}} :=
   i.laid (t':=s.toks) (λb o e=>cb _ e) (ez _) (show bO X.prog X.w _ _ _ (.tup ys) from#[hz,d,f,XY _ _])
  show#[.ref h'.objs.size,_,m,rfl,q _ (i.JE.fresh (ez _))]
 .have(d,f,pl,hz):=I.tuple c;show call_tuple_same pl #[.ref p,H,I,rfl,q]
abbrev Sb(K:PySem.W.Frag)(T:String)(x:V)(H:Hp):Prop:=match x with
 |.str _=>T="str"
 |.int _=>T="int"
 |.ref p=>(T="list"/\∃xs,Kh K H p xs)\/(T="tuple"/\∃o,K.lookup p=a5 o/\o.cls=.type "tuple"/\o.dict=bD) \/
   (T="dict"/\((∃kvs,H p=a5 (.dK kvs))\/∃kvs,H p=a5 (.dT kvs)))\/(T="set"/\∃S n,H p=a5 (.set S n))
 |_=>False
def pv(I:Inv X f σ H s)(r:RelV x v)(ty:Sb X.K T x H):
  s.TypeIs v T/\∀a,v=.ref a->∃g,s.heap.get? a=a5 g/\g.dict=bD:=by
 cases x with
 |str z =>
  have(t,rfl):=r;cases(show T="str" from ty);show#[S4 s z t,λ_ e=>nomatch e]
 |int i =>
  have(t,rfl):=r;cases(show T="int" from ty);show#[typeIs_int s i t,λ_ e=>nomatch e]
 |ref p =>
  cases r;rcases ty with⟨rfl,xs,h⟩|⟨rfl,o,hk,j,b⟩|⟨rfl,hk⟩|⟨rfl,S,n,hk⟩
  .have(k,_,pl,_):=I.list h;show#[pl.isList.typeIs,λa e=>?_];cases e;have(o,n,e,c,b,_):=pl;show#[o,e,b]
  .show#[#[o,I.Li p o hk,j],λa e=>?_];cases e;show#[o,I.Li _ o hk,b]
  .have z:∃o,s.heap.get? p=a5 o/\o.ExactDict:=by
    rcases hk with⟨kvs,hk⟩|⟨kvs,hk⟩
    .have(_,_,_,_,o,_,_,e,ex,_):=I.JE p _ hk;show#[o,e,ex]
    .have(_,_,_,_,o,_,_,e,ex,_):=I.JE p _ hk;show#[o,e,ex]
   have(o,e,ex):=z;show#[#[o,e,ex.1],λa d=>?_];cases d;show#[o,e,ex.2.1]
  .have(o,_,_,_,e,ex,_):=I.JE p _ hk;show#[#[o,e,ex.1],λa d=>?_];cases d;show#[o,e,ex.2.1]
 |_=>show wk ty
abbrev Jb(K:PySem.W.Frag)(T:String)(r:V->List V->Hp->VK->Prop)(to:TE):TE:=λσ H Q=>to σ H λx a=>Sb K T x a/\r x [] a Q
abbrev Wl(K:PySem.W.Frag)(T:String)(r:V->List V->Hp->VK->Prop)(to:TE)(t:TA):TE:=λσ H Q=>to σ H λx a=>Sb K T x a/\t σ a λxs b=>r x xs b Q
variable{o e:lx}{es:List lx}{to:TE}{t:TA}{name:Str}{apos JC:Pos}{T id:String}{r:V->List V->Hp->VK->Prop}
def Ep(c:PlainAttrs T)(slot:Ĩ T name id)(d:Î (.builtin id)=pure (.type "method_descriptor"))(f:P2 X id r)(ho:PE X o to)
  (g:Pn o name X.env (tj o X.env)=tj o X.env:=by rfl) (i:(apos.endLine==JC.line)=a8:=by rfl):PE X (.Call (.Attribute o name apos) [] [] JC) (Jb X.K T r to):=by
 intro a s σ H Q I h;show Ê g i (JJ (ho a s σ H _ I h) λv s1 j=>?_);have(x,k,b,r1,ty,l):=j;have(m,n):=pv b r1 ty;show#[T,id,c,slot,d,m,n,Ln rfl (PySem.evalArgs_none (f a s1 σ k x [] v [] Q b r1 .nil l))]
def uP(d:PlainAttrs T)(slot:Ĩ T name id)(f:Î (.builtin id)=pure (.type "method_descriptor"))(g:P2 X id r)(ho:PE X o to)(i:PA X (e::es) t)
  (j:Pn o name X.env (tj o X.env)=tj o X.env:=by rfl)
  (k:((uv JC (gj (e::es) X.env)).all (λx=>!x.1)&&(Oc JC (Es [] X.env)).all (λx=>x.1.isSome)
   && b7 ((e::es).length+([]:List O1).length+(if ([]:List O1).isEmpty then 0 else 1)<30))=a8:=by rfl)
  (l:(apos.endLine==JC.line)=a8:=by rfl) (hs:gj (e::es) X.env=(bL,tj e X.env)::gj es X.env:=by rfl) (m:(uv JC (gj es X.env)).any (·.1)=bL:=by rfl) :
  PE X (.Call (.Attribute o name apos) (e::es) [] JC) (Wl X.K T r to t):=by
 intro a s σ H Q I h;show Í j k l rfl (JJ (ho a s σ H _ I h) λv s1 n=>?_);have(x,p,b,r1,ty,q):=n;have(u,w):=pv b r1 ty;show#[T,id,d,slot,f,u,w,?_];have c:=i JC a s1 σ p _ b q;rw[hs]at c ⊢;show Ln (by change(bL||(uv JC (gj es X.env)).any (·.1))=bL;rw[m]<;>rfl) (MA ?_);show JJ c λus s2 ⟨vs,y,z,r2,A⟩=>g a s2 σ y x vs v us Q z r1 r2 A
end
abbrev T7(X:Cx)(id:String)(r:V->List V->Hp->VK->Prop):Prop :=
 ∀(a:List (df×Obj)) (s:dt) (σ:St) (H:Hp) (x:V) (xs:List V) (v:cK) (us:List cK) (Q:VK),Inv X a σ H s->RelV x v->Vals xs us->r x xs H Q ->
  ‹X› (PB (.builtin id) (v::us)) (EP X a σ Q) X.xe s
theorem Vals.one:∀{x:V}{us:List cK},Vals [x] us->∃u,us=[u]/\RelV x u
 |_,_,.cons r .nil=>#[_,rfl,r]
theorem Vals.zero:∀{us:List cK},Vals [] us->us=[]
 |_,.nil=>rfl
def Vals.dropLast(h:Vals xs us):Vals xs.dropLast us.dropLast:=by
 induction h with
 |nil=>show .nil
 |cons r t a =>
  cases t with
  |nil=>show .nil
  |cons q t'=>show .cons r a
def Vals.reverse(h:Vals xs us):Vals xs.reverse us.reverse:=by
 induction h with
 |nil=>show .nil
 |cons r t a=>rw[Sf,Sf];show Vals.append a (.cons r .nil)
def sI(l:List α):l.eraseIdx (l.length - 1)=l.dropLast:=by
 induction l with
 |nil=>rfl
 |cons a r c =>
  cases r with
  |nil=>rfl
  |cons b r =>
   have e:(a::b::r).length - 1=((b::r).length - 1)+1:=by
    have d:(a::b::r).length=r.length+2:=rfl;have f:(b::r).length=r.length+1:=rfl;lia
   rw[e,List.eraseIdx_cons_succ,c]
   all_goals rfl
section
def Inv.jU{b its':List cK}(I:Inv X a σ H s)(c:H l=a5 (.lst xs))
  (e:s.heap.get? l=a5 {cls:=.type "list",data:=.seq b.toArray n}) (d:f b.toArray=its'.toArray) (g:Vals ys its') (hz:ys.length<=b6) :
  Inv X a σ (upd H l (.lst ys)) {s with heap:=s.heap.update l (ro f),toks:=t' }:=by
 have q:=PySem.IsL.update e f;rw[d]at q;show I.write (x:=l) (e:=l) (by rw[c];show trivial) (.inl rfl) (λj u h i=>(N7 s.heap (ro f) (nT h)).trans i) ⟨_,q⟩ ?_;show#[hz,its',_,g,q]
def Inv.Jc(I:Inv X a σ H s)(c:Vals ys b)(hz:ys.length<=b6):
  Inv X a σ (upd H (~~~s) (.lst ys)) {s with heap:=s.heap.push {cls:=.type "list",data:=.seq b.toArray},toks:=t' } :=
 I.laid (λ_ _ q=>cb _ q) (ez _) ⟨hz,b,0,c,d7 _ rfl⟩
def Inv.fresh(I:Inv X a σ H s):H (~~~s)=bD:=I.JE.fresh (ez _)
def Inv.Er(I:Inv X b σ H s)(c:H l=a5 (.lst xs)):xs.length<=b6/\∃(a:List cK) (n:Nat),Vals xs a/\xs.length=a.length/\s.heap.get? l=a5 {cls:=.type "list",data:=.seq a.toArray n}:=by
 have(z,a,n,r,e):=I.JE l _ c;show#[z,a,n,r,r.length,e]
def ye(h:n<=b6):H4 n=bL:=by
 unfold H4;show Ŗ ⋯
end
section
abbrev Bm:V->List V->Hp->VK->Prop:=λx vs H Q=>∃l xs y,x=.ref l/\vs=[y]/\H l=a5 (.lst xs)/\xs.length<b6/\Q .JN (upd H l (.lst (xs++[y])))
def jV:T7 X "list.append" Bm:=by
 intro a s σ H x vs v us Q I d rv h;have(l,xs,y,rfl,rfl,b,hz,q):=h;cases d;have(u,rfl,f):=rv.one;have(z,c,n,r,hl,e):=I.Er b;show Ro F.slot_list_append #[_,e,rfl] F.entry_list_append (F.args_list_append_2 _ _) (PySem.list_append l c.toArray n u (by rw[d8];lia)) #[e,?_];show#[.JN,_,I.jU (its':=c++[u]) b e (by simp) (r.append (.cons f .nil)) ?_,rfl,q];rw[hH,JY];lia
abbrev Jd:V->List V->Hp->VK->Prop:=λx vs H Q=>∃l xs y,x=.ref l/\vs=[]/\H l=a5 (.lst xs)/\xs[xs.length - 1]?=a5 y/\Q y (upd H l (.lst xs.dropLast))
def Et:T7 X "list.pop" Jd:=by
 intro b s σ H x vs v us Q I d rv h;have(l,xs,y,rfl,rfl,c,f,q):=h;cases d;have g:=rv.zero;subst g;have(z,a,n,r,hl,e):=I.Er c;have(u,i,j):=r.get f;have k:a.toArray[a.toArray.size - 1]?=a5 u:=by
  change a.toArray[a.length - 1]?=a5 u;rw[<-TB,<-hl];show i
 show Ro F.slot_list_pop #[_,e,rfl] F.entry_list_pop (F.args_list_pop_1 _) (MeetsSeq.list_pop_last l a.toArray n u k (by rw[d8];lia)) #[e,?_];show#[y,_,I.jU (its':=a.dropLast) c e ?_ r.dropLast ?_,j,q]
 .change a.toArray.eraseIdxIfInBounds (a.toArray.size - 1)=a.dropLast.toArray;rw[d8,List.eraseIdxIfInBounds_toArray,sI]
 .rw[List.length_dropLast];lia
end
section
set_option maxRecDepth 100000 in
end
section
end
end L2
namespace Wm
open PySem PySem.W PySem.Calls PyProof.Rows
def kZ:∀(ns:List Int) (vs:List cK),WellAll P h vs (ns.map ķ)->Û vs ns:=by
 intro ns;induction ns with
 |nil =>
  intro vs w;rw[MZ]at w;cases w;show .nil
 |cons n ns c =>
  intro vs w;rw[d6]at w;cases w with
  |cons a b =>
   cases a;show .cons _ _ (c _ b)
def we{l:OpenLaw}(j:l.most=a5 n)
  (g:l.row.toRowW.claim.pre args=a8) (k:WellAll P h b args) :
  ∃a vs ns,b=[il a]/\args=[WData.list (ns.map ķ)]/\h.get? a=a5 {cls:=.type "list",data:=.seq vs.toArray}/\Û vs ns/\ns.length<=n:=by
 have m:WShape.hasAll [] args [.list .int]=a8:=(pre_splitW g).1;have i:l.pre.holds [] {args:=args}=a8:=(pre_splitW g).2;have(d,r,rfl,o,p):=hasAllW_cons m;obtain rfl:=hasAllW_nil p;have(xs,rfl,s):=hasW_list o;have(ns,rfl):=items_int s;have c:ns.length<=n:=by
  unfold OpenLaw.pre at i;have e:(WTm.not (.lt (.lit (.int (n:Int))) (.len (.arg 0)))).holds [] {args:=[.list (ns.map .int)]}=a8:=by
   have e:=(holds_andW i).1;rw[j]at e;show e
  have f:=condW_of e (w_not (w_lt w_lit (w_len_list (w_arg rfl))));rw[b8]at f;show Nat.le_of_not_lt λq=>?_;have t:(n:Int)<((ns.length:Nat):Int):=by lia
  first
   |(rw[ŗ t]at f;show absurd f (by decide))
   |(simp at f;lia)
 cases k with
 |cons u v =>
  cases v;cases u with
  |list ho w=>show#[_,_,ns,rfl,rfl,ho,kZ ns _ w,c]
def wg(l:OpenLaw)(args:List WData):l.row.toRowW.claim.post args (.bool a8) args=a8 :=
 postW_of (r:=l.row.toRowW) (X:=(a8==a8))
  (show ę [] (.bool a8) .bool=a8 by first|rfl|decide|simp[ę,WShape.arms,WShape.armsAll])
  (show(WTm.eq .res (.lit (.bool a8))).value [] {args:=args,res:=a5 (.bool a8),after:=args}=a5 (.bool (a8==a8)) from w_eq_bool (w_res rfl) w_lit) rfl
def qF{l:OpenLaw}
  (s:l.most=a5 n) (t:d.params.defaults=[])
  (PB:∀(w:ux) (s₀ b:dt) (mg j:Str->Option cK) (fa:df) (o:Obj) (k i c:cK) (a:df) (vs:List cK) (ns:List Int),
   Ground q e [] u w s₀ mg j b.heap->v w b.heap ->
   b.heap.get? fa=a5 o->o.data=.func (docDef d.name d.params d.body d.scope k i c)->b.heap.CodeRec i d.name->mg d.name=a5 (.ref fa) ->
   b.heap.get? a=a5 {cls:=.type "list",data:=.seq vs.toArray}->Û vs ns->ns.length<=n->b.gens=#v[] ->
   OY (d5 l.prog w) Ug (.call (.ref fa) #[[.ref a],[]]) (λr s'=>r=.ok (.ret (.bool a8))/\OldK b.heap s'.heap/\s'.os=b.os/\Tf s'.gens) b) :
  WalkO q e u v l.row.toRowW d [] (λf vs=>PySem.call f vs):=by
 intro w s₀ b mg j G Y fa o k i c x kV ho y z m A B args p as C T Sd D H;obtain rfl:x=.none:=Dflts.none m t;obtain rfl:kV=.none:=Dflts.noKw m;have(a,vs,ns,rfl,rfl,I,g,h):=we s C D;show enter_call (PM (PB w s₀ b mg j fa o k i c a vs ns G Y ho (fd_plain y) z A I g h B) λr s' J=>?_);have(rfl,L,N,O):=J;show#[.inl #[.bool a8,.bool a8,[],rfl,λ_=>rfl,.bool a8,wg l _,λ_=>#[ĳ,λ_ Q=>(nomatch Q)]],L,N,O]
section
end
end Wm
namespace L2
open PySem PySem.Spec PyProof.Rows
theorem n_:∀{vs:List cK}{ns:List Int},Û vs ns->Vals (ns.map V.int) vs
 |_,_,.nil=>.nil
 |_,_,.cons n t h=>.cons #[t,rfl] (n_ h)
abbrev Eu(H:Hp):Prop:=∀b,H b=bD\/∃o xs,H b=a5 (.Lr o (.lst xs))
def yf{K:PySem.W.Frag}
  (y:K.In c.heap) (A:c.heap.Ns hQ mg) (f:c.heap.Ns ć B) (N:∀x:Str,x≠"__name__"->B x=vl x) (O:c.heap.NoLimit) (Q:c.gens=#v[])
  (l:c.heap.get? a=a5 {cls:=.type "list",data:=.seq vs.toArray}) (hi:Û vs ns) (hl:ns.length<=b6) (T:cF k Ug)
  (F:∀base:K2,K.In base->base.Ns hQ mg->eO P w K mg base CX k fa Y [x] sp) (QM:∀(s:dt) (u:cK),Ya s Y #[[u],[]] [(x,u)])
  (Kw:∀H:Hp,Eu H->Kh K H a (ns.map V.int)->sp [.ref a] H (λv _=>v=.bl a8) λ_ _ _=>False)
  (T_:∀H e s',CX [] H c (λ_ _ _=>False) e s'->False) :
  OY (d5 P w) Ug (.call (.ref fa) #[[.ref a],[]]) (λr s'=>r=.ok (.ret (.bool a8))/\OldK c.heap s'.heap/\s'.os=c.os/\Tf s'.gens) c:=by
 have rv:=n_ hi;have Ua:=hi.length;have g:∀H:Hp,Eu H->Kh K H a (ns.map V.int)->KH P w H c.heap->(∀b,H b≠bD->b=a)->(H a≠bD->K.lookup a=bD) ->
   OY (d5 P w) Ug (.call (.ref fa) #[[.ref a],[]]) (λr s'=>r=.ok (.ret (.bool a8))/\OldK c.heap s'.heap/\s'.os=c.os/\Tf s'.gens) c:=by
  intro H C hS D G hK;have lu:∀{b:df} {o:Obj},c.heap.get? b=a5 o->H b=bD->(oQ c.heap H).get? b=a5 o:=λe n=>xN e n;have N6:∀{b:df} {o:Obj} {es:Array DictEntry} {ep:Nat},c.heap.get? b=a5 o->o.data=.dict es ep->H b=bD:=λ{b o es ep} e d=>by
   cases q:H b with
   |none=>rfl
   |some u =>
    have t:b=a:=G b (by rw[q];simp);subst t;rw[l]at e;cases e;have d':Data.seq vs.toArray _=Data.dict es ep:=d;cases d'
  have p:∀{b:df} {m:Str->Option cK},c.heap.Ns b m->(oQ c.heap H).Ns b m:=λ{b m} ⟨o,es,ep,e,d,r⟩=>#[o,es,ep,lu e (N6 e d),d,r]
  have I:K.In (oQ c.heap H):=λb o e=>lu (y b o e) (by
   cases q:H b with
   |none=>rfl
   |some u =>
    have t:b=a:=G b (by rw[q];simp);subst t;rw[hK (by rw[q];simp)]at e;cases e)
  have hM:Mod K mg (oQ c.heap H):=#[I,p A,#[B,p f,N],let ⟨mc,h1,h2⟩:=O;⟨mc,p h1,h2⟩]
  have e0:oY P w K mg (oQ c.heap H) Ug [] c H:=#[rfl,hM,λb o e=>A3 e,VR (vZ _ _),trivial,λb f=>absurd (show b∈([]:List df) from f) (by simp),D,.of_eq Q]
  show PM ((F _ I (p A)).run Ug [] c H #[[.ref a],[]] [.ref a] [.ref a] _ _ T e0 (QM c (.ref a)) (.cons rfl .nil) (Kw H C hS)) λr s' h=>?_;cases r with
  |error e=>show(T_ H e s' h).elim
  |ok fl =>
   cases fl with
   |ret u =>
    have(v,H',os,i,J,Ub,r',q):=h;have q':v=.bl a8:=q;subst q';obtain rfl:u=QK a8:=r';show#[rfl,OldK.of_keep λb o e=>?_,os,i];cases q:H b with
    |none=>show J.keep b o e q (by intro z;show absurd (show b∈([]:List df) from z) (by simp)) (by simp)
    |some u =>
     rcases C b with z|⟨ob,xs,z⟩
     .rw[q]at z;cases z
     .have z2:=J.KI b ob _ z;have(L,_):=D b _ z;have(e2,_):=Ub b _ z2;rw[e]at L;cases L;show e2
   |_=>show wk h
 cases hk:K.lookup a with
 |some o =>
  have e:=y a o hk;rw[l]at e;cases e;show g (λ_=>bD) (λ_=>.inl rfl) (.inr #[_,vs.toArray,_,hk,rfl,rfl,rfl,by rw[d8,Ua];show hl,by simpa using rv]) (λb u z=>by have j:(bD:Option HO)=a5 u:=z;cases j) (λb z=>absurd rfl z) λz=>absurd rfl z
 |none =>
  show g (λb=>if b=a then a5 (.Lr {cls:=.type "list",data:=.seq vs.toArray} (.lst (ns.map V.int))) else bD) (λb=>?_) (.inl (.inr #[{cls:=.type "list",data:=.seq vs.toArray},Ŕ rfl])) (λb u z=>?_) (λb z=>?_) λ_=>hk
  .by_cases f:b=a
   .show .inr #[_,_,Ŕ f]
   .show .inl (ŕ f)
  .by_cases f:b=a
   .have j:=(Ŕ f).symm.trans z;cases j;subst f;show#[l,by rw[b8];show hl,vs,_,rv,l]
   .have j:=(ŕ f).symm.trans z;cases j
  .by_cases f:b=a
   .show f
   .show absurd (ŕ f) z
def Bn{l:PySem.W.OpenLaw}{K:U0->PySem.W.Frag}{CX:ux->N5}{sp:ux->Sp}
  (r:l.most=a5 n) (t:n<=b6) (y:d.params.defaults=[]) (z:cF k Ug)
  (A:∀(w:ux) (h:K2),B w h->(K w.params).In h)
  (F:∀(w:ux) (mg:Str->Option cK) (fa:df) (h:K2),(K w.params).In h->h.Ns hQ mg->mg d.name=a5 (.ref fa) ->
   ∃j:QV,(∀(s:dt) (u:cK),Ya s j #[[u],[]] [(x,u)]) /\
    ∀base:K2,(K w.params).In base->base.Ns hQ mg->eO l.prog w (K w.params) mg base (CX w) k fa j [x] (sp w))
  (C:∀(w:ux) (H:Hp) (a:df) (ns:List Int),ns.length<=n->Eu H->Kh (K w.params) H a (ns.map V.int)->sp w [.ref a] H (λv _=>v=.bl a8) λ_ _ _=>False)
  (D:∀(w:ux) (H:Hp) (s:dt) (e:cK) (s':dt),CX w [] H s (λ_ _ _=>False) e s'->False) :
  PySem.W.WalkO q m XP B l.row.toRowW d [] (λf vs=>PySem.call f vs):=by
 show Wm.qF r y λw s₀ I mg mb fa o pm cd J a vs ns G Y ho hd JT L N i c O=>?_;have p:=A w _ Y;have(j,Q,hF):=F w mg fa _ p G.T.g L;show yf p G.T.g G.T.b G.T.builtins G.T.nolimit O N i (va c t) z hF Q (λH hO hS=>C w H a ns c hO hS) λH e s'=>D w H I e s'
abbrev hU(s:LX):Arguments:=match s with
 |.FunctionDef _ a _ _ _ _ _ _ _ _=>a
 |_=>{posonlyargs:=[],args:=[],vararg:=bD,kwonlyargs:=[],kw_defaults:=[],kwarg:=bD,defaults:=[]}
abbrev cu(s:LX):List LX:=match s with
 |.FunctionDef _ _ b _ _ _ _ _ _ _=>b
 |_=>[]
abbrev aE(s:LX):Lg:=match s with
 |.FunctionDef _ _ _ _ _ _ a _ _ _=>a
 |_=>{kind:=.function,names:=[],isGenerator:=bL,isCoroutine:=bL}
@[reducible]noncomputable def P4:N5:=λ_ _ _ _ _ _=>False
@[reducible]noncomputable def E0:XK:=λ_ _ _=>False
def Hd:Passes P4 X E0:=λ_ _ _ _ _ _ _ h=>h.elim
structure N8(K:PySem.W.Frag)(x qual:Str)(st:LX)(f:df)(fd:QV):Prop where
 ex:∃(oc:cK) (od:Option df) (kV doc pm:cK) (an:Option df) (Ko ct:cK) (NM:Array (Option cK)),
  fd=PySem.W.fnOf x qual (hU st) (cu st) (aE st) .none kV doc pm an Ko ct/\K.lookup f=a5 #[oc,od,.func fd,NM]/\PySem.W.codeIn K Ko qual=a8
 kp:PySem.W.keepIn K (.ref f)=a8
section
variable{P:tr}{w:ux}{K:PySem.W.Frag}{mg:Str->Option cK}{base:K2}
def N8.ok{st:LX}(F:N8 K x a st f d)(S:c9 N ps (aE st))(c:∀vs H Q E,sp vs H Q E->vs.length=ps.length)
  (e:∀(b:cK) (A:Ke) (outer:List Env) (s:dt) (H:Hp) (vs:List V) (Q:VK) (E:XK),cF k (A.deeper (RX a (aE st) (~~~s) f b))->sp vs H Q E ->
   ∃t,KZ (o_ P4 P w K mg base N a (aE st) f b A outer s H E).L_ (cu st) t/\t {nx:=λ_ H'=>Q .JN H',rt:=Q} (start N vs) H):eO P w K mg base P4 (k+1) f d ps sp:=by
 have(m,n,kV,g,o,p,b,ct,r,rfl,lk,i):=F.ex;show ya lk i S c λA outer s H vs Q E j l=>?_;have(t,h,q):=e b A outer s H vs Q E j l;show#[t,h.L_,q]
def Ew{st:LX}{kV b e d ct:cK}(l:K.lookup f=a5 #[h,i,.func (PySem.W.fnOf x a (hU st) (cu st) (aE st) .none kV b e g d ct),j])
  (c:PySem.W.codeIn K d a=a8) (k:PySem.W.keepIn K (.ref f)=a8):N8 K x a st f (PySem.W.fnOf x a (hU st) (cu st) (aE st) .none kV b e g d ct):=#[#[h,i,kV,b,e,g,d,ct,j,rfl,l,c],k]
end
section
end
abbrev fI(H H':Hp):Prop:=∀b o,H b=a5 o->H' b=a5 o
section
variable{κ:Type}[DecidableEq κ]
abbrev dS(kvs:List (κ×V))(k:κ):Option V:=(kvs.find? λkv=>b7 (kv.1=k)).map (·.2)
abbrev putK(kvs:List (κ×V))(k:κ)(v:V):List (κ×V) :=
 if (kvs.any λkv=>b7 (kv.1=k))=a8 then kvs.map (λkv=>if kv.1=k then(kv.1,v) else kv) else kvs++[(k,v)]
def ff{p:κ×V}{k:κ}(e:p.1=k):dS (p::r) k=a5 p.2:=by simp[dS,OQ,e]
def fg{p:κ×V}{k:κ}(e:¬p.1=k):dS (p::r) k=dS r k:=by simp[dS,OQ,e]
theorem jl(k:κ):∀kvs:List (κ×V),(kvs.any λkv=>b7 (kv.1=k))=(dS kvs k).isSome
 |[]=>rfl
 |p::r=>by
  rw[UK];by_cases e:p.1=k
  .simp only[ff e,ŗ e,Bool.true_or,Zi]
  .rw[fg e,Ŗ e,Ē];show jl k r
def kF(kvs:List (κ×V))(k:κ)(v:V):(putK kvs k v).length<=kvs.length+1:=by
 unfold putK;split
 .rw[b8];lia
 .rw[hH,i4,Ts];lia
def yg{k:κ}(v:V)(h:dS kvs k=bD):putK kvs k v=kvs++[(k,v)]:=by
 unfold putK;rw[jl,h];show ŕ (by decide)
def gp.fh(r:gp o u):o.isSome=u.isSome:=by
 cases o with
 |none=>cases u with
  |none=>rfl
  |some _=>show(show False from r).elim
 |some _=>cases u with
  |none=>show(show False from r).elim
  |some _=>rfl
def gp.getD(r:gp o u)(a:RelV d d'):RelV (o.getD d) (u.getD d'):=by
 cases o with
 |none=>cases u with
  |none=>show a
  |some _=>show(show False from r).elim
 |some _=>cases u with
  |none=>show(show False from r).elim
  |some _=>show r
def KV.val(r:KV kvs vs)(k:κ):gp (dS kvs k) (WV vs k):=by
 unfold KV at r;induction r with
 |nil=>show Tb
 |@cons p q ps a h t f =>
  have(d,g):=h;by_cases e:p.1=k
  .have c:q.1=k:=d.symm.trans e;have b:WV (q::a) k=a5 q.2:=by simp[WV,OQ,c]
   rw[ff e,b];show g
  .have c:¬q.1=k:=λz=>e (d.trans z);have b:WV (q::a) k=WV a k:=by simp[WV,OQ,c]
   rw[fg e,b];show f
def KV.any(r:KV kvs vs)(k:κ):(kvs.any λkv=>b7 (kv.1=k))=vs.any λkv=>b7 (kv.1=k):=by
 unfold KV at r;induction r with
 |nil=>rfl
 |cons h t a=>rw[UK,UK,a,h.1]
def KV.Ey(r:KV kvs vs)(k:κ)(b:RelV y u):
  KV (kvs.map λkv=>if kv.1=k then(kv.1,y) else kv) (vs.map λkv=>if kv.1=k then(kv.1,u) else kv):=by
 unfold KV at r ⊢;induction r with
 |nil=>show .nil
 |@cons p q ps f h t c =>
  rw[d6,d6];show .cons ?_ c;have(a,d):=h;by_cases e:p.1=k
  .rw[Ŕ e,Ŕ (a.symm.trans e)];show#[a,b]
  .rw[ŕ e,ŕ (λz=>e (a.trans z))];show#[a,d]
def KV.put(r:KV kvs vs)(k:κ)(a:RelV y u):KV (putK kvs k y) (stored vs k u):=by
 unfold putK stored;rw[r.any k];by_cases e:(vs.any λkv=>b7 (kv.1=k))=a8
 .rw[Ŕ e,Ŕ e];show r.Ey k a
 .rw[ŕ e,ŕ e];show Paired.snoc r #[rfl,a]
def KV.length(r:KV kvs vs):kvs.length=vs.length:=Paired.length r
end
def oa(r:RelV (kV k) u):(bc P w).is k u=a8:=by
 cases k with
 |inl i=>have(t,e):=(show ∃t,u=XW i t from r);subst e;show qA P w i t
 |inr x=>have(t,e):=(show ∃t,u=E' x t from r);subst e;show qB P w x t
theorem og:∀{ks:List Key}{us:List cK},Vals (ks.map kV) us->ItemsAre (bc P w) ks us
 |[],_,r=>by rw[MZ]at r;cases r;show .nil
 |k::ks,_,r=>by
  rw[d6]at r;cases r with
  |cons h t=>show .cons (oa h) (og t)
@[reducible]noncomputable def KT(H:Hp):List (List Key×V)->List (List Key×df×cK)->Prop:=Paired λp q=>p.1=q.1/\H q.2.1=a5 (.tup (p.1.map kV))/\RelV p.2 q.2.2
def KT.val(r:KT H kvs xs)(k:List Key):gp (dS kvs k) ((YV xs k).map (·.2)):=by
 induction r with
 |nil=>show Tb
 |@cons p q ps a h t f =>
  have(d,_,g):=h;by_cases e:p.1=k
  .have c:q.1=k:=d.symm.trans e;have b:YV (q::a) k=a5 q.2:=by simp[YV,OQ,c]
   rw[ff e,b];show g
  .have c:¬q.1=k:=λz=>e (d.trans z);have b:YV (q::a) k=YV a k:=by simp[YV,OQ,c]
   rw[fg e,b];show f
def KT.Ey(r:KT H kvs xs)(k:List Key)(c:RelV y u):
  KT H (kvs.map λkv=>if kv.1=k then(kv.1,y) else kv) (xs.map (putAt k u)):=by
 induction r with
 |nil=>show .nil
 |@cons p q ps g h t d =>
  rw[d6,d6];show .cons ?_ d;have(a,b,f):=h;unfold putAt;by_cases e:p.1=k
  .rw[Ŕ e,Ŕ (a.symm.trans e)];show#[a,b,c]
  .rw[ŕ e,ŕ (λz=>e (a.trans z))];show#[a,b,f]
def KT.put(r:KT H kvs xs)(k:List Key)(c:H b=a5 (.tup (k.map kV)))(a:RelV y u):
  KT H (putK kvs k y) (storedH xs k b u):=by
 have e:(kvs.any λkv=>b7 (kv.1=k))=(YV xs k).isSome:=by
  rw[jl,(r.val k).fh,UQ]
 unfold putK storedH;rw[e];by_cases q:(YV xs k).isSome=a8
 .rw[Ŕ q,Ŕ q];show r.Ey k a
 .rw[ŕ q,ŕ q];show Paired.snoc r #[rfl,c,a]
def KT.keeps(r:KT H kvs xs)(a:∀b ys,H b=a5 (.tup ys)->H' b=a5 (.tup ys)):KT H' kvs xs :=
 Paired.D0 r λ_ _ z=>#[z.1,a _ _ z.2.1,z.2.2]
section
def Du(b:KH P w H h)(e:Rd H a u):bO P w H h a u:=e.ok b
def lN(b:KH P w H h)(e:Rd H a (.dK kvs)):kvs.length<=b6/\(a==OX)=bL/\∃vs,KV kvs vs/\h.DictOf (bc P w) a vs :=
 show bO P w H h a (.dK kvs) from Du b e
def yh(b:KH P w H h)(e:H a=a5 (.dK kvs)):kvs.length<=b6/\(a==OX)=bL/\∃vs,KV kvs vs/\h.DictOf (bc P w) a vs:=lN b (.inl e)
def gB(b:KH P w H h)(e:H a=a5 (.tup (ks.map kV))):(Vf (bc P w)).is h ks a:=by
 have(_,c,r,o,d,f,n,g):=(show bO P w H h a (.tup (ks.map kV)) from b a _ e)
 show#[o,c.toArray,n,d,f,g,by simpa using og r]
def lO(b:KH P w H h)(e:Rd H a (.dT kvs)):kvs.length<=b6/\(a==OX)=bL /\
  ∃xs,KT H kvs xs/\h.DictOfH (Vf (bc P w)) a xs:=by
 have(z,y,xs,r,o,es,ep,d,f,g,i,j):=(show bO P w H h a (.dT kvs) from Du b e)
 show#[z,y,xs,r,o,es,ep,d,f,g,i,λx hx=>?_,j];have all:∀{l:List (List Key×V)} {m:List (List Key×df×cK)},KT H l m->∀x∈m,(Vf (bc P w)).is h x.1 x.2.1:=by
  intro l m q;induction q with
  |nil=>intro x hx;show nomatch hx
  |@cons p q ps n c t k =>
   intro x hx;rcases d4.mp hx with e|hx
   .subst e;show gB b (by rw[<-c.1];show c.2.1)
   .show k x hx
 show all r x hx
def He(b:KH P w H h)(e:H a=a5 (.dT kvs)):kvs.length<=b6/\(a==OX)=bL /\
  ∃xs,KT H kvs xs/\h.DictOfH (Vf (bc P w)) a xs:=lO b (.inl e)
end
abbrev fJ(H:Hp)(a:df)(y:V)(r:Option V):Prop :=
 (∃kvs k,Rd H a (.dK kvs)/\y=kV k/\r=dS kvs k)\/∃kvs k b,Rd H a (.dT kvs)/\y=.ref b/\H b=a5 (.tup (k.map kV))/\r=dS kvs k
abbrev wj(H:Hp)(a:df)(y v:V)(H':Hp):Prop :=
 (∃kvs k,H a=a5 (.dK kvs)/\y=kV k/\kvs.length<b6/\H'=upd H a (.dK (putK kvs k v))) \/
 ∃kvs k b,H a=a5 (.dT kvs)/\y=.ref b/\H b=a5 (.tup (k.map kV))/\kvs.length<b6/\H'=upd H a (.dT (putK kvs k v))
def fJ.k{H:Hp}{a:df}{kvs:List (Key×V)}{k:Key}(e:H a=a5 (.dK kvs)):fJ H a (kV k) (dS kvs k):=.inl #[kvs,k,.inl e,rfl,rfl]
def wj.k{H:Hp}{a:df}{kvs:List (Key×V)}{k:Key}{v:V}(e:H a=a5 (.dK kvs))(hl:kvs.length<b6):wj H a (kV k) v (upd H a (.dK (putK kvs k v))):=.inl #[kvs,k,e,rfl,hl,rfl]
section
def Inv.big(I:Inv X a σ H s):OX<(~~~s):=by
 have h:hQ<(~~~s):=(I.mod.glob.keeps I.bk).lt;show VO (by decide) h
def wm(q:A.units+1<L')(I:Inv X f σ H s)(g:fJ H a y (a5 v))(n:RelV y u)(h:∀d s',Inv X f σ H s'->RelV v d->Q d s'):
  du (d5 X.prog X.w) A (R' (.ref a) u) Q E s:=by
 rcases g with⟨kvs,k,e,i,l⟩|⟨kvs,k,b,e,i,eb,l⟩
 .subst i;have(z,r,vs,c,dd):=lN I.JE e;have(d,j,m):=gp.some_of (v:=v) (o:=WV vs k) (by rw[l];show c.val k);show wpAny_getItem_of (oa n) dd.mapOf j (h d _ (I.tok _) m)
 .subst i;cases(show u=il b from n);have(z,r,xs,c,dd):=lO I.JE e;have(d,j,m):=gp.some_of (v:=v) (o:=(YV xs k).map (·.2)) (by rw[l];show c.val k);have(p,t,x):=gi.mp j;show wpAny_getItem_heap (QB q) (gB I.JE eb) dd t ?_;rw[x];show h d _ (I.tok _) m
def Hg(m:A.units+1<L')(I:Inv X d σ H s)(g:fJ H a y o)(j:RelV y u)(h:∀s',Inv X d σ H s'->Q (.bool o.isSome) s'):
  du (d5 X.prog X.w) A (Pc .In u (.ref a)) Q E s:=by
 rcases g with⟨kvs,k,e,f,l⟩|⟨kvs,k,b,e,f,eb,l⟩
 .subst f;have(z,i,vs,c,dd):=lN I.JE e;show wpAny_in_of (oa j) i dd.mapOf ?_;rw[<-(c.val k).fh,<-l];show h _ (I.tok _)
 .subst f;cases(show u=il b from j);have(z,i,xs,c,dd):=lO I.JE e;show wpAny_in_heap (QB m) (gB I.JE eb) i dd ?_;have q:=(c.val k).fh;rw[UQ]at q;rw[<-q,<-l];show h _ (I.tok _)
def uQ(m:A.units+1<L')(I:Inv X d σ H s)(g:fJ H a y o)(j:RelV y u)(h:∀s',Inv X d σ H s'->Q (.bool (!o.isSome)) s'):
  du (d5 X.prog X.w) A (Pc .NotIn u (.ref a)) Q E s:=by
 rcases g with⟨kvs,k,e,f,l⟩|⟨kvs,k,b,e,f,eb,l⟩
 .subst f;have(z,i,vs,c,dd):=lN I.JE e;show wpAny_notIn_of (oa j) i dd.mapOf ?_;rw[<-(c.val k).fh,<-l];show h _ (I.tok _)
 .subst f;cases(show u=il b from j);have(z,i,xs,c,dd):=lO I.JE e;show wpAny_notIn_heap (QB m) (gB I.JE eb) i dd ?_;have q:=(c.val k).fh;rw[UQ]at q;rw[<-q,<-l];show h _ (I.tok _)
def uR(I:Inv X c σ H s)(f:QA (H a))(hs:LM a s.heap h')(g:∃q,h'.get? a=a5 q)(new:bO X.prog X.w (upd H a d) h' a d):
  Inv X c σ (upd H a d) {s with heap:=h',toks:=t' } :=
 I.write (x:=a) (e:=a) f (.inl rfl) (λb q h z=>(hs.2 b h).trans z) g new
def Ez(z:kvs.length<=b6)(c:(a==OX)=bL)(b:KV kvs vs)(dd:h'.DictOf (bc P w) a vs):
  bO P w H' h' a (.dK kvs):=#[z,c,vs,b,dd]
def wo(x:A.units+1<L')(I:Inv X f σ H s)(g:wj H a y v H')(p:RelV y u)(rv:RelV v r)(h:∀s',Inv X f σ H' s'->Q () s'):
  du (d5 X.prog X.w) A (Ud (.ref a) u r) Q E s:=by
 rcases g with⟨kvs,k,e,m,l,n⟩|⟨kvs,k,b,e,m,eb,l,n⟩
 .subst m n;have(z,o,vs,d,dd):=yh I.JE e;have hz:vs.length<=b6:=by rw[<-d.length];show z
  have hl:(putK kvs k v).length<=b6:=by have:=kF kvs k v;lia
  show wpAny_setItem_pairs (hsz:=hz) (oa p) dd λh' i hs=>h _ ?_;have B:∃q,h'.get? a=a5 q:=let ⟨q,_,_,j,_⟩:=i;⟨q,j⟩;show uR I (by rw[e];show Tb) hs B (Ez hl o (d.put k rv) i)
 .subst m n;cases(show u=il b from p);have(z,o,xs,d,dd):=He I.JE e;have hz:xs.length<=b6:=by rw[<-Paired.length d];show z
  have hl:(putK kvs k v).length<=b6:=by have:=kF kvs k v;lia
  show wpAny_setItem_heap (hsz:=hz) (QB x) (gB I.JE eb) dd λh' i hs=>h _ ?_;have(q,es,ep,j,C,D,G,_,J):=i;show uR I (by rw[e];show Tb) hs #[q,j] #[hl,o,_,(d.put k eb rv).keeps λc ys t=>?_,q,es,ep,j,C,D,G,J];rw[aj (GL t e (λz=>nomatch z))];show t
end
section
end
abbrev EA(i:lx):Prop:=∀a b,XU i bL a b=operate [a,b] (R' a b)
def Bo{T id:String}
  (hl:SN (.type T) "__getitem__"=pure (a5 (.builtin id))) (hs:EA a)
  (h:du (d5 prog w) A (tj b env) (λo f=>du (d5 prog w) A (tj a env) (λi d=>d.TypeIs o T/\du (d5 prog w) A (R' o i) Q E d) E f) E s) :
  du (d5 prog w) A (tj (.Subscript b a pos) env) Q E s:=by
 show Ď (mu h (λo f k=>mu k (λi d e=>?_) λ_ _ x=>x) λ_ _ x=>x);have(g,e):=e;unfold V5;show bR ?_;rw[getitemInPython_of_ne g.not_modules];show bR (Qn g hl ?_);have c:du (d5 prog w) A (XU a bL o i) (λr j=>du (d5 prog w) A (letTemporaryGo b o r >>= λ_=>pure r) Q E j) E d:=by
  rw[hs o i];show wpAny_operating (mu e (λr j l=>bR (wpAny_letTemporaryGo (c6 l))) λ_ _ x=>x)
 first
  |show c6 (bR c)
  |show bR (c6 (bR c))
  |show bR c
def qG(I:Inv X c σ H s)(g:fJ H a y o):s.TypeIs (.ref a) "dict":=by
 rcases g with⟨kvs,k,e,_,_⟩|⟨kvs,k,b,e,_,_,_⟩
 .have(_,_,vs,_,dd):=lN I.JE e;show dd.typeIs
 .have(_,_,xs,_,dd):=lO I.JE e;show dd.typeIs
abbrev Hh(c ty:TE):TE:=λσ H Q=>c σ H λx d=>ty σ d λy b=>∃a v,x=.ref a/\fJ b a y (a5 v)/\Q v b
abbrev Je(ty c:TE):TE:=λσ H Q=>ty σ H λy d=>c σ d λx b=>∃a o,x=.ref a/\fJ b a y o/\Q (.bl o.isSome) b
abbrev Bp(ty c:TE):TE:=λσ H Q=>ty σ H λy d=>c σ d λx b=>∃a o,x=.ref a/\fJ b a y o/\Q (.bl (!o.isSome)) b
section
def Bq(d:X.A.units+1<L')(ho:PE X o e)(hi:PE X i ty)(hs:EA i):PE X (.Subscript o i pos) (Hh e ty):=by
 intro b s σ H Q I h;show Bo PySem.F.slot_dict_getitem.lookup hs (JJ (ho b s σ H _ I h) λu s1 ⟨x,f,j,k,l⟩=>JJ (hi b s1 σ f _ j l) λw s2 m=>?_);have(y,n,c,p,a,v,ex,g,q):=m;subst ex;obtain rfl:u=il a:=k;show#[qG c g,wm d c g p λz s3 r t=>#[v,n,r,t,q]]
def EB(c:X.A.units+1<L')(hi:PE X i ty)(ho:PE X o d):PC X .In i o (Je ty d):=by
 intro b s σ H Q I h;show JJ (hi b s σ H _ I h) λv s1 ⟨y,e,f,j,k⟩=>JJ (ho b s1 σ e _ f k) λu s2 l=>?_;have(x,m,n,p,a,q,ex,g,r):=l;subst ex;obtain rfl:u=il a:=p;show Hg c n g j λs3 t=>#[.bl q.isSome,m,t,rfl,r]
def wq(c:X.A.units+1<L')(hi:PE X i ty)(ho:PE X o d):PC X .NotIn i o (Bp ty d):=by
 intro b s σ H Q I h;show JJ (hi b s σ H _ I h) λv s1 ⟨y,e,f,j,k⟩=>JJ (ho b s1 σ e _ f k) λu s2 l=>?_;have(x,m,n,p,a,q,ex,g,r):=l;subst ex;obtain rfl:u=il a:=p;show uQ c n g j λs3 t=>#[.bl (!q.isSome),m,t,rfl,r]
end
def yi(h:K2)(a:OX<h.objs.size):bO P w H (h.push {cls:=.type "dict",data:=.dict #v[]}) h.objs.size (.dK []) :=
 #[ki _,Ř.mpr (nT (ix a)),[],.nil,Ō h]
abbrev EC:TE:=λ_ H Q=>∀p,H p=bD->Q (.ref p) (upd H p (.dK []))
section
def qH:PE X (.Dict [] [] pos) EC:=λb s σ H Q I h =>
 wpAny_Dict_empty #[.ref (~~~s),_,I.laid (a:=(~~~s)) (o:=.dK []) (t':=s.toks) (λ_ _ q=>cb _ q) (ez _) (yi s.heap I.big),rfl,h _ (I.JE.fresh (ez _))]
end
structure M2(X:Cx)(o:lx)(m:Str)(apos:Pos)(e f:lx)(JC:Pos):Prop where
 base:Pn o m X.env (tj o X.env)=tj o X.env
 N9:((uv JC (gj [e,f] X.env)).all (λx=>!x.1)&&(Oc JC (Es [] X.env)).all (λx=>x.1.isSome)
  && b7 (([e,f]:List lx).length+([]:List O1).length+(if ([]:List O1).isEmpty then 0 else 1)<30))=a8
 line:(apos.endLine==JC.line)=a8
 trees:uv JC (gj [e,f] X.env)=[(bL,tj e X.env),(bL,tj f X.env)]
abbrev Wo(H:Hp)(a:df):Prop:=(∃kvs,Rd H a (.dK kvs))\/∃kvs,Rd H a (.dT kvs)
def ED(I:Inv X i σ H s)(d:Wo H a):
  s.TypeIs (.ref a) "dict"/\(∀b,il a=.ref b->∃c,s.heap.get? b=a5 c/\c.dict=bD)/\(a==OX)=bL:=by
 rcases d with⟨kvs,e⟩|⟨kvs,e⟩
 .have(_,f,vs,_,dd):=lN I.JE e;show#[dd.typeIs,λb q=>?_,f];cases q;have(c,_,_,g,h,_):=dd;show#[c,g,h.2.1]
 .have(_,f,xs,_,dd):=lO I.JE e;show#[dd.typeIs,λb q=>?_,f];cases q;have(c,_,_,g,h,_):=dd;show#[c,g,h.2.1]
section
def EF(q:A.units+1<L')(I:Inv X f σ H s)(g:fJ H a y o)(m:RelV y u)(n:RelV d r)(h:∀p s',Inv X f σ H s'->RelV (o.getD d) p->Q p s'):
  du (d5 X.prog X.w) A (PB (.builtin "dict.get") [.ref a,u,r]) Q E s:=by
 rcases g with⟨kvs,k,e,i,l⟩|⟨kvs,k,b,e,i,eb,l⟩
 .subst i;have(z,j,vs,c,dd):=lN I.JE e;show Ð PySem.F.slot_dict_get dd.typeIs PySem.F.entry_dict_get (PySem.F.args_dict_get_3 _ _ _) (meets_dict_get_default (bc X.prog X.w) a (oa m) j r) #[_,dd.mapOf,h _ _ (I.tok _) ?_];rw[l];show(c.val k).getD n
 .subst i;cases(show u=il b from m);have(z,j,xs,c,dd):=lO I.JE e;show Ð PySem.F.slot_dict_get dd.typeIs PySem.F.entry_dict_get (PySem.F.args_dict_get_3 _ _ _) (meetsH_dict_get_default (Vf (bc X.prog X.w)) a b j r) #[QB q,k,xs,gB I.JE eb,dd,h _ _ (I.tok _) ?_];rw[l];show(c.val k).getD n
end
abbrev EG(d ty e:TE):TE:=λσ H Q=>d σ H λx b=>∃a,x=.ref a/\Wo b a/\ty σ b λy f=>e σ f λz c=>∃o,fJ c a y o/\Q (o.getD z) c
section
def yj(i:X.A.units+1<L')(ho:PE X o j)(k:PE X e ty)(l:PE X f n)(m:M2 X o "get" apos e f p):PE X (.Call (.Attribute o "get" apos) [e,f] [] p) (EG j ty n):=by
 intro b s σ H Q I h;show wpAny_Call_method m.base m.N9 m.line PySem.F.plainAttrs_dict PySem.F.slot_dict_get PySem.F.type_dict_get (JJ (ho b s σ H _ I h) λu s1 q=>?_);have(x,r,c,t,a,ex,d,v):=q;subst ex;obtain rfl:u=il a:=t;have(w,B,_):=ED c d;show#[w,B,?_];rw[m.trees];show Ln rfl (MA (NY (JJ (k b s1 σ r _ c v) λiv s2 ⟨y,C,D,G,J⟩ =>
  NY (JJ (l b s2 σ C _ D J) λfv s3 ⟨z,L,N,O,ov,g,T⟩=>Qc ?_))))
 show EF i N g G O λw' s4 Y MK=>#[_,L,Y,MK,T]
end
section
end
section
end
end L2
namespace J2
open PySem PySem.Builtin.Str PySem.StrLaws
abbrev low(c:Nat):Bool:=b7 (97<=c)&&b7 (c<=122)
abbrev cU(l:List Nat):Bool:=b7 (1<=l.length)&&b7 (l.length<=8)&&l.all low
def dw(l:List Nat):cU l=a8↔1<=l.length/\l.length<=8/\∀c∈l,97<=c/\c<=122:=by
 simp[cU,low,i8,and_assoc]
def jm(h:cU l=a8):47∉l:=λm=>by
 have:=((dw l).mp h).2.2 47 m;lia
def hV{x y:Str}(h:x.cps.toList=y.cps.toList):x=y:=by
 cases x;cases y;congr
 show VS.mp h
def sJ(x:Str)(b:x.cps.toList=(dV 26).map (97+·))(c:Nat):(!(td x #[#v[c]] 0 x.length 1).isEmpty)=low c:=by
 rw[found_one,b];simp only[low,ku,p7];by_cases h:97<=c/\c<=122
 .have:∃a,a<26/\97+a=c:=#[c - 97,⋯,⋯]
  simp[this,h.1,h.2]
 .have:¬∃a,a<26/\97+a=c:=λ⟨a,d,e⟩=>h #[⋯,⋯];simp[this];lia
def jW(h:c∉x.cps.toList):lg x #[#v[c]]=(x,sx,sx):=by
 have e:=found_one x c;rw[Ŗ h]at e;unfold lg;cases q:td x ⟨#v[c]⟩ 0 x.length 1 with
 |nil=>rfl
 |cons i r=>rw[q]at e;simp at e
def pw(x:Str)(c i:Nat):At x #[#v[c]] x.length i↔x.cps.toList[i]?=a5 c:=subAt_one x c i
def yk(h:x.cps.toList=a++c::b)(j:c∉a)(d:Nat)(hl:1<=d):∃r,td x #[#v[c]] 0 x.length d=a.length::r:=by
 have f:x.cps.toList[a.length]?=a5 c:=by rw[h];simp
 rcases occ_head x ⟨#v[c]⟩ d hl with⟨_,k⟩|⟨i,r,e,hi,l⟩
 .show absurd ((pw x c a.length).mpr f) (k _)
 .have g:=(pw x c i).mp hi;have:i=a.length:=by
   rcases Nat.lt_trichotomy i a.length with z|z|z
   .exfalso
    rw[h,mh z]at g;show j (ri g)
   .show z
   .show absurd ((pw x c a.length).mpr f) (l _ z)
  subst this;show#[r,e]
def uS(h:x.cps.toList=a++c::b)(d:c∉a):lg x #[#v[c]]=(⟨a.toArray⟩,⟨#v[c]⟩,⟨b.toArray⟩):=by
 have(r,e):=yk h d 1 (ez _);unfold lg;rw[e];have f:(⟨#v[c]⟩:Str).length=1:=rfl;have g:x.length=a.length+1+b.length:=by
  have:=Ś vr h;simp[Tn]at this ⊢;lia
 show Vj ?_ (Vj rfl ?_)
 .apply hV;rw[À,h];simp
 .apply hV;change(strSub x (a.length+(⟨#v[c]⟩:Str).length) x.length).cps.toList=_;rw[À,h,f,g];simp
def sM(h:c∉x.cps.toList):PZ x #[#v[c]]=[x]:=by
 unfold PZ;split
 .rfl
 .rw[Ŕ];rcases occ_head x ⟨#v[c]⟩ (x.length+1) ⋯ with⟨e,_⟩|⟨i,r,e,hi,_⟩
  .rw[e];rfl
  .show absurd (ri ((pw x c i).mp hi)) h
def qI(c:Nat)(h:c<256)(x:Str):¬(PySem.Builtin.Str.strKind x<PySem.Builtin.Str.strKind #[#v[c]]):=by
 have e:PySem.Builtin.Str.strKind ⟨#v[c]⟩=1:=by simp[PySem.Builtin.Str.strKind,h]
 rw[e];unfold PySem.Builtin.Str.strKind;split
 .lia
 .split<;>lia
def yl(h:x.cps.toList=a++c::b)(d:c∉a)(f:c<256):∃r,PZ x #[#v[c]]=⟨a.toArray⟩::r:=by
 have(r,e):=yk h d (x.length+1) ⋯;have g:(⟨#v[c]⟩:Str).length=1:=rfl;have k:x.length=a.length+1+b.length:=by
  have:=Ś vr h;simp[Tn]at this ⊢;lia
 unfold PZ;rw[ŕ (by
  have i:¬(x.length<(⟨#v[c]⟩:Str).length):=by rw[g];lia
  have j:=qI c f x;simp[i,j]),ŕ (by rw[e];simp),partsBetween_eq,e]
 show#[_,Ś (·::_) ?_];apply hV;rw[À,h];simp
abbrev eX(i:Int):Str:=Oe (Ľ i)
abbrev Dv:Str:=#[#v[47]]
def qJ(h:c∈l):∃a b,l=a++c::b/\c∉a:=by
 induction l with
 |nil=>cases h
 |cons x l f =>
  by_cases d:x=c
  .subst d;show#[[],l,rfl,by simp]
  .have g:c∈l:=by
    rcases d4.mp h with e|e
    .show absurd e.symm d
    .show e
   have(a,b,e,i):=f g;show#[x::a,b,by rw[e];rfl,λm=>?_];rcases d4.mp m with z|z
   .show d z.symm
   .show i z
end J2
namespace L2
open PySem PySem.Spec PyProof.Rows
abbrev bG(env:Env):List (Str×Mb)->List (Str×df)->List (Str×df)
 |[],b=>b
 |(n,k)::r,b=>bG env r (if k==.free then(match env.cells.lookup n with|some a=>(n,a)::b|none=>b) else b)
def fj(h:∀y∈scope.names,y.2=.free->∃a,env.cells.lookup y.1=a5 a):closureFor scope env=pure (bG env scope.names []):=by
 unfold closureFor;generalize scope.names=names at h
 suffices H:∀b,(forIn names b (λ(x:Str×Mb) (r:List (Str×df))=>if (x.2==Lj)=a8 then do let a <-cellOf env x.1;pure (Pw ((x.1,a)::r)) else pure (Pw r)):Sem (List (Str×df)))=pure (bG env names b) by
  have:=H [];show Ś (λ(m:Sem (List (Str×df)))=>m >>= pure) this
 induction names with
 |nil=>intro b;rfl
 |cons y r d =>
  intro b;have(n,k):=y;rw[List.forIn_cons];have c:=d λy e=>h y (fx _ e);by_cases hk:(k==Lj)=a8
  .have(a,f):=h (n,k) gs (by simpa using hk);have g:env.cells.lookup n=a5 a:=f;simp only[hk,if_true,cellOf,g,bG];show c _
  .simp only[hk,if_false,bG];show c _
theorem fK:∀(names:List (Str×Mb)) (b:List (Str×df)),(∀n c,b.lookup n=a5 c->env.cells.lookup n=a5 c)->∀n c,(bG env names b).lookup n=a5 c->env.cells.lookup n=a5 c
 |[],_,h=>h
 |(m,k)::r,b,h=>by
  unfold bG;show fK r _ λn c e=>?_;by_cases hk:(k==Lj)=a8
  .rw[Ŕ hk]at e;cases q:env.cells.lookup m with
   |none=>rw[q]at e;show h n c e
   |some a =>
    rw[q]at e;simp only[mx]at e;cases d:n==m with
    |true =>
     rw[d]at e;have f:n=m:=by simpa using d
     subst f;simp only at e;rw[q];show e
    |false=>rw[d]at e;show h n c e
  .rw[ŕ hk]at e;show h n c e
theorem kG(d:env.cells.lookup n=a5 a):∀(names:List (Str×Mb)) (c:List (Str×df)),c.lookup n=a5 a->(bG env names c).lookup n=a5 a
 |[],_,h=>h
 |(m,k)::r,c,h=>by
  unfold bG;show kG d r _ ?_;by_cases hk:(k==Lj)=a8
  .rw[Ŕ hk];cases q:env.cells.lookup m with
   |none=>show h
   |some b =>
    simp only[mx];cases e:n==m with
    |true =>
     have f:n=m:=by simpa using e
     subst f;rw[d]at q;cases q;rfl
    |false=>show h
  .rw[ŕ hk];show h
theorem iQ(b:env.cells.lookup n=a5 a):∀(names:List (Str×Mb)) (c:List (Str×df)),(n,Lj)∈names->(bG env names c).lookup n=a5 a
 |[],_,h=>by cases h
 |(m,k)::r,c,h=>by
  unfold bG;rcases d4.mp h with e|e
  .cases e;show kG b r _ ?_;rw[Ŕ (by decide),b];simp[mx]
  .show iQ b r _ e
theorem b_{env:Env}:∀{names:List (Str×Mb)}{x:Str}{k:Mb},
  (names.map λ(n,k)=>if (k==Lj&&env.scope.kind==.function&&env.kindOf n==a5 .cell) then(n,Lm) else(n,k)).lookup x=a5 k ->
  names.lookup x=a5 k\/(k=.cell/\names.lookup x=a5 .free)
 |[],_,_,h=>by simp at h
 |(n,k0)::r,x,k,h=>by
  have e:=@b_ env r x k;rw[d6]at h;by_cases b:(k0==Lj&&env.scope.kind==.function&&env.kindOf n==a5 .cell)=a8
  .simp only[Ŕ b,mx]at h;cases a:x==n with
   |true =>
    rw[a]at h;have f:k0=.free:=by
     have:=(rl.mp (rl.mp b).1).1;simpa using this
    show .inr #[by simpa using h.symm,by simp[mx,a,f]]
   |false =>
    rw[a]at h;rcases e h with z|⟨c,d⟩
    .show .inl (by simp[mx,a,z])
    .show .inr #[c,by simp[mx,a,d]]
  .simp only[ŕ b,mx]at h;cases a:x==n with
   |true=>rw[a]at h;show .inl (by simpa[mx,a] using h)
   |false =>
    rw[a]at h;rcases e h with z|⟨c,d⟩
    .show .inl (by simp[mx,a,z])
    .show .inr #[c,by simp[mx,a,d]]
theorem kH:∀(names:List (Str×Mb)) (b:List (Str×df)),(bG env names b).lookup x=a5 c->(x,Lj)∈names\/b.lookup x=a5 c
 |[],_,h=>.inr h
 |(m,k)::r,b,h=>by
  unfold bG at h;rcases kH r _ h with z|z
  .show .inl (fx _ z)
  .by_cases hk:(k==Lj)=a8
   .rw[Ŕ hk]at z;cases q:env.cells.lookup m with
    |none=>rw[q]at z;show .inr z
    |some a =>
     rw[q]at z;simp only[mx]at z;cases d:x==m with
     |true =>
      have e:x=m:=by simpa using d
      have f:k=.free:=by simpa using hk
      subst e f;show .inl gs
     |false=>rw[d]at z;show .inr z
   .rw[ŕ hk]at z;show .inr z
theorem jn:∀(names:List (Str×Mb)) (n:Nat) (a:List (Str×df)),(LF n names a).lookup x=a5 c->((x,Lm)∈names/\@û Nat _ n c)\/a.lookup x=a5 c
 |[],_,_,h=>.inr h
 |(y,k)::r,n,a,h=>by
  unfold LF at h;by_cases hk:(k==Lm)=a8
  .rw[Ŕ hk]at h;have f:k=.cell:=by simpa using hk
   subst f;rcases jn r (n+1) _ h with⟨b,d⟩|z
   .show .inl #[fx _ b,Nat.le_of_succ_le d]
   .simp only[mx]at z;cases e:x==y with
    |true =>
     rw[e]at z;have g:x=y:=by simpa using e
     subst g;cases z;show .inl #[gs,ez _]
    |false=>rw[e]at z;show .inr z
  .rw[ŕ hk]at h;rcases jn r n a h with⟨b,d⟩|z
   .show .inl #[fx _ b,d]
   .show .inr z
theorem pz:∀(names:List (Str×Mb)) (n:Nat) (a:List (Str×df)),(x,Lm)∉names->(LF n names a).lookup x=a.lookup x
 |[],_,_,_=>rfl
 |(y,k)::r,n,a,h=>by
  unfold LF;have b:(x,Lm)∉r:=λz=>h (fx _ z);by_cases hk:(k==Lm)=a8
  .rw[Ŕ hk,pz r _ _ b];have c:k=.cell:=by simpa using hk
   subst c;simp only[mx];cases d:x==y with
   |true =>
    have e:x=y:=by simpa using d
    subst e;show absurd gs h
   |false=>rfl
  .rw[ŕ hk,pz r _ _ b]
theorem sN:∀(names:List (Str×Mb)) (n:Nat) (a:List (Str×df)),(∀(z:Str) (d:df),a.lookup z=a5 d->@QJ Nat _ d n)->(∀(u v:Str) (d:df),a.lookup u=a5 d->a.lookup v=a5 d->u=v) ->
  (LF n names a).lookup x=a5 c->(LF n names a).lookup y=a5 c->x=y
 |[],_,_,_,hi,b,f=>hi x y c b f
 |(g,k)::r,n,a,hl,hi,b,f=>by
  unfold LF at b f;by_cases hk:(k==Lm)=a8
  .rw[Ŕ hk]at b f;have lk:∀(z:Str) (d:df),L5 z ((g,(n:df))::a)=a5 d->(z=g/\d=n)\/a.lookup z=a5 d:=λz d e=>by
    simp only[mx]at e;cases h:z==g with
    |true=>rw[h]at e;cases e;show .inl #[by simpa using h,rfl]
    |false=>rw[h]at e;show .inr e
   show sN r (n+1) _ (λz d e=>?_) (λu v d i j=>?_) b f
   .rcases lk z d e with⟨_,q⟩|q
    .rw[q];show NQ _
    .show QD (hl z d q)
   .rcases lk u d i with⟨l,m⟩|q<;>rcases lk v d j with⟨p1,p2⟩|p
    .rw[l,p1]
    .rw[m]at p;show absurd (hl v n p) (tv _)
    .rw[p2]at q;show absurd (hl u n q) (tv _)
    .show hi u v d q p
  .rw[ŕ hk]at b f;show sN r n a hl hi b f
theorem pA:∀(names:List (Str×Mb)) (h:K2) (a:List (Str×df)),(LF h.objs.size names a).lookup x=a5 c->(Sl h names).IsCell c bD\/a.lookup x=a5 c
 |[],_,_,e=>.inr e
 |(y,k)::r,h,a,e=>by
  unfold LF at e;unfold Sl;by_cases hk:(k==Lm)=a8
  .rw[Ŕ hk]at e ⊢;have hs:h.objs.size+1=(h.push {cls:=.type "cell",data:=.cell bD}).objs.size:=by rw[NH]
   rw[hs]at e;rcases pA r _ _ e with z|z
   .show .inl z
   .simp only[mx]at z;cases b:x==y with
    |true =>
     rw[b]at z;cases z;show .inl #[_,X1 r _ _ _ (d7 _ rfl),rfl]
    |false=>rw[b]at z;show .inr z
  .rw[ŕ hk]at e ⊢;show pA r h a e
abbrev Mt(X:Cx)(scope:Lg)(C:df):List (Str×df):=LF (C+1) scope.names (bG X.env scope.names [])
abbrev KW(X:Cx)(N:List Str)(scope:Lg)(C:df)(s:dt)(H:Hp)(ex:List df):Cx where
 prog:=X.prog
 w:=X.w
 K:=X.K
 mg:=X.mg
 base:=X.base
 A:=X.A
 N:=N
 s₀:=s
 H₀:=H
 env:=TX scope (Mt X scope C) C X.env
 outer:=X.stack
 stack:=X.stack
 ex:=ex
 fn:=λx=>b7 (scope.names.lookup x=a5 .cell)
 calm:=X.calm
 pn:=[]
 xe:=λ_ _=>False
abbrev eY(D N:List Str):Prop:=D.length=N.length/\∀(i:Nat) (y:Str),D[i]?=a5 y->N[i]?=a5 y\/y="."\/y=".."
def eY.refl(N:List Str):eY N N:=#[rfl,λ_ _ h=>.inl h]
def eY.set{D N:List Str}(h:eY D N)(j:Nat){m:Str}(b:m="."\/m=".."):eY (D.set j m) N:=by
 show#[by rw[ù];show h.1,λi y e=>?_];by_cases a:j=i
 .subst a;rw[List.getElem?_set,Ŕ rfl]at e;split at e
  .cases e;show .inr b
  .cases e
 .rw[f7 a]at e;show h.2 i y e
structure c_(X:Cx)(N own:List Str)(scope:Lg):Prop where
 kind:scope.kind=.function
 uq:∀y∈scope.names,scope.names.lookup y.1=a5 y.2
 cl:∀y∈scope.names,y.2=.cell->y.1∈own
 nd:N.Nodup
 pre:N.take own.length=own
 loc:∀y∈scope.names,y.2=.local->y.1∈own\/y.1=".0"
 Yj:(".0":Str)∉N
 tail:eY (N.drop own.length) X.N
 free:∀y∈scope.names,y.2=.free->X.env.scope.names.lookup y.1=a5 .cell\/X.env.scope.names.lookup y.1=a5 .free
 dot:∀y∈scope.names,y.1≠"."/\y.1≠".."
def mem_lookup{names:List (Str×Mb)}(h:names.lookup x=a5 k):(x,k)∈names:=PySem.mem_of_lookup h
def c_.names(S:c_ X N a scope):∀y∈scope.names,y.2=.local->scope.names.lookup y.1=a5 .local:=λy b e=>e▸S.uq y b
def c_.no(S:c_ X N a scope)(h:scope.names.lookup x=a5 .free):(x,Lm)∉scope.names:=λz=>by
 have:=S.uq _ z;rw[h]at this;cases this
def c_.cells(S:c_ X N c scope)(b:X.Ok):∀y∈scope.names,y.2=.free->∃a,X.env.cells.lookup y.1=a5 a:=λy d e=>by
 rcases S.free y d e with z|z
 .show b.has y.1 (.inl z)
 .show b.has y.1 (.inr z)
def ym(S:c_ X N f scope)(I:Inv X D σ H s)
  (B:(~~~s)<=C) (NP:∀x c,(Mt X scope C).lookup x=a5 c->s4.heap.IsCell c bD\/(bG X.env scope.names []).lookup x=a5 c) (Nm:s4.os=s.os) (hg:s4.gens=s.gens) (keep:∀b o,s.heap.get? b=a5 o->s4.heap.get? b=a5 o) (ns:∃m,s4.heap.Ns C m)
  (g:∀b∈ex,iP X D H b/\b<(~~~s)):Inv (KW X N scope C s H ex) [] (ke f.length bD++σ) H s4:=by
 have(m0,QN):=ns;have sub:=fK (env:=X.env) scope.names [] (λn c e=>by simp at e);have Yk:∀(x:Str) (c:df),(bG X.env scope.names []).lookup x=a5 c->c<(~~~s):=λx c e=>by
  have(v,o,ho,_):=I.cell x c (sub x c e);show gc ho
 have L:∀(x:Str) (c:df),(Mt X scope C).lookup x=a5 c->C<c\/(bG X.env scope.names []).lookup x=a5 c:=λx c e=>(jn _ _ _ e).imp (λz=>z.2) id;have T:∀b∈ex,b<C:=λb t=>i9 (g b t).2 B;have tl:f.length<=N.length:=by have:=Ś vr S.pre;rw[my]at this;lia
 show#[#[I.ok.mod,?_,I.ok.glob,I.ok.blt,B,λx y c w A=>sN _ _ _ (λz d e=>QD (i9 (Yk z d e) B)) (λu v d G e2=>I.ok.inj u v d (sub u d G) (sub v d e2)) w A,λx hx=>?_,λx c h e=>?_,I.ok.hd,I.ok.frames,.inl rfl,λb t=>#[ix (T b t),λx c e=>?_],λb o e=>I.bs b o e,?_,λb o e t=>?_,λb t=>?_,I.stack,I.jf],
  Nm,(by rw[hg];show I.bare),Un.kept keep,#[m0,QN,λi y v w A h3=>?_],λx c e=>?_,I.JE.fresh B,λx c e=>?_,λp hp=>absurd (show p∈([]:List (df×Obj)) from hp) (by simp),I.JE.kept keep,?_]
 .change(Ue scope X.env).kind=.function;show S.kind
 .
  have Uk:(Ue scope X.env).names.lookup x=a5 .cell\/(Ue scope X.env).names.lookup x=a5 .free:=hx;have J6:scope.names.lookup x=a5 .cell\/scope.names.lookup x=a5 .free:=by
   rcases Uk with z|z
   .rcases b_ z with q|⟨_,q⟩
    .show .inl q
    .show .inr q
   .rcases b_ z with q|⟨q,_⟩
    .show .inr q
    .cases q
  rcases J6 with J6|J6
  .show R0.mp (PySem.W.cellsFrom_some scope.names (C+1) _ (.inl J6))
  .have(a,ha):=S.cells I.ok (x,.free) (mem_lookup J6) rfl;show#[a,(pz _ _ _ (S.no J6)).trans (iQ ha scope.names [] (mem_lookup J6))]
 .have h':scope.names.lookup x=a5 .cell:=ř h;rcases L x c e with z|z
  .show va B (Oy z)
  .rcases kH _ _ z with z|z
   .have:=S.uq _ z;rw[h']at this;cases this
   .simp at z
 .rcases L x c e with z|z
  .show λq=>absurd (VO (T b t) z) (by rw[q];show tv _)
  .show(g b t).1.2.2.2.2.1 x c (sub x c z)
 .show va I.ok.M3 I.sz
 .have(f0,Y,f2,f3,f4,f5):=(g b t).1;rcases f3 with z|z
  .show I.ok.Md b o e z
  .show absurd (i9 (gc e) (va I.ok.M3 z)) (tv _)
 .intro Lv;have(f0,Y,f2,f3,f4,f5):=(g b t).1;rcases d4.mp (I.lG b Lv) with z|z
  .show Y z
  .show f2 z
 .
  have hi:f.length<=i:=by
   by_cases hi:i<f.length
   .rw[mh (by simpa using hi),z8]at A;split at A<;>cases A
   .lia
  rw[k9 (by simpa using hi),OT]at A;have Yl:(N.drop f.length)[i - f.length]?=a5 y:=by
   rw[w6];have e:f.length+(i - f.length)=i:=by lia
   rw[e];show w
  have P5:(Ue scope X.env).names.lookup y=a5 .local\/(Ue scope X.env).names.lookup y=a5 .cell\/(Ue scope X.env).names.lookup y=a5 .free:=h3;have OC:∀y:Str,y∈f->N[i]?=a5 y->False:=λy O w=>by
   have(j,hj,ej):=Rz O;have Mu:N[j]?=a5 y:=by
    have G:(N.take f.length)[j]?=a5 y:=by rw[S.pre,Sy hj,ej]
    rw[Nc hj]at G;show G
   have:=jg S.nd Mu w;lia
  have J6:scope.names.lookup y=a5 .free:=by
   rcases P5 with z|z|z
   .rcases b_ z with q|⟨q,_⟩
    .exfalso
     have O:y∈f:=by
      rcases S.loc (y,.local) (mem_lookup q) rfl with z|z
      .show z
      .have z':y=".0":=z;show absurd (ri w) (by rw[z'];show S.Yj)
     show OC y O w
    .cases q
   .rcases b_ z with q|⟨_,q⟩
    .show(OC y (S.cl _ (mem_lookup q) rfl) w).elim
    .show q
   .rcases b_ z with q|⟨q,_⟩
    .show q
    .cases q
  have hX:X.N[i - f.length]?=a5 y:=by
   rcases S.tail.2 _ _ Yl with e|e|e
   .show e
   .show absurd e (S.dot _ (mem_lookup J6)).1
   .show absurd e (S.dot _ (mem_lookup J6)).2
  have(m,hn,hl):=I.loc;have hv:X.env.scope.names.lookup y=a5 .cell\/X.env.scope.names.lookup y=a5 .free:=S.free (y,.free) (mem_lookup J6) rfl;have(u,r,l):=hl _ y v hX A (.inr hv);show#[u,r,?_];rcases l with⟨k,_⟩|⟨k,c,e,z⟩
  .have k':X.env.scope.names.lookup y=a5 .local:=k;rcases hv with q|q<;>(rw[k']at q;cases q)
  .have hk:(Ue scope X.env).names.lookup y=a5 .cell\/(Ue scope X.env).names.lookup y=a5 .free:=by
    rcases P5 with q|q|q
    .rcases b_ q with J|⟨J,_⟩
     .rw[J6]at J;cases J
     .cases J
    .show .inl q
    .show .inr q
   have(o,ho,Q):=z;show .inr #[hk,c,(pz _ _ _ (S.no J6)).trans (iQ e scope.names [] (mem_lookup J6)),o,keep c o ho,Q]
 .rcases NP x c e with z|z
  .show#[_,z]
  .have(v,o,ho,Q):=I.cell x c (sub x c z);show#[v,o,keep c o ho,Q]
 .rcases L x c e with z|z
  .show I.JE.fresh (va B (Oy z))
  .show I.J5 x c (sub x c z)
 .rw[hH,OT,I.len];have e:N.length=f.length+(N.drop f.length).length:=by rw[S7];lia
  change _=N.length;rw[e,S.tail.1]
def qK(I:Inv X f σ H s)
  (d:Inv (KW X N scope C s H ex) Q T l s4) (w:(~~~s)<=D) (x:(~~~s)<=C) (y:D≠C) (h:l D=bD) (rv:Vals ys p) (pl:s4.heap.PlainList D p.toArray) (hl:ys.length<=b6)
  (i:LM C s4.heap h') (m:∀b∈ex,iP X f H b):Inv X f σ (upd l D (.lst ys)) {s4 with heap:=h' }:=by
 have r:l C=bD:=d.free;have lt:∀{b:df} {o:Obj},s.heap.get? b=a5 o->b≠C/\b≠D:=λe=>#[ix (i9 (gc e) x),ix (i9 (gc e) w)]
 show I.Dn (s':={s4 with heap:=h' }) (ch:=ex) d.os ⟨λb o e n j g=>?_,λb o e n j g=>?_,λb o e n g=>?_,λb o e g=>?_,λb xs e=>?_,λb o u e=>?_,λb ps e=>?_⟩ (λa o e=>?_) d.bare λb j=>?_
 .show(i.2 b (lt e).1).trans (d.base.keep b o e n j g)
 .have(A,q):=d.base.slot b o e n j g;show#[A,(i.2 b (lt e).1).trans q]
 .rw[aj (lt e).2];show d.base.free b o e n g
 .have(o',q):=d.base.there b o e g;show#[o',(i.2 b (lt e).1).trans q]
 .have q:=d.base.gE b xs e;rw[aj (aX q h)];show q
 .have q:=d.base.KI b o u e;rw[aj (aX q h)];show q
 .have(k,q):=d.base.KY b ps e;show#[k,by rw[aj (aX q h)];show q]
 .by_cases t:a=D
  .subst t;rw[ar]at e;cases e;have(n,q):=pl;show#[hl,p,n,rv,(i.2 _ y).trans q]
  .rw[aj t]at e;show(d.JE a o e).kY (λc v B q=>(i.2 c ?_).trans q) (λc q=>?_) λc xs q=>?_
   .rintro rfl;rcases B with z|z
    .rw[<-z,r]at e;cases e
    .rw[r]at z;cases z
   .rw[aj (aX q h)];show q
   .rw[aj (aX q h)];show q
 .have(Y,G,f2,J,L,O):=m b j;show#[J,G,L,O]
section
def pB(I:Nat->dt->Prop)
  (b:∀n s,I n s->du (d5 prog w) A (Ti it) (λr d=>match r with
   |none=>R (.ok .next) d
   |some v=>du (d5 prog w) A (Uy a it v) (λ_ d=>du (d5 prog w) A (S5 a env v) (λ_ k =>
     du (d5 prog w) A (forIn f a8 λc r=>if r=a8 then do let ok <-isTrue c env (tj c env);pure (Pw ok) else pure (Pw r)) (λok j =>
      if ok=a8 then du (d5 prog w) A (tj elt env) (λx l =>
       du (d5 prog w) A (PB (.builtin "list.append") [g,x]) (λ_ o=>∃m,m<n/\I m o) (Td (d5 prog w) A env λe s'=>R (.error e) s') l) (Td (d5 prog w) A env λe s'=>R (.error e) s') j
      else ∃m,m<n/\I m j) (Td (d5 prog w) A env λe s'=>R (.error e) s') k) (Td (d5 prog w) A env λe s'=>R (.error e) s') d) (Td (d5 prog w) A env λe s'=>R (.error e) s') d) (Td (d5 prog w) A env λe s'=>R (.error e) s') s)
  (n:Nat) (h:I n s) :
  OY (d5 prog w) A (.compLoop (.ListComp elt [⟨a,i,f,0⟩] scope pos) 0 it g env) R s:=by
 show codeAny_loop rfl I (λn s t=>?_) n h;change du _ A ((compTurn (.ListComp elt [⟨a,i,f,0⟩] scope pos) 0 it g env).onRaise (λx=>do noteFrame x env;theTreesLotGoes x)) _ _ s;show wpAny_noted ?_;rw[compTurn_list];show bR (Zz (bR (mu (b n s t) (λr d p=>?_) λ_ _ h'=>h')));cases r with
 |none=>show c6 p
 |some v =>
  show bR (mu p (λ_ u y=>?_) λ_ _ h'=>h');show bR (mu y (λ_ k z=>bR (mu z (λok j q=>?_) λ_ _ h'=>h')) λ_ _ h'=>h');cases ok with
  |false=>show c6 #[rfl,q]
  |true =>
   show bR (bR (mu q (λx l B=>bR (mu B (λ_ o C=>c6 (c6 #[rfl,C])) λ_ _ h'=>h')) λ_ _ h'=>h'))
end
abbrev N_(X:Cx)(b:List lx)(t:TT):Prop :=
 ∀(a:List (df×Obj)) (s:dt) (σ:St) (H:Hp) (Q:Bool->Hp->Prop),Inv X a σ H s->t σ H Q ->
  ‹X› (forIn b a8 λc r=>if r=a8 then do let d <-isTrue c X.env (tj c X.env);pure (Pw d) else pure (Pw r)) (TP X a σ Q) X.xe s
abbrev Jf:TT:=λ_ H Q=>Q a8 H
def uT:N_ X [] Jf:=λ_ _ _ H _ I h=>wpAny_tests_nil #[H,I,h]
def uU(h:PT X c t):N_ X [c] t:=λa s σ H Q I q=>wpAny_tests_one (h a s σ H Q I q)
abbrev uV(k:Nat)(J:It)(g:TG)(j:TT)(te:TE)(Q:VK)(σ:St)(l:Hp):Prop :=
  ∃W:Nat->Nat->List V->Hp->Prop,(∃m,W 0 m [] l)/\∀i m ys H,W i m ys H->ys.length<=b6 /\
    ((J.stop i H/\∀p,H p=bD->Q (.ref p) (upd H p (.lst ys))) \/
     (J.go i H/\∃c:List V->Hp->Prop,(∀e H',c e H'->∃f,f<m/\W (i+1) f e H')/\∀x H',J.R8 i H x H'->g x (ke k bD++σ) H' λd n=>∃a:St,a.length=k/\d=a++σ /\
        j d n λb h=>if b=a8 then te d h λy o=>c (ys++[y]) o else c ys h))
abbrev yn(k:Nat)(a:TI)(g:TG)(b:TT)(te:TE):TE:=λσ H Q=>a σ H λJ c=>uV k J g b te Q σ c
section
def yo
  (S:c_ X N L scope) (hc:X.calm=a8) (hg:∀C s H ex,PG (KW X N scope C s H ex) tg g) (hf:∀C s H ex,N_ (KW X N scope C s H ex) am tt)
  (he:∀t s7 σ7 H7 Q7,Inv (KW X N scope C s H l) t σ7 H7 s7->te σ7 H7 Q7->‹X› (tj elt (TX scope (Mt X scope C) C X.env)) (EP (KW X N scope C s H l) t σ7 Q7) (Td (d5 X.prog X.w) X.A (TX scope (Mt X scope C) C X.env) λe s'=>R (.error e) s') s7)
  (I:Inv X t σ H s) (T:Turn X.prog X.w X.K tg J l it tn) (st:tn 0 s.heap) (f2:∀b∈l,iP X t H b) (W:uV L.length J g tt te Q σ H)
  (hD:@Eq Nat D (~~~s)) (hC:@Eq Nat C ((~~~s)+1)) (NP:∀x c,(Mt X scope C).lookup x=a5 c->s4.heap.IsCell c bD\/(bG X.env scope.names []).lookup x=a5 c) (Nm:s4.os=s.os) (Yo:s4.gens=s.gens) (keep:∀b o,s.heap.get? b=a5 o->s4.heap.get? b=a5 o) (ns:∃m,s4.heap.Ns C m) (pl:s4.heap.PlainList D #v[])
  (an:∀s5 Y ys k,Inv (KW X N scope C s H l) [] (ke L.length bD++σ) Y s5->Y D=bD->Vals ys k->s5.heap.PlainList D k.toArray->ys.length<=b6->(∀p,Y p=bD->Q (.ref p) (upd Y p (.lst ys)))->R (.ok .next) s5) :
  OY (d5 X.prog X.w) X.A (.compStart (.ListComp elt [⟨tg,ap,am,0⟩] scope pos) 0 (.ref it) (.ref D) (TX scope (Mt X scope C) C X.env)) R s4:=by
 have Nn:∀b∈l,@QJ Nat _ b (~~~s):=λb h=>by
  have(o,e,_):=T.obj 0 s.heap st b h;show gc e
 have I4:Inv (KW X N scope C s H l) [] (ke L.length bD++σ) H s4:=ym S I ⋯ NP Nm Yo keep ns λb h=>#[f2 b h,Nn b h]
 have P6:tn 0 s4.heap:=T.keep 0 s.heap s4.heap st λb _ o e=>keep b o e;have nD:H D=bD:=I.JE.fresh ⋯;have(W,(m0,w0),ê):=W;generalize B:KW X N scope C s H l=f at I4 an he;have eP:f.prog=X.prog:=by rw[<-B];rfl
 have ew:f.w=X.w:=by rw[<-B];rfl
 have eK:f.K=X.K:=by rw[<-B];rfl
 have ec:f.calm=a8:=by rw[<-B];show hc
 have eA:f.A=X.A:=by rw[<-B];rfl
 have ee:f.env=TX scope (Mt X scope C) C X.env:=by rw[<-B];rfl
 have Wr:f.xe=λ_ _=>False:=by rw[<-B];rfl
 have el:f.env.locals=C:=by rw[ee];rfl
 have Sg:PG f tg g:=by rw[<-B];show hg _ _ _ _
 have Yp:N_ f am tt:=by rw[<-B];show hf _ _ _ _
 have s0:f.s₀=s:=by rw[<-B];rfl
 have QP:f.pn=[]:=by rw[<-B];rfl
 have Ul:∀{H':Hp} {o:Obj},(∀b∈l,H' b=bD)->∀b∈l,iP f [(D,o)] H' b:=λ{H' o} hn b h=>by
  have ex:f.ex=l:=by rw[<-B];rfl
  show#[hn b h,?_,?_,.inl (by rw[ex];show h),λx c e=>?_,λp O=>?_]
  .rw[el];have:=Nn b h;show ix (by change @QJ Nat _ b C;lia)
  .have e1:f.fs=Kj X.stack:=by rw[<-B];rfl
   rw[e1];intro z;have(f0,f1,Yq,f3,f4,f5):=f2 b h;rcases d4.mp (I.lG b z) with q|q
   .show f1 q
   .show Yq q
  .have e1:f.env.cells=Mt X scope C:=by rw[ee];rfl
   rw[e1]at e;rcases jn _ _ _ e with z|z
   .have:=Nn b h;have:=z.2;show M7 (by change @QJ Nat _ b c;lia)
   .show(f2 b h).2.2.2.2.1 x c (fK scope.names [] (λn c e=>by simp at e) x c z)
  .rw[QP,ko]at O;have:p=(D,o):=by simpa using O
   subst this;have:=Nn b h;show M7 (by change @QJ Nat _ b D;lia)
 have Um:∀{σ':St} {H':Hp} {s':dt} {o:Obj},Inv f [] σ' H' s'->H' D=bD->s'.heap.get? D=a5 o->(∀v,o.data≠.cell v)->Inv f [(D,o)] σ' H' s':=λ{σ' H' s' o} I' n e d =>
  I'.hJ λp O=>by
   have:p=(D,o):=by simpa using O
   subst this;show#[e,n,?_,?_,d]
   .rw[el];show ix (by change @QJ Nat _ D C;lia)
   .have e1:f.fs=Kj X.stack:=by rw[<-B];rfl
    rw[e1];intro z;have zz:(D:df)∈Kj X.stack:=z;rcases d4.mp (I.lG D zz) with q|q
    .have:=I.lt;rw[<-q]at this;show absurd this (by change ¬@QJ Nat _ D (~~~s);lia)
    .show I.GO (a:=D) ⋯ q
 have start:∀s':dt,s'=s4->OY (d5 X.prog X.w) X.A (.compLoop (.ListComp elt [⟨tg,ap,am,0⟩] scope pos) 0 (.ref it) (.ref D) (TX scope (Mt X scope C) C X.env)) R s':=by
  rintro s' rfl;show pB (λn s'=>∃i ys k H',Inv f [] (ke L.length bD++σ) H' s'/\tn i s'.heap/\(∀b∈l,H' b=bD)/\H' D=bD/\Vals ys k/\s'.heap.PlainList D k.toArray/\W i n ys H') ?_ m0
   ⟨0,[],[],H,I4,P6,λb h=>(f2 b h).1,nD,.nil,pl,w0⟩
  rintro n s3 ⟨i,ys,k,H3,I3,Kc,QH,Ws,Sh,⟨nn,Yr⟩,w3⟩;have(ab,QQ):=ê i n ys H3 w3;have IP:=Um I3 Ws Yr (λv z=>by have z':Data.seq _ _=â v:=z;cases z');rcases QQ with⟨as,qn⟩|⟨go,NN,Wt,a0⟩
  .have d:=T.done f eP ew eK ec i _ s3 _ H3 (Td (d5 X.prog X.w) X.A (TX scope (Mt X scope C) C X.env) λe s'=>R (.error e) s') IP (Ul QH) Kc as;rw[eA]at d;show JJ d λr s4 Uo=>?_;have(hr,I5):=Uo;subst hr;have e5:=(I5.pin (D,({cls:=.type "list",data:=.seq k.toArray nn}:Obj)) (by rw[QP];simp)).1;show an s4 H3 ys k (I5.hJ λp O=>by cases O) Ws Sh ⟨nn,e5⟩ ab qn
  .have d:=T.item f eP ew eK ec i _ s3 _ H3 (Td (d5 X.prog X.w) X.A (TX scope (Mt X scope C) C X.env) λe s'=>R (.error e) s') IP (Ul QH) Kc go;rw[eA]at d;show JJ d λr s4 Up=>?_;have(u,hr,h4):=Up;subst hr;show JJ h4 λ_ s5 Uq=>?_;have(x,Y,I5,r5,y5,M4,TF):=Uq;have a2:Y D=bD:=(I5.pin (D,({cls:=.type "list",data:=.seq k.toArray nn}:Obj)) (by rw[QP];simp)).2.1;have TH:=I5.pinned (Ul TF) (T.obj _ _ M4);have a6:=Sg _ s5 _ Y x u _ TH r5 (a0 x Y y5);rw[eP,ew,eA,ee,Wr]at a6;show mu a6 (λ_ s6 ⟨σ6,H6,I6,q6⟩=>?_) λ_ _ z=>wk z;have(ow,a1,rfl,q6):=q6;have a7:=Yp _ s6 _ H6 _ I6 q6;rw[eP,ew,eA,ee,Wr]at a7;show mu a7 (λb s7 ⟨H7,I7,q7⟩=>?_) λ_ _ z=>wk z;have ac:∀{s8:dt} {G:Hp} {LD:List V} {its':List cK} {nn':Nat},Inv f [] (ow++σ) G s8->tn (i+1) s8.heap->(∀b∈l,G b=bD)->G D=bD->Vals LD its'->s8.heap.PlainList D its'.toArray->(∃m',m'<n/\W (i+1) m' LD G) ->
     ∃m,m<n/\∃i ys k H',Inv f [] (ke L.length bD++σ) H' s8/\tn i s8.heap/\(∀b∈l,H' b=bD)/\H' D=bD/\Vals ys k/\s8.heap.PlainList D k.toArray/\W i m ys H':=λ{s8 G LD its' nn'} I8 Ys Yt n8 Yu Yv w8=>by
    have(m',hm,w8):=w8;show#[m',hm,i+1,LD,its',G,I8.weak (by simp[a1]) (λj v e=>?_),Ys,Yt,n8,Yu,Yv,w8];by_cases hj:j<L.length
    .rw[mh (by simpa using hj),z8]at e;split at e<;>cases e
    .rw[k9 (by simpa using(Nat.not_lt.mp hj)),OT]at e;rw[k9 ⋯,a1];show e
   have al:∀{σ':St} {G:Hp} {s8:dt},Inv f ([(D,({cls:=.type "list",data:=.seq k.toArray nn}:Obj))]++lI l s5.heap) σ' G s8->s8.heap.get? D=a5 {cls:=.type "list",data:=.seq k.toArray nn}/\G D=bD/\tn (i+1) s8.heap/\∀b∈l,G b=bD:=λ{σ' G s8} I8=>by
    have p1:=I8.pin (D,({cls:=.type "list",data:=.seq k.toArray nn}:Obj)) (by rw[QP];simp);show#[p1.1,p1.2.1,T.keep _ _ _ M4 λb h o e=>(I8.pin (b,o) (r6 _ (r6 _ (fF h e)))).1,λb h=>?_];have(o,e,d):=T.obj _ _ M4 b h;show(I8.pin (b,o) (r6 _ (r6 _ (fF h e)))).2.1
   cases b with
   |false =>
    rw[ŕ i7]at q7 ⊢;have(p1,p2,p3,p4):=al I7;show ac (nn':=0) (I7.hJ λp O=>by cases O) p3 p4 p2 Sh ⟨nn,p1⟩ (Wt _ _ q7)
   |true =>
    rw[Ŕ rfl]at q7 ⊢;show mu (he _ s7 _ H7 _ I7 q7) (λy s8 ⟨yv,G,I8,r8,q8⟩=>?_) λ_ _ z=>z;have(p1,p2,p3,p4):=al I8;have hsz:k.toArray.size<=b6:=by rw[d8,<-Sh.length];show ab
    show wpAny_list_append_plain (hsz:=hsz) #[nn,p1] λh9 Yw Wu=>?_;have Yx:Inv f [] (ow++σ) G s8:=I8.hJ λp O=>by cases O
    have Si:∀x c,f.env.cells.lookup x=a5 c->c≠D:=λx c e=>by
     have e1:f.env.cells=Mt X scope C:=by rw[ee];rfl
     rw[e1]at e;rcases jn _ _ _ e with z|z
     .have:=z.2;show M7 (by change @QJ Nat _ D c;lia)
     .have(v,z):=I.cell x c (fK scope.names [] (λn c e=>by simp at e) x c z);have:@QJ Nat _ c (~~~s):=z.lt;show ix (by change @QJ Nat _ c D;lia)
    have I9:Inv f [] (ow++σ) G {s8 with heap:=h9,toks:=s8.toks}:=Yx.turned (it:=D) (λb o h e=>(Wu.2 b h).trans e) p2 (by rw[el];show ix (by change @QJ Nat _ D C;lia)) (.inr (by rw[s0];change @û Nat _ (~~~s) D;lia)) Si (λp O=>by rw[QP]at O;cases O);have Yy:(k++[y]).toArray=k.toArray.push y:=by simp
    show ac (nn':=0) (s8:={s8 with heap:=h9,toks:=s8.toks}) I9 (T.keep _ _ _ p3 λb h o e=>(Wu.2 b ?_).trans e) p4 p2 (Sh.append (.cons r8 .nil)) (by rw[Yy];show Yw) (Wt _ _ q8);have:=Nn b h;show ix (by change @QJ Nat _ b D;lia)
 show codeAny_compStart_list (start _ rfl) (T.self _ _ _ _ _ P6 (start _ rfl))
def sO
  (f:Q (newEnv scope (~~~s) b (LF ((~~~s)+1) scope.names cl) d bD .none (a5 c) a) {s with heap:=Sl (s.heap.push {cls:=.type "dict",data:=.dict #v[]}) scope.names}) :
  du M A (YJ scope b cl [] d bD .none (a5 c) a) Q E s:=by
 simp only[YJ,Zi,if_true];show bR (wpAny_alloc ?_);show bR (wpAny_layCells _ (λname kind e=>by cases g:kind==Lm<;>simp[g]) _ _ _ _ ?_);rw[show({s with heap:=s.heap.push {cls:=.type "dict",data:=.dict #v[]}}:dt).heap.objs.size=(~~~s)+1 from NH ..];show bR ?_;rw[List.forIn_nil];show c6 (c6 f)
def lP{RR:cK->df->Result->dt->Prop}
    (S:c_ X N h scope) (L:X.calm=a8) (O:∀C s H ex,PG (KW X N scope C s H ex) t g) (Y:∀C s H ex,N_ (KW X N scope C s H ex) l tt) (he:∀C s H ex,PE (KW X N scope C s H ex) elt te)
 (I:Inv X a σ H s) (T:Turn X.prog X.w X.K t J u it tn) (st:tn 0 s.heap) (f2:∀b∈u,iP X a H b) (W:uV h.length J g tt te Q σ H)
    (m:∀D C i f ys k,@Eq Nat D (~~~s)->@Eq Nat C ((~~~s)+1)->Inv (KW X N scope C s H u) [] (ke h.length bD++σ) f i->f D=bD->Vals ys k->i.heap.PlainList D k.toArray->ys.length<=b6->(∀p,f p=bD->Q (.ref p) (upd f p (.lst ys)))->RR (.ref D) C (.ok .next) i) :
    ‹X› (newList []) (λj s₃=>‹X› (YJ scope X.env.globals (bG X.env scope.names []) [] X.env.qual bD .none (a5 X.env)) (λv s₄ =>
      OY (d5 X.prog X.w) X.A (.compStart (.ListComp elt [⟨t,y,l,0⟩] scope pos) 0 (.ref it) j {v with scope:=Ue scope X.env}) (RR j v.locals) s₄) E s₃) E s:=by
  show wh (sO ?_)
  dsimp only
  generalize n:s.heap.push {cls:=.type "list",dict:=bD,data:=.seq ([]:List cK).toArray}=d;have B:d.objs.size=(~~~s)+1:=by rw[<-n,NH]
  have G:∀b o,d.get? b=a5 o->(Sl (d.push {cls:=.type "dict",data:=.dict #v[]}) scope.names).get? b=a5 o:=λb o e=>X1 _ _ b o (cb _ e);have r:∀b o,s.heap.get? b=a5 o->(Sl (d.push {cls:=.type "dict",data:=.dict #v[]}) scope.names).get? b=a5 o:=λb o e=>G b o (n▸cb _ e);have KN:(Sl (d.push {cls:=.type "dict",data:=.dict #v[]}) scope.names).PlainList (~~~s) #v[]:=#[_,G _ _ (n▸d7 _ rfl)]
  have NP:∀x c,(Mt X scope d.objs.size).lookup x=a5 c->(Sl (d.push {cls:=.type "dict",data:=.dict #v[]}) scope.names).IsCell c bD\/(bG X.env scope.names []).lookup x=a5 c:=λx c e=>by
    show pA scope.names (d.push {cls:=.type "dict",data:=.dict #v[]}) _ ?_;rw[NH];show e
  show yo (s:=s) (s4:={s with heap:=Sl (d.push {cls:=.type "dict",data:=.dict #v[]}) scope.names}) (C:=d.objs.size) (D:=(~~~s)) S L O Y (λa s7 σ7 H7 Q7 I7 q=>mu (he _ _ _ _ a s7 σ7 H7 Q7 I7 q) (λ_ _ z=>z) λ_ _ z=>z.elim) I T st f2 W rfl B NP rfl rfl r ⟨_,(Heap.Ns.new d (.type "dict")).keeps (X1 _ _)⟩ KN
    λi f ys k I5 n5 QS QT QU q5=>m _ _ i f ys k rfl B I5 n5 QS QT QU q5
def Br(S:c_ X N c scope)(n:X.calm=a8)(hi:PI X i a o)(p:∀C s H ex,PG (KW X N scope C s H ex) i g)(q:∀C s H ex,N_ (KW X N scope C s H ex) d r)(t:∀C s H ex,PE (KW X N scope C s H ex) elt te)
  (hs:∀x,Nz a X.env x=pure x:=by intro _;rfl):PE X (.ListComp elt [⟨i,a,d,0⟩] scope pos) (yn c.length o g r te):=by
 intro b s σ H Q I h;rw[eval_ListComp];show ZQ (use:=bD) (cl:=bG X.env scope.names []) rfl hs (fj (S.cells I.ok)) S.kind S.names ?_;show JJ (hi b s σ H _ I h) λv s1 u=>JJ u λR9 s2 y=>?_;have(it,fp,tn,J,H2,e,j,T,st2,k,W):=y;subst e;show lP (RR:=λf C=>compPost (d5 X.prog X.w) X.A X.xe bD (EP X b σ Q) f C) S n p q t j T st2 k W ?_;intro D C s5 H5 ys B' z hC l m B G L O;have(Y,Ut,_):=l.loc;show#[Y,Ut,λh' sb=>#[.ref D,_,qK j l (VR z.symm) (by change @û Nat _ (~~~s2) C;lia) (ix (by change @QJ Nat _ D C;lia)) m B G L sb k,rfl,O D m]]
def Bs(S:c_ X N r scope)(hc:X.calm=a8)(hN:X.N.Nodup)(Sj:X.N[i]?=a5 y)(L:X.env.scope.names.lookup y=a5 .local)
  (hi:PI X n d wi) (hg:∀C s H ex,PG (KW X N scope C s H ex) n g) (hf:∀C s H ex,N_ (KW X N scope C s H ex) k tt) (he:∀C s H ex,PE (KW X N scope C s H ex) elt te)
  (OD:PL (.ListComp elt [⟨n,d,k,0⟩] scope pos) (a5 (.Name y m)) ML.line X.env=pure a8:=by rfl)
  (hs:∀x,Nz d X.env x=pure x:=by intro _;rfl):PS X (.Assign [.Name y m] (.ListComp elt [⟨n,d,k,0⟩] scope pos) ML) (D_ (yn r.length wi g tt te) (uJ i)):=by
 intro f s σ H D I h;rw[exec_Assign_Name_used _ _ _ _ OD];show bR (Zz (bR ?_));change du _ X.A (do let _ <-comprehension (.ListComp elt [⟨n,d,k,0⟩] scope pos) scope X.env _ (newList []) bL (tj d X.env) (a5 (S5 (.Name y m) X.env))) _ _ s;show bR (mu (ZQ (use:=a5 (S5 (.Name y m) X.env)) (cl:=bG X.env scope.names []) (Q:=λ_ s'=>SP X f D .next s') rfl hs (fj (S.cells I.ok)) S.kind S.names ?_) (λ_ s' hq=>c6 (c6 hq)) λ_ _ e=>e);show JJ (hi f s σ H _ I h) λv s1 h1=>JJ h1 λR9 s2 h2=>?_;have(it,fp,tn,J,H2,e,l,T,st2,O,W):=h2;subst e;show lP (RR:=λt C=>compPost (d5 X.prog X.w) X.A X.xe (a5 (S5 (.Name y m) X.env)) (λ_ s'=>SP X f D .next s') t C) S hc hg hf he l T st2 O W ?_;intro j C q u ys B' hD hC G Y QS QT QU q5;have(m5,Ut,_):=G.loc;have Yz:u C=bD:=G.free;have B:Inv X f σ (upd u j (.lst ys)) {q with heap:=q.heap}:=qK l G (VR hD.symm) (by change @û Nat _ (~~~s2) C;lia) (ix (by change @QJ Nat _ j C;lia)) Y QS QT QU (XQ ..) O;change du _ X.A (S5 (.Name y m) X.env (.ref j)) _ _ q;show ĕ (nW (s:=q) B hN Sj (.inl L) (show RelV (.ref j) (.ref j) from rfl) (λs6 I6 ⟨a,sb,ha⟩=>?_) (.inr L));have Si:@QJ Nat _ X.env.locals C:=by have:@QJ Nat _ X.env.locals (~~~s2):=l.lt;lia
 have Np:∀x c,X.env.cells.lookup x=a5 c->c≠C:=λx c e=>by
  have(v,z):=l.cell x c e;have:@QJ Nat _ c (~~~s2):=z.lt;show ix (by change @QJ Nat _ c C;lia)
 have YA:C≠a:=by
  rcases ha with z|z
  .rw[z];show M7 Si
  .show(Np _ _ z).symm
 show#[m5,Ut.sameBut sb YA,λh' YB=>?_];show#[σ.set i (a5 (.ref j)),upd u j (.lst ys),I6.turned (it:=C) (t':=s6.toks) (λb o hb e=>(YB.2 b hb).trans e) ?_ (M7 Si) (.inr (by have:@û Nat _ X.s₀.heap.objs.size (~~~s2):=l.sz;change @û Nat _ X.s₀.heap.objs.size C;lia)) Np (λp hp=>?_),q5 j Y]
 .rw[aj (M7 (by change @QJ Nat _ j C;lia))];show Yz
 .have:@QJ Nat _ p.1 (~~~s2):=gc (l.pin p hp).1;show ix (by change @QJ Nat _ p.1 C;lia)
end
section
abbrev Uu(x:Str):It:=#[λi _=>i<x.cps.toList.length,λi H v H'=>H'=H/\∃c,x.cps.toList[i]?=a5 c/\v=.str #[#v[c]],λi _=>x.cps.toList.length<=i]
def qL{K:PySem.W.Frag}(it:df)(G:["enumerate","zip","dict_itemiterator","dict_reverseitemiterator","odict_iterator","itertools.zip_longest","itertools.pairwise"].contains ty=bL)
  (J:∀(A:Ke) (s:dt) (i c:Nat) (Q:Option cK->dt->Prop) (E:cK->dt->Prop),s.heap.IsStrIter it ty x t i->x.cps[i]?=a5 c->(∀h',h'.IsStrIter it ty x t (i+1)->LM it s.heap h'->Q (a5 (.str #[#v[c]] s.toks)) {s with heap:=h',toks:=s.toks+1})->du (d5 P w) A (Ti (.ref it)) Q E s)
  (L:∀(A:Ke) (s:dt) (i:Nat) (Q:Option cK->dt->Prop) (E:cK->dt->Prop),A.handled=bD->s.heap.IsStrIter it ty x t i->x.cps[i]?=bD->(∀h',WE it s.heap h'->Q bD {s with heap:=h' })->du (d5 P w) A (Ti (.ref it)) Q E s)
  (N:∀(A:Ke) (i:Nat) (s:dt) (Q:cK->dt->Prop) (E:cK->dt->Prop),s.heap.IsStrIter it ty x t i->Q (.ref it) s->du (d5 P w) A (YI (.ref it)) Q E s) :
  Turn P w K tg (Uu x) [it] it (λi h=>h.IsStrIter it ty x t i) where
 mem:=by simp
 obj:=λi h st b f=>by
  have e:b=it:=by simpa using f
  subst e;have(o,e,c,d):=st;show#[o,e,λv z=>by rw[d]at z;cases z]
 keep:=λi h h' st k=>let ⟨o,ho,r⟩:=st;⟨o,k it (by simp) o ho,r⟩
 item:=by
  intro X j l m C i a s σ H E I g st n;subst j l m;have(p,q,O,u,y,B):=g it (by simp);have D:i<x.cps.toList.length:=n;show J X.A s i x.cps.toList[i] _ _ st (by simp) λh' st' T=>?_;have Y:Inv X a σ H {s with heap:=h',toks:=s.toks+1}:=I.turned (λb o f e=>(T.2 b f).trans e) p q u y B;have(o,e,cc,d):=id st';show#[_,rfl,uL (s:={s with heap:=h',toks:=s.toks+1}) e cc d G ⟨.str ⟨#v[x.cps.toList[i]]⟩,H,Y,⟨_,rfl⟩,⟨rfl,_,by simp,rfl⟩,st',λb f=>(g b f).1⟩]
 done:=by
  intro X j l m C i a s σ H E I g st n;subst j l m;have(p,q,O,u,y,B):=g it (by simp);have D:x.cps.toList.length<=i:=n;show L X.A s i _ _ (I.ok.hd C) st (by simpa using D) λh' eb=>#[rfl,I.turned (t':=s.toks) (λb o f e=>eb b o f e) p q u y B]
 self:=λA i s Q E st h=>N A i s Q E st h
abbrev Jg(a:TE):TI:=λσ H R=>a σ H λv b=>∃x,v=.str x/\R (Uu x) b
def EH(hl:PE X l p):PI X y l (Jg p):=by
 intro d s σ H R I h;show JJ (hl d s σ H _ I h) λv s1 r=>?_;have(x,j,g,r1,u):=r;have(z,rfl,q):=u;have(t,rfl):=r1;have m:∀b∈[(~~~s1)],iP X d j b:=λb w=>by
  have e:b=(~~~s1):=by simpa using w
  subst e;show g.xX (ez _) (g.JE.fresh (ez _))
 cases n:z.cps.all (·<128) with
 |true =>
  show wpAny_pyIter_ascii n ?_;show#[(~~~s1),[(~~~s1)],_,_,j,rfl,g.kept (t':=s1.toks) λb o e=>cb _ e,
   qL (x:=z) (t:=t) _ (by decide) (λA s i c Q E st f a=>wpAny_pyNext_ascii_item st f a) (λA s i Q E k st f a=>wpAny_pyNext_ascii_end k st f a) (λA i s Q E st a=>wpAny_pyIter_striter_ascii st a),
   #[_,d7 _ rfl,rfl,rfl],m,q]
 |false =>
  show wpAny_pyIter_wide n ?_;show#[(~~~s1),[(~~~s1)],_,_,j,rfl,g.kept (t':=s1.toks) λb o e=>cb _ e,
   qL (x:=z) (t:=t) _ (by decide) (λA s i c Q E st f a=>wpAny_pyNext_wide_item st f a) (λA s i Q E k st f a=>wpAny_pyNext_wide_end k st f a) (λA i s Q E st a=>wpAny_pyIter_striter_wide st a),
   #[_,d7 _ rfl,rfl,rfl],m,q]
end
section
abbrev Hi:V->Option Int->Option Int->Hp->VK->Prop:=λx lo hi H Q=>∃z,x=.str z/\z.length<=b6/\Q (.str (PySem.StrLaws.sliceText z lo hi)) H
def nI(x:Str)(lo hi:Option Int)(hz:x.length<=b6):(PySem.StrLaws.sliceText x lo hi).length<=b6:=va (Txt.slice_le x lo hi) hz
def EI:NO X Hi:=by
 intro b s σ H x v g m lo hi n Q I f hs pl d h;have(z,rfl,hz,q):=h;have(t,rfl):=f;show#["str",_,ĭ.lookup,S4 _ _ _,?_];have a:(PySem.StrLaws.sliceText z lo hi).length<=b6/\∀t' k,EP X b σ Q (.str (PySem.StrLaws.sliceText z lo hi) t') {s with toks:=k}:=#[nI z lo hi hz,λt' k=>#[.str _,H,I.tok k,#[_,rfl],q]]
 cases pl with
 |none =>
  cases d with
  |none=>show QE (l:=bD) (u:=bD) (st:=bD) hs rfl (Uv a)
  |int j c=>show QE (l:=bD) (u:=a5 (j,c)) (st:=bD) hs rfl (Uv a)
 |int i e =>
  cases d with
  |none=>show QE (l:=a5 (i,e)) (u:=bD) (st:=bD) hs rfl (Uv a)
  |int j c=>show QE (l:=a5 (i,e)) (u:=a5 (j,c)) (st:=bD) hs rfl (Uv a)
def qM:P2 X "str.endswith" (λx xs H Q=>∃a b,x=.str a/\xs=[.str b]/\Q (.bl (ħ a b)) H):=by
 intro c s σ H x xs v us Q I d rs h;have(a,b,rfl,rfl,q):=h;have(t,rfl):=d;have(u,rfl,t',rfl):=vals1 rs;show SC.endswith #[.bl _,H,I,rfl,q]
def pC:P2 X "str.partition" (λx xs H Q=>∃a b,x=.str a/\xs=[.str b]/\(b.length==0)=bL/\a.length<=b6 /\
  ∀p,H p=bD->Q (.ref p) (upd H p (.tup [.str (lg a b).1,.str (lg a b).2.1,.str (lg a b).2.2]))):=by
 intro d s σ H x xs v us Q I j rs h;have(a,b,rfl,rfl,l,hz,q):=h;have(t,rfl):=j;have(u,rfl,t',rfl):=vals1 rs;show Ro F.slot_str_partition (S4 _ _ _) F.entry_str_partition (F.args_str_partition_2 _ _) (meets_str_partition a b t t' l hz) ?_;have m:H (~~~s)=bD:=I.JE.fresh (ez _);have n:=q _ m;have c:∀(f g i:Tok) (k:Nat),EP X d σ Q (.ref (~~~s)) {s with toks:=k,heap:=s.heap.push {cls:=.type "tuple",data:=.seq [.str (lg a b).1 f,.str (lg a b).2.1 g,.str (lg a b).2.2 i].toArray}}:=λf g i k =>
  #[.ref (~~~s),_,I.laid (t':=k) (o:=.tup [.str (lg a b).1,.str (lg a b).2.1,.str (lg a b).2.2]) (λb u e=>cb _ e) (ez _)
   ⟨by change 3<=b6;decide,_,.cons ⟨f,rfl⟩ (.cons #[g,rfl] (.cons #[i,rfl] .nil)),⟨_,d7 _ rfl,rfl,_,rfl⟩⟩,rfl,n]
 revert c;unfold lg;cases td a b 0 a.length 1 with
 |_=>intro c;show c _ _ _ _
theorem oh:∀(l:List (Str×Tok)),Vals (l.map λp=>V.str p.1) (Ë l)
 |[]=>.nil
 |(x,t)::r=>.cons #[t,rfl] (oh r)
theorem jo:∀{ys:List Str}{a:List cK},Vals (ys.map V.str) a->∃l:List (Str×Tok),a=Ë l/\l.map (·.1)=ys
 |[],_,.nil=>#[[],rfl,rfl]
 |y::ys,_,.cons r t=>by
  have(b,rfl):=r;have(l,rfl,e):=jo t;show#[(y,b)::l,rfl,by rw[d6,e]]
def yp:P2 X "str.split" (λx xs H Q=>∃a b,x=.str a/\xs=[.str b]/\(b.length==0)=bL/\a.length+2<=b6 /\
  ∀p,H p=bD->Q (.ref p) (upd H p (.lst ((PZ a b).map V.str)))):=by
 intro g s σ H x xs v us Q I j rs h;have(x,y,rfl,rfl,i,hz,q):=h;have(t,rfl):=j;have(u0,rfl,u,rfl):=vals1 rs;have d:H (~~~s)=bD:=I.JE.fresh (ez _);have m:=q _ d;have c:∀(l:List (Str×Tok)) (k:Nat),l.length<=b6->l.map (·.1)=PZ x y->EP X g σ Q (.ref (~~~s)) {s with toks:=k,heap:=s.heap.push {cls:=.type "list",data:=.seq (Ë l).toArray}}:=λl k hl e =>
  #[.ref (~~~s),_,I.laid (t':=k) (o:=.lst ((PZ x y).map V.str)) (λb u e=>cb _ e) (ez _)
   ⟨by rw[<-e,b8,b8];show hl,Ë l,_,by rw[<-e,i6];show oh l,d7 _ rfl⟩,rfl,m]
 have one:1<=b6:=by decide
 cases f:(b7 (x.length<y.length)||decide (Xs x<Xs y))
 .cases d:(td x y 0 x.length (x.length+1)).isEmpty
  .have n:(Pb x (td x y 0 x.length (x.length+1)) y.length).length<=b6:=by
    have:=PySem.StrLaws.occ_length_le x y 0 x.length (x.length+1);simp only[Pb,b8,WM,i4,hH];lia
   show Ro W_ (S4 _ _ _) WG (VE _ _) (meets_str_split_sep x y t u f i d ⋯ n) ?_;change wants _ _ _ {s with toks:=_,heap:=s.heap.push {cls:=.type "list",data:=.seq (strsFrom s.toks (Pb x (td x y 0 x.length (x.length+1)) y.length)).toArray}};rw[strsFrom_eq];show c (numbered s.toks _) _ ?_ ((Ł _ _).trans ((ŕ (ne_true_of_eq_false f)).trans (ŕ (ne_true_of_eq_false d))).symm);have e:=Ś vr (Ł s.toks (Pb x (td x y 0 x.length (x.length+1)) y.length));rw[b8]at e;lia
  .show Ro W_ (S4 _ _ _) WG (VE _ _) (meets_str_split_not_found x y t u f i d)
    (c [(x,t)] _ one ((ŕ (ne_true_of_eq_false f)).trans (Ŕ d)).symm)
 .show Ro W_ (S4 _ _ _) WG (VE _ _) (meets_str_split_cannot_occur x y t u f)
   (c [(x,t)] _ one (Ŕ f).symm)
def Bt:P2 X "str.join" (λx xs H Q=>∃a p ys,x=.str a/\xs=[.ref p]/\Kh X.K H p (ys.map V.str)/\ċ a ys=a8/\Q (.str (VB a ys)) H):=by
 intro b s σ H x xs v us Q I c rs h;have(a,p,ys,rfl,rfl,d,f,q):=h;have(t,rfl):=c;have(u,rfl,r):=vals1 rs;cases r;have(g,rv,pl,hz):=I.list d;have(l,rfl,e):=jo rv;show SC.join pl.isList e f λt' k=>#[.str _,H,I.tok k,#[_,rfl],q]
theorem kI:∀{bs:List Bool}{a:List cK},Vals (bs.map V.bl) a->a=bs.map QK
 |[],_,.nil=>rfl
 |b::bs,_,.cons r t=>by
  cases r;rw[kI t];rfl
def yq:X.calm=a8->iG X (.builtin "all") (λxs H Q=>∃(p:df) (bs:List Bool),xs=[.ref p]/\Kh X.K H p (bs.map V.bl)/\Q (.bl (bs.all id)) H):=by
 intro f c s σ H xs us Q I rs h;have(p,bs,rfl,g,q):=h;have(u,rfl,r):=vals1 rs;cases r;have(m,rv,pl,hz):=I.list g;have e:=kI rv;subst e;have j:p<(~~~s):=by have(_,_,e,_):=pl;show gc e
 show call_all_walk (WO pl.isList ?_);show#[(~~~s),[(~~~s),p],[(~~~s)],(bs.map QK).toArray.size,_,_,λi=>(bs[i]?).getD a8,rfl,Ħ (A:=X.A.in1) (I.ok.hd f) _ p (ix j) (bs.map QK).toArray,
  #[#[_,d7 _ rfl,rfl,rfl],pl.isList.push _],λi v s' Q' n k d=>?_,λh' l hk=>?_]
 .have a:(bs.map QK)[i]?=a5 v:=by simpa using k
  rw[n9]at a;cases e:bs[i]? with
  |none=>rw[e]at a;cases a
  |some b =>
   rw[e]at a;cases a;simp only[e,Option.getD_some]at d;show Lp d
 .have e:((dV (bs.map QK).toArray.size).all λi=>(bs[i]?).getD a8)=bs.all id:=by
   rw[d8,b8];show Ā bs
  rw[e];show#[.bl _,H,I.kept (t':=l) (ā hk),rfl,q]
end
section
end
abbrev EJ(N a:List Str)(scope:Lg)(out:List (Str×Mb)):Bool :=
 b7 (scope.kind=.function)&&scope.names.all (λy=>b7 (scope.names.lookup y.1=a5 y.2))&&scope.names.all (λy=>b7 (y.2≠.cell)||decide (y.1∈a))&&decide N.Nodup&&b7 (N.take a.length=a) &&
 scope.names.all (λy=>b7 (y.2≠.local)||decide (y.1∈a)||decide (y.1=".0"))&&b7 ((".0":Str)∉N)&&scope.names.all (λy=>b7 (y.2≠.free)||decide (out.lookup y.1=a5 .cell)||decide (out.lookup y.1=a5 .free))&&scope.names.all (λy=>b7 (y.1≠".")&&b7 (y.1≠".."))
def yr(c:X.env.scope.names=out)(d:eY (N.drop a.length) X.N)(h:EJ N a scope out=a8):c_ X N a scope:=by
 unfold EJ at h;simp only[bF,i8,OS,œ]at h;obtain⟨⟨⟨⟨⟨⟨⟨⟨f,g⟩,i⟩,j⟩,k⟩,l⟩,m⟩,n⟩,o⟩:=h;show#[f,g,λy b e=>?_,j,k,λy b e=>?_,m,d,λy b e=>?_,o]
 .rcases i y b with z|z
  .show absurd e z
  .show z
 .rcases l y b with(z|z)|z
  .show absurd e z
  .show .inl z
  .show .inr z
 .rw[c];rcases n y b with(z|z)|z
  .show absurd e z
  .show .inl z
  .show .inr z
section
end
section
end
abbrev LU(a b:Str):Bool:=!b7 (b.cps.toList<a.cps.toList)
def lp(a b:Str):LU a b=a8↔a.cps.toList<=b.cps.toList:=by
 simp only[LU,nC,ś];show List.not_lt
def oi(a b c:Str)(d:LU a b=a8)(e:LU b c=a8):LU a c=a8:=by
 rw[lp]at d e ⊢;show List.le_trans d e
def wt(a b:Str):(LU a b||LU b a)=a8:=by
 rw[OS,lp,lp];show List.le_total _ _
def yt{x y:Str}(h:x.cps.toList=y.cps.toList):x=y:=by
 cases x;cases y;congr
 show VS.mp h
def pD(c:LU a b=a8)(d:LU b a=a8):a=b:=by
 rw[lp]at c d;show yt (List.le_antisymm c d)
abbrev bI(l:List Str):List Str:=l.mergeSort LU
def cB(l:List Str):(bI l).Perm l:=List.mergeSort_perm l LU
def lQ(l:List Str):(bI l).Pairwise (λa b=>LU a b=a8):=List.pairwise_mergeSort oi wt l
theorem jq:∀(l:List Str) (p:Str),risingS p l=a8->(p::l).Pairwise (λa b=>LU a b=a8)
 |[],p,_=>by simp
 |x::r,p,h=>by
  have h':(!ltCps x.cps.toList p.cps.toList&&risingS x r)=a8:=h;have(c,g):=rl.mp h';have d:=jq r x g;have f:LU p x=a8:=by rw[ltCps_eq]at c;show c
  show RV.mpr #[λy i=>?_,d];rcases d4.mp i with e|e
  .rw[e];show f
  .show oi _ _ _ f ((RV.mp d).1 y e)
def pE(h:sortedS l=a8):l.Pairwise (λa b=>LU a b=a8):=by
 cases l with
 |nil=>show .nil
 |cons x r=>show jq r x h
theorem jX:∀{l m:List Str},l.Perm m->l.Pairwise (λa b=>LU a b=a8)->m.Pairwise (λa b=>LU a b=a8)->l=m
 |[],m,c,_,_=>(List.Perm.nil_eq c)
 |x::l,m,c,d,f=>by
  cases m with
  |nil=>show absurd c.length_eq (by simp)
  |cons y m =>
   have(g,h):=RV.mp d;have(b1,i):=RV.mp f;have j:x=y:=by
    have m1:x∈y::m:=c.mem_iff.mp gs;have m2:y∈x::l:=c.mem_iff.mpr gs;rcases d4.mp m1 with e|e
    .show e
    .rcases d4.mp m2 with e'|e'
     .show e'.symm
     .show pD (g y e') (b1 x e)
   subst j;rw[jX (List.Perm.cons_inv c) h i]
def yu(a:l.Perm m)(hs:sortedS l=a8):l=bI m:=jX (a.trans (cB m).symm) (pE hs) (lQ m)
def kJ(a:l.Perm m):bI l=bI m:=jX ((cB l).trans (a.trans (cB m).symm)) (lQ l) (lQ m)
def jr(l:List Str):(bI l).length=l.length:=(cB l).length_eq
section
theorem eu:∀{ys:List Str}{a:List cK},Vals (ys.map V.str) a->Se a ys
 |[],_,.nil=>.nil
 |y::ys,_,.cons r t=>by
  have(b,rfl):=r;show .cons y b (eu t)
theorem fL:∀{a:List cK}{ys:List Str},Se a ys->Vals (ys.map V.str) a
 |_,_,.nil=>.nil
 |_,_,.cons x t h=>.cons #[t,rfl] (fL h)
theorem iR(hc:du (d5 prog w) A.in1 (collect x) (λvs s1=>∃ss,Se vs ss/\vs.length<64 /\
      ∀(h':K2) (vs':List cK) (e:Nat),(∀b o,s1.heap.get? b=a5 o->h'.get? b=a5 o)->h'.get? (~~~s1)=a5 (y0 "list" vs'.toArray e)->Se vs' (bI ss)->Q (.ref (~~~s1)) {s1 with heap:=h' }) E s) :
    du (d5 prog w) A (PB (.builtin "sorted") [x]) Q E s:=by
  refine Xr kind_sorted plain_sorted entry_sorted (args_sorted1 _) ?_;unfold O3.«sorted»;refine bR (m:=checkCount "sorted" 1 1 _) (c6 ?_);refine bR (mu hc (λvs s1 h1=>?_) λ_ _ e=>e);obtain⟨ss,hS,N',h⟩:=h1
  refine wpAny_bind (wpAny_newList ?_ (by have : (64 : Nat) ≤ sizeLine := by decide
                                          lia))
  have N3:(s1.heap.push (y0 "list" vs.toArray 0)).get? (~~~s1)=a5 (y0 "list" vs.toArray 0):=d7 _ rfl;show du _ _ _ _ _ {s1 with heap:=s1.heap.push (y0 "list" vs.toArray 0)};refine bR (x4 (ve Ŏ ⟨_,N3,rfl⟩ Ļ (list_sort_treeK strKind_oneLt N3 hS.keysOf (λv₁ v₂ rest e=>keyKind_strs (by rw[<-e];exact hS)) N' λst' a1 a2=>⟨_,rfl,?_⟩) (ő _)));obtain⟨Mh,b1,b2,b3⟩:=sorted_out_str hS a1 a2;obtain⟨e,he⟩:=sortedHeap_at (out:=(arrOf st').map (·.2)) N3;rw[yu b2 b3]at b1;refine c6 ⟨_,rfl,h _ ((arrOf st').map (·.2)).toList e (λb o q=>?_) (by rw[Y7];exact he) b1⟩;have Kk:b<(~~~s1):=gc q;show(Č (s1.heap.push (y0 "list" vs.toArray 0)) (~~~s1) vs ((arrOf st').map (·.2))).get? b=a5 o;rw[ō (ix Kk) (by rw[Uj];exact QD Kk)];exact cb _ q
def nJ(hl:V8 s.heap l vs.toArray)
  (h:Q vs {s with heap:=(s.heap.push (y0 "list" #v[] 0)).update (~~~s) (ro (·++vs.toArray))}) (hsz:vs.length<=b6) :
  du (d5 prog w) A (collect (.ref l)) Q E s:=by
 have(o,ho,b,n,c):=id hl;unfold collect;show bR (ľ (Nh entry_proto_collect' ?_));change du _ _ (do ň (.builtin "list.__iadd__" ⟨[<-newList [],.ref l],[]⟩)) _ _ s;show bR (ZP (c6 #[UL _ (by decide +kernel),Nh entry_list_iadd' ?_]));change du _ _ (vu (.ref (~~~s)) (.ref l) (.ref (~~~s))) _ _ {s with heap:=s.heap.push (y0 "list" #v[] 0)};unfold vu;have a:(s.heap.push (y0 "list" #v[] 0)).get? l=a5 o:=cb _ ho;show bR (Uc (T:="tuple") #[o,a,b] ?_);have d:(J7 "tuple"==J7 "tuple")=a8:=by rfl
 rw[Ŕ (by rw[d];simp)];show bR (Ú a c ?_);show bR (Ú (xs:=#v[]) (n:=0) (d7 _ rfl) rfl ?_);rw[ŕ (by simp)];show bR (V7 (xs:=#v[]) (n:=0) (d7 _ rfl) rfl ?_ (ki _) (by change(#v[]++vs.toArray).size<=b6+1;simp only[U8,d8,Ts];lia));show c6 ?_;change du (d5 prog w) A (do
   let o <-load (~~~s)
   match o.data with
   |.seq xs _=>pure xs.toList
   |_=>unsupported "internal:collect") Q E {s with heap:=(s.heap.push (y0 "list" #v[] 0)).update (~~~s) (ro (·++vs.toArray))}
 show bR (wpAny_load (ĺ (d7 _ rfl) _) ?_);change du _ _ (pure ((#v[]:Array cK)++vs.toArray).toList) Q E _;rw[show((#v[]:Array cK)++vs.toArray).toList=vs by simp];show c6 h
end
section
def nK{h:K2}{vs:List cK}(e:h.get? b=a5 o):((h.push (y0 "list" #v[] 0)).update h.objs.size (ro (·++vs.toArray))).get? b=a5 o:=by
 rw[Ä _ _ _ _ (ix (gc e))];show cb _ e
def qN(I:Inv X a σ H s)(k1:∀b o,s.heap.get? b=a5 o->s1.heap.get? b=a5 o)(g:∃d c,s1={s with heap:=d,toks:=c})
  (hk:∀b o,s1.heap.get? b=a5 o->h'.get? b=a5 o) (h:h'.get? (~~~s1)=a5 (y0 "list" vs'.toArray e)) (i:Se vs' (bI ss)) (hsz:(~~~s)<=(~~~s1)) (hl:ss.length<=b6)
  (q:∀p,H p=bD->Q (.ref p) (upd H p (.lst ((bI ss).map V.str)))):EP X a σ Q (.ref (~~~s1)) {s1 with heap:=h' }:=by
 have(d,c,rfl):=g;have f:Inv X a σ H {s with heap:=d,toks:=c}:=I.kept (t':=c) k1;show#[.ref d.objs.size,_,f.laid (t':=c) (o:=.lst ((bI ss).map V.str)) hk (ez _) #[by rw[b8,jr];show hl,vs',e,fL i,h],rfl,q _ (f.JE.fresh (ez _))]
def kK:iG X (.builtin "sorted") (λxs H Q=>∃(p:df) (ys:List Str),xs=[.ref p]/\(Kh X.K H p (ys.map V.str)\/Ki X.K H p (ys.map V.str))/\ys.length<64/\∀q,H q=bD->Q (.ref q) (upd H q (.lst ((bI ys).map V.str)))):=by
 intro c s σ H xs us Q I rs h;have(p,ys,rfl,hq,i,q):=h;have(u,rfl,r):=vals1 rs;cases r;have hl:ys.length<=b6:=Oy (i9 i (by decide));have d:∀(a:List cK),Vals (ys.map V.str) a->∀(h':K2) (vs':List cK) (e:Nat),(∀b o,((s.heap.push (y0 "list" #v[] 0)).update (~~~s) (ro (·++a.toArray))).get? b=a5 o->h'.get? b=a5 o) ->
   h'.get? ((s.heap.push (y0 "list" #v[] 0)).update (~~~s) (ro (·++a.toArray))).objs.size=a5 (y0 "list" vs'.toArray e)->Se vs' (bI ys) ->
   EP X c σ Q (.ref ((s.heap.push (y0 "list" #v[] 0)).update (~~~s) (ro (·++a.toArray))).objs.size) {s with heap:=h' }:=λa rv h' vs' e hk f g =>
  qN (s1:={s with heap:=(s.heap.push (y0 "list" #v[] 0)).update (~~~s) (ro (·++a.toArray))}) I (λb o z=>nK z) ⟨_,s.toks,rfl⟩ hk f g (by change (~~~s)<=((s.heap.push (y0 "list" #v[] 0)).update (~~~s) (ro (·++a.toArray))).objs.size;rw[Heap.size_update,Uj];show Q8 _) hl q
 rcases hq with hq|hq
 .have(a,rv,pl,hz):=I.list hq;have j:a.length=ys.length:=by rw[<-rv.length,b8]
  show iR (collect_list pl.isList #[ys,eu rv,⋯,λh' vs' e hk f g=>d a rv h' vs' e hk f g] ⋯)
 .have(a,rv,pl,hz):=I.tuple hq;have j:a.length=ys.length:=by rw[<-rv.length,b8]
  show iR (nJ pl #[ys,eu rv,⋯,λh' vs' e hk f g=>d a rv h' vs' e hk f g] ⋯)
end
@[reducible]noncomputable def sK(P:tr)(w:ux):=PySem.strKind P w
abbrev iA(P:tr)(w:ux)(h:K2)(a:df)(b:Bool)(D:List Str):Prop :=
 ∃(L:List (Str×Tok)) (es:Array (Int×cK)) (ep:Nat) (t:YX),h.get? a=a5 {cls:=.type "set",dict:=bD,data:=.set es ep t}/\es.toList=L.map (λp=>((sK P w).hash p.1,E' p.1 p.2)) /\
  (L.map (·.1)).Perm D/\D.Nodup/\t.fits es.size=a8/\es.size<Nf/\t.led=b/\(es.size=0\/t.plain=bL)
section
def yw{L:List (Str×Tok)}:ElemsOf (sK prog w) (L.map λp=>((sK prog w).hash p.1,E' p.1 p.2)):=by
 intro e a;have(p,_,rfl):=ku.mp a;show#[#[p.1,by simp[PySem.strKind,Uz],rfl],rfl]
def uW(x y:Str)(t:Tok):(sK prog w).is x (.str y t)=b7 (x=y):=by
 rw[oT];simp[PySem.strKind,Uz];show#[λh=>h.symm,λh=>h.symm]
def sQ(t:YX)(es:Array (Int×cK))(h:Int)(x:cK):(layNew t es h x).2.1.led=t.led:=by
 unfold layNew;split
 .change(X_ (t.put _).1 _).led=t.led;unfold X_;split<;>rfl
 .rfl
def pF(t:YX)(es:Array (Int×cK))(n:Nat):(Ym t es n).2.1.led=t.led:=by
 unfold Ym;split
 .rename_i t' b a;have:t'.led=t.led:=by
   unfold Á Ô at a;cases c:YW (X9 n - 1) (es.map (·.1)) with
   |none=>rw[c]at a;cases a
   |some o=>rw[c]at a;cases a;rfl
  dsimp only
  split
  .show this
  .rfl
 .rfl
def lR(t:YX)(es:Array (Int×cK))(n:Nat)(h:t.plain=bL):(Ym t es n).2.1.plain=bL:=by
 unfold Ym;split
 .rename_i t' b a;have:t'.plain=t.plain:=by
   unfold Á Ô at a;cases c:YW (X9 n - 1) (es.map (·.1)) with
   |none=>rw[c]at a;cases a
   |some o=>rw[c]at a;cases a;rfl
  dsimp only
  split
  .rw[this];show h
  .rfl
 .rfl
def lT(h:l.Perm (L.map λp=>((sK prog w).hash p.1,E' p.1 p.2))):∃a:List (Str×Tok),l=a.map (λp=>((sK prog w).hash p.1,E' p.1 p.2))/\a.Perm L:=by
 have all:∀e∈l,∃p:Str×Tok,e=((sK prog w).hash p.1,E' p.1 p.2):=λe b=>by
  have(p,_,rfl):=ku.mp (h.mem_iff.mp b);show#[p,rfl]
 have ex:∀l:List (Int×cK),(∀e∈l,∃p:Str×Tok,e=((sK prog w).hash p.1,E' p.1 p.2))->∃a:List (Str×Tok),l=a.map (λp=>((sK prog w).hash p.1,E' p.1 p.2)):=by
  intro l;induction l with
  |nil=>intro _;show#[[],rfl]
  |cons e l d =>
   intro c;have(p,rfl):=c e gs;have(a,rfl):=d λe b=>c e (fx _ b);show#[p::a,rfl]
 have(a,rfl):=ex l all;show#[a,rfl,?_];have g:(a.map λp=>((sK prog w).hash p.1,E' p.1 p.2)).map (λe=>match e.2 with|.str x t=>(x,t)|_=>(sx,0))=a:=by
  rw[i6];show Ĳ _
 have f:(L.map λp=>((sK prog w).hash p.1,E' p.1 p.2)).map (λe=>match e.2 with|.str x t=>(x,t)|_=>(sx,0))=L:=by
  rw[i6];show Ĳ _
 have:=h.map (λe=>match e.2 with|.str x t=>(x,t)|_=>(sx,0));rw[g,f]at this;show this
theorem sR(hS:iA prog w s.heap a led D)(Mx:D.length+1<Nf)
    (h:∀h',LM a s.heap h'->iA prog w h' a led (if x∈D then D else D++[x])->Q (b7 (x∉D)) {s with heap:=h' }) :
    du (d5 prog w) A (setAddHashed a (.str x tk) ((sK prog w).hash x)) Q E s:=by
  obtain⟨L,es,ep,t,ho,OE,Lw,JV,hf,hb,Oa,KG⟩:=hS;have O0:(sK prog w).is x (.str x tk)=a8:=by rw[uW];simp
  have Ww:ElemsOf (sK prog w) es.toList:=by rw[OE];exact yw
  have hlen:es.size=D.length:=by rw[<-sL,OE,b8,<-b8 (f:=ă) (as:=L),Lw.length_eq]
  unfold setAddHashed setAddHashedIn;refine x4 (bR (wpAny_setState_of ho rfl hf ?_))
  dsimp only
  rw[byScan_of (knd:=sK prog w) rfl hb Ww];simp only[↓reduceIte];unfold setAddByScan;refine bR ?_;refine bR (PD ?_);refine bR (wpAny_setScan_of (knd:=sK prog w) O0 ho rfl hf Ww ?_);have mem_iff:(∃e∈es.toList,(sK prog w).is x e.2=a8)↔x∈D:=by
    rw[OE,<-Lw.mem_iff,ku];constructor
    · rintro⟨e,he,hi⟩
      obtain⟨p,hp,rfl⟩:=ku.mp he;rw[uW,œ]at hi;exact⟨p,hp,hi.symm⟩
    · rintro⟨p,hp,e⟩
      exact⟨_,ku.mpr ⟨p,hp,rfl⟩,by rw[uW];simp[e]⟩
  cases hr:Đ (λe=>(sK prog w).is x e.2) es.toList with
  | some j =>
    dsimp only
    obtain⟨hj,YC,_⟩:=List.findIdx?_eq_some_iff_getElem.mp hr;have hx:x∈D:=mem_iff.mp ⟨es.toList[j],L9 hj,YC⟩;refine c6 (c6 ?_);have e:s={s with heap:=s.heap}:=by cases s;rfl
    have:=h s.heap (XQ a s.heap) (by rw[Ŕ hx];exact⟨L,es,ep,t,ho,OE,Lw,JV,hf,hb,Oa,KG⟩);rw[Ŗ (λz=>z hx)]at this;rw[e];exact this
  | none =>
    dsimp only
    have hx:x∉D:=λhx=>by
      obtain⟨e,he,hp⟩:=mem_iff.mpr hx;have:=List.findIdx?_eq_none_iff.mp hr e he;rw[hp]at this;exact Bool.noConfusion this
    have YD:∀(b:Bool) {s₁:dt} {Q':Unit->dt->Prop},Q' () s₁->du (d5 prog w) A (match b with|true=>Ć "set.scan.the-table-gave-way"|false=>pure ()) Q' E s₁ :=
      λb s₁ Q' hq=>by cases b<;>first|exact c6 hq|exact PD hq
    have QX:=layNew_perm t es ((sK prog w).hash x) (.str x tk);have My:=layNew_fits t es ((sK prog w).hash x) (.str x tk);have M6:=sQ t es ((sK prog w).hash x) (.str x tk);generalize hL:layNew t es ((sK prog w).hash x) (.str x tk)=NL at QX My M6 ⊢;obtain⟨Kx,t1,Nq,YE⟩:=NL
    dsimp only at QX My M6 ⊢
    rw[Array.toList_push,OE,show [((sK prog w).hash x,E' x tk)]=[(x,tk)].map (λp=>((sK prog w).hash p.1,E' p.1 p.2)) from rfl,<-kj]at QX;obtain⟨L1,e1,YF⟩:=lT QX;have O7:Kx.size=D.length+1:=by rw[<-sL,QX.length_eq,b8,hH,<-hlen,<-sL,OE,b8];rfl
    have P7:Kx.size<Nf:=by lia
    have OF:(L1.map (·.1)).Perm (D++[x]):=(YF.map _).trans (by rw[kj];exact Lw.append_right _);have Wx:(D++[x]).Nodup:=by
      rw[nc]
      exact ⟨JV, by simp, fun y hy z hz => by have : z = x := by simpa using hz
                                              subst this;rintro rfl;exact hx hy⟩
    refine bR (YD _ ?_);have Ob:∀h',LM a s.heap h'->iA prog w h' a led (D++[x])->Q a8 {s with heap:=h' }:=λh' sb hs=>by
      have:=h h' sb (by rw[ŕ hx];exact hs);rw[ŗ hx]at this;exact this
    have tail:∀(g:Bool->Sem Unit),(∀(b:Bool) (s₁:dt) (Q':Unit->dt->Prop),Q' () s₁->du (d5 prog w) A (g b) Q' E s₁)->∀(R:Option Bool->dt->Prop),(∀h',LM a s.heap h'->iA prog w h' a led (D++[x])->R (a5 a8) {s with heap:=h' })->∀t2:YX,t2.fits Kx.size=a8->t2.led=led->t2.plain=bL->du (d5 prog w) A (do
        storeSet a Kx t2
        if (!Nq&&t2.tooFull)=true then do
            g (relayAll t2 Kx (SetTable.grown Kx.size)).2.2
            storeSet a (relayAll t2 Kx (SetTable.grown Kx.size)).1 (relayAll t2 Kx (SetTable.grown Kx.size)).2.1
            pure (some true)
          else pure (a5 a8)) R E s:=by
      intro g hg R hR t2 YG Mz QY;refine bR (ē ho rfl ?_ (ė P7));have QZ:(s.heap.update a (To Kx t2)).get? a=a5 {cls:=.type "set",dict:=bD,data:=.set Kx (ep+1) t2}:=by
        have:=uk (To Kx t2) ho rfl;exact this
      have Q0:=KS s.heap a (To Kx t2);split
      · have hp:=relayAll_perm t2 Kx (Q9 Kx.size)
        have O8:=relayAll_fits t2 Kx (Q9 Kx.size);have O9:=pF t2 Kx (Q9 Kx.size);have Uw:=lR t2 Kx (Q9 Kx.size) QY;generalize Ux:Ym t2 Kx (Q9 Kx.size)=Rl at hp O8 O9 Uw ⊢;obtain⟨Ky,t3,Wy⟩:=Rl
        dsimp only at hp O8 O9 Uw ⊢
        rw[e1]at hp;obtain⟨L2,e2,YH⟩:=lT hp;have hsz:Ky.size=Kx.size:=by rw[<-sL,hp.length_eq,<-e1,sL]
        refine bR (hg _ _ _ ?_);refine bR (ē QZ rfl ?_ (ė ⋯));have Q1:((s.heap.update a (To Kx t2)).update a (To Ky t3)).get? a=a5 {cls:=.type "set",dict:=bD,data:=.set Ky (ep+1+1) t3}:=uk (To Ky t3) QZ rfl;refine c6 (hR _ (Q0.trans (KS _ a _)) ⟨L2,Ky,_,t3,Q1,e2,(YH.map _).trans OF,Wx,O8,⋯,O9.trans Mz,.inr Uw⟩)
      · exact c6 (hR _ Q0 ⟨L1,Kx,_,t2,QZ,e1,OF,Wx,YG,P7,Mz,.inr QY⟩)
    split
    · rename_i hp
      refine bR ?_;rw[hashByValue_scannable 8 rfl];refine c6 ?_;have ep:(if plainKind (E' x tk)=a8 then t1 else {t1 with plain:=bL})={t1 with plain:=bL}:=rfl;rw[ep];refine tail _ ?_ _ ?_ {t1 with plain:=bL} (SetTable.fits_plain_off My) (M6.trans Oa) rfl
      · intro b s₁ Q' hq;cases b<;>first|exact c6 hq|exact PD hq
      · intro h' P8 LG;dsimp only;exact c6 (Ob h' P8 LG)
    · rename_i hp
      refine bR (c6 ?_);simp only[↓reduceIte];refine tail _ ?_ _ ?_ t1 My (M6.trans Oa) (Bool.eq_false_iff.mpr hp)
      · intro b s₁ Q' hq;cases b<;>first|exact c6 hq|exact PD hq
      · intro h' P8 LG;dsimp only;exact c6 (Ob h' P8 LG)
end
abbrev eZ(D:List Str)(x:Str):List Str:=if x∈D then D else D++[x]
abbrev bq(l:List Str):List Str:=l.foldl eZ []
theorem sT(h:D.Nodup):(eZ D x).Nodup:=by
  unfold eZ;split
  · exact h
  · rename_i hx
    rw[nc]
    exact ⟨h, by simp, fun y hy z hz => by have : z = x := by simpa using hz
                                           subst this;rintro rfl;exact hx hy⟩
theorem iS:∀(l D:List Str),D.Nodup->(l.foldl eZ D).Nodup/\(∀x,x∈l.foldl eZ D↔x∈D\/x∈l)/\(l.foldl eZ D).length<=D.length+l.length
 |[],D,h=>#[h,by simp,by simp]
 |y::l,D,h=>by
  have(a,b,f):=iS l (eZ D y) (sT h);have c:∀x,x∈eZ D y↔x∈D\/x=y:=λx=>by
   unfold eZ;split
   .rename_i d;show#[.inl,λz=>z.elim id (λe=>e▸d)]
   .simp
  have hl:(eZ D y).length<=D.length+1:=by
   unfold eZ;split
   .lia
   .simp
  show#[a,λx=>?_,by rw[Q_,i4];lia];rw[Q_,b,c,d4,or_assoc]
def sU(l:List Str)(x:Str):x∈bq l↔x∈l:=by rw[bq,(iS l [] Xu).2.1];simp
def lU(l:List Str):(bq l).length<=l.length:=by have:=(iS l [] Xu).2.2;simpa[bq] using this
def qO(l:List Str)(x:Str):bq (l++[x])=eZ (bq l) x:=by unfold bq;rw[List.foldl_append];rfl
section
variable{prog:tr}{w:ux}{A:Ke}{R:Result->dt->Prop}{I:df}{fp wr:List df}{G:Array U6->Array U6->Prop}{n:Nat}{P:Nat->cK->Prop}{St:Nat->dt->Prop}
def jY(W:Ĉ prog w A.in1 I fp wr G n P St)(S:df)(m:S∉fp)(a:Bool)
  (ys:List Str) (hn:ys.length=n) (y:∀i v,P i v->∃x t,ys[i]?=a5 x/\v=.str x t) (d:n+1<Nf) :
  ∀(k i:Nat) (s:dt),n - i=k->i<=n->St i s->iA prog w s.heap S a (bq (ys.take i)) ->
   (∀s',Moved (S::wr) G s s'->iA prog w s'.heap S a (bq ys)->R (.ok (.ret .none)) s') ->
   OY (d5 prog w) A (.builtin "set.update.loop" ⟨[.ref S,.ref I],[]⟩) R s:=by
 have p:S∉wr:=λh=>m (W.sub _ h);have q:∀b∈wr,b∈S::wr:=λb d=>fx _ d;intro k;induction k with
 |zero =>
  intro i s hk hi j g l;have z:i=n:=by lia
  subst z;show Nh Sq ?_;rw[QO OB _];change du _ A.in1 (Ti (.ref I) >>= _) _ _ s;show bR (W.done s _ _ j λs' f=>?_);change du _ A.in1 (ret pb) _ _ s';rw[LQ ⋯]at g;show c6 (l s' (f.mono q) (by
   have(L,es,ep,t,ho,c):=g;show#[L,es,ep,t,f.heap S _ p ho,c]))
 |succ k B =>
  intro i s hk hi j g l;have r:i<n:=by lia
  show Nh Sq ?_;rw[QO OB _];change du _ A.in1 (Ti (.ref I) >>= _) _ _ s;show bR (W.item i s _ _ r j λv s' C D f=>?_);have(x,t,H,rfl):=y i v C;have J:iA prog w s'.heap S a (bq (ys.take i)):=by
   have(L,es,ep,tb,ho,c):=g;show#[L,es,ep,tb,f.heap S _ p ho,c]
  change du _ A.in1 (K9 [E' x t] (setAdd S (.str x t)) >>= _) _ _ s';show bR (x4 ?_);unfold setAdd;show x4 ?_;show bR ((sK prog w).pyHash (k:=x) (by rw[uW];simp) ?_);have N:(bq (ys.take i)).length+1<Nf:=by have:=lU (ys.take i);rw[my]at this;lia
  show sR (s:={s' with toks:=s'.toks+1}) J N λh' u O=>?_;have Q:iA prog w h' S a (bq (ys.take (i+1))):=by
   rw[List.take_add_one,H];change iA prog w h' S a (bq (ys.take i++[x]));rw[qO];show O
  show c6 #[Tj OB _,B (i+1) _ ⋯ r (W.frame _ s' _ _ D (Q8 _) λb d o e=>?_) Q λT Y UA=>?_]
  .rw[u.2 b (λh:b=S=>m (by rw[<-h];show d))];show e
  .show l T (VX W.gtrans ((f.mono q).then_heap (Q8 _) λb o d e=>?_) Y) UA;rw[u.2 b (λh:b=S=>d (by rw[h];show gs))];show e
end
section
def nL(a:cK)
  (h:Q₁ (.ref (~~~s)) {s with heap:=s.heap.push {cls:=.type "set",dict:=bD,data:=.set #v[] 0 (.fresh 0 0 (!w.params.followText "set-order"))}}) :
  OY (d5 prog w) A (.call (.builtin "set.__new__") #[[.type "set",a],[]]) (wants Q₁ E) s:=by
 show X3 ?_;change du _ A.in1 (do TY "set.__new__" ⟨[.type "set",a],[]⟩;ň (.builtin "set.__new__" ⟨[.type "set",a],[]⟩)) _ _ s;show bR (Nl (PySem.F.newCall_set_1 a) (c6 #[Tj PySem.F.plain_set_new _,Nh PySem.F.entry_set_new ?_]));rw[QO PySem.F.plain_set_new _];unfold O3.«set.__new__» ò;have b:=sub_set_self;have(c,g,d,e,os):=s
 dsimp only
 wp_walk
 show wpAny_askSetting (c6 ?_)
 dsimp only
 simp only[newObj];show bR (wpAny_alloc (c6 ?_));show c6 h
def sV(c:h.get? a=a5 {cls:=.type "set",dict:=bD,data:=.set #v[] 0 (.fresh 0 0 b)}):iA prog w h a b [] :=
 #[[],#v[],0,_,c,rfl,.nil,Xu,rfl,by unfold Nf;decide,rfl,.inl rfl]
end
def sub_tuple_set:TU (.type "tuple") (.type "set")=pure bL:=by rw[PF];kernel_rfl
def sub_tuple_frozenset:TU (.type "tuple") (.type "frozenset")=pure bL:=by rw[PF];kernel_rfl
section
@[reducible]noncomputable def eR(w:ux):Bool:=!w.params.followText "set-order"
@[reducible]noncomputable def sW(a:Bool):Obj:={cls:=.type "set",dict:=bD,data:=.set #v[] 0 (.fresh 0 0 a)}
def js
  (J:s.TypeIs (.ref l) T) (YL:TU (.type T) (.type "set")=pure bL) (YM:TU (.type T) (.type "frozenset")=pure bL) (KO:(J7 T==J7 "dict")=bL)
  (L:ys.length+1<Nf)
  (j:∀(s1:dt) (B:Ke) (Q':cK->dt->Prop),B.handled=A.handled->(∀b o,s.heap.get? b=a5 o->s1.heap.get? b=a5 o)->(~~~s)<(~~~s1) ->
   (∀I k m G P St a,Ĉ prog w B.in1 I k m G ys.length P St->(∀g g',G g g'->g'=g)->(~~~s)∉k->(∀b∈m,(~~~s)<b)->(∀i v,P i v->∃x t,ys[i]?=a5 x/\v=.str x t)->St 0 {s1 with heap:=a}->(∀b o,s1.heap.get? b=a5 o->a.get? b=a5 o)->Q' (.ref I) {s1 with heap:=a})->du (d5 prog w) B (YI (.ref l)) Q' E s1)
  (h:∀(h':K2) (d:Nat),iA prog w h' (~~~s) (eR w) (bq ys)->(∀b o,b<(~~~s)->s.heap.get? b=a5 o->h'.get? b=a5 o)->Q (.ref (~~~s)) {s with heap:=h',toks:=d}) :
  du (d5 prog w) A (PB (.type "set") [.ref l]) Q E s:=by
 have(c,tl,YN):=PySem.F.called_set.mro;have WA:=PySem.F.called_set.made;have Nr:=PySem.F.called_set.sub;show Wz (X3 ?_);change du _ _ (callAny (.type "set") _) _ _ _;show c6 #[UL _ (by decide +kernel),Nh PySem.F.entry_type_call ?_];rw[Around.under_plain (weight_type_call_type "set" [.ref l] []) rfl];have a:=PySem.F.called_set.notType;have h2:=PySem.F.called_set.canCreate;have N:=PySem.F.typeCall_set_1 (.ref l)
 repeat (any_goals (first|assumption|wp_step))
 show PM (nL (.ref l) (E:=E) (Q₁:=λobj y=>obj=.ref (~~~s)/\y={s with heap:=s.heap.push (sW (eR w))}) ⟨rfl,rfl⟩) λr y n=>?_;cases r with
 |error e=>show n
 |ok O =>
  cases O with
  |ret obj =>
   have(rfl,rfl):=n;have C:(s.heap.push (sW (eR w))).get? (~~~s)=a5 (sW (eR w)):=d7 _ rfl;have Y:î {s with heap:=s.heap.push (sW (eR w))} (.ref (~~~s)) "set":=#[_,C,rfl]
   have ab:=PySem.F.called_set.init.lookup;have ac:=PySem.F.called_set.init.bind (.ref (~~~s))
   repeat (any_goals (first|assumption|wp_step))
   show PM (UW (R:=wants (λr D=>r=.none/\∃h' d,D={s with heap:=h',toks:=d} /\
     iA prog w h' (~~~s) (eR w) (bq ys) /\
     (∀b o,b<(~~~s)->s.heap.get? b=a5 o->h'.get? b=a5 o)) E) PySem.F.called_set.init.plain PySem.F.entry_set_init (check_set_init_1 Y ?_)) λr₂ D p=>?_
   .have(ol,Q2,H):=J;have(YO,Q3,Q4,Pa):=ol;simp only at H;subst H;have UC:(s.heap.push (sW (eR w))).get? l=a5 {cls:=.type T,dict:=Q3,data:=Q4,slots:=Pa}:=cb _ Q2;have WB:î {s with heap:=s.heap.push (sW (eR w))} (.ref l) T:=#[_,UC,rfl]
    unfold O3.«set.__init__» noKeywords ñ;generalize YQ:YI=PI
    wp_walk
    subst YQ;show j {s with heap:=s.heap.push (sW (eR w))} _ _ rfl (λb o e=>cb _ e) (by rw[Uj];show NQ _) λI k m G P St a W hG hf YR O_ JI hk=>?_;show bR (ľ ?_);show jY W (~~~s) hf (eR w) ys rfl O_ L (ys.length - 0) 0 _ ⋯ (ki _) JI (sV (hk _ _ C)) ?_;intro s' f q;have(h',g',d',YS,TQ):=s';have eg:g'=s.gens:=hG _ _ f.gens;have ed:d'=s.drawn:=f.drawn;have eo:TQ=s.os:=f.os;subst eg;subst ed;subst eo;change du _ _ _ _ _ _;show c6 ?_;change du _ _ (ret pb) _ _ _;show c6 #[rfl,h',YS,rfl,q,λb o u e=>?_];show f.heap b o (λz=>by
     rcases d4.mp z with z|z
     .rw[z]at u;show tv _ u
     .show absurd (YR b z) (ô u)) (hk _ _ (cb _ e))
   .cases r₂ with
    |error e=>show p
    |ok YT =>
     cases YT with
     |ret r =>
      have(rfl,h',d,rfl,q,KC):=p
      repeat (any_goals (first|assumption|wp_step))
      show h _ _ q KC
     |_=>show p.elim
  |_=>show n.elim
end
section
theorem pG:∀{vs:List cK}{ss:List Str},Se vs ss->∀(i:Nat) (v:cK),vs[i]?=a5 v->∃x t,ss[i]?=a5 x/\v=.str x t
 |_,_,.nil,i,v,h=>by simp at h
 |_,_,.cons x t h,0,v,e=>by simp at e;show#[x,t,rfl,e.symm]
 |_,_,.cons x t h,i+1,v,e=>by rw[PV]at e;rw[PV];show pG h i v e
theorem lV:∀{vs:List cK}{ss:List Str},Se vs ss->vs.length=ss.length
 |_,_,.nil=>rfl
 |_,_,.cons x t h=>by simp[lV h]
def uX(a:n≠S)(b:n≠l):n∉[S,l]:=by simp[a,b]
def lW(g:A.handled=bD)(hl:s.heap.IsList l vs.toArray)(d:Se vs ys)(a:ys.length+1<Nf)
  (h:∀(h':K2) (j:Nat),iA prog w h' (~~~s) (eR w) (bq ys)->(∀b o,b<(~~~s)->s.heap.get? b=a5 o->h'.get? b=a5 o)->Q (.ref (~~~s)) {s with heap:=h',toks:=j}) :
  du (d5 prog w) A (PB (.type "set") [.ref l]) Q E s:=by
 have f:l<(~~~s):=let ⟨o,ho,_⟩:=hl;gc ho;show js hl.typeIs PySem.F.sub_list_set PySem.F.sub_list_frozenset (by decide) a (λs1 B Q' k hk c m=>?_) h;have M6:s1.heap.IsList l vs.toArray:=let ⟨o,ho,r⟩:=hl;⟨o,hk _ _ ho,r⟩;show WO M6 ?_;have n:l≠(~~~s1):=ix (VO f c);have W:=(Ħ (prog:=prog) (w:=w) (A:=B.in1) (by simp[k,g]) (~~~s1) l n vs.toArray).toS;have p:vs.toArray.size=ys.length:=by simp[lV d]
 rw[p]at W;show m _ _ _ _ _ _ _ W (λ_ _ e=>e) (uX (ix c) (M7 f)) (λb a=>by rw[hY.mp a];show c) (λi v q=>pG d i v (by simpa using q)) ⟨⟨_,d7 _ rfl,rfl,rfl⟩,M6.push _⟩ λb o e=>cb _ e
def nM(g:A.handled=bD)(hl:s.heap.IsTuple l vs.toArray)(d:Se vs ys)(a:ys.length+1<Nf)
  (h:∀(h':K2) (j:Nat),iA prog w h' (~~~s) (eR w) (bq ys)->(∀b o,b<(~~~s)->s.heap.get? b=a5 o->h'.get? b=a5 o)->Q (.ref (~~~s)) {s with heap:=h',toks:=j}) :
  du (d5 prog w) A (PB (.type "set") [.ref l]) Q E s:=by
 have f:l<(~~~s):=let ⟨o,ho,_⟩:=hl;gc ho;show js hl.typeIs sub_tuple_set sub_tuple_frozenset (by decide) a (λs1 B Q' k hk c m=>?_) h;have M6:s1.heap.IsTuple l vs.toArray:=let ⟨o,ho,r⟩:=hl;⟨o,hk _ _ ho,r⟩;show Qv M6 ?_;have n:l≠(~~~s1):=ix (VO f c);have W:=(Walks.tuple (prog:=prog) (w:=w) (A:=B.in1) (by simp[k,g]) (~~~s1) l n vs.toArray).toS;have p:vs.toArray.size=ys.length:=by simp[lV d]
 rw[p]at W;show m _ _ _ _ _ _ _ W (λ_ _ e=>e) (uX (ix c) (M7 f)) (λb a=>by rw[hY.mp a];show c) (λi v q=>pG d i v (by simpa using q)) ⟨⟨_,d7 _ rfl,rfl,rfl⟩,let ⟨o,ho,r⟩:=M6;⟨o,cb _ ho,r⟩⟩ λb o e=>cb _ e
end
namespace SI
end SI
section
end
section
end
section
end
section
end
section
end
section
def pH(i:X.calm=a8)(I:Inv X c σ H s)(hq:Kh X.K H p (ys.map V.str)\/Ki X.K H p (ys.map V.str))(f:ys.length+1<Nf)
  (h:∀(S:df) (h':K2) (a:Nat),iA X.prog X.w h' S (eR X.w) (bq ys)->Inv X c σ H {s with heap:=h',toks:=a}->Q (.ref S) {s with heap:=h',toks:=a}) :
  ‹X› (PB (.type "set") [.ref p]) Q X.xe s:=by
 have g:X.A.handled=bD:=I.ok.hd i;rcases hq with hq|hq
 .have(j,rv,pl,hz):=I.list hq;show lW g pl.isList (eu rv) f λh' a d k=>h _ h' a d (I.kept λb o e=>k b o (gc e) e)
 .have(j,rv,pl,hz):=I.tuple hq;show nM g pl (eu rv) f λh' a d k=>h _ h' a d (I.kept λb o e=>k b o (gc e) e)
def sX(I:Inv X a σ H s)(c:iA X.prog X.w s.heap S (eR X.w) D)
  (q:Q (.int D.length) H):‹X› (PB (.builtin "len") [.ref S]) (EP X a σ Q) X.xe s:=by
 have(L,es,ep,t,ho,d,g,j,h,i,k,l):=c;have b:es.size=D.length:=by rw[<-sL,d,b8,<-b8 (f:=ă) (as:=L),g.length_eq]
 have m:es.size<4096:=i;show call_len_set ho #[rfl,rfl,rfl] rfl h ⋯ ?_;show#[.int es.size,_,I.kept (t':=s.toks+1+1) (λ_ _ e=>e),#[_,rfl],by rw[b];show q]
end
section
open AutoSeq1 (wpAny_loadPart') in
end
end L2
namespace L2
open PySem PySem.Spec PyProof.Rows
section
def jt(a:s.heap.IsTupleIter it l i)
  (hl:s.heap.IsTuple l b) (d:b[i]?=a5 x)
  (e:∀h',h'.IsTupleIter it l (i+1)->LM it s.heap h'->Q x {s with heap:=h' }) :
  du (d5 prog w) A (K3 (.ref it)) Q E s:=by
 have(o,ho,f,c):=id a;have(j,g,_,k,h):=hl;unfold K3;show bR (DD (name:=Oe "__next__") a.typeIs PySem.F.slot_tuple_iterator_next
  (ve PySem.F.slot_tuple_iterator_next a.typeIs PySem.F.entry_tuple_iterator_next ?_ (PySem.F.args_tuple_iterator_next_1 _)))
 change du _ _ (Ń (.ref it) 0 >>= _) _ _ s;show bR (C0 ho c (x:=.ref l) rfl ?_);change du _ _ (if (il l==pb)=a8 then _ else _) _ _ s;rw[ŕ (show ¬((il l==pb)=a8) from i7)];change du _ _ (Ń (.ref it) 1 >>= _) _ _ s;show bR (C0 ho c (x:=.int i 0) rfl ?_);change du _ _ (seqItems? (.ref l) >>= _) _ _ s;show bR (Yg g h ?_);simp only[M9,d];show bR (SI ho c (by simp) (c6 #[x,rfl,c6 (e _ ?_ (KS ..))]));show#[_,uk _ ho (T1 (Ox c _)),(à ..).trans f,by
  rw[Ox c];simp[Ra]]
def fm(f:A.handled=bD)
  (b:s.heap.IsTupleIter it l i) (hl:s.heap.IsTuple l c) (g:c[i]?=bD)
  (h:∀h' e,WE it s.heap h'->(∃o,h'.get? e=a5 o/\o.cls=.type "StopIteration")->E (.ref e) {s with heap:=h' }) :
  du (d5 prog w) A (K3 (.ref it)) Q E s:=by
 have(o,ho,n,d):=id b;have(p,j,_,q,k):=hl;unfold K3;show bR (DD (name:=Oe "__next__") b.typeIs PySem.F.slot_tuple_iterator_next
  (ve PySem.F.slot_tuple_iterator_next b.typeIs PySem.F.entry_tuple_iterator_next ?_ (PySem.F.args_tuple_iterator_next_1 _)))
 change du _ _ (Ń (.ref it) 0 >>= _) _ _ s;show bR (C0 ho d (x:=.ref l) rfl ?_);change du _ _ (if (il l==pb)=a8 then _ else _) _ _ s;rw[ŕ (show ¬((il l==pb)=a8) from i7)];change du _ _ (Ń (.ref it) 1 >>= _) _ _ s;show bR (C0 ho d (x:=.int i 0) rfl ?_);change du _ _ (seqItems? (.ref l) >>= _) _ _ s;show bR (Yg j k ?_);simp only[M9,g];show bR (PD (bR (SI ho d (by simp) ?_)));change du _ _ (newExc (.type "StopIteration") [] >>= _) _ _ _;show bR ?_;simp only[newExc,newTuple];show bR (wh ?_ (by size_fits));show bR (m:=UU _ _) (Nl (a:=pb) (by first|rfl|(simp only[UU];rfl)) ?_);show wh ?_ (by size_fits);simp only[raiseNew];show bR (wpAny_handled ?_)
 first|rw[show A.in1.handled=bD from f]|rw[f]
 show bR (c6 (wpAny_throw ?_));show h _ _ (((KS ..).extBut.push _).push _) #[_,d7 _ rfl,rfl]
end
def qP(c:A.handled=bD)(it l:df)(d:l≠it)(a:Array cK):
  Draws prog w A it [it,l] a.size (λi v=>a[i]?=a5 v) (λi h=>h.IsTupleIter it l i/\h.IsTuple l a) where
 live:=λ_ _ st=>let ⟨o,ho,_⟩:=st.1;⟨o,ho⟩
 frame:=λ_ _ _ st hk=>#[st.1.at λo e=>hk it (by simp) o e,let ⟨o,ho,r⟩:=st.2;⟨o,hk l (by simp) o ho,r⟩]
 item:=λi s Q E hi st f=>by
  show jt st.1 st.2 (x:=a[i]) (by simp[hi]) λh' g b=>?_;show f _ h' s.toks (by simp[hi]) #[g,let ⟨o,ho,r⟩:=st.2;⟨o,(b.2 l d).trans ho,r⟩] b
 done:=λs Q E st j=>fm c st.1 st.2 (by simp) j
open AutoSeq1 (wpAny_loadPart') in
def lX(l:df)(a:Array cK)(n:Nat)(e:Option df)(f:Array (Option cK)):
  Meets (O3.«enumerate.__new__» ⟨[.type "enumerate",.ref l],[]⟩) (λ_ R s=>s.heap.get? l=a5 {cls:=.type "tuple",dict:=e,data:=.seq a n,slots:=f} /\
   R (.ok (.ret (.ref (s.heap.push {cls:=.type "tuple_iterator",data:=.fields #v[.ref l,.int 0 0]}).objs.size)))
    {s with heap:=(s.heap.push {cls:=.type "tuple_iterator",data:=.fields #v[.ref l,.int 0 0]}).push {cls:=.type "enumerate",data:=.fields #v[.none,.bool bL,.ref (~~~s),Ra 0,.none,.none]}}) :=
 .of_wp λprog w A R s h=>by
  have(i,g,d,j,os):=s;have(hl,h):=h;have k:=sub_enumerate;have b:Heap.IsTuple (Shared.heap #[i,g,d,j,os]) l a:=#[_,hl,rfl,n,rfl]
  wp_walk using Us hl
  show wpAny_stack_any λst=>c6 ?_;split
  .rename_i c _ _ _ _ _;cases(c==J7 "enumerate")
   .wp_walk using Us hl,Qv b
    show#[_,rfl,h]
   .wp_walk using Us hl,Qv b
    show#[_,rfl,h]
  .wp_walk using Us hl,Qv b
   show#[_,rfl,h]
section
def gC(g:s.heap.IsTuple l a)
  (h:∀h',Õ h' ((~~~s)+1) (~~~s) 0 .none->h'.IsTupleIter (~~~s) l 0->h'.objs.size=(~~~s)+2 ->
   (∀b o,s.heap.get? b=a5 o->h'.get? b=a5 o)->Q (.ref ((~~~s)+1)) {s with heap:=h' }) :
  du (d5 prog w) A (PB (.type "enumerate") [.ref l]) Q E s:=by
 have((c,i,j,k),hl,d,n,e):=g
 replace d:c=.type "tuple":=d
 replace e:j=.seq a n:=e
 subst d e;show callType_new PySem.F.called_enumerate (by decide) (PySem.F.typeCall_enumerate_1 _) (PySem.F.newCall_enumerate_1 _) (λobj=>PySem.F.args_object_init_2 obj _) PySem.F.entry_enumerate_new
  (lX l a n i k) #[hl,?_]
 have hz:(s.heap.push {cls:=.type "tuple_iterator",data:=.fields #v[.ref l,.int 0 0]}).objs.size=(~~~s)+1:=NH ..;change _/\_;rw[hz];have f:Õ ((s.heap.push {cls:=.type "tuple_iterator",data:=.fields #v[.ref l,.int 0 0]}).push
   {cls:=.type "enumerate",data:=.fields #v[.none,.bool bL,.ref (~~~s),Ra 0,.none,.none]}) ((~~~s)+1) (~~~s) 0 .none:=by
  have:=d7 (s.heap.push {cls:=.type "tuple_iterator",data:=.fields #v[.ref l,.int 0 0]})
   (o:={cls:=.type "enumerate",data:=.fields #v[.none,.bool bL,.ref (~~~s),Ra 0,.none,.none]}) rfl
  rw[hz]at this;show this
 show#[#[_,f,rfl],h _ f #[_,cb _ (d7 _ rfl),rfl,rfl] (by rw[NH,hz]) λb o x=>cb _ (cb _ x)]
end
end L2
namespace L2
open PySem PySem.Spec PyProof.Rows
section
def Inv.uY{ch:List df}(I:Inv X a σ H s)(f:∀b∈ch,iP X a H b)(k:∀b o,b∉ch->s.heap.get? b=a5 o->h'.get? b=a5 o):Inv X a σ H {s with heap:=h',toks:=t' }:=by
 have g:∀b u,H b=a5 u->b∉ch:=λb u e z=>by rw[(f b z).1]at e;cases e
 show I.step (g':=s.gens) (d':=s.drawn) (ch:=ch) (λb h=>?_) (λb o _ _ d e _=>k b o d e) (λb o _ _ d e _=>#[o.slots,k b o d e]) (λ_ _ _ _ n=>n)
  (λb o d e=>#[o,k b o d e]) (λ_ _ e=>e) (λ_ _ _ e=>e) (λb ps e=>#[#v[],by rw[e];simp]) (λm i=>?_) (λb u e=>?_) I.bare
 .have(w,j,x,l,p,t):=f b h;show#[l,j,p,t]
 .have(o,es,ep,ho,r):=i;show#[o,es,ep,k _ o (λz=>(f _ z).2.1 rfl) ho,r]
 .show(I.JE b u e).kY (λc v d q=>k c v ?_ q) (λ_ q=>q) λ_ _ q=>q;rcases d with z|z
  .rw[z];show g b u e
  .show g c _ z
def Inv.sY{ch:List df}(I:Inv X a σ H s)(h:∀b∈ch,iP X a H b)(k:∀b o,b∉ch->s.heap.get? b=a5 o->h'.get? b=a5 o)(i:(~~~s)<=T)(new:bO X.prog X.w (upd H T o) h' T o):
  Inv X a σ (upd H T o) {s with heap:=h',toks:=t' }:=by
 have j:Inv X a σ H {s with heap:=h',toks:=t' }:=I.uY h k;have l:H T=bD:=I.JE.fresh i;have p:∀b o,s.heap.get? b=a5 o->b≠T:=λb o e z=>by rw[z]at e;show absurd (i9 (gc e) i) (tv _)
 have d:∀b u,H b=a5 u->b≠T:=λb u e z=>by rw[z,l]at e;cases e
 show I.step (g':=s.gens) (d':=s.drawn) (ch:=ch) (λb g=>?_) (λb o _ _ f e _=>k b o f e) (λb o _ _ f e _=>#[o.slots,k b o f e]) (λb o _ e n=>by rw[aj (p b o e)];show n)
  (λb o f e=>#[o,k b o f e]) (λb _ e=>by rw[aj (d b _ e)];show e) (λb _ _ e=>by rw[aj (d b _ e)];show e) (λb ps e=>#[#v[],by rw[aj (d b _ e),e];simp]) (λm t=>?_) (λb u e=>?_) I.bare
 .have(C,x,D,y,A,B):=h b g;show#[y,x,A,B]
 .have(o,es,ep,ho,r):=t;show#[o,es,ep,k _ o (λz=>(h _ z).2.1 rfl) ho,r]
 .by_cases g:b=T
  .subst g;rw[ar]at e;cases e;show new
  .rw[aj g]at e;show(j.JE b u e).kY (λc v _ q=>q) (λc q=>by rw[aj (d c _ q)];show q) λc xs q=>by rw[aj (d c _ q)];show q
end
abbrev P9(a:Hp->List V->Prop):It :=
 #[λi H=>∃xs x,a H xs/\xs[i]?=a5 x,λi H x H'=>∃p,H p=bD/\x=.ref p/\∀xs v,a H xs->xs[i]?=a5 v->H'=upd H p (.tup [.int i,v]),λi H=>∃xs,a H xs/\xs.length<=i]
def oj{K:PySem.W.Frag}(r:Hp->List V->Prop)(a e it:df)(N:e≠it)(At:Nat->K2->Prop)(t:K2->Array cK->Prop)
  (Le:∀i h h',At i h->(∀o,h.get? it=a5 o->h'.get? it=a5 o)->At i h') (WC:∀i h,At i h->∃o,h.get? it=a5 o/\∀v,o.data≠.cell v)
  (Sk:∀(X:Cx) (d:List (df×Obj)) (s:dt) (σ:St) (H:Hp) (xs:List V),X.K=K->Inv X d σ H s->r H xs->∃l:List cK,Vals xs l/\t s.heap l.toArray)
  (UE:∀(X:Cx) (d:List (df×Obj)) (s:dt) (σ:St) (H:Hp) (xs ys:List V),X.K=K->Inv X d σ H s->r H xs->r H ys->xs=ys)
  (Q6:∀h c i f,t h c->Õ h e it i f->e≠a)
  (hD:∀(A:Ke) (c:Array cK),A.handled=bD->Draws P w A it [it,a] c.size (λi v=>c[i]?=a5 v) (λi h=>At i h/\t h c))
  (Ob:∀(A:Ke) (s:dt) (i:Nat) (c:Array cK) (Q:cK->dt->Prop) (E:cK->dt->Prop),A.handled=bD->At i s.heap->t s.heap c->c[i]?=bD ->
   (∀h' x,WE it s.heap h'->(∃o,h'.get? x=a5 o/\o.cls=.type "StopIteration")->E (.ref x) {s with heap:=h' })->du (d5 P w) A (K3 (.ref it)) Q E s) :
  Turn P w K (.Tuple es kx ps) (P9 r) [e,it] e (λi h=>(∃f,Õ h e it i f)/\At i h) where
 mem:=by simp
 obj:=λi h st b g=>by
  have((f,j),hl):=st;rcases d4.mp g with z|z
  .rw[z];show#[_,j,λv z=>by
    have z':ĩ _=â v:=z;cases z']
  .rw[hY.mp z];show WC i h hl
 keep:=λi h h' ⟨⟨f,j⟩,hl⟩ k=>#[#[f,k e (by simp) _ j],Le i h h' hl λo q=>k it (by simp) o q]
 item:=by
  intro X O Y B hc i d s σ H E I C ⟨⟨f,j⟩,hl⟩ hg;subst O Y;have(xs,x,G,hx):=hg;have(l,rv,p):=Sk X d s σ H xs B I G;have(u,hu,ru):=rv.get hx;have Kk:i<l.toArray.size:=by simpa using(cL.mp hu).1
  have D:=hD X.A.in1 l.toArray (by simpa using I.ok.hd hc);have UG:=Q6 _ _ _ _ p j;show wpAny_pyNext_enum_itemD D j #[hl,p] Kk N (by simp[N,UG]) λy h1 m J ho st1 L hsz hk=>?_;have ey:y=u:=by
   have:l.toArray[i]?=a5 u:=by simpa using hu
   rw[this]at J;cases J;rfl
  subst ey;show#[_,rfl,wpAny_letOwnedTupleGo_enum (s:={s with heap:=h1,toks:=m+1}) ho λn YU Lu=>?_];have WD:e<(~~~s):=gc j;have UH:n.get? (~~~s)=a5 {cls:=.type "tuple",data:=.seq #v[.int i m,y]}:=(Lu.2 _ (M7 WD)).trans L;have k2:∀b o,b∉[e,it]->s.heap.get? b=a5 o->n.get? b=a5 o:=λb o g q=>by
   simp only[d4,ä,or_false,not_or]at g;show(Lu.2 b g.1).trans (hk b o g.1 g.2 q)
  have I2:Inv X d σ (upd H (~~~s) (.tup [.int i,x])) {s with heap:=n,toks:=m+1}:=I.sY C k2 (ez _)
   (show bO X.prog X.w _ n _ (.tup [.int i,x]) from#[by change 2<=b6;decide,[.int i m,y],.cons #[m,rfl] (.cons ru .nil),#[_,UH,rfl,_,rfl]])
  show#[.ref (~~~s),_,I2,rfl,#[_,I.JE.fresh (ez _),rfl,λys v J hv=>?_],#[#[_,YU],Le (i+1) h1 n st1.1 λo q=>(Lu.2 it (nT N)).trans q],λb g=>?_]
  .have:=UE X d s σ H ys xs B I J G;subst this;rw[hx]at hv;cases hv;rfl
  .have Lv:b≠(~~~s):=by
    rcases d4.mp g with z|z
    .rw[z];show ix WD
    .rw[hY.mp z];have(o,q,_):=WC i _ hl;show ix (gc q)
   rw[aj Lv];show(C b g).1
 done:=by
  intro X O Y B hc i d s σ H E I C ⟨⟨f,j⟩,hl⟩ hg;subst O Y;have(xs,G,hx):=hg;have(l,rv,p):=Sk X d s σ H xs B I G;have ab:=rv.length;have L:s.TypeIs (.ref e) "enumerate":=#[_,j,rfl]
  unfold Ti;show bR (Th (DD (name:=Oe "__next__") L PySem.F.slot_enumerate_next
   (ve PySem.F.slot_enumerate_next L PySem.F.entry_enumerate_next ?_ (PySem.F.args_enumerate_next_1 _))))
  change du _ _ (Ń (.ref e) 2 >>= _) _ _ _;show bR (C0 j rfl (x:=.ref it) rfl ?_);show bR (Ob _ _ i l.toArray _ _ (by simpa using I.ok.hd hc) hl p (by simp;lia) λh' x UI Uk=>?_);have(o,ho,NP):=Uk;show bR (TN (T:="StopIteration") (b:=a8) #[o,ho,NP] ł ?_);show c6 #[rfl,I.uY (t':=s.toks) (ch:=[it]) (λb g=>C b (fx _ g)) λb o g q=>UI b o (λz=>g (by simp[z])) q]
 self:=λA i s Q E ⟨⟨f,j⟩,hl⟩ h=>WT j h
section
variable{X:Cx}{es:List lx}{kx:Nat}{ps p pos:Pos}
def wu:vl "enumerate"=a5 (.type "enumerate"):=by decide +kernel
abbrev Jh(K:PySem.W.Frag)(c:TA):TI:=λσ H R=>c σ H λvs b=>∃a,vs=[.ref a]/\((∃xs,Kh K b a xs)/\R (P9 λH xs=>Kh K H a xs) b\/(∃xs,Ki K b a xs)/\R (P9 λH xs=>Ki K H a xs) b)
def EK(a e it:df)(q:e≠it)(r:a≠it):Turn X.prog X.w X.K (.Tuple es kx ps) (P9 λH xs=>Kh X.K H a xs) [e,it] e (λi h=>(∃c,Õ h e it i c)/\h.IsListIter it a i):=by
 show oj _ a e it q (λi h=>h.IsListIter it a i) (λh b=>h.IsList a b) (λi h h' x k=>x.at k) (λi h ⟨o,ho,l,t⟩=>#[o,ho,λv z=>by rw[t]at z;cases z])
  (λY d s σ H xs g I m=>?_) (λY d s σ H xs ys g I f n=>?_) (λh b i c ⟨o,ho,l,_⟩ u z=>?_) (λA b j=>Draws.list j it a r b) (λA s i b Q E j hl y f B=>wpAny_nextOf_list_end j hl y f B)
 .rw[<-g]at m;have(C,rv,p,hz):=I.list m;show#[C,rv,p.isList]
 .rw[<-g]at f n;show I.qC f n
 .rw[<-z,u]at ho;cases ho;have D:J7 "enumerate"=J7 "list":=l;show absurd D (by decide)
def EL(a e it:df)(q:e≠it)(r:a≠it):Turn X.prog X.w X.K (.Tuple es kx ps) (P9 λH xs=>Ki X.K H a xs) [e,it] e (λi h=>(∃c,Õ h e it i c)/\h.IsTupleIter it a i):=by
 show oj _ a e it q (λi h=>h.IsTupleIter it a i) (λh b=>h.IsTuple a b) (λi h h' x k=>x.at k) (λi h ⟨o,ho,l,t⟩=>#[o,ho,λv z=>by rw[t]at z;cases z])
  (λY d s σ H xs g I m=>?_) (λY d s σ H xs ys g I f n=>?_) (λh b i c ⟨o,ho,l,_⟩ u z=>?_) (λA b j=>qP j it a r b) (λA s i b Q E j hl y f B=>fm j hl y f B)
 .rw[<-g]at m;have(C,rv,p,hz):=I.tuple m;show#[C,rv,p]
 .rw[<-g]at f n;show I.nX f n
 .rw[<-z,u]at ho;cases ho;have D:J7 "enumerate"=J7 "tuple":=l;show absurd D (by decide)
def Bu(n:Gl X "enumerate")(t:X.mg "enumerate"=bD)(v:PA X [a] w)(hs:gj [a] X.env=[(bL,tj a X.env)]):PI X (.Tuple es kx ps) (.Call (.Name "enumerate" p) [a] [] pos) (Jh X.K w):=by
 intro c s σ H R I h;show Call_ (dN I n t wu (K1 (JJ (v pos c s σ H _ I h) λus s1 ⟨vs,j,d,r1,x⟩=>?_) hs rfl));have(a',e,q):=x;subst e;have(u,rfl,r):=vals1 r1;cases r;have f:(~~~s1)+1≠(~~~s1):=Nat.succ_ne_self _;have g:∀(h':K2),(∀b∈[(~~~s1)+1,(~~~s1)],iP X c j b):=λh' b y=>by
  have m:(~~~s1)<=b:=by
   rcases d4.mp y with z|z
   .rw[z];show Q8 _
   .rw[hY.mp z];show ez _
  show d.xX m (d.JE.fresh m)
 rcases q with⟨⟨xs,k⟩,q⟩|⟨⟨xs,k⟩,q⟩
 .have(A,rv,p,hz):=d.list k;have l:a'<(~~~s1):=let ⟨o,ho,_⟩:=p.isList;gc ho;show call_enumerate_list p.isList λh' i hl hsz hk=>?_;show WT i #[_,[(~~~s1)+1,(~~~s1)],_,_,j,rfl,d.kept (t':=s1.toks) hk,EK a' _ _ f (ix l),#[#[_,i],hl],g h',q]
 .have(A,rv,p,hz):=d.tuple k;have l:a'<(~~~s1):=let ⟨o,ho,_⟩:=p;gc ho;show gC p λh' i hl hsz hk=>?_;show WT i #[_,[(~~~s1)+1,(~~~s1)],_,_,j,rfl,d.kept (t':=s1.toks) hk,EL a' _ _ f (ix l),#[#[_,i],hl],g h',q]
end
def Bv{b:List cK}(h:Ğ (λi v=>b.toArray[b.toArray.size - 1 - i]?=a5 v) a b.toArray.size):a.toList=b.reverse:=by
 apply Ý;intro i;have hs:a.size=b.length:=by have:=h.1;simpa using this
 by_cases hi:i<b.length
 .have c:i<a.size:=by lia
  have:=h.2 i (a[i]'c) (by simp[c]);rw[TB,Xx c,List.getElem?_reverse hi];simpa using this.symm
 .rw[Y1 (by rw[sL];lia),Y1 (by rw[Å];lia)]
section
end
def wx(l:df)(a:Array cK)(n:Nat)(b:df)(c:Array cK)(e:Nat)(dd:Option df)(f:Array (Option cK))(o:¬(!a.isEmpty&&H4 (a.size+c.size))=a8)(i:a.size<=b6)(j:a.size+c.size<=b6+1):
  Meets (O3.«list.extend» ⟨[.ref l,.ref b],[]⟩) (λ_ R s=>s.heap.get? l=a5 {cls:=.type "list",dict:=bD,data:=.seq a n,slots:=#v[]}/\s.heap.get? b=a5 {cls:=.type "list",dict:=dd,data:=.seq c e,slots:=f}/\R (.ok (.ret pb)) {s with heap:=s.heap.update l (ro λx=>x++c),toks:=s.toks}) :=
 .of_wp λprog w A R s h=>by
  have(p,g,d,q,os):=s;have(hl,k,h):=h;have r:=Zh;have t:=WL;have u:=Xt;have v:=Xo;have y:=Xq;
  have m:(a++c).size<=b6+1:=by rw[U8];show j
  wp_walk using(RW hl rfl (hz:=i) (_hz':=m)),Pq hl,Pq k;show#[_,rfl,h]
def wy(l:df)(a:Array cK)(n:Nat)(b:df)(c:Array cK)(e:Nat)(dd:Option df)(f:Array (Option cK))(o:¬(!a.isEmpty&&H4 (a.size+c.size))=a8)(i:a.size<=b6)(j:a.size+c.size<=b6+1):
  Meets (O3.«list.extend» ⟨[.ref l,.ref b],[]⟩) (λ_ R s=>s.heap.get? l=a5 {cls:=.type "list",dict:=bD,data:=.seq a n,slots:=#v[]}/\s.heap.get? b=a5 {cls:=.type "tuple",dict:=dd,data:=.seq c e,slots:=f}/\R (.ok (.ret pb)) {s with heap:=s.heap.update l (ro λx=>x++c),toks:=s.toks}) :=
 .of_wp λprog w A R s h=>by
  have(p,g,d,q,os):=s;have(hl,k,h):=h;have r:=Zh;have t:=WL;have u:=Xt;have v:=Xo;have y:=Xq;
  have m:(a++c).size<=b6+1:=by rw[U8];show j
  wp_walk using(RW hl rfl (hz:=i) (_hz':=m)),Pq hl,Pq k;show#[_,rfl,h]
section
def sZ:T7 X "list.extend" (λx vs H Q=>∃l b xs c,x=.ref l/\vs=[.ref b]/\H l=a5 (.lst xs)/\(Kh X.K H b c\/Ki X.K H b c)/\xs.length+c.length<=b6/\Q .JN (upd H l (.lst (xs++c)))):=by
 intro f s σ H x vs v us Q I w rv h;have(l,b,xs,c,rfl,rfl,p,hB,hz,q):=h;cases w;have(u,rfl,y):=rv.one;cases y;have(z,d,n,r,hl,e):=I.Er p;have g:∀a:List cK,Vals c a->EP X f σ Q pb {s with heap:=s.heap.update l (ro λx=>x++a.toArray),toks:=s.toks}:=λa r2=>by
  show#[.JN,_,I.jU (its':=d++a) p e (by simp) (r.append r2) ?_,rfl,q];rw[hH];lia
 have k:∀a:List cK,c.length=a.length->d.toArray.size+a.toArray.size<=b6:=λa h=>by rw[d8,d8];lia
 have t:∀a:List cK,c.length=a.length->¬(!d.toArray.isEmpty&&H4 (d.toArray.size+a.toArray.size))=a8:=λa h=>by
  rw[ye (k a h),T9];show i7
 rcases hB with hB|hB
 .have(a,r2,pl,_):=I.list hB;have((cls,dd,data,m),ho,i,o,j):=pl.isList;simp only at i j;subst i j;have Mz:=r2.length;have A:=k a Mz;show Ro ð #[_,e,rfl] á (Ø _ _) (wx l d.toArray n b a.toArray o dd m (t a Mz) ⋯ ⋯) #[e,ho,g a r2]
 .have(a,r2,pl,_):=I.tuple hB;have((cls,dd,data,m),ho,i,o,j):=pl;simp only at i j;subst i j;have Mz:=r2.length;have A:=k a Mz;show Ro ð #[_,e,rfl] á (Ø _ _) (wy l d.toArray n b a.toArray o dd m (t a Mz) ⋯ ⋯) #[e,ho,g a r2]
end
def jZ:Manifest.owners.lookup (String.ofList ['d','e','s','r','e','v','e','r'].reverse)=a5 Manifest.sig_reversed:=by kernel_rfl
def cP:Ĩ "reversed" "__next__" "reversed.__next__" :=
 .of (owner:="reversed") (n:="__next__") (by rw[Qt,MW];kernel_rfl) (by decide +kernel) (by decide +kernel) (by decide +kernel) (by first|show .inl (by decide +kernel)|show .inr (by decide +kernel)) (by rw[PF];kernel_rfl)
def gD:ń table "reversed.__next__"=a5 O3.«reversed.__next__»:=ĥ (by kernel_rfl)
def iI(a:cK):Ñ "reversed.__next__" ⟨[a],[]⟩:=by
 unfold Ñ;rw[ZR (id:="reversed.__next__") (n:=['_','_','t','x','e','n','_','_']) (o:=['d','e','s','r','e','v','e','r']) (by kernel_rfl) jZ];kernel_rfl
def iJ:Ĩ "reversed" "__iter__" "reversed.__iter__" :=
 .of (owner:="reversed") (n:="__iter__") (by rw[Qt,MW];kernel_rfl) (by decide +kernel) (by decide +kernel) (by decide +kernel) (by first|show .inl (by decide +kernel)|show .inr (by decide +kernel)) (by rw[PF];kernel_rfl)
def lY:ń table "reversed.__iter__"=a5 O3.«dict_keyiterator.__iter__» :=
 entryFor_alias (id':="dict_keyiterator.__iter__") (by kernel_rfl) (by first|rfl|decide +kernel|(unfold String.splitOn;simp +decide [String.splitOnAux])) (by decide +kernel) (by kernel_rfl)
def nN(a:cK):Ñ "reversed.__iter__" ⟨[a],[]⟩:=by
 unfold Ñ;rw[ZR (id:="reversed.__iter__") (n:=['_','_','r','e','t','i','_','_']) (o:=['d','e','s','r','e','v','e','r']) (by kernel_rfl) jZ];kernel_rfl
def e_:Ĩ "reversed" "__length_hint__" "reversed.__length_hint__" :=
 .of (owner:="reversed") (n:="__length_hint__") (by rw[Qt,MW];kernel_rfl) (by decide +kernel) (by decide +kernel) (by decide +kernel) (by first|show .inl (by decide +kernel)|show .inr (by decide +kernel)) (by rw[PF];kernel_rfl)
def lZ:ń table "reversed.__length_hint__"=a5 O3.«reversed.__length_hint__»:=ĥ (by kernel_rfl)
def nO(a:cK):Ñ "reversed.__length_hint__" ⟨[a],[]⟩:=by
 unfold Ñ;rw[ZR (id:="reversed.__length_hint__") (n:=['_','_','t','n','i','h','_','h','t','g','n','e','l','_','_']) (o:=['d','e','s','r','e','v','e','r']) (by kernel_rfl) jZ];kernel_rfl
def s9:SN (.type "reversed") "__len__"=pure bD:=by rw[Qt,MW];kernel_rfl
def pI:SN (.type "tuple") "__reversed__"=pure bD:=by rw[Qt,MW];kernel_rfl
def nP:TU (.type "tuple") (.type "dict")=pure bL:=by rw[PF];kernel_rfl
def nQ:Ĩ "reversed" "__init__" "object.__init__" :=
 .of (owner:="object") (n:="__init__") (by rw[Qt,MW];kernel_rfl) (by decide +kernel) (by decide +kernel) (by decide +kernel) (by first|show .inl (by decide +kernel)|show .inr (by decide +kernel)) (by rw[PF];kernel_rfl)
def iT:TypeCalled "reversed" "reversed.__new__" "object.__init__" :=
 #[by decide +kernel,PySem.F.create_reversed,#[_,_,PySem.F.mro_reversed],PySem.F.made_reversed,PySem.F.plain_reversed_new,PySem.F.sub_reversed_self,nQ]
abbrev kL(l:df)(i:Int):Obj:={cls:=.type "reversed",data:=.fields #v[.ref l,Ra i]}
abbrev fY(h:K2)(a l:df)(i:Int):Prop:=∃o,h.get? a=a5 o/\o.cls=.type "reversed"/\o.data=.fields #v[.ref l,Ra i]
def fY.typeIs{s:dt}(x:fY s.heap a l i):s.TypeIs (.ref a) "reversed":=let ⟨o,ho,b,_⟩:=x;⟨o,ho,b⟩
def fY.at(x:fY h a l i)(e:∀o,h.get? a=a5 o->h'.get? a=a5 o):fY h' a l i:=let ⟨o,ho,r⟩:=x;⟨o,e _ ho,r⟩
section
def Bw(hl:V8 s.heap l b)(hz:b.size<=b6)
  (h:Q (.ref (~~~s)) {s with heap:=s.heap.push (kL l ((b.size:Int) - 1)),toks:=s.toks+2}) :
  OY (d5 prog w) A (.call (.builtin "reversed.__new__") #[[.type "reversed",.ref l],[]]) (wants Q E) s:=by
 have c:b6<2 ^ 60:=by decide
 show X3 ?_;change du _ A.in1 (do TY "reversed.__new__" ⟨[.type "reversed",.ref l],[]⟩;ň (.builtin "reversed.__new__" ⟨[.type "reversed",.ref l],[]⟩)) _ _ s;show bR (Nl (PySem.F.newCall_reversed_1 _) (c6 #[Tj PySem.F.plain_reversed_new _,Nh PySem.F.entry_reversed_new ?_]));rw[QO PySem.F.plain_reversed_new _];unfold O3.«reversed.__new__»;show bR (Nl (newClass_reversed _) ?_)
 try dsimp only
 show bR (Nl (a:=()) (by first|rfl|kernel_rfl) ?_);show bR (Nl (a:=()) (by first|rfl|kernel_rfl) ?_)
 try dsimp only
 show bR (Qn hl.typeIs pI ?_)
 try dsimp only
 show bR ?_
 wp_delta
 show bR (TN hl.typeIs nP ?_);rw[ŕ (by decide)];show bR (Qn hl.typeIs rz.lookup ?_)
 try dsimp only
 rw[Ŕ (by decide)];show c6 ?_;rw[ŕ (by decide)];show bR (Į hl ⋯ ?_);show bR (c6 ?_);change du _ _ (newObj (.type "reversed") (.fields #v[.ref l,Ra ((b.size:Int) - 1)]) >>= _) _ _ _;show bR (wh (c6 h) (by size_fits))
def yx(hl:V8 s.heap l a)(hz:a.size<=b6)
  (h:Q (.ref (~~~s)) {s with heap:=s.heap.push (kL l ((a.size:Int) - 1)),toks:=s.toks+2}):du (d5 prog w) A (PB (.type "reversed") [.ref l]) Q E s:=by
 show Ņ (Q₁:=λobj b=>obj=.ref (~~~s)/\b={s with heap:=s.heap.push (kL l ((a.size:Int) - 1)),toks:=s.toks+2}) iT (PySem.F.typeCall_reversed_1 _) PySem.F.entry_object_init (Bw hl hz #[rfl,rfl]) ?_;rintro obj b ⟨rfl,rfl⟩;have c:({s with heap:=s.heap.push (kL l ((a.size:Int) - 1)),toks:=s.toks+2}:dt).TypeIs (.ref (~~~s)) "reversed":=#[_,d7 _ rfl,rfl]
 show#[c,PySem.F.args_object_init_2 _ _,object_init_meets iT.init.lookup iT.made (by decide) prog w A.in1 _ _ #[c,rfl,h]]
def yy{i:Nat}(hz:b.size<=b6)(c:fY s.heap it l (i:Int))(hl:V8 s.heap l b)(e:b[i]?=a5 x)
  (f:∀h' g,fY h' it l ((i:Int) - 1)->LM it s.heap h'->Q (a5 x) {s with heap:=h',toks:=g}):du (d5 prog w) A (Ti (.ref it)) Q E s:=by
 have(o,ho,h,d):=id c;have k:b6<2 ^ 60:=by decide
 have hi:i<b.size:=(Array.getElem?_eq_some_iff.mp e).1;unfold Ti;show bR (Th (DD (name:=Oe "__next__") c.typeIs cP
  (ve cP c.typeIs gD ?_ (iI _))))
 unfold O3.«reversed.__next__»;show bR (Nl (a:=(il it,[])) rfl ?_)
 try dsimp only
 show bR (C0 ho d (x:=.ref l) rfl ?_);show bR (C0 ho d (x:=Ra (i:Int)) rfl ?_);change du _ _ (if (i:Int)<0 then _ else _) _ _ s;rw[ŕ ⋯];show bR (Qn hl.typeIs rz.lookup ?_);rw[ŕ (by decide)];show bR (wpAny_mkInt (bR (Th (getItem_tuple (s:={s with toks:=s.toks+1}) (j:=i) hl ⋯ ⋯ (by simp[Ĥ];lia) e ?_))))
 dsimp only
 show bR (C0 ho d (x:=Ra (i:Int)) rfl ?_);show bR (SI ho d (by simp) ?_);show c6 #[x,rfl,c6 (f _ _ ?_ (KS ..))];show#[_,uk _ ho (T1 (Ox d _)),(à ..).trans h,by
  rw[Ox d];simp]
def Bx(f:A.handled=bD)(c:fY s.heap it l (-1))
  (g:∀h',WE it s.heap h'->Q bD {s with heap:=h' }):du (d5 prog w) A (Ti (.ref it)) Q E s:=by
 have(o,ho,i,d):=id c;unfold Ti;show bR (Th (DD (name:=Oe "__next__") c.typeIs cP
  (ve cP c.typeIs gD ?_ (iI _))))
 unfold O3.«reversed.__next__»;show bR (Nl (a:=(il it,[])) rfl ?_)
 try dsimp only
 show bR (C0 ho d (x:=.ref l) rfl ?_);show bR (C0 ho d (x:=Ra (-1)) rfl ?_);change du _ _ (if (-1:Int)<0 then _ else _) _ _ s;rw[Ŕ (by decide)];show bR (PD ?_);show bR ?_
 wp_delta
 show bR (SI ho d (by simp) ?_);have h:=uk (Obj.mapFields λxs=>xs.set! 1 (Ra (-1))) ho (T1 (Ox d _));have e:=Ox d (λxs=>xs.set! 1 (Ra (-1)));show SI h e (by simp) ?_;show bR ?_
 wp_delta
 simp only[newExc,newTuple];show bR (bR (wh ?_ (by size_fits)));show bR (m:=UU _ _) (Nl (a:=pb) (by first|rfl|(simp only[UU];rfl)) ?_);show wh ?_ (by size_fits);simp only[raiseNew];show bR (wpAny_handled ?_)
 first|rw[show A.in1.handled=bD from f]|rw[f]
 show bR (c6 (wpAny_throw ?_));show bR (TN (T:="StopIteration") (b:=a8) #[_,d7 _ rfl,rfl] ł ?_);show c6 (g _ (((((KS ..).extBut).trans (KS ..).extBut).push _).push _))
def yz(a:fY s.heap it l i)(h:Q (.ref it) s):du (d5 prog w) A (YI (.ref it)) Q E s:=by
 show wpAny_pyIter_slot a.typeIs iJ (ve iJ a.typeIs lY ?_ (nN _));change du _ _ (ret (.ref it)) _ _ s;show c6 #[_,rfl,"reversed",_,a.typeIs,cP.lookup,h]
def wz(p:A.handled=bD)(I l:df)(q:l≠I)(a:Array cK)(hz:a.size<=b6):
  Walks prog w A I [I,l] [I] a.size (λi v=>a[a.size - 1 - i]?=a5 v) (λi h=>i<=a.size/\fY h I l ((a.size:Int) - 1 - (i:Int))/\V8 h l a) where
 sub:=λb d=>by simp at d;simp[d]
 frame:=λ_ _ _ x hk=>#[x.1,x.2.1.at λo e=>hk I (by simp) o e,let ⟨o,ho,r⟩:=x.2.2;⟨o,hk l (by simp) o ho,r⟩]
 item:=λi s Q E hi x f=>by
  have e:(a.size:Int) - 1 - (i:Int)=((a.size - 1 - i:Nat):Int):=by lia
  have c:=x.2.1;rw[e]at c;have j:a[a.size - 1 - i]?=a5 (a[a.size - 1 - i]'⋯):=Xx ⋯;show yy hz c x.2.2 j λh' t k m=>?_;have u:((a.size - 1 - i:Nat):Int) - 1=(a.size:Int) - 1 - ((i+1:Nat):Int):=by lia
  rw[u]at k;show f _ h' t j #[hi,k,let ⟨o,ho,r⟩:=x.2.2;⟨o,(m.2 l q).trans ho,r⟩] λb o d g=>m.extBut b o (λh=>d (by simp[h])) g
 done:=λs Q E x f=>by
  have e:(a.size:Int) - 1 - (a.size:Int)=-1:=by lia
  have c:=x.2.1;rw[e]at c;show Bx p c λh' y=>f h' s.toks λb o d g=>y b o (λh=>d (by simp[h])) g
 self:=λ_ _ _ _ x f=>yz x.2.1 f
def yA(d:fY s.heap I l ((c.size:Int) - 1))(hl:V8 s.heap l c)(hz:c.size<=b6)(h:∀b e,s.toks<=e->Q b {s with toks:=e}):
  du (d5 prog w) A (KX (.ref I)) Q E s:=by
 have g:b6<2 ^ 60:=by decide
 have(o,ho,j,f):=id d;unfold KX;show bR (Qn d.typeIs s9 ?_);change du _ A (specialOf (il I) (Oe "__length_hint__") >>= _) _ _ _;show bR (Qn d.typeIs e_.lookup ?_);have i:splitId "reversed.__length_hint__"=a5 ("reversed","__length_hint__"):=by decide +kernel
 dsimp only
 rw[i]
 dsimp only
 show bR (TN d.typeIs PySem.F.sub_reversed_self ?_);rw[ŕ (by decide)];rw[ŕ (by decide +kernel)];show bR (PD ?_);show bR (Nl (e_.bind _) ?_)
 dsimp only
 show bR (Th (ve e_ d.typeIs lZ ?_ (nO _)));unfold O3.«reversed.__length_hint__»;show bR (Nl (a:=il I) rfl ?_);show bR (C0 ho f (x:=.ref l) rfl ?_);rw[ŕ (show ¬((il l==pb)=a8) from i7)];show bR (Į hl ⋯ ?_);show bR (c6 ?_);show bR (C0 (s:={s with toks:=s.toks+1+1}) ho f (x:=Ra ((c.size:Int) - 1)) rfl ?_);change du _ _ (if (c.size:Int)<(c.size:Int) - 1+1 then _ else _) _ _ _;rw[ŕ ⋯];show bR (wpAny_mkInt (c6 #[_,rfl,?_]))
 dsimp only
 show bR (c6 ?_)
 dsimp only
 rw[ŕ (by simp only[Ĺ,nC,Bool.and_eq_false_iff,ś];lia),ŕ ⋯,ŕ (by simp only[H4,œ];lia)];show c6 (h _ _ ⋯)
variable{I:df}{fp wr:List df}{G:Array U6->Array U6->Prop}{n:Nat}{P:Nat->cK->Prop}{St:Nat->dt->Prop}
def s_(W:Ĉ prog w A.in1 I fp wr G n P St)(z:∀i s,St i s->s.TypeIs (.ref I) "reversed")(B:∀(A:Ke) (E:cK->dt->Prop) (s:dt) (Q:Bool->dt->Prop),St 0 s->(∀b c,s.toks<=c->Q b {s with toks:=c})->du (d5 prog w) A (KX (.ref I)) Q E s)(S:df)(res:cK)(C:Nat)(j:St 0 s)(k:S∉fp)(D:I∈fp)
  (m:s.heap.get? S=a5 {cls:=.type "list",data:=.seq #v[] C})
  (u:∀s' d a,Moved (S::wr) G s s'->s'.heap.get? S=a5 {cls:=.type "list",dict:=bD,data:=.seq d a,slots:=#v[]}->Ğ P d n->R (.ok (.ret res)) s') (v:n<=b6) :
  du (d5 prog w) A.in1 (vu (.ref S) (.ref I) res)
   (λp s'=>match p with|.done f=>R (.ok f) s'|.again a=>a.quiet=a8/\OY (d5 prog w) A a R s') (λe s'=>R (.error e) s') s:=by
 have H:S≠I:=λe=>k (e▸D);unfold vu;show bR (Uc (z 0 _ j) ?_);have J:Vi (.ref S) (.ref I)=bL:=by simp[Vi,H]
 have L:(J7 "reversed"==J7 "list")=bL:=by decide
 have N:(J7 "reversed"==J7 "tuple")=bL:=by decide
 simp only[J,L,N,đ,UT,if_false];show bR (W.self 0 _ _ _ j ?_);show bR (x4 ?_);show B _ _ _ _ j λb c l=>?_;have O:=W.frame 0 s s.heap c j l λb _ o e=>e;show Ķ (λ_=>?_) (λ_=>c6 #[Tj PySem.F.plain_extend_loop _,í W v _ k _ n 0 _ _ _ rfl (ki _) O m (ý P) λs' d a q r t=>u s' d a (VX W.gtrans ((Ã W.grefl).then_heap l λb o _ e=>e) q) r t]);show bR (PD ?_);show bR ?_;change du _ _ (ģ S (·.push .none) >>= λ_=>ģ S (·.pop)) _ _ _;show bR (RW (s:={s with toks:=c}) m rfl ?_);have x:=uk (ro (·.push pb)) m rfl;show RW (hz:=by seq_fits) x rfl ?_;have T:=uk (ro (·.pop)) x rfl;have y:∀b o,b≠S->s.heap.get? b=a5 o->((s.heap.update S (ro (·.push pb))).update S (ro (·.pop))).get? b=a5 o:=λb o g e=>(N7 _ _ (nT g)).trans ((N7 _ _ (nT g)).trans e);show c6 #[Tj PySem.F.plain_extend_loop _,í W v _ k _ n 0 _ _ _ rfl (ki _) (W.frame 0 s _ c j l λb g o e=>y b o (λh=>k (h▸g)) e) T (ý P) λs' d a q r t=>?_];show u s' d a (VX W.gtrans ((Ã W.grefl).then_heap l λb o g e=>y b o (λh=>g (h▸gs)) e) q) r t
open AutoSeq1 (wpAny_loadPart') in
end
section
end
end L2
namespace L2
open PySem PySem.W PyProof.Rows
section
variable{I:df}{fp wr:List df}{G:Array U6->Array U6->Prop}{n:Nat}{P:Nat->cK->Prop}{St:Nat->dt->Prop}
def nR(W:Ĉ prog w A.in1 I fp wr G n P St)(q:∀i s,St i s->s.TypeIs (.ref I) "reversed")(r:∀(A:Ke) (E:cK->dt->Prop) (s:dt) (Q:Bool->dt->Prop),St 0 s->(∀b l,s.toks<=l->Q b {s with toks:=l})->du (d5 prog w) A (KX (.ref I)) Q E s)(S:df)(t:St 0 s)(m:S∉fp)(u:I∈fp)
  (g:s.heap.get? S=a5 {cls:=.type "list",data:=.seq #v[]})
  (v:∀s' d a,Moved (S::wr) G s s'->s'.heap.get? S=a5 {cls:=.type "list",dict:=bD,data:=.seq d a,slots:=#v[]}->Ğ P d n->R (.ok (.ret .none)) s') (x:n<=b6) :
  du (d5 prog w) A.in1 (O3.«list.__init__» ⟨[.ref S,.ref I],[]⟩)
   (λj s'=>match j with|.done f=>R (.ok f) s'|.again a=>a.quiet=a8/\OY (d5 prog w) A a R s') (λe s'=>R (.error e) s') s:=by
 change du _ A.in1 (do let k <-V1 (.ref S);ĸ (.ref S) (λ_=>#v[]);letGo k.toList.reverse;vu (.ref S) (.ref I) .none) _ _ s;show bR ?_;unfold V1;show bR (Yg g rfl (c6 ?_));change du _ A.in1 (ģ S (λ_=>#v[]) >>= λ_=>letGo (#v[]:Array cK).toList.reverse >>= λ_=>vu (.ref S) (.ref I) .none) _ _ s;show bR (RW g rfl ?_);have y:=uk (ro (λ_=>(#v[]:Array cK))) g rfl;have p:∀b o,b≠S->s.heap.get? b=a5 o->(s.heap.update S (ro (λ_=>(#v[]:Array cK)))).get? b=a5 o :=
  λb o c e=>(N7 _ _ (nT c)).trans e
 show bR (wpAny_letGo ?_);show s_ W q r S .none _ (W.frame 0 s _ s.toks t (ez _) λb c o e=>p b o (λh=>m (h▸c)) e) m u y (λs' d a z B C=>?_) x;show v s' d a (VX W.gtrans ((Ã W.grefl).then_heap (ez _) λb o c e=>p b o (λh=>c (h▸gs)) e) z) B C
def qQ(W:Ĉ prog w A.in1.in1 I fp wr G n P St)(j:∀i s,St i s->s.TypeIs (.ref I) "reversed")(k:∀(A:Ke) (E:cK->dt->Prop) (s:dt) (Q:Bool->dt->Prop),St 0 s->(∀b f,s.toks<=f->Q b {s with toks:=f})->du (d5 prog w) A (KX (.ref I)) Q E s)(l:St 0 s)(m:∀b∈fp,b<(~~~s))(p:I∈fp)
  (q:∀s' a c,Moved ((~~~s)::wr) G {s with heap:=s.heap.push {cls:=.type "list",data:=.seq #v[]}} s' ->
   s'.heap.get? (~~~s)=a5 {cls:=.type "list",dict:=bD,data:=.seq a c,slots:=#v[]}->Ğ P a n->Q (.ref (~~~s)) s') (r:n<=b6) :
  du (d5 prog w) A (PB (.type "list") [.ref I]) Q E s:=by
 have t:(~~~s)∉fp:=λd=>tv _ (m _ d);show Ņ (Q₁:=λobj g=>obj=.ref (~~~s)/\g={s with heap:=s.heap.push {cls:=.type "list",data:=.seq #v[]}}) PySem.F.called_list (PySem.F.typeCall_list_1 _) PySem.F.entry_list_init
  (code_list_new _ #[rfl,rfl]) λobj g u=>?_
 have(rfl,rfl):=u;have h:(s.heap.push {cls:=.type "list",data:=.seq #v[]}).get? (~~~s)=a5 {cls:=.type "list",data:=.seq #v[]}:=d7 _ rfl;show#[#[_,h,rfl],PySem.F.args_list_init_2 _ _,nR W j k _ (W.frame 0 s _ s.toks l (ez _) λb _ o e=>cb _ e) t p h (λs' a c d v x=>?_) r];show#[rfl,q s' a c d v x]
end
section
def yB(y:X.calm=a8)(I:Inv X d σ H s)(B:Ki X.K H a xs)(q:∀l,H l=bD->Q (.ref l) (upd H l (.lst xs.reverse))):
  ‹X› (PB (.type "reversed") [.ref a]) (λv s1=>‹X› (PB (.type "list") [v]) (EP X d σ Q) X.xe s1) X.xe s:=by
 have(c,rv,p,hz):=I.tuple B;have el:c.length=xs.length:=rv.length.symm;have n:a<(~~~s):=p.lt;have g:c.toArray.size<=b6:=by simp;lia
 have hsz:(s.heap.push (kL a ((c.toArray.size:Int) - 1))).objs.size=(~~~s)+1:=Uj ..;show yx p g ?_;have C:fY (s.heap.push (kL a ((c.toArray.size:Int) - 1))) (~~~s) a ((c.toArray.size:Int) - 1):=#[_,d7 _ rfl,rfl,rfl]
 show qQ (wz (A:=X.A.in1.in1) (I.ok.hd y) (~~~s) a (ix n) c.toArray g).toS (λi s st=>st.2.1.typeIs) (λA E s Q st h=>yA (by simpa using st.2.1) st.2.2 g h) ⟨ki _,by simpa using C,p.push _⟩ (λb j=>?_) (by simp) (λs' k r f t D=>?_) g
 .change b<(s.heap.push (kL a ((c.toArray.size:Int) - 1))).objs.size;rw[hsz];rcases d4.mp j with z|z
  .rw[z];show NQ _
  .rw[hY.mp z];show QD n
 .have(u,G,J,L,o2):=s';have N:G=s.gens:=f.gens;have O:J=s.drawn:=f.drawn;have T:o2=s.os:=f.os;subst N O T;generalize Y:s.heap.push (kL a ((c.toArray.size:Int) - 1))=m at f t hsz;have k2:∀b o,s.heap.get? b=a5 o->u.get? b=a5 o:=λb o e=>f.heap b o (λz=>by
   have j:=gc e;rcases d4.mp z with z|z
   .rw[z]at j;have x:m.objs.size<(~~~s):=j;rw[hsz]at x;show absurd x (ô (NQ _))
   .rw[hY.mp z]at e;show absurd (gc e) (tv _)) (cb _ (by rw[<-Y];show cb _ e))
  have ea:=Bv D;show#[.ref m.objs.size,_,I.laid (t':=L) (o:=.lst xs.reverse) k2 (by rw[hsz];show Q8 _) #[by rw[Å];show hz,c.reverse,r,rv.reverse,?_],rfl,q _ (I.JE.fresh (by rw[hsz];show Q8 _))];have LG:u.get? m.objs.size=a5 {cls:=.type "list",dict:=bD,data:=.seq k r,slots:=#v[]}:=t;rw[LG,<-ea,Y7]
end
abbrev iU{α:Type}(lt:Nat->Nat->Bool):KasT α->α
 |.ret x=>x
 |.ask i j k=>iU lt (k (lt i j))
def K6{α:Type}(n:Nat)(P:α->Prop):KasT α->Prop
 |.ret x=>P x
 |.ask i j k=>i<n/\j<n/\∀b,K6 n P (k b)
theorem K6.P_{P:α->Prop}{Q:β->Prop}{f:α->KasT β}(a:∀x,P x->K6 n Q (f x)):∀{t:KasT α},K6 n P t->K6 n Q (t.bind f)
 |.ret x,h=>a x h
 |.ask i j k,h=>#[h.1,h.2.1,λb=>K6.P_ a (h.2.2 b)]
theorem K6.got:∀{t:KasT α},K6 n P t->P (iU lt t)
 |.ret _,h=>h
 |.ask i j k,h=>K6.got (t:=k (lt i j)) (h.2.2 _)
theorem K6.wp(b:∀i j,i<n->j<n->∀C:Bool->dt->Prop,C (lt i j) s->a i j C s):
  ∀{t:KasT α},K6 n P t->Q (iU lt t) s->t.kasWp a Q s
 |.ret _,_,q=>q
 |.ask i j k,h,q=>b i j h.1 h.2.1 _ (K6.wp b (t:=k (lt i j)) (h.2.2 _) q)
abbrev Pm(n:Nat)(p:Array Nat):Prop:=p.toList.Perm (dV n)
section
variable{n:Nat}(hn:0<n)
include hn
def Pm.at(h:Pm n p)(i:Nat):p.getD i 0<n:=by
 by_cases hi:i<p.size
 .have:p.getD i 0=p[i]:=by simp[ĵ,hi]
  rw[this];have a:p[i]∈p.toList:=by simp
  show p7.mp (h.mem_iff.mp a)
 .have:p.getD i 0=0:=by simp[ĵ,hi]
  rw[this];show hn
omit hn in
def Pm.rev(h:Pm n p)(i j:Nat):Pm n (kas_rev p i j):=(mirror_perm p i j _).toList.trans h
omit hn in
def Pm.YZ(h:Pm n p)(i j:Nat):Pm n (bubble p i j):=(bubble_perm p i j).toList.trans h
theorem tf(h:Pm n p):∀(f m:Nat),K6 n (λ_=>True) (kas_asc p f m)
 |0,m=>trivial
 |f+1,m=>#[h.at hn _,h.at hn _,λb=>by
  cases b
  .show tf h f (m+1)
  .show trivial]
theorem lq:∀(f:Nat) (p:Array Nat) (m q:Nat),Pm n p->K6 n (λr=>Pm n r.1) (kas_desc f p m q)
 |0,p,m,q,h=>h
 |f+1,p,m,q,h=>#[h.at hn _,h.at hn _,λb=>by
  cases b
  .show#[h.at hn _,h.at hn _,λb=>by
    cases b
    .show lq f p (m+1) (q+1) h
    .show h]
  .change K6 n _ (if q>0 then _ else _);split
   .show lq f _ _ _ (h.rev _ _)
   .show lq f _ _ _ h]
def uZ(h:Pm n p)(m r:Nat):K6 n (λx=>Pm n x.2) (kas_tail3 m r p):=by
 unfold kas_tail3;show K6.P_ (λx _=>?_) (tf hn (h.rev _ _) _ _);show h.rev _ _
def u3(h:Pm n p)(m r:Nat):K6 n (λx=>Pm n x.2) (kas_descPart m r p):=by
 unfold kas_descPart;show K6.P_ (λx a=>?_) (lq hn _ _ _ _ h);split
 .show uZ hn (a.rev _ _) _ _
 .show uZ hn a _ _
def yC(h:Pm n p)(r:Nat):K6 n (λx=>Pm n x.2) (kas_count r p):=by
 unfold kas_count;show K6.P_ (λm _=>?_) (tf hn h _ _);split
 .show h
 .split
  .show#[h.at hn _,h.at hn _,λb=>by
    cases b
    .show u3 hn (h.rev _ _) _ _
    .show h]
  .show u3 hn h _ _
theorem l0(h:Pm n p)(k:Nat):∀(f l r:Nat),K6 n (λ_=>True) (kas_place p k f l r)
 |0,l,r=>trivial
 |f+1,l,r=>by
  unfold kas_place;split
  .show trivial
  .show#[h.at hn _,h.at hn _,λb=>by
    cases b
    .show l0 h k f _ _
    .show l0 h k f _ _]
theorem yD:∀(f:Nat) (p:Array Nat) (k:Nat),Pm n p->K6 n (Pm n) (kas_bin f p k)
 |0,p,k,h=>h
 |f+1,p,k,h=>K6.P_ (λl _=>yD f _ _ (h.YZ _ _)) (l0 hn h _ _ _ _)
def u4:K6 n (Pm n) (O' n):=by
 unfold O';show K6.P_ (λx a=>?_) (yC hn (p:=List.toArray (dV n)) (by unfold Pm;simp) n);split
 .show yD hn _ _ _ a
 .show a
end
def l7(lt:Nat->Nat->Bool)(n:Nat):(iU lt (O' n)).toList.Perm (dV n):=by
 cases n with
 |zero=>show List.Perm.refl _
 |succ n=>show(u4 (Nat.succ_pos n)).got
section
def wA(ho:s.heap.get? a=a5 (y0 "list" vs.toArray n))(l:vs.length<64)
  (m:2<=vs.length->∀s1:dt,(∀b o,b≠a->s.heap.get? b=a5 o->s1.heap.get? b=a5 o)->du (d5 prog w) A (keyKind' vs.toArray) (λκ s'=>s'=s1/\∀i j,i<vs.length->j<vs.length->∀C:Bool->dt->Prop,C (lt i j) s1->Ę prog w A κ vs i j C s1) (λ_ _=>False) s1)
  (h:P (.done (.ret .none)) {s with heap:=Č s.heap a vs (((iU lt (O' vs.length)).toList.map λi=>vs.getD i pb).toArray)}) :
  du (d5 prog w) A (O3.«list.sort» ⟨[.ref a],[]⟩) P E s:=by
 have N:a<(~~~s):=gc ho;have u:(64:Nat)<=b6:=by decide
 rw[list_sort_plain];show bR (Ú ho rfl (bR (V7 ho rfl ?_ (by rw[d8];lia) (ki _))));obtain⟨k,q⟩:∃k,(s.heap.update a (ro λ_=>(#v[]:Array cK))).get? a=a5 (y0 "list" #v[] k):=#[_,ĺ ho λ_=>#v[]]
 show bR (ó q rfl (bR (wpAny_newTuple (bR (ZP (x4 ?_) (ki _))) (by change vs.length<=_;lia))));have d:(((s.heap.update a (ro λ_=>(#v[]:Array cK))).push (y0 "tuple" vs.toArray 0)).push (y0 "list" #v[] 0)).get? a=a5 (y0 "list" #v[] k):=cb _ (cb _ q);have f:∀b o,b≠a->s.heap.get? b=a5 o->(((s.heap.update a (ro λ_=>(#v[]:Array cK))).push (y0 "tuple" vs.toArray 0)).push (y0 "list" #v[] 0)).get? b=a5 o:=λb o y e =>
  cb _ (cb _ (by rw[Ä _ _ _ _ y];show e))
 change du (d5 prog w) A _ P E {s with heap:=((s.heap.update a (ro λ_=>(#v[]:Array cK))).push (y0 "tuple" vs.toArray 0)).push (y0 "list" #v[] 0)}
 dsimp only
 have r:((iU lt (O' vs.length)).toList.map λi=>vs.getD i pb).length=vs.length:=by rw[b8,(l7 lt _).length_eq,Vu]
 by_cases c:vs.toArray.size<2
 .rw[Ŕ c,Ŕ c];show bR (c6 ?_);rw[StateT.run_pure];show bR (c6 ?_);have z:((iU lt (O' vs.length)).toList.map λi=>vs.getD i pb).toArray=(vs.toArray.zip vs.toArray).map (·.2):=by
   have g:=l7 lt vs.length;clear h m r f d ho l
   match vs,c,g with
   |[],_,g=>rw[show(iU lt (O' ([]:List cK).length)).toList=[] from ď.mp g];simp
   |[v],_,g=>rw[show(iU lt (O' [v].length)).toList=[0] from List.perm_singleton.mp g];simp
   |_::_::_,c,_=>simp at c;lia
  rw[z]at h
  dsimp only
  show bR (ó d rfl (bR (V7 d rfl ?_ (ki _) (by rw[Array.size_map];change(pairsOf vs).size<=_;rw[pairsOf_size];lia))));simp only[bne_self_eq_false,UT,if_false];show c6 h
 .rw[ŕ c,ŕ c];have t:2<=vs.length:=by rw[d8]at c;lia
  show bR (mu (m t _ f) (λκ O hk=>?_) λ_ _ x=>x.elim);have(rfl,hk):=hk;show bR (mu (kat_run (κ:=κ) (ks:=vs) (vs:=vs) (G:=λp s'=>p=iU lt (O' vs.length)/\s'={s with heap:=((s.heap.update a (ro λ_=>(#v[]:Array cK))).push (y0 "tuple" vs.toArray 0)).push (y0 "list" #v[] 0)})
   (Q:=λst' s'=>∃p:Array Nat,arrOf st'=p.map (kas_item (vs.toArray.zip vs.toArray))/\failedOf st'=bD/\p=iU lt (O' vs.length)/\s'={s with heap:=((s.heap.update a (ro λ_=>(#v[]:Array cK))).push (y0 "tuple" vs.toArray 0)).push (y0 "list" #v[] 0)})
   rfl t l (λp st' s' T B D H=>#[p,B,D,H]) (K6.wp hk (u4 ⋯) #[rfl,rfl])) ?_ λ_ _ e=>e)
  rintro⟨⟨⟩,st'⟩ s' ⟨p,I,J,rfl,rfl⟩
  dsimp only
  have L:=kat_snds rfl I;rw[L,J];show bR (ó d rfl (bR (V7 d rfl ?_ (ki _) (by rw[d8,r];lia))));simp only[bne_self_eq_false,UT,if_false];show c6 h
end
@[reducible]noncomputable def By:=Str×Int
abbrev OG(ks:List Str)(i j:Nat):Bool:=b7 ((ks.getD i sx).cps.toList<(ks.getD j sx).cps.toList)
abbrev k7(ks:List Str):List Nat:=(iU (OG ks) (O' ks.length)).toList
def hZ(ks:List Str):(k7 ks).Perm (dV ks.length):=l7 _ _
abbrev Hj(x:Str)(n:Int)(t u:Tok):Obj:={cls:=.type "tuple",data:=.seq #v[.str x t,.int n u]}
abbrev fZ(h:K2)(as:List df)(ps:List By):Prop:=as.length=ps.length/\∀(j:Nat) (a:df),as[j]?=a5 a->∃p t u,ps[j]?=a5 p/\h.get? a=a5 (Hj p.1 p.2 t u)
def fZ.keeps(x:fZ h as ps)(k:∀b o,b∈as->h.get? b=a5 o->h'.get? b=a5 o):fZ h' as ps :=
 #[x.1,λj a e=>let ⟨p,t,u,c,d⟩:=x.2 j a e;⟨p,t,u,c,k a _ (ri e) d⟩]
def fZ.tail(x:fZ h (a::as) (p::ps)):fZ h as ps :=
 #[by have:=x.1;simpa using this,λj b e=>by
  have(q,t,u,c,d):=x.2 (j+1) b (by simpa using e);show#[q,t,u,by simpa using c,d]]
theorem fZ.gE:∀{as:List df}{ps:List By},fZ h as ps->∃b:List cK,KatTups h (as.map il) b/\b.length=as.length/\∀v∈b,∃x t,v=E' x t
 |[],_,_=>#[[],KatTups.nil,rfl,by simp]
 |a::as,[],x=>by have:=x.1;simp at this
 |a::as,p::ps,x=>by
  have(b,c,d,e):=fZ.gE x.tail;have(q,t,u,g,f):=x.2 0 a rfl;show#[.str q.1 t::b,KatTups.cons f rfl rfl rfl c,by simp[d],λv hv=>?_];rcases d4.mp hv with rfl|hv
  .show#[_,_,rfl]
  .show e v hv
theorem om:∀{l:List α}{m:List β}{i:Nat}{x:α},Paired F l m->l[i]?=a5 x->∃y,m[i]?=a5 y/\F x y
 |_,_,_,_,.nil,e=>by simp at e
 |_,_,0,_,.cons r _,e=>by simp at e;subst e;show#[_,rfl,r]
 |_,_,i+1,x,.cons _ t,e=>by
  have(u,a,b):=om (i:=i) (x:=x) t (by simpa using e);show#[u,by simpa using a,b]
section
def EM(x:fZ s.heap as ps)(f:(ps.map (·.1)).Nodup)(hi:i<as.length)(e:j<as.length)(q:C (OG (ps.map (·.1)) i j) s):
  Ę prog w A (tuples' a8) (as.map il) i j C s:=by
 have(p,t,u,d,g):=x.2 i as[i] (by simp[hi]);have(a,t',u',c,k):=x.2 j as[j] (by simp[e]);have hl:=x.1;have l:i<ps.length:=by lia
 have m:j<ps.length:=by lia
 have n:(as.map il).getD i pb=.ref as[i]:=by simp[MM,hi]
 have o:(as.map il).getD j pb=.ref as[j]:=by simp[MM,e]
 have r:(ps.map (·.1)).getD i sx=p.1:=by simp[MM,d]
 have v:(ps.map (·.1)).getD j sx=a.1:=by simp[MM,c]
 unfold Ę;rw[n,o];show kat_lt (b:=a8) g rfl k rfl ?_;unfold OG at q;rw[r,v]at q;change KatLex prog w A a8 (b7 (2<2)) C [(.str p.1 t,.str a.1 t'),(.int p.2 u,.int a.2 u')] 0 s;show kat_cons (ġ ?_);by_cases h:p.1=a.1
 .have y:i=j:=by
   have z:(ps.map (·.1))[i]'(by simpa using l)=(ps.map (·.1))[j]'(by simpa using m):=by
    have(_,B):=cL.mp d;have(_,D):=cL.mp c;simp[B,D,h]
   show(ç f).mp z
  subst y;rw[d]at c;cases c;rw[ŗ rfl];show kat_yes (kat_cons (Ģ ?_));rw[show(p.2==p.2)=a8 by simp];show kat_yes (kat_nil ?_);have:b7 (p.1.cps.toList<p.1.cps.toList)=bL:=Ŗ (List.lt_irrefl _);rw[this]at q;show q
 .rw[Ŗ h];show kat_no (oneLt_str q)
def EN(x:fZ s.heap as ps)(b:(ps.map (·.1)).Nodup)(f:2<=as.length):
  du (d5 prog w) A (keyKind' (as.map il).toArray) (λκ s'=>s'=s/\∀i j,i<(as.map il).length->j<(as.map il).length->∀C:Bool->dt->Prop,C (OG (ps.map (·.1)) i j) s->Ę prog w A κ (as.map il) i j C s) (λ_ _=>False) s:=by
 have(g,c,h,d):=x.gE;show kat_kind (T:=.type "str") c ⋯ (λv e=>?_) rfl ⟨rfl,λi j hi a C q=>?_⟩
 .have(y,t,rfl):=d v e;show Looks.of_pure rfl
 .rw[b8]at hi a;show EM x b hi a q
end
abbrev k8(H:Hp):List (df×List V)->Hp
 |[]=>H
 |(a,vs)::r=>upd (k8 H r) a (.tup vs)
theorem l8:∀{l:List (df×List V)}{b:df}{o:HO},k8 H l b=a5 o->(∃vs,(b,vs)∈l/\o=.tup vs)\/H b=a5 o
 |[],b,o,h=>.inr h
 |(a,vs)::r,b,o,h=>by
  by_cases c:b=a
  .subst c;rw[k8,ar]at h;cases h;show .inl #[vs,by simp,rfl]
  .rw[k8,aj c]at h;rcases l8 h with⟨ws,d,e⟩|q
   .show .inl #[ws,by simp[d],e]
   .show .inr q
theorem l9:∀{l:List (df×List V)}{b:df},(∀p∈l,p.1≠b)->k8 H l b=H b
 |[],b,_=>rfl
 |(a,vs)::r,b,h=>by
  rw[k8,aj (nT (h _ gs))];show l9 λp c=>h p (by simp[c])
theorem u5:∀{l:List (df×List V)}{b:df}{vs:List V},(l.map (·.1)).Nodup->(b,vs)∈l->k8 H l b=a5 (.tup vs)
 |(a,ws)::r,b,vs,d,h=>by
  have c:a∉r.map (·.1)/\(r.map (·.1)).Nodup:=by simpa using d
  rcases d4.mp h with h|h
  .cases h;show ar
  .have:b≠a:=λz=>c.1 (by rw[<-z];show ku.mpr #[_,h,rfl]);rw[k8,aj this];show u5 c.2 h
section
def Inv.many(I:Inv X a σ H s)(k:∀b u,s.heap.get? b=a5 u->h'.get? b=a5 u)(d:∀b o,H b=a5 o->H' b=a5 o)
  (f:∀b o,H' b=a5 o->H b=a5 o\/((~~~s)<=b/\bO X.prog X.w H' h' b o)):Inv X a σ H' {s with heap:=h',toks:=t' }:=by
 show I.un #[λb u q _ _ _=>k b u q,λb u q _ _ _=>#[u.slots,k b u q],λb u q n _=>?_,λb u q _=>#[u,k b u q],λb xs q=>d b _ q,λb u xs q=>d b _ q,λb ps q=>#[#v[],by rw[d b _ q];simp]] λb o e=>?_
 .cases e:H' b with
  |none=>rfl
  |some o =>
   rcases f b o e with z|⟨z,_⟩
   .rw[n]at z;cases z
   .show absurd (i9 (gc q) z) (tv _)
 .rcases f b o e with z|⟨_,z⟩
  .show(I.JE b o z).kY (λc v _ q=>k c v q) (λc q=>d c _ q) λc xs q=>d c _ q
  .show z
abbrev NR(p:By):List V:=[.str p.1,.int p.2]
def pJ{ps:List By}(hc:X.calm=a8)(I:Inv X g σ H s)(e:H d=a5 (.dK (ps.map λp=>((nH p.1:Key),V.int p.2))))(JV:(ps.map (·.1)).Nodup)(N':ps.length<64)
  (q:∀(as:List df) (L:df),as.length=ps.length->as.Nodup->(∀a∈L::as,H a=bD)->L∉as->Q (.ref L) (upd (k8 H (as.zip (ps.map NR))) L (.lst ((k7 (ps.map (·.1))).map λi=>V.ref (as.getD i 0))))) :
  ‹X› (PB (.builtin "dict.items") [.ref d]) (λv s1=>‹X› (PB (.builtin "sorted") [v]) (EP X g σ Q) X.xe s1) X.xe s:=by
 have ab:(64:Nat)<=b6:=by decide
 have(hz,lo,vs,kv,dd):=yh I.JE e;have C:vs.length=ps.length:=by
  have:=Paired.length kv;simpa using this.symm
 have(o,es,ep,r):=id dd;show Ð PySem.F.slot_dict_items (show s.TypeIs (.ref d) "dict" from#[o,r.1,r.2.1.1]) PySem.F.entry_dict_items (PySem.F.args_dict_items_1 _) (meets_dict_items (bc X.prog X.w) d lo) #[#[vs,dd],?_];change ‹X› (PB (.builtin "sorted") [.ref (~~~s)]) (EP X g σ Q) X.xe {s with heap:=s.heap.push {cls:=.type "dict_items",data:=.fields #v[.ref d]}};have k1:∀b u,s.heap.get? b=a5 u->(s.heap.push {cls:=.type "dict_items",data:=.fields #v[.ref d]}).get? b=a5 u:=λb u z=>cb _ z;have ac:(s.heap.push {cls:=.type "dict_items",data:=.fields #v[.ref d]}).DictOf (bc X.prog X.w) d vs:=#[o,es,ep,k1 _ _ r.1,r.2]
 have Le:(s.heap.push {cls:=.type "dict_items",data:=.fields #v[.ref d]}).DictAt (bc X.prog X.w) d vs ep:=#[o,es,k1 _ _ r.1,r.2]
 show Xr kind_sorted plain_sorted entry_sorted (args_sorted1 _) ?_;unfold O3.«sorted»;show bR (m:=checkCount "sorted" 1 1 _) (c6 ?_);show bR (kdx_collect (A:=X.A.in1) (knd:=bc X.prog X.w) (kvs:=vs) (ep:=ep) (I.ok.hd hc) #[_,d7 _ rfl,rfl,rfl] Le ⋯ λc tk as hk hl D=>?_);have G:as.length=ps.length:=hl.trans C;have f:∀a∈as,(~~~s)<=a:=λa ha=>by
  have:=D.above a ha;have z:(s.heap.push {cls:=.type "dict_items",data:=.fields #v[.ref d]}).objs.size=(~~~s)+1:=Uj ..;have WI:(s.heap.push {cls:=.type "dict_items",data:=.fields #v[.ref d]}).objs.size<a:=this;lia
 have pa:fZ c as ps:=#[G,λj a ea=>by
  have(key,k,x,N,O,e3):=D.pairs j a ea;have B:j<ps.length:=by rw[<-G];show(cL.mp ea).1
  have(y,ey,r1,r2):=om kv (i:=j) (x:=((nH ps[j].1:Key),V.int ps[j].2)) (by simp[B]);rw[N]at ey;cases ey;obtain⟨tx,rfl⟩:∃t,x=.int ps[j].2 t:=r2;have Y2:k=nH ps[j].1:=r1.symm;subst Y2;have(t,rfl):=Za (x:=ps[j].1) (v:=key) O;show#[ps[j],t,tx,by simp[B],e3]]
 have nd:as.Nodup:=D.rise.imp λh=>ix h;show bR (ZP ?_ (by rw[b8];lia));have T:(c.push (y0 "list" (as.map il).toArray 0)).get? c.objs.size=a5 (y0 "list" (as.map il).toArray 0):=d7 _ rfl;change du _ _ _ _ _ {s with heap:=c.push (y0 "list" (as.map il).toArray 0),toks:=tk};have WJ:∀a∈as,a<c.objs.size:=λa ha=>D.there ha;show bR (x4 (ve Ŏ #[_,T,rfl] Ļ (wA (lt:=OG (ps.map (·.1))) T (by rw[b8];lia) (λh2 s1 ks=>?_) ⟨_,rfl,?_⟩) (ő _)))
 .show EN (pa.keeps λb o J z=>ks b o (ix (WJ b J)) (cb _ z)) JV (by rw[b8]at h2;show h2)
 .have(ee,he):=sortedHeap_at (out:=((iU (OG (ps.map (·.1))) (O' (as.map il).length)).toList.map λi=>(as.map il).getD i pb).toArray) T;have n:∀b o,c.get? b=a5 o->(Č (c.push (y0 "list" (as.map il).toArray 0)) c.objs.size (as.map il) ((iU (OG (ps.map (·.1))) (O' (as.map il).length)).toList.map λi=>(as.map il).getD i pb).toArray).get? b=a5 o:=λb o z=>by
   have Kk:b<c.objs.size:=gc z;rw[ō (ix Kk) (by rw[Uj];show QD Kk)];show cb _ z
  have O7:(~~~s)<=c.objs.size:=Oy (gc (hk _ _ (d7 _ rfl)));have eP:((iU (OG (ps.map (·.1))) (O' (as.map il).length)).toList)=k7 (ps.map (·.1)):=by
   unfold k7;rw[b8,b8,G]
  have Qa:H c.objs.size=bD:=I.JE.fresh O7;have Y3:c.objs.size∉as:=λz=>tv _ (WJ _ z);have WK:∀a∈as,H a=bD:=λa ha=>I.JE.fresh (f a ha);have UN:∀{b:df} {ws:List V},(b,ws)∈as.zip (ps.map NR)->b∈as:=λz=>(PN z).1;show c6 #[_,rfl,.ref c.objs.size,upd (k8 H (as.zip (ps.map NR))) c.objs.size (.lst ((k7 (ps.map (·.1))).map λi=>V.ref (as.getD i 0))),?_,rfl,q as _ G nd (λa ha=>?_) Y3]
  .show I.many (λb u z=>n b u (hk b u (k1 b u z))) (λb o z=>?_) λb o z=>?_
   .have n1:b≠c.objs.size:=λy=>by rw[y,Qa]at z;cases z
    rw[aj n1,l9 λp hp y=>?_]
    .show z
    .have:=WK p.1 (UN (b:=p.1) (ws:=p.2) hp);rw[y,z]at this;cases this
   .by_cases J:b=c.objs.size
    .subst J;rw[ar]at z;cases z;show .inr #[O7,by rw[b8,(hZ _).length_eq,Vu,b8];lia,(k7 (ps.map (·.1))).map λi=>(as.map il).getD i pb,ee,?_,?_]
     .have Y:∀i∈k7 (ps.map (·.1)),i<as.length:=λi hi=>by
       have:=p7.mp ((hZ _).mem_iff.mp hi);rw[b8]at this;lia
      generalize k7 (ps.map (·.1))=l at Y;induction l with
      |nil=>show .nil
      |cons i l ih =>
       show .cons ?_ (ih λj B=>Y j (by simp[B]));have hi:=Y i (by simp);change RelV (.ref (as.getD i 0)) ((as.map il).getD i pb);have:(as.map il).getD i pb=.ref (as.getD i 0):=by simp[MM,hi]
       rw[this];rfl
     .rw[<-eP];show he
    .rw[aj J]at z;rcases l8 z with⟨ws,z1,rfl⟩|z1
     .have(j,B,ej):=T6.mp z1;have UO:j<as.length:=by simp at B;lia
      have UM:j<ps.length:=by lia
      have Y4:as[j]=b/\NR ps[j]=ws:=by simpa using ej
      have(rfl,rfl):=Y4;have(p,t,u,N,O):=pa.2 j as[j] (by simp[UO]);have:p=ps[j]:=by simpa[UM] using N.symm
      subst this;show .inr #[f _ (by simp),by change 2<=b6;lia,[.str ps[j].1 t,.int ps[j].2 u],.cons #[t,rfl] (.cons #[u,rfl] .nil),_,n _ _ O,rfl,0,rfl]
     .show .inl z1
  .rcases d4.mp ha with rfl|ha
   .show Qa
   .show WK a ha
end
section
def wB{vs:List (Key×cK)}(hk:vs.map (·.1)=ks.map nH)(hl:a.length=vs.length)(h:∀(j:Nat) (v:cK),a[j]?=a5 v->∃k x,vs[j]?=a5 (k,x)/\(bc P w).is k v=a8):Se a ks:=by
 induction a generalizing ks vs with
 |nil =>
  cases vs with
  |nil=>cases ks with
   |nil=>show .nil
   |cons _ _=>cases hk
  |cons _ _=>cases hl
 |cons v a c =>
  cases vs with
  |nil=>cases hl
  |cons p vs =>
   cases ks with
   |nil=>cases hk
   |cons k ks =>
    simp only[d6,QL]at hk;have(k',x,b,d):=h 0 v rfl;simp only[List.getElem?_cons_zero,T5]at b;subst b;have f:k'=nH k:=hk.1;subst f;rcases bx (show lF (nH k) v=a8 from d) with⟨i,t,e,rfl⟩|⟨y,t,e,rfl⟩
    .cases e
    .cases e;show .cons _ _ (c hk.2 (by simpa using hl) λj u g=>h (j+1) u (by simpa using g))
def j3:X.calm=a8->iG X (.builtin "sorted") (λxs H Q=>∃(d:df) (kvs:List (Key×V)) (ks:List Str),xs=[.ref d]/\H d=a5 (.dK kvs)/\kvs.map (·.1)=ks.map nH/\ks.length<64/\∀q,H q=bD->Q (.ref q) (upd H q (.lst ((bI ks).map V.str)))):=by
 intro l a s σ H xs us Q I rs h;have(d,kvs,ks,rfl,e,hk,D,q):=h;have(u,rfl,r):=vals1 rs;cases r;have(hz,lo,vs,kv,dd):=yh I.JE e;have b:vs.length=kvs.length:=(Paired.length kv).symm;have m:kvs.length=ks.length:=by rw[<-b8 (f:=(·.1)),hk,b8]
 have n:vs.map (·.1)=ks.map nH:=by
  rw[<-hk];clear dd b hk m e q hz;induction kv with
  |nil=>rfl
  |cons r _ p=>rw[d6,d6,p,r.1]
 have(o,es,ep,t):=id dd;have x:(64:Nat)<=b6:=by decide
 show iR (kdu_collect (A:=X.A.in1) (kdl_dict (knd:=bc X.prog X.w) (kvs:=vs) (ep:=ep) lo) (I.ok.hd l) #[o,es,t] ⋯ λh' c y z g=>#[ks,wB n (by rw[sL];show g.1) (λj v B=>g.2 j v (by rw[<-TB];show B)),by rw[sL,g.1];lia,λG vs' C k2 i s2=>?_]);have k:Inv X a σ H {s with heap:=h',toks:=c}:=I.kept (t':=c) z;show#[.ref h'.objs.size,_,k.laid (t':=c) (o:=.lst ((bI ks).map V.str)) k2 (ez _) #[by rw[b8,jr];lia,vs',C,fL s2,i],rfl,q _ (k.JE.fresh (ez _))]
end
end L2
namespace L2
open PySem PyProof.Rows PySem.W
abbrev Ji(h:K2)(e C:df)(a0:cK)(T:Option df)(b:cK):Prop:=∃oe vs,h.get? e=a5 oe/\oe.cls=.ref C/\oe.data=.fields vs/\vs[0]?=a5 a0/\match T with
 |none=>vs[1]?=a5 .none
 |some T=>T≠e/\vs[1]?=a5 (.ref T)/\∃a ts,h.get? T=a5 a/\a.data=.fields ts/\ts[3]?=a5 b
structure cv(P:tr)(w:ux)(stack:List Env)(H:Hp)(s:dt)(e C:df)(T:Option df)(fl:cK)(H':Hp)(s':dt):Prop where
 os:s'.os=s.os
 bare:Tf s'.gens
 un:Un (Kj stack) [] H H' s.heap s'.heap
 JE:KH P w H' s'.heap
 new:s.heap.get? e=bD
 he:H' e=bD
 exc:∃a0,Ji s'.heap e C a0 T fl
 hT:∀a,T=a5 a->s.heap.get? a=bD/\H' a=bD
abbrev LH(P:tr)(w:ux):N5:=λouter H s E v s'=>∃e C T H',v=.ref e/\cv P w outer H s e C (a5 T) .none H' s'/\E (.ref C) bD H'
def bO.there(x:bO P w H h a o):∃u,h.get? a=a5 u:=by
 cases o with
 |lst xs=>have(_,_,_,_,e):=x;show#[_,e]
 |tup xs=>have(_,_,_,_,e,_):=x;show#[_,e]
 |set S n=>have(o,_,_,_,e,_):=x;show#[_,e]
 |ins C c b=>have(_,_,_,e,_):=x;show#[_,e]
 |own y=>show x
 |xd b=>have(_,(_,_,_,e,_),_):=x;show#[_,e]
 |R3 lo hi=>have(_,_,_,e):=x;show#[_,e]
 |Lr d u=>show#[_,x.1]
 |Ow ps=>show#[_,x]
 |met f y=>show#[_,x]
 |ext φ=>show x.2.1
 |_=>have(_,_,_,_,o,_,_,e,_):=x;show#[_,e]
section
variable{P:tr}{w:ux}{stack outer:List Env}{H H':Hp}{s s':dt}{e C L:df}{T:Option df}{fl:cK}{base:K2}{env:Env}{M:Model}{A:Ke}{E:cK->dt->Prop}{Q:Unit->dt->Prop}
theorem u6(u:Un (Kj stack) [] H H' s.heap s'.heap)(a:∀b∈Kj stack,H b=bD):∀l:List Env,(∀b∈Kj l,b∈Kj stack)->s.heap.FunFrames base l->s'.heap.FunFrames base l
 |[],_,_=>trivial
 |env::l,hs,⟨hk,⟨L,o,c,d,ho,f⟩,g⟩=>by
  have h:Kj (env::l)=L::Kj l:=by unfold Kj;rw[Hf,c]
  rw[h]at hs;have(j,q):=u.any ho (a L (hs L gs)) λz=>nomatch z
  show#[hk,#[L,_,c,d,q,f],u6 u a l (λb i=>hs b (fx _ i)) g]
def cv.next(F:cv P w stack H s e C T fl H' s')(k:s.heap.FunFrames base stack)(l:∀b∈Kj stack,H b=bD)(G:B=hideAll s'.heap (e::(T.toList++Kj stack))):
  B.StaysIn s'.heap/\s'.heap.FunFrames B stack/\B.get? e=bD/\(∀a,T=a5 a->B.get? a=bD) /\
   ∀h' i,B.StaysIn h'->h'.FunFrames B stack->h'.TracedAtW B e (.ref C) a0 i->s'.heap.UpToSlots h'->∃c,cv P w stack H s e C (a5 c) i H' {s' with heap:=h' }:=by
 have m:=u6 F.un l _ (λ_ z=>z) k;subst G;show#[λb o q=>of_hideAll _ q,funFrames_hide m λI J a N=>fx _ (r6 _ (PR.mpr #[I,J,N])),hideAll_none _ gs,λa z=>hideAll_none _ (fx _ (Po _ (by simp[z]))),λh' i k1 k2 ⟨O,vs',c,Y,Y8,b1,⟨b2,b0⟩,b3,b4,b5,p,r,t,b9⟩ k4=>?_];have Y9:∀a,a∈e::(T.toList++Kj stack)->H' a=bD:=λa ha=>by
  rcases d4.mp ha with rfl|ha
  .show F.he
  rcases f6.mp ha with ha|ha
  .show(F.hT a (by simpa using ha)).2
  .have(_,o,ho,_):=k.mem ha;show F.un.free a o ho (l a ha) λz=>nomatch z
 have keep:∀b o,b∉e::(T.toList++Kj stack)->s'.heap.get? b=a5 o->h'.get? b=a5 o:=λb o hb q=>k1 b o (hideAll_get _ q hb);have slot:∀b o,b∈Kj stack->s'.heap.get? b=a5 o->∃v,h'.get? b=a5 {o with slots:=v}:=λb o hb q=>by
  have(_,o',d,j):=m.mem hb;rw[q]at d;cases d;show k4 b o q j
 have x:∀b o,s.heap.get? b=a5 o->b∉Kj stack->b∉e::(T.toList++Kj stack):=λb o q hb z=>by
  rcases d4.mp z with z|z
  .rw[z,F.new]at q;cases q
  rcases f6.mp z with z|z
  .rw[(F.hT b (by simpa using z)).1]at q;cases q
  .show hb z
 have tn:s.heap.get? c=bD/\H' c=bD:=by
  by_cases z:c∈e::(T.toList++Kj stack)
  .rcases d4.mp z with z|z
   .show absurd z p
   rcases f6.mp z with z|z
   .show F.hT c (by simpa using z)
   .have(_,o',d,j):=k2.mem z;rw[r]at d;cases d;show absurd t (j _)
  .have q:s'.heap.get? c=bD:=by
    cases q:s'.heap.get? c with
    |none=>rfl
    |some o=>have:=hideAll_get _ q z;rw[b5]at this;cases this
   show#[?_,?_]
   .cases f:s.heap.get? c with
    |none=>rfl
    |some o=>have(o',y):=F.un.there _ o f λz=>nomatch z;rw[q]at y;cases y
   .cases f:H' c with
    |none=>rfl
    |some u =>
     have(o,z):=(F.JE c u f).there;rw[q]at z;cases z
 show#[c,F.os,F.bare,#[λb o q n hb g=>keep b o (x b o q hb) (F.un.keep b o q n hb g),λb o q n hb g=>?_,F.un.free,λb o q g=>?_,F.un.gE,F.un.KI,F.un.KY],λa u q=>(F.JE a u q).kY (λb o hb d=>?_) (λ_ z=>z) λ_ _ z=>z,F.new,F.he,#[_,O,vs',b1,b2,b3,b0,p,b4,Y,Y8,r,t,b9],λa z=>by cases z;show tn]
 .have(v,h):=F.un.slot b o q n hb g;have(D,f):=slot b _ hb h;show#[D,f]
 .have(o',h):=F.un.there b o q g;by_cases hb:b∈Kj stack
  .have(D,f):=slot b _ hb h;show#[_,f]
  .show#[_,keep b _ (x b o q hb) h]
 .show keep b o (λz=>?_) d;have:=Y9 b z;rcases hb with rfl|hb
  .rw[q]at this;cases this
  .rw[hb]at this;cases this
def cv.leave(F:cv P w (env::outer) H s e C T .none H' s')(c:A.frames=a5 (env::outer))(d:env.frame=a5 L)(q:s.heap.FunFrames base (env::outer))(r:∀b∈Kj (env::outer),H b=bD)
  (h:∀f g,cv P w (env::outer) H s e C (a5 f) .none H' g->Q () g):du M A (leaving env (.ref e)) Q E s':=by
 have(a0,oe,vs,i,j,k,l,m):=F.exc;obtain⟨B,t⟩:∃B,B=hideAll s'.heap (e::(T.toList++Kj (env::outer))):=#[_,rfl]
 have(n,o,p,u,v):=F.next (a0:=a0) q r t;have a:∀h',Heap.LeftW B (env::outer) e (.ref C) a0 s'.heap h'->Q () {s' with heap:=h' }:=λh' x=>by
  have(k1,k2,k3,y):=x;have(f,z):=v h' .none k1 k2 k3 y;show h _ _ z
 cases T with
 |none=>show wpAny_leaving_firstW c o d i n p k m l λh' z=>a h' (j▸z)
 |some T =>
  have(D,G,I,ts,J,N,O):=m;show wpAny_leaving_nextW c o d #[oe,vs,T,I,ts,i,#[j,l],k,G,u T rfl,D,J,N,O] n p a
def cv.note{T:df}(F:cv P w (env::outer) H s e C (a5 T) .none H' s')(d:A.frames=a5 (env::outer))(f:env.frame=a5 L)(g:s.heap.FunFrames base (env::outer))(i:∀b∈Kj (env::outer),H b=bD)
  (h:∀a c,cv P w (env::outer) H s e C (a5 a) (Ra L) H' c->Q () c):du M A (noteFrame (.ref e) env) Q E s':=by
 have(a0,oe,vs,j,k,l,m,n,o,p,ts,q,r,t):=F.exc;have(u,v,x,y,B):=F.next (a0:=a0) g i rfl;show wpAny_noteFrame_onW d v f #[oe,vs,T,p,ts,j,#[k,m],l,o,y T rfl,n,q,r,t] u x λh' D=>?_;have(k1,k2,k3,G):=D;have(a,z):=B h' _ k1 k2 k3 G;show h _ _ z
def cv.land{T:df}(F:cv P w stack H s e C (a5 T) fl H' s')(d:s.heap.FunFrames base stack)(f:∀b∈Kj stack,H b=bD)
  (h:∀a c,cv P w stack H s e C (a5 a) .none H' c->Q () c):du M A (setFlight (.ref e) bD) Q E s':=by
 have(a0,oe,vs,g,i,j,k,l,m,p,ts,r,t,u):=F.exc;have(v,x,G,y,B):=F.next (a0:=a0) d f rfl;show wpAny_setFlight_noneW v x #[oe,vs,T,p,ts,g,#[i,k],j,m,y T rfl,l,r,t,u] λh' k1 k2 k3 D=>?_;have(a,z):=B h' _ k1 k2 k3 λb o q n=>#[o.slots,D b o q n]
 show h _ _ z
end
section
def cv.down(I:Inv X i σ H s)(k:X.ex=[])(hs:X.stack=X.env::X.outer)(l:X.env.frame=a5 X.env.locals)(F:cv X.prog X.w X.stack H s e C T m H' s'):cv X.prog X.w X.outer X.H₀ X.s₀ e C T m H' s':=by
 have nx:∀b:df,b∉X.ex:=λb z=>by rw[k]at z;cases z
 have j:Kj X.stack=X.env.locals::Kj X.outer:=by rw[hs];unfold Kj;rw[Hf,l]
 have c:∀b,s.heap.get? b=bD->X.s₀.heap.get? b=bD:=λb q=>by
  cases z:X.s₀.heap.get? b with
  |none=>rfl
  |some o=>have(o',z):=I.base.there b o z (nx b);rw[q]at z;cases z
 have hl:∀b o,X.s₀.heap.get? b=a5 o->b≠X.env.locals:=λb o q=>ix (i9 (gc q) I.ok.above);have g:∀b:df,b∉([]:List df):=λb z=>nomatch z
 show#[F.os.trans I.os,F.bare,#[λb o q n f _=>?_,λb o q n f _=>?_,λb o q n _=>?_,λb o q _=>?_,λb xs q=>F.un.gE b xs (I.base.gE b xs q),λb o u q=>F.un.KI b o u (I.base.KI b o u q),λb ps q=>?_],F.JE,c _ F.new,F.he,F.exc,λa z=>#[c _ (F.hT a z).1,(F.hT a z).2]]
 .show F.un.keep b o (I.base.keep b o q n f (nx b)) (I.base.free b o q n (nx b)) (λz=>by rw[j]at z;show(d4.mp z).elim (hl b o q) f) (g b)
 .have(r,d):=I.base.slot b o q n f (nx b);have(p,h):=F.un.slot b _ d (I.base.free b o q n (nx b)) (by rw[j];show fx _ f) (g b);show#[p,h]
 .have(o',d):=I.base.there b o q (nx b);show F.un.free b o' d (I.base.free b o q n (nx b)) (g b)
 .have(o',d):=I.base.there b o q (nx b);show F.un.there b o' d (g b)
 .have(m1,d):=I.base.KY b ps q;have(m2,h):=F.un.KY b _ d;show#[m1++m2,by rw[h,É]]
def cv.made(I:Inv X c σ H s)(b:Heap.MadeExcOf s.heap h' e (.ref C) vs):cv X.prog X.w X.stack H s e C bD .none H {s with heap:=h' }:=by
 have(t,d,_):=b.there;show#[rfl,I.bare,Un.kept b.keeps,I.JE.kept b.keeps,b.new,?_,#[_,_,_,d,rfl,rfl,rfl,rfl],λa z=>nomatch z];cases z:H e with
 |none=>rfl
 |some u=>have(o,q):=(I.JE e u z).there;rw[b.new]at q;cases q
abbrev Qb:List cK:=[.type "ValueError",.type "Exception",.type "BaseException",.type "object"]
abbrev Y_(p:df->List cK->Option cK->Option cK->Option cK->Option cK->String->Option cK->Bool)(M:List cK)(S:List (Option cK)):Prop:=∃C a k0 k1 k2 k3 n k5,M=.ref C::a/\S=[k0,k1,k2,k3,a5 (.builtin n),k5]/\p C a k0 k1 k2 k3 n k5=a8
def nf{P:Prop}(h:bL=a8):P:=nomatch h
def EO(q:excIn.match_1 (λ_ _=>Bool) M S p (λ_ _=>bL)=a8):Y_ p M S:=by
 cases M with
 |nil=>show nf q
 |cons v a =>
  cases v with
  |ref C =>
   cases S with
   |nil=>show nf q
   |cons k0 S =>
   cases S with
   |nil=>show nf q
   |cons k1 S =>
   cases S with
   |nil=>show nf q
   |cons k2 S =>
   cases S with
   |nil=>show nf q
   |cons k3 S =>
   cases S with
   |nil=>show nf q
   |cons b S =>
   cases b with
   |none=>show nf q
   |some v =>
   cases v with
   |builtin n =>
    cases S with
    |nil=>show nf q
    |cons k5 S =>
    cases S with
    |nil=>show#[C,a,k0,k1,k2,k3,n,k5,rfl,rfl,q]
    |cons _ _=>show nf q
   |_=>show nf q
  |_=>show nf q
abbrev Y'(p:Option df->ClassData->Array (Option cK)->Bool)(o:Option Obj):Prop:=∃d a b,o=a5 #[.type "type",d,.cls a,b]/\p d a b=a8
def ER(q:excIn.match_6 (λ_=>Bool) o p (λ_=>bL)=a8):Y' p o:=by
 split at q
 .show#[_,_,_,rfl,q]
 .show nf q
def ES{K:ĉ}{P:Prop}(b:K.In h)(q:excIn K C Qb a=a8)(k:∀c N nm d bs hdct sn sub ab col dd k0 k1 k2 k3 k5 f,h.get? C=a5 (excClassObj nm d C N bs c hdct sn sub ab col dd k0 k1 k2 k3 k5 a)->h.Ns N f->f "__init__"=bD->OwnTail h Qb c->P):P:=by
 have(dd,p,r,ho,g):=ER q;have(v,c,k0,k1,k2,k3,n,k5,i,hs,j):=EO g;clear q g;have(nm,bs,mro,ns,d,s,sn,sub,ab,col,t):=p;have⟨l⟩:=r;simp only[bF,beq_iff_eq,nC]at j;obtain⟨⟨⟨⟨⟨rfl,rfl⟩,m⟩,u⟩,e⟩,o⟩:=j
 dsimp only at i m e o
 subst i m;obtain rfl:l=_:=hs;show k c ns nm d bs s sn sub ab col dd k0 k1 k2 k3 k5 _ (b _ _ ho) (.of_isNs (isNs_of_in b e)) (nsMap_none_of_in b e o) (tail_of_in b u)
def yE(i:X.calm=a8)(j:Gl X x)(f:X.mg x=a5 (.ref C))(k:(x==("__debug__":Str))=bL)(l:excIn X.K C Qb "ValueError.__new__"=a8)(m:PE X a n)
  (g:gj [a] X.env=[(bL,tj a X.env)]) :
  PS X (.Raise (a5 (.Call (.Name x p) [a] [] A)) bD pos) (λD σ H=>n σ H λv d=>∀b s e s',Inv X b σ d s->cv X.prog X.w X.stack d s e C bD .none d s'->X.xe (.ref e) s'):=by
 intro b s σ H D I h;show ES I.mod.N2 l λB N nm o bs hdct sn sub ab col dd k0 k1 k2 k3 k5 G r t y T=>?_;show wpAny_Raise_call_subT (nm:=nm) (q:=o) (N:=N) (bs:=bs) (hdct:=hdct) (sn:=sn) (sub:=sub) (ab:=ab) (col:=col) (dd:=dd) (k0:=k0) (k1:=k1) (k2:=k2) (k3:=k3) (k5:=k5) Ö (T.hasType Ö.hasBase) (I.ok.hd i) (by rw[g];rfl) y (eQ I j f #[rfl,?_] k);rw[g];show MA (NY (JJ (m b s σ H _ I h) λu s1 ⟨v,d,c,r1,z⟩=>Qc #[rfl,?_,c.bk _ _ r,t.keeps c.bk,T.keeps c.bk,λh' e f=>z b s1 e _ c (.made c f)]));show(by decide:1<=b6)
def u7:Passes (LH X.prog X.w) X E0:=λ_ _ _ _ _ _ _ ⟨_,_,_,_,_,_,h⟩=>h.elim
def u9(F:eO X.prog X.w X.K X.mg X.base CX k f d ps sp)(g:cF k X.A)(i:Binds X.K d ps [])(I:Inv X a σ H s)(r:Vals vs us)(h:sp vs H Q E)
  (j:∀e s',CX X.stack H s E e s'->EE e s'):‹X› (PB (.ref f) us) (EP X a σ Q) EE s:=by
 have hl:us.length=ps.length:=by rw[<-r.length];show F.len _ _ _ _ h
 have c:=i s us I.Li (by rw[oD];show hl);rw[oD]at c;show Wz (PM (F.run X.A X.stack s H #[us,[]] us vs Q E g I.Bc c r h) λr s' b=>?_);cases r with
 |error e=>show j e s' b
 |ok l =>
  cases l with
  |ret u=>show I.after b
  |_=>show wk b
end
@[reducible]noncomputable def Cx.Of(X:Cx)(e:df)(oe:Obj)(E:cK->dt->Prop):Cx:={X with A:=X.A.mark (a5 (.ref e)),calm:=bL,pn:=(e,oe)::X.pn,xe:=E}
section
def Inv.Of(I:Inv X a σ H s)(b:s.heap.get? e=a5 oe)(c:H e=bD)(d:e≠X.env.locals)(f:e∉X.fs)(g:∀v,oe.data≠.cell v):Inv (X.Of e oe E) a σ H s :=
 #[#[I.ok.mod,I.ok.kind,I.ok.glob,I.ok.blt,I.ok.above,I.ok.inj,I.ok.has,I.ok.OU,λz=>(nomatch z),I.ok.frames,I.ok.PU,I.ok.R5,I.ok.bs,I.ok.M3,I.ok.Md,I.ok.MI,I.ok.iO,I.ok.NG],I.os,I.bare,I.base,I.loc,I.cell,I.free,I.J5,
  λp h=>(d4.mp (show p∈(e,oe)::(X.pn++a) from h)).elim (λz=>by subst z;show#[b,c,d,f,g]) λz=>I.pin p z,I.JE,I.len]
def Inv.Jj(b:X.Ok)(I:Inv (X.Of e oe E) a σ H s):Inv X a σ H s :=
 #[b,I.os,I.bare,I.base,I.loc,I.cell,I.free,I.J5,λp c=>I.pin p (fx _ c),I.JE,I.len]
def Inv.gone(I:Inv X f σ H s)(D:X.N.Nodup)(w:X.N[j]?=a5 n)(hl:X.env.scope.names.lookup n=a5 .local)
  (h:∀s',Inv X f (σ.set j bD) H s'->Q () s'):du M A (do bindName X.env n .none;unbindBehindTheSuite X.env n pos) Q E s:=by
 have(m,G,J):=id I.loc;have L:(X.env.scope.kind==.class||(X.env.scope.kind==.module&&X.env.locals != X.env.globals))=bL:=by rw[I.ok.kind];rfl
 show wpAny_nameGoes_keeps hl G L λh' v O hs=>h _ ?_;have x:=I.Ni;have T:j < σ.length:=by rw[I.len];show(cL.mp w).1
 have ne:∀b o,X.s₀.heap.get? b=a5 o->b≠X.env.locals:=λb o q=>ix (i9 (gc q) I.ok.above);show#[I.ok,I.os,I.bare,#[λb o e n t g=>(hs.2 b (ne b o e)).trans (I.base.keep b o e n t g),λb o e n t g=>?_,I.base.free,λb o e g=>?_,I.base.gE,I.base.KI,I.base.KY],#[_,O,λi y u B k Y=>?_],λy c e=>?_,I.free,I.J5,λp hp=>?_,λb ob e=>(I.JE b ob e).kY (λc w' hc q=>(hs.2 c ?_).trans q) (λ_ q=>q) λ_ _ q=>q,by simpa using I.len]
 .have(sl,q):=I.base.slot b o e n t g;show#[sl,(hs.2 b (ne b o e)).trans q]
 .have(o',q):=I.base.there b o e g;show#[o',(hs.2 b (ne b o e)).trans q]
 .have C:i≠j:=λz=>by subst z;rw[c4 T]at k;cases k
  rw[f7 (nT C)]at k;have(u',r,l):=J i y u B k Y;show#[u',r,l.imp (λ⟨a,b⟩=>#[a,?_]) λ⟨a,c,b,d⟩=>#[a,c,b,d.sameBut hs (x y c b)]];change(if y=n then v else m y)=a5 u';rw[ŕ λ(z:y=n)=>C (jg D B (by rw[z];show w))];show b
 .have(u,z):=I.cell y c e;show#[u,z.sameBut hs (x y c e)]
 .have(a,b,c,d):=I.pin p hp;show#[(hs.2 p.1 c).trans a,b,c,d]
 .rintro rfl;rcases hc with hc|hc
  .rw[<-hc,I.free]at e;cases e
  .rw[I.free]at hc;cases hc
end
section
variable{prog:tr}{w:ux}{A:Ke}{E:cK->dt->Prop}{h:K2}{g:Array U6}{d:Drawn}{t:Nat}{os:OsState}{a C:df}{o:Obj}{K:ĉ}
def qR(e:K.In h)(hs:ŉ K (.ref C) (.type "object")=a5 a8)(b:h.get? a=a5 o)(c:o.cls=.ref C)(j:R (.ok (.ret (.ref C))) #[h,g,d,t,os]):
  OY (d5 prog w) A (.call (.builtin "getset_descriptor.__get__") #[[.builtin "object.__class__",.ref a,.ref C],[]]) R #[h,g,d,t,os]:=by
 have f:(⟨h,g,d,t,os⟩:dt).TypeIs (.builtin "object.__class__") "getset_descriptor":=Uh;have i:Ě (d5 prog w) h (TU (.ref C) (.type (".".intercalate ("object.__class__".cutAt '.').dropLast))) a8:=by rw[F.owner_object_class];show looks_subIn e hs
 show UW YY.plain F.entry_gs_get (YY.check _ _ _ _ _ _ _ _ f (F.args_gs_get _ _ _) ?_)
 repeat (any_goals (first|assumption|(with_reducible show QR b ?_;rw[c])|with_reducible show i.at ?_|wp_step))
 show#[UL _ (by decide +kernel),Nh F.entry_object_class ?_]
 repeat (any_goals (first|assumption|(with_reducible show QR b ?_;rw[c])|wp_step))
def nS(b:K.In h)(hs:ŉ K (.ref C) (.type "object")=a5 a8)(f:Ŋ K (.ref C) "__class__"=a5 (a5 (.builtin "object.__class__")))(c:h.get? a=a5 o)(e:o.cls=.ref C)(j:Q (.done (.ret (.ref C))) #[h,g,d,t,os]):
  du (d5 prog w) A (O3.«object.__getattribute__» ⟨[.ref a,.str "__class__" k],[]⟩) Q E #[h,g,d,t,os]:=by
 have l:(⟨h,g,d,t,os⟩:dt).TypeIs (.builtin "object.__class__") "getset_descriptor":=Uh;have i:Ě (d5 prog w) h (SN (.ref C) "__class__") (a5 (.builtin "object.__class__")):=Ó b f;have m:=Uh;have n:=YY.lookup;have p:=F.slot_gs_set.lookup
 repeat (any_goals (first|assumption|(with_reducible show QR c ?_;rw[e])|with_reducible show i.at ?_|wp_step))
 show qR b hs c e ?_
 repeat (any_goals (first|assumption|wp_step))
def tm(b:K.In h)(hs:ŉ K (.ref C) (.type "BaseException")=a5 a8)(c:h.get? a=a5 o)(e:o.cls=.ref C)(f:Q () #[h,g,d,t,os]):du M A (TY "BaseException.__getattribute__" ⟨[.ref a,i],[]⟩) Q E #[h,g,d,t,os]:=by
 have hk:builtinKind "BaseException.__getattribute__"=a5 .slot:=by decide +kernel
 have j:splitId "BaseException.__getattribute__"=a5 ("BaseException","__getattribute__"):=by decide +kernel
 have k:Ě M h (TU (.ref C) (.type "BaseException")) a8:=looks_subIn b hs;have l:=F.args_bexc_ga (.ref a) i;simp only[TY,hk,j];show bR ?_
 .unfold isInstance
  repeat (first|(with_reducible show QR c ?_;rw[e])|with_reducible show k.at ?_|wp_step)
  show f
abbrev f9(K:ĉ)(C:df):Bool:=ŉ K (.ref C) (.type "object")==a5 a8&&ŉ K (.ref C) (.type "BaseException")==a5 a8&&Ŋ K (.ref C) "__class__"==a5 (a5 (.builtin "object.__class__"))&&Ŋ K (.ref C) "__getattribute__"==a5 (a5 (.builtin "BaseException.__getattribute__"))&&Ŋ K (.ref C) "__getattr__"==a5 bD&&(clsIn K C).isSome
def tq(b:K.In h)(f:f9 K C=a8)(c:h.get? a=a5 o)(e:o.cls=.ref C)(k:Q (.ref C) #[h,g,d,t,os]):du (d5 prog w) A (getAttrBy (.ref a) (.str "__class__" l) bL) Q E #[h,g,d,t,os]:=by
 simp only[f9,bF,beq_iff_eq]at f;obtain⟨⟨⟨⟨⟨o1,o2⟩,o3⟩,o4⟩,o5⟩,_⟩:=f;have m:=þ.ga.bind (.ref a);have n:(bL&&onTheHeap (Sa "BaseException.__getattribute__"))=bL:=rfl;have i:(Sa "BaseException.__getattribute__"==Sa "object.__getattribute__")=bL:=by decide +kernel
 have p:(onTheHeap (il C)&&Sa "BaseException.__getattribute__"==Sa "object.__getattribute__")=bL:=by rw[i];rfl
 have j:Ě (d5 prog w) h (SN (.ref C) "__getattribute__") (a5 (.builtin "BaseException.__getattribute__")):=Ó b o4;have L2:Ě (d5 prog w) h (SN (.ref C) "__getattr__") bD:=Ó b o5
 repeat (any_goals (first|assumption|(with_reducible show QR c ?_;rw[e])|with_reducible show j.at ?_|with_reducible show L2.at ?_|wp_step))
 show UW þ.ga.plain F.entry_bexc_ga (tm b o2 c e (nS b o1 o3 c e ?_))
 repeat (any_goals (first|assumption|wp_step))
def pK(b:K.In h)(c:f9 K C=a8)(e:h.get? a=a5 o)(f:o.cls=.ref C)(i:Q (a5 (.ref C)) #[h,g,d,t+1,os]):du (d5 prog w) A (getAttr? (.ref a) "__class__") Q E #[h,g,d,t,os]:=by
 unfold getAttr? getAttrBy?
 repeat (any_goals (first|assumption|with_reducible apply tq b c e f|wp_step))
end
def qS{K:ĉ}(b:f9 K C=a8):KitX K (.ref a) (.ref C) (λh=>∃o,h.get? a=a5 o/\o.cls=.ref C) where
 ty:=λM h _ j=>by
  have(o,f,i):=j;show(ŋ f).andThen ?_;rw[i];show .now
 it:=λM h c _ A Q E s k q=>by
  simp only[f9,bF]at b;have z:=b.2;unfold clsIn at z;split at z
  .rename_i ho;unfold isType loadHead;show bR (Ŀ (k _ _ (c _ _ ho)) (c6 q))
  .cases z
 ne:=λh l dd m n p c e=>by
  simp only[f9,bF]at b;have z:=b.2;unfold clsIn at z;split at z
  .rename_i ho;rw[Ř];intro q;cases q;have:=c _ _ ho;rw[e]at this;cases this
  .cases z
 ca:=λ{_ _ _ _ _ s} c ⟨o,f,i⟩ q=>by
  have(h,g,d,t,os):=s;show pK c b f i q
def Inv.Hk(I:Inv X d σ H s)(f:s.heap.get? e=a5 oe)(h:H e=bD)(i:X.s₀.heap.get? e=bD)(j:e≠X.env.locals)(k:∀x c,X.env.cells.lookup x=a5 c->c≠e)(l:∀p∈X.pn++d,p.1≠e):
  Inv X d σ (upd H e (.Lr oe (.ext λ_=>True))) s:=by
 have ne:∀b o,H b=a5 o->b≠e:=λb o q=>aX q h;show#[I.ok,I.os,I.bare,#[I.base.keep,I.base.slot,λb o q n r=>?_,I.base.there,λb xs q=>?_,λb o u q=>?_,λb ps q=>?_],I.loc,I.cell,?_,λx c q=>?_,λp g=>?_,λb u q=>?_,I.len]
 .rw[aj (λz=>by rw[z,i]at q;cases q)];show I.base.free b o q n r
 .have:=I.base.gE b xs q;rw[aj (ne b _ this)];show this
 .have:=I.base.KI b o u q;rw[aj (ne b _ this)];show this
 .have(m,q):=I.base.KY b ps q;show#[m,by rw[aj (ne b _ q)];show q]
 .rw[aj (nT j)];show I.free
 .rw[aj (k x c q)];show I.J5 x c q
 .have(a,b,c):=I.pin p g;show#[a,by rw[aj (l p g)];show b,c]
 .by_cases z:b=e
  .subst z;rw[ar]at q;cases q;show#[f,trivial,#[oe,f],λ_ _ _ _=>trivial]
  .rw[aj z]at q;show(I.JE b u q).kY (λ_ _ _ q=>q) (λc q=>by rw[aj (ne c _ q)];show q) λc xs q=>by rw[aj (ne c _ q)];show q
end L2
namespace L2
open PySem PySem.Spec PyProof.Rows
structure kM(k:Nat)(A:Ke):Prop where
 dp:A.depth+2 * k+2<Yn
 un:A.units+16 * k+100<L'
 gd:A.guards=a5 []
def cF.toN(r:cF k A)(x:cK):kM 1 (A.mark (a5 x)):=#[by have:=r.dp;change A.depth+2 * 1+2 < _;lia,by have:=r.un;change A.units+16 * 1+100 < _;lia,r.gd]
def kM.deeper(r:kM (k+1) A)(env:Env):kM k (A.deeper env) :=
 #[by have:=r.dp;change A.depth+1+2 * k+2 < _;lia,by have:=r.un;change A.units+3+16 * k+100 < _;lia,r.gd]
structure qT(P:tr)(w:ux)(K:PySem.W.Frag)(mg:Str->Option cK)(base:K2)(CX:N5)(k:Nat)(f:df)(fd:QV)(ps:List Str)(sp:Sp):Prop where
 len:∀vs H Q E,sp vs H Q E->vs.length=ps.length
 run:∀(A:Ke) (outer:List Env) (s:dt) (H:Hp) (args:Args) (us:List cK) (vs:List V) (Q:VK) (E:XK),kM k A->oY P w K mg base A outer s H->Ya s fd args (ps.zip us)->Vals vs us->sp vs H Q E ->
  OY (d5 P w) A (.call (.ref f) args) (CR CX outer P w H s Q E) s
@[reducible]noncomputable def Qd(CX:N5)(P:tr)(w:ux)(K:PySem.W.Frag)(mg:Str->Option cK)(base:K2)(N:List Str)(a:Str)(scope:Lg)(f:df)(b:cK)(A:Ke)(outer:List Env)(s:dt)(H:Hp)(E:XK):Cx :=
 {o_ CX P w K mg base N a scope f b A outer s H E with calm:=bL}
def tu{K:PySem.W.Frag}
  (S:c9 N ps scope) (j:oY P w K mg base A outer s H) (hl:vs.length=ps.length) (r:Vals vs us)
  (x:InCallC s (~~~s) (YK (RX g scope (~~~s) f o).kindOf (ps.zip us) λ_=>bD) (LF ((~~~s)+1) scope.names []) (YP (RX g scope (~~~s) f o).kindOf (ps.zip us) λ_=>bD) s1) :
  Inv (Qd CX P w K mg base N g scope f o A outer s H E) [] (start N vs) H s1:=by
 have G:ps.length<=N.length:=by have:=Ś vr S.pre;rw[my]at this;lia
 have(m,I,rfl,hk):=x.done;have t:∀b:df,b∉(Qd CX P w K mg base N g scope f o A outer s H E).ex:=λb z=>absurd (show b∈([]:List df) from z) (by simp);show#[#[j.mod,S.kind,rfl,rfl,ez _,λy z c m d=>?_,λy hy=>?_,λy c _ h=>?_,λz=>(nomatch z),Yb j.frames,.inr #[rfl,rfl],λb z=>absurd z (t b),j.bs,j.M3,λb _ _=>t b,λb z=>absurd z (t b),j.iO,j.NG],
  rfl,j.bare,Un.kept hk,#[_,x.toInCall.ns,λi y v m d J=>?_],λy c h=>#[_,x.cell y c h],j.JE.fresh (ez _),λy c h=>?_,λp l=>absurd (show p∈([]:List (df×Obj)) from l) (by simp),j.JE.kept hk,?_]
 .show name_of_addr x.apart (PySem.mem_of_lookup m) (PySem.mem_of_lookup d)
 .have hy:scope.names.lookup y=a5 .cell\/scope.names.lookup y=a5 .free:=hy;rcases hy with hy|hy
  .show ji hy
  .show absurd rfl (S.Nj _ (PySem.mem_of_lookup hy))
 .show Oy (x.above y c (PySem.mem_of_lookup h))
 .have hi:i<vs.length:=by
   unfold start at d;by_cases hi:i<vs.length
   .show hi
   .rw[k9 (by simpa using hi)]at d;rw[z8]at d;split at d<;>cases d
  have D:vs[i]?=a5 v:=by
   unfold start at d;rw[mh (by simpa using hi),n9]at d;cases e:vs[i]? with
   |none=>rw[e]at d;cases d
   |some a=>rw[e]at d;cases d;rfl
  have(u,B,rv):=r.get D;have l:ps[i]?=a5 y:=by
   rw[<-S.pre,Nc ⋯];show m
  have C:ps.Nodup:=by rw[<-S.pre];show S.nd.sublist (Vm _ _)
  show#[u,rv,?_];rcases S.par y (ri l) with k|k
  .show .inl #[k,jR C l B k]
  .have(c,e):=ji (n:=(~~~s)+1) k;show .inr #[.inl k,c,e,?_];have q:=x.cell y c e;rw[jS C l B (by change scope.names.lookup y≠_;rw[k];decide)]at q;show q
 .show j.JE.fresh (Oy (x.above y c (PySem.mem_of_lookup h)))
 .unfold start;change _=N.length;rw[hH,b8,OT];lia
def ET{K:PySem.W.Frag}{p kV g z d ct G:cK}
 (lk:K.lookup f=a5 #[G,od,.func (PySem.W.fnOf name a c body scope p kV g z L d ct),NM]) (O:PySem.W.codeIn K d a=a8) (S:c9 N ps scope)
    (h:∀vs H Q E,sp vs H Q E->vs.length=ps.length)
    (T:∀(A:Ke) (outer:List Env) (s:dt) (H:Hp) (vs:List V) (Q:VK) (E:XK),kM k (A.deeper (RX a scope (~~~s) f d))->sp vs H Q E ->
      ∃t,KZ (Qd CX P w K mg base N a scope f d A outer s H E) body t/\t {nx:=λ_ H'=>Q .JN H',rt:=Q} (start N vs) H) :
    qT P w K mg base CX (k+1) f (PySem.W.fnOf name a c body scope p kV g z L d ct) ps sp:=by
  show#[h,λA outer s H args us vs Q E B i Y r C=>?_];have hl:=h _ _ _ _ C;have D:K.In s.heap:=i.mod.N2.keeps λb o e=>(i.bs b o e).1;have m:s.heap.NoLimit:=i.mod.nolimit.keeps λb o e=>(i.bs b o e).1;have Nk:∀y∈ps.zip us,scope.names.lookup y.1=a5 .local\/(scope.names.lookup y.1=a5 .cell/\((LF ((~~~s)+1) scope.names []).lookup y.1).isSome=a8):=λ⟨n,v⟩ hy=>by
    rcases S.par n (PN hy).1 with q|q
    . show .inl q
    . show .inr #[q,PySem.W.cellsFrom_some _ _ _ (.inl q)]
  show ß (by have:=B.dp;lia) (D _ _ lk) rfl S.co S.gen rfl (PySem.W.codeRec_of D O) (Y _ _ _ _ ?_);show Yh S.kind Nk λenv he s1 x=>?_;subst he;show#[m.keeps x.toInCall.keep,codeAny_func ?_];have(t,ht,hq):=T A outer s H vs Q E (B.deeper _) C;have I:Inv (Qd CX P w K mg base N a scope f d A outer s H E) [] (start N vs) H s1:=tu S i hl r x;show mu (ht [] s1 (start N vs) H _ I hq) (λfl s' hs=>?_) λe s' hs=>hs;have j:∀{l:St} {H':Hp} {v:V} {u:cK},Inv (Qd CX P w K mg base N a scope f d A outer s H E) [] l H' s'->RelV v u->Q v H'->CE outer P w H s Q u s' :=
    λ{l H' v u} J rv q=>#[v,H',J.os,J.bare,J.base,J.JE,rv,q]
  cases fl with
  | ret u =>
    have(v,l,H',J,rv,q):=hs;show j J rv q
  | next =>
    have(l,H',J,q):=hs;show j (v:=V.JN) (u:=pb) J rfl q
  | brk =>
    have(_,_,_,q):=hs;show wk q
  | cont =>
    have(_,_,_,q):=hs;show wk q
section
@[reducible]noncomputable def Cx.JV(X:Cx)(e:df):Cx:={X with A:=X.A.mark (a5 (.ref e)),calm:=bL,xe:=λ_ _=>False}
def Inv.JV(I:Inv X a σ H s):Inv (X.JV e) a σ H s :=
 #[#[I.ok.mod,I.ok.kind,I.ok.glob,I.ok.blt,I.ok.above,I.ok.inj,I.ok.has,I.ok.OU,λz=>(nomatch z),I.ok.frames,I.ok.PU,I.ok.R5,I.ok.bs,I.ok.M3,I.ok.Md,I.ok.MI,I.ok.iO,I.ok.NG],I.os,I.bare,I.base,I.loc,I.cell,I.free,I.J5,I.pin,I.JE,I.len]
def Inv.Jk(b:X.Ok)(I:Inv (X.JV e) a σ H s):Inv X a σ H s :=
 #[b,I.os,I.bare,I.base,I.loc,I.cell,I.free,I.J5,I.pin,I.JE,I.len]
def Bz(F:qT X.prog X.w X.K X.mg X.base CX k f d ps sp)(g:kM k X.A)(i:Binds X.K d ps [])(I:Inv X a σ H s)(r:Vals vs us)(h:sp vs H Q E)
  (j:∀e s',CX X.stack H s E e s'->EE e s'):‹X› (PB (.ref f) us) (EP X a σ Q) EE s:=by
 have hl:us.length=ps.length:=by rw[<-r.length];show F.len _ _ _ _ h
 have c:=i s us I.Li (by rw[oD];show hl);rw[oD]at c;show Wz (PM (F.run X.A X.stack s H #[us,[]] us vs Q E g I.Bc c r h) λr s' b=>?_);cases r with
 |error e=>show j e s' b
 |ok l =>
  cases l with
  |ret u=>show I.after b
  |_=>show wk b
end
end L2
namespace L2
open PySem PyProof.Rows PySem.W
section
def Sm.refl(H:Hp):fI H H:=λ_ _ z=>z
def Sm.trans(a:fI H c)(b:fI c d):fI H d:=λx o z=>b x o (a x o z)
def Sm.upd(h:H p=bD):fI H (upd H p o):=λx y z=>by rw[aj (aX z h)];show z
abbrev EU(K:ĉ)(i:Nat)(cl:Str)(b:Bool):TE:=λσ H Q=>∃(ea:df) (oe:Obj) (u:HO) (Cc:df),σ[i]?=a5 (a5 (.ref ea))/\H ea=a5 (.Lr oe u)/\oe.cls=.ref Cc/\Ò K hQ cl=a5 (a5 (.ref Cc))/\∀H',fI H H'->Q (.bl b) H'
def EV(hi:X.N[i]?=a5 n)(f:KA X.env.scope n)(g:(n==("__debug__":Str))=bL)(h:(n==("__classdict__":Str))=bL)(j:Gl X "isinstance")(k:X.mg "isinstance"=bD)(l:PE X (.Name D p2) (tC d))(m:∀u,RelV d u->u=o)
  (r:∀Cc,Ò X.K hQ cl=a5 (a5 (.ref Cc))->f9 X.K Cc=a8/\kitOne X.K (.ref Cc) o=a5 b):PE X (.Call (.Name "isinstance" p) [.Name n p1,.Name D p2] [] p3) (EU X.K i cl b):=by
 rintro a s σ H Q I ⟨ea,oe,u,Cc,t,v,w,x,q⟩;show tp (dN I j k (show vl "isinstance"=a5 (.builtin "isinstance") by decide +kernel) ?_ (by decide +kernel) (by decide +kernel));show Ms (JJ (bM (bf hi f g h) (bM l c8) rfl p3 a s σ H (λvs H'=>vs=[.ref ea,d]/\H'=H) I ⟨.ref ea,t,rfl,rfl⟩) λus s1 y=>?_);have(vs,J,c,r1,e,A):=y;subst e A;have(L,O,rfl,B,C):=vals2 r1;obtain rfl:=m _ C;cases B;have(k1,k2):=r Cc x;show kia_one (qS k1) c.Li #[oe,(c.JE ea _ v).1,w] k2 (λz=>nomatch z) λG=>?_;show#[.bl b,_,c.tok G,rfl,q _ (Sm.refl _)]
inductive l_(X:Cx)(cl:Str):List lx->List cK->Prop where
 |nil:l_ X cl [] []
 |cons {D:Str} {p:Pos} {vD:V} {dv:cK} {es:List lx} {ds:List cK} (hD:PE X (.Name D p) (tC vD)) (hr:∀u,RelV vD u->u=dv) (ht:∀Cc,Ò X.K hQ cl=a5 (a5 (.ref Cc))->f9 X.K Cc=a8/\kitOne X.K (.ref Cc) dv=a5 bL) (t:l_ X cl es ds):l_ X cl (.Name D p::es) (dv::ds)
def l_.pa(h:l_ X cl es ds):∃vs:List V,PA X es (λ_ H Q=>Q vs H)/\vs.length=es.length/\∀us,Vals vs us->us=ds:=by
 induction h with
 |nil=>show#[[],c8,rfl,λus r=>by cases r;rfl]
 |@cons D p c k es ds d e l t f =>
  have(vs,g,i,j):=f;show#[c::vs,bM (te:=tC c) (t:=λ_ H Q=>Q vs H) d g,by simp[i],λus r=>?_];cases r with
  |cons a b=>rw[e _ a,j _ b]
def l_.no(h:l_ X cl es ds)(a:Ò X.K hQ cl=a5 (a5 (.ref Cc))):kitAny X.K (.ref Cc) ds=a5 bL:=by
 induction h with
 |nil=>rfl
 |cons d e b t c =>
  unfold kitAny;rw[(b Cc a).2];show c
def l_.ok(h:l_ X cl es ds)(a:es≠[])(b:Ò X.K hQ cl=a5 (a5 (.ref Cc))):f9 X.K Cc=a8:=by
 cases h with
 |nil=>show absurd rfl a
 |cons d e c t=>show(c Cc b).1
def EW(hi:X.N[i]?=a5 n)(k:KA X.env.scope n)(l:(n==("__debug__":Str))=bL)(m:(n==("__classdict__":Str))=bL)(r:Gl X "isinstance")(v:X.mg "isinstance"=bD)(c:l_ X cl es ds)(w:es≠[])(hl:es.length<100):
  PE X (.Call (.Name "isinstance" p) [.Name n p1,.Tuple es x1 p2] [] p3) (EU X.K i cl bL):=by
 rintro a s σ H Q I ⟨ea,oe,u,Cc,x,y,A,f,q⟩;have(vs,B,Rb,C):=c.pa;show tp (dN I r v (show vl "isinstance"=a5 (.builtin "isinstance") by decide +kernel) ?_ (by decide +kernel) (by decide +kernel));have hsz:(1000:Nat)<=b6:=by decide
 have D:vs.length<=b6:=by lia
 show Ms (JJ (bM (bf hi k l m) (bM (x8 B) c8) rfl p3 a s σ H (λws H'=>∃t,ws=[.ref ea,.ref t]/\H t=bD/\H'=upd H t (.tup vs)) I ⟨.ref ea,x,D,λt d=>#[t,rfl,d,rfl]⟩) λus s1 G=>?_);have(ws,H1,b,r1,t,e,d,J):=G;subst e J;have(u1,u2,rfl,L,O):=vals2 r1;cases L;cases O;have(B',rv,(o,ho,g,n,h),_):=b.tuple (Ki.of ar);obtain rfl:=C _ rv;have(oc,od,T,NM):=o
 dsimp only at g h
 subst g h;have j:fI H (upd H t (.tup vs)):=Sm.upd d;show kia_tup (qS (c.ok w f)) b.Li #[oe,(b.JE ea _ (j _ _ y)).1,A] ho (c.no f) (λz=>nomatch z) λY=>?_;show#[.bl bL,_,b.tok Y,rfl,q _ j]
abbrev yF(K:ĉ)(i:Nat)(cl:Str):List Bool->TA
 |[]=>El
 |b::bs=>Dt (EU K i cl b) (yF K i cl bs)
theorem qU{K:ĉ}(a:σ[i]?=a5 (a5 (.ref ea)))(b:oe.cls=.ref Cc)(c:Ò K hQ cl=a5 (a5 (.ref Cc))):∀(bs:List Bool) (H:Hp) (Q:List V->Hp->Prop),H ea=a5 (.Lr oe u)->(∀H',fI H H'->Q (bs.map .bl) H')->yF K i cl bs σ H Q
 |[],H,_,_,q=>q H (Sm.refl H)
 |_::bs,H,_,d,q=>#[ea,oe,u,Cc,a,d,b,c,λH' s=>qU a b c bs H' _ (s _ _ d) λe s2=>q e (Sm.trans s s2)]
end
abbrev UY(K:ĉ)(cl:Str)(bs:List Bool):Sp:=λvs H Q _=>∃(ea:df) (oe:Obj) (u:HO) (Cc:df),vs=[.ref ea]/\H ea=a5 (.Lr oe u)/\oe.cls=.ref Cc/\Ò K hQ cl=a5 (a5 (.ref Cc))/\∀H' p,fI H H'->H' p=bD->Q (.ref p) (upd H' p (.lst (bs.map .bl)))
abbrev Zb(K:ĉ)(i:Nat)(cl:Str)(bs:List Bool):TE:=λσ H Q=>∃(ea:df) (oe:Obj) (u:HO) (Cc:df),σ[i]?=a5 (a5 (.ref ea))/\H ea=a5 (.Lr oe u)/\oe.cls=.ref Cc/\Ò K hQ cl=a5 (a5 (.ref Cc))/\∀H' p,fI H H'->H' p=bD->Q (.ref p) (upd H' p (.lst (bs.map .bl)))
def yG(hi:X.N[i]?=a5 n)(c:KA X.env.scope n)(d:(n==("__debug__":Str))=bL)(f:(n==("__classdict__":Str))=bL)(G:qT X.prog X.w X.K X.mg X.base (LH X.prog X.w) h fa j ps (UY X.K cl bs))(k:kM h X.A)
  (l:Gl X g) (m:X.mg g=a5 (.ref fa)) (o:PySem.W.keepIn X.K (.ref fa)=a8) (r:Binds X.K j ps []) (t:(g==("__debug__":Str))=bL):PE X (.Call (.Name g p) [.Name n p1] [] p3) (Zb X.K i cl bs):=by
 rintro a s σ H Q I ⟨ea,oe,u,Cc,v,x,y,B,q⟩;show tp (eQ I l m ?_ t);show PySem.W.callWith_K (h₀:=X.base) I.ok.mod.N2 o (JJ (bM (bf hi c d f) c8 rfl p3 a s σ H (λvs H'=>vs=[.ref ea]/\H'=H) I ⟨.ref ea,v,rfl,rfl⟩) λus s1 ⟨vs,D,b,r1,e,C⟩=>#[b.Li,?_]) rfl rfl;subst e C;show Bz (E:=λ_ _ _=>False) G k r b r1 ⟨ea,oe,u,Cc,rfl,x,y,B,q⟩ λ_ _ ⟨_,_,_,_,_,_,z⟩=>z.elim
end L2
namespace TM
open PySem L2
inductive U where
 |JN|bl (b:Bool)|int (i:Int)|str (x:Str)
 |tup (xs:List U)|lst (xs:List U)
 |JF (ks:List Str) (vs:List U)
 |ob (u:U) (us:List U)
mutual
noncomputable def JW:U->Bool
 |.tup xs=>dy xs
 |.lst _=>bL
 |.JF _ _=>bL
 |.ob _ _=>bL
 |.JN=>a8|.bl _=>a8|.int _=>a8|.str _=>a8
noncomputable def dy:List U->Bool
 |[]=>a8
 |u::us=>JW u&&dy us
end
inductive Kd where|own|io|loc|any|bor (j:Nat)|A'
deriving DecidableEq
abbrev Kd.root:Kd->Bool
 |.own=>a8
 |.io=>a8
 |_=>bL
@[reducible]noncomputable def aw:=List (Option (Kd×U))
structure Ct where
 P:tr
 w:ux
 K:PySem.W.Frag
 H₀:Hp
 Lx:df->Prop
 IO:df->Prop
 xw:U->Hp->Prop
abbrev KL(K:PySem.W.Frag)(a:df)(xs:List V):Prop :=
 ∃(o:Obj) (b:Array cK) (n:Nat),K.lookup a=a5 o/\o.cls=.type "list"/\o.dict=bD/\o.data=.seq b n/\b.size<=b6/\Vals xs b.toList
abbrev Rg(K:PySem.W.Frag)(S:df->Prop)(H:Hp)(a:df)(vs:List V):Prop:=(S a/\Rd H a (.lst vs))\/KL K a vs
def Rg.sq(h:Rg K S H a vs):Kh K H a vs:=h.elim (λz=>.inl z.2) .inr
abbrev OJ(H:Hp)(R:List V->Prop)(a:df)(ks:List Str):Prop:=∃kvs:List (Key×V),H a=a5 (.dK kvs)/\kvs.map (·.1)=ks.map nH/\R (kvs.map (·.2))
section
variable(C:Ct)(S:df->Prop)(H:Hp)
mutual
def Rep:U->V->Prop
 |.JN,v=>v=.JN
 |.bl b,v=>v=.bl b
 |.int i,v=>v=.int i
 |.str x,v=>v=.str x
 |.tup us,v=>∃a vs,v=.ref a/\Ki C.K H a vs/\av us vs
 |.lst us,v=>∃a vs,v=.ref a/\Rg C.K S H a vs/\av us vs
 |.JF ks us,v=>∃a,v=.ref a/\S a/\OJ H (av us) a ks
 |.ob _ _,_=>False
def av:List U->List V->Prop
 |[],vs=>vs=[]
 |u::us,vs=>∃v r,vs=v::r/\Rep u v/\av us r
end
end
def Tp:HO->Prop
 |.tup _=>True
 |.Lr _ (.tup _)=>True
 |_=>False
structure Mv(S:df->Prop)(H:Hp)(S':df->Prop)(H':Hp):Prop where
 sub:∀a,S a->S' a
 Qe:∀a o,H a=a5 o->Tp o->H' a=a5 o
 Sn:∀a o,S a->H a=a5 o->H' a=a5 o
def Mv.Zc(m:Mv S H S' H')(h:Ki K H a vs):Ki K H' a vs:=by
 rcases h with(h|⟨o,h⟩)|h
 .show .inl (.inl (m.Qe a _ h trivial))
 .show .inl (.inr #[o,m.Qe a _ h trivial])
 .show .inr h
def Mv.Zd(m:Mv S H S' H')(h:Rg K S H a vs):Rg K S' H' a vs:=by
 rcases h with⟨s,h|⟨o,h⟩⟩|h
 .show .inl #[m.sub a s,.inl (m.Sn a _ s h)]
 .show .inl #[m.sub a s,.inr #[o,m.Sn a _ s h]]
 .show .inr h
def OJ.mv(b:∀o,H a=a5 o->H' a=a5 o)(c:∀vs,R vs->d vs)(h:OJ H R a ks):OJ H' d a ks :=
 let ⟨kvs,e,f,g⟩:=h;⟨kvs,b _ e,f,c _ g⟩
section
mutual
theorem Rep.OK(m:Mv S H S' H'):∀(u:U) (v:V),Rep C S H u v->Rep C S' H' u v
 |.JN,_,h=>h
 |.bl _,_,h=>h
 |.int _,_,h=>h
 |.str _,_,h=>h
 |.tup us,v,h=>by
  have(a,vs,e,b,c):=h;show#[a,vs,e,m.Zc b,av.OK m us vs c]
 |.lst us,v,h=>by
  have(a,vs,e,b,c):=h;show#[a,vs,e,m.Zd b,av.OK m us vs c]
 |.JF ks us,v,h=>by
  have(a,e,b,c):=h;show#[a,e,m.sub a b,c.mv (λo q=>m.Sn a o b q) λvs q=>av.OK m us vs q]
 |.ob _ _,_,h=>wk h
theorem av.OK(m:Mv S H S' H'):∀(us:List U) (vs:List V),av C S H us vs->av C S' H' us vs
 |[],_,h=>h
 |u::us,vs,h=>by
  have(v,r,e,a,b):=h;show#[v,r,e,Rep.OK m u v a,av.OK m us r b]
end
mutual
theorem Rep.wC:∀(u:U) (v:V),JW u=a8->Rep C S H u v->Rep C S' H u v
 |.JN,_,_,h=>h
 |.bl _,_,_,h=>h
 |.int _,_,_,h=>h
 |.str _,_,_,h=>h
 |.tup us,v,i,h=>by
  have(a,vs,e,b,c):=h;show#[a,vs,e,b,av.wC us vs (by simpa[TM.JW] using i) c]
 |.lst us,v,i,h=>by simp[TM.JW]at i
 |.JF ks us,v,i,h=>by simp[TM.JW]at i
 |.ob _ _,_,_,h=>wk h
theorem av.wC:∀(us:List U) (vs:List V),dy us=a8->av C S H us vs->av C S' H us vs
 |[],_,_,h=>h
 |u::us,vs,i,h=>by
  have(v,r,e,b,c):=h;have a:TM.JW u=a8/\dy us=a8:=by simpa[dy] using i
  show#[v,r,e,Rep.wC u v a.1 b,av.wC us r a.2 c]
end
def Rep.mv(m:Mv S H S' H')(h:Rep C S H u v):Rep C S' H' u v:=Rep.OK m u v h
def av.mv(m:Mv S H S' H')(h:av C S H us vs):av C S' H' us vs:=av.OK m us vs h
def Rep.JW(i:TM.JW u=a8)(h:Rep C S H u v):Rep C S' H u v:=Rep.wC u v i h
def av.JW(i:dy us=a8)(h:av C S H us vs):av C S' H us vs:=av.wC us vs i h
def Mv.up(sub:∀a,S a->S' a):Mv S H S' H:=#[sub,λ_ _ h _=>h,λ_ _ _ h=>h]
theorem av.len:∀{us:List U}{vs:List V},av C S H us vs->us.length=vs.length
 |[],_,h=>by cases h;rfl
 |u::us,vs,h=>by
  have(v,r,rfl,_,a):=h;rw[i4,i4,av.len a]
theorem av.get:∀{us:List U}{vs:List V}{i:Nat}{u:U},av C S H us vs->us[i]?=a5 u->∃v,vs[i]?=a5 v/\Rep C S H u v
 |[],_,_,_,_,e=>by simp at e
 |u::us,vs,0,w,h,e=>by
  have(v,r,rfl,a,_):=h;simp at e;subst e;show#[v,rfl,a]
 |u::us,vs,i+1,w,h,e=>by
  have(v,r,rfl,_,b):=h;have(v',c,h'):=av.get (i:=i) (u:=w) b (by simpa using e);show#[v',by simpa using c,h']
theorem av.append:∀{us ws:List U}{vs ys:List V},av C S H us vs->av C S H ws ys->av C S H (us++ws) (vs++ys)
 |[],_,_,_,h,h'=>by cases h;show h'
 |u::us,ws,vs,ys,h,h'=>by
  have(v,r,rfl,a,b):=h;show#[v,r++ys,rfl,a,b.append h']
theorem av.take:∀{us:List U}{vs:List V} (n:Nat),av C S H us vs->av C S H (us.take n) (vs.take n)
 |_,_,0,_=>by simp[av]
 |[],_,n+1,h=>by cases h;simp[av]
 |u::us,vs,n+1,h=>by
  have(v,r,rfl,a,b):=h;show#[v,r.take n,rfl,a,b.take n]
theorem av.drop:∀{us:List U}{vs:List V} (n:Nat),av C S H us vs->av C S H (us.drop n) (vs.drop n)
 |_,_,0,h=>h
 |[],_,n+1,h=>by cases h;simp[av]
 |u::us,vs,n+1,h=>by
  have(v,r,rfl,b,a):=h;show a.drop n
theorem av.set:∀{us:List U}{vs:List V} (n:Nat) {u:U}{v:V},av C S H us vs->Rep C S H u v->av C S H (us.set n u) (vs.set n v)
 |[],_,n,_,_,h,_=>by cases h;simp[av]
 |u::us,vs,0,_,_,h,h'=>by
  have(v,r,rfl,b,a):=h;show#[_,r,rfl,h',a]
 |u::us,vs,n+1,_,_,h,h'=>by
  have(v,r,rfl,b,a):=h;show#[v,_,rfl,b,a.set n h']
def av.snoc(h:av C S H us vs)(h':Rep C S H u v):av C S H (us++[u]) (vs++[v]):=h.append #[v,[],rfl,h',rfl]
theorem av.strs:∀{xs:List Str}{vs:List V},av C S H (xs.map .str) vs↔vs=xs.map V.str
 |[],vs=>by simp[av]
 |x::xs,vs=>by
  constructor
  .rintro⟨v,r,rfl,a,b⟩;rw[av.strs.mp b];have:v=.str x:=a;rw[this];rfl
  .rintro rfl;show#[_,_,rfl,rfl,av.strs.mpr rfl]
end
structure Ct.Eqv(C C':Ct):Prop where
 P:C.P=C'.P
 w:C.w=C'.w
 K:C.K=C'.K
section
mutual
theorem Rep.OL(q:C.Eqv d):∀(u:U) (v:V),Rep C S H u v->Rep d S H u v
 |.JN,_,h=>h
 |.bl _,_,h=>h
 |.int _,_,h=>h
 |.str _,_,h=>h
 |.tup us,v,h=>by
  have(a,vs,e,b,c):=h;show#[a,vs,e,q.K▸b,av.OL q us vs c]
 |.lst us,v,h=>by
  have(a,vs,e,b,c):=h;show#[a,vs,e,q.K▸b,av.OL q us vs c]
 |.JF ks us,v,h=>by
  have(a,e,b,c):=h;show#[a,e,b,c.mv (λ_ q=>q) λvs z=>av.OL q us vs z]
 |.ob _ _,_,h=>wk h
theorem av.OL(q:C.Eqv a):∀(us:List U) (vs:List V),av C S H us vs->av a S H us vs
 |[],_,h=>h
 |u::us,vs,h=>by
  have(v,r,e,b,c):=h;show#[v,r,e,Rep.OL q u v b,av.OL q us r c]
end
def Rep.cg(q:C.Eqv a)(h:Rep C S H u v):Rep a S H u v:=Rep.OL q u v h
def av.cg(q:C.Eqv a)(h:av C S H us vs):av a S H us vs:=av.OL q us vs h
end
def dU(C:Ct)(S:df->Prop)(H:Hp)(r:df):U->Prop
 |.lst us=>∃vs,H r=a5 (.lst vs)/\av C S H us vs
 |.JF ks us=>OJ H (av C S H us) r ks
 |_=>False
def dU.mv(m:Mv S H S' H')(a:∀o,H r=a5 o->H' r=a5 o)(h:dU C S H r u):dU C S' H' r u:=by
 cases u with
 |lst us=>have(vs,b,c):=h;show#[vs,a _ b,c.mv m]
 |JF ks us=>show OJ.mv a (λvs q=>q.mv m) h
 |_=>show h
def dU.rep(hs:∀a,S a->S' a)(b:S' r)(h:dU C S H r u):Rep C S' H u (.ref r):=by
 cases u with
 |lst us=>have(vs,c,d):=h;show#[r,vs,rfl,.inl #[b,.inl c],d.mv (.up hs)]
 |JF ks us=>show#[r,rfl,b,OJ.mv (λ_ q=>q) (λvs q=>q.mv (.up hs)) h]
 |_=>show h.elim
def dU.cg(q:C.Eqv a)(h:dU C S H r u):dU a S H r u:=by
 cases u with
 |lst us=>have(vs,b,c):=h;show#[vs,b,c.cg q]
 |JF ks us=>show OJ.mv (λ_ q=>q) (λvs z=>z.cg q) h
 |_=>show h
def dU.some(h:dU C S H r u):∃o,H r=a5 o/\¬Tp o:=by
 cases u with
 |lst us=>have(vs,a,_):=h;show#[_,a,λz=>z]
 |JF ks us=>have(kvs,a,_):=h;show#[_,a,λz=>z]
 |_=>show h.elim
structure Cf where
 S:df->Prop
 H:Hp
 σ:St
 st:aw
 kid:Nat->List df
abbrev Cf.R1(c:Cf)(a:df):Prop:=∃(j:Nat) (k:Kd) (u:U),k.root=a8/\c.st[j]?=a5 (a5 (k,u))/\c.σ[j]?=a5 (a5 (.ref a))
abbrev Cf.RD(c:Cf)(j:Nat)(a:df):Prop:=∃(u:U) (r:df),c.st[j]?=a5 (a5 (.A',u))/\c.σ[j]?=a5 (a5 (.ref r))/\(a=r\/a∈c.kid j)
abbrev Cf.R(c:Cf)(a:df):Prop:=c.R1 a\/∃j,c.RD j a
abbrev PS(C:Ct)(S:df->Prop):df->Prop:=λa=>C.Lx a\/S a
def gF(C:Ct)(S:df->Prop)(H:Hp):Kd->U->V->Prop
 |.own,u,v=>∃r,v=.ref r/\¬S r/\¬C.Lx r/\C.H₀ r=bD/\dU C S H r u
 |.io,u,v=>∃r,v=.ref r/\¬S r/\¬C.Lx r/\C.IO r/\dU C S H r u
 |.loc,u,v=>Rep C S H u v
 |.any,u,v=>Rep C (PS C S) H u v
 |.bor _,_,_=>False
 |.A',_,v=>∃r,v=.ref r
def dO(C:Ct)(S:df->Prop)(H:Hp):List U->List df->Prop
 |[],as=>as=[]
 |u::us,as=>∃a as' ys vs,as=a::as'/\u=.lst ys/\H a=a5 (.lst vs)/\av C S H ys vs/\dO C S H us as'
abbrev M8(K:PySem.W.Frag)(cl:df):Prop:=PySem.W.nsIn K hQ "Shelf"=a5 (a5 (.ref cl))
abbrev NT(v:V)(a:df):List (Str×V):=[("rows",v),("earlier",.ref a)]
structure OM(C:Ct)(S:df->Prop)(H:Hp)(r a:df)(u:U)(us:List U)(cl dx:df)(v:V)(vs:List V):Prop where
 hc:M8 C.K cl
 ins:H r=a5 (.ins cl dx (NT v a))
 ne:r≠a
 fr:∀x∈[r,a],¬S x/\¬C.Lx x/\(C.H₀ x=bD\/C.IO x)
 im:JW u=a8
 rep:Rep C S H u v
 lst:H a=a5 (.lst vs)
 Pf:dy us=a8
 La:av C S H us vs
def bo(C:Ct)(S:df->Prop)(H:Hp)(r:df)(as:List df):U->Prop
 |.JF ks us=>∃kvs:List (Key×V),H r=a5 (.dK kvs)/\kvs.map (·.1)=ks.map nH/\kvs.map (·.2)=as.map V.ref/\(r::as).Nodup/\(∀a∈r::as,¬S a/\¬C.Lx a/\C.H₀ a=bD)/\dO C S H us as
 |.ob u us=>∃cl b v a vs,as=[a]/\OM C S H r a u us cl b v vs
 |_=>False
structure MN(C:Ct)(c:Cf):Prop where
 kd:∀(j:Nat) (u:U) (r:df),c.st[j]?=a5 (a5 (.A',u))->c.σ[j]?=a5 (a5 (.ref r))->bo C c.S c.H r (c.kid j) u
 dj:∀(i j:Nat) (a:df),c.RD i a->c.RD j a->i=j
 d1:∀(j:Nat) (a:df),c.RD j a->¬c.R1 a
structure Ok(C:Ct)(c:Cf):Prop where
 same:∀a o,C.H₀ a=a5 o->¬C.IO a->c.H a=a5 o
 LJ:∀a,c.S a->C.H₀ a=bD/\∃o,c.H a=a5 o
 par:∀a,C.Lx a->(∃o,C.H₀ a=a5 o)/\¬C.IO a
 io:∀a,C.IO a->(∃o,C.H₀ a=a5 o)/\∃o,c.H a=a5 o
 len:c.st.length=c.σ.length
 sl:∀(i:Nat) (k:Kd) (u:U),c.st[i]?=a5 (a5 (k,u))->∃v,c.σ[i]?=a5 (a5 v)/\gF C c.S c.H k u v
 inj:∀(i j:Nat) (k k':Kd) (u u':U) (r:df),k.root=a8->k'.root=a8->c.st[i]?=a5 (a5 (k,u))->c.st[j]?=a5 (a5 (k',u'))->c.σ[i]?=a5 (a5 (.ref r))->c.σ[j]?=a5 (a5 (.ref r))->i=j
 dd:MN C c
structure Ns(c c':Cf):Prop where
 keep:∀a o,c.H a=a5 o->¬c.R a->c'.H a=a5 o
 there:∀a o,c.H a=a5 o->∃o',c'.H a=a5 o'
 roots:∀a,c'.R a->c.R a\/c.H a=bD
 sub:∀a,c.S a->c'.S a
 new:∀a,c'.S a->c.S a\/c.R a\/c.H a=bD
section
def Ns.refl(c:Cf):Ns c c:=#[λ_ _ h _=>h,λ_ o h=>#[o,h],λ_ h=>.inl h,λ_ h=>h,λ_ h=>.inl h]
def Ns.none(n:Ns c b)(h:b.H a=.none):c.H a=.none:=by
 cases e:c.H a with
 |none=>rfl
 |some o=>have(o',q):=n.there a o e;rw[h]at q;cases q
def Ns.trans(m:Ns c d)(n:Ns d e):Ns c e where
 keep:=λa o h b=>by
  show n.keep a o (m.keep a o h b) λz=>?_;rcases m.roots a z with z|z
  .show b z
  .rw[h]at z;cases z
 there:=λa o h=>let ⟨o',h'⟩:=m.there a o h;n.there a o' h'
 roots:=λa h=>by
  rcases n.roots a h with z|z
  .show m.roots a z
  .show .inr (m.none z)
 sub:=λa h=>n.sub a (m.sub a h)
 new:=λa h=>by
  rcases n.new a h with z|z|z
  .show m.new a z
  .rcases m.roots a z with z|z
   .show .inr (.inl z)
   .show .inr (.inr z)
  .show .inr (.inr (m.none z))
def gF.rt(hk:k.root=a8)(h:gF C S H k u v):∃r,v=.ref r/\¬S r/\¬C.Lx r/\(C.H₀ r=bD\/C.IO r)/\dU C S H r u:=by
 cases k with
 |own=>have(r,a,b,c,d,e):=h;show#[r,a,b,c,.inl d,e]
 |io=>have(r,a,b,c,d,e):=h;show#[r,a,b,c,.inr d,e]
 |_=>cases hk
theorem dO.mem:∀{us:List U}{as:List df}{a:df},dO C S H us as->a∈as->∃vs,H a=a5 (.lst vs)
 |[],as,a,h,ha=>by cases h;cases ha
 |u::us,as,a,h,ha=>by
  have(a',as',ys,vs,rfl,_,b,_,c):=h;rcases d4.mp ha with rfl|ha
  .show#[vs,b]
  .show dO.mem c ha
theorem dO.mv(m:Mv S H S' H'):∀{us:List U}{as:List df},(∀a∈as,∀o,H a=a5 o->H' a=a5 o)->dO C S H us as->dO C S' H' us as
 |[],as,_,h=>h
 |u::us,as,b,h=>by
  have(a,as',ys,vs,rfl,e,c,d,f):=h;show#[a,as',ys,vs,rfl,e,b a (by simp) _ c,d.mv m,dO.mv m (λa g=>b a (by simp[g])) f]
def bo.fr(h:bo C S H r as u):∀a∈r::as,¬S a/\¬C.Lx a/\(C.H₀ a=bD\/C.IO a):=by
 cases u<;>first|show h.elim|(have(kvs,_,_,_,_,b,_):=h;show λa c=>let ⟨p,q,r⟩:=b a c;⟨p,q,.inl r⟩)|(have(_,_,_,_,_,rfl,h):=h;show h.fr)
def bo.UZ(h:bo C S H r as (.JF ks us)):∀a∈r::as,¬S a/\¬C.Lx a/\C.H₀ a=bD:=by
 have(kvs,_,_,_,_,b,_):=h;show b
def bo.there(h:bo C S H r as u):∀a∈r::as,∃o,H a=a5 o/\¬Tp o:=by
 cases u<;>first|show h.elim|(have(_,_,_,a,_,rfl,h):=h;intro x hx;rcases d4.mp hx with rfl|hx;show#[_,h.ins,λz=>z];rw[hY.mp hx];show#[_,h.lst,λz=>z])|skip
 have(kvs,b,_,_,_,_,c):=h;intro a ha;rcases d4.mp ha with rfl|ha
 .show#[_,b,λz=>z]
 .have(vs,e):=c.mem ha;show#[_,e,λz=>z]
def bo.mv(m:Mv S H S' H')(b:∀a∈r::as,¬S' a/\∀o,H a=a5 o->H' a=a5 o)(h:bo C S H r as u):bo C S' H' r as u:=by
 cases u<;>first|show h.elim|(have(cl,e,v,a,vs,rfl,h):=h;show#[cl,e,v,a,vs,rfl,h.hc,(b r (by simp)).2 _ h.ins,h.ne,λx d=>#[(b x d).1,(h.fr x d).2],h.im,h.rep.mv m,(b a (by simp)).2 _ h.lst,h.Pf,h.La.mv m])|skip
 have(kvs,f,g,i,j,k,l):=h;show#[kvs,(b r (by simp)).2 _ f,g,i,j,λa c=>#[(b a c).1,(k a c).2],l.mv m λa c=>(b a (by simp[c])).2]
def MN.of(d:MN C c)(hk:e.kid=c.kid)(p:∀(j:Nat) (u:U),e.st[j]?=a5 (a5 (.A',u))->c.st[j]?=a5 (a5 (.A',u))/\e.σ[j]?=c.σ[j]?)(s:∀a,e.R1 a->c.R1 a\/∀j,¬c.RD j a)
  (m:Mv c.S c.H e.S e.H) (t:∀j a,c.RD j a->¬e.S a/\∀o,c.H a=a5 o->e.H a=a5 o):MN C e:=by
 have b:∀j a,e.RD j a->c.RD j a:=λj a v=>by
  have(u,r,k,f,q):=v;have(g,l):=p j u k;rw[l]at f;rw[hk]at q;show#[u,r,g,f,q]
 show#[λj u r k f=>?_,λi j a h n=>d.dj i j a (b i a h) (b j a n),λj a h n=>?_]
 .have(g,l):=p j u k;rw[l]at f;rw[hk];show bo.mv m (λa w=>t j a #[u,r,g,f,d4.mp w]) (d.kd j u r g f)
 .rcases s a n with z|z
  .show d.d1 j a (b j a h) z
  .show z j (b j a h)
def MN.hs(d:MN C c)(m:Mv c.S c.H S' H')(b:∀j a,c.RD j a->¬S' a/\∀o,c.H a=a5 o->H' a=a5 o):MN C {c with H:=H',S:=S' } :=
 d.of rfl (λ_ _ e=>#[e,rfl]) (λ_ z=>.inl z) m b
def Ok.root(f:Ok C c)(h:c.R r):¬c.S r/\¬C.Lx r/\(C.H₀ r=bD\/C.IO r)/\∃o,c.H r=a5 o/\¬Tp o:=by
 rcases h with⟨j,k,u,hk,b,d⟩|⟨j,u,g,b,d,a⟩
 .have(v,e,hs):=f.sl j _ _ b;have(g,ev,a,l,m,n):=hs.rt hk;rw[d]at e;cases e;cases ev;show#[a,l,m,n.some]
 .have i:=f.dd.kd j u g b d;have(p,q,s):=bo.fr i r (d4.mpr a);show#[p,q,s,bo.there i r (d4.mpr a)]
def Ok.mv(b:Ok C c)(n:Ns c d):Mv c.S c.H d.S d.H:=#[n.sub,λa o h t=>n.keep a o h λz=>by
  have(_,_,_,o',h',e):=b.root z;rw[h]at h';cases h';show e t,λa o s h=>n.keep a o h λz=>(b.root z).1 s]
def Ok.Og(b:Ok C c)(n:Ns c d):Mv (PS C c.S) c.H (PS C d.S) d.H:=#[λa h=>h.imp id (n.sub a),(b.mv n).Qe,λa o s h=>n.keep a o h λz=>by
  rcases s with s|s
  .show(b.root z).2.1 s
  .show(b.root z).1 s]
def Ok.iB(a:Ok C c)(h:c.H p=bD):C.H₀ p=bD/\¬c.S p/\¬C.Lx p/\¬C.IO p/\¬c.R p:=by
 have b:¬C.IO p:=λz=>by have(_,o,q):=a.io p z;rw[h]at q;cases q
 have d:C.H₀ p=bD:=by
  cases e:C.H₀ p with
  |none=>rfl
  |some o=>have:=a.same p o e b;rw[h]at this;cases this
 show#[d,λz=>?_,λz=>?_,b,λz=>?_]
 .have(_,o,q):=a.LJ p z;rw[h]at q;cases q
 .have((o,q),_):=a.par p z;rw[d]at q;cases q
 .have(_,_,_,o,q,_):=a.root z;rw[h]at q;cases q
def gF.mv(m:Mv S H S' H')(i:Mv (PS C S) H (PS C S') H')(g:k.root=a8->∀r,v=.ref r->¬S' r/\∀o,H r=a5 o->H' r=a5 o)(h:gF C S H k u v):gF C S' H' k u v:=by
 cases k with
 |own =>
  have(r,e,l,a,b,c):=h;have(d,f):=g rfl r e;show#[r,e,d,a,b,c.mv m f]
 |io =>
  have(r,e,l,a,b,c):=h;have(d,f):=g rfl r e;show#[r,e,d,a,b,c.mv m f]
 |loc=>show Rep.mv m h
 |any=>show Rep.mv i h
 |bor j=>show h.elim
 |A'=>show h
structure Nx(c c':Cf):Prop extends Ns c c' where
instance {c a:Cf}:Coe (Nx c a) (Ns c a):=#[Nx.toNs]
def Nx.refl(c:Cf):Nx c c:=#[.refl c]
def Nx.trans(m:Nx c a)(n:Nx a b):Nx c b:=#[m.toNs.trans n.toNs]
def Nx.none(n:Nx c b)(h:b.H a=.none):c.H a=.none:=n.toNs.none h
def Ok.lay(b:Ok C c)(h:c.H p=bD):Ok C {c with H:=upd c.H p o}/\Nx c {c with H:=upd c.H p o}:=by
 have ne:∀{a:df} {o':HO},c.H a=a5 o'->a≠p:=λe z=>by subst z;rw[h]at e;cases e
 have d:∀a o',c.H a=a5 o'->(upd c.H p o) a=a5 o':=λa o' e=>by rw[aj (ne e)];show e
 have nx:Nx c {c with H:=upd c.H p o}:=#[#[λa o' e _=>d a o' e,λa o' e=>#[o',d a o' e],λa z=>.inl z,λ_ z=>z,λ_ z=>.inl z]]
 show#[#[λa o' e z=>d a o' (b.same a o' e z),λa z=>#[(b.LJ a z).1,let ⟨o',q⟩:=(b.LJ a z).2;⟨o',d a o' q⟩],b.par,λa z=>#[(b.io a z).1,let ⟨o',q⟩:=(b.io a z).2;⟨o',d a o' q⟩],b.len,λi k u e=>?_,b.inj,b.dd.hs (b.mv nx.toNs) λj a z=>#[(b.root (.inr #[j,z])).1,λo' e=>d a o' e]],nx];have(v,l,f):=b.sl i k u e;show#[v,l,f.mv (b.mv nx.toNs) (b.Og nx.toNs) λhk r m=>?_];have(s,g,n,_):=f.rt hk;rw[m]at g;cases g;show#[n,λo' e=>d r o' e]
def Ok.grow(b:Ok C c)(hs:fI c.H H')(g:∀a,S' a->c.S a\/(c.H a=bD/\∃o,H' a=a5 o))(p:∀a,c.S a->S' a):Ok C {c with H:=H',S:=S' }/\Nx c {c with H:=H',S:=S' }:=by
 have nx:Nx c {c with H:=H',S:=S' }:=#[#[λa o' e _=>hs a o' e,λa o' e=>#[o',hs a o' e],λa z=>.inl z,p,λa z=>(g a z).imp id λq=>.inr q.1]]
 show#[#[λa o' e z=>hs a o' (b.same a o' e z),λa z=>?_,b.par,λa z=>#[(b.io a z).1,let ⟨o',q⟩:=(b.io a z).2;⟨o',hs a o' q⟩],b.len,λi k u e=>?_,b.inj,b.dd.hs (b.mv nx.toNs) λj a z=>#[λd=>?_,λo' e=>hs a o' e]],nx]
 rotate_left 2
 .have(f,_,_,o,h,_):=b.root (.inr #[j,z]);rcases g a d with d|⟨d,_⟩
  .show f d
  .rw[h]at d;cases d
 .rcases g a z with q|⟨f,l⟩
  .show#[(b.LJ a q).1,let ⟨o',q⟩:=(b.LJ a q).2;⟨o',hs a o' q⟩]
  .show#[(b.iB f).1,l]
 .have(v,s,m):=b.sl i k u e;show#[v,s,m.mv (b.mv nx.toNs) (b.Og nx.toNs) λhk r t=>?_];have(w,n,f,l,x,h):=m.rt hk;rw[t]at n;cases n;have(o,ho,_):=h.some;show#[λz=>?_,λo' e=>hs r o' e];rcases g r z with z|⟨z,_⟩
  .show f z
  .rw[z]at ho;cases ho
def aK(C:Ct)(c0 c:Cf):Kd->U->V->Prop
 |.own,u,v=>∃r,v=.ref r/\c0.H r=bD/\¬c.S r/\¬c.R r/\dU C c.S c.H r u
 |.loc,u,v=>Rep C c.S c.H u v
 |.any,u,v=>Rep C (PS C c.S) c.H u v
 |.bor j,u,v=>(∃k:Kd,k.root=a8/\c.st[j]?=a5 (a5 (k,u)))/\c.σ[j]?=a5 (a5 v)
 |.io,_,_=>False
 |.A',_,_=>False
def gG(C:Ct)(c0 c:Cf):Kd->U->V->Prop
 |.own,u,v=>∃r,v=.ref r/\c0.H r=bD/\¬c.S r/\¬c.R r/\dU C c.S c.H r u
 |.loc,u,v=>Rep C c.S c.H u v
 |.any,u,v=>Rep C (PS C c.S) c.H u v
 |.bor j,u,v=>c.σ[j]?=a5 (a5 v)
 |.io,_,_=>False
 |.A',_,_=>False
def aK.w(h:aK C c0 c k u v):gG C c0 c k u v:=by
 cases k with
 |bor j=>show h.2
 |_=>show h
def gG.WQ(a:Ok C c)(n:Ns c b)(g:∀j,k=.bor j->b.σ[j]?=c.σ[j]?)(h:gG C c0 c k u v):gG C c0 b k u v:=by
 cases k with
 |own =>
  have(r,e,i,l,d,f):=h;have(o,ho,_):=f.some;show#[r,e,i,λz=>?_,λz=>?_,f.mv (a.mv n) λo q=>n.keep r o q d]
  .rcases n.new r z with z|z|z
   .show l z
   .show d z
   .rw[z]at ho;cases ho
  .rcases n.roots r z with z|z
   .show d z
   .rw[z]at ho;cases ho
 |loc=>show Rep.mv (a.mv n) h
 |any=>show Rep.mv (a.Og n) h
 |bor j=>change b.σ[j]?=_;rw[g j rfl];show h
 |_=>show h
def gG.on(b:Ok C c)(n:Ns c a)(d:a.σ=c.σ)(h:gG C c0 c k u v):gG C c0 a k u v:=h.WQ b n λj _=>by rw[d]
def gG.from(n:Ns c0 a)(h:gG C a c k u v):gG C c0 c k u v:=by
 cases k with
 |own=>have(r,e,b,d):=h;show#[r,e,n.none b,d]
 |_=>show h
def aK.from(n:Ns c0 a)(h:aK C a c k u v):aK C c0 c k u v:=by
 cases k with
 |own=>have(r,e,b,d):=h;show#[r,e,n.none b,d]
 |_=>show h
def SK(C:Ct)(c:Cf):Kd->df->Prop
 |.any=>PS C c.S
 |_=>c.S
abbrev kE:Kd->Kd
 |.any=>.any
 |_=>.loc
def Ok.rootOf(b:Ok C c){j:Nat}(h:∃k:Kd,k.root=a8/\c.st[j]?=a5 (a5 (k,u)))(e:c.σ[j]?=a5 (a5 v)):∃r,v=.ref r/\¬c.S r/\¬C.Lx r/\(C.H₀ r=bD\/C.IO r)/\dU C c.S c.H r u:=by
 have(k,hk,h):=h;have(v',a,d):=b.sl j _ _ h;rw[e]at a;cases a;show d.rt hk
def aK.list(f:Ok C c)(h:aK C c0 c k (.lst us) v):∃a vs,v=.ref a/\Kh C.K c.H a vs/\av C (SK C c k) c.H us vs:=by
 cases k with
 |own=>have(r,e,_,_,_,vs,b,d):=h;show#[r,vs,e,Kh.of b,d]
 |bor j=>have(r,e,_,_,_,vs,b,d):=f.rootOf h.1 h.2;show#[r,vs,e,Kh.of b,d]
 |io=>show h.elim
 |A'=>show h.elim
 |_=>have(a,vs,e,b,d):=h;show#[a,vs,e,b.sq,d]
def aK.tuple(b:Ok C c)(h:aK C c0 c k (.tup us) v):∃a vs,v=.ref a/\Ki C.K c.H a vs/\av C (SK C c k) c.H us vs:=by
 cases k with
 |own=>have(r,e,_,_,_,h):=h;show h.elim
 |bor j=>have(r,e,_,_,_,h):=b.rootOf h.1 h.2;show h.elim
 |io=>show h.elim
 |A'=>show h.elim
 |_=>have(a,vs,e,d,f):=h;show#[a,vs,e,d,f]
def aK.flat(b:Ok C c)(a:JW u=a8)(h:aK C c0 c k u v):Rep C c.S c.H u v:=by
 cases k with
 |own=>have(r,e,_,_,_,h):=h;cases u<;>simp[JW]at a<;>show h.elim
 |loc=>show h
 |any=>show Rep.JW a h
 |bor j=>have(r,e,_,_,_,h):=b.rootOf h.1 h.2;cases u<;>simp[JW]at a<;>show h.elim
 |_=>show h.elim
def aK.int(a:Ok C c)(h:aK C c0 c k (.int i) v):v=.int i:=h.flat a rfl
def aK.str(a:Ok C c)(h:aK C c0 c k (.str x) v):v=.str x:=h.flat a rfl
def aK.bl(a:Ok C c)(h:aK C c0 c k (.bl b) v):v=.bl b:=h.flat a rfl
def aK.item(h:Rep C (SK C c k) c.H u v):aK C c0 c (kE k) u v:=by
 cases k<;>show h
abbrev Lz(H:Hp):df->Prop:=λa=>∃o,H a=a5 o
def Ok.yH(b:Ok C c):∀a,c.S a->Lz c.H a:=λa h=>(b.LJ a h).2
def Ok.Hl(b:Ok C c):∀a,PS C c.S a->Lz c.H a:=λa h=>by
 rcases h with h|h
 .have((o,e),n):=b.par a h;show#[o,b.same a o e n]
 .show b.yH a h
def aK.read(a:Ok C c)(h:aK C c0 c k u v):Rep C (Lz c.H) c.H u v:=by
 cases k with
 |own =>
  have(r,e,_,_,_,b):=h;rw[e];have(o,ho,_):=b.some;show b.rep a.yH #[o,ho]
 |loc=>show Rep.mv (.up a.yH) h
 |any=>show Rep.mv (.up a.Hl) h
 |bor j =>
  have(r,e,_,_,_,b):=a.rootOf h.1 h.2;rw[e];have(o,ho,_):=b.some;show b.rep a.yH #[o,ho]
 |_=>show h.elim
def Ok.newList(a:Ok C c)(n:Nx c0 c)(h:c.H p=bD)(d:av C c.S c.H us vs):
  Ok C {c with H:=upd c.H p (.lst vs)}/\Nx c0 {c with H:=upd c.H p (.lst vs)}/\aK C c0 {c with H:=upd c.H p (.lst vs)} .own (.lst us) (.ref p):=by
 have(e,b):=a.lay (o:=.lst vs) h;have(i,f,j,k,g):=a.iB h;show#[e,n.trans b,p,rfl,n.none h,f,g,vs,ar,d.mv (a.mv b.toNs)]
def Ok.EX(a:Ok C c)(n:Nx c0 c)(h:c.H p=bD)(d:av C c.S c.H us vs):
  Ok C {c with H:=upd c.H p (.tup vs)}/\Nx c0 {c with H:=upd c.H p (.tup vs)}/\aK C c0 {c with H:=upd c.H p (.tup vs)} .loc (.tup us) (.ref p):=by
 have(e,b):=a.lay (o:=.tup vs) h;show#[e,n.trans b,p,vs,rfl,Ki.of ar,d.mv (a.mv b.toNs)]
end
inductive Ex(α:Type) where|ok (a:α)|exc (c:Str)
abbrev M(α:Type):=aw->Option (Ex α×aw)
namespace M
abbrev pure(a:α):M α:=λst=>a5 (.ok a,st)
abbrev fail:M α:=λ_=>bD
abbrev bind(m:M α)(f:α->M β):M β:=λst=>match m st with
 |none=>bD
 |some (.ok a,st')=>f a st'
 |some (.exc c,st')=>a5 (.exc c,st')
abbrev Kb(o:Option α):M α:=λst=>match o with
 |none=>bD
 |some a=>a5 (.ok a,st)
end M
noncomputable instance:Monad M:={pure:=M.pure,bind:=M.bind}
abbrev W{α:Type}(m:M α)(st:aw)(Q:α->aw->Prop):Prop:=∃a st',m st=a5 (.ok a,st')/\Q a st'
section
def aq:W (pure a) st Q↔Q a st:=by
 constructor
 .rintro⟨b,st',e,h⟩;cases e;show h
 .intro h;show#[a,st,rfl,h]
def ag:W (m >>= f) st Q↔W m st λa st'=>W (f a) st' Q:=by
 constructor
 .rintro⟨b,st',e,h⟩;have d:M.bind m f st=a5 (.ok b,st'):=e;unfold M.bind at d;cases q:m st with
  |none=>rw[q]at d;cases d
  |some r =>
   have(r,s1):=r;rw[q]at d;cases r with
   |ok a=>show#[a,s1,q,b,st',d,h]
   |exc c=>cases d
 .rintro⟨a,s1,q,b,st',e,h⟩;show#[b,st',?_,h];change M.bind m f st=_;unfold M.bind;rw[q];show e
def da:W (M.Kb o) st Q↔∃a,o=a5 a/\Q a st:=by
 cases o with
 |none=>show#[λ⟨_,_,e,_⟩=>(by cases e),λ⟨_,e,_⟩=>(by cases e)]
 |some a=>show#[λ⟨_,_,e,h⟩=>(by cases e;show#[a,rfl,h]),λ⟨_,e,h⟩=>(by cases e;show#[a,st,rfl,h])]
def bg:W (M.fail:M α) st Q↔False:=#[λ⟨_,_,e,_⟩=>(by cases e),wk]
def W.mono(h:W m st Q)(i:∀a s,Q a s->Q' a s):W m st Q':=let ⟨a,s,e,q⟩:=h;⟨a,s,e,i a s q⟩
end
inductive So where|add|sub|mul|Ml|mod|pow
deriving DecidableEq
inductive Rh where|eq|ne|lt|le|gt|ge|isin|JG|is|U1
deriving DecidableEq
inductive Bf where|len|sorted|list|tuple|str|int|repr|max|min|all|any
deriving DecidableEq
inductive B2 where|Nt|LY|sset|jU
deriving DecidableEq
inductive Mf where|split|join|partition|endswith
deriving DecidableEq
inductive Ze where|str|list|tuple|int|bool
deriving DecidableEq
inductive Ik where|seq|Kg|LZ|ON|zip|rev
deriving DecidableEq
inductive E where
 |var (i:Nat)
 |cst (u:U)
 |Mc (x:Str) (u:U)
 |bin (op:So) (a b:E)
 |cmp (op:Rh) (a b:E)
 |Nu (o1 o2:Rh) (a b c:E)
 |and (es:List E)|or (es:List E)|not (a:E)
 |ite (c a b:E)
 |tup (es:List E)|lst (es:List E)|L0 (r:Bool)
 |idx (a b:E)
 |K_ (a:E) (lo hi:List E)
 |bi (f:Bf) (es:List E)
 |Oh (f:B2) (es:List E)
 |MB (m:Mf) (a:E) (es:List E)
 |call (f:Str) (es:List E)
 |comp (k:Nat) (t:Bool) (ik:Ik) (src:List E) (cond:List E) (e:E)
 |neg (a:E)|bad|Sr (a:E) (T:Ze)|fst (es:List E)|inD (neg:Bool) (a:E) (i:Nat)|Qf (i:Nat)|Mm (i:Nat) (k d:E)|Qg (i:Nat)|Ss (ln:Bool) (a b:E)
 |Kq (i:Nat)|MO (i:Nat)|LK (i:Nat)|la (i:Nat)|Ku (f:Str) (i:Nat) (es Ky:List E)|Kl (f m:Str) (i:Nat) (es:List E)
inductive Su where
 |mt (f m:Str) (i:Nat) (es:List E)
 |ite (c:E) (a b:Su)
inductive S where
 |set (i:Nat) (e:E)
 |MP (is:List Nat) (e:E)
 |put (i:Nat) (k v:E)
 |app (i:Nat) (e:E)|ext (i:Nat) (e:E)|bad|newD (i:Nat)|putD (i:Nat) (k v:E)|L3 (i:Nat) (k v:E)|aug (sub:Bool) (i:Nat) (k v:E)|Sv (i:Nat)
 |exp (e:E)
 |ret (e:E)|Oi
 |ite (c:E) (a b:List S)
 |JZ (t:Bool) (is:List Nat) (ik:Ik) (src:List E) (body:List S)
 |Ph (c:E) (body:List S)
 |brk|cnt|Sw
 |Ri (is:List Nat)
 |M' (c:Str) (e:E)
 |Mn (p:Nat)|LL (i:Nat)|MQ (i:Nat) (e:E)|MR (i:Nat)
 |Oj (su:Su) (x:Str) (L4:List (Str×List Bool)) (j k:Nat) (g:Str) (Ds:List (List Str))|knd (Ds:List (List Str))
abbrev isAny:Kd->Bool
 |.any=>a8
 |_=>bL
abbrev eB(k:Kd)(xs:List U):Bool:=!isAny k||dy xs
abbrev kT(k k':Kd):Kd:=if isAny k||isAny k' then .any else .loc
abbrev cut{α:Type}(xs:List α)(lo hi:Option Int):List α:=(xs.drop (HT.JS xs.length 0 lo)).take (HT.JS xs.length xs.length hi - HT.JS xs.length 0 lo)
abbrev wD:Kd×U->Kd×U->Option (Kd×U)
 |(_,.int i),(_,.int j)=>a5 (.loc,.int (i+j))
 |(_,.str x),(_,.str y)=>if x.length+y.length<=b6 then a5 (.loc,.str (x++y)) else bD
 |(k,.lst xs),(k',.lst ys)=>if xs.length+ys.length<=b6/\eB k xs=a8/\eB k' ys=a8 then a5 (.own,.lst (xs++ys)) else bD
 |(k,.tup xs),(k',.tup ys)=>if xs.length+ys.length<=b6 then a5 (kT k k',.tup (xs++ys)) else bD
 |_,_=>bD
abbrev tw(f:Int->Int->Option Int):U->U->Option (Kd×U)
 |.int i,.int j=>(f i j).map λn=>(.loc,.int n)
 |_,_=>bD
abbrev BA(i j:Int):Option Int:=if ((-(2 ^ 64)<i/\i<2 ^ 64)\/(-(2 ^ 64)<j/\j<2 ^ 64)) then a5 (i * j) else bD
abbrev BB(i j:Int):Option Int:=if 0<j/\j<1073741824 then a5 (i / j) else bD
abbrev BC(i j:Int):Option Int:=if 0<j then a5 (i % j) else bD
abbrev BD(i j:Int):Option Int:=if 0<=j/\j<=1000000/\i.natAbs<2 ^ 64 then a5 (i ^ j.toNat) else bD
abbrev LO(op:So)(x y:Kd×U):Option (Kd×U):=match op with
 |.add=>wD x y
 |.sub=>tw (λi j=>a5 (i - j)) x.2 y.2
 |.mul=>tw BA x.2 y.2
 |.Ml=>tw BB x.2 y.2
 |.mod=>tw BC x.2 y.2
 |.pow=>tw BD x.2 y.2
mutual
noncomputable def J4:Nat->U->Bool
 |_,.JF _ _=>bL
 |_,.ob _ _=>bL
 |0,.tup _=>bL
 |0,.lst _=>bL
 |n+1,.tup xs=>bV n xs
 |n+1,.lst xs=>bV n xs
 |_,.JN=>a8|_,.bl _=>a8|_,.int _=>a8|_,.str _=>a8
noncomputable def bV:Nat->List U->Bool
 |_,[]=>a8
 |n,u::us=>J4 n u&&bV n us
end
mutual
noncomputable def bW:U->U->Bool
 |.JN,.JN=>a8
 |.bl a,.bl b=>a==b
 |.bl a,.int b=>(if a then 1 else 0)==b
 |.int a,.bl b=>a==(if b then 1 else 0)
 |.int a,.int b=>a==b
 |.str a,.str b=>a==b
 |.tup xs,.tup ys=>cQ xs ys
 |.lst xs,.lst ys=>cQ xs ys
 |_,_=>bL
noncomputable def cQ:List U->List U->Bool
 |[],[]=>a8
 |u::us,w::ws=>bW u w&&cQ us ws
 |_,_=>bL
end
abbrev Ol(x:U)(ys:List U):Option Bool:=if J4 50 x=a8/\bV 50 ys=a8 then a5 (ys.any λy=>bW y x) else bD
abbrev Qh(x y:Str):Bool:=!(td y x 0 y.length 1).isEmpty
abbrev strsOf:List U->Option (List Str)
 |[]=>a5 []
 |.str x::us=>(strsOf us).map (x::·)
 |_::_=>bD
abbrev BE:U->U->Option Bool
 |x,.lst ys=>Ol x ys
 |x,.tup ys=>Ol x ys
 |.str x,.str y=>a5 (Qh x y)
 |.str x,.JF ks _=>a5 (b7 (x∈ks))
 |_,_=>bD
abbrev eD:List Str->List U->Str->Option U
 |y::ks,u::us,x=>if y=x then a5 u else eD ks us x
 |_,_,_=>bD
abbrev dput(ks:List Str)(us:List U)(x:Str)(u:U):List Str×List U :=
 if x∈ks then(ks,(ks.zip us).map λp=>if p.1=x then u else p.2) else(ks++[x],us++[u])
abbrev bK:Rh->U->U->Option Bool
 |.eq,a,b=>if J4 50 a=a8/\J4 50 b=a8 then a5 (bW a b) else bD
 |.ne,a,b=>if J4 50 a=a8/\J4 50 b=a8 then a5 (!bW a b) else bD
 |.lt,.int i,.int j=>a5 (b7 (i<j))
 |.gt,.int i,.int j=>a5 (b7 (j<i))
 |.ge,.int i,.int j=>a5 (b7 (j<=i))
 |.isin,x,y=>BE x y
 |.JG,x,y=>(BE x y).map (!·)
 |_,_,_=>bD
abbrev mf:List U->Option (List Bool)
 |[]=>a5 []
 |.bl x::us=>(mf us).map (x::·)
 |_::_=>bD
abbrev iV:Kd×U->U->Option (Kd×U)
 |(k,.lst xs),.int i=>(J_ xs i).map λu=>(kE k,u)
 |(k,.tup xs),.int i=>(J_ xs i).map λu=>(kE k,u)
 |(_,.str x),.int i=>if x.length<=b6 then(J_ x.cps.toList i).map λc=>(.loc,.str #[#v[c]]) else bD
 |_,_=>bD
abbrev gH:Kd×U->Option Int->Option Int->Option (Kd×U)
 |(k,.lst xs),lo,hi=>if eB k xs=a8 then a5 (.own,.lst (cut xs lo hi)) else bD
 |(k,.tup xs),lo,hi=>a5 (kE k,.tup (cut xs lo hi))
 |(_,.str x),lo,hi=>if x.length<=b6 then a5 (.loc,.str (PySem.StrLaws.sliceText x lo hi)) else bD
 |_,_,_=>bD
abbrev BF:U->Option Nat
 |.lst xs=>a5 xs.length
 |.tup xs=>a5 xs.length
 |.str x=>if x.length<=b6 then a5 x.length else bD
 |_=>bD
abbrev iW{β:Type}(f:Kd×U->Option β):List (Kd×U)->Option β
 |[x]=>f x
 |_=>bD
abbrev intsOf:List U->Option (List Int)
 |[]=>a5 []
 |.int x::us=>(intsOf us).map (x::·)
 |_::_=>bD
abbrev EY:Kd×U->Option (Kd×U)
 |(_,.lst xs)=>(strsOf xs).bind λss=>if ss.length<64 then a5 (.own,.lst ((bI ss).map .str)) else bD
 |(_,.JF ks _)=>if ks.length<64 then a5 (.own,.lst ((bI ks).map .str)) else bD
 |(_,.tup xs)=>(strsOf xs).bind λss=>if ss.length<64 then a5 (.own,.lst ((bI ss).map .str)) else bD
 |_=>bD
abbrev EZ:Kd×U->Option (Kd×U)
 |(k,.lst xs)=>if eB k xs=a8 then a5 (.own,.lst xs) else bD
 |(k,.tup xs)=>if eB k xs=a8 then a5 (.own,.lst xs) else bD
 |_=>bD
abbrev E1:Kd×U->Option (Kd×U)
 |(k,.lst xs)=>a5 (kE k,.tup xs)
 |(k,.tup xs)=>a5 (kE k,.tup xs)
 |_=>bD
abbrev yI:Kd×U->Option (Kd×U)
 |(_,.int i)=>if i.natAbs.log2<1920 then a5 (.loc,.str (Ľ i)) else bD
 |_=>bD
abbrev E2:Kd×U->Option (Kd×U)
 |(_,.lst xs)=>(mf xs).map λbs=>(.loc,.bl (bs.all id))
 |_=>bD
abbrev KP(f:Bf)(rs:List (Kd×U)):Option (Kd×U):=match f with
 |.len=>iW (λx=>(BF x.2).map λ(n:Nat)=>(Kd.loc,U.int (n:Int))) rs
 |.sorted=>iW EY rs
 |.list=>iW EZ rs
 |.tuple=>iW E1 rs
 |.str=>iW yI rs
 |.all=>iW E2 rs
 |_=>bD
abbrev wF:U->Option (List Str)
 |.lst xs=>(strsOf xs).bind λss=>if ss.length+1<Nf then a5 (bq ss) else bD
 |.tup xs=>(strsOf xs).bind λss=>if ss.length+1<Nf then a5 (bq ss) else bD
 |_=>bD
abbrev E3:Kd×U->Option (Kd×U)
 |(k,.tup xs)=>if eB k xs=a8 then a5 (.own,.lst xs.reverse) else bD
 |_=>bD
abbrev tD(f:B2)(rs:List (Kd×U)):Option (Kd×U):=match f with
 |.Nt=>bD
 |.LY=>iW E3 rs
 |.sset=>bD
 |.jU=>iW (λx=>(wF x.2).map λss=>(.loc,.int ss.length)) rs
abbrev k_:Mf->U->List (Kd×U)->Option (Kd×U)
 |.split,.str a,[(_,.str b)]=>if (b.length==0)=bL/\a.length+2<=b6 then a5 (.own,.lst ((PZ a b).map .str)) else bD
 |.join,.str a,[(_,.lst xs)]=>(strsOf xs).bind λss=>if ċ a ss=a8 then a5 (.loc,.str (VB a ss)) else bD
 |.endswith,.str a,[(_,.str b)]=>a5 (.loc,.bl (ħ a b))
 |.partition,.str a,[(_,.str b)]=>if (b.length==0)=bL/\a.length<=b6 then a5 (.loc,.tup [.str (lg a b).1,.str (lg a b).2.1,.str (lg a b).2.2]) else bD
 |_,_,_=>bD
abbrev Jl:Kd×U->Option (List (Kd×U))
 |(k,.lst xs)=>a5 (xs.map λu=>(kE k,u))
 |(k,.tup xs)=>a5 (xs.map λu=>(kE k,u))
 |(_,.str x)=>a5 (x.cps.toList.map λc=>(.loc,.str #[#v[c]]))
 |_=>bD
abbrev wG:Kd×U->Option (List (Kd×U))
 |(_,.int n)=>if n<2 ^ 62/\-(2 ^ 62)<n then a5 ((dV n.toNat).map λi:Nat=>(Kd.loc,U.int (0+(i:Int)))) else bD
 |_=>bD
abbrev E4:List (Kd×U)->Option (List (Kd×U))
 |[(_,.int lo),(_,.int hi)]=>if hi<2 ^ 62/\-(2 ^ 62)<lo/\lo<2 ^ 62/\-(2 ^ 62)<hi then a5 ((dV (hi - lo).toNat).map λi:Nat=>(Kd.loc,U.int (lo+(i:Int)))) else bD
 |_=>bD
abbrev E5:Kd×U->Option (List (Kd×U))
 |(k,.lst xs)=>a5 (xs.zipIdx.map λp=>(kE k,.tup [.int p.2,p.1]))
 |(k,.tup xs)=>a5 (xs.zipIdx.map λp=>(kE k,.tup [.int p.2,p.1]))
 |_=>bD
abbrev Mo(a:Ik)(rs:List (Kd×U)):Option (List (Kd×U)):=match a with
 |.seq=>iW Jl rs
 |.Kg=>iW wG rs
 |.LZ=>E4 rs
 |.ON=>iW E5 rs
 |_=>bD
abbrev BG(ps:List (Str×Int)):List (Str×Int):=(k7 (ps.map (·.1))).map λi=>ps.getD i (sx,0)
abbrev wH(p:Str×Int):U:=.tup [.str p.1,.int p.2]
abbrev yJ:U->Option (Kd×U)
 |.JF ks us=>(intsOf us).bind λns=>if ks.length<64/\ks.Nodup/\ks.length=ns.length then a5 (.own,.lst ((BG (ks.zip ns)).map wH)) else bD
 |_=>bD
abbrev tE:U->Option Bool
 |.bl b=>a5 b
 |.lst xs=>a5 !xs.isEmpty
 |.tup xs=>a5 !xs.isEmpty
 |.str x=>if x.length<=b6 then a5 ((x.length:Int) != 0) else bD
 |_=>bD
abbrev lift:Kd×U->M U
 |(.own,u)=>pure u
 |(.loc,u)=>pure u
 |(.any,u)=>if JW u=a8 then pure u else M.fail
 |(.bor j,_)=>λst=>match st[j]? with
  |some (a5 (.own,u))=>a5 (.ok u,st.set j (a5 (.loc,u)))
  |_=>bD
 |(.io,_)=>M.fail
 |(.A',_)=>M.fail
abbrev dc:List (Kd×U)->M (List U)
 |[]=>pure []
 |r::rs=>do let u <-lift r;let us <-dc rs;pure (u::us)
abbrev fq(i:Nat):Kd×U->M Unit
 |(.bor j,_)=>λst=>match st[j]? with
  |some (a5 (.own,u))=>a5 (.ok (),(st.set j (a5 (.loc,u))).set i (a5 (.loc,u)))
  |_=>bD
 |(.io,_)=>M.fail
 |(.A',_)=>M.fail
 |(k,u)=>λst=>a5 (.ok (),st.set i (a5 (k,u)))
def a_:List (Kd×U)->aw->Prop
 |[],_=>True
 |(.bor j,u)::rs,st=>(∃k:Kd,k.root=a8/\st[j]?=a5 (a5 (k,u)))/\a_ rs st
 |_::rs,st=>a_ rs st
open Classical in
abbrev aA(rs:List (Kd×U)):M Unit:=λst=>if a_ rs st then a5 (.ok (),st) else bD
@[reducible]noncomputable def Tab:=Str->List U->Option (Ex (Kd×U))
abbrev mj(Γ:Tab)(f:Str)(us:List U):M (Kd×U):=λst=>match Γ f us with
 |some (.ok (.any,_))=>bD
 |none=>bD
 |some r=>a5 (r,st)
abbrev dW(i:Nat):M (Kd×U):=λst=>match st[i]? with
 |some (a5 (.A',_))=>bD
 |some (a5 (k,u))=>a5 (.ok (if k.root=a8 then .bor i else k,u),st)
 |_=>bD
abbrev LA(i:Nat):M (U×List U):=λst=>match st[i]? with
 |some (a5 (.A',.ob u us))=>a5 (.ok (u,us),st)
 |_=>bD
abbrev Om(i:Nat)(f:U->List U->Option (U×List U)):M Unit:=λst=>match st[i]? with
 |some (a5 (.A',.ob u us))=>match f u us with
  |some (w,ws)=>if JW w=a8/\dy ws=a8 then a5 (.ok (),st.set i (a5 (.A',.ob w ws))) else bD
  |none=>bD
 |_=>bD
abbrev BH(u:U)(us:List U):Option (U×List U):=if us.length<b6 then a5 (u,us++[u]) else bD
abbrev la(i:Nat):M (Kd×U):=λst=>match st[i]? with
 |some (a5 (.A',.ob u us))=>match us[us.length - 1]? with
  |some w=>a5 (.ok (.loc,w),st.set i (a5 (.A',.ob u us.dropLast)))
  |none=>bD
 |_=>bD
abbrev gI{α:Type}(p:Nat)(o:α)(us:List α):List α:=us.take p++o::us.drop p
abbrev gJ(Γ:Tab)(f:Str)(p i:Nat)(rs:List (Kd×U)):M (Kd×U):=λst=>match st[i]? with
 |some (a5 (.A',.ob u us))=>match Γ f (gI p (.ob u us) (rs.map (·.2))) with
  |some (.ok (k,.tup [w,.ob u' us']))=>if (k=.own\/k=.loc)/\p<=rs.length then a5 (.ok (k,w),st.set i (a5 (.A',.ob u' us'))) else bD
  |_=>bD
 |_=>bD
abbrev kN(Γ:Tab)(f:Str)(i:Nat)(rs:List (Kd×U)):M (Option Str):=λst=>match st[i]? with
 |some (a5 (.A',.ob u us))=>match Γ f (.ob u us::rs.map (·.2)) with
  |some (.ok (k,.tup [w,.ob u' us']))=>match k,w with
   |.own,_=>a5 (.ok bD,st.set i (a5 (.A',.ob u' us')))
   |.loc,_=>a5 (.ok bD,st.set i (a5 (.A',.ob u' us')))
   |.io,.str c=>a5 (.ok (a5 c),st.set i (a5 (.A',.ob u' us')))
   |_,_=>bD
  |_=>bD
 |_=>bD
abbrev ju(i:Nat):M (List Str×List U):=λst=>match st[i]? with
 |some (a5 (.A',.JF ks us))=>a5 (.ok (ks,us),st)
 |_=>bD
abbrev lh(x:Kd×U):M Str:=match x.2 with
 |.str y=>pure y
 |_=>M.fail
abbrev U2(neg:Bool)(y:Str)(ks:List Str):Bool:=if neg=a8 then !b7 (y∈ks) else b7 (y∈ks)
abbrev yK(i:Nat):M (Kd×U):=λst=>match st[i]? with
 |some (a5 (.A',.JF ks us))=>a5 (.ok (.bor i,.JF ks us),st.set i (a5 (.own,.JF ks us)))
 |_=>dW i st
abbrev Dw(i:Nat):M Unit:=λst=>a5 (.ok (),st.set i (a5 (.A',.JF [] [])))
abbrev mn(i:Nat)(y:Str):Kd×U->M Unit
 |(.own,.lst us)=>λst=>match st[i]? with
  |some (a5 (.A',.JF ks vs))=>if y∉ks/\ks.length<b6 then a5 (.ok (),st.set i (a5 (.A',.JF (ks++[y]) (vs++[.lst us])))) else bD
  |_=>bD
 |_=>M.fail
abbrev lj:List Str->List U->Str->U->List U
 |k::ks,v::vs,y,u=>if k=y then u::vs else v::lj ks vs y u
 |_,vs,_,_=>vs
abbrev mq(i:Nat)(y:Str)(u:U):M Unit:=λst=>match st[i]? with
 |some (a5 (.A',.JF ks vs))=>match eD ks vs y with
  |some (.lst xs)=>if xs.length<b6 then a5 (.ok (),st.set i (a5 (.A',.JF ks (lj ks vs y (.lst (xs++[u])))))) else bD
  |_=>bD
 |_=>bD
abbrev U3:U->M Unit
 |.JF _ _=>pure ()
 |_=>M.fail
abbrev BI(x:Kd×U)(y:Str)(u:U):Option (Kd×U):=match x with
 |(k,.JF ks us)=>a5 (match eD ks us y with|some v=>(kE k,v)|none=>(.loc,u))
 |_=>bD
abbrev qV(i:Nat):M (List U):=λst=>match st[i]? with
 |some (a5 (k,.lst us))=>if k.root=a8 then a5 (.ok us,st) else bD
 |_=>bD
abbrev wI(x:Kd×U):M Int:=match x.2 with
 |.int j=>pure j
 |_=>M.fail
abbrev qW(us:List U)(j:Int):Option Int:=if 0<=j then(match us[j.toNat]? with|some (.int o)=>a5 o|_=>bD) else bD
abbrev wJ(sub:Bool)(o w:Int):Int:=if sub=a8 then o - w else o+w
abbrev Jm:U->Option U
 |.lst us=>a5 (.lst us.reverse)
 |_=>bD
abbrev sets:List Nat->List (Kd×U)->M Unit
 |[],[]=>pure ()
 |i::is,r::rs=>do fq i r;sets is rs
 |_,_=>M.fail
abbrev dz(t:Bool)(is:List Nat)(r:Kd×U):M Unit:=match t,is,r with
 |false,[i],r=>fq i r
 |true,is,(k,.tup xs)=>sets is (xs.map λu=>(kE k,u))
 |_,_,_=>M.fail
abbrev inScope{α:Type}(k:Nat)(m:M α):M α:=λst=>match m (ke k bD++st) with
 |none=>bD
 |some (r,st')=>a5 (r,st'.drop k)
abbrev bP(k:Nat)(t:Bool)(cond:M Bool)(elt:M (Kd×U))(src:List (Kd×U)):List (Kd×U)->List U->M (List U)
 |[],a=>do aA src;pure a
 |x::xs,a=>do
  aA src
  let r <-inScope k (dz t (dV k) x >>= λ_=>cond >>= λb=>if b=a8 then(elt >>= λr=>lift r >>= λu=>pure (a5 u)) else pure bD)
  match r with
  |some u=>if a.length<b6 then bP k t cond elt src xs (a++[u]) else M.fail
  |none=>bP k t cond elt src xs a
abbrev BJ:Kd×U->Option (Kd×U)
 |(_,.int i)=>a5 (.loc,.int (-i))
 |_=>bD
abbrev E6(x:Kd×U):M (Option Int):=match x.2 with
 |.int i=>pure (a5 i)
 |_=>M.fail
abbrev Qi:U->M Unit
 |.lst _=>pure ()
 |_=>M.fail
section
variable(Γ:Tab)
mutual
noncomputable def ev:E->M (Kd×U)
 |.var i=>dW i
 |.cst u=>pure (.loc,u)
 |.Mc _ u=>pure (.loc,u)
 |.bin op a b=>do
  let x <-ev a
  let y <-ev b
  aA [x,y]
  M.Kb (LO op x y)
 |.cmp op a b=>do
  let x <-ev a
  let y <-ev b
  aA [x,y]
  let c <-M.Kb (bK op x.2 y.2)
  pure (.loc,.bl c)
 |.Nu _ _ _ _ _=>M.fail
 |.and es=>jv es
 |.or _=>M.fail
 |.not a=>do
  let x <-ev a
  match x.2 with
  |.bl c=>pure (.loc,.bl !c)
  |_=>M.fail
 |.ite c a b=>do
  let p <-JP c
  if p=a8 then ev a else ev b
 |.tup es=>do
  let rs <-aT es
  aA rs
  let us <-dc rs
  if us.length<=b6 then pure (.loc,.tup us) else M.fail
 |.lst es=>do
  let rs <-aT es
  aA rs
  let us <-dc rs
  if us.length<=b6 then pure (.own,.lst us) else M.fail
 |.L0 r=>pure (.own,.JF [] [])
 |.idx a b=>do
  let x <-ev a
  let y <-ev b
  aA [x,y]
  M.Kb (iV x y.2)
 |.K_ a lo hi=>do
  let x <-ev a
  let l <-Pj lo
  let h <-Pj hi
  aA [x]
  M.Kb (gH x l h)
 |.bi f es=>do
  let rs <-aT es
  aA rs
  M.Kb (KP f rs)
 |.Oh f es=>do
  let rs <-aT es
  aA rs
  M.Kb (tD f rs)
 |.MB m a es=>do
  let x <-ev a
  let rs <-aT es
  aA (x::rs)
  M.Kb (k_ m x.2 rs)
 |.call f es=>do
  let rs <-aT es
  aA rs
  mj Γ f (rs.map (·.2))
 |.comp k t g src cond e=>do
  let rs <-aT src
  aA rs
  let xs <-M.Kb (Mo g rs)
  let us <-bP k t (aR cond) (ev e) rs xs []
  pure (.own,.lst us)
 |.neg a=>do
  let x <-ev a
  M.Kb (BJ x)
 |.bad=>M.fail
 |.inD _ _ _=>M.fail
 |.Qf i=>yK i
 |.Mm i k d=>do
  let x <-dW i
  U3 x.2
  let y <-ev k
  let y <-lh y
  let z <-ev d
  let u <-lift z
  let x <-dW i
  M.Kb (BI x y u)
 |.Qg i=>do
  let x <-dW i
  M.Kb (yJ x.2)
 |.Kq i=>LA i >>= λp=>pure (.loc,p.1)
 |.MO i=>LA i >>= λp=>pure (.loc,.int (p.2.length:Nat))
 |.LK _=>M.fail
 |.la i=>TM.la i
 |.Ku f i es j=>LA i >>= λ_=>(aT es >>= λr1=>aT j >>= λr2=>pure (r1++r2)) >>= λrs=>aA rs >>= λ_=>gJ Γ f es.length i rs
 |.Kl f _ i es=>LA i >>= λ_=>aT es >>= λrs=>aA rs >>= λ_=>gJ Γ f 0 i rs
 |.Ss _ _ _=>M.fail
 |.fst es=>M.fail
 |.Sr a T=>M.fail
noncomputable def aT:List E->M (List (Kd×U))
 |[]=>pure []
 |e::es=>do let r <-ev e;let rs <-aT es;pure (r::rs)
noncomputable def Pj:List E->M (Option Int)
 |[]=>pure bD
 |[e]=>do let x <-ev e;E6 x
 |_=>M.fail
noncomputable def jv:List E->M (Kd×U)
 |[]=>M.fail
 |[e]=>ev e
 |e::es=>do
  let x <-ev e
  match x.2 with
  |.bl a8=>jv es
  |.bl bL=>pure (.loc,.bl bL)
  |_=>M.fail
noncomputable def JP:E->M Bool
 |.and es=>aR es
 |.or es=>gK es
 |.not a=>do let b <-JP a;pure !b
 |.cmp op a b=>do
  let x <-ev a
  let y <-ev b
  aA [x,y]
  M.Kb (bK op x.2 y.2)
 |.var i=>do let x <-dW i;M.Kb (tE x.2)
 |.bi f es=>do
  let rs <-aT es
  aA rs
  let r <-M.Kb (KP f rs)
  M.Kb (tE r.2)
 |.call f es=>do
  let rs <-aT es
  aA rs
  let r <-mj Γ f (rs.map (·.2))
  M.Kb (tE r.2)
 |.Nu o1 o2 a b c=>do
  let x <-ev a
  let y <-ev b
  aA [x,y]
  let p <-M.Kb (bK o1 x.2 y.2)
  if p=a8 then do
   let z <-ev c
   aA [y,z]
   M.Kb (bK o2 y.2 z.2)
  else pure bL
 |.inD neg a i=>do
  let x <-ev a
  let y <-lh x
  let d <-ju i
  pure (U2 neg y d.1)
 |.LK i=>LA i >>= λp=>if J4 50 (.lst p.2)=a8 then pure p.2.isEmpty else M.fail
 |.Ku f i es e=>(LA i >>= λ_=>(aT es >>= λr1=>aT e >>= λr2=>pure (r1++r2)) >>= λrs=>aA rs >>= λ_=>gJ Γ f es.length i rs) >>= λr=>M.Kb (tE r.2)
 |_=>M.fail
noncomputable def aR:List E->M Bool
 |[]=>pure a8
 |[e]=>JP e
 |e::es=>do let b <-JP e;if b=a8 then aR es else pure bL
noncomputable def gK:List E->M Bool
 |[]=>pure bL
 |[e]=>JP e
 |e::es=>do let b <-JP e;if b=a8 then pure a8 else gK es
end
inductive Fl where|nx|rt (k:Kd) (u:U)|bk|ct
abbrev retS:Kd×U->M Fl
 |(.own,u)=>pure (.rt .own u)
 |(.loc,u)=>pure (.rt .loc u)
 |(.any,u)=>if JW u=a8 then pure (.rt .loc u) else pure (.rt .any u)
 |(.bor j,_)=>λst=>match st[j]? with
  |some (a5 (.own,u))=>a5 (.ok (.rt .own u),st.set j bD)
  |_=>bD
 |(.io,_)=>M.fail
 |(.A',_)=>M.fail
abbrev forM(t:Bool)(is:List Nat)(body:M Fl)(src:List (Kd×U)):List (Kd×U)->M Fl
 |[]=>do aA src;pure .nx
 |x::xs=>do
  aA src
  dz t is x
  let f <-body
  match f with
  |.nx=>forM t is body src xs
  |.ct=>forM t is body src xs
  |.bk=>pure .nx
  |.rt k u=>pure (.rt k u)
abbrev iX(c:M Bool)(body:M Fl):Nat->M Fl
 |0=>M.fail
 |n+1=>do
  let b <-c
  if b=a8 then do
   let f <-body
   match f with
   |.nx=>iX c body n
   |.ct=>iX c body n
   |.bk=>pure .nx
   |.rt k u=>pure (.rt k u)
  else pure .nx
abbrev NU(Γ:Tab):Su->M (Option Str)
 |.mt f _ i es=>LA i >>= λ_=>aT Γ es >>= λrs=>aA rs >>= λ_=>kN Γ f i rs
 |.ite c a b=>JP Γ c >>= λp=>if p=a8 then NU Γ a else NU Γ b
abbrev yL(j k:Nat)(bs:List Bool):M Fl:=λst=>match st[j]? with
  |some bD=>if k≠j then(fq k (.own,.lst (bs.map .bl)) >>= λ_=>pure .nx) st else bD
  |_=>bD
abbrev tF(j k:Nat)(a:List (Str×List Bool)):Option Str->M Fl
 |none=>pure .nx
 |some c=>match a.lookup c with
  |some bs=>yL j k bs
  |none=>M.fail
abbrev modS(i:Nat)(f:U->Option U):M Unit:=λst=>match st[i]? with
 |some (a5 (k,u))=>if k.root=a8 then match f u with
   |some u'=>a5 (.ok (),st.set i (a5 (k,u')))
   |none=>bD
  else bD
 |_=>bD
abbrev yM(u:U):U->Option U
 |.lst xs=>if xs.length<b6 then a5 (.lst (xs++[u])) else bD
 |_=>bD
abbrev nU:Kd×U->U->Option U
 |(k,.lst ys),.lst xs=>if xs.length+ys.length<=b6/\eB k ys=a8 then a5 (.lst (xs++ys)) else bD
 |(k,.tup ys),.lst xs=>if xs.length+ys.length<=b6/\eB k ys=a8 then a5 (.lst (xs++ys)) else bD
 |_,_=>bD
abbrev gr(x u:U):U->Option U
 |.JF ks vs=>match x with
  |.str y=>if ks.length<b6 then a5 (.JF (dput ks vs y u).1 (dput ks vs y u).2) else bD
  |_=>bD
 |.lst xs=>match x with
  |.int i=>(M5 xs.length i).map λj=>.lst (xs.set j u)
  |_=>bD
 |_=>bD
abbrev u_:List U->U->Option U
 |[u,x]=>gr x u
 |_=>λ_=>bD
abbrev fuel:Nat:=1000000000000
mutual
noncomputable def Qj:S->Nat->Bool
 |.set i _,j=>b7 (j≠i)
 |.MP is _,j=>b7 (j∉is)
 |.ite _ a b,j=>LB a j&&LB b j
 |.JZ _ is _ _ body,j=>b7 (j∉is)&&LB body j
 |.Ph _ body,j=>LB body j
 |.put _ _ _,_=>a8
 |.app _ _,_=>a8
 |.ext _ _,_=>a8
 |.bad,_=>a8
 |.newD i,j=>b7 (j≠i)
 |.putD _ _ _,_=>a8
 |.L3 _ _ _,_=>a8
 |.aug _ _ _ _,_=>a8
 |.Sv _,_=>a8
 |.exp _,_=>a8
 |.ret _,_=>a8
 |.Oi,_=>a8
 |.brk,_=>a8
 |.cnt,_=>a8
 |.Sw,_=>a8
 |.Ri _,_=>a8
 |.M' _ _,_=>a8
 |.Mn _,_=>a8
 |.LL i,j=>b7 (j≠i)
 |.MQ _ _,_=>a8
 |.MR _,_=>a8
 |.knd _,_=>a8
 |.Oj _ _ _ j k _ _,n=>b7 (n≠k)&&b7 (n≠j)
noncomputable def LB:List S->Nat->Bool
 |[],_=>a8
 |s::ss,j=>Qj s j&&LB ss j
end
abbrev vb(rs:List (Kd×U))(is:List Nat)(body:List S):Bool:=rs.all λr=>match r.1 with
 |.bor j=>b7 (j∉is)&&LB body j
 |_=>a8
mutual
noncomputable def exec:S->M Fl
 |.set i e=>do let r <-ev Γ e;fq i r;pure .nx
 |.MP is e=>do let r <-ev Γ e;dz a8 is r;pure .nx
 |.put i k v=>do
  let r <-ev Γ v
  let _ <-dW i
  let x <-ev Γ k
  let us <-dc [r,x]
  modS i (u_ us)
  pure .nx
 |.app i e=>do
  let x <-dW i
  Qi x.2
  let r <-ev Γ e
  let u <-lift r
  modS i (yM u)
  pure .nx
 |.ext i e=>do
  let x <-dW i
  Qi x.2
  let r <-ev Γ e
  modS i (nU r)
  pure .nx
 |.bad=>M.fail
 |.newD i=>do Dw i;pure .nx
 |.putD i k v=>do
  let r <-ev Γ v
  let d <-ju i
  let x <-ev Γ k
  let y <-lh x
  mn i y r
  pure .nx
 |.L3 i k v=>do
  let _ <-ju i
  let x <-ev Γ k
  let y <-lh x
  let d <-ju i
  if y∈d.1 then do
   let r <-ev Γ v
   let u <-lift r
   mq i y u
   pure .nx
  else M.fail
 |.aug sub i k v=>do
  let _ <-qV i
  let y <-ev Γ k
  let j <-wI y
  let us <-qV i
  let o <-M.Kb (qW us j)
  let z <-ev Γ v
  let w <-wI z
  modS i (gr (.int j) (.int (wJ sub o w)))
  pure .nx
 |.Sv i=>do
  modS i Jm
  pure .nx
 |.exp e=>do let _ <-ev Γ e;pure .nx
 |.ret e=>do let r <-ev Γ e;retS r
 |.Oi=>pure (.rt .loc .JN)
 |.ite c a b=>do let p <-JP Γ c;if p=a8 then execs a else execs b
 |.JZ t is f src body=>do
  let rs <-aT Γ src
  aA rs
  let xs <-M.Kb (Mo f rs)
  if vb rs is body=a8 then forM t is (execs body) rs xs else M.fail
 |.Ph c body=>iX (JP Γ c) (execs body) fuel
 |.brk=>pure .bk
 |.cnt=>pure .ct
 |.Sw=>pure .nx
 |.Ri _=>M.fail
 |.M' c e=>do let _ <-ev Γ e;pure (.rt .io (.str c))
 |.Mn _=>M.fail
 |.LL i=>λst=>a5 (.ok .nx,st.set i (a5 (.A',.ob (.tup []) [])))
 |.MQ i e=>ev Γ e >>= λr=>lift r >>= λu=>Om i (λ_ us=>a5 (u,us)) >>= λ_=>pure .nx
 |.MR i=>Om i BH >>= λ_=>pure .nx
 |.knd _=>M.fail
 |.Oj g _ h j k _ _=>NU Γ g >>= tF j k h
noncomputable def execs:List S->M Fl
 |[]=>pure .nx
 |s::ss=>do
  let f <-exec s
  match f with
  |.nx=>execs ss
  |f=>pure f
end
end
structure Fn where
 name:Str
 np:Nat
 ns:Nat
 body:List S
abbrev start(us:List U)(n:Nat):aw:=us.map (λu=>a5 (if JW u=a8 then Kd.loc else Kd.any,u))++ke (n - us.length) bD
abbrev bX(Γ:Tab)(fn:Fn)(us:List U):Option (Ex (Kd×U)):=if us.length=fn.np then match execs Γ fn.body (start us fn.ns) with
  |some (.ok (.rt .own u),_)=>a5 (.ok (.own,u))
  |some (.ok (.rt .loc u),_)=>a5 (.ok (.loc,u))
  |some (.ok (.rt .any u),_)=>a5 (.ok (.any,u))
  |some (.ok .nx,_)=>a5 (.ok (.loc,.JN))
  |some (.ok (.rt .io (.str c)),_)=>a5 (.exc c)
  |_=>bD
 else bD
abbrev E7(is:List Nat)(us:List U)(n:Nat):aw:=(us.zipIdx.map λp=>a5 (if p.2∈is then Kd.io else if JW p.1=a8 then Kd.loc else Kd.any,p.1))++ke (n - us.length) bD
abbrev WR:List Nat->aw->Option (List U)
 |[],_=>a5 []
 |i::is,st=>match st[i]? with
  |some (a5 (.io,u))=>(WR is st).map (u::·)
  |_=>bD
abbrev Zf:Fl->Option (Kd×U)
 |.rt .own u=>a5 (.own,u)
 |.rt .loc u=>a5 (.loc,u)
 |.nx=>a5 (.loc,.JN)
 |_=>bD
abbrev Jn(Γ:Tab)(fn:Fn)(is:List Nat)(body:List S)(us:List U):Option (Ex (Kd×U)):=if us.length=fn.np then match execs Γ body (E7 is us fn.ns) with
  |some (.ok f,st)=>(Zf f).bind λr=>(WR is st).map λws=>.ok (r.1,.tup (r.2::ws))
  |_=>bD
 else bD
abbrev Fn.io(fn:Fn):Option (List Nat×List S):=match fn.body with
 |.Ri is::body=>a5 (is,body)
 |_=>bD
abbrev bh(p:Nat)(us:List U)(n:Nat):aw:=(us.zipIdx.map λq=>a5 (if q.2=p then Kd.A' else if JW q.1=a8 then Kd.loc else Kd.any,q.1))++ke (n - us.length) bD
abbrev Rj:Fl->Option (Kd×U)
 |.rt .own u=>a5 (.own,u)
 |.rt .loc u=>a5 (.loc,u)
 |.rt .io (.str c)=>a5 (.io,.str c)
 |.nx=>a5 (.loc,.JN)
 |_=>bD
abbrev Qk(p:Nat)(st:aw):Option U:=match st[p]? with
 |some (a5 (.A',.ob u us))=>a5 (.ob u us)
 |_=>bD
abbrev dP(Γ:Tab)(fn:Fn)(p:Nat)(body:List S)(us:List U):Option (Ex (Kd×U)):=if us.length=fn.np/\p<fn.np then match execs Γ body (bh p us fn.ns) with
  |some (.ok f,st)=>(Rj f).bind λr=>(Qk p st).map λo=>.ok (r.1,.tup [r.2,o])
  |_=>bD
 else bD
abbrev Fn.ob(fn:Fn):Option (Nat×List S):=match fn.body with
 |.Mn p::body=>a5 (p,body)
 |_=>bD
abbrev mr(Γ:Tab)(fn:Fn)(us:List U):Option (Ex (Kd×U)):=match fn.ob with
 |some (p,body)=>dP Γ fn p body us
 |none=>match fn.io with
  |some (is,body)=>Jn Γ fn is body us
  |none=>bX Γ fn us
abbrev J9(P:List Fn):Nat->Tab
 |0=>λ_ _=>bD
 |d+1=>λf us=>match P.find? λfn=>b7 (fn.name=f) with
  |some fn=>mr (J9 P d) fn us
  |none=>bD
end TM
namespace TM
open PySem L2 PyProof.Rows
structure Me where
 fn:Fn
 x:Str
 i:Nat
 N:List Str
 a:df
 c:df
 m:cK
 cr:Obj
abbrev Me.fd(top:Nat->LX)(m:Me):QV:=PySem.W.fnOf m.x m.fn.name (hU (top m.i)) (cu (top m.i)) (aE (top m.i)) .none .none .none m.m bD (.ref m.c) .none
abbrev Me.fo(top:Nat->LX)(m:Me):Obj:=#[.type "function",bD,.func (m.fd top),#v[]]
@[reducible]noncomputable def Gx:=Obj×List (df×Obj)
abbrev adr(ms:List Me)(xa:List df):List df:=3::(ms.flatMap (λm=>[m.c,m.a])++xa)
abbrev Kz(top:Nat->LX)(g:Gx)(ms:List Me):PySem.W.Frag:=(3,g.1)::(ms.flatMap (λm=>[(m.c,m.cr),(m.a,m.fo top)])++g.2)
def vG(top:Nat->LX)(g:Gx)(ms:List Me)(xa:List df)(h:g.2.map (·.1)=xa):adr ms xa=(Kz top g ms).map (·.1):=by
 unfold adr Kz;rw[d6,kj,List.map_flatMap,h];rfl
abbrev NZ(n q:Str)(k l c:Nat)(r s:df)(x y z:cK)(a b t:Nat):Obj:=#[.type "code",bD,.fields #v[.str n k,.str q (k+1),.str "/claim/cut.py" (k+2),.int l 0,.int c 0,.int 0 0,.int 0 0,.int 3 0,.ref r,.bool a8,.int t 0,.ref s,.none,x,y,z,.int a 0,.int l 0,.str "/claim/cut.py" b],#v[]]
abbrev co(n:Str)(k l c:Nat)(r s:df)(x y z:cK)(a b t:Nat):Obj:=NZ n n k l c r s x y z a b t
abbrev ge(P:U0)(x:Str)(k:Nat)(v:cK):DictEntry:=#[mN P x,.str x k,v]
end TM
namespace TM
open PySem L2
abbrev xn:Fn:=#["_law_mix",2,3,[.set 2 (.bin .add (.bin .add (.bin .mul (.bin .add (.bin .mod (.var 0) (.bin .pow (.cst (.int 10)) (.cst (.int 15)))) (.cst (.int 1))) (.cst (.int 48271))) (.bin .mul (.bin .mul (.var 1) (.var 1)) (.cst (.int 16807)))) (.bin .mul (.var 1) (.cst (.int 7919)))),.ret (.bin .mod (.bin .mul (.bin .mod (.var 2) (.cst (.int 2147483647))) (.cst (.int 69621))) (.cst (.int 2147483629)))]]
abbrev vN:Fn:=#["_law_cell",2,3,[.ite (.cmp .lt (.var 1) (.bi .len [.var 0])) [.ret (.idx (.var 0) (.var 1))] [],.set 2 (.cst (.int 0)),.ite (.cmp .gt (.bi .len [.var 0]) (.cst (.int 0))) [.set 2 (.idx (.var 0) (.bin .mod (.var 1) (.bi .len [.var 0])))] [],.ret (.bin .add (.bin .mul (.cst (.int 2)) (.call "_law_mix" [.var 2,.var 1])) (.cst (.int 1)))]]
abbrev p_:Fn:=#["_law_drawn",2,5,[.set 2 (.lst []),.set 3 (.bin .Ml (.var 0) (.cst (.int 2))),.JZ bL [4] .Kg [.var 1] [.ite (.cmp .eq (.bin .mod (.var 0) (.cst (.int 2))) (.cst (.int 0))) [.app 2 (.bin .mod (.var 3) (.cst (.int 64))),.set 3 (.bin .Ml (.var 3) (.cst (.int 64)))] [.app 2 (.bin .mod (.bin .Ml (.call "_law_mix" [.var 0,.var 4]) (.cst (.int 7))) (.cst (.int 4096)))]],.ret (.var 2)]]
end TM
namespace TM
open PySem L2 J2
abbrev fNames:Fn:=#["_law_names",3,5,[.set 3 (.lst []),.JZ bL [4] .Kg [.var 2] [.app 3 (.call "_law_name" [.call "_law_drawn" [.call "_law_cell" [.var 0,.bin .add (.var 1) (.var 4)],.cst (.int 12)],.var 3])],.ret (.var 3)]]
abbrev kS:Fn:=#["_law_told",2,6,[.set 2 (.bi .len [.var 1]),.ite (.and [.cmp .gt (.bin .mod (.idx (.var 0) (.cst (.int 2))) (.cst (.int 3))) (.cst (.int 0)),.cmp .gt (.bin .mod (.idx (.var 0) (.cst (.int 0))) (.bi .len [.var 1])) (.cst (.int 0))]) [.set 2 (.bin .mod (.idx (.var 0) (.cst (.int 0))) (.bi .len [.var 1]))] [],.set 3 (.lst []),.JZ bL [4] .Kg [.idx (.lst [.cst (.int 0),.cst (.int 0),.cst (.int 1),.cst (.int 1),.cst (.int 1),.cst (.int 2),.cst (.int 2),.cst (.int 2),.cst (.int 3),.cst (.int 8)]) (.bin .mod (.idx (.var 0) (.cst (.int 1))) (.cst (.int 10)))] [.set 5 (.idx (.var 1) (.bin .mod (.idx (.var 0) (.bin .add (.cst (.int 3)) (.var 4))) (.var 2))),.ite (.cmp .JG (.var 5) (.var 3)) [.app 3 (.var 5)] []],.ret (.bi .tuple [.var 3])]]
end TM
namespace KL
open PySem L2 TM
abbrev dF:Fn:=#["gathered",1,4,[.newD 1,.JZ a8 [2,3] .seq [.var 0] [.ite (.inD a8 (.var 2) 1) [.putD 1 (.var 2) (.lst [])] [],.L3 1 (.var 2) (.var 3)],.ret (.Qf 1)]]
abbrev bj:Fn:=#["places_that_tell",1,4,[.set 1 (.lst []),.JZ a8 [2,3] .ON [.var 0] [.ext 1 (.comp 1 bL .seq [.idx (.var 3) (.cst (.int 1))] [] (.tup [.var 0,.var 3]))],.ret (.call "gathered" [.var 1])]]
abbrev cY:Fn:=#["new_steps",3,6,[.set 3 (.L0 bL),.JZ bL [4] .seq [.var 1] [.set 5 (.idx (.idx (.var 0) (.var 4)) (.cst (.int 0))),.ite (.and [.cmp .JG (.var 5) (.var 2),.cmp .JG (.var 5) (.var 3)]) [.put 3 (.var 5) (.var 4)] []],.ret (.Qg 3)]]
abbrev bt:Fn:=#["steps_in_rounds",1,10,[.set 1 (.call "places_that_tell" [.var 0]),.set 2 (.comp 1 bL .seq [.var 0] [] (.bi .len [.idx (.var 0) (.cst (.int 1))])),.set 3 (.L0 bL),.set 4 (.lst []),.set 5 (.comp 2 a8 .ON [.var 2] [.cmp .eq (.var 1) (.cst (.int 0))] (.var 0)),.Ph (.cmp .ne (.var 5) (.lst [])) [.set 6 (.call "new_steps" [.var 0,.var 5,.var 3]),.set 5 (.lst []),.JZ a8 [7,8] .seq [.var 6] [.put 3 (.var 7) (.cst (.bl a8)),.JZ bL [9] .seq [.Mm 1 (.var 7) (.lst [])] [.aug a8 2 (.var 9) (.cst (.int 1)),.ite (.cmp .eq (.idx (.var 2) (.var 9)) (.cst (.int 0))) [.app 5 (.var 9)] []]],.ite (.cmp .ne (.var 6) (.lst [])) [.app 4 (.var 6)] []],.ret (.var 4)]]
abbrev fU:Fn:=#["order",1,3,[.set 1 (.lst []),.JZ bL [2] .seq [.call "steps_in_rounds" [.var 0]] [.ext 1 (.var 2)],.ret (.var 1)]]
abbrev fD:Fn:=#["learnt",1,1,[.ret (.bi .sorted [.comp 2 a8 .seq [.call "order" [.var 0]] [] (.var 0)])]]
end KL
namespace K
open PySem L2 TM
abbrev top(i:Nat):LX:=if i<1000 then PySem.Challenge.pw_primer_k53_shelves_refused.main.body.getD i (.Pass #[0,0,0,0]) else match PySem.Challenge.pw_primer_k53_shelves_refused.main.body.getD (i / 1000 - 1) (.Pass #[0,0,0,0]) with|.ClassDef _ _ _ b _ _ _ _ _ _ _=>b.getD (i % 1000) (.Pass #[0,0,0,0])|_=>.Pass #[0,0,0,0]
abbrev iy:Fn:=#["is_stem",1,1,[.ite (.or [.cmp .eq (.var 0) (.cst (.str "")),.cmp .gt (.bi .len [.var 0]) (.Mc "LONGEST_STEM" (.int 8))]) [.ret (.cst (.bl bL))] [],.ret (.bi .all [.comp 1 bL .seq [.var 0] [] (.cmp .isin (.var 0) (.Mc "LETTERS" (.str "abcdefghijklmnopqrstuvwxyz")))])]]
abbrev cH:Fn:=#["is_later_sense",1,1,[.ret (.cmp .isin (.var 0) (.comp 1 bL .LZ [.bin .add (.Mc "FIRST_SENSE" (.int 1)) (.cst (.int 1)),.bin .add (.Mc "LAST_SENSE" (.int 99)) (.cst (.int 1))] [] (.bi .str [.var 0])))]]
abbrev iz:Fn:=#["is_word",1,1,[.ite (.cmp .JG (.cst (.str "/")) (.var 0)) [.ret (.call "is_stem" [.var 0])] [],.ret (.and [.call "is_stem" [.call "stem_of" [.var 0]],.call "is_later_sense" [.call "number_of" [.var 0]]])]]
abbrev kq:Fn:=#["stem_of",1,1,[.ret (.idx (.MB .partition (.var 0) [.cst (.str "/")]) (.cst (.int 0)))]]
abbrev gZ:Fn:=#["number_of",1,1,[.ret (.idx (.MB .partition (.var 0) [.cst (.str "/")]) (.cst (.int 2)))]]
abbrev jL:Fn:=#["is_row",1,2,[.set 1 (.idx (.var 0) (.cst (.int 1))),.ite (.or [.cmp .gt (.bi .len [.var 1]) (.Mc "MOST_TOLD" (.int 8)),.cmp .lt (.Oh .jU [.var 1]) (.bi .len [.var 1])]) [.ret (.cst (.bl bL))] [],.ret (.and [.call "is_word" [.idx (.var 0) (.cst (.int 0))],.bi .all [.comp 1 bL .seq [.var 1] [] (.call "is_word" [.var 0])]])]]
abbrev cD:Fn:=#["in_one_order",1,1,[.ret (.tup [.idx (.var 0) (.cst (.int 0)),.bi .tuple [.bi .sorted [.idx (.var 0) (.cst (.int 1))]]])]]
abbrev jM:Fn:=#["alike",2,2,[.ret (.cmp .eq (.call "in_one_order" [.var 0]) (.call "in_one_order" [.var 1]))]]
noncomputable abbrev dF:Fn:=KL.dF
noncomputable abbrev bj:Fn:=KL.bj
noncomputable abbrev cY:Fn:=KL.cY
noncomputable abbrev bt:Fn:=KL.bt
noncomputable abbrev fU:Fn:=KL.fU
noncomputable abbrev fD:Fn:=KL.fD
abbrev dh:Fn:=#["places_alike",2,2,[.ret (.comp 2 a8 .ON [.var 0] [.call "alike" [.var 1,.var 3]] (.var 0))]]
abbrev cz:Fn:=#["gained_and_lost",2,6,[.set 2 (.call "learnt" [.var 0]),.set 3 (.call "learnt" [.var 1]),.set 4 (.comp 1 bL .seq [.var 3] [.cmp .JG (.var 0) (.var 3)] (.var 0)),.set 5 (.comp 1 bL .seq [.var 2] [.cmp .JG (.var 0) (.var 4)] (.var 0)),.ret (.tup [.var 4,.var 5])]]
abbrev Al:Fn:=#["Shelf.__init__",1,1,[.bad,.bad]]
abbrev fE:Fn:=#["Shelf.book",1,1,[.Mn 0,.ret (.Kq 0)]]
abbrev cm:Fn:=#["Shelf.learnt_now",1,1,[.Mn 0,.ret (.call "learnt" [.Kq 0])]]
abbrev eN:Fn:=#["Shelf.deeds",1,1,[.Mn 0,.ret (.MO 0)]]
abbrev cE:Fn:=#["Shelf.put",3,4,[.Mn 0,.set 3 (.tup [.var 1,.bi .tuple [.var 2]]),.ite (.or [.not (.call "is_row" [.var 3]),.cmp .ne (.call "places_alike" [.Kq 0,.var 3]) (.lst [])]) [.M' "Unfit" (.cst (.str "this is no row, or one alike to it stands there"))] [],.ite (.cmp .ge (.bi .len [.Kq 0]) (.Mc "MOST_ROWS" (.int 60))) [.M' "TooMany" (.cst (.str "no more rows can be put in"))] [],.ret (.Kl "Shelf.do_deed" "do_deed" 0 [.bin .add (.Kq 0) (.tup [.var 3])])]]
abbrev cZ:Fn:=#["Shelf.take",3,4,[.Mn 0,.set 3 (.call "places_alike" [.Kq 0,.tup [.var 1,.bi .tuple [.var 2]]]),.ite (.cmp .eq (.var 3) (.lst [])) [.M' "NoRow" (.cst (.str "no row alike to this one stands there"))] [],.ret (.Kl "Shelf.do_deed" "do_deed" 0 [.bin .add (.K_ (.Kq 0) [] [.idx (.var 3) (.cst (.int 0))]) (.K_ (.Kq 0) [.bin .add (.idx (.var 3) (.cst (.int 0))) (.cst (.int 1))] [])])]]
abbrev c7:Fn:=#["Shelf.back",1,1,[.Mn 0,.ite (.LK 0) [.M' "NoDeed" (.cst (.str "no deed is left"))] [],.ret (.Kl "Shelf.turn_to" "turn_to" 0 [.la 0])]]
abbrev di:Fn:=#["Shelf.do_deed",2,2,[.Mn 0,.MR 0,.ret (.Kl "Shelf.turn_to" "turn_to" 0 [.var 1])]]
abbrev dk:Fn:=#["Shelf.turn_to",2,3,[.Mn 0,.set 2 (.call "gained_and_lost" [.Kq 0,.var 1]),.MQ 0 (.var 1),.ret (.var 2)]]
noncomputable abbrev oN:Fn:=TM.xn
noncomputable abbrev nh:Fn:=TM.vN
noncomputable abbrev kU:Fn:=TM.p_
abbrev ni:Fn:=#["_law_name",2,6,[.set 2 (.cst (.str "abcdefghijklmnopqrstuvwxyz")),.set 3 (.MB .join (.cst (.str "")) [.comp 1 bL .Kg [.bin .add (.cst (.int 1)) (.bin .mod (.idx (.var 0) (.cst (.int 0))) (.cst (.int 8)))] [] (.idx (.var 3) (.bin .mod (.idx (.var 1) (.bin .add (.cst (.int 4)) (.var 0))) (.cst (.int 26))))]),.ite (.cmp .gt (.bi .len [.var 1]) (.cst (.int 0))) [.set 4 (.idx (.MB .split (.idx (.var 1) (.bin .mod (.idx (.var 0) (.cst (.int 1))) (.bi .len [.var 1]))) [.cst (.str "/")]) (.cst (.int 0))),.ite (.cmp .eq (.bin .mod (.idx (.var 0) (.cst (.int 2))) (.cst (.int 4))) (.cst (.int 1))) [.set 3 (.K_ (.bin .add (.var 4) (.var 3)) [] [.cst (.int 8)])] [],.ite (.cmp .eq (.bin .mod (.idx (.var 0) (.cst (.int 2))) (.cst (.int 4))) (.cst (.int 2))) [.set 3 (.bin .add (.bin .add (.var 4) (.cst (.str "/"))) (.bi .str [.bin .add (.cst (.int 2)) (.bin .mod (.idx (.var 0) (.cst (.int 3))) (.cst (.int 98)))]))] []] [],.set 5 (.bin .add (.lst [.var 3]) (.comp 1 bL .Kg [.cst (.int 40)] [] (.bin .add (.idx (.var 3) (.bin .Ml (.var 0) (.cst (.int 26)))) (.idx (.var 3) (.bin .mod (.var 0) (.cst (.int 26))))))),.ret (.idx (.comp 1 bL .seq [.var 5] [.cmp .JG (.var 0) (.var 2)] (.var 0)) (.cst (.int 0)))]]
noncomputable abbrev kW:Fn:=TM.fNames
noncomputable abbrev nj:Fn:=TM.kS
abbrev d0:Fn:=#["_law_stands",2,2,[.ret (.cmp .ne (.comp 1 bL .seq [.var 0] [.and [.cmp .eq (.idx (.var 0) (.cst (.int 0))) (.idx (.var 2) (.cst (.int 0))),.cmp .eq (.bi .sorted [.idx (.var 0) (.cst (.int 1))]) (.bi .sorted [.idx (.var 2) (.cst (.int 1))])]] (.var 0)) (.lst []))]]
abbrev dG:Fn:=#["_law_rows",4,8,[.set 4 (.lst []),.JZ bL [5] .Kg [.var 2] [.set 6 (.call "_law_drawn" [.call "_law_cell" [.var 0,.bin .add (.cst (.int 20)) (.var 5)],.cst (.int 11)]),.set 7 (.tup [.idx (.var 1) (.bin .mod (.idx (.var 6) (.cst (.int 0))) (.bi .len [.var 1])),.call "_law_told" [.var 6,.var 1]]),.ite (.not (.call "_law_stands" [.var 4,.var 7])) [.app 4 (.var 7)] []],.ite (.var 3) [.JZ bL [5] .Kg [.cst (.int 64)] [.set 7 (.tup [.bin .add (.cst (.str "full/")) (.bi .str [.bin .add (.cst (.int 2)) (.var 5)]),.tup [.idx (.cst (.str "abcdefgh")) (.bin .mod (.var 5) (.cst (.int 8))),.cst (.str "x"),.cst (.str "y")]]),.ite (.and [.cmp .lt (.bi .len [.var 4]) (.cst (.int 60)),.not (.call "_law_stands" [.var 4,.var 7])]) [.app 4 (.var 7)] []]] [],.ret (.var 4)]]
abbrev kX:Fn:=#["_law_kinds",1,1,[.knd [["Unfit"],["TooMany"],["NoRow"],["NoDeed"],["Lacking","NoText","Unknown","Unlearnt"],["ValueError"]]]]
abbrev aG:Fn:=#["_law_refused",5,7,[.Mn 0,.set 5 (.lst []),.Oj (.ite (.cmp .eq (.var 1) (.cst (.str "put"))) (.mt "Shelf.put" "put" 0 [.var 2,.var 3]) (.ite (.cmp .eq (.var 1) (.cst (.str "take"))) (.mt "Shelf.take" "take" 0 [.var 2,.var 3]) (.mt "Shelf.back" "back" 0 []))) "PrimerError" [("NoDeed",[bL,bL,bL,a8,bL,a8]),("NoRow",[bL,bL,a8,bL,bL,a8]),("TooMany",[bL,a8,bL,bL,bL,a8]),("Unfit",[a8,bL,bL,bL,bL,a8])] 6 5 "_law_kinds" [["Unfit"],["TooMany"],["NoRow"],["NoDeed"],["Lacking","NoText","Unknown","Unlearnt"],["ValueError"]],.ret (.cmp .eq (.var 5) (.lst [.cmp .eq (.var 4) (.cst (.int 0)),.cmp .eq (.var 4) (.cst (.int 1)),.cmp .eq (.var 4) (.cst (.int 2)),.cmp .eq (.var 4) (.cst (.int 3)),.cst (.bl bL),.cst (.bl a8)]))]]
abbrev d9:Fn:=#["_law_learnt",1,5,[.set 1 (.L0 bL),.set 2 (.cst (.bl a8)),.Ph (.var 2) [.set 2 (.cst (.bl bL)),.JZ a8 [3,4] .seq [.var 0] [.ite (.and [.cmp .JG (.var 3) (.var 1),.bi .all [.comp 1 bL .seq [.var 4] [] (.cmp .isin (.var 0) (.var 2))]]) [.put 1 (.var 3) (.cst (.bl a8)),.set 2 (.cst (.bl a8))] []]],.ret (.bi .sorted [.var 1])]]
abbrev fX:Fn:=#["_law_turn",2,4,[.set 2 (.call "_law_learnt" [.var 0]),.set 3 (.call "_law_learnt" [.var 1]),.ret (.tup [.comp 1 bL .seq [.var 3] [.cmp .JG (.var 0) (.var 3)] (.var 0),.comp 1 bL .seq [.var 2] [.cmp .JG (.var 0) (.var 4)] (.var 0)])]]
abbrev bU:Fn:=#["_law_room_again",4,7,[.Mn 0,.set 4 (.bin .add (.K_ (.var 1) [] [.var 2]) (.K_ (.var 1) [.bin .add (.var 2) (.cst (.int 1))] [])),.ite (.cmp .ne (.Kl "Shelf.take" "take" 0 [.idx (.idx (.var 1) (.var 2)) (.cst (.int 0)),.bi .list [.idx (.idx (.var 1) (.var 2)) (.cst (.int 1))]]) (.call "_law_turn" [.var 1,.var 4])) [.ret (.cst (.bl bL))] [],.ite (.cmp .ne (.Kl "Shelf.put" "put" 0 [.idx (.var 3) (.cst (.int 0)),.lst []]) (.call "_law_turn" [.var 4,.bin .add (.var 4) (.lst [.tup [.idx (.var 3) (.cst (.int 0)),.tup []]])])) [.ret (.cst (.bl bL))] [],.ite (.not (.Ku "_law_refused" 0 [] [.cst (.str "put"),.idx (.var 3) (.cst (.int 1)),.lst [],.cst (.int 1)])) [.ret (.cst (.bl bL))] [],.ite (.or [.cmp .ne (.Kl "Shelf.back" "back" 0 []) (.call "_law_turn" [.bin .add (.var 4) (.lst [.tup [.idx (.var 3) (.cst (.int 0)),.tup []]]),.var 4]),.cmp .ne (.Kl "Shelf.back" "back" 0 []) (.call "_law_turn" [.var 4,.var 1])]) [.ret (.cst (.bl bL))] [],.MP [5,6] (.idx (.var 1) (.neg (.cst (.int 1)))),.ite (.cmp .ne (.Kl "Shelf.back" "back" 0 []) (.call "_law_turn" [.var 1,.K_ (.var 1) [] [.neg (.cst (.int 1))]])) [.ret (.cst (.bl bL))] [],.ite (.or [.cmp .ne (.Kl "Shelf.put" "put" 0 [.idx (.var 3) (.cst (.int 1)),.lst [.idx (.var 3) (.cst (.int 0))]]) (.tup [.lst [],.lst []]),.not (.Ku "_law_refused" 0 [] [.cst (.str "put"),.var 5,.bi .list [.var 6],.cst (.int 1)])]) [.ret (.cst (.bl bL))] [],.exp (.Kl "Shelf.back" "back" 0 []),.ret (.cmp .eq (.Kl "Shelf.put" "put" 0 [.var 5,.bi .list [.var 6]]) (.call "_law_turn" [.K_ (.var 1) [] [.neg (.cst (.int 1))],.var 1]))]]
abbrev ei:Fn:=#["_law_bad",3,12,[.set 3 (.lst [.cst (.str ""),.cst (.str " "),.cst (.str "A"),.cst (.str "a/1"),.cst (.str "a/02"),.cst (.str "a/"),.cst (.str "/2"),.cst (.str "abcdefghi"),.cst (.str "a/100"),.cst (.str "a b"),.cst (.str "a/2/3"),.cst (.str "a1"),.cst (.str "*"),.cst (.str "a/0")]),.set 4 (.idx (.var 3) (.bin .mod (.idx (.var 0) (.cst (.int 0))) (.cst (.int 14)))),.set 5 (.idx (.var 2) (.bin .mod (.idx (.var 0) (.cst (.int 1))) (.bi .len [.var 2]))),.set 6 (.lst [.cst (.str "a"),.cst (.str "b"),.cst (.str "c"),.cst (.str "d"),.cst (.str "e"),.cst (.str "f"),.cst (.str "g"),.cst (.str "h"),.cst (.str "i")]),.set 7 (.lst [.tup [.cst (.str "put"),.var 4,.lst [.var 5],.cst (.int 0)],.tup [.cst (.str "put"),.var 5,.lst [.var 5,.var 4],.cst (.int 0)],.tup [.cst (.str "put"),.var 5,.lst [.var 5,.var 5],.cst (.int 0)]]),.set 7 (.bin .add (.var 7) (.lst [.tup [.cst (.str "put"),.var 5,.var 6,.cst (.int 0)],.tup [.cst (.str "take"),.var 4,.lst [.var 5],.cst (.int 2)],.tup [.cst (.str "take"),.var 5,.var 6,.cst (.int 2)]])),.set 8 (.comp 1 bL .seq [.comp 1 bL .LZ [.cst (.int 2),.cst (.int 20)] [] (.bin .add (.cst (.str "spare/")) (.bi .str [.var 0]))] [.cmp .JG (.var 0) (.var 3)] (.var 0)),.set 7 (.bin .add (.var 7) (.lst [.tup [.cst (.str "take"),.var 5,.lst [.var 5,.var 5],.cst (.int 2)],.tup [.cst (.str "take"),.idx (.var 8) (.cst (.int 0)),.lst [.var 5],.cst (.int 2)]])),.ite (.cmp .ne (.var 1) (.lst [])) [.set 9 (.idx (.var 1) (.bin .mod (.idx (.var 0) (.cst (.int 2))) (.bi .len [.var 1]))),.set 10 (.bin .mod (.idx (.var 0) (.cst (.int 3))) (.bin .add (.bi .len [.idx (.var 9) (.cst (.int 1))]) (.cst (.int 1)))),.app 7 (.tup [.cst (.str "put"),.idx (.var 9) (.cst (.int 0)),.Oh .LY [.bin .add (.K_ (.idx (.var 9) (.cst (.int 1))) [.var 10] []) (.K_ (.idx (.var 9) (.cst (.int 1))) [] [.var 10])],.cst (.int 0)]),.app 7 (.tup [.cst (.str "take"),.idx (.var 9) (.cst (.int 0)),.bin .add (.bi .list [.idx (.var 9) (.cst (.int 1))]) (.lst [.idx (.var 8) (.cst (.int 1))]),.cst (.int 2)]),.app 7 (.tup [.cst (.str "take"),.idx (.var 8) (.cst (.int 2)),.bi .list [.idx (.var 9) (.cst (.int 1))],.cst (.int 2)])] [],.ite (.cmp .eq (.bi .len [.var 1]) (.cst (.int 60))) [.app 7 (.tup [.cst (.str "put"),.idx (.var 8) (.cst (.int 3)),.lst [.var 5],.cst (.int 1)]),.app 7 (.tup [.cst (.str "put"),.var 5,.lst [],.ite (.cmp .isin (.tup [.var 5,.tup []]) (.var 1)) (.cst (.int 0)) (.cst (.int 1))])] [],.set 11 (.bin .mod (.idx (.var 0) (.cst (.int 4))) (.bi .len [.var 7])),.ret (.bin .add (.K_ (.var 7) [.var 11] []) (.K_ (.var 7) [] [.var 11]))]]
abbrev nq:Fn:=#["law",1,13,[.set 1 (.call "_law_drawn" [.call "_law_cell" [.var 0,.cst (.int 0)],.cst (.int 9)]),.set 2 (.call "_law_names" [.var 0,.cst (.int 1),.bin .add (.cst (.int 1)) (.bin .mod (.idx (.var 1) (.cst (.int 0))) (.cst (.int 14)))]),.LL 3,.ite (.not (.Ku "_law_refused" 3 [] [.cst (.str "back"),.cst (.str ""),.lst [],.cst (.int 3)])) [.ret (.cst (.bl bL))] [],.set 4 (.call "_law_rows" [.var 0,.var 2,.bin .mod (.idx (.var 1) (.cst (.int 1))) (.cst (.int 41)),.cmp .eq (.bin .mod (.idx (.var 1) (.cst (.int 2))) (.cst (.int 4))) (.cst (.int 1))]),.JZ a8 [5,6] .seq [.var 4] [.exp (.Kl "Shelf.put" "put" 3 [.var 5,.bi .list [.var 6]])],.set 7 (.lst [.Kl "Shelf.book" "book" 3 [],.Kl "Shelf.learnt_now" "learnt_now" 3 [],.Kl "Shelf.deeds" "deeds" 3 []]),.ite (.or [.cmp .ne (.idx (.var 7) (.cst (.int 0))) (.bi .tuple [.var 4]),.cmp .ne (.idx (.var 7) (.cst (.int 2))) (.bi .len [.var 4])]) [.ret (.cst (.bl bL))] [],.JZ a8 [8,5,6,9] .seq [.call "_law_bad" [.K_ (.var 1) [.cst (.int 3)] [],.var 4,.var 2]] [.set 10 (.bi .list [.var 6]),.ite (.or [.not (.Ku "_law_refused" 3 [] [.var 8,.var 5,.var 10,.var 9]),.cmp .ne (.var 10) (.var 6)]) [.ret (.cst (.bl bL))] [],.ite (.cmp .ne (.lst [.Kl "Shelf.book" "book" 3 [],.Kl "Shelf.learnt_now" "learnt_now" 3 [],.Kl "Shelf.deeds" "deeds" 3 []]) (.var 7)) [.ret (.cst (.bl bL))] []],.set 11 (.comp 1 bL .seq [.comp 1 bL .LZ [.cst (.int 2),.cst (.int 20)] [] (.bin .add (.cst (.str "spare/")) (.bi .str [.var 0]))] [.cmp .JG (.var 0) (.var 3)] (.var 0)),.ite (.and [.cmp .eq (.bi .len [.var 4]) (.cst (.int 60)),.not (.Ku "_law_room_again" 3 [] [.var 4,.bin .mod (.idx (.var 1) (.cst (.int 8))) (.cst (.int 60)),.var 11])]) [.ret (.cst (.bl bL))] [],.ite (.cmp .ne (.lst [.Kl "Shelf.book" "book" 3 [],.Kl "Shelf.learnt_now" "learnt_now" 3 [],.Kl "Shelf.deeds" "deeds" 3 []]) (.var 7)) [.ret (.cst (.bl bL))] [],.JZ bL [12] .Kg [.bi .len [.var 4]] [.exp (.Kl "Shelf.back" "back" 3 [])],.ret (.and [.Ku "_law_refused" 3 [] [.cst (.str "back"),.cst (.str ""),.lst [],.cst (.int 3)],.cmp .eq (.Kl "Shelf.book" "book" 3 []) (.tup []),.cmp .eq (.Kl "Shelf.deeds" "deeds" 3 []) (.cst (.int 0))])]]
abbrev prog:List Fn:=[iy,cH,iz,kq,gZ,jL,cD,jM,dF,bj,cY,bt,fU,fD,dh,cz,Al,fE,cm,eN,cE,cZ,c7,di,dk,oN,nh,kU,ni,kW,nj,d0,dG,kX,aG,d9,fX,bU,ei,nq]
end K
namespace K
open PySem L2 TM PySem.W PyProof.Rows
abbrev m0:cK:=.str "primer.words" 335
abbrev m1:cK:=.str "primer.books" 378
abbrev m2:cK:=.str "primer.learning" 415
abbrev m3:cK:=.str "primer.shelf" 456
abbrev m4:cK:=.str "law_primer_k53_shelves_refused" 564
abbrev ml:Me:=#[nq,"law",52,["_law_script","_law_drawn_here","_law_names_here","_law_shelf","_law_rows_here","_law_word","_law_told_here","_law_shot","_law_way","_law_due","_law_handed","_law_spare","_law_k"],389,388,m4,co "law" 695 274 1 385 386 .none .none (.ref 387) 698 699 181]
abbrev ms:List Me:=[⟨iy,"is_stem",15,["text"],128,127,m0,co "is_stem" 345 25 1 124 125 .none .none (.ref 126) 348 349 181⟩,
 ⟨cH,"is_later_sense",16,["text"],133,132,m0,co "is_later_sense" 351 29 1 129 130 .none .none (.ref 131) 354 355 181⟩,
 ⟨iz,"is_word",17,["text"],140,139,m0,co "is_word" 357 31 1 134 135 (.ref 136) (.ref 137) (.ref 138) 361 362 181⟩,
 ⟨kq,"stem_of",18,["word"],147,146,m0,co "stem_of" 364 35 1 141 142 (.ref 143) (.ref 144) (.ref 145) 368 369 181⟩,
 ⟨gZ,"number_of",19,["word"],154,153,m0,co "number_of" 371 37 1 148 149 (.ref 150) (.ref 151) (.ref 152) 375 376 181⟩,
 ⟨jL,"is_row",23,["row","told"],159,158,m1,co "is_row" 384 42 1 155 156 .none .none (.ref 157) 387 388 181⟩,
 ⟨cD,"in_one_order",24,["row"],166,165,m1,co "in_one_order" 390 47 1 160 161 (.ref 162) (.ref 163) (.ref 164) 394 395 181⟩,
 ⟨jM,"alike",25,["row","other"],173,172,m1,co "alike" 397 49 2 167 168 (.ref 169) (.ref 170) (.ref 171) 402 403 181⟩,
 ⟨dF,"gathered",26,["pairs","found","key","value"],180,179,m1,co "gathered" 405 51 1 174 175 (.ref 176) (.ref 177) (.ref 178) 412 413 181⟩,
 ⟨bj,"places_that_tell",28,["book","pairs","place","row"],185,184,m2,co "places_that_tell" 417 59 1 181 182 .none .none (.ref 183) 420 421 181⟩,
 ⟨cY,"new_steps",29,["book","places","known","steps","place","word"],192,191,m2,co "new_steps" 423 64 3 186 187 (.ref 188) (.ref 189) (.ref 190) 432 433 181⟩,
 ⟨bt,"steps_in_rounds",30,["book","tellers","missing","known","found","ready","steps","word","place","teller"],197,196,m2,co "steps_in_rounds" 435 71 1 193 194 .none .none (.ref 195) 438 439 181⟩,
 ⟨fU,"order",31,["book","found","steps"],204,203,m2,co "order" 441 89 1 198 199 (.ref 200) (.ref 201) (.ref 202) 447 448 181⟩,
 ⟨fD,"learnt",32,["book"],209,208,m2,co "learnt" 450 94 1 205 206 .none .none (.ref 207) 453 454 181⟩,
 ⟨dh,"places_alike",34,["book","row"],214,213,m3,co "places_alike" 458 97 2 210 211 .none .none (.ref 212) 461 462 181⟩,
 ⟨cz,"gained_and_lost",35,["ahead","behind","known","known_then","gained","lost"],219,218,m3,co "gained_and_lost" 464 99 2 215 216 .none .none (.ref 217) 467 468 181⟩,
 ⟨Al,"__init__",37000,["self"],233,232,m3,NZ "__init__" "Shelf.__init__" 482 107 1 227 228 (.ref 229) (.ref 230) (.ref 231) 486 487 181⟩,
 ⟨fE,"book",37001,["self"],240,239,m3,NZ "book" "Shelf.book" 489 111 1 234 235 (.ref 236) (.ref 237) (.ref 238) 493 494 181⟩,
 ⟨cm,"learnt_now",37002,["self"],247,246,m3,NZ "learnt_now" "Shelf.learnt_now" 496 114 1 241 242 (.ref 243) (.ref 244) (.ref 245) 500 501 181⟩,
 ⟨eN,"deeds",37003,["self"],254,253,m3,NZ "deeds" "Shelf.deeds" 503 117 1 248 249 (.ref 250) (.ref 251) (.ref 252) 507 508 181⟩,
 ⟨cE,"put",37004,["self","word","told","row"],261,260,m3,NZ "put" "Shelf.put" 510 120 3 255 256 (.ref 257) (.ref 258) (.ref 259) 517 518 181⟩,
 ⟨cZ,"take",37005,["self","word","told","places"],268,267,m3,NZ "take" "Shelf.take" 520 128 3 262 263 (.ref 264) (.ref 265) (.ref 266) 527 528 181⟩,
 ⟨c7,"back",37006,["self"],275,274,m3,NZ "back" "Shelf.back" 530 134 1 269 270 (.ref 271) (.ref 272) (.ref 273) 534 535 181⟩,
 ⟨di,"do_deed",37007,["self","rows"],282,281,m3,NZ "do_deed" "Shelf.do_deed" 537 139 2 276 277 (.ref 278) (.ref 279) (.ref 280) 542 543 181⟩,
 ⟨dk,"turn_to",37008,["self","rows","changes"],289,288,m3,NZ "turn_to" "Shelf.turn_to" 545 143 2 283 284 (.ref 285) (.ref 286) (.ref 287) 551 552 181⟩,
 ⟨oN,"_law_mix",38,["_law_cell_here","_law_k","_law_by"],303,302,m4,co "_law_mix" 566 148 2 297 298 (.ref 299) (.ref 300) (.ref 301) 572 573 181⟩,
 ⟨nh,"_law_cell",39,["_law_script","_law_k","_law_seed"],310,309,m4,co "_law_cell" 575 151 2 304 305 (.ref 306) (.ref 307) (.ref 308) 581 582 181⟩,
 ⟨kU,"_law_drawn",40,["_law_cell_here","_law_many","_law_found","_law_left","_law_k"],317,316,m4,co "_law_drawn" 584 158 2 311 312 (.ref 313) (.ref 314) (.ref 315) 592 593 181⟩,
 ⟨ni,"_law_name",41,["_law_drawn_here","_law_names_here","_law_letters","_law_name_here","_law_stem","_law_spare"],322,321,m4,co "_law_name" 595 168 2 318 319 .none .none (.ref 320) 598 599 181⟩,
 ⟨kW,"_law_names",42,["_law_script","_law_base","_law_many","_law_names_here","_law_k"],329,328,m4,co "_law_names" 601 179 3 323 324 (.ref 325) (.ref 326) (.ref 327) 609 610 181⟩,
 ⟨nj,"_law_told",43,["_law_drawn_here","_law_names_here","_law_top","_law_told_here","_law_k","_law_one"],336,335,m4,co "_law_told" 612 184 2 330 331 (.ref 332) (.ref 333) (.ref 334) 621 622 181⟩,
 ⟨d0,"_law_stands",44,["_law_rows_here","_law_row"],341,340,m4,co "_law_stands" 624 194 2 337 338 .none .none (.ref 339) 627 628 181⟩,
 ⟨dG,"_law_rows",45,["_law_script","_law_names_here","_law_many","_law_full","_law_rows_here","_law_k","_law_drawn_here","_law_row"],348,347,m4,co "_law_rows" 630 196 4 342 343 (.ref 344) (.ref 345) (.ref 346) 641 642 181⟩,
 ⟨kX,"_law_kinds",46,["_law_e"],355,354,m4,co "_law_kinds" 644 209 1 349 350 (.ref 351) (.ref 352) (.ref 353) 648 649 181⟩,
 ⟨aG,"_law_refused",47,["_law_shelf","_law_way","_law_word","_law_told_here","_law_due","_law_found","_law_e"],362,361,m4,co "_law_refused" 651 211 5 356 357 (.ref 358) (.ref 359) (.ref 360) 661 662 181⟩,
 ⟨d9,"_law_learnt",48,["_law_rows_here","_law_known","_law_grown","_law_word","_law_told_here"],367,366,m4,co "_law_learnt" 664 223 1 363 364 .none .none (.ref 365) 667 668 181⟩,
 ⟨fX,"_law_turn",49,["_law_ahead","_law_behind","_law_old","_law_new"],372,371,m4,co "_law_turn" 670 233 2 368 369 .none .none (.ref 370) 673 674 181⟩,
 ⟨bU,"_law_room_again",50,["_law_shelf","_law_rows_here","_law_at","_law_spare","_law_less","_law_word","_law_told_here"],379,378,m4,co "_law_room_again" 676 237 4 373 374 (.ref 375) (.ref 376) (.ref 377) 686 687 181⟩,
 ⟨ei,"_law_bad",51,["_law_drawn_here","_law_rows_here","_law_names_here","_law_odd","_law_bad_here","_law_word","_law_nine","_law_tries","_law_spare","_law_row","_law_cut","_law_turn_here"],384,383,m4,co "_law_bad" 689 254 3 380 381 .none .none (.ref 382) 692 693 181⟩,
 ml]
abbrev gg(P:U0):Obj:=#[.type "dict",bD,.dict #v[ge P "__name__" 165 (.str "law_primer_k53_shelves_refused" 564),ge P "__doc__" 166 .none,ge P "__package__" 167 .none,ge P "__loader__" 168 (.builtin "__main__.__loader__#opaque"),ge P "__spec__" 169 .none,ge P "__annotations__" 170 (.ref 6),ge P "__builtins__" 171 (.ref 4),ge P "__file__" 173 (.str "/claim/cut.py" 172),ge P "__cached__" 174 .none,ge P "PrimerError" 206 (.ref 24),ge P "NoText" 222 (.ref 37),ge P "Unfit" 238 (.ref 49),ge P "Unknown" 254 (.ref 61),ge P "Unlearnt" 270 (.ref 73),ge P "TooMany" 286 (.ref 85),ge P "Lacking" 302 (.ref 97),ge P "NoRow" 318 (.ref 109),ge P "NoDeed" 334 (.ref 121),ge P "LETTERS" 338 (.str "abcdefghijklmnopqrstuvwxyz" 337),ge P "LONGEST_STEM" 340 (.int 8 339),ge P "FIRST_SENSE" 342 (.int 1 341),ge P "LAST_SENSE" 344 (.int 99 343),ge P "is_stem" 350 (.ref 128),ge P "is_later_sense" 356 (.ref 133),ge P "is_word" 363 (.ref 140),ge P "stem_of" 370 (.ref 147),ge P "number_of" 377 (.ref 154),ge P "MOST_TOLD" 381 (.int 8 380),ge P "MOST_ROWS" 383 (.int 60 382),ge P "is_row" 389 (.ref 159),ge P "in_one_order" 396 (.ref 166),ge P "alike" 404 (.ref 173),ge P "gathered" 414 (.ref 180),ge P "places_that_tell" 422 (.ref 185),ge P "new_steps" 434 (.ref 192),ge P "steps_in_rounds" 440 (.ref 197),ge P "order" 449 (.ref 204),ge P "learnt" 455 (.ref 209),ge P "places_alike" 463 (.ref 214),ge P "gained_and_lost" 469 (.ref 219),ge P "Shelf" 563 (.ref 292),ge P "_law_mix" 574 (.ref 303),ge P "_law_cell" 583 (.ref 310),ge P "_law_drawn" 594 (.ref 317),ge P "_law_name" 600 (.ref 322),ge P "_law_names" 611 (.ref 329),ge P "_law_told" 623 (.ref 336),ge P "_law_stands" 629 (.ref 341),ge P "_law_rows" 643 (.ref 348),ge P "_law_kinds" 650 (.ref 355),ge P "_law_refused" 663 (.ref 362),ge P "_law_learnt" 669 (.ref 367),ge P "_law_turn" 675 (.ref 372),ge P "_law_room_again" 688 (.ref 379),ge P "_law_bad" 694 (.ref 384),ge P "law" 700 (.ref 389)] 56,#v[]]
abbrev xk(a:df)(n:Str)(b r:df)(t u:Tok):Obj:={cls:=.type "type",data:=.cls {name:=n,bases:=[.ref b],mro:=[.ref a,.ref b,.type "ValueError",.type "Exception",.type "BaseException",.type "object"],ns:=a - 1,qualname:=n},slots:=#v[a5 (.ref r),bD,a5 (.str n t),a5 (.str n u),a5 (.builtin "ValueError.__new__"),a5 (.bool a8)]}
abbrev xd(P:U0)(m f:Tok)(l:Int)(n s:Tok)(a:df)(d:Tok):Obj:={cls:=.type "dict",data:=.dict #v[ge P "__module__" m (.str "primer.errors" 187),ge P "__firstlineno__" f (.int l n),ge P "__static_attributes__" s (.ref a),ge P "__doc__" d .none] 2}
abbrev xo(P:U0):List (df×Obj):=[(97,xk 97 "Lacking" 24 88 287 295),
 (121,xk 121 "NoDeed" 24 112 319 327),
 (109,xk 109 "NoRow" 24 100 303 311),
 (37,xk 37 "NoText" 24 28 207 215),
 (24,({cls:=.type "type",data:=.cls {name:="PrimerError",bases:=[.type "ValueError"],mro:=[.ref 24,.type "ValueError",.type "Exception",.type "BaseException",.type "object"],ns:=23,qualname:="PrimerError",subclasses:=[.ref 37,.ref 49,.ref 61,.ref 73,.ref 85,.ref 97,.ref 109,.ref 121]},slots:=#v[a5 (.ref 15),bD,a5 (.str "PrimerError" 189),a5 (.str "PrimerError" 197),a5 (.builtin "ValueError.__new__"),a5 (.bool a8)]}:Obj)),
 (292,({cls:=.type "type",data:=.cls {name:="Shelf",bases:=[.type "object"],mro:=[.ref 292,.type "object"],ns:=291,qualname:="Shelf" },slots:=#v[bD,bD,a5 (.str "Shelf" 470),a5 (.str "Shelf" 478),a5 (.builtin "object.__new__"),a5 (.bool a8)]}:Obj)),
 (85,xk 85 "TooMany" 24 76 271 279),
 (49,xk 49 "Unfit" 24 40 223 231),
 (61,xk 61 "Unknown" 24 52 239 247),
 (73,xk 73 "Unlearnt" 24 64 255 263),
 (96,xd P 294 298 14 297 299 95 300),
 (120,xd P 326 330 18 329 331 119 332),
 (108,xd P 310 314 16 313 315 107 316),
 (36,xd P 214 218 4 217 219 35 220),
 (23,({cls:=.type "dict",data:=.dict #v[{hash:=mN P "__module__",key:=.str "__module__" 196,val:=.str "primer.errors" 187},{hash:=mN P "__firstlineno__",key:=.str "__firstlineno__" 200,val:=.int 2 199},{hash:=mN P "__static_attributes__",key:=.str "__static_attributes__" 201,val:=.ref 22},{hash:=mN P "__weakref__",key:=.str "__weakref__" 203,val:=.ref 25},{hash:=mN P "__doc__",key:=.str "__doc__" 204,val:=.none}] 3}:Obj)),
 (291,({cls:=.type "dict",data:=.dict #v[{hash:=mN P "__module__",key:=.str "__module__" 477,val:=.str "primer.shelf" 456},{hash:=mN P "__firstlineno__",key:=.str "__firstlineno__" 481,val:=.int 105 480},{hash:=mN P "__init__",key:=.str "__init__" 488,val:=.ref 233},{hash:=mN P "book",key:=.str "book" 495,val:=.ref 240},{hash:=mN P "learnt_now",key:=.str "learnt_now" 502,val:=.ref 247},{hash:=mN P "deeds",key:=.str "deeds" 509,val:=.ref 254},{hash:=mN P "put",key:=.str "put" 519,val:=.ref 261},{hash:=mN P "take",key:=.str "take" 529,val:=.ref 268},{hash:=mN P "back",key:=.str "back" 536,val:=.ref 275},{hash:=mN P "do_deed",key:=.str "do_deed" 544,val:=.ref 282},{hash:=mN P "turn_to",key:=.str "turn_to" 553,val:=.ref 289},{hash:=mN P "__static_attributes__",key:=.str "__static_attributes__" 556,val:=.ref 290},{hash:=mN P "__dict__",key:=.str "__dict__" 558,val:=.ref 293},{hash:=mN P "__weakref__",key:=.str "__weakref__" 560,val:=.ref 294},{hash:=mN P "__doc__",key:=.str "__doc__" 561,val:=.none}] 4}:Obj)),
 (84,xd P 278 282 12 281 283 83 284),
 (48,xd P 230 234 6 233 235 47 236),
 (60,xd P 246 250 8 249 251 59 252),
 (72,xd P 262 266 10 265 267 71 268)]
abbrev gx(P:U0):Gx:=(gg P,xo P)
abbrev xa:List df:=[97,121,109,37,24,292,85,49,61,73,96,120,108,36,23,291,84,48,60,72]
abbrev hk:Hook:=kHook (λP=>Kz top (gx P) ms) (adr ms xa) λP=>vG top (gx P) ms xa rfl
def Ql(w:ux):(oe w).map hk.obs=a5 (hk.val w):=by kernel_rfl
end K
namespace TM
open PySem L2
section
variable{X:Cx}{pins:List (df×Obj)}{σ:St}{H:Hp}{s:dt}{C:Ct}{S:df->Prop}
def vc(I:Inv X pins σ H s)(h:Kh X.K H a vs):∃b:List cK,Vals vs b/\s.heap.IsList a b.toArray/\vs.length<=b6:=by
 have(b,r,p,z):=I.list h;show#[b,r,p.isList,z]
inductive Kr(s:dt):Nat->U->cK->Prop where
 |JN {n:Nat}:Kr s n .JN .none
 |bl {n:Nat} {b:Bool}:Kr s n (.bl b) (.bool b)
 |int {n:Nat} {i:Int} {t:Tok}:Kr s n (.int i) (.int i t)
 |str {n:Nat} {y:Str} {t:Tok}:Kr s n (.str y) (.str y t)
 |tup {n:Nat} {us:List U} {B':List cK} {a:df}:us.length=B'.length->(∀j (hj:j<B'.length),Kr s n (us.getD j .JN) B'[j])->cQ us us=a8->s.heap.IsTuple a B'.toArray->Kr s (n+1) (.tup us) (.ref a)
 |lst {n:Nat} {us:List U} {B':List cK} {a:df}:us.length=B'.length->(∀j (hj:j<B'.length),Kr s n (us.getD j .JN) B'[j])->cQ us us=a8->s.heap.IsList a B'.toArray->Kr s (n+1) (.lst us) (.ref a)
def Kr.self(h:Kr s n u x):bW u u=a8:=by
 cases h<;>first|assumption|simp[bW]
theorem Kr.wK(f:∀u v x,J4 n u=a8->Rep C S H u v->RelV v x->Kr s n u x):∀{us:List U}{vs:List V}{a:List cK},bV n us=a8->av C S H us vs->Vals vs a->us.length=a.length/\(∀j (b:j<a.length),Kr s n (us.getD j .JN) a[j])/\cQ us us=a8
 |[],_,_,_,h,r=>by cases h;cases r;show#[rfl,λj b=>(nomatch b),rfl]
 |u::us,_,_,e,h,r=>by
  have(v,vs,rfl,c,d):=h;simp only[bV,bF]at e;cases r with
  |cons r1 r2 =>
   have(l,k,y):=Kr.wK f e.2 d r2;show#[by simp[l],λj b=>?_,by rw[cQ,(f _ _ _ e.1 c r1).self,y];rfl];cases j with
   |zero=>show f _ _ _ e.1 c r1
   |succ j=>show k j (by simpa using b)
def Kr.of(I:Inv X pins σ H s)(d:C.K=X.K):∀(n:Nat) (u:U) (v:V) (x:cK),J4 n u=a8->Rep C S H u v->RelV v x->Kr s n u x:=by
 intro n;induction n with
 |zero=>intro u v x e h r;cases u<;>first|(simp[J4]at e;done)|(simp only[Rep]at h;subst h;first|(cases r;constructor)|(have(t,rfl):=r;constructor))
 |succ n f =>
  intro u v x e h r;cases u with
  |tup us =>
   have(a,vs,rfl,b,c):=h;cases r;have(g,rv,p,_):=I.tuple (d▸b);have(l,k,y):=Kr.wK f (by simpa[J4] using e) c rv;show .tup l k y p
  |lst us =>
   have(a,vs,rfl,b,c):=h;cases r;have(g,rv,p,_):=vc I (d▸b.sq);have(l,k,y):=Kr.wK f (by simpa[J4] using e) c rv;show .lst l k y p
  |_=>first|(simp[J4]at e;done)|(simp only[Rep]at h;subst h;first|(cases r;constructor)|(have(t,rfl):=r;constructor))
def Kr.inj:∀{n:Nat}{u w:U}{x:cK},Kr s n u x->Kr s n w x->u=w:=by
 intro n;induction n with
 |zero=>intro u w x h h';cases h<;>cases h'<;>rfl
 |succ n q =>
  have go:∀{us ws:List U} {c its':List cK} {a:df} {o o':Obj} {m g:Nat},us.length=c.length->(∀j (r:j<c.length),Kr s n (us.getD j .JN) c[j])->ws.length=its'.length->(∀j (r:j<its'.length),Kr s n (ws.getD j .JN) its'[j])->s.heap.get? a=a5 o->o.data=.seq c.toArray m->s.heap.get? a=a5 o'->o'.data=.seq its'.toArray g->us=ws:=by
   intro us ws c its' a o o' m g l k l' k' e d f d';rw[e]at f;cases f;rw[d]at d';injection d' with t _
   have:c=its':=by simpa using Ś X5 t
   subst this;show Pr ⋯ λj v z=>?_;have:=q (k j ⋯) (k' j ⋯);simpa[v,z] using this
  intro u w x h h';cases h with
  |tup l k y p =>
   cases h' with
   |tup l' k' i b=>have(o,e,_,m,d):=p;have(o',f,_,g,d'):=b;rw[go l k l' k' e d f d']
   |lst l' k' i b=>show absurd rfl (X4 b p)
  |lst l k y p =>
   cases h' with
   |lst l' k' i b=>have(o,e,_,m,d):=p;have(o',f,_,g,d'):=b;rw[go l k l' k' e d f d']
   |tup l' k' i b=>show absurd rfl (X4 p b)
  |_=>cases h';rfl
theorem j4:∀{us ws:List U},us.length≠ws.length->cQ us ws=bL
 |[],[],h=>absurd rfl h
 |[],_::_,_=>rfl
 |_::_,[],_=>rfl
 |u::us,w::ws,h=>by
  rw[cQ,j4 (us:=us) (ws:=ws) (λe=>h (by simp[e])),T9]
theorem gL:∀{us ws:List U},us.length=ws.length->cQ us ws=(dV us.length).all λj=>bW (us.getD j .JN) (ws.getD j .JN)
 |[],[],_=>rfl
 |[],_::_,h=>by simp at h
 |_::_,[],h=>by simp at h
 |u::us,w::ws,h=>by
  have h':us.length=ws.length:=by simpa using h
  rw[cQ,gL h',i4,List.range_succ_eq_map,List.all_cons,Vz];rfl
def Hm{a its':List cK}(c:us.length=a.length)(d:ws.length=its'.length):cQ us ws=((dV (min a.toArray.size its'.toArray.size)).all (λj=>bW (us.getD j .JN) (ws.getD j .JN))&&a.toArray.size==its'.toArray.size):=by
 simp only[d8];by_cases b:us.length=ws.length
 .rw[gL b,show min a.length its'.length=us.length by lia,show(a.length==its'.length)=a8 by simp;lia,X0]
 .rw[j4 b,show(a.length==its'.length)=bL by simp;lia,T9]
def vd(b:Kr s n u y)(h:Â A s y x k)(hs:y=x->k=a8):S_ A s y x k:=λprog w E Q a=>by
 unfold eqBool;show x4 ?_;show Ķ (λc=>?_) (λ_=>?_)
 .rw[hs (Ĵ c)]at a;show bR (PD (c6 a))
 .cases b<;>show bR (h prog w E _ (Lp a))
def U4(q:∀m,m+1=n->∀{u w:U}{x d:cK}{A:Ke},Kr s m u x->Kr s m w d->A.units+m<L'->S_ A s x d (bW u w))(h:Kr s n u x)(h':Kr s n w d)(t:A.units+n<L'):Â A s x d (bW u w)/\Ċ A s x d (!bW u w):=by
 have a:A.units<L':=by lia
 have go:∀{m:Nat} {us ws:List U} {f its':List cK},m+1=n->(∀j (r:j<f.length),Kr s m (us.getD j .JN) f[j])->(∀j (r:j<its'.length),Kr s m (ws.getD j .JN) its'[j])->∀j (g:j<f.toArray.size) (i:j<its'.toArray.size),S_ A.in1 s f.toArray[j] its'.toArray[j] (bW (us.getD j .JN) (ws.getD j .JN)):=λ{m us ws f its'} e k k' j g i=>q m e (k j g) (k' j i) (by change A.units+1+m < _;lia);cases h with
 |JN =>
  cases h' with
  |JN=>show#[.none_none,.none_none]
  |bl=>show#[.none_bool _,.none_bool _]
  |int=>show#[.none_int _ _,.none_int _ _]
  |str=>show#[.none_str _ _,.none_str _ _]
  |tup l' k' c b=>show#[.none_tuple b a,.none_tuple b a]
  |lst l' k' c b=>show#[.none_list b a,.none_list b a]
 |bl =>
  cases h' with
  |JN=>show#[.bool_none _,.bool_none _]
  |bl=>show#[.bool_bool _ _,.bool_bool _ _]
  |int=>show#[.bool_int _ _ _,.bool_int _ _ _]
  |str=>show#[.bool_str _ _ _,.bool_str _ _ _]
  |tup l' k' c b=>show#[.bool_tuple _ b a,.bool_tuple _ b a]
  |lst l' k' c b=>show#[.bool_list _ b a,.bool_list _ b a]
 |int =>
  cases h' with
  |JN=>show#[.int_none _ _,.int_none _ _]
  |bl=>show#[.int_bool _ _ _,.int_bool _ _ _]
  |int=>show#[.int_int _ _ _ _,.int_int _ _ _ _]
  |str=>show#[.int_str _ _ _ _,.int_str _ _ _ _]
  |tup l' k' c b=>show#[.int_tuple _ _ b a,.int_tuple _ _ b a]
  |lst l' k' c b=>show#[.int_list _ _ b a,.int_list _ _ b a]
 |str =>
  cases h' with
  |JN=>show#[.str_none _ _,.str_none _ _]
  |bl=>show#[.str_bool _ _ _,.str_bool _ _ _]
  |int=>show#[.str_int _ _ _ _,.str_int _ _ _ _]
  |str=>show#[.str_str _ _ _ _,.str_str _ _ _ _]
  |tup l' k' c b=>show#[.str_tuple _ _ b a,.str_tuple _ _ b a]
  |lst l' k' c b=>show#[.str_list _ _ b a,.str_list _ _ b a]
 |tup l k y p =>
  cases h' with
  |JN=>show#[.tuple_none p a,.tuple_none p a]
  |bl=>show#[.tuple_bool _ p a,.tuple_bool _ p a]
  |int=>show#[.tuple_int _ _ p a,.tuple_int _ _ p a]
  |str=>show#[.tuple_str _ _ p a,.tuple_str _ _ p a]
  |tup l' k' c b=>rw[show bW (.tup _) (.tup _)=_ from Hm l l'];show#[.tuples p b a (go rfl k k'),.tuples p b a (go rfl k k')]
  |lst l' k' c b=>show#[.tuple_list p b a,.tuple_list p b a]
 |lst l k y p =>
  cases h' with
  |JN=>show#[.list_none p a,.list_none p a]
  |bl=>show#[.list_bool _ p a,.list_bool _ p a]
  |int=>show#[.list_int _ _ p a,.list_int _ _ p a]
  |str=>show#[.list_str _ _ p a,.list_str _ _ p a]
  |tup l' k' c b=>show#[.list_tuple p b a,.list_tuple p b a]
  |lst l' k' c b =>
   rename_i us _ _ ws _ _;by_cases o:us.length=ws.length
   .rw[show bW (.lst us) (.lst ws)=_ from gL o,l,<-d8];show#[.lists p b (by simp;lia) a (go rfl k k'),.lists p b (by simp;lia) a (go rfl k k')]
   .rw[show bW (.lst us) (.lst ws)=bL from j4 o];show#[.lists_lengths p b (by simp;lia) a,.lists_lengths p b (by simp;lia) a]
def Hn:∀{n:Nat}{u w:U}{x a:cK}{A:Ke},Kr s n u x->Kr s n w a->A.units+n<L'->S_ A s x a (bW u w):=by
 intro n;induction n with
 |zero=>intro u w x a A h h' b;show vd h (U4 (λm e=>by cases e) h h' b).1 λe=>by subst e;rw[h.inj h'];show h'.self
 |succ n c=>intro u w x a A h h' b;show vd h (U4 (λm e=>by cases e;show c) h h' b).1 λe=>by subst e;rw[h.inj h'];show h'.self
def E8(h:Kr s n u x)(h':Kr s n w a)(b:A.units+n<L'):Â A s x a (bW u w)/\Ċ A s x a (!bW u w):=U4 (λm e=>by cases e;show Hn) h h' b
end
end TM
namespace TM
open PySem L2 PyProof.Rows
abbrev JM(C:Ct)(m:M (Kd×U)):TE:=λσ H Q=>∃c0:Cf,c0.σ=σ/\c0.H=H/\Ok C c0/\W m c0.st λr st'=>∀c v,c.σ=σ->c.st=st'->Ok C c->Nx c0 c->aK C c0 c r.1 r.2 v->Q v c.H
abbrev K4(C:Ct)(m:M Bool):TT:=λσ H Q=>∃c0:Cf,c0.σ=σ/\c0.H=H/\Ok C c0/\W m c0.st λb st'=>∀c,c.σ=σ->c.st=st'->Ok C c->Nx c0 c->Q b c.H
def dI(C:Ct)(c0 c:Cf):List (Kd×U)->List V->Prop
 |[],vs=>vs=[]
 |r::rs,vs=>∃v t,vs=v::t/\gG C c0 c r.1 r.2 v/\dI C c0 c rs t/\(r.1=.own->∀(i:Nat) a v',rs[i]?=a5 a->t[i]?=a5 v'->a.1=.own->v'≠v)
abbrev K8(C:Ct)(m:M (List (Kd×U))):TA:=λσ H Q=>∃c0:Cf,c0.σ=σ/\c0.H=H/\Ok C c0/\W m c0.st λrs st'=>∀c vs,c.σ=σ->c.st=st'->Ok C c->Nx c0 c->dI C c0 c rs vs->Q vs c.H
section
def PE.weak(h:PE X e t)(i:∀σ H Q,t' σ H Q->t σ H Q):PE X e t':=λa s σ H Q I q=>h a s σ H Q I (i σ H Q q)
def PT.weak(h:PT X e t)(i:∀σ H Q,t' σ H Q->t σ H Q):PT X e t':=λa s σ H Q I q=>h a s σ H Q I (i σ H Q q)
def cj{st:aw}:W (aA rs) st Q↔a_ rs st/\Q () st:=by
 constructor
 .rintro⟨a,st',e,h⟩;unfold aA at e;split at e
  .cases e;show#[by assumption,h]
  .cases e
 .rintro⟨b,c⟩;show#[(),st,by unfold aA;rw[Ŕ b],c]
def ft{st:aw}:a_ (r::rs) st↔a_ [r] st/\a_ rs st:=by
 have(k,u):=r;cases k<;>simp[a_]
def gG.t(h:gG C c0 c k u v)(s:a_ [(k,u)] c.st):aK C c0 c k u v:=by
 cases k with
 |bor j=>show#[s.1,h]
 |_=>show h
structure Rk(C:Ct)(c0 c:Cf)(x y:Kd×U)(vx vy:V):Prop where
 hσ:c.σ=c0.σ
 ok:Ok C c
 nx:Nx c0 c
 rx:aK C c0 c x.1 x.2 vx
 ry:aK C c0 c y.1 y.2 vy
 ne:x.1=.own->y.1=.own->vy≠vx
def mw(h:gG C c0 b k u v)(h':gG C b c k' u' v'):k=.own->k'=.own->v'≠v:=by
 rintro rfl rfl e;have(r,d,_,_,_,f):=h;have(i,g,a,_):=h';have(o,ho,_):=f.some;subst d;rw[g]at e;cases e;rw[ho]at a;cases a
def two{k:Kd×U->Kd×U->M β}{Post:β->aw->Prop}{f:cK->cK->Sem α}{Q':cK->cK->α->dt->Prop}(J:PE X a (JM C L))(N:PE X b (JM C r))(I:Inv X d c0.σ c0.H s)(O:Ok C c0)
  (h:W (L >>= λx=>r >>= λy=>aA [x,y] >>= λ_=>k x y) c0.st Post)
  (Q:∀x y c g j v u s2,Rk C c0 c x y g j->Inv X d c.σ c.H s2->RelV g v->RelV j u->W (k x y) c.st Post->‹X› (f v u) (Q' v u) X.xe s2) :
  ‹X› (tj a X.env) (λv T=>‹X› (tj b X.env) (λu Y=>‹X› (f v u) (Q' v u) X.xe Y) X.xe T) X.xe s:=by
 rw[ag]at h;show JJ (J d s c0.σ c0.H (λg z=>∃x e,e.H=z/\e.σ=c0.σ/\Ok C e/\Nx c0 e/\aK C c0 e x.1 x.2 g/\W (r >>= λy=>aA [x,y] >>= λ_=>k x y) e.st Post) I ⟨c0,rfl,rfl,O,h.mono λx st1 n e g o e2 p q r1=>#[x,e,rfl,o,p,q,r1,by rw[e2];show n]⟩) ?_;rintro v s1 ⟨g,z,I1,rv,x,e,rfl,o,p,q,r1,n⟩;rw[ag]at n;show JJ (N d s1 c0.σ e.H (λj B=>∃y i,i.H=B/\Rk C c0 i x y g j/\W (k x y) i.st Post) I1 ⟨e,o,rfl,p,n.mono λy st2 l i j D e4 J' G r2=>?_⟩) ?_
 .rw[ag,cj]at l;subst e4;rw[ft]at l;show#[y,i,rfl,#[D,J',q.trans G,(r1.w.on p G (D.trans o.symm)).t l.1.1,(r2.from q),mw r1.w r2.w],l.2]
 .rintro u s2 ⟨j,B,I2,ru,y,i,rfl,m,l⟩;have hs:i.σ=c0.σ:=m.hσ;show Q x y i g j v u s2 m (by rw[hs];show I2) rv ru l
structure Rm(C:Ct)(c0 c:Cf)(x:Kd×U)(vx:V):Prop where
 hσ:c.σ=c0.σ
 ok:Ok C c
 nx:Nx c0 c
 rx:aK C c0 c x.1 x.2 vx
abbrev cS(C:Ct)(c0:Cf)(Q:VK)(r:Kd×U)(st':aw):Prop:=∀c v,c.σ=c0.σ->c.st=st'->Ok C c->Nx c0 c->aK C c0 c r.1 r.2 v->Q v c.H
section
def cS.flat(h:cS C c0 Q (.loc,u) c.st)(a:c.σ=c0.σ)(b:Ok C c)(n:Nx c0 c)(r:Rep C c.S c.H u v):Q v c.H:=h c v a rfl b n r
def cS.list(h:cS C c0 Q (.own,.lst us) c.st)(a:c.σ=c0.σ)(b:Ok C c)(n:Nx c0 c)(r:av C c.S c.H us vs)(p:df)(d:c.H p=bD):Q (.ref p) (upd c.H p (.lst vs)):=by
 have(e,f,g):=b.newList n d r;show h {c with H:=upd c.H p (.lst vs)} _ a rfl e f g
def cS.tup(h:cS C c0 Q (.loc,.tup us) c.st)(a:c.σ=c0.σ)(b:Ok C c)(n:Nx c0 c)(r:av C c.S c.H us vs)(p:df)(d:c.H p=bD):Q (.ref p) (upd c.H p (.tup vs)):=by
 have(e,f,g):=b.EX n d r;show h {c with H:=upd c.H p (.tup vs)} _ a rfl e f g
def cS.tupK(h:cS C c0 Q (kE k,.tup us) c.st)(d:c.σ=c0.σ)(a:Ok C c)(n:Nx c0 c)(r:av C (SK C c k) c.H us vs)(p:df)(e:c.H p=bD):Q (.ref p) (upd c.H p (.tup vs)):=by
 have(f,b):=a.lay (o:=.tup vs) e;show h {c with H:=upd c.H p (.tup vs)} _ d rfl f (n.trans b) (aK.item ?_);cases k<;>show#[p,vs,rfl,Ki.of ar,by first|show r.mv (a.Og b)|show r.mv (a.mv b)]
def dJ(h:eB k us=a8)(r:av C (SK C c k) c.H us vs):av C c.S c.H us vs:=by
 cases k with
 |any=>show r.JW (by simpa[eB,isAny] using h)
 |_=>show r
end
def E9(k k':Kd):∀a,SK C c k a->SK C c (kT k k') a:=by
 intro a h;cases k<;>cases k'<;>first|show h|show .inr h
def BK(k k':Kd):∀a,SK C c k' a->SK C c (kT k k') a:=by
 intro a h;cases k<;>cases k'<;>first|show h|show .inr h
def Ho(k k':Kd):kE (kT k k')=kT k k':=by cases k<;>cases k'<;>rfl
def BL:LC X (P' .Add) (λx y H Q=>∃l b xs c,x=.ref l/\y=.ref b/\Kh X.K H l xs/\Kh X.K H b c/\xs.length+c.length<=b6/\∀p,H p=bD->Q (.ref p) (upd H p (.lst (xs++c)))):=by
 intro f s σ H x y v u Q I m o h;have(l,b,xs,c,rfl,rfl,t,w,hz,q):=h;cases m;cases o;have(d,r,pl,z):=I.list t;have(e,r2,A,J):=I.list w;have hl:=r.length;have Mz:=r2.length;have((cls,dd,data,B),ho,g,n,i):=pl.isList;have((L,C,data2,D),j,k,G,a):=A.isList;simp only at g i k a;subst g i k a;show W8 #[_,ho,rfl] #[_,j,rfl] noFill_list_add seq_list_add PySem.F.slot_list_add PySem.F.entry_list_add (PySem.F.args_list_add_2 _ _)
   (list_addW l b d.toArray e.toArray n G dd C B D (by rw[d8,d8];lia)) #[ho,j,?_]
 have ea:d.toArray++e.toArray=(d++e).toArray:=by simp
 rw[ea];show#[.ref _,_,I.Jc (t':=s.toks) (r.append r2) (by rw[hH];lia),rfl,q _ I.fresh]
end
section
variable{X:Cx}{C:Ct}{pins:List (df×Obj)}{s:dt}{c0 c:Cf}{Q:VK}
def yN:LC X (P' .Add) (λx y H Q=>∃a b ys,x=.ref a/\y=.ref b/\Ki X.K H a []/\Ki X.K H b ys/\Q (.ref b) H):=by
 intro pins s σ H x y v u Q I j k h;have(a,b,ys,rfl,rfl,l,m,q):=h;cases j;cases k;have(z,r1,p1,_):=I.tuple l;have(o,r2,p2,_):=I.tuple m;cases r1;have((cls,dd,data,p),ho,e,n,f):=id p1;have((A,r,data2,t),g,i,w,d):=id p2;simp only at e f i d;subst e f i d;show W8 #[_,ho,rfl] #[_,g,rfl] Xz ZZ PySem.F.slot_tuple_add PySem.F.entry_tuple_add (PySem.F.args_tuple_add_2 _ _)
   (tuple_addW0 a b _ o.toArray n w dd r p t (by rfl)) #[ho,g,.ref b,H,I,rfl,q]
abbrev So.op:So->ï
 |.add=>.Add|.sub=>.Sub|.mul=>.Mult|.Ml=>.FloorDiv|.mod=>.Mod|.pow=>.Pow
def fu(h:tw f a b=a5 r):∃i j o,a=.int i/\b=.int j/\f i j=a5 o/\r=(.loc,.int o):=by
 unfold tw at h;split at h
 .rw[gi]at h;have(o,e,rfl):=h;show#[_,_,o,rfl,rfl,e,rfl]
 .cases h
def E_(T:C.K=X.K)(t:Rk C c0 c x y g l)(I:Inv X pins c.σ c.H s)(z:RelV g v)(B:RelV l u)(h:LO op x y=a5 r)(q:cS C c0 Q r c.st):
  ‹X› (P' op.op v u) (EP X pins c.σ Q) X.xe s:=by
 have(m,d,n,D,ty,_):=t;cases op with
 |add =>
  have h:wD x y=a5 r:=h;unfold wD at h;split at h
  .have ex:=D.int d;have e:=ty.int d;cases h;show dr pins s c.σ c.H g l v u Q I z B #[_,_,ex,e,q.flat m d n rfl]
  .have ex:=D.str d;have e:=ty.str d;split at h
   .cases h;show sj pins s c.σ c.H g l v u Q I z B #[_,_,ex,e,by assumption,q.flat m d n rfl]
   .cases h
  .have(a,vs,ex,N,G):=D.list d;have(b,ws,e,O,J):=ty.list d;split at h
   .rename_i L;cases h;show BL pins s c.σ c.H g l v u Q I z B #[a,b,vs,ws,ex,e,T▸N,T▸O,by rw[<-G.len,<-J.len];show L.1,λp Y=>q.list m d n ((dJ L.2.1 G).append (dJ L.2.2 J)) p Y]
   .cases h
  .rename_i k xs k' ys _ _;have(a,vs,ex,N,G):=D.tuple d;have(b,ws,e,O,J):=ty.tuple d;have MS:=N;have P5:=O;rw[T]at MS P5;split at h
   .rename_i L;cases h;have m1:av C (SK C c (kT k k')) c.H xs vs:=G.mv (.up (E9 k k'));have m2:av C (SK C c (kT k k')) c.H ys ws:=J.mv (.up (BK k k'));have q':cS C c0 Q (kE (kT k k'),.tup (xs++ys)) c.st:=by rw[Ho];show q
    by_cases e1:vs=[]
    .subst e1;show yN pins s c.σ c.H g l v u Q I z B #[a,b,ws,ex,e,MS,P5,?_];show q' c (.ref b) m rfl d n (aK.item #[b,ws,rfl,O,?_]);have:xs=[]:=by have:=m1.len;simpa using this
     rw[this];show m2
    .show Bi pins s c.σ c.H g l v u Q I z B #[a,b,vs,ws,ex,e,MS,P5,e1,by rw[<-G.len,<-J.len];show L,λe2=>?_,λ_ p Y=>q'.tupK m d n (m1.append m2) p Y];subst e2;show q' c (.ref a) m rfl d n (aK.item #[a,vs,rfl,N,?_]);have:ys=[]:=by have:=m2.len;simpa using this
     rw[this,oD];show m1
   .cases h
  .cases h
 |sub =>
  have(i,j,o,ex,e,f,rfl):=fu h;have ex:=(ex▸D).int d;have e:=(e▸ty).int d;cases f;show sg pins s c.σ c.H g l v u Q I z B #[_,_,ex,e,q.flat m d n rfl]
 |mul =>
  have(i,j,o,ex,e,f,rfl):=fu h;have ex:=(ex▸D).int d;have e:=(e▸ty).int d;unfold BA at f;split at f
  .cases f;show oU pins s c.σ c.H g l v u Q I z B #[_,_,ex,e,by assumption,q.flat m d n rfl]
  .cases f
 |Ml =>
  have(i,j,o,ex,e,f,rfl):=fu h;have ex:=(ex▸D).int d;have e:=(e▸ty).int d;unfold BB at f;split at f
  .cases f;show A_ pins s c.σ c.H g l v u Q I z B #[_,_,ex,e,by assumption,q.flat m d n rfl]
  .cases f
 |mod =>
  have(i,j,o,ex,e,f,rfl):=fu h;have ex:=(ex▸D).int d;have e:=(e▸ty).int d;unfold BC at f;split at f
  .cases f;show bE pins s c.σ c.H g l v u Q I z B #[_,_,ex,e,by assumption,q.flat m d n rfl]
  .cases f
 |pow =>
  have(i,j,o,ex,e,f,rfl):=fu h;have ex:=(ex▸D).int d;have e:=(e▸ty).int d;unfold BD at f;split at f
  .cases f;show oV pins s c.σ c.H g l v u Q I z B #[_,_,ex,e,by assumption,q.flat m d n rfl]
  .cases f
def BM(d:C.K=X.K)(f:PE X a (JM C g))(i:PE X b (JM C j)):PE X (.BinOp a op.op b pos) (JM C (g >>= λx=>j >>= λy=>aA [x,y] >>= λ_=>M.Kb (LO op x y))):=by
 rintro pins s σ H Q I ⟨c0,rfl,rfl,k,h⟩;show wpAny_BinOp (two f i I k h λx y c o p v u s2 t l m n w=>?_);have(r,e,q):=da.mp w;show JJ (E_ d t l m n e q) λ_ _ z=>by rw[t.hσ]at z;show z
abbrev Rh.op:Rh->CmpOp
 |.eq=>.Eq|.ne=>.NotEq|.lt=>.Lt|.le=>.LtE|.gt=>.Gt|.ge=>.GtE|.isin=>.In|.JG=>.NotIn|.is=>.Is|.U1=>.IsNot
def Hq{neg:Bool}(I:Inv X pins c.σ c.H s)(i:C.K=X.K)(L:X.A.units+60<L'){S:df->Prop}(n:Rep C S c.H x m)(o:RelV m v)(r:av C S c.H ys vs)
  (ha:Kh C.K c.H a vs\/Ki C.K c.H a vs) (t:J4 50 x=a8) (u:bV 50 ys=a8) {Q:cK->dt->Prop} (q:Q (.bool (if neg then !(ys.any λy=>bW y x) else ys.any λy=>bW y x)) s) :
  ‹X› (Pc (if neg then .NotIn else .In) v (.ref a)) Q X.xe s:=by
 have z:=Kr.of I i 50 x m v t n o;have go:∀d:List cK,Vals vs d->∃e:cK->Bool,(∀y,y∈d.toArray->S_ X.A.in1 s y v (e y))/\d.toArray.any e=ys.any λy=>bW y x:=by
  intro d rv;have(l,k,_):=Kr.wK (Kr.of I i 50) u r rv
  classical
  have q:∀j (b:j<d.length),b7 (∃w,Kr s 50 w d[j]/\bW w x=a8)=bW (ys.getD j .JN) x:=λj b=>by
   rw[oT,decide_eq_true_iff];show#[λ⟨w,f,g⟩=>by rw[<-f.inj (k j b)];show g,λh=>#[_,k j b,h]]
  show#[λy=>b7 (∃w,Kr s 50 w y/\bW w x=a8),λy B=>?_,?_]
  .have(j,b,e):=Rz (show y∈d by simpa using B);subst e;change S_ _ _ _ _ (decide _);rw[q j b];show Hn (k j b) z (by change X.A.units+1+50 < _;lia)
  .rw[oT];simp only[List.any_toArray,NI];constructor
   .rintro⟨y,D,h⟩;have(j,b,rfl):=Rz D;rw[q j b]at h;show#[_,L9 (l▸b),by simpa[l▸b] using h]
   .rintro⟨w,G,J⟩;have(j,b,rfl):=Rz G;show#[_,L9 (l▸b),by rw[q j (l▸b)];simpa[b] using J]
 rcases ha with ha|ha
 .have(d,rv,p,_):=vc I (i▸ha);have(e,f,g):=go d rv;cases neg with
  |false=>show SeqAt.in_listAt e p f (by rw[g];show q)
  |true=>show SeqAt.notIn_listAt e p f (by rw[g];show q)
 .rw[i]at ha;have(d,rv,p,_):=I.tuple ha;have(e,f,g):=go d rv;cases neg with
  |false=>show SeqAt.in_tupleAt e p f (by rw[g];show q)
  |true=>show SeqAt.notIn_tupleAt e p f (by rw[g];show q)
end
section
theorem cV:∀{us:List U}{ss:List Str},strsOf us=a5 ss->us=ss.map .str
 |[],ss,h=>by cases h;rfl
 |.str x::us,ss,h=>by
  simp only[strsOf,gi]at h;have(t,a,rfl):=h;rw[cV a];rfl
 |.JN::_,_,h=>by cases h
 |.bl _::_,_,h=>by cases h
 |.int _::_,_,h=>by cases h
 |.tup _::_,_,h=>by cases h
 |.lst _::_,_,h=>by cases h
 |.JF _ _::_,_,h=>by cases h
theorem kO:∀{us:List U}{ns:List Int},intsOf us=a5 ns->us=ns.map .int
 |[],ns,h=>by cases h;rfl
 |u::us,ns,h=>by
  cases u<;>first|(cases h;done)|skip
  rename_i x;have h':(intsOf us).map (x::·)=a5 ns:=h;rw[gi]at h';have(ms,e,rfl):=h';rw[kO e];rfl
theorem av.ints{S:df->Prop}:∀{ns:List Int}{vs:List V},av C S H (ns.map .int) vs->vs=ns.map V.int
 |[],vs,h=>h
 |n::ns,vs,h=>by
  have(v,r,rfl,a,b):=h;rw[av.ints b];have:v=.int n:=a;rw[this];rfl
theorem mz:∀{us:List U}{ss:List Bool},mf us=a5 ss->us=ss.map .bl
 |[],ss,h=>by cases h;rfl
 |.bl x::us,ss,h=>by
  simp only[mf,gi]at h;have(t,a,rfl):=h;rw[mz a];rfl
 |.JN::_,_,h=>by cases h
 |.str _::_,_,h=>by cases h
 |.int _::_,_,h=>by cases h
 |.tup _::_,_,h=>by cases h
 |.lst _::_,_,h=>by cases h
 |.JF _ _::_,_,h=>by cases h
theorem av.WS{S:df->Prop}:∀{xs:List Bool}{vs:List V},av C S H (xs.map .bl) vs->vs=xs.map V.bl
 |[],vs,h=>h
 |x::xs,vs,h=>by
  have(v,r,rfl,a,b):=h;rw[av.WS b];have:v=.bl x:=a;rw[this];rfl
abbrev Fb(X:Cx)(a:List (df×Obj))(c:Cf)(b:Bool)(v:cK)(s':dt):Prop:=v=.bool b/\Inv X a c.σ c.H s'
def jw(o:LC X f r)(I:Inv X a c.σ c.H s)(g:RelV d v)(i:RelV e u)(h:r d e c.H λx H'=>x=.bl b/\H'=c.H):
  ‹X› (f v u) (Fb X a c b) X.xe s :=
 JJ (o a s c.σ c.H d e v u _ I g i h) λw s' j=>by
  have(z,H',k,r,l,m):=j;subst l m;show#[r,k]
def aK.dict(g:Ok C c)(h:aK C c0 c k (.JF ks us) v):∃a kvs,v=.ref a/\c.H a=a5 (.dK kvs)/\kvs.map (·.1)=ks.map nH/\av C (SK C c k) c.H us (kvs.map (·.2)):=by
 cases k with
 |own=>have(r,e,_,_,_,kvs,b,d,f):=h;show#[r,kvs,e,b,d,f]
 |bor j=>have(r,e,_,_,_,kvs,b,d,f):=g.rootOf h.1 h.2;show#[r,kvs,e,b,d,f]
 |io=>show h.elim
 |A'=>show h.elim
 |_=>have(a,e,_,kvs,b,d,f):=h;show#[a,kvs,e,b,d,f]
theorem d_{S:df->Prop}:∀{ks:List Str}{us:List U}{kvs:List (Key×V)},kvs.map (·.1)=ks.map nH->av C S H us (kvs.map (·.2)) ->
  (∀u,eD ks us x=a5 u->∃v,dS kvs (nH x)=a5 v/\Rep C S H u v)/\(dS kvs (nH x)).isSome=b7 (x∈ks)
 |[],us,kvs,a,b=>by
  have:kvs=[]:=by simpa using a
  subst this;show#[λu h=>by cases us<;>simp[eD]at h,by simp[dS]]
 |k::ks,us,[],a,b=>by simp at a
 |k::ks,[],p::kvs,a,b=>by simp[av]at b
 |k::ks,u0::us,p::kvs,a,b=>by
  have(v,r,e,d,f):=b;rw[d6]at e;cases e;rw[d6,d6,QL]at a;have(g,i):=d_ (x:=x) a.2 f;by_cases hk:k=x
  .subst hk;show#[λu h=>?_,?_]
   .simp[eD]at h;subst h;show#[p.2,ff a.1,d]
   .rw[ff a.1];simp
  .have c:¬p.1=nH x:=by rw[a.1];intro z;show hk (U9 z)
   show#[λu h=>?_,?_]
   .simp[eD,hk]at h;have(v,e,q):=g u h;show#[v,by rw[fg c];show e,q]
   .rw[fg c,i];simp[nT hk]
def yO(Y:C.P=X.prog)(hw:C.w=X.w)(m:C.K=X.K)(J:X.A.units+60<L')(t:Rk C c0 c x y B L)(I:Inv X i c.σ c.H s)(e:RelV B v)(g:RelV L u)(h:bK op x.2 y.2=a5 b):
  ‹X› (Pc op.op v u) (Fb X i c b) X.xe s:=by
 have(hσ,d,n,l,ty,_):=t;have(kx,O):=x;have(ky,Q):=y
 dsimp only at h l ty
 have p:∀neg:Bool,∀o,BE O Q=a5 o->‹X› (Pc (if neg then .NotIn else .In) v u) (Fb X i c (if neg then !o else o)) X.xe s:=by
  intro neg o h;have r:=l.read d;have D:=ty.read d;unfold BE at h;split at h
  .have(a,vs,rfl,j,q):=D;cases g;unfold Ol at h;split at h
   .rename_i f;cases h;show Hq I m J r e q (.inl j.sq) f.1 f.2 #[by cases neg<;>rfl,I]
   .cases h
  .have(a,vs,rfl,j,q):=D;cases g;unfold Ol at h;split at h
   .rename_i f;cases h;show Hq I m J r e q (.inr j) f.1 f.2 #[by cases neg<;>rfl,I]
   .cases h
  .cases h;have ex:B=_:=r;have N:L=_:=D;cases neg with
   |false=>show jw v9 I e g #[_,_,ex,N,rfl,rfl]
   |true=>show jw pk I e g #[_,_,ex,N,rfl,rfl]
  .cases h;have ex:B=_:=r;have(a,kvs,rfl,j,q,T):=ty.dict d;cases g;subst ex;have hs:=λz:Str=>(d_ (x:=z) q T).2;cases neg with
   |false=>show Hg ⋯ I (fJ.k (k:=nH _) j) e λs' G=>#[by rw[hs];rfl,G]
   |true=>show uQ ⋯ I (fJ.k (k:=nH _) j) e λs' G=>#[by rw[hs];rfl,G]
  .cases h
 unfold bK at h;split at h
 .split at h
  .rename_i f;cases h;show(E8 (n:=50) (.of I m _ _ _ _ f.1 (l.read d) e) (.of I m _ _ _ _ f.2 (ty.read d) g) ⋯).1 _ _ _ _ #[rfl,I]
  .cases h
 .split at h
  .rename_i f;cases h;show(E8 (n:=50) (.of I m _ _ _ _ f.1 (l.read d) e) (.of I m _ _ _ _ f.2 (ty.read d) g) ⋯).2 _ _ _ _ #[rfl,I]
  .cases h
 .cases h;show jw G3 I e g #[_,_,l.int d,ty.int d,rfl,rfl]
 .cases h;show jw G4 I e g #[_,_,l.int d,ty.int d,rfl,rfl]
 .cases h;show jw G5 I e g #[_,_,l.int d,ty.int d,rfl,rfl]
 .show p bL b h
 .rw[gi]at h;have(o,j,rfl):=h;show p a8 o j
 .cases h
def BN(f:C.P=X.prog)(g:C.w=X.w)(i:C.K=X.K)(j:X.A.units+60<L')(k:PE X a (JM C l))(m:PE X b (JM C n))(o:RG op.op b=bL):
  PE X (.Compare a [op.op] [b] pos) (JM C (l >>= λx=>n >>= λy=>aA [x,y] >>= λ_=>M.Kb (bK op x.2 y.2) >>= λc=>pure (.loc,.bl c))):=by
 rintro d s σ H Q I ⟨c0,rfl,rfl,p,h⟩;show wpAny_Compare1 (two k m I p h λx y c N O v u s2 t B D G w=>?_) o;rw[ag]at w;have(r,e,q):=da.mp w;rw[aq]at q;show JJ (yO f g i j t B D G e) λz s' J=>?_;have(e,L):=J;subst e;show#[.bl r,c.H,by rw[<-t.hσ];show L,rfl,q c (.bl r) t.hσ rfl t.ok t.nx rfl]
def BO(g:C.P=X.prog)(i:C.w=X.w)(j:C.K=X.K)(k:X.A.units+60<L')(l:PE X a (JM C m))(n:PE X b (JM C o))(p:RG op.op b=bL):
  PT X (.Compare a [op.op] [b] pos) (K4 C (m >>= λx=>o >>= λy=>aA [x,y] >>= λ_=>M.Kb (bK op x.2 y.2))):=by
 rintro d s σ H Q I ⟨c0,rfl,rfl,B,h⟩;show UB (two (f:=λv u=>Pc op.op v u) (Q':=λ_ _ c s=>‹X› (ŀ c) (TP X d c0.σ Q) X.xe s) l n I B h λx y c O T v u s2 t D G J w=>?_) p;have(r,e,q):=da.mp w;show JJ (yO g i j k t D G J e) λz s' L=>?_;have(e,N):=L;subst e;show Lp #[c.H,by rw[<-t.hσ];show N,q c t.hσ rfl t.ok t.nx]
end
section
abbrev Hr(C:Ct)(c0:Cf)(Q:Bool->Hp->Prop)(b:Bool)(st':aw):Prop:=∀c,c.σ=c0.σ->c.st=st'->Ok C c->Nx c0 c->Q b c.H
def tH(b:a.σ=c0.σ)(c:Ok C a)(n:Nx c0 a)(h:W m a.st (cS C c0 Q)):JM C m c0.σ a.H Q :=
 #[a,b,rfl,c,h.mono λr st d e v f g i j r2=>d e v f g i (n.trans j) (r2.from n)]
def yP(b:a.σ=c0.σ)(c:Ok C a)(n:Nx c0 a)(h:W m a.st (Hr C c0 Q)):K4 C m c0.σ a.H Q :=
 #[a,b,rfl,c,h.mono λr st d e f g i j=>d e f g i (n.trans j)]
def aN(a:Ok C c0)(h:W (b >>= k) c0.st Post)
  (hz:∀x c v,Rm C c0 c x v->W (k x) c.st Post->Z v c.H):JM C b c0.σ c0.H Z:=by
 rw[ag]at h;show#[c0,rfl,rfl,a,h.mono λx st1 d e f g i j l r1=>hz x e f #[g,j,l,r1] (by rw[i];show d)]
def fw(a:Ok C c0)(h:W (d >>= k) c0.st Post)
  (hz:∀b c,c.σ=c0.σ->Ok C c->Nx c0 c->W (k b) c.st Post->Z b c.H):K4 C d c0.σ c0.H Z:=by
 rw[ag]at h;show#[c0,rfl,rfl,a,h.mono λx st1 e f g i j l=>hz x f g j l (by rw[i];show e)]
abbrev Hs(m:M (Kd×U))(x:Kd×U):M (Kd×U):=match x.2 with
 |.bl a8=>m
 |.bl bL=>pure (.loc,.bl bL)
 |_=>M.fail
abbrev Ht(x:Kd×U):M (Kd×U):=match x.2 with
 |.bl c=>pure (.loc,.bl !c)
 |_=>M.fail
def snd_and(i:PE X a (JM C j))(l:PE X (.BoolOp .And (b::d) pos) (JM C m)):PE X (.BoolOp .And (a::b::d) pos) (JM C (j >>= Hs m)):=by
 show PE.weak (D6 i l) ?_;rintro σ H Q ⟨c0,rfl,rfl,o,h⟩;show aN o h λx c v t w=>?_;have(k,u):=x;have(g,f,n,r):=t;unfold Hs at w;split at w
 .rename_i e
  dsimp only at e r
  subst e;show#[a8,r.bl f,by rw[Ŕ rfl];show tH g f n w]
 .rename_i e
  dsimp only at e r
  subst e;rw[aq]at w;show#[bL,r.bl f,by rw[ŕ i7];show w c (.bl bL) g rfl f n rfl]
 .show(bg.mp w).elim
def BP(d:PE X a (JM C f)):PE X (.UnaryOp .Not a pos) (JM C (f >>= Ht)):=by
 show PE.weak (D7 d) ?_;rintro σ H Q ⟨c0,rfl,rfl,g,h⟩;show aN g h λx c v t w=>?_;have(k,u):=x;have(i,b,n,r):=t;unfold Ht at w;split at w
 .rename_i e
  dsimp only at e r
  subst e;rw[aq]at w;show#[_,r.bl b,w c (.bl _) i rfl b n rfl]
 .show(bg.mp w).elim
def BQ(d:PE X a (JM C f)):PE X (.UnaryOp .USub a pos) (JM C (f >>= λx=>M.Kb (BJ x))):=by
 show PE.weak (G1 Eh d) ?_;rintro σ H Q ⟨c0,rfl,rfl,g,h⟩;show aN g h λx c v t w=>?_;have(k,u):=x;have(i,b,n,r):=t;have(j,e,w):=da.mp w;unfold BJ at e;split at e
 .rename_i q;cases q;cases e;show#[_,r.int b,w c (.int _) i rfl b n rfl]
 .cases e
def BR(g:PT X d (K4 C i))(j:PE X a (JM C k))(l:PE X b (JM C m)):PE X (.IfExp d a b pos) (JM C (i >>= λp=>if p=a8 then k else m)):=by
 show PE.weak (xS g j l) ?_;rintro σ H Q ⟨c0,rfl,rfl,o,h⟩;show fw o h λp c e f n w=>?_;cases p with
 |true=>rw[Ŕ rfl]at w ⊢;show tH e f n w
 |false=>rw[ŕ i7]at w ⊢;show tH e f n w
def BU(d:PT X a (K4 C e)):PT X (.UnaryOp .Not a pos) (K4 C (e >>= λb=>pure !b)):=by
 show PT.weak (D4 d) ?_;rintro σ H Q ⟨c0,rfl,rfl,f,h⟩;show fw f h λp c g i n w=>?_;rw[aq]at w;show w c g rfl i n
def BV(i:PT X a (K4 C j))(k:PW X (.BoolOp .And (b::d) pos) (K4 C tb)):PW X (.BoolOp .And (a::b::d) pos) (K4 C (j >>= λp=>if p=a8 then tb else pure bL)):=by
 have l:=D3 i k;rintro m e s σ H Q I ⟨c0,rfl,rfl,o,h⟩;show l m e s c0.σ c0.H Q I (fw o h λp c f g n w=>?_);cases p with
 |true=>rw[Ŕ rfl]at w ⊢;show yP f g n w
 |false=>rw[ŕ i7]at w ⊢;rw[aq]at w;show w c f rfl g n
def Fc(i:PT X a (K4 C j))(k:PW X (.BoolOp .Or (b::d) pos) (K4 C tb)):PW X (.BoolOp .Or (a::b::d) pos) (K4 C (j >>= λp=>if p=a8 then pure a8 else tb)):=by
 have l:=GP i k;rintro m e s σ H Q I ⟨c0,rfl,rfl,o,h⟩;show l m e s c0.σ c0.H Q I (fw o h λp c f g n w=>?_);cases p with
 |true=>rw[Ŕ rfl]at w ⊢;rw[aq]at w;show w c f rfl g n
 |false=>rw[ŕ i7]at w ⊢;show yP f g n w
def vf{us:List α}{vs:List β}(h:us.length=vs.length):(!us.isEmpty)=!vs.isEmpty:=by
 cases us<;>cases vs<;>simp_all
def lr(j:PE X a (JM C l))(i:C.K=X.K)(m:∀b,isTrue a X.env b=(do let v <-b;R6 a.pos;K9 [v] (ŀ v))):PT X a (K4 C (l >>= λx=>M.Kb (tE x.2))):=by
 show PT.weak (xY j m) ?_;rintro σ H Q ⟨c0,rfl,rfl,o,h⟩;show aN o h λx c v t w=>?_;have(k,u):=x;have(s,d,n,r):=t;have(p,e,q):=da.mp w
 dsimp only at e r
 show#[p,?_,q c s rfl d n];unfold tE at e;split at e
 .cases e;rw[r.bl d];rfl
 .cases e;have(a,vs,rfl,f,g):=r.list d;show .inl #[vs,i▸f,vf g.len]
 .cases e;have(a,vs,rfl,f,g):=r.tuple d;rw[i]at f;show .inr (.inl #[vs,f,vf g.len])
 .split at e
  .cases e;rw[r.str d];show#[by assumption,rfl]
  .cases e
 .cases e
end
section
def dI.from(n:Nx c0 a):dI C a c rs vs->dI C c0 c rs vs:=by
 intro h;induction rs generalizing vs with
 |nil=>show h
 |cons r rs b=>have(v,t,e,d,f,g):=h;show#[v,t,e,d.from n,b f,g]
def dI.get{i:Nat}(h:dI C c0 c rs vs)(e:rs[i]?=a5 r)(a:vs[i]?=a5 v):gG C c0 c r.1 r.2 v:=by
 induction rs generalizing vs i with
 |nil=>simp at e
 |cons g rs b =>
  have(v',t,rfl,d,f,j):=h;cases i with
  |zero=>simp at e a;subst e a;show d
  |succ i=>show b f (by simpa using e) (by simpa using a)
def BW:PA X [] (K8 C (pure [])):=by
 rintro pos a s σ H Q I ⟨c0,rfl,rfl,b,h⟩;rw[aq]at h;show c8 pos a s c0.σ c0.H Q I (h c0 [] rfl rfl b (Nx.refl c0) rfl)
def yQ(f:PE X e (JM C m))(g:PA X es (K8 C ms))(hs:gj (e::es) X.env=(bL,tj e X.env)::gj es X.env):PA X (e::es) (K8 C (m >>= λr=>ms >>= λrs=>pure (r::rs))):=by
 rintro pos a s σ H Q I ⟨c0,rfl,rfl,j,h⟩;show bM f g hs pos a s c0.σ c0.H Q I (aN j h λr k v t w=>?_);rw[ag]at w;show#[k,t.hσ,rfl,t.ok,w.mono λrs st2 b l vs c n o d r2=>?_];rw[aq]at b;show b l (v::vs) c n o (t.nx.trans d) #[v,vs,rfl,t.rx.w.on t.ok d (c.trans t.hσ.symm),r2.from t.nx,λhk i x v' p q u=>?_];show mw t.rx.w (r2.get p q) hk u
structure K'(C:Ct)(c0 c:Cf)(rs:List (Kd×U))(vs:List V):Prop where
 hσ:c.σ=c0.σ
 ok:Ok C c
 nx:Nx c0 c
 rep:dI C c0 c rs vs
 Oo:a_ rs c.st
def args{k:List (Kd×U)->M β}{Post:β->aw->Prop}(f:PA X es (K8 C ms))(I:Inv X a c0.σ c0.H s)(g:Ok C c0)(h:W (ms >>= λrs=>aA rs >>= λ_=>k rs) c0.st Post)(pos:Pos):
  ‹X› (Ï (uv pos (gj es X.env))) (λus s1=>∃rs c vs,K' C c0 c rs vs/\Inv X a c.σ c.H s1/\Vals vs us/\W (k rs) c.st Post) X.xe s:=by
 rw[ag]at h;show JJ (f pos a s c0.σ c0.H (λvs e=>∃rs c,c.H=e/\K' C c0 c rs vs/\W (k rs) c.st Post) I ⟨c0,rfl,rfl,g,h.mono λrs st1 b d vs i j l m r1=>?_⟩) ?_
 .rw[ag,cj]at b;subst j;show#[rs,d,rfl,#[i,l,m,r1,b.1],b.2]
 .rintro us s1 ⟨vs,e,n,rv,rs,d,rfl,t,w⟩;show#[rs,d,vs,t,by rw[t.hσ];show n,rv,w]
def K'.one(t:K' C c0 c [r] vs):∃v,vs=[v]/\aK C c0 c r.1 r.2 v:=by
 have(v,t',rfl,a,b,_):=t.rep;cases b;show#[v,rfl,a.t t.Oo]
def K'.two(t:K' C c0 c [r,a] vs):∃v v',vs=[v,v']/\aK C c0 c r.1 r.2 v/\aK C c0 c a.1 a.2 v':=by
 have(v,t',rfl,b,(v',d,rfl,e,f,_),_):=t.rep;cases f;have hs:=ft.mp t.Oo;show#[v,v',rfl,b.t hs.1,e.t hs.2]
def Ok.share(b:Ok C c)(g:C.H₀ r=bD)(h:∃o,c.H r=a5 o)(hl:st'.length=c.st.length)
  (d:∀(i:Nat) k u,st'[i]?=a5 (a5 (k,u))->(∃v,c.σ[i]?=a5 (a5 v)/\gF C (λa=>c.S a\/a=r) c.H k u v)/\(k.root=a8->c.st[i]?=a5 (a5 (k,u)))) (l:MN C {c with S:=λa=>c.S a\/a=r,st:=st' }) :
  Ok C {c with S:=λa=>c.S a\/a=r,st:=st' }:=by
 show#[b.same,λa z=>?_,b.par,b.io,by rw[show({c with S:=λa=>c.S a\/a=r,st:=st' }:Cf).st.length=st'.length from rfl,hl];show b.len,λi k u e=>(d i k u e).1,λi j k k' u u' m hk f n p q s=>?_,l]
 .rcases z with z|rfl
  .show b.LJ a z
  .show#[g,h]
 .show b.inj i j k k' u u' m hk f ((d i k u n).2 hk) ((d j k' u' p).2 f) q s
def Ok.Fd(p:Ok C c0)(b:Ok C c)(n:Nx c0 c)(d:c0.H r=bD)(f:¬c.R r)(s:dU C c.S c.H r u):
  Ok C {c with S:=λa=>c.S a\/a=r}/\Nx c0 {c with S:=λa=>c.S a\/a=r}:=by
 have(o,ho,_):=s.some;show#[b.share (st':=c.st) (p.iB d).1 #[o,ho] rfl (λi k u e=>#[?_,λ_=>e]) (b.dd.hs (.up λa=>.inl) λj a z=>#[λq=>q.elim (b.root (.inr #[j,z])).1 λe=>f (.inr #[j,e▸z]),λo q=>q]),#[#[n.keep,n.there,n.roots,λa z=>.inl (n.sub a z),λa z=>?_]]]
 .have(v,g,h):=b.sl i k u e;have t:Mv c.S c.H (λa=>c.S a\/a=r) c.H:=.up λa=>.inl;show#[v,g,h.mv t (.up λa z=>z.imp id .inl) λhk x l=>#[?_,λo q=>q]];have(y,m,w,_):=h.rt hk;rw[l]at m;cases m;rintro(z|rfl)
  .show w z
  .show f (.inl #[i,k,u,hk,e,by rw[g,l]])
 .rcases z with z|rfl
  .show n.new a z
  .show .inr (.inr d)
def Ok.yR(d:Ok C c)(n:Nx c0 c)(g:c.st[j]?=a5 (a5 (.own,u)))(h:c.σ[j]?=a5 (a5 (.ref r))):
  Ok C {c with S:=λa=>c.S a\/a=r,st:=c.st.set j (a5 (.loc,u))}/\Nx c0 {c with S:=λa=>c.S a\/a=r,st:=c.st.set j (a5 (.loc,u))}/\Rep C (λa=>c.S a\/a=r) c.H u (.ref r):=by
 have(v',f,l,m,O,Q,D,x):=d.sl j _ _ g;rw[h]at f;cases f;cases m;have y:Rep C (λa=>c.S a\/a=r) c.H u (.ref r):=x.rep (λa=>.inl) (.inr rfl);have(o,ho,_):=x.some;have s:j<c.st.length:=(cL.mp g).1;have t:∀(i:Nat) k u',(c.st.set j (a5 (.loc,u)))[i]?=a5 (a5 (k,u'))->i≠j->c.st[i]?=a5 (a5 (k,u')):=λi k u' e ne=>by rw[f7 (nT ne)]at e;show e
 have G:c.R1 r:=#[j,.own,u,rfl,g,h]
 have A:∀(i:Nat) (u':U),(c.st.set j (a5 (.loc,u)))[i]?=a5 (a5 (.A',u'))->c.st[i]?=a5 (a5 (.A',u')):=λi u' e=>by
  by_cases b:i=j
  .subst b;rw[c4 s]at e;cases e
  .show t i .A' u' e b
 have b1:∀a,({c with S:=λa=>c.S a\/a=r,st:=c.st.set j (a5 (.loc,u))}:Cf).R1 a->c.R1 a:=λa I=>by
  have(i,k,u',hk,e,J):=I;by_cases b:i=j
  .subst b;rw[c4 s]at e;cases e;cases hk
  .show#[i,k,u',hk,t i k u' e b,J]
 have L:MN C {c with S:=λa=>c.S a\/a=r,st:=c.st.set j (a5 (.loc,u))}:=d.dd.of rfl (λi u' e=>#[A i u' e,rfl]) (λa z=>.inl (b1 a z)) (.up λa=>.inl) λi a z=>#[λq=>q.elim (d.root (.inr #[i,z])).1 λe=>d.dd.d1 i a z (e▸G),λo q=>q]
 show#[d.share (st':=c.st.set j (a5 (.loc,u))) D #[o,ho] (by simp) (λi k u' e=>?_) L,#[#[n.keep,n.there,λa z=>?_,λa z=>.inl (n.sub a z),λa z=>?_]],y]
 .by_cases b:i=j
  .subst b;rw[c4 s]at e;cases e;show#[#[.ref r,h,y],λz=>nomatch z]
  .have w:=t i k u' e b;have(v,f,p):=d.sl i k u' w;show#[#[v,f,p.mv (.up λa=>.inl) (.up λa z=>z.imp id .inl) λhk l m=>#[?_,λo q=>q]],λ_=>w];have(T,B,p1,_):=p.rt hk;rw[m]at B;cases B;rintro(z|rfl)
   .show p1 z
   .show b (d.inj i j k .own u' u l hk rfl w g (by rw[f,m]) h)
 .rcases z with z|⟨i,u',l,f,p,N⟩
  .show n.roots a (.inl (b1 a z))
  .show n.roots a (.inr #[i,u',l,A i u' f,p,N])
 .rcases z with z|rfl
  .show n.new a z
  .rcases n.roots a (.inl #[j,.own,u,rfl,g,h]) with z|z
   .show .inr (.inl z)
   .show .inr (.inr z)
def h_(A:Ok C c0)(b:Ok C c)(n:Nx c0 c)(d:gG C c0 c r.1 r.2 v)(h:W (lift r) c.st Post):
  ∃(S':df->Prop) (st':aw) (u:U),(∀a,c.S a->S' a)/\Ok C {c with S:=S',st:=st' }/\Nx c0 {c with S:=S',st:=st' }/\Rep C S' c.H u v/\Post u st' /\
   (∀a,S' a->c.S a\/v=.ref a/\(r.1=.own\/c.R a))/\∀a,({c with S:=S',st:=st' }:Cf).R a->c.R a:=by
 have(k,u):=r;cases k with
 |own =>
  rw[show lift (.own,u)=pure u from rfl,aq]at h;have(r,e,B,N,D,t):=d;have(l,m):=Ok.Fd A b n B D t;show#[_,c.st,u,λa=>.inl,l,m,by rw[e];show t.rep (λa=>.inl) (.inr rfl),h,λa z=>?_,λa z=>z];rcases z with z|rfl
  .show .inl z
  .show .inr #[e,.inl rfl]
 |loc =>
  rw[show lift (.loc,u)=pure u from rfl,aq]at h;show#[c.S,c.st,u,λa=>id,b,n,d,h,λa z=>.inl z,λa z=>z]
 |any =>
  rw[show lift (.any,u)=if JW u=a8 then pure u else M.fail from rfl]at h;split at h
  .rw[aq]at h;show#[c.S,c.st,u,λa=>id,b,n,Rep.JW (by assumption) d,h,λa z=>.inl z,λa z=>z]
  .show(bg.mp h).elim
 |bor j =>
  have(x,st',e,G):=h;rw[show lift (.bor j,u) c.st=match c.st[j]? with|some (a5 (.own,u))=>a5 (Ex.ok u,c.st.set j (a5 (.loc,u)))|_=>bD from rfl]at e;split at e
  .rename_i w f;cases e;have(v',y,r,I,_):=b.sl j _ _ f;have o:c.σ[j]?=a5 (a5 v):=d;rw[o]at y;cases y;subst I;have(l,m,p):=b.yR n f o;show#[_,_,_,λa=>.inl,l,m,p,G,λa z=>?_,λa z=>?_]
   .rcases z with z|rfl
    .show .inl z
    .show .inr #[rfl,.inr (.inl #[j,.own,_,rfl,f,o])]
   .rcases z with⟨i,k,u',hk,e,q⟩|⟨i,u',J,e,q,L⟩
    rotate_left 1
    .by_cases g:i=j
     .subst g;have s:i<c.st.length:=(cL.mp f).1;rw[c4 s]at e;cases e
     .rw[f7 (nT g)]at e;show .inr #[i,u',J,e,q,L]
    by_cases g:i=j
    .subst g;have s:i<c.st.length:=(cL.mp f).1;rw[c4 s]at e;cases e;cases hk
    .rw[f7 (nT g)]at e;show .inl #[i,k,u',hk,e,q]
  .cases e
 |_=>show d.elim
theorem jx:∀{rs:List (Kd×U)}{vs:List V}{c:Cf}{Post:List U->aw->Prop},Ok C c0->Ok C c->Nx c0 c->dI C c0 c rs vs->W (dc rs) c.st Post ->
  ∃(S':df->Prop) (st':aw) (us:List U),(∀a,c.S a->S' a)/\Ok C {c with S:=S',st:=st' }/\Nx c0 {c with S:=S',st:=st' }/\av C S' c.H us vs/\Post us st'
 |[],vs,c,Post,j,k,n,m,h=>by
  rw[show dc []=pure [] from rfl,aq]at h;show#[c.S,c.st,[],λa=>id,k,n,m,h]
 |r::rs,vs,c,Post,j,k,n,m,h=>by
  have(v,t,rfl,G,I,J):=m;rw[show dc (r::rs)=lift r >>= λu=>dc rs >>= λus=>pure (u::us) from rfl,ag]at h;have(p,st1,u,s1,L,N,b,s,O,Q):=h_ j k n G h;rw[ag]at s;have T:dI C c0 {c with S:=p,st:=st1} rs t:=by
   clear h s;have x:∀(l:List (Kd×U)) (w:List V),dI C c0 c l w->(r.1=.own->∀(i:Nat) f v',l[i]?=a5 f->w[i]?=a5 v'->f.1=.own->v'≠v)->dI C c0 {c with S:=p,st:=st1} l w:=by
    intro l;induction l with
    |nil=>intro w q _;show q
    |cons r2 l Y =>
     intro w q y;have(A,B,rfl,g,q2,q3):=q;show#[A,B,rfl,?_,Y B q2 (λhk i f v' e1 e2 KC=>y hk (i+1) f v' (by simpa using e1) (by simpa using e2) KC),q3];have(k2,u2):=r2;cases k2 with
     |own =>
      have(a,e,p1,p2,p3,p4):=g;show#[a,e,p1,λz=>?_,λz=>p3 (Q a z),p4.mv (.up s1) λo q=>q];rcases O a z with z|⟨z,z'|z'⟩
      .show p2 z
      .show y z' 0 _ A rfl rfl rfl (e.trans z.symm)
      .show p3 z'
     |loc=>show Rep.mv (.up s1) g
     |any=>show Rep.mv (.up λa z=>z.imp id (s1 a)) g
     |_=>show g
   show x rs t I J
  have(S2,st2,us,s2,J',n2,d,D):=jx (c:={c with S:=p,st:=st1}) j L N T s;rw[aq]at D;show#[S2,st2,u::us,λa z=>s2 a (s1 a z),J',n2,#[v,t,rfl,b.mv (.up s2),d],D]
def BX(j:PA X es (K8 C ms)):PE X (.Tuple es p pos) (JM C (ms >>= λrs=>aA rs >>= λ_=>dc rs >>= λus=>if us.length<=b6 then pure (.loc,.tup us) else M.fail)):=by
 rintro a s σ H Q I ⟨c0,rfl,rfl,g,h⟩;show ü (JJ (args j I g h pos) λus s1 k=>?_);have(rs,c,vs,t,i,rv,w):=k;rw[ag]at w;have(S',st',ws,q,l,m,d,f):=jx g t.ok t.nx t.rep w;split at f
 .rename_i hz;rw[aq]at f;have hl:vs.length<=b6:=by rw[<-d.len];show hz
  show#[by rw[<-rv.length];show hl,?_];have n:c.H (~~~s1)=bD:=i.JE.fresh (ez _);have o:Inv X a c0.σ c.H s1:=by rw[<-t.hσ];show i
  show#[.ref (~~~s1),upd c.H (~~~s1) (.tup vs),o.laid (t':=s1.toks) (λb u e=>cb _ e) (ez _) ⟨hl,us,rv,XY _ _⟩,rfl,?_];show cS.tup (c:={c with S:=S',st:=st' }) f t.hσ l m d _ n
 .show(bg.mp f).elim
def BY(j:PA X es (K8 C ms)):PE X (.List es pos) (JM C (ms >>= λrs=>aA rs >>= λ_=>dc rs >>= λus=>if us.length<=b6 then pure (.own,.lst us) else M.fail)):=by
 rintro a s σ H Q I ⟨c0,rfl,rfl,g,h⟩;show ą (JJ (args j I g h pos) λus s1 k=>?_);have(rs,c,vs,t,i,rv,w):=k;rw[ag]at w;have(S',st',ws,p,l,m,d,f):=jx g t.ok t.nx t.rep w;split at f
 .rename_i hz;rw[aq]at f;have hl:vs.length<=b6:=by rw[<-d.len];show hz
  show#[by rw[<-rv.length];show hl,?_];have n:c.H (~~~s1)=bD:=i.JE.fresh (ez _);have o:Inv X a c0.σ c.H s1:=by rw[<-t.hσ];show i
  show#[.ref (~~~s1),upd c.H (~~~s1) (.lst vs),o.laid (t':=s1.toks) (λb u e=>cb _ e) (ez _) ⟨hl,us,0,rv,d7 _ rfl⟩,rfl,?_];show cS.list (c:={c with S:=S',st:=st' }) f t.hσ l m d _ n
 .show(bg.mp f).elim
end
section
def pL(d:X.N[i]?=a5 x)(f:KA X.env.scope x)(g:(x==("__debug__":Str))=bL)(l:(x==("__classdict__":Str))=bL):PE X (.Name x pos) (JM C (dW i)):=by
 show PE.weak (bf d f g l) ?_;rintro σ H Q ⟨c0,rfl,rfl,b,r,st',e,h⟩;unfold dW at e;split at e
 .cases e
 .rename_i k u m hs;cases e;have(v,c,a):=b.sl i k u hs;show#[v,c,h c0 v rfl rfl b (Nx.refl c0) ?_];by_cases hk:k.root=a8
  .rw[Ŕ hk];show#[#[k,hk,hs],c]
  .rw[ŕ hk];cases k with
   |loc=>show a
   |any=>show a
   |bor j=>show a.elim
   |A'=>show(m rfl).elim
   |_=>show absurd rfl hk
 .cases e
def jy(h:PE X e (tC v))(r:∀S H,Rep C S H u v):PE X e (JM C (pure (.loc,u))):=by
 show PE.weak h ?_;rintro σ H Q ⟨c0,rfl,rfl,a,h⟩;rw[aq]at h;show h c0 v rfl rfl a (Nx.refl c0) (r _ _)
def cS.root(h:cS C c0 Q (.own,u) c.st)(d:c.σ=c0.σ)(b:Ok C c)(n:Nx c0 c)(p:df)(a:c.H p=bD)(r:dU C c.S (upd c.H p o) p u):Q (.ref p) (upd c.H p o):=by
 have(e,f):=b.lay (o:=o) a;have(j,g,k,l,i):=b.iB a;show h {c with H:=upd c.H p o} _ d rfl e (n.trans f) ⟨p,rfl,n.none a,g,i,r⟩
def yS(c:C.P=X.prog)(d:C.w=X.w)(r:Bool):PE X (.Dict [] [] pos) (JM C (pure (.own,.JF [] []))):=by
 show PE.weak qH ?_;rintro σ H Q ⟨c0,rfl,rfl,a,h⟩ p b;rw[aq]at h;show cS.root h rfl a (Nx.refl c0) p b #[[],ar,rfl,rfl]
def av.J_{S:df->Prop}(h:av C S H us vs)(e:J_ us i=a5 u):∃v,L2.J_ vs i=a5 v/\Rep C S H u v:=by
 unfold L2.J_ at e ⊢;rw[h.len]at e;cases q:M5 vs.length i with
 |none=>rw[q]at e;cases e
 |some j =>
  rw[q]at e;show h.get e
def Fe(J:C.K=X.K)(L:X.A.units+60<L')(hs:pf b)(t:Rk C c0 c x y g j)(I:Inv X d c.σ c.H s)(m:RelV g v)(o:RelV j u)(h:iV x y.2=a5 r)(q:cS C c0 Q r c.st):
  ‹X› (V5 a b v u) (EP X d c.σ Q) X.xe s:=by
 obtain⟨p,f,n,z,ty,-⟩:=t;have(N,O):=y
 dsimp only at h ty
 unfold iV at h;split at h
 .rename_i k xs i;rw[gi]at h;have(w,e,rfl):=h;have(a',vs,ex,l,B):=z.list f;have(vw,D,G):=B.J_ e;show Bj a b d s c.σ c.H g j v u Q I m o #[a',vs,i,vw,ex,ty.int f,J▸l,D,q c vw p rfl f n (aK.item G)] (hs _ _)
 .rename_i k xs i;rw[gi]at h;have(w,e,rfl):=h;have(a',vs,ex,l,B):=z.tuple f;have(vw,D,G):=B.J_ e;rw[J]at l;show ph a b d s c.σ c.H g j v u Q I m o #[a',vs,i,vw,ex,ty.int f,l,D,q c vw p rfl f n (aK.item G)] (hs _ _)
 .split at h
  .rw[gi]at h;have(w,e,rfl):=h;show jT a b d s c.σ c.H g j v u Q I m o #[_,_,w,z.str f,ty.int f,by assumption,e,q c _ p rfl f n rfl] (hs _ _)
  .cases h
 .cases h
def BZ(f:C.K=X.K)(g:X.A.units+60<L')(hs:pf b)(i:PE X a (JM C j))(k:PE X b (JM C l)):PE X (.Subscript a b pos) (JM C (j >>= λx=>l >>= λy=>aA [x,y] >>= λ_=>M.Kb (iV x y.2))):=by
 rintro d s σ H Q I ⟨c0,rfl,rfl,m,h⟩;show Ď (two i k I m h λx y c B D v u s2 t n o p w=>?_);have(r,e,q):=da.mp w;show JJ (Fe f g hs t n o p e q) λ_ _ z=>by rw[t.hσ]at z;show z
def av.cut{S:df->Prop}(h:av C S H us vs)(lo hi:Option Int):av C S H (TM.cut us lo hi) (qE vs lo hi):=by
 unfold TM.cut qE;rw[h.len];show(h.drop _).take _
def wL{lo hi:Option Int}(h:HT.JS xs.length 0 lo=0/\HT.JS xs.length xs.length hi=xs.length):cut xs lo hi=xs:=by
 unfold cut;rw[h.1,h.2];simp
end
section
variable{prog:tr}{w:ux}{A:Ke}{E:cK->dt->Prop}{s:dt}
def iC{lo hi:Option Int}(b:V8 s.heap t a)(hs:s.heap.IsSliceOf c e f .none)(pl:U5 e lo)(g:U5 f hi)
  (d:HT.JS a.size 0 lo=0/\HT.JS a.size a.size hi=a.size) (h:Q (.ref t) s):du (d5 prog w) A (R' (.ref t) (.ref c)) Q E s:=by
 have(os,i,j,m):=id hs;have k:s.TypeIs (.ref c) "slice":=#[os,i,j]
 unfold R'
 try with_reducible show x4 ?_
 first|show bR (c6 ?_)|skip
 show bR (Ĕ b.typeIs (by decide) ?_);show bR (DD (name:=Oe "__getitem__") b.typeIs rz
  (ve rz b.typeIs ÿ ?_ (č _ _)))
 change du _ _ (UD (.ref t) >>= _) _ _ s;show bR (tupleItemsOf_ b ?_);show bR (Uc k ?_);rw[Ŕ (by decide)];show bR (HT.fe hs pl g ?_);have l:(((HT.JS a.size 0 lo:Nat):Int)==0&&(1:Int)==1&&(HT.JS a.size a.size hi - HT.JS a.size 0 lo)==a.size)=a8:=by
  rw[d.1,d.2];simp
 change du _ _ (if (((HT.JS a.size 0 lo:Nat):Int)==0&&(1:Int)==1&&(HT.JS a.size a.size hi - HT.JS a.size 0 lo)==a.size)=a8 then _ else _) _ _ s;rw[Ŕ l];change du (d5 prog w) A.in1 ((Î (il t) >>= λx=>pure (x==.type "tuple")) >>= _) _ _ s;show bR (bR (Uc b.typeIs (c6 ?_)));rw[Ŕ (by decide)];show bR (PD (c6 #[_,rfl,c6 h]))
end
section
variable{X:Cx}{C:Ct}{pins:List (df×Obj)}{s:dt}{c0 c c1:Cf}
variable{a b d e:lx}{es:List lx}{m ma mb md:M (Kd×U)}{ms:M (List (Kd×U))}{ta tb:M Bool}{pos p p2:Pos}
def B0:NO X (λx lo hi H Q=>∃a xs,x=.ref a/\Ki X.K H a xs/\(HT.JS xs.length 0 lo=0/\HT.JS xs.length xs.length hi=xs.length)/\Q (.ref a) H):=by
 intro pins s σ H x v o t lo hi u Q I i hs pl j h;have(a,xs,rfl,k,l,q):=h;cases i;have(n,r,g,hz):=I.tuple k;have f:n.toArray.size=xs.length:=by rw[d8];show r.length.symm
 show#["tuple",_,rz.lookup,g.typeIs,iC g hs pl j (by rw[f];show l) #[.ref a,H,I,rfl,q]]
abbrev tO(C:Ct)(m:M (Option Int)):TO:=λσ H Q=>∃c0:Cf,c0.σ=σ/\c0.H=H/\Ok C c0/\W m c0.st λi st'=>∀c,c.σ=σ->c.st=st'->Ok C c->Nx c0 c->Q i c.H
def jW:PO X bD (tO C (pure bD)):=by
 rintro pins s σ H Q I ⟨c0,rfl,rfl,f,h⟩;rw[aq]at h;show Bg pins s c0.σ c0.H Q I (h c0 rfl rfl f (Nx.refl c0))
def wM(f:PE X a (JM C ma)):PO X (a5 a) (tO C (ma >>= E6)):=by
 rintro pins s σ H Q I ⟨c0,rfl,rfl,g,h⟩;show Bh f pins s c0.σ c0.H Q I (aN g h λx c v t w=>?_);have(k,u):=x;unfold E6 at w;split at w
 .rename_i i e
  dsimp only at e
  subst e;rw[aq]at w;show#[i,t.rx.int t.ok,w c t.hσ rfl t.ok t.nx]
 .show(bg.mp w).elim
def Ff{lo hi:Option Int}(v:C.K=X.K)(i:c.σ=c0.σ)(f:Ok C c)(n:Nx c0 c)(l:aK C c0 c x.1 x.2 j)(h:gH x lo hi=a5 r)(q:cS C c0 Q r c.st):
  ((Hc X.K j lo hi c.H Q\/G_ X.K j lo hi c.H Q)\/(∃a xs,j=.ref a/\Ki X.K c.H a xs/\(HT.JS xs.length 0 lo=0/\HT.JS xs.length xs.length hi=xs.length)/\Q (.ref a) c.H))\/Hi j lo hi c.H Q:=by
 unfold gH at h;split at h
 .split at h
  .rename_i w;cases h;have(a',vs,ex,k,g):=l.list f;show .inl (.inl (.inl #[a',vs,ex,v▸k,λp o=>q.list i f n ((dJ w g).cut lo hi) p o]))
  .cases h
 .cases h;have(a',vs,ex,k,g):=l.tuple f;have t:=k;rw[v]at t;by_cases u:HT.JS vs.length 0 lo=0/\HT.JS vs.length vs.length hi=vs.length
  .show .inl (.inr #[a',vs,ex,t,u,?_]);show q c (.ref a') i rfl f n (aK.item #[a',vs,rfl,k,?_]);rw[wL (by rw[g.len];show u)];show g
  .show .inl (.inl (.inr #[a',vs,ex,t,u,λp o=>q.tupK i f n (g.cut lo hi) p o]))
 .split at h
  .cases h;show .inr #[_,l.str f,by assumption,q.flat i f n rfl]
  .cases h
 .cases h
def B1{lo hi:Option lx}(k:C.K=X.K)(n:PE X a (JM C ma))(hl:PO X lo (tO C ml))(o:PO X hi (tO C u)):
  PE X (.Subscript a (.Slice lo hi bD p2) pos) (JM C (ma >>= λx=>ml >>= λl=>u >>= λh=>aA [x] >>= λ_=>M.Kb (gH x l h))):=by
 show PE.weak (yd (((NO.or Bl En).or B0).or EI) n hl o) ?_;rintro σ H Q ⟨c0,rfl,rfl,y,h⟩;show aN y h λx c v t w=>?_;rw[ag]at w;show#[c,t.hσ,rfl,t.ok,w.mono λl st2 g z A B D G=>?_];subst B;rw[ag]at g;show#[z,A,rfl,D,g.mono λl' O f I i J L N=>?_];subst J;rw[ag,cj]at f;have(r,e,q):=da.mp f.2;have j:Nx c I:=G.trans N;show Ff k i L (t.nx.trans j) ((t.rx.w.on t.ok j (i.trans t.hσ.symm)).t f.1) e q
end
section
variable{X:Cx}{C:Ct}{pins:List (df×Obj)}{s:dt}{c0 c c1:Cf}
variable{a b d e:lx}{es:List lx}{m ma mb md:M (Kd×U)}{ms:M (List (Kd×U))}{ta tb:M Bool}{pos p p2:Pos}
abbrev Bf.val:Bf->cK
 |.len=>.builtin "len"|.sorted=>.builtin "sorted"|.repr=>.builtin "repr"|.max=>.builtin "max"|.min=>.builtin "min"|.all=>.builtin "all"|.any=>.builtin "any"
 |.list=>.type "list"|.tuple=>.type "tuple"|.str=>.type "str"|.int=>.type "int"
abbrev Bf.name:Bf->Str
 |.len=>"len"|.sorted=>"sorted"|.repr=>"repr"|.max=>"max"|.min=>"min"|.all=>"all"|.any=>"any"
 |.list=>"list"|.tuple=>"tuple"|.str=>"str"|.int=>"int"
def call_of(g:iG X f r)(I:Inv X pins c.σ c.H s)(rv:Vals vs us)(h:r vs c.H Q):‹X› (PB f us) (EP X pins c.σ Q) X.xe s:=g pins s c.σ c.H vs us Q I rv h
def cn(h:iW f rs=a5 r):∃x,rs=[x]/\f x=a5 r:=by
 unfold iW at h;split at h
 .show#[_,rfl,h]
 .cases h
def Dx(G:X.calm=a8)(z:C.K=X.K)(L:X.A.guards=a5 [])(N:X.A.units+60<L')(t:K' C c0 c rs vs)(I:Inv X pins c.σ c.H s)(rv:Vals vs us)(h:KP f rs=a5 r)(q:cS C c0 Q r c.st):
  ‹X› (PB f.val us) (EP X pins c.σ Q) X.xe s:=by
 have o:=t.hσ;have g:=t.ok;have n:=t.nx;cases f with
 |len =>
  have(x,rfl,hz):=cn (f:=λx=>(BF x.2).map λ(n:Nat)=>(Kd.loc,U.int (n:Int))) h;clear h;have h:=hz;clear hz;rw[gi]at h;have(k,e,rfl):=h;have(v,rfl,l):=t.one;have(O,D):=x;unfold BF at e;split at e
  .rename_i xs u;have u:D=.lst xs:=u;subst u;cases e;have(a',ws,ex,i,j):=l.list g;rw[j.len]at q;show call_of fH I rv #[a',ws,by rw[ex],.inl (z▸i),q.flat o g n rfl]
  .rename_i xs u;have u:D=.tup xs:=u;subst u;cases e;have(a',ws,ex,i,j):=l.tuple g;rw[z]at i;rw[j.len]at q;show call_of fH I rv #[a',ws,by rw[ex],.inr i,q.flat o g n rfl]
  .rename_i xs u;have u:D=.str xs:=u;subst u;split at e
   .cases e;show call_of pq I rv #[_,by rw[l.str g],by assumption,q.flat o g n rfl]
   .cases e
  .cases e
 |sorted =>
  have(x,rfl,hz):=cn (f:=EY) h;clear h;have h:=hz;clear hz;have(v,rfl,l):=t.one;unfold EY at h;split at h
  .rw[r3]at h;have(ss,e,h):=h;have B:=cV e;subst B;have(a',ws,ex,i,j):=l.list g;rw[av.strs]at j;subst j;split at h
   .cases h;show call_of kK I rv #[a',ss,by rw[ex],.inl (z▸i),by assumption,λp y=>q.list o g n (av.strs.mpr rfl) p y]
   .cases h
  .have(a',kvs,ex,i,j,_):=l.dict g;split at h
   .cases h;show call_of (j3 G) I rv #[a',kvs,_,by rw[ex],i,j,by assumption,λp y=>q.list o g n (av.strs.mpr rfl) p y]
   .cases h
  .rw[r3]at h;have(ss,e,h):=h;have B:=cV e;subst B;have(a',ws,ex,i,j):=l.tuple g;rw[z]at i;rw[av.strs]at j;subst j;split at h
   .cases h;show call_of kK I rv #[a',ss,by rw[ex],.inr i,by assumption,λp y=>q.list o g n (av.strs.mpr rfl) p y]
   .cases h
  .cases h
 |list =>
  have(x,rfl,hz):=cn (f:=EZ) h;clear h;have h:=hz;clear hz;have(v,rfl,l):=t.one;unfold EZ at h;split at h
  .have(a',ws,ex,i,j):=l.list g;split at h
   .cases h;show call_of jk I rv #[a',ws,by rw[ex],.inl (z▸i),λp y=>q.list o g n (dJ (by assumption) j) p y]
   .cases h
  .have(a',ws,ex,i,j):=l.tuple g;rw[z]at i;split at h
   .cases h;show call_of jk I rv #[a',ws,by rw[ex],.inr i,λp y=>q.list o g n (dJ (by assumption) j) p y]
   .cases h
  .cases h
 |tuple =>
  have(x,rfl,hz):=cn (f:=E1) h;clear h;have h:=hz;clear hz;have(v,rfl,l):=t.one;unfold E1 at h;split at h
  .have(a',ws,ex,i,j):=l.list g;cases h;show call_of iH I rv #[a',ws,by rw[ex],.inl #[z▸i,λp y=>q.tupK o g n j p y]]
  .have(a',ws,ex,i,j):=l.tuple g;have J:=i;rw[z]at J;cases h;show call_of iH I rv #[a',ws,by rw[ex],.inr #[J,q c (.ref a') o rfl g n (aK.item #[a',ws,rfl,i,j])]]
  .cases h
 |str =>
  have(x,rfl,hz):=cn (f:=yI) h;clear h;have h:=hz;clear hz;have(v,rfl,l):=t.one;unfold yI at h;split at h
  .split at h
   .cases h;show call_of oW I rv #[_,by rw[l.int g],by assumption,q.flat o g n rfl]
   .cases h
  .cases h
 |all =>
  have(x,rfl,hz):=cn (f:=E2) h;clear h;have h:=hz;clear hz;have(v,rfl,l):=t.one;unfold E2 at h;split at h
  .rw[gi]at h;have(bs,e,rfl):=h;have B:=mz e;subst B;have(a',ws,ex,i,j):=l.list g;have:=j.WS;subst this;show call_of (yq G) I rv #[a',bs,by rw[ex],z▸i,q.flat o g n rfl]
  .cases h
 |_=>cases h
def B3{id:String}(g:X.calm=a8)(i:C.K=X.K)(j:X.A.guards=a5 [])(k:X.A.units+60<L')(l:f.val=.builtin id)(n:Gl X x)(o:X.mg x=bD)(u:vl x=a5 (.builtin id))(v:x≠"__name__")(y:(x==("__debug__":Str))=bL)
  (B:PA X (e::es) (K8 C ms)) (D:gj (e::es) X.env=(bL,tj e X.env)::gj es X.env) (G:(uv pos (gj es X.env)).any (·.1)=bL) :
  PE X (.Call (.Name x p) (e::es) [] pos) (JM C (ms >>= λrs=>aA rs >>= λ_=>M.Kb (KP f rs))):=by
 rintro pins s σ H Q I ⟨c0,rfl,rfl,J,h⟩;show tp (dN I n o u ?_ v y);show Ms (JJ (args B I J h pos) λus s1 ⟨rs,c,vs,t,L,rv,w⟩=>?_) D G;have(r,e,q):=da.mp w;have z:=Dx g i j k t L rv e q;rw[l,t.hσ]at z;show z
def B4(g:X.calm=a8)(i:C.K=X.K)(j:X.A.guards=a5 [])(k:X.A.units+60<L')(l:f.val=.type T)(n:Gl X x)(o:X.mg x=bD)(u:vl x=a5 (.type T))(v:x≠"__name__")(y:(x==("__debug__":Str))=bL)
  (B:PA X (e::es) (K8 C ms)) (D:gj (e::es) X.env=(bL,tj e X.env)::gj es X.env) (G:(uv pos (gj es X.env)).any (·.1)=bL) :
  PE X (.Call (.Name x p) (e::es) [] pos) (JM C (ms >>= λrs=>aA rs >>= λ_=>M.Kb (KP f rs))):=by
 rintro pins s σ H Q I ⟨c0,rfl,rfl,J,h⟩;show tp (dN I n o u ?_ v y);show K1 (JJ (args B I J h pos) λus s1 ⟨rs,c,vs,t,L,rv,w⟩=>?_) D G;have(r,e,q):=da.mp w;have z:=Dx g i j k t L rv e q;rw[l,t.hσ]at z;show z
@[reducible]noncomputable def Pk(P:tr)(w:ux)(K:PySem.W.Frag)(H:Hp)(f:df->Prop):Ct:=#[P,w,K,H,f,λ_=>False,λ_ _=>False]
structure Back(C:Ct)(H H':Hp)(S':df->Prop)(k:Kd)(u:U)(v:V):Prop where
 same:fI H H'
 new:∀a,S' a->H a=bD/\∃o,H' a=a5 o
 own:k=.own->∃r,v=.ref r/\H r=bD/\¬S' r/\dU C S' H' r u
 loc:k=.loc->Rep C S' H' u v
 any:k=.any->Rep C (PS C S') H' u v
abbrev spT(P:tr)(w:ux)(K:PySem.W.Frag)(F:List U->Option (Ex (Kd×U)))(g:Nat):Sp:=λvs H Q E=>vs.length=g/\∃us r f,F us=a5 r/\(∀a,f a->Lz H a)/\av (Pk P w K H f) f H us vs/\match r with
 |.ok (k,u)=>(k=.own\/k=.loc\/k=.any)/\∀v H' S',Back (Pk P w K H f) H H' S' k u v->Q v H'
 |.exc c=>∀C H',PySem.W.nsIn K hQ c=a5 (a5 (.ref C))->fI H H'->E (.ref C) bD H'
def K'.read(t:K' C c0 c rs vs):av C (Lz c.H) c.H (rs.map (·.2)) vs:=by
 have f:∀(l:List (Kd×U)) (w:List V),dI C c0 c l w->a_ l c.st->av C (Lz c.H) c.H (l.map (·.2)) w:=by
  intro l;induction l with
  |nil=>intro w h _;show h
  |cons r l g =>
   intro w h hs;have(v,t',rfl,i,j,_):=h;rw[ft]at hs;show#[v,t',rfl,(i.t hs.1).read t.ok,g t' j hs.2]
 show f rs vs t.rep t.Oo
def Back.here(hk:k=.own\/k=.loc)(i:c.σ=c0.σ)(f:Ok C c)(n:Nx c0 c)(q:j.Eqv C)(h:Back j c.H H' S' k u v)(w:cS C c0 Q (k,u) c.st):Q v H':=by
 have(l,t):=f.grow (S':=λa=>c.S a\/S' a) h.same (λa z=>z.imp id λz=>h.new a z) λa=>.inl;have x:=n.trans t;show w {c with H:=H',S:=λa=>c.S a\/S' a} v i rfl l x ?_;rcases hk with rfl|rfl
 .have(r,e,g,y,A):=h.own rfl;have(G,B,I,J,D):=f.iB g;show#[r,e,n.none g,λz=>z.elim B y,D,(A.cg q).mv (.up λa=>.inr) λo q=>q]
 .show((h.loc rfl).cg q).mv (.up λa=>.inr)
def yT(o:C.P=X.prog)(x:C.w=X.w)(y:C.K=X.K)(L:Γ f=F)(hk:∀us k u,F us=a5 (.ok (k,u))->(k=.own\/k=.loc\/k=.any)/\us.length=B)
  (G:eO X.prog X.w X.K X.mg X.base (LH X.prog X.w) k fa N ps (spT X.prog X.w X.K F B)) (O:cF k X.A) (T:Gl X f) (Y:X.mg f=a5 (.ref fa)) (Rc:PySem.W.keepIn X.K (.ref fa)=a8) (j:Binds X.K N ps [])
  (LP:(f==("__debug__":Str))=bL) (ha:PA X (e::es) (K8 C ms)) (he:gj (e::es) X.env=(bL,tj e X.env)::gj es X.env) (KG:(uv pos (gj es X.env)).any (·.1)=bL) :
  PE X (.Call (.Name f p) (e::es) [] pos) (JM C (ms >>= λrs=>aA rs >>= λ_=>mj Γ f (rs.map (·.2)))):=by
 rintro pins s σ H Q I ⟨c0,rfl,rfl,ok,h⟩;show tp (eQ I T Y ?_ LP);show PySem.W.callWith_K (h₀:=X.base) I.ok.mod.N2 Rc (JJ (args ha I ok h pos) λus s1 ⟨rs,c,vs,t,D,rv,w⟩=>#[D.Li,?_]) he KG;have(r,st',g,q):=w;unfold mj at g;rw[L]at g;cases i:F (rs.map (·.2)) with
 |none=>rw[i]at g;cases g
 |some r' =>
  rw[i]at g;split at g
  .cases g
  .rename_i z;cases z
  rename_i U_ e3;cases e3;cases g;have(l,u):=r;have(k0,k2):=hk _ _ _ i;have k1:l=.own\/l=.loc:=by
   rcases k0 with z|z|z
   .show .inl z
   .show .inr z
   .subst z;show(U_ u rfl).elim
  have n:C.Eqv (Pk X.prog X.w X.K c.H (Lz c.H)):=#[o,x,y]
  have U':(Pk X.prog X.w X.K c.H (Lz c.H)).Eqv C:=#[o.symm,x.symm,y.symm]
  have J:=t.read;have Kw:spT X.prog X.w X.K F B vs c.H (λv H'=>Q v H') E0:=#[by rw[<-J.len];show k2,rs.map (·.2),.ok (l,u),Lz c.H,i,λ_ z=>z,J.cg n,k0,λv H' S' j=>j.here k1 t.hσ t.ok t.nx U' q]
  have z:=oZ (Q:=Q) G O j .nil u7 D rv (by rw[oD];show Kw);rw[t.hσ]at z;show z
end
section
abbrev Mf.id:Mf->String
 |.split=>"str.split"|.join=>"str.join"|.partition=>"str.partition"|.endswith=>"str.endswith"
abbrev Mf.name:Mf->Str
 |.split=>"split"|.join=>"join"|.partition=>"partition"|.endswith=>"endswith"
def yU(h:k_ f u rs=a5 r):∃x,u=.str x:=by
 unfold k_ at h;split at h
 .show#[_,rfl]
 .show#[_,rfl]
 .show#[_,rfl]
 .show#[_,rfl]
 .cases h
def Fg(y:C.K=X.K)(t:K' C c0 c (x::rs) (d::vs))(I:Inv X a c.σ c.H s)(j:RelV d v)(rv:Vals vs us)(h:k_ f x.2 rs=a5 r)(q:cS C c0 Q r c.st):
  ‹X› (PB (.builtin f.id) (v::us)) (EP X a c.σ Q) X.xe s:=by
 have k:=t.hσ;have b:=t.ok;have n:=t.nx;have(z,B):=x;have hs:=ft.mp t.Oo;obtain⟨L,N,D,m,g,-⟩:=t.rep;cases D;have l:aK C c0 c z B d:=m.t hs.1;have one:∀{r:Kd×U},dI C c0 c [r] vs->a_ [r] c.st->∃v,vs=[v]/\aK C c0 c r.1 r.2 v:=λ{r} h s=>by
  have(v,t',rfl,m,g,_):=h;cases g;show#[v,rfl,m.t s]
 dsimp only at h
 unfold k_ at h;split at h
 .have(w,rfl,ty):=one g hs.2;split at h
  .rename_i i;cases h;show yp a s c.σ c.H d [w] v us Q I j rv #[_,_,l.str b,by rw[ty.str b],i.1,i.2,λp o=>q.list k b n (av.strs.mpr rfl) p o]
  .cases h
 .rw[r3]at h;have(ss,e,h):=h;have G:=cV e;subst G;have(w,rfl,ty):=one g hs.2;have(a',ws,ex,J,u):=ty.list b;rw[av.strs]at u;subst u;split at h
  .cases h;show Bt a s c.σ c.H d [w] v us Q I j rv #[_,a',ss,l.str b,by rw[ex],y▸J,by assumption,q.flat k b n rfl]
  .cases h
 .have(w,rfl,ty):=one g hs.2;cases h;show qM a s c.σ c.H d [w] v us Q I j rv #[_,_,l.str b,by rw[ty.str b],q.flat k b n rfl]
 .have(w,rfl,ty):=one g hs.2;split at h
  .rename_i i;cases h;show pC a s c.σ c.H d [w] v us Q I j rv #[_,_,l.str b,by rw[ty.str b],i.1,i.2,λp o=>?_];show q.tup k b n #[_,_,rfl,rfl,_,_,rfl,rfl,_,_,rfl,rfl,rfl] p o
  .cases h
 .cases h
def B5(J:C.K=X.K)(slot:Ĩ "str" name f.id)(L:Î (.builtin f.id)=pure (.type "method_descriptor"))(ho:PE X o (JM C m))(N:PA X (e::es) (K8 C ms))
  (O:Pn o name X.env (tj o X.env)=tj o X.env)
  (T:((uv d (gj (e::es) X.env)).all (λx=>!x.1)&&(Oc d (Es [] X.env)).all (λx=>x.1.isSome)
   && b7 ((e::es).length+([]:List O1).length+(if ([]:List O1).isEmpty then 0 else 1)<30))=a8)
  (Y:(apos.endLine==d.line)=a8) (hs:gj (e::es) X.env=(bL,tj e X.env)::gj es X.env) (Mg:(uv d (gj es X.env)).any (·.1)=bL) :
  PE X (.Call (.Attribute o name apos) (e::es) [] d) (JM C (m >>= λx=>ms >>= λrs=>aA (x::rs) >>= λ_=>M.Kb (k_ f x.2 rs))):=by
 rintro a s σ H Q I ⟨c0,rfl,rfl,ok,h⟩;show Í O T Y rfl (JJ (ho a s c0.σ c0.H (λj n=>∃x b,b.H=n/\Rm C c0 b x j/\W (ms >>= λrs=>aA (x::rs) >>= λ_=>M.Kb (k_ f x.2 rs)) b.st (cS C c0 Q)) I (aN ok h λx c v t w=>#[x,c,rfl,t,w])) ?_);rintro v s1 ⟨j,n,p,u,x,b,rfl,t,w⟩;have Pl:∃z,x.2=.str z:=by
  rw[ag]at w;have(rs,st2,_,w):=w;rw[ag]at w;have(_,Kc,_,w):=w;have(r,e,_):=da.mp w;show yU e
 have(z,hz):=Pl;have y:=t.rx;rw[hz]at y;have ev:=y.str t.ok;have ty:Sb X.K "str" j b.H:=by rw[ev];rfl
 have(h1,h2):=pv p u ty;show#["str",f.id,PySem.F.plainAttrs_str,slot,L,h1,h2,?_];rw[ag]at w;have A:=N d a s1 c0.σ b.H (λvs B=>∃rs g,g.H=B/\K' C c0 g (x::rs) (j::vs)/\W (M.Kb (k_ f x.2 rs)) g.st (cS C c0 Q)) p ⟨b,t.hσ,rfl,t.ok,w.mono λrs st2 k g vs D e4 J' G r2=>by
  rw[ag,cj]at k;subst e4;show#[rs,g,rfl,#[D,J',t.nx.trans G,#[j,vs,rfl,t.rx.w.on t.ok G (D.trans t.hσ.symm),r2.from t.nx,λhk i r' v' e5 e6 KC=>mw t.rx.w (r2.get e5 e6) hk KC],k.1],k.2]⟩
 rw[hs]at A ⊢;show Ln (by change(bL||(uv d (gj es X.env)).any (·.1))=bL;rw[Mg]<;>rfl) (MA ?_);show JJ A ?_;rintro us s2 ⟨vs,B,I2,r2,rs,g,rfl,l,w2⟩;have(r,e,q):=da.mp w2;have z:=Fg J l (by rw[l.hσ];show I2) u r2 e q;rw[l.hσ]at z;show z
end
section
variable{X:Cx}{C:Ct}{pins:List (df×Obj)}{s:dt}{c0 c c1:Cf}
variable{e:lx}{es:List lx}{ms:M (List (Kd×U))}{pos p p2 pos2:Pos}
abbrev B2.out:B2->cK
 |.Nt=>.type "tuple"|.LY=>.type "list"|.sset=>.builtin "sorted"|.jU=>.builtin "len"
abbrev B2.Sz:B2->cK
 |.Nt=>.type "reversed"|.LY=>.type "reversed"|.sset=>.type "set"|.jU=>.type "set"
abbrev B2.pM:B2->Str
 |.Nt=>"tuple"|.LY=>"list"|.sset=>"sorted"|.jU=>"len"
abbrev B2.jz:B2->Str
 |.Nt=>"reversed"|.LY=>"reversed"|.sset=>"set"|.jU=>"set"
theorem av.rev{S:df->Prop}:∀{us:List U}{vs:List V},av C S H us vs->av C S H us.reverse vs.reverse
 |[],vs,h=>by cases h;show rfl
 |u::us,vs,h=>by
  have(v,r,rfl,a,b):=h;rw[Sf,Sf];show(av.rev b).append #[v,[],rfl,a,rfl]
def wN(g:C.K=X.K)(i:Ok C c)(j:aK C c0 c k u v)(h:wF u=a5 ss):∃a ys,v=.ref a/\(Kh X.K c.H a (ys.map V.str)\/Ki X.K c.H a (ys.map V.str))/\ys.length+1<Nf/\ss=bq ys:=by
 unfold wF at h;split at h
 .rw[r3]at h;have(ys,e,h):=h;have f:=cV e;subst f;have(a',ws,ex,d,b):=j.list i;rw[av.strs]at b;subst b;split at h
  .cases h;show#[a',ys,ex,.inl (g▸d),by assumption,rfl]
  .cases h
 .rw[r3]at h;have(ys,e,h):=h;have f:=cV e;subst f;have(a',ws,ex,d,b):=j.tuple i;rw[av.strs]at b;subst b;rw[g]at d;split at h
  .cases h;show#[a',ys,ex,.inr d,by assumption,rfl]
  .cases h
 .cases h
def Fh(j:X.calm=a8)(k:C.K=X.K)(t:K' C c0 c rs vs)(I:Inv X pins c.σ c.H s)(rv:Vals vs us)(h:tD f rs=a5 r)(q:cS C c0 Q r c.st):
  ‹X› (PB f.Sz us) (λv s1=>‹X› (PB f.out [v]) (EP X pins c.σ Q) X.xe s1) X.xe s:=by
 have m:=t.hσ;have a:=t.ok;have n:=t.nx;cases f with
 |LY =>
  have(x,rfl,hz):=cn (f:=E3) h;clear h;have h:=hz;clear hz;have(v,rfl,d):=t.one;unfold E3 at h;split at h
  .have(a',ws,ex,b,g):=d.tuple a;rw[k]at b;subst ex;have(u,rfl,i):=vals1 rv;cases i;split at h
   .cases h;show yB j I b λl hl=>q.list m a n (dJ (by assumption) g).rev l hl
   .cases h
  .cases h
 |jU =>
  have(x,rfl,hz):=cn (f:=λx:Kd×U=>(wF x.2).map λss:List Str=>(Kd.loc,U.int (ss.length:Int))) h;clear h;have h:=hz;clear hz;have(ss,e,rfl):=gi.mp h;have(v,rfl,d):=t.one;have(a',ys,rfl,b,g,rfl):=wN k a d e;have(u,rfl,i):=vals1 rv;cases i;show pH j I b g λS h' z o y=>sX y o (q.flat m a n rfl)
 |_=>cases h
def vg:∀f:B2,vl f.pM=a5 f.out/\vl f.jz=a5 f.Sz/\f.pM≠"__name__"/\f.jz≠"__name__"/\(f.pM==("__debug__":Str))=bL/\(f.jz==("__debug__":Str))=bL:=by
 intro f;cases f<;>show#[by decide +kernel,by decide +kernel,by decide +kernel,by decide +kernel,by decide +kernel,by decide +kernel]
def Fi(f:B2):∃T,f.Sz=.type T:=by cases f<;>show#[_,rfl]
def Fj(f:B2):(∃T,f.out=.type T)\/∃T,f.out=.builtin T:=by cases f<;>first|show .inl ⟨_,rfl⟩|show .inr ⟨_,rfl⟩
def B6{M:Model}{E:cK->dt->Prop}(h:du M A t (λv a=>du M A (PB (.type T) [v]) Q E a) E s):du M A (UX pos (.type T) [] [(bL,t)] []) Q E s :=
 PySem.callWith_type rfl (MA (NY (mu h (λ_ _ b=>Qc b) λ_ _ e=>e)))
def yV{M:Model}{E:cK->dt->Prop}(h:du M A t (λv a=>du M A (PB (.builtin T) [v]) Q E a) E s):du M A (UX pos (.builtin T) [] [(bL,t)] []) Q E s :=
 Ln rfl (MA (NY (mu h (λ_ _ b=>Qc b) λ_ _ e=>e)))
def yW(b:X.calm=a8)(d:C.K=X.K)(g:Gl X f.jz)(i:X.mg f.jz=bD)
  (j:PA X (e::es) (K8 C ms)) (k:gj (e::es) X.env=(bL,tj e X.env)::gj es X.env) (l:(uv pos2 (gj es X.env)).any (·.1)=bL)
  (I:Inv X pins c0.σ c0.H s) (m:Ok C c0) (h:W (ms >>= λrs=>aA rs >>= λ_=>M.Kb (tD f rs)) c0.st (cS C c0 Q)) :
  ‹X› (tj (.Call (.Name f.jz p2) (e::es) [] pos2) X.env) (λv s1=>‹X› (PB f.out [v]) (EP X pins c0.σ Q) X.xe s1) X.xe s:=by
 have(b1,n,b3,b4,B,o):=vg f;show tp (dN I g i n ?_ b4 o);have a:‹X› (Ï (uv pos2 (gj (e::es) X.env))) (λus s1=>‹X› (PB f.Sz us) (λv s1=>‹X› (PB f.out [v]) (EP X pins c0.σ Q) X.xe s1) X.xe s1) X.xe s :=
  JJ (args j I m h pos2) λus s1 u=>by
   have(rs,c,vs,t,x,rv,w):=u;have(r,e,q):=da.mp w;have z:=Fh b d t x rv e q;rw[t.hσ]at z;show z
 have(T,y):=Fi f;rw[y]at a ⊢;show K1 a k l
def B7(d:X.calm=a8)(g:C.K=X.K)(i:Gl X f.pM)(j:X.mg f.pM=bD)(k:Gl X f.jz)(l:X.mg f.jz=bD)
  (m:PA X (e::es) (K8 C ms)) (n:gj (e::es) X.env=(bL,tj e X.env)::gj es X.env) (o:(uv pos2 (gj es X.env)).any (·.1)=bL) :
  PE X (.Call (.Name f.pM p) [.Call (.Name f.jz p2) (e::es) [] pos2] [] pos) (JM C (ms >>= λrs=>aA rs >>= λ_=>M.Kb (tD f rs))):=by
 rintro pins s σ H Q I ⟨c0,rfl,rfl,q,h⟩;have(b1,u,b3,b4,r,v):=vg f;show tp (dN I i j b1 ?_ b3 r);have a:=yW (p2:=p2) (pos2:=pos2) d g k l m n o I q h;have eb:uv pos (gj [.Call (.Name f.jz p2) (e::es) [] pos2] X.env)=[(bL,tj (.Call (.Name f.jz p2) (e::es) [] pos2) X.env)]:=rfl;have t:Oc pos (Es [] X.env)=[]:=rfl;rw[eb,t];rcases Fj f with⟨T,b⟩|⟨T,b⟩
 .rw[b]at a ⊢;show B6 a
 .rw[b]at a ⊢;show yV a
end
section
variable{X:Cx}{C:Ct}{pins:List (df×Obj)}{s:dt}{c0 c c1:Cf}
variable{a b d e o tg:lx}{es:List lx}{m ma mb md:M (Kd×U)}{ms:M (List (Kd×U))}{ta tb:M Bool}{pos p p2 apos JC:Pos}
abbrev mB(rs:List (Kd×U))(c f:Cf):Prop:=∀j u,(Kd.bor j,u)∈rs->f.σ[j]?=c.σ[j]?
abbrev Walk(C:Ct)(c:Cf)(rs:List (Kd×U))(xs:List (Kd×U))(J:It):Prop:=∀f,Ok C f->Ns c f->mB rs c f->a_ rs f.st ->
 (∀(i:Nat) r,xs[i]?=a5 r->(r.1=.loc\/r.1=.any)/\J.go i f.H/\∀x H',J.R8 i f.H x H'->∃g:Cf,g.H=H'/\g.σ=f.σ/\g.st=f.st/\Ok C g/\Nx f g/\aK C f g r.1 r.2 x) /\
 ∀i:Nat,xs.length<=i->J.stop i f.H
abbrev Nw(C:Ct)(f:Ik)(ms:M (List (Kd×U))):TI:=λσ H R=>∃c0:Cf,c0.σ=σ/\c0.H=H/\Ok C c0/\W (ms >>= λrs=>aA rs >>= λ_=>M.Kb (Mo f rs) >>= λxs=>pure (rs,xs)) c0.st λq st' =>
 ∀c J,c.σ=σ->c.st=st'->Ok C c->Nx c0 c->a_ q.1 c.st->Walk C c q.1 q.2 J->R J c.H
def aK.walk(g:Ok C c)(n:Ns c f)(i:mB [r] c f)(hs:a_ [r] f.st)(h:aK C c0 c r.1 r.2 v):aK C c0 f r.1 r.2 v :=
 (h.w.WQ g n λj e=>i j r.2 (by rw[<-e];simp)).t hs
def yX(k:Kd):kE k=.loc\/kE k=.any:=by cases k<;>simp[kE]
def wO(z:C.K=X.K)(A:Ok C c)(h:aK C c0 c k (.lst us) (.ref a')):Walk C c [(k,.lst us)] (us.map λu=>(kE k,u)) (Tt X.K a'):=by
 intro l q n B hs;have h':=aK.walk (r:=(k,.lst us)) A n B hs h;have(G,vs,e,f,t):=h'.list q;cases e;rw[z]at f;show#[λi r w=>?_,λi hi=>#[vs,f,by rw[<-t.len];simpa using hi]];rw[n9,gi]at w;have(u,D,rfl):=w;have(v,y,g):=t.get D;show#[yX k,#[vs,v,f,y],λx H' j=>?_];have(e,j):=j;subst e;have:=j vs f;rw[y]at this;cases this;show#[l,rfl,rfl,rfl,q,Nx.refl l,aK.item g]
def tI(z:C.K=X.K)(A:Ok C c)(h:aK C c0 c k (.tup us) (.ref a')):Walk C c [(k,.tup us)] (us.map λu=>(kE k,u)) (Tu X.K a'):=by
 intro l q n B hs;have h':=aK.walk (r:=(k,.tup us)) A n B hs h;have(G,vs,e,f,t):=h'.tuple q;cases e;rw[z]at f;show#[λi r w=>?_,λi hi=>#[vs,f,by rw[<-t.len];simpa using hi]];rw[n9,gi]at w;have(u,D,rfl):=w;have(v,y,g):=t.get D;show#[yX k,#[vs,v,f,y],λx H' j=>?_];have(e,j):=j;subst e;have:=j vs f;rw[y]at this;cases this;show#[l,rfl,rfl,rfl,q,Nx.refl l,aK.item g]
def yY:Walk C c [(k,.str x)] (x.cps.toList.map λch=>(.loc,.str #[#v[ch]])) (Uu x):=by
 intro f l n t hs;show#[λi r g=>?_,λi hi=>by change x.cps.toList.length<=i;simpa using hi];rw[n9,gi]at g;have(ch,h,rfl):=g;show#[.inl rfl,(cL.mp h).1,λy H' q=>?_];have(e,u,j,rfl):=q;subst e;rw[h]at j;cases j;show#[f,rfl,rfl,rfl,l,Nx.refl f,rfl]
def mC{lo:Int}:Walk C c rs ((dV n).map λi:Nat=>(Kd.loc,U.int (lo+(i:Int)))) (QG lo n):=by
 intro g k nx q hs;show#[λi r h=>?_,λi hi=>by change n<=i;simpa using hi];rw[n9,gi]at h;have(j,f,rfl):=h;have hi:i<n:=by simpa using(cL.mp f).1
 rw[Ç hi]at f;cases f;show#[.inl rfl,hi,λy H' l=>?_];have(e,rfl):=l;subst e;show#[g,rfl,rfl,rfl,k,Nx.refl g,rfl]
def Fm(j:C.K=X.K)(q:PE X a (JM C ma)):PI X tg a (Nw C .seq (ma >>= λr=>pure [] >>= λrs=>pure (r::rs))):=by
 rintro pins s σ H R I ⟨c0,rfl,rfl,t,h⟩;rw[ag,ag]at h;have(r,st1,w,h):=h;rw[ag,aq,aq,ag,cj,ag]at h;have(y,h):=h;have(xs,l,h):=da.mp h;rw[aq]at h;have(k,u):=r;cases u with
 |lst us =>
  cases l;show A9 q pins s c0.σ c0.H R I #[c0,rfl,rfl,t,_,st1,w,λc v i hs g n f=>?_];have(a',vs,rfl,z,B):=f.list g;subst hs;show#[a',rfl,#[vs,j▸z],h c _ i rfl g n y (wO j g f)]
 |tup us =>
  cases l;show Ed q pins s c0.σ c0.H R I #[c0,rfl,rfl,t,_,st1,w,λc v i hs g n f=>?_];have(a',vs,rfl,z,B):=f.tuple g;subst hs;have A:=z;rw[j]at A;show#[a',rfl,#[vs,A],h c _ i rfl g n y (tI j g f)]
 |str x =>
  cases l;show EH q pins s c0.σ c0.H R I #[c0,rfl,rfl,t,_,st1,w,λc v i hs g n f=>?_];subst hs;show#[_,f.str g,h c _ i rfl g n y yY]
 |_=>cases l
def tJ{k:List (Kd×U)->M β}{Post:β->aw->Prop}(g:Ok C c0)(h:W (ms >>= λrs=>aA rs >>= λ_=>k rs) c0.st Post)
  (hz:∀rs c vs,K' C c0 c rs vs->W (k rs) c.st Post->Z vs c.H):K8 C ms c0.σ c0.H Z:=by
 rw[ag]at h;show#[c0,rfl,rfl,g,h.mono λrs st1 f c1 vs i j l n r1=>?_];rw[ag,cj]at f;subst j;show hz rs c1 vs #[i,l,n,r1,f.1] f.2
def B8(i:Gl X "range")(j:X.mg "range"=bD)(hs:gj [a] X.env=[(bL,tj a X.env)])(k:PA X [a] (K8 C ms)):PI X tg (.Call (.Name "range" p) [a] [] pos) (Nw C .Kg ms):=by
 rintro pins s σ H R I ⟨c0,rfl,rfl,l,h⟩;show v5 i j k hs pins s c0.σ c0.H R I (tJ l h λrs c vs t w=>?_);rw[ag]at w;have(xs,g,w):=da.mp w;rw[aq]at w;have(x,rfl,hz):=cn (f:=wG) g;clear g;have g:=hz;clear hz;have(v,rfl,n):=t.one;unfold wG at g;split at g
 .split at g
  .rename_i q;cases g;show#[_,by rw[n.int t.ok],⋯,⋯,w c _ t.hσ rfl t.ok t.nx t.Oo mC]
  .cases g
 .cases g
def B9(g:Gl X "range")(i:X.mg "range"=bD)(hs:gj [a,b] X.env=[(bL,tj a X.env),(bL,tj b X.env)])(j:gj [b] X.env=[(bL,tj b X.env)])(k:PA X [a,b] (K8 C ms)):PI X tg (.Call (.Name "range" p) [a,b] [] pos) (Nw C .LZ ms):=by
 rintro pins s σ H R I ⟨c0,rfl,rfl,l,h⟩;show v7 g i k hs j pins s c0.σ c0.H R I (tJ l h λrs c vs t w=>?_);rw[ag]at w;have(xs,f,w):=da.mp w;rw[aq]at w;have f:E4 rs=a5 xs:=f;unfold E4 at f;split at f
 .split at f
  .rename_i q;cases f;have(v,v',rfl,n,ty):=t.two;show#[_,_,by rw[n.int t.ok,ty.int t.ok],⋯,w c _ t.hσ rfl t.ok t.nx t.Oo mC]
  .cases f
 .cases f
def qX{k:Kd}{us:List U}{u0:U}{a':df}{t:Hp->List V->Prop}(B:∀f,Ok C f->Ns c f->mB [(k,u0)] c f->a_ [(k,u0)] f.st->∃vs,t f.H vs/\av C (SK C f k) f.H us vs):Walk C c [(k,u0)] (us.zipIdx.map λp=>(kE k,.tup [.int p.2,p.1])) (P9 t):=by
 intro f g n D hs;have(vs,h,w):=B f g n D hs;show#[λi r y=>?_,λi hi=>#[vs,h,by rw[<-w.len];simpa using hi]];rw[n9,gi]at y;have(p,z,rfl):=y;rw[T8,gi]at z;have(u,G,rfl):=z;have(v,A,j):=w.get G;show#[yX k,#[vs,v,h,A],λx H' l=>?_];have(p,I,rfl,l):=l;have J:=l vs v h A;subst J;have(L,q):=g.lay (o:=.tup [.int i,v]) I;show#[{f with H:=upd f.H p (.tup [.int i,v])},rfl,rfl,rfl,L,q,aK.item ?_];have r2:av C (SK C f k) f.H [.int ((0+i:Nat):Int),u] [.int (i:Int),v]:=by
  rw[VM];show#[_,_,rfl,rfl,_,_,rfl,j,rfl]
 cases k<;>show#[p,_,rfl,Ki.of ar,by first|show r2.mv (g.Og q)|show r2.mv (g.mv q)]
def Fo{es:List lx}{z:Nat}{ps:Pos}(k:C.K=X.K)(A:Gl X "enumerate")(B:X.mg "enumerate"=bD)(hs:gj [a] X.env=[(bL,tj a X.env)])(D:PA X [a] (K8 C ms)):PI X (.Tuple es z ps) (.Call (.Name "enumerate" p) [a] [] pos) (Nw C .ON ms):=by
 rintro pins s σ H R I ⟨c0,rfl,rfl,G,h⟩;show Bu A B D hs pins s c0.σ c0.H R I (tJ G h λrs c vs t w=>?_);rw[ag]at w;have(xs,i,w):=da.mp w;rw[aq]at w;have(x,rfl,hz):=cn (f:=E5) i;clear i;have i:=hz;clear hz;have(v,rfl,l):=t.one;unfold E5 at i;split at i
 .cases i;have(a',ws,q,g,j):=l.list t.ok;subst q;show#[a',rfl,.inl #[#[ws,k▸g],w c _ t.hσ rfl t.ok t.nx t.Oo ?_]];show qX (a':=a') λJ r n u y=>?_;have(L,vs,e,g,j):=(aK.walk t.ok n u y l).list r;cases e;show#[vs,k▸g,j]
 .cases i;have(a',ws,q,g,j):=l.tuple t.ok;subst q;rw[k]at g;show#[a',rfl,.inr #[#[ws,g],w c _ t.hσ rfl t.ok t.nx t.Oo ?_]];show qX (a':=a') λJ r n u y=>?_;have(L,vs,e,g,j):=(aK.walk t.ok n u y l).tuple r;cases e;rw[k]at g;show#[vs,g,j]
 .cases i
def Ok.put(t:Ok C c)(n:Nx c0 c)(hi:i<c.σ.length)(hk:k=.own\/k=.loc\/k=.any)(Lb:Ok C c0)(h:aK C c0 c k u v):
  Ok C {c with σ:=c.σ.set i (a5 v),st:=c.st.set i (a5 (k,u))}/\Nx c0 {c with σ:=c.σ.set i (a5 v),st:=c.st.set i (a5 (k,u))}:=by
 have O:i<c.st.length:=by rw[t.len];show hi
 have Q:∀(j:Nat) k' u',(c.st.set i (a5 (k,u)))[j]?=a5 (a5 (k',u'))->j≠i->c.st[j]?=a5 (a5 (k',u')):=λj k' u' e ne=>by rw[f7 (nT ne)]at e;show e
 have KQ:∀(j:Nat) v',(c.σ.set i (a5 v))[j]?=a5 (a5 v')->j≠i->c.σ[j]?=a5 (a5 v'):=λj v' e ne=>by rw[f7 (nT ne)]at e;show e
 have sl:gF C c.S c.H k u v:=by
  rcases hk with rfl|rfl|rfl
  .have(r,e,B,I,y,J):=h;have(z0,z1,L,z3,z4):=Lb.iB B;show#[r,e,I,L,z0,J]
  .show h
  .show h
 have T:∀(j:Nat) k' u' r,k'.root=a8->(c.st.set i (a5 (k,u)))[j]?=a5 (a5 (k',u'))->(c.σ.set i (a5 v))[j]?=a5 (a5 (.ref r))->j=i/\k=.own/\v=.ref r\/j≠i/\c.st[j]?=a5 (a5 (k',u'))/\c.σ[j]?=a5 (a5 (.ref r)):=λj k' u' r D g l=>by
  by_cases f:j=i
  .subst f;rw[c4 O]at g;rw[c4 hi]at l;cases g;cases l;rcases hk with rfl|rfl|rfl
   .show .inl #[rfl,rfl,rfl]
   .cases D
   .cases D
  .show .inr #[f,Q j k' u' g f,KQ j _ l f]
 have dD:∀(j:Nat) (u':U),(c.st.set i (a5 (k,u)))[j]?=a5 (a5 (.A',u'))->c.st[j]?=a5 (a5 (.A',u'))/\(c.σ.set i (a5 v))[j]?=c.σ[j]?:=λj u' e=>by
  by_cases f:j=i
  .subst f;rw[c4 O]at e;cases e;rcases hk with hk|hk|hk<;>cases hk
  .show#[Q j .A' u' e f,f7 (nT f)]
 have b1:∀a,({c with σ:=c.σ.set i (a5 v),st:=c.st.set i (a5 (k,u))}:Cf).R1 a->c.R1 a\/k=.own/\v=.ref a:=λa JX=>by
  have(j,k',u',D,g,l):=JX;rcases T j k' u' a D g l with⟨N,w,x⟩|⟨N,w,x⟩
  .show .inr #[w,x]
  .show .inl #[j,k',u',D,w,x]
 have Oq:MN C {c with σ:=c.σ.set i (a5 v),st:=c.st.set i (a5 (k,u))}:=t.dd.of rfl dD (λa z=>(b1 a z).imp id λ⟨Y,q2⟩ j z'=>by
  subst Y;have(G,e,_,_,y,_):=h;rw[q2]at e;cases e;show y (.inr #[j,z'])) (.up λ_ z=>z) λj a z=>#[(t.root (.inr #[j,z])).1,λo q=>q]
 show#[#[t.same,t.LJ,t.par,t.io,by simp[t.len],λj k' u' e=>?_,λj1 j2 k1 k2 u1 u2 r NV Rn g l e3 e4=>?_,Oq],#[#[n.keep,n.there,λa z=>?_,n.sub,n.new]]]
 .by_cases f:j=i
  .subst f;rw[c4 O]at e;cases e;show#[v,by rw[c4 hi],sl]
  .have(v',g,l):=t.sl j k' u' (Q j k' u' e f);show#[v',by rw[f7 (nT f)];show g,l]
 .have z1:=T j1 k1 u1 r NV g e3;have L:=T j2 k2 u2 r Rn l e4;rcases z1 with⟨N,w,x⟩|⟨N,w,x⟩
  .rcases L with⟨b1,A,b3⟩|⟨b1,A,b3⟩
   .show N.trans b1.symm
   .subst w;have(G,e,B,I,y,J):=h;rw[x]at e;cases e;show(y (.inl #[j2,k2,u2,Rn,A,b3])).elim
  .rcases L with⟨b1,A,b3⟩|⟨b1,A,b3⟩
   .subst A;have(G,e,B,I,y,J):=h;rw[b3]at e;cases e;show(y (.inl #[j1,k1,u1,NV,w,x])).elim
   .show t.inj j1 j2 k1 k2 u1 u2 r NV Rn w A x b3
 .rcases z with z|⟨j,u',G,g,l,e3⟩
  .rcases b1 a z with z|⟨w,x⟩
   .show n.roots a (.inl z)
   .subst w;have(G,e,B,I,y,J):=h;rw[x]at e;cases e;show .inr B
  .have(Y,q2):=dD j u' g;show n.roots a (.inr #[j,u',G,Y,q2▸l,e3])
def pN(z:Ok C c0)(q:Ok C c)(n:Nx c0 c)(hi:i<c.σ.length)(t:aK C c0 c r.1 r.2 v)(h:W (fq i r) c.st Post):
  ∃y,y.σ=c.σ.set i (a5 v)/\y.H=c.H/\Ok C y/\Nx c0 y/\Post () y.st:=by
 have(k,u):=r;cases k with
 |own =>
  have(x,st',e,f):=h;cases e;have(g,l):=q.put n hi (.inl rfl) z t;show#[{c with σ:=c.σ.set i (a5 v),st:=c.st.set i (a5 (.own,u))},rfl,rfl,g,l,f]
 |loc =>
  have(x,st',e,f):=h;cases e;have(g,l):=q.put n hi (.inr (.inl rfl)) z t;show#[{c with σ:=c.σ.set i (a5 v),st:=c.st.set i (a5 (.loc,u))},rfl,rfl,g,l,f]
 |any =>
  have(x,st',e,f):=h;cases e;have(g,l):=q.put n hi (.inr (.inr rfl)) z t;show#[{c with σ:=c.σ.set i (a5 v),st:=c.st.set i (a5 (.any,u))},rfl,rfl,g,l,f]
 |bor j =>
  have(x,st',e,f):=h;rw[show fq i (.bor j,u) c.st=match c.st[j]? with|some (a5 (.own,u))=>a5 (Ex.ok (),(c.st.set j (a5 (.loc,u))).set i (a5 (.loc,u)))|_=>bD from rfl]at e;split at e
  .rename_i w B;cases e;have(v',D,r,I,_):=q.sl j _ _ B;have G:c.σ[j]?=a5 (a5 v):=t.2;rw[G]at D;cases D;subst I;have(J,L,A):=q.yR n B G;have(g,l):=Ok.put (c:={c with S:=λa=>c.S a\/a=r,st:=c.st.set j (a5 (.loc,w))}) J L (k:=.loc) (u:=w) (v:=.ref r) hi (.inr (.inl rfl)) z A;show#[{S:=λa=>c.S a\/a=r,H:=c.H,σ:=c.σ.set i (a5 (.ref r)),st:=(c.st.set j (a5 (.loc,w))).set i (a5 (.loc,w)),kid:=c.kid},rfl,rfl,g,l,f]
  .cases e
 |_=>show t.elim
end
section
abbrev tG(C:Ct)(t:Bool)(is:List Nat):TG:=λv σ H Q=>∃c0 c r,c.σ=σ/\c.H=H/\Ok C c0/\Ok C c/\Nx c0 c/\aK C c0 c r.1 r.2 v/\W (dz t is r) c.st λ_ st' =>
 ∀a,a.st=st'->Ok C a->Nx c0 a->(∀j,j∉is->a.σ[j]?=c.σ[j]?)->a.σ.length=c.σ.length->Q a.σ a.H
structure tK(X:Cx)(e:lx)(i:Nat):Prop where
 is:∃x pos,e=.Name x pos/\X.N[i]?=a5 x/\Loc X.env.scope x/\(X.fn x=a8\/X.env.scope.names.lookup x=a5 .local)
def Fp(g:X.N.Nodup)(h:tK X e i):PG X e (tG C bL [i]):=by
 have(x,pos,rfl,f,k,l):=h.is;rintro a s σ H v u Q I rv ⟨c0,c,r,rfl,rfl,m,o,n,b,w⟩;have hi:i<c.σ.length:=by rw[I.len];show(cL.mp f).1
 have(p,d,t,y,A,q):=pN (r:=r) m o n hi b w;show uK g f k l a s c.σ c.H v u Q I rv ?_;have z:=q p rfl y A (λj B=>by rw[d,f7 (by intro z;show B (by simp[z]))]) (by rw[d];simp);rw[d,t]at z;show z
abbrev Vb:List Nat->PY
 |[]=>GV
 |i::is=>Dr (uJ i) (Vb is)
inductive fM(X:Cx):List lx->List Nat->Prop where
 |nil:fM X [] []
 |cons {e:lx} {es:List lx} {i:Nat} {is:List Nat} (h:tK X e i) (t:fM X es is):fM X (e::es) (i::is)
def wQ(a:X.N.Nodup)(h:fM X es is):QF X es (Vb is):=by
 induction h with
 |nil=>show A7
 |cons h t b =>
  have(x,pos,rfl,c,d,e):=h.is;show xU (uK a c d e) b rfl
def tL(h:fM X es is):(QC es X.env).length=is.length/\(QC es X.env).findIdx? (·.1)=bD:=by
 induction h with
 |nil=>show#[rfl,rfl]
 |cons h t a =>
  have(x,pos,rfl,b,c,d):=h.is;show#[?_,?_]
  .change(_::_).length=_;simp[a.1]
  .change Đ _ (_::_)=bD;rw[List.findIdx?_cons,ŕ (by simp),a.2];rfl
theorem vh(hk:kE k=k)(f:Ok C c0):∀{is:List Nat}{us:List U}{vs:List V}{c:Cf}{Post:Unit->aw->Prop}{Q:L2.St->Hp->Prop},Ok C c->Nx c0 c->(∀i∈is,i<c.σ.length)->av C (SK C c k) c.H us vs->W (sets is (us.map λu=>(k,u))) c.st Post ->
  (∀b,Post () b.st->Ok C b->Nx c0 b->(∀j,j∉is->b.σ[j]?=c.σ[j]?)->b.σ.length=c.σ.length->Q b.σ b.H)->Vb is vs c.σ c.H Q
 |[],[],vs,c,Post,Q,ok,n,hi,a,w,q=>by
  rw[show sets [] (S6 (λu=>(k,u)) [])=pure () from rfl,aq]at w;show#[a,q c w ok n (λ_ _=>rfl) rfl]
 |[],u::us,vs,c,Post,Q,ok,n,hi,a,w,q=>(bg.mp w).elim
 |i::is,[],vs,c,Post,Q,ok,n,hi,a,w,q=>(bg.mp w).elim
 |i::is,u::us,vs,c,Post,Q,ok,n,hi,a,w,q=>by
  rw[show sets (i::is) (S6 (λu=>(k,u)) (u::us))=fq i (k,u) >>= λ_=>sets is (us.map λu=>(k,u)) from rfl,ag]at w;have(v,r,rfl,g,h):=a;have l:k=.own\/k=.loc\/k=.any:=by cases k<;>simp[kE]at hk<;>simp
  have A:k≠.own:=by cases k<;>simp[kE]at hk<;>simp
  have rt:aK C c0 c k u v:=by rw[<-hk];show aK.item g
  have(m,o):=ok.put n (hi i (by simp)) l f rt;have es:fq i (k,u)=λst=>a5 (.ok (),st.set i (a5 (k,u))):=by cases k<;>simp[kE]at hk<;>rfl
  have(_,st',e,s):=w;rw[es]at e;cases e;show#[v,r,rfl,vh (c:={c with σ:=c.σ.set i (a5 v),st:=c.st.set i (a5 (k,u))}) hk f m o (λj d=>by simpa using hi j (by simp[d])) (by cases k<;>show h) s λb p t x y hl=>?_];show q b p t x (λj d=>?_) (by rw[hl];simp);rw[y j (λz=>d (by simp[z])),f7 (λz=>d (by simp[z]))]
def Hu(m:X.calm=a8)(o:C.K=X.K)(q:X.N.Nodup)(h:fM X es is)(hl:∀i∈is,i<X.N.length):PG X (.Tuple es T pos) (tG C a8 is):=by
 rintro a s σ H v u Q I rv ⟨c0,c,r,rfl,rfl,t,f,n,d,w⟩;have(y,z):=tL h;show D9 m (wQ q h) y z a s c.σ c.H v u Q I rv ?_;have(k,A):=r;cases A with
 |tup us =>
  rw[show dz a8 is (k,.tup us)=sets is (us.map λu=>(kE k,u)) from by cases is<;>rfl]at w;have(a',vs,rfl,g,j):=d.tuple f;rw[o]at g;have b:us.length=is.length:=by
   have e:∀(is:List Nat) (l:List (Kd×U)) (st:aw) (P:Unit->aw->Prop),W (sets is l) st P->l.length=is.length:=by
    intro is;induction is with
    |nil=>intro l st P w;cases l with
     |nil=>rfl
     |cons _ _=>show(bg.mp w).elim
    |cons i is B=>intro l st P w;cases l with
     |nil=>show(bg.mp w).elim
     |cons x l =>
      rw[show sets (i::is) (x::l)=fq i x >>= λ_=>sets is l from rfl,ag]at w;have(_,_,_,w):=w;rw[i4,i4,B l _ _ w]
   simpa using e _ _ _ _ w
  show#[a',vs,rfl,g,by rw[<-j.len,b],?_];show vh (k:=kE k) (by cases k<;>rfl) t f n (λi hi=>by rw[I.len];show hl i hi) (by cases k<;>show j) w λD p G J L O=>p D rfl G J L O
 |_=>cases is<;>show(bg.mp w).elim
end
section
variable{X:Cx}{C:Ct}{pins:List (df×Obj)}{s:dt}{c0 c c1:Cf}
variable{a b d e o tg iter elt:lx}{es ifs:List lx}{m ma mb md me:M (Kd×U)}{ms:M (List (Kd×U))}{ta tb tc:M Bool}{pos p p2 apos JC:Pos}
def wR{m:M α}{st:aw}{Q:α->aw->Prop}:W (inScope k m) st Q↔W m (ke k bD++st) λa st'=>Q a (st'.drop k):=by
 constructor
 .rintro⟨a,st',e,h⟩;unfold inScope at e;cases q:m (ke k bD++st) with
  |none=>rw[q]at e;cases e
  |some r=>have(r1,r2):=r;rw[q]at e;cases e;show#[a,r2,q,h]
 .rintro⟨a,st',e,h⟩;show#[a,st'.drop k,by unfold inScope;rw[e],h]
abbrev Cf.ext(k:Nat)(c:Cf):Cf:={c with σ:=ke k bD++c.σ,st:=ke k bD++c.st,kid:=λj=>c.kid (j - k)}
abbrev Cf.cut(k:Nat)(c:Cf):Cf:={c with σ:=c.σ.drop k,st:=c.st.drop k,kid:=λj=>c.kid (k+j)}
def ia(h:(ke k bD++l)[j]?=a5 (a5 x)):∃i,j=k+i/\l[i]?=a5 (a5 x):=by
 by_cases f:j<k
 .rw[mh (by simpa using f)]at h;rw[z8]at h;rw[Ŕ f]at h;cases h
 .show#[j - k,⋯,?_];rw[k9 (by simp;lia)]at h;simpa using h
def fN:(ke k bD++l)[k+i]?=l[i]?:=by
 rw[k9 (by simp)];simp
def yZ:(c.ext k).R1 r↔c.R1 r:=by
 constructor
 .rintro⟨j,g,u,h,l,f⟩;have(i,rfl,e):=ia l;rw[Cf.ext,fN]at f;show#[i,g,u,h,e,f]
 .rintro⟨i,g,u,h,l,f⟩;show#[k+i,g,u,h,by rw[Cf.ext,fN];show l,by rw[Cf.ext,fN];show f]
def pO{a:df}(h:(c.ext k).RD j a):∃i,j=k+i/\c.RD i a:=by
 have(u,r,l,f,g):=h;have(i,rfl,e):=ia l;rw[Cf.ext,fN]at f;show#[i,rfl,u,r,e,f,?_];have:(c.ext k).kid (k+i)=c.kid i:=by change c.kid (k+i - k)=_;rw[P0]
 rw[this]at g;show g
def Hv(h:(c.ext k).R r):c.R r:=by
 rcases h with h|⟨j,h⟩
 .show .inl (yZ.mp h)
 .have(i,_,h):=pO h;show .inr #[i,h]
def Ok.ext(k:Nat)(f:Ok C c):Ok C (c.ext k)/\Nx c (c.ext k):=by
 show#[#[f.same,f.LJ,f.par,f.io,by simp[Cf.ext,f.len],λj A u e=>?_,λi j k1 k2 u u' r B D l g y z=>?_,#[λj u r l g=>?_,λi j a n q=>?_,λj a n q=>?_]],#[#[λ_ _ h _=>h,λ_ o h=>#[o,h],λa h=>.inl (Hv h),λ_ h=>h,λ_ h=>.inl h]]]
 .have(i,rfl,G):=ia e;have(v,l,g):=f.sl i A u G;show#[v,by rw[Cf.ext,fN];show l,g]
 .have(t,rfl,H):=ia l;have(w,rfl,I):=ia g;rw[Cf.ext,fN]at y z;rw[f.inj t w k1 k2 u u' r B D H I y z]
 .have(i,rfl,e):=ia l;rw[Cf.ext,fN]at g;have:(c.ext k).kid (k+i)=c.kid i:=by change c.kid (k+i - k)=_;rw[P0]
  rw[this];show f.dd.kd i u r e g
 .have(t,rfl,x):=pO n;have(w,rfl,J):=pO q;rw[f.dd.dj t w a x J]
 .have(i,rfl,x):=pO n;show f.dd.d1 i a x (yZ.mp q)
def y6{a:df}(h:(c.cut k).R1 a):c.R1 a:=by
 have(j,i,u,l,f,g):=h;rw[Cf.cut,w6]at f g;show#[k+j,i,u,l,f,g]
def pP{a:df}(h:(c.cut k).RD j a):c.RD (k+j) a:=by
 have(u,r,f,g,i):=h;rw[Cf.cut,w6]at f g;show#[u,r,f,g,i]
def Ok.cut(k:Nat)(f:Ok C c):Ok C (c.cut k)/\Nx c (c.cut k):=by
 show#[#[f.same,f.LJ,f.par,f.io,by simp[Cf.cut,f.len],λj x u e=>?_,λi j k1 k2 u u' r y A g l t w=>?_,#[λj u r g l=>?_,λi j a n q=>?_,λj a n q=>f.dd.d1 _ a (pP n) (y6 q)]],#[#[λ_ _ h _=>h,λ_ o h=>#[o,h],λa h=>.inl (h.elim (λz=>.inl (y6 z)) λ⟨j,z⟩=>.inr #[k+j,pP z]),λ_ h=>h,λ_ h=>.inl h]]]
 .rw[Cf.cut,w6]at e;have(v,g,l):=f.sl _ x u e;show#[v,by rw[Cf.cut,w6];show g,l]
 .rw[Cf.cut,w6]at g l t w;have:=f.inj _ _ k1 k2 u u' r y A g l t w;lia
 .rw[Cf.cut,w6]at g l;show f.dd.kd _ u r g l
 .have:=f.dd.dj _ _ a (pP n) (pP q);lia
def B_(h:∀j,j∉dV k->g[j]?=(ke k bD++σ)[j]?)(hl:g.length=(ke k (bD:Option V)++σ).length):∃f:L2.St,f.length=k/\g=f++σ:=by
 show#[g.take k,by rw[my,hl];simp,?_];apply Ý;intro j;by_cases i:j<k
 .rw[mh (by rw[my,hl];simp;lia),List.getElem?_take,Ŕ i]
 .rw[h j (by simpa using i),k9 (by simp;lia),k9 (by rw[my,hl];simp;lia)];congr 1
  rw[my,hl];simp
def wU(e1:c1.σ=c0.σ)(JK:Ok C c1)(n1:Nx c0 c1)(hw:Walk C c1 rs xs J)(h3:W (bP k t tc me rs xs []) c1.st λus st'=>W (pure (Kd.own,U.lst us)) st' (cS C c0 Q)):
  uV k J (tG C t (dV k)) (K4 C tc) (JM C me) Q c0.σ c1.H:=by
 show#[λi m ys H=>∃c f,c.H=H/\c.σ=c0.σ/\Ok C c/\Nx c1 c/\m=xs.length - i/\i<=xs.length/\av C c.S c.H f ys/\f.length<=b6/\W (bP k t tc me rs (xs.drop i) f) c.st λus st'=>W (pure (Kd.own,U.lst us)) st' (cS C c0 Q),#[xs.length,c1,[],rfl,e1,JK,Nx.refl c1,by simp,ki _,rfl,ki _,by simpa using h3],?_];rintro i m ys H ⟨c,f,rfl,G,y,A,rfl,hi,h,l,w⟩;show#[by rw[<-h.len];show l,?_];have g:mB rs c1 c:=λj u _=>by rw[G,e1]
 by_cases I:i<xs.length
 .right
  rw[Mw I]at w;rw[show bP k t tc me rs (xs[i]::xs.drop (i+1)) f=aA rs >>= λ_=>inScope k (dz t (dV k) xs[i] >>= λ_=>tc >>= λb=>if b=a8 then(me >>= λr=>lift r >>= λu=>pure (a5 u)) else pure bD) >>= λr=>match r with|some u=>if f.length<b6 then bP k t tc me rs (xs.drop (i+1)) (f++[u]) else M.fail|none=>bP k t tc me rs (xs.drop (i+1)) f from rfl,ag,cj]at w;have(Ny,w):=w;have(L,_):=hw c y A g Ny;have(Pp,Vc,SA):=L i xs[i] (by simp[I]);show#[Vc,λLD H'=>∃c f,c.H=H'/\c.σ=c0.σ/\Ok C c/\Nx c1 c/\av C c.S c.H f LD/\f.length<=b6/\W (bP k t tc me rs (xs.drop (i+1)) f) c.st λus st'=>W (pure (Kd.own,U.lst us)) st' (cS C c0 Q),λLD H' ⟨c',Kt,z1,z2,z3,z4,z5,z6,z7⟩=>#[xs.length - (i+1),⋯,c',Kt,z1,z2,z3,z4,rfl,I,z5,z6,z7],λx H' hy=>?_];have(n,rfl,e4,e5,J',n2,rt):=SA x H' hy;rw[ag,wR,ag]at w;have(SD,nx):=J'.ext k;have Zk:aK C (n.ext k) (n.ext k) xs[i].1 xs[i].2 x:=by
   rcases Pp with z|z
   .rw[z]at rt ⊢;show rt
   .rw[z]at rt ⊢;show rt
  have eσ:(n.ext k).σ=ke k bD++c0.σ:=by rw[Cf.ext];change ke k bD++n.σ=_;rw[e4,G]
  show#[n.ext k,n.ext k,xs[i],eσ,rfl,SD,SD,Nx.refl _,Zk,?_];have Zl:(n.ext k).st=ke k bD++c.st:=by rw[Cf.ext];change ke k bD++n.st=_;rw[e5]
  rw[Zl];show w.mono λ_ Kc w3 c3 e6 L6 n3 Rp Ql=>?_;subst e6;rw[eσ]at Rp Ql;have(N,O,T):=B_ Rp Ql;show#[N,O,T,?_];have WU:Nx c c3:=(n2.trans nx).trans n3;rw[ag]at w3;show#[c3,rfl,rfl,L6,w3.mono λb P6 q D e7 e8 Y n4=>?_];subst e8;cases b with
  |false =>
   rw[ŕ i7]at q ⊢;rw[aq]at q;have(Vd,nk):=Y.cut k;have nn:Nx c (D.cut k):=(WU.trans n4).trans nk;show#[D.cut k,f,rfl,?_,Vd,A.trans nn,h.mv (y.mv nn),l,q];change D.σ.drop k=_;rw[e7,T,Tw O]
  |true =>
   rw[Ŕ rfl]at q ⊢;rw[ag]at q;show#[D,e7,rfl,Y,q.mono λr M4 w5 c5 v e9 Zm Zn n5 Zo=>?_];subst Zm;rw[ag]at w5;have(S',st',u,sS,Zp,n6,Ve,B,_,_):=h_ Y Zn n5 Zo.w w5;rw[aq]at B
   dsimp only at B
   split at B
   .rename_i hz;have(Vd,nk):=Zp.cut k;have nn:Nx c (Cf.cut k {c5 with S:=S',st:=st' }):=((WU.trans n4).trans n6).trans nk;show#[Cf.cut k {c5 with S:=S',st:=st' },f++[u],rfl,?_,Vd,A.trans nn,(h.mv (y.mv nn)).snoc Ve,by rw[hH];show hz,B];change c5.σ.drop k=_;rw[e9,T,Tw O]
   .show(bg.mp B).elim
 .left
  have LV:i=xs.length:=by lia
  subst LV;rw[é,show bP k t tc me rs [] f=aA rs >>= λ_=>pure f from rfl,ag,cj,aq,aq]at w;have(_,L):=hw c y A g w.1;show#[L _ (ez _),λp hp=>cS.list w.2 G y (n1.trans A) h p hp]
def oo(l:Ok C c0)
  (h:W (ms >>= λrs=>aA rs >>= λ_=>M.Kb (Mo n rs) >>= λxs=>bP k t tc me rs xs [] >>= λus=>pure (Kd.own,U.lst us)) c0.st (cS C c0 Q)) :
  yn k (Nw C n ms) (tG C t (dV k)) (K4 C tc) (JM C me) c0.σ c0.H Q:=by
 rw[ag]at h;show#[c0,rfl,rfl,l,?_];rw[ag];show h.mono λrs st1 f=>?_;rw[ag,cj]at f ⊢;show#[f.1,?_];have g:=f.2;rw[ag]at g ⊢;show g.mono λxs st2 i=>?_;rw[aq];intro c1 J q r u v w j;rw[ag]at i;subst r
 dsimp only at w j
 show wU q u v j i
def y7(S:c_ X N own scope)(f:X.calm=a8)(hi:PI X tg iter (Nw C g ms))
  (i:∀D s H ex,PG (KW X N scope D s H ex) tg (tG C t (dV own.length))) (j:∀D s H ex,N_ (KW X N scope D s H ex) ifs (K4 C tc)) (k:∀D s H ex,PE (KW X N scope D s H ex) elt (JM C me))
  (hs:∀x,Nz iter X.env x=pure x) :
  PE X (.ListComp elt [⟨tg,iter,ifs,0⟩] scope pos) (JM C (ms >>= λrs=>aA rs >>= λ_=>M.Kb (Mo g rs) >>= λxs=>bP own.length t tc me rs xs [] >>= λus=>pure (.own,.lst us))):=by
 show PE.weak (Br S f hi i j k hs) ?_;rintro σ H Q ⟨c0,rfl,rfl,l,h⟩;show oo l h
end
section
variable{a b d e o tg iter elt:lx}{es ifs:List lx}{m ma mb md me:M (Kd×U)}{ms:M (List (Kd×U))}{ta tb tc:M Bool}{pos p p2 apos JC:Pos}{st:LX}{rest body:List LX}{f g mm:M Fl}{ns SF:Nat->Bool}
def Ca(C:Ct)(c:Cf):Kd->U->V->Prop
 |.own,u,v=>∃r,v=.ref r/\C.H₀ r=bD/\¬c.S r/\¬c.R r/\dU C c.S c.H r u
 |.loc,u,v=>Rep C c.S c.H u v
 |.any,u,v=>Rep C (PS C c.S) c.H u v
 |_,_,_=>False
def Jo(C:Ct)(Q:VK)(c:Cf):Kd->U->Prop
 |.io,u=>C.xw u c.H
 |k,u=>∀v,Ca C c k u v->Q v c.H
abbrev Fin(C:Ct)(D:Ends)(f:Fl)(c:Cf):Prop:=match f with
 |.nx=>D.nx c.σ c.H
 |.bk=>D.bk c.σ c.H
 |.ct=>D.ct c.σ c.H
 |.rt k u=>Jo C D.rt c k u
abbrev Kept(ns:Nat->Bool)(c h:Cf):Prop:=(∀j,ns j=a8->h.σ[j]?=c.σ[j]?)/\h.σ.length=c.σ.length
def Kept.refl:Kept ns c c:=#[λ_ _=>rfl,rfl]
def Kept.trans(h:Kept ns c i)(h':Kept ns i k):Kept ns c k:=#[λj z=>(h'.1 j z).trans (h.1 j z),h'.2.trans h.2]
def Kept.le(i:∀j,SF j=a8->ns j=a8)(h:Kept ns c k):Kept SF c k:=#[λj z=>h.1 j (i j z),h.2]
def Kept.of(h:i.σ=c.σ):Kept ns c i:=#[λj z=>by rw[h],by rw[h]]
abbrev gM(C:Ct)(c0:Cf)(ns:Nat->Bool)(D:Ends)(f:Fl)(st':aw):Prop:=∀c,c.st=st'->Ok C c->Ns c0 c->Kept ns c0 c->Fin C D f c
abbrev Kv(C:Ct)(ns:Nat->Bool)(m:M Fl):TS:=λD σ H=>∃c0:Cf,c0.σ=σ/\c0.H=H/\Ok C c0/\W m c0.st (gM C c0 ns D)
def tM(i:Ok C c)(n:Ns c0 c)(k:Kept ns c0 c)(h:W mm c.st (gM C c0 ns D)):Kv C ns mm D c.σ c.H :=
 #[c,rfl,rfl,i,h.mono λf st j l e q r k2=>j l e q (n.trans r) (k.trans k2)]
def PS.weak(h:L2.PS X st t)(i:∀D σ H,t' D σ H->t D σ H):L2.PS X st t':=λc s σ H D I q=>h c s σ H D I (i D σ H q)
def KZ.weak(h:KZ X rest t)(i:∀D σ H,t' D σ H->t D σ H):KZ X rest t':=λc s σ H D I q=>h c s σ H D I (i D σ H q)
def pQ(i:∀j,SF j=a8->ns j=a8)(h:Kv C SF mm D σ H):Kv C ns mm D σ H :=
 let ⟨c0,c,k,l,w⟩:=h;⟨c0,c,k,l,w.mono λf st n q e r s k2=>n q e r s (k2.le i)⟩
def Hw:KZ X [] (Kv C ns (pure .nx)):=by
 show KZ.weak ll ?_;rintro D σ H ⟨c0,rfl,rfl,c,h⟩;rw[aq]at h;show h c0 rfl c (Ns.refl c0) Kept.refl
abbrev Cb(m:M Fl)(f:Fl):M Fl:=match f with
 |.nx=>m
 |f=>pure f
def Fq(l:L2.PS X st (Kv C ns f))(n:KZ X rest (Kv C ns g)):KZ X (st::rest) (Kv C ns (f >>= Cb g)):=by
 show KZ.weak (gw l n) ?_;rintro D σ H ⟨c0,rfl,rfl,q,h⟩;rw[ag]at h;show#[c0,rfl,rfl,q,h.mono λr st1 w j e c i k1=>?_];subst e;cases r with
 |nx=>show tM c i k1 w
 |bk=>rw[show Cb g .bk=pure .bk from rfl,aq]at w;show w j rfl c i k1
 |ct=>rw[show Cb g .ct=pure .ct from rfl,aq]at w;show w j rfl c i k1
 |rt k u=>rw[show Cb g (.rt k u)=pure (.rt k u) from rfl,aq]at w;show w j rfl c i k1
def Hx(i:PE X a (JM C ma))(hs:PL a bD pos.line X.env=pure bL):L2.PS X (.Expr a pos) (Kv C ns (ma >>= λ_=>pure .nx)):=by
 show PS.weak (jh i hs) ?_;rintro D σ H ⟨c0,rfl,rfl,j,h⟩;show aN j h λx c v t w=>?_;rw[aq]at w;have:=w c rfl t.ok t.nx (Kept.of t.hσ);rw[<-t.hσ];show this
def y8(Y:Ok C c0)(t:Rm C c0 c x v)(w:W (retS x) c.st (gM C c0 ns D)):D.rt v c.H:=by
 have(k,u):=x;have(G,l,n,r):=t;cases k with
 |own =>
  rw[show retS (.own,u)=pure (.rt .own u) from rfl,aq]at w;have(B,e,h1,h2,h3,h4):=r;show w c rfl l n (Kept.of G) v #[B,e,(Y.iB h1).1,h2,h3,h4]
 |loc =>
  rw[show retS (.loc,u)=pure (.rt .loc u) from rfl,aq]at w;show w c rfl l n (Kept.of G) v r
 |any =>
  rw[show retS (.any,u)=if JW u=a8 then pure (.rt .loc u) else pure (.rt .any u) from rfl]at w;split at w
  .rw[aq]at w;show w c rfl l n (Kept.of G) v (Rep.JW (by assumption) r)
  .rw[aq]at w;show w c rfl l n (Kept.of G) v r
 |bor j =>
  have(fl,st',e,w):=w;rw[show retS (.bor j,u) c.st=match c.st[j]? with|some (a5 (.own,u))=>a5 (Ex.ok (Fl.rt .own u),c.st.set j bD)|_=>bD from rfl]at e;split at e
  .rename_i u' J;cases e;have MT:j<c.st.length:=(cL.mp J).1;have A:∀(i:Nat) k u',(c.st.set j bD)[i]?=a5 (a5 (k,u'))->i≠j/\c.st[i]?=a5 (a5 (k,u')):=λi k u' e=>by
    by_cases L:i=j
    .subst L;rw[c4 MT]at e;cases e
    .rw[f7 (nT L)]at e;show#[L,e]
   have(v',s,B,er,q1,q2,q3,q4):=l.sl j _ _ J;have N:c.σ[j]?=a5 (a5 v):=r.2;rw[N]at s;cases s;subst er;have O:∀a,({c with st:=c.st.set j bD}:Cf).R1 a->c.R1 a:=λa ⟨i,k,h,hk,s,y⟩=>#[i,k,h,hk,(A i k h s).2,y]
   have hR:∀a,({c with st:=c.st.set j bD}:Cf).R a->c.R a:=λa z=>z.elim (λz=>.inl (O a z)) λ⟨i,h,r2,s,y,I⟩=>.inr #[i,h,r2,(A i .A' h s).2,y,I];have Oq:MN C {c with st:=c.st.set j bD}:=l.dd.of rfl (λi h e=>#[(A i .A' h e).2,rfl]) (λa z=>.inl (O a z)) (.up λ_ z=>z) λi a z=>#[(l.root (.inr #[i,z])).1,λo q=>q]
   have Zq:Ok C {c with st:=c.st.set j bD}:=#[l.same,l.LJ,l.par,l.io,by simp[l.len],λi k h e=>l.sl i k h (A i k h e).2,λi Q k k' T h r hk KC s y I e4=>l.inj i Q k k' T h r hk KC (A i k T s).2 (A Q k' h y).2 I e4,Oq]
   have nn:Ns c0 {c with st:=c.st.set j bD}:=#[n.keep,n.there,λa z=>n.roots a (hR a z),n.sub,n.new]
   show w {c with st:=c.st.set j bD} rfl Zq nn (Kept.of G) (.ref B) ⟨B,rfl,q3,q1,λz=>?_,q4⟩
   .rcases z with⟨i,k,h,hk,s,y⟩|⟨i,h,r2,s,y,I⟩
    .have(ne,KD):=A i k h s;show ne (l.inj i j k .own h _ B hk rfl KD J y N)
    .show l.dd.d1 i B #[h,r2,(A i .A' h s).2,y,I] #[j,.own,_,rfl,J,N]
  .cases e
 |_=>show r.elim
def Hy(j:PE X a (JM C ma)):L2.PS X (.Return (a5 a) pos) (Kv C ns (ma >>= retS)):=by
 show PS.weak (xT j) ?_;rintro D σ H ⟨c0,rfl,rfl,i,h⟩;show aN i h λx c v t w=>y8 i t w
end
section
def qY(e:∀j,ns j=a8->j≠i)(f:Ok C c0)(t:Rm C c0 c r v)(hi:i<c.σ.length)(w:W (fq i r >>= λ_=>(pure .nx:M Fl)) c.st (gM C c0 ns D)):D.nx (c0.σ.set i (a5 v)) c.H:=by
 rw[ag]at w;have(a,b,g,h,k,q):=pN (r:=r) f t.ok t.nx hi t.rx w;rw[aq]at q;have z:=q a rfl h k #[λj l=>by rw[b,t.hσ,f7 (nT (e j l))],by rw[b,t.hσ];simp];have d:D.nx a.σ a.H:=z;rw[b,g,t.hσ]at d;show d
def Dy(e:∀j,ns j=a8->j≠i)(f:X.N.Nodup)(hi:X.N[i]?=a5 x)(g:Loc X.env.scope x)(k:X.fn x=a8\/X.env.scope.names.lookup x=a5 .local)(l:PE X a (JM C m))
  (hs:PL a (a5 (.Name x pos')) pos.line X.env=pure bL):L2.PS X (.Assign [.Name x pos'] a pos) (Kv C ns (m >>= λr=>fq i r >>= λ_=>pure .nx)):=by
 rintro b s σ H D I ⟨c0,rfl,rfl,d,h⟩;have n:i<c0.σ.length:=by rw[I.len];show(cL.mp hi).1
 show oS f hi g l hs k b s c0.σ c0.H D I (aN d h λr c v t w=>qY e d t (by rw[t.hσ];show n) w)
def Fs(l:∀j,ns j=a8->j≠i)(S:c_ X N own scope)(m:X.calm=a8)(o:X.N.Nodup)(f:X.N[i]?=a5 y)(p:X.env.scope.names.lookup y=a5 .local)
  (hi:PI X e a (Nw C q ms)) (u:∀D s H ex,PG (KW X N scope D s H ex) e (tG C t (dV own.length))) (z:∀D s H ex,N_ (KW X N scope D s H ex) b (K4 C A)) (B:∀D s H ex,PE (KW X N scope D s H ex) elt (JM C G))
  (J:PL (.ListComp elt [⟨e,a,b,0⟩] scope pos) (a5 (.Name y L)) O.line X.env=pure a8) (hs:∀x,Nz a X.env x=pure x) :
  L2.PS X (.Assign [.Name y L] (.ListComp elt [⟨e,a,b,0⟩] scope pos) O)
   (Kv C ns ((ms >>= λrs=>aA rs >>= λ_=>M.Kb (Mo q rs) >>= λxs=>bP own.length t A G rs xs [] >>= λus=>pure (.own,.lst us)) >>= λr=>fq i r >>= λ_=>pure .nx)):=by
 rintro d s σ H D I ⟨c0,rfl,rfl,g,h⟩;have Q:i<c0.σ.length:=by rw[I.len];show(cL.mp f).1
 show Bs S m o f p hi u z B J hs d s c0.σ c0.H D I ?_;rw[ag]at h;show oo g (h.mono λr st1 w c v k T Y n rt=>?_);subst T;show qY l g #[k,Y,n,rt] (by rw[k];show Q) w
def Ft(g:∀j,ns j=a8->j∉is)(i:PE X a (JM C k))(l:PG X b (tG C a8 is))(hs:RE [b] a pos.line X.env=pure bL)(m:VT [b] a X.env=pure bD)(n:(QC [b] X.env).map (·.2)=[S5 b X.env]):
  L2.PS X (.Assign [b] a pos) (Kv C ns (k >>= λr=>dz a8 is r >>= λ_=>pure .nx)):=by
 show PS.weak (r9 i l hs m n) ?_;rintro D σ H ⟨c0,rfl,rfl,d,h⟩;show aN d h λr c v t w=>?_;rw[ag]at w;show#[c0,c,r,t.hσ,rfl,d,t.ok,t.nx,t.rx,w.mono λ_ st1 f o e p q s hl=>?_];subst e;rw[aq]at f;show f o rfl p q #[λj u=>by rw[s j (g j u),t.hσ],by rw[hl,t.hσ]]
def Hz(i:PT X a (K4 C j))(k:KZ X ca (Kv C ns f))(l:KZ X m (Kv C ns g)):L2.PS X (.If a ca m pos) (Kv C ns (j >>= λp=>if p=a8 then f else g)):=by
 show PS.weak (GU i k l) ?_;rintro D σ H ⟨c0,rfl,rfl,o,h⟩;show fw o h λp c b d n w=>?_;have e:c0.σ=c.σ:=b.symm;rw[e];cases p with
 |true=>rw[Ŕ rfl]at w ⊢;show tM d n (Kept.of b) w
 |false=>rw[ŕ i7]at w ⊢;show tM d n (Kept.of b) w
def HA(J:XO (d5 X.prog X.w) X.A X.env X.xe)(L:PT X a (K4 C d))(N:KZ X body (Kv C ns f)):L2.PS X (.While a body [] pos) (Kv C ns (iX d f n)):=by
 show PS.weak (xW J L N) ?_;rintro D σ H ⟨c0,rfl,rfl,O,h⟩;show#[λm s H'=>∃c,c.H=H'/\c.σ=s/\Ok C c/\Ns c0 c/\Kept ns c0 c/\W (iX d f m) c.st (gM C c0 ns D),#[n,c0,rfl,rfl,O,Ns.refl c0,Kept.refl,h],?_];rintro m s H' ⟨c,rfl,rfl,Q,t,v,w⟩;cases m with
 |zero=>show(bg.mp w).elim
 |succ m =>
  rw[show iX d f (m+1)=d >>= λb=>if b=a8 then(f >>= λT=>match T with|.nx=>iX d f m|.ct=>iX d f m|.bk=>pure .nx|.rt k u=>pure (.rt k u)) else pure .nx from rfl]at w;show fw Q w λp j x y B g=>?_;have k2:Kept ns c j:=Kept.of x;rw[<-x];cases p with
  |false =>
   rw[ŕ i7]at g ⊢;rw[aq]at g;show g j rfl y (t.trans B) (v.trans k2)
  |true =>
   rw[Ŕ rfl]at g ⊢;show#[λG I=>∃c,c.H=I/\c.σ=G/\Ok C c/\Ns c0 c/\Kept ns c0 c/\W (iX d f m) c.st (gM C c0 ns D),λG I z=>#[m,NQ m,z],?_];rw[ag]at g;show#[j,rfl,rfl,y,g.mono λY Kc i l e o n3 k3=>?_];subst e;have q:=(t.trans B).trans n3;have r:=(v.trans k2).trans k3;cases Y with
   |nx=>show#[l,rfl,rfl,o,q,r,i]
   |ct=>show#[l,rfl,rfl,o,q,r,i]
   |_=>rw[aq]at i;show i l rfl o q r
def HB(hp:XO (d5 X.prog X.w) X.A X.env X.xe)(hc:X.calm=a8)(hi:PI X tg a (Nw C ik ms))(hg:PG X tg (tG C t is))(hb:KZ X body (Kv C (LB r) f))(hs:∀x,Nz a X.env x=pure x)
  (KU:∀j,ns j=a8->j∉is/\LB r j=a8) :
  L2.PS X (.For tg a body [] pos) (Kv C ns (ms >>= λrs=>aA rs >>= λ_=>M.Kb (Mo ik rs) >>= λxs=>if vb rs is r=a8 then forM t is f rs xs else M.fail)):=by
 show PS.weak (Ee hp hc hi hg hb hs) ?_;rintro D σ H ⟨c0,rfl,rfl,ok,h⟩;rw[ag]at h;show#[c0,rfl,rfl,ok,?_];rw[ag];show h.mono λrs st1 s=>?_;rw[ag,cj]at s ⊢;show#[s.1,?_];have h2:=s.2;rw[ag]at h2 ⊢;show h2.mono λxs st2 v=>?_;rw[aq];intro b J e1 e2 JK n1 JI y;subst e2
 dsimp only at JI y
 split at v
 .rename_i Pt;have Vh:∀j u,(Kd.bor j,u)∈rs->j∉is/\LB r j=a8:=λj u n=>by
   have:=i8.mp Pt _ n;simpa using this
  show#[λi m g H'=>∃c,c.H=H'/\c.σ=g/\Ok C c/\Ns b c/\Kept ns c0 c/\mB rs b c/\m=xs.length - i/\i<=xs.length/\W (forM t is f rs (xs.drop i)) c.st (gM C c0 ns D),
   #[xs.length,b,rfl,e1,JK,Ns.refl b,Kept.of e1,λ_ _ _=>rfl,by simp,ki _,by simpa using v],?_]
  rintro i m g H' ⟨c,rfl,rfl,B,o,kc,G,rfl,LV,w⟩;by_cases I:i<xs.length
  .right
   rw[Mw I,show forM t is f rs (xs[i]::xs.drop (i+1))=aA rs >>= λ_=>dz t is xs[i] >>= λ_=>f >>= λf'=>match f' with|.nx=>forM t is f rs (xs.drop (i+1))|.ct=>forM t is f rs (xs.drop (i+1))|.bk=>pure .nx|.rt k u=>pure (.rt k u) from rfl,ag,cj]at w;have(Ny,w):=w;have(L,_):=y c B o G Ny;have(Pp,Vc,SA):=L i xs[i] (by simp[I]);show#[Vc,λg H'=>∃c,c.H=H'/\c.σ=g/\Ok C c/\Ns b c/\Kept ns c0 c/\mB rs b c/\W (forM t is f rs (xs.drop (i+1))) c.st (gM C c0 ns D),λg H' ⟨c',z1,z2,z3,z4,z5,z6,z7⟩=>#[xs.length - (i+1),⋯,c',z1,z2,z3,z4,z5,z6,rfl,I,z7],λx H' hy=>?_];have(l,rfl,p,e5,J',n2,rt):=SA x H' hy;rw[ag]at w;have Zr:aK C l l xs[i].1 xs[i].2 x:=by
    rcases Pp with z|z
    .rw[z]at rt ⊢;show rt
    .rw[z]at rt ⊢;show rt
   show#[l,l,xs[i],p,rfl,J',J',Nx.refl l,Zr,?_];rw[e5];show w.mono λ_ Kc w3 c3 e6 L6 n3 WX Ql=>?_;subst e6;rw[ag]at w3;show#[c3,rfl,rfl,L6,w3.mono λfl P6 q d e N n4 O=>?_];subst e;have Q:Ns b d:=((o.trans n2.toNs).trans n3.toNs).trans n4;have T:Kept ns c0 d:=by
    show kc.trans #[λj hj=>?_,by rw[O.2,Ql,p]];have(Y,j2):=KU j hj;rw[O.1 j j2,WX j Y,p]
   have WY:mB rs b d:=λj u n=>by
    have(Y,j2):=Vh j u n;rw[O.1 j j2,WX j Y,p];show G j u n
   cases fl with
   |nx=>show#[d,rfl,rfl,N,Q,T,WY,q]
   |ct=>show#[d,rfl,rfl,N,Q,T,WY,q]
   |_=>rw[aq]at q;show q d rfl N (n1.toNs.trans Q) T
  .left
   have Zs:i=xs.length:=by lia
   subst Zs;rw[é,show forM t is f rs []=aA rs >>= λ_=>pure .nx from rfl,ag,cj,aq]at w;have(_,L):=y c B o G w.1;show#[L _ (ez _),w.2 c rfl B (n1.toNs.trans o) kc]
 .show(bg.mp v).elim
end
section
def Ok.mod(b:Ok C c)(n:Ns c0 c)(hk:k.root=a8)(hi:c.st[i]?=a5 (a5 (k,u)))(B:c.σ[i]?=a5 (a5 (.ref r)))(KO:∀a,a≠r->H' a=c.H a)(Y:∃o,H' r=a5 o)
  (new:Mv c.S c.H c.S H'->dU C c.S H' r u'):Ok C {c with H:=H',st:=c.st.set i (a5 (k,u'))}/\Ns c0 {c with H:=H',st:=c.st.set i (a5 (k,u'))}:=by
 have MU:c.R1 r:=#[i,k,u,hk,hi,B]
 have hR:c.R r:=.inl MU;have(G,q2,q3,o,ho,Zt):=b.root hR;have I:i<c.st.length:=(cL.mp hi).1;have m:∀{a:df} {o':HO},a≠r->c.H a=a5 o'->H' a=a5 o':=λne e=>by rw[KO _ ne];show e
 have D:Mv c.S c.H c.S H':=#[λ_ z=>z,λa o' e t=>m (λz=>by subst z;rw[ho]at e;cases e;show Zt t) e,λa o' z e=>m (λd=>G (d▸z)) e]
 have Og:Mv (PS C c.S) c.H (PS C c.S) H':=#[λ_ z=>z,D.Qe,λa o' z e=>m (λd=>by subst d;show z.elim q2 G) e]
 have J:∀(j:Nat) k' w,(c.st.set i (a5 (k,u')))[j]?=a5 (a5 (k',w))->j≠i->c.st[j]?=a5 (a5 (k',w)):=λj k' w e ne=>by rw[f7 (nT ne)]at e;show e
 have f:∀(j:Nat) k' w,k'.root=a8->(c.st.set i (a5 (k,u')))[j]?=a5 (a5 (k',w))->∃L,c.st[j]?=a5 (a5 (k',L)):=λj k' w _ e=>by
  by_cases p:j=i
  .subst p;rw[c4 I]at e;cases e;show#[u,hi]
  .show#[w,J j k' w e p]
 have b1:∀a,({c with H:=H',st:=c.st.set i (a5 (k,u'))}:Cf).R1 a->c.R1 a:=λa JX=>by
  have(j,k',w,g,h,l):=JX;have(L,N):=f j k' w g h;show#[j,k',L,g,N,l]
 have dD:∀(j:Nat) (w:U),(c.st.set i (a5 (k,u')))[j]?=a5 (a5 (.A',w))->c.st[j]?=a5 (a5 (.A',w)):=λj w e=>by
  by_cases p:j=i
  .subst p;rw[c4 I]at e;cases e;cases hk
  .show J j .A' w e p
 have Oq:MN C {c with H:=H',st:=c.st.set i (a5 (k,u'))}:=b.dd.of rfl (λj w e=>#[dD j w e,rfl]) (λa z=>.inl (b1 a z)) D λj a z=>#[(b.root (.inr #[j,z])).1,λo' e=>m (λd=>b.dd.d1 j a z (d▸MU)) e]
 show#[#[λa o' e z=>?_,λa z=>?_,b.par,λa z=>?_,by simp[b.len],λj k' w e=>?_,λj1 j2 k1 k2 w1 w2 q g s h l O e4=>?_,Oq],n.trans #[λa o' e z=>m (λd=>z (d▸hR)) e,λa o' e=>?_,λa z=>?_,λ_ z=>z,λ_ z=>.inl z]]
 .have g:=b.same a o' e z;show m (λd=>?_) g;subst d;rcases q3 with q3|q3
  .rw[e]at q3;cases q3
  .show z q3
 .have(g,o',s):=b.LJ a z;show#[g,o',m (λd=>G (d▸z)) s]
 .have(g,o',s):=b.io a z;show#[g,?_];by_cases y:a=r
  .subst y;show Y
  .show#[o',m y s]
 .by_cases p:j=i
  .subst p;rw[c4 I]at e;cases e;have(v,h,l):=b.sl j _ _ hi;rw[B]at h;cases h;show#[.ref r,B,?_];have nr:=new D;cases k with
   |own=>have(q,x,A,Q,T,_):=l;cases x;show#[r,rfl,A,Q,T,nr]
   |io=>have(q,x,A,Q,T,_):=l;cases x;show#[r,rfl,A,Q,T,nr]
   |_=>cases hk
  .have e0:=J j k' w e p;have(v,h,l):=b.sl j k' w e0;show#[v,h,l.mv D Og λKC q x=>?_];have(Sx,Ly,A,_):=l.rt KC;rw[x]at Ly;cases Ly;show#[A,λo' e=>m (λz=>?_) e];subst z;show p (b.inj j i k' k w u q KC hk e0 hi (by rw[h,x]) B)
 .have(SG,N):=f j1 k1 w1 g h;have(WZ,a2):=f j2 k2 w2 s l;show b.inj j1 j2 k1 k2 SG WZ q g s N a2 O e4
 .by_cases y:a=r
  .subst y;show Y
  .show#[o',m y e]
 .rcases z with z|⟨j,w,q,h,l,O⟩
  .show .inl (.inl (b1 a z))
  .show .inl (.inr #[j,w,q,dD j w h,l,O])
def ib{f:U->Option U}{st:aw}(h:W (modS i f) st Q):∃k u u',k.root=a8/\st[i]?=a5 (a5 (k,u))/\f u=a5 u'/\Q () (st.set i (a5 (k,u'))):=by
 have(_,st',e,q):=h;unfold modS at e;split at e
 .rename_i k u hs;split at e
  .rename_i hk;cases a:f u with
   |none=>rw[a]at e;cases e
   |some u'=>rw[a]at e;cases e;show#[k,u,u',hk,hs,a,q]
  .cases e
 .cases e
def eh{st:aw}(h:W (dW i) st Q):∃k u,k≠.A'/\st[i]?=a5 (a5 (k,u))/\Q (if k.root=a8 then .bor i else k,u) st:=by
 have(r,st',e,q):=h;unfold dW at e;split at e
 .cases e
 .rename_i k u a hs;cases e;show#[k,u,λz=>a z,hs,q]
 .cases e
def HC(J:C.K=X.K)(L:X.N[i]?=a5 x)(O:KA X.env.scope x)(Q:(x==("__debug__":Str))=bL)(T:(x==("__classdict__":Str))=bL)(Y:PE X a (JM C ma))
  (KJ:((uv f (gj [a] X.env)).all (λx=>!x.1)&&(Oc f (Es [] X.env)).all (λx=>x.1.isSome)
   && b7 ([a].length+([]:List O1).length+(if ([]:List O1).isEmpty then 0 else 1)<30))=a8)
  (JU:(apos.endLine==f.line)=a8) (m:gj [a] X.env=[(bL,tj a X.env)]) :
  L2.PS X (.Expr (.Call (.Attribute (.Name x px) "append" apos) [a] [] f) pos) (Kv C ns (dW i >>= λx=>Qi x.2 >>= λ_=>ma >>= λr=>lift r >>= λu=>modS i (yM u) >>= λ_=>pure .nx)):=by
 show PS.weak (jh (uP PySem.F.plainAttrs_list PySem.F.slot_list_append PySem.F.type_list_append jV (bf L O Q T) (bM Y c8 m) rfl KJ JU m rfl)) ?_;rintro D σ H ⟨c0,rfl,rfl,e,h⟩;rw[ag]at h;have(k0,u0,Ot,n,h):=eh h;have(o,g,l):=e.sl i k0 u0 n;show#[o,g,?_];cases u0 with
 |lst p =>
  rw[ag,show Qi (U.lst p)=pure () from rfl,aq]at h;have Vk:aK C c0 c0 (if k0.root=a8 then .bor i else k0) (.lst p) o:=by
   by_cases hk:k0.root=a8
   .rw[Ŕ hk];show#[#[k0,hk,n],g]
   .rw[ŕ hk];cases k0 with
    |loc=>show l
    |any=>show l
    |bor j=>show l.elim
    |A'=>show(Ot rfl).elim
    |_=>show absurd rfl hk
  have(a0,MD,ea,Sd,_):=Vk.list e;show#[by rw[ea];show .inl #[rfl,MD,J▸Sd],?_];show aN e h λr c v t w=>?_;rw[ag]at w;have(S',st',u,sS,s,n1,b,y,_,_):=h_ e t.ok t.nx t.rx.w w;rw[ag]at y;have(k,u1,u2,hk,hs,d,q):=ib y;have A:c.σ[i]?=a5 (a5 (.ref a0)):=by rw[t.hσ,g,ea]
  cases u1 with
  |lst ys =>
   simp only[yM]at d;split at d
   .rename_i hz;cases d;have(v',e1,e2):=s.sl i k (.lst ys) hs;have B:c.σ[i]?=a5 (a5 v'):=e1;rw[A]at B;cases B;have(r',er,_,_,_,ws,hw,G):=e2.rt hk;cases er;have OO:c.H a0=a5 (.lst ws):=hw;show#[a0,ws,v,ea,rfl,OO,by rw[<-G.len];show hz,?_];rw[aq]at q;have(J',n2):=Ok.mod (c:={c with S:=S',st:=st' }) (H':=upd c.H a0 (.lst (ws++[v]))) (u':=.lst (ys++[u])) s n1.toNs hk hs A (λa ne=>aj ne) ⟨_,ar⟩ λI=>#[ws++[v],ar,(G.mv I).snoc (b.mv I)]
    have z:=q _ rfl J' n2 (Kept.of t.hσ);rw[<-t.hσ];show z
   .cases d
  |_=>cases d
 |_=>rw[ag]at h;show(bg.mp h).elim
def HD(s:C.K=X.K)(O:X.N[i]?=a5 x)(Q:KA X.env.scope x)(T:(x==("__debug__":Str))=bL)(Y:(x==("__classdict__":Str))=bL)(ha:PE X a (JM C ma))
  (KJ:((uv f (gj [a] X.env)).all (λx=>!x.1)&&(Oc f (Es [] X.env)).all (λx=>x.1.isSome)
   && b7 ([a].length+([]:List O1).length+(if ([]:List O1).isEmpty then 0 else 1)<30))=a8)
  (JU:(apos.endLine==f.line)=a8) (u:gj [a] X.env=[(bL,tj a X.env)]) :
  L2.PS X (.Expr (.Call (.Attribute (.Name x px) "extend" apos) [a] [] f) pos) (Kv C ns (dW i >>= λx=>Qi x.2 >>= λ_=>ma >>= λr=>modS i (nU r) >>= λ_=>pure .nx)):=by
 show PS.weak (jh (uP PySem.F.plainAttrs_list PySem.F.slot_list_extend PySem.F.type_list_extend sZ (bf O Q T Y) (bM ha c8 u) rfl KJ JU u rfl)) ?_;rintro D σ H ⟨c0,rfl,rfl,g,h⟩;rw[ag]at h;have(k0,u0,Ot,y,h):=eh h;have(A,l,m):=g.sl i k0 u0 y;show#[A,l,?_];cases u0 with
 |lst B =>
  rw[ag,show Qi (U.lst B)=pure () from rfl,aq]at h;have Vk:aK C c0 c0 (if k0.root=a8 then .bor i else k0) (.lst B) A:=by
   by_cases hk:k0.root=a8
   .rw[Ŕ hk];show#[#[k0,hk,y],l]
   .rw[ŕ hk];cases k0 with
    |loc=>show m
    |any=>show m
    |bor j=>show m.elim
    |A'=>show(Ot rfl).elim
    |_=>show absurd rfl hk
  have(a0,MD,ea,Sd,_):=Vk.list g;show#[by rw[ea];show .inl #[rfl,MD,s▸Sd],?_];show aN g h λr c v t w=>?_;rw[ag]at w;have(k,n,u2,hk,hs,d,q):=ib w;have G:c.σ[i]?=a5 (a5 (.ref a0)):=by rw[t.hσ,l,ea]
  have(rk,ru):=r;have key:∃ys e b vs,n=.lst ys/\v=.ref b/\(Kh C.K c.H b vs\/Ki C.K c.H b vs)/\av C c.S c.H e vs/\ys.length+e.length<=b6/\u2=.lst (ys++e):=by
   cases ru with
   |lst e =>
    cases n with
    |lst ys =>
     simp only[nU]at d;split at d
     .rename_i hz;cases d;have(b,vs,ev,o,p):=t.rx.list t.ok;show#[_,_,b,vs,rfl,ev,.inl o,dJ hz.2 p,hz.1,rfl]
     .cases d
    |_=>simp[nU]at d
   |tup e =>
    cases n with
    |lst ys =>
     simp only[nU]at d;split at d
     .rename_i hz;cases d;have(b,vs,ev,o,p):=t.rx.tuple t.ok;show#[_,_,b,vs,rfl,ev,.inr o,dJ hz.2 p,hz.1,rfl]
     .cases d
    |_=>simp[nU]at d
   |_=>simp[nU]at d
  have(ys,e,b,vs,rfl,rfl,hB,hz,hl,rfl):=key;have(v',I,e2):=t.ok.sl i k (.lst ys) hs;rw[G]at I;cases I;have(r',er,_,_,_,ws,hw,J):=e2.rt hk;cases er;show#[a0,b,ws,vs,ea,rfl,hw,s▸hB,by rw[<-J.len,<-hz.len];show hl,?_];rw[aq]at q;have(J',n2):=Ok.mod (c:=c) (H':=upd c.H a0 (.lst (ws++vs))) (u':=.lst (ys++e)) t.ok t.nx.toNs hk hs G (λa ne=>aj ne) ⟨_,ar⟩ λL=>#[ws++vs,ar,(J.mv L).append (hz.mv L)]
  have z:=q _ rfl J' n2 (Kept.of t.hσ);rw[<-t.hσ];show z
 |_=>rw[ag]at h;show(bg.mp h).elim
def oR.or(h:oR X t)(h':oR X t'):oR X (λo i v H Q=>t o i v H Q\/t' o i v H Q):=λa s σ H o i v b c u Q I r1 r2 d q =>
 q.elim (h a s σ H o i v b c u Q I r1 r2 d) (h' a s σ H o i v b c u Q I r1 r2 d)
def set_dict(c:X.A.units+1<L'):oR X (λo i v H Q=>∃a H',o=.ref a/\wj H a i v H'/\Q H'):=by
 rintro b s σ H o i v h j u Q I d e rv ⟨a,H',rfl,g,q⟩;cases d;show wo c I g e rv λs' f=>#[H',f,q]
def y9{S:df->Prop}{kvs:List (Key×V)}(a:kvs.map (·.1)=ks.map nH)(c:av C S H us (kvs.map (·.2)))(d:Rep C S H u v):
  (putK kvs (nH y) v).map (·.1)=(dput ks us y u).1.map nH/\av C S H (dput ks us y u).2 ((putK kvs (nH y) v).map (·.2)):=by
 have e:(kvs.any λkv=>b7 (kv.1=(nH y:Key)))=b7 (y∈ks):=by
  rw[jl];show(d_ (x:=y) a c).2
 unfold putK dput;rw[e];by_cases b:y∈ks
 .rw[Ŕ (by simpa using b),Ŕ b];constructor
  .rw[i6];rw[<-a];apply tA;intro p _;change(if p.1=nH y then(p.1,v) else p).1=p.1;split<;>rfl
  .clear e b;induction kvs generalizing ks us with
   |nil =>
    have:ks=[]:=by simpa using a.symm
    subst this;simp[av]
   |cons p kvs g =>
    cases ks with
    |nil=>simp at a
    |cons k ks =>
     cases us with
     |nil=>simp[av]at c
     |cons u0 us =>
      rw[d6,d6,QL]at a;have(j,l,f,h,i):=c;rw[d6]at f;cases f;rw[d6,UR,d6,d6];show#[_,_,rfl,?_,g a.2 i];by_cases hk:k=y
      .rw[Ŕ (by show hk),Ŕ (by rw[a.1,hk])];show d
      .rw[ŕ (by show hk),ŕ (by rw[a.1];intro z;show hk (U9 z))];show h
 .rw[ŕ (by simpa using b),ŕ b];show#[by rw[kj,a,kj];rfl,by rw[kj];show c.snoc d]
def HE(hP:C.P=X.prog)(hw:C.w=X.w)(hK:C.K=X.K)(hu:X.A.units+60<L')(hN:X.N[i]?=a5 x)(hv:KA X.env.scope x)(hd:(x==("__debug__":Str))=bL)(JT:(x==("__classdict__":Str))=bL)
  (ha:PE X a (JM C ma)) (hb:PE X b (JM C mb)) (hs:RE [.Subscript (.Name x px) b p] a pos.line X.env=pure bL) (Ou:VT [.Subscript (.Name x px) b p] a X.env=pure bD)
  (L:∀v,S5 (.Subscript (.Name x px) b p) X.env v=(do
   let B <-K9 [v] (tj (.Name x px) X.env)
   let O <-K9 [v,B] (tj b X.env)
   R6 p
   K9 [v,B,O] (Ud B O v)
   WW [v,B,O] [])) :
  L2.PS X (.Assign [.Subscript (.Name x px) b p] a pos) (Kv C ns (ma >>= λr=>dW i >>= λ_=>mb >>= λx=>dc [r,x] >>= λus=>modS i (u_ us) >>= λ_=>pure .nx)):=by
 show PS.weak (r9 ha (xV (bf hN hv hd JT) hb (oR.or set_list (set_dict (X:=X) ⋯)) L) hs Ou rfl) ?_;rintro D σ H ⟨c0,rfl,rfl,ok,h⟩;show aN ok h λr c v t w=>?_;rw[ag]at w;have(k0,u0,Ot,K5,w):=eh w;have(v0,e0,ME):=t.ok.sl i k0 u0 K5;show#[v0,by rw[<-t.hσ];show e0,?_];rw[ag]at w;show#[c,t.hσ,rfl,t.ok,w.mono λy st2 w2 f m G e4 J' n2 r2=>?_];subst e4;rw[ag]at w2;have Qm:=t.nx.trans n2;have rws:dI C c0 f [r,y] [v,m]:=#[v,[m],rfl,t.rx.w.on t.ok n2 (G.trans t.hσ.symm),#[m,[],rfl,(r2.w).from t.nx,rfl,λ_ i r' v' e _=>by simp at e],λhk i r' v' Q e6 KC=>by
  cases i with
  |zero=>simp at Q e6;subst Q e6;show mw t.rx.w r2.w hk KC
  |succ i=>simp at Q]
 have(S',st',us,sS,JK,n1,g,w1):=jx ok J' Qm rws w2;rw[ag]at w1;have(k,I,u2,hk,Lf,d,q):=ib w1;rw[aq]at q;have hσ:f.σ[i]?=a5 (a5 v0):=by rw[G,<-t.hσ];show e0
 have(v',e1,e2):=JK.sl i k I Lf;have KD:f.σ[i]?=a5 (a5 v'):=e1;rw[hσ]at KD;cases KD;have(a0,er,z1,z2,z3,l):=e2.rt hk;subst er;have Zu:({f with S:=S',st:=st' }:Cf).σ[i]?=a5 (a5 (.ref a0)):=hσ;obtain⟨SG,ws,ew,W0,WZ,ab,ac,W2,Zv⟩:∃u ws,us=[u,ws]/\Rep C S' f.H u v/\∃(_:Unit) (_:Unit),True/\Rep C S' f.H ws m/\True:=by
  cases us with
  |nil=>simp[av]at g
  |cons u us =>
   have(_,_,e,q1,q2):=g;cases e;cases us with
   |nil=>simp[av]at q2
   |cons u' us =>
    have(_,_,e,q3,q4):=q2;cases e;cases us with
    |nil=>show#[u,u',rfl,q1,(),(),trivial,q3,trivial]
    |cons _ _=>have(_,_,e,_):=q4;cases e
 subst ew;rw[show u_ [SG,ws] I=gr ws SG I from rfl]at d;have n:∀{H':Hp} ,(∀a,a≠a0->H' a=f.H a)->(∃o,H' a0=a5 o)->(Mv S' f.H S' H'->dU C S' H' a0 u2)->D.nx c0.σ H':=λ{H'} KO hr new=>by
  have(L6,n3):=Ok.mod (c:={f with S:=S',st:=st' }) (H':=H') (u':=u2) JK n1.toNs hk Lf Zu KO hr new;have z:=q _ rfl L6 n3 (Kept.of G);rw[<-G];show z
 cases I with
 |lst xs =>
  cases ws with
  |int j =>
   simp only[gr,gi]at d;have(T,hj,rfl):=d;have(vs,Y,s):=l;have ey:m=.int j:=W2;show .inl #[a0,vs,j,T,rfl,ey,Y,by rw[<-s.len];show hj,?_];show n (λa ne=>aj ne) ⟨_,ar⟩ λJ=>#[vs.set T v,ar,(s.mv J).set T (W0.mv J)]
  |_=>simp[gr]at d
 |JF ks vs =>
  cases ws with
  |str y' =>
   simp only[gr]at d;split at d
   .rename_i hz;cases d;have(kvs,Y,s,h3):=l;have ey:m=.str y':=W2;subst ey;have hl:kvs.length=ks.length:=by have:=Ś vr s;simpa using this
    show .inr #[a0,_,rfl,wj.k (k:=nH y') Y (by rw[hl];show hz),?_];show n (λa ne=>aj ne) ⟨_,ar⟩ λJ=>?_;have(g1,g2):=y9 (y:=y') s h3 W0;show#[_,ar,g1,g2.mv J]
   .cases d
  |_=>simp[gr]at d
 |_=>simp[gr]at d
def Ok.slot(d:Ok C c)(e:k≠.A')(hs:c.st[i]?=a5 (a5 (k,u))):∃v,c.σ[i]?=a5 (a5 v)/\aK C c c (if k.root=a8 then .bor i else k) u v:=by
 have(f,b,a):=d.sl i k u hs;show#[f,b,?_];by_cases hk:k.root=a8
 .rw[Ŕ hk];show#[#[k,hk,hs],b]
 .rw[ŕ hk];cases k with
  |loc=>show a
  |any=>show a
  |bor j=>show a.elim
  |A'=>show(e rfl).elim
  |_=>show absurd rfl hk
end
end TM
namespace TM
open PySem L2 PyProof.Rows PySem.W
section
def HF(c:X.calm=a8)(d:Gl X x)(f:X.mg x=a5 (.ref Cc))(g:(x==("__debug__":Str))=bL)(i:excIn X.K Cc Qb "ValueError.__new__"=a8)(j:PE X a (JM C k))(l:gj [a] X.env=[(bL,tj a X.env)])
  (m:∀H',C.xw (.str x) H'->∀b σ s e s',Inv X b σ H' s->cv X.prog X.w X.stack H' s e Cc bD .none H' s'->X.xe (.ref e) s'):L2.PS X (.Raise (a5 (.Call (.Name x p) [a] [] q)) bD pos) (Kv C ns (k >>= λ_=>pure (.rt .io (.str x)))):=by
 show PS.weak (yE c d f g i j l) ?_;rintro D σ H ⟨c0,rfl,rfl,n,h⟩;show aN n h λx o v t w=>?_;rw[aq]at w;show λb s e s' I F=>m _ (w o rfl t.ok t.nx (Kept.of t.hσ)) b _ s e s' I F
def Ok.kill(b:Ok C c)(n:c.st[j]?=a5 bD):Ok C {c with σ:=c.σ.set j bD}/\Nx c {c with σ:=c.σ.set j bD}:=by
 have ne:∀(i:Nat) (r:Kd×U),c.st[i]?=a5 (a5 r)->(c.σ.set j bD)[i]?=c.σ[i]?:=λi r e=>f7 λz=>by subst z;rw[n]at e;cases e
 have l:∀a,({c with σ:=c.σ.set j bD}:Cf).R1 a->c.R1 a:=λa ⟨i,k,u,hk,d,f⟩=>#[i,k,u,hk,d,(ne i _ d)▸f]
 have p:MN C {c with σ:=c.σ.set j bD}:=b.dd.of rfl (λi u e=>#[e,ne i _ e]) (λa z=>.inl (l a z)) (.up λ_ z=>z) λi a z=>#[(b.root (.inr #[i,z])).1,λo q=>q]
 show#[#[b.same,b.LJ,b.par,b.io,by simp[b.len],λi k u e=>?_,λi m k k' u u' r hk s d f g t=>?_,p],#[λ_ _ h _=>h,λ_ o h=>#[o,h],λa z=>.inl ?_,λ_ h=>h,λ_ h=>.inl h]]
 .have(v,q,z):=b.sl i k u e;show#[v,(ne i _ e).trans q,z]
 .show b.inj i m k k' u u' r hk s d f ((ne i _ d)▸g) ((ne m _ f)▸t)
 .show z.imp (l a) λ⟨i,u,r,d,f,g⟩=>#[i,u,r,d,(ne i _ d)▸f,g]
end
end TM
namespace TM
open PySem L2 PyProof.Rows
section
def Ok.Ce(d:Ok C c)(n:Ns c0 c)(hi:c.st[i]?=a5 (a5 (.A',u)))(B:c.σ[i]?=a5 (a5 (.ref r)))(KO:∀a,¬c.RD i a->H' a=c.H a)(O:∀a o,c.H a=a5 o->∃o',H' a=a5 o')
  (new:Mv c.S c.H c.S H'->bo C c.S H' r as' u') (Q:∀a∈as',a∈c.kid i\/(¬c.R a/\c0.H a=bD)) :
  Ok C {c with H:=H',st:=c.st.set i (a5 (.A',u')),kid:=λj=>if j=i then as' else c.kid j}/\Ns c0 {c with H:=H',st:=c.st.set i (a5 (.A',u')),kid:=λj=>if j=i then as' else c.kid j}:=by
 have T:i<c.st.length:=(cL.mp hi).1;have rt:∀{a},c.RD i a->¬c.S a/\¬C.Lx a/\(C.H₀ a=bD\/C.IO a)/\∃o,c.H a=a5 o/\¬Tp o:=λz=>d.root (.inr #[i,z]);have h0:∀{a},c.RD i a->C.H₀ a=bD\/C.IO a:=λ⟨u1,r1,g,b,e3⟩=>(bo.fr (d.dd.kd i u1 r1 g b) _ (d4.mpr e3)).2.2;have q:∀{a:df} {o:HO},¬c.RD i a->c.H a=a5 o->H' a=a5 o:=λz e=>by rw[KO _ z];show e
 have N:Mv c.S c.H c.S H':=#[λ_ z=>z,λa o e t=>q (λz=>by
  have(_,_,_,o',l,nt):=rt z;rw[e]at l;cases l;show nt t) e,λa o z e=>q (λm=>(rt m).1 z) e]
 have Og:Mv (PS C c.S) c.H (PS C c.S) H':=#[λ_ z=>z,N.Qe,λa o z e=>q (λm=>z.elim (rt m).2.1 (rt m).1) e]
 have D:∀(j:Nat) k w,(c.st.set i (a5 (.A',u')))[j]?=a5 (a5 (k,w))->j≠i->c.st[j]?=a5 (a5 (k,w)):=λj k w e ne=>by rw[f7 (nT ne)]at e;show e
 have Y:∀(j:Nat) k w,k.root=a8->(c.st.set i (a5 (.A',u')))[j]?=a5 (a5 (k,w))->c.st[j]?=a5 (a5 (k,w)):=λj k w hk e=>by
  by_cases f:j=i
  .subst f;rw[c4 T]at e;cases e;cases hk
  .show D j k w e f
 have b1:∀a,({c with H:=H',st:=c.st.set i (a5 (.A',u')),kid:=λj=>if j=i then as' else c.kid j}:Cf).R1 a->c.R1 a:=λa ⟨j,k,w,hk,g,b⟩=>#[j,k,w,hk,Y j k w hk g,b]
 have G:∀j a,({c with H:=H',st:=c.st.set i (a5 (.A',u')),kid:=λj=>if j=i then as' else c.kid j}:Cf).RD j a->c.RD j a\/(j=i/\¬c.R a/\c0.H a=bD):=λj a JX=>by
  have(w,h,g,b,e3):=JX;by_cases f:j=i
  .subst f;have I:c.σ[j]?=a5 (a5 (.ref h)):=b;rw[B]at I;cases I;rcases e3 with rfl|e3
   .show .inl #[u,_,hi,B,.inl rfl]
   .have NW:a∈as':=by simpa using e3
    rcases Q a NW with z|z
    .show .inl #[u,_,hi,B,.inr z]
    .show .inr #[rfl,z]
  .have NW:a=h\/a∈c.kid j:=by simpa[f] using e3
   show .inl #[w,h,D j _ w g f,b,NW]
 show#[#[λa o e z=>q (λm=>(h0 m).elim (λy=>by rw[y]at e;cases e) z) (d.same a o e z),λa z=>?_,d.par,λa z=>?_,by simp[d.len],λj k w e=>?_,λx s k1 k2 w1 w2 h h1 h2 g b e3 e4=>d.inj x s k1 k2 w1 w2 h h1 h2 (Y x k1 w1 h1 g) (Y s k2 w2 h2 b) e3 e4,#[λj w h g b=>?_,λx s a J L=>?_,λj a J L=>?_]],#[λa o e z=>?_,λa o e=>?_,λa z=>?_,n.sub,n.new]]
 .have(q1,o,q2):=d.LJ a z;show#[q1,O a o q2]
 .have(q1,o,q2):=d.io a z;show#[q1,O a o q2]
 .by_cases f:j=i
  .subst f;rw[c4 T]at e;cases e;show#[.ref r,B,r,rfl]
  .have(v,g,b):=d.sl j k w (D j k w e f);show#[v,g,b.mv N Og λhk h er=>?_];have(Sx,Ly,J,_):=b.rt hk;rw[er]at Ly;cases Ly;show#[J,λo l=>q (λz=>d.dd.d1 i h z #[j,k,w,hk,D j k w e f,by rw[g,er]]) l]
 .by_cases f:j=i
  .subst f;rw[c4 T]at g;cases g;have I:c.σ[j]?=a5 (a5 (.ref h)):=b;rw[B]at I;cases I;have z:=new N;simpa using z
  .have KD:=D j _ w g f;have KC:(if j=i then as' else c.kid j)=c.kid j:=ŕ f;change bo C c.S H' h (if j=i then as' else c.kid j) w;rw[KC];show bo.mv N (λa ha=>#[(d.root (.inr #[j,w,h,KD,b,d4.mp ha])).1,λo l=>q (λz=>f (d.dd.dj j i a #[w,h,KD,b,d4.mp ha] z)) l]) (d.dd.kd j w h KD b)
 .rcases G x a J with p|⟨rfl,p,_⟩
  .rcases G s a L with A|⟨rfl,A,_⟩
   .show d.dd.dj x s a p A
   .show(A (.inr #[x,p])).elim
  .rcases G s a L with A|⟨rfl,A,_⟩
   .show(p (.inr #[s,A])).elim
   .rfl
 .rcases G j a J with p|⟨rfl,p,_⟩
  .show d.dd.d1 j a p (b1 a L)
  .show p (.inl (b1 a L))
 .show q (λm=>by
   rcases n.roots a (.inr #[i,m]) with y|y
   .show z y
   .rw[e]at y;cases y) (n.keep a o e z)
 .have(o',l):=n.there a o e;show O a o' l
 .rcases z with z|⟨j,z⟩
  .show n.roots a (.inl (b1 a z))
  .rcases G j a z with y|⟨_,_,y⟩
   .show n.roots a (.inr #[j,y])
   .show .inr y
def Ok.newD(l:Ok C c)(A:c.H p=bD)(hi:i<c.σ.length):
  Ok C {c with H:=upd c.H p (.dK []),σ:=c.σ.set i (a5 (.ref p)),st:=c.st.set i (a5 (.A',.JF [] [])),kid:=λj=>if j=i then [] else c.kid j}/\Ns c {c with H:=upd c.H p (.dK []),σ:=c.σ.set i (a5 (.ref p)),st:=c.st.set i (a5 (.A',.JF [] [])),kid:=λj=>if j=i then [] else c.kid j}:=by
 have(n,O):=l.lay (o:=.dK []) A;have(q1,q2,q3,q4,B):=l.iB A;have D:i<c.st.length:=by rw[l.len];show hi
 have u:∀(j:Nat) k w,(c.st.set i (a5 (.A',.JF [] [])))[j]?=a5 (a5 (k,w))->j≠i->c.st[j]?=a5 (a5 (k,w)):=λj k w e ne=>by rw[f7 (nT ne)]at e;show e
 have q:∀(j:Nat),j≠i->(c.σ.set i (a5 (.ref p)))[j]?=c.σ[j]?:=λj ne=>f7 (nT ne);have G:∀(j:Nat) k w,k.root=a8->(c.st.set i (a5 (.A',.JF [] [])))[j]?=a5 (a5 (k,w))->j≠i/\c.st[j]?=a5 (a5 (k,w)):=λj k w hk e=>by
  by_cases b:j=i
  .subst b;rw[c4 D]at e;cases e;cases hk
  .show#[b,u j k w e b]
 have b1:∀a,({c with H:=upd c.H p (.dK []),σ:=c.σ.set i (a5 (.ref p)),st:=c.st.set i (a5 (.A',.JF [] [])),kid:=λj=>if j=i then [] else c.kid j}:Cf).R1 a->c.R1 a:=λa I=>by
  have(j,k,w,hk,d,f):=I;have(b,J):=G j k w hk d;show#[j,k,w,hk,J,by rw[<-q j b];show f]
 have r:∀j a,({c with H:=upd c.H p (.dK []),σ:=c.σ.set i (a5 (.ref p)),st:=c.st.set i (a5 (.A',.JF [] [])),kid:=λj=>if j=i then [] else c.kid j}:Cf).RD j a->(j≠i/\c.RD j a)\/(j=i/\a=p):=λj a I=>by
  have(w,g,d,f,e3):=I;by_cases b:j=i
  .subst b;have s:(c.σ.set j (a5 (.ref p)))[j]?=a5 (a5 (.ref g)):=f;rw[c4 hi]at s;cases s;rcases e3 with rfl|e3
   .show .inr #[rfl,rfl]
   .simp at e3
  .have NW:a=g\/a∈c.kid j:=by simpa[b] using e3
   show .inl #[b,w,g,u j _ w d b,by rw[<-q j b];show f,NW]
 show#[#[n.same,n.LJ,n.par,n.io,by simp[l.len],λj k w e=>?_,λm h k1 k2 Q T g Y h2 d f e3 e4=>?_,#[λj w g d f=>?_,λm h a L t=>?_,λj a L t=>?_]],#[O.keep,O.there,λa z=>?_,λ_ z=>z,λ_ z=>.inl z]]
 .by_cases b:j=i
  .subst b;rw[c4 D]at e;cases e;show#[.ref p,c4 hi,p,rfl]
  .have(v,d,f):=n.sl j k w (u j k w e b);show#[v,(q j b).trans d,f]
 .have(NX,a1):=G m k1 Q Y d;have(NA,a2):=G h k2 T h2 f;show l.inj m h k1 k2 Q T g Y h2 a1 a2 ((q m NX).symm.trans e3) ((q h NA).symm.trans e4)
 .by_cases b:j=i
  .subst b;rw[c4 D]at d;cases d;have s:(c.σ.set j (a5 (.ref p)))[j]?=a5 (a5 (.ref g)):=f;rw[c4 hi]at s;cases s;change bo C c.S (upd c.H p (.dK [])) p (if j=j then [] else c.kid j) (.JF [] []);rw[Ŕ rfl];show#[[],ar,rfl,rfl,by simp,λa ha=>by rw[hY.mp ha];show#[q2,q3,q1],rfl]
  .have J:=u j _ w d b;have z:=n.dd.kd j w g J ((q j b).symm.trans f);change bo C c.S (upd c.H p (.dK [])) g (if j=i then [] else c.kid j) w;rw[ŕ b];show z
 .rcases r m a L with⟨_,x⟩|⟨rfl,rfl⟩
  .rcases r h a t with⟨_,N⟩|⟨rfl,rfl⟩
   .show l.dd.dj m h a x N
   .show(B (.inr #[m,x])).elim
  .rcases r h a t with⟨_,N⟩|⟨rfl,_⟩
   .show(B (.inr #[h,N])).elim
   .rfl
 .rcases r j a L with⟨_,x⟩|⟨rfl,rfl⟩
  .show l.dd.d1 j a x (b1 a t)
  .show B (.inl (b1 a t))
 .rcases z with z|⟨j,z⟩
  .show .inl (.inl (b1 a z))
  .rcases r j a z with⟨_,y⟩|⟨_,rfl⟩
   .show .inl (.inr #[j,y])
   .show .inr A
end
section
theorem dO.rep{S S':df->Prop}(hs:∀a,S a->S' a):∀{us:List U}{as:List df},(∀a∈as,S' a)->dO C S H us as->av C S' H us (as.map V.ref)
 |[],as,_,h=>by cases h;show rfl
 |u::us,as,c,h=>by
  have(a,as',ys,vs,rfl,rfl,d,e,f):=h;show#[.ref a,as'.map V.ref,rfl,#[a,vs,rfl,.inl #[c a (by simp),.inl d],e.mv (.up hs)],dO.rep hs (λb g=>c b (by simp[g])) f]
def Ok.Jp(b:Ok C c)(n:Nx c0 c)(B:∃ks us,u=.JF ks us)(hi:c.st[i]?=a5 (a5 (.A',u)))(s:c.σ[i]?=a5 (a5 (.ref r))):
  Ok C {c with S:=λa=>c.S a\/a∈c.kid i,st:=c.st.set i (a5 (.own,u))}/\Nx c0 {c with S:=λa=>c.S a\/a∈c.kid i,st:=c.st.set i (a5 (.own,u))}:=by
 have Q:i<c.st.length:=(cL.mp hi).1;have(ks,us,B):=B;have T:=b.dd.kd i u r hi s;have fr:=bo.UZ (B▸T);have mem:∀a,(a=r\/a∈c.kid i)->c.RD i a:=λa z=>#[u,r,hi,s,z]
 have up:Mv c.S c.H (λa=>c.S a\/a∈c.kid i) c.H:=.up λa=>.inl;have Zw:Mv (PS C c.S) c.H (PS C λa=>c.S a\/a∈c.kid i) c.H:=.up λa z=>z.imp id .inl;have SJ:r∉c.kid i/\dU C (λa=>c.S a\/a∈c.kid i) c.H r u:=by
  subst B;have(kvs,D,G,h3,h4,h5,h6):=T;show#[(rr.mp h4).1,kvs,D,G,?_];rw[h3];show h6.rep (λa=>.inl) λa I=>.inr I
 have p:∀(j:Nat) k w,(c.st.set i (a5 (.own,u)))[j]?=a5 (a5 (k,w))->j≠i->c.st[j]?=a5 (a5 (k,w)):=λj k w e ne=>by rw[f7 (nT ne)]at e;show e
 have b1:∀a,({c with S:=λa=>c.S a\/a∈c.kid i,st:=c.st.set i (a5 (.own,u))}:Cf).R1 a->c.R1 a\/a=r:=λa Y=>by
  have(j,k,w,hk,f,g):=Y;by_cases d:j=i
  .subst d;have K7:c.σ[j]?=a5 (a5 (.ref a)):=g;rw[s]at K7;cases K7;show .inr rfl
  .show .inl #[j,k,w,hk,p j k w f d,g]
 have J:∀j a,({c with S:=λa=>c.S a\/a∈c.kid i,st:=c.st.set i (a5 (.own,u))}:Cf).RD j a->j≠i/\c.RD j a:=λj a Y=>by
  have(w,h,f,g,t):=Y;by_cases d:j=i
  .subst d;rw[c4 Q]at f;cases f
  .show#[d,w,h,p j _ w f d,g,t]
 show#[#[b.same,λa z=>?_,b.par,b.io,by simp[b.len],λj k w e=>?_,λm l k1 k2 L N h D G f g t e4=>?_,#[λj w h f g=>?_,λm l a x z2=>b.dd.dj m l a (J m a x).2 (J l a z2).2,λj a x z2=>?_]],#[#[n.keep,n.there,λa z=>?_,λa z=>.inl (n.sub a z),λa z=>?_]]]
 .rcases z with z|z
  .show b.LJ a z
  .have(o,ho,_):=bo.there T a (fx _ z);show#[(fr a (fx _ z)).2.2,o,ho]
 .by_cases d:j=i
  .subst d;rw[c4 Q]at e;cases e;have(q1,q2,q3):=fr r (gs ..);show#[.ref r,s,r,rfl,λz=>z.elim q1 SJ.1,q2,q3,SJ.2]
  .have(v,f,g):=b.sl j k w (p j k w e d);show#[v,f,g.mv up Zw λhk h er=>?_];have(Sx,Ly,x,_):=g.rt hk;rw[er]at Ly;cases Ly;show#[λz=>z.elim x λz=>b.dd.d1 i h (mem h (.inr z)) #[j,k,w,hk,p j k w e d,by rw[f,er]],λo q=>q]
 .by_cases O:m=i
  .by_cases A:l=i
   .rw[O,A]
   .subst O;have NW:c.σ[m]?=a5 (a5 (.ref h)):=t;rw[s]at NW;cases NW;show(b.dd.d1 m r (mem r (.inl rfl)) #[l,k2,N,G,p l k2 N g A,e4]).elim
  .by_cases A:l=i
   .subst A;have W3:c.σ[l]?=a5 (a5 (.ref h)):=e4;rw[s]at W3;cases W3;show(b.dd.d1 l r (mem r (.inl rfl)) #[m,k1,L,D,p m k1 L f O,t]).elim
   .show b.inj m l k1 k2 L N h D G (p m k1 L f O) (p l k2 N g A) t e4
 .by_cases d:j=i
  .subst d;rw[c4 Q]at f;cases f
  .have KD:=p j _ w f d;show bo.mv up (λa I=>#[λz=>z.elim (b.root (.inr #[j,w,h,KD,g,d4.mp I])).1 λz=>d (b.dd.dj j i a #[w,h,KD,g,d4.mp I] (mem a (.inr z))),λo q=>q]) (b.dd.kd j w h KD g)
 .have(d,y):=J j a x;rcases b1 a z2 with z|z
  .show b.dd.d1 j a y z
  .subst z;show d (b.dd.dj j i a y (mem a (.inl rfl)))
 .rcases z with z|⟨j,z⟩
  .rcases b1 a z with z|rfl
   .show n.roots a (.inl z)
   .show n.roots a (.inr #[i,mem a (.inl rfl)])
  .show n.roots a (.inr #[j,(J j a z).2])
 .rcases z with z|z
  .show n.new a z
  .rcases n.roots a (.inr #[i,mem a (.inr z)]) with y|y
   .show .inr (.inl y)
   .show .inr (.inr y)
def Cg(f:X.N[i]?=a5 x)(g:KA X.env.scope x)(j:(x==("__debug__":Str))=bL)(k:(x==("__classdict__":Str))=bL):PE X (.Name x pos) (JM C (yK i)):=by
 have m:=pL (C:=C) (pos:=pos) f g j k;rintro b s σ H Q I ⟨c0,rfl,rfl,c,r,st',e,h⟩;unfold yK at e;split at e
 .rename_i ks us hs;cases e;have(v,d,l,rfl):=c.sl i _ _ hs;have(n,o):=c.Jp (Nx.refl c0) #[_,_,rfl] hs d;have p:i<c0.st.length:=(cL.mp hs).1;show bf f g j k b s c0.σ c0.H Q I #[.ref l,d,h {c0 with S:=λa=>c0.S a\/a∈c0.kid i,st:=c0.st.set i (a5 (.own,.JF ks us))} (.ref l) rfl rfl n o ⟨⟨.own,rfl,c4 p⟩,d⟩]
 .show m b s c0.σ c0.H Q I #[c0,rfl,rfl,c,r,st',e,h]
end
section
def ic{st:aw}(h:W (ju i) st Q):∃ks us,st[i]?=a5 (a5 (.A',.JF ks us))/\Q (ks,us) st:=by
 have(r,st',e,q):=h;unfold ju at e;split at e
 .rename_i ks us hs;cases e;show#[ks,us,hs,q]
 .cases e
def ie{st:aw}(h:W (lh x) st Q):∃y,x.2=.str y/\Q y st:=by
 unfold lh at h;split at h
 .rename_i y e;rw[aq]at h;show#[y,e,h]
 .show(bg.mp h).elim
def Ok.JF(d:Ok C c)(hi:c.st[i]?=a5 (a5 (.A',.JF ks us))):∃(r:df) (kvs:List (Key×V)),c.σ[i]?=a5 (a5 (.ref r))/\c.H r=a5 (.dK kvs)/\kvs.map (·.1)=ks.map nH/\kvs.map (·.2)=(c.kid i).map V.ref /\
  (r::c.kid i).Nodup/\dO C c.S c.H us (c.kid i)/\(∀y:Str,(dS kvs (nH y)).isSome=b7 (y∈ks))/\∀(y:Str) (u:U),eD ks us y=a5 u->∃v,dS kvs (nH y)=a5 v/\Rep C (λa=>c.S a\/a∈c.kid i) c.H u v:=by
 have(v,e,r,rfl):=d.sl i _ _ hi;have(kvs,j,b,f,k,m,g):=d.dd.kd i _ r hi e;have h:av C (λa=>c.S a\/a∈c.kid i) c.H us (kvs.map (·.2)):=by rw[f];show g.rep (λa=>.inl) λa l=>.inr l
 show#[r,kvs,e,j,b,f,k,g,λy=>(d_ (x:=y) b h).2,λy=>(d_ (x:=y) b h).1]
def qZ{k:Str->List Str×List U->M β}{Post:β->aw->Prop}{Z:V->V->Hp->Prop}(j:Ok C c0)(h:W (l >>= λx=>lh x >>= λy=>ju i >>= λd=>k y d) c0.st Post)
  (hz:∀(c:Cf) (y:Str) (ks:List Str) (us:List U) (r:df) (kvs:List (Key×V)),c.σ=c0.σ->Ok C c->Nx c0 c->c.H r=a5 (.dK kvs)->(dS kvs (nH y)).isSome=b7 (y∈ks)->W (k y (ks,us)) c.st Post->Z (.str y) (.ref r) c.H) :
  JM C l c0.σ c0.H λv m=>∃v',c0.σ[i]?=a5 (a5 v')/\Z v v' m:=by
 show#[c0,rfl,rfl,j,?_];rw[ag]at h;show W.mono h λx st' w c v b hs a n r=>?_;subst hs;have(s,t):=x;rw[ag]at w;have(y,e,f):=ie w;clear w
 dsimp only at e r
 subst e;have ev:v=.str y:=r.str a;subst ev;rw[ag]at f;have(ks,us,hs,w):=ic f;have(g,kvs,o,p,_,_,_,_,q,_):=a.JF hs;show#[.ref g,by rw[<-b];show o,hz c y ks us g kvs b a n p (q y) w]
abbrev Fu(neg:Bool):CmpOp:=if neg=a8 then .NotIn else .In
def Fv(b:∀j,ns j=a8->j≠i)(c:X.N.Nodup)(hi:X.N[i]?=a5 x)(d:Loc X.env.scope x)(f:X.fn x=a8\/X.env.scope.names.lookup x=a5 .local)
  (hs:PL (.Dict [] [] p) (a5 (.Name x pos')) pos.line X.env=pure bL):L2.PS X (.Assign [.Name x pos'] (.Dict [] [] p) pos) (Kv C ns (Dw i >>= λ_=>pure .nx)):=by
 rintro a s σ H D I ⟨c0,rfl,rfl,g,h⟩;have k:i<c0.σ.length:=by rw[I.len];show(cL.mp hi).1
 show oS c hi d qH hs f a s c0.σ c0.H D I λq l=>?_;have(m,n):=g.newD l k;rw[ag]at h;have(_,st',e,w):=h;cases e;rw[aq]at w;show w _ rfl m n #[λj o=>f7 (nT (b j o)),by simp]
end
section
def Ci(G:X.A.units+60<L')(p:X.N[i]?=a5 x)(q:KA X.env.scope x)(t:(x==("__debug__":Str))=bL)(u:(x==("__classdict__":Str))=bL)(v:PE X a (JM C D))(z:RG (Fu neg) (.Name x p2)=bL):
  PT X (.Compare a [Fu neg] [.Name x p2] pos) (K4 C (D >>= λx=>lh x >>= λy=>ju i >>= λd=>pure (U2 neg y d.1))):=by
 rintro e s σ H Q I ⟨c0,rfl,rfl,B,h⟩;cases neg with
 |false =>
  show xR (EB ⋯ v (bf p q t u)) z e s c0.σ c0.H Q I (qZ (Z:=λy x f=>∃a o,x=V.ref a/\fJ f a y o/\∃b,V.bl o.isSome=.bl b/\Q b f) B h λc y ks us r kvs g j n l m w=>?_);rw[aq]at w;show#[r,_,rfl,fJ.k (k:=nH y) l,?_];rw[m];show#[_,rfl,w c g rfl j n]
 |true =>
  show xR (wq ⋯ v (bf p q t u)) z e s c0.σ c0.H Q I (qZ (Z:=λy x f=>∃a o,x=V.ref a/\fJ f a y o/\∃b,V.bl (!o.isSome)=.bl b/\Q b f) B h λc y ks us r kvs g j n l m w=>?_);rw[aq]at w;show#[r,_,rfl,fJ.k (k:=nH y) l,?_];rw[m];show#[_,rfl,w c g rfl j n]
theorem dO.snoc{S:df->Prop}{a:df}(b:H a=a5 (.lst vs))(c:av C S H ys vs):∀{us:List U}{as:List df},dO C S H us as->dO C S H (us++[.lst ys]) (as++[a])
 |[],as,h=>by cases h;show#[a,[],ys,vs,rfl,rfl,b,c,rfl]
 |u::us,as,h=>by
  have(a',as',d,vs',rfl,e,f,g,i):=h;show#[a',as'++[a],d,vs',rfl,e,f,g,dO.snoc b c i]
def tN{st:aw}(h:W (mn i y r) st Q):∃us ks vs,r=(.own,.lst us)/\st[i]?=a5 (a5 (.A',.JF ks vs))/\y∉ks/\ks.length<b6/\Q () (st.set i (a5 (.A',.JF (ks++[y]) (vs++[.lst us])))):=by
 have(k,u):=r;cases k<;>cases u<;>first|show(bg.mp h).elim|skip
 rename_i us;have(_,st',e,q):=h;unfold mn at e
 dsimp only at e
 split at e
 .rename_i ks vs hs;split at e
  .rename_i hz;cases e;show#[us,ks,vs,rfl,hs,hz.1,hz.2,q]
  .cases e
 .cases e
def Fw{i:Nat}{x:Str}{px:Pos}(hu:X.A.units+60<L')(hN:X.N[i]?=a5 x)(hv:KA X.env.scope x)(hd:(x==("__debug__":Str))=bL)(JT:(x==("__classdict__":Str))=bL)
  (ha:PE X a (JM C ma)) (s:PE X b (JM C mb)) (hs:RE [.Subscript (.Name x px) b p] a pos.line X.env=pure bL) (Ou:VT [.Subscript (.Name x px) b p] a X.env=pure bD)
  (u:∀v,S5 (.Subscript (.Name x px) b p) X.env v=(do
   let l <-K9 [v] (tj (.Name x px) X.env)
   let B <-K9 [v,l] (tj b X.env)
   R6 p
   K9 [v,l,B] (Ud l B v)
   WW [v,l,B] [])) :
  L2.PS X (.Assign [.Subscript (.Name x px) b p] a pos) (Kv C ns (ma >>= λr=>ju i >>= λ_=>mb >>= λx=>lh x >>= λy=>mn i y r >>= λ_=>pure .nx)):=by
 show PS.weak (r9 ha (xV (bf hN hv hd JT) s (set_dict (X:=X) ⋯) u) hs Ou rfl) ?_;rintro D σ H ⟨c0,rfl,rfl,J,h⟩;show aN J h λr c v t w=>?_;rw[ag]at w;have(W4,us0,K5,w):=ic w;have(L,Pu,O,g0,_):=t.ok.JF K5;show#[.ref L,by rw[<-t.hσ];show O,?_];rw[ag]at w;show#[c,t.hσ,rfl,t.ok,w.mono λy st2 Q G vy m e4 n T r2=>?_];subst e4;rw[ag]at Q;have(ky,uy):=y;have(y,Y,w3):=ie Q
 dsimp only at Y r2
 subst Y;have ev:vy=.str y:=r2.str n;subst ev;rw[ag]at w3;have(us,ks,vs,I,g,Zx,j,q):=tN w3;subst I;rw[aq]at q;have(r1,kvs,d,g1,g2,g3,g4,g5,g6,_):=n.JF g;have I:r1=L:=by rw[m,<-t.hσ,O]at d;cases d;rfl
 subst I;have(f,rfl,k1,k2,k3,vs',k4,k5):=t.rx.w.on t.ok T.toNs (m.trans t.hσ.symm);have Qm:=t.nx.trans T;have hl:kvs.length=ks.length:=by have:=Ś vr g2;simpa using this
 have NB:dS kvs (nH y)=bD:=by
  have:=g6 y;rw[Ŗ Zx]at this;cases hq:dS kvs (nH y) with
  |none=>rfl
  |some _=>rw[hq]at this;cases this
 show#[r1,_,rfl,wj.k (k:=nH y) g1 (by rw[hl];show j),?_];rw[yg _ NB];have SJ:f∉G.kid i:=λz=>k3 (.inr #[i,_,_,g,d,.inr z]);have W5:f≠r1:=λz=>k3 (.inr #[i,_,_,g,d,.inl z]);have rd:=n.dd.kd i _ _ g d;have fr:=bo.UZ rd;have(L6,n3):=Ok.Ce (H':=upd G.H r1 (.dK (kvs++[(nH y,.ref f)]))) (u':=.JF (ks++[y]) (vs++[.lst us])) (as':=G.kid i++[f]) n Qm.toNs g d
  (λa ne=>aj λz=>ne #[_,_,g,d,.inl z]) (λa o e=>by
   by_cases hz:a=r1
   .subst hz;show#[_,ar]
   .rw[aj hz];show#[o,e])
  (λmv=>by
   show#[_,ar,by rw[kj,g2,kj];rfl,by rw[kj,g3,kj];rfl,?_,λa ha=>?_,?_]
   .rw[<-Wq,nc];show#[g4,by simp,λa ha b s=>by
     have:b=f:=by simpa using s
     subst this;rintro rfl;rcases d4.mp ha with z|z
     .show W5 z
     .show SJ z]
   .rw[<-Wq]at ha;rcases f6.mp ha with ha|ha
    .show fr a ha
    .have:a=f:=by simpa using ha
     subst this;have(z1,_,z3,_):=J.iB k1;show#[k2,z3,z1]
   .show dO.snoc (by rw[aj W5];show k4) (k5.mv mv) (dO.mv mv (λa ha o e=>by
     rw[aj (λz=>(rr.mp g4).1 (by rw[<-z];show ha))];show e) g5))
  (λa ha=>by
   rcases f6.mp ha with ha|ha
   .show .inl ha
   .have:a=f:=by simpa using ha
    subst this;show .inr #[k3,k1])
 have z:=q _ rfl L6 n3 (Kept.of m);rw[<-m];show z
theorem dO.at{S:df->Prop}:∀{ks:List Str}{us:List U}{as:List df}{kvs:List (Key×V)}{u:U},kvs.map (·.1)=ks.map nH->kvs.map (·.2)=as.map V.ref->as.Nodup->dO C S H us as->eD ks us y=a5 u ->
  ∃a ws ys,dS kvs (nH y)=a5 (.ref a)/\a∈as/\u=.lst ys/\H a=a5 (.lst ws)/\av C S H ys ws/\∀(H':Hp) (c:List U) (d:List V),Mv S H S H'->H' a=a5 (.lst d)->av C S H' c d->(∀b∈as,b≠a->H' b=H b)->dO C S H' (lj ks us y (.lst c)) as
 |[],us,as,kvs,u,_,_,_,_,h=>by cases us<;>cases h
 |k::ks,[],as,kvs,u,_,_,_,_,h=>by cases h
 |k::ks,u0::us,as,kvs,u,f,n,g,hk,h=>by
  have(a,as',ys,ws,rfl,rfl,s,t,v):=hk;cases kvs with
  |nil=>simp at f
  |cons p kvs =>
   rw[d6,d6,QL]at f n;rw[rr]at g;by_cases i:k=y
   .subst i;simp only[eD,if_true]at h;cases h;show#[a,ws,ys,by rw[ff f.1,n.1],by simp,rfl,s,t,λH' c d j q r l=>?_];simp only[lj,if_true];show#[a,as',c,d,rfl,rfl,q,r,dO.mv j (λb m o e=>by rw[l b (by simp[m]) (λz=>g.1 (z▸m))];show e) v]
   .simp only[eD,ŕ i]at h;have(w,A,B,D,x,G,I,J,L):=dO.at f.2 n.2 g.2 v h;show#[w,A,B,?_,by simp[x],G,I,J,λH' c d j q r l=>?_]
    .rw[fg (by rw[f.1];intro z;show i (U9 z))];show D
    .simp only[lj,ŕ i];have N:a≠w:=λz=>g.1 (z▸x);show#[a,as',ys,ws,rfl,rfl,by rw[l a (by simp) N];show s,t.mv j,L H' c d j q r λb m=>l b (by simp[m])]
def tP{st:aw}(h:W (mq i y u) st Q):∃ks vs xs,st[i]?=a5 (a5 (.A',.JF ks vs))/\eD ks vs y=a5 (.lst xs)/\xs.length<b6/\Q () (st.set i (a5 (.A',.JF ks (lj ks vs y (.lst (xs++[u])))))):=by
 have(_,st',e,q):=h;unfold mq at e;split at e
 .rename_i ks vs hs;split at e
  .rename_i xs a;split at e
   .rename_i hz;cases e;show#[ks,vs,xs,hs,a,hz,q]
   .cases e
  .cases e
 .cases e
abbrev wV(C:Ct)(m:M (Kd×U)):TE:=λσ H Q=>∃c0:Cf,c0.σ=σ/\c0.H=H/\Ok C c0/\W m c0.st λr st'=>∀c v,c.σ=σ->c.st=st'->Ok C c->Nx c0 c->(∀a o,c0.H a=a5 o->c.H a=a5 o)->aK C c0 c r.1 r.2 v->Q v c.H
def oq(b:Ok C c0)(h:W (d >>= k) c0.st Post)
  (hz:∀x c v,Rm C c0 c x v->(∀a o,c0.H a=a5 o->c.H a=a5 o)->W (k x) c.st Post->Z v c.H):wV C d c0.σ c0.H Z:=by
 rw[ag]at h;show#[c0,rfl,rfl,b,h.mono λx st1 e f g i j l m n r1=>hz x f g #[i,l,m,r1] n (by rw[j];show e)]
def y_(d:X.N[i]?=a5 x)(f:KA X.env.scope x)(g:(x==("__debug__":Str))=bL)(l:(x==("__classdict__":Str))=bL):PE X (.Name x pos) (wV C (dW i)):=by
 show PE.weak (bf d f g l) ?_;rintro σ H Q ⟨c0,rfl,rfl,b,r,st',e,h⟩;unfold dW at e;split at e
 .cases e
 .rename_i k u m hs;cases e;have(v,c,a):=b.sl i k u hs;show#[v,c,h c0 v rfl rfl b (Nx.refl c0) (λ_ _ z=>z) ?_];by_cases hk:k.root=a8
  .rw[Ŕ hk];show#[#[k,hk,hs],c]
  .rw[ŕ hk];cases k with
   |loc=>show a
   |any=>show a
   |bor j=>show a.elim
   |A'=>show(m rfl).elim
   |_=>show absurd rfl hk
 .cases e
def jA(h:PE X e (tC v))(r:∀S H,Rep C S H u v):PE X e (wV C (pure (.loc,u))):=by
 show PE.weak h ?_;rintro σ H Q ⟨c0,rfl,rfl,a,h⟩;rw[aq]at h;show h c0 v rfl rfl a (Nx.refl c0) (λ_ _ z=>z) (r _ _)
def Fx(hK:C.K=X.K)(hu:X.A.units+60<L')(hN:X.N[i]?=a5 x)(hv:KA X.env.scope x)(hd:(x==("__debug__":Str))=bL)(JT:(x==("__classdict__":Str))=bL)(s:PE X a (wV C ma))(hb:PE X b (JM C mb))(Rt:EA b)
  (KJ:((uv B (gj [a] X.env)).all (λx=>!x.1)&&(Oc B (Es [] X.env)).all (λx=>x.1.isSome)
   && b7 ([a].length+([]:List O1).length+(if ([]:List O1).isEmpty then 0 else 1)<30))=a8)
  (JU:(apos.endLine==B.line)=a8) (T:gj [a] X.env=[(bL,tj a X.env)]) :
  L2.PS X (.Expr (.Call (.Attribute (.Subscript (.Name x px) b p) "append" apos) [a] [] B) pos) (Kv C ns (ju i >>= λ_=>mb >>= λx=>lh x >>= λy=>ju i >>= λd=>if y∈d.1 then(ma >>= λr=>lift r >>= λu=>mq i y u >>= λ_=>pure .nx) else M.fail)):=by
 show PS.weak (jh (uP PySem.F.plainAttrs_list PySem.F.slot_list_append PySem.F.type_list_append jV (Bq ⋯ (bf hN hv hd JT) hb Rt) (bM s c8 T) rfl KJ JU T rfl)) ?_;rintro D σ H ⟨c0,rfl,rfl,Y,h⟩;rw[ag]at h;have(W4,us0,K5,h):=ic h;have(r0,Pu,G,g0,_):=Y.JF K5;show#[.ref r0,G,?_];show aN Y h λry c vy t w=>?_;rw[ag]at w;have(ky,uy):=ry;have(y,ey,w1):=ie w
 dsimp only at ey
 subst ey;have ev:vy=.str y:=t.rx.str t.ok;subst ev;rw[ag]at w1;have(ks,us,hs,j):=ic w1
 dsimp only at j
 by_cases I:y∈ks
 case neg=>rw[ŕ I]at j;show(bg.mp j).elim
 rw[Ŕ I]at j;have(r1,kvs,f1,g1,g2,g3,g4,g5,g6,_):=t.ok.JF hs;have J:r1=r0:=by rw[t.hσ,G]at f1;cases f1;rfl
 subst J;have OP:=g6 y;rw[ŗ I]at OP;have(v0,m):=R0.mp OP;have Kp:v0∈(c.kid i).map V.ref:=by
  rw[<-g3];unfold dS at m;have(q,hq,rfl):=gi.mp m;show Rr (List.mem_of_find?_eq_some hq)
 have(f,Vn,rfl):=ku.mp Kp;have(MF,Vo):=g5.mem Vn;show#[r1,.ref f,rfl,by rw[<-m];show fJ.k (k:=nH y) g1,Or.inl #[rfl,MF,.inl (.inl Vo)],?_];rw[<-t.hσ];show oq t.ok j λr g v t' wK w3=>?_;rw[ag]at w3;have(S',st',u,sS,L,n1,l,w4,_,_):=h_ t.ok t'.ok t'.nx t'.rx.w w3;rw[ag]at w4;have(W6,vs',xs,n,hx,hz,q):=tP w4;rw[aq]at q;have(r2,O,k1,k2,k3,k4,k5,k6,_,_):=L.JF n;have W7:g.σ[i]?=a5 (a5 (.ref r2)):=k1;have J:r2=r1:=by rw[t'.hσ,t.hσ,G]at W7;cases W7;rfl
 subst J;have ZA:g.H r2=a5 (.dK O):=k2;have Vp:O=kvs:=by have:=wK _ _ g1;rw[ZA]at this;cases this;rfl
 subst Vp;have nd:=(rr.mp k5).2;have(a2,ws,ys,l1,l2,l3,l4,l5,l6):=dO.at k3 k4 nd k6 hx;cases l3;rw[m]at l1;cases l1;have ZC:g.H f=a5 (.lst ws):=l4;show#[f,ws,v,rfl,rfl,ZC,by rw[<-l5.len];show hz,?_];have KO:f≠r2:=λz=>(rr.mp k5).1 (z▸l2);have(J',n2):=Ok.Ce (c:={g with S:=S',st:=st' }) (H':=upd g.H f (.lst (ws++[v]))) (u':=.JF W6 (lj W6 vs' y (.lst (xs++[u])))) (as':=g.kid i) L (t.nx.trans n1).toNs n k1
  (λa ne=>aj λz=>ne #[_,_,n,k1,.inr (z▸l2)]) (λa o e=>by
   by_cases hz:a=f
   .subst hz;show#[_,ar]
   .rw[aj hz];show#[o,e])
  (λQ=>#[O,by rw[aj (nT KO)];show k2,k3,k4,k5,bo.UZ (L.dd.kd i _ _ n k1),l6 _ _ _ Q ar ((l5.mv Q).snoc (l.mv Q)) λb _ ne=>aj ne])
  (λa s=>.inl s)
 have z:=q _ rfl J' n2 (Kept.of (t'.hσ.trans t.hσ));rw[<-t'.hσ];show z
end
section
def za{st:aw}(h:W (U3 u) st Q):∃ks us,u=.JF ks us/\Q () st:=by
 cases u<;>first|show(bg.mp h).elim|skip
 show#[_,_,rfl,aq.mp h]
def ot{st:aw}(h:W (wI x) st Q):∃j,x.2=.int j/\Q j st:=by
 unfold wI at h;split at h
 .rename_i y e;rw[aq]at h;show#[y,e,h]
 .show(bg.mp h).elim
def ou{st:aw}(h:W (qV i) st Q):∃k us,k.root=a8/\st[i]?=a5 (a5 (k,.lst us))/\Q us st:=by
 have(r,st',e,q):=h;unfold qV at e;split at e
 .rename_i k us hs;split at e
  .rename_i hk;cases e;show#[k,_,hk,hs,q]
  .cases e
 .cases e
theorem q_:∀{ks:List Str}{us:List U},y∈ks->ks.length=us.length->eD ks us y=bD->False
 |[],us,h,_,_=>by cases h
 |k::ks,[],_,h,_=>by simp at h
 |k::ks,u::us,h,hl,e=>by
  by_cases hk:k=y
  .simp[eD,hk]at e
  .simp only[eD,ŕ hk]at e;rcases d4.mp h with h|h
   .show hk h.symm
   .show q_ h (by simpa using hl) e
def zb{i:Nat}{x:Str}{px:Pos}(hu:X.A.units+60<L')(hN:X.N[i]?=a5 x)(hv:KA X.env.scope x)(hd:(x==("__debug__":Str))=bL)(JT:(x==("__classdict__":Str))=bL)
  (ha:PE X a (JM C ma)) (hb:PE X b (JM C mb)) (hm:M2 X (.Name x px) "get" apos a b JC) :
  PE X (.Call (.Attribute (.Name x px) "get" apos) [a,b] [] JC) (JM C (dW i >>= λx=>U3 x.2 >>= λ_=>ma >>= λy=>lh y >>= λy=>mb >>= λz=>lift z >>= λu=>dW i >>= λx=>M.Kb (BI x y u))):=by
 rintro e s σ H Q I ⟨c0,rfl,rfl,o,h⟩;show yj ⋯ (bf hN hv hd JT) ha hb hm e s c0.σ c0.H Q I ?_;rw[ag]at h;have(k0,u0,Vq,K5,h):=eh h;have(v0,B,t0):=o.slot Vq K5;rw[ag]at h;have(W4,us0,D,h'):=za h
 dsimp only at D
 subst D;have(a0,Pu,rfl,g0,_):=t0.dict o;show#[.ref a0,B,a0,rfl,.inl #[Pu,.inl g0],?_];show aN o h' λry c vy t w=>?_;rw[ag]at w;have(ky,uy):=ry;have(y,G,w1):=ie w
 dsimp only at G
 subst G;have ev:vy=.str y:=t.rx.str t.ok;subst ev;rw[<-t.hσ];show aN t.ok w1 λz f vz g J=>?_;rw[ag]at J;have(S',st',u,sS,p,n1,j,L,_,_):=h_ t.ok g.ok g.nx g.rx.w J;rw[ag]at L;have(k,u1,ZD,Lf,w5):=eh L;have(r,d,q):=da.mp w5;have(v1,e1,t1):=p.slot ZD Lf;have O:f.σ[i]?=a5 (a5 v1):=e1;rw[g.hσ,t.hσ,B]at O;cases O;cases u1<;>first|(simp only[BI]at d;cases d;done)|skip
 rename_i ks us;have(a1,kvs,ea,g1,T,Y):=t1.dict p;cases ea;have MV:f.H a0=a5 (.dK kvs):=g1;show#[_,fJ.k (k:=nH y) MV,?_];simp only[BI]at d;have(l1,l2):=d_ (x:=y) T Y;have l:∀v:V,aK C c0 {f with S:=S',st:=st' } r.1 r.2 v->Q v f.H:=λv z=>q {f with S:=S',st:=st' } v (g.hσ.trans t.hσ) rfl p (t.nx.trans n1) z;cases n:eD ks us y with
 |some w =>
  rw[n]at d;cases d;have(v,ev,rv):=l1 w n;rw[ev];show l v ?_;show aK.item (k:=if k.root=a8 then .bor i else k) rv
 |none =>
  rw[n]at d;cases d;have NB:dS kvs (nH y)=bD:=by
   cases hq:dS kvs (nH y) with
   |none=>rfl
   |some v =>
    exfalso
    rw[hq]at l2;have hy:y∈ks:=by simpa using l2.symm
    have m:ks.length=us.length:=by have h1:=Ś vr T;have h2:=Y.len;simp at h1 h2;lia
    show q_ hy m n
  rw[NB];show l vz j
def zc:GX X (λo i H Q=>∃p xs j v,o=.ref p/\i=.int j/\H p=a5 (.lst xs)/\0<=j/\xs[j.toNat]?=a5 v/\Q v H):=by
 rintro a s σ H o i k l Q I c d ⟨p,xs,j,v,rfl,rfl,e,f,b,q⟩;cases c;have(t,rfl):=d;have(m,r,pl,hz):=I.list (.inl (.inl e));have(w,g,h):=r.get b;have hl:=r.length;have n:=gz;have u:=(cL.mp b).1;show wpAny_getItem_list pl.isList f ⋯ (by simpa using g) #[v,H,I,h,q]
def Cj:R7 X (if sub=a8 then .Sub else .Add) (Tr (wJ sub)):=by
 cases sub with
 |true=>show Eb
 |false=>show Ea
def HG(hN:X.N[i]?=a5 x)(hv:KA X.env.scope x)(hd:(x==("__debug__":Str))=bL)(JT:(x==("__classdict__":Str))=bL)
  (ha:PE X a (wV C ma)) (hb:PE X b (JM C mb))
  (m:∀e f new,Ň b e f new=(do K9 [new,e,f] (Ud e f new);WW [new,e,f] [];pure .next)) :
  L2.PS X (.AugAssign (.Subscript (.Name x px) b p) (if sub=a8 then .Sub else .Add) a pos) (Kv C ns (qV i >>= λ_=>mb >>= λy=>wI y >>= λj=>qV i >>= λus=>M.Kb (qW us j) >>= λo=>ma >>= λz=>wI z >>= λw=>modS i (gr (.int j) (.int (wJ sub o w))) >>= λ_=>pure .nx)):=by
 show PS.weak (A8 (bf hN hv hd JT) hb zc ha Cj set_list m) ?_;rintro D σ H ⟨c0,rfl,rfl,u,h⟩;rw[ag]at h;have(k0,us0,Ru,K5,h):=ou h;have(v0,n,ME):=u.sl i _ _ K5;have(a0,rfl,_,_,_,_):=ME.rt Ru;show#[.ref a0,n,?_];show aN u h λry c vy t w=>?_;rw[ag]at w;have(ky,uy):=ry;have(j,v,A):=ot w
 dsimp only at v
 subst v;have ev:vy=.int j:=t.rx.int t.ok;subst ev;rw[ag]at A;have(k1,ZE,Pd,Lf,B):=ou A;rw[ag]at B;have(o,ho,w3):=da.mp B;have(v1,G,ZF):=t.ok.sl i _ _ Lf;have(a1,rfl,_,_,_,Rv):=ZF.rt Pd;rw[t.hσ,n]at G;cases G;have(vs,I,g2):=Rv;unfold qW at ho;split at ho
 case isFalse=>cases ho
 rename_i ZG;split at ho
 case h_2=>cases ho
 rename_i o' Vr;cases ho;have(vo,ZH,ZI):=g2.get Vr;have ZJ:vo=.int o:=ZI;subst ZJ;show#[a0,vs,j,_,rfl,rfl,I,ZG,ZH,?_];rw[<-t.hσ];show oq t.ok w3 λz r vz d all2 J=>?_;rw[ag]at J;have(kz,uz):=z;have(w,L,O):=ot J
 dsimp only at L
 subst L;have ev:vz=.int w:=d.rx.int d.ok;subst ev;show#[o,w,rfl,rfl,?_];rw[ag]at O;have(k,u1,u2,hk,Q,g,q):=ib O;rw[aq]at q;have(v2,s,OA):=d.ok.sl i _ _ Q;have(a2,rfl,_,_,_,Rx):=OA.rt hk;have ZK:=s;rw[d.hσ,t.hσ,n]at s;cases s;have T:r.H a0=a5 (.lst vs):=all2 _ _ I;cases u1 with
 |lst xs =>
  simp only[gr,gi]at g;have(l,Mu,rfl):=g;have(W9,Y,l2):=Rx;rw[T]at Y;cases Y;show#[a0,vs,j,l,rfl,rfl,T,by rw[<-l2.len];show Mu,?_];have(L6,n3):=Ok.mod (c:=r) (H':=upd r.H a0 (.lst (vs.set l (.int (wJ sub o w))))) (u':=.lst (xs.set l (.int (wJ sub o w)))) d.ok (t.nx.trans d.nx).toNs hk Q ZK (λa ne=>aj ne) ⟨_,ar⟩ λmv=>#[_,ar,(l2.mv mv).set l rfl]
  have z:=q _ rfl L6 n3 (Kept.of (d.hσ.trans t.hσ));rw[<-d.hσ];show z
 |JF ks vs=>simp[gr]at g
 |_=>simp[gr]at g
end
section
def Cm{ks:List Str}(c:kvs.map (·.1)=ks.map nH)(d:kvs.map (·.2)=ns.map V.int):kvs=(ks.zip ns).map λp=>((nH p.1:Key),V.int p.2):=by
 induction kvs generalizing ks ns with
 |nil =>
  cases ks with
  |nil=>rfl
  |cons _ _=>cases c
 |cons kv kvs e =>
  cases ks with
  |nil=>cases c
  |cons k ks =>
   cases ns with
   |nil=>cases d
   |cons n ns =>
    have(a,b):=kv;simp only[d6,QL]at c d;have(rfl,c):=c;have(rfl,d):=d;rw[e c d];rfl
theorem av.of_map{S:df->Prop}{f:α->U}{g:α->V}:∀{l:List α},(∀x∈l,Rep C S H (f x) (g x))->av C S H (l.map f) (l.map g)
 |[],_=>rfl
 |x::l,h=>#[g x,l.map g,rfl,h x (by simp),av.of_map λy a=>h y (by simp[a])]
def Cn(J:X.calm=a8)(hK:C.K=X.K)(O:Gl X "sorted")(Y:X.mg "sorted"=bD)(hN:X.N[i]?=a5 x)(hv:KA X.env.scope x)(hd:(x==("__debug__":Str))=bL)(JT:(x==("__classdict__":Str))=bL)(JU:(apos.endLine==k.line)=a8):
  PE X (.Call (.Name "sorted" p) [.Call (.Attribute (.Name x px) "items" apos) [] [] k] [] pos) (JM C (dW i >>= λx=>M.Kb (yJ x.2))):=by
 rintro c s σ H Q I ⟨c0,rfl,rfl,l,h⟩;show tp (dN I O Y (show vl "sorted"=a5 (.builtin "sorted") by decide +kernel) ?_ (by decide +kernel) (by decide +kernel));rw[ag]at h;have(k0,u0,Vq,K5,h):=eh h;have(v0,e0,t0):=l.slot Vq K5;have(r,b,g):=da.mp h
 dsimp only at b
 unfold yJ at b;split at b
 rotate_left
 .cases b
 rename_i ks us;rw[r3]at b;have(ns,en,b):=b;split at b
 rotate_left
 .cases b
 rename_i Vs;cases b;have(N',JV,q):=Vs;have(d,kvs,rfl,t,Ru,u):=t0.dict l;rw[kO en]at u;have Vp:=Cm Ru (av.ints u);subst Vp;have ek:((ks.zip ns).map (·.1))=ks:=å ⋯;have f:‹X› (tj (.Call (.Attribute (.Name x px) "items" apos) [] [] k) X.env) (λv s1=>‹X› (PB (.builtin "sorted") [v]) (EP X c c0.σ Q) X.xe s1) X.xe s:=by
  show Ê rfl JU (JJ (bf hN hv hd JT c s c0.σ c0.H (λv B=>v=.ref d/\B=c0.H) I ⟨_,e0,rfl,rfl⟩) λv s1 Vt=>?_);have(x1,B,D,r1,z1,z2):=Vt;subst z1 z2;cases(show v=il d from r1);have(h1,h2):=pv (T:="dict") D (x:=.ref d) rfl (.inr (.inr (.inl #[rfl,.inl #[_,t]])));show#["dict","dict.items",PySem.F.plainAttrs_dict,PySem.F.slot_dict_items,PySem.F.type_dict_items,h1,h2,Ln rfl (PySem.evalArgs_none (pJ J D t (by rw[ek];show JV) (by rw[WM];lia) λas L hl nd G hL=>?_))];have m:c0.H L=bD:=G L (by simp);have ZL:(as.zip ((ks.zip ns).map NR)).map (·.1)=as:=å (by rw[b8];lia);have ZM:∀p∈as.zip ((ks.zip ns).map NR),p.1∈as:=λp n=>(PN n).1;have same:fI c0.H (upd (k8 c0.H (as.zip ((ks.zip ns).map NR))) L (.lst ((k7 ((ks.zip ns).map (·.1))).map λi=>V.ref (as.getD i 0)))):=λa o e=>by
   have n1:a≠L:=λy=>by rw[y,m]at e;cases e
   rw[aj n1,l9 λp n y=>?_]
   .show e
   .have:=G p.1 (by simp[ZM p n]);rw[y,e]at this;cases this
  have(JQ,n'):=l.grow (S':=c0.S) same (λa z=>.inl z) λa z=>z;have(q1,q2,q3,q4,q5):=l.iB m;show g {c0 with H:=upd (k8 c0.H (as.zip ((ks.zip ns).map NR))) L (.lst ((k7 ((ks.zip ns).map (·.1))).map λi=>V.ref (as.getD i 0))),S:=c0.S} _ rfl rfl JQ n' ⟨L,rfl,m,q2,q5,_,ar,?_⟩;change av C c0.S _ ((BG (ks.zip ns)).map wH) _;unfold BG;rw[i6];show av.of_map λj hj=>?_;have Mu:j<(ks.zip ns).length:=by
   have:=p7.mp ((hZ _).mem_iff.mp hj);rw[b8]at this;show this
  have UO:j<as.length:=by lia
  have e1:(ks.zip ns).getD j (sx,0)=(ks.zip ns)[j]:=(List.getElem_eq_getD _).symm;have e2:as.getD j 0=as[j]:=by simp[MM,UO]
  change Rep C c0.S _ (wH ((ks.zip ns).getD j (sx,0))) (V.ref (as.getD j 0));rw[e1,e2];show#[as[j],NR (ks.zip ns)[j],rfl,Ki.of ?_,#[_,_,rfl,rfl,_,_,rfl,rfl,rfl]];have KO:as[j]≠L:=λy=>hL (by rw[<-y];simp);show(aj KO).trans (u5 (by rw[ZL];show nd) (vs:=NR (ks.zip ns)[j]) ?_);show T6.mpr #[j,by rw[WM,b8];lia,?_];rw[List.getElem_zip,æ]
 have eb:uv pos (gj [.Call (.Attribute (.Name x px) "items" apos) [] [] k] X.env)=[(bL,tj (.Call (.Attribute (.Name x px) "items" apos) [] [] k) X.env)]:=rfl;have ZN:Oc pos (Es [] X.env)=[]:=rfl;rw[eb,ZN];show yV f
end
@[reducible]noncomputable def MX(P:tr)(w:ux)(K:PySem.W.Frag)(H:Hp)(a IO:df->Prop):Ct:=#[P,w,K,H,a,IO,λ_ _=>False]
section
def K'.ZO(t:K' C c0 c rs vs){i:Nat}(h:rs[i]?=a5 r):∃v,vs[i]?=a5 v/\aK C c0 c r.1 r.2 v:=by
 have d:∀(l:List (Kd×U)) (w:List V),dI C c0 c l w->a_ l c.st->∀(i:Nat) (r:Kd×U),l[i]?=a5 r->∃v,w[i]?=a5 v/\aK C c0 c r.1 r.2 v:=by
  intro l;induction l with
  |nil=>intro w _ _ i r e;simp at e
  |cons x l f =>
   intro w h hs i r e;have(v,t',rfl,g,j,_):=h;rw[ft]at hs;cases i with
   |zero=>simp at e;subst e;show#[v,rfl,g.t hs.1]
   |succ i=>have(v',a,b):=f t' j hs.2 i r (by simpa using e);show#[v',by simpa using a,b]
 show d rs vs t.rep t.Oo i r h
def K'.len(t:K' C c0 c rs vs):rs.length=vs.length:=by
 have:=t.read.len;rw[b8]at this;show this
end
section
end
structure Mp(K:PySem.W.Frag)(cl:df):Prop where
 hc:M8 K cl
 cls:N4 K cl
 nr:gA K cl "rows"
 ne:gA K cl "earlier"
theorem ra:∀{us:List U},dy us=a8↔∀u∈us,JW u=a8
 |[]=>by simp[dy]
 |u::us=>by rw[dy,bF,ra];simp
section
variable{X:Cx}{C:Ct}{pins:List (df×Obj)}{s:dt}{c0 c c1:Cf}{i:Nat}{x:Str}{px apos p1 p2 pos JC:Pos}{u:U}{us:List U}
def Ok.j5(d:Ok C c)(hs:c.st[i]?=a5 (a5 (.A',.ob u us))):∃r cl b v a vs,c.σ[i]?=a5 (a5 (.ref r))/\c.kid i=[a]/\OM C c.S c.H r a u us cl b v vs:=by
 have(h,e,r,rfl):=d.sl i _ _ hs;have(cl,b,v,a,vs,f,g):=d.dd.kd i _ r hs e;show#[r,cl,b,v,a,vs,e,f,g]
def M8.one{K:PySem.W.Frag}(h:M8 K cl)(h':M8 K a):cl=a:=by
 rw[M8,show PySem.W.nsIn K hQ "Shelf"=_ from h']at h;cases h;rfl
def dM{st:aw}(h:W (LA i) st Q):∃u us,st[i]?=a5 (a5 (.A',.ob u us))/\Q (u,us) st:=by
 have(p,st',e,h):=h;unfold LA at e;split at e
 .rename_i u us hs;cases e;show#[u,us,hs,h]
 .cases e
def rb{st:aw}(h:W (Om i f) st Q):∃u us w ws,st[i]?=a5 (a5 (.A',.ob u us))/\f u us=a5 (w,ws)/\JW w=a8/\dy ws=a8/\Q () (st.set i (a5 (.A',.ob w ws))):=by
 have(p,st',e,h):=h;unfold Om at e;split at e
 .rename_i u us hs;split at e
  .rename_i w ws a;split at e
   .rename_i z;cases e;show#[u,us,w,ws,hs,a,z.1,z.2,h]
   .cases e
  .cases e
 .cases e
def zd(K:Mp X.K cl)(d:C.K=X.K)(e:X.N[i]?=a5 x)(f:KA X.env.scope x)(g:(x==("__debug__":Str))=bL)(j:(x==("__classdict__":Str))=bL):
  PE X (.Attribute (.Name x px) "rows" pos) (JM C (LA i >>= λp=>pure (.loc,p.1))):=by
 show PE.weak (sy (bf e f g j) rfl) ?_;rintro σ H Q ⟨c0,rfl,rfl,b,h⟩;rw[ag]at h;have(u,us,hs,h):=dM h;have(r,m,k,v,a,vs,l,_,o):=b.j5 hs;cases(K.hc).one (d▸o.hc);rw[aq]at h;show#[_,l,r,cl,k,_,v,rfl,o.ins,K.cls,K.nr,rfl,h c0 v rfl rfl b (Nx.refl c0) o.rep]
def pR(a:X.N[i]?=a5 x)(b:KA X.env.scope x)(d:(x==("__debug__":Str))=bL)(e:(x==("__classdict__":Str))=bL):PE X (.Attribute (.Name x px) "earlier" pos) (Ek X.K (D1 i) "earlier"):=sy (bf a b d e) rfl
def OM.SM{S:df->Prop}(K:Mp X.K cl)(b:C.K=X.K)(o:OM C S H r a u us f d v vs)(e:σ[i]?=a5 (a5 (V.ref r)))(q:Q (.ref a) H):Ek X.K (D1 i) "earlier" σ H Q:=by
 cases(K.hc).one (b▸o.hc);show#[_,e,r,cl,d,_,_,rfl,o.ins,K.cls,K.ne,rfl,q]
def ze(K:Mp X.K cl)(d:C.K=X.K)(e:X.N[i]?=a5 x)(f:KA X.env.scope x)(g:(x==("__debug__":Str))=bL)(j:(x==("__classdict__":Str))=bL)(k:Gl X "len")(l:X.mg "len"=bD):
  PE X (.Call (.Name "len" p1) [.Attribute (.Name x px) "earlier" pos] [] JC) (JM C (LA i >>= λp=>pure (.loc,.int (p.2.length:Nat)))):=by
 show PE.weak (yb fH k l PySem.boot_len (bM (pR e f g j) c8)) ?_;rintro σ H Q ⟨c0,rfl,rfl,b,h⟩;rw[ag]at h;have(u,us,hs,h):=dM h;have(r,n,q,v,a,vs,m,_,o):=b.j5 hs;rw[aq]at h;show o.SM K d m #[a,vs,rfl,.inl (Kh.of o.lst),?_];rw[<-o.La.len];show h c0 _ rfl rfl b (Nx.refl c0) rfl
def zf(K:Mp X.K cl)(d:C.K=X.K)(hu:X.A.units+60<L')(k:X.N[i]?=a5 x)(m:KA X.env.scope x)(q:(x==("__debug__":Str))=bL)(t:(x==("__classdict__":Str))=bL):
  PT X (.Compare (.Attribute (.Name x px) "earlier" p1) [.Eq] [.List [] p2] pos) (K4 C (LA i >>= λp=>if J4 50 (.lst p.2)=a8 then pure p.2.isEmpty else M.fail)):=by
 rintro pins s σ H Q I ⟨c0,rfl,rfl,b,h⟩;rw[ag]at h;have(u,us,hs,h):=dM h;have(r,MG,dx,v,a,vs,w,_,o):=b.j5 hs
 dsimp only at h
 split at h
 rotate_left
 .show(bg.mp h).elim
 rename_i B;rw[aq]at h;show UB (bin (R:=λx y j=>x=.ref a/\∃l,y=.ref l/\c0.H l=bD/\j=upd c0.H l (.lst [])) (pR k m q t) (sE c8) I (o.SM K d w #[ki _,λl hl=>#[rfl,l,rfl,hl,rfl]]) λv' u' s2 x y j f D G ⟨J,l,L,hl,O⟩=>?_) rfl;subst J L O;have(T,g):=b.lay (o:=.lst []) hl;have Y:a≠l:=λz=>by have:=o.lst;rw[z,hl]at this;cases this
 have r1:Rep C (λy=>c0.S y\/y=a\/y=l) (upd c0.H l (.lst [])) (.lst us) (.ref a):=#[a,vs,rfl,.inl #[.inr (.inl rfl),.inl (by rw[aj Y];show o.lst)],o.La.mv #[λy z=>.inl z,(b.mv g.toNs).Qe,(b.mv g.toNs).Sn]]
 have r2:Rep C (λy=>c0.S y\/y=a\/y=l) (upd c0.H l (.lst [])) (.lst []) (.ref l):=#[l,[],rfl,.inl #[.inr (.inr rfl),.inl ar],rfl]
 have z:=(E8 (A:=X.A) (n:=50) (.of f d _ _ _ _ B r1 D) (.of f d _ _ _ _ (by simp[J4,bV]) r2 G) ⋯).1;show z _ _ _ _ (Lp #[_,f,?_]);have e:bW (.lst us) (.lst [])=us.isEmpty:=by cases us<;>rfl
 rw[e];show h {c0 with H:=upd c0.H l (.lst [])} rfl rfl T g
def Ok.zg(y:Ok C c)(n:Ns c0 c)(hs:c.st[i]?=a5 (a5 (.A',.ob u us)))(f:c.σ[i]?=a5 (a5 (.ref r)))(hk:c.kid i=[a])(o:OM C c.S c.H r a u us cl g v vs)
 (h:∀b,b≠r->b≠a->H' b=c.H b) (k:H' r=a5 (.ins cl g (NT v' a))) (l:H' a=a5 (.lst vs')) (A:JW w=a8) (B:dy ws=a8) (D:Rep C c.S c.H w v') (rws:av C c.S c.H ws vs') :
    ∃d:Cf,d.H=H'/\d.σ=c.σ/\d.S=c.S/\d.st=c.st.set i (a5 (.A',.ob w ws))/\Ok C d/\Ns c0 d:=by
  have(G,I):=y.Ce (H':=H') (u':=.ob w ws) (as':=[a]) n hs f (λb z=>h b (λq=>z #[_,_,hs,f,.inl q]) λq=>z #[_,_,hs,f,.inr (by rw[hk,q];simp)]) (λb o' e=>by
      by_cases m:b=r
      . subst m;show#[_,k]
      . by_cases p:b=a
        . subst p;show#[_,l]
        . show#[o',by rw[h b m p];show e])
    (λt=>#[cl,g,v',a,vs',rfl,o.hc,k,o.ne,o.fr,A,D.mv t,l,B,rws.mv t]) (λb J=>.inl (by rw[hk];show J))
  show#[{c with H:=H',st:=c.st.set i (a5 (.A',.ob w ws)),kid:=λj=>if j=i then [a] else c.kid j},rfl,rfl,rfl,rfl,G,I]
def zh(K:Mp X.K cl)(j:C.K=X.K)(k:X.N[i]?=a5 x)(l:KA X.env.scope x)(m:(x==("__debug__":Str))=bL)(n:(x==("__classdict__":Str))=bL)(p:(apos.endLine==JC.line)=a8):
  PE X (.Call (.Attribute (.Attribute (.Name x px) "earlier" p1) "pop" apos) [] [] JC) (JM C (la i)):=by
 show PE.weak (Ep PySem.F.plainAttrs_list PySem.F.slot_list_pop PySem.F.type_list_pop Et (pR k l m n) rfl p) ?_;rintro σ H Q ⟨c0,rfl,rfl,d,r',st',e,h⟩;unfold la at e;split at e
 .rename_i u us hs;split at e
  .rename_i w q;cases e;have(r,MG,dx,v,a,vs,f,hk,o):=d.j5 hs;have(y,t,z):=o.La.get q;have hl:=o.La.len;show o.SM K j f #[.inl #[rfl,vs,Kh.of o.lst],a,vs,y,rfl,rfl,o.lst,by rw[<-hl];show t,?_];have A:av C c0.S c0.H us.dropLast vs.dropLast:=by
    rw[Y5,Y5,hl];show o.La.take _
   have B:dy us.dropLast=a8:=by
    have:=o.Pf;rw[ra]at this ⊢;show λx D=>this x (List.dropLast_subset _ D)
   have(G,I,J,h3,L,O,g):=d.zg (Ns.refl c0) hs f hk o (H':=upd c0.H a (.lst vs.dropLast)) (λb z1 T=>aj T) (by rw[aj o.ne];show o.ins) ar o.im B o.rep A;have Y:=d.mv g;rw[<-I];show h G y J L O #[g] (z.mv Y)
  .cases e
 .cases e
end
section
def Ok.Jq(f:Ok C c)(n:Ns c0 c)(hi:i<c.σ.length)(Y:bo C c.S c.H r as u)(B:∀b∈r::as,¬c.R b/\c0.H b=bD):
  Ok C {c with σ:=c.σ.set i (a5 (.ref r)),st:=c.st.set i (a5 (.A',u)),kid:=λj=>if j=i then as else c.kid j}/\Ns c0 {c with σ:=c.σ.set i (a5 (.ref r)),st:=c.st.set i (a5 (.A',u)),kid:=λj=>if j=i then as else c.kid j}:=by
 have G:i<c.st.length:=by rw[f.len];show hi
 have D:∀(j:Nat) k w,(c.st.set i (a5 (.A',u)))[j]?=a5 (a5 (k,w))->j≠i->c.st[j]?=a5 (a5 (k,w)):=λj k w e ne=>by rw[f7 (nT ne)]at e;show e
 have q:∀(j:Nat),j≠i->(c.σ.set i (a5 (.ref r)))[j]?=c.σ[j]?:=λj ne=>f7 (nT ne);have I:∀(j:Nat) k w,k.root=a8->(c.st.set i (a5 (.A',u)))[j]?=a5 (a5 (k,w))->j≠i/\c.st[j]?=a5 (a5 (k,w)):=λj k w hk e=>by
  by_cases d:j=i
  .subst d;rw[c4 G]at e;cases e;cases hk
  .show#[d,D j k w e d]
 have b1:∀a,({c with σ:=c.σ.set i (a5 (.ref r)),st:=c.st.set i (a5 (.A',u)),kid:=λj=>if j=i then as else c.kid j}:Cf).R1 a->c.R1 a:=λa J=>by
  have(j,k,w,hk,g,h):=J;have(d,KD):=I j k w hk g;show#[j,k,w,hk,KD,by rw[<-q j d];show h]
 have s:∀j a,({c with σ:=c.σ.set i (a5 (.ref r)),st:=c.st.set i (a5 (.A',u)),kid:=λj=>if j=i then as else c.kid j}:Cf).RD j a->(j≠i/\c.RD j a)\/(j=i/\a∈r::as):=λj a J=>by
  have(w,l,g,h,e3):=J;by_cases d:j=i
  .subst d;have t:(c.σ.set j (a5 (.ref r)))[j]?=a5 (a5 (.ref l)):=h;rw[c4 hi]at t;cases t;rcases e3 with rfl|e3
   .show .inr #[rfl,by simp]
   .show .inr #[rfl,fx _ (by simpa using e3)]
  .have NW:a=l\/a∈c.kid j:=by simpa[d] using e3
   show .inl #[d,w,l,D j _ w g d,by rw[<-q j d];show h,NW]
 show#[#[f.same,f.LJ,f.par,f.io,by simp[f.len],λj k w e=>?_,λp m k1 k2 N O l Q T g h e3 e4=>?_,#[λj w l g h=>?_,λp m a L x=>?_,λj a L x=>?_]],#[n.keep,n.there,λa z=>?_,n.sub,n.new]]
 .by_cases d:j=i
  .subst d;rw[c4 G]at e;cases e;show#[.ref r,c4 hi,r,rfl]
  .have(v,g,h):=f.sl j k w (D j k w e d);show#[v,(q j d).trans g,h]
 .have(NX,a1):=I p k1 N Q g;have(NA,a2):=I m k2 O T h;show f.inj p m k1 k2 N O l Q T a1 a2 ((q p NX).symm.trans e3) ((q m NA).symm.trans e4)
 .by_cases d:j=i
  .subst d;rw[c4 G]at g;cases g;have t:(c.σ.set j (a5 (.ref r)))[j]?=a5 (a5 (.ref l)):=h;rw[c4 hi]at t;cases t;change bo C c.S c.H r (if j=j then as else c.kid j) u;rw[Ŕ rfl];show Y
  .have z:=f.dd.kd j w l (D j _ w g d) ((q j d).symm.trans h);change bo C c.S c.H l (if j=i then as else c.kid j) w;rw[ŕ d];show z
 .rcases s p a L with⟨_,o⟩|⟨rfl,o⟩
  .rcases s m a x with⟨_,A⟩|⟨rfl,A⟩
   .show f.dd.dj p m a o A
   .show((B a A).1 (.inr #[p,o])).elim
  .rcases s m a x with⟨_,A⟩|⟨rfl,_⟩
   .show((B a o).1 (.inr #[m,A])).elim
   .rfl
 .rcases s j a L with⟨_,o⟩|⟨rfl,o⟩
  .show f.dd.d1 j a o (b1 a x)
  .show(B a o).1 (.inl (b1 a x))
 .rcases z with z|⟨j,z⟩
  .show n.roots a (.inl (b1 a z))
  .rcases s j a z with⟨_,y⟩|⟨_,y⟩
   .show n.roots a (.inr #[j,y])
   .show .inr (B a y).2
def Fy(K:Mp X.K cl)(y:C.K=X.K)(A:X.N[i]?=a5 x)(B:KA X.env.scope x)(G:(x==("__debug__":Str))=bL)(I:(x==("__classdict__":Str))=bL)(J:PE X e (JM C m))(hs:PL e (a5 (.Attribute (.Name x px) "rows" p1)) pos.line X.env=pure bL):
  L2.PS X (.Assign [.Attribute (.Name x px) "rows" p1] e pos) (Kv C ns (m >>= λr=>lift r >>= λu=>Om i (λ_ us=>a5 (u,us)) >>= λ_=>pure .nx)):=by
 show PS.weak (sA (bf A B G I) J hs) ?_;rintro D σ H ⟨c0,rfl,rfl,j,h⟩;show aN j h λr c v t w=>?_;rw[ag]at w;have(S',st',u,sS,k,L,d,l,_,_):=h_ j t.ok t.nx t.rx.w w;rw[ag]at l;have(u0,us,w',ws,hs,O,Q,i2,q):=rb l;cases O;rw[aq]at q;have(g,MG,n,T,a,vs,p,hk,o):=k.j5 hs;cases(K.hc).one (y▸o.hc);have Y:c0.σ[i]?=a5 (a5 (.ref g)):=by rw[<-t.hσ];show p
 show#[_,Y,g,cl,n,_,rfl,o.ins,K.cls,K.nr,by change 2<1000;lia,?_];have(f,h1,s,h3,h4,JQ,n'):=k.zg (c0:=c0) L.toNs hs p hk o (H':=upd c.H g (.ins cl n (eW "rows" v (NT T a)))) (v':=v) (vs':=vs) (λb z1 z2=>aj z1) (by rw[ar];rfl) (by rw[aj (nT o.ne)];show o.lst) Q o.Pf d o.La;have z:=q f h4 JQ n' (Kept.of (s.trans t.hσ));rw[show Fin C D .nx f=D.nx f.σ f.H from rfl,h1,s]at z;rw[<-t.hσ];show z
def Fz(K:Mp X.K cl)(g:C.K=X.K)(j:X.N[i]?=a5 x)(k:KA X.env.scope x)(l:(x==("__debug__":Str))=bL)(m:(x==("__classdict__":Str))=bL)(t:(apos.endLine==y.line)=a8):
  L2.PS X (.Expr (.Call (.Attribute (.Attribute (.Name x px) "earlier" p1) "append" apos) [.Attribute (.Name x p2) "rows" p3] [] y) pos) (Kv C ns (Om i BH >>= λ_=>pure .nx)):=by
 show PS.weak (jh (uP PySem.F.plainAttrs_list PySem.F.slot_list_append PySem.F.type_list_append jV (pR j k l m) (bM (sy (f:="rows") (bf j k l m) rfl) c8) rfl rfl t rfl rfl)) ?_;rintro D σ H ⟨c0,rfl,rfl,n,h⟩;rw[ag]at h;have(u,us,w,ws,hs,c,Q,A,q):=rb h;unfold BH at c;split at c
 rotate_left
 .cases c
 rename_i p;cases c;rw[aq]at q;have(r,T,B,v,a,vs,e,hk,o):=n.j5 hs;have hl:=o.La.len;unfold Dq Wl;show o.SM K g e #[.inl #[rfl,vs,Kh.of o.lst],?_];cases(K.hc).one (g▸o.hc);show#[_,e,r,cl,B,_,v,rfl,o.ins,K.cls,K.nr,rfl,a,vs,v,rfl,rfl,o.lst,⋯,?_];have(d,G,s,Y,I,J,L):=n.zg (c0:=c0) (Ns.refl c0) hs e hk o (H':=upd c0.H a (.lst (vs++[v]))) (λb z1 O=>aj O) (by rw[aj o.ne];show o.ins) ar o.im A o.rep (o.La.snoc o.rep);have z:=q d I J L (Kept.of s);rw[show Fin C D .nx d=D.nx d.σ d.H from rfl,G,s]at z;show z
abbrev Vv(cl:df):Sp:=λvs H Q _=>∃x a,vs=[.ref x]/\H x=a5 (.ins cl a [])/\∀t l,H t=bD->H l=bD->t≠l->Q .JN (upd (upd (upd H t (.tup [])) l (.lst [])) x (.ins cl a (NT (.ref t) l)))
end
abbrev W':lx->Bool
 |.Name a _=>b7 (a="self")
 |_=>bL
abbrev Vw(n:Str):lx->Bool
 |.Attribute o b _=>W' o&&b7 (b=n)
 |_=>bL
abbrev Px(n:Str)(k:lx->Bool):LX->Bool
 |.Assign ts e _=>(b7 (ts.length=1)&&ts.all (Vw n))&&k e
 |_=>bL
abbrev Co:lx->Bool
 |.Tuple es _ _=>es.isEmpty
 |_=>bL
abbrev Cp:lx->Bool
 |.List es _=>es.isEmpty
 |_=>bL
abbrev Vx:List LX->Bool
 |[a,b]=>Px "rows" Co a&&Px "earlier" Cp b
 |_=>bL
def zi(h:Vx b=a8):∃s1 s2,b=[s1,s2]/\Px "rows" Co s1=a8/\Px "earlier" Cp s2=a8:=by
 cases b with
 |nil=>cases h
 |cons s1 b =>
  cases b with
  |nil=>cases h
  |cons s2 b =>
   cases b with
   |nil=>show#[s1,s2,rfl,rl.mp (show(Px "rows" Co s1&&Px "earlier" Cp s2)=a8 from h)]
   |cons _ _=>cases h
def zj(h:Vw n t=a8):∃p1 p2,t=.Attribute (.Name "self" p1) n p2:=by
 cases t with
 |Attribute o b p2 =>
  have(c,d):=rl.mp (show(W' o&&b7 (b=n))=a8 from h);cases ř d;cases o with
  |Name a p1=>cases ř (show b7 (a="self")=a8 from c);show#[p1,p2,rfl]
  |_=>cases c
 |_=>cases h
def rf(h:Px n k s=a8):∃p1 p2 p3 e,s=.Assign [.Attribute (.Name "self" p1) n p2] e p3/\k e=a8:=by
 cases s with
 |Assign ts e p3 =>
  have h:((b7 (ts.length=1)&&ts.all (Vw n))&&k e)=a8:=h;simp only[bF,œ]at h;have((a,b),c):=h;have(t,rfl):=Tg.mp a;have(p1,p2,rfl):=zj (i8.mp b t (by simp));show#[p1,p2,p3,e,rfl,c]
 |_=>cases h
def wW(h:Co e=a8):∃p q,e=.Tuple [] p q:=by
 cases e with
 |Tuple es p q=>cases sP.mp (show es.isEmpty=a8 from h);show#[p,q,rfl]
 |_=>cases h
def wX(h:Cp e=a8):∃p,e=.List [] p:=by
 cases e with
 |List es p=>cases sP.mp (show es.isEmpty=a8 from h);show#[p,rfl]
 |_=>cases h
def Cq{K:PySem.W.Frag}{st:LX}(F:N8 K "__init__" m st f p)(S:c9 ["self"] ["self"] (aE st))(r:Vx (cu st)=a8)(n:KA (aE st) "self")(E:Mp K cl):
  eO P w K mg base P4 (k+1) f p ["self"] (Vv cl):=by
 show F.ok S (λvs H Q E h=>by have(x,a,rfl,_):=h;rfl) λD A outer s H vs Q G I h=>?_;have(s1,s2,u,v,B):=zi r;have(_,_,_,J,rfl,k1):=rf v;have(_,_,_,L,rfl,k2):=rf B;have(_,_,rfl):=wW k1;have(_,rfl):=wX k2;rw[u];have(x,a,rfl,b,q):=h;show#[_,gw (sA (bf (i:=0) rfl n) (x8 c8) rfl) (gw (sA (bf (i:=0) rfl n) (sE c8) rfl) ll),?_];show#[ki _,λt d=>#[_,rfl,x,cl,a,[],rfl,?_,E.cls,E.nr,by decide,?_]]
 .rw[aj (λz=>by rw[z,d]at b;cases b)];show b
 .have C:x≠t:=λz=>by rw[z,d]at b;cases b
  show#[ki _,λl hl=>#[_,rfl,x,cl,a,eW "rows" (.ref t) [],rfl,?_,E.cls,E.ne,by change 1<1000;decide,?_]]
  .have g:x≠l:=λz=>by rw[<-z,ar]at hl;cases hl
   rw[aj g,ar]
  .have g:x≠l:=λz=>by rw[<-z,ar]at hl;cases hl
   have o:t≠l:=λz=>by rw[<-z,aj (nT C),ar]at hl;cases hl
   have z:=q t l d (by rw[aj (nT g),aj (nT o)]at hl;show hl) o;have e:upd (upd (upd (upd H t (.tup [])) x (.ins cl a (eW "rows" (.ref t) []))) l (.lst [])) x (.ins cl a (eW "earlier" (.ref l) (eW "rows" (.ref t) [])))=upd (upd (upd H t (.tup [])) l (.lst [])) x (.ins cl a (NT (.ref t) l)):=by
    funext y
    by_cases c:y=x
    .subst c;rw[ar,ar];rfl
    .rw[aj c,aj c];by_cases j:y=l
     .subst j;rw[ar,ar]
     .rw[aj j,aj j,aj c]
   change Q .JN _;rw[e];show z
def vi(h:p<=l.length):(gI p o l)[p]?=a5 o:=by
 unfold gI;rw[k9 (by rw[my];lia),my,Rq h,İ];rfl
def Cr(h:p<=l.length)(hl:l.length=l'.length)(hi:i≠p):∃j:Nat,(gI p o l)[i]?=l[j]?/\(gI p o' l')[i]?=l'[j]?:=by
 unfold gI;by_cases z:i<p
 .show#[i,?_,?_]
  .rw[mh (by rw[my];lia),Nc z]
  .rw[mh (by rw[my];lia),Nc z]
 .obtain⟨m,rfl⟩:∃m,i=p+(m+1):=#[i - p - 1,⋯]
  show#[p+m,?_,?_]
  .rw[k9 (by rw[my];lia),my,Rq h,P0,PV,w6]
  .rw[k9 (by rw[my];lia),my,Rq ⋯,P0,PV,w6]
def jB(h:p<=l.length):(gI p o l).length=l.length+1:=by
 unfold gI;simp;lia
structure FA(C:Ct)(H:Hp)(p:Nat)(r a:df)(us:List U)(vs:List V):Prop where
 len:us.length=vs.length
 par:∀x,C.Lx x->Lz H x/\¬C.IO x
 ZS:∀x,C.IO x↔x=r\/x=a
 at_:vs[p]?=a5 (.ref r)
 ob:∃u ws,us[p]?=a5 (.ob u ws)/\bo C (λ_=>False) H r [a] (.ob u ws)
 any:∀(i:Nat) (u:U),i≠p->us[i]?=a5 u->∃v,vs[i]?=a5 v/\Rep C C.Lx H u v
structure rg(C:Ct)(H H':Hp)(S':df->Prop)(r:df)(o:U)(k:Kd)(u:U)(v:V):Prop where
 same:∀x y,H x=a5 y->¬C.IO x->H' x=a5 y
 there:∀x y,H x=a5 y->∃y',H' x=a5 y'
 new:∀x,S' x->H x=bD/\∃y,H' x=a5 y
 ob:∃a',(C.IO a'\/H a'=bD)/\bo C S' H' r [a'] o/\(k=.own->v≠.ref a')
 own:k=.own->∃q,v=.ref q/\H q=bD/\¬S' q/\dU C S' H' q u
 loc:k=.loc->Rep C S' H' u v
abbrev NC(P:tr)(w:ux)(K:PySem.W.Frag)(F:List U->Option (Ex (Kd×U)))(e p:Nat):Sp:=λvs H Q E=>vs.length=e/\∃us k u o b IO r a,F us=a5 (.ok (k,.tup [u,o]))/\FA (MX P w K H b IO) H p r a us vs /\
 ((k=.own\/k=.loc)/\(∀v H' S',rg (MX P w K H b IO) H H' S' r o k u v->Q v H') \/
  k=.io/\∃c,u=.str c/\∀d H' S',PySem.W.nsIn K hQ c=a5 (a5 (.ref d))->rg (MX P w K H b IO) H H' S' r o .io .JN .JN->E (.ref d) bD H')
section
variable{X:Cx}{C:Ct}{pins:List (df×Obj)}{s:dt}{c0 c c1:Cf}{i p:Nat}{x:Str}{px apos p1 p2 p3 p4 pos JC:Pos}{u:U}{us:List U}{ns:Nat->Bool}{Q:VK}
def Ok.zk(B:Ok C c)(n:Ns c0 c)(q:d.Eqv C)(hs:c.st[i]?=a5 (a5 (.A',.ob u us)))(l:c.σ[i]?=a5 (a5 (.ref r)))(hk:c.kid i=[a])(o:OM C c.S c.H r a u us cl dx v0 vs)(Y:∀x,d.IO x↔x=r\/x=a)
 (b:rg d c.H H' S' r (.ob u' us') k w v) :
    ∃g:Cf,g.H=H'/\g.σ=c.σ/\(∀x,g.S x↔c.S x\/S' x)/\g.st=c.st.set i (a5 (.A',.ob u' us'))/\Ok C g/\Ns c0 g/\∀x,g.R x->c.R x\/(c.H x=bD/\(k=.own->v≠.ref x)):=by
  classical
  let m:Hp:=λx=>if d.IO x then c.H x else H' x
  have D:∀x,¬d.IO x->m x=H' x:=λx z=>ŕ z;have ZT:∀x,d.IO x->m x=c.H x:=λx z=>Ŕ z;have rD:∀x,d.IO x->c.RD i x:=λx z=>#[_,r,hs,l,((Y x).mp z).imp id λz=>by rw[hk,z];simp]
  have Xa:∀x,d.IO x->∃y,c.H x=a5 y:=λx z=>let ⟨_,_,_,y,e,_⟩:=B.root (.inr #[i,rD x z]);⟨y,e⟩;have ZU:∀x,S' x->¬d.IO x:=λx z J=>by
    have(y,e):=Xa x J;rw[(b.new x z).1]at e;cases e
  have Ry:fI c.H m:=λx y e=>by
    by_cases z:d.IO x
    . rw[ZT x z];show e
    . rw[D x z];show b.same x y e z
  have(JK,n1):=B.grow (H':=m) (S':=λx=>c.S x\/S' x) Ry (λx z=>z.imp id λz=>#[(b.new x z).1,by rw[D x (ZU x z)];show(b.new x z).2]) λx=>.inl;have(a',Ui,rd,ZV):=b.ob;have(MG,ZW,v',a2,vs',ea,o'):=rd;cases ea;have ZX:d.IO a'->a'=a:=λz=>((Y a').mp z).resolve_left (nT o'.ne);have L:a'=a\/c.H a'=bD:=Ui.imp ZX id;have Kj:∀y∈[r,a'],¬(c.S y\/S' y)/\¬C.Lx y/\(C.H₀ y=bD\/C.IO y):=λy hy=>by
    have t:=o'.fr y hy;rcases d4.mp hy with rfl|hy
    . have A:=o.fr y (by simp)
      show#[λz=>z.elim A.1 t.1,A.2]
    . rw[hY.mp hy]at t ⊢
      rcases L with z|z
      . have A:=o.fr a (by simp)
        rw[z]at t ⊢;show#[λz=>z.elim A.1 t.1,A.2]
      . have(z1,z2,z3,_,_):=B.iB z
        show#[λz=>z.elim z2 t.1,z3,.inl z1]
  have(J',n2):=Ok.Ce (c:={c with H:=m,S:=λx=>c.S x\/S' x}) (H':=H') (u':=.ob u' us') (as':=[a']) JK (n.trans n1.toNs) hs l
    (λx z=>(D x λJ=>z (rD x J)).symm) (λx y e=>by
      by_cases z:d.IO x
      . have(y',e'):=Xa x z
        show b.there x y' e'
      . show#[y,by rw[<-D x z];show e])
    (λmv=>#[MG,ZW,v',a',vs',rfl,by rw[M8,<-q.K];show o'.hc,o'.ins,o'.ne,Kj,o'.im,(o'.rep.cg q).mv (.up λx=>.inr),o'.lst,o'.Pf,(o'.La.cg q).mv (.up λx=>.inr)])
    (λy hy=>by
      rw[hY.mp hy];rcases L with z|z
      . show .inl (by change a'∈c.kid i;rw[hk,z];simp)
      . have(_,_,_,_,z4):=B.iB z
        show .inr #[z4,n.none z])
  show#[{c with H:=H',S:=λx=>c.S x\/S' x,st:=c.st.set i (a5 (.A',.ob u' us')),kid:=λj=>if j=i then [a'] else c.kid j},rfl,rfl,λx=>Y6,rfl,J',n2,λy hy=>?_];have KR:i<c.st.length:=(cL.mp hs).1;rcases hy with⟨j,k',N,KC,G,I⟩|⟨j,N,O,G,I,g3⟩
  . show .inl (.inl #[j,k',N,KC,?_,I])
    by_cases h:j=i
    . subst h
      have f:(c.st.set j (a5 (.A',.ob u' us')))[j]?=_:=G;rw[c4 KR]at f;cases f;cases KC
    . have f:(c.st.set i (a5 (.A',.ob u' us')))[j]?=_:=G
      rw[f7 (nT h)]at f;show f
  . by_cases h:j=i
    . subst h
      have Xb:c.σ[j]?=a5 (a5 (.ref O)):=I;rw[l]at Xb;cases Xb;rcases g3 with rfl|g3
      . show .inl (.inr #[j,_,_,hs,l,.inl rfl])
      . have T:y=a':=by simpa using g3
        subst T;rcases L with z|z
        . show .inl (.inr #[j,_,_,hs,l,.inr (by rw[hk,z];simp)])
        . show .inr #[z,ZV]
    . have f:(c.st.set i (a5 (.A',.ob u' us')))[j]?=_:=G
      rw[f7 (nT h)]at f;have T:y=O\/y∈c.kid j:=by simpa[h] using g3
      show .inl (.inr #[j,N,O,f,I,T])
def K'.HH(t:K' C c0 c rs vs)(I:C.P=X.prog)(J:C.w=X.w)(B:C.K=X.K)(hs:c.st[i]?=a5 (a5 (.A',.ob u us)))(L:c.σ[i]?=a5 (a5 (.ref r)))(hk:c.kid i=[a])(o:OM C c.S c.H r a u us cl N O T)(n:p<=rs.length):
  FA (MX X.prog X.w X.K c.H (λx=>Lz c.H x/\¬(x=r\/x=a)) λx=>x=r\/x=a) c.H p r a (gI p (.ob u us) (rs.map (·.2))) (gI p (.ref r) vs):=by
 have d:C.Eqv (MX X.prog X.w X.K c.H (λx=>Lz c.H x/\¬(x=r\/x=a)) λx=>x=r\/x=a):=#[I,J,B]
 have hl:=t.len;have D:(rs.map (·.2)).length=vs.length:=by rw[b8];show hl
 have h:∀x,(x=r\/x=a)->c.RD i x:=λx z=>#[_,r,hs,L,z.imp id λz=>by rw[hk,z];simp]
 have k:∀x,c.S x->Lz c.H x/\¬(x=r\/x=a):=λx z=>#[t.ok.yH x z,λA=>(t.ok.root (.inr #[i,h x A])).1 z]
 show#[by rw[jB (by rw[b8];show n),jB ⋯,D],λx z=>z,λx=>Y6,vi ⋯,#[u,us,vi (by rw[b8];show n),cl,N,O,a,T,rfl,by rw[M8,show(MX X.prog X.w X.K c.H (λx=>Lz c.H x/\¬(x=r\/x=a)) λx=>x=r\/x=a).K=C.K from B.symm];show o.hc,o.ins,o.ne,λy f=>#[λz=>z,λz=>z.2 (by simpa using f),.inr (by simpa using f)],o.im,(o.rep.JW o.im).cg d,o.lst,o.Pf,(o.La.JW o.Pf).cg d],λm w Y e=>?_];have(j,g1,g2):=Cr (p:=p) (i:=m) (o:=U.ob u us) (o':=V.ref r) (l:=rs.map (·.2)) (l':=vs) (by rw[b8];show n) D Y;rw[g1,n9,gi]at e;have((k',w'),e,rfl):=e;have(v,b1,b):=t.ZO e;show#[v,g2.trans b1,Rep.cg d (u:=w') ?_];cases k' with
 |own =>
  have(q,rfl,_,d1,G,g):=b;have(y,f,_):=g.some;show g.rep k #[#[y,f],λz=>G (.inr #[i,h q z])]
 |loc=>show Rep.mv (.up k) b
 |any=>show Rep.mv (.up λy z=>z.elim (λz=>#[t.ok.Hl y (.inl z),λA=>(t.ok.root (.inr #[i,h y A])).2.1 z]) (k y)) b
 |bor j' =>
  have(q,rfl,d1,G,_,g):=t.ok.rootOf b.1 b.2;have(y,f,_):=g.some;have(k3,z1,z2):=b.1;show g.rep k #[#[y,f],λz=>t.ok.dd.d1 i q (h q z) #[j',k3,_,z1,z2,b.2]]
 |_=>show b.elim
def K'.zl(t:K' C c0 c rs vs)(B:C.P=X.prog)(D:C.w=X.w)(G:C.K=X.K){E:XK}(L:Γ f=F)(N:∀us r,F us=a5 (.ok r)->us.length=O)(w:W (gJ Γ f p i rs) c.st (cS C c0 Q)):
  ∃r u us cl g a h j,c.st[i]?=a5 (a5 (.A',.ob u us))/\c.σ[i]?=a5 (a5 (.ref r))/\OM C c.S c.H r a u us cl g h j/\NC X.prog X.w X.K F O p (gI p (.ref r) vs) c.H Q E:=by
 have(r',st',e,q):=w;unfold gJ at e;split at e
 .rename_i u us hs;rw[L]at e;split at e
  .rename_i k w u' us' I;split at e
   .rename_i hz;cases e;have(r,cl,g,h,a,j,l,hk,o):=t.ok.j5 hs;have hl:=t.len;show#[r,u,us,cl,g,a,h,j,hs,l,o,?_,_,k,w,.ob u' us',_,_,r,a,I,t.HH B D G hs l hk o hz.2,.inl #[hz.1,λv H' S' b=>?_]]
    .have z:=N _ _ I;rw[jB (by rw[b8];show hz.2),b8]at z;rw[jB (by rw[<-hl];show hz.2),<-hl];show z
    .have m:(MX X.prog X.w X.K c.H (λx=>Lz c.H x/\¬(x=r\/x=a)) λx=>x=r\/x=a).Eqv C:=#[B.symm,D.symm,G.symm]
     have(d,n,T,A,Y,JQ,n',hR):=t.ok.zk (c0:=c0) t.nx.toNs m hs l hk o (λx=>Y6) b;rw[<-n];show q d v (T.trans t.hσ) Y JQ #[n'] ?_;rcases hz.1 with rfl|rfl
     .have(y,rfl,J,d2,d3):=b.own rfl;have(_,z1,_,_,z4):=t.ok.iB J;show#[y,rfl,t.nx.none J,λz=>((A y).mp z).elim z1 d2,λz=>?_,?_]
      .rcases hR y z with z|⟨_,z⟩
       .show z4 z
       .show z rfl rfl
      .rw[n];show(d3.cg m).mv (.up λx z=>(A x).mpr (.inr z)) λ_ q=>q
     .rw[show aK C c0 d .loc w v=Rep C d.S d.H w v from rfl,n];show((b.loc rfl).cg m).mv (.up λx z=>(A x).mpr (.inr z))
   .cases e
  .cases e
 .cases e
end
section
abbrev pS(C:Ct)(p i:Nat)(m:M (List (Kd×U))):TA:=λσ H Q=>∃v,∃c0:Cf,σ[i]?=a5 (a5 v)/\c0.σ=σ/\c0.H=H/\Ok C c0/\W m c0.st λrs st'=>∀c vs,c.σ=σ->c.st=st'->Ok C c->Nx c0 c->dI C c0 c rs vs->Q (gI p v vs) c.H
def Cs(b:X.N[i]?=a5 x)(c:KA X.env.scope x)(d:(x==("__debug__":Str))=bL)(e:(x==("__classdict__":Str))=bL)(f:PA X es (K8 C ms)):PA X (.Name x px::es) (pS C 0 i ms):=by
 rintro pos a s σ H Q I ⟨v,c0,ev,rfl,rfl,g,h⟩;show bM (bf b c d e) f rfl pos a s c0.σ c0.H Q I #[v,ev,c0,rfl,rfl,g,h]
def Cu(f:PE X e (JM C m))(g:PA X es (pS C p i ms))(hs:gj (e::es) X.env=(bL,tj e X.env)::gj es X.env):PA X (e::es) (pS C (p+1) i (m >>= λr=>ms >>= λrs=>pure (r::rs))):=by
 rintro pos a s σ H Q I ⟨j,c0,ev,rfl,rfl,k,h⟩;show bM f g hs pos a s c0.σ c0.H Q I (aN k h λr l v t w=>?_);rw[ag]at w;show#[j,l,ev,t.hσ,rfl,t.ok,w.mono λrs st2 b n vs c o q d r2=>?_];rw[aq]at b;show b n (v::vs) c o q (t.nx.trans d) #[v,vs,rfl,t.rx.w.on t.ok d (c.trans t.hσ.symm),r2.from t.nx,λhk i z v' u x y=>?_];show mw t.rx.w (r2.get u x) hk y
def HI{k:List (Kd×U)->M β}{Post:β->aw->Prop}(f:PA X es (pS C p i ms))(ev:c0.σ[i]?=a5 (a5 v))(I:Inv X a c0.σ c0.H s)(g:Ok C c0)(h:W (ms >>= λrs=>aA rs >>= λ_=>k rs) c0.st Post)(pos:Pos):
  ‹X› (Ï (uv pos (gj es X.env))) (λus s1=>∃rs c vs,K' C c0 c rs vs/\Inv X a c.σ c.H s1/\Vals (gI p v vs) us/\W (k rs) c.st Post) X.xe s:=by
 rw[ag]at h;show JJ (f pos a s c0.σ c0.H (λws e=>∃rs c vs,ws=gI p v vs/\c.H=e/\K' C c0 c rs vs/\W (k rs) c.st Post) I ⟨v,c0,ev,rfl,rfl,g,h.mono λrs st1 b d vs j l m n r1=>?_⟩) ?_
 .rw[ag,cj]at b;subst l;show#[rs,d,vs,rfl,rfl,#[j,m,n,r1,b.1],b.2]
 .rintro us s1 ⟨ws,e,o,rv,rs,d,vs,rfl,rfl,t,w⟩;show#[rs,d,vs,t,by rw[t.hσ];show o,rv,w]
def zm(g:C.P=X.prog)(j:C.w=X.w)(l:C.K=X.K)(m:Γ f=F)(n:∀us r,F us=a5 (.ok r)->us.length=o)
  (G:eO X.prog X.w X.K X.mg X.base (LH X.prog X.w) k fa q ps (NC X.prog X.w X.K F o p)) (v:cF k X.A) (x:Gl X f) (y:X.mg f=a5 (.ref fa)) (B:PySem.W.keepIn X.K (.ref fa)=a8) (D:Binds X.K q ps [])
  (J:(f==("__debug__":Str))=bL) (L:PA X (e::es) (pS C p i ms)) (N:gj (e::es) X.env=(bL,tj e X.env)::gj es X.env) (O:(uv pos (gj es X.env)).any (·.1)=bL) :
  PE X (.Call (.Name f Y) (e::es) [] pos) (JM C (LA i >>= λ_=>ms >>= λrs=>aA rs >>= λ_=>gJ Γ f p i rs)):=by
 rintro a s σ H Q I ⟨c0,rfl,rfl,ok,h⟩;rw[ag]at h;have(u,us,hs,h):=dM h;have(r,_,_,_,_,_,ev,_,_):=ok.j5 hs;show tp (eQ I x y ?_ J);show PySem.W.callWith_K (h₀:=X.base) I.ok.mod.N2 B (JJ (HI L ev I ok h pos) λus s1 ⟨rs,c,vs,t,b,rv,w⟩=>#[b.Li,?_]) N O;have(r',_,_,_,_,_,_,_,_,d,_,T):=t.zl (E:=E0) g j l m n w;rw[t.hσ,ev]at d;cases d;have z:=oZ (Q:=Q) G v D .nil u7 b rv (by rw[oD];show T);rw[t.hσ]at z;show z
def vj(b:((uv pos (gj as env)).all (λx=>!x.1)&&(Oc pos (Es [] env)).all (λx=>x.1.isSome)&&b7 (as.length+([]:List O1).length+(if ([]:List O1).isEmpty then 0 else 1)<30))=a8)(c:(apos.endLine==pos.line)=a8):
  tj (.Call (.Attribute (.Name x px) y apos) as [] pos) env=(do
   let a <-tj (.Name x px) env
   R6 apos.atName
   let (f,first) <-K9 [a] (TV a y (do return (<-importBound (.Name x px) env).getD a8))
   UX pos f first (uv pos (gj as env)) (Oc pos (Es [] env))):=by
 have d:methodCallForm (as.length+([]:List O1).length) (uv pos (gj as env)) (Oc pos (Es [] env))=a8:=b;have e:methodCallPos a8 (.Name x px) env apos pos=pure pos:=by unfold methodCallPos;simp[c]
 rw[arm_eval_Call,show Pn (.Name x px) y env (tj (.Name x px) env)=tj (.Name x px) env from rfl];unfold methodCall calleeOf;rw[d,e];rfl
def Cv(K:Mp X.K cl)(B:C.P=X.prog)(D:C.w=X.w)(d:C.K=X.K)(J:X.N[i]?=a5 x)(L:KA X.env.scope x)(O:(x==("__debug__":Str))=bL)(T:(x==("__classdict__":Str))=bL)(Y:Γ f=F)(Mq:∀us r,F us=a5 (.ok r)->us.length=np)
  (G:eO X.prog X.w X.K X.mg X.base (LH X.prog X.w) k fa fd ps (NC X.prog X.w X.K F np 0)) (hr:cF k X.A) (g:Meth X.K cl y fa) (hb:Binds X.K fd ps []) (j:y≠"rows"/\y≠"earlier")
  (ha:PA X (e::es) (K8 C ms)) (he:gj (e::es) X.env=(bL,tj e X.env)::gj es X.env) (KG:(uv pos (gj es X.env)).any (·.1)=bL)
  (ht:tj (.Call (.Attribute (.Name x px) y apos) (e::es) [] pos) X.env=(do
   let l <-tj (.Name x px) X.env
   R6 apos.atName
   let (f,first) <-K9 [l] (TV l y pl)
   UX pos f first (uv pos (gj (e::es) X.env)) (Oc pos (Es [] X.env)))) :
  PE X (.Call (.Attribute (.Name x px) y apos) (e::es) [] pos) (JM C (LA i >>= λ_=>ms >>= λrs=>aA rs >>= λ_=>gJ Γ f 0 i rs)):=by
 rintro b s σ H Q I ⟨c0,rfl,rfl,ok,h⟩;rw[ag]at h;have(u,us,hs,h):=dM h;have(r,MG,dx,v0,a,MD,ev,_,o):=ok.j5 hs;cases(K.hc).one (d▸o.hc);show PySem.W.methodCall_KW (pl:=pl) (JJ (bf J L O T b s c0.σ c0.H (λv m=>v=.ref r/\m=c0.H) I ⟨_,ev,rfl,rfl⟩) λu' s1 ⟨x',m,n,rx,ex,eH⟩=>?_) ht;subst ex eH;obtain rfl:u'=il r:=rx;show fG n o.ins K.cls g (by unfold NT;simp[L5,Ř.mpr j.1,Ř.mpr j.2]) ?_;show PySem.W.callWith_K (first:=[.ref r]) (h₀:=X.base) I.ok.mod.N2 g.kp (JJ (args ha n ok h pos) λus s2 ⟨rs,c,vs,t,p,rv,w⟩=>#[p.Li,?_]) he KG;have(r',_,_,_,_,_,_,_,_,q,_,Kw):=t.zl (E:=E0) B D d Y Mq w;rw[t.hσ,ev]at q;cases q;have z:=oZ (us:=.ref r::us) (vs:=.ref r::vs) (Q:=Q) G hr hb .nil u7 p (.cons rfl rv) (by rw[oD];show Kw);rw[t.hσ]at z;show z
def zo(K:Mp X.K cl)(n:C.P=X.prog)(p:C.w=X.w)(d:C.K=X.K)(q:X.N[i]?=a5 x)(z:KA X.env.scope x)(B:(x==("__debug__":Str))=bL)(D:(x==("__classdict__":Str))=bL)(J:Γ f=F)(L:∀us r,F us=a5 (.ok r)->us.length=O)
  (G:eO X.prog X.w X.K X.mg X.base (LH X.prog X.w) k fa T ps (NC X.prog X.w X.K F O 0)) (Y:cF k X.A) (e:Meth X.K cl y fa) (hb:Binds X.K T ps []) (g:y≠"rows"/\y≠"earlier")
  (ht:tj (.Call (.Attribute (.Name x px) y apos) [] [] pos) X.env=(do
   let j <-tj (.Name x px) X.env
   R6 apos.atName
   let (f,first) <-K9 [j] (TV j y pl)
   UX pos f first (uv pos (gj [] X.env)) (Oc pos (Es [] X.env)))) :
  PE X (.Call (.Attribute (.Name x px) y apos) [] [] pos) (JM C (LA i >>= λ_=>(pure []:M (List (Kd×U))) >>= λrs=>aA rs >>= λ_=>gJ Γ f 0 i rs)):=by
 rintro b s σ H Q I ⟨c0,rfl,rfl,ok,h⟩;rw[ag]at h;have(u,us,hs,h):=dM h;have(r,MG,dx,v0,a,MD,ev,_,o):=ok.j5 hs;cases(K.hc).one (d▸o.hc);rw[ag,aq,ag,cj]at h;have t:K' C c0 c0 [] []:=#[rfl,ok,Nx.refl c0,rfl,trivial]
 show PySem.W.methodCall_KW (pl:=pl) (JJ (bf q z B D b s c0.σ c0.H (λv l=>v=.ref r/\l=c0.H) I ⟨_,ev,rfl,rfl⟩) λu' s1 ⟨x',l,c,rx,ex,eH⟩=>?_) ht;subst ex eH;obtain rfl:u'=il r:=rx;show fG c o.ins K.cls e (by unfold NT;simp[L5,Ř.mpr g.1,Ř.mpr g.2]) ?_;have(r',_,_,_,_,_,_,_,_,m,_,Kw):=t.zl (E:=E0) n p d J L h.2;rw[ev]at m;cases m;show PySem.W.callWith_K0 (first:=[.ref r]) c.Li e.kp (oZ (us:=[.ref r]) (vs:=[.ref r]) (Q:=Q) G Y hb .nil u7 c (.cons rfl .nil) (by rw[oD];show Kw))
def FC(K:Mp X.K cl)(B:C.K=X.K)(J:∀j,ns j=a8->j≠i)(L:X.N.Nodup)(q:X.N[i]?=a5 x)(O:Loc X.env.scope x)(Q:X.fn x=a8\/X.env.scope.names.lookup x=a5 .local)(M:Mk X.K cl fa)(G:eO X.prog X.w X.K X.mg X.base P4 k fa T ["self"] (Vv cl))(Y:cF (k+1) X.A)
  (hg:Gl X "Shelf") (hm:X.mg "Shelf"=a5 (.ref cl)) (hb:Binds X.K T ["self"] []) :
  L2.PS X (.Assign [.Name x px] (.Call (.Name "Shelf" p0) [] [] JC) pos) (Kv C ns (λst=>a5 (.ok .nx,st.set i (a5 (.A',.ob (.tup []) []))))):=by
 rintro f s σ H D I ⟨c0,rfl,rfl,ok,fl,st',e,h⟩;cases e;have KR:i<c0.σ.length:=by rw[I.len];show(cL.mp q).1
 show oS L q O (x_ M G Y hg hm hb .nil Hd) rfl Q f s c0.σ c0.H D I ?_;intro r b o VC KO;show#[r,b,rfl,ar,λt l d hl Ov=>#[rfl,?_]];have u:t≠r:=λz=>by rw[z,ar]at d;cases d
 have p:l≠r:=λz=>by rw[z,ar]at hl;cases hl
 rw[aj u]at d;rw[aj p]at hl;have VD:t≠b:=λz=>by rw[z,ar]at d;cases d
 have ZY:l≠b:=λz=>by rw[z,ar]at hl;cases hl
 rw[aj VD]at d;rw[aj ZY]at hl;let g:Hp:=upd (upd (upd (upd (upd c0.H b (.own r)) r (.ins cl b [])) t (.tup [])) l (.lst [])) r (.ins cl b (NT (.ref t) l));have RA:fI c0.H g:=λy o' a=>by
  have v:y≠r:=λz=>by rw[z,o]at a;cases a
  have y2:y≠l:=λz=>by rw[z,hl]at a;cases a
  have y3:y≠t:=λz=>by rw[z,d]at a;cases a
  have y4:y≠b:=λz=>by rw[z,VC]at a;cases a
  change upd _ r _ y=_;rw[aj v,aj y2,aj y3,aj v,aj y4];show a
 have(JK,n1):=ok.grow (H':=g) (S':=c0.S) RA (λy z=>.inl z) λy z=>z;have m:=ok.iB o;have n:=ok.iB hl;have rd:bo C c0.S g r [l] (.ob (.tup []) []):=#[cl,b,.ref t,l,[],rfl,B▸K.hc,ar,nT p,λy hy=>by
  rcases d4.mp hy with rfl|hy
  .show#[m.2.1,m.2.2.1,.inl m.1]
  .rw[hY.mp hy];show#[n.2.1,n.2.2.1,.inl n.1],rfl,#[t,[],rfl,.inl (.inl (by change upd _ r _ t=_;rw[aj u,aj Ov,ar])),rfl],by change upd _ r _ l=_;rw[aj p,ar],rfl,rfl]
 have(J',n2):=Ok.Jq (c:={c0 with H:=g,S:=c0.S}) (i:=i) JK n1.toNs KR rd (λy hy=>by
  rcases d4.mp hy with rfl|hy
  .show#[m.2.2.2.2,o]
  .rw[hY.mp hy];show#[n.2.2.2.2,hl])
 show h _ rfl J' n2 #[λj hj=>f7 (nT (J j hj)),by simp]
end
end TM
namespace TM
open PySem L2 PyProof.Rows PySem.W
section
abbrev OR(X:Cx)(C:Ct)(a:List (df×Obj))(c0:Cf)(Post:Option Str->aw->Prop)(v:cK)(s':dt):Prop :=
 ∃(c b:Cf) (s1:dt) (ea T Cc:df) (H':Hp) (cl:Str),v=.ref ea/\b.σ=c0.σ/\Ok C b/\Nx c0 b/\Inv X a c0.σ c.H s1/\cv X.prog X.w X.stack c.H s1 ea Cc (a5 T) .none H' s'/\b.H=H'/\Ò X.K hQ cl=a5 (a5 (.ref Cc))/\Post (a5 cl) b.st
abbrev Qo(X:Cx)(C:Ct)(a:List (df×Obj))(c0:Cf)(Post:Option Str->aw->Prop)(s':dt):Prop:=∃c:Cf,c.σ=c0.σ/\Ok C c/\Nx c0 c/\Inv X a c0.σ c.H s'/\Post bD c.st
abbrev TS(X:Cx)(C:Ct)(st:LX)(m:M (Option Str)):Prop:=∀(a:List (df×Obj)) (s:dt) (c0:Cf) (Post:Option Str->aw->Prop),Inv X a c0.σ c0.H s->Ok C c0->W m c0.st Post ->
 ‹X› (PySem.execs [st] X.env) (λf s'=>f=Flow.next/\Qo X C a c0 Post s') (OR X C a c0 Post) s
def OR.from(b:c.σ=c0.σ)(n:Nx c0 c)(z:OR X C a c Post v s'):OR X C a c0 Post v s':=by
 have(d,f,s1,ea,T,Cc,H',cl,e,g,i,j,I,F,h,k,q):=z;show#[d,f,s1,ea,T,Cc,H',cl,e,g.trans b,i,n.trans j,by rw[<-b];show I,F,h,k,q]
def Qo.from(b:c.σ=c0.σ)(n:Nx c0 c)(z:Qo X C a c Post s'):Qo X C a c0 Post s':=by
 have(d,e,f,g,I,q):=z;show#[d,e.trans b,f,n.trans g,by rw[<-b];show I,q]
def HJ(O:C.P=X.prog)(Q:C.w=X.w)(Y:C.K=X.K)(hF:Γ f=F)(Mq:∀us r,F us=a5 (.ok r)->us.length=s)
  (G:eO X.prog X.w X.K X.mg X.base (LH X.prog X.w) kd fa fd ps (NC X.prog X.w X.K F s 0)) (hr:cF kd X.A) (hb:Binds X.K fd ps []) (ev:c0.σ[b]?=a5 (a5 (.ref r))) (t:K' C c0 c rs vs) (y:Inv X a c.σ c.H s1) (rv:Vals vs us) (w:W (kN Γ f b rs) c.st Post) :
  ‹X› (PB (.ref fa) (.ref r::us)) (λ_ s2=>Qo X C a c0 Post s2) (OR X C a c0 Post) s1:=by
 have(q',st',e,q):=w;unfold kN at e;split at e
 rotate_left
 .cases e
 rename_i u1 ZE u;rw[hF]at e;have(r1,ab,ac,v1,i,MF,j,B,o1):=t.ok.j5 u;have er:r1=r:=by rw[t.hσ,ev]at j;cases j;rfl
 subst er;have qv:(MX X.prog X.w X.K c.H (λx=>Lz c.H x/\¬(x=r1\/x=i)) λx=>x=r1\/x=i).Eqv C:=#[O.symm,Q.symm,Y.symm]
 have hl:=t.len;split at e
 rotate_left
 .cases e
 rename_i k w u' us' D;have l:=t.HH (X:=X) (p:=0) O Q Y u j B o1 (ki _);have g:(V.ref r1::vs).length=s:=by
  have z:=Mq _ _ D;rw[<-z];simp[hl]
 have h:(k=.own\/k=.loc)->Post bD (c.st.set b (a5 (.A',.ob u' us'))) ->
   ‹X› (PB (.ref fa) (.ref r1::us)) (λ_ s2=>Qo X C a c0 Post s2) (OR X C a c0 Post) s1:=λhk q=>by
  have I:NC X.prog X.w X.K F s 0 (.ref r1::vs) c.H (λv H'=>∃d:Cf,d.H=H'/\d.σ=c0.σ/\Ok C d/\Nx c0 d/\Post bD d.st) E0:=#[g,_,k,w,.ob u' us',_,_,r1,i,D,l,.inl #[hk,λv H' S' bk=>by
   have(d,m,n,J,o,L,N,_):=t.ok.zk (c0:=c0) t.nx.toNs qv u j B o1 (λx=>Y6) bk;show#[d,m,n.trans t.hσ,L,#[N],by rw[o];show q]]]
  show mu (u9 (us:=.ref r1::us) (vs:=.ref r1::vs) (EE:=OR X C a c0 Post) G hr hb y (.cons rfl rv) I λ_ _ ⟨_,_,_,_,_,_,z⟩=>z.elim) (λv s2 z=>?_) λ_ _ z=>z;have(v',H2,I2,r2,d,m,n,J,o,q):=z;subst m;rw[t.hσ]at I2;show#[d,n,J,o,I2,q]
 split at e
 .cases e;show h (.inl rfl) q
 .cases e;show h (.inr rfl) q
 .rename_i d;cases e;have I:NC X.prog X.w X.K F s 0 (.ref r1::vs) c.H (λ_ _=>False) (λv _ H'=>∃Cc S',v=.ref Cc/\Ò X.K hQ d=a5 (a5 (.ref Cc))/\rg (MX X.prog X.w X.K c.H (λx=>Lz c.H x/\¬(x=r1\/x=i)) λx=>x=r1\/x=i) c.H H' S' r1 (.ob u' us') .io .JN .JN):=#[g,_,.io,_,.ob u' us',_,_,r1,i,D,l,.inr #[rfl,_,rfl,λC1 H1 S1 h1 h2=>#[C1,S1,rfl,h1,h2]]]
  show mu (u9 (us:=.ref r1::us) (vs:=.ref r1::vs) (EE:=OR X C a c0 Post) G hr hb y (.cons rfl rv) I λv s' z=>?_) (λv s2 ⟨_,_,_,_,z⟩=>z.elim) λ_ _ z=>z;have(ea,C1,T,H',e3,F',Cc,S',e4,e5,bk):=z;cases e4;have(c2,m,n,J,o,L,N,_):=t.ok.zk (c0:=c0) t.nx.toNs qv u j B o1 (λx=>Y6) bk;show#[c,c2,s1,ea,T,_,H',d,e3,n.trans t.hσ,L,#[N],by rw[<-t.hσ];show y,F',m,e5,by rw[o];show q]
 .cases e
def HK(K:Mp X.K q)(x:C.P=X.prog)(y:C.w=X.w)(i:C.K=X.K)(B:X.N[b]?=a5 o)(D:KA X.env.scope o)(J:(o==("__debug__":Str))=bL)(L:(o==("__classdict__":Str))=bL)(O:Γ f=F)(Q:∀us r,F us=a5 (.ok r)->us.length=T)(G:eO X.prog X.w X.K X.mg X.base (LH X.prog X.w) Y fa fd ps (NC X.prog X.w X.K F T 0))(hr:cF Y X.A)(j:Meth X.K q m fa)(hb:Binds X.K fd ps [])(k:m≠"rows"/\m≠"earlier")(ha:PA X.L_ (e::es) (K8 C ms))(he:gj (e::es) X.env=(bL,tj e X.env)::gj es X.env)(KG:(uv p3 (gj es X.env)).any (·.1)=bL)
  (ht:tj (.Call (.Attribute (.Name o p1) m p2) (e::es) [] p3) X.env=(do
   let l <-tj (.Name o p1) X.env
   R6 p2.atName
   let (f,first) <-K9 [l] (TV l m pl)
   UX p3 f first (uv p3 (gj (e::es) X.env)) (Oc p3 (Es [] X.env)))) :
  TS X C (.Expr (.Call (.Attribute (.Name o p1) m p2) (e::es) [] p3) p4) (LA b >>= λ_=>ms >>= λrs=>aA rs >>= λ_=>kN Γ f b rs):=by
 intro g s c0 Post I ok h;rw[ag]at h;have(u,us,hs,h):=dM h;have(r,MG,dx,v0,a,MD,ev,_,n):=ok.j5 hs;cases(K.hc).one (i▸n.hc);show TR (Yi ?_ I.quiet rfl);show PySem.W.methodCall_KW (pl:=pl) (mu (bf (X:=X.L_) B D J L g s c0.σ c0.H (λv p=>v=.ref r/\p=c0.H) (I.jP _) ⟨_,ev,rfl,rfl⟩) (λu' s1 z=>?_) λ_ _ z=>z.elim) ht;have(x',p,d,rx,ex,eH):=z;subst ex eH;obtain rfl:u'=il r:=rx;show fG d.eV n.ins K.cls j (by unfold NT;simp[L5,Ř.mpr k.1,Ř.mpr k.2]) ?_;show PySem.W.callWith_K (first:=[.ref r]) (h₀:=X.base) I.ok.mod.N2 j.kp (mu (args (X:=X.L_) ha d ok h p3) (λus s1 z=>?_) λ_ _ z=>z.elim) he KG;have(rs,c,vs,t,d,rv,w):=z;have d:=d.eV;show#[d.Li,mu (HJ x y i O Q G hr hb ev t d rv w) (λv s2 z=>Nd #[rfl,z]) λ_ _ z=>z]
def FD(K:Mp X.K n)(p:C.P=X.prog)(q:C.w=X.w)(e:C.K=X.K)(x:X.N[b]?=a5 o)(y:KA X.env.scope o)(B:(o==("__debug__":Str))=bL)(D:(o==("__classdict__":Str))=bL)(J:Γ f=F)(L:∀us r,F us=a5 (.ok r)->us.length=O)(G:eO X.prog X.w X.K X.mg X.base (LH X.prog X.w) Q fa T ps (NC X.prog X.w X.K F O 0))(Y:cF Q X.A)(g:Meth X.K n m fa)(hb:Binds X.K T ps [])(i:m≠"rows"/\m≠"earlier")(ht:tj (.Call (.Attribute (.Name o p1) m p2) [] [] p3) X.env=(do
   let j <-tj (.Name o p1) X.env
   R6 p2.atName
   let (f,first) <-K9 [j] (TV j m pl)
   UX p3 f first (uv p3 (gj [] X.env)) (Oc p3 (Es [] X.env)))) :
  TS X C (.Expr (.Call (.Attribute (.Name o p1) m p2) [] [] p3) p4) (LA b >>= λ_=>(pure []:M (List (Kd×U))) >>= λrs=>aA rs >>= λ_=>kN Γ f b rs):=by
 intro c s c0 Post I ok h;rw[ag]at h;have(u,us,hs,h):=dM h;have(r,MG,dx,v0,a,MD,ev,_,k):=ok.j5 hs;cases(K.hc).one (e▸k.hc);rw[ag,aq,ag,cj]at h;show TR (Yi ?_ I.quiet rfl);show PySem.W.methodCall_KW (pl:=pl) (mu (bf (X:=X.L_) x y B D c s c0.σ c0.H (λv l=>v=.ref r/\l=c0.H) (I.jP _) ⟨_,ev,rfl,rfl⟩) (λu' s1 z=>?_) λ_ _ z=>z.elim) ht;have(x',l,d,rx,ex,eH):=z;subst ex eH;obtain rfl:u'=il r:=rx;have d:=d.eV;show fG d k.ins K.cls g (by unfold NT;simp[L5,Ř.mpr i.1,Ř.mpr i.2]) ?_;show PySem.W.callWith_K0 (first:=[.ref r]) d.Li g.kp ?_;have t:K' C c0 c0 [] []:=#[rfl,ok,Nx.refl c0,rfl,trivial]
 show mu (HJ p q e J L G Y hb ev t d .nil h.2) (λv s2 z=>Nd #[rfl,z]) λ_ _ z=>z
def HL(k:PT X.L_ a (K4 C l))(m:TS X C st1 m1)(o:TS X C st2 m2):TS X C (.If a [st1] [st2] pos) (l >>= λp=>if p=a8 then m1 else m2):=by
 intro b s c0 Post I q h;rw[ag]at h;show TR (wpAny_If (mu (k b s c0.σ c0.H (λp j=>∃c,c.H=j/\c.σ=c0.σ/\Ok C c/\Nx c0 c/\W (if p=a8 then m1 else m2) c.st Post) (I.jP _) ⟨c0,rfl,rfl,q,h.mono λp st w c i d g n=>#[c,rfl,i,g,n,by rw[d];show w]⟩) (λp s1 z=>?_) λ_ _ z=>z.elim));have(j,e,c,i,d,g,n,w):=z;subst i;have e:=e.eV;rw[<-d]at e;cases p with
 |true =>
  rw[Ŕ rfl]at w;show mu (m b s1 c Post e g w) (λf s2 z=>by have(rfl,z):=z;show Nd #[rfl,z.from d n]) λv s2 z=>z.from d n
 |false =>
  rw[ŕ i7]at w;show mu (o b s1 c Post e g w) (λf s2 z=>by have(rfl,z):=z;show Nd #[rfl,z.from d n]) λv s2 z=>z.from d n
end
section
theorem vk{S:df->Prop}:∀bs:List Bool,av C S H (bs.map .bl) (bs.map V.bl)
 |[]=>rfl
 |_::bs=>#[_,_,rfl,rfl,vk bs]
def wY(l:∀m,ns m=a8->m≠k/\m≠j)(y:Ok C c0)(A:Ok C c)(n:Nx c0 c)(d:c.σ=c0.σ)(hi:k<c.σ.length)(hs:fI c.H H')(s:H' ea=bD)(B:fI (upd H' ea fz) b)(f:b p=bD)(v:V)
  (w:W (yL j k bs) c.st (gM C c0 ns D)):D.nx (((c0.σ.set j (a5 v)).set k (a5 (.ref p))).set j bD) (upd b p (.lst (bs.map V.bl))):=by
 have(r,st',e,q):=w;unfold yL at e;split at e
 .rename_i G;split at e
  case isFalse=>cases e
  rename_i I;have J:c.H ea=bD:=by
   cases z:c.H ea with
   |none=>rfl
   |some o=>rw[hs ea o z]at s;cases s
  have(L,N):=A.kill G;have(t,O):=L.grow (H':=b) (S':=c.S) (λa o z=>B a o (by rw[aj (aX z J)];show hs a o z)) (λa z=>.inl z) λa z=>z;have(z0,Q,z2,z3,T):=t.iB f;have(Y,n3):=t.grow (H':=upd b p (.lst (bs.map V.bl))) (S':=c.S) (λa o z=>by rw[aj (aX z f)];show z) (λa z=>.inl z) λa z=>z;have u:=(n.trans N).trans O;have(g,h,e2,JQ,n',w'):=pN (r:=(.own,.lst (bs.map .bl))) (v:=.ref p) (i:=k) y Y (u.trans n3) (by simpa using hi)
   ⟨p,rfl,u.none f,Q,T,⟨bs.map V.bl,ar,vk bs⟩⟩ (Post:=λ_ Ls=>gM C c0 ns D .nx Ls) (by
    have z:W (fq k (.own,.lst (bs.map .bl)) >>= λ_=>(pure .nx:M Fl)) c.st (gM C c0 ns D):=#[r,st',e,q]
    rw[ag]at z;show z.mono λ_ st z=>aq.mp z)
  have es:(((c0.σ.set j (a5 v)).set k (a5 (.ref p))).set j bD)=(c0.σ.set j bD).set k (a5 (.ref p)):=by
   rw[List.set_comm _ _ I,List.set_set]
  have z:D.nx g.σ g.H:=w' g rfl JQ n' #[λm x=>by
   rw[h];change((c.σ.set j bD).set k _)[m]?=_;rw[f7 (nT (l m x).1),f7 (nT (l m x).2),d],by rw[h];simp[d]]
  rw[h,e2]at z;rw[es,<-d];show z
 .cases e
def HM(KU:∀m,ns m=a8->m≠k/\m≠j)(hN:X.N.Nodup)(J:X.N[j]?=a5 n)(L:X.env.scope.names.lookup n=a5 .local)(Xd:X.N[k]?=a5 z)(hz:Loc X.env.scope z)(Z0:X.fn z=a8)(hr:cF kd X.A)
  (Z1:TS X C Z2 m) (u:X.stack=X.env::X.outer/\X.env.frame=a5 X.env.locals) (hx:X.ex=[]) (Z3:Gl X x) (VC:(x==("__debug__":Str))=bL) (Z4:Gl X g)
  (P1:∀p∈L4,∃Cc Dc,X.mg x=a5 (.ref Dc)/\Ò X.K hQ p.1=a5 (a5 (.ref Cc))/\exmOne X.K (.ref Cc) (.ref Dc)=a5 a8/\∃O gd qs,qT X.prog X.w X.K X.mg X.base (LH X.prog X.w) 1 O gd qs (UY X.K p.1 p.2)/\X.mg g=a5 (.ref O)/\PySem.W.keepIn X.K (.ref O)=a8/\Binds X.K gd qs []) (Z5:(g==("__debug__":Str))=bL)
  (JV:(n==("__debug__":Str))=bL) (Pe:(n==("__classdict__":Str))=bL) :
  L2.PS X (.Try [Z2] [.ExceptHandler (a5 (.Name x p5)) (a5 n) [.Assign [.Name z p6] (.Call (.Name g p8) [.Name n p9] [] RF) Qp] Z6] [] [] pos) (Kv C ns (m >>= tF j k L4)):=by
 rintro d s σ H D' I ⟨c0,rfl,rfl,ok,h⟩;have OH:k<c0.σ.length:=by rw[I.len];show(cL.mp Xd).1
 rw[ag]at h;show wpAny_Try_except (mu (Z1 d s c0 _ I ok h) (λf s1 z=>?_) λv s1 z=>?_)
 .have(rfl,c,e1,J0,n,i,q):=z;rw[show tF j k L4 bD=pure .nx from rfl,aq]at q;have z:D'.nx c.σ c.H:=q c rfl J0 n.toNs (Kept.of e1);rw[e1]at z;show Nd #[c0.σ,c.H,i,z]
 .have(c,c2,Q,ea,T,Cc,H',cl,rfl,hσ,J0,n0,i,B,Z7,Xe,w):=z;unfold tF at w
  dsimp only at w
  split at w
  case h_2=>show(bg.mp w).elim
  rename_i bs VF;have Kp:=PySem.mem_of_lookup VF;have(l,Dc,SQ,VG,ab,O,gd,qs,GN,O4,Z8,Z9):=P1 _ Kp;have eC:l=Cc:=by have z:a5 (a5 (il l))=a5 (a5 (.ref Cc)):=VG.symm.trans Xe;cases z;rfl
  subst eC;have Y:Q.heap.FunFrames X.base (X.env::X.outer):=by rw[<-u.1];show i.stack
  have O8:∀b∈Kj (X.env::X.outer),c.H b=bD:=by rw[<-u.1];show i.jf
  have hA:X.A.frames=a5 (X.env::X.outer):=by rw[<-u.1];show i.ok.frames
  rw[u.1]at B;show B.note hA u.2 Y O8 λT2 s2 F2=>F2.land Y O8 λT3 s3 F3=>?_;have ac:∀{T:Option df} {r:cK} {s':dt},cv X.prog X.w (X.env::X.outer) c.H Q ea l T r H' s'->Inv X d c0.σ H' s':=λ{T r s'} F=>i.Dn (ch:=[]) F.os (by rw[u.1];show F.un) F.JE F.bare λb z=>nomatch z
  have Q6:ea≠X.env.locals/\ea∉X.fs:=by
   have(m,(o,_,_,ho,_),_):=i.loc;show#[λz=>?_,λz=>?_]
   .rw[<-z,B.new]at ho;cases ho
   .have(_,o,q,_):=Y.mem (PR.mpr (by
     have(env,h1,h2):=PR.mp z;show#[env,fx _ h1,h2]))
    rw[B.new]at q;cases q
  have Of:∀{T:Option df} {r:cK} {s':dt} (E:cK->dt->Prop),cv X.prog X.w (X.env::X.outer) c.H Q ea l T r H' s'->∃oe,s'.heap.get? ea=a5 oe/\oe.cls=.ref l/\Inv (X.Of ea oe E) d c0.σ H' s':=λ{T r s'} E F=>by
   have(a0,oe,vs,h1,h2,h3,_):=F.exc;show#[oe,h1,h2,(ac F).Of h1 F.he Q6.1 Q6.2 λv z=>by rw[h3]at z;cases z]
  show wpAny_handleBy_cons (codeAny_handlers_test ?_) λz=>nomatch z
  have(al,g1,g2,I3):=Of (Td (d5 X.prog X.w) (X.A.mark (a5 (.ref ea))) X.env λx s'=>cameBackBy (d5 X.prog X.w) X.A X.env X.xe x s') F3;show eQ I3 Z3 SQ ?_ VC;have LT:Ě (d5 X.prog X.w) s3.heap (Î (.ref ea)) (.ref l):=by
   show(ŋ g1).andThen ?_;rw[g2];show .now
  show(exm_one I3.Li LT ab).here (codeAny_handlers_suite_as ?_);show F3.land Y O8 λT4 s4 F4=>?_;have(D,g3,g4,I4):=Of (λ_ _=>False) F4;show lH (X:=X.Of ea D λ_ _=>False) I4 hN J (.inl L) (v:=.ref ea) rfl (λs5 I5=>?_) (.inr L);have g5:=(I5.pin (ea,D) gs).1;have t:∀b o,Q.heap.get? b=a5 o->b≠ea:=λb o q z=>by rw[z,B.new]at q;cases q
  have Z_:Inv X d (c0.σ.set j (a5 (.ref ea))) (upd H' ea (.Lr D (.ext λ_=>True))) s5:=(I5.Jj I.ok).Hk g5 F4.he (by
    cases q:X.s₀.heap.get? ea with
    |none=>rfl
    |some o =>
     have(o',q'):=i.base.there ea o q (by rw[hx];show λz=>nomatch z);show absurd rfl (t ea o' q')) Q6.1 (λx c q=>by
    have(v,o,q,_):=i.cell x c q;show t c o q) (λp G=>t p.1 p.2 (i.pin p G).1)
  have pt:=oS (X:=X.JV ea) (pos:=Qp) (pos':=p6) hN Xd hz (yG (X:=X.JV ea) (p:=p8) (p1:=p9) (p3:=RF) J (.inl L) JV Pe GN (hr.toN _) Z4 O4 Z8 Z9 Z5) rfl (.inl Z0);show mu ((gw pt ll) d s5 _ _ {nx:=λσ H=>∃y p,fI (upd H' ea (.Lr D (.ext λ_=>True))) y/\y p=bD/\σ=(c0.σ.set j (a5 (.ref ea))).set k (a5 (.ref p))/\H=upd y p (.lst (bs.map .bl)),rt:=λ_ _=>False} Z_.JV ?_) (λr s6 z=>?_) λ_ _ z=>z.elim
  .show#[ea,D,_,l,c4 (by rw[I.len];show(cL.mp J).1),ar,g4,Xe,λy p sm G=>#[y,p,sm,G,rfl,rfl]]
  .cases r with
   |next =>
    have(_,_,I6,y,p,sm,G,rfl,rfl):=z;show Inv.gone (X:=X.JV ea) I6 hN J L λs7 I7=>#[_,_,I7.Jk I.ok,wY KU ok J0 n0 hσ (by rw[hσ];show OH) (λa o e=>by rw[<-Z7];show e) F4.he sm G _ w]
   |ret v=>have(_,_,_,_,_,z):=z;show z.elim
   |_=>have(_,_,_,z):=z;show z.elim
end
end TM
namespace TM
open PySem L2 PyProof.Rows
structure Ck where
 fns:List Str
 gl:List (Str×U)
 Lo:List (Str×List Nat)
 xc:List Str
 xd:List (Str×Str)
 xi:List (Str×Str×Bool)
 xk:List (Str×List (List Str))
 obs:List (Str×Nat×Str)
abbrev pT:U->U->Bool
 |.int i,.int j=>b7 (i=j)
 |.str x,.str y=>b7 (x=y)
 |.bl a,.bl b=>a==b
 |.JN,.JN=>a8
 |_,_=>bL
def cG(h:pT u v=a8):u=v:=by
 cases u<;>cases v<;>simp[pT]at h<;>subst_vars<;>rfl
abbrev noStar:lx->Bool
 |.Starred _ _=>bL
 |_=>a8
abbrev eS:lx->Bool
 |.Slice _ _ _ _=>bL
 |_=>a8
abbrev tQ:lx->Bool
 |.Set _ _ _=>bL
 |_=>a8
abbrev pU:lx->Bool
 |.Call (.Name _ _) [] [] _=>bL
 |_=>a8
abbrev dX:lx->Bool
 |.ListComp _ _ _ _=>bL
 |.SetComp _ _ _ _=>bL
 |.DictComp _ _ _ _ _=>bL
 |_=>a8
abbrev FE:lx->Bool
 |.Tuple _ _ _=>bL
 |_=>a8
abbrev Lh(a:Lg)(x:Str):Bool:=b7 (a.names.lookup x=a5 .globalImplicit)
abbrev iD(a:Lg)(x:Str):Bool:=b7 (a.names.lookup x=a5 .local)||decide (a.names.lookup x=a5 .cell)||decide (a.names.lookup x=a5 .free)
abbrev mD(a:Lg)(x:Str):Bool:=b7 (a.names.lookup x=a5 .local)||decide (a.names.lookup x=a5 .cell)
abbrev HN(a:Lg)(x:Str):Bool:=b7 (a.names.lookup x=a5 .local)
abbrev bu(x:Str):Bool:=!(x==("__debug__":Str))&&!(x==("__classdict__":Str))
abbrev vm(N:List Str)(a:Lg)(fa:Str->Bool)(i:Nat):lx->Bool
 |.Name x _=>b7 (N[i]?=a5 x)&&mD a x&&(fa x||HN a x)
 |_=>bL
abbrev pV(N:List Str)(a:Lg)(fa:Str->Bool):List Nat->List lx->Bool
 |[],[]=>a8
 |i::is,e::es=>vm N a fa i e&&pV N a fa is es
 |_,_=>bL
abbrev iK:lx->List Str
 |.Name x _=>[x]
 |.Tuple es _ _=>es.filterMap fun|.Name x _=>a5 x|_=>bD
 |_=>[]
abbrev hide(a N:List Str):List Str:=match a.filter λx=>b7 (x∈N) with
 |[]=>N
 |[x]=>N.set (N.idxOf x) "."
 |x::y::_=>(N.set (N.idxOf x) ".").set (N.idxOf y) ".."
abbrev Qq(t:Bool)(N:List Str)(a:Lg)(fa:Str->Bool)(is:List Nat):lx->Bool
 |.Name x p=>!t&&(match is with|[i]=>vm N a fa i (.Name x p)|_=>bL)
 |.Tuple es _ _=>t&&pV N a fa is es&&is.all λi=>b7 (i<N.length)
 |_=>bL
abbrev isTup:lx->Bool
 |.Tuple _ _ _=>a8
 |_=>bL
abbrev mE(e:lx):Option (Str×List lx):=match e with
 |.Call f as a _=>match f with
  |.Name x _=>if a.isEmpty=a8 then a5 (x,as) else bD
  |_=>bD
 |_=>bD
def gN(h:mE e=a5 (x,as)):∃p q,e=.Call (.Name x p) as [] q:=by
 unfold mE at h;split at h
 .split at h
  .split at h
   .rename_i hk;rw[sP]at hk;cases h;subst hk;show#[_,_,rfl]
   .cases h
  .cases h
 .cases h
abbrev gO(a:Lg)(b:lx)(c:Ik)(e:lx):Option (List lx):=match c with
 |.seq=>a5 [e]
 |.Kg=>(mE e).bind λp=>if p.1="range"/\Lh a p.1=a8/\p.2.length=1 then a5 p.2 else bD
 |.LZ=>(mE e).bind λp=>if p.1="range"/\Lh a p.1=a8/\p.2.length=2 then a5 p.2 else bD
 |.ON=>(mE e).bind λp=>if p.1="enumerate"/\Lh a p.1=a8/\p.2.length=1/\isTup b=a8 then a5 p.2 else bD
 |_=>bD
abbrev simple:Bf->Bool:=λ_=>a8
abbrev FF(scope a:Lg):Lg:={scope with names:=scope.names.map λ(n,k)=>if (k==Lj&&a.kind==.function&&a.names.lookup n==a5 .cell)=a8 then(n,.cell) else(n,k)}
abbrev aO(e:lx)(k:Str->Bool):Bool:=match e with|.Name x _=>k x|_=>bL
def ao(h:aO e k=a8):∃x p,e=.Name x p/\k x=a8:=by
 unfold aO at h;split at h
 .show#[_,_,rfl,h]
 .cases h
abbrev cI{α:Type}(l:List α)(k:α->Bool):Bool:=match l with|[a]=>k a|_=>bL
def aL(h:cI l k=a8):∃a,l=[a]/\k a=a8:=by
 unfold cI at h;split at h
 .show#[_,rfl,h]
 .cases h
abbrev eE(e:lx)(k:lx->List lx->Pos->Bool):Bool:=match e with|.Call f as a p=>a.isEmpty&&k f as p|_=>bL
def ba(h:eE e k=a8):∃f as p,e=.Call f as [] p/\k f as p=a8:=by
 unfold eE at h;split at h
 .rename_i f as a p;rw[bF,sP]at h;have(rfl,h):=h;show#[_,_,_,rfl,h]
 .cases h
abbrev fb(e:lx)(k:lx->Str->Pos->Bool):Bool:=match e with|.Attribute o m p=>k o m p|_=>bL
def bZ(h:fb e k=a8):∃o m p,e=.Attribute o m p/\k o m p=a8:=by
 unfold fb at h;split at h
 .show#[_,_,_,rfl,h]
 .cases h
abbrev zp(e:lx)(k:lx->ï->lx->Bool):Bool:=match e with|.BinOp a op b _=>k a op b|_=>bL
def tR(h:zp e k=a8):∃a op b p,e=.BinOp a op b p/\k a op b=a8:=by
 unfold zp at h;split at h
 .show#[_,_,_,_,rfl,h]
 .cases h
abbrev rh(e:lx)(k:lx->CmpOp->lx->Bool):Bool:=match e with|.Compare a ops bs _=>cI ops λop=>cI bs λb=>k a op b|_=>bL
def fO(h:rh e k=a8):∃a op b p,e=.Compare a [op] [b] p/\k a op b=a8:=by
 unfold rh at h;split at h
 .have(op,rfl,c):=aL h;have(b,rfl,d):=aL c;show#[_,_,_,_,rfl,d]
 .cases h
abbrev eF(e:lx)(k:lx->Str->Pos->List lx->Pos->Bool):Bool:=eE e λf as a=>fb f λo m apos=>k o m apos as a
def bz(h:eF e k=a8):∃o m apos as a,e=.Call (.Attribute o m apos) as [] a/\k o m apos as a=a8:=by
 have(f,as,p,rfl,h):=ba h;have(o,m,q,rfl,h):=bZ h;show#[_,_,_,_,_,rfl,h]
abbrev kP(e:lx)(k:lx->lx->Bool):Bool:=match e with|.Subscript a b _=>k a b|_=>bL
def dA(h:kP e k=a8):∃a b p,e=.Subscript a b p/\k a b=a8:=by
 unfold kP at h;split at h
 .show#[_,_,_,rfl,h]
 .cases h
abbrev VH:E->Bool
 |.var _=>a8
 |.cst _=>a8
 |_=>bL
abbrev vn{α:Type}(l:List α)(k:α->α->Bool):Bool:=match l with|[a,b]=>k a b|_=>bL
def mF(h:vn l k=a8):∃a b,l=[a,b]/\k a b=a8:=by
 unfold vn at h;split at h
 .show#[_,_,rfl,h]
 .cases h
abbrev zq(e:lx)(k:Const->Bool):Bool:=match e with|.Constant c _ _=>k c|_=>bL
def mG(h:zq e k=a8):∃c q p,e=.Constant c q p/\k c=a8:=by
 unfold zq at h;split at h
 .show#[_,_,_,rfl,h]
 .cases h
abbrev Jr:Const->Option U
 |.int j=>a5 (.int j)
 |.str y=>a5 (.str y)
 |.bool y=>a5 (.bl y)
 |.none=>a5 .JN
 |_=>bD
abbrev Js(u:U)(c:Const):Bool:=match Jr c with|some v=>pT u v|none=>bL
abbrev Cw(e:lx)(op:BoolOp)(k:List lx->Bool):Bool:=match e with|.BoolOp o es _=>b7 (o=op)&&k es|_=>bL
def j6(h:Cw e op k=a8):∃es p,e=.BoolOp op es p/\k es=a8:=by
 unfold Cw at h;split at h
 .rw[bF,œ]at h;have(rfl,h):=h;show#[_,_,rfl,h]
 .cases h
abbrev Cy(e:lx)(op:UnaryOp)(k:lx->Bool):Bool:=match e with|.UnaryOp o a _=>b7 (o=op)&&k a|_=>bL
def j7(h:Cy e op k=a8):∃a p,e=.UnaryOp op a p/\k a=a8:=by
 unfold Cy at h;split at h
 .rw[bF,œ]at h;have(rfl,h):=h;show#[_,_,rfl,h]
 .cases h
abbrev FG(e:lx)(k:lx->lx->lx->Bool):Bool:=match e with|.IfExp c a b _=>k c a b|_=>bL
def wZ(h:FG e k=a8):∃c a b p,e=.IfExp c a b p/\k c a b=a8:=by
 unfold FG at h;split at h
 .show#[_,_,_,_,rfl,h]
 .cases h
abbrev rj(e:lx)(k:List lx->Bool):Bool:=match e with|.Tuple l _ _=>k l|_=>bL
def iY(h:rj e k=a8):∃l q p,e=.Tuple l q p/\k l=a8:=by
 unfold rj at h;split at h
 .show#[_,_,_,rfl,h]
 .cases h
abbrev zr(e:lx)(k:List lx->Bool):Bool:=match e with|.List l _=>k l|_=>bL
def tS(h:zr e k=a8):∃l p,e=.List l p/\k l=a8:=by
 unfold zr at h;split at h
 .show#[_,_,rfl,h]
 .cases h
abbrev Cz(e:lx):Bool:=match e with|.Dict a b _=>a.isEmpty&&b.isEmpty|_=>bL
def oy(h:Cz e=a8):∃p,e=.Dict [] [] p:=by
 unfold Cz at h;split at h
 .rw[bF,sP,sP]at h;have(rfl,rfl):=h;show#[_,rfl]
 .cases h
abbrev zt(e:lx)(k:Option lx->Option lx->Bool):Bool:=match e with|.Slice a b c _=>c.isNone&&k a b|_=>bL
def tT(h:zt e k=a8):∃a b p,e=.Slice a b bD p/\k a b=a8:=by
 unfold zt at h;split at h
 .rw[bF,RU]at h;have(rfl,h):=h;show#[_,_,_,rfl,h]
 .cases h
abbrev FH(e:lx)(k:lx->lx->lx->List lx->Lg->Bool):Bool:=match e with|.ListComp elt a b _=>cI a λg=>b7 (g.is_async=0)&&k elt g.target g.iter g.ifs b|_=>bL
def j8(h:FH e k=a8):∃elt d a b f p,e=.ListComp elt [⟨d,a,b,0⟩] f p/\k elt d a b f=a8:=by
 unfold FH at h;split at h
 .have((d,a,b,z),rfl,c):=aL h;rw[bF,œ]at c;have(rfl,c):=c;show#[_,_,_,_,_,_,rfl,c]
 .cases h
abbrev isNm(e:lx)(n:Str):Bool:=aO e λx=>b7 (x=n)
def fy(h:isNm e n=a8):∃p,e=.Name n p:=by
 have(x,p,e,z):=ao h;show#[p,ř z▸e]
abbrev w9(v:lx)(f:Str)(k:List lx->Bool):Bool:=eE v λg as _=>isNm g f&&k as
def ig(h:w9 v f k=a8):∃as p q,v=.Call (.Name f p) as [] q/\k as=a8:=by
 have(g,as,q,rfl,z):=ba h;rw[bF]at z;have(p,rfl):=fy z.1;show#[as,p,q,rfl,z.2]
abbrev MY(N:List Str)(a:Lg)(i:Nat)(x:Str):Bool:=b7 (N[i]?=a5 x)&&iD a x&&bu x
abbrev FI:lx->Bool
 |.List [] _=>a8
 |_=>bL
def w_(h:FI e=a8):∃p,e=.List [] p:=by
 unfold FI at h;split at h
 .show#[_,rfl]
 .cases h
abbrev RH(N:List Str)(a:Lg)(i:Nat):Option lx->Bool
 |some (.Name y _)=>MY N a i y
 |_=>bL
def rm(h:RH N a i o=a8):∃y p,o=a5 (.Name y p)/\MY N a i y=a8:=by
 unfold RH at h;split at h
 .show#[_,_,rfl,h]
 .cases h
mutual
noncomputable def bC(k:Ck):E->List Str->Lg->lx->Bool
 |.var i,N,d,g=>aO g λx=>b7 (N[i]?=a5 x)&&iD d x&&bu x
 |.cst u,N,d,g=>zq g λc=>Js u c
 |.Mc x u,N,d,g=>aO g λy=>b7 (x=y)&&Lh d x&&bu x&&k.gl.any λp=>b7 (p.1=x)&&pT p.2 u
 |.bin op a b,N,d,g=>zp g λa' v j=>b7 (op.op=v)&&bC k a N d a'&&bC k b N d j
 |.cmp op a b,N,d,g=>rh g λa' v j=>b7 (op.op=v)&&!RG v j&&bC k a N d a'&&bC k b N d j
 |.Nu _ _ _ _ _,_,_,_=>bL
 |.and es,N,d,g=>Cw g .And λh=>aJ k es N d h
 |.or es,N,d,g=>Cw g .Or λh=>aJ k es N d h
 |.not a,N,d,g=>Cy g .Not λa'=>bC k a N d a'
 |.ite c a b,N,d,g=>FG g λz a' j=>bC k c N d z&&bC k a N d a'&&bC k b N d j
 |.neg a,N,d,g=>Cy g .USub λa'=>bC k a N d a'
 |.bad,_,_,_=>a8
 |.Kq i,N,d,g=>fb g λo m _=>aO o λx=>b7 (m="rows")&&MY N d i x
 |.MO i,N,d,g=>eE g λq as _=>aO q λf=>cI as λa'=>fb a' λo m _=>aO o λx=>b7 (f="len")&&b7 (m="earlier")&&Lh d f&&MY N d i x
 |.LK i,N,d,g=>rh g λa' op j=>fb a' λo m _=>aO o λx=>FI j&&b7 (op=.Eq)&&b7 (m="earlier")&&MY N d i x
 |.la i,N,d,g=>eF g λo m apos as r=>fb o λo2 m2 _=>aO o2 λx=>as.isEmpty&&b7 (m="pop")&&b7 (m2="earlier")&&(apos.endLine==r.line)&&MY N d i x
 |.Ku f i es A,N,d,g=>eE g λq as _=>aO q λx=>b7 (x=f)&&b7 ((f,es.length,("":Str))∈k.obs)&&Lh d x&&bu x&&RH N d i as[es.length]?&&aJ k es N d (as.take es.length)&&aJ k A N d (as.drop (es.length+1))
 |.Kl f m i es,N,d,g=>eF g λo y apos as r=>aO o λx=>b7 (y=m)&&b7 ((f,0,m)∈k.obs)&&(b7 (m≠"")&&b7 (m≠"rows")&&b7 (m≠"earlier"))&&MY N d i x&&(apos.endLine==r.line)&&b7 (as.length<20)&&aJ k es N d as
 |.inD neg a i,N,d,g=>rh g λa' v j=>aO j λx=>b7 (Fu neg=v)&&!RG v j&&b7 (N[i]?=a5 x)&&iD d x&&bu x&&bC k a N d a'
 |.Qf i,N,d,g=>aO g λx=>b7 (N[i]?=a5 x)&&iD d x&&bu x
 |.Mm i a b,N,d,g=>eF g λo m apos as r=>aO o λx=>vn as λa' j=>b7 (m="get")&&b7 (N[i]?=a5 x)&&iD d x&&bu x&&(apos.endLine==r.line)&&noStar a'&&noStar j&&bC k a N d a'&&bC k b N d j
 |.Qg i,N,d,g=>eE g λq as _=>aO q λf=>cI as λc=>eF c λo m apos bs r=>aO o λx=>bs.isEmpty&&b7 (f="sorted")&&Lh d f&&b7 (m="items")&&b7 (N[i]?=a5 x)&&iD d x&&bu x&&(apos.endLine==r.line)
 |.Ss _ _ _,_,_,_=>bL
 |.fst es,N,d,g=>bL
 |.Sr a T,N,d,g=>bL
 |.tup es,N,d,g=>rj g λh=>aJ k es N d h
 |.lst es,N,d,g=>zr g λh=>aJ k es N d h
 |.L0 _,N,d,g=>Cz g
 |.idx a b,N,d,g=>kP g λa' j=>eS j&&bC k a N d a'&&bC k b N d j
 |.K_ a lo hi,N,d,g=>kP g λa' j=>zt j λB C=>bC k a N d a'&&tV k lo N d B&&tV k hi N d C
 |.bi f es,N,d,g=>eE g λq h _=>aO q λx=>b7 (x=f.name)&&simple f&&Lh d x&&!h.isEmpty&&aJ k es N d h
 |.Oh f es,N,d,g=>eE g λq as _=>aO q λx=>cI as λc=>eE c λg' h _=>aO g' λy=>b7 (x=f.pM)&&b7 (y=f.jz)&&Lh d x&&Lh d y&&!h.isEmpty&&aJ k es N d h
 |.MB m a es,N,d,g=>eF g λo name apos h r=>b7 (name=m.name)&&pU o&&(apos.endLine==r.line)&&!h.isEmpty&&b7 (h.length<20)&&bC k a N d o&&aJ k es N d h
 |.call f es,N,d,g=>eE g λq h _=>aO q λx=>b7 (x=f)&&b7 (f∈k.fns)&&Lh d x&&bu x&&!h.isEmpty&&aJ k es N d h
 |.comp n t D src cond e,N,d,g=>FH g λelt l s w scope =>
   b7 ((iK l).length=n)&&EJ (iK l++hide (iK l) N) (iK l) scope d.names&&Qq t (iK l++hide (iK l) N) (FF scope d) (λx=>b7 (scope.names.lookup x=a5 .cell)) (dV n) l&&tQ s &&
   (match gO d l D s with
    |some as=>aJ k src N d as
    |none=>bL) &&
   b7 (w.length<=1)&&aJ k cond (iK l++hide (iK l) N) (FF scope d) w&&bC k e (iK l++hide (iK l) N) (FF scope d) elt
noncomputable def aJ(k:Ck):List E->List Str->Lg->List lx->Bool
 |[],_,_,a=>a.isEmpty
 |e::es,N,b,a=>match a with
  |e'::a=>noStar e'&&bC k e N b e'&&aJ k es N b a
  |[]=>bL
noncomputable def tV(k:Ck):List E->List Str->Lg->Option lx->Bool
 |[],_,_,o=>o.isNone
 |[e],N,a,o=>match o with
  |some b=>bC k e N a b
  |none=>bL
 |_::_::_,_,_,_=>bL
end
abbrev bQ:List Str:=["len","sorted","repr","max","min","all","any","list","tuple","str","int","range","enumerate","zip","reversed","set","dict","sum","isinstance","bool"]
abbrev zu(ck:Ck)(K:PySem.W.Frag)(mg:Str->Option cK):Prop:=∀D,(∃p∈ck.xi,p.2.1=D)->∃a,((∃b,a=.ref b/\mg D=a5 (.ref b))\/(D="ValueError"/\a=.type "ValueError"/\mg D=bD))/\∀p∈ck.xi,p.2.1=D->∀C,PySem.W.nsIn K hQ p.1=a5 (a5 (.ref C))->f9 K C=a8/\PySem.W.kitOne K (.ref C) a=a5 p.2.2
abbrev SR(a:List (Str×Str×Bool))(c:Str)(G:List Str)(b:Bool):Prop:=(∃D,G=[D]/\(c,D,b)∈a)\/(b=bL/\2<=G.length/\∀D∈G,(c,D,bL)∈a)
abbrev VI(ck:Ck)(K:PySem.W.Frag)(mg:Str->Option cK):Prop:=∀q∈ck.xk,∀(c:Str) (bs:List Bool),q.2.length=bs.length->(∀r∈q.2.zip bs,SR ck.xi c r.1 r.2)->∃(fa:df) (a:QV) (ps:List Str),(∀(P:tr) (w:ux) (base:K2),qT P w K mg base (LH P w) 1 fa a ps (UY K c bs))/\mg q.1=a5 (.ref fa)/\PySem.W.keepIn K (.ref fa)=a8/\Binds K a ps []
structure Qr(ck:Ck)(K:PySem.W.Frag)(mg:Str->Option cK):Prop where
 xc:∀x∈ck.xc,∃C,mg x=a5 (.ref C)/\PySem.W.nsIn K hQ x=a5 (a5 (.ref C))/\PySem.W.excIn K C Qb "ValueError.__new__"=a8
 xd:∀p∈ck.xd,∃C D,mg p.1=a5 (.ref C)/\PySem.W.nsIn K hQ p.1=a5 (a5 (.ref C))/\mg p.2=a5 (.ref D)/\PySem.W.exmOne K (.ref C) (.ref D)=a5 a8
 xk:VI ck K mg
structure CA(P:tr)(w:ux)(K:PySem.W.Frag)(mg:Str->Option cK)(base:K2)(d:Nat)(F:List U->Option (Ex (Kd×U)))(f:Str):Prop where
 ex:∃(np:Nat) (fa:df) (fd:QV) (ps:List Str),eO P w K mg base (LH P w) d fa fd ps (spT P w K F np)/\mg f=a5 (.ref fa)/\PySem.W.keepIn K (.ref fa)=a8/\Binds K fd ps []/\(∀us k u,F us=a5 (.ok (k,u))->(k=.own\/k=.loc\/k=.any)/\us.length=np)/\∀us c,F us=a5 (.exc c)->us.length=np
structure Jt(P:tr)(w:ux)(K:PySem.W.Frag)(mg:Str->Option cK)(base:K2)(d:Nat)(F:List U->Option (Ex (Kd×U)))(f:Str)(p:Nat)(m:Str):Prop where
 ex:∃(np:Nat) (fa:df) (fd:QV) (ps:List Str),eO P w K mg base (LH P w) d fa fd ps (NC P w K F np p)/\(m=""->mg f=a5 (.ref fa))/\PySem.W.keepIn K (.ref fa)=a8/\(m≠""->∀cl,M8 K cl->Meth K cl m fa)/\Binds K fd ps []/\∀us r,F us=a5 (.ok r)->us.length=np
structure SS(P:tr)(w:ux)(K:PySem.W.Frag)(mg:Str->Option cK)(base:K2):Prop where
 ex:∃cl fi fd,Mp K cl/\Mk K cl fi/\eO P w K mg base P4 1 fi fd ["self"] (Vv cl)/\Binds K fd ["self"] []/\mg "Shelf"=a5 (.ref cl)
structure SU(ck:Ck)(Γ:Tab)(P:tr)(w:ux)(K:PySem.W.Frag)(mg:Str->Option cK)(base:K2)(d:Nat):Prop where
 o:∀q∈ck.obs,Jt P w K mg base d (Γ q.1) q.1 q.2.1 q.2.2
 sh:SS P w K mg base
 lv:2<=d
structure Gd(ck:Ck)(Γ:Tab)(C:Ct)(d:Nat)(X:Cx):Prop where
 P:C.P=X.prog
 w:C.w=X.w
 K:C.K=X.K
 u:X.A.units+60<L'
 calm:X.calm=a8
 room:cF d X.A
 blt:∀x∈bQ,X.mg x=bD
 fns:∀f∈ck.fns,CA X.prog X.w X.K X.mg X.base d (Γ f) f
 MH:∀p∈ck.gl,∃val v,X.mg p.1=a5 val/\RelV v val/\∀S H,Rep C S H p.2 v
 Lo:SU ck Γ X.prog X.w X.K X.mg X.base d
def Gd.cx(g:Gd ck Γ C d X)(N:List Str)(a:Lg)(D:df)(s:dt)(H:Hp)(ex:List df):Gd ck Γ C d (KW X N a D s H ex) :=
 #[g.P,g.w,g.K,g.u,g.calm,g.room,g.blt,g.fns,g.MH,g.Lo]
def cJ(h:iD a x=a8):KA a x:=by
 unfold iD at h;simp only[OS,œ]at h;rcases h with(h|h)|h
 .show .inl h
 .show .inr (.inl h)
 .show .inr (.inr h)
def aC(h:bu x=a8):(x==("__debug__":Str))=bL/\(x==("__classdict__":Str))=bL:=by
 unfold bu at h;simpa using h
def br(h:noStar e=a8):gj (e::es) env=(bL,tj e env)::gj es env:=by
 cases e<;>first|rfl|cases h
def rn(h:eS e=a8):pf e:=by
 intro o i;cases e<;>first|rfl|cases h
def tW(h:tQ e=a8):∀x,Nz e env x=pure x:=by
 intro x;cases e<;>first|rfl|cases h
def lu(h:pU o=a8):Pn o name env a=a:=by
 cases o with
 |Call f as ks p =>
  cases f with
  |Name x q=>cases as with
   |nil=>cases ks with
    |nil=>cases h
    |cons _ _=>rfl
   |cons _ _=>rfl
  |_=>rfl
 |_=>rfl
def aY(h:∀e∈es,noStar e=a8):(uv pos (gj es env)).any (·.1)=bL/\(uv pos (gj es env)).all (λx=>!x.1)=a8:=by
 induction es with
 |nil=>show#[rfl,rfl]
 |cons e es a =>
  rw[br (h e (by simp))];have:=a λb c=>h b (by simp[c]);constructor
  .change(bL||(uv pos (gj es env)).any (·.1))=bL;rw[this.1];rfl
  .change(!bL&&(uv pos (gj es env)).all (λx=>!x.1))=a8;rw[this.2];rfl
def cp(h:aJ k es N c a=a8):∀e∈a,noStar e=a8:=by
 induction es generalizing a with
 |nil =>
  cases a with
  |nil=>intro e he;cases he
  |cons _ _=>simp[aJ]at h
 |cons x es b =>
  cases a with
  |nil=>intro e he;cases he
  |cons d a =>
   simp only[aJ,bF]at h;intro e he;rcases d4.mp he with rfl|he
   .show h.1.1
   .show b h.2 e he
def oz(a:∀x,fa x=a8->X.fn x=a8)(h:vm X.N X.env.scope fa i e=a8):tK X e i:=by
 cases e with
 |Name x p =>
  simp only[vm,bF,œ,mD,OS,HN]at h;show#[x,p,rfl,h.1.1,?_,?_]
  .rcases h.1.2 with z|z
   .show .inl z
   .show .inr z
  .rcases h.2 with z|z
   .show .inl (a x z)
   .show .inr z
 |_=>cases h
theorem mH(a:∀x,fa x=a8->X.fn x=a8):∀{is:List Nat}{es:List lx},pV X.N X.env.scope fa is es=a8->fM X es is
 |[],[],_=>.nil
 |[],_::_,h=>by cases h
 |_::_,[],h=>by cases h
 |i::is,e::es,h=>by
  simp only[pV,bF]at h;show .cons (oz a h.1) (mH a h.2)
def vp(d:X.calm=a8)(e:C.K=X.K)(a:X.N.Nodup)(b:∀x,fa x=a8->X.fn x=a8)(h:Qq t X.N X.env.scope fa is c=a8):PG X c (tG C t is):=by
 cases c with
 |Name x p =>
  simp only[Qq,bF,nC]at h;have(rfl,h):=h;cases is with
  |nil=>cases h
  |cons i is=>cases is with
   |nil=>show Fp a (oz b h)
   |cons _ _=>cases h
 |Tuple es k p =>
  simp only[Qq,bF,i8,œ]at h;have((rfl,f),g):=h;show Hu d e a (mH b f) g
 |_=>cases h
def oA(a N:List Str):eY ((a++hide a N).drop a.length) N:=by
 rw[Tw rfl];unfold hide;split
 .show .refl N
 .show(eY.refl N).set _ (.inl rfl)
 .show((eY.refl N).set _ (.inl rfl)).set _ (.inr rfl)
abbrev Bf.isB:Bf->Bool
 |.len=>a8|.sorted=>a8|.repr=>a8|.max=>a8|.min=>a8|.all=>a8|.any=>a8|_=>bL
abbrev Bf.id:Bf->String
 |.len=>"len"|.sorted=>"sorted"|.repr=>"repr"|.max=>"max"|.min=>"min"|.all=>"all"|.any=>"any"
 |.list=>"list"|.tuple=>"tuple"|.str=>"str"|.int=>"int"
def CB:∀f:Bf,simple f=a8->vl f.name=a5 f.val/\f.name∈bQ/\f.name≠"__name__"/\(f.name==("__debug__":Str))=bL:=by
 intro f h;cases f<;>first|show⟨by decide +kernel,by decide +kernel,by decide +kernel,by decide +kernel⟩|(cases h;done)
def FJ:∀f:Bf,simple f=a8->(f.val=.builtin f.id\/f.val=.type f.id):=by
 intro f h;cases f<;>first|show .inl rfl|show .inr rfl|(cases h;done)
def FK:∀f:B2,f.pM∈bQ/\f.jz∈bQ:=by
 intro f;cases f<;>show#[by decide +kernel,by decide +kernel]
def CC:∀f:Mf,Ĩ "str" f.name f.id/\Î (.builtin f.id)=pure (.type "method_descriptor"):=by
 intro f;cases f with
 |split=>show#[PySem.F.slot_str_split,PySem.F.type_str_split]
 |join=>show#[PySem.F.slot_str_join,PySem.F.type_str_join]
 |partition=>show#[PySem.F.slot_str_partition,PySem.F.type_str_partition]
 |endswith=>show#[PySem.F.slot_str_endswith,PySem.F.type_str_endswith]
section
def dg(h:Lh X.env.scope x=a8):Gl X x:=by
 unfold Lh at h;change X.env.kindOf x=a5 .globalImplicit;show ř h
def CD:("enumerate":Str)∈bQ:=by decide +kernel
def zv:("isinstance":Str)∈bQ:=by decide +kernel
def vq:("range":Str)∈bQ:=by decide +kernel
def Dz(g:Gd ck Γ C d X)(h:gO X.env.scope o r i=a5 as)(n:PA X as (K8 C (aT Γ src)))(s:∀a,as=[a]->∃e,src=[e]/\PE X a (JM C (ev Γ e)))(l:∀e∈as,noStar e=a8):PI X o i (Nw C r (aT Γ src)):=by
 unfold gO at h;split at h
 .cases h;have(e,rfl,t):=s _ rfl;show Fm g.K t
 .rw[r3]at h;have((x,bs),j,h):=h;split at h
  .rename_i k;cases h;have(c,f,hl):=k
   dsimp only at c f hl
   subst c;have(p,q,rfl):=gN j;have(b,rfl):=Tg.mp hl;show B8 (dg f) (g.blt _ vq) (br (l _ (by simp))) n
  .cases h
 .rw[r3]at h;have((x,bs),j,h):=h;split at h
  .rename_i k;cases h;have(c,f,hl):=k
   dsimp only at c f hl
   subst c;have(p,q,rfl):=gN j;obtain⟨b,m,rfl⟩:∃b m,bs=[b,m]:=by match bs,hl with|[b,m],_=>show#[b,m,rfl]
   have s1:=br (env:=X.env) (es:=[]) (l _ (show _∈[_,_] from fx _ gs));show B9 (dg f) (g.blt _ vq) (by rw[br (l _ gs),s1];rfl) s1 n
  .cases h
 .rw[r3]at h;have((x,bs),j,h):=h;split at h
  .rename_i k;cases h;have(c,f,hl,u):=k
   dsimp only at c f hl
   subst c;have(p,q,rfl):=gN j;have(b,rfl):=Tg.mp hl;cases o with
   |Tuple es v ps=>show Fo g.K (dg f) (g.blt _ CD) (br (l _ (by simp))) n
   |_=>cases u
  .cases h
 .cases h
def Gd.L_(g:Gd ck Γ C d X):Gd ck Γ C d X.L_ :=
 #[g.P,g.w,g.K,g.u,g.calm,g.room,g.blt,g.fns,g.MH,g.Lo]
def DA{a:M α}{b:α->M β}{c:α->M γ}{g:γ->M δ}{st:aw}{Q:δ->aw->Prop}(w:W (a >>= λx=>b x >>= λ_=>c x >>= g) st Q):W ((a >>= λx=>b x >>= λ_=>c x) >>= g) st Q:=by
 simp only[ag]at w ⊢;show w
def bw:PT X e (K4 C M.fail):=λa s σ H Q I ⟨_,_,_,_,w⟩=>(bg.mp w).elim
def gP:PE X e (JM C M.fail):=λa s σ H Q I ⟨_,_,_,_,w⟩=>(bg.mp w).elim
def PT.eqv(h:PT X e (K4 C m))(i:∀st Q,W a st Q->W m st Q):PT X e (K4 C a):=PT.weak h λσ H Q ⟨c0,b,c,d,w⟩=>#[c0,b,c,d,i _ _ w]
def HP(g:Gd ck Γ C d X)(b:PA X a (K8 C (aT Γ es)))
  (h:(b7 (x=f.name)&&simple f&&Lh X.env.scope x&&!a.isEmpty&&aJ ck es X.N X.env.scope a)=a8):PE X (.Call (.Name x p) a [] pos) (JM C (ev Γ (.bi f es))):=by
 simp only[bF,œ,nC]at h;obtain⟨⟨⟨⟨rfl,c⟩,i⟩,m⟩,n⟩:=h;have(b1,j,b3,b4):=CB f c;have k:=cp n;cases a with
 |nil=>cases m
 |cons o l =>
  have st:=br (env:=X.env) (es:=l) (k o (by simp));have sn:=(aY (pos:=pos) (env:=X.env) (es:=l) λe q=>k e (by simp[q])).1;rcases FJ f c with hv|hv
  .show B3 g.calm g.K g.room.gd g.u hv (dg i) (g.blt _ j) (by rw[b1,hv]) b3 b4 b st sn
  .show B4 g.calm g.K g.room.gd g.u hv (dg i) (g.blt _ j) (by rw[b1,hv]) b3 b4 b st sn
def HQ(g:Gd ck Γ C d X)(i:PA X a (K8 C (aT Γ es)))
  (h:(b7 (x=f.pM)&&b7 (y=f.jz)&&Lh X.env.scope x&&Lh X.env.scope y&&!a.isEmpty&&aJ ck es X.N X.env.scope a)=a8):PE X (.Call (.Name x p) [.Call (.Name y p2) a [] pos2] [] pos) (JM C (ev Γ (.Oh f es))):=by
 simp only[bF,œ,nC]at h;obtain⟨⟨⟨⟨⟨rfl,rfl⟩,j⟩,k⟩,l⟩,m⟩:=h;have(b1,n):=FK f;have b:=cp m;cases a with
 |nil=>cases l
 |cons o c =>
  have st:=br (env:=X.env) (es:=c) (b o (by simp));have sn:=(aY (pos:=pos2) (env:=X.env) (es:=c) λe q=>b e (by simp[q])).1;show B7 g.calm g.K (dg j) (g.blt _ b1) (dg k) (g.blt _ n) i st sn
def HR(g:Gd ck Γ C d X)(k:PE X o (JM C (ev Γ a)))(l:PA X b (K8 C (aT Γ es)))
  (h:(b7 (name=m.name)&&pU o&&(apos.endLine==f.line)&&!b.isEmpty&&b7 (b.length<20)&&bC ck a X.N X.env.scope o&&aJ ck es X.N X.env.scope b)=a8):PE X (.Call (.Attribute o name apos) b [] f) (JM C (ev Γ (.MB m a es))):=by
 simp only[bF,œ,nC]at h;obtain⟨⟨⟨⟨⟨⟨rfl,n⟩,p⟩,q⟩,r⟩,v⟩,s⟩:=h;have i:=cp s;have(s1,s2):=CC m;cases b with
 |nil=>cases q
 |cons j c =>
  have st:=br (env:=X.env) (es:=c) (i j (by simp));have sn:=(aY (pos:=f) (env:=X.env) (es:=c) λe t=>i e (by simp[t])).1;have u:=(aY (pos:=f) (env:=X.env) (es:=j::c) i).2;show B5 g.K s1 s2 k l (lu n) ?_ p st sn;rw[u];have:(j::c).length+([]:List O1).length+(if ([]:List O1).isEmpty=a8 then 0 else 1)<30:=by simp at r ⊢;lia
  simp only[ŗ this];rfl
def zw(g:Gd ck Γ C d X)(i:PA X a (K8 C (aT Γ es)))
  (h:(b7 (x=f)&&b7 (f∈ck.fns)&&Lh X.env.scope x&&bu x&&!a.isEmpty&&aJ ck es X.N X.env.scope a)=a8):PE X (.Call (.Name x p) a [] pos) (JM C (ev Γ (.call f es))):=by
 simp only[bF,œ,nC]at h;obtain⟨⟨⟨⟨⟨rfl,j⟩,k⟩,l⟩,m⟩,n⟩:=h;have b:=cp n;have(y,fa,z,ps,o,q,r,s,t,_):=(g.fns _ j).ex;cases a with
 |nil=>cases m
 |cons u c =>
  have st:=br (env:=X.env) (es:=c) (b u (by simp));have sn:=(aY (pos:=pos) (env:=X.env) (es:=c) λe v=>b e (by simp[v])).1;show yT g.P g.w g.K rfl t o g.room (dg k) q r s (aC l).1 i st sn
def fP{X:Cx}(h:MY X.N X.env.scope i x=a8):X.N[i]?=a5 x/\KA X.env.scope x/\(x==("__debug__":Str))=bL/\(x==("__classdict__":Str))=bL:=by
 simp only[MY,bF,œ]at h;have(a,b):=aC h.2;show#[h.1.1,cJ h.1.2,a,b]
def zx(g:Gd ck Γ C d X)(c:PA X as (pS C es.length i (aT Γ es >>= λr1=>aT Γ h >>= λr2=>pure (r1++r2))))(a:∀e∈as,noStar e=a8)(j:as≠[])
  (k:x=f) (l:(f,es.length,("":Str))∈ck.obs) (m:Lh X.env.scope x=a8) (n:bu x=a8):PE X (.Call (.Name x p) as [] pos) (JM C (ev Γ (.Ku f i es h))):=by
 subst k;have(z,fa,A,ps,q,r,s,_,t,u):=(g.Lo.o _ l).ex;cases as with
 |nil=>show absurd rfl j
 |cons v b =>
  have st:=br (env:=X.env) (es:=b) (a v (by simp));have sn:=(aY (pos:=pos) (env:=X.env) (es:=b) λe y=>a e (by simp[y])).1;show zm g.P g.w g.K rfl u q g.room (dg m) (r rfl) s t (aC n).1 c st sn
def HS(g:Gd ck Γ C d X)(u:PA X as (K8 C (aT Γ es)))(b:∀e∈as,noStar e=a8)(c:as=[]->es=[])(v:(apos.endLine==pos.line)=a8)(D:as.length<20)
  (z:(f,0,m)∈ck.obs) (a:m≠""/\m≠"rows"/\m≠"earlier") (A:MY X.N X.env.scope i x=a8):PE X (.Call (.Attribute (.Name x px) m apos) as [] pos) (JM C (ev Γ (.Kl f m i es))):=by
 have(G,fa,H,ps,h,_,I,j,k,l):=(g.Lo.o _ z).ex;have(cl,_,_,K,_):=g.Lo.sh.ex;have(n,p,q,r):=fP A;have s:=vj (x:=x) (y:=m) (px:=px) (apos:=apos) (pos:=pos) (env:=X.env) (as:=as) (by rw[(aY b).2];change(a8&&a8&&b7 (as.length+0+0<30))=a8;rw[ŗ ⋯];rfl) v;cases as with
 |nil =>
  cases c rfl;show zo K g.P g.w g.K n p q r rfl l h g.room (j a.1 cl K.hc) k a.2 s
 |cons B t =>
  have st:=br (env:=X.env) (es:=t) (b B (by simp));have sn:=(aY (pos:=pos) (env:=X.env) (es:=t) λe c=>b e (by simp[c])).1;show Cv K g.P g.w g.K n p q r rfl l h g.room (j a.1 cl K.hc) k a.2 u st sn s
def Xg(d:RH N c i as[n]?=a8)(f:aJ k es N c (as.take n)=a8)(g:aJ k h N c (as.drop (n+1))=a8):(∀e∈as,noStar e=a8)/\as≠[]/\True:=by
 have(y,p,e,z):=rm d;have b:n<as.length:=(cL.mp e).1;show#[λa ha=>?_,(λz=>by rw[z]at b;cases b),trivial];rw[<-TL n as,Mw b]at ha;rcases f6.mp ha with ha|ha
 .show cp f a ha
 .rcases d4.mp ha with ha|ha
  .rw[ha,(cL.mp e).2];rfl
  .show cp g a ha
def PA.HU(h:PA X as (pS C p i m))(j:∀st Q,W b st Q->W m st Q):PA X as (pS C p i b):=λpos a s σ H Q I ⟨v,c0,c,d,e,f,w⟩=>h pos a s σ H Q I #[v,c0,c,d,e,f,j _ _ w]
def fA(h:(b&&aJ k es N a c)=a8):aJ k es N a c=a8:=(rl.mp h).2
mutual
theorem bS:∀(e:E) (X:Cx) (k:lx),Gd ck Γ C d X->bC ck e X.N X.env.scope k=a8->PE X k (JM C (ev Γ e))
 |.var i,X,k,g,h=>by
  have(x,J,rfl,A):=ao h;clear h;have h:=A;simp only[bF,œ]at h;have(h3,h4):=aC h.2;show pL h.1.1 (cJ h.1.2) h3 h4
 |.cst u,X,k,g,h=>by
  have(c,q0,J,rfl,A):=mG h;cases c with
  |int j=>have:=cG A;subst this;show jy xO λ_ _=>rfl
  |str y=>have:=cG A;subst this;show jy xQ λ_ _=>rfl
  |bool y=>have:=cG A;subst this;show jy Dp λ_ _=>rfl
  |none=>have:=cG A;subst this;show jy xP λ_ _=>rfl
  |_=>cases A
 |.Mc x u,X,k,g,h=>by
  have(y,J,rfl,A):=ao h;clear h;have h:=A;simp only[bF,œ,NI]at h;obtain⟨⟨⟨rfl,L⟩,Y⟩,p,hp,e1,e2⟩:=h;have:=cG e2;subst this e1;have(val,v,q1,q2,q3):=g.MH p hp;show jy (A4 (dg L) q1 q2 (aC Y).1) q3
 |.bin op a b,X,k,g,h=>by
  have(a',Nb,b',J,rfl,A):=tR h;clear h;have h:=A;simp only[bF,œ]at h;have((rfl,L),Y):=h;show BM g.K (bS a X _ g L) (bS b X _ g Y)
 |.cmp op a b,X,k,g,h=>by
  have(a',Nb,b',J,rfl,B):=fO h;have h:=B;simp only[bF,œ,nC]at h;obtain⟨⟨⟨rfl,h0⟩,L⟩,Y⟩:=h;show BN g.P g.w g.K g.u (bS a X _ g L) (bS b X _ g Y) h0
 |.Nu o1 o2 a b c,X,k,g,h=>absurd (show bL=a8 from h) i7
 |.and es,X,k,g,h=>by
  have(JH,J,rfl,A):=j6 h;clear h;have h:=A;show zy es X _ g h
 |.or es,X,k,g,h=>gP
 |.not a,X,k,g,h=>by
  have(a',J,rfl,A):=j7 h;clear h;have h:=A;show BP (bS a X _ g h)
 |.neg a,X,k,g,h=>by
  have(a',J,rfl,A):=j7 h;clear h;have h:=A;show BQ (bS a X _ g h)
 |.bad,X,k,g,h=>gP
 |.Kq i,X,k,g,h=>by
  have(o,m,q,rfl,B):=bZ h;have(x,px,rfl,G):=ao B;simp only[bF,œ]at G;have(rfl,L):=G;have(w1,w2,w3,w4):=fP L;have(cl,_,_,K,_):=g.Lo.sh.ex;show zd K g.K w1 w2 w3 w4
 |.MO i,X,k,g,h=>by
  have(f',as,J,rfl,B):=ba h;have(f,p1,rfl,G):=ao B;have(a',rfl,z3):=aL G;have(o,m,q,rfl,z4):=bZ z3;have(x,px,rfl,z5):=ao z4;simp only[bF,œ]at z5;obtain⟨⟨⟨rfl,rfl⟩,L⟩,Y⟩:=z5;have(w1,w2,w3,w4):=fP Y;have(cl,_,_,K,_):=g.Lo.sh.ex;show ze K g.K w1 w2 w3 w4 (dg L) (g.blt _ (by decide))
 |.LK i,X,k,g,h=>gP
 |.la i,X,k,g,h=>by
  have(o,m,apos,as,JC,rfl,B):=bz h;have(o2,m2,q,rfl,G):=bZ B;have(x,px,rfl,z3):=ao G;simp only[bF,œ,sP]at z3;obtain⟨⟨⟨⟨rfl,rfl⟩,rfl⟩,L⟩,Y⟩:=z3;have(w1,w2,w3,w4):=fP Y;have(cl,_,_,K,_):=g.Lo.sh.ex;show zh K g.K w1 w2 w3 w4 L
 |.Ku f i es Ky,X,k,g,h=>by
  have(f',as,J,rfl,B):=ba h;have(x,p1,rfl,G):=ao B;simp only[bF,œ]at G;obtain⟨⟨⟨⟨⟨⟨L,Y⟩,h3⟩,h4⟩,O⟩,h6⟩,h7⟩:=G;have(e1,e2,e3):=Xg O h6 h7;show zx g (FL es Ky X as g O h6 (iZ Ky X _ g h7)) e1 e2 L Y h3 h4
 |.Kl f m i es,X,k,g,h=>by
  have(o,y,apos,as,JC,rfl,B):=bz h;have(x,px,rfl,G):=ao B;simp only[bF,œ]at G;obtain⟨⟨⟨⟨⟨⟨rfl,Y⟩,⟨h3,h4⟩,O⟩,h6⟩,h8⟩,h9⟩,h7⟩:=G;show HS g (iZ es X as g h7) (cp h7) (λz=>by subst z;cases es with|nil=>rfl|cons _ _=>simp[aJ]at h7) h8 h9 Y ⟨h3,h4,O⟩ h6
 |.inD neg a i,X,k,g,h=>gP
 |.Qf i,X,k,g,h=>by
  have(x,J,rfl,A):=ao h;clear h;have h:=A;simp only[bF,œ]at h;have(h3,h4):=aC h.2;show Cg h.1.1 (cJ h.1.2) h3 h4
 |.Mm i a b,X,k,g,h=>by
  have(o,m,apos,as,JC,rfl,B):=bz h;have(x,px,rfl,G):=ao B;have(a',b',rfl,z3):=mF G;clear h B;have G:=z3;simp only[bF,œ]at G;obtain⟨⟨⟨⟨⟨⟨⟨⟨rfl,L⟩,Y⟩,h3⟩,h4⟩,O⟩,h6⟩,h7⟩,h8⟩:=G;have(q1,q2):=aC h3;have sa:=aY (pos:=JC) (env:=X.env) (es:=[a',b']) λe he=>by
   rcases d4.mp he with rfl|he
   .show O
   .simp at he;subst he;show h6
  show zb g.u L (cJ Y) q1 q2 (bS a X _ g h7) (bS b X _ g h8) #[rfl,by rw[sa.2];rfl,h4,by rw[br O,br h6];rfl]
 |.Qg i,X,k,g,h=>by
  have(f',as,_,rfl,B):=ba h;have(f,_,rfl,G):=ao B;have(c,rfl,z3):=aL G;have(o,m,apos,bs,JC,rfl,z4):=bz z3;have(x,px,rfl,z5):=ao z4;simp only[bF,œ,sP]at z5;obtain⟨⟨⟨⟨⟨⟨⟨rfl,rfl⟩,L⟩,rfl⟩,h3⟩,h4⟩,O⟩,h6⟩:=z5;have(q1,q2):=aC O;show Cn g.calm g.K (dg L) (g.blt _ (by decide +kernel)) h3 (cJ h4) q1 q2 h6
 |.Ss ln a b,X,k,g,h=>gP
 |.fst es,X,k,g,h=>gP
 |.Sr a T,X,k,g,h=>gP
 |.ite c a b,X,k,g,h=>by
  have(c',a',b',J,rfl,A):=wZ h;clear h;have h:=A;simp only[bF]at h;show BR (mI c X _ g h.1.1) (bS a X _ g h.1.2) (bS b X _ g h.2)
 |.tup es,X,k,g,h=>by
  have(l,q0,J,rfl,A):=iY h;clear h;have h:=A;show BX (iZ es X _ g h)
 |.lst es,X,k,g,h=>by
  have(l,J,rfl,A):=tS h;clear h;have h:=A;show BY (iZ es X _ g h)
 |.L0 r,X,k,g,h=>by
  have(J,rfl):=oy h;show yS g.P g.w r
 |.idx a b,X,k,g,h=>by
  have(a',b',J,rfl,A):=dA h;clear h;have h:=A;simp only[bF]at h;show BZ g.K g.u (rn h.1.1) (bS a X _ g h.1.2) (bS b X _ g h.2)
 |.K_ a lo hi,X,k,g,h=>by
  have(a',b',J,rfl,B):=dA h;have(Xf,LV,p1,rfl,A):=tT B;clear h B;simp only[bF]at A;show B1 g.K (bS a X _ g A.1.1) (HV lo X _ g A.1.2) (HV hi X _ g A.2)
 |.bi f es,X,k,g,h=>by
  have(f',as,J,rfl,B):=ba h;have(x,p1,rfl,G):=ao B;have h:=G;show HP g (iZ es X _ g (fA h)) h
 |.Oh f es,X,k,g,h=>by
  have(f',as,J,rfl,B):=ba h;have(x,p1,rfl,G):=ao B;have(c,rfl,z3):=aL G;have(g',as',p2,rfl,z4):=ba z3;have(y,p3,rfl,z5):=ao z4;have h:=z5;show HQ g (iZ es X _ g (fA h)) h
 |.MB m a es,X,k,g,h=>by
  have(o,name,apos,as,JC,rfl,B):=bz h;have h:=B;have h':=h;simp only[bF]at h';show HR g (bS a X _ g h'.1.2) (iZ es X _ g (fA h)) h
 |.call f es,X,k,g,h=>by
  have(f',as,J,rfl,B):=ba h;have(x,p1,rfl,G):=ao B;have h:=G;show zw g (iZ es X _ g (fA h)) h
 |.comp n t ik src cond e,X,k,g,h=>by
  have(elt,tg,ab,al,scope,J,rfl,A):=j8 h;clear h;have h:=A;simp only[bF,œ]at h;obtain⟨⟨⟨⟨⟨⟨⟨L,Y⟩,h3⟩,h4⟩,O⟩,h6⟩,h7⟩,h8⟩:=h;subst L;have S:=yr (X:=X) rfl (oA _ _) Y;split at O
  .rename_i as am;have JI:=cp O;have hI:PI X tg ab (Nw C ik (aT Γ src)):=Dz g am (iZ src X _ g O) (λa e=>by
    subst e;cases src with
    |nil=>simp[aJ]at O
    |cons e1 Kx =>
     cases Kx with
     |nil =>
      simp only[aJ,bF]at O;show#[e1,rfl,bS e1 X _ g O.1.2]
     |cons _ _=>simp[aJ]at O) JI
   show y7 S g.calm hI (λD s H ex=>vp (fa:=λx=>b7 (scope.names.lookup x=a5 .cell)) g.calm g.K S.nd (λ_ z=>z) h3)
    (λD s H ex=>by
     cases al with
     |nil =>
      cases cond with
      |nil=>show λac s σ H Q I ⟨c0,e1,e2,ok,w⟩=>uT ac s σ H Q I (by subst e1 e2;rw[show aR Γ []=pure a8 from rfl,aq]at w;show w c0 rfl rfl ok (Nx.refl c0))
      |cons _ _=>simp[aJ]at h7
     |cons c1 cs =>
      cases cs with
      |nil =>
       cases cond with
       |nil=>simp[aJ]at h7
       |cons e1 Kx =>
        cases Kx with
        |nil =>
         simp only[aJ,bF]at h7;show uU (mI e1 (KW X _ scope D s H ex) c1 (g.cx _ _ _ _ _ _) h7.1.2)
        |cons _ _=>simp[aJ]at h7
      |cons _ _=>simp at h6)
    (λD s H ex=>bS e (KW X _ scope D s H ex) elt (g.cx _ _ _ _ _ _) h8) (tW h4)
  .cases O
theorem iZ:∀(es:List E) (X:Cx) (a:List lx),Gd ck Γ C d X->aJ ck es X.N X.env.scope a=a8->PA X a (K8 C (aT Γ es))
 |[],X,a,g,h=>by
  cases a with
  |nil=>show BW
  |cons _ _=>simp[aJ]at h
 |e::es,X,a,g,h=>by
  cases a with
  |nil=>simp[aJ]at h
  |cons b a =>
   simp only[aJ,bF]at h;show yQ (bS e X b g h.1.2) (iZ es X a g h.2) (br h.1.1)
theorem FL:∀(es b:List E) {i:Nat} (X:Cx) (as:List lx),Gd ck Γ C d X->RH X.N X.env.scope i as[es.length]?=a8->aJ ck es X.N X.env.scope (as.take es.length)=a8->PA X (as.drop (es.length+1)) (K8 C (aT Γ b))->PA X as (pS C es.length i (aT Γ es >>= λr1=>aT Γ b >>= λr2=>pure (r1++r2)))
 |[],b,i,X,as,g,f,c,h=>by
  have(y,p,e,z):=rm f;have(j,k,l,m):=fP z;cases as with
  |nil=>cases e
  |cons a as =>
   cases e;show PA.HU (Cs j k l m h) λst Q w=>by
    rw[ag,show aT Γ []=pure [] from rfl,aq,ag]at w;show w.mono λa st' z=>by rw[aq]at z;show z
 |e::es,b,i,X,as,g,f,c,h=>by
  cases as with
  |nil=>cases f
  |cons a as =>
   simp only[i4,List.take_succ_cons,aJ,bF]at c;show PA.HU (Cu (bS e X a g c.1.2) (FL es b (i:=i) X as g f c.2 h) (br c.1.1)) λst Q w=>?_;rw[ag,show aT Γ (e::es)=(ev Γ e >>= λr=>aT Γ es >>= λrs=>pure (r::rs)) from rfl,ag]at w;rw[ag];show w.mono λr st1 w=>?_;rw[ag]at w;rw[ag,ag];show w.mono λr1 st2 w=>?_;rw[aq,ag]at w;rw[ag];show w.mono λr2 n w=>?_;rw[aq]at w;rw[aq,aq];show w
theorem HV:∀(es:List E) (X:Cx) (o:Option lx),Gd ck Γ C d X->tV ck es X.N X.env.scope o=a8->PO X o (tO C (Pj Γ es))
 |[],X,o,g,h=>by
  cases o with
  |none=>show jW
  |some _=>simp[tV]at h
 |[e],X,o,g,h=>by
  cases o with
  |none=>simp[tV]at h
  |some a=>simp only[tV]at h;show wM (bS e X a g h)
 |_::_::_,X,o,g,h=>by simp[tV]at h
theorem zy:∀(es:List E) (X:Cx) (a:List lx),Gd ck Γ C d X->aJ ck es X.N X.env.scope a=a8->∀{pos},PE X (.BoolOp .And a pos) (JM C (jv Γ es))
 |[],X,a,g,h,pos=>gP
 |[e],X,a,g,h,pos=>by
  cases a with
  |nil=>simp[aJ]at h
  |cons b a =>
   cases a with
   |nil=>simp only[aJ,bF]at h;show D5 (bS e X b g h.1.2)
   |cons _ _=>simp[aJ]at h
 |e::c::es,X,a,g,h,pos=>by
  cases a with
  |nil=>simp[aJ]at h
  |cons b a =>
   have h':noStar b=a8/\bC ck e X.N X.env.scope b=a8/\aJ ck (c::es) X.N X.env.scope a=a8:=by
    rw[aJ]at h;simp only[bF]at h;show#[h.1.1,h.1.2,h.2]
   cases a with
   |nil=>have:=h'.2.2;simp[aJ]at this
   |cons f i=>show snd_and (bS e X b g h'.2.1) (zy (c::es) X _ g h'.2.2)
theorem mI:∀(e:E) (X:Cx) (j:lx),Gd ck Γ C d X->bC ck e X.N X.env.scope j=a8->PT X j (K4 C (JP Γ e))
 |.and es,X,j,g,h=>by
  have(JH,s,rfl,l):=j6 h;clear h;have h:=l;show(vt es X _ g h).pt
 |.or es,X,j,g,h=>by
  have(JH,s,rfl,l):=j6 h;clear h;have h:=l;show(zA es X _ g h).pt
 |.not a,X,j,g,h=>by
  have(a',s,rfl,l):=j7 h;clear h;have h:=l;show BU (mI a X _ g h)
 |.cmp op a b,X,j,g,h=>by
  have(a',D,G,s,rfl,k):=fO h;have h:=k;simp only[bF,œ,nC]at h;obtain⟨⟨⟨rfl,B⟩,v⟩,y⟩:=h;show BO g.P g.w g.K g.u (bS a X _ g v) (bS b X _ g y) B
 |.Nu o1 o2 a b c,X,j,g,h=>absurd (show bL=a8 from h) i7
 |.var i,X,j,g,h=>by
  have(x,s,rfl,l):=ao h;simp only[bF,œ]at l;have(z,A):=aC l.2;show lr (pL l.1.1 (cJ l.1.2) z A) g.K λ_=>rfl
 |.idx a b,X,j,g,h=>bw
 |.bi f es,X,j,g,h=>by
  have(H,as,s,rfl,k):=ba h;have(x,p1,rfl,p):=ao k;have h:=p;show PT.eqv (lr (HP g (iZ es X _ g (fA h)) h) g.K λ_=>rfl) λst Q w=>DA w
 |.Oh f es,X,j,g,h=>bw
 |.MB m a es,X,j,g,h=>bw
 |.call f es,X,j,g,h=>by
  have(H,as,s,rfl,k):=ba h;have(x,p1,rfl,p):=ao k;have h:=p;show PT.eqv (lr (zw g (iZ es X _ g (fA h)) h) g.K λ_=>rfl) λst Q w=>DA w
 |.cst u,X,j,g,h=>bw
 |.fst es,X,j,g,h=>bw
 |.Mc x u,X,j,g,h=>bw
 |.neg a,X,j,g,h=>bw
 |.Sr a T,X,j,g,h=>bw
 |.bad,X,j,g,h=>bw
 |.Kq i,X,j,g,h=>bw
 |.MO i,X,j,g,h=>bw
 |.LK i,X,j,g,h=>by
  have(a',D,G,s,rfl,k):=fO h;have(o,m,q,rfl,p):=bZ k;have(x,px,rfl,I):=ao p;simp only[bF,œ]at I;obtain⟨⟨⟨v,rfl⟩,rfl⟩,y⟩:=I;have(p2,rfl):=w_ v;have(w1,w2,w3,w4):=fP y;have(cl,_,_,K,_):=g.Lo.sh.ex;show zf K g.K g.u w1 w2 w3 w4
 |.la i,X,j,g,h=>bw
 |.Ku f i es J,X,j,g,h=>by
  have(H,as,s,rfl,k):=ba h;have(x,p1,rfl,p):=ao k;simp only[bF,œ]at p;obtain⟨⟨⟨⟨⟨⟨v,y⟩,z⟩,A⟩,L⟩,O⟩,Y⟩:=p;have(e1,e2,e3):=Xg L O Y;show lr (zx g (FL es J X as g L O (iZ J X _ g Y)) e1 e2 v y z A) g.K λ_=>rfl
 |.Kl f m i es,X,j,g,h=>bw
 |.inD neg a i,X,j,g,h=>by
  have(a',D,G,s,rfl,k):=fO h;have(x,p1,rfl,p):=ao k;have h:=p;simp only[bF,œ,nC]at h;obtain⟨⟨⟨⟨⟨rfl,B⟩,v⟩,y⟩,z⟩,A⟩:=h;have(q1,q2):=aC z;show Ci g.u v (cJ y) q1 q2 (bS a X _ g A) B
 |.Qf i,X,j,g,h=>bw
 |.Ss ln a b,X,j,g,h=>bw
 |.Qg i,X,j,g,h=>bw
 |.Mm i a b,X,j,g,h=>bw
 |.bin op a b,X,j,g,h=>bw
 |.ite c a b,X,j,g,h=>bw
 |.tup es,X,j,g,h=>bw
 |.lst es,X,j,g,h=>bw
 |.L0 r,X,j,g,h=>bw
 |.K_ a lo hi,X,j,g,h=>bw
 |.comp n t ik src cond e,X,j,g,h=>bw
theorem vt:∀(es:List E) (X:Cx) (a:List lx),Gd ck Γ C d X->aJ ck es X.N X.env.scope a=a8->∀{pos},PW X (.BoolOp .And a pos) (K4 C (aR Γ es))
 |[],X,a,g,h,pos=>by
  cases a with
  |nil =>
   rintro j c s σ H Q I ⟨c0,rfl,rfl,i,w⟩;rw[show aR Γ []=pure a8 from rfl,aq]at w;show Ő #[c0.H,I,w c0 rfl rfl i (Nx.refl c0)]
  |cons _ _=>simp[aJ]at h
 |[e],X,a,g,h,pos=>by
  cases a with
  |nil=>simp[aJ]at h
  |cons b a =>
   cases a with
   |nil=>simp only[aJ,bF]at h;show A6 (mI e X b g h.1.2)
   |cons _ _=>simp[aJ]at h
 |e::f::es,X,a,g,h,pos=>by
  cases a with
  |nil=>simp[aJ]at h
  |cons b a =>
   have h':noStar b=a8/\bC ck e X.N X.env.scope b=a8/\aJ ck (f::es) X.N X.env.scope a=a8:=by
    rw[aJ]at h;simp only[bF]at h;show#[h.1.1,h.1.2,h.2]
   cases a with
   |nil=>have:=h'.2.2;simp[aJ]at this
   |cons k l=>show BV (mI e X b g h'.2.1) (vt (f::es) X _ g h'.2.2)
theorem zA:∀(es:List E) (X:Cx) (a:List lx),Gd ck Γ C d X->aJ ck es X.N X.env.scope a=a8->∀{pos},PW X (.BoolOp .Or a pos) (K4 C (gK Γ es))
 |[],X,a,g,h,pos=>by
  cases a with
  |nil =>
   rintro j c s σ H Q I ⟨c0,rfl,rfl,i,w⟩;rw[show gK Γ []=pure bL from rfl,aq]at w;show isTrue_or_nil #[c0.H,I,w c0 rfl rfl i (Nx.refl c0)]
  |cons _ _=>simp[aJ]at h
 |[e],X,a,g,h,pos=>by
  cases a with
  |nil=>simp[aJ]at h
  |cons b a =>
   cases a with
   |nil=>simp only[aJ,bF]at h;show D2 (mI e X b g h.1.2)
   |cons _ _=>simp[aJ]at h
 |e::f::es,X,a,g,h,pos=>by
  cases a with
  |nil=>simp[aJ]at h
  |cons b a =>
   have h':noStar b=a8/\bC ck e X.N X.env.scope b=a8/\aJ ck (f::es) X.N X.env.scope a=a8:=by
    rw[aJ]at h;simp only[bF]at h;show#[h.1.1,h.1.2,h.2]
   cases a with
   |nil=>have:=h'.2.2;simp[aJ]at this
   |cons k l=>show Fc (mI e X b g h'.2.1) (zA (f::es) X _ g h'.2.2)
end
def HW(g:Gd ck Γ C d X)(b:VH e=a8)(h:bC ck e X.N X.env.scope f=a8):PE X f (wV C (ev Γ e)):=by
 cases e with
 |var i =>
  have(x,k,rfl,a):=ao h;simp only[bF,œ]at a;have(l,m):=aC a.2;show y_ a.1.1 (cJ a.1.2) l m
 |cst u =>
  have(c,n,k,rfl,a):=mG h;cases c with
  |int j=>have:=cG a;subst this;show jA xO λ_ _=>rfl
  |str y=>have:=cG a;subst this;show jA xQ λ_ _=>rfl
  |bool y=>have:=cG a;subst this;show jA Dp λ_ _=>rfl
  |none=>have:=cG a;subst this;show jA xP λ_ _=>rfl
  |_=>cases a
 |_=>cases b
end
abbrev RJ(b:Lg)(x:Str)(a:Nat):lx->Bool
 |.ListComp elt gens s pos=>b7 (b.names.lookup x=a5 .local)&&(a==pos.line)&&!(s.names.any λ(n,k)=>n==x&&(k==.local||k==.cell))
 |_=>bL
abbrev kQ(s:LX)(k:lx->Bool):Bool:=match s with|.Expr e _=>k e|_=>bL
def dB(h:kQ s k=a8):∃e p,s=.Expr e p/\k e=a8:=by
 unfold kQ at h;split at h
 .show#[_,_,rfl,h]
 .cases h
abbrev jC(s:LX)(k:lx->lx->Bool):Bool:=match s with|.Assign ts v _=>cI ts λt=>k t v|_=>bL
def cT(h:jC s k=a8):∃t v p,s=.Assign [t] v p/\k t v=a8:=by
 unfold jC at h;split at h
 .have(t,rfl,a):=aL h;show#[_,_,_,rfl,h]
 .cases h
abbrev zB(s:LX)(k:lx->Bool):Bool:=match s with|.Raise (a5 e) bD _=>k e|_=>bL
def tX(h:zB s k=a8):∃e p,s=.Raise (a5 e) bD p/\k e=a8:=by
 unfold zB at h;split at h
 .show#[_,_,rfl,h]
 .cases h
abbrev zC(s:LX)(k:LX->ExceptHandler->Bool):Bool:=match s with|.Try b hs [] [] _=>cI b λb=>cI hs λh=>k b h|_=>bL
def tY(h:zC s k=a8):∃b a p,s=.Try [b] [a] [] [] p/\k b a=a8:=by
 unfold zC at h;split at h
 .have(b,rfl,c):=aL h;have(a,rfl,d):=aL c;show#[_,_,_,rfl,d]
 .cases h
abbrev zD(s:ExceptHandler)(k:lx->Str->LX->Bool):Bool:=match s with|.ExceptHandler (a5 t) (a5 n) b _=>cI b λb=>k t n b|_=>bL
def tZ(h:zD s k=a8):∃t n b p,s=.ExceptHandler (a5 t) (a5 n) [b] p/\k t n b=a8:=by
 unfold zD at h;split at h
 .have(b,rfl,a):=aL h;show#[_,_,_,_,rfl,a]
 .cases h
abbrev FN(s:LX)(k:Str->lx->Bool):Bool:=jC s λt v=>aO t λy=>k y v
def oB(h:FN s k=a8):∃y p v a,s=.Assign [.Name y p] v a/\k y v=a8:=by
 have(t,v,a,rfl,z):=cT h;have(y,p,rfl,z):=ao z;show#[y,p,v,a,rfl,z]
abbrev FO(e:lx)(k:Str->Pos->Bool):Bool:=match e with|.Name x p=>k x p|_=>bL
def xb(h:FO e k=a8):∃x p,e=.Name x p/\k x p=a8:=by
 unfold FO at h;split at h
 .show#[_,_,rfl,h]
 .cases h
abbrev zE(s:LX)(k:lx->ï->lx->Bool):Bool:=match s with|.AugAssign t op b _=>k t op b|_=>bL
def t_(h:zE s k=a8):∃t op b p,s=.AugAssign t op b p/\k t op b=a8:=by
 unfold zE at h;split at h
 .show#[_,_,_,_,rfl,h]
 .cases h
abbrev rp(s:LX)(k:Option lx->Bool):Bool:=match s with|.Return v _=>k v|_=>bL
def mJ(h:rp s k=a8):∃v p,s=.Return v p/\k v=a8:=by
 unfold rp at h;split at h
 .show#[_,_,rfl,h]
 .cases h
abbrev FP(v:Option lx)(k:lx->Bool):Bool:=match v with|some e=>k e|none=>bL
def oC(h:FP v k=a8):∃e,v=a5 e/\k e=a8:=by
 cases v with
 |none=>cases h
 |some e=>show#[e,rfl,h]
abbrev vv(s:LX)(k:lx->List LX->List LX->Bool):Bool:=match s with|.If c a b _=>k c a b|_=>bL
def mK(h:vv s k=a8):∃c a b p,s=.If c a b p/\k c a b=a8:=by
 unfold vv at h;split at h
 .show#[_,_,_,_,rfl,h]
 .cases h
abbrev zF(s:LX)(k:lx->lx->List LX->Bool):Bool:=match s with|.For t i b o _=>o.isEmpty&&k t i b|_=>bL
def ua(h:zF s k=a8):∃t i b p,s=.For t i b [] p/\k t i b=a8:=by
 unfold zF at h;split at h
 .rw[bF,sP]at h;have(rfl,h):=h;show#[_,_,_,_,rfl,h]
 .cases h
abbrev FQ(s:LX)(k:lx->List LX->Bool):Bool:=match s with|.While c b o _=>o.isEmpty&&k c b|_=>bL
def xf(h:FQ s k=a8):∃c b p,s=.While c b [] p/\k c b=a8:=by
 unfold FQ at h;split at h
 .rw[bF,sP]at h;have(rfl,h):=h;show#[_,_,_,rfl,h]
 .cases h
abbrev j9(a:Lg):List lx->List Str->Bool
 |[],[]=>a8
 |e::es,D::b=>isNm e D&&Lh a D&&bu D&&j9 a es b
 |_,_=>bL
abbrev Z'(a:Lg)(n:Str)(e:lx)(G:List Str):Bool:=w9 e "isinstance" λas=>vn as λx y=>isNm x n&&if G.length=1 then j9 a [y] G else rj y λl=>j9 a l G&&b7 (G.length<100)
abbrev Qs(a:Lg)(n:Str):List lx->List (List Str)->Bool
 |[],[]=>a8
 |e::es,G::Gs=>Z' a n e G&&Qs a n es Gs
 |_,_=>bL
abbrev FR(v:lx)(k:List lx->Bool):Bool:=match v with|.List es _=>k es|_=>bL
def xg(h:FR v k=a8):∃es p,v=.List es p/\k es=a8:=by
 unfold FR at h;split at h
 .show#[_,_,rfl,h]
 .cases h
abbrev Xh(N:List Str)(a:Lg)(b:List (List Str))(s:LX):Bool:=match N with
 |n::_=>rp s λv=>FP v λv=>FR v λes=>iD a n&&bu n&&Lh a "isinstance"&&b7 (b.length<100)&&Qs a n es b
 |[]=>bL
abbrev Ju(v:lx)(g n:Str):Bool:=w9 v g λas=>cI as λa=>isNm a n
abbrev VJ(a:List (Str×Str×Bool))(c:Str)(G:List Str)(b:Bool):Bool:=if G.length=1 then G.all λD=>b7 ((c,D,b)∈a) else !b&&b7 (2<=G.length)&&G.all λD=>b7 ((c,D,bL)∈a)
abbrev xh(k:Ck):Su->List Str->Lg->LX->Bool
 |.mt f m i es,N,d,s=>kQ s λv=>eF v λo e apos as g=>aO o λh=>b7 (e=m)&&b7 ((f,0,m)∈k.obs)&&(b7 (m≠"")&&b7 (m≠"rows")&&b7 (m≠"earlier"))&&MY N d i h&&(apos.endLine==g.line)&&b7 (as.length<20)&&aJ k es N d as
 |.ite c a b,N,d,s=>vv s λj a' l=>bC k c N d j&&(cI a' λs1=>xh k a N d s1)&&cI l λs2=>xh k b N d s2
mutual
noncomputable def zG(k:Ck):S->List Str->Lg->LX->Bool
 |.set i e,N,d,s=>jC s λt v=>FO t λx p=>b7 (N[i]?=a5 x)&&mD d x&&b7 (d.kind=.function)&&bC k e N d v&&(dX v||RJ d x p.line v||(match v with|.ListComp _ _ _ _=>a8|_=>bL))&&(match e with|.comp _ _ _ _ _ _=>a8|_=>dX v)
 |.MP is e,N,d,s=>jC s λt v=>rj t λ_=>Qq a8 N d (λ_=>a8) is t&&dX v&&FE v&&bC k e N d v
 |.put i a b,N,d,s=>jC s λt h=>kP t λo a'=>aO o λx=>b7 (N[i]?=a5 x)&&iD d x&&bu x&&dX h&&eS a'&&bC k a N d a'&&bC k b N d h
 |.app i e,N,d,s=>kQ s λc=>eF c λo m apos as l=>aO o λx=>cI as λa=>b7 (m="append")&&b7 (N[i]?=a5 x)&&iD d x&&bu x&&(apos.endLine==l.line)&&noStar a&&bC k e N d a
 |.Mn _,_,_,_=>bL
 |.LL i,N,d,s=>FN s λy v=>w9 v "Shelf" λas=>as.isEmpty&&b7 (N[i]?=a5 y)&&mD d y&&Lh d "Shelf"
 |.MQ i e,N,d,s=>jC s λt v=>fb t λo m _=>aO o λx=>aO v λ_=>b7 (m="rows")&&MY N d i x&&bC k e N d v
 |.MR i,N,d,s=>kQ s λc=>eF c λo m apos as l=>fb o λo1 m1 _=>aO o1 λx=>cI as λa=>fb a λo2 m2 _=>aO o2 λC=>b7 (m="append")&&b7 (m1="earlier")&&b7 (m2="rows")&&b7 (C=x)&&(apos.endLine==l.line)&&MY N d i x
 |.ext i e,N,d,s=>kQ s λc=>eF c λo m apos as l=>aO o λx=>cI as λa=>b7 (m="extend")&&b7 (N[i]?=a5 x)&&iD d x&&bu x&&(apos.endLine==l.line)&&noStar a&&bC k e N d a
 |.bad,_,_,_=>a8
 |.newD i,N,d,s=>jC s λt v=>aO t λx=>Cz v&&b7 (N[i]?=a5 x)&&mD d x
 |.putD i a b,N,d,s=>jC s λt h=>kP t λo a'=>aO o λx=>b7 (N[i]?=a5 x)&&iD d x&&bu x&&dX h&&eS a'&&bC k a N d a'&&bC k b N d h
 |.L3 i a e,N,d,s=>kQ s λc=>eF c λo m apos as l=>kP o λo' a'=>aO o' λx=>cI as λb=>b7 (m="append")&&b7 (N[i]?=a5 x)&&iD d x&&bu x&&eS a'&&(apos.endLine==l.line)&&noStar b&&bC k a N d a'&&bC k e N d b&&VH e
 |.aug sub i a e,N,d,s=>zE s λt op b=>kP t λo a'=>aO o λx=>b7 (op=if sub=a8 then .Sub else .Add)&&b7 (N[i]?=a5 x)&&iD d x&&bu x&&eS a'&&bC k a N d a'&&bC k e N d b&&VH e
 |.Sv _,_,_,_=>bL
 |.exp e,N,d,s=>kQ s λu=>dX u&&bC k e N d u
 |.ret e,N,d,s=>rp s λv=>FP v λu=>bC k e N d u
 |.Oi,_,_,_=>bL
 |.ite c a b,N,d,s=>vv s λw a' h=>bC k c N d w&&dn k a N d a'&&dn k b N d h
 |.JZ t is D src body,N,d,s=>zF s λB f A=>Qq t N d (λ_=>a8) is B&&tQ f&&(match gO d B D f with
    |some as=>aJ k src N d as
    |none=>bL)&&dn k body N d A
 |.Ph c body,N,d,s=>FQ s λw A=>bC k c N d w&&dn k body N d A
 |.brk,_,_,_=>bL
 |.cnt,_,_,_=>bL
 |.Ri _,_,_,_=>bL
 |.M' c e,N,d,s=>zB s λr=>w9 r c λas=>cI as λa=>b7 (c∈k.xc)&&Lh d c&&bu c&&noStar a&&bC k e N d a
 |.knd q,N,d,s=>Xh N d q s
 |.Oj G x H j m g q,N,d,s=>zC s λb I=>zD I λt n J=>FN J λz L=>(isNm t x&&Ju L g n&&xh k G N d b)&&(Lh d x&&bu x)&&(b7 ((g,q)∈k.xk)&&H.all (λp=>b7 ((p.1,x)∈k.xd)&&b7 (q.length=p.2.length)&&(q.zip p.2).all (λr=>VJ k.xi p.1 r.1 r.2))&&Lh d g&&bu g)&&(b7 (N[j]?=a5 n)&&b7 (d.names.lookup n=a5 .local)&&bu n&&b7 (N[m]?=a5 z)&&mD d z)
 |.Sw,_,_,_=>bL
noncomputable def dn(k:Ck):List S->List Str->Lg->List LX->Bool
 |[],_,_,a=>a.isEmpty
 |s::ss,N,b,a=>match a with
  |s'::a=>zG k s N b s'&&dn k ss N b a
  |[]=>bL
end
section
variable{ck:Ck}{Γ:Tab}{C:Ct}{d:Nat}{X:Cx}
def mL(h:mD a x=a8):Loc a x:=by
 unfold mD at h;simp only[OS,œ]at h;show h
def jD(h:dX v=a8):PL v t a env=pure bL:=by
 cases v<;>first|rfl|cases h
def pW(h:dX v=a8):RE [t] v a env=pure bL:=by
 rw[RE];show jD h
def CF(h:eS i=a8):∀a b new,Ň i a b new=(do K9 [new,a,b] (Ud a b new);WW [new,a,b] [];pure .next):=by
 intro a b new;cases i<;>first|rfl|cases h
def vA(h:eS i=a8):∀v,S5 (.Subscript o i p) env v=(do
   let a <-K9 [v] (tj o env)
   let b <-K9 [v,a] (tj i env)
   R6 p
   K9 [v,a,b] (Ud a b v)
   WW [v,a,b] []):=by
 intro v;cases i<;>first|rfl|cases h
structure Gs(ck:Ck)(Γ:Tab)(C:Ct)(d:Nat)(X:Cx):Prop where
 gd:Gd ck Γ C d X
 nd:X.N.Nodup
 fn:∀x,X.fn x=a8
 po:XO (d5 X.prog X.w) X.A X.env X.xe
 kd:X.env.scope.kind=.function
 xs:Qr ck X.K X.mg
 xl:∀c H',C.xw (.str c) H'->∀C' T H pins σ s e s',PySem.W.nsIn X.K hQ c=a5 (a5 (.ref C'))->Inv X pins σ H s->cv X.prog X.w X.stack H s e C' T .none H' s'->X.xe (.ref e) s'
 sk:X.stack=X.env::X.outer/\X.env.frame=a5 X.env.locals
 ex:X.ex=[]
def vB(g:Gd ck Γ C d X)(h:(match gO X.env.scope i j b with|some as=>aJ ck src X.N X.env.scope as|none=>bL)=a8):PI X i b (Nw C j (aT Γ src)):=by
 split at h
 .rename_i as c;show Dz g c (iZ src X _ g h) (λa e=>by
   subst e;cases src with
   |nil=>simp[aJ]at h
   |cons f k =>
    cases k with
    |nil =>
     simp only[aJ,bF]at h;show#[f,rfl,bS f X _ g h.1.2]
    |cons _ _=>simp[aJ]at h) (cp h)
 .cases h
def mM{pos p a:Pos}(hk:X.env.scope.kind=.function):PL (.ListComp elt gens s pos) (a5 (.Name x p)) a.line X.env=pure (RJ X.env.scope x p.line (.ListComp elt gens s pos)):=by
 have b:X.env.blockKind=.function:=by
  unfold Env.blockKind;rw[hk];rfl
 change(pure (X.env.blockKind==.function&&X.env.kindOf x==a5 .local&&p.line==pos.line&&!(s.names.any λ(n,k)=>n==x&&(k==.local||k==.cell))):Sem Bool)=_;rw[b];unfold RJ;congr 1
 have:(X.env.kindOf x==a5 NameKind.local)=b7 (X.env.scope.names.lookup x=a5 .local):=by
  unfold Env.kindOf;rw[oT];simp
 rw[this];rfl
def FT{src cond:List E}(G:Gs ck Γ C d X)(hi:X.N[i]?=a5 x)(B:mD X.env.scope x=a8)
  (h:bC ck (.comp n t m src cond e) X.N X.env.scope (.ListComp elt [⟨o,a,b,0⟩] scope pos)=a8) (ns:Nat->Bool) (q:∀j,ns j=a8->j≠i) :
  L2.PS X (.Assign [.Name x p] (.ListComp elt [⟨o,a,b,0⟩] scope pos) ML) (Kv C ns (ev Γ (.comp n t m src cond e) >>= λr=>fq i r >>= λ_=>pure .nx)):=by
 have g:=G.gd;have u:=bS (.comp n t m src cond e) X _ g h;cases k:RJ X.env.scope x p.line (.ListComp elt [⟨o,a,b,0⟩] scope pos) with
 |false=>show Dy q G.nd hi (mL B) (.inl (G.fn x)) u (by rw[mM G.kd,k])
 |true =>
  have hl:X.env.scope.names.lookup x=a5 .local:=by
   simp only[RJ,bF,œ]at k;show k.1.1
  have(v,J,Xi,y,VL,p',L,A):=j8 h;cases L;clear h u;simp only[bF,œ]at A;obtain⟨⟨⟨⟨⟨⟨⟨O,T⟩,Y⟩,h4⟩,h5⟩,h6⟩,c⟩,h8⟩:=A;subst O;have S:=yr (X:=X) rfl (oA _ _) T;show Fs q S g.calm G.nd hi hl (vB g h5) (λD s H ex=>vp (fa:=λx=>b7 (scope.names.lookup x=a5 .cell)) g.calm g.K S.nd (λ_ z=>z) Y)
   (λD s H ex=>by
    cases b with
    |nil =>
     cases cond with
     |nil=>show λf s σ H Q I ⟨c0,l,e2,ok,w⟩=>uT f s σ H Q I (by subst l e2;rw[show aR Γ []=pure a8 from rfl,aq]at w;show w c0 rfl rfl ok (Nx.refl c0))
     |cons _ _=>simp[aJ]at c
    |cons c1 cs =>
     cases cs with
     |nil =>
      cases cond with
      |nil=>simp[aJ]at c
      |cons l Kx =>
       cases Kx with
       |nil =>
        simp only[aJ,bF]at c;show uU (mI l (KW X _ scope D s H ex) c1 (g.cx _ _ _ _ _ _) c.1.2)
       |cons _ _=>simp[aJ]at c
     |cons _ _=>simp at h6)
   (λD s H ex=>bS e (KW X _ scope D s H ex) elt (g.cx _ _ _ _ _ _) h8) (by rw[mM G.kd,k]) (tW h4)
def CG(G:Gs ck Γ C d X)(h:zG ck (.M' c e) X.N X.env.scope s'=a8):L2.PS X s' (Kv C (Qj (.M' c e)) (exec Γ (.M' c e))):=by
 have(r,u,rfl,g):=tX h;have(as,p1,p2,rfl,i):=ig g;have(a,rfl,f):=aL i;simp only[bF,œ]at f;obtain⟨⟨⟨⟨j,k⟩,l⟩,m⟩,n⟩:=f;have(o,p,q,t):=G.xs.xc _ j;show HF G.gd.calm (dg k) p (aC l).1 t (bS e X a G.gd n) (br (es:=[]) m) λH' w b σ s e s' I F=>G.xl _ H' w o bD H' b σ s e s' q I F
def FU(h:VJ a c G b=a8):SR a c G b:=by
 unfold VJ at h;split at h
 .rename_i e
  match G,e with
  |[D],_=>show .inl #[D,rfl,by simpa using h]
 .simp only[bF,nC,œ]at h;show .inr #[h.1.1,h.1.2,λD f=>ř (i8.mp h.2 D f)]
theorem FV(G:Gs ck Γ C d X):∀(k:Su) (st:LX),xh ck k X.N X.env.scope st=a8->TS X C st (NU Γ k)
 |.mt f m i es,st,h=>by
  have(v,p4,rfl,Q):=dB h;have(o,T,apos,as,l,rfl,Y):=bz Q;have(ox,px,rfl,n):=ao Y;simp only[bF,œ]at n;obtain⟨⟨⟨⟨⟨⟨rfl,g1⟩,⟨q,r⟩,s⟩,g5⟩,g6⟩,g7⟩,g⟩:=n;have j:=cp g;have(np,fa,fd,ps,t,_,q3,u,A,B):=(G.gd.Lo.o _ g1).ex;have(cl,_,_,K,_):=G.gd.Lo.sh.ex;have(D,H,I,J):=fP g5;have gn:Gd ck Γ C d X.L_:=Gd.L_ G.gd;have L:=vj (x:=ox) (y:=T) (px:=px) (apos:=apos) (pos:=l) (env:=X.env) (as:=as) (by rw[(aY j).2];change(a8&&a8&&b7 (as.length+0+0<30))=a8;rw[ŗ ⋯];rfl) g6;cases as with
  |nil =>
   cases es with
   |nil=>show FD K G.gd.P G.gd.w G.gd.K D H I J rfl B t G.gd.room (u q cl K.hc) A #[r,s] L
   |cons _ _=>simp[aJ]at g
  |cons e0 O =>
   have st:=br (env:=X.env) (es:=O) (j e0 (by simp));have sn:=(aY (pos:=l) (env:=X.env) (es:=O) λe he=>j e (by simp[he])).1;show HK K G.gd.P G.gd.w G.gd.K D H I J rfl B t G.gd.room (u q cl K.hc) A #[r,s] (iZ es X.L_ _ gn g) st sn L
 |.ite c a b,st,h=>by
  have(c',a',b',p,rfl,z):=mK h;have z:(bC ck c X.N X.env.scope c'&&(cI a' λs1=>xh ck a X.N X.env.scope s1)&&cI b' λs2=>xh ck b X.N X.env.scope s2)=a8:=z;rw[bF,bF]at z;have(s1,rfl,z1):=aL z.1.2;have(s2,rfl,z2):=aL z.2;show HL (mI c X.L_ _ (Gd.L_ G.gd) z.1.1) (FV G a _ z1) (FV G b _ z2)
def CH(G:Gs ck Γ C d X)(h:zG ck (.Oj a x f j m g i) X.N X.env.scope s'=a8):L2.PS X s' (Kv C (Qj (.Oj a x f j m g i)) (exec Γ (.Oj a x f j m g i))):=by
 have(b,hd,p,rfl,k):=tY h;have(t0,n,l,Z6,rfl,o):=tZ k;have(z,p6,v2,Qp,rfl,q):=oB o;clear h k o;simp only[bF,œ]at q;obtain⟨⟨⟨⟨⟨t,u⟩,v⟩,l,b3⟩,⟨⟨⟨k1,k3⟩,w⟩,k5⟩⟩,⟨⟨⟨⟨y,A⟩,s⟩,B⟩,D⟩⟩:=q;have(p5,rfl):=fy t;have(H,p8,RF,rfl,I):=ig u;have(J,rfl,L):=aL I;have(p9,rfl):=fy L;show HM (λn c=>by have c:(b7 (n≠m)&&b7 (n≠j))=a8:=c;simpa using c) G.nd y A B (mL D) (G.fn _) G.gd.room (FV G a _ v) G.sk G.ex (dg l) (aC b3).1 (dg w) (λp O=>by
   have z:=i8.mp k3 p O;simp only[bF,œ]at z;have((b1,k2),k3):=z;have(Cc,Q,r1,r2,T,Y):=G.xs.xd _ b1;have(ga,gd,e,g1,g2,g3,g4):=G.xs.xk _ k1 p.1 p.2 k2 (λr hr=>FU (i8.mp k3 r hr));show#[Cc,Q,T,r2,Y,ga,gd,e,g1 _ _ _,g2,g3,g4]) (aC k5).1 (aC s).1 (aC s).2
def zH(G:Gs ck Γ C d X)(h:zG ck (.LL i) X.N X.env.scope s'=a8):L2.PS X s' (Kv C (Qj (.LL i)) (exec Γ (.LL i))):=by
 have(y,p,v,m,rfl,c):=oB h;have(as,p2,p3,rfl,b):=ig c;simp only[bF,œ,sP]at b;obtain⟨⟨⟨rfl,e⟩,f⟩,g⟩:=b;have(cl,n,o,K,M,F,k,l):=G.gd.Lo.sh.ex;show FC K G.gd.K (λj a=>by have a:b7 (j≠i)=a8:=a;simpa using a) G.nd e (mL f) (.inl (G.fn _)) M F (G.gd.room.mono G.gd.Lo.lv) (dg g) l k
mutual
theorem Jv:∀(s:S) (X:Cx) (s':LX),Gs ck Γ C d X->zG ck s X.N X.env.scope s'=a8->L2.PS X s' (Kv C (Qj s) (exec Γ s))
 |.set i e,X,s',G,h=>by
  have(t,v,p1,rfl,f):=cT h;have(x,p,rfl,k):=xb f;clear h f;have h:=k;simp only[bF,œ]at h;obtain⟨⟨⟨⟨⟨l,r⟩,J⟩,A⟩,L⟩,O⟩:=h;have KU:∀j,Qj (.set i e) j=a8->j≠i:=λj Q=>ř (show b7 (j≠i)=a8 from Q);by_cases hc:dX v=a8
  .show Dy KU G.nd l (mL r) (.inl (G.fn x)) (bS e X v G.gd A) (jD hc)
  .cases e with
   |comp n t ik src cond e =>
    have(elt,tg,ab,al,scope,p3,rfl,_):=j8 A;show FT G l r A _ KU
   |_=>show absurd O hc
 |.MP is e,X,s',G,h=>by
  have(t,v,p1,rfl,f):=cT h;have(es,kk,p,rfl,k):=iY f;clear h f;have h:=k;simp only[bF]at h;obtain⟨⟨⟨l,r⟩,J⟩,A⟩:=h;show Ft (λj Q=>ř (show b7 (j∉is)=a8 from Q)) (bS e X v G.gd A) (vp (fa:=λ_=>a8) G.gd.calm G.gd.K G.nd (λx _=>G.fn x) l) (pW r) ?_ rfl;cases v<;>first|rfl|cases J
 |.put i a b,X,s',G,h=>by
  have(t,v,p,rfl,f):=cT h;have(o,a',p1,rfl,k):=dA f;have(x,px,rfl,B):=ao k;simp only[bF,œ]at B;obtain⟨⟨⟨⟨⟨⟨l,r⟩,J⟩,A⟩,L⟩,O⟩,h7⟩:=B;have(T,Y):=aC J;show HE G.gd.P G.gd.w G.gd.K G.gd.u l (cJ r) T Y (bS b X _ G.gd h7) (bS a X _ G.gd O) (pW A) rfl (vA L)
 |.Mn _,X,s',G,h=>by cases h
 |.LL i,X,s',G,h=>zH G h
 |.MQ i e,X,s',G,h=>by
  have(t,v,p1,rfl,f):=cT h;have(o,m,q,rfl,k):=bZ f;have(x,px,rfl,B):=ao k;have(y,py,rfl,z4):=ao B;simp only[bF,œ]at z4;have((rfl,l),r):=z4;have(w1,w2,w3,w4):=fP l;have(cl,_,_,K,_):=G.gd.Lo.sh.ex;show Fy K G.gd.K w1 w2 w3 w4 (bS e X _ G.gd r) rfl
 |.MR i,X,s',G,h=>by
  have(c,p0,rfl,f):=dB h;have(o,m,apos,as,JC,rfl,k):=bz f;have(o1,m1,T,rfl,B):=bZ k;have(x,px,rfl,z4):=ao B;have(a,rfl,z5):=aL z4;have(o2,m2,Y,rfl,z6):=bZ z5;have(x2,am,rfl,z7):=ao z6;simp only[bF,œ]at z7;obtain⟨⟨⟨⟨⟨rfl,rfl⟩,rfl⟩,rfl⟩,l⟩,r⟩:=z7;have(w1,w2,w3,w4):=fP r;have(cl,_,_,K,_):=G.gd.Lo.sh.ex;show Fz K G.gd.K w1 w2 w3 w4 l
 |.app i e,X,s',G,h=>by
  have(c,p0,rfl,f):=dB h;have(o,m,apos,as,JC,rfl,k):=bz f;have(x,px,rfl,B):=ao k;have(a,rfl,z4):=aL B;simp only[bF,œ]at z4;obtain⟨⟨⟨⟨⟨⟨rfl,l⟩,r⟩,J⟩,A⟩,L⟩,O⟩:=z4;have(T,Y):=aC J;have st:=br (env:=X.env) (es:=[]) L;have sa:=(aY (pos:=JC) (env:=X.env) (es:=[a]) λe he=>by simp at he;subst he;show L).2;show HC G.gd.K l (cJ r) T Y (bS e X _ G.gd O) ?_ A st;rw[sa];rfl
 |.ext i e,X,s',G,h=>by
  have(c,p0,rfl,f):=dB h;have(o,m,apos,as,JC,rfl,k):=bz f;have(x,px,rfl,B):=ao k;have(a,rfl,z4):=aL B;simp only[bF,œ]at z4;obtain⟨⟨⟨⟨⟨⟨rfl,l⟩,r⟩,J⟩,A⟩,L⟩,O⟩:=z4;have(T,Y):=aC J;have st:=br (env:=X.env) (es:=[]) L;have sa:=(aY (pos:=JC) (env:=X.env) (es:=[a]) λe he=>by simp at he;subst he;show L).2;show HD G.gd.K l (cJ r) T Y (bS e X _ G.gd O) ?_ A st;rw[sa];rfl
 |.bad,X,s',G,h=>λac sh σ H D I ⟨_,_,_,_,w⟩=>(bg.mp w).elim
 |.newD i,X,s',G,h=>by
  have(t,v,p1,rfl,f):=cT h;have(x,p,rfl,k):=ao f;clear h f;have h:=k;simp only[bF,œ]at h;have(p2,rfl):=oy h.1.1;show Fv (λj Q=>ř (show b7 (j≠i)=a8 from Q)) G.nd h.1.2 (mL h.2) (.inl (G.fn _)) (jD rfl)
 |.putD i a b,X,s',G,h=>by
  have(t,v,p,rfl,f):=cT h;have(o,a',p1,rfl,k):=dA f;have(x,px,rfl,B):=ao k;simp only[bF,œ]at B;obtain⟨⟨⟨⟨⟨⟨l,r⟩,J⟩,A⟩,L⟩,O⟩,h7⟩:=B;have(T,Y):=aC J;show Fw G.gd.u l (cJ r) T Y (bS b X _ G.gd h7) (bS a X _ G.gd O) (pW A) rfl (vA L)
 |.L3 i a e,X,s',G,h=>by
  have(c,p0,rfl,f):=dB h;have(o,m,apos,as,JC,rfl,k):=bz f;have(o',a',p1,rfl,B):=dA k;have(x,px,rfl,z4):=ao B;have(b,rfl,z5):=aL z4;simp only[bF,œ]at z5;obtain⟨⟨⟨⟨⟨⟨⟨⟨⟨rfl,l⟩,r⟩,J⟩,A⟩,L⟩,O⟩,h7⟩,h8⟩,h9⟩:=z5;have ha:=HW (C:=C) (Γ:=Γ) (d:=d) (ck:=ck) G.gd h9 h8;have(T,Y):=aC J;have st:=br (env:=X.env) (es:=[]) O;have sa:=(aY (pos:=JC) (env:=X.env) (es:=[b]) λe he=>by simp at he;subst he;show O).2;show Fx G.gd.K G.gd.u l (cJ r) T Y ha (bS a X _ G.gd h7) (rn A) ?_ L st;rw[sa];rfl
 |.aug sub i a e,X,s',G,h=>by
  have(t,op,b,p,rfl,z0):=t_ h;clear h;have h:=z0;have(o,a',p1,rfl,f):=dA h;have(x,px,rfl,k):=ao f;simp only[bF,œ]at k;obtain⟨⟨⟨⟨⟨⟨⟨rfl,l⟩,r⟩,J⟩,A⟩,L⟩,O⟩,h7⟩:=k;have ha:=HW (C:=C) (Γ:=Γ) (d:=d) (ck:=ck) G.gd h7 O;have(T,Y):=aC J;show HG l (cJ r) T Y ha (bS a X _ G.gd L) (CF A)
 |.Sv i,X,s',G,h=>absurd (show bL=a8 from h) i7
 |.exp e,X,s',G,h=>by
  have(e',p,rfl,z0):=dB h;clear h;have h:=z0;simp only[bF]at h;show Hx (bS e X _ G.gd h.2) (jD h.1)
 |.ret e,X,s',G,h=>by
  have(v,p,rfl,z0):=mJ h;have(e',rfl,f):=oC z0;clear h z0;have h:=f;show Hy (bS e X _ G.gd h)
 |.Oi,X,s',G,h=>absurd (show bL=a8 from h) i7
 |.ite c a b,X,s',G,h=>by
  have(c',a',b',p,rfl,z0):=mK h;clear h;have h:=z0;simp only[bF]at h;have ha:=mO a X _ G h.1.2;have hb:=mO b X _ G h.2;show Hz (mI c X _ G.gd h.1.1) (KZ.weak ha λD σ H z=>pQ (λj Q=>(rl.mp (show(LB a j&&LB b j)=a8 from Q)).1) z) (KZ.weak hb λD σ H z=>pQ (λj Q=>(rl.mp (show(LB a j&&LB b j)=a8 from Q)).2) z)
 |.JZ t is ik src body,X,s',G,h=>by
  have(tg,ab,L7,p,rfl,z0):=ua h;clear h;have h:=z0;rw[bF,bF,bF]at h;show HB G.po G.gd.calm (vB G.gd h.1.2) (vp (fa:=λ_=>a8) G.gd.calm G.gd.K G.nd (λx _=>G.fn x) h.1.1.1) (mO body X _ G h.2) (tW h.1.1.2) λj Q=>by have Q:(b7 (j∉is)&&LB body j)=a8:=Q;simpa using Q
 |.Ph c body,X,s',G,h=>by
  have(c',L7,p,rfl,z0):=xf h;clear h;have h:=z0;simp only[bF]at h;show HA G.po (mI c X _ G.gd h.1) (mO body X _ G h.2)
 |.brk,X,s',G,h=>absurd (show bL=a8 from h) i7
 |.cnt,X,s',G,h=>absurd (show bL=a8 from h) i7
 |.Ri is,X,s',G,h=>absurd (show bL=a8 from h) i7
 |.M' c e,X,s',G,h=>CG G h
 |.knd _,X,s',G,h=>λac sh σ H D I ⟨_,_,_,_,w⟩=>(bg.mp w).elim
 |.Oj su x L4 j m g Ds,X,s',G,h=>CH G h
 |.Sw,X,s',G,h=>absurd (show bL=a8 from h) i7
theorem mO:∀(ss:List S) (X:Cx) (a:List LX),Gs ck Γ C d X->dn ck ss X.N X.env.scope a=a8->KZ X a (Kv C (LB ss) (execs Γ ss))
 |[],X,a,G,h=>by
  cases a with
  |nil=>show Hw
  |cons _ _=>simp[dn]at h
 |s::ss,X,a,G,h=>by
  cases a with
  |nil=>simp[dn]at h
  |cons s' a =>
   simp only[dn,bF]at h;have c:=Jv s X s' G h.1;have e:=mO ss X a G h.2;show Fq (PS.weak c λD σ H z=>pQ (λj b=>by simp only[LB,bF]at b;show b.1) z) (KZ.weak e λD σ H z=>pQ (λj b=>by simp only[LB,bF]at b;show b.2) z)
end
end
section
variable{ck:Ck}{Γ:Tab}{d:Nat}{P:tr}{w:ux}{K:PySem.W.Frag}{mg:Str->Option cK}{base:K2}
def j_{n i:Nat}(h:(start us n)[i]?=a5 (a5 (k,u))):us[i]?=a5 u/\k=if JW u=a8 then .loc else .any:=by
 unfold start at h;by_cases hi:i<us.length
 .rw[mh (by simpa using hi),n9]at h;rw[Sy hi]at h ⊢;simp only[Wg,T5,ã]at h;have(a,b):=h;subst b;show#[rfl,a.symm]
 .rw[k9 (by simp;lia),z8]at h;split at h<;>cases h
def eG{i:Nat}(h:vs[i]?=a5 v):(L2.start N vs)[i]?=a5 (a5 v):=by
 unfold L2.start;have hi:i<vs.length:=(cL.mp h).1;rw[mh (by simpa using hi),n9,h];rfl
def zI(p:∀a,c a->Lz H a)(h:av #[P,w,K,H,c,λ_=>False,q] c H us vs)(s:N.length=n):Ok ⟨P,w,K,H,c,λ_=>False,q⟩ ⟨λ_=>False,H,L2.start N vs,start us n,λ_=>[]⟩:=by
 have f:∀(j:Nat) (u:U),(start us n)[j]?≠a5 (a5 (.A',u)):=λj u e=>by
  have:=(j_ e).2;split at this<;>cases this
 show#[λa o e _=>e,λa z=>z.elim,λa z=>#[p a z,λz=>z],λa z=>z.elim,?_,λi k u e=>?_,λi j k k' u u' r hk x g m y A=>?_,#[λj u r e _=>(f j u e).elim,λi j a ⟨u,_,e,_⟩=>(f i u e).elim,λj a ⟨u,_,e,_⟩=>(f j u e).elim]]
 .have:=h.len;simp[start,L2.start,s];lia
 .have(g,m):=j_ e;have(v,ev,b):=h.get g;show#[v,eG ev,?_];subst m;by_cases l:JW u=a8
  .rw[Ŕ l];show Rep.JW l b
  .rw[ŕ l];show Rep.mv (.up λa z=>.inl z) b
 .have(_,t):=j_ g;subst t;split at hk<;>cases hk
def pX(h:bX Γ fn us=a5 (.ok (k,u))):us.length=fn.np/\((k=.own\/k=.loc\/k=.any)/\(∃st',execs Γ fn.body (start us fn.ns)=a5 (.ok (.rt k u),st'))\/(k=.loc/\u=.JN/\∃st',execs Γ fn.body (start us fn.ns)=a5 (.ok .nx,st'))):=by
 unfold bX at h;split at h
 .rename_i hl;show#[hl,?_];split at h
  .rename_i e;cases h;show .inl #[.inl rfl,_,e]
  .rename_i e;cases h;show .inl #[.inr (.inl rfl),_,e]
  .rename_i e;cases h;show .inl #[.inr (.inr rfl),_,e]
  .rename_i e;cases h;show .inr #[rfl,rfl,_,e]
  .cases h
  .cases h
 .cases h
def rq(h:bX Γ fn us=a5 (.exc c)):us.length=fn.np/\∃st',execs Γ fn.body (start us fn.ns)=a5 (.ok (.rt .io (.str c)),st'):=by
 unfold bX at h;split at h
 .rename_i hl;show#[hl,?_];split at h
  .cases h
  .cases h
  .cases h
  .cases h
  .rename_i e;cases h;show#[_,e]
  .cases h
 .cases h
def DB{st:LX}(F:N8 K fn.name i st f fd)(S:c9 N ps (aE st))(hN:N.length=fn.ns)(Mr:ps.length=fn.np)
  (Pz:dn ck fn.body N (aE st) (cu st)=a8) (t:∀x∈bQ,mg x=bD) (y:∀g∈ck.fns,CA P w K mg base d (Γ g) g)
  (MH:∀p∈ck.gl,∃val v,mg p.1=a5 val/\RelV v val/\∀(C:Ct) S H,Rep C S H p.2 v) (Lo:SU ck Γ P w K mg base d) (xs:Qr ck K mg):eO P w K mg base (LH P w) (d+1) f fd ps (spT P w K (bX Γ fn) fn.np):=by
 have(oc,od,kV,ac,pm,an,L,ct,NM,rfl,lk,JT):=F.ex;show ya lk JT S (λvs H Q E h=>h.1.trans Mr.symm) λA outer s H vs Q E O h=>?_;have(hl,us,r,q,Y,B,D,b):=h;have Nv:=O.un;let l:Ct:=#[P,w,K,H,q,λ_=>False,λu H'=>∃c,u=.str c/\∀j,PySem.W.nsIn K hQ c=a5 (a5 (.ref j))->E (.ref j) bD H']
 have J:(Pk P w K H q).Eqv l:=#[rfl,rfl,rfl]
 have m:l.Eqv (Pk P w K H q):=#[rfl,rfl,rfl]
 have G:Gs ck Γ l d (o_ (LH P w) P w K mg base N i (aE st) f L A outer s H E) :=
  #[#[rfl,rfl,rfl,by change(A.deeper (RX i (aE st) (~~~s) f L)).units+60<L';lia,rfl,O,t,y,λp hp=>let ⟨val,v,J,m,q3⟩:=MH p hp;⟨val,v,J,m,q3 _⟩,Lo],S.nd,λ_=>rfl,X',S.kind,xs,
   λc H' ⟨c',e1,hE⟩ j T H2 ab σ s2 e s' hm I F=>by
    cases e1;show F.leave I.ok.frames rfl I.stack I.jf λT' Ma F'=>#[e,j,T',H',rfl,F'.down I rfl rfl rfl,hE j hm],#[rfl,rfl]
   ,rfl
   ]
 show#[_,mO fn.body _ _ G Pz,#[λ_=>False,H,L2.start N vs,start us fn.ns,λ_=>[]],rfl,rfl,zI B (D.cg J) hN,?_];cases r with
 |exc c =>
  have(_,st',e):=rq Y;show#[_,st',e,λcf ec ok n kp=>#[c,rfl,λj hC=>b j cf.H hC λa o z=>ok.same a o z λz=>z]]
 |ok x =>
 have(k,u):=x;have(hk,b):=b;have(_,VN):=pX Y;have mk:∀(c:Cf),Ok l c->∀v,Ca l c k u v->Back (Pk P w K H q) H c.H c.S k u v:=λc ok v r=>by
  show#[λa o e=>ok.same a o e λz=>z,λa z=>ok.LJ a z,λe=>?_,λe=>?_,λe=>?_]
  .subst e;have(r0,e,h1,h2,h3,h4):=r;show#[r0,e,h1,h2,h4.cg m]
  .subst e;show Rep.cg m r
  .subst e;show Rep.cg m r
 rcases VN with⟨_,st',e⟩|⟨rfl,rfl,st',e⟩
 .rcases hk with rfl|rfl|rfl<;>show#[_,st',e,λc ec ok n kp v r=>b v c.H c.S (mk c ok v r)]
 .show#[_,st',e,λc ec ok n kp=>b .JN c.H c.S (mk c ok .JN rfl)]
def fQ(h:(bh p us n)[i]?=a5 (a5 (k,u))):us[i]?=a5 u/\k=if i=p then .A' else if JW u=a8 then .loc else .any:=by
 unfold bh at h;by_cases hi:i<us.length
 .rw[mh (by simpa using hi),n9,T8]at h;rw[Sy hi]at h ⊢;simp only[Wg,T5,ã,VM]at h;have(a,b):=h;subst b;show#[rfl,a.symm]
 .rw[k9 (by simp;lia),z8]at h;split at h<;>cases h
def bo.Xj{S:df->Prop}(q:C.Eqv b)(f:∀x,b.Lx x->C.Lx x)(g:C.H₀=b.H₀)(i:∀x,C.IO x->b.IO x)(h:bo C S H r as (.ob u us)):bo b S H r as (.ob u us):=by
 have(cl,j,v,a,vs,e,o):=h;show#[cl,j,v,a,vs,e,by rw[M8,<-q.K];show o.hc,o.ins,o.ne,λx c=>#[(o.fr x c).1,λz=>(o.fr x c).2.1 (f x z),(o.fr x c).2.2.imp (λz=>by rw[<-g];show z) (i x)],o.im,o.rep.cg q,o.lst,o.Pf,o.La.cg q]
def xj(q:f.Eqv C)(h:f.Lx=C.Lx)(B:f.H₀=C.H₀)(l:f.IO=C.IO)(a:FA f C.H₀ p r b us vs)(D:N.length=n):Ok C #[λ_=>False,C.H₀,L2.start N vs,bh p us n,λ_=>[b]]:=by
 have rt:∀(j:Nat) (k:Kd) (u:U),k.root=a8->(bh p us n)[j]?≠a5 (a5 (k,u)):=λj k u hk e=>by
  have:=(fQ e).2;subst this;split at hk
  .cases hk
  .split at hk<;>cases hk
 have m:∀(j:Nat) (u:U),(bh p us n)[j]?=a5 (a5 (.A',u))->j=p:=λj u e=>by
  have:=(fQ e).2;by_cases z:j=p
  .show z
  .rw[ŕ z]at this;split at this<;>cases this
 show#[λa o e _=>e,λa z=>z.elim,λx z=>by have:=a.par x (h▸z);show#[this.1,l▸this.2],λx z=>?_,?_,λi k u e=>?_,λi j k k' u u' r hk O s c Q T=>(rt i k u hk s).elim,#[λj u G e c=>?_,λi j x ⟨u,_,e,_⟩ ⟨u',_,H,_⟩=>(m i u e).trans (m j u' H).symm,λj x _ ⟨i,k,u,hk,e,_⟩=>rt i k u hk e]]
 .have I:=(a.ZS x).mp (l▸z);have(u,ws,_,t):=a.ob;have(o,ho,_):=bo.there t x (by simpa using I);show#[#[o,ho],o,ho]
 .have:=a.len;simp[bh,L2.start,D];lia
 .have(s,c):=fQ e;by_cases z:i=p
  .rw[Ŕ z]at c;subst c z;show#[_,eG a.at_,r,rfl]
  .rw[ŕ z]at c;have(v,b1,g):=a.any i u z s;have g:=g.cg q;show#[v,eG b1,?_];subst c;by_cases y:JW u=a8
   .rw[Ŕ y];show Rep.JW y g
   .rw[ŕ y];show Rep.mv (.up λa z=>.inl (h▸z)) g
 .have J:=m j u e;subst J;have A:(L2.start N vs)[j]?=a5 (a5 (.ref G)):=c;rw[eG a.at_]at A;cases A;have(w,ws,L,t):=a.ob;have:=(fQ e).1;rw[L]at this;cases this;show t.Xj q (λx z=>h▸z) B λx z=>l▸z
def vC(h:dP Γ fn p body us=a5 (.ok r)):us.length=fn.np/\∃f st k u o,execs Γ body (bh p us fn.ns)=a5 (.ok f,st)/\Rj f=a5 (k,u)/\Qk p st=a5 o/\r=(k,.tup [u,o]):=by
 unfold dP at h;split at h
 .rename_i hl;show#[hl.1,?_];split at h
  .rename_i f st e;cases a:Rj f with
   |none=>rw[a]at h;cases h
   |some c =>
    cases b:Qk p st with
    |none=>rw[a,b]at h;cases h
    |some o =>
     rw[a,b]at h;cases h;show#[f,st,c.1,c.2,o,e,a,b,rfl]
  .cases h
 .cases h
def FW{st:LX}(F:N8 K x j st f fd)(S:c9 N ps (aE st))(hN:N.length=fn.ns)(Mr:ps.length=fn.np)(KU:LB body p=a8)
  (Pz:dn ck body N (aE st) (cu st)=a8) (ab:∀x∈bQ,mg x=bD) (ac:∀g∈ck.fns,CA P w K mg base d (Γ g) g)
  (MH:∀p∈ck.gl,∃val v,mg p.1=a5 val/\RelV v val/\∀(C:Ct) S H,Rep C S H p.2 v) (Lo:SU ck Γ P w K mg base d) (xs:Qr ck K mg):eO P w K mg base (LH P w) (d+1) f fd ps (NC P w K (dP Γ fn p body) fn.np p):=by
 have(oc,od,kV,ap,pm,an,Ko,ct,NM,rfl,lk,JT):=F.ex;show ya lk JT S (λvs H Q E h=>h.1.trans Mr.symm) λA outer s H vs Q E hr h=>?_;have(hl,us,k,u,o,D,IO,r,a,Ka,J,b):=h;have Nv:=hr.un;let m:Ct:=#[P,w,K,H,D,IO,λu H'=>∃c,u=.str c/\∀t,PySem.W.nsIn K hQ c=a5 (a5 (.ref t))->E (.ref t) bD H']
 have q1:(MX P w K H D IO).Eqv m:=#[rfl,rfl,rfl]
 have L:m.Eqv (MX P w K H D IO):=#[rfl,rfl,rfl]
 have G:Gs ck Γ m d (o_ (LH P w) P w K mg base N j (aE st) f Ko A outer s H E) :=
  #[#[rfl,rfl,rfl,by change(A.deeper (RX j (aE st) (~~~s) f Ko)).units+60<L';lia,rfl,hr,ab,ac,λp hp=>let ⟨val,v,q1,L,q3⟩:=MH p hp;⟨val,v,q1,L,q3 _⟩,Lo],S.nd,λ_=>rfl,X',S.kind,xs,
   λc H' ⟨c',i,hE⟩ t T H2 am σ s2 e s' hm I F=>by
    cases i;show F.leave I.ok.frames rfl I.stack I.jf λT' Ma F'=>#[e,t,T',H',rfl,F'.down I rfl rfl rfl,hE t hm],#[rfl,rfl]
   ,rfl
   ]
 show#[_,mO body _ _ G Pz,#[λ_=>False,H,L2.start N vs,bh p us fn.ns,λ_=>[a]],rfl,rfl,xj (C:=m) q1 rfl rfl rfl J hN,?_];have(_,O,st',k',u',o',e,i,Y,e3):=vC Ka;cases e3;have B:∀(c:Cf),c.st=st'->Ok m c->Kept (LB body) #[λ_=>False,H,L2.start N vs,bh p us fn.ns,λ_=>[a]] c->∀(k:Kd) (u:U) v,(k=.own->Ca m c .own u v)->(k=.loc->Ca m c .loc u v)->rg (MX P w K H D IO) H c.H c.S r o k u v:=λc ec l kp k u v r1 r2=>by
  unfold Qk at Y;split at Y
  rotate_left
  .cases Y
  rename_i uw ws JI;cases Y;rw[<-ec]at JI;have(v0,y1,r',y2):=l.sl p _ _ JI;subst y2;have Xk:=y1;rw[kp.1 p KU,show(L2.start N vs)[p]?=a5 (a5 (.ref r)) from eG J.at_]at Xk;cases Xk;have rd:=l.dd.kd p _ _ JI y1;have(cl,dx,v1,a',MF,ea,ob):=rd;have al:bo (MX P w K H D IO) c.S c.H r [a'] (.ob uw ws):=bo.Xj L (λx z=>z) rfl (λx z=>z) ⟨cl,dx,v1,a',MF,rfl,ob⟩;show#[λx y z1 z2=>l.same x y z1 z2,λx y z1=>?_,λx z=>l.LJ x z,#[a',((ob.fr a' (by simp)).2.2).symm,al,λhk=>?_],λhk=>?_,λhk=>?_]
  .by_cases z:IO x
   .show(l.io x z).2
   .show#[y,l.same x y z1 z]
  .have(q,rfl,_,_,h3,_):=r1 hk;intro z;cases z;show h3 (.inr #[p,_,r,JI,y1,.inr (by rw[ea];simp)])
  .have(q,rfl,h1,h2,_,h4):=r1 hk;show#[q,rfl,h1,h2,h4.cg L]
  .show Rep.cg L (r2 hk)
 show#[O,st',e,λc ec l n kp=>?_];have B:=B c ec l kp;rcases b with⟨hk,b⟩|⟨rfl,c',rfl,b⟩
 .cases O with
  |nx=>cases i;show b .JN c.H c.S (B .loc .JN .JN (λz=>by cases z) λ_=>rfl)
  |rt k0 u0 =>
   cases k0 with
   |own=>cases i;show λv r=>b v c.H c.S (B .own _ v (λ_=>r) λz=>by cases z)
   |loc=>cases i;show λv r=>b v c.H c.S (B .loc _ v (λz=>by cases z) λ_=>r)
   |io =>
    cases u0 with
    |str x=>cases i;rcases hk with z|z<;>cases z
    |_=>cases i
   |any=>cases i
   |bor _=>cases i
   |A'=>cases i
  |_=>cases i
 .have z:Fl.rt .io (.str c')=O:=by
   cases O with
   |rt k0 u0 =>
    cases k0 with
    |io =>
     cases u0 with
     |str x=>cases i;rfl
     |_=>cases i
    |own=>cases i
    |loc=>cases i
    |any=>cases i
    |bor _=>cases i
    |A'=>cases i
   |_=>cases i
  subst z;show#[c',rfl,λt hC=>b t c.H c.S hC (B .io .JN .JN (λz=>by cases z) λz=>by cases z)]
abbrev Fn.bd(fn:Fn):List S:=match fn.ob with|some (_,b)=>b|none=>fn.body
abbrev SV(fn:Fn):Bool:=match fn.ob with|some (p,b)=>LB b p|none=>a8
structure Ld(ck:Ck)(K:PySem.W.Frag)(mg:Str->Option cK)(fn:Fn)(m:Str):Prop where
 ex:∃(x qual:Str) (st:LX) (f:df) (fd:QV) (N ps:List Str),N8 K x qual st f fd/\(m=""->x=fn.name/\mg fn.name=a5 (.ref f))/\(m≠""->∀cl,M8 K cl->Meth K cl m f)/\Binds K fd ps []/\c9 N ps (aE st)/\N.length=fn.ns/\ps.length=fn.np/\dn ck fn.bd N (aE st) (cu st)=a8/\SV fn=a8
def CI{Pg:List Fn}(a:(Pg.map (·.name)).Nodup)(h:fn∈Pg):Pg.find? (λg=>b7 (g.name=fn.name))=a5 fn:=by
 induction Pg with
 |nil=>cases h
 |cons g Pg b =>
  rw[d6,rr]at a;rcases d4.mp h with rfl|h
  .simp
  .rw[OQ];have:b7 (g.name=fn.name)=bL:=by
    apply Ŗ;intro z;show a.1 (z▸Rr h)
   rw[this];show b a.2 h
def ub(a:(Pg.map (·.name)).Nodup)(h:fn∈Pg):J9 Pg (d+1) fn.name=mr (J9 Pg d) fn:=by
 funext us
 change(match Pg.find? λg=>b7 (g.name=fn.name) with|some fn=>mr (J9 Pg d) fn us|none=>bD)=_;rw[CI a h]
def oE(h:fn.ob=bD)(a:fn.io=bD):mr Γ fn=bX Γ fn:=by funext us;unfold mr;rw[h,a]
def CJ(h:fn.ob=a5 (p,b)):mr Γ fn=dP Γ fn p b:=by funext us;unfold mr;rw[h]
abbrev Lq(ck:Ck)(Pg:List Fn)(K:PySem.W.Frag)(mg:Str->Option cK):Prop:=ck.Lo=[]
def vE(JV:(Pg.map (·.name)).Nodup)(M_:Lq ck Pg K mg)(t:∀x∈bQ,mg x=bD)(MH:∀p∈ck.gl,∃val v,mg p.1=a5 val/\RelV v val/\∀(C:Ct) S H,Rep C S H p.2 v)
  (ld:∀g∈ck.fns,∃fn∈Pg,fn.name=g/\fn.ob=bD/\fn.io=bD/\Ld ck K mg fn "") (lo:∀q∈ck.obs,∃fn∈Pg,fn.name=q.1/\(∃b,fn.ob=a5 (q.2.1,b))/\Ld ck K mg fn q.2.2) (sh:SS P w K mg base) (xs:Qr ck K mg):∀d,(∀g∈ck.fns,CA P w K mg base (d+2) (J9 Pg d g) g)/\SU ck (J9 Pg d) P w K mg base (d+2):=by
 intro d;induction d with
 |zero =>
  show#[λg T=>?_,λq Y=>?_,sh,ez _]
  .have(fn,B,rfl,D,J,l):=ld g T;have(x,a,st,f,i,N,ps,F,j,_,n,S,G,o,_):=l.ex;show#[fn.np,f,i,ps,#[λvs H Q E h=>h.1.trans o.symm,λA outer s H args us vs Q E _ _ _ _ h=>by have(_,us,r,_,e,_):=h;cases e],(j rfl).2,F.kp,n,λus k u e=>(by cases e),λus c e=>by cases e]
  .have(fn,B,e,_,l):=lo q Y;have(x,a,st,f,i,N,ps,F,j,Na,n,S,G,o,_):=l.ex;show#[fn.np,f,i,ps,#[λvs H Q E h=>h.1.trans o.symm,λA outer s H args us vs Q E _ _ _ _ h=>by have(_,us,k,u,_,_,_,_,_,e,_):=h;cases e],λz=>e▸(j z).2,F.kp,Na,n,λus k e=>by cases e]
 |succ d L =>
  show#[λg T=>?_,λq Y=>?_,sh,⋯]
  .have(fn,B,rfl,D,J,l):=ld g T;have(x,a,st,f,i,N,ps,F,j,_,n,S,G,o,I,_):=l.ex;have(rfl,ab):=j rfl;rw[ub JV B,oE D J];rw[show fn.bd=fn.body by unfold Fn.bd;rw[D]]at I;show#[fn.np,f,i,ps,DB F S G o I t L.1 MH L.2 xs,ab,F.kp,n,λus k u e=>?_,λus c e=>(rq e).1];have(D,J):=pX e;show#[?_,D];rcases J with⟨z,_⟩|⟨z,_⟩
   .show z
   .show .inr (.inl z)
  .have(fn,B,e,(b,O),l):=lo q Y;have(y,p,m):=q
   dsimp only at e O l
   subst e;have(x,a,st,f,i,N,ps,F,j,Na,n,S,G,o,I,hB):=l.ex;rw[ub JV B,CJ O];rw[show fn.bd=b by unfold Fn.bd;rw[O]]at I;unfold SV at hB;rw[O]at hB;show#[fn.np,f,i,ps,FW F S G o hB I t L.1 MH L.2 xs,λz=>(j z).2,F.kp,Na,n,λus r e=>(vC e).1]
end
abbrev zJ(ns:List Int):U:=.lst (ns.map .int)
theorem oF{S:df->Prop}:∀(ns:List Int),av C S H (ns.map .int) (ns.map V.int)
 |[]=>rfl
 |n::ns=>#[_,_,rfl,rfl,oF ns]
def uc(h:Kh C.K H a (ns.map V.int)):Rep C (Lz H) H (zJ ns) (.ref a):=by
 show#[a,_,rfl,?_,oF ns];rcases h with(h|⟨o,h⟩)|h
 .show .inl #[#[_,h],.inl h]
 .show .inl #[#[_,h],.inr #[o,h]]
 .show .inr h
theorem rA:∀{l:List α},(∀a∈l,f a=g a)->l.filterMap f=l.filterMap g
 |[],_=>rfl
 |a::l,h=>by rw[Hf,Hf,h a (by simp),rA λb c=>h b (by simp[c])]
theorem vF:∀(l:List Str) (us:List cK),l.Nodup->us.length=l.length->l.filterMap (λn=>((l.zip us).lookup n).map (n,·))=l.zip us
 |[],_,_,_=>rfl
 |a::l,[],_,h=>nomatch h
 |a::l,u::us,b,h=>by
  rw[rr]at b;have c:=vF l us b.2 (by simpa using h);simp only[UR,Hf,mx,beq_self_eq_true,Wg];congr 1
  conv=>rhs;rw[<-c]
  show rA λn d=>?_;have:(n==a)=bL:=by
   rw[Ř];rintro rfl;show b.1 d
  rw[this]
def zK(l:List Str)(us:List cK)(h:us.length=l.length):l.filter (λn=>((l.zip us).lookup n).isNone)=[]:=by
 rw[LS];intro n hn;induction l generalizing us with
 |nil=>cases hn
 |cons a l b =>
  cases us with
  |nil=>cases h
  |cons u us =>
   simp only[UR,mx];cases e:n==a with
   |true=>simp
   |false =>
    rcases d4.mp hn with rfl|hn
    .simp at e
    .show b us (by simpa using h) hn
def zL{kV a b c ct:cK}(d:(as.map (·.arg)).Nodup)(hl:us.length=(as.map (·.arg)).length):
  ņ (PySem.W.fnOf x q #[[],as,bD,[],[],bD,[]] body scope .none kV a b m c ct) #[us,[]]=pure ((as.map (·.arg)).zip us):=by
 have e:=vF _ us d hl;have f:=zK _ us hl;change(if _ then _ else _)=_;rw[ŕ (by simp[hl])];have g:∀k:Nat,¬(!(((as.map (·.arg)).take k).filter λn=>(((as.map (·.arg)).zip us).lookup n).isNone).isEmpty)=a8:=λk=>by
  rw[LS.mpr λn h=>LS.mp f n (Q5 h)];show i7
 show(ŕ (g _)).trans ?_;have hz:∀(l:List Str) (i j:Nat),(l.drop i).zip ((bD.getD #v[]:Array cK).toList.drop j)=[]:=λl i j=>by rw[show(bD.getD #v[]:Array cK).toList=[] from rfl,List.drop_nil,List.zip_nil_right]
 show Eq.trans (Ś (λz=>Bind.bind (forIn z _ _) _) (hz _ _ _)) ?_;show Ś (pure:List (Str×cK)->Sem (List (Str×cK))) ((Ś (List.filterMap _) (oD _)).trans e)
abbrev pY(v:Option (Option cK))(a:df):Bool:=match v with|some (a5 (.ref b))=>b7 (b=a)|_=>bL
def ly(h:pY v a=a8):v=a5 (a5 (.ref a)):=by
 unfold pY at h;split at h
 .rw[ř h]
 .cases h
abbrev nn(o:Option (Option cK)):Bool:=match o with|some bD=>a8|_=>bL
def vH(h:nn o=a8):o=a5 bD:=by
 unfold nn at h;split at h
 .rfl
 .cases h
abbrev HX(p:Arguments)(ps:List Str):Bool:=p.posonlyargs.isEmpty&&p.vararg.isNone&&p.kwonlyargs.isEmpty&&p.kw_defaults.isEmpty&&p.kwarg.isNone&&p.defaults.isEmpty&&b7 (p.args.map (·.arg)=ps)
abbrev Xl(N:List Str)(b:Nat)(a:Lg):Bool:=b7 (a.kind=.function)&&b7 (a.isCoroutine=bL)&&b7 (a.isGenerator=bL)&&decide N.Nodup&&(N.take b).all (mD a)&&a.names.all (λy=>b7 (y.2≠.free))
abbrev SW(K:PySem.W.Frag):Option df:=match PySem.W.nsIn K hQ "Shelf" with|some (a5 (.ref C))=>a5 C|_=>bD
abbrev Kf(K:PySem.W.Frag)(C:df)(x:Str)(a:df):Bool:=pY (PySem.W.findIn K (.ref C) x) a&&PySem.W.isFn K (.ref a)
abbrev SX(K:PySem.W.Frag)(x:Str)(a:df):Bool:=match SW K with|some C=>Kf K C x a|none=>bL
abbrev Xm(ck:Ck)(top:Nat->LX)(K:PySem.W.Frag)(m:Me):Bool:=PySem.W.codeIn K (.ref m.c) m.fn.name&&PySem.W.keepIn K (.ref m.a)&&(if m.x=m.fn.name then pY (PySem.W.nsIn K hQ m.fn.name) m.a else SX K m.x m.a)&&HX (hU (top m.i)) (m.N.take m.fn.np) &&
 Xl m.N m.fn.np (aE (top m.i))&&b7 (m.N.length=m.fn.ns)&&b7 (m.fn.np<=m.fn.ns)&&(dn ck m.fn.bd m.N (aE (top m.i)) (cu (top m.i))&&SV m.fn)
abbrev Xn(K:PySem.W.Frag)(p:Str×U):Bool:=match p.2,PySem.W.nsIn K hQ p.1 with
 |.int i,a5 (a5 (.int j _))=>b7 (i=j)
 |.str i,a5 (a5 (.str j _))=>b7 (i=j)
 |_,_=>bL
abbrev ND(ck:Ck)(top:Nat->LX)(K:PySem.W.Frag)(ms:List Me):Bool:=ms.all (Xm ck top K)&&bQ.all (λy=>nn (PySem.W.nsIn K hQ y))&&ck.gl.all (Xn K)&&b7 (K.map (·.1)).Nodup
def HY{K:PySem.W.Frag}(b:(K.map (·.1)).Nodup)(h:(a,o)∈K):K.lookup a=a5 o:=by
 induction K with
 |nil=>cases h
 |cons p K c =>
  rw[d6,rr]at b;rw[mx];rcases d4.mp h with rfl|h
  .simp
  .have:(a==p.1)=bL:=by
    rw[Ř];rintro rfl;show b.1 (ku.mpr #[_,h,rfl])
   rw[this];show c b.2 h
section
def zM(c:ND ck top (Kz top g ms) ms=a8)(h:m∈ms):N8 (Kz top g ms) m.x m.fn.name (top m.i) m.a (m.fd top)/\(if m.x=m.fn.name then pY (PySem.W.nsIn (Kz top g ms) hQ m.fn.name) m.a else SX (Kz top g ms) m.x m.a)=a8 /\
  (∀us:List cK,us.length=(m.N.take m.fn.np).length->ņ (m.fd top) #[us,[]]=pure ((m.N.take m.fn.np).zip us))/\c9 m.N (m.N.take m.fn.np) (aE (top m.i))/\m.N.length=m.fn.ns/\(m.N.take m.fn.np).length=m.fn.np/\(dn ck m.fn.bd m.N (aE (top m.i)) (cu (top m.i))=a8/\SV m.fn=a8):=by
 simp only[ND,bF,œ]at c;have z:=i8.mp c.1.1.1 m h;simp only[Xm,bF,œ]at z;obtain⟨⟨⟨⟨⟨⟨⟨j,k⟩,l⟩,b⟩,d⟩,n⟩,u⟩,o⟩:=z;simp only[Xl,bF,œ]at d;obtain⟨⟨⟨⟨⟨s1,s2⟩,s3⟩,s4⟩,p⟩,q⟩:=d;have r:(Kz top g ms).lookup m.a=a5 (m.fo top):=HY c.2 (d4.mpr (.inr (Po _ (List.mem_flatMap.mpr #[m,h,by simp]))));have hl:(m.N.take m.fn.np).length=m.fn.np:=by rw[my];lia
 show#[Ew r j k,l,λus f=>?_,#[s1,s2,s3,s4,by rw[hl],λx s=>?_,λy t=>?_],n,hl,o]
 .unfold Me.fd;revert b;cases hU (top m.i) with
  |mk v as w A B C D =>
   intro b;simp only[HX,bF,sP,RU,œ]at b;obtain⟨⟨⟨⟨⟨⟨rfl,rfl⟩,rfl⟩,rfl⟩,rfl⟩,rfl⟩,e⟩:=b;rw[<-e]at f ⊢;show zL (by rw[e];show(Vm _ _).nodup s4) f
 .have:=i8.mp p x s;simpa[mD] using this
 .have:=i8.mp q y t;simpa using this
abbrev VP(ck:Ck)(ms:List Me):Bool:=ck.fns.all (λg=>ms.any λm=>b7 (m.fn.name=g)&&b7 (m.x=g)&&m.fn.ob.isNone&&m.fn.io.isNone) &&
 ck.obs.all (λq=>ms.any λm=>b7 (m.fn.name=q.1)&&b7 (m.fn.ob.map (·.1)=a5 q.2.1)&&(if q.2.2="" then b7 (m.x=m.fn.name) else b7 (m.x=q.2.2)&&b7 (m.x≠m.fn.name)))
 && ck.Lo.isEmpty
def DC{h:K2}{mg:Str->Option cK}(j:ND ck top (Kz top g ms) ms=a8)(X:(Kz top g ms).In h)(G:h.Ns hQ mg){m:Me}(hi:m∈ms){n:Str}(i:if n="" then m.x=m.fn.name else m.x=n/\m.x≠m.fn.name):Ld ck (Kz top g ms) mg m.fn n:=by
 have(a,b,c,d,e,f,k):=zM j hi;show#[_,_,_,_,_,_,_,a,λz=>?_,λz cl l=>?_,.all c,d,e,f,k]
 .rw[Ŕ z]at i;rw[Ŕ i]at b;show#[i,PySem.W.mg_of X G (ly b)]
 .rw[ŕ z]at i;rw[ŕ i.2]at b;unfold SX SW at b;rw[show PySem.W.nsIn (Kz top g ms) hQ "Shelf"=_ from l]at b;simp only[Kf,bF]at b;rw[<-i.1];show#[ly b.1,b.2,a.kp]
def zN(i:ND ck top (Kz top g ms) ms=a8)(j:VP ck ms=a8)(X:(Kz top g ms).In h)(G:h.Ns hQ mg):(∀g'∈ck.fns,∃fn∈ms.map (·.fn),fn.name=g'/\fn.ob=bD/\fn.io=bD/\Ld ck (Kz top g ms) mg fn "")/\(∀q∈ck.obs,∃fn∈ms.map (·.fn),fn.name=q.1/\(∃b,fn.ob=a5 (q.2.1,b))/\Ld ck (Kz top g ms) mg fn q.2.2)/\Lq ck (ms.map (·.fn)) (Kz top g ms) mg:=by
 simp only[VP,bF,i8,NI,œ,sP,RU]at j;have((k,l),n):=j;show#[λg' o=>?_,λq p=>?_,n]
 .obtain⟨m,c,⟨⟨f,a⟩,d⟩,r⟩:=k g' o;show#[m.fn,Rr c,f,d,r,DC i X G c (by rw[Ŕ rfl,f,a])]
 .have(m,c,(f,a),d):=l q p;show#[m.fn,Rr c,f,?_,DC i X G c ?_]
  .cases e:m.fn.ob with
   |none=>rw[e]at a;cases a
   |some s=>rw[e]at a;show#[s.2,by rw[<-ti a]]
  .split at d
   .rename_i z;rw[Ŕ z];simpa using d
   .rename_i z;rw[ŕ z];simpa using d
abbrev SY(top:Nat->LX)(K:PySem.W.Frag)(ms:List Me):Bool:=match SW K with
 |none=>bL
 |some C=>PySem.W.plainGet K C sx&&PySem.W.hasDictIn K C&&PySem.W.plainOver K C&&(PySem.W.findIn K (.ref C) "__setattr__"==a5 (a5 (.builtin "object.__setattr__")))&&nn (PySem.W.findIn K (.ref C) "rows")&&nn (PySem.W.findIn K (.ref C) "earlier")&&PySem.W.makesIn K C&&PySem.W.keepIn K (.ref C) &&
  ms.any λm=>b7 (m.x="__init__")&&b7 (m.x≠m.fn.name)&&b7 (m.fn.np=1)&&b7 (m.N=(["self"]:List Str))&&Vx (cu (top m.i))&&iD (aE (top m.i)) "self"
def FX(i:ND ck top (Kz top g ms) ms=a8)(hs:SY top (Kz top g ms) ms=a8)(X:(Kz top g ms).In h)(G:h.Ns hQ mg):SS P w (Kz top g ms) mg base:=by
 unfold SY at hs;split at hs
 .cases hs
 .rename_i C c;have d:M8 (Kz top g ms) C:=by
   unfold SW at c;split at c
   .rename_i e;cases c;show e
   .cases c
  simp only[bF,NI,œ]at hs;obtain⟨⟨⟨⟨⟨⟨⟨⟨j,l⟩,n⟩,o⟩,p⟩,q⟩,r⟩,s⟩,m,t,⟨⟨⟨⟨⟨b1,u⟩,b3⟩,b4⟩,v⟩,x⟩⟩:=hs;have(F,b,f,S,_,_,_):=zM i t;rw[ŕ u]at b;unfold SX at b;rw[c]at b;simp only[Kf,bF]at b;rw[b3,b4]at f S;rw[b1]at F b;have K:Mp (Kz top g ms) C:=#[d,#[j,l,n,beq_iff_eq.mp o],vH p,vH q]
  show#[C,m.a,m.fd top,K,#[r,ly b.1,b.2,s],Cq (k:=0) F S v (cJ x) K,.all f,PySem.W.mg_of X G d]
def FY(c:ND ck top (Kz top g ms) ms=a8)(X:(Kz top g ms).In h)(G:h.Ns hQ mg):∀p∈ck.gl,∃val v,mg p.1=a5 val/\RelV v val/\∀(C:Ct) S H,Rep C S H p.2 v:=by
 intro p d;simp only[ND,bF,œ]at c;have z:=i8.mp c.1.2 p d;unfold Xn at z;split at z
 .rename_i i j k a b;obtain rfl:=ř z;show#[_,.int i,PySem.W.mg_of X G b,#[_,rfl],λ_ _ _=>by rw[a];rfl]
 .rename_i i j k a b;obtain rfl:=ř z;show#[_,.str i,PySem.W.mg_of X G b,#[_,rfl],λ_ _ _=>by rw[a];rfl]
 .cases z
end
abbrev gX(ck:Ck)(K:PySem.W.Frag):Bool:=ck.xc.all (λx=>match PySem.W.nsIn K hQ x with|some (a5 (.ref C))=>PySem.W.excIn K C Qb "ValueError.__new__"|_=>bL)&&ck.xd.all λp=>match PySem.W.nsIn K hQ p.1,PySem.W.nsIn K hQ p.2 with
 |some (a5 (.ref C)),a5 (a5 (.ref D))=>PySem.W.exmOne K (.ref C) (.ref D)==a5 a8
 |_,_=>bL
abbrev FZ(K:PySem.W.Frag)(x:Str):Option df:=match PySem.W.nsIn K hQ x with|some (a5 (.ref C))=>a5 C|_=>bD
abbrev Xp(K:PySem.W.Frag)(D:Str):Option cK:=match PySem.W.nsIn K hQ D with|some (a5 (.ref C))=>a5 (.ref C)|some bD=>if D="ValueError" then a5 (.type "ValueError") else bD|_=>bD
abbrev gY(ck:Ck)(K:PySem.W.Frag):Bool:=ck.xi.all (λp=>match FZ K p.1,Xp K p.2.1 with|some C,a5 a=>f9 K C&&(PySem.W.kitOne K (.ref C) a==a5 p.2.2)|_,_=>bL)
def xm{K:PySem.W.Frag}(h:FZ K x=a5 C):PySem.W.nsIn K hQ x=a5 (a5 (.ref C)):=by
 unfold FZ at h;split at h
 .rename_i e;cases h;show e
 .cases h
def HZ{K:PySem.W.Frag}(z:gY ck K=a8)(X:K.In h)(G:h.Ns hQ mg):zu ck K mg:=by
 intro D g;rw[gY,i8]at z;have(i,c,rfl):=g;have f:=z i c;split at f
 .rename_i o j q a;show#[j,?_,λp k e C l=>?_]
  .unfold Xp at a;split at a
   .rename_i e;cases a;show .inl #[_,rfl,PySem.W.mg_of X G e]
   .rename_i e;split at a
    .rename_i d;cases a;show .inr #[d,rfl,PySem.W.mg_none_of X G e]
    .cases a
   .cases a
  .have b:=z p k;rw[e,a]at b;split at b
   .rename_i r m d n;cases n;have:=xm d;rw[l]at this;cases this;rw[bF,beq_iff_eq]at b;show b
   .cases b
 .cases f
abbrev zO:List S->List (List Str)->Bool
 |[.knd a],b=>b7 (a=b)
 |_,_=>bL
def ud(h:zO b a=a8):b=[.knd a]:=by
 unfold zO at h;split at h
 .rw[ř h]
 .cases h
abbrev VQ(ck:Ck)(Pg:List Fn):Bool:=ck.xk.all λq=>b7 (q.1∈ck.fns)&&Pg.all λfn=>!b7 (fn.name=q.1)||zO fn.bd q.2&&b7 (fn.np=1)
def DE(n:zu ck X.K X.mg)(h:j9 X.env.scope [e] [D]=a8)(a:(c,D,b)∈ck.xi):∃p i d,e=.Name D p/\PE X (.Name D p) (tC i)/\(∀u,RelV i u->u=d)/\∀Cc,PySem.W.nsIn X.K hQ c=a5 (a5 (.ref Cc))->f9 X.K Cc=a8/\PySem.W.kitOne X.K (.ref Cc) d=a5 b:=by
 simp only[j9,bF]at h;obtain⟨⟨⟨o,j⟩,q⟩,_⟩:=h;have(p,rfl):=fy o;have(d,r,k):=n D #[_,a,rfl];rcases r with⟨l,rfl,f⟩|⟨rfl,rfl,f⟩
 .show#[p,.ref l,_,rfl,λm s σ H Q I z=>eQ I (dg j) f #[.ref l,H,I,rfl,z] (aC q).1,λu z=>z,λCc g=>k _ a rfl Cc g]
 .show#[p,.ty "ValueError",_,rfl,A5 (dg j) f (show vl "ValueError"=a5 (.type "ValueError") by decide +kernel) rfl (by decide +kernel) (by decide +kernel),λu z=>z,λCc g=>k _ a rfl Cc g]
theorem zP(a:zu ck X.K X.mg):∀{es:List lx}{G:List Str},j9 X.env.scope es G=a8->(∀D∈G,(c,D,bL)∈ck.xi)->(∃ds,l_ X c es ds)/\es.length=G.length
 |[],[],_,_=>#[#[[],.nil],rfl]
 |[],_::_,h,_=>by simp[j9]at h
 |_::_,[],h,_=>by simp[j9]at h
 |e::es,D::G,h,b=>by
  have d:j9 X.env.scope [e] [D]=a8:=by
   simp only[j9,bF]at h ⊢;show#[h.1,trivial]
  have f:j9 X.env.scope es G=a8:=by
   simp only[j9,bF]at h;show h.2
  have(p,j,k,rfl,k1,k2,k3):=DE a d (b D gs);have((ds,g),k5):=zP a f λD i=>b D (fx _ i);show#[#[_,.cons k1 k2 k3 g],by simp[k5]]
theorem zQ(hi:X.N[0]?=a5 n)(g:KA X.env.scope n)(i:(n==("__debug__":Str))=bL)(j:(n==("__classdict__":Str))=bL)(k:Gl X "isinstance")(m:X.mg "isinstance"=bD)(o:zu ck X.K X.mg):
  ∀{es:List lx} {d:List (List Str)} {bs:List Bool},Qs X.env.scope n es d=a8->d.length=bs.length->(∀r∈d.zip bs,SR ck.xi c r.1 r.2)->PA X es (yF X.K 0 c bs)
 |[],[],[],_,_,_=>c8
 |[],[],_::_,_,h,_=>by simp at h
 |[],_::_,_,h,_,_=>by simp[Qs]at h
 |_::_,[],_,h,_,_=>by simp[Qs]at h
 |_::_,_::_,[],_,h,_=>by simp at h
 |e::es,G::d,b::bs,h,hl,s=>by
  simp only[Qs,bF]at h;have(v,w):=h;have a:=zQ hi g i j k m o w (by simpa using hl) λr A=>s r (fx _ A);have(as,p,p3,rfl,B):=ig (show w9 e "isinstance" _=a8 from v);have(x,y,rfl,f):=mF B;rw[bF]at f;have(p1,rfl):=fy f.1;have C:SR ck.xi c G b:=s (G,b) gs;rcases C with⟨D,rfl,q⟩|⟨rfl,Mz,q⟩
  .have(p2,J,L,rfl,k1,k2,k3):=DE o (show j9 X.env.scope [y] [D]=a8 from f.2) q;show bM (EV hi g i j k m k1 k2 k3) a rfl
  .have t:=f.2;rw[ŕ ⋯]at t;have(l,O,p2,rfl,u):=iY t;rw[bF,œ]at u;have((H,I),k5):=zP o u.1 q;show bM (EW hi g i j k m I (λz=>by rw[z]at k5;simp at k5;lia) ⋯) a rfl
def F0{K:PySem.W.Frag}(hk:VQ ck Pg=a8)(d:∀x∈bQ,mg x=bD)(ld:∀g∈ck.fns,∃fn∈Pg,fn.name=g/\fn.ob=bD/\fn.io=bD/\Ld ck K mg fn "")(o:zu ck K mg):VI ck K mg:=by
 intro q r c bs hl t;unfold VQ at hk;have h:=i8.mp hk q r;rw[bF,œ]at h;have(fn,y,i,_,_,l):=ld _ h.1;have h:=i8.mp h.2 fn y;rw[ŗ i,Bool.not_true,Ē,bF,œ]at h;have(z,B):=h;have(x,b,st,f,C,N,ps,F,D,_,G,S,hN,I,a,_):=l.ex;have(rfl,J):=D rfl;rw[ud z]at a;show#[f,C,ps,λP w base=>?_,i▸J,F.kp,G];have hsz:(1000:Nat)<=b6:=by decide
 have(oc,od,kV,L,pm,an,O,ct,NM,rfl,lk,T):=F.ex;show ET lk T S (λvs H Q E ⟨_,_,_,_,e,_⟩=>by rw[e,I,B];rfl) λA outer s H vs Q E hr Y=>?_;have(ea,oe,u,Cc,e,g2,g3,g4,gq):=Y;subst e;cases j:cu st with
 |nil=>rw[j]at a;simp[dn]at a
 |cons s1 ss =>
  rw[j]at a;cases ss with
  |cons _ _=>simp[dn]at a
  |nil =>
   simp only[dn,bF]at a;have a:Xh N (aE st) q.2 s1=a8:=a.1;cases N with
   |nil=>cases a
   |cons n N =>
    have(v,p,rfl,z1):=mJ (show rp s1 _=a8 from a);have(v',rfl,z2):=oC z1;have(es,p',rfl,k):=xg z2;simp only[bF,œ]at k;obtain⟨⟨⟨⟨y1,m⟩,y3⟩,y4⟩,y5⟩:=k;show#[_,gw (xT (sE (zQ (X:=Qd (LH P w) P w K mg base (n::N) b (aE st) f O A outer s H E) rfl (cJ y1) (aC m).1 (aC m).2 (dg y3) (d _ zv) o y5 hl t))) ll,?_];show qU (ea:=ea) (oe:=oe) (u:=u) (Cc:=Cc) rfl g3 g4 bs H _ g2 λH' sm=>#[by rw[b8,<-hl];lia,λp hp=>gq H' p sm hp]
def F5{K:PySem.W.Frag}(z:gX ck K=a8)(X:K.In h)(G:h.Ns hQ mg)(a:VI ck K mg):Qr ck K mg:=by
 rw[gX,bF,i8,i8]at z;show#[λx c=>?_,λp d=>?_,a]
 .have:=z.1 x c;split at this
  .rename_i e;show#[_,PySem.W.mg_of X G e,e,this]
  .cases this
 .have:=z.2 p d;split at this
  .rename_i b f;show#[_,_,PySem.W.mg_of X G b,b,PySem.W.mg_of X G f,beq_iff_eq.mp this]
  .cases this
def walk{l:PySem.W.OpenLaw}{K:U0->PySem.W.Frag}
  (A:l.most=a5 63) (B:d.params.defaults=[]) (D:cF (dp+3) Ug) (I:∀(w:ux) (h:K2),J w h->(K w.params).In h)
  (j:(Pg.map (·.name)).Nodup) (L:fn.ob=bD) (O:fn.io=bD) (Q:fn∈Pg) (NF:fn.name=d.name)
  (F:∀(w:ux) (mg:Str->Option cK) (fa:df) (h:K2),(K w.params).In h->h.Ns hQ mg->mg d.name=a5 (.ref fa) ->
   (∀y∈bQ,mg y=bD)/\(∀p∈ck.gl,∃val v,mg p.1=a5 val/\RelV v val/\∀(C:Ct) S H,Rep C S H p.2 v)/\((∀g∈ck.fns,∃fn∈Pg,fn.name=g/\fn.ob=bD/\fn.io=bD/\Ld ck (K w.params) mg fn "")/\(∀q∈ck.obs,∃fn∈Pg,fn.name=q.1/\(∃b,fn.ob=a5 (q.2.1,b))/\Ld ck (K w.params) mg fn q.2.2)/\Lq ck Pg (K w.params) mg)/\(∀base,SS l.prog w (K w.params) mg base)/\Qr ck (K w.params) mg /\
   ∃(c:Str) (st:LX) (i:QV) (N:List Str),N8 (K w.params) fn.name c st fa i/\c9 N [x] (aE st)/\N.length=fn.ns/\1=fn.np/\dn ck fn.body N (aE st) (cu st)=a8/\∀(s:dt) (u:cK),Ya s i #[[u],[]] [(x,u)])
  (T:∀ns:List Int,ns.length<=63->J9 Pg (dp+1) fn.name [zJ ns]=a5 (.ok (.loc,.bl a8))) :
  PySem.W.WalkO q m XP J l.row.toRowW d [] (λf vs=>PySem.call f vs) :=
 L2.Bn (n:=63) (k:=dp+3) (x:=x) (CX:=λw=>LH l.prog w) (sp:=λw=>spT l.prog w (K w.params) (bX (J9 Pg dp) fn) fn.np) A (by decide) B D I
  (λw mg fa h Y G O4=>by
   have(e,o,(ld,lo,hi),r,xs,c,st,i,N,F1,S,hN,Mr,hc,hb):=F w mg fa h Y G O4;show#[i,hb,λbase _ _=>DB F1 S hN Mr hc e (vE j hi e o ld lo (r base) xs dp).1 o (vE j hi e o ld lo (r base) xs dp).2 xs])
  (λw H a ns hl _ hS=>by
   have t:=T ns hl;rw[ub j Q,oE L O]at t;have Mq:fn.np=1:=(pX t).1.symm;show#[Mq.symm,[zJ ns],.ok (.loc,.bl a8),Lz H,t,λ_ z=>z,#[_,_,rfl,uc hS,rfl],.inr (.inl rfl),λv H' S' b=>b.loc rfl])
  λ_ _ _ _ _ ⟨_,_,_,_,_,_,z⟩=>z
def walk2{l:PySem.W.OpenLaw}{g:U0->Gx}
  (C:l.most=a5 63) (D:d.params.defaults=[]) (H:cF (dp+3) Ug) (i:ms.map (·.fn)=Pg) (I:(Pg.map (·.name)).Nodup) (p:VP ck ms=a8) (r:m.fn.ob=bD) (J:m.fn.io=bD) (t:m∈ms) (v:m.fn.name=d.name) (z:m.x=m.fn.name) (L:m.N.take m.fn.np=[x])
  (ok:∀P,ND ck top (Kz top (g P) ms) ms=a8) (O:VQ ck Pg=a8) (Q:∀P,((gX ck (Kz top (g P) ms)&&gY ck (Kz top (g P) ms))&&SY top (Kz top (g P) ms) ms)=a8) (S3:∀P,(g P).2.map (·.1)=xa) (T:∀ns:List Int,ns.length<=63->J9 Pg (dp+1) m.fn.name [zJ ns]=a5 (.ok (.loc,.bl a8))) :
  PySem.W.WalkO q j XP (PySem.W.kHook (λP=>Kz top (g P) ms) (adr ms xa) λP=>vG top (g P) ms xa (S3 P)).says l.row.toRowW d [] (λf vs=>PySem.call f vs) :=
 walk C D H (λw h Y=>PySem.W.kIn_of Y) I r J (i▸ku.mpr #[m,t,rfl]) v (λw mg fa h X G A=>by
  have hk:=ok w.params;have hz:=rl.mp (Q w.params);have(a,b,c,e,f,k,n):=zM hk t;rw[Ŕ z]at b;rw[<-v,PySem.W.mg_of X G (ly b)]at A;cases A;rw[L]at c e k;rw[z]at a;show#[λy o=>PySem.W.mg_none_of X G (vH ?_),FY hk X G,i▸zN hk p X G,λbase=>FX hk hz.2 X G,F5 (rl.mp hz.1).1 X G (F0 O (λy o=>PySem.W.mg_none_of X G (vH (by have B:=hk;simp only[ND,bF]at B;show i8.mp B.1.1.2 y o))) (i▸zN hk p X G).1 (HZ (rl.mp hz.1).2 X G)),_,_,_,_,a,e,f,k,by have:=n.1;rw[show m.fn.bd=m.fn.body by unfold Fn.bd;rw[r]]at this;show this,λs u=>.of_eq (c [u] rfl)];simp only[ND,bF]at hk;show i8.mp hk.1.1.2 y o) T
end TM
namespace TM
open PySem L2
section
abbrev Run(m:M α)(st:aw)(a:α)(st':aw):Prop:=m st=a5 (.ok a,st')
def ae(c:Run m st a st1)(d:Run (f a) st1 b st2):Run (m >>= f) st b st2:=by
 change M.bind m f st=_;unfold M.bind;rw[show m st=_ from c];show d
def aM:Run (pure a:M α) st a st:=rfl
def dq(h:o=a5 a):Run (M.Kb o) st a st:=by subst h;rfl
def aZ(h:a_ rs st):Run (aA rs) st () st:=by change aA rs st=_;unfold aA;rw[Ŕ h]
abbrev kv(i:Nat)(k:Kd):Kd:=if k.root=a8 then .bor i else k
def iL(h:st[i]?=a5 (a5 (k,u)))(hk:k≠.A':=by intro z;cases z):Run (dW i) st (kv i k,u) st:=by
 change dW i st=_;unfold dW;rw[h];cases k<;>first|rfl|show absurd rfl hk
def ah(h:st[i]?=a5 (a5 (.loc,u))):Run (ev Γ (.var i)) st (.loc,u) st:=iL h
def au(h:st[i]?=a5 (a5 (.any,u))):Run (ev Γ (.var i)) st (.any,u) st:=iL h
def ax(h:st[i]?=a5 (a5 (.own,u))):Run (ev Γ (.var i)) st (.bor i,u) st:=iL h
def ai:Run (ev Γ (.cst u)) st (.loc,u) st:=rfl
def mP:Run (ev Γ (.Mc x u)) st (.loc,u) st:=rfl
def bb(c:Run (ev Γ a) st x st1)(d:Run (ev Γ b) st1 y st2)(e:a_ [x,y] st2)(f:LO op x y=a5 r):Run (ev Γ (.bin op a b)) st r st2 :=
 ae c (ae d (ae (aZ e) (dq f)))
def f_(d:Run (ev Γ a) st x st1)(e:Run (ev Γ b) st1 y st2)(f:a_ [x,y] st2)(g:bK op x.2 y.2=a5 c):Run (ev Γ (.cmp op a b)) st (.loc,.bl c) st2 :=
 ae d (ae e (ae (aZ f) (ae (dq g) aM)))
def aQ(c:Run (ev Γ a) st x st1)(d:Run (ev Γ b) st1 y st2)(e:a_ [x,y] st2)(f:iV x y.2=a5 r):Run (ev Γ (.idx a b)) st r st2 :=
 ae c (ae d (ae (aZ e) (dq f)))
def gQ:Run (Pj Γ []) st bD st:=rfl
def gR(h:Run (ev Γ e) st (k,.int i) st1):Run (Pj Γ [e]) st (a5 i) st1:=ae h rfl
def gS(c:Run (ev Γ a) st x st1)(d:Run (Pj Γ lo) st1 l st2)(e:Run (Pj Γ hi) st2 h b)(f:a_ [x] b)(g:gH x l h=a5 r):Run (ev Γ (.K_ a lo hi)) st r b :=
 ae c (ae d (ae e (ae (aZ f) (dq g))))
def af:Run (aT Γ []) st [] st:=rfl
def aa(a:Run (ev Γ e) st r st1)(b:Run (aT Γ es) st1 rs st2):Run (aT Γ (e::es)) st (r::rs) st2:=ae a (ae b aM)
def cA(a:Run (aT Γ es) st rs st1)(b:a_ rs st1)(c:KP f rs=a5 r):Run (ev Γ (.bi f es)) st r st1:=ae a (ae (aZ b) (dq c))
def DF(a:Run (aT Γ es) st rs st1)(b:a_ rs st1)(c:tD f rs=a5 r):Run (ev Γ (.Oh f es)) st r st1:=ae a (ae (aZ b) (dq c))
def vI(b:Run (ev Γ a) st x st1)(c:Run (aT Γ es) st1 rs st2)(d:a_ (x::rs) st2)(e:k_ m x.2 rs=a5 r):Run (ev Γ (.MB m a es)) st r st2:=ae b (ae c (ae (aZ d) (dq e)))
def vJ(h:Γ f us=a5 (.ok r))(a:isAny r.1=bL):Run (mj Γ f us) st r st:=by
 have(k,u):=r;change mj Γ f us st=_;unfold mj;rw[h];cases k<;>first|rfl|cases a
def aP(a:Run (aT Γ es) st rs st1)(b:a_ rs st1)(c:Γ f (rs.map (·.2))=a5 (.ok r))(d:isAny r.1=bL:=by show rfl):Run (ev Γ (.call f es)) st r st1:=ae a (ae (aZ b) (vJ c d))
def cR(a:Run (aT Γ es) st rs st1)(b:a_ rs st1)(c:Run (dc rs) st1 us st2)(d:us.length<=b6):Run (ev Γ (.tup es)) st (.loc,.tup us) st2:=by
 show ae a (ae (aZ b) (ae c ?_));rw[Ŕ d];show aM
def cC(a:Run (aT Γ es) st rs st1)(b:a_ rs st1)(c:Run (dc rs) st1 us st2)(d:us.length<=b6):Run (ev Γ (.lst es)) st (.own,.lst us) st2:=by
 show ae a (ae (aZ b) (ae c ?_));rw[Ŕ d];show aM
def ue:Run (ev Γ (.L0 r)) st (.own,.JF [] []) st:=rfl
def iM:Run (lift (.own,u)) st u st:=rfl
def ay:Run (lift (.loc,u)) st u st:=rfl
def eT(h:JW u=a8):Run (lift (.any,u)) st u st:=by
 change(if JW u=a8 then(pure u:M U) else M.fail) st=_;rw[Ŕ h];rfl
def aB:Run (dc []) st [] st:=rfl
def ak(a:Run (lift r) st u st1)(b:Run (dc rs) st1 us st2):Run (dc (r::rs)) st (u::us) st2:=ae a (ae b aM)
def F6(d:Run (JP Γ c) st a8 st1)(e:Run (ev Γ a) st1 r st2):Run (ev Γ (.ite c a b)) st r st2:=ae d e
def F7(d:Run (JP Γ c) st bL st1)(e:Run (ev Γ b) st1 r st2):Run (ev Γ (.ite c a b)) st r st2:=ae d e
def uf(h:Run (ev Γ e) st r st1):Run (jv Γ [e]) st r st1:=h
def F8(h:Run (ev Γ e) st (k,.bl p) st1)(a:if p=a8 then Run (jv Γ (b::es)) st1 r st2 else st2=st1/\r=(.loc,.bl bL)):Run (jv Γ (e::b::es)) st r st2:=by
 show ae h ?_;cases p with
 |true=>show a
 |false=>have(rfl,rfl):=a;show aM
def zR(h:Run (jv Γ es) st r st1):Run (ev Γ (.and es)) st r st1:=h
def aU(d:Run (ev Γ a) st x st1)(e:Run (ev Γ b) st1 y st2)(f:a_ [x,y] st2)(g:bK op x.2 y.2=a5 c):Run (JP Γ (.cmp op a b)) st c st2:=ae d (ae e (ae (aZ f) (dq g)))
def mQ(h:Run (JP Γ a) st c st1):Run (JP Γ (.not a)) st (!c) st1:=ae h aM
def jE(h:Run (aR Γ es) st c st1):Run (JP Γ (.and es)) st c st1:=h
def ug(h:Run (gK Γ es) st c st1):Run (JP Γ (.or es)) st c st1:=h
def iN:Run (aR Γ []) st a8 st:=rfl
def dC(h:Run (JP Γ e) st c st1):Run (aR Γ [e]) st c st1:=h
def pZ(h:Run (JP Γ e) st a8 st1)(a:Run (aR Γ (b::es)) st1 c st2):Run (aR Γ (e::b::es)) st c st2:=ae h a
def uh(h:Run (JP Γ e) st bL st1):Run (aR Γ (e::a::es)) st bL st1:=ae h aM
def mR(h:Run (JP Γ e) st c st1):Run (gK Γ [e]) st c st1:=h
def H0(h:Run (JP Γ e) st a8 st1):Run (gK Γ (e::a::es)) st a8 st1:=ae h aM
def rB(h:Run (JP Γ e) st bL st1)(a:Run (gK Γ (b::es)) st1 c st2):Run (gK Γ (e::b::es)) st c st2:=ae h a
def aV:Run (fq i (.own,u)) st () (st.set i (a5 (.own,u))):=rfl
def a9:Run (fq i (.loc,u)) st () (st.set i (a5 (.loc,u))):=rfl
def jF:Run (fq i (.any,u)) st () (st.set i (a5 (.any,u))):=rfl
def H9(a:Run (ev Γ e) st r st1)(b:Run (fq i r) st1 () st2):Run (exec Γ (.set i e)) st .nx st2:=ae a (ae b aM)
def H_(b:∃k' us',st[i]?=a5 (a5 (k',.lst us'))/\k'≠.A')(c:Run (ev Γ e) st r st1)(d:Run (lift r) st1 u st2)(f:st2[i]?=a5 (a5 (k,.lst us)))(hk:k.root=a8)(hl:us.length<b6):
  Run (exec Γ (.app i e)) st .nx (st2.set i (a5 (k,.lst (us++[u])))):=by
 have(k',us',b,g):=b;show ae (iL b g) (ae (a:=()) (st1:=st) rfl (ae c (ae d (ae (a:=()) ?_ aM))));change modS i (yM u) st2=_;unfold modS;rw[f];simp only[hk,if_true];have e:yM u (.lst us)=a5 (.lst (us++[u])):=by change(if us.length<b6 then _ else _)=_;rw[Ŕ hl]
 rw[e]
def Ia(a:Run (ev Γ e) st r st1)(b:Run (retS r) st1 f st2):Run (exec Γ (.ret e)) st f st2:=ae a b
def jG:Run (retS (.own,u)) st (.rt .own u) st:=rfl
def cw:Run (retS (.loc,u)) st (.rt .loc u) st:=rfl
def Ib(h:JW u=a8):Run (retS (.any,u)) st (.rt .loc u) st:=by
 change(if JW u=a8 then(pure (Fl.rt .loc u):M Fl) else pure (.rt .any u)) st=_;rw[Ŕ h];rfl
def mS(h:st[j]?=a5 (a5 (.own,u))):Run (retS (.bor j,u0)) st (.rt .own u) (st.set j bD):=by
 change(match st[j]? with|some (a5 (.own,u))=>a5 (Ex.ok (Fl.rt .own u),st.set j bD)|_=>bD)=_;rw[h]
def kf(d:Run (JP Γ c) st a8 st1)(e:Run (execs Γ a) st1 f st2):Run (exec Γ (.ite c a b)) st f st2:=ae d e
def mT(d:Run (JP Γ c) st bL st1)(e:Run (execs Γ b) st1 f st2):Run (exec Γ (.ite c a b)) st f st2:=ae d e
def aS:Run (execs Γ []) st .nx st:=rfl
def dY(a:Run (exec Γ s) st .nx st1)(b:Run (execs Γ ss) st1 f st2):Run (execs Γ (s::ss)) st f st2:=ae a b
def CK(a:Run (exec Γ s) st (.rt k u) st1):Run (execs Γ (s::ss)) st (.rt k u) st1:=ae a aM
def az(a:Run (ev Γ e) st r st1)(b:Run (fq i r) st1 () st2)(c:Run (execs Γ ss) st2 f d):Run (execs Γ (.set i e::ss)) st f d:=dY (H9 a b) c
def oG(a:st[i]?=a5 (a5 (k',.lst us')))(b:Run (ev Γ e) st r st1)(c:Run (lift r) st1 u st2)(d:st2[i]?=a5 (a5 (k,.lst us)))(hk:k.root=a8)(hl:us.length<b6)
  (g:Run (execs Γ ss) (st2.set i (a5 (k,.lst (us++[u])))) f h) (j:k'≠.A':=by intro z;cases z):Run (execs Γ (.app i e::ss)) st f h:=dY (H_ #[_,_,a,j] b c d hk hl) g
def bp(a:Run (ev Γ e) st r st1)(b:Run (retS r) st1 (.rt k u) st2):Run (execs Γ (.ret e::ss)) st (.rt k u) st2:=CK (Ia a b)
def i_(d:Run (JP Γ c) st a8 st1)(e:Run (execs Γ a) st1 .nx st2)(g:Run (execs Γ ss) st2 f h):Run (execs Γ (.ite c a b::ss)) st f h:=dY (kf d e) g
def dQ(d:Run (JP Γ c) st bL st1)(e:Run (execs Γ b) st1 .nx st2)(g:Run (execs Γ ss) st2 f h):Run (execs Γ (.ite c a b::ss)) st f h:=dY (mT d e) g
def F9(d:Run (JP Γ c) st a8 st1)(e:Run (execs Γ a) st1 (.rt k u) st2):Run (execs Γ (.ite c a b::ss)) st (.rt k u) st2:=CK (kf d e)
def Ic(a:Run (aT Γ src) st rs st1)(b:a_ rs st1)(c:Mo d rs=a5 xs)(e:vb rs is body=a8)(g:Run (forM t is (execs Γ body) rs xs) st1 f st2):
  Run (exec Γ (.JZ t is d src body)) st f st2:=by
 show ae a (ae (aZ b) (ae (dq c) ?_));rw[Ŕ e];show g
def dR(a:Run (aT Γ src) st rs st1)(b:a_ rs st1)(c:Mo d rs=a5 xs)(e:vb rs is body=a8)(g:Run (forM t is (execs Γ body) rs xs) st1 .nx st2)(h:Run (execs Γ ss) st2 f i):
  Run (execs Γ (.JZ t is d src body::ss)) st f i:=dY (Ic a b c e g) h
def DG(h:a_ rs st):Run (forM t is body rs []) st .nx st:=ae (aZ h) aM
def Ie(h:a_ rs st)(a:Run (dz t is x) st () st1)(b:Run body st1 .nx st2)(c:Run (forM t is body rs xs) st2 f d):Run (forM t is body rs (x::xs)) st f d:=ae (aZ h) (ae a (ae b c))
theorem vK(I:List (Kd×U)->aw->Prop)(hs:∀xs st,I xs st->a_ rs st)(ê:∀x xs st,I (x::xs) st->∃st1 st2,Run (dz t is x) st () st1/\Run body st1 .nx st2/\I xs st2):
  ∀(xs:List (Kd×U)) (st:aw),I xs st->∃st',Run (forM t is body rs xs) st .nx st'/\I [] st'
 |[],st,h=>#[st,DG (hs _ _ h),h]
 |x::xs,st,h=>by
  have(s1,s2,a,b,c):=ê x xs st h;have(s3,d,e):=vK I hs ê xs s2 c;show#[s3,Ie (hs _ _ h) a b d,e]
def fc(h:Run (fq i r) st () st1):Run (dz bL [i] r) st () st1:=h
def aH(a:us.length=fn.np)(hk:k=.own\/k=.loc)(hs:start us fn.ns=st0)(h:Run (execs Γ fn.body) st0 (.rt k u) st):bX Γ fn us=a5 (.ok (k,u)):=by
 subst hs;unfold bX;rw[Ŕ a,show execs Γ fn.body (start us fn.ns)=_ from h];rcases hk with rfl|rfl<;>rfl
def rC{cond:M Bool}(h:a_ src st):Run (bP k t cond elt src [] a) st a st:=ae (aZ h) aM
def mU{cond:M Bool}(h:a_ src st)(d:Run (dz t (dV k) x) (ke k bD++st) () s1)(e:Run cond s1 a8 s2)(g:Run elt s2 r s3)(i:Run (lift r) s3 u s4)
  (hl:c.length<b6) (j:Run (bP k t cond elt src xs (c++[u])) (s4.drop k) us st2):Run (bP k t cond elt src (x::xs) c) st us st2:=by
 show ae (aZ h) (ae (a:=a5 u) (st1:=s4.drop k) ?_ ?_)
 .change inScope k _ st=_;unfold inScope;have l:Run (dz t (dV k) x >>= λ_=>cond >>= λb=>if b=a8 then(elt >>= λr=>lift r >>= λu=>pure (a5 u)) else pure bD) (ke k bD++st) (a5 u) s4 :=
   ae d (ae e (show Run (elt >>= λr=>lift r >>= λu=>pure (a5 u)) s2 (a5 u) s4 from ae g (ae (f:=λu=>pure (a5 u)) i rfl)))
  rw[show _=_ from l]
 .change Run (if c.length<b6 then bP k t cond elt src xs (c++[u]) else M.fail) _ _ _;rw[Ŕ hl];show j
def ui{cond:M Bool}(h:a_ src st)(d:Run (dz t (dV k) x) (ke k bD++st) () s1)(e:Run cond s1 bL s2)
  (f:Run (bP k t cond elt src xs c) (s2.drop k) us st2):Run (bP k t cond elt src (x::xs) c) st us st2:=by
 show ae (aZ h) (ae (a:=bD) (st1:=s2.drop k) ?_ f);change inScope k _ st=_;unfold inScope;have g:Run (dz t (dV k) x >>= λ_=>cond >>= λb=>if b=a8 then(elt >>= λr=>lift r >>= λu=>pure (a5 u)) else pure bD) (ke k bD++st) bD s2 :=
  ae d (ae e (show Run (pure bD:M (Option U)) s2 bD s2 from rfl))
 rw[show _=_ from g]
def cM{src cond:List E}(a:Run (aT Γ src) st rs st1)(b:a_ rs st1)(c:Mo d rs=a5 xs)(f:Run (bP k t (aR Γ cond) (ev Γ e) rs xs []) st1 us st2):Run (ev Γ (.comp k t d src cond e)) st (.own,.lst us) st2 :=
 ae a (ae (aZ b) (ae (dq c) (ae f aM)))
theorem zS{cond:M Bool}(h:a_ src st)(g:Kd×U->U)(b:Kd×U->Kd):∀(xs:List (Kd×U)) (a:List U),a.length+xs.length<=b6 ->
  (∀x∈xs,x.1=.loc\/x.1=.any)->(∀x∈xs,Run cond (a5 x::st) a8 (a5 x::st)/\Run elt (a5 x::st) (b x,g x) (a5 x::st)/\Run (lift (b x,g x)) (a5 x::st) (g x) (a5 x::st))->Run (bP 1 bL cond elt src xs a) st (a++xs.map g) st
 |[],a,_,_,_=>by rw[MZ,oD];show rC h
 |x::xs,a,hl,hk,d=>by
  have(e,f,i):=d x (by simp);rw[i4]at hl;show mU (s1:=a5 x::st) (s2:=a5 x::st) (s3:=a5 x::st) (s4:=a5 x::st) h ?_ e f i ⋯ ?_
  .have(k,u):=x;rcases hk _ (gs ..) with z|z<;>(cases z;rfl)
  .have:=zS h g b xs (a++[g x]) (by simp;lia) (λy c=>hk y (by simp[c])) λy c=>d y (by simp[c]);rw[d6];simpa using this
theorem mV{cond:M Bool}(h:a_ src st)(p:Kd×U->Bool)(g:Kd×U->U)(c:Kd×U->Kd):∀(xs:List (Kd×U)) (a:List U),a.length+xs.length<=b6 ->
  (∀x∈xs,x.1=.loc\/x.1=.any)->(∀x∈xs,Run cond (a5 x::st) (p x) (a5 x::st)/\Run elt (a5 x::st) (c x,g x) (a5 x::st)/\Run (lift (c x,g x)) (a5 x::st) (g x) (a5 x::st))->Run (bP 1 bL cond elt src xs a) st (a++(xs.filter p).map g) st
 |[],a,_,_,_=>by rw[Tv,MZ,oD];show rC h
 |x::xs,a,hl,hk,f=>by
  have(d,j,l):=f x (by simp);rw[i4]at hl;have i:Run (dz bL (dV 1) x) (ke 1 bD++st) () (a5 x::st):=by
   have(k,u):=x;rcases hk _ (gs ..) with z|z<;>(cases z;rfl)
  cases e:p x with
  |true =>
   rw[e]at d;show mU (s1:=a5 x::st) (s2:=a5 x::st) (s3:=a5 x::st) (s4:=a5 x::st) h i d j l ⋯ ?_;have:=mV h p g c xs (a++[g x]) (by simp;lia) (λy b=>hk y (by simp[b])) λy b=>f y (by simp[b]);rw[Cd,Ŕ e,d6];simpa using this
  |false =>
   rw[e]at d;show ui (s1:=a5 x::st) (s2:=a5 x::st) h i d ?_;have:=mV h p g c xs a ⋯ (λy b=>hk y (by simp[b])) λy b=>f y (by simp[b]);rw[Cd,ŕ (by simp[e])];show this
end
section
end
abbrev J3(Pg:List Fn)(f:Str)(fn:Fn):Prop:=(Pg.find? λg=>b7 (g.name=f))=a5 fn
section
def vL(h:J3 Pg f fn)(us:List U):J9 Pg (d+1) f us=mr (J9 Pg d) fn us:=by
 change(match Pg.find? λg=>b7 (g.name=f) with|some fn=>mr (J9 Pg d) fn us|none=>bD)=_;rw[show _=a5 fn from h]
def aF(h:J3 Pg f fn)(us:List U)(a:fn.io=bD:=by rfl)(b:fn.ob=bD:=by rfl):J9 Pg (d+1) f us=bX (J9 Pg d) fn us:=by
 rw[vL h];unfold mr;rw[b,a]
def aW(h:J3 Pg f fn)(us:List U)(a:fn.ob=a5 (p,b)):J9 Pg (d+1) f us=dP (J9 Pg d) fn p b us:=by
 rw[vL h];unfold mr;rw[a]
end
def bE(h:0<j):LO .mod (k,.int i) (k',.int j)=a5 (.loc,.int (i % j)):=by change(BC i j).map _=_;rw[BC,Ŕ h];rfl
def zT(h:0<j/\j<1073741824):LO .Ml (k,.int i) (k',.int j)=a5 (.loc,.int (i / j)):=by change(BB i j).map _=_;rw[BB,Ŕ h];rfl
def oU(h:(-(2 ^ 64)<i/\i<2 ^ 64)\/(-(2 ^ 64)<j/\j<2 ^ 64)):LO .mul (k,.int i) (k',.int j)=a5 (.loc,.int (i * j)):=by change(BA i j).map _=_;rw[BA,Ŕ h];rfl
def oV(h:0<=j/\j<=1000000/\i.natAbs<2 ^ 64):LO .pow (k,.int i) (k',.int j)=a5 (.loc,.int (i ^ j.toNat)):=by change(BD i j).map _=_;rw[BD,Ŕ h];rfl
def dr:LO .add (k,.int i) (k',.int j)=a5 (.loc,.int (i+j)):=rfl
def aD(h:J_ xs i=a5 u):iV (k,.lst xs) (.int i)=a5 (kE k,u):=by change(J_ xs i).map _=_;rw[h];rfl
def ph(h:J_ xs i=a5 u):iV (k,.tup xs) (.int i)=a5 (kE k,u):=by change(J_ xs i).map _=_;rw[h];rfl
def vM:Kd.own≠Kd.A':=by decide
local macro_rules
 |`(tactic| sizeOf_list_dec)=>`(tactic| first|exact aS|apply az|apply oG|apply bp|exact ai|exact ah rfl|exact au rfl|exact ax rfl|apply bb|apply f_|apply aQ|apply cA|apply aP|apply vI|apply aU|exact af|apply aa|apply cR|apply cC|exact aB|apply ak|exact ay|exact iM|(first|exact trivial|exact⟨⟨_,rfl,rfl⟩,trivial⟩|exact#[#[_,rfl,rfl],#[_,rfl,rfl],trivial])|exact dr|exact sg|exact bE (by first|lia|decide)|exact zT (by first|lia|decide)|exact oU (by first|lia|decide)|exact oV (by decide)|exact a9|exact aV|exact jF|exact cw|exact jG|exact mS rfl|exact ki _|exact rfl|exact vM)
abbrev uj(c k:Int):Int:=((c % 10 ^ 15+1) * 48271+k * k * 16807+k * 7919) % 2147483647 * 69621 % 2147483629
def CL(a:0<=k)(b:k<2 ^ 63):bX Γ xn [.int c,.int k]=a5 (.ok (.loc,.int (uj c k))):=by
 apply aH (st0:=[a5 (.loc,.int c),a5 (.loc,.int k),bD]) rfl (.inr rfl) rfl
 repeat' sizeOf_list_dec
abbrev zU(Γ:Tab):Prop:=∀c k:Int,0<=k->k<2 ^ 63->Γ "_law_mix" [.int c,.int k]=a5 (.ok (.loc,.int (uj c k)))
def vO(h:b7 (i<j)=c):bK .lt (.int i) (.int j)=a5 c:=by subst h;rfl
def mW(h:b7 (j<i)=c):bK .gt (.int i) (.int j)=a5 c:=by subst h;rfl
def eI(h:(i==j)=c):bK .eq (.int i) (.int j)=a5 c:=by subst h;rfl
def fR:KP .len [(k,.lst xs)]=a5 (.loc,.int (xs.length:Nat)):=rfl
def jH:KP .len [(k,.tup xs)]=a5 (.loc,.int (xs.length:Nat)):=rfl
abbrev DH(ns:List Int)(k:Nat):Int:=if k<ns.length then(ns[k]?).getD 0 else 2 * uj ((ns[k % ns.length]?).getD 0) k+1
def zV(f:zU Γ){k:Nat}(hk:k<2 ^ 62):bX Γ vN [.lst (ns.map .int),.int k]=a5 (.ok (.loc,.int (DH ns k))):=by
 have b:∀c,Γ "_law_mix" [.int c,.int k]=a5 (.ok (.loc,.int (uj c k))):=λc=>f c k ⋯ ⋯;unfold DH;by_cases h:k<ns.length
 .rw[Ŕ h];have a:J_ (ns.map U.int) (k:Int)=a5 (.int ((ns[k]?).getD 0)):=bH (by simp[h]);apply aH (st0:=[a5 (.any,.lst (ns.map .int)),a5 (.loc,.int k),bD]) rfl (.inr rfl) rfl;apply F9
  all_goals repeat' (first|show vO (by simp[h])|show aD a|show Ib rfl|sizeOf_list_dec)
 .rw[ŕ h];have d:bK .lt (.int k) (.int ((ns.map U.int).length:Nat))=a5 bL:=vO (by simp;lia);by_cases hz:0<ns.length
  .have hi:k % ns.length<ns.length:=Œ _ hz;have a:J_ (ns.map U.int) ((k:Int) % ((ns.map U.int).length:Nat))=a5 (.int ((ns[k % ns.length]?).getD 0)):=by
    rw[b8,show(k:Int) % (ns.length:Nat)=((k % ns.length:Nat):Int) by lia];show bH (by simp[hi])
   have g:(0:Int)<((ns.map U.int).length:Nat):=by simp;lia
   apply aH (st0:=[a5 (.any,.lst (ns.map .int)),a5 (.loc,.int k),bD]) rfl (.inr rfl) rfl;apply dQ
   all_goals repeat' (first|show d|sizeOf_list_dec)
   apply i_
   all_goals repeat' (first|show mW (by simp;lia)|show bE g|show aD a|show b _|sizeOf_list_dec)
  .have e:ns=[]:=WH ⋯;subst e;apply aH (st0:=[a5 (.any,.lst ([].map .int)),a5 (.loc,.int k),bD]) rfl (.inr rfl) rfl;apply dQ
   all_goals repeat' (first|show d|sizeOf_list_dec)
   apply dQ
   all_goals repeat' (first|show b _|sizeOf_list_dec)
def rE(x:Kd×U):Mo .Kg [x]=wG x:=rfl
def qa(h:n<2 ^ 62):Mo .Kg [(k,.int (n:Nat))]=a5 ((dV n).map λi:Nat=>(Kd.loc,U.int (0+(i:Int)))):=by
 rw[rE,wG,Ŕ ⋯,M9]
abbrev gT(n:Nat)(xs:List (Kd×U)):Prop:=∃i,i<=n/\xs=((dV n).drop i).map λi:Nat=>(Kd.loc,U.int (0+(i:Int)))
def gT.cons(h:gT n (x::xs)):∃i:Nat,i<n/\x=(.loc,.int (i:Nat))/\gT n xs/\i+xs.length+1=n:=by
 have(i,hi,e):=h;by_cases a:i<n
 .rw[Mw (by simpa using a),d6]at e;cases e;show#[i,a,by simp,#[i+1,a,rfl],by simp;lia]
 .rw[List.drop_eq_nil_of_le (by simp;lia)]at e;cases e
def gT.all(n:Nat):gT n ((dV n).map λi:Nat=>(Kd.loc,U.int (0+(i:Int)))):=#[0,ki _,rfl]
def xp(q:zU Γ)(w:n<1000):∃ds:List Int,ds.length=n/\(∀d∈ds,0<=d)/\bX Γ p_ [.int c,.int n]=a5 (.ok (.own,.lst (ds.map .int))):=by
 have hsz:(1000:Nat)<=b6:=by decide
 let I:List (Kd×U)->aw->Prop:=λxs st=>∃(ds:List Int) (us:List U) (left:Int) (o:Option (Kd×U)),st=[a5 (.loc,.int c),a5 (.loc,.int n),a5 (.own,.lst us),a5 (.loc,.int left),o]/\us=ds.map .int/\(∀d∈ds,0<=d)/\ds.length+xs.length=n/\gT n xs;have a:=vK (t:=bL) (is:=[4]) (body:=execs Γ [.ite (.cmp .eq (.bin .mod (.var 0) (.cst (.int 2))) (.cst (.int 0)))
    [.app 2 (.bin .mod (.var 3) (.cst (.int 64))),
    .set 3 (.bin .Ml (.var 3) (.cst (.int 64)))]
    [.app 2 (.bin .mod (.bin .Ml (.call "_law_mix" [(.var 0),(.var 4)]) (.cst (.int 7))) (.cst (.int 4096)))]]) (rs:=[(.loc,.int n)]) I (λ_ _ _=>trivial) (λx xs st r=>by
  have(ds,us,left,o,e,b,f,hl,s):=r;subst e;have j:us.length=ds.length:=by rw[b];simp
  have(i,hi,rfl,l,m):=s.cons;have u:Γ "_law_mix" [.int c,.int i]=a5 (.ok (.loc,.int (uj c i))):=q c i ⋯ ⋯;rw[i4]at hl;by_cases p:c % 2=0
  .show#[[a5 (.loc,.int c),a5 (.loc,.int n),a5 (.own,.lst us),a5 (.loc,.int left),a5 (.loc,.int i)],[a5 (.loc,.int c),a5 (.loc,.int n),a5 (.own,.lst (us++[.int (left % 64)])),a5 (.loc,.int (left / 64)),a5 (.loc,.int i)],a9,?_,#[ds++[left % 64],_,left / 64,_,rfl,by simp[b],?_,by simp;lia,l]]
   .apply i_
    all_goals repeat' (first|show eI (by simp[p])|show(by rw[j];lia)|sizeOf_list_dec)
   .intro d g;rcases f6.mp g with z|z
    .show f d z
    .rw[hY.mp z];lia
  .show#[[a5 (.loc,.int c),a5 (.loc,.int n),a5 (.own,.lst us),a5 (.loc,.int left),a5 (.loc,.int i)],[a5 (.loc,.int c),a5 (.loc,.int n),a5 (.own,.lst (us++[.int (uj c i / 7 % 4096)])),a5 (.loc,.int left),a5 (.loc,.int i)],a9,?_,#[ds++[uj c i / 7 % 4096],_,left,_,rfl,by simp[b],?_,by simp;lia,l]]
   .apply dQ
    all_goals repeat' (first|show eI (by simp[p])|show u|show(by rw[j];lia)|sizeOf_list_dec)
   .intro d g;rcases f6.mp g with z|z
    .show f d z
    .rw[hY.mp z];lia)
 have(st',v,ds,us,left,o,e,b,f,hl,_):=a ((dV n).map λi:Nat=>(Kd.loc,U.int (0+(i:Int)))) [a5 (.loc,.int c),a5 (.loc,.int n),a5 (.own,.lst []),a5 (.loc,.int (c / 2)),bD] ⟨[],[],c / 2,bD,rfl,rfl,by simp,by simp,gT.all n⟩;subst e b;show#[ds,by simpa using hl,f,?_];apply aH (st0:=[a5 (.loc,.int c),a5 (.loc,.int n),bD,bD,bD]) rfl (.inl rfl) rfl
 repeat' sizeOf_list_dec
 have h:=qa (k:=.loc) (n:=n) ⋯;refine' dR (rs:=[(.loc,.int n)]) (st1:=[a5 (.loc,.int c),a5 (.loc,.int n),a5 (.own,.lst []),a5 (.loc,.int (c / 2)),bD]) _ trivial h rfl v _
 all_goals repeat' sizeOf_list_dec
end TM
local macro_rules
 |`(tactic| sizeOf_list_dec)=>`(tactic| first|exact TM.aS|apply TM.az|apply TM.oG|apply TM.bp|exact TM.ai|exact TM.ah rfl|exact TM.au rfl|exact TM.ax rfl|apply TM.bb|apply TM.f_|apply TM.aQ|apply TM.cA|apply TM.aP|apply TM.vI|apply TM.aU|exact TM.af|apply TM.aa|apply TM.cR|apply TM.cC|exact TM.aB|apply TM.ak|exact TM.ay|exact TM.iM|(first|exact trivial|exact⟨⟨_,rfl,rfl⟩,trivial⟩|exact#[#[_,rfl,rfl],#[_,rfl,rfl],trivial])|exact TM.dr|exact TM.sg|exact TM.bE (by first|lia|decide)|exact TM.zT (by first|lia|decide)|exact TM.oU (by first|lia|decide)|exact TM.oV (by decide)|exact TM.a9|exact TM.aV|exact TM.jF|exact TM.cw|exact TM.jG|exact TM.mS rfl|exact ki _|exact rfl|exact TM.vM)
namespace J2
open PySem L2
abbrev cy(l:List Nat):Prop:=cU l=a8\/∃a b k,l=a++47::b/\cU a=a8/\2<=k/\k<=99/\(eX k).cps.toList=b
def len_list(x:Str):x.length=x.cps.toList.length:=by simp[Tn]
def ij(a:0<=k)(b:k<=99):(eX k).length<=2:=by
 have(m,rfl):=Ta a;have c:m<100:=by lia
 clear a b;revert m;decide +kernel
def cy.len(h:cy l):1<=l.length/\l.length<=11:=by
 rcases h with h|⟨a,b,k,rfl,h,e,c,d⟩
 .have:=(dw l).mp h;lia
 .have:=(dw a).mp h;have hl:=ij (k:=k) ⋯ c;rw[len_list,d]at hl;simp;lia
def cy.Jw(h:cy x.cps.toList):∃y r,PZ x Dv=y::r/\cU y.cps.toList=a8:=by
 rcases h with h|⟨a,b,k,e,h,_⟩
 .show#[x,[],sM (jm h),h]
 .have(r,c):=yl e (jm h) (by decide);show#[_,r,c,by simpa using h]
theorem gh:∀(ps:List Str) (a:Array Nat),(ps.foldl (λa p=>a++sx.cps++p.cps) a).toList=a.toList++(ps.map λp=>p.cps.toList).flatten
 |[],a=>by simp
 |p::ps,a=>by
  rw[Q_,gh ps];have:sx.cps=#v[]:=rfl;simp[this]
def join_list(ts:List Str):(VB sx ts).cps.toList=(ts.map λp=>p.cps.toList).flatten:=by
 cases ts with
 |nil=>rfl
 |cons t ts =>
  change(ts.foldl (λa p=>a++sx.cps++p.cps) t.cps).toList=_;rw[gh];simp
abbrev one(c:Nat):Str:=#[#v[c]]
def join_ones(a:List Nat):(VB sx (a.map one)).cps.toList=a:=by
 rw[join_list,i6];induction a with
 |nil=>rfl
 |cons c a b=>rw[d6,Ü,b];rfl
def rF(a:List Nat)(h:a.length<=100):ċ sx (a.map one)=a8:=by
 unfold ċ;have e:=PySem.StrLaws.joinTotal sx (a.map one);have b:sx.length=0:=rfl;have es:((a.map one).map (·.length)).sum=a.length:=by
  rw[i6];clear h e;induction a with
  |nil=>rfl
  |cons c a d=>rw[d6,List.sum_cons,d];change 1+a.length=a.length+1;lia
 rw[e,b,es];have f:a.length+(a.map one).length * 0<=100:=by lia
 revert f;generalize a.length+(a.map one).length * 0=m;revert m;decide
def F_(x:Str)(j:Nat):(PySem.StrLaws.sliceText x bD (a5 (j:Int))).cps.toList=x.cps.toList.take j:=by
 by_cases h:j<=x.cps.toList.length
 .rw[PySem.StrLaws.sliceText_to (x:=x) #[⋯,⋯]];simp
 .have e:PySem.StrLaws.sliceText x bD (a5 (j:Int))=PySem.StrLaws.sliceText x bD (a5 (x.length:Int)):=by
   unfold PySem.StrLaws.sliceText;have hl:=len_list x;have:PySem.Builtin.Str.strSliceIndices bD (a5 (j:Int)) 1 x.length=PySem.Builtin.Str.strSliceIndices bD (a5 (x.length:Int)) 1 x.length:=by
    have a:¬((j:Int)<0):=by lia
    have b:¬((x.length:Int)<0):=by lia
    have c:min (j:Int) (x.length:Int)=x.length:=by lia
    simp[PySem.Builtin.Str.strSliceIndices,a,b,c]
   rw[this]
  have hl:=len_list x;rw[e,PySem.StrLaws.sliceText_to (x:=x) #[⋯,⋯],Xw,LQ (l:=x.cps.toList) (i:=j) ⋯];change(x.cps.toList.take ((x.length:Int) - 0).toNat).toArray.toList=_;rw[LQ ⋯]
def xq(d:cU a=a8)(e:∀c∈b,low c=a8):cU ((a++b).take 8)=a8:=by
 have h:=(dw a).mp d;show(dw _).mpr #[by simp;lia,by simp;lia,λc f=>?_];have g:=Q5 f;rcases f6.mp g with m|m
 .show h.2.2 c m
 .have:=e c m;simp[low]at this;lia
def kR(a:∀c∈b,low c=a8)(d:1<=b.length)(e:b.length<=8):cU b=a8 :=
 (dw b).mpr #[d,e,λc f=>by have:=a c f;simp[low]at this;lia]
abbrev small:Str:="abcdefghijklmnopqrstuvwxyz"
def um:small.cps.toList=(dV 26).map (97+·):=by decide +kernel
def mX(a:0<=k)(b:k<26):J_ small.cps.toList k=a5 (97+k.toNat):=by
 have(j,rfl):=Ta a;show bH ?_;rw[um,n9,Ç ⋯];rfl
def uo(h:j<26):low (97+j)=a8:=by simp[low];lia
abbrev oH(k:Nat):Str:=#[#v[97+k / 26,97+k % 26]]
def ur(h:k<40):cU (oH k).cps.toList=a8:=by
 show kR (λc a=>?_) (by change 1<=2;decide) (by change 2<=8;decide);have b:c=97+k / 26\/c=97+k % 26:=by simpa[oH] using a
 rcases b with rfl|rfl
 .show uo ⋯
 .show uo ⋯
theorem mY [DecidableEq α]:∀{l m:List α},l.Nodup->(∀x∈l,x∈m)->l.length<=m.length
 |[],_,_,_=>ki _
 |x::l,m,c,h=>by
  have(d,e):=rr.mp c;have a:=h x gs;have f:=mY (l:=l) (m:=m.erase x) e λy b=>(Zj (by rintro rfl;show d b)).mpr (h y (fx _ b));rw[XZ a]at f;have:0<m.length:=Ye a;rw[i4];lia
abbrev cq:List Str:=(dV 40).map oH
def qb:cq.Nodup:=by
 decide +kernel
def uu(names:List Str)(h:names.length<40):∃x∈cq,x∉names:=by
 apply Wv;intro a;have:∀x∈cq,x∈names:=λx b=>Wv λc=>a #[x,b,c];have:=mY qb this;simp[cq]at this;lia
end J2
namespace TM
open PySem L2 J2
def jI(a:0<=z)(h:z<2 ^ 62):Mo .Kg [(k,.int z)]=a5 ((dV z.toNat).map λi:Nat=>(Kd.loc,U.int (0+(i:Int)))):=by
 rw[rE,wG,Ŕ ⋯]
def jT(a:x.length<=b6)(h:J_ x.cps.toList i=a5 c):iV (k,.str x) (.int i)=a5 (.loc,.str (J2.one c)):=by
 simp only[iV];rw[Ŕ a,h];rfl
def mZ:small.length<=b6:=by decide
def bN{ds:List Int}{i:Nat}(h:i<ds.length):J_ (ds.map U.int) (i:Int)=a5 (.int ((ds[i]?).getD 0)):=bH (by simp[h])
theorem fB:∀(ss:List Str),strsOf (ss.map U.str)=a5 ss
 |[]=>rfl
 |s::ss=>by change(strsOf (ss.map U.str)).map (s::·)=_;rw[fB ss];rfl
abbrev qc(a:E):Fn:=#["_law_name",2,6,[.set 2 (.cst (.str "abcdefghijklmnopqrstuvwxyz")),.set 3 (.MB .join (.cst (.str "")) [.comp 1 bL .Kg [.bin .add (.cst (.int 1)) (.bin .mod (.idx (.var 0) (.cst (.int 0))) (.cst (.int 8)))] [] (.idx (.var 3) (.bin .mod (.idx (.var 1) (.bin .add (.cst (.int 4)) (.var 0))) (.cst (.int 26))))]),.ite (.cmp .gt (.bi .len [.var 1]) (.cst (.int 0))) [.set 4 (.idx (.MB .split (.idx (.var 1) (.bin .mod (.idx (.var 0) (.cst (.int 1))) (.bi .len [.var 1]))) [.cst (.str "/")]) (.cst (.int 0))),.ite (.cmp .eq (.bin .mod (.idx (.var 0) (.cst (.int 2))) (.cst (.int 4))) (.cst (.int 1))) [.set 3 (.K_ (.bin .add (.var 4) (.var 3)) [] [.cst (.int 8)])] [],.ite (.cmp .eq (.bin .mod (.idx (.var 0) (.cst (.int 2))) (.cst (.int 4))) (.cst (.int 2))) [.set 3 (.bin .add (.bin .add (.var 4) (.cst (.str "/"))) (.bi .str [.bin .add (.cst (.int 2)) (.bin .mod (.idx (.var 0) (.cst (.int 3))) a)]))] []] [],.set 5 (.bin .add (.lst [.var 3]) (.comp 1 bL .Kg [.cst (.int 40)] [] (.bin .add (.idx (.var 3) (.bin .Ml (.var 0) (.cst (.int 26)))) (.idx (.var 3) (.bin .mod (.var 0) (.cst (.int 26))))))),.ret (.idx (.comp 1 bL .seq [.var 5] [.cmp .JG (.var 0) (.var 2)] (.var 0)) (.cst (.int 0)))]]
abbrev CM(a:E):Prop:=∀(Γ:Tab) (ds:List Int),12<=ds.length->(∀d∈ds,0<=d)->∃m:Int,0<m/\m<=98/\∀o1 o2 o3 o4 o5,Run (ev Γ a) [a5 (.any,.lst (ds.map .int)),o1,o2,o3,o4,o5] (.loc,.int m) [a5 (.any,.lst (ds.map .int)),o1,o2,o3,o4,o5]
@[reducible]noncomputable def Ig:E:=.cst (.int 98)
def CN:CM Ig:=λ_ _ _ _=>#[98,by decide,by decide,λ_ _ _ _ _=>ai]
section
variable{Γ:Tab}{ds:List Int}
abbrev dd(ds:List Int)(i:Nat):Int:=(ds[i]?).getD 0
def cW(a:∀d∈ds,0<=d)(i:Nat):0<=dd ds i:=by
 unfold dd;cases e:ds[i]? with
 |none=>simp
 |some d=>show a d (ri e)
def qd(q:12<=ds.length)(g:∀d∈ds,0<=d):∃b:List Nat,(∀c∈b,low c=a8)/\1<=b.length/\b.length<=8 /\
  Run (ev Γ (.comp 1 bL .Kg [.bin .add (.cst (.int 1)) (.bin .mod (.idx (.var 0) (.cst (.int 0))) (.cst (.int 8)))] [] (.idx (.var 3) (.bin .mod (.idx (.var 1) (.bin .add (.cst (.int 4)) (.var 0))) (.cst (.int 26))))))
   [a5 (.any,.lst (ds.map .int)),o1,a5 (.loc,.str small),o3,o4,o5] (.own,.lst ((b.map J2.one).map .str)) [a5 (.any,.lst (ds.map .int)),o1,a5 (.loc,.str small),o3,o4,o5]:=by
 have hz:=cW g 0;let n:=(1+dd ds 0 % 8).toNat;have h:n<=8/\1<=n:=by change(1+dd ds 0 % 8).toNat<=8/\1<=(1+dd ds 0 % 8).toNat;lia
 let f:Nat->Nat:=λi=>97+(dd ds (4+i) % 26).toNat;show#[(dV n).map f,?_,by simp;show h.2,by simp;show h.1,?_]
 .intro c m;have(i,_,rfl):=ku.mp m;have:=cW g (4+i);show uo ⋯
 .have a:Run (bP 1 bL (aR Γ []) (ev Γ (.idx (.var 3) (.bin .mod (.idx (.var 1) (.bin .add (.cst (.int 4)) (.var 0))) (.cst (.int 26))))) [(.loc,.int (1+dd ds 0 % 8))] ((dV n).map λi:Nat=>(Kd.loc,U.int (0+(i:Int)))) [])
    [a5 (.any,.lst (ds.map .int)),o1,a5 (.loc,.str small),o3,o4,o5] ([]++((dV n).map λi:Nat=>(Kd.loc,U.int (0+(i:Int)))).map λx=>match x.2 with|.int j=>.str (J2.one (97+(dd ds (4+j.toNat) % 26).toNat))|u=>u) [a5 (.any,.lst (ds.map .int)),o1,a5 (.loc,.str small),o3,o4,o5]:=by
   have r:(8:Nat)<=b6:=by decide
   show zS (by show trivial) _ (λ_=>.loc) _ _ (by simp;lia) (λx a=>?_) (λx a=>?_)
   .have(i,_,rfl):=ku.mp a;show .inl rfl
   .have(i,hi,rfl):=ku.mp a;have s:i<n:=by simpa using hi
    have l:J_ (ds.map U.int) (4+(0+(i:Int)))=a5 (.int (dd ds (4+i))):=by
     rw[show(4+(0+(i:Int)))=((4+i:Nat):Int) by lia];show bN ⋯
    have o:=cW g (4+i);have hs:=mX (k:=dd ds (4+i) % 26) ⋯ ⋯;show#[iN,?_,ay];simp only[RQ,M9];rw[RQ]at l
    repeat' (first|show aD l|show jT mZ hs|sizeOf_list_dec)
  have e:((dV n).map f).map J2.one=(dV n).map λi=>J2.one (97+(dd ds (4+i) % 26).toNat):=by rw[i6];rfl
  rw[e];have p:([]++((dV n).map λi:Nat=>(Kd.loc,U.int (0+(i:Int)))).map λx=>match x.2 with|.int j=>U.str (J2.one (97+(dd ds (4+j.toNat) % 26).toNat))|u=>u)=((dV n).map λi=>J2.one (97+(dd ds (4+i) % 26).toNat)).map U.str:=by
   rw[ko,i6,i6];apply tA;intro i _;simp
  rw[p]at a;show cM (rs:=[(.loc,.int (1+dd ds 0 % 8))]) ?_ trivial (jI ⋯ ⋯) a
  repeat' (first|show aD (bN (i:=0) ⋯)|sizeOf_list_dec)
def ip(h:x.length+y.length<=b6):LO .add (k,.str x) (k',.str y)=a5 (.loc,.str (x++y)):=by
 simp only[LO,wD];rw[Ŕ h]
theorem iq:∀(ss:List Str) (n:Nat),bV n (ss.map U.str)=a8
 |[],n=>by simp[bV]
 |s::ss,n=>by simp only[d6,bV,iq ss n,X0];cases n<;>rfl
theorem rG(x:Str):∀(ss:List Str),((ss.map U.str).any λy=>bW y (.str x))=b7 (x∈ss)
 |[]=>by simp
 |s::ss=>by
  rw[d6,UK,rG x ss];have:bW (.str s) (.str x)=b7 (x=s):=by
   simp only[bW];by_cases h:x=s
   .subst h;simp
   .have h':s≠x:=λz=>h z.symm;simp[h,h']
  rw[this,oT];simp
def CO(x:Str)(ss:List Str):Ol (.str x) (ss.map U.str)=a5 (b7 (x∈ss)):=by
 unfold Ol;rw[Ŕ #[by rfl,iq ss 50],rG]
def eJ{x:Str}{ss:List Str}:bK .JG (.str x) (.lst (ss.map U.str))=a5 (b7 (x∉ss)):=by
 change(Ol (.str x) (ss.map U.str)).map (!·)=_;rw[CO];simp
def rH:Run (ev Γ (.comp 1 bL .Kg [.cst (.int 40)] [] (.bin .add (.idx (.var 3) (.bin .Ml (.var 0) (.cst (.int 26)))) (.idx (.var 3) (.bin .mod (.var 0) (.cst (.int 26)))))))
   [o0,o1,a5 (.loc,.str small),o3,o4,o5] (.own,.lst (cq.map .str)) [o0,o1,a5 (.loc,.str small),o3,o4,o5]:=by
 have f:(100:Nat)<=b6:=by decide
 have a:Run (bP 1 bL (aR Γ []) (ev Γ (.bin .add (.idx (.var 3) (.bin .Ml (.var 0) (.cst (.int 26)))) (.idx (.var 3) (.bin .mod (.var 0) (.cst (.int 26)))))) [(.loc,.int 40)] ((dV 40).map λi:Nat=>(Kd.loc,U.int (0+(i:Int)))) [])
   [o0,o1,a5 (.loc,.str small),o3,o4,o5] ([]++((dV 40).map λi:Nat=>(Kd.loc,U.int (0+(i:Int)))).map λx=>match x.2 with|.int j=>.str (oH j.toNat)|u=>u) [o0,o1,a5 (.loc,.str small),o3,o4,o5]:=by
  show zS (by show trivial) _ (λ_=>.loc) _ _ (by simp;lia) (λx a=>?_) (λx a=>?_)
  .have(i,_,rfl):=ku.mp a;show .inl rfl
  .have(i,hi,rfl):=ku.mp a;have g:i<40:=by simpa using hi
   show#[iN,?_,ay];simp only[RQ,M9];have c:=mX (k:=(i:Int) / 26) ⋯ ⋯;have d:=mX (k:=(i:Int) % 26) ⋯ ⋯;have e:((i:Int) / 26).toNat=i / 26:=by lia
   have b:((i:Int) % 26).toNat=i % 26:=by lia
   rw[e]at c;rw[b]at d;have ad:LO .add (.loc,.str (J2.one (97+i / 26))) (.loc,.str (J2.one (97+i % 26)))=a5 (.loc,.str (oH i)):=by
    have:=ip (k:=.loc) (k':=.loc) (x:=J2.one (97+i / 26)) (y:=J2.one (97+i % 26)) (by change 1+1<=b6;lia);rw[this];rfl
   repeat' (first|show jT mZ c|show jT mZ d|show ad|sizeOf_list_dec)
 have b:([]++((dV 40).map λi:Nat=>(Kd.loc,U.int (0+(i:Int)))).map λx=>match x.2 with|.int j=>U.str (oH j.toNat)|u=>u)=cq.map U.str:=by
  rw[ko,i6,cq,i6];apply tA;intro i _;simp
 rw[b]at a;show cM (rs:=[(.loc,.int 40)]) (by repeat' sizeOf_list_dec) trivial (jI ⋯ ⋯) a
def xr{names ts:List Str}(hl:ts.length<=1000):Run (ev Γ (.comp 1 bL .seq [.var 5] [.cmp .JG (.var 0) (.var 2)] (.var 0)))
   [o0,a5 (.any,.lst (names.map .str)),o2,o3,o4,a5 (.own,.lst (ts.map .str))] (.own,.lst ((ts.filter λx=>b7 (x∉names)).map .str)) [o0,a5 (.any,.lst (names.map .str)),o2,o3,o4,a5 (.own,.lst (ts.map .str))]:=by
 have c:(1000:Nat)<=b6:=by decide
 have a:=mV (cond:=aR Γ [.cmp .JG (.var 0) (.var 2)]) (elt:=ev Γ (.var 0)) (src:=[(.bor 5,.lst (ts.map .str))]) (st:=[o0,a5 (.any,.lst (names.map .str)),o2,o3,o4,a5 (.own,.lst (ts.map .str))]) ∅
  (λx=>match x.2 with|.str y=>b7 (y∉names)|_=>bL) (λx=>x.2) (λ_=>.loc) ((ts.map U.str).map λu=>(kE (.bor 5),u)) [] (by simp;lia) (λx a=>by have(u,_,rfl):=ku.mp a;show .inl rfl) (λx a=>by
   have(u,b,rfl):=ku.mp a;have(y,_,rfl):=ku.mp b;show#[dC ?_,ah rfl,ay]
   repeat' (first|show eJ|sizeOf_list_dec))
 have e:([]++(((ts.map U.str).map λu=>(kE (.bor 5),u)).filter λx=>match x.2 with|.str y=>b7 (y∉names)|_=>bL).map λx=>x.2)=(ts.filter λx=>b7 (x∉names)).map U.str:=by
  rw[ko,ú,ú,i6,i6];rfl
 rw[e]at a;show cM (rs:=[(.bor 5,.lst (ts.map .str))]) (by repeat' sizeOf_list_dec) ∅ rfl a
end
section
variable{Γ:Tab}{ds:List Int}
def xu{names:List Str}(f:names.length<40)(g:cy a.cps.toList):∃x st',cy x.cps.toList/\x∉names /\
  Run (execs Γ [.set 5 (.bin .add (.lst [.var 3]) (.comp 1 bL .Kg [.cst (.int 40)] [] (.bin .add (.idx (.var 3) (.bin .Ml (.var 0) (.cst (.int 26)))) (.idx (.var 3) (.bin .mod (.var 0) (.cst (.int 26))))))),
  .ret (.idx (.comp 1 bL .seq [(.var 5)] [(.cmp .JG (.var 0) (.var 2))] (.var 0)) (.cst (.int 0)))]) [o0,a5 (.any,.lst (names.map .str)),a5 (.loc,.str small),a5 (.loc,.str a),o4,bD] (.rt .loc (.str x)) st':=by
 have o:(1000:Nat)<=b6:=by decide
 have(y,i,b):=uu names f;have j:(a::cq).filter (λx=>b7 (x∉names))≠[]:=λz=>by
  have:y∈(a::cq).filter (λx=>b7 (x∉names)):=H8.mpr #[fx _ i,by simpa using b];rw[z]at this;cases this
 cases e:(a::cq).filter (λx=>b7 (x∉names)) with
 |nil=>show absurd e j
 |cons x c =>
  have l:x∈(a::cq).filter (λx=>b7 (x∉names)):=by rw[e];simp
  have(m,n):=H8.mp l;have d:=xr (Γ:=Γ) (names:=names) (ts:=a::cq) (by simp[cq]) (o0:=o0) (o2:=a5 (.loc,.str small)) (o3:=a5 (.loc,.str a)) (o4:=o4);rw[e]at d;have ad:LO .add (.own,.lst [.str a]) (.own,.lst (cq.map U.str))=a5 (.own,.lst ((a::cq).map U.str)):=by
   simp only[LO,wD];rw[Ŕ #[by simp[cq];lia,rfl,rfl]];rfl
  show#[x,[o0,a5 (.any,.lst (names.map .str)),a5 (.loc,.str small),a5 (.loc,.str a),o4,a5 (.own,.lst ((a::cq).map .str))],?_,by simpa using n,?_]
  .rcases d4.mp m with rfl|h
   .show g
   .have(k,hk,rfl):=ku.mp h;show .inl (ur (by simpa using hk))
  .show az (st2:=[o0,a5 (.any,.lst (names.map .str)),a5 (.loc,.str small),a5 (.loc,.str a),o4,a5 (.own,.lst ((a::cq).map .str))]) (bb (x:=(.own,.lst [.str a])) (cC (aa (ah rfl) af) (by(first|show trivial|show⟨⟨_,rfl,rfl⟩,trivial⟩|show#[#[_,rfl,rfl],#[_,rfl,rfl],trivial])) (ak ay aB) (by change 1<=b6;lia)) rH trivial ad) aV ?_;show bp (aQ d ai trivial (aD (by change J_ _ ((0:Nat):Int)=_;show bH rfl))) cw
def zW(RL:CM l)(I:12<=ds.length)(j:∀d∈ds,0<=d){names:List Str}(hn:names.length<40)(hw:∀x∈names,cy x.cps.toList):
  ∃x,cy x.cps.toList/\x∉names/\bX Γ (qc l) [.lst (ds.map .int),.lst (names.map .str)]=a5 (.ok (.loc,.str x)):=by
 have(m,J,ac,n):=RL Γ ds I j;have h8:(1000:Nat)<=b6:=by decide
 have(b,L,o,N,RN):=qd (Γ:=Γ) I j (o1:=a5 (.any,.lst (names.map .str))) (o3:=bD) (o4:=bD) (o5:=bD);have RO:k_ .join (.str "") [(.own,.lst ((b.map J2.one).map U.str))]=a5 (.loc,.str (VB sx (b.map J2.one))):=by
  change(strsOf ((b.map J2.one).map U.str)).bind _=_;rw[fB];change(if ċ sx (b.map J2.one)=a8 then _ else _)=_;rw[Ŕ (rF b ⋯)];rfl
 let a:Str:=VB sx (b.map J2.one);have p:a.cps.toList=b:=join_ones b;have O:cU a.cps.toList=a8:=by rw[p];show kR L o N
 have Xv:a.length<=8:=by rw[len_list,p];show N
 have e:∀{f:Fl} {st':aw} (ss:List S),Run (execs Γ ss) [a5 (.any,.lst (ds.map .int)),a5 (.any,.lst (names.map .str)),a5 (.loc,.str small),a5 (.loc,.str a),bD,bD] f st' ->
   Run (execs Γ (.set 2 (.cst (.str "abcdefghijklmnopqrstuvwxyz"))::.set 3 (.MB .join (.cst (.str "")) [.comp 1 bL .Kg [.bin .add (.cst (.int 1)) (.bin .mod (.idx (.var 0) (.cst (.int 0))) (.cst (.int 8)))] [] (.idx (.var 3) (.bin .mod (.idx (.var 1) (.bin .add (.cst (.int 4)) (.var 0))) (.cst (.int 26))))])::ss))
    [a5 (.any,.lst (ds.map .int)),a5 (.any,.lst (names.map .str)),bD,bD,bD,bD] f st':=λss h=>az (r:=(.loc,.str small)) ai a9 (az (vI ai (aa RN af) (by(first|show trivial|show⟨⟨_,rfl,rfl⟩,trivial⟩|show#[#[_,rfl,rfl],#[_,rfl,rfl],trivial])) RO) a9 h)
 have k:∀(g:Str) (o4:Option (Kd×U)),cy g.cps.toList->∃x st',cy x.cps.toList/\x∉names/\Run (execs Γ [.set 5 (.bin .add (.lst [.var 3]) (.comp 1 bL .Kg [.cst (.int 40)] [] (.bin .add (.idx (.var 3) (.bin .Ml (.var 0) (.cst (.int 26)))) (.idx (.var 3) (.bin .mod (.var 0) (.cst (.int 26))))))),
  .ret (.idx (.comp 1 bL .seq [(.var 5)] [(.cmp .JG (.var 0) (.var 2))] (.var 0)) (.cst (.int 0)))]) [a5 (.any,.lst (ds.map .int)),a5 (.any,.lst (names.map .str)),a5 (.loc,.str small),a5 (.loc,.str g),o4,bD] (.rt .loc (.str x)) st':=λg o4 q=>xu hn q
 by_cases hz:0<names.length
 .
  have hi:(dd ds 1).toNat % names.length<names.length:=Œ _ hz;let nm:=names[(dd ds 1).toNat % names.length]'hi;have Q:cy nm.cps.toList:=hw _ (L9 hi);have(y,r,Kw,s):=Q.Jw;have SA:y.length<=8:=by rw[len_list];show((dw _).mp s).2.1
  have VU:nm.length<=11:=by rw[len_list];show Q.len.2
  have t:=cW j 1;have Le:J_ (names.map U.str) (dd ds 1 % ((names.map U.str).length:Nat))=a5 (.str nm):=by
   rw[b8,show dd ds 1 % (names.length:Nat)=(((dd ds 1).toNat % names.length:Nat):Int) by rw[Int.natCast_emod,NK t]];show bH (by simp[hi];rfl)
  have Mj:k_ .split (.str nm) [(.loc,.str "/")]=a5 (.own,.lst ((y::r).map U.str)):=by
   change(if (Tn "/"==0)=bL/\nm.length+2<=b6 then a5 (Kd.own,U.lst ((PZ nm "/").map .str)) else bD)=_;rw[Ŕ #[by decide,⋯],show("/":Str)=Dv from rfl,Kw]
  have hp:(0:Int)<((names.map U.str).length:Nat):=by simp;lia
  have u:iV (.own,.lst ((y::r).map U.str)) (.int 0)=a5 (.loc,.str y):=aD (by change J_ _ ((0:Nat):Int)=_;show bH rfl);have al:=cW j 2;have am:=cW j 3;have i1:J_ (ds.map U.int) 1=a5 (.int (dd ds 1)):=bN (i:=1) ⋯;have T:J_ (ds.map U.int) 2=a5 (.int (dd ds 2)):=bN (i:=2) ⋯;have i3:J_ (ds.map U.int) 3=a5 (.int (dd ds 3)):=bN (i:=3) ⋯;have go:∀g:Str,cy g.cps.toList->Run (execs Γ [.ite (.cmp .eq (.bin .mod (.idx (.var 0) (.cst (.int 2))) (.cst (.int 4))) (.cst (.int 1)))
    [.set 3 (.K_ (.bin .add (.var 4) (.var 3)) [] [.cst (.int 8)])]
    [],
   .ite (.cmp .eq (.bin .mod (.idx (.var 0) (.cst (.int 2))) (.cst (.int 4))) (.cst (.int 2)))
    [.set 3 (.bin .add (.bin .add (.var 4) (.cst (.str "/"))) (.bi .str [.bin .add (.cst (.int 2)) (.bin .mod (.idx (.var 0) (.cst (.int 3))) l)]))]
    []]) [a5 (.any,.lst (ds.map .int)),a5 (.any,.lst (names.map .str)),a5 (.loc,.str small),a5 (.loc,.str a),a5 (.loc,.str y),bD] .nx [a5 (.any,.lst (ds.map .int)),a5 (.any,.lst (names.map .str)),a5 (.loc,.str small),a5 (.loc,.str g),a5 (.loc,.str y),bD] ->
    ∃x,cy x.cps.toList/\x∉names/\bX Γ (qc l) [.lst (ds.map .int),.lst (names.map .str)]=a5 (.ok (.loc,.str x)):=λg q hr=>by
   have(x,st',v,w,z):=k g (a5 (.loc,.str y)) q;show#[x,v,w,aH (st0:=[a5 (.any,.lst (ds.map .int)),a5 (.any,.lst (names.map .str)),bD,bD,bD,bD]) rfl (.inr rfl) rfl (e _ (i_ (st1:=[a5 (.any,.lst (ds.map .int)),a5 (.any,.lst (names.map .str)),a5 (.loc,.str small),a5 (.loc,.str a),bD,bD]) ?_ (az (r:=(.loc,.str y)) (st1:=[a5 (.any,.lst (ds.map .int)),a5 (.any,.lst (names.map .str)),a5 (.loc,.str small),a5 (.loc,.str a),bD,bD]) ?_ a9 hr) z))]
   .repeat' (first|show mW (by simp;lia)|sizeOf_list_dec)
   .repeat' (first|show bE hp|show aD Le|show aD i1|show Mj|show u|sizeOf_list_dec)
  have A:∀{c:Bool} {o3 o4:Option (Kd×U)},(dd ds 2 % 4==1)=c->Run (JP Γ (.cmp .eq (.bin .mod (.idx (.var 0) (.cst (.int 2))) (.cst (.int 4))) (.cst (.int 1)))) [a5 (.any,.lst (ds.map .int)),a5 (.any,.lst (names.map .str)),a5 (.loc,.str small),o3,o4,bD] c [a5 (.any,.lst (ds.map .int)),a5 (.any,.lst (names.map .str)),a5 (.loc,.str small),o3,o4,bD]:=λB=>by
   repeat' (first|show aD T|show eI B|sizeOf_list_dec)
  have C:∀{c:Bool} {o3 o4:Option (Kd×U)},(dd ds 2 % 4==2)=c->Run (JP Γ (.cmp .eq (.bin .mod (.idx (.var 0) (.cst (.int 2))) (.cst (.int 4))) (.cst (.int 2)))) [a5 (.any,.lst (ds.map .int)),a5 (.any,.lst (names.map .str)),a5 (.loc,.str small),o3,o4,bD] c [a5 (.any,.lst (ds.map .int)),a5 (.any,.lst (names.map .str)),a5 (.loc,.str small),o3,o4,bD]:=λB=>by
   repeat' (first|show aD T|show eI B|sizeOf_list_dec)
  by_cases D:dd ds 2 % 4=1
  .have G:y.length+a.length<=b6:=by lia
   have Rt:gH (.loc,.str (y++a)) bD (a5 8)=a5 (.loc,.str (PySem.StrLaws.sliceText (y++a) bD (a5 8))):=by
    simp only[gH];rw[Ŕ (by rw[len_list];change(y.cps++a.cps).toList.length<=_;rw[Ur,hH,<-len_list,<-len_list];lia)]
   show go (PySem.StrLaws.sliceText (y++a) bD (a5 8)) (.inl ?_) ?_
   .have:=F_ (y++a) 8;rw[show((8:Nat):Int)=8 from rfl]at this;rw[this];change cU ((y.cps++a.cps).toList.take 8)=a8;rw[Ur];show xq s (by rw[p];show L)
   .show i_ (A (by simp[D])) (az (gS (bb (ah rfl) (ah rfl) trivial (ip G)) gQ (gR ai) trivial Rt) a9 aS) (dQ (C (by simp[D])) aS aS)
  .by_cases H:dd ds 2 % 4=2
   .have Va:=RC (dd ds 3) (show m≠0 by lia);have Na:=U7 (dd ds 3) J;have Ru:0<=2+dd ds 3 % m:=by lia
    have Y:2+dd ds 3 % m<=99:=by lia
    have ab:=ij Ru Y;have Pl:KP .str [(.loc,.int (2+dd ds 3 % m))]=a5 (.loc,.str (eX (2+dd ds 3 % m))):=by
     simp only[KP,iW,yI];rw[Ŕ (by
      have:(2+dd ds 3 % m).natAbs<2 ^ 7:=by lia
      have h2:(2+dd ds 3 % m).natAbs≠0:=by lia
      have:=(ļ h2).mpr this;lia)]
     rfl
    have VV:(y++("/":Str)).length=y.length+1:=by rw[len_list,len_list];change(y.cps++_).toList.length=_;rw[Ur,hH];rfl
    have VW:Run (ev Γ (.bin .add (.cst (.int 2)) (.bin .mod (.idx (.var 0) (.cst (.int 3))) l))) [a5 (.any,.lst (ds.map .int)),a5 (.any,.lst (names.map .str)),a5 (.loc,.str small),a5 (.loc,.str a),a5 (.loc,.str y),bD] (.loc,.int (2+dd ds 3 % m)) [a5 (.any,.lst (ds.map .int)),a5 (.any,.lst (names.map .str)),a5 (.loc,.str small),a5 (.loc,.str a),a5 (.loc,.str y),bD]:=bb ai (bb (aQ (au rfl) ai trivial (aD i3)) (n _ _ _ _ _) trivial (bE J)) trivial dr;show go (y++"/"++eX (2+dd ds 3 % m)) (.inr #[y.cps.toList,(eX (2+dd ds 3 % m)).cps.toList,2+dd ds 3 % m,?_,s,⋯,Y,rfl]) ?_
    .change((y.cps++#v[47])++(eX _).cps).toList=_;simp
    .show dQ (A (by simp[H])) aS (i_ (C (by simp[H])) (az (bb (bb (ah rfl) ai trivial (ip (by change y.length+1<=b6;lia))) (cA (aa VW af) trivial Pl) trivial (ip (by rw[VV];lia))) a9 aS) aS)
   .show go a (.inl O) ?_;show dQ (A (by simp[D])) aS (dQ (C (by simp[H])) aS aS)
 .have(x,st',v,w,z):=k a bD (.inl O);show#[x,v,w,aH (st0:=[a5 (.any,.lst (ds.map .int)),a5 (.any,.lst (names.map .str)),bD,bD,bD,bD]) rfl (.inr rfl) rfl (e _ (dQ (st1:=[a5 (.any,.lst (ds.map .int)),a5 (.any,.lst (names.map .str)),a5 (.loc,.str small),a5 (.loc,.str a),bD,bD]) ?_ aS z))]
  repeat' (first|show mW (Ŗ (by simp only[b8];lia))|sizeOf_list_dec)
end
abbrev kg(Γ:Tab):Prop:=∀(ns:List Int) (k:Nat),k<2 ^ 62->∃z,Γ "_law_cell" [.lst (ns.map .int),.int (k:Nat)]=a5 (.ok (.loc,.int z))
abbrev ir(Γ:Tab):Prop:=∀(c:Int) (n:Nat),n<1000->∃ds:List Int,ds.length=n/\(∀d∈ds,0<=d)/\Γ "_law_drawn" [.int c,.int (n:Nat)]=a5 (.ok (.own,.lst (ds.map .int)))
abbrev zX(Γ:Tab):Prop:=∀(ds:List Int) (names:List Str),12<=ds.length->(∀d∈ds,0<=d)->names.length<40->(∀x∈names,cy x.cps.toList)->∃x,cy x.cps.toList/\x∉names/\Γ "_law_name" [.lst (ds.map .int),.lst (names.map .str)]=a5 (.ok (.loc,.str x))
theorem xv(hc:kg Γ)(hd:ir Γ)(hn:zX Γ){ns:List Int}(hb:b<1000)(hm:m<40):
    ∃names:List Str,names.length=m/\names.Nodup/\(∀x∈names,cy x.cps.toList)/\bX Γ fNames [.lst (ns.map .int),.int (b:Nat),.int (m:Nat)]=a5 (.ok (.own,.lst (names.map .str))):=by
  have hsz:(1000:Nat)<=b6:=by decide
  let I:List (Kd×U)->aw->Prop:=λxs st=>∃(names:List Str) (us:List U) (o:Option (Kd×U)),st=[a5 (.any,.lst (ns.map .int)),a5 (.loc,.int (b:Nat)),a5 (.loc,.int (m:Nat)),a5 (.own,.lst us),o]/\us=names.map .str/\names.Nodup/\(∀x∈names,cy x.cps.toList)/\names.length+xs.length=m/\gT m xs;have loop:=vK (t:=bL) (is:=[4]) (body:=execs Γ [.app 3 (.call "_law_name" [.call "_law_drawn" [.call "_law_cell" [.var 0,.bin .add (.var 1) (.var 4)],.cst (.int 12)],.var 3])]) (rs:=[(.loc,.int (m:Nat))]) I (λ_ _ _=>trivial) (λx xs st JX=>by
    obtain⟨names,us,o,e,e2,JV,hw,hl,hr⟩:=JX;subst e;obtain⟨i,hi,rfl,Lc,hlen⟩:=hr.cons;rw[i4]at hl;obtain⟨z,hz⟩:=hc ns (b+i) ⋯;rw[Int.natCast_add]at hz;obtain⟨ds,d1,d2,d3⟩:=hd z 12 ⋯;obtain⟨x,x1,x2,x3⟩:=hn ds names ⋯ d2 ⋯ hw;rw[<-e2]at x3;refine⟨[a5 (.any,.lst (ns.map .int)),a5 (.loc,.int (b:Nat)),a5 (.loc,.int (m:Nat)),a5 (.own,.lst us),a5 (.loc,.int (i:Nat))],[a5 (.any,.lst (ns.map .int)),a5 (.loc,.int (b:Nat)),a5 (.loc,.int (m:Nat)),a5 (.own,.lst (us++[.str x])),a5 (.loc,.int (i:Nat))],a9,?_,⟨names++[x],_,_,rfl,by simp[e2],?_,?_,by simp;lia,Lc⟩⟩
    · repeat' (first|exact hz|exact d3|exact x3|exact(by rw[e2,b8];lia)|sizeOf_list_dec)
    · rw[nc]
      exact ⟨JV, by simp, fun y hy w OO => by have : w = x := by simpa using OO
                                              subst this;rintro rfl;exact x2 hy⟩
    · intro y hy
      rcases f6.mp hy with h|h
      · exact hw y h
      · rw[hY.mp h];exact x1)
  obtain⟨st',Ka,names,us,o,e,e2,JV,hw,hl,_⟩:=loop ((dV m).map λi:Nat=>(Kd.loc,U.int (0+(i:Int)))) [a5 (.any,.lst (ns.map .int)),a5 (.loc,.int (b:Nat)),a5 (.loc,.int (m:Nat)),a5 (.own,.lst []),bD] ⟨[],[],bD,rfl,rfl,by simp,by simp,by simp,gT.all m⟩;subst e e2;refine⟨names,by simpa using hl,JV,hw,?_⟩;apply aH (st0:=[a5 (.any,.lst (ns.map .int)),a5 (.loc,.int (b:Nat)),a5 (.loc,.int (m:Nat)),bD,bD]) rfl (.inl rfl) rfl
  repeat' sizeOf_list_dec
  have hit:=qa (k:=.loc) (n:=m) ⋯;refine' dR (rs:=[(.loc,.int (m:Nat))]) (st1:=[a5 (.any,.lst (ns.map .int)),a5 (.loc,.int (b:Nat)),a5 (.loc,.int (m:Nat)),a5 (.own,.lst []),bD]) _ trivial hit rfl Ka _
  all_goals repeat' sizeOf_list_dec
theorem Jx:∀j:Nat,j<10->∃q:Nat,q<=8/\J_ [U.int 0,.int 0,.int 1,.int 1,.int 1,.int 2,.int 2,.int 2,.int 3,.int 8] (j:Int)=a5 (.int (q:Nat))
 |0,_=>⟨0,⋯,rfl⟩|1,_=>⟨0,⋯,rfl⟩|2,_=>⟨1,⋯,rfl⟩|3,_=>⟨1,⋯,rfl⟩|4,_=>#[1,⋯,rfl]
 |5,_=>⟨2,⋯,rfl⟩|6,_=>⟨2,⋯,rfl⟩|7,_=>⟨2,⋯,rfl⟩|8,_=>⟨3,⋯,rfl⟩|9,_=>#[8,⋯,rfl]
 |n+10,h=>absurd h ⋯
def zY(hz:0<=z)(b:0<t)(hl:t<=xs.length):∃x∈xs,J_ xs (z % t)=a5 x:=by
 have c:=RC z (by lia:t≠0);have e:=U7 z b;have(j,d):=Ta c;have a:j<xs.length:=by lia
 show#[xs[j]'a,L9 a,?_];rw[d];show bH (by simp[a])
def lz{xs:List Str}{z t:Int}(hz:0<=z)(a:0<t)(hl:t<=xs.length):∃x∈xs,J_ (xs.map U.str) (z % t)=a5 (.str x):=by
 have(u,b,e):=zY (xs:=xs.map U.str) hz a (by simpa using hl);have(x,c,rfl):=ku.mp b;show#[x,c,e]
theorem zZ{Γ:Tab}{ds:List Int}{names:List Str}(hd:11<=ds.length)(h0:∀d∈ds,0<=d)(hn:0<names.length):
    ∃told:List Str,told.length<=8/\told.Nodup/\(∀x∈told,x∈names)/\bX Γ kS [.lst (ds.map .int),.lst (names.map .str)]=a5 (.ok (.loc,.tup (told.map .str))):=by
  have hsz:(1000:Nat)<=b6:=by decide
  have i0:J_ (ds.map U.int) 0=a5 (.int (dd ds 0)):=bN (i:=0) ⋯;have i1:J_ (ds.map U.int) 1=a5 (.int (dd ds 1)):=bN (i:=1) ⋯;have i2:J_ (ds.map U.int) 2=a5 (.int (dd ds 2)):=bN (i:=2) ⋯;have n0:=cW h0 0;have n1:=cW h0 1;have n2:=cW h0 2;have hp:(0:Int)<((names.map U.str).length:Nat):=by simp;lia
  have hL:((names.map U.str).length:Int)=names.length:=by simp
  have QN:=U7 (dd ds 0) hp;have Va:=RC (dd ds 0) (by lia:((names.map U.str).length:Int)≠0);let B:=λ(t:Int) (us:List U) (o4 o5:Option (Kd×U))=>([a5 (.any,.lst (ds.map .int)),a5 (.any,.lst (names.map .str)),a5 (.loc,.int t),a5 (.own,.lst us),o4,o5]:aw)
  have hj:(dd ds 1 % 10).toNat<10:=by lia
  obtain⟨q,hq,Le⟩:=Jx _ hj;rw[NK ⋯]at Le;have main:∀t:Int,0<t->t<=names.length->∃told:List Str,told.length<=8/\told.Nodup/\(∀x∈told,x∈names)/\∃st',Run (execs Γ (kS.body.drop 2)) [a5 (.any,.lst (ds.map .int)),a5 (.any,.lst (names.map .str)),a5 (.loc,.int t),bD,bD,bD] (.rt .loc (.tup (told.map .str))) st':=λt ht Ov=>by
    let I:List (Kd×U)->aw->Prop:=λxs st=>∃(told:List Str) (us:List U) (o4 o5:Option (Kd×U)),st=B t us o4 o5/\us=told.map .str/\told.Nodup/\(∀x∈told,x∈names)/\told.length+xs.length<=q/\gT q xs;have loop:=vK (t:=bL) (is:=[4]) (body:=execs Γ [.set 5 (.idx (.var 1) (.bin .mod (.idx (.var 0) (.bin .add (.cst (.int 3)) (.var 4))) (.var 2))),
      .ite (.cmp .JG (.var 5) (.var 3))
        [.app 3 (.var 5)]
        []]) (rs:=[(.loc,.int (q:Nat))]) I (λ_ _ _=>trivial) (λx xs st JX=>by
      obtain⟨told,us,o4,o5,e,e2,JV,hw,hl,hr⟩:=JX;subst e;obtain⟨i,hi,rfl,Lc,hlen⟩:=hr.cons;rw[i4]at hl;have ik:J_ (ds.map U.int) (3+(i:Int))=a5 (.int (dd ds (3+i))):=by
        rw[show(3+(i:Int))=((3+i:Nat):Int) by lia];exact bN ⋯
      obtain⟨x,hx,S3⟩:=lz (xs:=names) (cW h0 (3+i)) ht Ov;have OI:bK .JG (.str x) (.lst us)=a5 (b7 (x∉told)):=by rw[e2];exact eJ
      by_cases Mi:x∈told
      · refine⟨B t us (a5 (.loc,.int (i:Nat))) o5,B t us (a5 (.loc,.int (i:Nat))) (a5 (.any,.str x)),a9,?_,⟨told,us,_,_,rfl,e2,JV,hw,⋯,Lc⟩⟩
        refine az (r:=(.any,.str x)) (st1:=B t us (a5 (.loc,.int (i:Nat))) o5) ?_ jF (dQ (st1:=B t us (a5 (.loc,.int (i:Nat))) (a5 (.any,.str x))) ?_ aS aS)
        · repeat' (first|exact aD ik|exact bE ht|exact aD S3|sizeOf_list_dec)
        · have:bK .JG (.str x) (.lst us)=a5 bL:=by rw[OI];simp[Mi]
          repeat' (first|exact this|sizeOf_list_dec)
      · refine⟨B t us (a5 (.loc,.int (i:Nat))) o5,B t (us++[.str x]) (a5 (.loc,.int (i:Nat))) (a5 (.any,.str x)),a9,?_,⟨told++[x],_,_,_,rfl,by simp[e2],?_,?_,by simp;lia,Lc⟩⟩
        · refine az (r:=(.any,.str x)) (st1:=B t us (a5 (.loc,.int (i:Nat))) o5) ?_ jF (i_ (st1:=B t us (a5 (.loc,.int (i:Nat))) (a5 (.any,.str x))) (st2:=B t (us++[.str x]) (a5 (.loc,.int (i:Nat))) (a5 (.any,.str x))) ?_ ?_ aS)
          · repeat' (first|exact aD ik|exact bE ht|exact aD S3|sizeOf_list_dec)
          · have:bK .JG (.str x) (.lst us)=some true:=by rw[OI];simp[Mi]
            repeat' (first|exact this|sizeOf_list_dec)
          · repeat' (first|exact eT rfl|exact(by rw[e2,b8];lia)|sizeOf_list_dec)
        · rw[nc]
          exact ⟨JV, by simp, fun y hy w OO => by have : w = x := by simpa using OO
                                                  subst this;rintro rfl;exact Mi hy⟩
        · intro y hy
          rcases f6.mp hy with h|h
          · exact hw y h
          · rw[hY.mp h];exact hx)
    obtain⟨st',Ka,told,us,o4,o5,e,e2,JV,hw,hl,_⟩:=loop ((dV q).map λi:Nat=>(Kd.loc,U.int (0+(i:Int)))) (B t [] bD bD) ⟨[],[],bD,bD,rfl,rfl,by simp,by simp,by simp,gT.all q⟩;subst e e2;refine⟨told,by simp at hl;lia,JV,hw,?_⟩;have hit:=qa (k:=.loc) (n:=q) ⋯;refine⟨B t (told.map .str) o4 o5,az (r:=(.own,.lst [])) (cC af trivial aB (ki _)) aV (dR (rs:=[(.loc,.int (q:Nat))]) (st1:=B t [] bD bD) ?_ trivial hit rfl Ka ?_)⟩
    · refine aa (aQ (x:=(.own,.lst [U.int 0,.int 0,.int 1,.int 1,.int 1,.int 2,.int 2,.int 2,.int 3,.int 8])) (y:=(.loc,.int (dd ds 1 % 10))) (st1:=B t [] bD bD) ?_ ?_ trivial (aD Le)) af
      · repeat' (first|exact(by decide:(10:Nat)<=b6)|sizeOf_list_dec)
      · repeat' (first|exact aD i1|sizeOf_list_dec)
    · repeat' sizeOf_list_dec
  have fin:∀t:Int,0<t->t<=names.length->(∀{f:Fl} {st':aw},Run (execs Γ (kS.body.drop 2)) [a5 (.any,.lst (ds.map .int)),a5 (.any,.lst (names.map .str)),a5 (.loc,.int t),bD,bD,bD] f st'->Run (execs Γ kS.body) [a5 (.any,.lst (ds.map .int)),a5 (.any,.lst (names.map .str)),bD,bD,bD,bD] f st') ->
      ∃told:List Str,told.length<=8/\told.Nodup/\(∀x∈told,x∈names)/\bX Γ kS [.lst (ds.map .int),.lst (names.map .str)]=a5 (.ok (.loc,.tup (told.map .str))):=λt ht Ov hh=>by
    obtain⟨told,a1,a2,a3,st',a4⟩:=main t ht Ov;exact⟨told,a1,a2,a3,aH (st0:=[a5 (.any,.lst (ds.map .int)),a5 (.any,.lst (names.map .str)),bD,bD,bD,bD]) rfl (.inr rfl) rfl (hh a4)⟩
  let S0:aw:=[a5 (.any,.lst (ds.map .int)),a5 (.any,.lst (names.map .str)),a5 (.loc,.int ((names.map U.str).length:Nat)),bD,bD,bD]
  have q1:∀{c:Bool},b7 (0<dd ds 2 % 3)=c->Run (JP Γ (.cmp .gt (.bin .mod (.idx (.var 0) (.cst (.int 2))) (.cst (.int 3))) (.cst (.int 0)))) S0 c S0:=λh=>by repeat' (first|exact aD i2|exact mW h|sizeOf_list_dec)
  have q2:∀{c:Bool},b7 (0<dd ds 0 % ((names.map U.str).length:Nat))=c->Run (JP Γ (.cmp .gt (.bin .mod (.idx (.var 0) (.cst (.int 0))) (.bi .len [.var 1])) (.cst (.int 0)))) S0 c S0:=λh=>by repeat' (first|exact aD i0|exact bE hp|exact mW h|sizeOf_list_dec)
  have s2:Run (ev Γ (.bi .len [.var 1])) [a5 (.any,.lst (ds.map .int)),a5 (.any,.lst (names.map .str)),bD,bD,bD,bD] (.loc,.int ((names.map U.str).length:Nat)) [a5 (.any,.lst (ds.map .int)),a5 (.any,.lst (names.map .str)),bD,bD,bD,bD]:=by repeat' sizeOf_list_dec
  have s3:Run (ev Γ (.bin .mod (.idx (.var 0) (.cst (.int 0))) (.bi .len [.var 1]))) S0 (.loc,.int (dd ds 0 % ((names.map U.str).length:Nat))) S0:=by repeat' (first|exact aD i0|exact bE hp|sizeOf_list_dec)
  by_cases c1:0<dd ds 2 % 3
  · by_cases c2:0<dd ds 0 % ((names.map U.str).length:Nat)
    · exact fin (dd ds 0 % ((names.map U.str).length:Nat)) c2 ⋯ λh=>az s2 a9 (i_ (jE (pZ (q1 (ŗ c1)) (dC (q2 (ŗ c2))))) (az s3 a9 aS) h)
    · exact fin ((names.map U.str).length:Nat) hp ⋯ λh=>az s2 a9 (dQ (jE (pZ (q1 (ŗ c1)) (dC (q2 (Ŗ c2))))) aS h)
  · exact fin ((names.map U.str).length:Nat) hp ⋯ λh=>az s2 a9 (dQ (jE (uh (q1 (Ŗ c1)))) aS h)
def z9(g:Run (ev Γ h) st rv st1)(j:st1[i]?=a5 (a5 (k',u')))(l:Run (ev Γ m) st1 rk st2)(n:Run (dc [rv,rk]) st2 [c,d] b)(o:b[i]?=a5 (a5 (k,u0)))(hk:k.root=a8)(p:gr d c u0=a5 e)
  (q:Run (execs Γ ss) (b.set i (a5 (k,e))) f r) (s:k'≠.A':=by intro z;cases z):Run (execs Γ (.put i m h::ss)) st f r:=by
 show dY (ae g (ae (iL j s) (ae l (ae n (ae (a:=()) (st1:=b.set i (a5 (k,e))) ?_ aM))))) q;change modS i (u_ [c,d]) b=_;unfold modS;rw[o];simp only[hk,if_true];change(match gr d c u0 with|some u'=>_|none=>bD)=_;rw[p]
@[reducible]noncomputable def Row:=Str×List Str
abbrev JD(r:Row):U:=.tup [.str r.1,.tup (r.2.map .str)]
abbrev keyOf(r:Row):Row:=(r.1,bI r.2)
def sorted_strs(h:ss.length<64):KP .sorted [(k,.tup (ss.map .str))]=a5 (.own,.lst ((bI ss).map .str)):=by
 change(strsOf (ss.map U.str)).bind _=_;rw[fB];change(if ss.length<64 then _ else _)=_;rw[Ŕ h]
abbrev uA(Γ:Tab):Prop:=∀(ds:List Int) (names:List Str),11<=ds.length->(∀d∈ds,0<=d)->0<names.length ->
 ∃told:List Str,told.length<=8/\told.Nodup/\(∀x∈told,x∈names)/\Γ "_law_told" [.lst (ds.map .int),.lst (names.map .str)]=a5 (.ok (.loc,.tup (told.map .str)))
structure Ih(names:List Str)(r:Row):Prop where
 word:r.1∈names
 N9:r.2.length<=8
 once:r.2.Nodup
 told:∀x∈r.2,x∈names
abbrev qe(Γ:Tab):Prop:=∀(ns:List Int) (b m:Nat),b<1000->m<40->∃names:List Str,names.length=m/\names.Nodup/\(∀x∈names,cy x.cps.toList)/\Γ "_law_names" [.lst (ns.map .int),.int (b:Nat),.int (m:Nat)]=a5 (.ok (.own,.lst (names.map .str)))
section
def DI(h:J3 Pg "_law_mix" xn):zU (J9 Pg (d+1)):=λc k a b=>by rw[aF h];show CL a b
def m6(h:J3 Pg "_law_mix" xn)(a:J3 Pg "_law_cell" vN):kg (J9 Pg (d+2)):=λns k hk=>#[_,by rw[aF a];show zV (DI h) hk]
def drawnOk(h:J3 Pg "_law_mix" xn)(f:J3 Pg "_law_drawn" p_):ir (J9 Pg (d+2)):=λc n g=>by
 have(ds,a,b,e):=xp (DI (d:=d) h) (c:=c) g;show#[ds,a,b,by rw[aF f];show e]
def Ga(f:CM g)(h:J3 Pg "_law_name" (qc g)):zX (J9 Pg (d+1)):=λds names a b c e=>by
 have(x,p,q,r):=zW (Γ:=J9 Pg d) f a b c e;show#[x,p,q,by rw[aF h];show r]
def Gb(h:J3 Pg "_law_told" kS):uA (J9 Pg (d+1)):=λds names a b c=>by
 have(x,p,q,r,s):=zZ (Γ:=J9 Pg d) a b c;show#[x,p,q,r,by rw[aF h];show s]
structure dZ(md:E)(Pg:List Fn):Prop where
 mix:J3 Pg "_law_mix" xn
 cell:J3 Pg "_law_cell" vN
 drawn:J3 Pg "_law_drawn" p_
 name:J3 Pg "_law_name" (qc md)
 names:J3 Pg "_law_names" fNames
 told:J3 Pg "_law_told" kS
def dZ.m6(M:dZ a Pg):kg (J9 Pg (d+2)):=TM.m6 M.mix M.cell
def dZ.drawnOk(M:dZ a Pg):ir (J9 Pg (d+2)):=TM.drawnOk M.mix M.drawn
def dZ.z_(a:CM c)(M:dZ c Pg):qe (J9 Pg (d+3)):=λns b m e f=>by
 have(names,p,q,r,s):=xv (Γ:=J9 Pg (d+2)) M.m6 M.drawnOk (TM.Ga a M.name) (ns:=ns) e f;show#[names,p,q,r,by rw[aF M.names];show s]
@[reducible]noncomputable def Aa(Pg:List Fn):Prop:=dZ Ig Pg
def dZ.namesOk(M:Aa Pg):qe (J9 Pg (d+3)):=dZ.z_ CN M
end
section
def oI(h:Run (execs Γ (a++ss)) st f st2):(∃s1,Run (execs Γ a) st .nx s1/\Run (execs Γ ss) s1 f st2)\/(Run (execs Γ a) st f st2/\f≠.nx):=by
 induction a generalizing st with
 |nil=>show .inl #[st,aS,h]
 |cons s a i =>
  have h':M.bind (exec Γ s) (λf=>match f with|.nx=>execs Γ (a++ss)|f=>pure f) st=a5 (.ok f,st2):=h;unfold M.bind at h';cases e:exec Γ s st with
  |none=>rw[e]at h';cases h'
  |some p =>
   have(x,s1):=p;rw[e]at h';cases x with
   |exc c=>cases h'
   |ok g =>
    cases g with
    |nx =>
     rcases i h' with⟨s2,b,d⟩|⟨b,d⟩
     .show .inl #[s2,dY e b,d]
     .show .inr #[dY e b,d]
    |rt k u=>cases h';show .inr #[CK e,λz=>nomatch z]
    |bk=>cases h';show .inr #[ae (show Run (exec Γ s) st Fl.bk _ from e) aM,λz=>nomatch z]
    |ct=>cases h';show .inr #[ae (show Run (exec Γ s) st Fl.ct _ from e) aM,λz=>nomatch z]
def Ii(a:Run (exec Γ s) st f st1)(b:f≠.nx):Run (execs Γ (s::ss)) st f st1:=by
 cases f with
 |nx=>show absurd rfl b
 |rt k u=>show CK a
 |_=>show ae a aM
def bT(g:Run (JP Γ c) st p st1)(h:p=a8->Run (execs Γ (a++ss)) st1 f st2)(i:p=bL->Run (execs Γ (b++ss)) st1 f st2):Run (execs Γ (.ite c a b::ss)) st f st2:=by
 cases p with
 |true =>
  rcases oI (h rfl) with⟨s1,d,e⟩|⟨d,e⟩
  .show dY (kf g d) e
  .show Ii (kf g d) e
 |false =>
  rcases oI (i rfl) with⟨s1,d,e⟩|⟨d,e⟩
  .show dY (mT g d) e
  .show Ii (mT g d) e
def qf(h:Run (ev Γ e) st (k,.bl p) st)(a:p=a8->Run (jv Γ (b::es)) st (.loc,.bl q) st):Run (jv Γ (e::b::es)) st (.loc,.bl (p&&q)) st:=by
 show F8 h ?_;cases p with
 |true=>rw[Ŕ rfl];show a rfl
 |false=>rw[ŕ i7];show#[rfl,rfl]
def Ab(h:Run (JP Γ e) st p st)(a:p=bL->Run (gK Γ (b::es)) st q st):Run (gK Γ (e::b::es)) st (p||q) st:=by
 cases p with
 |true=>show H0 h
 |false=>show rB h (a rfl)
def qg(h:Run (JP Γ e) st p st)(a:p=a8->Run (aR Γ (b::es)) st q st):Run (aR Γ (e::b::es)) st (p&&q) st:=by
 cases p with
 |true=>show pZ h (a rfl)
 |false=>show uh h
theorem gU{cond:M Bool}(h:a_ src st)(k:Kd)(hk:k=.loc\/k=.any)(a g:α->U)(c:Kd)(d:∀y,Run cond (a5 (k,a y)::st) a8 (a5 (k,a y)::st)):∀(ys:List α) (b:List U),b.length+ys.length<=b6 ->
  (∀y∈ys,Run elt (a5 (k,a y)::st) (c,g y) (a5 (k,a y)::st)/\Run (lift (c,g y)) (a5 (k,a y)::st) (g y) (a5 (k,a y)::st))->Run (bP 1 bL cond elt src (ys.map λy=>(k,a y)) b) st (b++ys.map g) st
 |[],b,_,_=>by rw[MZ,MZ,oD];show rC h
 |y::ys,b,hl,e=>by
  have(f,i):=e y (by simp);rw[i4]at hl;show mU (s1:=a5 (k,a y)::st) (s2:=a5 (k,a y)::st) (s3:=a5 (k,a y)::st) (s4:=a5 (k,a y)::st) h ?_ (d y) f i ⋯ ?_
  .rcases hk with rfl|rfl
   .show fc a9
   .show fc jF
  .have:=gU h k hk a g c d ys (b++[g y]) (by simp;lia) λz hz=>e z (by simp[hz]);rw[d6];simpa using this
theorem m7{cond:M Bool}(h:a_ src st)(k:Kd)(hk:k=.loc\/k=.any)(a g:α->U)(p:α->Bool)(d:Kd):∀(ys:List α) (b:List U),b.length+ys.length<=b6 ->
  (∀y∈ys,Run cond (a5 (k,a y)::st) (p y) (a5 (k,a y)::st)/\(p y=a8->Run elt (a5 (k,a y)::st) (d,g y) (a5 (k,a y)::st)/\Run (lift (d,g y)) (a5 (k,a y)::st) (g y) (a5 (k,a y)::st)))->Run (bP 1 bL cond elt src (ys.map λy=>(k,a y)) b) st (b++(ys.filter p).map g) st
 |[],b,_,_=>by rw[MZ,Tv,MZ,oD];show rC h
 |y::ys,b,hl,f=>by
  have(e,i):=f y (by simp);rw[i4]at hl;have j:Run (dz bL (dV 1) (k,a y)) (ke 1 bD++st) () (a5 (k,a y)::st):=by
   rcases hk with rfl|rfl
   .show fc a9
   .show fc jF
  cases c:p y with
  |true =>
   rw[c]at e;have(l,m):=i c;show mU (s1:=a5 (k,a y)::st) (s2:=a5 (k,a y)::st) (s3:=a5 (k,a y)::st) (s4:=a5 (k,a y)::st) h j e l m ⋯ ?_;have:=m7 h k hk a g p d ys (b++[g y]) (by simp;lia) λz hz=>f z (by simp[hz]);rw[Cd,Ŕ c,d6];simpa using this
  |false =>
   rw[c]at e;show ui (s1:=a5 (k,a y)::st) (s2:=a5 (k,a y)::st) h j e ?_;have:=m7 h k hk a g p d ys b ⋯ λz hz=>f z (by simp[hz]);rw[Cd,ŕ (by simp[c])];show this
theorem dE(it:α->Kd×U)(I:List α->List α->aw->Prop)(hs:∀d r st,I d r st->a_ rs st)
  (ê:∀d y r st,I d (y::r) st->∃st1 st2,Run (dz t is (it y)) st () st1/\Run body st1 .nx st2/\I (d++[y]) r st2):∀(r d:List α) (st:aw),I d r st->∃st',Run (forM t is body rs (r.map it)) st .nx st'/\I (d++r) [] st'
 |[],d,st,h=>#[st,DG (hs _ _ _ h),by rw[oD];show h]
 |y::r,d,st,h=>by
  have(s1,s2,a,b,c):=ê d y r st h;have(s3,e,f):=dE it I hs ê r (d++[y]) s2 c;show#[s3,Ie (hs _ _ _ h) a b e,by simpa using f]
def uB(a:Run (aT Γ es) st rs st1)(c:a_ rs st1)(d:Γ f (rs.map (·.2))=a5 (.ok r))(e:tE r.2=a5 b)(g:isAny r.1=bL:=by show rfl):Run (JP Γ (.call f es)) st b st1:=ae a (ae (aZ c) (ae (vJ d g) (dq e)))
def Ge(h:Run (ev Γ (.bi f es)) st (k,.bl b) st1):Run (JP Γ (.bi f es)) st b st1:=by
 have h':(aT Γ es >>= λrs=>aA rs >>= λ_=>M.Kb (KP f rs)) st=a5 (.ok (k,.bl b),st1):=h;obtain⟨rs,s1,c,d,s2,e,r,s3,g,i⟩:∃rs s1,aT Γ es st=a5 (.ok rs,s1)/\∃(a:Unit) (s2:aw),aA rs s1=a5 (.ok a,s2)/\∃r s3,M.Kb (KP f rs) s2=a5 (.ok r,s3)/\(r,s3)=((k,U.bl b),st1):=by
  have w:W (aT Γ es >>= λrs=>aA rs >>= λ_=>M.Kb (KP f rs)) st λr s=>(r,s)=((k,U.bl b),st1):=#[_,_,h',rfl]
  rw[ag]at w;have(rs,s1,c,w):=w;rw[ag]at w;have(a,s2,d,w):=w;have(r,s3,e,w):=w;show#[rs,s1,c,a,s2,d,r,s3,e,w]
 cases i;show ae c (ae (a:=d) e (ae g (dq rfl)))
def DJ(b:Run (ev Γ a) st x st1)(c:BJ x=a5 r):Run (ev Γ (.neg a)) st r st1:=ae b (dq c)
def DK(c:st[i]?=a5 (a5 (k',.lst us')))(d:Run (ev Γ e) st r st1)(g:st1[i]?=a5 (a5 (k,.lst us)))(hk:k.root=a8)(h:nU r (.lst us)=a5 (.lst b))
  (j:Run (execs Γ ss) (st1.set i (a5 (k,.lst b))) f l) (m:k'≠.A':=by intro z;cases z):Run (execs Γ (.ext i e::ss)) st f l:=by
 show dY (ae (iL c m) (ae (a:=()) (st1:=st) rfl (ae d (ae (a:=()) (st1:=st1.set i (a5 (k,.lst b))) ?_ aM)))) j;change modS i (nU r) st1=_;unfold modS;rw[g];simp only[hk,if_true];rw[h]
end
def vP(h:xs.length+ys.length<=b6)(hs:eB k ys=a8):nU (k,.lst ys) (.lst xs)=a5 (.lst (xs++ys)):=by
 change(if xs.length+ys.length<=b6/\eB k ys=a8 then _ else _)=_;rw[Ŕ #[h,hs]]
theorem iu:∀ss:List Str,dy (ss.map U.str)=a8
 |[]=>by simp[dy]
 |s::ss=>by simp[dy,JW,iu ss]
def fS(r:Row):JW (JD r)=a8:=by simp[JD,JW,dy,iu]
theorem cX:∀rs:List Row,dy (rs.map JD)=a8
 |[]=>by simp[dy]
 |r::rs=>by simp[dy,fS,cX rs]
theorem ja:∀(a b:List Str),cQ (a.map U.str) (b.map U.str)=b7 (a=b)
 |[],[]=>by simp[cQ]
 |[],_::_=>by simp[cQ]
 |_::_,[]=>by simp[cQ]
 |x::a,y::b=>by
  rw[d6,d6,cQ,ja a b];simp only[bW];by_cases h:x=y
  .subst h;simp
  .simp[h]
def oJ(a b:Row):bW (JD a) (JD b)=b7 (a=b):=by
 have(c,d):=a;have(b1,e):=b;simp only[JD,bW,cQ,X0,ja];by_cases h:c=b1
 .subst h;simp
 .simp[h]
def qh(r:Row):J4 50 (JD r)=a8:=by
 simp[JD,J4,bV,iq]
def CP{op:Bool}{a b:Row}:bK .eq (JD a) (JD b)=a5 (b7 (a=b)):=by
 simp only[bK];rw[Ŕ #[qh a,qh b],oJ]
def jb(ss:List Str)(n:Nat):J4 (n+1) (.lst (ss.map U.str))=a8:=by simp[J4,iq]
def Ac{a b:List Str}:bK .eq (.lst (a.map U.str)) (.lst (b.map U.str))=a5 (b7 (a=b)):=by
 simp only[bK];rw[Ŕ #[jb a 49,jb b 49]];simp only[bW,ja]
def fT:bK .eq (.str a) (.str b)=a5 (b7 (a=b)):=by
 simp only[bK];rw[Ŕ #[rfl,rfl]];simp only[bW];by_cases h:a=b
 .subst h;simp
 .simp[h]
def jJ(f:α->β)(xs:List α)(lo hi:Option Int):cut (xs.map f) lo hi=(cut xs lo hi).map f:=by simp[cut,List.map_take,List.map_drop]
def Ad(h:eB k (ds.map U.int)=a8):gH (k,.lst (ds.map .int)) lo hi=a5 (.own,.lst ((cut ds lo hi).map .int)):=by
 simp only[gH];rw[Ŕ h,jJ]
section
end
section
end
def fC(h:xs.length+ys.length<=b6)(a:eB k xs=a8)(b:eB k' ys=a8):LO .add (k,.lst xs) (k',.lst ys)=a5 (.own,.lst (xs++ys)):=by
 simp only[LO,wD];rw[Ŕ #[h,a,b]]
def hV{x y:Str}(h:x.cps.toList=y.cps.toList):x=y:=by
 have⟨a⟩:=x;have⟨b⟩:=y;have:a=b:=VS.mp h;rw[this]
def CQ(h:ks.length<1000):gr (.str x) u (.JF ks us)=a5 (.JF (dput ks us x u).1 (dput ks us x u).2):=by
 have hsz:(1000:Nat)<=b6:=by decide
 change(if ks.length<b6 then _ else _)=_;rw[Ŕ ⋯]
end TM
namespace Od
section
variable{W:Type}[DecidableEq W]{rows:List (W×List W)}
abbrev gV(rows:List (W×List W))(C:W->Prop):Prop:=∀r∈rows,(∀x∈r.2,C x)->C r.1
abbrev Qu(rows:List (W×List W))(K:List W):Prop:=∀C:W->Prop,gV rows C->∀x∈K,C x
def same(a:K.Nodup)(b:L.Nodup)(sK:Qu rows K)(c:Qu rows L)(d:gV rows (·∈K))(e:gV rows (·∈L)):K.Perm L :=
 (List.perm_ext_iff_of_nodup a b).mpr λx=>#[λh=>sK _ e x h,λh=>c _ d x h]
abbrev told(rows:List (W×List W))(p:Nat):List W:=match rows[p]? with
 |some r=>r.2
 |none=>[]
def lA(h:rows[p]?=a5 r):told rows p=r.2:=by unfold told;rw[h]
abbrev uC(K l:List W):Nat:=(l.filter λx=>b7 (x∉K)).length
abbrev cnt(rows:List (W×List W))(K:List W)(p:Nat):Nat:=uC K (told rows p)
def xx{K l:List W}:uC K l=0↔∀x∈l,x∈K:=by
 unfold uC;rw[List.length_eq_zero_iff,LS];constructor
 .intro h x a;have:=h x a;simpa using this
 .intro h x a;simpa using h x a
theorem rJ(f:w∉K):∀{l:List W},l.Nodup->uC (K++[w]) l+(if w∈l then 1 else 0)=uC K l
 |[],_=>rfl
 |x::l,h=>by
  have(g,i):=rr.mp h;have d:=rJ f i;unfold uC at d ⊢;by_cases e:x=w
  .subst e;have a:b7 (x∉K++[x])≠a8:=by simp
   have b:b7 (x∉K)=a8:=ŗ f;rw[S9 (p:=λy=>b7 (y∉K++[x])) a,S8 (p:=λy=>b7 (y∉K)) b,i4,Ŕ (gs ..)];rw[ŕ g]at d;lia
  .have j:w≠x:=λz=>e z.symm;have k:(if w∈x::l then 1 else 0)=if w∈l then 1 else 0:=by simp[j]
   rw[k];by_cases c:x∈K
   .have a:b7 (x∉K++[w])≠a8:=by simp[c]
    have b:b7 (x∉K)≠a8:=by simp[c]
    rw[S9 (p:=λy=>b7 (y∉K++[w])) a,S9 (p:=λy=>b7 (y∉K)) b];show d
   .have a:b7 (x∉K++[w])=a8:=by simp[c,e]
    have b:b7 (x∉K)=a8:=by simp[c]
    rw[S8 (p:=λy=>b7 (y∉K++[w])) a,S8 (p:=λy=>b7 (y∉K)) b,i4,i4];lia
abbrev Once(rows:List (W×List W)):Prop:=∀r∈rows,r.2.Nodup
def Once.told(h:Once rows)(p:Nat):(told rows p).Nodup:=by
 unfold Od.told;split
 .rename_i r e;show h r (ri e)
 .show .nil
def rK:cnt rows K p=0↔∀x∈told rows p,x∈K:=xx
def qi(h:Once rows)(a:w∉K)(p:Nat):cnt rows (K++[w]) p+(if w∈told rows p then 1 else 0)=cnt rows K p:=rJ a (h.told p)
abbrev Km(rows:List (W×List W))(n:Nat)(w:W):List Nat:=(dV n).filter λp=>b7 (w∈told rows p)
def xy(n:Nat)(w:W):(Km rows n w).Nodup:=List.Nodup.sublist List.filter_sublist List.nodup_range
def jK:p∈Km rows n w↔p<n/\w∈told rows p:=by simp[Km]
abbrev aI(ps:List (W×Nat))(w:W):List Nat:=(ps.filter λp=>b7 (p.1=w)).map (·.2)
theorem rL:∀{l:List W},l.Nodup->aI (l.map λx=>(x,n)) w=if w∈l then [n] else []
 |[],_=>rfl
 |x::l,h=>by
  have(b,c):=rr.mp h;have a:=rL (n:=n) (w:=w) c;unfold aI at a ⊢;rw[d6,Cd];by_cases e:x=w
  .subst e;rw[ŕ b]at a;rw[Ŕ (by simp),d6,a,Ŕ (by simp)]
  .rw[ŕ (by simpa using e),a];have d:w≠x:=λz=>e z.symm;simp[d]
def rM(a b:List (W×Nat))(w:W):aI (a++b) w=aI a w++aI b w:=by simp[aI]
def xA(h:Once rows)(a:rows[n]?=a5 r)(b:∀w,aI ps w=Km rows n w)(w:W):aI (ps++r.2.map λx=>(x,n)) w=Km rows (n+1) w:=by
 rw[rM,b w,rL (h r (ri a))];unfold Km;rw[ø,US];congr 1
 rw[Cd,Tv,lA a];by_cases e:w∈r.2<;>simp[e]
structure RI(rows:List (W×List W))(K0 K:List W)(R:List Nat):Prop where
 RP:∀t∈R,t<rows.length/\cnt rows K t=0
 all:∀t,t<rows.length->cnt rows K t=0->cnt rows K0 t=0\/t∈R
def RI.start(K:List W):RI rows K K []:=#[by simp,λt _ h=>.inl h]
def RI.step(h:Once rows)(x:RI rows K0 K R)(d:w∉K):RI rows K0 (K++[w]) (R++(Km rows rows.length w).filter λt=>b7 (cnt rows K t=1)):=by
 show#[λt ht=>?_,λt ht i=>?_]
 .have a:=qi h d t;rcases f6.mp ht with ht|ht
  .have(b,e):=x.RP t ht;show#[b,⋯]
  .have(b,e):=H8.mp ht;have(f,g):=jK.mp b;rw[Ŕ g]at a;have:cnt rows K t=1:=by simpa using e
   show#[f,⋯]
 .have a:=qi h d t;by_cases c:w∈told rows t
  .rw[Ŕ c]at a;show .inr (f6.mpr (.inr (H8.mpr #[jK.mpr #[ht,c],by simp;lia])))
  .rw[ŕ c]at a;rcases x.all t ht ⋯ with z|z
   .show .inl z
   .show .inr (f6.mpr (.inl z))
structure NS(rows:List (W×List W))(K:List W)(d:List Nat)(ps:List (W×Nat)):Prop where
 ok:∀s∈ps,s.2∈d/\s.1∉K/\∃r,rows[s.2]?=a5 r/\r.1=s.1
 once:(ps.map (·.1)).Nodup
 all:∀p∈d,∀r,rows[p]?=a5 r->r.1∈K\/r.1∈ps.map (·.1)
def NS.start(K:List W):NS rows K [] []:=#[by simp,by simp,by simp]
def NS.skip(x:NS rows K d ps)(f:rows[p]?=a5 r)(h:r.1∈K\/r.1∈ps.map (·.1)):NS rows K (d++[p]) ps :=
 #[λs hs=>let ⟨a,b,c⟩:=x.ok s hs;⟨by simp[a],b,c⟩,x.once,λq hq g e=>by
  rcases f6.mp hq with hq|hq
  .show x.all q hq g e
  .have:q=p:=by simpa using hq
   subst this;rw[f]at e;cases e;show h]
def NS.take(x:NS rows K d ps)(g:rows[p]?=a5 r)(h:r.1∉K)(i:r.1∉ps.map (·.1)):NS rows K (d++[p]) (ps++[(r.1,p)]):=by
 show#[λs hs=>?_,?_,λq hq j f=>?_]
 .rcases f6.mp hs with hs|hs
  .have(a,b,c):=x.ok s hs;show#[by simp[a],b,c]
  .have:s=(r.1,p):=by simpa using hs
   subst this;show#[by simp,h,r,g,rfl]
 .rw[kj,nc];show#[x.once,by simp,λa k b l e=>?_];have:b=r.1:=by simpa using l
  subst this;show i (e▸k)
 .rcases f6.mp hq with hq|hq
  .rcases x.all q hq j f with z|z
   .show .inl z
   .show .inr (by simp only[kj,f6];show .inl z)
  .have:q=p:=by simpa using hq
   subst this;rw[g]at f;cases f;show .inr (by simp)
def NS.perm(x:NS rows K d ps)(h:a.Perm ps):NS rows K d a :=
 #[λs hs=>x.ok s (h.mem_iff.mp hs),(h.map _).nodup_iff.mpr x.once,λp b r c=>(x.all p b r c).imp id λz=>(h.map _).mem_iff.mpr z]
structure LI(rows:List (W×List W))(JO:List (W×Nat))(R:List Nat):Prop where
 nd:(JO.map (·.1)).Nodup
 sn:Qu rows (JO.map (·.1))
 wd:∀x∈JO.map (·.1),x∈rows.map (·.1)
 RP:∀t∈R,t<rows.length/\cnt rows (JO.map (·.1)) t=0
 all:∀t r,rows[t]?=a5 r->cnt rows (JO.map (·.1)) t=0->t∈R\/r.1∈JO.map (·.1)
def LI.step(x:LI rows d R)(n:NS rows (d.map (·.1)) R st)(y:RI rows (d.map (·.1)) (d.map (·.1)++st.map (·.1)) j):LI rows (d++st) j:=by
 have em:(d++st).map (·.1)=d.map (·.1)++st.map (·.1):=kj;have hs:∀z∈st.map (·.1),z∉d.map (·.1)/\∃r∈rows,r.1=z/\∀x∈r.2,x∈d.map (·.1):=λz hz=>by
  have(s,hs,rfl):=ku.mp hz;have(k,l,r,h,m):=n.ok s hs;have hz:=(x.RP _ k).2;rw[rK,lA h]at hz;show#[l,r,ri h,m,hz]
 show#[?_,λC f y hy=>?_,λy hy=>?_,λt o=>by rw[em];show y.RP t o,λt r g i=>?_]
 .rw[em,nc];show#[x.nd,n.once,λa p b q e=>(hs b q).1 (e▸p)]
 .rw[em]at hy;rcases f6.mp hy with hy|hy
  .show x.sn C f y hy
  .have(_,r,a,b,c):=hs y hy;show b▸f r a λz hz=>x.sn C f z (c z hz)
 .rw[em]at hy;rcases f6.mp hy with hy|hy
  .show x.wd y hy
  .have(_,r,a,b,c):=hs y hy;show ku.mpr #[r,a,b]
 .rw[em]at i ⊢;rcases y.all t (cL.mp g).1 i with z|z
  .rcases x.all t r g z with z|z
   .rcases n.all t z r g with z|z
    .show .inr (f6.mpr (.inl z))
    .show .inr (f6.mpr (.inr z))
   .show .inr (f6.mpr (.inl z))
  .show .inl z
def LI.closed(x:LI rows b []):gV rows (·∈b.map (·.1)):=λr c h=>by
 have(t,a):=Y0.mp c;rcases x.all t r a (by rw[rK,lA a];show h) with z|z
 .cases z
 .show z
def oK{K L:List W}(h:K.Nodup)(s:∀x∈K,x∈L):K.length<=L.length:=by
 induction K generalizing L with
 |nil=>simp
 |cons a K d =>
  have(f,g):=rr.mp h;have b:a∈L:=s a (by simp);have:=d (L:=L.erase a) g λx c=>by
   have i:x≠a:=λe=>f (e▸c);show(Zj i).mpr (s x (by simp[c]))
  rw[XZ b]at this;have:0<L.length:=Ye b;rw[i4];lia
end
end Od
namespace TM
open PySem L2 J2
section
def vQ(h:st[j]?=a5 (a5 (.own,u))):Run (lift (.bor j,u0)) st u (st.set j (a5 (.loc,u))):=by
 change(match st[j]? with|some (a5 (.own,u))=>a5 (Ex.ok u,st.set j (a5 (.loc,u)))|_=>bD)=_;rw[h]
def DL(h:Run c st bL st1):Run (iX c body (n+1)) st .nx st1:=ae h aM
def CS(h:Run c st a8 st1)(a:Run body st1 .nx st2)(b:Run (iX c body n) st2 f d):Run (iX c body (n+1)) st f d:=ae h (ae a b)
def DM(h:Run (iX (JP Γ c) (execs Γ body) fuel) st .nx st1)(a:Run (execs Γ ss) st1 f st2):Run (execs Γ (.Ph c body::ss)) st f st2:=dY h a
def m8(hk:k=.loc\/k=.any):Run (dz a8 [i,j] (k,.tup [a,b])) st () ((st.set i (a5 (k,a))).set j (a5 (k,b))):=by
 rcases hk with rfl|rfl<;>rfl
def Gf(h:Run (execs Γ ss) (st.set i (a5 (.A',.JF [] []))) f st1):Run (execs Γ (.newD i::ss)) st f st1:=dY (ae (a:=()) (st1:=st.set i (a5 (.A',.JF [] []))) rfl aM) h
def qj(h:st[i]?=a5 (a5 (.A',.JF ks us))):Run (ju i) st (ks,us) st:=by
 change ju i st=_;unfold ju;rw[h]
def uD:Run (lh (k,.str y)) st y st:=rfl
def CT(a:st[i]?=a5 (a5 (.A',.JF ks us)))(b:y∉ks)(c:ks.length<b6):Run (mn i y (.own,.lst xs)) st () (st.set i (a5 (.A',.JF (ks++[y]) (us++[.lst xs])))):=by
 change mn i y (.own,.lst xs) st=_;unfold mn
 dsimp only
 rw[a]
 dsimp only
 rw[Ŕ #[b,c]]
def CU(a:st[i]?=a5 (a5 (.A',.JF ks us)))(b:eD ks us y=a5 (.lst xs))(c:xs.length<b6):Run (mq i y u) st () (st.set i (a5 (.A',.JF ks (lj ks us y (.lst (xs++[u])))))):=by
 change mq i y u st=_;unfold mq;rw[a]
 dsimp only
 rw[b]
 dsimp only
 rw[Ŕ c]
def Ij(b:Run (ev Γ a) st (k,.str y) st1)(c:st1[i]?=a5 (a5 (.A',.JF ks us))):Run (JP Γ (.inD neg a i)) st (U2 neg y ks) st1 :=
 ae b (ae uD (ae (qj c) aM))
def Gg(b:Run (ev Γ c) st (.own,.lst xs) st1)(a:st1[i]?=a5 (a5 (.A',.JF ks us)))(d:Run (ev Γ e) st1 (k,.str y) st1)(g:y∉ks)(h:ks.length<b6)
  (j:Run (execs Γ ss) (st1.set i (a5 (.A',.JF (ks++[y]) (us++[.lst xs])))) f l):Run (execs Γ (.putD i e c::ss)) st f l:=by
 show dY ?_ j;show ae b (ae (qj a) (ae d (ae uD (ae (CT a g h) aM))))
def Gh(a:st[i]?=a5 (a5 (.A',.JF ks us)))(b:Run (ev Γ c) st (k,.str y) st)(d:y∈ks)(e:Run (ev Γ g) st r st)(h:Run (lift r) st u st)(j:eD ks us y=a5 (.lst xs))(l:xs.length<b6)
  (m:Run (execs Γ ss) (st.set i (a5 (.A',.JF ks (lj ks us y (.lst (xs++[u])))))) f n):Run (execs Γ (.L3 i c g::ss)) st f n:=by
 show dY ?_ m;show ae (qj a) (ae b (ae uD (ae (qj a) ?_)));rw[Ŕ d];show ae e (ae h (ae (CU a j l) aM))
def Il(h:st[i]?=a5 (a5 (.A',.JF ks us))):Run (ev Γ (.Qf i)) st (.bor i,.JF ks us) (st.set i (a5 (.own,.JF ks us))):=by
 change yK i st=_;unfold yK;rw[h]
def Gi(c:st[i]?=a5 (a5 (.own,.JF ks us)))(d:Run (ev Γ a) st (k,.str y) st)(e:Run (ev Γ b) st z st)(f:Run (lift z) st u st)(g:(match eD ks us y with|some v=>(Kd.loc,v)|none=>(.loc,u))=r):
  Run (ev Γ (.Mm i a b)) st r st:=by
 show ae (iL c) (ae (a:=()) (st1:=st) rfl (ae d (ae (a:=y) (st1:=st) rfl (ae e (ae f (ae (iL c) (dq ?_)))))));subst g;rfl
def Im(b:st[i]?=a5 (a5 (.own,.lst us)))(d:Run (ev Γ e) st (k1,.int (j:Nat)) st)(c:us[j]?=a5 (.int o))(g:Run (ev Γ h) st (k2,.int w) st)
  (k:Run (execs Γ ss) (st.set i (a5 (.own,.lst (us.set j (.int (o - w)))))) f l):Run (execs Γ (.aug a8 i e h::ss)) st f l:=by
 have hl:qV i st=a5 (.ok us,st):=by unfold qV;rw[b];rfl
 have m:j<us.length:=(cL.mp c).1;have hi:qW us (j:Nat)=a5 o:=by
  unfold qW;rw[Ŕ ⋯,M9,c]
 have n:M5 us.length (j:Nat)=a5 j:=by
  unfold M5;rw[Ŕ ⋯]
  first|(rw[Ŕ ⋯];simp)|simp[m]
 show dY (ae (a:=us) (st1:=st) hl (ae d (ae (a:=(j:Int)) (st1:=st) rfl (ae (a:=us) (st1:=st) hl (ae (dq hi) (ae g (ae (a:=w) (st1:=st) rfl (ae (a:=()) (st1:=st.set i (a5 (.own,.lst (us.set j (.int (o - w)))))) ?_ aM)))))))) k;change modS i (gr (.int (j:Nat)) (.int (wJ a8 o w))) st=_;unfold modS;rw[b];simp only[Kd.root,if_true,gr];rw[n];rfl
def Io(a:st[i]?=a5 (a5 (.own,u)))(b:yJ u=a5 r):Run (ev Γ (.Qg i)) st r st:=ae (iL a) (dq b)
def Gj(a:Run (ev Γ e) st r st1)(b:Run (dz a8 is r) st1 () st2)(c:Run (execs Γ ss) st2 f d):Run (execs Γ (.MP is e::ss)) st f d:=dY (ae a (ae b aM)) c
end
theorem m9(f:Str->U)(y:Str):∀ks:List Str,eD ks (ks.map f) y=if y∈ks then a5 (f y) else bD
 |[]=>rfl
 |k::ks=>by
  rw[d6];change(if k=y then a5 (f k) else eD ks (ks.map f) y)=_;by_cases e:k=y
  .subst e;rw[Ŕ rfl,Ŕ (by simp)]
  .rw[ŕ e,m9 f y ks];have:(y∈k::ks)↔y∈ks:=by simp[nT e]
   by_cases h:y∈ks
   .rw[Ŕ h,Ŕ (this.mpr h)]
   .rw[ŕ h,ŕ λz=>h (this.mp z)]
theorem rN(f:Str->U)(y:Str)(u:U):∀ks:List Str,ks.Nodup->lj ks (ks.map f) y u=ks.map λk=>if k=y then u else f k
 |[],_=>rfl
 |k::ks,h=>by
  have(b,c):=rr.mp h;rw[d6,d6];change(if k=y then u::ks.map f else f k::lj ks (ks.map f) y u)=_;by_cases e:k=y
  .subst e;rw[Ŕ rfl,Ŕ rfl];congr 1
   show tA λz hz=>?_;have a:z≠k:=λq=>b (by rw[<-q];show hz);rw[ŕ a]
  .rw[ŕ e,ŕ e,rN f y u ks c]
abbrev stN(s:Str×Nat):U:=.tup [.str s.1,.int (s.2:Nat)]
theorem oM(f:α->Int):∀(ns:List α),intsOf (ns.map λa=>U.int (f a))=a5 (ns.map f)
 |[]=>rfl
 |n::ns=>by change(intsOf (ns.map λa=>U.int (f a))).map _=_;rw[oM f ns];rfl
def CV(h:ps.length<64)(c:(ps.map (·.1)).Nodup):∃a:List (Str×Nat),a.Perm ps/\yJ (.JF (ps.map (·.1)) (ps.map λp=>.int (p.2:Nat)))=a5 (.own,.lst (a.map stN)):=by
 have hi:=oM (λp:Str×Nat=>((p.2:Nat):Int)) ps;have hz:(ps.map (·.1)).zip (ps.map λp:Str×Nat=>((p.2:Nat):Int))=ps.map λp=>(p.1,((p.2:Nat):Int)):=by
  rw[List.zip_map']
 let P:=k7 ((ps.map λp=>(p.1,((p.2:Nat):Int))).map (·.1));have b:P.Perm (dV ps.length):=by
  have:=hZ ((ps.map λp=>(p.1,((p.2:Nat):Int))).map (·.1));simpa[P] using this
 show#[P.map λi=>ps.getD i (sx,0),?_,?_]
 .show(b.map _).trans ?_;have:(dV ps.length).map (λi=>ps.getD i (sx,0))=ps:=by
   apply Pr
   .simp
   .intro i g d;simp[MM,d]
  rw[this]
 .change(intsOf (ps.map λp=>U.int (p.2:Nat))).bind _=_;rw[hi];change(if (ps.map (·.1)).length<64/\(ps.map (·.1)).Nodup/\(ps.map (·.1)).length=(ps.map λp:Str×Nat=>((p.2:Nat):Int)).length then _ else _)=_;rw[Ŕ #[by simpa using h,c,by simp],hz];congr 3
  change(BG _).map wH=_;change(P.map λi=>(ps.map λp=>(p.1,((p.2:Nat):Int))).getD i (sx,0)).map wH=_;rw[i6,i6];show tA λi e=>?_;have f:i<ps.length:=p7.mp (b.mem_iff.mp e);simp[MM,f,wH,stN]
def DN(h:b7 (j<=i)=c):bK .ge (.int i) (.int j)=a5 c:=by subst h;rfl
def Gk:bK .isin (.str x) (.JF ks vs)=a5 (b7 (x∈ks)):=rfl
def kh:bK .JG (.str x) (.JF ks vs)=a5 (!b7 (x∈ks)):=rfl
def Ip{ss:List Str}:bK .isin (.str x) (.lst (ss.map U.str))=a5 (b7 (x∈ss)):=by
 have h:=@eJ x ss;have e:bK .JG (.str x) (.lst (ss.map U.str))=(bK .isin (.str x) (.lst (ss.map U.str))).map (!·):=rfl;rw[e,gi]at h;have(b,a,c):=h;rw[a];congr 1
 cases b<;>simp_all
def qk(bs:List Bool):KP .all [(k,.lst (bs.map .bl))]=a5 (.loc,.bl (bs.all id)):=by
 change(mf (bs.map U.bl)).map _=_;have:∀bs:List Bool,mf (bs.map U.bl)=a5 bs:=λbs=>by
  induction bs with
  |nil=>rfl
  |cons b bs a=>change(mf (bs.map U.bl)).map _=_;rw[a];rfl
 rw[this];rfl
mutual
theorem kl:∀(n:Nat) (u:U),J4 n u=a8->bW u u=a8
 |_,.JN,_=>rfl
 |_,.bl b,_=>by simp[bW]
 |_,.int i,_=>by simp[bW]
 |_,.str x,_=>by simp[bW]
 |0,.tup xs,h=>by simp[J4]at h
 |0,.lst xs,h=>by simp[J4]at h
 |n+1,.tup xs,h=>by rw[bW];show jc n xs (by simpa[J4] using h)
 |n+1,.lst xs,h=>by rw[bW];show jc n xs (by simpa[J4] using h)
 |_,.JF _ _,h=>by simp[J4]at h
theorem jc:∀(n:Nat) (us:List U),bV n us=a8->cQ us us=a8
 |_,[],_=>rfl
 |n,u::us,h=>by
  have h':J4 n u=a8/\bV n us=a8:=by simpa[bV] using h
  rw[cQ,kl n u h'.1,jc n us h'.2];rfl
end
section
end
def ql(h:ks.length<1000)(a:x∉ks):gr (.str x) u (.JF ks us)=a5 (.JF (ks++[x]) (us++[u])):=by
 rw[CQ h];unfold dput;rw[ŕ a]
def gW(h:J4 50 (.lst us)=a8):bK .ne (.lst us) (.lst [])=a5 (!us.isEmpty):=by
 simp only[bK];rw[Ŕ #[h,by simp[J4,bV]]];cases us with
 |_=>simp[bW,cQ]
theorem iw(f:α->Int):∀(l:List α) (n:Nat),bV n (l.map λa=>U.int (f a))=a8
 |[],n=>by simp[bV]
 |a::l,n=>by rw[d6,bV,iw f l n];simp[J4]
theorem rO:∀(ss:List (Str×Nat)) (n:Nat),bV (n+1) (ss.map stN)=a8
 |[],n=>by simp[bV]
 |s::ss,n=>by rw[d6,bV,rO ss n];simp[stN,J4,bV]
theorem m_{cond:M Bool}(h:a_ src st)(a b g:α->U)(p:α->Bool):∀(ys:List α) (c:List U),c.length+ys.length<=b6 ->
  (∀y∈ys,Run cond (a5 (.loc,a y)::a5 (.loc,b y)::st) (p y) (a5 (.loc,a y)::a5 (.loc,b y)::st)/\Run elt (a5 (.loc,a y)::a5 (.loc,b y)::st) (.loc,g y) (a5 (.loc,a y)::a5 (.loc,b y)::st)) ->
  Run (bP 2 a8 cond elt src (ys.map λy=>(Kd.loc,U.tup [a y,b y])) c) st (c++(ys.filter p).map g) st
 |[],c,_,_=>by rw[MZ,Tv,MZ,oD];show rC h
 |y::ys,c,hl,f=>by
  have(d,j):=f y (by simp);rw[i4]at hl;have i:Run (dz a8 (dV 2) (.loc,.tup [a y,b y])) (ke 2 bD++st) () (a5 (.loc,a y)::a5 (.loc,b y)::st):=m8 (.inl rfl);cases e:p y with
  |true =>
   rw[e]at d;show mU (s1:=a5 (.loc,a y)::a5 (.loc,b y)::st) (s2:=a5 (.loc,a y)::a5 (.loc,b y)::st) (s3:=a5 (.loc,a y)::a5 (.loc,b y)::st) (s4:=a5 (.loc,a y)::a5 (.loc,b y)::st) h i d j ay ⋯ ?_;have:=m_ h a b g p ys (c++[g y]) (by simp;lia) λz hz=>f z (by simp[hz]);rw[Cd,Ŕ e,d6];simpa using this
  |false =>
   rw[e]at d;show ui (s1:=a5 (.loc,a y)::a5 (.loc,b y)::st) (s2:=a5 (.loc,a y)::a5 (.loc,b y)::st) h i d ?_;have:=m_ h a b g p ys c ⋯ λz hz=>f z (by simp[hz]);rw[Cd,ŕ (by simp[e])];show this
def set_range(n:Nat)(f:Nat->α)(t:Nat)(v:α):((dV n).map f).set t v=(dV n).map λp=>if p=t then v else f p:=by
 apply Pr
 .simp
 .intro i a b;simp only[List.getElem_set,æ,List.getElem_range];by_cases e:t=i
  .subst e;simp
  .rw[ŕ e,ŕ (nT e)]
def CW{rows:List Row}{t:Nat}(h:rows[t]?=a5 r):J_ (rows.map JD) (t:Int)=a5 (JD r):=bH (by simp[h])
section
end
end TM
namespace KL
open PySem L2 TM
end KL
namespace KL
open PySem L2 TM J2 Od
abbrev cN(f:Str->List Nat)(k:Str):U:=.lst ((f k).map λt:Nat=>U.int (t:Nat))
def km(d:List (Str×Nat))(y:Str×Nat)(k:Str):aI (d++[y]) k=if y.1=k then aI d k++[y.2] else aI d k:=by
 rw[rM];by_cases e:y.1=k
 .rw[Ŕ e];simp[aI,e]
 .rw[ŕ e];simp[aI,e]
def Ae(d:List (Str×Nat))(k:Str):(aI d k).length<=d.length:=by
 unfold aI;rw[b8];show OW _ _
section
def qm(hl:ps.length<=1000):∃ks:List Str,(∀w,w∉ks->aI ps w=[])/\bX Γ dF [.lst (ps.map stN)]=a5 (.ok (.own,.JF ks (ks.map (cN (aI ps))))):=by
 have hsz:(2000:Nat)<=b6:=by decide
 have A:TM.start [.lst (ps.map stN)] 4=[a5 (.any,.lst (ps.map stN)),bD,bD,bD]:=rfl;let S:=λ(ks:List Str) (us:List U) (o2 o3:Option (Kd×U))=>([a5 (.any,.lst (ps.map stN)),a5 (.A',.JF ks us),o2,o3]:aw)
 let body:List TM.S:=[.ite (.inD a8 (.var 2) 1)
    [.putD 1 (.var 2) (.lst [])]
    [],
   .L3 1 (.var 2) (.var 3)]
 have(st',B,l,ks,o2,o3,e,f,hk,C):=dE (t:=a8) (is:=[2,3]) (body:=execs Γ body) (rs:=[(.any,.lst (ps.map stN))]) (λp:Str×Nat=>(Kd.any,stN p))
  (λd r st=>d++r=ps/\∃(ks:List Str) (o2 o3:Option (Kd×U)),st=S ks (ks.map (cN (aI d))) o2 o3/\ks.Nodup/\(∀w,w∉ks->aI d w=[])/\ks.length<=d.length) (λ_ _ _ _=>trivial) (λd y r st D=>by
   have(l,ks,o2,o3,e,f,hk,C):=D;subst e;have J:d.length<1000:=by have:=Ś vr l;simp at this;lia
   let g:Option (Kd×U):=a5 (.any,.str y.1);let i:Option (Kd×U):=a5 (.any,.int (y.2:Nat));have L:=Ae d y.1;have j:∀(ks:List Str),ks.Nodup->y.1∈ks->Run (execs Γ [.L3 1 (.var 2) (.var 3)]) (S ks (ks.map (cN (aI d))) g i) .nx (S ks (ks.map (cN (aI (d++[y])))) g i):=λks f c=>by
    have G:eD ks (ks.map (cN (aI d))) y.1=a5 (.lst ((aI d y.1).map λt:Nat=>U.int (t:Nat))):=by rw[m9,Ŕ c];rfl
    have hs:lj ks (ks.map (cN (aI d))) y.1 (.lst ((aI d y.1).map (λt:Nat=>U.int (t:Nat))++[.int (y.2:Nat)]))=ks.map (cN (aI (d++[y]))):=by
     rw[rN _ _ _ _ f];show tA λk hk=>?_;unfold cN;rw[km];by_cases e:y.1=k
     .subst e;rw[Ŕ rfl,Ŕ rfl];simp
     .rw[ŕ e,ŕ (nT e)]
    rw[<-hs];show Gh (k:=.any) (r:=(.any,.int (y.2:Nat))) rfl (au rfl) c (au rfl) (eT rfl) G (by rw[b8];lia) aS
   have m:Run (JP Γ (.inD a8 (.var 2) 1)) (S ks (ks.map (cN (aI d))) g i) (!b7 (y.1∈ks)) (S ks (ks.map (cN (aI d))) g i):=Ij (neg:=a8) (k:=.any) (au rfl) rfl;have q:Run (dz a8 [2,3] (.any,stN y)) (S ks (ks.map (cN (aI d))) o2 o3) () (S ks (ks.map (cN (aI d))) g i):=m8 (.inr rfl);by_cases c:y.1∈ks
   .rw[ŗ c]at m;show#[_,_,q,bT m (λh=>by cases h) λ_=>j ks f c,by rw[<-l];simp,ks,_,_,rfl,f,λw n=>?_,by simp;lia];have o:y.1≠w:=λz=>n (by rw[<-z];show c);rw[km,ŕ o];show hk w n
   .rw[Ŗ c]at m;have s:(ks++[y.1]).Nodup:=by
     rw[nc];show#[f,by simp,λa H b I e=>?_];have:b=y.1:=by simpa using I
     subst this;show c (e▸H)
    have em:ks.map (cN (aI d))++[.lst []]=(ks++[y.1]).map (cN (aI d)):=by
     rw[kj];congr 1
     change _=[cN (aI d) y.1]
     unfold cN;rw[hk y.1 c];rfl
    have v:=j (ks++[y.1]) s (by simp);rw[<-em]at v;show#[_,_,q,bT m (λ_=>Gg (k:=.any) (xs:=[]) (cC af trivial aB (ki _)) rfl (au rfl) c ⋯ v) λh=>(by cases h),by rw[<-l];simp,ks++[y.1],_,_,rfl,s,λw n=>?_,by simp;lia];have x:w∉ks/\w≠y.1:=by simpa using n
    rw[km,ŕ (nT x.2)];show hk w x.1) ps [] (S [] [] bD bD) ⟨rfl,[],bD,bD,rfl,.nil,λ_ _=>rfl,ez _⟩
 subst e;rw[ko]at *;show#[ks,hk,?_];have e:(ps.map stN).map (λu=>(kE .any,u))=ps.map λp=>(Kd.any,stN p):=by rw[i6];rfl
 show aH rfl (.inl rfl) A (Gf (dR (rs:=[(.any,.lst (ps.map stN))]) (st1:=S [] [] bD bD) (aa (au rfl) af) trivial rfl rfl (by rw[e];show B) (bp (Il rfl) (mS rfl))))
abbrev DO(Γ:Tab):Prop:=∀ps:List (Str×Nat),ps.length<=1000->∃ks:List Str,(∀w,w∉ks->aI ps w=[])/\Γ "gathered" [.lst (ps.map stN)]=a5 (.ok (.own,.JF ks (ks.map (cN (aI ps)))))
def jd(s:DO Γ)(v:Once rows)(z:∀r∈rows,r.2.length<=8)(J:rows.length<=120):
  ∃ks:List Str,(∀w,w∉ks->Km rows rows.length w=[])/\bX Γ bj [.tup (rows.map JD)]=a5 (.ok (.own,.JF ks (ks.map (cN (Km rows rows.length))))):=by
 have hsz:(2000:Nat)<=b6:=by decide
 have A:TM.start [.tup (rows.map JD)] 4=[a5 (.loc,.tup (rows.map JD)),bD,bD,bD]:=by simp[TM.start,JW,cX]
 let S:=λ(ps:List (Str×Nat)) (o2 o3:Option (Kd×U))=>([a5 (.loc,.tup (rows.map JD)),a5 (.own,.lst (ps.map stN)),o2,o3]:aw)
 let body:List TM.S:=[.ext 1 (.comp 1 bL .seq [.idx (.var 3) (.cst (.int 1))] [] (.tup [.var 0,.var 3]))]
 have(st',B,g,ps,o2,o3,e,h,l):=dE (t:=a8) (is:=[2,3]) (body:=execs Γ body) (rs:=[(.loc,.tup (rows.map JD))]) (λp:Row×Nat=>(Kd.loc,U.tup [.int (p.2:Nat),JD p.1]))
  (λd r st=>d++r=rows.zipIdx/\∃(ps:List (Str×Nat)) (o2 o3:Option (Kd×U)),st=S ps o2 o3/\(∀w,aI ps w=Km rows d.length w)/\ps.length<=8 * d.length) (λ_ _ _ _=>trivial) (λd y r st C=>by
   have(g,ps,o2,o3,e,h,l):=C;subst e;have(f,i):=y;have m:(rows.zipIdx)[d.length]?=a5 (f,i):=by rw[<-g];simp
   rw[T8,gi]at m;have(a,n,e):=m;have D:a=f:=Ś ă e;have o:0+d.length=i:=Ś Prod.snd e;rw[VM]at o;subst D o;have L:d.length<120:=by have:=Ś vr g;simp at this;lia
   have G:=z a (ri n);let b:Option (Kd×U):=a5 (.loc,.int (d.length:Nat));let c:Option (Kd×U):=a5 (.loc,JD a);have q:=gU (cond:=aR Γ []) (elt:=ev Γ (.tup [.var 0,.var 3])) (src:=[(.loc,.tup (a.2.map .str))]) (st:=S ps b c) trivial .loc (.inl rfl) U.str (λx=>stN (x,d.length)) .loc (λ_=>iN) a.2 [] (by simp;lia)
    (λy _=>#[cR (aa (ah rfl) (aa (ah rfl) af)) trivial (ak ay (ak ay aB)) (by change 2<=b6;lia),ay])
   rw[ko]at q;have e:(a.2.map U.str).map (λu=>(kE .loc,u))=a.2.map λr=>(Kd.loc,U.str r):=by rw[i6];rfl
   have H:Run (ev Γ (.comp 1 bL .seq [.idx (.var 3) (.cst (.int 1))] [] (.tup [.var 0,.var 3]))) (S ps b c) (.own,.lst (a.2.map λx=>stN (x,d.length))) (S ps b c) :=
    cM (rs:=[(.loc,.tup (a.2.map .str))]) (aa (aQ (x:=(.loc,JD a)) (ah rfl) ai trivial rfl) af) trivial (by change a5 _=_;rw[e]) q
   have em:ps.map stN++(a.2.map λx=>stN (x,d.length))=(ps++a.2.map λx=>(x,d.length)).map stN:=by simp
   show#[S ps b c,S (ps++a.2.map λx=>(x,d.length)) b c,m8 (.inl rfl),?_,by rw[<-g];simp,_,_,_,rfl,λw=>?_,by simp;lia]
   .change Run _ _ _ [a5 (.loc,.tup (rows.map JD)),a5 (.own,.lst ((ps++a.2.map λx=>(x,d.length)).map stN)),b,c];rw[<-em];show DK (k:=.own) (k':=.own) rfl H rfl rfl (vP (by rw[b8,b8];lia) rfl) aS
   .rw[hH];show xA v n h w) rows.zipIdx [] (S [] bD bD) ⟨rfl,[],bD,bD,rfl,λw=>by simp[aI,Km],by simp⟩
 subst e;rw[ko,List.length_zipIdx]at h l;have j:Mo .ON [(.loc,.tup (rows.map JD))]=a5 (rows.zipIdx.map λp:Row×Nat=>(Kd.loc,U.tup [.int (p.2:Nat),JD p.1])):=by
  change a5 ((rows.map JD).zipIdx.map λp=>(kE .loc,U.tup [.int p.2,p.1]))=_;rw[List.zipIdx_map,i6];rfl
 have(ks,k1,k2):=s ps ⋯;have I:aI ps=Km rows rows.length:=funext h;rw[I]at k1 k2;show#[ks,k1,?_];show aH rfl (.inl rfl) A (az (r:=(.own,.lst [])) (cC af trivial aB (ki _)) aV (dR (rs:=[(.loc,.tup (rows.map JD))]) (st1:=S [] bD bD) (aa (ah rfl) af) trivial j rfl B
  (bp (aP (aa (ax rfl) af) ∅ k2) jG)))
def nV{names:List Str}(v:∀r∈rows,r.1∈names)(Q:names.length<64)(y:∀t∈R,t<rows.length):
  ∃st:List (Str×Nat),NS rows K0 R st/\bX Γ cY [.tup (rows.map JD),.lst (R.map λt:Nat=>.int (t:Nat)),.JF K0 vs]=a5 (.ok (.own,.lst (st.map stN))):=by
 have hsz:(2000:Nat)<=b6:=by decide
 have z:TM.start [.tup (rows.map JD),.lst (R.map λt:Nat=>.int (t:Nat)),.JF K0 vs] 6=[a5 (.loc,.tup (rows.map JD)),a5 (.any,.lst (R.map λt:Nat=>.int (t:Nat))),a5 (.any,.JF K0 vs),bD,bD,bD]:=by simp[TM.start,JW,cX]
 let S:=λ(ps:List (Str×Nat)) (o4 o5:Option (Kd×U))=>([a5 (.loc,.tup (rows.map JD)),a5 (.any,.lst (R.map λt:Nat=>.int (t:Nat))),a5 (.any,.JF K0 vs),a5 (.own,.JF (ps.map (·.1)) (ps.map λp=>.int (p.2:Nat))),o4,o5]:aw)
 let body:List TM.S:=[.set 5 (.idx (.idx (.var 0) (.var 4)) (.cst (.int 0))),
   .ite (.and [.cmp .JG (.var 5) (.var 2),.cmp .JG (.var 5) (.var 3)])
    [.put 3 (.var 5) (.var 4)]
    []]
 have o:∀{d:List Nat} {ps:List (Str×Nat)},NS rows K0 d ps->ps.length<=names.length:=λ{d ps} x=>by
  have:=oK x.once (L:=names) λw A=>by
   have(s,hs,rfl):=ku.mp A;have(_,_,r,b,c):=x.ok s hs;rw[<-c];show v r (ri b)
  simpa using this
 have(st',B,j,ps,o4,o5,e,x):=dE (t:=bL) (is:=[4]) (body:=execs Γ body) (rs:=[(.any,.lst (R.map λt:Nat=>.int (t:Nat)))]) (λt:Nat=>(Kd.any,U.int (t:Nat)))
  (λd r st=>d++r=R/\∃(ps:List (Str×Nat)) (o4 o5:Option (Kd×U)),st=S ps o4 o5/\NS rows K0 d ps) (λ_ _ _ _=>trivial) (λd t r st C=>by
   have(j,ps,o4,o5,e,x):=C;subst e;have D:t<rows.length:=y t (by rw[<-j];simp);have l:rows[t]?=a5 rows[t]:=by simp[D]
   generalize rows[t]=a at l;let f:Option (Kd×U):=a5 (.any,.int (t:Nat));let m:Option (Kd×U):=a5 (.loc,.str a.1);have G:=o x;have i:Run (JP Γ (.and [.cmp .JG (.var 5) (.var 2),.cmp .JG (.var 5) (.var 3)])) (S ps f m) (!b7 (a.1∈K0)&&!b7 (a.1∈ps.map (·.1))) (S ps f m) :=
    jE (qg (aU (ah rfl) (au rfl) trivial kh) λ_=>dC (aU (ah rfl) (ax rfl) ∅ kh))
   have g:∀{q:aw},Run (execs Γ [.ite (.and [.cmp .JG (.var 5) (.var 2),.cmp .JG (.var 5) (.var 3)])
    [.put 3 (.var 5) (.var 4)]
    []]) (S ps f m) .nx q->Run (execs Γ body) (S ps f o5) .nx q:=λh =>
    az (r:=(.loc,.str a.1)) (aQ (x:=(.loc,JD a)) (aQ (ah rfl) (au rfl) trivial (ph (CW l))) ai trivial rfl) a9 h
   have n:Run (dz bL [4] (.any,.int (t:Nat))) (S ps o4 o5) () (S ps f o5):=fc jF;by_cases b:a.1∈K0
   .rw[ŗ b]at i;show#[_,_,n,g (bT i (λh=>by cases h) λ_=>aS),by rw[<-j];simp,ps,_,_,rfl,x.skip l (.inl b)]
   .by_cases c:a.1∈ps.map (·.1)
    .rw[Ŗ b,ŗ c]at i;show#[_,_,n,g (bT i (λh=>by cases h) λ_=>aS),by rw[<-j];simp,ps,_,_,rfl,x.skip l (.inr c)]
    .rw[Ŗ b,Ŗ c]at i;show#[_,S (ps++[(a.1,t)]) f m,n,g (bT i (λ_=>?_) λh=>by cases h),by rw[<-j];simp,_,_,_,rfl,x.take l b c];have H:(ps++[(a.1,t)]).map (·.1)=ps.map (·.1)++[a.1]:=by simp
     have I:((ps++[(a.1,t)]).map λp=>U.int (p.2:Nat))=(ps.map λp=>U.int (p.2:Nat))++[.int (t:Nat)]:=by simp
     change Run _ _ _ [a5 (.loc,.tup (rows.map JD)),a5 (.any,.lst (R.map λt:Nat=>.int (t:Nat))),a5 (.any,.JF K0 vs),a5 (.own,.JF ((ps++[(a.1,t)]).map (·.1)) ((ps++[(a.1,t)]).map λp=>.int (p.2:Nat))),f,m];rw[H,I];show z9 (k:=.own) (rv:=(.any,.int (t:Nat))) (rk:=(.loc,.str a.1)) (au rfl) rfl (ah rfl) (ak (eT rfl) (ak ay aB)) rfl rfl (ql (by rw[b8];lia) c) aS) R [] (S [] bD bD) ⟨rfl,[],bD,bD,rfl,NS.start K0⟩
 subst e;rw[ko]at x;have G:=o x;have(J,N,O):=CV (ps:=ps) ⋯ x.once;show#[J,x.perm N,?_];have e:(R.map λt:Nat=>U.int (t:Nat)).map (λu=>(kE .any,u))=R.map λt=>(Kd.any,U.int (t:Nat)):=by rw[i6];rfl
 show aH rfl (.inl rfl) z (az (r:=(.own,.JF [] [])) ue aV (dR (rs:=[(.any,.lst (R.map λt:Nat=>.int (t:Nat)))]) (st1:=S [] bD bD) (aa (au rfl) af) trivial rfl rfl (by rw[e];show B) (bp (Io rfl O) jG)))
end
abbrev mi(rows:List Row)(K0:List Str)(d:List Nat)(p:Nat):Int:=(cnt rows K0 p:Int) - (if p∈d then 1 else 0)
abbrev bY(rows:List Row)(f:Nat->Int):List U:=(dV rows.length).map λp=>U.int (f p)
abbrev fV(R:List Nat):List U:=R.map λt:Nat=>U.int (t:Nat)
def CY(rows:List Row)(K0:List Str):bY rows (mi rows K0 [])=bY rows λp=>(cnt rows K0 p:Int):=by
 unfold bY mi;show tA λp _=>?_;simp
def CZ(b:Once rows)(c:w∉K0):bY rows (mi rows K0 (Km rows rows.length w))=bY rows λp=>(cnt rows (K0++[w]) p:Int):=by
 unfold bY mi;show tA λp d=>?_;have e:=p7.mp d;have a:=qi b c p;by_cases h:w∈told rows p
 .rw[Ŕ (jK.mpr #[e,h])];rw[Ŕ h]at a;change U.int ((cnt rows K0 p:Int) - 1)=U.int (cnt rows (K0++[w]) p:Int);congr 1
  lia
 .rw[ŕ λz=>h (jK.mp z).2];rw[ŕ h]at a;change U.int ((cnt rows K0 p:Int) - 0)=U.int (cnt rows (K0++[w]) p:Int);congr 1
  lia
def Af(a:t∉d):(bY rows (mi rows K0 d)).set t (.int (mi rows K0 d t - 1))=bY rows (mi rows K0 (d++[t])):=by
 unfold bY;rw[set_range];show tA λp _=>?_;unfold mi;by_cases e:p=t
 .subst e;rw[Ŕ rfl,ŕ a,Ŕ (by simp)];rw[show((cnt rows K0 p:Int) - 0 - 1)=(cnt rows K0 p:Int) - 1 by lia]
 .rw[ŕ e];have:(p∈d++[t])↔p∈d:=by simp[e]
  simp only[this]
def Ag(h:t<rows.length):(bY rows f)[t]?=a5 (.int (f t)):=by simp[bY,h]
section
variable{Γ:Tab}{rows:List Row}
abbrev vR:List TM.S:=[.aug a8 2 (.var 9) (.cst (.int 1)),.ite (.cmp .eq (.idx (.var 2) (.var 9)) (.cst (.int 0))) [.app 5 (.var 9)] []]
def rP(u:Once rows)(J:rows.length<=120)(v:w∉K0)(L:R.length<=14400)(o9:Option (Kd×U))(y:∀st,a_ src st):∃l:Option (Kd×U),
  Run (forM bL [9] (execs Γ vR) src ((Km rows rows.length w).map λt:Nat=>(Kd.loc,U.int (t:Nat))))
   [b0,b1,a5 (.own,.lst (bY rows λp=>(cnt rows K0 p:Int))),b3,b4,a5 (.own,.lst (fV R)),o6,o7,o8,o9] .nx
   [b0,b1,a5 (.own,.lst (bY rows λp=>(cnt rows (K0++[w]) p:Int))),b3,b4,a5 (.own,.lst (fV (R++(Km rows rows.length w).filter λt=>b7 (cnt rows K0 t=1)))),o6,o7,o8,l]:=by
 have hsz:(20000:Nat)<=b6:=by decide
 let S:=λ(ms:List U) (R:List Nat) (o9:Option (Kd×U))=>([b0,b1,a5 (.own,.lst ms),b3,b4,a5 (.own,.lst (fV R)),o6,o7,o8,o9]:aw)
 have(st',m,c,l,e):=dE (t:=bL) (is:=[9]) (body:=execs Γ vR) (rs:=src) (λt:Nat=>(Kd.loc,U.int (t:Nat)))
  (λd r st=>d++r=Km rows rows.length w/\∃o9:Option (Kd×U),st=S (bY rows (mi rows K0 d)) (R++d.filter λt=>b7 (cnt rows K0 t=1)) o9) (λ_ _ st _=>y st) (λd t r st A=>by
   have(c,o9,e):=A;subst e;have B:t∈Km rows rows.length w:=by rw[<-c];simp
   have n:t<rows.length:=(jK.mp B).1;have o:=xy (rows:=rows) rows.length w;have C:t∉d:=λz=>by
    rw[<-c,nc]at o;show o.2.2 t z t (by simp) rfl
   have N:d.length<=120:=by
    have D:=Ś vr c;have G:(Km rows rows.length w).length<=(dV rows.length).length:=OW _ _;simp at D G;lia
   let b:Option (Kd×U):=a5 (.loc,.int (t:Nat));let a:=R++d.filter λt=>b7 (cnt rows K0 t=1);have O:a.length<=14520:=by
    have:(d.filter λt=>b7 (cnt rows K0 t=1)).length<=d.length:=OW _ _;change(R++_).length<=_;rw[hH];lia
   have H:J_ (bY rows (mi rows K0 (d++[t]))) (t:Int)=a5 (.int (mi rows K0 (d++[t]) t)):=bH (Ag n);have I:mi rows K0 (d++[t]) t=(cnt rows K0 t:Int) - 1:=by unfold mi;rw[Ŕ (by simp)]
   have g:Run (JP Γ (.cmp .eq (.idx (.var 2) (.var 9)) (.cst (.int 0)))) (S (bY rows (mi rows K0 (d++[t]))) a b) (b7 (cnt rows K0 t=1)) (S (bY rows (mi rows K0 (d++[t]))) a b) :=
    aU (aQ (x:=(.bor 2,.lst (bY rows (mi rows K0 (d++[t]))))) (ax rfl) (ah rfl) ∅ (aD H)) ai trivial (eI (by
     rw[I,oT];simp;lia))
   have f:∀{q:aw},Run (execs Γ [.ite (.cmp .eq (.idx (.var 2) (.var 9)) (.cst (.int 0)))
      [.app 5 (.var 9)]
      []]) (S (bY rows (mi rows K0 (d++[t]))) a b) .nx q->Run (execs Γ vR) (S (bY rows (mi rows K0 d)) a b) .nx q:=λh=>by
    show Im (us:=bY rows (mi rows K0 d)) (k1:=.loc) (k2:=.loc) (j:=t) (w:=1) rfl (ah rfl) (Ag n) ai ?_;rw[Af C];show h
   have s:Run (dz bL [9] (.loc,.int (t:Nat))) (S (bY rows (mi rows K0 d)) a o9) () (S (bY rows (mi rows K0 d)) a b):=fc a9;cases i:b7 (cnt rows K0 t=1) with
   |false =>
    rw[i]at g;show#[_,_,s,f (bT g (λh=>by cases h) λ_=>aS),by rw[<-c];simp,b,?_];rw[US,Cd,i];simp[S,a]
   |true =>
    rw[i]at g;show#[_,S (bY rows (mi rows K0 (d++[t]))) (a++[t]) b,s,f (bT g (λ_=>?_) λh=>by cases h),by rw[<-c];simp,b,?_]
    .have em:fV (a++[t])=fV a++[.int (t:Nat)]:=by simp[fV]
     change Run _ _ _ [b0,b1,a5 (.own,.lst (bY rows (mi rows K0 (d++[t])))),b3,b4,a5 (.own,.lst (fV (a++[t]))),o6,o7,o8,b];rw[em];show oG (k:=.own) (k':=.own) (r:=(.loc,.int (t:Nat))) rfl (ah rfl) ay rfl rfl (by unfold fV;rw[b8];lia) aS
    .rw[US,Cd,i];simp[S,a]) (Km rows rows.length w) [] (S (bY rows (mi rows K0 [])) R o9) ⟨rfl,o9,by simp⟩
 subst e;rw[ko]at m;rw[CY,CZ u v]at m;show#[l,m]
abbrev Ah:List TM.S:=[.put 3 (.var 7) (.cst (.bl a8)),.JZ bL [9] .seq [.Mm 1 (.var 7) (.lst [])] vR]
def xB(m:Once rows)(q:rows.length<=120)(y:∀w,w∉ks->Km rows rows.length w=[])(n:(K0++st.map (·.1)).Nodup)(hl:K0.length+st.length<=120)(vs:List U)(o7 o8 o9:Option (Kd×U)):∃(vs':List U) (R:List Nat) (g i a:Option (Kd×U)),
  RI rows K0 (K0++st.map (·.1)) R/\(st=[]->R=[])/\Run (forM a8 [7,8] (execs Γ Ah) [(.bor 6,.lst (st.map stN))] (st.map λs=>(Kd.loc,stN s)))
   [b0,a5 (.own,.JF ks (ks.map (cN (Km rows rows.length)))),a5 (.own,.lst (bY rows λp=>(cnt rows K0 p:Int))),a5 (.own,.JF K0 vs),b4,a5 (.own,.lst []),a5 (.own,.lst (st.map stN)),o7,o8,o9] .nx
   [b0,a5 (.own,.JF ks (ks.map (cN (Km rows rows.length)))),a5 (.own,.lst (bY rows λp=>(cnt rows (K0++st.map (·.1)) p:Int))),a5 (.own,.JF (K0++st.map (·.1)) vs'),b4,a5 (.own,.lst (fV R)),a5 (.own,.lst (st.map stN)),g,i,a]:=by
 let S:=λ(K:List Str) (vs:List U) (R:List Nat) (o7 o8 o9:Option (Kd×U))=>([b0,a5 (.own,.JF ks (ks.map (cN (Km rows rows.length)))),a5 (.own,.lst (bY rows λp=>(cnt rows K p:Int))),a5 (.own,.JF K vs),b4,a5 (.own,.lst (fV R)),a5 (.own,.lst (st.map stN)),o7,o8,o9]:aw)
 have(st',A,b,vs',R,g,i,a,e,x,B,o):=dE (t:=a8) (is:=[7,8]) (body:=execs Γ Ah) (rs:=[(.bor 6,.lst (st.map stN))]) (λs:Str×Nat=>(Kd.loc,stN s))
  (λd r j=>d++r=st/\∃(vs:List U) (R:List Nat) (o7 o8 o9:Option (Kd×U)),j=S (K0++d.map (·.1)) vs R o7 o8 o9/\RI rows K0 (K0++d.map (·.1)) R/\R.length<=120 * d.length/\(d=[]->R=[])) (λ_ _ j ⟨_,vs,R,o7,o8,o9,e,_⟩=>by subst e;show∅) (λd s r j C=>by
   have(b,vs,R,o7,o8,o9,e,x,B,o):=C;subst e;have(w,p):=s;have L:d.length<st.length:=by have:=Ś vr b;simp at this;lia
   have l:w∉K0++d.map (·.1):=λz=>by
    rw[<-b,kj,<-List.append_assoc,nc]at n;show n.2.2 w z w (by simp) rfl
   let c:Option (Kd×U):=a5 (.loc,.str w);let f:Option (Kd×U):=a5 (.loc,.int (p:Nat));have(a,D):=rP (Γ:=Γ) m q l (R:=R) ⋯ (b0:=b0) (b1:=a5 (.own,.JF ks (ks.map (cN (Km rows rows.length))))) (b3:=a5 (.own,.JF (K0++d.map (·.1)++[w]) (vs++[.bl a8]))) (b4:=b4) (o6:=a5 (.own,.lst (st.map stN))) (o7:=c) (o8:=f) o9 (src:=[(.loc,cN (Km rows rows.length) w)]) (λ_=>trivial);have em:K0++(d++[(w,p)]).map (·.1)=K0++d.map (·.1)++[w]:=by simp
   have G:(K0++d.map (·.1)).length<1000:=by rw[hH,b8];lia
   have H:(match eD ks (ks.map (cN (Km rows rows.length))) w with|some v=>(Kd.loc,v)|none=>(.loc,U.lst []))=(.loc,cN (Km rows rows.length) w):=by
    rw[m9];by_cases h:w∈ks
    .rw[Ŕ h]
    .rw[ŕ h];unfold cN;rw[y w h];rfl
   have I:((Km rows rows.length w).map λt:Nat=>U.int (t:Nat)).map (λu=>(kE .loc,u))=(Km rows rows.length w).map λt=>(Kd.loc,U.int (t:Nat)):=by rw[i6];rfl
   show#[S (K0++d.map (·.1)) vs R c f o9,S (K0++d.map (·.1)++[w]) (vs++[.bl a8]) (R++(Km rows rows.length w).filter λt=>b7 (cnt rows (K0++d.map (·.1)) t=1)) c f a,m8 (.inl rfl),?_,by rw[<-b];simp,vs++[.bl a8],_,c,f,a,by rw[em],?_,?_,λz=>by simp at z]
   .show z9 (k:=.own) (rv:=(.loc,.bl a8)) (rk:=(.loc,.str w)) ai rfl (ah rfl) (ak ay (ak ay aB)) rfl rfl (ql G l) ?_;show dR (rs:=[(.loc,cN (Km rows rows.length) w)]) (aa (Gi (k:=.loc) (z:=(.own,.lst [])) (u:=.lst []) rfl (ah rfl) (cC af trivial aB (ki _)) iM H) af) trivial (by change a5 (S6 (λu=>(kE .loc,u)) _)=_;rw[I]) rfl D aS
   .rw[em];show x.step m l
   .have:((Km rows rows.length w).filter λt=>b7 (cnt rows (K0++d.map (·.1)) t=1)).length<=120:=by
     show va (OW _ _) ?_;have J:(Km rows rows.length w).length<=(dV rows.length).length:=OW _ _;simp at J;lia
    rw[hH,hH,JY];lia) st [] (S K0 vs [] o7 o8 o9) ⟨rfl,vs,[],o7,o8,o9,by simp[S],by simpa using RI.start K0,by simp,λ_=>rfl⟩
 subst e;show#[vs',R,g,i,a,by simpa using x,λz=>o (by simpa using z),by simpa[S,fV] using A]
abbrev iE(Kf:List (List (Str×Nat))):List U:=Kf.map λl=>U.lst (l.map stN)
abbrev Ai:List TM.S:=[.set 6 (.call "new_steps" [.var 0,.var 5,.var 3]),.set 5 (.lst []),.JZ a8 [7,8] .seq [.var 6] Ah,.ite (.cmp .ne (.var 6) (.lst [])) [.app 4 (.var 6)] []]
abbrev Aj(Γ:Tab)(rows:List Row):Prop:=∀(R:List Nat) (K0:List Str) (vs:List U),(∀t∈R,t<rows.length)->∃st:List (Str×Nat),NS rows K0 R st/\Γ "new_steps" [.tup (rows.map JD),.lst (fV R),.JF K0 vs]=a5 (.ok (.own,.lst (st.map stN)))
theorem kn(C:Once rows)(D:rows.length<=120)(G:Aj Γ rows)(H:∀w,w∉ks->Km rows rows.length w=[]):∀(f:Nat) (c:List (Str×Nat)) (Kf:List (List (Str×Nat))) (R:List Nat) (vs:List U) (o6 o7 o8 o9:Option (Kd×U)),
  LI rows c R->Kf.flatten=c->Kf.length<=c.length->(rows.length - c.length)+(if R=[] then 1 else 2)<=f ->
  ∃(RT:List (Str×Nat)) (I:List (List (Str×Nat))) (st':aw),LI rows RT []/\I.flatten=RT/\I.length<=120/\st'[4]?=a5 (a5 (.own,.lst (iE I))) /\
   Run (iX (JP Γ (.cmp .ne (.var 5) (.lst []))) (execs Γ Ai) f) [a5 (.loc,.tup (rows.map JD)),a5 (.own,.JF ks (ks.map (cN (Km rows rows.length)))),a5 (.own,.lst (bY rows λp=>(cnt rows (c.map (·.1)) p:Int))),a5 (.own,.JF (c.map (·.1)) vs),a5 (.own,.lst (iE Kf)),a5 (.own,.lst (fV R)),o6,o7,o8,o9] .nx st'
 |0,c,Kf,R,vs,o6,o7,o8,o9,_,_,_,h=>by split at h<;>lia
 |f+1,c,Kf,R,vs,o6,o7,o8,o9,x,J,VY,h=>by
  have hsz:(20000:Nat)<=b6:=by decide
  have N9:∀{s:List (Str×Nat)} {d:List Nat},LI rows s d->s.length<=rows.length:=λ{s d} x=>by
   have:=oK x.nd x.wd;simpa using this
  have KJ:=N9 x;let S:=λ(K:List Str) (vs:List U) (Kf:List (List (Str×Nat))) (R:List Nat) (o6 o7 o8 o9:Option (Kd×U))=>([a5 (.loc,.tup (rows.map JD)),a5 (.own,.JF ks (ks.map (cN (Km rows rows.length)))),a5 (.own,.lst (bY rows λp=>(cnt rows K p:Int))),a5 (.own,.JF K vs),a5 (.own,.lst (iE Kf)),a5 (.own,.lst (fV R)),o6,o7,o8,o9]:aw)
  have N:∀R:List Nat,J4 50 (.lst (fV R))=a8:=λR=>by change bV 49 _=a8;show iw (λt:Nat=>((t:Nat):Int)) R 49
  have v:Run (JP Γ (.cmp .ne (.var 5) (.lst []))) (S (c.map (·.1)) vs Kf R o6 o7 o8 o9) (!(fV R).isEmpty) (S (c.map (·.1)) vs Kf R o6 o7 o8 o9) :=
   aU (ax rfl) (cC af trivial aB (ki _)) ∅ (gW (N R))
  by_cases O:R=[]
  .subst O;show#[c,Kf,_,x,J,⋯,rfl,DL v]
  .rw[ŕ O]at h;have SO:(!(fV R).isEmpty)=a8:=by
    cases R with
    |nil=>show absurd rfl O
    |cons a l=>rfl
   rw[SO]at v;have(st,n,JI):=G R (c.map (·.1)) vs λt ht=>(x.RP t ht).1;have JV:(c.map (·.1)++st.map (·.1)).Nodup:=by
    rw[nc];show#[x.nd,n.once,λa ha b m e=>?_];have(s,hs,rfl):=ku.mp m;show(n.ok s hs).2.1 (e▸ha)
   have ac:c.length+st.length<=rows.length:=by
    have:=oK JV (L:=rows.map (·.1)) λy hy=>by
     rcases f6.mp hy with hy|hy
     .show x.wd y hy
     .have(s,hs,rfl):=ku.mp hy;have(_,_,r,q1,q2):=n.ok s hs;show ku.mpr #[r,ri q1,q2]
    simpa using this
   let o:Option (Kd×U):=a5 (.own,.lst (st.map stN));have(vs',d,g,i,j,y,Q,VZ):=xB (Γ:=Γ) C D H JV (by rw[b8];lia) (b0:=a5 (.loc,.tup (rows.map JD))) (b4:=a5 (.own,.lst (iE Kf))) vs o7 o8 o9;have T:=x.step n y;have em:(c++st).map (·.1)=c.map (·.1)++st.map (·.1):=kj;have Y:J4 50 (.lst (st.map stN))=a8:=by change bV 49 _=a8;show rO st 48
   have z:Run (JP Γ (.cmp .ne (.var 6) (.lst []))) (S (c.map (·.1)++st.map (·.1)) vs' Kf d o g i j) (!(st.map stN).isEmpty) (S (c.map (·.1)++st.map (·.1)) vs' Kf d o g i j) :=
    aU (ax rfl) (cC af trivial aB (ki _)) ∅ (gW Y)
   have e1:(st.map stN).map (λu=>(kE (.bor 6),u))=st.map λs=>(Kd.loc,stN s):=by rw[i6];rfl
   have q:∀{Ls:aw},Run (execs Γ [.ite (.cmp .ne (.var 6) (.lst []))
    [.app 4 (.var 6)]
    []]) (S (c.map (·.1)++st.map (·.1)) vs' Kf d o g i j) .nx Ls->Run (execs Γ Ai) (S (c.map (·.1)) vs Kf R o6 o7 o8 o9) .nx Ls:=λh=>by
    show az (r:=(.own,.lst (st.map stN))) (aP (aa (ah rfl) (aa (ax rfl) (aa (ax rfl) af))) #[#[.own,rfl,rfl],#[.own,rfl,rfl],trivial] JI) aV ?_;show az (r:=(.own,.lst [])) (cC af trivial aB (ki _)) aV ?_;show dR (rs:=[(.bor 6,.lst (st.map stN))]) (aa (ax rfl) af) ∅ (by change a5 (S6 (λu=>(kE (.bor 6),u)) _)=_;rw[e1]) rfl VZ h
   by_cases A:st=[]
   .have ab:=Q A;subst A;rw[show(!(([]:List (Str×Nat)).map stN).isEmpty)=bL from rfl]at z;have ee:c++[]=c:=oD _;rw[ee]at T;have m:=q (bT z (λh=>by cases h) λ_=>aS);have(PH,PJ,st2,z1,z2,z3,z4,B):=kn C D G H f c Kf d vs' o g i j T J VY (by rw[Ŕ ab];lia);show#[PH,PJ,st2,z1,z2,z3,z4,CS v m ?_];have e3:c.map (·.1)++([]:List (Str×Nat)).map (·.1)=c.map (·.1):=by simp
    change Run _ (S (c.map (·.1)++([]:List (Str×Nat)).map (·.1)) vs' Kf d o g i j) _ _;rw[e3];show B
   .have V0:(!(st.map stN).isEmpty)=a8:=by
     cases st with
     |nil=>show absurd rfl A
     |cons a l=>rfl
    rw[V0]at z;have Py:0<st.length:=Æ.mpr A;have ef:iE (Kf++[st])=iE Kf++[.lst (st.map stN)]:=by simp[iE]
    have m:Run (execs Γ Ai) (S (c.map (·.1)) vs Kf R o6 o7 o8 o9) .nx (S (c.map (·.1)++st.map (·.1)) vs' (Kf++[st]) d (a5 (.loc,.lst (st.map stN))) g i j):=by
     show q (bT z (λ_=>?_) λh=>by cases h);change Run _ _ _ [a5 (.loc,.tup (rows.map JD)),a5 (.own,.JF ks (ks.map (cN (Km rows rows.length)))),a5 (.own,.lst (bY rows λp=>(cnt rows (c.map (·.1)++st.map (·.1)) p:Int))),a5 (.own,.JF (c.map (·.1)++st.map (·.1)) vs'),a5 (.own,.lst (iE (Kf++[st]))),a5 (.own,.lst (fV d)),a5 (.loc,.lst (st.map stN)),g,i,j];rw[ef];show oG (k:=.own) (k':=.own) (r:=(.bor 6,.lst (st.map stN))) (u:=.lst (st.map stN)) rfl (ax rfl) (vQ rfl) rfl rfl (by unfold iE;rw[b8];lia) aS
    have(PH,PJ,st2,z1,z2,z3,z4,B):=kn C D G H f (c++st) (Kf++[st]) d vs' (a5 (.loc,.lst (st.map stN))) g i j T (by rw[È,J];simp) (by rw[hH,hH,JY];lia) (by rw[hH];split<;>lia);show#[PH,PJ,st2,z1,z2,z3,z4,CS v m ?_];rw[em]at B;show B
abbrev DP(Γ:Tab)(rows:List Row):Prop:=∃ks:List Str,(∀w,w∉ks->Km rows rows.length w=[])/\Γ "places_that_tell" [.tup (rows.map JD)]=a5 (.ok (.own,.JF ks (ks.map (cN (Km rows rows.length)))))
def iF(q:Once rows)(s:rows.length<=120)(v:DP Γ rows)(w:Aj Γ rows):∃(d:List (Str×Nat)) (Kf:List (List (Str×Nat))),LI rows d []/\Kf.flatten=d/\Kf.length<=120/\bX Γ bt [.tup (rows.map JD)]=a5 (.ok (.own,.lst (iE Kf))):=by
 have hsz:(20000:Nat)<=b6:=by decide
 have(ks,z,A):=v;have B:TM.start [.tup (rows.map JD)] 10=[a5 (.loc,.tup (rows.map JD)),bD,bD,bD,bD,bD,bD,bD,bD,bD]:=by simp[TM.start,JW,cX]
 let f:Option (Kd×U):=a5 (.loc,.tup (rows.map JD));let g:Option (Kd×U):=a5 (.own,.JF ks (ks.map (cN (Km rows rows.length))));let C:Option (Kd×U):=a5 (.own,.lst (bY rows λp=>(cnt rows [] p:Int)));have D:Run (ev Γ (.comp 1 bL .seq [.var 0] [] (.bi .len [.idx (.var 0) (.cst (.int 1))]))) [f,g,bD,bD,bD,bD,bD,bD,bD,bD] (.own,.lst (bY rows λp=>(cnt rows [] p:Int))) [f,g,bD,bD,bD,bD,bD,bD,bD,bD]:=by
  have c:=gU (cond:=aR Γ []) (elt:=ev Γ (.bi .len [.idx (.var 0) (.cst (.int 1))])) (src:=[(.loc,.tup (rows.map JD))]) (st:=[f,g,bD,bD,bD,bD,bD,bD,bD,bD]) trivial .loc (.inl rfl) JD (λr=>.int (r.2.length:Nat)) .loc (λ_=>iN) rows [] (by simp;lia)
   (λy _=>#[cA (aa (aQ (x:=(.loc,JD y)) (ah rfl) ai trivial rfl) af) trivial (by rw[jH,b8]),ay])
  rw[ko]at c;have e:(rows.map JD).map (λu=>(kE .loc,u))=rows.map λr=>(Kd.loc,JD r):=by rw[i6];rfl
  have G:(rows.map λr=>U.int (r.2.length:Nat))=bY rows λp=>(cnt rows [] p:Int):=by
   unfold bY;apply Pr
   .simp
   .intro i j k;have hi:i<rows.length:=by simpa using j
    have l:told rows i=rows[i].2:=lA (by simp[hi]);have H:cnt rows [] i=rows[i].2.length:=by unfold cnt uC;rw[l];simp
    simp[H]
  rw[G]at c;show cM (rs:=[(.loc,.tup (rows.map JD))]) (aa (ah rfl) af) trivial (by change a5 _=_;rw[e]) c
 let m:=(dV rows.length).filter λp=>b7 (cnt rows [] p=0);let n:aw:=[f,g,C,a5 (.own,.JF [] []),a5 (.own,.lst []),bD,bD,bD,bD,bD]
 have I:Run (ev Γ (.comp 2 a8 .ON [.var 2] [.cmp .eq (.var 1) (.cst (.int 0))] (.var 0))) n (.own,.lst (fV m)) n:=by
  have c:=m_ (st:=n) (cond:=aR Γ [.cmp .eq (.var 1) (.cst (.int 0))]) (elt:=ev Γ (.var 0)) (src:=[(.bor 2,.lst (bY rows λp=>(cnt rows [] p:Int)))]) ⟨⟨.own,rfl,rfl⟩,trivial⟩ (λp:Nat=>U.int (p:Nat)) (λp:Nat=>U.int (cnt rows [] p:Int)) (λp:Nat=>U.int (p:Nat)) (λp=>b7 (cnt rows [] p=0)) (dV rows.length) [] (by simp;lia)
   (λy _=>#[dC (aU (ah rfl) ai trivial (eI (by rw[oT];simp))),ah rfl])
  rw[ko]at c;have e:((bY rows λp=>(cnt rows [] p:Int)).zipIdx.map λp=>(kE (.bor 2),U.tup [.int p.2,p.1]))=(dV rows.length).map λp:Nat=>(Kd.loc,U.tup [.int (p:Nat),.int (cnt rows [] p:Int)]):=by
   unfold bY;apply Pr
   .simp
   .intro i j k;simp[kE]
  show cM (rs:=[(.bor 2,.lst (bY rows λp=>(cnt rows [] p:Int)))]) (aa (ax rfl) af) ⟨⟨.own,rfl,rfl⟩,trivial⟩ (by change a5 _=_;rw[e]) c
 have J:LI rows [] m:=#[.nil,λ_ _ _ h=>(nomatch h),λ_ h=>(nomatch h),λt l=>by
  have(a,b):=H8.mp l;show#[p7.mp a,by simpa using b],λt r j k=>.inl (H8.mpr #[p7.mpr (cL.mp j).1,by simpa using k])]
 have(d,Kf,st',L,N,O,o,Q):=kn q s w z fuel [] [] m [] bD bD bD bD J rfl (ez _) (by unfold fuel;split<;>simp<;>lia);show#[d,Kf,L,N,O,?_];show aH rfl (.inl rfl) B (az (r:=(.own,.JF ks (ks.map (cN (Km rows rows.length))))) (aP (aa (ah rfl) af) trivial A) aV (az D aV (az (r:=(.own,.JF [] [])) ue aV (az (r:=(.own,.lst [])) (cC af trivial aB (ki _)) aV (az I aV (DM Q (bp (ax o) (mS o))))))))
def xC{Kf:List (List (Str×Nat))}(hs:Γ "steps_in_rounds" [.tup (rows.map JD)]=a5 (.ok (.own,.lst (iE Kf))))(b:Kf.flatten=c)(hl:c.length<=120):bX Γ fU [.tup (rows.map JD)]=a5 (.ok (.own,.lst (c.map stN))):=by
 have hsz:(20000:Nat)<=b6:=by decide
 have g:TM.start [.tup (rows.map JD)] 3=[a5 (.loc,.tup (rows.map JD)),bD,bD]:=by simp[TM.start,JW,cX]
 let S:=λ(l:List (Str×Nat)) (o2:Option (Kd×U))=>([a5 (.loc,.tup (rows.map JD)),a5 (.own,.lst (l.map stN)),o2]:aw)
 have(st',h,a,o2,e):=dE (t:=bL) (is:=[2]) (body:=execs Γ [.ext 1 (.var 2)]) (rs:=[(.own,.lst (iE Kf))]) (λl:List (Str×Nat)=>(Kd.loc,U.lst (l.map stN)))
  (λd r st=>d++r=Kf/\∃o2:Option (Kd×U),st=S d.flatten o2) (λ_ _ _ _=>trivial) (λd y r st i=>by
   have(a,o2,e):=i;subst e;have j:d.flatten.length+y.length<=120:=by
    have:=Ś (λl:List (List (Str×Nat))=>l.flatten.length) a;simp only[È,Ü,hH,b]at this;lia
   show#[S d.flatten (a5 (.loc,.lst (y.map stN))),S (d++[y]).flatten (a5 (.loc,.lst (y.map stN))),fc a9,?_,by rw[<-a];simp,_,rfl];have em:(d++[y]).flatten.map stN=d.flatten.map stN++y.map stN:=by simp
   change Run _ _ _ [a5 (.loc,.tup (rows.map JD)),a5 (.own,.lst ((d++[y]).flatten.map stN)),a5 (.loc,.lst (y.map stN))];rw[em];show DK (k:=.own) (k':=.own) rfl (ah rfl) rfl rfl (vP (by rw[b8,b8];lia) rfl) aS) Kf [] (S [] bD) ⟨rfl,bD,rfl⟩
 subst e;have e:(iE Kf).map (λu=>(kE .own,u))=Kf.map λl=>(Kd.loc,U.lst (l.map stN)):=by unfold iE;rw[i6];rfl
 have f:=aH (Γ:=Γ) (fn:=fU) rfl (.inl rfl) g (az (r:=(.own,.lst [])) (cC af trivial aB (ki _)) aV (dR (rs:=[(.own,.lst (iE Kf))]) (st1:=S [] bD) (aa (aP (aa (ah rfl) af) trivial hs) af) trivial rfl rfl (by rw[e];show h) (bp (ax rfl) (mS rfl))));rw[ko,b]at f;show f
end
section
variable{Γ:Tab}{rows:List Row}{names:List Str}
def uE(h:ss.length<64):KP .sorted [(k,.lst (ss.map .str))]=a5 (.own,.lst ((bI ss).map .str)):=by
 change(strsOf (ss.map U.str)).bind _=_;rw[fB];change(if ss.length<64 then _ else _)=_;rw[Ŕ h]
def fW{a:List (Str×Nat)}(hl:a.length<64)(ho:Γ "order" [.tup (rows.map JD)]=a5 (.ok (.own,.lst (a.map stN)))):bX Γ fD [.tup (rows.map JD)]=a5 (.ok (.own,.lst ((bI (a.map (·.1))).map .str))):=by
 have hsz:(20000:Nat)<=b6:=by decide
 have c:TM.start [.tup (rows.map JD)] 1=[a5 (.loc,.tup (rows.map JD))]:=by simp[TM.start,JW,cX]
 have b:=m_ (st:=[a5 (.loc,.tup (rows.map JD))]) (cond:=aR Γ []) (elt:=ev Γ (.var 0)) (src:=[(.own,.lst (a.map stN))]) trivial (λs:Str×Nat=>U.str s.1) (λs=>U.int (s.2:Nat)) (λs=>U.str s.1) (λ_=>a8) a [] (by simp;lia) (λy _=>#[iN,ah rfl]);rw[ko,List.filter_eq_self.mpr (λ_ _=>rfl)]at b;have e:(a.map stN).map (λu=>(kE .own,u))=a.map λs=>(Kd.loc,U.tup [.str s.1,.int (s.2:Nat)]):=by rw[i6];rfl
 have d:(a.map λs=>U.str s.1)=(a.map (·.1)).map U.str:=by rw[i6];rfl
 rw[d]at b;show aH rfl (.inl rfl) c (bp (cA (aa (cM (rs:=[(.own,.lst (a.map stN))]) (aa (aP (aa (ah rfl) af) trivial ho) af) trivial (by change a5 (S6 (λu=>(kE .own,u)) _)=_;rw[e]) b) af) trivial (uE (by rw[b8];show hl))) jG)
structure Xy(prog:List Fn):Prop where
 g:J3 prog "gathered" dF
 p:J3 prog "places_that_tell" bj
 n:J3 prog "new_steps" cY
 s:J3 prog "steps_in_rounds" bt
 o:J3 prog "order" fU
structure Kn(rows:List Row)(K:List Str):Prop where
 nd:K.Nodup
 sn:Qu rows K
 cl:gV rows (·∈K)
def Kn.perm(a:Kn rows K)(b:Kn rows L):K.Perm L:=same a.nd b.nd a.sn b.sn a.cl b.cl
def Kn.of(s:LI rows a []):Kn rows (a.map (·.1)):=#[s.nd,s.sn,s.closed]
def C2(L:Xy prog)(n:Nat)(e:∀r∈rows,r.2.length<=8)(d:Once rows)(f:rows.length<=60):∃c:List (Str×Nat),LI rows c []/\c.length<=60/\J9 prog (n+4) "order" [.tup (rows.map JD)]=a5 (.ok (.own,.lst (c.map stN))):=by
 have i:∀r∈rows,r.1∈rows.map (·.1):=λr h=>ku.mpr #[r,h,rfl];have u:(rows.map (·.1)).length<=60:=by rw[b8];show f
 have j:DO (J9 prog (n+1)):=λps hl=>by
  have(ks,a,b):=qm (Γ:=J9 prog n) hl;show#[ks,a,(aF L.g _).trans b]
 have k:DP (J9 prog (n+2)) rows:=by
  have(ks,a,b):=jd j d e ⋯;show#[ks,a,(aF L.p _).trans b]
 have l:Aj (J9 prog (n+2)) rows:=λR K0 vs m=>by
  have(st,a,b):=nV (Γ:=J9 prog (n+1)) i ⋯ m (K0:=K0) (vs:=vs);show#[st,a,(aF L.n _).trans b]
 have(c,Kf,s1,s2,s3,s4):=iF d ⋯ k l;have q:J9 prog (n+3) "steps_in_rounds" [.tup (rows.map JD)]=a5 (.ok (.own,.lst (iE Kf))):=(aF L.s _).trans s4;have t:c.length<=60:=by
  have:=oK (Kn.of s1).nd (L:=rows.map (·.1)) s1.wd;rw[b8]at this;lia
 show#[c,s1,t,(aF L.o _).trans (xC q s2 ⋯)]
end
end KL
namespace TM
open PySem L2 J2
section
def ng(h:st[i]?=a5 (a5 (.A',.ob u us))):Run (LA i) st (u,us) st:=by
 change LA i st=_;unfold LA;rw[h]
def DQ(h:st[i]?=a5 (a5 (.A',.ob u us)))(a:f u us=a5 (u',us'))(b:JW u'=a8)(c:dy us'=a8):Run (Om i f) st () (st.set i (a5 (.A',.ob u' us'))):=by
 change Om i f st=_;unfold Om;rw[h]
 dsimp only
 rw[a];show Ŕ #[b,c]
def eL(h:st[i]?=a5 (a5 (.A',.ob u us))):Run (ev Γ (.Kq i)) st (.loc,u) st:=ae (ng h) aM
def Gm(h:st[i]?=a5 (a5 (.A',.ob u us))):Run (ev Γ (.MO i)) st (.loc,.int (us.length:Nat)) st:=ae (ng h) aM
def Ak(h:st[i]?=a5 (a5 (.A',.ob u us)))(a:J4 50 (.lst us)=a8):Run (JP Γ (.LK i)) st us.isEmpty st:=ae (ng h) (by change(if J4 50 (.lst us)=a8 then pure us.isEmpty else M.fail:M Bool) st=_;rw[Ŕ a];rfl)
def Gn(h:st[i]?=a5 (a5 (.A',.ob u us)))(a:us[us.length - 1]?=a5 w):Run (ev Γ (.la i)) st (.loc,w) (st.set i (a5 (.A',.ob u us.dropLast))):=by
 change TM.la i st=_;unfold TM.la;rw[h]
 dsimp only
 rw[a]
def qo(h:st[i]?=a5 (a5 (.A',.ob u us)))(a:Γ f (gI p (.ob u us) (rs.map (·.2)))=a5 (.ok (k,.tup [w,.ob u' us'])))(hk:k=.own\/k=.loc)(b:p<=rs.length):Run (gJ Γ f p i rs) st (k,w) (st.set i (a5 (.A',.ob u' us'))):=by
 change gJ Γ f p i rs st=_;unfold gJ;rw[h]
 dsimp only
 rw[a];show Ŕ #[hk,b]
def Gp(a:st[i]?=a5 (a5 (.A',.ob u0 us0)))(b:Run (aT Γ es) st r1 st1)(c:Run (aT Γ d) st1 r2 st2)(e:a_ (r1++r2) st2)(h:st2[i]?=a5 (a5 (.A',.ob u us)))
  (g:Γ f (gI es.length (.ob u us) ((r1++r2).map (·.2)))=a5 (.ok (k,.tup [w,.ob u' us']))) (hk:k=.own\/k=.loc) (j:es.length<=(r1++r2).length):Run (ev Γ (.Ku f i es d)) st (k,w) (st2.set i (a5 (.A',.ob u' us'))) :=
 ae (ng a) (ae (ae b (ae c aM)) (ae (aZ e) (qo h g hk j)))
def qp(a:st[i]?=a5 (a5 (.A',.ob u0 us0)))(c:Run (aT Γ es) st r1 st1)(d:Run (aT Γ e) st1 r2 st2)(g:a_ (r1++r2) st2)(h:st2[i]?=a5 (a5 (.A',.ob u us)))
  (j:Γ f (gI es.length (.ob u us) ((r1++r2).map (·.2)))=a5 (.ok (k,.tup [.bl b,.ob u' us']))) (hk:k=.own\/k=.loc) (l:es.length<=(r1++r2).length):Run (JP Γ (.Ku f i es e)) st b (st2.set i (a5 (.A',.ob u' us'))) :=
 ae (ae (ng a) (ae (ae c (ae d aM)) (ae (aZ g) (qo h j hk l)))) (dq rfl)
def eM(a:st[i]?=a5 (a5 (.A',.ob u0 us0)))(b:Run (aT Γ es) st rs st1)(c:a_ rs st1)(h:st1[i]?=a5 (a5 (.A',.ob u us)))(d:Γ f (.ob u us::rs.map (·.2))=a5 (.ok (k,.tup [w,.ob u' us'])))(hk:k=.own\/k=.loc):
  Run (ev Γ (.Kl f m i es)) st (k,w) (st1.set i (a5 (.A',.ob u' us'))) :=
 ae (ng a) (ae b (ae (aZ c) (qo h d hk (ki _))))
def Gq(h:Run (execs Γ ss) (st.set i (a5 (.A',.ob (.tup []) []))) f st1):Run (execs Γ (.LL i::ss)) st f st1:=dY rfl h
def Gr(a:Run (ev Γ e) st r st1)(b:Run (lift r) st1 u' st2)(h:st2[i]?=a5 (a5 (.A',.ob u us)))(c:JW u'=a8)(d:dy us=a8)(g:Run (execs Γ ss) (st2.set i (a5 (.A',.ob u' us))) f j):Run (execs Γ (.MQ i e::ss)) st f j :=
 dY (ae a (ae b (ae (DQ h rfl c d) aM))) g
def Gu(h:st[i]?=a5 (a5 (.A',.ob u us)))(hl:us.length<b6)(a:JW u=a8)(b:dy (us++[u])=a8)(c:Run (execs Γ ss) (st.set i (a5 (.A',.ob u (us++[u])))) f d):Run (execs Γ (.MR i::ss)) st f d :=
 dY (ae (DQ h (by unfold BH;rw[Ŕ hl]) a b) aM) c
def bJ(a:vs.length=fn.np/\p<fn.np)(hs:bh p vs fn.ns=st0)(h:Run (execs Γ body) st0 f st)(b:Rj f=a5 (k,w))(ho:st[p]?=a5 (a5 (.A',.ob u us))):dP Γ fn p body vs=a5 (.ok (k,.tup [w,.ob u us])):=by
 subst hs;unfold dP;rw[Ŕ a,show execs Γ body (bh p vs fn.ns)=_ from h];change(Rj f).bind _=_;rw[b];change(Qk p st).map _=_;unfold Qk;rw[ho];rfl
end
end TM
namespace K
open PySem L2 TM
abbrev ck:Ck:=#[(prog.filter λf=>f.io.isNone&&f.ob.isNone&&b7 (f.name≠("Shelf.__init__":Str))).map (·.name),[("FIRST_SENSE",(.int 1)),("LAST_SENSE",(.int 99)),("LETTERS",(.str "abcdefghijklmnopqrstuvwxyz")),("LONGEST_STEM",(.int 8)),("MOST_ROWS",(.int 60)),("MOST_TOLD",(.int 8))],[],["NoDeed","NoRow","TooMany","Unfit"],[("NoDeed","PrimerError"),("NoRow","PrimerError"),("TooMany","PrimerError"),("Unfit","PrimerError")],([("NoDeed","Lacking",bL),("NoDeed","NoDeed",a8),("NoDeed","NoRow",bL),("NoDeed","NoText",bL),("NoDeed","TooMany",bL),("NoDeed","Unfit",bL),("NoDeed","Unknown",bL),("NoDeed","Unlearnt",bL),("NoDeed","ValueError",a8)]:List (Str×Str×Bool))++([("NoRow","Lacking",bL),("NoRow","NoDeed",bL),("NoRow","NoRow",a8),("NoRow","NoText",bL),("NoRow","TooMany",bL),("NoRow","Unfit",bL),("NoRow","Unknown",bL),("NoRow","Unlearnt",bL),("NoRow","ValueError",a8)]:List (Str×Str×Bool))++([("TooMany","Lacking",bL),("TooMany","NoDeed",bL),("TooMany","NoRow",bL),("TooMany","NoText",bL),("TooMany","TooMany",a8),("TooMany","Unfit",bL),("TooMany","Unknown",bL),("TooMany","Unlearnt",bL),("TooMany","ValueError",a8)]:List (Str×Str×Bool))++([("Unfit","Lacking",bL),("Unfit","NoDeed",bL),("Unfit","NoRow",bL),("Unfit","NoText",bL),("Unfit","TooMany",bL),("Unfit","Unfit",a8),("Unfit","Unknown",bL),("Unfit","Unlearnt",bL),("Unfit","ValueError",a8)]:List (Str×Str×Bool)),[("_law_kinds",[["Unfit"],["TooMany"],["NoRow"],["NoDeed"],["Lacking","NoText","Unknown","Unlearnt"],["ValueError"]])],[("Shelf.book",0,"book"),("Shelf.learnt_now",0,"learnt_now"),("Shelf.deeds",0,"deeds"),("Shelf.put",0,"put"),("Shelf.take",0,"take"),("Shelf.back",0,"back"),("Shelf.do_deed",0,"do_deed"),("Shelf.turn_to",0,"turn_to"),("_law_refused",0,""),("_law_room_again",0,"")]]
end K
namespace TM
open PySem L2 J2
def qq(a:0<=i)(b:i<=99):KP .str [(k,.int i)]=a5 (.loc,.str (eX i)):=by
 simp only[KP,iW,yI];rw[Ŕ (by
  by_cases hz:i.natAbs=0
  .rw[hz];decide
  .have:i.natAbs<2 ^ 7:=by lia
   have:=(ļ hz).mpr this;lia)]
 rfl
theorem oO:∀(l D:List Str),(l.foldl eZ D).length<=D.length+l.length
 |[],D=>by simp
 |x::l,D=>by
  have h:=oO l (eZ D x);have:(eZ D x).length<=D.length+1:=by unfold eZ;split<;>simp
  rw[Q_,i4];lia
theorem rQ:∀(l D:List Str),D.Nodup->D.length+l.length<=(l.foldl eZ D).length->(D++l).Nodup
 |[],D,h,_=>by simpa using h
 |x::l,D,h,hl=>by
  rw[Q_,i4]at hl;by_cases c:x∈D
  .have e:eZ D x=D:=by unfold eZ;rw[Ŕ c]
   rw[e]at hl;have:=oO l D;lia
  .have e:eZ D x=D++[x]:=by unfold eZ;rw[ŕ c]
   rw[e]at hl;have d:(D++[x]).Nodup:=by
    rw[nc];show#[h,by simp,λa f b g z=>c ?_];rw[<-hY.mp g,<-z];show f
   have:=rQ l (D++[x]) d (by rw[hH,JY];lia);simpa using this
def C3(l:List Str):b7 ((bq l).length<l.length)=!decide l.Nodup:=by
 by_cases h:l.Nodup
 .have c:=lU l;have a:=mY h λx b=>(sU l x).mpr b;rw[ŗ h,Ŗ ⋯];rfl
 .have a:¬l.length<=(bq l).length:=λz=>h (rQ l [] .nil (by simpa[bq] using z));rw[Ŗ h,ŗ ⋯];rfl
def uF(hl:ss.length<=100):tD .jU [(k,.tup (ss.map .str))]=a5 (.loc,.int ((bq ss).length:Nat)):=by
 have e:wF (.tup (ss.map U.str))=a5 (bq ss):=by
  change(strsOf (ss.map U.str)).bind _=_;rw[fB];change(if ss.length+1<Nf then _ else _)=_;rw[Ŕ (by change ss.length+1<4096;lia)]
 change(wF (.tup (ss.map U.str))).map _=_;rw[e];rfl
def len_str(h:x.length<=100000):KP .len [(k,.str x)]=a5 (.loc,.int (x.length:Nat)):=by
 have hsz:(200000:Nat)<=b6:=by decide
 change(BF (.str x)).map _=_;change(if x.length<=b6 then a5 x.length else bD).map _=_;rw[Ŕ ⋯];rfl
def C4(x:Str)(c:Nat):Qh #[#v[c]] x=b7 (c∈x.cps.toList):=PySem.StrLaws.found_one x c
abbrev isNum(b:Str):Bool:=(dV 98).any λj:Nat=>b7 (eX (2+(j:Int))=b)
abbrev wb(x:Str):Bool:=if 47∈x.cps.toList then cU (lg x "/").1.cps.toList&&isNum (lg x "/").2.2 else cU x.cps.toList
def qr(h:cy x.cps.toList):wb x=a8:=by
 unfold wb;rcases h with h|⟨a,b,k,e,h,k2,f,c⟩
 .rw[ŕ (jm h)];show h
 .have d:=J2.uS e (jm h);rw[Ŕ (by rw[e];simp),show("/":Str)=⟨#v[47]⟩ from rfl,d,bF];show#[by simpa using h,?_];unfold isNum;rw[NI];show#[(k - 2).toNat,p7.mpr ⋯,ŗ ?_];rw[show(2:Int)+((k - 2).toNat:Nat)=k by lia];show TM.hV (by simpa using c)
structure Rw(r:Row):Prop where
 ln:r.2.length<=40
 w:r.1.length<=100
 ws:∀x∈r.2,x.length<=100
abbrev cO(r:Row):Bool:=(b7 (r.2.length<=8)&&decide r.2.Nodup)&&(wb r.1&&r.2.all wb)
def dH(h:cO r=a8):r.2.length<=8:=by
 unfold cO at h;simp only[bF,œ]at h;show h.1.1
def nu(h:cO r=a8):r.2.Nodup:=by
 unfold cO at h;simp only[bF,œ]at h;show h.1.2
end TM
namespace K
open PySem L2 TM J2
section
def Am(b:x.length<=100000):bX Γ iy [.str x]=a5 (.ok (.loc,.bl (cU x.cps.toList))):=by
 have hsz:(200000:Nat)<=b6:=by decide
 have g:=len_list x;let S:aw:=[a5 (.loc,.str x)]
 have d:Run (JP Γ (.or [.cmp .eq (.var 0) (.cst (.str "")),.cmp .gt (.bi .len [.var 0]) (.Mc "LONGEST_STEM" (.int 8))])) S (b7 (x="")||decide (8<x.length)) S:=by
  show ug (Ab (aU (ah rfl) ai trivial fT) λ_=>mR (aU (cA (aa (ah rfl) af) trivial (len_str b)) mP trivial (mW ?_)));rw[oT];simp;lia
 have a:=gU (cond:=aR Γ []) (elt:=ev Γ (.cmp .isin (.var 0) (.Mc "LETTERS" (.str "abcdefghijklmnopqrstuvwxyz")))) (src:=[(.loc,.str x)]) (st:=S) trivial .loc (.inl rfl) (λc:Nat=>U.str #[#v[c]]) (λc=>U.bl (low c)) .loc (λ_=>iN) x.cps.toList [] (by rw[Ts,VM];lia)
  (λc i=>#[f_ (c:=low c) (ah rfl) mP trivial (by
   change a5 (Qh #[#v[c]] "abcdefghijklmnopqrstuvwxyz")=_;have:=sJ "abcdefghijklmnopqrstuvwxyz" (by decide +kernel) c;rw[show Qh #[#v[c]] "abcdefghijklmnopqrstuvwxyz"=low c from this]),ay])
 rw[ko]at a;have e:KP .all [(.own,.lst (x.cps.toList.map λc=>U.bl (low c)))]=a5 (.loc,.bl (x.cps.toList.all low)):=by
  have:=qk (k:=.own) (x.cps.toList.map low);rw[i6,Vz]at this;show this
 show aH (st:=S) rfl (.inr rfl) (show TM.start [.str x] 1=S from rfl) (bT d (λz=>?_) λz=>?_)
 .have:cU x.cps.toList=bL:=by
   rw[OS,œ,œ]at z;unfold cU;rcases z with rfl|z
   .rfl
   .rw[Ŗ (p:=x.cps.toList.length<=8) ⋯];simp
  rw[this];show bp ai cw
 .have:cU x.cps.toList=x.cps.toList.all low:=by
   rw[Zy,ś,ś]at z;unfold cU;have f:1<=x.cps.toList.length:=by
    rcases Nat.eq_zero_or_pos x.cps.toList.length with h|h
    .show absurd (TM.hV (x:=x) (y:="") (by rw[WH h];rfl)) z.1
    .show h
   rw[ŗ f,ŗ (p:=x.cps.toList.length<=8) ⋯];rfl
  rw[this];show bp (cA (aa (cM (rs:=[(.loc,.str x)]) (aa (ah rfl) af) trivial rfl a) af) trivial e) cw
def C5(y:Str):b7 (y∈(dV 98).map λi:Nat=>eX (2+(i:Int)))=isNum y:=by
 unfold isNum;rw[oT,œ,NI,ku];simp only[œ]
def xD:bX Γ cH [.str y]=a5 (.ok (.loc,.bl (isNum y))):=by
 have hsz:(200000:Nat)<=b6:=by decide
 let S:aw:=[a5 (.loc,.str y)]
 have a:=gU (cond:=aR Γ []) (elt:=ev Γ (.bi .str [.var 0])) (src:=[(.loc,.int (1+1)),(.loc,.int (99+1))]) (st:=S) trivial .loc (.inl rfl) (λi:Nat=>U.int (2+(i:Int))) (λi=>U.str (eX (2+(i:Int)))) .loc (λ_=>iN) (dV 98) [] (by simp;lia)
  (λi hi=>#[cA (aa (ah rfl) af) trivial (qq ⋯ (by have:=p7.mp hi;lia)),ay])
 rw[ko]at a;have e:((dV 98).map λi:Nat=>U.str (eX (2+(i:Int))))=((dV 98).map λi:Nat=>eX (2+(i:Int))).map U.str:=by rw[i6];rfl
 rw[e]at a;show aH rfl (.inr rfl) (show TM.start [.str y] 1=S from rfl) (bp (f_ (c:=isNum y) (ah rfl) (cM (rs:=[(.loc,.int (1+1)),(.loc,.int (99+1))]) (aa (bb mP ai trivial dr) (aa (bb mP ai trivial dr) af)) trivial rfl a) trivial ?_) cw);change bK .isin (.str y) (.lst (((dV 98).map λi:Nat=>eX (2+(i:Int))).map U.str))=_;rw[Ip,C5]
def An(a:fn=⟨fn.name,1,1,[.ret (.idx (.MB .partition (.var 0) [.cst (.str "/")]) (.cst (.int n)))]⟩)(hl:x.length<=100000)(h:J_ [U.str (lg x "/").1,.str (lg x "/").2.1,.str (lg x "/").2.2] n=a5 (.str y)):bX Γ fn [.str x]=a5 (.ok (.loc,.str y)):=by
 have hsz:(200000:Nat)<=b6:=by decide
 have b:k_ .partition (.str x) [(.loc,.str "/")]=a5 (.loc,.tup [.str (lg x "/").1,.str (lg x "/").2.1,.str (lg x "/").2.2]):=by
  change(if (Tn "/"==0)=bL/\x.length<=b6 then _ else _)=_;rw[Ŕ #[by decide,⋯]]
 rw[a];show aH (st0:=[a5 (.loc,.str x)]) rfl (.inr rfl) rfl (bp (aQ (vI (ah rfl) (aa ai af) trivial b) ai trivial (ph h)) cw)
def Ao(h:x.length<=100000):(lg x "/").1.length<=100000:=by
 rw[show("/":Str)=⟨#v[47]⟩ from rfl];by_cases c:47∈x.cps.toList
 .have(a,b,e,d):=qJ c;rw[J2.uS e d,len_list];rw[len_list,e]at h;simp at h ⊢;lia
 .rw[J2.jW c];show h
def Ap(c:∀x:Str,x.length<=100000->Γ "is_stem" [.str x]=a5 (.ok (.loc,.bl (cU x.cps.toList))))(d:∀y:Str,Γ "is_later_sense" [.str y]=a5 (.ok (.loc,.bl (isNum y))))
    (hs:∀x:Str,x.length<=100000->Γ "stem_of" [.str x]=a5 (.ok (.loc,.str (lg x "/").1))) (e:∀x:Str,x.length<=100000->Γ "number_of" [.str x]=a5 (.ok (.loc,.str (lg x "/").2.2)))
 (a:x.length<=100000):bX Γ iz [.str x]=a5 (.ok (.loc,.bl (wb x))):=by
  let S:aw:=[a5 (.loc,.str x)]
  have f:Run (JP Γ (.cmp .JG (.cst (.str "/")) (.var 0))) S (!b7 (47∈x.cps.toList)) S:=aU ai (ah rfl) trivial (by
    change(a5 (Qh "/" x)).map _=_;rw[show Qh "/" x=b7 (47∈x.cps.toList) from C4 x 47];rfl)
  show aH (st:=S) rfl (.inr rfl) (show TM.start [.str x] 1=S from rfl) (bT f (λz=>?_) λz=>?_)
  . have b:47∉x.cps.toList:=by simpa using z
    unfold wb;rw[ŕ b];show bp (aP (aa (ah rfl) af) trivial (c x a)) cw
  . have b:47∈x.cps.toList:=by simpa using z
    unfold wb;rw[Ŕ b];show bp (zR (qf (aP (aa (aP (aa (ah rfl) af) trivial (hs x a)) af) trivial (c _ (Ao a))) λ_=>uf (aP (aa (aP (aa (ah rfl) af) trivial (e x a)) af) trivial (d _)))) cw
abbrev qt(Γ:Tab)(f:Str):Prop:=∀x:Str,x.length<=100000->Γ f [.str x]=a5 (.ok (.loc,.bl (wb x)))
def xE(d:qt Γ f){ss:List Str}(hs:∀x∈ss,x.length<=100000)(hl:ss.length<=100000)(h:Run (ev Γ e) st (k,u) st)(c:a_ [(k,u)] st)(b:Mo .seq [(k,u)]=a5 (ss.map λx=>(.loc,U.str x))):Run (ev Γ (.bi .all [.comp 1 bL .seq [e] [] (.call f [.var 0])])) st (.loc,.bl (ss.all wb)) st:=by
 have hsz:(200000:Nat)<=b6:=by decide
 have a:=gU (cond:=aR Γ []) (elt:=ev Γ (.call f [.var 0])) (src:=[(k,u)]) (st:=st) c .loc (.inl rfl) U.str (λx=>U.bl (wb x)) .loc (λ_=>iN) ss [] (by simp;lia)
  (λx a=>#[aP (aa (ah rfl) af) trivial (d x (hs x a)),ay])
 rw[ko]at a;have g:KP .all [(.own,.lst (ss.map λx=>U.bl (wb x)))]=a5 (.loc,.bl (ss.all wb)):=by
  have:=qk (k:=.own) (ss.map wb);rw[i6,Vz]at this;show this
 show cA (aa (cM (rs:=[(k,u)]) (aa h af) c b a) af) trivial g
def C6(a:qt Γ "is_word")(h:Rw r):bX Γ jL [JD r]=a5 (.ok (.loc,.bl (cO r))):=by
 have hsz:(200000:Nat)<=b6:=by decide
 have e:=h.ln;have b:TM.start [JD r] 2=[a5 (.loc,JD r),bD]:=by simp[TM.start,fS]
 let S:aw:=[a5 (.loc,JD r),a5 (.loc,.tup (r.2.map .str))]
 have gl:Run (ev Γ (.bi .len [.var 1])) S (.loc,.int (r.2.length:Nat)) S:=by
  have h:=cA (Γ:=Γ) (st:=S) (f:=.len) (es:=[.var 1]) (aa (ah rfl) af) trivial (jH (xs:=r.2.map U.str));rw[b8]at h;show h
 have c:Run (JP Γ (.or [.cmp .gt (.bi .len [.var 1]) (.Mc "MOST_TOLD" (.int 8)),.cmp .lt (.Oh .jU [.var 1]) (.bi .len [.var 1])])) S (b7 (8<r.2.length)||!decide r.2.Nodup) S:=by
  show ug (Ab (aU gl mP trivial (mW (by rw[oT];simp;lia))) λ_=>mR (aU (DF (aa (ah rfl) af) trivial (uF ⋯)) gl trivial (vO ?_)));rw[<-C3,oT];simp
 show aH (st:=S) rfl (.inr rfl) b (az (aQ (x:=(.loc,JD r)) (ah rfl) ai trivial rfl) a9 (bT c (λz=>?_) λz=>?_))
 .have:cO r=bL:=by
   unfold cO;rw[OS,œ,nC,ś]at z;rcases z with z|z
   .rw[Ŗ (p:=r.2.length<=8) ⋯];rfl
   .rw[Ŗ z,T9];rfl
  rw[this];show bp ai cw
 .have:cO r=(wb r.1&&r.2.all wb):=by
   unfold cO;rw[Zy,ś,Bool.not_eq_false',œ]at z;rw[ŗ z.2,ŗ (p:=r.2.length<=8) ⋯];rfl
  rw[this];show bp (zR (qf (aP (aa (aQ (x:=(.loc,JD r)) (ah rfl) ai trivial rfl) af) trivial (a r.1 (by have:=h.w;lia))) λ_=>uf (xE a (λx d=>by have:=h.ws x d;lia) ⋯ (ah rfl) trivial (by change a5 _=_;rw[i6];rfl)))) cw
def C7(h:r.2.length<64):bX Γ cD [JD r]=a5 (.ok (.loc,JD (keyOf r))):=by
 have a:=sorted_strs (k:=.loc) (ss:=r.2) h;have b:iV (.loc,JD r) (.int 0)=a5 (.loc,.str r.1):=rfl;have c:iV (.loc,JD r) (.int 1)=a5 (.loc,.tup (r.2.map .str)):=rfl;apply aH (st0:=[a5 (.loc,JD r)]) rfl (.inr rfl) (by simp[TM.start,fS,cD])
 repeat' (first|show b|show c|show a|show(by decide:(2:Nat)<=b6)|sizeOf_list_dec)
end
end K
namespace K
open PySem L2 TM J2 Od KL
section
def rR(h:st[i]?=a5 (a5 (.loc,.bl b))):Run (JP Γ (.var i)) st b st:=ae (iL h) (dq rfl)
def uG{told a:List Str}(hl:told.length<=1000)(hi:st[i]?=a5 (a5 (.any,.tup (told.map .str))))(c:st[j]?=a5 (a5 (.own,w)))(d:∀x:Str,bK .isin (.str x) w=a5 (b7 (x∈a))):
  Run (ev Γ (.bi .all [.comp 1 bL .seq [.var i] [] (.cmp .isin (.var 0) (.var (j+1)))])) st (.loc,.bl (told.all λx=>b7 (x∈a))) st:=by
 have hsz:(1000:Nat)<=b6:=by decide
 have b:=gU (cond:=aR Γ []) (elt:=ev Γ (.cmp .isin (.var 0) (.var (j+1)))) (src:=[(.any,.tup (told.map .str))]) (st:=st) trivial .any (.inr rfl) U.str (λx=>.bl (b7 (x∈a))) .loc (λ_=>iN) told [] (by simp;lia)
  (λy _=>#[f_ (au rfl) (ax (by simpa using c)) #[#[.own,rfl,by simpa using c],trivial] (d y),ay])
 rw[ko]at b;have e:(told.map λx=>U.bl (b7 (x∈a)))=(told.map λx=>b7 (x∈a)).map U.bl:=by rw[i6];rfl
 rw[e]at b;have f:(told.all λx=>b7 (x∈a))=((told.map λx=>b7 (x∈a)).all id):=by rw[Vz];rfl
 rw[f];show cA (aa (cM (rs:=[(.any,.tup (told.map .str))]) (aa (au hi) af) trivial (by change a5 _=_;rw[i6];rfl) b) af) trivial (qk _)
abbrev C8:List TM.S:=[.ite (.and [.cmp .JG (.var 3) (.var 1),.bi .all [.comp 1 bL .seq [.var 4] [] (.cmp .isin (.var 0) (.var 2))]]) [.put 1 (.var 3) (.cst (.bl a8)),.set 2 (.cst (.bl a8))] []]
structure Lk(rows:List Row)(K:List Str):Prop where
 nd:K.Nodup
 snd:Qu rows K
 XA:∀x∈K,x∈rows.map (·.1)
abbrev lS(rows:List Row)(K:List Str)(vs:List U)(b:Bool)(o3 o4:Option (Kd×U)):aw:=[a5 (.any,.lst (rows.map JD)),a5 (.own,.JF K vs),a5 (.loc,.bl b),o3,o4]
def Lk.len(x:Lk rows K):K.length<=rows.length:=by
 have:=oK x.nd x.XA
 rwa [b8]at this
def Lk.add(x:Lk rows K)(d:r∈rows)(f:r.1∉K)(g:∀y∈r.2,y∈K):Lk rows (K++[r.1]):=by
 show#[?_,λC c y hy=>?_,λy hy=>?_]
 .rw[nc];show#[x.nd,by simp,λa h b i e=>?_];have:b=r.1:=by simpa using i
  subst this;show f (e▸h)
 .rcases f6.mp hy with hy|hy
  .show x.snd C c y hy
  .have:y=r.1:=by simpa using hy
   subst this;show c r d λz hz=>x.snd C c z (g z hz)
 .rcases f6.mp hy with hy|hy
  .show x.XA y hy
  .have:y=r.1:=by simpa using hy
   subst this;show ku.mpr #[r,d,rfl]
def Aq(I:∀r∈rows,r.2.length<=8)(C:rows.length<=100)(x:Lk rows K0)(vs:List U)(o3 o4:Option (Kd×U)):∃(f:List Str) (u:List U) (b:Bool) (v z:Option (Kd×U)),Lk rows f/\(b=a8->K0.length<f.length)/\(b=bL->f=K0/\gV rows (·∈K0)) /\
  Run (forM a8 [3,4] (execs Γ C8) [(.any,.lst (rows.map JD))] (rows.map λr=>(Kd.any,JD r))) (lS rows K0 vs bL o3 o4) .nx (lS rows f u b v z):=by
 have hsz:(20000:Nat)<=b6:=by decide
 have(st1,J,_,f,u,b,v,z,e,g,n,c):=dE (t:=a8) (is:=[3,4]) (body:=execs Γ C8) (rs:=[(.any,.lst (rows.map JD))]) (λr:Row=>(Kd.any,JD r))
  (λd r st=>d++r=rows/\∃(K:List Str) (vs:List U) (b:Bool) (o3 o4:Option (Kd×U)),st=lS rows K vs b o3 o4/\Lk rows K/\(b=a8->K0.length<K.length)/\(b=bL->K=K0/\∀r∈d,(∀y∈r.2,y∈K0)->r.1∈K0)) (λ_ _ _ _=>trivial) (λd a r st L=>by
   have(A,K,vs,b,o3,o4,e,g,n,c):=L;subst e;have D:a∈rows:=by rw[<-A];simp
   have N:=I a D;have O:=g.len;let o:Option (Kd×U):=a5 (.any,.str a.1);let p:Option (Kd×U):=a5 (.any,.tup (a.2.map .str));have q:Run (JP Γ (.and [.cmp .JG (.var 3) (.var 1),.bi .all [.comp 1 bL .seq [.var 4] [] (.cmp .isin (.var 0) (.var 2))]])) (lS rows K vs b o p) (!b7 (a.1∈K)&&a.2.all λy=>b7 (y∈K)) (lS rows K vs b o p) :=
    jE (qg (aU (au rfl) (ax rfl) ∅ kh) λ_=>dC (Ge (uG (i:=4) (j:=1) (w:=.JF K vs) ⋯ rfl rfl λ_=>Gk)))
   have G:Run (dz a8 [3,4] (.any,JD a)) (lS rows K vs b o3 o4) () (lS rows K vs b o p):=m8 (.inr rfl);cases l:(!b7 (a.1∈K)&&a.2.all λy=>b7 (y∈K)) with
   |false =>
    rw[l]at q;show#[_,_,G,bT q (λh=>by cases h) λ_=>aS,by rw[<-A];simp,K,vs,b,_,_,rfl,g,n,λB=>#[(c B).1,λm Lc hz=>?_]];rcases f6.mp Lc with Lc|Lc
    .show(c B).2 m Lc hz
    .have:m=a:=by simpa using Lc
     subst this;rw[<-(c B).1]at hz ⊢;by_cases H:m.1∈K
     .show H
     .have:(!b7 (m.1∈K)&&m.2.all λy=>b7 (y∈K))=a8:=by
       rw[Ŗ H];simpa using hz
      rw[this]at l;cases l
   |true =>
    rw[l]at q;have s:=l;simp only[bF,nC,ś,i8,œ]at s;show#[_,lS rows (K++[a.1]) (vs++[.bl a8]) a8 o p,G,bT q (λ_=>?_) (λh=>by cases h),by rw[<-A];simp,K++[a.1],_,a8,_,_,rfl,g.add D s.1 s.2,λ_=>?_,λh=>by cases h]
    .show z9 (k:=.own) (rv:=(.loc,.bl a8)) (rk:=(.any,.str a.1)) ai rfl (au rfl) (ak ay (ak (eT rfl) aB)) rfl rfl (ql ⋯ s.1) (az ai a9 aS)
    .rw[hH,JY];cases b with
     |true=>have:=n rfl;lia
     |false=>rw[(c rfl).1];lia) rows [] (lS rows K0 vs bL o3 o4) ⟨rfl,K0,vs,bL,o3,o4,rfl,x,(λh=>by cases h),λ_=>#[rfl,λr C=>by cases C]⟩
 subst e;rw[ko]at c;show#[f,u,b,v,z,g,n,c,J]
theorem Ar(j:∀r∈rows,r.2.length<=8)(k:rows.length<=100):∀(f:Nat) (K0:List Str) (vs:List U) (o3 o4:Option (Kd×U)),Lk rows K0->rows.length - K0.length+2<=f ->
  ∃(a:List Str) (c:List U) (d g:Option (Kd×U)),Lk rows a/\gV rows (·∈a)/\Run (iX (JP Γ (.var 2)) (execs Γ [.set 2 (.cst (.bl bL)),.JZ a8 [3,4] .seq [.var 0] C8]) f) (lS rows K0 vs a8 o3 o4) .nx (lS rows a c bL d g)
 |0,_,_,_,_,_,h=>by lia
 |f+1,K0,vs,o3,o4,x,h=>by
  have(a,c,b,d,g,i,m,n,o):=Aq (Γ:=Γ) j k x vs o3 o4;have p:(rows.map JD).map (λu=>(kE .any,u))=rows.map λr=>(Kd.any,JD r):=by rw[i6];rfl
  have l:Run (execs Γ [.set 2 (.cst (.bl bL)),.JZ a8 [3,4] .seq [.var 0] C8]) (lS rows K0 vs a8 o3 o4) .nx (lS rows a c b d g) :=
   az ai a9 (dR (rs:=[(.any,.lst (rows.map JD))]) (st1:=lS rows K0 vs bL o3 o4) (aa (au rfl) af) trivial (by change a5 (S6 (λu=>(kE .any,u)) _)=_;rw[p]) rfl o aS)
  cases b with
  |false =>
   have(e,q):=n rfl;subst e;cases f with
   |zero=>lia
   |succ f=>show#[a,c,d,g,i,q,CS (rR rfl) l (DL (rR rfl))]
  |true =>
   have:=m rfl;have:=i.len;have(s,t,p3,v,w,y,z):=Ar j k f a c d g i ⋯;show#[s,t,p3,v,w,y,CS (rR rfl) l z]
def fW(c:∀r∈rows,r.2.length<=8)(g:rows.length<=60):∃L:List Str,L.length<64/\L.Nodup/\Qu rows L/\gV rows (·∈L)/\bX Γ d9 [.lst (rows.map JD)]=a5 (.ok (.own,.lst ((bI L).map .str))):=by
 have d:TM.start [.lst (rows.map JD)] 5=[a5 (.any,.lst (rows.map JD)),bD,bD,bD,bD]:=by simp[TM.start,JW]
 have(L,vs,h,i,a,e,f):=Ar (Γ:=Γ) c ⋯ fuel [] [] bD bD #[.nil,(λC _ x b=>by cases b),(λx b=>by cases b)] (by unfold fuel;simp;lia);have hl:L.length<64:=by
  have:=a.len;lia
 have hs:KP .sorted [(.bor 1,.JF L vs)]=a5 (.own,.lst ((bI L).map .str)):=by
  change(if L.length<64 then _ else _)=_;rw[Ŕ hl]
 show#[L,hl,a.nd,a.snd,e,aH rfl (.inl rfl) d (az (r:=(.own,.JF [] [])) ue aV (az ai a9 (DM f (bp (cA (aa (ax rfl) af) ∅ hs) jG))))]
end
abbrev tb(rs:List Row):U:=.tup (rs.map JD)
abbrev JR(p:List (List Row)):List U:=p.map tb
abbrev JL(rs:List Row)(p:List (List Row)):U:=.ob (tb rs) (JR p)
abbrev lw(rows:List Row):List Str:=open Classical in if h:∃L,Kn rows L then bI h.choose else []
def vS(h:Kn rows L):lw rows=bI L:=by
 unfold lw;rw[dif_pos #[L,h]];show kJ ((Classical.choose_spec (⟨L,h⟩:∃L,Kn rows L)).perm h)
abbrev gl(K L:List Str):List Str:=L.filter λx=>b7 (x∉K)
abbrev Ll(a b:List Row):U:=.tup [.lst ((gl (lw a) (lw b)).map .str),.lst ((gl (lw b) (lw a)).map .str)]
structure Bk(rs:List Row):Prop where
 ok:∀r∈rs,cO r=a8
 ln:rs.length<=60
def je(rs:List Row):JW (tb rs)=a8:=by simp[tb,JW,cX]
theorem qu:∀p:List (List Row),dy (JR p)=a8
 |[]=>rfl
 |r::p=>by rw[JR,d6,dy,je];show qu p
theorem lB(n:Nat):∀rs:List Row,bV (n+2) (rs.map JD)=a8
 |[]=>by simp[bV]
 |r::rs=>by rw[d6,bV,lB n rs];simp[JD,J4,bV];show jb _ _
def qw(n:Nat)(rs:List Row):J4 (n+3) (tb rs)=a8:=by
 unfold tb;rw[J4];show lB n rs
theorem nv(n:Nat):∀p:List (List Row),bV (n+3) (JR p)=a8
 |[]=>by simp[JR,bV]
 |r::p=>by rw[JR,d6,bV,qw,Bool.true_and];show nv n p
section
abbrev V2(Γ:Tab)(f:Str):Prop:=∀rs:List Row,Bk rs->(lw rs).length<64/\Γ f [tb rs]=a5 (.ok (.own,.lst ((lw rs).map .str)))
def C9(hi:st[i]?=a5 (a5 (.own,.lst (L.map .str))))(c:st[j]?=a5 (a5 (k,.lst (K.map .str))))(hk:k=.own\/k=.any)(hl:L.length<=1000):Run (ev Γ (.comp 1 bL .seq [.var i] [.cmp .JG (.var 0) (.var (j+1))] (.var 0))) st (.own,.lst ((gl K L).map .str)) st:=by
 have hsz:(1000:Nat)<=b6:=by decide
 have a:=m7 (cond:=aR Γ [.cmp .JG (.var 0) (.var (j+1))]) (elt:=ev Γ (.var 0)) (src:=[(.bor i,.lst (L.map .str))]) (st:=st) #[#[.own,rfl,hi],trivial] .loc (.inl rfl) U.str U.str (λx=>b7 (x∉K)) .loc L [] (by simp;lia)
  (λx a=>by
   have b:(a5 (Kd.loc,U.str x)::st)[j+1]?=a5 (a5 (k,.lst (K.map .str))):=c;show#[dC ?_,λ_=>#[ah rfl,ay]];rcases hk with rfl|rfl
   .show aU (ah rfl) (ax b) #[#[.own,rfl,b],trivial] eJ
   .show aU (ah rfl) (au b) trivial eJ)
 rw[ko]at a;show cM (rs:=[(.bor i,.lst (L.map .str))]) (aa (ax hi) af) #[#[.own,rfl,hi],trivial] (by change a5 _=_;rw[i6];rfl) a
def Gv(f:V2 Γ "learnt")(h:Bk rows)(h':Bk a):bX Γ cz [tb rows,tb a]=a5 (.ok (.loc,Ll rows a)):=by
 have hsz:(1000:Nat)<=b6:=by decide
 have(o,k):=f rows h;have(p,l):=f a h';let b:Option (Kd×U):=a5 (.loc,tb rows);let c:Option (Kd×U):=a5 (.loc,tb a);let d:Option (Kd×U):=a5 (.own,.lst ((lw rows).map .str));let e:Option (Kd×U):=a5 (.own,.lst ((lw a).map .str));let g:Option (Kd×U):=a5 (.own,.lst ((gl (lw rows) (lw a)).map .str));let m:Option (Kd×U):=a5 (.own,.lst ((gl (lw a) (lw rows)).map .str));have n:TM.start [tb rows,tb a] 6=[b,c,bD,bD,bD,bD]:=by simp[TM.start,je,b,c]
 show aH rfl (.inr rfl) n (az (aP (aa (ah rfl) af) trivial k) aV (az (aP (aa (ah rfl) af) trivial l) aV
  (az (C9 (i:=3) (j:=2) (st:=[b,c,d,e,bD,bD]) rfl rfl (.inl rfl) ⋯) aV (az (C9 (i:=2) (j:=3) (st:=[b,c,d,e,g,bD]) rfl rfl (.inl rfl) ⋯) aV
   (bp (cR (us:=[.lst ((gl (lw rows) (lw a)).map .str),.lst ((gl (lw a) (lw rows)).map .str)]) (aa (ax (i:=4) (st:=[b,c,d,e,g,m]) rfl) (aa (ax rfl) af)) #[#[.own,rfl,rfl],#[.own,rfl,rfl],trivial] (ak (vQ rfl) (ak (vQ rfl) aB)) (by change 2<=b6;lia)) cw)))))
abbrev V3(Γ:Tab):Prop:=∀rs a p,Bk rs->Bk a->Γ "Shelf.turn_to" [JL rs p,tb a]=a5 (.ok (.loc,.tup [Ll rs a,JL a p]))
def As(e:∀a b,Bk a->Bk b->Γ "gained_and_lost" [tb a,tb b]=a5 (.ok (.loc,Ll a b)))(h:Bk rows)(h':Bk c):dP Γ dk 0 (dk.body.drop 1) [JL rows past,tb c]=a5 (.ok (.loc,.tup [Ll rows c,JL c past])):=by
 let d:Option (Kd×U):=a5 (.loc,tb c);let f:Option (Kd×U):=a5 (.loc,Ll rows c);have g:bh 0 [JL rows past,tb c] 3=[a5 (.A',JL rows past),d,bD]:=by simp[bh,je,d]
 show bJ (p:=0) (st:=[a5 (.A',JL c past),d,f]) #[rfl,by decide] g (az (aP (aa (eL rfl) (aa (ah rfl) af)) trivial (e rows c h h')) a9
  (Gr (r:=(.loc,tb c)) (ah rfl) ay rfl (je _) (qu _) (bp (ah rfl) cw))) rfl rfl
def Au(d:V3 Γ)(h:Bk rows)(h':Bk a)(g:past.length<=100):dP Γ di 0 (di.body.drop 1) [JL rows past,tb a]=a5 (.ok (.loc,.tup [Ll rows a,JL a (past++[rows])])):=by
 have hsz:(1000:Nat)<=b6:=by decide
 let b:Option (Kd×U):=a5 (.loc,tb a);have f:bh 0 [JL rows past,tb a] 2=[a5 (.A',JL rows past),b]:=by simp[bh,je,b]
 have e:JR (past++[rows])=JR past++[tb rows]:=by simp[JR]
 have c:=d rows a (past++[rows]) h h';unfold JL at c ⊢;rw[e]at c ⊢;show bJ (p:=0) (st:=[a5 (.A',.ob (tb a) (JR past++[tb rows])),b]) #[rfl,by decide] f (Gu (u:=tb rows) (us:=JR past) rfl (by unfold JR;rw[b8];lia) (je _) (by rw[<-e];show qu _)
  (bp (eM (us:=JR past++[tb rows]) rfl (aa (ah rfl) af) trivial rfl c (.inr rfl)) cw)) rfl rfl
def Av:dP Γ fE 0 (fE.body.drop 1) [JL rows past]=a5 (.ok (.loc,.tup [tb rows,JL rows past])) :=
 bJ (p:=0) (st:=[a5 (.A',JL rows past)]) #[rfl,by decide] (by simp[bh];rfl) (bp (eL rfl) cw) rfl rfl
def Aw(a:V2 Γ "learnt")(h:Bk rows):dP Γ cm 0 (cm.body.drop 1) [JL rows past]=a5 (.ok (.own,.tup [.lst ((lw rows).map .str),JL rows past])) :=
 bJ (p:=0) (st:=[a5 (.A',JL rows past)]) #[rfl,by decide] (by simp[bh];rfl) (bp (aP (aa (eL rfl) af) trivial (a rows h).2) jG) rfl rfl
def xF:dP Γ eN 0 (eN.body.drop 1) [JL rows past]=a5 (.ok (.loc,.tup [.int (past.length:Nat),JL rows past])):=by
 have e:(JR past).length=past.length:=by simp[JR]
 have h:=Gm (Γ:=Γ) (st:=[a5 (.A',JL rows past)]) (i:=0) (u:=tb rows) (us:=JR past) rfl;rw[e]at h;show bJ (p:=0) (st:=[a5 (.A',JL rows past)]) #[rfl,by decide] (by simp[bh];rfl) (bp h cw) rfl rfl
def Ax(c:V3 Γ)(h:Bk rows)(h':Bk a):dP Γ c7 0 (c7.body.drop 1) [JL rows (past++[a])]=a5 (.ok (.loc,.tup [Ll rows a,JL a past])):=by
 have e:JR (past++[a])=JR past++[tb a]:=by simp[JR]
 have t:Run (JP Γ (.LK 0)) [a5 (.A',JL rows (past++[a]))] bL [a5 (.A',JL rows (past++[a]))]:=by
  have:=Ak (Γ:=Γ) (i:=0) (st:=[a5 (.A',JL rows (past++[a]))]) (u:=tb rows) (us:=JR (past++[a])) rfl (by rw[J4];show nv 46 _);rw[e,show(JR past++[tb a]).isEmpty=bL by cases JR past<;>rfl]at this;show this
 have b:=Gn (Γ:=Γ) (i:=0) (st:=[a5 (.A',JL rows (past++[a]))]) (u:=tb rows) (us:=JR (past++[a])) (w:=tb a) rfl (by rw[e];simp);rw[e,List.dropLast_concat]at b;show bJ (p:=0) (st:=[a5 (.A',JL a past)]) #[rfl,by decide] (by simp[bh];rfl) (bT t (λz=>by cases z) λ_=>bp (eM rfl (aa b af) trivial rfl (c rows a past h h') (.inr rfl)) cw) rfl rfl
end
end K
namespace TM
open PySem L2 J2
def rS:gH (k,.tup (rs.map JD)) lo hi=a5 (kE k,.tup ((cut rs lo hi).map JD)):=by
 simp only[gH];rw[jJ]
def rT{a b:List Row}(h:a.length+b.length<=b6):LO .add (k,.tup (a.map JD)) (k',.tup (b.map JD))=a5 (kT k k',.tup ((a++b).map JD)):=by
 change(if _ then _ else _)=_;rw[Ŕ (by rw[b8,b8];show h),kj]
def vT(h:Run (ev Γ e) st x st1):Run (execs Γ (.M' c e::ss)) st (.rt .io (.str c)) st1:=ae (ae h aM) aM
def qx(xs:List α)(k:Nat):cut xs bD (a5 (k:Int))=xs.take k:=by
 unfold cut;rw[HT.uM];change(xs.drop 0).take (min k xs.length - 0)=_;rw[Xw,į];rcases ı k xs.length with h|h
 .rw[Rq h]
 .rw[õ h,LQ (ez _),LQ h]
def g_(xs:List α)(k:Nat):cut xs (a5 (k:Int)) bD=xs.drop k:=by
 unfold cut;rw[HT.uM];change(xs.drop (min k xs.length)).take (xs.length - min k xs.length)=_;rw[LQ (by rw[S7];lia)];rcases ı k xs.length with h|h
 .rw[Rq h]
 .rw[õ h,Yf (ez _),Yf h]
end TM
namespace K
open PySem L2 TM J2 Od KL
section
abbrev LN(r s:Row):Bool:=b7 (keyOf r=keyOf s)
def xG(a:∀r:Row,r.2.length<64->Γ "in_one_order" [JD r]=a5 (.ok (.loc,JD (keyOf r))))(h:r.2.length<64)(b:s.2.length<64):bX Γ jM [JD r,JD s]=a5 (.ok (.loc,.bl (LN r s))):=by
 apply aH (st0:=[a5 (.loc,JD r),a5 (.loc,JD s)]) rfl (.inr rfl) (by simp[TM.start,fS,jM])
 repeat' (first|show a r h|show a s b|show CP (op:=a8)|sizeOf_list_dec)
abbrev Ng(rows:List Row)(r:Row):List Nat:=(dV rows.length).filter λp=>LN (rows.getD p ("",[])) r
abbrev PK(Γ:Tab):Prop:=∀(rs:List Row) (r:Row),Bk rs->r.2.length<64->Γ "places_alike" [tb rs,JD r]=a5 (.ok (.own,.lst ((Ng rs r).map λn:Nat=>.int (n:Nat))))
def jd(c:∀r s:Row,r.2.length<64->s.2.length<64->Γ "alike" [JD r,JD s]=a5 (.ok (.loc,.bl (LN r s))))(a:Bk rows)(d:r.2.length<64):bX Γ dh [tb rows,JD r]=a5 (.ok (.own,.lst ((Ng rows r).map λn:Nat=>.int (n:Nat)))):=by
 have hsz:(2000:Nat)<=b6:=by decide
 have k:=a.ln;have f:TM.start [tb rows,JD r] 2=[a5 (.loc,tb rows),a5 (.loc,JD r)]:=by simp[TM.start,je,fS]
 have b:=m_ (st:=[a5 (.loc,tb rows),a5 (.loc,JD r)]) (cond:=aR Γ [.call "alike" [.var 1,.var 3]]) (elt:=ev Γ (.var 0)) (src:=[(.loc,tb rows)]) trivial (λp:Nat=>U.int (p:Nat)) (λp:Nat=>JD (rows.getD p ("",[]))) (λp:Nat=>U.int (p:Nat)) (λp=>LN (rows.getD p ("",[])) r) (dV rows.length) [] (by simp;lia)
  (λy g=>#[dC (uB (aa (ah rfl) (aa (ah rfl) af)) trivial (c _ r (by
   have h:y<rows.length:=by simpa using g
   have e:rows.getD y ("",[])=rows[y]:=by simp[MM,h]
   rw[e];have:=dH (a.ok rows[y] (L9 _));lia) d) rfl),ah rfl])
 rw[ko]at b;have e:((rows.map JD).zipIdx.map λp=>(kE .loc,U.tup [.int p.2,p.1]))=(dV rows.length).map λp:Nat=>(Kd.loc,U.tup [.int (p:Nat),JD (rows.getD p ("",[]))]):=by
  apply Pr
  .simp
  .intro i j l;have hi:i<rows.length:=by simpa using j
   simp[kE,MM,hi]
 show aH rfl (.inl rfl) f (bp (cM (rs:=[(.loc,tb rows)]) (aa (ah rfl) af) trivial (by change a5 _=_;rw[e]) b) jG)
def lC:Ng rows r=[]↔∀s∈rows,keyOf s≠keyOf r:=by
 unfold Ng;rw[LS];constructor
 .intro h s hs e;have(i,hi,rfl):=T6.mp hs;show h i (p7.mpr hi) ?_;have a:rows.getD i ("",[])=rows[i]:=by simp[MM,hi]
  rw[a,LN,œ];show e
 .intro h i hi e;have hi:=p7.mp hi;have a:rows.getD i ("",[])=rows[i]:=by simp[MM,hi]
  rw[a,LN,œ]at e;show h _ (L9 _) e
def Ay(f:∀x∈a,keyOf x≠keyOf r)(hs:keyOf s=keyOf r):∃l,Ng (a++s::b) r=a.length::l:=by
 have h:(Ng (a++s::b) r).head?=a5 a.length:=by
  unfold Ng;rw[List.head?_filter,List.find?_range_eq_some];show#[by simp[LN,MM,hs],by simp,λj c=>?_];have e:(a++s::b).getD j ("",[])=a[j]:=by simp[MM,mh c,c]
  rw[e];simp only[LN,nC,ś];show f _ (L9 _)
 cases d:Ng (a++s::b) r with
 |nil=>rw[d]at h;cases h
 |cons x l=>rw[d]at h;show#[l,by rw[ti h]]
abbrev ny(Γ:Tab):Prop:=∀r:Row,Rw r->Γ "is_row" [JD r]=a5 (.ok (.loc,.bl (cO r)))
abbrev V4(Γ:Tab):Prop:=∀rs a p,Bk rs->Bk a->p.length<=100->Γ "Shelf.do_deed" [JL rs p,tb a]=a5 (.ok (.loc,.tup [Ll rs a,JL a (p++[rs])]))
def dm:Run (ev Γ (.lst [])) st (.own,.lst []) st:=cC (rs:=[]) (us:=[]) af trivial aB (ki _)
def nz(c:PK Γ)(d:ny Γ)(e:Bk rows)(a:Rw r)(f:st[0]?=a5 (a5 (.A',JL rows past)))(b:st[3]?=a5 (a5 (.loc,JD r))):
  Run (JP Γ (.or [.not (.call "is_row" [.var 3]),.cmp .ne (.call "places_alike" [.Kq 0,.var 3]) (.lst [])])) st (!cO r||!(Ng rows r).isEmpty) st:=by
 show ug (Ab (mQ (uB (aa (ah b) af) trivial (d r a) rfl)) λ_=>mR (aU (aP (aa (eL f) (aa (ah b) af)) trivial (c rows r e (by have:=a.ln;lia))) dm trivial ?_));have:=gW (us:=(Ng rows r).map λn:Nat=>U.int (n:Nat)) (by rw[J4];show iw (λn:Nat=>(n:Int)) _ _);rw[this,Wn]
def Az{ts:List Str}:bh 0 [JL rows past,.str w,.lst (ts.map .str)] 4=[a5 (.A',JL rows past),a5 (.loc,.str w),a5 (.any,.lst (ts.map .str)),bD]:=by simp[bh,JW]
def jN(a:st[1]?=a5 (a5 (.loc,.str w)))(b:st[2]?=a5 (a5 (.any,.lst (ts.map .str)))):Run (ev Γ (.tup [.var 1,.bi .tuple [.var 2]])) st (.loc,JD (w,ts)) st :=
 cR (aa (ah a) (aa (cA (aa (au b) af) trivial rfl) af)) trivial (ak ay (ak (eT (by simp[JW,iu])) aB)) (by change 2<=b6;decide)
abbrev putSt(rows:List Row)(past:List (List Row))(r:Row)(o:Option (Kd×U)):aw:=[a5 (.A',JL rows past),a5 (.loc,.str r.1),a5 (.any,.lst (r.2.map .str)),o]
def C_(c:PK Γ)(d:ny Γ)(e:V4 Γ)(a:Bk rows)(f:Rw r)(b:cO r=a8)(g:∀s∈rows,keyOf s≠keyOf r)(hl:rows.length<60)(i:past.length<=100):
  dP Γ cE 0 (cE.body.drop 1) [JL rows past,.str r.1,.lst (r.2.map .str)]=a5 (.ok (.loc,.tup [Ll rows (rows++[r]),JL (rows++[r]) (past++[rows])])):=by
 have hsz:(2000:Nat)<=b6:=by decide
 have j:Bk (rows++[r]):=#[λx k=>(f6.mp k).elim (a.ok x) λh=>by rw[hY.mp h];show b,by simp;lia]
 let S:aw:=putSt rows past r (a5 (.loc,JD r));have t:=nz (Γ:=Γ) (st:=S) (past:=past) c d a f rfl rfl;rw[lC.mpr g,b]at t;have l:Run (JP Γ (.cmp .ge (.bi .len [.Kq 0]) (.Mc "MOST_ROWS" (.int 60)))) S bL S:=aU (cA (aa (eL rfl) af) trivial (jH (xs:=rows.map JD))) mP trivial (DN (by simp;lia));show bJ (p:=0) (st:=putSt (rows++[r]) (past++[rows]) r (a5 (.loc,JD r))) #[rfl,by decide] Az (az (jN rfl rfl) a9
  (bT t (λz=>by cases z) λ_=>bT l (λz=>by cases z) λ_=>bp (eM (st:=S) rfl (aa (bb (eL (u:=tb rows) (us:=JR past) rfl) (cR (us:=[r].map JD) (aa (ah rfl) af) trivial (ak ay aB) (by change 1<=b6;lia)) trivial (rT (by rw[JY];lia))) af) trivial rfl (e rows (rows++[r]) past a j i) (.inr rfl)) cw)) rfl rfl
def AA(a:PK Γ)(b:ny Γ)(c:Bk rows)(d:Rw r)(h:cO r=bL\/∃s∈rows,keyOf s=keyOf r):
  dP Γ cE 0 (cE.body.drop 1) [JL rows past,.str r.1,.lst (r.2.map .str)]=a5 (.ok (.io,.tup [.str "Unfit",JL rows past])):=by
 let S:aw:=putSt rows past r (a5 (.loc,JD r));have t:=nz (Γ:=Γ) (st:=S) (past:=past) a b c d rfl rfl;have e:(!cO r||!(Ng rows r).isEmpty)=a8:=by
  rcases h with h|⟨s,hs,h⟩
  .rw[h];rfl
  .cases f:(Ng rows r).isEmpty with
   |false=>simp
   |true=>show absurd h (lC.mp (sP.mp f) s hs)
 rw[e]at t;show bJ (p:=0) (st:=S) #[rfl,by decide] Az (az (jN rfl rfl) a9 (bT t (λ_=>vT ai) λz=>by cases z)) rfl rfl
def AB(a:PK Γ)(b:ny Γ)(c:Bk rows)(d:Rw r)(e:cO r=a8)(f:∀s∈rows,keyOf s≠keyOf r)(hl:rows.length=60):
  dP Γ cE 0 (cE.body.drop 1) [JL rows past,.str r.1,.lst (r.2.map .str)]=a5 (.ok (.io,.tup [.str "TooMany",JL rows past])):=by
 let S:aw:=putSt rows past r (a5 (.loc,JD r));have t:=nz (Γ:=Γ) (st:=S) (past:=past) a b c d rfl rfl;rw[lC.mpr f,e]at t;have g:Run (JP Γ (.cmp .ge (.bi .len [.Kq 0]) (.Mc "MOST_ROWS" (.int 60)))) S a8 S:=aU (cA (aa (eL rfl) af) trivial (jH (xs:=rows.map JD))) mP trivial (DN (by simp;lia));show bJ (p:=0) (st:=S) #[rfl,by decide] Az (az (jN rfl rfl) a9 (bT t (λz=>by cases z) λ_=>bT g (λ_=>vT ai) λz=>by cases z)) rfl rfl
def xH(b:PK Γ)(c:Bk rows)(hl:r.2.length<64)(d:∀s∈rows,keyOf s≠keyOf r):
  dP Γ cZ 0 (cZ.body.drop 1) [JL rows past,.str r.1,.lst (r.2.map .str)]=a5 (.ok (.io,.tup [.str "NoRow",JL rows past])):=by
 have a:=b rows r c hl;rw[lC.mpr d]at a;let S:aw:=putSt rows past r (a5 (.own,.lst []));have t:Run (JP Γ (.cmp .eq (.var 3) (.lst []))) S a8 S:=aU (ax rfl) dm ∅ rfl;show bJ (p:=0) (st:=S) #[rfl,by decide] Az (az (aP (aa (eL rfl) (aa (jN rfl rfl) af)) trivial a) aV (bT t (λ_=>vT ai) λz=>by cases z)) rfl rfl
def xI(rows:List Row):dP Γ c7 0 (c7.body.drop 1) [JL rows []]=a5 (.ok (.io,.tup [.str "NoDeed",JL rows []])):=by
 have t:Run (JP Γ (.LK 0)) [a5 (.A',JL rows [])] a8 [a5 (.A',JL rows [])] :=
  Ak (Γ:=Γ) (i:=0) (st:=[a5 (.A',JL rows [])]) (u:=tb rows) (us:=JR []) rfl (by rw[J4];show nv 46 _)
 show bJ (p:=0) (st:=[a5 (.A',JL rows [])]) #[rfl,by decide] (by simp[bh];rfl) (bT t (λ_=>vT ai) λz=>by cases z) rfl rfl
def AD(m:PK Γ)(o:V4 Γ)(c:Bk (a++r::b))(d:Bk (a++b))(hk:keyOf (r.1,ts)=keyOf r)(hl:ts.length<64)(q:∀x∈a,keyOf x≠keyOf r)(u:past.length<=100):
  dP Γ cZ 0 (cZ.body.drop 1) [JL (a++r::b) past,.str r.1,.lst (ts.map .str)]=a5 (.ok (.loc,.tup [Ll (a++r::b) (a++b),JL (a++b) (past++[a++r::b])])):=by
 have hsz:(2000:Nat)<=b6:=by decide
 have A:=c.ln;have v:=d.ln;have(l,w):=Ay (r:=(r.1,ts)) (a:=a) (b:=b) (s:=r) (by rw[hk];show q) hk.symm;let e:Option (Kd×U):=a5 (.loc,.str r.1);let f:Option (Kd×U):=a5 (.any,.lst (ts.map .str));let g:Option (Kd×U):=a5 (.own,.lst ((a.length::l).map λn:Nat=>.int (n:Nat)));let S:aw:=[a5 (.A',JL (a++r::b) past),e,f,g]
 have h:=m (a++r::b) (r.1,ts) c hl;rw[w]at h;have t:Run (JP Γ (.cmp .eq (.var 3) (.lst []))) S bL S:=by
  show aU (ax rfl) dm ∅ ?_;have y:J4 50 (.lst ((a.length::l).map λn:Nat=>U.int (n:Nat)))=a8:=by rw[J4];show iw (λn:Nat=>(n:Int)) _ _
  change(if _ then _ else _)=_;rw[Ŕ #[y,rfl]];rfl
 have i:Run (ev Γ (.idx (.var 3) (.cst (.int 0)))) S (.loc,.int (a.length:Nat)) S:=aQ (ax rfl) ai ∅ (aD (bH (j:=0) rfl));have s1:Run (ev Γ (.K_ (.Kq 0) [] [.idx (.var 3) (.cst (.int 0))])) S (.loc,.tup (a.map JD)) S:=by
  have:=rS (k:=.loc) (rs:=a++r::b) (lo:=bD) (hi:=a5 (a.length:Int));rw[qx,ö  rfl]at this;show gS (eL rfl) gQ (gR i) trivial this
 have s2:Run (ev Γ (.K_ (.Kq 0) [.bin .add (.idx (.var 3) (.cst (.int 0))) (.cst (.int 1))] [])) S (.loc,.tup (b.map JD)) S:=by
  have:=rS (k:=.loc) (rs:=a++r::b) (lo:=a5 ((a.length+1:Nat):Int)) (hi:=bD);rw[g_,show a++r::b=(a++[r])++b by simp,Tw (by simp),show(a++[r])++b=a++r::b by simp]at this;show gS (eL rfl) (gR (bb i ai trivial dr)) gQ trivial this
 show bJ (p:=0) (st:=[a5 (.A',JL (a++b) (past++[a++r::b])),e,f,g]) #[rfl,by decide] Az (az (aP (aa (eL rfl) (aa (jN rfl rfl) af)) trivial h) aV
  (bT t (λz=>by cases z) λ_=>bp (eM (st:=S) rfl (aa (bb s1 s2 trivial (rT (by simp at v;lia))) af) trivial rfl (o (a++r::b) (a++b) past c d u) (.inr rfl)) cw)) rfl rfl
end
end K
namespace TM
open PySem L2 J2
def AE(h:Run (ev Γ e) st x st1)(a:Run (execs Γ ss) st1 f st2):Run (execs Γ (.exp e::ss)) st f st2:=dY (ae h aM) a
def Dd(xs:List α)(x:α):J_ (xs++[x]) (-1)=a5 x:=by
 unfold J_ M5;rw[ŕ ⋯,Ŕ (by simp;lia)];change(xs++[x])[_]?=_;rw[show(-1+((xs++[x]).length:Nat):Int).toNat=xs.length by simp;lia];simp
def kr(h:J4 50 u=a8):bK .ne u u=a5 bL:=by
 simp only[bK];rw[Ŕ #[h,h],kl 50 u h];rfl
def uH(h:J4 50 u=a8):bK .eq u u=a5 a8:=by
 simp only[bK];rw[Ŕ #[h,h],kl 50 u h]
def AF(b:st[i]?=a5 (a5 (.A',.ob u0 us0)))(d:Run (aT Γ es) st rs st1)(e:a_ rs st1)(h:st1[i]?=a5 (a5 (.A',.ob u us)))(g:Γ f (.ob u us::rs.map (·.2))=a5 (.ok (.io,.tup [.str c,.ob u' us']))):
  Run (NU Γ (.mt f m i es)) st (a5 c) (st1.set i (a5 (.A',.ob u' us'))):=by
 have a:Run (kN Γ f i rs) st1 (a5 c) (st1.set i (a5 (.A',.ob u' us'))):=by
  change kN Γ f i rs st1=_;unfold kN;rw[h]
  dsimp only
  rw[g]
 show ae (ng b) (ae d (ae (aZ e) a))
def rV(h:Run (JP Γ c) st p st1)(d:p=a8->Run (NU Γ a) st1 r st2)(e:p=bL->Run (NU Γ b) st1 r st2):Run (NU Γ (.ite c a b)) st r st2:=by
 show ae h ?_;cases p with
 |true=>show d rfl
 |false=>show e rfl
def Gw(h:Run (NU Γ b) st (a5 c) st1)(hl:a.lookup c=a5 bs)(d:st1[j]?=a5 bD)(hk:k≠j)(i:Run (execs Γ ss) (st1.set k (a5 (.own,.lst (bs.map .bl)))) f st2):Run (execs Γ (.Oj b x a j k g l::ss)) st f st2:=by
 have e:Run (tF j k a (a5 c)) st1 .nx (st1.set k (a5 (.own,.lst (bs.map .bl)))):=by
  change tF j k a (a5 c) st1=_;unfold tF
  dsimp only
  rw[hl];change yL j k bs st1=_;unfold yL;rw[d];show(Ŕ hk).trans rfl
 show dY (ae h e) i
end TM
namespace K
open PySem L2 TM J2 Od KL
section
abbrev lb(rs:List Row):U:=.lst (rs.map JD)
def AG(n:Nat)(rs:List Row):J4 (n+3) (lb rs)=a8:=by
 unfold lb;rw[J4];show lB n rs
def rW(g:∀s∈rows,s.2.length<=8)(hl:rows.length<=100)(i:r.2.length<=8):bX Γ d0 [lb rows,JD r]=a5 (.ok (.loc,.bl (rows.any λs=>LN s r))):=by
 have hsz:(1000:Nat)<=b6:=by decide
 let a:Option (Kd×U):=a5 (.any,lb rows);let b:Option (Kd×U):=a5 (.loc,JD r);have h:TM.start [lb rows,JD r] 2=[a,b]:=by simp[TM.start,fS,lb,JW,a,b]
 have c:∀(k:Kd) (x:Row),iV (k,JD x) (.int 0)=a5 (kE k,.str x.1):=λ_ _=>rfl;have d:∀(k:Kd) (x:Row),iV (k,JD x) (.int 1)=a5 (kE k,.tup (x.2.map .str)):=λ_ _=>rfl;have f:=m7 (cond:=aR Γ [.and [.cmp .eq (.idx (.var 0) (.cst (.int 0))) (.idx (.var 2) (.cst (.int 0))),.cmp .eq (.bi .sorted [.idx (.var 0) (.cst (.int 1))]) (.bi .sorted [.idx (.var 2) (.cst (.int 1))])]]) (elt:=ev Γ (.var 0)) (src:=[(.any,lb rows)]) (st:=[a,b]) trivial .any (.inr rfl) JD JD (λs=>LN s r) .any rows [] (by simp;lia)
  (λs hs=>by
   have:=g s hs;have e:LN s r=(b7 (s.1=r.1)&&b7 (bI s.2=bI r.2)):=by
    unfold LN keyOf;rw[oT];simp
   rw[e];show#[dC (jE (qg (aU (aQ (au rfl) ai trivial (c _ s)) (aQ (ah rfl) ai trivial (c _ r)) trivial fT) λ_=>dC (aU (cA (aa (aQ (au rfl) ai trivial (d _ s)) af) trivial (sorted_strs ⋯)) (cA (aa (aQ (ah rfl) ai trivial (d _ r)) af) trivial (sorted_strs ⋯)) trivial Ac))),λ_=>#[au rfl,eT (fS s)]])
 rw[ko]at f;show aH rfl (.inr rfl) h (bp (f_ (cM (rs:=[(.any,lb rows)]) (aa (au rfl) af) trivial (by change a5 _=_;rw[i6];rfl) f) dm trivial ?_) cw);change bK .ne (lb (rows.filter λs=>LN s r)) (.lst [])=_;rw[lb,gW (AG 47 _),Wn];congr 1
 rw[oT];simp
abbrev cls:Nat->Str
 |0=>"Unfit"|1=>"TooMany"|2=>"NoRow"|_=>"NoDeed"
abbrev V6(d:Nat):List Bool:=[d==0,d==1,d==2,d==3,bL,a8]
abbrev xJ(rows:List Row)(past:List (List Row))(a w:Str)(ts:List Str)(d:Nat)(o5:Option (Kd×U)):aw:=[a5 (.A',JL rows past),a5 (.loc,.str a),a5 (.loc,.str w),a5 (.any,.lst (ts.map .str)),a5 (.loc,.int (d:Nat)),o5,bD]
abbrev Jy:Su:=.mt "Shelf.put" "put" 0 [.var 2,.var 3]
abbrev Iq:Su:=.mt "Shelf.take" "take" 0 [.var 2,.var 3]
abbrev Ir:Su:=.mt "Shelf.back" "back" 0 []
abbrev Jz:Su:=.ite (.cmp .eq (.var 1) (.cst (.str "put"))) Jy (.ite (.cmp .eq (.var 1) (.cst (.str "take"))) Iq Ir)
def qy(f:d<4)(h:Run (NU Γ Jz) (xJ rows past a w ts d (a5 (.own,.lst []))) (a5 (cls d)) (xJ rows past a w ts d (a5 (.own,.lst [])))):
  dP Γ aG 0 (aG.body.drop 1) [JL rows past,.str a,.str w,.lst (ts.map .str),.int (d:Nat)]=a5 (.ok (.loc,.tup [.bl a8,JL rows past])):=by
 have hsz:(100:Nat)<=b6:=by decide
 have g:bh 0 [JL rows past,.str a,.str w,.lst (ts.map .str),.int (d:Nat)] 7=xJ rows past a w ts d bD:=by simp[bh,JW,xJ]
 let S:=xJ rows past a w ts d (a5 (.own,.lst ((V6 d).map .bl)));have c:∀(i:Int) (b:Bool),((d:Int)==i)=b->Run (ev Γ (.cmp .eq (.var 4) (.cst (.int i)))) S (.loc,.bl b) S:=λi b j=>f_ (ah rfl) ai trivial (eI j);have e:∀i:Nat,(((d:Nat):Int)==(i:Int))=(d==i):=λi=>by rw[oT];simp;lia
 have hl:([("NoDeed",[bL,bL,bL,a8,bL,a8]),("NoRow",[bL,bL,a8,bL,bL,a8]),("TooMany",[bL,a8,bL,bL,bL,a8]),("Unfit",[a8,bL,bL,bL,bL,a8])]:List (Str×List Bool)).lookup (cls d)=a5 (V6 d):=by
  match d,f with
  |0,_=>rfl
  |1,_=>rfl
  |2,_=>rfl
  |3,_=>rfl
 show bJ (p:=0) (st:=S) #[rfl,by decide] g (az dm aV (Gw (st1:=xJ rows past a w ts d (a5 (.own,.lst []))) h hl rfl (by decide) (bp (f_ (ax rfl) (cC (us:=(V6 d).map .bl) (aa (c 0 (d==0) (e 0)) (aa (c 1 (d==1) (e 1)) (aa (c 2 (d==2) (e 2)) (aa (c 3 (d==3) (e 3)) (aa ai (aa ai af)))))) trivial (ak ay (ak ay (ak ay (ak ay (ak ay (ak ay aB)))))) (by change 6<=b6;lia)) ∅ (uH rfl)) cw))) rfl rfl
abbrev DR(Γ:Tab)(rows:List Row)(past:List (List Row))(a w:Str)(ts:List Str)(d:Nat):Prop:=Γ "_law_refused" [JL rows past,.str a,.str w,.lst (ts.map .str),.int (d:Nat)]=a5 (.ok (.loc,.tup [.bl a8,JL rows past]))
def rX{ts:List Str}(a:d<4)(h:Γ "Shelf.put" [JL rows past,.str w,.lst (ts.map .str)]=a5 (.ok (.io,.tup [.str (cls d),JL rows past]))):
  dP Γ aG 0 (aG.body.drop 1) [JL rows past,.str "put",.str w,.lst (ts.map .str),.int (d:Nat)]=a5 (.ok (.loc,.tup [.bl a8,JL rows past])) :=
 qy a (rV (aU (ah rfl) ai trivial fT) (λ_=>AF (rs:=[(.loc,.str w),(.any,.lst (ts.map .str))]) (u0:=tb rows) (us0:=JR past) rfl (aa (ah rfl) (aa (au rfl) af)) trivial rfl h) λz=>absurd z (by decide))
def AH{ts:List Str}(a:d<4)(h:Γ "Shelf.take" [JL rows past,.str w,.lst (ts.map .str)]=a5 (.ok (.io,.tup [.str (cls d),JL rows past]))):
  dP Γ aG 0 (aG.body.drop 1) [JL rows past,.str "take",.str w,.lst (ts.map .str),.int (d:Nat)]=a5 (.ok (.loc,.tup [.bl a8,JL rows past])) :=
 qy a (rV (aU (ah rfl) ai trivial fT) (λz=>absurd z (by decide)) λ_=>rV (aU (ah rfl) ai trivial fT) (λ_=>AF (rs:=[(.loc,.str w),(.any,.lst (ts.map .str))]) (u0:=tb rows) (us0:=JR past) rfl (aa (ah rfl) (aa (au rfl) af)) trivial rfl h) λz=>absurd z (by decide))
def AI{ts:List Str}(a:d<4)(h:Γ "Shelf.back" [JL rows past]=a5 (.ok (.io,.tup [.str (cls d),JL rows past]))):
  dP Γ aG 0 (aG.body.drop 1) [JL rows past,.str "back",.str w,.lst (ts.map .str),.int (d:Nat)]=a5 (.ok (.loc,.tup [.bl a8,JL rows past])) :=
 qy a (rV (aU (ah rfl) ai trivial fT) (λz=>absurd z (by decide)) λ_=>rV (aU (ah rfl) ai trivial fT) (λz=>absurd z (by decide)) λ_=>AF (rs:=[]) (u0:=tb rows) (us0:=JR past) rfl af trivial rfl h)
abbrev Iu(Γ:Tab):Prop:=∀rs:List Row,Bk rs->(lw rs).length<64/\Γ "_law_learnt" [lb rs]=a5 (.ok (.own,.lst ((lw rs).map .str)))
def xK(d:Iu Γ)(h:Bk rows)(h':Bk a):bX Γ fX [lb rows,lb a]=a5 (.ok (.loc,Ll rows a)):=by
 have hsz:(1000:Nat)<=b6:=by decide
 have(m,g):=d rows h;have(n,k):=d a h';let b:Option (Kd×U):=a5 (.any,lb rows);let c:Option (Kd×U):=a5 (.any,lb a);let e:Option (Kd×U):=a5 (.own,.lst ((lw rows).map .str));let f:Option (Kd×U):=a5 (.own,.lst ((lw a).map .str));have l:TM.start [lb rows,lb a] 4=[b,c,bD,bD]:=by simp[TM.start,lb,JW,b,c]
 show aH rfl (.inr rfl) l (az (aP (aa (au rfl) af) trivial g) aV (az (aP (aa (au rfl) af) trivial k) aV
  (bp (cR (us:=[.lst ((gl (lw rows) (lw a)).map .str),.lst ((gl (lw a) (lw rows)).map .str)]) (aa (C9 (i:=3) (j:=2) (st:=[b,c,e,f]) rfl rfl (.inl rfl) ⋯) (aa (C9 (i:=2) (j:=3) (st:=[b,c,e,f]) rfl rfl (.inl rfl) ⋯) af)) trivial (ak iM (ak iM aB)) (by change 2<=b6;lia)) cw)))
end
section
abbrev vU(Γ:Tab):Prop:=∀(rs:List Row) (x:Row),(∀s∈rs,s.2.length<=8)->rs.length<=100->x.2.length<=8->Γ "_law_stands" [lb rs,JD x]=a5 (.ok (.loc,.bl (rs.any λs=>LN s x)))
structure RK(names:List Str)(r:Row):Prop where
 fit:cO r=a8
 rw:Rw r
 ns:∀x∈r.1::r.2,x∈names\/x.cps.toList.head?≠a5 115
structure RB(names:List Str)(rows:List Row):Prop where
 ok:∀r∈rows,RK names r
 ky:(rows.map keyOf).Nodup
def RB.nil:RB names []:=#[by simp,by simp]
def RB.snoc(h:RB names rows)(b:RK names r)(hk:(rows.any λs=>LN s r)=bL):RB names (rows++[r]):=by
 show#[λx a=>(f6.mp a).elim (h.ok x) λz=>by rw[hY.mp z];show b,?_];rw[kj,nc];show#[h.ky,by simp,λx a y c e=>?_];have(s,hs,rfl):=ku.mp a;have:y=keyOf r:=by simpa using c
 have:=Þ.mp hk s hs;show this (ŗ (by rw[e];assumption))
def Iv(a:∀x∈names,cy x.cps.toList)(h:Ih names r):RK names r:=by
 have ln:∀x∈names,x.length<=11:=λx hx=>by rw[len_list];show(a x hx).len.2
 show#[?_,#[by have:=h.N9;lia,by have:=ln _ h.word;lia,λx hx=>by have:=ln x (h.told x hx);lia],λx hx=>.inl ?_]
 .unfold cO;rw[ŗ h.N9,ŗ h.once,qr (a _ h.word),i8.mpr λx hx=>qr (a x (h.told x hx))];rfl
 .rcases d4.mp hx with rfl|hx
  .show h.word
  .show h.told x hx
abbrev fk(k:Nat):Row:=(("full/":Str)++eX (2+(k:Int)),[one (97+k % 8),"x","y"])
def Iw:(dV 64).all (λk=>cO (fk k)&&((fk k).1::(fk k).2).all λx=>b7 (x.cps.toList.head?≠a5 115)&&b7 (x.length<=100))=a8:=by decide +kernel
def Iy(h:k<64):RK names (fk k):=by
 have a:=i8.mp Iw k (p7.mpr h);rw[bF,i8]at a;have b:∀x∈(fk k).1::(fk k).2,x.cps.toList.head?≠a5 115/\x.length<=100:=λx c=>by
  have:=a.2 x c;rw[bF,œ,œ]at this;show this
 show#[a.1,#[by simp[fk],(b _ gs).2,λx c=>(b x (fx _ c)).2],λx c=>.inr (b x c).1]
abbrev LR(ns:List Int)(names:List Str)(m:Int)(full:Bool)(rows:List Row)(o5 o6 o7:Option (Kd×U)):aw:=[a5 (.any,.lst (ns.map .int)),a5 (.any,.lst (names.map .str)),a5 (.loc,.int m),a5 (.loc,.bl full),a5 (.own,lb rows),o5,o6,o7]
abbrev XB:List TM.S:=match dG.body.getD 1 .bad with|.JZ _ _ _ _ b=>b|_=>[]
abbrev XC:List TM.S:=match dG.body.getD 2 .bad with|.ite _ [.JZ _ _ _ _ b] _=>b|_=>[]
variable{ns:List Int}{m:Int}{full:Bool}{o5 o6 o7:Option (Kd×U)}
def DS(a:vU Γ)(h:RB names rows)(hl:rows.length<=60)(b:RK names r):Run (JP Γ (.call "_law_stands" [.var 4,.var 7])) (LR ns names m full rows o5 o6 (a5 (.loc,JD r))) (rows.any λs=>LN s r) (LR ns names m full rows o5 o6 (a5 (.loc,JD r))) :=
 uB (rs:=[(.bor 4,lb rows),(.loc,JD r)]) (aa (ax rfl) (aa (ah rfl) af)) ∅ (a rows r (λs hs=>dH (h.ok s hs).fit) ⋯ (dH b.fit)) rfl
def AJ(hl:rows.length<=60):Run (execs Γ [.app 4 (.var 7)]) (LR ns names m full rows o5 o6 (a5 (.loc,JD r))) .nx (LR ns names m full (rows++[r]) o5 o6 (a5 (.loc,JD r))):=by
 have hsz:(2000:Nat)<=b6:=by decide
 have e:lb (rows++[r])=.lst (rows.map JD++[JD r]):=by simp[lb]
 unfold LR;rw[e];show oG (k:=.own) (k':=.own) (us:=rows.map JD) (us':=rows.map JD) rfl (ah rfl) ay rfl rfl (by rw[b8];lia) aS
def Gy(n:kg Γ)(o:ir Γ)(p:uA Γ)(q:vU Γ)(r:0<names.length)(u:∀x∈names,cy x.cps.toList)(h:RB names rows)(hl:rows.length<=60)(k:Nat)(hk:k<64):
  ∃(c:List Row) (v w:Option (Kd×U)),RB names c/\c.length<=rows.length+1/\Run (execs Γ XB) (LR ns names m full rows (a5 (.loc,.int (0+(k:Int)))) o6 o7) .nx (LR ns names m full c (a5 (.loc,.int (0+(k:Int)))) v w):=by
 have hsz:(2000:Nat)<=b6:=by decide
 have(z,hz):=n ns (20+k) ⋯;have(es,J,d,y):=o z 11 ⋯;have(told,A,B,C,D):=p es names ⋯ d r;have e:(0:Int)<((names.map U.str).length:Nat):=by simp;lia
 have(nm,G,H):=lz (xs:=names) (t:=((names.map U.str).length:Nat)) (cW d 0) e (by simp);have f:RK names (nm,told):=Iv u #[G,A,B,C];let a:Option (Kd×U):=a5 (.loc,.int (0+(k:Int)));let b:Option (Kd×U):=a5 (.own,.lst (es.map .int));let g:Option (Kd×U):=a5 (.loc,JD (nm,told));have I:Γ "_law_cell" [.lst (ns.map .int),.int (20+(0+(k:Int)))]=a5 (.ok (.loc,.int z)):=by
  rw[RQ,show(20+(k:Int))=((20+k:Nat):Int) by lia];show hz
 have j:Run (ev Γ (.call "_law_drawn" [.call "_law_cell" [.var 0,.bin .add (.cst (.int 20)) (.var 5)],.cst (.int 11)])) (LR ns names m full rows a o6 o7) (.own,.lst (es.map .int)) (LR ns names m full rows a o6 o7) :=
  aP (aa (aP (aa (au rfl) (aa (bb ai (ah rfl) trivial dr) af)) trivial I) (aa ai af)) trivial y
 have l:Run (ev Γ (.tup [.idx (.var 1) (.bin .mod (.idx (.var 6) (.cst (.int 0))) (.bi .len [.var 1])),.call "_law_told" [.var 6,.var 1]])) (LR ns names m full rows a b o7) (.loc,JD (nm,told)) (LR ns names m full rows a b o7) :=
  cR (aa (aQ (au rfl) (bb (aQ (ax rfl) ai ∅ (aD (bN (i:=0) ⋯))) (cA (aa (au rfl) af) trivial fR) trivial (bE e)) trivial (aD H)) (aa (aP (aa (ax rfl) (aa (au rfl) af)) ∅ D) af)) trivial (ak (eT rfl) (ak ay aB)) (by change 2<=b6;lia)
 have ts:=mQ (DS (Γ:=Γ) (ns:=ns) (m:=m) (full:=full) (o5:=a) (o6:=b) q h hl f);cases hs:rows.any λs=>LN s (nm,told) with
 |true =>
  rw[hs]at ts;show#[rows,b,g,h,⋯,az j aV (az l a9 (bT ts (λz=>by cases z) λ_=>aS))]
 |false =>
  rw[hs]at ts;show#[rows++[(nm,told)],b,g,h.snoc f hs,by simp,az j aV (az l a9 (bT ts (λ_=>AJ hl) λz=>by cases z))]
def Gz(i:vU Γ)(h:RB names rows)(hl:rows.length<=60)(k:Nat)(hk:k<64):
  ∃(e:List Row) (l:Option (Kd×U)),RB names e/\e.length<=60/\Run (execs Γ XC) (LR ns names m full rows (a5 (.loc,.int (0+(k:Int)))) o6 o7) .nx (LR ns names m full e (a5 (.loc,.int (0+(k:Int)))) o6 l):=by
 have hsz:(2000:Nat)<=b6:=by decide
 have f:RK names (fk k):=Iy hk;let b:Option (Kd×U):=a5 (.loc,.int (0+(k:Int)));let c:Option (Kd×U):=a5 (.loc,JD (fk k));have p:=ij (k:=2+(k:Int)) ⋯ ⋯;have g:Run (ev Γ (.tup [.bin .add (.cst (.str "full/")) (.bi .str [.bin .add (.cst (.int 2)) (.var 5)]),.tup [.idx (.cst (.str "abcdefgh")) (.bin .mod (.var 5) (.cst (.int 8))),.cst (.str "x"),.cst (.str "y")]])) (LR ns names m full rows b o6 o7) (.loc,JD (fk k)) (LR ns names m full rows b o6 o7):=by
  have n:KP .str [(.loc,.int (2+(0+(k:Int))))]=a5 (.loc,.str (eX (2+(k:Int)))):=by rw[RQ];show qq ⋯ ⋯
  have o:iV (.loc,.str "abcdefgh") (.int ((0+(k:Int)) % 8))=a5 (.loc,.str (one (97+k % 8))):=by
   show jT (by decide) ?_;have:∀j:Nat,j<8->J_ ("abcdefgh":Str).cps.toList (j:Int)=a5 (97+j):=by decide +kernel
   rw[RQ,show((k:Int) % 8)=((k % 8:Nat):Int) by lia];show this (k % 8) ⋯
  show cR (us:=[.str ("full/"++eX (2+(k:Int))),.tup [.str (one (97+k % 8)),.str "x",.str "y"]]) (aa (bb ai (cA (aa (bb ai (ah rfl) trivial dr) af) trivial n) trivial (ip (by change 5+(eX _).length<=_;lia))) (aa (cR (aa (aQ ai (bb (ah rfl) ai trivial (bE (by decide))) trivial o) (aa ai (aa ai af))) trivial (ak ay (ak ay (ak ay aB))) (by change 3<=b6;lia)) af)) trivial (ak ay (ak ay aB)) (by change 2<=b6;lia)
 have a:KP .len [(Kd.bor 4,lb rows)]=a5 (.loc,.int (rows.length:Nat)):=by
  have:=fR (k:=.bor 4) (xs:=rows.map JD);rw[b8]at this;show this
 have d:Run (JP Γ (.and [.cmp .lt (.bi .len [.var 4]) (.cst (.int 60)),.not (.call "_law_stands" [.var 4,.var 7])])) (LR ns names m full rows b o6 c) (b7 (rows.length<60)&&!(rows.any λs=>LN s (fk k))) (LR ns names m full rows b o6 c) :=
  jE (qg (aU (cA (aa (ax rfl) af) ∅ a) ai trivial (vO (by rw[oT];simp;lia))) λ_=>dC (mQ (DS i h hl f)))
 cases hs:(b7 (rows.length<60)&&!(rows.any λs=>LN s (fk k))) with
 |false =>
  rw[hs]at d;show#[rows,c,h,hl,az g a9 (bT d (λz=>by cases z) λ_=>aS)]
 |true =>
  rw[hs]at d;rw[bF,œ,nC]at hs;show#[rows++[fk k],c,h.snoc f hs.2,by simp;lia,az g a9 (bT d (λ_=>AJ hl) λz=>by cases z)]
def AK(w:kg Γ)(y:ir Γ)(A:uA Γ)(s:vU Γ)(B:0<names.length)(C:∀x∈names,cy x.cps.toList)(L:0<=m)(N:m<=40):
  ∃rows:List Row,RB names rows/\rows.length<=60/\bX Γ dG [.lst (ns.map .int),.lst (names.map .str),.int m,.bl full]=a5 (.ok (.own,lb rows)):=by
 have u:TM.start [.lst (ns.map .int),.lst (names.map .str),.int m,.bl full] 8=[a5 (.any,.lst (ns.map .int)),a5 (.any,.lst (names.map .str)),a5 (.loc,.int m),a5 (.loc,.bl full),bD,bD,bD,bD]:=by simp[TM.start,JW]
 have(st',v,_,rows,j,f,h,e,hs,hl):=dE (t:=bL) (is:=[5]) (body:=execs Γ XB) (rs:=[(.loc,.int m)]) (λi:Nat=>(Kd.loc,U.int (0+(i:Int))))
  (λd r st=>d++r=dV m.toNat/\∃rows j f h,st=LR ns names m full rows j f h/\RB names rows/\rows.length<=d.length) (λ_ _ _ _=>trivial) (λd k r st n=>by
   have(g,rows,j,f,h,e,hs,hl):=n;subst e;have o:k∈dV m.toNat:=by rw[<-g];simp
   have hk:=p7.mp o;have D:=Ś vr g;simp at D;have(p,O,G,a,b,c):=Gy (ns:=ns) (m:=m) (full:=full) (o6:=f) (o7:=h) w y A s B C hs ⋯ k ⋯;show#[_,_,fc a9,c,by rw[<-g];simp,p,_,_,_,rfl,a,by simp;lia]) (dV m.toNat) [] (LR ns names m full [] bD bD bD) ⟨rfl,[],_,_,_,rfl,RB.nil,by simp⟩
 subst e;have hl:rows.length<=60:=by simp at hl;lia
 cases full with
 |false=>show#[rows,hs,hl,aH rfl (.inl rfl) u (az dm aV (dR (rs:=[(.loc,.int m)]) (st1:=LR ns names m bL [] bD bD bD) (aa (ah rfl) af) trivial (jI ⋯ ⋯) rfl v (bT (rR rfl) (λz=>by cases z) λ_=>bp (ax rfl) (mS rfl))))]
 |true =>
  have(st2,H,_,I,q,l,e,J,Mz):=dE (t:=bL) (is:=[5]) (body:=execs Γ XC) (rs:=[(.loc,.int 64)]) (λi:Nat=>(Kd.loc,U.int (0+(i:Int))))
   (λd r st=>d++r=dV 64/\∃rows q l,st=LR ns names m a8 rows q f l/\RB names rows/\rows.length<=60) (λ_ _ _ _=>trivial) (λd k r st n=>by
    have(g,rows,q,l,e,hs,hl):=n;subst e;have o:k∈dV 64:=by rw[<-g];simp
    have(p,G,a,b,c):=Gz (ns:=ns) (m:=m) (full:=a8) (o6:=f) (o7:=l) s hs hl k (p7.mp o);show#[_,_,fc a9,c,by rw[<-g];simp,p,_,_,rfl,a,b]) (dV 64) [] (LR ns names m a8 rows j f h) ⟨rfl,rows,_,_,rfl,hs,hl⟩
  subst e;show#[I,J,Mz,aH rfl (.inl rfl) u (az dm aV (dR (rs:=[(.loc,.int m)]) (st1:=LR ns names m a8 [] bD bD bD) (aa (ah rfl) af) trivial (jI ⋯ ⋯) rfl v (bT (rR rfl) (λ_=>dR (rs:=[(.loc,.int 64)]) (aa ai af) trivial (jI ⋯ ⋯) rfl H (bp (ax rfl) (mS rfl))) (λz=>by cases z))))]
end
section
abbrev kA:List Str:=(dV 18).map λi:Nat=>("spare/":Str)++eX (2+(i:Int))
abbrev M0(names:List Str):List Str:=kA.filter λx=>b7 (x∉names)
def Iz:(kA.all λx=>b7 (x.cps.toList.head?=a5 115)&&(wb x&&b7 (x.length<=100)))=a8:=by decide +kernel
def DT:kA.Nodup:=by decide +kernel
structure N1(names:List Str)(x:Str):Prop where
 no:x∉names
 hd:x.cps.toList.head?=a5 115
 wd:wb x=a8
 ln:x.length<=100
def GA(h:x∈M0 names):N1 names x:=by
 have(a,b):=H8.mp h;have:=i8.mp Iz x a;simp only[bF,œ]at this;show#[ř b,this.1,this.2.1,this.2.2]
def GB(h:names.length<=14):4<=(M0 names).length:=by
 have a:=List.length_eq_countP_add_countP (λx=>b7 (x∉names)) (l:=kA);rw[WN,WN]at a;have c:=oK (K:=kA.filter λx=>decide ¬(b7 (x∉names))=a8) (L:=names) (DT.filter _) λx b=>by
  have:=(H8.mp b).2;simpa using this
 have d:kA.length=18:=by decide
 unfold M0;lia
def qz(h:names.length<=14):∃a b c d l,M0 names=a::b::c::d::l/\N1 names a/\N1 names b/\N1 names c/\N1 names d/\a≠b:=by
 have f:=GB h;have i:(M0 names).Nodup:=DT.filter _;have g:∀x∈M0 names,N1 names x:=λx j=>GA j
 match hs:M0 names with
 |[]=>rw[hs]at f;simp at f
 |[_]=>rw[hs]at f;simp at f
 |[_,_]=>rw[hs]at f;simp at f
 |[_,_,_]=>rw[hs]at f;simp at f
 |a::b::c::d::l =>
  rw[hs]at i g;show#[a,b,c,d,l,rfl,g a (by simp),g b (by simp),g c (by simp),g d (by simp),λe=>by simp[e]at i]
def vV(hk:k=.own\/k=.any)(d:st[2]?=a5 (a5 (k,.lst (names.map .str)))):Run (ev Γ (.comp 1 bL .seq [.comp 1 bL .LZ [.cst (.int 2),.cst (.int 20)] [] (.bin .add (.cst (.str "spare/")) (.bi .str [.var 0]))] [.cmp .JG (.var 0) (.var 3)] (.var 0))) st (.own,.lst ((M0 names).map .str)) st:=by
 have hsz:(1000:Nat)<=b6:=by decide
 have a:=gU (cond:=aR Γ []) (elt:=ev Γ (.bin .add (.cst (.str "spare/")) (.bi .str [.var 0]))) (src:=[(.loc,.int 2),(.loc,.int 20)]) (st:=st) trivial .loc (.inl rfl) (λi:Nat=>U.int (2+(i:Int))) (λi=>U.str (("spare/":Str)++eX (2+(i:Int)))) .loc (λ_=>iN) (dV 18) [] (by simp;lia)
  (λi hi=>#[bb ai (cA (aa (ah rfl) af) trivial (qq ⋯ (by have:=p7.mp hi;lia))) trivial (ip (by
   have:=ij (k:=2+(i:Int)) ⋯ (by have:=p7.mp hi;lia);change 6+(eX _).length<=_;lia)),ay])
 rw[ko]at a;have e:((dV 18).map λi:Nat=>U.str (("spare/":Str)++eX (2+(i:Int))))=kA.map U.str:=by unfold kA;rw[i6];rfl
 rw[e]at a;have g:Run (ev Γ (.comp 1 bL .LZ [.cst (.int 2),.cst (.int 20)] [] (.bin .add (.cst (.str "spare/")) (.bi .str [.var 0])))) st (.own,.lst (kA.map .str)) st:=cM (rs:=[(.loc,.int 2),(.loc,.int 20)]) (aa ai (aa ai af)) trivial rfl a;have f:kA.length=18:=by decide
 have c:=m7 (cond:=aR Γ [.cmp .JG (.var 0) (.var 3)]) (elt:=ev Γ (.var 0)) (src:=[(.own,.lst (kA.map .str))]) (st:=st) trivial .loc (.inl rfl) U.str U.str (λx=>b7 (x∉names)) .loc kA [] (by rw[Ts];lia)
  (λx a=>by
   have b:(a5 (Kd.loc,U.str x)::st)[3]?=a5 (a5 (k,.lst (names.map .str))):=d;show#[dC ?_,λ_=>#[ah rfl,ay]];rcases hk with rfl|rfl
   .show aU (ah rfl) (ax b) #[#[.own,rfl,b],trivial] eJ
   .show aU (ah rfl) (au b) trivial eJ)
 rw[ko]at c;show cM (rs:=[(.own,.lst (kA.map .str))]) (aa g af) trivial (by change a5 _=_;rw[i6];rfl) c
def lD(h:keyOf s=keyOf r):s.1=r.1:=(Ă h).1
def nA(h:keyOf s=keyOf r):s.2.Perm r.2:=by
 have e:bI s.2=bI r.2:=(Ă h).2;have a:=(cB s.2).symm;rw[e]at a;show a.trans (cB r.2)
def gB(h:a.Perm b):keyOf (w,a)=keyOf (w,b):=by
 unfold keyOf;rw[kJ h]
def eU(h:RB names rows)(b:N1 names x):∀s∈rows,keyOf s≠keyOf (x,ts):=λs hs e=>by
 have c:s.1=x:=lD e;rcases(h.ok s hs).ns s.1 gs with a|a
 .rw[c]at a;show b.no a
 .rw[c]at a;show a b.hd
def De(h:RB names rows)(b:N1 names x)(c:x∈ts):∀s∈rows,keyOf s≠keyOf (w,ts):=λs hs e=>by
 have d:x∈s.2:=(nA e).mem_iff.mpr c;rcases(h.ok s hs).ns x (fx _ d) with a|a
 .show b.no a
 .show a b.hd
def AL(h:cO r=a8):wb r.1=a8/\∀x∈r.2,wb x=a8:=by
 unfold cO at h;simp only[bF,i8]at h;show h.2
def nB(a:ts.length<=8)(b:ts.Nodup)(c:wb w=a8)(d:∀x∈ts,wb x=a8):cO (w,ts)=a8:=by
 unfold cO;rw[ŗ a,ŗ b,c,i8.mpr d];rfl
@[reducible]noncomputable def Try:=Str×Row×Nat
abbrev tU(t:Try):U:=.tup [.str t.1,.str t.2.1.1,.lst (t.2.1.2.map .str),.int (t.2.2:Nat)]
abbrev Rf(rows:List Row)(t:Try):Prop:=Rw t.2.1/\((t.1="put"/\(((cO t.2.1=bL\/∃s∈rows,keyOf s=keyOf t.2.1)/\t.2.2=0)\/((cO t.2.1=a8/\(∀s∈rows,keyOf s≠keyOf t.2.1)/\rows.length=60)/\t.2.2=1)))\/(t.1="take"/\(∀s∈rows,keyOf s≠keyOf t.2.1)/\t.2.2=2))
def Rf.un(h:Rw r)(a:cO r=bL):Rf rows ("put",r,0):=#[h,.inl #[rfl,.inl #[.inl a,rfl]]]
def Rf.al(h:Rw r)(a:∃s∈rows,keyOf s=keyOf r):Rf rows ("put",r,0):=#[h,.inl #[rfl,.inl #[.inr a,rfl]]]
def Rf.ma(h:Rw r)(a:cO r=a8)(b:∀s∈rows,keyOf s≠keyOf r)(hl:rows.length=60):Rf rows ("put",r,1):=#[h,.inl #[rfl,.inr #[#[a,b,hl],rfl]]]
def Rf.no(h:Rw r)(a:∀s∈rows,keyOf s≠keyOf r):Rf rows ("take",r,2):=#[h,.inr #[rfl,a,rfl]]
abbrev odd:List Str:=[""," ","A","a/1","a/02","a/","/2","abcdefghi","a/100","a b","a/2/3","a1","*","a/0"]
abbrev nine:List Str:=["a","b","c","d","e","f","g","h","i"]
def GC:(odd.all λx=>!wb x&&b7 (x.length<=100))=a8:=by decide +kernel
theorem AM:∀ss:List Str,Run (aT Γ (ss.map λs=>E.cst (.str s))) st (ss.map λs=>(Kd.loc,U.str s)) st
 |[]=>af
 |s::ss=>aa ai (AM ss)
theorem vW:∀us:List U,Run (dc (us.map λu=>(Kd.loc,u))) st us st
 |[]=>aB
 |u::us=>ak ay (vW us)
theorem oP:∀us:List U,a_ (us.map λu=>(Kd.loc,u)) st
 |[]=>trivial
 |u::us=>oP us
def AN{ss:List Str}(h:ss.length<=100):Run (ev Γ (.lst (ss.map λs=>E.cst (.str s)))) st (.own,.lst (ss.map .str)) st:=by
 have hsz:(1000:Nat)<=b6:=by decide
 have e:(ss.map λs=>(Kd.loc,U.str s))=(ss.map U.str).map λu=>(Kd.loc,u):=by rw[i6];rfl
 have a:=AM (Γ:=Γ) (st:=st) ss;rw[e]at a;show cC a (oP _) (vW _) (by rw[b8];lia)
def gm(b:Run (ev Γ eb) st (kb,.str w) st)(f:kb=.loc\/kb=.any)(c:Run (ev Γ h) st (g,.lst (ts.map .str)) st)(i:g=.own\/g=.loc)(e:Run (ev Γ j) st (.loc,.int (d:Nat)) st):
  Run (ev Γ (.tup [.cst (.str a),eb,h,j])) st (.loc,tU (a,(w,ts),d)) st:=by
 have hsz:(1000:Nat)<=b6:=by decide
 rcases f with rfl|rfl<;>rcases i with rfl|rfl
 .show cR (us:=[.str a,.str w,.lst (ts.map .str),.int (d:Nat)]) (aa ai (aa b (aa c (aa e af)))) trivial (ak ay (ak ay (ak iM (ak ay aB)))) (by change 4<=b6;lia)
 .show cR (us:=[.str a,.str w,.lst (ts.map .str),.int (d:Nat)]) (aa ai (aa b (aa c (aa e af)))) trivial (ak ay (ak ay (ak ay (ak ay aB)))) (by change 4<=b6;lia)
 .show cR (us:=[.str a,.str w,.lst (ts.map .str),.int (d:Nat)]) (aa ai (aa b (aa c (aa e af)))) trivial (ak ay (ak (eT rfl) (ak iM (ak ay aB)))) (by change 4<=b6;lia)
 .show cR (us:=[.str a,.str w,.lst (ts.map .str),.int (d:Nat)]) (aa ai (aa b (aa c (aa e af)))) trivial (ak ay (ak (eT rfl) (ak ay (ak ay aB)))) (by change 4<=b6;lia)
def rY{ws:List Str}(h:Run (aT Γ es) st (ws.map λw=>(Kd.any,U.str w)) st)(hl:ws.length<=100):Run (ev Γ (.lst es)) st (.own,.lst (ws.map .str)) st:=by
 have hsz:(1000:Nat)<=b6:=by decide
 have a:∀ws:List Str,a_ (ws.map λw=>(Kd.any,U.str w)) st:=λws=>by
  induction ws with
  |nil=>trivial
  |cons _ _ c=>show c
 have b:∀ws:List Str,Run (dc (ws.map λw=>(Kd.any,U.str w))) st (ws.map .str) st:=λws=>by
  induction ws with
  |nil=>show aB
  |cons _ _ c=>show ak (eT rfl) c
 show cC h (a ws) (b ws) (by rw[b8];lia)
def uI(k:Kd)(ss:List Str):eB k (ss.map U.str)=a8:=by simp[eB,iu]
def jO{ss:List Str}:KP .list [(k,.tup (ss.map .str))]=a5 (.own,.lst (ss.map .str)):=by
 change(if eB k (ss.map U.str)=a8 then _ else _)=_;rw[Ŕ (uI k ss)]
def rZ:gH (k,.tup (ss.map .str)) lo hi=a5 (kE k,.tup ((cut ss lo hi).map .str)):=by
 simp only[gH];rw[jJ]
def AO{a b:List Str}(h:a.length+b.length<=b6):LO .add (k,.tup (a.map .str)) (k',.tup (b.map .str))=a5 (kT k k',.tup ((a++b).map .str)):=by
 change(if _ then _ else _)=_;rw[Ŕ (by rw[b8,b8];show h),kj]
def GD{d:List Row}:bK .isin (JD r) (.lst (d.map JD))=a5 (b7 (r∈d)):=by
 simp only[bK];change Ol (JD r) (d.map JD)=_;unfold Ol;rw[Ŕ #[qh r,lB 48 d],List.any_map];congr 1
 rw[oT,NI,œ];simp only[Function.comp,oJ,œ];show#[λ⟨x,a,b⟩=>b▸a,λa=>#[r,a,rfl]]
end
section
variable{Γ:Tab}{names:List Str}{rows G':List Row}{past:List (List Row)}{r s:Row}{n:Nat}{st:aw}
def AQ(a:st[7]?=a5 (a5 (.own,.lst (T.map tU))))(b:Run (ev Γ e) st (.loc,tU t) st)(hl:T.length<=100)(h:Run (execs Γ ss) (st.set 7 (a5 (.own,.lst ((T++[t]).map tU)))) f st'):Run (execs Γ (.app 7 e::ss)) st f st':=by
 have hsz:(1000:Nat)<=b6:=by decide
 rw[kj]at h;show oG (k:=.own) (k':=.own) (us:=T.map tU) (us':=T.map tU) a b ay a rfl (by rw[b8];lia) h
def DU(h:isAny k=bL):gH (k,.lst (T.map tU)) lo hi=a5 (.own,.lst ((cut T lo hi).map tU)):=by
 simp only[gH];rw[Ŕ (by simp[eB,h]),jJ]
def IA{T:List Try}(a:∀t∈T,Rf rows t):∀t∈T.drop c++T.take c,Rf rows t:=λt b=>(f6.mp b).elim (λh=>a t (è _ _ h)) λh=>a t (List.take_subset _ _ h)
abbrev bA:TM.S:=ei.body.getD 8 .bad
abbrev bB:TM.S:=ei.body.getD 9 .bad
abbrev BS(ds:List Int)(rows:List Row)(names:List Str)(bad word:Str)(T:List Try)(o9 o10:Option (Kd×U)):aw :=
 [a5 (.any,.lst (ds.map .int)),a5 (.any,lb rows),a5 (.any,.lst (names.map .str)),a5 (.own,.lst (odd.map .str)),a5 (.loc,.str bad),a5 (.any,.str word),a5 (.loc,.lst (nine.map .str)),a5 (.own,.lst (T.map tU)),a5 (.own,.lst ((M0 names).map .str)),o9,o10,bD]
variable{ds:List Int}{bad word:Str}{T:List Try}{o9 o10:Option (Kd×U)}
def Df(h:(M0 names)[i]?=a5 x):Run (ev Γ (.idx (.var 8) (.cst (.int (i:Nat))))) (BS ds rows names bad word T o9 o10) (.loc,.str x) (BS ds rows names bad word T o9 o10) :=
 aQ (ax rfl) ai ∅ (aD (bH (by rw[n9,h];rfl)))
def AR(h:∀s∈rows,RK names s)(a:r∈rows)(b:w.length<=100)(c:∀x∈ts,x∈r.2\/x.length<=100)(hl:ts.length<=40):Rw (w,ts):=#[hl,b,λx d=>(c x d).elim (λz=>(h r a).rw.ws x z) id]
def IB(g:RB names rows)(hl:rows.length<=60)(hN:names.length<=14)(hd:5<=ds.length)(O:∀d∈ds,0<=d)(Q:∀t∈T,Rf rows t)(XD:T.length<=50):
  ∃(A:List Try) (q9 q10:Option (Kd×U)),(∀t∈A,Rf rows t)/\T.length<=A.length/\A.length<=T.length+3/\Run (exec Γ bA) (BS ds rows names bad word T bD bD) .nx (BS ds rows names bad word A q9 q10):=by
 have hsz:(2000:Nat)<=b6:=by decide
 have(a,b,c,d,l,Y,sa,sb,sc,sd,MC):=qz hN;have B:Run (JP Γ (.cmp .ne (.var 1) (.lst []))) (BS ds rows names bad word T bD bD) (!rows.isEmpty) (BS ds rows names bad word T bD bD):=by
  have e:=gW (us:=rows.map JD) (AG 47 rows);rw[Wn]at e;show aU (au rfl) dm trivial e
 cases G:rows.isEmpty with
 |true =>
  rw[G]at B;show#[T,bD,bD,Q,⋯,⋯,mT B aS]
 |false =>
  rw[G]at B;have Py:0<rows.length:=Æ.mpr (List.isEmpty_eq_false_iff.mp G);have(u,m,XE):=zY (xs:=rows) (z:=dd ds 2) (t:=(rows.length:Nat)) (cW O 2) ⋯ (Int.le_refl _);have Le:J_ (rows.map JD) (dd ds 2 % (rows.length:Nat))=a5 (JD u):=by
   unfold J_ at XE ⊢;rw[b8];have(j,q1,q2):=r3.mp XE;rw[q1];change(rows.map JD)[j]?=_;rw[n9,q2];rfl
  have p:KP .len [(Kd.any,lb rows)]=a5 (.loc,.int (rows.length:Nat)):=by
   have:=fR (k:=.any) (xs:=rows.map JD);rw[b8]at this;show this
  have H:KP .len [(Kd.any,.tup (u.2.map .str))]=a5 (.loc,.int (u.2.length:Nat)):=by
   have:=jH (k:=.any) (xs:=u.2.map U.str);rw[b8]at this;show this
  have I:=g.ok u m;have h8:=dH I.fit;have h3:=cW O 3;let k:Nat:=(dd ds 3 % ((u.2.length:Nat)+1)).toNat;have hk:dd ds 3 % (((u.2.length:Nat):Int)+1)=(k:Nat):=(NK (RC _ ⋯)).symm;let q:List Str:=(u.2.drop k++u.2.take k).reverse;have J:q.Perm u.2:=(List.reverse_perm _).trans ((List.perm_append_comm).trans (by rw[TL]));have ab:q.length=u.2.length:=J.length_eq;let f:Option (Kd×U):=a5 (.any,JD u);let h:Option (Kd×U):=a5 (.loc,.int (k:Nat));have j0:∀(T:List Try) (o:Option (Kd×U)),Run (ev Γ (.idx (.var 9) (.cst (.int 0)))) (BS ds rows names bad word T f o) (.any,.str u.1) (BS ds rows names bad word T f o):=λT o=>aQ (x:=(.any,JD u)) (au rfl) ai trivial rfl;have v:∀(T:List Try) (o:Option (Kd×U)),Run (ev Γ (.idx (.var 9) (.cst (.int 1)))) (BS ds rows names bad word T f o) (.any,.tup (u.2.map .str)) (BS ds rows names bad word T f o):=λT o=>aQ (x:=(.any,JD u)) (au rfl) ai trivial rfl;have V9:Run (ev Γ (.bin .mod (.idx (.var 0) (.cst (.int 3))) (.bin .add (.bi .len [.idx (.var 9) (.cst (.int 1))]) (.cst (.int 1))))) (BS ds rows names bad word T f bD) (.loc,.int (k:Nat)) (BS ds rows names bad word T f bD):=by
   rw[<-hk];show bb (aQ (au rfl) ai trivial (aD (bN (i:=3) ⋯))) (bb (cA (aa (v T bD) af) trivial H) ai trivial dr) trivial (bE ⋯)
  have s1:=rZ (k:=.any) (ss:=u.2) (lo:=a5 (k:Int)) (hi:=bD);rw[g_]at s1;have s2:=rZ (k:=.any) (ss:=u.2) (lo:=bD) (hi:=a5 (k:Int));rw[qx]at s2;have s3:=AO (k:=.any) (k':=.any) (a:=u.2.drop k) (b:=u.2.take k) (by simp;lia);have s4:tD .LY [(.any,.tup ((u.2.drop k++u.2.take k).map .str))]=a5 (.own,.lst (q.map .str)):=by
   change(if eB .any ((u.2.drop k++u.2.take k).map U.str)=a8 then _ else _)=_;rw[Ŕ (uI _ _),<-List.map_reverse]
  have t9:Rf rows ("put",(u.1,q),0):=Rf.al (AR g.ok m I.rw.w (λx y=>.inl (J.mem_iff.mp y)) ⋯) ⟨u,m,(gB J).symm⟩;have L:Rf rows ("take",(u.1,u.2++[b]),2):=Rf.no (AR g.ok m I.rw.w (λx y=>(f6.mp y).elim .inl λz=>.inr (by rw[hY.mp z];show sb.ln)) (by simp;lia)) (De g sb (by simp));have V_:Rf rows ("take",(c,u.2),2):=Rf.no (AR g.ok m sc.ln (λx y=>.inl y) ⋯) (eU g sc);have V':∀T:List Try,Run (ev Γ (.bin .add (.bi .list [.idx (.var 9) (.cst (.int 1))]) (.lst [.idx (.var 8) (.cst (.int 1))]))) (BS ds rows names bad word T f h) (.own,.lst ((u.2++[b]).map .str)) (BS ds rows names bad word T f h):=λT=>by
   have e:=fC (k:=.own) (k':=.own) (xs:=u.2.map U.str) (ys:=[U.str b]) (by simp;lia) rfl rfl;rw[show u.2.map U.str++[U.str b]=(u.2++[b]).map U.str by simp]at e;show bb (cA (aa (v T h) af) trivial jO) (cC (us:=[.str b]) (aa (Df (i:=1) (by rw[Y];rfl)) af) trivial (ak ay aB) (by change 1<=b6;lia)) trivial e
  let C:Try:=("put",(u.1,q),0)
  let N:Try:=("take",(u.1,u.2++[b]),2)
  let RF:Try:=("take",(c,u.2),2)
  show#[T++[C]++[N]++[RF],f,h,λt D=>?_,by simp,by simp,kf B (az (aQ (x:=(.any,lb rows)) (au rfl) (bb (aQ (au rfl) ai trivial (aD (bN (i:=2) ⋯))) (cA (aa (au rfl) af) trivial p) trivial (bE ⋯)) trivial (aD Le)) jF (az V9 a9
   (AQ (T:=T) (t:=C) rfl (gm (j0 _ _) (.inr rfl) (DF (aa (bb (gS (v T h) (gR (ah rfl)) gQ trivial s1) (gS (v T h) gQ (gR (ah rfl)) trivial s2) trivial s3) af) trivial s4) (.inl rfl) ai) ⋯ (AQ (T:=T++[C]) (t:=N) rfl (gm (j0 _ _) (.inr rfl) (V' _) (.inl rfl) ai) (by simp;lia)
    (AQ (T:=T++[C]++[N]) (t:=RF) rfl (gm (Df (i:=2) (by rw[Y];rfl)) (.inl rfl) (cA (aa (v _ _) af) trivial jO) (.inl rfl) ai) (by simp;lia) aS)))))]
  simp only[f6,hY]at D;rcases D with((D|rfl)|rfl)|rfl
  .show Q t D
  .show t9
  .show L
  .show V_
def xM(a:w.length<=100)(b:∀x∈ts,x.length<=100)(hl:ts.length<=40):Rw (w,ts):=#[hl,a,b]
def GF(a:w.length<=100)(b:x.length<=100)(c:y.length<=100):Rw (w,[x,y]):=#[by simp,a,by simp[b,c]]
def AS(a:w.length<=100)(b:x.length<=100):Rw (w,[x]):=#[by simp,a,by simp[b]]
def IC(D:RB names rows)(hl:rows.length<=60)(G:names.length<=14)(B:wb word=a8)(v:word.length<=100)(C:∀t∈T,Rf rows t)(N:T.length<=50):
  ∃h:List Try,(∀t∈h,Rf rows t)/\T.length<=h.length/\h.length<=T.length+2/\Run (exec Γ bB) (BS ds rows names bad word T q9 q10) .nx (BS ds rows names bad word h q9 q10):=by
 have hsz:(2000:Nat)<=b6:=by decide
 have(a,b,c,d,l,H,O,Q,Y,w,MC):=qz G;have g:KP .len [(Kd.any,lb rows)]=a5 (.loc,.int (rows.length:Nat)):=by
  have:=fR (k:=.any) (xs:=rows.map JD);rw[b8]at this;show this
 have j:Run (JP Γ (.cmp .eq (.bi .len [.var 1]) (.cst (.int 60)))) (BS ds rows names bad word T q9 q10) (b7 (rows.length=60)) (BS ds rows names bad word T q9 q10) :=
  aU (cA (aa (au rfl) af) trivial g) ai trivial (eI (by rw[oT];simp;lia))
 by_cases m:rows.length=60
 .rw[ŗ m]at j;let o:Nat:=if (word,[])∈rows then 0 else 1
  let p:Try:=("put",(d,[word]),1)
  let y:Try:=("put",(word,[]),o)
  have z:Rf rows p:=Rf.ma (AS w.ln v) (nB (by simp) (by simp) w.wd (by simp[B])) (eU D w) m;have A:Rf rows y:=by
   change Rf rows ("put",(word,[]),if (word,[])∈rows then 0 else 1);by_cases f:(word,[])∈rows
   .rw[Ŕ f];show Rf.al (xM v (by simp) (by simp)) #[_,f,rfl]
   .rw[ŕ f];show Rf.ma (xM v (by simp) (by simp)) (nB (by simp) (by simp) B (by simp)) (λs hs e=>f ?_) m;have I:s.1=word:=lD e;have J:s.2=[]:=ď.mp (nA e);rw[show(word,([]:List Str))=s from Vj I.symm J.symm];show hs
  have L:∀T:List Try,Run (ev Γ (.ite (.cmp .isin (.tup [.var 5,.tup []]) (.var 1)) (.cst (.int 0)) (.cst (.int 1)))) (BS ds rows names bad word T q9 q10) (.loc,.int (o:Nat)) (BS ds rows names bad word T q9 q10):=λT=>by
   have q:Run (JP Γ (.cmp .isin (.tup [.var 5,.tup []]) (.var 1))) (BS ds rows names bad word T q9 q10) (b7 ((word,[])∈rows)) (BS ds rows names bad word T q9 q10) :=
    aU (x:=(.loc,JD (word,[]))) (cR (us:=[.str word,.tup []]) (aa (au rfl) (aa (cR (rs:=[]) (us:=[]) af trivial aB (ki _)) af)) trivial (ak (eT rfl) (ak ay aB)) (by change 2<=b6;lia)) (au rfl) trivial GD
   by_cases f:(word,[])∈rows
   .rw[ŗ f]at q;rw[show o=0 from Ŕ f];show F6 q ai
   .rw[Ŗ f]at q;rw[show o=1 from ŕ f];show F7 q ai
  show#[T++[p]++[y],λt u=>?_,by simp,by simp,kf j (AQ (T:=T) (t:=p) rfl (gm (Df (i:=3) (by rw[H];rfl)) (.inl rfl) (rY (ws:=[word]) (aa (au rfl) af) (by simp)) (.inl rfl) ai) ⋯
   (AQ (T:=T++[p]) (t:=y) rfl (gm (au rfl) (.inr rfl) (rY (ws:=[]) af (by simp)) (.inl rfl) (L _)) (by simp;lia) aS))]
  simp only[f6,hY]at u;rcases u with(u|rfl)|rfl
  .show C t u
  .show z
  .show A
 .rw[Ŗ m]at j;show#[T,C,⋯,⋯,mT j aS]
def Dg(p:RB names rows)(hl:rows.length<=60)(I:∀x∈names,cy x.cps.toList)(hn:0<names.length)(A:names.length<=14)(hd:5<=ds.length)(v:∀d∈ds,0<=d):
  ∃T:List Try,(∀t∈T,Rf rows t)/\T.length<=20/\bX Γ ei [.lst (ds.map .int),lb rows,.lst (names.map .str)]=a5 (.ok (.own,.lst (T.map tU))):=by
 have hsz:(2000:Nat)<=b6:=by decide
 have(a,b,c,d,l,Kw,J,sb,sc,sd,MC):=qz A;have(bad,P7,Vy):=lz (xs:=odd) (z:=dd ds 0) (t:=14) (cW v 0) ⋯ (by decide);have L:(0:Int)<((names.map U.str).length:Nat):=by simp;lia
 have(word,N,Ou):=lz (xs:=names) (z:=dd ds 1) (t:=((names.map U.str).length:Nat)) (cW v 1) L (by simp);have o:=i8.mp GC bad P7;rw[bF,nC,œ]at o;have B:=qr (I word N);have f:word.length<=100:=by have:=(I word N).len.2;rw[len_list];lia
 have O:∀x∈nine,x.length<=100:=by decide +kernel
 have nf:∀{w:Str} {ts:List Str},(¬ts.Nodup\/8<ts.length)->∀s∈rows,keyOf s≠keyOf (w,ts):=λh s hs e=>by
  have Q:=nA e;rcases h with h|h
  .show h (Q.nodup_iff.mp (nu (p.ok s hs).fit))
  .have:=dH (p.ok s hs).fit;have C:s.2.length=_:=Q.length_eq;have h3:8<s.2.length:=C▸h;lia
 have y:∀{r:Row},(wb r.1=bL\/(∃x∈r.2,wb x=bL)\/¬r.2.Nodup\/8<r.2.length)->cO r=bL:=λ{r} h=>by
  cases D:cO r with
  |false=>rfl
  |true =>
   have(Y,a2):=AL D;have a3:=nu D;have a4:=dH D;rcases h with h|⟨x,h1,C⟩|h|h
   .rw[h]at Y;cases Y
   .have:=a2 x h1;rw[C]at this;cases this
   .show absurd a3 h
   .lia
 let j:List Try:=[("put",(bad,[word]),0),("put",(word,[word,bad]),0),("put",(word,[word,word]),0)]
 let m:List Try:=[("put",(word,nine),0),("take",(bad,[word]),2),("take",(word,nine),2)]
 let q:List Try:=[("take",(word,[word,word]),2),("take",(a,[word]),2)]
 have hT:∀t∈j++m++q,Rf rows t:=λt ht=>by
  simp only[j,m,q,Wq,ko,d4,ä,or_false]at ht;rcases ht with rfl|rfl|rfl|rfl|rfl|rfl|rfl|rfl
  .show Rf.un (AS o.2 f) (y (.inl o.1))
  .show Rf.un (GF f f o.2) (y (.inr (.inl #[bad,by simp,o.1])))
  .show Rf.un (GF f f f) (y (.inr (.inr (.inl (by simp)))))
  .show Rf.un (xM f O (by decide)) (y (.inr (.inr (.inr (show 8<nine.length by decide)))))
  .show Rf.no (AS o.2 f) λs hs e=>?_;have:=(AL (p.ok s hs).fit).1;rw[show s.1=bad from lD e,o.1]at this;cases this
  .show Rf.no (xM f O (by decide)) (nf (.inr (by decide)))
  .show Rf.no (GF f f f) (nf (.inl (by simp)))
  .show Rf.no (AS J.ln f) (eU p J)
 have(TA,q9,q10,Vn,al,am,G):=IB (Γ:=Γ) (bad:=bad) (word:=word) p hl A hd v hT (by simp[j,m,q]);have XD:(j++m++q).length=8:=rfl;have(g,Wa,ab,ac,Wb):=IC (Γ:=Γ) (ds:=ds) (bad:=bad) (q9:=q9) (q10:=q10) p hl A B f Vn ⋯;let i0:Option (Kd×U):=a5 (.any,.lst (ds.map .int));let i1:Option (Kd×U):=a5 (.any,lb rows);let i2:Option (Kd×U):=a5 (.any,.lst (names.map .str));let i5:Option (Kd×U):=a5 (.any,.str word);have JI:TM.start [.lst (ds.map .int),lb rows,.lst (names.map .str)] 12=[i0,i1,i2,bD,bD,bD,bD,bD,bD,bD,bD,bD]:=by simp[TM.start,lb,JW,i0,i1,i2]
 have H:∀st:aw,st[5]?=a5 i5->Run (ev Γ (.lst [.var 5])) st (.own,.lst (([word]:List Str).map .str)) st:=λst h=>rY (ws:=[word]) (aa (au h) af) (by simp);have w2:∀st:aw,st[5]?=a5 i5->Run (ev Γ (.lst [.var 5,.var 5])) st (.own,.lst (([word,word]:List Str).map .str)) st:=λst h=>rY (ws:=[word,word]) (aa (au h) (aa (au h) af)) (by simp);have h4:=cW v 4;let k:Nat:=(dd ds 4 % (g.length:Nat)).toNat;have hk:dd ds 4 % (g.length:Nat)=(k:Nat):=(NK (RC _ ⋯)).symm;have u:KP .len [(Kd.bor 7,.lst (g.map tU))]=a5 (.loc,.int (g.length:Nat)):=by
  have:=fR (k:=.bor 7) (xs:=g.map tU);rw[b8]at this;show this
 let SB:aw:=BS ds rows names bad word g q9 q10;have V':Run (ev Γ (.bin .mod (.idx (.var 0) (.cst (.int 4))) (.bi .len [.var 7]))) SB (.loc,.int (k:Nat)) SB:=by
  rw[<-hk];show bb (aQ (au rfl) ai trivial (aD (bN (i:=4) ⋯))) (cA (aa (ax rfl) af) ∅ u) trivial (bE ⋯)
 let SE:aw:=SB.set 11 (a5 (.loc,.int (k:Nat)));have ge:Run (ev Γ (.bin .add (.K_ (.var 7) [.var 11] []) (.K_ (.var 7) [] [.var 11]))) SE (.own,.lst ((g.drop k++g.take k).map tU)) SE:=by
  have s1:=DU (k:=.bor 7) (T:=g) (lo:=a5 (k:Int)) (hi:=bD) rfl;rw[g_]at s1;have s2:=DU (k:=.bor 7) (T:=g) (lo:=bD) (hi:=a5 (k:Int)) rfl;rw[qx]at s2;have s3:=fC (k:=.own) (k':=.own) (xs:=(g.drop k).map tU) (ys:=(g.take k).map tU) (by simp;lia) rfl rfl;rw[<-kj]at s3;show bb (gS (ax rfl) (gR (ah rfl)) gQ ∅ s1) (gS (ax rfl) gQ (gR (ah rfl)) ∅ s2) trivial s3
 show#[g.drop k++g.take k,IA Wa,by simp;lia,aH rfl (.inl rfl) JI (az (AN (ss:=odd) (by decide)) aV
  (az (aQ (ax rfl) (bb (aQ (au rfl) ai trivial (aD (bN (i:=0) ⋯))) ai trivial (bE (by decide))) ∅ (aD Vy)) a9
  (az (aQ (au rfl) (bb (aQ (au rfl) ai trivial (aD (bN (i:=1) ⋯))) (cA (aa (au rfl) af) trivial fR) trivial (bE L)) trivial (aD Ou)) jF
  (az (AN (ss:=nine) (by decide)) aV
  (az (cC (us:=j.map tU) (aa (gm (ah rfl) (.inl rfl) (H _ rfl) (.inl rfl) ai) (aa (gm (ts:=[word,bad]) (au rfl) (.inr rfl) (cC (us:=[word,bad].map .str) (aa (au rfl) (aa (ah rfl) af)) trivial (ak (eT rfl) (ak ay aB)) (by change 2<=b6;lia)) (.inl rfl) ai) (aa (gm (au rfl) (.inr rfl) (w2 _ rfl) (.inl rfl) ai) af))) trivial (ak ay (ak ay (ak ay aB))) (by change 3<=b6;lia)) aV
  (az (bb (ax rfl) (cC (us:=m.map tU) (aa (cR (us:=[.str "put",.str word,.lst (nine.map .str),.int 0]) (aa ai (aa (au rfl) (aa (ax rfl) (aa ai af)))) ∅ (ak ay (ak (eT rfl) (ak (vQ rfl) (ak ay aB)))) (by change 4<=b6;lia)) (aa (gm (ah rfl) (.inl rfl) (H _ rfl) (.inl rfl) ai) (aa (gm (ts:=nine) (au rfl) (.inr rfl) (ah rfl) (.inr rfl) ai) af))) trivial (ak ay (ak ay (ak ay aB))) (by change 3<=b6;lia)) ∅ (fC (xs:=j.map tU) (ys:=m.map tU) (by change 3+3<=b6;lia) rfl rfl)) aV
  (az (vV (.inr rfl) rfl) aV
  (az (bb (ax rfl) (cC (us:=q.map tU) (aa (gm (au rfl) (.inr rfl) (w2 _ rfl) (.inl rfl) ai) (aa (gm (w:=a) (Df (ds:=ds) (rows:=rows) (names:=names) (bad:=bad) (word:=word) (T:=j++m) (o9:=bD) (o10:=bD) (i:=0) (by rw[Kw];rfl)) (.inl rfl) (H _ rfl) (.inl rfl) ai) af)) trivial (ak ay (ak ay aB)) (by change 2<=b6;lia)) ∅ (fC (xs:=(j++m).map tU) (ys:=q.map tU) (by change 6+2<=b6;lia) rfl rfl)) aV (dY G (dY Wb (az V' a9 (bp ge jG))))))))))))]
end
end K
namespace TM
open PySem L2 J2
def GG(xs:List α)(x:α):cut (xs++[x]) bD (a5 (-1))=xs:=by
 have e:HT.JS (xs++[x]).length (xs++[x]).length (a5 (-1))=xs.length:=by
  unfold HT.JS;simp;lia
 unfold cut;rw[e];change((xs++[x]).drop 0).take (xs.length - 0)=_;rw[Xw,į,ö rfl]
def AU:gH (k,.lst (rs.map JD)) lo hi=a5 (.own,.lst ((cut rs lo hi).map JD)):=by
 simp only[gH];rw[Ŕ (by simp[eB,cX]),jJ]
end TM
namespace K
open PySem L2 TM J2 Od KL
section
structure SH(Γ:Tab):Prop where
 bk:∀rs p,Γ "Shelf.book" [JL rs p]=a5 (.ok (.loc,.tup [tb rs,JL rs p]))
 ln:∀rs p,Bk rs->Γ "Shelf.learnt_now" [JL rs p]=a5 (.ok (.own,.tup [.lst ((lw rs).map .str),JL rs p]))
 de:∀rs (p:List (List Row)),Γ "Shelf.deeds" [JL rs p]=a5 (.ok (.loc,.tup [.int (p.length:Nat),JL rs p]))
 put:∀rs (x:Row) p,Bk rs->Rw x->cO x=a8->(∀s∈rs,keyOf s≠keyOf x)->rs.length<60->p.length<=100->Γ "Shelf.put" [JL rs p,.str x.1,.lst (x.2.map .str)]=a5 (.ok (.loc,.tup [Ll rs (rs++[x]),JL (rs++[x]) (p++[rs])]))
 XF:∀(a b:List Row) (x:Row) p,Bk (a++x::b)->Bk (a++b)->(∀y∈a,keyOf y≠keyOf x)->p.length<=100->Γ "Shelf.take" [JL (a++x::b) p,.str x.1,.lst (x.2.map .str)]=a5 (.ok (.loc,.tup [Ll (a++x::b) (a++b),JL (a++b) (p++[a++x::b])]))
 Qw:∀rs L8 p,Bk rs->Bk L8->Γ "Shelf.back" [JL rs (p++[L8])]=a5 (.ok (.loc,.tup [Ll rs L8,JL L8 p]))
 ref:∀rs p (t:Try),Bk rs->Rf rs t->DR Γ rs p t.1 t.2.1.1 t.2.1.2 t.2.2
 pY:DR Γ [] [] "back" "" [] 3
 Wc:∀a b,Bk a->Bk b->Γ "_law_turn" [lb a,lb b]=a5 (.ok (.loc,Ll a b))
def RB.bk(h:RB names rows)(hl:rows.length<=60):Bk rows:=#[λr a=>(h.ok r a).fit,hl]
def Bk.snoc(h:Bk rows)(a:cO r=a8)(hl:rows.length<60):Bk (rows++[r]):=#[λx b=>(f6.mp b).elim (h.ok x) λz=>by rw[hY.mp z];show a,by simp;lia]
def Bk.sub(h:Bk rows)(hs:∀x∈a,x∈rows)(hl:a.length<=60):Bk a:=#[λx b=>h.ok x (hs x b),hl]
abbrev J8(rows:List Row):List (List Row):=(dV rows.length).map λi=>rows.take i
def nE(rows:List Row)(r:Row):J8 (rows++[r])=J8 rows++[rows]:=by
 unfold J8;rw[hH,JY,ø,kj];congr 1
 .show tA λi hi=>?_;rw[List.take_append_of_le_length (by have:=p7.mp hi;lia)]
 .simp
def lE(rows:List Row):(J8 rows).length=rows.length:=by simp[J8]
def Dh(K:List Str):gl K K=[]:=LS.mpr λx a=>by simp[a]
def Di(d:Bk rows)(f:∀r∈rows,r.1≠x)(j:x≠y):lw (rows++[(y,[x])])=lw rows:=by
 have(L,_,e,sn,cl,_):=K.fW (Γ:=λ_ _=>bD) (λr c=>dH (d.ok r c)) d.ln;have g:x∉L:=λh=>by
  have:=sn (λz=>∃r∈rows,r.1=z) (λr c _=>#[r,c,rfl]) x h;have(r,a,b):=this;show f r a b
 rw[vS #[e,sn,cl]];show vS #[e,λC i z hz=>sn C (λr c=>i r (Po _ c)) z hz,λr c hz=>?_];rcases f6.mp c with h|h
 .show cl r h hz
 .rw[hY.mp h]at hz;show absurd (hz x (by simp)) g
def AV(a:Bk rows)(b:∀r∈rows,r.1≠x)(c:x≠y):Ll rows (rows++[(y,[x])])=.tup [.lst [],.lst []]:=by
 unfold Ll;rw[Di a b c,Dh];rfl
theorem nF(n:Nat):∀ss:List Str,bV (n+1) (ss.map U.str)=a8
 |[]=>by simp[bV]
 |s::ss=>by rw[d6,bV,nF n ss];simp[J4]
def AW(a b:List Row):J4 50 (Ll a b)=a8:=by
 unfold Ll;simp[J4,bV];show#[nF 47 _,nF 47 _]
abbrev RS(rows:List Row)(k:Nat)(sps:List Str)(a:List Row)(past:List (List Row))(o4 o5 o6:Option (Kd×U)):aw :=
 [a5 (.A',JL a past),a5 (.any,lb rows),a5 (.loc,.int (k:Nat)),a5 (.any,.lst (sps.map .str)),o4,o5,o6]
def AX(H:SH Γ)(d:Run (aT Γ es) (RS rows k sps a past o4 o5 o6) rs (RS rows k sps a past o4 o5 o6))(hs:a_ rs (RS rows k sps a past o4 o5 o6))(e:Γ f (JL a past::rs.map (·.2))=a5 (.ok (.loc,.tup [Ll a b,JL b c])))
  (g:Run (ev Γ ea) (RS rows k sps b c o4 o5 o6) (ka,lb a) (RS rows k sps b c o4 o5 o6)) (h:Run (ev Γ eb) (RS rows k sps b c o4 o5 o6) (kb,lb b) (RS rows k sps b c o4 o5 o6)) (i:a_ [(ka,lb a),(kb,lb b)] (RS rows k sps b c o4 o5 o6)) (b1:Bk a) (j:Bk b) :
  Run (JP Γ (.cmp .ne (.Kl f m 0 es) (.call "_law_turn" [ea,eb]))) (RS rows k sps a past o4 o5 o6) bL (RS rows k sps b c o4 o5 o6) :=
 aU (eM (u:=tb a) (us:=JR past) (u0:=tb a) (us0:=JR past) (u':=tb b) (us':=JR c) rfl d hs rfl e (.inr rfl)) (aP (aa g (aa h af)) i (H.Wc a b b1 j)) trivial (kr (AW a b))
def DV(H:SH Γ)(b1:Bk a)(b:Rf a t)(d:Run (aT Γ es) (RS rows k sps a past o4 o5 o6) rs (RS rows k sps a past o4 o5 o6))(hs:a_ rs (RS rows k sps a past o4 o5 o6))(e:rs.map (·.2)=[.str t.1,.str t.2.1.1,.lst (t.2.1.2.map .str),.int (t.2.2:Nat)]):
  Run (JP Γ (.not (.Ku "_law_refused" 0 [] es))) (RS rows k sps a past o4 o5 o6) bL (RS rows k sps a past o4 o5 o6):=by
 have f:=H.ref a past t b1 b;show mQ (c:=a8) (qp (r1:=[]) (r2:=rs) (u0:=tb a) (us0:=JR past) (u:=tb a) (us:=JR past) (u':=tb a) (us':=JR past) rfl af d hs rfl ?_ (.inr rfl) (ki _));change Γ "_law_refused" (.ob (tb a) (JR past)::(([]:List (Kd×U))++rs).map (·.2))=_;rw[ko,e];show f
def GH(a:Run (ev Γ ea) st (kb,lb rows) st)(hk:isAny kb=bL)(b:Run (ev Γ eb) st (.loc,JD r) st)(hs:a_ [(kb,lb rows)] st)(hl:rows.length<=100):Run (ev Γ (.bin .add ea (.lst [eb]))) st (.own,lb (rows++[r])) st:=by
 have hsz:(1000:Nat)<=b6:=by decide
 have e:=fC (k:=kb) (k':=.own) (xs:=rows.map JD) (ys:=[JD r]) (by simp;lia) (by simp[eB,hk]) rfl;rw[show rows.map JD++[JD r]=(rows++[r]).map JD by simp]at e;show bb a (cC (us:=[JD r]) (aa b af) trivial (ak ay aB) (by change 1<=b6;lia)) ?_ e;cases kb<;>simp_all[a_]
def AY(H:SH Γ)(q:RB names rows)(B:rows.length=60)(hk:k<60)(L:N1 names x)(G:N1 names y)(O6:x≠y):
  dP Γ bU 0 (bU.body.drop 1) [JL rows (J8 rows),lb rows,.int (k:Nat),.lst ((x::y::l).map .str)]=a5 (.ok (.loc,.tup [.bl a8,JL rows (J8 rows)])):=by
 have hsz:(2000:Nat)<=b6:=by decide
 obtain⟨u,hu⟩:∃u,rows[k]?=a5 u:=#[rows[k]'⋯,by simp[B,hk]]
 obtain⟨a,ha⟩:∃a,rows.take k=a:=#[_,rfl]
 obtain⟨b,hb⟩:∃b,rows.drop (k+1)=b:=#[_,rfl]
 have Q:rows=a++u::b:=by
  have(KC,e):=cL.mp hu;rw[<-ha,<-hb,<-e,<-Mw,TL]
 obtain⟨d,v,C⟩:∃d v,rows=d++[v]:=by
  rcases List.eq_nil_or_concat rows with h|⟨f,v,h⟩
  .rw[h]at B;simp at B
  .show#[f,v,by rw[h,List.concat_eq_append]]
 have hp:J8 rows=J8 d++[d]:=by rw[C,nE]
 have VY:d.length=59:=by rw[C]at B;simpa using B
 have Qx:(a++b).length=59:=by rw[Q]at B;simp at B ⊢;lia
 have KG:(J8 d++[d]).length=60:=by rw[<-hp,lE,B]
 have sl:∀s∈a++b,s∈rows:=λs hs=>by rw[Q];rcases f6.mp hs with h|h<;>simp[h]
 have sf:∀s∈d,s∈rows:=λs hs=>by rw[C];simp[hs]
 have T:v∈rows:=by rw[C];simp
 have ka:∀s∈a,keyOf s≠keyOf u:=λs hs e=>by
  have:=q.ky;rw[Q,kj,d6,nc]at this;show this.2.2 _ (ku.mpr #[s,hs,rfl]) _ gs e
 have kv:∀s∈d,keyOf s≠keyOf v:=λs hs e=>by
  have:=q.ky;rw[C,kj,nc]at this;show this.2.2 _ (ku.mpr #[s,hs,rfl]) _ (by simp) e
 have w:Bk rows:=q.bk ⋯;have A:Bk (a++b):=w.sub sl ⋯;have D:Bk d:=w.sub sf ⋯;obtain⟨t,N⟩:∃t:Row,(x,[])=t:=#[_,rfl]
 obtain⟨r1,O⟩:∃r1:Row,(y,[x])=r1:=#[_,rfl]
 have w0:Rw t:=by rw[<-N];show xM L.ln (by simp) (by simp)
 have w1:Rw r1:=by rw[<-O];show AS G.ln L.ln
 have f0:cO t=a8:=by rw[<-N];show nB (by simp) (by simp) L.wd (by simp)
 have f1:cO r1=a8:=by rw[<-O];show nB (by simp) (by simp) G.wd (by simp[L.wd])
 have n0:∀s∈a++b,keyOf s≠keyOf t:=λs hs=>by rw[<-N];show eU q L s (sl s hs)
 have n1:∀s∈d,keyOf s≠keyOf r1:=λs hs=>by rw[<-O];show eU q G s (sf s hs)
 have Y:Bk (a++b++[t]):=A.snoc f0 ⋯;have XG:Bk (d++[r1]):=D.snoc f1 ⋯;have ab:Rf (a++b++[t]) ("put",(y,[]),1):=Rf.ma (xM G.ln (by simp) (by simp)) (nB (by simp) (by simp) G.wd (by simp)) (λs hs e=>by
  rcases f6.mp hs with h|h
  .show eU q G s (sl s h) e
  .rw[hY.mp h,<-N]at e;show O6 (lD e)) (by rw[hH,Qx];rfl)
 have ac:Rf (d++[r1]) ("put",v,1):=Rf.ma (q.ok v T).rw (q.ok v T).fit (λs hs e=>by
  rcases f6.mp hs with h|h
  .show kv s h e
  .rw[hY.mp h,<-O]at e;show eU q G v T e.symm) (by rw[hH,VY];rfl)
 let sps:List Str:=x::y::l;let i:List (List Row):=J8 d++[d];have e1:=H.XF a b u i (Q▸w) A ka (by change(J8 d++[d]).length<=100;lia);rw[<-Q]at e1;have e2:=H.put (a++b) t (i++[rows]) A w0 f0 n0 ⋯ (by rw[hH];change(J8 d++[d]).length+1<=100;lia);have e4:=H.Qw (a++b++[t]) (a++b) (i++[rows]) Y A;have e5:=H.Qw (a++b) rows i A w;have e6:=H.Qw rows d (J8 d) w D;have XH:(J8 d).length<=100:=by rw[lE];lia
 have e7:=H.put d r1 (J8 d) D w1 f1 n1 ⋯ XH;have eg:Ll d (d++[r1])=.tup [.lst [],.lst []]:=by rw[<-O];show AV D (λr hr e=>eU (ts:=r.2) q L r (sf r hr) (by rw[<-e])) O6
 rw[eg]at e7;have e8:=H.Qw (d++[r1]) d (J8 d) XG D;have e9:=H.put d v (J8 d) D (q.ok v T).rw (q.ok v T).fit kv ⋯ XH;rw[<-C]at e9;have JI:bh 0 [JL rows i,lb rows,.int (k:Nat),.lst (sps.map .str)] 7=RS rows k sps rows i bD bD bD:=by simp[bh,JW,lb,RS]
 have s1:=AU (k:=.any) (rs:=rows) (lo:=bD) (hi:=a5 (k:Int));rw[qx,ha]at s1;have s2:=AU (k:=.any) (rs:=rows) (lo:=a5 ((k+1:Nat):Int)) (hi:=bD);rw[g_,hb]at s2;have s3:=fC (k:=.own) (k':=.own) (xs:=a.map JD) (ys:=b.map JD) (by rw[hH]at Qx;rw[b8,b8];lia) rfl rfl;rw[<-kj]at s3;let g:Option (Kd×U):=a5 (.own,lb (a++b));have al:J_ (rows.map JD) (k:Int)=a5 (JD u):=bH (by rw[n9,hu];rfl);have gu:Run (ev Γ (.idx (.var 1) (.var 2))) (RS rows k sps rows i g bD bD) (.any,JD u) (RS rows k sps rows i g bD bD):=aQ (x:=(.any,lb rows)) (au rfl) (ah rfl) trivial (aD al);have t1:=AX (m:="take") (es:=[.idx (.idx (.var 1) (.var 2)) (.cst (.int 0)),.bi .list [.idx (.idx (.var 1) (.var 2)) (.cst (.int 1))]]) (ea:=.var 1) (eb:=.var 4) (ka:=.any) (kb:=.bor 4) (o4:=g) (o5:=bD) (o6:=bD) (rs:=[(.any,.str u.1),(.own,.lst (u.2.map .str))]) H (aa (aQ (x:=(.any,JD u)) gu ai trivial rfl) (aa (cA (aa (aQ (x:=(.any,JD u)) (r:=(.any,.tup (u.2.map .str))) gu ai trivial rfl) af) trivial jO) af)) trivial e1 (au rfl) (ax rfl) ∅ w A;have gx:∀(c:List Row) (p:List (List Row)) (I J:Option (Kd×U)),Run (ev Γ (.idx (.var 3) (.cst (.int 0)))) (RS rows k sps c p g I J) (.any,.str x) (RS rows k sps c p g I J):=λc p I J=>aQ (x:=(.any,.lst (sps.map .str))) (au rfl) ai trivial (aD (bH (j:=0) rfl));have gy:∀(c:List Row) (p:List (List Row)) (I J:Option (Kd×U)),Run (ev Γ (.idx (.var 3) (.cst (.int 1)))) (RS rows k sps c p g I J) (.any,.str y) (RS rows k sps c p g I J):=λc p I J=>aQ (x:=(.any,.lst (sps.map .str))) (au rfl) ai trivial (aD (bH (j:=1) rfl));have g0:∀(c:List Row) (p:List (List Row)),Run (ev Γ (.bin .add (.var 4) (.lst [.tup [.idx (.var 3) (.cst (.int 0)),.tup []]]))) (RS rows k sps c p g bD bD) (.own,lb (a++b++[t])) (RS rows k sps c p g bD bD):=λc p =>
  GH (ax rfl) rfl (by
   rw[<-N];show cR (us:=[.str x,.tup []]) (aa (gx c p bD bD) (aa (cR (rs:=[]) (us:=[]) af trivial aB (ki _)) af)) trivial (ak (eT rfl) (ak ay aB)) (by change 2<=b6;lia)) ∅ ⋯
 have t2:=AX (m:="put") (es:=[.idx (.var 3) (.cst (.int 0)),.lst []]) (ea:=.var 4) (ka:=.bor 4) (kb:=.own) (o4:=g) (o5:=bD) (o6:=bD) (rs:=[(.any,.str t.1),(.own,.lst (t.2.map .str))]) H (by rw[<-N];show aa (gx (a++b) (i++[rows]) bD bD) (aa dm af)) trivial e2 (ax rfl) (g0 _ _) ∅ A Y;have t3:=DV (es:=[.cst (.str "put"),.idx (.var 3) (.cst (.int 1)),.lst [],.cst (.int 1)]) (rows:=rows) (k:=k) (sps:=sps) (past:=i++[rows]++[a++b]) (o4:=g) (o5:=bD) (o6:=bD) (rs:=[(.loc,.str "put"),(.any,.str y),(.own,.lst []),(.loc,.int 1)]) H Y ab (aa ai (aa (gy _ _ bD bD) (aa dm (aa ai af)))) trivial rfl;have t4:=AX (m:="back") (eb:=.var 4) (ka:=.own) (kb:=.bor 4) (o4:=g) (o5:=bD) (o6:=bD) (rs:=[]) (rows:=rows) (k:=k) (sps:=sps) H af trivial e4 (g0 _ _) (ax rfl) ∅ Y A;have t5:=AX (m:="back") (ea:=.var 4) (eb:=.var 1) (ka:=.bor 4) (kb:=.any) (o4:=g) (o5:=bD) (o6:=bD) (rs:=[]) (rows:=rows) (k:=k) (sps:=sps) H af trivial e5 (ax rfl) (au rfl) ∅ A w;let n:Option (Kd×U):=a5 (.any,.str v.1);let o:Option (Kd×U):=a5 (.any,.tup (v.2.map .str));have Pp:J_ (rows.map JD) (-1)=a5 (JD v):=by rw[C,kj];show Dd _ _
 have gv:Run (ev Γ (.idx (.var 1) (.neg (.cst (.int 1))))) (RS rows k sps rows i g bD bD) (.any,JD v) (RS rows k sps rows i g bD bD):=aQ (x:=(.any,lb rows)) (au rfl) (DJ ai rfl) trivial (aD Pp);have gf:∀(c:List Row) (p:List (List Row)),Run (ev Γ (.K_ (.var 1) [] [.neg (.cst (.int 1))])) (RS rows k sps c p g n o) (.own,lb d) (RS rows k sps c p g n o):=λc p=>by
  have s1:=AU (k:=.any) (rs:=rows) (lo:=bD) (hi:=a5 (-1));rw[show cut rows bD (a5 (-1))=d by rw[C];show GG _ _]at s1;show gS (au rfl) gQ (gR (DJ ai rfl)) trivial s1
 have t6:=AX (m:="back") (ea:=.var 1) (ka:=.any) (kb:=.own) (o4:=g) (o5:=n) (o6:=o) (rs:=[]) (rows:=rows) (k:=k) (sps:=sps) H af trivial e6 (au rfl) (gf _ _) trivial w D;have t7:Run (JP Γ (.cmp .ne (.Kl "Shelf.put" "put" 0 [.idx (.var 3) (.cst (.int 1)),.lst [.idx (.var 3) (.cst (.int 0))]]) (.tup [.lst [],.lst []]))) (RS rows k sps d (J8 d) g n o) bL (RS rows k sps (d++[r1]) i g n o) :=
  aU (eM (rs:=[(.any,.str r1.1),(.own,.lst (r1.2.map .str))]) (u0:=tb d) (us0:=JR (J8 d)) (u:=tb d) (us:=JR (J8 d)) (u':=tb (d++[r1])) (us':=JR i) rfl (by rw[<-O];show aa (gy _ _ n o) (aa (rY (ws:=[x]) (aa (gx _ _ n o) af) (by simp)) af)) trivial rfl e7 (.inr rfl))
   (cR (us:=[.lst [],.lst []]) (aa dm (aa dm af)) trivial (ak iM (ak iM aB)) (by change 2<=b6;lia)) trivial (kr rfl)
 have XI:∀(c:List Row) (p:List (List Row)),Run (ev Γ (.bi .list [.var 6])) (RS rows k sps c p g n o) (.own,.lst (v.2.map .str)) (RS rows k sps c p g n o):=λc p=>cA (aa (au rfl) af) trivial jO;have t8:=DV (es:=[.cst (.str "put"),.var 5,.bi .list [.var 6],.cst (.int 1)]) (rows:=rows) (k:=k) (sps:=sps) (past:=i) (o4:=g) (o5:=n) (o6:=o) (rs:=[(.loc,.str "put"),(.any,.str v.1),(.own,.lst (v.2.map .str)),(.loc,.int 1)]) H XG ac (aa ai (aa (au rfl) (aa (XI _ _) (aa ai af)))) trivial rfl;have g8:Run (ev Γ (.Kl "Shelf.back" "back" 0 [])) (RS rows k sps (d++[r1]) i g n o) (.loc,Ll (d++[r1]) d) (RS rows k sps d (J8 d) g n o):=eM (rs:=[]) (u0:=tb (d++[r1])) (us0:=JR i) (u:=tb (d++[r1])) (us:=JR i) rfl af trivial rfl e8 (.inr rfl);have g9:Run (ev Γ (.cmp .eq (.Kl "Shelf.put" "put" 0 [.var 5,.bi .list [.var 6]]) (.call "_law_turn" [.K_ (.var 1) [] [.neg (.cst (.int 1))],.var 1]))) (RS rows k sps d (J8 d) g n o) (.loc,.bl a8) (RS rows k sps rows i g n o) :=
  f_ (eM (rs:=[(.any,.str v.1),(.own,.lst (v.2.map .str))]) (u0:=tb d) (us0:=JR (J8 d)) (u:=tb d) (us:=JR (J8 d)) (u':=tb rows) (us':=JR i) rfl (aa (au rfl) (aa (XI _ _) af)) trivial rfl e9 (.inr rfl))
   (aP (aa (gf rows i) (aa (au rfl) af)) trivial (H.Wc d rows D w)) trivial (uH (AW d rows))
 rw[hp];show bJ (p:=0) (st:=RS rows k sps rows i g n o) #[rfl,by decide] JI (az (bb (gS (au rfl) gQ (gR (ah rfl)) trivial s1) (gS (au rfl) (gR (bb (ah rfl) ai trivial dr)) gQ trivial s2) trivial s3) aV (bT t1 (λz=>by cases z) λ_=>bT t2 (λz=>by cases z) λ_=>bT t3 (λz=>by cases z) λ_=>bT (ug (rB t4 (mR t5))) (λz=>by cases z) λ_ =>
  Gj gv (m8 (.inr rfl)) (bT t6 (λz=>by cases z) λ_=>bT (ug (rB t7 (mR t8))) (λz=>by cases z) λ_=>AE g8 (bp g9 cw)))) rfl rfl
end
section
variable{Γ:Tab}{names:List Str}{rows G' cur:List Row}{past:List (List Row)}{r s:Row}{n:Nat}{ns ds:List Int}
abbrev LW(ns ds:List Int)(names:List Str)(rows cur:List Row)(past:List (List Row))(o5 o6 o7 o8 o9 o10 o11 o12:Option (Kd×U)):aw :=
 [a5 (.any,.lst (ns.map .int)),a5 (.own,.lst (ds.map .int)),a5 (.own,.lst (names.map .str)),a5 (.A',JL cur past),a5 (.own,lb rows),o5,o6,o7,o8,o9,o10,o11,o12]
variable{o5 o6 o7 o8 o9 o10 o11 o12:Option (Kd×U)}
def GI:Run (dz a8 [8,5,6,9] (.loc,tU t)) st () ((((st.set 8 (a5 (.loc,.str t.1))).set 5 (a5 (.loc,.str t.2.1.1))).set 6 (a5 (.loc,.lst (t.2.1.2.map .str)))).set 9 (a5 (.loc,.int (t.2.2:Nat)))):=rfl
def Dj{ss:List Str}:KP .list [(k,.lst (ss.map .str))]=a5 (.own,.lst (ss.map .str)):=by
 change(if eB k (ss.map U.str)=a8 then _ else _)=_;rw[Ŕ (uI k ss)]
abbrev M1(cur:List Row)(past:List (List Row)):U:=.lst [tb cur,.lst ((lw cur).map .str),.int (past.length:Nat)]
def GJ:J4 50 (M1 cur past)=a8:=by
 unfold M1;rw[J4,bV,qw 46,bV,J4,nF 47,bV,bV];rfl
def AZ(H:SH Γ)(b:Bk cur):Run (ev Γ (.lst [.Kl "Shelf.book" "book" 3 [],.Kl "Shelf.learnt_now" "learnt_now" 3 [],.Kl "Shelf.deeds" "deeds" 3 []])) (LW ns ds names rows cur past o5 o6 o7 o8 o9 o10 o11 o12) (.own,M1 cur past) (LW ns ds names rows cur past o5 o6 o7 o8 o9 o10 o11 o12):=by
 have hsz:(100:Nat)<=b6:=by decide
 show cC (us:=[tb cur,.lst ((lw cur).map .str),.int (past.length:Nat)]) (aa (eM (rs:=[]) (u0:=tb cur) (us0:=JR past) (u:=tb cur) (us:=JR past) (u':=tb cur) (us':=JR past) rfl af trivial rfl (H.bk cur past) (.inr rfl)) (aa (eM (rs:=[]) (u0:=tb cur) (us0:=JR past) (u:=tb cur) (us:=JR past) (u':=tb cur) (us':=JR past) rfl af trivial rfl (H.ln cur past b) (.inl rfl)) (aa (eM (rs:=[]) (u0:=tb cur) (us0:=JR past) (u:=tb cur) (us:=JR past) (u':=tb cur) (us':=JR past) rfl af trivial rfl (H.de cur past) (.inr rfl)) af))) trivial (ak ay (ak iM (ak ay aB))) (by change 3<=b6;lia)
def A0(H:SH Γ)(b:Bk cur):Run (JP Γ (.cmp .ne (.lst [.Kl "Shelf.book" "book" 3 [],.Kl "Shelf.learnt_now" "learnt_now" 3 [],.Kl "Shelf.deeds" "deeds" 3 []]) (.var 7))) (LW ns ds names rows cur past o5 o6 (a5 (.own,M1 cur past)) o8 o9 o10 o11 o12) bL (LW ns ds names rows cur past o5 o6 (a5 (.own,M1 cur past)) o8 o9 o10 o11 o12) :=
 aU (AZ H b) (ax rfl) ∅ (kr GJ)
def GK(H:SH Γ):Run (ev Γ (.Ku "_law_refused" 3 [] [.cst (.str "back"),.cst (.str ""),.lst [],.cst (.int 3)])) (LW ns ds names rows [] [] o5 o6 o7 o8 o9 o10 o11 o12) (.loc,.bl a8) (LW ns ds names rows [] [] o5 o6 o7 o8 o9 o10 o11 o12) :=
 Gp (es:=[]) (r1:=[]) (r2:=[(.loc,.str "back"),(.loc,.str ""),(.own,.lst []),(.loc,.int 3)]) (u0:=tb []) (us0:=JR []) (u:=tb []) (us:=JR []) (u':=tb []) (us':=JR []) rfl af (aa ai (aa ai (aa dm (aa ai af)))) trivial rfl H.pY (.inr rfl) (ki _)
abbrev XJ:List TM.S:=match nq.body.getD 5 .bad with|.JZ _ _ _ _ b=>b|_=>[]
abbrev XM:List TM.S:=match nq.body.getD 8 .bad with|.JZ _ _ _ _ b=>b|_=>[]
abbrev XN:List TM.S:=match nq.body.getD 12 .bad with|.JZ _ _ _ _ b=>b|_=>[]
def Dk(H:SH Γ)(f:RB names rows)(hl:rows.length<=60):∃a b,Run (forM a8 [5,6] (execs Γ XJ) [(.bor 4,lb rows)] (rows.map λr=>(Kd.loc,JD r))) (LW ns ds names rows [] [] bD bD o7 o8 o9 o10 o11 o12) .nx (LW ns ds names rows rows (J8 rows) a b o7 o8 o9 o10 o11 o12):=by
 have(st',h,_,a,b,e):=dE (t:=a8) (is:=[5,6]) (body:=execs Γ XJ) (rs:=[(.bor 4,lb rows)]) (λr:Row=>(Kd.loc,JD r))
  (λd r st=>d++r=rows/\∃a b,st=LW ns ds names rows d (J8 d) a b o7 o8 o9 o10 o11 o12) (λd r st ⟨_,a,b,e⟩=>by subst e;show∅) (λd x r st i=>by
   have(c,a,b,e):=i;subst e;have g:x∈rows:=by rw[<-c];simp
   have j:=Ś vr c;simp at j;have k:Bk d:=(f.bk hl).sub (λs hs=>by rw[<-c];simp[hs]) ⋯;have l:∀s∈d,keyOf s≠keyOf x:=λs hs e=>by
    have:=f.ky;rw[<-c,kj,d6,nc]at this;show this.2.2 _ (ku.mpr #[s,hs,rfl]) _ gs e
   have e:=H.put d x (J8 d) k (f.ok x g).rw (f.ok x g).fit l ⋯ (by rw[lE];lia);show#[_,LW ns ds names rows (d++[x]) (J8 d++[d]) (a5 (.loc,.str x.1)) (a5 (.loc,.tup (x.2.map .str))) o7 o8 o9 o10 o11 o12,m8 (.inl rfl),AE (eM (rs:=[(.loc,.str x.1),(.own,.lst (x.2.map .str))]) (u0:=tb d) (us0:=JR (J8 d)) (u:=tb d) (us:=JR (J8 d)) rfl (aa (ah rfl) (aa (cA (aa (ah rfl) af) trivial jO) af)) trivial rfl e (.inr rfl)) aS,by rw[<-c];simp,_,_,by rw[nE]]) rows [] (LW ns ds names rows [] [] bD bD o7 o8 o9 o10 o11 o12) ⟨rfl,bD,bD,rfl⟩
 subst e;show#[a,b,h]
def Dl{T:List Try}(H:SH Γ)(b:Bk cur)(p:∀t∈T,Rf cur t)(hl:T.length<=20):∃j k l q9 q10,Run (forM a8 [8,5,6,9] (execs Γ XM) [(.own,.lst (T.map tU))] (T.map λt=>(Kd.loc,tU t))) (LW ns ds names rows cur past o5 o6 (a5 (.own,M1 cur past)) o8 o9 o10 o11 o12) .nx (LW ns ds names rows cur past j k (a5 (.own,M1 cur past)) l q9 q10 o11 o12):=by
 have(st',q,_,j,k,l,q9,q10,e):=dE (t:=a8) (is:=[8,5,6,9]) (body:=execs Γ XM) (rs:=[(.own,.lst (T.map tU))]) (λt:Try=>(Kd.loc,tU t))
  (λd r st=>d++r=T/\∃j k l q9 q10,st=LW ns ds names rows cur past j k (a5 (.own,M1 cur past)) l q9 q10 o11 o12) (λ_ _ _ _=>trivial) (λd t r st v=>by
   have(o,j,k,l,q9,q10,e):=v;subst e;have w:t∈T:=by rw[<-o];simp
   let a:Option (Kd×U):=a5 (.loc,.str t.2.1.1);let f:Option (Kd×U):=a5 (.loc,.lst (t.2.1.2.map .str));let g:Option (Kd×U):=a5 (.loc,.str t.1);let h:Option (Kd×U):=a5 (.loc,.int (t.2.2:Nat));let m:Option (Kd×U):=a5 (.own,.lst (t.2.1.2.map .str));let i:Option (Kd×U):=a5 (.own,M1 cur past);have A:Run (ev Γ (.bi .list [.var 6])) (LW ns ds names rows cur past a f i g h q10 o11 o12) (.own,.lst (t.2.1.2.map .str)) (LW ns ds names rows cur past a f i g h q10 o11 o12):=cA (aa (ah rfl) af) trivial Dj;have B:Run (JP Γ (.not (.Ku "_law_refused" 3 [] [.var 8,.var 5,.var 10,.var 9]))) (LW ns ds names rows cur past a f i g h m o11 o12) bL (LW ns ds names rows cur past a f i g h m o11 o12) :=
    mQ (c:=a8) (qp (r1:=[]) (r2:=[(.loc,.str t.1),(.loc,.str t.2.1.1),(.bor 10,.lst (t.2.1.2.map .str)),(.loc,.int (t.2.2:Nat))]) (u0:=tb cur) (us0:=JR past) (u:=tb cur) (us:=JR past) (u':=tb cur) (us':=JR past) rfl af (aa (ah rfl) (aa (ah rfl) (aa (ax rfl) (aa (ah rfl) af)))) ∅ rfl (H.ref cur past t b (p t w)) (.inr rfl) (ki _))
   have C:Run (JP Γ (.cmp .ne (.var 10) (.var 6))) (LW ns ds names rows cur past a f i g h m o11 o12) bL (LW ns ds names rows cur past a f i g h m o11 o12):=aU (x:=(.bor 10,.lst (t.2.1.2.map .str))) (y:=(.loc,.lst (t.2.1.2.map .str))) (ax rfl) (ah rfl) ∅ (kr (by rw[J4];show nF 48 _));show#[LW ns ds names rows cur past a f i g h q10 o11 o12,LW ns ds names rows cur past a f i g h m o11 o12,show Run (dz a8 [8,5,6,9] (.loc,tU t)) _ _ _ from GI,az A aV (bT (ug (rB B (mR C))) (λz=>by cases z) λ_=>bT (A0 H b) (λz=>by cases z) λ_=>aS),by rw[<-o];simp,_,_,_,_,_,rfl]) T [] (LW ns ds names rows cur past o5 o6 (a5 (.own,M1 cur past)) o8 o9 o10 o11 o12) ⟨rfl,_,_,_,_,_,rfl⟩
 subst e;show#[j,k,l,q9,q10,q]
def A1(H:SH Γ)(b:Bk rows):∃a,Run (forM bL [12] (execs Γ XN) [(.loc,.int (rows.length:Nat))] ((dV rows.length).map λi:Nat=>(Kd.loc,U.int (0+(i:Int))))) (LW ns ds names rows rows (J8 rows) o5 o6 o7 o8 o9 o10 o11 bD) .nx (LW ns ds names rows [] [] o5 o6 o7 o8 o9 o10 o11 a):=by
 have hl:=b.ln;have(st',f,_,a,e):=dE (t:=bL) (is:=[12]) (body:=execs Γ XN) (rs:=[(.loc,.int (rows.length:Nat))]) (λi:Nat=>(Kd.loc,U.int (0+(i:Int))))
  (λd r st=>d++r=dV rows.length/\∃a,st=LW ns ds names rows (rows.take (rows.length - d.length)) (J8 (rows.take (rows.length - d.length))) o5 o6 o7 o8 o9 o10 o11 a) (λ_ _ _ _=>trivial) (λd k r st j=>by
   have(g,a,e):=j;subst e;have l:=Ś vr g;simp at l;obtain⟨m,o⟩:∃m,rows.length - d.length=m+1:=#[rows.length - d.length - 1,⋯]
   have p:rows.length - (d++[k]).length=m:=by simp;lia
   have h:m<rows.length:=by lia
   rw[o,p,Vl h,nE];have b1:Bk (rows.take m):=b.sub (λx c=>Q5 c) (by simp;lia);have q:Bk (rows.take m++[rows[m]]):=by
    rw[<-Vl h];show b.sub (λx c=>Q5 c) (by simp;lia)
   have e:=H.Qw (rows.take m++[rows[m]]) (rows.take m) (J8 (rows.take m)) q b1;show#[_,LW ns ds names rows (rows.take m) (J8 (rows.take m)) o5 o6 o7 o8 o9 o10 o11 (a5 (.loc,.int (0+(k:Int)))),fc a9,AE (eM (rs:=[]) (u0:=tb (rows.take m++[rows[m]])) (us0:=JR (J8 (rows.take m)++[rows.take m])) (u:=tb (rows.take m++[rows[m]])) (us:=JR (J8 (rows.take m)++[rows.take m])) rfl af trivial rfl e (.inr rfl)) aS,by rw[<-g];simp,_,rfl]) (dV rows.length) [] (LW ns ds names rows rows (J8 rows) o5 o6 o7 o8 o9 o10 o11 bD) ⟨rfl,bD,by simp⟩
 subst e;rw[ko,Vu,İ]at f;show#[a,f]
def Dm(H:SH Γ)(hW:∀x∈names,cy x.cps.toList)(hn:0<names.length)(hN:names.length<=14)(Y:ds.length=9)(g:∀d∈ds,0<=d)(hc:Γ "_law_cell" [.lst (ns.map .int),.int 0]=a5 (.ok (.loc,.int z)))(J1:Γ "_law_drawn" [.int z,.int 9]=a5 (.ok (.own,.lst (ds.map .int))))
  (N0:Γ "_law_names" [.lst (ns.map .int),.int 1,.int (1+dd ds 0 % 14)]=a5 (.ok (.own,.lst (names.map .str))))
  (Ks:∀(m:Int) (f:Bool),0<=m->m<=40->∃rows:List Row,RB names rows/\rows.length<=60/\Γ "_law_rows" [.lst (ns.map .int),.lst (names.map .str),.int m,.bl f]=a5 (.ok (.own,lb rows)))
  (Wd:∀(rows:List Row) (es:List Int),RB names rows->rows.length<=60->5<=es.length->(∀d∈es,0<=d)->∃T:List Try,(∀t∈T,Rf rows t)/\T.length<=20/\Γ "_law_bad" [.lst (es.map .int),lb rows,.lst (names.map .str)]=a5 (.ok (.own,.lst (T.map tU))))
  (Mx:∀(rows:List Row) (k:Nat),RB names rows->rows.length=60->k<60->Γ "_law_room_again" [JL rows (J8 rows),lb rows,.int (k:Nat),.lst ((M0 names).map .str)]=a5 (.ok (.loc,.tup [.bl a8,JL rows (J8 rows)]))) :
  bX Γ nq [.lst (ns.map .int)]=a5 (.ok (.loc,.bl a8)):=by
 have hsz:(2000:Nat)<=b6:=by decide
 have l:∀i:Nat,i<9->J_ (ds.map U.int) (i:Int)=a5 (.int (dd ds i)):=λi hi=>bN (i:=i) ⋯;have(rows,o,hl,A):=Ks (dd ds 1 % 41) (dd ds 2 % 4==1) (by have:=cW g 1;lia) (by have:=cW g 1;lia);have b:Bk rows:=o.bk hl;have(T,WB,UH,B):=Wd rows (ds.drop 3) o hl (by simp[Y]) λd h=>g d (è _ _ h);let n0:Option (Kd×U):=a5 (.any,.lst (ns.map .int));have JI:TM.start [.lst (ns.map .int)] 13=[n0,bD,bD,bD,bD,bD,bD,bD,bD,bD,bD,bD,bD]:=rfl;have(N,O,We):=Dk (Γ:=Γ) (ns:=ns) (ds:=ds) (o7:=bD) (o8:=bD) (o9:=bD) (o10:=bD) (o11:=bD) (o12:=bD) H o hl;let v:Option (Kd×U):=a5 (.own,M1 rows (J8 rows));let w:aw:=LW ns ds names rows rows (J8 rows) N O v bD bD bD bD bD;have a:KP .len [(Kd.bor 4,lb rows)]=a5 (.loc,.int (rows.length:Nat)):=by
  have:=fR (k:=.bor 4) (xs:=rows.map JD);rw[b8]at this;show this
 have t7:Run (JP Γ (.or [.cmp .ne (.idx (.var 7) (.cst (.int 0))) (.bi .tuple [.var 4]),.cmp .ne (.idx (.var 7) (.cst (.int 2))) (.bi .len [.var 4])])) w bL w:=by
  show ug (rB (aU (x:=(.loc,tb rows)) (aQ (x:=(.bor 7,M1 rows (J8 rows))) (ax rfl) ai ∅ (aD (bH (j:=0) rfl))) (cA (r:=(.loc,tb rows)) (aa (ax rfl) af) ∅ rfl) trivial (kr (qw 47 rows)))
   (mR (aU (x:=(.loc,.int ((J8 rows).length:Nat))) (aQ (x:=(.bor 7,M1 rows (J8 rows))) (ax rfl) ai ∅ (aD (bH (j:=2) rfl))) (cA (aa (ax rfl) af) ∅ a) trivial ?_)))
  change bK .ne (.int ((J8 rows).length:Nat)) (.int (rows.length:Nat))=_;rw[lE];show kr rfl
 have gb:Run (aT Γ [.call "_law_bad" [.K_ (.var 1) [.cst (.int 3)] [],.var 4,.var 2]]) w [(.own,.lst (T.map tU))] w:=by
  have s1:=Ad (k:=.bor 1) (ds:=ds) (lo:=a5 ((3:Nat):Int)) (hi:=bD) rfl;rw[g_]at s1;show aa (aP (rs:=[(.own,.lst ((ds.drop 3).map .int)),(.bor 4,lb rows),(.bor 2,.lst (names.map .str))]) (aa (gS (ax rfl) (gR ai) gQ ∅ s1) (aa (ax rfl) (aa (ax rfl) af))) #[#[.own,rfl,rfl],#[.own,rfl,rfl],trivial] B) af
 have(C,D,G,I,J,Wf):=Dl (Γ:=Γ) (ns:=ns) (ds:=ds) (names:=names) (rows:=rows) (past:=J8 rows) (o5:=N) (o6:=O) (o8:=bD) (o9:=bD) (o10:=bD) (o11:=bD) (o12:=bD) H b WB UH;let Q:Option (Kd×U):=a5 (.own,.lst ((M0 names).map .str));let e:aw:=LW ns ds names rows rows (J8 rows) C D v G I J Q bD;have V_:Run (JP Γ (.and [.cmp .eq (.bi .len [.var 4]) (.cst (.int 60)),.not (.Ku "_law_room_again" 3 [] [.var 4,.bin .mod (.idx (.var 1) (.cst (.int 8))) (.cst (.int 60)),.var 11])])) e bL e:=by
  have y:Run (JP Γ (.cmp .eq (.bi .len [.var 4]) (.cst (.int 60)))) e (b7 (rows.length=60)) e:=aU (cA (aa (ax rfl) af) ∅ a) ai trivial (eI (by rw[oT];simp;lia));by_cases L:rows.length=60
  .rw[ŗ L]at y;have h8:=cW g 8;let k:Nat:=(dd ds 8 % 60).toNat;have hk:dd ds 8 % 60=(k:Nat):=(NK ⋯).symm;have gk:Run (ev Γ (.bin .mod (.idx (.var 1) (.cst (.int 8))) (.cst (.int 60)))) e (.loc,.int (k:Nat)) e:=by
    rw[<-hk];show bb (aQ (ax rfl) ai ∅ (aD (l 8 ⋯))) ai trivial (bE (by decide))
   show jE (pZ y (dC (mQ (c:=a8) (qp (r1:=[]) (r2:=[(.bor 4,lb rows),(.loc,.int (k:Nat)),(.bor 11,.lst ((M0 names).map .str))]) (u0:=tb rows) (us0:=JR (J8 rows)) (u:=tb rows) (us:=JR (J8 rows)) (u':=tb rows) (us':=JR (J8 rows)) rfl af (aa (ax rfl) (aa gk (aa (ax rfl) af))) #[#[.own,rfl,rfl],#[.own,rfl,rfl],trivial] rfl (Mx rows k o L ⋯) (.inr rfl) (ki _)))))
  .rw[Ŗ L]at y;show jE (uh y)
 have(PQ,RY):=A1 (Γ:=Γ) (ns:=ns) (ds:=ds) (names:=names) (o5:=C) (o6:=D) (o7:=v) (o8:=G) (o9:=I) (o10:=J) (o11:=Q) H b;have el:((rows.map JD).map λu=>(kE (.bor 4),u))=rows.map λr=>(Kd.loc,JD r):=by rw[i6];rfl
 have et:((T.map tU).map λu=>(kE .own,u))=T.map λt=>(Kd.loc,tU t):=by rw[i6];rfl
 show aH rfl (.inr rfl) JI (az (aP (aa (aP (aa (au rfl) (aa ai af)) trivial hc) (aa ai af)) trivial J1) aV (az (aP (aa (au rfl) (aa ai (aa (bb ai (bb (aQ (ax rfl) ai ∅ (aD (l 0 ⋯))) ai trivial (bE (by decide))) trivial dr) af))) trivial N0) aV (Gq (bT (mQ (c:=a8) (qp (r1:=[]) (r2:=[(.loc,.str "back"),(.loc,.str ""),(.own,.lst []),(.loc,.int 3)]) (u0:=tb []) (us0:=JR []) (u:=tb []) (us:=JR []) (u':=tb []) (us':=JR []) rfl af (aa ai (aa ai (aa dm (aa ai af)))) trivial rfl H.pY (.inr rfl) (ki _))) (λz=>by cases z) λ_=>az (aP (rs:=[(.any,.lst (ns.map .int)),(.bor 2,.lst (names.map .str)),(.loc,.int (dd ds 1 % 41)),(.loc,.bl (dd ds 2 % 4==1))]) (aa (au rfl) (aa (ax rfl) (aa (bb (aQ (ax rfl) ai ∅ (aD (l 1 ⋯))) ai trivial (bE (by decide))) (aa (f_ (bb (aQ (ax rfl) ai ∅ (aD (l 2 ⋯))) ai trivial (bE (by decide))) ai trivial (eI rfl)) af)))) ∅ A) aV
  (dR (rs:=[(.bor 4,lb rows)]) (st1:=LW ns ds names rows [] [] bD bD bD bD bD bD bD bD) (aa (ax rfl) af) ∅ (by change a5 (S6 (λu=>(kE (.bor 4),u)) _)=_;rw[el]) rfl We
   (az (AZ H b) aV (bT t7 (λz=>by cases z) λ_=>dR gb trivial (by change a5 (S6 (λu=>(kE .own,u)) _)=_;rw[et]) rfl Wf
    (az (st1:=LW ns ds names rows rows (J8 rows) C D v G I J bD bD) (vV (.inl rfl) rfl) aV (bT V_ (λz=>by cases z) λ_=>bT (A0 H b) (λz=>by cases z) λ_ =>
     dR (rs:=[(.loc,.int (rows.length:Nat))]) (aa (cA (aa (ax rfl) af) ∅ a) af) trivial (qa ⋯) rfl RY (bp (zR (qf (p:=a8) (q:=a8) (GK H) λ_=>qf (p:=a8) (q:=a8) (f_ (eM (rs:=[]) (u0:=tb []) (us0:=JR []) (u:=tb []) (us:=JR []) (u':=tb []) (us':=JR []) rfl af trivial rfl (H.bk [] []) (.inr rfl)) (cR (rs:=[]) (us:=[]) af trivial aB (ki _)) trivial (uH (qw 47 []))) λ_=>uf (f_ (eM (rs:=[]) (u0:=tb []) (us0:=JR []) (u:=tb []) (us:=JR []) (u':=tb []) (us':=JR []) rfl af trivial rfl (H.de [] []) (.inr rfl)) ai trivial (eI rfl)))) cw))))))))))
end
def makers:Aa prog:=#[rfl,rfl,rfl,rfl,rfl,rfl]
def lrn:Xy prog:=#[rfl,rfl,rfl,rfl,rfl]
def XR(n:Nat):V2 (J9 prog (n+5)) "learnt":=λrs h=>by
 have(f,a,b,c):=C2 lrn n (λr d=>dH (h.ok r d)) (λr d=>nu (h.ok r d)) h.ln;have e:=vS (Kn.of a);rw[e];show#[?_,(aF (show J3 prog "learnt" KL.fD from rfl) _).trans (KL.fW ⋯ c)];rw[(cB _).length_eq,b8];lia
def JA(n:Nat):Iu (J9 prog (n+1)):=λrs h=>by
 have(L,l,a,b,c,d):=K.fW (Γ:=J9 prog n) (λr f=>dH (h.ok r f)) h.ln;have e:=vS #[a,b,c];rw[e];show#[?_,(aF (show J3 prog "_law_learnt" d9 from rfl) _).trans d];rw[(cB _).length_eq];show l
def JB(n:Nat):∀a b,Bk a->Bk b->J9 prog (n+6) "gained_and_lost" [tb a,tb b]=a5 (.ok (.loc,Ll a b)):=λa b c d=>(aF (show J3 prog "gained_and_lost" cz from rfl) _).trans (Gv (XR n) c d)
def XS(n:Nat):V3 (J9 prog (n+7)):=λrs a p h h'=>(aW (show J3 prog "Shelf.turn_to" dk from rfl) _ rfl).trans (As (JB n) h h')
def XT(n:Nat):V4 (J9 prog (n+8)):=λrs b p h h' a=>(aW (show J3 prog "Shelf.do_deed" di from rfl) _ rfl).trans (Au (XS n) h h' a)
def RZ(n:Nat):PK (J9 prog (n+3)):=λrs r h a=>(aF (show J3 prog "places_alike" dh from rfl) _).trans (K.jd (λr s b c=>(aF (show J3 prog "alike" jM from rfl) _).trans (xG (λr h=>(aF (show J3 prog "in_one_order" cD from rfl) _).trans (C7 h)) b c)) h a)
def A2(d:Nat):qt (J9 prog (d+2)) "is_word":=λx h=>(aF (show J3 prog "is_word" iz from rfl) _).trans (Ap (λx a=>(aF (show J3 prog "is_stem" iy from rfl) _).trans (Am a)) (λy=>(aF (show J3 prog "is_later_sense" cH from rfl) _).trans xD)
 (λx hl=>(aF (show J3 prog "stem_of" kq from rfl) _).trans (An rfl hl rfl)) (λx hl=>(aF (show J3 prog "number_of" gZ from rfl) _).trans (An rfl hl rfl)) h)
def rws(n:Nat):ny (J9 prog (n+3)):=λr h=>(aF (show J3 prog "is_row" jL from rfl) _).trans (C6 (A2 n) h)
def ID(n:Nat):SH (J9 prog (n+10)) where
 bk:=λrs p=>(aW (show J3 prog "Shelf.book" fE from rfl) _ rfl).trans Av
 ln:=λrs p h=>(aW (show J3 prog "Shelf.learnt_now" cm from rfl) _ rfl).trans (Aw (XR (n+4)) h)
 de:=λrs p=>(aW (show J3 prog "Shelf.deeds" eN from rfl) _ rfl).trans xF
 put:=λrs x p a b c d e f=>(aW (show J3 prog "Shelf.put" cE from rfl) _ rfl).trans (C_ (RZ (n+6)) (rws (n+6)) (XT (n+1)) a b c d e f)
 XF:=λa b x p j k l o=>(aW (show J3 prog "Shelf.take" cZ from rfl) _ rfl).trans (AD (ts:=x.2) (RZ (n+6)) (XT (n+1)) j k rfl (by have:=dH (j.ok x (by simp));lia) l o)
 Qw:=λrs q p a b=>(aW (show J3 prog "Shelf.back" c7 from rfl) _ rfl).trans (Ax (XS (n+2)) a b)
 ref:=λrs p t b h=>by
  have(i,(w,ts),d):=t;obtain⟨m,⟨e,⟨h,g⟩|⟨⟨j,k,l⟩,g⟩⟩|⟨e,h,g⟩⟩:=h
  .have e:i="put":=e;have g:d=0:=g;subst e g;show(aW (show J3 prog "_law_refused" aG from rfl) _ rfl).trans (rX (d:=0) ⋯ ((aW (show J3 prog "Shelf.put" cE from rfl) _ rfl).trans (AA (RZ (n+5)) (rws (n+5)) b m h)))
  .have e:i="put":=e;have g:d=1:=g;subst e g;show(aW (show J3 prog "_law_refused" aG from rfl) _ rfl).trans (rX (d:=1) ⋯ ((aW (show J3 prog "Shelf.put" cE from rfl) _ rfl).trans (AB (RZ (n+5)) (rws (n+5)) b m j k l)))
  .have e:i="take":=e;have g:d=2:=g;subst e g;show(aW (show J3 prog "_law_refused" aG from rfl) _ rfl).trans (AH (d:=2) ⋯ ((aW (show J3 prog "Shelf.take" cZ from rfl) _ rfl).trans (xH (RZ (n+5)) b (by have:=m.ln;lia) h)))
 pY:=(aW (show J3 prog "_law_refused" aG from rfl) _ rfl).trans (AI (d:=3) (ts:=[]) ⋯ ((aW (show J3 prog "Shelf.back" c7 from rfl) _ rfl).trans (xI [])))
 Wc:=λa b h h'=>(aF (show J3 prog "_law_turn" fX from rfl) _).trans (xK (JA (n+8)) h h')
def pure(ns:List Int)(A:ns.length<=63):J9 prog 12 "law" [zJ ns]=a5 (.ok (.loc,.bl a8)):=by
 have(z,hz):=(makers.m6:kg (J9 prog 11)) ns 0 ⋯;have(ds,r,p,s):=(makers.drawnOk:ir (J9 prog 11)) z 9 ⋯;have B:=cW p 0;have(names,C,D,h,q):=(makers.namesOk:qe (J9 prog 11)) ns 1 (1+dd ds 0 % 14).toNat ⋯ ⋯;rw[NK ⋯]at q;have i:0<names.length:=by lia
 have j:names.length<=14:=by lia
 show(aF (show J3 prog "law" nq from rfl) _).trans (Dm (ID 1) h i j r p hz s q (λm f e g=>?_) (λrows es e g n t=>?_) λrows k e g n=>?_)
 .have(rows,b1,o,b3):=AK (Γ:=J9 prog 10) (ns:=ns) (full:=f) makers.m6 makers.drawnOk (TM.Gb makers.told) (λrs x a b c=>(aF (show J3 prog "_law_stands" d0 from rfl) _).trans (rW a b c)) i h e g;show#[rows,b1,o,(aF (show J3 prog "_law_rows" dG from rfl) _).trans b3]
 .have(T,b1,o,b3):=Dg (Γ:=J9 prog 10) e g h i j n t;show#[T,b1,o,(aF (show J3 prog "_law_bad" ei from rfl) _).trans b3]
 .have(a,b,c,d,l,u,v,w,G,H,y):=qz j;rw[u];show(aW (show J3 prog "_law_room_again" bU from rfl) _ rfl).trans (AY (ID 0) e g n v w y)
end K
namespace K
open PySem L2 TM PySem.W PyProof.Rows
def hl:LeftO PySem.Challenge.rw_primer_k53_shelves_refused.row.prog vw loo xt hk.obs hk.val 4000:=λw=>by
 have(s,e,a):=gi.mp (M6 w);have b:=Mz w;have c:=Ql w;rw[e]at b c;change(oe w).map _=_;rw[e];show Ś a5 (Vj (Vj a (ti b)) (ti c))
def hs:PySem.Challenge.rw_primer_k53_shelves_refused.wellSaid=a8:=by kernel_rfl
def ho(P:U0):ND ck top (Kz top (gx P) ms) ms=a8:=by kernel_rfl
def hox(P:U0):((gX ck (Kz top (gx P) ms)&&gY ck (Kz top (gx P) ms))&&SY top (Kz top (gx P) ms) ms)=a8:=by kernel_rfl
end K
open PySem PySem.W PyProof.Rows K
theorem PySem.Challenge.cw_primer_k53_shelves_refused_holds : PySem.Challenge.rw_primer_k53_shelves_refused.Holds := by
 w_on
 refine holds_law hs λz => ?_;refine holds_open hl hk.of hk.keeps (λs e => xl_of s (rl.mp e).1) XL.keeps rfl rfl rfl (λs e => recFacts_of (rl.mp e).2) rfl z (by kernel_rfl) ⟨rfl, rfl, rfl, rfl, rfl, by decide +kernel⟩ ?hw ?a
 (case hw => w_witness2)
 exact TM.walk2 (l := PySem.Challenge.rw_primer_k53_shelves_refused) (Pg := prog) (ck := ck) (dp := 11) (x := "_law_script") (m := ml) rfl rfl ⟨rfl, by decide, by decide, rfl⟩ rfl (by decide +kernel) (by decide +kernel) rfl rfl (Y0.mpr ⟨39, rfl⟩) rfl rfl rfl ho (by decide +kernel) hox (λ_ => rfl) K.pure
